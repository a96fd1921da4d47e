/- Frames on streams: NextMbap, of the program. -/
import Derived.Test.YtbdlppihiffjgaaMb2
namespace Go.Proofs.Ytbdlppihiffjgaa
open Go.RowKit

set_option linter.unusedVariables false

set_option linter.unusedSimpArgs false

theorem bel_set3 {B : Nat} {W w : World} {g : Nat} {v0 v1 v2 : Value} (hb : Below B W w) (hg : B ≤ g) : Below B W (((w.setCell ⟨g, 0, none⟩ v0).setCell ⟨g, 1, none⟩ v1).setCell ⟨g, 2, none⟩ v2) :=
  ((hb.setCell (p := ⟨g, 0, none⟩) hg _).setCell (p := ⟨g, 1, none⟩) hg _).setCell (p := ⟨g, 2, none⟩) hg _

/-- What is told of the first frame. -/
def nxC (bs : List Int) : Int := if nxM bs = false then 2 else if bs.length < 6 ∨ (bs.length : Int) < 6 + wAt bs 4 then 0 else 1

def nxN (bs : List Int) : Int := if nxC bs = 1 then wAt bs 0 else 0

def nxU (bs : List Int) : Int := if nxC bs = 1 then bs.getD 6 0 else 0

def nxP (bs : List Int) : List Int := if nxC bs = 1 then (bs.drop 7).take ((wAt bs 4).toNat - 1) else []

def nxK (bs : List Int) : Int := if nxC bs = 1 then 6 + wAt bs 4 else 0

theorem nxC_bad {bs : List Int} (h : nxM bs = false) : nxC bs = 2 := by unfold nxC; rw [if_pos h]

theorem nxC_wait {bs : List Int} (h : nxM bs = true) (h2 : bs.length < 6 ∨ (bs.length : Int) < 6 + wAt bs 4) : nxC bs = 0 := by unfold nxC; rw [h, if_neg (by decide), if_pos h2]

theorem nxC_good {bs : List Int} (h : nxM bs = true) (h2 : ¬ (bs.length < 6 ∨ (bs.length : Int) < 6 + wAt bs 4)) : nxC bs = 1 := by unfold nxC; rw [h, if_neg (by decide), if_neg h2]

theorem nxC_one {bs : List Int} (h : nxC bs = 1) : nxM bs = true ∧ 6 ≤ bs.length ∧ 6 + wAt bs 4 ≤ (bs.length : Int) ∧ 2 ≤ wAt bs 4 ∧ wAt bs 4 ≤ 254 ∧ bs.getD 2 0 = 0 ∧ bs.getD 3 0 = 0 := by
  unfold nxC at h
  by_cases hm : nxM bs = false
  · rw [if_pos hm] at h; exact absurd h (by decide)
  · rw [if_neg hm] at h
    by_cases h2 : bs.length < 6 ∨ (bs.length : Int) < 6 + wAt bs 4
    · rw [if_pos h2] at h; exact absurd h (by decide)
    · have ht : nxM bs = true := by simpa using hm
      have := of_decide_eq_true ht
      refine ⟨ht, by omega, by omega, ?_⟩
      rcases this with ⟨a, b, c⟩
      have : 2 ≤ wAt bs 4 ∧ wAt bs 4 ≤ 254 := c.resolve_left (by omega)
      exact ⟨this.1, this.2, a, b⟩

theorem nx_bad {bs : List Int} {k : Int} (h : nxC bs = k) (hk : k ≠ 1) : nxN bs = 0 ∧ nxU bs = 0 ∧ nxP bs = [] ∧ nxK bs = 0 := by
  unfold nxN nxU nxP nxK; rw [h, if_neg hk, if_neg hk, if_neg hk, if_neg hk]; exact ⟨rfl, rfl, rfl, rfl⟩

theorem nx_good {bs : List Int} (h : nxC bs = 1) : nxN bs = wAt bs 0 ∧ nxU bs = bs.getD 6 0 ∧ nxP bs = (bs.drop 7).take ((wAt bs 4).toNat - 1) ∧ nxK bs = 6 + wAt bs 4 := by
  unfold nxN nxU nxP nxK; rw [if_pos h, if_pos h, if_pos h, if_pos h]; exact ⟨rfl, rfl, rfl, rfl⟩

set_option maxRecDepth 20000 in
set_option maxHeartbeats 1000000 in
theorem firstFrame_no (a : Option Addr) (l c : Nat) (bs : List Int) (w : World) (hn : l = bs.length) (hlc : l ≤ c) (hs : Sl w a bs) (hr : ∀ z ∈ bs, 0 ≤ z ∧ z ≤ 255) (hl : bs.length ≤ 2000000) (k : Int) (hk : nxC bs = k) (hk1 : k ≠ 1) :
    Calls Try.prog 41 #[.slice a l c] w fun e w' => e = .returned (.tuple #[.slice none 0 0, .int .i64 k]) ∧ Below w.heap.size w w' := by
  have HN : Hid (l = bs.length) := hn
  have HS : Hid (Sl w a bs) := hs
  have HR : Hid (∀ z ∈ bs, 0 ≤ z ∧ z ≤ 255) := hr
  have HL : Hid (bs.length ≤ 2000000) := hl
  have HLC : Hid (l ≤ c) := hlc
  have hl2 : l ≤ 2000000 := by omega
  cases hm : nxM bs
  · obtain rfl : k = 2 := by rw [← hk]; exact nxC_bad hm
    have HM : Hid (nxM bs = false) := hm
    clear hn hs hr hl hk hk1 hm
    go_enter Try.func41, Try.ntmps41
    go_wp2_with fail
    refine (mayBegin_any _ _ _ bs _ HN.out HLC.out HS.out HR.out HL.out false HM.out).mono ?_
    rintro e w1 ⟨rfl, b1⟩
    go_wp2_with fail
    go_ret2
    exact ⟨rfl, b1⟩
  · have h2 : bs.length < 6 ∨ (bs.length : Int) < 6 + wAt bs 4 := by
      by_cases h2 : bs.length < 6 ∨ (bs.length : Int) < 6 + wAt bs 4
      · exact h2
      · exact absurd ((hk.symm.trans (nxC_good hm h2))) hk1
    obtain rfl : k = 0 := by rw [← hk]; exact nxC_wait hm h2
    have HM : Hid (nxM bs = true) := hm
    have hbd := wAt_bd hr 4
    have H2 : Hid (bs.length < 6 ∨ (bs.length : Int) < 6 + wAt bs 4) := h2
    clear hn hs hr hl hk hk1 hm h2
    go_enter Try.func41, Try.ntmps41
    go_wp2_with fail
    refine (mayBegin_any _ _ _ bs _ HN.out HLC.out HS.out HR.out HL.out true HM.out).mono ?_
    rintro e w1 ⟨rfl, b1⟩
    go_wp2_with fail
    refine (implWordAt_q _ _ _ bs 4 4 _ rfl HN.out (HS.out.below b1) HR.out hl2).mono ?_
    rintro e w2 ⟨rfl, b2'⟩
    have b2 := bel_next b1 b2'
    by_cases h6 : 4 + 2 ≤ bs.length
    · rw [decide_eq_true h6]
      have h7 : (l : Int) < 6 + wAt bs 4 := by have := H2.out; have := HN.out; omega
      clear H2
      generalize wAt bs 4 = x at *
      go_wp2_with fail
      go_ret2
      exact ⟨rfl, b2⟩
    · rw [decide_eq_false h6]
      clear H2
      generalize wAt bs 4 = x at *
      go_wp2_with fail
      go_ret2
      exact ⟨rfl, b2⟩

set_option maxRecDepth 20000 in
set_option maxHeartbeats 1000000 in
theorem firstFrame_yes (b off : Nat) (l c s : Nat) (bs : List Int) (w : World) (hn : l = bs.length) (hlc : l ≤ c) (hs : Sl w (some ⟨b, off, none⟩) bs) (hr : ∀ z ∈ bs, 0 ≤ z ∧ z ≤ 255) (hl : bs.length ≤ 2000000) (hk : nxC bs = 1) (hsz : (s : Int) = 6 + wAt bs 4) :
    Calls Try.prog 41 #[.slice (some ⟨b, off, none⟩) l c] w fun e w' => e = .returned (.tuple #[.slice (some ⟨b, off, none⟩) s s, .int .i64 1]) ∧ Below w.heap.size w w' := by
  have HN : Hid (l = bs.length) := hn
  have HS : Hid (Sl w (some ⟨b, off, none⟩) bs) := hs
  have HR : Hid (∀ z ∈ bs, 0 ≤ z ∧ z ≤ 255) := hr
  have HL : Hid (bs.length ≤ 2000000) := hl
  have HLC : Hid (l ≤ c) := hlc
  have hl2 : l ≤ 2000000 := by omega
  have O := nxC_one hk
  have HM : Hid (nxM bs = true) := O.1
  have h6 : 4 + 2 ≤ bs.length := by omega
  have D6 : Hid (decide (4 + 2 ≤ bs.length) = true) := decide_eq_true h6
  have hx : wAt bs 4 = (s : Int) - 6 := by omega
  have HX : Hid (wAt bs 4 = (s : Int) - 6) := hx
  have i1 : ¬ ((l : Int) < (s : Int)) := by omega
  have i2 : (s : Int) ≤ (l : Int) := by omega
  have i3 : (s : Int) ≤ (c : Int) := by omega
  have i4 : (0 : Int) ≤ (s : Int) := by omega
  have i5 : (6 : Int) + ((s : Int) - 6) = (s : Int) := by omega
  have i6 : IntKind.i64.wrap (6 + ((s : Int) - 6)) = (s : Int) := by rw [IntKind.wrap_i64]; omega
  have i7 : IntKind.i64.wrap (s : Int) = (s : Int) := by rw [IntKind.wrap_i64]; omega
  clear hn hs hr hl hk O h6 hsz hx
  go_enter Try.func41, Try.ntmps41
  go_wp2_with fail
  refine (mayBegin_any _ _ _ bs _ HN.out HLC.out HS.out HR.out HL.out true HM.out).mono ?_
  rintro e w1 ⟨rfl, b1⟩
  go_wp2_with fail
  refine (implWordAt_q _ _ _ bs 4 4 _ rfl HN.out (HS.out.below b1) HR.out hl2).mono ?_
  rintro e w2 ⟨rfl, b2'⟩
  have b2 := bel_next b1 b2'
  rw [D6.out, HX.out]
  go_wp2_with fail
  go_ret2
  exact ⟨rfl, b2⟩

set_option maxRecDepth 20000 in
set_option maxHeartbeats 1000000 in
theorem boxOf_any (b off : Nat) (s : Nat) (bs : List Int) (w : World) (hn : s ≤ bs.length) (h8 : 8 ≤ s) (hs : Sl w (some ⟨b, off, none⟩) bs) (hr : ∀ z ∈ bs, 0 ≤ z ∧ z ≤ 255) (hl : bs.length ≤ 2000000) :
    Calls Try.prog 40 #[.slice (some ⟨b, off, none⟩) s s] w fun e w' => e = .returned (.agg #[.int .i64 (wAt bs 0), .int .i64 (bs.getD 6 0), .slice (some ⟨b, off + 7, none⟩) (s - 7) (s - 7)]) ∧ Below w.heap.size w w' := by
  obtain ⟨b', off', e', hb0, hc6⟩ := cell_at hs (k := 6) (by omega)
  simp only [Option.some.injEq, Addr.mk.injEq, and_true] at e'
  obtain ⟨rfl, rfl⟩ := e'
  have HS : Hid (Sl w (some ⟨b, off, none⟩) (bs.take s)) := by
    show Sl w (some ⟨b, off, none⟩) (bs.take s)
    rcases hs with h | ⟨b', off', ha, hb, hc⟩
    · exact .inl (by rw [h]; simp)
    · refine .inr ⟨b', off', ha, hb, fun i hi => ?_⟩
      have hi' : i < bs.length := by simp at hi; omega
      have hm : i < s := by simp at hi; omega
      rw [List.getD_eq_getElem?_getD, List.getElem?_take, if_pos hm, ← List.getD_eq_getElem?_getD]
      exact hc i hi'
  have HR : Hid (∀ z ∈ bs.take s, 0 ≤ z ∧ z ≤ 255) := fun z hz => hr z (List.mem_of_mem_take hz)
  have HN : Hid (s = (bs.take s).length) := hide (by simp; omega)
  have HW : Hid (wAt (bs.take s) 0 = wAt bs 0) := by
    show wAt (bs.take s) 0 = wAt bs 0
    unfold wAt
    rw [if_pos (by simp; omega), if_pos (by omega)]
    simp [List.getElem?_take, show 0 < s by omega, show 1 < s by omega]
  have rg := get_range hr 6
  have hs2 : s ≤ 2000000 := by omega
  clear hs hr hn hl
  generalize bs.getD 6 0 = z at *
  generalize wAt bs 0 = x at *
  have iz : IntKind.i64.wrap z = z := by rw [IntKind.wrap_i64]; omega
  have i7 : (7 : Int) ≤ (s : Int) := by omega
  have i8 : ¬ s = 7 := by omega
  go_enter Try.func40, Try.ntmps40
  go_wp2_with fail
  have B0 := bel_alloc w (.cells #[.int .i64 0, .int .i64 0, .slice none 0 0] 56)
  have K0 := Blk.new w #[.int .i64 0, .int .i64 0, .slice none 0 0] 56
  refine (implWordAt_q _ _ _ (bs.take s) 0 0 _ rfl HN.out (HS.out.below B0) HR.out hs2).mono ?_
  rintro e w1 ⟨rfl, b1'⟩
  rw [HW.out]
  have b1 := bel_next B0 b1'
  have K1 := K0.below b1'
  have c6 : w1.cell? ⟨b, off + 6, none⟩ = some (.int .u8 z) := (b1.cell (p := ⟨b, off + 6, none⟩) hb0).trans hc6
  have k0 := K1.cell 0 rfl
  have k1 := K1.cell 1 rfl
  have k2 := K1.cell 2 rfl
  have f0 := K1.fro 0
  have f1 := K1.fro 1
  have f2 := K1.fro 2
  have hne : ¬ b = w.heap.size := by omega
  have hne' : ¬ w.heap.size = b := by omega
  clear hc6 K0 K1 b1' B0
  go_wp2_with fail
  go_region
  all_goals go_wp2
  all_goals refine bodyPost_ret (v := .agg #[.int .i64 x, .int .i64 z, .slice (some ⟨b, off + 7, none⟩) (s - 7) (s - 7)]) (by simp [results, Try.results40, go_sem, k0, k1, k2]) rfl ?_
  all_goals exact ⟨rfl, (bel_set3 b1 (Nat.le_refl _)).drew⟩

/-- What NextMbap answers. -/
def GM (w w' : World) (e : Ending) (nu un : Int) (ps : List Int) (k code : Int) : Prop :=
  ∃ a c n, e = .returned (.tuple #[.int .i64 nu, .int .i64 un, .slice a n c, .int .i64 k, .int .i64 code]) ∧ n = ps.length ∧ Own w' w.heap.size (.slice a n c) ps ∧ Below w.heap.size w w'

theorem gm_nil (w w' : World) (k : Int) (bs : List Int) (h : nxC bs = k) (hk : k ≠ 1) (hb : Below w.heap.size w w') : GM w w' (.returned (.tuple #[.int .i64 0, .int .i64 0, .slice none 0 0, .int .i64 0, .int .i64 k])) (nxN bs) (nxU bs) (nxP bs) (nxK bs) (nxC bs) := by
  obtain ⟨e1, e2, e3, e4⟩ := nx_bad h hk
  rw [e1, e2, e3, e4, h]
  exact ⟨_, _, _, rfl, rfl, ⟨rfl, .inl ⟨rfl, rfl⟩⟩, hb⟩

theorem gm_lit (w w' : World) (k : Int) (bs : List Int) (h : nxC bs = k) (hk : k ≠ 1) (hb : Below w.heap.size w w') : GM w (w'.alloc (.cells #[] 5)) (.returned (.tuple #[.int .i64 0, .int .i64 0, .slice (some ⟨w'.heap.size, 0, none⟩) 0 0, .int .i64 0, .int .i64 k])) (nxN bs) (nxU bs) (nxP bs) (nxK bs) (nxC bs) := by
  obtain ⟨e1, e2, e3, e4⟩ := nx_bad h hk
  rw [e1, e2, e3, e4, h]
  exact ⟨_, _, _, rfl, rfl, ⟨rfl, .inr ⟨w'.heap.size, 0, #[], rfl, hb.size, Blk.new w' #[] 5, by simp, by simp, rfl, rfl⟩⟩, bel_next hb (bel_alloc _ _)⟩

theorem Sl.takeM {w : World} {a : Option Addr} {zs : List Int} (h : Sl w a zs) (m : Nat) : Sl w a (zs.take m) := by
  rcases h with h | ⟨b, off, ha, hb, hc⟩
  · exact .inl (by rw [h]; simp)
  · refine .inr ⟨b, off, ha, hb, fun i hi => ?_⟩
    have hi' : i < zs.length := by simp at hi; omega
    have hm : i < m := by simp at hi; omega
    rw [List.getD_eq_getElem?_getD, List.getElem?_take, if_pos hm, ← List.getD_eq_getElem?_getD]
    exact hc i hi'

theorem Sl.dropM {w : World} {b off k : Nat} {zs : List Int} (h : Sl w (some ⟨b, off, none⟩) zs) : Sl w (some ⟨b, off + k, none⟩) (zs.drop k) := by
  rcases h with h | ⟨b', off', ha, hb, hc⟩
  · exact .inl (by rw [h]; simp)
  · simp at ha
    obtain ⟨rfl, rfl⟩ := ha
    refine .inr ⟨b, off + k, rfl, hb, fun i hi => ?_⟩
    have := hc (i + k) (by simp at hi; omega)
    rw [show off + k + i = off + (i + k) by omega, this]
    simp [List.getD_eq_getElem?_getD, List.getElem?_drop, Nat.add_comm]

set_option maxRecDepth 20000 in
set_option maxHeartbeats 2000000 in
theorem implNextMbap_any (a : Option Addr) (l c : Nat) (bs : List Int) (w : World) (hn : l = bs.length) (hlc : l ≤ c) (hs : Sl w a bs) (hr : ∀ z ∈ bs, 0 ≤ z ∧ z ≤ 255) (hl : bs.length ≤ 2000000) :
    Calls Try.prog 20 #[.slice a l c] w fun e w' => GM w w' e (nxN bs) (nxU bs) (nxP bs) (nxK bs) (nxC bs) := by
  have HN : Hid (l = bs.length) := hn
  have HS : Hid (Sl w a bs) := hs
  have HR : Hid (∀ z ∈ bs, 0 ≤ z ∧ z ≤ 255) := hr
  have HL : Hid (bs.length ≤ 2000000) := hl
  have HLC : Hid (l ≤ c) := hlc
  have hl2 : l ≤ 2000000 := by omega
  by_cases hk : nxC bs = 1
  case neg =>
    have R : Hid (∀ w', Below w.heap.size w w' → GM w w' (.returned (.tuple #[.int .i64 0, .int .i64 0, .slice none 0 0, .int .i64 0, .int .i64 (nxC bs)])) (nxN bs) (nxU bs) (nxP bs) (nxK bs) (nxC bs)) := fun w' hb => gm_nil w w' _ bs rfl hk hb
    have HK : Hid (nxC bs ≠ 1) := hk
    have hk' : (nxC bs != 1) = true := by simpa using hk
    have F := firstFrame_no a l c bs w hn hlc hs hr hl _ rfl hk
    generalize nxC bs = k at *
    clear hn hs hr hl
    go_enter Try.func20, Try.ntmps20
    go_wp2_with fail
    refine F.mono ?_
    rintro e w1 ⟨rfl, b1⟩
    clear F hk
    go_wp2_with fail
    refine bodyPost_ret (v := .tuple #[.int .i64 0, .int .i64 0, .slice none 0 0, .int .i64 0, .int .i64 k]) (by simp [results, Try.results20, go_sem]) rfl ?_
    exact R.out _ b1
  have O := nxC_one hk
  obtain ⟨b, off, rfl, hb0, hc0⟩ := cell_at hs (k := 6) (by omega)
  obtain ⟨s, hsz⟩ : ∃ s : Nat, (s : Int) = 6 + wAt bs 4 := ⟨(6 + wAt bs 4).toNat, by omega⟩
  have F := firstFrame_yes b off l c s bs w hn hlc hs hr hl hk hsz
  have h8 : 8 ≤ s := by omega
  have hsl : s ≤ bs.length := by omega
  have HSZ : Hid (s ≤ bs.length ∧ 8 ≤ s) := ⟨hsl, h8⟩
  obtain ⟨e1, e2, e3, e4⟩ := nx_good hk
  have eP : (wAt bs 4).toNat - 1 = s - 7 := by omega
  have R : Hid (∀ m g w1 w2, m = s - 7 → Below w.heap.size w w1 → Own w2 w1.heap.size (.slice (some ⟨g, 0, none⟩) m m) ((bs.drop 7).take (s - 7)) → Below w1.heap.size w1 w2 → GM w w2 (.returned (.tuple #[.int .i64 (wAt bs 0), .int .i64 (bs.getD 6 0), .slice (some ⟨g, 0, none⟩) m m, .int .i64 s, .int .i64 1])) (nxN bs) (nxU bs) (nxP bs) (nxK bs) (nxC bs)) := by
    intro m g w1 w2 hm hb1 o2 hb2
    rw [e1, e2, e3, e4, hk, eP, ← hsz]
    exact ⟨_, _, _, rfl, by rw [hm]; simp; omega, o2.monoT hb1.size, bel_next hb1 hb2⟩
  have HP : Hid (s - 7 = ((bs.drop 7).take (s - 7)).length) := hide (by simp; omega)
  have S7 : Hid (Sl w (some ⟨b, off + 7, none⟩) ((bs.drop 7).take (s - 7))) := (Sl.dropM HS.out).takeM _
  clear hn hs hr hl O e1 e2 e3 e4 eP hsz hc0 hk
  go_enter Try.func20, Try.ntmps20
  go_wp2_with fail
  refine F.mono ?_
  rintro e w1 ⟨rfl, b1⟩
  clear F
  go_wp2_with fail
  refine (boxOf_any b off s bs _ HSZ.out.1 HSZ.out.2 (HS.out.below b1) HR.out HL.out).mono ?_
  rintro e w2 ⟨rfl, b2'⟩
  have b2 := bel_next b1 b2'
  generalize wAt bs 0 = x at *
  generalize bs.getD 6 0 = z at *
  clear b2' b1
  go_upto_region 5 with fail
  obtain ⟨W, hW⟩ : ∃ W, W = w2.alloc (.cells #[.int .i64 x, .int .i64 z, .slice (some ⟨b, off + 7, none⟩) (s - 7) (s - 7)] 56) := ⟨_, rfl⟩
  rw [← hW]
  have BW : Below w2.heap.size w2 W := by rw [hW]; exact bel_alloc _ _
  have K : Blk W w2.heap.size 56 #[.int .i64 x, .int .i64 z, .slice (some ⟨b, off + 7, none⟩) (s - 7) (s - 7)] := by rw [hW]; exact Blk.new _ _ _
  have b3 := bel_next b2 BW
  have HB : Hid (Below w.heap.size w W) := b3
  have S8 : Hid (Sl W (some ⟨b, off + 7, none⟩) ((bs.drop 7).take (s - 7))) := S7.out.below b3
  clear hW BW b2 b3 S7
  generalize w2.heap.size = G at *
  have k0 := K.cell 0 rfl
  have k1 := K.cell 1 rfl
  have k2 := K.cell 2 rfl
  have HK : Hid (Blk W G 56 #[.int .i64 x, .int .i64 z, .slice (some ⟨b, off + 7, none⟩) (s - 7) (s - 7)]) := K
  have dz : Below W.heap.size W W.drew := (Below.refl _ _).drew
  have HQ : Hid (((bs.drop 7).take (s - 7)).length ≤ 2000000) := hide (by have := HP.out; have := HSZ.out; have := HL.out; omega)
  generalize (bs.drop 7).take (s - 7) = ps at *
  clear K hb0 hsl HN HS HR
  go_region_held3 (fun w' => w'.cell? ⟨G, 0, none⟩ = some (.int .i64 x) ∧ w'.cell? ⟨G, 1, none⟩ = some (.int .i64 z) ∧ w'.cell? ⟨G, 2, none⟩ = some (.slice (some ⟨b, off + 7, none⟩) (s - 7) (s - 7))) (go_keep)
    (first | (go_at_call 38; refine (copyT_any _ _ _ ps _ HP.out (S8.out.below (by first | exact Below.refl _ _ | exact dz)) HQ.out).mono ?_; rintro e w4 ⟨g, rfl, o4, b'⟩; have b4 : Below W.heap.size W w4 := (by first | exact b' | exact bel_next dz b'); have h0 := (HK.out.below b4).cell 0 rfl; have h1 := (HK.out.below b4).cell 1 rfl; have h2 := (HK.out.below b4).cell 2 rfl))
  all_goals go_wp2
  all_goals refine bodyPost_ret (v := .tuple #[.int .i64 x, .int .i64 z, .slice (some ⟨g, 0, none⟩) (s - 7) (s - 7), .int .i64 s, .int .i64 1]) (by simp [results, Try.results20, go_sem]) rfl ?_
  all_goals exact R.out _ _ _ _ rfl HB.out o4 b4

end Go.Proofs.Ytbdlppihiffjgaa

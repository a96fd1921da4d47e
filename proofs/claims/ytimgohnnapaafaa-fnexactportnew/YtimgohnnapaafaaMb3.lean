/- Frames on streams: NextMbap, of the program. -/
import Derived.Test.YtimgohnnapaafaaMb2
namespace Go.Proofs.Ytimgohnnapaafaa
open Go.RowKit

set_option linter.unusedVariables false

set_option linter.unusedSimpArgs false

theorem bel_set3 {B : Nat} {W w : World} {g : Nat} {v0 v1 v2 : Value} (hb : Below B W w) (hg : B ≤ g) : Below B W (((w.setCell ⟨g, 0, none⟩ v0).setCell ⟨g, 1, none⟩ v1).setCell ⟨g, 2, none⟩ v2) :=
  ((hb.setCell (p := ⟨g, 0, none⟩) hg _).setCell (p := ⟨g, 1, none⟩) hg _).setCell (p := ⟨g, 2, none⟩) hg _

/-- What is told of the first frame. -/
def nxC (bs : List Int) : Int := if nxM bs = false then 2 else if bs.length < 6 ∨ (bs.length : Int) < 6 + wAt bs 4 then 0 else 1

def nxN (bs : List Int) : Int := if nxC bs = 1 then wAt bs 0 else 0

def nxU (bs : List Int) : Int := if nxC bs = 1 then bs.getD 6 0 else 0

def nxP (bs : List Int) : List Int := if nxC bs = 1 then (bs.drop 7).take ((wAt bs 4).toNat - 1) else []

def nxK (bs : List Int) : Int := if nxC bs = 1 then 6 + wAt bs 4 else 0

theorem nxC_bad {bs : List Int} (h : nxM bs = false) : nxC bs = 2 := by unfold nxC; rw [if_pos h]

theorem nxC_wait {bs : List Int} (h : nxM bs = true) (h2 : bs.length < 6 ∨ (bs.length : Int) < 6 + wAt bs 4) : nxC bs = 0 := by unfold nxC; rw [h, if_neg (by decide), if_pos h2]

theorem nxC_good {bs : List Int} (h : nxM bs = true) (h2 : ¬ (bs.length < 6 ∨ (bs.length : Int) < 6 + wAt bs 4)) : nxC bs = 1 := by unfold nxC; rw [h, if_neg (by decide), if_neg h2]

theorem nxC_one {bs : List Int} (h : nxC bs = 1) : nxM bs = true ∧ 6 ≤ bs.length ∧ 6 + wAt bs 4 ≤ (bs.length : Int) ∧ 2 ≤ wAt bs 4 ∧ wAt bs 4 ≤ 254 ∧ bs.getD 2 0 = 0 ∧ bs.getD 3 0 = 0 := by
  unfold nxC at h
  by_cases hm : nxM bs = false
  · rw [if_pos hm] at h; exact absurd h (by decide)
  · rw [if_neg hm] at h
    by_cases h2 : bs.length < 6 ∨ (bs.length : Int) < 6 + wAt bs 4
    · rw [if_pos h2] at h; exact absurd h (by decide)
    · have ht : nxM bs = true := by simpa using hm
      have := of_decide_eq_true ht
      refine ⟨ht, by omega, by omega, ?_⟩
      rcases this with ⟨a, b, c⟩
      have : 2 ≤ wAt bs 4 ∧ wAt bs 4 ≤ 254 := c.resolve_left (by omega)
      exact ⟨this.1, this.2, a, b⟩

theorem nx_bad {bs : List Int} {k : Int} (h : nxC bs = k) (hk : k ≠ 1) : nxN bs = 0 ∧ nxU bs = 0 ∧ nxP bs = [] ∧ nxK bs = 0 := by
  unfold nxN nxU nxP nxK; rw [h, if_neg hk, if_neg hk, if_neg hk, if_neg hk]; exact ⟨rfl, rfl, rfl, rfl⟩

theorem nx_good {bs : List Int} (h : nxC bs = 1) : nxN bs = wAt bs 0 ∧ nxU bs = bs.getD 6 0 ∧ nxP bs = (bs.drop 7).take ((wAt bs 4).toNat - 1) ∧ nxK bs = 6 + wAt bs 4 := by
  unfold nxN nxU nxP nxK; rw [if_pos h, if_pos h, if_pos h, if_pos h]; exact ⟨rfl, rfl, rfl, rfl⟩

set_option maxRecDepth 20000 in
set_option maxHeartbeats 1000000 in
theorem firstFrame_no (a : Option Addr) (l c : Nat) (bs : List Int) (w : World) (hn : l = bs.length) (hlc : l ≤ c) (hs : Sl w a bs) (hr : ∀ z ∈ bs, 0 ≤ z ∧ z ≤ 255) (hl : bs.length ≤ 2000000) (k : Int) (hk : nxC bs = k) (hk1 : k ≠ 1) :
    Calls Try.prog 111 #[.slice a l c] w fun e w' => e = .returned (.tuple #[.slice none 0 0, .int .i64 k]) ∧ Below w.heap.size w w' := by
  have HN : Hid (l = bs.length) := hn
  have HS : Hid (Sl w a bs) := hs
  have HR : Hid (∀ z ∈ bs, 0 ≤ z ∧ z ≤ 255) := hr
  have HL : Hid (bs.length ≤ 2000000) := hl
  have HLC : Hid (l ≤ c) := hlc
  have hl2 : l ≤ 2000000 := by omega
  cases hm : nxM bs
  · obtain rfl : k = 2 := by rw [← hk]; exact nxC_bad hm
    have HM : Hid (nxM bs = false) := hm
    clear hn hs hr hl hk hk1 hm
    go_enter Try.func111, Try.ntmps111
    go_wp2_with fail
    refine (mayBegin_any _ _ _ bs _ HN.out HLC.out HS.out HR.out HL.out false HM.out).mono ?_
    rintro e w1 ⟨rfl, b1⟩
    go_wp2_with fail
    go_ret2
    exact ⟨rfl, b1⟩
  · have h2 : bs.length < 6 ∨ (bs.length : Int) < 6 + wAt bs 4 := by
      by_cases h2 : bs.length < 6 ∨ (bs.length : Int) < 6 + wAt bs 4
      · exact h2
      · exact absurd ((hk.symm.trans (nxC_good hm h2))) hk1
    obtain rfl : k = 0 := by rw [← hk]; exact nxC_wait hm h2
    have HM : Hid (nxM bs = true) := hm
    have hbd := wAt_bd hr 4
    have H2 : Hid (bs.length < 6 ∨ (bs.length : Int) < 6 + wAt bs 4) := h2
    clear hn hs hr hl hk hk1 hm h2
    go_enter Try.func111, Try.ntmps111
    go_wp2_with fail
    refine (mayBegin_any _ _ _ bs _ HN.out HLC.out HS.out HR.out HL.out true HM.out).mono ?_
    rintro e w1 ⟨rfl, b1⟩
    go_wp2_with fail
    refine (implWordAt_q _ _ _ bs 4 4 _ rfl HN.out (HS.out.below b1) HR.out hl2).mono ?_
    rintro e w2 ⟨rfl, b2'⟩
    have b2 := bel_next b1 b2'
    by_cases h6 : 4 + 2 ≤ bs.length
    · rw [decide_eq_true h6]
      have h7 : (l : Int) < 6 + wAt bs 4 := by have := H2.out; have := HN.out; omega
      clear H2
      generalize wAt bs 4 = x at *
      go_wp2_with fail
      go_ret2
      exact ⟨rfl, b2⟩
    · rw [decide_eq_false h6]
      clear H2
      generalize wAt bs 4 = x at *
      go_wp2_with fail
      go_ret2
      exact ⟨rfl, b2⟩

set_option maxRecDepth 20000 in
set_option maxHeartbeats 1000000 in
theorem firstFrame_yes (b off : Nat) (l c s : Nat) (bs : List Int) (w : World) (hn : l = bs.length) (hlc : l ≤ c) (hs : Sl w (some ⟨b, off, none⟩) bs) (hr : ∀ z ∈ bs, 0 ≤ z ∧ z ≤ 255) (hl : bs.length ≤ 2000000) (hk : nxC bs = 1) (hsz : (s : Int) = 6 + wAt bs 4) :
    Calls Try.prog 111 #[.slice (some ⟨b, off, none⟩) l c] w fun e w' => e = .returned (.tuple #[.slice (some ⟨b, off, none⟩) s s, .int .i64 1]) ∧ Below w.heap.size w w' := by
  have HN : Hid (l = bs.length) := hn
  have HS : Hid (Sl w (some ⟨b, off, none⟩) bs) := hs
  have HR : Hid (∀ z ∈ bs, 0 ≤ z ∧ z ≤ 255) := hr
  have HL : Hid (bs.length ≤ 2000000) := hl
  have HLC : Hid (l ≤ c) := hlc
  have hl2 : l ≤ 2000000 := by omega
  have O := nxC_one hk
  have HM : Hid (nxM bs = true) := O.1
  have h6 : 4 + 2 ≤ bs.length := by omega
  have D6 : Hid (decide (4 + 2 ≤ bs.length) = true) := decide_eq_true h6
  have hx : wAt bs 4 = (s : Int) - 6 := by omega
  have HX : Hid (wAt bs 4 = (s : Int) - 6) := hx
  have i1 : ¬ ((l : Int) < (s : Int)) := by omega
  have i2 : (s : Int) ≤ (l : Int) := by omega
  have i3 : (s : Int) ≤ (c : Int) := by omega
  have i4 : (0 : Int) ≤ (s : Int) := by omega
  have i5 : (6 : Int) + ((s : Int) - 6) = (s : Int) := by omega
  have i6 : IntKind.i64.wrap (6 + ((s : Int) - 6)) = (s : Int) := by rw [IntKind.wrap_i64]; omega
  have i7 : IntKind.i64.wrap (s : Int) = (s : Int) := by rw [IntKind.wrap_i64]; omega
  clear hn hs hr hl hk O h6 hsz hx
  go_enter Try.func111, Try.ntmps111
  go_wp2_with fail
  refine (mayBegin_any _ _ _ bs _ HN.out HLC.out HS.out HR.out HL.out true HM.out).mono ?_
  rintro e w1 ⟨rfl, b1⟩
  go_wp2_with fail
  refine (implWordAt_q _ _ _ bs 4 4 _ rfl HN.out (HS.out.below b1) HR.out hl2).mono ?_
  rintro e w2 ⟨rfl, b2'⟩
  have b2 := bel_next b1 b2'
  rw [D6.out, HX.out]
  go_wp2_with fail
  go_ret2
  exact ⟨rfl, b2⟩

/-- What NextMbap answers. -/
def GM (w w' : World) (e : Ending) (nu un : Int) (ps : List Int) (k code : Int) : Prop :=
  ∃ a c n, e = .returned (.tuple #[.int .i64 nu, .int .i64 un, .slice a n c, .int .i64 k, .int .i64 code]) ∧ n = ps.length ∧ Own w' w.heap.size (.slice a n c) ps ∧ Below w.heap.size w w'

theorem gm_nil (w w' : World) (k : Int) (bs : List Int) (h : nxC bs = k) (hk : k ≠ 1) (hb : Below w.heap.size w w') : GM w w' (.returned (.tuple #[.int .i64 0, .int .i64 0, .slice none 0 0, .int .i64 0, .int .i64 k])) (nxN bs) (nxU bs) (nxP bs) (nxK bs) (nxC bs) := by
  obtain ⟨e1, e2, e3, e4⟩ := nx_bad h hk
  rw [e1, e2, e3, e4, h]
  exact ⟨_, _, _, rfl, rfl, ⟨rfl, .inl ⟨rfl, rfl⟩⟩, hb⟩

theorem gm_lit (w w' : World) (k : Int) (bs : List Int) (h : nxC bs = k) (hk : k ≠ 1) (hb : Below w.heap.size w w') : GM w (w'.alloc (.cells #[] 5)) (.returned (.tuple #[.int .i64 0, .int .i64 0, .slice (some ⟨w'.heap.size, 0, none⟩) 0 0, .int .i64 0, .int .i64 k])) (nxN bs) (nxU bs) (nxP bs) (nxK bs) (nxC bs) := by
  obtain ⟨e1, e2, e3, e4⟩ := nx_bad h hk
  rw [e1, e2, e3, e4, h]
  exact ⟨_, _, _, rfl, rfl, ⟨rfl, .inr ⟨w'.heap.size, 0, #[], rfl, hb.size, Blk.new w' #[] 5, by simp, by simp, rfl, rfl⟩⟩, bel_next hb (bel_alloc _ _)⟩

theorem Sl.takeM {w : World} {a : Option Addr} {zs : List Int} (h : Sl w a zs) (m : Nat) : Sl w a (zs.take m) := by
  rcases h with h | ⟨b, off, ha, hb, hc⟩
  · exact .inl (by rw [h]; simp)
  · refine .inr ⟨b, off, ha, hb, fun i hi => ?_⟩
    have hi' : i < zs.length := by simp at hi; omega
    have hm : i < m := by simp at hi; omega
    rw [List.getD_eq_getElem?_getD, List.getElem?_take, if_pos hm, ← List.getD_eq_getElem?_getD]
    exact hc i hi'

theorem Sl.dropM {w : World} {b off k : Nat} {zs : List Int} (h : Sl w (some ⟨b, off, none⟩) zs) : Sl w (some ⟨b, off + k, none⟩) (zs.drop k) := by
  rcases h with h | ⟨b', off', ha, hb, hc⟩
  · exact .inl (by rw [h]; simp)
  · simp at ha
    obtain ⟨rfl, rfl⟩ := ha
    refine .inr ⟨b, off + k, rfl, hb, fun i hi => ?_⟩
    have := hc (i + k) (by simp at hi; omega)
    rw [show off + k + i = off + (i + k) by omega, this]
    simp [List.getD_eq_getElem?_getD, List.getElem?_drop, Nat.add_comm]

end Go.Proofs.Ytimgohnnapaafaa

/- Calls: how the laws' own helpers measure them, copy them and hold them against one another. -/
import Derived.Test.YtmhdneenjoelfaaEl0
namespace Go.Proofs.Ytmhdneenjoelfaa
open Go.RowKit Go.Joins

set_option linter.unusedVariables false

set_option linter.unusedSimpArgs false

/-- A call: id, part, unit, and the question. -/
structure Ca where
  id : Int
  pa : Int
  un : Int
  kd : Int
  pl : Int
  n : Int
  wa : Int
  ws : List Int
  bs : List Bool

def caE (C : Ca) : El := ⟨[.int .i64 C.id, .int .i64 C.pa, .int .i64 C.un, .int .i64 C.kd, .int .i64 C.pl, .int .i64 C.n], C.ws, C.bs, [.int .i64 C.wa]⟩
abbrev cac (C : Ca) (a1 a2 : Option Addr) (l1 l2 c1 c2 : Nat) : Array Value := #[.int .i64 C.id, .int .i64 C.pa, .int .i64 C.un, .int .i64 C.kd, .int .i64 C.pl, .int .i64 C.n, .slice a1 l1 c1, .slice a2 l2 c2, .int .i64 C.wa]

def ca0 : Ca := ⟨0, 0, 0, 0, 0, 0, 0, [], []⟩

/-- A list of calls that is read. -/
abbrev SlC (w : World) (a : Option Addr) (n : Nat) (f : Nat → Ca) : Prop := SlL w a 9 n (fun k => caE (f k))

/-- A list of calls of the call's own. -/
abbrev OwC (w : World) (base : Nat) (v : Value) (n : Nat) (f : Nat → Ca) : Prop := OwnL w base 30 9 v n (fun k => caE (f k))

theorem SlC.nine {w : World} {a : Option Addr} {n : Nat} {f : Nat → Ca} (h : SlC w a n f) {k : Nat} (hk : k < n) : ∃ b off a1 a2 l1 l2 c1 c2, a = some ⟨b, off, none⟩ ∧ b < w.heap.size ∧ l1 = (f k).ws.length ∧ l2 = (f k).bs.length ∧
    (w.cell? ⟨b, off + k * 9, none⟩ = some (.int .i64 (f k).id) ∧ w.cell? ⟨b, off + k * 9 + 1, none⟩ = some (.int .i64 (f k).pa) ∧ w.cell? ⟨b, off + k * 9 + 2, none⟩ = some (.int .i64 (f k).un) ∧ w.cell? ⟨b, off + k * 9 + 3, none⟩ = some (.int .i64 (f k).kd) ∧ w.cell? ⟨b, off + k * 9 + 4, none⟩ = some (.int .i64 (f k).pl) ∧ w.cell? ⟨b, off + k * 9 + 5, none⟩ = some (.int .i64 (f k).n) ∧
    w.cell? ⟨b, off + k * 9 + 6, none⟩ = some (.slice a1 l1 c1) ∧ w.cell? ⟨b, off + k * 9 + 7, none⟩ = some (.slice a2 l2 c2) ∧ w.cell? ⟨b, off + k * 9 + 8, none⟩ = some (.int .i64 (f k).wa)) ∧ SlI w a1 (f k).ws ∧ SlB w a2 (f k).bs := by
  obtain ⟨b, off, a1, a2, c1, c2, ha, hb, hc, s1, s2⟩ := SlL.at h hk
  exact ⟨b, off, a1, a2, _, _, c1, c2, ha, hb, rfl, rfl, ⟨hc 0 (by decide), hc 1 (by decide), hc 2 (by decide), hc 3 (by decide), hc 4 (by decide), hc 5 (by decide), hc 6 (by decide), hc 7 (by decide), hc 8 (by decide)⟩, s1, s2⟩

/-- How long the rows of the first k calls are together. -/
def tl (f : Nat → Ca) : Nat → Nat
  | 0 => 0
  | k + 1 => tl f k + ((f k).ws.length + (f k).bs.length)

theorem tl_mono (f : Nat → Ca) : ∀ {i j : Nat}, i ≤ j → tl f i ≤ tl f j := by
  intro i j hij
  induction hij with
  | refl => exact Nat.le_refl _
  | step _ ih => exact Nat.le_trans ih (by simp [tl])

theorem tl_at (f : Nat → Ca) {k n : Nat} (hk : k < n) : (f k).ws.length + (f k).bs.length ≤ tl f n := by
  have := tl_mono f (show k + 1 ≤ n by omega)
  simp only [tl] at this
  omega

set_option maxHeartbeats 2000000 in
theorem szReqL_fits (kd pl nn wa : Int) (a1 a2 : Option Addr) (l1 l2 c1 c2 left : Nat) (w : World) (h : l1 + l2 ≤ left) (hl : left ≤ 1048576) :
    Calls Try.prog 45 #[.agg #[.int .i64 kd, .int .i64 pl, .int .i64 nn, .slice a1 l1 c1, .slice a2 l2 c2, .int .i64 wa], .int .i64 (left : Int)] w fun e w' => e = .returned (.int .i64 ((left : Int) - (l1 : Int) - (l2 : Int))) ∧ Below w.heap.size w w' := by
  have h1 : ¬ ((left : Int) - (l1 : Int) < 0) := by omega
  have h2 : ¬ ((left : Int) - (l1 : Int) - (l2 : Int) < 0) := by omega
  have w1 : IntKind.i64.wrap ((left : Int) - (l1 : Int)) = (left : Int) - (l1 : Int) := by rw [IntKind.wrap_i64]; omega
  have w2 : IntKind.i64.wrap ((left : Int) - (l1 : Int) - (l2 : Int)) = (left : Int) - (l1 : Int) - (l2 : Int) := by rw [IntKind.wrap_i64]; omega
  go_enter Try.func45, Try.ntmps45
  go_wp2_with (first | (go_at_call 76; go_in) | (go_at_call 77; go_in))
  go_ret
  exact ⟨rfl, bel_alloc _ _⟩

set_option maxHeartbeats 2000000 in
theorem szReqL_big (kd pl nn wa : Int) (a1 a2 : Option Addr) (l1 l2 c1 c2 left : Nat) (w : World) (hm1 : l1 ≤ maxLen) (hm2 : l2 ≤ maxLen) (h : ¬ l1 + l2 ≤ left) (hl : left ≤ 1048576) :
    Calls Try.prog 45 #[.agg #[.int .i64 kd, .int .i64 pl, .int .i64 nn, .slice a1 l1 c1, .slice a2 l2 c2, .int .i64 wa], .int .i64 (left : Int)] w fun e w' => e = .returned (.int .i64 (-1)) ∧ Below w.heap.size w w' := by
  unfold maxLen at hm1 hm2
  have w1 : IntKind.i64.wrap ((left : Int) - (l1 : Int)) = (left : Int) - (l1 : Int) := by rw [IntKind.wrap_i64]; omega
  by_cases h1 : (left : Int) - (l1 : Int) < 0
  · go_enter Try.func45, Try.ntmps45
    go_wp2_with (first | (go_at_call 76; go_in) | (go_at_call 77; go_in))
    go_ret
    exact ⟨rfl, bel_alloc _ _⟩
  · have h2 : (left : Int) - (l1 : Int) - (l2 : Int) < 0 := by omega
    have w2 : IntKind.i64.wrap ((left : Int) - (l1 : Int) - (l2 : Int)) = (left : Int) - (l1 : Int) - (l2 : Int) := by rw [IntKind.wrap_i64]; omega
    go_enter Try.func45, Try.ntmps45
    go_wp2_with (first | (go_at_call 76; go_in) | (go_at_call 77; go_in))
    go_ret
    exact ⟨rfl, bel_alloc _ _⟩

/-- What is left behind rows of l1 and l2. -/
def lfC (left l1 l2 : Nat) : Int := if l1 + l2 ≤ left then (left : Int) - (l1 : Int) - (l2 : Int) else -1

theorem szReqL_any (kd pl nn wa : Int) (a1 a2 : Option Addr) (l1 l2 c1 c2 left : Nat) (w : World) (hm1 : l1 ≤ maxLen) (hm2 : l2 ≤ maxLen) (hl : left ≤ 1048576) :
    Calls Try.prog 45 #[.agg #[.int .i64 kd, .int .i64 pl, .int .i64 nn, .slice a1 l1 c1, .slice a2 l2 c2, .int .i64 wa], .int .i64 (left : Int)] w fun e w' => e = .returned (.int .i64 (lfC left l1 l2)) ∧ Below w.heap.size w w' := by
  unfold lfC
  by_cases h : l1 + l2 ≤ left
  · rw [if_pos h]; exact szReqL_fits kd pl nn wa a1 a2 l1 l2 c1 c2 left w h hl
  · rw [if_neg h]; exact szReqL_big kd pl nn wa a1 a2 l1 l2 c1 c2 left w hm1 hm2 h hl

set_option maxHeartbeats 2000000 in
theorem szCall_any (C : Ca) (a1 a2 : Option Addr) (l1 l2 c1 c2 left : Nat) (w : World) (hm1 : l1 ≤ maxLen) (hm2 : l2 ≤ maxLen) (hl : left ≤ 1048576) :
    Calls Try.prog 13 #[.agg (cac C a1 a2 l1 l2 c1 c2), .int .i64 (left : Int)] w fun e w' => e = .returned (.int .i64 (lfC left l1 l2)) ∧ Below w.heap.size w w' := by
  obtain ⟨x, hx⟩ : ∃ x, x = lfC left l1 l2 := ⟨_, rfl⟩
  have HX : Hid (x = lfC left l1 l2 ∧ (x < 0 → x = -1)) := ⟨hx, by intro h; rw [hx] at h ⊢; unfold lfC at h ⊢; by_cases e : l1 + l2 ≤ left <;> simp [e] at h ⊢; omega⟩
  rw [← hx]
  clear hx
  have B0 := bel_alloc w (.cells (cac C a1 a2 l1 l2 c1 c2) 48)
  by_cases hlt : x < 0
  · obtain rfl := HX.out.2 hlt
    go_enter Try.func13, Try.ntmps13
    go_wp2_with fail
    refine (szReqL_any C.kd C.pl C.n C.wa a1 a2 l1 l2 c1 c2 left _ hm1 hm2 hl).mono ?_
    rintro e w1 ⟨rfl, b1⟩
    rw [← HX.out.1]
    have B1 := bel_nx B0 b1
    clear B0 b1
    go_wp2
    go_ret
    exact ⟨rfl, B1⟩
  · go_enter Try.func13, Try.ntmps13
    go_wp2_with fail
    refine (szReqL_any C.kd C.pl C.n C.wa a1 a2 l1 l2 c1 c2 left _ hm1 hm2 hl).mono ?_
    rintro e w1 ⟨rfl, b1⟩
    rw [← HX.out.1]
    have B1 := bel_nx B0 b1
    clear B0 b1
    go_wp2
    go_ret
    exact ⟨rfl, B1⟩

/-- What is left behind n calls. -/
def lfS (left n : Nat) (f : Nat → Ca) : Int := if n + tl f n ≤ left then (left : Int) - (n : Int) - (tl f n : Int) else -1

set_option maxHeartbeats 2000000 in
theorem szCallS_any (a : Option Addr) (n cap left : Nat) (f : Nat → Ca) (w : World) (hs : SlC w a n f) (hn : n ≤ maxLen) (hm : ∀ k, k < n → (f k).ws.length ≤ maxLen ∧ (f k).bs.length ≤ maxLen) (hl : left ≤ 1048576) :
    Calls Try.prog 44 #[.slice a n cap, .int .i64 (left : Int)] w fun e w' => e = .returned (.int .i64 (lfS left n f)) ∧ Below w.heap.size w w' := by
  have hn' := hn
  unfold maxLen at hn'
  have w1 : IntKind.i64.wrap ((left : Int) - (n : Int)) = (left : Int) - (n : Int) := by rw [IntKind.wrap_i64]; omega
  by_cases h0 : n ≤ left
  · have h1 : ¬ ((left : Int) - (n : Int) < 0) := by omega
    have HM : Hid (∀ k, k < n → (f k).ws.length ≤ maxLen ∧ (f k).bs.length ≤ maxLen) := hm
    have HS : Hid (SlC w a n f) := hs
    clear hm hs hn hn'
    go_enter Try.func44, Try.ntmps44
    go_wp2
    go_loopw [1, 5] (fun lv i wr => ∃ k : Nat, k ≤ n ∧ i = .int .i64 k ∧ n + tl f k ≤ left ∧ lv = .int .i64 ((left : Int) - (n : Int) - (tl f k : Int)) ∧ Below w.heap.size w wr) (fun _ i _ => n - (intOf i).toNat)
    case atStart => exact ⟨0, Nat.zero_le _, rfl, by simp [tl]; omega, by simp [tl], Below.refl _ _⟩
    case round =>
      obtain ⟨k, hk, rfl, ht, rfl, hb⟩ := hrel
      by_cases hlt : k < n
      · have hi : (k : Int) < (n : Int) := by omega
        obtain ⟨b, off, a1, a2, l1, l2, c1, c2, rfl, hb0, hl1, hl2, ⟨d0, d1, d2, d3, d4, d5, d6, d7, d8⟩, s1, s2⟩ := SlC.nine (HS.out.below hb) hlt
        obtain ⟨lf, hlf⟩ : ∃ lf : Nat, (lf : Int) = (left : Int) - (n : Int) - (tl f k : Int) := ⟨left - n - tl f k, by omega⟩
        rw [← hlf]
        obtain ⟨C, hC⟩ : ∃ C, C = f k := ⟨_, rfl⟩
        rw [← hC] at d0 d1 d2 d3 d4 d5 d8 hl1 hl2
        have HK : Hid ((lf : Int) = (left : Int) - (n : Int) - (tl f k : Int) ∧ l1 ≤ maxLen ∧ l2 ≤ maxLen ∧ lf ≤ 1048576 ∧ tl f (k + 1) = tl f k + (l1 + l2) ∧ Below w.heap.size w wr) := ⟨hlf, by rw [hl1, hC]; exact (HM.out k hlt).1, by rw [hl2, hC]; exact (HM.out k hlt).2, by omega, by rw [hl1, hl2, hC]; rfl, hb⟩
        clear s1 s2 hl1 hl2 hC hlf hb HS
        obtain ⟨x, hx⟩ : ∃ x, x = lfC lf l1 l2 := ⟨_, rfl⟩
        have HX : Hid (x = lfC lf l1 l2) := hx
        by_cases hf : l1 + l2 ≤ lf
        · have hx0 : ¬ x < 0 := by rw [hx]; unfold lfC; rw [if_pos hf]; omega
          have HF : Hid (x = (left : Int) - (n : Int) - (tl f (k + 1) : Int) ∧ n + tl f (k + 1) ≤ left) := by
            have h9 := HK.out
            refine ⟨?_, ?_⟩
            · rw [hx]; unfold lfC; rw [if_pos hf]; omega
            · omega
          clear hx ht hf
          go_wp2_with fail
          refine (szCall_any C a1 a2 l1 l2 c1 c2 lf _ HK.out.2.1 HK.out.2.2.1 HK.out.2.2.2.1).mono ?_
          rintro e w2 ⟨rfl, b2⟩
          rw [← HX.out]
          have HB : Hid (Below w.heap.size w w2) := bel_nx HK.out.2.2.2.2.2 b2
          clear b2 d0 d1 d2 d3 d4 d5 d6 d7 d8
          go_wp2
          go_roundw
          case rel => exact ⟨k + 1, by omega, by go_num, HF.out.2, by rw [HF.out.1], HB.out⟩
          case measure => simp [intOf]; omega
        · have hx1 : x = -1 := by rw [hx]; unfold lfC; rw [if_neg hf]
          have HF : Hid (lfS left n f = -1) := by
            have h9 := HK.out
            have := tl_mono f (show k + 1 ≤ n by omega)
            show lfS left n f = -1
            unfold lfS; rw [if_neg (by omega)]
          subst hx1
          clear hx ht hf
          go_wp2_with fail
          refine (szCall_any C a1 a2 l1 l2 c1 c2 lf _ HK.out.2.1 HK.out.2.2.1 HK.out.2.2.2.1).mono ?_
          rintro e w2 ⟨rfl, b2⟩
          rw [← HX.out]
          have HB : Hid (Below w.heap.size w w2) := bel_nx HK.out.2.2.2.2.2 b2
          clear b2 d0 d1 d2 d3 d4 d5 d6 d7 d8
          go_wp2
          go_ret
          exact ⟨(by rw [HF.out]; rfl), HB.out⟩
      · have hi : ¬ (k : Int) < (n : Int) := by omega
        have e9 : k = n := by omega
        subst e9
        have HE : Hid (lfS left k f = (left : Int) - (k : Int) - (tl f k : Int)) := by show lfS left k f = _; unfold lfS; rw [if_pos ht]
        clear ht
        go_wp2
        go_ret
        exact ⟨(by rw [HE.out]; rfl), hb⟩
  · have h1 : (left : Int) - (n : Int) < 0 := by omega
    have HE : Hid (lfS left n f = -1) := by show lfS left n f = _; unfold lfS; rw [if_neg (by omega)]
    clear hm hs hn hn'
    go_enter Try.func44, Try.ntmps44
    go_wp2
    go_ret
    exact ⟨(by rw [HE.out]; rfl), Below.refl _ _⟩

theorem Blk.nine {w : World} {g : Nat} {t : TypeId} {v0 v1 v2 v3 v4 v5 v6 v7 v8 : Value} (h : Blk w g t #[v0, v1, v2, v3, v4, v5, v6, v7, v8]) : (w.cell? ⟨g, 0, none⟩ = some v0 ∧ w.cell? ⟨g, 1, none⟩ = some v1 ∧ w.cell? ⟨g, 2, none⟩ = some v2 ∧ w.cell? ⟨g, 3, none⟩ = some v3 ∧ w.cell? ⟨g, 4, none⟩ = some v4 ∧ w.cell? ⟨g, 5, none⟩ = some v5 ∧ w.cell? ⟨g, 6, none⟩ = some v6 ∧ w.cell? ⟨g, 7, none⟩ = some v7 ∧ w.cell? ⟨g, 8, none⟩ = some v8) ∧ ∀ j, w.frozen? ⟨g, j, none⟩ = false :=
  ⟨⟨h.cell 0 rfl, h.cell 1 rfl, h.cell 2 rfl, h.cell 3 rfl, h.cell 4 rfl, h.cell 5 rfl, h.cell 6 rfl, h.cell 7 rfl, h.cell 8 rfl⟩, h.fro⟩

set_option maxRecDepth 20000 in
set_option maxHeartbeats 2000000 in
theorem eqCall_true (C : Ca) (a1 a2 a1' a2' : Option Addr) (l1 l2 c1 c2 c1' c2' : Nat) (w : World) (h1 : l1 = C.ws.length) (h2 : l2 = C.bs.length) (s1 : SlI w a1 C.ws) (s2 : SlB w a2 C.bs) (s1' : SlI w a1' C.ws) (s2' : SlB w a2' C.bs) (hl1 : C.ws.length ≤ 2000000) (hl2 : C.bs.length ≤ 2000000) :
    Calls Try.prog 17 #[.agg (cac C a1 a2 l1 l2 c1 c2), .agg (cac C a1' a2' l1 l2 c1' c2')] w fun e w' => e = .returned (.bool true) ∧ Below w.heap.size w w' := by
  have B0 : Below w.heap.size w ((w.alloc (.cells (cac C a1 a2 l1 l2 c1 c2) 30)).alloc (.cells (cac C a1' a2' l1 l2 c1' c2') 30)) := bel_nx (bel_alloc _ _) (bel_alloc _ _)
  have HS : Hid (SlI w a1 C.ws ∧ SlB w a2 C.bs ∧ SlI w a1' C.ws ∧ SlB w a2' C.bs ∧ l1 = C.ws.length ∧ l2 = C.bs.length) := ⟨s1, s2, s1', s2', h1, h2⟩
  clear s1 s2 s1' s2' h1 h2
  go_enter Try.func17, Try.ntmps17
  go_wp2_with fail
  refine (eqReq_true C.kd C.pl C.n C.wa a1 a2 a1' a2' l1 l2 l1 l2 c1 c2 c1' c2' C.ws C.bs _ HS.out.2.2.2.2.1 HS.out.2.2.2.2.2 HS.out.2.2.2.2.1 HS.out.2.2.2.2.2 (HS.out.1.below B0) (HS.out.2.1.below B0) (HS.out.2.2.1.below B0) (HS.out.2.2.2.1.below B0) (by omega) (by omega)).mono ?_
  rintro e w1 ⟨rfl, b1⟩
  have B1 := bel_nx B0 b1
  clear B0 b1
  go_wp2
  go_ret
  exact ⟨rfl, B1⟩

/-- Rows within are not too long. -/
def BdC (n : Nat) (f : Nat → Ca) : Prop := n ≤ 2000000 ∧ ∀ k, k < n → (f k).ws.length ≤ 2000000 ∧ (f k).bs.length ≤ 2000000

set_option maxRecDepth 20000 in
set_option maxHeartbeats 2000000 in
theorem eqCallS_true (a a' : Option Addr) (n c c' : Nat) (f : Nat → Ca) (w : World) (h : SlC w a n f) (h' : SlC w a' n f) (hb : BdC n f) :
    Calls Try.prog 48 #[.slice a n c, .slice a' n c'] w fun e w' => e = .returned (.bool true) ∧ Below w.heap.size w w' := by
  have HH : Hid (SlC w a n f ∧ SlC w a' n f ∧ BdC n f) := ⟨h, h', hb⟩
  have hn8 : n ≤ 2000000 := hb.1
  clear h h' hb
  go_enter Try.func48, Try.ntmps48
  go_wp2
  go_loopw [5] (fun i wr => ∃ z : Nat, z ≤ n ∧ i = .int .i64 z ∧ Below w.heap.size w wr) (fun i _ => n - (intOf i).toNat)
  case atStart => exact ⟨0, Nat.zero_le _, rfl, Below.refl _ _⟩
  case round =>
    obtain ⟨z, hz, rfl, hbl⟩ := hrel
    by_cases hlt : z < n
    · have hi : (z : Int) < (n : Int) := by omega
      obtain ⟨g, off, a1, a2, l1, l2, c1, c2, rfl, hb0, hl1, hl2, ⟨d0, d1, d2, d3, d4, d5, d6, d7, d8⟩, s1, s2⟩ := SlC.nine (HH.out.1.below hbl) hlt
      obtain ⟨g', off', a1', a2', l1', l2', c1', c2', rfl, hb0', hl1', hl2', ⟨e0, e1, e2, e3, e4, e5, e6, e7, e8⟩, s1', s2'⟩ := SlC.nine (HH.out.2.1.below hbl) hlt
      obtain ⟨C, hC⟩ : ∃ C, C = f z := ⟨_, rfl⟩
      obtain rfl : l1' = l1 := by omega
      obtain rfl : l2' = l2 := by omega
      rw [← hC] at d0 d1 d2 d3 d4 d5 d8 e0 e1 e2 e3 e4 e5 e8 s1 s2 s1' s2' hl1 hl2
      have HB : Hid (C.ws.length ≤ 2000000 ∧ C.bs.length ≤ 2000000 ∧ SlI wr a1 C.ws ∧ SlB wr a2 C.bs ∧ SlI wr a1' C.ws ∧ SlB wr a2' C.bs ∧ l1' = C.ws.length ∧ l2' = C.bs.length) := ⟨by rw [hC]; exact (HH.out.2.2.2 z hlt).1, by rw [hC]; exact (HH.out.2.2.2 z hlt).2, s1, s2, s1', s2', hl1, hl2⟩
      clear s1 s2 s1' s2' hC hl1 hl2 hl1' hl2' hb0 hb0'
      go_wp2_with fail
      go_region_with (go_at_call 17; refine (eqCall_true C a1 a2 a1' a2' l1' l2' c1 c2 c1' c2' _ HB.out.2.2.2.2.2.2.1 HB.out.2.2.2.2.2.2.2 (HB.out.2.2.1.below (by first | exact Below.refl _ _ | exact (Below.refl _ _).drew | exact (Below.refl _ _).drew.drew)) (HB.out.2.2.2.1.below (by first | exact Below.refl _ _ | exact (Below.refl _ _).drew | exact (Below.refl _ _).drew.drew)) (HB.out.2.2.2.2.1.below (by first | exact Below.refl _ _ | exact (Below.refl _ _).drew | exact (Below.refl _ _).drew.drew)) (HB.out.2.2.2.2.2.1.below (by first | exact Below.refl _ _ | exact (Below.refl _ _).drew | exact (Below.refl _ _).drew.drew)) HB.out.1 HB.out.2.1).mono ?_; rintro e w1 ⟨rfl, b1'⟩; have b1 : Below wr.heap.size wr w1 := bel_nx (by first | exact Below.refl _ _ | exact (Below.refl _ _).drew | exact (Below.refl _ _).drew.drew) b1'; clear b1')
      all_goals (
        have B1 := bel_nx hbl b1
        clear hbl b1 d0 d1 d2 d3 d4 d5 d6 d7 d8 e0 e1 e2 e3 e4 e5 e6 e7 e8
        go_wp2
        go_roundw
        case rel => exact ⟨z + 1, by omega, by go_num, B1⟩
        case measure => simp [intOf]; omega)
    · have hi : ¬ (z : Int) < (n : Int) := by omega
      go_wp2
      go_ret
      exact ⟨rfl, hbl⟩

end Go.Proofs.Ytmhdneenjoelfaa

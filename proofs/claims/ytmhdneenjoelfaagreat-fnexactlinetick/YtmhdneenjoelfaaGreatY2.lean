/- Texts that the proof needs, joined: Cl1 Cl2 El1 Ln1 ArgL. -/
import Derived.Test.YtmhdneenjoelfaaGreatY1
import Derived.Deep.Slices
namespace Go.Proofs.YtmhdneenjoelfaaGreat
open Go.RowKit Go.Joins
set_option linter.unusedVariables false
set_option linter.unusedSimpArgs false
structure Ca where
  id : Int
  pa : Int
  un : Int
  kd : Int
  pl : Int
  n : Int
  wa : Int
  ws : List Int
  bs : List Bool
def caE (C : Ca) : El := ⟨[.int .i64 C.id, .int .i64 C.pa, .int .i64 C.un, .int .i64 C.kd, .int .i64 C.pl, .int .i64 C.n], C.ws, C.bs, [.int .i64 C.wa]⟩
abbrev cac (C : Ca) (a1 a2 : Option Addr) (l1 l2 c1 c2 : Nat) : Array Value := #[.int .i64 C.id, .int .i64 C.pa, .int .i64 C.un, .int .i64 C.kd, .int .i64 C.pl, .int .i64 C.n, .slice a1 l1 c1, .slice a2 l2 c2, .int .i64 C.wa]
def ca0 : Ca := ⟨0, 0, 0, 0, 0, 0, 0, [], []⟩
abbrev SlC (w : World) (a : Option Addr) (n : Nat) (f : Nat → Ca) : Prop := SlL w a 9 n (fun k => caE (f k))
abbrev OwC (w : World) (base : Nat) (v : Value) (n : Nat) (f : Nat → Ca) : Prop := OwnL w base 30 9 v n (fun k => caE (f k))
theorem SlC.nine {w : World} {a : Option Addr} {n : Nat} {f : Nat → Ca} (h : SlC w a n f) {k : Nat} (hk : k < n) : ∃ b off a1 a2 l1 l2 c1 c2, a = some ⟨b, off, none⟩ ∧ b < w.heap.size ∧ l1 = (f k).ws.length ∧ l2 = (f k).bs.length ∧
    (w.cell? ⟨b, off + k * 9, none⟩ = some (.int .i64 (f k).id) ∧ w.cell? ⟨b, off + k * 9 + 1, none⟩ = some (.int .i64 (f k).pa) ∧ w.cell? ⟨b, off + k * 9 + 2, none⟩ = some (.int .i64 (f k).un) ∧ w.cell? ⟨b, off + k * 9 + 3, none⟩ = some (.int .i64 (f k).kd) ∧ w.cell? ⟨b, off + k * 9 + 4, none⟩ = some (.int .i64 (f k).pl) ∧ w.cell? ⟨b, off + k * 9 + 5, none⟩ = some (.int .i64 (f k).n) ∧
    w.cell? ⟨b, off + k * 9 + 6, none⟩ = some (.slice a1 l1 c1) ∧ w.cell? ⟨b, off + k * 9 + 7, none⟩ = some (.slice a2 l2 c2) ∧ w.cell? ⟨b, off + k * 9 + 8, none⟩ = some (.int .i64 (f k).wa)) ∧ SlI w a1 (f k).ws ∧ SlB w a2 (f k).bs := by
  obtain ⟨b, off, a1, a2, c1, c2, ha, hb, hc, s1, s2⟩ := SlL.at h hk
  exact ⟨b, off, a1, a2, _, _, c1, c2, ha, hb, rfl, rfl, ⟨hc 0 (by decide), hc 1 (by decide), hc 2 (by decide), hc 3 (by decide), hc 4 (by decide), hc 5 (by decide), hc 6 (by decide), hc 7 (by decide), hc 8 (by decide)⟩, s1, s2⟩
def tl (f : Nat → Ca) : Nat → Nat
  | 0 => 0
  | k + 1 => tl f k + ((f k).ws.length + (f k).bs.length)
theorem tl_mono (f : Nat → Ca) : ∀ {i j : Nat}, i ≤ j → tl f i ≤ tl f j := by
  intro i j hij
  induction hij with
  | refl => exact Nat.le_refl _
  | step _ ih => exact Nat.le_trans ih (by simp [tl])
theorem tl_at (f : Nat → Ca) {k n : Nat} (hk : k < n) : (f k).ws.length + (f k).bs.length ≤ tl f n := by
  have := tl_mono f (show k + 1 ≤ n by omega)
  simp only [tl] at this
  omega
set_option maxHeartbeats 2000000 in
theorem szReqL_fits (kd pl nn wa : Int) (a1 a2 : Option Addr) (l1 l2 c1 c2 left : Nat) (w : World) (h : l1 + l2 ≤ left) (hl : left ≤ 1048576) :
    Calls Tryz.prog 101 #[.agg #[.int .i64 kd, .int .i64 pl, .int .i64 nn, .slice a1 l1 c1, .slice a2 l2 c2, .int .i64 wa], .int .i64 (left : Int)] w fun e w' => e = .returned (.int .i64 ((left : Int) - (l1 : Int) - (l2 : Int))) ∧ Below w.heap.size w w' := by
  have h1 : ¬ ((left : Int) - (l1 : Int) < 0) := by omega
  have h2 : ¬ ((left : Int) - (l1 : Int) - (l2 : Int) < 0) := by omega
  have w1 : IntKind.i64.wrap ((left : Int) - (l1 : Int)) = (left : Int) - (l1 : Int) := by rw [IntKind.wrap_i64]; omega
  have w2 : IntKind.i64.wrap ((left : Int) - (l1 : Int) - (l2 : Int)) = (left : Int) - (l1 : Int) - (l2 : Int) := by rw [IntKind.wrap_i64]; omega
  go_enter Tryz.func101, Tryz.ntmps101
  go_wp2_with (first | (go_at_call 69; go_in) | (go_at_call 70; go_in))
  go_ret
  exact ⟨rfl, bel_alloc _ _⟩
set_option maxHeartbeats 2000000 in
theorem szReqL_big (kd pl nn wa : Int) (a1 a2 : Option Addr) (l1 l2 c1 c2 left : Nat) (w : World) (hm1 : l1 ≤ maxLen) (hm2 : l2 ≤ maxLen) (h : ¬ l1 + l2 ≤ left) (hl : left ≤ 1048576) :
    Calls Tryz.prog 101 #[.agg #[.int .i64 kd, .int .i64 pl, .int .i64 nn, .slice a1 l1 c1, .slice a2 l2 c2, .int .i64 wa], .int .i64 (left : Int)] w fun e w' => e = .returned (.int .i64 (-1)) ∧ Below w.heap.size w w' := by
  unfold maxLen at hm1 hm2
  have w1 : IntKind.i64.wrap ((left : Int) - (l1 : Int)) = (left : Int) - (l1 : Int) := by rw [IntKind.wrap_i64]; omega
  by_cases h1 : (left : Int) - (l1 : Int) < 0
  · go_enter Tryz.func101, Tryz.ntmps101
    go_wp2_with (first | (go_at_call 69; go_in) | (go_at_call 70; go_in))
    go_ret
    exact ⟨rfl, bel_alloc _ _⟩
  · have h2 : (left : Int) - (l1 : Int) - (l2 : Int) < 0 := by omega
    have w2 : IntKind.i64.wrap ((left : Int) - (l1 : Int) - (l2 : Int)) = (left : Int) - (l1 : Int) - (l2 : Int) := by rw [IntKind.wrap_i64]; omega
    go_enter Tryz.func101, Tryz.ntmps101
    go_wp2_with (first | (go_at_call 69; go_in) | (go_at_call 70; go_in))
    go_ret
    exact ⟨rfl, bel_alloc _ _⟩
def lfC (left l1 l2 : Nat) : Int := if l1 + l2 ≤ left then (left : Int) - (l1 : Int) - (l2 : Int) else -1
theorem szReqL_any (kd pl nn wa : Int) (a1 a2 : Option Addr) (l1 l2 c1 c2 left : Nat) (w : World) (hm1 : l1 ≤ maxLen) (hm2 : l2 ≤ maxLen) (hl : left ≤ 1048576) :
    Calls Tryz.prog 101 #[.agg #[.int .i64 kd, .int .i64 pl, .int .i64 nn, .slice a1 l1 c1, .slice a2 l2 c2, .int .i64 wa], .int .i64 (left : Int)] w fun e w' => e = .returned (.int .i64 (lfC left l1 l2)) ∧ Below w.heap.size w w' := by
  unfold lfC
  by_cases h : l1 + l2 ≤ left
  · rw [if_pos h]; exact szReqL_fits kd pl nn wa a1 a2 l1 l2 c1 c2 left w h hl
  · rw [if_neg h]; exact szReqL_big kd pl nn wa a1 a2 l1 l2 c1 c2 left w hm1 hm2 h hl
set_option maxHeartbeats 2000000 in
theorem szCall_any (C : Ca) (a1 a2 : Option Addr) (l1 l2 c1 c2 left : Nat) (w : World) (hm1 : l1 ≤ maxLen) (hm2 : l2 ≤ maxLen) (hl : left ≤ 1048576) :
    Calls Tryz.prog 47 #[.agg (cac C a1 a2 l1 l2 c1 c2), .int .i64 (left : Int)] w fun e w' => e = .returned (.int .i64 (lfC left l1 l2)) ∧ Below w.heap.size w w' := by
  obtain ⟨x, hx⟩ : ∃ x, x = lfC left l1 l2 := ⟨_, rfl⟩
  have HX : Hid (x = lfC left l1 l2 ∧ (x < 0 → x = -1)) := ⟨hx, by intro h; rw [hx] at h ⊢; unfold lfC at h ⊢; by_cases e : l1 + l2 ≤ left <;> simp [e] at h ⊢; omega⟩
  rw [← hx]
  clear hx
  have B0 := bel_alloc w (.cells (cac C a1 a2 l1 l2 c1 c2) 51)
  by_cases hlt : x < 0
  · obtain rfl := HX.out.2 hlt
    go_enter Tryz.func47, Tryz.ntmps47
    go_wp2_with fail
    refine (szReqL_any C.kd C.pl C.n C.wa a1 a2 l1 l2 c1 c2 left _ hm1 hm2 hl).mono ?_
    rintro e w1 ⟨rfl, b1⟩
    rw [← HX.out.1]
    have B1 := bel_nx B0 b1
    clear B0 b1
    go_wp2
    go_ret
    exact ⟨rfl, B1⟩
  · go_enter Tryz.func47, Tryz.ntmps47
    go_wp2_with fail
    refine (szReqL_any C.kd C.pl C.n C.wa a1 a2 l1 l2 c1 c2 left _ hm1 hm2 hl).mono ?_
    rintro e w1 ⟨rfl, b1⟩
    rw [← HX.out.1]
    have B1 := bel_nx B0 b1
    clear B0 b1
    go_wp2
    go_ret
    exact ⟨rfl, B1⟩
def lfS (left n : Nat) (f : Nat → Ca) : Int := if n + tl f n ≤ left then (left : Int) - (n : Int) - (tl f n : Int) else -1
set_option maxHeartbeats 2000000 in
theorem szCallS_any (a : Option Addr) (n cap left : Nat) (f : Nat → Ca) (w : World) (hs : SlC w a n f) (hn : n ≤ maxLen) (hm : ∀ k, k < n → (f k).ws.length ≤ maxLen ∧ (f k).bs.length ≤ maxLen) (hl : left ≤ 1048576) :
    Calls Tryz.prog 46 #[.slice a n cap, .int .i64 (left : Int)] w fun e w' => e = .returned (.int .i64 (lfS left n f)) ∧ Below w.heap.size w w' := by
  have hn' := hn
  unfold maxLen at hn'
  have w1 : IntKind.i64.wrap ((left : Int) - (n : Int)) = (left : Int) - (n : Int) := by rw [IntKind.wrap_i64]; omega
  by_cases h0 : n ≤ left
  · have h1 : ¬ ((left : Int) - (n : Int) < 0) := by omega
    have HM : Hid (∀ k, k < n → (f k).ws.length ≤ maxLen ∧ (f k).bs.length ≤ maxLen) := hm
    have HS : Hid (SlC w a n f) := hs
    clear hm hs hn hn'
    go_enter Tryz.func46, Tryz.ntmps46
    go_wp2
    go_loopw [1, 5] (fun lv i wr => ∃ k : Nat, k ≤ n ∧ i = .int .i64 k ∧ n + tl f k ≤ left ∧ lv = .int .i64 ((left : Int) - (n : Int) - (tl f k : Int)) ∧ Below w.heap.size w wr) (fun _ i _ => n - (intOf i).toNat)
    case atStart => exact ⟨0, Nat.zero_le _, rfl, by simp [tl]; omega, by simp [tl], Below.refl _ _⟩
    case round =>
      obtain ⟨k, hk, rfl, ht, rfl, hb⟩ := hrel
      by_cases hlt : k < n
      · have hi : (k : Int) < (n : Int) := by omega
        obtain ⟨b, off, a1, a2, l1, l2, c1, c2, rfl, hb0, hl1, hl2, ⟨d0, d1, d2, d3, d4, d5, d6, d7, d8⟩, s1, s2⟩ := SlC.nine (HS.out.below hb) hlt
        obtain ⟨lf, hlf⟩ : ∃ lf : Nat, (lf : Int) = (left : Int) - (n : Int) - (tl f k : Int) := ⟨left - n - tl f k, by omega⟩
        rw [← hlf]
        obtain ⟨C, hC⟩ : ∃ C, C = f k := ⟨_, rfl⟩
        rw [← hC] at d0 d1 d2 d3 d4 d5 d8 hl1 hl2
        have HK : Hid ((lf : Int) = (left : Int) - (n : Int) - (tl f k : Int) ∧ l1 ≤ maxLen ∧ l2 ≤ maxLen ∧ lf ≤ 1048576 ∧ tl f (k + 1) = tl f k + (l1 + l2) ∧ Below w.heap.size w wr) := ⟨hlf, by rw [hl1, hC]; exact (HM.out k hlt).1, by rw [hl2, hC]; exact (HM.out k hlt).2, by omega, by rw [hl1, hl2, hC]; rfl, hb⟩
        clear s1 s2 hl1 hl2 hC hlf hb HS
        obtain ⟨x, hx⟩ : ∃ x, x = lfC lf l1 l2 := ⟨_, rfl⟩
        have HX : Hid (x = lfC lf l1 l2) := hx
        by_cases hf : l1 + l2 ≤ lf
        · have hx0 : ¬ x < 0 := by rw [hx]; unfold lfC; rw [if_pos hf]; omega
          have HF : Hid (x = (left : Int) - (n : Int) - (tl f (k + 1) : Int) ∧ n + tl f (k + 1) ≤ left) := by
            have h9 := HK.out
            refine ⟨?_, ?_⟩
            · rw [hx]; unfold lfC; rw [if_pos hf]; omega
            · omega
          clear hx ht hf
          go_wp2_with fail
          refine (szCall_any C a1 a2 l1 l2 c1 c2 lf _ HK.out.2.1 HK.out.2.2.1 HK.out.2.2.2.1).mono ?_
          rintro e w2 ⟨rfl, b2⟩
          rw [← HX.out]
          have HB : Hid (Below w.heap.size w w2) := bel_nx HK.out.2.2.2.2.2 b2
          clear b2 d0 d1 d2 d3 d4 d5 d6 d7 d8
          go_wp2
          go_roundw
          case rel => exact ⟨k + 1, by omega, by go_num, HF.out.2, by rw [HF.out.1], HB.out⟩
          case measure => simp [intOf]; omega
        · have hx1 : x = -1 := by rw [hx]; unfold lfC; rw [if_neg hf]
          have HF : Hid (lfS left n f = -1) := by
            have h9 := HK.out
            have := tl_mono f (show k + 1 ≤ n by omega)
            show lfS left n f = -1
            unfold lfS; rw [if_neg (by omega)]
          subst hx1
          clear hx ht hf
          go_wp2_with fail
          refine (szCall_any C a1 a2 l1 l2 c1 c2 lf _ HK.out.2.1 HK.out.2.2.1 HK.out.2.2.2.1).mono ?_
          rintro e w2 ⟨rfl, b2⟩
          rw [← HX.out]
          have HB : Hid (Below w.heap.size w w2) := bel_nx HK.out.2.2.2.2.2 b2
          clear b2 d0 d1 d2 d3 d4 d5 d6 d7 d8
          go_wp2
          go_ret
          exact ⟨(by rw [HF.out]; rfl), HB.out⟩
      · have hi : ¬ (k : Int) < (n : Int) := by omega
        have e9 : k = n := by omega
        subst e9
        have HE : Hid (lfS left k f = (left : Int) - (k : Int) - (tl f k : Int)) := by show lfS left k f = _; unfold lfS; rw [if_pos ht]
        clear ht
        go_wp2
        go_ret
        exact ⟨(by rw [HE.out]; rfl), hb⟩
  · have h1 : (left : Int) - (n : Int) < 0 := by omega
    have HE : Hid (lfS left n f = -1) := by show lfS left n f = _; unfold lfS; rw [if_neg (by omega)]
    clear hm hs hn hn'
    go_enter Tryz.func46, Tryz.ntmps46
    go_wp2
    go_ret
    exact ⟨(by rw [HE.out]; rfl), Below.refl _ _⟩
theorem Blk.nine {w : World} {g : Nat} {t : TypeId} {v0 v1 v2 v3 v4 v5 v6 v7 v8 : Value} (h : Blk w g t #[v0, v1, v2, v3, v4, v5, v6, v7, v8]) : (w.cell? ⟨g, 0, none⟩ = some v0 ∧ w.cell? ⟨g, 1, none⟩ = some v1 ∧ w.cell? ⟨g, 2, none⟩ = some v2 ∧ w.cell? ⟨g, 3, none⟩ = some v3 ∧ w.cell? ⟨g, 4, none⟩ = some v4 ∧ w.cell? ⟨g, 5, none⟩ = some v5 ∧ w.cell? ⟨g, 6, none⟩ = some v6 ∧ w.cell? ⟨g, 7, none⟩ = some v7 ∧ w.cell? ⟨g, 8, none⟩ = some v8) ∧ ∀ j, w.frozen? ⟨g, j, none⟩ = false :=
  ⟨⟨h.cell 0 rfl, h.cell 1 rfl, h.cell 2 rfl, h.cell 3 rfl, h.cell 4 rfl, h.cell 5 rfl, h.cell 6 rfl, h.cell 7 rfl, h.cell 8 rfl⟩, h.fro⟩
set_option maxRecDepth 20000 in
set_option maxHeartbeats 2000000 in
theorem eqCall_true (C : Ca) (a1 a2 a1' a2' : Option Addr) (l1 l2 c1 c2 c1' c2' : Nat) (w : World) (h1 : l1 = C.ws.length) (h2 : l2 = C.bs.length) (s1 : SlI w a1 C.ws) (s2 : SlB w a2 C.bs) (s1' : SlI w a1' C.ws) (s2' : SlB w a2' C.bs) (hl1 : C.ws.length ≤ 2000000) (hl2 : C.bs.length ≤ 2000000) :
    Calls Tryz.prog 58 #[.agg (cac C a1 a2 l1 l2 c1 c2), .agg (cac C a1' a2' l1 l2 c1' c2')] w fun e w' => e = .returned (.bool true) ∧ Below w.heap.size w w' := by
  have B0 : Below w.heap.size w ((w.alloc (.cells (cac C a1 a2 l1 l2 c1 c2) 30)).alloc (.cells (cac C a1' a2' l1 l2 c1' c2') 30)) := bel_nx (bel_alloc _ _) (bel_alloc _ _)
  have HS : Hid (SlI w a1 C.ws ∧ SlB w a2 C.bs ∧ SlI w a1' C.ws ∧ SlB w a2' C.bs ∧ l1 = C.ws.length ∧ l2 = C.bs.length) := ⟨s1, s2, s1', s2', h1, h2⟩
  clear s1 s2 s1' s2' h1 h2
  go_enter Tryz.func58, Tryz.ntmps58
  go_wp2_with fail
  refine (eqReq_true C.kd C.pl C.n C.wa a1 a2 a1' a2' l1 l2 l1 l2 c1 c2 c1' c2' C.ws C.bs _ HS.out.2.2.2.2.1 HS.out.2.2.2.2.2 HS.out.2.2.2.2.1 HS.out.2.2.2.2.2 (HS.out.1.below B0) (HS.out.2.1.below B0) (HS.out.2.2.1.below B0) (HS.out.2.2.2.1.below B0) (by omega) (by omega)).mono ?_
  rintro e w1 ⟨rfl, b1⟩
  have B1 := bel_nx B0 b1
  clear B0 b1
  go_wp2
  go_ret
  exact ⟨rfl, B1⟩
def BdC (n : Nat) (f : Nat → Ca) : Prop := n ≤ 2000000 ∧ ∀ k, k < n → (f k).ws.length ≤ 2000000 ∧ (f k).bs.length ≤ 2000000
set_option maxRecDepth 20000 in
set_option maxHeartbeats 2000000 in
theorem eqCallS_true (a a' : Option Addr) (n c c' : Nat) (f : Nat → Ca) (w : World) (h : SlC w a n f) (h' : SlC w a' n f) (hb : BdC n f) :
    Calls Tryz.prog 57 #[.slice a n c, .slice a' n c'] w fun e w' => e = .returned (.bool true) ∧ Below w.heap.size w w' := by
  have HH : Hid (SlC w a n f ∧ SlC w a' n f ∧ BdC n f) := ⟨h, h', hb⟩
  have hn8 : n ≤ 2000000 := hb.1
  clear h h' hb
  go_enter Tryz.func57, Tryz.ntmps57
  go_wp2
  go_loopw [5] (fun i wr => ∃ z : Nat, z ≤ n ∧ i = .int .i64 z ∧ Below w.heap.size w wr) (fun i _ => n - (intOf i).toNat)
  case atStart => exact ⟨0, Nat.zero_le _, rfl, Below.refl _ _⟩
  case round =>
    obtain ⟨z, hz, rfl, hbl⟩ := hrel
    by_cases hlt : z < n
    · have hi : (z : Int) < (n : Int) := by omega
      obtain ⟨g, off, a1, a2, l1, l2, c1, c2, rfl, hb0, hl1, hl2, ⟨d0, d1, d2, d3, d4, d5, d6, d7, d8⟩, s1, s2⟩ := SlC.nine (HH.out.1.below hbl) hlt
      obtain ⟨g', off', a1', a2', l1', l2', c1', c2', rfl, hb0', hl1', hl2', ⟨e0, e1, e2, e3, e4, e5, e6, e7, e8⟩, s1', s2'⟩ := SlC.nine (HH.out.2.1.below hbl) hlt
      obtain ⟨C, hC⟩ : ∃ C, C = f z := ⟨_, rfl⟩
      obtain rfl : l1' = l1 := by omega
      obtain rfl : l2' = l2 := by omega
      rw [← hC] at d0 d1 d2 d3 d4 d5 d8 e0 e1 e2 e3 e4 e5 e8 s1 s2 s1' s2' hl1 hl2
      have HB : Hid (C.ws.length ≤ 2000000 ∧ C.bs.length ≤ 2000000 ∧ SlI wr a1 C.ws ∧ SlB wr a2 C.bs ∧ SlI wr a1' C.ws ∧ SlB wr a2' C.bs ∧ l1' = C.ws.length ∧ l2' = C.bs.length) := ⟨by rw [hC]; exact (HH.out.2.2.2 z hlt).1, by rw [hC]; exact (HH.out.2.2.2 z hlt).2, s1, s2, s1', s2', hl1, hl2⟩
      clear s1 s2 s1' s2' hC hl1 hl2 hl1' hl2' hb0 hb0'
      go_wp2_with fail
      go_region_with (go_at_call 58; refine (eqCall_true C a1 a2 a1' a2' l1' l2' c1 c2 c1' c2' _ HB.out.2.2.2.2.2.2.1 HB.out.2.2.2.2.2.2.2 (HB.out.2.2.1.below (by first | exact Below.refl _ _ | exact (Below.refl _ _).drew | exact (Below.refl _ _).drew.drew)) (HB.out.2.2.2.1.below (by first | exact Below.refl _ _ | exact (Below.refl _ _).drew | exact (Below.refl _ _).drew.drew)) (HB.out.2.2.2.2.1.below (by first | exact Below.refl _ _ | exact (Below.refl _ _).drew | exact (Below.refl _ _).drew.drew)) (HB.out.2.2.2.2.2.1.below (by first | exact Below.refl _ _ | exact (Below.refl _ _).drew | exact (Below.refl _ _).drew.drew)) HB.out.1 HB.out.2.1).mono ?_; rintro e w1 ⟨rfl, b1'⟩; have b1 : Below wr.heap.size wr w1 := bel_nx (by first | exact Below.refl _ _ | exact (Below.refl _ _).drew | exact (Below.refl _ _).drew.drew) b1'; clear b1')
      all_goals (
        have B1 := bel_nx hbl b1
        clear hbl b1 d0 d1 d2 d3 d4 d5 d6 d7 d8 e0 e1 e2 e3 e4 e5 e6 e7 e8
        go_wp2
        go_roundw
        case rel => exact ⟨z + 1, by omega, by go_num, B1⟩
        case measure => simp [intOf]; omega)
    · have hi : ¬ (z : Int) < (n : Int) := by omega
      go_wp2
      go_ret
      exact ⟨rfl, hbl⟩
end Go.Proofs.YtmhdneenjoelfaaGreat
namespace Go.Proofs.YtmhdneenjoelfaaGreat
open Go.RowKit Go.Joins
set_option linter.unusedVariables false
set_option linter.unusedSimpArgs false
def wrA (cs : Array Value) : Nat → List Value → Array Value
  | _, [] => cs
  | o, v :: vs => wrA (cs.setIfInBounds o v) (o + 1) vs
theorem Blk.stL {g : Nat} {t : TypeId} : ∀ (vs : List Value) {w : World} {cs : Array Value} (o : Nat), Blk w g t cs → Blk (setL w g o vs) g t (wrA cs o vs)
  | [], w, cs, o, h => h
  | v :: vs, w, cs, o, h => Blk.stL vs (o + 1) (h.set o v)
theorem Blk.stNe {g g' : Nat} {t : TypeId} {cs : Array Value} (hne : g ≠ g') : ∀ (vs : List Value) {w : World} (o : Nat), Blk w g t cs → Blk (setL w g' o vs) g t cs
  | [], w, o, h => h
  | v :: vs, w, o, h => Blk.stNe hne vs (o + 1) (h.setNe hne)
theorem wr36 (v0 v1 v2 v3 v4 v5 v6 v7 v8 x3 x4 x5 x6 x7 x8 : Value) : wrA #[v0, v1, v2, v3, v4, v5, v6, v7, v8] 3 [x3, x4, x5, x6, x7, x8] = #[v0, v1, v2, x3, x4, x5, x6, x7, x8] := by simp [wrA]
theorem wr09 (v0 v1 v2 v3 v4 v5 v6 v7 v8 x0 x1 x2 x3 x4 x5 x6 x7 x8 : Value) : wrA #[v0, v1, v2, v3, v4, v5, v6, v7, v8] 0 [x0, x1, x2, x3, x4, x5, x6, x7, x8] = #[x0, x1, x2, x3, x4, x5, x6, x7, x8] := by simp [wrA]
theorem RowS.ex {w : World} {g : Nat} {t : TypeId} {s n : Nat} {F : Nat → List Value} (h : RowS w g t s n F) {k j : Nat} (hk : k < n) (hj : j < s) : ∃ v, w.cell? ⟨g, k * s + j, none⟩ = some v := by
  obtain ⟨cs, h1, h2, h3⟩ := h
  have hin : k * s + j < cs.size := by
    have : (k + 1) * s ≤ n * s := Nat.mul_le_mul_right s hk
    rw [Nat.add_mul, Nat.one_mul] at this
    omega
  exact ⟨cs[k * s + j], by rw [cell_of_block h1]; simp⟩
abbrev calL (C : Ca) (a1 a2 : Option Addr) (l1 l2 c1 c2 : Nat) : List Value := [.int .i64 C.id, .int .i64 C.pa, .int .i64 C.un, .int .i64 C.kd, .int .i64 C.pl, .int .i64 C.n, .slice a1 l1 c1, .slice a2 l2 c2, .int .i64 C.wa]
abbrev ca0c : Array Value := #[.int .i64 0, .int .i64 0, .int .i64 0, .int .i64 0, .int .i64 0, .int .i64 0, .slice none 0 0, .slice none 0 0, .int .i64 0]
set_option maxRecDepth 20000 in
set_option maxHeartbeats 4000000 in
theorem toCall_any (C : Ca) (a1 a2 : Option Addr) (l1 l2 c1 c2 : Nat) (w : World) (h1 : l1 = C.ws.length) (h2 : l2 = C.bs.length) (s1 : SlI w a1 C.ws) (s2 : SlB w a2 C.bs) (hl1 : l1 ≤ 2000000) (hl2 : l2 ≤ 2000000) :
    Calls Tryz.prog 56 #[.agg (cac C a1 a2 l1 l2 c1 c2)] w fun e w' => ∃ g1 g2, e = .returned (.agg (cac C (some ⟨g1, 0, none⟩) (some ⟨g2, 0, none⟩) l1 l2 l1 l2)) ∧
      OwnI w' w.heap.size (.slice (some ⟨g1, 0, none⟩) l1 l1) C.ws ∧ OwnB w' w.heap.size (.slice (some ⟨g2, 0, none⟩) l2 l2) C.bs ∧ Below w.heap.size w w' := by
  obtain ⟨W, hW⟩ : ∃ W, W = ((w.alloc (.cells (cac C a1 a2 l1 l2 c1 c2) 51)).alloc (.cells ca0c 30)).alloc (.cells #[.int .i64 C.id, .int .i64 C.pa, .int .i64 C.un, .int .i64 0, .int .i64 0, .int .i64 0, .slice none 0 0, .slice none 0 0, .int .i64 0] 30) := ⟨_, rfl⟩
  have bW : Below w.heap.size w W := by rw [hW]; exact bel_nx (bel_nx (bel_alloc w _) (bel_alloc _ _)) (bel_alloc _ _)
  have A0 : Blk W w.heap.size 51 (cac C a1 a2 l1 l2 c1 c2) := by rw [hW]; exact ((Blk.new w _ _).below (bel_alloc _ _)).below (bel_alloc _ _)
  have R0 : Blk W (w.heap.size + 1) 30 ca0c := by
    rw [hW]; have := (Blk.new (w.alloc (.cells (cac C a1 a2 l1 l2 c1 c2) 51)) ca0c 30).below (bel_alloc _ (.cells #[.int .i64 C.id, .int .i64 C.pa, .int .i64 C.un, .int .i64 0, .int .i64 0, .int .i64 0, .slice none 0 0, .slice none 0 0, .int .i64 0] 30)); simpa using this
  have O0 : Blk W (w.heap.size + 1 + 1) 30 #[.int .i64 C.id, .int .i64 C.pa, .int .i64 C.un, .int .i64 0, .int .i64 0, .int .i64 0, .slice none 0 0, .slice none 0 0, .int .i64 0] := by
    rw [hW]; have := Blk.new ((w.alloc (.cells (cac C a1 a2 l1 l2 c1 c2) 51)).alloc (.cells ca0c 30)) #[.int .i64 C.id, .int .i64 C.pa, .int .i64 C.un, .int .i64 0, .int .i64 0, .int .i64 0, .slice none 0 0, .slice none 0 0, .int .i64 0] 30; simpa using this
  have H0 : Hid (l1 = C.ws.length ∧ l2 = C.bs.length ∧ SlI W a1 C.ws ∧ SlB W a2 C.bs ∧ Below w.heap.size w W ∧ Blk W (w.heap.size + 1) 30 ca0c ∧ Blk W (w.heap.size + 1 + 1) 30 #[.int .i64 C.id, .int .i64 C.pa, .int .i64 C.un, .int .i64 0, .int .i64 0, .int .i64 0, .slice none 0 0, .slice none 0 0, .int .i64 0]) := ⟨h1, h2, s1.below bW, s2.below bW, bW, R0, O0⟩
  obtain ⟨⟨y0, y1, y2, y3, y4, y5, y6, y7, y8⟩, _⟩ := A0.nine
  clear h1 h2 s1 s2 bW R0 O0 A0
  go_enter Tryz.func56, Tryz.ntmps56
  go_upto_region 5 with fail
  rw [← hW]
  clear hW
  go_wp2_with fail
  refine (toReq_any C.kd C.pl C.n C.wa a1 a2 l1 l2 c1 c2 C.ws C.bs _ H0.out.1 H0.out.2.1 H0.out.2.2.1 H0.out.2.2.2.1 hl1 hl2).mono ?_
  rintro e w1 ⟨g1, g2, rfl, i1, i2, b1⟩
  have O1 := H0.out.2.2.2.2.2.2.below b1
  obtain ⟨⟨z0, z1, z2, z3, z4, z5, z6, z7, z8⟩, zf⟩ := O1.nine
  have e3 := zf 3
  have e4 := zf 4
  have e5 := zf 5
  have e6 := zf 6
  have e7 := zf 7
  have e8 := zf 8
  obtain ⟨B2, hB2⟩ : ∃ B2, B2 = w.heap.size + 1 + 1 := ⟨_, rfl⟩
  obtain ⟨W2, hW2⟩ : ∃ W2, W2 = setL w1 (w.heap.size + 1 + 1) 3 [.int .i64 C.kd, .int .i64 C.pl, .int .i64 C.n, .slice (some ⟨g1, 0, none⟩) l1 l1, .slice (some ⟨g2, 0, none⟩) l2 l2, .int .i64 C.wa] := ⟨_, rfl⟩
  have H1 : Hid (OwnI W2 w.heap.size (.slice (some ⟨g1, 0, none⟩) l1 l1) C.ws ∧ OwnB W2 w.heap.size (.slice (some ⟨g2, 0, none⟩) l2 l2) C.bs ∧ Below w.heap.size w W2 ∧ Blk W2 (w.heap.size + 1) 30 ca0c ∧ Blk W2 (w.heap.size + 1 + 1) 30 (cac C (some ⟨g1, 0, none⟩) (some ⟨g2, 0, none⟩) l1 l2 l1 l2)) := by
    rw [hW2]
    have hz := H0.out.2.2.2.2.1.size
    exact ⟨OwnI.mono (show OwnI _ _ _ _ from row_stL i1 ⟨_, O1⟩ (by decide)) hz, OwnB.mono (show OwnB _ _ _ _ from row_stL i2 ⟨_, O1⟩ (by decide)) hz, setL_below (by omega) _ _ _ (bel_nx H0.out.2.2.2.2.1 b1), Blk.stNe (by omega) _ _ (H0.out.2.2.2.2.2.1.below b1), by rw [show cac C (some ⟨g1, 0, none⟩) (some ⟨g2, 0, none⟩) l1 l2 l1 l2 = wrA #[.int .i64 C.id, .int .i64 C.pa, .int .i64 C.un, .int .i64 0, .int .i64 0, .int .i64 0, .slice none 0 0, .slice none 0 0, .int .i64 0] 3 [.int .i64 C.kd, .int .i64 C.pl, .int .i64 C.n, .slice (some ⟨g1, 0, none⟩) l1 l1, .slice (some ⟨g2, 0, none⟩) l2 l2, .int .i64 C.wa] from (wr36 _ _ _ _ _ _ _ _ _ _ _ _ _ _ _).symm]; exact Blk.stL _ _ O1⟩
  have hW2' : W2 = ((((((w1.setCell ⟨w.heap.size + 1 + 1, 3, none⟩ (.int .i64 C.kd)).setCell ⟨w.heap.size + 1 + 1, 4, none⟩ (.int .i64 C.pl)).setCell ⟨w.heap.size + 1 + 1, 5, none⟩ (.int .i64 C.n)).setCell ⟨w.heap.size + 1 + 1, 6, none⟩ (.slice (some ⟨g1, 0, none⟩) l1 l1)).setCell ⟨w.heap.size + 1 + 1, 7, none⟩ (.slice (some ⟨g2, 0, none⟩) l2 l2)).setCell ⟨w.heap.size + 1 + 1, 8, none⟩ (.int .i64 C.wa)) := hW2
  clear i1 i2 b1 O1 hW2 hB2 B2 y0 y1 y2 y3 y4 y5 y6 y7 y8 H0
  go_upto_region 6 with fail
  rw [← hW2']
  clear hW2' z0 z1 z2 z3 z4 z5 z6 z7 z8 zf e3 e4 e5 e6 e7 e8
  obtain ⟨⟨y0, y1, y2, y3, y4, y5, y6, y7, y8⟩, _⟩ := H1.out.2.2.2.2.nine
  obtain ⟨⟨x0, x1, x2, x3, x4, x5, x6, x7, x8⟩, xf⟩ := H1.out.2.2.2.1.nine
  have e0 := xf 0
  have e1 := xf 1
  have e2 := xf 2
  have e3 := xf 3
  have e4 := xf 4
  have e5 := xf 5
  have e6 := xf 6
  have e7 := xf 7
  have e8 := xf 8
  obtain ⟨W3, hW3⟩ : ∃ W3, W3 = setL W2 (w.heap.size + 1) 0 (calL C (some ⟨g1, 0, none⟩) (some ⟨g2, 0, none⟩) l1 l2 l1 l2) := ⟨_, rfl⟩
  have H2 : Hid (OwnI W3 w.heap.size (.slice (some ⟨g1, 0, none⟩) l1 l1) C.ws ∧ OwnB W3 w.heap.size (.slice (some ⟨g2, 0, none⟩) l2 l2) C.bs ∧ Below w.heap.size w W3 ∧ Blk W3 (w.heap.size + 1) 30 (cac C (some ⟨g1, 0, none⟩) (some ⟨g2, 0, none⟩) l1 l2 l1 l2)) := by
    rw [hW3]
    exact ⟨row_stL H1.out.1 ⟨_, H1.out.2.2.2.1⟩ (by decide), row_stL H1.out.2.1 ⟨_, H1.out.2.2.2.1⟩ (by decide), setL_below (by omega) _ _ _ H1.out.2.2.1, by rw [show cac C (some ⟨g1, 0, none⟩) (some ⟨g2, 0, none⟩) l1 l2 l1 l2 = wrA ca0c 0 (calL C (some ⟨g1, 0, none⟩) (some ⟨g2, 0, none⟩) l1 l2 l1 l2) from (wr09 _ _ _ _ _ _ _ _ _ _ _ _ _ _ _ _ _ _).symm]; exact Blk.stL _ _ H1.out.2.2.2.1⟩
  have hW3' : W3 = (((((((((W2.setCell ⟨w.heap.size + 1, 0, none⟩ (.int .i64 C.id)).setCell ⟨w.heap.size + 1, 1, none⟩ (.int .i64 C.pa)).setCell ⟨w.heap.size + 1, 2, none⟩ (.int .i64 C.un)).setCell ⟨w.heap.size + 1, 3, none⟩ (.int .i64 C.kd)).setCell ⟨w.heap.size + 1, 4, none⟩ (.int .i64 C.pl)).setCell ⟨w.heap.size + 1, 5, none⟩ (.int .i64 C.n)).setCell ⟨w.heap.size + 1, 6, none⟩ (.slice (some ⟨g1, 0, none⟩) l1 l1)).setCell ⟨w.heap.size + 1, 7, none⟩ (.slice (some ⟨g2, 0, none⟩) l2 l2)).setCell ⟨w.heap.size + 1, 8, none⟩ (.int .i64 C.wa)) := hW3
  clear H1 hW3
  go_wp2
  rw [← hW3']
  obtain ⟨⟨v0, v1, v2, v3, v4, v5, v6, v7, v8⟩, _⟩ := H2.out.2.2.2.nine
  refine bodyPost_ret (v := .agg (cac C (some ⟨g1, 0, none⟩) (some ⟨g2, 0, none⟩) l1 l2 l1 l2)) (by simp [results, Tryz.results56, go_sem, v0, v1, v2, v3, v4, v5, v6, v7, v8]) rfl ⟨g1, g2, rfl, H2.out.1, H2.out.2.1, H2.out.2.2.1⟩
theorem Tryz.info30 : (Tryz.prog.info? 30).map (fun i => (i.zero, i.size, i.bytes)) = some (some (.agg ca0c), 9, 104) := by kernel_rfl
theorem cal_els (C : Ca) (a1 a2 : Option Addr) (l1 l2 c1 c2 : Nat) (h1 : l1 = C.ws.length) (h2 : l2 = C.bs.length) : calL C a1 a2 l1 l2 c1 c2 = els (caE C) a1 a2 c1 c2 := by subst h1; subst h2; rfl
def MadeL (w : World) (B : Nat) (t : TypeId) (s n : Nat) (G : Nat → El) : Prop := ∃ F β, RowS w B t s n F ∧ InE w B β F G n ∧ β n ≤ w.heap.size
theorem MadeL.own {w : World} {B : Nat} {t : TypeId} {s n : Nat} {G : Nat → El} (h : MadeL w B t s n G) : OwnL w B t s (.slice (some ⟨B, 0, none⟩) n n) n G := by
  obtain ⟨F, β, h1, h2, _⟩ := h
  exact ⟨F, β, .inr ⟨B, 0, n, rfl, Nat.le_refl _, h1.rowO⟩, h2⟩
set_option maxRecDepth 20000 in
set_option maxHeartbeats 4000000 in
theorem toCallS_any (a : Option Addr) (n cap : Nat) (f : Nat → Ca) (w : World) (hs : SlC w a n f) (hb : BdC n f) :
    Calls Tryz.prog 55 #[.slice a n cap] w fun e w' => e = .returned (.slice (some ⟨w.heap.size, 0, none⟩) n n) ∧
      MadeL w' w.heap.size 30 9 n (fun k => caE (f k)) ∧ Below w.heap.size w w' := by
  have hn := hb.1
  have hmk := run_make_st (P := Tryz.prog) 24 30 (.agg ca0c) 9 104 Tryz.underlying24 Tryz.info30 .i64 .i64 n (by omega) (by omega)
  have HH : Hid (SlC w a n f ∧ BdC n f) := ⟨hs, hb⟩
  obtain ⟨B, hB⟩ : ∃ B, B = w.heap.size := ⟨_, rfl⟩
  clear hs hb
  go_enter Tryz.func55, Tryz.ntmps55
  go_wp2
  clear hmk
  go_loopw [4] (fun i wr => ∃ (k : Nat) (F : Nat → List Value) (β : Nat → Nat), k ≤ n ∧ i = .int .i64 k ∧ RowS wr w.heap.size 30 9 n F ∧ InE wr w.heap.size β F (fun k => caE (f k)) k ∧ β k ≤ wr.heap.size ∧ Below w.heap.size w wr) (fun i _ => n - (intOf i).toNat)
  case atStart => exact ⟨0, fun _ => ca0c.toList, fun _ => w.heap.size, Nat.zero_le _, rfl, RowS.made w ca0c.toList n _ (by simp), InE.start _ _ _ _, by simp, (Below.refl _ _).alloc (Nat.le_refl _) _⟩
  case round =>
    obtain ⟨k, F, β, hk, rfl, hrow, hin, hbk, hb⟩ := hrel
    by_cases hlt : k < n
    · obtain ⟨b, off, a1, a2, l1, l2, c1, c2, rfl, hb0, hl1, hl2, ⟨d0, d1, d2, d3, d4, d5, d6, d7, d8⟩, s1, s2⟩ := SlC.nine (HH.out.1.below hb) hlt
      have hi : (k : Int) < (n : Int) := by omega
      have hbd := HH.out.2.2 k hlt
      obtain ⟨C, hC⟩ : ∃ C, C = f k := ⟨_, rfl⟩
      rw [← hC] at d0 d1 d2 d3 d4 d5 d8 hl1 hl2 s1 s2
      have HS : Hid (SlI wr a1 C.ws ∧ SlB wr a2 C.bs ∧ l1 = C.ws.length ∧ l2 = C.bs.length ∧ l1 ≤ 2000000 ∧ l2 ≤ 2000000 ∧ C = f k) := ⟨s1, s2, hl1, hl2, by rw [hl1, hC]; exact hbd.1, by rw [hl2, hC]; exact hbd.2, hC⟩
      have HR : Hid (RowS wr w.heap.size 30 9 n F ∧ InE wr w.heap.size β F (fun k => caE (f k)) k ∧ β k ≤ wr.heap.size ∧ Below w.heap.size w wr) := ⟨hrow, hin, hbk, hb⟩
      clear hrow hin hbk hb s1 s2 hl1 hl2 hC hbd hb0
      go_wp2_with fail
      refine (toCall_any C a1 a2 l1 l2 c1 c2 _ HS.out.2.2.1 HS.out.2.2.2.1 HS.out.1 HS.out.2.1 HS.out.2.2.2.2.1 HS.out.2.2.2.2.2.1).mono ?_
      rintro e w1 ⟨g1, g2, rfl, i1, i2, b1⟩
      have R1 := HR.out.1.below b1
      obtain ⟨r'0, r0⟩ : ∃ v, w1.cell? ⟨w.heap.size, k * 9, none⟩ = some v := R1.ex hlt (j := 0) (by decide)
      obtain ⟨r1x, r1⟩ : ∃ v, w1.cell? ⟨w.heap.size, k * 9 + 1, none⟩ = some v := R1.ex hlt (j := 1) (by decide)
      obtain ⟨r2x, r2⟩ : ∃ v, w1.cell? ⟨w.heap.size, k * 9 + 2, none⟩ = some v := R1.ex hlt (j := 2) (by decide)
      obtain ⟨r3x, r3⟩ : ∃ v, w1.cell? ⟨w.heap.size, k * 9 + 3, none⟩ = some v := R1.ex hlt (j := 3) (by decide)
      obtain ⟨r4x, r4⟩ : ∃ v, w1.cell? ⟨w.heap.size, k * 9 + 4, none⟩ = some v := R1.ex hlt (j := 4) (by decide)
      obtain ⟨r5x, r5⟩ : ∃ v, w1.cell? ⟨w.heap.size, k * 9 + 5, none⟩ = some v := R1.ex hlt (j := 5) (by decide)
      obtain ⟨r6x, r6⟩ : ∃ v, w1.cell? ⟨w.heap.size, k * 9 + 6, none⟩ = some v := R1.ex hlt (j := 6) (by decide)
      obtain ⟨r7x, r7⟩ : ∃ v, w1.cell? ⟨w.heap.size, k * 9 + 7, none⟩ = some v := R1.ex hlt (j := 7) (by decide)
      obtain ⟨r8x, r8⟩ : ∃ v, w1.cell? ⟨w.heap.size, k * 9 + 8, none⟩ = some v := R1.ex hlt (j := 8) (by decide)
      obtain ⟨W2, hW2⟩ : ∃ W2, W2 = setL w1 w.heap.size (k * 9) (calL C (some ⟨g1, 0, none⟩) (some ⟨g2, 0, none⟩) l1 l2 l1 l2) := ⟨_, rfl⟩
      have H2 : Hid (∃ F' β', RowS W2 w.heap.size 30 9 n F' ∧ InE W2 w.heap.size β' F' (fun k => caE (f k)) (k + 1) ∧ β' (k + 1) ≤ W2.heap.size ∧ Below w.heap.size w W2) := by
        have I1 := HR.out.2.1.below b1
        have hp := I1.push (lo := wr.heap.size) (vs := calL C (some ⟨g1, 0, none⟩) (some ⟨g2, 0, none⟩) l1 l2 l1 l2) (E := caE C) HR.out.2.2.1 b1.size ⟨some ⟨g1, 0, none⟩, some ⟨g2, 0, none⟩, l1, l2, cal_els _ _ _ _ _ _ _ HS.out.2.2.1 HS.out.2.2.2.1, by show OwnI _ _ (.slice _ C.ws.length _) C.ws; rw [← HS.out.2.2.1]; exact i1, by show OwnB _ _ (.slice _ C.bs.length _) C.bs; rw [← HS.out.2.2.2.1]; exact i2, fun x hx => by have hx' : (Value.slice (some ⟨g1, 0, none⟩) C.ws.length l1).ownBlock = some x := hx; rw [← HS.out.2.2.1] at hx'; exact (World.ownsRow.lt i1 x hx').2, fun x hx => by have hx' : (Value.slice (some ⟨g2, 0, none⟩) C.bs.length l2).ownBlock = some x := hx; rw [← HS.out.2.2.2.1] at hx'; exact (World.ownsRow.lt i2 x hx').2⟩
        have hg : w1.grownBy W2 (some w.heap.size) := by rw [hW2]; exact setL_gw _ _ _
        refine ⟨_, _, ?_, (hp.congr (fun _ _ => rfl) (H := fun k => caE (f k)) (fun i hi => by by_cases e : i = k; (subst e; simp [HS.out.2.2.2.2.2.2]); simp [e])).keptT hg R1.rowO.exB (by decide) (by decide), ?_, ?_⟩
        · rw [hW2]; exact R1.set hlt _ rfl
        · simp only [if_neg (show ¬ k + 1 ≤ k by omega)]; exact hg.size
        · rw [hW2]; exact setL_below (Nat.le_refl _) _ _ _ (bel_nx HR.out.2.2.2 b1)
      have hW2' : W2 = (((((((((w1.setCell ⟨w.heap.size, k * 9, none⟩ (.int .i64 C.id)).setCell ⟨w.heap.size, k * 9 + 1, none⟩ (.int .i64 C.pa)).setCell ⟨w.heap.size, k * 9 + 2, none⟩ (.int .i64 C.un)).setCell ⟨w.heap.size, k * 9 + 3, none⟩ (.int .i64 C.kd)).setCell ⟨w.heap.size, k * 9 + 4, none⟩ (.int .i64 C.pl)).setCell ⟨w.heap.size, k * 9 + 5, none⟩ (.int .i64 C.n)).setCell ⟨w.heap.size, k * 9 + 6, none⟩ (.slice (some ⟨g1, 0, none⟩) l1 l1)).setCell ⟨w.heap.size, k * 9 + 7, none⟩ (.slice (some ⟨g2, 0, none⟩) l2 l2)).setCell ⟨w.heap.size, k * 9 + 8, none⟩ (.int .i64 C.wa)) := hW2
      have HE : Hid (∀ j, w1.frozen? ⟨w.heap.size, j, none⟩ = false) := R1.fro
      have q0 := HE.out (k * 9)
      have q1 := HE.out (k * 9 + 1)
      have q2 := HE.out (k * 9 + 2)
      have q3 := HE.out (k * 9 + 3)
      have q4 := HE.out (k * 9 + 4)
      have q5 := HE.out (k * 9 + 5)
      have q6 := HE.out (k * 9 + 6)
      have q7 := HE.out (k * 9 + 7)
      have q8 := HE.out (k * 9 + 8)
      clear R1 b1 HR HS i1 i2 d0 d1 d2 d3 d4 d5 d6 d7 d8 hW2 HE
      go_wp2
      rw [← hW2']
      clear hW2'
      go_roundw
      case rel =>
        obtain ⟨F', β', x1, x2, x3, x4⟩ := H2.out
        exact ⟨k + 1, F', β', by omega, by go_num, x1, x2, x3, x4⟩
      case measure => simp [intOf]; omega
    · have hi : ¬ (k : Int) < (n : Int) := by omega
      have e9 : k = n := by omega
      subst e9
      have HR : Hid (RowS wr w.heap.size 30 9 k F ∧ InE wr w.heap.size β F (fun k => caE (f k)) k ∧ β k ≤ wr.heap.size ∧ Below w.heap.size w wr) := ⟨hrow, hin, hbk, hb⟩
      clear hrow hin hbk hb
      go_wp2
      go_ret
      exact ⟨rfl, ⟨F, β, HR.out.1, HR.out.2.1, HR.out.2.2.1⟩, HR.out.2.2.2⟩
end Go.Proofs.YtmhdneenjoelfaaGreat
namespace Go.Proofs.YtmhdneenjoelfaaGreat
open Go.RowKit Go.Joins
set_option linter.unusedVariables false
set_option linter.unusedSimpArgs false
theorem row_same {w w' : World} {base e s n : Nat} {v : Value} {xs : List Value} (h : w.ownsRow base e s v n xs) (hs : ∀ g, v.ownBlock = some g → w'.heap[g]? = w.heap[g]?) : w'.ownsRow base e s v n xs := by
  obtain ⟨h1, h2⟩ := h
  refine ⟨h1, ?_⟩
  rcases h2 with h2 | ⟨g, cap, cur, hv, hg, hh, r⟩
  · exact .inl h2
  · refine .inr ⟨g, cap, cur, hv, hg, ?_, r⟩
    rw [hs g (by rw [hv]; simp [Value.ownBlock])]
    exact hh
def Ob (vs : List Value) (k : Nat) : Prop := ∃ v ∈ vs, v.ownBlock = some k
theorem Ob_els {E : El} {a1 a2 : Option Addr} {c1 c2 k : Nat} (hp : ∀ v ∈ E.pre, v.ownBlock = none) (hq : ∀ v ∈ E.post, v.ownBlock = none) : Ob (els E a1 a2 c1 c2) k ↔ (Value.slice a1 E.ws.length c1).ownBlock = some k ∨ (Value.slice a2 E.bs.length c2).ownBlock = some k := by
  constructor
  · rintro ⟨v, hv, hk⟩
    rw [List.mem_append, List.mem_cons, List.mem_cons] at hv
    rcases hv with hv | rfl | rfl | hv
    · rw [hp v hv] at hk; cases hk
    · exact .inl hk
    · exact .inr hk
    · rw [hq v hv] at hk; cases hk
  · rintro (hk | hk)
    · exact ⟨_, by simp, hk⟩
    · exact ⟨_, by simp, hk⟩
def Out (w w' : World) (g : Nat) (P : Nat → Prop) : Prop := w.heap.size ≤ w'.heap.size ∧ ∀ k, k < w.heap.size → k ≠ g → ¬ P k → w'.heap[k]? = w.heap[k]?
theorem Out.refl (w : World) (g : Nat) (P : Nat → Prop) : Out w w g P := ⟨Nat.le_refl _, fun _ _ _ _ => rfl⟩
theorem Out.trans {w w' w'' : World} {g : Nat} {P P' : Nat → Prop} (h : Out w w' g P) (h' : Out w' w'' g P') (hi : ∀ k, P' k → P k) : Out w w'' g P :=
  ⟨Nat.le_trans h.1 h'.1, fun k hk hne ho => by rw [h'.2 k (Nat.lt_of_lt_of_le hk h.1) hne (fun q => ho (hi k q)), h.2 k hk hne ho]⟩
theorem mark_elB {wr W1 W2 W3 : World} {base g o N z S : Nat} {t : TypeId} {F : Nat → List Value} {β : Nat → Nat} {G : Nat → El} {a1 a2 : Option Addr} {c1 c2 : Nat} {p' q' : List Value} {ws' : List Int} {bs' : List Bool}
    (ht1 : t ≠ 3) (ht2 : t ≠ 4) (hC : RowO wr g t S o N F) (hb : base ≤ g) (hI : InE wr base β F G N) (hz : z < N)
    (hF : F z = els (G z) a1 a2 c1 c2) (o1 : OwnI wr (β z) (.slice a1 (G z).ws.length c1) (G z).ws) (o2 : OwnB wr (β z) (.slice a2 (G z).bs.length c2) (G z).bs) (k1 : ∀ k, (Value.slice a1 (G z).ws.length c1).ownBlock = some k → k < β (z + 1)) (k2 : ∀ k, (Value.slice a2 (G z).bs.length c2).ownBlock = some k → k < β (z + 1))
    (hS : S = (G z).pre.length + 2 + (G z).post.length) (hp : p'.length = (G z).pre.length) (hq : q'.length = (G z).post.length) (hw : ws'.length = (G z).ws.length) (hbl : bs'.length = (G z).bs.length)
    (hW1 : W1 = setL wr g (o + z * S) p')
    (m1 : OwnI W2 (β z) (.slice a1 (G z).ws.length c1) ws') (g1 : W1.grownBy W2 (Value.slice a1 (G z).ws.length c1).ownBlock) (m2 : OwnB W3 (β z) (.slice a2 (G z).bs.length c2) bs') (g2 : W2.grownBy W3 (Value.slice a2 (G z).bs.length c2).ownBlock) :
    (RowO (setL W3 g (o + z * S + (p'.length + 2)) q') g t S o N (fun i => if i = z then els ⟨p', ws', bs', q'⟩ a1 a2 c1 c2 else F i) ∧ InE (setL W3 g (o + z * S + (p'.length + 2)) q') base β (fun i => if i = z then els ⟨p', ws', bs', q'⟩ a1 a2 c1 c2 else F i) (fun k => if k = z then ⟨p', ws', bs', q'⟩ else G k) N) ∧ Below base wr (setL W3 g (o + z * S + (p'.length + 2)) q') ∧ Out wr (setL W3 g (o + z * S + (p'.length + 2)) q') g (fun k => (Value.slice a1 (G z).ws.length c1).ownBlock = some k ∨ (Value.slice a2 (G z).bs.length c2).ownBlock = some k) := by
  obtain ⟨h0, hm, hP⟩ := hI
  have hlt := hC.lt
  obtain ⟨cs, hX⟩ := hC.exB
  have C1 : RowO W1 g t S o N (fun i => if i = z then els ⟨p', (G z).ws, (G z).bs, (G z).post⟩ a1 a2 c1 c2 else F i) := by
    rw [hW1]
    refine hC.upd (i := 0) hz p' _ (by omega) (fun j hj => ?_)
    rw [hF]
    simp only [els]
    rw [els_at p' _ [], els_at (G z).pre _ [], hp]
    by_cases e : j < (G z).pre.length
    · rw [if_pos e, if_pos (by omega)]; simp
    · rw [if_neg (show ¬ (0 ≤ j ∧ j < 0 + (G z).pre.length) by omega), if_neg e, if_neg e]
  have G1 : wr.grownBy W1 (some g) := by rw [hW1]; exact setL_gw _ _ _
  have p1 : OwnI W1 (β z) (.slice a1 (G z).ws.length c1) (G z).ws := o1.kept G1 (.inr (row_noBlk o1 hX ht1))
  have p2 : OwnB W1 (β z) (.slice a2 (G z).bs.length c2) (G z).bs := o2.kept G1 (.inr (row_noBlk o2 hX ht2))
  have C2 := C1.keptV p1 g1 ht1
  have p2' : OwnB W2 (β z) (.slice a2 (G z).bs.length c2) (G z).bs := p2.kept g1 (ne_typesE p2 p1 (by decide))
  have C3 := C2.keptV p2' g2 ht2
  obtain ⟨cs3, hX3⟩ := C3.exB
  have m1' : OwnI W3 (β z) (.slice a1 (G z).ws.length c1) ws' := m1.kept g2 (ne_typesE m1 p2' (by decide))
  have G4 : W3.grownBy (setL W3 g (o + z * S + (p'.length + 2)) q') (some g) := setL_gw _ _ _
  have C4 := C3.upd (i := p'.length + 2) hz q' (els ⟨p', ws', bs', q'⟩ a1 a2 c1 c2) (by omega) (fun j hj => by
    simp only [if_pos, els]
    rw [els_at p' _ [], els_at p' _ [], hw, hbl]
    by_cases e : j < p'.length
    · rw [if_pos e, if_neg (by omega), if_pos e]
    · by_cases e1 : j = p'.length
      · rw [if_neg e, if_pos e1, if_neg (by omega), if_neg e, if_pos e1]
      · by_cases e2 : j = p'.length + 1
        · rw [if_neg e, if_neg e1, if_pos e2, if_neg (by omega), if_neg e, if_neg e1, if_pos e2]
        · rw [if_neg e, if_neg e1, if_neg e2, if_pos (by omega), show j - (p'.length + 2) = j - p'.length - 2 by omega])
  have hx1 : ∀ gx, (Value.slice a1 (G z).ws.length c1).ownBlock = some gx → β z ≤ gx ∧ gx < β (z + 1) := fun gx e => ⟨(World.ownsRow.lt o1 gx e).1, k1 gx e⟩
  have hx2 : ∀ gx, (Value.slice a2 (G z).bs.length c2).ownBlock = some gx → β z ≤ gx ∧ gx < β (z + 1) := fun gx e => ⟨(World.ownsRow.lt o2 gx e).1, k2 gx e⟩
  have hbz : base ≤ β z := Nat.le_trans h0 (bt_mono hm (Nat.zero_le z))
  refine ⟨⟨C4.congr (fun i _ => by by_cases e : i = z <;> simp [e]), h0, hm, fun k hk => ?_⟩, ?_, ?_, ?_⟩
  · by_cases e : k = z
    · subst e
      simp only [if_pos]
      refine ⟨a1, a2, c1, c2, rfl, ?_, ?_, ?_, ?_⟩
      · simp only [hw]
        exact m1'.kept G4 (.inr (row_noBlk m1' hX3 ht1))
      · simp only [hbl]
        exact m2.kept G4 (.inr (row_noBlk m2 hX3 ht2))
      · simp only [hw]; exact k1
      · simp only [hbl]; exact k2
    · simp only [if_neg e]
      have hd : ∀ gx, β z ≤ gx ∧ gx < β (z + 1) → gx < β k ∨ β (k + 1) ≤ gx := by
        intro gx ⟨q1, q2⟩
        rcases Nat.lt_or_ge k z with h9 | h9
        · right; have := bt_mono hm (show k + 1 ≤ z by omega); omega
        · left; have := bt_mono hm (show z + 1 ≤ k by omega); omega
      have A1 := (hP k hk).kept G1 (.inr (.inr ⟨_, ⟨cs, hX⟩, ht1, ht2⟩))
      have A2 := A1.keptV g1 (fun gx e => hd gx (hx1 gx e))
      have A3 := A2.keptV g2 (fun gx e => hd gx (hx2 gx e))
      exact A3.kept G4 (.inr (.inr ⟨_, ⟨cs3, hX3⟩, ht1, ht2⟩))
  · by_cases hs : base ≤ wr.heap.size
    · have B1 : Below base wr W1 := (Below.refl base wr).grown G1 hs (fun k hk => by have := Option.some.inj hk; omega)
      have B2 : Below base wr W2 := B1.grown g1 (Nat.le_trans hs G1.size) (fun k hk => Nat.le_trans hbz (hx1 k hk).1)
      have B3 : Below base wr W3 := B2.grown g2 (Nat.le_trans hs (Nat.le_trans G1.size g1.size)) (fun k hk => Nat.le_trans hbz (hx2 k hk).1)
      exact B3.grown G4 (Nat.le_trans hs (Nat.le_trans G1.size (Nat.le_trans g1.size g2.size))) (fun k hk => by have := Option.some.inj hk; omega)
    · omega
  · exact Nat.le_trans G1.size (Nat.le_trans g1.size (Nat.le_trans g2.size G4.size))
  · intro k hk hne ho
    have s1 := Nat.lt_of_lt_of_le hk G1.size
    have s2 := Nat.lt_of_lt_of_le s1 g1.size
    have s3 := Nat.lt_of_lt_of_le s2 g2.size
    rw [G4.block k s3 (fun e => hne (Option.some.inj e)), g2.block k s2 (fun e => ho (.inr e.symm)), g1.block k s1 (fun e => ho (.inl e.symm)), G1.block k hk (fun e => hne (Option.some.inj e))]
theorem markIntS_a (a : Option Addr) (n cap base s : Nat) (x : Int) (zs : List Int) (w : World) (hx : x = ((s : Nat) : Int)) (h : OwnI w base (.slice a n cap) zs) (hl : n ≤ 3000000) (hs' : s ≤ 9000000) :
    Calls Tryz.prog 63 #[.slice a n cap, .int .i64 x] w fun e w' => e = .returned (.int .i64 ((s : Int) + (n : Int))) ∧ OwnI w' base (.slice a n cap) (marksI s n) ∧ w.grownBy w' (Value.slice a n cap).ownBlock := by
  subst hx
  exact markIntS_from a n cap base s zs w h hl hs'
theorem heldIntS_a (a : Option Addr) (n cap s : Nat) (x : Int) (w : World) (hx : x = ((s : Nat) : Int)) (hs : SlI w a (marksI s n)) (hl : n ≤ 3000000) (hs' : s ≤ 9000000) :
    Calls Tryz.prog 67 #[.slice a n cap, .int .i64 x] w fun e w' => e = .returned (.int .i64 ((s : Int) + (n : Int))) ∧ w' = w := by
  subst hx
  exact heldIntS_from a n cap s w hs hl hs'
end Go.Proofs.YtmhdneenjoelfaaGreat
namespace Go.Proofs.YtmhdneenjoelfaaGreat
open Go.RowKit Go.Joins
set_option linter.unusedVariables false
set_option linter.unusedSimpArgs false
structure La where
  bz : Bool
  c : Ca
  nu : Int
  du : Int
  le : Int
  nx : Int
  wt : Int
  tr : Int
abbrev lacL (L : La) (a : Option Addr) (n cp : Nat) (a1 a2 : Option Addr) (l1 l2 c1 c2 : Nat) : List Value := [.slice a n cp, .bool L.bz, .int .i64 L.c.id, .int .i64 L.c.pa, .int .i64 L.c.un, .int .i64 L.c.kd, .int .i64 L.c.pl, .int .i64 L.c.n, .slice a1 l1 c1, .slice a2 l2 c2, .int .i64 L.c.wa, .int .i64 L.nu, .int .i64 L.du, .int .i64 L.le, .int .i64 L.nx, .int .i64 L.wt, .int .i64 L.tr]
abbrev lac (L : La) (a : Option Addr) (n cp : Nat) (a1 a2 : Option Addr) (l1 l2 c1 c2 : Nat) : Array Value := #[.slice a n cp, .bool L.bz, .int .i64 L.c.id, .int .i64 L.c.pa, .int .i64 L.c.un, .int .i64 L.c.kd, .int .i64 L.c.pl, .int .i64 L.c.n, .slice a1 l1 c1, .slice a2 l2 c2, .int .i64 L.c.wa, .int .i64 L.nu, .int .i64 L.du, .int .i64 L.le, .int .i64 L.nx, .int .i64 L.wt, .int .i64 L.tr]
abbrev lzc : Array Value := #[.slice none 0 0, .bool false, .int .i64 0, .int .i64 0, .int .i64 0, .int .i64 0, .int .i64 0, .int .i64 0, .slice none 0 0, .slice none 0 0, .int .i64 0, .int .i64 0, .int .i64 0, .int .i64 0, .int .i64 0, .int .i64 0, .int .i64 0]
theorem Blk.svn {w : World} {g : Nat} {t : TypeId} {v0 v1 v2 v3 v4 v5 v6 v7 v8 v9 v10 v11 v12 v13 v14 v15 v16 : Value} (h : Blk w g t #[v0, v1, v2, v3, v4, v5, v6, v7, v8, v9, v10, v11, v12, v13, v14, v15, v16]) : (w.cell? ⟨g, 0, none⟩ = some v0 ∧ w.cell? ⟨g, 1, none⟩ = some v1 ∧ w.cell? ⟨g, 2, none⟩ = some v2 ∧ w.cell? ⟨g, 3, none⟩ = some v3 ∧ w.cell? ⟨g, 4, none⟩ = some v4 ∧ w.cell? ⟨g, 5, none⟩ = some v5 ∧ w.cell? ⟨g, 6, none⟩ = some v6 ∧ w.cell? ⟨g, 7, none⟩ = some v7 ∧ w.cell? ⟨g, 8, none⟩ = some v8 ∧ w.cell? ⟨g, 9, none⟩ = some v9 ∧ w.cell? ⟨g, 10, none⟩ = some v10 ∧ w.cell? ⟨g, 11, none⟩ = some v11 ∧ w.cell? ⟨g, 12, none⟩ = some v12 ∧ w.cell? ⟨g, 13, none⟩ = some v13 ∧ w.cell? ⟨g, 14, none⟩ = some v14 ∧ w.cell? ⟨g, 15, none⟩ = some v15 ∧ w.cell? ⟨g, 16, none⟩ = some v16) ∧ ∀ j, w.frozen? ⟨g, j, none⟩ = false :=
  ⟨⟨h.cell 0 rfl, h.cell 1 rfl, h.cell 2 rfl, h.cell 3 rfl, h.cell 4 rfl, h.cell 5 rfl, h.cell 6 rfl, h.cell 7 rfl, h.cell 8 rfl, h.cell 9 rfl, h.cell 10 rfl, h.cell 11 rfl, h.cell 12 rfl, h.cell 13 rfl, h.cell 14 rfl, h.cell 15 rfl, h.cell 16 rfl⟩, h.fro⟩
theorem lwr0_2 (v0 v1 v2 v3 v4 v5 v6 v7 v8 v9 v10 v11 v12 v13 v14 v15 v16 x0 x1 : Value) : wrA #[v0, v1, v2, v3, v4, v5, v6, v7, v8, v9, v10, v11, v12, v13, v14, v15, v16] 0 [x0, x1] = #[x0, x1, v2, v3, v4, v5, v6, v7, v8, v9, v10, v11, v12, v13, v14, v15, v16] := by simp [wrA]
theorem lwr2_9 (v0 v1 v2 v3 v4 v5 v6 v7 v8 v9 v10 v11 v12 v13 v14 v15 v16 x2 x3 x4 x5 x6 x7 x8 x9 x10 : Value) : wrA #[v0, v1, v2, v3, v4, v5, v6, v7, v8, v9, v10, v11, v12, v13, v14, v15, v16] 2 [x2, x3, x4, x5, x6, x7, x8, x9, x10] = #[v0, v1, x2, x3, x4, x5, x6, x7, x8, x9, x10, v11, v12, v13, v14, v15, v16] := by simp [wrA]
theorem lwr11_6 (v0 v1 v2 v3 v4 v5 v6 v7 v8 v9 v10 v11 v12 v13 v14 v15 v16 x11 x12 x13 x14 x15 x16 : Value) : wrA #[v0, v1, v2, v3, v4, v5, v6, v7, v8, v9, v10, v11, v12, v13, v14, v15, v16] 11 [x11, x12, x13, x14, x15, x16] = #[v0, v1, v2, v3, v4, v5, v6, v7, v8, v9, v10, x11, x12, x13, x14, x15, x16] := by simp [wrA]
theorem lwr0_17 (v0 v1 v2 v3 v4 v5 v6 v7 v8 v9 v10 v11 v12 v13 v14 v15 v16 x0 x1 x2 x3 x4 x5 x6 x7 x8 x9 x10 x11 x12 x13 x14 x15 x16 : Value) : wrA #[v0, v1, v2, v3, v4, v5, v6, v7, v8, v9, v10, v11, v12, v13, v14, v15, v16] 0 [x0, x1, x2, x3, x4, x5, x6, x7, x8, x9, x10, x11, x12, x13, x14, x15, x16] = #[x0, x1, x2, x3, x4, x5, x6, x7, x8, x9, x10, x11, x12, x13, x14, x15, x16] := by simp [wrA]
theorem InE.ob {w : World} {base n j k : Nat} {β : Nat → Nat} {F : Nat → List Value} {f : Nat → Ca} (h : InE w base β F (fun k => caE (f k)) n) (hj : j < n) (ho : Ob (F j) k) : base ≤ k ∧ k < β n ∧ k < w.heap.size := by
  obtain ⟨h0, hm, hP⟩ := h
  obtain ⟨a1, a2, c1, c2, e, o1, o2, k1, k2⟩ := hP j hj
  rw [e] at ho
  have hlo := bt_mono hm (Nat.zero_le j)
  have hhi := bt_mono hm (show j + 1 ≤ n by omega)
  rcases (Ob_els (E := caE (f j)) (by simp [caE, Value.ownBlock]) (by simp [caE, Value.ownBlock])).1 ho with q | q
  · have q1 := World.ownsRow.lt o1 k q
    have q2 := k1 k q
    omega
  · have q1 := World.ownsRow.lt o2 k q
    have q2 := k2 k q
    omega
def LnR (w : World) (n : Nat) (f : Nat → Ca) (L : La) (a a1 a2 : Option Addr) (l1 l2 : Nat) : Prop := l1 = L.c.ws.length ∧ l2 = L.c.bs.length ∧ SlC w a n f ∧ SlI w a1 L.c.ws ∧ SlB w a2 L.c.bs
def LnP (w : World) (base n : Nat) (f : Nat → Ca) (L : La) (a : Option Addr) (cp : Nat) (a1 a2 : Option Addr) (l1 l2 c1 c2 : Nat) : Prop :=
  l1 = L.c.ws.length ∧ l2 = L.c.bs.length ∧ ∃ (F : Nat → List Value) (β : Nat → Nat), OwnO w base 30 9 (.slice a n cp) n F ∧ InE w base β F (fun k => caE (f k)) n ∧ OwnI w base (.slice a1 l1 c1) L.c.ws ∧ OwnB w base (.slice a2 l2 c2) L.c.bs ∧
    (∀ k, (Value.slice a1 l1 c1).ownBlock = some k → ∀ j, j < n → ¬ Ob (F j) k) ∧ (∀ k, (Value.slice a2 l2 c2).ownBlock = some k → ∀ j, j < n → ¬ Ob (F j) k)
section
variable {w w' : World} {base n cp l1 l2 c1 c2 : Nat} {f : Nat → Ca} {L : La} {a a1 a2 : Option Addr}
theorem LnR.below (h : LnR w n f L a a1 a2 l1 l2) (hb : Below w.heap.size w w') : LnR w' n f L a a1 a2 l1 l2 := ⟨h.1, h.2.1, h.2.2.1.below hb, h.2.2.2.1.below hb, h.2.2.2.2.below hb⟩
theorem LnP.below (h : LnP w base n f L a cp a1 a2 l1 l2 c1 c2) (hb : Below w.heap.size w w') : LnP w' base n f L a cp a1 a2 l1 l2 c1 c2 := by
  obtain ⟨h1, h2, F, β, h3, h4, h5, h6, h7⟩ := h
  exact ⟨h1, h2, F, β, h3.below hb, h4.below hb, h5.below hb, h6.below hb, h7⟩
theorem LnP.rd (h : LnP w base n f L a cp a1 a2 l1 l2 c1 c2) : LnR w n f L a a1 a2 l1 l2 := by
  obtain ⟨h1, h2, F, β, h3, h4, h5, h6, h7⟩ := h
  exact ⟨h1, h2, OwnL.sl ⟨F, β, h3, h4⟩, h5.sl.2, h6.sl.2⟩
theorem LnP.keptT {gx : Nat} {t' : TypeId} (h : LnP w base n f L a cp a1 a2 l1 l2 c1 c2) (hg : w.grownBy w' (some gx)) (hx : ExB w gx t') (h0 : t' ≠ 30) (k1 : t' ≠ 3) (k2 : t' ≠ 4) : LnP w' base n f L a cp a1 a2 l1 l2 c1 c2 := by
  obtain ⟨h1, h2, F, β, h3, h4, h5, h6, h7⟩ := h
  have hx' := hx
  obtain ⟨cs, hb⟩ := hx'
  exact ⟨h1, h2, F, β, h3.kept hg (.inr ⟨t', hx, h0⟩), h4.keptT hg hx k1 k2, h5.kept hg (.inr (row_noBlk h5 hb k1)), h6.kept hg (.inr (row_noBlk h6 hb k2)), h7⟩
end
def lfL (n : Nat) (f : Nat → Ca) (l1 l2 : Nat) : Int := if n + tl f n + l1 + l2 ≤ 1048576 then (((1048576 - (n + tl f n + l1 + l2) : Nat)) : Int) else -1
set_option maxRecDepth 20000 in
set_option maxHeartbeats 2000000 in
theorem szLine_any (L : La) (a a1 a2 : Option Addr) (n cp l1 l2 c1 c2 : Nat) (f : Nat → Ca) (w : World) (hs : LnR w n f L a a1 a2 l1 l2) (hn : n ≤ maxLen) (hm : ∀ k, k < n → (f k).ws.length ≤ maxLen ∧ (f k).bs.length ≤ maxLen) (hm1 : l1 ≤ maxLen) (hm2 : l2 ≤ maxLen) :
    Calls Tryz.prog 13 #[.agg (lac L a n cp a1 a2 l1 l2 c1 c2), .int .i64 1048576] w fun e w' => e = .returned (.int .i64 (lfL n f l1 l2)) ∧ Below w.heap.size w w' := by
  obtain ⟨W, hW⟩ : ∃ W, W = w.alloc (.cells (lac L a n cp a1 a2 l1 l2 c1 c2) 53) := ⟨_, rfl⟩
  have bW : Below w.heap.size w W := by rw [hW]; exact bel_alloc _ _
  have A0 : Blk W w.heap.size 53 (lac L a n cp a1 a2 l1 l2 c1 c2) := by rw [hW]; exact Blk.new _ _ _
  have H0 : Hid (SlC W a n f ∧ Below w.heap.size w W ∧ Blk W w.heap.size 53 (lac L a n cp a1 a2 l1 l2 c1 c2) ∧ n ≤ maxLen ∧ (∀ k, k < n → (f k).ws.length ≤ maxLen ∧ (f k).bs.length ≤ maxLen) ∧ l1 ≤ maxLen ∧ l2 ≤ maxLen) := ⟨hs.2.2.1.below bW, bW, A0, hn, hm, hm1, hm2⟩
  obtain ⟨⟨y0, y1, y2, y3, y4, y5, y6, y7, y8, y9, y10, y11, y12, y13, y14, y15, y16⟩, yf⟩ := A0.svn
  clear hs bW A0 hn hm hm1 hm2 yf
  obtain ⟨x, hx⟩ : ∃ x, x = lfS 1048576 n f := ⟨_, rfl⟩
  have HX : Hid (x = lfS 1048576 n f) := hx
  by_cases hf : n + tl f n ≤ 1048576
  · obtain ⟨lf, hlf⟩ : ∃ lf : Nat, lf = 1048576 - n - tl f n := ⟨_, rfl⟩
    have HL : Hid ((lf : Int) = lfS 1048576 n f ∧ lf ≤ 1048576 ∧ lfL n f l1 l2 = lfC lf l1 l2) := by
      refine ⟨?_, by omega, ?_⟩
      · unfold lfS; rw [if_pos hf]; omega
      · unfold lfL lfC
        by_cases h9 : l1 + l2 ≤ lf
        · rw [if_pos (by omega), if_pos h9]; omega
        · rw [if_neg (by omega), if_neg h9]
    have hx0 : ¬ (lf : Int) < 0 := by omega
    obtain ⟨y, hy⟩ : ∃ y, y = lfC lf l1 l2 := ⟨_, rfl⟩
    have HY : Hid (y = lfC lf l1 l2 ∧ (y < 0 → y = -1)) := ⟨hy, by intro h; rw [hy] at h ⊢; unfold lfC at h ⊢; by_cases e : l1 + l2 ≤ lf <;> simp [e] at h ⊢; omega⟩
    clear hx hf hlf hy x HX
    rw [HL.out.2.2, ← HY.out.1]
    by_cases hlt : y < 0
    · obtain rfl := HY.out.2 hlt
      go_enter Tryz.func13, Tryz.ntmps13
      go_upto_region 1 with fail
      rw [← hW]
      clear hW
      go_wp2_with fail
      refine (szCallS_any a n cp 1048576 f _ H0.out.1 H0.out.2.2.2.1 H0.out.2.2.2.2.1 (Nat.le_refl _)).mono ?_
      rintro e w1 ⟨rfl, b1⟩
      rw [← HL.out.1]
      have HB : Hid (Below w.heap.size w w1) := bel_nx H0.out.2.1 b1
      have A1 := H0.out.2.2.1.below b1
      clear b1 y0 y1 y2 y3 y4 y5 y6 y7 y8 y9 y10 y11 y12 y13 y14 y15 y16
      obtain ⟨⟨y0, y1, y2, y3, y4, y5, y6, y7, y8, y9, y10, y11, y12, y13, y14, y15, y16⟩, yf⟩ := A1.svn
      clear A1 yf
      go_wp2_with fail
      refine (szCall_any L.c a1 a2 l1 l2 c1 c2 lf _ H0.out.2.2.2.2.2.1 H0.out.2.2.2.2.2.2 HL.out.2.1).mono ?_
      rintro e w2 ⟨rfl, b2⟩
      rw [← HY.out.1]
      have HB2 : Hid (Below w.heap.size w w2) := bel_nx HB.out b2
      clear b2 y0 y1 y2 y3 y4 y5 y6 y7 y8 y9 y10 y11 y12 y13 y14 y15 y16
      go_wp2
      go_ret
      exact ⟨rfl, HB2.out⟩
    · go_enter Tryz.func13, Tryz.ntmps13
      go_upto_region 1 with fail
      rw [← hW]
      clear hW
      go_wp2_with fail
      refine (szCallS_any a n cp 1048576 f _ H0.out.1 H0.out.2.2.2.1 H0.out.2.2.2.2.1 (Nat.le_refl _)).mono ?_
      rintro e w1 ⟨rfl, b1⟩
      rw [← HL.out.1]
      have HB : Hid (Below w.heap.size w w1) := bel_nx H0.out.2.1 b1
      have A1 := H0.out.2.2.1.below b1
      clear b1 y0 y1 y2 y3 y4 y5 y6 y7 y8 y9 y10 y11 y12 y13 y14 y15 y16
      obtain ⟨⟨y0, y1, y2, y3, y4, y5, y6, y7, y8, y9, y10, y11, y12, y13, y14, y15, y16⟩, yf⟩ := A1.svn
      clear A1 yf
      go_wp2_with fail
      refine (szCall_any L.c a1 a2 l1 l2 c1 c2 lf _ H0.out.2.2.2.2.2.1 H0.out.2.2.2.2.2.2 HL.out.2.1).mono ?_
      rintro e w2 ⟨rfl, b2⟩
      rw [← HY.out.1]
      have HB2 : Hid (Below w.heap.size w w2) := bel_nx HB.out b2
      clear b2 y0 y1 y2 y3 y4 y5 y6 y7 y8 y9 y10 y11 y12 y13 y14 y15 y16
      go_wp2
      go_ret
      exact ⟨rfl, HB2.out⟩
  · have hx1 : x = -1 := by rw [hx]; unfold lfS; rw [if_neg hf]
    have HE : Hid (lfL n f l1 l2 = -1) := by show lfL n f l1 l2 = -1; unfold lfL; rw [if_neg (by omega)]
    subst hx1
    clear hx hf
    rw [HE.out]
    go_enter Tryz.func13, Tryz.ntmps13
    go_upto_region 1 with fail
    rw [← hW]
    clear hW
    go_wp2_with fail
    refine (szCallS_any a n cp 1048576 f _ H0.out.1 H0.out.2.2.2.1 H0.out.2.2.2.2.1 (Nat.le_refl _)).mono ?_
    rintro e w1 ⟨rfl, b1⟩
    rw [← HX.out]
    have HB : Hid (Below w.heap.size w w1) := bel_nx H0.out.2.1 b1
    clear b1 y0 y1 y2 y3 y4 y5 y6 y7 y8 y9 y10 y11 y12 y13 y14 y15 y16
    go_wp2
    go_ret
    exact ⟨rfl, HB.out⟩
set_option maxRecDepth 20000 in
set_option maxHeartbeats 4000000 in
theorem eqLine_true (L : La) (a a1 a2 a' a1' a2' : Option Addr) (n cp l1 l2 c1 c2 cp' l1' l2' c1' c2' : Nat) (f : Nat → Ca) (w : World) (hs : LnR w n f L a a1 a2 l1 l2) (hs' : LnR w n f L a' a1' a2' l1' l2') (hb : BdC n f) (hl1 : l1 ≤ 2000000) (hl2 : l2 ≤ 2000000) :
    Calls Tryz.prog 16 #[.agg (lac L a n cp a1 a2 l1 l2 c1 c2), .agg (lac L a' n cp' a1' a2' l1' l2' c1' c2')] w fun e w' => e = .returned (.bool true) ∧ Below w.heap.size w w' := by
  obtain rfl : l1' = l1 := by rw [hs.1, hs'.1]
  obtain rfl : l2' = l2 := by rw [hs.2.1, hs'.2.1]
  obtain ⟨W, hW⟩ : ∃ W, W = (w.alloc (.cells (lac L a n cp a1 a2 l1' l2' c1 c2) 32)).alloc (.cells (lac L a' n cp' a1' a2' l1' l2' c1' c2') 32) := ⟨_, rfl⟩
  have bW : Below w.heap.size w W := by rw [hW]; exact bel_nx (bel_alloc w _) (bel_alloc _ _)
  have A0 : Blk W w.heap.size 32 (lac L a n cp a1 a2 l1' l2' c1 c2) := by rw [hW]; exact (Blk.new w _ _).below (bel_alloc _ _)
  have R0 : Blk W (w.heap.size + 1) 32 (lac L a' n cp' a1' a2' l1' l2' c1' c2') := by
    rw [hW]; have := Blk.new (w.alloc (.cells (lac L a n cp a1 a2 l1' l2' c1 c2) 32)) (lac L a' n cp' a1' a2' l1' l2' c1' c2') 32; simpa using this
  have H0 : Hid (LnR W n f L a a1 a2 l1' l2' ∧ LnR W n f L a' a1' a2' l1' l2' ∧ Below w.heap.size w W ∧ Blk W w.heap.size 32 (lac L a n cp a1 a2 l1' l2' c1 c2) ∧ Blk W (w.heap.size + 1) 32 (lac L a' n cp' a1' a2' l1' l2' c1' c2') ∧ BdC n f) := ⟨hs.below bW, hs'.below bW, bW, A0, R0, hb⟩
  obtain ⟨⟨y0, y1, y2, y3, y4, y5, y6, y7, y8, y9, y10, y11, y12, y13, y14, y15, y16⟩, yf⟩ := A0.svn
  obtain ⟨⟨z0, z1, z2, z3, z4, z5, z6, z7, z8, z9, z10, z11, z12, z13, z14, z15, z16⟩, zf⟩ := R0.svn
  clear hs hs' bW A0 R0 hb yf zf
  go_enter Tryz.func16, Tryz.ntmps16
  go_upto_region 1 with fail
  rw [← hW]
  clear hW
  go_wp2_with fail
  refine (eqCallS_true a a' n cp cp' f _ H0.out.1.2.2.1 H0.out.2.1.2.2.1 H0.out.2.2.2.2.2).mono ?_
  rintro e w1 ⟨rfl, b1⟩
  have H1 : Hid (LnR w1 n f L a a1 a2 l1' l2' ∧ LnR w1 n f L a' a1' a2' l1' l2' ∧ Below w.heap.size w w1 ∧ Blk w1 w.heap.size 32 (lac L a n cp a1 a2 l1' l2' c1 c2) ∧ Blk w1 (w.heap.size + 1) 32 (lac L a' n cp' a1' a2' l1' l2' c1' c2')) := ⟨H0.out.1.below b1, H0.out.2.1.below b1, bel_nx H0.out.2.2.1 b1, H0.out.2.2.2.1.below b1, H0.out.2.2.2.2.1.below b1⟩
  clear b1 y0 y1 y2 y3 y4 y5 y6 y7 y8 y9 y10 y11 y12 y13 y14 y15 y16 z0 z1 z2 z3 z4 z5 z6 z7 z8 z9 z10 z11 z12 z13 z14 z15 z16 H0
  obtain ⟨⟨y0, y1, y2, y3, y4, y5, y6, y7, y8, y9, y10, y11, y12, y13, y14, y15, y16⟩, yf⟩ := H1.out.2.2.2.1.svn
  obtain ⟨⟨z0, z1, z2, z3, z4, z5, z6, z7, z8, z9, z10, z11, z12, z13, z14, z15, z16⟩, zf⟩ := H1.out.2.2.2.2.svn
  clear yf zf
  go_wp2_with fail
  refine (eqCall_true L.c a1 a2 a1' a2' l1' l2' c1 c2 c1' c2' _ H1.out.1.1 H1.out.1.2.1 H1.out.1.2.2.2.1 H1.out.1.2.2.2.2 H1.out.2.1.2.2.2.1 H1.out.2.1.2.2.2.2 (by rw [← H1.out.1.1]; exact hl1) (by rw [← H1.out.1.2.1]; exact hl2)).mono ?_
  rintro e w2 ⟨rfl, b2⟩
  have H2 : Hid (Below w.heap.size w w2 ∧ Blk w2 w.heap.size 32 (lac L a n cp a1 a2 l1' l2' c1 c2) ∧ Blk w2 (w.heap.size + 1) 32 (lac L a' n cp' a1' a2' l1' l2' c1' c2')) := ⟨bel_nx H1.out.2.2.1 b2, H1.out.2.2.2.1.below b2, H1.out.2.2.2.2.below b2⟩
  clear b2 y0 y1 y2 y3 y4 y5 y6 y7 y8 y9 y10 y11 y12 y13 y14 y15 y16 z0 z1 z2 z3 z4 z5 z6 z7 z8 z9 z10 z11 z12 z13 z14 z15 z16 H1
  obtain ⟨⟨y0, y1, y2, y3, y4, y5, y6, y7, y8, y9, y10, y11, y12, y13, y14, y15, y16⟩, yf⟩ := H2.out.2.1.svn
  obtain ⟨⟨z0, z1, z2, z3, z4, z5, z6, z7, z8, z9, z10, z11, z12, z13, z14, z15, z16⟩, zf⟩ := H2.out.2.2.svn
  clear yf zf
  go_wp2
  go_ret
  exact ⟨rfl, H2.out.1⟩
end Go.Proofs.YtmhdneenjoelfaaGreat
namespace Go.Proofs.YtmhdneenjoelfaaGreat
open Go.ChangeShapes Go.WideShapes Go.ChangeAt Go.RowKit Go.Deep Go.Joins
set_option linter.unusedVariables false
instance : Inhabited Ca := ⟨ca0⟩
theorem choose_lt' {α : Type} [Inhabited α] {p : Nat → α → Prop} {n : Nat} (h : ∀ k, k < n → ∃ x, p k x) : ∃ f : Nat → α, ∀ k, k < n → p k (f k) := by
  classical
  exact ⟨fun k => if hk : k < n then Classical.choose (h k hk) else default, fun k hk => by simp only [dif_pos hk]; exact Classical.choose_spec (h k hk)⟩
section
variable {H : Type} {enc : TypeId × Value → H} {P : Program} {w : World} {base : Nat} {held : Bool}
def InCa (w : World) (C : Ca) (a b : Option Addr) : Prop := C.ws.length ≤ maxLen ∧ C.bs.length ≤ maxLen ∧ SlI w a C.ws ∧ SlB w b C.bs
def InLn (w : World) (n : Nat) (f : Nat → Ca) (L : La) (a a1 a2 : Option Addr) (l1 l2 : Nat) : Prop := LnR w n f L a a1 a2 l1 l2 ∧ n ≤ maxLen ∧ (∀ k, k < n → (f k).ws.length ≤ maxLen ∧ (f k).bs.length ≤ maxLen) ∧ l1 ≤ maxLen ∧ l2 ≤ maxLen
theorem opened_cellsL {t e : TypeId} {fuel s : Nat} {a : Option Addr} {len cap : Nat} {x : DataW H × List MemPlace} (ht : P.underlying t = some (.slice e)) (hs : P.cellsOf e = s) (h0 : 0 < s)
    (hf : DataW.trod enc P w base (fun _ => true) held fuel t [.slice a len cap] = some x) :
    len ≤ maxLen ∧ ∃ F : Nat → List Value, SlS w a s len F ∧ ∀ k, k < len → (F k).length = s ∧ ∃ n y, DataW.trod enc P w base (fun _ => true) held n e (F k) = some y := by
  rcases open_slice ht hf with ⟨hcs, _⟩ | ⟨x, l, c, m, n, D, Pl, hcs, _, hl, hm, hmm, _, hx⟩
  · simp at hcs
    obtain ⟨rfl, rfl, rfl⟩ := hcs
    exact ⟨Nat.zero_le _, fun _ => [], .inl rfl, fun k hk => by omega⟩
  · simp at hcs
    obtain ⟨rfl, rfl, rfl⟩ := hcs
    simp only [if_true] at hmm
    subst hmm
    rw [hs] at hx
    obtain ⟨F, hF⟩ := choose_lt (α := List Value) (p := fun i cs' => w.cells? base (x.add (i * s)) s = some cs' ∧ DataW.trod enc P w base (fun _ => true) held n e cs' = some (D i, Pl i)) (fun i hi => hx i hi)
    refine ⟨by omega, F, ?_, fun k hk => ⟨(World.cells?_some (hF k (by omega)).1).2.1, n, _, (hF k (by omega)).2⟩⟩
    by_cases e0 : len = 0
    · exact .inl e0
    · have hc0 := (World.cells?_some (hF 0 (by omega)).1)
      obtain ⟨b, off, spot⟩ := x
      have hc := hc0.2.2 0 h0
      obtain ⟨v0, hv0⟩ : ∃ v, (F 0)[0]? = some v := ⟨(F 0)[0]'(by rw [hc0.2.1]; exact h0), by simp⟩
      rw [hv0] at hc
      have hspot : spot = none := by simpa [Addr.add] using World.cell?_spot hc
      subst hspot
      refine .inr ⟨b, off, rfl, (by simpa [Addr.add] using World.block_lt_of_cell? _ _ hc), fun k hk j hj => ?_⟩
      have h1 := (World.cells?_some (hF k (by omega)).1).2.2 j hj
      rw [← h1]
      have e1 : ∀ (o n : Nat), (Addr.mk b o none).add n = ⟨b, o + n, none⟩ := fun o n => by
        by_cases e : n = 0
        · subst e; rfl
        · simp [Addr.add, e]
      rw [e1, e1]
theorem opened_reqL {t i si sb tb : TypeId} {f0 f1 f2 f3 f4 f5 : Field} {n : Nat} {cs : List Value} {y : DataW H × List MemPlace} (hs : P.underlying t = some (.struct #[f0, f1, f2, f3, f4, f5])) (hone : oneCellFields P #[f0, f1, f2, f3, f4, f5] = true) (hC : P.cellsOf t = 6)
    (e0 : f0.type = i) (e1 : f1.type = i) (e2 : f2.type = i) (e3 : f3.type = si) (e4 : f4.type = sb) (e5 : f5.type = i) (hi : P.underlying i = some (.int .i64)) (hsi : P.underlying si = some (.slice i)) (hsb : P.underlying sb = some (.slice tb)) (htb : P.underlying tb = some .bool) (hci : P.cellsOf i = 1) (hcb : P.cellsOf tb = 1)
    (h : DataW.trod enc P w base (fun _ => true) held n t cs = some y) :
    ∃ kd pl nn wa a b la ca lb cb ws bs, cs = [.int .i64 kd, .int .i64 pl, .int .i64 nn, .slice a la ca, .slice b lb cb, .int .i64 wa] ∧ InReq w kd pl nn wa a b la lb ws bs := by
  obtain ⟨xs, m, _, hx, hl, hlen, hg⟩ := DataW.trod_struct hs h
  rw [hC] at hl
  match cs, hl with
  | [c0, c1, c2, c3, c4, c5], _ =>
    obtain ⟨o0, k0⟩ := hone_of hone 0 f0 rfl
    obtain ⟨o1, k1⟩ := hone_of hone 1 f1 rfl
    obtain ⟨o2, k2⟩ := hone_of hone 2 f2 rfl
    obtain ⟨o3, k3⟩ := hone_of hone 3 f3 rfl
    obtain ⟨o4, k4⟩ := hone_of hone 4 f4 rfl
    obtain ⟨o5, k5⟩ := hone_of hone 5 f5 rfl
    have h0 := hg 0 f0 rfl
    have h1 := hg 1 f1 rfl
    have h2 := hg 2 f2 rfl
    have h3 := hg 3 f3 rfl
    have h4 := hg 4 f4 rfl
    have h5 := hg 5 f5 rfl
    match xs, hlen with
    | [y0, y1, y2, y3, y4, y5], _ =>
      obtain ⟨z0, rfl, w0⟩ := opened_int1 (c := c0) (y := y0) hi (by rw [← e0]; simpa [o0, k0] using h0)
      obtain ⟨z1, rfl, w1⟩ := opened_int1 (c := c1) (y := y1) hi (by rw [← e1]; simpa [o1, k1] using h1)
      obtain ⟨z2, rfl, w2⟩ := opened_int1 (c := c2) (y := y2) hi (by rw [← e2]; simpa [o2, k2] using h2)
      obtain ⟨z5, rfl, w5⟩ := opened_int1 (c := c5) (y := y5) hi (by rw [← e5]; simpa [o5, k5] using h5)
      have q3 : DataW.trod enc P w base (fun _ => true) held m si [c3] = some y3 := by rw [← e3]; simpa [o3, k3] using h3
      have q4 : DataW.trod enc P w base (fun _ => true) held m sb [c4] = some y4 := by rw [← e4]; simpa [o4, k4] using h4
      obtain ⟨a, la, ca, hcs⟩ := slice_form hsi q3
      simp at hcs
      subst hcs
      obtain ⟨b, lb, cb, hcs⟩ := slice_form hsb q4
      simp at hcs
      subst hcs
      obtain ⟨ws, hws⟩ := opened_ios hsi hi hci q3
      obtain ⟨⟨bs, hbs⟩, hm⟩ := opened_bosm hsb htb hcb q4
      exact ⟨z0, z1, z2, z5, a, b, la, ca, lb, cb, ws, bs, rfl, hws, hbs, hm, w0, w1, w2, w5⟩
theorem opened_callL {tc t i si sb tb : TypeId} {g0 g1 g2 g3 f0 f1 f2 f3 f4 f5 : Field} {n : Nat} {cs : List Value} {y : DataW H × List MemPlace} (hsc : P.underlying tc = some (.struct #[g0, g1, g2, g3])) (hCc : P.cellsOf tc = 9) (p0 : g0.offset = 0) (p1 : g1.offset = 1) (p2 : g2.offset = 2) (p3 : g3.offset = 3) (r0 : g0.type = i) (r1 : g1.type = i) (r2 : g2.type = i) (r3 : g3.type = t)
    (hs : P.underlying t = some (.struct #[f0, f1, f2, f3, f4, f5])) (hone : oneCellFields P #[f0, f1, f2, f3, f4, f5] = true) (hC : P.cellsOf t = 6)
    (e0 : f0.type = i) (e1 : f1.type = i) (e2 : f2.type = i) (e3 : f3.type = si) (e4 : f4.type = sb) (e5 : f5.type = i) (hi : P.underlying i = some (.int .i64)) (hsi : P.underlying si = some (.slice i)) (hsb : P.underlying sb = some (.slice tb)) (htb : P.underlying tb = some .bool) (hci : P.cellsOf i = 1) (hcb : P.cellsOf tb = 1)
    (h : DataW.trod enc P w base (fun _ => true) held n tc cs = some y) :
    ∃ C a b ca cb, cs = calL C a b C.ws.length C.bs.length ca cb ∧ InCa w C a b := by
  obtain ⟨xs, m, _, hx, hl, hlen, hg⟩ := DataW.trod_struct hsc h
  rw [hCc] at hl
  match cs, hl with
  | [c0, c1, c2, c3, c4, c5, c6, c7, c8], _ =>
    have h0 := hg 0 g0 rfl
    have h1 := hg 1 g1 rfl
    have h2 := hg 2 g2 rfl
    have h3 := hg 3 g3 rfl
    rw [p0, r0, hci] at h0
    rw [p1, r1, hci] at h1
    rw [p2, r2, hci] at h2
    rw [p3, r3, hC] at h3
    match xs, hlen with
    | [y0, y1, y2, y3], _ =>
      obtain ⟨z0, rfl, w0⟩ := opened_int1 (c := c0) (y := y0) hi (by simpa using h0)
      obtain ⟨z1, rfl, w1⟩ := opened_int1 (c := c1) (y := y1) hi (by simpa using h1)
      obtain ⟨z2, rfl, w2⟩ := opened_int1 (c := c2) (y := y2) hi (by simpa using h2)
      obtain ⟨kd, pl, nn, wa, a, b, la, ca, lb, cb, ws, bs, he, hq⟩ := opened_reqL hs hone hC e0 e1 e2 e3 e4 e5 hi hsi hsb htb hci hcb (cs := [c3, c4, c5, c6, c7, c8]) (y := y3) (by simpa using h3)
      simp only [List.cons.injEq, and_true] at he
      obtain ⟨rfl, rfl, rfl, rfl, rfl, rfl⟩ := he
      obtain ⟨q1, q2, q3, _⟩ := hq
      refine ⟨⟨z0, z1, z2, kd, pl, nn, wa, ws, bs⟩, a, b, ca, cb, ?_, ?_⟩
      · simp [calL, q1.1, q2.1]
      · exact ⟨by rw [q1.1]; exact q1.2.1, by rw [q2.1]; exact q3, q1.2.2.1, q2.2⟩
theorem array17 {α : Type} {cs : Array α} (h : cs.size = 17) : ∃ c0 c1 c2 c3 c4 c5 c6 c7 c8 c9 c10 c11 c12 c13 c14 c15 c16, cs = #[c0, c1, c2, c3, c4, c5, c6, c7, c8, c9, c10, c11, c12, c13, c14, c15, c16] := by
  obtain ⟨l⟩ := cs
  match l, h with
  | [c0, c1, c2, c3, c4, c5, c6, c7, c8, c9, c10, c11, c12, c13, c14, c15, c16], _ => exact ⟨c0, c1, c2, c3, c4, c5, c6, c7, c8, c9, c10, c11, c12, c13, c14, c15, c16, rfl⟩
theorem opened_boolL {t : TypeId} {n : Nat} {c : Value} {y : DataW H × List MemPlace} {spare : Nat → Bool} (ht : P.underlying t = some .bool) (h : DataW.trod enc P w base spare held n t [c] = some y) : ∃ x, c = .bool x := by
  obtain ⟨x, h1, _⟩ := DataW.trod_bool ht h
  exact ⟨x, by simpa using h1⟩
theorem opened_line {r : Reach} {b0 : Nat} {tl' sc tc t i si sb tb : TypeId} {m0 m1 m2 m3 m4 m5 m6 m7 m8 g0 g1 g2 g3 f0 f1 f2 f3 f4 f5 : Field} {v : Value} {d : DataW H} {p : List MemPlace} (hsl : P.underlying tl' = some (.struct #[m0, m1, m2, m3, m4, m5, m6, m7, m8])) (hCl : P.cellsOf tl' = 17)
    (u0 : m0.offset = 0) (u1 : m1.offset = 1) (u2 : m2.offset = 2) (u3 : m3.offset = 11) (u4 : m4.offset = 12) (u5 : m5.offset = 13) (u6 : m6.offset = 14) (u7 : m7.offset = 15) (u8 : m8.offset = 16)
    (v0 : m0.type = sc) (v1 : m1.type = tb) (v2 : m2.type = tc) (v3 : m3.type = i) (v4 : m4.type = i) (v5 : m5.type = i) (v6 : m6.type = i) (v7 : m7.type = i) (v8 : m8.type = i) (hss : P.underlying sc = some (.slice tc)) (hcs : P.cellsOf sc = 1)
    (hsc : P.underlying tc = some (.struct #[g0, g1, g2, g3])) (hCc : P.cellsOf tc = 9) (p0 : g0.offset = 0) (p1 : g1.offset = 1) (p2 : g2.offset = 2) (p3 : g3.offset = 3) (r0 : g0.type = i) (r1 : g1.type = i) (r2 : g2.type = i) (r3 : g3.type = t)
    (hs : P.underlying t = some (.struct #[f0, f1, f2, f3, f4, f5])) (hone : oneCellFields P #[f0, f1, f2, f3, f4, f5] = true) (hC : P.cellsOf t = 6)
    (e0 : f0.type = i) (e1 : f1.type = i) (e2 : f2.type = i) (e3 : f3.type = si) (e4 : f4.type = sb) (e5 : f5.type = i) (hi : P.underlying i = some (.int .i64)) (hsi : P.underlying si = some (.slice i)) (hsb : P.underlying sb = some (.slice tb)) (htb : P.underlying tb = some .bool) (hci : P.cellsOf i = 1) (hcb : P.cellsOf tb = 1)
    (hv : Value.okWide P w r b0 tl' v) (h : DataW.Trod enc P w base (fun _ => true) held tl' v d p) :
    ∃ L a n cp a1 a2 l1 l2 c1 c2 f, v = .agg (lac L a n cp a1 a2 l1 l2 c1 c2) ∧ InLn w n f L a a1 a2 l1 l2 := by
  obtain ⟨cs, rfl, hsz⟩ := okWide_struct hsl hv
  obtain ⟨c0, c1, c2, c3, c4, c5, c6, c7, c8, c9, c10, c11, c12, c13, c14, c15, c16, rfl⟩ := array17 (hsz.trans hCl)
  obtain ⟨fuel, hf'⟩ := h
  obtain ⟨xs, m, _, hx, hl, hlen, hg⟩ := DataW.trod_struct hsl hf'
  have h0 := hg 0 m0 rfl
  have h1 := hg 1 m1 rfl
  have h2 := hg 2 m2 rfl
  have h3 := hg 3 m3 rfl
  have h4 := hg 4 m4 rfl
  have h5 := hg 5 m5 rfl
  have h6 := hg 6 m6 rfl
  have h7 := hg 7 m7 rfl
  have h8 := hg 8 m8 rfl
  rw [u0, v0, hcs] at h0
  rw [u1, v1, hcb] at h1
  rw [u2, v2, hCc] at h2
  rw [u3, v3, hci] at h3
  rw [u4, v4, hci] at h4
  rw [u5, v5, hci] at h5
  rw [u6, v6, hci] at h6
  rw [u7, v7, hci] at h7
  rw [u8, v8, hci] at h8
  match xs, hlen with
  | [y0, y1, y2, y3, y4, y5, y6, y7, y8], _ =>
    obtain ⟨z1, rfl⟩ := opened_boolL (c := c1) (y := y1) htb (by simpa [Value.cells] using h1)
    obtain ⟨z3, rfl, _⟩ := opened_int1 (c := c11) (y := y3) hi (by simpa [Value.cells] using h3)
    obtain ⟨z4, rfl, _⟩ := opened_int1 (c := c12) (y := y4) hi (by simpa [Value.cells] using h4)
    obtain ⟨z5, rfl, _⟩ := opened_int1 (c := c13) (y := y5) hi (by simpa [Value.cells] using h5)
    obtain ⟨z6, rfl, _⟩ := opened_int1 (c := c14) (y := y6) hi (by simpa [Value.cells] using h6)
    obtain ⟨z7, rfl, _⟩ := opened_int1 (c := c15) (y := y7) hi (by simpa [Value.cells] using h7)
    obtain ⟨z8, rfl, _⟩ := opened_int1 (c := c16) (y := y8) hi (by simpa [Value.cells] using h8)
    obtain ⟨C, a1, a2, ca, cb, he, hq⟩ := opened_callL hsc hCc p0 p1 p2 p3 r0 r1 r2 r3 hs hone hC e0 e1 e2 e3 e4 e5 hi hsi hsb htb hci hcb (cs := [c2, c3, c4, c5, c6, c7, c8, c9, c10]) (y := y2) (by simpa [Value.cells] using h2)
    simp only [calL, List.cons.injEq, and_true] at he
    obtain ⟨rfl, rfl, rfl, rfl, rfl, rfl, rfl, rfl, rfl⟩ := he
    have q0 : DataW.trod enc P w base (fun _ => true) held m sc [c0] = some y0 := by simpa [Value.cells] using h0
    obtain ⟨a, n, cp, hc0⟩ := slice_form hss q0
    simp at hc0
    subst hc0
    obtain ⟨hm, F, hS, hF⟩ := opened_cellsL hss hCc (by decide) q0
    obtain ⟨f, hf⟩ := choose_lt' (p := fun k C => ∃ a b ca cb, F k = calL C a b C.ws.length C.bs.length ca cb ∧ InCa w C a b) (n := n) (fun k hk => by
      obtain ⟨hlk, n', y', hy'⟩ := hF k hk
      exact opened_callL hsc hCc p0 p1 p2 p3 r0 r1 r2 r3 hs hone hC e0 e1 e2 e3 e4 e5 hi hsi hsb htb hci hcb hy')
    refine ⟨⟨z1, C, z3, z4, z5, z6, z7, z8⟩, a, n, cp, a1, a2, _, _, ca, cb, f, rfl, ⟨rfl, rfl, ⟨F, hS, fun k hk => ?_⟩, hq.2.2.1, hq.2.2.2⟩, hm, fun k hk => ?_, hq.1, hq.2.1⟩
    · obtain ⟨b1, b2, k1, k2, hFk, hin⟩ := hf k hk
      exact ⟨b1, b2, k1, k2, by rw [hFk]; exact cal_els _ _ _ _ _ _ _ rfl rfl, hin.2.2.1, hin.2.2.2⟩
    · obtain ⟨b1, b2, k1, k2, hFk, hin⟩ := hf k hk
      exact ⟨hin.1, hin.2.1⟩
end
end Go.Proofs.YtmhdneenjoelfaaGreat

/- The draw of a question; sameReq of the laws. -/
import Derived.Test.YtgamicfcdkjleaaAskG
import Derived.Test.YtgamicfcdkjleaaAskE
namespace Go.Proofs.Ytgamicfcdkjleaa
open Go.RowKit

set_option linter.unusedVariables false

set_option linter.unusedSimpArgs false

/-- A new question. -/
def NewReq (w : World) (e : Ending) (w' : World) : Prop :=
  ∃ (kd pl nn wa : Int) (a1 a2 : Option Addr) (l1 l2 c1 c2 : Nat) (ws : List Int) (bs : List Bool), e = .returned (rq kd pl nn wa a1 a2 l1 l2 c1 c2) ∧ l1 = ws.length ∧ l2 = bs.length ∧ l1 ≤ 300 ∧ l2 ≤ 3000 ∧ OwnI w' w.heap.size (.slice a1 l1 c1) ws ∧ OwnB w' w.heap.size (.slice a2 l2 c2) bs ∧ Below w.heap.size w w'

set_option maxRecDepth 20000 in
set_option maxHeartbeats 4000000 in
theorem drawPutReq_any (w : World) (a : Option Addr) (n cap : Nat) (zs : List Int) (hn : n = zs.length) (hs : Sl w a zs) (hr : ∀ z ∈ zs, 0 ≤ z ∧ z ≤ 255) (hl : zs.length ≤ 1048576) :
    Calls Try.prog 8 #[.slice a n cap] w fun e w' => NewReq w e w' := by
  obtain ⟨W0, hW0⟩ : ∃ W0, W0 = w.alloc (.cells #[.int .i64 0, .int .i64 0, .int .i64 0, .slice none 0 0, .slice none 0 0, .int .i64 0] 27) := ⟨_, rfl⟩
  have HW : Hid (W0 = _) := hW0
  have bw : Below w.heap.size w W0 := by rw [hW0]; exact bel_alloc _ _
  have hsz : W0.heap.size = w.heap.size + 1 := by rw [hW0]; simp
  have R0 : Blk W0 w.heap.size 27 #[.int .i64 0, .int .i64 0, .int .i64 0, .slice none 0 0, .slice none 0 0, .int .i64 0] := by rw [hW0]; exact Blk.new _ _ _
  have HS : Hid (Sl W0 a zs) := hs.below bw
  have HN : Hid (n = zs.length) := hn
  have HR : Hid (∀ z ∈ zs, 0 ≤ z ∧ z ≤ 255) := hr
  have HZ : Hid (W0.heap.size = w.heap.size + 1) := hsz
  have HB : Hid (Below w.heap.size w W0) := bw
  have HR0 : Hid (Blk W0 w.heap.size 27 #[.int .i64 0, .int .i64 0, .int .i64 0, .slice none 0 0, .slice none 0 0, .int .i64 0]) := R0
  clear hW0 hs hn hr hsz bw R0
  go_enter Try.func8, Try.ntmps8
  go_upto_region 1 with fail
  rw [← HW.out]
  go_wp2_with fail
  refine (l1New_any W0 a n cap zs HN.out HS.out HR.out hl).mono ?_
  rintro e z1 ⟨rfl, C1, _⟩
  obtain ⟨g, hg⟩ : ∃ g, g = W0.heap.size := ⟨_, rfl⟩
  rw [← hg] at C1
  simp only [← hg]
  have HG : Hid (g = W0.heap.size) := hg
  clear hg
  go_wp2_with fail
  refine (l3DrawAny_any W0 a cap zs z1 g C1).mono ?_
  rintro e z2 ⟨kd, pl, nn, wa, a1, a2, l1, l2, c1, c2, ws, bs, rfl, e1, e2, m1, m2, i, j, C2, gg⟩
  have R2 := HR0.out.below C2.bel
  obtain ⟨y0, y1, y2, y3, y4, y5⟩ := R2.six
  have fy := R2.fro
  have b2 := bel_next HB.out C2.bel
  have hz1 : w.heap.size ≤ z1.heap.size := by have := C1.bel.size; have := HB.out.size; omega
  have HH : Hid (OwnI z2 w.heap.size (.slice a1 l1 c1) ws ∧ OwnB z2 w.heap.size (.slice a2 l2 c2) bs ∧ Below w.heap.size w z2 ∧ Blk z2 w.heap.size 27 #[.int .i64 0, .int .i64 0, .int .i64 0, .slice none 0 0, .slice none 0 0, .int .i64 0]) := ⟨OwnI.mono i hz1, OwnB.mono j hz1, b2, R2⟩
  have HE : Hid (l1 = ws.length ∧ l2 = bs.length ∧ l1 ≤ 300 ∧ l2 ≤ 3000) := ⟨e1, e2, m1, m2⟩
  clear e1 e2 m1 m2 i j C1 C2 gg R2 b2 hz1
  go_wp2
  refine bodyPost_ret (v := rq kd pl nn wa a1 a2 l1 l2 c1 c2) (by simp [results, Try.results8, go_sem, y0, y1, y2, y3, y4, y5]) rfl ?_
  obtain ⟨OI, OB, B2, RE⟩ := HH.out
  exact ⟨_, _, _, _, _, _, _, _, _, _, ws, bs, rfl, HE.out.1, HE.out.2.1, HE.out.2.2.1, HE.out.2.2.2, row_set6 OI ⟨_, RE⟩ (by decide), row_set6 OB ⟨_, RE⟩ (by decide), bel_set6 B2 (Nat.le_refl _)⟩

set_option maxHeartbeats 4000000 in
theorem lawSameReq_t (kd pl nn wa : Int) (a1 a2 a1' a2' : Option Addr) (l1 l2 c1 c2 l1' l2' c1' c2' : Nat) (w : World) (ws : List Int) (h1 : l1 = ws.length) (h1' : l1' = ws.length) (s1 : SlI w a1 ws) (s1' : SlI w a1' ws) (hl1 : ws.length ≤ 2000000) (bs : List Bool) (h2 : l2 = bs.length) (h2' : l2' = bs.length) (s2 : SlB w a2 bs) (s2' : SlB w a2' bs) (hl2 : bs.length ≤ 2000000) :
    Calls Try.prog 14 #[rq kd pl nn wa a1 a2 l1 l2 c1 c2, rq kd pl nn wa a1' a2' l1' l2' c1' c2'] w fun e w' => e = .returned (.bool true) ∧ Below w.heap.size w w' := by
  obtain ⟨W0, hW0'⟩ : ∃ W0, W0 = (w.alloc (.cells #[.int .i64 kd, .int .i64 pl, .int .i64 nn, .slice a1 l1 c1, .slice a2 l2 c2, .int .i64 wa] 27)).alloc (.cells #[.int .i64 kd, .int .i64 pl, .int .i64 nn, .slice a1' l1' c1', .slice a2' l2' c2', .int .i64 wa] 27) := ⟨_, rfl⟩
  have hW0 : Hid (W0 = _) := hW0'
  have B0 : Below w.heap.size w W0 := by rw [hW0']; exact bel_next (bel_alloc w _) (bel_alloc _ _)
  have X0 : Blk W0 w.heap.size 27 #[.int .i64 kd, .int .i64 pl, .int .i64 nn, .slice a1 l1 c1, .slice a2 l2 c2, .int .i64 wa] := by rw [hW0']; exact (Blk.new w _ _).below (bel_alloc _ _)
  have Y0 : Blk W0 (w.heap.size + 1) 27 #[.int .i64 kd, .int .i64 pl, .int .i64 nn, .slice a1' l1' c1', .slice a2' l2' c2', .int .i64 wa] := by
    rw [hW0']; have := Blk.new (w.alloc (.cells #[.int .i64 kd, .int .i64 pl, .int .i64 nn, .slice a1 l1 c1, .slice a2 l2 c2, .int .i64 wa] 27)) #[.int .i64 kd, .int .i64 pl, .int .i64 nn, .slice a1' l1' c1', .slice a2' l2' c2', .int .i64 wa] 27; simpa using this
  obtain ⟨x0, x1, x2, x3, x4, x5⟩ := X0.six
  obtain ⟨y0, y1, y2, y3, y4, y5⟩ := Y0.six
  have HH : Hid (l1 = ws.length ∧ l1' = ws.length ∧ SlI W0 a1 ws ∧ SlI W0 a1' ws) := ⟨h1, h1', s1.below B0, s1'.below B0⟩
  clear h1 h1' s1 s1'
  have HB : Hid (l2 = bs.length ∧ l2' = bs.length ∧ SlB W0 a2 bs ∧ SlB W0 a2' bs) := ⟨h2, h2', s2.below B0, s2'.below B0⟩
  clear h2 h2' s2 s2'
  clear hW0'
  go_enter Try.func14, Try.ntmps14
  go_upto_region 1 with fail
  rw [← hW0.out]
  go_wp2_with fail
  refine (sameInts_true _ _ _ _ _ _ ws _ HH.out.1 HH.out.2.1 HH.out.2.2.1 HH.out.2.2.2 hl1).mono ?_
  rintro e w1 ⟨rfl, n1, hw1⟩
  have b' : Below W0.heap.size W0 w1 := by rw [hw1]; exact drew_refl _ _
  have b1 := bel_next B0 b'
  obtain ⟨x0, x1, x2, x3, x4, x5⟩ := (X0.below b').six
  obtain ⟨y0, y1, y2, y3, y4, y5⟩ := (Y0.below b').six
  have HB1 : Hid (l2 = bs.length ∧ l2' = bs.length ∧ SlB w1 a2 bs ∧ SlB w1 a2' bs) := ⟨HB.out.1, HB.out.2.1, HB.out.2.2.1.below b', HB.out.2.2.2.below b'⟩
  clear hw1 b'
  go_wp2_with fail
  refine (sameBits_true _ _ _ _ _ _ bs _ HB1.out.1 HB1.out.2.1 HB1.out.2.2.1 HB1.out.2.2.2 (by omega)).mono ?_
  rintro e w2 ⟨rfl, n2, hw2⟩
  have b2' : Below w1.heap.size w1 w2 := by rw [hw2]; exact drew_refl _ _
  have b2 := bel_next b1 b2'
  clear hw2 b2'
  go_wp2
  go_ret
  exact ⟨rfl, b2⟩

end Go.Proofs.Ytgamicfcdkjleaa

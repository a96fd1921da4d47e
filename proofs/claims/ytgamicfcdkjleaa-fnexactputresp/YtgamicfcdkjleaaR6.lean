/- PutReq of the program; marks in questions. -/
import Derived.Test.YtgamicfcdkjleaaR5
import Derived.Test.YtgamicfcdkjleaaMarks2
namespace Go.Proofs.Ytgamicfcdkjleaa
open Go.RowKit

set_option linter.unusedVariables false

set_option linter.unusedSimpArgs false

theorem nwo_next {w u w' : World} {e : Ending} {zs : List Int} (hb : Below w.heap.size w u) (h : NwO u w' e zs) : NwO w w' e zs := by
  obtain ⟨a, c, n, he, hn, ho, hb'⟩ := h
  exact ⟨a, c, n, he, hn, own_mono ho hb.size, bel_next hb hb'⟩

set_option maxHeartbeats 2000000 in
theorem implPut_if (kd pl nn wa : Int) (a1 a2 : Option Addr) (l1 l2 c1 c2 : Nat) (w : World) (q : Value) (zs : List Int)
    (hq : ∀ u, Below w.heap.size w u → Calls Try.prog 35 #[rq kd pl nn wa a1 a2 l1 l2 c1 c2] u fun e u' => e = .returned q ∧ Below u.heap.size u u')
    (hp : ∀ u, Below w.heap.size w u → Calls Try.prog 34 #[q] u fun e u' => NwO u u' e zs) :
    Calls Try.prog 9 #[rq kd pl nn wa a1 a2 l1 l2 c1 c2] w fun e w' => NwO w w' e zs := by
  have B0 := bel_alloc w (.cells #[.int .i64 kd, .int .i64 pl, .int .i64 nn, .slice a1 l1 c1, .slice a2 l2 c2, .int .i64 wa] 27)
  go_enter Try.func9, Try.ntmps9
  go_wp2_with fail
  refine (hq _ B0).mono ?_
  rintro e w1 ⟨rfl, b'⟩
  have B1 := bel_next B0 b'
  clear hq
  go_wp2_with fail
  refine (hp _ B1).mono ?_
  rintro e w2 h2
  replace h2 := nwo_next B1 h2
  obtain ⟨a, c, n, rfl, h3⟩ := h2
  have H3 : Hid _ := h3
  clear h3 hp
  go_wp2
  go_ret
  exact ⟨a, c, n, rfl, H3.out⟩

theorem putQ_no (u : World) : Calls Try.prog 34 #[.nilIface] u fun e u' => NwO u u' e [] := by
  refine (putQ_n u).mono ?_
  rintro e w' ⟨rfl, rfl⟩
  exact ⟨none, 0, 0, rfl, rfl, ⟨rfl, .inl ⟨rfl, rfl⟩⟩, Below.refl _ _⟩

theorem putL6 (pl nn wa : Int) (ws : List Int) (bs : List Bool) (h : ws.length = 1) : putL 6 pl nn wa ws bs = 6 % 256 :: wbs [pl, ws.getD 0 0] := by
  match ws, h with
  | [x], _ => rfl

theorem putL22 (pl nn wa : Int) (ws : List Int) (bs : List Bool) (h : ws.length = 2) : putL 22 pl nn wa ws bs = 22 % 256 :: wbs [pl, ws.getD 0 0, ws.getD 1 0] := by
  match ws, h with
  | [x, y], _ => rfl

theorem implPut_q (kd pl nn wa : Int) (a1 a2 : Option Addr) (l1 l2 c1 c2 : Nat) (ws : List Int) (bs : List Bool) (w : World) (h1 : l1 = ws.length) (h2 : l2 = bs.length) (s1 : SlI w a1 ws) (s2 : SlB w a2 bs) (hl1 : ws.length ≤ 2000000) (hl2 : bs.length ≤ 2000000) :
    Calls Try.prog 9 #[rq kd pl nn wa a1 a2 l1 l2 c1 c2] w fun e w' => NwO w w' e (putV (okR kd pl nn wa ws l1 l2) kd pl nn wa ws bs) := by
  by_cases hk : kd = 1 ∨ kd = 2 ∨ kd = 3 ∨ kd = 4 ∨ kd = 5 ∨ kd = 6 ∨ kd = 15 ∨ kd = 16 ∨ kd = 22 ∨ kd = 23
  · cases hb : okR kd pl nn wa ws l1 l2
    · obtain rfl | rfl | rfl | rfl | rfl | rfl | rfl | rfl | rfl | rfl := hk
      · exact implPut_if 1 pl nn wa a1 a2 l1 l2 c1 c2 w .nilIface [] (fun u hu => rightQuestion_1 pl nn wa a1 a2 l1 l2 c1 c2 ws bs u h1 h2 (s1.below hu) (s2.below hu) hl1 hl2 _ hb) (fun u _ => putQ_no u)
      · exact implPut_if 2 pl nn wa a1 a2 l1 l2 c1 c2 w .nilIface [] (fun u hu => rightQuestion_2 pl nn wa a1 a2 l1 l2 c1 c2 ws bs u h1 h2 (s1.below hu) (s2.below hu) hl1 hl2 _ hb) (fun u _ => putQ_no u)
      · exact implPut_if 3 pl nn wa a1 a2 l1 l2 c1 c2 w .nilIface [] (fun u hu => rightQuestion_3 pl nn wa a1 a2 l1 l2 c1 c2 ws bs u h1 h2 (s1.below hu) (s2.below hu) hl1 hl2 _ hb) (fun u _ => putQ_no u)
      · exact implPut_if 4 pl nn wa a1 a2 l1 l2 c1 c2 w .nilIface [] (fun u hu => rightQuestion_4 pl nn wa a1 a2 l1 l2 c1 c2 ws bs u h1 h2 (s1.below hu) (s2.below hu) hl1 hl2 _ hb) (fun u _ => putQ_no u)
      · exact implPut_if 5 pl nn wa a1 a2 l1 l2 c1 c2 w .nilIface [] (fun u hu => rightQuestion_5 pl nn wa a1 a2 l1 l2 c1 c2 ws bs u h1 h2 (s1.below hu) (s2.below hu) hl1 hl2 _ hb) (fun u _ => putQ_no u)
      · exact implPut_if 6 pl nn wa a1 a2 l1 l2 c1 c2 w .nilIface [] (fun u hu => rightQuestion_6 pl nn wa a1 a2 l1 l2 c1 c2 ws bs u h1 h2 (s1.below hu) (s2.below hu) hl1 hl2 _ hb) (fun u _ => putQ_no u)
      · exact implPut_if 15 pl nn wa a1 a2 l1 l2 c1 c2 w .nilIface [] (fun u hu => rightQuestion_15 pl nn wa a1 a2 l1 l2 c1 c2 ws bs u h1 h2 (s1.below hu) (s2.below hu) hl1 hl2 _ hb) (fun u _ => putQ_no u)
      · exact implPut_if 16 pl nn wa a1 a2 l1 l2 c1 c2 w .nilIface [] (fun u hu => rightQuestion_16 pl nn wa a1 a2 l1 l2 c1 c2 ws bs u h1 h2 (s1.below hu) (s2.below hu) hl1 hl2 _ hb) (fun u _ => putQ_no u)
      · exact implPut_if 22 pl nn wa a1 a2 l1 l2 c1 c2 w .nilIface [] (fun u hu => rightQuestion_22 pl nn wa a1 a2 l1 l2 c1 c2 ws bs u h1 h2 (s1.below hu) (s2.below hu) hl1 hl2 _ hb) (fun u _ => putQ_no u)
      · exact implPut_if 23 pl nn wa a1 a2 l1 l2 c1 c2 w .nilIface [] (fun u hu => rightQuestion_23 pl nn wa a1 a2 l1 l2 c1 c2 ws bs u h1 h2 (s1.below hu) (s2.below hu) hl1 hl2 _ hb) (fun u _ => putQ_no u)
    · obtain rfl | rfl | rfl | rfl | rfl | rfl | rfl | rfl | rfl | rfl := hk
      · exact implPut_if 1 pl nn wa a1 a2 l1 l2 c1 c2 w _ _ (fun u hu => rightQuestion_1 pl nn wa a1 a2 l1 l2 c1 c2 ws bs u h1 h2 (s1.below hu) (s2.below hu) hl1 hl2 _ hb) (fun u hu => (putQ_1 pl nn u).mono fun _ _ h => h.o)
      · exact implPut_if 2 pl nn wa a1 a2 l1 l2 c1 c2 w _ _ (fun u hu => rightQuestion_2 pl nn wa a1 a2 l1 l2 c1 c2 ws bs u h1 h2 (s1.below hu) (s2.below hu) hl1 hl2 _ hb) (fun u hu => (putQ_2 pl nn u).mono fun _ _ h => h.o)
      · exact implPut_if 3 pl nn wa a1 a2 l1 l2 c1 c2 w _ _ (fun u hu => rightQuestion_3 pl nn wa a1 a2 l1 l2 c1 c2 ws bs u h1 h2 (s1.below hu) (s2.below hu) hl1 hl2 _ hb) (fun u hu => (putQ_3 pl nn u).mono fun _ _ h => h.o)
      · exact implPut_if 4 pl nn wa a1 a2 l1 l2 c1 c2 w _ _ (fun u hu => rightQuestion_4 pl nn wa a1 a2 l1 l2 c1 c2 ws bs u h1 h2 (s1.below hu) (s2.below hu) hl1 hl2 _ hb) (fun u hu => (putQ_4 pl nn u).mono fun _ _ h => h.o)
      · have hL : l2 = 1 := by rw [okI_5 _ _ _ _ _ _ h1] at hb; simp [rnB, inB] at hb; omega
        exact implPut_if 5 pl nn wa a1 a2 l1 l2 c1 c2 w _ _ (fun u hu => rightQuestion_5 pl nn wa a1 a2 l1 l2 c1 c2 ws bs u h1 h2 (s1.below hu) (s2.below hu) hl1 hl2 _ hb) (fun u hu => (putQ_5 pl (bs.getD 0 false) u).mono fun _ _ h => h.o)
      · have hL : l1 = 1 := by rw [okI_6 _ _ _ _ _ _ h1] at hb; simp [rnB, inB] at hb; omega
        have e : putV true 6 pl nn wa ws bs = _ := putL6 pl nn wa ws bs (by omega)
        rw [e]
        exact implPut_if 6 pl nn wa a1 a2 l1 l2 c1 c2 w _ _ (fun u hu => rightQuestion_6 pl nn wa a1 a2 l1 l2 c1 c2 ws bs u h1 h2 (s1.below hu) (s2.below hu) hl1 hl2 _ hb) (fun u hu => (putQ_6 pl (ws.getD 0 0) u).mono fun _ _ h => h.o)
      · have hL : 1 ≤ l2 ∧ l2 ≤ 1968 := by rw [okI_15 _ _ _ _ _ _ h1] at hb; simp [rnB, inB] at hb; omega
        have e : putV true 15 pl nn wa ws bs = (15 % 256 :: wbs [pl, (l2 : Int)]) ++ [(((bs.length + 7) / 8 : Nat) : Int) % 256] ++ packL bs := by rw [h2]; rfl
        rw [e]
        exact implPut_if 15 pl nn wa a1 a2 l1 l2 c1 c2 w _ _ (fun u hu => rightQuestion_15 pl nn wa a1 a2 l1 l2 c1 c2 ws bs u h1 h2 (s1.below hu) (s2.below hu) hl1 hl2 _ hb) (fun u hu => (putQ_15 pl a2 l2 c2 bs u h2 (s2.below hu) (by omega)).mono fun _ _ h => h.o)
      · have hL : 1 ≤ l1 ∧ l1 ≤ 123 := by rw [okI_16 _ _ _ _ _ _ h1] at hb; simp [rnB, inB] at hb; omega
        have e : putV true 16 pl nn wa ws bs = (16 % 256 :: wbs [pl, (l1 : Int)]) ++ [((2 * ws.length : Nat) : Int) % 256] ++ wbs ws := by rw [h1]; rfl
        rw [e]
        exact implPut_if 16 pl nn wa a1 a2 l1 l2 c1 c2 w _ _ (fun u hu => rightQuestion_16 pl nn wa a1 a2 l1 l2 c1 c2 ws bs u h1 h2 (s1.below hu) (s2.below hu) hl1 hl2 _ hb) (fun u hu => (putQ_16 pl a1 l1 c1 ws u h1 (s1.below hu) (by omega) (by omega)).mono fun _ _ h => h.o)
      · have hL : l1 = 2 := by rw [okI_22 _ _ _ _ _ _ h1] at hb; simp [rnB, inB] at hb; omega
        have e : putV true 22 pl nn wa ws bs = _ := putL22 pl nn wa ws bs (by omega)
        rw [e]
        exact implPut_if 22 pl nn wa a1 a2 l1 l2 c1 c2 w _ _ (fun u hu => rightQuestion_22 pl nn wa a1 a2 l1 l2 c1 c2 ws bs u h1 h2 (s1.below hu) (s2.below hu) hl1 hl2 _ hb) (fun u hu => (putQ_22 pl (ws.getD 0 0) (ws.getD 1 0) u).mono fun _ _ h => h.o)
      · have hL : 1 ≤ l1 ∧ l1 ≤ 121 := by rw [okI_23 _ _ _ _ _ _ h1] at hb; simp [rnB, inB] at hb; omega
        have e : putV true 23 pl nn wa ws bs = (23 % 256 :: wbs [pl, nn, wa, (l1 : Int)]) ++ [((2 * ws.length : Nat) : Int) % 256] ++ wbs ws := by rw [h1]; rfl
        rw [e]
        exact implPut_if 23 pl nn wa a1 a2 l1 l2 c1 c2 w _ _ (fun u hu => rightQuestion_23 pl nn wa a1 a2 l1 l2 c1 c2 ws bs u h1 h2 (s1.below hu) (s2.below hu) hl1 hl2 _ hb) (fun u hu => (putQ_23 pl nn wa a1 l1 c1 ws u h1 (s1.below hu) (by omega) (by omega)).mono fun _ _ h => h.o)
  · have e : okR kd pl nn wa ws l1 l2 = false := by
      cases e : okR kd pl nn wa ws l1 l2
      · rfl
      · exact absurd (okR_kind e) hk
    rw [e]
    exact implPut_if kd pl nn wa a1 a2 l1 l2 c1 c2 w .nilIface [] (fun u hu => rightQuestion_none kd pl nn wa a1 a2 l1 l2 c1 c2 ws bs u h1 h2 (s1.below hu) (s2.below hu) hl1 hl2 (by omega) (by omega) (by omega) (by omega) (by omega) (by omega) (by omega) (by omega) (by omega) (by omega)) (fun u _ => putQ_no u)

theorem putV_len (kd pl nn wa : Int) (ws : List Int) (bs : List Bool) (l1 l2 : Nat) (h1 : l1 = ws.length) (h2 : l2 = bs.length) : (putV (okR kd pl nn wa ws l1 l2) kd pl nn wa ws bs).length ≤ 300 := by
  cases hb : okR kd pl nn wa ws l1 l2
  · simp [putV]
  · obtain rfl | rfl | rfl | rfl | rfl | rfl | rfl | rfl | rfl | rfl := okR_kind hb
    · simp [putV, putL, wbs]
    · simp [putV, putL, wbs]
    · simp [putV, putL, wbs]
    · simp [putV, putL, wbs]
    · have hL : l2 = 1 := by rw [okI_5 _ _ _ _ _ _ h1] at hb; simp [rnB, inB] at hb; omega
      simp [putV, putL, wbs, wbs_length, packL_length]
    · have hL : l1 = 1 := by rw [okI_6 _ _ _ _ _ _ h1] at hb; simp [rnB, inB] at hb; omega
      simp [putV, putL, wbs, wbs_length, packL_length]; omega
    · have hL : 1 ≤ l2 ∧ l2 ≤ 1968 := by rw [okI_15 _ _ _ _ _ _ h1] at hb; simp [rnB, inB] at hb; omega
      simp [putV, putL, wbs, wbs_length, packL_length]; omega
    · have hL : 1 ≤ l1 ∧ l1 ≤ 123 := by rw [okI_16 _ _ _ _ _ _ h1] at hb; simp [rnB, inB] at hb; omega
      simp [putV, putL, wbs, wbs_length, packL_length]; omega
    · have hL : l1 = 2 := by rw [okI_22 _ _ _ _ _ _ h1] at hb; simp [rnB, inB] at hb; omega
      simp [putV, putL, wbs, wbs_length, packL_length]; omega
    · have hL : 1 ≤ l1 ∧ l1 ≤ 121 := by rw [okI_23 _ _ _ _ _ _ h1] at hb; simp [rnB, inB] at hb; omega
      simp [putV, putL, wbs, wbs_length, packL_length]; omega

theorem ne_types {w : World} {b1 b2 s1 s2 n1 n2 : Nat} {e1 e2 : TypeId} {v1 v2 : Value} {x1 x2 : List Value} (h1 : w.ownsRow b1 e1 s1 v1 n1 x1) (h2 : w.ownsRow b2 e2 s2 v2 n2 x2) (he : e1 ≠ e2) : v1.ownBlock = none ∨ v1.ownBlock ≠ v2.ownBlock := by
  obtain ⟨_, h1⟩ := h1
  rcases h1 with ⟨hv, _⟩ | ⟨g, cap, cur, hv, _, hh, _⟩
  · subst hv; exact .inl rfl
  · refine .inr ?_
    intro e
    exact row_noBlk (v := v2) (g := g) (t := e1) (cs := cur) h2 hh he (by rw [← e, hv]; rfl)

theorem Blk.row {w w' : World} {g : Nat} {t : TypeId} {cs : Array Value} {b s n : Nat} {e : TypeId} {v : Value} {x : List Value} (h : Blk w g t cs) (hr : w.ownsRow b e s v n x) (hg : w.grownBy w' v.ownBlock) (he : t ≠ e) : Blk w' g t cs :=
  h.grown hg (row_noBlk hr h he)

theorem below_rowG {B : Nat} {w0 w w' : World} {base size n : Nat} {e : TypeId} {v : Value} {xs : List Value} (hb : Below B w0 w) (h : w.ownsRow base e size v n xs) (hg : w.grownBy w' v.ownBlock) (h1 : B ≤ base) (h2 : B ≤ w.heap.size) : Below B w0 w' :=
  hb.grown hg h2 (fun k hk => by have := (World.ownsRow.lt h k hk).1; omega)

theorem markBoolS_at (a : Option Addr) (n cap base s : Nat) (x : Int) (zs : List Bool) (w : World) (hx : x = ((s : Nat) : Int)) (h : OwnB w base (.slice a n cap) zs) (hl : n ≤ 20000000) (hs' : s ≤ 9000000) :
    Calls Try.prog 62 #[.slice a n cap, .int .i64 x] w fun e w' => e = .returned (.int .i64 ((s : Int) + (n : Int))) ∧ OwnB w' base (.slice a n cap) (marksB s n) ∧ w.grownBy w' (Value.slice a n cap).ownBlock := by
  subst hx
  exact markBoolS_from a n cap base s zs w h hl hs'

theorem eqB_ok (a a' : Option Addr) (n n' cap cap' : Nat) (zs : List Int) (w : World) (hn : n = zs.length) (hn' : n' = zs.length) (hs : Sl w a zs) (hs' : Sl w a' zs) (hl : zs.length ≤ 300) :
    Calls Try.prog 23 #[.slice a n cap, .slice a' n' cap'] w fun e w' => e = .returned (.bool true) ∧ Below w.heap.size w w' := by
  refine (eqByteS_true a a' n n' cap cap' zs w hn hn' hs hs' (by omega)).mono ?_
  rintro e w' ⟨rfl, k, rfl⟩
  exact ⟨rfl, drew_refl _ _⟩

end Go.Proofs.Ytgamicfcdkjleaa

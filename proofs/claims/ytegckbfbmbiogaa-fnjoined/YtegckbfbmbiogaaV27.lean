/- Texts that the proof needs, joined: JnB. -/
import Derived.Test.YtegckbfbmbiogaaV21
import Derived.Test.YtegckbfbmbiogaaV26
import Derived.Deep.RegionHeld3
namespace Go.Proofs.Ytegckbfbmbiogaa
open Go.RowKit Go.Joins
set_option linter.unusedVariables false
set_option linter.unusedSimpArgs false
def joF (td ok : Bool) (kd : Int) (A : Nat → An) (n : Nat) : An :=
  if td = true then foA (ok && inB (ffF A n 0) 1 255) kd (ffF A n 0) else foA (ok && inB 4 1 255) kd 4
theorem ffF_range {Ps : List Pa} {A : Nat → An} {n : Nat} (h : AllS Ps A n) : 0 ≤ ffF A n 0 := by
  have : ∀ d k, n - k = d → 0 ≤ ffF A n k := by
    intro d
    induction d with
    | zero => intro k hk; rw [ffF_end (by omega)]; omega
    | succ d ih =>
      intro k hk
      by_cases e : (A k).fl = 0
      · rw [ffF_miss (by omega) e]; exact ih (k + 1) (by omega)
      · rw [ffF_hit (by omega) e]; exact (suP_fault (h k (by omega))).1
  exact this n 0 (by omega)
theorem bel_dn (w : World) (n : Nat) : Below w.heap.size w (w.drewN n) := ⟨rfl, rfl, rfl, Nat.le_refl _, fun _ _ => rfl⟩
theorem ffF_end0 (A : Nat → An) : ffF A 0 0 = 0 := ffF_end (by omega)
theorem mB_zero (kd : Int) (Ps : List Pa) (A : Nat → An) : mB kd Ps A 0 = [] := by unfold mB jB; simp
set_option maxRecDepth 20000 in
set_option maxHeartbeats 8000000 in
theorem specJoined_bad (kd pl nn wa : Int) (q1 q2 : Option Addr) (m1 m2 k1 k2 : Nat) (ws : List Int) (bs : List Bool) (a : Option Addr) (n cap base : Nat) (Ps : List Pa) (at' : Option Addr) (m cap' : Nat) (A : Nat → An) (w : World)
    (h1 : m1 = ws.length) (h2 : m2 = bs.length) (s1 : SlI w q1 ws) (s2 : SlB w q2 bs) (hl1 : ws.length ≤ 2000000) (hl2 : bs.length ≤ 2000000) (hn : n = Ps.length) (h : OwnPs w base (.slice a n cap) Ps) (h' : SlA w at' m A) (hn8 : n ≤ 100) (hm8 : m ≤ 100) (hP : ∀ k, k < n → 0 ≤ (Ps.getD k default).n ∧ (Ps.getD k default).n ≤ 2000) (hP2 : ∀ k, k < n → (Ps.getD k default).ws.length ≤ 2000 ∧ (Ps.getD k default).bs.length ≤ 2000) (hA : ∀ k, k < m → (A k).ws.length ≤ 2000 ∧ (A k).bs.length ≤ 2000)
    (ok : Bool) (hok : ok = okR kd pl nn wa ws ws.length bs.length) (td : Bool) (htd : td = true ↔ (ok = true ∧ 0 < n ∧ m = n ∧ AllS Ps A n)) (hbad : td = true → ¬ ffF A n 0 = 0) :
    Calls Try.prog 19 #[.agg (rqc kd pl nn wa q1 q2 m1 m2 k1 k2), .slice a n cap, .slice at' m cap'] w fun e w' => AnPost w w' e (joF td ok kd A n) := by
  obtain ⟨B, hB⟩ : ∃ B, B = w.heap.size := ⟨_, rfl⟩
  obtain ⟨W, hW⟩ : ∃ W, W = (w.alloc (.cells (rqc kd pl nn wa q1 q2 m1 m2 k1 k2) 28)).alloc (.cells #[.int .i64 0, .int .i64 0, .int .i64 0, .int .i64 0, .slice none 0 0, .slice none 0 0] 49) := ⟨_, rfl⟩
  have bW : Below w.heap.size w W := by rw [hW]; exact bel_next (bel_alloc _ _) (bel_alloc _ _)
  have HW : Hid (Below w.heap.size w W ∧ Blk W B 28 (rqc kd pl nn wa q1 q2 m1 m2 k1 k2) ∧ Blk W (B + 1) 49 #[.int .i64 0, .int .i64 0, .int .i64 0, .int .i64 0, .slice none 0 0, .slice none 0 0] ∧ True) := ⟨bW, by rw [hW, hB]; exact (Blk.new w _ _).below (bel_alloc _ _), by rw [hW, hB]; have := Blk.new (w.alloc (.cells (rqc kd pl nn wa q1 q2 m1 m2 k1 k2) 28)) #[.int .i64 0, .int .i64 0, .int .i64 0, .int .i64 0, .slice none 0 0, .slice none 0 0] 49; simpa using this, trivial⟩
  have HB9 : Hid (w.heap.size = B) := hB.symm
  have HS : Hid (m1 = ws.length ∧ m2 = bs.length ∧ SlI w q1 ws ∧ SlB w q2 bs ∧ OwnPs w base (.slice a n cap) Ps ∧ SlA w at' m A ∧ n = Ps.length ∧ (td = true ↔ (ok = true ∧ 0 < n ∧ m = n ∧ AllS Ps A n)) ∧ (∀ k, k < n → 0 ≤ (Ps.getD k default).n ∧ (Ps.getD k default).n ≤ 2000) ∧ (∀ k, k < n → (Ps.getD k default).ws.length ≤ 2000 ∧ (Ps.getD k default).bs.length ≤ 2000) ∧ (∀ k, k < m → (A k).ws.length ≤ 2000 ∧ (A k).bs.length ≤ 2000)) := ⟨h1, h2, s1, s2, h, h', hn, htd, hP, hP2, hA⟩
  obtain ⟨R, hR⟩ : ∃ R, R = joF td ok kd A n := ⟨_, rfl⟩
  rw [← hR]
  have HR : Hid (R = joF td ok kd A n) := hR
  have HBAD : Hid (td = true → ¬ ffF A n 0 = 0) := hbad
  have HE4 : Hid (td = false → R = foA (ok && inB 4 1 255) kd 4) := by
    intro e; rw [hR]; unfold joF; rw [e]; rfl
  have HEF : Hid (td = true → R = foA (ok && inB (ffF A n 0) 1 255) kd (ffF A n 0)) := by
    intro e; rw [hR]; unfold joF; rw [e]; rfl
  have HFO : Hid (∀ (u : World) (x : Int), Below w.heap.size w u → Calls Try.prog 58 #[.agg (rqc kd pl nn wa q1 q2 m1 m2 k1 k2), .int .i64 x] u fun e w' => e = .returned (.agg #[.int .i64 (foA (ok && inB x 1 255) kd x).kd, .int .i64 (foA (ok && inB x 1 255) kd x).fl, .int .i64 0, .int .i64 0, .slice none 0 0, .slice none 0 0]) ∧ Below u.heap.size u w') := by
    intro u x hu
    have h9 := specFaultOf_q kd pl nn wa q1 q2 m1 m2 k1 k2 ws bs x u h1 h2 (s1.below hu) (s2.below hu) hl1 hl2
    rw [h1, h2, ← hok] at h9
    rw [foV_foA] at h9
    rw [h1, h2]
    exact h9
  have HRO : Hid (∀ (u : World), Below w.heap.size w u → Calls Try.prog 20 #[.agg (rqc kd pl nn wa q1 q2 m1 m2 k1 k2)] u fun e w' => e = .returned (.bool ok) ∧ Below u.heap.size u w') := by
    intro u hu
    have h9 := specReqOk_q kd pl nn wa q1 q2 m1 m2 k1 k2 ws bs u h1 h2 (s1.below hu) (s2.below hu) hl1 hl2
    rw [hok, ← h1, ← h2]
    exact h9
  clear bW h1 h2 s1 s2 hn h h' hP hP2 hA htd hR hok hbad
  go_enter Try.func19, Try.ntmps19
  go_upto_region 1 with fail
  rw [← hW, ← hB]
  clear hW hB
  obtain ⟨⟨y0, y1, y2, y3, y4, y5⟩, _⟩ := HW.out.2.1.six2
  go_wp2_with fail
  refine (HRO.out _ HW.out.1).mono ?_
  rintro e w1 ⟨rfl, b1⟩
  have HW1 : Hid (Below w.heap.size w w1 ∧ Blk w1 B 28 (rqc kd pl nn wa q1 q2 m1 m2 k1 k2) ∧ Blk w1 (B + 1) 49 #[.int .i64 0, .int .i64 0, .int .i64 0, .int .i64 0, .slice none 0 0, .slice none 0 0] ∧ True) := ⟨bel_next HW.out.1 b1, HW.out.2.1.below b1, HW.out.2.2.1.below b1, trivial⟩
  clear b1 HW y0 y1 y2 y3 y4 y5
  by_cases hno : ok = false ∨ n = 0 ∨ ¬ n = m
  · have tf : td = false := by cases td with | false => rfl | true => (have := HS.out.2.2.2.2.2.2.2.1.1 rfl; rcases hno with e | e | e; (rw [e] at this; cases this.1); omega; omega)
    have HE := hide (HE4.out tf)
    clear HE4 HEF HBAD tf
    rcases Bool.eq_false_or_eq_true ok with eo | eo
    · by_cases h0 : n = 0
      · have d0 : ((n : Int) == 0) = true := by subst h0; rfl
        clear h0 hno
        subst eo
        obtain ⟨⟨y0, y1, y2, y3, y4, y5⟩, _⟩ := HW1.out.2.1.six2
        go_wp2_with fail
        refine (HFO.out _ 4 HW1.out.1).mono ?_
        rintro e wf ⟨rfl, bf⟩
        obtain ⟨fk, hfk⟩ : ∃ fk, fk = (foA (true && inB 4 1 255) kd 4).kd := ⟨_, rfl⟩
        obtain ⟨fl, hfl⟩ : ∃ fl, fl = (foA (true && inB 4 1 255) kd 4).fl := ⟨_, rfl⟩
        rw [← hfk, ← hfl]
        have HEE : Hid (R = ⟨fk, fl, 0, 0, [], []⟩) := by
          show _ = _
          rw [HE.out, hfk, hfl]
          obtain ⟨g1, g2, g3, g4⟩ := foA_rest (true && inB 4 1 255) kd 4
          cases hq : foA (true && inB 4 1 255) kd 4 with
          | mk a b c d e f => rw [hq] at g1 g2 g3 g4; simp only at g1 g2 g3 g4; subst g1; subst g2; subst g3; subst g4; rfl
        have K1 := HW1.out.2.2.1.below bf
        have HY : Hid (Below w.heap.size w (setL wf (B + 1) 0 [.int .i64 fk, .int .i64 fl, .int .i64 0, .int .i64 0, .slice none 0 0, .slice none 0 0])) := setL_below (by have := HB9.out; omega) _ _ _ (bel_next HW1.out.1 bf)
        obtain ⟨⟨z0, z1, z2, z3, z4, z5⟩, ⟨f0, f1, f2, f3, f4, f5⟩⟩ := K1.six2
        clear K1 bf hfk hfl y0 y1 y2 y3 y4 y5
        go_wp2
        refine bodyPost_ret (v := .agg #[.int .i64 fk, .int .i64 fl, .int .i64 0, .int .i64 0, .slice none 0 0, .slice none 0 0]) (by simp [results, Try.results19, go_sem, z0, z1, z2, z3, z4, z5]) rfl ?_
        rw [HEE.out]
        exact ⟨none, none, 0, 0, 0, 0, rfl, rfl, rfl, ownI_z _ _, ownB_z _ _, HY.out⟩
      · have d0 : ((n : Int) == 0) = false := by simp; omega
        have dm : ((n : Int) == (m : Int)) = false := by simp; rcases hno with e | e | e; (rw [e] at eo; cases eo); omega; omega
        clear h0 hno
        subst eo
        obtain ⟨⟨y0, y1, y2, y3, y4, y5⟩, _⟩ := HW1.out.2.1.six2
        go_wp2_with fail
        refine (HFO.out _ 4 HW1.out.1).mono ?_
        rintro e wf ⟨rfl, bf⟩
        obtain ⟨fk, hfk⟩ : ∃ fk, fk = (foA (true && inB 4 1 255) kd 4).kd := ⟨_, rfl⟩
        obtain ⟨fl, hfl⟩ : ∃ fl, fl = (foA (true && inB 4 1 255) kd 4).fl := ⟨_, rfl⟩
        rw [← hfk, ← hfl]
        have HEE : Hid (R = ⟨fk, fl, 0, 0, [], []⟩) := by
          show _ = _
          rw [HE.out, hfk, hfl]
          obtain ⟨g1, g2, g3, g4⟩ := foA_rest (true && inB 4 1 255) kd 4
          cases hq : foA (true && inB 4 1 255) kd 4 with
          | mk a b c d e f => rw [hq] at g1 g2 g3 g4; simp only at g1 g2 g3 g4; subst g1; subst g2; subst g3; subst g4; rfl
        have K1 := HW1.out.2.2.1.below bf
        have HY : Hid (Below w.heap.size w (setL wf (B + 1) 0 [.int .i64 fk, .int .i64 fl, .int .i64 0, .int .i64 0, .slice none 0 0, .slice none 0 0])) := setL_below (by have := HB9.out; omega) _ _ _ (bel_next HW1.out.1 bf)
        obtain ⟨⟨z0, z1, z2, z3, z4, z5⟩, ⟨f0, f1, f2, f3, f4, f5⟩⟩ := K1.six2
        clear K1 bf hfk hfl y0 y1 y2 y3 y4 y5
        go_wp2
        refine bodyPost_ret (v := .agg #[.int .i64 fk, .int .i64 fl, .int .i64 0, .int .i64 0, .slice none 0 0, .slice none 0 0]) (by simp [results, Try.results19, go_sem, z0, z1, z2, z3, z4, z5]) rfl ?_
        rw [HEE.out]
        exact ⟨none, none, 0, 0, 0, 0, rfl, rfl, rfl, ownI_z _ _, ownB_z _ _, HY.out⟩
    · subst eo
      clear hno
      obtain ⟨⟨y0, y1, y2, y3, y4, y5⟩, _⟩ := HW1.out.2.1.six2
      go_wp2_with fail
      refine (HFO.out _ 4 HW1.out.1).mono ?_
      rintro e wf ⟨rfl, bf⟩
      obtain ⟨fk, hfk⟩ : ∃ fk, fk = (foA (false && inB 4 1 255) kd 4).kd := ⟨_, rfl⟩
      obtain ⟨fl, hfl⟩ : ∃ fl, fl = (foA (false && inB 4 1 255) kd 4).fl := ⟨_, rfl⟩
      rw [← hfk, ← hfl]
      have HEE : Hid (R = ⟨fk, fl, 0, 0, [], []⟩) := by
        show _ = _
        rw [HE.out, hfk, hfl]
        obtain ⟨g1, g2, g3, g4⟩ := foA_rest (false && inB 4 1 255) kd 4
        cases hq : foA (false && inB 4 1 255) kd 4 with
        | mk a b c d e f => rw [hq] at g1 g2 g3 g4; simp only at g1 g2 g3 g4; subst g1; subst g2; subst g3; subst g4; rfl
      have K1 := HW1.out.2.2.1.below bf
      have HY : Hid (Below w.heap.size w (setL wf (B + 1) 0 [.int .i64 fk, .int .i64 fl, .int .i64 0, .int .i64 0, .slice none 0 0, .slice none 0 0])) := setL_below (by have := HB9.out; omega) _ _ _ (bel_next HW1.out.1 bf)
      obtain ⟨⟨z0, z1, z2, z3, z4, z5⟩, ⟨f0, f1, f2, f3, f4, f5⟩⟩ := K1.six2
      clear K1 bf hfk hfl y0 y1 y2 y3 y4 y5
      go_wp2
      refine bodyPost_ret (v := .agg #[.int .i64 fk, .int .i64 fl, .int .i64 0, .int .i64 0, .slice none 0 0, .slice none 0 0]) (by simp [results, Try.results19, go_sem, z0, z1, z2, z3, z4, z5]) rfl ?_
      rw [HEE.out]
      exact ⟨none, none, 0, 0, 0, 0, rfl, rfl, rfl, ownI_z _ _, ownB_z _ _, HY.out⟩
  · have eo : ok = true := by cases ok with | true => rfl | false => exact absurd (.inl rfl) hno
    have hmn : n = m := by omega
    have hn0 : 0 < n := by omega
    have d0 : ((n : Int) == 0) = false := by simp; omega
    subst hmn
    clear hno
    subst eo
    obtain ⟨G, hG⟩ : ∃ G, G = w1.heap.size := ⟨_, rfl⟩
    obtain ⟨⟨y0, y1, y2, y3, y4, y5⟩, _⟩ := HW1.out.2.1.six2
    obtain ⟨W4, hW4⟩ : ∃ W4, W4 = w1.alloc (.cells #[.int .i64 kd, .int .i64 0, .int .i64 0, .int .i64 0, .slice none 0 0, .slice none 0 0] 49) := ⟨_, rfl⟩
    have HJ : Hid (JI w B G (rqc kd pl nn wa q1 q2 m1 m2 k1 k2) kd none 0 0 none 0 0 [] [] W4 ∧ w.heap.size ≤ G ∧ B ≠ G ∧ B + 1 ≠ G) := ⟨⟨bel_next HW1.out.1 (by rw [hW4]; exact bel_alloc _ _), HW1.out.2.1.below (by rw [hW4]; exact bel_alloc _ _), HW1.out.2.2.1.below (by rw [hW4]; exact bel_alloc _ _), by rw [hW4, hG]; exact Blk.new w1 _ _, ownI_z _ _, ownB_z _ _⟩, by rw [hG]; exact HW1.out.1.size, by have := HW1.out.2.1.lt; omega, by have := HW1.out.2.2.1.lt; omega⟩
    clear HW1
    go_wp2
    rw [← hW4, ← hG]
    clear hW4 hG y0 y1 y2 y3 y4 y5
    go_loopw [7, 9] (fun f i wr => ∃ (z : Nat) (va : Option Addr) (vn vc : Nat) (vb : Option Addr) (un uc : Nat), z ≤ n ∧ i = .int .i64 z ∧ f = .int .i64 (ffF A z 0) ∧ JI w B G (rqc kd pl nn wa q1 q2 m1 m2 k1 k2) kd va vn vc vb un uc (jW A z) (mB kd Ps A z) wr ∧ AllS Ps A z) (fun _ i _ => n - (intOf i).toNat)
    case atStart => exact ⟨0, _, _, _, _, _, _, Nat.zero_le _, rfl, by rw [ffF_end0 A], by rw [mB_zero]; exact HJ.out.1, fun j hj => by omega⟩
    case round =>
      obtain ⟨z, va, vn, vc, vb, un, uc, hz, rfl, rfl, hj, hall⟩ := hrel
      have HJ1 : Hid (JI w B G (rqc kd pl nn wa q1 q2 m1 m2 k1 k2) kd va vn vc vb un uc (jW A z) (mB kd Ps A z) wr ∧ AllS Ps A z) := ⟨hj, hall⟩
      have HG : Hid (w.heap.size ≤ G ∧ B ≠ G ∧ B + 1 ≠ G) := HJ.out.2
      obtain ⟨f0, hf0⟩ : ∃ f0, f0 = ffF A z 0 := ⟨_, rfl⟩
      rw [← hf0]
      have HF0 := hide hf0
      clear hj hall HJ hf0
      by_cases hlt : z < n
      · have hi : (z : Int) < (n : Int) := by omega
        obtain ⟨g, off, b1, b2, d1, d2, rfl, i0, i1, i2, i3, i4, i5, i6, i7, si1, si2⟩ := HS.out.2.2.2.2.1.at (k := z) (by have := HS.out.2.2.2.2.2.2.1; omega)
        obtain ⟨g', off', a1, a2, c1, c2, rfl, j0, j1, j2, j3, j4, j5, sj1, sj2, sj3, sj4⟩ := HS.out.2.2.2.2.2.1.at hlt
        obtain ⟨P, hP⟩ : ∃ P, P = Ps.getD z default := ⟨_, rfl⟩
        obtain ⟨x, hx⟩ : ∃ x, x = A z := ⟨_, rfl⟩
        rw [← hP] at i0 i1 i2 i3 i4 i5 i6 i7 si1 si2
        rw [← hx] at j0 j1 j2 j3 j4 j5 sj1 sj2 sj3 sj4
        have p8 := HS.out.2.2.2.2.2.2.2.2.1 z hlt
        have p9 := HS.out.2.2.2.2.2.2.2.2.2.1 z hlt
        have x9 := HS.out.2.2.2.2.2.2.2.2.2.2 z hlt
        rw [← hP] at p8 p9
        rw [← hx] at x9
        obtain ⟨t1, ht1⟩ : ∃ t1, t1 = P.ws.length := ⟨_, rfl⟩
        obtain ⟨t2, ht2⟩ : ∃ t2, t2 = P.bs.length := ⟨_, rfl⟩
        obtain ⟨l1, hl1⟩ : ∃ l1, l1 = x.ws.length := ⟨_, rfl⟩
        obtain ⟨l2, hl2⟩ : ∃ l2, l2 = x.bs.length := ⟨_, rfl⟩
        rw [← ht1] at i5
        rw [← ht2] at i6
        rw [← hl1] at j4 sj3
        rw [← hl2] at j5 sj4
        have hbb : ∀ (bk o : Nat), w.cell? ⟨bk, o, none⟩ ≠ none → bk < w.heap.size := fun bk o hc => by
          by_cases e : bk < w.heap.size
          · exact e
          · exfalso; apply hc; simp [World.cell?, Array.getElem?_eq_none (Nat.le_of_not_lt e)]
        have hg' : g' < w.heap.size := hbb g' (off' + z * 6) (by rw [j0]; simp)
        have hg : g < w.heap.size := hbb g (off + z * 8) (by rw [i0]; simp)
        have HP : Hid (∀ u, Below w.heap.size w u → u.cell? ⟨g, off + z * 8 + 2, none⟩ = some (.int .i64 P.kd) ∧ u.cell? ⟨g, off + z * 8 + 3, none⟩ = some (.int .i64 P.pl) ∧ u.cell? ⟨g, off + z * 8 + 4, none⟩ = some (.int .i64 P.n) ∧ u.cell? ⟨g, off + z * 8 + 5, none⟩ = some (.slice b1 t1 d1) ∧ u.cell? ⟨g, off + z * 8 + 6, none⟩ = some (.slice b2 t2 d2) ∧ u.cell? ⟨g, off + z * 8 + 7, none⟩ = some (.int .i64 P.wa)) := fun u hu => ⟨(hu.cell (p := ⟨g, off + z * 8 + 2, none⟩) hg).trans i2, (hu.cell (p := ⟨g, off + z * 8 + 3, none⟩) hg).trans i3, (hu.cell (p := ⟨g, off + z * 8 + 4, none⟩) hg).trans i4, (hu.cell (p := ⟨g, off + z * 8 + 5, none⟩) hg).trans i5, (hu.cell (p := ⟨g, off + z * 8 + 6, none⟩) hg).trans i6, (hu.cell (p := ⟨g, off + z * 8 + 7, none⟩) hg).trans i7⟩
        have HX : Hid (∀ u, Below w.heap.size w u → u.cell? ⟨g', off' + z * 6, none⟩ = some (.int .i64 x.kd) ∧ u.cell? ⟨g', off' + z * 6 + 1, none⟩ = some (.int .i64 x.fl) ∧ u.cell? ⟨g', off' + z * 6 + 2, none⟩ = some (.int .i64 x.pl) ∧ u.cell? ⟨g', off' + z * 6 + 3, none⟩ = some (.int .i64 x.nn) ∧ u.cell? ⟨g', off' + z * 6 + 4, none⟩ = some (.slice a1 l1 c1) ∧ u.cell? ⟨g', off' + z * 6 + 5, none⟩ = some (.slice a2 l2 c2)) := fun u hu => ⟨(hu.cell (p := ⟨g', off' + z * 6, none⟩) hg').trans j0, (hu.cell (p := ⟨g', off' + z * 6 + 1, none⟩) hg').trans j1, (hu.cell (p := ⟨g', off' + z * 6 + 2, none⟩) hg').trans j2, (hu.cell (p := ⟨g', off' + z * 6 + 3, none⟩) hg').trans j3, (hu.cell (p := ⟨g', off' + z * 6 + 4, none⟩) hg').trans j4, (hu.cell (p := ⟨g', off' + z * 6 + 5, none⟩) hg').trans j5⟩
        have HU : Hid (SlI w b1 P.ws ∧ SlB w b2 P.bs ∧ SlI w a1 x.ws ∧ SlB w a2 x.bs ∧ t1 = P.ws.length ∧ t2 = P.bs.length ∧ l1 = x.ws.length ∧ l2 = x.bs.length ∧ l2 ≤ c2 ∧ (P.ws.length ≤ 2000 ∧ P.bs.length ≤ 2000) ∧ (x.ws.length ≤ 2000 ∧ x.bs.length ≤ 2000) ∧ (0 ≤ P.n ∧ P.n ≤ 2000) ∧ P = Ps.getD z default ∧ x = A z) := ⟨si1, si2, sj1, sj2, ht1, ht2, hl1, hl2, sj4, p9, x9, p8, hP, hx⟩
        clear si1 si2 sj1 sj2 sj3 sj4 ht1 ht2 hl1 hl2 p8 p9 x9 hP hx i0 i1 i2 i3 i4 i5 i6 i7 j0 j1 j2 j3 j4 j5 hbb
        obtain ⟨sb, hsb⟩ : ∃ sb : Bool, sb = suP P x := ⟨_, rfl⟩
        have HSB : Hid (sb = suP P x) := hsb
        have HSU : Hid (∀ u, Below w.heap.size w u → Calls Try.prog 59 #[.agg #[.int .i64 P.kd, .int .i64 P.pl, .int .i64 P.n, .slice b1 t1 d1, .slice b2 t2 d2, .int .i64 P.wa], .agg #[.int .i64 x.kd, .int .i64 x.fl, .int .i64 x.pl, .int .i64 x.nn, .slice a1 l1 c1, .slice a2 l2 c2]] u fun e w' => e = .returned (.bool sb) ∧ Below u.heap.size u w') := by
          intro u hu
          have h9 := specSuits_q P.kd x.kd x.fl P.pl P.n P.wa b1 b2 t1 t2 d1 d2 P.ws P.bs x.pl x.nn a1 a2 l1 l2 c1 c2 x.ws x.bs u HU.out.2.2.2.2.1 HU.out.2.2.2.2.2.1 (HU.out.1.below hu) (HU.out.2.1.below hu) (by have := HU.out; omega) (by have := HU.out; omega) HU.out.2.2.2.2.2.2.1 HU.out.2.2.2.2.2.2.2.1 (HU.out.2.2.1.below hu) (HU.out.2.2.2.1.below hu) (by have := HU.out; omega) (by have := HU.out; omega)
          rw [hsb]
          unfold suP
          rw [← HU.out.2.2.2.2.1, ← HU.out.2.2.2.2.2.1, ← HU.out.2.2.2.2.2.2.1, ← HU.out.2.2.2.2.2.2.2.1]
          exact h9
        clear hsb
        obtain ⟨v2, v3, v4, v5, v6, v7⟩ := HP.out wr HJ1.out.1.bel
        obtain ⟨u0, u1, u2, u3, u4, u5⟩ := HX.out wr HJ1.out.1.bel
        go_upto_region 8 with fail
        go_region_held3 (fun w' => w'.cell? ⟨g, off + z * 8 + 2, none⟩ = some (.int .i64 P.kd) ∧ w'.cell? ⟨g, off + z * 8 + 3, none⟩ = some (.int .i64 P.pl) ∧ w'.cell? ⟨g, off + z * 8 + 4, none⟩ = some (.int .i64 P.n) ∧ w'.cell? ⟨g, off + z * 8 + 5, none⟩ = some (.slice b1 t1 d1) ∧ w'.cell? ⟨g, off + z * 8 + 6, none⟩ = some (.slice b2 t2 d2) ∧ w'.cell? ⟨g, off + z * 8 + 7, none⟩ = some (.int .i64 P.wa) ∧ w'.cell? ⟨g', off' + z * 6, none⟩ = some (.int .i64 x.kd) ∧ w'.cell? ⟨g', off' + z * 6 + 1, none⟩ = some (.int .i64 x.fl) ∧ w'.cell? ⟨g', off' + z * 6 + 2, none⟩ = some (.int .i64 x.pl) ∧ w'.cell? ⟨g', off' + z * 6 + 3, none⟩ = some (.int .i64 x.nn) ∧ w'.cell? ⟨g', off' + z * 6 + 4, none⟩ = some (.slice a1 l1 c1) ∧ w'.cell? ⟨g', off' + z * 6 + 5, none⟩ = some (.slice a2 l2 c2)) (go_keep)
          (first | (go_at_call 59; refine (HSU.out _ (bel_next HJ1.out.1.bel ?hbl)).mono ?_; (case hbl => first | exact Below.refl _ _ | exact (Below.refl _ _).drew | exact (Below.refl _ _).drew.drew); rintro e w5 ⟨rfl, b5⟩; have HJ5 : Hid (JI w B G (rqc kd pl nn wa q1 q2 m1 m2 k1 k2) kd va vn vc vb un uc (jW A z) (mB kd Ps A z) w5) := HJ1.out.1.below (bel_next (by first | exact Below.refl _ _ | exact (Below.refl _ _).drew | exact (Below.refl _ _).drew.drew) b5); clear b5; obtain ⟨r2, r3, r4, r5, r6, r7⟩ := HP.out w5 HJ5.out.bel; obtain ⟨s0, s1, s2, s3, s4, s5⟩ := HX.out w5 HJ5.out.bel))
        all_goals (
          clear v2 v3 v4 v5 v6 v7 u0 u1 u2 u3 u4 u5
          cases sb with
          | false =>
            have tf : td = false := by
              cases td with
              | false => rfl
              | true =>
                have h9 := (HS.out.2.2.2.2.2.2.2.1.1 rfl).2.2.2 z hlt
                rw [← HU.out.2.2.2.2.2.2.2.2.2.2.2.2.1, ← HU.out.2.2.2.2.2.2.2.2.2.2.2.2.2, ← HSB.out] at h9
                cases h9
            have HE := hide (HE4.out tf)
            have HW5 : Hid (Below w.heap.size w w5 ∧ Blk w5 B 28 (rqc kd pl nn wa q1 q2 m1 m2 k1 k2) ∧ Blk w5 (B + 1) 49 #[.int .i64 0, .int .i64 0, .int .i64 0, .int .i64 0, .slice none 0 0, .slice none 0 0] ∧ True) := ⟨HJ5.out.bel, HJ5.out.q, HJ5.out.r0, trivial⟩
            clear HE4 HEF HBAD tf HJ1 HJ5 HSU HP HX HU HF0 HG r2 r3 r4 r5 r6 r7 s0 s1 s2 s3 s4 s5
            obtain ⟨⟨y0, y1, y2, y3, y4, y5⟩, _⟩ := HW5.out.2.1.six2
            go_wp2_with fail
            refine (HFO.out _ 4 HW5.out.1).mono ?_
            rintro e wf ⟨rfl, bf⟩
            obtain ⟨fk, hfk⟩ : ∃ fk, fk = (foA (true && inB 4 1 255) kd 4).kd := ⟨_, rfl⟩
            obtain ⟨fl, hfl⟩ : ∃ fl, fl = (foA (true && inB 4 1 255) kd 4).fl := ⟨_, rfl⟩
            rw [← hfk, ← hfl]
            have HEE : Hid (R = ⟨fk, fl, 0, 0, [], []⟩) := by
              show _ = _
              rw [HE.out, hfk, hfl]
              obtain ⟨g1, g2, g3, g4⟩ := foA_rest (true && inB 4 1 255) kd 4
              cases hq : foA (true && inB 4 1 255) kd 4 with
              | mk a b c d e f => rw [hq] at g1 g2 g3 g4; simp only at g1 g2 g3 g4; subst g1; subst g2; subst g3; subst g4; rfl
            have K1 := HW5.out.2.2.1.below bf
            have HY : Hid (Below w.heap.size w (setL wf (B + 1) 0 [.int .i64 fk, .int .i64 fl, .int .i64 0, .int .i64 0, .slice none 0 0, .slice none 0 0])) := setL_below (by have := HB9.out; omega) _ _ _ (bel_next HW5.out.1 bf)
            obtain ⟨⟨z0, z1, z2, z3, z4, z5⟩, ⟨f0, f1, f2, f3, f4, f5⟩⟩ := K1.six2
            clear K1 bf hfk hfl y0 y1 y2 y3 y4 y5
            go_wp2
            refine bodyPost_ret (v := .agg #[.int .i64 fk, .int .i64 fl, .int .i64 0, .int .i64 0, .slice none 0 0, .slice none 0 0]) (by simp [results, Try.results19, go_sem, z0, z1, z2, z3, z4, z5]) rfl ?_
            rw [HEE.out]
            exact ⟨none, none, 0, 0, 0, 0, rfl, rfl, rfl, ownI_z _ _, ownB_z _ _, HY.out⟩
          | true =>
            have HSZ : Hid (AllS Ps A (z + 1)) := fun j hj => by
              by_cases e9 : j = z
              · subst e9; rw [← HU.out.2.2.2.2.2.2.2.2.2.2.2.2.1, ← HU.out.2.2.2.2.2.2.2.2.2.2.2.2.2]; exact HSB.out.symm
              · exact HJ1.out.2 j (by omega)
            by_cases hf : f0 = 0
            · have df : (f0 == 0) = true := by simp [hf]
              have HF1 : Hid (x.fl = ffF A (z + 1) 0) := by show _ = _; rw [ffF_snoc, ← HF0.out, if_pos hf, ← HU.out.2.2.2.2.2.2.2.2.2.2.2.2.2]
              by_cases hp : 0 < x.fl
              · have HQ := suP_fault HSB.out.symm
                go_wp2
                go_roundw
                case rel => exact ⟨z + 1, va, vn, vc, vb, un, uc, by omega, by go_num, by rw [← HF1.out], by rw [jW_same (by rw [← HU.out.2.2.2.2.2.2.2.2.2.2.2.2.2]; exact (HQ.2.2 hp).1), mB_same (.inr (by rw [← HU.out.2.2.2.2.2.2.2.2.2.2.2.2.2]; exact (HQ.2.2 hp).2))]; exact HJ5.out, HSZ.out⟩
                case measure => simp [intOf]; omega
              · obtain ⟨⟨x0, x1, x2, x3, x4, x5⟩, ⟨e0, e1, e2, e3, e4, e5⟩⟩ := HJ5.out.r.six2
                have hle : (jW A z).length ≤ 2000000 := by
                  have h9 := jW_len A n (fun k hk => (HS.out.2.2.2.2.2.2.2.2.2.2 k hk).1) z hz
                  have : z * 2000 ≤ 100 * 2000 := Nat.mul_le_mul_right _ (by omega)
                  omega
                have HLE := hide hle
                clear hle
                go_upto_region 13 with fail
                have dz : Below w5.heap.size w5 w5.drew := (Below.refl _ _).drew
                go_region_law (first | (refine step_appIO rfl (.tmp 63) (.tmp 68) rfl w.heap.size (.slice va vn vc) (jW A z) rfl (by first | exact HJ5.out.ow | exact HJ5.out.ow.below dz) a1 l1 c1 x.ws rfl HU.out.2.2.2.2.2.2.1 (by first | exact HU.out.2.2.1.below HJ5.out.bel | exact HU.out.2.2.1.below (bel_next HJ5.out.bel dz)) (by have := HU.out; have := HLE.out; omega) (by first | exact HJ5.out.bel.size | exact (bel_next HJ5.out.bel dz).size) ?_; intro v6 w6 O6 g6; obtain ⟨va2, vc2, vn2, hv2, hn2⟩ := ownI_shape O6; clear hn2; subst hv2; have H6 : Hid (Blk w6 G 49 #[.int .i64 kd, .int .i64 0, .int .i64 0, .int .i64 0, .slice va vn vc, .slice vb un uc] ∧ Below w.heap.size w w6 ∧ JI w B G (rqc kd pl nn wa q1 q2 m1 m2 k1 k2) kd va2 vn2 vc2 vb un uc (jW A z ++ x.ws) (mB kd Ps A z) (w6.setCell ⟨G, 4, none⟩ (.slice va2 vn2 vc2))) := (by first | exact JI.words HJ5.out O6 g6 HG.out.1 HG.out.2.1 HG.out.2.2 | exact JI.words (HJ5.out.below dz) O6 g6 HG.out.1 HG.out.2.1 HG.out.2.2); clear O6 g6; obtain ⟨⟨n0, n1, n2, n3, n4, n5⟩, ⟨o0, o1, o2, o3, o4, o5⟩⟩ := H6.out.1.six2; obtain ⟨c0, c1', c2', c3', c4', c5'⟩ := HX.out w6 H6.out.2.1))
                all_goals (
                  obtain ⟨W7, hW7⟩ : ∃ W7, W7 = w6.setCell ⟨G, 4, none⟩ (.slice va2 vn2 vc2) := ⟨_, rfl⟩
                  have hj7 : JI w B G (rqc kd pl nn wa q1 q2 m1 m2 k1 k2) kd va2 vn2 vc2 vb un uc (jW A (z + 1)) (mB kd Ps A z) W7 := by rw [hW7, jW_succ, ← HU.out.2.2.2.2.2.2.2.2.2.2.2.2.2]; exact H6.out.2.2
                  have HJ7 := hide hj7
                  rw [← hW7]
                  clear hj7 hW7 H6 n0 n1 n2 n3 n4 n5 o0 o1 o2 o3 o4 o5 c0 c1' c2' c3' c4' c5' x0 x1 x2 x3 x4 x5 e0 e1 e2 e3 e4 e5 r2 r3 r4 r5 r6 r7 s0 s1 s2 s3 s4 s5 dz HJ5
                  obtain ⟨⟨y0, y1, y2, y3, y4, y5⟩, _⟩ := HJ7.out.q.six2
                  obtain ⟨r2, r3, r4, r5, r6, r7⟩ := HP.out W7 HJ7.out.bel
                  obtain ⟨s0, s1, s2, s3, s4, s5⟩ := HX.out W7 HJ7.out.bel
                  have HL2 : Hid (l2 = x.bs.length) := HU.out.2.2.2.2.2.2.2.1
                  go_upto_region 14 with fail
                  by_cases hk : kd < 3
                  · by_cases hc : P.n ≤ (l2 : Int)
                    · obtain ⟨kk, hkk⟩ : ∃ kk : Nat, P.n = (kk : Int) := ⟨P.n.toNat, by have := HU.out; omega⟩
                      have HKK := hide hkk
                      rw [hkk] at r4 hc
                      have HKL : Hid (kk = (x.bs.take kk).length ∧ kk ≤ 2000) := ⟨by rw [List.length_take]; have := HL2.out; omega, by have := HU.out; omega⟩
                      have i1 : (kk : Int) ≤ (c2 : Int) := by have := HU.out; omega
                      have i2 : (0 : Int) ≤ (kk : Int) := by omega
                      have i3 : kk ≤ c2 := by omega
                      have HLB : Hid ((mB kd Ps A z).length ≤ 2000000) := by
                        have h9 := mB_len kd Ps A n (fun k hk => (HS.out.2.2.2.2.2.2.2.2.2.2 k hk).2) z hz
                        have : z * 2000 ≤ 100 * 2000 := Nat.mul_le_mul_right _ (by omega)
                        show _ ≤ _
                        omega
                      clear hkk
                      obtain ⟨⟨x0, x1, x2, x3, x4, x5⟩, ⟨e0, e1, e2, e3, e4, e5⟩⟩ := HJ7.out.r.six2
                      go_quiet (fail)
                      go_upto_region 15 with fail
                      have dz : ∀ k, Below W7.heap.size W7 (W7.drewN k) := fun k => bel_dn W7 k
                      go_region_law (first | (refine step_appBO rfl (.tmp 90) (.tmp 102) rfl w.heap.size (.slice vb un uc) (mB kd Ps A z) rfl (by first | exact HJ7.out.ob | exact HJ7.out.ob.below (dz _)) a2 kk c2 (x.bs.take kk) rfl HKL.out.1 (by first | exact slB_take (HU.out.2.2.2.1.below HJ7.out.bel) kk | exact slB_take (HU.out.2.2.2.1.below (bel_next HJ7.out.bel (dz _))) kk) (by have := HKL.out; have := HLB.out; omega) (by first | exact HJ7.out.bel.size | exact (bel_next HJ7.out.bel (dz _)).size) ?_; intro v8 w8 O8 g8; obtain ⟨vb2, uc2, un2, hv2, hn2⟩ := ownB_shape O8; clear hn2; subst hv2; have H8 : Hid (Blk w8 G 49 #[.int .i64 kd, .int .i64 0, .int .i64 0, .int .i64 0, .slice va2 vn2 vc2, .slice vb un uc] ∧ Below w.heap.size w w8 ∧ JI w B G (rqc kd pl nn wa q1 q2 m1 m2 k1 k2) kd va2 vn2 vc2 vb2 un2 uc2 (jW A (z + 1)) (mB kd Ps A z ++ x.bs.take kk) (w8.setCell ⟨G, 5, none⟩ (.slice vb2 un2 uc2))) := (by first | exact JI.bits HJ7.out O8 g8 HG.out.1 HG.out.2.1 HG.out.2.2 | exact JI.bits (HJ7.out.below (dz _)) O8 g8 HG.out.1 HG.out.2.1 HG.out.2.2); clear O8 g8; obtain ⟨⟨n0, n1, n2, n3, n4, n5⟩, ⟨o0, o1, o2, o3, o4, o5⟩⟩ := H8.out.1.six2))
                      all_goals (
                        go_wp2
                        go_roundw
                        case rel => exact ⟨z + 1, va2, vn2, vc2, vb2, un2, uc2, by omega, by go_num, by rw [← HF1.out], by rw [mB_more hk, ← HU.out.2.2.2.2.2.2.2.2.2.2.2.2.2, ← HU.out.2.2.2.2.2.2.2.2.2.2.2.2.1, HKK.out, Int.toNat_natCast]; exact H8.out.2.2, HSZ.out⟩
                        case measure => simp [intOf]; omega)
                    · go_quiet (fail)
                      go_wp2
                      go_roundw
                      case rel => exact ⟨z + 1, va2, vn2, vc2, vb, un, uc, by omega, by go_num, by rw [← HF1.out], by rw [mB_same (.inr (by rw [← HU.out.2.2.2.2.2.2.2.2.2.2.2.2.2]; exact suP_bits HSB.out.symm (by rw [← HL2.out]; exact hc)))]; (first | exact HJ7.out | exact HJ7.out.below (bel_dn _ _) | exact HJ7.out.below (Below.refl _ _).drew), HSZ.out⟩
                      case measure => simp [intOf]; omega
                  · go_quiet (fail)
                    go_wp2
                    go_roundw
                    case rel => exact ⟨z + 1, va2, vn2, vc2, vb, un, uc, by omega, by go_num, by rw [← HF1.out], by rw [mB_same (.inl hk)]; (first | exact HJ7.out | exact HJ7.out.below (bel_dn _ _) | exact HJ7.out.below (Below.refl _ _).drew), HSZ.out⟩
                    case measure => simp [intOf]; omega)
            · have df : (f0 == 0) = false := by simp [hf]
              have HF1 : Hid (f0 = ffF A (z + 1) 0) := by show _ = _; rw [ffF_snoc, ← HF0.out, if_neg hf]
              by_cases hp : 0 < x.fl
              · have HQ := suP_fault HSB.out.symm
                go_wp2
                go_roundw
                case rel => exact ⟨z + 1, va, vn, vc, vb, un, uc, by omega, by go_num, by rw [← HF1.out], by rw [jW_same (by rw [← HU.out.2.2.2.2.2.2.2.2.2.2.2.2.2]; exact (HQ.2.2 hp).1), mB_same (.inr (by rw [← HU.out.2.2.2.2.2.2.2.2.2.2.2.2.2]; exact (HQ.2.2 hp).2))]; exact HJ5.out, HSZ.out⟩
                case measure => simp [intOf]; omega
              · obtain ⟨⟨x0, x1, x2, x3, x4, x5⟩, ⟨e0, e1, e2, e3, e4, e5⟩⟩ := HJ5.out.r.six2
                have hle : (jW A z).length ≤ 2000000 := by
                  have h9 := jW_len A n (fun k hk => (HS.out.2.2.2.2.2.2.2.2.2.2 k hk).1) z hz
                  have : z * 2000 ≤ 100 * 2000 := Nat.mul_le_mul_right _ (by omega)
                  omega
                have HLE := hide hle
                clear hle
                go_upto_region 13 with fail
                have dz : Below w5.heap.size w5 w5.drew := (Below.refl _ _).drew
                go_region_law (first | (refine step_appIO rfl (.tmp 63) (.tmp 68) rfl w.heap.size (.slice va vn vc) (jW A z) rfl (by first | exact HJ5.out.ow | exact HJ5.out.ow.below dz) a1 l1 c1 x.ws rfl HU.out.2.2.2.2.2.2.1 (by first | exact HU.out.2.2.1.below HJ5.out.bel | exact HU.out.2.2.1.below (bel_next HJ5.out.bel dz)) (by have := HU.out; have := HLE.out; omega) (by first | exact HJ5.out.bel.size | exact (bel_next HJ5.out.bel dz).size) ?_; intro v6 w6 O6 g6; obtain ⟨va2, vc2, vn2, hv2, hn2⟩ := ownI_shape O6; clear hn2; subst hv2; have H6 : Hid (Blk w6 G 49 #[.int .i64 kd, .int .i64 0, .int .i64 0, .int .i64 0, .slice va vn vc, .slice vb un uc] ∧ Below w.heap.size w w6 ∧ JI w B G (rqc kd pl nn wa q1 q2 m1 m2 k1 k2) kd va2 vn2 vc2 vb un uc (jW A z ++ x.ws) (mB kd Ps A z) (w6.setCell ⟨G, 4, none⟩ (.slice va2 vn2 vc2))) := (by first | exact JI.words HJ5.out O6 g6 HG.out.1 HG.out.2.1 HG.out.2.2 | exact JI.words (HJ5.out.below dz) O6 g6 HG.out.1 HG.out.2.1 HG.out.2.2); clear O6 g6; obtain ⟨⟨n0, n1, n2, n3, n4, n5⟩, ⟨o0, o1, o2, o3, o4, o5⟩⟩ := H6.out.1.six2; obtain ⟨c0, c1', c2', c3', c4', c5'⟩ := HX.out w6 H6.out.2.1))
                all_goals (
                  obtain ⟨W7, hW7⟩ : ∃ W7, W7 = w6.setCell ⟨G, 4, none⟩ (.slice va2 vn2 vc2) := ⟨_, rfl⟩
                  have hj7 : JI w B G (rqc kd pl nn wa q1 q2 m1 m2 k1 k2) kd va2 vn2 vc2 vb un uc (jW A (z + 1)) (mB kd Ps A z) W7 := by rw [hW7, jW_succ, ← HU.out.2.2.2.2.2.2.2.2.2.2.2.2.2]; exact H6.out.2.2
                  have HJ7 := hide hj7
                  rw [← hW7]
                  clear hj7 hW7 H6 n0 n1 n2 n3 n4 n5 o0 o1 o2 o3 o4 o5 c0 c1' c2' c3' c4' c5' x0 x1 x2 x3 x4 x5 e0 e1 e2 e3 e4 e5 r2 r3 r4 r5 r6 r7 s0 s1 s2 s3 s4 s5 dz HJ5
                  obtain ⟨⟨y0, y1, y2, y3, y4, y5⟩, _⟩ := HJ7.out.q.six2
                  obtain ⟨r2, r3, r4, r5, r6, r7⟩ := HP.out W7 HJ7.out.bel
                  obtain ⟨s0, s1, s2, s3, s4, s5⟩ := HX.out W7 HJ7.out.bel
                  have HL2 : Hid (l2 = x.bs.length) := HU.out.2.2.2.2.2.2.2.1
                  go_upto_region 14 with fail
                  by_cases hk : kd < 3
                  · by_cases hc : P.n ≤ (l2 : Int)
                    · obtain ⟨kk, hkk⟩ : ∃ kk : Nat, P.n = (kk : Int) := ⟨P.n.toNat, by have := HU.out; omega⟩
                      have HKK := hide hkk
                      rw [hkk] at r4 hc
                      have HKL : Hid (kk = (x.bs.take kk).length ∧ kk ≤ 2000) := ⟨by rw [List.length_take]; have := HL2.out; omega, by have := HU.out; omega⟩
                      have i1 : (kk : Int) ≤ (c2 : Int) := by have := HU.out; omega
                      have i2 : (0 : Int) ≤ (kk : Int) := by omega
                      have i3 : kk ≤ c2 := by omega
                      have HLB : Hid ((mB kd Ps A z).length ≤ 2000000) := by
                        have h9 := mB_len kd Ps A n (fun k hk => (HS.out.2.2.2.2.2.2.2.2.2.2 k hk).2) z hz
                        have : z * 2000 ≤ 100 * 2000 := Nat.mul_le_mul_right _ (by omega)
                        show _ ≤ _
                        omega
                      clear hkk
                      obtain ⟨⟨x0, x1, x2, x3, x4, x5⟩, ⟨e0, e1, e2, e3, e4, e5⟩⟩ := HJ7.out.r.six2
                      go_quiet (fail)
                      go_upto_region 15 with fail
                      have dz : ∀ k, Below W7.heap.size W7 (W7.drewN k) := fun k => bel_dn W7 k
                      go_region_law (first | (refine step_appBO rfl (.tmp 90) (.tmp 102) rfl w.heap.size (.slice vb un uc) (mB kd Ps A z) rfl (by first | exact HJ7.out.ob | exact HJ7.out.ob.below (dz _)) a2 kk c2 (x.bs.take kk) rfl HKL.out.1 (by first | exact slB_take (HU.out.2.2.2.1.below HJ7.out.bel) kk | exact slB_take (HU.out.2.2.2.1.below (bel_next HJ7.out.bel (dz _))) kk) (by have := HKL.out; have := HLB.out; omega) (by first | exact HJ7.out.bel.size | exact (bel_next HJ7.out.bel (dz _)).size) ?_; intro v8 w8 O8 g8; obtain ⟨vb2, uc2, un2, hv2, hn2⟩ := ownB_shape O8; clear hn2; subst hv2; have H8 : Hid (Blk w8 G 49 #[.int .i64 kd, .int .i64 0, .int .i64 0, .int .i64 0, .slice va2 vn2 vc2, .slice vb un uc] ∧ Below w.heap.size w w8 ∧ JI w B G (rqc kd pl nn wa q1 q2 m1 m2 k1 k2) kd va2 vn2 vc2 vb2 un2 uc2 (jW A (z + 1)) (mB kd Ps A z ++ x.bs.take kk) (w8.setCell ⟨G, 5, none⟩ (.slice vb2 un2 uc2))) := (by first | exact JI.bits HJ7.out O8 g8 HG.out.1 HG.out.2.1 HG.out.2.2 | exact JI.bits (HJ7.out.below (dz _)) O8 g8 HG.out.1 HG.out.2.1 HG.out.2.2); clear O8 g8; obtain ⟨⟨n0, n1, n2, n3, n4, n5⟩, ⟨o0, o1, o2, o3, o4, o5⟩⟩ := H8.out.1.six2))
                      all_goals (
                        go_wp2
                        go_roundw
                        case rel => exact ⟨z + 1, va2, vn2, vc2, vb2, un2, uc2, by omega, by go_num, by rw [← HF1.out], by rw [mB_more hk, ← HU.out.2.2.2.2.2.2.2.2.2.2.2.2.2, ← HU.out.2.2.2.2.2.2.2.2.2.2.2.2.1, HKK.out, Int.toNat_natCast]; exact H8.out.2.2, HSZ.out⟩
                        case measure => simp [intOf]; omega)
                    · go_quiet (fail)
                      go_wp2
                      go_roundw
                      case rel => exact ⟨z + 1, va2, vn2, vc2, vb, un, uc, by omega, by go_num, by rw [← HF1.out], by rw [mB_same (.inr (by rw [← HU.out.2.2.2.2.2.2.2.2.2.2.2.2.2]; exact suP_bits HSB.out.symm (by rw [← HL2.out]; exact hc)))]; (first | exact HJ7.out | exact HJ7.out.below (bel_dn _ _) | exact HJ7.out.below (Below.refl _ _).drew), HSZ.out⟩
                      case measure => simp [intOf]; omega
                  · go_quiet (fail)
                    go_wp2
                    go_roundw
                    case rel => exact ⟨z + 1, va2, vn2, vc2, vb, un, uc, by omega, by go_num, by rw [← HF1.out], by rw [mB_same (.inl hk)]; (first | exact HJ7.out | exact HJ7.out.below (bel_dn _ _) | exact HJ7.out.below (Below.refl _ _).drew), HSZ.out⟩
                    case measure => simp [intOf]; omega)
          )
      · have hi : ¬ (z : Int) < (n : Int) := by omega
        have ez : z = n := by omega
        subst ez
        have tt : td = true := HS.out.2.2.2.2.2.2.2.1.2 ⟨by first | rfl | trivial, hn0, by first | rfl | trivial, HJ1.out.2⟩
        have hne := HBAD.out tt
        have hpos : 0 < f0 := by
          have h9 := ffF_range HJ1.out.2
          have := HF0.out
          omega
        have HE := hide (HEF.out tt)
        rw [← HF0.out] at HE
        have HW5 : Hid (Below w.heap.size w wr ∧ Blk wr B 28 (rqc kd pl nn wa q1 q2 m1 m2 k1 k2) ∧ Blk wr (B + 1) 49 #[.int .i64 0, .int .i64 0, .int .i64 0, .int .i64 0, .slice none 0 0, .slice none 0 0] ∧ True) := ⟨HJ1.out.1.bel, HJ1.out.1.q, HJ1.out.1.r0, trivial⟩
        clear HE4 HEF HBAD tt HJ1 HG hne HF0
        obtain ⟨⟨y0, y1, y2, y3, y4, y5⟩, _⟩ := HW5.out.2.1.six2
        go_wp2_with fail
        refine (HFO.out _ f0 HW5.out.1).mono ?_
        rintro e wf ⟨rfl, bf⟩
        obtain ⟨fk, hfk⟩ : ∃ fk, fk = (foA (true && inB f0 1 255) kd f0).kd := ⟨_, rfl⟩
        obtain ⟨fl, hfl⟩ : ∃ fl, fl = (foA (true && inB f0 1 255) kd f0).fl := ⟨_, rfl⟩
        rw [← hfk, ← hfl]
        have HEE : Hid (R = ⟨fk, fl, 0, 0, [], []⟩) := by
          show _ = _
          rw [HE.out, hfk, hfl]
          obtain ⟨g1, g2, g3, g4⟩ := foA_rest (true && inB f0 1 255) kd f0
          cases hq : foA (true && inB f0 1 255) kd f0 with
          | mk a b c d e f => rw [hq] at g1 g2 g3 g4; simp only at g1 g2 g3 g4; subst g1; subst g2; subst g3; subst g4; rfl
        have K1 := HW5.out.2.2.1.below bf
        have HY : Hid (Below w.heap.size w (setL wf (B + 1) 0 [.int .i64 fk, .int .i64 fl, .int .i64 0, .int .i64 0, .slice none 0 0, .slice none 0 0])) := setL_below (by have := HB9.out; omega) _ _ _ (bel_next HW5.out.1 bf)
        obtain ⟨⟨z0, z1, z2, z3, z4, z5⟩, ⟨f0, f1, f2, f3, f4, f5⟩⟩ := K1.six2
        clear K1 bf hfk hfl y0 y1 y2 y3 y4 y5
        go_wp2
        refine bodyPost_ret (v := .agg #[.int .i64 fk, .int .i64 fl, .int .i64 0, .int .i64 0, .slice none 0 0, .slice none 0 0]) (by simp [results, Try.results19, go_sem, z0, z1, z2, z3, z4, z5]) rfl ?_
        rw [HEE.out]
        exact ⟨none, none, 0, 0, 0, 0, rfl, rfl, rfl, ownI_z _ _, ownB_z _ _, HY.out⟩
end Go.Proofs.Ytegckbfbmbiogaa

/- Texts that the proof needs, joined: JnD. -/
import Derived.Test.YtegckbfbmbiogaaV28
import Derived.Test.YtegckbfbmbiogaaV38
namespace Go.Proofs.Ytegckbfbmbiogaa
open Go.RowKit Go.Joins
set_option linter.unusedVariables false
set_option linter.unusedSimpArgs false
theorem okR_five {pl nn wa : Int} {ws : List Int} {l2 : Nat} (h : okR 5 pl nn wa ws ws.length l2 = true) : ws = [] := by
  unfold okR okK zrB at h
  simp at h
  apply List.eq_nil_of_length_eq_zero
  simp only [List.length_eq_zero_iff]
  simp_all
theorem okR_six {kd pl nn wa : Int} {ws : List Int} {bs : List Bool} (hk : kd = 6 ∨ kd = 22) (h : okR kd pl nn wa ws ws.length bs.length = true) : bs = [] := by
  rcases hk with rfl | rfl
  · unfold okR okK zrB at h
    simp at h
    simp_all
  · unfold okR okK zrB at h
    simp at h
    simp_all
theorem echo_any (kd pl nn wa : Int) (q1 q2 : Option Addr) (m1 m2 k1 k2 : Nat) (ws : List Int) (bs : List Bool) (Ps : List Pa) (A : Nat → An) (n : Nat) (w : World)
    (hok : okR kd pl nn wa ws ws.length bs.length = true) (hw : wrK kd = true ∧ ¬ kd = 23) (h1 : m1 = ws.length) (h2 : m2 = bs.length) (s1 : SlI w q1 ws) (s2 : SlB w q2 bs) (hl1 : ws.length ≤ 2000000) (hl2 : bs.length ≤ 2000000) :
    Calls Try.prog 61 #[.agg (rqc kd pl nn wa q1 q2 m1 m2 k1 k2)] w fun e w' => AnPost w w' e (waA kd pl ws bs Ps A n) := by
  have hk : kd = 5 ∨ kd = 6 ∨ kd = 15 ∨ kd = 16 ∨ kd = 22 := by
    have h9 := hw.1
    unfold wrK at h9
    have := of_decide_eq_true h9
    have := hw.2
    omega
  unfold waA
  rcases hk with rfl | rfl | rfl | rfl | rfl
  · rw [okR_five hok]
    exact echo_5 pl nn wa q1 q2 m1 m2 k1 k2 w bs h2 s2 hl2
  · have e := okR_six (.inl rfl) hok
    subst e
    exact echo_6 pl nn wa q1 q2 m1 m2 k1 k2 w ws h1 s1 hl1
  · rw [← h2]; exact echo_15 pl nn wa q1 q2 m1 m2 k1 k2 w
  · rw [← h1]; exact echo_16 pl nn wa q1 q2 m1 m2 k1 k2 w
  · have e := okR_six (.inr rfl) hok
    subst e
    exact echo_22 pl nn wa q1 q2 m1 m2 k1 k2 w ws h1 s1 hl1
structure JR (w : World) (B G : Nat) (rq : Array Value) (x : An) (r1 : Option Addr) (l1 c1 : Nat) (r2 : Option Addr) (l2 c2 : Nat) (u : World) : Prop where
  bel : Below w.heap.size w u
  q : Blk u B 28 rq
  r0 : Blk u (B + 1) 49 #[.int .i64 0, .int .i64 0, .int .i64 0, .int .i64 0, .slice none 0 0, .slice none 0 0]
  r : Blk u G 49 #[.int .i64 x.kd, .int .i64 x.fl, .int .i64 x.pl, .int .i64 x.nn, .slice r1 l1 c1, .slice r2 l2 c2]
  ow : OwnI u w.heap.size (.slice r1 l1 c1) x.ws
  ob : OwnB u w.heap.size (.slice r2 l2 c2) x.bs
  e1 : l1 = x.ws.length
  e2 : l2 = x.bs.length
theorem JR.below {w : World} {B G : Nat} {rq : Array Value} {x : An} {r1 : Option Addr} {l1 c1 : Nat} {r2 : Option Addr} {l2 c2 : Nat} {u u' : World} (h : JR w B G rq x r1 l1 c1 r2 l2 c2 u) (b : Below u.heap.size u u') : JR w B G rq x r1 l1 c1 r2 l2 c2 u' :=
  ⟨bel_next h.bel b, h.q.below b, h.r0.below b, h.r.below b, h.ow.below b, h.ob.below b, h.e1, h.e2⟩
theorem sl_lenI {w : World} {base : Nat} {a : Option Addr} {n c : Nat} {zs : List Int} (h : OwnI w base (.slice a n c) zs) : n = zs.length := by
  obtain ⟨a', c', n', e, h9⟩ := ownI_shape2 h
  simp at e
  obtain ⟨_, rfl, _⟩ := e
  exact h9
theorem sl_lenB {w : World} {base : Nat} {a : Option Addr} {n c : Nat} {zs : List Bool} (h : OwnB w base (.slice a n c) zs) : n = zs.length := by
  obtain ⟨a', c', n', e, h9⟩ := ownB_shape h
  simp at e
  obtain ⟨_, rfl, _⟩ := e
  exact h9
theorem JI.jr {w : World} {B G : Nat} {rq : Array Value} {kd : Int} {va : Option Addr} {vn vc : Nat} {vb : Option Addr} {un uc : Nat} {ws : List Int} {bs : List Bool} {u : World} (h : JI w B G rq kd va vn vc vb un uc ws bs u) : JR w B G rq ⟨kd, 0, 0, 0, ws, bs⟩ va vn vc vb un uc u :=
  ⟨h.bel, h.q, h.r0, h.r, h.ow, h.ob, sl_lenI h.ow, sl_lenB h.ob⟩
theorem setG6 {u : World} {B : Nat} {t : TypeId} {x0 x1 x2 x3 x4 x5 v0 v1 v2 v3 v4 v5 : Value} (h : Blk u B t #[x0, x1, x2, x3, x4, x5]) : Blk ((((((u.setCell ⟨B, 0, none⟩ v0).setCell ⟨B, 1, none⟩ v1).setCell ⟨B, 2, none⟩ v2).setCell ⟨B, 3, none⟩ v3).setCell ⟨B, 4, none⟩ v4).setCell ⟨B, 5, none⟩ v5) B t #[v0, v1, v2, v3, v4, v5] := by
  have h9 := (((((h.set 0 v0).set 1 v1).set 2 v2).set 3 v3).set 4 v4).set 5 v5
  simpa using h9
theorem JR.put {w : World} {B G : Nat} {rq : Array Value} {x y : An} {r1 : Option Addr} {l1 c1 : Nat} {r2 : Option Addr} {l2 c2 : Nat} {r1' : Option Addr} {l1' c1' : Nat} {r2' : Option Addr} {l2' c2' : Nat} {u : World} (h : JR w B G rq x r1 l1 c1 r2 l2 c2 u) (o1 : OwnI u w.heap.size (.slice r1' l1' c1') y.ws) (o2 : OwnB u w.heap.size (.slice r2' l2' c2') y.bs) (hG : w.heap.size ≤ G) (n1 : B ≠ G) (n2 : B + 1 ≠ G) :
    JR w B G rq y r1' l1' c1' r2' l2' c2' ((((((u.setCell ⟨G, 0, none⟩ (.int .i64 y.kd)).setCell ⟨G, 1, none⟩ (.int .i64 y.fl)).setCell ⟨G, 2, none⟩ (.int .i64 y.pl)).setCell ⟨G, 3, none⟩ (.int .i64 y.nn)).setCell ⟨G, 4, none⟩ (.slice r1' l1' c1')).setCell ⟨G, 5, none⟩ (.slice r2' l2' c2')) :=
  ⟨belp_set6 h.bel hG, (((((h.q.setNe n1).setNe n1).setNe n1).setNe n1).setNe n1).setNe n1, (((((h.r0.setNe n2).setNe n2).setNe n2).setNe n2).setNe n2).setNe n2, setG6 h.r, rowp_set6 o1 ⟨_, h.r⟩ (by decide), rowp_set6 o2 ⟨_, h.r⟩ (by decide), sl_lenI o1, sl_lenB o2⟩
def lenJ (w : World) (B : Nat) : Nat := match w.cell? ⟨B, 5, none⟩ with | some (.slice _ n _) => n | _ => 0
set_option maxRecDepth 20000 in
set_option maxHeartbeats 8000000 in
theorem specJoined_good (kd pl nn wa : Int) (q1 q2 : Option Addr) (m1 m2 k1 k2 : Nat) (ws : List Int) (bs : List Bool) (a : Option Addr) (n cap base : Nat) (Ps : List Pa) (at' : Option Addr) (cap' : Nat) (A : Nat → An) (w : World)
    (h1 : m1 = ws.length) (h2 : m2 = bs.length) (s1 : SlI w q1 ws) (s2 : SlB w q2 bs) (hl1 : ws.length ≤ 2000000) (hl2 : bs.length ≤ 2000000) (hn : n = Ps.length) (h : OwnPs w base (.slice a n cap) Ps) (h' : SlA w at' n A) (hn8 : n ≤ 100) (hP : ∀ k, k < n → 0 ≤ (Ps.getD k default).n ∧ (Ps.getD k default).n ≤ 2000) (hP2 : ∀ k, k < n → (Ps.getD k default).ws.length ≤ 2000 ∧ (Ps.getD k default).bs.length ≤ 2000) (hA : ∀ k, k < n → (A k).ws.length ≤ 2000 ∧ (A k).bs.length ≤ 2000)
    (hok : okR kd pl nn wa ws ws.length bs.length = true) (hn0 : 0 < n) (hall : AllS Ps A n) (hff : ffF A n 0 = 0) :
    Calls Try.prog 19 #[.agg (rqc kd pl nn wa q1 q2 m1 m2 k1 k2), .slice a n cap, .slice at' n cap'] w fun e w' => AnPost w w' e (bif suQ kd pl nn wa ws bs (rsA kd pl ws bs Ps A n) then rsA kd pl ws bs Ps A n else foA (true && inB 4 1 255) kd 4) := by
  obtain ⟨B, hB⟩ : ∃ B, B = w.heap.size := ⟨_, rfl⟩
  obtain ⟨W, hW⟩ : ∃ W, W = (w.alloc (.cells (rqc kd pl nn wa q1 q2 m1 m2 k1 k2) 28)).alloc (.cells #[.int .i64 0, .int .i64 0, .int .i64 0, .int .i64 0, .slice none 0 0, .slice none 0 0] 49) := ⟨_, rfl⟩
  have bW : Below w.heap.size w W := by rw [hW]; exact bel_next (bel_alloc _ _) (bel_alloc _ _)
  have HW : Hid (Below w.heap.size w W ∧ Blk W B 28 (rqc kd pl nn wa q1 q2 m1 m2 k1 k2) ∧ Blk W (B + 1) 49 #[.int .i64 0, .int .i64 0, .int .i64 0, .int .i64 0, .slice none 0 0, .slice none 0 0] ∧ True) := ⟨bW, by rw [hW, hB]; exact (Blk.new w _ _).below (bel_alloc _ _), by rw [hW, hB]; have := Blk.new (w.alloc (.cells (rqc kd pl nn wa q1 q2 m1 m2 k1 k2) 28)) #[.int .i64 0, .int .i64 0, .int .i64 0, .int .i64 0, .slice none 0 0, .slice none 0 0] 49; simpa using this, trivial⟩
  have HB9 : Hid (w.heap.size = B) := hB.symm
  have HS : Hid (m1 = ws.length ∧ m2 = bs.length ∧ SlI w q1 ws ∧ SlB w q2 bs ∧ OwnPs w base (.slice a n cap) Ps ∧ SlA w at' n A ∧ n = Ps.length ∧ True ∧ (∀ k, k < n → 0 ≤ (Ps.getD k default).n ∧ (Ps.getD k default).n ≤ 2000) ∧ (∀ k, k < n → (Ps.getD k default).ws.length ≤ 2000 ∧ (Ps.getD k default).bs.length ≤ 2000) ∧ (∀ k, k < n → (A k).ws.length ≤ 2000 ∧ (A k).bs.length ≤ 2000)) := ⟨h1, h2, s1, s2, h, h', hn, trivial, hP, hP2, hA⟩
  obtain ⟨R, hR⟩ : ∃ R, R = (bif suQ kd pl nn wa ws bs (rsA kd pl ws bs Ps A n) then rsA kd pl ws bs Ps A n else foA (true && inB 4 1 255) kd 4) := ⟨_, rfl⟩
  rw [← hR]
  have HEY : Hid (∀ x, x = rsA kd pl ws bs Ps A n → suQ kd pl nn wa ws bs x = true → R = x) := by
    intro x hx e; rw [hR, ← hx, e]; rfl
  have HEN : Hid (∀ x, x = rsA kd pl ws bs Ps A n → suQ kd pl nn wa ws bs x = false → R = foA (true && inB 4 1 255) kd 4) := by
    intro x hx e; rw [hR, ← hx, e]; rfl
  have HAL : Hid (AllS Ps A n ∧ ffF A n 0 = 0 ∧ okR kd pl nn wa ws ws.length bs.length = true) := ⟨hall, hff, hok⟩
  have HFO : Hid (∀ (u : World) (x : Int), Below w.heap.size w u → Calls Try.prog 58 #[.agg (rqc kd pl nn wa q1 q2 m1 m2 k1 k2), .int .i64 x] u fun e w' => e = .returned (.agg #[.int .i64 (foA (true && inB x 1 255) kd x).kd, .int .i64 (foA (true && inB x 1 255) kd x).fl, .int .i64 0, .int .i64 0, .slice none 0 0, .slice none 0 0]) ∧ Below u.heap.size u w') := by
    intro u x hu
    have h9 := specFaultOf_q kd pl nn wa q1 q2 m1 m2 k1 k2 ws bs x u h1 h2 (s1.below hu) (s2.below hu) hl1 hl2
    rw [h1, h2, hok] at h9
    rw [foV_foA] at h9
    rw [h1, h2]
    exact h9
  have HRO : Hid (∀ (u : World), Below w.heap.size w u → Calls Try.prog 20 #[.agg (rqc kd pl nn wa q1 q2 m1 m2 k1 k2)] u fun e w' => e = .returned (.bool true) ∧ Below u.heap.size u w') := by
    intro u hu
    have h9 := specReqOk_q kd pl nn wa q1 q2 m1 m2 k1 k2 ws bs u h1 h2 (s1.below hu) (s2.below hu) hl1 hl2
    rw [← hok, ← h1, ← h2]
    exact h9
  have HEC : Hid (∀ (u : World), Below w.heap.size w u → wrK kd = true ∧ ¬ kd = 23 → Calls Try.prog 61 #[.agg (rqc kd pl nn wa q1 q2 m1 m2 k1 k2)] u fun e w' => AnPost u w' e (rsA kd pl ws bs Ps A n)) := by
    intro u hu hw
    have h9 := echo_any kd pl nn wa q1 q2 m1 m2 k1 k2 ws bs Ps A n u hok hw h1 h2 (s1.below hu) (s2.below hu) hl1 hl2
    unfold rsA
    rw [if_pos hw]
    exact h9
  have HSX : Hid (∀ (u : World) (x : An) (r1 r2 : Option Addr) (l1 l2 c1 c2 : Nat), Below w.heap.size w u → SlI u r1 x.ws → SlB u r2 x.bs → l1 = x.ws.length → l2 = x.bs.length → x.ws.length ≤ 2000000 → x.bs.length ≤ 2000000 → Calls Try.prog 59 #[.agg (rqc kd pl nn wa q1 q2 m1 m2 k1 k2), .agg #[.int .i64 x.kd, .int .i64 x.fl, .int .i64 x.pl, .int .i64 x.nn, .slice r1 l1 c1, .slice r2 l2 c2]] u fun e w' => e = .returned (.bool (suQ kd pl nn wa ws bs x)) ∧ Below u.heap.size u w') := by
    intro u x r1 r2 l1 l2 c1 c2 hu a1 a2 e1 e2 b1 b2
    have h9 := specSuits_q kd x.kd x.fl pl nn wa q1 q2 m1 m2 k1 k2 ws bs x.pl x.nn r1 r2 l1 l2 c1 c2 x.ws x.bs u h1 h2 (s1.below hu) (s2.below hu) hl1 hl2 e1 e2 a1 a2 b1 b2
    unfold suQ
    rw [← h1, ← h2, ← e1, ← e2]
    exact h9
  clear bW h1 h2 s1 s2 hn h h' hP hP2 hA hR hok hall hff
  have d0 : ((n : Int) == 0) = false := by simp; omega
  go_enter Try.func19, Try.ntmps19
  go_upto_region 1 with fail
  rw [← hW, ← hB]
  clear hW hB
  obtain ⟨⟨y0, y1, y2, y3, y4, y5⟩, _⟩ := HW.out.2.1.six2
  go_wp2_with fail
  refine (HRO.out _ HW.out.1).mono ?_
  rintro e w1 ⟨rfl, b1⟩
  have HW1 : Hid (Below w.heap.size w w1 ∧ Blk w1 B 28 (rqc kd pl nn wa q1 q2 m1 m2 k1 k2) ∧ Blk w1 (B + 1) 49 #[.int .i64 0, .int .i64 0, .int .i64 0, .int .i64 0, .slice none 0 0, .slice none 0 0] ∧ True) := ⟨bel_next HW.out.1 b1, HW.out.2.1.below b1, HW.out.2.2.1.below b1, trivial⟩
  clear b1 HW y0 y1 y2 y3 y4 y5 HRO
  obtain ⟨G, hG⟩ : ∃ G, G = w1.heap.size := ⟨_, rfl⟩
  obtain ⟨⟨y0, y1, y2, y3, y4, y5⟩, _⟩ := HW1.out.2.1.six2
  obtain ⟨W4, hW4⟩ : ∃ W4, W4 = w1.alloc (.cells #[.int .i64 kd, .int .i64 0, .int .i64 0, .int .i64 0, .slice none 0 0, .slice none 0 0] 49) := ⟨_, rfl⟩
  have HJ : Hid (JI w B G (rqc kd pl nn wa q1 q2 m1 m2 k1 k2) kd none 0 0 none 0 0 [] [] W4 ∧ w.heap.size ≤ G ∧ B ≠ G ∧ B + 1 ≠ G) := ⟨⟨bel_next HW1.out.1 (by rw [hW4]; exact bel_alloc _ _), HW1.out.2.1.below (by rw [hW4]; exact bel_alloc _ _), HW1.out.2.2.1.below (by rw [hW4]; exact bel_alloc _ _), by rw [hW4, hG]; exact Blk.new w1 _ _, ownI_z _ _, ownB_z _ _⟩, by rw [hG]; exact HW1.out.1.size, by have := HW1.out.2.1.lt; omega, by have := HW1.out.2.2.1.lt; omega⟩
  clear HW1
  go_wp2
  rw [← hW4, ← hG]
  clear hW4 hG y0 y1 y2 y3 y4 y5
  go_loopw [7, 9] (fun f i wr => ∃ (z : Nat) (va : Option Addr) (vn vc : Nat) (vb : Option Addr) (un uc : Nat), z ≤ n ∧ i = .int .i64 z ∧ f = .int .i64 (ffF A z 0) ∧ JI w B G (rqc kd pl nn wa q1 q2 m1 m2 k1 k2) kd va vn vc vb un uc (jW A z) (mB kd Ps A z) wr ∧ AllS Ps A z) (fun _ i _ => n - (intOf i).toNat)
  case atStart => exact ⟨0, _, _, _, _, _, _, Nat.zero_le _, rfl, by rw [ffF_end0 A], by rw [mB_zero]; exact HJ.out.1, fun j hj => by omega⟩
  case round =>
    obtain ⟨z, va, vn, vc, vb, un, uc, hz, rfl, rfl, hj, hall⟩ := hrel
    have HJ1 : Hid (JI w B G (rqc kd pl nn wa q1 q2 m1 m2 k1 k2) kd va vn vc vb un uc (jW A z) (mB kd Ps A z) wr ∧ AllS Ps A z) := ⟨hj, hall⟩
    have HG : Hid (w.heap.size ≤ G ∧ B ≠ G ∧ B + 1 ≠ G) := HJ.out.2
    obtain ⟨f0, hf0⟩ : ∃ f0, f0 = ffF A z 0 := ⟨_, rfl⟩
    rw [← hf0]
    have HF0 := hide hf0
    clear hj hall HJ hf0
    by_cases hlt : z < n
    · have hi : (z : Int) < (n : Int) := by omega
      obtain ⟨g, off, b1, b2, d1, d2, rfl, i0, i1, i2, i3, i4, i5, i6, i7, si1, si2⟩ := HS.out.2.2.2.2.1.at (k := z) (by have := HS.out.2.2.2.2.2.2.1; omega)
      obtain ⟨g', off', a1, a2, c1, c2, rfl, j0, j1, j2, j3, j4, j5, sj1, sj2, sj3, sj4⟩ := HS.out.2.2.2.2.2.1.at hlt
      obtain ⟨P, hP⟩ : ∃ P, P = Ps.getD z default := ⟨_, rfl⟩
      obtain ⟨x, hx⟩ : ∃ x, x = A z := ⟨_, rfl⟩
      rw [← hP] at i0 i1 i2 i3 i4 i5 i6 i7 si1 si2
      rw [← hx] at j0 j1 j2 j3 j4 j5 sj1 sj2 sj3 sj4
      have p8 := HS.out.2.2.2.2.2.2.2.2.1 z hlt
      have p9 := HS.out.2.2.2.2.2.2.2.2.2.1 z hlt
      have x9 := HS.out.2.2.2.2.2.2.2.2.2.2 z hlt
      rw [← hP] at p8 p9
      rw [← hx] at x9
      obtain ⟨t1, ht1⟩ : ∃ t1, t1 = P.ws.length := ⟨_, rfl⟩
      obtain ⟨t2, ht2⟩ : ∃ t2, t2 = P.bs.length := ⟨_, rfl⟩
      obtain ⟨l1, hl1⟩ : ∃ l1, l1 = x.ws.length := ⟨_, rfl⟩
      obtain ⟨l2, hl2⟩ : ∃ l2, l2 = x.bs.length := ⟨_, rfl⟩
      rw [← ht1] at i5
      rw [← ht2] at i6
      rw [← hl1] at j4 sj3
      rw [← hl2] at j5 sj4
      have hbb : ∀ (bk o : Nat), w.cell? ⟨bk, o, none⟩ ≠ none → bk < w.heap.size := fun bk o hc => by
        by_cases e : bk < w.heap.size
        · exact e
        · exfalso; apply hc; simp [World.cell?, Array.getElem?_eq_none (Nat.le_of_not_lt e)]
      have hg' : g' < w.heap.size := hbb g' (off' + z * 6) (by rw [j0]; simp)
      have hg : g < w.heap.size := hbb g (off + z * 8) (by rw [i0]; simp)
      have HP : Hid (∀ u, Below w.heap.size w u → u.cell? ⟨g, off + z * 8 + 2, none⟩ = some (.int .i64 P.kd) ∧ u.cell? ⟨g, off + z * 8 + 3, none⟩ = some (.int .i64 P.pl) ∧ u.cell? ⟨g, off + z * 8 + 4, none⟩ = some (.int .i64 P.n) ∧ u.cell? ⟨g, off + z * 8 + 5, none⟩ = some (.slice b1 t1 d1) ∧ u.cell? ⟨g, off + z * 8 + 6, none⟩ = some (.slice b2 t2 d2) ∧ u.cell? ⟨g, off + z * 8 + 7, none⟩ = some (.int .i64 P.wa)) := fun u hu => ⟨(hu.cell (p := ⟨g, off + z * 8 + 2, none⟩) hg).trans i2, (hu.cell (p := ⟨g, off + z * 8 + 3, none⟩) hg).trans i3, (hu.cell (p := ⟨g, off + z * 8 + 4, none⟩) hg).trans i4, (hu.cell (p := ⟨g, off + z * 8 + 5, none⟩) hg).trans i5, (hu.cell (p := ⟨g, off + z * 8 + 6, none⟩) hg).trans i6, (hu.cell (p := ⟨g, off + z * 8 + 7, none⟩) hg).trans i7⟩
      have HX : Hid (∀ u, Below w.heap.size w u → u.cell? ⟨g', off' + z * 6, none⟩ = some (.int .i64 x.kd) ∧ u.cell? ⟨g', off' + z * 6 + 1, none⟩ = some (.int .i64 x.fl) ∧ u.cell? ⟨g', off' + z * 6 + 2, none⟩ = some (.int .i64 x.pl) ∧ u.cell? ⟨g', off' + z * 6 + 3, none⟩ = some (.int .i64 x.nn) ∧ u.cell? ⟨g', off' + z * 6 + 4, none⟩ = some (.slice a1 l1 c1) ∧ u.cell? ⟨g', off' + z * 6 + 5, none⟩ = some (.slice a2 l2 c2)) := fun u hu => ⟨(hu.cell (p := ⟨g', off' + z * 6, none⟩) hg').trans j0, (hu.cell (p := ⟨g', off' + z * 6 + 1, none⟩) hg').trans j1, (hu.cell (p := ⟨g', off' + z * 6 + 2, none⟩) hg').trans j2, (hu.cell (p := ⟨g', off' + z * 6 + 3, none⟩) hg').trans j3, (hu.cell (p := ⟨g', off' + z * 6 + 4, none⟩) hg').trans j4, (hu.cell (p := ⟨g', off' + z * 6 + 5, none⟩) hg').trans j5⟩
      have HU : Hid (SlI w b1 P.ws ∧ SlB w b2 P.bs ∧ SlI w a1 x.ws ∧ SlB w a2 x.bs ∧ t1 = P.ws.length ∧ t2 = P.bs.length ∧ l1 = x.ws.length ∧ l2 = x.bs.length ∧ l2 ≤ c2 ∧ (P.ws.length ≤ 2000 ∧ P.bs.length ≤ 2000) ∧ (x.ws.length ≤ 2000 ∧ x.bs.length ≤ 2000) ∧ (0 ≤ P.n ∧ P.n ≤ 2000) ∧ P = Ps.getD z default ∧ x = A z) := ⟨si1, si2, sj1, sj2, ht1, ht2, hl1, hl2, sj4, p9, x9, p8, hP, hx⟩
      clear si1 si2 sj1 sj2 sj3 sj4 ht1 ht2 hl1 hl2 p8 p9 x9 hP hx i0 i1 i2 i3 i4 i5 i6 i7 j0 j1 j2 j3 j4 j5 hbb
      have HSB : Hid (suP P x = true) := by
        show _ = _
        have h9 := HAL.out.1 z hlt
        rw [← HU.out.2.2.2.2.2.2.2.2.2.2.2.2.1, ← HU.out.2.2.2.2.2.2.2.2.2.2.2.2.2] at h9
        exact h9
      have HSU : Hid (∀ u, Below w.heap.size w u → Calls Try.prog 59 #[.agg #[.int .i64 P.kd, .int .i64 P.pl, .int .i64 P.n, .slice b1 t1 d1, .slice b2 t2 d2, .int .i64 P.wa], .agg #[.int .i64 x.kd, .int .i64 x.fl, .int .i64 x.pl, .int .i64 x.nn, .slice a1 l1 c1, .slice a2 l2 c2]] u fun e w' => e = .returned (.bool true) ∧ Below u.heap.size u w') := by
        intro u hu
        have h9 := specSuits_q P.kd x.kd x.fl P.pl P.n P.wa b1 b2 t1 t2 d1 d2 P.ws P.bs x.pl x.nn a1 a2 l1 l2 c1 c2 x.ws x.bs u HU.out.2.2.2.2.1 HU.out.2.2.2.2.2.1 (HU.out.1.below hu) (HU.out.2.1.below hu) (by have := HU.out; omega) (by have := HU.out; omega) HU.out.2.2.2.2.2.2.1 HU.out.2.2.2.2.2.2.2.1 (HU.out.2.2.1.below hu) (HU.out.2.2.2.1.below hu) (by have := HU.out; omega) (by have := HU.out; omega)
        rw [← HSB.out]
        unfold suP
        rw [← HU.out.2.2.2.2.1, ← HU.out.2.2.2.2.2.1, ← HU.out.2.2.2.2.2.2.1, ← HU.out.2.2.2.2.2.2.2.1]
        exact h9
      obtain ⟨v2, v3, v4, v5, v6, v7⟩ := HP.out wr HJ1.out.1.bel
      obtain ⟨u0, u1, u2, u3, u4, u5⟩ := HX.out wr HJ1.out.1.bel
      go_upto_region 8 with fail
      go_region_held3 (fun w' => w'.cell? ⟨g, off + z * 8 + 2, none⟩ = some (.int .i64 P.kd) ∧ w'.cell? ⟨g, off + z * 8 + 3, none⟩ = some (.int .i64 P.pl) ∧ w'.cell? ⟨g, off + z * 8 + 4, none⟩ = some (.int .i64 P.n) ∧ w'.cell? ⟨g, off + z * 8 + 5, none⟩ = some (.slice b1 t1 d1) ∧ w'.cell? ⟨g, off + z * 8 + 6, none⟩ = some (.slice b2 t2 d2) ∧ w'.cell? ⟨g, off + z * 8 + 7, none⟩ = some (.int .i64 P.wa) ∧ w'.cell? ⟨g', off' + z * 6, none⟩ = some (.int .i64 x.kd) ∧ w'.cell? ⟨g', off' + z * 6 + 1, none⟩ = some (.int .i64 x.fl) ∧ w'.cell? ⟨g', off' + z * 6 + 2, none⟩ = some (.int .i64 x.pl) ∧ w'.cell? ⟨g', off' + z * 6 + 3, none⟩ = some (.int .i64 x.nn) ∧ w'.cell? ⟨g', off' + z * 6 + 4, none⟩ = some (.slice a1 l1 c1) ∧ w'.cell? ⟨g', off' + z * 6 + 5, none⟩ = some (.slice a2 l2 c2)) (go_keep)
        (first | (go_at_call 59; refine (HSU.out _ (bel_next HJ1.out.1.bel ?hbl)).mono ?_; (case hbl => first | exact Below.refl _ _ | exact (Below.refl _ _).drew | exact (Below.refl _ _).drew.drew); rintro e w5 ⟨rfl, b5⟩; have HJ5 : Hid (JI w B G (rqc kd pl nn wa q1 q2 m1 m2 k1 k2) kd va vn vc vb un uc (jW A z) (mB kd Ps A z) w5) := HJ1.out.1.below (bel_next (by first | exact Below.refl _ _ | exact (Below.refl _ _).drew | exact (Below.refl _ _).drew.drew) b5); clear b5; obtain ⟨r2, r3, r4, r5, r6, r7⟩ := HP.out w5 HJ5.out.bel; obtain ⟨s0, s1, s2, s3, s4, s5⟩ := HX.out w5 HJ5.out.bel))
      all_goals (
        clear v2 v3 v4 v5 v6 v7 u0 u1 u2 u3 u4 u5
        have HSZ : Hid (AllS Ps A (z + 1)) := fun j hj => HAL.out.1 j (by omega)
        by_cases hf : f0 = 0
        · have df : (f0 == 0) = true := by simp [hf]
          have HF1 : Hid (x.fl = ffF A (z + 1) 0) := by show _ = _; rw [ffF_snoc, ← HF0.out, if_pos hf, ← HU.out.2.2.2.2.2.2.2.2.2.2.2.2.2]
          by_cases hp : 0 < x.fl
          · have HQ := suP_fault HSB.out
            go_wp2
            go_roundw
            case rel => exact ⟨z + 1, va, vn, vc, vb, un, uc, by omega, by go_num, by rw [← HF1.out], by rw [jW_same (by rw [← HU.out.2.2.2.2.2.2.2.2.2.2.2.2.2]; exact (HQ.2.2 hp).1), mB_same (.inr (by rw [← HU.out.2.2.2.2.2.2.2.2.2.2.2.2.2]; exact (HQ.2.2 hp).2))]; exact HJ5.out, HSZ.out⟩
            case measure => simp [intOf]; omega
          · obtain ⟨⟨x0, x1, x2, x3, x4, x5⟩, ⟨e0, e1, e2, e3, e4, e5⟩⟩ := HJ5.out.r.six2
            have hle : (jW A z).length ≤ 2000000 := by
              have h9 := jW_len A n (fun k hk => (HS.out.2.2.2.2.2.2.2.2.2.2 k hk).1) z hz
              have : z * 2000 ≤ 100 * 2000 := Nat.mul_le_mul_right _ (by omega)
              omega
            have HLE := hide hle
            clear hle
            go_upto_region 13 with fail
            have dz : Below w5.heap.size w5 w5.drew := (Below.refl _ _).drew
            go_region_law (first | (refine step_appIO rfl (.tmp 63) (.tmp 68) rfl w.heap.size (.slice va vn vc) (jW A z) rfl (by first | exact HJ5.out.ow | exact HJ5.out.ow.below dz) a1 l1 c1 x.ws rfl HU.out.2.2.2.2.2.2.1 (by first | exact HU.out.2.2.1.below HJ5.out.bel | exact HU.out.2.2.1.below (bel_next HJ5.out.bel dz)) (by have := HU.out; have := HLE.out; omega) (by first | exact HJ5.out.bel.size | exact (bel_next HJ5.out.bel dz).size) ?_; intro v6 w6 O6 g6; obtain ⟨va2, vc2, vn2, hv2, hn2⟩ := ownI_shape O6; clear hn2; subst hv2; have H6 : Hid (Blk w6 G 49 #[.int .i64 kd, .int .i64 0, .int .i64 0, .int .i64 0, .slice va vn vc, .slice vb un uc] ∧ Below w.heap.size w w6 ∧ JI w B G (rqc kd pl nn wa q1 q2 m1 m2 k1 k2) kd va2 vn2 vc2 vb un uc (jW A z ++ x.ws) (mB kd Ps A z) (w6.setCell ⟨G, 4, none⟩ (.slice va2 vn2 vc2))) := (by first | exact JI.words HJ5.out O6 g6 HG.out.1 HG.out.2.1 HG.out.2.2 | exact JI.words (HJ5.out.below dz) O6 g6 HG.out.1 HG.out.2.1 HG.out.2.2); clear O6 g6; obtain ⟨⟨n0, n1, n2, n3, n4, n5⟩, ⟨o0, o1, o2, o3, o4, o5⟩⟩ := H6.out.1.six2; obtain ⟨c0, c1', c2', c3', c4', c5'⟩ := HX.out w6 H6.out.2.1))
            all_goals (
              obtain ⟨W7, hW7⟩ : ∃ W7, W7 = w6.setCell ⟨G, 4, none⟩ (.slice va2 vn2 vc2) := ⟨_, rfl⟩
              have hj7 : JI w B G (rqc kd pl nn wa q1 q2 m1 m2 k1 k2) kd va2 vn2 vc2 vb un uc (jW A (z + 1)) (mB kd Ps A z) W7 := by rw [hW7, jW_succ, ← HU.out.2.2.2.2.2.2.2.2.2.2.2.2.2]; exact H6.out.2.2
              have HJ7 := hide hj7
              rw [← hW7]
              clear hj7 hW7 H6 n0 n1 n2 n3 n4 n5 o0 o1 o2 o3 o4 o5 c0 c1' c2' c3' c4' c5' x0 x1 x2 x3 x4 x5 e0 e1 e2 e3 e4 e5 r2 r3 r4 r5 r6 r7 s0 s1 s2 s3 s4 s5 dz HJ5
              obtain ⟨⟨y0, y1, y2, y3, y4, y5⟩, _⟩ := HJ7.out.q.six2
              obtain ⟨r2, r3, r4, r5, r6, r7⟩ := HP.out W7 HJ7.out.bel
              obtain ⟨s0, s1, s2, s3, s4, s5⟩ := HX.out W7 HJ7.out.bel
              have HL2 : Hid (l2 = x.bs.length) := HU.out.2.2.2.2.2.2.2.1
              go_upto_region 14 with fail
              by_cases hk : kd < 3
              · by_cases hc : P.n ≤ (l2 : Int)
                · obtain ⟨kk, hkk⟩ : ∃ kk : Nat, P.n = (kk : Int) := ⟨P.n.toNat, by have := HU.out; omega⟩
                  have HKK := hide hkk
                  rw [hkk] at r4 hc
                  have HKL : Hid (kk = (x.bs.take kk).length ∧ kk ≤ 2000) := ⟨by rw [List.length_take]; have := HL2.out; omega, by have := HU.out; omega⟩
                  have i1 : (kk : Int) ≤ (c2 : Int) := by have := HU.out; omega
                  have i2 : (0 : Int) ≤ (kk : Int) := by omega
                  have i3 : kk ≤ c2 := by omega
                  have HLB : Hid ((mB kd Ps A z).length ≤ 2000000) := by
                    have h9 := mB_len kd Ps A n (fun k hk => (HS.out.2.2.2.2.2.2.2.2.2.2 k hk).2) z hz
                    have : z * 2000 ≤ 100 * 2000 := Nat.mul_le_mul_right _ (by omega)
                    show _ ≤ _
                    omega
                  clear hkk
                  obtain ⟨⟨x0, x1, x2, x3, x4, x5⟩, ⟨e0, e1, e2, e3, e4, e5⟩⟩ := HJ7.out.r.six2
                  go_quiet (fail)
                  go_upto_region 15 with fail
                  have dz : ∀ k, Below W7.heap.size W7 (W7.drewN k) := fun k => bel_dn W7 k
                  go_region_law (first | (refine step_appBO rfl (.tmp 90) (.tmp 102) rfl w.heap.size (.slice vb un uc) (mB kd Ps A z) rfl (by first | exact HJ7.out.ob | exact HJ7.out.ob.below (dz _)) a2 kk c2 (x.bs.take kk) rfl HKL.out.1 (by first | exact slB_take (HU.out.2.2.2.1.below HJ7.out.bel) kk | exact slB_take (HU.out.2.2.2.1.below (bel_next HJ7.out.bel (dz _))) kk) (by have := HKL.out; have := HLB.out; omega) (by first | exact HJ7.out.bel.size | exact (bel_next HJ7.out.bel (dz _)).size) ?_; intro v8 w8 O8 g8; obtain ⟨vb2, uc2, un2, hv2, hn2⟩ := ownB_shape O8; clear hn2; subst hv2; have H8 : Hid (Blk w8 G 49 #[.int .i64 kd, .int .i64 0, .int .i64 0, .int .i64 0, .slice va2 vn2 vc2, .slice vb un uc] ∧ Below w.heap.size w w8 ∧ JI w B G (rqc kd pl nn wa q1 q2 m1 m2 k1 k2) kd va2 vn2 vc2 vb2 un2 uc2 (jW A (z + 1)) (mB kd Ps A z ++ x.bs.take kk) (w8.setCell ⟨G, 5, none⟩ (.slice vb2 un2 uc2))) := (by first | exact JI.bits HJ7.out O8 g8 HG.out.1 HG.out.2.1 HG.out.2.2 | exact JI.bits (HJ7.out.below (dz _)) O8 g8 HG.out.1 HG.out.2.1 HG.out.2.2); clear O8 g8; obtain ⟨⟨n0, n1, n2, n3, n4, n5⟩, ⟨o0, o1, o2, o3, o4, o5⟩⟩ := H8.out.1.six2))
                  all_goals (
                    go_wp2
                    go_roundw
                    case rel => exact ⟨z + 1, va2, vn2, vc2, vb2, un2, uc2, by omega, by go_num, by rw [← HF1.out], by rw [mB_more hk, ← HU.out.2.2.2.2.2.2.2.2.2.2.2.2.2, ← HU.out.2.2.2.2.2.2.2.2.2.2.2.2.1, HKK.out, Int.toNat_natCast]; exact H8.out.2.2, HSZ.out⟩
                    case measure => simp [intOf]; omega)
                · go_quiet (fail)
                  go_wp2
                  go_roundw
                  case rel => exact ⟨z + 1, va2, vn2, vc2, vb, un, uc, by omega, by go_num, by rw [← HF1.out], by rw [mB_same (.inr (by rw [← HU.out.2.2.2.2.2.2.2.2.2.2.2.2.2]; exact suP_bits HSB.out (by rw [← HL2.out]; exact hc)))]; (first | exact HJ7.out | exact HJ7.out.below (bel_dn _ _) | exact HJ7.out.below (Below.refl _ _).drew), HSZ.out⟩
                  case measure => simp [intOf]; omega
              · go_quiet (fail)
                go_wp2
                go_roundw
                case rel => exact ⟨z + 1, va2, vn2, vc2, vb, un, uc, by omega, by go_num, by rw [← HF1.out], by rw [mB_same (.inl hk)]; (first | exact HJ7.out | exact HJ7.out.below (bel_dn _ _) | exact HJ7.out.below (Below.refl _ _).drew), HSZ.out⟩
                case measure => simp [intOf]; omega)
        · have df : (f0 == 0) = false := by simp [hf]
          have HF1 : Hid (f0 = ffF A (z + 1) 0) := by show _ = _; rw [ffF_snoc, ← HF0.out, if_neg hf]
          by_cases hp : 0 < x.fl
          · have HQ := suP_fault HSB.out
            go_wp2
            go_roundw
            case rel => exact ⟨z + 1, va, vn, vc, vb, un, uc, by omega, by go_num, by rw [← HF1.out], by rw [jW_same (by rw [← HU.out.2.2.2.2.2.2.2.2.2.2.2.2.2]; exact (HQ.2.2 hp).1), mB_same (.inr (by rw [← HU.out.2.2.2.2.2.2.2.2.2.2.2.2.2]; exact (HQ.2.2 hp).2))]; exact HJ5.out, HSZ.out⟩
            case measure => simp [intOf]; omega
          · obtain ⟨⟨x0, x1, x2, x3, x4, x5⟩, ⟨e0, e1, e2, e3, e4, e5⟩⟩ := HJ5.out.r.six2
            have hle : (jW A z).length ≤ 2000000 := by
              have h9 := jW_len A n (fun k hk => (HS.out.2.2.2.2.2.2.2.2.2.2 k hk).1) z hz
              have : z * 2000 ≤ 100 * 2000 := Nat.mul_le_mul_right _ (by omega)
              omega
            have HLE := hide hle
            clear hle
            go_upto_region 13 with fail
            have dz : Below w5.heap.size w5 w5.drew := (Below.refl _ _).drew
            go_region_law (first | (refine step_appIO rfl (.tmp 63) (.tmp 68) rfl w.heap.size (.slice va vn vc) (jW A z) rfl (by first | exact HJ5.out.ow | exact HJ5.out.ow.below dz) a1 l1 c1 x.ws rfl HU.out.2.2.2.2.2.2.1 (by first | exact HU.out.2.2.1.below HJ5.out.bel | exact HU.out.2.2.1.below (bel_next HJ5.out.bel dz)) (by have := HU.out; have := HLE.out; omega) (by first | exact HJ5.out.bel.size | exact (bel_next HJ5.out.bel dz).size) ?_; intro v6 w6 O6 g6; obtain ⟨va2, vc2, vn2, hv2, hn2⟩ := ownI_shape O6; clear hn2; subst hv2; have H6 : Hid (Blk w6 G 49 #[.int .i64 kd, .int .i64 0, .int .i64 0, .int .i64 0, .slice va vn vc, .slice vb un uc] ∧ Below w.heap.size w w6 ∧ JI w B G (rqc kd pl nn wa q1 q2 m1 m2 k1 k2) kd va2 vn2 vc2 vb un uc (jW A z ++ x.ws) (mB kd Ps A z) (w6.setCell ⟨G, 4, none⟩ (.slice va2 vn2 vc2))) := (by first | exact JI.words HJ5.out O6 g6 HG.out.1 HG.out.2.1 HG.out.2.2 | exact JI.words (HJ5.out.below dz) O6 g6 HG.out.1 HG.out.2.1 HG.out.2.2); clear O6 g6; obtain ⟨⟨n0, n1, n2, n3, n4, n5⟩, ⟨o0, o1, o2, o3, o4, o5⟩⟩ := H6.out.1.six2; obtain ⟨c0, c1', c2', c3', c4', c5'⟩ := HX.out w6 H6.out.2.1))
            all_goals (
              obtain ⟨W7, hW7⟩ : ∃ W7, W7 = w6.setCell ⟨G, 4, none⟩ (.slice va2 vn2 vc2) := ⟨_, rfl⟩
              have hj7 : JI w B G (rqc kd pl nn wa q1 q2 m1 m2 k1 k2) kd va2 vn2 vc2 vb un uc (jW A (z + 1)) (mB kd Ps A z) W7 := by rw [hW7, jW_succ, ← HU.out.2.2.2.2.2.2.2.2.2.2.2.2.2]; exact H6.out.2.2
              have HJ7 := hide hj7
              rw [← hW7]
              clear hj7 hW7 H6 n0 n1 n2 n3 n4 n5 o0 o1 o2 o3 o4 o5 c0 c1' c2' c3' c4' c5' x0 x1 x2 x3 x4 x5 e0 e1 e2 e3 e4 e5 r2 r3 r4 r5 r6 r7 s0 s1 s2 s3 s4 s5 dz HJ5
              obtain ⟨⟨y0, y1, y2, y3, y4, y5⟩, _⟩ := HJ7.out.q.six2
              obtain ⟨r2, r3, r4, r5, r6, r7⟩ := HP.out W7 HJ7.out.bel
              obtain ⟨s0, s1, s2, s3, s4, s5⟩ := HX.out W7 HJ7.out.bel
              have HL2 : Hid (l2 = x.bs.length) := HU.out.2.2.2.2.2.2.2.1
              go_upto_region 14 with fail
              by_cases hk : kd < 3
              · by_cases hc : P.n ≤ (l2 : Int)
                · obtain ⟨kk, hkk⟩ : ∃ kk : Nat, P.n = (kk : Int) := ⟨P.n.toNat, by have := HU.out; omega⟩
                  have HKK := hide hkk
                  rw [hkk] at r4 hc
                  have HKL : Hid (kk = (x.bs.take kk).length ∧ kk ≤ 2000) := ⟨by rw [List.length_take]; have := HL2.out; omega, by have := HU.out; omega⟩
                  have i1 : (kk : Int) ≤ (c2 : Int) := by have := HU.out; omega
                  have i2 : (0 : Int) ≤ (kk : Int) := by omega
                  have i3 : kk ≤ c2 := by omega
                  have HLB : Hid ((mB kd Ps A z).length ≤ 2000000) := by
                    have h9 := mB_len kd Ps A n (fun k hk => (HS.out.2.2.2.2.2.2.2.2.2.2 k hk).2) z hz
                    have : z * 2000 ≤ 100 * 2000 := Nat.mul_le_mul_right _ (by omega)
                    show _ ≤ _
                    omega
                  clear hkk
                  obtain ⟨⟨x0, x1, x2, x3, x4, x5⟩, ⟨e0, e1, e2, e3, e4, e5⟩⟩ := HJ7.out.r.six2
                  go_quiet (fail)
                  go_upto_region 15 with fail
                  have dz : ∀ k, Below W7.heap.size W7 (W7.drewN k) := fun k => bel_dn W7 k
                  go_region_law (first | (refine step_appBO rfl (.tmp 90) (.tmp 102) rfl w.heap.size (.slice vb un uc) (mB kd Ps A z) rfl (by first | exact HJ7.out.ob | exact HJ7.out.ob.below (dz _)) a2 kk c2 (x.bs.take kk) rfl HKL.out.1 (by first | exact slB_take (HU.out.2.2.2.1.below HJ7.out.bel) kk | exact slB_take (HU.out.2.2.2.1.below (bel_next HJ7.out.bel (dz _))) kk) (by have := HKL.out; have := HLB.out; omega) (by first | exact HJ7.out.bel.size | exact (bel_next HJ7.out.bel (dz _)).size) ?_; intro v8 w8 O8 g8; obtain ⟨vb2, uc2, un2, hv2, hn2⟩ := ownB_shape O8; clear hn2; subst hv2; have H8 : Hid (Blk w8 G 49 #[.int .i64 kd, .int .i64 0, .int .i64 0, .int .i64 0, .slice va2 vn2 vc2, .slice vb un uc] ∧ Below w.heap.size w w8 ∧ JI w B G (rqc kd pl nn wa q1 q2 m1 m2 k1 k2) kd va2 vn2 vc2 vb2 un2 uc2 (jW A (z + 1)) (mB kd Ps A z ++ x.bs.take kk) (w8.setCell ⟨G, 5, none⟩ (.slice vb2 un2 uc2))) := (by first | exact JI.bits HJ7.out O8 g8 HG.out.1 HG.out.2.1 HG.out.2.2 | exact JI.bits (HJ7.out.below (dz _)) O8 g8 HG.out.1 HG.out.2.1 HG.out.2.2); clear O8 g8; obtain ⟨⟨n0, n1, n2, n3, n4, n5⟩, ⟨o0, o1, o2, o3, o4, o5⟩⟩ := H8.out.1.six2))
                  all_goals (
                    go_wp2
                    go_roundw
                    case rel => exact ⟨z + 1, va2, vn2, vc2, vb2, un2, uc2, by omega, by go_num, by rw [← HF1.out], by rw [mB_more hk, ← HU.out.2.2.2.2.2.2.2.2.2.2.2.2.2, ← HU.out.2.2.2.2.2.2.2.2.2.2.2.2.1, HKK.out, Int.toNat_natCast]; exact H8.out.2.2, HSZ.out⟩
                    case measure => simp [intOf]; omega)
                · go_quiet (fail)
                  go_wp2
                  go_roundw
                  case rel => exact ⟨z + 1, va2, vn2, vc2, vb, un, uc, by omega, by go_num, by rw [← HF1.out], by rw [mB_same (.inr (by rw [← HU.out.2.2.2.2.2.2.2.2.2.2.2.2.2]; exact suP_bits HSB.out (by rw [← HL2.out]; exact hc)))]; (first | exact HJ7.out | exact HJ7.out.below (bel_dn _ _) | exact HJ7.out.below (Below.refl _ _).drew), HSZ.out⟩
                  case measure => simp [intOf]; omega
              · go_quiet (fail)
                go_wp2
                go_roundw
                case rel => exact ⟨z + 1, va2, vn2, vc2, vb, un, uc, by omega, by go_num, by rw [← HF1.out], by rw [mB_same (.inl hk)]; (first | exact HJ7.out | exact HJ7.out.below (bel_dn _ _) | exact HJ7.out.below (Below.refl _ _).drew), HSZ.out⟩
                case measure => simp [intOf]; omega)
        )
    · have hi : ¬ (z : Int) < (n : Int) := by omega
      have ez : n = z := by omega
      subst ez
      have e0 : f0 = 0 := by rw [HF0.out]; exact HAL.out.2.1
      subst e0
      have HJ2 : Hid (JI w B G (rqc kd pl nn wa q1 q2 m1 m2 k1 k2) kd va vn vc vb un uc (jW A n) (mB kd Ps A n) wr ∧ w.heap.size ≤ G ∧ B ≠ G ∧ B + 1 ≠ G) := ⟨HJ1.out.1, HG.out⟩
      have HLN : Hid ((jW A n).length ≤ 200000 ∧ (mB kd Ps A n).length ≤ 200000) := by
        have h8 := jW_len A n (fun k hk => (HS.out.2.2.2.2.2.2.2.2.2.2 k hk).1) n (Nat.le_refl _)
        have h9 := mB_len kd Ps A n (fun k hk => (HS.out.2.2.2.2.2.2.2.2.2.2 k hk).2) n (Nat.le_refl _)
        have : n * 2000 ≤ 100 * 2000 := Nat.mul_le_mul_right _ (by omega)
        constructor <;> omega
      clear HJ1 HG HF0
      obtain ⟨⟨y0, y1, y2, y3, y4, y5⟩, _⟩ := HJ2.out.1.q.six2
      go_wp2_with fail
      refine (specWrites_any kd pl nn wa q1 q2 m1 m2 k1 k2 _).mono ?_
      rintro e w5 ⟨rfl, b5⟩
      have HJ5 : Hid (JR w B G (rqc kd pl nn wa q1 q2 m1 m2 k1 k2) ⟨kd, 0, 0, 0, jW A n, mB kd Ps A n⟩ va vn vc vb un uc w5 ∧ w.heap.size ≤ G ∧ B ≠ G ∧ B + 1 ≠ G) := ⟨(HJ2.out.1.below b5).jr, HJ2.out.2⟩
      clear b5 HJ2 y0 y1 y2 y3 y4 y5
      obtain ⟨⟨y0, y1, y2, y3, y4, y5⟩, _⟩ := HJ5.out.1.q.six2
      by_cases hwr : wrK kd = true ∧ ¬ kd = 23
      · have hk3 : ¬ kd < 3 := by
          have h9 := hwr.1
          unfold wrK at h9
          have := of_decide_eq_true h9
          omega
        have d23 : (kd == 23) = false := by simpa using hwr.2
        have HWR := hide hwr
        rw [hwr.1]
        clear hwr
        go_wp2_with fail
        refine (HEC.out _ HJ5.out.1.bel HWR.out).mono ?_
        rintro e w6 ⟨r1, r2, l1, l2, c1, c2, rfl, f1, f2, o1, o2, b6⟩
        obtain ⟨x, hx⟩ : ∃ x, x = rsA kd pl ws bs Ps A n := ⟨_, rfl⟩
        rw [← hx] at f1 f2 o1 o2 ⊢
        have K6 := HJ5.out.1.below b6
        obtain ⟨W7, hW7⟩ : ∃ W7, W7 = (((((w6.setCell ⟨G, 0, none⟩ (.int .i64 x.kd)).setCell ⟨G, 1, none⟩ (.int .i64 x.fl)).setCell ⟨G, 2, none⟩ (.int .i64 x.pl)).setCell ⟨G, 3, none⟩ (.int .i64 x.nn)).setCell ⟨G, 4, none⟩ (.slice r1 l1 c1)).setCell ⟨G, 5, none⟩ (.slice r2 l2 c2) := ⟨_, rfl⟩
        have HX : Hid (JR w B G (rqc kd pl nn wa q1 q2 m1 m2 k1 k2) x r1 l1 c1 r2 l2 c2 W7) := by
          rw [hW7]
          exact K6.put (OwnI.mono o1 HJ5.out.1.bel.size) (OwnB.mono o2 HJ5.out.1.bel.size) HJ5.out.2.1 HJ5.out.2.2.1 HJ5.out.2.2.2
        have HXE : Hid (x = rsA kd pl ws bs Ps A n ∧ x.ws.length ≤ 2000000 ∧ x.bs.length ≤ 2000000) := by
          refine ⟨hx, ?_⟩
          rw [hx]
          unfold rsA
          rw [if_pos HWR.out]
          exact waA_len (nn := nn) (wa := wa) (m1 := m1) (m2 := m2) hn8 hl1 hl2 HS.out.2.2.2.2.2.2.2.2.2.2
        obtain ⟨⟨x0, x1, x2, x3, x4, x5⟩, ⟨e0, e1, e2, e3, e4, e5⟩⟩ := K6.r.six2
        clear f1 f2 o1 o2 b6 K6 hx
        go_wp2
        rw [← hW7]
        clear hW7 x0 x1 x2 x3 x4 x5 e0 e1 e2 e3 e4 e5 y0 y1 y2 y3 y4 y5 HJ5
        go_loopw [] (fun wr => JR w B G (rqc kd pl nn wa q1 q2 m1 m2 k1 k2) x r1 l1 c1 r2 l2 c2 wr) (fun _ => 0)
        case atStart => exact HX.out
        case round =>
          have HX2 := hide hrel
          clear hrel HX
          obtain ⟨⟨y0, y1, y2, y3, y4, y5⟩, _⟩ := HX2.out.q.six2
          obtain ⟨⟨x0, x1, x2, x3, x4, x5⟩, _⟩ := HX2.out.r.six2
          obtain ⟨sb, hsb⟩ : ∃ sb, sb = suQ kd pl nn wa ws bs x := ⟨_, rfl⟩
          have HSB : Hid (sb = suQ kd pl nn wa ws bs x) := hsb
          have HSU := hide (HSX.out wr x r1 r2 l1 l2 c1 c2 HX2.out.bel HX2.out.ow.sl.2 HX2.out.ob.sl.2 HX2.out.e1 HX2.out.e2 HXE.out.2.1 HXE.out.2.2)
          rw [← hsb] at HSU
          clear hsb
          go_wp2_with fail
          refine HSU.out.mono ?_
          rintro e w9 ⟨rfl, b9⟩
          have HX9 : Hid (JR w B G (rqc kd pl nn wa q1 q2 m1 m2 k1 k2) x r1 l1 c1 r2 l2 c2 w9) := HX2.out.below b9
          clear b9 HSU y0 y1 y2 y3 y4 y5 x0 x1 x2 x3 x4 x5
          cases sb with
          | false =>
            have HE := hide (HEN.out x HXE.out.1 HSB.out.symm)
            have HW5 : Hid (Below w.heap.size w w9 ∧ Blk w9 B 28 (rqc kd pl nn wa q1 q2 m1 m2 k1 k2) ∧ Blk w9 (B + 1) 49 #[.int .i64 0, .int .i64 0, .int .i64 0, .int .i64 0, .slice none 0 0, .slice none 0 0] ∧ True) := ⟨HX9.out.bel, HX9.out.q, HX9.out.r0, trivial⟩
            obtain ⟨⟨y0, y1, y2, y3, y4, y5⟩, _⟩ := HW5.out.2.1.six2
            go_wp2_with fail
            refine (HFO.out _ 4 HW5.out.1).mono ?_
            rintro e wf ⟨rfl, bf⟩
            obtain ⟨fk, hfk⟩ : ∃ fk, fk = (foA (true && inB 4 1 255) kd 4).kd := ⟨_, rfl⟩
            obtain ⟨fl, hfl⟩ : ∃ fl, fl = (foA (true && inB 4 1 255) kd 4).fl := ⟨_, rfl⟩
            rw [← hfk, ← hfl]
            have HEE : Hid (R = ⟨fk, fl, 0, 0, [], []⟩) := by
              show _ = _
              rw [HE.out, hfk, hfl]
              obtain ⟨g1, g2, g3, g4⟩ := foA_rest (true && inB 4 1 255) kd 4
              cases hq : foA (true && inB 4 1 255) kd 4 with
              | mk a b c d e f => rw [hq] at g1 g2 g3 g4; simp only at g1 g2 g3 g4; subst g1; subst g2; subst g3; subst g4; rfl
            have K1 := HW5.out.2.2.1.below bf
            have HY : Hid (Below w.heap.size w (setL wf (B + 1) 0 [.int .i64 fk, .int .i64 fl, .int .i64 0, .int .i64 0, .slice none 0 0, .slice none 0 0])) := setL_below (by have := HB9.out; omega) _ _ _ (bel_next HW5.out.1 bf)
            obtain ⟨⟨z0, z1, z2, z3, z4, z5⟩, ⟨f0, f1, f2, f3, f4, f5⟩⟩ := K1.six2
            clear K1 bf hfk hfl y0 y1 y2 y3 y4 y5
            go_wp2
            refine bodyPost_ret (v := .agg #[.int .i64 fk, .int .i64 fl, .int .i64 0, .int .i64 0, .slice none 0 0, .slice none 0 0]) (by simp [results, Try.results19, go_sem, z0, z1, z2, z3, z4, z5]) rfl ?_
            rw [HEE.out]
            exact ⟨none, none, 0, 0, 0, 0, rfl, rfl, rfl, ownI_z _ _, ownB_z _ _, HY.out⟩
          | true =>
            have HE := hide (HEY.out x HXE.out.1 HSB.out.symm)
            obtain ⟨⟨x0, x1, x2, x3, x4, x5⟩, _⟩ := HX9.out.r.six2
            obtain ⟨⟨z0, z1, z2, z3, z4, z5⟩, ⟨f0, f1, f2, f3, f4, f5⟩⟩ := HX9.out.r0.six2
            have HY : Hid (OwnI (setL w9 (B + 1) 0 [.int .i64 x.kd, .int .i64 x.fl, .int .i64 x.pl, .int .i64 x.nn, .slice r1 l1 c1, .slice r2 l2 c2]) w.heap.size (.slice r1 l1 c1) x.ws ∧ OwnB (setL w9 (B + 1) 0 [.int .i64 x.kd, .int .i64 x.fl, .int .i64 x.pl, .int .i64 x.nn, .slice r1 l1 c1, .slice r2 l2 c2]) w.heap.size (.slice r2 l2 c2) x.bs ∧ Below w.heap.size w (setL w9 (B + 1) 0 [.int .i64 x.kd, .int .i64 x.fl, .int .i64 x.pl, .int .i64 x.nn, .slice r1 l1 c1, .slice r2 l2 c2])) := ⟨row_setL HX9.out.ow ⟨_, HX9.out.r0⟩ (by decide), row_setL HX9.out.ob ⟨_, HX9.out.r0⟩ (by decide), setL_below (by have := HB9.out; omega) _ _ _ HX9.out.bel⟩
            go_wp2
            refine bodyPost_ret (v := .agg #[.int .i64 x.kd, .int .i64 x.fl, .int .i64 x.pl, .int .i64 x.nn, .slice r1 l1 c1, .slice r2 l2 c2]) (by simp [results, Try.results19, go_sem, z0, z1, z2, z3, z4, z5]) rfl ?_
            rw [HE.out]
            exact ⟨r1, r2, l1, l2, c1, c2, rfl, HX9.out.e1, HX9.out.e2, HY.out.1, HY.out.2.1, HY.out.2.2⟩
      · by_cases hk3 : kd < 3
        · have hwf : wrK kd = false := by
            cases hw : wrK kd with
            | false => rfl
            | true => exfalso; unfold wrK at hw; have := of_decide_eq_true hw; omega
          have HRS : Hid (rsA kd pl ws bs Ps A n = ⟨kd, 0, 0, 0, jW A n, fillB (mB kd Ps A n)⟩) := by show _ = _; unfold rsA; rw [if_neg hwr]
          rw [hwf]
          clear hwf hwr
          go_wp2
          clear y0 y1 y2 y3 y4 y5
          go_loopw [] (fun wr => ∃ (ad : Option Addr) (n' c' z : Nat), z ≤ 8 * (((mB kd Ps A n).length + 7) / 8) - (mB kd Ps A n).length ∧ JR w B G (rqc kd pl nn wa q1 q2 m1 m2 k1 k2) ⟨kd, 0, 0, 0, jW A n, mB kd Ps A n ++ List.replicate z false⟩ va vn vc ad n' c' wr) (fun wr => (8 - lenJ wr G % 8) % 8)
          case atStart => exact ⟨vb, un, uc, 0, Nat.zero_le _, by simpa using HJ5.out.1⟩
          case round =>
            obtain ⟨ad, n', c', z, hz9, hr9⟩ := hrel
            have HZ : Hid (z ≤ 8 * (((mB kd Ps A n).length + 7) / 8) - (mB kd Ps A n).length ∧ n' = (mB kd Ps A n).length + z) := ⟨hz9, by have := hr9.e2; simpa using this⟩
            have HX := hide hr9
            have HGG : Hid (w.heap.size ≤ G ∧ B ≠ G ∧ B + 1 ≠ G) := HJ5.out.2
            clear hz9 hr9 HJ5
            have hnb : n' ≤ 200100 := by have := HZ.out; have := HLN.out; omega
            obtain ⟨⟨y0, y1, y2, y3, y4, y5⟩, _⟩ := HX.out.q.six2
            obtain ⟨⟨x0, x1, x2, x3, x4, x5⟩, ⟨e0, e1, e2, e3, e4, e5⟩⟩ := HX.out.r.six2
            by_cases h8 : n' % 8 = 0
            · have h8b : ((n' : Int) % 8 == 0) = true := by simp; omega
              have hzz : z = 8 * (((mB kd Ps A n).length + 7) / 8) - (mB kd Ps A n).length := by have := HZ.out; omega
              obtain ⟨x, hx⟩ : ∃ x : An, x = ⟨kd, 0, 0, 0, jW A n, mB kd Ps A n ++ List.replicate z false⟩ := ⟨_, rfl⟩
              have HX2 : Hid (JR w B G (rqc kd pl nn wa q1 q2 m1 m2 k1 k2) x va vn vc ad n' c' wr) := by show JR _ _ _ _ _ _ _ _ _ _ _ _; rw [hx]; exact HX.out
              have HXE : Hid (x = rsA kd pl ws bs Ps A n ∧ x.ws.length ≤ 2000000 ∧ x.bs.length ≤ 2000000) := by
                refine ⟨by rw [hx, HRS.out]; unfold fillB; rw [hzz], ?_, ?_⟩
                · rw [hx]; have := HLN.out; show (jW A n).length ≤ 2000000; omega
                · rw [hx]; have := HLN.out; have := HZ.out; show (mB kd Ps A n ++ List.replicate z false).length ≤ 2000000; rw [List.length_append, List.length_replicate]; omega
              clear HX hx hzz x0 x1 x2 x3 x4 x5 e0 e1 e2 e3 e4 e5
              obtain ⟨⟨y0, y1, y2, y3, y4, y5⟩, _⟩ := HX2.out.q.six2
              obtain ⟨⟨x0, x1, x2, x3, x4, x5⟩, _⟩ := HX2.out.r.six2
              obtain ⟨sb, hsb⟩ : ∃ sb, sb = suQ kd pl nn wa ws bs x := ⟨_, rfl⟩
              have HSB : Hid (sb = suQ kd pl nn wa ws bs x) := hsb
              have HSU := hide (HSX.out wr x va ad vn n' vc c' HX2.out.bel HX2.out.ow.sl.2 HX2.out.ob.sl.2 HX2.out.e1 HX2.out.e2 HXE.out.2.1 HXE.out.2.2)
              rw [← hsb] at HSU
              clear hsb
              go_wp2_with fail
              refine HSU.out.mono ?_
              rintro e w9 ⟨rfl, b9⟩
              have HX9 : Hid (JR w B G (rqc kd pl nn wa q1 q2 m1 m2 k1 k2) x va vn vc ad n' c' w9) := HX2.out.below b9
              clear b9 HSU y0 y1 y2 y3 y4 y5 x0 x1 x2 x3 x4 x5
              cases sb with
              | false =>
                have HE := hide (HEN.out x HXE.out.1 HSB.out.symm)
                have HW5 : Hid (Below w.heap.size w w9 ∧ Blk w9 B 28 (rqc kd pl nn wa q1 q2 m1 m2 k1 k2) ∧ Blk w9 (B + 1) 49 #[.int .i64 0, .int .i64 0, .int .i64 0, .int .i64 0, .slice none 0 0, .slice none 0 0] ∧ True) := ⟨HX9.out.bel, HX9.out.q, HX9.out.r0, trivial⟩
                obtain ⟨⟨y0, y1, y2, y3, y4, y5⟩, _⟩ := HW5.out.2.1.six2
                go_wp2_with fail
                refine (HFO.out _ 4 HW5.out.1).mono ?_
                rintro e wf ⟨rfl, bf⟩
                obtain ⟨fk, hfk⟩ : ∃ fk, fk = (foA (true && inB 4 1 255) kd 4).kd := ⟨_, rfl⟩
                obtain ⟨fl, hfl⟩ : ∃ fl, fl = (foA (true && inB 4 1 255) kd 4).fl := ⟨_, rfl⟩
                rw [← hfk, ← hfl]
                have HEE : Hid (R = ⟨fk, fl, 0, 0, [], []⟩) := by
                  show _ = _
                  rw [HE.out, hfk, hfl]
                  obtain ⟨g1, g2, g3, g4⟩ := foA_rest (true && inB 4 1 255) kd 4
                  cases hq : foA (true && inB 4 1 255) kd 4 with
                  | mk a b c d e f => rw [hq] at g1 g2 g3 g4; simp only at g1 g2 g3 g4; subst g1; subst g2; subst g3; subst g4; rfl
                have K1 := HW5.out.2.2.1.below bf
                have HY : Hid (Below w.heap.size w (setL wf (B + 1) 0 [.int .i64 fk, .int .i64 fl, .int .i64 0, .int .i64 0, .slice none 0 0, .slice none 0 0])) := setL_below (by have := HB9.out; omega) _ _ _ (bel_next HW5.out.1 bf)
                obtain ⟨⟨z0, z1, z2, z3, z4, z5⟩, ⟨f0, f1, f2, f3, f4, f5⟩⟩ := K1.six2
                clear K1 bf hfk hfl y0 y1 y2 y3 y4 y5
                go_wp2
                refine bodyPost_ret (v := .agg #[.int .i64 fk, .int .i64 fl, .int .i64 0, .int .i64 0, .slice none 0 0, .slice none 0 0]) (by simp [results, Try.results19, go_sem, z0, z1, z2, z3, z4, z5]) rfl ?_
                rw [HEE.out]
                exact ⟨none, none, 0, 0, 0, 0, rfl, rfl, rfl, ownI_z _ _, ownB_z _ _, HY.out⟩
              | true =>
                have HE := hide (HEY.out x HXE.out.1 HSB.out.symm)
                obtain ⟨⟨x0, x1, x2, x3, x4, x5⟩, _⟩ := HX9.out.r.six2
                obtain ⟨⟨z0, z1, z2, z3, z4, z5⟩, ⟨f0, f1, f2, f3, f4, f5⟩⟩ := HX9.out.r0.six2
                have HY : Hid (OwnI (setL w9 (B + 1) 0 [.int .i64 x.kd, .int .i64 x.fl, .int .i64 x.pl, .int .i64 x.nn, .slice va vn vc, .slice ad n' c']) w.heap.size (.slice va vn vc) x.ws ∧ OwnB (setL w9 (B + 1) 0 [.int .i64 x.kd, .int .i64 x.fl, .int .i64 x.pl, .int .i64 x.nn, .slice va vn vc, .slice ad n' c']) w.heap.size (.slice ad n' c') x.bs ∧ Below w.heap.size w (setL w9 (B + 1) 0 [.int .i64 x.kd, .int .i64 x.fl, .int .i64 x.pl, .int .i64 x.nn, .slice va vn vc, .slice ad n' c'])) := ⟨row_setL HX9.out.ow ⟨_, HX9.out.r0⟩ (by decide), row_setL HX9.out.ob ⟨_, HX9.out.r0⟩ (by decide), setL_below (by have := HB9.out; omega) _ _ _ HX9.out.bel⟩
                go_wp2
                refine bodyPost_ret (v := .agg #[.int .i64 x.kd, .int .i64 x.fl, .int .i64 x.pl, .int .i64 x.nn, .slice va vn vc, .slice ad n' c']) (by simp [results, Try.results19, go_sem, z0, z1, z2, z3, z4, z5]) rfl ?_
                rw [HE.out]
                exact ⟨va, ad, vn, n', vc, c', rfl, HX9.out.e1, HX9.out.e2, HY.out.1, HY.out.2.1, HY.out.2.2⟩
            · have h8b : ((n' : Int) % 8 == 0) = false := by simp; omega
              have q := bel_alloc wr (.cells #[.bool false] 4)
              have K7 := hide (HX.out.below q)
              have SL : Hid (SlB (wr.alloc (.cells #[.bool false] 4)) (some ⟨wr.heap.size, 0, none⟩) [false]) := .inr ⟨wr.heap.size, 0, rfl, by simp, fun i hi => by match i, hi with | 0, _ => simp⟩
              have HLQ : Hid ((mB kd Ps A n ++ List.replicate z false).length + [false].length ≤ 4000000) := by show _ ≤ 4000000; have := HZ.out; have := HLN.out; simp; omega
              have hl0 : Hid (lenJ wr G = n') := by show lenJ wr G = n'; unfold lenJ; rw [x5]
              clear q
              obtain ⟨⟨p0, p1, p2, p3, p4, p5⟩, _⟩ := K7.out.r.six2
              go_wp2_with (at_builtin; refine wpList_appBO rfl (.tmp 130) (.tmp 131) rfl w.heap.size (.slice ad n' c') (mB kd Ps A n ++ List.replicate z false) rfl K7.out.ob (some ⟨wr.heap.size, 0, none⟩) 1 1 [false] rfl rfl SL.out HLQ.out K7.out.bel.size ?_; intro v' w' o8 gq; obtain ⟨ad9, c9, n9, hv9, hn9⟩ := ownB_shape o8; subst hv9; have HN9 := hide hn9; clear hn9; have H8 := JI.bits ⟨K7.out.bel, K7.out.q, K7.out.r0, K7.out.r, K7.out.ow, K7.out.ob⟩ o8 gq HGG.out.1 HGG.out.2.1 HGG.out.2.2; have HH8 := hide H8; clear H8 o8 gq p0 p1 p2 p3 p4 p5 x0 x1 x2 x3 x4 x5 e0 e1 e2 e3 e4 e5; have qc := HH8.out.1.cell 5 rfl; have qf := HH8.out.1.fro 5)
              go_roundw
              case rel =>
                refine ⟨ad9, n9, c9, z + 1, ?_, ?_⟩
                · have := HZ.out; omega
                · have h9 := HH8.out.2.2.jr
                  rw [List.replicate_succ', ← List.append_assoc]
                  exact h9
              case measure =>
                have Q9 : (w'.setCell ⟨G, 5, none⟩ (.slice ad9 n9 c9)).cell? ⟨G, 5, none⟩ = some (.slice ad9 n9 c9) := HH8.out.2.2.r.cell 5 rfl
                have e : lenJ (w'.setCell ⟨G, 5, none⟩ (.slice ad9 n9 c9)) G = n9 := by unfold lenJ; rw [Q9]
                rw [e, hl0.out]
                have h9 : n9 = n' + 1 := by have h8 := HN9.out; have := HZ.out; simp at h8; omega
                omega
        · have HRS : Hid (rsA kd pl ws bs Ps A n = ⟨kd, 0, 0, 0, jW A n, mB kd Ps A n⟩) := by
            show _ = _
            unfold rsA; rw [if_neg hwr]
            have : mB kd Ps A n = [] := by unfold mB; rw [if_neg hk3]
            rw [this, fillB_nil]
          obtain ⟨x, hx⟩ : ∃ x : An, x = ⟨kd, 0, 0, 0, jW A n, mB kd Ps A n⟩ := ⟨_, rfl⟩
          have HX : Hid (JR w B G (rqc kd pl nn wa q1 q2 m1 m2 k1 k2) x va vn vc vb un uc w5) := by show JR _ _ _ _ _ _ _ _ _ _ _ _; rw [hx]; exact HJ5.out.1
          have HXE : Hid (x = rsA kd pl ws bs Ps A n ∧ x.ws.length ≤ 2000000 ∧ x.bs.length ≤ 2000000) := by
            refine ⟨by rw [hx, HRS.out], ?_, ?_⟩
            · rw [hx]; have := HLN.out; show (jW A n).length ≤ 2000000; omega
            · rw [hx]; have := HLN.out; show (mB kd Ps A n).length ≤ 2000000; omega
          clear hx HJ5
          rcases Bool.eq_false_or_eq_true (wrK kd) with hw | hw
          · have h23 : kd = 23 := by
              by_cases e : kd = 23
              · exact e
              · exact absurd ⟨hw, e⟩ hwr
            have d23 : (kd == 23) = true := by simpa using h23
            rw [hw]
            clear hw hwr h23
            go_wp2
            clear y0 y1 y2 y3 y4 y5
            go_loopw [] (fun wr => JR w B G (rqc kd pl nn wa q1 q2 m1 m2 k1 k2) x va vn vc vb un uc wr) (fun _ => 0)
            case atStart => exact HX.out
            case round =>
              have HX2 := hide hrel
              clear hrel HX
              obtain ⟨⟨y0, y1, y2, y3, y4, y5⟩, _⟩ := HX2.out.q.six2
              obtain ⟨⟨x0, x1, x2, x3, x4, x5⟩, _⟩ := HX2.out.r.six2
              obtain ⟨sb, hsb⟩ : ∃ sb, sb = suQ kd pl nn wa ws bs x := ⟨_, rfl⟩
              have HSB : Hid (sb = suQ kd pl nn wa ws bs x) := hsb
              have HSU := hide (HSX.out wr x va vb vn un vc uc HX2.out.bel HX2.out.ow.sl.2 HX2.out.ob.sl.2 HX2.out.e1 HX2.out.e2 HXE.out.2.1 HXE.out.2.2)
              rw [← hsb] at HSU
              clear hsb
              go_wp2_with fail
              refine HSU.out.mono ?_
              rintro e w9 ⟨rfl, b9⟩
              have HX9 : Hid (JR w B G (rqc kd pl nn wa q1 q2 m1 m2 k1 k2) x va vn vc vb un uc w9) := HX2.out.below b9
              clear b9 HSU y0 y1 y2 y3 y4 y5 x0 x1 x2 x3 x4 x5
              cases sb with
              | false =>
                have HE := hide (HEN.out x HXE.out.1 HSB.out.symm)
                have HW5 : Hid (Below w.heap.size w w9 ∧ Blk w9 B 28 (rqc kd pl nn wa q1 q2 m1 m2 k1 k2) ∧ Blk w9 (B + 1) 49 #[.int .i64 0, .int .i64 0, .int .i64 0, .int .i64 0, .slice none 0 0, .slice none 0 0] ∧ True) := ⟨HX9.out.bel, HX9.out.q, HX9.out.r0, trivial⟩
                obtain ⟨⟨y0, y1, y2, y3, y4, y5⟩, _⟩ := HW5.out.2.1.six2
                go_wp2_with fail
                refine (HFO.out _ 4 HW5.out.1).mono ?_
                rintro e wf ⟨rfl, bf⟩
                obtain ⟨fk, hfk⟩ : ∃ fk, fk = (foA (true && inB 4 1 255) kd 4).kd := ⟨_, rfl⟩
                obtain ⟨fl, hfl⟩ : ∃ fl, fl = (foA (true && inB 4 1 255) kd 4).fl := ⟨_, rfl⟩
                rw [← hfk, ← hfl]
                have HEE : Hid (R = ⟨fk, fl, 0, 0, [], []⟩) := by
                  show _ = _
                  rw [HE.out, hfk, hfl]
                  obtain ⟨g1, g2, g3, g4⟩ := foA_rest (true && inB 4 1 255) kd 4
                  cases hq : foA (true && inB 4 1 255) kd 4 with
                  | mk a b c d e f => rw [hq] at g1 g2 g3 g4; simp only at g1 g2 g3 g4; subst g1; subst g2; subst g3; subst g4; rfl
                have K1 := HW5.out.2.2.1.below bf
                have HY : Hid (Below w.heap.size w (setL wf (B + 1) 0 [.int .i64 fk, .int .i64 fl, .int .i64 0, .int .i64 0, .slice none 0 0, .slice none 0 0])) := setL_below (by have := HB9.out; omega) _ _ _ (bel_next HW5.out.1 bf)
                obtain ⟨⟨z0, z1, z2, z3, z4, z5⟩, ⟨f0, f1, f2, f3, f4, f5⟩⟩ := K1.six2
                clear K1 bf hfk hfl y0 y1 y2 y3 y4 y5
                go_wp2
                refine bodyPost_ret (v := .agg #[.int .i64 fk, .int .i64 fl, .int .i64 0, .int .i64 0, .slice none 0 0, .slice none 0 0]) (by simp [results, Try.results19, go_sem, z0, z1, z2, z3, z4, z5]) rfl ?_
                rw [HEE.out]
                exact ⟨none, none, 0, 0, 0, 0, rfl, rfl, rfl, ownI_z _ _, ownB_z _ _, HY.out⟩
              | true =>
                have HE := hide (HEY.out x HXE.out.1 HSB.out.symm)
                obtain ⟨⟨x0, x1, x2, x3, x4, x5⟩, _⟩ := HX9.out.r.six2
                obtain ⟨⟨z0, z1, z2, z3, z4, z5⟩, ⟨f0, f1, f2, f3, f4, f5⟩⟩ := HX9.out.r0.six2
                have HY : Hid (OwnI (setL w9 (B + 1) 0 [.int .i64 x.kd, .int .i64 x.fl, .int .i64 x.pl, .int .i64 x.nn, .slice va vn vc, .slice vb un uc]) w.heap.size (.slice va vn vc) x.ws ∧ OwnB (setL w9 (B + 1) 0 [.int .i64 x.kd, .int .i64 x.fl, .int .i64 x.pl, .int .i64 x.nn, .slice va vn vc, .slice vb un uc]) w.heap.size (.slice vb un uc) x.bs ∧ Below w.heap.size w (setL w9 (B + 1) 0 [.int .i64 x.kd, .int .i64 x.fl, .int .i64 x.pl, .int .i64 x.nn, .slice va vn vc, .slice vb un uc])) := ⟨row_setL HX9.out.ow ⟨_, HX9.out.r0⟩ (by decide), row_setL HX9.out.ob ⟨_, HX9.out.r0⟩ (by decide), setL_below (by have := HB9.out; omega) _ _ _ HX9.out.bel⟩
                go_wp2
                refine bodyPost_ret (v := .agg #[.int .i64 x.kd, .int .i64 x.fl, .int .i64 x.pl, .int .i64 x.nn, .slice va vn vc, .slice vb un uc]) (by simp [results, Try.results19, go_sem, z0, z1, z2, z3, z4, z5]) rfl ?_
                rw [HE.out]
                exact ⟨va, vb, vn, un, vc, uc, rfl, HX9.out.e1, HX9.out.e2, HY.out.1, HY.out.2.1, HY.out.2.2⟩
          · rw [hw]
            clear hw hwr
            go_wp2
            clear y0 y1 y2 y3 y4 y5
            go_loopw [] (fun wr => JR w B G (rqc kd pl nn wa q1 q2 m1 m2 k1 k2) x va vn vc vb un uc wr) (fun _ => 0)
            case atStart => exact HX.out
            case round =>
              have HX2 := hide hrel
              clear hrel HX
              obtain ⟨⟨y0, y1, y2, y3, y4, y5⟩, _⟩ := HX2.out.q.six2
              obtain ⟨⟨x0, x1, x2, x3, x4, x5⟩, _⟩ := HX2.out.r.six2
              obtain ⟨sb, hsb⟩ : ∃ sb, sb = suQ kd pl nn wa ws bs x := ⟨_, rfl⟩
              have HSB : Hid (sb = suQ kd pl nn wa ws bs x) := hsb
              have HSU := hide (HSX.out wr x va vb vn un vc uc HX2.out.bel HX2.out.ow.sl.2 HX2.out.ob.sl.2 HX2.out.e1 HX2.out.e2 HXE.out.2.1 HXE.out.2.2)
              rw [← hsb] at HSU
              clear hsb
              go_wp2_with fail
              refine HSU.out.mono ?_
              rintro e w9 ⟨rfl, b9⟩
              have HX9 : Hid (JR w B G (rqc kd pl nn wa q1 q2 m1 m2 k1 k2) x va vn vc vb un uc w9) := HX2.out.below b9
              clear b9 HSU y0 y1 y2 y3 y4 y5 x0 x1 x2 x3 x4 x5
              cases sb with
              | false =>
                have HE := hide (HEN.out x HXE.out.1 HSB.out.symm)
                have HW5 : Hid (Below w.heap.size w w9 ∧ Blk w9 B 28 (rqc kd pl nn wa q1 q2 m1 m2 k1 k2) ∧ Blk w9 (B + 1) 49 #[.int .i64 0, .int .i64 0, .int .i64 0, .int .i64 0, .slice none 0 0, .slice none 0 0] ∧ True) := ⟨HX9.out.bel, HX9.out.q, HX9.out.r0, trivial⟩
                obtain ⟨⟨y0, y1, y2, y3, y4, y5⟩, _⟩ := HW5.out.2.1.six2
                go_wp2_with fail
                refine (HFO.out _ 4 HW5.out.1).mono ?_
                rintro e wf ⟨rfl, bf⟩
                obtain ⟨fk, hfk⟩ : ∃ fk, fk = (foA (true && inB 4 1 255) kd 4).kd := ⟨_, rfl⟩
                obtain ⟨fl, hfl⟩ : ∃ fl, fl = (foA (true && inB 4 1 255) kd 4).fl := ⟨_, rfl⟩
                rw [← hfk, ← hfl]
                have HEE : Hid (R = ⟨fk, fl, 0, 0, [], []⟩) := by
                  show _ = _
                  rw [HE.out, hfk, hfl]
                  obtain ⟨g1, g2, g3, g4⟩ := foA_rest (true && inB 4 1 255) kd 4
                  cases hq : foA (true && inB 4 1 255) kd 4 with
                  | mk a b c d e f => rw [hq] at g1 g2 g3 g4; simp only at g1 g2 g3 g4; subst g1; subst g2; subst g3; subst g4; rfl
                have K1 := HW5.out.2.2.1.below bf
                have HY : Hid (Below w.heap.size w (setL wf (B + 1) 0 [.int .i64 fk, .int .i64 fl, .int .i64 0, .int .i64 0, .slice none 0 0, .slice none 0 0])) := setL_below (by have := HB9.out; omega) _ _ _ (bel_next HW5.out.1 bf)
                obtain ⟨⟨z0, z1, z2, z3, z4, z5⟩, ⟨f0, f1, f2, f3, f4, f5⟩⟩ := K1.six2
                clear K1 bf hfk hfl y0 y1 y2 y3 y4 y5
                go_wp2
                refine bodyPost_ret (v := .agg #[.int .i64 fk, .int .i64 fl, .int .i64 0, .int .i64 0, .slice none 0 0, .slice none 0 0]) (by simp [results, Try.results19, go_sem, z0, z1, z2, z3, z4, z5]) rfl ?_
                rw [HEE.out]
                exact ⟨none, none, 0, 0, 0, 0, rfl, rfl, rfl, ownI_z _ _, ownB_z _ _, HY.out⟩
              | true =>
                have HE := hide (HEY.out x HXE.out.1 HSB.out.symm)
                obtain ⟨⟨x0, x1, x2, x3, x4, x5⟩, _⟩ := HX9.out.r.six2
                obtain ⟨⟨z0, z1, z2, z3, z4, z5⟩, ⟨f0, f1, f2, f3, f4, f5⟩⟩ := HX9.out.r0.six2
                have HY : Hid (OwnI (setL w9 (B + 1) 0 [.int .i64 x.kd, .int .i64 x.fl, .int .i64 x.pl, .int .i64 x.nn, .slice va vn vc, .slice vb un uc]) w.heap.size (.slice va vn vc) x.ws ∧ OwnB (setL w9 (B + 1) 0 [.int .i64 x.kd, .int .i64 x.fl, .int .i64 x.pl, .int .i64 x.nn, .slice va vn vc, .slice vb un uc]) w.heap.size (.slice vb un uc) x.bs ∧ Below w.heap.size w (setL w9 (B + 1) 0 [.int .i64 x.kd, .int .i64 x.fl, .int .i64 x.pl, .int .i64 x.nn, .slice va vn vc, .slice vb un uc])) := ⟨row_setL HX9.out.ow ⟨_, HX9.out.r0⟩ (by decide), row_setL HX9.out.ob ⟨_, HX9.out.r0⟩ (by decide), setL_below (by have := HB9.out; omega) _ _ _ HX9.out.bel⟩
                go_wp2
                refine bodyPost_ret (v := .agg #[.int .i64 x.kd, .int .i64 x.fl, .int .i64 x.pl, .int .i64 x.nn, .slice va vn vc, .slice vb un uc]) (by simp [results, Try.results19, go_sem, z0, z1, z2, z3, z4, z5]) rfl ?_
                rw [HE.out]
                exact ⟨va, vb, vn, un, vc, uc, rfl, HX9.out.e1, HX9.out.e2, HY.out.1, HY.out.2.1, HY.out.2.2⟩
end Go.Proofs.Ytegckbfbmbiogaa

/- Parts of the proof. -/
import Derived.Test.YtplaoagcedgdfaaGreatZq24
import Derived.Test.YtplaoagcedgdfaaGreatZq25
import Derived.Test.YtplaoagcedgdfaaGreatZq26
import Derived.Test.YtplaoagcedgdfaaGreatZq14
import Derived.Test.YtplaoagcedgdfaaGreatZq15
import Derived.Test.YtplaoagcedgdfaaGreatZq16
import Derived.Test.YtplaoagcedgdfaaGreatZq6
set_option linter.unusedVariables false
set_option linter.unusedSimpArgs false
set_option maxHeartbeats 8000000
set_option maxRecDepth 20000
namespace Go.Proofs.YtplaoagcedgdfaaGreat
open Go.RowKit Go.Joins Go.Proofs.Tryz
def gD (w0 : World) (lo hi : Nat) (w : World) (s : Nat) (v : Value) (n : Nat) (f : Nat -> List Tr) : Prop :=
 hi <= w.heap.size /\ ∃ a c, v = .slice a n c /\ n <= c /\ (n = 0 \/ ∃ (g off : Nat) (F : Nat -> List Value), a = some ⟨g, off, none⟩ /\ g < hi /\ (g < w0.heap.size \/ lo <= g) /\ ∀ k, k < n -> (F k).length = s /\ w.rangeAt g (off + k * s) (F k) /\ ay w0 0 (aa (f k)) (F k))
section
variable {w0 w w' : World} {lo hi s n : Nat} {v : Value} {f : Nat -> List Tr}
theorem dF.k (h : dF w0 lo w s v n f) : gD w0 lo w.heap.size w s v n f := ⟨Nat.le_refl _, h⟩
theorem gD.kept {row : Option Nat} (h : gD w0 lo hi w s v n f) (hg : w.grownBy w' row) (hr : ∀ k, row = some k -> w0.heap.size <= k /\ (k < lo \/ hi <= k)) : gD w0 lo hi w' s v n f := by
 obtain ⟨hh, a, c, h1, h2, h4⟩ := h
 refine ⟨Nat.le_trans hh hg.size, a, c, h1, h2, ?_⟩
 rcases h4 with h4 | ⟨g, off, F, ha, hgs, hlo, hc⟩
 ·exact .inl h4
 refine .inr ⟨g, off, F, ha, hgs, hlo, fun k hk => ⟨(hc k hk).1, fun j u hu => ?_, (hc k hk).2.2⟩⟩
 rw [<- (hc k hk).2.1 j u hu]
 exact World.cell?_of_block (a := ⟨g, off + k * s + j, none⟩) (hg.block g (by omega) (fun e => by
  cases row with
  | none => cases e
  | some r => have := hr r rfl; have := Option.some.inj e; omega))
theorem gD.below (h : gD w0 lo hi w s v n f) (hb : Below w.heap.size w w') : gD w0 lo hi w' s v n f := by
 obtain ⟨hh, a, c, h1, h2, h4⟩ := h
 refine ⟨Nat.le_trans hh hb.size, a, c, h1, h2, ?_⟩
 rcases h4 with h4 | ⟨g, off, F, ha, hgs, hlo, hc⟩
 ·exact .inl h4
 exact .inr ⟨g, off, F, ha, hgs, hlo, fun k hk => ⟨(hc k hk).1, ax (hc k hk).2.1 (by omega) hb, (hc k hk).2.2⟩⟩
theorem gD.at {a : Option Addr} {m c k : Nat} (h : gD w0 lo hi w s (.slice a m c) n f) (hk : k < n) : ∃ g off vs, a = some ⟨g, off, none⟩ /\ g < w.heap.size /\ vs.length = s /\ w.rangeAt g (off + k * s) vs /\ ay w0 0 (aa (f k)) vs := by
 obtain ⟨hh, a', c', h1, h2, h4⟩ := h
 simp only [Value.slice.injEq] at h1
 rcases h4 with h4 | ⟨g, off, F, ha, hgs, hlo, hc⟩
 ·omega
 exact ⟨g, off, F k, by rw [h1.1, ha], by omega, (hc k hk).1, (hc k hk).2.1, (hc k hk).2.2⟩
end
def FS (X : VF) (w wr : World) (v : Value) (P : List VL) (R : List (Int × Int × (VP -> Bool))) : Prop :=
 cA w wr 86 9 v P.length (fun i => aO (P.getD i default)) /\ fC (cN X.op X.op.m) [] (fX X.lf 0 X.nl) = fC (cN X.op X.op.m) (P.map (fun c => (c.id, c.pa))) R /\ P.length + R.length = (fX X.lf 0 X.nl).length
theorem FS.below {X : VF} {w wr wu : World} {v : Value} {P : List VL} {R : List (Int × Int × (VP -> Bool))} (h : FS X w wr v P R) (hb : Below wr.heap.size wr wu) : FS X w wu v P R := ⟨h.1.below hb, h.2⟩
theorem lA (N : VN) (a1 : Option Addr) (c1 : Nat) (e1 : Option Addr) (k1 : Nat) (e2 : Option Addr) (k2 : Nat) (w : World) (h : ay w 0 (aa (aU N)) (cj N a1 N.nq c1 e1 N.c.q.ws.length k1 e2 N.c.q.bs.length k2)) (hb : iT N) :
 Calls prog 37 #[.agg (cj N a1 N.nq c1 e1 N.c.q.ws.length k1 e2 N.c.q.bs.length k2).toArray] w fun e w' => e = .returned (.bool (cI N)) /\ Below w.heap.size w w' := by
 obtain ⟨_, _, _, _, _, _, e9, r1, r2, r3⟩ := VN.cells h rfl
 simp only [List.cons.injEq, Value.slice.injEq, and_true, true_and] at e9
 obtain ⟨⟨rfl, rfl⟩, ⟨rfl, rfl⟩, ⟨rfl, rfl⟩⟩ := e9
 obtain ⟨_, _, x2, _, _, s2⟩ := r2.ints
 obtain ⟨_, _, x3, _, _, s3⟩ := r3.bools
 simp only [Value.slice.injEq] at x2 x3
 rw [<- x2.1] at s2
 rw [<- x3.1] at s3
 exact kw (pq N) N.nq _ _ _ _ N.c.q.ws.length N.c.q.bs.length _ _ (fun k => ma (N.qf k)) w ⟨rfl, rfl, r1.slc, s2, s3⟩ ⟨hb.1, fun k hk => hb.2.1 k hk⟩ hb.2.2.1 hb.2.2.2
theorem uK {O : List (Int × Int × VP)} {Q : List (Int × Int)} {c : Int × Int × (VP -> Bool)} {cs : List (Int × Int × (VP -> Bool))} (h : et Q c.1 c.2.1 = true) : fC O Q (c :: cs) = false := by
 unfold fC; rw [h]; rfl
theorem uL {O : List (Int × Int × VP)} {Q : List (Int × Int)} {c : Int × Int × (VP -> Bool)} {cs : List (Int × Int × (VP -> Bool))} (h : eh O c = false) : fC O Q (c :: cs) = false := by
 unfold fC; rw [h]; simp
theorem vp {O : List (Int × Int × VP)} {Q : List (Int × Int)} {c : Int × Int × (VP -> Bool)} {cs : List (Int × Int × (VP -> Bool))} (h : et Q c.1 c.2.1 = false) (h2 : eh O c = true) : fC O Q (c :: cs) = fC O (Q ++ [(c.1, c.2.1)]) cs := by
 conv => lhs; unfold fC
 rw [h, h2]; rfl
theorem tq {P : List VL} {n : Nat} {a b : Int} (hn : n < P.length) (h1 : (P.getD n default).id = a) (h2 : (P.getD n default).pa = b) : et (P.map (fun c => (c.id, c.pa))) a b = true := by
 unfold et
 rw [List.any_map, List.any_eq_true]
 rw [List.getD_eq_getElem?_getD, List.getElem?_eq_getElem hn] at h1 h2
 exact ⟨P[n], List.getElem_mem hn, by simp only [Option.getD_some] at h1 h2; simp [h1, h2]⟩
theorem uM {P : List VL} {a b : Int} (h : ∀ n, n < P.length -> ¬ ((P.getD n default).id = a /\ (P.getD n default).pa = b)) : et (P.map (fun c => (c.id, c.pa))) a b = false := by
 cases e : et (P.map (fun c => (c.id, c.pa))) a b with
 | false => rfl
 | true =>
  unfold et at e
  rw [List.any_map, List.any_eq_true] at e
  obtain ⟨c, hc, he⟩ := e
  obtain ⟨n, hn, rfl⟩ := List.getElem_of_mem hc
  exfalso
  refine h n hn ?_
  rw [List.getD_eq_getElem?_getD, List.getElem?_eq_getElem hn]
  simpa using he
theorem kx {f : Nat -> Ca} : ∀ {n : Nat}, dd f n = true -> ∀ {k : Nat}, k < n -> dc (f k) = true
 | 0, _, k, hk => by omega
 | n + 1, h, k, hk => by
  unfold dd at h
  simp only [Bool.and_eq_true] at h
  by_cases e : k = n
  ·subst e; exact h.2
  exact kx h.1 (by omega)
theorem tt {N : VN} (h : cI N = true) {i : Nat} (hi : i < (cY N).length) : 0 <= (aK N i).pa := by
 have key : ∀ c : Ca, dc c = true -> 0 <= c.pa := by
  intro c hc
  unfold dc aw at hc
  simp only [Bool.and_eq_true, decide_eq_true_eq] at hc
  omega
 unfold cI gJ at h
 simp only [Bool.and_eq_true, decide_eq_true_eq] at h
 obtain ⟨-, -, -, -, h5, h6⟩ := h
 unfold aK
 rw [List.getD_eq_getElem?_getD]
 cases hb : N.bz with
 | true =>
  unfold eM at h6
  rw [show (pq N).bz = true from hb] at h6
  cases i with
  | zero =>
   rw [fE hb]
   have := key (pq N).c (by simp at h6; exact h6.1)
   exact this
  | succ j =>
   rw [dZ, hb] at hi
   simp only [if_true] at hi
   rw [gp hb (by omega)]
   exact key (ma (N.qf j)) (kx h5 (by omega))
 | false =>
  rw [dZ, hb] at hi
  simp only [Bool.false_eq_true, if_false] at hi
  rw [gr hb (by omega)]
  exact key (ma (N.qf i)) (kx h5 (by omega))
theorem pU {P : List VL} {c : VL} {i : Nat} (hi : i < P.length) : (P ++ [c]).getD i default = P.getD i default := by
 simp [List.getD_eq_getElem?_getD, List.getElem?_append_left hi]
theorem nh {P : List VL} {c : VL} : (P ++ [c]).getD P.length default = c := by
 simp [List.getD_eq_getElem?_getD]
theorem rk {P : List VL} {c : VL} : (P ++ [c]).map (fun c => (c.id, c.pa)) = P.map (fun c => (c.id, c.pa)) ++ [(c.id, c.pa)] := by simp
theorem iI {X : VF} (h : aI (bE X.op) X.op.m = true) : ch X = (fC (cN X.op X.op.m) [] (fX X.lf 0 X.nl) && decide ((fX X.lf 0 X.nl).length = (cN X.op X.op.m).length)) := by
 unfold ch
 exact uy (nQ h _ (Nat.le_refl _)) _
theorem jk (X : VF) (f1 : Option Addr) (m1 : Nat) (f2 : Option Addr) (m2 : Nat) (f3 : Option Addr) (m3 : Nat) (w : World) (h : ay w 0 (aa (dS X)) (bL X f1 X.set.n m1 f2 X.op.m m2 f3 X.nl m3)) (hb : kR X) :
 Calls prog 9 #[.agg (bL X f1 X.set.n m1 f2 X.op.m m2 f3 X.nl m3).toArray] w fun e w' => e = .returned (.bool (fx X)) /\ Below w.heap.size w w' := by
 obtain ⟨_, _, _, _, _, _, e9, r1, r2, r3⟩ := VF.cells h rfl
 simp only [List.cons.injEq, Value.slice.injEq, and_true, true_and] at e9
 obtain ⟨⟨rfl, rfl⟩, ⟨rfl, rfl⟩, ⟨rfl, rfl⟩⟩ := e9
 obtain ⟨x0, h0⟩ : ∃ x, aw X.nw 0 4294967295 = x := ⟨_, rfl⟩
 obtain ⟨x1, h1⟩ : ∃ x, iH X.set.wt X.set.tr (fF X.set) = x := ⟨_, rfl⟩
 obtain ⟨x2, h2⟩ : ∃ x, dJ X.op = x := ⟨_, rfl⟩
 obtain ⟨c0, hc0⟩ : ∃ x, aw X.sk 0 1000000000 = x := ⟨_, rfl⟩
 obtain ⟨c1, hc1⟩ : ∃ x, aw X.re 0 1000000000 = x := ⟨_, rfl⟩
 obtain ⟨c2, hc2⟩ : ∃ x, aw X.fa 0 1000000000 = x := ⟨_, rfl⟩
 obtain ⟨c3, hc3⟩ : ∃ x, aw X.se 0 1000000000 = x := ⟨_, rfl⟩
 obtain ⟨x3, hx3⟩ : ∃ x, decide (X.nl = 6) = x := ⟨_, rfl⟩
 obtain ⟨yl, hyl⟩ : ∃ x, aI (fun i => cI (X.lf i)) X.nl = x := ⟨_, rfl⟩
 obtain ⟨yc, hyc⟩ : ∃ x, ch X = x := ⟨_, rfl⟩
 have HYC : Hid (decide (X.nl = 6) = x3 /\ aI (fun i => cI (X.lf i)) X.nl = yl /\ ch X = yc) := ⟨hx3, hyl, hyc⟩
 have hq : fx X = (x0 && (x1 && (x2 && (x3 && (c0 && (c1 && (c2 && (c3 && (yl && yc))))))))) := by
  unfold fx
  rw [show aI (fun k => aw (fm X k) 0 1000000000) 4 = ((((true && aw X.sk 0 1000000000) && aw X.re 0 1000000000) && aw X.fa 0 1000000000) && aw X.se 0 1000000000) from rfl, h0, h1, h2, hc0, hc1, hc2, hc3, hx3, hyl, hyc, Bool.true_and]
  clear HYC h hb r1 r2 r3 h0 h1 h2 hc0 hc1 hc2 hc3 hx3 hyl hyc
  revert x0 x1 x2 x3 c0 c1 c2 c3 yl yc
  decide
 rw [hq]
 obtain ⟨W, hW⟩ : ∃ W, W = w.alloc (.cells (bL X f1 X.set.n m1 f2 X.op.m m2 f3 X.nl m3).toArray 41) := ⟨_, rfl⟩
 obtain ⟨G, hG⟩ : ∃ G, G = w.heap.size := ⟨_, rfl⟩
 have bW : Below w.heap.size w W := by rw [hW]; exact ac _ _
 have k0 : ag W G 41 (bL X f1 X.set.n m1 f2 X.op.m m2 f3 X.nl m3).toArray := by rw [hW, hG]; exact ag.new _ _ _
 have HX : Hid (aw X.nw 0 4294967295 = x0 /\ iH X.set.wt X.set.tr (fF X.set) = x1 /\ dJ X.op = x2 /\ aw X.sk 0 1000000000 = c0 /\ aw X.re 0 1000000000 = c1 /\ aw X.fa 0 1000000000 = c2 /\ aw X.se 0 1000000000 = c3) := ⟨h0, h1, h2, hc0, hc1, hc2, hc3⟩
 have HE : Hid (Below w.heap.size w W /\ ag W G 41 (bL X f1 X.set.n m1 f2 X.op.m m2 f3 X.nl m3).toArray /\ Rd w 0 (.list 7 X.set.n (fun i => aa (bi (X.set.f i)))) (.slice f1 X.set.n m1) /\ Rd w 0 (.list 13 X.op.m (fun i => aa (dT (X.op.f i)))) (.slice f2 X.op.m m2) /\ Rd w 0 (.list 17 X.nl (fun i => aa (aU (X.lf i)))) (.slice f3 X.nl m3) /\ kR X /\ w.heap.size <= G) := ⟨bW, k0, r1, r2, r3, hb, by rw [hG]; exact Nat.le_refl _⟩
 have y0 : W.cell? ⟨G, 0, none⟩ = some (.int .i64 X.nw) := k0.cell 0 rfl
 have y1 : W.cell? ⟨G, 1, none⟩ = some (.int .i64 X.set.wt) := k0.cell 1 rfl
 have y2 : W.cell? ⟨G, 2, none⟩ = some (.int .i64 X.set.tr) := k0.cell 2 rfl
 have y3 : W.cell? ⟨G, 3, none⟩ = some (.slice f1 X.set.n m1) := k0.cell 3 rfl
 have y4 : W.cell? ⟨G, 4, none⟩ = some (.int .i64 X.op.nx) := k0.cell 4 rfl
 have y5 : W.cell? ⟨G, 5, none⟩ = some (.slice f2 X.op.m m2) := k0.cell 5 rfl
 have y6 : W.cell? ⟨G, 6, none⟩ = some (.slice f3 X.nl m3) := k0.cell 6 rfl
 have y7 : W.cell? ⟨G, 7, none⟩ = some (.int .i64 X.sk) := k0.cell 7 rfl
 have y8 : W.cell? ⟨G, 8, none⟩ = some (.int .i64 X.re) := k0.cell 8 rfl
 have y9 : W.cell? ⟨G, 9, none⟩ = some (.int .i64 X.fa) := k0.cell 9 rfl
 have y10 : W.cell? ⟨G, 10, none⟩ = some (.int .i64 X.se) := k0.cell 10 rfl
 clear hq h0 h1 h2 hc0 hc1 hc2 hc3 hx3 hyl hyc r1 r2 r3 h hb bW k0
 go_enter func9, ntmps9
 go_upto_region 1 with fail
 rw [<- hW, <- hG]
 clear hW hG
 try go_simp
 go_wp2_with fail
 refine (nJ _ _ _ HX.out.1).mono ?_
 rintro e w1 ⟨rfl, hw⟩
 have hw := hw.symm
 subst hw
 cases x0 with
 | false =>
  go_wp2
  go_ret
  exact ⟨rfl, HE.out.1⟩
 | true =>
 go_wp2_with fail
 refine (jh X.set.wt X.set.tr f1 X.set.n m1 X.set.f _ (HE.out.2.2.1.below HE.out.1).slu.2 HE.out.2.2.2.2.2.1.1 (fF X.set) (kQ X.set)).mono ?_
 rintro e w1 ⟨rfl, b1⟩
 rw [HX.out.2.1]
 have B1 : Hid (Below w.heap.size w w1) := ae HE.out.1 b1
 have K1 : Hid (ag w1 G 41 (bL X f1 X.set.n m1 f2 X.op.m m2 f3 X.nl m3).toArray) := HE.out.2.1.below b1
 clear b1 y0 y1 y2 y3 y4 y5 y6 y7 y8 y9 y10
 cases x1 with
 | false =>
  go_wp2
  go_ret
  exact ⟨rfl, B1.out⟩
 | true =>
 have y4 : w1.cell? ⟨G, 4, none⟩ = some (.int .i64 X.op.nx) := K1.out.cell 4 rfl
 have y5 : w1.cell? ⟨G, 5, none⟩ = some (.slice f2 X.op.m m2) := K1.out.cell 5 rfl
 go_wp2_with fail
 refine (eT X.op f2 m2 _ ⟨HE.out.2.2.2.1.below B1.out, HE.out.2.2.2.2.2.1.2.2.1⟩).mono ?_
 rintro e w2 ⟨rfl, b2⟩
 rw [HX.out.2.2.1]
 have B2 : Hid (Below w.heap.size w w2) := ae B1.out b2
 have K2 : Hid (ag w2 G 41 (bL X f1 X.set.n m1 f2 X.op.m m2 f3 X.nl m3).toArray) := K1.out.below b2
 clear b2 y4 y5 B1 K1
 cases x2 with
 | false =>
  go_wp2
  go_ret
  exact ⟨rfl, B2.out⟩
 | true =>
 have y6 : w2.cell? ⟨G, 6, none⟩ = some (.slice f3 X.nl m3) := K2.out.cell 6 rfl
 have y7 : w2.cell? ⟨G, 7, none⟩ = some (.int .i64 X.sk) := K2.out.cell 7 rfl
 have y8 : w2.cell? ⟨G, 8, none⟩ = some (.int .i64 X.re) := K2.out.cell 8 rfl
 have y9 : w2.cell? ⟨G, 9, none⟩ = some (.int .i64 X.fa) := K2.out.cell 9 rfl
 have y10 : w2.cell? ⟨G, 10, none⟩ = some (.int .i64 X.se) := K2.out.cell 10 rfl
 cases x3 with
 | true =>
  have e6 : X.nl = 6 := of_decide_eq_true HYC.out.1
  have h6 : ((X.nl : Int) != 6) = false := by simp; omega
  have H6 : Hid (X.nl = 6) := e6
  have hn6 : X.nl <= 6 := by omega
  clear e6
  go_wp2_with fail
  refine (aE _ _ _ _ _ HX.out.2.2.2.1).mono ?_
  rintro e w3 ⟨rfl, hw⟩
  have hw := hw.symm
  subst hw
  cases c0 with
  | false =>
   go_wp2
   go_ret
   exact ⟨rfl, B2.out⟩
  | true =>
  go_wp2_with fail
  refine (aE _ _ _ _ _ HX.out.2.2.2.2.1).mono ?_
  rintro e w3 ⟨rfl, hw⟩
  have hw := hw.symm
  subst hw
  cases c1 with
  | false =>
   go_wp2
   go_ret
   exact ⟨rfl, B2.out⟩
  | true =>
  go_wp2_with fail
  refine (aE _ _ _ _ _ HX.out.2.2.2.2.2.1).mono ?_
  rintro e w3 ⟨rfl, hw⟩
  have hw := hw.symm
  subst hw
  cases c2 with
  | false =>
   go_wp2
   go_ret
   exact ⟨rfl, B2.out⟩
  | true =>
  go_wp2_with fail
  refine (aE _ _ _ _ _ HX.out.2.2.2.2.2.2).mono ?_
  rintro e w3 ⟨rfl, hw⟩
  have hw := hw.symm
  subst hw
  cases c3 with
  | false =>
   go_wp2
   go_ret
   exact ⟨rfl, B2.out⟩
  | true =>
  have HO : Hid (aI (bE X.op) X.op.m = true /\ X.op.m <= 16 /\ jF X.op) := ⟨(gN HX.out.2.2.1).1, (gN HX.out.2.2.1).2, HE.out.2.2.2.2.2.1.2.2.1⟩
  obtain ⟨bl, ol, vs9, ef3, _, _, _⟩ := HE.out.2.2.2.2.1.at (k := 0) (by have := H6.out; omega)
  subst ef3
  obtain ⟨WA, hWA⟩ : ∃ X, X = w2.alloc (.cells #[] 86) := ⟨_, rfl⟩
  obtain ⟨GA, hGA⟩ : ∃ X, X = w2.heap.size := ⟨_, rfl⟩
  have bWA : Below w2.heap.size w2 WA := by rw [hWA]; exact ac _ _
  have G0 : Hid (FS X w WA (.slice (some ⟨GA, 0, none⟩) 0 0) [] (fX X.lf 0 X.nl) /\ ag WA G 41 (bL X f1 X.set.n m1 f2 X.op.m m2 (some ⟨bl, ol, none⟩) X.nl m3).toArray /\ Below w.heap.size w WA /\ (∀ j, (Value.slice (some ⟨GA, 0, none⟩) 0 0).ownBlock = some j -> w.heap.size <= j /\ j ≠ G)) := by
   refine ⟨⟨by rw [hWA, hGA]; exact cA.new w w2 _ _ _ B2.out.size, rfl, by simp⟩, K2.out.below bWA, ae B2.out bWA, fun j hj => ?_⟩
   have ej : GA = j := Option.some.inj hj
   have q1 := B2.out.size
   have q2 := K2.out.lt
   exact ⟨by omega, by omega⟩
  clear h6 y6 y7 y8 y9 y10 bWA
  go_upto_region 4 with fail
  rw [<- hWA, <- hGA]
  clear hWA hGA K2 B2
  try go_simp
  go_wp2
  go_loopw [4, 3] (fun i0 va wr => ∃ (ii : Nat) (P : List VL), ii <= X.nl /\ i0 = .int .i64 ii /\ FS X w wr va P (fX X.lf ii (X.nl - ii)) /\ ag wr G 41 (bL X f1 X.set.n m1 f2 X.op.m m2 (some ⟨bl, ol, none⟩) X.nl m3).toArray /\ Below w.heap.size w wr /\ (∀ j, va.ownBlock = some j -> w.heap.size <= j /\ j ≠ G) /\ aI (fun i => cI (X.lf i)) ii = true /\ P.length <= 41 * ii) (fun i0 _ _ => X.nl - (intOf i0).toNat)
  case atStart => exact ⟨0, [], Nat.zero_le _, rfl, G0.out.1, G0.out.2.1, G0.out.2.2.1, G0.out.2.2.2, rfl, Nat.zero_le _⟩
  case round =>
   clear G0
   obtain ⟨ii, P, hi0, rfl, HH⟩ := hrel
   obtain ⟨av, cva, rfl, hvle, _⟩ := id HH.1.1.shape
   have g6 : wr.cell? ⟨G, 6, none⟩ = some (.slice (some ⟨bl, ol, none⟩) X.nl m3) := HH.2.1.cell 6 rfl
   have g4 : wr.cell? ⟨G, 4, none⟩ = some (.int .i64 X.op.nx) := HH.2.1.cell 4 rfl
   have g5 : wr.cell? ⟨G, 5, none⟩ = some (.slice f2 X.op.m m2) := HH.2.1.cell 5 rfl
   by_cases hlt : ii < X.nl
   ·have hi : (ii : Int) < (X.nl : Int) := by omega
    obtain ⟨b9, o9, vs, e9, _, hb9, hl9, hr9, hd9⟩ := HE.out.2.2.2.2.1.at hlt
    simp only [Option.some.injEq, Addr.mk.injEq, and_true] at e9
    obtain ⟨rfl, rfl⟩ := e9
    obtain ⟨q1, d1, q2, d2, q3, d3, rfl, z1, z2, z3⟩ := VN.cells hd9 hl9
    have HR : Hid (ay w 0 (aa (aU (X.lf ii))) (cj (X.lf ii) q1 (X.lf ii).nq d1 q2 (X.lf ii).c.q.ws.length d2 q3 (X.lf ii).c.q.bs.length d3) /\ bl < w.heap.size /\ w.rangeAt bl (ol + ii * 17) (cj (X.lf ii) q1 (X.lf ii).nq d1 q2 (X.lf ii).c.q.ws.length d2 q3 (X.lf ii).c.q.bs.length d3) /\ iT (X.lf ii)) := ⟨hd9, hb9, hr9, HE.out.2.2.2.2.2.1.2.2.2.2 ii hlt⟩
    have HS0 : Hid (_) := HH
    have hrw : wr.rangeAt bl (ol + ii * 17) (cj (X.lf ii) q1 (X.lf ii).nq d1 q2 (X.lf ii).c.q.ws.length d2 q3 (X.lf ii).c.q.bs.length d3) := ax hr9 hb9 HH.2.2.1
    clear HH hb9 hl9 hr9 hd9 z1 z2 z3 g4 g5
    go_wp2_with (first | (refine wpList_load_mid rfl 88 _ rfl bl (ol + ii * 17) rfl (cj (X.lf ii) q1 (X.lf ii).nq d1 q2 (X.lf ii).c.q.ws.length d2 q3 (X.lf ii).c.q.bs.length d3) _ hrw underlying88 rfl (by kernel_rfl) ?_) | fail)
    refine (lA (X.lf ii) q1 d1 q2 d2 q3 d3 _ (HR.out.1.below HS0.out.2.2.1) HR.out.2.2.2).mono ?_
    rintro e w4 ⟨rfl, b4⟩
    obtain ⟨y, hy⟩ : ∃ y, cI (X.lf ii) = y := ⟨_, rfl⟩
    rw [hy]
    have HY4 : Hid (cI (X.lf ii) = y /\ Below wr.heap.size wr w4) := ⟨hy, b4⟩
    clear b4 hy hrw g6
    cases y with
    | false =>
     have H9 : Hid (aI (fun i => cI (X.lf i)) X.nl = false /\ Below w.heap.size w w4) := ⟨cM hlt HY4.out.1, ae HS0.out.2.2.1 HY4.out.2⟩
     go_wp2
     go_ret
     exact ⟨by rw [<- HYC.out.2.1, H9.out.1]; rfl, H9.out.2⟩
    | true =>
    have hrw : w4.rangeAt bl (ol + ii * 17) (cj (X.lf ii) q1 (X.lf ii).nq d1 q2 (X.lf ii).c.q.ws.length d2 q3 (X.lf ii).c.q.bs.length d3) := ax HR.out.2.2.1 HR.out.2.1 (ae HS0.out.2.2.1 HY4.out.2)
    have g6 : w4.cell? ⟨G, 6, none⟩ = some (.slice (some ⟨bl, ol, none⟩) X.nl m3) := (HS0.out.2.1.below HY4.out.2).cell 6 rfl
    go_wp2_with (first | (refine wpList_load_mid rfl 88 _ rfl bl (ol + ii * 17) rfl (cj (X.lf ii) q1 (X.lf ii).nq d1 q2 (X.lf ii).c.q.ws.length d2 q3 (X.lf ii).c.q.bs.length d3) _ hrw underlying88 rfl (by kernel_rfl) ?_) | fail)
    refine (mx (X.lf ii) q1 d1 q2 d2 q3 d3 w _ (ae HS0.out.2.2.1 HY4.out.2) HR.out.1 HR.out.2.2.2.1).mono ?_
    rintro e w5 ⟨v, rfl, hC, b5⟩
    obtain ⟨al, cv, rfl, hle, _⟩ := id hC
    obtain ⟨LO, hLO⟩ : ∃ n, n = w4.heap.size := ⟨_, rfl⟩
    obtain ⟨HI, hHI⟩ : ∃ n, n = w5.heap.size := ⟨_, rfl⟩
    obtain ⟨nc, hnc⟩ : ∃ n, n = (cY (X.lf ii)).length := ⟨_, rfl⟩
    have HNC : Hid (nc = (cY (X.lf ii)).length /\ cI (X.lf ii) = true) := ⟨hnc, HY4.out.1⟩
    have hq41 : nc <= 41 := by rw [hnc]; exact pR HY4.out.1
    have b35 : Below wr.heap.size wr w5 := ae HY4.out.2 b5
    have HS1 : Hid (FS X w w5 (.slice av P.length cva) P (dM X ii 0) /\ ag w5 G 41 (bL X f1 X.set.n m1 f2 X.op.m m2 (some ⟨bl, ol, none⟩) X.nl m3).toArray /\ gD w LO HI w5 9 (.slice al nc cv) nc (fun i9 => aO (aK (X.lf ii) i9)) /\ Below w.heap.size w w5 /\ (∀ j, (Value.slice av P.length cva).ownBlock = some j -> w.heap.size <= j /\ j ≠ G /\ (j < LO \/ HI <= j)) /\ P.length <= 41 * ii + 0) := by
     refine ⟨by rw [pF hlt]; exact HS0.out.1.below b35, HS0.out.2.1.below b35, by rw [hnc, hLO, hHI]; exact hC.k, ae HS0.out.2.2.1 b35, fun j hj => ?_, HS0.out.2.2.2.2.2⟩
     have q1 := HS0.out.2.2.2.1 j hj
     have q2 := (HS0.out.1.1.lt hj).2
     have q3 := HY4.out.2.size
     exact ⟨q1.1, q1.2, .inl (by omega)⟩
    have HAL : Hid (aI (fun i => cI (X.lf i)) (ii + 1) = true) := cF HS0.out.2.2.2.2.1 HY4.out.1
    rw [<- hnc]
    rw [<- hnc] at hle
    clear hC b5 b35 hrw g6 HS0 HY4 hLO hHI hnc
    go_wp2
    go_loopw [6, 3] (fun k0 va wr => ∃ (k : Nat) (P : List VL), k <= nc /\ k0 = .int .i64 k /\ FS X w wr va P (dM X ii k) /\ ag wr G 41 (bL X f1 X.set.n m1 f2 X.op.m m2 (some ⟨bl, ol, none⟩) X.nl m3).toArray /\ gD w LO HI wr 9 (.slice al nc cv) nc (fun i9 => aO (aK (X.lf ii) i9)) /\ Below w.heap.size w wr /\ (∀ j, va.ownBlock = some j -> w.heap.size <= j /\ j ≠ G /\ (j < LO \/ HI <= j)) /\ P.length <= 41 * ii + k) (fun k0 _ _ => nc - (intOf k0).toNat)
    case atStart => exact ⟨0, P, Nat.zero_le _, rfl, HS1.out⟩
    case round =>
     clear HS1
     obtain ⟨k, P, hk0, rfl, HH⟩ := hrel
     obtain ⟨av, ca, ev, hvle, _⟩ := id HH.1.1.shape
     subst ev
     by_cases hlj : k < nc
     ·have hi2 : (k : Int) < (nc : Int) := by omega
      obtain ⟨gl, o1, vs, rfl, hg1, hvl, hr, hrd⟩ := HH.2.2.1.at hlj
      obtain ⟨e1, k1, e2, k2, rfl, z1, z2⟩ := VL.cells hrd hvl
      obtain ⟨wq, hwq⟩ : ∃ x, x = wr := ⟨_, rfl⟩
      rw [<- hwq] at HH hg1 hr
      have HC9 : Hid (ay w 0 (aa (aO (aK (X.lf ii) k))) (bK (aK (X.lf ii) k) e1 (aK (X.lf ii) k).q.ws.length k1 e2 (aK (X.lf ii) k).q.bs.length k2)) := hrd
      have HS : Hid (FS X w wq (.slice av P.length ca) P (dM X ii k) /\ True /\ gD w LO HI wq 9 (.slice (some ⟨gl, o1, none⟩) nc cv) nc (fun i9 => aO (aK (X.lf ii) i9)) /\ Below w.heap.size w wq) := ⟨HH.1, trivial, HH.2.2.1, HH.2.2.2.1⟩
      have HOW : Hid ((∀ j, (Value.slice av P.length ca).ownBlock = some j -> w.heap.size <= j /\ j ≠ G /\ (j < LO \/ HI <= j)) /\ P.length <= 41 * ii + k) := HH.2.2.2.2
      have HZ0 : Hid (ag wq G 41 (bL X f1 X.set.n m1 f2 X.op.m m2 (some ⟨bl, ol, none⟩) X.nl m3).toArray) := HH.2.1
      have HV : Hid (gl < wq.heap.size /\ wq.rangeAt gl (o1 + k * 9) (bK (aK (X.lf ii) k) e1 (aK (X.lf ii) k).q.ws.length k1 e2 (aK (X.lf ii) k).q.bs.length k2) /\ ce (aK (X.lf ii) k).q /\ Rd w 0 (ah (aK (X.lf ii) k).q.ws) (.slice e1 (aK (X.lf ii) k).q.ws.length k1) /\ Rd w 0 (af (aK (X.lf ii) k).q.bs) (.slice e2 (aK (X.lf ii) k).q.bs.length k2) /\ 0 <= (aK (X.lf ii) k).pa) := ⟨hg1, hr, pG HR.out.2.2.2 (by have := HNC.out.1; omega), z1, z2, tt HNC.out.2 (by have := HNC.out.1; omega)⟩
      have hpl : P.length <= 1000 := by have := HH.2.2.2.2.2; omega
      clear HH hg1 hvl hr hrd z1 z2
      go_wp2
      go_loopw [7] (fun n0 wr => ∃ (n : Nat), n <= P.length /\ n0 = .int .i64 n /\ (∀ m, m < n -> ¬ ((P.getD m default).id = (aK (X.lf ii) k).id /\ (P.getD m default).pa = (aK (X.lf ii) k).pa)) /\ Below wq.heap.size wq wr) (fun n0 _ => P.length - (intOf n0).toNat)
      case atStart => exact ⟨0, Nat.zero_le _, rfl, fun m hm => by omega, by rw [hwq]; exact Below.refl _ _⟩
      case round =>
       clear hwq
       obtain ⟨n, hn0, rfl, hno, hby⟩ := hrel
       have HNO : Hid ((∀ m, m < n -> ¬ ((P.getD m default).id = (aK (X.lf ii) k).id /\ (P.getD m default).pa = (aK (X.lf ii) k).pa)) /\ Below wq.heap.size wq wr) := ⟨hno, hby⟩
       clear hno hby
       by_cases hn9 : n < P.length
       ·have hi3 : (n : Int) < (P.length : Int) := by omega
        obtain ⟨ga, ca', vs, eav, _, hga, hvl, hr, hrd⟩ := (HS.out.1.1.below HNO.out.2).at hn9
        simp only [Value.slice.injEq, and_true, true_and] at eav
        obtain ⟨rfl, rfl⟩ := eav
        obtain ⟨PE, hPE⟩ : ∃ c, P.getD n default = c := ⟨_, rfl⟩
        rw [hPE] at hrd
        have HPE : Hid (P.getD n default = PE) := hPE
        clear hPE
        obtain ⟨r1, s1, r2, s2, rfl, _, _⟩ := VL.cells hrd hvl
        have HN : Hid (ga < wr.heap.size /\ wr.rangeAt ga (n * 9) (bK PE r1 PE.q.ws.length s1 r2 PE.q.bs.length s2)) := ⟨hga, hr⟩
        have HL : Hid (gl < wr.heap.size /\ wr.rangeAt gl (o1 + k * 9) (bK (aK (X.lf ii) k) e1 (aK (X.lf ii) k).q.ws.length k1 e2 (aK (X.lf ii) k).q.bs.length k2)) := ⟨Nat.lt_of_lt_of_le HV.out.1 HNO.out.2.size, ax HV.out.2.1 HV.out.1 HNO.out.2⟩
        obtain ⟨x0, hx0⟩ : ∃ x, (PE.id == (aK (X.lf ii) k).id) = x := ⟨_, rfl⟩
        obtain ⟨x1, hx1⟩ : ∃ x, (PE.pa == (aK (X.lf ii) k).pa) = x := ⟨_, rfl⟩
        have HT : Hid ((PE.id == (aK (X.lf ii) k).id) = x0 /\ (PE.pa == (aK (X.lf ii) k).pa) = x1) := ⟨hx0, hx1⟩
        clear hga hvl hr hrd hx0 hx1
        go_upto_region 16 with fail
        try go_simp
        refine wp_region_any (by kernel_rfl) ?_
        refine aX (fun u => Below wr.heap.size wr u) (fun i v u => match i with
         | 0 => v = .slice (some ⟨ga, 0, none⟩) P.length ca
         | 1 => v = .int .i64 (n : Int)
         | 2 => v = .pointer (some ⟨ga, n * 9, none⟩)
         | 3 => v = .pointer (some ⟨ga, n * 9, none⟩)
         | 4 => v = .int .i64 PE.id
         | 5 => v = .slice (some ⟨gl, o1, none⟩) nc cv
         | 6 => v = .int .i64 (k : Int)
         | 7 => v = .pointer (some ⟨gl, o1 + k * 9, none⟩)
         | 8 => v = .pointer (some ⟨gl, o1 + k * 9, none⟩)
         | 9 => v = .int .i64 (aK (X.lf ii) k).id
         | 10 => v = .bool x0
         | 11 => v = .bool x0
         | 12 => v = cond x0 (.slice (some ⟨ga, 0, none⟩) P.length ca) undef
         | 13 => v = cond x0 (.int .i64 (n : Int)) undef
         | 14 => v = cond x0 (.pointer (some ⟨ga, n * 9, none⟩)) undef
         | 15 => v = cond x0 (.pointer (some ⟨ga, n * 9 + 1, none⟩)) undef
         | 16 => v = cond x0 (.int .i64 PE.pa) undef
         | 17 => v = cond x0 (.slice (some ⟨gl, o1, none⟩) nc cv) undef
         | 18 => v = cond x0 (.int .i64 (k : Int)) undef
         | 19 => v = cond x0 (.pointer (some ⟨gl, o1 + k * 9, none⟩)) undef
         | 20 => v = cond x0 (.pointer (some ⟨gl, o1 + k * 9 + 1, none⟩)) undef
         | 21 => v = cond x0 (.int .i64 (aK (X.lf ii) k).pa) undef
         | 22 => v = cond x0 (.bool x1) undef
         | 23 => v = cond x0 (.bool x1) (.bool false)
         | _ => v = undef) (by kernel_rfl) (by kernel_rfl) (fun _ _ _ _ h _ => h) (by first | exact Below.refl _ _ | exact (Below.refl _ _).drew) ?_ ?_ _ _ rfl (by decide) (fun i => by simp [Array.getD]; try (split <;> rfl))
        ·intro vs u hR hall
         simp only [bm]
         cases x0
         ·have e23 : vs 23 = .bool false := hall 23 (by simp)
          rw [e23]
          clear hall e23
          have RB : Hid (Below wr.heap.size wr u) := hR
          have HT2 : Hid (¬ ((P.getD n default).id = (aK (X.lf ii) k).id /\ (P.getD n default).pa = (aK (X.lf ii) k).pa)) := by show ¬ _; rw [HPE.out]; rintro ⟨h1, h2⟩; have h9 := HT.out.1; rw [h1] at h9; simp at h9
          clear HT HN HL hR
          try go_simp
          go_wp2
          go_roundw
          case rel => exact ⟨n + 1, by omega, by go_num, (fun m hm => by by_cases e : m = n; (subst e; exact HT2.out); (exact HNO.out.1 m (by omega))), ae HNO.out.2 RB.out⟩
          case measure => simp [intOf]; omega
         cases x1
         ·have e23 : vs 23 = .bool false := hall 23 (by simp)
          rw [e23]
          clear hall e23
          have RB : Hid (Below wr.heap.size wr u) := hR
          have HT2 : Hid (¬ ((P.getD n default).id = (aK (X.lf ii) k).id /\ (P.getD n default).pa = (aK (X.lf ii) k).pa)) := by show ¬ _; rw [HPE.out]; rintro ⟨h1, h2⟩; have h9 := HT.out.2; rw [h2] at h9; simp at h9
          clear HT HN HL hR
          try go_simp
          go_wp2
          go_roundw
          case rel => exact ⟨n + 1, by omega, by go_num, (fun m hm => by by_cases e : m = n; (subst e; exact HT2.out); (exact HNO.out.1 m (by omega))), ae HNO.out.2 RB.out⟩
          case measure => simp [intOf]; omega
         have e23 : vs 23 = .bool true := hall 23 (by simp)
         rw [e23]
         clear hall e23
         have H9 : Hid (ch X = false /\ Below w.heap.size w u) := ⟨by rw [iI HO.out.1, HS.out.1.2.1, iE (by have := HNC.out.1; omega), uK (c := fN ii (aK (X.lf ii) k)) (tq (a := (aK (X.lf ii) k).id) (b := (aK (X.lf ii) k).pa) hn9 (by rw [HPE.out]; simpa using HT.out.1) (by rw [HPE.out]; simpa using HT.out.2)), Bool.false_and], ae (ae HS.out.2.2.2 HNO.out.2) hR⟩
         clear HT HN HL hR
         try go_simp
         go_wp2
         go_ret
         exact ⟨by rw [<- HYC.out.2.2, H9.out.1]; simp, H9.out.2⟩
        intro u i o ρ hR ho hρ hc hf hd
        have hi : i < 24 := by
         have := (Array.getElem?_eq_some_iff.1 ho).1
         simpa using this
        obtain rfl | rfl | rfl | rfl | rfl | rfl | rfl | rfl | rfl | rfl | rfl | rfl | rfl | rfl | rfl | rfl | rfl | rfl | rfl | rfl | rfl | rfl | rfl | rfl : i = 0 \/ i = 1 \/ i = 2 \/ i = 3 \/ i = 4 \/ i = 5 \/ i = 6 \/ i = 7 \/ i = 8 \/ i = 9 \/ i = 10 \/ i = 11 \/ i = 12 \/ i = 13 \/ i = 14 \/ i = 15 \/ i = 16 \/ i = 17 \/ i = 18 \/ i = 19 \/ i = 20 \/ i = 21 \/ i = 22 \/ i = 23 := by omega
        all_goals (simp only [List.getElem?_toArray, List.getElem?_cons_zero, List.getElem?_cons_succ, Option.some.injEq] at ho; subst ho)
        ·exact yr rfl (hρ 3 (by kernel_rfl)) hR
        ·exact yr rfl (hρ 7 (by kernel_rfl)) hR
        ·exact yr (au rfl (dq hd 0 87) (dq hd 1 88) (by go_simp)) rfl hR
        ·exact yr (aq rfl (dq hd 2 89) (by go_simp)) rfl hR
        ·have y9 : u.cell? ⟨ga, n * 9, none⟩ = some (.int .i64 PE.id) := (ax HN.out.2 HN.out.1 hR) 0 _ rfl
         exact yr (ai rfl (dq hd 3 90) (by go_simp)) rfl hR
        ·exact yr rfl (hρ 5 (by kernel_rfl)) hR
        ·exact yr rfl (hρ 6 (by kernel_rfl)) hR
        ·exact yr (au rfl (dq hd 5 92) (dq hd 6 93) (by go_simp)) rfl hR
        ·exact yr (aq rfl (dq hd 7 94) (by go_simp)) rfl hR
        ·have y9 : u.cell? ⟨gl, o1 + k * 9, none⟩ = some (.int .i64 (aK (X.lf ii) k).id) := (ax HL.out.2 HL.out.1 hR) 0 _ rfl
         exact yr (ai rfl (dq hd 8 95) (by go_simp)) rfl hR
        ·cases x0
         ·have t0 : (PE.id == (aK (X.lf ii) k).id) = false := HT.out.1
          exact yr (aD rfl (dq hd 4 91) (dq hd 9 96) (by go_simp)) rfl hR
         have t0 : (PE.id == (aK (X.lf ii) k).id) = true := HT.out.1
         exact yr (aD rfl (dq hd 4 91) (dq hd 9 96) (by go_simp)) rfl hR
        ·exact yr rfl (dq hd 10 97) hR
        ·cases x0
         ·exact aj (.bool false) hd 11 98
         exact yq hd 11 98 rfl (hρ 3 (by kernel_rfl)) hR
        ·cases x0
         ·exact aj (.bool false) hd 11 98
         exact yq hd 11 98 rfl (hρ 7 (by kernel_rfl)) hR
        ·cases x0
         ·exact aj (.bool false) hd 11 98
         exact yq hd 11 98 (au rfl (dq hd 12 99) (dq hd 13 100) (by go_simp)) rfl hR
        ·cases x0
         ·exact aj (.bool false) hd 11 98
         exact yq hd 11 98 (aq rfl (dq hd 14 101) (by go_simp)) rfl hR
        ·cases x0
         ·exact aj (.bool false) hd 11 98
         have y9 := (ax HN.out.2 HN.out.1 hR) 1 _ rfl
         exact yq hd 11 98 (ai rfl (dq hd 15 102) (by go_simp)) rfl hR
        ·cases x0
         ·exact aj (.bool false) hd 11 98
         exact yq hd 11 98 rfl (hρ 5 (by kernel_rfl)) hR
        ·cases x0
         ·exact aj (.bool false) hd 11 98
         exact yq hd 11 98 rfl (hρ 6 (by kernel_rfl)) hR
        ·cases x0
         ·exact aj (.bool false) hd 11 98
         exact yq hd 11 98 (au rfl (dq hd 17 104) (dq hd 18 105) (by go_simp)) rfl hR
        ·cases x0
         ·exact aj (.bool false) hd 11 98
         exact yq hd 11 98 (aq rfl (dq hd 19 106) (by go_simp)) rfl hR
        ·cases x0
         ·exact aj (.bool false) hd 11 98
         have y9 := (ax HL.out.2 HL.out.1 hR) 1 _ rfl
         exact yq hd 11 98 (ai rfl (dq hd 20 107) (by go_simp)) rfl hR
        ·cases x0
         ·exact aj (.bool false) hd 11 98
         cases x1
         ·have t1 : (PE.pa == (aK (X.lf ii) k).pa) = false := HT.out.2
          exact yq hd 11 98 (aD rfl (dq hd 16 103) (dq hd 21 108) (by go_simp)) rfl hR
         have t1 : (PE.pa == (aK (X.lf ii) k).pa) = true := HT.out.2
         exact yq hd 11 98 (aD rfl (dq hd 16 103) (dq hd 21 108) (by go_simp)) rfl hR
        cases x0
        ·exact yr (aA rfl (dq hd 11 98)) (by simpa using hc _) hR
        exact yr (aA rfl (dq hd 11 98)) (by simpa using (dq hd 22 109)) hR
       have hi3 : ¬ (n : Int) < (P.length : Int) := by omega
       have HN3 : Hid (et (P.map (fun c => (c.id, c.pa))) (fN ii (aK (X.lf ii) k)).1 (fN ii (aK (X.lf ii) k)).2.1 = false) := uM (fun m hm => HNO.out.1 m (by omega))
       have HY : Hid (Below wq.heap.size wq wr) := HNO.out.2
       obtain ⟨wy, hwy⟩ : ∃ x, x = wr := ⟨_, rfl⟩
       rw [<- hwy] at HY
       have HZ : Hid (ag wy G 41 (bL X f1 X.set.n m1 f2 X.op.m m2 (some ⟨bl, ol, none⟩) X.nl m3).toArray /\ Rd w 0 (.list 13 X.op.m (fun i => aa (dT (X.op.f i)))) (.slice f2 X.op.m m2) /\ 0 <= (aK (X.lf ii) k).pa /\ ce (aK (X.lf ii) k).q) := ⟨HZ0.out.below HY.out, HE.out.2.2.2.1, HV.out.2.2.2.2.2, HV.out.2.2.1⟩
       have HL : Hid (gl < wy.heap.size /\ wy.rangeAt gl (o1 + k * 9) (bK (aK (X.lf ii) k) e1 (aK (X.lf ii) k).q.ws.length k1 e2 (aK (X.lf ii) k).q.bs.length k2) /\ (Rd w 0 (ah (aK (X.lf ii) k).q.ws) (.slice e1 (aK (X.lf ii) k).q.ws.length k1) /\ Rd w 0 (af (aK (X.lf ii) k).q.bs) (.slice e2 (aK (X.lf ii) k).q.bs.length k2)) /\ Below w.heap.size w wy) := ⟨Nat.lt_of_lt_of_le HV.out.1 HY.out.size, ax HV.out.2.1 HV.out.1 HY.out, ⟨HV.out.2.2.2.1, HV.out.2.2.2.2.1⟩, ae HS.out.2.2.2 HY.out⟩
       obtain ⟨x, hx⟩ : ∃ x, eh (cN X.op X.op.m) (fN ii (aK (X.lf ii) k)) = x := ⟨_, rfl⟩
       have HT : Hid (eh (cN X.op X.op.m) (fN ii (aK (X.lf ii) k)) = x) := hx
       clear HNO hx
       go_upto_region 18 with fail
       rw [<- hwy]
       clear hwy
       try go_simp
       refine wp_region_any (by kernel_rfl) ?_
       refine aX (fun u => Below wy.heap.size wy u) (fun i v u => match i with
        | 0 => v = .agg (bL X f1 X.set.n m1 f2 X.op.m m2 (some ⟨bl, ol, none⟩) X.nl m3).toArray
        | 1 => v = .int .i64 (ii : Int)
        | 2 => v = .slice (some ⟨gl, o1, none⟩) nc cv
        | 3 => v = .int .i64 (k : Int)
        | 4 => v = .pointer (some ⟨gl, o1 + k * 9, none⟩)
        | 5 => v = .agg (bK (aK (X.lf ii) k) e1 (aK (X.lf ii) k).q.ws.length k1 e2 (aK (X.lf ii) k).q.bs.length k2).toArray
        | 6 => v = .bool x
        | 7 => v = .bool (!x)
        | _ => v = undef) (by kernel_rfl) (by kernel_rfl) (fun _ _ _ _ h _ => h) (by first | exact Below.refl _ _ | exact (Below.refl _ _).drew) ?_ ?_ _ _ rfl (by decide) (fun i => by simp [Array.getD]; try (split <;> rfl))
       ·intro vs u hR hall
        simp only [bm]
        cases x
        ·have e7 : vs 7 = .bool true := hall 7 (by simp)
         rw [e7]
         clear hall e7
         have H9 : Hid (ch X = false /\ Below w.heap.size w u) := ⟨by rw [iI HO.out.1, HS.out.1.2.1, iE (by have := HNC.out.1; omega), uL (c := fN ii (aK (X.lf ii) k)) HT.out, Bool.false_and], ae HL.out.2.2.2 hR⟩
         clear HT HL hR
         try go_simp
         go_wp2
         go_ret
         exact ⟨by rw [<- HYC.out.2.2, H9.out.1]; simp, H9.out.2⟩
        have e7 : vs 7 = .bool false := hall 7 (by simp)
        rw [e7]
        clear hall e7
        have RB : Hid (Below wy.heap.size wy u) := hR
        clear hR
        try go_simp
        obtain ⟨W', hW'⟩ : ∃ z9, z9 = u.alloc (.cells (bK (aK (X.lf ii) k) e1 (aK (X.lf ii) k).q.ws.length k1 e2 (aK (X.lf ii) k).q.bs.length k2).toArray 86) := ⟨_, rfl⟩
        obtain ⟨H', hH'⟩ : ∃ z9, z9 = u.heap.size := ⟨_, rfl⟩
        have bW' : Below u.heap.size u W' := by rw [hW']; exact ac _ _
        have kc : ag W' H' 86 (bK (aK (X.lf ii) k) e1 (aK (X.lf ii) k).q.ws.length k1 e2 (aK (X.lf ii) k).q.bs.length k2).toArray := by rw [hW', hH']; exact ag.new _ _ _
        have hwu : Below wq.heap.size wq u := ae HY.out RB.out
        have hbu : Below w.heap.size w u := ae HS.out.2.2.2 hwu
        have hin : ((prog.info? 86).map (fun i => (i.zero, i.size, i.bytes))) = some (some (.agg #[.int .i64 0, .int .i64 0, .int .i64 0, .int .i64 0, .int .i64 0, .int .i64 0, .slice none 0 0, .slice none 0 0, .int .i64 0]), 9, 104) := by kernel_rfl
        obtain ⟨v1, w1, hrun1, mm1, mm2, mm3, mm4⟩ := (((HS.out.1.below hwu).1.below bW').congr (f' := fun i9 => aO ((P ++ [(aK (X.lf ii) k)]).getD i9 default)) (fun j hj => by rw [pU hj])).app1 79 79 104 (.agg #[.int .i64 0, .int .i64 0, .int .i64 0, .int .i64 0, .int .i64 0, .int .i64 0, .slice none 0 0, .slice none 0 0, .int .i64 0]) underlying79 hin rfl (by decide) (by decide) H' 1 (bK (aK (X.lf ii) k) e1 (aK (X.lf ii) k).q.ws.length k1 e2 (aK (X.lf ii) k).q.bs.length k2) rfl (fun j u hu => kc.cell j (by simpa using hu)) (by rw [nh]; exact HC9.out) (ae hbu bW') (iC HC9.out rfl) (by omega)
        have HA1 : nR W' (.slice av P.length ca) (.slice (some ⟨H', 0, none⟩) 1 1) v1 w1 := hrun1
        have HF : Hid (FS X w w1 v1 (P ++ [(aK (X.lf ii) k)]) (dM X ii (k + 1)) /\ ag w1 G 41 (bL X f1 X.set.n m1 f2 X.op.m m2 (some ⟨bl, ol, none⟩) X.nl m3).toArray /\ gD w LO HI w1 9 (.slice (some ⟨gl, o1, none⟩) nc cv) nc (fun i9 => aO (aK (X.lf ii) i9)) /\ Below w.heap.size w w1 /\ (∀ j, v1.ownBlock = some j -> w.heap.size <= j /\ j ≠ G /\ (j < LO \/ HI <= j)) /\ (P ++ [(aK (X.lf ii) k)]).length <= 41 * ii + (k + 1)) := by
         refine ⟨⟨by rw [List.length_append]; exact mm1, ?_, ?_⟩, ?_, ?_, mm2, fun j hj => ?_, ?_⟩
         ·rw [HS.out.1.2.1, iE (by have := HNC.out.1; omega), vp (c := fN ii (aK (X.lf ii) k)) HN3.out HT.out, rk]
          rfl
         ·have := HS.out.1.2.2
          rw [iE (by have := HNC.out.1; omega), List.length_cons] at this
          rw [List.length_append, List.length_singleton]
          omega
         ·exact (((HZ0.out.below hwu).below bW').grown mm3 (fun e => (HOW.out.1 G e).2.1 rfl))
         ·exact ((HS.out.2.2.1.below hwu).below bW').kept mm3 (fun j hj => ⟨(HOW.out.1 j hj).1, (HOW.out.1 j hj).2.2⟩)
         ·rcases mm4 with mm4 | mm4 <;> rw [mm4] at hj
          ·exact HOW.out.1 j hj
          obtain rfl := Option.some.inj hj
          have q1 := (ae hbu bW').size
          have q2 := HS.out.2.2.1.1
          have q3 := (ae hwu bW').size
          have q4 := HZ0.out.lt
          exact ⟨q1, by have := hwu.size; omega, .inr (by omega)⟩
         rw [List.length_append, List.length_singleton]; have := HOW.out.2; omega
        have hru : u.rangeAt gl (o1 + k * 9) (bK (aK (X.lf ii) k) e1 (aK (X.lf ii) k).q.ws.length k1 e2 (aK (X.lf ii) k).q.bs.length k2) := ax HL.out.2.1 HL.out.1 RB.out
        have i0 : u.cell? ⟨gl, o1 + k * 9, none⟩ = _ := hru 0 _ rfl
        have i1 := hru 1 _ rfl
        have i2 := hru 2 _ rfl
        have i3 := hru 3 _ rfl
        have i4 := hru 4 _ rfl
        have i5 := hru 5 _ rfl
        have i6 := hru 6 _ rfl
        have i7 := hru 7 _ rfl
        have i8 := hru 8 _ rfl
        clear hru mm1 mm2 mm3 mm4 hrun1 kc hin hbu hwu bW' HT HL RB
        go_upto_region 12 with (first | (rw [<- hW', <- hH']; at_builtin; refine fG rfl _ _ rfl rfl _ _ _ rfl rfl HA1 ?_))
        clear hW' hH' i0 i1 i2 i3 i4 i5 i6 i7 i8
        try go_simp
        go_wp2
        go_roundw
        case rel => exact ⟨k + 1, P ++ [(aK (X.lf ii) k)], by omega, by go_num, HF.out⟩
        case measure => simp [intOf]; omega
       intro u i o ρ hR ho hρ hc hf hd
       have hi : i < 8 := by
        have := (Array.getElem?_eq_some_iff.1 ho).1
        simpa using this
       obtain rfl | rfl | rfl | rfl | rfl | rfl | rfl | rfl : i = 0 \/ i = 1 \/ i = 2 \/ i = 3 \/ i = 4 \/ i = 5 \/ i = 6 \/ i = 7 := by omega
       all_goals (simp only [List.getElem?_toArray, List.getElem?_cons_zero, List.getElem?_cons_succ, Option.some.injEq] at ho; subst ho)
       ·have s1 : ρ (.tmp 1) = .pointer (some ⟨G, 0, none⟩) := (hρ 1 (by kernel_rfl)).trans rfl
        have hr : (Instr.loadAt 41 (.pointer (some ⟨G, 0, none⟩))).run prog u = .ok (.agg (bL X f1 X.set.n m1 f2 X.op.m m2 (some ⟨bl, ol, none⟩) X.nl m3).toArray) u := run_loadAt_mid u G (0) 41 (bL X f1 X.set.n m1 f2 X.op.m m2 (some ⟨bl, ol, none⟩) X.nl m3) _ (HZ.out.1.below hR).rng underlying41 rfl (by kernel_rfl)
        exact yr (ai rfl s1 hr) rfl hR
       ·exact yr rfl (hρ 4 (by kernel_rfl)) hR
       ·exact yr rfl (hρ 5 (by kernel_rfl)) hR
       ·exact yr rfl (hρ 6 (by kernel_rfl)) hR
       ·exact yr (au rfl (dq hd 2 113) (dq hd 3 114) (by go_simp)) rfl hR
       ·have h4 : _ = _ := dq hd 4 115
        have hr : (Instr.loadAt 86 (.pointer (some ⟨gl, o1 + k * 9, none⟩))).run prog u = .ok (.agg (bK (aK (X.lf ii) k) e1 (aK (X.lf ii) k).q.ws.length k1 e2 (aK (X.lf ii) k).q.bs.length k2).toArray) u := run_loadAt_mid u gl (o1 + k * 9) 86 (bK (aK (X.lf ii) k) e1 (aK (X.lf ii) k).q.ws.length k1 e2 (aK (X.lf ii) k).q.bs.length k2) _ (ax HL.out.2.1 HL.out.1 hR) underlying86 rfl (by kernel_rfl)
        exact yr (ai rfl h4 hr) rfl hR
       ·have h0 : _ = _ := dq hd 0 111
        have h1 : _ = _ := dq hd 1 112
        have h5 : _ = _ := dq hd 5 116
        refine .inl ⟨rfl, .inr ⟨_, _, bj rfl (hf _) (args := #[.agg (bL X f1 X.set.n m1 f2 X.op.m m2 (some ⟨bl, ol, none⟩) X.nl m3).toArray, .int .i64 (ii : Int), .agg (bK (aK (X.lf ii) k) e1 (aK (X.lf ii) k).q.ws.length k1 e2 (aK (X.lf ii) k).q.bs.length k2).toArray]) (by simp [h0, h1, h5]) (by kernel_rfl), ?_⟩⟩
        refine (ng X (aK (X.lf ii) k) ii f1 m1 f2 m2 (some ⟨bl, ol, none⟩) m3 e1 k1 e2 k2 _ (HZ.out.2.1.below (ae HL.out.2.2.2 hR)) (HL.out.2.2.1.1.below (ae HL.out.2.2.2 hR)) (HL.out.2.2.1.2.below (ae HL.out.2.2.2 hR)) HO.out.1 HO.out.2.1 HZ.out.2.2.1 HO.out.2.2 HZ.out.2.2.2).mono ?_
        rintro e u' ⟨he, b'⟩
        exact ⟨_, he.trans (by rw [HT.out] <;> rfl), rfl, ae hR b', b'⟩
       exact yr (bH rfl (dq hd 6 117) (by go_simp)) rfl hR
     have hi2 : ¬ (k : Int) < (nc : Int) := by omega
     have e9 : k = (cY (X.lf ii)).length := by have := HNC.out.1; omega
     have HK : Hid (FS X w wr (.slice av P.length ca) P (fX X.lf (ii + 1) (X.nl - (ii + 1))) /\ ag wr G 41 (bL X f1 X.set.n m1 f2 X.op.m m2 (some ⟨bl, ol, none⟩) X.nl m3).toArray /\ Below w.heap.size w wr /\ (∀ j, (Value.slice av P.length ca).ownBlock = some j -> w.heap.size <= j /\ j ≠ G) /\ aI (fun i => cI (X.lf i)) (ii + 1) = true /\ P.length <= 41 * (ii + 1)) := ⟨by have := HH.1; rw [e9, mi] at this; exact this, HH.2.1, HH.2.2.2.1, fun j hj => ⟨(HH.2.2.2.2.1 j hj).1, (HH.2.2.2.2.1 j hj).2.1⟩, HAL.out, by have := HH.2.2.2.2.2; omega⟩
     clear HH e9
     go_wp2
     go_roundw
     case rel => exact ⟨ii + 1, P, by omega, by go_num, HK.out⟩
     case measure => simp [intOf]; omega
   have hi : ¬ (ii : Int) < (X.nl : Int) := by omega
   have e9 : X.nl - ii = 0 := by omega
   have e8 : ii = X.nl := by omega
   have HK : Hid (aI (fun i => cI (X.lf i)) X.nl = true /\ ch X = decide (P.length = gz X.op X.op.m) /\ Below w.heap.size w wr /\ dJ X.op = true) := by
    refine ⟨by rw [<- e8]; exact HH.2.2.2.2.1, ?_, HH.2.2.1, HX.out.2.2.1⟩
    have q1 := HH.1.2.1
    have q2 := HH.1.2.2
    rw [e9] at q1 q2
    rw [iI HO.out.1, q1, <- q2, nO]
    show (true && decide (P.length + 0 = _)) = _
    rw [Bool.true_and, Nat.add_zero]
   have HT : Hid (gC wr X.op f2 m2) := ⟨HE.out.2.2.2.1.below HH.2.2.1, HO.out.2.2⟩
   clear HH e9 e8
   go_wp2_with fail
   refine (jT X.op f2 m2 _ HT.out).mono ?_
   rintro e w4 ⟨rfl, b4⟩
   rw [HK.out.2.2.2]
   have B4 : Hid (Below w.heap.size w w4) := ae HK.out.2.2.1 b4
   clear b4 g4 g5 g6 HT
   have HF9 : Hid (yl = true /\ yc = decide (P.length = gz X.op X.op.m)) := ⟨by rw [<- HYC.out.2.1]; exact HK.out.1, by rw [<- HYC.out.2.2]; exact HK.out.2.1⟩
   by_cases ew : P.length = gz X.op X.op.m
   ·have hw9 : ((P.length : Int) == (gz X.op X.op.m : Int)) = true := by simp [ew]
    have H8 : Hid (yc = true) := by show yc = true; rw [HF9.out.2, decide_eq_true ew]
    clear ew
    go_wp2
    go_ret
    exact ⟨by rw [HF9.out.1, H8.out]; rfl, B4.out⟩
   have hw9 : ((P.length : Int) == (gz X.op X.op.m : Int)) = false := by simp; omega
   have H8 : Hid (yc = false) := by show yc = false; rw [HF9.out.2, decide_eq_false ew]
   clear ew
   go_wp2
   go_ret
   exact ⟨by rw [HF9.out.1, H8.out]; rfl, B4.out⟩
 | false =>
  have e6 : ¬ X.nl = 6 := of_decide_eq_false HYC.out.1
  have h6 : ((X.nl : Int) != 6) = true := by simp; omega
  clear e6
  go_wp2
  go_ret
  exact ⟨rfl, B2.out⟩
def iV (X : VW) : Prop := kR X.fb /\ X.ns <= 2000000 /\ (∀ k, k < X.ns -> ao 4 (aa (eu (X.sf k).d)) <= 1048576) /\ X.nk <= 2000000 /\ ∀ k, k < X.nk -> ce (X.kf k).q /\ eL (X.kf k).a
noncomputable def fP (X : VW) : Bool := decide (X.nr <= 5000) && (decide (X.ne <= 5000) && (eB X.ns X.sf && (gI X.nk X.kf && fx X.fb)))
theorem ni (X : VW) (G : Nat) (a1 : Option Addr) (c1 : Nat) (a2 : Option Addr) (c2 : Nat) (a3 : Option Addr) (c3 : Nat) (a4 : Option Addr) (c4 : Nat) (a5 : Option Addr) (c5 : Nat) (a6 : Option Addr) (c6 : Nat) (a7 : Option Addr) (c7 : Nat) (w : World) (hk : ag w G 67 (bt X a1 X.fb.set.n c1 a2 X.fb.op.m c2 a3 X.fb.nl c3 a4 X.ns c4 a5 X.nk c5 a6 X.nr c6 a7 X.ne c7).toArray) (h : Rd w 0 (.list 7 X.fb.set.n (fun i => aa (bi (X.fb.set.f i)))) (.slice a1 X.fb.set.n c1) /\ Rd w 0 (.list 13 X.fb.op.m (fun i => aa (dT (X.fb.op.f i)))) (.slice a2 X.fb.op.m c2) /\ Rd w 0 (.list 17 X.fb.nl (fun i => aa (aU (X.fb.lf i)))) (.slice a3 X.fb.nl c3) /\ Rd w 0 (.list 6 X.ns (fun i => aa (bn (X.sf i)))) (.slice a4 X.ns c4) /\ Rd w 0 (.list 16 X.nk (fun i => aa (br (X.kf i)))) (.slice a5 X.nk c5)) (hb : iV X) :
 Calls prog 72 #[.pointer (some ⟨G, 0, none⟩)] w fun e w' => e = .returned (.bool (fP X)) /\ Below w.heap.size w w' := by
 obtain ⟨x0, h0⟩ : ∃ x, decide (X.nr <= 5000) = x := ⟨_, rfl⟩
 obtain ⟨x1, h1⟩ : ∃ x, decide (X.ne <= 5000) = x := ⟨_, rfl⟩
 obtain ⟨x2, h2⟩ : ∃ x, eB X.ns X.sf = x := ⟨_, rfl⟩
 obtain ⟨x3, h3⟩ : ∃ x, gI X.nk X.kf = x := ⟨_, rfl⟩
 obtain ⟨x4, h4⟩ : ∃ x, fx X.fb = x := ⟨_, rfl⟩
 have hf : fP X = (x0 && (x1 && (x2 && (x3 && x4)))) := by unfold fP; rw [h0, h1, h2, h3, h4]
 rw [hf]
 have HX : Hid (eB X.ns X.sf = x2 /\ gI X.nk X.kf = x3 /\ fx X.fb = x4) := ⟨h2, h3, h4⟩
 have HE : Hid (ag w G 67 (bt X a1 X.fb.set.n c1 a2 X.fb.op.m c2 a3 X.fb.nl c3 a4 X.ns c4 a5 X.nk c5 a6 X.nr c6 a7 X.ne c7).toArray /\ iV X /\ True /\ Rd w 0 (.list 7 X.fb.set.n (fun i => aa (bi (X.fb.set.f i)))) (.slice a1 X.fb.set.n c1) /\ Rd w 0 (.list 13 X.fb.op.m (fun i => aa (dT (X.fb.op.f i)))) (.slice a2 X.fb.op.m c2) /\ Rd w 0 (.list 17 X.fb.nl (fun i => aa (aU (X.fb.lf i)))) (.slice a3 X.fb.nl c3) /\ Rd w 0 (.list 6 X.ns (fun i => aa (bn (X.sf i)))) (.slice a4 X.ns c4) /\ Rd w 0 (.list 16 X.nk (fun i => aa (br (X.kf i)))) (.slice a5 X.nk c5)) := ⟨hk, hb, trivial, h⟩
 obtain ⟨⟨y0, y1, y2, y3, y4, y5, y6, y7, y8, y9, y10, y11, y12, y13, y14⟩, yf⟩ := hk.tc15
 clear hf h2 h3 h4 hk h hb yf
 cases x0 with
 | false =>
  have i0 : ¬ (X.nr : Int) <= 5000 := by have := of_decide_eq_false h0; omega
  clear HE HX h0 h1
  go_enter func72, ntmps72
  go_wp2
  go_ret
  exact ⟨rfl, Below.refl _ _⟩
 | true =>
 have i0 : (X.nr : Int) <= 5000 := by have := of_decide_eq_true h0; omega
 clear h0
 cases x1 with
 | false =>
  have i1 : ¬ (X.ne : Int) <= 5000 := by have := of_decide_eq_false h1; omega
  clear HE HX h1
  go_enter func72, ntmps72
  go_wp2
  go_ret
  exact ⟨rfl, Below.refl _ _⟩
 | true =>
 have i1 : (X.ne : Int) <= 5000 := by have := of_decide_eq_true h1; omega
 clear h1
 go_enter func72, ntmps72
 go_wp2_with fail
 refine (ik X.ns X.sf a4 c4 _ HE.out.2.2.2.2.2.2.1 HE.out.2.1.2.1 HE.out.2.1.2.2.1).mono ?_
 rintro e w1 ⟨rfl, bb⟩
 rw [HX.out.1]
 have B1 : Hid (Below w.heap.size w w1) := bb
 clear bb y0 y1 y2 y3 y4 y5 y6 y7 y8 y9 y10 y11 y12 y13 y14
 cases x2 with
 | false =>
  clear HE HX
  go_wp2
  go_ret
  exact ⟨rfl, B1.out⟩
 | true =>
 obtain ⟨⟨y0, y1, y2, y3, y4, y5, y6, y7, y8, y9, y10, y11, y12, y13, y14⟩, yf⟩ := (HE.out.1.below B1.out).tc15
 clear yf
 go_wp2_with fail
 refine (je X.nk X.kf a5 c5 _ ⟨HE.out.2.2.2.2.2.2.2.below B1.out, HE.out.2.1.2.2.2.1, HE.out.2.1.2.2.2.2⟩).mono ?_
 rintro e w2 ⟨rfl, bb⟩
 rw [HX.out.2.1]
 have B2 : Hid (Below w.heap.size w w2) := ae B1.out bb
 clear bb y0 y1 y2 y3 y4 y5 y6 y7 y8 y9 y10 y11 y12 y13 y14 B1
 cases x3 with
 | false =>
  clear HE HX
  go_wp2
  go_ret
  exact ⟨rfl, B2.out⟩
 | true =>
 obtain ⟨⟨y0, y1, y2, y3, y4, y5, y6, y7, y8, y9, y10, y11, y12, y13, y14⟩, yf⟩ := (HE.out.1.below B2.out).tc15
 clear yf
 go_wp2_with fail
 refine (jj X.fb a1 c1 a2 c2 a3 c3 _ (VF.back (HE.out.2.2.2.1.below B2.out) (HE.out.2.2.2.2.1.below B2.out) (HE.out.2.2.2.2.2.1.below B2.out)) HE.out.2.1.1).mono ?_
 rintro e w3 ⟨rfl, bb⟩
 rw [HX.out.2.2]
 have B3 := ae B2.out bb
 clear bb y0 y1 y2 y3 y4 y5 y6 y7 y8 y9 y10 y11 y12 y13 y14 HE HX B2
 go_wp2
 go_ret
 exact ⟨rfl, B3⟩
theorem jU (X : VW) (a1 : Option Addr) (c1 : Nat) (a2 : Option Addr) (c2 : Nat) (a3 : Option Addr) (c3 : Nat) (a4 : Option Addr) (c4 : Nat) (a5 : Option Addr) (c5 : Nat) (a6 : Option Addr) (c6 : Nat) (a7 : Option Addr) (c7 : Nat) (w : World) (h : Rd w 0 (.list 7 X.fb.set.n (fun i => aa (bi (X.fb.set.f i)))) (.slice a1 X.fb.set.n c1) /\ Rd w 0 (.list 13 X.fb.op.m (fun i => aa (dT (X.fb.op.f i)))) (.slice a2 X.fb.op.m c2) /\ Rd w 0 (.list 17 X.fb.nl (fun i => aa (aU (X.fb.lf i)))) (.slice a3 X.fb.nl c3) /\ Rd w 0 (.list 6 X.ns (fun i => aa (bn (X.sf i)))) (.slice a4 X.ns c4) /\ Rd w 0 (.list 16 X.nk (fun i => aa (br (X.kf i)))) (.slice a5 X.nk c5)) (hb : iV X) :
 Calls prog 26 #[.agg (bt X a1 X.fb.set.n c1 a2 X.fb.op.m c2 a3 X.fb.nl c3 a4 X.ns c4 a5 X.nk c5 a6 X.nr c6 a7 X.ne c7).toArray] w fun e w' => e = .returned (.bool (fP X)) /\ Below w.heap.size w w' := by
 obtain ⟨W, hW⟩ : ∃ W, W = w.alloc (.cells (bt X a1 X.fb.set.n c1 a2 X.fb.op.m c2 a3 X.fb.nl c3 a4 X.ns c4 a5 X.nk c5 a6 X.nr c6 a7 X.ne c7).toArray 67) := ⟨_, rfl⟩
 obtain ⟨G, hG⟩ : ∃ G, G = w.heap.size := ⟨_, rfl⟩
 have bW : Below w.heap.size w W := by rw [hW]; exact ac w _
 have HE : Hid (ag W G 67 (bt X a1 X.fb.set.n c1 a2 X.fb.op.m c2 a3 X.fb.nl c3 a4 X.ns c4 a5 X.nk c5 a6 X.nr c6 a7 X.ne c7).toArray /\ iV X /\ Below w.heap.size w W /\ Rd W 0 (.list 7 X.fb.set.n (fun i => aa (bi (X.fb.set.f i)))) (.slice a1 X.fb.set.n c1) /\ Rd W 0 (.list 13 X.fb.op.m (fun i => aa (dT (X.fb.op.f i)))) (.slice a2 X.fb.op.m c2) /\ Rd W 0 (.list 17 X.fb.nl (fun i => aa (aU (X.fb.lf i)))) (.slice a3 X.fb.nl c3) /\ Rd W 0 (.list 6 X.ns (fun i => aa (bn (X.sf i)))) (.slice a4 X.ns c4) /\ Rd W 0 (.list 16 X.nk (fun i => aa (br (X.kf i)))) (.slice a5 X.nk c5)) := by
  obtain ⟨r1, r2, r3, r4, r5⟩ := h
  exact ⟨by rw [hW, hG]; exact ag.new w _ _, hb, bW, r1.below bW, r2.below bW, r3.below bW, r4.below bW, r5.below bW⟩
 clear h hb bW
 go_enter func26, ntmps26
 go_upto_region 1 with fail
 rw [<- hW, <- hG]
 clear hW hG
 try go_simp
 go_wp2_with fail
 refine (ni X G a1 c1 a2 c2 a3 c3 a4 c4 a5 c5 a6 c6 a7 c7 _ HE.out.1 HE.out.2.2.2 HE.out.2.1).mono ?_
 rintro e w1 ⟨rfl, bb⟩
 have B1 := ae HE.out.2.2.1 bb
 clear bb HE
 go_wp2
 go_ret
 exact ⟨rfl, B1⟩
theorem jV (X : VW) (a1 : Option Addr) (c1 : Nat) (a2 : Option Addr) (c2 : Nat) (a3 : Option Addr) (c3 : Nat) (a4 : Option Addr) (c4 : Nat) (a5 : Option Addr) (c5 : Nat) (a6 : Option Addr) (c6 : Nat) (a7 : Option Addr) (c7 : Nat) (w : World) (h : Rd w 0 (.list 7 X.fb.set.n (fun i => aa (bi (X.fb.set.f i)))) (.slice a1 X.fb.set.n c1) /\ Rd w 0 (.list 13 X.fb.op.m (fun i => aa (dT (X.fb.op.f i)))) (.slice a2 X.fb.op.m c2) /\ Rd w 0 (.list 17 X.fb.nl (fun i => aa (aU (X.fb.lf i)))) (.slice a3 X.fb.nl c3) /\ Rd w 0 (.list 6 X.ns (fun i => aa (bn (X.sf i)))) (.slice a4 X.ns c4) /\ Rd w 0 (.list 16 X.nk (fun i => aa (br (X.kf i)))) (.slice a5 X.nk c5)) (hb : iV X) :
 Calls prog 24 #[.agg (bt X a1 X.fb.set.n c1 a2 X.fb.op.m c2 a3 X.fb.nl c3 a4 X.ns c4 a5 X.nk c5 a6 X.nr c6 a7 X.ne c7).toArray] w fun e w' => e = .returned (.bool (fP X)) /\ Below w.heap.size w w' := by
 obtain ⟨W, hW⟩ : ∃ W, W = w.alloc (.cells (bt X a1 X.fb.set.n c1 a2 X.fb.op.m c2 a3 X.fb.nl c3 a4 X.ns c4 a5 X.nk c5 a6 X.nr c6 a7 X.ne c7).toArray 67) := ⟨_, rfl⟩
 obtain ⟨G, hG⟩ : ∃ G, G = w.heap.size := ⟨_, rfl⟩
 have bW : Below w.heap.size w W := by rw [hW]; exact ac w _
 have HE : Hid (ag W G 67 (bt X a1 X.fb.set.n c1 a2 X.fb.op.m c2 a3 X.fb.nl c3 a4 X.ns c4 a5 X.nk c5 a6 X.nr c6 a7 X.ne c7).toArray /\ iV X /\ Below w.heap.size w W /\ Rd W 0 (.list 7 X.fb.set.n (fun i => aa (bi (X.fb.set.f i)))) (.slice a1 X.fb.set.n c1) /\ Rd W 0 (.list 13 X.fb.op.m (fun i => aa (dT (X.fb.op.f i)))) (.slice a2 X.fb.op.m c2) /\ Rd W 0 (.list 17 X.fb.nl (fun i => aa (aU (X.fb.lf i)))) (.slice a3 X.fb.nl c3) /\ Rd W 0 (.list 6 X.ns (fun i => aa (bn (X.sf i)))) (.slice a4 X.ns c4) /\ Rd W 0 (.list 16 X.nk (fun i => aa (br (X.kf i)))) (.slice a5 X.nk c5)) := by
  obtain ⟨r1, r2, r3, r4, r5⟩ := h
  exact ⟨by rw [hW, hG]; exact ag.new w _ _, hb, bW, r1.below bW, r2.below bW, r3.below bW, r4.below bW, r5.below bW⟩
 obtain ⟨x0, h0⟩ : ∃ x, decide (X.nr <= 5000) = x := ⟨_, rfl⟩
 obtain ⟨x1, h1⟩ : ∃ x, decide (X.ne <= 5000) = x := ⟨_, rfl⟩
 obtain ⟨x2, h2⟩ : ∃ x, eB X.ns X.sf = x := ⟨_, rfl⟩
 obtain ⟨x4, h4⟩ : ∃ x, fx X.fb = x := ⟨_, rfl⟩
 obtain ⟨x5, h5⟩ : ∃ x, decide (X.nk <= 60) = x := ⟨_, rfl⟩
 obtain ⟨x6, h6⟩ : ∃ x, bO (fun i => dm (X.kf i)) X.nk = x := ⟨_, rfl⟩
 have hf : fP X = (x4 && (x2 && (x5 && (x0 && (x1 && x6))))) := by
  unfold fP gI
  rw [h0, h1, h2, h4, h5, h6]
  cases x0 <;> cases x1 <;> cases x2 <;> cases x4 <;> cases x5 <;> cases x6 <;> rfl
 rw [hf]
 have HX : Hid (fx X.fb = x4 /\ eB X.ns X.sf = x2 /\ bO (fun i => dm (X.kf i)) X.nk = x6) := ⟨h4, h2, h6⟩
 obtain ⟨⟨y0, y1, y2, y3, y4, y5, y6, y7, y8, y9, y10, y11, y12, y13, y14⟩, yf⟩ := HE.out.1.tc15
 clear h hb bW hf h2 h4 h6 yf
 go_enter func24, ntmps24
 go_upto_region 1 with fail
 rw [<- hW, <- hG]
 clear hW hG
 try go_simp
 go_wp2_with fail
 refine (jk X.fb a1 c1 a2 c2 a3 c3 _ (VF.back HE.out.2.2.2.1 HE.out.2.2.2.2.1 HE.out.2.2.2.2.2.1) HE.out.2.1.1).mono ?_
 rintro e w1 ⟨rfl, bb⟩
 rw [HX.out.1]
 have B1 : Hid (Below W.heap.size W w1) := bb
 clear bb y0 y1 y2 y3 y4 y5 y6 y7 y8 y9 y10 y11 y12 y13 y14
 cases x4 with
 | false =>
  have B9 := ae HE.out.2.2.1 B1.out
  clear HE HX B1 h0 h1 h5
  go_wp2
  go_ret
  exact ⟨rfl, B9⟩
 | true =>
 obtain ⟨⟨y0, y1, y2, y3, y4, y5, y6, y7, y8, y9, y10, y11, y12, y13, y14⟩, yf⟩ := (HE.out.1.below B1.out).tc15
 clear yf
 go_wp2_with fail
 refine (lx X.ns X.sf a4 c4 _ (HE.out.2.2.2.2.2.2.1.below B1.out) HE.out.2.1.2.1 HE.out.2.1.2.2.1).mono ?_
 rintro e w2 ⟨rfl, bb⟩
 rw [HX.out.2.1]
 have B2 : Hid (Below W.heap.size W w2) := ae B1.out bb
 clear bb y0 y1 y2 y3 y4 y5 y6 y7 y8 y9 y10 y11 y12 y13 y14 B1
 cases x2 with
 | false =>
  have B9 := ae HE.out.2.2.1 B2.out
  clear HE HX B2 h0 h1 h5
  go_wp2
  go_ret
  exact ⟨rfl, B9⟩
 | true =>
 obtain ⟨⟨y0, y1, y2, y3, y4, y5, y6, y7, y8, y9, y10, y11, y12, y13, y14⟩, yf⟩ := (HE.out.1.below B2.out).tc15
 clear yf
 have B9 := ae HE.out.2.2.1 B2.out
 cases x5 with
 | false =>
  have i5 : (60 : Int) < (X.nk : Int) := by have := of_decide_eq_false h5; omega
  clear HE HX B2 h0 h1 h5
  go_wp2
  go_ret
  exact ⟨rfl, B9⟩
 | true =>
 have i5 : ¬ (60 : Int) < (X.nk : Int) := by have := of_decide_eq_true h5; omega
 have k5 : X.nk <= 60 := of_decide_eq_true h5
 clear h5
 cases x0 with
 | false =>
  have i0 : (5000 : Int) < (X.nr : Int) := by have := of_decide_eq_false h0; omega
  clear HE HX B2 h0 h1
  go_wp2
  go_ret
  exact ⟨rfl, B9⟩
 | true =>
 have i0 : ¬ (5000 : Int) < (X.nr : Int) := by have := of_decide_eq_true h0; omega
 clear h0
 cases x1 with
 | false =>
  have i1 : (5000 : Int) < (X.ne : Int) := by have := of_decide_eq_false h1; omega
  clear HE HX B2 h1
  go_wp2
  go_ret
  exact ⟨rfl, B9⟩
 | true =>
 have i1 : ¬ (5000 : Int) < (X.ne : Int) := by have := of_decide_eq_true h1; omega
 clear h1 B9
 go_wp2
 clear y0 y1 y2 y3 y4 y5 y6 y7 y8 y9 y10 y11 y12 y13 y14
 go_loopw [3] (fun i wr => ∃ k : Nat, k <= X.nk /\ i = .int .i64 k /\ bO (fun i => dm (X.kf i)) k = true /\ Below W.heap.size W wr) (fun i _ => X.nk - (intOf i).toNat)
 case atStart => exact ⟨0, Nat.zero_le _, rfl, rfl, B2.out⟩
 case round =>
  obtain ⟨k, hk, rfl, hall, hbl⟩ := hrel
  have y12 : wr.cell? ⟨G, 12, none⟩ = some (.slice a5 X.nk c5) := (HE.out.1.below hbl).cell 12 rfl
  by_cases hlt : k < X.nk
  ·have hi : (k : Int) < (X.nk : Int) := by omega
   obtain ⟨b, off, vs, rfl, _, hb0, hlen, hr, hrd⟩ := (HE.out.2.2.2.2.2.2.2.below hbl).at hlt
   obtain ⟨b1, d1, b2, d2, b3, d3, b4, d4, rfl, q1, q2, q3, q4⟩ := VK.cells hrd hlen
   clear hlen hrd hb0
   have dd0 : wr.cell? ⟨b, off + k * 16, none⟩ = _ := hr 0 _ rfl
   have dd1 := hr 1 _ rfl
   have dd2 := hr 2 _ rfl
   have dd3 := hr 3 _ rfl
   have dd4 := hr 4 _ rfl
   have dd5 := hr 5 _ rfl
   have dd6 := hr 6 _ rfl
   have dd7 := hr 7 _ rfl
   have dd8 := hr 8 _ rfl
   have dd9 := hr 9 _ rfl
   have dd10 := hr 10 _ rfl
   have dd11 := hr 11 _ rfl
   have dd12 := hr 12 _ rfl
   have dd13 := hr 13 _ rfl
   have dd14 := hr 14 _ rfl
   have dd15 := hr 15 _ rfl
   obtain ⟨x, hx⟩ : ∃ x, dm (X.kf k) = x := ⟨_, rfl⟩
   have HK : Hid (dm (X.kf k) = x /\ bO (fun i => dm (X.kf i)) k = true /\ Below W.heap.size W wr /\ Rd wr 0 (ah (X.kf k).q.ws) (.slice b1 (X.kf k).q.ws.length d1) /\ Rd wr 0 (af (X.kf k).q.bs) (.slice b2 (X.kf k).q.bs.length d2) /\ Rd wr 0 (ah (X.kf k).a.ws) (.slice b3 (X.kf k).a.ws.length d3) /\ Rd wr 0 (af (X.kf k).a.bs) (.slice b4 (X.kf k).a.bs.length d4)) := ⟨hx, hall, hbl, q1, q2, q3, q4⟩
   clear hx hall hbl hr q1 q2 q3 q4
   go_wp2_with fail
   refine (kq (X.kf k) b1 d1 b2 d2 b3 d3 b4 d4 _ HK.out.2.2.2 (HE.out.2.1.2.2.2.2 k hlt).1 (HE.out.2.1.2.2.2.2 k hlt).2).mono ?_
   rintro e w3 ⟨rfl, b9⟩
   rw [HK.out.1]
   have B3 : Hid (Below W.heap.size W w3) := ae HK.out.2.2.1 b9
   clear b9 dd0 dd1 dd2 dd3 dd4 dd5 dd6 dd7 dd8 dd9 dd10 dd11 dd12 dd13 dd14 dd15 y12
   cases x with
   | true =>
    have HF : Hid (bO (fun i => dm (X.kf i)) (k + 1) = true) := dO HK.out.2.1 HK.out.1
    clear HK
    go_wp2
    go_roundw
    case rel => exact ⟨k + 1, by omega, by go_num, HF.out, B3.out⟩
    case measure => simp [intOf]; omega
   | false =>
    have HF : Hid (x6 = false) := by show x6 = false; rw [<- HX.out.2.2]; exact er hlt HK.out.1
    have B9 := ae HE.out.2.2.1 B3.out
    clear HK HE HX B3 B2
    go_wp2
    go_ret
    exact ⟨by rw [HF.out]; rfl, B9⟩
  have hi : ¬ (k : Int) < (X.nk : Int) := by omega
  have e9 : k = X.nk := by omega
  subst e9
  have HF : Hid (x6 = true) := by show x6 = true; rw [<- HX.out.2.2]; exact hall
  have B9 := ae HE.out.2.2.1 hbl
  clear hall HX HE hbl B2
  go_wp2
  go_ret
  exact ⟨by rw [HF.out]; rfl, B9⟩
theorem VN.bdN {N : VN} (h : ao 17 (aa (aU N)) <= 2000000) : iT N := by
 rw [jW] at h
 have h1 := eG (s := 9) (n := N.nq) (f := fun i => aa (aO (N.qf i))) (N := 2000000) (by omega)
 refine ⟨h1.1, fun k hk => ?_, by omega, by omega⟩
 have := h1.2 k hk
 rw [fQ] at this
 exact ⟨by omega, by omega⟩
theorem VF.bdF {X : VF} (h : ao 11 (aa (dS X)) <= 2000000) (h64 : ∀ k, k < X.set.n -> -9223372036854775808 <= (X.set.f k).sh /\ (X.set.f k).sh <= 9223372036854775807) : kR X := by
 rw [fn] at h
 have h1 := eG (s := 7) (n := X.set.n) (f := fun i => aa (bi (X.set.f i))) (N := 2000000) (by omega)
 have h3 := eG (s := 17) (n := X.nl) (f := fun i => aa (aU (X.lf i))) (N := 2000000) (by omega)
 exact ⟨h1.1, h64, VT.bd (by rw [fR]; omega), h3.1, fun k hk => VN.bdN (h3.2 k hk)⟩
theorem VW.bdK {X : VW} (h : ao 15 (aa (eX X)) <= 1048576) (h64 : ∀ k, k < X.fb.set.n -> -9223372036854775808 <= (X.fb.set.f k).sh /\ (X.fb.set.f k).sh <= 9223372036854775807) : iV X := by
 rw [j8] at h
 have h4 := eG (s := 6) (n := X.ns) (f := fun i => aa (bn (X.sf i))) (N := 1048576) (by omega)
 have h5 := eG (s := 16) (n := X.nk) (f := fun i => aa (br (X.kf i))) (N := 1048576) (by omega)
 refine ⟨VF.bdF (by rw [fn]; omega) h64, by omega, fun k hk => ?_, by omega, fun k hk => ?_⟩
 ·have := h4.2 k hk
  rw [jY] at this
  rw [fp]
  exact this
 have := h5.2 k hk
 rw [jZ] at this
 exact ⟨⟨by omega, by omega⟩, ⟨by omega, by omega⟩⟩
theorem lB (X : VW) (a1 : Option Addr) (c1 : Nat) (a2 : Option Addr) (c2 : Nat) (a3 : Option Addr) (c3 : Nat) (a4 : Option Addr) (c4 : Nat) (a5 : Option Addr) (c5 : Nat) (a6 : Option Addr) (c6 : Nat) (a7 : Option Addr) (c7 : Nat) (w : World) (h : Rd w 0 (.list 7 X.fb.set.n (fun i => aa (bi (X.fb.set.f i)))) (.slice a1 X.fb.set.n c1) /\ Rd w 0 (.list 13 X.fb.op.m (fun i => aa (dT (X.fb.op.f i)))) (.slice a2 X.fb.op.m c2) /\ Rd w 0 (.list 17 X.fb.nl (fun i => aa (aU (X.fb.lf i)))) (.slice a3 X.fb.nl c3) /\ Rd w 0 (.list 6 X.ns (fun i => aa (bn (X.sf i)))) (.slice a4 X.ns c4) /\ Rd w 0 (.list 16 X.nk (fun i => aa (br (X.kf i)))) (.slice a5 X.nk c5) /\ Rd w 0 (.list 16 X.nr (fun i => aa (bI (X.rf i)))) (.slice a6 X.nr c6) /\ Rd w 0 (.list 15 X.ne (fun i => aa (bJ (X.ef i)))) (.slice a7 X.ne c7)) (hb : iV X) :
 Calls prog 26 #[.agg (bt X a1 X.fb.set.n c1 a2 X.fb.op.m c2 a3 X.fb.nl c3 a4 X.ns c4 a5 X.nk c5 a6 X.nr c6 a7 X.ne c7).toArray] w fun e w' => e = .returned (.bool (fP X)) /\ Below w.heap.size w w' :=
 jU X a1 c1 a2 c2 a3 c3 a4 c4 a5 c5 a6 c6 a7 c7 w ⟨h.1, h.2.1, h.2.2.1, h.2.2.2.1, h.2.2.2.2.1⟩ hb
theorem lC (X : VW) (a1 : Option Addr) (c1 : Nat) (a2 : Option Addr) (c2 : Nat) (a3 : Option Addr) (c3 : Nat) (a4 : Option Addr) (c4 : Nat) (a5 : Option Addr) (c5 : Nat) (a6 : Option Addr) (c6 : Nat) (a7 : Option Addr) (c7 : Nat) (w : World) (h : Rd w 0 (.list 7 X.fb.set.n (fun i => aa (bi (X.fb.set.f i)))) (.slice a1 X.fb.set.n c1) /\ Rd w 0 (.list 13 X.fb.op.m (fun i => aa (dT (X.fb.op.f i)))) (.slice a2 X.fb.op.m c2) /\ Rd w 0 (.list 17 X.fb.nl (fun i => aa (aU (X.fb.lf i)))) (.slice a3 X.fb.nl c3) /\ Rd w 0 (.list 6 X.ns (fun i => aa (bn (X.sf i)))) (.slice a4 X.ns c4) /\ Rd w 0 (.list 16 X.nk (fun i => aa (br (X.kf i)))) (.slice a5 X.nk c5) /\ Rd w 0 (.list 16 X.nr (fun i => aa (bI (X.rf i)))) (.slice a6 X.nr c6) /\ Rd w 0 (.list 15 X.ne (fun i => aa (bJ (X.ef i)))) (.slice a7 X.ne c7)) (hb : iV X) :
 Calls prog 24 #[.agg (bt X a1 X.fb.set.n c1 a2 X.fb.op.m c2 a3 X.fb.nl c3 a4 X.ns c4 a5 X.nk c5 a6 X.nr c6 a7 X.ne c7).toArray] w fun e w' => e = .returned (.bool (fP X)) /\ Below w.heap.size w w' :=
 jV X a1 c1 a2 c2 a3 c3 a4 c4 a5 c5 a6 c6 a7 c7 w ⟨h.1, h.2.1, h.2.2.1, h.2.2.2.1, h.2.2.2.2.1⟩ hb
end Go.Proofs.YtplaoagcedgdfaaGreat

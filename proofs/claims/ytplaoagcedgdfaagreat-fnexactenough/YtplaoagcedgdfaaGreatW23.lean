/- Texts that the proof needs, joined: Fo9 Ld1 FbB. -/
import Derived.Test.YtplaoagcedgdfaaGreatW19
import Derived.Test.YtplaoagcedgdfaaGreatW20
import Derived.Test.YtplaoagcedgdfaaGreatW22
set_option linter.unusedVariables false
set_option linter.unusedSimpArgs false
set_option maxHeartbeats 8000000
set_option maxRecDepth 20000
namespace Go.Proofs.YtplaoagcedgdfaaGreat
open Go.RowKit Go.Joins Go.Proofs.Tryz
def LsK (w0 : World) (lo hi : Nat) (w : World) (s : Nat) (v : Value) (n : Nat) (f : Nat -> List Tr) : Prop :=
 hi <= w.heap.size /\ ∃ a c, v = .slice a n c /\ n <= c /\ (n = 0 \/ ∃ (g off : Nat) (F : Nat -> List Value), a = some ⟨g, off, none⟩ /\ g < hi /\ (g < w0.heap.size \/ lo <= g) /\ ∀ k, k < n -> (F k).length = s /\ w.rangeAt g (off + k * s) (F k) /\ RdL w0 0 (trs (f k)) (F k))
section
variable {w0 w w' : World} {lo hi s n : Nat} {v : Value} {f : Nat -> List Tr}
theorem LsC.k (h : LsC w0 lo w s v n f) : LsK w0 lo w.heap.size w s v n f := ⟨Nat.le_refl _, h⟩
theorem LsK.kept {row : Option Nat} (h : LsK w0 lo hi w s v n f) (hg : w.grownBy w' row) (hr : ∀ k, row = some k -> w0.heap.size <= k /\ (k < lo \/ hi <= k)) : LsK w0 lo hi w' s v n f := by
 obtain ⟨hh, a, c, h1, h2, h4⟩ := h
 refine ⟨Nat.le_trans hh hg.size, a, c, h1, h2, ?_⟩
 rcases h4 with h4 | ⟨g, off, F, ha, hgs, hlo, hc⟩
 ·exact .inl h4
 refine .inr ⟨g, off, F, ha, hgs, hlo, fun k hk => ⟨(hc k hk).1, fun j u hu => ?_, (hc k hk).2.2⟩⟩
 rw [<- (hc k hk).2.1 j u hu]
 exact World.cell?_of_block (a := ⟨g, off + k * s + j, none⟩) (hg.block g (by omega) (fun e => by
  cases row with
  | none => cases e
  | some r => have := hr r rfl; have := Option.some.inj e; omega))
theorem LsK.below (h : LsK w0 lo hi w s v n f) (hb : Below w.heap.size w w') : LsK w0 lo hi w' s v n f := by
 obtain ⟨hh, a, c, h1, h2, h4⟩ := h
 refine ⟨Nat.le_trans hh hb.size, a, c, h1, h2, ?_⟩
 rcases h4 with h4 | ⟨g, off, F, ha, hgs, hlo, hc⟩
 ·exact .inl h4
 exact .inr ⟨g, off, F, ha, hgs, hlo, fun k hk => ⟨(hc k hk).1, rangeAt_below (hc k hk).2.1 (by omega) hb, (hc k hk).2.2⟩⟩
theorem LsK.at {a : Option Addr} {m c k : Nat} (h : LsK w0 lo hi w s (.slice a m c) n f) (hk : k < n) : ∃ g off vs, a = some ⟨g, off, none⟩ /\ g < w.heap.size /\ vs.length = s /\ w.rangeAt g (off + k * s) vs /\ RdL w0 0 (trs (f k)) vs := by
 obtain ⟨hh, a', c', h1, h2, h4⟩ := h
 simp only [Value.slice.injEq] at h1
 rcases h4 with h4 | ⟨g, off, F, ha, hgs, hlo, hc⟩
 ·omega
 exact ⟨g, off, F k, by rw [h1.1, ha], by omega, (hc k hk).1, (hc k hk).2.1, (hc k hk).2.2⟩
end
def FS (X : VF) (w wr : World) (v : Value) (P : List VL) (R : List (Int × Int × (VP -> Bool))) : Prop :=
 LsS w wr 86 9 v P.length (fun i => xlT (P.getD i default)) /\ ftK (opT X.op X.op.m) [] (csV X.lf 0 X.nl) = ftK (opT X.op X.op.m) (P.map (fun c => (c.id, c.pa))) R /\ P.length + R.length = (csV X.lf 0 X.nl).length
theorem FS.below {X : VF} {w wr wu : World} {v : Value} {P : List VL} {R : List (Int × Int × (VP -> Bool))} (h : FS X w wr v P R) (hb : Below wr.heap.size wr wu) : FS X w wu v P R := ⟨h.1.below hb, h.2⟩
theorem specLineV_any (N : VN) (a1 : Option Addr) (c1 : Nat) (e1 : Option Addr) (k1 : Nat) (e2 : Option Addr) (k2 : Nat) (w : World) (h : RdL w 0 (trs (xnT N)) (xnL N a1 N.nq c1 e1 N.c.q.ws.length k1 e2 N.c.q.bs.length k2)) (hb : BdN N) :
 Calls prog 37 #[.agg (xnL N a1 N.nq c1 e1 N.c.q.ws.length k1 e2 N.c.q.bs.length k2).toArray] w fun e w' => e = .returned (.bool (okVN N)) /\ Below w.heap.size w w' := by
 obtain ⟨_, _, _, _, _, _, e9, r1, r2, r3⟩ := VN.cells h rfl
 simp only [List.cons.injEq, Value.slice.injEq, and_true, true_and] at e9
 obtain ⟨⟨rfl, rfl⟩, ⟨rfl, rfl⟩, ⟨rfl, rfl⟩⟩ := e9
 obtain ⟨_, _, x2, _, _, s2⟩ := r2.ints
 obtain ⟨_, _, x3, _, _, s3⟩ := r3.bools
 simp only [Value.slice.injEq] at x2 x3
 rw [<- x2.1] at s2
 rw [<- x3.1] at s3
 exact specLineOk_any (laV N) N.nq _ _ _ _ N.c.q.ws.length N.c.q.bs.length _ _ (fun k => caV (N.qf k)) w ⟨rfl, rfl, r1.slc, s2, s3⟩ ⟨hb.1, fun k hk => hb.2.1 k hk⟩ hb.2.2.1 hb.2.2.2
theorem ftK_in {O : List (Int × Int × VP)} {Q : List (Int × Int)} {c : Int × Int × (VP -> Bool)} {cs : List (Int × Int × (VP -> Bool))} (h : inK Q c.1 c.2.1 = true) : ftK O Q (c :: cs) = false := by
 unfold ftK; rw [h]; rfl
theorem ftK_no {O : List (Int × Int × VP)} {Q : List (Int × Int)} {c : Int × Int × (VP -> Bool)} {cs : List (Int × Int × (VP -> Bool))} (h : okN2 O c = false) : ftK O Q (c :: cs) = false := by
 unfold ftK; rw [h]; simp
theorem ftK_s {O : List (Int × Int × VP)} {Q : List (Int × Int)} {c : Int × Int × (VP -> Bool)} {cs : List (Int × Int × (VP -> Bool))} (h : inK Q c.1 c.2.1 = false) (h2 : okN2 O c = true) : ftK O Q (c :: cs) = ftK O (Q ++ [(c.1, c.2.1)]) cs := by
 conv => lhs; unfold ftK
 rw [h, h2]; rfl
theorem inK_yes {P : List VL} {n : Nat} {a b : Int} (hn : n < P.length) (h1 : (P.getD n default).id = a) (h2 : (P.getD n default).pa = b) : inK (P.map (fun c => (c.id, c.pa))) a b = true := by
 unfold inK
 rw [List.any_map, List.any_eq_true]
 rw [List.getD_eq_getElem?_getD, List.getElem?_eq_getElem hn] at h1 h2
 exact ⟨P[n], List.getElem_mem hn, by simp only [Option.getD_some] at h1 h2; simp [h1, h2]⟩
theorem inK_no {P : List VL} {a b : Int} (h : ∀ n, n < P.length -> ¬ ((P.getD n default).id = a /\ (P.getD n default).pa = b)) : inK (P.map (fun c => (c.id, c.pa))) a b = false := by
 cases e : inK (P.map (fun c => (c.id, c.pa))) a b with
 | false => rfl
 | true =>
  unfold inK at e
  rw [List.any_map, List.any_eq_true] at e
  obtain ⟨c, hc, he⟩ := e
  obtain ⟨n, hn, rfl⟩ := List.getElem_of_mem hc
  exfalso
  refine h n hn ?_
  rw [List.getD_eq_getElem?_getD, List.getElem?_eq_getElem hn]
  simpa using he
theorem allC_at {f : Nat -> Ca} : ∀ {n : Nat}, allC f n = true -> ∀ {k : Nat}, k < n -> okCa (f k) = true
 | 0, _, k, hk => by omega
 | n + 1, h, k, hk => by
  unfold allC at h
  simp only [Bool.and_eq_true] at h
  by_cases e : k = n
  ·subst e; exact h.2
  exact allC_at h.1 (by omega)
theorem okVN_pa {N : VN} (h : okVN N = true) {i : Nat} (hi : i < (lcV N).length) : 0 <= (lcX N i).pa := by
 have key : ∀ c : Ca, okCa c = true -> 0 <= c.pa := by
  intro c hc
  unfold okCa inB at hc
  simp only [Bool.and_eq_true, decide_eq_true_eq] at hc
  omega
 unfold okVN okLn at h
 simp only [Bool.and_eq_true, decide_eq_true_eq] at h
 obtain ⟨-, -, -, -, h5, h6⟩ := h
 unfold lcX
 rw [List.getD_eq_getElem?_getD]
 cases hb : N.bz with
 | true =>
  unfold askB at h6
  rw [show (laV N).bz = true from hb] at h6
  cases i with
  | zero =>
   rw [lcV_0_busy hb]
   have := key (laV N).c (by simp at h6; exact h6.1)
   exact this
  | succ j =>
   rw [lcV_len, hb] at hi
   simp only [if_true] at hi
   rw [lcV_at_busy hb (by omega)]
   exact key (caV (N.qf j)) (allC_at h5 (by omega))
 | false =>
  rw [lcV_len, hb] at hi
  simp only [Bool.false_eq_true, if_false] at hi
  rw [lcV_at_idle hb (by omega)]
  exact key (caV (N.qf i)) (allC_at h5 (by omega))
theorem getD_snoc {P : List VL} {c : VL} {i : Nat} (hi : i < P.length) : (P ++ [c]).getD i default = P.getD i default := by
 simp [List.getD_eq_getElem?_getD, List.getElem?_append_left hi]
theorem getD_snoc_e {P : List VL} {c : VL} : (P ++ [c]).getD P.length default = c := by
 simp [List.getD_eq_getElem?_getD]
theorem map_snoc {P : List VL} {c : VL} : (P ++ [c]).map (fun c => (c.id, c.pa)) = P.map (fun c => (c.id, c.pa)) ++ [(c.id, c.pa)] := by simp
theorem callsB_ft {X : VF} (h : allN (rowB X.op) X.op.m = true) : callsB X = (ftK (opT X.op X.op.m) [] (csV X.lf 0 X.nl) && decide ((csV X.lf 0 X.nl).length = (opT X.op X.op.m).length)) := by
 unfold callsB
 exact tk_ft0 (nod_opT h _ (Nat.le_refl _)) _
theorem specFabricOk_any (X : VF) (f1 : Option Addr) (m1 : Nat) (f2 : Option Addr) (m2 : Nat) (f3 : Option Addr) (m3 : Nat) (w : World) (h : RdL w 0 (trs (xfT X)) (xfL X f1 X.set.n m1 f2 X.op.m m2 f3 X.nl m3)) (hb : BdF X) :
 Calls prog 9 #[.agg (xfL X f1 X.set.n m1 f2 X.op.m m2 f3 X.nl m3).toArray] w fun e w' => e = .returned (.bool (okFb X)) /\ Below w.heap.size w w' := by
 obtain ⟨_, _, _, _, _, _, e9, r1, r2, r3⟩ := VF.cells h rfl
 simp only [List.cons.injEq, Value.slice.injEq, and_true, true_and] at e9
 obtain ⟨⟨rfl, rfl⟩, ⟨rfl, rfl⟩, ⟨rfl, rfl⟩⟩ := e9
 obtain ⟨x0, h0⟩ : ∃ x, inB X.nw 0 4294967295 = x := ⟨_, rfl⟩
 obtain ⟨x1, h1⟩ : ∃ x, okC X.set.wt X.set.tr (okRuB X.set) = x := ⟨_, rfl⟩
 obtain ⟨x2, h2⟩ : ∃ x, okTb X.op = x := ⟨_, rfl⟩
 obtain ⟨c0, hc0⟩ : ∃ x, inB X.sk 0 1000000000 = x := ⟨_, rfl⟩
 obtain ⟨c1, hc1⟩ : ∃ x, inB X.re 0 1000000000 = x := ⟨_, rfl⟩
 obtain ⟨c2, hc2⟩ : ∃ x, inB X.fa 0 1000000000 = x := ⟨_, rfl⟩
 obtain ⟨c3, hc3⟩ : ∃ x, inB X.se 0 1000000000 = x := ⟨_, rfl⟩
 obtain ⟨x3, hx3⟩ : ∃ x, decide (X.nl = 6) = x := ⟨_, rfl⟩
 obtain ⟨yl, hyl⟩ : ∃ x, allN (fun i => okVN (X.lf i)) X.nl = x := ⟨_, rfl⟩
 obtain ⟨yc, hyc⟩ : ∃ x, callsB X = x := ⟨_, rfl⟩
 have HYC : Hid (decide (X.nl = 6) = x3 /\ allN (fun i => okVN (X.lf i)) X.nl = yl /\ callsB X = yc) := ⟨hx3, hyl, hyc⟩
 have hq : okFb X = (x0 && (x1 && (x2 && (x3 && (c0 && (c1 && (c2 && (c3 && (yl && yc))))))))) := by
  unfold okFb
  rw [show allN (fun k => inB (cnV X k) 0 1000000000) 4 = ((((true && inB X.sk 0 1000000000) && inB X.re 0 1000000000) && inB X.fa 0 1000000000) && inB X.se 0 1000000000) from rfl, h0, h1, h2, hc0, hc1, hc2, hc3, hx3, hyl, hyc, Bool.true_and]
  clear HYC h hb r1 r2 r3 h0 h1 h2 hc0 hc1 hc2 hc3 hx3 hyl hyc
  revert x0 x1 x2 x3 c0 c1 c2 c3 yl yc
  decide
 rw [hq]
 obtain ⟨W, hW⟩ : ∃ W, W = w.alloc (.cells (xfL X f1 X.set.n m1 f2 X.op.m m2 f3 X.nl m3).toArray 41) := ⟨_, rfl⟩
 obtain ⟨G, hG⟩ : ∃ G, G = w.heap.size := ⟨_, rfl⟩
 have bW : Below w.heap.size w W := by rw [hW]; exact bel_alloc _ _
 have k0 : Blk W G 41 (xfL X f1 X.set.n m1 f2 X.op.m m2 f3 X.nl m3).toArray := by rw [hW, hG]; exact Blk.new _ _ _
 have HX : Hid (inB X.nw 0 4294967295 = x0 /\ okC X.set.wt X.set.tr (okRuB X.set) = x1 /\ okTb X.op = x2 /\ inB X.sk 0 1000000000 = c0 /\ inB X.re 0 1000000000 = c1 /\ inB X.fa 0 1000000000 = c2 /\ inB X.se 0 1000000000 = c3) := ⟨h0, h1, h2, hc0, hc1, hc2, hc3⟩
 have HE : Hid (Below w.heap.size w W /\ Blk W G 41 (xfL X f1 X.set.n m1 f2 X.op.m m2 f3 X.nl m3).toArray /\ Rd w 0 (.list 7 X.set.n (fun i => trs (xrT (X.set.f i)))) (.slice f1 X.set.n m1) /\ Rd w 0 (.list 13 X.op.m (fun i => trs (dT (X.op.f i)))) (.slice f2 X.op.m m2) /\ Rd w 0 (.list 17 X.nl (fun i => trs (xnT (X.lf i)))) (.slice f3 X.nl m3) /\ BdF X /\ w.heap.size <= G) := ⟨bW, k0, r1, r2, r3, hb, by rw [hG]; exact Nat.le_refl _⟩
 have y0 : W.cell? ⟨G, 0, none⟩ = some (.int .i64 X.nw) := k0.cell 0 rfl
 have y1 : W.cell? ⟨G, 1, none⟩ = some (.int .i64 X.set.wt) := k0.cell 1 rfl
 have y2 : W.cell? ⟨G, 2, none⟩ = some (.int .i64 X.set.tr) := k0.cell 2 rfl
 have y3 : W.cell? ⟨G, 3, none⟩ = some (.slice f1 X.set.n m1) := k0.cell 3 rfl
 have y4 : W.cell? ⟨G, 4, none⟩ = some (.int .i64 X.op.nx) := k0.cell 4 rfl
 have y5 : W.cell? ⟨G, 5, none⟩ = some (.slice f2 X.op.m m2) := k0.cell 5 rfl
 have y6 : W.cell? ⟨G, 6, none⟩ = some (.slice f3 X.nl m3) := k0.cell 6 rfl
 have y7 : W.cell? ⟨G, 7, none⟩ = some (.int .i64 X.sk) := k0.cell 7 rfl
 have y8 : W.cell? ⟨G, 8, none⟩ = some (.int .i64 X.re) := k0.cell 8 rfl
 have y9 : W.cell? ⟨G, 9, none⟩ = some (.int .i64 X.fa) := k0.cell 9 rfl
 have y10 : W.cell? ⟨G, 10, none⟩ = some (.int .i64 X.se) := k0.cell 10 rfl
 clear hq h0 h1 h2 hc0 hc1 hc2 hc3 hx3 hyl hyc r1 r2 r3 h hb bW k0
 go_enter func9, ntmps9
 go_upto_region 1 with fail
 rw [<- hW, <- hG]
 clear hW hG
 try go_simp
 go_wp2_with fail
 refine (l1TickL _ _ _ HX.out.1).mono ?_
 rintro e w1 ⟨rfl, hw⟩
 have hw := hw.symm
 subst hw
 cases x0 with
 | false =>
  go_wp2
  go_ret
  exact ⟨rfl, HE.out.1⟩
 | true =>
 go_wp2_with fail
 refine (specConfigOk_any X.set.wt X.set.tr f1 X.set.n m1 X.set.f _ (HE.out.2.2.1.below HE.out.1).slu.2 HE.out.2.2.2.2.2.1.1 (okRuB X.set) (okRuB_iff X.set)).mono ?_
 rintro e w1 ⟨rfl, b1⟩
 rw [HX.out.2.1]
 have B1 : Hid (Below w.heap.size w w1) := bel_nx HE.out.1 b1
 have K1 : Hid (Blk w1 G 41 (xfL X f1 X.set.n m1 f2 X.op.m m2 f3 X.nl m3).toArray) := HE.out.2.1.below b1
 clear b1 y0 y1 y2 y3 y4 y5 y6 y7 y8 y9 y10
 cases x1 with
 | false =>
  go_wp2
  go_ret
  exact ⟨rfl, B1.out⟩
 | true =>
 have y4 : w1.cell? ⟨G, 4, none⟩ = some (.int .i64 X.op.nx) := K1.out.cell 4 rfl
 have y5 : w1.cell? ⟨G, 5, none⟩ = some (.slice f2 X.op.m m2) := K1.out.cell 5 rfl
 go_wp2_with fail
 refine (specTableOk_any X.op f2 m2 _ ⟨HE.out.2.2.2.1.below B1.out, HE.out.2.2.2.2.2.1.2.2.1⟩).mono ?_
 rintro e w2 ⟨rfl, b2⟩
 rw [HX.out.2.2.1]
 have B2 : Hid (Below w.heap.size w w2) := bel_nx B1.out b2
 have K2 : Hid (Blk w2 G 41 (xfL X f1 X.set.n m1 f2 X.op.m m2 f3 X.nl m3).toArray) := K1.out.below b2
 clear b2 y4 y5 B1 K1
 cases x2 with
 | false =>
  go_wp2
  go_ret
  exact ⟨rfl, B2.out⟩
 | true =>
 have y6 : w2.cell? ⟨G, 6, none⟩ = some (.slice f3 X.nl m3) := K2.out.cell 6 rfl
 have y7 : w2.cell? ⟨G, 7, none⟩ = some (.int .i64 X.sk) := K2.out.cell 7 rfl
 have y8 : w2.cell? ⟨G, 8, none⟩ = some (.int .i64 X.re) := K2.out.cell 8 rfl
 have y9 : w2.cell? ⟨G, 9, none⟩ = some (.int .i64 X.fa) := K2.out.cell 9 rfl
 have y10 : w2.cell? ⟨G, 10, none⟩ = some (.int .i64 X.se) := K2.out.cell 10 rfl
 cases x3 with
 | true =>
  have e6 : X.nl = 6 := of_decide_eq_true HYC.out.1
  have h6 : ((X.nl : Int) != 6) = false := by simp; omega
  have H6 : Hid (X.nl = 6) := e6
  have hn6 : X.nl <= 6 := by omega
  clear e6
  go_wp2_with fail
  refine (l1In_any _ _ _ _ _ HX.out.2.2.2.1).mono ?_
  rintro e w3 ⟨rfl, hw⟩
  have hw := hw.symm
  subst hw
  cases c0 with
  | false =>
   go_wp2
   go_ret
   exact ⟨rfl, B2.out⟩
  | true =>
  go_wp2_with fail
  refine (l1In_any _ _ _ _ _ HX.out.2.2.2.2.1).mono ?_
  rintro e w3 ⟨rfl, hw⟩
  have hw := hw.symm
  subst hw
  cases c1 with
  | false =>
   go_wp2
   go_ret
   exact ⟨rfl, B2.out⟩
  | true =>
  go_wp2_with fail
  refine (l1In_any _ _ _ _ _ HX.out.2.2.2.2.2.1).mono ?_
  rintro e w3 ⟨rfl, hw⟩
  have hw := hw.symm
  subst hw
  cases c2 with
  | false =>
   go_wp2
   go_ret
   exact ⟨rfl, B2.out⟩
  | true =>
  go_wp2_with fail
  refine (l1In_any _ _ _ _ _ HX.out.2.2.2.2.2.2).mono ?_
  rintro e w3 ⟨rfl, hw⟩
  have hw := hw.symm
  subst hw
  cases c3 with
  | false =>
   go_wp2
   go_ret
   exact ⟨rfl, B2.out⟩
  | true =>
  have HO : Hid (allN (rowB X.op) X.op.m = true /\ X.op.m <= 16 /\ BdT X.op) := ⟨(okTb_row HX.out.2.2.1).1, (okTb_row HX.out.2.2.1).2, HE.out.2.2.2.2.2.1.2.2.1⟩
  obtain ⟨bl, ol, vs9, ef3, _, _, _⟩ := HE.out.2.2.2.2.1.at (k := 0) (by have := H6.out; omega)
  subst ef3
  obtain ⟨WA, hWA⟩ : ∃ X, X = w2.alloc (.cells #[] 86) := ⟨_, rfl⟩
  obtain ⟨GA, hGA⟩ : ∃ X, X = w2.heap.size := ⟨_, rfl⟩
  have bWA : Below w2.heap.size w2 WA := by rw [hWA]; exact bel_alloc _ _
  have G0 : Hid (FS X w WA (.slice (some ⟨GA, 0, none⟩) 0 0) [] (csV X.lf 0 X.nl) /\ Blk WA G 41 (xfL X f1 X.set.n m1 f2 X.op.m m2 (some ⟨bl, ol, none⟩) X.nl m3).toArray /\ Below w.heap.size w WA /\ (∀ j, (Value.slice (some ⟨GA, 0, none⟩) 0 0).ownBlock = some j -> w.heap.size <= j /\ j ≠ G)) := by
   refine ⟨⟨by rw [hWA, hGA]; exact LsS.new w w2 _ _ _ B2.out.size, rfl, by simp⟩, K2.out.below bWA, bel_nx B2.out bWA, fun j hj => ?_⟩
   have ej : GA = j := Option.some.inj hj
   have q1 := B2.out.size
   have q2 := K2.out.lt
   exact ⟨by omega, by omega⟩
  clear h6 y6 y7 y8 y9 y10 bWA
  go_upto_region 4 with fail
  rw [<- hWA, <- hGA]
  clear hWA hGA K2 B2
  try go_simp
  go_wp2
  go_loopw [4, 3] (fun i0 va wr => ∃ (ii : Nat) (P : List VL), ii <= X.nl /\ i0 = .int .i64 ii /\ FS X w wr va P (csV X.lf ii (X.nl - ii)) /\ Blk wr G 41 (xfL X f1 X.set.n m1 f2 X.op.m m2 (some ⟨bl, ol, none⟩) X.nl m3).toArray /\ Below w.heap.size w wr /\ (∀ j, va.ownBlock = some j -> w.heap.size <= j /\ j ≠ G) /\ allN (fun i => okVN (X.lf i)) ii = true /\ P.length <= 41 * ii) (fun i0 _ _ => X.nl - (intOf i0).toNat)
  case atStart => exact ⟨0, [], Nat.zero_le _, rfl, G0.out.1, G0.out.2.1, G0.out.2.2.1, G0.out.2.2.2, rfl, Nat.zero_le _⟩
  case round =>
   clear G0
   obtain ⟨ii, P, hi0, rfl, HH⟩ := hrel
   obtain ⟨av, cva, rfl, hvle, _⟩ := id HH.1.1.shape
   have g6 : wr.cell? ⟨G, 6, none⟩ = some (.slice (some ⟨bl, ol, none⟩) X.nl m3) := HH.2.1.cell 6 rfl
   have g4 : wr.cell? ⟨G, 4, none⟩ = some (.int .i64 X.op.nx) := HH.2.1.cell 4 rfl
   have g5 : wr.cell? ⟨G, 5, none⟩ = some (.slice f2 X.op.m m2) := HH.2.1.cell 5 rfl
   by_cases hlt : ii < X.nl
   ·have hi : (ii : Int) < (X.nl : Int) := by omega
    obtain ⟨b9, o9, vs, e9, _, hb9, hl9, hr9, hd9⟩ := HE.out.2.2.2.2.1.at hlt
    simp only [Option.some.injEq, Addr.mk.injEq, and_true] at e9
    obtain ⟨rfl, rfl⟩ := e9
    obtain ⟨q1, d1, q2, d2, q3, d3, rfl, z1, z2, z3⟩ := VN.cells hd9 hl9
    have HR : Hid (RdL w 0 (trs (xnT (X.lf ii))) (xnL (X.lf ii) q1 (X.lf ii).nq d1 q2 (X.lf ii).c.q.ws.length d2 q3 (X.lf ii).c.q.bs.length d3) /\ bl < w.heap.size /\ w.rangeAt bl (ol + ii * 17) (xnL (X.lf ii) q1 (X.lf ii).nq d1 q2 (X.lf ii).c.q.ws.length d2 q3 (X.lf ii).c.q.bs.length d3) /\ BdN (X.lf ii)) := ⟨hd9, hb9, hr9, HE.out.2.2.2.2.2.1.2.2.2.2 ii hlt⟩
    have HS0 : Hid (_) := HH
    have hrw : wr.rangeAt bl (ol + ii * 17) (xnL (X.lf ii) q1 (X.lf ii).nq d1 q2 (X.lf ii).c.q.ws.length d2 q3 (X.lf ii).c.q.bs.length d3) := rangeAt_below hr9 hb9 HH.2.2.1
    clear HH hb9 hl9 hr9 hd9 z1 z2 z3 g4 g5
    go_wp2_with (first | (refine wpList_load_mid rfl 88 _ rfl bl (ol + ii * 17) rfl (xnL (X.lf ii) q1 (X.lf ii).nq d1 q2 (X.lf ii).c.q.ws.length d2 q3 (X.lf ii).c.q.bs.length d3) _ hrw underlying88 rfl (by kernel_rfl) ?_) | fail)
    refine (specLineV_any (X.lf ii) q1 d1 q2 d2 q3 d3 _ (HR.out.1.below HS0.out.2.2.1) HR.out.2.2.2).mono ?_
    rintro e w4 ⟨rfl, b4⟩
    obtain ⟨y, hy⟩ : ∃ y, okVN (X.lf ii) = y := ⟨_, rfl⟩
    rw [hy]
    have HY4 : Hid (okVN (X.lf ii) = y /\ Below wr.heap.size wr w4) := ⟨hy, b4⟩
    clear b4 hy hrw g6
    cases y with
    | false =>
     have H9 : Hid (allN (fun i => okVN (X.lf i)) X.nl = false /\ Below w.heap.size w w4) := ⟨allN_no hlt HY4.out.1, bel_nx HS0.out.2.2.1 HY4.out.2⟩
     go_wp2
     go_ret
     exact ⟨by rw [<- HYC.out.2.1, H9.out.1]; rfl, H9.out.2⟩
    | true =>
    have hrw : w4.rangeAt bl (ol + ii * 17) (xnL (X.lf ii) q1 (X.lf ii).nq d1 q2 (X.lf ii).c.q.ws.length d2 q3 (X.lf ii).c.q.bs.length d3) := rangeAt_below HR.out.2.2.1 HR.out.2.1 (bel_nx HS0.out.2.2.1 HY4.out.2)
    have g6 : w4.cell? ⟨G, 6, none⟩ = some (.slice (some ⟨bl, ol, none⟩) X.nl m3) := (HS0.out.2.1.below HY4.out.2).cell 6 rfl
    go_wp2_with (first | (refine wpList_load_mid rfl 88 _ rfl bl (ol + ii * 17) rfl (xnL (X.lf ii) q1 (X.lf ii).nq d1 q2 (X.lf ii).c.q.ws.length d2 q3 (X.lf ii).c.q.bs.length d3) _ hrw underlying88 rfl (by kernel_rfl) ?_) | fail)
    refine (l14Calls_any (X.lf ii) q1 d1 q2 d2 q3 d3 w _ (bel_nx HS0.out.2.2.1 HY4.out.2) HR.out.1 HR.out.2.2.2.1).mono ?_
    rintro e w5 ⟨v, rfl, hC, b5⟩
    obtain ⟨al, cv, rfl, hle, _⟩ := id hC
    obtain ⟨LO, hLO⟩ : ∃ n, n = w4.heap.size := ⟨_, rfl⟩
    obtain ⟨HI, hHI⟩ : ∃ n, n = w5.heap.size := ⟨_, rfl⟩
    obtain ⟨nc, hnc⟩ : ∃ n, n = (lcV (X.lf ii)).length := ⟨_, rfl⟩
    have HNC : Hid (nc = (lcV (X.lf ii)).length /\ okVN (X.lf ii) = true) := ⟨hnc, HY4.out.1⟩
    have hq41 : nc <= 41 := by rw [hnc]; exact okVN_q HY4.out.1
    have b35 : Below wr.heap.size wr w5 := bel_nx HY4.out.2 b5
    have HS1 : Hid (FS X w w5 (.slice av P.length cva) P (sufC X ii 0) /\ Blk w5 G 41 (xfL X f1 X.set.n m1 f2 X.op.m m2 (some ⟨bl, ol, none⟩) X.nl m3).toArray /\ LsK w LO HI w5 9 (.slice al nc cv) nc (fun i9 => xlT (lcX (X.lf ii) i9)) /\ Below w.heap.size w w5 /\ (∀ j, (Value.slice av P.length cva).ownBlock = some j -> w.heap.size <= j /\ j ≠ G /\ (j < LO \/ HI <= j)) /\ P.length <= 41 * ii + 0) := by
     refine ⟨by rw [sufC_0 hlt]; exact HS0.out.1.below b35, HS0.out.2.1.below b35, by rw [hnc, hLO, hHI]; exact hC.k, bel_nx HS0.out.2.2.1 b35, fun j hj => ?_, HS0.out.2.2.2.2.2⟩
     have q1 := HS0.out.2.2.2.1 j hj
     have q2 := (HS0.out.1.1.lt hj).2
     have q3 := HY4.out.2.size
     exact ⟨q1.1, q1.2, .inl (by omega)⟩
    have HAL : Hid (allN (fun i => okVN (X.lf i)) (ii + 1) = true) := allN_succ HS0.out.2.2.2.2.1 HY4.out.1
    rw [<- hnc]
    rw [<- hnc] at hle
    clear hC b5 b35 hrw g6 HS0 HY4 hLO hHI hnc
    go_wp2
    go_loopw [6, 3] (fun k0 va wr => ∃ (k : Nat) (P : List VL), k <= nc /\ k0 = .int .i64 k /\ FS X w wr va P (sufC X ii k) /\ Blk wr G 41 (xfL X f1 X.set.n m1 f2 X.op.m m2 (some ⟨bl, ol, none⟩) X.nl m3).toArray /\ LsK w LO HI wr 9 (.slice al nc cv) nc (fun i9 => xlT (lcX (X.lf ii) i9)) /\ Below w.heap.size w wr /\ (∀ j, va.ownBlock = some j -> w.heap.size <= j /\ j ≠ G /\ (j < LO \/ HI <= j)) /\ P.length <= 41 * ii + k) (fun k0 _ _ => nc - (intOf k0).toNat)
    case atStart => exact ⟨0, P, Nat.zero_le _, rfl, HS1.out⟩
    case round =>
     clear HS1
     obtain ⟨k, P, hk0, rfl, HH⟩ := hrel
     obtain ⟨av, ca, ev, hvle, _⟩ := id HH.1.1.shape
     subst ev
     by_cases hlj : k < nc
     ·have hi2 : (k : Int) < (nc : Int) := by omega
      obtain ⟨gl, o1, vs, rfl, hg1, hvl, hr, hrd⟩ := HH.2.2.1.at hlj
      obtain ⟨e1, k1, e2, k2, rfl, z1, z2⟩ := VL.cells hrd hvl
      obtain ⟨wq, hwq⟩ : ∃ x, x = wr := ⟨_, rfl⟩
      rw [<- hwq] at HH hg1 hr
      have HC9 : Hid (RdL w 0 (trs (xlT (lcX (X.lf ii) k))) (xlL (lcX (X.lf ii) k) e1 (lcX (X.lf ii) k).q.ws.length k1 e2 (lcX (X.lf ii) k).q.bs.length k2)) := hrd
      have HS : Hid (FS X w wq (.slice av P.length ca) P (sufC X ii k) /\ True /\ LsK w LO HI wq 9 (.slice (some ⟨gl, o1, none⟩) nc cv) nc (fun i9 => xlT (lcX (X.lf ii) i9)) /\ Below w.heap.size w wq) := ⟨HH.1, trivial, HH.2.2.1, HH.2.2.2.1⟩
      have HOW : Hid ((∀ j, (Value.slice av P.length ca).ownBlock = some j -> w.heap.size <= j /\ j ≠ G /\ (j < LO \/ HI <= j)) /\ P.length <= 41 * ii + k) := HH.2.2.2.2
      have HZ0 : Hid (Blk wq G 41 (xfL X f1 X.set.n m1 f2 X.op.m m2 (some ⟨bl, ol, none⟩) X.nl m3).toArray) := HH.2.1
      have HV : Hid (gl < wq.heap.size /\ wq.rangeAt gl (o1 + k * 9) (xlL (lcX (X.lf ii) k) e1 (lcX (X.lf ii) k).q.ws.length k1 e2 (lcX (X.lf ii) k).q.bs.length k2) /\ BdQ (lcX (X.lf ii) k).q /\ Rd w 0 (intsT (lcX (X.lf ii) k).q.ws) (.slice e1 (lcX (X.lf ii) k).q.ws.length k1) /\ Rd w 0 (boolsT (lcX (X.lf ii) k).q.bs) (.slice e2 (lcX (X.lf ii) k).q.bs.length k2) /\ 0 <= (lcX (X.lf ii) k).pa) := ⟨hg1, hr, lcX_bd HR.out.2.2.2 (by have := HNC.out.1; omega), z1, z2, okVN_pa HNC.out.2 (by have := HNC.out.1; omega)⟩
      have hpl : P.length <= 1000 := by have := HH.2.2.2.2.2; omega
      clear HH hg1 hvl hr hrd z1 z2
      go_wp2
      go_loopw [7] (fun n0 wr => ∃ (n : Nat), n <= P.length /\ n0 = .int .i64 n /\ (∀ m, m < n -> ¬ ((P.getD m default).id = (lcX (X.lf ii) k).id /\ (P.getD m default).pa = (lcX (X.lf ii) k).pa)) /\ Below wq.heap.size wq wr) (fun n0 _ => P.length - (intOf n0).toNat)
      case atStart => exact ⟨0, Nat.zero_le _, rfl, fun m hm => by omega, by rw [hwq]; exact Below.refl _ _⟩
      case round =>
       clear hwq
       obtain ⟨n, hn0, rfl, hno, hby⟩ := hrel
       have HNO : Hid ((∀ m, m < n -> ¬ ((P.getD m default).id = (lcX (X.lf ii) k).id /\ (P.getD m default).pa = (lcX (X.lf ii) k).pa)) /\ Below wq.heap.size wq wr) := ⟨hno, hby⟩
       clear hno hby
       by_cases hn9 : n < P.length
       ·have hi3 : (n : Int) < (P.length : Int) := by omega
        obtain ⟨ga, ca', vs, eav, _, hga, hvl, hr, hrd⟩ := (HS.out.1.1.below HNO.out.2).at hn9
        simp only [Value.slice.injEq, and_true, true_and] at eav
        obtain ⟨rfl, rfl⟩ := eav
        obtain ⟨PE, hPE⟩ : ∃ c, P.getD n default = c := ⟨_, rfl⟩
        rw [hPE] at hrd
        have HPE : Hid (P.getD n default = PE) := hPE
        clear hPE
        obtain ⟨r1, s1, r2, s2, rfl, _, _⟩ := VL.cells hrd hvl
        have HN : Hid (ga < wr.heap.size /\ wr.rangeAt ga (n * 9) (xlL PE r1 PE.q.ws.length s1 r2 PE.q.bs.length s2)) := ⟨hga, hr⟩
        have HL : Hid (gl < wr.heap.size /\ wr.rangeAt gl (o1 + k * 9) (xlL (lcX (X.lf ii) k) e1 (lcX (X.lf ii) k).q.ws.length k1 e2 (lcX (X.lf ii) k).q.bs.length k2)) := ⟨Nat.lt_of_lt_of_le HV.out.1 HNO.out.2.size, rangeAt_below HV.out.2.1 HV.out.1 HNO.out.2⟩
        obtain ⟨x0, hx0⟩ : ∃ x, (PE.id == (lcX (X.lf ii) k).id) = x := ⟨_, rfl⟩
        obtain ⟨x1, hx1⟩ : ∃ x, (PE.pa == (lcX (X.lf ii) k).pa) = x := ⟨_, rfl⟩
        have HT : Hid ((PE.id == (lcX (X.lf ii) k).id) = x0 /\ (PE.pa == (lcX (X.lf ii) k).pa) = x1) := ⟨hx0, hx1⟩
        clear hga hvl hr hrd hx0 hx1
        go_upto_region 16 with fail
        try go_simp
        refine wp_region_any (by kernel_rfl) ?_
        refine wpAny_vals (fun u => Below wr.heap.size wr u) (fun i v u => match i with
         | 0 => v = .slice (some ⟨ga, 0, none⟩) P.length ca
         | 1 => v = .int .i64 (n : Int)
         | 2 => v = .pointer (some ⟨ga, n * 9, none⟩)
         | 3 => v = .pointer (some ⟨ga, n * 9, none⟩)
         | 4 => v = .int .i64 PE.id
         | 5 => v = .slice (some ⟨gl, o1, none⟩) nc cv
         | 6 => v = .int .i64 (k : Int)
         | 7 => v = .pointer (some ⟨gl, o1 + k * 9, none⟩)
         | 8 => v = .pointer (some ⟨gl, o1 + k * 9, none⟩)
         | 9 => v = .int .i64 (lcX (X.lf ii) k).id
         | 10 => v = .bool x0
         | 11 => v = .bool x0
         | 12 => v = cond x0 (.slice (some ⟨ga, 0, none⟩) P.length ca) undef
         | 13 => v = cond x0 (.int .i64 (n : Int)) undef
         | 14 => v = cond x0 (.pointer (some ⟨ga, n * 9, none⟩)) undef
         | 15 => v = cond x0 (.pointer (some ⟨ga, n * 9 + 1, none⟩)) undef
         | 16 => v = cond x0 (.int .i64 PE.pa) undef
         | 17 => v = cond x0 (.slice (some ⟨gl, o1, none⟩) nc cv) undef
         | 18 => v = cond x0 (.int .i64 (k : Int)) undef
         | 19 => v = cond x0 (.pointer (some ⟨gl, o1 + k * 9, none⟩)) undef
         | 20 => v = cond x0 (.pointer (some ⟨gl, o1 + k * 9 + 1, none⟩)) undef
         | 21 => v = cond x0 (.int .i64 (lcX (X.lf ii) k).pa) undef
         | 22 => v = cond x0 (.bool x1) undef
         | 23 => v = cond x0 (.bool x1) (.bool false)
         | _ => v = undef) (by kernel_rfl) (by kernel_rfl) (fun _ _ _ _ h _ => h) (by first | exact Below.refl _ _ | exact (Below.refl _ _).drew) ?_ ?_ _ _ rfl (by decide) (fun i => by simp [Array.getD]; try (split <;> rfl))
        ·intro vs u hR hall
         simp only [putsL]
         cases x0
         ·have e23 : vs 23 = .bool false := hall 23 (by simp)
          rw [e23]
          clear hall e23
          have RB : Hid (Below wr.heap.size wr u) := hR
          have HT2 : Hid (¬ ((P.getD n default).id = (lcX (X.lf ii) k).id /\ (P.getD n default).pa = (lcX (X.lf ii) k).pa)) := by show ¬ _; rw [HPE.out]; rintro ⟨h1, h2⟩; have h9 := HT.out.1; rw [h1] at h9; simp at h9
          clear HT HN HL hR
          try go_simp
          go_wp2
          go_roundw
          case rel => exact ⟨n + 1, by omega, by go_num, (fun m hm => by by_cases e : m = n; (subst e; exact HT2.out); (exact HNO.out.1 m (by omega))), bel_nx HNO.out.2 RB.out⟩
          case measure => simp [intOf]; omega
         cases x1
         ·have e23 : vs 23 = .bool false := hall 23 (by simp)
          rw [e23]
          clear hall e23
          have RB : Hid (Below wr.heap.size wr u) := hR
          have HT2 : Hid (¬ ((P.getD n default).id = (lcX (X.lf ii) k).id /\ (P.getD n default).pa = (lcX (X.lf ii) k).pa)) := by show ¬ _; rw [HPE.out]; rintro ⟨h1, h2⟩; have h9 := HT.out.2; rw [h2] at h9; simp at h9
          clear HT HN HL hR
          try go_simp
          go_wp2
          go_roundw
          case rel => exact ⟨n + 1, by omega, by go_num, (fun m hm => by by_cases e : m = n; (subst e; exact HT2.out); (exact HNO.out.1 m (by omega))), bel_nx HNO.out.2 RB.out⟩
          case measure => simp [intOf]; omega
         have e23 : vs 23 = .bool true := hall 23 (by simp)
         rw [e23]
         clear hall e23
         have H9 : Hid (callsB X = false /\ Below w.heap.size w u) := ⟨by rw [callsB_ft HO.out.1, HS.out.1.2.1, sufC_s (by have := HNC.out.1; omega), ftK_in (c := nmC ii (lcX (X.lf ii) k)) (inK_yes (a := (lcX (X.lf ii) k).id) (b := (lcX (X.lf ii) k).pa) hn9 (by rw [HPE.out]; simpa using HT.out.1) (by rw [HPE.out]; simpa using HT.out.2)), Bool.false_and], bel_nx (bel_nx HS.out.2.2.2 HNO.out.2) hR⟩
         clear HT HN HL hR
         try go_simp
         go_wp2
         go_ret
         exact ⟨by rw [<- HYC.out.2.2, H9.out.1]; simp, H9.out.2⟩
        intro u i o ρ hR ho hρ hc hf hd
        have hi : i < 24 := by
         have := (Array.getElem?_eq_some_iff.1 ho).1
         simpa using this
        obtain rfl | rfl | rfl | rfl | rfl | rfl | rfl | rfl | rfl | rfl | rfl | rfl | rfl | rfl | rfl | rfl | rfl | rfl | rfl | rfl | rfl | rfl | rfl | rfl : i = 0 \/ i = 1 \/ i = 2 \/ i = 3 \/ i = 4 \/ i = 5 \/ i = 6 \/ i = 7 \/ i = 8 \/ i = 9 \/ i = 10 \/ i = 11 \/ i = 12 \/ i = 13 \/ i = 14 \/ i = 15 \/ i = 16 \/ i = 17 \/ i = 18 \/ i = 19 \/ i = 20 \/ i = 21 \/ i = 22 \/ i = 23 := by omega
        all_goals (simp only [List.getElem?_toArray, List.getElem?_cons_zero, List.getElem?_cons_succ, Option.some.injEq] at ho; subst ho)
        ·exact yr rfl (hρ 3 (by kernel_rfl)) hR
        ·exact yr rfl (hρ 7 (by kernel_rfl)) hR
        ·exact yr (run_index_op rfl (dq hd 0 87) (dq hd 1 88) (by go_simp)) rfl hR
        ·exact yr (run_field_op rfl (dq hd 2 89) (by go_simp)) rfl hR
        ·have y9 : u.cell? ⟨ga, n * 9, none⟩ = some (.int .i64 PE.id) := (rangeAt_below HN.out.2 HN.out.1 hR) 0 _ rfl
         exact yr (run_load_op rfl (dq hd 3 90) (by go_simp)) rfl hR
        ·exact yr rfl (hρ 5 (by kernel_rfl)) hR
        ·exact yr rfl (hρ 6 (by kernel_rfl)) hR
        ·exact yr (run_index_op rfl (dq hd 5 92) (dq hd 6 93) (by go_simp)) rfl hR
        ·exact yr (run_field_op rfl (dq hd 7 94) (by go_simp)) rfl hR
        ·have y9 : u.cell? ⟨gl, o1 + k * 9, none⟩ = some (.int .i64 (lcX (X.lf ii) k).id) := (rangeAt_below HL.out.2 HL.out.1 hR) 0 _ rfl
         exact yr (run_load_op rfl (dq hd 8 95) (by go_simp)) rfl hR
        ·cases x0
         ·have t0 : (PE.id == (lcX (X.lf ii) k).id) = false := HT.out.1
          exact yr (run_bin_op rfl (dq hd 4 91) (dq hd 9 96) (by go_simp)) rfl hR
         have t0 : (PE.id == (lcX (X.lf ii) k).id) = true := HT.out.1
         exact yr (run_bin_op rfl (dq hd 4 91) (dq hd 9 96) (by go_simp)) rfl hR
        ·exact yr rfl (dq hd 10 97) hR
        ·cases x0
         ·exact ngq (.bool false) hd 11 98
         exact yq hd 11 98 rfl (hρ 3 (by kernel_rfl)) hR
        ·cases x0
         ·exact ngq (.bool false) hd 11 98
         exact yq hd 11 98 rfl (hρ 7 (by kernel_rfl)) hR
        ·cases x0
         ·exact ngq (.bool false) hd 11 98
         exact yq hd 11 98 (run_index_op rfl (dq hd 12 99) (dq hd 13 100) (by go_simp)) rfl hR
        ·cases x0
         ·exact ngq (.bool false) hd 11 98
         exact yq hd 11 98 (run_field_op rfl (dq hd 14 101) (by go_simp)) rfl hR
        ·cases x0
         ·exact ngq (.bool false) hd 11 98
         have y9 := (rangeAt_below HN.out.2 HN.out.1 hR) 1 _ rfl
         exact yq hd 11 98 (run_load_op rfl (dq hd 15 102) (by go_simp)) rfl hR
        ·cases x0
         ·exact ngq (.bool false) hd 11 98
         exact yq hd 11 98 rfl (hρ 5 (by kernel_rfl)) hR
        ·cases x0
         ·exact ngq (.bool false) hd 11 98
         exact yq hd 11 98 rfl (hρ 6 (by kernel_rfl)) hR
        ·cases x0
         ·exact ngq (.bool false) hd 11 98
         exact yq hd 11 98 (run_index_op rfl (dq hd 17 104) (dq hd 18 105) (by go_simp)) rfl hR
        ·cases x0
         ·exact ngq (.bool false) hd 11 98
         exact yq hd 11 98 (run_field_op rfl (dq hd 19 106) (by go_simp)) rfl hR
        ·cases x0
         ·exact ngq (.bool false) hd 11 98
         have y9 := (rangeAt_below HL.out.2 HL.out.1 hR) 1 _ rfl
         exact yq hd 11 98 (run_load_op rfl (dq hd 20 107) (by go_simp)) rfl hR
        ·cases x0
         ·exact ngq (.bool false) hd 11 98
         cases x1
         ·have t1 : (PE.pa == (lcX (X.lf ii) k).pa) = false := HT.out.2
          exact yq hd 11 98 (run_bin_op rfl (dq hd 16 103) (dq hd 21 108) (by go_simp)) rfl hR
         have t1 : (PE.pa == (lcX (X.lf ii) k).pa) = true := HT.out.2
         exact yq hd 11 98 (run_bin_op rfl (dq hd 16 103) (dq hd 21 108) (by go_simp)) rfl hR
        cases x0
        ·exact yr (run_pick_op rfl (dq hd 11 98)) (by simpa using hc _) hR
        exact yr (run_pick_op rfl (dq hd 11 98)) (by simpa using (dq hd 22 109)) hR
       have hi3 : ¬ (n : Int) < (P.length : Int) := by omega
       have HN3 : Hid (inK (P.map (fun c => (c.id, c.pa))) (nmC ii (lcX (X.lf ii) k)).1 (nmC ii (lcX (X.lf ii) k)).2.1 = false) := inK_no (fun m hm => HNO.out.1 m (by omega))
       have HY : Hid (Below wq.heap.size wq wr) := HNO.out.2
       obtain ⟨wy, hwy⟩ : ∃ x, x = wr := ⟨_, rfl⟩
       rw [<- hwy] at HY
       have HZ : Hid (Blk wy G 41 (xfL X f1 X.set.n m1 f2 X.op.m m2 (some ⟨bl, ol, none⟩) X.nl m3).toArray /\ Rd w 0 (.list 13 X.op.m (fun i => trs (dT (X.op.f i)))) (.slice f2 X.op.m m2) /\ 0 <= (lcX (X.lf ii) k).pa /\ BdQ (lcX (X.lf ii) k).q) := ⟨HZ0.out.below HY.out, HE.out.2.2.2.1, HV.out.2.2.2.2.2, HV.out.2.2.1⟩
       have HL : Hid (gl < wy.heap.size /\ wy.rangeAt gl (o1 + k * 9) (xlL (lcX (X.lf ii) k) e1 (lcX (X.lf ii) k).q.ws.length k1 e2 (lcX (X.lf ii) k).q.bs.length k2) /\ (Rd w 0 (intsT (lcX (X.lf ii) k).q.ws) (.slice e1 (lcX (X.lf ii) k).q.ws.length k1) /\ Rd w 0 (boolsT (lcX (X.lf ii) k).q.bs) (.slice e2 (lcX (X.lf ii) k).q.bs.length k2)) /\ Below w.heap.size w wy) := ⟨Nat.lt_of_lt_of_le HV.out.1 HY.out.size, rangeAt_below HV.out.2.1 HV.out.1 HY.out, ⟨HV.out.2.2.2.1, HV.out.2.2.2.2.1⟩, bel_nx HS.out.2.2.2 HY.out⟩
       obtain ⟨x, hx⟩ : ∃ x, okN2 (opT X.op X.op.m) (nmC ii (lcX (X.lf ii) k)) = x := ⟨_, rfl⟩
       have HT : Hid (okN2 (opT X.op X.op.m) (nmC ii (lcX (X.lf ii) k)) = x) := hx
       clear HNO hx
       go_upto_region 18 with fail
       rw [<- hwy]
       clear hwy
       try go_simp
       refine wp_region_any (by kernel_rfl) ?_
       refine wpAny_vals (fun u => Below wy.heap.size wy u) (fun i v u => match i with
        | 0 => v = .agg (xfL X f1 X.set.n m1 f2 X.op.m m2 (some ⟨bl, ol, none⟩) X.nl m3).toArray
        | 1 => v = .int .i64 (ii : Int)
        | 2 => v = .slice (some ⟨gl, o1, none⟩) nc cv
        | 3 => v = .int .i64 (k : Int)
        | 4 => v = .pointer (some ⟨gl, o1 + k * 9, none⟩)
        | 5 => v = .agg (xlL (lcX (X.lf ii) k) e1 (lcX (X.lf ii) k).q.ws.length k1 e2 (lcX (X.lf ii) k).q.bs.length k2).toArray
        | 6 => v = .bool x
        | 7 => v = .bool (!x)
        | _ => v = undef) (by kernel_rfl) (by kernel_rfl) (fun _ _ _ _ h _ => h) (by first | exact Below.refl _ _ | exact (Below.refl _ _).drew) ?_ ?_ _ _ rfl (by decide) (fun i => by simp [Array.getD]; try (split <;> rfl))
       ·intro vs u hR hall
        simp only [putsL]
        cases x
        ·have e7 : vs 7 = .bool true := hall 7 (by simp)
         rw [e7]
         clear hall e7
         have H9 : Hid (callsB X = false /\ Below w.heap.size w u) := ⟨by rw [callsB_ft HO.out.1, HS.out.1.2.1, sufC_s (by have := HNC.out.1; omega), ftK_no (c := nmC ii (lcX (X.lf ii) k)) HT.out, Bool.false_and], bel_nx HL.out.2.2.2 hR⟩
         clear HT HL hR
         try go_simp
         go_wp2
         go_ret
         exact ⟨by rw [<- HYC.out.2.2, H9.out.1]; simp, H9.out.2⟩
        have e7 : vs 7 = .bool false := hall 7 (by simp)
        rw [e7]
        clear hall e7
        have RB : Hid (Below wy.heap.size wy u) := hR
        clear hR
        try go_simp
        obtain ⟨W', hW'⟩ : ∃ z9, z9 = u.alloc (.cells (xlL (lcX (X.lf ii) k) e1 (lcX (X.lf ii) k).q.ws.length k1 e2 (lcX (X.lf ii) k).q.bs.length k2).toArray 86) := ⟨_, rfl⟩
        obtain ⟨H', hH'⟩ : ∃ z9, z9 = u.heap.size := ⟨_, rfl⟩
        have bW' : Below u.heap.size u W' := by rw [hW']; exact bel_alloc _ _
        have kc : Blk W' H' 86 (xlL (lcX (X.lf ii) k) e1 (lcX (X.lf ii) k).q.ws.length k1 e2 (lcX (X.lf ii) k).q.bs.length k2).toArray := by rw [hW', hH']; exact Blk.new _ _ _
        have hwu : Below wq.heap.size wq u := bel_nx HY.out RB.out
        have hbu : Below w.heap.size w u := bel_nx HS.out.2.2.2 hwu
        have hin : ((prog.info? 86).map (fun i => (i.zero, i.size, i.bytes))) = some (some (.agg #[.int .i64 0, .int .i64 0, .int .i64 0, .int .i64 0, .int .i64 0, .int .i64 0, .slice none 0 0, .slice none 0 0, .int .i64 0]), 9, 104) := by kernel_rfl
        obtain ⟨v1, w1, hrun1, mm1, mm2, mm3, mm4⟩ := (((HS.out.1.below hwu).1.below bW').congr (f' := fun i9 => xlT ((P ++ [(lcX (X.lf ii) k)]).getD i9 default)) (fun j hj => by rw [getD_snoc hj])).app1 79 79 104 (.agg #[.int .i64 0, .int .i64 0, .int .i64 0, .int .i64 0, .int .i64 0, .int .i64 0, .slice none 0 0, .slice none 0 0, .int .i64 0]) underlying79 hin rfl (by decide) (by decide) H' 1 (xlL (lcX (X.lf ii) k) e1 (lcX (X.lf ii) k).q.ws.length k1 e2 (lcX (X.lf ii) k).q.bs.length k2) rfl (fun j u hu => kc.cell j (by simpa using hu)) (by rw [getD_snoc_e]; exact HC9.out) (bel_nx hbu bW') (one_xl HC9.out rfl) (by omega)
        have HA1 : ApC W' (.slice av P.length ca) (.slice (some ⟨H', 0, none⟩) 1 1) v1 w1 := hrun1
        have HF : Hid (FS X w w1 v1 (P ++ [(lcX (X.lf ii) k)]) (sufC X ii (k + 1)) /\ Blk w1 G 41 (xfL X f1 X.set.n m1 f2 X.op.m m2 (some ⟨bl, ol, none⟩) X.nl m3).toArray /\ LsK w LO HI w1 9 (.slice (some ⟨gl, o1, none⟩) nc cv) nc (fun i9 => xlT (lcX (X.lf ii) i9)) /\ Below w.heap.size w w1 /\ (∀ j, v1.ownBlock = some j -> w.heap.size <= j /\ j ≠ G /\ (j < LO \/ HI <= j)) /\ (P ++ [(lcX (X.lf ii) k)]).length <= 41 * ii + (k + 1)) := by
         refine ⟨⟨by rw [List.length_append]; exact mm1, ?_, ?_⟩, ?_, ?_, mm2, fun j hj => ?_, ?_⟩
         ·rw [HS.out.1.2.1, sufC_s (by have := HNC.out.1; omega), ftK_s (c := nmC ii (lcX (X.lf ii) k)) HN3.out HT.out, map_snoc]
          rfl
         ·have := HS.out.1.2.2
          rw [sufC_s (by have := HNC.out.1; omega), List.length_cons] at this
          rw [List.length_append, List.length_singleton]
          omega
         ·exact (((HZ0.out.below hwu).below bW').grown mm3 (fun e => (HOW.out.1 G e).2.1 rfl))
         ·exact ((HS.out.2.2.1.below hwu).below bW').kept mm3 (fun j hj => ⟨(HOW.out.1 j hj).1, (HOW.out.1 j hj).2.2⟩)
         ·rcases mm4 with mm4 | mm4 <;> rw [mm4] at hj
          ·exact HOW.out.1 j hj
          obtain rfl := Option.some.inj hj
          have q1 := (bel_nx hbu bW').size
          have q2 := HS.out.2.2.1.1
          have q3 := (bel_nx hwu bW').size
          have q4 := HZ0.out.lt
          exact ⟨q1, by have := hwu.size; omega, .inr (by omega)⟩
         rw [List.length_append, List.length_singleton]; have := HOW.out.2; omega
        have hru : u.rangeAt gl (o1 + k * 9) (xlL (lcX (X.lf ii) k) e1 (lcX (X.lf ii) k).q.ws.length k1 e2 (lcX (X.lf ii) k).q.bs.length k2) := rangeAt_below HL.out.2.1 HL.out.1 RB.out
        have i0 : u.cell? ⟨gl, o1 + k * 9, none⟩ = _ := hru 0 _ rfl
        have i1 := hru 1 _ rfl
        have i2 := hru 2 _ rfl
        have i3 := hru 3 _ rfl
        have i4 := hru 4 _ rfl
        have i5 := hru 5 _ rfl
        have i6 := hru 6 _ rfl
        have i7 := hru 7 _ rfl
        have i8 := hru 8 _ rfl
        clear hru mm1 mm2 mm3 mm4 hrun1 kc hin hbu hwu bW' HT HL RB
        go_upto_region 12 with (first | (rw [<- hW', <- hH']; at_builtin; refine wpList_apC rfl _ _ rfl rfl _ _ _ rfl rfl HA1 ?_))
        clear hW' hH' i0 i1 i2 i3 i4 i5 i6 i7 i8
        try go_simp
        go_wp2
        go_roundw
        case rel => exact ⟨k + 1, P ++ [(lcX (X.lf ii) k)], by omega, by go_num, HF.out⟩
        case measure => simp [intOf]; omega
       intro u i o ρ hR ho hρ hc hf hd
       have hi : i < 8 := by
        have := (Array.getElem?_eq_some_iff.1 ho).1
        simpa using this
       obtain rfl | rfl | rfl | rfl | rfl | rfl | rfl | rfl : i = 0 \/ i = 1 \/ i = 2 \/ i = 3 \/ i = 4 \/ i = 5 \/ i = 6 \/ i = 7 := by omega
       all_goals (simp only [List.getElem?_toArray, List.getElem?_cons_zero, List.getElem?_cons_succ, Option.some.injEq] at ho; subst ho)
       ·have s1 : ρ (.tmp 1) = .pointer (some ⟨G, 0, none⟩) := (hρ 1 (by kernel_rfl)).trans rfl
        have hr : (Instr.loadAt 41 (.pointer (some ⟨G, 0, none⟩))).run prog u = .ok (.agg (xfL X f1 X.set.n m1 f2 X.op.m m2 (some ⟨bl, ol, none⟩) X.nl m3).toArray) u := run_loadAt_mid u G (0) 41 (xfL X f1 X.set.n m1 f2 X.op.m m2 (some ⟨bl, ol, none⟩) X.nl m3) _ (HZ.out.1.below hR).rng underlying41 rfl (by kernel_rfl)
        exact yr (run_load_op rfl s1 hr) rfl hR
       ·exact yr rfl (hρ 4 (by kernel_rfl)) hR
       ·exact yr rfl (hρ 5 (by kernel_rfl)) hR
       ·exact yr rfl (hρ 6 (by kernel_rfl)) hR
       ·exact yr (run_index_op rfl (dq hd 2 113) (dq hd 3 114) (by go_simp)) rfl hR
       ·have h4 : _ = _ := dq hd 4 115
        have hr : (Instr.loadAt 86 (.pointer (some ⟨gl, o1 + k * 9, none⟩))).run prog u = .ok (.agg (xlL (lcX (X.lf ii) k) e1 (lcX (X.lf ii) k).q.ws.length k1 e2 (lcX (X.lf ii) k).q.bs.length k2).toArray) u := run_loadAt_mid u gl (o1 + k * 9) 86 (xlL (lcX (X.lf ii) k) e1 (lcX (X.lf ii) k).q.ws.length k1 e2 (lcX (X.lf ii) k).q.bs.length k2) _ (rangeAt_below HL.out.2.1 HL.out.1 hR) underlying86 rfl (by kernel_rfl)
        exact yr (run_load_op rfl h4 hr) rfl hR
       ·have h0 : _ = _ := dq hd 0 111
        have h1 : _ = _ := dq hd 1 112
        have h5 : _ = _ := dq hd 5 116
        refine .inl ⟨rfl, .inr ⟨_, _, run_call_op rfl (hf _) (args := #[.agg (xfL X f1 X.set.n m1 f2 X.op.m m2 (some ⟨bl, ol, none⟩) X.nl m3).toArray, .int .i64 (ii : Int), .agg (xlL (lcX (X.lf ii) k) e1 (lcX (X.lf ii) k).q.ws.length k1 e2 (lcX (X.lf ii) k).q.bs.length k2).toArray]) (by simp [h0, h1, h5]) (by kernel_rfl), ?_⟩⟩
        refine (l14Fits_any X (lcX (X.lf ii) k) ii f1 m1 f2 m2 (some ⟨bl, ol, none⟩) m3 e1 k1 e2 k2 _ (HZ.out.2.1.below (bel_nx HL.out.2.2.2 hR)) (HL.out.2.2.1.1.below (bel_nx HL.out.2.2.2 hR)) (HL.out.2.2.1.2.below (bel_nx HL.out.2.2.2 hR)) HO.out.1 HO.out.2.1 HZ.out.2.2.1 HO.out.2.2 HZ.out.2.2.2).mono ?_
        rintro e u' ⟨he, b'⟩
        exact ⟨_, he.trans (by rw [HT.out] <;> rfl), rfl, bel_nx hR b', b'⟩
       exact yr (run_un_op rfl (dq hd 6 117) (by go_simp)) rfl hR
     have hi2 : ¬ (k : Int) < (nc : Int) := by omega
     have e9 : k = (lcV (X.lf ii)).length := by have := HNC.out.1; omega
     have HK : Hid (FS X w wr (.slice av P.length ca) P (csV X.lf (ii + 1) (X.nl - (ii + 1))) /\ Blk wr G 41 (xfL X f1 X.set.n m1 f2 X.op.m m2 (some ⟨bl, ol, none⟩) X.nl m3).toArray /\ Below w.heap.size w wr /\ (∀ j, (Value.slice av P.length ca).ownBlock = some j -> w.heap.size <= j /\ j ≠ G) /\ allN (fun i => okVN (X.lf i)) (ii + 1) = true /\ P.length <= 41 * (ii + 1)) := ⟨by have := HH.1; rw [e9, sufC_end] at this; exact this, HH.2.1, HH.2.2.2.1, fun j hj => ⟨(HH.2.2.2.2.1 j hj).1, (HH.2.2.2.2.1 j hj).2.1⟩, HAL.out, by have := HH.2.2.2.2.2; omega⟩
     clear HH e9
     go_wp2
     go_roundw
     case rel => exact ⟨ii + 1, P, by omega, by go_num, HK.out⟩
     case measure => simp [intOf]; omega
   have hi : ¬ (ii : Int) < (X.nl : Int) := by omega
   have e9 : X.nl - ii = 0 := by omega
   have e8 : ii = X.nl := by omega
   have HK : Hid (allN (fun i => okVN (X.lf i)) X.nl = true /\ callsB X = decide (P.length = wtT X.op X.op.m) /\ Below w.heap.size w wr /\ okTb X.op = true) := by
    refine ⟨by rw [<- e8]; exact HH.2.2.2.2.1, ?_, HH.2.2.1, HX.out.2.2.1⟩
    have q1 := HH.1.2.1
    have q2 := HH.1.2.2
    rw [e9] at q1 q2
    rw [callsB_ft HO.out.1, q1, <- q2, len_opT]
    show (true && decide (P.length + 0 = _)) = _
    rw [Bool.true_and, Nat.add_zero]
   have HT : Hid (TbR wr X.op f2 m2) := ⟨HE.out.2.2.2.1.below HH.2.2.1, HO.out.2.2⟩
   clear HH e9 e8
   go_wp2_with fail
   refine (specWaiting_any X.op f2 m2 _ HT.out).mono ?_
   rintro e w4 ⟨rfl, b4⟩
   rw [HK.out.2.2.2]
   have B4 : Hid (Below w.heap.size w w4) := bel_nx HK.out.2.2.1 b4
   clear b4 g4 g5 g6 HT
   have HF9 : Hid (yl = true /\ yc = decide (P.length = wtT X.op X.op.m)) := ⟨by rw [<- HYC.out.2.1]; exact HK.out.1, by rw [<- HYC.out.2.2]; exact HK.out.2.1⟩
   by_cases ew : P.length = wtT X.op X.op.m
   ·have hw9 : ((P.length : Int) == (wtT X.op X.op.m : Int)) = true := by simp [ew]
    have H8 : Hid (yc = true) := by show yc = true; rw [HF9.out.2, decide_eq_true ew]
    clear ew
    go_wp2
    go_ret
    exact ⟨by rw [HF9.out.1, H8.out]; rfl, B4.out⟩
   have hw9 : ((P.length : Int) == (wtT X.op X.op.m : Int)) = false := by simp; omega
   have H8 : Hid (yc = false) := by show yc = false; rw [HF9.out.2, decide_eq_false ew]
   clear ew
   go_wp2
   go_ret
   exact ⟨by rw [HF9.out.1, H8.out]; rfl, B4.out⟩
 | false =>
  have e6 : ¬ X.nl = 6 := of_decide_eq_false HYC.out.1
  have h6 : ((X.nl : Int) != 6) = true := by simp; omega
  clear e6
  go_wp2
  go_ret
  exact ⟨rfl, B2.out⟩
def ldN (X : VF) (n : Nat) : Nat := sumN n (fun k => (lcV (X.lf k)).length)
noncomputable def ldA (X : VF) : Int := if okFb X then (ldN X X.nl : Int) else 0
theorem okFb_ls {X : VF} (h : okFb X = true) : X.nl = 6 /\ ∀ k, k < X.nl -> (lcV (X.lf k)).length <= 41 := by
 unfold okFb at h
 simp only [Bool.and_eq_true] at h
 exact okLs_q (by simp only [Bool.and_eq_true]; exact h.2.2.2.2.1)
theorem ldN_s (X : VF) (k : Nat) : ldN X (k + 1) = ldN X k + (lcV (X.lf k)).length := rfl
theorem implLoad_any (X : VF) (f1 : Option Addr) (m1 : Nat) (f2 : Option Addr) (m2 : Nat) (f3 : Option Addr) (m3 : Nat) (w : World) (h : RdL w 0 (trs (xfT X)) (xfL X f1 X.set.n m1 f2 X.op.m m2 f3 X.nl m3)) (hb : BdF X) :
 Calls prog 22 #[.agg (xfL X f1 X.set.n m1 f2 X.op.m m2 f3 X.nl m3).toArray] w fun e w' => e = .returned (.int .i64 (ldA X)) /\ Below w.heap.size w w' := by
 obtain ⟨x, hx⟩ : ∃ x, okFb X = x := ⟨_, rfl⟩
 have ha : ldA X = if x then (ldN X X.nl : Int) else 0 := by unfold ldA; rw [hx]
 rw [ha]
 obtain ⟨W, hW⟩ : ∃ W, W = w.alloc (.cells (xfL X f1 X.set.n m1 f2 X.op.m m2 f3 X.nl m3).toArray 41) := ⟨_, rfl⟩
 obtain ⟨G, hG⟩ : ∃ G, G = w.heap.size := ⟨_, rfl⟩
 have bW : Below w.heap.size w W := by rw [hW]; exact bel_alloc _ _
 have k1 : Blk W G 41 (xfL X f1 X.set.n m1 f2 X.op.m m2 f3 X.nl m3).toArray := by rw [hW, hG]; exact Blk.new _ _ _
 have HE : Hid (Below w.heap.size w W /\ Blk W G 41 (xfL X f1 X.set.n m1 f2 X.op.m m2 f3 X.nl m3).toArray /\ RdL w 0 (trs (xfT X)) (xfL X f1 X.set.n m1 f2 X.op.m m2 f3 X.nl m3) /\ BdF X /\ okFb X = x) := ⟨bW, k1, h, hb, hx⟩
 have y0 : W.cell? ⟨G, 0, none⟩ = some (.int .i64 X.nw) := k1.cell 0 rfl
 have y1 : W.cell? ⟨G, 1, none⟩ = some (.int .i64 X.set.wt) := k1.cell 1 rfl
 have y2 : W.cell? ⟨G, 2, none⟩ = some (.int .i64 X.set.tr) := k1.cell 2 rfl
 have y3 : W.cell? ⟨G, 3, none⟩ = some (.slice f1 X.set.n m1) := k1.cell 3 rfl
 have y4 : W.cell? ⟨G, 4, none⟩ = some (.int .i64 X.op.nx) := k1.cell 4 rfl
 have y5 : W.cell? ⟨G, 5, none⟩ = some (.slice f2 X.op.m m2) := k1.cell 5 rfl
 have y6 : W.cell? ⟨G, 6, none⟩ = some (.slice f3 X.nl m3) := k1.cell 6 rfl
 have y7 : W.cell? ⟨G, 7, none⟩ = some (.int .i64 X.sk) := k1.cell 7 rfl
 have y8 : W.cell? ⟨G, 8, none⟩ = some (.int .i64 X.re) := k1.cell 8 rfl
 have y9 : W.cell? ⟨G, 9, none⟩ = some (.int .i64 X.fa) := k1.cell 9 rfl
 have y10 : W.cell? ⟨G, 10, none⟩ = some (.int .i64 X.se) := k1.cell 10 rfl
 clear bW k1 h hb hx ha
 go_enter func22, ntmps22
 go_upto_region 1 with fail
 rw [<- hW, <- hG]
 clear hW hG
 try go_simp
 go_wp2_with fail
 refine (implFabricOk_any X f1 m1 f2 m2 f3 m3 _ (HE.out.2.2.1.below HE.out.1) HE.out.2.2.2.1).mono ?_
 rintro e w1 ⟨rfl, b1⟩
 rw [HE.out.2.2.2.2]
 have H1 : Hid (Below w.heap.size w w1 /\ Blk w1 G 41 (xfL X f1 X.set.n m1 f2 X.op.m m2 f3 X.nl m3).toArray) := ⟨bel_nx HE.out.1 b1, HE.out.2.1.below b1⟩
 clear b1 y0 y1 y2 y3 y4 y5 y6 y7 y8 y9 y10
 cases x with
 | false =>
  go_wp2
  go_ret
  exact ⟨rfl, H1.out.1⟩
 | true =>
 have HQ : Hid (X.nl = 6 /\ ∀ k, k < X.nl -> (lcV (X.lf k)).length <= 41) := okFb_ls HE.out.2.2.2.2
 have hn6 : X.nl <= 6 := by have := HQ.out.1; omega
 have y6 : w1.cell? ⟨G, 6, none⟩ = some (.slice f3 X.nl m3) := H1.out.2.cell 6 rfl
 go_wp2
 clear y6
 go_loopw [11, 3] (fun i n wr => ∃ k : Nat, k <= X.nl /\ i = .int .i64 k /\ n = .int .i64 (ldN X k : Int) /\ ldN X k <= 41 * k /\ Blk wr G 41 (xfL X f1 X.set.n m1 f2 X.op.m m2 f3 X.nl m3).toArray /\ Below w.heap.size w wr) (fun i _ _ => X.nl - (intOf i).toNat)
 case atStart => exact ⟨0, Nat.zero_le _, rfl, rfl, Nat.le_refl _, H1.out.2, H1.out.1⟩
 case round =>
  clear H1
  obtain ⟨k, hk, rfl, rfl, HH⟩ := hrel
  have y6 : wr.cell? ⟨G, 6, none⟩ = some (.slice f3 X.nl m3) := HH.2.1.cell 6 rfl
  by_cases hlt : k < X.nl
  ·have hi : (k : Int) < (X.nl : Int) := by omega
   obtain ⟨_, _, _, _, _, _, e9, r1, r2, r3⟩ := VF.cells HE.out.2.2.1 rfl
   simp only [List.cons.injEq, Value.slice.injEq, and_true, true_and] at e9
   obtain ⟨⟨rfl, rfl⟩, ⟨rfl, rfl⟩, ⟨rfl, rfl⟩⟩ := e9
   obtain ⟨b, off, vs, rfl, _, hb0, hlen, hr, hrd⟩ := r3.at hlt
   have HK : Hid (LnAt w b (off + k * 17) (X.lf k) /\ Below w.heap.size w wr /\ ldN X k <= 41 * k /\ Blk wr G 41 (xfL X f1 X.set.n m1 f2 X.op.m m2 (some ⟨b, off, none⟩) X.nl m3).toArray) := ⟨⟨hb0, vs, hlen, hr, hrd⟩, HH.2.2, HH.1, HH.2.1⟩
   clear hb0 hlen hr hrd r1 r2 r3 HH
   go_wp2_with fail
   refine (calls_any (X.lf k) b (off + k * 17) w _ HK.out.2.1 HK.out.1 (HE.out.2.2.2.1.2.2.2.2 k hlt).1).mono ?_
   rintro e w2 ⟨v, rfl, hC, b2⟩
   obtain ⟨av, cv, rfl, hle, _⟩ := hC
   have hq := HQ.out.2 k hlt
   have hl9 := HK.out.2.2.1
   have H2 : Hid (ldN X (k + 1) = ldN X k + (lcV (X.lf k)).length /\ Blk w2 G 41 (xfL X f1 X.set.n m1 f2 X.op.m m2 (some ⟨b, off, none⟩) X.nl m3).toArray /\ Below w.heap.size w w2) := ⟨rfl, HK.out.2.2.2.below b2, bel_nx HK.out.2.1 b2⟩
   clear b2 y6 HK
   obtain ⟨nc, hnc⟩ : ∃ n, n = (lcV (X.lf k)).length := ⟨_, rfl⟩
   rw [<- hnc] at H2 hq hle
   rw [<- hnc]
   clear hnc
   obtain ⟨sm, hsm⟩ : ∃ n, n = ldN X k := ⟨_, rfl⟩
   rw [<- hsm] at H2 hl9
   rw [<- hsm]
   clear hsm
   go_wp2
   go_roundw
   case rel => exact ⟨k + 1, by omega, by go_num, by rw [H2.out.1]; go_num, by rw [H2.out.1]; omega, H2.out.2⟩
   case measure => simp [intOf]; omega
  have hi : ¬ (k : Int) < (X.nl : Int) := by omega
  have e9 : k = X.nl := by omega
  subst e9
  have H2 : Hid (Below w.heap.size w wr) := HH.2.2
  clear HH
  go_wp2
  go_ret
  exact ⟨rfl, H2.out⟩
theorem specLoad_any (X : VF) (f1 : Option Addr) (m1 : Nat) (f2 : Option Addr) (m2 : Nat) (f3 : Option Addr) (m3 : Nat) (w : World) (h : RdL w 0 (trs (xfT X)) (xfL X f1 X.set.n m1 f2 X.op.m m2 f3 X.nl m3)) (hb : BdF X) :
 Calls prog 21 #[.agg (xfL X f1 X.set.n m1 f2 X.op.m m2 f3 X.nl m3).toArray] w fun e w' => e = .returned (.int .i64 (ldA X)) /\ Below w.heap.size w w' := by
 obtain ⟨x, hx⟩ : ∃ x, okFb X = x := ⟨_, rfl⟩
 have ha : ldA X = if x then (ldN X X.nl : Int) else 0 := by unfold ldA; rw [hx]
 rw [ha]
 obtain ⟨W, hW⟩ : ∃ W, W = w.alloc (.cells (xfL X f1 X.set.n m1 f2 X.op.m m2 f3 X.nl m3).toArray 41) := ⟨_, rfl⟩
 obtain ⟨G, hG⟩ : ∃ G, G = w.heap.size := ⟨_, rfl⟩
 have bW : Below w.heap.size w W := by rw [hW]; exact bel_alloc _ _
 have k1 : Blk W G 41 (xfL X f1 X.set.n m1 f2 X.op.m m2 f3 X.nl m3).toArray := by rw [hW, hG]; exact Blk.new _ _ _
 have HE : Hid (Below w.heap.size w W /\ Blk W G 41 (xfL X f1 X.set.n m1 f2 X.op.m m2 f3 X.nl m3).toArray /\ RdL w 0 (trs (xfT X)) (xfL X f1 X.set.n m1 f2 X.op.m m2 f3 X.nl m3) /\ BdF X /\ okFb X = x) := ⟨bW, k1, h, hb, hx⟩
 have hnl : X.nl <= 2000000 := hb.2.2.2.1
 clear bW k1 h hb hx ha
 cases x with
 | false =>
  have y0 : W.cell? ⟨G, 0, none⟩ = some (.int .i64 X.nw) := HE.out.2.1.cell 0 rfl
  have y1 : W.cell? ⟨G, 1, none⟩ = some (.int .i64 X.set.wt) := HE.out.2.1.cell 1 rfl
  have y2 : W.cell? ⟨G, 2, none⟩ = some (.int .i64 X.set.tr) := HE.out.2.1.cell 2 rfl
  have y3 : W.cell? ⟨G, 3, none⟩ = some (.slice f1 X.set.n m1) := HE.out.2.1.cell 3 rfl
  have y4 : W.cell? ⟨G, 4, none⟩ = some (.int .i64 X.op.nx) := HE.out.2.1.cell 4 rfl
  have y5 : W.cell? ⟨G, 5, none⟩ = some (.slice f2 X.op.m m2) := HE.out.2.1.cell 5 rfl
  have y6 : W.cell? ⟨G, 6, none⟩ = some (.slice f3 X.nl m3) := HE.out.2.1.cell 6 rfl
  have y7 : W.cell? ⟨G, 7, none⟩ = some (.int .i64 X.sk) := HE.out.2.1.cell 7 rfl
  have y8 : W.cell? ⟨G, 8, none⟩ = some (.int .i64 X.re) := HE.out.2.1.cell 8 rfl
  have y9 : W.cell? ⟨G, 9, none⟩ = some (.int .i64 X.fa) := HE.out.2.1.cell 9 rfl
  have y10 : W.cell? ⟨G, 10, none⟩ = some (.int .i64 X.se) := HE.out.2.1.cell 10 rfl
  go_enter func21, ntmps21
  go_upto_region 1 with fail
  rw [<- hW, <- hG]
  clear hW hG
  try go_simp
  go_wp2
  go_loopw [4, 3] (fun i n wr => i = .int .i64 0 /\ n = .int .i64 0 /\ wr = W) (fun i _ _ => 1)
  case atStart => exact ⟨rfl, rfl, rfl⟩
  case round =>
   obtain ⟨rfl, rfl, hwr⟩ := hrel
   subst hwr
   by_cases h0 : 0 < X.nl
   ·have hi : (0 : Int) < (X.nl : Int) := by omega
    go_wp2_with fail
    refine (specFabricOk_any X f1 m1 f2 m2 f3 m3 _ (HE.out.2.2.1.below HE.out.1) HE.out.2.2.2.1).mono ?_
    rintro e w1 ⟨rfl, b1⟩
    rw [HE.out.2.2.2.2]
    have H1 : Hid (Below w.heap.size w w1) := bel_nx HE.out.1 b1
    clear b1 y0 y1 y2 y3 y4 y5 y6 y7 y8 y9 y10
    go_wp2
    go_ret
    exact ⟨rfl, H1.out⟩
   have hi : ¬ (0 : Int) < (X.nl : Int) := by omega
   go_wp2
   go_ret
   exact ⟨rfl, HE.out.1⟩
 | true =>
 have HQ : Hid (X.nl = 6 /\ ∀ k, k < X.nl -> (lcV (X.lf k)).length <= 41) := okFb_ls HE.out.2.2.2.2
 have hn6 : X.nl <= 6 := by have := HQ.out.1; omega
 go_enter func21, ntmps21
 go_upto_region 1 with fail
 rw [<- hW, <- hG]
 clear hW hG
 try go_simp
 go_wp2
 go_loopw [4, 3] (fun i n wr => ∃ k : Nat, k <= X.nl /\ i = .int .i64 k /\ n = .int .i64 (ldN X k : Int) /\ ldN X k <= 41 * k /\ Blk wr G 41 (xfL X f1 X.set.n m1 f2 X.op.m m2 f3 X.nl m3).toArray /\ Below w.heap.size w wr) (fun i _ _ => X.nl - (intOf i).toNat)
 case atStart => exact ⟨0, Nat.zero_le _, rfl, rfl, Nat.le_refl _, HE.out.2.1, HE.out.1⟩
 case round =>
  obtain ⟨k, hk, rfl, rfl, HH⟩ := hrel
  have y0 : wr.cell? ⟨G, 0, none⟩ = some (.int .i64 X.nw) := HH.2.1.cell 0 rfl
  have y1 : wr.cell? ⟨G, 1, none⟩ = some (.int .i64 X.set.wt) := HH.2.1.cell 1 rfl
  have y2 : wr.cell? ⟨G, 2, none⟩ = some (.int .i64 X.set.tr) := HH.2.1.cell 2 rfl
  have y3 : wr.cell? ⟨G, 3, none⟩ = some (.slice f1 X.set.n m1) := HH.2.1.cell 3 rfl
  have y4 : wr.cell? ⟨G, 4, none⟩ = some (.int .i64 X.op.nx) := HH.2.1.cell 4 rfl
  have y5 : wr.cell? ⟨G, 5, none⟩ = some (.slice f2 X.op.m m2) := HH.2.1.cell 5 rfl
  have y6 : wr.cell? ⟨G, 6, none⟩ = some (.slice f3 X.nl m3) := HH.2.1.cell 6 rfl
  have y7 : wr.cell? ⟨G, 7, none⟩ = some (.int .i64 X.sk) := HH.2.1.cell 7 rfl
  have y8 : wr.cell? ⟨G, 8, none⟩ = some (.int .i64 X.re) := HH.2.1.cell 8 rfl
  have y9 : wr.cell? ⟨G, 9, none⟩ = some (.int .i64 X.fa) := HH.2.1.cell 9 rfl
  have y10 : wr.cell? ⟨G, 10, none⟩ = some (.int .i64 X.se) := HH.2.1.cell 10 rfl
  by_cases hlt : k < X.nl
  ·have hi : (k : Int) < (X.nl : Int) := by omega
   have H0 : Hid (ldN X k <= 41 * k /\ Blk wr G 41 (xfL X f1 X.set.n m1 f2 X.op.m m2 f3 X.nl m3).toArray /\ Below w.heap.size w wr) := HH
   clear HH
   go_wp2_with fail
   refine (specFabricOk_any X f1 m1 f2 m2 f3 m3 _ (HE.out.2.2.1.below H0.out.2.2) HE.out.2.2.2.1).mono ?_
   rintro e w1 ⟨rfl, b1⟩
   rw [HE.out.2.2.2.2]
   obtain ⟨_, _, _, _, _, _, e9, r1, r2, r3⟩ := VF.cells HE.out.2.2.1 rfl
   simp only [List.cons.injEq, Value.slice.injEq, and_true, true_and] at e9
   obtain ⟨⟨rfl, rfl⟩, ⟨rfl, rfl⟩, ⟨rfl, rfl⟩⟩ := e9
   obtain ⟨b, off, vs, rfl, _, hb0, hlen, hr, hrd⟩ := r3.at hlt
   obtain ⟨q1, d1, q2, d2, q3, d3, rfl, z1, z2, z3⟩ := VN.cells hrd hlen
   have HK : Hid (RdL w 0 (trs (xnT (X.lf k))) (xnL (X.lf k) q1 (X.lf k).nq d1 q2 (X.lf k).c.q.ws.length d2 q3 (X.lf k).c.q.bs.length d3) /\ Below w.heap.size w w1 /\ ldN X k <= 41 * k /\ Blk w1 G 41 (xfL X f1 X.set.n m1 f2 X.op.m m2 (some ⟨b, off, none⟩) X.nl m3).toArray) := ⟨hrd, bel_nx H0.out.2.2 b1, H0.out.1, H0.out.2.1.below b1⟩
   have hrw : w1.rangeAt b (off + k * 17) (xnL (X.lf k) q1 (X.lf k).nq d1 q2 (X.lf k).c.q.ws.length d2 q3 (X.lf k).c.q.bs.length d3) := rangeAt_below hr hb0 HK.out.2.1
   clear hb0 hlen hr hrd r1 r2 r3 H0 b1 z1 z2 z3 y0 y1 y2 y3 y4 y5 y6 y7 y8 y9 y10
   have y6 : w1.cell? ⟨G, 6, none⟩ = some (.slice (some ⟨b, off, none⟩) X.nl m3) := HK.out.2.2.2.cell 6 rfl
   go_wp2_with (first | (refine wpList_load_mid rfl 88 _ rfl b (off + k * 17) rfl (xnL (X.lf k) q1 (X.lf k).nq d1 q2 (X.lf k).c.q.ws.length d2 q3 (X.lf k).c.q.bs.length d3) _ hrw underlying88 rfl (by kernel_rfl) ?_) | fail)
   refine (l14Calls_any (X.lf k) q1 d1 q2 d2 q3 d3 w _ HK.out.2.1 HK.out.1 (HE.out.2.2.2.1.2.2.2.2 k hlt).1).mono ?_
   rintro e w2 ⟨v, rfl, hC, b2⟩
   obtain ⟨av, cv, rfl, hle, _⟩ := hC
   have hq := HQ.out.2 k hlt
   have hl9 := HK.out.2.2.1
   have H2 : Hid (ldN X (k + 1) = ldN X k + (lcV (X.lf k)).length /\ Blk w2 G 41 (xfL X f1 X.set.n m1 f2 X.op.m m2 (some ⟨b, off, none⟩) X.nl m3).toArray /\ Below w.heap.size w w2) := ⟨rfl, HK.out.2.2.2.below b2, bel_nx HK.out.2.1 b2⟩
   clear b2 y6 HK hrw
   obtain ⟨nc, hnc⟩ : ∃ n, n = (lcV (X.lf k)).length := ⟨_, rfl⟩
   rw [<- hnc] at H2 hq hle
   rw [<- hnc]
   clear hnc
   obtain ⟨sm, hsm⟩ : ∃ n, n = ldN X k := ⟨_, rfl⟩
   rw [<- hsm] at H2 hl9
   rw [<- hsm]
   clear hsm
   go_wp2
   go_roundw
   case rel => exact ⟨k + 1, by omega, by go_num, by rw [H2.out.1]; go_num, by rw [H2.out.1]; omega, H2.out.2⟩
   case measure => simp [intOf]; omega
  have hi : ¬ (k : Int) < (X.nl : Int) := by omega
  have e9 : k = X.nl := by omega
  subst e9
  have H2 : Hid (Below w.heap.size w wr) := HH.2.2
  clear HH
  go_wp2
  go_ret
  exact ⟨rfl, H2.out⟩
theorem VN.bdN {N : VN} (h : szT 17 (trs (xnT N)) <= 2000000) : BdN N := by
 rw [szT_xn] at h
 have h1 := list_bd (s := 9) (n := N.nq) (f := fun i => trs (xlT (N.qf i))) (N := 2000000) (by omega)
 refine ⟨h1.1, fun k hk => ?_, by omega, by omega⟩
 have := h1.2 k hk
 rw [szT_xl] at this
 exact ⟨by omega, by omega⟩
theorem VF.bdF {X : VF} (h : szT 11 (trs (xfT X)) <= 2000000) (h64 : ∀ k, k < X.set.n -> -9223372036854775808 <= (X.set.f k).sh /\ (X.set.f k).sh <= 9223372036854775807) : BdF X := by
 rw [szT_xf] at h
 have h1 := list_bd (s := 7) (n := X.set.n) (f := fun i => trs (xrT (X.set.f i))) (N := 2000000) (by omega)
 have h3 := list_bd (s := 17) (n := X.nl) (f := fun i => trs (xnT (X.lf i))) (N := 2000000) (by omega)
 exact ⟨h1.1, h64, VT.bd (by rw [szT_t]; omega), h3.1, fun k hk => VN.bdN (h3.2 k hk)⟩
end Go.Proofs.YtplaoagcedgdfaaGreat

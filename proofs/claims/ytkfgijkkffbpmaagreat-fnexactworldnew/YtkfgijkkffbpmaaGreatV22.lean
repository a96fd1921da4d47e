/- Texts that the proof needs, joined: WorldNewL. -/
import Derived.Test.YtkfgijkkffbpmaaGreatV17
import Derived.Test.YtkfgijkkffbpmaaGreatV21
set_option linter.unusedVariables false
set_option linter.unusedSimpArgs false
set_option maxHeartbeats 4000000
set_option maxRecDepth 20000
namespace Go.Proofs.YtkfgijkkffbpmaaGreat
open Go.RowKit Go.Joins
theorem run_ext_w {P : Program} {ρ : Operand -> Value} {o : Oper} {u : World} {x : Operand} {k : Nat} {vs : Array Value} {v : Value} (ho : o.op = .extract x k) (hx : ρ x = .tuple vs) (hv : vs[k]? = some v) : (execOp ρ o).run P u = .ok (.value v) u := by
 unfold execOp
 simp [ho, hx, Instr.extract, hv, go_sem]
theorem wpList_ext {P : Program} {ops : Array Oper} {rest : List Oper} {op : Oper} {a : Act} {w : World} {Q : Exit -> Act -> World -> Prop} (hgd : op.guard = none) (x : Operand) (k : Nat) (ho : op.op = .extract x k) (vs : Array Value) (hx : a.eval x = .tuple vs) (v : Value) (hv : vs[k]? = some v)
 (h : wpList P ops Q rest (a.put op.dst v) w) : wpList P ops Q (op :: rest) a w :=
 wpList_plain hgd fun K hK => by
  unfold Oper.wp
  rw [run_ext_w ho hx hv]
  exact hK _ _ h
theorem sumN_b (g : Nat -> Nat) (c : Nat) : ∀ n, (∀ k, k < n -> g k <= c) -> sumN n g <= n * c
 | 0, _ => by simp [sumN]
 | n + 1, h => by
  have := sumN_b g c n (fun k hk => h k (by omega))
  have := h n (by omega)
  simp only [sumN, Nat.add_mul, Nat.one_mul]
  omega
theorem okDv_le {X : VI} (h : okDv X = true) : X.co.length <= 64 /\ X.ip.length <= 64 /\ X.ho.length <= 64 /\ X.wd.length <= 64 := by
 unfold okDv okD at h
 rw [Bool.and_eq_true] at h
 exact of_decide_eq_true h.1
theorem okPs_sz {m : Nat} {g : Nat -> VS} (h : okPs m g = true) : (Tr.list 6 m (fun i => trs (xsT (g i)))).sz <= 8 + 8 * 256 /\ sumN m (fun i => ctVS (g i)) <= 8 * 258 := by
 unfold okPs at h
 rw [Bool.and_eq_true] at h
 have h8 := of_decide_eq_true h.1
 have h9 := alP_iff.1 h.2
 have hd : ∀ k, k < m -> okDv (g k).d = true := fun k hk => by
  have := h9 k hk
  unfold rowP at this
  simp only [Bool.and_eq_true] at this
  exact this.2.1
 have q1 := sumN_b (fun k => szT 6 (trs (xsT (g k)))) 256 m (fun k hk => by
  obtain ⟨a1, a2, a3, a4⟩ := okDv_le (hd k hk)
  show szT 6 (trs (xsT (g k))) <= 256
  rw [szT_xs]; omega)
 have q2 := sumN_b (fun i => ctVS (g i)) 258 m (fun k hk => by
  obtain ⟨a1, a2, a3, a4⟩ := okDv_le (hd k hk)
  show ctVS (g k) <= 258
  simp only [ctVS, ctVI]; omega)
 have h7 : m * 256 <= 8 * 256 := Nat.mul_le_mul_right _ h8
 have h6 : m * 258 <= 8 * 258 := Nat.mul_le_mul_right _ h8
 rw [Tr.sz_list]
 exact ⟨Nat.add_le_add h8 (Nat.le_trans q1 h7), Nat.le_trans q2 h6⟩
theorem nwW_sz (ok : Bool) (wt tr : Int) (n : Nat) (f : Nat -> Ru) (m : Nat) (g : Nat -> VS) (hn : ok = true -> n <= 24) (hp : ok = true -> okPs m g = true) : szT 15 (trs (xwT (nwW ok wt tr n f m g))) <= 1048576 /\ csVW (nwW ok wt tr n f m g) <= 1000000 := by
 obtain ⟨h1, h2⟩ := nwF_sz ok wt tr n f hn
 rw [szT_xf] at h1
 rw [szT_xw]
 cases ok
 case false =>
  refine ⟨?_, ?_⟩
  ·show (Tr.list 7 0 _).sz + (Tr.list 13 0 _).sz + (Tr.list 17 0 _).sz + (Tr.list 6 0 _).sz + (Tr.list 16 0 _).sz + (Tr.list 16 0 _).sz + (Tr.list 15 0 _).sz <= _
   simp only [Tr.sz_list, sumN]; omega
  have e9 : csVW (nwW false wt tr n f m g) = csVF (nwF false wt tr n f) + sumN 0 (fun i => ctVS (g i)) + sumN 0 (fun _ => ctVK default) + sumN 0 (fun _ => ctVR default) + sumN 0 (fun _ => ctVE default) := rfl
  rw [e9]; simp only [sumN]; omega
 obtain ⟨h3, h4⟩ := okPs_sz (hp rfl)
 have hn' := hn rfl
 have e1 : (Tr.list 7 n (fun i => trs (xrT (f i)))).sz = n := ruS_sz n f
 have e2 : (Tr.list 17 6 (fun i => trs (xnT (lnV wt tr)))).sz = 6 := by rw [Tr.sz_list, sum0 _ _ (fun k => by rw [szT_xn]; rfl)]
 refine ⟨?_, ?_⟩
 ·show (Tr.list 7 n (fun i => trs (xrT (f i)))).sz + (Tr.list 13 0 _).sz + (Tr.list 17 6 (fun i => trs (xnT (lnV wt tr)))).sz + (Tr.list 6 m (fun i => trs (xsT (g i)))).sz + (Tr.list 16 0 _).sz + (Tr.list 16 0 _).sz + (Tr.list 15 0 _).sz <= _
  rw [e1, e2]; rw [Tr.sz_list 13, Tr.sz_list 16, Tr.sz_list 16, Tr.sz_list 15]; simp only [sumN]; omega
 have e9 : csVW (nwW true wt tr n f m g) = csVF (nwF true wt tr n f) + sumN m (fun i => ctVS (g i)) + sumN 0 (fun _ => ctVK default) + sumN 0 (fun _ => ctVR default) + sumN 0 (fun _ => ctVE default) := rfl
 rw [e9]; simp only [sumN]; omega
theorem ctVS_sz (X : VS) : ctVS X <= 2 + szT 6 (trs (xsT X)) := by
 rw [szT_xs]
 simp only [ctVS, ctVI]
 omega
theorem sumN_lin2 {g h : Nat -> Nat} (hg : ∀ k, g k <= 2 + h k) : ∀ n, sumN n g <= 2 * n + sumN n h
 | 0 => by simp [sumN]
 | n + 1 => by
  have := sumN_lin2 hg n
  have := hg n
  simp only [sumN]
  omega
theorem worldNew_law (wt tr : Int) (a : Option Addr) (n cap : Nat) (f : Nat -> Ru) (m : Nat) (g : Nat -> VS) (a' : Option Addr) (cap' : Nat) (w : World) (hs : SlU w a n f) (hp : Rd w 0 (.list 6 m (fun i => trs (xsT (g i)))) (.slice a' m cap')) (h64 : ∀ k, k < n -> -9223372036854775808 <= (f k).sh /\ (f k).sh <= 9223372036854775807) (hz : n + (Tr.list 6 m (fun i => trs (xsT (g i)))).sz <= 1048576) :
 Calls Tryz.prog 6 #[.agg (cfc wt tr a n cap), .slice a' m cap'] w fun e w' => e = .returned (.bool true) /\ Below w.heap.size w w' := by
 obtain ⟨b, hb⟩ : ∃ b : Bool, b = true ↔ OkRs f n := by
  by_cases h : OkRs f n
  ·exact ⟨true, fun _ => h, fun _ => rfl⟩
  exact ⟨false, ⟨fun e => Bool.noConfusion e, fun e => absurd e h⟩⟩
 obtain ⟨ok, hok⟩ : ∃ ok, ok = (okC wt tr b && okPs m g) := ⟨_, rfl⟩
 obtain ⟨Y, hY⟩ : ∃ Y, Y = nwW (okC wt tr b && okPs m g) wt tr n f m g := ⟨_, rfl⟩
 have hns := nwW_sz (okC wt tr b && okPs m g) wt tr n f m g (fun h => by
  rw [Bool.and_eq_true] at h
  have h9 := h.1
  unfold okC at h9
  rw [Bool.and_eq_true] at h9
  exact (hb.1 h9.2).1) (fun h => by rw [Bool.and_eq_true] at h; exact h.2)
 have HY : Hid (Y = nwW (okC wt tr b && okPs m g) wt tr n f m g /\ ok = (okC wt tr b && okPs m g) /\ szT 15 (trs (xwT Y)) <= 1048576 /\ csVW Y <= 1000000 /\ (b = true ↔ OkRs f n) /\ n <= 1048576 /\ n <= 2000000 /\ (Tr.list 6 m (fun i => trs (xsT (g i)))).sz <= 1048576) := ⟨hY, hok, by rw [hY]; exact hns.1, by rw [hY]; exact hns.2, hb, by omega, by omega, by omega⟩
 have H64 : Hid (∀ k, k < n -> -9223372036854775808 <= (f k).sh /\ (f k).sh <= 9223372036854775807) := h64
 obtain ⟨f1, hf1⟩ : ∃ f : Nat, f = 1048576 - n := ⟨_, rfl⟩
 obtain ⟨f2, hf2⟩ : ∃ f : Nat, f = f1 - (Tr.list 6 m (fun i => trs (xsT (g i)))).sz := ⟨_, rfl⟩
 have HF : Hid (lfT f1 (Tr.list 6 m (fun i => trs (xsT (g i)))).sz = (f2 : Int) /\ f1 <= 1048576) := ⟨by unfold lfT; rw [if_pos (by omega)]; omega, by omega⟩
 have n1 : ¬ ((f1 : Int) < 0) := by omega
 have n2 : ¬ ((f2 : Int) < 0) := by omega
 have hl : n <= 1048576 := by omega
 obtain ⟨BA, hBA⟩ : ∃ B, B = w.heap.size := ⟨_, rfl⟩
 obtain ⟨W, hW⟩ : ∃ W, W = w.alloc (.cells (cfc wt tr a n cap) 24) := ⟨_, rfl⟩
 have HBA : Hid (BA = w.heap.size) := hBA
 have HP : Hid (Rd w 0 (.list 6 m (fun i => trs (xsT (g i)))) (.slice a' m cap')) := hp
 have HS := hide hs
 have G0 : Hid (Below w.heap.size w W /\ Blk W BA 24 (cfc wt tr a n cap)) := ⟨by rw [hW]; exact bel_alloc _ _, by rw [hW, hBA]; exact Blk.new _ _ _⟩
 clear hb h64 hs hp hns hok hY hz hf2
 go_enter Tryz.func6, Tryz.ntmps6
 go_upto_region 1 with fail
 rw [<- hW, <- hBA]
 clear hW hBA
 obtain ⟨⟨y0, y1, y2⟩, _⟩ := G0.out.2.thr
 go_wp2_with fail
 refine (szConfig_fits wt tr a n cap _ hl).mono ?_
 rintro e w1 ⟨rfl, bb⟩
 rw [<- hf1]
 have G1 : Hid (Below w.heap.size w w1 /\ Blk w1 BA 24 (cfc wt tr a n cap)) := ⟨bel_nx (G0.out.1) bb, (G0.out.2).below bb⟩
 clear G0
 clear bb y0 y1 y2 hf1
 go_wp2_with fail
 refine (szPostS_t m g a' m cap' f1 _ (HP.out.below (G1.out.1)) HF.out.2).mono ?_
 rintro e w2 ⟨rfl, bb⟩
 rw [HF.out.1]
 have G2 : Hid (Below w.heap.size w w2 /\ Blk w2 BA 24 (cfc wt tr a n cap)) := ⟨bel_nx (G1.out.1) bb, (G1.out.2).below bb⟩
 clear G1
 clear bb
 obtain ⟨⟨y0, y1, y2⟩, _⟩ := (G2.out.2).thr
 go_wp2_with fail
 refine (toConfig_any wt tr a n cap f _ (SlS.below HS.out (G2.out.1)) HY.out.2.2.2.2.2.2.1).mono ?_
 rintro e w3 ⟨g1, rfl, R3, _, bb⟩
 have SS : Hid (SlU w3 (some ⟨g1, 0, none⟩) n f) := R3.sl
 have G3 : Hid (Below w.heap.size w w3 /\ Blk w3 BA 24 (cfc wt tr a n cap)) := ⟨bel_nx (G2.out.1) bb, (G2.out.2).below bb⟩
 clear G2
 clear bb y0 y1 y2 R3
 go_wp2_with fail
 refine (toPostS_m m g a' m cap' _ (HP.out.below (G3.out.1)) HY.out.2.2.2.2.2.2.2).mono ?_
 rintro e w4 ⟨s1, s2, rfl, o4, bb⟩
 have R4 : Hid (Rd w4 0 (.list 6 m (fun i => trs (xsT (g i)))) (.slice s1 m s2) /\ SlU w4 (some ⟨g1, 0, none⟩) n f) := ⟨o4.rd.mono (Nat.zero_le _), SlS.below SS.out bb⟩
 have G4 : Hid (Below w.heap.size w w4 /\ Blk w4 BA 24 (cfc wt tr a n cap)) := ⟨bel_nx (G3.out.1) bb, (G3.out.2).below bb⟩
 clear G3
 clear bb o4 SS
 go_wp2_with fail
 refine (specWorldNew_any wt tr _ n n f _ R4.out.2 HY.out.2.2.2.2.2.1 b HY.out.2.2.2.2.1 m g s1 s2 R4.out.1 HY.out.2.2.2.2.2.2.2).mono ?_
 intro e w5 h5
 obtain ⟨p1, d1, p2, d2, p3, d3, p4, d4, p5, d5, p6, d6, p7, d7, rfl, r1, r2, r3, r4, r5, r6, r7, b'⟩ := h5
 rw [<- HY.out.1] at r1 r2 r3 r4 r5 r6 r7 ⊢
 rw [<- HY.out.2.1]
 obtain ⟨W5, hW5⟩ : ∃ W, W = setL (w5.alloc (.cells (#[.int .i64 0, .int .i64 0, .int .i64 0, .slice none 0 0, .int .i64 0, .slice none 0 0, .slice none 0 0, .int .i64 0, .int .i64 0, .int .i64 0, .int .i64 0, .slice none 0 0, .slice none 0 0, .slice none 0 0, .slice none 0 0] : Array Value) 62)) w5.heap.size 0 (xwL Y p1 Y.fb.set.n d1 p2 Y.fb.op.m d2 p3 Y.fb.nl d3 p4 Y.ns d4 p5 Y.nk d5 p6 Y.nr d6 p7 Y.ne d7) := ⟨_, rfl⟩
 obtain ⟨B1, hB1⟩ : ∃ B, B = w5.heap.size := ⟨_, rfl⟩
 have bW : Below w5.heap.size w5 W5 := by rw [hW5]; exact setL_below (Nat.le_refl _) _ _ _ (bel_alloc _ _)
 have K1 : Blk W5 B1 62 (xwL Y p1 Y.fb.set.n d1 p2 Y.fb.op.m d2 p3 Y.fb.nl d3 p4 Y.ns d4 p5 Y.nk d5 p6 Y.nr d6 p7 Y.ne d7).toArray := by
  rw [hW5, hB1]
  have := Blk.stL (xwL Y p1 Y.fb.set.n d1 p2 Y.fb.op.m d2 p3 Y.fb.nl d3 p4 Y.ns d4 p5 Y.nk d5 p6 Y.nr d6 p7 Y.ne d7) 0 (Blk.new w5 (#[.int .i64 0, .int .i64 0, .int .i64 0, .slice none 0 0, .int .i64 0, .slice none 0 0, .slice none 0 0, .int .i64 0, .int .i64 0, .int .i64 0, .int .i64 0, .slice none 0 0, .slice none 0 0, .slice none 0 0, .slice none 0 0] : Array Value) 62)
  rw [wrW _ rfl] at this
  exact this
 have sW5 : W5.heap.size = w5.heap.size + 1 := by rw [hW5, setL_size]; simp
 have bb := bel_nx b' bW
 have RS : Hid (Rd w5 0 (.list 7 Y.fb.set.n (fun i => trs (xrT (Y.fb.set.f i)))) (.slice p1 Y.fb.set.n d1) /\ Rd w5 0 (.list 13 Y.fb.op.m (fun i => trs (dT (Y.fb.op.f i)))) (.slice p2 Y.fb.op.m d2) /\ Rd w5 0 (.list 17 Y.fb.nl (fun i => trs (xnT (Y.fb.lf i)))) (.slice p3 Y.fb.nl d3) /\ Rd w5 0 (.list 6 Y.ns (fun i => trs (xsT (Y.sf i)))) (.slice p4 Y.ns d4) /\ Rd w5 0 (.list 16 Y.nk (fun i => trs (xkT (Y.kf i)))) (.slice p5 Y.nk d5) /\ Rd w5 0 (.list 16 Y.nr (fun i => trs (xyT (Y.rf i)))) (.slice p6 Y.nr d6) /\ Rd w5 0 (.list 15 Y.ne (fun i => trs (xeT (Y.ef i)))) (.slice p7 Y.ne d7)) := ⟨r1, r2, r3, r4, r5, r6, r7⟩
 have NR : Hid (BA < B1 /\ B1 + 1 = W5.heap.size /\ BA = w.heap.size /\ w5.heap.size <= W5.heap.size) := ⟨by have h8 := (G4.out.2).lt; have := b'.size; omega, by omega, HBA.out, by omega⟩
 have G5 : Hid (Below w.heap.size w W5 /\ Blk W5 BA 24 (cfc wt tr a n cap) /\ Below w5.heap.size w5 W5 /\ Blk W5 B1 62 (xwL Y p1 Y.fb.set.n d1 p2 Y.fb.op.m d2 p3 Y.fb.nl d3 p4 Y.ns d4 p5 Y.nk d5 p6 Y.nr d6 p7 Y.ne d7).toArray) := ⟨bel_nx (G4.out.1) bb, (G4.out.2).below bb, bW, K1⟩
 clear G4
 clear b' bW K1 bb sW5 r1 r2 r3 r4 r5 r6 r7 R4
 rename_i hK
 refine hK _ _ ?_
 clear hK
 refine wpList_move_any rfl (.tmp 32) rfl (.tuple #[.agg (xwL Y p1 Y.fb.set.n d1 p2 Y.fb.op.m d2 p3 Y.fb.nl d3 p4 Y.ns d4 p5 Y.nk d5 p6 Y.nr d6 p7 Y.ne d7).toArray, .bool ok]) rfl ?_
 refine wpList_ext rfl (.tmp 27) 0 rfl #[.agg (xwL Y p1 Y.fb.set.n d1 p2 Y.fb.op.m d2 p3 Y.fb.nl d3 p4 Y.ns d4 p5 Y.nk d5 p6 Y.nr d6 p7 Y.ne d7).toArray, .bool ok] rfl (.agg (xwL Y p1 Y.fb.set.n d1 p2 Y.fb.op.m d2 p3 Y.fb.nl d3 p4 Y.ns d4 p5 Y.nk d5 p6 Y.nr d6 p7 Y.ne d7).toArray) rfl ?_
 refine wpList_ext rfl (.tmp 27) 1 rfl #[.agg (xwL Y p1 Y.fb.set.n d1 p2 Y.fb.op.m d2 p3 Y.fb.nl d3 p4 Y.ns d4 p5 Y.nk d5 p6 Y.nr d6 p7 Y.ne d7).toArray, .bool ok] rfl (.bool ok) rfl ?_
 refine wpList_alloc_any rfl 62 rfl (#[.int .i64 0, .int .i64 0, .int .i64 0, .slice none 0 0, .int .i64 0, .slice none 0 0, .slice none 0 0, .int .i64 0, .int .i64 0, .int .i64 0, .int .i64 0, .slice none 0 0, .slice none 0 0, .slice none 0 0, .slice none 0 0] : Array Value) 15 232 (by kernel_rfl) ?_
 refine wpList_store_mid rfl 62 (.tmp 6) (.tmp 33) rfl w5.heap.size 0 (xwL Y p1 Y.fb.set.n d1 p2 Y.fb.op.m d2 p3 Y.fb.nl d3 p4 Y.ns d4 p5 Y.nk d5 p6 Y.nr d6 p7 Y.ne d7).toArray rfl rfl ((Blk.new w5 (#[.int .i64 0, .int .i64 0, .int .i64 0, .slice none 0 0, .int .i64 0, .slice none 0 0, .slice none 0 0, .int .i64 0, .int .i64 0, .int .i64 0, .int .i64 0, .slice none 0 0, .slice none 0 0, .slice none 0 0, .slice none 0 0] : Array Value) 62).there 0 15 (by simp)) (by kernel_rfl) (by simp [Value.oneCell']) ?_
 rw [setCells_L, <- hW5, <- hB1]
 clear hW5 hB1
 obtain ⟨⟨y0, y1, y2⟩, _⟩ := (G5.out.2.1).thr
 go_wp2_with fail
 refine (toConfig_any wt tr a n cap f _ (SlS.below HS.out (G5.out.1)) HY.out.2.2.2.2.2.2.1).mono ?_
 rintro e w6 ⟨g4, rfl, R6, hg4, b'⟩
 clear y0 y1 y2
 obtain ⟨lx, hlx⟩ : ∃ l, l = W5.heap.size := ⟨_, rfl⟩
 obtain ⟨hx, hhx⟩ : ∃ l, l = w6.heap.size := ⟨_, rfl⟩
 have O6 : Own1 w6 lx hx (xcT (⟨wt, tr, n, f⟩ : VC)) (xcL (⟨wt, tr, n, f⟩ : VC) (some ⟨g4, 0, none⟩) n n) := by
  have h9 := Own1.one (RowU.own R6 (lo := lx) (by omega) (by have := HY.out.2.2.2.2.2.2.1; unfold maxLen; omega) (Nat.le_refl n))
  have h8 := (h9.leaf (.int .i64 tr) (by have := R6.lt; omega)).leaf (.int .i64 wt) (by have := R6.lt; omega)
  rw [hhx]
  exact h8
 obtain ⟨W6, hW6⟩ : ∃ W, W = w6.alloc (.cells (cfc wt tr (some ⟨g4, 0, none⟩) n n) 35) := ⟨_, rfl⟩
 have bW : Below w6.heap.size w6 W6 := by rw [hW6]; exact bel_alloc _ _
 have bb := bel_nx b' bW
 have NX : Hid (lx = B1 + 1 /\ lx <= hx /\ hx + 1 = W6.heap.size /\ hx = w6.heap.size) := ⟨by have := NR.out; omega, by have := b'.size; omega, by rw [hW6, hhx]; simp, hhx⟩
 have G6 : Hid (Below w.heap.size w W6 /\ Blk W6 BA 24 (cfc wt tr a n cap) /\ Below w5.heap.size w5 W6 /\ Blk W6 B1 62 (xwL Y p1 Y.fb.set.n d1 p2 Y.fb.op.m d2 p3 Y.fb.nl d3 p4 Y.ns d4 p5 Y.nk d5 p6 Y.nr d6 p7 Y.ne d7).toArray /\ Blk W6 hx 35 (cfc wt tr (some ⟨g4, 0, none⟩) n n) /\ Own1 W6 lx hx (xcT (⟨wt, tr, n, f⟩ : VC)) (xcL (⟨wt, tr, n, f⟩ : VC) (some ⟨g4, 0, none⟩) n n)) := ⟨bel_nx (G5.out.1) bb, (G5.out.2.1).below bb, bel_nx (G5.out.2.2.1) bb, (G5.out.2.2.2).below bb, by rw [hW6, hhx]; exact Blk.new _ _ _, by rw [hhx] at O6 ⊢; exact O6.below bW (Nat.le_refl _)⟩
 clear G5
 clear b' bW bb O6 R6 hg4 hlx
 go_upto_region 10 with fail
 rw [<- hW6, <- hhx]
 clear hW6 hhx
 go_wp2_with fail
 refine (toPostS_m m g a' m cap' _ (HP.out.below (G6.out.1)) HY.out.2.2.2.2.2.2.2).mono ?_
 rintro e w7 ⟨s3, s4, rfl, ⟨Kx, Fx, okx, lox⟩, bb⟩
 obtain ⟨lg, hlg⟩ : ∃ l, l = w7.heap.size := ⟨_, rfl⟩
 have NK : Hid (∀ b, Kx.bl b -> hx + 1 <= b /\ b < lg) := fun b hb => by have q1 := lox b hb; have q2 := Fx.lt hb; have := NX.out; omega
 have NKo : Hid Kx.ok := okx
 have NL : Hid (hx + 1 <= lg /\ lg = w7.heap.size) := ⟨by have := NX.out; have := bb.size; omega, hlg⟩
 have G7 : Hid (Below w.heap.size w w7 /\ Blk w7 BA 24 (cfc wt tr a n cap) /\ Below w5.heap.size w5 w7 /\ Blk w7 B1 62 (xwL Y p1 Y.fb.set.n d1 p2 Y.fb.op.m d2 p3 Y.fb.nl d3 p4 Y.ns d4 p5 Y.nk d5 p6 Y.nr d6 p7 Y.ne d7).toArray /\ Blk w7 hx 35 (cfc wt tr (some ⟨g4, 0, none⟩) n n) /\ Own1 w7 lx hx (xcT (⟨wt, tr, n, f⟩ : VC)) (xcL (⟨wt, tr, n, f⟩ : VC) (some ⟨g4, 0, none⟩) n n) /\ Fit w7 (.list 6 m (fun i => trs (xsT (g i)))) Kx (.slice s3 m s4)) := ⟨bel_nx (G6.out.1) bb, (G6.out.2.1).below bb, bel_nx (G6.out.2.2.1) bb, (G6.out.2.2.2.1).below bb, (G6.out.2.2.2.2.1).below bb, (G6.out.2.2.2.2.2).below bb (by have := NX.out; have := NL.out; omega), Fx⟩
 clear G6
 clear bb Fx okx lox hlg
 obtain ⟨⟨y0, y1, y2⟩, _⟩ := (G7.out.2.2.2.2.1).thr
 go_wp2_with fail
 refine (implWorldNew_any wt tr _ n n f _ ((G7.out.2.2.2.2.2.1).rd0 2 _ rfl).slu.2 HY.out.2.2.2.2.2.1 H64.out b HY.out.2.2.2.2.1 m g s3 s4 ((G7.out.2.2.2.2.2.2).rd (fun _ _ => Nat.zero_le _)) HY.out.2.2.2.2.2.2.2).mono ?_
 intro e w8 h8
 obtain ⟨q1, e1, q2, e2, q3, e3, q4, e4, q5, e5, q6, e6, q7, e7, rfl, O8, b'⟩ := h8
 rw [<- HY.out.1] at O8 ⊢
 rw [<- HY.out.2.1]
 clear y0 y1 y2
 obtain ⟨W8, hW8⟩ : ∃ W, W = setL (w8.alloc (.cells (#[.int .i64 0, .int .i64 0, .int .i64 0, .slice none 0 0, .int .i64 0, .slice none 0 0, .slice none 0 0, .int .i64 0, .int .i64 0, .int .i64 0, .int .i64 0, .slice none 0 0, .slice none 0 0, .slice none 0 0, .slice none 0 0] : Array Value) 62)) w8.heap.size 0 (xwL Y q1 Y.fb.set.n e1 q2 Y.fb.op.m e2 q3 Y.fb.nl e3 q4 Y.ns e4 q5 Y.nk e5 q6 Y.nr e6 q7 Y.ne e7) := ⟨_, rfl⟩
 obtain ⟨B2, hB2⟩ : ∃ B, B = w8.heap.size := ⟨_, rfl⟩
 have bW : Below w8.heap.size w8 W8 := by rw [hW8]; exact setL_below (Nat.le_refl _) _ _ _ (bel_alloc _ _)
 have K2 : Blk W8 B2 62 (xwL Y q1 Y.fb.set.n e1 q2 Y.fb.op.m e2 q3 Y.fb.nl e3 q4 Y.ns e4 q5 Y.nk e5 q6 Y.nr e6 q7 Y.ne e7).toArray := by
  rw [hW8, hB2]
  have := Blk.stL (xwL Y q1 Y.fb.set.n e1 q2 Y.fb.op.m e2 q3 Y.fb.nl e3 q4 Y.ns e4 q5 Y.nk e5 q6 Y.nr e6 q7 Y.ne e7) 0 (Blk.new w8 (#[.int .i64 0, .int .i64 0, .int .i64 0, .slice none 0 0, .int .i64 0, .slice none 0 0, .slice none 0 0, .int .i64 0, .int .i64 0, .int .i64 0, .int .i64 0, .slice none 0 0, .slice none 0 0, .slice none 0 0, .slice none 0 0] : Array Value) 62)
  rw [wrW _ rfl] at this
  exact this
 have sW8 : W8.heap.size = w8.heap.size + 1 := by rw [hW8, setL_size]; simp
 have bb := bel_nx b' bW
 have NUM : Hid (BA = w.heap.size /\ BA < B1 /\ B1 + 1 = lx /\ lx <= hx /\ hx + 1 <= lg /\ lg <= B2 /\ B1 + 1 = W5.heap.size /\ w5.heap.size <= W5.heap.size) := ⟨NR.out.2.2.1, NR.out.1, by have := NX.out; omega, NX.out.2.1, NL.out.1, by have := b'.size; have := NL.out; omega, NR.out.2.1, NR.out.2.2.2⟩
 have G8 : Hid (Below w.heap.size w W8 /\ Blk W8 BA 24 (cfc wt tr a n cap) /\ Below w5.heap.size w5 W8 /\ Blk W8 B1 62 (xwL Y p1 Y.fb.set.n d1 p2 Y.fb.op.m d2 p3 Y.fb.nl d3 p4 Y.ns d4 p5 Y.nk d5 p6 Y.nr d6 p7 Y.ne d7).toArray /\ Blk W8 hx 35 (cfc wt tr (some ⟨g4, 0, none⟩) n n) /\ Own1 W8 lx hx (xcT (⟨wt, tr, n, f⟩ : VC)) (xcL (⟨wt, tr, n, f⟩ : VC) (some ⟨g4, 0, none⟩) n n) /\ Fit W8 (.list 6 m (fun i => trs (xsT (g i)))) Kx (.slice s3 m s4) /\ Blk W8 B2 62 (xwL Y q1 Y.fb.set.n e1 q2 Y.fb.op.m e2 q3 Y.fb.nl e3 q4 Y.ns e4 q5 Y.nk e5 q6 Y.nr e6 q7 Y.ne e7).toArray /\ Own1 W8 lg B2 (xwT Y) (xwL Y q1 Y.fb.set.n e1 q2 Y.fb.op.m e2 q3 Y.fb.nl e3 q4 Y.ns e4 q5 Y.nk e5 q6 Y.nr e6 q7 Y.ne e7) /\ B2 < W8.heap.size) := ⟨bel_nx (G7.out.1) bb, (G7.out.2.1).below bb, bel_nx (G7.out.2.2.1) bb, (G7.out.2.2.2.1).below bb, (G7.out.2.2.2.2.1).below bb, (G7.out.2.2.2.2.2.1).below bb (by have := NUM.out; have := NL.out; omega), (G7.out.2.2.2.2.2.2).below bb, K2, by rw [hB2, NL.out.2]; exact O8.below bW (Nat.le_refl _), by omega⟩
 clear G7
 clear b' bW K2 bb sW8 O8 NX
 rename_i hK
 refine hK _ _ ?_
 clear hK
 refine wpList_move_any rfl (.tmp 42) rfl (.tuple #[.agg (xwL Y q1 Y.fb.set.n e1 q2 Y.fb.op.m e2 q3 Y.fb.nl e3 q4 Y.ns e4 q5 Y.nk e5 q6 Y.nr e6 q7 Y.ne e7).toArray, .bool ok]) rfl ?_
 refine wpList_ext rfl (.tmp 39) 0 rfl #[.agg (xwL Y q1 Y.fb.set.n e1 q2 Y.fb.op.m e2 q3 Y.fb.nl e3 q4 Y.ns e4 q5 Y.nk e5 q6 Y.nr e6 q7 Y.ne e7).toArray, .bool ok] rfl (.agg (xwL Y q1 Y.fb.set.n e1 q2 Y.fb.op.m e2 q3 Y.fb.nl e3 q4 Y.ns e4 q5 Y.nk e5 q6 Y.nr e6 q7 Y.ne e7).toArray) rfl ?_
 refine wpList_ext rfl (.tmp 39) 1 rfl #[.agg (xwL Y q1 Y.fb.set.n e1 q2 Y.fb.op.m e2 q3 Y.fb.nl e3 q4 Y.ns e4 q5 Y.nk e5 q6 Y.nr e6 q7 Y.ne e7).toArray, .bool ok] rfl (.bool ok) rfl ?_
 refine wpList_alloc_any rfl 62 rfl (#[.int .i64 0, .int .i64 0, .int .i64 0, .slice none 0 0, .int .i64 0, .slice none 0 0, .slice none 0 0, .int .i64 0, .int .i64 0, .int .i64 0, .int .i64 0, .slice none 0 0, .slice none 0 0, .slice none 0 0, .slice none 0 0] : Array Value) 15 232 (by kernel_rfl) ?_
 refine wpList_store_mid rfl 62 (.tmp 10) (.tmp 43) rfl w8.heap.size 0 (xwL Y q1 Y.fb.set.n e1 q2 Y.fb.op.m e2 q3 Y.fb.nl e3 q4 Y.ns e4 q5 Y.nk e5 q6 Y.nr e6 q7 Y.ne e7).toArray rfl rfl ((Blk.new w8 (#[.int .i64 0, .int .i64 0, .int .i64 0, .slice none 0 0, .int .i64 0, .slice none 0 0, .slice none 0 0, .int .i64 0, .int .i64 0, .int .i64 0, .int .i64 0, .slice none 0 0, .slice none 0 0, .slice none 0 0, .slice none 0 0] : Array Value) 62).there 0 15 (by simp)) (by kernel_rfl) (by simp [Value.oneCell']) ?_
 rw [setCells_L, <- hW8, <- hB2]
 clear hW8 hB2
 have mo : (ok != ok) = false := by simp
 go_upto_region 12 with fail
 refine wp_region_lit ?_
 refine wpList_load_mid rfl 62 (.tmp 10) rfl B2 0 rfl (xwL Y q1 Y.fb.set.n e1 q2 Y.fb.op.m e2 q3 Y.fb.nl e3 q4 Y.ns e4 q5 Y.nk e5 q6 Y.nr e6 q7 Y.ne e7) _ (G8.out.2.2.2.2.2.2.2.1).all Tryz.underlying62 rfl (by kernel_rfl) ?_
 refine wpList_load_mid rfl 62 (.tmp 6) rfl B1 0 rfl (xwL Y p1 Y.fb.set.n d1 p2 Y.fb.op.m d2 p3 Y.fb.nl d3 p4 Y.ns d4 p5 Y.nk d5 p6 Y.nr d6 p7 Y.ne d7) _ (G8.out.2.2.2.1).all Tryz.underlying62 rfl (by kernel_rfl) ?_
 go_wp2_with fail
 refine (eqWorld_o Y q1 _ e1 q2 _ e2 q3 _ e3 q4 _ e4 q5 _ e5 q6 _ e6 q7 _ e7 p1 d1 p2 d2 p3 d3 p4 d4 p5 d5 p6 d6 p7 d7 lg B2 _ (G8.out.2.2.2.2.2.2.2.2.1) (RS.out.1.below (G8.out.2.2.1)) (RS.out.2.1.below (G8.out.2.2.1)) (RS.out.2.2.1.below (G8.out.2.2.1)) (RS.out.2.2.2.1.below (G8.out.2.2.1)) (RS.out.2.2.2.2.1.below (G8.out.2.2.1)) (RS.out.2.2.2.2.2.1.below (G8.out.2.2.1)) (RS.out.2.2.2.2.2.2.below (G8.out.2.2.1)) HY.out.2.2.1).mono ?_
 rintro e w9 ⟨rfl, bb⟩
 have G9 : Hid (Below w.heap.size w w9 /\ Blk w9 BA 24 (cfc wt tr a n cap) /\ Below w5.heap.size w5 w9 /\ Blk w9 B1 62 (xwL Y p1 Y.fb.set.n d1 p2 Y.fb.op.m d2 p3 Y.fb.nl d3 p4 Y.ns d4 p5 Y.nk d5 p6 Y.nr d6 p7 Y.ne d7).toArray /\ Blk w9 hx 35 (cfc wt tr (some ⟨g4, 0, none⟩) n n) /\ Own1 w9 lx hx (xcT (⟨wt, tr, n, f⟩ : VC)) (xcL (⟨wt, tr, n, f⟩ : VC) (some ⟨g4, 0, none⟩) n n) /\ Fit w9 (.list 6 m (fun i => trs (xsT (g i)))) Kx (.slice s3 m s4) /\ Blk w9 B2 62 (xwL Y q1 Y.fb.set.n e1 q2 Y.fb.op.m e2 q3 Y.fb.nl e3 q4 Y.ns e4 q5 Y.nk e5 q6 Y.nr e6 q7 Y.ne e7).toArray /\ Own1 w9 lg B2 (xwT Y) (xwL Y q1 Y.fb.set.n e1 q2 Y.fb.op.m e2 q3 Y.fb.nl e3 q4 Y.ns e4 q5 Y.nk e5 q6 Y.nr e6 q7 Y.ne e7) /\ B2 < w9.heap.size) := ⟨bel_nx (G8.out.1) bb, (G8.out.2.1).below bb, bel_nx (G8.out.2.2.1) bb, (G8.out.2.2.2.1).below bb, (G8.out.2.2.2.2.1).below bb, (G8.out.2.2.2.2.2.1).below bb (by have := NUM.out; have := G8.out.2.2.2.2.2.2.2.2.2; omega), (G8.out.2.2.2.2.2.2.1).below bb, (G8.out.2.2.2.2.2.2.2.1).below bb, (G8.out.2.2.2.2.2.2.2.2.1).below bb (by have := NUM.out; have := G8.out.2.2.2.2.2.2.2.2.2; omega), (by have := G8.out.2.2.2.2.2.2.2.2.2; have := (bb).size; omega)⟩
 clear G8
 clear bb
 have HSX : Hid (SlU w9 (some ⟨g4, 0, none⟩) n f) := ((G9.out.2.2.2.2.2.1).rd0 2 _ rfl).slu.2
 go_upto_region 14 with fail
 try go_simp
 refine wp_region_any (by kernel_rfl) ?_
 refine wpAny_vals (fun u => Below w9.heap.size w9 u) (fun i v u => match i with
  | 0 => v = .agg (cfc wt tr (some ⟨g4, 0, none⟩) n n)
  | 1 => v = .agg (cfc wt tr a n cap)
  | 2 => ∃ g, v = .agg (cfc wt tr (some ⟨g, 0, none⟩) n n) /\ RowU u g n f
  | 3 => v = .bool true
  | 4 => v = .bool false
  | _ => True) (by kernel_rfl) (by kernel_rfl) ?_ (by first | exact Below.refl _ _ | exact (Below.refl _ _).drew) ?_ ?_ _ _ rfl (by decide) (fun i => by simp [Array.getD]; try (split <;> rfl))
 ·intro i v u u' h hb
  match i, h with
  | 0, h => exact h
  | 1, h => exact h
  | 2, ⟨g, e, r⟩ => exact ⟨g, e, RowS.below r hb⟩
  | 3, h => exact h
  | 4, h => exact h
  | _ + 5, _ => trivial
 rotate_left
 ·intro u i o ρ hR ho hρ hc hf hd
  have hi : i < 5 := by
   have := (Array.getElem?_eq_some_iff.1 ho).1
   simpa using this
  obtain rfl | rfl | rfl | rfl | rfl : i = 0 \/ i = 1 \/ i = 2 \/ i = 3 \/ i = 4 := by omega
  all_goals (simp only [List.getElem?_toArray, List.getElem?_cons_zero, List.getElem?_cons_succ, Option.some.injEq] at ho; subst ho)
  ·have s0 : ρ (.tmp 8) = .pointer (some ⟨hx, 0, none⟩) := (hρ 8 (by kernel_rfl)).trans rfl
   exact .inl ⟨rfl, .inl ⟨_, u, run_load_op rfl s0 (run_loadAt_mid u hx 0 35 ((cfc wt tr (some ⟨g4, 0, none⟩) n n)).toList _ ((G9.out.2.2.2.2.1).below hR).all Tryz.underlying35 rfl (by kernel_rfl)), rfl, hR, Below.refl _ _⟩⟩
  ·have s0 : ρ (.tmp 2) = .pointer (some ⟨BA, 0, none⟩) := (hρ 2 (by kernel_rfl)).trans rfl
   exact .inl ⟨rfl, .inl ⟨_, u, run_load_op rfl s0 (run_loadAt_mid u BA 0 24 ((cfc wt tr a n cap)).toList _ ((G9.out.2.1).below hR).all Tryz.underlying24 rfl (by kernel_rfl)), rfl, hR, Below.refl _ _⟩⟩
  ·have h1 : ρ (.tmp 55) = .agg (cfc wt tr a n cap) := hd ⟨1, .data⟩ (by simp) rfl 55 rfl
   refine .inl ⟨rfl, .inr ⟨_, _, run_call_op rfl (hf _) (args := #[.agg (cfc wt tr a n cap)]) (by simp [h1]) (by kernel_rfl), ?_⟩⟩
   refine (toConfig_any wt tr a n cap f _ (SlS.below HS.out (bel_nx (G9.out.1) hR)) HY.out.2.2.2.2.2.2.1).mono ?_
   rintro e u' ⟨g, he, r, _, b'⟩
   exact ⟨_, he, ⟨g, rfl, r⟩, bel_nx hR b', b'⟩
  ·have h0 : ρ (.tmp 54) = .agg (cfc wt tr (some ⟨g4, 0, none⟩) n n) := hd ⟨0, .data⟩ (by simp) rfl 54 rfl
   obtain ⟨g, h2, r2⟩ : ∃ g, ρ (.tmp 56) = .agg (cfc wt tr (some ⟨g, 0, none⟩) n n) /\ RowU u g n f := hd ⟨2, .data⟩ (by simp) rfl 56 rfl
   refine .inl ⟨rfl, .inr ⟨_, _, run_call_op rfl (hf _) (args := #[.agg (cfc wt tr (some ⟨g4, 0, none⟩) n n), .agg (cfc wt tr (some ⟨g, 0, none⟩) n n)]) (by simp [h0, h2]) (by kernel_rfl), ?_⟩⟩
   refine (eqConfig_true wt tr _ _ n n n f _ (SlS.below HSX.out hR) r2.sl HY.out.2.2.2.2.2.2.1).mono ?_
   rintro e u' ⟨he, b'⟩
   exact ⟨_, he, rfl, bel_nx hR b', b'⟩
  have h3 : ρ (.tmp 57) = .bool true := hd ⟨3, .data⟩ (by simp) rfl 57 rfl
  exact .inl ⟨rfl, .inl ⟨.bool false, u, run_un_op rfl h3 rfl, rfl, hR, Below.refl _ _⟩⟩
 intro vs w10 bb hall
 have ez4 : vs 4 = .bool false := hall 4 (by simp)
 simp only [putsL]
 rw [ez4]
 have G10 : Hid (Below w.heap.size w w10 /\ Blk w10 BA 24 (cfc wt tr a n cap) /\ Below w5.heap.size w5 w10 /\ Blk w10 B1 62 (xwL Y p1 Y.fb.set.n d1 p2 Y.fb.op.m d2 p3 Y.fb.nl d3 p4 Y.ns d4 p5 Y.nk d5 p6 Y.nr d6 p7 Y.ne d7).toArray /\ Blk w10 hx 35 (cfc wt tr (some ⟨g4, 0, none⟩) n n) /\ Own1 w10 lx hx (xcT (⟨wt, tr, n, f⟩ : VC)) (xcL (⟨wt, tr, n, f⟩ : VC) (some ⟨g4, 0, none⟩) n n) /\ Fit w10 (.list 6 m (fun i => trs (xsT (g i)))) Kx (.slice s3 m s4) /\ Blk w10 B2 62 (xwL Y q1 Y.fb.set.n e1 q2 Y.fb.op.m e2 q3 Y.fb.nl e3 q4 Y.ns e4 q5 Y.nk e5 q6 Y.nr e6 q7 Y.ne e7).toArray /\ Own1 w10 lg B2 (xwT Y) (xwL Y q1 Y.fb.set.n e1 q2 Y.fb.op.m e2 q3 Y.fb.nl e3 q4 Y.ns e4 q5 Y.nk e5 q6 Y.nr e6 q7 Y.ne e7) /\ B2 < w10.heap.size) := ⟨bel_nx (G9.out.1) bb, (G9.out.2.1).below bb, bel_nx (G9.out.2.2.1) bb, (G9.out.2.2.2.1).below bb, (G9.out.2.2.2.2.1).below bb, (G9.out.2.2.2.2.2.1).below bb (by have := NUM.out; have := G9.out.2.2.2.2.2.2.2.2.2; omega), (G9.out.2.2.2.2.2.2.1).below bb, (G9.out.2.2.2.2.2.2.2.1).below bb, (G9.out.2.2.2.2.2.2.2.2.1).below bb (by have := NUM.out; have := G9.out.2.2.2.2.2.2.2.2.2; omega), (by have := G9.out.2.2.2.2.2.2.2.2.2; have := (bb).size; omega)⟩
 clear G9
 clear bb hall ez4 HSX
 try go_simp
 go_wp2_with fail
 refine (toPostS_m m g a' m cap' _ (HP.out.below (G10.out.1)) HY.out.2.2.2.2.2.2.2).mono ?_
 rintro e w11 ⟨b8, d8, rfl, o8, bb⟩
 have R8 : Hid (Rd w11 0 (.list 6 m (fun i => trs (xsT (g i)))) (.slice b8 m d8)) := o8.rd.mono (Nat.zero_le _)
 have G11 : Hid (Below w.heap.size w w11 /\ Blk w11 BA 24 (cfc wt tr a n cap) /\ Below w5.heap.size w5 w11 /\ Blk w11 B1 62 (xwL Y p1 Y.fb.set.n d1 p2 Y.fb.op.m d2 p3 Y.fb.nl d3 p4 Y.ns d4 p5 Y.nk d5 p6 Y.nr d6 p7 Y.ne d7).toArray /\ Blk w11 hx 35 (cfc wt tr (some ⟨g4, 0, none⟩) n n) /\ Own1 w11 lx hx (xcT (⟨wt, tr, n, f⟩ : VC)) (xcL (⟨wt, tr, n, f⟩ : VC) (some ⟨g4, 0, none⟩) n n) /\ Fit w11 (.list 6 m (fun i => trs (xsT (g i)))) Kx (.slice s3 m s4) /\ Blk w11 B2 62 (xwL Y q1 Y.fb.set.n e1 q2 Y.fb.op.m e2 q3 Y.fb.nl e3 q4 Y.ns e4 q5 Y.nk e5 q6 Y.nr e6 q7 Y.ne e7).toArray /\ Own1 w11 lg B2 (xwT Y) (xwL Y q1 Y.fb.set.n e1 q2 Y.fb.op.m e2 q3 Y.fb.nl e3 q4 Y.ns e4 q5 Y.nk e5 q6 Y.nr e6 q7 Y.ne e7) /\ B2 < w11.heap.size) := ⟨bel_nx (G10.out.1) bb, (G10.out.2.1).below bb, bel_nx (G10.out.2.2.1) bb, (G10.out.2.2.2.1).below bb, (G10.out.2.2.2.2.1).below bb, (G10.out.2.2.2.2.2.1).below bb (by have := NUM.out; have := G10.out.2.2.2.2.2.2.2.2.2; omega), (G10.out.2.2.2.2.2.2.1).below bb, (G10.out.2.2.2.2.2.2.2.1).below bb, (G10.out.2.2.2.2.2.2.2.2.1).below bb (by have := NUM.out; have := G10.out.2.2.2.2.2.2.2.2.2; omega), (by have := G10.out.2.2.2.2.2.2.2.2.2; have := (bb).size; omega)⟩
 clear G10
 clear bb o8
 go_wp2_with fail
 refine (eqPostS_t m g s3 m s4 b8 d8 _ ((G11.out.2.2.2.2.2.2.1).rd (fun _ _ => Nat.zero_le _)) R8.out HY.out.2.2.2.2.2.2.2).mono ?_
 rintro e w12 ⟨rfl, bb⟩
 have G12 : Hid (Below w.heap.size w w12 /\ Blk w12 BA 24 (cfc wt tr a n cap) /\ Below w5.heap.size w5 w12 /\ Blk w12 B1 62 (xwL Y p1 Y.fb.set.n d1 p2 Y.fb.op.m d2 p3 Y.fb.nl d3 p4 Y.ns d4 p5 Y.nk d5 p6 Y.nr d6 p7 Y.ne d7).toArray /\ Blk w12 hx 35 (cfc wt tr (some ⟨g4, 0, none⟩) n n) /\ Own1 w12 lx hx (xcT (⟨wt, tr, n, f⟩ : VC)) (xcL (⟨wt, tr, n, f⟩ : VC) (some ⟨g4, 0, none⟩) n n) /\ Fit w12 (.list 6 m (fun i => trs (xsT (g i)))) Kx (.slice s3 m s4) /\ Blk w12 B2 62 (xwL Y q1 Y.fb.set.n e1 q2 Y.fb.op.m e2 q3 Y.fb.nl e3 q4 Y.ns e4 q5 Y.nk e5 q6 Y.nr e6 q7 Y.ne e7).toArray /\ Own1 w12 lg B2 (xwT Y) (xwL Y q1 Y.fb.set.n e1 q2 Y.fb.op.m e2 q3 Y.fb.nl e3 q4 Y.ns e4 q5 Y.nk e5 q6 Y.nr e6 q7 Y.ne e7) /\ B2 < w12.heap.size) := ⟨bel_nx (G11.out.1) bb, (G11.out.2.1).below bb, bel_nx (G11.out.2.2.1) bb, (G11.out.2.2.2.1).below bb, (G11.out.2.2.2.2.1).below bb, (G11.out.2.2.2.2.2.1).below bb (by have := NUM.out; have := G11.out.2.2.2.2.2.2.2.2.2; omega), (G11.out.2.2.2.2.2.2.1).below bb, (G11.out.2.2.2.2.2.2.2.1).below bb, (G11.out.2.2.2.2.2.2.2.2.1).below bb (by have := NUM.out; have := G11.out.2.2.2.2.2.2.2.2.2; omega), (by have := G11.out.2.2.2.2.2.2.2.2.2; have := (bb).size; omega)⟩
 clear G11
 clear bb R8
 have HC : Hid (csVC (⟨wt, tr, n, f⟩ : VC) <= 8388608 /\ sumN m (fun i => ctVS (g i)) <= 8388608) := by
  refine ⟨?_, ?_⟩
  ·have h9 := sumN_c (fun k => ctRu (f k)) 7 (fun k => by simp [ctRu]) n; have := HY.out.2.2.2.2.2.1; show sumN n (fun k => ctRu (f k)) <= _; omega
  have h9 := HY.out.2.2.2.2.2.2.2; rw [Tr.sz_list] at h9; have h8 := sumN_lin2 (g := fun i => ctVS (g i)) (h := fun i => szT 6 (trs (xsT (g i)))) (fun k => ctVS_sz (g k)) m; omega
 obtain ⟨⟨y0, y1, y2⟩, _⟩ := (G12.out.2.2.2.2.1).thr
 go_wp2_with fail
 refine (markConfig_o (⟨wt, tr, n, f⟩ : VC) (some ⟨g4, 0, none⟩) n n 1 lx hx _ _ rfl (G12.out.2.2.2.2.2.1) (by have := HC.out; omega)).mono ?_
 rintro e w13 ⟨rfl, _, cg⟩
 have G13 : Hid (Below w.heap.size w w13 /\ Blk w13 BA 24 (cfc wt tr a n cap) /\ Below w5.heap.size w5 w13 /\ Blk w13 B1 62 (xwL Y p1 Y.fb.set.n d1 p2 Y.fb.op.m d2 p3 Y.fb.nl d3 p4 Y.ns d4 p5 Y.nk d5 p6 Y.nr d6 p7 Y.ne d7).toArray /\ Fit w13 (.list 6 m (fun i => trs (xsT (g i)))) Kx (.slice s3 m s4) /\ Blk w13 B2 62 (xwL Y q1 Y.fb.set.n e1 q2 Y.fb.op.m e2 q3 Y.fb.nl e3 q4 Y.ns e4 q5 Y.nk e5 q6 Y.nr e6 q7 Y.ne e7).toArray /\ Own1 w13 lg B2 (xwT Y) (xwL Y q1 Y.fb.set.n e1 q2 Y.fb.op.m e2 q3 Y.fb.nl e3 q4 Y.ns e4 q5 Y.nk e5 q6 Y.nr e6 q7 Y.ne e7) /\ B2 < w13.heap.size) := ⟨Cg.below (G12.out.1) cg (fun g hg => by have := NUM.out; omega) (by have := NUM.out; have := G12.out.2.2.2.2.2.2.2.2.2; omega), (G12.out.2.1).cgX cg (fun q9 => by have := NUM.out; omega), Cg.below (G12.out.2.2.1) cg (fun g hg => by have := NUM.out; omega) (by have := NUM.out; have := G12.out.2.2.2.2.2.2.2.2.2; omega), (G12.out.2.2.2.1).cgX cg (fun q9 => by have := NUM.out; omega), (G12.out.2.2.2.2.2.2.1).cg cg (fun b hb hb9 => by have := NK.out b hb; have := NUM.out; omega), (G12.out.2.2.2.2.2.2.2.1).cgX cg (fun q9 => by have := NUM.out; omega), (G12.out.2.2.2.2.2.2.2.2.1).same cg.size (fun b q1 q2 => cg.block b (by have := NUM.out; have := G12.out.2.2.2.2.2.2.2.2.2; omega) (fun q9 => by have := NUM.out; omega)), (by have := G12.out.2.2.2.2.2.2.2.2.2; have := cg.size; omega)⟩
 clear G12
 clear cg y0 y1 y2
 obtain ⟨ka, hka⟩ : ∃ k : Nat, k = 1 + csVC (⟨wt, tr, n, f⟩ : VC) := ⟨_, rfl⟩
 rw [<- hka]
 have HKA : Hid (ka = 1 + csVC (⟨wt, tr, n, f⟩ : VC)) := hka
 clear hka
 go_wp2_with fail
 refine (markPostS_f m g s3 m s4 ka _ Kx _ rfl (G13.out.2.2.2.2.1) NKo.out (by have := HC.out; have := HKA.out; omega)).mono ?_
 rintro e w14 ⟨rfl, _, cg⟩
 have G14 : Hid (Below w.heap.size w w14 /\ Blk w14 BA 24 (cfc wt tr a n cap) /\ Below w5.heap.size w5 w14 /\ Blk w14 B1 62 (xwL Y p1 Y.fb.set.n d1 p2 Y.fb.op.m d2 p3 Y.fb.nl d3 p4 Y.ns d4 p5 Y.nk d5 p6 Y.nr d6 p7 Y.ne d7).toArray /\ Blk w14 B2 62 (xwL Y q1 Y.fb.set.n e1 q2 Y.fb.op.m e2 q3 Y.fb.nl e3 q4 Y.ns e4 q5 Y.nk e5 q6 Y.nr e6 q7 Y.ne e7).toArray /\ Own1 w14 lg B2 (xwT Y) (xwL Y q1 Y.fb.set.n e1 q2 Y.fb.op.m e2 q3 Y.fb.nl e3 q4 Y.ns e4 q5 Y.nk e5 q6 Y.nr e6 q7 Y.ne e7) /\ B2 < w14.heap.size) := ⟨Cg.below (G13.out.1) cg (fun g hg => by have := NK.out _ hg; have := NUM.out; omega) (by have := NUM.out; have := G13.out.2.2.2.2.2.2.2; omega), (G13.out.2.1).cgX cg (fun q9 => by have := NK.out _ q9; have := NUM.out; omega), Cg.below (G13.out.2.2.1) cg (fun g hg => by have := NK.out _ hg; have := NUM.out; omega) (by have := NUM.out; have := G13.out.2.2.2.2.2.2.2; omega), (G13.out.2.2.2.1).cgX cg (fun q9 => by have := NK.out _ q9; have := NUM.out; omega), (G13.out.2.2.2.2.2.1).cgX cg (fun q9 => by have := NK.out _ q9; have := NUM.out; omega), (G13.out.2.2.2.2.2.2.1).same cg.size (fun b q1 q2 => cg.block b (by have := NUM.out; have := G13.out.2.2.2.2.2.2.2; omega) (fun q9 => by have := NK.out _ q9; have := NUM.out; omega)), (by have := G13.out.2.2.2.2.2.2.2; have := cg.size; omega)⟩
 clear G13
 clear cg
 obtain ⟨kb, hkb⟩ : ∃ k : Nat, k = ka + sumN m (fun i => ctVS (g i)) := ⟨_, rfl⟩
 rw [<- hkb]
 have nk : ¬ ((kb : Int) < 0) := by omega
 clear hkb HKA NK NKo
 obtain ⟨⟨y0, y1, y2, y3, y4, y5, y6, y7, y8, y9, y10, y11, y12, y13, y14⟩, yf⟩ := (G14.out.2.2.2.2.1).tc15
 obtain ⟨⟨z0, z1, z2, z3, z4, z5, z6, z7, z8, z9, z10, z11, z12, z13, z14⟩, zf⟩ := (G14.out.2.2.2.1).tc15
 clear yf zf
 go_wp2_with fail
 refine (eqWorld_o Y q1 _ e1 q2 _ e2 q3 _ e3 q4 _ e4 q5 _ e5 q6 _ e6 q7 _ e7 p1 d1 p2 d2 p3 d3 p4 d4 p5 d5 p6 d6 p7 d7 lg B2 _ (G14.out.2.2.2.2.2.1) (RS.out.1.below (G14.out.2.2.1)) (RS.out.2.1.below (G14.out.2.2.1)) (RS.out.2.2.1.below (G14.out.2.2.1)) (RS.out.2.2.2.1.below (G14.out.2.2.1)) (RS.out.2.2.2.2.1.below (G14.out.2.2.1)) (RS.out.2.2.2.2.2.1.below (G14.out.2.2.1)) (RS.out.2.2.2.2.2.2.below (G14.out.2.2.1)) HY.out.2.2.1).mono ?_
 rintro e w15 ⟨rfl, bb⟩
 have G15 : Hid (Below w.heap.size w w15 /\ Blk w15 BA 24 (cfc wt tr a n cap) /\ Below w5.heap.size w5 w15 /\ Blk w15 B1 62 (xwL Y p1 Y.fb.set.n d1 p2 Y.fb.op.m d2 p3 Y.fb.nl d3 p4 Y.ns d4 p5 Y.nk d5 p6 Y.nr d6 p7 Y.ne d7).toArray /\ Blk w15 B2 62 (xwL Y q1 Y.fb.set.n e1 q2 Y.fb.op.m e2 q3 Y.fb.nl e3 q4 Y.ns e4 q5 Y.nk e5 q6 Y.nr e6 q7 Y.ne e7).toArray /\ Own1 w15 lg B2 (xwT Y) (xwL Y q1 Y.fb.set.n e1 q2 Y.fb.op.m e2 q3 Y.fb.nl e3 q4 Y.ns e4 q5 Y.nk e5 q6 Y.nr e6 q7 Y.ne e7) /\ B2 < w15.heap.size) := ⟨bel_nx (G14.out.1) bb, (G14.out.2.1).below bb, bel_nx (G14.out.2.2.1) bb, (G14.out.2.2.2.1).below bb, (G14.out.2.2.2.2.1).below bb, (G14.out.2.2.2.2.2.1).below bb (by have := NUM.out; have := G14.out.2.2.2.2.2.2; omega), (by have := G14.out.2.2.2.2.2.2; have := (bb).size; omega)⟩
 clear G14
 clear bb y0 y1 y2 y3 y4 y5 y6 y7 y8 y9 y10 y11 y12 y13 y14 z0 z1 z2 z3 z4 z5 z6 z7 z8 z9 z10 z11 z12 z13 z14
 go_upto_region 24 with fail
 refine wp_region_lit ?_
 refine wpList_load_mid rfl 62 (.tmp 10) rfl B2 0 rfl (xwL Y q1 Y.fb.set.n e1 q2 Y.fb.op.m e2 q3 Y.fb.nl e3 q4 Y.ns e4 q5 Y.nk e5 q6 Y.nr e6 q7 Y.ne e7) _ (G15.out.2.2.2.2.1).all Tryz.underlying62 rfl (by kernel_rfl) ?_
 go_wp2_with fail
 refine (markWorld_o Y q1 _ e1 q2 _ e2 q3 _ e3 q4 _ e4 q5 _ e5 q6 _ e6 q7 _ e7 1 lg B2 _ _ rfl (G15.out.2.2.2.2.2.1) (by have := HY.out.2.2.2.1; omega)).mono ?_
 rintro e w16 ⟨rfl, O16, cg⟩
 have G16 : Hid (Below w.heap.size w w16 /\ Blk w16 BA 24 (cfc wt tr a n cap) /\ Below w5.heap.size w5 w16 /\ Blk w16 B1 62 (xwL Y p1 Y.fb.set.n d1 p2 Y.fb.op.m d2 p3 Y.fb.nl d3 p4 Y.ns d4 p5 Y.nk d5 p6 Y.nr d6 p7 Y.ne d7).toArray /\ Blk w16 B2 62 (xwL Y q1 Y.fb.set.n e1 q2 Y.fb.op.m e2 q3 Y.fb.nl e3 q4 Y.ns e4 q5 Y.nk e5 q6 Y.nr e6 q7 Y.ne e7).toArray /\ B2 < w16.heap.size /\ Own1 w16 lg B2 (xwT (nsVW 1 Y)) (xwL Y q1 Y.fb.set.n e1 q2 Y.fb.op.m e2 q3 Y.fb.nl e3 q4 Y.ns e4 q5 Y.nk e5 q6 Y.nr e6 q7 Y.ne e7)) := ⟨Cg.below (G15.out.1) cg (fun g hg => by have := NUM.out; omega) (by have := NUM.out; have := G15.out.2.2.2.2.2.2; omega), (G15.out.2.1).cgX cg (fun q9 => by have := NUM.out; omega), Cg.below (G15.out.2.2.1) cg (fun g hg => by have := NUM.out; omega) (by have := NUM.out; have := G15.out.2.2.2.2.2.2; omega), (G15.out.2.2.2.1).cgX cg (fun q9 => by have := NUM.out; omega), (G15.out.2.2.2.2.1).cgX cg (fun q9 => by have := NUM.out; omega), (by have := G15.out.2.2.2.2.2.2; have := cg.size; omega), O16⟩
 clear G15
 clear cg O16
 obtain ⟨k9, hk9⟩ : ∃ k : Nat, k = 1 + csVW Y := ⟨_, rfl⟩
 rw [<- hk9]
 have HM : Hid (k9 = 1 + csVW Y) := hk9
 have nm : ¬ ((k9 : Int) < 0) := by omega
 have mm : ((k9 : Int) != (k9 : Int)) = false := by simp
 clear hk9
 go_upto_region 26 with fail
 refine wp_region_lit ?_
 refine wpList_load_mid rfl 62 (.tmp 10) rfl B2 0 rfl (xwL Y q1 Y.fb.set.n e1 q2 Y.fb.op.m e2 q3 Y.fb.nl e3 q4 Y.ns e4 q5 Y.nk e5 q6 Y.nr e6 q7 Y.ne e7) _ (G16.out.2.2.2.2.1).all Tryz.underlying62 rfl (by kernel_rfl) ?_
 go_wp2_with fail
 refine (heldWorld_o Y q1 _ e1 q2 _ e2 q3 _ e3 q4 _ e4 q5 _ e5 q6 _ e6 q7 _ e7 1 lg B2 _ _ rfl (G16.out.2.2.2.2.2.2) (by have := HY.out.2.2.2.1; omega)).mono ?_
 rintro e w17 ⟨rfl, bb⟩
 rw [<- HM.out]
 have G17 : Hid (Below w.heap.size w w17 /\ Blk w17 BA 24 (cfc wt tr a n cap) /\ Below w5.heap.size w5 w17 /\ Blk w17 B1 62 (xwL Y p1 Y.fb.set.n d1 p2 Y.fb.op.m d2 p3 Y.fb.nl d3 p4 Y.ns d4 p5 Y.nk d5 p6 Y.nr d6 p7 Y.ne d7).toArray /\ Blk w17 B2 62 (xwL Y q1 Y.fb.set.n e1 q2 Y.fb.op.m e2 q3 Y.fb.nl e3 q4 Y.ns e4 q5 Y.nk e5 q6 Y.nr e6 q7 Y.ne e7).toArray /\ B2 < w17.heap.size /\ Own1 w17 lg B2 (xwT (nsVW 1 Y)) (xwL Y q1 Y.fb.set.n e1 q2 Y.fb.op.m e2 q3 Y.fb.nl e3 q4 Y.ns e4 q5 Y.nk e5 q6 Y.nr e6 q7 Y.ne e7)) := ⟨bel_nx (G16.out.1) bb, (G16.out.2.1).below bb, bel_nx (G16.out.2.2.1) bb, (G16.out.2.2.2.1).below bb, (G16.out.2.2.2.2.1).below bb, (by have := G16.out.2.2.2.2.2.1; have := (bb).size; omega), (G16.out.2.2.2.2.2.2).below bb (by have := NUM.out; have := G16.out.2.2.2.2.2.1; omega)⟩
 clear G16
 clear bb
 obtain ⟨⟨y0, y1, y2⟩, _⟩ := (G17.out.2.1).thr
 go_wp2_with fail
 refine (toConfig_any wt tr a n cap f _ (SlS.below HS.out (G17.out.1)) HY.out.2.2.2.2.2.2.1).mono ?_
 rintro e w18 ⟨g6, rfl, R18, _, bb⟩
 have SS : Hid (SlU w18 (some ⟨g6, 0, none⟩) n f) := R18.sl
 have G18 : Hid (Below w.heap.size w w18 /\ Blk w18 BA 24 (cfc wt tr a n cap) /\ Below w5.heap.size w5 w18 /\ Blk w18 B1 62 (xwL Y p1 Y.fb.set.n d1 p2 Y.fb.op.m d2 p3 Y.fb.nl d3 p4 Y.ns d4 p5 Y.nk d5 p6 Y.nr d6 p7 Y.ne d7).toArray /\ Blk w18 B2 62 (xwL Y q1 Y.fb.set.n e1 q2 Y.fb.op.m e2 q3 Y.fb.nl e3 q4 Y.ns e4 q5 Y.nk e5 q6 Y.nr e6 q7 Y.ne e7).toArray /\ B2 < w18.heap.size /\ Own1 w18 lg B2 (xwT (nsVW 1 Y)) (xwL Y q1 Y.fb.set.n e1 q2 Y.fb.op.m e2 q3 Y.fb.nl e3 q4 Y.ns e4 q5 Y.nk e5 q6 Y.nr e6 q7 Y.ne e7)) := ⟨bel_nx (G17.out.1) bb, (G17.out.2.1).below bb, bel_nx (G17.out.2.2.1) bb, (G17.out.2.2.2.1).below bb, (G17.out.2.2.2.2.1).below bb, (by have := G17.out.2.2.2.2.2.1; have := (bb).size; omega), (G17.out.2.2.2.2.2.2).below bb (by have := NUM.out; have := G17.out.2.2.2.2.2.1; omega)⟩
 clear G17
 clear bb y0 y1 y2 R18
 go_wp2_with fail
 refine (toPostS_m m g a' m cap' _ (HP.out.below (G18.out.1)) HY.out.2.2.2.2.2.2.2).mono ?_
 rintro e w19 ⟨s5, s6, rfl, o19, bb⟩
 have R19 : Hid (Rd w19 0 (.list 6 m (fun i => trs (xsT (g i)))) (.slice s5 m s6) /\ SlU w19 (some ⟨g6, 0, none⟩) n f) := ⟨o19.rd.mono (Nat.zero_le _), SlS.below SS.out bb⟩
 have G19 : Hid (Below w.heap.size w w19 /\ Blk w19 BA 24 (cfc wt tr a n cap) /\ Below w5.heap.size w5 w19 /\ Blk w19 B1 62 (xwL Y p1 Y.fb.set.n d1 p2 Y.fb.op.m d2 p3 Y.fb.nl d3 p4 Y.ns d4 p5 Y.nk d5 p6 Y.nr d6 p7 Y.ne d7).toArray /\ Blk w19 B2 62 (xwL Y q1 Y.fb.set.n e1 q2 Y.fb.op.m e2 q3 Y.fb.nl e3 q4 Y.ns e4 q5 Y.nk e5 q6 Y.nr e6 q7 Y.ne e7).toArray /\ B2 < w19.heap.size /\ Own1 w19 lg B2 (xwT (nsVW 1 Y)) (xwL Y q1 Y.fb.set.n e1 q2 Y.fb.op.m e2 q3 Y.fb.nl e3 q4 Y.ns e4 q5 Y.nk e5 q6 Y.nr e6 q7 Y.ne e7)) := ⟨bel_nx (G18.out.1) bb, (G18.out.2.1).below bb, bel_nx (G18.out.2.2.1) bb, (G18.out.2.2.2.1).below bb, (G18.out.2.2.2.2.1).below bb, (by have := G18.out.2.2.2.2.2.1; have := (bb).size; omega), (G18.out.2.2.2.2.2.2).below bb (by have := NUM.out; have := G18.out.2.2.2.2.2.1; omega)⟩
 clear G18
 clear bb o19 SS
 go_wp2_with fail
 refine (implWorldNew_any wt tr _ n n f _ R19.out.2 HY.out.2.2.2.2.2.1 H64.out b HY.out.2.2.2.2.1 m g s5 s6 R19.out.1 HY.out.2.2.2.2.2.2.2).mono ?_
 intro e w20 h20
 obtain ⟨t1, j1, t2, j2, t3, j3, t4, j4, t5, j5, t6, j6, t7, j7, rfl, O20, b'⟩ := h20
 rw [<- HY.out.1] at O20 ⊢
 rw [<- HY.out.2.1]
 obtain ⟨W20, hW20⟩ : ∃ W, W = setL (w20.alloc (.cells (#[.int .i64 0, .int .i64 0, .int .i64 0, .slice none 0 0, .int .i64 0, .slice none 0 0, .slice none 0 0, .int .i64 0, .int .i64 0, .int .i64 0, .int .i64 0, .slice none 0 0, .slice none 0 0, .slice none 0 0, .slice none 0 0] : Array Value) 62)) w20.heap.size 0 (xwL Y t1 Y.fb.set.n j1 t2 Y.fb.op.m j2 t3 Y.fb.nl j3 t4 Y.ns j4 t5 Y.nk j5 t6 Y.nr j6 t7 Y.ne j7) := ⟨_, rfl⟩
 obtain ⟨B3, hB3⟩ : ∃ B, B = w20.heap.size := ⟨_, rfl⟩
 have bW : Below w20.heap.size w20 W20 := by rw [hW20]; exact setL_below (Nat.le_refl _) _ _ _ (bel_alloc _ _)
 have K3 : Blk W20 B3 62 (xwL Y t1 Y.fb.set.n j1 t2 Y.fb.op.m j2 t3 Y.fb.nl j3 t4 Y.ns j4 t5 Y.nk j5 t6 Y.nr j6 t7 Y.ne j7).toArray := by
  rw [hW20, hB3]
  have := Blk.stL (xwL Y t1 Y.fb.set.n j1 t2 Y.fb.op.m j2 t3 Y.fb.nl j3 t4 Y.ns j4 t5 Y.nk j5 t6 Y.nr j6 t7 Y.ne j7) 0 (Blk.new w20 (#[.int .i64 0, .int .i64 0, .int .i64 0, .slice none 0 0, .int .i64 0, .slice none 0 0, .slice none 0 0, .int .i64 0, .int .i64 0, .int .i64 0, .int .i64 0, .slice none 0 0, .slice none 0 0, .slice none 0 0, .slice none 0 0] : Array Value) 62)
  rw [wrW _ rfl] at this
  exact this
 have sW20 : W20.heap.size = w20.heap.size + 1 := by rw [hW20, setL_size]; simp
 have bb := bel_nx b' bW
 have G20 : Hid (Below w.heap.size w W20 /\ Blk W20 BA 24 (cfc wt tr a n cap) /\ Below w5.heap.size w5 W20 /\ Blk W20 B1 62 (xwL Y p1 Y.fb.set.n d1 p2 Y.fb.op.m d2 p3 Y.fb.nl d3 p4 Y.ns d4 p5 Y.nk d5 p6 Y.nr d6 p7 Y.ne d7).toArray /\ Blk W20 B2 62 (xwL Y q1 Y.fb.set.n e1 q2 Y.fb.op.m e2 q3 Y.fb.nl e3 q4 Y.ns e4 q5 Y.nk e5 q6 Y.nr e6 q7 Y.ne e7).toArray /\ B2 < W20.heap.size /\ Own1 W20 lg B2 (xwT (nsVW 1 Y)) (xwL Y q1 Y.fb.set.n e1 q2 Y.fb.op.m e2 q3 Y.fb.nl e3 q4 Y.ns e4 q5 Y.nk e5 q6 Y.nr e6 q7 Y.ne e7) /\ Blk W20 B3 62 (xwL Y t1 Y.fb.set.n j1 t2 Y.fb.op.m j2 t3 Y.fb.nl j3 t4 Y.ns j4 t5 Y.nk j5 t6 Y.nr j6 t7 Y.ne j7).toArray) := ⟨bel_nx (G19.out.1) bb, (G19.out.2.1).below bb, bel_nx (G19.out.2.2.1) bb, (G19.out.2.2.2.1).below bb, (G19.out.2.2.2.2.1).below bb, (by have := G19.out.2.2.2.2.2.1; have := (bb).size; omega), (G19.out.2.2.2.2.2.2).below bb (by have := NUM.out; have := G19.out.2.2.2.2.2.1; omega), K3⟩
 clear G19
 have RH : Hid (Own1 W20 w19.heap.size w20.heap.size (xwT Y) (xwL Y t1 Y.fb.set.n j1 t2 Y.fb.op.m j2 t3 Y.fb.nl j3 t4 Y.ns j4 t5 Y.nk j5 t6 Y.nr j6 t7 Y.ne j7)) := O20.below bW (Nat.le_refl _)
 clear b' bW K3 bb sW20 O20 R19
 rename_i hK
 refine hK _ _ ?_
 clear hK
 refine wpList_move_any rfl (.tmp 99) rfl (.tuple #[.agg (xwL Y t1 Y.fb.set.n j1 t2 Y.fb.op.m j2 t3 Y.fb.nl j3 t4 Y.ns j4 t5 Y.nk j5 t6 Y.nr j6 t7 Y.ne j7).toArray, .bool ok]) rfl ?_
 refine wpList_ext rfl (.tmp 94) 0 rfl #[.agg (xwL Y t1 Y.fb.set.n j1 t2 Y.fb.op.m j2 t3 Y.fb.nl j3 t4 Y.ns j4 t5 Y.nk j5 t6 Y.nr j6 t7 Y.ne j7).toArray, .bool ok] rfl (.agg (xwL Y t1 Y.fb.set.n j1 t2 Y.fb.op.m j2 t3 Y.fb.nl j3 t4 Y.ns j4 t5 Y.nk j5 t6 Y.nr j6 t7 Y.ne j7).toArray) rfl ?_
 refine wpList_ext rfl (.tmp 94) 1 rfl #[.agg (xwL Y t1 Y.fb.set.n j1 t2 Y.fb.op.m j2 t3 Y.fb.nl j3 t4 Y.ns j4 t5 Y.nk j5 t6 Y.nr j6 t7 Y.ne j7).toArray, .bool ok] rfl (.bool ok) rfl ?_
 refine wpList_alloc_any rfl 62 rfl (#[.int .i64 0, .int .i64 0, .int .i64 0, .slice none 0 0, .int .i64 0, .slice none 0 0, .slice none 0 0, .int .i64 0, .int .i64 0, .int .i64 0, .int .i64 0, .slice none 0 0, .slice none 0 0, .slice none 0 0, .slice none 0 0] : Array Value) 15 232 (by kernel_rfl) ?_
 refine wpList_store_mid rfl 62 (.tmp 15) (.tmp 100) rfl w20.heap.size 0 (xwL Y t1 Y.fb.set.n j1 t2 Y.fb.op.m j2 t3 Y.fb.nl j3 t4 Y.ns j4 t5 Y.nk j5 t6 Y.nr j6 t7 Y.ne j7).toArray rfl rfl ((Blk.new w20 (#[.int .i64 0, .int .i64 0, .int .i64 0, .slice none 0 0, .int .i64 0, .slice none 0 0, .slice none 0 0, .int .i64 0, .int .i64 0, .int .i64 0, .int .i64 0, .slice none 0 0, .slice none 0 0, .slice none 0 0, .slice none 0 0] : Array Value) 62).there 0 15 (by simp)) (by kernel_rfl) (by simp [Value.oneCell']) ?_
 rw [setCells_L, <- hW20, <- hB3]
 clear hW20 hB3
 go_upto_region 32 with fail
 refine wp_region_lit ?_
 refine wpList_load_mid rfl 62 (.tmp 15) rfl B3 0 rfl (xwL Y t1 Y.fb.set.n j1 t2 Y.fb.op.m j2 t3 Y.fb.nl j3 t4 Y.ns j4 t5 Y.nk j5 t6 Y.nr j6 t7 Y.ne j7) _ (G20.out.2.2.2.2.2.2.2).all Tryz.underlying62 rfl (by kernel_rfl) ?_
 refine wpList_load_mid rfl 62 (.tmp 6) rfl B1 0 rfl (xwL Y p1 Y.fb.set.n d1 p2 Y.fb.op.m d2 p3 Y.fb.nl d3 p4 Y.ns d4 p5 Y.nk d5 p6 Y.nr d6 p7 Y.ne d7) _ (G20.out.2.2.2.1).all Tryz.underlying62 rfl (by kernel_rfl) ?_
 go_wp2_with fail
 refine (eqWorld_o Y t1 _ j1 t2 _ j2 t3 _ j3 t4 _ j4 t5 _ j5 t6 _ j6 t7 _ j7 p1 d1 p2 d2 p3 d3 p4 d4 p5 d5 p6 d6 p7 d7 _ _ _ RH.out (RS.out.1.below (G20.out.2.2.1)) (RS.out.2.1.below (G20.out.2.2.1)) (RS.out.2.2.1.below (G20.out.2.2.1)) (RS.out.2.2.2.1.below (G20.out.2.2.1)) (RS.out.2.2.2.2.1.below (G20.out.2.2.1)) (RS.out.2.2.2.2.2.1.below (G20.out.2.2.1)) (RS.out.2.2.2.2.2.2.below (G20.out.2.2.1)) HY.out.2.2.1).mono ?_
 rintro e w21 ⟨rfl, bb⟩
 have G21 : Hid (Below w.heap.size w w21 /\ Blk w21 BA 24 (cfc wt tr a n cap) /\ Below w5.heap.size w5 w21 /\ Blk w21 B1 62 (xwL Y p1 Y.fb.set.n d1 p2 Y.fb.op.m d2 p3 Y.fb.nl d3 p4 Y.ns d4 p5 Y.nk d5 p6 Y.nr d6 p7 Y.ne d7).toArray /\ Blk w21 B2 62 (xwL Y q1 Y.fb.set.n e1 q2 Y.fb.op.m e2 q3 Y.fb.nl e3 q4 Y.ns e4 q5 Y.nk e5 q6 Y.nr e6 q7 Y.ne e7).toArray /\ B2 < w21.heap.size /\ Own1 w21 lg B2 (xwT (nsVW 1 Y)) (xwL Y q1 Y.fb.set.n e1 q2 Y.fb.op.m e2 q3 Y.fb.nl e3 q4 Y.ns e4 q5 Y.nk e5 q6 Y.nr e6 q7 Y.ne e7) /\ Blk w21 B3 62 (xwL Y t1 Y.fb.set.n j1 t2 Y.fb.op.m j2 t3 Y.fb.nl j3 t4 Y.ns j4 t5 Y.nk j5 t6 Y.nr j6 t7 Y.ne j7).toArray) := ⟨bel_nx (G20.out.1) bb, (G20.out.2.1).below bb, bel_nx (G20.out.2.2.1) bb, (G20.out.2.2.2.1).below bb, (G20.out.2.2.2.2.1).below bb, (by have := G20.out.2.2.2.2.2.1; have := (bb).size; omega), (G20.out.2.2.2.2.2.2.1).below bb (by have := NUM.out; have := G20.out.2.2.2.2.2.1; omega), (G20.out.2.2.2.2.2.2.2).below bb⟩
 clear G20
 clear bb RH
 go_upto_region 35 with fail
 refine wp_region_lit ?_
 refine wpList_load_mid rfl 62 (.tmp 10) rfl B2 0 rfl (xwL Y q1 Y.fb.set.n e1 q2 Y.fb.op.m e2 q3 Y.fb.nl e3 q4 Y.ns e4 q5 Y.nk e5 q6 Y.nr e6 q7 Y.ne e7) _ (G21.out.2.2.2.2.1).all Tryz.underlying62 rfl (by kernel_rfl) ?_
 go_wp2_with fail
 refine (heldWorld_o Y q1 _ e1 q2 _ e2 q3 _ e3 q4 _ e4 q5 _ e5 q6 _ e6 q7 _ e7 1 lg B2 _ _ rfl (G21.out.2.2.2.2.2.2.1) (by have := HY.out.2.2.2.1; omega)).mono ?_
 rintro e w22 ⟨rfl, bb⟩
 rw [<- HM.out]
 have G22 : Hid (Below w.heap.size w w22 /\ Blk w22 BA 24 (cfc wt tr a n cap) /\ Below w5.heap.size w5 w22 /\ Blk w22 B1 62 (xwL Y p1 Y.fb.set.n d1 p2 Y.fb.op.m d2 p3 Y.fb.nl d3 p4 Y.ns d4 p5 Y.nk d5 p6 Y.nr d6 p7 Y.ne d7).toArray /\ Blk w22 B2 62 (xwL Y q1 Y.fb.set.n e1 q2 Y.fb.op.m e2 q3 Y.fb.nl e3 q4 Y.ns e4 q5 Y.nk e5 q6 Y.nr e6 q7 Y.ne e7).toArray /\ B2 < w22.heap.size /\ Own1 w22 lg B2 (xwT (nsVW 1 Y)) (xwL Y q1 Y.fb.set.n e1 q2 Y.fb.op.m e2 q3 Y.fb.nl e3 q4 Y.ns e4 q5 Y.nk e5 q6 Y.nr e6 q7 Y.ne e7) /\ Blk w22 B3 62 (xwL Y t1 Y.fb.set.n j1 t2 Y.fb.op.m j2 t3 Y.fb.nl j3 t4 Y.ns j4 t5 Y.nk j5 t6 Y.nr j6 t7 Y.ne j7).toArray) := ⟨bel_nx (G21.out.1) bb, (G21.out.2.1).below bb, bel_nx (G21.out.2.2.1) bb, (G21.out.2.2.2.1).below bb, (G21.out.2.2.2.2.1).below bb, (by have := G21.out.2.2.2.2.2.1; have := (bb).size; omega), (G21.out.2.2.2.2.2.2.1).below bb (by have := NUM.out; have := G21.out.2.2.2.2.2.1; omega), (G21.out.2.2.2.2.2.2.2).below bb⟩
 clear G21
 clear bb
 have BE : Hid (Below w.heap.size w w22) := G22.out.1
 go_wp2
 go_ret
 exact ⟨rfl, BE.out⟩
theorem worldNew_big1 (wt tr : Int) (a : Option Addr) (n cap : Nat) (f : Nat -> Ru) (m : Nat) (g : Nat -> VS) (a' : Option Addr) (cap' : Nat) (w : World) (hs : SlU w a n f) (hp : Rd w 0 (.list 6 m (fun i => trs (xsT (g i)))) (.slice a' m cap')) (hm : n <= maxLen) (h : ¬ n <= 1048576) :
 Calls Tryz.prog 6 #[.agg (cfc wt tr a n cap), .slice a' m cap'] w fun e w' => e = .returned (.bool true) /\ Below w.heap.size w w' := by
 obtain ⟨BA, hBA⟩ : ∃ B, B = w.heap.size := ⟨_, rfl⟩
 obtain ⟨W, hW⟩ : ∃ W, W = w.alloc (.cells (cfc wt tr a n cap) 24) := ⟨_, rfl⟩
 have HBA : Hid (BA = w.heap.size) := hBA
 have HP : Hid (Rd w 0 (.list 6 m (fun i => trs (xsT (g i)))) (.slice a' m cap')) := hp
 have HS := hide hs
 have G0 : Hid (Below w.heap.size w W /\ Blk W BA 24 (cfc wt tr a n cap)) := ⟨by rw [hW]; exact bel_alloc _ _, by rw [hW, hBA]; exact Blk.new _ _ _⟩
 clear hs hp
 go_enter Tryz.func6, Tryz.ntmps6
 go_upto_region 1 with fail
 rw [<- hW, <- hBA]
 clear hW hBA
 obtain ⟨⟨y0, y1, y2⟩, _⟩ := G0.out.2.thr
 go_wp2_with fail
 refine (szConfig_big wt tr a n cap _ hm h).mono ?_
 rintro e w1 ⟨rfl, bb⟩
 have B9 := bel_nx G0.out.1 bb
 clear bb y0 y1 y2 G0
 go_wp2
 go_ret
 exact ⟨rfl, B9⟩
theorem worldNew_big2 (wt tr : Int) (a : Option Addr) (n cap : Nat) (f : Nat -> Ru) (m : Nat) (g : Nat -> VS) (a' : Option Addr) (cap' : Nat) (w : World) (hs : SlU w a n f) (hp : Rd w 0 (.list 6 m (fun i => trs (xsT (g i)))) (.slice a' m cap')) (hl : n <= 1048576) (h : ¬ n + (Tr.list 6 m (fun i => trs (xsT (g i)))).sz <= 1048576) :
 Calls Tryz.prog 6 #[.agg (cfc wt tr a n cap), .slice a' m cap'] w fun e w' => e = .returned (.bool true) /\ Below w.heap.size w w' := by
 obtain ⟨f1, hf1⟩ : ∃ f : Nat, f = 1048576 - n := ⟨_, rfl⟩
 have HF : Hid (lfT f1 (Tr.list 6 m (fun i => trs (xsT (g i)))).sz = -1 /\ f1 <= 1048576) := ⟨by unfold lfT; rw [if_neg (by omega)], by omega⟩
 have n1 : ¬ ((f1 : Int) < 0) := by omega
 obtain ⟨BA, hBA⟩ : ∃ B, B = w.heap.size := ⟨_, rfl⟩
 obtain ⟨W, hW⟩ : ∃ W, W = w.alloc (.cells (cfc wt tr a n cap) 24) := ⟨_, rfl⟩
 have HBA : Hid (BA = w.heap.size) := hBA
 have HP : Hid (Rd w 0 (.list 6 m (fun i => trs (xsT (g i)))) (.slice a' m cap')) := hp
 have HS := hide hs
 have G0 : Hid (Below w.heap.size w W /\ Blk W BA 24 (cfc wt tr a n cap)) := ⟨by rw [hW]; exact bel_alloc _ _, by rw [hW, hBA]; exact Blk.new _ _ _⟩
 clear hs hp h
 go_enter Tryz.func6, Tryz.ntmps6
 go_upto_region 1 with fail
 rw [<- hW, <- hBA]
 clear hW hBA
 obtain ⟨⟨y0, y1, y2⟩, _⟩ := G0.out.2.thr
 go_wp2_with fail
 refine (szConfig_fits wt tr a n cap _ hl).mono ?_
 rintro e w1 ⟨rfl, bb⟩
 rw [<- hf1]
 have B1 := bel_nx G0.out.1 bb
 clear bb y0 y1 y2 hf1 G0
 go_wp2_with fail
 refine (szPostS_t m g a' m cap' f1 _ (HP.out.below B1) HF.out.2).mono ?_
 rintro e w2 ⟨rfl, bb⟩
 rw [HF.out.1]
 have B9 := bel_nx B1 bb
 clear bb B1
 go_wp2
 go_ret
 exact ⟨rfl, B9⟩
end Go.Proofs.YtkfgijkkffbpmaaGreat

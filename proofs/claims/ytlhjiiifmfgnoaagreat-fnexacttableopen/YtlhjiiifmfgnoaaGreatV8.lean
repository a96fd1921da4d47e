/- Texts that the proof needs, joined: Mt3 ShS Mt4 Q4 S1 WordAt1. -/
import Derived.Test.YtlhjiiifmfgnoaaGreatV7
import Derived.Shelf.SlSortCmp.WholeK
import Derived.Ground.SlsfProg
import Derived.Test.YtlhjiiifmfgnoaaGreatProg
import Derived.Test.YtlhjiiifmfgnoaaGreatV5
import Derived.Test.YtlhjiiifmfgnoaaGreatV1
set_option linter.unusedVariables false
set_option linter.unusedSimpArgs false
set_option maxHeartbeats 8000000
set_option maxRecDepth 20000
namespace Go.Proofs.YtlhjiiifmfgnoaaGreat
open Go.RowKit Go.Joins Go.ChangeMaps
theorem run_make_cap {P : Program} (t e : TypeId) (z : Value) (s bytes : Nat) (ht : P.underlying t = some (.slice e)) (hinfo : (P.info? e).map (fun i => (i.zero, i.size, i.bytes)) = some (some z, s, bytes))
 (kl kc : IntKind) (n : Nat) (hbytes : bytes * n <= 281474976710656) (h63 : n <= 9223372036854775807) (w : World) :
 (Instr.makeSlice t (.int kl 0) (.int kc (n : Int))).run P w = .ok (.slice (some ⟨w.heap.size, 0, none⟩) 0 n) (w.alloc (.cells (madeCells z.cells (n * s)) e)) := by
 obtain ⟨i, hi, hzz⟩ := Option.map_eq_some_iff.1 hinfo
 simp only [Prod.mk.injEq] at hzz
 obtain ⟨hz, hs, hb⟩ := hzz
 have hb' : (i.bytes : Int) * (n : Int) <= 281474976710656 := by
  have h : ((i.bytes * n : Nat) : Int) <= 281474976710656 := by rw [hb]; omega
  rwa [Int.natCast_mul] at h
 have hr := run_make (P := P) w t e i z ht hi hz kl kc 0 n (by omega) (by omega) hb' (by omega)
 simp only [Int.toNat_natCast, hs] at hr
 exact hr
theorem run_lenm {P : Program} {ρ : Operand -> Value} {o : Oper} {u : World} {x : Operand} {t K E : TypeId} {b n : Nat} {ks : Nat -> Int} {vs : Nat -> Value} (hu : P.underlying t = some (.map K E)) (h : MapI u b n ks vs) (ho : o.op = .call { callee := .builtin .len, args := #[x], argTypes := #[t] }) (hx : ρ x = .map (some b)) : (execOp ρ o).run P u = .ok (.value (.int .i64 (n : Int))) u := by
 unfold execOp
 simp only [ho, resolve, invoke, builtin, Sem.run_bind, Sem.run_pure, Result.andThen_ok, List.map_toArray, List.map_cons, List.map_nil, hx, h.len hu]
theorem run_ext_x {P : Program} {ρ : Operand -> Value} {o : Oper} {u : World} {x : Operand} {k : Nat} {vs : Array Value} {v : Value} (ho : o.op = .extract x k) (hx : ρ x = .tuple vs) (hv : vs[k]? = some v) : (execOp ρ o).run P u = .ok (.value v) u := by
 unfold execOp
 simp [ho, hx, Instr.extract, hv, go_sem]
theorem run_mk_y {P : Program} {ρ : Operand -> Value} {o : Oper} {u u' : World} {t : TypeId} {a b : Operand} {va vb v : Value} (ho : o.op = .makeSlice t a b) (ha : ρ a = va) (hb : ρ b = vb) (hr : (Instr.makeSlice t va vb).run P u = .ok v u') : (execOp ρ o).run P u = .ok (.value v) u' := by
 unfold execOp
 simp only [ho, ha, hb]
 rw [Sem.run_bind, hr]
 rfl
theorem own_list {w : World} {lo R : Nat} {t : TypeId} {s n : Nat} {f : Nat -> List Tr} {V : Nat -> List Value} {β : Nat -> Nat} (h1 : RowS w R t s n V) (h3 : ∀ j, β j <= β (j + 1)) (h5 : ∀ j, j < n -> (V j).length = s /\ Own1 w (β j) (β (j + 1)) (f j) (V j)) (hR : β n <= R) (hlo : lo <= β 0) (hn : n <= maxLen) (hf : ∀ k, k < n -> (f k).length = s) : OwnS w lo (.list s n (fun i => trs (f i))) (.slice (some ⟨R, 0, none⟩) n n) := by
 have hex : ∀ k, ∃ K : Nat -> Sk, k < n -> ((∀ i v, (V k)[i]? = some v -> Fit w (trs (f k) i) (K i) v) /\ (∀ i, i < s -> (K i).ok /\ ∀ b, (K i).bl b -> β k <= b /\ b < β (k + 1)) /\ ∀ i i', i < s -> i' < s -> i ≠ i' -> ∀ b, (K i).bl b -> ¬ (K i').bl b) := by
  intro k
  by_cases hk : k < n
  ·obtain ⟨hl, K, q1, q2, q3, q4⟩ := h5 k hk
   exact ⟨K, fun _ => ⟨q2, fun i hi => q3 i (by rw [hf k hk]; exact hi), fun i i' hi hi' => q4 i i' (by rw [hf k hk]; exact hi) (by rw [hf k hk]; exact hi')⟩⟩
  exact ⟨fun _ => .leaf, fun h => absurd h hk⟩
 obtain ⟨K, hK⟩ := Classical.axiomOfChoice hex
 refine ⟨.row R 0 s n K, ⟨rfl, rfl, n, rfl, Nat.le_refl _, hn, h1.lt, h1.fro, fun k j hk hj => ?_⟩, ⟨fun k j hk hj => ?_, fun k j k' j' hk hj hk' hj' hne b hb hb' => ?_⟩, fun b hb => ?_⟩
 ·have hl := (h5 k hk).1
  obtain ⟨v, hv⟩ : ∃ v, (V k)[j]? = some v := ⟨(V k)[j]'(by omega), by simp⟩
  refine ⟨v, ?_, (hK k hk).1 j v hv⟩
  rw [Nat.zero_add, h1.cell hk hj, hv]
 ·have q := (hK k hk).2.1 j hj
  refine ⟨q.1, fun hb => ?_⟩
  have b0 := bt_le h3 (show k + 1 <= n by omega)
  have := q.2 R hb
  omega
 ·have q := (hK k hk).2.1 j hj
  have q' := (hK k' hk').2.1 j' hj'
  by_cases e : k = k'
  ·subst e
   exact (hK k hk).2.2 j j' hj hj' (by omega) b hb hb'
  have r := q.2 b hb
  have r' := q'.2 b hb'
  rcases Nat.lt_or_ge k k' with x | x
  ·have := bt_le h3 (show k + 1 <= k' by omega); omega
  have := bt_le h3 (show k' + 1 <= k by omega); omega
 have bn := bt_le h3 (Nat.zero_le n)
 rcases hb with rfl | ⟨k, j, hk, hj, hb⟩
 ·omega
 have q := ((hK k hk).2.1 j hj).2 b hb
 have b0 := bt_le h3 (Nat.zero_le k)
 omega
theorem Tryz.infoD61 : (Tryz.prog.info? 61).map (fun i => (i.zero, i.size, i.bytes)) = some (some (.agg pd0), 13, 184) := by kernel_rfl
def GaI (w wr : World) (M R I B n : Nat) (f : Nat -> VD) (V : Nat -> List Value) (ps : List Nat) : Prop :=
 ps.Nodup /\ (∀ x ∈ ps, x < n) /\ MapI wr M n (fun j => (f j).id) (fun j => .agg (V j).toArray) /\ wr.heap[I]? = some (.mapIter (some M) n ps.toArray n) /\ RowS wr R 61 13 n (fun i => if i < ps.length then V (ps.getD i 0) else pd0.toList) /\ Below w.heap.size w wr /\ Blk wr B 35 tz
theorem table_m (hsort : SortD) (nx : Int) (lo M n : Nat) (f : Nat -> VD) (V : Nat -> List Value) (w : World) (hm : MapD w lo M n f V) (hid : ∀ i j, i < j -> j < n -> (f i).id < (f j).id) (hn : n <= 1000) :
 Calls Tryz.prog 36 #[.map (some M), .int .i64 nx] w fun e w' => ∃ R, e = .returned (.agg #[.int .i64 nx, .slice (some ⟨R, 0, none⟩) n n]) /\ OwnS w' lo (.list 13 n (fun i => trs (dT (f i)))) (.slice (some ⟨R, 0, none⟩) n n) /\ Below w.heap.size w w' := by
 obtain ⟨B, hB⟩ : ∃ B, B = w.heap.size := ⟨_, rfl⟩
 obtain ⟨W, hW⟩ : ∃ W, W = w.alloc (.cells tz 35) := ⟨_, rfl⟩
 have bW : Below w.heap.size w W := by rw [hW]; exact bel_alloc _ _
 have kW : Blk W B 35 tz := by rw [hW, hB]; exact Blk.new _ _ _
 have sW : W.heap.size = B + 1 := by rw [hW, hB]; simp
 have H0 : Hid (MapD w lo M n f V /\ (∀ i j, i < j -> j < n -> (f i).id < (f j).id) /\ B = w.heap.size /\ Below w.heap.size w W /\ Blk W B 35 tz /\ W.heap.size = B + 1) := ⟨hm, hid, hB, bW, kW, sW⟩
 have HM : Hid (MapI W M n (fun j => (f j).id) (fun j => .agg (V j).toArray)) := hm.1.below bW
 clear hm hid bW kW sW
 go_enter Tryz.func36, Tryz.ntmps36
 go_upto_region 1 with fail
 rw [<- hW, <- hB]
 clear hW hB
 refine wp_region_lit ?_
 refine wpList_move_any rfl (.tmp 0) rfl (.map (some M)) rfl ?_
 refine wpList_run_x rfl (.int .i64 (n : Int)) (run_lenm Tryz.underlying71 HM.out rfl rfl) ?_
 refine wpList_run_x rfl _ (run_mk_y rfl rfl rfl (run_make_cap 33 61 (.agg pd0) 13 184 Tryz.underlying33 Tryz.infoD61 .i64 .i64 n (by omega) (by omega) W)) ?_
 obtain ⟨W1, hW1⟩ : ∃ W1, W1 = W.alloc (.cells (madeCells (Value.agg pd0).cells (n * 13)) 61) := ⟨_, rfl⟩
 obtain ⟨R, hR⟩ : ∃ R, R = W.heap.size := ⟨_, rfl⟩
 have bW1 : Below W.heap.size W W1 := by rw [hW1]; exact bel_alloc _ _
 have H1 : Hid (MapI W1 M n (fun j => (f j).id) (fun j => .agg (V j).toArray) /\ RowS W1 R 61 13 n (fun _ => pd0.toList) /\ Below w.heap.size w W1 /\ Blk W1 B 35 tz /\ R = B + 1 /\ W1.heap.size = R + 1) := ⟨HM.out.below bW1, by rw [hW1, hR]; exact RowS.made W pd0.toList n 61 (by decide), bel_nx H0.out.2.2.2.1 bW1, H0.out.2.2.2.2.1.below bW1, by rw [hR]; exact H0.out.2.2.2.2.2, by rw [hW1, hR]; simp⟩
 rw [<- hW1, <- hR]
 clear hW1 hR bW1 HM
 go_upto_region 2 with fail
 refine wp_region_lit ?_
 refine wpList_move_any rfl (.tmp 0) rfl (.map (some M)) rfl ?_
 refine wpList_run_x rfl _ (run_range_x rfl rfl (run_range_map W1 71 _ _ M _ n Tryz.underlying71 H1.out.1)) ?_
 obtain ⟨W2, hW2⟩ : ∃ W2, W2 = W1.alloc (.mapIter (some M) n #[] n) := ⟨_, rfl⟩
 obtain ⟨I, hI⟩ : ∃ I, I = W1.heap.size := ⟨_, rfl⟩
 have bW2 : Below W1.heap.size W1 W2 := by rw [hW2]; exact bel_alloc _ _
 have H2 : Hid (GaI w W2 M R I B n f V [] /\ I = R + 1) := ⟨⟨List.nodup_nil, fun x hx => (by cases hx), H1.out.1.below bW2, by rw [hW2, hI]; exact heap_alloc_new W1 _, (H1.out.2.1.below bW2).congr (fun i hi => by simp), bel_nx H1.out.2.2.1 bW2, H1.out.2.2.2.1.below bW2⟩, by rw [hI]; exact H1.out.2.2.2.2.2⟩
 have HN : Hid (R = B + 1 /\ I = R + 1 /\ B = w.heap.size) := ⟨H1.out.2.2.2.2.1, H2.out.2, H0.out.2.2.1⟩
 rw [<- hW2, <- hI]
 clear hW2 hI bW2 H1
 refine wpList_nil ?_
 try go_simp
 go_wp2
 go_loopw [5] (fun s wr => ∃ ps : List Nat, s = .slice (some ⟨R, 0, none⟩) ps.length n /\ GaI w wr M R I B n f V ps) (fun s _ => match s with | .slice _ k _ => n - k | _ => 0)
 case atStart => exact ⟨[], rfl, H2.out.1⟩
 case round =>
  obtain ⟨ps, rfl, HG⟩ := hrel
  have HG' : Hid (GaI w wr M R I B n f V ps) := HG
  obtain ⟨g1, g2, g3, g4, g5, g6, g7⟩ := HG
  clear H2
  go_upto_region 3 with fail
  refine wp_region_lit ?_
  rcases run_next_at (P := Tryz.prog) wr 0 I M n n ps.toArray _ n g4 g3 (fun x hx => by obtain ⟨j, hj, rfl⟩ := ent_key (by simpa using hx); exact hj) (Nat.le_refl _) with ⟨hz, hr⟩ | ⟨e, he, w1, hw1, hr⟩
  ·have e9 : ps.length = n := (nd_len n ps g1 g2).2 (left_none hz)
   rw [e9]
   refine wpList_run_x rfl _ (run_next_x rfl rfl hr) ?_
   refine wpList_run_x rfl (.bool false) (run_ext_x rfl rfl rfl) ?_
   refine wpList_nil ?_
   have hrow : RowS wr R 61 13 n (fun i => V (ps.getD i 0)) := g5.congr (fun i hi => by rw [if_pos (by omega)])
   clear g1 g2 g3 g4 g5 g6 g7 hz hr
   have HW : Hid (RowS wr R 61 13 n (fun i => V (ps.getD i 0)) /\ ps.length = n) := ⟨hrow, e9⟩
   clear hrow e9
   go_wp2_with fail
   refine (hsort R n n V (fun j => (f j).id) ps wr HW.out.2 HG'.out.1 HG'.out.2.1 (fun j hj => ?_) H0.out.2.1 HW.out.1 (by omega)).mono ?_
   ·obtain ⟨_, _, β, _, _, _, h6⟩ := H0.out.1
    obtain ⟨a1, c1, a2, c2, a3, c3, a4, c4, a5, c5, e⟩ := own_dL (h6 j hj).2
    rw [e]
    refine ⟨rfl, rfl, fun v hv => ?_⟩
    simp at hv
    rcases hv with rfl | rfl | rfl | rfl | rfl | rfl | rfl | rfl | rfl | rfl | rfl | rfl | rfl <;> rfl
   rintro e w2 ⟨rfl, r2, gr⟩
   have hne : B ≠ R := by have := HN.out; omega
   have kB : Blk w2 B 35 tz := by
    have h9 := HG'.out.2.2.2.2.2.2
    have hlt9 := h9.lt
    unfold Blk at h9 ⊢
    rw [gr.block B hlt9 (fun q => hne (Option.some.inj q))]
    exact h9
   obtain ⟨W9, hW9⟩ : ∃ W9, W9 = setL w2 B 0 [.int .i64 nx, .slice (some ⟨R, 0, none⟩) n n] := ⟨_, rfl⟩
   have bw2 : Below w.heap.size w w2 := HG'.out.2.2.2.2.2.1.grown gr HG'.out.2.2.2.2.2.1.size (fun j hj => by have := Option.some.inj hj; have := HN.out; omega)
   have H9 : Hid (OwnS W9 lo (.list 13 n (fun i => trs (dT (f i)))) (.slice (some ⟨R, 0, none⟩) n n) /\ Below w.heap.size w W9 /\ Blk W9 B 35 #[.int .i64 nx, .slice (some ⟨R, 0, none⟩) n n]) := by
    have b9 : Below w.heap.size w W9 := by rw [hW9]; exact setL_below (by have := HN.out; omega) _ _ _ bw2
    obtain ⟨h1, h2, β, h3, h4, h5, h6⟩ := H0.out.1
    refine ⟨own_list (β := β) (V := V) (R := R) (t := 61) ?_ h4 (fun j hj => ⟨(h6 j hj).1, (h6 j hj).2.below b9 (by have := bt_le h4 (show j + 1 <= n by omega); omega)⟩) (by have := HN.out; omega) (by omega) (by unfold maxLen; omega) (fun k hk => rfl), b9, by rw [hW9]; exact Blk.wr kB (by simp [wrA])⟩
    rw [hW9]
    exact RowS.kept r2 (setL_gw _ _ _) (fun q => hne (Option.some.inj q))
   obtain ⟨⟨x0, x1⟩, xf⟩ := kB.tc2
   have xf0 := xf 0
   have xf1 := xf 1
   have hV : W9 = ((w2.setCell ⟨B, 0, none⟩ (.int .i64 nx)).setCell ⟨B, 1, none⟩ (.slice (some ⟨R, 0, none⟩) n n)) := hW9
   clear hW9 r2 gr hne kB xf bw2
   go_wp2
   rw [<- hV]
   obtain ⟨⟨u0, u1⟩, uf⟩ := H9.out.2.2.tc2
   refine bodyPost_ret (v := .agg #[.int .i64 nx, .slice (some ⟨R, 0, none⟩) n n]) (by simp [results, Tryz.results36, go_sem, u0, u1]) rfl ⟨R, rfl, H9.out.1, H9.out.2.1⟩
  obtain ⟨j, hj, hjp, rfl⟩ := left_mem he
  have hps : (ps ++ [j]).Nodup := by
   rw [List.nodup_append]
   exact ⟨g1, by simp, fun a ha b hb => by simp at hb; subst hb; exact fun q => hjp (q ▸ ha)⟩
  have hlt' : ∀ x ∈ ps ++ [j], x < n := fun x hx => by
   rcases List.mem_append.1 hx with h | h
   ·exact g2 x h
   simp at h; omega
  have hkn : ps.length < n := by
   have := (nd_len n (ps ++ [j]) hps hlt').1
   simp at this
   omega
  obtain ⟨a1, c1, a2, c2, a3, c3, a4, c4, a5, c5, eV⟩ : ∃ a1 c1 a2 c2 a3 c3 a4 c4 a5 c5, V j = dL (f j) a1 (f j).q.ws.length c1 a2 (f j).q.bs.length c2 a3 (f j).np c3 a4 (f j).hs.length c4 a5 (f j).nt c5 := by
   obtain ⟨_, _, β, _, _, _, h6⟩ := H0.out.1
   exact own_dL (h6 j hj).2
  have hMI : M ≠ I := fun q => by unfold MapI at g3; rw [q, g4] at g3; cases g3
  have hIR : I ≠ R := by have := HN.out; omega
  have hMR : M ≠ R := fun q => by unfold MapI at g3; obtain ⟨cs, q5, _⟩ := g5; rw [q, q5] at g3; cases g3
  have hBI : B ≠ I := by have := HN.out; omega
  have hBR : B ≠ R := by have := HN.out; omega
  have bw1 : Below wr.heap.size wr w1 := by
   rcases hw1 with rfl | rfl
   ·exact Below.refl _ _
   exact (Below.refl _ _).drew
  have sw1 : w1.heap.size = wr.heap.size := by
   rcases hw1 with rfl | rfl
   ·rfl
   rfl
  obtain ⟨w2, hw2⟩ : ∃ w2, w2 = setBlock w1 I (.mapIter (some M) n (ps.toArray.push j) n) := ⟨_, rfl⟩
  have gI : w1.grownBy w2 (some I) := by rw [hw2]; exact setBlock_grown _ _ _
  have hIlt : I < w1.heap.size := by rw [sw1]; exact (Array.getElem?_eq_some_iff.1 g4).1
  have iI : w2.heap[I]? = some (.mapIter (some M) n (ps.toArray.push j) n) := by rw [hw2]; unfold setBlock; simp [hIlt]
  have mI := (g3.below bw1).kept gI (fun q => hMI (Option.some.inj q))
  have rI := RowS.kept (g5.below bw1) gI (fun q => hIR (Option.some.inj q))
  have kI : Blk w2 B 35 tz := by
   have h9 := g7.below bw1
   have hlt9 := h9.lt
   unfold Blk at h9 ⊢
   rw [gI.block B hlt9 (fun q => hBI (Option.some.inj q))]
   exact h9
  have bI : Below w.heap.size w w2 := (bel_nx g6 bw1).grown gI (bel_nx g6 bw1).size (fun k hk => by have := Option.some.inj hk; have := HN.out; omega)
  refine wpList_run_x rfl _ (run_next_x rfl rfl hr) ?_
  refine wpList_run_x rfl (.bool true) (run_ext_x rfl rfl rfl) ?_
  refine wpList_nil ?_
  rw [<- hw2]
  obtain ⟨k, hk⟩ : ∃ k, k = ps.length := ⟨_, rfl⟩
  have H4 : Hid (MapI w2 M n (fun j => (f j).id) (fun j => .agg (V j).toArray) /\ w2.heap[I]? = some (.mapIter (some M) n (ps.toArray.push j) n) /\ RowS w2 R 61 13 n (fun i => if i < k then V (ps.getD i 0) else pd0.toList) /\ Below w.heap.size w w2 /\ Blk w2 B 35 tz /\ (ps ++ [j]).Nodup /\ (∀ x ∈ ps ++ [j], x < n) /\ V j = dL (f j) a1 (f j).q.ws.length c1 a2 (f j).q.bs.length c2 a3 (f j).np c3 a4 (f j).hs.length c4 a5 (f j).nt c5) := ⟨mI, iI, by rw [hk]; exact rI, bI, kI, hps, hlt', eV⟩
  have H5 : Hid (M ≠ I /\ I ≠ R /\ M ≠ R /\ B ≠ I /\ B ≠ R /\ k = ps.length /\ j < n) := ⟨hMI, hIR, hMR, hBI, hBR, hk, hj⟩
  rw [<- hk] at hkn ⊢
  clear g1 g2 g3 g4 g5 g6 g7 hr he hw1 hps hlt' eV bw1 sw1 hw2 gI hIlt iI mI rI kI bI hjp hk hMI hIR hMR hBI hBR hj
  go_upto_region 4 with fail
  refine wp_region_lit ?_
  refine wpList_run_x rfl _ (run_entry_x rfl rfl (run_entry_at w2 I M n ps.toArray _ n ⟨.int .i64 (f j).id, .agg (V j).toArray, j⟩ H4.out.2.1 H4.out.1 (by simp [entL]; exact ⟨j, H5.out.2.2.2.2.2.2, rfl, rfl, rfl⟩) (ent_nd _ _ _))) ?_
  refine wpList_run_x rfl (.agg (V j).toArray) (run_ext_x rfl rfl rfl) ?_
  rw [H4.out.2.2.2.2.2.2.2]
  obtain ⟨vs, hvs⟩ : ∃ vs, vs = dL (f j) a1 (f j).q.ws.length c1 a2 (f j).q.bs.length c2 a3 (f j).np c3 a4 (f j).hs.length c4 a5 (f j).nt c5 := ⟨_, rfl⟩
  refine wpList_alloc_any rfl 61 rfl pd0 13 184 (by kernel_rfl) ?_
  refine wpList_store_mid rfl 61 (.tmp 7) (.tmp 16) rfl w2.heap.size 0 (dL (f j) a1 (f j).q.ws.length c1 a2 (f j).q.bs.length c2 a3 (f j).np c3 a4 (f j).hs.length c4 a5 (f j).nt c5).toArray rfl rfl ((Blk.new w2 pd0 61).there 0 13 (by simp)) (by kernel_rfl) (by simp [Value.oneCell']) ?_
  rw [setCells_L]
  obtain ⟨w3, hw3⟩ : ∃ w3, w3 = setL (w2.alloc (.cells pd0 61)) w2.heap.size 0 (dL (f j) a1 (f j).q.ws.length c1 a2 (f j).q.bs.length c2 a3 (f j).np c3 a4 (f j).hs.length c4 a5 (f j).nt c5) := ⟨_, rfl⟩
  obtain ⟨G, hG⟩ : ∃ G, G = w2.heap.size := ⟨_, rfl⟩
  have b3 : Below w2.heap.size w2 w3 := by rw [hw3]; exact setL_below (Nat.le_refl _) _ _ _ (bel_alloc _ _)
  have H6 : Hid (Below w2.heap.size w2 w3 /\ Blk w3 G 61 (dL (f j) a1 (f j).q.ws.length c1 a2 (f j).q.bs.length c2 a3 (f j).np c3 a4 (f j).hs.length c4 a5 (f j).nt c5).toArray) := ⟨b3, by rw [hw3, hG]; exact Blk.wr (Blk.new _ _ _) (by simp [wrA])⟩
  have hw3' : w3 = setL (w2.alloc (.cells pd0 61)) w2.heap.size 0 (dL (f j) a1 (f j).q.ws.length c1 a2 (f j).q.bs.length c2 a3 (f j).np c3 a4 (f j).hs.length c4 a5 (f j).nt c5) := hw3
  have eL : (dL (f j) a1 (f j).q.ws.length c1 a2 (f j).q.bs.length c2 a3 (f j).np c3 a4 (f j).hs.length c4 a5 (f j).nt c5).toArray.toList = dL (f j) a1 (f j).q.ws.length c1 a2 (f j).q.bs.length c2 a3 (f j).np c3 a4 (f j).hs.length c4 a5 (f j).nt c5 := rfl
  try rw [eL]
  rw [<- hw3', <- hG]
  clear hw3 hw3' hG b3 eL
  refine wpList_nil ?_
  go_upto_region 5 with fail
  refine wp_region_lit ?_
  refine wpList_move_any rfl (.tmp 5) rfl (.slice (some ⟨R, 0, none⟩) k n) rfl ?_
  refine wpList_load_mid rfl 61 (.tmp 7) rfl G 0 rfl (dL (f j) a1 (f j).q.ws.length c1 a2 (f j).q.bs.length c2 a3 (f j).np c3 a4 (f j).hs.length c4 a5 (f j).nt c5) _ H6.out.2.all Tryz.underlying61 rfl (by kernel_rfl) ?_
  refine wpList_run_x rfl _ (run_build_op rfl (qs := #[(0, .agg (dL (f j) a1 (f j).q.ws.length c1 a2 (f j).q.bs.length c2 a3 (f j).np c3 a4 (f j).hs.length c4 a5 (f j).nt c5).toArray)]) (by kernel_rfl) (run_bs1D (f j) a1 _ c1 a2 _ c2 a3 _ c3 a4 _ c4 a5 _ c5 w3)) ?_
  obtain ⟨w4, hw4⟩ : ∃ w4, w4 = w3.alloc (.cells (dL (f j) a1 (f j).q.ws.length c1 a2 (f j).q.bs.length c2 a3 (f j).np c3 a4 (f j).hs.length c4 a5 (f j).nt c5).toArray 61) := ⟨_, rfl⟩
  obtain ⟨G2, hG2⟩ : ∃ G, G = w3.heap.size := ⟨_, rfl⟩
  have b4 : Below w2.heap.size w2 w4 := bel_nx H6.out.1 (by rw [hw4]; exact bel_alloc _ _)
  have k4 : Blk w4 G2 61 (dL (f j) a1 (f j).q.ws.length c1 a2 (f j).q.bs.length c2 a3 (f j).np c3 a4 (f j).hs.length c4 a5 (f j).nt c5).toArray := by rw [hw4, hG2]; exact Blk.new _ _ _
  rw [<- hw4, <- hG2]
  clear hw4 hG2
  obtain ⟨i0, hi0, hzz⟩ := Option.map_eq_some_iff.1 Tryz.infoD61
  simp only [Prod.mk.injEq] at hzz
  obtain ⟨hz0, hz1, hz2⟩ := hzz
  have r4 := H4.out.2.2.1.below b4
  have hrun := run_append_room_cells (P := Tryz.prog) w4 33 33 61 i0 Tryz.underlying33 hi0 R 0 k n ⟨G2, 0, none⟩ 1 1 (dL (f j) a1 (f j).q.ws.length c1 a2 (f j).q.bs.length c2 a3 (f j).np c3 a4 (f j).hs.length c4 a5 (f j).nt c5) (by rw [hz1]; rfl) (fun x u hu => by
   have e1 : (⟨G2, 0, none⟩ : Addr).add x = ⟨G2, x, none⟩ := by unfold Addr.add; split <;> simp_all
   rw [e1]
   exact k4.cell x (by simpa using hu)) (fun x hx => by simp at hx; rcases hx with rfl | rfl | rfl | rfl | rfl | rfl | rfl | rfl | rfl | rfl | rfl | rfl | rfl <;> rfl) (by omega) (fun x hx => by
    have hx' : x < 13 := hx
    obtain ⟨v, hv⟩ := r4.ex hkn (j := x) hx'
    rw [hz1, Nat.zero_add, hv]; rfl) (fun x hx => r4.fro _)
  rw [setCells_L, hz1, Nat.zero_add] at hrun
  refine wpList_run_x rfl _ (run_app_x rfl (by kernel_rfl) (by kernel_rfl) hrun) ?_
  refine wpList_run_x rfl _ (run_asg_x (v := .slice (some ⟨R, 0, none⟩) (k + 1) n) rfl (by kernel_rfl)) ?_
  refine wpList_nil ?_
  obtain ⟨w5, hw5⟩ : ∃ w5, w5 = setL w4 R (k * 13) (dL (f j) a1 (f j).q.ws.length c1 a2 (f j).q.bs.length c2 a3 (f j).np c3 a4 (f j).hs.length c4 a5 (f j).nt c5) := ⟨_, rfl⟩
  have g5 : w4.grownBy w5 (some R) := by rw [hw5]; exact setL_gw _ _ _
  have H7 : Hid (GaI w w5 M R I B n f V (ps ++ [j]) /\ (ps ++ [j]).length = k + 1) := by
   obtain ⟨n1, n2, n3, n4, n5, n6, n7⟩ := H5.out
   obtain ⟨m1, m2, m3, m4, m5, m6, m7, m8⟩ := H4.out
   refine ⟨⟨m6, m7, (m1.below b4).kept g5 (fun q => n3 (Option.some.inj q)), ?_, ?_, (bel_nx m4 b4).grown g5 (bel_nx m4 b4).size (fun x hx => by have := Option.some.inj hx; have := HN.out; omega), ?_⟩, by simp [n6]⟩
   ·have hlt9 := (Array.getElem?_eq_some_iff.1 m2).1
    rw [g5.block I (Nat.lt_of_lt_of_le hlt9 b4.size) (fun q => n2 (Option.some.inj q)), b4.block I hlt9, m2]
    simp
   ·rw [hw5]
    refine (r4.set hkn (dL (f j) a1 (f j).q.ws.length c1 a2 (f j).q.bs.length c2 a3 (f j).np c3 a4 (f j).hs.length c4 a5 (f j).nt c5) rfl).congr (fun i hi => ?_)
    by_cases e : i = k
    ·subst e
     rw [if_pos rfl, if_pos (by simp; omega), <- m8]
     congr 1
     simp [n6, List.getD_eq_getElem?_getD]
    rw [if_neg e]
    by_cases e' : i < k
    ·rw [if_pos e', if_pos (by simp; omega)]
     congr 1
     simp [List.getD_eq_getElem?_getD, List.getElem?_append_left (show i < ps.length by omega)]
    rw [if_neg e', if_neg (by simp; omega)]
   have h9 := m5.below b4
   have hlt9 := h9.lt
   unfold Blk at h9 ⊢
   rw [g5.block B hlt9 (fun q => n5 (Option.some.inj q))]
   exact h9
  rw [<- hw5]
  clear hw5 g5 hrun r4 k4 b4 hz0 hz1 hz2 hi0
  go_wp2
  go_roundw
  case rel => exact ⟨ps ++ [j], by rw [H7.out.2], H7.out.1⟩
  case measure => have := H5.out.2.2.2.2.2.1; omega
end Go.Proofs.YtlhjiiifmfgnoaaGreat
namespace Go.Proofs
open Go.Shelf
def Tryz.laysF6_ren : Go.Shelf.Ren := ⟨fun | 6 => 62 | 15 => 84 | 14 => 83 | 28 => 107 | 29 => 108 | 20 => 99 | 21 => 100 | 22 => 101 | 23 => 102 | 24 => 103 | 25 => 104 | 26 => 105 | 27 => 106 | 46 => 121 | 47 => 122 | 48 => 123 | 49 => 124 | 50 => 125 | 57 => 132 | n => n, fun | 22 => 33 | 24 => 61 | 25 => 101 | 3 => 3 | 39 => 113 | 0 => 0 | 53 => 134 | 55 => 136 | 4 => 4 | 46 => 127 | 45 => 126 | 50 => 131 | 5 => 5 | 9 => 9 | 66 => 140 | 70 => 144 | 76 => 168 | 77 => 169 | n => n, fun | n => n⟩
theorem Tryz.laysF6 : Go.Proofs.SlLaysF0.n6 Tryz.prog Tryz.laysF6_ren := {
 mixed := by kernel_rfl
 f6 := ⟨Tryz.f62.name, by decide, Tryz.func62.trans (congrArg some (by kernel_rfl))⟩
 f14 := ⟨Tryz.f83.name, by decide, Tryz.func83.trans (congrArg some (by kernel_rfl))⟩
 f15 := Tryz.func84.trans (congrArg some (by kernel_rfl))
 f20 := ⟨Tryz.f99.name, by decide, Tryz.func99.trans (congrArg some (by kernel_rfl))⟩
 f21 := ⟨Tryz.f100.name, by decide, Tryz.func100.trans (congrArg some (by kernel_rfl))⟩
 f22 := ⟨Tryz.f101.name, by decide, Tryz.func101.trans (congrArg some (by kernel_rfl))⟩
 f23 := ⟨Tryz.f102.name, by decide, Tryz.func102.trans (congrArg some (by kernel_rfl))⟩
 f24 := ⟨Tryz.f103.name, by decide, Tryz.func103.trans (congrArg some (by kernel_rfl))⟩
 f25 := ⟨Tryz.f104.name, by decide, Tryz.func104.trans (congrArg some (by kernel_rfl))⟩
 f26 := ⟨Tryz.f105.name, by decide, Tryz.func105.trans (congrArg some (by kernel_rfl))⟩
 f27 := ⟨Tryz.f106.name, by decide, Tryz.func106.trans (congrArg some (by kernel_rfl))⟩
 f28 := Tryz.func107.trans (congrArg some (by kernel_rfl))
 f29 := Tryz.func108.trans (congrArg some (by kernel_rfl))
 f46 := ⟨Tryz.f121.name, by decide, Tryz.func121.trans (congrArg some (by kernel_rfl))⟩
 f47 := Tryz.func122.trans (congrArg some (by kernel_rfl))
 f48 := Tryz.func123.trans (congrArg some (by kernel_rfl))
 f49 := ⟨Tryz.f124.name, by decide, Tryz.func124.trans (congrArg some (by kernel_rfl))⟩
 f50 := ⟨Tryz.f125.name, by decide, Tryz.func125.trans (congrArg some (by kernel_rfl))⟩
 f57 := ⟨Tryz.f132.name, by decide, Tryz.func132.trans (congrArg some (by kernel_rfl))⟩
 t0 := Tryz.underlying0
 a0 := Tryz.isAgg0
 z0 := Tryz.sizeOf0
 v0 := Tryz.zeroValue0
 t3 := Tryz.underlying3
 a3 := Tryz.isAgg3
 z3 := Tryz.sizeOf3
 v3 := Tryz.zeroValue3
 t4 := Tryz.underlying4
 a4 := Tryz.isAgg4
 z4 := Tryz.sizeOf4
 v4 := Tryz.zeroValue4
 t5 := Tryz.underlying5
 a5 := Tryz.isAgg5
 z5 := Tryz.sizeOf5
 v5 := Tryz.zeroValue5
 t9 := Tryz.underlying9
 a9 := Tryz.isAgg9
 z9 := Tryz.sizeOf9
 v9 := Tryz.zeroValue9
 t22 := Tryz.underlying33
 a22 := Tryz.isAgg33
 z22 := Tryz.sizeOf33
 v22 := Tryz.zeroValue33
 t25 := Tryz.underlying101
 a25 := Tryz.isAgg101
 z25 := Tryz.sizeOf101
 v25 := Tryz.zeroValue101
 t39 := Tryz.underlying113
 a39 := Tryz.isAgg113
 z39 := Tryz.sizeOf113
 v39 := Tryz.zeroValue113
 t45 := Tryz.underlying126
 a45 := Tryz.isAgg126
 z45 := Tryz.sizeOf126
 v45 := Tryz.zeroValue126
 t46 := Tryz.underlying127
 a46 := Tryz.isAgg127
 z46 := Tryz.sizeOf127
 v46 := Tryz.zeroValue127
 t50 := Tryz.underlying131
 a50 := Tryz.isAgg131
 z50 := Tryz.sizeOf131
 v50 := Tryz.zeroValue131
 t53 := Tryz.underlying134
 a53 := Tryz.isAgg134
 z53 := Tryz.sizeOf134
 v53 := Tryz.zeroValue134
 t55 := Tryz.underlying136
 a55 := Tryz.isAgg136
 z55 := Tryz.sizeOf136
 v55 := Tryz.zeroValue136
 t66 := Tryz.underlying140
 a66 := Tryz.isAgg140
 z66 := Tryz.sizeOf140
 v66 := Tryz.zeroValue140
 t70 := Tryz.underlying144
 a70 := Tryz.isAgg144
 z70 := Tryz.sizeOf144
 v70 := Tryz.zeroValue144
 t76 := Tryz.underlying168
 a76 := Tryz.isAgg168
 z76 := Tryz.sizeOf168
 v76 := Tryz.zeroValue168
 t77 := Tryz.underlying169
 a77 := Tryz.isAgg169
 z77 := Tryz.sizeOf169
 v77 := Tryz.zeroValue169 }
end Go.Proofs
namespace Go.Proofs.YtlhjiiifmfgnoaaGreat
open Go.RowKit Go.Joins Go.ChangeMaps
theorem byId_any (x y : Int) (v1 v2 v3 v4 v5 v6 v7 v8 v9 v10 v11 v12 u1 u2 u3 u4 u5 u6 u7 u8 u9 u10 u11 u12 : Value) (W : World) :
 Calls Tryz.prog 63 #[.agg #[.int .i64 x, v1, v2, v3, v4, v5, v6, v7, v8, v9, v10, v11, v12], .agg #[.int .i64 y, u1, u2, u3, u4, u5, u6, u7, u8, u9, u10, u11, u12]] W fun e w' => e = .returned (.int .i64 (cmpI x y)) /\ ∃ q os', w' = Sort.grow (W.drewN q) os' := by
 go_enter Tryz.func63, Tryz.ntmps63
 go_wp2_with fail
 refine (compare_any x y _).mono ?_
 rintro e w1 ⟨rfl, hw⟩
 have hw := hw.symm
 subst hw
 go_wp2
 go_ret
 exact ⟨rfl, 0, _, by rw [Sort.alloc_eq_grow, Sort.alloc_eq_grow, Sort.grow_grow]; rfl⟩
theorem cells13 {l : List Value} {x : Int} (h : l.length = 13) (h0 : l[0]? = some (.int .i64 x)) : ∃ v1 v2 v3 v4 v5 v6 v7 v8 v9 v10 v11 v12, l = [.int .i64 x, v1, v2, v3, v4, v5, v6, v7, v8, v9, v10, v11, v12] := by
 match l, h with
 | [v0, v1, v2, v3, v4, v5, v6, v7, v8, v9, v10, v11, v12], _ =>
  obtain rfl := Option.some.inj (show some v0 = some (Value.int .i64 x) from h0)
  exact ⟨v1, v2, v3, v4, v5, v6, v7, v8, v9, v10, v11, v12, rfl⟩
def encD (V : Nat -> List Value) (n j : Nat) : List Value := if j < n then V j else pd0.toList
def idD (ids : Nat -> Int) (n j : Nat) : Int := if j < n then ids j else 0
theorem cmpI_lt (x y : Int) : decide (cmpI x y < 0) = decide (x < y) := by
 unfold cmpI
 by_cases h1 : x < y
 ·simp [h1]
 by_cases h2 : y < x <;> simp [h1, h2]
theorem swoD (ids : Nat -> Int) (n : Nat) : Sort.SWO (ltOf fun x y => cmpI (idD ids n x) (idD ids n y)) where
 irrefl x := by unfold ltOf; rw [cmpI_lt]; simp
 trans x y z h1 h2 := by unfold ltOf at *; rw [cmpI_lt] at *; simp at *; omega
 ntrans x y z h1 h2 := by unfold ltOf at *; rw [cmpI_lt] at *; simp at *; omega
theorem sortD_holds : SortD := by
 intro R n m V ids ps w hlen hnd hlt hV hid hrow hn
 have hk : ∀ x, (encD V n x).length = 13 := fun x => by
  unfold encD
  split
  ·exact (hV x (by assumption)).1
  rfl
 have h0 : ∀ x, (encD V n x)[0]? = some (.int .i64 (idD ids n x)) := fun x => by
  unfold encD idD
  split
  ·exact (hV x (by assumption)).2.1
  rfl
 have h1 : ∀ x, ∀ v ∈ encD V n x, v.oneCell' = true := fun x => by
  unfold encD
  split
  ·exact (hV x (by assumption)).2.2
  intro v hv
  simp [pd0] at hv
  rcases hv with rfl | rfl | rfl | rfl <;> rfl
 have hcmp : CmpLays Tryz.prog 63 #[] (encD V n) 13 (fun x y => cmpI (idD ids n x) (idD ids n y)) R 0 ps.toArray.size w := fun _ _ _ _ x y => by
  obtain ⟨v1, v2, v3, v4, v5, v6, v7, v8, v9, v10, v11, v12, e1⟩ := cells13 (hk x) (h0 x)
  obtain ⟨u1, u2, u3, u4, u5, u6, u7, u8, u9, u10, u11, u12, e2⟩ := cells13 (hk y) (h0 y)
  rw [e1, e2]
  exact byId_any _ _ _ _ _ _ _ _ _ _ _ _ _ _ _ _ _ _ _ _ _ _ _ _ _ _ _
 have hH : Sort.HoldsK (encD V n) 13 w R 0 ps.toArray := by
  intro t ht
  rw [Sort.size_flatK] at ht
  have ht' : t < n * 13 := by rw [<- hlen]; simpa using ht
  have hq : t / 13 < n := by omega
  refine ⟨?_, hrow.fro _⟩
  have hc := hrow.cell hq (show t % 13 < 13 by omega)
  rw [Nat.zero_add, show (⟨R, t, none⟩ : Addr) = ⟨R, t / 13 * 13 + t % 13, none⟩ by congr 1; omega, hc, id, Sort.get_flatK _ _ _ t ht]
  have e1 : ps.toArray[t / 13]! = ps.getD (t / 13) 0 := by
   have : t / 13 < ps.length := by omega
   simp [List.getD_eq_getElem?_getD, this, getElem!_pos]
  rw [e1]
  have hx : ps.getD (t / 13) 0 < n := hlt _ (by
   have : t / 13 < ps.length := by omega
   simp [List.getD_eq_getElem?_getD, this])
  have hl := (hV _ hx).1
  show (V (ps.getD (t / 13) 0))[t % 13]? = _
  unfold encD
  rw [if_pos hx]
  have : t % 13 < (V (ps.getD (t / 13) 0)).length := by omega
  rw [List.getElem?_eq_getElem this, getElem!_pos (V (ps.getD (t / 13) 0)) (t % 13) this]
 have hsz : ps.toArray.size = n := by simpa using hlen
 have eg : ∀ args w, (callFunc 63 args).run Tryz.prog w = .ok (.enter 63 args) w := enters_of Tryz.func63 (by kernel_rfl) rfl
 have hcon := AnyQ.slices_SortFunc Tryz.laysF6 13 Tryz.isAgg61 Tryz.sizeOf61 (encD V n) hk h1 (fun x y => cmpI (idD ids n x) (idD ids n y)) (swoD ids n) 63 #[] R 0 m ps.toArray w eg hcmp hH hrow.lt (by rw [hsz]; omega)
 rw [hsz] at hcon
 refine (show Calls Tryz.prog 62 _ _ _ from hcon).mono ?_
 rintro e w' ⟨rfl, d', q, os, ⟨p1, -, p3⟩, p4, rfl⟩
 have hs' : d'.size = n := by rw [p1, hsz]
 have hperm : d'.toList.Perm ps := by
  have a1 : d'.extract 0 n = d' := by rw [<- hs']; simp
  have a2 : ps.toArray.extract 0 n = ps.toArray := by rw [<- hsz]; simp
  rw [a1, a2] at p3
  simpa using p3
 have hmem : ∀ i, i < n -> d'[i]! ∈ d'.toList := fun i hi => by
  have : i < d'.size := by omega
  rw [getElem!_pos d' i this]
  simp
 have hg : ∀ i, i < n -> d'[i]! = i := by
  refine inc_id n (fun i => d'[i]!) (fun i hi => hlt _ (hperm.mem_iff.1 (hmem i hi))) (fun i j hij hj => ?_)
  have hs := p4 i j (Nat.zero_le _) hij hj
  unfold ltOf at hs
  rw [cmpI_lt] at hs
  have li := hlt _ (hperm.mem_iff.1 (hmem i (by omega)))
  have lj := hlt _ (hperm.mem_iff.1 (hmem j hj))
  unfold idD at hs
  rw [if_pos lj, if_pos li] at hs
  have hne : d'[i]! ≠ d'[j]! := by
   have hnd' : d'.toList.Nodup := hperm.nodup_iff.2 hnd
   rw [getElem!_pos d' i (by omega), getElem!_pos d' j (by omega)]
   have h9 := List.pairwise_iff_getElem.1 hnd' i j (by simp; omega) (by simp; omega) hij
   simpa using h9
  simp at hs
  show d'[i]! < d'[j]!
  rcases Nat.lt_trichotomy (d'[i]!) (d'[j]!) with h | h | h
  ·exact h
  ·exact absurd h hne
  have := hid _ _ h li
  omega
 refine ⟨rfl, ?_, ?_⟩
 ·obtain ⟨cs, q1, q2, q3⟩ := hrow
  have hR : R < w.heap.size := (Array.getElem?_eq_some_iff.1 q1).1
  refine ⟨Sort.putCells id 0 (Sort.flatK (encD V n) 13 d') cs, ?_, ?_, fun k hk' j hj => ?_⟩
  ·show ((w.heap.modify R (Sort.onCells (Sort.putCells id 0 (Sort.flatK (encD V n) 13 d')))) ++ os)[R]? = _
   rw [Array.getElem?_append_left (by simpa using hR), Array.getElem?_modify]
   simp [q1, Sort.onCells]
  ·simp [Sort.putCells, q2]
  have hlt9 : k * 13 + j < n * 13 := by omega
  have hlt8 : k * 13 + j < cs.size := by omega
  have hF : (Sort.flatK (encD V n) 13 d').size = n * 13 := by rw [Sort.size_flatK, hs']
  show (Sort.putCells id 0 (Sort.flatK (encD V n) 13 d') cs)[k * 13 + j]? = (V k)[j]?
  unfold Sort.putCells
  rw [Array.getElem?_mapIdx, Array.getElem?_eq_getElem hlt8, Option.map_some, if_pos ⟨Nat.zero_le _, by rw [hF]; omega⟩, Nat.sub_zero, id, Sort.get_flatK _ _ _ _ (by rw [hs']; exact hlt9)]
  have e1 : (k * 13 + j) / 13 = k := by omega
  have e2 : (k * 13 + j) % 13 = j := by omega
  rw [e1, e2, hg k hk']
  unfold encD
  rw [if_pos hk']
  have hl := (hV k hk').1
  have : j < (V k).length := by omega
  rw [List.getElem?_eq_getElem this, getElem!_pos (V k) j this]
 refine ⟨rfl, rfl, rfl, ?_, fun b hb hne => ?_⟩
 ·show w.heap.size <= ((w.heap.modify R (Sort.onCells (Sort.putCells id 0 (Sort.flatK (encD V n) 13 d')))) ++ os).size
  simp
 show ((w.heap.modify R (Sort.onCells (Sort.putCells id 0 (Sort.flatK (encD V n) 13 d')))) ++ os)[b]? = _
 rw [Array.getElem?_append_left (by simpa using hb), Array.getElem?_modify, if_neg (fun q => hne (by rw [q]))]
end Go.Proofs.YtlhjiiifmfgnoaaGreat
namespace Go.Proofs.YtlhjiiifmfgnoaaGreat
open Go.RowKit
theorem lit_slB1 (w : World) (x : Bool) {g : Nat} (hg : g = w.heap.size) : SlB (w.alloc (.cells #[.bool x] 4)) (some ⟨g, 0, none⟩) [x] := hg ▸
 .inr ⟨_, 0, rfl, by simp, fun i hi => by
  have : i = 0 := by simp at hi; omega
  subst this; simp⟩
theorem lit_slI1 (w : World) (x : Int) {g : Nat} (hg : g = w.heap.size) : SlI (w.alloc (.cells #[.int .i64 x] 3)) (some ⟨g, 0, none⟩) [x] := hg ▸
 .inr ⟨_, 0, rfl, by simp, fun i hi => by
  have : i = 0 := by simp at hi; omega
  subst this; simp⟩
theorem lit_slI2 (w : World) (x y : Int) {g : Nat} (hg : g = w.heap.size) : SlI (w.alloc (.cells #[.int .i64 x, .int .i64 y] 3)) (some ⟨g, 0, none⟩) [x, y] := hg ▸
 .inr ⟨_, 0, rfl, by simp, fun i hi => by
  have : i = 0 \/ i = 1 := by simp at hi; omega
  rcases this with rfl | rfl <;> simp⟩
theorem req_1 (pl nn : Int) (w : World) :
 Calls Tryz.prog 153 #[.agg #[.int .i64 pl, .int .i64 nn]] w fun e w' => e = .returned (rq 1 pl nn 0 none none 0 0 0 0) /\ Below w.heap.size w w' := by
 go_enter Tryz.func153, Tryz.ntmps153
 go_wp2
 refine bodyPost_ret (v := rq 1 pl nn 0 none none 0 0 0 0) (by simp [results, Tryz.results153, go_sem]) rfl ?_
 exact ⟨rfl, bel_next (bel_alloc _ _) (bel_alloc _ _)⟩
theorem req_2 (pl nn : Int) (w : World) :
 Calls Tryz.prog 154 #[.agg #[.int .i64 pl, .int .i64 nn]] w fun e w' => e = .returned (rq 2 pl nn 0 none none 0 0 0 0) /\ Below w.heap.size w w' := by
 go_enter Tryz.func154, Tryz.ntmps154
 go_wp2
 refine bodyPost_ret (v := rq 2 pl nn 0 none none 0 0 0 0) (by simp [results, Tryz.results154, go_sem]) rfl ?_
 exact ⟨rfl, bel_next (bel_alloc _ _) (bel_alloc _ _)⟩
theorem req_3 (pl nn : Int) (w : World) :
 Calls Tryz.prog 155 #[.agg #[.int .i64 pl, .int .i64 nn]] w fun e w' => e = .returned (rq 3 pl nn 0 none none 0 0 0 0) /\ Below w.heap.size w w' := by
 go_enter Tryz.func155, Tryz.ntmps155
 go_wp2
 refine bodyPost_ret (v := rq 3 pl nn 0 none none 0 0 0 0) (by simp [results, Tryz.results155, go_sem]) rfl ?_
 exact ⟨rfl, bel_next (bel_alloc _ _) (bel_alloc _ _)⟩
theorem req_4 (pl nn : Int) (w : World) :
 Calls Tryz.prog 156 #[.agg #[.int .i64 pl, .int .i64 nn]] w fun e w' => e = .returned (rq 4 pl nn 0 none none 0 0 0 0) /\ Below w.heap.size w w' := by
 go_enter Tryz.func156, Tryz.ntmps156
 go_wp2
 refine bodyPost_ret (v := rq 4 pl nn 0 none none 0 0 0 0) (by simp [results, Tryz.results156, go_sem]) rfl ?_
 exact ⟨rfl, bel_next (bel_alloc _ _) (bel_alloc _ _)⟩
theorem req_5 (pl : Int) (x : Bool) (w : World) :
 Calls Tryz.prog 157 #[.agg #[.int .i64 pl, .bool x]] w fun e w' => e = .returned (rq 5 pl 0 0 none (some ⟨w.heap.size + 1 + 1, 0, none⟩) 0 1 0 1) /\ SlB w' (some ⟨w.heap.size + 1 + 1, 0, none⟩) [x] /\ Below w.heap.size w w' := by
 go_enter Tryz.func157, Tryz.ntmps157
 go_wp2
 refine bodyPost_ret (v := rq 5 pl 0 0 none (some ⟨w.heap.size + 1 + 1, 0, none⟩) 0 1 0 1) (by simp [results, Tryz.results157, go_sem]) rfl ?_
 exact ⟨rfl, lit_slB1 _ x (by simp), bel_next (bel_next (bel_alloc _ _) (bel_alloc _ _)) (bel_alloc _ _)⟩
theorem req_6 (pl x : Int) (w : World) :
 Calls Tryz.prog 158 #[.agg #[.int .i64 pl, .int .i64 x]] w fun e w' => e = .returned (rq 6 pl 0 0 (some ⟨w.heap.size + 1 + 1, 0, none⟩) none 1 0 1 0) /\ SlI w' (some ⟨w.heap.size + 1 + 1, 0, none⟩) [x] /\ Below w.heap.size w w' := by
 go_enter Tryz.func158, Tryz.ntmps158
 go_wp2
 refine bodyPost_ret (v := rq 6 pl 0 0 (some ⟨w.heap.size + 1 + 1, 0, none⟩) none 1 0 1 0) (by simp [results, Tryz.results158, go_sem]) rfl ?_
 exact ⟨rfl, lit_slI1 _ x (by simp), bel_next (bel_next (bel_alloc _ _) (bel_alloc _ _)) (bel_alloc _ _)⟩
theorem req_15 (pl : Int) (a2 : Option Addr) (l2 c2 : Nat) (w : World) :
 Calls Tryz.prog 159 #[.agg #[.int .i64 pl, .slice a2 l2 c2]] w fun e w' => e = .returned (rq 15 pl 0 0 none a2 0 l2 0 c2) /\ Below w.heap.size w w' := by
 go_enter Tryz.func159, Tryz.ntmps159
 go_wp2
 refine bodyPost_ret (v := rq 15 pl 0 0 none a2 0 l2 0 c2) (by simp [results, Tryz.results159, go_sem]) rfl ?_
 exact ⟨rfl, bel_next (bel_alloc _ _) (bel_alloc _ _)⟩
theorem req_16 (pl : Int) (a1 : Option Addr) (l1 c1 : Nat) (w : World) :
 Calls Tryz.prog 160 #[.agg #[.int .i64 pl, .slice a1 l1 c1]] w fun e w' => e = .returned (rq 16 pl 0 0 a1 none l1 0 c1 0) /\ Below w.heap.size w w' := by
 go_enter Tryz.func160, Tryz.ntmps160
 go_wp2
 refine bodyPost_ret (v := rq 16 pl 0 0 a1 none l1 0 c1 0) (by simp [results, Tryz.results160, go_sem]) rfl ?_
 exact ⟨rfl, bel_next (bel_alloc _ _) (bel_alloc _ _)⟩
theorem req_22 (pl x y : Int) (w : World) :
 Calls Tryz.prog 161 #[.agg #[.int .i64 pl, .int .i64 x, .int .i64 y]] w fun e w' => e = .returned (rq 22 pl 0 0 (some ⟨w.heap.size + 1 + 1, 0, none⟩) none 2 0 2 0) /\ SlI w' (some ⟨w.heap.size + 1 + 1, 0, none⟩) [x, y] /\ Below w.heap.size w w' := by
 go_enter Tryz.func161, Tryz.ntmps161
 go_wp2
 refine bodyPost_ret (v := rq 22 pl 0 0 (some ⟨w.heap.size + 1 + 1, 0, none⟩) none 2 0 2 0) (by simp [results, Tryz.results161, go_sem]) rfl ?_
 exact ⟨rfl, lit_slI2 _ x y (by simp), bel_next (bel_next (bel_alloc _ _) (bel_alloc _ _)) (bel_alloc _ _)⟩
theorem req_23 (pl nn wa : Int) (a1 : Option Addr) (l1 c1 : Nat) (w : World) :
 Calls Tryz.prog 162 #[.agg #[.int .i64 pl, .int .i64 nn, .int .i64 wa, .slice a1 l1 c1]] w fun e w' => e = .returned (rq 23 pl nn wa a1 none l1 0 c1 0) /\ Below w.heap.size w w' := by
 go_enter Tryz.func162, Tryz.ntmps162
 go_wp2
 refine bodyPost_ret (v := rq 23 pl nn wa a1 none l1 0 c1 0) (by simp [results, Tryz.results162, go_sem]) rfl ?_
 exact ⟨rfl, bel_next (bel_alloc _ _) (bel_alloc _ _)⟩
theorem sameReq_n (kd pl nn wa nn' wa' : Int) (a1 a2 a1' a2' : Option Addr) (l1 l2 c1 c2 l1' l2' c1' c2' : Nat) (w : World) (hne : ¬ nn = nn') :
 Calls Tryz.prog 113 #[rq kd pl nn wa a1 a2 l1 l2 c1 c2, rq kd pl nn' wa' a1' a2' l1' l2' c1' c2'] w fun e w' => e = .returned (.bool false) /\ Below w.heap.size w w' := by
 obtain ⟨W0, hW0'⟩ : ∃ W0, W0 = (w.alloc (.cells #[.int .i64 kd, .int .i64 pl, .int .i64 nn, .slice a1 l1 c1, .slice a2 l2 c2, .int .i64 wa] 39)).alloc (.cells #[.int .i64 kd, .int .i64 pl, .int .i64 nn', .slice a1' l1' c1', .slice a2' l2' c2', .int .i64 wa'] 39) := ⟨_, rfl⟩
 have hW0 : Hid (W0 = _) := hW0'
 have B0 : Below w.heap.size w W0 := by rw [hW0']; exact bel_next (bel_alloc w _) (bel_alloc _ _)
 have X0 : Blk W0 w.heap.size 39 #[.int .i64 kd, .int .i64 pl, .int .i64 nn, .slice a1 l1 c1, .slice a2 l2 c2, .int .i64 wa] := by rw [hW0']; exact (Blk.new w _ _).below (bel_alloc _ _)
 have Y0 : Blk W0 (w.heap.size + 1) 39 #[.int .i64 kd, .int .i64 pl, .int .i64 nn', .slice a1' l1' c1', .slice a2' l2' c2', .int .i64 wa'] := by
  rw [hW0']; have := Blk.new (w.alloc (.cells #[.int .i64 kd, .int .i64 pl, .int .i64 nn, .slice a1 l1 c1, .slice a2 l2 c2, .int .i64 wa] 39)) #[.int .i64 kd, .int .i64 pl, .int .i64 nn', .slice a1' l1' c1', .slice a2' l2' c2', .int .i64 wa'] 39; simpa using this
 obtain ⟨x0, x1, x2, x3, x4, x5⟩ := X0.six
 obtain ⟨y0, y1, y2, y3, y4, y5⟩ := Y0.six
 clear hW0'
 go_enter Tryz.func113, Tryz.ntmps113
 go_upto_region 1 with fail
 rw [<- hW0.out]
 go_wp2
 go_ret
 exact ⟨rfl, B0⟩
theorem sameReq_w (kd pl nn wa nn' wa' : Int) (a1 a2 a1' a2' : Option Addr) (l1 l2 c1 c2 l1' l2' c1' c2' : Nat) (w : World) (hn : nn' = nn) (hne : ¬ wa = wa') :
 Calls Tryz.prog 113 #[rq kd pl nn wa a1 a2 l1 l2 c1 c2, rq kd pl nn' wa' a1' a2' l1' l2' c1' c2'] w fun e w' => e = .returned (.bool false) /\ Below w.heap.size w w' := by
 obtain ⟨W0, hW0'⟩ : ∃ W0, W0 = (w.alloc (.cells #[.int .i64 kd, .int .i64 pl, .int .i64 nn, .slice a1 l1 c1, .slice a2 l2 c2, .int .i64 wa] 39)).alloc (.cells #[.int .i64 kd, .int .i64 pl, .int .i64 nn', .slice a1' l1' c1', .slice a2' l2' c2', .int .i64 wa'] 39) := ⟨_, rfl⟩
 have hW0 : Hid (W0 = _) := hW0'
 have B0 : Below w.heap.size w W0 := by rw [hW0']; exact bel_next (bel_alloc w _) (bel_alloc _ _)
 have X0 : Blk W0 w.heap.size 39 #[.int .i64 kd, .int .i64 pl, .int .i64 nn, .slice a1 l1 c1, .slice a2 l2 c2, .int .i64 wa] := by rw [hW0']; exact (Blk.new w _ _).below (bel_alloc _ _)
 have Y0 : Blk W0 (w.heap.size + 1) 39 #[.int .i64 kd, .int .i64 pl, .int .i64 nn', .slice a1' l1' c1', .slice a2' l2' c2', .int .i64 wa'] := by
  rw [hW0']; have := Blk.new (w.alloc (.cells #[.int .i64 kd, .int .i64 pl, .int .i64 nn, .slice a1 l1 c1, .slice a2 l2 c2, .int .i64 wa] 39)) #[.int .i64 kd, .int .i64 pl, .int .i64 nn', .slice a1' l1' c1', .slice a2' l2' c2', .int .i64 wa'] 39; simpa using this
 obtain ⟨x0, x1, x2, x3, x4, x5⟩ := X0.six
 obtain ⟨y0, y1, y2, y3, y4, y5⟩ := Y0.six
 subst hn
 clear hW0'
 go_enter Tryz.func113, Tryz.ntmps113
 go_upto_region 1 with fail
 rw [<- hW0.out]
 go_wp2
 go_ret
 exact ⟨rfl, B0⟩
theorem sameReq_1 (kd pl nn wa nn' wa' : Int) (a1 a2 a1' a2' : Option Addr) (l1 l2 c1 c2 l1' l2' c1' c2' : Nat) (w : World) (hn : nn' = nn) (hw : wa' = wa) (hne : ¬ (l1 : Int) = (l1' : Int)) (h1 : l1 <= 20000000) (h1' : l1' <= 20000000) :
 Calls Tryz.prog 113 #[rq kd pl nn wa a1 a2 l1 l2 c1 c2, rq kd pl nn' wa' a1' a2' l1' l2' c1' c2'] w fun e w' => e = .returned (.bool false) /\ Below w.heap.size w w' := by
 obtain ⟨W0, hW0'⟩ : ∃ W0, W0 = (w.alloc (.cells #[.int .i64 kd, .int .i64 pl, .int .i64 nn, .slice a1 l1 c1, .slice a2 l2 c2, .int .i64 wa] 39)).alloc (.cells #[.int .i64 kd, .int .i64 pl, .int .i64 nn', .slice a1' l1' c1', .slice a2' l2' c2', .int .i64 wa'] 39) := ⟨_, rfl⟩
 have hW0 : Hid (W0 = _) := hW0'
 have B0 : Below w.heap.size w W0 := by rw [hW0']; exact bel_next (bel_alloc w _) (bel_alloc _ _)
 have X0 : Blk W0 w.heap.size 39 #[.int .i64 kd, .int .i64 pl, .int .i64 nn, .slice a1 l1 c1, .slice a2 l2 c2, .int .i64 wa] := by rw [hW0']; exact (Blk.new w _ _).below (bel_alloc _ _)
 have Y0 : Blk W0 (w.heap.size + 1) 39 #[.int .i64 kd, .int .i64 pl, .int .i64 nn', .slice a1' l1' c1', .slice a2' l2' c2', .int .i64 wa'] := by
  rw [hW0']; have := Blk.new (w.alloc (.cells #[.int .i64 kd, .int .i64 pl, .int .i64 nn, .slice a1 l1 c1, .slice a2 l2 c2, .int .i64 wa] 39)) #[.int .i64 kd, .int .i64 pl, .int .i64 nn', .slice a1' l1' c1', .slice a2' l2' c2', .int .i64 wa'] 39; simpa using this
 obtain ⟨x0, x1, x2, x3, x4, x5⟩ := X0.six
 obtain ⟨y0, y1, y2, y3, y4, y5⟩ := Y0.six
 subst hn hw
 clear hW0'
 go_enter Tryz.func113, Tryz.ntmps113
 go_upto_region 1 with fail
 rw [<- hW0.out]
 go_wp2_with fail
 refine (equal_int_len _ _ _ _ _ _ _ hne h1 h1').mono ?_
 rintro e w1 ⟨rfl, b'⟩
 go_wp2
 go_ret
 exact ⟨rfl, bel_next B0 b'⟩
theorem sameReq_2 (kd pl nn wa nn' wa' : Int) (a1 a2 a1' a2' : Option Addr) (l1 l2 c1 c2 l1' l2' c1' c2' : Nat) (w : World) (hn : nn' = nn) (hw : wa' = wa) (ws : List Int) (h1 : l1 = ws.length) (h1' : l1' = ws.length) (s1 : SlI w a1 ws) (s1' : SlI w a1' ws) (hl1 : ws.length <= 2000000) (hne : ¬ (l2 : Int) = (l2' : Int)) (h2 : l2 <= 20000000) (h2' : l2' <= 20000000) :
 Calls Tryz.prog 113 #[rq kd pl nn wa a1 a2 l1 l2 c1 c2, rq kd pl nn' wa' a1' a2' l1' l2' c1' c2'] w fun e w' => e = .returned (.bool false) /\ Below w.heap.size w w' := by
 obtain ⟨W0, hW0'⟩ : ∃ W0, W0 = (w.alloc (.cells #[.int .i64 kd, .int .i64 pl, .int .i64 nn, .slice a1 l1 c1, .slice a2 l2 c2, .int .i64 wa] 39)).alloc (.cells #[.int .i64 kd, .int .i64 pl, .int .i64 nn', .slice a1' l1' c1', .slice a2' l2' c2', .int .i64 wa'] 39) := ⟨_, rfl⟩
 have hW0 : Hid (W0 = _) := hW0'
 have B0 : Below w.heap.size w W0 := by rw [hW0']; exact bel_next (bel_alloc w _) (bel_alloc _ _)
 have X0 : Blk W0 w.heap.size 39 #[.int .i64 kd, .int .i64 pl, .int .i64 nn, .slice a1 l1 c1, .slice a2 l2 c2, .int .i64 wa] := by rw [hW0']; exact (Blk.new w _ _).below (bel_alloc _ _)
 have Y0 : Blk W0 (w.heap.size + 1) 39 #[.int .i64 kd, .int .i64 pl, .int .i64 nn', .slice a1' l1' c1', .slice a2' l2' c2', .int .i64 wa'] := by
  rw [hW0']; have := Blk.new (w.alloc (.cells #[.int .i64 kd, .int .i64 pl, .int .i64 nn, .slice a1 l1 c1, .slice a2 l2 c2, .int .i64 wa] 39)) #[.int .i64 kd, .int .i64 pl, .int .i64 nn', .slice a1' l1' c1', .slice a2' l2' c2', .int .i64 wa'] 39; simpa using this
 obtain ⟨x0, x1, x2, x3, x4, x5⟩ := X0.six
 obtain ⟨y0, y1, y2, y3, y4, y5⟩ := Y0.six
 subst hn hw
 have HH : Hid (l1 = ws.length /\ l1' = ws.length /\ SlI W0 a1 ws /\ SlI W0 a1' ws) := ⟨h1, h1', s1.below B0, s1'.below B0⟩
 clear h1 h1' s1 s1'
 clear hW0'
 go_enter Tryz.func113, Tryz.ntmps113
 go_upto_region 1 with fail
 rw [<- hW0.out]
 go_wp2_with fail
 refine (equal_int _ _ _ _ _ _ ws _ HH.out.1 HH.out.2.1 HH.out.2.2.1 HH.out.2.2.2 hl1).mono ?_
 rintro e w1 ⟨rfl, b'⟩
 have b1 := bel_next B0 b'
 obtain ⟨x0, x1, x2, x3, x4, x5⟩ := (X0.below b').six
 obtain ⟨y0, y1, y2, y3, y4, y5⟩ := (Y0.below b').six
 go_wp2_with fail
 refine (equal_bool_len _ _ _ _ _ _ _ hne h2 h2').mono ?_
 rintro e w2 ⟨rfl, b2'⟩
 go_wp2
 go_ret
 exact ⟨rfl, bel_next b1 b2'⟩
theorem sameReq_t (kd pl nn wa nn' wa' : Int) (a1 a2 a1' a2' : Option Addr) (l1 l2 c1 c2 l1' l2' c1' c2' : Nat) (w : World) (hn : nn' = nn) (hw : wa' = wa) (ws : List Int) (h1 : l1 = ws.length) (h1' : l1' = ws.length) (s1 : SlI w a1 ws) (s1' : SlI w a1' ws) (hl1 : ws.length <= 2000000) (bs : List Bool) (h2 : l2 = bs.length) (h2' : l2' = bs.length) (s2 : SlB w a2 bs) (s2' : SlB w a2' bs) (hl2 : bs.length <= 2000000) :
 Calls Tryz.prog 113 #[rq kd pl nn wa a1 a2 l1 l2 c1 c2, rq kd pl nn' wa' a1' a2' l1' l2' c1' c2'] w fun e w' => e = .returned (.bool true) /\ Below w.heap.size w w' := by
 obtain ⟨W0, hW0'⟩ : ∃ W0, W0 = (w.alloc (.cells #[.int .i64 kd, .int .i64 pl, .int .i64 nn, .slice a1 l1 c1, .slice a2 l2 c2, .int .i64 wa] 39)).alloc (.cells #[.int .i64 kd, .int .i64 pl, .int .i64 nn', .slice a1' l1' c1', .slice a2' l2' c2', .int .i64 wa'] 39) := ⟨_, rfl⟩
 have hW0 : Hid (W0 = _) := hW0'
 have B0 : Below w.heap.size w W0 := by rw [hW0']; exact bel_next (bel_alloc w _) (bel_alloc _ _)
 have X0 : Blk W0 w.heap.size 39 #[.int .i64 kd, .int .i64 pl, .int .i64 nn, .slice a1 l1 c1, .slice a2 l2 c2, .int .i64 wa] := by rw [hW0']; exact (Blk.new w _ _).below (bel_alloc _ _)
 have Y0 : Blk W0 (w.heap.size + 1) 39 #[.int .i64 kd, .int .i64 pl, .int .i64 nn', .slice a1' l1' c1', .slice a2' l2' c2', .int .i64 wa'] := by
  rw [hW0']; have := Blk.new (w.alloc (.cells #[.int .i64 kd, .int .i64 pl, .int .i64 nn, .slice a1 l1 c1, .slice a2 l2 c2, .int .i64 wa] 39)) #[.int .i64 kd, .int .i64 pl, .int .i64 nn', .slice a1' l1' c1', .slice a2' l2' c2', .int .i64 wa'] 39; simpa using this
 obtain ⟨x0, x1, x2, x3, x4, x5⟩ := X0.six
 obtain ⟨y0, y1, y2, y3, y4, y5⟩ := Y0.six
 subst hn hw
 have HH : Hid (l1 = ws.length /\ l1' = ws.length /\ SlI W0 a1 ws /\ SlI W0 a1' ws) := ⟨h1, h1', s1.below B0, s1'.below B0⟩
 clear h1 h1' s1 s1'
 have HB : Hid (l2 = bs.length /\ l2' = bs.length /\ SlB W0 a2 bs /\ SlB W0 a2' bs) := ⟨h2, h2', s2.below B0, s2'.below B0⟩
 clear h2 h2' s2 s2'
 clear hW0'
 go_enter Tryz.func113, Tryz.ntmps113
 go_upto_region 1 with fail
 rw [<- hW0.out]
 go_wp2_with fail
 refine (equal_int _ _ _ _ _ _ ws _ HH.out.1 HH.out.2.1 HH.out.2.2.1 HH.out.2.2.2 hl1).mono ?_
 rintro e w1 ⟨rfl, b'⟩
 have b1 := bel_next B0 b'
 obtain ⟨x0, x1, x2, x3, x4, x5⟩ := (X0.below b').six
 obtain ⟨y0, y1, y2, y3, y4, y5⟩ := (Y0.below b').six
 go_wp2_with fail
 refine (equal_bool _ _ _ _ _ _ bs _ HB.out.1 HB.out.2.1 (HB.out.2.2.1.below b') (HB.out.2.2.2.below b') hl2).mono ?_
 rintro e w2 ⟨rfl, b2'⟩
 go_wp2
 go_ret
 exact ⟨rfl, bel_next b1 b2'⟩
end Go.Proofs.YtlhjiiifmfgnoaaGreat
namespace Go.Proofs.YtlhjiiifmfgnoaaGreat
open Go.RowKit
theorem first_diff {α : Type} [DecidableEq α] (d : α) : ∀ (zs ys : List α), zs.length = ys.length -> zs ≠ ys -> ∃ k, k < zs.length /\ zs.getD k d ≠ ys.getD k d /\ ∀ j, j < k -> zs.getD j d = ys.getD j d
 | [], [], _, h => absurd rfl h
 | [], _ :: _, h, _ => by simp at h
 | _ :: _, [], h, _ => by simp at h
 | x :: r, y :: s, hl, hne => by
  by_cases e : x = y
  ·subst e
   obtain ⟨k, h1, h2, h3⟩ := first_diff d r s (by simpa using hl) (fun h => hne (by rw [h]))
   refine ⟨k + 1, by simp; omega, by simpa using h2, fun j hj => ?_⟩
   cases j with
   | zero => simp
   | succ j => simpa using h3 j (by omega)
  exact ⟨0, by simp, by simpa using e, fun j hj => by omega⟩
theorem equal_int_ne (a a' : Option Addr) (n n' cap cap' : Nat) (zs ys : List Int) (w : World) (hn : n = zs.length) (hn' : n' = zs.length) (hy : zs.length = ys.length) (hs : SlI w a zs) (hs' : SlI w a' ys) (hl : zs.length <= 2000000) (hne : zs ≠ ys) :
 Calls Tryz.prog 119 #[.slice a n cap, .slice a' n' cap'] w fun e w' => e = .returned (.bool false) /\ Below w.heap.size w w' := by
 subst hn hn'
 obtain ⟨d, hd, hdn, hdj⟩ := first_diff 0 zs ys hy hne
 have HY : Hid (zs.length = ys.length) := hy
 have HD : Hid (∀ j, j < d -> zs.getD j 0 = ys.getD j 0) := hdj
 clear hy hdj hne
 go_enter Tryz.func119, Tryz.ntmps119
 go_wp2
 go_loopw [13] (fun i wr => ∃ k : Nat, k <= d /\ i = .int .i64 k /\ ∃ n, wr = w.drewN n) (fun i _ => d - (intOf i).toNat)
 case atStart => exact ⟨0, Nat.zero_le _, rfl, 0, rfl⟩
 case round =>
  obtain ⟨k, hk, rfl, n, rfl⟩ := hrel
  have hlt : k < zs.length := by omega
  obtain ⟨b, off, rfl, _, hc⟩ := cell_atI hs hlt
  obtain ⟨b', off', rfl, _, hc'⟩ := cell_atI hs' (show k < ys.length by have := HY.out; omega)
  have hi : (k : Int) < (zs.length : Int) := by omega
  by_cases hkd : k < d
  ·rw [<- HD.out k hkd] at hc'
   clear hs hs'
   go_wp2
   go_quiet (fail)
   go_wp2
   go_roundw
   case rel => first | exact ⟨k + 1, by omega, by go_num, _, rfl⟩ | exact ⟨_, _, ⟨k + 1, by omega, by go_num, _, rfl⟩, rfl, rfl⟩
   case measure => simp [intOf]; omega
  obtain rfl : k = d := by omega
  clear hs hs'
  generalize zs.getD k 0 = x at *
  generalize ys.getD k 0 = y at *
  go_wp2
  go_quiet (fail)
  go_wp2
  go_ret
  exact ⟨rfl, bel_drewN (drew_refl _ _) _⟩
theorem equal_bool_ne (a a' : Option Addr) (n n' cap cap' : Nat) (zs ys : List Bool) (w : World) (hn : n = zs.length) (hn' : n' = zs.length) (hy : zs.length = ys.length) (hs : SlB w a zs) (hs' : SlB w a' ys) (hl : zs.length <= 2000000) (hne : zs ≠ ys) :
 Calls Tryz.prog 120 #[.slice a n cap, .slice a' n' cap'] w fun e w' => e = .returned (.bool false) /\ Below w.heap.size w w' := by
 subst hn hn'
 obtain ⟨d, hd, hdn, hdj⟩ := first_diff false zs ys hy hne
 have HY : Hid (zs.length = ys.length) := hy
 have HD : Hid (∀ j, j < d -> zs.getD j false = ys.getD j false) := hdj
 clear hy hdj hne
 go_enter Tryz.func120, Tryz.ntmps120
 go_wp2
 go_loopw [13] (fun i wr => ∃ k : Nat, k <= d /\ i = .int .i64 k /\ ∃ n, wr = w.drewN n) (fun i _ => d - (intOf i).toNat)
 case atStart => exact ⟨0, Nat.zero_le _, rfl, 0, rfl⟩
 case round =>
  obtain ⟨k, hk, rfl, n, rfl⟩ := hrel
  have hlt : k < zs.length := by omega
  obtain ⟨b, off, rfl, _, hc⟩ := cell_atB hs hlt
  obtain ⟨b', off', rfl, _, hc'⟩ := cell_atB hs' (show k < ys.length by have := HY.out; omega)
  have hi : (k : Int) < (zs.length : Int) := by omega
  by_cases hkd : k < d
  ·rw [<- HD.out k hkd] at hc'
   clear hs hs'
   go_wp2
   go_quiet (fail)
   go_wp2
   go_roundw
   case rel => first | exact ⟨k + 1, by omega, by go_num, _, rfl⟩ | exact ⟨_, _, ⟨k + 1, by omega, by go_num, _, rfl⟩, rfl, rfl⟩
   case measure => simp [intOf]; omega
  obtain rfl : k = d := by omega
  clear hs hs'
  generalize zs.getD k false = x at *
  generalize ys.getD k false = y at *
  obtain rfl : y = !x := by cases x <;> cases y <;> simp_all
  clear hdn
  cases x
  all_goals (
   go_wp2
   go_quiet (fail)
   go_wp2
   go_ret
   exact ⟨rfl, bel_drewN (drew_refl _ _) _⟩)
theorem equal_int_any (a a' : Option Addr) (n n' cap cap' : Nat) (zs ys : List Int) (w : World) (hn : n = zs.length) (hn' : n' = ys.length) (hs : SlI w a zs) (hs' : SlI w a' ys) (hl : zs.length <= 2000000) (hl' : ys.length <= 2000000) (b : Bool) (hb : decide (zs = ys) = b) :
 Calls Tryz.prog 119 #[.slice a n cap, .slice a' n' cap'] w fun e w' => e = .returned (.bool b) /\ Below w.heap.size w w' := by
 subst hb
 by_cases h : zs = ys
 ·subst h
  rw [decide_eq_true rfl]
  exact equal_int a a' n n' cap cap' zs w hn hn' hs hs' hl
 rw [decide_eq_false h]
 by_cases hy : zs.length = ys.length
 ·exact equal_int_ne a a' n n' cap cap' zs ys w hn (hn'.trans hy.symm) hy hs hs' hl h
 exact equal_int_len a a' n n' cap cap' w (by omega) (by omega) (by omega)
theorem equal_bool_any (a a' : Option Addr) (n n' cap cap' : Nat) (zs ys : List Bool) (w : World) (hn : n = zs.length) (hn' : n' = ys.length) (hs : SlB w a zs) (hs' : SlB w a' ys) (hl : zs.length <= 2000000) (hl' : ys.length <= 2000000) (b : Bool) (hb : decide (zs = ys) = b) :
 Calls Tryz.prog 120 #[.slice a n cap, .slice a' n' cap'] w fun e w' => e = .returned (.bool b) /\ Below w.heap.size w w' := by
 subst hb
 by_cases h : zs = ys
 ·subst h
  rw [decide_eq_true rfl]
  exact equal_bool a a' n n' cap cap' zs w hn hn' hs hs' hl
 rw [decide_eq_false h]
 by_cases hy : zs.length = ys.length
 ·exact equal_bool_ne a a' n n' cap cap' zs ys w hn (hn'.trans hy.symm) hy hs hs' hl h
 exact equal_bool_len a a' n n' cap cap' w (by omega) (by omega) (by omega)
theorem l4SameWords_any (a a' : Option Addr) (n n' cap cap' : Nat) (zs ys : List Int) (w : World) (hn : n = zs.length) (hn' : n' = ys.length) (hs : SlI w a zs) (hs' : SlI w a' ys) (hl : zs.length <= 2000000) (hl' : ys.length <= 2000000) (b : Bool) (hb : decide (zs = ys) = b) :
 Calls Tryz.prog 76 #[.slice a n cap, .slice a' n' cap'] w fun e w' => e = .returned (.bool b) /\ Below w.heap.size w w' := by
 subst hb hn hn'
 by_cases hy : zs.length = ys.length
 ·have hyi : (zs.length : Int) = (ys.length : Int) := by omega
  have HY : Hid (zs.length = ys.length) := hy
  by_cases h : zs = ys
  ·subst h
   rw [decide_eq_true rfl]
   clear hy hyi
   go_enter Tryz.func76, Tryz.ntmps76
   go_wp2
   go_loopw [5] (fun i wr => ∃ k : Nat, k <= zs.length /\ i = .int .i64 k /\ ∃ n, wr = w.drewN n) (fun i _ => zs.length - (intOf i).toNat)
   case atStart => exact ⟨0, Nat.zero_le _, rfl, 0, rfl⟩
   case round =>
    obtain ⟨k, hk, rfl, n, rfl⟩ := hrel
    by_cases hlt : k < zs.length
    ·obtain ⟨b, off, rfl, _, hc⟩ := cell_atI hs hlt
     obtain ⟨b', off', rfl, _, hc'⟩ := cell_atI hs' hlt
     have hi : (k : Int) < (zs.length : Int) := by omega
     clear hs hs'
     go_wp2
     go_quiet (fail)
     go_wp2
     go_roundw
     case rel => first | exact ⟨k + 1, by omega, by go_num, _, rfl⟩ | exact ⟨_, _, ⟨k + 1, by omega, by go_num, _, rfl⟩, rfl, rfl⟩
     case measure => simp [intOf]; omega
    clear hs hs'
    go_wp2
    go_ret
    exact ⟨rfl, drew_refl _ _⟩
  rw [decide_eq_false h]
  obtain ⟨d, hd, hdn, hdj⟩ := first_diff 0 zs ys hy h
  have HD : Hid (∀ j, j < d -> zs.getD j 0 = ys.getD j 0) := hdj
  clear hdj h
  rw [<- hy]
  clear hy hyi
  go_enter Tryz.func76, Tryz.ntmps76
  go_wp2
  go_loopw [5] (fun i wr => ∃ k : Nat, k <= d /\ i = .int .i64 k /\ ∃ n, wr = w.drewN n) (fun i _ => d - (intOf i).toNat)
  case atStart => exact ⟨0, Nat.zero_le _, rfl, 0, rfl⟩
  case round =>
   obtain ⟨k, hk, rfl, n, rfl⟩ := hrel
   have hlt : k < zs.length := by omega
   obtain ⟨b, off, rfl, _, hc⟩ := cell_atI hs hlt
   obtain ⟨b', off', rfl, _, hc'⟩ := cell_atI hs' (show k < ys.length by have := HY.out; omega)
   have hi : (k : Int) < (zs.length : Int) := by omega
   by_cases hkd : k < d
   ·rw [<- HD.out k hkd] at hc'
    clear hs hs'
    go_wp2
    go_quiet (fail)
    go_wp2
    go_roundw
    case rel => first | exact ⟨k + 1, by omega, by go_num, _, rfl⟩ | exact ⟨_, _, ⟨k + 1, by omega, by go_num, _, rfl⟩, rfl, rfl⟩
    case measure => simp [intOf]; omega
   obtain rfl : k = d := by omega
   clear hs hs'
   generalize zs.getD k 0 = x at *
   generalize ys.getD k 0 = y at *
   go_wp2
   go_quiet (fail)
   go_wp2
   go_ret
   exact ⟨rfl, bel_drewN (drew_refl _ _) _⟩
 rw [decide_eq_false (fun h => hy (by rw [h]))]
 have hyi : ¬ (zs.length : Int) = (ys.length : Int) := by omega
 clear hs hs' hy
 go_enter Tryz.func76, Tryz.ntmps76
 go_wp2
 go_ret
 exact ⟨rfl, Below.refl _ _⟩
def nfB (bs : List Bool) (n : Nat) : Bool := decide (∀ k, k < bs.length -> n <= k -> bs.getD k false = false)
theorem nfB_no {bs : List Bool} {n k : Nat} (h1 : n <= k) (h2 : k < bs.length) (h : bs.getD k false = true) : nfB bs n = false :=
 decide_eq_false (fun hh => by rw [hh k h2 h1] at h; cases h)
theorem indexB_any (a : Option Addr) (n cap : Nat) (zs : List Bool) (w : World) (hn : n = zs.length) (hs : SlB w a zs) (hl : zs.length <= 2000000) :
 Calls Tryz.prog 136 #[.slice a n cap, .bool true] w fun e w' => ∃ i : Int, e = .returned (.int .i64 i) /\ decide (i ≥ 0) = !nfB zs 0 /\ Below w.heap.size w w' := by
 subst hn
 go_enter Tryz.func136, Tryz.ntmps136
 go_wp2
 go_loopw [8] (fun i wr => ∃ k : Nat, k <= zs.length /\ i = .int .i64 k /\ (∀ j, j < k -> zs.getD j false = false) /\ wr = w) (fun i _ => zs.length - (intOf i).toNat)
 case atStart => exact ⟨0, Nat.zero_le _, rfl, fun j hj => by omega, rfl⟩
 case round =>
  obtain ⟨k, hk, rfl, hz, rfl⟩ := hrel
  have HZ : Hid (∀ j, j < k -> zs.getD j false = false) := hz
  clear hz
  by_cases hlt : k < zs.length
  ·obtain ⟨b, off, rfl, _, hc⟩ := cell_atB hs hlt
   have hi : (k : Int) < (zs.length : Int) := by omega
   cases hx : zs.getD k false
   ·rw [hx] at hc
    have HN : Hid (∀ j, j < k + 1 -> zs.getD j false = false) := by
     intro j hj
     by_cases h : j < k
     ·exact HZ.out j h
     rw [show j = k by omega]; exact hx
    clear hs hx
    go_wp2
    go_roundw
    case rel => exact ⟨k + 1, by omega, by go_num, HN.out, trivial⟩
    case measure => simp [intOf]; omega
   rw [hx] at hc
   have HX : Hid (nfB zs 0 = false) := nfB_no (Nat.zero_le _) hlt hx
   clear hs hx
   go_wp2
   go_ret
   exact ⟨k, rfl, by rw [HX.out]; simp, Below.refl _ _⟩
  have HX : Hid (nfB zs 0 = true) := decide_eq_true (fun j hj _ => HZ.out j (by omega))
  clear hs
  go_wp2
  go_ret
  exact ⟨-1, rfl, by rw [HX.out]; rfl, Below.refl _ _⟩
theorem containsB_any (a : Option Addr) (n cap : Nat) (zs : List Bool) (w : World) (hn : n = zs.length) (hs : SlB w a zs) (hl : zs.length <= 2000000) (b : Bool) (hb : nfB zs 0 = b) :
 Calls Tryz.prog 131 #[.slice a n cap, .bool true] w fun e w' => e = .returned (.bool (!b)) /\ Below w.heap.size w w' := by
 have HS : Hid (SlB w a zs /\ n = zs.length) := ⟨hs, hn⟩
 have HB : Hid (nfB zs 0 = b) := hb
 clear hs hn hb
 go_enter Tryz.func131, Tryz.ntmps131
 go_wp2_with fail
 refine (indexB_any a n cap zs _ HS.out.2 HS.out.1 hl).mono ?_
 rintro e w1 ⟨i, rfl, hi, b'⟩
 rw [HB.out] at hi
 have HI : Hid (decide (i ≥ 0) = !b) := hi
 clear hi
 go_wp2
 go_ret
 exact ⟨by first | (rw [<- HI.out]; rfl) | exact congrArg (fun x => Ending.returned (Value.bool x)) HI.out, b'⟩
end Go.Proofs.YtlhjiiifmfgnoaaGreat
namespace Go.Proofs.YtlhjiiifmfgnoaaGreat
open Go.RowKit
def word2 (x y : Int) : Int := bits BinOp.or IntKind.i64 (x * 256) y
end Go.Proofs.YtlhjiiifmfgnoaaGreat

/- Texts that the proof needs, joined: Mt6. -/
import Derived.Test.YtlhjiiifmfgnoaaGreatV18
set_option linter.unusedVariables false
set_option linter.unusedSimpArgs false
set_option maxHeartbeats 8000000
set_option maxRecDepth 20000
namespace Go.Proofs.YtlhjiiifmfgnoaaGreat
open Go.RowKit Go.Joins Go.ChangeMaps
def FlA (w : World) (lo : Nat) (ob : Option Nat) (ts : List Tr) (vs : List Value) : Prop := vs.length = ts.length /\ ∃ K : Nat -> Sk, ∀ i u, vs[i]? = some u -> Fit w (trs ts i) (K i) u /\ ∀ b, (K i).bl b -> lo <= b /\ ob ≠ some b
theorem Fl.flA {w : World} {lo : Nat} {ob : Option Nat} {ts : List Tr} {vs : List Value} (h : Fl w lo ts vs) (hb : ∀ b, ob = some b -> b < lo) : FlA w lo ob ts vs := by
 obtain ⟨h0, K, h⟩ := h
 exact ⟨h0, K, fun i u hu => ⟨(h i u hu).1, fun b hb9 => ⟨(h i u hu).2 b hb9, fun q => by have := hb b q; have := (h i u hu).2 b hb9; omega⟩⟩⟩
theorem FlA.lo {w : World} {lo lo' : Nat} {ob : Option Nat} {ts : List Tr} {vs : List Value} (h : FlA w lo ob ts vs) (hl : lo' <= lo) : FlA w lo' ob ts vs := by
 obtain ⟨h0, K, h⟩ := h
 exact ⟨h0, K, fun i u hu => ⟨(h i u hu).1, fun b hb => ⟨Nat.le_trans hl ((h i u hu).2 b hb).1, ((h i u hu).2 b hb).2⟩⟩⟩
theorem FlA.below {w w' : World} {lo : Nat} {ob : Option Nat} {ts : List Tr} {vs : List Value} (h : FlA w lo ob ts vs) (hb : Below w.heap.size w w') : FlA w' lo ob ts vs := by
 obtain ⟨h0, K, h⟩ := h
 exact ⟨h0, K, fun i u hu => ⟨(h i u hu).1.below hb, (h i u hu).2⟩⟩
theorem FlA.new {w : World} {lo b : Nat} {ts : List Tr} {vs : List Value} (h : FlA w lo none ts vs) (hb : w.heap.size <= b) : FlA w lo (some b) ts vs := by
 obtain ⟨h0, K, h⟩ := h
 exact ⟨h0, K, fun i u hu => ⟨(h i u hu).1, fun x hx => ⟨((h i u hu).2 x hx).1, fun q => by have := (h i u hu).1.lt hx; have := Option.some.inj q; omega⟩⟩⟩
theorem FlA.kept {w w' : World} {lo b : Nat} {ts : List Tr} {vs : List Value} (h : FlA w lo (some b) ts vs) (hg : w.grownBy w' (some b)) : Fl w' lo ts vs := by
 obtain ⟨h0, K, h⟩ := h
 exact ⟨h0, K, fun i u hu => ⟨(h i u hu).1.same hg.size (fun x hx => hg.block x ((h i u hu).1.lt hx) (fun q => ((h i u hu).2 x hx).2 q.symm)), fun x hx => ((h i u hu).2 x hx).1⟩⟩
theorem FlA.app {w : World} {lo : Nat} {ob : Option Nat} {ts us : List Tr} {vs xs : List Value} (h1 : FlA w lo ob ts vs) (h2 : FlA w lo ob us xs) : FlA w lo ob (ts ++ us) (vs ++ xs) := by
 obtain ⟨a0, K, a⟩ := h1
 obtain ⟨b0, L, b⟩ := h2
 refine ⟨by simp [a0, b0], fun i => if i < ts.length then K i else L (i - ts.length), fun i v hv => ?_⟩
 by_cases e : i < ts.length
 ·have e' : i < vs.length := by omega
  rw [List.getElem?_append_left e'] at hv
  simp only [if_pos e]
  have : trs (ts ++ us) i = trs ts i := by
   unfold trs
   simp [List.getD_eq_getElem?_getD, List.getElem?_append_left e]
  rw [this]
  exact a i v hv
 have e' : vs.length <= i := by omega
 rw [List.getElem?_append_right e', a0] at hv
 simp only [if_neg e]
 have : trs (ts ++ us) i = trs us (i - ts.length) := by
  unfold trs
  simp [List.getD_eq_getElem?_getD, List.getElem?_append_right (Nat.le_of_not_lt e)]
 rw [this]
 exact b _ v hv
theorem FlA.leaf {w : World} {lo : Nat} {ob : Option Nat} {ts : List Tr} {vs : List Value} (v : Value) (h : FlA w lo ob ts vs) : FlA w lo ob (.leaf v :: ts) (v :: vs) :=
 FlA.app (ts := [.leaf v]) (vs := [v]) ⟨rfl, fun _ => .leaf, fun i u hu => by
  match i, hu with
  | 0, hu => obtain rfl := Option.some.inj (show some v = some u from hu); exact ⟨⟨rfl, rfl⟩, fun b hb => hb.elim⟩
  | i + 1, hu => simp at hu⟩ h
theorem run_alloc_y {P : Program} {ρ : Operand -> Value} {o : Oper} {w : World} (ty : TypeId) (ho : o.op = .alloc ty) (cs : Array Value) (n b : Nat) (hi : (P.info? ty).map (fun i => (i.zero, i.size, i.bytes)) = some (some (.agg cs), n, b)) : (execOp ρ o).run P w = .ok (.value (.pointer (some ⟨w.heap.size, 0, none⟩))) (w.alloc (.cells cs ty)) := by
 have hz : (zeroValue ty).run P w = .ok (.agg cs) w := by
  cases hq : P.info? ty with
  | none => simp [hq] at hi
  | some i => simp [hq] at hi; simp [zeroValue, typeInfo, hq, hi.1]
 unfold execOp
 simp only [ho]
 rw [Sem.run_bind]
 have h9 : (Instr.alloc ty true (.tuple #[])).run P w = .ok (.pointer (some ⟨w.heap.size, 0, none⟩)) (w.alloc (.cells cs ty)) := by
  unfold Instr.alloc
  rw [Sem.run_bind, hz]
  rfl
 rw [h9]
 rfl
theorem Rd.lo0 {w : World} {lo : Nat} {t : Tr} {v : Value} (h : Rd w lo t v) : Rd w 0 t v := h.mono (Nat.zero_le _)
def ElX (w : World) (base X : Nat) (v : Value) (ts : List Tr) (vs : List Value) : Prop :=
 ∃ K : Nat -> Sk, ∀ i u, vs[i]? = some u -> Fit w (trs ts i) (K i) u /\ ∀ b, (K i).bl b -> base <= b /\ v.ownBlock ≠ some b /\ b ≠ X
theorem ElX.kept {w w' : World} {base X : Nat} {v v' : Value} {ts : List Tr} {vs : List Value} (h : ElX w base X v ts vs) (hg : w.grownBy w' v.ownBlock) (hv : v'.ownBlock = v.ownBlock \/ v'.ownBlock = some w.heap.size) : ElX w' base X v' ts vs := by
 obtain ⟨K, h⟩ := h
 refine ⟨K, fun i u hu => ⟨(h i u hu).1.same hg.size (fun b hb => hg.block b ((h i u hu).1.lt hb) (fun e => ((h i u hu).2 b hb).2.1 e.symm)), fun b hb => ⟨((h i u hu).2 b hb).1, ?_, ((h i u hu).2 b hb).2.2⟩⟩⟩
 rcases hv with e | e
 ·rw [e]; exact ((h i u hu).2 b hb).2.1
 rw [e]
 intro q
 have := (h i u hu).1.lt hb
 have := Option.some.inj q
 omega
def LsX (w : World) (base X : Nat) (e : TypeId) (s : Nat) (v : Value) (n : Nat) (f : Nat -> List Tr) : Prop :=
 ∃ F : Nat -> List Value, w.ownsRow base e s v n ((List.range n).flatMap F) /\ ∀ k, k < n -> (F k).length = s /\ ElX w base X v (f k) (F k)
theorem LsG.toX {w : World} {base X : Nat} {e : TypeId} {s n : Nat} {v : Value} {f : Nat -> List Tr} (h : LsG w base e s v n f) (hX : w.heap.size <= X) : LsX w base X e s v n f := by
 obtain ⟨F, h1, h2⟩ := h
 refine ⟨F, h1, fun k hk => ⟨(h2 k hk).1, ?_⟩⟩
 obtain ⟨K, hK⟩ := (h2 k hk).2
 exact ⟨K, fun i u hu => ⟨(hK i u hu).1, fun b hb => ⟨((hK i u hu).2 b hb).1, ((hK i u hu).2 b hb).2, by have := (hK i u hu).1.lt hb; omega⟩⟩⟩
theorem LsX.toG {w : World} {base X : Nat} {e : TypeId} {s n : Nat} {v : Value} {f : Nat -> List Tr} (h : LsX w base X e s v n f) : LsG w base e s v n f := by
 obtain ⟨F, h1, h2⟩ := h
 refine ⟨F, h1, fun k hk => ⟨(h2 k hk).1, ?_⟩⟩
 obtain ⟨K, hK⟩ := (h2 k hk).2
 exact ⟨K, fun i u hu => ⟨(hK i u hu).1, fun b hb => ⟨((hK i u hu).2 b hb).1, ((hK i u hu).2 b hb).2.1⟩⟩⟩
theorem LsX.below {w w' : World} {base X : Nat} {e : TypeId} {s n : Nat} {v : Value} {f : Nat -> List Tr} (h : LsX w base X e s v n f) (hb : Below w.heap.size w w') : LsX w' base X e s v n f := by
 obtain ⟨F, h1, h2⟩ := h
 refine ⟨F, ?_, fun k hk => ⟨(h2 k hk).1, ?_⟩⟩
 ·refine World.ownsRow.kept h1 (grown_below hb (some w.heap.size)) ?_
  cases e : v.ownBlock with
  | none => exact .inl rfl
  | some k => exact .inr (fun e2 => by have := (World.ownsRow.lt h1 k e).2; simp at e2; omega)
 obtain ⟨K, h3⟩ := (h2 k hk).2
 exact ⟨K, fun i u hu => ⟨(h3 i u hu).1.below hb, (h3 i u hu).2⟩⟩
theorem LsX.congr {w : World} {base X : Nat} {e : TypeId} {s n : Nat} {v : Value} {f f' : Nat -> List Tr} (h : LsX w base X e s v n f) (he : ∀ k, k < n -> f k = f' k) : LsX w base X e s v n f' := by
 obtain ⟨F, h1, h2⟩ := h
 exact ⟨F, h1, fun k hk => ⟨(h2 k hk).1, by rw [<- he k hk]; exact (h2 k hk).2⟩⟩
theorem LsX.st {w : World} {base X o : Nat} {e t : TypeId} {s n : Nat} {v : Value} {f : Nat -> List Tr} {cs : Array Value} {vs : List Value} (h : LsX w base X e s v n f) (hk : Blk w X t cs) (ht : t ≠ e) : LsX (setL w X o vs) base X e s v n f := by
 obtain ⟨F, h1, h2⟩ := h
 have hg : w.grownBy (setL w X o vs) (some X) := setL_gw _ _ _
 refine ⟨F, row_stL h1 ⟨_, hk⟩ ht, fun k hk => ⟨(h2 k hk).1, ?_⟩⟩
 obtain ⟨K, h3⟩ := (h2 k hk).2
 exact ⟨K, fun i u hu => ⟨(h3 i u hu).1.same hg.size (fun b hb => hg.block b ((h3 i u hu).1.lt hb) (fun q => ((h3 i u hu).2 b hb).2.2 (Option.some.inj q))), (h3 i u hu).2⟩⟩
theorem Fl.elX {w : World} {base lo X : Nat} {v : Value} {ts : List Tr} {vs : List Value} (h : Fl w lo ts vs) (hl : base <= lo) (hv : ∀ b, v.ownBlock = some b -> b < lo) (hX : X < lo) : ElX w base X v ts vs := by
 obtain ⟨h0, K, h⟩ := h
 exact ⟨K, fun i u hu => ⟨(h i u hu).1, fun b hb => ⟨Nat.le_trans hl ((h i u hu).2 b hb), (fun e => by have := hv b e; have := (h i u hu).2 b hb; omega), by have := (h i u hu).2 b hb; omega⟩⟩⟩
theorem wpList_appX {w : World} {ops : Array Oper} {rest : List Oper} {o : Oper} {a : Act} {Q : Exit -> Act -> World -> Prop} (hgd : o.guard = none) (s x : Operand) (t e : TypeId) (sz by' : Nat) (z : Value)
 (ho : o.op = .call { callee := .builtin .append, args := #[s, x], argTypes := #[t, t] }) (ht : Tryz.prog.underlying t = some (.slice e)) (hinfo : (Tryz.prog.info? e).map (fun i => (i.zero, i.size, i.bytes)) = some (some z, sz, by')) (hzs : z.cells.size = sz) (hsz : 0 < sz) (hby : by' <= 10000)
 (base X : Nat) (v : Value) (n : Nat) (f : Nat -> List Tr) (hs : a.eval s = v) (hown : LsX w base X e sz v n f)
 (g c : Nat) (vs : List Value) (hx : a.eval x = .slice (some ⟨g, 0, none⟩) 1 c) (hvs : vs.length = sz) (hb : ∀ j u, vs[j]? = some u -> w.cell? ⟨g, j, none⟩ = some u) (h1 : ∀ u ∈ vs, u.oneCell' = true) (hel : ElX w base X v (f n) vs) (hlen : n <= 2000000) (hbase : base <= w.heap.size)
 (h : ∀ v' w', LsX w' base X e sz v' (n + 1) f -> w.grownBy w' v.ownBlock -> (∀ k, v.ownBlock = some k -> base <= k) -> wpList Tryz.prog ops Q rest (a.put o.dst v') w') : wpList Tryz.prog ops Q (o :: rest) a w := by
 obtain ⟨F, r1, r2⟩ := hown
 obtain ⟨i0, hi, hzz⟩ := Option.map_eq_some_iff.1 hinfo
 simp only [Prod.mk.injEq] at hzz
 obtain ⟨hz0, hz1, hz2⟩ := hzz
 refine wpList_append_own_at w hgd s x t ho base e i0 z sz by' ht hi hz0 hz1 hz2 hzs hsz v n ((List.range n).flatMap F) hs r1 ⟨g, 0, none⟩ 1 c vs hx (by rw [hvs]; simp) (fun j u hu => by
  have e1 : (⟨g, 0, none⟩ : Addr).add j = ⟨g, j, none⟩ := by unfold Addr.add; split <;> simp_all
  rw [e1]
  exact hb j u hu) h1 (by unfold maxLen; omega) (by have : (n + 1) * by' <= 2000001 * 10000 := Nat.mul_le_mul (by omega) hby; omega) hbase ?_
 intro v' w' k1 k2 _ k4
 refine h v' w' ⟨fun k => if k = n then vs else F k, ?_, fun k hk => ?_⟩ k2 (fun k hk => (World.ownsRow.lt r1 k hk).1)
 ·rw [fl_push]; exact k1
 by_cases e : k = n
 ·subst e
  simp only [if_true]
  exact ⟨hvs, hel.kept k2 k4⟩
 simp only [if_neg e]
 exact ⟨(r2 k (by omega)).1, (r2 k (by omega)).2.kept k2 k4⟩
theorem fl_row {w : World} {g s n : Nat} {t : TypeId} {F : Nat -> List Value} {T : Nat -> Nat -> Tr} (h : RowS w g t s n F) (hn : n <= maxLen) (hF : ∀ k, k < n -> ∀ j, j < s -> ∃ x, (F k)[j]? = some x /\ Fit w (T k j) .leaf x) : Fl w g [.list s n T] [.slice (some ⟨g, 0, none⟩) n n] := by
 refine Fl.one (K := .row g 0 s n (fun _ _ => .leaf)) ⟨rfl, rfl, n, rfl, Nat.le_refl _, hn, h.lt, h.fro, fun k j hk hj => ?_⟩ (fun b hb => ?_)
 ·obtain ⟨x, hx, hf⟩ := hF k hk j hj
  exact ⟨x, by rw [Nat.zero_add, h.cell hk hj]; exact hx, hf⟩
 rcases hb with rfl | ⟨_, _, _, _, hb⟩
 ·exact Nat.le_refl _
 exact hb.elim
theorem flB_new (u : World) (n : Nat) (hn : n <= 2000000) : Fl (u.alloc (.cells (madeCells (Value.bool false).cells (n * 1)) 4)) u.heap.size [boolsT (List.replicate n false)] [.slice (some ⟨u.heap.size, 0, none⟩) n n] := by
 have h : RowS (u.alloc (.cells (madeCells (Value.bool false).cells (n * 1)) 4)) u.heap.size 4 1 n (fun _ => [.bool false]) := RowS.made u [.bool false] n 4 (by simp)
 unfold boolsT
 rw [List.length_replicate]
 refine fl_row h (by unfold maxLen; omega) (fun k hk j hj => ⟨.bool false, ?_, rfl, ?_⟩)
 ·have : j = 0 := by omega
  subst this; rfl
 show Value.bool false = .bool ((List.replicate n false).getD k false)
 congr 1
 simp [List.getD_eq_getElem?_getD, hk]
theorem flR_new (u : World) (n : Nat) (hn : n <= 2000000) : Fl (u.alloc (.cells (madeCells (Value.agg rzc).cells (n * 6)) 89)) u.heap.size [.list 6 n (fun _ => trs (aT rz))] [.slice (some ⟨u.heap.size, 0, none⟩) n n] := by
 have h : RowS (u.alloc (.cells (madeCells (Value.agg rzc).cells (n * 6)) 89)) u.heap.size 89 6 n (fun _ => rzc.toList) := RowS.made u rzc.toList n 89 (by simp)
 refine fl_row h (by unfold maxLen; omega) (fun k hk j hj => ?_)
 match j, hj with
 | 0, _ => exact ⟨_, rfl, rfl, rfl⟩
 | 1, _ => exact ⟨_, rfl, rfl, rfl⟩
 | 2, _ => exact ⟨_, rfl, rfl, rfl⟩
 | 3, _ => exact ⟨_, rfl, rfl, rfl⟩
 | 4, _ => exact ⟨_, rfl, rfl, none, 0, rfl⟩
 | 5, _ => exact ⟨_, rfl, rfl, none, 0, rfl⟩
theorem specPend_nw (X : VT) (so ta un : Int) (Q : VQ) (np : Nat) (g : Nat -> VP) (b1 : Option Addr) (d1 : Nat) (b2 : Option Addr) (d2 : Nat) (b3 : Option Addr) (d3 : Nat) (h1 h2 : Nat) (lo : Nat) (w : World) (f : Fl w lo (dT (nwD X so ta un Q np g)) (dL (nwD X so ta un Q np g) b1 Q.ws.length d1 b2 Q.bs.length d2 b3 np d3 (some ⟨h1, 0, none⟩) np np (some ⟨h2, 0, none⟩) np np)) (hb : BdD (nwD X so ta un Q np g)) :
 Calls Tryz.prog 27 #[.agg (dL (nwD X so ta un Q np g) b1 Q.ws.length d1 b2 Q.bs.length d2 b3 np d3 (some ⟨h1, 0, none⟩) np np (some ⟨h2, 0, none⟩) np np).toArray] w fun e w' => e = .returned (.bool (okPd (nwD X so ta un Q np g))) /\ Below w.heap.size w w' := by
 have hlr : (nwD X so ta un Q np g).hs.length = np := by simp [nwD]
 have r11 : Rd w 0 (boolsT (nwD X so ta un Q np g).hs) (.slice (some ⟨h1, 0, none⟩) (nwD X so ta un Q np g).hs.length np) := by rw [hlr]; exact (f.rd 11 _ rfl).lo0
 have h := specPend_any (nwD X so ta un Q np g) b1 d1 b2 d2 b3 d3 (some ⟨h1, 0, none⟩) np (some ⟨h2, 0, none⟩) np w (f.rd 7 _ rfl).lo0 (f.rd 8 _ rfl).lo0 (f.rd 10 _ rfl).lo0 r11 (f.rd 12 _ rfl).lo0 hb
 rw [hlr] at h
 exact h
def OpS (w w' : World) (e : Ending) (ok : Bool) (X : VT) (D : VD) : Prop :=
 ∃ a c, e = .returned (.tuple #[.agg (tL (opT ok X D) a (opT ok X D).m c).toArray, .int .i64 (opI ok X), .bool ok]) /\ Fl w' w.heap.size [.list 13 (opT ok X D).m (fun i => trs (dT ((opT ok X D).f i)))] [.slice a (opT ok X D).m c] /\ Below w.heap.size w w'
theorem specTableOpen_any (X : VT) (a : Option Addr) (c : Nat) (so ta un : Int) (Q : VQ) (q1 : Option Addr) (k1 : Nat) (q2 : Option Addr) (k2 : Nat) (np : Nat) (g : Nat -> VP) (p3 : Option Addr) (k3 : Nat) (w : World)
 (hT : Rd w 0 (.list 13 X.m (fun i => trs (dT (X.f i)))) (.slice a X.m c)) (hzT : szT 2 (trs (tT X)) <= 1048576) (r1 : Rd w 0 (intsT Q.ws) (.slice q1 Q.ws.length k1)) (r2 : Rd w 0 (boolsT Q.bs) (.slice q2 Q.bs.length k2)) (r3 : Rd w 0 (.list 8 np (fun i => trs (pT (g i)))) (.slice p3 np k3)) (hzD : szT 6 (trs (qT Q)) <= 1048576 /\ (Tr.list 8 np (fun i => trs (pT (g i)))).sz <= 1048576) :
 Calls Tryz.prog 7 #[.agg (tL X a X.m c).toArray, .int .i64 so, .int .i64 ta, .int .i64 un, .agg (qL Q q1 Q.ws.length k1 q2 Q.bs.length k2).toArray, .slice p3 np k3] w fun e w' => OpS w w' e (okO X (nwD X so ta un Q np g)) X (nwD X so ta un Q np g) := by
 obtain ⟨B, hB⟩ : ∃ B, B = w.heap.size := ⟨_, rfl⟩
 obtain ⟨W, hW⟩ : ∃ W, W = ((w.alloc (.cells (tL X a X.m c).toArray 35)).alloc (.cells (qL Q q1 Q.ws.length k1 q2 Q.bs.length k2).toArray 39)).alloc (.cells tz 35) := ⟨_, rfl⟩
 have HZ : Hid (szT 6 (trs (qT Q)) <= 1048576 /\ (Tr.list 8 np (fun i => trs (pT (g i)))).sz <= 1048576) := hzD
 have HN : Hid (np <= 1048576) := by
  show np <= 1048576
  have := HZ.out.2
  rw [Tr.sz_list] at this
  omega
 have HR : Hid (Rd w 0 (.list 13 X.m (fun i => trs (dT (X.f i)))) (.slice a X.m c) /\ Rd w 0 (intsT Q.ws) (.slice q1 Q.ws.length k1) /\ Rd w 0 (boolsT Q.bs) (.slice q2 Q.bs.length k2) /\ Rd w 0 (.list 8 np (fun i => trs (pT (g i)))) (.slice p3 np k3) /\ (Tr.list 13 X.m (fun i => trs (dT (X.f i)))).sz <= 1048576 /\ BdT X /\ BdD (nwD X so ta un Q np g) /\ w.heap.size = B) := ⟨hT, r1, r2, r3, by rw [szT_t] at hzT; exact hzT, VT.bd (by omega), nwD_bd X so ta un Q np g hzD HN.out, hB.symm⟩
 have H0 : Hid (Below w.heap.size w W /\ Blk W B 35 (tL X a X.m c).toArray /\ Blk W (B + 1) 39 (qL Q q1 Q.ws.length k1 q2 Q.bs.length k2).toArray /\ Blk W (B + 2) 35 tz) := by
  refine ⟨?_, ?_, ?_, ?_⟩
  ·rw [hW]; exact bel_nx (bel_nx (bel_alloc w _) (bel_alloc _ _)) (bel_alloc _ _)
  ·rw [hW, hB]; exact ((Blk.new w _ _).below (bel_alloc _ _)).below (bel_alloc _ _)
  ·rw [hW, hB]; have := (Blk.new (w.alloc (.cells (tL X a X.m c).toArray 35)) (qL Q q1 Q.ws.length k1 q2 Q.bs.length k2).toArray 39).below (bel_alloc _ (.cells tz 35)); simpa using this
  rw [hW, hB]; have := Blk.new ((w.alloc (.cells (tL X a X.m c).toArray 35)).alloc (.cells (qL Q q1 Q.ws.length k1 q2 Q.bs.length k2).toArray 39)) tz 35; simpa using this
 clear hT r1 r2 r3 hzT hzD
 go_enter Tryz.func7, Tryz.ntmps7
 go_upto_region 1 with fail
 have hB1 : w.heap.size + 1 = B + 1 := by omega
 have hB2 : w.heap.size + 1 + 1 = B + 2 := by omega
 rw [<- hW, hB2, hB1, <- hB]
 clear hW hB hB1 hB2
 obtain ⟨⟨y0, y1⟩, yf⟩ := H0.out.2.1.tc2
 clear yf
 go_wp2_with fail
 refine (l13Copy_m X.nx X.m X.f a X.m c _ (HR.out.1.below H0.out.1) HR.out.2.2.2.2.1).mono ?_
 rintro e w1 ⟨p9, q9, rfl, L9, b1⟩
 obtain ⟨wr, hwr⟩ : ∃ W1, W1 = w1.alloc (.cells (tL X p9 X.m q9).toArray 35) := ⟨_, rfl⟩
 obtain ⟨G, hG⟩ : ∃ G, G = w1.heap.size := ⟨_, rfl⟩
 have b2 : Below w1.heap.size w1 wr := by rw [hwr]; exact bel_alloc _ _
 have bb := bel_nx b1 b2
 have HK : Hid (Blk wr B 35 (tL X a X.m c).toArray /\ Blk wr (B + 1) 39 (qL Q q1 Q.ws.length k1 q2 Q.bs.length k2).toArray /\ Rd wr 0 (intsT Q.ws) (.slice q1 Q.ws.length k1) /\ Rd wr 0 (boolsT Q.bs) (.slice q2 Q.bs.length k2) /\ Rd wr 0 (.list 8 np (fun i => trs (pT (g i)))) (.slice p3 np k3) /\ Below w.heap.size w wr /\ Blk wr (B + 2) 35 tz /\ Blk wr G 35 (tL X p9 X.m q9).toArray /\ LsX wr (B + 3) G 61 13 (.slice p9 X.m q9) X.m (fun k => dT (X.f k)) /\ B + 2 < G) := ⟨H0.out.2.1.below bb, H0.out.2.2.1.below bb, HR.out.2.1.below (bel_nx H0.out.1 bb), HR.out.2.2.1.below (bel_nx H0.out.1 bb), HR.out.2.2.2.1.below (bel_nx H0.out.1 bb), bel_nx H0.out.1 bb, H0.out.2.2.2.below bb, by rw [hwr, hG]; exact Blk.new _ _ _, ((L9.mono (base' := B + 3) (by have := H0.out.2.2.2.lt; omega)).toX (X := G) (by rw [hG]; exact Nat.le_refl _)).below b2, by rw [hG]; exact (H0.out.2.2.2.below b1).lt⟩
 go_upto_region 2 with fail
 rw [<- hG]
 have hwr' : wr = w1.alloc (.cells #[.int .i64 X.nx, .slice p9 X.m q9] 35) := hwr
 rw [<- hwr']
 clear hwr hwr' hG b1 b2 bb L9 y0 y1 H0
 try go_simp
 refine wp_region_any (by kernel_rfl) ?_
 refine wpAny_tb 17 16 16 (fun u => Below wr.heap.size wr u) (fun b u => Blk u b 61 pd0 /\ wr.heap.size <= b) (fun j σ u => ∃ b9 b1 d1 b2 d2 b3 d3 h1 h2, σ 16 = .pointer (some ⟨b9, 0, none⟩) /\ wr.heap.size <= b9 /\ Blk u b9 61 (dL (nwD X so ta un Q np g) b1 Q.ws.length d1 b2 Q.bs.length d2 b3 np d3 (some ⟨h1, 0, none⟩) np np (some ⟨h2, 0, none⟩) np np).toArray /\ Fl u wr.heap.size (dT (nwD X so ta un Q np g)) (dL (nwD X so ta un Q np g) b1 Q.ws.length d1 b2 Q.bs.length d2 b3 np d3 (some ⟨h1, 0, none⟩) np np (some ⟨h2, 0, none⟩) np np) /\ Below wr.heap.size wr u) (fun i v ob u => match i with
  | 0 => v = .pointer (some ⟨B, 0, none⟩)
  | 1 => v = .int .i64 X.nx
  | 2 => v = .int .i64 so
  | 3 => v = .int .i64 ta
  | 4 => v = .int .i64 un
  | 5 => v = .agg ((qL Q q1 Q.ws.length k1 q2 Q.bs.length k2)).toArray
  | 6 => ∃ b1 d1 b2 d2, v = .agg (qL Q b1 Q.ws.length d1 b2 Q.bs.length d2).toArray /\ FlA u wr.heap.size ob (qT Q) (qL Q b1 Q.ws.length d1 b2 Q.bs.length d2)
  | 7 => v = .slice p3 np k3
  | 8 => ∃ b3 d3, v = .slice b3 np d3 /\ FlA u wr.heap.size ob ([.list 8 np (fun i => trs (pT (g i)))]) [v]
  | 9 => v = .slice p3 np k3
  | 10 => v = .int .i64 (np : Int)
  | 11 => ∃ h1, v = .slice (some ⟨h1, 0, none⟩) np np /\ FlA u wr.heap.size ob ([boolsT (List.replicate np false)]) [v]
  | 12 => v = .slice p3 np k3
  | 13 => v = .int .i64 (np : Int)
  | 14 => ∃ h2, v = .slice (some ⟨h2, 0, none⟩) np np /\ FlA u wr.heap.size ob ([.list 6 np (fun _ => trs (aT rz))]) [v]
  | 15 => ∃ b1 d1 b2 d2 b3 d3 h1 h2, v = .agg (dL (nwD X so ta un Q np g) b1 Q.ws.length d1 b2 Q.bs.length d2 b3 np d3 (some ⟨h1, 0, none⟩) np np (some ⟨h2, 0, none⟩) np np).toArray /\ FlA u wr.heap.size ob (dT (nwD X so ta un Q np g)) (dL (nwD X so ta un Q np g) b1 Q.ws.length d1 b2 Q.bs.length d2 b3 np d3 (some ⟨h1, 0, none⟩) np np (some ⟨h2, 0, none⟩) np np)
  | _ => True) (by kernel_rfl) (by kernel_rfl) (by decide) (by kernel_rfl) (by decide) rfl (fun u u' h hb => bel_nx h hb) (fun b u u' h hb => ⟨h.1.below hb, h.2⟩) ?_ ?_ (by first | exact Below.refl _ _ | exact (Below.refl _ _).drew) ?_ ?_ ?_ ?_ ?_ _ _ rfl (by decide) (fun i => by simp [Array.getD]; try (split <;> rfl))
 ·intro i v ob u u' h hb
  match i, h with
  | 0, h => exact h
  | 1, h => exact h
  | 2, h => exact h
  | 3, h => exact h
  | 4, h => exact h
  | 5, h => exact h
  | 6, ⟨b1, d1, b2, d2, e, r⟩ => exact ⟨b1, d1, b2, d2, e, r.below hb⟩
  | 7, h => exact h
  | 8, ⟨b3, d3, e, r⟩ => exact ⟨b3, d3, e, r.below hb⟩
  | 9, h => exact h
  | 10, h => exact h
  | 11, ⟨h1, e, r⟩ => exact ⟨h1, e, r.below hb⟩
  | 12, h => exact h
  | 13, h => exact h
  | 14, ⟨h2, e, r⟩ => exact ⟨h2, e, r.below hb⟩
  | 15, ⟨b1, d1, b2, d2, b3, d3, h1, h2, e, r⟩ => exact ⟨b1, d1, b2, d2, b3, d3, h1, h2, e, r.below hb⟩
  | 16, _ => trivial
  | _ + 17, _ => trivial
 ·intro i v u u' b9 h hb9 hb
  match i, h with
  | 0, h => exact h
  | 1, h => exact h
  | 2, h => exact h
  | 3, h => exact h
  | 4, h => exact h
  | 5, h => exact h
  | 6, ⟨b1, d1, b2, d2, e, r⟩ => exact ⟨b1, d1, b2, d2, e, (r.new hb9).below hb⟩
  | 7, h => exact h
  | 8, ⟨b3, d3, e, r⟩ => exact ⟨b3, d3, e, (r.new hb9).below hb⟩
  | 9, h => exact h
  | 10, h => exact h
  | 11, ⟨h1, e, r⟩ => exact ⟨h1, e, (r.new hb9).below hb⟩
  | 12, h => exact h
  | 13, h => exact h
  | 14, ⟨h2, e, r⟩ => exact ⟨h2, e, (r.new hb9).below hb⟩
  | 15, ⟨b1, d1, b2, d2, b3, d3, h1, h2, e, r⟩ => exact ⟨b1, d1, b2, d2, b3, d3, h1, h2, e, (r.new hb9).below hb⟩
  | 16, _ => trivial
  | _ + 17, _ => trivial
 rotate_left
 ·intro u o ρ hR ho
  simp only [List.getElem?_toArray, List.getElem?_cons_zero, List.getElem?_cons_succ, Option.some.injEq] at ho
  subst ho
  exact ⟨rfl, _, run_alloc_y 61 rfl pd0 13 184 Tryz.infoD61, ⟨Blk.new _ _ _, hR.size⟩, by simp, (Below.refl _ _).alloc (Nat.le_refl _) _⟩
 ·intro u i o ρ ob hi hiA hR hbo ho hρ hc hf hd
  obtain rfl | rfl | rfl | rfl | rfl | rfl | rfl | rfl | rfl | rfl | rfl | rfl | rfl | rfl | rfl | rfl : i = 0 \/ i = 1 \/ i = 2 \/ i = 3 \/ i = 4 \/ i = 5 \/ i = 6 \/ i = 7 \/ i = 8 \/ i = 9 \/ i = 10 \/ i = 11 \/ i = 12 \/ i = 13 \/ i = 14 \/ i = 15 := by omega
  all_goals (simp only [List.getElem?_toArray, List.getElem?_cons_zero, List.getElem?_cons_succ, Option.some.injEq] at ho; subst ho)
  ·have s6 : ρ (.tmp 6) = .pointer (some ⟨B, 0, none⟩) := (hρ 6 (by kernel_rfl)).trans rfl
   exact .inl ⟨rfl, .inl ⟨.pointer (some ⟨B, 0, none⟩), u, run_field_op rfl s6 (by go_simp), rfl, Below.refl _ _⟩⟩
  ·have h0 : ρ (.tmp 19) = .pointer (some ⟨B, 0, none⟩) := hd ⟨0, .data⟩ (by simp) rfl (by decide) 19 rfl
   have y9 : u.cell? ⟨B, 0, none⟩ = some (.int .i64 X.nx) := (HK.out.1.below hR).rng 0 _ rfl
   have hr : (Instr.loadAt 3 (.pointer (some ⟨B, 0, none⟩))).run Tryz.prog u = .ok (.int .i64 X.nx) u := by go_simp
   exact .inl ⟨rfl, .inl ⟨.int .i64 X.nx, u, run_load_op rfl h0 hr, rfl, Below.refl _ _⟩⟩
  ·have s1 : ρ (.tmp 1) = .int .i64 so := (hρ 1 (by kernel_rfl)).trans rfl
   exact .inl ⟨rfl, .inl ⟨_, u, rfl, s1, Below.refl _ _⟩⟩
  ·have s2 : ρ (.tmp 2) = .int .i64 ta := (hρ 2 (by kernel_rfl)).trans rfl
   exact .inl ⟨rfl, .inl ⟨_, u, rfl, s2, Below.refl _ _⟩⟩
  ·have s3 : ρ (.tmp 3) = .int .i64 un := (hρ 3 (by kernel_rfl)).trans rfl
   exact .inl ⟨rfl, .inl ⟨_, u, rfl, s3, Below.refl _ _⟩⟩
  ·have s10 : ρ (.tmp 10) = .pointer (some ⟨(B + 1), 0, none⟩) := (hρ 10 (by kernel_rfl)).trans rfl
   have hr : (Instr.loadAt 39 (.pointer (some ⟨(B + 1), 0, none⟩))).run Tryz.prog u = .ok (.agg ((qL Q q1 Q.ws.length k1 q2 Q.bs.length k2)).toArray) u := run_loadAt_mid u (B + 1) (0) 39 ((qL Q q1 Q.ws.length k1 q2 Q.bs.length k2)) _ (HK.out.2.1.below hR).rng Tryz.underlying39 rfl (by kernel_rfl)
   exact .inl ⟨rfl, .inl ⟨.agg ((qL Q q1 Q.ws.length k1 q2 Q.bs.length k2)).toArray, u, run_load_op rfl s10 hr, rfl, Below.refl _ _⟩⟩
  ·have h5 : ρ (.tmp 24) = .agg (qL Q q1 Q.ws.length k1 q2 Q.bs.length k2).toArray := hd ⟨5, .data⟩ (by simp) rfl (by decide) 24 rfl
   refine .inl ⟨rfl, .inr ⟨_, _, run_call_op rfl (hf _) (args := #[.agg (qL Q q1 Q.ws.length k1 q2 Q.bs.length k2).toArray]) (by simp [h5]) (by kernel_rfl), ?_⟩⟩
   refine (l10CopyReq_m Q q1 _ k1 q2 _ k2 _ (HK.out.2.2.1.below hR) (HK.out.2.2.2.1.below hR) HZ.out.1).mono ?_
   rintro e u' ⟨b1, d1, b2, d2, he, o1, b'⟩
   exact ⟨_, he, ⟨b1, d1, b2, d2, rfl, (o1.fl.flA hbo).lo hR.size⟩, b'⟩
  ·have s5 : ρ (.tmp 5) = .slice p3 np k3 := (hρ 5 (by kernel_rfl)).trans rfl
   exact .inl ⟨rfl, .inl ⟨_, u, rfl, s5, Below.refl _ _⟩⟩
  ·have h7 : ρ (.tmp 26) = .slice p3 np k3 := hd ⟨7, .data⟩ (by simp) rfl (by decide) 26 rfl
   refine .inl ⟨rfl, .inr ⟨_, _, run_call_op rfl (hf _) (args := #[.slice p3 np k3]) (by simp [h7]) (by kernel_rfl), ?_⟩⟩
   refine (l13CopyParts_m np g p3 _ k3 _ (HK.out.2.2.2.2.1.below hR) HZ.out.2).mono ?_
   rintro e u' ⟨v9, he, L9, b'⟩
   obtain ⟨b3, d3, rfl⟩ := L9.shape
   exact ⟨_, he, ⟨b3, d3, rfl, (L9.fl.flA hbo).lo hR.size⟩, b'⟩
  ·have s5 : ρ (.tmp 5) = .slice p3 np k3 := (hρ 5 (by kernel_rfl)).trans rfl
   exact .inl ⟨rfl, .inl ⟨_, u, rfl, s5, Below.refl _ _⟩⟩
  ·have h9 : ρ (.tmp 28) = .slice p3 np k3 := hd ⟨9, .data⟩ (by simp) rfl (by decide) 28 rfl
   exact .inl ⟨rfl, .inl ⟨.int .i64 (np : Int), u, run_lenz Tryz.underlying41 rfl h9, rfl, Below.refl _ _⟩⟩
  ·have h9 : ρ (.tmp 29) = .int .i64 (np : Int) := hd ⟨10, .data⟩ (by simp) rfl (by decide) 29 rfl
   have hmk := run_make_st (P := Tryz.prog) 26 4 (.bool false) 1 1 Tryz.underlying26 (by kernel_rfl) .i64 .i64 np (by have := HN.out; omega) (by have := HN.out; omega) u
   exact .inl ⟨rfl, .inl ⟨_, _, run_mk_y rfl h9 h9 hmk, ⟨_, rfl, ((flB_new u np (by have := HN.out; omega)).flA hbo).lo hR.size⟩, (Below.refl _ _).alloc (Nat.le_refl _) _⟩⟩
  ·have s5 : ρ (.tmp 5) = .slice p3 np k3 := (hρ 5 (by kernel_rfl)).trans rfl
   exact .inl ⟨rfl, .inl ⟨_, u, rfl, s5, Below.refl _ _⟩⟩
  ·have h12 : ρ (.tmp 31) = .slice p3 np k3 := hd ⟨12, .data⟩ (by simp) rfl (by decide) 31 rfl
   exact .inl ⟨rfl, .inl ⟨.int .i64 (np : Int), u, run_lenz Tryz.underlying41 rfl h12, rfl, Below.refl _ _⟩⟩
  ·have h9 : ρ (.tmp 32) = .int .i64 (np : Int) := hd ⟨13, .data⟩ (by simp) rfl (by decide) 32 rfl
   have hmk := run_make_st (P := Tryz.prog) 59 89 (.agg rzc) 6 80 Tryz.underlying59 (by kernel_rfl) .i64 .i64 np (by have := HN.out; omega) (by have := HN.out; omega) u
   exact .inl ⟨rfl, .inl ⟨_, _, run_mk_y rfl h9 h9 hmk, ⟨_, rfl, ((flR_new u np (by have := HN.out; omega)).flA hbo).lo hR.size⟩, (Below.refl _ _).alloc (Nat.le_refl _) _⟩⟩
  have e1 : ρ (.tmp 20) = .int .i64 X.nx := hd ⟨1, .data⟩ (by simp) rfl (by decide) 20 rfl
  have e2 : ρ (.tmp 21) = .int .i64 so := hd ⟨2, .data⟩ (by simp) rfl (by decide) 21 rfl
  have e3 : ρ (.tmp 22) = .int .i64 ta := hd ⟨3, .data⟩ (by simp) rfl (by decide) 22 rfl
  have e4 : ρ (.tmp 23) = .int .i64 un := hd ⟨4, .data⟩ (by simp) rfl (by decide) 23 rfl
  obtain ⟨b1, d1, b2, d2, e6, r6⟩ : ∃ b1 d1 b2 d2, ρ (.tmp 25) = .agg (qL Q b1 Q.ws.length d1 b2 Q.bs.length d2).toArray /\ FlA u wr.heap.size ob (qT Q) (qL Q b1 Q.ws.length d1 b2 Q.bs.length d2) := hd ⟨6, .data⟩ (by simp) rfl (by decide) 25 rfl
  obtain ⟨b3, d3, e8, r8⟩ : ∃ b3 d3, ρ (.tmp 27) = .slice b3 np d3 /\ FlA u wr.heap.size ob ([.list 8 np (fun i => trs (pT (g i)))]) [ρ (.tmp 27)] := hd ⟨8, .data⟩ (by simp) rfl (by decide) 27 rfl
  obtain ⟨h1, e11, r11⟩ : ∃ h1, ρ (.tmp 30) = .slice (some ⟨h1, 0, none⟩) np np /\ FlA u wr.heap.size ob ([boolsT (List.replicate np false)]) [ρ (.tmp 30)] := hd ⟨11, .data⟩ (by simp) rfl (by decide) 30 rfl
  obtain ⟨h2, e14, r14⟩ : ∃ h2, ρ (.tmp 33) = .slice (some ⟨h2, 0, none⟩) np np /\ FlA u wr.heap.size ob ([.list 6 np (fun _ => trs (aT rz))]) [ρ (.tmp 33)] := hd ⟨14, .data⟩ (by simp) rfl (by decide) 33 rfl
  rw [e8] at r8
  rw [e11] at r11
  rw [e14] at r14
  have r := ((((r6.app (r8.app (r11.app r14))).leaf (.int .i64 un)).leaf (.int .i64 ta)).leaf (.int .i64 so)).leaf (.int .i64 X.nx)
  exact .inl ⟨rfl, .inl ⟨.agg (dL (nwD X so ta un Q np g) b1 Q.ws.length d1 b2 Q.bs.length d2 b3 np d3 (some ⟨h1, 0, none⟩) np np (some ⟨h2, 0, none⟩) np np).toArray, u, run_bldz rfl (qs := #[(0, .int .i64 X.nx), (1, .int .i64 so), (2, .int .i64 ta), (3, .int .i64 un), (4, .agg (qL Q b1 Q.ws.length d1 b2 Q.bs.length d2).toArray), (5, .slice b3 np d3), (6, .slice (some ⟨h1, 0, none⟩) np np), (7, .slice (some ⟨h2, 0, none⟩) np np)]) (by simp [e1, e2, e3, e4, e6, e8, e11, e14]) (by kernel_rfl), ⟨b1, d1, b2, d2, b3, d3, h1, h2, rfl, r⟩, Below.refl _ _⟩⟩
 ·intro u o ρ b9 hR ho hρ hc hf hdA hbx hv
  simp only [List.getElem?_toArray, List.getElem?_cons_zero, List.getElem?_cons_succ, Option.some.injEq] at ho
  subst ho
  obtain ⟨b1, d1, b2, d2, b3, d3, h1, h2, e15, r15⟩ : ∃ b1 d1 b2 d2 b3 d3 h1 h2, ρ (.tmp 34) = .agg (dL (nwD X so ta un Q np g) b1 Q.ws.length d1 b2 Q.bs.length d2 b3 np d3 (some ⟨h1, 0, none⟩) np np (some ⟨h2, 0, none⟩) np np).toArray /\ FlA u wr.heap.size (some b9) (dT (nwD X so ta un Q np g)) (dL (nwD X so ta un Q np g) b1 Q.ws.length d1 b2 Q.bs.length d2 b3 np d3 (some ⟨h1, 0, none⟩) np np (some ⟨h2, 0, none⟩) np np) := hv 15 34 (by decide) (by decide) rfl
  have gs : u.grownBy (setL u b9 0 (dL (nwD X so ta un Q np g) b1 Q.ws.length d1 b2 Q.bs.length d2 b3 np d3 (some ⟨h1, 0, none⟩) np np (some ⟨h2, 0, none⟩) np np)) (some b9) := setL_gw _ _ _
  exact ⟨rfl, .inr (.inr ⟨rfl, setL u b9 0 (dL (nwD X so ta un Q np g) b1 Q.ws.length d1 b2 Q.bs.length d2 b3 np d3 (some ⟨h1, 0, none⟩) np np (some ⟨h2, 0, none⟩) np np), run_store_op rfl hdA e15 ((run_storeAt_mid u b9 0 61 (dL (nwD X so ta un Q np g) b1 Q.ws.length d1 b2 Q.bs.length d2 b3 np d3 (some ⟨h1, 0, none⟩) np np (some ⟨h2, 0, none⟩) np np).toArray (hbx.1.there 0 13 (by simp)) (by kernel_rfl) (by simp [Value.oneCell'])).trans (by rw [setCells_L])), b9, b1, d1, b2, d2, b3, d3, h1, h2, hdA, hbx.2, Blk.wr hbx.1 (by simp [wrA]), r15.kept gs, setL_below hbx.2 _ _ _ hR⟩)⟩
 ·intro u i o ρ hi ho hE hρ hc hf
  have hi2 : i + 1 < 18 := by
   have := (Array.getElem?_eq_some_iff.1 ho).1
   simpa using this
  omega
 intro vs σ u hE hvs
 obtain ⟨b9, b1, d1, b2, d2, b3, d3, h1, h2, e16, q1', kP, fP, bP⟩ := hE
 have f16 : vs 16 = .pointer (some ⟨b9, 0, none⟩) := (hvs 16 16 rfl).trans e16
 simp only [putsL]
 rw [f16]
 have H3 : Hid (Below w.heap.size w u /\ Blk u B 35 (tL X a X.m c).toArray /\ Blk u (B + 2) 35 tz /\ Blk u G 35 (tL X p9 X.m q9).toArray /\ LsX u (B + 3) G 61 13 (.slice p9 X.m q9) X.m (fun k => dT (X.f k)) /\ Blk u b9 61 (dL (nwD X so ta un Q np g) b1 Q.ws.length d1 b2 Q.bs.length d2 b3 np d3 (some ⟨h1, 0, none⟩) np np (some ⟨h2, 0, none⟩) np np).toArray /\ Fl u wr.heap.size (dT (nwD X so ta un Q np g)) (dL (nwD X so ta un Q np g) b1 Q.ws.length d1 b2 Q.bs.length d2 b3 np d3 (some ⟨h1, 0, none⟩) np np (some ⟨h2, 0, none⟩) np np)) := ⟨bel_nx HK.out.2.2.2.2.2.1 bP, HK.out.1.below bP, HK.out.2.2.2.2.2.2.1.below bP, HK.out.2.2.2.2.2.2.2.1.below bP, HK.out.2.2.2.2.2.2.2.2.1.below bP, kP, fP⟩
 have HQ : Hid (wr.heap.size <= b9 /\ B + 2 < G /\ G < wr.heap.size /\ (∀ j, (Value.slice p9 X.m q9).ownBlock = some j -> j < wr.heap.size)) := ⟨q1', HK.out.2.2.2.2.2.2.2.2.2, HK.out.2.2.2.2.2.2.2.1.lt, fun j hj => (HK.out.2.2.2.2.2.2.2.2.1.toG.lt j hj).2⟩
 clear f16 e16 q1' kP fP bP hvs HK
 try go_simp
 go_upto_region 3 with fail
 obtain ⟨ok, hok⟩ : ∃ ok, ok = okTb X := ⟨_, rfl⟩
 obtain ⟨ok2, hok2⟩ : ∃ ok, ok = okPd (nwD X so ta un Q np g) := ⟨_, rfl⟩
 have HO : Hid (ok = okTb X /\ ok2 = okPd (nwD X so ta un Q np g)) := ⟨hok, hok2⟩
 clear hok hok2
 obtain ⟨⟨y0, y1⟩, yf⟩ := H3.out.2.1.tc2
 clear yf
 go_wp2_with fail
 refine (specTableOk_any X a c _ ⟨HR.out.1.below H3.out.1, HR.out.2.2.2.2.2.1⟩).mono ?_
 rintro e w3 ⟨rfl, b3'⟩
 rw [<- HO.out.1]
 have H4 : Hid (Below w.heap.size w w3 /\ Blk w3 B 35 (tL X a X.m c).toArray /\ Blk w3 (B + 2) 35 tz /\ Blk w3 G 35 (tL X p9 X.m q9).toArray /\ LsX w3 (B + 3) G 61 13 (.slice p9 X.m q9) X.m (fun k => dT (X.f k)) /\ Blk w3 b9 61 (dL (nwD X so ta un Q np g) b1 Q.ws.length d1 b2 Q.bs.length d2 b3 np d3 (some ⟨h1, 0, none⟩) np np (some ⟨h2, 0, none⟩) np np).toArray /\ Fl w3 wr.heap.size (dT (nwD X so ta un Q np g)) (dL (nwD X so ta un Q np g) b1 Q.ws.length d1 b2 Q.bs.length d2 b3 np d3 (some ⟨h1, 0, none⟩) np np (some ⟨h2, 0, none⟩) np np)) := ⟨bel_nx H3.out.1 b3', H3.out.2.1.below b3', H3.out.2.2.1.below b3', H3.out.2.2.2.1.below b3', H3.out.2.2.2.2.1.below b3', H3.out.2.2.2.2.2.1.below b3', H3.out.2.2.2.2.2.2.below b3'⟩
 clear b3' y0 y1 H3
 obtain ⟨⟨y0, y1⟩, yf⟩ := H4.out.2.1.tc2
 obtain ⟨⟨z0, z1, z2, z3, z4, z5, z6, z7, z8, z9, z10, z11, z12⟩, zf⟩ := H4.out.2.2.2.2.2.1.tc13
 clear yf zf
 cases ok
 case false =>
  have hfalse : okO X (nwD X so ta un Q np g) = false := by unfold okO; rw [<- HO.out.1]; rfl
  have hF : Hid (okO X (nwD X so ta un Q np g) = false) := hfalse
  clear hfalse
  go_upto_region 4 with fail
  try clear hn'
  try clear hm'
  try clear y0 y1
  try clear z0 z1 z2 z3 z4 z5 z6 z7 z8 z9 z10 z11 z12
  have kR := H4.out.2.2.1
  obtain ⟨⟨x0, x1⟩, xf⟩ := kR.tc2
  have xf0 := xf 0
  have xf1 := xf 1
  obtain ⟨⟨t0, t1⟩, tf⟩ := H4.out.2.2.2.1.tc2
  obtain ⟨W9, hW9⟩ : ∃ W9, W9 = setL w3 (B + 2) 0 (tL X p9 X.m q9) := ⟨_, rfl⟩
  have gs : w3.grownBy W9 (some (B + 2)) := by rw [hW9]; exact setL_gw _ _ _
  have H9 : Hid (Fl W9 w.heap.size [.list 13 X.m (fun i => trs (dT (X.f i)))] [.slice p9 X.m q9] /\ Below w.heap.size w W9 /\ Blk W9 (B + 2) 35 (tL X p9 X.m q9).toArray) := ⟨((H4.out.2.2.2.2.1.toG.keptLo gs (by omega)).mono (base' := w.heap.size) (by have := HR.out.2.2.2.2.2.2.2; omega)).fl, by rw [hW9]; exact setL_below (by have := HR.out.2.2.2.2.2.2.2; omega) _ _ _ H4.out.1, by rw [hW9]; exact Blk.wr kR (by simp [wrA])⟩
  have hV : W9 = ((w3.setCell ⟨B + 2, 0, none⟩ (.int .i64 X.nx)).setCell ⟨B + 2, 1, none⟩ (.slice p9 X.m q9)) := hW9
  clear hW9 gs kR xf tf
  go_wp2
  rw [<- hV]
  refine bodyPost_ret (v := .tuple #[.agg (tL X p9 X.m q9).toArray, .int .i64 0, .bool false]) (results_cell2 Tryz.results7 rfl rfl rfl (run_loadVar_mid _ _ _ 35 (tL X p9 X.m q9) _ H9.out.2.2.all Tryz.underlying35 rfl (by kernel_rfl))) rfl ?_
  rw [hF.out]
  exact ⟨p9, q9, rfl, H9.out.1, H9.out.2.1⟩
 obtain ⟨i1, i2, i3, -, -⟩ := okTb_ids HO.out.1.symm
 have HI : Hid (0 <= X.nx /\ X.nx <= 1000000000 /\ X.m <= 16) := ⟨i1, i2, i3⟩
 clear i1 i2 i3
 by_cases hn : X.nx = 1000000000
 ·have hn' : (X.nx == 1000000000) = true := by simp [hn]
  have Hn : Hid (X.nx = 1000000000) := hn
  clear hn
  have hfalse : okO X (nwD X so ta un Q np g) = false := by unfold okO; simp [Hn.out]
  have hF : Hid (okO X (nwD X so ta un Q np g) = false) := hfalse
  clear hfalse
  go_upto_region 4 with fail
  try clear hn'
  try clear hm'
  try clear y0 y1
  try clear z0 z1 z2 z3 z4 z5 z6 z7 z8 z9 z10 z11 z12
  have kR := H4.out.2.2.1
  obtain ⟨⟨x0, x1⟩, xf⟩ := kR.tc2
  have xf0 := xf 0
  have xf1 := xf 1
  obtain ⟨⟨t0, t1⟩, tf⟩ := H4.out.2.2.2.1.tc2
  obtain ⟨W9, hW9⟩ : ∃ W9, W9 = setL w3 (B + 2) 0 (tL X p9 X.m q9) := ⟨_, rfl⟩
  have gs : w3.grownBy W9 (some (B + 2)) := by rw [hW9]; exact setL_gw _ _ _
  have H9 : Hid (Fl W9 w.heap.size [.list 13 X.m (fun i => trs (dT (X.f i)))] [.slice p9 X.m q9] /\ Below w.heap.size w W9 /\ Blk W9 (B + 2) 35 (tL X p9 X.m q9).toArray) := ⟨((H4.out.2.2.2.2.1.toG.keptLo gs (by omega)).mono (base' := w.heap.size) (by have := HR.out.2.2.2.2.2.2.2; omega)).fl, by rw [hW9]; exact setL_below (by have := HR.out.2.2.2.2.2.2.2; omega) _ _ _ H4.out.1, by rw [hW9]; exact Blk.wr kR (by simp [wrA])⟩
  have hV : W9 = ((w3.setCell ⟨B + 2, 0, none⟩ (.int .i64 X.nx)).setCell ⟨B + 2, 1, none⟩ (.slice p9 X.m q9)) := hW9
  clear hW9 gs kR xf tf
  go_wp2
  rw [<- hV]
  refine bodyPost_ret (v := .tuple #[.agg (tL X p9 X.m q9).toArray, .int .i64 0, .bool false]) (results_cell2 Tryz.results7 rfl rfl rfl (run_loadVar_mid _ _ _ 35 (tL X p9 X.m q9) _ H9.out.2.2.all Tryz.underlying35 rfl (by kernel_rfl))) rfl ?_
  rw [hF.out]
  exact ⟨p9, q9, rfl, H9.out.1, H9.out.2.1⟩
 have hn' : (X.nx == 1000000000) = false := by simp [hn]
 by_cases hmm : X.m = 16
 ·have hm' : ((X.m : Int) == 16) = true := by simp; omega
  have Hm : Hid (X.m = 16) := hmm
  clear hmm
  have hfalse : okO X (nwD X so ta un Q np g) = false := by unfold okO; simp [Hm.out]
  have hF : Hid (okO X (nwD X so ta un Q np g) = false) := hfalse
  clear hfalse
  go_upto_region 4 with fail
  try clear hn'
  try clear hm'
  try clear y0 y1
  try clear z0 z1 z2 z3 z4 z5 z6 z7 z8 z9 z10 z11 z12
  have kR := H4.out.2.2.1
  obtain ⟨⟨x0, x1⟩, xf⟩ := kR.tc2
  have xf0 := xf 0
  have xf1 := xf 1
  obtain ⟨⟨t0, t1⟩, tf⟩ := H4.out.2.2.2.1.tc2
  obtain ⟨W9, hW9⟩ : ∃ W9, W9 = setL w3 (B + 2) 0 (tL X p9 X.m q9) := ⟨_, rfl⟩
  have gs : w3.grownBy W9 (some (B + 2)) := by rw [hW9]; exact setL_gw _ _ _
  have H9 : Hid (Fl W9 w.heap.size [.list 13 X.m (fun i => trs (dT (X.f i)))] [.slice p9 X.m q9] /\ Below w.heap.size w W9 /\ Blk W9 (B + 2) 35 (tL X p9 X.m q9).toArray) := ⟨((H4.out.2.2.2.2.1.toG.keptLo gs (by omega)).mono (base' := w.heap.size) (by have := HR.out.2.2.2.2.2.2.2; omega)).fl, by rw [hW9]; exact setL_below (by have := HR.out.2.2.2.2.2.2.2; omega) _ _ _ H4.out.1, by rw [hW9]; exact Blk.wr kR (by simp [wrA])⟩
  have hV : W9 = ((w3.setCell ⟨B + 2, 0, none⟩ (.int .i64 X.nx)).setCell ⟨B + 2, 1, none⟩ (.slice p9 X.m q9)) := hW9
  clear hW9 gs kR xf tf
  go_wp2
  rw [<- hV]
  refine bodyPost_ret (v := .tuple #[.agg (tL X p9 X.m q9).toArray, .int .i64 0, .bool false]) (results_cell2 Tryz.results7 rfl rfl rfl (run_loadVar_mid _ _ _ 35 (tL X p9 X.m q9) _ H9.out.2.2.all Tryz.underlying35 rfl (by kernel_rfl))) rfl ?_
  rw [hF.out]
  exact ⟨p9, q9, rfl, H9.out.1, H9.out.2.1⟩
 have hm' : ((X.m : Int) == 16) = false := by simp; omega
 have hm2 : ¬ (X.m : Int) = 16 := by omega
 go_wp2_with fail
 refine (specPend_nw X so ta un Q np g b1 d1 b2 d2 b3 d3 h1 h2 _ _ H4.out.2.2.2.2.2.2 HR.out.2.2.2.2.2.2.1).mono ?_
 rintro e w4 ⟨rfl, b4'⟩
 rw [<- HO.out.2]
 have H5 : Hid (Below w.heap.size w w4 /\ Blk w4 B 35 (tL X a X.m c).toArray /\ Blk w4 (B + 2) 35 tz /\ Blk w4 G 35 (tL X p9 X.m q9).toArray /\ LsX w4 (B + 3) G 61 13 (.slice p9 X.m q9) X.m (fun k => dT (X.f k)) /\ Blk w4 b9 61 (dL (nwD X so ta un Q np g) b1 Q.ws.length d1 b2 Q.bs.length d2 b3 np d3 (some ⟨h1, 0, none⟩) np np (some ⟨h2, 0, none⟩) np np).toArray /\ Fl w4 wr.heap.size (dT (nwD X so ta un Q np g)) (dL (nwD X so ta un Q np g) b1 Q.ws.length d1 b2 Q.bs.length d2 b3 np d3 (some ⟨h1, 0, none⟩) np np (some ⟨h2, 0, none⟩) np np)) := ⟨bel_nx H4.out.1 b4', H4.out.2.1.below b4', H4.out.2.2.1.below b4', H4.out.2.2.2.1.below b4', H4.out.2.2.2.2.1.below b4', H4.out.2.2.2.2.2.1.below b4', H4.out.2.2.2.2.2.2.below b4'⟩
 clear b4' y0 y1 z0 z1 z2 z3 z4 z5 z6 z7 z8 z9 z10 z11 z12 H4
 cases ok2
 case false =>
  have hfalse : okO X (nwD X so ta un Q np g) = false := by unfold okO; rw [<- HO.out.2]; simp
  have hF : Hid (okO X (nwD X so ta un Q np g) = false) := hfalse
  clear hfalse
  go_upto_region 4 with fail
  try clear hn'
  try clear hm'
  try clear y0 y1
  try clear z0 z1 z2 z3 z4 z5 z6 z7 z8 z9 z10 z11 z12
  have kR := H5.out.2.2.1
  obtain ⟨⟨x0, x1⟩, xf⟩ := kR.tc2
  have xf0 := xf 0
  have xf1 := xf 1
  obtain ⟨⟨t0, t1⟩, tf⟩ := H5.out.2.2.2.1.tc2
  obtain ⟨W9, hW9⟩ : ∃ W9, W9 = setL w4 (B + 2) 0 (tL X p9 X.m q9) := ⟨_, rfl⟩
  have gs : w4.grownBy W9 (some (B + 2)) := by rw [hW9]; exact setL_gw _ _ _
  have H9 : Hid (Fl W9 w.heap.size [.list 13 X.m (fun i => trs (dT (X.f i)))] [.slice p9 X.m q9] /\ Below w.heap.size w W9 /\ Blk W9 (B + 2) 35 (tL X p9 X.m q9).toArray) := ⟨((H5.out.2.2.2.2.1.toG.keptLo gs (by omega)).mono (base' := w.heap.size) (by have := HR.out.2.2.2.2.2.2.2; omega)).fl, by rw [hW9]; exact setL_below (by have := HR.out.2.2.2.2.2.2.2; omega) _ _ _ H5.out.1, by rw [hW9]; exact Blk.wr kR (by simp [wrA])⟩
  have hV : W9 = ((w4.setCell ⟨B + 2, 0, none⟩ (.int .i64 X.nx)).setCell ⟨B + 2, 1, none⟩ (.slice p9 X.m q9)) := hW9
  clear hW9 gs kR xf tf
  go_wp2
  rw [<- hV]
  refine bodyPost_ret (v := .tuple #[.agg (tL X p9 X.m q9).toArray, .int .i64 0, .bool false]) (results_cell2 Tryz.results7 rfl rfl rfl (run_loadVar_mid _ _ _ 35 (tL X p9 X.m q9) _ H9.out.2.2.all Tryz.underlying35 rfl (by kernel_rfl))) rfl ?_
  rw [hF.out]
  exact ⟨p9, q9, rfl, H9.out.1, H9.out.2.1⟩
 have htrue : okO X (nwD X so ta un Q np g) = true := by unfold okO; rw [<- HO.out.1, <- HO.out.2]; simp [hn, hmm]
 have hF : Hid (okO X (nwD X so ta un Q np g) = true) := htrue
 have v1 : IntKind.i64.wrap (X.nx + 1) = X.nx + 1 := by rw [IntKind.wrap_i64]; have := HI.out; omega
 clear htrue
 obtain ⟨⟨t0, t1⟩, tf⟩ := H5.out.2.2.2.1.tc2
 have tf0 := tf 0
 obtain ⟨W5, hW5⟩ : ∃ W9, W9 = setL w4 G 0 [.int .i64 (X.nx + 1)] := ⟨_, rfl⟩
 have g5 : w4.grownBy W5 (some G) := by rw [hW5]; exact setL_gw _ _ _
 have hGB := HQ.out
 have L5 : LsX W5 (B + 3) G 61 13 (.slice p9 X.m q9) X.m (fun k => dT (X.f k)) := by
  have h9 := H5.out.2.2.2.2.1
  rw [hW5]
  exact h9.st H5.out.2.2.2.1 (by decide)
 have H6 : Hid (Below w.heap.size w W5 /\ Blk W5 (B + 2) 35 tz /\ Blk W5 G 35 #[.int .i64 (X.nx + 1), .slice p9 X.m q9] /\ LsX W5 (B + 3) G 61 13 (.slice p9 X.m q9) X.m (fun k => dT (X.f k)) /\ Blk W5 b9 61 (dL (nwD X so ta un Q np g) b1 Q.ws.length d1 b2 Q.bs.length d2 b3 np d3 (some ⟨h1, 0, none⟩) np np (some ⟨h2, 0, none⟩) np np).toArray /\ Fl W5 wr.heap.size (dT (nwD X so ta un Q np g)) (dL (nwD X so ta un Q np g) b1 Q.ws.length d1 b2 Q.bs.length d2 b3 np d3 (some ⟨h1, 0, none⟩) np np (some ⟨h2, 0, none⟩) np np)) := ⟨by rw [hW5]; exact setL_below (by have := HR.out.2.2.2.2.2.2.2; omega) _ _ _ H5.out.1, by rw [hW5]; exact Blk.stNe (by omega) _ _ H5.out.2.2.1, by rw [hW5]; exact Blk.wr H5.out.2.2.2.1 (by simp [wrA]), L5, by rw [hW5]; exact Blk.stNe (by omega) _ _ H5.out.2.2.2.2.2.1, H5.out.2.2.2.2.2.2.kept g5 hGB.2.2.1⟩
 have hV5 : W5 = (w4.setCell ⟨G, 0, none⟩ (.int .i64 (X.nx + 1))) := hW5
 obtain ⟨⟨y0, y1⟩, yf⟩ := H5.out.2.1.tc2
 clear hW5 g5 tf L5 yf hGB H5
 go_upto_region 6 with fail
 rw [<- hV5]
 clear hV5 t0 t1 tf0 y0 y1
 obtain ⟨⟨t0, t1⟩, tf⟩ := H6.out.2.2.1.tc2
 obtain ⟨⟨z0, z1, z2, z3, z4, z5, z6, z7, z8, z9, z10, z11, z12⟩, zf⟩ := H6.out.2.2.2.2.1.tc13
 clear tf zf
 have L6 := (H6.out.2.2.2.1.congr (f' := (fun i => dT ((nwT X (nwD X so ta un Q np g)).f i))) (fun i hi => by show dT (X.f i) = dT (if i = X.m then _ else X.f i); rw [if_neg (by omega)])).below (bel_alloc W5 (.cells (dL (nwD X so ta un Q np g) b1 Q.ws.length d1 b2 Q.bs.length d2 b3 np d3 (some ⟨h1, 0, none⟩) np np (some ⟨h2, 0, none⟩) np np).toArray 61))
 have E6 : ElX (W5.alloc (.cells (dL (nwD X so ta un Q np g) b1 Q.ws.length d1 b2 Q.bs.length d2 b3 np d3 (some ⟨h1, 0, none⟩) np np (some ⟨h2, 0, none⟩) np np).toArray 61)) (B + 3) G (.slice p9 X.m q9) ((fun i => dT ((nwT X (nwD X so ta un Q np g)).f i)) X.m) (dL (nwD X so ta un Q np g) b1 Q.ws.length d1 b2 Q.bs.length d2 b3 np d3 (some ⟨h1, 0, none⟩) np np (some ⟨h2, 0, none⟩) np np) := by
  have h9 := (H6.out.2.2.2.2.2.below (bel_alloc W5 (.cells (dL (nwD X so ta un Q np g) b1 Q.ws.length d1 b2 Q.bs.length d2 b3 np d3 (some ⟨h1, 0, none⟩) np np (some ⟨h2, 0, none⟩) np np).toArray 61))).elX (v := .slice p9 X.m q9) (base := B + 3) (X := G) (by have := HQ.out; omega) HQ.out.2.2.2 HQ.out.2.2.1
  have e9 : (fun i => dT ((nwT X (nwD X so ta un Q np g)).f i)) X.m = dT (nwD X so ta un Q np g) := by show dT (if X.m = X.m then _ else X.f X.m) = _; rw [if_pos rfl]
  rw [e9]; exact h9
 have hsz5 : B + 3 <= W5.heap.size := by have := H6.out.2.1.lt; omega
 have HE6 : Hid (_ /\ _ /\ _) := ⟨L6, E6, hsz5⟩
 clear L6 E6 hsz5
 go_upto_region 7 with (at_builtin; refine wpList_appX rfl (.tmp 60) (.tmp 62) 33 61 13 184 (.agg #[.int .i64 0, .int .i64 0, .int .i64 0, .int .i64 0, .int .i64 0, .int .i64 0, .int .i64 0, .slice none 0 0, .slice none 0 0, .int .i64 0, .slice none 0 0, .slice none 0 0, .slice none 0 0]) rfl Tryz.underlying33 (by kernel_rfl) rfl (by decide) (by decide) (B + 3) G (.slice p9 X.m q9) X.m (fun i => dT ((nwT X (nwD X so ta un Q np g)).f i)) rfl HE6.out.1 W5.heap.size 1 (dL (nwD X so ta un Q np g) b1 Q.ws.length d1 b2 Q.bs.length d2 b3 np d3 (some ⟨h1, 0, none⟩) np np (some ⟨h2, 0, none⟩) np np) rfl rfl (fun j u hu => (Blk.new W5 (dL (nwD X so ta un Q np g) b1 Q.ws.length d1 b2 Q.bs.length d2 b3 np d3 (some ⟨h1, 0, none⟩) np np (some ⟨h2, 0, none⟩) np np).toArray 61).cell j (by simpa using hu)) (fun u hu => by simp at hu; rcases hu with rfl | rfl | rfl | rfl | rfl | rfl | rfl | rfl | rfl | rfl | rfl | rfl | rfl <;> rfl) HE6.out.2.1 (by have := HI.out.2.2; omega) (by have := HE6.out.2.2; simp; omega) ?_; intro v' w6 L7 g7 k7; obtain ⟨p4, q4, rfl⟩ := L7.toG.shape; have kG := LsG.blk HE6.out.1.toG (H6.out.2.2.1.below (bel_alloc W5 (.cells (dL (nwD X so ta un Q np g) b1 Q.ws.length d1 b2 Q.bs.length d2 b3 np d3 (some ⟨h1, 0, none⟩) np np (some ⟨h2, 0, none⟩) np np).toArray 61))) g7 (by decide); obtain ⟨⟨s0, s1⟩, sf⟩ := kG.tc2; have sf1 := sf 1; clear sf t0 t1 z0 z1 z2 z3 z4 z5 z6 z7 z8 z9 z10 z11 z12)
 have kR6 := LsG.blk HE6.out.1.toG (H6.out.2.1.below (bel_alloc W5 (.cells (dL (nwD X so ta un Q np g) b1 Q.ws.length d1 b2 Q.bs.length d2 b3 np d3 (some ⟨h1, 0, none⟩) np np (some ⟨h2, 0, none⟩) np np).toArray 61))) g7 (by decide)
 have kP6 : Blk w6 b9 61 (dL (nwD X so ta un Q np g) b1 Q.ws.length d1 b2 Q.bs.length d2 b3 np d3 (some ⟨h1, 0, none⟩) np np (some ⟨h2, 0, none⟩) np np).toArray := by
  have h9 := H6.out.2.2.2.2.1.below (bel_alloc W5 (.cells (dL (nwD X so ta un Q np g) b1 Q.ws.length d1 b2 Q.bs.length d2 b3 np d3 (some ⟨h1, 0, none⟩) np np (some ⟨h2, 0, none⟩) np np).toArray 61))
  have hlt9 := h9.lt
  unfold Blk at h9 ⊢
  rw [g7.block b9 hlt9 (fun q => by have := HQ.out.2.2.2 b9 q.symm; have := HQ.out.1; omega)]
  exact h9
 have bl6 : Below w.heap.size w w6 := (bel_nx H6.out.1 (bel_alloc W5 (.cells (dL (nwD X so ta un Q np g) b1 Q.ws.length d1 b2 Q.bs.length d2 b3 np d3 (some ⟨h1, 0, none⟩) np np (some ⟨h2, 0, none⟩) np np).toArray 61))).grown g7 (bel_nx H6.out.1 (bel_alloc W5 (.cells (dL (nwD X so ta un Q np g) b1 Q.ws.length d1 b2 Q.bs.length d2 b3 np d3 (some ⟨h1, 0, none⟩) np np (some ⟨h2, 0, none⟩) np np).toArray 61))).size (fun j hj => by have := k7 j hj; have := HR.out.2.2.2.2.2.2.2; omega)
 obtain ⟨W7, hW7⟩ : ∃ W7, W7 = setL w6 G 1 [.slice p4 (X.m + 1) q4] := ⟨_, rfl⟩
 have H7 : Hid (Below w.heap.size w W7 /\ Blk W7 (B + 2) 35 tz /\ Blk W7 G 35 (tL (nwT X (nwD X so ta un Q np g)) p4 (X.m + 1) q4).toArray /\ LsX W7 (B + 3) G 61 13 (.slice p4 (X.m + 1) q4) (X.m + 1) (fun i => dT ((nwT X (nwD X so ta un Q np g)).f i)) /\ Blk W7 b9 61 (dL (nwD X so ta un Q np g) b1 Q.ws.length d1 b2 Q.bs.length d2 b3 np d3 (some ⟨h1, 0, none⟩) np np (some ⟨h2, 0, none⟩) np np).toArray) := ⟨by rw [hW7]; exact setL_below (by have := HR.out.2.2.2.2.2.2.2; have := HQ.out; omega) _ _ _ bl6, by rw [hW7]; exact Blk.stNe (by have := HQ.out; omega) _ _ kR6, by rw [hW7]; exact Blk.wr kG (by simp [wrA, nwT]), by rw [hW7]; exact L7.st kG (by decide), by rw [hW7]; exact Blk.stNe (by have := HQ.out; omega) _ _ kP6⟩
 have hV7 : W7 = (w6.setCell ⟨G, 1, none⟩ (.slice p4 (X.m + 1) q4)) := hW7
 rw [<- hV7]
 clear hV7 hW7 kR6 kP6 bl6 g7 k7 L7 kG s0 s1 sf1 HE6 H6
 have kR := H7.out.2.1
 obtain ⟨⟨x0, x1⟩, xf⟩ := kR.tc2
 have xf0 := xf 0
 have xf1 := xf 1
 obtain ⟨⟨t0, t1⟩, tf⟩ := H7.out.2.2.1.tc2
 obtain ⟨⟨z0, z1, z2, z3, z4, z5, z6, z7, z8, z9, z10, z11, z12⟩, zf⟩ := H7.out.2.2.2.2.tc13
 have hne1 : ¬ b9 = B + 2 := by have := HQ.out; omega
 have hne2 : ¬ B + 2 = b9 := by have := HQ.out; omega
 have hne3 : ¬ G = B + 2 := by have := HQ.out; omega
 have hne4 : ¬ B + 2 = G := by have := HQ.out; omega
 obtain ⟨W9, hW9⟩ : ∃ W9, W9 = setL W7 (B + 2) 0 (tL (nwT X (nwD X so ta un Q np g)) p4 (X.m + 1) q4) := ⟨_, rfl⟩
 have gs : W7.grownBy W9 (some (B + 2)) := by rw [hW9]; exact setL_gw _ _ _
 have H9 : Hid (Fl W9 w.heap.size [.list 13 (X.m + 1) (fun i => trs (dT ((nwT X (nwD X so ta un Q np g)).f i)))] [.slice p4 (X.m + 1) q4] /\ Below w.heap.size w W9 /\ Blk W9 (B + 2) 35 (tL (nwT X (nwD X so ta un Q np g)) p4 (X.m + 1) q4).toArray) := ⟨((H7.out.2.2.2.1.toG.keptLo gs (by omega)).mono (base' := w.heap.size) (by have := HR.out.2.2.2.2.2.2.2; omega)).fl, by rw [hW9]; exact setL_below (by have := HR.out.2.2.2.2.2.2.2; omega) _ _ _ H7.out.1, by rw [hW9]; exact Blk.wr kR (by simp [wrA])⟩
 have hV : W9 = ((W7.setCell ⟨B + 2, 0, none⟩ (.int .i64 (nwT X (nwD X so ta un Q np g)).nx)).setCell ⟨B + 2, 1, none⟩ (.slice p4 (X.m + 1) q4)) := hW9
 clear hW9 gs kR xf tf zf H7 v1
 go_region
 all_goals (
  go_wp2
  try rw [<- hV]
  refine bodyPost_ret (v := .tuple #[.agg (tL (nwT X (nwD X so ta un Q np g)) p4 (X.m + 1) q4).toArray, .int .i64 X.nx, .bool true]) (results_cell2 Tryz.results7 rfl rfl rfl (run_loadVar_mid _ _ _ 35 (tL (nwT X (nwD X so ta un Q np g)) p4 (X.m + 1) q4) _ (by first | exact H9.out.2.2.all | exact (H9.out.2.2.below (Below.refl _ _).drew).all) Tryz.underlying35 rfl (by kernel_rfl))) rfl ?_
  rw [hF.out]
  exact ⟨p4, q4, rfl, by first | exact H9.out.1 | exact H9.out.1.below (Below.refl _ _).drew, by first | exact H9.out.2.1 | exact H9.out.2.1.drew⟩)
end Go.Proofs.YtlhjiiifmfgnoaaGreat

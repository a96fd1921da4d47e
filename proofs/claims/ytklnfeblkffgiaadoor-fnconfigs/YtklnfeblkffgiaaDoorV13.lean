/- Texts that the proof needs, joined: Tx5 Pc8 Pc9 Pd0 Pc5 Pd1 ConfigsL. -/
import Derived.Test.YtklnfeblkffgiaaDoorV12
import Derived.Test.YtklnfeblkffgiaaDoorV11
import Derived.Deep.RegionLaw
import Derived.Deep.RegionHeld3
import Derived.RegionDies
import Derived.Test.YtklnfeblkffgiaaDoorV9
import Derived.Defers
import Derived.Recover
import Derived.Test.YtklnfeblkffgiaaDoorV1
import Derived.BigQuiet
namespace Go.Proofs.YtklnfeblkffgiaaDoor
open Go.RowKit
set_option linter.unusedVariables false
set_option linter.unusedSimpArgs false
theorem okRs_small {f : Nat → Ru} {n : Nat} (h : OkRs f n) : n ≤ 24 ∧ SmR f n := by
  refine ⟨h.1, fun k hk x hx => ?_⟩
  have h9 := h.2.1 k hk
  unfold OkRu at h9
  simp only [ruN, List.mem_cons, List.not_mem_nil, or_false] at hx
  rcases hx with rfl | rfl | rfl | rfl | rfl | rfl | rfl <;> omega
theorem okC_parts {wt tr : Int} {b : Bool} (h : okC wt tr b = true) : (-1000000 ≤ wt ∧ wt ≤ 1000000) ∧ (-1000000 ≤ tr ∧ tr ≤ 1000000) ∧ b = true := by
  unfold okC inB at h
  simp only [Bool.and_eq_true, decide_eq_true_eq] at h
  exact ⟨by omega, by omega, h.2⟩
def cfA (wt tr : Int) (b : Bool) (f : Nat → Ru) (n : Nat) : List UInt8 := bif okC wt tr b then cfT wt tr f n else []
set_option maxHeartbeats 1000000 in
theorem implText_any (wt tr : Int) (a : Option Addr) (n cap : Nat) (f : Nat → Ru) (w : World) (hs : SlU w a n f) (hl : n ≤ 2000000) (h64 : ∀ k, k < n → -9223372036854775808 ≤ (f k).sh ∧ (f k).sh ≤ 9223372036854775807) (b : Bool) (hb : b = true ↔ OkRs f n) (ht : Pw w) :
    Calls Tryd.prog 8 #[.agg (cfc wt tr a n cap)] w fun e w' => e = .returned (.string (tx (cfA wt tr b f n))) ∧ Below w.heap.size w w' := by
  unfold cfA
  rcases Bool.eq_false_or_eq_true (okC wt tr b) with h | h
  · obtain ⟨p1, p2, p3⟩ := okC_parts h
    obtain ⟨q1, q2⟩ := okRs_small (hb.1 p3)
    rw [h]
    exact implText_good wt tr a n cap f w hs q1 b hb h64 h p1 p2 q2 ht
  · have bW := bel_alloc w (.cells (cfc wt tr a n cap) 26)
    have HS : Hid (SlU (w.alloc (.cells (cfc wt tr a n cap) 26)) a n f ∧ Below w.heap.size w (w.alloc (.cells (cfc wt tr a n cap) 26)) ∧ (b = true ↔ OkRs f n) ∧ okC wt tr b = false ∧ ∀ k, k < n → -9223372036854775808 ≤ (f k).sh ∧ (f k).sh ≤ 9223372036854775807) := ⟨SlS.below hs bW, bW, hb, h, h64⟩
    rw [h]
    clear hs bW hb h h64
    go_enter Tryd.func8, Tryd.ntmps8
    go_wp2_with fail
    refine (implConfigOk_any wt tr a n cap f _ HS.out.1 hl HS.out.2.2.2.2 b HS.out.2.2.1).mono ?_
    rintro e w1 ⟨rfl, b1⟩
    rw [HS.out.2.2.2.1]
    have B1 := bel_next HS.out.2.1 b1
    clear b1
    go_wp2
    go_ret
    exact ⟨rfl, B1⟩
end Go.Proofs.YtklnfeblkffgiaaDoor
namespace Go.Proofs.YtklnfeblkffgiaaDoor
open Go.RowKit
set_option linter.unusedVariables false
set_option linter.unusedSimpArgs false
def rsT (f : Nat → Ru) : Nat → Nat → List UInt8
  | 0, _ => []
  | d + 1, z => lnT [114, 117, 108, 101] (ruN (f z)) ++ rsT f d (z + 1)
theorem rsT_flat (f : Nat → Ru) : ∀ (d z : Nat), (List.range (z + d)).flatMap (fun i => lnT [114, 117, 108, 101] (ruN (f i))) = (List.range z).flatMap (fun i => lnT [114, 117, 108, 101] (ruN (f i))) ++ rsT f d z
  | 0, z => by simp [rsT]
  | d + 1, z => by
    have h := rsT_flat f d (z + 1)
    rw [show z + (d + 1) = z + 1 + d from by omega, h, List.range_succ, List.flatMap_append]
    simp [rsT]
theorem cfT_rs (wt tr : Int) (f : Nat → Ru) (n : Nat) : cfT wt tr f n = lnT [119, 97, 105, 116] [wt] ++ (lnT [116, 114, 105, 101, 115] [tr] ++ rsT f n 0) := by
  unfold cfT
  have h := rsT_flat f n 0
  rw [Nat.zero_add] at h
  rw [h]
  simp
theorem En.grown {w u : World} {x : Nat} (h : En w) (hg : w.grownBy u (some x)) (h1 : x ≠ 0) (h2 : x ≠ 1) : En u := by
  obtain ⟨p, m, c⟩ := h
  refine ⟨?_, m, ?_⟩
  · have hlt := p.lt
    have hb := hg.block 0 hlt (fun e => h1 (Option.some.inj e).symm)
    unfold Pw Lib.TabIs at p ⊢
    unfold World.var? at p ⊢
    simp only [gPw, Option.bind_some] at p ⊢
    rw [hb]
    exact p
  · have hlt := World.block_lt_of_cell? _ _ c
    have hb := hg.block 1 hlt (fun e => h2 (Option.some.inj e).symm)
    rw [← c]
    unfold World.cell?
    rw [hb]
structure CS (w : World) (rB C2 C3 : Nat) (rt : List UInt8) (ln : Nat) (wt tr : Int) (va : Option Addr) (vn vc : Nat) (l : List Ru) (u : World) : Prop where
  rd : Blk u rB 51 #[.string (tx rt), .int .i64 (ln : Int)]
  c2 : Blk u C2 26 (cfc 0 0 none 0 0)
  c3 : Blk u C3 26 (cfc wt tr va vn vc)
  ow : u.ownsRow w.heap.size 33 7 (.slice va vn vc) l.length (l.flatMap rul)
  gr : w.grownBy u (some rB)
  nm : rB < w.heap.size ∧ w.heap.size ≤ C2 ∧ C2 < C3
section
variable {w : World} {rB C2 C3 : Nat} {rt rt' : List UInt8} {ln ln' : Nat} {wt tr wt' tr' : Int} {va va' : Option Addr} {vn vc vn' vc' : Nat} {l l' : List Ru} {u u' : World}
theorem CS.below (h : CS w rB C2 C3 rt ln wt tr va vn vc l u) (b : Below u.heap.size u u') : CS w rB C2 C3 rt ln wt tr va vn vc l u' :=
  ⟨h.rd.below b, h.c2.below b, h.c3.below b, World.ownsRow.kept h.ow (grown_below b (some u.heap.size)) (.inr (fun e => by have := (World.ownsRow.lt h.ow u.heap.size e).2; omega)), grown_tr h.gr (grown_below b (some rB)), h.nm⟩
theorem CS.read (h : CS w rB C2 C3 rt ln wt tr va vn vc l u) (g : u.grownBy u' (some rB)) (r : Blk u' rB 51 #[.string (tx rt'), .int .i64 (ln' : Int)]) : CS w rB C2 C3 rt' ln' wt tr va vn vc l u' :=
  ⟨r, h.c2.grown g (fun e => by have := Option.some.inj e; have := h.nm; omega), h.c3.grown g (fun e => by have := Option.some.inj e; have := h.nm; omega), World.ownsRow.kept h.ow g (.inr (fun e => by have := (World.ownsRow.lt h.ow rB e).1; have := h.nm; omega)), grown_tr h.gr g, h.nm⟩
theorem CS.en (h : CS w rB C2 C3 rt ln wt tr va vn vc l u) (hE : En w) (h1 : 0 < rB ∧ 1 < rB) : En u := hE.grown h.gr (by omega) (by omega)
theorem CS.wait (h : CS w rB C2 C3 rt ln wt tr va vn vc l u) : CS w rB C2 C3 rt ln wt' tr va vn vc l (u.setCell ⟨C3, 0, none⟩ (.int .i64 wt')) := by
  have hn := h.nm
  refine ⟨h.rd.setNe (by omega), h.c2.setNe (by omega), ?_, row_setE h.ow ⟨_, h.c3⟩ (by decide), grown_hi (by omega) h.gr, hn⟩
  have h9 := h.c3.set 0 (.int .i64 wt')
  simpa using h9
theorem CS.tries (h : CS w rB C2 C3 rt ln wt tr va vn vc l u) : CS w rB C2 C3 rt ln wt tr' va vn vc l (u.setCell ⟨C3, 1, none⟩ (.int .i64 tr')) := by
  have hn := h.nm
  refine ⟨h.rd.setNe (by omega), h.c2.setNe (by omega), ?_, row_setE h.ow ⟨_, h.c3⟩ (by decide), grown_hi (by omega) h.gr, hn⟩
  have h9 := h.c3.set 1 (.int .i64 tr')
  simpa using h9
theorem CS.push (h : CS w rB C2 C3 rt ln wt tr va vn vc l u) (g : u.grownBy u' (Value.slice va vn vc).ownBlock) (o : u'.ownsRow w.heap.size 33 7 (.slice va' vn' vc') l'.length (l'.flatMap rul)) :
    Blk u' C3 26 (cfc wt tr va vn vc) ∧ CS w rB C2 C3 rt ln wt tr va' vn' vc' l' (u'.setCell ⟨C3, 2, none⟩ (.slice va' vn' vc')) := by
  have hn := h.nm
  have k3 := h.c3.grown g (row_noBlk h.ow h.c3 (by decide))
  have gw : w.grownBy u' (some rB) := by
    refine ⟨g.os.trans h.gr.os, g.tape.trans h.gr.tape, g.output.trans h.gr.output, Nat.le_trans h.gr.size g.size, fun k hk hne => ?_⟩
    rw [g.block k (Nat.lt_of_lt_of_le hk h.gr.size) (fun e => by have := (World.ownsRow.lt h.ow k e.symm).1; omega)]
    exact h.gr.block k hk hne
  refine ⟨k3, (h.rd.grown g (row_noBlk h.ow h.rd (by decide))).setNe (by omega), (h.c2.grown g (row_noBlk h.ow h.c2 (by decide))).setNe (by omega), ?_, row_setE o ⟨_, k3⟩ (by decide), grown_hi (by omega) gw, hn⟩
  have h9 := k3.set 2 (.slice va' vn' vc')
  simpa using h9
end
theorem sl_zero {w : World} {g : Nat} (h : Blk w g 3 #[.int .i64 0]) : SlI w (some ⟨g, 0, none⟩) [0] := sl_one (h.cell 0 rfl)
theorem one_bounds {n : Int} (h : 0 ≤ n ∧ n ≤ 999999) : ∀ k, k < 1 → -999999 ≤ [n].getD k 0 ∧ [n].getD k 0 ≤ 999999 ∧ [(0 : Int)].getD k 0 ≤ [n].getD k 0 := by
  intro k hk
  have e : k = 0 := by omega
  subst e
  show -999999 ≤ n ∧ n ≤ 999999 ∧ 0 ≤ n
  omega
theorem own_first {w : World} {base g c : Nat} {n : Int} (h : OwnI w base (.slice (some ⟨g, 0, none⟩) 1 c) [n]) : w.cell? ⟨g, 0, none⟩ = some (.int .i64 n) := by
  rcases h.sl.2 with h | ⟨b, off, ha, _, hc⟩
  · simp at h
  · simp only [Option.some.injEq, Addr.mk.injEq] at ha
    obtain ⟨rfl, rfl, _⟩ := ha
    have h9 := hc 0 (by simp)
    simpa using h9
theorem step_appR {ops : Array Oper} {o : Oper} {a : Act} {w : World} {K : Act → World → Prop} {Q : Exit → Act → World → Prop} {E : Prop} (hgd : o.guard = none) (s x : Operand)
    (ho : o.op = .call { callee := .builtin .append, args := #[s, x], argTypes := #[24, 24] }) (base : Nat) (v : Value) (l : List Ru) (hs : a.eval s = v) (hown : w.ownsRow base 33 7 v l.length (l.flatMap rul))
    (g c : Nat) (r : Ru) (hx : a.eval x = .slice (some ⟨g, 0, none⟩) 1 c) (hb : Blk w g 33 (ruc r)) (hn : l.length ≤ 1000000) (hbase : base ≤ w.heap.size)
    (h : ∀ v' w', w'.ownsRow base 33 7 v' (l ++ [r]).length ((l ++ [r]).flatMap rul) → w.grownBy w' v.ownBlock → K (a.put o.dst v') w') :
    if Region.wanted o (yielded ops a.tmps) = true then Oper.wp Tryd.prog o a w K Q else E := by
  obtain ⟨i0, hi, hzz⟩ := Option.map_eq_some_iff.1 Tryd.info33
  simp only [Prod.mk.injEq] at hzz
  obtain ⟨hz0, hz1, hz2⟩ := hzz
  refine step_append_own hgd s x 24 ho base 33 i0 _ 7 56 Tryd.underlying24 hi hz0 hz1 hz2 rfl (by decide) v l.length (l.flatMap rul) hs hown ⟨g, 0, none⟩ 1 c (rul r) hx rfl ?_ (fun u hu => by simp at hu; rcases hu with rfl | rfl | rfl | rfl | rfl | rfl | rfl <;> rfl) (by unfold maxLen; omega) (by omega) hbase ?_
  · intro j u hu
    have e1 : (⟨g, 0, none⟩ : Addr).add j = ⟨g, j, none⟩ := by unfold Addr.add; split <;> simp_all
    rw [e1]
    exact hb.cell j (by simpa using hu)
  · intro v' w' h1 h2
    refine h v' w' ?_ h2
    rw [List.length_append, List.flatMap_append]
    simpa using h1
theorem ownR_shape {w : World} {base : Nat} {v : Value} {l : List Ru} (h : w.ownsRow base 33 7 v l.length (l.flatMap rul)) : ∃ a c n, v = .slice a n c ∧ n = l.length := by
  obtain ⟨_, h2⟩ := h
  rcases h2 with ⟨hv, h3⟩ | ⟨g, cap, cur, hv, _⟩
  · exact ⟨none, 0, 0, hv, h3.symm⟩
  · exact ⟨_, cap, _, hv, rfl⟩
theorem tx_ne {l : List UInt8} (h : l ≠ []) : (tx l).toList.isEmpty = false := by
  rw [ByteArray.toList_eq, tx_data]
  cases l with
  | nil => exact absurd rfl h
  | cons _ _ => rfl
theorem tx_nil : (tx []).toList.isEmpty = true := by
  rw [ByteArray.toList_eq, tx_data]
  rfl
def linesAt (w : World) (rB : Nat) : Nat := match w.cell? ⟨rB, 1, none⟩ with | some (.int _ k) => k.toNat | _ => 0
end Go.Proofs.YtklnfeblkffgiaaDoor
namespace Go.Proofs.YtklnfeblkffgiaaDoor
open Go.RowKit
set_option linter.unusedVariables false
set_option linter.unusedSimpArgs false
theorem flatMap_at7c : ∀ (l : List Ru) (k j : Nat), k < l.length → j < 7 → (l.flatMap rul)[k * 7 + j]? = (rul (l.getD k ⟨0, 0, 0, 0, 0, 0, 0⟩))[j]?
  | [], k, j, hk, _ => by simp at hk
  | x :: r, 0, j, hk, hj => by
    rw [List.flatMap_cons, List.getElem?_append_left (by simp; omega)]
    simp
  | x :: r, k + 1, j, hk, hj => by
    rw [List.flatMap_cons, List.getElem?_append_right (by simp; omega)]
    have e : (k + 1) * 7 + j - (rul x).length = k * 7 + j := by simp; omega
    rw [e, flatMap_at7c r k j (by simpa using hk) hj]
    simp
theorem ownUc_sl {w : World} {base n c : Nat} {a : Option Addr} {l : List Ru} (h : w.ownsRow base 33 7 (.slice a n c) l.length (l.flatMap rul)) : n = l.length ∧ SlU w a l.length (fun k => l.getD k ⟨0, 0, 0, 0, 0, 0, 0⟩) := by
  rcases h.2 with ⟨e, h0⟩ | ⟨g, cap', cur, hv, _, hh, hle, _, hs, ht⟩
  · simp only [Value.slice.injEq] at e
    exact ⟨by rw [h0]; exact e.2.1, .inl h0⟩
  · simp only [Value.slice.injEq] at hv
    refine ⟨hv.2.1, .inr ⟨g, 0, hv.1, (Array.getElem?_eq_some_iff.1 hh).1, fun k hk j hj => ?_⟩⟩
    have hlt : k * 7 + j < l.length * 7 := by omega
    have e1 : (l.flatMap rul)[k * 7 + j]? = cur[k * 7 + j]? := by
      rw [← ht, List.getElem?_take, if_pos hlt, Array.getElem?_toList]
    have e2 : w.cell? ⟨g, 0 + k * 7 + j, none⟩ = cur[k * 7 + j]? := by simp [World.cell?, hh]
    rw [e2, ← e1]
    exact flatMap_at7c l k j hk hj
theorem ownR_slU {w : World} {base n c z : Nat} {a : Option Addr} {f : Nat → Ru} (h : w.ownsRow base 33 7 (.slice a n c) ((List.range z).map f).length (((List.range z).map f).flatMap rul)) : n = z ∧ SlU w a z f := by
  obtain ⟨h1, h2⟩ := ownUc_sl h
  have e : ((List.range z).map f).length = z := by simp
  rw [e] at h1 h2
  refine ⟨h1, ?_⟩
  rcases h2 with h0 | ⟨b, off, ha, hb, hc⟩
  · exact .inl h0
  · refine .inr ⟨b, off, ha, hb, fun k hk j hj => ?_⟩
    rw [hc k hk j hj]
    have e2 : ((List.range z).map f).getD k ⟨0, 0, 0, 0, 0, 0, 0⟩ = f k := by simp [List.getD, hk]
    show (rul (((List.range z).map f).getD k ⟨0, 0, 0, 0, 0, 0, 0⟩))[j]? = _
    rw [e2]
theorem CS.told {w : World} {rB C2 C3 : Nat} {rt : List UInt8} {ln : Nat} {wt tr : Int} {va : Option Addr} {vn vc : Nat} {l : List Ru} {u : World} (h : CS w rB C2 C3 rt ln wt tr va vn vc l u) (v0 v1 v2 : Value) :
    (((u.setCell ⟨C2, 0, none⟩ v0).setCell ⟨C2, 1, none⟩ v1).setCell ⟨C2, 2, none⟩ v2).ownsRow w.heap.size 33 7 (.slice va vn vc) l.length (l.flatMap rul) ∧ Blk (((u.setCell ⟨C2, 0, none⟩ v0).setCell ⟨C2, 1, none⟩ v1).setCell ⟨C2, 2, none⟩ v2) rB 51 #[.string (tx rt), .int .i64 (ln : Int)] ∧ w.grownBy (((u.setCell ⟨C2, 0, none⟩ v0).setCell ⟨C2, 1, none⟩ v1).setCell ⟨C2, 2, none⟩ v2) (some rB) := by
  have hn := h.nm
  exact ⟨row_setE (row_setE (row_setE h.ow ⟨_, h.c2⟩ (by decide)) ⟨_, h.c2.set 0 v0⟩ (by decide)) ⟨_, (h.c2.set 0 v0).set 1 v1⟩ (by decide), ((h.rd.setNe (by omega)).setNe (by omega)).setNe (by omega), grown_hi (by omega) (grown_hi (by omega) (grown_hi (by omega) h.gr))⟩
theorem CS.told2 {w : World} {rB C2 C3 : Nat} {rt : List UInt8} {ln : Nat} {wt tr : Int} {va : Option Addr} {vn vc : Nat} {l : List Ru} {u : World} (h : CS w rB C2 C3 rt ln wt tr va vn vc l u) (v0 v1 v2 : Value) : Blk (((u.setCell ⟨C2, 0, none⟩ v0).setCell ⟨C2, 1, none⟩ v1).setCell ⟨C2, 2, none⟩ v2) C2 26 #[v0, v1, v2] := by
  have h9 := ((h.c2.set 0 v0).set 1 v1).set 2 v2
  simpa using h9
theorem linesAt_of {u : World} {rB k : Nat} {v : Value} (h : Blk u rB 51 #[v, .int .i64 (k : Int)]) : linesAt u rB = k := by
  unfold linesAt
  rw [h.cell 1 rfl]
  simp
set_option maxRecDepth 20000 in
set_option maxHeartbeats 2000000 in
theorem config_good (wt tr : Int) (f : Nat → Ru) (n : Nat) (hn : n ≤ 24) (hok : okC wt tr true = true) (hrs : OkRs f n) (h1 : 0 ≤ wt ∧ wt ≤ 999999) (h2 : 0 ≤ tr ∧ tr ≤ 999999) (hrd : ∀ k, k < n → RdR (f k)) (rB : Nat) (w : World) (hR : Blk w rB 51 #[.string (tx (cfT wt tr f n)), .int .i64 ((0 : Nat) : Int)]) (hsz : (cfT wt tr f n).length ≤ 1000000000) (hE : En w) (hgl : 0 < rB ∧ 1 < rB) :
    Calls Tryd.prog 28 #[.pointer (some ⟨rB, 0, none⟩)] w fun e w' => ∃ va vc, e = .returned (.agg (cfc wt tr va n vc)) ∧ w'.ownsRow w.heap.size 33 7 (.slice va n vc) ((List.range n).map f).length (((List.range n).map f).flatMap rul) ∧ (∃ rt, Blk w' rB 51 #[.string (tx rt), .int .i64 ((n + 2 : Nat) : Int)]) ∧ w.grownBy w' (some rB) := by
  obtain ⟨C2, hC2⟩ : ∃ C2, C2 = w.heap.size := ⟨_, rfl⟩
  obtain ⟨W0, hW0⟩ : ∃ W0, W0 = (w.alloc (.cells (cfc 0 0 none 0 0) 26)).alloc (.cells (cfc 0 0 none 0 0) 26) := ⟨_, rfl⟩
  obtain ⟨W1, hW1⟩ : ∃ W1, W1 = W0.alloc (.cells #[.int .i64 0] 3) := ⟨_, rfl⟩
  obtain ⟨g1, hg1⟩ : ∃ g1, g1 = C2 + 1 + 1 := ⟨_, rfl⟩
  have hz0 : W0.heap.size = g1 := by rw [hW0, hg1, hC2]; simp
  have b0 : Below w.heap.size w W0 := by rw [hW0]; exact bel_next (bel_alloc _ _) (bel_alloc _ _)
  have b1 : Below W0.heap.size W0 W1 := by rw [hW1]; exact bel_alloc _ _
  have hrl := hR.lt
  have H1 : Hid (CS w rB C2 (C2 + 1) (cfT wt tr f n) 0 0 0 none 0 0 [] W1 ∧ Blk W1 g1 3 #[.int .i64 0]) := by
    refine ⟨CS.below ⟨hR.below b0, ?_, ?_, World.ownsRow_nil _ _ _ _, grown_below b0 _, by omega⟩ b1, by rw [hW1, ← hz0]; exact Blk.new W0 _ _⟩
    · rw [hW0, hC2]; exact (Blk.new w _ _).below (bel_alloc _ _)
    · rw [hW0, hC2]
      have h9 := Blk.new (w.alloc (.cells (cfc 0 0 none 0 0) 26)) (cfc 0 0 none 0 0) 26
      simpa using h9
  have HH : Hid (En w ∧ (0 < rB ∧ 1 < rB) ∧ okC wt tr true = true ∧ OkRs f n ∧ (∀ k, k < n → RdR (f k)) ∧ (cfT wt tr f n).length ≤ 1000000000) := ⟨hE, hgl, hok, hrs, hrd, hsz⟩
  have HZ : Hid ((lnT [119, 97, 105, 116] [wt] ++ (lnT [116, 114, 105, 101, 115] [tr] ++ rsT f n 0)).length ≤ 1000000000) := by show _ ≤ _; rw [← cfT_rs]; exact hsz
  have HNU : Hid (∀ cap, Calls Tryd.prog 46 #[.pointer (some ⟨rB, 0, none⟩), .string (ByteArray.mk #[119, 97, 105, 116]), .slice (some ⟨g1, 0, none⟩) 1 cap] W1 fun e w' => ∃ g, e = .returned (.slice (some ⟨g, 0, none⟩) 1 1) ∧ w'.cell? ⟨g, 0, none⟩ = some (.int .i64 wt) ∧ CS w rB C2 (C2 + 1) (lnT [116, 114, 105, 101, 115] [tr] ++ rsT f n 0) 1 0 0 none 0 0 [] w') := by
    intro cap
    refine (numbers_good [119, 97, 105, 116] (ByteArray.mk #[119, 97, 105, 116]) rfl (by decide) (by decide) [wt] [0] 1 rfl rfl (by omega) (one_bounds h1) (lnT [116, 114, 105, 101, 115] [tr] ++ rsT f n 0) rB 0 (by omega) (some ⟨g1, 0, none⟩) cap W1 (sl_zero H1.out.2) (by rw [← cfT_rs]; exact H1.out.1.rd) HZ.out (H1.out.1.en hE hgl)).mono ?_
    rintro e w' ⟨g, rfl, o, r, gg⟩
    exact ⟨g, rfl, own_first o, H1.out.1.read gg r⟩
  clear hR hE b0 b1 hok hrs hrd hsz hrl
  go_enter Tryd.func28, Tryd.ntmps28
  go_wp2_with fail
  rw [← hC2, ← hW0, ← hW1, ← hg1]
  clear hW1 hg1 hW0 hz0 hC2
  refine (HNU.out _).mono ?_
  rintro e w2 ⟨gs, rfl, cs, K2⟩
  have HK2 := hide K2
  obtain ⟨⟨x0, x1, x2⟩, f0, f1, f2⟩ := K2.c3.thr
  clear K2 HNU H1
  obtain ⟨W4, hW4⟩ : ∃ W4, W4 = (w2.setCell ⟨C2 + 1, 0, none⟩ (.int .i64 wt)).alloc (.cells #[.int .i64 0] 3) := ⟨_, rfl⟩
  obtain ⟨g2, hg2⟩ : ∃ g2, g2 = w2.heap.size := ⟨_, rfl⟩
  have H4 : Hid (CS w rB C2 (C2 + 1) (lnT [116, 114, 105, 101, 115] [tr] ++ rsT f n 0) 1 wt 0 none 0 0 [] W4 ∧ Blk W4 g2 3 #[.int .i64 0]) := by
    refine ⟨by rw [hW4]; exact (HK2.out.wait (wt' := wt)).below (bel_alloc _ _), ?_⟩
    rw [hW4, hg2]
    have h9 := Blk.new (w2.setCell ⟨C2 + 1, 0, none⟩ (.int .i64 wt)) #[.int .i64 0] 3
    simpa using h9
  have HNV : Hid (∀ cap, Calls Tryd.prog 46 #[.pointer (some ⟨rB, 0, none⟩), .string (ByteArray.mk #[116, 114, 105, 101, 115]), .slice (some ⟨g2, 0, none⟩) 1 cap] W4 fun e w' => ∃ g, e = .returned (.slice (some ⟨g, 0, none⟩) 1 1) ∧ w'.cell? ⟨g, 0, none⟩ = some (.int .i64 tr) ∧ CS w rB C2 (C2 + 1) (rsT f n 0) 2 wt 0 none 0 0 [] w') := by
    intro cap
    refine (numbers_good [116, 114, 105, 101, 115] (ByteArray.mk #[116, 114, 105, 101, 115]) rfl (by decide) (by decide) [tr] [0] 1 rfl rfl (by omega) (one_bounds h2) (rsT f n 0) rB 1 (by omega) (some ⟨g2, 0, none⟩) cap W4 (sl_zero H4.out.2) H4.out.1.rd (by have := HZ.out; rw [List.length_append] at this; omega) (H4.out.1.en HH.out.1 HH.out.2.1)).mono ?_
    rintro e w' ⟨g, rfl, o, r, gg⟩
    exact ⟨g, rfl, own_first o, H4.out.1.read gg r⟩
  go_wp2_with fail
  rw [← hW4, ← hg2]
  clear hW4 hg2 cs x0 x1 x2 f0 f1 f2 HK2
  refine (HNV.out _).mono ?_
  rintro e w3 ⟨gs3, rfl, cs, K3⟩
  have HK3 := hide K3
  obtain ⟨⟨x0, x1, x2⟩, f0, f1, f2⟩ := K3.c3.thr
  clear K3 HNV H4
  obtain ⟨W5, hW5⟩ : ∃ W5, W5 = w3.setCell ⟨C2 + 1, 1, none⟩ (.int .i64 tr) := ⟨_, rfl⟩
  have H5 : Hid (CS w rB C2 (C2 + 1) (rsT f n 0) 2 wt tr none 0 0 [] W5) := by rw [hW5]; exact HK3.out.tries
  go_wp2
  rw [← hW5]
  clear hW5 cs x0 x1 x2 f0 f1 f2 HK3
  go_loopw [] (fun wr => ∃ (z : Nat) (va : Option Addr) (vn vc : Nat), z ≤ n ∧ CS w rB C2 (C2 + 1) (rsT f (n - z) z) (z + 2) wt tr va vn vc ((List.range z).map f) wr) (fun wr => n + 2 - linesAt wr rB)
  case atStart => exact ⟨0, none, 0, 0, Nat.zero_le _, H5.out⟩
  case round =>
    obtain ⟨z, va, vn, vc, hz, K⟩ := hrel
    have HK := hide K
    have hln : Hid (linesAt wr rB = z + 2) := by show linesAt wr rB = z + 2; unfold linesAt; rw [K.rd.cell 1 rfl]; simp; omega
    obtain ⟨rt, hrt⟩ : ∃ rt, rt = rsT f (n - z) z := ⟨_, rfl⟩
    have y0 : wr.cell? ⟨rB, 0, none⟩ = some (.string (tx rt)) := by rw [hrt]; exact K.rd.cell 0 rfl
    obtain ⟨⟨x0, x1, x2⟩, f0, f1, f2⟩ := K.c3.thr
    have HRT := hide hrt
    clear K H5 hrt
    by_cases hlt : z < n
    · have hne : (tx rt).toList.isEmpty = false := tx_ne (by rw [HRT.out, show n - z = (n - (z + 1)) + 1 from by omega]; unfold rsT lnT; simp)
      obtain ⟨r, hr⟩ : ∃ r, r = f z := ⟨_, rfl⟩
      have ers : rsT f (n - z) z = lnT [114, 117, 108, 101] (ruN r) ++ rsT f (n - (z + 1)) (z + 1) := by rw [show n - z = (n - (z + 1)) + 1 from by omega, hr]; rfl
      have HRU : Hid (∀ u, CS w rB C2 (C2 + 1) (rsT f (n - z) z) (z + 2) wt tr va vn vc ((List.range z).map f) u → Calls Tryd.prog 47 #[.pointer (some ⟨rB, 0, none⟩)] u fun e w' => e = .returned (.agg (ruc r)) ∧ CS w rB C2 (C2 + 1) (rsT f (n - (z + 1)) (z + 1)) (z + 3) wt tr va vn vc ((List.range z).map f) w') := by
        intro u h
        refine (rule_good r (by rw [hr]; exact HH.out.2.2.2.2.1 z hlt) (rsT f (n - (z + 1)) (z + 1)) rB (z + 2) (by omega) u (by rw [← ers]; exact h.rd) (by
          rw [← ers]
          have h9 := rsT_flat f (n - z) z
          have h8 := HZ.out
          have h7 := rsT_flat f n 0
          rw [Nat.zero_add] at h7
          rw [show z + (n - z) = n from by omega, h7] at h9
          have h6 := congrArg List.length h9
          simp only [List.length_append] at h6 h8
          simp only [List.range_zero, List.flatMap_nil, List.length_nil, Nat.zero_add] at h6
          omega) (h.en HH.out.1 HH.out.2.1)).mono ?_
        rintro e w' ⟨rfl, rd, gg⟩
        exact ⟨rfl, h.read gg rd⟩
      have HRE : Hid (r = f z) := hr
      clear hr ers
      go_upto_region 5 with fail
      have dz : Below wr.heap.size wr wr.drew := (Below.refl _ _).drew
      go_region_law (first
        | (go_simp; go_at_call 47; refine (HRU.out _ (by first | exact HK.out | exact HK.out.below dz)).mono ?_; rintro e w6 ⟨rfl, K6⟩; obtain ⟨⟨x0', x1', x2'⟩, f0', f1', f2'⟩ := K6.c3.thr; have q6 : ¬ C2 + 1 = w6.heap.size := Nat.ne_of_lt K6.c3.lt; have q7 : ¬ w6.heap.size = C2 + 1 := fun e => q6 e.symm; have x6 : (w6.alloc (.cells #[.int .i64 r.u, .int .i64 r.s, .int .i64 r.lo, .int .i64 r.hi, .int .i64 r.p, .int .i64 r.t, .int .i64 r.sh] 33)).cell? ⟨C2 + 1, 2, none⟩ = some (.slice va vn vc) := (K6.below (bel_alloc w6 (.cells (ruc r) 33))).c3.cell 2 rfl; have HK6 := hide K6; clear K6)
        | (refine step_appR rfl (.tmp 22) (.tmp 25) rfl w.heap.size (.slice va vn vc) ((List.range z).map f) rfl (by first | exact (HK6.out.below (bel_alloc _ _)).ow) w6.heap.size 1 r rfl (by exact Blk.new w6 _ _) (by simp; omega) (by exact (HK6.out.below (bel_alloc _ _)).gr.size) ?_; intro v7 w7 o7 g7; obtain ⟨va7, vc7, vn7, hv7, hn7⟩ := ownR_shape o7; subst hv7; have HN7 := hide hn7; clear hn7; have H7 := hide ((HK6.out.below (bel_alloc _ (.cells (ruc r) 33))).push g7 o7); clear o7 g7; obtain ⟨⟨n0, n1, n2⟩, m0, m1, m2⟩ := H7.out.1.thr))
      all_goals (
        obtain ⟨W8, hW8⟩ : ∃ W8, W8 = w7.setCell ⟨C2 + 1, 2, none⟩ (.slice va7 vn7 vc7) := ⟨_, rfl⟩
        have H8 : Hid (CS w rB C2 (C2 + 1) (rsT f (n - (z + 1)) (z + 1)) (z + 3) wt tr va7 vn7 vc7 ((List.range (z + 1)).map f) W8) := by
          show CS _ _ _ _ _ _ _ _ _ _ _ _ _
          rw [hW8, List.range_succ, List.map_append, List.map_cons, List.map_nil, ← HRE.out]
          exact H7.out.2
        rw [← hW8]
        go_wp2
        go_roundw
        case rel => exact ⟨z + 1, va7, vn7, vc7, hlt, H8.out⟩
        case measure => rw [linesAt_of H8.out.rd, hln.out]; omega)
    · have hzn : z = n := by omega
      subst hzn
      have hne : (tx rt).toList.isEmpty = true := by rw [HRT.out, Nat.sub_self]; exact tx_nil
      obtain ⟨hvz', hsl⟩ := ownR_slU HK.out.ow
      have hvz : z = vn := hvz'.symm
      clear hvz'
      subst hvz
      have HCO : Hid (Calls Tryd.prog 10 #[.agg (cfc wt tr va z vc)] wr fun e w' => e = .returned (.bool true) ∧ CS w rB C2 (C2 + 1) (rsT f (z - z) z) (z + 2) wt tr va z vc ((List.range z).map f) w') := by
        refine (implConfigOk_any wt tr va z vc f wr hsl (by omega) (fun k hk => by have := (HH.out.2.2.2.2.1 k hk).2.2.2.2.2.2; omega) true (by have := HH.out.2.2.2.1; simp [this])).mono ?_
        rintro e w' ⟨rfl, b⟩
        exact ⟨by rw [HH.out.2.2.1], HK.out.below b⟩
      clear hsl
      go_wp2_with fail
      refine HCO.out.mono ?_
      rintro e w9 ⟨rfl, K9⟩
      have HK9 := hide K9
      obtain ⟨⟨e0, e1, e2⟩, i0, i1, i2⟩ := K9.c3.thr
      obtain ⟨⟨d0, d1, d2⟩, j0, j1, j2⟩ := K9.c2.thr
      have n1 : ¬ C2 = C2 + 1 := by omega
      have n2 : ¬ C2 + 1 = C2 := by omega
      clear K9 HCO HK x0 x1 x2 f0 f1 f2 y0
      obtain ⟨W10, hW10⟩ : ∃ W10, W10 = ((w9.setCell ⟨C2, 0, none⟩ (.int .i64 wt)).setCell ⟨C2, 1, none⟩ (.int .i64 tr)).setCell ⟨C2, 2, none⟩ (.slice va z vc) := ⟨_, rfl⟩
      have H10 : Hid (Blk W10 C2 26 (cfc wt tr va z vc) ∧ W10.ownsRow w.heap.size 33 7 (.slice va z vc) ((List.range z).map f).length (((List.range z).map f).flatMap rul) ∧ (∃ rt, Blk W10 rB 51 #[.string (tx rt), .int .i64 ((z + 2 : Nat) : Int)]) ∧ w.grownBy W10 (some rB)) := by
        rw [hW10]
        exact ⟨HK9.out.told2 _ _ _, (HK9.out.told _ _ _).1, ⟨_, (HK9.out.told _ _ _).2.1⟩, (HK9.out.told _ _ _).2.2⟩
      obtain ⟨⟨k0, k1, k2⟩, _⟩ := H10.out.1.thr
      go_wp2
      rw [← hW10]
      refine bodyPost_ret (v := .agg (cfc wt tr va z vc)) (by simp [results, Tryd.results28, go_sem, k0, k1, k2]) rfl ⟨va, vc, rfl, H10.out.2⟩
end Go.Proofs.YtklnfeblkffgiaaDoor
namespace Go.Proofs.YtklnfeblkffgiaaDoor
open Go.RowKit
set_option linter.unusedVariables false
set_option linter.unusedSimpArgs false
def rsS (f : Nat → Ru) : Nat → Nat → List UInt8
  | 0, z => [114, 117, 108, 101] ++ nbT (ruN (f z))
  | d + 1, z => lnT [114, 117, 108, 101] (ruN (f z)) ++ rsS f d (z + 1)
theorem rsS_rsT (f : Nat → Ru) : ∀ (d z : Nat), rsT f (d + 1) z = rsS f d z ++ [10]
  | 0, z => by simp [rsT, rsS, lnT]
  | d + 1, z => by
    have h := rsS_rsT f d (z + 1)
    show lnT _ _ ++ rsT f (d + 1) (z + 1) = _
    rw [h]
    simp [rsS]
theorem rsS_le (f : Nat → Ru) (d : Nat) : ∀ (z : Nat), z ≤ d → (rsS f (d - z) z).length ≤ (rsS f d 0).length
  | 0, _ => Nat.le_refl _
  | z + 1, h => by
    refine Nat.le_trans ?_ (rsS_le f d z (by omega))
    rw [show d - z = (d - (z + 1)) + 1 from by omega]
    show _ ≤ (lnT _ _ ++ rsS f (d - (z + 1)) (z + 1)).length
    rw [List.length_append]
    omega
set_option maxRecDepth 20000 in
set_option maxHeartbeats 2000000 in
theorem config_short (wt tr : Int) (f : Nat → Ru) (d : Nat) (hn : d ≤ 24) (h1 : 0 ≤ wt ∧ wt ≤ 999999) (h2 : 0 ≤ tr ∧ tr ≤ 999999) (hrd : ∀ k, k < d → RdR (f k)) (rB : Nat) (w : World) (hR : Blk w rB 51 #[.string (tx (lnT [119, 97, 105, 116] [wt] ++ (lnT [116, 114, 105, 101, 115] [tr] ++ rsS f d 0))), .int .i64 ((0 : Nat) : Int)]) (hsz : (lnT [119, 97, 105, 116] [wt] ++ (lnT [116, 114, 105, 101, 115] [tr] ++ rsS f d 0)).length ≤ 1000000000) (hE : En w) (hgl : 0 < rB ∧ 1 < rB) :
    Calls Tryd.prog 28 #[.pointer (some ⟨rB, 0, none⟩)] w fun e w' => (∃ pv, e = .panicked [{ v := .iface 9 pv, recovered := false }]) ∧ (∃ rt, Blk w' rB 51 #[.string (tx rt), .int .i64 ((d + 2 : Nat) : Int)]) ∧ w.grownBy w' (some rB) := by
  obtain ⟨C2, hC2⟩ : ∃ C2, C2 = w.heap.size := ⟨_, rfl⟩
  obtain ⟨W0, hW0⟩ : ∃ W0, W0 = (w.alloc (.cells (cfc 0 0 none 0 0) 26)).alloc (.cells (cfc 0 0 none 0 0) 26) := ⟨_, rfl⟩
  obtain ⟨W1, hW1⟩ : ∃ W1, W1 = W0.alloc (.cells #[.int .i64 0] 3) := ⟨_, rfl⟩
  obtain ⟨g1, hg1⟩ : ∃ g1, g1 = C2 + 1 + 1 := ⟨_, rfl⟩
  have hz0 : W0.heap.size = g1 := by rw [hW0, hg1, hC2]; simp
  have b0 : Below w.heap.size w W0 := by rw [hW0]; exact bel_next (bel_alloc _ _) (bel_alloc _ _)
  have b1 : Below W0.heap.size W0 W1 := by rw [hW1]; exact bel_alloc _ _
  have hrl := hR.lt
  have H1 : Hid (CS w rB C2 (C2 + 1) (lnT [119, 97, 105, 116] [wt] ++ (lnT [116, 114, 105, 101, 115] [tr] ++ rsS f d 0)) 0 0 0 none 0 0 [] W1 ∧ Blk W1 g1 3 #[.int .i64 0]) := by
    refine ⟨CS.below ⟨hR.below b0, ?_, ?_, World.ownsRow_nil _ _ _ _, grown_below b0 _, by omega⟩ b1, by rw [hW1, ← hz0]; exact Blk.new W0 _ _⟩
    · rw [hW0, hC2]; exact (Blk.new w _ _).below (bel_alloc _ _)
    · rw [hW0, hC2]
      have h9 := Blk.new (w.alloc (.cells (cfc 0 0 none 0 0) 26)) (cfc 0 0 none 0 0) 26
      simpa using h9
  have HH : Hid (En w ∧ (0 < rB ∧ 1 < rB) ∧ (∀ k, k < d → RdR (f k)) ∧ (lnT [119, 97, 105, 116] [wt] ++ (lnT [116, 114, 105, 101, 115] [tr] ++ rsS f d 0)).length ≤ 1000000000) := ⟨hE, hgl, hrd, hsz⟩
  have HZ : Hid ((lnT [119, 97, 105, 116] [wt] ++ (lnT [116, 114, 105, 101, 115] [tr] ++ rsS f d 0)).length ≤ 1000000000) := hsz
  have HNU : Hid (∀ cap, Calls Tryd.prog 46 #[.pointer (some ⟨rB, 0, none⟩), .string (ByteArray.mk #[119, 97, 105, 116]), .slice (some ⟨g1, 0, none⟩) 1 cap] W1 fun e w' => ∃ g, e = .returned (.slice (some ⟨g, 0, none⟩) 1 1) ∧ w'.cell? ⟨g, 0, none⟩ = some (.int .i64 wt) ∧ CS w rB C2 (C2 + 1) (lnT [116, 114, 105, 101, 115] [tr] ++ rsS f d 0) 1 0 0 none 0 0 [] w') := by
    intro cap
    refine (numbers_good [119, 97, 105, 116] (ByteArray.mk #[119, 97, 105, 116]) rfl (by decide) (by decide) [wt] [0] 1 rfl rfl (by omega) (one_bounds h1) (lnT [116, 114, 105, 101, 115] [tr] ++ rsS f d 0) rB 0 (by omega) (some ⟨g1, 0, none⟩) cap W1 (sl_zero H1.out.2) (H1.out.1.rd) HZ.out (H1.out.1.en hE hgl)).mono ?_
    rintro e w' ⟨g, rfl, o, r, gg⟩
    exact ⟨g, rfl, own_first o, H1.out.1.read gg r⟩
  clear hR hE b0 b1 hrd hsz hrl
  go_enter Tryd.func28, Tryd.ntmps28
  go_wp2_with fail
  rw [← hC2, ← hW0, ← hW1, ← hg1]
  clear hW1 hg1 hW0 hz0 hC2
  refine (HNU.out _).mono ?_
  rintro e w2 ⟨gs, rfl, cs, K2⟩
  have HK2 := hide K2
  obtain ⟨⟨x0, x1, x2⟩, f0, f1, f2⟩ := K2.c3.thr
  clear K2 HNU H1
  obtain ⟨W4, hW4⟩ : ∃ W4, W4 = (w2.setCell ⟨C2 + 1, 0, none⟩ (.int .i64 wt)).alloc (.cells #[.int .i64 0] 3) := ⟨_, rfl⟩
  obtain ⟨g2, hg2⟩ : ∃ g2, g2 = w2.heap.size := ⟨_, rfl⟩
  have H4 : Hid (CS w rB C2 (C2 + 1) (lnT [116, 114, 105, 101, 115] [tr] ++ rsS f d 0) 1 wt 0 none 0 0 [] W4 ∧ Blk W4 g2 3 #[.int .i64 0]) := by
    refine ⟨by rw [hW4]; exact (HK2.out.wait (wt' := wt)).below (bel_alloc _ _), ?_⟩
    rw [hW4, hg2]
    have h9 := Blk.new (w2.setCell ⟨C2 + 1, 0, none⟩ (.int .i64 wt)) #[.int .i64 0] 3
    simpa using h9
  have HNV : Hid (∀ cap, Calls Tryd.prog 46 #[.pointer (some ⟨rB, 0, none⟩), .string (ByteArray.mk #[116, 114, 105, 101, 115]), .slice (some ⟨g2, 0, none⟩) 1 cap] W4 fun e w' => ∃ g, e = .returned (.slice (some ⟨g, 0, none⟩) 1 1) ∧ w'.cell? ⟨g, 0, none⟩ = some (.int .i64 tr) ∧ CS w rB C2 (C2 + 1) (rsS f d 0) 2 wt 0 none 0 0 [] w') := by
    intro cap
    refine (numbers_good [116, 114, 105, 101, 115] (ByteArray.mk #[116, 114, 105, 101, 115]) rfl (by decide) (by decide) [tr] [0] 1 rfl rfl (by omega) (one_bounds h2) (rsS f d 0) rB 1 (by omega) (some ⟨g2, 0, none⟩) cap W4 (sl_zero H4.out.2) H4.out.1.rd (by have := HZ.out; rw [List.length_append] at this; omega) (H4.out.1.en HH.out.1 HH.out.2.1)).mono ?_
    rintro e w' ⟨g, rfl, o, r, gg⟩
    exact ⟨g, rfl, own_first o, H4.out.1.read gg r⟩
  go_wp2_with fail
  rw [← hW4, ← hg2]
  clear hW4 hg2 cs x0 x1 x2 f0 f1 f2 HK2
  refine (HNV.out _).mono ?_
  rintro e w3 ⟨gs3, rfl, cs, K3⟩
  have HK3 := hide K3
  obtain ⟨⟨x0, x1, x2⟩, f0, f1, f2⟩ := K3.c3.thr
  clear K3 HNV H4
  obtain ⟨W5, hW5⟩ : ∃ W5, W5 = w3.setCell ⟨C2 + 1, 1, none⟩ (.int .i64 tr) := ⟨_, rfl⟩
  have H5 : Hid (CS w rB C2 (C2 + 1) (rsS f d 0) 2 wt tr none 0 0 [] W5) := by rw [hW5]; exact HK3.out.tries
  go_wp2
  rw [← hW5]
  clear hW5 cs x0 x1 x2 f0 f1 f2 HK3
  go_loopw [] (fun wr => ∃ (z : Nat) (va : Option Addr) (vn vc : Nat), z ≤ d ∧ CS w rB C2 (C2 + 1) (rsS f (d - z) z) (z + 2) wt tr va vn vc ((List.range z).map f) wr) (fun wr => d + 2 - linesAt wr rB)
  case atStart => exact ⟨0, none, 0, 0, Nat.zero_le _, H5.out⟩
  case round =>
    obtain ⟨z, va, vn, vc, hz, K⟩ := hrel
    have HK := hide K
    have hln : Hid (linesAt wr rB = z + 2) := by show linesAt wr rB = z + 2; unfold linesAt; rw [K.rd.cell 1 rfl]; simp; omega
    obtain ⟨rt, hrt⟩ : ∃ rt, rt = rsS f (d - z) z := ⟨_, rfl⟩
    have y0 : wr.cell? ⟨rB, 0, none⟩ = some (.string (tx rt)) := by rw [hrt]; exact K.rd.cell 0 rfl
    obtain ⟨⟨x0, x1, x2⟩, f0, f1, f2⟩ := K.c3.thr
    have HRT := hide hrt
    clear K H5 hrt
    by_cases hlt : z < d
    · have hne : (tx rt).toList.isEmpty = false := tx_ne (by rw [HRT.out, show d - z = (d - (z + 1)) + 1 from by omega]; unfold rsS lnT; simp)
      obtain ⟨r, hr⟩ : ∃ r, r = f z := ⟨_, rfl⟩
      have ers : rsS f (d - z) z = lnT [114, 117, 108, 101] (ruN r) ++ rsS f (d - (z + 1)) (z + 1) := by rw [show d - z = (d - (z + 1)) + 1 from by omega, hr]; rfl
      have HRU : Hid (∀ u, CS w rB C2 (C2 + 1) (rsS f (d - z) z) (z + 2) wt tr va vn vc ((List.range z).map f) u → Calls Tryd.prog 47 #[.pointer (some ⟨rB, 0, none⟩)] u fun e w' => e = .returned (.agg (ruc r)) ∧ CS w rB C2 (C2 + 1) (rsS f (d - (z + 1)) (z + 1)) (z + 3) wt tr va vn vc ((List.range z).map f) w') := by
        intro u h
        refine (rule_good r (by rw [hr]; exact HH.out.2.2.1 z hlt) (rsS f (d - (z + 1)) (z + 1)) rB (z + 2) (by omega) u (by rw [← ers]; exact h.rd) (by
          rw [← ers]
          have h9 := rsS_le f d z hz
          have h8 := HZ.out
          simp only [List.length_append] at h8
          omega) (h.en HH.out.1 HH.out.2.1)).mono ?_
        rintro e w' ⟨rfl, rd, gg⟩
        exact ⟨rfl, h.read gg rd⟩
      have HRE : Hid (r = f z) := hr
      clear hr ers
      go_upto_region 5 with fail
      have dz : Below wr.heap.size wr wr.drew := (Below.refl _ _).drew
      go_region_law (first
        | (go_simp; go_at_call 47; refine (HRU.out _ (by first | exact HK.out | exact HK.out.below dz)).mono ?_; rintro e w6 ⟨rfl, K6⟩; obtain ⟨⟨x0', x1', x2'⟩, f0', f1', f2'⟩ := K6.c3.thr; have q6 : ¬ C2 + 1 = w6.heap.size := Nat.ne_of_lt K6.c3.lt; have q7 : ¬ w6.heap.size = C2 + 1 := fun e => q6 e.symm; have x6 : (w6.alloc (.cells #[.int .i64 r.u, .int .i64 r.s, .int .i64 r.lo, .int .i64 r.hi, .int .i64 r.p, .int .i64 r.t, .int .i64 r.sh] 33)).cell? ⟨C2 + 1, 2, none⟩ = some (.slice va vn vc) := (K6.below (bel_alloc w6 (.cells (ruc r) 33))).c3.cell 2 rfl; have HK6 := hide K6; clear K6)
        | (refine step_appR rfl (.tmp 22) (.tmp 25) rfl w.heap.size (.slice va vn vc) ((List.range z).map f) rfl (by first | exact (HK6.out.below (bel_alloc _ _)).ow) w6.heap.size 1 r rfl (by exact Blk.new w6 _ _) (by simp; omega) (by exact (HK6.out.below (bel_alloc _ _)).gr.size) ?_; intro v7 w7 o7 g7; obtain ⟨va7, vc7, vn7, hv7, hn7⟩ := ownR_shape o7; subst hv7; have HN7 := hide hn7; clear hn7; have H7 := hide ((HK6.out.below (bel_alloc _ (.cells (ruc r) 33))).push g7 o7); clear o7 g7; obtain ⟨⟨n0, n1, n2⟩, m0, m1, m2⟩ := H7.out.1.thr))
      all_goals (
        obtain ⟨W8, hW8⟩ : ∃ W8, W8 = w7.setCell ⟨C2 + 1, 2, none⟩ (.slice va7 vn7 vc7) := ⟨_, rfl⟩
        have H8 : Hid (CS w rB C2 (C2 + 1) (rsS f (d - (z + 1)) (z + 1)) (z + 3) wt tr va7 vn7 vc7 ((List.range (z + 1)).map f) W8) := by
          show CS _ _ _ _ _ _ _ _ _ _ _ _ _
          rw [hW8, List.range_succ, List.map_append, List.map_cons, List.map_nil, ← HRE.out]
          exact H7.out.2
        rw [← hW8]
        go_wp2
        go_roundw
        case rel => exact ⟨z + 1, va7, vn7, vc7, hlt, H8.out⟩
        case measure => rw [linesAt_of H8.out.rd, hln.out]; omega)
    · have hzn : z = d := by omega
      subst hzn
      have hne : (tx rt).toList.isEmpty = false := tx_ne (by rw [HRT.out, Nat.sub_self]; unfold rsS; simp)
      have HRU : Hid (∀ u, CS w rB C2 (C2 + 1) (rsS f (z - z) z) (z + 2) wt tr va vn vc ((List.range z).map f) u → Calls Tryd.prog 47 #[.pointer (some ⟨rB, 0, none⟩)] u fun e w' => (∃ pv, e = .panicked [{ v := .iface 9 pv, recovered := false }]) ∧ (∃ rt, Blk w' rB 51 #[.string (tx rt), .int .i64 ((z + 2 : Nat) : Int)]) ∧ w.grownBy w' (some rB)) := by
        intro u h
        have hr := h.rd
        rw [Nat.sub_self] at hr
        refine (rule_short (f z) rB (z + 2) u hr (by
          have h9 := rsS_le f z z (Nat.le_refl _)
          have h8 := HZ.out
          simp only [List.length_append] at h8
          rw [Nat.sub_self] at h9
          have h7 : ([114, 117, 108, 101] ++ nbT (ruN (f z))).length = (rsS f 0 z).length := rfl
          rw [h7]
          omega) (h.en HH.out.1 HH.out.2.1)).mono ?_
        rintro e w' ⟨pv, b⟩
        exact ⟨pv, ⟨_, h.rd.below b⟩, grown_tr h.gr (grown_below b (some rB))⟩
      go_upto_region 5 with fail
      have dz : Below wr.heap.size wr wr.drew := (Below.refl _ _).drew
      go_region_dies
      all_goals (
        refine (HRU.out _ (by first | exact HK.out | exact HK.out.below dz)).mono ?_
        rintro e w6 ⟨⟨pv, rfl⟩, K6⟩
        first | exact ⟨rfl, ⟨pv, rfl⟩, K6⟩ | trace_state)
end Go.Proofs.YtklnfeblkffgiaaDoor
namespace Go.Proofs.YtklnfeblkffgiaaDoor
open Go.RowKit
set_option linter.unusedVariables false
set_option linter.unusedSimpArgs false
set_option maxHeartbeats 1000000 in
theorem catch_panicking (rB cB lB : Nat) (ln : Int) (v0 v1 v2 v3 : Value) (u : TypeId) (pv : Value) (older : List PanicEntry) (w : World) (hr : w.cell? ⟨rB, 1, none⟩ = some (.int .i64 ln)) (c0 : w.cell? ⟨cB, 0, none⟩ = some v0) (c1 : w.cell? ⟨cB, 1, none⟩ = some v1) (c2 : w.cell? ⟨cB, 2, none⟩ = some v2) (f0 : w.frozen? ⟨cB, 0, none⟩ = false) (f1 : w.frozen? ⟨cB, 1, none⟩ = false) (f2 : w.frozen? ⟨cB, 2, none⟩ = false) (l0 : w.cell? ⟨lB, 0, none⟩ = some v3) (g0 : w.frozen? ⟨lB, 0, none⟩ = false) (hne : ¬ cB = lB) (hne' : ¬ lB = cB) :
    CallsD Tryd.prog 27 #[.pointer (some ⟨rB, 0, none⟩), .pointer (some ⟨cB, 0, none⟩), .pointer (some ⟨lB, 0, none⟩)] (.panicking ({ v := .iface u pv, recovered := false } :: older)) w fun e u' w' =>
      e = .returned (.tuple #[]) ∧ u' = .panicking ({ v := .iface u pv, recovered := true } :: older) ∧ w' = (((w.setCell ⟨cB, 0, none⟩ (.int .i64 0)).setCell ⟨cB, 1, none⟩ (.int .i64 0)).setCell ⟨cB, 2, none⟩ (.slice none 0 0)).setCell ⟨lB, 0, none⟩ (.int .i64 ln) := by
  refine callsD_of_wpS Tryd.func27 rfl fun cc cs hu => ?_
  apply wpS_seq
  apply wpS_region
  simp [wpOpsS, go_sem, recoverD, hu, Tryd.ntmps27, Exit.thenS]
  refine wpS_cond (t := true) (by simp [Act.eval, Array.replicate]) ?_
  simp only [if_true]
  apply wpS_region
  simp [wpOpsS, go_sem, hr, c0, c1, c2, f0, f1, f2, l0, g0, hne, hne', bodyPostS, results, Tryd.results27]
theorem catch_idle (p1 p2 p3 : Addr) (w : World) :
    CallsD Tryd.prog 27 #[.pointer (some p1), .pointer (some p2), .pointer (some p3)] .returning w fun e u' w' => e = .returned (.tuple #[]) ∧ u' = .returning ∧ w' = w := by
  refine callsD_of_wpS Tryd.func27 rfl fun c₀ cs hu => ?_
  apply wpS_seq
  apply wpS_region
  simp [wpOpsS, go_sem, recoverD, hu, Tryd.ntmps27, Exit.thenS]
  refine wpS_cond (t := false) (by simp [Act.eval, Array.replicate]) ?_
  simp only [Bool.false_eq_true, if_false]
  refine wpS_of_wp (wp_skip ?_)
  cases c₀
  simp_all [bodyPostS, results, Tryd.results27]
end Go.Proofs.YtklnfeblkffgiaaDoor
namespace Go.Proofs.YtklnfeblkffgiaaDoor
open Go.RowKit
set_option linter.unusedVariables false
set_option linter.unusedSimpArgs false
set_option maxRecDepth 20000 in
set_option maxHeartbeats 2000000 in
theorem config_short0 (wt tr : Int) (h1 : 0 ≤ wt ∧ wt ≤ 999999) (rB : Nat) (w : World) (hR : Blk w rB 51 #[.string (tx (lnT [119, 97, 105, 116] [wt] ++ ([116, 114, 105, 101, 115] ++ nbT [tr]))), .int .i64 ((0 : Nat) : Int)]) (hsz : (lnT [119, 97, 105, 116] [wt] ++ ([116, 114, 105, 101, 115] ++ nbT [tr])).length ≤ 1000000000) (hE : En w) (hgl : 0 < rB ∧ 1 < rB) :
    Calls Tryd.prog 28 #[.pointer (some ⟨rB, 0, none⟩)] w fun e w' => (∃ pv, e = .panicked [{ v := .iface 9 pv, recovered := false }]) ∧ (∃ rt, Blk w' rB 51 #[.string (tx rt), .int .i64 ((1 : Nat) : Int)]) ∧ w.grownBy w' (some rB) := by
  obtain ⟨C2, hC2⟩ : ∃ C2, C2 = w.heap.size := ⟨_, rfl⟩
  obtain ⟨W0, hW0⟩ : ∃ W0, W0 = (w.alloc (.cells (cfc 0 0 none 0 0) 26)).alloc (.cells (cfc 0 0 none 0 0) 26) := ⟨_, rfl⟩
  obtain ⟨W1, hW1⟩ : ∃ W1, W1 = W0.alloc (.cells #[.int .i64 0] 3) := ⟨_, rfl⟩
  obtain ⟨g1, hg1⟩ : ∃ g1, g1 = C2 + 1 + 1 := ⟨_, rfl⟩
  have hz0 : W0.heap.size = g1 := by rw [hW0, hg1, hC2]; simp
  have b0 : Below w.heap.size w W0 := by rw [hW0]; exact bel_next (bel_alloc _ _) (bel_alloc _ _)
  have b1 : Below W0.heap.size W0 W1 := by rw [hW1]; exact bel_alloc _ _
  have hrl := hR.lt
  have H1 : Hid (CS w rB C2 (C2 + 1) (lnT [119, 97, 105, 116] [wt] ++ ([116, 114, 105, 101, 115] ++ nbT [tr])) 0 0 0 none 0 0 [] W1 ∧ Blk W1 g1 3 #[.int .i64 0]) := by
    refine ⟨CS.below ⟨hR.below b0, ?_, ?_, World.ownsRow_nil _ _ _ _, grown_below b0 _, by omega⟩ b1, by rw [hW1, ← hz0]; exact Blk.new W0 _ _⟩
    · rw [hW0, hC2]; exact (Blk.new w _ _).below (bel_alloc _ _)
    · rw [hW0, hC2]
      have h9 := Blk.new (w.alloc (.cells (cfc 0 0 none 0 0) 26)) (cfc 0 0 none 0 0) 26
      simpa using h9
  have HH : Hid (En w ∧ (0 < rB ∧ 1 < rB) ∧ (lnT [119, 97, 105, 116] [wt] ++ ([116, 114, 105, 101, 115] ++ nbT [tr])).length ≤ 1000000000) := ⟨hE, hgl, hsz⟩
  have HZ : Hid ((lnT [119, 97, 105, 116] [wt] ++ ([116, 114, 105, 101, 115] ++ nbT [tr])).length ≤ 1000000000) := hsz
  have HNU : Hid (∀ cap, Calls Tryd.prog 46 #[.pointer (some ⟨rB, 0, none⟩), .string (ByteArray.mk #[119, 97, 105, 116]), .slice (some ⟨g1, 0, none⟩) 1 cap] W1 fun e w' => ∃ g, e = .returned (.slice (some ⟨g, 0, none⟩) 1 1) ∧ w'.cell? ⟨g, 0, none⟩ = some (.int .i64 wt) ∧ CS w rB C2 (C2 + 1) ([116, 114, 105, 101, 115] ++ nbT [tr]) 1 0 0 none 0 0 [] w') := by
    intro cap
    refine (numbers_good [119, 97, 105, 116] (ByteArray.mk #[119, 97, 105, 116]) rfl (by decide) (by decide) [wt] [0] 1 rfl rfl (by omega) (one_bounds h1) ([116, 114, 105, 101, 115] ++ nbT [tr]) rB 0 (by omega) (some ⟨g1, 0, none⟩) cap W1 (sl_zero H1.out.2) (H1.out.1.rd) HZ.out (H1.out.1.en hE hgl)).mono ?_
    rintro e w' ⟨g, rfl, o, r, gg⟩
    exact ⟨g, rfl, own_first o, H1.out.1.read gg r⟩
  clear hR hE b0 b1 hsz hrl
  go_enter Tryd.func28, Tryd.ntmps28
  go_wp2_with fail
  rw [← hC2, ← hW0, ← hW1, ← hg1]
  clear hW1 hg1 hW0 hz0 hC2
  refine (HNU.out _).mono ?_
  rintro e w2 ⟨gs, rfl, cs, K2⟩
  have HK2 := hide K2
  obtain ⟨⟨x0, x1, x2⟩, f0, f1, f2⟩ := K2.c3.thr
  clear K2 HNU H1
  obtain ⟨W4, hW4⟩ : ∃ W4, W4 = (w2.setCell ⟨C2 + 1, 0, none⟩ (.int .i64 wt)).alloc (.cells #[.int .i64 0] 3) := ⟨_, rfl⟩
  obtain ⟨g2, hg2⟩ : ∃ g2, g2 = w2.heap.size := ⟨_, rfl⟩
  have H4 : Hid (CS w rB C2 (C2 + 1) ([116, 114, 105, 101, 115] ++ nbT [tr]) 1 wt 0 none 0 0 [] W4 ∧ Blk W4 g2 3 #[.int .i64 0]) := by
    refine ⟨by rw [hW4]; exact (HK2.out.wait (wt' := wt)).below (bel_alloc _ _), ?_⟩
    rw [hW4, hg2]
    have h9 := Blk.new (w2.setCell ⟨C2 + 1, 0, none⟩ (.int .i64 wt)) #[.int .i64 0] 3
    simpa using h9
  have HNV : Hid (∀ cap, Calls Tryd.prog 46 #[.pointer (some ⟨rB, 0, none⟩), .string (ByteArray.mk #[116, 114, 105, 101, 115]), .slice (some ⟨g2, 0, none⟩) 1 cap] W4 fun e w' => (∃ pv, e = .panicked [{ v := .iface 9 pv, recovered := false }]) ∧ (∃ rt, Blk w' rB 51 #[.string (tx rt), .int .i64 ((1 : Nat) : Int)]) ∧ w.grownBy w' (some rB)) := by
    intro cap
    refine (numbers_short [116, 114, 105, 101, 115] (ByteArray.mk #[116, 114, 105, 101, 115]) rfl (by decide) (by decide) [tr] 1 rfl (by omega) rB 1 (some ⟨g2, 0, none⟩) cap W4 H4.out.1.rd (by have := HZ.out; rw [List.length_append] at this; omega) (H4.out.1.en HH.out.1 HH.out.2.1)).mono ?_
    rintro e w' ⟨pv, b⟩
    exact ⟨pv, ⟨_, H4.out.1.rd.below b⟩, grown_tr H4.out.1.gr (grown_below b (some rB))⟩
  go_wp2_with fail
  rw [← hW4, ← hg2]
  clear hW4 hg2 cs x0 x1 x2 f0 f1 f2 HK2
  refine (HNV.out _).mono ?_
  rintro e w3 ⟨⟨pv, rfl⟩, K3⟩
  exact ⟨rfl, ⟨pv, rfl⟩, K3⟩
theorem parse_pre (st : List UInt8) (w W : World) (hW : W = ((w.alloc (.cells (cfc 0 0 none 0 0) 26)).alloc (.cells #[.int .i64 0] 3)).alloc (.cells #[.string (tx st), .int .i64 0] 51)) :
    Blk W w.heap.size 26 (cfc 0 0 none 0 0) ∧ Blk W (w.heap.size + 1) 3 #[.int .i64 0] ∧ Blk W (w.heap.size + 1 + 1) 51 #[.string (tx st), .int .i64 ((0 : Nat) : Int)] ∧ Below w.heap.size w W ∧ W.heap.size = w.heap.size + 1 + 1 + 1 := by
  have a1 := Blk.new w (cfc 0 0 none 0 0) 26
  have a2 := Blk.new (w.alloc (.cells (cfc 0 0 none 0 0) 26)) #[.int .i64 0] 3
  have a3 := Blk.new ((w.alloc (.cells (cfc 0 0 none 0 0) 26)).alloc (.cells #[.int .i64 0] 3)) #[.string (tx st), .int .i64 0] 51
  simp only [World.size_alloc] at a2 a3
  rw [hW]
  exact ⟨(a1.below (bel_alloc _ _)).below (bel_alloc _ _), a2.below (bel_alloc _ _), a3, bel_next (bel_next (bel_alloc _ _) (bel_alloc _ _)) (bel_alloc _ _), by simp⟩
set_option maxRecDepth 20000 in
set_option maxHeartbeats 2000000 in
theorem parse_good (wt tr : Int) (f : Nat → Ru) (n : Nat) (hn : n ≤ 24) (hok : okC wt tr true = true) (hrs : OkRs f n) (h1 : 0 ≤ wt ∧ wt ≤ 999999) (h2 : 0 ≤ tr ∧ tr ≤ 999999) (hrd : ∀ k, k < n → RdR (f k)) (w : World) (hsz : (cfT wt tr f n).length ≤ 1000000000) (hE : En w) :
    Calls Tryd.prog 11 #[.string (tx (cfT wt tr f n))] w fun e w' => ∃ va vc, e = .returned (.tuple #[.agg (cfc wt tr va n vc), .int .i64 (-1)]) ∧ SlU w' va n f ∧ Below w.heap.size w w' := by
  have hmf : ∀ (fn : Fn) (first cap : Array Value) (w : World), (Instr.makeFunc fn first cap).run Tryd.prog w = .ok (.func fn first cap) w := fun _ _ _ _ => rfl
  obtain ⟨st, hst⟩ : ∃ st, st = cfT wt tr f n := ⟨_, rfl⟩
  rw [← hst]
  obtain ⟨W, hW⟩ : ∃ W, W = ((w.alloc (.cells (cfc 0 0 none 0 0) 26)).alloc (.cells #[.int .i64 0] 3)).alloc (.cells #[.string (tx st), .int .i64 0] 51) := ⟨_, rfl⟩
  have HP := hide (parse_pre st w W hW)
  have hgl : 0 < w.heap.size + 1 + 1 ∧ 1 < w.heap.size + 1 + 1 := by
    obtain ⟨p, m, c⟩ := hE
    have q1 := p.lt
    have q2 := World.block_lt_of_cell? _ _ c
    simp only at q2
    omega
  have HCF : Hid (Calls Tryd.prog 28 #[.pointer (some ⟨w.heap.size + 1 + 1, 0, none⟩)] W fun e w' => ∃ va vc, e = .returned (.agg (cfc wt tr va n vc)) ∧ w'.ownsRow W.heap.size 33 7 (.slice va n vc) ((List.range n).map f).length (((List.range n).map f).flatMap rul) ∧ W.grownBy w' (some (w.heap.size + 1 + 1))) := by
    refine (config_good wt tr f n hn hok hrs h1 h2 hrd _ W (by rw [← hst]; exact HP.out.2.2.1) hsz (hE.below HP.out.2.2.2.1) hgl).mono ?_
    rintro e w' ⟨va, vc, rfl, ow, _, g⟩
    exact ⟨va, vc, rfl, ow, g⟩
  obtain ⟨C, hC⟩ : ∃ C, C = w.heap.size := ⟨_, rfl⟩
  rw [← hC] at HP HCF
  have HST := hide hst
  have HCC := hide hC
  clear hst hE hgl
  go_enter_defers Tryd.func11, Tryd.ntmps11
  go_wp2_with fail
  rw [← HCC.out, ← hW]
  clear hW hC
  refine HCF.out.mono ?_
  rintro e w5 ⟨va, vc, rfl, ow, g⟩
  have KC := HP.out.1.grown g (fun e => by have := Option.some.inj e; omega)
  have KL := HP.out.2.1.grown g (fun e => by have := Option.some.inj e; omega)
  have n1 : ¬ C = C + 1 := by omega
  have n2 : ¬ C + 1 = C := by omega
  obtain ⟨⟨x0, x1, x2⟩, f0, f1, f2⟩ := KC.thr
  have y0 := KL.cell 0 rfl
  have z0 := KL.fro 0
  obtain ⟨W6, hW6⟩ : ∃ W6, W6 = (((w5.setCell ⟨C, 0, none⟩ (.int .i64 wt)).setCell ⟨C, 1, none⟩ (.int .i64 tr)).setCell ⟨C, 2, none⟩ (.slice va n vc)).setCell ⟨C + 1, 0, none⟩ (.int .i64 (-1)) := ⟨_, rfl⟩
  have H6 : Hid (Blk W6 C 26 (cfc wt tr va n vc) ∧ Blk W6 (C + 1) 3 #[.int .i64 (-1)] ∧ SlU W6 va n f ∧ Below w.heap.size w W6) := by
    rw [hW6]
    have o3 := row_setE (row_setE (row_setE ow ⟨_, KC⟩ (by decide) (j := 0) (y := .int .i64 wt)) ⟨_, KC.set 0 (.int .i64 wt)⟩ (by decide) (j := 1) (y := .int .i64 tr)) ⟨_, (KC.set 0 (.int .i64 wt)).set 1 (.int .i64 tr)⟩ (by decide) (j := 2) (y := .slice va n vc)
    have l3 := ((KL.setNe (j := 0) (y := .int .i64 wt) n2).setNe (j := 1) (y := .int .i64 tr) n2).setNe (j := 2) (y := .slice va n vc) n2
    have c3 := ((KC.set 0 (.int .i64 wt)).set 1 (.int .i64 tr)).set 2 (.slice va n vc)
    have c4 := c3.setNe (j := 0) (y := .int .i64 (-1)) n1
    have l4 := l3.set 0 (.int .i64 (-1))
    have o4 := row_setE o3 ⟨_, l3⟩ (by decide) (j := 0) (y := .int .i64 (-1))
    have hs := HP.out.2.2.2.2
    have hC := HCC.out
    have b5 := Below.grown HP.out.2.2.2.1 g (by omega) (fun k hk => by have := Option.some.inj hk; omega)
    refine ⟨by simpa using c4, by simpa using l4, (ownR_slU o4).2, ?_⟩
    rw [← hC]
    exact (((b5.setCell (p := ⟨C, 0, none⟩) (by show _ ≤ C; omega) _).setCell (p := ⟨C, 1, none⟩) (by show _ ≤ C; omega) _).setCell (p := ⟨C, 2, none⟩) (by show _ ≤ C; omega) _).setCell (p := ⟨C + 1, 0, none⟩) (by show _ ≤ C + 1; omega) _
  have k0 := H6.out.1.cell 0 rfl
  have k1 := H6.out.1.cell 1 rfl
  have k2 := H6.out.1.cell 2 rfl
  have l0 := H6.out.2.1.cell 0 rfl
  clear KC KL ow g
  go_wp2
  rw [← hW6]
  refine leaves_cons (f := 27) (args := #[.pointer (some ⟨C + 1 + 1, 0, none⟩), .pointer (some ⟨C, 0, none⟩), .pointer (some ⟨C + 1, 0, none⟩)]) (by simp) (by simp [go_sem]) ?_
  refine (catch_idle ⟨C + 1 + 1, 0, none⟩ ⟨C, 0, none⟩ ⟨C + 1, 0, none⟩ _).mono ?_
  rintro e u' w'' ⟨rfl, rfl, rfl⟩
  clear hW6
  simp [Leaves, settle, results, Tryd.results11, go_sem, k0, k1, k2, l0]
  exact H6.out.2.2
def cfS (wt tr : Int) (f : Nat → Ru) : Nat → List UInt8
  | 0 => lnT [119, 97, 105, 116] [wt] ++ ([116, 114, 105, 101, 115] ++ nbT [tr])
  | d + 1 => lnT [119, 97, 105, 116] [wt] ++ (lnT [116, 114, 105, 101, 115] [tr] ++ rsS f d 0)
theorem cfS_cfT (wt tr : Int) (f : Nat → Ru) : ∀ n, cfT wt tr f n = cfS wt tr f n ++ [10]
  | 0 => by rw [cfT_rs]; simp [rsT, cfS, lnT]
  | d + 1 => by rw [cfT_rs, rsS_rsT]; simp [cfS]
theorem config_cut (wt tr : Int) (f : Nat → Ru) (n : Nat) (hn : n ≤ 24) (h1 : 0 ≤ wt ∧ wt ≤ 999999) (h2 : 0 ≤ tr ∧ tr ≤ 999999) (hrd : ∀ k, k < n → RdR (f k)) (rB : Nat) (w : World) (hR : Blk w rB 51 #[.string (tx (cfS wt tr f n)), .int .i64 ((0 : Nat) : Int)]) (hsz : (cfS wt tr f n).length ≤ 1000000000) (hE : En w) (hgl : 0 < rB ∧ 1 < rB) :
    Calls Tryd.prog 28 #[.pointer (some ⟨rB, 0, none⟩)] w fun e w' => (∃ pv, e = .panicked [{ v := .iface 9 pv, recovered := false }]) ∧ (∃ rt, Blk w' rB 51 #[.string (tx rt), .int .i64 ((n + 1 : Nat) : Int)]) ∧ w.grownBy w' (some rB) := by
  cases n with
  | zero => exact config_short0 wt tr h1 rB w hR hsz hE hgl
  | succ d => exact config_short wt tr f d (by omega) h1 h2 (fun k hk => hrd k (by omega)) rB w hR hsz hE hgl
set_option maxRecDepth 20000 in
set_option maxHeartbeats 2000000 in
theorem parse_short (wt tr : Int) (f : Nat → Ru) (n : Nat) (hn : n ≤ 24) (h1 : 0 ≤ wt ∧ wt ≤ 999999) (h2 : 0 ≤ tr ∧ tr ≤ 999999) (hrd : ∀ k, k < n → RdR (f k)) (w : World) (hsz : (cfS wt tr f n).length ≤ 1000000000) (hE : En w) :
    Calls Tryd.prog 11 #[.string (tx (cfS wt tr f n))] w fun e w' => e = .returned (.tuple #[.agg (cfc 0 0 none 0 0), .int .i64 ((n + 1 : Nat) : Int)]) ∧ Below w.heap.size w w' := by
  have hmf : ∀ (fn : Fn) (first cap : Array Value) (w : World), (Instr.makeFunc fn first cap).run Tryd.prog w = .ok (.func fn first cap) w := fun _ _ _ _ => rfl
  obtain ⟨m, hm⟩ : ∃ m : Int, m = ((n + 1 : Nat) : Int) := ⟨_, rfl⟩
  rw [← hm]
  have HM := hide hm
  clear hm
  obtain ⟨st, hst⟩ : ∃ st, st = cfS wt tr f n := ⟨_, rfl⟩
  rw [← hst]
  obtain ⟨W, hW⟩ : ∃ W, W = ((w.alloc (.cells (cfc 0 0 none 0 0) 26)).alloc (.cells #[.int .i64 0] 3)).alloc (.cells #[.string (tx st), .int .i64 0] 51) := ⟨_, rfl⟩
  have HP := hide (parse_pre st w W hW)
  have hgl : 0 < w.heap.size + 1 + 1 ∧ 1 < w.heap.size + 1 + 1 := by
    obtain ⟨p, m, c⟩ := hE
    have q1 := p.lt
    have q2 := World.block_lt_of_cell? _ _ c
    simp only at q2
    omega
  have HCF : Hid (Calls Tryd.prog 28 #[.pointer (some ⟨w.heap.size + 1 + 1, 0, none⟩)] W fun e w' => (∃ pv, e = .panicked [{ v := .iface 9 pv, recovered := false }]) ∧ (∃ rt, Blk w' (w.heap.size + 1 + 1) 51 #[.string (tx rt), .int .i64 ((n + 1 : Nat) : Int)]) ∧ W.grownBy w' (some (w.heap.size + 1 + 1))) :=
    config_cut wt tr f n hn h1 h2 hrd _ W (by rw [← hst]; exact HP.out.2.2.1) hsz (hE.below HP.out.2.2.2.1) hgl
  obtain ⟨C, hC⟩ : ∃ C, C = w.heap.size := ⟨_, rfl⟩
  rw [← hC] at HP HCF
  have HST := hide hst
  have HCC := hide hC
  clear hst hE hgl
  go_enter_defers Tryd.func11, Tryd.ntmps11
  go_wp2_with fail
  rw [← HCC.out, ← hW]
  clear hW hC
  refine HCF.out.mono ?_
  rintro e w5 ⟨⟨pv, rfl⟩, ⟨rt, rd⟩, g⟩
  have KC := HP.out.1.grown g (fun e => by have := Option.some.inj e; omega)
  have KL := HP.out.2.1.grown g (fun e => by have := Option.some.inj e; omega)
  have n1 : ¬ C = C + 1 := by omega
  have n2 : ¬ C + 1 = C := by omega
  rw [← HM.out] at rd
  obtain ⟨W6, hW6⟩ : ∃ W6, W6 = (((w5.setCell ⟨C, 0, none⟩ (.int .i64 0)).setCell ⟨C, 1, none⟩ (.int .i64 0)).setCell ⟨C, 2, none⟩ (.slice none 0 0)).setCell ⟨C + 1, 0, none⟩ (.int .i64 m) := ⟨_, rfl⟩
  have H6 : Hid (Blk W6 C 26 (cfc 0 0 none 0 0) ∧ Blk W6 (C + 1) 3 #[.int .i64 m] ∧ Below w.heap.size w W6) := by
    rw [hW6]
    have l3 := ((KL.setNe (j := 0) (y := .int .i64 0) n2).setNe (j := 1) (y := .int .i64 0) n2).setNe (j := 2) (y := .slice none 0 0) n2
    have c3 := ((KC.set 0 (.int .i64 0)).set 1 (.int .i64 0)).set 2 (.slice none 0 0)
    have c4 := c3.setNe (j := 0) (y := .int .i64 m) n1
    have l4 := l3.set 0 (.int .i64 m)
    have hs := HP.out.2.2.2.2
    have hC := HCC.out
    have b5 := Below.grown HP.out.2.2.2.1 g (by omega) (fun k hk => by have := Option.some.inj hk; omega)
    refine ⟨by simpa using c4, by simpa using l4, ?_⟩
    rw [← hC]
    exact (((b5.setCell (p := ⟨C, 0, none⟩) (by show _ ≤ C; omega) _).setCell (p := ⟨C, 1, none⟩) (by show _ ≤ C; omega) _).setCell (p := ⟨C, 2, none⟩) (by show _ ≤ C; omega) _).setCell (p := ⟨C + 1, 0, none⟩) (by show _ ≤ C + 1; omega) _
  have k0 := H6.out.1.cell 0 rfl
  have k1 := H6.out.1.cell 1 rfl
  have k2 := H6.out.1.cell 2 rfl
  have l0 := H6.out.2.1.cell 0 rfl
  refine leaves_cons (f := 27) (args := #[.pointer (some ⟨C + 1 + 1, 0, none⟩), .pointer (some ⟨C, 0, none⟩), .pointer (some ⟨C + 1, 0, none⟩)]) (by simp) (by simp [go_sem]) ?_
  refine (catch_panicking (C + 1 + 1) C (C + 1) m _ _ _ _ 9 pv [] _ (rd.cell 1 rfl) (KC.cell 0 rfl) (KC.cell 1 rfl) (KC.cell 2 rfl) (KC.fro 0) (KC.fro 1) (KC.fro 2) (KL.cell 0 rfl) (KL.fro 0) n1 n2).mono ?_
  rintro e u' w'' ⟨rfl, rfl, rfl⟩
  rw [← hW6]
  clear hW6 KC KL rd g
  simp [Leaves, settle, results, Tryd.results11, go_sem, k0, k1, k2, l0]
  exact H6.out.2.2
end Go.Proofs.YtklnfeblkffgiaaDoor
namespace Go.Proofs.YtklnfeblkffgiaaDoor
open Go.RowKit
set_option linter.unusedVariables false
set_option linter.unusedSimpArgs false
theorem configs_big (a : Option Addr) (cap : Nat) (zs : List Int) (w : World) (hbig : (1048576 : Int) < (zs.length : Int)) :
    Calls Tryd.prog 3 #[.slice a zs.length cap] w fun e w' => e = .returned (.bool true) ∧ Below w.heap.size w w' := by
  go_enter Tryd.func3, Tryd.ntmps3
  go_wp2
  go_ret
  exact ⟨rfl, Below.refl _ _⟩
theorem okRs_rd {f : Nat → Ru} {n : Nat} (h : OkRs f n) : ∀ k, k < n → RdR (f k) := by
  intro k hk
  have h9 := h.2.1 k hk
  unfold OkRu at h9
  unfold RdR
  omega
theorem okC_nums {wt tr : Int} {b : Bool} (h : okC wt tr b = true) : (0 ≤ wt ∧ wt ≤ 999999) ∧ (0 ≤ tr ∧ tr ≤ 999999) ∧ okC wt tr true = true := by
  unfold okC inB at h ⊢
  simp only [Bool.and_eq_true, decide_eq_true_eq] at h ⊢
  exact ⟨by omega, by omega, h.1, trivial⟩
set_option maxRecDepth 20000 in
set_option maxHeartbeats 8000000 in
theorem configs_law (a : Option Addr) (cap : Nat) (zs : List Int) (w : World) (hs : Sl w a zs) (hr : ∀ z ∈ zs, 0 ≤ z ∧ z ≤ 255) (hl : zs.length ≤ 1048576) (hE : En w) :
    Calls Tryd.prog 3 #[.slice a zs.length cap] w fun e w' => e = .returned (.bool true) ∧ Below w.heap.size w w' := by
  have hl' : ¬ (1048576 : Int) < (zs.length : Int) := by omega
  go_enter Tryd.func3, Tryd.ntmps3
  go_wp2_with (first | (go_at_call 6; go_in) | fail)
  refine (drawConfigText_any w a _ cap zs rfl hs hr hl).mono ?_
  rintro e w1 ⟨wt, tr, va, vn, vc, l, rfl, hwt, htr, hvn, h25, SU0, h640, B1⟩
  obtain ⟨f, hf⟩ : ∃ f : Nat → Ru, f = fun i => l.getD i default := ⟨_, rfl⟩
  have SU : SlU w1 va vn f := by rw [hf]; exact SU0
  have h64 : ∀ k, k < vn → -9223372036854775808 ≤ (f k).sh ∧ (f k).sh ≤ 9223372036854775807 := by
    intro k hk
    rw [hf]
    have hk2 : k < l.length := by omega
    have h9 := h640 (l.getD k default) (by rw [List.getD_eq_getElem?_getD, List.getElem?_eq_getElem hk2]; simp)
    exact h9
  obtain ⟨b, hb⟩ : ∃ b : Bool, b = true ↔ OkRs f vn := by
    by_cases h : OkRs f vn
    · exact ⟨true, fun _ => h, fun _ => rfl⟩
    · exact ⟨false, ⟨fun e => Bool.noConfusion e, fun e => absurd e h⟩⟩
  obtain ⟨X, hX⟩ : ∃ X, X = w1.heap.size := ⟨_, rfl⟩
  obtain ⟨W2, hW2⟩ : ∃ W2, W2 = w1.alloc (.cells (cfc wt tr va vn vc) 26) := ⟨_, rfl⟩
  have HF : Hid ((b = true ↔ OkRs f vn) ∧ (∀ k, k < vn → -9223372036854775808 ≤ (f k).sh ∧ (f k).sh ≤ 9223372036854775807) ∧ vn ≤ 25) := ⟨hb, h64, h25⟩
  have H2 : Hid (Below w.heap.size w W2 ∧ SlU W2 va vn f ∧ Blk W2 X 26 (cfc wt tr va vn vc) ∧ En W2) := by
    rw [hW2]
    have b2 := bel_next B1 (bel_alloc w1 (.cells (cfc wt tr va vn vc) 26))
    exact ⟨b2, SlS.below SU (bel_alloc _ _), by rw [hX]; exact Blk.new w1 _ _, hE.below b2⟩
  clear hs hr hl SU0 h640 B1 SU h64 hb hvn hf hE hwt htr h25
  go_upto_region 4 with fail
  rw [← hW2, ← hX]
  clear hW2 hX
  obtain ⟨⟨x0, x1, x2⟩, _⟩ := H2.out.2.2.1.thr
  obtain ⟨st, hst⟩ : ∃ st, st = cfA wt tr b f vn := ⟨_, rfl⟩
  obtain ⟨ok, hok⟩ : ∃ ok, ok = okC wt tr b := ⟨_, rfl⟩
  have HS : Hid (st = cfA wt tr b f vn ∧ ok = okC wt tr b) := ⟨hst, hok⟩
  go_wp2_with fail
  refine (implText_any wt tr va vn vc f _ H2.out.2.1 (by have := HF.out.2.2; omega) HF.out.2.1 b HF.out.1 H2.out.2.2.2.1).mono ?_
  rintro e w3 ⟨rfl, b3⟩
  rw [← hst]
  have H3 : Hid (Below w.heap.size w w3 ∧ SlU w3 va vn f ∧ Blk w3 X 26 (cfc wt tr va vn vc) ∧ En w3) := ⟨bel_next H2.out.1 b3, SlS.below H2.out.2.1 b3, H2.out.2.2.1.below b3, H2.out.2.2.2.below b3⟩
  clear b3 H2 x0 x1 x2 hst
  obtain ⟨⟨x0, x1, x2⟩, _⟩ := H3.out.2.2.1.thr
  go_wp2_with fail
  refine (specConfigOk_any wt tr va vn vc f _ H3.out.2.1 (by have := HF.out.2.2; omega) b HF.out.1).mono ?_
  rintro e w4 ⟨rfl, b4⟩
  rw [← hok]
  have H4 : Hid (Below w.heap.size w w4 ∧ SlU w4 va vn f ∧ Blk w4 X 26 (cfc wt tr va vn vc) ∧ En w4) := ⟨bel_next H3.out.1 b4, SlS.below H3.out.2.1 b4, H3.out.2.2.1.below b4, H3.out.2.2.2.below b4⟩
  clear b4 H3 x0 x1 x2 hok
  obtain ⟨⟨x0, x1, x2⟩, _⟩ := H4.out.2.2.1.thr
  cases ok with
  | false =>
    have hem : (tx st).toList.isEmpty = true := by
      have h9 := HS.out.1
      unfold cfA at h9
      rw [← HS.out.2] at h9
      rw [h9]
      exact tx_nil
    go_wp2_with fail
    refine (implConfigOk_any wt tr va vn vc f _ H4.out.2.1 (by have := HF.out.2.2; omega) HF.out.2.1 b HF.out.1).mono ?_
    rintro e w5 ⟨rfl, b5⟩
    rw [← HS.out.2]
    have b6 := bel_next H4.out.1 b5
    clear b5 H4 x0 x1 x2
    go_wp2
    go_ret
    exact ⟨rfl, b6⟩
  | true =>
    have hbt : b = true := (okC_parts HS.out.2.symm).2.2
    have hrs := HF.out.1.1 hbt
    have hsm := okRs_small hrs
    have hno := okC_nums HS.out.2.symm
    have hpa := okC_parts HS.out.2.symm
    have hst : st = cfT wt tr f vn := by
      have h9 := HS.out.1
      unfold cfA at h9
      rw [← HS.out.2] at h9
      exact h9
    have hle := cfT_len hpa.1 hpa.2.1 hsm.2 hsm.1 vn (Nat.le_refl _)
    have hle2 : (cfT wt tr f vn).length ≤ 1000000000 := by have := hsm.1; omega
    have HPG : Hid (∀ u, En u → Calls Tryd.prog 11 #[.string (tx st)] u fun e w' => ∃ va vc, e = .returned (.tuple #[.agg (cfc wt tr va vn vc), .int .i64 (-1)]) ∧ SlU w' va vn f ∧ Below u.heap.size u w') := by
      intro u hu
      rw [hst]
      exact parse_good wt tr f vn hsm.1 hno.2.2 hrs hno.1 hno.2.1 (okRs_rd hrs) u hle2 hu
    have HPS : Hid (∀ u, En u → Calls Tryd.prog 11 #[.string (tx (cfS wt tr f vn))] u fun e w' => e = .returned (.tuple #[.agg (cfc 0 0 none 0 0), .int .i64 ((vn + 1 : Nat) : Int)]) ∧ Below u.heap.size u w') := by
      intro u hu
      exact parse_short wt tr f vn hsm.1 hno.1 hno.2.1 (okRs_rd hrs) u (by have h9 := congrArg List.length (cfS_cfT wt tr f vn); rw [List.length_append] at h9; omega) hu
    obtain ⟨ss, hss⟩ : ∃ ss, ss = cfS wt tr f vn := ⟨_, rfl⟩
    rw [← hss] at HPS
    have HSS : Hid (st = ss ++ [10] ∧ st.length ≤ 1000000000) := ⟨by rw [hst, hss]; exact cfS_cfT wt tr f vn, by rw [hst]; exact hle2⟩
    clear hbt hrs hsm hno hpa hst hle hle2 hss
    go_wp2_with fail
    refine (HPG.out _ H4.out.2.2.2).mono ?_
    rintro e w5 ⟨va2, vc2, rfl, s5, b5⟩
    obtain ⟨Y, hY⟩ : ∃ Y, Y = w5.heap.size := ⟨_, rfl⟩
    obtain ⟨W6, hW6⟩ : ∃ W6, W6 = w5.alloc (.cells (cfc wt tr va2 vn vc2) 26) := ⟨_, rfl⟩
    have H6 : Hid (Below w.heap.size w W6 ∧ SlU W6 va vn f ∧ Blk W6 X 26 (cfc wt tr va vn vc) ∧ En W6 ∧ SlU W6 va2 vn f ∧ Blk W6 Y 26 (cfc wt tr va2 vn vc2)) := by
      rw [hW6]
      have b6 := bel_next b5 (bel_alloc w5 (.cells (cfc wt tr va2 vn vc2) 26))
      exact ⟨bel_next H4.out.1 b6, SlS.below H4.out.2.1 b6, H4.out.2.2.1.below b6, H4.out.2.2.2.below b6, SlS.below s5 (bel_alloc _ _), by rw [hY]; exact Blk.new w5 _ _⟩
    clear s5 b5 H4 x0 x1 x2
    go_upto_region 8 with fail
    rw [← hW6, ← hY]
    clear hW6 hY
    obtain ⟨⟨x0, x1, x2⟩, _⟩ := H6.out.2.2.1.thr
    obtain ⟨⟨y0, y1, y2⟩, _⟩ := H6.out.2.2.2.2.2.thr
    obtain ⟨N, hN⟩ : ∃ N : Nat, N = ss.length := ⟨_, rfl⟩
    have hsz : (tx st).size = N + 1 := by
      rw [HSS.out.1, hN]
      simp [tx, ByteArray.size]
    have hN9 : N ≤ 999999999 := by have h9 := HSS.out.2; rw [HSS.out.1, List.length_append] at h9; simp at h9; omega
    have hwr : IntKind.i64.wrap (((N + 1 : Nat) : Int) - 1) = (N : Int) := by rw [IntKind.wrap_i64]; omega
    have hex : (tx st).extract 0 N = tx ss := by
      rw [HSS.out.1, hN]
      apply ByteArray.ext
      simp [tx, ByteArray.extract, ByteArray.copySlice]
    have HNN := hide hN
    clear hN
    go_wp2_with fail
    refine (HPS.out _ H6.out.2.2.2.1).mono ?_
    rintro e w7 ⟨rfl, b7⟩
    obtain ⟨W8, hW8⟩ : ∃ W8, W8 = w7.alloc (.cells (cfc 0 0 none 0 0) 26) := ⟨_, rfl⟩
    have H8 : Hid (Below w.heap.size w W8 ∧ SlU W8 va vn f ∧ Blk W8 X 26 (cfc wt tr va vn vc) ∧ En W8 ∧ SlU W8 va2 vn f ∧ Blk W8 Y 26 (cfc wt tr va2 vn vc2)) := by
      rw [hW8]
      have b8 := bel_next b7 (bel_alloc w7 (.cells (cfc 0 0 none 0 0) 26))
      have h := H6.out
      exact ⟨bel_next h.1 b8, SlS.below h.2.1 b8, h.2.2.1.below b8, h.2.2.2.1.below b8, SlS.below h.2.2.2.2.1 b8, h.2.2.2.2.2.below b8⟩
    clear b7 H6 x0 x1 x2 y0 y1 y2 hsz hN9 hwr hex HNN HPG HPS HSS
    go_upto_region 9 with fail
    rw [← hW8]
    clear hW8
    obtain ⟨⟨x0, x1, x2⟩, _⟩ := H8.out.2.2.1.thr
    obtain ⟨⟨y0, y1, y2⟩, _⟩ := H8.out.2.2.2.2.2.thr
    go_wp2_with fail
    refine (implText_any wt tr va2 vn vc2 f _ H8.out.2.2.2.2.1 (by have := HF.out.2.2; omega) HF.out.2.1 b HF.out.1 H8.out.2.2.2.1.1).mono ?_
    rintro e w9 ⟨rfl, b9⟩
    rw [← HS.out.1]
    have H9 : Hid (Below w.heap.size w w9 ∧ SlU w9 va vn f ∧ Blk w9 X 26 (cfc wt tr va vn vc) ∧ SlU w9 va2 vn f ∧ Blk w9 Y 26 (cfc wt tr va2 vn vc2)) := by
      have h := H8.out
      exact ⟨bel_next h.1 b9, SlS.below h.2.1 b9, h.2.2.1.below b9, SlS.below h.2.2.2.2.1 b9, h.2.2.2.2.2.below b9⟩
    clear b9 H8 x0 x1 x2 y0 y1 y2
    obtain ⟨⟨x0, x1, x2⟩, _⟩ := H9.out.2.2.1.thr
    obtain ⟨⟨y0, y1, y2⟩, _⟩ := H9.out.2.2.2.2.thr
    have e1 : ((tx st).toList == (tx st).toList) = true := by simp
    have hvn : vn ≤ 25 := HF.out.2.2
    have hw1 : IntKind.i64.wrap ((vn : Int) + 1) = (vn : Int) + 1 := by rw [IntKind.wrap_i64]; omega
    go_wp2
    clear x0 x1 x2 y0 y1 y2 e1 hw1
    go_loopw [9] (fun i wr => ∃ k : Nat, k ≤ vn ∧ i = .int .i64 k ∧ Below w9.heap.size w9 wr) (fun i _ => vn - (intOf i).toNat)
    case atStart => exact ⟨0, Nat.zero_le _, rfl, Below.refl _ _⟩
    case round =>
      obtain ⟨k, hk, rfl, hb⟩ := hrel
      have HB := hide hb
      obtain ⟨⟨x0, x1, x2⟩, _⟩ := (H9.out.2.2.1.below hb).thr
      obtain ⟨⟨y0, y1, y2⟩, _⟩ := (H9.out.2.2.2.2.below hb).thr
      by_cases hlt : k < vn
      · obtain ⟨b1, off1, hva, hb0, c0, c1, c2, c3, c4, c5, c6⟩ := SlU.seven (SlS.below H9.out.2.1 hb) hlt
        obtain ⟨b2, off2, hva2, hb0', d0, d1, d2, d3, d4, d5, d6⟩ := SlU.seven (SlS.below H9.out.2.2.2.1 hb) hlt
        rw [hva] at x2
        rw [hva2] at y2
        have hi : (k : Int) < (vn : Int) := by omega
        obtain ⟨r, hr⟩ : ∃ r, r = f k := ⟨_, rfl⟩
        rw [← hr] at c0 c1 c2 c3 c4 c5 c6 d0 d1 d2 d3 d4 d5 d6
        clear hr hva hva2 hb hb0 hb0'
        go_wp2
        go_quiet (fail)
        clear c0 c1 c2 c3 c4 c5 c6 d0 d1 d2 d3 d4 d5 d6 x0 x1 x2 y0 y1 y2
        go_wp2
        go_roundw
        case rel => exact ⟨k + 1, by omega, by go_num, by first | exact HB.out | exact bel_drewN HB.out _⟩
        case measure => simp [intOf]; omega
      · have hi : ¬ (k : Int) < (vn : Int) := by omega
        clear hb
        go_wp2
        go_ret
        exact ⟨rfl, bel_next H9.out.1 HB.out⟩
end Go.Proofs.YtklnfeblkffgiaaDoor

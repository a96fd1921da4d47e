/- Texts that the proof needs, joined: FbN2 Mk3. -/
import Derived.Test.YtkfgijkkffbpmaaGreatV10
import Derived.Maps.AppendAt
import Derived.Deep.Upon
import Derived.ArgAppend
import Derived.Lib.AppendZeros
import Derived.Test.YtkfgijkkffbpmaaGreatV2
set_option linter.unusedVariables false
set_option linter.unusedSimpArgs false
set_option maxHeartbeats 8000000
set_option maxRecDepth 20000
namespace Go.Proofs.YtkfgijkkffbpmaaGreat
open Go.RowKit Go.Joins
theorem updS_eqX {σ : Nat -> Value} {d : Nat} {v : Value} : updS σ (some d) v d = v := by show (if d = d then v else σ d) = v; rw [if_pos rfl]
theorem updS_neX {σ : Nat -> Value} {d s : Nat} {v : Value} (h : d ≠ s) : updS σ (some d) v s = σ s := by show (if s = d then v else σ s) = _; rw [if_neg (Ne.symm h)]
theorem run_app_x {P : Program} {ρ : Operand -> Value} {o : Oper} {w w' : World} {s x : Operand} {t : TypeId} {v1 v2 v : Value} (ho : o.op = .call { callee := .builtin .append, args := #[s, x], argTypes := #[t, t] }) (hs : ρ s = v1) (hx : ρ x = v2) (hr : (Builtin.append_ #[t, t] o.type #[v1, v2]).run P w = .ok v w') : (execOp ρ o).run P w = .ok (.value v) w' := by
 unfold execOp
 simp only [ho, resolve, invoke, builtin, Sem.run_bind, Sem.run_pure, Result.andThen_ok, List.map_toArray, List.map_cons, List.map_nil, hs, hx, hr]
theorem row_belX {w w' : World} {base s n : Nat} {e : TypeId} {v : Value} {xs : List Value} (h : w.ownsRow base e s v n xs) (hb : Below w.heap.size w w') : w'.ownsRow base e s v n xs := by
 refine World.ownsRow.kept h (grown_below hb (some w.heap.size)) ?_
 cases e : v.ownBlock with
 | none => exact .inl rfl
 | some k => exact .inr (fun e2 => by have := (World.ownsRow.lt h k e).2; simp at e2; omega)
theorem Blk.grow {w w' : World} {base s n b : Nat} {e t : TypeId} {v : Value} {xs : List Value} {cs : Array Value} (hk : Blk w b t cs) (h : w.ownsRow base e s v n xs) (hg : w.grownBy w' v.ownBlock) (ht : t ≠ e) : Blk w' b t cs := by
 have hlt := hk.lt
 unfold Blk at hk ⊢
 rw [hg.block b hlt (fun q => ?_)]
 ·exact hk
 obtain ⟨c9, h9⟩ := row_ex h q.symm
 unfold Blk at h9
 rw [hk] at h9
 simp at h9
 exact ht h9.2
theorem row_grow {w w' : World} {base base' s n s' n' : Nat} {e e' : TypeId} {v v' : Value} {xs xs' : List Value} (hk : w.ownsRow base' e' s' v' n' xs') (h : w.ownsRow base e s v n xs) (hg : w.grownBy w' v.ownBlock) (ht : e' ≠ e) : w'.ownsRow base' e' s' v' n' xs' := by
 refine World.ownsRow.kept hk hg ?_
 cases q : v'.ownBlock with
 | none => exact .inl rfl
 | some k =>
  refine .inr (fun q2 => ?_)
  obtain ⟨c9, h9⟩ := row_ex hk q
  obtain ⟨c8, h8⟩ := row_ex h q2.symm
  unfold Blk at h8 h9
  rw [h8] at h9
  simp at h9
  exact ht h9.2.symm
theorem row_shape {w : World} {base s n : Nat} {e : TypeId} {v : Value} {xs : List Value} (h : w.ownsRow base e s v n xs) : ∃ a c, v = .slice a n c := by
 rcases h.2 with ⟨rfl, rfl⟩ | ⟨g, cap, cur, rfl, _⟩
 ·exact ⟨none, 0, rfl⟩
 exact ⟨_, cap, rfl⟩
def lnsX (wt tr : Int) : Nat -> List Value
 | 0 => []
 | k + 1 => lnsX wt tr k ++ lnL wt tr
theorem lnsX_len (wt tr : Int) : ∀ k, (lnsX wt tr k).length = k * 17
 | 0 => rfl
 | k + 1 => by rw [lnsX, List.length_append, lnsX_len wt tr k]; simp [Nat.add_mul]
theorem lnsX_at (wt tr : Int) : ∀ n k j, k < n -> j < 17 -> (lnsX wt tr n)[k * 17 + j]? = (lnL wt tr)[j]?
 | 0, k, j, hk, _ => by omega
 | n + 1, k, j, hk, hj => by
  rw [lnsX]
  have hl := lnsX_len wt tr n
  by_cases e : k = n
  ·subst e
   rw [List.getElem?_append_right (by omega), hl, Nat.add_sub_cancel_left]
  rw [List.getElem?_append_left (by omega)]
  exact lnsX_at wt tr n k j (by omega) hj
theorem run_bs0U (w : World) : (Instr.buildSlice 33 0 #[]).run Tryz.prog w = .ok (.slice (some ⟨w.heap.size, 0, none⟩) 0 0) (w.alloc (.cells #[] 110)) := by kernel_rfl
theorem row_bs0 (w : World) (B : Nat) (hB : B <= w.heap.size) : (w.alloc (.cells #[] 110)).ownsRow B 110 7 (.slice (some ⟨w.heap.size, 0, none⟩) 0 0) 0 [] :=
 ⟨rfl, .inr ⟨w.heap.size, 0, #[], rfl, hB, Blk.new w #[] _, Nat.le_refl _, Nat.zero_le _, rfl, rfl⟩⟩
theorem run_appU (ty : TypeId) (B ad : Nat) (a : Option Addr) (n c : Nat) (f : Nat -> Ru) (w : World) (h : w.ownsRow B 110 7 (.slice (some ⟨ad, 0, none⟩) 0 0) 0 []) (hs : SlU w a n f) (hn : n <= 2000000) (hB : B <= w.heap.size) :
 ∃ v' w', (Builtin.append_ #[33, 33] ty #[.slice (some ⟨ad, 0, none⟩) 0 0, .slice a n c]).run Tryz.prog w = .ok v' w' /\ w'.ownsRow B 110 7 v' n (flatS 7 n (fun k => rul (f k))) /\ Below w.heap.size w w' := by
 obtain ⟨i0, hi0, hzz⟩ := Option.map_eq_some_iff.1 Tryz.info110
 simp only [Prod.mk.injEq] at hzz
 obtain ⟨hz0, hz1, hz2⟩ := hzz
 by_cases n0 : n = 0
 ·subst n0
  have hr : (Builtin.append_ #[33, 33] ty #[.slice (some ⟨ad, 0, none⟩) 0 0, .slice a 0 c]).run Tryz.prog w = .ok (.slice (some ⟨ad, 0, none⟩) 0 0) w := by
   cases a with
   | none => exact run_append_nothing w 33 33 ty 110 i0 Tryz.underlying33 hi0 _ 0 0 (Nat.le_refl _) _ (Src.ofNil w Tryz.underlying33 c)
   | some a => exact run_append_room_cells w 33 ty 110 i0 Tryz.underlying33 hi0 ad 0 0 0 a 0 c [] (by simp) (fun j u hu => by simp at hu) (fun u hu => by simp at hu) (Nat.le_refl _) (fun j hj => by simp at hj) (fun j hj => by simp at hj)
  exact ⟨_, _, hr, h, Below.refl _ _⟩
 cases a with
 | none =>
  rcases hs with h0 | ⟨b, off, e, _⟩
  ·exact absurd h0 n0
  cases e
 | some a =>
  obtain ⟨v', w', hrun, r1, r2⟩ := run_append_arg_grows (P := Tryz.prog) w 33 ty 110 i0 _ 7 56 Tryz.underlying33 hi0 hz0 hz1 hz2 rfl (by decide) ⟨ad, 0, none⟩ 0 0 [] rfl (fun j u hj => by simp at hj) a n c (flatS 7 n (fun k => rul (f k))) (flatS_length _ _ _) (fun j u hu => by
   rcases hs with h0 | ⟨b, off, e, _, hc⟩
   ·exact absurd h0 n0
   obtain rfl := Option.some.inj e
   exact flatS_src (s := 7) (F := fun k => rul (f k)) (by decide) (fun k _ => rfl) hc j u hu) (by omega) (by unfold maxLen; omega) (by omega)
  refine ⟨v', w', hrun, ⟨by rw [flatS_length], ?_⟩, grown_no r2⟩
  rcases r1.2 with ⟨q1, q2⟩ | ⟨g, cap', cur, q1, q2, q3⟩
  ·exact .inl ⟨q1, by omega⟩
  refine .inr ⟨g, cap', cur, by rw [q1, Nat.zero_add], by omega, ?_⟩
  rw [Nat.zero_add] at q3
  exact q3
def FbS (w w' : World) (e : Ending) (ok : Bool) (wt tr : Int) (n : Nat) (f : Nat -> Ru) : Prop :=
 Below w.heap.size w w' /\ ((ok = false /\ e = .returned (.agg fz)) \/ (ok = true /\ ∃ a1 c1 a3 c3, e = .returned (.agg (fbc wt tr a1 n c1 a3 6 c3)) /\ w'.ownsRow w.heap.size 110 7 (.slice a1 n c1) n (flatS 7 n (fun k => rul (f k))) /\ w'.ownsRow w.heap.size 98 17 (.slice a3 6 c3) 6 (lnsX wt tr 6)))
theorem wrF6 (wt tr : Int) (a : Option Addr) (n c : Nat) (h : Option Addr) (m d : Nat) (h' : Option Addr) (m' d' : Nat) : wrA (fbc wt tr a n c h m d) 6 [.slice h' m' d'] = fbc wt tr a n c h' m' d' := by simp [wrA]
theorem run_bs1L (wt tr : Int) (w : World) : (Instr.buildSlice 39 1 #[(0, .agg (lac (laN wt tr) none 0 0 none none 0 0 0 0))]).run Tryz.prog w = .ok (.slice (some ⟨w.heap.size, 0, none⟩) 1 1) (w.alloc (.cells (lac (laN wt tr) none 0 0 none none 0 0 0 0) 98)) := by kernel_rfl
theorem run_app1L (ty : TypeId) (B g k : Nat) (v : Value) (wt tr : Int) (w : World) (h : w.ownsRow B 98 17 v k (lnsX wt tr k)) (hg : Blk w g 98 (lac (laN wt tr) none 0 0 none none 0 0 0 0)) (hk : k <= 6) (hB : B <= w.heap.size) :
 ∃ v' w', (Builtin.append_ #[39, 39] ty #[v, .slice (some ⟨g, 0, none⟩) 1 1]).run Tryz.prog w = .ok v' w' /\ w'.ownsRow B 98 17 v' (k + 1) (lnsX wt tr (k + 1)) /\ w.grownBy w' v.ownBlock := by
 obtain ⟨i0, hi0, hzz⟩ := Option.map_eq_some_iff.1 Tryz.infoL98
 simp only [Prod.mk.injEq] at hzz
 obtain ⟨hz0, hz1, hz2⟩ := hzz
 obtain ⟨v', w', hrun, r1, r2, _, _⟩ := run_append_own_at (P := Tryz.prog) w B 39 ty 98 i0 _ 17 184 Tryz.underlying39 hi0 hz0 hz1 hz2 rfl (by decide) v k _ h ⟨g, 0, none⟩ 1 1 (lnL wt tr) rfl (fun j u hu => by
  have e1 : (⟨g, 0, none⟩ : Addr).add j = ⟨g, j, none⟩ := by unfold Addr.add; split <;> simp_all
  rw [e1]
  exact hg.cell j (by simpa using hu)) (fun v hv => by simp [lacL] at hv; rcases hv with rfl | rfl | rfl | rfl | rfl | rfl | rfl | rfl | rfl | rfl | rfl | rfl | rfl | rfl | rfl | rfl | rfl <;> rfl) (by unfold maxLen; omega) (by omega) hB
 exact ⟨v', w', hrun, r1, r2⟩
theorem specFabricNew_any (wt tr : Int) (a : Option Addr) (n cap : Nat) (f : Nat -> Ru) (w : World) (hs : SlU w a n f) (hl : n <= 2000000) (b : Bool) (hb : b = true ↔ OkRs f n) :
 Calls Tryz.prog 70 #[.agg (cfc wt tr a n cap)] w fun e w' => FbS w w' e (okC wt tr b) wt tr n f := by
 obtain ⟨ok, hok⟩ : ∃ ok, ok = okC wt tr b := ⟨_, rfl⟩
 obtain ⟨B, hB⟩ : ∃ B, B = w.heap.size := ⟨_, rfl⟩
 obtain ⟨W, hW⟩ : ∃ W, W = (w.alloc (.cells (cfc wt tr a n cap) 35)).alloc (.cells fz 41) := ⟨_, rfl⟩
 have bW : Below w.heap.size w W := by rw [hW]; exact bel_next (bel_alloc w _) (bel_alloc _ _)
 have A0 : Blk W B 35 (cfc wt tr a n cap) := by rw [hW, hB]; exact (Blk.new w _ _).below (bel_alloc _ _)
 have R0 : Blk W (B + 1) 41 fz := by
  rw [hW, hB]; have := Blk.new (w.alloc (.cells (cfc wt tr a n cap) 35)) fz 41; simpa using this
 have H0 : Hid (SlU w a n f /\ Below w.heap.size w W /\ Blk W B 35 (cfc wt tr a n cap) /\ Blk W (B + 1) 41 fz /\ w.heap.size = B /\ ok = okC wt tr b /\ (b = true ↔ OkRs f n)) := ⟨hs, bW, A0, R0, hB.symm, hok, hb⟩
 rw [<- hok]
 obtain ⟨⟨y0, y1, y2⟩, _⟩ := A0.thr
 clear hs bW A0 R0 hb hok
 go_enter Tryz.func70, Tryz.ntmps70
 go_upto_region 1 with fail
 have hB1 : w.heap.size + 1 = B + 1 := by omega
 rw [<- hW, hB1, <- hB]
 clear hW hB hB1
 go_wp2_with fail
 refine (specConfigOk_any wt tr a n cap f _ (SlS.below H0.out.1 H0.out.2.1) hl b H0.out.2.2.2.2.2.2).mono ?_
 rintro e w1 ⟨rfl, b1⟩
 rw [<- H0.out.2.2.2.2.2.1]
 have H1 : Hid (Below w.heap.size w w1 /\ Blk w1 B 35 (cfc wt tr a n cap) /\ Blk w1 (B + 1) 41 fz) := ⟨bel_next H0.out.2.1 b1, H0.out.2.2.1.below b1, H0.out.2.2.2.1.below b1⟩
 clear b1 y0 y1 y2
 cases ok
 case false =>
  go_upto_region 2 with fail
  refine wp_region_lit ?_
  refine wpList_build_any rfl 41 #[] rfl #[] (by simp) (.agg fz) (by kernel_rfl) ?_
  refine wpList_store_mid rfl 41 (.tmp 2) (.tmp 8) rfl (B + 1) 0 fz rfl rfl (H1.out.2.2.there 0 11 (by simp)) (by kernel_rfl) (by simp [Value.oneCell']) ?_
  rw [setCells_L]
  refine wpList_nil ?_
  go_wp2
  have HB : Blk (setL w1 (B + 1) 0 (fbL 0 0 none 0 0 none 0 0)) (B + 1) 41 fz := by rw [show fz = wrA fz 0 (fbL 0 0 none 0 0 none 0 0) from (wrF ..).symm]; exact Blk.stL _ _ H1.out.2.2
  refine bodyPost_ret (v := .agg fz) (results_cell Tryz.results70 rfl (run_loadVar_mid _ _ _ 41 (fbL 0 0 none 0 0 none 0 0) _ HB.all Tryz.underlying41 rfl (by kernel_rfl))) rfl ⟨setL_below (by have := H0.out.2.2.2.2.1; omega) _ _ _ H1.out.1, .inl ⟨rfl, rfl⟩⟩
 go_upto_region 3 with fail
 try go_simp
 refine wp_region_any (by kernel_rfl) ?_
 refine wpAny_st 11 (fun u => Below w.heap.size w u /\ Blk u B 35 (cfc wt tr a n cap) /\ Blk u (B + 1) 41 fz)
  (fun σ u => ∃ b9 a1 c1, σ 3 = .pointer (some ⟨b9, 0, none⟩) /\ B + 1 < b9 /\ Blk u b9 41 (fbc wt tr a1 n c1 none 0 0) /\ u.ownsRow B 110 7 (.slice a1 n c1) n (flatS 7 n (fun k => rul (f k))) /\ Below w.heap.size w u /\ Blk u B 35 (cfc wt tr a n cap) /\ Blk u (B + 1) 41 fz)
  (fun i v u => match i with
   | 0 => v = .pointer (some ⟨B, 0, none⟩)
   | 1 => v = .int .i64 wt
   | 2 => v = .pointer (some ⟨B, 1, none⟩)
   | 3 => v = .int .i64 tr
   | 4 => ∃ ad, v = .slice (some ⟨ad, 0, none⟩) 0 0 /\ u.ownsRow B 110 7 v 0 []
   | 5 => v = .pointer (some ⟨B, 2, none⟩)
   | 6 => v = .slice a n cap
   | 7 => u.ownsRow B 110 7 v n (flatS 7 n (fun k => rul (f k)))
   | 8 => ∃ a1 c1, v = .agg (cfc wt tr a1 n c1) /\ u.ownsRow B 110 7 (.slice a1 n c1) n (flatS 7 n (fun k => rul (f k)))
   | 9 => ∃ a1 c1, v = .agg (fbc wt tr a1 n c1 none 0 0) /\ u.ownsRow B 110 7 (.slice a1 n c1) n (flatS 7 n (fun k => rul (f k)))
   | 10 => ∃ b9, v = .pointer (some ⟨b9, 0, none⟩) /\ B + 1 < b9 /\ Blk u b9 41 fz
   | _ => True) (by kernel_rfl) (by kernel_rfl) rfl (by kernel_rfl) (fun u u' h hb => ⟨bel_nx h.1 hb, h.2.1.below hb, h.2.2.below hb⟩) ?_ (by first | exact H1.out | exact ⟨H1.out.1.drew, H1.out.2.1.below ((Below.refl _ _).drew), H1.out.2.2.below ((Below.refl _ _).drew)⟩) ?_ ?_ ?_ _ _ rfl (by decide) (fun i => by simp [Array.getD]; try (split <;> rfl))
 ·intro i v u u' h hb
  match i, h with
  | 0, h => exact h
  | 1, h => exact h
  | 2, h => exact h
  | 3, h => exact h
  | 4, ⟨ad, e, r⟩ => exact ⟨ad, e, row_belX r hb⟩
  | 5, h => exact h
  | 6, h => exact h
  | 7, h => exact row_belX h hb
  | 8, ⟨a1, c1, e, r⟩ => exact ⟨a1, c1, e, row_belX r hb⟩
  | 9, ⟨a1, c1, e, r⟩ => exact ⟨a1, c1, e, row_belX r hb⟩
  | 10, ⟨g, e, q, r⟩ => exact ⟨g, e, q, r.below hb⟩
  | _ + 11, _ => trivial
 rotate_left
 ·intro u i o ρ hi hR ho hρ hc hf hd
  have hBu : B <= u.heap.size := by have := hR.2.2.lt; omega
  have s1 : ρ (.tmp 1) = .pointer (some ⟨B, 0, none⟩) := (hρ 1 (by kernel_rfl)).trans rfl
  obtain ⟨⟨y0, y1, y2⟩, _⟩ := hR.2.1.thr
  obtain rfl | rfl | rfl | rfl | rfl | rfl | rfl | rfl | rfl | rfl | rfl : i = 0 \/ i = 1 \/ i = 2 \/ i = 3 \/ i = 4 \/ i = 5 \/ i = 6 \/ i = 7 \/ i = 8 \/ i = 9 \/ i = 10 := by omega
  all_goals (simp only [List.getElem?_toArray, List.getElem?_cons_zero, List.getElem?_cons_succ, Option.some.injEq] at ho; subst ho)
  ·exact .inl ⟨rfl, .inl ⟨_, u, run_field_op rfl s1 (by go_simp), rfl, Below.refl _ _⟩⟩
  ·have s0 : ρ (.tmp 9) = .pointer (some ⟨B, 0, none⟩) := hd ⟨0, .data⟩ (by simp) rfl 9 rfl
   exact .inl ⟨rfl, .inl ⟨_, u, run_load_op rfl s0 (by go_simp), rfl, Below.refl _ _⟩⟩
  ·exact .inl ⟨rfl, .inl ⟨_, u, run_field_op rfl s1 (by go_simp), rfl, Below.refl _ _⟩⟩
  ·have s0 : ρ (.tmp 11) = .pointer (some ⟨B, 1, none⟩) := hd ⟨2, .data⟩ (by simp) rfl 11 rfl
   exact .inl ⟨rfl, .inl ⟨_, u, run_load_op rfl s0 (by go_simp), rfl, Below.refl _ _⟩⟩
  ·exact .inl ⟨rfl, .inl ⟨_, _, run_build_op rfl (qs := #[]) (by simp) (run_bs0U u), ⟨_, rfl, row_bs0 u B hBu⟩, (Below.refl _ _).alloc (Nat.le_refl _) _⟩⟩
  ·exact .inl ⟨rfl, .inl ⟨_, u, run_field_op rfl s1 (by go_simp), rfl, Below.refl _ _⟩⟩
  ·have s0 : ρ (.tmp 14) = .pointer (some ⟨B, 2, none⟩) := hd ⟨5, .data⟩ (by simp) rfl 14 rfl
   exact .inl ⟨rfl, .inl ⟨_, u, run_load_op rfl s0 (by go_simp), rfl, Below.refl _ _⟩⟩
  ·obtain ⟨ad, h4, r4⟩ : ∃ ad, ρ (.tmp 13) = .slice (some ⟨ad, 0, none⟩) 0 0 /\ u.ownsRow B 110 7 (ρ (.tmp 13)) 0 [] := hd ⟨4, .data⟩ (by simp) rfl 13 rfl
   have h6 : ρ (.tmp 15) = .slice a n cap := hd ⟨6, .data⟩ (by simp) rfl 15 rfl
   rw [h4] at r4
   obtain ⟨v', w', hrun, r1, r2⟩ := run_appU 33 B ad a n cap f u r4 (SlS.below H0.out.1 hR.1) hl hBu
   exact .inl ⟨rfl, .inl ⟨v', w', run_app_x rfl h4 h6 hrun, r1, r2⟩⟩
  ·obtain r7 : u.ownsRow B 110 7 (ρ (.tmp 16)) n (flatS 7 n (fun k => rul (f k))) := hd ⟨7, .data⟩ (by simp) rfl 16 rfl
   have h1 : ρ (.tmp 10) = .int .i64 wt := hd ⟨1, .data⟩ (by simp) rfl 10 rfl
   have h2 : ρ (.tmp 12) = .int .i64 tr := hd ⟨3, .data⟩ (by simp) rfl 12 rfl
   obtain ⟨a1, c1, h7⟩ := row_shape r7
   rw [h7] at r7
   exact .inl ⟨rfl, .inl ⟨.agg (cfc wt tr a1 n c1), u, run_bldz rfl (qs := #[(0, .int .i64 wt), (1, .int .i64 tr), (2, .slice a1 n c1)]) (by simp [h1, h2, h7]) (by kernel_rfl), ⟨a1, c1, rfl, r7⟩, Below.refl _ _⟩⟩
  ·obtain ⟨a1, c1, h8, r8⟩ : ∃ a1 c1, ρ (.tmp 17) = .agg (cfc wt tr a1 n c1) /\ u.ownsRow B 110 7 (.slice a1 n c1) n (flatS 7 n (fun k => rul (f k))) := hd ⟨8, .data⟩ (by simp) rfl 17 rfl
   exact .inl ⟨rfl, .inl ⟨.agg (fbc wt tr a1 n c1 none 0 0), u, run_bldz rfl (qs := #[(1, .agg (cfc wt tr a1 n c1))]) (by simp [h8]) (by kernel_rfl), ⟨a1, c1, rfl, r8⟩, Below.refl _ _⟩⟩
  exact .inl ⟨rfl, .inl ⟨_, _, run_alloc_x 41 rfl fz 11 136 Tryz.infoF41, ⟨_, rfl, by have := hR.2.2.lt; omega, Blk.new _ _ _⟩, (Below.refl _ _).alloc (Nat.le_refl _) _⟩⟩
 ·intro u o ρ hR ho hρ hc hv
  simp only [List.getElem?_toArray, List.getElem?_cons_zero, List.getElem?_cons_succ, Option.some.injEq] at ho
  subst ho
  obtain ⟨a1, c1, h3, r1⟩ : ∃ a1 c1, ρ (.tmp 18) = .agg (fbc wt tr a1 n c1 none 0 0) /\ u.ownsRow B 110 7 (.slice a1 n c1) n (flatS 7 n (fun k => rul (f k))) := hv 9 18 (by decide) rfl
  obtain ⟨b9, h4, q3, k1⟩ : ∃ b9, ρ (.tmp 3) = .pointer (some ⟨b9, 0, none⟩) /\ B + 1 < b9 /\ Blk u b9 41 fz := hv 10 3 (by decide) rfl
  refine ⟨rfl, setL u b9 0 (fbL wt tr a1 n c1 none 0 0), run_store_op rfl h4 h3 ((run_storeAt_mid u b9 0 41 (fbc wt tr a1 n c1 none 0 0) (k1.there 0 11 (by simp)) (by kernel_rfl) (by simp [Value.oneCell'])).trans (by rw [setCells_L])), b9, a1, c1, h4, q3, ?_, row_stL r1 ⟨_, k1⟩ (by decide), setL_below (by have := H0.out.2.2.2.2.1; omega) _ _ _ hR.1, Blk.stNe (by omega) _ _ hR.2.1, Blk.stNe (by omega) _ _ hR.2.2⟩
  have := Blk.stL (fbL wt tr a1 n c1 none 0 0) 0 k1
  rw [wrF] at this
  exact this
 intro vs σ u hE hvs
 obtain ⟨b9, a1, c1, e3, q3, kF, rU, bl, kC, kR⟩ := hE
 have e4 : vs 10 = .pointer (some ⟨b9, 0, none⟩) := (hvs 10 3 rfl).trans e3
 simp only [putsL]
 rw [e4]
 have H2 : Hid (∃ a3 c3, Blk u b9 41 (fbc wt tr a1 n c1 a3 0 c3) /\ u.ownsRow B 98 17 (.slice a3 0 c3) 0 (lnsX wt tr 0) /\ u.ownsRow B 110 7 (.slice a1 n c1) n (flatS 7 n (fun k => rul (f k))) /\ Below w.heap.size w u /\ Blk u B 35 (cfc wt tr a n cap) /\ Blk u (B + 1) 41 fz) := ⟨none, 0, kF, ⟨rfl, .inl ⟨rfl, rfl⟩⟩, rU, bl, kC, kR⟩
 have Q3 : Hid (B + 1 < b9) := q3
 clear e4 e3 hvs q3 kF rU bl kC kR
 try go_simp
 go_wp2
 go_loopw [4] (fun i wr => ∃ k : Nat, k <= 6 /\ i = .int .i64 k /\ ∃ a3 c3, Blk wr b9 41 (fbc wt tr a1 n c1 a3 k c3) /\ wr.ownsRow B 98 17 (.slice a3 k c3) k (lnsX wt tr k) /\ wr.ownsRow B 110 7 (.slice a1 n c1) n (flatS 7 n (fun k => rul (f k))) /\ Below w.heap.size w wr /\ Blk wr B 35 (cfc wt tr a n cap) /\ Blk wr (B + 1) 41 fz) (fun i _ => 6 - (intOf i).toNat)
 case atStart => exact ⟨0, Nat.zero_le _, rfl, H2.out⟩
 case round =>
  obtain ⟨k, hk, rfl, a3, c3, HH⟩ := hrel
  have HK : Hid (_) := HH
  clear HH H2
  by_cases hlt : k < 6
  ·have hi : (k : Int) < 6 := by omega
   go_upto_region 7 with fail
   try go_simp
   refine wp_region_any (by kernel_rfl) ?_
   refine wpAny_tl 8 (fun u => Below wr.heap.size wr u)
    (fun j σ u => match j with
     | 8 => ∃ a4 c4 u0, σ 31 = .slice a4 (k + 1) c4 /\ u.ownsRow B 98 17 (.slice a4 (k + 1) c4) (k + 1) (lnsX wt tr (k + 1)) /\ Below wr.heap.size wr u0 /\ u0.grownBy u (Value.slice a3 k c3).ownBlock
     | 9 => (∃ a4 c4 u0, σ 31 = .slice a4 (k + 1) c4 /\ u.ownsRow B 98 17 (.slice a4 (k + 1) c4) (k + 1) (lnsX wt tr (k + 1)) /\ Below wr.heap.size wr u0 /\ u0.grownBy u (Value.slice a3 k c3).ownBlock) /\ σ 32 = .pointer (some ⟨b9, 6, none⟩)
     | _ => ∃ a4 c4 u0 u1, u1.ownsRow B 98 17 (.slice a4 (k + 1) c4) (k + 1) (lnsX wt tr (k + 1)) /\ Below wr.heap.size wr u0 /\ u0.grownBy u1 (Value.slice a3 k c3).ownBlock /\ u = setL u1 b9 6 [.slice a4 (k + 1) c4])
    (fun i v u => match i with
     | 0 => v = .pointer (some ⟨b9, 6, none⟩)
     | 1 => v = .slice a3 k c3
     | 2 => v = .pointer (some ⟨B, 0, none⟩)
     | 3 => v = .int .i64 wt
     | 4 => v = .pointer (some ⟨B, 1, none⟩)
     | 5 => v = .int .i64 tr
     | 6 => v = .agg (lac (laN wt tr) none 0 0 none none 0 0 0 0)
     | 7 => ∃ c, v = .slice (some ⟨c, 0, none⟩) 1 1 /\ Blk u c 98 (lac (laN wt tr) none 0 0 none none 0 0 0 0)
     | _ => True) (by kernel_rfl) (by kernel_rfl) (by decide) (by kernel_rfl) (fun u u' h hb => bel_nx h hb) ?_ (by first | exact Below.refl _ _ | exact (Below.refl _ _).drew) ?_ ?_ ?_ ?_ _ _ rfl (by decide) (fun i => by simp [Array.getD]; try (split <;> rfl))
   ·intro i v u u' h hb
    match i, h with
    | 0, h => exact h
    | 1, h => exact h
    | 2, h => exact h
    | 3, h => exact h
    | 4, h => exact h
    | 5, h => exact h
    | 6, h => exact h
    | 7, ⟨c, e, r⟩ => exact ⟨c, e, r.below hb⟩
    | _ + 8, _ => trivial
   rotate_left
   ·intro u i o ρ hi hR ho hρ hc hf hd
    have kF := HK.out.1.below hR
    have kC := HK.out.2.2.2.2.1.below hR
    have s1 : ρ (.tmp 1) = .pointer (some ⟨B, 0, none⟩) := (hρ 1 (by kernel_rfl)).trans rfl
    obtain ⟨⟨y0, y1, y2⟩, _⟩ := kC.thr
    obtain rfl | rfl | rfl | rfl | rfl | rfl | rfl | rfl : i = 0 \/ i = 1 \/ i = 2 \/ i = 3 \/ i = 4 \/ i = 5 \/ i = 6 \/ i = 7 := by omega
    all_goals (simp only [List.getElem?_toArray, List.getElem?_cons_zero, List.getElem?_cons_succ, Option.some.injEq] at ho; subst ho)
    ·have s0 : ρ (.tmp 3) = .pointer (some ⟨b9, 0, none⟩) := (hρ 3 (by kernel_rfl)).trans rfl
     exact .inl ⟨rfl, .inl ⟨_, u, run_field_op rfl s0 (by go_simp), rfl, Below.refl _ _⟩⟩
    ·have s0 : ρ (.tmp 23) = .pointer (some ⟨b9, 6, none⟩) := hd ⟨0, .data⟩ (by simp) rfl 23 rfl
     have c6 := kF.cell 6 rfl
     exact .inl ⟨rfl, .inl ⟨_, u, run_load_op rfl s0 (by go_simp), rfl, Below.refl _ _⟩⟩
    ·exact .inl ⟨rfl, .inl ⟨_, u, run_field_op rfl s1 (by go_simp), rfl, Below.refl _ _⟩⟩
    ·have s0 : ρ (.tmp 25) = .pointer (some ⟨B, 0, none⟩) := hd ⟨2, .data⟩ (by simp) rfl 25 rfl
     exact .inl ⟨rfl, .inl ⟨_, u, run_load_op rfl s0 (by go_simp), rfl, Below.refl _ _⟩⟩
    ·exact .inl ⟨rfl, .inl ⟨_, u, run_field_op rfl s1 (by go_simp), rfl, Below.refl _ _⟩⟩
    ·have s0 : ρ (.tmp 27) = .pointer (some ⟨B, 1, none⟩) := hd ⟨4, .data⟩ (by simp) rfl 27 rfl
     exact .inl ⟨rfl, .inl ⟨_, u, run_load_op rfl s0 (by go_simp), rfl, Below.refl _ _⟩⟩
    ·have h1 : ρ (.tmp 26) = .int .i64 wt := hd ⟨3, .data⟩ (by simp) rfl 26 rfl
     have h2 : ρ (.tmp 28) = .int .i64 tr := hd ⟨5, .data⟩ (by simp) rfl 28 rfl
     refine .inl ⟨rfl, .inr ⟨_, _, run_call_op rfl (hf _) (args := #[.int .i64 wt, .int .i64 tr]) (by simp [h1, h2]) (by kernel_rfl), ?_⟩⟩
     refine (specLineNew_any wt tr _).mono ?_
     rintro e u' ⟨he, b'⟩
     rw [okC_nw H0.out.2.2.2.2.2.1.symm] at he
     exact ⟨_, he, rfl, b'⟩
    have h6 : ρ (.tmp 29) = .agg (lac (laN wt tr) none 0 0 none none 0 0 0 0) := hd ⟨6, .data⟩ (by simp) rfl 29 rfl
    exact .inl ⟨rfl, .inl ⟨_, _, run_build_op rfl (qs := #[(0, .agg (lac (laN wt tr) none 0 0 none none 0 0 0 0))]) (by simp [h6]) (run_bs1L wt tr u), ⟨_, rfl, Blk.new _ _ _⟩, (Below.refl _ _).alloc (Nat.le_refl _) _⟩⟩
   ·intro u o ρ hR ho hρ hc hf hv
    simp only [List.getElem?_toArray, List.getElem?_cons_zero, List.getElem?_cons_succ, Option.some.injEq] at ho
    subst ho
    have h1 : ρ (.tmp 24) = .slice a3 k c3 := hv 1 24 (by decide) rfl
    obtain ⟨c, h7, r7⟩ : ∃ c, ρ (.tmp 30) = .slice (some ⟨c, 0, none⟩) 1 1 /\ Blk u c 98 (lac (laN wt tr) none 0 0 none none 0 0 0 0) := hv 7 30 (by decide) rfl
    have rL := row_belX HK.out.2.1 hR
    obtain ⟨v', w', hrun, r1, r2⟩ := run_app1L 39 B c k _ wt tr u rL r7 (by omega) (by have := HK.out.2.2.2.2.2.lt; have := hR.size; omega)
    obtain ⟨a4, c4, rfl⟩ := row_shape r1
    refine ⟨rfl, .inl ⟨_, w', run_app_x rfl h1 h7 hrun, a4, c4, u, updS_eqX, r1, hR, r2⟩⟩
   ·intro u i o ρ hi ho hE hρ hc hf
    have hi2 : i + 1 < 11 := by
     have := (Array.getElem?_eq_some_iff.1 ho).1
     simpa using this
    obtain rfl | rfl : i = 8 \/ i = 9 := by omega
    all_goals (simp only [List.getElem?_toArray, List.getElem?_cons_zero, List.getElem?_cons_succ, Option.some.injEq] at ho; subst ho)
    ·have s0 : ρ (.tmp 3) = .pointer (some ⟨b9, 0, none⟩) := (hρ 3 (by kernel_rfl)).trans rfl
     obtain ⟨a4, c4, u0, e1, q1, q2, q4⟩ := hE
     exact ⟨rfl, .inl ⟨.pointer (some ⟨b9, 6, none⟩), u, run_field_op rfl s0 (by go_simp), ⟨a4, c4, u0, (updS_neX (by decide)).trans e1, q1, q2, q4⟩, updS_eqX⟩⟩
    obtain ⟨⟨a4, c4, u0, e1, q1, q2, q4⟩, e2⟩ := hE
    have e1' : ρ (.tmp 31) = .slice a4 (k + 1) c4 := e1
    have e2' : ρ (.tmp 32) = .pointer (some ⟨b9, 6, none⟩) := e2
    have kF := (HK.out.1.below q2).grow (row_belX HK.out.2.1 q2) q4 (by decide)
    have c6 := kF.cell 6 rfl
    have f6 := kF.fro 6
    have hr : (Instr.storeAt 39 (.pointer (some ⟨b9, 6, none⟩)) (.slice a4 (k + 1) c4)).run Tryz.prog u = .ok () (setL u b9 6 [.slice a4 (k + 1) c4]) := by go_simp; rfl
    exact ⟨rfl, .inr (.inr ⟨rfl, _, run_store_op rfl e2' e1' hr, a4, c4, u0, u, q1, q2, q4, rfl⟩)⟩
   intro vs σ u hE hvs
   obtain ⟨a4, c4, u0, u1, q1, q2, q4, rfl⟩ : ∃ a4 c4 u0 u1, u1.ownsRow B 98 17 (.slice a4 (k + 1) c4) (k + 1) (lnsX wt tr (k + 1)) /\ Below wr.heap.size wr u0 /\ u0.grownBy u1 (Value.slice a3 k c3).ownBlock /\ u = setL u1 b9 6 [.slice a4 (k + 1) c4] := hE
   have rL0 := row_belX HK.out.2.1 q2
   have kF := (HK.out.1.below q2).grow rL0 q4 (by decide)
   have kC := (HK.out.2.2.2.2.1.below q2).grow rL0 q4 (by decide)
   have kR := (HK.out.2.2.2.2.2.below q2).grow rL0 q4 (by decide)
   have rU := row_grow (row_belX HK.out.2.2.1 q2) rL0 q4 (by decide)
   have bl : Below w.heap.size w u1 := (bel_nx HK.out.2.2.2.1 q2).grown q4 (by have := HK.out.2.2.2.2.2.lt; have := q2.size; have := H0.out.2.2.2.2.1; omega) (fun k' hk' => by have := (World.ownsRow.lt rL0 k' hk').1; have := H0.out.2.2.2.2.1; omega)
   have H3 : Hid (∃ a3 c3, Blk (setL u1 b9 6 [.slice a4 (k + 1) c4]) b9 41 (fbc wt tr a1 n c1 a3 (k + 1) c3) /\ (setL u1 b9 6 [.slice a4 (k + 1) c4]).ownsRow B 98 17 (.slice a3 (k + 1) c3) (k + 1) (lnsX wt tr (k + 1)) /\ (setL u1 b9 6 [.slice a4 (k + 1) c4]).ownsRow B 110 7 (.slice a1 n c1) n (flatS 7 n (fun k => rul (f k))) /\ Below w.heap.size w (setL u1 b9 6 [.slice a4 (k + 1) c4]) /\ Blk (setL u1 b9 6 [.slice a4 (k + 1) c4]) B 35 (cfc wt tr a n cap) /\ Blk (setL u1 b9 6 [.slice a4 (k + 1) c4]) (B + 1) 41 fz) := by
    refine ⟨a4, c4, ?_, row_stL q1 ⟨_, kF⟩ (by decide), row_stL rU ⟨_, kF⟩ (by decide), setL_below (by have := Q3.out; have := H0.out.2.2.2.2.1; omega) _ _ _ bl, Blk.stNe (by have := Q3.out; omega) _ _ kC, Blk.stNe (by have := Q3.out; omega) _ _ kR⟩
    have := Blk.stL [.slice a4 (k + 1) c4] 6 kF
    rw [wrF6] at this
    exact this
   obtain ⟨W3, hW3⟩ : ∃ W3, W3 = setL u1 b9 6 [.slice a4 (k + 1) c4] := ⟨_, rfl⟩
   rw [<- hW3] at H3 ⊢
   simp only [putsL]
   clear hW3 kF kC kR rU rL0 q1 q2 q4 bl hvs HK
   try go_simp
   go_wp2
   go_roundw
   case rel => exact ⟨k + 1, by omega, by go_num, H3.out⟩
   case measure => simp [intOf]; omega
  have hi : ¬ (k : Int) < 6 := by omega
  have e9 : k = 6 := by omega
  subst e9
  clear hi hlt hk
  go_upto_region 8 with fail
  refine wp_region_lit ?_
  refine wpList_load_mid rfl 41 (.tmp 3) rfl b9 0 rfl (fbL wt tr a1 n c1 a3 6 c3) _ HK.out.1.all Tryz.underlying41 rfl (by kernel_rfl) ?_
  refine wpList_store_mid rfl 41 (.tmp 2) (.tmp 33) rfl (B + 1) 0 (fbc wt tr a1 n c1 a3 6 c3) rfl rfl (HK.out.2.2.2.2.2.there 0 11 (by simp)) (by kernel_rfl) (by simp [Value.oneCell']) ?_
  rw [setCells_L]
  refine wpList_nil ?_
  go_wp2
  have HB : Blk (setL wr (B + 1) 0 (fbL wt tr a1 n c1 a3 6 c3)) (B + 1) 41 (fbc wt tr a1 n c1 a3 6 c3) := by
   have := Blk.stL (fbL wt tr a1 n c1 a3 6 c3) 0 HK.out.2.2.2.2.2
   rw [wrF] at this
   exact this
  obtain ⟨kF, rL, rU, bl, kC, kR⟩ := HK.out
  have hwB := H0.out.2.2.2.2.1
  refine bodyPost_ret (v := .agg (fbc wt tr a1 n c1 a3 6 c3)) (results_cell Tryz.results70 rfl (run_loadVar_mid _ _ _ 41 (fbL wt tr a1 n c1 a3 6 c3) _ HB.all Tryz.underlying41 rfl (by kernel_rfl))) rfl ⟨setL_below (by omega) _ _ _ bl, .inr ⟨rfl, a1, c1, a3, c3, rfl, ?_, ?_⟩⟩
  ·rw [hwB]; exact row_stL rU ⟨_, kR⟩ (by decide)
  rw [hwB]; exact row_stL rL ⟨_, kR⟩ (by decide)
end Go.Proofs.YtkfgijkkffbpmaaGreat
namespace Go.Proofs.YtkfgijkkffbpmaaGreat
open Go.RowKit Go.Joins
theorem heldRespS_f (n : Nat) (f : Nat -> VA) (a : Option Addr) (n' c s : Nat) (x : Int) (w : World) (hx : x = ((s : Nat) : Int)) (h : Rd w 0 (.list 6 n (fun i => trs (aT (nmVA (s + sumN i (fun i => ctVA (f i))) (f i))))) (.slice a n' c)) (hB : s + sumN n (fun i => ctVA (f i)) <= 1125899906842624) :
 Calls Tryz.prog 151 #[.slice a n' c, .int .i64 x] w fun e w' => e = .returned (.int .i64 ((s + sumN n (fun i => ctVA (f i)) : Nat) : Int)) /\ w' = w := by
 subst hx
 obtain ⟨a9, c9, h9, -, hm⟩ := h.shape
 simp only [Value.slice.injEq] at h9
 obtain ⟨-, rfl, -⟩ := h9
 clear a9 c9
 unfold maxLen at hm
 have HH : Hid (Rd w 0 (.list 6 n' (fun i => trs (aT (nmVA (s + sumN i (fun i => ctVA (f i))) (f i))))) (.slice a n' c) /\ s + sumN n' (fun i => ctVA (f i)) <= 1125899906842624) := ⟨h, hB⟩
 clear h hB
 go_enter Tryz.func151, Tryz.ntmps151
 go_wp2
 go_loopw [1, 5] (fun kv i wr => ∃ z : Nat, z <= n' /\ i = .int .i64 z /\ kv = .int .i64 ((s + sumN z (fun i => ctVA (f i)) : Nat) : Int) /\ wr = w) (fun _ i _ => n' - (intOf i).toNat)
 case atStart => exact ⟨0, Nat.zero_le _, rfl, rfl, rfl⟩
 case round =>
  obtain ⟨z, hz, rfl, rfl, hw⟩ := hrel
  subst hw
  by_cases hlt : z < n'
  ·have hi : (z : Int) < (n' : Int) := by omega
   obtain ⟨kk, hkk⟩ : ∃ kk, kk = s + sumN z (fun i => ctVA (f i)) := ⟨_, rfl⟩
   rw [<- hkk]
   have HC : Hid (ctVA (f z) = 1 + 1 + 1 + 1 + (f z).ws.length + (f z).bs.length /\ True) := ⟨rfl, trivial⟩
   have HK0 : Hid (kk = s + sumN z (fun i => ctVA (f i)) /\ kk + ctVA (f z) <= 1125899906842624 /\ s + sumN (z + 1) (fun i => ctVA (f i)) = kk + ctVA (f z)) := ⟨hkk, by have h7 := sumN_le (g := (fun i => ctVA (f i))) hlt; have h8 := HH.out.2; omega, by rw [hkk]; simp only [sumN]; omega⟩
   obtain ⟨b, off, vs, rfl, _, hb0, hlen, hr, hrd⟩ := HH.out.1.at hlt
   rw [<- hkk] at hrd
   obtain ⟨a1, c1, a2, c2, rfl, r1, r2⟩ := VA.cells hrd hlen
   have HR : Hid (wr.rangeAt b (off + z * 6) (aL (nmVA kk (f z)) a1 ((nmVA kk (f z)).ws.length) c1 a2 ((nmVA kk (f z)).bs.length) c2) /\ Rd wr 0 (intsT (nmVA kk (f z)).ws) (.slice a1 ((nmVA kk (f z)).ws.length) c1) /\ Rd wr 0 (boolsT (nmVA kk (f z)).bs) (.slice a2 ((nmVA kk (f z)).bs.length) c2)) := ⟨hr, r1, r2⟩
   clear hlen hrd hr hb0 hkk r1 r2
   have d0 : wr.cell? ⟨b, off + z * 6, none⟩ = some (.int .i64 ((kk : Int))) := (HR.out.1 0 _ rfl).trans (congrArg (fun x => some (Value.int .i64 x)) (by show ((kk : Nat) : Int) = _; have := HC.out; have := HK0.out; omega))
   have v0 : IntKind.i64.wrap ((kk : Int) + 1) = (kk : Int) + 1 := by have := HC.out; have := HK0.out; rw [IntKind.wrap_i64]; omega
   have d1 : wr.cell? ⟨b, off + z * 6 + 1, none⟩ = some (.int .i64 ((kk : Int) + 1)) := (HR.out.1 1 _ rfl).trans (congrArg (fun x => some (Value.int .i64 x)) (by show ((kk + 1 : Nat) : Int) = _; have := HC.out; have := HK0.out; omega))
   have v1 : IntKind.i64.wrap ((kk : Int) + 1 + 1) = (kk : Int) + 2 := by have := HC.out; have := HK0.out; rw [IntKind.wrap_i64]; omega
   have d2 : wr.cell? ⟨b, off + z * 6 + 2, none⟩ = some (.int .i64 ((kk : Int) + 2)) := (HR.out.1 2 _ rfl).trans (congrArg (fun x => some (Value.int .i64 x)) (by show ((kk + 1 + 1 : Nat) : Int) = _; have := HC.out; have := HK0.out; omega))
   have v2 : IntKind.i64.wrap ((kk : Int) + 2 + 1) = (kk : Int) + 3 := by have := HC.out; have := HK0.out; rw [IntKind.wrap_i64]; omega
   have d3 : wr.cell? ⟨b, off + z * 6 + 3, none⟩ = some (.int .i64 ((kk : Int) + 3)) := (HR.out.1 3 _ rfl).trans (congrArg (fun x => some (Value.int .i64 x)) (by show ((kk + 1 + 1 + 1 : Nat) : Int) = _; have := HC.out; have := HK0.out; omega))
   have v3 : IntKind.i64.wrap ((kk : Int) + 3 + 1) = (kk : Int) + 4 := by have := HC.out; have := HK0.out; rw [IntKind.wrap_i64]; omega
   have d4 : wr.cell? ⟨b, off + z * 6 + 4, none⟩ = some (.slice a1 ((nmVA kk (f z)).ws.length) c1) := HR.out.1 4 _ rfl
   go_wp2_with fail
   refine (heldIntS_f (f z).ws.length a1 _ c1 (kk + 1 + 1 + 1 + 1) _ _ (by have := HC.out; have := HK0.out; omega) HR.out.2.1 (by have := HC.out; have := HK0.out; omega)).mono ?_
   rintro e w9 ⟨rfl, hw⟩
   have hw := hw.symm
   subst hw
   obtain ⟨k1, hk1⟩ : ∃ k1 : Nat, k1 = kk + 1 + 1 + 1 + 1 + (f z).ws.length := ⟨_, rfl⟩
   rw [<- hk1]
   have HK1 : Hid (k1 = kk + 1 + 1 + 1 + 1 + (f z).ws.length) := hk1
   have nn1 : ¬ ((k1 : Int) < 0) := by omega
   clear hk1
   have d5 : wr.cell? ⟨b, off + z * 6 + 5, none⟩ = some (.slice a2 ((nmVA kk (f z)).bs.length) c2) := HR.out.1 5 _ rfl
   go_wp2_with fail
   refine (heldBoolS_f (f z).bs.length a2 _ c2 (kk + 1 + 1 + 1 + 1 + (f z).ws.length) _ _ (by have := HC.out; have := HK0.out; have := HK1.out; omega) HR.out.2.2 (by have := HC.out; have := HK0.out; have := HK1.out; omega)).mono ?_
   rintro e w9 ⟨rfl, hw⟩
   have hw := hw.symm
   subst hw
   obtain ⟨k2, hk2⟩ : ∃ k2 : Nat, k2 = kk + 1 + 1 + 1 + 1 + (f z).ws.length + (f z).bs.length := ⟨_, rfl⟩
   rw [<- hk2]
   have HK2 : Hid (k2 = kk + 1 + 1 + 1 + 1 + (f z).ws.length + (f z).bs.length) := hk2
   have nn2 : ¬ ((k2 : Int) < 0) := by omega
   clear hk2
   have HZ : Hid ((k2 : Int) = ((s + sumN (z + 1) (fun i => ctVA (f i)) : Nat) : Int)) := by show _ = _; have := HC.out; have := HK0.out; have := HK1.out; have := HK2.out; omega
   go_wp2
   go_roundw
   case rel => exact ⟨z + 1, by omega, by go_num, congrArg (Value.int .i64) HZ.out, trivial⟩
   case measure => simp [intOf]; omega
  have hi : ¬ (z : Int) < (n' : Int) := by omega
  have e9 : z = n' := by omega
  subst e9
  go_wp2
  go_ret
  exact ⟨rfl, rfl⟩
theorem heldPartS_f (n : Nat) (f : Nat -> VP) (a : Option Addr) (n' c s : Nat) (x : Int) (w : World) (hx : x = ((s : Nat) : Int)) (h : Rd w 0 (.list 8 n (fun i => trs (pT (nmVP (s + sumN i (fun i => ctVP (f i))) (f i))))) (.slice a n' c)) (hB : s + sumN n (fun i => ctVP (f i)) <= 1125899906842624) :
 Calls Tryz.prog 150 #[.slice a n' c, .int .i64 x] w fun e w' => e = .returned (.int .i64 ((s + sumN n (fun i => ctVP (f i)) : Nat) : Int)) /\ w' = w := by
 subst hx
 obtain ⟨a9, c9, h9, -, hm⟩ := h.shape
 simp only [Value.slice.injEq] at h9
 obtain ⟨-, rfl, -⟩ := h9
 clear a9 c9
 unfold maxLen at hm
 have HH : Hid (Rd w 0 (.list 8 n' (fun i => trs (pT (nmVP (s + sumN i (fun i => ctVP (f i))) (f i))))) (.slice a n' c) /\ s + sumN n' (fun i => ctVP (f i)) <= 1125899906842624) := ⟨h, hB⟩
 clear h hB
 go_enter Tryz.func150, Tryz.ntmps150
 go_wp2
 go_loopw [1, 5] (fun kv i wr => ∃ z : Nat, z <= n' /\ i = .int .i64 z /\ kv = .int .i64 ((s + sumN z (fun i => ctVP (f i)) : Nat) : Int) /\ wr = w) (fun _ i _ => n' - (intOf i).toNat)
 case atStart => exact ⟨0, Nat.zero_le _, rfl, rfl, rfl⟩
 case round =>
  obtain ⟨z, hz, rfl, rfl, hw⟩ := hrel
  subst hw
  by_cases hlt : z < n'
  ·have hi : (z : Int) < (n' : Int) := by omega
   obtain ⟨kk, hkk⟩ : ∃ kk, kk = s + sumN z (fun i => ctVP (f i)) := ⟨_, rfl⟩
   rw [<- hkk]
   have HC : Hid (ctVP (f z) = 1 + 1 + ctVQ (f z).q /\ ctVQ (f z).q = 1 + 1 + 1 + (f z).q.ws.length + (f z).q.bs.length + 1 /\ True) := ⟨rfl, rfl, trivial⟩
   have HK0 : Hid (kk = s + sumN z (fun i => ctVP (f i)) /\ kk + ctVP (f z) <= 1125899906842624 /\ s + sumN (z + 1) (fun i => ctVP (f i)) = kk + ctVP (f z)) := ⟨hkk, by have h7 := sumN_le (g := (fun i => ctVP (f i))) hlt; have h8 := HH.out.2; omega, by rw [hkk]; simp only [sumN]; omega⟩
   obtain ⟨b, off, vs, rfl, _, hb0, hlen, hr, hrd⟩ := HH.out.1.at hlt
   rw [<- hkk] at hrd
   obtain ⟨a1, c1, a2, c2, rfl, r1, r2⟩ := VP.cells hrd hlen
   have HR : Hid (wr.rangeAt b (off + z * 8) (pL (nmVP kk (f z)) a1 ((nmVP kk (f z)).q.ws.length) c1 a2 ((nmVP kk (f z)).q.bs.length) c2) /\ Rd wr 0 (intsT (nmVP kk (f z)).q.ws) (.slice a1 ((nmVP kk (f z)).q.ws.length) c1) /\ Rd wr 0 (boolsT (nmVP kk (f z)).q.bs) (.slice a2 ((nmVP kk (f z)).q.bs.length) c2)) := ⟨hr, r1, r2⟩
   clear hlen hrd hr hb0 hkk r1 r2
   have d0 : wr.cell? ⟨b, off + z * 8, none⟩ = some (.int .i64 ((kk : Int))) := (HR.out.1 0 _ rfl).trans (congrArg (fun x => some (Value.int .i64 x)) (by show ((kk : Nat) : Int) = _; have := HC.out; have := HK0.out; omega))
   have v0 : IntKind.i64.wrap ((kk : Int) + 1) = (kk : Int) + 1 := by have := HC.out; have := HK0.out; rw [IntKind.wrap_i64]; omega
   have d1 : wr.cell? ⟨b, off + z * 8 + 1, none⟩ = some (.int .i64 ((kk : Int) + 1)) := (HR.out.1 1 _ rfl).trans (congrArg (fun x => some (Value.int .i64 x)) (by show ((kk + 1 : Nat) : Int) = _; have := HC.out; have := HK0.out; omega))
   have v1 : IntKind.i64.wrap ((kk : Int) + 1 + 1) = (kk : Int) + 2 := by have := HC.out; have := HK0.out; rw [IntKind.wrap_i64]; omega
   have d2 : wr.cell? ⟨b, off + z * 8 + 2, none⟩ = some (.int .i64 ((kk : Int) + 2)) := (HR.out.1 2 _ rfl).trans (congrArg (fun x => some (Value.int .i64 x)) (by show (((kk + 1 + 1) : Nat) : Int) = _; have := HC.out; have := HK0.out; omega))
   have v2 : IntKind.i64.wrap ((kk : Int) + 2 + 1) = (kk : Int) + 3 := by have := HC.out; have := HK0.out; rw [IntKind.wrap_i64]; omega
   have d3 : wr.cell? ⟨b, off + z * 8 + 3, none⟩ = some (.int .i64 ((kk : Int) + 3)) := (HR.out.1 3 _ rfl).trans (congrArg (fun x => some (Value.int .i64 x)) (by show (((kk + 1 + 1) + 1 : Nat) : Int) = _; have := HC.out; have := HK0.out; omega))
   have v3 : IntKind.i64.wrap ((kk : Int) + 3 + 1) = (kk : Int) + 4 := by have := HC.out; have := HK0.out; rw [IntKind.wrap_i64]; omega
   have d4 : wr.cell? ⟨b, off + z * 8 + 4, none⟩ = some (.int .i64 ((kk : Int) + 4)) := (HR.out.1 4 _ rfl).trans (congrArg (fun x => some (Value.int .i64 x)) (by show (((kk + 1 + 1) + 1 + 1 : Nat) : Int) = _; have := HC.out; have := HK0.out; omega))
   have v4 : IntKind.i64.wrap ((kk : Int) + 4 + 1) = (kk : Int) + 5 := by have := HC.out; have := HK0.out; rw [IntKind.wrap_i64]; omega
   have d5 : wr.cell? ⟨b, off + z * 8 + 5, none⟩ = some (.slice a1 ((nmVP kk (f z)).q.ws.length) c1) := HR.out.1 5 _ rfl
   go_wp2_with fail
   refine (heldIntS_f (f z).q.ws.length a1 _ c1 ((kk + 1 + 1) + 1 + 1 + 1) _ _ (by have := HC.out; have := HK0.out; omega) HR.out.2.1 (by have := HC.out; have := HK0.out; omega)).mono ?_
   rintro e w9 ⟨rfl, hw⟩
   have hw := hw.symm
   subst hw
   obtain ⟨k1, hk1⟩ : ∃ k1 : Nat, k1 = (kk + 1 + 1) + 1 + 1 + 1 + (f z).q.ws.length := ⟨_, rfl⟩
   rw [<- hk1]
   have HK1 : Hid (k1 = (kk + 1 + 1) + 1 + 1 + 1 + (f z).q.ws.length) := hk1
   have nn1 : ¬ ((k1 : Int) < 0) := by omega
   clear hk1
   have d6 : wr.cell? ⟨b, off + z * 8 + 6, none⟩ = some (.slice a2 ((nmVP kk (f z)).q.bs.length) c2) := HR.out.1 6 _ rfl
   go_wp2_with fail
   refine (heldBoolS_f (f z).q.bs.length a2 _ c2 ((kk + 1 + 1) + 1 + 1 + 1 + (f z).q.ws.length) _ _ (by have := HC.out; have := HK0.out; have := HK1.out; omega) HR.out.2.2 (by have := HC.out; have := HK0.out; have := HK1.out; omega)).mono ?_
   rintro e w9 ⟨rfl, hw⟩
   have hw := hw.symm
   subst hw
   obtain ⟨k2, hk2⟩ : ∃ k2 : Nat, k2 = (kk + 1 + 1) + 1 + 1 + 1 + (f z).q.ws.length + (f z).q.bs.length := ⟨_, rfl⟩
   rw [<- hk2]
   have HK2 : Hid (k2 = (kk + 1 + 1) + 1 + 1 + 1 + (f z).q.ws.length + (f z).q.bs.length) := hk2
   have nn2 : ¬ ((k2 : Int) < 0) := by omega
   clear hk2
   have d7 : wr.cell? ⟨b, off + z * 8 + 7, none⟩ = some (.int .i64 ((k2 : Int))) := (HR.out.1 7 _ rfl).trans (congrArg (fun x => some (Value.int .i64 x)) (by show (((kk + 1 + 1) + 1 + 1 + 1 + (f z).q.ws.length + (f z).q.bs.length : Nat) : Int) = _; have := HC.out; have := HK0.out; have := HK1.out; have := HK2.out; omega))
   have v7 : IntKind.i64.wrap ((k2 : Int) + 1) = (k2 : Int) + 1 := by have := HC.out; have := HK0.out; have := HK1.out; have := HK2.out; rw [IntKind.wrap_i64]; omega
   have HZ : Hid ((k2 : Int) + 1 = ((s + sumN (z + 1) (fun i => ctVP (f i)) : Nat) : Int)) := by show _ = _; have := HC.out; have := HK0.out; have := HK1.out; have := HK2.out; omega
   go_wp2
   go_roundw
   case rel => exact ⟨z + 1, by omega, by go_num, congrArg (Value.int .i64) HZ.out, trivial⟩
   case measure => simp [intOf]; omega
  have hi : ¬ (z : Int) < (n' : Int) := by omega
  have e9 : z = n' := by omega
  subst e9
  go_wp2
  go_ret
  exact ⟨rfl, rfl⟩
theorem heldPendS_f (n : Nat) (f : Nat -> VD) (a : Option Addr) (n' c s : Nat) (x : Int) (w : World) (hx : x = ((s : Nat) : Int)) (h : Rd w 0 (.list 13 n (fun i => trs (dT (nmVD (s + sumN i (fun i => ctVD (f i))) (f i))))) (.slice a n' c)) (hB : s + sumN n (fun i => ctVD (f i)) <= 1125899906842624) :
 Calls Tryz.prog 127 #[.slice a n' c, .int .i64 x] w fun e w' => e = .returned (.int .i64 ((s + sumN n (fun i => ctVD (f i)) : Nat) : Int)) /\ w' = w := by
 subst hx
 obtain ⟨a9, c9, h9, -, hm⟩ := h.shape
 simp only [Value.slice.injEq] at h9
 obtain ⟨-, rfl, -⟩ := h9
 clear a9 c9
 unfold maxLen at hm
 have HH : Hid (Rd w 0 (.list 13 n' (fun i => trs (dT (nmVD (s + sumN i (fun i => ctVD (f i))) (f i))))) (.slice a n' c) /\ s + sumN n' (fun i => ctVD (f i)) <= 1125899906842624) := ⟨h, hB⟩
 clear h hB
 go_enter Tryz.func127, Tryz.ntmps127
 go_wp2
 go_loopw [1, 5] (fun kv i wr => ∃ z : Nat, z <= n' /\ i = .int .i64 z /\ kv = .int .i64 ((s + sumN z (fun i => ctVD (f i)) : Nat) : Int) /\ wr = w) (fun _ i _ => n' - (intOf i).toNat)
 case atStart => exact ⟨0, Nat.zero_le _, rfl, rfl, rfl⟩
 case round =>
  obtain ⟨z, hz, rfl, rfl, hw⟩ := hrel
  subst hw
  by_cases hlt : z < n'
  ·have hi : (z : Int) < (n' : Int) := by omega
   obtain ⟨kk, hkk⟩ : ∃ kk, kk = s + sumN z (fun i => ctVD (f i)) := ⟨_, rfl⟩
   rw [<- hkk]
   have HC : Hid (ctVD (f z) = 1 + 1 + 1 + 1 + ctVQ (f z).q + sumN (f z).np (fun i => ctVP ((f z).pt i)) + (f z).hs.length + sumN (f z).nt (fun i => ctVA ((f z).tl i)) /\ ctVQ (f z).q = 1 + 1 + 1 + (f z).q.ws.length + (f z).q.bs.length + 1 /\ True) := ⟨rfl, rfl, trivial⟩
   have HK0 : Hid (kk = s + sumN z (fun i => ctVD (f i)) /\ kk + ctVD (f z) <= 1125899906842624 /\ s + sumN (z + 1) (fun i => ctVD (f i)) = kk + ctVD (f z)) := ⟨hkk, by have h7 := sumN_le (g := (fun i => ctVD (f i))) hlt; have h8 := HH.out.2; omega, by rw [hkk]; simp only [sumN]; omega⟩
   obtain ⟨b, off, vs, rfl, _, hb0, hlen, hr, hrd⟩ := HH.out.1.at hlt
   rw [<- hkk] at hrd
   obtain ⟨a1, c1, a2, c2, a3, c3, a4, c4, a5, c5, rfl, r1, r2, r3, r4, r5⟩ := VD.cells hrd hlen
   have HR : Hid (wr.rangeAt b (off + z * 13) (dL (nmVD kk (f z)) a1 ((nmVD kk (f z)).q.ws.length) c1 a2 ((nmVD kk (f z)).q.bs.length) c2 a3 ((nmVD kk (f z)).np) c3 a4 ((nmVD kk (f z)).hs.length) c4 a5 ((nmVD kk (f z)).nt) c5) /\ Rd wr 0 (intsT (nmVD kk (f z)).q.ws) (.slice a1 ((nmVD kk (f z)).q.ws.length) c1) /\ Rd wr 0 (boolsT (nmVD kk (f z)).q.bs) (.slice a2 ((nmVD kk (f z)).q.bs.length) c2) /\ Rd wr 0 (.list 8 (nmVD kk (f z)).np (fun i => trs (pT ((nmVD kk (f z)).pt i)))) (.slice a3 ((nmVD kk (f z)).np) c3) /\ Rd wr 0 (boolsT (nmVD kk (f z)).hs) (.slice a4 ((nmVD kk (f z)).hs.length) c4) /\ Rd wr 0 (.list 6 (nmVD kk (f z)).nt (fun i => trs (aT ((nmVD kk (f z)).tl i)))) (.slice a5 ((nmVD kk (f z)).nt) c5)) := ⟨hr, r1, r2, r3, r4, r5⟩
   clear hlen hrd hr hb0 hkk r1 r2 r3 r4 r5
   have d0 : wr.cell? ⟨b, off + z * 13, none⟩ = some (.int .i64 ((kk : Int))) := (HR.out.1 0 _ rfl).trans (congrArg (fun x => some (Value.int .i64 x)) (by show ((kk : Nat) : Int) = _; have := HC.out; have := HK0.out; omega))
   have v0 : IntKind.i64.wrap ((kk : Int) + 1) = (kk : Int) + 1 := by have := HC.out; have := HK0.out; rw [IntKind.wrap_i64]; omega
   have d1 : wr.cell? ⟨b, off + z * 13 + 1, none⟩ = some (.int .i64 ((kk : Int) + 1)) := (HR.out.1 1 _ rfl).trans (congrArg (fun x => some (Value.int .i64 x)) (by show ((kk + 1 : Nat) : Int) = _; have := HC.out; have := HK0.out; omega))
   have v1 : IntKind.i64.wrap ((kk : Int) + 1 + 1) = (kk : Int) + 2 := by have := HC.out; have := HK0.out; rw [IntKind.wrap_i64]; omega
   have d2 : wr.cell? ⟨b, off + z * 13 + 2, none⟩ = some (.int .i64 ((kk : Int) + 2)) := (HR.out.1 2 _ rfl).trans (congrArg (fun x => some (Value.int .i64 x)) (by show ((kk + 1 + 1 : Nat) : Int) = _; have := HC.out; have := HK0.out; omega))
   have v2 : IntKind.i64.wrap ((kk : Int) + 2 + 1) = (kk : Int) + 3 := by have := HC.out; have := HK0.out; rw [IntKind.wrap_i64]; omega
   have d3 : wr.cell? ⟨b, off + z * 13 + 3, none⟩ = some (.int .i64 ((kk : Int) + 3)) := (HR.out.1 3 _ rfl).trans (congrArg (fun x => some (Value.int .i64 x)) (by show ((kk + 1 + 1 + 1 : Nat) : Int) = _; have := HC.out; have := HK0.out; omega))
   have v3 : IntKind.i64.wrap ((kk : Int) + 3 + 1) = (kk : Int) + 4 := by have := HC.out; have := HK0.out; rw [IntKind.wrap_i64]; omega
   have d4 : wr.cell? ⟨b, off + z * 13 + 4, none⟩ = some (.int .i64 ((kk : Int) + 4)) := (HR.out.1 4 _ rfl).trans (congrArg (fun x => some (Value.int .i64 x)) (by show (((kk + 1 + 1 + 1 + 1) : Nat) : Int) = _; have := HC.out; have := HK0.out; omega))
   have v4 : IntKind.i64.wrap ((kk : Int) + 4 + 1) = (kk : Int) + 5 := by have := HC.out; have := HK0.out; rw [IntKind.wrap_i64]; omega
   have d5 : wr.cell? ⟨b, off + z * 13 + 5, none⟩ = some (.int .i64 ((kk : Int) + 5)) := (HR.out.1 5 _ rfl).trans (congrArg (fun x => some (Value.int .i64 x)) (by show (((kk + 1 + 1 + 1 + 1) + 1 : Nat) : Int) = _; have := HC.out; have := HK0.out; omega))
   have v5 : IntKind.i64.wrap ((kk : Int) + 5 + 1) = (kk : Int) + 6 := by have := HC.out; have := HK0.out; rw [IntKind.wrap_i64]; omega
   have d6 : wr.cell? ⟨b, off + z * 13 + 6, none⟩ = some (.int .i64 ((kk : Int) + 6)) := (HR.out.1 6 _ rfl).trans (congrArg (fun x => some (Value.int .i64 x)) (by show (((kk + 1 + 1 + 1 + 1) + 1 + 1 : Nat) : Int) = _; have := HC.out; have := HK0.out; omega))
   have v6 : IntKind.i64.wrap ((kk : Int) + 6 + 1) = (kk : Int) + 7 := by have := HC.out; have := HK0.out; rw [IntKind.wrap_i64]; omega
   have d7 : wr.cell? ⟨b, off + z * 13 + 7, none⟩ = some (.slice a1 ((nmVD kk (f z)).q.ws.length) c1) := HR.out.1 7 _ rfl
   go_wp2_with fail
   refine (heldIntS_f (f z).q.ws.length a1 _ c1 ((kk + 1 + 1 + 1 + 1) + 1 + 1 + 1) _ _ (by have := HC.out; have := HK0.out; omega) HR.out.2.1 (by have := HC.out; have := HK0.out; omega)).mono ?_
   rintro e w9 ⟨rfl, hw⟩
   have hw := hw.symm
   subst hw
   obtain ⟨k1, hk1⟩ : ∃ k1 : Nat, k1 = (kk + 1 + 1 + 1 + 1) + 1 + 1 + 1 + (f z).q.ws.length := ⟨_, rfl⟩
   rw [<- hk1]
   have HK1 : Hid (k1 = (kk + 1 + 1 + 1 + 1) + 1 + 1 + 1 + (f z).q.ws.length) := hk1
   have nn1 : ¬ ((k1 : Int) < 0) := by omega
   clear hk1
   have d8 : wr.cell? ⟨b, off + z * 13 + 8, none⟩ = some (.slice a2 ((nmVD kk (f z)).q.bs.length) c2) := HR.out.1 8 _ rfl
   go_wp2_with fail
   refine (heldBoolS_f (f z).q.bs.length a2 _ c2 ((kk + 1 + 1 + 1 + 1) + 1 + 1 + 1 + (f z).q.ws.length) _ _ (by have := HC.out; have := HK0.out; have := HK1.out; omega) HR.out.2.2.1 (by have := HC.out; have := HK0.out; have := HK1.out; omega)).mono ?_
   rintro e w9 ⟨rfl, hw⟩
   have hw := hw.symm
   subst hw
   obtain ⟨k2, hk2⟩ : ∃ k2 : Nat, k2 = (kk + 1 + 1 + 1 + 1) + 1 + 1 + 1 + (f z).q.ws.length + (f z).q.bs.length := ⟨_, rfl⟩
   rw [<- hk2]
   have HK2 : Hid (k2 = (kk + 1 + 1 + 1 + 1) + 1 + 1 + 1 + (f z).q.ws.length + (f z).q.bs.length) := hk2
   have nn2 : ¬ ((k2 : Int) < 0) := by omega
   clear hk2
   have d9 : wr.cell? ⟨b, off + z * 13 + 9, none⟩ = some (.int .i64 ((k2 : Int))) := (HR.out.1 9 _ rfl).trans (congrArg (fun x => some (Value.int .i64 x)) (by show (((kk + 1 + 1 + 1 + 1) + 1 + 1 + 1 + (f z).q.ws.length + (f z).q.bs.length : Nat) : Int) = _; have := HC.out; have := HK0.out; have := HK1.out; have := HK2.out; omega))
   have v9 : IntKind.i64.wrap ((k2 : Int) + 1) = (k2 : Int) + 1 := by have := HC.out; have := HK0.out; have := HK1.out; have := HK2.out; rw [IntKind.wrap_i64]; omega
   have d10 : wr.cell? ⟨b, off + z * 13 + 10, none⟩ = some (.slice a3 ((nmVD kk (f z)).np) c3) := HR.out.1 10 _ rfl
   go_wp2_with fail
   refine (heldPartS_f (f z).np (f z).pt a3 _ c3 (kk + 1 + 1 + 1 + 1 + ctVQ (f z).q) _ _ (by have := HC.out; have := HK0.out; have := HK1.out; have := HK2.out; omega) HR.out.2.2.2.1 (by have := HC.out; have := HK0.out; have := HK1.out; have := HK2.out; omega)).mono ?_
   rintro e w9 ⟨rfl, hw⟩
   have hw := hw.symm
   subst hw
   obtain ⟨k3, hk3⟩ : ∃ k3 : Nat, k3 = kk + 1 + 1 + 1 + 1 + ctVQ (f z).q + sumN (f z).np (fun i => ctVP ((f z).pt i)) := ⟨_, rfl⟩
   rw [<- hk3]
   have HK3 : Hid (k3 = kk + 1 + 1 + 1 + 1 + ctVQ (f z).q + sumN (f z).np (fun i => ctVP ((f z).pt i))) := hk3
   have nn3 : ¬ ((k3 : Int) < 0) := by omega
   clear hk3
   have d11 : wr.cell? ⟨b, off + z * 13 + 11, none⟩ = some (.slice a4 ((nmVD kk (f z)).hs.length) c4) := HR.out.1 11 _ rfl
   go_wp2_with fail
   refine (heldBoolS_f (f z).hs.length a4 _ c4 (kk + 1 + 1 + 1 + 1 + ctVQ (f z).q + sumN (f z).np (fun i => ctVP ((f z).pt i))) _ _ (by have := HC.out; have := HK0.out; have := HK1.out; have := HK2.out; have := HK3.out; omega) HR.out.2.2.2.2.1 (by have := HC.out; have := HK0.out; have := HK1.out; have := HK2.out; have := HK3.out; omega)).mono ?_
   rintro e w9 ⟨rfl, hw⟩
   have hw := hw.symm
   subst hw
   obtain ⟨k4, hk4⟩ : ∃ k4 : Nat, k4 = kk + 1 + 1 + 1 + 1 + ctVQ (f z).q + sumN (f z).np (fun i => ctVP ((f z).pt i)) + (f z).hs.length := ⟨_, rfl⟩
   rw [<- hk4]
   have HK4 : Hid (k4 = kk + 1 + 1 + 1 + 1 + ctVQ (f z).q + sumN (f z).np (fun i => ctVP ((f z).pt i)) + (f z).hs.length) := hk4
   have nn4 : ¬ ((k4 : Int) < 0) := by omega
   clear hk4
   have d12 : wr.cell? ⟨b, off + z * 13 + 12, none⟩ = some (.slice a5 ((nmVD kk (f z)).nt) c5) := HR.out.1 12 _ rfl
   go_wp2_with fail
   refine (heldRespS_f (f z).nt (f z).tl a5 _ c5 (kk + 1 + 1 + 1 + 1 + ctVQ (f z).q + sumN (f z).np (fun i => ctVP ((f z).pt i)) + (f z).hs.length) _ _ (by have := HC.out; have := HK0.out; have := HK1.out; have := HK2.out; have := HK3.out; have := HK4.out; omega) HR.out.2.2.2.2.2 (by have := HC.out; have := HK0.out; have := HK1.out; have := HK2.out; have := HK3.out; have := HK4.out; omega)).mono ?_
   rintro e w9 ⟨rfl, hw⟩
   have hw := hw.symm
   subst hw
   obtain ⟨k5, hk5⟩ : ∃ k5 : Nat, k5 = kk + 1 + 1 + 1 + 1 + ctVQ (f z).q + sumN (f z).np (fun i => ctVP ((f z).pt i)) + (f z).hs.length + sumN (f z).nt (fun i => ctVA ((f z).tl i)) := ⟨_, rfl⟩
   rw [<- hk5]
   have HK5 : Hid (k5 = kk + 1 + 1 + 1 + 1 + ctVQ (f z).q + sumN (f z).np (fun i => ctVP ((f z).pt i)) + (f z).hs.length + sumN (f z).nt (fun i => ctVA ((f z).tl i))) := hk5
   have nn5 : ¬ ((k5 : Int) < 0) := by omega
   clear hk5
   have HZ : Hid ((k5 : Int) = ((s + sumN (z + 1) (fun i => ctVD (f i)) : Nat) : Int)) := by show _ = _; have := HC.out; have := HK0.out; have := HK1.out; have := HK2.out; have := HK3.out; have := HK4.out; have := HK5.out; omega
   go_wp2
   go_roundw
   case rel => exact ⟨z + 1, by omega, by go_num, congrArg (Value.int .i64) HZ.out, trivial⟩
   case measure => simp [intOf]; omega
  have hi : ¬ (z : Int) < (n' : Int) := by omega
  have e9 : z = n' := by omega
  subst e9
  go_wp2
  go_ret
  exact ⟨rfl, rfl⟩
end Go.Proofs.YtkfgijkkffbpmaaGreat

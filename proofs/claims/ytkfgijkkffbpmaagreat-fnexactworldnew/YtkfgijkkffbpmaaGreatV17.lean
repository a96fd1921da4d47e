/- Texts that the proof needs, joined: Wp5. -/
import Derived.Test.YtkfgijkkffbpmaaGreatV14
import Derived.Test.YtkfgijkkffbpmaaGreatV15
import Derived.Test.YtkfgijkkffbpmaaGreatV16
set_option linter.unusedVariables false
set_option linter.unusedSimpArgs false
set_option maxHeartbeats 8000000
set_option maxRecDepth 20000
namespace Go.Proofs.YtkfgijkkffbpmaaGreat
open Go.RowKit Go.Joins
def nwW (ok : Bool) (wt tr : Int) (n : Nat) (f : Nat -> Ru) (m : Nat) (g : Nat -> VS) : VW := match ok with
 | true => ⟨nwF true wt tr n f, m, g, 0, fun _ => default, 0, fun _ => default, 0, fun _ => default⟩
 | false => ⟨nwF false wt tr n f, 0, g, 0, fun _ => default, 0, fun _ => default, 0, fun _ => default⟩
theorem Own1.no {w : World} {lo hi s : Nat} {f : Nat -> Nat -> Tr} {ts : List Tr} {vs : List Value} (h : Own1 w lo hi ts vs) (hl : lo <= hi) : Own1 w lo hi (.list s 0 f :: ts) (.slice none 0 0 :: vs) := by
 have h0 : Own1 w lo lo [.list s 0 f] [.slice none 0 0] := by
  refine ⟨fun _ => .leaf, rfl, fun i u hv => ?_, fun i hi => ⟨trivial, fun b hb => hb.elim⟩, fun i i' hi hi' hne => ?_⟩
  ·match i, hv with
   | 0, hv => obtain rfl := Option.some.inj (show some (Value.slice none 0 0) = some u from hv); exact fit_no
   | i + 1, hv => simp at hv
  simp only [List.length_cons, List.length_nil] at hi hi'
  omega
 exact h0.app h (Nat.le_refl _) hl
theorem wrW (vs : List Value) (hl : vs.length = 15) : wrA ((#[.int .i64 0, .int .i64 0, .int .i64 0, .slice none 0 0, .int .i64 0, .slice none 0 0, .slice none 0 0, .int .i64 0, .int .i64 0, .int .i64 0, .int .i64 0, .slice none 0 0, .slice none 0 0, .slice none 0 0, .slice none 0 0] : Array Value) : Array Value) 0 vs = vs.toArray := by
 match vs, hl with
 | [v0, v1, v2, v3, v4, v5, v6, v7, v8, v9, v10, v11, v12, v13, v14], _ => simp [wrA]
def NwQ (w w' : World) (e : Ending) (ok : Bool) (wt tr : Int) (n : Nat) (f : Nat -> Ru) (m : Nat) (g : Nat -> VS) : Prop :=
 ∃ a1 c1 a2 c2 a3 c3 a4 c4 a5 c5 a6 c6 a7 c7, e = .returned (.tuple #[.agg (xwL (nwW ok wt tr n f m g) a1 (nwW ok wt tr n f m g).fb.set.n c1 a2 (nwW ok wt tr n f m g).fb.op.m c2 a3 (nwW ok wt tr n f m g).fb.nl c3 a4 (nwW ok wt tr n f m g).ns c4 a5 (nwW ok wt tr n f m g).nk c5 a6 (nwW ok wt tr n f m g).nr c6 a7 (nwW ok wt tr n f m g).ne c7).toArray, .bool ok]) /\ Own1 w' w.heap.size w'.heap.size (xwT (nwW ok wt tr n f m g)) (xwL (nwW ok wt tr n f m g) a1 (nwW ok wt tr n f m g).fb.set.n c1 a2 (nwW ok wt tr n f m g).fb.op.m c2 a3 (nwW ok wt tr n f m g).fb.nl c3 a4 (nwW ok wt tr n f m g).ns c4 a5 (nwW ok wt tr n f m g).nk c5 a6 (nwW ok wt tr n f m g).nr c6 a7 (nwW ok wt tr n f m g).ne c7) /\ Below w.heap.size w w'
def NwS (w w' : World) (e : Ending) (ok : Bool) (wt tr : Int) (n : Nat) (f : Nat -> Ru) (m : Nat) (g : Nat -> VS) : Prop :=
 ∃ a1 c1 a2 c2 a3 c3 a4 c4 a5 c5 a6 c6 a7 c7, e = .returned (.tuple #[.agg (xwL (nwW ok wt tr n f m g) a1 (nwW ok wt tr n f m g).fb.set.n c1 a2 (nwW ok wt tr n f m g).fb.op.m c2 a3 (nwW ok wt tr n f m g).fb.nl c3 a4 (nwW ok wt tr n f m g).ns c4 a5 (nwW ok wt tr n f m g).nk c5 a6 (nwW ok wt tr n f m g).nr c6 a7 (nwW ok wt tr n f m g).ne c7).toArray, .bool ok]) /\ Rd w' 0 (.list 7 (nwW ok wt tr n f m g).fb.set.n (fun i => trs (xrT ((nwW ok wt tr n f m g).fb.set.f i)))) (.slice a1 (nwW ok wt tr n f m g).fb.set.n c1) /\ Rd w' 0 (.list 13 (nwW ok wt tr n f m g).fb.op.m (fun i => trs (dT ((nwW ok wt tr n f m g).fb.op.f i)))) (.slice a2 (nwW ok wt tr n f m g).fb.op.m c2) /\ Rd w' 0 (.list 17 (nwW ok wt tr n f m g).fb.nl (fun i => trs (xnT ((nwW ok wt tr n f m g).fb.lf i)))) (.slice a3 (nwW ok wt tr n f m g).fb.nl c3) /\ Rd w' 0 (.list 6 (nwW ok wt tr n f m g).ns (fun i => trs (xsT ((nwW ok wt tr n f m g).sf i)))) (.slice a4 (nwW ok wt tr n f m g).ns c4) /\ Rd w' 0 (.list 16 (nwW ok wt tr n f m g).nk (fun i => trs (xkT ((nwW ok wt tr n f m g).kf i)))) (.slice a5 (nwW ok wt tr n f m g).nk c5) /\ Rd w' 0 (.list 16 (nwW ok wt tr n f m g).nr (fun i => trs (xyT ((nwW ok wt tr n f m g).rf i)))) (.slice a6 (nwW ok wt tr n f m g).nr c6) /\ Rd w' 0 (.list 15 (nwW ok wt tr n f m g).ne (fun i => trs (xeT ((nwW ok wt tr n f m g).ef i)))) (.slice a7 (nwW ok wt tr n f m g).ne c7) /\ Below w.heap.size w w'
theorem zeroW (w : World) (lo hi : Nat) (hl : lo <= hi) (wt tr : Int) (n : Nat) (f : Nat -> Ru) (m : Nat) (g : Nat -> VS) : Own1 w lo hi (xwT (nwW false wt tr n f m g)) [.int .i64 0, .int .i64 0, .int .i64 0, .slice none 0 0, .int .i64 0, .slice none 0 0, .slice none 0 0, .int .i64 0, .int .i64 0, .int .i64 0, .int .i64 0, .slice none 0 0, .slice none 0 0, .slice none 0 0, .slice none 0 0] :=
 Own1.leaf (.int .i64 0) (Own1.leaf (.int .i64 0) (Own1.leaf (.int .i64 0) (Own1.no (Own1.leaf (.int .i64 0) (Own1.no (Own1.no (Own1.leaf (.int .i64 0) (Own1.leaf (.int .i64 0) (Own1.leaf (.int .i64 0) (Own1.leaf (.int .i64 0) (Own1.no (Own1.no (Own1.no (Own1.no (Own1.nil w lo hi) hl) hl) hl) hl) hl) hl) hl) hl) hl) hl) hl) hl) hl) hl) hl
theorem row_rdB {w : World} {base s n : Nat} {e : TypeId} {v : Value} {xs : List Value} {T : Nat -> Nat -> Tr} (h : w.ownsRow base e s v n xs) (F : Nat -> List Value) (hF : ∀ k, k < n -> (F k).length = s /\ ∀ j, j < s -> xs[k * s + j]? = (F k)[j]?) (hT : ∀ k, k < n -> ∀ j x, (F k)[j]? = some x -> Rd w base (T k j) x) : Rd w base (.list s n T) v := by
 rcases h.2 with ⟨rfl, rfl⟩ | ⟨g, cap, cur, rfl, hb, hh, hle, hm, hs, ht⟩
 ·exact ⟨none, 0, rfl, Nat.le_refl _, Nat.zero_le _, .inl rfl⟩
 have hlt : g < w.heap.size := (Array.getElem?_eq_some_iff.1 hh).1
 refine ⟨_, cap, rfl, hle, by omega, .inr ⟨g, 0, F, rfl, hb, hlt, fun k hk => ⟨(hF k hk).1, fun j u hj => ⟨?_, hT k hk j u hj⟩⟩⟩⟩
 have hj6 : j < s := by have := (List.getElem?_eq_some_iff.1 hj).1; rw [(hF k hk).1] at this; exact this
 have hkl : k * s + j < n * s := by
  have : (k + 1) * s <= n * s := Nat.mul_le_mul_right s hk
  rw [Nat.add_mul, Nat.one_mul] at this
  omega
 rw [Nat.zero_add, <- hj, <- (hF k hk).2 j hj6, <- ht, List.getElem?_take, if_pos hkl, Array.getElem?_toList]
 simp [World.cell?, hh]
theorem fbS_rdB {w w' : World} {e : Ending} {ok : Bool} {wt tr : Int} {n : Nat} {f : Nat -> Ru} (h : FbS w w' e ok wt tr n f) :
 ∃ a1 c1 a2 c2 a3 c3, e = .returned (.agg (xfL (nwF ok wt tr n f) a1 (nwF ok wt tr n f).set.n c1 a2 (nwF ok wt tr n f).op.m c2 a3 (nwF ok wt tr n f).nl c3).toArray) /\ Rd w' w.heap.size (.list 7 (nwF ok wt tr n f).set.n (fun i => trs (xrT ((nwF ok wt tr n f).set.f i)))) (.slice a1 (nwF ok wt tr n f).set.n c1) /\ Rd w' w.heap.size (.list 13 (nwF ok wt tr n f).op.m (fun i => trs (dT ((nwF ok wt tr n f).op.f i)))) (.slice a2 (nwF ok wt tr n f).op.m c2) /\ Rd w' w.heap.size (.list 17 (nwF ok wt tr n f).nl (fun i => trs (xnT ((nwF ok wt tr n f).lf i)))) (.slice a3 (nwF ok wt tr n f).nl c3) /\ Below w.heap.size w w' := by
 obtain ⟨hb, ⟨rfl, he⟩ | ⟨rfl, a1, c1, a3, c3, he, rU, rL⟩⟩ := h
 ·exact ⟨none, 0, none, 0, none, 0, he, rd_no, rd_no, rd_no, hb⟩
 refine ⟨a1, c1, none, 0, a3, c3, he, ?_, rd_no, ?_, hb⟩
 ·refine row_rdB rU (fun k => rul (f k)) (fun k hk => ⟨rfl, fun j hj => flatS_at (F := fun k => rul (f k)) hk hj rfl⟩) (fun k hk j x hx => ?_)
  match j, hx with
  | 0, hx => obtain rfl := Option.some.inj (show some _ = some x from hx); rfl
  | 1, hx => obtain rfl := Option.some.inj (show some _ = some x from hx); rfl
  | 2, hx => obtain rfl := Option.some.inj (show some _ = some x from hx); rfl
  | 3, hx => obtain rfl := Option.some.inj (show some _ = some x from hx); rfl
  | 4, hx => obtain rfl := Option.some.inj (show some _ = some x from hx); rfl
  | 5, hx => obtain rfl := Option.some.inj (show some _ = some x from hx); rfl
  | 6, hx => obtain rfl := Option.some.inj (show some _ = some x from hx); rfl
  | j + 7, hx => simp at hx
 refine row_rdB rL (fun _ => lnL wt tr) (fun k hk => ⟨rfl, fun j hj => lnsX_at wt tr 6 k j hk hj⟩) (fun k hk j x hx => ?_)
 match j, hx with
 | 0, hx => obtain rfl := Option.some.inj (show some _ = some x from hx); exact rd_no
 | 1, hx => obtain rfl := Option.some.inj (show some _ = some x from hx); exact rfl
 | 2, hx => obtain rfl := Option.some.inj (show some _ = some x from hx); exact rfl
 | 3, hx => obtain rfl := Option.some.inj (show some _ = some x from hx); exact rfl
 | 4, hx => obtain rfl := Option.some.inj (show some _ = some x from hx); exact rfl
 | 5, hx => obtain rfl := Option.some.inj (show some _ = some x from hx); exact rfl
 | 6, hx => obtain rfl := Option.some.inj (show some _ = some x from hx); exact rfl
 | 7, hx => obtain rfl := Option.some.inj (show some _ = some x from hx); exact rfl
 | 8, hx => obtain rfl := Option.some.inj (show some _ = some x from hx); exact rd_no
 | 9, hx => obtain rfl := Option.some.inj (show some _ = some x from hx); exact rd_no
 | 10, hx => obtain rfl := Option.some.inj (show some _ = some x from hx); exact rfl
 | 11, hx => obtain rfl := Option.some.inj (show some _ = some x from hx); exact rfl
 | 12, hx => obtain rfl := Option.some.inj (show some _ = some x from hx); exact rfl
 | 13, hx => obtain rfl := Option.some.inj (show some _ = some x from hx); exact rfl
 | 14, hx => obtain rfl := Option.some.inj (show some _ = some x from hx); exact rfl
 | 15, hx => obtain rfl := Option.some.inj (show some _ = some x from hx); exact rfl
 | 16, hx => obtain rfl := Option.some.inj (show some _ = some x from hx); exact rfl
 | j + 17, hx => simp at hx
theorem implWorldNew_any (wt tr : Int) (a : Option Addr) (n cap : Nat) (f : Nat -> Ru) (w : World) (hs : SlU w a n f) (hl : n <= 1048576) (h64 : ∀ k, k < n -> -9223372036854775808 <= (f k).sh /\ (f k).sh <= 9223372036854775807) (b : Bool) (hb : b = true ↔ OkRs f n) (m : Nat) (g : Nat -> VS) (a' : Option Addr) (cap' : Nat) (hp : Rd w 0 (.list 6 m (fun i => trs (xsT (g i)))) (.slice a' m cap')) (hz : (Tr.list 6 m (fun i => trs (xsT (g i)))).sz <= 1048576) :
 Calls Tryz.prog 28 #[.agg (cfc wt tr a n cap), .slice a' m cap'] w fun e w' => NwQ w w' e (okC wt tr b && okPs m g) wt tr n f m g := by
 obtain ⟨x0, hx0⟩ : ∃ x, okC wt tr b = x := ⟨_, rfl⟩
 obtain ⟨x1, hx1⟩ : ∃ x, okPs m g = x := ⟨_, rfl⟩
 have hm1 : m <= 1048576 := by rw [Tr.sz_list] at hz; omega
 have hz4 : ∀ k, k < m -> szT 4 (trs (xdT (g k).d)) <= 1048576 := by
  intro k hk
  rw [Tr.sz_list] at hz
  have h8 := sumN_at (fun k => szT 6 (trs (xsT (g k)))) hk
  have h7 : szT 6 (trs (xsT (g k))) = szT 4 (trs (xdT (g k).d)) := by rw [szT_xs, szT_xd]
  omega
 obtain ⟨B, hB⟩ : ∃ B, B = w.heap.size := ⟨_, rfl⟩
 obtain ⟨W, hW⟩ : ∃ W, W = (w.alloc (.cells (cfc wt tr a n cap) 35)).alloc (.cells (#[.int .i64 0, .int .i64 0, .int .i64 0, .slice none 0 0, .int .i64 0, .slice none 0 0, .slice none 0 0, .int .i64 0, .int .i64 0, .int .i64 0, .int .i64 0, .slice none 0 0, .slice none 0 0, .slice none 0 0, .slice none 0 0] : Array Value) 62) := ⟨_, rfl⟩
 have bW : Below w.heap.size w W := by rw [hW]; exact bel_next (bel_alloc w _) (bel_alloc _ _)
 have A0 : Blk W B 35 (cfc wt tr a n cap) := by rw [hW, hB]; exact (Blk.new w _ _).below (bel_alloc _ _)
 have R0 : Blk W (B + 1) 62 (#[.int .i64 0, .int .i64 0, .int .i64 0, .slice none 0 0, .int .i64 0, .slice none 0 0, .slice none 0 0, .int .i64 0, .int .i64 0, .int .i64 0, .int .i64 0, .slice none 0 0, .slice none 0 0, .slice none 0 0, .slice none 0 0] : Array Value) := by
  rw [hW, hB]; have := Blk.new (w.alloc (.cells (cfc wt tr a n cap) 35)) (#[.int .i64 0, .int .i64 0, .int .i64 0, .slice none 0 0, .int .i64 0, .slice none 0 0, .slice none 0 0, .int .i64 0, .int .i64 0, .int .i64 0, .int .i64 0, .slice none 0 0, .slice none 0 0, .slice none 0 0, .slice none 0 0] : Array Value) 62; simpa using this
 have hsz : W.heap.size = B + 1 + 1 := by rw [hW, hB]; simp
 have H0 : Hid (SlU W a n f /\ Below w.heap.size w W /\ Blk W B 35 (cfc wt tr a n cap) /\ Blk W (B + 1) 62 (#[.int .i64 0, .int .i64 0, .int .i64 0, .slice none 0 0, .int .i64 0, .slice none 0 0, .slice none 0 0, .int .i64 0, .int .i64 0, .int .i64 0, .int .i64 0, .slice none 0 0, .slice none 0 0, .slice none 0 0, .slice none 0 0] : Array Value) /\ w.heap.size = B /\ W.heap.size = B + 1 + 1 /\ Rd W 0 (.list 6 m (fun i => trs (xsT (g i)))) (.slice a' m cap')) := ⟨SlS.below hs bW, bW, A0, R0, hB.symm, hsz, hp.below bW⟩
 have HC : Hid (okC wt tr b = x0 /\ okPs m g = x1 /\ (b = true ↔ OkRs f n) /\ n <= 2000000 /\ (∀ k, k < m -> szT 4 (trs (xdT (g k).d)) <= 1048576) /\ (Tr.list 6 m (fun i => trs (xsT (g i)))).sz <= 1048576 /\ m <= 2000000 /\ (∀ k, k < n -> -9223372036854775808 <= (f k).sh /\ (f k).sh <= 9223372036854775807)) := ⟨hx0, hx1, hb, by omega, hz4, hz, by omega, h64⟩
 have hm2 : m <= 1048576 := hm1
 rw [hx0, hx1]
 obtain ⟨⟨y0, y1, y2⟩, _⟩ := A0.thr
 clear hs bW A0 R0 hx0 hx1 hb hp hz hz4 hsz h64
 go_enter Tryz.func28, Tryz.ntmps28
 go_upto_region 1 with fail
 have hB1 : w.heap.size + 1 = B + 1 := by omega
 rw [<- hW, hB1, <- hB]
 clear hW hB hB1
 go_wp2_with fail
 refine (implConfigOk_any wt tr a n cap f _ H0.out.1 HC.out.2.2.2.1 HC.out.2.2.2.2.2.2.2 b HC.out.2.2.1).mono ?_
 rintro e w1 ⟨rfl, b1⟩
 rw [HC.out.1]
 have H1 : Hid (Below w.heap.size w w1 /\ Below W.heap.size W w1) := ⟨bel_nx H0.out.2.1 b1, b1⟩
 clear b1 y0 y1 y2
 cases x0
 case false =>
  have K9 : Blk w1 (B + 1) 62 (#[.int .i64 0, .int .i64 0, .int .i64 0, .slice none 0 0, .int .i64 0, .slice none 0 0, .slice none 0 0, .int .i64 0, .int .i64 0, .int .i64 0, .int .i64 0, .slice none 0 0, .slice none 0 0, .slice none 0 0, .slice none 0 0] : Array Value) := H0.out.2.2.2.1.below H1.out.2
  go_upto_region 2 with fail
  refine wp_region_lit ?_
  refine wpList_build_any rfl 62 #[] rfl #[] (by simp) (.agg (#[.int .i64 0, .int .i64 0, .int .i64 0, .slice none 0 0, .int .i64 0, .slice none 0 0, .slice none 0 0, .int .i64 0, .int .i64 0, .int .i64 0, .int .i64 0, .slice none 0 0, .slice none 0 0, .slice none 0 0, .slice none 0 0] : Array Value)) (by kernel_rfl) ?_
  refine wpList_store_mid rfl 62 (.tmp 4) (.tmp 14) rfl (B + 1) 0 (#[.int .i64 0, .int .i64 0, .int .i64 0, .slice none 0 0, .int .i64 0, .slice none 0 0, .slice none 0 0, .int .i64 0, .int .i64 0, .int .i64 0, .int .i64 0, .slice none 0 0, .slice none 0 0, .slice none 0 0, .slice none 0 0] : Array Value) rfl rfl (K9.there 0 15 (by simp)) (by kernel_rfl) (by simp [Value.oneCell']) ?_
  rw [setCells_L]
  obtain ⟨W9, hW9⟩ : ∃ W9, W9 = setL w1 (B + 1) 0 [.int .i64 0, .int .i64 0, .int .i64 0, .slice none 0 0, .int .i64 0, .slice none 0 0, .slice none 0 0, .int .i64 0, .int .i64 0, .int .i64 0, .int .i64 0, .slice none 0 0, .slice none 0 0, .slice none 0 0, .slice none 0 0] := ⟨_, rfl⟩
  have H9 : Hid (Below w.heap.size w W9 /\ w.heap.size <= W9.heap.size /\ Blk W9 (B + 1) 62 (#[.int .i64 0, .int .i64 0, .int .i64 0, .slice none 0 0, .int .i64 0, .slice none 0 0, .slice none 0 0, .int .i64 0, .int .i64 0, .int .i64 0, .int .i64 0, .slice none 0 0, .slice none 0 0, .slice none 0 0, .slice none 0 0] : Array Value)) := by
   have b9 : Below w.heap.size w W9 := by rw [hW9]; exact setL_below (by have := H0.out.2.2.2.2.1; omega) _ _ _ (bel_nx H0.out.2.1 H1.out.2)
   exact ⟨b9, b9.size, by rw [hW9]; have := Blk.stL [.int .i64 0, .int .i64 0, .int .i64 0, .slice none 0 0, .int .i64 0, .slice none 0 0, .slice none 0 0, .int .i64 0, .int .i64 0, .int .i64 0, .int .i64 0, .slice none 0 0, .slice none 0 0, .slice none 0 0, .slice none 0 0] 0 K9; rw [wrW _ rfl] at this; exact this⟩
  rw [show setL w1 (B + 1) 0 ((#[.int .i64 0, .int .i64 0, .int .i64 0, .slice none 0 0, .int .i64 0, .slice none 0 0, .slice none 0 0, .int .i64 0, .int .i64 0, .int .i64 0, .int .i64 0, .slice none 0 0, .slice none 0 0, .slice none 0 0, .slice none 0 0] : Array Value) : Array Value).toList = W9 from hW9.symm]
  clear hW9 K9
  go_wp2
  refine bodyPost_ret (v := .tuple #[.agg (#[.int .i64 0, .int .i64 0, .int .i64 0, .slice none 0 0, .int .i64 0, .slice none 0 0, .slice none 0 0, .int .i64 0, .int .i64 0, .int .i64 0, .int .i64 0, .slice none 0 0, .slice none 0 0, .slice none 0 0, .slice none 0 0] : Array Value), .bool false]) (results_cell1 Tryz.results28 rfl rfl (run_loadVar_mid _ _ _ 62 [.int .i64 0, .int .i64 0, .int .i64 0, .slice none 0 0, .int .i64 0, .slice none 0 0, .slice none 0 0, .int .i64 0, .int .i64 0, .int .i64 0, .int .i64 0, .slice none 0 0, .slice none 0 0, .slice none 0 0, .slice none 0 0] _ H9.out.2.2.all Tryz.underlying62 rfl (by kernel_rfl))) rfl ?_
  exact ⟨none, 0, none, 0, none, 0, none, 0, none, 0, none, 0, none, 0, rfl, zeroW _ _ _ H9.out.2.1 wt tr n f m g, H9.out.1⟩
 go_wp2_with fail
 refine (implPostsRight_any m g a' cap' _ (H0.out.2.2.2.2.2.2.below H1.out.2) HC.out.2.2.2.2.2.2.1 HC.out.2.2.2.2.1).mono ?_
 rintro e w2 ⟨rfl, b2⟩
 rw [HC.out.2.1]
 have H2 : Hid (Below w.heap.size w w2 /\ Below W.heap.size W w2) := ⟨bel_nx H1.out.1 b2, bel_nx H1.out.2 b2⟩
 clear b2
 cases x1
 case false =>
  have K9 : Blk w2 (B + 1) 62 (#[.int .i64 0, .int .i64 0, .int .i64 0, .slice none 0 0, .int .i64 0, .slice none 0 0, .slice none 0 0, .int .i64 0, .int .i64 0, .int .i64 0, .int .i64 0, .slice none 0 0, .slice none 0 0, .slice none 0 0, .slice none 0 0] : Array Value) := H0.out.2.2.2.1.below H2.out.2
  go_upto_region 2 with fail
  refine wp_region_lit ?_
  refine wpList_build_any rfl 62 #[] rfl #[] (by simp) (.agg (#[.int .i64 0, .int .i64 0, .int .i64 0, .slice none 0 0, .int .i64 0, .slice none 0 0, .slice none 0 0, .int .i64 0, .int .i64 0, .int .i64 0, .int .i64 0, .slice none 0 0, .slice none 0 0, .slice none 0 0, .slice none 0 0] : Array Value)) (by kernel_rfl) ?_
  refine wpList_store_mid rfl 62 (.tmp 4) (.tmp 14) rfl (B + 1) 0 (#[.int .i64 0, .int .i64 0, .int .i64 0, .slice none 0 0, .int .i64 0, .slice none 0 0, .slice none 0 0, .int .i64 0, .int .i64 0, .int .i64 0, .int .i64 0, .slice none 0 0, .slice none 0 0, .slice none 0 0, .slice none 0 0] : Array Value) rfl rfl (K9.there 0 15 (by simp)) (by kernel_rfl) (by simp [Value.oneCell']) ?_
  rw [setCells_L]
  obtain ⟨W9, hW9⟩ : ∃ W9, W9 = setL w2 (B + 1) 0 [.int .i64 0, .int .i64 0, .int .i64 0, .slice none 0 0, .int .i64 0, .slice none 0 0, .slice none 0 0, .int .i64 0, .int .i64 0, .int .i64 0, .int .i64 0, .slice none 0 0, .slice none 0 0, .slice none 0 0, .slice none 0 0] := ⟨_, rfl⟩
  have H9 : Hid (Below w.heap.size w W9 /\ w.heap.size <= W9.heap.size /\ Blk W9 (B + 1) 62 (#[.int .i64 0, .int .i64 0, .int .i64 0, .slice none 0 0, .int .i64 0, .slice none 0 0, .slice none 0 0, .int .i64 0, .int .i64 0, .int .i64 0, .int .i64 0, .slice none 0 0, .slice none 0 0, .slice none 0 0, .slice none 0 0] : Array Value)) := by
   have b9 : Below w.heap.size w W9 := by rw [hW9]; exact setL_below (by have := H0.out.2.2.2.2.1; omega) _ _ _ (bel_nx H0.out.2.1 H2.out.2)
   exact ⟨b9, b9.size, by rw [hW9]; have := Blk.stL [.int .i64 0, .int .i64 0, .int .i64 0, .slice none 0 0, .int .i64 0, .slice none 0 0, .slice none 0 0, .int .i64 0, .int .i64 0, .int .i64 0, .int .i64 0, .slice none 0 0, .slice none 0 0, .slice none 0 0, .slice none 0 0] 0 K9; rw [wrW _ rfl] at this; exact this⟩
  rw [show setL w2 (B + 1) 0 ((#[.int .i64 0, .int .i64 0, .int .i64 0, .slice none 0 0, .int .i64 0, .slice none 0 0, .slice none 0 0, .int .i64 0, .int .i64 0, .int .i64 0, .int .i64 0, .slice none 0 0, .slice none 0 0, .slice none 0 0, .slice none 0 0] : Array Value) : Array Value).toList = W9 from hW9.symm]
  clear hW9 K9
  go_wp2
  refine bodyPost_ret (v := .tuple #[.agg (#[.int .i64 0, .int .i64 0, .int .i64 0, .slice none 0 0, .int .i64 0, .slice none 0 0, .slice none 0 0, .int .i64 0, .int .i64 0, .int .i64 0, .int .i64 0, .slice none 0 0, .slice none 0 0, .slice none 0 0, .slice none 0 0] : Array Value), .bool false]) (results_cell1 Tryz.results28 rfl rfl (run_loadVar_mid _ _ _ 62 [.int .i64 0, .int .i64 0, .int .i64 0, .slice none 0 0, .int .i64 0, .slice none 0 0, .slice none 0 0, .int .i64 0, .int .i64 0, .int .i64 0, .int .i64 0, .slice none 0 0, .slice none 0 0, .slice none 0 0, .slice none 0 0] _ H9.out.2.2.all Tryz.underlying62 rfl (by kernel_rfl))) rfl ?_
  exact ⟨none, 0, none, 0, none, 0, none, 0, none, 0, none, 0, none, 0, rfl, zeroW _ _ _ H9.out.2.1 wt tr n f m g, H9.out.1⟩
 obtain ⟨⟨y0, y1, y2⟩, _⟩ := (H0.out.2.2.1.below H2.out.2).thr
 go_wp2_with fail
 refine (implFabricNew_any wt tr a n cap f _ (SlS.below H0.out.1 H2.out.2) HC.out.2.2.2.1 HC.out.2.2.2.2.2.2.2 b HC.out.2.2.1).mono ?_
 rintro e w3 h3
 rw [HC.out.1] at h3
 have hn24 : true = true -> n <= 24 := fun _ => by
  have h9 := HC.out.1
  unfold okC at h9
  rw [Bool.and_eq_true] at h9
  exact (HC.out.2.2.1.1 h9.2).1
 obtain ⟨a1, c1, a2, c2, a3, c3, rfl, o3, b3⟩ := fbQ_own h3 hn24
 have H3 : Hid (Below w.heap.size w w3 /\ Below W.heap.size W w3 /\ w2.heap.size <= w3.heap.size /\ W.heap.size <= w2.heap.size /\ Own1 w3 w2.heap.size w3.heap.size (xfT (nwF true wt tr n f)) (xfL (nwF true wt tr n f) a1 (nwF true wt tr n f).set.n c1 a2 (nwF true wt tr n f).op.m c2 a3 (nwF true wt tr n f).nl c3)) := ⟨bel_nx H2.out.1 b3, bel_nx H2.out.2 b3, b3.size, H2.out.2.size, o3⟩
 clear h3 b3 y0 y1 y2 o3 hn24
 go_wp2_with fail
 refine (copiesPost_m m g a' m cap' _ (H0.out.2.2.2.2.2.2.below H3.out.2.1) HC.out.2.2.2.2.2.1).mono ?_
 rintro e w4 ⟨a4, c4, rfl, o4, b4⟩
 rename_i hK
 refine hK _ _ ?_
 clear hK
 have K9 : Blk w4 (B + 1) 62 (#[.int .i64 0, .int .i64 0, .int .i64 0, .slice none 0 0, .int .i64 0, .slice none 0 0, .slice none 0 0, .int .i64 0, .int .i64 0, .int .i64 0, .int .i64 0, .slice none 0 0, .slice none 0 0, .slice none 0 0, .slice none 0 0] : Array Value) := (H0.out.2.2.2.1.below H3.out.2.1).below b4
 refine wpList_build_any rfl 62 #[(0, .tmp 16), (1, .tmp 18)] rfl #[(0, .agg (xfL (nwF true wt tr n f) a1 (nwF true wt tr n f).set.n c1 a2 (nwF true wt tr n f).op.m c2 a3 (nwF true wt tr n f).nl c3).toArray), (1, .slice a4 m c4)] (by simp; exact ⟨rfl, rfl⟩) (.agg (xwL (nwW true wt tr n f m g) a1 (nwW true wt tr n f m g).fb.set.n c1 a2 (nwW true wt tr n f m g).fb.op.m c2 a3 (nwW true wt tr n f m g).fb.nl c3 a4 (nwW true wt tr n f m g).ns c4 none 0 0 none 0 0 none 0 0).toArray) (by kernel_rfl) ?_
 refine wpList_store_mid rfl 62 (.tmp 4) (.tmp 19) rfl (B + 1) 0 (xwL (nwW true wt tr n f m g) a1 (nwW true wt tr n f m g).fb.set.n c1 a2 (nwW true wt tr n f m g).fb.op.m c2 a3 (nwW true wt tr n f m g).fb.nl c3 a4 (nwW true wt tr n f m g).ns c4 none 0 0 none 0 0 none 0 0).toArray rfl rfl (K9.there 0 15 (by simp)) (by kernel_rfl) (by simp [Value.oneCell']) ?_
 rw [setCells_L]
 obtain ⟨W9, hW9⟩ : ∃ W9, W9 = setL w4 (B + 1) 0 (xwL (nwW true wt tr n f m g) a1 (nwW true wt tr n f m g).fb.set.n c1 a2 (nwW true wt tr n f m g).fb.op.m c2 a3 (nwW true wt tr n f m g).fb.nl c3 a4 (nwW true wt tr n f m g).ns c4 none 0 0 none 0 0 none 0 0) := ⟨_, rfl⟩
 have hg : w4.grownBy W9 (some (B + 1)) := by rw [hW9]; exact setL_gw _ _ _
 have b9 : Below w.heap.size w W9 := by rw [hW9]; exact setL_below (by have := H0.out.2.2.2.2.1; omega) _ _ _ (bel_nx H3.out.1 b4)
 have k9 : Blk W9 (B + 1) 62 (xwL (nwW true wt tr n f m g) a1 (nwW true wt tr n f m g).fb.set.n c1 a2 (nwW true wt tr n f m g).fb.op.m c2 a3 (nwW true wt tr n f m g).fb.nl c3 a4 (nwW true wt tr n f m g).ns c4 none 0 0 none 0 0 none 0 0).toArray := by rw [hW9]; have := Blk.stL (xwL (nwW true wt tr n f m g) a1 (nwW true wt tr n f m g).fb.set.n c1 a2 (nwW true wt tr n f m g).fb.op.m c2 a3 (nwW true wt tr n f m g).fb.nl c3 a4 (nwW true wt tr n f m g).ns c4 none 0 0 none 0 0 none 0 0) 0 K9; rw [wrW _ rfl] at this; exact this
 have hs9 : w.heap.size = B /\ W.heap.size = B + 1 + 1 := ⟨H0.out.2.2.2.2.1, H0.out.2.2.2.2.2.1⟩
 have hs8 := H3.out.2.2.1
 have hs7 := H3.out.2.2.2.1
 have hs6 := b4.size
 have hs5 := hg.size
 have H9 : Hid (Own1 W9 w.heap.size W9.heap.size (xwT (nwW true wt tr n f m g)) (xwL (nwW true wt tr n f m g) a1 (nwW true wt tr n f m g).fb.set.n c1 a2 (nwW true wt tr n f m g).fb.op.m c2 a3 (nwW true wt tr n f m g).fb.nl c3 a4 (nwW true wt tr n f m g).ns c4 none 0 0 none 0 0 none 0 0) /\ Below w.heap.size w W9 /\ Blk W9 (B + 1) 62 (xwL (nwW true wt tr n f m g) a1 (nwW true wt tr n f m g).fb.set.n c1 a2 (nwW true wt tr n f m g).fb.op.m c2 a3 (nwW true wt tr n f m g).fb.nl c3 a4 (nwW true wt tr n f m g).ns c4 none 0 0 none 0 0 none 0 0).toArray) := by
  have q1 := ((H3.out.2.2.2.2.below b4 (Nat.le_refl _)).kept hg (by omega) (by omega)).mono (lo' := w.heap.size) (by omega) (Nat.le_refl _)
  have q2 := ((Own1.one o4).kept hg (by omega) (Nat.le_refl _)).mono (Nat.le_refl _) hs5
  have q3 : Own1 W9 W9.heap.size W9.heap.size [.list 16 0 (fun i => trs (xkT (default : VK))), .list 16 0 (fun i => trs (xyT (default : VR))), .list 15 0 (fun i => trs (xeT (default : VE)))] [.slice none 0 0, .slice none 0 0, .slice none 0 0] := ((Own1.nil W9 _ _).no (Nat.le_refl _)).no (Nat.le_refl _) |>.no (Nat.le_refl _)
  exact ⟨(q1.app q2 (by omega) (by omega)).app q3 (by omega) (Nat.le_refl _), b9, k9⟩
 rw [show setL w4 (B + 1) 0 ((xwL (nwW true wt tr n f m g) a1 (nwW true wt tr n f m g).fb.set.n c1 a2 (nwW true wt tr n f m g).fb.op.m c2 a3 (nwW true wt tr n f m g).fb.nl c3 a4 (nwW true wt tr n f m g).ns c4 none 0 0 none 0 0 none 0 0).toArray : Array Value).toList = W9 from hW9.symm]
 clear hW9 K9 hg b9 k9 hs9 hs8 hs7 hs6 hs5 o4 b4
 go_wp2
 refine bodyPost_ret (v := .tuple #[.agg (xwL (nwW true wt tr n f m g) a1 (nwW true wt tr n f m g).fb.set.n c1 a2 (nwW true wt tr n f m g).fb.op.m c2 a3 (nwW true wt tr n f m g).fb.nl c3 a4 (nwW true wt tr n f m g).ns c4 none 0 0 none 0 0 none 0 0).toArray, .bool true]) (results_cell1 Tryz.results28 rfl rfl (run_loadVar_mid _ _ _ 62 (xwL (nwW true wt tr n f m g) a1 (nwW true wt tr n f m g).fb.set.n c1 a2 (nwW true wt tr n f m g).fb.op.m c2 a3 (nwW true wt tr n f m g).fb.nl c3 a4 (nwW true wt tr n f m g).ns c4 none 0 0 none 0 0 none 0 0) _ H9.out.2.2.all Tryz.underlying62 rfl (by kernel_rfl))) rfl ?_
 exact ⟨a1, c1, a2, c2, a3, c3, a4, c4, none, 0, none, 0, none, 0, rfl, H9.out.1, H9.out.2.1⟩
theorem specWorldNew_any (wt tr : Int) (a : Option Addr) (n cap : Nat) (f : Nat -> Ru) (w : World) (hs : SlU w a n f) (hl : n <= 1048576) (b : Bool) (hb : b = true ↔ OkRs f n) (m : Nat) (g : Nat -> VS) (a' : Option Addr) (cap' : Nat) (hp : Rd w 0 (.list 6 m (fun i => trs (xsT (g i)))) (.slice a' m cap')) (hz : (Tr.list 6 m (fun i => trs (xsT (g i)))).sz <= 1048576) :
 Calls Tryz.prog 25 #[.agg (cfc wt tr a n cap), .slice a' m cap'] w fun e w' => NwS w w' e (okC wt tr b && okPs m g) wt tr n f m g := by
 obtain ⟨x0, hx0⟩ : ∃ x, okC wt tr b = x := ⟨_, rfl⟩
 obtain ⟨x1, hx1⟩ : ∃ x, okPs m g = x := ⟨_, rfl⟩
 have hm1 : m <= 1048576 := by rw [Tr.sz_list] at hz; omega
 have hz4 : ∀ k, k < m -> szT 4 (trs (xdT (g k).d)) <= 1048576 := by
  intro k hk
  rw [Tr.sz_list] at hz
  have h8 := sumN_at (fun k => szT 6 (trs (xsT (g k)))) hk
  have h7 : szT 6 (trs (xsT (g k))) = szT 4 (trs (xdT (g k).d)) := by rw [szT_xs, szT_xd]
  omega
 obtain ⟨B, hB⟩ : ∃ B, B = w.heap.size := ⟨_, rfl⟩
 obtain ⟨W, hW⟩ : ∃ W, W = (w.alloc (.cells (cfc wt tr a n cap) 35)).alloc (.cells (#[.int .i64 0, .int .i64 0, .int .i64 0, .slice none 0 0, .int .i64 0, .slice none 0 0, .slice none 0 0, .int .i64 0, .int .i64 0, .int .i64 0, .int .i64 0, .slice none 0 0, .slice none 0 0, .slice none 0 0, .slice none 0 0] : Array Value) 62) := ⟨_, rfl⟩
 have bW : Below w.heap.size w W := by rw [hW]; exact bel_next (bel_alloc w _) (bel_alloc _ _)
 have A0 : Blk W B 35 (cfc wt tr a n cap) := by rw [hW, hB]; exact (Blk.new w _ _).below (bel_alloc _ _)
 have R0 : Blk W (B + 1) 62 (#[.int .i64 0, .int .i64 0, .int .i64 0, .slice none 0 0, .int .i64 0, .slice none 0 0, .slice none 0 0, .int .i64 0, .int .i64 0, .int .i64 0, .int .i64 0, .slice none 0 0, .slice none 0 0, .slice none 0 0, .slice none 0 0] : Array Value) := by
  rw [hW, hB]; have := Blk.new (w.alloc (.cells (cfc wt tr a n cap) 35)) (#[.int .i64 0, .int .i64 0, .int .i64 0, .slice none 0 0, .int .i64 0, .slice none 0 0, .slice none 0 0, .int .i64 0, .int .i64 0, .int .i64 0, .int .i64 0, .slice none 0 0, .slice none 0 0, .slice none 0 0, .slice none 0 0] : Array Value) 62; simpa using this
 have hsz : W.heap.size = B + 1 + 1 := by rw [hW, hB]; simp
 have H0 : Hid (SlU W a n f /\ Below w.heap.size w W /\ Blk W B 35 (cfc wt tr a n cap) /\ Blk W (B + 1) 62 (#[.int .i64 0, .int .i64 0, .int .i64 0, .slice none 0 0, .int .i64 0, .slice none 0 0, .slice none 0 0, .int .i64 0, .int .i64 0, .int .i64 0, .int .i64 0, .slice none 0 0, .slice none 0 0, .slice none 0 0, .slice none 0 0] : Array Value) /\ w.heap.size = B /\ W.heap.size = B + 1 + 1 /\ Rd W 0 (.list 6 m (fun i => trs (xsT (g i)))) (.slice a' m cap')) := ⟨SlS.below hs bW, bW, A0, R0, hB.symm, hsz, hp.below bW⟩
 have HC : Hid (okC wt tr b = x0 /\ okPs m g = x1 /\ (b = true ↔ OkRs f n) /\ n <= 2000000 /\ (∀ k, k < m -> szT 4 (trs (xdT (g k).d)) <= 1048576) /\ (Tr.list 6 m (fun i => trs (xsT (g i)))).sz <= 1048576 /\ m <= 2000000) := ⟨hx0, hx1, hb, by omega, hz4, hz, by omega⟩
 have hm2 : m <= 1048576 := hm1
 rw [hx0, hx1]
 obtain ⟨⟨y0, y1, y2⟩, _⟩ := A0.thr
 clear hs bW A0 R0 hx0 hx1 hb hp hz hz4 hsz
 go_enter Tryz.func25, Tryz.ntmps25
 go_upto_region 1 with fail
 have hB1 : w.heap.size + 1 = B + 1 := by omega
 rw [<- hW, hB1, <- hB]
 clear hW hB hB1
 go_wp2_with fail
 refine (specConfigOk_any wt tr a n cap f _ H0.out.1 HC.out.2.2.2.1 b HC.out.2.2.1).mono ?_
 rintro e w1 ⟨rfl, b1⟩
 rw [HC.out.1]
 have H1 : Hid (Below w.heap.size w w1 /\ Below W.heap.size W w1) := ⟨bel_nx H0.out.2.1 b1, b1⟩
 clear b1 y0 y1 y2
 cases x0
 case false =>
  have K9 : Blk w1 (B + 1) 62 (#[.int .i64 0, .int .i64 0, .int .i64 0, .slice none 0 0, .int .i64 0, .slice none 0 0, .slice none 0 0, .int .i64 0, .int .i64 0, .int .i64 0, .int .i64 0, .slice none 0 0, .slice none 0 0, .slice none 0 0, .slice none 0 0] : Array Value) := H0.out.2.2.2.1.below H1.out.2
  go_upto_region 2 with fail
  refine wp_region_lit ?_
  refine wpList_build_any rfl 62 #[] rfl #[] (by simp) (.agg (#[.int .i64 0, .int .i64 0, .int .i64 0, .slice none 0 0, .int .i64 0, .slice none 0 0, .slice none 0 0, .int .i64 0, .int .i64 0, .int .i64 0, .int .i64 0, .slice none 0 0, .slice none 0 0, .slice none 0 0, .slice none 0 0] : Array Value)) (by kernel_rfl) ?_
  refine wpList_store_mid rfl 62 (.tmp 4) (.tmp 14) rfl (B + 1) 0 (#[.int .i64 0, .int .i64 0, .int .i64 0, .slice none 0 0, .int .i64 0, .slice none 0 0, .slice none 0 0, .int .i64 0, .int .i64 0, .int .i64 0, .int .i64 0, .slice none 0 0, .slice none 0 0, .slice none 0 0, .slice none 0 0] : Array Value) rfl rfl (K9.there 0 15 (by simp)) (by kernel_rfl) (by simp [Value.oneCell']) ?_
  rw [setCells_L]
  obtain ⟨W9, hW9⟩ : ∃ W9, W9 = setL w1 (B + 1) 0 [.int .i64 0, .int .i64 0, .int .i64 0, .slice none 0 0, .int .i64 0, .slice none 0 0, .slice none 0 0, .int .i64 0, .int .i64 0, .int .i64 0, .int .i64 0, .slice none 0 0, .slice none 0 0, .slice none 0 0, .slice none 0 0] := ⟨_, rfl⟩
  have H9 : Hid (Below w.heap.size w W9 /\ w.heap.size <= W9.heap.size /\ Blk W9 (B + 1) 62 (#[.int .i64 0, .int .i64 0, .int .i64 0, .slice none 0 0, .int .i64 0, .slice none 0 0, .slice none 0 0, .int .i64 0, .int .i64 0, .int .i64 0, .int .i64 0, .slice none 0 0, .slice none 0 0, .slice none 0 0, .slice none 0 0] : Array Value)) := by
   have b9 : Below w.heap.size w W9 := by rw [hW9]; exact setL_below (by have := H0.out.2.2.2.2.1; omega) _ _ _ (bel_nx H0.out.2.1 H1.out.2)
   exact ⟨b9, b9.size, by rw [hW9]; have := Blk.stL [.int .i64 0, .int .i64 0, .int .i64 0, .slice none 0 0, .int .i64 0, .slice none 0 0, .slice none 0 0, .int .i64 0, .int .i64 0, .int .i64 0, .int .i64 0, .slice none 0 0, .slice none 0 0, .slice none 0 0, .slice none 0 0] 0 K9; rw [wrW _ rfl] at this; exact this⟩
  rw [show setL w1 (B + 1) 0 ((#[.int .i64 0, .int .i64 0, .int .i64 0, .slice none 0 0, .int .i64 0, .slice none 0 0, .slice none 0 0, .int .i64 0, .int .i64 0, .int .i64 0, .int .i64 0, .slice none 0 0, .slice none 0 0, .slice none 0 0, .slice none 0 0] : Array Value) : Array Value).toList = W9 from hW9.symm]
  clear hW9 K9
  go_wp2
  refine bodyPost_ret (v := .tuple #[.agg (#[.int .i64 0, .int .i64 0, .int .i64 0, .slice none 0 0, .int .i64 0, .slice none 0 0, .slice none 0 0, .int .i64 0, .int .i64 0, .int .i64 0, .int .i64 0, .slice none 0 0, .slice none 0 0, .slice none 0 0, .slice none 0 0] : Array Value), .bool false]) (results_cell1 Tryz.results25 rfl rfl (run_loadVar_mid _ _ _ 62 [.int .i64 0, .int .i64 0, .int .i64 0, .slice none 0 0, .int .i64 0, .slice none 0 0, .slice none 0 0, .int .i64 0, .int .i64 0, .int .i64 0, .int .i64 0, .slice none 0 0, .slice none 0 0, .slice none 0 0, .slice none 0 0] _ H9.out.2.2.all Tryz.underlying62 rfl (by kernel_rfl))) rfl ?_
  exact ⟨none, 0, none, 0, none, 0, none, 0, none, 0, none, 0, none, 0, rfl, rd_no, rd_no, rd_no, rd_no, rd_no, rd_no, rd_no, H9.out.1⟩
 go_wp2_with fail
 refine (specPosts_any m g a' cap' _ (H0.out.2.2.2.2.2.2.below H1.out.2) HC.out.2.2.2.2.2.2 HC.out.2.2.2.2.1).mono ?_
 rintro e w2 ⟨rfl, b2⟩
 rw [HC.out.2.1]
 have H2 : Hid (Below w.heap.size w w2 /\ Below W.heap.size W w2) := ⟨bel_nx H1.out.1 b2, bel_nx H1.out.2 b2⟩
 clear b2
 cases x1
 case false =>
  have K9 : Blk w2 (B + 1) 62 (#[.int .i64 0, .int .i64 0, .int .i64 0, .slice none 0 0, .int .i64 0, .slice none 0 0, .slice none 0 0, .int .i64 0, .int .i64 0, .int .i64 0, .int .i64 0, .slice none 0 0, .slice none 0 0, .slice none 0 0, .slice none 0 0] : Array Value) := H0.out.2.2.2.1.below H2.out.2
  go_upto_region 2 with fail
  refine wp_region_lit ?_
  refine wpList_build_any rfl 62 #[] rfl #[] (by simp) (.agg (#[.int .i64 0, .int .i64 0, .int .i64 0, .slice none 0 0, .int .i64 0, .slice none 0 0, .slice none 0 0, .int .i64 0, .int .i64 0, .int .i64 0, .int .i64 0, .slice none 0 0, .slice none 0 0, .slice none 0 0, .slice none 0 0] : Array Value)) (by kernel_rfl) ?_
  refine wpList_store_mid rfl 62 (.tmp 4) (.tmp 14) rfl (B + 1) 0 (#[.int .i64 0, .int .i64 0, .int .i64 0, .slice none 0 0, .int .i64 0, .slice none 0 0, .slice none 0 0, .int .i64 0, .int .i64 0, .int .i64 0, .int .i64 0, .slice none 0 0, .slice none 0 0, .slice none 0 0, .slice none 0 0] : Array Value) rfl rfl (K9.there 0 15 (by simp)) (by kernel_rfl) (by simp [Value.oneCell']) ?_
  rw [setCells_L]
  obtain ⟨W9, hW9⟩ : ∃ W9, W9 = setL w2 (B + 1) 0 [.int .i64 0, .int .i64 0, .int .i64 0, .slice none 0 0, .int .i64 0, .slice none 0 0, .slice none 0 0, .int .i64 0, .int .i64 0, .int .i64 0, .int .i64 0, .slice none 0 0, .slice none 0 0, .slice none 0 0, .slice none 0 0] := ⟨_, rfl⟩
  have H9 : Hid (Below w.heap.size w W9 /\ w.heap.size <= W9.heap.size /\ Blk W9 (B + 1) 62 (#[.int .i64 0, .int .i64 0, .int .i64 0, .slice none 0 0, .int .i64 0, .slice none 0 0, .slice none 0 0, .int .i64 0, .int .i64 0, .int .i64 0, .int .i64 0, .slice none 0 0, .slice none 0 0, .slice none 0 0, .slice none 0 0] : Array Value)) := by
   have b9 : Below w.heap.size w W9 := by rw [hW9]; exact setL_below (by have := H0.out.2.2.2.2.1; omega) _ _ _ (bel_nx H0.out.2.1 H2.out.2)
   exact ⟨b9, b9.size, by rw [hW9]; have := Blk.stL [.int .i64 0, .int .i64 0, .int .i64 0, .slice none 0 0, .int .i64 0, .slice none 0 0, .slice none 0 0, .int .i64 0, .int .i64 0, .int .i64 0, .int .i64 0, .slice none 0 0, .slice none 0 0, .slice none 0 0, .slice none 0 0] 0 K9; rw [wrW _ rfl] at this; exact this⟩
  rw [show setL w2 (B + 1) 0 ((#[.int .i64 0, .int .i64 0, .int .i64 0, .slice none 0 0, .int .i64 0, .slice none 0 0, .slice none 0 0, .int .i64 0, .int .i64 0, .int .i64 0, .int .i64 0, .slice none 0 0, .slice none 0 0, .slice none 0 0, .slice none 0 0] : Array Value) : Array Value).toList = W9 from hW9.symm]
  clear hW9 K9
  go_wp2
  refine bodyPost_ret (v := .tuple #[.agg (#[.int .i64 0, .int .i64 0, .int .i64 0, .slice none 0 0, .int .i64 0, .slice none 0 0, .slice none 0 0, .int .i64 0, .int .i64 0, .int .i64 0, .int .i64 0, .slice none 0 0, .slice none 0 0, .slice none 0 0, .slice none 0 0] : Array Value), .bool false]) (results_cell1 Tryz.results25 rfl rfl (run_loadVar_mid _ _ _ 62 [.int .i64 0, .int .i64 0, .int .i64 0, .slice none 0 0, .int .i64 0, .slice none 0 0, .slice none 0 0, .int .i64 0, .int .i64 0, .int .i64 0, .int .i64 0, .slice none 0 0, .slice none 0 0, .slice none 0 0, .slice none 0 0] _ H9.out.2.2.all Tryz.underlying62 rfl (by kernel_rfl))) rfl ?_
  exact ⟨none, 0, none, 0, none, 0, none, 0, none, 0, none, 0, none, 0, rfl, rd_no, rd_no, rd_no, rd_no, rd_no, rd_no, rd_no, H9.out.1⟩
 obtain ⟨⟨y0, y1, y2⟩, _⟩ := (H0.out.2.2.1.below H2.out.2).thr
 go_wp2_with fail
 refine (specFabricNew_any wt tr a n cap f _ (SlS.below H0.out.1 H2.out.2) HC.out.2.2.2.1 b HC.out.2.2.1).mono ?_
 rintro e w3 h3
 rw [HC.out.1] at h3
 obtain ⟨a1, c1, a2, c2, a3, c3, rfl, r1, r2, r3, b3⟩ := fbS_rdB h3
 have H3 : Hid (Below w.heap.size w w3 /\ Below W.heap.size W w3 /\ w2.heap.size <= w3.heap.size /\ W.heap.size <= w2.heap.size /\ Rd w3 w2.heap.size (.list 7 (nwF true wt tr n f).set.n (fun i => trs (xrT ((nwF true wt tr n f).set.f i)))) (.slice a1 (nwF true wt tr n f).set.n c1) /\ Rd w3 w2.heap.size (.list 13 (nwF true wt tr n f).op.m (fun i => trs (dT ((nwF true wt tr n f).op.f i)))) (.slice a2 (nwF true wt tr n f).op.m c2) /\ Rd w3 w2.heap.size (.list 17 (nwF true wt tr n f).nl (fun i => trs (xnT ((nwF true wt tr n f).lf i)))) (.slice a3 (nwF true wt tr n f).nl c3)) := ⟨bel_nx H2.out.1 b3, bel_nx H2.out.2 b3, b3.size, H2.out.2.size, r1, r2, r3⟩
 clear h3 b3 y0 y1 y2 r1 r2 r3
 go_wp2_with fail
 refine (l15CopyPosts_m m g a' m cap' _ (H0.out.2.2.2.2.2.2.below H3.out.2.1) HC.out.2.2.2.2.2.1).mono ?_
 rintro e w4 ⟨v4, rfl, o4, b4⟩
 obtain ⟨a4, c4, rfl⟩ := o4.shape
 rename_i hK
 refine hK _ _ ?_
 clear hK
 have K9 : Blk w4 (B + 1) 62 (#[.int .i64 0, .int .i64 0, .int .i64 0, .slice none 0 0, .int .i64 0, .slice none 0 0, .slice none 0 0, .int .i64 0, .int .i64 0, .int .i64 0, .int .i64 0, .slice none 0 0, .slice none 0 0, .slice none 0 0, .slice none 0 0] : Array Value) := (H0.out.2.2.2.1.below H3.out.2.1).below b4
 refine wpList_build_any rfl 62 #[(0, .tmp 16), (1, .tmp 18)] rfl #[(0, .agg (xfL (nwF true wt tr n f) a1 (nwF true wt tr n f).set.n c1 a2 (nwF true wt tr n f).op.m c2 a3 (nwF true wt tr n f).nl c3).toArray), (1, .slice a4 m c4)] (by simp; exact ⟨rfl, rfl⟩) (.agg (xwL (nwW true wt tr n f m g) a1 (nwW true wt tr n f m g).fb.set.n c1 a2 (nwW true wt tr n f m g).fb.op.m c2 a3 (nwW true wt tr n f m g).fb.nl c3 a4 (nwW true wt tr n f m g).ns c4 none 0 0 none 0 0 none 0 0).toArray) (by kernel_rfl) ?_
 refine wpList_store_mid rfl 62 (.tmp 4) (.tmp 19) rfl (B + 1) 0 (xwL (nwW true wt tr n f m g) a1 (nwW true wt tr n f m g).fb.set.n c1 a2 (nwW true wt tr n f m g).fb.op.m c2 a3 (nwW true wt tr n f m g).fb.nl c3 a4 (nwW true wt tr n f m g).ns c4 none 0 0 none 0 0 none 0 0).toArray rfl rfl (K9.there 0 15 (by simp)) (by kernel_rfl) (by simp [Value.oneCell']) ?_
 rw [setCells_L]
 obtain ⟨W9, hW9⟩ : ∃ W9, W9 = setL w4 (B + 1) 0 (xwL (nwW true wt tr n f m g) a1 (nwW true wt tr n f m g).fb.set.n c1 a2 (nwW true wt tr n f m g).fb.op.m c2 a3 (nwW true wt tr n f m g).fb.nl c3 a4 (nwW true wt tr n f m g).ns c4 none 0 0 none 0 0 none 0 0) := ⟨_, rfl⟩
 have hg : w4.grownBy W9 (some (B + 1)) := by rw [hW9]; exact setL_gw _ _ _
 have b9 : Below w.heap.size w W9 := by rw [hW9]; exact setL_below (by have := H0.out.2.2.2.2.1; omega) _ _ _ (bel_nx H3.out.1 b4)
 have k9 : Blk W9 (B + 1) 62 (xwL (nwW true wt tr n f m g) a1 (nwW true wt tr n f m g).fb.set.n c1 a2 (nwW true wt tr n f m g).fb.op.m c2 a3 (nwW true wt tr n f m g).fb.nl c3 a4 (nwW true wt tr n f m g).ns c4 none 0 0 none 0 0 none 0 0).toArray := by rw [hW9]; have := Blk.stL (xwL (nwW true wt tr n f m g) a1 (nwW true wt tr n f m g).fb.set.n c1 a2 (nwW true wt tr n f m g).fb.op.m c2 a3 (nwW true wt tr n f m g).fb.nl c3 a4 (nwW true wt tr n f m g).ns c4 none 0 0 none 0 0 none 0 0) 0 K9; rw [wrW _ rfl] at this; exact this
 have hs9 : w.heap.size = B /\ W.heap.size = B + 1 + 1 := ⟨H0.out.2.2.2.2.1, H0.out.2.2.2.2.2.1⟩
 have hs8 := H3.out.2.2.1
 have hs7 := H3.out.2.2.2.1
 have hs6 := b4.size
 have hs5 := hg.size
 have r4 : Rd W9 0 (.list 6 m (fun i => trs (xsT (g i)))) (.slice a4 m c4) := ((o4.fl.kept hg (by omega)).rd 0 (.slice a4 m c4) rfl).mono (Nat.zero_le _)
 have H9 : Hid ((Rd W9 0 (.list 7 (nwF true wt tr n f).set.n (fun i => trs (xrT ((nwF true wt tr n f).set.f i)))) (.slice a1 (nwF true wt tr n f).set.n c1) /\ Rd W9 0 (.list 13 (nwF true wt tr n f).op.m (fun i => trs (dT ((nwF true wt tr n f).op.f i)))) (.slice a2 (nwF true wt tr n f).op.m c2) /\ Rd W9 0 (.list 17 (nwF true wt tr n f).nl (fun i => trs (xnT ((nwF true wt tr n f).lf i)))) (.slice a3 (nwF true wt tr n f).nl c3) /\ Rd W9 0 (.list 6 m (fun i => trs (xsT (g i)))) (.slice a4 m c4)) /\ Below w.heap.size w W9 /\ Blk W9 (B + 1) 62 (xwL (nwW true wt tr n f m g) a1 (nwW true wt tr n f m g).fb.set.n c1 a2 (nwW true wt tr n f m g).fb.op.m c2 a3 (nwW true wt tr n f m g).fb.nl c3 a4 (nwW true wt tr n f m g).ns c4 none 0 0 none 0 0 none 0 0).toArray) :=
  ⟨⟨((H3.out.2.2.2.2.1.below b4).kept hg (by omega)).mono (Nat.zero_le _), ((H3.out.2.2.2.2.2.1.below b4).kept hg (by omega)).mono (Nat.zero_le _), ((H3.out.2.2.2.2.2.2.below b4).kept hg (by omega)).mono (Nat.zero_le _), r4⟩, b9, k9⟩
 clear r4
 rw [show setL w4 (B + 1) 0 ((xwL (nwW true wt tr n f m g) a1 (nwW true wt tr n f m g).fb.set.n c1 a2 (nwW true wt tr n f m g).fb.op.m c2 a3 (nwW true wt tr n f m g).fb.nl c3 a4 (nwW true wt tr n f m g).ns c4 none 0 0 none 0 0 none 0 0).toArray : Array Value).toList = W9 from hW9.symm]
 clear hW9 K9 hg b9 k9 hs9 hs8 hs7 hs6 hs5 o4 b4
 go_wp2
 refine bodyPost_ret (v := .tuple #[.agg (xwL (nwW true wt tr n f m g) a1 (nwW true wt tr n f m g).fb.set.n c1 a2 (nwW true wt tr n f m g).fb.op.m c2 a3 (nwW true wt tr n f m g).fb.nl c3 a4 (nwW true wt tr n f m g).ns c4 none 0 0 none 0 0 none 0 0).toArray, .bool true]) (results_cell1 Tryz.results25 rfl rfl (run_loadVar_mid _ _ _ 62 (xwL (nwW true wt tr n f m g) a1 (nwW true wt tr n f m g).fb.set.n c1 a2 (nwW true wt tr n f m g).fb.op.m c2 a3 (nwW true wt tr n f m g).fb.nl c3 a4 (nwW true wt tr n f m g).ns c4 none 0 0 none 0 0 none 0 0) _ H9.out.2.2.all Tryz.underlying62 rfl (by kernel_rfl))) rfl ?_
 exact ⟨a1, c1, a2, c2, a3, c3, a4, c4, none, 0, none, 0, none, 0, rfl, H9.out.1.1, H9.out.1.2.1, H9.out.1.2.2.1, H9.out.1.2.2.2, rd_no, rd_no, rd_no, H9.out.2.1⟩
end Go.Proofs.YtkfgijkkffbpmaaGreat

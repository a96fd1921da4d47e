/- Parts of the proof. -/
import Derived.Test.YtplaoagcedgdfaaGreatZq17
import Derived.Test.YtplaoagcedgdfaaGreatZq3
import Derived.Maps.RangeRun
import Derived.Carry
import Derived.Laws.StructEq
import Derived.Test.YtplaoagcedgdfaaGreatZq13
import Derived.Test.YtplaoagcedgdfaaGreatZq10
import Derived.Test.YtplaoagcedgdfaaGreatZq16
import Derived.Maps.OwnSet
set_option linter.unusedVariables false
set_option linter.unusedSimpArgs false
set_option maxHeartbeats 8000000
set_option maxRecDepth 20000
namespace Go.Proofs.YtplaoagcedgdfaaGreat
open Go.RowKit Go.Joins Go.Proofs.Tryz
def qX (w : World) (g o : Nat) (N : VN) : Prop := g < w.heap.size /\ ∃ vs, vs.length = 17 /\ w.rangeAt g o vs /\ ay w 0 (aa (aU N)) vs
def aK (N : VN) (k : Nat) : VL := (cY N).getD k default
theorem mg {N : VN} (h : N.bz = true) {i : Nat} (hi : i < 1 + N.nq) : (if i < 1 then aO N.c else aO (N.qf (i - 1))) = aO (aK N i) := by
 unfold aK
 rw [List.getD_eq_getElem?_getD]
 by_cases e : i < 1
 ·have e0 : i = 0 := by omega
  subst e0
  rw [fE h]
  rfl
 obtain ⟨j, rfl⟩ : ∃ j, i = j + 1 := ⟨i - 1, by omega⟩
 rw [if_neg e, gp h (by omega)]
 rfl
theorem mh {N : VN} (h : N.bz = false) {i : Nat} (hi : i < N.nq) : aO (N.qf i) = aO (aK N i) := by
 unfold aK
 rw [List.getD_eq_getElem?_getD, gr h hi]
 rfl
theorem VL.back9 {w : World} {lo : Nat} {X : VL} {a1 : Option Addr} {l1 c1 : Nat} {a2 : Option Addr} {l2 c2 : Nat} (r1 : Rd w lo (ah X.q.ws) (.slice a1 l1 c1)) (r2 : Rd w lo (af X.q.bs) (.slice a2 l2 c2)) : ay w lo (aa (aO X)) (bK X a1 l1 c1 a2 l2 c2) := VL.back r1 r2
theorem pD (N : VN) (g o : Nat) (w0 w : World) (hb : Below w0.heap.size w0 w) (h : qX w0 g o N) (hn : N.nq <= 2000000) :
 Calls prog 61 #[.pointer (some ⟨g, o, none⟩)] w fun e w' => ∃ v, e = .returned v /\ dF w0 w.heap.size w' 9 v (cY N).length (fun i => aO (aK N i)) /\ Below w.heap.size w w' := by
 obtain ⟨hg, vs, hl, hr, hd⟩ := h
 obtain ⟨a1, c1, e1, k1, e2, k2, rfl, q1, q2, q3⟩ := VN.cells hd hl
 have hg2 := Nat.lt_of_lt_of_le hg hb.size
 have hr2 := ax hr hg hb
 have y0 : w.cell? ⟨g, o, none⟩ = some (.slice a1 N.nq c1) := hr2 0 _ rfl
 have y1 : w.cell? ⟨g, o + 1, none⟩ = some (.bool N.bz) := hr2 1 _ rfl
 have HE : Hid (Below w0.heap.size w0 w /\ g < w.heap.size /\ w.rangeAt g o (cj N a1 N.nq c1 e1 N.c.q.ws.length k1 e2 N.c.q.bs.length k2) /\ Rd w0 0 (.list 9 N.nq (fun i => aa (aO (N.qf i)))) (.slice a1 N.nq c1) /\ ay w0 0 (aa (aO N.c)) (bK N.c e1 N.c.q.ws.length k1 e2 N.c.q.bs.length k2) /\ N.nq <= 2000000) := ⟨hb, hg2, hr2, q1, VL.back9 q2 q3, hn⟩
 clear hd hl q1 q2 q3 hr hr2 hg hg2 hb
 obtain ⟨bz, hbz⟩ : ∃ b, N.bz = b := ⟨_, rfl⟩
 cases bz
 case false =>
  rw [hbz] at y1
  have HN : Hid (N.bz = false) := hbz
  clear hbz
  go_enter func61, ntmps61
  go_wp2
  go_ret
  exact ⟨_, rfl, (by rw [dZ, HN.out]; exact dF.old (by simpa using HE.out.2.2.2.1.congr (fun i hi => by rw [mh HN.out hi])) HE.out.1), Below.refl _ _⟩
 rw [hbz] at y1
 go_enter func61, ntmps61
 go_upto_region 3 with fail
 clear y0 y1
 try go_simp
 refine wp_region_any (by kernel_rfl) ?_
 refine jg 9 (fun u => Below w.heap.size w u) (fun j σ u => match j with
  | 9 => ∃ v, σ 21 = v /\ cA w0 u 86 9 v (1 + N.nq) (fun i => if i < 1 then aO N.c else aO (N.qf (i - 1))) /\ (∀ k, v.ownBlock = some k -> w.heap.size <= k) /\ Below w.heap.size w u
  | _ => ∃ v, σ 2 = v /\ cA w0 u 86 9 v (1 + N.nq) (fun i => if i < 1 then aO N.c else aO (N.qf (i - 1))) /\ (∀ k, v.ownBlock = some k -> w.heap.size <= k) /\ Below w.heap.size w u) (fun i v u => match i with
  | 0 => v = .pointer (some ⟨g, o, none⟩)
  | 1 => v = .pointer (some ⟨g, o, none⟩)
  | 2 => v = .pointer (some ⟨g, o + 2, none⟩)
  | 3 => v = .agg ([.int .i64 N.c.id, .int .i64 N.c.pa, .int .i64 N.c.un, .int .i64 N.c.q.kd, .int .i64 N.c.q.pl, .int .i64 N.c.q.n, .slice e1 N.c.q.ws.length k1, .slice e2 N.c.q.bs.length k2, .int .i64 N.c.q.wa]).toArray
  | 4 => cA w0 u 86 9 v 1 (fun _ => aO N.c) /\ ∀ k, v.ownBlock = some k -> w.heap.size <= k
  | 5 => v = .pointer (some ⟨g, o, none⟩)
  | 6 => v = .pointer (some ⟨g, o, none⟩)
  | 7 => v = .pointer (some ⟨g, o, none⟩)
  | 8 => v = .slice a1 N.nq c1
  | _ => True) (by kernel_rfl) (by kernel_rfl) (by decide) (by kernel_rfl) (fun u u' h hb => ae h hb) ?_ (by first | exact Below.refl _ _ | exact (Below.refl _ _).drew) ?_ ?_ ?_ ?_ _ _ rfl (by decide) (fun i => by simp [Array.getD]; try (split <;> rfl))
 ·intro i v u u' h hb
  match i, h with
  | 0, h => exact h
  | 1, h => exact h
  | 2, h => exact h
  | 3, h => exact h
  | 4, ⟨h1, h2⟩ => exact ⟨h1.below hb, h2⟩
  | 5, h => exact h
  | 6, h => exact h
  | 7, h => exact h
  | 8, h => exact h
  | _ + 9, _ => trivial
 rotate_left
 ·intro u i o ρ hi hR ho hρ hc hf hd
  obtain rfl | rfl | rfl | rfl | rfl | rfl | rfl | rfl | rfl : i = 0 \/ i = 1 \/ i = 2 \/ i = 3 \/ i = 4 \/ i = 5 \/ i = 6 \/ i = 7 \/ i = 8 := by omega
  all_goals (simp only [List.getElem?_toArray, List.getElem?_cons_zero, List.getElem?_cons_succ, Option.some.injEq] at ho; subst ho)
  ·have s0 : ρ (.tmp 0) = .pointer (some ⟨g, o, none⟩) := (hρ 0 (by kernel_rfl)).trans rfl
   exact .inl ⟨rfl, .inl ⟨_, u, rfl, s0, Below.refl _ _⟩⟩
  ·have h0 : ρ (.tmp 12) = .pointer (some ⟨g, o, none⟩) := dq hd 0 12
   exact .inl ⟨rfl, .inl ⟨.pointer (some ⟨g, o, none⟩), u, cx rfl h0, rfl, Below.refl _ _⟩⟩
  ·have h1 : ρ (.tmp 13) = .pointer (some ⟨g, o, none⟩) := dq hd 1 13
   exact .inl ⟨rfl, .inl ⟨.pointer (some ⟨g, o + 2, none⟩), u, aq rfl h1 (by go_simp), rfl, Below.refl _ _⟩⟩
  ·have h2 : ρ (.tmp 14) = .pointer (some ⟨g, o + 2, none⟩) := dq hd 2 14
   have hr : (Instr.loadAt 86 (.pointer (some ⟨g, o + 2, none⟩))).run prog u = .ok (.agg ([.int .i64 N.c.id, .int .i64 N.c.pa, .int .i64 N.c.un, .int .i64 N.c.q.kd, .int .i64 N.c.q.pl, .int .i64 N.c.q.n, .slice e1 N.c.q.ws.length k1, .slice e2 N.c.q.bs.length k2, .int .i64 N.c.q.wa]).toArray) u := run_loadAt_mid u g (o + 2) 86 ([.int .i64 N.c.id, .int .i64 N.c.pa, .int .i64 N.c.un, .int .i64 N.c.q.kd, .int .i64 N.c.q.pl, .int .i64 N.c.q.n, .slice e1 N.c.q.ws.length k1, .slice e2 N.c.q.bs.length k2, .int .i64 N.c.q.wa]) _ (en [.slice a1 N.nq c1, .bool N.bz] [.int .i64 N.c.id, .int .i64 N.c.pa, .int .i64 N.c.un, .int .i64 N.c.q.kd, .int .i64 N.c.q.pl, .int .i64 N.c.q.n, .slice e1 N.c.q.ws.length k1, .slice e2 N.c.q.bs.length k2, .int .i64 N.c.q.wa] [.int .i64 N.nu, .int .i64 N.du, .int .i64 N.le, .int .i64 N.nx, .int .i64 N.wt, .int .i64 N.tr] (ax HE.out.2.2.1 HE.out.2.1 hR) rfl) underlying86 rfl (by kernel_rfl)
   exact .inl ⟨rfl, .inl ⟨.agg ([.int .i64 N.c.id, .int .i64 N.c.pa, .int .i64 N.c.un, .int .i64 N.c.q.kd, .int .i64 N.c.q.pl, .int .i64 N.c.q.n, .slice e1 N.c.q.ws.length k1, .slice e2 N.c.q.bs.length k2, .int .i64 N.c.q.wa]).toArray, u, ai rfl h2 hr, rfl, Below.refl _ _⟩⟩
  ·have h3 : ρ (.tmp 15) = .agg ([.int .i64 N.c.id, .int .i64 N.c.pa, .int .i64 N.c.un, .int .i64 N.c.q.kd, .int .i64 N.c.q.pl, .int .i64 N.c.q.n, .slice e1 N.c.q.ws.length k1, .slice e2 N.c.q.bs.length k2, .int .i64 N.c.q.wa]).toArray := dq hd 3 15
   exact .inl ⟨rfl, .inl ⟨_, _, ij rfl (qs := #[(0, .agg (bK N.c e1 N.c.q.ws.length k1 e2 N.c.q.bs.length k2).toArray)]) (by simp [h3]) (qW N.c e1 _ k1 e2 _ k2 u), ⟨cA.one (vs := bK N.c e1 N.c.q.ws.length k1 e2 N.c.q.bs.length k2) (f := fun _ => aO N.c) rfl HE.out.2.2.2.2.1 (Nat.le_trans HE.out.1.size hR.size), fun k hk => by obtain rfl := Option.some.inj hk; exact hR.size⟩, ac _ _⟩⟩
  ·have s0 : ρ (.tmp 0) = .pointer (some ⟨g, o, none⟩) := (hρ 0 (by kernel_rfl)).trans rfl
   exact .inl ⟨rfl, .inl ⟨_, u, rfl, s0, Below.refl _ _⟩⟩
  ·have h5 : ρ (.tmp 17) = .pointer (some ⟨g, o, none⟩) := dq hd 5 17
   exact .inl ⟨rfl, .inl ⟨.pointer (some ⟨g, o, none⟩), u, cx rfl h5, rfl, Below.refl _ _⟩⟩
  ·have h6 : ρ (.tmp 18) = .pointer (some ⟨g, o, none⟩) := dq hd 6 18
   exact .inl ⟨rfl, .inl ⟨.pointer (some ⟨g, o, none⟩), u, aq rfl h6 (by go_simp), rfl, Below.refl _ _⟩⟩
  have h7 : ρ (.tmp 19) = .pointer (some ⟨g, o, none⟩) := dq hd 7 19
  have y9 : u.cell? ⟨g, o, none⟩ = some (.slice a1 N.nq c1) := (ax HE.out.2.2.1 HE.out.2.1 hR) 0 _ rfl
  have hr : (Instr.loadAt 79 (.pointer (some ⟨g, o, none⟩))).run prog u = .ok (.slice a1 N.nq c1) u := by go_simp
  exact .inl ⟨rfl, .inl ⟨.slice a1 N.nq c1, u, ai rfl h7 hr, rfl, Below.refl _ _⟩⟩
 ·intro u o ρ hR ho hρ hc hf hv
  simp only [List.getElem?_toArray, List.getElem?_cons_zero, List.getElem?_cons_succ, Option.some.injEq] at ho
  subst ho
  obtain ⟨o1, o2⟩ : cA w0 u 86 9 (ρ (.tmp 16)) 1 (fun _ => aO N.c) /\ ∀ k, (ρ (.tmp 16)).ownBlock = some k -> w.heap.size <= k := hv 4 16 (by decide) rfl
  have h8 : ρ (.tmp 20) = .slice a1 N.nq c1 := hv 8 20 (by decide) rfl
  have bb := ae HE.out.1 hR
  obtain ⟨v', w', hrun, l1, l2, l3, l4⟩ := o1.app 79 79 104 (.agg #[.int .i64 0, .int .i64 0, .int .i64 0, .int .i64 0, .int .i64 0, .int .i64 0, .slice none 0 0, .slice none 0 0, .int .i64 0]) underlying79 (by kernel_rfl) rfl (by decide) (by decide) a1 N.nq c1 (fun i => aO (N.qf i)) HE.out.2.2.2.1 bb (fun k hk vs h1 h2 => iC (w := w0) h1 h2) (by decide) HE.out.2.2.2.2.2
  exact ⟨rfl, .inl ⟨_, w', pB rfl rfl h8 hrun, v', mf, l1, (fun k hk => by rcases l4 with l4 | l4 <;> rw [l4] at hk; exact o2 k hk; obtain rfl := Option.some.inj hk; exact hR.size), hR.grown l3 hR.size o2⟩⟩
 ·intro u i o ρ hi ho hE hρ hc hf
  have hi2 : i + 1 < 11 := by
   have := (Array.getElem?_eq_some_iff.1 ho).1
   simpa using this
  obtain rfl : i = 9 := by omega
  all_goals (simp only [List.getElem?_toArray, List.getElem?_cons_zero, List.getElem?_cons_succ, Option.some.injEq] at ho; subst ho)
  obtain ⟨v, e1, L'⟩ := hE
  have e1' : ρ (.tmp 21) = v := e1
  exact ⟨rfl, .inl ⟨_, u, pC rfl e1', v, mf, L'⟩⟩
 intro vs σ u hE hvs
 obtain ⟨v, e3, L'⟩ : ∃ v, σ 2 = v /\ cA w0 u 86 9 v (1 + N.nq) (fun i => if i < 1 then aO N.c else aO (N.qf (i - 1))) /\ (∀ k, v.ownBlock = some k -> w.heap.size <= k) /\ Below w.heap.size w u := hE
 have e9 : vs 10 = v := (hvs 10 2 rfl).trans e3
 simp only [bm]
 rw [e9]
 have H2 : Hid (cA w0 u 86 9 v (1 + N.nq) (fun i => if i < 1 then aO N.c else aO (N.qf (i - 1))) /\ (∀ k, v.ownBlock = some k -> w.heap.size <= k) /\ Below w.heap.size w u) := L'
 have HN : Hid (N.bz = true) := hbz
 clear e9 e3 hvs L' hbz HE
 try go_simp
 go_wp2
 go_ret
 exact ⟨v, rfl, (by rw [dZ, HN.out]; exact dF.own (H2.out.1.congr (fun i hi => mg HN.out hi)) H2.out.2.1), H2.out.2.2⟩
end Go.Proofs.YtplaoagcedgdfaaGreat
namespace Go.Proofs.YtplaoagcedgdfaaGreat
open Go.RowKit Go.Joins Go.ChangeMaps Go.Proofs.Tryz
def vM (ks : Nat -> Int) (vs : Nat -> Value) (n : Nat) : List MapEntry := (List.range n).map (fun j => ⟨.int .i64 (ks j), vs j, j⟩)
def MapI (w : World) (b n : Nat) (ks : Nat -> Int) (vs : Nat -> Value) : Prop := w.heap[b]? = some (.map (vM ks vs n).toArray n)
theorem gA (w : World) (b : Nat) (o : Obj) : w.grownBy (setBlock w b o) (some b) :=
 ⟨rfl, rfl, rfl, by simp [setBlock], fun k hk hne => by
  unfold setBlock
  simp only
  rw [Array.getElem?_setIfInBounds]
  split
  ·rename_i e; subst e; exact absurd rfl hne
  rfl⟩
abbrev fY (a b : Int) : Value := .agg #[.int .i64 a, .int .i64 b]
def iD {α : Type} (e : Int × Int × (α × List Value × Nat)) : MapEntry := ⟨fY e.1 e.2.1, .agg e.2.2.2.1.toArray, e.2.2.2.2⟩
def cQ {α : Type} (w : World) (b : Nat) (l : List (Int × Int × (α × List Value × Nat))) (c : Nat) : Prop := w.heap[b]? = some (.map (l.map iD).toArray c)
section
variable {α : Type} {w w' : World} {b c : Nat} {l : List (Int × Int × (α × List Value × Nat))}
theorem cQ.lt (h : cQ w b l c) : b < w.heap.size := (Array.getElem?_eq_some_iff.1 h).1
theorem cQ.below (h : cQ w b l c) (hb : Below w.heap.size w w') : cQ w' b l c := (hb.block b h.lt).trans h
theorem cQ.new (w : World) : cQ (w.alloc (.map #[] 0)) w.heap.size ([] : List (Int × Int × (α × List Value × Nat))) 0 := heap_alloc_new w (.map #[] 0)
theorem cQ.set (hlt : b < w.heap.size) : cQ (setBlock w b (.map (l.map iD).toArray c)) b l c := by
 unfold cQ setBlock
 simp [hlt]
end
def gu (P : Program) (K : TypeId) : Prop := (∃ fs, P.underlying K = some (.struct fs)) /\ (∀ (a b c d : Int) (w : World), (Op.equal K (fY a b) (fY c d)).run P w = .ok (decide (a = c /\ b = d)) w) /\ ∀ (e : Bool) (a b : Int) (w : World), (Instr.checkKey e 10000 K (fY a b)).run P w = .ok () w
section
variable {α : Type} {P : Program} {w : World} {b c : Nat} {l : List (Int × Int × (α × List Value × Nat))} {K : TypeId}
theorem gu.ask (hK : gu P K) (x y : Int) : ∀ (l : List (Int × Int × (α × List Value × Nat))) (i : Nat), (Instr.findAsking K (fY x y) (l.map iD) i).run P w = .ok ((bP x y l i).map (fun r => (r.1, .agg r.2.2.1.toArray))) w
 | [], i => by simp [Instr.findAsking, bP]
 | e :: es, i => by
  rw [List.map_cons]
  unfold Instr.findAsking bP
  rw [Sem.run_bind]
  rw [show (iD e).key = fY e.1 e.2.1 from rfl, hK.2.1]
  rw [Result.andThen_ok]
  by_cases q : e.1 = x /\ e.2.1 = y
  ·rw [if_pos q, decide_eq_true (⟨q.1.symm, q.2.symm⟩ : x = e.1 /\ y = e.2.1)]
   simp [iD]
  rw [if_neg q, decide_eq_false (fun h : x = e.1 /\ y = e.2.1 => q ⟨h.1.symm, h.2.symm⟩)]
  simp only [Bool.false_eq_true, if_false]
  exact gu.ask hK x y es (i + 1)
theorem gu.find (hK : gu P K) (x y : Int) (l : List (Int × Int × (α × List Value × Nat))) : (Instr.findKey K (fY x y) (l.map iD)).run P w = .ok ((bP x y l 0).map (fun r => (r.1, .agg r.2.2.1.toArray))) w := by
 obtain ⟨fs, hf⟩ := hK.1
 unfold Instr.findKey
 rw [Sem.run_bind, run_underlying hf, Result.andThen_ok]
 cases l with
 | nil => simp [Instr.findNow, bP]
 | cons e es =>
  rw [show Instr.findNow (.struct fs) (fY x y) ((e :: es).map iD) 0 = none from rfl]
  exact hK.ask x y (e :: es) 0
theorem fu {β γ : Type} (g : β -> γ) : ∀ (l : List β) (i : Nat), (l.map g).eraseIdx i = (l.eraseIdx i).map g
 | [], _ => rfl
 | _ :: _, 0 => rfl
 | x :: l, i + 1 => by
  show g x :: (l.map g).eraseIdx i = g x :: (l.eraseIdx i).map g
  rw [fu g l i]
theorem cQ.look {T E : TypeId} {z : Value} (h : cQ w b l c) (hT : P.underlying T = some (.map K E)) (hK : gu P K) (hz : (zeroValue E).run P w = .ok z w) (x y : Int) :
 (Instr.lookup T (.map (some b)) (fY x y) true).run P w = .ok (.tuple #[((bP x y l 0).map (fun r => Value.agg r.2.2.1.toArray)).getD z, .bool (bP x y l 0).isSome]) w := by
 unfold cQ at h
 unfold Instr.lookup
 simp only [run_underlying (P := P) hT, Sem.run_bind, Result.andThen_ok, getObj, Sem.run, h, hK.2.2, hK.find x y l, Sem.run_pure]
 cases bP x y l 0 with
 | none => simp [hz]
 | some r => simp
theorem cQ.put {T E : TypeId} (h : cQ w b l c) (hT : P.underlying T = some (.map K E)) (hK : gu P K) (x y : Int) (p : α) (vs : List Value) (hx : bP x y l 0 = none) :
 (Instr.mapUpdate T (.map (some b)) (fY x y) (.agg vs.toArray)).run P w = .ok () (setBlock w b (.map ((l ++ [(x, y, p, vs, c)]).map iD).toArray (c + 1))) := by
 unfold cQ at h
 unfold Instr.mapUpdate
 simp only [run_underlying (P := P) hT, Sem.run_bind, Result.andThen_ok, getObj, Sem.run, h, hK.2.2, hK.find x y l, hx, Option.map_none]
 simp only [setObj, Sem.run, h, setBlock]
 congr 3
 simp [iD]
theorem cQ.del {T E ty : TypeId} {A : Array TypeId} {r : Nat × (α × List Value × Nat)} (h : cQ w b l c) (hA : A[0]? = some T) (hT : P.underlying T = some (.map K E)) (hK : gu P K) (x y : Int) (hx : bP x y l 0 = some r) :
 (Builtin.delete_ A ty #[.map (some b), fY x y]).run P w = .ok (.tuple #[]) (setBlock w b (.map ((l.eraseIdx r.1).map iD).toArray c)) := by
 obtain ⟨k, e, k1, k2, _⟩ := fd hx
 have hlt : r.1 < l.length := by have := (List.getElem?_eq_some_iff.1 k2).1; omega
 unfold cQ at h
 unfold Builtin.delete_
 simp only [hA, List.getElem?_toArray, List.getElem?_cons_zero, List.getElem?_cons_succ, run_underlying (P := P) hT, Sem.run_bind, Result.andThen_ok, getObj, Sem.run, h, hK.2.2, hK.find x y l, hx, Option.map_some, Sem.run_pure]
 simp only [setObj, Sem.run, h, setBlock, Result.andThen_ok]
 congr 4
 rw [Array.eraseIdxIfInBounds, dif_pos (by simpa using hlt)]
 simp only [List.eraseIdx_toArray]
 congr 1
 exact fu iD l r.1
theorem cQ.len {T E ty : TypeId} (h : cQ w b l c) (hT : P.underlying T = some (.map K E)) : (Builtin.len_ #[T] ty #[.map (some b)]).run P w = .ok (.int .i64 (l.length : Int)) w := by
 unfold cQ at h
 simp [Builtin.len_, run_underlying (P := P) hT, getObj, Sem.run, h, goInt]
end
theorem qY (e : Bool) (a b : Int) (w : World) : (Instr.checkKey e 10000 216 (fY a b)).run prog w = .ok () w := by
 have h9 : ∀ (z : Int), (Instr.checkKey e 9999 3 (.int .i64 z)).run prog w = .ok () w := fun z => MapKept.run_checkKey (k := .int .i64 z) underlying3 (show IntKind.i64 = IntKind.i64 from rfl) e 9998
 rw [show (10000 : Nat) = 9998 + 1 + 1 from rfl]
 unfold Instr.checkKey
 go_simp
theorem om : gu prog 216 := by
 refine ⟨⟨_, underlying216⟩, fun a b c d w => ?_, qY⟩
 have h : (Op.equal 216 (fY a b) (fY c d)).run prog w = .ok ((a == c) && (b == d)) w := by
  show (Op.equalIn 10000 216 (.agg #[.int .i64 a, .int .i64 b]) (.agg #[.int .i64 c, .int .i64 d])).run prog w = _
  go_simp
  cases h1 : (a == c) <;> cases h2 : (b == d) <;> simp_all
 have e : ((a == c) && (b == d)) = decide (a = c /\ b = d) := by
  by_cases h1 : a = c <;> by_cases h2 : b = d <;> simp [h1, h2]
 rw [<- e]
 exact h
def bR (w0 w : World) (M : Nat) (O : List (Int × Int × VP)) : Prop :=
 ∃ (l : List (Int × Int × (VP × List Value × Nat))) (c : Nat), cQ w M l c /\ w0.heap.size <= M /\ l.map (fun e => (e.1, e.2.1, e.2.2.1)) = O /\ ∀ e ∈ l, e.2.2.2.1.length = 8 /\ ay w0 0 (aa (pT e.2.2.1)) e.2.2.2.1
theorem bR.below {w0 w w' : World} {M : Nat} {O : List (Int × Int × VP)} (h : bR w0 w M O) (hb : Below w.heap.size w w') : bR w0 w' M O := by
 obtain ⟨l, c, h1, h2⟩ := h
 exact ⟨l, c, h1.below hb, h2⟩
theorem bR.lt {w0 w : World} {M : Nat} {O : List (Int × Int × VP)} (h : bR w0 w M O) : w0.heap.size <= M /\ M < w.heap.size := by
 obtain ⟨l, c, h1, h2, _⟩ := h
 exact ⟨h2, h1.lt⟩
theorem bR.ix {O : List (Int × Int × VP)} {l : List (Int × Int × (VP × List Value × Nat))} (h : l.map (fun e => (e.1, e.2.1, e.2.2.1)) = O) (x y : Int) : bP x y O 0 = (bP x y l 0).map (fun r => (r.1, r.2.1)) := by
 rw [<- h]
 exact nL (fun a => a.1) x y l 0
theorem bR.put {P : Program} {K : TypeId} {w0 w : World} {M : Nat} {O : List (Int × Int × VP)} {T E : TypeId} (h : bR w0 w M O) (hK : gu P K) (hT : P.underlying T = some (.map K E)) (x y : Int) (p : VP) (vs : List Value) (hx : bP x y O 0 = none) (hl : vs.length = 8) (hr : ay w0 0 (aa (pT p)) vs) :
 ∃ w', (Instr.mapUpdate T (.map (some M)) (.agg #[.int .i64 x, .int .i64 y]) (.agg vs.toArray)).run P w = .ok () w' /\ bR w0 w' M (O ++ [(x, y, p)]) /\ w.grownBy w' (some M) := by
 obtain ⟨l, c, h1, h2, h3, h4⟩ := h
 have hx' : bP x y l 0 = none := by
  have := bR.ix h3 x y
  rw [hx] at this
  cases e : bP x y l 0 with
  | none => rfl
  | some r => rw [e] at this; cases this
 refine ⟨_, h1.put hT hK x y p vs hx', ⟨_, _, cQ.set h1.lt, h2, by rw [List.map_append, h3]; rfl, fun e he => ?_⟩, gA w M _⟩
 rcases List.mem_append.1 he with he | he
 ·exact h4 e he
 obtain rfl := List.mem_singleton.1 he
 exact ⟨hl, hr⟩
theorem qZ {X : VT} (h : aI (bE X) X.m = true) {k j : Nat} (hk : k < X.m) : bP (X.f k).id (j : Int) (cN X k ++ dN (X.f k) j) 0 = none := by
 rw [fK]
 intro e he q
 rcases List.mem_append.1 he with he | he
 ·obtain ⟨k', hk', hm⟩ := eE.1 he
  obtain ⟨i, _, _, rfl⟩ := dH.1 hm
  have := fL h (i := k') (j := k) hk' hk
  have := q.1
  simp only at this
  omega
 obtain ⟨i, hi, _, rfl⟩ := dH.1 he
 have := q.2
 simp only at this
 omega
theorem ly (X : VT) (a : Option Addr) (c : Nat) (w : World) (hs : Rd w 0 (.list 13 X.m (fun i => aa (dT (X.f i)))) (.slice a X.m c)) (hrow : aI (bE X) X.m = true) (hm : X.m <= 16) :
 Calls prog 147 #[.agg (tL X a X.m c).toArray] w fun e w' => ∃ M, e = .returned (.map (some M)) /\ bR w w' M (cN X X.m) /\ Below w.heap.size w w' := by
 have HS : Hid (Rd w 0 (.list 13 X.m (fun i => aa (dT (X.f i)))) (.slice a X.m c) /\ aI (bE X) X.m = true) := ⟨hs, hrow⟩
 have hmm := @run_makeMap prog
 obtain ⟨W, hW⟩ : ∃ W, W = (w.alloc (.cells (tL X a X.m c).toArray 38)).alloc (.map #[] 0) := ⟨_, rfl⟩
 obtain ⟨M, hM⟩ : ∃ M, M = w.heap.size + 1 := ⟨_, rfl⟩
 obtain ⟨B, hB⟩ : ∃ B, B = w.heap.size := ⟨_, rfl⟩
 have G0 : Hid (bR w W M (cN X 0) /\ Below w.heap.size w W) := by
  rw [hW, hM]
  have := cQ.new (α := VP) (w.alloc (.cells (tL X a X.m c).toArray 38))
  exact ⟨⟨[], 0, by simpa using this, by omega, rfl, fun e he => by cases he⟩, ae (ac _ _) (ac _ _)⟩
 obtain ⟨⟨y0, y1⟩, yf⟩ := ((by rw [hW, hB]; exact (ag.new _ _ _).below (ac _ _) : ag W B 38 (tL X a X.m c).toArray)).tc2
 clear hs yf hrow
 go_enter func147, ntmps147
 go_upto_region 2 with fail
 rw [<- hW, <- hM, <- hB]
 clear hW hM hmm hB
 go_wp2
 clear y0 y1
 go_loopw [12] (fun i wr => ∃ (k : Nat), k <= X.m /\ i = .int .i64 k /\ bR w wr M (cN X k) /\ Below w.heap.size w wr) (fun i _ => X.m - (intOf i).toNat)
 case atStart => exact ⟨0, Nat.zero_le _, rfl, G0.out⟩
 case round =>
  obtain ⟨k, hk, rfl, HH⟩ := hrel
  by_cases hlt : k < X.m
  ·have hi : (k : Int) < (X.m : Int) := by omega
   obtain ⟨b, off, vs, rfl, _, hb0, hlen, hr, hrd⟩ := HS.out.1.at hlt
   obtain ⟨a1, c1, a2, c2, a3, c3, a4, c4, a5, c5, rfl, r1, r2, r3, r4, r5⟩ := VD.cells hrd hlen
   have hr9 := ax hr hb0 HH.2
   have d09 : wr.cell? ⟨b, off + k * 13, none⟩ = _ := hr9 0 _ rfl
   have d19 := hr9 1 _ rfl
   have d29 := hr9 2 _ rfl
   have d39 := hr9 3 _ rfl
   have d49 := hr9 4 _ rfl
   have d59 := hr9 5 _ rfl
   have d69 := hr9 6 _ rfl
   have d79 := hr9 7 _ rfl
   have d89 := hr9 8 _ rfl
   have d99 := hr9 9 _ rfl
   have d109 := hr9 10 _ rfl
   have d119 := hr9 11 _ rfl
   have d129 := hr9 12 _ rfl
   have hnp : (X.f k).hs.length = (X.f k).np := iB HS.out.2 hlt
   have hn3 : (X.f k).hs.length <= 8 := pz HS.out.2 hlt
   have HE : Hid (Rd w 0 (.list 8 (X.f k).np (fun i => aa (pT ((X.f k).pt i)))) (.slice a3 (X.f k).np c3) /\ Rd w 0 (af (X.f k).hs) (.slice a4 (X.f k).hs.length c4) /\ (X.f k).hs.length = (X.f k).np) := ⟨r3, r4, hnp⟩
   obtain ⟨W5, hW5⟩ : ∃ W5, W5 = wr.alloc (.cells (dL (X.f k) a1 ((X.f k).q.ws.length) c1 a2 ((X.f k).q.bs.length) c2 a3 ((X.f k).np) c3 a4 ((X.f k).hs.length) c4 a5 ((X.f k).nt) c5).toArray 141) := ⟨_, rfl⟩
   obtain ⟨G, hG⟩ : ∃ G, G = wr.heap.size := ⟨_, rfl⟩
   have bW : Below wr.heap.size wr W5 := by rw [hW5]; exact ac _ _
   have HP : Hid (bR w W5 M (cN X k ++ dN (X.f k) 0) /\ ag W5 G 141 (dL (X.f k) a1 ((X.f k).q.ws.length) c1 a2 ((X.f k).q.bs.length) c2 a3 ((X.f k).np) c3 a4 ((X.f k).hs.length) c4 a5 ((X.f k).nt) c5).toArray /\ Below w.heap.size w W5) := ⟨by rw [show dN (X.f k) 0 = [] from rfl, List.append_nil]; exact HH.1.below bW, by rw [hW5, hG]; exact ag.new _ _ _, ae HH.2 bW⟩
   have HG : Hid (M ≠ G /\ w.heap.size <= M) := ⟨by have := HH.1.lt; omega, HH.1.lt.1⟩
   have aV : W5.cell? ⟨G, 11, none⟩ = some (.slice a4 (X.f k).hs.length c4) := HP.out.2.1.rng 11 _ rfl
   clear HH hr hb0 r1 r2 r3 r4 r5 hlen hrd G0 bW hr9 hnp
   go_upto_region 5 with fail
   rw [<- hW5, <- hG]
   clear hW5 hG d09 d19 d29 d39 d49 d59 d69 d79 d89 d99 d109 d119 d129
   try go_simp
   go_wp2
   clear aV
   go_loopw [19] (fun i wr => ∃ (j : Nat), j <= (X.f k).hs.length /\ i = .int .i64 j /\ bR w wr M (cN X k ++ dN (X.f k) j) /\ ag wr G 141 (dL (X.f k) a1 ((X.f k).q.ws.length) c1 a2 ((X.f k).q.bs.length) c2 a3 ((X.f k).np) c3 a4 ((X.f k).hs.length) c4 a5 ((X.f k).nt) c5).toArray /\ Below w.heap.size w wr) (fun i _ => (X.f k).hs.length - (intOf i).toNat)
   case atStart => exact ⟨0, Nat.zero_le _, rfl, HP.out⟩
   case round =>
    obtain ⟨j, hj, rfl, HH⟩ := hrel
    clear HP
    by_cases hlj : j < (X.f k).hs.length
    ·have hi2 : (j : Int) < ((X.f k).hs.length : Int) := by omega
     have hi3 : (j : Int) < ((X.f k).np : Int) := by have := HE.out.2.2; omega
     obtain ⟨b4, o4, rfl, hb4, d0⟩ := (HE.out.2.1.below HH.2.2).bit (n := 0) (k := j) hlj
     obtain ⟨b3, o3, vs, rfl, _, hb3, hlen, hr3, hrd⟩ := HE.out.1.at (k := j) (by have := HE.out.2.2; omega)
     obtain ⟨p1, k1, p2, k2, rfl, rp1, rp2⟩ := VP.cells hrd hlen
     have HQ : Hid (b3 < wr.heap.size /\ wr.rangeAt b3 (o3 + j * 8) (pL ((X.f k).pt j) p1 ((X.f k).pt j).q.ws.length k1 p2 ((X.f k).pt j).q.bs.length k2) /\ ay w 0 (aa (pT ((X.f k).pt j))) (pL ((X.f k).pt j) p1 ((X.f k).pt j).q.ws.length k1 p2 ((X.f k).pt j).q.bs.length k2) /\ bP (X.f k).id (j : Int) (cN X k ++ dN (X.f k) j) 0 = none) := ⟨Nat.lt_of_lt_of_le hb3 HH.2.2.size, ax hr3 hb3 HH.2.2, hrd, qZ HS.out.2 hlt⟩
     clear hb4 hb3 hlen hr3 hrd rp1 rp2
     obtain ⟨x, hx⟩ : ∃ x, (X.f k).hs.getD j false = x := ⟨_, rfl⟩
     rw [hx] at d0
     have HB : Hid ((X.f k).hs.getD j false = x) := hx
     have HK : Hid (bR w wr M (cN X k ++ dN (X.f k) j) /\ ag wr G 141 (dL (X.f k) a1 ((X.f k).q.ws.length) c1 a2 ((X.f k).q.bs.length) c2 (some ⟨b3, o3, none⟩) ((X.f k).np) c3 (some ⟨b4, o4, none⟩) ((X.f k).hs.length) c4 a5 ((X.f k).nt) c5).toArray /\ Below w.heap.size w wr) := HH
     clear hx HH
     cases x with
     | true =>
      go_wp2
      go_roundw
      case rel => exact ⟨j + 1, by omega, by go_num, by rw [show dN (X.f k) (j + 1) = dN (X.f k) j from by rw [dN, HB.out]; simp]; exact HK.out.1, HK.out.2⟩
      case measure => simp [intOf]; omega
     | false =>
     go_upto_region 9 with fail
     clear d0
     try go_simp
     refine wp_region_any (by kernel_rfl) ?_
     refine jg 10 (fun u => Below wr.heap.size wr u) (fun j' σ u => bR w u M (cN X k ++ dN (X.f k) (j + 1)) /\ ag u G 141 (dL (X.f k) a1 ((X.f k).q.ws.length) c1 a2 ((X.f k).q.bs.length) c2 (some ⟨b3, o3, none⟩) ((X.f k).np) c3 (some ⟨b4, o4, none⟩) ((X.f k).hs.length) c4 a5 ((X.f k).nt) c5).toArray /\ Below w.heap.size w u) (fun i v u => match i with
      | 0 => v = .map (some M)
      | 1 => v = .pointer (some ⟨G, 0, none⟩)
      | 2 => v = .int .i64 (X.f k).id
      | 3 => v = .int .i64 (j : Int)
      | 4 => v = .agg #[.int .i64 (X.f k).id, .int .i64 (j : Int)]
      | 5 => v = .pointer (some ⟨G, 10, none⟩)
      | 6 => v = .slice (some ⟨b3, o3, none⟩) ((X.f k).np) c3
      | 7 => v = .int .i64 (j : Int)
      | 8 => v = .pointer (some ⟨b3, o3 + j * 8, none⟩)
      | 9 => v = .agg (pL ((X.f k).pt j) p1 ((X.f k).pt j).q.ws.length k1 p2 ((X.f k).pt j).q.bs.length k2).toArray
      | _ => True) (by kernel_rfl) (by kernel_rfl) (by decide) (by kernel_rfl) (fun u u' h hb => ae h hb) ?_ (by first | exact Below.refl _ _ | exact (Below.refl _ _).drew) ?_ ?_ ?_ ?_ _ _ rfl (by decide) (fun i => by simp [Array.getD]; try (split <;> rfl))
     ·intro i v u u' h hb
      match i, h with
      | 0, h => exact h
      | 1, h => exact h
      | 2, h => exact h
      | 3, h => exact h
      | 4, h => exact h
      | 5, h => exact h
      | 6, h => exact h
      | 7, h => exact h
      | 8, h => exact h
      | 9, h => exact h
      | _ + 10, _ => trivial
     rotate_left
     ·intro u i o ρ hi hR ho hρ hc hf hd
      obtain rfl | rfl | rfl | rfl | rfl | rfl | rfl | rfl | rfl | rfl : i = 0 \/ i = 1 \/ i = 2 \/ i = 3 \/ i = 4 \/ i = 5 \/ i = 6 \/ i = 7 \/ i = 8 \/ i = 9 := by omega
      all_goals (simp only [List.getElem?_toArray, List.getElem?_cons_zero, List.getElem?_cons_succ, Option.some.injEq] at ho; subst ho)
      ·have s3 : ρ (.tmp 3) = .map (some M) := (hρ 3 (by kernel_rfl)).trans rfl
       exact .inl ⟨rfl, .inl ⟨_, u, rfl, s3, Below.refl _ _⟩⟩
      ·have s5 : ρ (.tmp 5) = .pointer (some ⟨G, 0, none⟩) := (hρ 5 (by kernel_rfl)).trans rfl
       exact .inl ⟨rfl, .inl ⟨.pointer (some ⟨G, 0, none⟩), u, aq rfl s5 (by go_simp), rfl, Below.refl _ _⟩⟩
      ·have h1 : ρ (.tmp 27) = .pointer (some ⟨G, 0, none⟩) := dq hd 1 27
       have y9 : u.cell? ⟨G, 0, none⟩ = some (.int .i64 (X.f k).id) := (HK.out.2.1.below hR).rng 0 _ rfl
       have hr : (Instr.loadAt 3 (.pointer (some ⟨G, 0, none⟩))).run prog u = .ok (.int .i64 (X.f k).id) u := by go_simp
       exact .inl ⟨rfl, .inl ⟨.int .i64 (X.f k).id, u, ai rfl h1 hr, rfl, Below.refl _ _⟩⟩
      ·have s6 : ρ (.tmp 6) = .int .i64 (j : Int) := (hρ 6 (by kernel_rfl)).trans rfl
       exact .inl ⟨rfl, .inl ⟨_, u, rfl, s6, Below.refl _ _⟩⟩
      ·have h2 : ρ (.tmp 28) = .int .i64 (X.f k).id := dq hd 2 28
       have h3 : ρ (.tmp 29) = .int .i64 (j : Int) := dq hd 3 29
       exact .inl ⟨rfl, .inl ⟨_, u, lP rfl (qs := #[(0, .int .i64 (X.f k).id), (1, .int .i64 (j : Int))]) (by simp [h2, h3]) (by kernel_rfl), rfl, Below.refl _ _⟩⟩
      ·have s5 : ρ (.tmp 5) = .pointer (some ⟨G, 0, none⟩) := (hρ 5 (by kernel_rfl)).trans rfl
       exact .inl ⟨rfl, .inl ⟨.pointer (some ⟨G, 10, none⟩), u, aq rfl s5 (by go_simp), rfl, Below.refl _ _⟩⟩
      ·have h5 : ρ (.tmp 31) = .pointer (some ⟨G, 10, none⟩) := dq hd 5 31
       have y9 : u.cell? ⟨G, 10, none⟩ = some (.slice (some ⟨b3, o3, none⟩) ((X.f k).np) c3) := (HK.out.2.1.below hR).rng 10 _ rfl
       have hr : (Instr.loadAt 138 (.pointer (some ⟨G, 10, none⟩))).run prog u = .ok (.slice (some ⟨b3, o3, none⟩) ((X.f k).np) c3) u := by go_simp
       exact .inl ⟨rfl, .inl ⟨.slice (some ⟨b3, o3, none⟩) ((X.f k).np) c3, u, ai rfl h5 hr, rfl, Below.refl _ _⟩⟩
      ·have s6 : ρ (.tmp 6) = .int .i64 (j : Int) := (hρ 6 (by kernel_rfl)).trans rfl
       exact .inl ⟨rfl, .inl ⟨_, u, rfl, s6, Below.refl _ _⟩⟩
      ·have h6 : ρ (.tmp 32) = .slice (some ⟨b3, o3, none⟩) ((X.f k).np) c3 := dq hd 6 32
       have h7 : ρ (.tmp 33) = .int .i64 (j : Int) := dq hd 7 33
       exact .inl ⟨rfl, .inl ⟨.pointer (some ⟨b3, o3 + j * 8, none⟩), u, au rfl h6 h7 (by go_simp), rfl, Below.refl _ _⟩⟩
      have h8 : ρ (.tmp 34) = .pointer (some ⟨b3, o3 + j * 8, none⟩) := dq hd 8 34
      have hr : (Instr.loadAt 144 (.pointer (some ⟨b3, o3 + j * 8, none⟩))).run prog u = .ok (.agg (pL ((X.f k).pt j) p1 ((X.f k).pt j).q.ws.length k1 p2 ((X.f k).pt j).q.bs.length k2).toArray) u := run_loadAt_mid u b3 (o3 + j * 8) 144 (pL ((X.f k).pt j) p1 ((X.f k).pt j).q.ws.length k1 p2 ((X.f k).pt j).q.bs.length k2) _ (ax HQ.out.2.1 HQ.out.1 hR) underlying144 rfl (by kernel_rfl)
      exact .inl ⟨rfl, .inl ⟨.agg (pL ((X.f k).pt j) p1 ((X.f k).pt j).q.ws.length k1 p2 ((X.f k).pt j).q.bs.length k2).toArray, u, ai rfl h8 hr, rfl, Below.refl _ _⟩⟩
     ·intro u o ρ hR ho hρ hc hf hv
      simp only [List.getElem?_toArray, List.getElem?_cons_zero, List.getElem?_cons_succ, Option.some.injEq] at ho
      subst ho
      have h0 : ρ (.tmp 26) = .map (some M) := hv 0 26 (by decide) rfl
      have h4 : ρ (.tmp 30) = .agg #[.int .i64 (X.f k).id, .int .i64 (j : Int)] := hv 4 30 (by decide) rfl
      have h9 : ρ (.tmp 35) = .agg (pL ((X.f k).pt j) p1 ((X.f k).pt j).q.ws.length k1 p2 ((X.f k).pt j).q.bs.length k2).toArray := hv 9 35 (by decide) rfl
      have bb := ae HK.out.2.2 hR
      obtain ⟨w', hrun, hM, hg⟩ := (HK.out.1.below hR).put om underlying213 (X.f k).id (j : Int) ((X.f k).pt j) (pL ((X.f k).pt j) p1 ((X.f k).pt j).q.ws.length k1 p2 ((X.f k).pt j).q.bs.length k2) HQ.out.2.2.2 rfl HQ.out.2.2.1
      exact ⟨rfl, .inr (.inr ⟨rfl, w', qV rfl h0 h4 h9 hrun, (by rw [show dN (X.f k) (j + 1) = dN (X.f k) j ++ [((X.f k).id, (j : Int), (X.f k).pt j)] from by rw [dN, HB.out]; rfl, <- List.append_assoc]; exact hM), (HK.out.2.1.below hR).grown hg (fun e => HG.out.1 (Option.some.inj e)), bb.grown hg bb.size (fun j hj => by obtain rfl := Option.some.inj hj; exact HG.out.2)⟩)⟩
     ·intro u i o ρ hi ho hE hρ hc hf
      have hi2 : i + 1 < 11 := by
       have := (Array.getElem?_eq_some_iff.1 ho).1
       simpa using this
      omega
     intro vs σ u hE hvs
     have H2 : Hid (bR w u M (cN X k ++ dN (X.f k) (j + 1)) /\ ag u G 141 (dL (X.f k) a1 ((X.f k).q.ws.length) c1 a2 ((X.f k).q.bs.length) c2 (some ⟨b3, o3, none⟩) ((X.f k).np) c3 (some ⟨b4, o4, none⟩) ((X.f k).hs.length) c4 a5 ((X.f k).nt) c5).toArray /\ Below w.heap.size w u) := hE
     simp only [bm]
     clear hvs hE HK HQ HB
     try go_simp
     go_wp2
     go_roundw
     case rel => exact ⟨j + 1, by omega, by go_num, H2.out⟩
     case measure => simp [intOf]; omega
    have hi2 : ¬ (j : Int) < ((X.f k).hs.length : Int) := by omega
    have e9 : j = (X.f k).hs.length := by omega
    have HK : Hid (bR w wr M (cN X (k + 1)) /\ Below w.heap.size w wr) := ⟨by rw [e9] at HH; exact HH.1, HH.2.2⟩
    clear HH e9
    go_wp2
    go_roundw
    case rel => exact ⟨k + 1, by omega, by go_num, HK.out⟩
    case measure => simp [intOf]; omega
  have hi : ¬ (k : Int) < (X.m : Int) := by omega
  have e9 : k = X.m := by omega
  have HK : Hid (bR w wr M (cN X X.m) /\ Below w.heap.size w wr) := by rw [<- e9]; exact HH
  clear HH G0 e9
  go_wp2
  go_ret
  exact ⟨M, rfl, HK.out⟩
def rJ (w : World) (M : Nat) (x y : Int) (v : Value) : Prop := (Instr.lookup 213 (.map (some M)) (.agg #[.int .i64 x, .int .i64 y]) true).run prog w = .ok v w
def wk (w : World) (M : Nat) (x y : Int) (w' : World) : Prop := ∀ ty, (Builtin.delete_ #[213, 216] ty #[.map (some M), .agg #[.int .i64 x, .int .i64 y]]).run prog w = .ok (.tuple #[]) w'
theorem pE (w : World) : (zeroValue 144).run prog w = .ok (.agg #[.int .i64 0, .int .i64 0, .int .i64 0, .int .i64 0, .int .i64 0, .slice none 0 0, .slice none 0 0, .int .i64 0]) w := by kernel_rfl
theorem bR.lkN {w0 w : World} {M : Nat} {O : List (Int × Int × VP)} (h : bR w0 w M O) {x y : Int} (hx : bP x y O 0 = none) : rJ w M x y (.tuple #[.agg #[.int .i64 0, .int .i64 0, .int .i64 0, .int .i64 0, .int .i64 0, .slice none 0 0, .slice none 0 0, .int .i64 0], .bool false]) := by
 obtain ⟨l, c, h1, h2, h3, h4⟩ := h
 have h5 := bR.ix h3 x y
 rw [hx] at h5
 have h6 := h1.look underlying213 om (pE w) x y
 unfold rJ
 cases e : bP x y l 0 with
 | none => rw [e] at h6; exact h6
 | some r => rw [e] at h5; cases h5
theorem bR.lkS {w0 w : World} {M : Nat} {O : List (Int × Int × VP)} (h : bR w0 w M O) {x y : Int} {r : Nat × VP} (hx : bP x y O 0 = some r) : ∃ vs, vs.length = 8 /\ ay w0 0 (aa (pT r.2)) vs /\ rJ w M x y (.tuple #[.agg vs.toArray, .bool true]) := by
 obtain ⟨l, c, h1, h2, h3, h4⟩ := h
 have h5 := bR.ix h3 x y
 rw [hx] at h5
 have h6 := h1.look underlying213 om (pE w) x y
 unfold rJ
 cases e : bP x y l 0 with
 | none => rw [e] at h5; cases h5
 | some r' =>
  rw [e] at h5 h6
  obtain rfl := Option.some.inj h5
  obtain ⟨k, e', _, k2, _, _, k5⟩ := fd e
  have h9 := h4 e' (List.mem_of_getElem? k2)
  rw [k5] at h9
  exact ⟨r'.2.2.1, h9.1, h9.2, h6⟩
theorem bR.dl {w0 w : World} {M : Nat} {O : List (Int × Int × VP)} (h : bR w0 w M O) {x y : Int} {r : Nat × VP} (hx : bP x y O 0 = some r) : ∃ w', wk w M x y w' /\ bR w0 w' M (O.eraseIdx r.1) /\ w.grownBy w' (some M) := by
 obtain ⟨l, c, h1, h2, h3, h4⟩ := h
 have h5 := bR.ix h3 x y
 rw [hx] at h5
 cases e : bP x y l 0 with
 | none => rw [e] at h5; cases h5
 | some r' =>
  rw [e] at h5
  obtain rfl := Option.some.inj h5
  refine ⟨_, fun ty => h1.del (ty := ty) (A := #[213, 216]) rfl underlying213 om x y e, ⟨_, _, cQ.set h1.lt, h2, ?_, fun e' he => h4 e' (List.mem_of_mem_eraseIdx he)⟩, gA w M _⟩
  rw [<- h3]
  exact (fu _ _ _).symm
theorem bR.len {w0 w : World} {M : Nat} {O : List (Int × Int × VP)} (h : bR w0 w M O) (ty : TypeId) : (Builtin.len_ #[213] ty #[.map (some M)]).run prog w = .ok (.int .i64 (O.length : Int)) w := by
 obtain ⟨l, c, h1, h2, h3, h4⟩ := h
 rw [<- h3, List.length_map]
 exact h1.len underlying213
theorem jL {P : Program} {ops : Array Oper} {rest : List Oper} {o : Oper} {a : Act} {w : World} {Q : Exit -> Act -> World -> Prop} (hgd : o.guard = none) (m x : Operand) (t : TypeId) (hop : o.op = .lookup t m x true) (vm vk v : Value) (hm : a.eval m = vm) (hk : a.eval x = vk) (hr : (Instr.lookup t vm vk true).run P w = .ok v w) (h : wpList P ops Q rest (a.put o.dst v) w) : wpList P ops Q (o :: rest) a w := by
 refine wpList_plain hgd fun K hK => ?_
 unfold Oper.wp execOp
 simp only [hop, hm, hk]
 rw [Sem.run_bind, hr]
 exact hK _ _ h
theorem oo {P : Program} {ops : Array Oper} {rest : List Oper} {o : Oper} {a : Act} {w w' : World} {Q : Exit -> Act -> World -> Prop} (hgd : o.guard = none) (m x : Operand) (A : Array TypeId) (hop : o.op = .call { callee := .builtin .delete, args := #[m, x], argTypes := A }) (vm vk v : Value) (hm : a.eval m = vm) (hk : a.eval x = vk) (hr : ∀ ty, (Builtin.delete_ A ty #[vm, vk]).run P w = .ok v w') (h : wpList P ops Q rest (a.put o.dst v) w') : wpList P ops Q (o :: rest) a w := by
 refine wpList_plain hgd fun K hK => ?_
 unfold Oper.wp execOp
 simp only [hop, resolve, invoke, builtin, Sem.run_bind, Sem.run_pure, Result.andThen_ok, List.map_toArray, List.map_cons, List.map_nil, hm, hk, hr]
 exact hK _ _ h
theorem jM {P : Program} {ops : Array Oper} {rest : List Oper} {o : Oper} {a : Act} {w : World} {Q : Exit -> Act -> World -> Prop} (hgd : o.guard = none) (m : Operand) (t : TypeId) (hop : o.op = .call { callee := .builtin .len, args := #[m], argTypes := #[t] }) (vm v : Value) (hm : a.eval m = vm) (hr : ∀ ty, (Builtin.len_ #[t] ty #[vm]).run P w = .ok v w) (h : wpList P ops Q rest (a.put o.dst v) w) : wpList P ops Q (o :: rest) a w := by
 refine wpList_plain hgd fun K hK => ?_
 unfold Oper.wp execOp
 simp only [hop, resolve, invoke, builtin, Sem.run_bind, Sem.run_pure, Result.andThen_ok, List.map_toArray, List.map_cons, List.map_nil, hm, hr]
 exact hK _ _ h
def dM (X : VF) (k i : Nat) : List (Int × Int × (VP -> Bool)) := ((cY (X.lf k)).map (fN k)).drop i ++ fX X.lf (k + 1) (X.nl - (k + 1))
theorem pF {X : VF} {k : Nat} (h : k < X.nl) : dM X k 0 = fX X.lf k (X.nl - k) := by
 unfold dM fX
 rw [show X.nl - k = (X.nl - (k + 1)) + 1 by omega]
 rfl
theorem mi {X : VF} {k : Nat} : dM X k (cY (X.lf k)).length = fX X.lf (k + 1) (X.nl - (k + 1)) := by
 unfold dM
 rw [List.drop_eq_nil_of_le (by simp), List.nil_append]
theorem iE {X : VF} {k i : Nat} (h : i < (cY (X.lf k)).length) : dM X k i = fN k (aK (X.lf k) i) :: dM X k (i + 1) := by
 unfold dM
 rw [List.drop_eq_getElem_cons (by simpa using h), List.cons_append, List.getElem_map]
 congr 2
 unfold aK
 rw [List.getD_eq_getElem?_getD, List.getElem?_eq_getElem h]
 rfl
theorem q8 {R : List (Int × Int × VP)} {c : Int × Int × (VP -> Bool)} {cs : List (Int × Int × (VP -> Bool))} (h : bP c.1 c.2.1 R 0 = none) : eP R (c :: cs) = false := by
 unfold eP; rw [h]
theorem q9 {R : List (Int × Int × VP)} {c : Int × Int × (VP -> Bool)} {cs : List (Int × Int × (VP -> Bool))} {r : Nat × VP} (h : bP c.1 c.2.1 R 0 = some r) : eP R (c :: cs) = (c.2.2 r.2 && eP (R.eraseIdx r.1) cs) := by
 conv => lhs; unfold eP
 rw [h]
theorem pG {N : VN} (h : iT N) {i : Nat} (hi : i < (cY N).length) : ce (aK N i).q := by
 unfold aK
 rw [List.getD_eq_getElem?_getD]
 cases hb : N.bz with
 | true =>
  cases i with
  | zero => rw [fE hb]; exact ⟨h.2.2.1, h.2.2.2⟩
  | succ j =>
   rw [dZ, hb] at hi
   simp only [if_true] at hi
   rw [gp hb (by omega)]
   exact h.2.1 j (by omega)
 | false =>
  rw [dZ, hb] at hi
  simp only [Bool.false_eq_true, if_false] at hi
  rw [gr hb (by omega)]
  exact h.2.1 i (by omega)
theorem uB {X : VT} (h : jF X) (hrow : aI (bE X) X.m = true) {n : Nat} (hn : n <= X.m) {e : Int × Int × VP} (he : e ∈ cN X n) : ce e.2.2.q := by
 obtain ⟨k, hk, hm⟩ := eE.1 he
 obtain ⟨i, hi, _, rfl⟩ := dH.1 hm
 rw [iB hrow (by omega)] at hi
 exact (h.2 k (by omega)).2.2.2.2.1 i hi
theorem dK.ln {w w' : World} {g o k : Nat} {X : VF} (h : dK w g o X) (hk : k < X.nl) (hb : Below w.heap.size w w') {a : Option Addr} {n c : Nat} (hc : w'.cell? ⟨g, o + 6, none⟩ = some (.slice a n c)) : ∃ (g0 f0 : Nat) (cc : Nat) (ss : Unit), a = some ⟨g0, f0, none⟩ /\ True /\ True /\ True /\ True /\ True /\ qX w g0 (f0 + k * 17) (X.lf k) := by
 obtain ⟨a1, c1, a2, c2, a3, c3, ⟨y0, y1, y2, y3, y4, y5, y6, y7, y8, y9, y10⟩, r1, r2, r3⟩ := h.tc
 have e := (hb.cell (p := ⟨g, o + 6, none⟩) h.1).trans y6
 rw [hc] at e
 simp only [Option.some.injEq, Value.slice.injEq] at e
 obtain ⟨rfl, -, -⟩ := e
 obtain ⟨b, off, vs, rfl, _, hb0, hlen, hr, hrd⟩ := r3.at hk
 exact ⟨b, off, 0, (), rfl, trivial, trivial, trivial, trivial, trivial, hb0, vs, hlen, hr, hrd⟩
theorem ku (X : VF) (g o : Nat) (w : World) (h : dK w g o X) (hrow : aI (bE X.op) X.op.m = true) (hm : X.op.m <= 16) (hn : X.nl <= 6) (hb : ∀ k, k < X.nl -> iT (X.lf k)) (hbt : jF X.op) (hq : ∀ k, k < X.nl -> (cY (X.lf k)).length <= 41) :
 Calls prog 91 #[.pointer (some ⟨g, o, none⟩)] w fun e w' => e = .returned (.bool (ch X)) /\ Below w.heap.size w w' := by
 have HP : Hid (dK w g o X /\ (∀ k, k < X.nl -> iT (X.lf k)) /\ jF X.op /\ aI (bE X.op) X.op.m = true /\ (∀ k, k < X.nl -> (cY (X.lf k)).length <= 41)) := ⟨h, hb, hbt, hrow, hq⟩
 obtain ⟨a1, c1, a2, c2, a3, c3, ⟨y0, y1, y2, y3, y4, y5, y6, y7, y8, y9, y10⟩, r1, r2, r3⟩ := h.tc
 have HR : Hid (Rd w 0 (.list 13 X.op.m (fun i => aa (dT (X.op.f i)))) (.slice a2 X.op.m c2)) := r2
 clear r1 r2 r3 h hb hbt hrow hq
 go_enter func91, ntmps91
 go_wp2_with fail
 refine (ly X.op a2 c2 _ HR.out HP.out.2.2.2.1 hm).mono ?_
 rintro e w1 ⟨M, rfl, hM, b1⟩
 have G0 : Hid (bR w w1 M (cN X.op X.op.m) /\ Below w.heap.size w w1) := ⟨hM, b1⟩
 clear hM b1 y0 y1 y2 y3 y4 y5 y6 y7 y8 y9 y10
 obtain ⟨f1, k1, f2, k2, f3, k3, ⟨y0, y1, y2, y3, y4, y5, y6, y7, y8, y9, y10⟩, r1, r2, r3⟩ := (HP.out.1.below G0.out.2).tc
 clear r1 r2 r3 HR
 go_wp2
 clear y0 y1 y2 y3 y4 y5 y6 y7 y8 y9 y10
 go_loopw [20] (fun i wr => ∃ (k : Nat) (R : List (Int × Int × VP)), k <= X.nl /\ i = .int .i64 k /\ bR w wr M R /\ ch X = eP R (fX X.lf k (X.nl - k)) /\ (∀ e ∈ R, ce e.2.2.q) /\ Below w.heap.size w wr) (fun i _ => X.nl - (intOf i).toNat)
 case atStart => exact ⟨0, _, Nat.zero_le _, rfl, G0.out.1, rfl, fun e he => uB HP.out.2.2.1 HP.out.2.2.2.1 (Nat.le_refl _) he, G0.out.2⟩
 case round =>
  clear G0
  obtain ⟨k, R, hk, rfl, HH⟩ := hrel
  obtain ⟨f1, k1, f2, k2, f3, k3, ⟨y0, y1, y2, y3, y4, y5, y6, y7, y8, y9, y10⟩, r1, r2, r3⟩ := (HP.out.1.below HH.2.2.2).tc
  clear r1 r2
  by_cases hlt : k < X.nl
  ·have hi : (k : Int) < (X.nl : Int) := by omega
   obtain ⟨g0, ff, cc, ss, hh1, hh2, hh3, hh4, hh5, hh6, hLn⟩ := dK.ln HP.out.1 hlt HH.2.2.2 y6
   subst hh1
   have HK : Hid (bR w wr M R /\ ch X = eP R (dM X k 0) /\ (∀ e ∈ R, ce e.2.2.q) /\ Below w.heap.size w wr /\ qX w g0 (ff + k * 17) (X.lf k)) := ⟨HH.1, by rw [pF hlt]; exact HH.2.1, HH.2.2.1, HH.2.2.2, hLn⟩
   clear HH r3 hLn hh2 hh3 hh4 hh5 hh6
   go_wp2_with fail
   refine (pD (X.lf k) g0 (ff + k * 17) w _ HK.out.2.2.2.1 HK.out.2.2.2.2 (HP.out.2.1 k hlt).1).mono ?_
   rintro e w2 ⟨v, rfl, hC, b2⟩
   obtain ⟨av, cv, rfl, hle, _⟩ := id hC
   have hq41 : (cY (X.lf k)).length <= 41 := HP.out.2.2.2.2 k hlt
   have HS : Hid (bR w w2 M R /\ ch X = eP R (dM X k 0) /\ (∀ e ∈ R, ce e.2.2.q) /\ dF w wr.heap.size w2 9 (.slice av (cY (X.lf k)).length cv) (cY (X.lf k)).length (fun i => aO (aK (X.lf k) i)) /\ Below w.heap.size w w2) := ⟨HK.out.1.below b2, HK.out.2.1, HK.out.2.2.1, hC, ae HK.out.2.2.2.1 b2⟩
   have HM : Hid (w.heap.size <= M /\ M < wr.heap.size) := HK.out.1.lt
   clear hC b2 y0 y1 y2 y3 y4 y5 y6 y7 y8 y9 y10 HK
   obtain ⟨LO, hLO⟩ : ∃ n, n = wr.heap.size := ⟨_, rfl⟩
   rw [<- hLO] at HS HM
   clear hLO
   obtain ⟨nc, hnc⟩ : ∃ n, n = (cY (X.lf k)).length := ⟨_, rfl⟩
   rw [<- hnc] at HS hq41 hle
   have HN : Hid (nc = (cY (X.lf k)).length) := hnc
   rw [<- hnc]
   clear hnc
   go_wp2
   go_loopw [31] (fun i wr => ∃ (i' : Nat) (R : List (Int × Int × VP)), i' <= nc /\ i = .int .i64 i' /\ bR w wr M R /\ ch X = eP R (dM X k i') /\ (∀ e ∈ R, ce e.2.2.q) /\ dF w LO wr 9 (.slice av nc cv) nc (fun i => aO (aK (X.lf k) i)) /\ Below w.heap.size w wr) (fun i _ => nc - (intOf i).toNat)
   case atStart => exact ⟨0, R, Nat.zero_le _, rfl, HS.out⟩
   case round =>
    clear HS
    obtain ⟨i, R, hk2, rfl, HH⟩ := hrel
    by_cases hlj : i < nc
    ·have hi2 : (i : Int) < (nc : Int) := by omega
     obtain ⟨g1, o1, vs, rfl, hg1, hvl, hr, hrd⟩ := HH.2.2.2.1.at hlj
     obtain ⟨e1, k1, e2, k2, rfl, q1, q2⟩ := VL.cells hrd hvl
     have HQ : Hid (ay w 0 (aa (aO (aK (X.lf k) i))) (bK (aK (X.lf k) i) e1 (aK (X.lf k) i).q.ws.length k1 e2 (aK (X.lf k) i).q.bs.length k2) /\ ce (aK (X.lf k) i).q) := ⟨hrd, pG (HP.out.2.1 k hlt) (by have := HN.out; omega)⟩
     have HK : Hid (_) := HH
     have d09 : wr.cell? ⟨g1, o1 + i * 9, none⟩ = _ := hr 0 _ rfl
     have d19 := hr 1 _ rfl
     have d29 := hr 2 _ rfl
     have d39 := hr 3 _ rfl
     have d49 := hr 4 _ rfl
     have d59 := hr 5 _ rfl
     have d69 := hr 6 _ rfl
     have d79 := hr 7 _ rfl
     have d89 := hr 8 _ rfl
     obtain ⟨W1, hW1⟩ : ∃ W, W = wr.alloc (.cells (bK (aK (X.lf k) i) e1 (aK (X.lf k) i).q.ws.length k1 e2 (aK (X.lf k) i).q.bs.length k2).toArray 86) := ⟨_, rfl⟩
     obtain ⟨G1, hG1⟩ : ∃ G, G = wr.heap.size := ⟨_, rfl⟩
     obtain ⟨W2, hW2⟩ : ∃ W, W = W1.alloc (.cells #[.int .i64 (aK (X.lf k) i).id, .int .i64 (aK (X.lf k) i).pa] 216) := ⟨_, rfl⟩
     obtain ⟨G2, hG2⟩ : ∃ G, G = W1.heap.size := ⟨_, rfl⟩
     have bW1 : Below wr.heap.size wr W1 := by rw [hW1]; exact ac _ _
     have bW2 : Below W1.heap.size W1 W2 := by rw [hW2]; exact ac _ _
     have HW : Hid (ag W1 G1 86 (bK (aK (X.lf k) i) e1 (aK (X.lf k) i).q.ws.length k1 e2 (aK (X.lf k) i).q.bs.length k2).toArray /\ ag W2 G1 86 (bK (aK (X.lf k) i) e1 (aK (X.lf k) i).q.ws.length k1 e2 (aK (X.lf k) i).q.bs.length k2).toArray /\ ag W2 G2 216 #[.int .i64 (aK (X.lf k) i).id, .int .i64 (aK (X.lf k) i).pa] /\ Below wr.heap.size wr W2) := by
      have q : ag W1 G1 86 (bK (aK (X.lf k) i) e1 (aK (X.lf k) i).q.ws.length k1 e2 (aK (X.lf k) i).q.bs.length k2).toArray := by rw [hW1, hG1]; exact ag.new _ _ _
      exact ⟨q, q.below bW2, by rw [hW2, hG2]; exact ag.new _ _ _, ae bW1 bW2⟩
     clear HH hg1 hvl hr hrd q1 q2 bW1 bW2
     go_upto_region 8 with fail
     rw [<- hW1, <- hG1]
     clear d09 d19 d29 d39 d49 d59 d69 d79 d89
     have d0 : W1.cell? ⟨G1, 0, none⟩ = some (.int .i64 (aK (X.lf k) i).id) := HW.out.1.cell 0 rfl
     have d1 : W1.cell? ⟨G1, 1, none⟩ = some (.int .i64 (aK (X.lf k) i).pa) := HW.out.1.cell 1 rfl
     clear hW1 hG1
     try go_simp
     go_upto_region 9 with fail
     rw [<- hW2, <- hG2]
     clear d0 d1 hW2 hG2
     have d0 : W2.cell? ⟨G2, 0, none⟩ = some (.int .i64 (aK (X.lf k) i).id) := HW.out.2.2.1.cell 0 rfl
     have d1 : W2.cell? ⟨G2, 1, none⟩ = some (.int .i64 (aK (X.lf k) i).pa) := HW.out.2.2.1.cell 1 rfl
     have HM2 : Hid (bR w W2 M R /\ dM X k i = fN k (aK (X.lf k) i) :: dM X k (i + 1)) := ⟨HK.out.1.below HW.out.2.2.2, iE (by have := HN.out; omega)⟩
     cases hx : bP (aK (X.lf k) i).id (aK (X.lf k) i).pa R 0 with
     | none =>
      have HL := HM2.out.1.lkN hx
      have HF : Hid (ch X = false /\ Below w.heap.size w W2) := ⟨by rw [HK.out.2.1, HM2.out.2]; exact q8 hx, ae HK.out.2.2.2.2 HW.out.2.2.2⟩
      clear hx
      go_upto_region 10 with (first | (at_lookup; refine jL rfl _ _ _ rfl _ _ _ rfl rfl HL ?_))
      clear d0 d1
      go_wp2
      go_ret
      exact ⟨by rw [HF.out.1]; rfl, ae HF.out.2 (ac _ _)⟩
     | some r =>
      obtain ⟨ri, p⟩ := r
      obtain ⟨vs, hvl, hrd, HL⟩ := HM2.out.1.lkS hx
      obtain ⟨b1, d1', b2, d2', rfl, q1, q2⟩ := VP.cells hrd hvl
      have hmem : ce p.q := by
       obtain ⟨k9, e9, _, m2, _, _, m5⟩ := fd hx
       have := HK.out.2.2.1 e9 (List.mem_of_getElem? m2)
       rw [m5] at this
       exact this
      obtain ⟨W3, hW3⟩ : ∃ W, W = W2.alloc (.cells (pL p b1 p.q.ws.length d1' b2 p.q.bs.length d2').toArray 144) := ⟨_, rfl⟩
      obtain ⟨G3, hG3⟩ : ∃ G, G = W2.heap.size := ⟨_, rfl⟩
      have bW3 : Below W2.heap.size W2 W3 := by rw [hW3]; exact ac _ _
      have HX : Hid (bP (aK (X.lf k) i).id (aK (X.lf k) i).pa R 0 = some (ri, p)) := hx
      have HV : Hid (ag W3 G1 86 (bK (aK (X.lf k) i) e1 (aK (X.lf k) i).q.ws.length k1 e2 (aK (X.lf k) i).q.bs.length k2).toArray /\ ag W3 G2 216 #[.int .i64 (aK (X.lf k) i).id, .int .i64 (aK (X.lf k) i).pa] /\ ag W3 G3 144 (pL p b1 p.q.ws.length d1' b2 p.q.bs.length d2').toArray /\ Below w.heap.size w W3 /\ Below wr.heap.size wr W3 /\ Rd w 0 (ah p.q.ws) (.slice b1 p.q.ws.length d1') /\ Rd w 0 (af p.q.bs) (.slice b2 p.q.bs.length d2') /\ ce p.q) :=
       ⟨HW.out.2.1.below bW3, HW.out.2.2.1.below bW3, by rw [hW3, hG3]; exact ag.new _ _ _, ae (ae HK.out.2.2.2.2 HW.out.2.2.2) bW3, ae HW.out.2.2.2 bW3, q1, q2, hmem⟩
      clear hvl hrd q1 q2 hmem bW3 hx
      go_upto_region 10 with (first | (at_lookup; refine jL rfl _ _ _ rfl _ _ _ rfl rfl HL ?_))
      rw [<- hW3, <- hG3]
      clear d0 d1 hW3 hG3 HL HW
      try go_simp
      have z0 : W3.cell? ⟨G3, 0, none⟩ = _ := HV.out.2.2.1.cell 0 rfl
      have z1 : W3.cell? ⟨G3, 1, none⟩ = _ := HV.out.2.2.1.cell 1 rfl
      have z2 : W3.cell? ⟨G3, 2, none⟩ = _ := HV.out.2.2.1.cell 2 rfl
      have z3 : W3.cell? ⟨G3, 3, none⟩ = _ := HV.out.2.2.1.cell 3 rfl
      have z4 : W3.cell? ⟨G3, 4, none⟩ = _ := HV.out.2.2.1.cell 4 rfl
      have z5 : W3.cell? ⟨G3, 5, none⟩ = _ := HV.out.2.2.1.cell 5 rfl
      have z6 : W3.cell? ⟨G3, 6, none⟩ = _ := HV.out.2.2.1.cell 6 rfl
      have z7 : W3.cell? ⟨G3, 7, none⟩ = _ := HV.out.2.2.1.cell 7 rfl
      go_wp2_with fail
      refine (qR (aK (X.lf k) i) p k G1 0 b1 d1' b2 d2' _ ⟨HV.out.1.lt, _, rfl, HV.out.1.rng, HQ.out.1.below HV.out.2.2.2.1⟩ (HV.out.2.2.2.2.2.1.below HV.out.2.2.2.1) (HV.out.2.2.2.2.2.2.1.below HV.out.2.2.2.1) HV.out.2.2.2.2.2.2.2 HQ.out.2).mono ?_
      rintro e w4 ⟨rfl, b4⟩
      obtain ⟨x, hxx⟩ : ∃ x, fM k (aK (X.lf k) i) p = x := ⟨_, rfl⟩
      rw [hxx]
      have HT : Hid (ch X = (x && eP (R.eraseIdx ri) (dM X k (i + 1)))) := by
       rw [HK.out.2.1, HM2.out.2, q9 (r := (ri, p)) HX.out, <- hxx]
       rfl
      have B4 : Hid (Below w.heap.size w w4 /\ Below wr.heap.size wr w4 /\ ag w4 G2 216 #[.int .i64 (aK (X.lf k) i).id, .int .i64 (aK (X.lf k) i).pa]) := ⟨ae HV.out.2.2.2.1 b4, ae HV.out.2.2.2.2.1 b4, HV.out.2.1.below b4⟩
      clear b4 hxx z0 z1 z2 z3 z4 z5 z6 z7
      cases x
      case false =>
       go_wp2
       go_ret
       exact ⟨by rw [HT.out]; rfl, B4.out.1⟩
      have d0 : w4.cell? ⟨G2, 0, none⟩ = some (.int .i64 (aK (X.lf k) i).id) := B4.out.2.2.cell 0 rfl
      have d1 : w4.cell? ⟨G2, 1, none⟩ = some (.int .i64 (aK (X.lf k) i).pa) := B4.out.2.2.cell 1 rfl
      obtain ⟨w5, HD, hM5, hg5⟩ := (HK.out.1.below B4.out.2.1).dl HX.out
      have H5 : Hid (bR w w5 M (R.eraseIdx ri) /\ ch X = eP (R.eraseIdx ri) (dM X k (i + 1)) /\ (∀ e ∈ R.eraseIdx ri, ce e.2.2.q) /\ dF w LO w5 9 (.slice (some ⟨g1, o1, none⟩) nc cv) nc (fun i => aO (aK (X.lf k) i)) /\ Below w.heap.size w w5) :=
       ⟨hM5, by rw [HT.out, Bool.true_and], fun e he => HK.out.2.2.1 e (List.mem_of_mem_eraseIdx he), (HK.out.2.2.2.1.below B4.out.2.1).kept hg5 (fun j hj => by obtain rfl := Option.some.inj hj; exact HM.out), B4.out.1.grown hg5 B4.out.1.size (fun j hj => by obtain rfl := Option.some.inj hj; exact HM.out.1)⟩
      clear hM5 hg5
      go_wp2_with (first | (at_delete; refine oo rfl _ _ _ rfl _ _ _ rfl rfl HD ?_))
      go_roundw
      case rel => exact ⟨i + 1, R.eraseIdx ri, by omega, by go_num, H5.out⟩
      case measure => simp [intOf]; omega
    have hi2 : ¬ (i : Int) < (nc : Int) := by omega
    have e9 : i = (cY (X.lf k)).length := by have := HN.out; omega
    have HK : Hid (bR w wr M R /\ ch X = eP R (fX X.lf (k + 1) (X.nl - (k + 1))) /\ (∀ e ∈ R, ce e.2.2.q) /\ Below w.heap.size w wr) := ⟨HH.1, by rw [HH.2.1, e9, mi], HH.2.2.1, HH.2.2.2.2⟩
    clear HH e9
    go_wp2
    go_roundw
    case rel => exact ⟨k + 1, R, by omega, by go_num, HK.out⟩
    case measure => simp [intOf]; omega
  have hi : ¬ (k : Int) < (X.nl : Int) := by omega
  have e9 : X.nl - k = 0 := by omega
  have HK : Hid (bR w wr M R /\ ch X = R.isEmpty /\ Below w.heap.size w wr) := ⟨HH.1, by rw [HH.2.1, e9]; rfl, HH.2.2.2⟩
  have hR : R.length <= 1000 \/ 1000 < R.length := by omega
  clear HH e9 r3 hR
  obtain ⟨nr, hnr⟩ : ∃ n, n = R.length := ⟨_, rfl⟩
  have HL := HK.out.1.len
  rw [<- hnr] at HL
  have HE : Hid (ch X = (nr == 0)) := by rw [HK.out.2.1, hnr]; cases R <;> rfl
  clear hnr
  cases nr with
  | zero =>
   go_wp2_with (first | (at_len; refine jM rfl _ _ rfl _ _ rfl HL ?_))
   go_ret
   exact ⟨by rw [HE.out]; rfl, HK.out.2.2⟩
  | succ n =>
   have h0 : ((n : Int) + 1 == 0) = false := by simp; omega
   have HE' : Hid (ch X = false) := HE.out
   go_wp2_with (first | (at_len; refine jM rfl _ _ rfl _ _ rfl HL ?_))
   go_ret
   exact ⟨by rw [HE'.out]; first | rfl | simp [h0] | (simp; omega), HK.out.2.2⟩
end Go.Proofs.YtplaoagcedgdfaaGreat
namespace Go.Proofs.YtplaoagcedgdfaaGreat
open Go.RowKit Go.Proofs.Tryz
def cW (x y : Int) : Int := if x < y then -1 else if y < x then 1 else 0
theorem eH (x : Int) (w : World) : Calls prog 246 #[.int .i64 x] w fun e w' => e = .returned (.bool false) /\ w' = w := by
 go_enter func246, ntmps246
 go_wp2
 go_ret
 exact ⟨rfl, rfl⟩
theorem gv (x y : Int) (w : World) : Calls prog 219 #[.int .i64 x, .int .i64 y] w fun e w' => e = .returned (.int .i64 (cW x y)) /\ w' = w := by
 unfold cW
 by_cases h : x < y
 ·rw [if_pos h]
  go_enter func219, ntmps219
  go_wp2_with fail
  refine (eH x _).mono ?_
  rintro e w1 ⟨rfl, rfl⟩
  go_wp2_with fail
  refine (eH y _).mono ?_
  rintro e w2 ⟨rfl, rfl⟩
  go_wp2
  go_ret
  exact ⟨rfl, rfl⟩
 rw [if_neg h]
 by_cases h' : y < x
 ·rw [if_pos h']
  go_enter func219, ntmps219
  go_wp2_with fail
  refine (eH x _).mono ?_
  rintro e w1 ⟨rfl, rfl⟩
  go_wp2_with fail
  refine (eH y _).mono ?_
  rintro e w2 ⟨rfl, rfl⟩
  go_wp2
  go_ret
  exact ⟨rfl, rfl⟩
 rw [if_neg h']
 go_enter func219, ntmps219
 go_wp2_with fail
 refine (eH x _).mono ?_
 rintro e w1 ⟨rfl, rfl⟩
 go_wp2_with fail
 refine (eH y _).mono ?_
 rintro e w2 ⟨rfl, rfl⟩
 go_wp2
 go_ret
 exact ⟨rfl, rfl⟩
def rK (x y z : Int) : Int := if x ≠ 0 then x else if y ≠ 0 then y else z
theorem uC (g : Nat) (x y z : Int) (w : World) (h0 : w.cell? ⟨g, 0, none⟩ = some (.int .i64 x)) (h1 : w.cell? ⟨g, 1, none⟩ = some (.int .i64 y)) (h2 : w.cell? ⟨g, 2, none⟩ = some (.int .i64 z)) :
 Calls prog 218 #[.slice (some ⟨g, 0, none⟩) 3 3] w fun e w' => e = .returned (.int .i64 (rK x y z)) /\ w' = w := by
 unfold rK
 by_cases e0 : x = 0
 ·rw [if_neg (by omega)]
  by_cases e1 : y = 0
  ·rw [if_neg (by omega)]
   by_cases e2 : z = 0
   ·subst e2
    go_enter func218, ntmps218
    go_wp2
    refine wp_loop_rounds 4 ?_
    rw [rounds_succ]
    go_wp2
    rw [rounds_succ]
    go_wp2
    rw [rounds_succ]
    go_wp2
    rw [rounds_succ]
    go_wp2
    go_ret
    exact ⟨rfl, rfl⟩
   go_enter func218, ntmps218
   go_wp2
   refine wp_loop_rounds 4 ?_
   rw [rounds_succ]
   go_wp2
   rw [rounds_succ]
   go_wp2
   rw [rounds_succ]
   go_wp2
   go_ret
   exact ⟨rfl, rfl⟩
  rw [if_pos e1]
  go_enter func218, ntmps218
  go_wp2
  refine wp_loop_rounds 4 ?_
  rw [rounds_succ]
  go_wp2
  rw [rounds_succ]
  go_wp2
  go_ret
  exact ⟨rfl, rfl⟩
 rw [if_pos e0]
 go_enter func218, ntmps218
 go_wp2
 refine wp_loop_rounds 4 ?_
 rw [rounds_succ]
 go_wp2
 go_ret
 exact ⟨rfl, rfl⟩
def bV (a b : Ru) : Int := rK (cW a.u b.u) (cW a.s b.s) (cW a.lo b.lo)
theorem dI (a b : Ru) : bV a b < 0 ↔ cm a b := by
 unfold bV rK cW cm
 repeat' split
 all_goals omega
theorem cq (a b : Ru) (w : World) : Calls prog 164 #[.agg (aS a), .agg (aS b)] w fun e w' => e = .returned (.int .i64 (bV a b)) /\ Below w.heap.size w w' := by
 obtain ⟨W, hW⟩ : ∃ W, W = (w.alloc (.cells (aS a) 102)).alloc (.cells (aS b) 102) := ⟨_, rfl⟩
 have B0 : Below w.heap.size w W := by rw [hW]; exact ((Below.refl _ w).alloc (Nat.le_refl _) _).alloc (by simp) _
 have HS : Hid (W.heap.size = w.heap.size + 2) := by rw [hW]; simp [Hid]
 have HC : Hid (W.cell? ⟨w.heap.size, 0, none⟩ = some (.int .i64 a.u) /\ W.cell? ⟨w.heap.size, 1, none⟩ = some (.int .i64 a.s) /\ W.cell? ⟨w.heap.size, 2, none⟩ = some (.int .i64 a.lo) /\ W.cell? ⟨w.heap.size + 1, 0, none⟩ = some (.int .i64 b.u) /\ W.cell? ⟨w.heap.size + 1, 1, none⟩ = some (.int .i64 b.s) /\ W.cell? ⟨w.heap.size + 1, 2, none⟩ = some (.int .i64 b.lo)) := by rw [hW]; refine ⟨?_, ?_, ?_, ?_, ?_, ?_⟩ <;> simp [go_sem]
 have cells : ∀ {u : World}, Below W.heap.size W u -> u.cell? ⟨w.heap.size, 0, none⟩ = some (.int .i64 a.u) /\ u.cell? ⟨w.heap.size, 1, none⟩ = some (.int .i64 a.s) /\ u.cell? ⟨w.heap.size, 2, none⟩ = some (.int .i64 a.lo) /\ u.cell? ⟨w.heap.size + 1, 0, none⟩ = some (.int .i64 b.u) /\ u.cell? ⟨w.heap.size + 1, 1, none⟩ = some (.int .i64 b.s) /\ u.cell? ⟨w.heap.size + 1, 2, none⟩ = some (.int .i64 b.lo) := fun hb => by
  have hs := HS.out
  obtain ⟨k0, k1, k2, k3, k4, k5⟩ := HC.out
  refine ⟨?_, ?_, ?_, ?_, ?_, ?_⟩
  ·rw [hb.cell (p := ⟨w.heap.size, 0, none⟩) (by show w.heap.size < W.heap.size; omega)]; exact k0
  ·rw [hb.cell (p := ⟨w.heap.size, 1, none⟩) (by show w.heap.size < W.heap.size; omega)]; exact k1
  ·rw [hb.cell (p := ⟨w.heap.size, 2, none⟩) (by show w.heap.size < W.heap.size; omega)]; exact k2
  ·rw [hb.cell (p := ⟨w.heap.size + 1, 0, none⟩) (by show w.heap.size + 1 < W.heap.size; omega)]; exact k3
  ·rw [hb.cell (p := ⟨w.heap.size + 1, 1, none⟩) (by show w.heap.size + 1 < W.heap.size; omega)]; exact k4
  rw [hb.cell (p := ⟨w.heap.size + 1, 2, none⟩) (by show w.heap.size + 1 < W.heap.size; omega)]; exact k5
 go_enter func164, ntmps164
 go_wp2
 rw [<- hW]
 clear hW
 refine wp_region_any (by kernel_rfl) ?_
 refine aX (fun u => Below W.heap.size W u) (fun i v u => match i with
 | 0 => v = .pointer (some ⟨w.heap.size, 0, none⟩)
 | 1 => v = .int .i64 a.u
 | 2 => v = .pointer (some ⟨w.heap.size + 1, 0, none⟩)
 | 3 => v = .int .i64 b.u
 | 4 => v = .int .i64 (cW a.u b.u)
 | 5 => v = .pointer (some ⟨w.heap.size, 1, none⟩)
 | 6 => v = .int .i64 a.s
 | 7 => v = .pointer (some ⟨w.heap.size + 1, 1, none⟩)
 | 8 => v = .int .i64 b.s
 | 9 => v = .int .i64 (cW a.s b.s)
 | 10 => v = .pointer (some ⟨w.heap.size, 2, none⟩)
 | 11 => v = .int .i64 a.lo
 | 12 => v = .pointer (some ⟨w.heap.size + 1, 2, none⟩)
 | 13 => v = .int .i64 b.lo
 | 14 => v = .int .i64 (cW a.lo b.lo)
 | 15 => ∃ g, v = .slice (some ⟨g, 0, none⟩) 3 3 /\ g < u.heap.size /\ u.cell? ⟨g, 0, none⟩ = some (.int .i64 (cW a.u b.u)) /\ u.cell? ⟨g, 1, none⟩ = some (.int .i64 (cW a.s b.s)) /\ u.cell? ⟨g, 2, none⟩ = some (.int .i64 (cW a.lo b.lo))
 | 16 => v = .int .i64 (bV a b)
 | 17 => v = .int .i64 (bV a b)
 | _ => True) (by kernel_rfl) (by kernel_rfl) ?_ (Below.refl _ _).drew ?_ ?_ _ _ rfl (by decide) (fun i => by simp [Array.getD]; try (split <;> rfl))
 ·intro i v u u' h hb
  match i, h with
  | 15, h =>
   obtain ⟨g, hg, hlt, q0, q1, q2⟩ := h
   refine ⟨g, hg, by have := hb.size; omega, ?_, ?_, ?_⟩
   ·rw [hb.cell (p := ⟨g, 0, none⟩) hlt]; exact q0
   ·rw [hb.cell (p := ⟨g, 1, none⟩) hlt]; exact q1
   rw [hb.cell (p := ⟨g, 2, none⟩) hlt]; exact q2
  | 0, h => exact h
  | 1, h => exact h
  | 2, h => exact h
  | 3, h => exact h
  | 4, h => exact h
  | 5, h => exact h
  | 6, h => exact h
  | 7, h => exact h
  | 8, h => exact h
  | 9, h => exact h
  | 10, h => exact h
  | 11, h => exact h
  | 12, h => exact h
  | 13, h => exact h
  | 14, h => exact h
  | 16, h => exact h
  | 17, h => exact h
  | (k + 18), h => trivial
 ·intro vs u hR hall
  have e17 : vs 17 = .int .i64 (bV a b) := hall 17 (by simp)
  have BU := ak B0 hR
  simp only [bm]
  rw [e17]
  clear hall e17 cells HC HS B0
  go_simp
  go_wp2
  go_ret
  exact ⟨rfl, BU⟩
 intro u i o ρ hR ho hρ hc hf hd
 have hi : i < 18 := by
  have := (Array.getElem?_eq_some_iff.1 ho).1
  simpa using this
 obtain rfl | rfl | rfl | rfl | rfl | rfl | rfl | rfl | rfl | rfl | rfl | rfl | rfl | rfl | rfl | rfl | rfl | rfl : i = 0 \/ i = 1 \/ i = 2 \/ i = 3 \/ i = 4 \/ i = 5 \/ i = 6 \/ i = 7 \/ i = 8 \/ i = 9 \/ i = 10 \/ i = 11 \/ i = 12 \/ i = 13 \/ i = 14 \/ i = 15 \/ i = 16 \/ i = 17 := by omega
 all_goals (simp only [List.getElem?_toArray, List.getElem?_cons_zero, List.getElem?_cons_succ, Option.some.injEq] at ho; subst ho)
 ·exact yr (aq rfl (hρ 2 (by kernel_rfl)) (by go_simp)) rfl hR
 ·obtain ⟨c0, c1, c2, d0, d1, d2⟩ := cells hR
  have h0 : ρ (.tmp 5) = .pointer (some ⟨w.heap.size, 0, none⟩) := dq hd 0 5
  exact yr (ai rfl h0 (by go_simp)) rfl hR
 ·exact yr (aq rfl (hρ 3 (by kernel_rfl)) (by go_simp)) rfl hR
 ·obtain ⟨c0, c1, c2, d0, d1, d2⟩ := cells hR
  have h2 : ρ (.tmp 7) = .pointer (some ⟨w.heap.size + 1, 0, none⟩) := dq hd 2 7
  exact yr (ai rfl h2 (by go_simp)) rfl hR
 ·have h1 : ρ (.tmp 6) = .int .i64 a.u := dq hd 1 6
  have h3 : ρ (.tmp 8) = .int .i64 b.u := dq hd 3 8
  refine .inl ⟨rfl, .inr ⟨_, _, bj rfl (hf _) (args := #[.int .i64 a.u, .int .i64 b.u]) (by simp [h1, h3]) (by kernel_rfl), ?_⟩⟩
  refine (gv a.u b.u _).mono ?_
  rintro e u' ⟨rfl, rfl⟩
  exact ⟨_, rfl, rfl, hR, Below.refl _ _⟩
 ·exact yr (aq rfl (hρ 2 (by kernel_rfl)) (by go_simp)) rfl hR
 ·obtain ⟨c0, c1, c2, d0, d1, d2⟩ := cells hR
  have h5 : ρ (.tmp 10) = .pointer (some ⟨w.heap.size, 1, none⟩) := dq hd 5 10
  exact yr (ai rfl h5 (by go_simp)) rfl hR
 ·exact yr (aq rfl (hρ 3 (by kernel_rfl)) (by go_simp)) rfl hR
 ·obtain ⟨c0, c1, c2, d0, d1, d2⟩ := cells hR
  have h7 : ρ (.tmp 12) = .pointer (some ⟨w.heap.size + 1, 1, none⟩) := dq hd 7 12
  exact yr (ai rfl h7 (by go_simp)) rfl hR
 ·have h6 : ρ (.tmp 11) = .int .i64 a.s := dq hd 6 11
  have h8 : ρ (.tmp 13) = .int .i64 b.s := dq hd 8 13
  refine .inl ⟨rfl, .inr ⟨_, _, bj rfl (hf _) (args := #[.int .i64 a.s, .int .i64 b.s]) (by simp [h6, h8]) (by kernel_rfl), ?_⟩⟩
  refine (gv a.s b.s _).mono ?_
  rintro e u' ⟨rfl, rfl⟩
  exact ⟨_, rfl, rfl, hR, Below.refl _ _⟩
 ·exact yr (aq rfl (hρ 2 (by kernel_rfl)) (by go_simp)) rfl hR
 ·obtain ⟨c0, c1, c2, d0, d1, d2⟩ := cells hR
  have h10 : ρ (.tmp 15) = .pointer (some ⟨w.heap.size, 2, none⟩) := dq hd 10 15
  exact yr (ai rfl h10 (by go_simp)) rfl hR
 ·exact yr (aq rfl (hρ 3 (by kernel_rfl)) (by go_simp)) rfl hR
 ·obtain ⟨c0, c1, c2, d0, d1, d2⟩ := cells hR
  have h12 : ρ (.tmp 17) = .pointer (some ⟨w.heap.size + 1, 2, none⟩) := dq hd 12 17
  exact yr (ai rfl h12 (by go_simp)) rfl hR
 ·have h11 : ρ (.tmp 16) = .int .i64 a.lo := dq hd 11 16
  have h13 : ρ (.tmp 18) = .int .i64 b.lo := dq hd 13 18
  refine .inl ⟨rfl, .inr ⟨_, _, bj rfl (hf _) (args := #[.int .i64 a.lo, .int .i64 b.lo]) (by simp [h11, h13]) (by kernel_rfl), ?_⟩⟩
  refine (gv a.lo b.lo _).mono ?_
  rintro e u' ⟨rfl, rfl⟩
  exact ⟨_, rfl, rfl, hR, Below.refl _ _⟩
 ·have h4 : ρ (.tmp 9) = .int .i64 (cW a.u b.u) := dq hd 4 9
  have h9 : ρ (.tmp 14) = .int .i64 (cW a.s b.s) := dq hd 9 14
  have h14 : ρ (.tmp 19) = .int .i64 (cW a.lo b.lo) := dq hd 14 19
  have hr : (Instr.buildSlice 81 3 #[(0, .int .i64 (cW a.u b.u)), (1, .int .i64 (cW a.s b.s)), (2, .int .i64 (cW a.lo b.lo))]).run prog u = .ok (.slice (some ⟨u.heap.size, 0, none⟩) 3 3) (u.alloc (.cells #[.int .i64 (cW a.u b.u), .int .i64 (cW a.s b.s), .int .i64 (cW a.lo b.lo)] 3)) := by go_simp
  refine .inl ⟨rfl, .inl ⟨_, _, ij rfl (qs := #[(0, .int .i64 (cW a.u b.u)), (1, .int .i64 (cW a.s b.s)), (2, .int .i64 (cW a.lo b.lo))]) (by simp [h4, h9, h14]) hr, ⟨_, rfl, by simp, ?_, ?_, ?_⟩, hR.alloc hR.size _, (Below.refl _ _).alloc (Nat.le_refl _) _⟩⟩
  all_goals simp [go_sem]
 ·obtain ⟨g, hg, _, q0, q1, q2⟩ := dq hd 15 20
  refine .inl ⟨rfl, .inr ⟨_, _, bj rfl (hf _) (args := #[.slice (some ⟨g, 0, none⟩) 3 3]) (by simp [hg]) (by kernel_rfl), ?_⟩⟩
  refine (uC g _ _ _ _ q0 q1 q2).mono ?_
  rintro e u' ⟨rfl, rfl⟩
  exact ⟨_, rfl, rfl, hR, Below.refl _ _⟩
 have h16 : ρ (.tmp 21) = .int .i64 (bV a b) := dq hd 16 21
 exact yr rfl h16 hR
end Go.Proofs.YtplaoagcedgdfaaGreat

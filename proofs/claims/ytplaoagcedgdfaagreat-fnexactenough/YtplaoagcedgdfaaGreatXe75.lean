/- Parts of the proof. -/
import Derived.Laws.StructEq
import Derived.BigQuiet
import Derived.Test.YtplaoagcedgdfaaGreatW23
import Derived.Test.YtplaoagcedgdfaaGreatXe71
import Derived.Test.YtplaoagcedgdfaaGreatXe72
import Derived.Test.YtplaoagcedgdfaaGreatXe73
import Derived.Test.YtplaoagcedgdfaaGreatXe74
set_option linter.unusedVariables false
set_option linter.unusedSimpArgs false
set_option maxHeartbeats 4000000
set_option maxRecDepth 20000
namespace Go.Proofs.YtplaoagcedgdfaaGreat
open Go.RowKit Go.Proofs.Tryz
def ND (w w' : World) (e : Ending) (cs is : List Bool) (hs rs : List Int) : Prop :=
 ∃ a1 a2 a3 a4 l1 l2 l3 l4 c1 c2 c3 c4, e = .returned (dv a1 a2 a3 a4 l1 l2 l3 l4 c1 c2 c3 c4) /\ OwnD w' w.heap.size a1 a2 a3 a4 l1 l2 l3 l4 c1 c2 c3 c4 cs is hs rs /\ Below w.heap.size w w'
def dnN (n : Int) : Nat := if 0 <= n /\ n <= 64 then n.toNat else 0
abbrev NDn (w w' : World) (e : Ending) (m : Nat) : Prop := ND w w' e (List.replicate m false) (List.replicate m false) (List.replicate m 0) (List.replicate m 0)
structure CI (w : World) (a1 a2 a3 a4 : Option Addr) (l1 l2 l3 l4 c1 c2 c3 c4 : Nat) (cs is : List Bool) (hs rs : List Int) (b0 b1 b2 b3 b4 b5 b6 b7 b8 b9 b10 b11 b12 b13 b14 b15 b16 b17 : Bool) (t3 t4 t5 t6 t7 t8 t9 t10 t11 t12 t13 t14 t15 t16 t17 t18 t19 : Value) (u : World) : Prop where
 f0 : b0 = true -> ∃ g, t3 = .slice (some ⟨g, 0, none⟩) 0 0 /\ w.heap.size <= g /\ OwnB u w.heap.size t3 []
 f1 : b1 = true -> t4 = .pointer (some ⟨w.heap.size, 0, none⟩)
 f2 : b2 = true -> t5 = .slice a1 l1 c1
 f3 : b3 = true -> (∃ a' c', t6 = .slice a' l1 c') /\ OwnB u w.heap.size t6 cs
 f4 : b4 = true -> ∃ g, t7 = .slice (some ⟨g, 0, none⟩) 0 0 /\ w.heap.size <= g /\ OwnB u w.heap.size t7 []
 f5 : b5 = true -> t8 = .pointer (some ⟨w.heap.size, 1, none⟩)
 f6 : b6 = true -> t9 = .slice a2 l2 c2
 f7 : b7 = true -> (∃ a' c', t10 = .slice a' l2 c') /\ OwnB u w.heap.size t10 is
 f8 : b8 = true -> ∃ g, t11 = .slice (some ⟨g, 0, none⟩) 0 0 /\ w.heap.size <= g /\ OwnI u w.heap.size t11 []
 f9 : b9 = true -> t12 = .pointer (some ⟨w.heap.size, 2, none⟩)
 f10 : b10 = true -> t13 = .slice a3 l3 c3
 f11 : b11 = true -> (∃ a' c', t14 = .slice a' l3 c') /\ OwnI u w.heap.size t14 hs
 f12 : b12 = true -> ∃ g, t15 = .slice (some ⟨g, 0, none⟩) 0 0 /\ w.heap.size <= g /\ OwnI u w.heap.size t15 []
 f13 : b13 = true -> t16 = .pointer (some ⟨w.heap.size, 3, none⟩)
 f14 : b14 = true -> t17 = .slice a4 l4 c4
 f15 : b15 = true -> (∃ a' c', t18 = .slice a' l4 c') /\ OwnI u w.heap.size t18 rs
 f16 : b16 = true -> t19 = .agg #[t6, t10, t14, t18]
 g16 : b16 = true -> b3 = true /\ b7 = true /\ b11 = true /\ b15 = true
 g17 : b17 = true -> b16 = true
 f17 : b17 = true -> Blk u (w.heap.size + 1) 178 #[t6, t10, t14, t18]
 z17 : b17 = false -> Blk u (w.heap.size + 1) 178 #[.slice none 0 0, .slice none 0 0, .slice none 0 0, .slice none 0 0]
 d0_4 : b0 = true -> b4 = true -> Df t3 t7
 d0_7 : b0 = true -> b7 = true -> Df t3 t10
 d3_4 : b3 = true -> b4 = true -> Df t6 t7
 d3_7 : b3 = true -> b7 = true -> Df t6 t10
 d8_12 : b8 = true -> b12 = true -> Df t11 t15
 d8_15 : b8 = true -> b15 = true -> Df t11 t18
 d11_12 : b11 = true -> b12 = true -> Df t14 t15
 d11_15 : b11 = true -> b15 = true -> Df t14 t18
 bx : Blk u w.heap.size 178 #[.slice a1 l1 c1, .slice a2 l2 c2, .slice a3 l3 c3, .slice a4 l4 c4]
 bel : Below w.heap.size w u
def CInv (w : World) (a1 a2 a3 a4 : Option Addr) (l1 l2 l3 l4 c1 c2 c3 c4 : Nat) (cs is : List Bool) (hs rs : List Int) (l : Array Bool) (act : Act) (u : World) : Prop :=
 ∃ b0 b1 b2 b3 b4 b5 b6 b7 b8 b9 b10 b11 b12 b13 b14 b15 b16 b17 : Bool, l = #[b0, b1, b2, b3, b4, b5, b6, b7, b8, b9, b10, b11, b12, b13, b14, b15, b16, b17] /\ ∃ t3 t4 t5 t6 t7 t8 t9 t10 t11 t12 t13 t14 t15 t16 t17 t18 t19 : Value, act = { tmps := #[dv a1 a2 a3 a4 l1 l2 l3 l4 c1 c2 c3 c4, .pointer (some ⟨w.heap.size, 0, none⟩), .pointer (some ⟨w.heap.size + 1, 0, none⟩), t3, t4, t5, t6, t7, t8, t9, t10, t11, t12, t13, t14, t15, t16, t17, t18, t19], defers := [] } /\ CI w a1 a2 a3 a4 l1 l2 l3 l4 c1 c2 c3 c4 cs is hs rs b0 b1 b2 b3 b4 b5 b6 b7 b8 b9 b10 b11 b12 b13 b14 b15 b16 b17 t3 t4 t5 t6 t7 t8 t9 t10 t11 t12 t13 t14 t15 t16 t17 t18 t19 u
end Go.Proofs.YtplaoagcedgdfaaGreat
namespace Go.Proofs.YtplaoagcedgdfaaGreat
open Go.RowKit Go.Joins Go.Proofs.Tryz
def okDv (X : VI) : Bool := okD X.co.length X.ip.length X.ho.length X.wd.length X.ho X.wd
def alP (g : Nat -> Bool) : Nat -> Bool
 | 0 => true
 | n + 1 => alP g n && g n
def saP (X Y : VS) : Bool := decide (X.po = Y.po /\ X.un = Y.un)
def adP (X : VS) : Bool := inB X.po 0 5 && inB X.un 1 247
def rowP (f : Nat -> VS) (k : Nat) : Bool := adP (f k) && (okDv (f k).d && alP (fun j => !saP (f j) (f k)) k)
def okPs (n : Nat) (f : Nat -> VS) : Bool := decide (n <= 8) && alP (rowP f) n
def atB (p u : Int) (Y : VS) : Bool := decide (Y.po = p /\ Y.un = u)
def IxQ (n : Nat) (f : Nat -> VS) (p u : Int) (r : Int) : Prop := (r = -1 /\ alP (fun j => !atB p u (f j)) n = true) \/ ∃ m : Nat, r = (m : Int) /\ m < n /\ atB p u (f m) = true /\ alP (fun j => !atB p u (f j)) m = true
def okAv (A : VA) : Bool := okA A.kd A.fl A.pl A.n A.ws A.ws.length A.bs.length
def noQ (Q : VQ) : Bool := noR Q.kd Q.pl Q.n Q.wa Q.ws.length Q.bs.length
def caK (K : VK) : Bool := bif K.bk then okAv K.a && noQ K.q else okQ K.q && noA K.a
def pkB (K : VK) : Bool := (inB K.po 0 5 && inB K.un 1 247) && (inB K.nu 0 65535 && caK K)
def okNet (n : Nat) (f : Nat -> VK) : Bool := decide (n <= 60) && alP (fun i => pkB (f i)) n
def IxN (n : Nat) (f : Nat -> VK) (r : Int) : Prop := (r = -1 /\ alP (fun i => pkB (f i)) n = true) \/ (0 <= r /\ alP (fun i => pkB (f i)) n = false)
def NtH (w : World) (n : Nat) (f : Nat -> VK) (a : Option Addr) (c : Nat) : Prop := Rd w 0 (.list 16 n (fun i => trs (xkT (f i)))) (.slice a n c) /\ n <= 2000000 /\ ∀ k, k < n -> BdQ (f k).q /\ BdA (f k).a
def BdK (X : VW) : Prop := BdF X.fb /\ X.ns <= 2000000 /\ (∀ k, k < X.ns -> szT 4 (trs (xdT (X.sf k).d)) <= 1048576) /\ X.nk <= 2000000 /\ ∀ k, k < X.nk -> BdQ (X.kf k).q /\ BdA (X.kf k).a
noncomputable def okWd (X : VW) : Bool := decide (X.nr <= 5000) && (decide (X.ne <= 5000) && (okPs X.ns X.sf && (okNet X.nk X.kf && okFb X.fb)))
noncomputable def enA (X : VW) : Int := IntKind.i64.wrap (IntKind.i64.wrap (ldA X.fb * IntKind.i64.wrap (IntKind.i64.wrap (X.fb.set.wt * IntKind.i64.wrap (X.fb.set.tr + 1)) + 1)) + 2)
theorem specEnough_w (X : VW) (a1 : Option Addr) (c1 : Nat) (a2 : Option Addr) (c2 : Nat) (a3 : Option Addr) (c3 : Nat) (a4 : Option Addr) (c4 : Nat) (a5 : Option Addr) (c5 : Nat) (a6 : Option Addr) (c6 : Nat) (a7 : Option Addr) (c7 : Nat) (w : World) (h : Rd w 0 (.list 7 X.fb.set.n (fun i => trs (xrT (X.fb.set.f i)))) (.slice a1 X.fb.set.n c1) /\ Rd w 0 (.list 13 X.fb.op.m (fun i => trs (dT (X.fb.op.f i)))) (.slice a2 X.fb.op.m c2) /\ Rd w 0 (.list 17 X.fb.nl (fun i => trs (xnT (X.fb.lf i)))) (.slice a3 X.fb.nl c3) /\ Rd w 0 (.list 6 X.ns (fun i => trs (xsT (X.sf i)))) (.slice a4 X.ns c4) /\ Rd w 0 (.list 16 X.nk (fun i => trs (xkT (X.kf i)))) (.slice a5 X.nk c5) /\ Rd w 0 (.list 16 X.nr (fun i => trs (xyT (X.rf i)))) (.slice a6 X.nr c6) /\ Rd w 0 (.list 15 X.ne (fun i => trs (xeT (X.ef i)))) (.slice a7 X.ne c7)) (hb : BdF X.fb) :
 Calls prog 28 #[.agg (xwL X a1 X.fb.set.n c1 a2 X.fb.op.m c2 a3 X.fb.nl c3 a4 X.ns c4 a5 X.nk c5 a6 X.nr c6 a7 X.ne c7).toArray] w fun e w' => e = .returned (.int .i64 (enA X)) /\ Below w.heap.size w w' := by
 obtain ⟨W, hW⟩ : ∃ W, W = w.alloc (.cells (xwL X a1 X.fb.set.n c1 a2 X.fb.op.m c2 a3 X.fb.nl c3 a4 X.ns c4 a5 X.nk c5 a6 X.nr c6 a7 X.ne c7).toArray 67) := ⟨_, rfl⟩
 obtain ⟨G, hG⟩ : ∃ G, G = w.heap.size := ⟨_, rfl⟩
 have bW : Below w.heap.size w W := by rw [hW]; exact bel_alloc w _
 have HE : Hid (Blk W G 67 (xwL X a1 X.fb.set.n c1 a2 X.fb.op.m c2 a3 X.fb.nl c3 a4 X.ns c4 a5 X.nk c5 a6 X.nr c6 a7 X.ne c7).toArray /\ Below w.heap.size w W /\ Rd W 0 (.list 7 X.fb.set.n (fun i => trs (xrT (X.fb.set.f i)))) (.slice a1 X.fb.set.n c1) /\ Rd W 0 (.list 13 X.fb.op.m (fun i => trs (dT (X.fb.op.f i)))) (.slice a2 X.fb.op.m c2) /\ Rd W 0 (.list 17 X.fb.nl (fun i => trs (xnT (X.fb.lf i)))) (.slice a3 X.fb.nl c3)) := ⟨by rw [hW, hG]; exact Blk.new w _ _, bW, h.1.below bW, h.2.1.below bW, h.2.2.1.below bW⟩
 have HF : Hid (BdF X.fb) := hb
 clear h hb bW
 go_enter func28, ntmps28
 go_upto_region 1 with fail
 rw [<- hW, <- hG]
 clear hW hG
 refine wp_region_any (by kernel_rfl) ?_
 refine wpAny_vals (fun u => Below W.heap.size W u) (fun i v u => match i with
  | 0 => v = .pointer (some ⟨G, 0, none⟩)
  | 1 => v = .agg ([.int .i64 X.fb.nw, .int .i64 X.fb.set.wt, .int .i64 X.fb.set.tr, .slice a1 X.fb.set.n c1, .int .i64 X.fb.op.nx, .slice a2 X.fb.op.m c2, .slice a3 X.fb.nl c3, .int .i64 X.fb.sk, .int .i64 X.fb.re, .int .i64 X.fb.fa, .int .i64 X.fb.se]).toArray
  | 2 => v = .int .i64 (ldA X.fb)
  | 3 => v = .pointer (some ⟨G, 0, none⟩)
  | 4 => v = .pointer (some ⟨G, 1, none⟩)
  | 5 => v = .pointer (some ⟨G, 1, none⟩)
  | 6 => v = .int .i64 X.fb.set.wt
  | 7 => v = .pointer (some ⟨G, 0, none⟩)
  | 8 => v = .pointer (some ⟨G, 1, none⟩)
  | 9 => v = .pointer (some ⟨G, 2, none⟩)
  | 10 => v = .int .i64 X.fb.set.tr
  | 11 => v = .int .i64 (IntKind.i64.wrap (X.fb.set.tr + 1))
  | 12 => v = .int .i64 (IntKind.i64.wrap (X.fb.set.wt * IntKind.i64.wrap (X.fb.set.tr + 1)))
  | 13 => v = .int .i64 (IntKind.i64.wrap (IntKind.i64.wrap (X.fb.set.wt * IntKind.i64.wrap (X.fb.set.tr + 1)) + 1))
  | 14 => v = .int .i64 (IntKind.i64.wrap (ldA X.fb * IntKind.i64.wrap (IntKind.i64.wrap (X.fb.set.wt * IntKind.i64.wrap (X.fb.set.tr + 1)) + 1)))
  | 15 => v = .int .i64 (IntKind.i64.wrap (IntKind.i64.wrap (ldA X.fb * IntKind.i64.wrap (IntKind.i64.wrap (X.fb.set.wt * IntKind.i64.wrap (X.fb.set.tr + 1)) + 1)) + 2))
  | 16 => v = .int .i64 (IntKind.i64.wrap (IntKind.i64.wrap (ldA X.fb * IntKind.i64.wrap (IntKind.i64.wrap (X.fb.set.wt * IntKind.i64.wrap (X.fb.set.tr + 1)) + 1)) + 2))
  | _ => True) (by kernel_rfl) (by kernel_rfl) (fun _ _ _ _ h _ => h) (by first | exact Below.refl _ _ | exact (Below.refl _ _).drew) ?_ ?_ _ _ rfl (by decide) (fun i => by simp [Array.getD]; try (split <;> rfl))
 ·intro vs u hR hall
  have e16 : vs 16 = .int .i64 (IntKind.i64.wrap (IntKind.i64.wrap (ldA X.fb * IntKind.i64.wrap (IntKind.i64.wrap (X.fb.set.wt * IntKind.i64.wrap (X.fb.set.tr + 1)) + 1)) + 2)) := hall 16 (by simp)
  simp only [putsL]
  rw [e16]
  clear hall e16
  have B9 := bel_nx HE.out.2.1 hR
  clear HE HF hR
  try go_simp
  go_wp2
  go_ret
  exact ⟨rfl, B9⟩
 intro u i o ρ hR ho hρ hc hf hd
 have hi : i < 17 := by
  have := (Array.getElem?_eq_some_iff.1 ho).1
  simpa using this
 obtain rfl | rfl | rfl | rfl | rfl | rfl | rfl | rfl | rfl | rfl | rfl | rfl | rfl | rfl | rfl | rfl | rfl : i = 0 \/ i = 1 \/ i = 2 \/ i = 3 \/ i = 4 \/ i = 5 \/ i = 6 \/ i = 7 \/ i = 8 \/ i = 9 \/ i = 10 \/ i = 11 \/ i = 12 \/ i = 13 \/ i = 14 \/ i = 15 \/ i = 16 := by omega
 all_goals (simp only [List.getElem?_toArray, List.getElem?_cons_zero, List.getElem?_cons_succ, Option.some.injEq] at ho; subst ho)
 ·exact yr (run_field_op rfl (hρ 1 (by kernel_rfl)) (by go_simp)) rfl hR
 ·have h0 : ρ (.tmp 3) = .pointer (some ⟨G, 0, none⟩) := dq hd 0 3
  have hr : (Instr.loadAt 41 (.pointer (some ⟨G, 0, none⟩))).run prog u = .ok (.agg ([.int .i64 X.fb.nw, .int .i64 X.fb.set.wt, .int .i64 X.fb.set.tr, .slice a1 X.fb.set.n c1, .int .i64 X.fb.op.nx, .slice a2 X.fb.op.m c2, .slice a3 X.fb.nl c3, .int .i64 X.fb.sk, .int .i64 X.fb.re, .int .i64 X.fb.fa, .int .i64 X.fb.se]).toArray) u := run_loadAt_mid u G (0) 41 ([.int .i64 X.fb.nw, .int .i64 X.fb.set.wt, .int .i64 X.fb.set.tr, .slice a1 X.fb.set.n c1, .int .i64 X.fb.op.nx, .slice a2 X.fb.op.m c2, .slice a3 X.fb.nl c3, .int .i64 X.fb.sk, .int .i64 X.fb.re, .int .i64 X.fb.fa, .int .i64 X.fb.se]) _ (rangeAt_mid [] [.int .i64 X.fb.nw, .int .i64 X.fb.set.wt, .int .i64 X.fb.set.tr, .slice a1 X.fb.set.n c1, .int .i64 X.fb.op.nx, .slice a2 X.fb.op.m c2, .slice a3 X.fb.nl c3, .int .i64 X.fb.sk, .int .i64 X.fb.re, .int .i64 X.fb.fa, .int .i64 X.fb.se] [.slice a4 X.ns c4, .slice a5 X.nk c5, .slice a6 X.nr c6, .slice a7 X.ne c7] (HE.out.1.below hR).rng rfl) underlying41 rfl (by kernel_rfl)
  exact yr (run_load_op rfl h0 hr) rfl hR
 ·have h1 : ρ (.tmp 4) = .agg ([.int .i64 X.fb.nw, .int .i64 X.fb.set.wt, .int .i64 X.fb.set.tr, .slice a1 X.fb.set.n c1, .int .i64 X.fb.op.nx, .slice a2 X.fb.op.m c2, .slice a3 X.fb.nl c3, .int .i64 X.fb.sk, .int .i64 X.fb.re, .int .i64 X.fb.fa, .int .i64 X.fb.se]).toArray := dq hd 1 4
  refine .inl ⟨rfl, .inr ⟨_, _, run_call_op rfl (hf _) (args := #[.agg ([.int .i64 X.fb.nw, .int .i64 X.fb.set.wt, .int .i64 X.fb.set.tr, .slice a1 X.fb.set.n c1, .int .i64 X.fb.op.nx, .slice a2 X.fb.op.m c2, .slice a3 X.fb.nl c3, .int .i64 X.fb.sk, .int .i64 X.fb.re, .int .i64 X.fb.fa, .int .i64 X.fb.se]).toArray]) (by simp [h1]) (by kernel_rfl), ?_⟩⟩
  refine (specLoad_any X.fb a1 c1 a2 c2 a3 c3 _ (VF.back (HE.out.2.2.1.below hR) (HE.out.2.2.2.1.below hR) (HE.out.2.2.2.2.below hR)) HF.out).mono ?_
  rintro e u' ⟨he, b'⟩
  exact ⟨_, he, rfl, bel_nx hR b', b'⟩
 ·exact yr (run_field_op rfl (hρ 1 (by kernel_rfl)) (by go_simp)) rfl hR
 ·have h3 : ρ (.tmp 6) = .pointer (some ⟨G, 0, none⟩) := dq hd 3 6
  exact yr (run_field_op rfl h3 (by go_simp)) rfl hR
 ·have h4 : ρ (.tmp 7) = .pointer (some ⟨G, 1, none⟩) := dq hd 4 7
  exact yr (run_field_op rfl h4 (by go_simp)) rfl hR
 ·have h5 : ρ (.tmp 8) = .pointer (some ⟨G, 1, none⟩) := dq hd 5 8
  have y9 := (HE.out.1.below hR).rng 1 _ rfl
  exact yr (run_load_op rfl h5 (by go_simp)) rfl hR
 ·exact yr (run_field_op rfl (hρ 1 (by kernel_rfl)) (by go_simp)) rfl hR
 ·have h7 : ρ (.tmp 10) = .pointer (some ⟨G, 0, none⟩) := dq hd 7 10
  exact yr (run_field_op rfl h7 (by go_simp)) rfl hR
 ·have h8 : ρ (.tmp 11) = .pointer (some ⟨G, 1, none⟩) := dq hd 8 11
  exact yr (run_field_op rfl h8 (by go_simp)) rfl hR
 ·have h9 : ρ (.tmp 12) = .pointer (some ⟨G, 2, none⟩) := dq hd 9 12
  have y9 := (HE.out.1.below hR).rng 2 _ rfl
  exact yr (run_load_op rfl h9 (by go_simp)) rfl hR
 ·have h10 : ρ (.tmp 13) = .int .i64 X.fb.set.tr := dq hd 10 13
  exact yr (run_bin_op rfl h10 (hc _) (by go_simp)) rfl hR
 ·have h6 : ρ (.tmp 9) = .int .i64 X.fb.set.wt := dq hd 6 9
  have h11 : ρ (.tmp 14) = .int .i64 (IntKind.i64.wrap (X.fb.set.tr + 1)) := dq hd 11 14
  exact yr (run_bin_op rfl h6 h11 (by go_simp)) rfl hR
 ·have h12 : ρ (.tmp 15) = .int .i64 (IntKind.i64.wrap (X.fb.set.wt * IntKind.i64.wrap (X.fb.set.tr + 1))) := dq hd 12 15
  exact yr (run_bin_op rfl h12 (hc _) (by go_simp)) rfl hR
 ·have h2 : ρ (.tmp 5) = .int .i64 (ldA X.fb) := dq hd 2 5
  have h13 : ρ (.tmp 16) = .int .i64 (IntKind.i64.wrap (IntKind.i64.wrap (X.fb.set.wt * IntKind.i64.wrap (X.fb.set.tr + 1)) + 1)) := dq hd 13 16
  exact yr (run_bin_op rfl h2 h13 (by go_simp)) rfl hR
 ·have h14 : ρ (.tmp 17) = .int .i64 (IntKind.i64.wrap (ldA X.fb * IntKind.i64.wrap (IntKind.i64.wrap (X.fb.set.wt * IntKind.i64.wrap (X.fb.set.tr + 1)) + 1))) := dq hd 14 17
  exact yr (run_bin_op rfl h14 (hc _) (by go_simp)) rfl hR
 have h15 : ρ (.tmp 18) = .int .i64 (IntKind.i64.wrap (IntKind.i64.wrap (ldA X.fb * IntKind.i64.wrap (IntKind.i64.wrap (X.fb.set.wt * IntKind.i64.wrap (X.fb.set.tr + 1)) + 1)) + 2)) := dq hd 15 18
 exact yr rfl h15 hR
theorem implEnough_w (X : VW) (a1 : Option Addr) (c1 : Nat) (a2 : Option Addr) (c2 : Nat) (a3 : Option Addr) (c3 : Nat) (a4 : Option Addr) (c4 : Nat) (a5 : Option Addr) (c5 : Nat) (a6 : Option Addr) (c6 : Nat) (a7 : Option Addr) (c7 : Nat) (w : World) (h : Rd w 0 (.list 7 X.fb.set.n (fun i => trs (xrT (X.fb.set.f i)))) (.slice a1 X.fb.set.n c1) /\ Rd w 0 (.list 13 X.fb.op.m (fun i => trs (dT (X.fb.op.f i)))) (.slice a2 X.fb.op.m c2) /\ Rd w 0 (.list 17 X.fb.nl (fun i => trs (xnT (X.fb.lf i)))) (.slice a3 X.fb.nl c3) /\ Rd w 0 (.list 6 X.ns (fun i => trs (xsT (X.sf i)))) (.slice a4 X.ns c4) /\ Rd w 0 (.list 16 X.nk (fun i => trs (xkT (X.kf i)))) (.slice a5 X.nk c5) /\ Rd w 0 (.list 16 X.nr (fun i => trs (xyT (X.rf i)))) (.slice a6 X.nr c6) /\ Rd w 0 (.list 15 X.ne (fun i => trs (xeT (X.ef i)))) (.slice a7 X.ne c7)) (hb : BdF X.fb) :
 Calls prog 29 #[.agg (xwL X a1 X.fb.set.n c1 a2 X.fb.op.m c2 a3 X.fb.nl c3 a4 X.ns c4 a5 X.nk c5 a6 X.nr c6 a7 X.ne c7).toArray] w fun e w' => e = .returned (.int .i64 (enA X)) /\ Below w.heap.size w w' := by
 obtain ⟨W, hW⟩ : ∃ W, W = w.alloc (.cells (xwL X a1 X.fb.set.n c1 a2 X.fb.op.m c2 a3 X.fb.nl c3 a4 X.ns c4 a5 X.nk c5 a6 X.nr c6 a7 X.ne c7).toArray 67) := ⟨_, rfl⟩
 obtain ⟨G, hG⟩ : ∃ G, G = w.heap.size := ⟨_, rfl⟩
 have bW : Below w.heap.size w W := by rw [hW]; exact bel_alloc w _
 have kW : Blk W G 67 (xwL X a1 X.fb.set.n c1 a2 X.fb.op.m c2 a3 X.fb.nl c3 a4 X.ns c4 a5 X.nk c5 a6 X.nr c6 a7 X.ne c7).toArray := by rw [hW, hG]; exact Blk.new w _ _
 obtain ⟨⟨y0, y1, y2, y3, y4, y5, y6, y7, y8, y9, y10, y11, y12, y13, y14⟩, yf⟩ := kW.tc15
 clear yf
 go_enter func29, ntmps29
 go_upto_region 1 with fail
 rw [<- hW, <- hG]
 clear hW hG
 go_upto_region 2 with fail
 obtain ⟨W2, hW2⟩ : ∃ z, z = W.alloc (.cells #[.int .i64 X.fb.set.wt, .int .i64 X.fb.set.tr, .slice a1 X.fb.set.n c1] 35) := ⟨_, rfl⟩
 obtain ⟨H, hH⟩ : ∃ z, z = W.heap.size := ⟨_, rfl⟩
 have HE : Hid (Blk W2 G 67 (xwL X a1 X.fb.set.n c1 a2 X.fb.op.m c2 a3 X.fb.nl c3 a4 X.ns c4 a5 X.nk c5 a6 X.nr c6 a7 X.ne c7).toArray /\ Below w.heap.size w W2 /\ Rd W2 0 (.list 7 X.fb.set.n (fun i => trs (xrT (X.fb.set.f i)))) (.slice a1 X.fb.set.n c1) /\ Rd W2 0 (.list 13 X.fb.op.m (fun i => trs (dT (X.fb.op.f i)))) (.slice a2 X.fb.op.m c2) /\ Rd W2 0 (.list 17 X.fb.nl (fun i => trs (xnT (X.fb.lf i)))) (.slice a3 X.fb.nl c3) /\ Blk W2 H 35 #[.int .i64 X.fb.set.wt, .int .i64 X.fb.set.tr, .slice a1 X.fb.set.n c1]) := by
  have b2 : Below W.heap.size W W2 := by rw [hW2]; exact bel_alloc W _
  have b9 := bel_nx bW b2
  exact ⟨kW.below b2, b9, h.1.below b9, h.2.1.below b9, h.2.2.1.below b9, by rw [hW2, hH]; exact Blk.new W _ _⟩
 have HF : Hid (BdF X.fb) := hb
 clear h hb bW kW y0 y1 y2 y3 y4 y5 y6 y7 y8 y9 y10 y11 y12 y13 y14
 rw [<- hW2, <- hH]
 clear hW2 hH
 refine wp_region_any (by kernel_rfl) ?_
 refine wpAny_vals (fun u => Below W2.heap.size W2 u) (fun i v u => match i with
  | 0 => v = .pointer (some ⟨G, 0, none⟩)
  | 1 => v = .agg ([.int .i64 X.fb.nw, .int .i64 X.fb.set.wt, .int .i64 X.fb.set.tr, .slice a1 X.fb.set.n c1, .int .i64 X.fb.op.nx, .slice a2 X.fb.op.m c2, .slice a3 X.fb.nl c3, .int .i64 X.fb.sk, .int .i64 X.fb.re, .int .i64 X.fb.fa, .int .i64 X.fb.se]).toArray
  | 2 => v = .int .i64 (ldA X.fb)
  | 3 => v = .pointer (some ⟨H, 0, none⟩)
  | 4 => v = .int .i64 X.fb.set.wt
  | 5 => v = .pointer (some ⟨H, 1, none⟩)
  | 6 => v = .int .i64 X.fb.set.tr
  | 7 => v = .int .i64 (IntKind.i64.wrap (X.fb.set.tr + 1))
  | 8 => v = .int .i64 (IntKind.i64.wrap (X.fb.set.wt * IntKind.i64.wrap (X.fb.set.tr + 1)))
  | 9 => v = .int .i64 (IntKind.i64.wrap (IntKind.i64.wrap (X.fb.set.wt * IntKind.i64.wrap (X.fb.set.tr + 1)) + 1))
  | 10 => v = .int .i64 (IntKind.i64.wrap (ldA X.fb * IntKind.i64.wrap (IntKind.i64.wrap (X.fb.set.wt * IntKind.i64.wrap (X.fb.set.tr + 1)) + 1)))
  | 11 => v = .int .i64 (IntKind.i64.wrap (IntKind.i64.wrap (ldA X.fb * IntKind.i64.wrap (IntKind.i64.wrap (X.fb.set.wt * IntKind.i64.wrap (X.fb.set.tr + 1)) + 1)) + 2))
  | 12 => v = .int .i64 (IntKind.i64.wrap (IntKind.i64.wrap (ldA X.fb * IntKind.i64.wrap (IntKind.i64.wrap (X.fb.set.wt * IntKind.i64.wrap (X.fb.set.tr + 1)) + 1)) + 2))
  | _ => True) (by kernel_rfl) (by kernel_rfl) (fun _ _ _ _ h _ => h) (by first | exact Below.refl _ _ | exact (Below.refl _ _).drew) ?_ ?_ _ _ rfl (by decide) (fun i => by simp [Array.getD]; try (split <;> rfl))
 ·intro vs u hR hall
  have e12 : vs 12 = .int .i64 (IntKind.i64.wrap (IntKind.i64.wrap (ldA X.fb * IntKind.i64.wrap (IntKind.i64.wrap (X.fb.set.wt * IntKind.i64.wrap (X.fb.set.tr + 1)) + 1)) + 2)) := hall 12 (by simp)
  simp only [putsL]
  rw [e12]
  clear hall e12
  have B9 := bel_nx HE.out.2.1 hR
  clear HE HF hR
  try go_simp
  go_wp2
  go_ret
  exact ⟨rfl, B9⟩
 intro u i o ρ hR ho hρ hc hf hd
 have hi : i < 13 := by
  have := (Array.getElem?_eq_some_iff.1 ho).1
  simpa using this
 obtain rfl | rfl | rfl | rfl | rfl | rfl | rfl | rfl | rfl | rfl | rfl | rfl | rfl : i = 0 \/ i = 1 \/ i = 2 \/ i = 3 \/ i = 4 \/ i = 5 \/ i = 6 \/ i = 7 \/ i = 8 \/ i = 9 \/ i = 10 \/ i = 11 \/ i = 12 := by omega
 all_goals (simp only [List.getElem?_toArray, List.getElem?_cons_zero, List.getElem?_cons_succ, Option.some.injEq] at ho; subst ho)
 ·exact yr (run_field_op rfl (hρ 1 (by kernel_rfl)) (by go_simp)) rfl hR
 ·have h0 : ρ (.tmp 7) = .pointer (some ⟨G, 0, none⟩) := dq hd 0 7
  have hr : (Instr.loadAt 41 (.pointer (some ⟨G, 0, none⟩))).run prog u = .ok (.agg ([.int .i64 X.fb.nw, .int .i64 X.fb.set.wt, .int .i64 X.fb.set.tr, .slice a1 X.fb.set.n c1, .int .i64 X.fb.op.nx, .slice a2 X.fb.op.m c2, .slice a3 X.fb.nl c3, .int .i64 X.fb.sk, .int .i64 X.fb.re, .int .i64 X.fb.fa, .int .i64 X.fb.se]).toArray) u := run_loadAt_mid u G (0) 41 ([.int .i64 X.fb.nw, .int .i64 X.fb.set.wt, .int .i64 X.fb.set.tr, .slice a1 X.fb.set.n c1, .int .i64 X.fb.op.nx, .slice a2 X.fb.op.m c2, .slice a3 X.fb.nl c3, .int .i64 X.fb.sk, .int .i64 X.fb.re, .int .i64 X.fb.fa, .int .i64 X.fb.se]) _ (rangeAt_mid [] [.int .i64 X.fb.nw, .int .i64 X.fb.set.wt, .int .i64 X.fb.set.tr, .slice a1 X.fb.set.n c1, .int .i64 X.fb.op.nx, .slice a2 X.fb.op.m c2, .slice a3 X.fb.nl c3, .int .i64 X.fb.sk, .int .i64 X.fb.re, .int .i64 X.fb.fa, .int .i64 X.fb.se] [.slice a4 X.ns c4, .slice a5 X.nk c5, .slice a6 X.nr c6, .slice a7 X.ne c7] (HE.out.1.below hR).rng rfl) underlying41 rfl (by kernel_rfl)
  exact yr (run_load_op rfl h0 hr) rfl hR
 ·have h1 : ρ (.tmp 8) = .agg ([.int .i64 X.fb.nw, .int .i64 X.fb.set.wt, .int .i64 X.fb.set.tr, .slice a1 X.fb.set.n c1, .int .i64 X.fb.op.nx, .slice a2 X.fb.op.m c2, .slice a3 X.fb.nl c3, .int .i64 X.fb.sk, .int .i64 X.fb.re, .int .i64 X.fb.fa, .int .i64 X.fb.se]).toArray := dq hd 1 8
  refine .inl ⟨rfl, .inr ⟨_, _, run_call_op rfl (hf _) (args := #[.agg ([.int .i64 X.fb.nw, .int .i64 X.fb.set.wt, .int .i64 X.fb.set.tr, .slice a1 X.fb.set.n c1, .int .i64 X.fb.op.nx, .slice a2 X.fb.op.m c2, .slice a3 X.fb.nl c3, .int .i64 X.fb.sk, .int .i64 X.fb.re, .int .i64 X.fb.fa, .int .i64 X.fb.se]).toArray]) (by simp [h1]) (by kernel_rfl), ?_⟩⟩
  refine (implLoad_any X.fb a1 c1 a2 c2 a3 c3 _ (VF.back (HE.out.2.2.1.below hR) (HE.out.2.2.2.1.below hR) (HE.out.2.2.2.2.1.below hR)) HF.out).mono ?_
  rintro e u' ⟨he, b'⟩
  exact ⟨_, he, rfl, bel_nx hR b', b'⟩
 ·exact yr (run_field_op rfl (hρ 3 (by kernel_rfl)) (by go_simp)) rfl hR
 ·have h3 : ρ (.tmp 10) = .pointer (some ⟨H, 0, none⟩) := dq hd 3 10
  have y9 : u.cell? ⟨H, 0, none⟩ = some (.int .i64 X.fb.set.wt) := (HE.out.2.2.2.2.2.below hR).rng 0 _ rfl
  exact yr (run_load_op rfl h3 (by go_simp)) rfl hR
 ·exact yr (run_field_op rfl (hρ 3 (by kernel_rfl)) (by go_simp)) rfl hR
 ·have h5 : ρ (.tmp 12) = .pointer (some ⟨H, 1, none⟩) := dq hd 5 12
  have y9 := (HE.out.2.2.2.2.2.below hR).rng 1 _ rfl
  exact yr (run_load_op rfl h5 (by go_simp)) rfl hR
 ·have h6 : ρ (.tmp 13) = .int .i64 X.fb.set.tr := dq hd 6 13
  exact yr (run_bin_op rfl h6 (hc _) (by go_simp)) rfl hR
 ·have h4 : ρ (.tmp 11) = .int .i64 X.fb.set.wt := dq hd 4 11
  have h7 : ρ (.tmp 14) = .int .i64 (IntKind.i64.wrap (X.fb.set.tr + 1)) := dq hd 7 14
  exact yr (run_bin_op rfl h4 h7 (by go_simp)) rfl hR
 ·have h8 : ρ (.tmp 15) = .int .i64 (IntKind.i64.wrap (X.fb.set.wt * IntKind.i64.wrap (X.fb.set.tr + 1))) := dq hd 8 15
  exact yr (run_bin_op rfl h8 (hc _) (by go_simp)) rfl hR
 ·have h2 : ρ (.tmp 9) = .int .i64 (ldA X.fb) := dq hd 2 9
  have h9 : ρ (.tmp 16) = .int .i64 (IntKind.i64.wrap (IntKind.i64.wrap (X.fb.set.wt * IntKind.i64.wrap (X.fb.set.tr + 1)) + 1)) := dq hd 9 16
  exact yr (run_bin_op rfl h2 h9 (by go_simp)) rfl hR
 ·have h10 : ρ (.tmp 17) = .int .i64 (IntKind.i64.wrap (ldA X.fb * IntKind.i64.wrap (IntKind.i64.wrap (X.fb.set.wt * IntKind.i64.wrap (X.fb.set.tr + 1)) + 1))) := dq hd 10 17
  exact yr (run_bin_op rfl h10 (hc _) (by go_simp)) rfl hR
 have h11 : ρ (.tmp 18) = .int .i64 (IntKind.i64.wrap (IntKind.i64.wrap (ldA X.fb * IntKind.i64.wrap (IntKind.i64.wrap (X.fb.set.wt * IntKind.i64.wrap (X.fb.set.tr + 1)) + 1)) + 2)) := dq hd 11 18
 exact yr rfl h11 hR
end Go.Proofs.YtplaoagcedgdfaaGreat

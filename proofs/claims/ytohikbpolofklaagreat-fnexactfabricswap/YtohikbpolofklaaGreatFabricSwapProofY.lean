/-
FabricSwap answers as its model at every fabric and list of rules,and the law that says so returns true and leaves both as they were.
-/
import Derived.Test.YtohikbpolofklaaGreatRows
import Derived.WalkKit
import Derived.ProofKit
import Derived.OpenShut
import Derived.ShutString
import Derived.ChangeOld
import Derived.Below
import Derived.Test.YtohikbpolofklaaGreatY8
import Derived.Test.YtohikbpolofklaaGreatY48
namespace Go.Proofs.YtohikbpolofklaaGreat.fnExactFabricSwap
open Go.ChangeShapes Go.WideShapes Go.ChangeAt Go.RowKit
set_option linter.unusedVariables false

theorem own:ownKnob Tryz.prog.godebug=none:=by kernel_rfl
theorem laidOut:laidOutB Tryz.prog=true:=by kernel_rfl


theorem walk(X0:VF)(a0_1:OA)(l0_1 c0_1:Nat)(a0_2:OA)(l0_2 c0_2:Nat)(a0_3:OA)(l0_3 c0_3:Nat)(n1:Nat)(f1:Nat→Ru)(a1:OA)(c1:Nat)(w:World)(w0:(Rd w 0 (.list 7 X0.set.n (fun i=>ac (aR (X0.set.f i)))) (.slice a0_1 l0_1 c0_1)∧Rd w 0 (.list 13 X0.op.m (fun i=>ac (dT (X0.op.f i)))) (.slice a0_2 l0_2 c0_2)∧Rd w 0 (.list 17 X0.nl (fun i=>ac (aN (X0.lf i)))) (.slice a0_3 l0_3 c0_3))∧∀ k,k<X0.set.n→-9223372036854775808≤(X0.set.f k).sh∧(X0.set.f k).sh≤9223372036854775807)(w1:Rd w 0 (.list 7 n1 (fun i=>ac (aR (f1 i)))) (.slice a1 n1 c1)∧∀ k,k<n1→-9223372036854775808≤(f1 k).sh∧(f1 k).sh≤9223372036854775807):
    Calls Tryz.prog 3 #[.agg (aq X0 a0_1 l0_1 c0_1 a0_2 l0_2 c0_2 a0_3 l0_3 c0_3).toArray,.slice a1 n1 c1] w fun e w'=>e=.returned (.bool true)∧Below w.heap.size w w':=by
  obtain ⟨⟨r1,r2,r3⟩,w64⟩:=w0;obtain ⟨hp,hp64⟩:=w1;obtain ⟨_,_,e1,-,-⟩:=r1.shape;simp only [Value.slice.injEq] at e1;obtain ⟨-,rfl,-⟩:=e1;obtain ⟨_,_,e2,-,-⟩:=r2.shape;simp only [Value.slice.injEq] at e2;obtain ⟨-,rfl,-⟩:=e2;obtain ⟨_,_,e3,-,-⟩:=r3.shape;simp only [Value.slice.injEq] at e3;obtain ⟨-,rfl,-⟩:=e3;by_cases hz:ax 11 (ac (aX X0))≤1048576
  · by_cases h2:ax 11 (ac (aX X0))+(Tr.list 7 n1 (fun i=>ac (aR (f1 i)))).sz≤1048576
    ·exact lJ X0 a0_1 c0_1 a0_2 c0_2 a0_3 c0_3 a1 n1 c1 f1 w ⟨r1,r2,r3⟩ hp hp64 w64 h2
    ·exact kU X0 a0_1 c0_1 a0_2 c0_2 a0_3 c0_3 a1 n1 c1 f1 w ⟨r1,r2,r3⟩ hp hz h2
  ·exact kT X0 a0_1 c0_1 a0_2 c0_2 a0_3 c0_3 a1 n1 c1 f1 w ⟨r1,r2,r3⟩ hp hz

set_option maxRecDepth 100000 in
theorem lifted(os:Os)(started:os.Started)(H:Type)(enc:TypeId × Value→H):
    ReturnsInHanded {} Tryz.checked os 3 .any (Rows.fnExactFabricSwapSpec.pre6 enc Tryz.prog Tryz.f3 Rows.fnExactFabricSwapRow.domain false) (Rows.fnExactFabricSwapSpec.post enc Tryz.prog Tryz.f3 false true false false):=by
  refine returnsInHanded_of_change (C:=Tryz.checked) own started (by kernel_rfl) Tryz.func3
    (ChangeSpec.witness6 (enc:=enc) (C:=Tryz.checked) false ⟨#[],#[.agg #[Vi 0,Vi 0,Vi 0,Zs,Vi 0,Zs,Zs,Vi 0,Vi 0,Vi 0,Vi 0],Zs],[]⟩ 8 (by kernel_rfl) (by kernel_rfl) (by kernel_rfl) (by kernel_rfl)) ?_
  intro W base args ds gs before hval0 hW hcnd _;have hval:∀ (j:Nat) t v,Tryz.f3.params[j]? = some t→args[j]? = some v→Value.okWide Tryz.prog W .any base t v:=hval0;have hW':=hW;obtain ⟨p,q,hA0,hV,rfl,hfz,hnd⟩:=hW;have hA:DataW.TrodAll enc Tryz.prog W 0 (fun _=>true) true Tryz.f3.params.toList args.toList ds p:=hA0;rw [Tryz.params3] at hA hval;obtain ⟨v0,vs0,d0,ds0,p0,q0,hargs,rfl,rfl,h0,r0⟩:=trodAll_cons hA;obtain ⟨v1,vs1,d1,ds1,p1,q1,rfl,rfl,rfl,h1,r1⟩:=trodAll_cons r0;obtain ⟨rfl,rfl,rfl⟩:=trodAll_nil r1;obtain rfl:args=#[v0,v1]:=by cases args;simp_all
  obtain ⟨rfl,rfl⟩:=trodVars_none hV;have k0:=h0;obtain ⟨X0,a0_1,l0_1,c0_1,a0_2,l0_2,c0_2,a0_3,l0_3,c0_3,rfl,w0⟩:=qt (N:=14) Tryz.underlying30 (by kernel_rfl) (hval 0 30 v0 rfl rfl) h0;have w64_0:=rL (N:=14) (S:=tA) (by kernel_rfl) h0 rfl rfl rfl w0.1;replace w0:=And.intro w0 w64_0;have lt0:∀ x ∈ p0,x.block<W.heap.size:=by obtain ⟨m,hm⟩:=k0;exact DataW.trod_lt m _ _ _ hm
  have k1:=h1;obtain ⟨n1,f1,a1,c1,rfl,w1⟩:=qu (N:=8) Tryz.underlying22 (by kernel_rfl) (hval 1 22 v1 rfl rfl) h1;have w64_1:=qq (N:=8) (f:=fun j=>lK.getD j .int) (by kernel_rfl) h1 rfl w1;replace w1:=And.intro w1 w64_1;have lt1:∀ x ∈ p1,x.block<W.heap.size:=by obtain ⟨m,hm⟩:=k1;exact DataW.trod_lt m _ _ _ hm
  clear hA0 hval0;refine (walk X0 a0_1 l0_1 c0_1 a0_2 l0_2 c0_2 a0_3 l0_3 c0_3 n1 f1 a1 c1 W w0 w1).mono fun e W' ⟨he,bel⟩=>?_
  subst he;exact ⟨_,rfl,_,_,_,[],_,[],hW',trodAll_mk1 (shut_bool Tryz.underlying4 _),(trodAll_cons_mk (Below.trod laidOut (by kernel_rfl) (of_decide_eq_true (by kernel_rfl)) k0 bel lt0) (trodAll_cons_mk (Below.trod laidOut (by kernel_rfl) (of_decide_eq_true (by kernel_rfl)) k1 bel lt1) trodAll_mk0)),rfl,bel.frame _,fun h=>by cases h⟩

set_option maxHeartbeats 40000000 in
set_option maxRecDepth 100000 in
theorem closedF:joinedFacts Tryz.pinned.checked.prog 3 Tryz.f3 Rows.fnExactFabricSwapSpec Rows.fnExactFabricSwapRow=true:=by
  simp only [joinedFacts,Bool.and_eq_true];repeat' refine And.intro ?_ ?_
  all_goals (as_aux_lemma=>kernel_rfl)

theorem over:Rows.fnExactFabricSwapRow.holds Tryz.pinned (OpenSpec.ofChange Rows.fnExactFabricSwapSpec):=
  OpenClaim.holds_of_wide 3 Tryz.f3 rfl rfl rfl rfl rfl rfl rfl ⟨rfl,rfl,rfl,rfl,rfl⟩ rfl rfl rfl rfl rfl (by kernel_rfl) Tryz.func3 closedF
    (of_decide_eq_true (by kernel_rfl)) (by unfold Func.isWrapper;first|(rw [if_pos (by decide+kernel)];kernel_rfl)|(rw [if_neg (by decide+kernel)];exact ⟨rfl,rfl⟩))
    (fun os started H enc _=>lifted os started H enc)

theorem proved:Rows.FnExactFabricSwapSaid:=over
#print axioms proved
end Go.Proofs.YtohikbpolofklaaGreat.fnExactFabricSwap
namespace Go.Proofs.YtohikbpolofklaaGreat
theorem FnExactFabricSwap_holds:Rows.FnExactFabricSwapSaid:=fnExactFabricSwap.proved
end Go.Proofs.YtohikbpolofklaaGreat

/- Texts that the proof needs, joined: ArgW Tq. -/
import Derived.Test.YtplaoagcedgdfaaV2
import Derived.Test.YtplaoagcedgdfaaV6
set_option linter.unusedVariables false
set_option linter.unusedSimpArgs false
namespace Go.Proofs.Ytplaoagcedgdfaa
open Go.ChangeShapes Go.WideShapes Go.ChangeAt Go.RowKit Go.Deep Go.Joins
def xrSh : List Sh := [.int, .int, .int, .int, .int, .int, .int]
theorem Ru.of {w : World} {vs : List Value} (h : OfShL w xrSh vs) : ∃ X : Ru, RdL w 0 (trs (xrT X)) vs := by
 obtain ⟨hl, h⟩ := h
 match vs, hl with
 | [v0, v1, v2, v3, v4, v5, v6], _ =>
  obtain ⟨z0, rfl⟩ := h 0 v0 rfl
  obtain ⟨z1, rfl⟩ := h 1 v1 rfl
  obtain ⟨z2, rfl⟩ := h 2 v2 rfl
  obtain ⟨z3, rfl⟩ := h 3 v3 rfl
  obtain ⟨z4, rfl⟩ := h 4 v4 rfl
  obtain ⟨z5, rfl⟩ := h 5 v5 rfl
  obtain ⟨z6, rfl⟩ := h 6 v6 rfl
  exact ⟨⟨z0, z1, z2, z3, z4, z5, z6⟩, Ru.back (X := ⟨z0, z1, z2, z3, z4, z5, z6⟩) ⟩
def xcSh : List Sh := [.int, .int, .lst 7 (fun j => xrSh.getD j .int)]
def xlSh : List Sh := [.int, .int, .int, .int, .int, .int, .lst 1 (fun j => [Sh.int].getD j .int), .lst 1 (fun j => [Sh.bool].getD j .int), .int]
theorem VL.of {w : World} {vs : List Value} (h : OfShL w xlSh vs) : ∃ X : VL, RdL w 0 (trs (xlT X)) vs := by
 obtain ⟨hl, h⟩ := h
 match vs, hl with
 | [v0, v1, v2, v3, v4, v5, v6, v7, v8], _ =>
  obtain ⟨z0, rfl⟩ := h 0 v0 rfl
  obtain ⟨z1, rfl⟩ := h 1 v1 rfl
  obtain ⟨z2, rfl⟩ := h 2 v2 rfl
  obtain ⟨z3, rfl⟩ := h 3 v3 rfl
  obtain ⟨z4, rfl⟩ := h 4 v4 rfl
  obtain ⟨z5, rfl⟩ := h 5 v5 rfl
  obtain ⟨z6, r6⟩ := OfSh.ints (h 6 v6 rfl) rfl
  obtain ⟨a6, c6, e6, _⟩ := r6.shape
  subst e6
  obtain ⟨z7, r7⟩ := OfSh.bools (h 7 v7 rfl) rfl
  obtain ⟨a7, c7, e7, _⟩ := r7.shape
  subst e7
  obtain ⟨z8, rfl⟩ := h 8 v8 rfl
  exact ⟨⟨z0, z1, z2, ⟨z3, z4, z5, z6, z7, z8⟩⟩, VL.back (X := ⟨z0, z1, z2, ⟨z3, z4, z5, z6, z7, z8⟩⟩) r6 r7⟩
def xnSh : List Sh := [.lst 9 (fun j => xlSh.getD j .int), .bool, .int, .int, .int, .int, .int, .int, .lst 1 (fun j => [Sh.int].getD j .int), .lst 1 (fun j => [Sh.bool].getD j .int), .int, .int, .int, .int, .int, .int, .int]
theorem VN.of {w : World} {vs : List Value} (h : OfShL w xnSh vs) : ∃ X : VN, RdL w 0 (trs (xnT X)) vs := by
 obtain ⟨hl, h⟩ := h
 match vs, hl with
 | [v0, v1, v2, v3, v4, v5, v6, v7, v8, v9, v10, v11, v12, v13, v14, v15, v16], _ =>
  obtain ⟨n0, z0, r0⟩ := OfSh.list (T := xlT) (h 0 v0 rfl) (fun vs h1 h2 => VL.of ⟨h1, h2⟩)
  obtain ⟨a0, c0, e0, _⟩ := r0.shape
  subst e0
  obtain ⟨z1, rfl⟩ := h 1 v1 rfl
  obtain ⟨z2, rfl⟩ := h 2 v2 rfl
  obtain ⟨z3, rfl⟩ := h 3 v3 rfl
  obtain ⟨z4, rfl⟩ := h 4 v4 rfl
  obtain ⟨z5, rfl⟩ := h 5 v5 rfl
  obtain ⟨z6, rfl⟩ := h 6 v6 rfl
  obtain ⟨z7, rfl⟩ := h 7 v7 rfl
  obtain ⟨z8, r8⟩ := OfSh.ints (h 8 v8 rfl) rfl
  obtain ⟨a8, c8, e8, _⟩ := r8.shape
  subst e8
  obtain ⟨z9, r9⟩ := OfSh.bools (h 9 v9 rfl) rfl
  obtain ⟨a9, c9, e9, _⟩ := r9.shape
  subst e9
  obtain ⟨z10, rfl⟩ := h 10 v10 rfl
  obtain ⟨z11, rfl⟩ := h 11 v11 rfl
  obtain ⟨z12, rfl⟩ := h 12 v12 rfl
  obtain ⟨z13, rfl⟩ := h 13 v13 rfl
  obtain ⟨z14, rfl⟩ := h 14 v14 rfl
  obtain ⟨z15, rfl⟩ := h 15 v15 rfl
  obtain ⟨z16, rfl⟩ := h 16 v16 rfl
  exact ⟨⟨n0, z0, z1, ⟨z2, z3, z4, ⟨z5, z6, z7, z8, z9, z10⟩⟩, z11, z12, z13, z14, z15, z16⟩, VN.back (X := ⟨n0, z0, z1, ⟨z2, z3, z4, ⟨z5, z6, z7, z8, z9, z10⟩⟩, z11, z12, z13, z14, z15, z16⟩) r0 r8 r9⟩
def xfSh : List Sh := [.int, .int, .int, .lst 7 (fun j => xrSh.getD j .int), .int, .lst 13 (fun j => dSh.getD j .int), .lst 17 (fun j => xnSh.getD j .int), .int, .int, .int, .int]
def xdSh : List Sh := [.lst 1 (fun j => [Sh.bool].getD j .int), .lst 1 (fun j => [Sh.bool].getD j .int), .lst 1 (fun j => [Sh.int].getD j .int), .lst 1 (fun j => [Sh.int].getD j .int)]
def xsSh : List Sh := [.int, .int, .lst 1 (fun j => [Sh.bool].getD j .int), .lst 1 (fun j => [Sh.bool].getD j .int), .lst 1 (fun j => [Sh.int].getD j .int), .lst 1 (fun j => [Sh.int].getD j .int)]
theorem VS.of {w : World} {vs : List Value} (h : OfShL w xsSh vs) : ∃ X : VS, RdL w 0 (trs (xsT X)) vs := by
 obtain ⟨hl, h⟩ := h
 match vs, hl with
 | [v0, v1, v2, v3, v4, v5], _ =>
  obtain ⟨z0, rfl⟩ := h 0 v0 rfl
  obtain ⟨z1, rfl⟩ := h 1 v1 rfl
  obtain ⟨z2, r2⟩ := OfSh.bools (h 2 v2 rfl) rfl
  obtain ⟨a2, c2, e2, _⟩ := r2.shape
  subst e2
  obtain ⟨z3, r3⟩ := OfSh.bools (h 3 v3 rfl) rfl
  obtain ⟨a3, c3, e3, _⟩ := r3.shape
  subst e3
  obtain ⟨z4, r4⟩ := OfSh.ints (h 4 v4 rfl) rfl
  obtain ⟨a4, c4, e4, _⟩ := r4.shape
  subst e4
  obtain ⟨z5, r5⟩ := OfSh.ints (h 5 v5 rfl) rfl
  obtain ⟨a5, c5, e5, _⟩ := r5.shape
  subst e5
  exact ⟨⟨z0, z1, ⟨z2, z3, z4, z5⟩⟩, VS.back (X := ⟨z0, z1, ⟨z2, z3, z4, z5⟩⟩) r2 r3 r4 r5⟩
def xkSh : List Sh := [.bool, .int, .int, .int, .int, .int, .int, .lst 1 (fun j => [Sh.int].getD j .int), .lst 1 (fun j => [Sh.bool].getD j .int), .int, .int, .int, .int, .int, .lst 1 (fun j => [Sh.int].getD j .int), .lst 1 (fun j => [Sh.bool].getD j .int)]
theorem VK.of {w : World} {vs : List Value} (h : OfShL w xkSh vs) : ∃ X : VK, RdL w 0 (trs (xkT X)) vs := by
 obtain ⟨hl, h⟩ := h
 match vs, hl with
 | [v0, v1, v2, v3, v4, v5, v6, v7, v8, v9, v10, v11, v12, v13, v14, v15], _ =>
  obtain ⟨z0, rfl⟩ := h 0 v0 rfl
  obtain ⟨z1, rfl⟩ := h 1 v1 rfl
  obtain ⟨z2, rfl⟩ := h 2 v2 rfl
  obtain ⟨z3, rfl⟩ := h 3 v3 rfl
  obtain ⟨z4, rfl⟩ := h 4 v4 rfl
  obtain ⟨z5, rfl⟩ := h 5 v5 rfl
  obtain ⟨z6, rfl⟩ := h 6 v6 rfl
  obtain ⟨z7, r7⟩ := OfSh.ints (h 7 v7 rfl) rfl
  obtain ⟨a7, c7, e7, _⟩ := r7.shape
  subst e7
  obtain ⟨z8, r8⟩ := OfSh.bools (h 8 v8 rfl) rfl
  obtain ⟨a8, c8, e8, _⟩ := r8.shape
  subst e8
  obtain ⟨z9, rfl⟩ := h 9 v9 rfl
  obtain ⟨z10, rfl⟩ := h 10 v10 rfl
  obtain ⟨z11, rfl⟩ := h 11 v11 rfl
  obtain ⟨z12, rfl⟩ := h 12 v12 rfl
  obtain ⟨z13, rfl⟩ := h 13 v13 rfl
  obtain ⟨z14, r14⟩ := OfSh.ints (h 14 v14 rfl) rfl
  obtain ⟨a14, c14, e14, _⟩ := r14.shape
  subst e14
  obtain ⟨z15, r15⟩ := OfSh.bools (h 15 v15 rfl) rfl
  obtain ⟨a15, c15, e15, _⟩ := r15.shape
  subst e15
  exact ⟨⟨z0, z1, z2, z3, ⟨z4, z5, z6, z7, z8, z9⟩, ⟨z10, z11, z12, z13, z14, z15⟩⟩, VK.back (X := ⟨z0, z1, z2, z3, ⟨z4, z5, z6, z7, z8, z9⟩, ⟨z10, z11, z12, z13, z14, z15⟩⟩) r7 r8 r14 r15⟩
def xySh : List Sh := [.int, .int, .int, .int, .int, .lst 1 (fun j => [Sh.int].getD j .int), .lst 1 (fun j => [Sh.bool].getD j .int), .int, .lst 8 (fun j => pSh.getD j .int), .lst 6 (fun j => aSh.getD j .int), .int, .int, .int, .int, .lst 1 (fun j => [Sh.int].getD j .int), .lst 1 (fun j => [Sh.bool].getD j .int)]
theorem VR.of {w : World} {vs : List Value} (h : OfShL w xySh vs) : ∃ X : VR, RdL w 0 (trs (xyT X)) vs := by
 obtain ⟨hl, h⟩ := h
 match vs, hl with
 | [v0, v1, v2, v3, v4, v5, v6, v7, v8, v9, v10, v11, v12, v13, v14, v15], _ =>
  obtain ⟨z0, rfl⟩ := h 0 v0 rfl
  obtain ⟨z1, rfl⟩ := h 1 v1 rfl
  obtain ⟨z2, rfl⟩ := h 2 v2 rfl
  obtain ⟨z3, rfl⟩ := h 3 v3 rfl
  obtain ⟨z4, rfl⟩ := h 4 v4 rfl
  obtain ⟨z5, r5⟩ := OfSh.ints (h 5 v5 rfl) rfl
  obtain ⟨a5, c5, e5, _⟩ := r5.shape
  subst e5
  obtain ⟨z6, r6⟩ := OfSh.bools (h 6 v6 rfl) rfl
  obtain ⟨a6, c6, e6, _⟩ := r6.shape
  subst e6
  obtain ⟨z7, rfl⟩ := h 7 v7 rfl
  obtain ⟨n8, z8, r8⟩ := OfSh.list (T := pT) (h 8 v8 rfl) (fun vs h1 h2 => VP.of ⟨h1, h2⟩)
  obtain ⟨a8, c8, e8, _⟩ := r8.shape
  subst e8
  obtain ⟨n9, z9, r9⟩ := OfSh.list (T := aT) (h 9 v9 rfl) (fun vs h1 h2 => VA.of ⟨h1, h2⟩)
  obtain ⟨a9, c9, e9, _⟩ := r9.shape
  subst e9
  obtain ⟨z10, rfl⟩ := h 10 v10 rfl
  obtain ⟨z11, rfl⟩ := h 11 v11 rfl
  obtain ⟨z12, rfl⟩ := h 12 v12 rfl
  obtain ⟨z13, rfl⟩ := h 13 v13 rfl
  obtain ⟨z14, r14⟩ := OfSh.ints (h 14 v14 rfl) rfl
  obtain ⟨a14, c14, e14, _⟩ := r14.shape
  subst e14
  obtain ⟨z15, r15⟩ := OfSh.bools (h 15 v15 rfl) rfl
  obtain ⟨a15, c15, e15, _⟩ := r15.shape
  subst e15
  exact ⟨⟨z0, z1, ⟨z2, z3, z4, z5, z6, z7⟩, n8, z8, n9, z9, ⟨z10, z11, z12, z13, z14, z15⟩⟩, VR.back (X := ⟨z0, z1, ⟨z2, z3, z4, z5, z6, z7⟩, n8, z8, n9, z9, ⟨z10, z11, z12, z13, z14, z15⟩⟩) r5 r6 r8 r9 r14 r15⟩
def xeSh : List Sh := [.int, .int, .int, .int, .int, .int, .lst 1 (fun j => [Sh.int].getD j .int), .lst 1 (fun j => [Sh.bool].getD j .int), .int, .int, .int, .int, .int, .lst 1 (fun j => [Sh.int].getD j .int), .lst 1 (fun j => [Sh.bool].getD j .int)]
theorem VE.of {w : World} {vs : List Value} (h : OfShL w xeSh vs) : ∃ X : VE, RdL w 0 (trs (xeT X)) vs := by
 obtain ⟨hl, h⟩ := h
 match vs, hl with
 | [v0, v1, v2, v3, v4, v5, v6, v7, v8, v9, v10, v11, v12, v13, v14], _ =>
  obtain ⟨z0, rfl⟩ := h 0 v0 rfl
  obtain ⟨z1, rfl⟩ := h 1 v1 rfl
  obtain ⟨z2, rfl⟩ := h 2 v2 rfl
  obtain ⟨z3, rfl⟩ := h 3 v3 rfl
  obtain ⟨z4, rfl⟩ := h 4 v4 rfl
  obtain ⟨z5, rfl⟩ := h 5 v5 rfl
  obtain ⟨z6, r6⟩ := OfSh.ints (h 6 v6 rfl) rfl
  obtain ⟨a6, c6, e6, _⟩ := r6.shape
  subst e6
  obtain ⟨z7, r7⟩ := OfSh.bools (h 7 v7 rfl) rfl
  obtain ⟨a7, c7, e7, _⟩ := r7.shape
  subst e7
  obtain ⟨z8, rfl⟩ := h 8 v8 rfl
  obtain ⟨z9, rfl⟩ := h 9 v9 rfl
  obtain ⟨z10, rfl⟩ := h 10 v10 rfl
  obtain ⟨z11, rfl⟩ := h 11 v11 rfl
  obtain ⟨z12, rfl⟩ := h 12 v12 rfl
  obtain ⟨z13, r13⟩ := OfSh.ints (h 13 v13 rfl) rfl
  obtain ⟨a13, c13, e13, _⟩ := r13.shape
  subst e13
  obtain ⟨z14, r14⟩ := OfSh.bools (h 14 v14 rfl) rfl
  obtain ⟨a14, c14, e14, _⟩ := r14.shape
  subst e14
  exact ⟨⟨z0, z1, z2, ⟨z3, z4, z5, z6, z7, z8⟩, ⟨z9, z10, z11, z12, z13, z14⟩⟩, VE.back (X := ⟨z0, z1, z2, ⟨z3, z4, z5, z6, z7, z8⟩, ⟨z9, z10, z11, z12, z13, z14⟩⟩) r6 r7 r13 r14⟩
def xwSh : List Sh := [.int, .int, .int, .lst 7 (fun j => xrSh.getD j .int), .int, .lst 13 (fun j => dSh.getD j .int), .lst 17 (fun j => xnSh.getD j .int), .int, .int, .int, .int, .lst 6 (fun j => xsSh.getD j .int), .lst 16 (fun j => xkSh.getD j .int), .lst 16 (fun j => xySh.getD j .int), .lst 15 (fun j => xeSh.getD j .int)]
theorem VW.of {w : World} {vs : List Value} (h : OfShL w xwSh vs) : ∃ X : VW, RdL w 0 (trs (xwT X)) vs := by
 obtain ⟨hl, h⟩ := h
 match vs, hl with
 | [v0, v1, v2, v3, v4, v5, v6, v7, v8, v9, v10, v11, v12, v13, v14], _ =>
  obtain ⟨z0, rfl⟩ := h 0 v0 rfl
  obtain ⟨z1, rfl⟩ := h 1 v1 rfl
  obtain ⟨z2, rfl⟩ := h 2 v2 rfl
  obtain ⟨n3, z3, r3⟩ := OfSh.list (T := xrT) (h 3 v3 rfl) (fun vs h1 h2 => Ru.of ⟨h1, h2⟩)
  obtain ⟨a3, c3, e3, _⟩ := r3.shape
  subst e3
  obtain ⟨z4, rfl⟩ := h 4 v4 rfl
  obtain ⟨n5, z5, r5⟩ := OfSh.list (T := dT) (h 5 v5 rfl) (fun vs h1 h2 => VD.of ⟨h1, h2⟩)
  obtain ⟨a5, c5, e5, _⟩ := r5.shape
  subst e5
  obtain ⟨n6, z6, r6⟩ := OfSh.list (T := xnT) (h 6 v6 rfl) (fun vs h1 h2 => VN.of ⟨h1, h2⟩)
  obtain ⟨a6, c6, e6, _⟩ := r6.shape
  subst e6
  obtain ⟨z7, rfl⟩ := h 7 v7 rfl
  obtain ⟨z8, rfl⟩ := h 8 v8 rfl
  obtain ⟨z9, rfl⟩ := h 9 v9 rfl
  obtain ⟨z10, rfl⟩ := h 10 v10 rfl
  obtain ⟨n11, z11, r11⟩ := OfSh.list (T := xsT) (h 11 v11 rfl) (fun vs h1 h2 => VS.of ⟨h1, h2⟩)
  obtain ⟨a11, c11, e11, _⟩ := r11.shape
  subst e11
  obtain ⟨n12, z12, r12⟩ := OfSh.list (T := xkT) (h 12 v12 rfl) (fun vs h1 h2 => VK.of ⟨h1, h2⟩)
  obtain ⟨a12, c12, e12, _⟩ := r12.shape
  subst e12
  obtain ⟨n13, z13, r13⟩ := OfSh.list (T := xyT) (h 13 v13 rfl) (fun vs h1 h2 => VR.of ⟨h1, h2⟩)
  obtain ⟨a13, c13, e13, _⟩ := r13.shape
  subst e13
  obtain ⟨n14, z14, r14⟩ := OfSh.list (T := xeT) (h 14 v14 rfl) (fun vs h1 h2 => VE.of ⟨h1, h2⟩)
  obtain ⟨a14, c14, e14, _⟩ := r14.shape
  subst e14
  exact ⟨⟨⟨z0, ⟨z1, z2, n3, z3⟩, ⟨z4, n5, z5⟩, n6, z6, z7, z8, z9, z10⟩, n11, z11, n12, z12, n13, z13, n14, z14⟩, VW.back (X := ⟨⟨z0, ⟨z1, z2, n3, z3⟩, ⟨z4, n5, z5⟩, n6, z6, z7, z8, z9, z10⟩, n11, z11, n12, z12, n13, z13, n14, z14⟩) r3 r5 r6 r11 r12 r13 r14⟩
theorem opened_xwv {H : Type} {enc : TypeId × Value -> H} {P : Program} {w : World} {base : Nat} {held : Bool} {r : Reach} {b0 : Nat} {t : TypeId} {fs : Array Field} {v : Value} {d : DataW H} {p : List MemPlace} {N : Nat} (hs : P.underlying t = some (.struct fs)) (hsh : shT P N t = some xwSh)
 (hv : Value.okWide P w r b0 t v) (h : DataW.Trod enc P w base (fun _ => true) held t v d p) :
 ∃ (X : VW) (a1 : Option Addr) (l1 c1 : Nat) (a2 : Option Addr) (l2 c2 : Nat) (a3 : Option Addr) (l3 c3 : Nat) (a4 : Option Addr) (l4 c4 : Nat) (a5 : Option Addr) (l5 c5 : Nat) (a6 : Option Addr) (l6 c6 : Nat) (a7 : Option Addr) (l7 c7 : Nat), v = .agg (xwL X a1 l1 c1 a2 l2 c2 a3 l3 c3 a4 l4 c4 a5 l5 c5 a6 l6 c6 a7 l7 c7).toArray /\ Rd w 0 (.list 7 X.fb.set.n (fun i => trs (xrT (X.fb.set.f i)))) (.slice a1 l1 c1) /\ Rd w 0 (.list 13 X.fb.op.m (fun i => trs (dT (X.fb.op.f i)))) (.slice a2 l2 c2) /\ Rd w 0 (.list 17 X.fb.nl (fun i => trs (xnT (X.fb.lf i)))) (.slice a3 l3 c3) /\ Rd w 0 (.list 6 X.ns (fun i => trs (xsT (X.sf i)))) (.slice a4 l4 c4) /\ Rd w 0 (.list 16 X.nk (fun i => trs (xkT (X.kf i)))) (.slice a5 l5 c5) /\ Rd w 0 (.list 16 X.nr (fun i => trs (xyT (X.rf i)))) (.slice a6 l6 c6) /\ Rd w 0 (.list 15 X.ne (fun i => trs (xeT (X.ef i)))) (.slice a7 l7 c7) := by
 obtain ⟨cs, rfl, hsz⟩ := okWide_struct hs hv
 obtain ⟨fuel, hf⟩ := h
 obtain ⟨l⟩ := cs
 obtain ⟨X, hX⟩ := VW.of (opened_sh N t _ hsh fuel l _ (by simpa [Value.cells] using hf))
 have hl := (opened_sh N t _ hsh fuel l _ (by simpa [Value.cells] using hf)).1
 obtain ⟨a1, c1, a2, c2, a3, c3, a4, c4, a5, c5, a6, c6, a7, c7, rfl, r1, r2, r3, r4, r5, r6, r7⟩ := VW.cells hX hl
 exact ⟨X, a1, _, c1, a2, _, c2, a3, _, c3, a4, _, c4, a5, _, c5, a6, _, c6, a7, _, c7, rfl, r1, r2, r3, r4, r5, r6, r7⟩
end Go.Proofs.Ytplaoagcedgdfaa
namespace Go.Proofs.Ytplaoagcedgdfaa
open Go.RowKit Go.Joins
def RQ (W : World) (n : Nat) : List (Tr × Value) -> Prop
 | [] => True
 | p :: l => Rd W n p.1 p.2 /\ RQ W n l
theorem RQ.app {W : World} {n : Nat} : ∀ {P Q : List (Tr × Value)}, RQ W n P -> RQ W n Q -> RQ W n (P ++ Q)
 | [], _, _, h => h
 | _ :: _, _, g, h => ⟨g.1, RQ.app g.2 h⟩
theorem RQ.map {W V : World} {n m : Nat} (f : ∀ {t v}, Rd W n t v -> Rd V m t v) : ∀ {P : List (Tr × Value)}, RQ W n P -> RQ V m P
 | [], _ => trivial
 | _ :: _, g => ⟨f g.1, RQ.map f g.2⟩
structure TS (w : World) (t s : TypeId) (A Z : Array Value) (W : World) (O : Array Value) (Q : List (Tr × Value)) : Prop where
 b : Below w.heap.size w W
 a : Blk W w.heap.size t A
 z : Blk W (w.heap.size + 1) s Z
 o : Blk W (w.heap.size + 1 + 1) s O
 h : w.heap.size + 1 + 1 + 1 <= W.heap.size
 q : RQ W (w.heap.size + 1 + 1 + 1) Q
theorem TS.new {w W : World} {t s : TypeId} {A Z O : Array Value} (hW : W = ((w.alloc (.cells A t)).alloc (.cells Z s)).alloc (.cells O s)) : Hid (TS w t s A Z W O []) := by
 subst hW
 refine ⟨bel_nx (bel_nx (bel_alloc w _) (bel_alloc _ _)) (bel_alloc _ _), ((Blk.new w _ _).below (bel_alloc _ _)).below (bel_alloc _ _), ?_, ?_, by simp, trivial⟩
 ·have := (Blk.new (w.alloc (.cells A t)) Z s).below (bel_alloc _ (.cells O s))
  simpa using this
 have := Blk.new ((w.alloc (.cells A t)).alloc (.cells Z s)) O s
 simpa using this
theorem TS.st {w W w1 V : World} {t s : TypeId} {A Z O : Array Value} {Q : List (Tr × Value)} (g : Hid (TS w t s A Z W O Q)) (hb : Below W.heap.size W w1) {j : Nat} {vs : List Value} (hV : V = setL w1 (w.heap.size + 1 + 1) j vs) (O' : Array Value) (R : List (Tr × Value)) (hR : RQ w1 W.heap.size R) (hO : O' = wrA O j vs := by simp [wrA]) : Hid (TS w t s A Z V O' (Q ++ R)) := by
 have hg : w1.grownBy V (some (w.heap.size + 1 + 1)) := by rw [hV]; exact setL_gw _ _ _
 have h1 := hb.size
 have h2 := hg.size
 have h3 := g.out.h
 subst hV hO
 refine ⟨setL_below (by omega) _ _ _ (bel_nx g.out.b hb), Blk.stNe (by omega) _ _ (g.out.a.below hb), Blk.stNe (by omega) _ _ (g.out.z.below hb), Blk.stL _ _ (g.out.o.below hb), by omega, RQ.app (g.out.q.map fun r => (r.below hb).kept hg (by omega)) (hR.map fun r => (r.mono h3).kept hg (by omega))⟩
theorem TS.fin {w W V : World} {t s : TypeId} {A Z O : Array Value} {Q : List (Tr × Value)} (g : Hid (TS w t s A Z W O Q)) {L : List Value} (hV : V = setL W (w.heap.size + 1) 0 L) (hZ : L.toArray = wrA Z 0 L := by simp [wrA]) : Hid (Below w.heap.size w V /\ Blk V (w.heap.size + 1) s L.toArray /\ RQ V w.heap.size Q) := by
 have hg : W.grownBy V (some (w.heap.size + 1)) := by rw [hV]; exact setL_gw _ _ _
 have h3 := g.out.h
 refine ⟨by rw [hV]; exact setL_below (by omega) _ _ _ g.out.b, by rw [hV, hZ]; exact Blk.stL _ _ g.out.z, g.out.q.map fun r => (r.kept hg (by omega)).mono (by omega)⟩
theorem RowS.there {w : World} {g : Nat} {t : TypeId} {s n : Nat} {F : Nat -> List Value} (h : RowS w g t s n F) {k m : Nat} (hk : k < n) (hm : m <= s) : w.there g (k * s) m := fun j hj => by
 obtain ⟨v, e⟩ := h.ex hk (j := j) (by omega)
 exact ⟨by rw [e]; rfl, h.fro _⟩
end Go.Proofs.Ytplaoagcedgdfaa

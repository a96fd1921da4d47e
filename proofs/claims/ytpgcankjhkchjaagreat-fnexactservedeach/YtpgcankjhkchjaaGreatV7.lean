/- Texts that the proof needs, joined: ArgW Q1 Q4 Pack1 S1 Dev1 Dev2 El1 Ln1. -/
import Derived.Test.YtpgcankjhkchjaaGreatV2
import Derived.Test.YtpgcankjhkchjaaGreatV6
import Derived.Test.YtpgcankjhkchjaaGreatV1
namespace Go.Proofs.YtpgcankjhkchjaaGreat
open Go.ChangeShapes Go.WideShapes Go.ChangeAt Go.RowKit Go.Deep Go.Joins
set_option linter.unusedVariables false
set_option linter.unusedSimpArgs false
def xrSh : List Sh := [.int, .int, .int, .int, .int, .int, .int]
theorem Ru.of {w : World} {vs : List Value} (h : OfShL w xrSh vs) : ∃ X : Ru, RdL w 0 (trs (xrT X)) vs := by
  obtain ⟨hl, h⟩ := h
  match vs, hl with
  | [v0, v1, v2, v3, v4, v5, v6], _ =>
    obtain ⟨z0, rfl⟩ := h 0 v0 rfl
    obtain ⟨z1, rfl⟩ := h 1 v1 rfl
    obtain ⟨z2, rfl⟩ := h 2 v2 rfl
    obtain ⟨z3, rfl⟩ := h 3 v3 rfl
    obtain ⟨z4, rfl⟩ := h 4 v4 rfl
    obtain ⟨z5, rfl⟩ := h 5 v5 rfl
    obtain ⟨z6, rfl⟩ := h 6 v6 rfl
    exact ⟨⟨z0, z1, z2, z3, z4, z5, z6⟩, Ru.back (X := ⟨z0, z1, z2, z3, z4, z5, z6⟩) ⟩
def xcSh : List Sh := [.int, .int, .lst 7 (fun j => xrSh.getD j .int)]
def xlSh : List Sh := [.int, .int, .int, .int, .int, .int, .lst 1 (fun j => [Sh.int].getD j .int), .lst 1 (fun j => [Sh.bool].getD j .int), .int]
theorem VL.of {w : World} {vs : List Value} (h : OfShL w xlSh vs) : ∃ X : VL, RdL w 0 (trs (xlT X)) vs := by
  obtain ⟨hl, h⟩ := h
  match vs, hl with
  | [v0, v1, v2, v3, v4, v5, v6, v7, v8], _ =>
    obtain ⟨z0, rfl⟩ := h 0 v0 rfl
    obtain ⟨z1, rfl⟩ := h 1 v1 rfl
    obtain ⟨z2, rfl⟩ := h 2 v2 rfl
    obtain ⟨z3, rfl⟩ := h 3 v3 rfl
    obtain ⟨z4, rfl⟩ := h 4 v4 rfl
    obtain ⟨z5, rfl⟩ := h 5 v5 rfl
    obtain ⟨z6, r6⟩ := OfSh.ints (h 6 v6 rfl) rfl
    obtain ⟨a6, c6, e6, _⟩ := r6.shape
    subst e6
    obtain ⟨z7, r7⟩ := OfSh.bools (h 7 v7 rfl) rfl
    obtain ⟨a7, c7, e7, _⟩ := r7.shape
    subst e7
    obtain ⟨z8, rfl⟩ := h 8 v8 rfl
    exact ⟨⟨z0, z1, z2, ⟨z3, z4, z5, z6, z7, z8⟩⟩, VL.back (X := ⟨z0, z1, z2, ⟨z3, z4, z5, z6, z7, z8⟩⟩) r6 r7⟩
def xnSh : List Sh := [.lst 9 (fun j => xlSh.getD j .int), .bool, .int, .int, .int, .int, .int, .int, .lst 1 (fun j => [Sh.int].getD j .int), .lst 1 (fun j => [Sh.bool].getD j .int), .int, .int, .int, .int, .int, .int, .int]
theorem VN.of {w : World} {vs : List Value} (h : OfShL w xnSh vs) : ∃ X : VN, RdL w 0 (trs (xnT X)) vs := by
  obtain ⟨hl, h⟩ := h
  match vs, hl with
  | [v0, v1, v2, v3, v4, v5, v6, v7, v8, v9, v10, v11, v12, v13, v14, v15, v16], _ =>
    obtain ⟨n0, z0, r0⟩ := OfSh.list (T := xlT) (h 0 v0 rfl) (fun vs h1 h2 => VL.of ⟨h1, h2⟩)
    obtain ⟨a0, c0, e0, _⟩ := r0.shape
    subst e0
    obtain ⟨z1, rfl⟩ := h 1 v1 rfl
    obtain ⟨z2, rfl⟩ := h 2 v2 rfl
    obtain ⟨z3, rfl⟩ := h 3 v3 rfl
    obtain ⟨z4, rfl⟩ := h 4 v4 rfl
    obtain ⟨z5, rfl⟩ := h 5 v5 rfl
    obtain ⟨z6, rfl⟩ := h 6 v6 rfl
    obtain ⟨z7, rfl⟩ := h 7 v7 rfl
    obtain ⟨z8, r8⟩ := OfSh.ints (h 8 v8 rfl) rfl
    obtain ⟨a8, c8, e8, _⟩ := r8.shape
    subst e8
    obtain ⟨z9, r9⟩ := OfSh.bools (h 9 v9 rfl) rfl
    obtain ⟨a9, c9, e9, _⟩ := r9.shape
    subst e9
    obtain ⟨z10, rfl⟩ := h 10 v10 rfl
    obtain ⟨z11, rfl⟩ := h 11 v11 rfl
    obtain ⟨z12, rfl⟩ := h 12 v12 rfl
    obtain ⟨z13, rfl⟩ := h 13 v13 rfl
    obtain ⟨z14, rfl⟩ := h 14 v14 rfl
    obtain ⟨z15, rfl⟩ := h 15 v15 rfl
    obtain ⟨z16, rfl⟩ := h 16 v16 rfl
    exact ⟨⟨n0, z0, z1, ⟨z2, z3, z4, ⟨z5, z6, z7, z8, z9, z10⟩⟩, z11, z12, z13, z14, z15, z16⟩, VN.back (X := ⟨n0, z0, z1, ⟨z2, z3, z4, ⟨z5, z6, z7, z8, z9, z10⟩⟩, z11, z12, z13, z14, z15, z16⟩) r0 r8 r9⟩
def xfSh : List Sh := [.int, .int, .int, .lst 7 (fun j => xrSh.getD j .int), .int, .lst 13 (fun j => dSh.getD j .int), .lst 17 (fun j => xnSh.getD j .int), .int, .int, .int, .int]
def xdSh : List Sh := [.lst 1 (fun j => [Sh.bool].getD j .int), .lst 1 (fun j => [Sh.bool].getD j .int), .lst 1 (fun j => [Sh.int].getD j .int), .lst 1 (fun j => [Sh.int].getD j .int)]
def xsSh : List Sh := [.int, .int, .lst 1 (fun j => [Sh.bool].getD j .int), .lst 1 (fun j => [Sh.bool].getD j .int), .lst 1 (fun j => [Sh.int].getD j .int), .lst 1 (fun j => [Sh.int].getD j .int)]
theorem VS.of {w : World} {vs : List Value} (h : OfShL w xsSh vs) : ∃ X : VS, RdL w 0 (trs (xsT X)) vs := by
  obtain ⟨hl, h⟩ := h
  match vs, hl with
  | [v0, v1, v2, v3, v4, v5], _ =>
    obtain ⟨z0, rfl⟩ := h 0 v0 rfl
    obtain ⟨z1, rfl⟩ := h 1 v1 rfl
    obtain ⟨z2, r2⟩ := OfSh.bools (h 2 v2 rfl) rfl
    obtain ⟨a2, c2, e2, _⟩ := r2.shape
    subst e2
    obtain ⟨z3, r3⟩ := OfSh.bools (h 3 v3 rfl) rfl
    obtain ⟨a3, c3, e3, _⟩ := r3.shape
    subst e3
    obtain ⟨z4, r4⟩ := OfSh.ints (h 4 v4 rfl) rfl
    obtain ⟨a4, c4, e4, _⟩ := r4.shape
    subst e4
    obtain ⟨z5, r5⟩ := OfSh.ints (h 5 v5 rfl) rfl
    obtain ⟨a5, c5, e5, _⟩ := r5.shape
    subst e5
    exact ⟨⟨z0, z1, ⟨z2, z3, z4, z5⟩⟩, VS.back (X := ⟨z0, z1, ⟨z2, z3, z4, z5⟩⟩) r2 r3 r4 r5⟩
def xkSh : List Sh := [.bool, .int, .int, .int, .int, .int, .int, .lst 1 (fun j => [Sh.int].getD j .int), .lst 1 (fun j => [Sh.bool].getD j .int), .int, .int, .int, .int, .int, .lst 1 (fun j => [Sh.int].getD j .int), .lst 1 (fun j => [Sh.bool].getD j .int)]
theorem VK.of {w : World} {vs : List Value} (h : OfShL w xkSh vs) : ∃ X : VK, RdL w 0 (trs (xkT X)) vs := by
  obtain ⟨hl, h⟩ := h
  match vs, hl with
  | [v0, v1, v2, v3, v4, v5, v6, v7, v8, v9, v10, v11, v12, v13, v14, v15], _ =>
    obtain ⟨z0, rfl⟩ := h 0 v0 rfl
    obtain ⟨z1, rfl⟩ := h 1 v1 rfl
    obtain ⟨z2, rfl⟩ := h 2 v2 rfl
    obtain ⟨z3, rfl⟩ := h 3 v3 rfl
    obtain ⟨z4, rfl⟩ := h 4 v4 rfl
    obtain ⟨z5, rfl⟩ := h 5 v5 rfl
    obtain ⟨z6, rfl⟩ := h 6 v6 rfl
    obtain ⟨z7, r7⟩ := OfSh.ints (h 7 v7 rfl) rfl
    obtain ⟨a7, c7, e7, _⟩ := r7.shape
    subst e7
    obtain ⟨z8, r8⟩ := OfSh.bools (h 8 v8 rfl) rfl
    obtain ⟨a8, c8, e8, _⟩ := r8.shape
    subst e8
    obtain ⟨z9, rfl⟩ := h 9 v9 rfl
    obtain ⟨z10, rfl⟩ := h 10 v10 rfl
    obtain ⟨z11, rfl⟩ := h 11 v11 rfl
    obtain ⟨z12, rfl⟩ := h 12 v12 rfl
    obtain ⟨z13, rfl⟩ := h 13 v13 rfl
    obtain ⟨z14, r14⟩ := OfSh.ints (h 14 v14 rfl) rfl
    obtain ⟨a14, c14, e14, _⟩ := r14.shape
    subst e14
    obtain ⟨z15, r15⟩ := OfSh.bools (h 15 v15 rfl) rfl
    obtain ⟨a15, c15, e15, _⟩ := r15.shape
    subst e15
    exact ⟨⟨z0, z1, z2, z3, ⟨z4, z5, z6, z7, z8, z9⟩, ⟨z10, z11, z12, z13, z14, z15⟩⟩, VK.back (X := ⟨z0, z1, z2, z3, ⟨z4, z5, z6, z7, z8, z9⟩, ⟨z10, z11, z12, z13, z14, z15⟩⟩) r7 r8 r14 r15⟩
def xySh : List Sh := [.int, .int, .int, .int, .int, .lst 1 (fun j => [Sh.int].getD j .int), .lst 1 (fun j => [Sh.bool].getD j .int), .int, .lst 8 (fun j => pSh.getD j .int), .lst 6 (fun j => aSh.getD j .int), .int, .int, .int, .int, .lst 1 (fun j => [Sh.int].getD j .int), .lst 1 (fun j => [Sh.bool].getD j .int)]
theorem VR.of {w : World} {vs : List Value} (h : OfShL w xySh vs) : ∃ X : VR, RdL w 0 (trs (xyT X)) vs := by
  obtain ⟨hl, h⟩ := h
  match vs, hl with
  | [v0, v1, v2, v3, v4, v5, v6, v7, v8, v9, v10, v11, v12, v13, v14, v15], _ =>
    obtain ⟨z0, rfl⟩ := h 0 v0 rfl
    obtain ⟨z1, rfl⟩ := h 1 v1 rfl
    obtain ⟨z2, rfl⟩ := h 2 v2 rfl
    obtain ⟨z3, rfl⟩ := h 3 v3 rfl
    obtain ⟨z4, rfl⟩ := h 4 v4 rfl
    obtain ⟨z5, r5⟩ := OfSh.ints (h 5 v5 rfl) rfl
    obtain ⟨a5, c5, e5, _⟩ := r5.shape
    subst e5
    obtain ⟨z6, r6⟩ := OfSh.bools (h 6 v6 rfl) rfl
    obtain ⟨a6, c6, e6, _⟩ := r6.shape
    subst e6
    obtain ⟨z7, rfl⟩ := h 7 v7 rfl
    obtain ⟨n8, z8, r8⟩ := OfSh.list (T := pT) (h 8 v8 rfl) (fun vs h1 h2 => VP.of ⟨h1, h2⟩)
    obtain ⟨a8, c8, e8, _⟩ := r8.shape
    subst e8
    obtain ⟨n9, z9, r9⟩ := OfSh.list (T := aT) (h 9 v9 rfl) (fun vs h1 h2 => VA.of ⟨h1, h2⟩)
    obtain ⟨a9, c9, e9, _⟩ := r9.shape
    subst e9
    obtain ⟨z10, rfl⟩ := h 10 v10 rfl
    obtain ⟨z11, rfl⟩ := h 11 v11 rfl
    obtain ⟨z12, rfl⟩ := h 12 v12 rfl
    obtain ⟨z13, rfl⟩ := h 13 v13 rfl
    obtain ⟨z14, r14⟩ := OfSh.ints (h 14 v14 rfl) rfl
    obtain ⟨a14, c14, e14, _⟩ := r14.shape
    subst e14
    obtain ⟨z15, r15⟩ := OfSh.bools (h 15 v15 rfl) rfl
    obtain ⟨a15, c15, e15, _⟩ := r15.shape
    subst e15
    exact ⟨⟨z0, z1, ⟨z2, z3, z4, z5, z6, z7⟩, n8, z8, n9, z9, ⟨z10, z11, z12, z13, z14, z15⟩⟩, VR.back (X := ⟨z0, z1, ⟨z2, z3, z4, z5, z6, z7⟩, n8, z8, n9, z9, ⟨z10, z11, z12, z13, z14, z15⟩⟩) r5 r6 r8 r9 r14 r15⟩
def xeSh : List Sh := [.int, .int, .int, .int, .int, .int, .lst 1 (fun j => [Sh.int].getD j .int), .lst 1 (fun j => [Sh.bool].getD j .int), .int, .int, .int, .int, .int, .lst 1 (fun j => [Sh.int].getD j .int), .lst 1 (fun j => [Sh.bool].getD j .int)]
theorem VE.of {w : World} {vs : List Value} (h : OfShL w xeSh vs) : ∃ X : VE, RdL w 0 (trs (xeT X)) vs := by
  obtain ⟨hl, h⟩ := h
  match vs, hl with
  | [v0, v1, v2, v3, v4, v5, v6, v7, v8, v9, v10, v11, v12, v13, v14], _ =>
    obtain ⟨z0, rfl⟩ := h 0 v0 rfl
    obtain ⟨z1, rfl⟩ := h 1 v1 rfl
    obtain ⟨z2, rfl⟩ := h 2 v2 rfl
    obtain ⟨z3, rfl⟩ := h 3 v3 rfl
    obtain ⟨z4, rfl⟩ := h 4 v4 rfl
    obtain ⟨z5, rfl⟩ := h 5 v5 rfl
    obtain ⟨z6, r6⟩ := OfSh.ints (h 6 v6 rfl) rfl
    obtain ⟨a6, c6, e6, _⟩ := r6.shape
    subst e6
    obtain ⟨z7, r7⟩ := OfSh.bools (h 7 v7 rfl) rfl
    obtain ⟨a7, c7, e7, _⟩ := r7.shape
    subst e7
    obtain ⟨z8, rfl⟩ := h 8 v8 rfl
    obtain ⟨z9, rfl⟩ := h 9 v9 rfl
    obtain ⟨z10, rfl⟩ := h 10 v10 rfl
    obtain ⟨z11, rfl⟩ := h 11 v11 rfl
    obtain ⟨z12, rfl⟩ := h 12 v12 rfl
    obtain ⟨z13, r13⟩ := OfSh.ints (h 13 v13 rfl) rfl
    obtain ⟨a13, c13, e13, _⟩ := r13.shape
    subst e13
    obtain ⟨z14, r14⟩ := OfSh.bools (h 14 v14 rfl) rfl
    obtain ⟨a14, c14, e14, _⟩ := r14.shape
    subst e14
    exact ⟨⟨z0, z1, z2, ⟨z3, z4, z5, z6, z7, z8⟩, ⟨z9, z10, z11, z12, z13, z14⟩⟩, VE.back (X := ⟨z0, z1, z2, ⟨z3, z4, z5, z6, z7, z8⟩, ⟨z9, z10, z11, z12, z13, z14⟩⟩) r6 r7 r13 r14⟩
def xwSh : List Sh := [.int, .int, .int, .lst 7 (fun j => xrSh.getD j .int), .int, .lst 13 (fun j => dSh.getD j .int), .lst 17 (fun j => xnSh.getD j .int), .int, .int, .int, .int, .lst 6 (fun j => xsSh.getD j .int), .lst 16 (fun j => xkSh.getD j .int), .lst 16 (fun j => xySh.getD j .int), .lst 15 (fun j => xeSh.getD j .int)]
theorem VW.of {w : World} {vs : List Value} (h : OfShL w xwSh vs) : ∃ X : VW, RdL w 0 (trs (xwT X)) vs := by
  obtain ⟨hl, h⟩ := h
  match vs, hl with
  | [v0, v1, v2, v3, v4, v5, v6, v7, v8, v9, v10, v11, v12, v13, v14], _ =>
    obtain ⟨z0, rfl⟩ := h 0 v0 rfl
    obtain ⟨z1, rfl⟩ := h 1 v1 rfl
    obtain ⟨z2, rfl⟩ := h 2 v2 rfl
    obtain ⟨n3, z3, r3⟩ := OfSh.list (T := xrT) (h 3 v3 rfl) (fun vs h1 h2 => Ru.of ⟨h1, h2⟩)
    obtain ⟨a3, c3, e3, _⟩ := r3.shape
    subst e3
    obtain ⟨z4, rfl⟩ := h 4 v4 rfl
    obtain ⟨n5, z5, r5⟩ := OfSh.list (T := dT) (h 5 v5 rfl) (fun vs h1 h2 => VD.of ⟨h1, h2⟩)
    obtain ⟨a5, c5, e5, _⟩ := r5.shape
    subst e5
    obtain ⟨n6, z6, r6⟩ := OfSh.list (T := xnT) (h 6 v6 rfl) (fun vs h1 h2 => VN.of ⟨h1, h2⟩)
    obtain ⟨a6, c6, e6, _⟩ := r6.shape
    subst e6
    obtain ⟨z7, rfl⟩ := h 7 v7 rfl
    obtain ⟨z8, rfl⟩ := h 8 v8 rfl
    obtain ⟨z9, rfl⟩ := h 9 v9 rfl
    obtain ⟨z10, rfl⟩ := h 10 v10 rfl
    obtain ⟨n11, z11, r11⟩ := OfSh.list (T := xsT) (h 11 v11 rfl) (fun vs h1 h2 => VS.of ⟨h1, h2⟩)
    obtain ⟨a11, c11, e11, _⟩ := r11.shape
    subst e11
    obtain ⟨n12, z12, r12⟩ := OfSh.list (T := xkT) (h 12 v12 rfl) (fun vs h1 h2 => VK.of ⟨h1, h2⟩)
    obtain ⟨a12, c12, e12, _⟩ := r12.shape
    subst e12
    obtain ⟨n13, z13, r13⟩ := OfSh.list (T := xyT) (h 13 v13 rfl) (fun vs h1 h2 => VR.of ⟨h1, h2⟩)
    obtain ⟨a13, c13, e13, _⟩ := r13.shape
    subst e13
    obtain ⟨n14, z14, r14⟩ := OfSh.list (T := xeT) (h 14 v14 rfl) (fun vs h1 h2 => VE.of ⟨h1, h2⟩)
    obtain ⟨a14, c14, e14, _⟩ := r14.shape
    subst e14
    exact ⟨⟨⟨z0, ⟨z1, z2, n3, z3⟩, ⟨z4, n5, z5⟩, n6, z6, z7, z8, z9, z10⟩, n11, z11, n12, z12, n13, z13, n14, z14⟩, VW.back (X := ⟨⟨z0, ⟨z1, z2, n3, z3⟩, ⟨z4, n5, z5⟩, n6, z6, z7, z8, z9, z10⟩, n11, z11, n12, z12, n13, z13, n14, z14⟩) r3 r5 r6 r11 r12 r13 r14⟩
theorem opened_xwv {H : Type} {enc : TypeId × Value → H} {P : Program} {w : World} {base : Nat} {held : Bool} {r : Reach} {b0 : Nat} {t : TypeId} {fs : Array Field} {v : Value} {d : DataW H} {p : List MemPlace} {N : Nat} (hs : P.underlying t = some (.struct fs)) (hsh : shT P N t = some xwSh)
    (hv : Value.okWide P w r b0 t v) (h : DataW.Trod enc P w base (fun _ => true) held t v d p) :
    ∃ (X : VW) (a1 : Option Addr) (l1 c1 : Nat) (a2 : Option Addr) (l2 c2 : Nat) (a3 : Option Addr) (l3 c3 : Nat) (a4 : Option Addr) (l4 c4 : Nat) (a5 : Option Addr) (l5 c5 : Nat) (a6 : Option Addr) (l6 c6 : Nat) (a7 : Option Addr) (l7 c7 : Nat), v = .agg (xwL X a1 l1 c1 a2 l2 c2 a3 l3 c3 a4 l4 c4 a5 l5 c5 a6 l6 c6 a7 l7 c7).toArray ∧ Rd w 0 (.list 7 X.fb.set.n (fun i => trs (xrT (X.fb.set.f i)))) (.slice a1 l1 c1) ∧ Rd w 0 (.list 13 X.fb.op.m (fun i => trs (dT (X.fb.op.f i)))) (.slice a2 l2 c2) ∧ Rd w 0 (.list 17 X.fb.nl (fun i => trs (xnT (X.fb.lf i)))) (.slice a3 l3 c3) ∧ Rd w 0 (.list 6 X.ns (fun i => trs (xsT (X.sf i)))) (.slice a4 l4 c4) ∧ Rd w 0 (.list 16 X.nk (fun i => trs (xkT (X.kf i)))) (.slice a5 l5 c5) ∧ Rd w 0 (.list 16 X.nr (fun i => trs (xyT (X.rf i)))) (.slice a6 l6 c6) ∧ Rd w 0 (.list 15 X.ne (fun i => trs (xeT (X.ef i)))) (.slice a7 l7 c7) := by
  obtain ⟨cs, rfl, hsz⟩ := okWide_struct hs hv
  obtain ⟨fuel, hf⟩ := h
  obtain ⟨l⟩ := cs
  obtain ⟨X, hX⟩ := VW.of (opened_sh N t _ hsh fuel l _ (by simpa [Value.cells] using hf))
  have hl := (opened_sh N t _ hsh fuel l _ (by simpa [Value.cells] using hf)).1
  obtain ⟨a1, c1, a2, c2, a3, c3, a4, c4, a5, c5, a6, c6, a7, c7, rfl, r1, r2, r3, r4, r5, r6, r7⟩ := VW.cells hX hl
  exact ⟨X, a1, _, c1, a2, _, c2, a3, _, c3, a4, _, c4, a5, _, c5, a6, _, c6, a7, _, c7, rfl, r1, r2, r3, r4, r5, r6, r7⟩
end Go.Proofs.YtpgcankjhkchjaaGreat
namespace Go.Proofs.YtpgcankjhkchjaaGreat
open Go.RowKit
set_option linter.unusedVariables false
def inB (x lo hi : Int) : Bool := decide (lo ≤ x ∧ x ≤ hi)
def allW (ws : List Int) : Bool := decide (∀ k, k < ws.length → 0 ≤ ws.getD k 0 ∧ ws.getD k 0 ≤ 65535)
def fitB (p n : Int) : Bool := decide (0 ≤ p ∧ p ≤ 65535 ∧ p + n ≤ 65536)
def rnB (p n most : Int) : Bool := decide (1 ≤ n ∧ n ≤ most ∧ 0 ≤ p ∧ p + n ≤ 65536)
def zrB (n w b a : Bool) (nn : Int) (l1 l2 : Nat) (wa : Int) : Bool := (n || decide (nn = 0)) && ((w || decide (l1 = 0)) && ((b || decide (l2 = 0)) && (a || decide (wa = 0))))
set_option maxHeartbeats 1000000 in
theorem equal_int (a a' : Option Addr) (n n' cap cap' : Nat) (zs : List Int) (w : World) (hn : n = zs.length) (hn' : n' = zs.length) (hs : SlI w a zs) (hs' : SlI w a' zs) (hl : zs.length ≤ 2000000) :
    Calls Tryz.prog 250 #[.slice a n cap, .slice a' n' cap'] w fun e w' => e = .returned (.bool true) ∧ Below w.heap.size w w' := by
  subst hn hn'
  go_enter Tryz.func250, Tryz.ntmps250
  go_wp2
  go_loopw [13] (fun i wr => ∃ k : Nat, k ≤ zs.length ∧ i = .int .i64 k ∧ ∃ n, wr = w.drewN n) (fun i _ => zs.length - (intOf i).toNat)
  case atStart => exact ⟨0, Nat.zero_le _, rfl, 0, rfl⟩
  case round =>
    obtain ⟨k, hk, rfl, n, rfl⟩ := hrel
    by_cases hlt : k < zs.length
    · obtain ⟨b, off, rfl, _, hc⟩ := cell_atI hs hlt
      obtain ⟨b', off', rfl, _, hc'⟩ := cell_atI hs' hlt
      have hi : (k : Int) < (zs.length : Int) := by omega
      clear hs hs'
      go_wp2
      go_quiet (fail)
      go_wp2
      go_roundw
      case rel => first | exact ⟨k + 1, by omega, by go_num, _, rfl⟩ | exact ⟨_, _, ⟨k + 1, by omega, by go_num, _, rfl⟩, rfl, rfl⟩
      case measure => simp [intOf]; omega
    · clear hs hs'
      go_wp2
      go_ret
      exact ⟨rfl, drew_refl _ _⟩
set_option maxHeartbeats 1000000 in
theorem equal_int_len (a a' : Option Addr) (n n' cap cap' : Nat) (w : World) (hne : ¬ (n : Int) = (n' : Int)) (h1 : n ≤ 20000000) (h2 : n' ≤ 20000000) :
    Calls Tryz.prog 250 #[.slice a n cap, .slice a' n' cap'] w fun e w' => e = .returned (.bool false) ∧ Below w.heap.size w w' := by
  go_enter Tryz.func250, Tryz.ntmps250
  go_wp2
  go_ret
  exact ⟨rfl, Below.refl _ _⟩
set_option maxHeartbeats 1000000 in
theorem equal_bool (a a' : Option Addr) (n n' cap cap' : Nat) (zs : List Bool) (w : World) (hn : n = zs.length) (hn' : n' = zs.length) (hs : SlB w a zs) (hs' : SlB w a' zs) (hl : zs.length ≤ 2000000) :
    Calls Tryz.prog 251 #[.slice a n cap, .slice a' n' cap'] w fun e w' => e = .returned (.bool true) ∧ Below w.heap.size w w' := by
  subst hn hn'
  go_enter Tryz.func251, Tryz.ntmps251
  go_wp2
  go_loopw [13] (fun i wr => ∃ k : Nat, k ≤ zs.length ∧ i = .int .i64 k ∧ ∃ n, wr = w.drewN n) (fun i _ => zs.length - (intOf i).toNat)
  case atStart => exact ⟨0, Nat.zero_le _, rfl, 0, rfl⟩
  case round =>
    obtain ⟨k, hk, rfl, n, rfl⟩ := hrel
    by_cases hlt : k < zs.length
    · obtain ⟨b, off, rfl, _, hc⟩ := cell_atB hs hlt
      obtain ⟨b', off', rfl, _, hc'⟩ := cell_atB hs' hlt
      have hi : (k : Int) < (zs.length : Int) := by omega
      clear hs hs'
      go_wp2
      go_quiet (fail)
      go_wp2
      go_roundw
      case rel => first | exact ⟨k + 1, by omega, by go_num, _, rfl⟩ | exact ⟨_, _, ⟨k + 1, by omega, by go_num, _, rfl⟩, rfl, rfl⟩
      case measure => simp [intOf]; omega
    · clear hs hs'
      go_wp2
      go_ret
      exact ⟨rfl, drew_refl _ _⟩
set_option maxHeartbeats 1000000 in
theorem equal_bool_len (a a' : Option Addr) (n n' cap cap' : Nat) (w : World) (hne : ¬ (n : Int) = (n' : Int)) (h1 : n ≤ 20000000) (h2 : n' ≤ 20000000) :
    Calls Tryz.prog 251 #[.slice a n cap, .slice a' n' cap'] w fun e w' => e = .returned (.bool false) ∧ Below w.heap.size w w' := by
  go_enter Tryz.func251, Tryz.ntmps251
  go_wp2
  go_ret
  exact ⟨rfl, Below.refl _ _⟩
end Go.Proofs.YtpgcankjhkchjaaGreat
namespace Go.Proofs.YtpgcankjhkchjaaGreat
open Go.RowKit
set_option linter.unusedVariables false
end Go.Proofs.YtpgcankjhkchjaaGreat
namespace Go.Proofs.YtpgcankjhkchjaaGreat
open Go.RowKit
def pv (bits : List Bool) : Nat → Nat → Int
  | 0, _ => 0
  | k + 1, j => if k / 8 = j ∧ bits.getD k false = true then pv bits k j + (2 ^ (k % 8) : Nat) else pv bits k j
end Go.Proofs.YtpgcankjhkchjaaGreat
namespace Go.Proofs.YtpgcankjhkchjaaGreat
open Go.RowKit
set_option linter.unusedVariables false
set_option linter.unusedSimpArgs false
theorem first_diff {α : Type} [DecidableEq α] (d : α) : ∀ (zs ys : List α), zs.length = ys.length → zs ≠ ys → ∃ k, k < zs.length ∧ zs.getD k d ≠ ys.getD k d ∧ ∀ j, j < k → zs.getD j d = ys.getD j d
  | [], [], _, h => absurd rfl h
  | [], _ :: _, h, _ => by simp at h
  | _ :: _, [], h, _ => by simp at h
  | x :: r, y :: s, hl, hne => by
    by_cases e : x = y
    · subst e
      obtain ⟨k, h1, h2, h3⟩ := first_diff d r s (by simpa using hl) (fun h => hne (by rw [h]))
      refine ⟨k + 1, by simp; omega, by simpa using h2, fun j hj => ?_⟩
      cases j with
      | zero => simp
      | succ j => simpa using h3 j (by omega)
    · exact ⟨0, by simp, by simpa using e, fun j hj => by omega⟩
set_option maxHeartbeats 2000000 in
theorem equal_int_ne (a a' : Option Addr) (n n' cap cap' : Nat) (zs ys : List Int) (w : World) (hn : n = zs.length) (hn' : n' = zs.length) (hy : zs.length = ys.length) (hs : SlI w a zs) (hs' : SlI w a' ys) (hl : zs.length ≤ 2000000) (hne : zs ≠ ys) :
    Calls Tryz.prog 250 #[.slice a n cap, .slice a' n' cap'] w fun e w' => e = .returned (.bool false) ∧ Below w.heap.size w w' := by
  subst hn hn'
  obtain ⟨d, hd, hdn, hdj⟩ := first_diff 0 zs ys hy hne
  have HY : Hid (zs.length = ys.length) := hy
  have HD : Hid (∀ j, j < d → zs.getD j 0 = ys.getD j 0) := hdj
  clear hy hdj hne
  go_enter Tryz.func250, Tryz.ntmps250
  go_wp2
  go_loopw [13] (fun i wr => ∃ k : Nat, k ≤ d ∧ i = .int .i64 k ∧ ∃ n, wr = w.drewN n) (fun i _ => d - (intOf i).toNat)
  case atStart => exact ⟨0, Nat.zero_le _, rfl, 0, rfl⟩
  case round =>
    obtain ⟨k, hk, rfl, n, rfl⟩ := hrel
    have hlt : k < zs.length := by omega
    obtain ⟨b, off, rfl, _, hc⟩ := cell_atI hs hlt
    obtain ⟨b', off', rfl, _, hc'⟩ := cell_atI hs' (show k < ys.length by have := HY.out; omega)
    have hi : (k : Int) < (zs.length : Int) := by omega
    by_cases hkd : k < d
    · rw [← HD.out k hkd] at hc'
      clear hs hs'
      go_wp2
      go_quiet (fail)
      go_wp2
      go_roundw
      case rel => first | exact ⟨k + 1, by omega, by go_num, _, rfl⟩ | exact ⟨_, _, ⟨k + 1, by omega, by go_num, _, rfl⟩, rfl, rfl⟩
      case measure => simp [intOf]; omega
    · obtain rfl : k = d := by omega
      clear hs hs'
      generalize zs.getD k 0 = x at *
      generalize ys.getD k 0 = y at *
      go_wp2
      go_quiet (fail)
      go_wp2
      go_ret
      exact ⟨rfl, bel_drewN (drew_refl _ _) _⟩
set_option maxHeartbeats 2000000 in
theorem equal_bool_ne (a a' : Option Addr) (n n' cap cap' : Nat) (zs ys : List Bool) (w : World) (hn : n = zs.length) (hn' : n' = zs.length) (hy : zs.length = ys.length) (hs : SlB w a zs) (hs' : SlB w a' ys) (hl : zs.length ≤ 2000000) (hne : zs ≠ ys) :
    Calls Tryz.prog 251 #[.slice a n cap, .slice a' n' cap'] w fun e w' => e = .returned (.bool false) ∧ Below w.heap.size w w' := by
  subst hn hn'
  obtain ⟨d, hd, hdn, hdj⟩ := first_diff false zs ys hy hne
  have HY : Hid (zs.length = ys.length) := hy
  have HD : Hid (∀ j, j < d → zs.getD j false = ys.getD j false) := hdj
  clear hy hdj hne
  go_enter Tryz.func251, Tryz.ntmps251
  go_wp2
  go_loopw [13] (fun i wr => ∃ k : Nat, k ≤ d ∧ i = .int .i64 k ∧ ∃ n, wr = w.drewN n) (fun i _ => d - (intOf i).toNat)
  case atStart => exact ⟨0, Nat.zero_le _, rfl, 0, rfl⟩
  case round =>
    obtain ⟨k, hk, rfl, n, rfl⟩ := hrel
    have hlt : k < zs.length := by omega
    obtain ⟨b, off, rfl, _, hc⟩ := cell_atB hs hlt
    obtain ⟨b', off', rfl, _, hc'⟩ := cell_atB hs' (show k < ys.length by have := HY.out; omega)
    have hi : (k : Int) < (zs.length : Int) := by omega
    by_cases hkd : k < d
    · rw [← HD.out k hkd] at hc'
      clear hs hs'
      go_wp2
      go_quiet (fail)
      go_wp2
      go_roundw
      case rel => first | exact ⟨k + 1, by omega, by go_num, _, rfl⟩ | exact ⟨_, _, ⟨k + 1, by omega, by go_num, _, rfl⟩, rfl, rfl⟩
      case measure => simp [intOf]; omega
    · obtain rfl : k = d := by omega
      clear hs hs'
      generalize zs.getD k false = x at *
      generalize ys.getD k false = y at *
      obtain rfl : y = !x := by cases x <;> cases y <;> simp_all
      clear hdn
      cases x
      all_goals (
        go_wp2
        go_quiet (fail)
        go_wp2
        go_ret
        exact ⟨rfl, bel_drewN (drew_refl _ _) _⟩)
theorem equal_int_any (a a' : Option Addr) (n n' cap cap' : Nat) (zs ys : List Int) (w : World) (hn : n = zs.length) (hn' : n' = ys.length) (hs : SlI w a zs) (hs' : SlI w a' ys) (hl : zs.length ≤ 2000000) (hl' : ys.length ≤ 2000000) (b : Bool) (hb : decide (zs = ys) = b) :
    Calls Tryz.prog 250 #[.slice a n cap, .slice a' n' cap'] w fun e w' => e = .returned (.bool b) ∧ Below w.heap.size w w' := by
  subst hb
  by_cases h : zs = ys
  · subst h
    rw [decide_eq_true rfl]
    exact equal_int a a' n n' cap cap' zs w hn hn' hs hs' hl
  · rw [decide_eq_false h]
    by_cases hy : zs.length = ys.length
    · exact equal_int_ne a a' n n' cap cap' zs ys w hn (hn'.trans hy.symm) hy hs hs' hl h
    · exact equal_int_len a a' n n' cap cap' w (by omega) (by omega) (by omega)
theorem equal_bool_any (a a' : Option Addr) (n n' cap cap' : Nat) (zs ys : List Bool) (w : World) (hn : n = zs.length) (hn' : n' = ys.length) (hs : SlB w a zs) (hs' : SlB w a' ys) (hl : zs.length ≤ 2000000) (hl' : ys.length ≤ 2000000) (b : Bool) (hb : decide (zs = ys) = b) :
    Calls Tryz.prog 251 #[.slice a n cap, .slice a' n' cap'] w fun e w' => e = .returned (.bool b) ∧ Below w.heap.size w w' := by
  subst hb
  by_cases h : zs = ys
  · subst h
    rw [decide_eq_true rfl]
    exact equal_bool a a' n n' cap cap' zs w hn hn' hs hs' hl
  · rw [decide_eq_false h]
    by_cases hy : zs.length = ys.length
    · exact equal_bool_ne a a' n n' cap cap' zs ys w hn (hn'.trans hy.symm) hy hs hs' hl h
    · exact equal_bool_len a a' n n' cap cap' w (by omega) (by omega) (by omega)
set_option maxHeartbeats 2000000 in
theorem l4SameWords_any (a a' : Option Addr) (n n' cap cap' : Nat) (zs ys : List Int) (w : World) (hn : n = zs.length) (hn' : n' = ys.length) (hs : SlI w a zs) (hs' : SlI w a' ys) (hl : zs.length ≤ 2000000) (hl' : ys.length ≤ 2000000) (b : Bool) (hb : decide (zs = ys) = b) :
    Calls Tryz.prog 141 #[.slice a n cap, .slice a' n' cap'] w fun e w' => e = .returned (.bool b) ∧ Below w.heap.size w w' := by
  subst hb hn hn'
  by_cases hy : zs.length = ys.length
  · have hyi : (zs.length : Int) = (ys.length : Int) := by omega
    have HY : Hid (zs.length = ys.length) := hy
    by_cases h : zs = ys
    · subst h
      rw [decide_eq_true rfl]
      clear hy hyi
      go_enter Tryz.func141, Tryz.ntmps141
      go_wp2
      go_loopw [5] (fun i wr => ∃ k : Nat, k ≤ zs.length ∧ i = .int .i64 k ∧ ∃ n, wr = w.drewN n) (fun i _ => zs.length - (intOf i).toNat)
      case atStart => exact ⟨0, Nat.zero_le _, rfl, 0, rfl⟩
      case round =>
        obtain ⟨k, hk, rfl, n, rfl⟩ := hrel
        by_cases hlt : k < zs.length
        · obtain ⟨b, off, rfl, _, hc⟩ := cell_atI hs hlt
          obtain ⟨b', off', rfl, _, hc'⟩ := cell_atI hs' hlt
          have hi : (k : Int) < (zs.length : Int) := by omega
          clear hs hs'
          go_wp2
          go_quiet (fail)
          go_wp2
          go_roundw
          case rel => first | exact ⟨k + 1, by omega, by go_num, _, rfl⟩ | exact ⟨_, _, ⟨k + 1, by omega, by go_num, _, rfl⟩, rfl, rfl⟩
          case measure => simp [intOf]; omega
        · clear hs hs'
          go_wp2
          go_ret
          exact ⟨rfl, drew_refl _ _⟩
    · rw [decide_eq_false h]
      obtain ⟨d, hd, hdn, hdj⟩ := first_diff 0 zs ys hy h
      have HD : Hid (∀ j, j < d → zs.getD j 0 = ys.getD j 0) := hdj
      clear hdj h
      rw [← hy]
      clear hy hyi
      go_enter Tryz.func141, Tryz.ntmps141
      go_wp2
      go_loopw [5] (fun i wr => ∃ k : Nat, k ≤ d ∧ i = .int .i64 k ∧ ∃ n, wr = w.drewN n) (fun i _ => d - (intOf i).toNat)
      case atStart => exact ⟨0, Nat.zero_le _, rfl, 0, rfl⟩
      case round =>
        obtain ⟨k, hk, rfl, n, rfl⟩ := hrel
        have hlt : k < zs.length := by omega
        obtain ⟨b, off, rfl, _, hc⟩ := cell_atI hs hlt
        obtain ⟨b', off', rfl, _, hc'⟩ := cell_atI hs' (show k < ys.length by have := HY.out; omega)
        have hi : (k : Int) < (zs.length : Int) := by omega
        by_cases hkd : k < d
        · rw [← HD.out k hkd] at hc'
          clear hs hs'
          go_wp2
          go_quiet (fail)
          go_wp2
          go_roundw
          case rel => first | exact ⟨k + 1, by omega, by go_num, _, rfl⟩ | exact ⟨_, _, ⟨k + 1, by omega, by go_num, _, rfl⟩, rfl, rfl⟩
          case measure => simp [intOf]; omega
        · obtain rfl : k = d := by omega
          clear hs hs'
          generalize zs.getD k 0 = x at *
          generalize ys.getD k 0 = y at *
          go_wp2
          go_quiet (fail)
          go_wp2
          go_ret
          exact ⟨rfl, bel_drewN (drew_refl _ _) _⟩
  · rw [decide_eq_false (fun h => hy (by rw [h]))]
    have hyi : ¬ (zs.length : Int) = (ys.length : Int) := by omega
    clear hs hs' hy
    go_enter Tryz.func141, Tryz.ntmps141
    go_wp2
    go_ret
    exact ⟨rfl, Below.refl _ _⟩
def nfB (bs : List Bool) (n : Nat) : Bool := decide (∀ k, k < bs.length → n ≤ k → bs.getD k false = false)
end Go.Proofs.YtpgcankjhkchjaaGreat
namespace Go.Proofs.YtpgcankjhkchjaaGreat
open Go.RowKit
set_option linter.unusedVariables false
abbrev dv (a1 a2 a3 a4 : Option Addr) (l1 l2 l3 l4 c1 c2 c3 c4 : Nat) : Value := .agg #[.slice a1 l1 c1, .slice a2 l2 c2, .slice a3 l3 c3, .slice a4 l4 c4]
def SlD (w : World) (a1 a2 a3 a4 : Option Addr) (cs is : List Bool) (hs rs : List Int) : Prop := SlB w a1 cs ∧ SlB w a2 is ∧ SlI w a3 hs ∧ SlI w a4 rs
def LnD (l1 l2 l3 l4 : Nat) (cs is : List Bool) (hs rs : List Int) : Prop := l1 = cs.length ∧ l2 = is.length ∧ l3 = hs.length ∧ l4 = rs.length
def SmD (m : Nat) (cs is : List Bool) (hs rs : List Int) : Prop := cs.length ≤ m ∧ is.length ≤ m ∧ hs.length ≤ m ∧ rs.length ≤ m
def Df (v u : Value) : Prop := v.ownBlock = none ∨ u.ownBlock = none ∨ v.ownBlock ≠ u.ownBlock
def OwnD (w : World) (B : Nat) (a1 a2 a3 a4 : Option Addr) (l1 l2 l3 l4 c1 c2 c3 c4 : Nat) (cs is : List Bool) (hs rs : List Int) : Prop :=
  OwnB w B (.slice a1 l1 c1) cs ∧ OwnB w B (.slice a2 l2 c2) is ∧ OwnI w B (.slice a3 l3 c3) hs ∧ OwnI w B (.slice a4 l4 c4) rs ∧ Df (.slice a1 l1 c1) (.slice a2 l2 c2) ∧ Df (.slice a3 l3 c3) (.slice a4 l4 c4)
end Go.Proofs.YtpgcankjhkchjaaGreat
namespace Go.Proofs.YtpgcankjhkchjaaGreat
open Go.RowKit
set_option linter.unusedVariables false
set_option linter.unusedSimpArgs false
set_option maxHeartbeats 2000000 in
theorem l5SameBits_any (a a' : Option Addr) (n n' cap cap' : Nat) (zs ys : List Bool) (w : World) (hn : n = zs.length) (hn' : n' = ys.length) (hs : SlB w a zs) (hs' : SlB w a' ys) (hl : zs.length ≤ 2000000) (hl' : ys.length ≤ 2000000) (b : Bool) (hb : decide (zs = ys) = b) :
    Calls Tryz.prog 142 #[.slice a n cap, .slice a' n' cap'] w fun e w' => e = .returned (.bool b) ∧ Below w.heap.size w w' := by
  subst hb hn hn'
  by_cases hy : zs.length = ys.length
  · have hyi : (zs.length : Int) = (ys.length : Int) := by omega
    have HY : Hid (zs.length = ys.length) := hy
    by_cases h : zs = ys
    · subst h
      rw [decide_eq_true rfl]
      clear hy hyi
      go_enter Tryz.func142, Tryz.ntmps142
      go_wp2
      go_loopw [5] (fun i wr => ∃ k : Nat, k ≤ zs.length ∧ i = .int .i64 k ∧ ∃ n, wr = w.drewN n) (fun i _ => zs.length - (intOf i).toNat)
      case atStart => exact ⟨0, Nat.zero_le _, rfl, 0, rfl⟩
      case round =>
        obtain ⟨k, hk, rfl, n, rfl⟩ := hrel
        by_cases hlt : k < zs.length
        · obtain ⟨b, off, rfl, _, hc⟩ := cell_atB hs hlt
          obtain ⟨b', off', rfl, _, hc'⟩ := cell_atB hs' hlt
          have hi : (k : Int) < (zs.length : Int) := by omega
          clear hs hs'
          go_wp2
          go_quiet (fail)
          go_wp2
          go_roundw
          case rel => first | exact ⟨k + 1, by omega, by go_num, _, rfl⟩ | exact ⟨_, _, ⟨k + 1, by omega, by go_num, _, rfl⟩, rfl, rfl⟩
          case measure => simp [intOf]; omega
        · clear hs hs'
          go_wp2
          go_ret
          exact ⟨rfl, drew_refl _ _⟩
    · rw [decide_eq_false h]
      obtain ⟨d, hd, hdn, hdj⟩ := first_diff false zs ys hy h
      have HD : Hid (∀ j, j < d → zs.getD j false = ys.getD j false) := hdj
      clear hdj h
      rw [← hy]
      clear hy hyi
      go_enter Tryz.func142, Tryz.ntmps142
      go_wp2
      go_loopw [5] (fun i wr => ∃ k : Nat, k ≤ d ∧ i = .int .i64 k ∧ ∃ n, wr = w.drewN n) (fun i _ => d - (intOf i).toNat)
      case atStart => exact ⟨0, Nat.zero_le _, rfl, 0, rfl⟩
      case round =>
        obtain ⟨k, hk, rfl, n, rfl⟩ := hrel
        have hlt : k < zs.length := by omega
        obtain ⟨b, off, rfl, _, hc⟩ := cell_atB hs hlt
        obtain ⟨b', off', rfl, _, hc'⟩ := cell_atB hs' (show k < ys.length by have := HY.out; omega)
        have hi : (k : Int) < (zs.length : Int) := by omega
        by_cases hkd : k < d
        · rw [← HD.out k hkd] at hc'
          clear hs hs'
          go_wp2
          go_quiet (fail)
          go_wp2
          go_roundw
          case rel => first | exact ⟨k + 1, by omega, by go_num, _, rfl⟩ | exact ⟨_, _, ⟨k + 1, by omega, by go_num, _, rfl⟩, rfl, rfl⟩
          case measure => simp [intOf]; omega
        · obtain rfl : k = d := by omega
          clear hs hs'
          generalize zs.getD k false = x at *
          generalize ys.getD k false = y at *
          obtain rfl : y = !x := by cases x <;> cases y <;> simp_all
          clear hdn
          cases x
          all_goals (
            go_wp2
            go_quiet (fail)
            go_wp2
            go_ret
            exact ⟨rfl, bel_drewN (drew_refl _ _) _⟩)
  · rw [decide_eq_false (fun h => hy (by rw [h]))]
    have hyi : ¬ (zs.length : Int) = (ys.length : Int) := by omega
    clear hs hs' hy
    go_enter Tryz.func142, Tryz.ntmps142
    go_wp2
    go_ret
    exact ⟨rfl, Below.refl _ _⟩
def okD (l1 l2 l3 l4 : Nat) (hs rs : List Int) : Bool := decide (l1 ≤ 64 ∧ l2 ≤ 64 ∧ l3 ≤ 64 ∧ l4 ≤ 64) && (allW hs && allW rs)
def sdB (cs is : List Bool) (hs rs : List Int) (cs2 is2 : List Bool) (hs2 rs2 : List Int) : Bool := decide (cs = cs2) && (decide (is = is2) && (decide (hs = hs2) && decide (rs = rs2)))
end Go.Proofs.YtpgcankjhkchjaaGreat
namespace Go.Proofs.YtpgcankjhkchjaaGreat
open Go.RowKit Go.Joins
set_option linter.unusedVariables false
set_option linter.unusedSimpArgs false
def Ob (vs : List Value) (k : Nat) : Prop := ∃ v ∈ vs, v.ownBlock = some k
def Out (w w' : World) (g : Nat) (P : Nat → Prop) : Prop := w.heap.size ≤ w'.heap.size ∧ ∀ k, k < w.heap.size → k ≠ g → ¬ P k → w'.heap[k]? = w.heap[k]?
end Go.Proofs.YtpgcankjhkchjaaGreat
namespace Go.Proofs.YtpgcankjhkchjaaGreat
open Go.RowKit Go.Joins
set_option linter.unusedVariables false
set_option linter.unusedSimpArgs false
structure La where
  bz : Bool
  c : Ca
  nu : Int
  du : Int
  le : Int
  nx : Int
  wt : Int
  tr : Int
abbrev lacL (L : La) (a : Option Addr) (n cp : Nat) (a1 a2 : Option Addr) (l1 l2 c1 c2 : Nat) : List Value := [.slice a n cp, .bool L.bz, .int .i64 L.c.id, .int .i64 L.c.pa, .int .i64 L.c.un, .int .i64 L.c.kd, .int .i64 L.c.pl, .int .i64 L.c.n, .slice a1 l1 c1, .slice a2 l2 c2, .int .i64 L.c.wa, .int .i64 L.nu, .int .i64 L.du, .int .i64 L.le, .int .i64 L.nx, .int .i64 L.wt, .int .i64 L.tr]
abbrev lac (L : La) (a : Option Addr) (n cp : Nat) (a1 a2 : Option Addr) (l1 l2 c1 c2 : Nat) : Array Value := #[.slice a n cp, .bool L.bz, .int .i64 L.c.id, .int .i64 L.c.pa, .int .i64 L.c.un, .int .i64 L.c.kd, .int .i64 L.c.pl, .int .i64 L.c.n, .slice a1 l1 c1, .slice a2 l2 c2, .int .i64 L.c.wa, .int .i64 L.nu, .int .i64 L.du, .int .i64 L.le, .int .i64 L.nx, .int .i64 L.wt, .int .i64 L.tr]
abbrev lzc : Array Value := #[.slice none 0 0, .bool false, .int .i64 0, .int .i64 0, .int .i64 0, .int .i64 0, .int .i64 0, .int .i64 0, .slice none 0 0, .slice none 0 0, .int .i64 0, .int .i64 0, .int .i64 0, .int .i64 0, .int .i64 0, .int .i64 0, .int .i64 0]
def LnR (w : World) (n : Nat) (f : Nat → Ca) (L : La) (a a1 a2 : Option Addr) (l1 l2 : Nat) : Prop := l1 = L.c.ws.length ∧ l2 = L.c.bs.length ∧ SlC w a n f ∧ SlI w a1 L.c.ws ∧ SlB w a2 L.c.bs
def LnP (w : World) (base n : Nat) (f : Nat → Ca) (L : La) (a : Option Addr) (cp : Nat) (a1 a2 : Option Addr) (l1 l2 c1 c2 : Nat) : Prop :=
  l1 = L.c.ws.length ∧ l2 = L.c.bs.length ∧ ∃ (F : Nat → List Value) (β : Nat → Nat), OwnO w base 85 9 (.slice a n cp) n F ∧ InE w base β F (fun k => caE (f k)) n ∧ OwnI w base (.slice a1 l1 c1) L.c.ws ∧ OwnB w base (.slice a2 l2 c2) L.c.bs ∧
    (∀ k, (Value.slice a1 l1 c1).ownBlock = some k → ∀ j, j < n → ¬ Ob (F j) k) ∧ (∀ k, (Value.slice a2 l2 c2).ownBlock = some k → ∀ j, j < n → ¬ Ob (F j) k)
section
variable {w w' : World} {base n cp l1 l2 c1 c2 : Nat} {f : Nat → Ca} {L : La} {a a1 a2 : Option Addr}
end
def lfL (n : Nat) (f : Nat → Ca) (l1 l2 : Nat) : Int := if n + tl f n + l1 + l2 ≤ 1048576 then (((1048576 - (n + tl f n + l1 + l2) : Nat)) : Int) else -1
end Go.Proofs.YtpgcankjhkchjaaGreat

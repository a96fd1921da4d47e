/- Texts that the proof needs, joined: ArgW El1 Ln1 Q1 Q2 Q3. -/
import Derived.Test.YtplaoagcedgdfaaGreatW2
import Derived.Test.YtplaoagcedgdfaaGreatW6
import Derived.Test.YtplaoagcedgdfaaGreatW1
set_option linter.unusedSectionVars false
set_option linter.unusedVariables false
set_option linter.unusedSimpArgs false
set_option maxHeartbeats 4000000
set_option maxRecDepth 20000
namespace Go.Proofs.YtplaoagcedgdfaaGreat
open Go.ChangeShapes Go.WideShapes Go.ChangeAt Go.RowKit Go.Deep Go.Joins Go.Proofs.Tryz
def xrSh : List Sh := [.int, .int, .int, .int, .int, .int, .int]
theorem Ru.of {w : World} {vs : List Value} (h : OfShL w xrSh vs) : ∃ X : Ru, RdL w 0 (trs (xrT X)) vs := by
 obtain ⟨hl, h⟩ := h
 match vs, hl with
 | [v0, v1, v2, v3, v4, v5, v6], _ =>
  obtain ⟨z0, rfl⟩ := h 0 v0 rfl
  obtain ⟨z1, rfl⟩ := h 1 v1 rfl
  obtain ⟨z2, rfl⟩ := h 2 v2 rfl
  obtain ⟨z3, rfl⟩ := h 3 v3 rfl
  obtain ⟨z4, rfl⟩ := h 4 v4 rfl
  obtain ⟨z5, rfl⟩ := h 5 v5 rfl
  obtain ⟨z6, rfl⟩ := h 6 v6 rfl
  exact ⟨⟨z0, z1, z2, z3, z4, z5, z6⟩, Ru.back (X := ⟨z0, z1, z2, z3, z4, z5, z6⟩) ⟩
def xcSh : List Sh := [.int, .int, .lst 7 (fun j => xrSh.getD j .int)]
def xlSh : List Sh := [.int, .int, .int, .int, .int, .int, .lst 1 (fun j => [Sh.int].getD j .int), .lst 1 (fun j => [Sh.bool].getD j .int), .int]
theorem VL.of {w : World} {vs : List Value} (h : OfShL w xlSh vs) : ∃ X : VL, RdL w 0 (trs (xlT X)) vs := by
 obtain ⟨hl, h⟩ := h
 match vs, hl with
 | [v0, v1, v2, v3, v4, v5, v6, v7, v8], _ =>
  obtain ⟨z0, rfl⟩ := h 0 v0 rfl
  obtain ⟨z1, rfl⟩ := h 1 v1 rfl
  obtain ⟨z2, rfl⟩ := h 2 v2 rfl
  obtain ⟨z3, rfl⟩ := h 3 v3 rfl
  obtain ⟨z4, rfl⟩ := h 4 v4 rfl
  obtain ⟨z5, rfl⟩ := h 5 v5 rfl
  obtain ⟨z6, r6⟩ := OfSh.ints (h 6 v6 rfl) rfl
  obtain ⟨a6, c6, e6, _⟩ := r6.shape
  subst e6
  obtain ⟨z7, r7⟩ := OfSh.bools (h 7 v7 rfl) rfl
  obtain ⟨a7, c7, e7, _⟩ := r7.shape
  subst e7
  obtain ⟨z8, rfl⟩ := h 8 v8 rfl
  exact ⟨⟨z0, z1, z2, ⟨z3, z4, z5, z6, z7, z8⟩⟩, VL.back (X := ⟨z0, z1, z2, ⟨z3, z4, z5, z6, z7, z8⟩⟩) r6 r7⟩
def xnSh : List Sh := [.lst 9 (fun j => xlSh.getD j .int), .bool, .int, .int, .int, .int, .int, .int, .lst 1 (fun j => [Sh.int].getD j .int), .lst 1 (fun j => [Sh.bool].getD j .int), .int, .int, .int, .int, .int, .int, .int]
theorem VN.of {w : World} {vs : List Value} (h : OfShL w xnSh vs) : ∃ X : VN, RdL w 0 (trs (xnT X)) vs := by
 obtain ⟨hl, h⟩ := h
 match vs, hl with
 | [v0, v1, v2, v3, v4, v5, v6, v7, v8, v9, v10, v11, v12, v13, v14, v15, v16], _ =>
  obtain ⟨n0, z0, r0⟩ := OfSh.list (T := xlT) (h 0 v0 rfl) (fun vs h1 h2 => VL.of ⟨h1, h2⟩)
  obtain ⟨a0, c0, e0, _⟩ := r0.shape
  subst e0
  obtain ⟨z1, rfl⟩ := h 1 v1 rfl
  obtain ⟨z2, rfl⟩ := h 2 v2 rfl
  obtain ⟨z3, rfl⟩ := h 3 v3 rfl
  obtain ⟨z4, rfl⟩ := h 4 v4 rfl
  obtain ⟨z5, rfl⟩ := h 5 v5 rfl
  obtain ⟨z6, rfl⟩ := h 6 v6 rfl
  obtain ⟨z7, rfl⟩ := h 7 v7 rfl
  obtain ⟨z8, r8⟩ := OfSh.ints (h 8 v8 rfl) rfl
  obtain ⟨a8, c8, e8, _⟩ := r8.shape
  subst e8
  obtain ⟨z9, r9⟩ := OfSh.bools (h 9 v9 rfl) rfl
  obtain ⟨a9, c9, e9, _⟩ := r9.shape
  subst e9
  obtain ⟨z10, rfl⟩ := h 10 v10 rfl
  obtain ⟨z11, rfl⟩ := h 11 v11 rfl
  obtain ⟨z12, rfl⟩ := h 12 v12 rfl
  obtain ⟨z13, rfl⟩ := h 13 v13 rfl
  obtain ⟨z14, rfl⟩ := h 14 v14 rfl
  obtain ⟨z15, rfl⟩ := h 15 v15 rfl
  obtain ⟨z16, rfl⟩ := h 16 v16 rfl
  exact ⟨⟨n0, z0, z1, ⟨z2, z3, z4, ⟨z5, z6, z7, z8, z9, z10⟩⟩, z11, z12, z13, z14, z15, z16⟩, VN.back (X := ⟨n0, z0, z1, ⟨z2, z3, z4, ⟨z5, z6, z7, z8, z9, z10⟩⟩, z11, z12, z13, z14, z15, z16⟩) r0 r8 r9⟩
def xfSh : List Sh := [.int, .int, .int, .lst 7 (fun j => xrSh.getD j .int), .int, .lst 13 (fun j => dSh.getD j .int), .lst 17 (fun j => xnSh.getD j .int), .int, .int, .int, .int]
theorem VF.of {w : World} {vs : List Value} (h : OfShL w xfSh vs) : ∃ X : VF, RdL w 0 (trs (xfT X)) vs := by
 obtain ⟨hl, h⟩ := h
 match vs, hl with
 | [v0, v1, v2, v3, v4, v5, v6, v7, v8, v9, v10], _ =>
  obtain ⟨z0, rfl⟩ := h 0 v0 rfl
  obtain ⟨z1, rfl⟩ := h 1 v1 rfl
  obtain ⟨z2, rfl⟩ := h 2 v2 rfl
  obtain ⟨n3, z3, r3⟩ := OfSh.list (T := xrT) (h 3 v3 rfl) (fun vs h1 h2 => Ru.of ⟨h1, h2⟩)
  obtain ⟨a3, c3, e3, _⟩ := r3.shape
  subst e3
  obtain ⟨z4, rfl⟩ := h 4 v4 rfl
  obtain ⟨n5, z5, r5⟩ := OfSh.list (T := dT) (h 5 v5 rfl) (fun vs h1 h2 => VD.of ⟨h1, h2⟩)
  obtain ⟨a5, c5, e5, _⟩ := r5.shape
  subst e5
  obtain ⟨n6, z6, r6⟩ := OfSh.list (T := xnT) (h 6 v6 rfl) (fun vs h1 h2 => VN.of ⟨h1, h2⟩)
  obtain ⟨a6, c6, e6, _⟩ := r6.shape
  subst e6
  obtain ⟨z7, rfl⟩ := h 7 v7 rfl
  obtain ⟨z8, rfl⟩ := h 8 v8 rfl
  obtain ⟨z9, rfl⟩ := h 9 v9 rfl
  obtain ⟨z10, rfl⟩ := h 10 v10 rfl
  exact ⟨⟨z0, ⟨z1, z2, n3, z3⟩, ⟨z4, n5, z5⟩, n6, z6, z7, z8, z9, z10⟩, VF.back (X := ⟨z0, ⟨z1, z2, n3, z3⟩, ⟨z4, n5, z5⟩, n6, z6, z7, z8, z9, z10⟩) r3 r5 r6⟩
def xdSh : List Sh := [.lst 1 (fun j => [Sh.bool].getD j .int), .lst 1 (fun j => [Sh.bool].getD j .int), .lst 1 (fun j => [Sh.int].getD j .int), .lst 1 (fun j => [Sh.int].getD j .int)]
def xsSh : List Sh := [.int, .int, .lst 1 (fun j => [Sh.bool].getD j .int), .lst 1 (fun j => [Sh.bool].getD j .int), .lst 1 (fun j => [Sh.int].getD j .int), .lst 1 (fun j => [Sh.int].getD j .int)]
def xkSh : List Sh := [.bool, .int, .int, .int, .int, .int, .int, .lst 1 (fun j => [Sh.int].getD j .int), .lst 1 (fun j => [Sh.bool].getD j .int), .int, .int, .int, .int, .int, .lst 1 (fun j => [Sh.int].getD j .int), .lst 1 (fun j => [Sh.bool].getD j .int)]
def xySh : List Sh := [.int, .int, .int, .int, .int, .lst 1 (fun j => [Sh.int].getD j .int), .lst 1 (fun j => [Sh.bool].getD j .int), .int, .lst 8 (fun j => pSh.getD j .int), .lst 6 (fun j => aSh.getD j .int), .int, .int, .int, .int, .lst 1 (fun j => [Sh.int].getD j .int), .lst 1 (fun j => [Sh.bool].getD j .int)]
def xeSh : List Sh := [.int, .int, .int, .int, .int, .int, .lst 1 (fun j => [Sh.int].getD j .int), .lst 1 (fun j => [Sh.bool].getD j .int), .int, .int, .int, .int, .int, .lst 1 (fun j => [Sh.int].getD j .int), .lst 1 (fun j => [Sh.bool].getD j .int)]
def xwSh : List Sh := [.int, .int, .int, .lst 7 (fun j => xrSh.getD j .int), .int, .lst 13 (fun j => dSh.getD j .int), .lst 17 (fun j => xnSh.getD j .int), .int, .int, .int, .int, .lst 6 (fun j => xsSh.getD j .int), .lst 16 (fun j => xkSh.getD j .int), .lst 16 (fun j => xySh.getD j .int), .lst 15 (fun j => xeSh.getD j .int)]
theorem opened_xfv {H : Type} {enc : TypeId × Value -> H} {P : Program} {w : World} {base : Nat} {held : Bool} {r : Reach} {b0 : Nat} {t : TypeId} {fs : Array Field} {v : Value} {d : DataW H} {p : List MemPlace} {N : Nat} (hs : P.underlying t = some (.struct fs)) (hsh : shT P N t = some xfSh)
 (hv : Value.okWide P w r b0 t v) (h : DataW.Trod enc P w base (fun _ => true) held t v d p) :
 ∃ (X : VF) (a1 : Option Addr) (l1 c1 : Nat) (a2 : Option Addr) (l2 c2 : Nat) (a3 : Option Addr) (l3 c3 : Nat), v = .agg (xfL X a1 l1 c1 a2 l2 c2 a3 l3 c3).toArray /\ Rd w 0 (.list 7 X.set.n (fun i => trs (xrT (X.set.f i)))) (.slice a1 l1 c1) /\ Rd w 0 (.list 13 X.op.m (fun i => trs (dT (X.op.f i)))) (.slice a2 l2 c2) /\ Rd w 0 (.list 17 X.nl (fun i => trs (xnT (X.lf i)))) (.slice a3 l3 c3) := by
 obtain ⟨cs, rfl, hsz⟩ := okWide_struct hs hv
 obtain ⟨fuel, hf⟩ := h
 obtain ⟨l⟩ := cs
 obtain ⟨X, hX⟩ := VF.of (opened_sh N t _ hsh fuel l _ (by simpa [Value.cells] using hf))
 have hl := (opened_sh N t _ hsh fuel l _ (by simpa [Value.cells] using hf)).1
 obtain ⟨a1, c1, a2, c2, a3, c3, rfl, r1, r2, r3⟩ := VF.cells hX hl
 exact ⟨X, a1, _, c1, a2, _, c2, a3, _, c3, rfl, r1, r2, r3⟩
end Go.Proofs.YtplaoagcedgdfaaGreat
namespace Go.Proofs.YtplaoagcedgdfaaGreat
open Go.RowKit Go.Joins Go.Proofs.Tryz
def Ob (vs : List Value) (k : Nat) : Prop := ∃ v ∈ vs, v.ownBlock = some k
def Out (w w' : World) (g : Nat) (P : Nat -> Prop) : Prop := w.heap.size <= w'.heap.size /\ ∀ k, k < w.heap.size -> k ≠ g -> ¬ P k -> w'.heap[k]? = w.heap[k]?
structure La where
 bz : Bool
 c : Ca
 nu : Int
 du : Int
 le : Int
 nx : Int
 wt : Int
 tr : Int
abbrev lacL (L : La) (a : Option Addr) (n cp : Nat) (a1 a2 : Option Addr) (l1 l2 c1 c2 : Nat) : List Value := [.slice a n cp, .bool L.bz, .int .i64 L.c.id, .int .i64 L.c.pa, .int .i64 L.c.un, .int .i64 L.c.kd, .int .i64 L.c.pl, .int .i64 L.c.n, .slice a1 l1 c1, .slice a2 l2 c2, .int .i64 L.c.wa, .int .i64 L.nu, .int .i64 L.du, .int .i64 L.le, .int .i64 L.nx, .int .i64 L.wt, .int .i64 L.tr]
abbrev lac (L : La) (a : Option Addr) (n cp : Nat) (a1 a2 : Option Addr) (l1 l2 c1 c2 : Nat) : Array Value := #[.slice a n cp, .bool L.bz, .int .i64 L.c.id, .int .i64 L.c.pa, .int .i64 L.c.un, .int .i64 L.c.kd, .int .i64 L.c.pl, .int .i64 L.c.n, .slice a1 l1 c1, .slice a2 l2 c2, .int .i64 L.c.wa, .int .i64 L.nu, .int .i64 L.du, .int .i64 L.le, .int .i64 L.nx, .int .i64 L.wt, .int .i64 L.tr]
abbrev lzc : Array Value := #[.slice none 0 0, .bool false, .int .i64 0, .int .i64 0, .int .i64 0, .int .i64 0, .int .i64 0, .int .i64 0, .slice none 0 0, .slice none 0 0, .int .i64 0, .int .i64 0, .int .i64 0, .int .i64 0, .int .i64 0, .int .i64 0, .int .i64 0]
theorem Blk.svn {w : World} {g : Nat} {t : TypeId} {v0 v1 v2 v3 v4 v5 v6 v7 v8 v9 v10 v11 v12 v13 v14 v15 v16 : Value} (h : Blk w g t #[v0, v1, v2, v3, v4, v5, v6, v7, v8, v9, v10, v11, v12, v13, v14, v15, v16]) : (w.cell? ⟨g, 0, none⟩ = some v0 /\ w.cell? ⟨g, 1, none⟩ = some v1 /\ w.cell? ⟨g, 2, none⟩ = some v2 /\ w.cell? ⟨g, 3, none⟩ = some v3 /\ w.cell? ⟨g, 4, none⟩ = some v4 /\ w.cell? ⟨g, 5, none⟩ = some v5 /\ w.cell? ⟨g, 6, none⟩ = some v6 /\ w.cell? ⟨g, 7, none⟩ = some v7 /\ w.cell? ⟨g, 8, none⟩ = some v8 /\ w.cell? ⟨g, 9, none⟩ = some v9 /\ w.cell? ⟨g, 10, none⟩ = some v10 /\ w.cell? ⟨g, 11, none⟩ = some v11 /\ w.cell? ⟨g, 12, none⟩ = some v12 /\ w.cell? ⟨g, 13, none⟩ = some v13 /\ w.cell? ⟨g, 14, none⟩ = some v14 /\ w.cell? ⟨g, 15, none⟩ = some v15 /\ w.cell? ⟨g, 16, none⟩ = some v16) /\ ∀ j, w.frozen? ⟨g, j, none⟩ = false :=
 ⟨⟨h.cell 0 rfl, h.cell 1 rfl, h.cell 2 rfl, h.cell 3 rfl, h.cell 4 rfl, h.cell 5 rfl, h.cell 6 rfl, h.cell 7 rfl, h.cell 8 rfl, h.cell 9 rfl, h.cell 10 rfl, h.cell 11 rfl, h.cell 12 rfl, h.cell 13 rfl, h.cell 14 rfl, h.cell 15 rfl, h.cell 16 rfl⟩, h.fro⟩
def LnR (w : World) (n : Nat) (f : Nat -> Ca) (L : La) (a a1 a2 : Option Addr) (l1 l2 : Nat) : Prop := l1 = L.c.ws.length /\ l2 = L.c.bs.length /\ SlC w a n f /\ SlI w a1 L.c.ws /\ SlB w a2 L.c.bs
def LnP (w : World) (base n : Nat) (f : Nat -> Ca) (L : La) (a : Option Addr) (cp : Nat) (a1 a2 : Option Addr) (l1 l2 c1 c2 : Nat) : Prop :=
 l1 = L.c.ws.length /\ l2 = L.c.bs.length /\ ∃ (F : Nat -> List Value) (β : Nat -> Nat), OwnO w base 86 9 (.slice a n cp) n F /\ InE w base β F (fun k => caE (f k)) n /\ OwnI w base (.slice a1 l1 c1) L.c.ws /\ OwnB w base (.slice a2 l2 c2) L.c.bs /\
  (∀ k, (Value.slice a1 l1 c1).ownBlock = some k -> ∀ j, j < n -> ¬ Ob (F j) k) /\ (∀ k, (Value.slice a2 l2 c2).ownBlock = some k -> ∀ j, j < n -> ¬ Ob (F j) k)
section
variable {w w' : World} {base n cp l1 l2 c1 c2 : Nat} {f : Nat -> Ca} {L : La} {a a1 a2 : Option Addr}
theorem LnR.below (h : LnR w n f L a a1 a2 l1 l2) (hb : Below w.heap.size w w') : LnR w' n f L a a1 a2 l1 l2 := ⟨h.1, h.2.1, h.2.2.1.below hb, h.2.2.2.1.below hb, h.2.2.2.2.below hb⟩
end
def lfL (n : Nat) (f : Nat -> Ca) (l1 l2 : Nat) : Int := if n + tl f n + l1 + l2 <= 1048576 then (((1048576 - (n + tl f n + l1 + l2) : Nat)) : Int) else -1
end Go.Proofs.YtplaoagcedgdfaaGreat
namespace Go.Proofs.YtplaoagcedgdfaaGreat
open Go.RowKit Go.Proofs.Tryz
def inB (x lo hi : Int) : Bool := decide (lo <= x /\ x <= hi)
def allW (ws : List Int) : Bool := decide (∀ k, k < ws.length -> 0 <= ws.getD k 0 /\ ws.getD k 0 <= 65535)
def fitB (p n : Int) : Bool := decide (0 <= p /\ p <= 65535 /\ p + n <= 65536)
def rnB (p n most : Int) : Bool := decide (1 <= n /\ n <= most /\ 0 <= p /\ p + n <= 65536)
def zrB (n w b a : Bool) (nn : Int) (l1 l2 : Nat) (wa : Int) : Bool := (n || decide (nn = 0)) && ((w || decide (l1 = 0)) && ((b || decide (l2 = 0)) && (a || decide (wa = 0))))
theorem l1In_any (x lo hi : Int) (w : World) (b : Bool) (hb : inB x lo hi = b) : Calls prog 36 #[.int .i64 x, .int .i64 lo, .int .i64 hi] w fun e w' => e = .returned (.bool b) /\ w' = w := by
 subst hb
 unfold inB
 by_cases h1 : lo <= x
 ·by_cases h2 : x <= hi
  ·rw [decide_eq_true (show lo <= x /\ x <= hi from ⟨h1, h2⟩)]
   go_enter func36, ntmps36
   go_wp2
   go_ret
   exact ⟨rfl, rfl⟩
  rw [decide_eq_false (show ¬ (lo <= x /\ x <= hi) from fun h => h2 h.2)]
  go_enter func36, ntmps36
  go_wp2
  go_ret
  exact ⟨rfl, rfl⟩
 rw [decide_eq_false (show ¬ (lo <= x /\ x <= hi) from fun h => h1 h.1)]
 go_enter func36, ntmps36
 go_wp2
 go_ret
 exact ⟨rfl, rfl⟩
theorem isWord_any (x : Int) (w : World) (b : Bool) (hb : inB x 0 65535 = b) : Calls prog 161 #[.int .i64 x] w fun e w' => e = .returned (.bool b) /\ w' = w := by
 subst hb
 unfold inB
 by_cases h1 : 0 <= x
 ·by_cases h2 : x <= 65535
  ·rw [decide_eq_true (show 0 <= x /\ x <= 65535 from ⟨h1, h2⟩)]
   go_enter func161, ntmps161
   go_wp2
   go_ret
   exact ⟨rfl, rfl⟩
  rw [decide_eq_false (show ¬ (0 <= x /\ x <= 65535) from fun h => h2 h.2)]
  go_enter func161, ntmps161
  go_wp2
  go_ret
  exact ⟨rfl, rfl⟩
 rw [decide_eq_false (show ¬ (0 <= x /\ x <= 65535) from fun h => h1 h.1)]
 go_enter func161, ntmps161
 go_wp2
 go_ret
 exact ⟨rfl, rfl⟩
theorem l3Fits_any (x n : Int) (w : World) (hn0 : 0 <= n) (hn1 : n <= 9000000000000000000) (b : Bool) (hb : fitB x n = b) : Calls prog 179 #[.int .i64 x, .int .i64 n] w fun e w' => e = .returned (.bool b) /\ w' = w := by
 subst hb
 unfold fitB
 by_cases h1 : 0 <= x
 ·by_cases h2 : x <= 65535
  ·by_cases h3 : x + n <= 65536
   ·rw [decide_eq_true (show 0 <= x /\ x <= 65535 /\ x + n <= 65536 from ⟨h1, h2, h3⟩)]
    go_enter func179, ntmps179
    go_wp2_with (go_at_call 36; go_in)
    go_ret
    exact ⟨rfl, rfl⟩
   rw [decide_eq_false (show ¬ (0 <= x /\ x <= 65535 /\ x + n <= 65536) from fun h => h3 h.2.2)]
   go_enter func179, ntmps179
   go_wp2_with (go_at_call 36; go_in)
   go_ret
   exact ⟨rfl, rfl⟩
  rw [decide_eq_false (show ¬ (0 <= x /\ x <= 65535 /\ x + n <= 65536) from fun h => h2 h.2.1)]
  go_enter func179, ntmps179
  go_wp2_with (go_at_call 36; go_in)
  go_ret
  exact ⟨rfl, rfl⟩
 rw [decide_eq_false (show ¬ (0 <= x /\ x <= 65535 /\ x + n <= 65536) from fun h => h1 h.1)]
 go_enter func179, ntmps179
 go_wp2_with (go_at_call 36; go_in)
 go_ret
 exact ⟨rfl, rfl⟩
theorem isRun_any (x n most : Int) (w : World) (hm : most <= 2000) (b : Bool) (hb : rnB x n most = b) : Calls prog 256 #[.int .i64 x, .int .i64 n, .int .i64 most] w fun e w' => e = .returned (.bool b) /\ w' = w := by
 subst hb
 unfold rnB
 by_cases h1 : 1 <= n
 ·by_cases h2 : n <= most
  ·by_cases h3 : 0 <= x
   ·by_cases h4 : x <= 65536 - n
    ·rw [decide_eq_true (show 1 <= n /\ n <= most /\ 0 <= x /\ x + n <= 65536 from ⟨h1, h2, h3, by omega⟩)]
     go_enter func256, ntmps256
     go_wp2
     go_ret
     exact ⟨rfl, rfl⟩
    rw [decide_eq_false (show ¬ (1 <= n /\ n <= most /\ 0 <= x /\ x + n <= 65536) from fun h => h4 (by omega))]
    go_enter func256, ntmps256
    go_wp2
    go_ret
    exact ⟨rfl, rfl⟩
   rw [decide_eq_false (show ¬ (1 <= n /\ n <= most /\ 0 <= x /\ x + n <= 65536) from fun h => h3 h.2.2.1)]
   go_enter func256, ntmps256
   go_wp2
   go_ret
   exact ⟨rfl, rfl⟩
  rw [decide_eq_false (show ¬ (1 <= n /\ n <= most /\ 0 <= x /\ x + n <= 65536) from fun h => h2 h.2.1)]
  go_enter func256, ntmps256
  go_wp2
  go_ret
  exact ⟨rfl, rfl⟩
 rw [decide_eq_false (show ¬ (1 <= n /\ n <= most /\ 0 <= x /\ x + n <= 65536) from fun h => h1 h.1)]
 go_enter func256, ntmps256
 go_wp2
 go_ret
 exact ⟨rfl, rfl⟩
theorem allW_bad {zs : List Int} {k : Nat} (h : k < zs.length) (hb : ¬ (0 <= zs.getD k 0 /\ zs.getD k 0 <= 65535)) : allW zs = false := by
 unfold allW; exact decide_eq_false (fun hh => hb (hh k h))
theorem allW_good {zs : List Int} (hb : ∀ k, k < zs.length -> 0 <= zs.getD k 0 /\ zs.getD k 0 <= 65535) : allW zs = true := by
 unfold allW; exact decide_eq_true hb
theorem l3Words_any (a : Option Addr) (n cap : Nat) (zs : List Int) (w : World) (hn : n = zs.length) (hs : SlI w a zs) (hl : zs.length <= 2000000) (b : Bool) (hb : allW zs = b) :
 Calls prog 175 #[.slice a n cap] w fun e w' => e = .returned (.bool b) /\ w' = w := by
 subst hn
 go_enter func175, ntmps175
 go_wp2
 go_loop [3] (fun i => ∃ k : Nat, k <= zs.length /\ i = .int .i64 k /\ ∀ j, j < k -> 0 <= zs.getD j 0 /\ zs.getD j 0 <= 65535) (fun i => zs.length - (intOf i).toNat)
 case atStart => exact ⟨0, Nat.zero_le _, rfl, fun j hj => absurd hj (Nat.not_lt_zero _)⟩
 case round =>
  obtain ⟨k, hk, rfl, hg⟩ := hrel
  have HG : Hid (∀ j, j < k -> 0 <= zs.getD j 0 /\ zs.getD j 0 <= 65535) := hg
  clear hg
  by_cases hlt : k < zs.length
  ·obtain ⟨bb, off, rfl, _, hc⟩ := cell_atI hs hlt
   have hi : (k : Int) < (zs.length : Int) := by omega
   obtain ⟨x, hx⟩ : ∃ x, x = zs.getD k 0 := ⟨_, rfl⟩
   have HX : Hid (x = zs.getD k 0) := hx
   rw [<- hx] at hc
   clear hs hx
   by_cases h1 : 0 <= x
   ·by_cases h2 : x <= 65535
    ·go_wp2_with (go_at_call 36; go_in)
     go_round
     case rel =>
      first
       | exact ⟨k + 1, by omega, by go_num, fun j hj => by
        by_cases e : j = k
        ·subst e; rw [<- HX.out]; exact ⟨h1, h2⟩
        exact HG.out j (by omega)⟩
       | exact ⟨_, _, ⟨k + 1, by omega, by go_num, fun j hj => by
        by_cases e : j = k
        ·subst e; rw [<- HX.out]; exact ⟨h1, h2⟩
        exact HG.out j (by omega)⟩, rfl, rfl⟩
     case measure => simp [intOf]; omega
    have hf := allW_bad hlt (by rw [<- HX.out]; exact fun h => h2 h.2)
    rw [hf] at hb
    subst hb
    go_wp2_with (go_at_call 36; go_in)
    go_ret
    exact ⟨rfl, rfl⟩
   have hf := allW_bad hlt (by rw [<- HX.out]; exact fun h => h1 h.1)
   rw [hf] at hb
   subst hb
   go_wp2_with (go_at_call 36; go_in)
   go_ret
   exact ⟨rfl, rfl⟩
  have hf := allW_good (zs := zs) (fun j hj => HG.out j (by omega))
  rw [hf] at hb
  subst hb
  clear hs
  go_wp2
  go_ret
  exact ⟨rfl, rfl⟩
theorem areWords_any (a : Option Addr) (n cap : Nat) (zs : List Int) (w : World) (hn : n = zs.length) (hs : SlI w a zs) (hl : zs.length <= 2000000) (b : Bool) (hb : allW zs = b) :
 Calls prog 225 #[.slice a n cap] w fun e w' => e = .returned (.bool b) /\ w' = w := by
 subst hn
 go_enter func225, ntmps225
 go_wp2
 go_loop [7] (fun i => ∃ k : Nat, k <= zs.length /\ i = .int .i64 k /\ ∀ j, j < k -> 0 <= zs.getD j 0 /\ zs.getD j 0 <= 65535) (fun i => zs.length - (intOf i).toNat)
 case atStart => exact ⟨0, Nat.zero_le _, rfl, fun j hj => absurd hj (Nat.not_lt_zero _)⟩
 case round =>
  obtain ⟨k, hk, rfl, hg⟩ := hrel
  have HG : Hid (∀ j, j < k -> 0 <= zs.getD j 0 /\ zs.getD j 0 <= 65535) := hg
  clear hg
  by_cases hlt : k < zs.length
  ·obtain ⟨bb, off, rfl, _, hc⟩ := cell_atI hs hlt
   have hi : (k : Int) < (zs.length : Int) := by omega
   obtain ⟨x, hx⟩ : ∃ x, x = zs.getD k 0 := ⟨_, rfl⟩
   have HX : Hid (x = zs.getD k 0) := hx
   rw [<- hx] at hc
   clear hs hx
   by_cases h1 : 0 <= x
   ·by_cases h2 : x <= 65535
    ·go_wp2_with (go_at_call 161; go_in)
     go_round
     case rel =>
      first
       | exact ⟨k + 1, by omega, by go_num, fun j hj => by
        by_cases e : j = k
        ·subst e; rw [<- HX.out]; exact ⟨h1, h2⟩
        exact HG.out j (by omega)⟩
       | exact ⟨_, _, ⟨k + 1, by omega, by go_num, fun j hj => by
        by_cases e : j = k
        ·subst e; rw [<- HX.out]; exact ⟨h1, h2⟩
        exact HG.out j (by omega)⟩, rfl, rfl⟩
     case measure => simp [intOf]; omega
    have hf := allW_bad hlt (by rw [<- HX.out]; exact fun h => h2 h.2)
    rw [hf] at hb
    subst hb
    go_wp2_with (go_at_call 161; go_in)
    go_ret
    exact ⟨rfl, rfl⟩
   have hf := allW_bad hlt (by rw [<- HX.out]; exact fun h => h1 h.1)
   rw [hf] at hb
   subst hb
   go_wp2_with (go_at_call 161; go_in)
   go_ret
   exact ⟨rfl, rfl⟩
  have hf := allW_good (zs := zs) (fun j hj => HG.out j (by omega))
  rw [hf] at hb
  subst hb
  clear hs
  go_wp2
  go_ret
  exact ⟨rfl, rfl⟩
theorem l3Zero_tfff (kd pl nn wa : Int) (a1 a2 : Option Addr) (l1 l2 c1 c2 : Nat) (w : World) (hm1 : l1 <= 2000000) (hm2 : l2 <= 20000000) (z : Bool) (hz : zrB true false false false nn l1 l2 wa = z) :
 Calls prog 178 #[rq kd pl nn wa a1 a2 l1 l2 c1 c2, .bool true, .bool false, .bool false, .bool false] w fun e w' => e = .returned (.bool z) /\ Below w.heap.size w w' := by
 have B0 := bel_alloc w (.cells #[.int .i64 kd, .int .i64 pl, .int .i64 nn, .slice a1 l1 c1, .slice a2 l2 c2, .int .i64 wa] 84)
 subst hz
 by_cases h1 : l1 = 0
 ·skip
  by_cases h2 : l2 = 0
  ·skip
   by_cases ha : wa = 0
   ·skip
    have e : zrB true false false false nn l1 l2 wa = true := by simp [zrB, h1, h2, ha]
    rw [e]
    clear e
    subst h1
    subst h2
    subst ha
    go_enter func178, ntmps178
    go_wp2
    go_ret
    exact ⟨rfl, B0⟩
   have e : zrB true false false false nn l1 l2 wa = false := by simp [zrB, h1, h2, ha]
   rw [e]
   clear e
   subst h1
   subst h2
   have e2 : (wa == 0) = false := by simp [ha]
   go_enter func178, ntmps178
   go_wp2
   go_ret
   exact ⟨rfl, B0⟩
  have e : zrB true false false false nn l1 l2 wa = false := by simp [zrB, h1, h2]
  rw [e]
  have h2i : ¬ (l2 : Int) = 0 := by omega
  clear e
  subst h1
  go_enter func178, ntmps178
  go_wp2
  go_ret
  exact ⟨rfl, B0⟩
 have e : zrB true false false false nn l1 l2 wa = false := by simp [zrB, h1]
 rw [e]
 have h1i : ¬ (l1 : Int) = 0 := by omega
 clear e
 go_enter func178, ntmps178
 go_wp2
 go_ret
 exact ⟨rfl, B0⟩
theorem l3Zero_fftf (kd pl nn wa : Int) (a1 a2 : Option Addr) (l1 l2 c1 c2 : Nat) (w : World) (hm1 : l1 <= 2000000) (hm2 : l2 <= 20000000) (z : Bool) (hz : zrB false false true false nn l1 l2 wa = z) :
 Calls prog 178 #[rq kd pl nn wa a1 a2 l1 l2 c1 c2, .bool false, .bool false, .bool true, .bool false] w fun e w' => e = .returned (.bool z) /\ Below w.heap.size w w' := by
 have B0 := bel_alloc w (.cells #[.int .i64 kd, .int .i64 pl, .int .i64 nn, .slice a1 l1 c1, .slice a2 l2 c2, .int .i64 wa] 84)
 subst hz
 by_cases hn : nn = 0
 ·skip
  by_cases h1 : l1 = 0
  ·skip
   by_cases ha : wa = 0
   ·skip
    have e : zrB false false true false nn l1 l2 wa = true := by simp [zrB, hn, h1, ha]
    rw [e]
    clear e
    subst hn
    subst h1
    subst ha
    go_enter func178, ntmps178
    go_wp2
    go_ret
    exact ⟨rfl, B0⟩
   have e : zrB false false true false nn l1 l2 wa = false := by simp [zrB, hn, h1, ha]
   rw [e]
   clear e
   subst hn
   subst h1
   have e2 : (wa == 0) = false := by simp [ha]
   go_enter func178, ntmps178
   go_wp2
   go_ret
   exact ⟨rfl, B0⟩
  have e : zrB false false true false nn l1 l2 wa = false := by simp [zrB, hn, h1]
  rw [e]
  have h1i : ¬ (l1 : Int) = 0 := by omega
  clear e
  subst hn
  go_enter func178, ntmps178
  go_wp2
  go_ret
  exact ⟨rfl, B0⟩
 have e : zrB false false true false nn l1 l2 wa = false := by simp [zrB, hn]
 rw [e]
 clear e
 go_enter func178, ntmps178
 go_wp2
 go_ret
 exact ⟨rfl, B0⟩
theorem l3Zero_ftff (kd pl nn wa : Int) (a1 a2 : Option Addr) (l1 l2 c1 c2 : Nat) (w : World) (hm1 : l1 <= 2000000) (hm2 : l2 <= 20000000) (z : Bool) (hz : zrB false true false false nn l1 l2 wa = z) :
 Calls prog 178 #[rq kd pl nn wa a1 a2 l1 l2 c1 c2, .bool false, .bool true, .bool false, .bool false] w fun e w' => e = .returned (.bool z) /\ Below w.heap.size w w' := by
 have B0 := bel_alloc w (.cells #[.int .i64 kd, .int .i64 pl, .int .i64 nn, .slice a1 l1 c1, .slice a2 l2 c2, .int .i64 wa] 84)
 subst hz
 by_cases hn : nn = 0
 ·skip
  by_cases h2 : l2 = 0
  ·skip
   by_cases ha : wa = 0
   ·skip
    have e : zrB false true false false nn l1 l2 wa = true := by simp [zrB, hn, h2, ha]
    rw [e]
    clear e
    subst hn
    subst h2
    subst ha
    go_enter func178, ntmps178
    go_wp2
    go_ret
    exact ⟨rfl, B0⟩
   have e : zrB false true false false nn l1 l2 wa = false := by simp [zrB, hn, h2, ha]
   rw [e]
   clear e
   subst hn
   subst h2
   have e2 : (wa == 0) = false := by simp [ha]
   go_enter func178, ntmps178
   go_wp2
   go_ret
   exact ⟨rfl, B0⟩
  have e : zrB false true false false nn l1 l2 wa = false := by simp [zrB, hn, h2]
  rw [e]
  have h2i : ¬ (l2 : Int) = 0 := by omega
  clear e
  subst hn
  go_enter func178, ntmps178
  go_wp2
  go_ret
  exact ⟨rfl, B0⟩
 have e : zrB false true false false nn l1 l2 wa = false := by simp [zrB, hn]
 rw [e]
 clear e
 go_enter func178, ntmps178
 go_wp2
 go_ret
 exact ⟨rfl, B0⟩
theorem l3Zero_ttft (kd pl nn wa : Int) (a1 a2 : Option Addr) (l1 l2 c1 c2 : Nat) (w : World) (hm1 : l1 <= 2000000) (hm2 : l2 <= 20000000) (z : Bool) (hz : zrB true true false true nn l1 l2 wa = z) :
 Calls prog 178 #[rq kd pl nn wa a1 a2 l1 l2 c1 c2, .bool true, .bool true, .bool false, .bool true] w fun e w' => e = .returned (.bool z) /\ Below w.heap.size w w' := by
 have B0 := bel_alloc w (.cells #[.int .i64 kd, .int .i64 pl, .int .i64 nn, .slice a1 l1 c1, .slice a2 l2 c2, .int .i64 wa] 84)
 subst hz
 by_cases h2 : l2 = 0
 ·skip
  have e : zrB true true false true nn l1 l2 wa = true := by simp [zrB, h2]
  rw [e]
  clear e
  subst h2
  go_enter func178, ntmps178
  go_wp2
  go_ret
  exact ⟨rfl, B0⟩
 have e : zrB true true false true nn l1 l2 wa = false := by simp [zrB, h2]
 rw [e]
 have h2i : ¬ (l2 : Int) = 0 := by omega
 clear e
 go_enter func178, ntmps178
 go_wp2
 go_ret
 exact ⟨rfl, B0⟩
theorem equal_int (a a' : Option Addr) (n n' cap cap' : Nat) (zs : List Int) (w : World) (hn : n = zs.length) (hn' : n' = zs.length) (hs : SlI w a zs) (hs' : SlI w a' zs) (hl : zs.length <= 2000000) :
 Calls prog 241 #[.slice a n cap, .slice a' n' cap'] w fun e w' => e = .returned (.bool true) /\ Below w.heap.size w w' := by
 subst hn hn'
 go_enter func241, ntmps241
 go_wp2
 go_loopw [13] (fun i wr => ∃ k : Nat, k <= zs.length /\ i = .int .i64 k /\ ∃ n, wr = w.drewN n) (fun i _ => zs.length - (intOf i).toNat)
 case atStart => exact ⟨0, Nat.zero_le _, rfl, 0, rfl⟩
 case round =>
  obtain ⟨k, hk, rfl, n, rfl⟩ := hrel
  by_cases hlt : k < zs.length
  ·obtain ⟨b, off, rfl, _, hc⟩ := cell_atI hs hlt
   obtain ⟨b', off', rfl, _, hc'⟩ := cell_atI hs' hlt
   have hi : (k : Int) < (zs.length : Int) := by omega
   clear hs hs'
   go_wp2
   go_quiet (fail)
   go_wp2
   go_roundw
   case rel => first | exact ⟨k + 1, by omega, by go_num, _, rfl⟩ | exact ⟨_, _, ⟨k + 1, by omega, by go_num, _, rfl⟩, rfl, rfl⟩
   case measure => simp [intOf]; omega
  clear hs hs'
  go_wp2
  go_ret
  exact ⟨rfl, drew_refl _ _⟩
theorem equal_int_len (a a' : Option Addr) (n n' cap cap' : Nat) (w : World) (hne : ¬ (n : Int) = (n' : Int)) (h1 : n <= 20000000) (h2 : n' <= 20000000) :
 Calls prog 241 #[.slice a n cap, .slice a' n' cap'] w fun e w' => e = .returned (.bool false) /\ Below w.heap.size w w' := by
 go_enter func241, ntmps241
 go_wp2
 go_ret
 exact ⟨rfl, Below.refl _ _⟩
theorem equal_bool (a a' : Option Addr) (n n' cap cap' : Nat) (zs : List Bool) (w : World) (hn : n = zs.length) (hn' : n' = zs.length) (hs : SlB w a zs) (hs' : SlB w a' zs) (hl : zs.length <= 2000000) :
 Calls prog 242 #[.slice a n cap, .slice a' n' cap'] w fun e w' => e = .returned (.bool true) /\ Below w.heap.size w w' := by
 subst hn hn'
 go_enter func242, ntmps242
 go_wp2
 go_loopw [13] (fun i wr => ∃ k : Nat, k <= zs.length /\ i = .int .i64 k /\ ∃ n, wr = w.drewN n) (fun i _ => zs.length - (intOf i).toNat)
 case atStart => exact ⟨0, Nat.zero_le _, rfl, 0, rfl⟩
 case round =>
  obtain ⟨k, hk, rfl, n, rfl⟩ := hrel
  by_cases hlt : k < zs.length
  ·obtain ⟨b, off, rfl, _, hc⟩ := cell_atB hs hlt
   obtain ⟨b', off', rfl, _, hc'⟩ := cell_atB hs' hlt
   have hi : (k : Int) < (zs.length : Int) := by omega
   clear hs hs'
   go_wp2
   go_quiet (fail)
   go_wp2
   go_roundw
   case rel => first | exact ⟨k + 1, by omega, by go_num, _, rfl⟩ | exact ⟨_, _, ⟨k + 1, by omega, by go_num, _, rfl⟩, rfl, rfl⟩
   case measure => simp [intOf]; omega
  clear hs hs'
  go_wp2
  go_ret
  exact ⟨rfl, drew_refl _ _⟩
theorem equal_bool_len (a a' : Option Addr) (n n' cap cap' : Nat) (w : World) (hne : ¬ (n : Int) = (n' : Int)) (h1 : n <= 20000000) (h2 : n' <= 20000000) :
 Calls prog 242 #[.slice a n cap, .slice a' n' cap'] w fun e w' => e = .returned (.bool false) /\ Below w.heap.size w w' := by
 go_enter func242, ntmps242
 go_wp2
 go_ret
 exact ⟨rfl, Below.refl _ _⟩
def okK (kd pl nn wa : Int) (l1 l2 : Nat) : Bool :=
 if kd = 1 \/ kd = 2 then zrB true false false false nn l1 l2 wa && (inB nn 1 2000 && fitB pl nn)
 else if kd = 3 \/ kd = 4 then zrB true false false false nn l1 l2 wa && (inB nn 1 125 && fitB pl nn)
 else if kd = 5 then zrB false false true false nn l1 l2 wa && decide (l2 = 1)
 else if kd = 6 then zrB false true false false nn l1 l2 wa && decide (l1 = 1)
 else if kd = 15 then zrB false false true false nn l1 l2 wa && (inB l2 1 1968 && fitB pl l2)
 else if kd = 16 then zrB false true false false nn l1 l2 wa && (inB l1 1 123 && fitB pl l1)
 else if kd = 22 then zrB false true false false nn l1 l2 wa && decide (l1 = 2)
 else if kd = 23 then zrB true true false true nn l1 l2 wa && (inB nn 1 125 && (fitB pl nn && (inB l1 1 121 && fitB wa l1)))
 else false
def okR (kd pl nn wa : Int) (ws : List Int) (l1 l2 : Nat) : Bool := allW ws && (inB pl 0 65535 && okK kd pl nn wa l1 l2)
theorem inB_yes {x lo hi : Int} (h : inB x lo hi = true) : lo <= x /\ x <= hi := by unfold inB at h; exact of_decide_eq_true h
theorem l1In_or (x lo hi : Int) (w : World) : Calls prog 36 #[.int .i64 x, .int .i64 lo, .int .i64 hi] w fun e w' => w' = w /\ ((inB x lo hi = true /\ (lo <= x /\ x <= hi) /\ e = .returned (.bool true)) \/ (inB x lo hi = false /\ e = .returned (.bool false))) :=
 (l1In_any x lo hi w _ rfl).mono (by rintro e w' ⟨rfl, rfl⟩; cases h : inB x lo hi <;> simp; exact inB_yes h)
theorem bo {n : Nat} {ar : Array Value} {w : World} {b : Bool} {Q : World -> Prop} (h : Calls prog n ar w fun e w' => e = .returned (.bool b) /\ Q w') : Calls prog n ar w fun e w' => Q w' /\ ((b = true /\ e = .returned (.bool true)) \/ (b = false /\ e = .returned (.bool false))) :=
 h.mono (by rintro e w' ⟨rfl, q⟩; cases b <;> simp [q])
theorem l3Zero_or (n v b a : Bool) (kd pl nn wa : Int) (a1 a2 : Option Addr) (l1 l2 c1 c2 : Nat) (w : World) (h : n = true /\ v = false /\ b = false /\ a = false \/ n = false /\ v = false /\ b = true /\ a = false \/ n = false /\ v = true /\ b = false /\ a = false \/ n = true /\ v = true /\ b = false /\ a = true) (hm1 : l1 <= 2000000) (hm2 : l2 <= 20000000) :
 Calls prog 178 #[rq kd pl nn wa a1 a2 l1 l2 c1 c2, .bool n, .bool v, .bool b, .bool a] w fun e w' => Below w.heap.size w w' /\ ((zrB n v b a nn l1 l2 wa = true /\ e = .returned (.bool true)) \/ (zrB n v b a nn l1 l2 wa = false /\ e = .returned (.bool false))) := by
 obtain ⟨rfl, rfl, rfl, rfl⟩ | ⟨rfl, rfl, rfl, rfl⟩ | ⟨rfl, rfl, rfl, rfl⟩ | ⟨rfl, rfl, rfl, rfl⟩ := h
 ·exact bo (l3Zero_tfff _ _ _ _ _ _ _ _ _ _ _ hm1 hm2 _ rfl)
 ·exact bo (l3Zero_fftf _ _ _ _ _ _ _ _ _ _ _ hm1 hm2 _ rfl)
 ·exact bo (l3Zero_ftff _ _ _ _ _ _ _ _ _ _ _ hm1 hm2 _ rfl)
 exact bo (l3Zero_ttft _ _ _ _ _ _ _ _ _ _ _ hm1 hm2 _ rfl)
theorem specReqOk_any (kd : Int) (pl nn wa : Int) (a1 a2 : Option Addr) (l1 l2 c1 c2 : Nat) (ws : List Int) (w : World) (h1 : l1 = ws.length) (s1 : SlI w a1 ws) (hl1 : ws.length <= 2000000) (hl2 : l2 <= 20000000) (b : Bool) (hb : okR kd pl nn wa ws l1 l2 = b) :
 Calls prog 119 #[rq kd pl nn wa a1 a2 l1 l2 c1 c2] w fun e w' => e = .returned (.bool b) /\ Below w.heap.size w w' := by
 obtain ⟨B0, X0⟩ := bx w #[.int .i64 kd, .int .i64 pl, .int .i64 nn, .slice a1 l1 c1, .slice a2 l2 c2, .int .i64 wa] 84
 have S1 := hide (s1.below B0)
 have H1 : Hid (l1 = ws.length) := h1
 clear h1 s1
 subst hb
 rcases Decidable.em (kd = 1 \/ kd = 2 \/ kd = 3 \/ kd = 4 \/ kd = 5 \/ kd = 6 \/ kd = 15 \/ kd = 16 \/ kd = 22 \/ kd = 23) with (rfl | rfl | rfl | rfl | rfl | rfl | rfl | rfl | rfl | rfl) | hk
 rotate_right
 ·simp only [not_or] at hk
  obtain ⟨k1, k2, k3, k4, k5, k6, k7, k8, k9, k10⟩ := hk
  go_enter func119, ntmps119
  go_wp2_with (first
   | (go_at_call 175; refine (bo (l3Words_any _ _ _ ws _ H1.out S1.out hl1 _ rfl)).mono ?_; rintro e wx ⟨rfl, ⟨hW, rfl⟩ | ⟨hW, rfl⟩⟩)
   | (go_at_call 36; refine (l1In_or _ _ _ _).mono ?_; rintro e wx ⟨rfl, ⟨hN, hm, rfl⟩ | ⟨hN, rfl⟩⟩))
  all_goals
   go_ret
   exact ⟨by simp [okR, okK, *], B0⟩
 all_goals
  go_enter func119, ntmps119
  go_wp2_with (first
   | (go_at_call 175; refine (bo (l3Words_any _ _ _ ws _ H1.out S1.out hl1 _ rfl)).mono ?_; rintro e wx ⟨rfl, ⟨hW, rfl⟩ | ⟨hW, rfl⟩⟩)
   | (go_at_call 36; refine (l1In_or _ _ _ _).mono ?_; rintro e wx ⟨rfl, ⟨hN, hm, rfl⟩ | ⟨hN, rfl⟩⟩)
   | (go_at_call 178; refine (l3Zero_or _ _ _ _ _ _ _ _ _ _ _ _ _ _ _ (by simp) (by have := H1.out; omega) hl2).mono ?_; rintro e w1 ⟨b', ⟨hZ, rfl⟩ | ⟨hZ, rfl⟩⟩ <;> (have B1 := bel_next B0 b'; obtain ⟨y0, y1, y2, y3, y4, y5⟩ := (X0.below b').six; clear B0 X0))
   | (go_at_call 179; refine (bo (l3Fits_any _ _ _ (by omega) (by omega) _ rfl)).mono ?_; rintro e wx ⟨rfl, ⟨hF, rfl⟩ | ⟨hF, rfl⟩⟩))
  all_goals
   go_ret
   refine ⟨?_, by assumption⟩
   simp [okR, okK, *]
   try (rw [Bool.eq_iff_iff]; simp; omega)
theorem ta_1_1 (w : World) (v : Value) : (Instr.typeAssert (.iface 291 v) 278 291 true).run prog w = .ok (.tuple #[v, .bool true]) w := by kernel_rfl
theorem ta_2_1 (w : World) (v : Value) : (Instr.typeAssert (.iface 292 v) 278 291 true).run prog w = .ok (.tuple #[.agg #[.int .i64 0, .int .i64 0], .bool false]) w := by kernel_rfl
theorem ta_2_2 (w : World) (v : Value) : (Instr.typeAssert (.iface 292 v) 278 292 true).run prog w = .ok (.tuple #[v, .bool true]) w := by kernel_rfl
theorem ta_3_1 (w : World) (v : Value) : (Instr.typeAssert (.iface 293 v) 278 291 true).run prog w = .ok (.tuple #[.agg #[.int .i64 0, .int .i64 0], .bool false]) w := by kernel_rfl
theorem ta_3_2 (w : World) (v : Value) : (Instr.typeAssert (.iface 293 v) 278 292 true).run prog w = .ok (.tuple #[.agg #[.int .i64 0, .int .i64 0], .bool false]) w := by kernel_rfl
theorem ta_3_3 (w : World) (v : Value) : (Instr.typeAssert (.iface 293 v) 278 293 true).run prog w = .ok (.tuple #[v, .bool true]) w := by kernel_rfl
theorem ta_4_1 (w : World) (v : Value) : (Instr.typeAssert (.iface 294 v) 278 291 true).run prog w = .ok (.tuple #[.agg #[.int .i64 0, .int .i64 0], .bool false]) w := by kernel_rfl
theorem ta_4_2 (w : World) (v : Value) : (Instr.typeAssert (.iface 294 v) 278 292 true).run prog w = .ok (.tuple #[.agg #[.int .i64 0, .int .i64 0], .bool false]) w := by kernel_rfl
theorem ta_4_3 (w : World) (v : Value) : (Instr.typeAssert (.iface 294 v) 278 293 true).run prog w = .ok (.tuple #[.agg #[.int .i64 0, .int .i64 0], .bool false]) w := by kernel_rfl
theorem ta_4_4 (w : World) (v : Value) : (Instr.typeAssert (.iface 294 v) 278 294 true).run prog w = .ok (.tuple #[v, .bool true]) w := by kernel_rfl
theorem ta_5_1 (w : World) (v : Value) : (Instr.typeAssert (.iface 296 v) 278 291 true).run prog w = .ok (.tuple #[.agg #[.int .i64 0, .int .i64 0], .bool false]) w := by kernel_rfl
theorem ta_5_2 (w : World) (v : Value) : (Instr.typeAssert (.iface 296 v) 278 292 true).run prog w = .ok (.tuple #[.agg #[.int .i64 0, .int .i64 0], .bool false]) w := by kernel_rfl
theorem ta_5_3 (w : World) (v : Value) : (Instr.typeAssert (.iface 296 v) 278 293 true).run prog w = .ok (.tuple #[.agg #[.int .i64 0, .int .i64 0], .bool false]) w := by kernel_rfl
theorem ta_5_4 (w : World) (v : Value) : (Instr.typeAssert (.iface 296 v) 278 294 true).run prog w = .ok (.tuple #[.agg #[.int .i64 0, .int .i64 0], .bool false]) w := by kernel_rfl
theorem ta_5_5 (w : World) (v : Value) : (Instr.typeAssert (.iface 296 v) 278 296 true).run prog w = .ok (.tuple #[v, .bool true]) w := by kernel_rfl
theorem ta_6_1 (w : World) (v : Value) : (Instr.typeAssert (.iface 298 v) 278 291 true).run prog w = .ok (.tuple #[.agg #[.int .i64 0, .int .i64 0], .bool false]) w := by kernel_rfl
theorem ta_6_2 (w : World) (v : Value) : (Instr.typeAssert (.iface 298 v) 278 292 true).run prog w = .ok (.tuple #[.agg #[.int .i64 0, .int .i64 0], .bool false]) w := by kernel_rfl
theorem ta_6_3 (w : World) (v : Value) : (Instr.typeAssert (.iface 298 v) 278 293 true).run prog w = .ok (.tuple #[.agg #[.int .i64 0, .int .i64 0], .bool false]) w := by kernel_rfl
theorem ta_6_4 (w : World) (v : Value) : (Instr.typeAssert (.iface 298 v) 278 294 true).run prog w = .ok (.tuple #[.agg #[.int .i64 0, .int .i64 0], .bool false]) w := by kernel_rfl
theorem ta_6_5 (w : World) (v : Value) : (Instr.typeAssert (.iface 298 v) 278 296 true).run prog w = .ok (.tuple #[.agg #[.int .i64 0, .bool false], .bool false]) w := by kernel_rfl
theorem ta_6_6 (w : World) (v : Value) : (Instr.typeAssert (.iface 298 v) 278 298 true).run prog w = .ok (.tuple #[v, .bool true]) w := by kernel_rfl
theorem ta_15_1 (w : World) (v : Value) : (Instr.typeAssert (.iface 300 v) 278 291 true).run prog w = .ok (.tuple #[.agg #[.int .i64 0, .int .i64 0], .bool false]) w := by kernel_rfl
theorem ta_15_2 (w : World) (v : Value) : (Instr.typeAssert (.iface 300 v) 278 292 true).run prog w = .ok (.tuple #[.agg #[.int .i64 0, .int .i64 0], .bool false]) w := by kernel_rfl
theorem ta_15_3 (w : World) (v : Value) : (Instr.typeAssert (.iface 300 v) 278 293 true).run prog w = .ok (.tuple #[.agg #[.int .i64 0, .int .i64 0], .bool false]) w := by kernel_rfl
theorem ta_15_4 (w : World) (v : Value) : (Instr.typeAssert (.iface 300 v) 278 294 true).run prog w = .ok (.tuple #[.agg #[.int .i64 0, .int .i64 0], .bool false]) w := by kernel_rfl
theorem ta_15_5 (w : World) (v : Value) : (Instr.typeAssert (.iface 300 v) 278 296 true).run prog w = .ok (.tuple #[.agg #[.int .i64 0, .bool false], .bool false]) w := by kernel_rfl
theorem ta_15_6 (w : World) (v : Value) : (Instr.typeAssert (.iface 300 v) 278 298 true).run prog w = .ok (.tuple #[.agg #[.int .i64 0, .int .i64 0], .bool false]) w := by kernel_rfl
theorem ta_15_15 (w : World) (v : Value) : (Instr.typeAssert (.iface 300 v) 278 300 true).run prog w = .ok (.tuple #[v, .bool true]) w := by kernel_rfl
theorem ta_16_1 (w : World) (v : Value) : (Instr.typeAssert (.iface 302 v) 278 291 true).run prog w = .ok (.tuple #[.agg #[.int .i64 0, .int .i64 0], .bool false]) w := by kernel_rfl
theorem ta_16_2 (w : World) (v : Value) : (Instr.typeAssert (.iface 302 v) 278 292 true).run prog w = .ok (.tuple #[.agg #[.int .i64 0, .int .i64 0], .bool false]) w := by kernel_rfl
theorem ta_16_3 (w : World) (v : Value) : (Instr.typeAssert (.iface 302 v) 278 293 true).run prog w = .ok (.tuple #[.agg #[.int .i64 0, .int .i64 0], .bool false]) w := by kernel_rfl
theorem ta_16_4 (w : World) (v : Value) : (Instr.typeAssert (.iface 302 v) 278 294 true).run prog w = .ok (.tuple #[.agg #[.int .i64 0, .int .i64 0], .bool false]) w := by kernel_rfl
theorem ta_16_5 (w : World) (v : Value) : (Instr.typeAssert (.iface 302 v) 278 296 true).run prog w = .ok (.tuple #[.agg #[.int .i64 0, .bool false], .bool false]) w := by kernel_rfl
theorem ta_16_6 (w : World) (v : Value) : (Instr.typeAssert (.iface 302 v) 278 298 true).run prog w = .ok (.tuple #[.agg #[.int .i64 0, .int .i64 0], .bool false]) w := by kernel_rfl
theorem ta_16_15 (w : World) (v : Value) : (Instr.typeAssert (.iface 302 v) 278 300 true).run prog w = .ok (.tuple #[.agg #[.int .i64 0, .slice none 0 0], .bool false]) w := by kernel_rfl
theorem ta_16_16 (w : World) (v : Value) : (Instr.typeAssert (.iface 302 v) 278 302 true).run prog w = .ok (.tuple #[v, .bool true]) w := by kernel_rfl
theorem ta_22_1 (w : World) (v : Value) : (Instr.typeAssert (.iface 304 v) 278 291 true).run prog w = .ok (.tuple #[.agg #[.int .i64 0, .int .i64 0], .bool false]) w := by kernel_rfl
theorem ta_22_2 (w : World) (v : Value) : (Instr.typeAssert (.iface 304 v) 278 292 true).run prog w = .ok (.tuple #[.agg #[.int .i64 0, .int .i64 0], .bool false]) w := by kernel_rfl
theorem ta_22_3 (w : World) (v : Value) : (Instr.typeAssert (.iface 304 v) 278 293 true).run prog w = .ok (.tuple #[.agg #[.int .i64 0, .int .i64 0], .bool false]) w := by kernel_rfl
theorem ta_22_4 (w : World) (v : Value) : (Instr.typeAssert (.iface 304 v) 278 294 true).run prog w = .ok (.tuple #[.agg #[.int .i64 0, .int .i64 0], .bool false]) w := by kernel_rfl
theorem ta_22_5 (w : World) (v : Value) : (Instr.typeAssert (.iface 304 v) 278 296 true).run prog w = .ok (.tuple #[.agg #[.int .i64 0, .bool false], .bool false]) w := by kernel_rfl
theorem ta_22_6 (w : World) (v : Value) : (Instr.typeAssert (.iface 304 v) 278 298 true).run prog w = .ok (.tuple #[.agg #[.int .i64 0, .int .i64 0], .bool false]) w := by kernel_rfl
theorem ta_22_15 (w : World) (v : Value) : (Instr.typeAssert (.iface 304 v) 278 300 true).run prog w = .ok (.tuple #[.agg #[.int .i64 0, .slice none 0 0], .bool false]) w := by kernel_rfl
theorem ta_22_16 (w : World) (v : Value) : (Instr.typeAssert (.iface 304 v) 278 302 true).run prog w = .ok (.tuple #[.agg #[.int .i64 0, .slice none 0 0], .bool false]) w := by kernel_rfl
theorem ta_22_22 (w : World) (v : Value) : (Instr.typeAssert (.iface 304 v) 278 304 true).run prog w = .ok (.tuple #[v, .bool true]) w := by kernel_rfl
theorem ta_23_1 (w : World) (v : Value) : (Instr.typeAssert (.iface 306 v) 278 291 true).run prog w = .ok (.tuple #[.agg #[.int .i64 0, .int .i64 0], .bool false]) w := by kernel_rfl
theorem ta_23_2 (w : World) (v : Value) : (Instr.typeAssert (.iface 306 v) 278 292 true).run prog w = .ok (.tuple #[.agg #[.int .i64 0, .int .i64 0], .bool false]) w := by kernel_rfl
theorem ta_23_3 (w : World) (v : Value) : (Instr.typeAssert (.iface 306 v) 278 293 true).run prog w = .ok (.tuple #[.agg #[.int .i64 0, .int .i64 0], .bool false]) w := by kernel_rfl
theorem ta_23_4 (w : World) (v : Value) : (Instr.typeAssert (.iface 306 v) 278 294 true).run prog w = .ok (.tuple #[.agg #[.int .i64 0, .int .i64 0], .bool false]) w := by kernel_rfl
theorem ta_23_5 (w : World) (v : Value) : (Instr.typeAssert (.iface 306 v) 278 296 true).run prog w = .ok (.tuple #[.agg #[.int .i64 0, .bool false], .bool false]) w := by kernel_rfl
theorem ta_23_6 (w : World) (v : Value) : (Instr.typeAssert (.iface 306 v) 278 298 true).run prog w = .ok (.tuple #[.agg #[.int .i64 0, .int .i64 0], .bool false]) w := by kernel_rfl
theorem ta_23_15 (w : World) (v : Value) : (Instr.typeAssert (.iface 306 v) 278 300 true).run prog w = .ok (.tuple #[.agg #[.int .i64 0, .slice none 0 0], .bool false]) w := by kernel_rfl
theorem ta_23_16 (w : World) (v : Value) : (Instr.typeAssert (.iface 306 v) 278 302 true).run prog w = .ok (.tuple #[.agg #[.int .i64 0, .slice none 0 0], .bool false]) w := by kernel_rfl
theorem ta_23_22 (w : World) (v : Value) : (Instr.typeAssert (.iface 306 v) 278 304 true).run prog w = .ok (.tuple #[.agg #[.int .i64 0, .int .i64 0, .int .i64 0], .bool false]) w := by kernel_rfl
theorem ta_23_23 (w : World) (v : Value) : (Instr.typeAssert (.iface 306 v) 278 306 true).run prog w = .ok (.tuple #[v, .bool true]) w := by kernel_rfl
theorem ta_n_1 (w : World) : (Instr.typeAssert .nilIface 278 291 true).run prog w = .ok (.tuple #[.agg #[.int .i64 0, .int .i64 0], .bool false]) w := by kernel_rfl
theorem ta_n_2 (w : World) : (Instr.typeAssert .nilIface 278 292 true).run prog w = .ok (.tuple #[.agg #[.int .i64 0, .int .i64 0], .bool false]) w := by kernel_rfl
theorem ta_n_3 (w : World) : (Instr.typeAssert .nilIface 278 293 true).run prog w = .ok (.tuple #[.agg #[.int .i64 0, .int .i64 0], .bool false]) w := by kernel_rfl
theorem ta_n_4 (w : World) : (Instr.typeAssert .nilIface 278 294 true).run prog w = .ok (.tuple #[.agg #[.int .i64 0, .int .i64 0], .bool false]) w := by kernel_rfl
theorem ta_n_5 (w : World) : (Instr.typeAssert .nilIface 278 296 true).run prog w = .ok (.tuple #[.agg #[.int .i64 0, .bool false], .bool false]) w := by kernel_rfl
theorem ta_n_6 (w : World) : (Instr.typeAssert .nilIface 278 298 true).run prog w = .ok (.tuple #[.agg #[.int .i64 0, .int .i64 0], .bool false]) w := by kernel_rfl
theorem ta_n_15 (w : World) : (Instr.typeAssert .nilIface 278 300 true).run prog w = .ok (.tuple #[.agg #[.int .i64 0, .slice none 0 0], .bool false]) w := by kernel_rfl
theorem ta_n_16 (w : World) : (Instr.typeAssert .nilIface 278 302 true).run prog w = .ok (.tuple #[.agg #[.int .i64 0, .slice none 0 0], .bool false]) w := by kernel_rfl
theorem ta_n_22 (w : World) : (Instr.typeAssert .nilIface 278 304 true).run prog w = .ok (.tuple #[.agg #[.int .i64 0, .int .i64 0, .int .i64 0], .bool false]) w := by kernel_rfl
theorem ta_n_23 (w : World) : (Instr.typeAssert .nilIface 278 306 true).run prog w = .ok (.tuple #[.agg #[.int .i64 0, .int .i64 0, .int .i64 0, .slice none 0 0], .bool false]) w := by kernel_rfl
section
variable (pl nn wa : Int) (a1 a2 : Option Addr) (l1 l2 c1 c2 : Nat) (w : World)
include pl nn wa a1 a2 l1 l2 c1 c2 w
theorem questionOf_1 :
 Calls prog 248 #[rq 1 pl nn wa a1 a2 l1 l2 c1 c2] w fun e w' => e = .returned (.iface 291 (.agg #[.int .i64 pl, .int .i64 nn])) /\ Below w.heap.size w w' := by
 have B0 := bel_alloc w (.cells #[.int .i64 1, .int .i64 pl, .int .i64 nn, .slice a1 l1 c1, .slice a2 l2 c2, .int .i64 wa] 84)
 go_enter func248, ntmps248
 go_wp2
 go_ret
 exact ⟨rfl, B0⟩
theorem questionOf_2 :
 Calls prog 248 #[rq 2 pl nn wa a1 a2 l1 l2 c1 c2] w fun e w' => e = .returned (.iface 292 (.agg #[.int .i64 pl, .int .i64 nn])) /\ Below w.heap.size w w' := by
 have B0 := bel_alloc w (.cells #[.int .i64 2, .int .i64 pl, .int .i64 nn, .slice a1 l1 c1, .slice a2 l2 c2, .int .i64 wa] 84)
 go_enter func248, ntmps248
 go_wp2
 go_ret
 exact ⟨rfl, B0⟩
theorem questionOf_3 :
 Calls prog 248 #[rq 3 pl nn wa a1 a2 l1 l2 c1 c2] w fun e w' => e = .returned (.iface 293 (.agg #[.int .i64 pl, .int .i64 nn])) /\ Below w.heap.size w w' := by
 have B0 := bel_alloc w (.cells #[.int .i64 3, .int .i64 pl, .int .i64 nn, .slice a1 l1 c1, .slice a2 l2 c2, .int .i64 wa] 84)
 go_enter func248, ntmps248
 go_wp2
 go_ret
 exact ⟨rfl, B0⟩
theorem questionOf_4 :
 Calls prog 248 #[rq 4 pl nn wa a1 a2 l1 l2 c1 c2] w fun e w' => e = .returned (.iface 294 (.agg #[.int .i64 pl, .int .i64 nn])) /\ Below w.heap.size w w' := by
 have B0 := bel_alloc w (.cells #[.int .i64 4, .int .i64 pl, .int .i64 nn, .slice a1 l1 c1, .slice a2 l2 c2, .int .i64 wa] 84)
 go_enter func248, ntmps248
 go_wp2
 go_ret
 exact ⟨rfl, B0⟩
theorem questionOf_15 :
 Calls prog 248 #[rq 15 pl nn wa a1 a2 l1 l2 c1 c2] w fun e w' => e = .returned (.iface 300 (.agg #[.int .i64 pl, .slice a2 l2 c2])) /\ Below w.heap.size w w' := by
 have B0 := bel_alloc w (.cells #[.int .i64 15, .int .i64 pl, .int .i64 nn, .slice a1 l1 c1, .slice a2 l2 c2, .int .i64 wa] 84)
 go_enter func248, ntmps248
 go_wp2
 go_ret
 exact ⟨rfl, B0⟩
theorem questionOf_16 :
 Calls prog 248 #[rq 16 pl nn wa a1 a2 l1 l2 c1 c2] w fun e w' => e = .returned (.iface 302 (.agg #[.int .i64 pl, .slice a1 l1 c1])) /\ Below w.heap.size w w' := by
 have B0 := bel_alloc w (.cells #[.int .i64 16, .int .i64 pl, .int .i64 nn, .slice a1 l1 c1, .slice a2 l2 c2, .int .i64 wa] 84)
 go_enter func248, ntmps248
 go_wp2
 go_ret
 exact ⟨rfl, B0⟩
theorem questionOf_23 :
 Calls prog 248 #[rq 23 pl nn wa a1 a2 l1 l2 c1 c2] w fun e w' => e = .returned (.iface 306 (.agg #[.int .i64 pl, .int .i64 nn, .int .i64 wa, .slice a1 l1 c1])) /\ Below w.heap.size w w' := by
 have B0 := bel_alloc w (.cells #[.int .i64 23, .int .i64 pl, .int .i64 nn, .slice a1 l1 c1, .slice a2 l2 c2, .int .i64 wa] 84)
 go_enter func248, ntmps248
 go_wp2
 go_ret
 exact ⟨rfl, B0⟩
theorem questionOf_5 (bs : List Bool) (h2 : l2 = bs.length) (hL : (l2 : Int) = 1) (s2 : SlB w a2 bs) :
 Calls prog 248 #[rq 5 pl nn wa a1 a2 l1 l2 c1 c2] w fun e w' => e = .returned (.iface 296 (.agg #[.int .i64 pl, .bool (bs.getD 0 false)])) /\ Below w.heap.size w w' := by
 have B0 := bel_alloc w (.cells #[.int .i64 5, .int .i64 pl, .int .i64 nn, .slice a1 l1 c1, .slice a2 l2 c2, .int .i64 wa] 84)
 obtain ⟨b, off, rfl, hb, hc⟩ := cell_atB (s2.below B0) (show 0 < bs.length by omega)
 have hc0 : (w.alloc (.cells #[.int .i64 5, .int .i64 pl, .int .i64 nn, .slice a1 l1 c1, .slice (some ⟨b, off, none⟩) l2 c2, .int .i64 wa] 84)).cell? ⟨b, off, none⟩ = some (.bool (bs.getD 0 false)) := by simpa using hc
 clear hc h2 s2
 go_enter func248, ntmps248
 go_wp2
 go_quiet (fail)
 go_wp2
 go_ret
 exact ⟨rfl, bel_next B0 (drew_refl _ _)⟩
theorem questionOf_6 (ws : List Int) (h1 : l1 = ws.length) (hL : (l1 : Int) = 1) (s1 : SlI w a1 ws) :
 Calls prog 248 #[rq 6 pl nn wa a1 a2 l1 l2 c1 c2] w fun e w' => e = .returned (.iface 298 (.agg #[.int .i64 pl, .int .i64 (ws.getD 0 0)])) /\ Below w.heap.size w w' := by
 have B0 := bel_alloc w (.cells #[.int .i64 6, .int .i64 pl, .int .i64 nn, .slice a1 l1 c1, .slice a2 l2 c2, .int .i64 wa] 84)
 obtain ⟨b, off, rfl, hb, hc⟩ := cell_atI (s1.below B0) (show 0 < ws.length by omega)
 have hc0 : (w.alloc (.cells #[.int .i64 6, .int .i64 pl, .int .i64 nn, .slice (some ⟨b, off, none⟩) l1 c1, .slice a2 l2 c2, .int .i64 wa] 84)).cell? ⟨b, off, none⟩ = some (.int .i64 (ws.getD 0 0)) := by simpa using hc
 clear hc h1 s1
 go_enter func248, ntmps248
 go_wp2
 go_quiet (fail)
 go_wp2
 go_ret
 exact ⟨rfl, bel_next B0 (drew_refl _ _)⟩
theorem questionOf_22 (ws : List Int) (h1 : l1 = ws.length) (hL : (l1 : Int) = 2) (s1 : SlI w a1 ws) :
 Calls prog 248 #[rq 22 pl nn wa a1 a2 l1 l2 c1 c2] w fun e w' => e = .returned (.iface 304 (.agg #[.int .i64 pl, .int .i64 (ws.getD 0 0), .int .i64 (ws.getD 1 0)])) /\ Below w.heap.size w w' := by
 have B0 := bel_alloc w (.cells #[.int .i64 22, .int .i64 pl, .int .i64 nn, .slice a1 l1 c1, .slice a2 l2 c2, .int .i64 wa] 84)
 obtain ⟨b, off, rfl, hb, hc⟩ := cell_atI (s1.below B0) (show 0 < ws.length by omega)
 obtain ⟨b2, off2, e2, hb2, hc2⟩ := cell_atI (s1.below B0) (show 1 < ws.length by omega)
 simp at e2
 obtain ⟨rfl, rfl⟩ := e2
 have hc0 : (w.alloc (.cells #[.int .i64 22, .int .i64 pl, .int .i64 nn, .slice (some ⟨b, off, none⟩) l1 c1, .slice a2 l2 c2, .int .i64 wa] 84)).cell? ⟨b, off, none⟩ = some (.int .i64 (ws.getD 0 0)) := by simpa using hc
 clear hc h1 s1
 go_enter func248, ntmps248
 go_wp2
 go_quiet (fail)
 go_wp2
 go_ret
 exact ⟨rfl, bel_next B0 (drew_refl _ _)⟩
end
theorem questionOf_5n (pl nn wa : Int) (a1 a2 : Option Addr) (l1 l2 c1 c2 : Nat) (w : World) (hL : ((l2 : Int) == 1) = false) :
 Calls prog 248 #[rq 5 pl nn wa a1 a2 l1 l2 c1 c2] w fun e w' => e = .returned (.nilIface) /\ Below w.heap.size w w' := by
 have B0 := bel_alloc w (.cells #[.int .i64 5, .int .i64 pl, .int .i64 nn, .slice a1 l1 c1, .slice a2 l2 c2, .int .i64 wa] 84)
 go_enter func248, ntmps248
 go_wp2
 go_ret
 exact ⟨rfl, B0⟩
theorem questionOf_6n (pl nn wa : Int) (a1 a2 : Option Addr) (l1 l2 c1 c2 : Nat) (w : World) (hL : ((l1 : Int) == 1) = false) :
 Calls prog 248 #[rq 6 pl nn wa a1 a2 l1 l2 c1 c2] w fun e w' => e = .returned (.nilIface) /\ Below w.heap.size w w' := by
 have B0 := bel_alloc w (.cells #[.int .i64 6, .int .i64 pl, .int .i64 nn, .slice a1 l1 c1, .slice a2 l2 c2, .int .i64 wa] 84)
 go_enter func248, ntmps248
 go_wp2
 go_ret
 exact ⟨rfl, B0⟩
theorem questionOf_22n (pl nn wa : Int) (a1 a2 : Option Addr) (l1 l2 c1 c2 : Nat) (w : World) (hL : ((l1 : Int) == 2) = false) :
 Calls prog 248 #[rq 22 pl nn wa a1 a2 l1 l2 c1 c2] w fun e w' => e = .returned (.nilIface) /\ Below w.heap.size w w' := by
 have B0 := bel_alloc w (.cells #[.int .i64 22, .int .i64 pl, .int .i64 nn, .slice a1 l1 c1, .slice a2 l2 c2, .int .i64 wa] 84)
 go_enter func248, ntmps248
 go_wp2
 go_ret
 exact ⟨rfl, B0⟩
theorem questionOf_none (kd : Int) (pl nn wa : Int) (a1 a2 : Option Addr) (l1 l2 c1 c2 : Nat) (w : World) (k1 : ¬ kd = 1) (k2 : ¬ kd = 2) (k3 : ¬ kd = 3) (k4 : ¬ kd = 4) (k5 : ¬ kd = 5) (k6 : ¬ kd = 6) (k15 : ¬ kd = 15) (k16 : ¬ kd = 16) (k22 : ¬ kd = 22) (k23 : ¬ kd = 23) :
 Calls prog 248 #[rq kd pl nn wa a1 a2 l1 l2 c1 c2] w fun e w' => e = .returned (.nilIface) /\ Below w.heap.size w w' := by
 have B0 := bel_alloc w (.cells #[.int .i64 kd, .int .i64 pl, .int .i64 nn, .slice a1 l1 c1, .slice a2 l2 c2, .int .i64 wa] 84)
 go_enter func248, ntmps248
 go_wp2
 go_ret
 exact ⟨rfl, B0⟩
theorem isRight_1 (pl nn : Int) (w : World) (b : Bool) (hb : (rnB pl nn 2000) = b) :
 Calls prog 249 #[.iface 291 (.agg #[.int .i64 pl, .int .i64 nn])] w fun e w' => e = .returned (.bool b) /\ Below w.heap.size w w' := by
 have t1 := ta_1_1
 cases hR : rnB pl nn 2000
 ·skip
  obtain rfl := eqb false hb (by simp [hR]); clear hb
  go_enter func249, ntmps249
  go_wp2_with (first | (go_at_call 256; refine (isRun_any _ _ _ _ (by decide) _ (by first | exact hR)).mono ?_; rintro e wx ⟨rfl, rfl⟩))
  go_ret
  exact ⟨rfl, bel_alloc _ _⟩
 skip
 obtain rfl := eqb true hb (by simp [hR]); clear hb
 go_enter func249, ntmps249
 go_wp2_with (first | (go_at_call 256; refine (isRun_any _ _ _ _ (by decide) _ (by first | exact hR)).mono ?_; rintro e wx ⟨rfl, rfl⟩))
 go_ret
 exact ⟨rfl, bel_alloc _ _⟩
theorem isRight_2 (pl nn : Int) (w : World) (b : Bool) (hb : (rnB pl nn 2000) = b) :
 Calls prog 249 #[.iface 292 (.agg #[.int .i64 pl, .int .i64 nn])] w fun e w' => e = .returned (.bool b) /\ Below w.heap.size w w' := by
 have t1 := ta_2_1
 have t2 := ta_2_2
 cases hR : rnB pl nn 2000
 ·skip
  obtain rfl := eqb false hb (by simp [hR]); clear hb
  go_enter func249, ntmps249
  go_wp2_with (first | (go_at_call 256; refine (isRun_any _ _ _ _ (by decide) _ (by first | exact hR)).mono ?_; rintro e wx ⟨rfl, rfl⟩))
  go_ret
  exact ⟨rfl, bel_alloc _ _⟩
 skip
 obtain rfl := eqb true hb (by simp [hR]); clear hb
 go_enter func249, ntmps249
 go_wp2_with (first | (go_at_call 256; refine (isRun_any _ _ _ _ (by decide) _ (by first | exact hR)).mono ?_; rintro e wx ⟨rfl, rfl⟩))
 go_ret
 exact ⟨rfl, bel_alloc _ _⟩
theorem isRight_3 (pl nn : Int) (w : World) (b : Bool) (hb : (rnB pl nn 125) = b) :
 Calls prog 249 #[.iface 293 (.agg #[.int .i64 pl, .int .i64 nn])] w fun e w' => e = .returned (.bool b) /\ Below w.heap.size w w' := by
 have t1 := ta_3_1
 have t2 := ta_3_2
 have t3 := ta_3_3
 cases hR : rnB pl nn 125
 ·skip
  obtain rfl := eqb false hb (by simp [hR]); clear hb
  go_enter func249, ntmps249
  go_wp2_with (first | (go_at_call 256; refine (isRun_any _ _ _ _ (by decide) _ (by first | exact hR)).mono ?_; rintro e wx ⟨rfl, rfl⟩))
  go_ret
  exact ⟨rfl, bel_alloc _ _⟩
 skip
 obtain rfl := eqb true hb (by simp [hR]); clear hb
 go_enter func249, ntmps249
 go_wp2_with (first | (go_at_call 256; refine (isRun_any _ _ _ _ (by decide) _ (by first | exact hR)).mono ?_; rintro e wx ⟨rfl, rfl⟩))
 go_ret
 exact ⟨rfl, bel_alloc _ _⟩
theorem isRight_4 (pl nn : Int) (w : World) (b : Bool) (hb : (rnB pl nn 125) = b) :
 Calls prog 249 #[.iface 294 (.agg #[.int .i64 pl, .int .i64 nn])] w fun e w' => e = .returned (.bool b) /\ Below w.heap.size w w' := by
 have t1 := ta_4_1
 have t2 := ta_4_2
 have t3 := ta_4_3
 have t4 := ta_4_4
 cases hR : rnB pl nn 125
 ·skip
  obtain rfl := eqb false hb (by simp [hR]); clear hb
  go_enter func249, ntmps249
  go_wp2_with (first | (go_at_call 256; refine (isRun_any _ _ _ _ (by decide) _ (by first | exact hR)).mono ?_; rintro e wx ⟨rfl, rfl⟩))
  go_ret
  exact ⟨rfl, bel_alloc _ _⟩
 skip
 obtain rfl := eqb true hb (by simp [hR]); clear hb
 go_enter func249, ntmps249
 go_wp2_with (first | (go_at_call 256; refine (isRun_any _ _ _ _ (by decide) _ (by first | exact hR)).mono ?_; rintro e wx ⟨rfl, rfl⟩))
 go_ret
 exact ⟨rfl, bel_alloc _ _⟩
theorem isRight_5 (pl : Int) (x : Bool) (w : World) (b : Bool) (hb : (inB pl 0 65535) = b) :
 Calls prog 249 #[.iface 296 (.agg #[.int .i64 pl, .bool x])] w fun e w' => e = .returned (.bool b) /\ Below w.heap.size w w' := by
 have t1 := ta_5_1
 have t2 := ta_5_2
 have t3 := ta_5_3
 have t4 := ta_5_4
 have t5 := ta_5_5
 cases hP : inB pl 0 65535
 ·skip
  obtain rfl := eqb false hb (by simp [hP]); clear hb
  go_enter func249, ntmps249
  go_wp2_with (first | (go_at_call 161; refine (isWord_any _ _ _ (by first | exact hP)).mono ?_; rintro e wx ⟨rfl, rfl⟩))
  go_ret
  exact ⟨rfl, bel_alloc _ _⟩
 skip
 obtain rfl := eqb true hb (by simp [hP]); clear hb
 go_enter func249, ntmps249
 go_wp2_with (first | (go_at_call 161; refine (isWord_any _ _ _ (by first | exact hP)).mono ?_; rintro e wx ⟨rfl, rfl⟩))
 go_ret
 exact ⟨rfl, bel_alloc _ _⟩
theorem isRight_6 (pl x : Int) (w : World) (b : Bool) (hb : (inB pl 0 65535 && inB x 0 65535) = b) :
 Calls prog 249 #[.iface 298 (.agg #[.int .i64 pl, .int .i64 x])] w fun e w' => e = .returned (.bool b) /\ Below w.heap.size w w' := by
 have t1 := ta_6_1
 have t2 := ta_6_2
 have t3 := ta_6_3
 have t4 := ta_6_4
 have t5 := ta_6_5
 have t6 := ta_6_6
 cases hP : inB pl 0 65535
 ·skip
  obtain rfl := eqb false hb (by simp [hP]); clear hb
  go_enter func249, ntmps249
  go_wp2_with (first | (go_at_call 161; refine (isWord_any _ _ _ (by first | exact hP)).mono ?_; rintro e wx ⟨rfl, rfl⟩))
  go_ret
  exact ⟨rfl, bel_alloc _ _⟩
 skip
 cases hX : inB x 0 65535
 ·skip
  obtain rfl := eqb false hb (by simp [hP, hX]); clear hb
  go_enter func249, ntmps249
  go_wp2_with (first | (go_at_call 161; refine (isWord_any _ _ _ (by first | exact hP | exact hX)).mono ?_; rintro e wx ⟨rfl, rfl⟩))
  go_ret
  exact ⟨rfl, bel_alloc _ _⟩
 skip
 obtain rfl := eqb true hb (by simp [hP, hX]); clear hb
 go_enter func249, ntmps249
 go_wp2_with (first | (go_at_call 161; refine (isWord_any _ _ _ (by first | exact hP | exact hX)).mono ?_; rintro e wx ⟨rfl, rfl⟩))
 go_ret
 exact ⟨rfl, bel_alloc _ _⟩
theorem isRight_15 (pl : Int) (a2 : Option Addr) (l2 c2 : Nat) (w : World) (b : Bool) (hb : (rnB pl (l2 : Int) 1968) = b) :
 Calls prog 249 #[.iface 300 (.agg #[.int .i64 pl, .slice a2 l2 c2])] w fun e w' => e = .returned (.bool b) /\ Below w.heap.size w w' := by
 have t1 := ta_15_1
 have t2 := ta_15_2
 have t3 := ta_15_3
 have t4 := ta_15_4
 have t5 := ta_15_5
 have t6 := ta_15_6
 have t15 := ta_15_15
 cases hR : rnB pl (l2 : Int) 1968
 ·skip
  obtain rfl := eqb false hb (by simp [hR]); clear hb
  go_enter func249, ntmps249
  go_wp2_with (first | (go_at_call 256; refine (isRun_any _ _ _ _ (by decide) _ (by first | exact hR)).mono ?_; rintro e wx ⟨rfl, rfl⟩))
  go_ret
  exact ⟨rfl, bel_alloc _ _⟩
 skip
 obtain rfl := eqb true hb (by simp [hR]); clear hb
 go_enter func249, ntmps249
 go_wp2_with (first | (go_at_call 256; refine (isRun_any _ _ _ _ (by decide) _ (by first | exact hR)).mono ?_; rintro e wx ⟨rfl, rfl⟩))
 go_ret
 exact ⟨rfl, bel_alloc _ _⟩
theorem isRight_16 (pl : Int) (a1 : Option Addr) (l1 c1 : Nat) (ws : List Int) (w : World) (h1 : l1 = ws.length) (s1 : SlI w a1 ws) (hl1 : ws.length <= 2000000) (b : Bool) (hb : (rnB pl (l1 : Int) 123 && allW ws) = b) :
 Calls prog 249 #[.iface 302 (.agg #[.int .i64 pl, .slice a1 l1 c1])] w fun e w' => e = .returned (.bool b) /\ Below w.heap.size w w' := by
 have t1 := ta_16_1
 have t2 := ta_16_2
 have t3 := ta_16_3
 have t4 := ta_16_4
 have t5 := ta_16_5
 have t6 := ta_16_6
 have t15 := ta_16_15
 have t16 := ta_16_16
 have H1 : Hid (l1 = ws.length) := h1
 have S1 : Hid (SlI (w.alloc (.cells #[.int .i64 pl, .slice a1 l1 c1] 302)) a1 ws) := s1.below (bel_alloc _ _)
 clear h1 s1
 cases hR : rnB pl (l1 : Int) 123
 ·skip
  obtain rfl := eqb false hb (by simp [hR]); clear hb
  go_enter func249, ntmps249
  go_wp2_with (first | (go_at_call 256; refine (isRun_any _ _ _ _ (by decide) _ (by first | exact hR)).mono ?_; rintro e wx ⟨rfl, rfl⟩))
  go_ret
  exact ⟨rfl, bel_alloc _ _⟩
 skip
 cases hW : allW ws
 ·skip
  obtain rfl := eqb false hb (by simp [hR, hW]); clear hb
  go_enter func249, ntmps249
  go_wp2_with (first | (go_at_call 256; refine (isRun_any _ _ _ _ (by decide) _ (by first | exact hR)).mono ?_; rintro e wx ⟨rfl, rfl⟩) | (go_at_call 225; refine (areWords_any _ _ _ ws _ H1.out S1.out hl1 _ hW).mono ?_; rintro e wx ⟨rfl, rfl⟩))
  go_ret
  exact ⟨rfl, bel_alloc _ _⟩
 skip
 obtain rfl := eqb true hb (by simp [hR, hW]); clear hb
 go_enter func249, ntmps249
 go_wp2_with (first | (go_at_call 256; refine (isRun_any _ _ _ _ (by decide) _ (by first | exact hR)).mono ?_; rintro e wx ⟨rfl, rfl⟩) | (go_at_call 225; refine (areWords_any _ _ _ ws _ H1.out S1.out hl1 _ hW).mono ?_; rintro e wx ⟨rfl, rfl⟩))
 go_ret
 exact ⟨rfl, bel_alloc _ _⟩
theorem isRight_22 (pl x y : Int) (w : World) (b : Bool) (hb : (inB pl 0 65535 && (inB x 0 65535 && inB y 0 65535)) = b) :
 Calls prog 249 #[.iface 304 (.agg #[.int .i64 pl, .int .i64 x, .int .i64 y])] w fun e w' => e = .returned (.bool b) /\ Below w.heap.size w w' := by
 have t1 := ta_22_1
 have t2 := ta_22_2
 have t3 := ta_22_3
 have t4 := ta_22_4
 have t5 := ta_22_5
 have t6 := ta_22_6
 have t15 := ta_22_15
 have t16 := ta_22_16
 have t22 := ta_22_22
 cases hP : inB pl 0 65535
 ·skip
  obtain rfl := eqb false hb (by simp [hP]); clear hb
  go_enter func249, ntmps249
  go_wp2_with (first | (go_at_call 161; refine (isWord_any _ _ _ (by first | exact hP)).mono ?_; rintro e wx ⟨rfl, rfl⟩))
  go_ret
  exact ⟨rfl, bel_alloc _ _⟩
 skip
 cases hX : inB x 0 65535
 ·skip
  obtain rfl := eqb false hb (by simp [hP, hX]); clear hb
  go_enter func249, ntmps249
  go_wp2_with (first | (go_at_call 161; refine (isWord_any _ _ _ (by first | exact hP | exact hX)).mono ?_; rintro e wx ⟨rfl, rfl⟩))
  go_ret
  exact ⟨rfl, bel_alloc _ _⟩
 skip
 cases hY : inB y 0 65535
 ·skip
  obtain rfl := eqb false hb (by simp [hP, hX, hY]); clear hb
  go_enter func249, ntmps249
  go_wp2_with (first | (go_at_call 161; refine (isWord_any _ _ _ (by first | exact hP | exact hX | exact hY)).mono ?_; rintro e wx ⟨rfl, rfl⟩))
  go_ret
  exact ⟨rfl, bel_alloc _ _⟩
 skip
 obtain rfl := eqb true hb (by simp [hP, hX, hY]); clear hb
 go_enter func249, ntmps249
 go_wp2_with (first | (go_at_call 161; refine (isWord_any _ _ _ (by first | exact hP | exact hX | exact hY)).mono ?_; rintro e wx ⟨rfl, rfl⟩))
 go_ret
 exact ⟨rfl, bel_alloc _ _⟩
theorem isRight_23 (pl nn wa : Int) (a1 : Option Addr) (l1 c1 : Nat) (ws : List Int) (w : World) (h1 : l1 = ws.length) (s1 : SlI w a1 ws) (hl1 : ws.length <= 2000000) (b : Bool) (hb : (rnB pl nn 125 && (rnB wa (l1 : Int) 121 && allW ws)) = b) :
 Calls prog 249 #[.iface 306 (.agg #[.int .i64 pl, .int .i64 nn, .int .i64 wa, .slice a1 l1 c1])] w fun e w' => e = .returned (.bool b) /\ Below w.heap.size w w' := by
 have t1 := ta_23_1
 have t2 := ta_23_2
 have t3 := ta_23_3
 have t4 := ta_23_4
 have t5 := ta_23_5
 have t6 := ta_23_6
 have t15 := ta_23_15
 have t16 := ta_23_16
 have t22 := ta_23_22
 have t23 := ta_23_23
 have H1 : Hid (l1 = ws.length) := h1
 have S1 : Hid (SlI (w.alloc (.cells #[.int .i64 pl, .int .i64 nn, .int .i64 wa, .slice a1 l1 c1] 306)) a1 ws) := s1.below (bel_alloc _ _)
 clear h1 s1
 cases hR : rnB pl nn 125
 ·skip
  obtain rfl := eqb false hb (by simp [hR]); clear hb
  go_enter func249, ntmps249
  go_wp2_with (first | (go_at_call 256; refine (isRun_any _ _ _ _ (by decide) _ (by first | exact hR)).mono ?_; rintro e wx ⟨rfl, rfl⟩))
  go_ret
  exact ⟨rfl, bel_alloc _ _⟩
 skip
 cases hQ : rnB wa (l1 : Int) 121
 ·skip
  obtain rfl := eqb false hb (by simp [hR, hQ]); clear hb
  go_enter func249, ntmps249
  go_wp2_with (first | (go_at_call 256; refine (isRun_any _ _ _ _ (by decide) _ (by first | exact hR | exact hQ)).mono ?_; rintro e wx ⟨rfl, rfl⟩))
  go_ret
  exact ⟨rfl, bel_alloc _ _⟩
 skip
 cases hW : allW ws
 ·skip
  obtain rfl := eqb false hb (by simp [hR, hQ, hW]); clear hb
  go_enter func249, ntmps249
  go_wp2_with (first | (go_at_call 256; refine (isRun_any _ _ _ _ (by decide) _ (by first | exact hR | exact hQ)).mono ?_; rintro e wx ⟨rfl, rfl⟩) | (go_at_call 225; refine (areWords_any _ _ _ ws _ H1.out S1.out hl1 _ hW).mono ?_; rintro e wx ⟨rfl, rfl⟩))
  go_ret
  exact ⟨rfl, bel_alloc _ _⟩
 skip
 obtain rfl := eqb true hb (by simp [hR, hQ, hW]); clear hb
 go_enter func249, ntmps249
 go_wp2_with (first | (go_at_call 256; refine (isRun_any _ _ _ _ (by decide) _ (by first | exact hR | exact hQ)).mono ?_; rintro e wx ⟨rfl, rfl⟩) | (go_at_call 225; refine (areWords_any _ _ _ ws _ H1.out S1.out hl1 _ hW).mono ?_; rintro e wx ⟨rfl, rfl⟩))
 go_ret
 exact ⟨rfl, bel_alloc _ _⟩
theorem isRight_n (w : World) : Calls prog 249 #[.nilIface] w fun e w' => e = .returned (.bool false) /\ Below w.heap.size w w' := by
 have t1 := ta_n_1
 have t2 := ta_n_2
 have t3 := ta_n_3
 have t4 := ta_n_4
 have t5 := ta_n_5
 have t6 := ta_n_6
 have t15 := ta_n_15
 have t16 := ta_n_16
 have t22 := ta_n_22
 have t23 := ta_n_23
 go_enter func249, ntmps249
 go_wp2
 go_ret
 exact ⟨rfl, Below.refl _ _⟩
end Go.Proofs.YtplaoagcedgdfaaGreat

/- A block of thirteen cells that is written anew. -/
import Derived.Test.YtimgohnnapaafaaPort4
namespace Go.Proofs.Ytimgohnnapaafaa
open Go.RowKit

set_option linter.unusedVariables false

theorem bel_setP {B : Nat} {W w : World} {g k : Nat} {v : Value} (hb : Below B W w) (hg : B ≤ g) : Below B W (w.setCell ⟨g, k, none⟩ v) := hb.setCell (p := ⟨g, k, none⟩) hg v

def set13 (w : World) (g : Nat) (u0 u1 u2 u3 u4 u5 u6 u7 u8 u9 u10 u11 u12 : Value) : World :=
  (((((((((((((w.setCell ⟨g, 0, none⟩ u0).setCell ⟨g, 1, none⟩ u1).setCell ⟨g, 2, none⟩ u2).setCell ⟨g, 3, none⟩ u3).setCell ⟨g, 4, none⟩ u4).setCell ⟨g, 5, none⟩ u5).setCell ⟨g, 6, none⟩ u6).setCell ⟨g, 7, none⟩ u7).setCell ⟨g, 8, none⟩ u8).setCell ⟨g, 9, none⟩ u9).setCell ⟨g, 10, none⟩ u10).setCell ⟨g, 11, none⟩ u11).setCell ⟨g, 12, none⟩ u12)

theorem Blk.setA {w : World} {g : Nat} {t : TypeId} {cs cs' : Array Value} {k : Nat} {y : Value} (h : Blk w g t cs) (e : cs.setIfInBounds k y = cs') : Blk (w.setCell ⟨g, k, none⟩ y) g t cs' := by
  subst e; exact h.set k y

theorem Blk.set13 {w : World} {g : Nat} {t : TypeId} {v0 v1 v2 v3 v4 v5 v6 v7 v8 v9 v10 v11 v12 : Value} (u0 u1 u2 u3 u4 u5 u6 u7 u8 u9 u10 u11 u12 : Value) (h : Blk w g t #[v0, v1, v2, v3, v4, v5, v6, v7, v8, v9, v10, v11, v12]) :
    Blk (Go.Proofs.Ytimgohnnapaafaa.set13 w g u0 u1 u2 u3 u4 u5 u6 u7 u8 u9 u10 u11 u12) g t #[u0, u1, u2, u3, u4, u5, u6, u7, u8, u9, u10, u11, u12] := by
  have h0 : Blk _ g t #[u0, v1, v2, v3, v4, v5, v6, v7, v8, v9, v10, v11, v12] := Blk.setA (k := 0) (y := u0) h rfl
  have h1 : Blk _ g t #[u0, u1, v2, v3, v4, v5, v6, v7, v8, v9, v10, v11, v12] := Blk.setA (k := 1) (y := u1) h0 rfl
  have h2 : Blk _ g t #[u0, u1, u2, v3, v4, v5, v6, v7, v8, v9, v10, v11, v12] := Blk.setA (k := 2) (y := u2) h1 rfl
  have h3 : Blk _ g t #[u0, u1, u2, u3, v4, v5, v6, v7, v8, v9, v10, v11, v12] := Blk.setA (k := 3) (y := u3) h2 rfl
  have h4 : Blk _ g t #[u0, u1, u2, u3, u4, v5, v6, v7, v8, v9, v10, v11, v12] := Blk.setA (k := 4) (y := u4) h3 rfl
  have h5 : Blk _ g t #[u0, u1, u2, u3, u4, u5, v6, v7, v8, v9, v10, v11, v12] := Blk.setA (k := 5) (y := u5) h4 rfl
  have h6 : Blk _ g t #[u0, u1, u2, u3, u4, u5, u6, v7, v8, v9, v10, v11, v12] := Blk.setA (k := 6) (y := u6) h5 rfl
  have h7 : Blk _ g t #[u0, u1, u2, u3, u4, u5, u6, u7, v8, v9, v10, v11, v12] := Blk.setA (k := 7) (y := u7) h6 rfl
  have h8 : Blk _ g t #[u0, u1, u2, u3, u4, u5, u6, u7, u8, v9, v10, v11, v12] := Blk.setA (k := 8) (y := u8) h7 rfl
  have h9 : Blk _ g t #[u0, u1, u2, u3, u4, u5, u6, u7, u8, u9, v10, v11, v12] := Blk.setA (k := 9) (y := u9) h8 rfl
  have h10 : Blk _ g t #[u0, u1, u2, u3, u4, u5, u6, u7, u8, u9, u10, v11, v12] := Blk.setA (k := 10) (y := u10) h9 rfl
  have h11 : Blk _ g t #[u0, u1, u2, u3, u4, u5, u6, u7, u8, u9, u10, u11, v12] := Blk.setA (k := 11) (y := u11) h10 rfl
  exact Blk.setA (k := 12) (y := u12) h11 rfl

theorem bel_set13 {B : Nat} {W w : World} {g : Nat} {u0 u1 u2 u3 u4 u5 u6 u7 u8 u9 u10 u11 u12 : Value} (hb : Below B W w) (hg : B ≤ g) : Below B W (set13 w g u0 u1 u2 u3 u4 u5 u6 u7 u8 u9 u10 u11 u12) :=
  bel_setP (bel_setP (bel_setP (bel_setP (bel_setP (bel_setP (bel_setP (bel_setP (bel_setP (bel_setP (bel_setP (bel_setP (bel_setP hb hg) hg) hg) hg) hg) hg) hg) hg) hg) hg) hg) hg) hg

end Go.Proofs.Ytimgohnnapaafaa

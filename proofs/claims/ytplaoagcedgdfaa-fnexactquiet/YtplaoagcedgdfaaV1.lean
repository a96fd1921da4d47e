/- Texts that the proof needs, joined: Bys0 Bys Marks Box StR ArgS Ios Bos Req1 Cpy El0 Cl1 Cl2 Mid Mid2 Wr1 Resp1 Tr0 Tr1. -/
import Derived.Test.YtplaoagcedgdfaaChecked
import Derived.WalkKit
import Derived.Deep.OwnRows
import Derived.Deep.QuietTactic
import Derived.BigQuiet
import Derived.Lib.SmallJoins
import Derived.Laws.MakeOwn
import Derived.ProofKit
import Derived.OpenShut
import Derived.Deep.Grids
import Derived.Deep.Cut
import Derived.Deep.CutRange
import Derived.Deep.DeepCutAuto
import Derived.WideMake
import Derived.Carry
import Derived.Laws.CopyOwn
import Derived.Deep.RegionHeld3
import Derived.Deep.MidRow
set_option linter.unusedVariables false
set_option linter.unusedSimpArgs false
set_option maxHeartbeats 4000000
set_option maxRecDepth 20000
namespace Go.Proofs.Ytplaoagcedgdfaa
open Go.RowKit
def Sl (w : World) (a : Option Addr) (zs : List Int) : Prop :=
 zs = [] \/ ∃ b off, a = some ⟨b, off, none⟩ /\ b < w.heap.size /\ ∀ i, i < zs.length -> w.cell? ⟨b, off + i, none⟩ = some (.int .u8 (zs.getD i 0))
theorem bel_drewN {B : Nat} {a w : World} (h : Below B a w) (n : Nat) : Below B a (w.drewN n) := h.trans ⟨rfl, rfl, rfl, Nat.le_refl _, fun _ _ => rfl⟩
theorem ret_int {k : IntKind} {a b : Int} (h : a = b) : Ending.returned (.int k a) = .returned (.int k b) := by rw [h]
def Own (w : World) (base : Nat) (v : Value) (zs : List Int) : Prop := w.ownsRow base 5 1 v zs.length (zs.map (Value.int .u8))
theorem grown_below {w w' : World} (hb : Below w.heap.size w w') (row : Option Nat) : w.grownBy w' row := ⟨hb.os, hb.tape, hb.output, hb.size, fun k hk _ => hb.block k hk⟩
end Go.Proofs.Ytplaoagcedgdfaa
namespace Go.Proofs.Ytplaoagcedgdfaa
open Go.RowKit
end Go.Proofs.Ytplaoagcedgdfaa
namespace Go.Proofs.Ytplaoagcedgdfaa
open Go.RowKit
def marks (n : Nat) : List Int := (List.range n).map (fun i : Nat => ((i : Int) + 1) % 256)
def Marked (w wr : World) (g cap k : Nat) : Prop :=
 w.grownBy wr (some g) /\ ∃ cur, wr.heap[g]? = some (.cells cur 5 (0, 0)) /\ cur.size = cap /\ ∀ i, i < k -> cur[i]? = some (.int .u8 (((i : Int) + 1) % 256))
theorem drew_refl (w : World) (n : Nat) : Below w.heap.size w (w.drewN n) := bel_drewN (Below.refl _ _) n
theorem hide {p : Prop} (h : p) : Hid p := h
end Go.Proofs.Ytplaoagcedgdfaa
namespace Go.Proofs.Ytplaoagcedgdfaa
open Go.RowKit
def Box (w : World) (g : Nat) (t : TypeId) (v : Value) : Prop := w.heap[g]? = some (.cells #[v] t (0, 0))
end Go.Proofs.Ytplaoagcedgdfaa
namespace Go.Proofs.Ytplaoagcedgdfaa
open Go.RowKit Go.Joins
theorem idx_inj {s i k j l : Nat} (hj : j < s) (hl : l < s) (h : i * s + j = k * s + l) : i = k /\ j = l := by
 have e1 : (i * s + j) / s = i := by rw [Nat.mul_comm, Nat.mul_add_div (by omega), Nat.div_eq_of_lt hj, Nat.add_zero]
 have e2 : (k * s + l) / s = k := by rw [Nat.mul_comm, Nat.mul_add_div (by omega), Nat.div_eq_of_lt hl, Nat.add_zero]
 have : i = k := by rw [<- e1, h, e2]
 subst this
 exact ⟨rfl, by omega⟩
def CsAt (w : World) (g o : Nat) (vs : List Value) : Prop := ∀ j, j < vs.length -> w.cell? ⟨g, o + j, none⟩ = vs[j]?
def RowS (w : World) (g : Nat) (t : TypeId) (s n : Nat) (F : Nat -> List Value) : Prop :=
 ∃ cs, w.heap[g]? = some (.cells cs t (0, 0)) /\ cs.size = n * s /\ ∀ k, k < n -> ∀ j, j < s -> cs[k * s + j]? = (F k)[j]?
def setL (w : World) (g : Nat) : Nat -> List Value -> World
 | _, [] => w
 | o, v :: vs => setL (w.setCell ⟨g, o, none⟩ v) g (o + 1) vs
theorem setL_block {g : Nat} {t : TypeId} {fr : Nat × Nat} : ∀ (vs : List Value) (w : World) (o : Nat) (cs : Array Value), w.heap[g]? = some (.cells cs t fr) ->
 ∃ cs', (setL w g o vs).heap[g]? = some (.cells cs' t fr) /\ cs'.size = cs.size /\ ∀ i, i < cs.size -> cs'[i]? = if o <= i /\ i < o + vs.length then vs[i - o]? else cs[i]?
 | [], w, o, cs, h => ⟨cs, h, rfl, fun i _ => by rw [if_neg (by simp)]⟩
 | v :: vs, w, o, cs, h => by
  obtain ⟨cs', h1, h2, h3⟩ := setL_block vs (w.setCell ⟨g, o, none⟩ v) (o + 1) (cs.setIfInBounds o v) (block_setCell h v)
  refine ⟨cs', h1, by simpa using h2, fun i hi => ?_⟩
  rw [h3 i (by simpa using hi)]
  by_cases e : i = o
  ·subst e
   rw [if_neg (by omega), if_pos (by simp)]
   simp [hi]
  by_cases e2 : o <= i /\ i < o + (v :: vs).length
  ·rw [if_pos (by simp at e2; omega), if_pos e2]
   obtain ⟨d, rfl⟩ : ∃ d, i = o + 1 + d := ⟨i - (o + 1), by omega⟩
   rw [show o + 1 + d - (o + 1) = d by omega, show o + 1 + d - o = d + 1 by omega]
   simp
  rw [if_neg (by simp at e2; omega), if_neg e2, Array.getElem?_setIfInBounds_ne (by omega)]
theorem setL_below {B g : Nat} {w0 : World} (hg : B <= g) : ∀ (vs : List Value) (w : World) (o : Nat), Below B w0 w -> Below B w0 (setL w g o vs)
 | [], _, _, h => h
 | v :: vs, w, o, h => setL_below hg vs (w.setCell ⟨g, o, none⟩ v) (o + 1) (h.setCell hg v)
theorem RowS.lt {w : World} {g : Nat} {t : TypeId} {s n : Nat} {F : Nat -> List Value} (h : RowS w g t s n F) : g < w.heap.size := by
 obtain ⟨cs, h, _⟩ := h
 exact (Array.getElem?_eq_some_iff.1 h).1
theorem RowS.cell {w : World} {g : Nat} {t : TypeId} {s n : Nat} {F : Nat -> List Value} (h : RowS w g t s n F) {k j : Nat} (hk : k < n) (hj : j < s) : w.cell? ⟨g, k * s + j, none⟩ = (F k)[j]? := by
 obtain ⟨cs, h1, _, h3⟩ := h
 rw [cell_of_block h1]
 exact h3 k hk j hj
theorem RowS.fro {w : World} {g : Nat} {t : TypeId} {s n : Nat} {F : Nat -> List Value} (h : RowS w g t s n F) (o : Nat) : w.frozen? ⟨g, o, none⟩ = false := by
 obtain ⟨cs, h1, _⟩ := h
 exact unfrozen_of_block h1 o
theorem RowS.below {w w' : World} {g : Nat} {t : TypeId} {s n : Nat} {F : Nat -> List Value} (h : RowS w g t s n F) (hb : Below w.heap.size w w') : RowS w' g t s n F := by
 have hl := h.lt
 obtain ⟨cs, h1, h2, h3⟩ := h
 exact ⟨cs, by rw [hb.block _ hl]; exact h1, h2, h3⟩
theorem RowS.congr {w : World} {g : Nat} {t : TypeId} {s n : Nat} {F G : Nat -> List Value} (h : RowS w g t s n F) (he : ∀ k, k < n -> F k = G k) : RowS w g t s n G := by
 obtain ⟨cs, h1, h2, h3⟩ := h
 exact ⟨cs, h1, h2, fun k hk j hj => by rw [<- he k hk]; exact h3 k hk j hj⟩
theorem RowS.set {w : World} {g : Nat} {t : TypeId} {s n : Nat} {F : Nat -> List Value} (h : RowS w g t s n F) {k : Nat} (hk : k < n) (vs : List Value) (hv : vs.length = s) : RowS (setL w g (k * s) vs) g t s n (fun i => if i = k then vs else F i) := by
 obtain ⟨cs, h1, h2, h3⟩ := h
 obtain ⟨cs', g1, g2, g3⟩ := setL_block vs w (k * s) cs h1
 refine ⟨cs', g1, by omega, fun i hi j hj => ?_⟩
 have hin : i * s + j < cs.size := by
  rw [h2]
  have : (i + 1) * s <= n * s := Nat.mul_le_mul_right s hi
  rw [Nat.add_mul, Nat.one_mul] at this
  omega
 rw [g3 _ hin]
 by_cases e : i = k
 ·subst e
  rw [if_pos (by omega), Nat.add_sub_cancel_left]
  simp
 rw [if_neg]
 ·rw [h3 i hi j hj]
  simp [e]
 intro ⟨e1, e2⟩
 obtain ⟨d, hd⟩ : ∃ d, i * s + j = k * s + d := ⟨i * s + j - k * s, by omega⟩
 exact e (idx_inj hj (by omega) hd).1
theorem run_make_st {P : Program} (t e : TypeId) (z : Value) (s bytes : Nat) (ht : P.underlying t = some (.slice e)) (hinfo : (P.info? e).map (fun i => (i.zero, i.size, i.bytes)) = some (some z, s, bytes))
 (kl kc : IntKind) (n : Nat) (hbytes : bytes * n <= 281474976710656) (h63 : n <= 9223372036854775807) (w : World) :
 (Instr.makeSlice t (.int kl (n : Int)) (.int kc (n : Int))).run P w = .ok (.slice (some ⟨w.heap.size, 0, none⟩) n n) (w.alloc (.cells (madeCells z.cells (n * s)) e)) := by
 obtain ⟨i, hi, hzz⟩ := Option.map_eq_some_iff.1 hinfo
 simp only [Prod.mk.injEq] at hzz
 obtain ⟨hz, hs, hb⟩ := hzz
 have hb' : (i.bytes : Int) * (n : Int) <= 281474976710656 := by
  have h : ((i.bytes * n : Nat) : Int) <= 281474976710656 := by rw [hb]; omega
  rwa [Int.natCast_mul] at h
 have hr := run_make (P := P) w t e i z ht hi hz kl kc n n (by omega) (Int.le_refl _) hb' (by omega)
 simp only [Int.toNat_natCast, hs] at hr
 exact hr
theorem RowS.made (w : World) (zs : List Value) (n : Nat) (t : TypeId) (h0 : 0 < zs.length) : RowS (w.alloc (.cells (madeCells zs.toArray (n * zs.length)) t)) w.heap.size t zs.length n (fun _ => zs) := by
 refine ⟨madeCells zs.toArray (n * zs.length), (by show (w.heap.push _)[w.heap.size]? = _; simp), size_madeCells _ _, fun k hk j hj => ?_⟩
 have hin : k * zs.length + j < n * zs.length := by
  have : (k + 1) * zs.length <= n * zs.length := Nat.mul_le_mul_right _ hk
  rw [Nat.add_mul, Nat.one_mul] at this
  omega
 have hm : (k * zs.length + j) % zs.length = j := by rw [Nat.add_comm, Nat.add_mul_mod_self_right, Nat.mod_eq_of_lt hj]
 simp [madeCells, hin, hm, hj]
def SlS (w : World) (a : Option Addr) (s n : Nat) (F : Nat -> List Value) : Prop :=
 n = 0 \/ ∃ b off, a = some ⟨b, off, none⟩ /\ b < w.heap.size /\ ∀ k, k < n -> ∀ j, j < s -> w.cell? ⟨b, off + k * s + j, none⟩ = (F k)[j]?
theorem SlS.below {w w' : World} {a : Option Addr} {s n : Nat} {F : Nat -> List Value} (h : SlS w a s n F) (hb : Below w.heap.size w w') : SlS w' a s n F := by
 rcases h with h | ⟨b, off, ha, hlt, hc⟩
 ·exact .inl h
 exact .inr ⟨b, off, ha, by have := hb.size; omega, fun k hk j hj => by rw [hb.cell (p := ⟨b, off + k * s + j, none⟩) hlt]; exact hc k hk j hj⟩
theorem SlS.at {w : World} {a : Option Addr} {s n : Nat} {F : Nat -> List Value} (h : SlS w a s n F) {k : Nat} (hk : k < n) : ∃ b off, a = some ⟨b, off, none⟩ /\ b < w.heap.size /\ ∀ j, j < s -> w.cell? ⟨b, off + k * s + j, none⟩ = (F k)[j]? := by
 rcases h with h | ⟨b, off, ha, hlt, hc⟩
 ·omega
 exact ⟨b, off, ha, hlt, hc k hk⟩
end Go.Proofs.Ytplaoagcedgdfaa
namespace Go.Proofs.Ytplaoagcedgdfaa
open Go.ChangeShapes Go.WideShapes Go.ChangeAt Go.RowKit Go.Deep Go.Joins
def InBys (w : World) (a : Option Addr) (len : Nat) (zs : List Int) : Prop := zs.length = len /\ len <= maxLen /\ Sl w a zs /\ ∀ n ∈ zs, 0 <= n /\ n <= 255
def SlB (w : World) (a : Option Addr) (zs : List Bool) : Prop :=
 zs = [] \/ ∃ b off, a = some ⟨b, off, none⟩ /\ b < w.heap.size /\ ∀ i, i < zs.length -> w.cell? ⟨b, off + i, none⟩ = some (.bool (zs.getD i false))
def InBos (w : World) (a : Option Addr) (len : Nat) (zs : List Bool) : Prop := zs.length = len /\ SlB w a zs
section
variable {H : Type} {enc : TypeId × Value -> H} {P : Program} {w : World} {base : Nat} {held : Bool}
end
end Go.Proofs.Ytplaoagcedgdfaa
namespace Go.Proofs.Ytplaoagcedgdfaa
open Go.RowKit
def SlI (w : World) (a : Option Addr) (zs : List Int) : Prop :=
 zs = [] \/ ∃ b off, a = some ⟨b, off, none⟩ /\ b < w.heap.size /\ ∀ i, i < zs.length -> w.cell? ⟨b, off + i, none⟩ = some (.int .i64 (zs.getD i 0))
theorem SlI.below {w w' : World} {a : Option Addr} {zs : List Int} (h : SlI w a zs) (hb : Below w.heap.size w w') : SlI w' a zs := by
 rcases h with h | ⟨b, off, ha, hlt, hc⟩
 ·exact .inl h
 exact .inr ⟨b, off, ha, by have := hb.size; omega, fun i hi => by rw [hb.cell (p := ⟨b, off + i, none⟩) hlt]; exact hc i hi⟩
theorem cell_atI {w : World} {a : Option Addr} {zs : List Int} (hs : SlI w a zs) {k : Nat} (hlt : k < zs.length) : ∃ b off, a = some ⟨b, off, none⟩ /\ b < w.heap.size /\ w.cell? ⟨b, off + k, none⟩ = some (.int .i64 (zs.getD k 0)) := by
 rcases hs with hs | ⟨b, off, h1, h2, h3⟩
 ·rw [hs] at hlt; simp at hlt
 exact ⟨b, off, h1, h2, h3 k hlt⟩
def OwnI (w : World) (base : Nat) (v : Value) (zs : List Int) : Prop := w.ownsRow base 3 1 v zs.length (zs.map (Value.int .i64))
theorem OwnI.sl {w : World} {base n cap : Nat} {a : Option Addr} {zs : List Int} (h : OwnI w base (.slice a n cap) zs) : n = zs.length /\ SlI w a zs := by
 obtain ⟨_, h2⟩ := h
 rcases h2 with ⟨h2, h3⟩ | ⟨g, cap', cur, hv, _, hh, hle, _, hs, ht⟩
 ·have e : zs = [] := List.eq_nil_of_length_eq_zero h3
  simp only [Value.slice.injEq] at h2
  exact ⟨by rw [h3]; exact h2.2.1, .inl e⟩
 simp only [Value.slice.injEq] at hv
 refine ⟨hv.2.1, .inr ⟨g, 0, hv.1, (Array.getElem?_eq_some_iff.1 hh).1, fun i hi => ?_⟩⟩
 have e1 : cur.toList[i]? = some (.int .i64 (zs.getD i 0)) := by
  have e2 : (cur.toList.take (zs.length * 1))[i]? = (zs.map (Value.int .i64))[i]? := by rw [ht]
  rw [List.getElem?_take, if_pos (by omega)] at e2
  rw [e2]
  simp [hi]
 simp only [World.cell?, hh, Nat.zero_add]
 rw [Array.getElem?_toList] at e1
 exact e1
theorem OwnI.kept {w w' : World} {base : Nat} {v : Value} {row : Option Nat} {zs : List Int} (h : OwnI w base v zs) (hg : w.grownBy w' row) (hne : v.ownBlock = none \/ v.ownBlock ≠ row) : OwnI w' base v zs := World.ownsRow.kept h hg hne
theorem OwnI.below {w w' : World} {base : Nat} {v : Value} {zs : List Int} (h : OwnI w base v zs) (hb : Below w.heap.size w w') : OwnI w' base v zs := by
 refine h.kept (grown_below hb (some w.heap.size)) ?_
 cases e : v.ownBlock with
 | none => exact .inl rfl
 | some k => exact .inr (fun e2 => by have := (World.ownsRow.lt h k e).2; simp at e2; omega)
theorem OwnI.ofRow {w : World} {base b n : Nat} {zs : List Int} (h : w.rowIs b 3 n (fun i => .int .i64 (zs.getD i 0))) (hn : n = zs.length) (hb : base <= b) (hm : n <= maxLen) : OwnI w base (.slice (some ⟨b, 0, none⟩) n n) zs := by
 subst hn
 obtain ⟨c, hc, hsz, hcell⟩ := h
 refine ⟨by simp, .inr ⟨b, zs.length, c, rfl, hb, hc, Nat.le_refl _, hm, by simpa using hsz, ?_⟩⟩
 apply List.ext_getElem?
 intro i
 by_cases hi : i < zs.length
 ·rw [List.getElem?_take, if_pos (by omega), Array.getElem?_toList, hcell i hi]
  simp [hi]
 rw [List.getElem?_eq_none (by simp; omega), List.getElem?_eq_none (by simp; omega)]
theorem Try.infoI3 : (Try.prog.info? 3).map (fun i => (i.zero, i.size, i.bytes)) = some (some (.int .i64 0), 1, 8) := by kernel_rfl
theorem toIntS_any (a : Option Addr) (n cap : Nat) (zs : List Int) (w : World) (hn : n = zs.length) (hs : SlI w a zs) (hl : zs.length <= 2000000) :
 Calls Try.prog 80 #[.slice a n cap] w fun e w' => e = .returned (.slice (some ⟨w.heap.size, 0, none⟩) n n) /\
  w'.rowIs w.heap.size 3 n (fun i => .int .i64 (zs.getD i 0)) /\ Below w.heap.size w w' := by
 subst hn
 have hmk := run_make_row' (P := Try.prog) 77 3 (.int .i64 0) 8 Try.underlying77 Try.infoI3 rfl .i64 .i64 zs.length (by omega) (by omega)
 go_enter Try.func80, Try.ntmps80
 go_wp2
 clear hmk
 go_loopw [4] (fun i wr => ∃ k : Nat, k <= zs.length /\ i = .int .i64 k /\ wr.rowIs w.heap.size 3 zs.length (fun i => if i < k then .int .i64 (zs.getD i 0) else .int .i64 0) /\ Below w.heap.size w wr) (fun i _ => zs.length - (intOf i).toNat)
 case atStart => exact ⟨0, Nat.zero_le _, rfl, (World.rowIs_made w _ _ _).congr (fun i _ => by simp), (Below.refl _ _).alloc (Nat.le_refl _) _⟩
 case round =>
  obtain ⟨k, hk, rfl, hrow, hb⟩ := hrel
  by_cases hlt : k < zs.length
  ·obtain ⟨b, off, rfl, hb0, hc0⟩ := cell_atI hs hlt
   have hc : wr.cell? ⟨b, off + k, none⟩ = some (.int .i64 (zs.getD k 0)) := by rw [hb.cell (p := ⟨b, off + k, none⟩) hb0]; exact hc0
   have hst := hrow.cell hlt
   simp only [Nat.lt_irrefl, if_false] at hst
   have hfz := hrow.frozen k
   have hi : (k : Int) < (zs.length : Int) := by omega
   have R : Hid ((wr.setCell ⟨w.heap.size, k, none⟩ (.int .i64 (zs.getD k 0))).rowIs w.heap.size 3 zs.length (fun i => if i < k + 1 then .int .i64 (zs.getD i 0) else .int .i64 0)) := by
    refine (hrow.set k _).congr (fun i _ => ?_)
    by_cases e : i = k
    ·subst e; simp
    rw [if_neg e]
    by_cases h : i < k
    ·rw [if_pos h, if_pos (by omega)]
    rw [if_neg h, if_neg (by omega)]
   have B1 : Below w.heap.size w (wr.setCell ⟨w.heap.size, k, none⟩ (.int .i64 (zs.getD k 0))) := hb.setCell (Nat.le_refl _) _
   clear hrow hb hc0 hs
   go_wp2
   go_roundw
   case rel => exact ⟨k + 1, by omega, by go_num, by simpa [hlt] using R.out, by simpa [hlt] using B1⟩
   case measure => simp [intOf]; omega
  have hkk : k = zs.length := by omega
  have R : Hid (wr.rowIs w.heap.size 3 zs.length (fun i => .int .i64 (zs.getD i 0))) := hrow.congr (fun i hi => by rw [if_pos (by omega)])
  clear hrow hs hkk
  go_wp2
  go_ret
  exact ⟨rfl, R.out, hb⟩
theorem eqIntS_true (a a' : Option Addr) (n n' cap cap' : Nat) (zs : List Int) (w : World) (hn : n = zs.length) (hn' : n' = zs.length) (hs : SlI w a zs) (hs' : SlI w a' zs) (hl : zs.length <= 2000000) :
 Calls Try.prog 87 #[.slice a n cap, .slice a' n' cap'] w fun e w' => e = .returned (.bool true) /\ ∃ n, w' = w.drewN n := by
 subst hn hn'
 go_enter Try.func87, Try.ntmps87
 go_wp2
 go_loopw [5] (fun i wr => ∃ k : Nat, k <= zs.length /\ i = .int .i64 k /\ ∃ n, wr = w.drewN n) (fun i _ => zs.length - (intOf i).toNat)
 case atStart => exact ⟨0, Nat.zero_le _, rfl, 0, rfl⟩
 case round =>
  obtain ⟨k, hk, rfl, n, rfl⟩ := hrel
  by_cases hlt : k < zs.length
  ·obtain ⟨b, off, rfl, _, hc⟩ := cell_atI hs hlt
   obtain ⟨b', off', rfl, _, hc'⟩ := cell_atI hs' hlt
   have hi : (k : Int) < (zs.length : Int) := by omega
   clear hs hs'
   go_wp2
   go_quiet (fail)
   go_wp2
   go_roundw
   case rel => exact ⟨k + 1, by omega, by go_num, _, rfl⟩
   case measure => simp [intOf]; omega
  clear hs hs'
  go_wp2
  go_ret
  exact ⟨rfl, _, rfl⟩
def marksI (s n : Nat) : List Int := (List.range n).map (fun i : Nat => (s : Int) + (i : Int))
def MarkedI (s : Nat) (w wr : World) (g cap k : Nat) : Prop :=
 w.grownBy wr (some g) /\ ∃ cur, wr.heap[g]? = some (.cells cur 3 (0, 0)) /\ cur.size = cap /\ ∀ i, i < k -> cur[i]? = some (.int .i64 ((s : Int) + (i : Int)))
end Go.Proofs.Ytplaoagcedgdfaa
namespace Go.Proofs.Ytplaoagcedgdfaa
open Go.RowKit
theorem SlB.below {w w' : World} {a : Option Addr} {zs : List Bool} (h : SlB w a zs) (hb : Below w.heap.size w w') : SlB w' a zs := by
 rcases h with h | ⟨b, off, ha, hlt, hc⟩
 ·exact .inl h
 exact .inr ⟨b, off, ha, by have := hb.size; omega, fun i hi => by rw [hb.cell (p := ⟨b, off + i, none⟩) hlt]; exact hc i hi⟩
theorem cell_atB {w : World} {a : Option Addr} {zs : List Bool} (hs : SlB w a zs) {k : Nat} (hlt : k < zs.length) : ∃ b off, a = some ⟨b, off, none⟩ /\ b < w.heap.size /\ w.cell? ⟨b, off + k, none⟩ = some (.bool (zs.getD k false)) := by
 rcases hs with hs | ⟨b, off, h1, h2, h3⟩
 ·rw [hs] at hlt; simp at hlt
 exact ⟨b, off, h1, h2, h3 k hlt⟩
def OwnB (w : World) (base : Nat) (v : Value) (zs : List Bool) : Prop := w.ownsRow base 4 1 v zs.length (zs.map (Value.bool))
theorem OwnB.sl {w : World} {base n cap : Nat} {a : Option Addr} {zs : List Bool} (h : OwnB w base (.slice a n cap) zs) : n = zs.length /\ SlB w a zs := by
 obtain ⟨_, h2⟩ := h
 rcases h2 with ⟨h2, h3⟩ | ⟨g, cap', cur, hv, _, hh, hle, _, hs, ht⟩
 ·have e : zs = [] := List.eq_nil_of_length_eq_zero h3
  simp only [Value.slice.injEq] at h2
  exact ⟨by rw [h3]; exact h2.2.1, .inl e⟩
 simp only [Value.slice.injEq] at hv
 refine ⟨hv.2.1, .inr ⟨g, 0, hv.1, (Array.getElem?_eq_some_iff.1 hh).1, fun i hi => ?_⟩⟩
 have e1 : cur.toList[i]? = some (.bool (zs.getD i false)) := by
  have e2 : (cur.toList.take (zs.length * 1))[i]? = (zs.map (Value.bool))[i]? := by rw [ht]
  rw [List.getElem?_take, if_pos (by omega)] at e2
  rw [e2]
  simp [hi]
 simp only [World.cell?, hh, Nat.zero_add]
 rw [Array.getElem?_toList] at e1
 exact e1
theorem OwnB.ofRow {w : World} {base b n : Nat} {zs : List Bool} (h : w.rowIs b 4 n (fun i => .bool (zs.getD i false))) (hn : n = zs.length) (hb : base <= b) (hm : n <= maxLen) : OwnB w base (.slice (some ⟨b, 0, none⟩) n n) zs := by
 subst hn
 obtain ⟨c, hc, hsz, hcell⟩ := h
 refine ⟨by simp, .inr ⟨b, zs.length, c, rfl, hb, hc, Nat.le_refl _, hm, by simpa using hsz, ?_⟩⟩
 apply List.ext_getElem?
 intro i
 by_cases hi : i < zs.length
 ·rw [List.getElem?_take, if_pos (by omega), Array.getElem?_toList, hcell i hi]
  simp [hi]
 rw [List.getElem?_eq_none (by simp; omega), List.getElem?_eq_none (by simp; omega)]
theorem Try.info4 : (Try.prog.info? 4).map (fun i => (i.zero, i.size, i.bytes)) = some (some (.bool false), 1, 1) := by kernel_rfl
theorem toBoolS_any (a : Option Addr) (n cap : Nat) (zs : List Bool) (w : World) (hn : n = zs.length) (hs : SlB w a zs) (hl : zs.length <= 20000000) :
 Calls Try.prog 79 #[.slice a n cap] w fun e w' => e = .returned (.slice (some ⟨w.heap.size, 0, none⟩) n n) /\
  w'.rowIs w.heap.size 4 n (fun i => .bool (zs.getD i false)) /\ Below w.heap.size w w' := by
 subst hn
 have hmk := run_make_row' (P := Try.prog) 76 4 (.bool false) 1 Try.underlying76 Try.info4 rfl .i64 .i64 zs.length (by omega) (by omega)
 go_enter Try.func79, Try.ntmps79
 go_wp2
 clear hmk
 go_loopw [4] (fun i wr => ∃ k : Nat, k <= zs.length /\ i = .int .i64 k /\ wr.rowIs w.heap.size 4 zs.length (fun i => if i < k then .bool (zs.getD i false) else .bool false) /\ Below w.heap.size w wr) (fun i _ => zs.length - (intOf i).toNat)
 case atStart => exact ⟨0, Nat.zero_le _, rfl, (World.rowIs_made w _ _ _).congr (fun i _ => by simp), (Below.refl _ _).alloc (Nat.le_refl _) _⟩
 case round =>
  obtain ⟨k, hk, rfl, hrow, hb⟩ := hrel
  by_cases hlt : k < zs.length
  ·obtain ⟨b, off, rfl, hb0, hc0⟩ := cell_atB hs hlt
   have hc : wr.cell? ⟨b, off + k, none⟩ = some (.bool (zs.getD k false)) := by rw [hb.cell (p := ⟨b, off + k, none⟩) hb0]; exact hc0
   have hst := hrow.cell hlt
   simp only [Nat.lt_irrefl, if_false] at hst
   have hfz := hrow.frozen k
   have hi : (k : Int) < (zs.length : Int) := by omega
   have R : Hid ((wr.setCell ⟨w.heap.size, k, none⟩ (.bool (zs.getD k false))).rowIs w.heap.size 4 zs.length (fun i => if i < k + 1 then .bool (zs.getD i false) else .bool false)) := by
    refine (hrow.set k _).congr (fun i _ => ?_)
    by_cases e : i = k
    ·subst e; simp
    rw [if_neg e]
    by_cases h : i < k
    ·rw [if_pos h, if_pos (by omega)]
    rw [if_neg h, if_neg (by omega)]
   have B1 : Below w.heap.size w (wr.setCell ⟨w.heap.size, k, none⟩ (.bool (zs.getD k false))) := hb.setCell (Nat.le_refl _) _
   clear hrow hb hc0 hs
   go_wp2
   go_roundw
   case rel => exact ⟨k + 1, by omega, by go_num, by simpa [hlt] using R.out, by simpa [hlt] using B1⟩
   case measure => simp [intOf]; omega
  have hkk : k = zs.length := by omega
  have R : Hid (wr.rowIs w.heap.size 4 zs.length (fun i => .bool (zs.getD i false))) := hrow.congr (fun i hi => by rw [if_pos (by omega)])
  clear hrow hs hkk
  go_wp2
  go_ret
  exact ⟨rfl, R.out, hb⟩
theorem eqBoolS_true (a a' : Option Addr) (n n' cap cap' : Nat) (zs : List Bool) (w : World) (hn : n = zs.length) (hn' : n' = zs.length) (hs : SlB w a zs) (hs' : SlB w a' zs) (hl : zs.length <= 20000000) :
 Calls Try.prog 86 #[.slice a n cap, .slice a' n' cap'] w fun e w' => e = .returned (.bool true) /\ ∃ n, w' = w.drewN n := by
 subst hn hn'
 go_enter Try.func86, Try.ntmps86
 go_wp2
 go_loopw [5] (fun i wr => ∃ k : Nat, k <= zs.length /\ i = .int .i64 k /\ ∃ n, wr = w.drewN n) (fun i _ => zs.length - (intOf i).toNat)
 case atStart => exact ⟨0, Nat.zero_le _, rfl, 0, rfl⟩
 case round =>
  obtain ⟨k, hk, rfl, n, rfl⟩ := hrel
  by_cases hlt : k < zs.length
  ·obtain ⟨b, off, rfl, _, hc⟩ := cell_atB hs hlt
   obtain ⟨b', off', rfl, _, hc'⟩ := cell_atB hs' hlt
   have hi : (k : Int) < (zs.length : Int) := by omega
   clear hs hs'
   go_wp2
   go_quiet (fail)
   go_wp2
   go_roundw
   case rel => exact ⟨k + 1, by omega, by go_num, _, rfl⟩
   case measure => simp [intOf]; omega
  clear hs hs'
  go_wp2
  go_ret
  exact ⟨rfl, _, rfl⟩
def marksB (s n : Nat) : List Bool := (List.range n).map (fun i : Nat => ((s : Int) + (i : Int)) % 3 == 0)
def MarkedB (s : Nat) (w wr : World) (g cap k : Nat) : Prop :=
 w.grownBy wr (some g) /\ ∃ cur, wr.heap[g]? = some (.cells cur 4 (0, 0)) /\ cur.size = cap /\ ∀ i, i < k -> cur[i]? = some (.bool (((s : Int) + (i : Int)) % 3 == 0))
end Go.Proofs.Ytplaoagcedgdfaa
namespace Go.Proofs.Ytplaoagcedgdfaa
open Go.RowKit
theorem bel_next {w0 w w' : World} (h : Below w0.heap.size w0 w) (h' : Below w.heap.size w w') : Below w0.heap.size w0 w' := h.trans (h'.mono h.size)
theorem bel_alloc (w : World) (o : Obj) : Below w.heap.size w (w.alloc o) := (Below.refl _ w).alloc (Nat.le_refl _) o
def Blk (w : World) (g : Nat) (t : TypeId) (cs : Array Value) : Prop := w.heap[g]? = some (.cells cs t (0, 0))
theorem Blk.cell {w : World} {g : Nat} {t : TypeId} {cs : Array Value} (h : Blk w g t cs) (j : Nat) {v : Value} (hj : cs[j]? = some v) : w.cell? ⟨g, j, none⟩ = some v := by
 unfold Blk at h; simp [World.cell?, h, hj]
theorem Blk.fro {w : World} {g : Nat} {t : TypeId} {cs : Array Value} (h : Blk w g t cs) (j : Nat) : w.frozen? ⟨g, j, none⟩ = false := by
 unfold Blk at h; simp [World.frozen?, h]
theorem Blk.lt {w : World} {g : Nat} {t : TypeId} {cs : Array Value} (h : Blk w g t cs) : g < w.heap.size := (Array.getElem?_eq_some_iff.1 h).1
theorem Blk.new (w : World) (cs : Array Value) (t : TypeId) : Blk (w.alloc (.cells cs t)) w.heap.size t cs := by
 show (w.heap.push (.cells cs t (0, 0)))[w.heap.size]? = _; simp
theorem Blk.below {w w' : World} {g : Nat} {t : TypeId} {cs : Array Value} (h : Blk w g t cs) (hb : Below w.heap.size w w') : Blk w' g t cs := by
 unfold Blk; rw [hb.block g h.lt]; exact h
theorem Blk.set {w : World} {g : Nat} {t : TypeId} {cs : Array Value} (h : Blk w g t cs) (j : Nat) (y : Value) : Blk (w.setCell ⟨g, j, none⟩ y) g t (cs.setIfInBounds j y) := by
 unfold Blk at h ⊢; simp [World.setCell, Array.getElem?_modify, h]
theorem Blk.setNe {w : World} {g g' j : Nat} {t : TypeId} {cs : Array Value} {y : Value} (h : Blk w g t cs) (hne : g ≠ g') : Blk (w.setCell ⟨g', j, none⟩ y) g t cs := by
 unfold Blk; rw [Below.heap_setCell _ _ _ _ hne]; exact h
theorem row_noBlk {w : World} {base size n g : Nat} {e t : TypeId} {v : Value} {xs : List Value} {cs : Array Value} (h : w.ownsRow base e size v n xs) (hb : Blk w g t cs) (ht : t ≠ e) : v.ownBlock ≠ some g := by
 intro he
 obtain ⟨_, h2⟩ := h
 rcases h2 with ⟨h2, _⟩ | ⟨g', cap, cur, hv, _, hh, _⟩
 ·rw [h2] at he; simp [Value.ownBlock] at he
 rw [hv] at he
 simp [Value.ownBlock] at he
 subst he
 unfold Blk at hb
 rw [hb] at hh
 simp at hh
 exact ht hh.2
theorem grown_setj (w : World) (g o : Nat) (v : Value) : w.grownBy (w.setCell ⟨g, o, none⟩ v) (some g) :=
 ⟨rfl, rfl, rfl, by simp [World.setCell], fun k hk hne => Below.heap_setCell _ _ _ _ (fun e => hne (by simpa using e))⟩
theorem row_set {w : World} {base size n g j : Nat} {e t : TypeId} {v y : Value} {xs : List Value} {cs : Array Value} (h : w.ownsRow base e size v n xs) (hb : Blk w g t cs) (ht : t ≠ e) : (w.setCell ⟨g, j, none⟩ y).ownsRow base e size v n xs :=
 World.ownsRow.kept h (grown_setj w g j y) (.inr (row_noBlk h hb ht))
def ExB (w : World) (g : Nat) (t : TypeId) : Prop := ∃ cs, Blk w g t cs
theorem ExB.set {w : World} {g g' j : Nat} {t : TypeId} {y : Value} (h : ExB w g t) : ExB (w.setCell ⟨g', j, none⟩ y) g t := by
 obtain ⟨cs, h⟩ := h
 by_cases e : g = g'
 ·subst e; exact ⟨_, h.set j y⟩
 exact ⟨_, h.setNe e⟩
theorem row_setE {w : World} {base size n g j : Nat} {e t : TypeId} {v y : Value} {xs : List Value} (h : w.ownsRow base e size v n xs) (hb : ExB w g t) (ht : t ≠ e) : (w.setCell ⟨g, j, none⟩ y).ownsRow base e size v n xs := by
 obtain ⟨cs, hb⟩ := hb
 exact row_set h hb ht
theorem toIntS_ok (a : Option Addr) (n cap : Nat) (zs : List Int) (w : World) (hn : n = zs.length) (hs : SlI w a zs) (hl : zs.length <= 2000000) :
 Calls Try.prog 80 #[.slice a n cap] w fun e w' => ∃ g, e = .returned (.slice (some ⟨g, 0, none⟩) n n) /\ OwnI w' w.heap.size (.slice (some ⟨g, 0, none⟩) n n) zs /\ Below w.heap.size w w' := by
 refine (toIntS_any a n cap zs w hn hs hl).mono ?_
 rintro e w' ⟨rfl, q, b⟩
 exact ⟨_, rfl, OwnI.ofRow q hn (Nat.le_refl _) (by unfold maxLen; omega), b⟩
theorem toBoolS_ok (a : Option Addr) (n cap : Nat) (zs : List Bool) (w : World) (hn : n = zs.length) (hs : SlB w a zs) (hl : zs.length <= 20000000) :
 Calls Try.prog 79 #[.slice a n cap] w fun e w' => ∃ g, e = .returned (.slice (some ⟨g, 0, none⟩) n n) /\ OwnB w' w.heap.size (.slice (some ⟨g, 0, none⟩) n n) zs /\ Below w.heap.size w w' := by
 refine (toBoolS_any a n cap zs w hn hs hl).mono ?_
 rintro e w' ⟨rfl, q, b⟩
 exact ⟨_, rfl, OwnB.ofRow q hn (Nat.le_refl _) (by unfold maxLen; omega), b⟩
theorem OwnI.mono {w : World} {base base' : Nat} {v : Value} {zs : List Int} (h : OwnI w base v zs) (hb : base' <= base) : OwnI w base' v zs := by
 obtain ⟨h1, h2⟩ := h
 refine ⟨h1, ?_⟩
 rcases h2 with h2 | ⟨g, cap, cur, hv, hg, r⟩
 ·exact .inl h2
 exact .inr ⟨g, cap, cur, hv, by omega, r⟩
theorem OwnB.mono {w : World} {base base' : Nat} {v : Value} {zs : List Bool} (h : OwnB w base v zs) (hb : base' <= base) : OwnB w base' v zs := by
 obtain ⟨h1, h2⟩ := h
 refine ⟨h1, ?_⟩
 rcases h2 with h2 | ⟨g, cap, cur, hv, hg, r⟩
 ·exact .inl h2
 exact .inr ⟨g, cap, cur, hv, by omega, r⟩
theorem S2_below {w w' : World} {a : Option Addr} {zs : List Bool} (h : SlB w a zs) (hb : Below w.heap.size w w') : SlB w' a zs := h.below hb
theorem toReq_any (kd pl nn wa : Int) (a1 a2 : Option Addr) (l1 l2 c1 c2 : Nat) (ws : List Int) (bs : List Bool) (w : World) (h1 : l1 = ws.length) (h2 : l2 = bs.length) (s1 : SlI w a1 ws) (s2 : SlB w a2 bs) (hl1 : l1 <= 2000000) (hl2 : l2 <= 2000000) :
 Calls Try.prog 57 #[.agg #[.int .i64 kd, .int .i64 pl, .int .i64 nn, .slice a1 l1 c1, .slice a2 l2 c2, .int .i64 wa]] w fun e w' => ∃ g1 g2, e = .returned (.agg #[.int .i64 kd, .int .i64 pl, .int .i64 nn, .slice (some ⟨g1, 0, none⟩) l1 l1, .slice (some ⟨g2, 0, none⟩) l2 l2, .int .i64 wa]) /\
  OwnI w' w.heap.size (.slice (some ⟨g1, 0, none⟩) l1 l1) ws /\ OwnB w' w.heap.size (.slice (some ⟨g2, 0, none⟩) l2 l2) bs /\ Below w.heap.size w w' := by
 have H1 : Hid (l1 = ws.length) := h1
 have H2 : Hid (l2 = bs.length) := h2
 have HL : Hid (ws.length <= 2000000 /\ bs.length <= 20000000) := by show _ /\ _; omega
 obtain ⟨W0, hW0'⟩ : ∃ W0, W0 = ((w.alloc (.cells #[.int .i64 kd, .int .i64 pl, .int .i64 nn, .slice a1 l1 c1, .slice a2 l2 c2, .int .i64 wa] 84)).alloc (.cells #[.int .i64 0, .int .i64 0, .int .i64 0, .slice none 0 0, .slice none 0 0, .int .i64 0] 104)).alloc (.cells #[.int .i64 kd, .int .i64 pl, .int .i64 nn, .slice none 0 0, .slice none 0 0, .int .i64 0] 104) := ⟨_, rfl⟩
 have hW0 : Hid (W0 = _) := hW0'
 have hz : W0.heap.size = w.heap.size + 1 + 1 + 1 := by rw [hW0']; simp
 have B0 : Below w.heap.size w W0 := by rw [hW0']; exact bel_next (bel_next (bel_alloc w _) (bel_alloc _ _)) (bel_alloc _ _)
 have A0 : Blk W0 w.heap.size 84 #[.int .i64 kd, .int .i64 pl, .int .i64 nn, .slice a1 l1 c1, .slice a2 l2 c2, .int .i64 wa] := by rw [hW0']; exact ((Blk.new w _ _).below (bel_alloc _ _)).below (bel_alloc _ _)
 have R0 : Blk W0 (w.heap.size + 1) 104 #[.int .i64 0, .int .i64 0, .int .i64 0, .slice none 0 0, .slice none 0 0, .int .i64 0] := by
  rw [hW0']; have := (Blk.new (w.alloc (.cells #[.int .i64 kd, .int .i64 pl, .int .i64 nn, .slice a1 l1 c1, .slice a2 l2 c2, .int .i64 wa] 84)) #[.int .i64 0, .int .i64 0, .int .i64 0, .slice none 0 0, .slice none 0 0, .int .i64 0] 104).below (bel_alloc _ (.cells #[.int .i64 kd, .int .i64 pl, .int .i64 nn, .slice none 0 0, .slice none 0 0, .int .i64 0] 104)); simpa using this
 have O0 : Blk W0 (w.heap.size + 1 + 1) 104 #[.int .i64 kd, .int .i64 pl, .int .i64 nn, .slice none 0 0, .slice none 0 0, .int .i64 0] := by
  rw [hW0']; have := Blk.new ((w.alloc (.cells #[.int .i64 kd, .int .i64 pl, .int .i64 nn, .slice a1 l1 c1, .slice a2 l2 c2, .int .i64 wa] 84)).alloc (.cells #[.int .i64 0, .int .i64 0, .int .i64 0, .slice none 0 0, .slice none 0 0, .int .i64 0] 104)) #[.int .i64 kd, .int .i64 pl, .int .i64 nn, .slice none 0 0, .slice none 0 0, .int .i64 0] 104; simpa using this
 have S1 : Hid (SlI W0 a1 ws) := s1.below B0
 have S2 : Hid (SlB w a2 bs) := s2
 have c03 := A0.cell 3 rfl
 clear h1 h2 s1 s2 hW0'
 go_enter Try.func57, Try.ntmps57
 go_upto_region 5 with fail
 rw [<- hW0.out]
 go_wp2_with fail
 refine (toIntS_ok a1 l1 c1 ws _ H1.out S1.out HL.out.1).mono ?_
 rintro e w1 ⟨g1, rfl, i1, b1'⟩
 have b1 := bel_next B0 b1'
 have A1 := A0.below b1'
 have R1 := R0.below b1'
 have O1 := O0.below b1'
 have co := O1.cell 3 rfl
 have fo := O1.fro 3
 have A2 := A1.setNe (g' := w.heap.size + 1 + 1) (j := 3) (y := .slice (some ⟨g1, 0, none⟩) l1 l1) (by omega)
 have R2 := R1.setNe (g' := w.heap.size + 1 + 1) (j := 3) (y := .slice (some ⟨g1, 0, none⟩) l1 l1) (by omega)
 have O2 := O1.set 3 (.slice (some ⟨g1, 0, none⟩) l1 l1)
 have I2 : OwnI (w1.setCell ⟨w.heap.size + 1 + 1, 3, none⟩ (.slice (some ⟨g1, 0, none⟩) l1 l1)) W0.heap.size (.slice (some ⟨g1, 0, none⟩) l1 l1) ws := row_set i1 O1 (by decide)
 have b2 := b1.setCell (p := ⟨w.heap.size + 1 + 1, 3, none⟩) (by show w.heap.size <= w.heap.size + 1 + 1; omega) (.slice (some ⟨g1, 0, none⟩) l1 l1)
 clear b1' B0 A0 R0 O0 A1 R1 O1 i1 b1 c03
 go_upto_region 6 with fail
 generalize w1.setCell ⟨w.heap.size + 1 + 1, 3, none⟩ (.slice (some ⟨g1, 0, none⟩) l1 l1) = w2 at *
 have c04 := A2.cell 4 rfl
 clear co fo
 go_wp2_with fail
 refine (toBoolS_ok a2 l2 c2 bs _ H2.out (S2_below S2.out b2) HL.out.2).mono ?_
 rintro e w3 ⟨g2, rfl, j3, b3'⟩
 have b3 := bel_next b2 b3'
 have A3 := A2.below b3'
 have R3 := R2.below b3'
 have O3 := O2.below b3'
 have I3 := I2.below b3'
 have c05 := A3.cell 5 rfl
 have o0 := O3.cell 0 rfl
 have o1 := O3.cell 1 rfl
 have o2 := O3.cell 2 rfl
 have o3 := O3.cell 3 rfl
 have o4 := O3.cell 4 rfl
 have o5 := O3.cell 5 rfl
 have r0 := R3.cell 0 rfl
 have r1 := R3.cell 1 rfl
 have r2 := R3.cell 2 rfl
 have r3 := R3.cell 3 rfl
 have r4 := R3.cell 4 rfl
 have r5 := R3.cell 5 rfl
 have fo := O3.fro
 have fr := R3.fro
 have HH : Hid (OwnI w3 W0.heap.size (.slice (some ⟨g1, 0, none⟩) l1 l1) ws) := I3
 have b2s : Hid (w.heap.size <= w2.heap.size) := b2.size
 clear A2 R2 O2 I2 b3' A3 b2 c04 I3
 have eO : ExB w3 (w.heap.size + 1 + 1) 104 := ⟨_, O3⟩
 have eR : ExB w3 (w.heap.size + 1) 104 := ⟨_, R3⟩
 have HJ : Hid (OwnB w3 w2.heap.size (.slice (some ⟨g2, 0, none⟩) l2 l2) bs /\ Below w.heap.size w w3 /\ ExB w3 (w.heap.size + 1 + 1) 104 /\ ExB w3 (w.heap.size + 1) 104) := ⟨j3, b3, eO, eR⟩
 have hz2 : w.heap.size <= w2.heap.size := by have := b2s.out; omega
 have hz0 : w.heap.size <= W0.heap.size := by omega
 clear O3 R3 j3 b3 eO eR
 go_wp2
 refine bodyPost_ret (v := .agg #[.int .i64 kd, .int .i64 pl, .int .i64 nn, .slice (some ⟨g1, 0, none⟩) l1 l1, .slice (some ⟨g2, 0, none⟩) l2 l2, .int .i64 wa]) (by simp [results, Try.results57, go_sem, r0, r1, r2, r3, r4, r5]) rfl ?_
 obtain ⟨j3, b3, eO, eR⟩ := HJ.out
 refine ⟨g1, g2, rfl, ?_, ?_, ?_⟩
 ·exact OwnI.mono (show OwnI _ _ _ _ from (row_setE (row_setE (row_setE (row_setE (row_setE (row_setE (row_setE (row_setE HH.out eO (by decide)) (ExB.set eO) (by decide)) (ExB.set (ExB.set eR)) (by decide)) (ExB.set (ExB.set (ExB.set eR))) (by decide)) (ExB.set (ExB.set (ExB.set (ExB.set eR)))) (by decide)) (ExB.set (ExB.set (ExB.set (ExB.set (ExB.set eR))))) (by decide)) (ExB.set (ExB.set (ExB.set (ExB.set (ExB.set (ExB.set eR)))))) (by decide)) (ExB.set (ExB.set (ExB.set (ExB.set (ExB.set (ExB.set (ExB.set eR))))))) (by decide))) hz0
 ·exact OwnB.mono (show OwnB _ _ _ _ from (row_setE (row_setE (row_setE (row_setE (row_setE (row_setE (row_setE (row_setE j3 eO (by decide)) (ExB.set eO) (by decide)) (ExB.set (ExB.set eR)) (by decide)) (ExB.set (ExB.set (ExB.set eR))) (by decide)) (ExB.set (ExB.set (ExB.set (ExB.set eR)))) (by decide)) (ExB.set (ExB.set (ExB.set (ExB.set (ExB.set eR))))) (by decide)) (ExB.set (ExB.set (ExB.set (ExB.set (ExB.set (ExB.set eR)))))) (by decide)) (ExB.set (ExB.set (ExB.set (ExB.set (ExB.set (ExB.set (ExB.set eR))))))) (by decide))) hz2
 exact ((((((((b3.setCell (p := ⟨w.heap.size + 1 + 1, 4, none⟩) (by show w.heap.size <= w.heap.size + 1 + 1; omega) _).setCell (p := ⟨w.heap.size + 1 + 1, 5, none⟩) (by show w.heap.size <= w.heap.size + 1 + 1; omega) _).setCell (p := ⟨w.heap.size + 1, 0, none⟩) (by show w.heap.size <= w.heap.size + 1; omega) _).setCell (p := ⟨w.heap.size + 1, 1, none⟩) (by show w.heap.size <= w.heap.size + 1; omega) _).setCell (p := ⟨w.heap.size + 1, 2, none⟩) (by show w.heap.size <= w.heap.size + 1; omega) _).setCell (p := ⟨w.heap.size + 1, 3, none⟩) (by show w.heap.size <= w.heap.size + 1; omega) _).setCell (p := ⟨w.heap.size + 1, 4, none⟩) (by show w.heap.size <= w.heap.size + 1; omega) _).setCell (p := ⟨w.heap.size + 1, 5, none⟩) (by show w.heap.size <= w.heap.size + 1; omega) _)
theorem eqIntS_ok (a a' : Option Addr) (n n' cap cap' : Nat) (zs : List Int) (w : World) (hn : n = zs.length) (hn' : n' = zs.length) (hs : SlI w a zs) (hs' : SlI w a' zs) (hl : zs.length <= 2000000) :
 Calls Try.prog 87 #[.slice a n cap, .slice a' n' cap'] w fun e w' => e = .returned (.bool true) /\ Below w.heap.size w w' := by
 refine (eqIntS_true a a' n n' cap cap' zs w hn hn' hs hs' hl).mono ?_
 rintro e w' ⟨rfl, k, rfl⟩
 exact ⟨rfl, drew_refl _ _⟩
theorem eqBoolS_ok (a a' : Option Addr) (n n' cap cap' : Nat) (zs : List Bool) (w : World) (hn : n = zs.length) (hn' : n' = zs.length) (hs : SlB w a zs) (hs' : SlB w a' zs) (hl : zs.length <= 20000000) :
 Calls Try.prog 86 #[.slice a n cap, .slice a' n' cap'] w fun e w' => e = .returned (.bool true) /\ Below w.heap.size w w' := by
 refine (eqBoolS_true a a' n n' cap cap' zs w hn hn' hs hs' hl).mono ?_
 rintro e w' ⟨rfl, k, rfl⟩
 exact ⟨rfl, drew_refl _ _⟩
theorem eqReq_true (kd pl nn wa : Int) (a1 a2 a1' a2' : Option Addr) (l1 l2 l1' l2' c1 c2 c1' c2' : Nat) (ws : List Int) (bs : List Bool) (w : World) (h1 : l1 = ws.length) (h2 : l2 = bs.length) (h1' : l1' = ws.length) (h2' : l2' = bs.length) (s1 : SlI w a1 ws) (s2 : SlB w a2 bs) (s1' : SlI w a1' ws) (s2' : SlB w a2' bs) (hl1 : ws.length <= 2000000) (hl2 : bs.length <= 20000000) :
 Calls Try.prog 65 #[.agg #[.int .i64 kd, .int .i64 pl, .int .i64 nn, .slice a1 l1 c1, .slice a2 l2 c2, .int .i64 wa], .agg #[.int .i64 kd, .int .i64 pl, .int .i64 nn, .slice a1' l1' c1', .slice a2' l2' c2', .int .i64 wa]] w fun e w' => e = .returned (.bool true) /\ Below w.heap.size w w' := by
 obtain ⟨W0, hW0'⟩ : ∃ W0, W0 = (w.alloc (.cells #[.int .i64 kd, .int .i64 pl, .int .i64 nn, .slice a1 l1 c1, .slice a2 l2 c2, .int .i64 wa] 104)).alloc (.cells #[.int .i64 kd, .int .i64 pl, .int .i64 nn, .slice a1' l1' c1', .slice a2' l2' c2', .int .i64 wa] 104) := ⟨_, rfl⟩
 have hW0 : Hid (W0 = _) := hW0'
 have B0 : Below w.heap.size w W0 := by rw [hW0']; exact bel_next (bel_alloc w _) (bel_alloc _ _)
 have X0 : Blk W0 w.heap.size 104 #[.int .i64 kd, .int .i64 pl, .int .i64 nn, .slice a1 l1 c1, .slice a2 l2 c2, .int .i64 wa] := by rw [hW0']; exact (Blk.new w _ _).below (bel_alloc _ _)
 have Y0 : Blk W0 (w.heap.size + 1) 104 #[.int .i64 kd, .int .i64 pl, .int .i64 nn, .slice a1' l1' c1', .slice a2' l2' c2', .int .i64 wa] := by
  rw [hW0']; have := Blk.new (w.alloc (.cells #[.int .i64 kd, .int .i64 pl, .int .i64 nn, .slice a1 l1 c1, .slice a2 l2 c2, .int .i64 wa] 104)) #[.int .i64 kd, .int .i64 pl, .int .i64 nn, .slice a1' l1' c1', .slice a2' l2' c2', .int .i64 wa] 104; simpa using this
 have HH : Hid (l1 = ws.length /\ l2 = bs.length /\ l1' = ws.length /\ l2' = bs.length /\ SlI W0 a1 ws /\ SlB W0 a2 bs /\ SlI W0 a1' ws /\ SlB W0 a2' bs) := ⟨h1, h2, h1', h2', s1.below B0, s2.below B0, s1'.below B0, s2'.below B0⟩
 have x0 := X0.cell 0 rfl
 have x1 := X0.cell 1 rfl
 have x2 := X0.cell 2 rfl
 have x3 := X0.cell 3 rfl
 have y0 := Y0.cell 0 rfl
 have y1 := Y0.cell 1 rfl
 have y2 := Y0.cell 2 rfl
 have y3 := Y0.cell 3 rfl
 clear h1 h2 h1' h2' s1 s2 s1' s2' hW0'
 go_enter Try.func65, Try.ntmps65
 go_upto_region 1 with fail
 rw [<- hW0.out]
 go_wp2_with fail
 refine (eqIntS_ok _ _ _ _ _ _ ws _ HH.out.1 HH.out.2.2.1 HH.out.2.2.2.2.1 HH.out.2.2.2.2.2.2.1 hl1).mono ?_
 rintro e w1 ⟨rfl, b1'⟩
 have b1 := bel_next B0 b1'
 have X1 := X0.below b1'
 have Y1 := Y0.below b1'
 have x4 := X1.cell 4 rfl
 have y4 := Y1.cell 4 rfl
 have S1 : Hid (SlB w1 a2 bs /\ SlB w1 a2' bs) := ⟨HH.out.2.2.2.2.2.1.below b1', HH.out.2.2.2.2.2.2.2.below b1'⟩
 clear x0 x1 x2 x3 y0 y1 y2 y3 X0 Y0 B0 b1'
 go_wp2_with fail
 refine (eqBoolS_ok _ _ _ _ _ _ bs _ HH.out.2.1 HH.out.2.2.2.1 S1.out.1 S1.out.2 hl2).mono ?_
 rintro e w2 ⟨rfl, b2'⟩
 have b2 := bel_next b1 b2'
 have x5 := (X1.below b2').cell 5 rfl
 have y5 := (Y1.below b2').cell 5 rfl
 clear x4 y4 X1 Y1 b1 b2'
 go_wp2
 go_ret
 exact ⟨rfl, b2⟩
end Go.Proofs.Ytplaoagcedgdfaa
namespace Go.Proofs.Ytplaoagcedgdfaa
open Go.RowKit
end Go.Proofs.Ytplaoagcedgdfaa
namespace Go.Proofs.Ytplaoagcedgdfaa
open Go.RowKit Go.Joins
structure El where
 pre : List Value
 ws : List Int
 bs : List Bool
 post : List Value
instance : Inhabited El := ⟨⟨[], [], [], []⟩⟩
abbrev els (E : El) (a1 a2 : Option Addr) (c1 c2 : Nat) : List Value := E.pre ++ (.slice a1 E.ws.length c1 :: .slice a2 E.bs.length c2 :: E.post)
theorem bel_nx {w0 w w' : World} (h : Below w0.heap.size w0 w) (h' : Below w.heap.size w w') : Below w0.heap.size w0 w' := h.trans (h'.mono h.size)
theorem setL_gw {g : Nat} : ∀ (vs : List Value) (w : World) (o : Nat), w.grownBy (setL w g o vs) (some g)
 | [], w, o => World.grownBy.refl w _
 | v :: vs, w, o => by
  have h1 := grown_setj w g o v
  have h2 := setL_gw (g := g) vs (w.setCell ⟨g, o, none⟩ v) (o + 1)
  exact ⟨h2.os.trans h1.os, h2.tape.trans h1.tape, h2.output.trans h1.output, Nat.le_trans h1.size h2.size, fun k hk hne => by rw [show setL w g o (v :: vs) = setL (w.setCell ⟨g, o, none⟩ v) g (o + 1) vs from rfl, h2.block k (Nat.lt_of_lt_of_le hk h1.size) hne, h1.block k hk hne]⟩
def RowO (w : World) (g : Nat) (t : TypeId) (s o n : Nat) (F : Nat -> List Value) : Prop :=
 ∃ cs, w.heap[g]? = some (.cells cs t (0, 0)) /\ o + n * s <= cs.size /\ ∀ k, k < n -> ∀ j, j < s -> cs[o + k * s + j]? = (F k)[j]?
section
variable {w w' : World} {g : Nat} {t : TypeId} {s o n : Nat} {F G : Nat -> List Value}
end
def OwnO (w : World) (base : Nat) (t : TypeId) (s : Nat) (v : Value) (n : Nat) (F : Nat -> List Value) : Prop :=
 (n = 0 /\ ∃ a c, v = .slice a 0 c) \/ ∃ g o c, v = .slice (some ⟨g, o, none⟩) n c /\ base <= g /\ RowO w g t s o n F
section
variable {w w' : World} {base : Nat} {t : TypeId} {s : Nat} {v : Value} {n : Nat} {F : Nat -> List Value}
end
def ElAt (w : World) (lo hi : Nat) (vs : List Value) (E : El) : Prop :=
 ∃ a1 a2 c1 c2, vs = els E a1 a2 c1 c2 /\ OwnI w lo (.slice a1 E.ws.length c1) E.ws /\ OwnB w lo (.slice a2 E.bs.length c2) E.bs /\
  (∀ k, (Value.slice a1 E.ws.length c1).ownBlock = some k -> k < hi) /\ (∀ k, (Value.slice a2 E.bs.length c2).ownBlock = some k -> k < hi)
section
variable {w w' : World} {lo hi : Nat} {vs : List Value} {E : El}
end
def InE (w : World) (base : Nat) (β : Nat -> Nat) (F : Nat -> List Value) (G : Nat -> El) (z : Nat) : Prop :=
 base <= β 0 /\ (∀ k, β k <= β (k + 1)) /\ ∀ k, k < z -> ElAt w (β k) (β (k + 1)) (F k) (G k)
section
variable {w w' : World} {base gx z : Nat} {β : Nat -> Nat} {F F' : Nat -> List Value} {G H : Nat -> El}
end
def OwnL (w : World) (base : Nat) (t : TypeId) (s : Nat) (v : Value) (n : Nat) (G : Nat -> El) : Prop :=
 ∃ (F : Nat -> List Value) (β : Nat -> Nat), OwnO w base t s v n F /\ InE w base β F G n
def TopL (w : World) (base hi : Nat) (t : TypeId) (s : Nat) (v : Value) (n : Nat) (G : Nat -> El) : Prop :=
 ∃ (F : Nat -> List Value) (β : Nat -> Nat), OwnO w base t s v n F /\ InE w base β F G n /\ β n <= hi /\ ∀ g o m c, v = .slice (some ⟨g, o, none⟩) m c -> 0 < n -> g < hi
def SlL (w : World) (a : Option Addr) (s n : Nat) (G : Nat -> El) : Prop :=
 ∃ F : Nat -> List Value, SlS w a s n F /\ ∀ k, k < n -> ∃ a1 a2 c1 c2, F k = els (G k) a1 a2 c1 c2 /\ SlI w a1 (G k).ws /\ SlB w a2 (G k).bs
section
variable {w w' : World} {base : Nat} {t : TypeId} {s n : Nat} {v : Value} {G H : Nat -> El} {a : Option Addr}
end
end Go.Proofs.Ytplaoagcedgdfaa
namespace Go.Proofs.Ytplaoagcedgdfaa
open Go.RowKit Go.Joins
structure Ca where
 id : Int
 pa : Int
 un : Int
 kd : Int
 pl : Int
 n : Int
 wa : Int
 ws : List Int
 bs : List Bool
def caE (C : Ca) : El := ⟨[.int .i64 C.id, .int .i64 C.pa, .int .i64 C.un, .int .i64 C.kd, .int .i64 C.pl, .int .i64 C.n], C.ws, C.bs, [.int .i64 C.wa]⟩
abbrev cac (C : Ca) (a1 a2 : Option Addr) (l1 l2 c1 c2 : Nat) : Array Value := #[.int .i64 C.id, .int .i64 C.pa, .int .i64 C.un, .int .i64 C.kd, .int .i64 C.pl, .int .i64 C.n, .slice a1 l1 c1, .slice a2 l2 c2, .int .i64 C.wa]
def ca0 : Ca := ⟨0, 0, 0, 0, 0, 0, 0, [], []⟩
abbrev SlC (w : World) (a : Option Addr) (n : Nat) (f : Nat -> Ca) : Prop := SlL w a 9 n (fun k => caE (f k))
abbrev OwC (w : World) (base : Nat) (v : Value) (n : Nat) (f : Nat -> Ca) : Prop := OwnL w base 141 9 v n (fun k => caE (f k))
def tl (f : Nat -> Ca) : Nat -> Nat
 | 0 => 0
 | k + 1 => tl f k + ((f k).ws.length + (f k).bs.length)
def lfC (left l1 l2 : Nat) : Int := if l1 + l2 <= left then (left : Int) - (l1 : Int) - (l2 : Int) else -1
def lfS (left n : Nat) (f : Nat -> Ca) : Int := if n + tl f n <= left then (left : Int) - (n : Int) - (tl f n : Int) else -1
def BdC (n : Nat) (f : Nat -> Ca) : Prop := n <= 2000000 /\ ∀ k, k < n -> (f k).ws.length <= 2000000 /\ (f k).bs.length <= 2000000
end Go.Proofs.Ytplaoagcedgdfaa
namespace Go.Proofs.Ytplaoagcedgdfaa
open Go.RowKit Go.Joins
def wrA (cs : Array Value) : Nat -> List Value -> Array Value
 | _, [] => cs
 | o, v :: vs => wrA (cs.setIfInBounds o v) (o + 1) vs
theorem Blk.stL {g : Nat} {t : TypeId} : ∀ (vs : List Value) {w : World} {cs : Array Value} (o : Nat), Blk w g t cs -> Blk (setL w g o vs) g t (wrA cs o vs)
 | [], w, cs, o, h => h
 | v :: vs, w, cs, o, h => Blk.stL vs (o + 1) (h.set o v)
theorem Blk.stNe {g g' : Nat} {t : TypeId} {cs : Array Value} (hne : g ≠ g') : ∀ (vs : List Value) {w : World} (o : Nat), Blk w g t cs -> Blk (setL w g' o vs) g t cs
 | [], w, o, h => h
 | v :: vs, w, o, h => Blk.stNe hne vs (o + 1) (h.setNe hne)
theorem RowS.ex {w : World} {g : Nat} {t : TypeId} {s n : Nat} {F : Nat -> List Value} (h : RowS w g t s n F) {k j : Nat} (hk : k < n) (hj : j < s) : ∃ v, w.cell? ⟨g, k * s + j, none⟩ = some v := by
 obtain ⟨cs, h1, h2, h3⟩ := h
 have hin : k * s + j < cs.size := by
  have : (k + 1) * s <= n * s := Nat.mul_le_mul_right s hk
  rw [Nat.add_mul, Nat.one_mul] at this
  omega
 exact ⟨cs[k * s + j], by rw [cell_of_block h1]; simp⟩
abbrev calL (C : Ca) (a1 a2 : Option Addr) (l1 l2 c1 c2 : Nat) : List Value := [.int .i64 C.id, .int .i64 C.pa, .int .i64 C.un, .int .i64 C.kd, .int .i64 C.pl, .int .i64 C.n, .slice a1 l1 c1, .slice a2 l2 c2, .int .i64 C.wa]
abbrev ca0c : Array Value := #[.int .i64 0, .int .i64 0, .int .i64 0, .int .i64 0, .int .i64 0, .int .i64 0, .slice none 0 0, .slice none 0 0, .int .i64 0]
def MadeL (w : World) (B : Nat) (t : TypeId) (s n : Nat) (G : Nat -> El) : Prop := ∃ F β, RowS w B t s n F /\ InE w B β F G n /\ β n <= w.heap.size
end Go.Proofs.Ytplaoagcedgdfaa
namespace Go.Proofs.Ytplaoagcedgdfaa
open Go.RowKit Go.Joins
theorem setCells_L (g : Nat) : ∀ (vs : List Value) (w : World) (o : Nat), w.setCells g o vs = setL w g o vs
 | [], _, _ => rfl
 | v :: vs, w, o => by
  rw [World.setCells, setCells_L g vs]
  rfl
theorem Blk.range {w : World} {g : Nat} {t : TypeId} {cs : Array Value} (h : Blk w g t cs) (o : Nat) (vs : List Value) (hv : ∀ j, j < vs.length -> cs[o + j]? = vs[j]?) : w.rangeAt g o vs := fun j v hj => by
 have hlt : j < vs.length := (List.getElem?_eq_some_iff.1 hj).1
 exact h.cell (o + j) (by rw [hv j hlt, hj])
theorem Blk.there {w : World} {g : Nat} {t : TypeId} {cs : Array Value} (h : Blk w g t cs) (o n : Nat) (hn : o + n <= cs.size) : w.there g o n := fun j hj => by
 refine ⟨?_, h.fro _⟩
 rw [h.cell (o + j) (Array.getElem?_eq_getElem (show o + j < cs.size by omega))]
 rfl
theorem Blk.all {w : World} {g : Nat} {t : TypeId} {vs : List Value} (h : Blk w g t vs.toArray) : w.rangeAt g 0 vs := h.range 0 vs (fun j hj => by simp)
end Go.Proofs.Ytplaoagcedgdfaa
namespace Go.Proofs.Ytplaoagcedgdfaa
open Go.RowKit Go.Joins
end Go.Proofs.Ytplaoagcedgdfaa
namespace Go.Proofs.Ytplaoagcedgdfaa
open Go.RowKit
theorem Blk.six {w : World} {g : Nat} {t : TypeId} {v0 v1 v2 v3 v4 v5 : Value} (h : Blk w g t #[v0, v1, v2, v3, v4, v5]) : w.cell? ⟨g, 0, none⟩ = some v0 /\ w.cell? ⟨g, 1, none⟩ = some v1 /\ w.cell? ⟨g, 2, none⟩ = some v2 /\ w.cell? ⟨g, 3, none⟩ = some v3 /\ w.cell? ⟨g, 4, none⟩ = some v4 /\ w.cell? ⟨g, 5, none⟩ = some v5 :=
 ⟨h.cell 0 rfl, h.cell 1 rfl, h.cell 2 rfl, h.cell 3 rfl, h.cell 4 rfl, h.cell 5 rfl⟩
abbrev rq (kd pl nn wa : Int) (a1 a2 : Option Addr) (l1 l2 c1 c2 : Nat) : Value := .agg #[.int .i64 kd, .int .i64 pl, .int .i64 nn, .slice a1 l1 c1, .slice a2 l2 c2, .int .i64 wa]
def wrK (kd : Int) : Bool := decide (kd = 5 \/ kd = 6 \/ kd = 15 \/ kd = 16 \/ kd = 22 \/ kd = 23)
end Go.Proofs.Ytplaoagcedgdfaa
namespace Go.Proofs.Ytplaoagcedgdfaa
open Go.RowKit
abbrev rp (kd fl pl nn : Int) (a1 a2 : Option Addr) (l1 l2 c1 c2 : Nat) : Value := .agg #[.int .i64 kd, .int .i64 fl, .int .i64 pl, .int .i64 nn, .slice a1 l1 c1, .slice a2 l2 c2]
theorem rowp_set6 {w : World} {base size n g : Nat} {e t : TypeId} {v v0 v1 v2 v3 v4 v5 : Value} {xs : List Value} (h : w.ownsRow base e size v n xs) (hb : ExB w g t) (ht : t ≠ e) :
 ((((((w.setCell ⟨g, 0, none⟩ v0).setCell ⟨g, 1, none⟩ v1).setCell ⟨g, 2, none⟩ v2).setCell ⟨g, 3, none⟩ v3).setCell ⟨g, 4, none⟩ v4).setCell ⟨g, 5, none⟩ v5).ownsRow base e size v n xs :=
 row_setE (row_setE (row_setE (row_setE (row_setE (row_setE h hb ht) (ExB.set hb) ht) (ExB.set (ExB.set hb)) ht) (ExB.set (ExB.set (ExB.set hb))) ht) (ExB.set (ExB.set (ExB.set (ExB.set hb)))) ht) (ExB.set (ExB.set (ExB.set (ExB.set (ExB.set hb))))) ht
theorem belp_set6 {B : Nat} {W w : World} {g : Nat} {v0 v1 v2 v3 v4 v5 : Value} (hb : Below B W w) (hg : B <= g) :
 Below B W ((((((w.setCell ⟨g, 0, none⟩ v0).setCell ⟨g, 1, none⟩ v1).setCell ⟨g, 2, none⟩ v2).setCell ⟨g, 3, none⟩ v3).setCell ⟨g, 4, none⟩ v4).setCell ⟨g, 5, none⟩ v5) :=
 (((((hb.setCell (p := ⟨g, 0, none⟩) hg _).setCell (p := ⟨g, 1, none⟩) hg _).setCell (p := ⟨g, 2, none⟩) hg _).setCell (p := ⟨g, 3, none⟩) hg _).setCell (p := ⟨g, 4, none⟩) hg _).setCell (p := ⟨g, 5, none⟩) hg _
theorem toResp_any (kd fl pl nn : Int) (a1 a2 : Option Addr) (l1 l2 c1 c2 : Nat) (ws : List Int) (bs : List Bool) (w : World) (h1 : l1 = ws.length) (h2 : l2 = bs.length) (s1 : SlI w a1 ws) (s2 : SlB w a2 bs) (hl1 : l1 <= 2000000) (hl2 : l2 <= 2000000) :
 Calls Try.prog 58 #[.agg #[.int .i64 kd, .int .i64 fl, .int .i64 pl, .int .i64 nn, .slice a1 l1 c1, .slice a2 l2 c2]] w fun e w' => ∃ g1 g2, e = .returned (.agg #[.int .i64 kd, .int .i64 fl, .int .i64 pl, .int .i64 nn, .slice (some ⟨g1, 0, none⟩) l1 l1, .slice (some ⟨g2, 0, none⟩) l2 l2]) /\
  OwnI w' w.heap.size (.slice (some ⟨g1, 0, none⟩) l1 l1) ws /\ OwnB w' w.heap.size (.slice (some ⟨g2, 0, none⟩) l2 l2) bs /\ Below w.heap.size w w' := by
 have H1 : Hid (l1 = ws.length) := h1
 have H2 : Hid (l2 = bs.length) := h2
 have HL : Hid (ws.length <= 2000000 /\ bs.length <= 20000000) := by show _ /\ _; omega
 obtain ⟨W0, hW0'⟩ : ∃ W0, W0 = ((w.alloc (.cells #[.int .i64 kd, .int .i64 fl, .int .i64 pl, .int .i64 nn, .slice a1 l1 c1, .slice a2 l2 c2] 86)).alloc (.cells #[.int .i64 0, .int .i64 0, .int .i64 0, .int .i64 0, .slice none 0 0, .slice none 0 0] 105)).alloc (.cells #[.int .i64 kd, .int .i64 fl, .int .i64 pl, .int .i64 nn, .slice none 0 0, .slice none 0 0] 105) := ⟨_, rfl⟩
 have hW0 : Hid (W0 = _) := hW0'
 have hz : W0.heap.size = w.heap.size + 1 + 1 + 1 := by rw [hW0']; simp
 have B0 : Below w.heap.size w W0 := by rw [hW0']; exact bel_next (bel_next (bel_alloc w _) (bel_alloc _ _)) (bel_alloc _ _)
 have A0 : Blk W0 w.heap.size 86 #[.int .i64 kd, .int .i64 fl, .int .i64 pl, .int .i64 nn, .slice a1 l1 c1, .slice a2 l2 c2] := by rw [hW0']; exact ((Blk.new w _ _).below (bel_alloc _ _)).below (bel_alloc _ _)
 have R0 : Blk W0 (w.heap.size + 1) 105 #[.int .i64 0, .int .i64 0, .int .i64 0, .int .i64 0, .slice none 0 0, .slice none 0 0] := by
  rw [hW0']; have := (Blk.new (w.alloc (.cells #[.int .i64 kd, .int .i64 fl, .int .i64 pl, .int .i64 nn, .slice a1 l1 c1, .slice a2 l2 c2] 86)) #[.int .i64 0, .int .i64 0, .int .i64 0, .int .i64 0, .slice none 0 0, .slice none 0 0] 105).below (bel_alloc _ (.cells #[.int .i64 kd, .int .i64 fl, .int .i64 pl, .int .i64 nn, .slice none 0 0, .slice none 0 0] 105)); simpa using this
 have O0 : Blk W0 (w.heap.size + 1 + 1) 105 #[.int .i64 kd, .int .i64 fl, .int .i64 pl, .int .i64 nn, .slice none 0 0, .slice none 0 0] := by
  rw [hW0']; have := Blk.new ((w.alloc (.cells #[.int .i64 kd, .int .i64 fl, .int .i64 pl, .int .i64 nn, .slice a1 l1 c1, .slice a2 l2 c2] 86)).alloc (.cells #[.int .i64 0, .int .i64 0, .int .i64 0, .int .i64 0, .slice none 0 0, .slice none 0 0] 105)) #[.int .i64 kd, .int .i64 fl, .int .i64 pl, .int .i64 nn, .slice none 0 0, .slice none 0 0] 105; simpa using this
 have S1 : Hid (SlI W0 a1 ws) := s1.below B0
 have S2 : Hid (SlB w a2 bs) := s2
 have c03 := A0.cell 4 rfl
 clear h1 h2 s1 s2 hW0'
 go_enter Try.func58, Try.ntmps58
 go_upto_region 6 with fail
 rw [<- hW0.out]
 go_wp2_with fail
 refine (toIntS_ok a1 l1 c1 ws _ H1.out S1.out HL.out.1).mono ?_
 rintro e w1 ⟨g1, rfl, i1, b1'⟩
 have b1 := bel_next B0 b1'
 have A1 := A0.below b1'
 have R1 := R0.below b1'
 have O1 := O0.below b1'
 have co := O1.cell 4 rfl
 have fo := O1.fro 4
 have A2 := A1.setNe (g' := w.heap.size + 1 + 1) (j := 4) (y := .slice (some ⟨g1, 0, none⟩) l1 l1) (by omega)
 have R2 := R1.setNe (g' := w.heap.size + 1 + 1) (j := 4) (y := .slice (some ⟨g1, 0, none⟩) l1 l1) (by omega)
 have O2 := O1.set 4 (.slice (some ⟨g1, 0, none⟩) l1 l1)
 have I2 : OwnI (w1.setCell ⟨w.heap.size + 1 + 1, 4, none⟩ (.slice (some ⟨g1, 0, none⟩) l1 l1)) W0.heap.size (.slice (some ⟨g1, 0, none⟩) l1 l1) ws := row_set i1 O1 (by decide)
 have b2 := b1.setCell (p := ⟨w.heap.size + 1 + 1, 4, none⟩) (by show w.heap.size <= w.heap.size + 1 + 1; omega) (.slice (some ⟨g1, 0, none⟩) l1 l1)
 clear b1' B0 A0 R0 O0 A1 R1 O1 i1 b1 c03
 go_upto_region 7 with fail
 generalize w1.setCell ⟨w.heap.size + 1 + 1, 4, none⟩ (.slice (some ⟨g1, 0, none⟩) l1 l1) = w2 at *
 have c04 := A2.cell 5 rfl
 clear co fo
 go_wp2_with fail
 refine (toBoolS_ok a2 l2 c2 bs _ H2.out (S2_below S2.out b2) HL.out.2).mono ?_
 rintro e w3 ⟨g2, rfl, j3, b3'⟩
 have b3 := bel_next b2 b3'
 have R3 := R2.below b3'
 have O3 := O2.below b3'
 have I3 := I2.below b3'
 have o0 := O3.cell 0 rfl
 have o1 := O3.cell 1 rfl
 have o2 := O3.cell 2 rfl
 have o3 := O3.cell 3 rfl
 have o4 := O3.cell 4 rfl
 have o5 := O3.cell 5 rfl
 have r0 := R3.cell 0 rfl
 have r1 := R3.cell 1 rfl
 have r2 := R3.cell 2 rfl
 have r3 := R3.cell 3 rfl
 have r4 := R3.cell 4 rfl
 have r5 := R3.cell 5 rfl
 have fo := O3.fro
 have fr := R3.fro
 have HH : Hid (OwnI w3 W0.heap.size (.slice (some ⟨g1, 0, none⟩) l1 l1) ws) := I3
 have b2s : Hid (w.heap.size <= w2.heap.size) := b2.size
 have eO : ExB w3 (w.heap.size + 1 + 1) 105 := ⟨_, O3⟩
 have eR : ExB w3 (w.heap.size + 1) 105 := ⟨_, R3⟩
 have HJ : Hid (OwnB w3 w2.heap.size (.slice (some ⟨g2, 0, none⟩) l2 l2) bs /\ Below w.heap.size w w3 /\ ExB w3 (w.heap.size + 1 + 1) 105 /\ ExB w3 (w.heap.size + 1) 105) := ⟨j3, b3, eO, eR⟩
 have hz2 : w.heap.size <= w2.heap.size := by have := b2s.out; omega
 have hz0 : w.heap.size <= W0.heap.size := by omega
 clear A2 R2 O2 I2 b3' b2 c04 I3 O3 R3 j3 b3 eO eR
 go_wp2
 refine bodyPost_ret (v := .agg #[.int .i64 kd, .int .i64 fl, .int .i64 pl, .int .i64 nn, .slice (some ⟨g1, 0, none⟩) l1 l1, .slice (some ⟨g2, 0, none⟩) l2 l2]) (by simp [results, Try.results58, go_sem, r0, r1, r2, r3, r4, r5]) rfl ?_
 obtain ⟨j3, b3, eO, eR⟩ := HJ.out
 refine ⟨g1, g2, rfl, ?_, ?_, ?_⟩
 ·exact OwnI.mono (show OwnI _ _ _ _ from rowp_set6 (row_setE HH.out eO (by decide)) (ExB.set eR) (by decide)) hz0
 ·exact OwnB.mono (show OwnB _ _ _ _ from rowp_set6 (row_setE j3 eO (by decide)) (ExB.set eR) (by decide)) hz2
 exact belp_set6 (b3.setCell (p := ⟨w.heap.size + 1 + 1, 5, none⟩) (by show w.heap.size <= w.heap.size + 1 + 1; omega) _) (Nat.le_succ _)
theorem eqResp_true (kd fl pl nn : Int) (a1 a2 a1' a2' : Option Addr) (l1 l2 l1' l2' c1 c2 c1' c2' : Nat) (ws : List Int) (bs : List Bool) (w : World) (h1 : l1 = ws.length) (h2 : l2 = bs.length) (h1' : l1' = ws.length) (h2' : l2' = bs.length) (s1 : SlI w a1 ws) (s2 : SlB w a2 bs) (s1' : SlI w a1' ws) (s2' : SlB w a2' bs) (hl1 : ws.length <= 2000000) (hl2 : bs.length <= 2000000) :
 Calls Try.prog 66 #[.agg #[.int .i64 kd, .int .i64 fl, .int .i64 pl, .int .i64 nn, .slice a1 l1 c1, .slice a2 l2 c2], .agg #[.int .i64 kd, .int .i64 fl, .int .i64 pl, .int .i64 nn, .slice a1' l1' c1', .slice a2' l2' c2']] w fun e w' => e = .returned (.bool true) /\ Below w.heap.size w w' := by
 obtain ⟨W0, hW0'⟩ : ∃ W0, W0 = (w.alloc (.cells #[.int .i64 kd, .int .i64 fl, .int .i64 pl, .int .i64 nn, .slice a1 l1 c1, .slice a2 l2 c2] 105)).alloc (.cells #[.int .i64 kd, .int .i64 fl, .int .i64 pl, .int .i64 nn, .slice a1' l1' c1', .slice a2' l2' c2'] 105) := ⟨_, rfl⟩
 have hW0 : Hid (W0 = _) := hW0'
 have B0 : Below w.heap.size w W0 := by rw [hW0']; exact bel_next (bel_alloc w _) (bel_alloc _ _)
 have X0 : Blk W0 w.heap.size 105 #[.int .i64 kd, .int .i64 fl, .int .i64 pl, .int .i64 nn, .slice a1 l1 c1, .slice a2 l2 c2] := by rw [hW0']; exact (Blk.new w _ _).below (bel_alloc _ _)
 have Y0 : Blk W0 (w.heap.size + 1) 105 #[.int .i64 kd, .int .i64 fl, .int .i64 pl, .int .i64 nn, .slice a1' l1' c1', .slice a2' l2' c2'] := by
  rw [hW0']; have := Blk.new (w.alloc (.cells #[.int .i64 kd, .int .i64 fl, .int .i64 pl, .int .i64 nn, .slice a1 l1 c1, .slice a2 l2 c2] 105)) #[.int .i64 kd, .int .i64 fl, .int .i64 pl, .int .i64 nn, .slice a1' l1' c1', .slice a2' l2' c2'] 105; simpa using this
 have HH : Hid (l1 = ws.length /\ l2 = bs.length /\ l1' = ws.length /\ l2' = bs.length /\ SlI W0 a1 ws /\ SlB W0 a2 bs /\ SlI W0 a1' ws /\ SlB W0 a2' bs) := ⟨h1, h2, h1', h2', s1.below B0, s2.below B0, s1'.below B0, s2'.below B0⟩
 obtain ⟨x0, x1, x2, x3, x4, x5⟩ := X0.six
 obtain ⟨y0, y1, y2, y3, y4, y5⟩ := Y0.six
 clear h1 h2 h1' h2' s1 s2 s1' s2' hW0'
 go_enter Try.func66, Try.ntmps66
 go_upto_region 1 with fail
 rw [<- hW0.out]
 go_wp2_with fail
 refine (eqIntS_ok _ _ _ _ _ _ ws _ HH.out.1 HH.out.2.2.1 HH.out.2.2.2.2.1 HH.out.2.2.2.2.2.2.1 hl1).mono ?_
 rintro e w1 ⟨rfl, b1'⟩
 have b1 := bel_next B0 b1'
 have X1 := X0.below b1'
 have Y1 := Y0.below b1'
 have S1 : Hid (SlB w1 a2 bs /\ SlB w1 a2' bs) := ⟨HH.out.2.2.2.2.2.1.below b1', HH.out.2.2.2.2.2.2.2.below b1'⟩
 clear x0 x1 x2 x3 x4 x5 y0 y1 y2 y3 y4 y5 X0 Y0 B0 b1'
 have x5 := X1.cell 5 rfl
 have y5 := Y1.cell 5 rfl
 go_wp2_with fail
 refine (eqBoolS_ok _ _ _ _ _ _ bs _ HH.out.2.1 HH.out.2.2.2.1 S1.out.1 S1.out.2 (by omega)).mono ?_
 rintro e w2 ⟨rfl, b2'⟩
 have b2 := bel_next b1 b2'
 go_wp2
 go_ret
 exact ⟨rfl, b2⟩
end Go.Proofs.Ytplaoagcedgdfaa
namespace Go.Proofs.Ytplaoagcedgdfaa
open Go.RowKit Go.Joins
inductive Tr where
 | leaf (v : Value)
 | list (s n : Nat) (f : Nat -> Nat -> Tr)
def Rd (w : World) (lo : Nat) : Tr -> Value -> Prop
 | .leaf u, v => v = u
 | .list s n f, v => ∃ a c, v = .slice a n c /\ n <= c /\ n <= maxLen /\ (n = 0 \/ ∃ (g off : Nat) (F : Nat -> List Value), a = some ⟨g, off, none⟩ /\ lo <= g /\ g < w.heap.size /\
  ∀ k, k < n -> (F k).length = s /\ ∀ j v, (F k)[j]? = some v -> w.cell? ⟨g, off + k * s + j, none⟩ = some v /\ Rd w lo (f k j) v)
def RdL (w : World) (lo : Nat) (ts : Nat -> Tr) (vs : List Value) : Prop := ∀ j v, vs[j]? = some v -> Rd w lo (ts j) v
theorem Rd.below {w w' : World} {lo : Nat} (hb : Below w.heap.size w w') : ∀ {t : Tr} {v : Value}, Rd w lo t v -> Rd w' lo t v := by
 intro t
 induction t with
 | leaf u => intro v h; exact h
 | list s n f ih =>
  intro v h
  obtain ⟨a, c, h1, h2, h3, h4⟩ := h
  refine ⟨a, c, h1, h2, h3, ?_⟩
  rcases h4 with h4 | ⟨g, off, F, ha, hlo, hg, hc⟩
  ·exact .inl h4
  refine .inr ⟨g, off, F, ha, hlo, Nat.lt_of_lt_of_le hg hb.size, fun k hk => ⟨(hc k hk).1, fun j v hj => ?_⟩⟩
  obtain ⟨q1, q2⟩ := (hc k hk).2 j v hj
  exact ⟨(hb.cell (p := ⟨g, off + k * s + j, none⟩) hg).trans q1, ih k j q2⟩
theorem Rd.mono {w : World} {lo lo' : Nat} (hl : lo' <= lo) : ∀ {t : Tr} {v : Value}, Rd w lo t v -> Rd w lo' t v := by
 intro t
 induction t with
 | leaf u => intro v h; exact h
 | list s n f ih =>
  intro v h
  obtain ⟨a, c, h1, h2, h3, h4⟩ := h
  refine ⟨a, c, h1, h2, h3, ?_⟩
  rcases h4 with h4 | ⟨g, off, F, ha, hlo, hg, hc⟩
  ·exact .inl h4
  refine .inr ⟨g, off, F, ha, Nat.le_trans hl hlo, hg, fun k hk => ⟨(hc k hk).1, fun j v hj => ?_⟩⟩
  obtain ⟨q1, q2⟩ := (hc k hk).2 j v hj
  exact ⟨q1, ih k j q2⟩
theorem Rd.kept {w w' : World} {lo gx : Nat} (hg : w.grownBy w' (some gx)) (hx : gx < lo) : ∀ {t : Tr} {v : Value}, Rd w lo t v -> Rd w' lo t v := by
 intro t
 induction t with
 | leaf u => intro v h; exact h
 | list s n f ih =>
  intro v h
  obtain ⟨a, c, h1, h2, h3, h4⟩ := h
  refine ⟨a, c, h1, h2, h3, ?_⟩
  rcases h4 with h4 | ⟨g, off, F, ha, hlo, hgs, hc⟩
  ·exact .inl h4
  refine .inr ⟨g, off, F, ha, hlo, Nat.lt_of_lt_of_le hgs hg.size, fun k hk => ⟨(hc k hk).1, fun j v hj => ?_⟩⟩
  obtain ⟨q1, q2⟩ := (hc k hk).2 j v hj
  refine ⟨?_, ih k j q2⟩
  rw [<- q1]
  exact World.cell?_of_block (a := ⟨g, off + k * s + j, none⟩) (hg.block g hgs (fun e => by have := Option.some.inj e; omega))
theorem RdL.below {w w' : World} {lo : Nat} {ts : Nat -> Tr} {vs : List Value} (h : RdL w lo ts vs) (hb : Below w.heap.size w w') : RdL w' lo ts vs := fun j v hj => (h j v hj).below hb
theorem RdL.mono {w : World} {lo lo' : Nat} {ts : Nat -> Tr} {vs : List Value} (h : RdL w lo ts vs) (hl : lo' <= lo) : RdL w lo' ts vs := fun j v hj => (h j v hj).mono hl
theorem RdL.kept {w w' : World} {lo gx : Nat} {ts : Nat -> Tr} {vs : List Value} (h : RdL w lo ts vs) (hg : w.grownBy w' (some gx)) (hx : gx < lo) : RdL w' lo ts vs := fun j v hj => (h j v hj).kept hg hx
theorem Rd.shape {w : World} {lo s n : Nat} {f : Nat -> Nat -> Tr} {v : Value} (h : Rd w lo (.list s n f) v) : ∃ a c, v = .slice a n c /\ n <= c /\ n <= maxLen := by
 obtain ⟨a, c, h1, h2, h3, _⟩ := h
 exact ⟨a, c, h1, h2, h3⟩
theorem Rd.at {w : World} {lo s n m c k : Nat} {a : Option Addr} {f : Nat -> Nat -> Tr} (h : Rd w lo (.list s n f) (.slice a m c)) (hk : k < n) :
 ∃ g off vs, a = some ⟨g, off, none⟩ /\ lo <= g /\ g < w.heap.size /\ vs.length = s /\ w.rangeAt g (off + k * s) vs /\ RdL w lo (f k) vs := by
 obtain ⟨a', c', h1, h2, h3, h4⟩ := h
 simp only [Value.slice.injEq] at h1
 rcases h4 with h4 | ⟨g, off, F, ha, hlo, hgs, hc⟩
 ·omega
 exact ⟨g, off, F k, by rw [h1.1, ha], hlo, hgs, (hc k hk).1, fun j v hj => ((hc k hk).2 j v hj).1, fun j v hj => ((hc k hk).2 j v hj).2⟩
theorem Rd.made {w : World} {lo g s n : Nat} {t : TypeId} {F : Nat -> List Value} {f : Nat -> Nat -> Tr} (h : RowS w g t s n F) (hlo : lo <= g) (hn : n <= maxLen) (hF : ∀ k, k < n -> (F k).length = s /\ RdL w lo (f k) (F k)) :
 Rd w lo (.list s n f) (.slice (some ⟨g, 0, none⟩) n n) := by
 refine ⟨_, _, rfl, Nat.le_refl _, hn, .inr ⟨g, 0, F, rfl, hlo, h.lt, fun k hk => ⟨(hF k hk).1, fun j v hj => ⟨?_, (hF k hk).2 j v hj⟩⟩⟩⟩
 have hl : j < s := by rw [<- (hF k hk).1]; exact (List.getElem?_eq_some_iff.1 hj).1
 rw [Nat.zero_add, h.cell hk hl, hj]
def sumN : Nat -> (Nat -> Nat) -> Nat
 | 0, _ => 0
 | n + 1, g => sumN n g + g n
theorem sumN_mono (g : Nat -> Nat) : ∀ {i j : Nat}, i <= j -> sumN i g <= sumN j g := by
 intro i j hij
 induction hij with
 | refl => exact Nat.le_refl _
 | step _ ih => exact Nat.le_trans ih (by simp [sumN])
theorem sumN_at (g : Nat -> Nat) {k n : Nat} (hk : k < n) : g k <= sumN n g := by
 have := sumN_mono g (show k + 1 <= n by omega)
 simp only [sumN] at this
 omega
def Tr.sz : Tr -> Nat
 | .leaf _ => 0
 | .list s n f => n + sumN n (fun k => sumN s (fun j => (f k j).sz))
def szT (s : Nat) (ts : Nat -> Tr) : Nat := sumN s (fun j => (ts j).sz)
theorem Tr.sz_list (s n : Nat) (f : Nat -> Nat -> Tr) : (Tr.list s n f).sz = n + sumN n (fun k => szT s (f k)) := rfl
def lfT (left t : Nat) : Int := if t <= left then (left : Int) - (t : Int) else -1
def intsT (ws : List Int) : Tr := .list 1 ws.length (fun k _ => .leaf (.int .i64 (ws.getD k 0)))
def boolsT (bs : List Bool) : Tr := .list 1 bs.length (fun k _ => .leaf (.bool (bs.getD k false)))
theorem sumN_zero : ∀ (n : Nat), sumN n (fun _ => 0) = 0
 | 0 => rfl
 | n + 1 => by simp [sumN, sumN_zero n]
theorem intsT_sz (ws : List Int) : (intsT ws).sz = ws.length := by
 unfold intsT
 simp [Tr.sz, sumN, sumN_zero]
theorem boolsT_sz (bs : List Bool) : (boolsT bs).sz = bs.length := by
 unfold boolsT
 simp [Tr.sz, sumN, sumN_zero]
theorem Rd.ints {w : World} {lo : Nat} {ws : List Int} {v : Value} (h : Rd w lo (intsT ws) v) : ∃ a c, v = .slice a ws.length c /\ ws.length <= c /\ ws.length <= maxLen /\ SlI w a ws := by
 obtain ⟨a, c, h1, h2, h3, h4⟩ := h
 refine ⟨a, c, h1, h2, h3, ?_⟩
 rcases h4 with h4 | ⟨g, off, F, ha, hlo, hgs, hc⟩
 ·exact .inl (List.eq_nil_of_length_eq_zero h4)
 refine .inr ⟨g, off, ha, hgs, fun i hi => ?_⟩
 obtain ⟨q1, q2⟩ := hc i hi
 obtain ⟨v, hv⟩ : ∃ v, (F i)[0]? = some v := ⟨(F i)[0]'(by omega), by simp⟩
 obtain ⟨q3, q4⟩ := q2 0 v hv
 rw [Nat.mul_one, Nat.add_zero] at q3
 rw [q3]
 exact congrArg some q4
theorem Rd.bools {w : World} {lo : Nat} {bs : List Bool} {v : Value} (h : Rd w lo (boolsT bs) v) : ∃ a c, v = .slice a bs.length c /\ bs.length <= c /\ bs.length <= maxLen /\ SlB w a bs := by
 obtain ⟨a, c, h1, h2, h3, h4⟩ := h
 refine ⟨a, c, h1, h2, h3, ?_⟩
 rcases h4 with h4 | ⟨g, off, F, ha, hlo, hgs, hc⟩
 ·exact .inl (List.eq_nil_of_length_eq_zero h4)
 refine .inr ⟨g, off, ha, hgs, fun i hi => ?_⟩
 obtain ⟨q1, q2⟩ := hc i hi
 obtain ⟨v, hv⟩ : ∃ v, (F i)[0]? = some v := ⟨(F i)[0]'(by omega), by simp⟩
 obtain ⟨q3, q4⟩ := q2 0 v hv
 rw [Nat.mul_one, Nat.add_zero] at q3
 rw [q3]
 exact congrArg some q4
theorem rd_ints {w : World} {lo n c : Nat} {a : Option Addr} {ws : List Int} (hn : n = ws.length) (hc : n <= c) (hm : n <= maxLen) (h : SlI w a ws) (hlo : ∀ g, (Value.slice a n c).ownBlock = some g -> lo <= g) : Rd w lo (intsT ws) (.slice a n c) := by
 subst hn
 refine ⟨a, c, rfl, hc, hm, ?_⟩
 rcases h with h | ⟨b, off, ha, hb, h⟩
 ·exact .inl (by rw [h]; rfl)
 subst ha
 refine .inr ⟨b, off, fun k => [.int .i64 (ws.getD k 0)], rfl, hlo b rfl, hb, fun k hk => ⟨rfl, fun j v hj => ?_⟩⟩
 match j, hj with
 | 0, hj =>
  simp only [List.getElem?_cons_zero, Option.some.injEq] at hj
  subst hj
  exact ⟨by rw [Nat.mul_one, Nat.add_zero]; exact h k hk, rfl⟩
 | j + 1, hj => simp at hj
theorem rd_bools {w : World} {lo n c : Nat} {a : Option Addr} {bs : List Bool} (hn : n = bs.length) (hc : n <= c) (hm : n <= maxLen) (h : SlB w a bs) (hlo : ∀ g, (Value.slice a n c).ownBlock = some g -> lo <= g) : Rd w lo (boolsT bs) (.slice a n c) := by
 subst hn
 refine ⟨a, c, rfl, hc, hm, ?_⟩
 rcases h with h | ⟨b, off, ha, hb, h⟩
 ·exact .inl (by rw [h]; rfl)
 subst ha
 refine .inr ⟨b, off, fun k => [.bool (bs.getD k false)], rfl, hlo b rfl, hb, fun k hk => ⟨rfl, fun j v hj => ?_⟩⟩
 match j, hj with
 | 0, hj =>
  simp only [List.getElem?_cons_zero, Option.some.injEq] at hj
  subst hj
  exact ⟨by rw [Nat.mul_one, Nat.add_zero]; exact h k hk, rfl⟩
 | j + 1, hj => simp at hj
theorem OwnI.rd {w : World} {lo n c : Nat} {a : Option Addr} {ws : List Int} (h : OwnI w lo (.slice a n c) ws) (hc : n <= c) (hm : n <= maxLen) : Rd w lo (intsT ws) (.slice a n c) :=
 rd_ints h.sl.1 hc hm h.sl.2 (fun g hg => (World.ownsRow.lt h g hg).1)
theorem OwnB.rd {w : World} {lo n c : Nat} {a : Option Addr} {bs : List Bool} (h : OwnB w lo (.slice a n c) bs) (hc : n <= c) (hm : n <= maxLen) : Rd w lo (boolsT bs) (.slice a n c) :=
 rd_bools h.sl.1 hc hm h.sl.2 (fun g hg => (World.ownsRow.lt h g hg).1)
def trs (l : List Tr) : Nat -> Tr := fun j => l.getD j (.leaf undef)
theorem RdL.get {w : World} {lo j : Nat} {l : List Tr} {vs : List Value} {t : Tr} {v : Value} (h : RdL w lo (trs l) vs) (hv : vs[j]? = some v) (ht : l[j]? = some t) : Rd w lo t v := by
 have := h j v hv
 unfold trs at this
 rw [List.getD_eq_getElem?_getD, ht] at this
 exact this
theorem RdL.mk {w : World} {lo : Nat} {l : List Tr} {vs : List Value} (h : ∀ (j : Nat) v t, vs[j]? = some v -> l[j]? = some t -> Rd w lo t v) (hl : vs.length <= l.length) : RdL w lo (trs l) vs := fun j v hv => by
 have hj : j < vs.length := (List.getElem?_eq_some_iff.1 hv).1
 obtain ⟨t, ht⟩ : ∃ t, l[j]? = some t := ⟨l[j]'(by omega), by simp⟩
 unfold trs
 rw [List.getD_eq_getElem?_getD, ht]
 exact h j v t hv ht
end Go.Proofs.Ytplaoagcedgdfaa
namespace Go.Proofs.Ytplaoagcedgdfaa
open Go.RowKit Go.Joins
theorem Tr.sz_leaf (v : Value) : (Tr.leaf v).sz = 0 := rfl
structure VQ where
 kd : Int
 pl : Int
 n : Int
 ws : List Int
 bs : List Bool
 wa : Int
instance : Inhabited VQ := ⟨⟨0, 0, 0, [], [], 0⟩⟩
def qT (X : VQ) : List Tr := [.leaf (.int .i64 X.kd), .leaf (.int .i64 X.pl), .leaf (.int .i64 X.n), intsT X.ws, boolsT X.bs, .leaf (.int .i64 X.wa)]
abbrev qL (X : VQ) (a1 : Option Addr) (l1 c1 : Nat) (a2 : Option Addr) (l2 c2 : Nat) : List Value := [.int .i64 X.kd, .int .i64 X.pl, .int .i64 X.n, .slice a1 l1 c1, .slice a2 l2 c2, .int .i64 X.wa]
theorem szT_q (X : VQ) : szT 6 (trs (qT X)) = X.ws.length + X.bs.length := by
 simp [szT, sumN, trs, qT, Tr.sz_leaf, intsT_sz, boolsT_sz]
structure VA where
 kd : Int
 fl : Int
 pl : Int
 n : Int
 ws : List Int
 bs : List Bool
instance : Inhabited VA := ⟨⟨0, 0, 0, 0, [], []⟩⟩
def aT (X : VA) : List Tr := [.leaf (.int .i64 X.kd), .leaf (.int .i64 X.fl), .leaf (.int .i64 X.pl), .leaf (.int .i64 X.n), intsT X.ws, boolsT X.bs]
abbrev aL (X : VA) (a1 : Option Addr) (l1 c1 : Nat) (a2 : Option Addr) (l2 c2 : Nat) : List Value := [.int .i64 X.kd, .int .i64 X.fl, .int .i64 X.pl, .int .i64 X.n, .slice a1 l1 c1, .slice a2 l2 c2]
theorem VA.cells {w : World} {lo : Nat} {X : VA} {vs : List Value} (h : RdL w lo (trs (aT X)) vs) (hl : vs.length = 6) : ∃ a1 c1 a2 c2, vs = aL X a1 (X.ws.length) c1 a2 (X.bs.length) c2 /\ Rd w lo (intsT X.ws) (.slice a1 (X.ws.length) c1) /\ Rd w lo (boolsT X.bs) (.slice a2 (X.bs.length) c2) := by
 match vs, hl with
 | [v0, v1, v2, v3, v4, v5], _ =>
  have e0 : v0 = .int .i64 X.kd := RdL.get h (j := 0) rfl rfl
  have e1 : v1 = .int .i64 X.fl := RdL.get h (j := 1) rfl rfl
  have e2 : v2 = .int .i64 X.pl := RdL.get h (j := 2) rfl rfl
  have e3 : v3 = .int .i64 X.n := RdL.get h (j := 3) rfl rfl
  have r1 : Rd w lo (intsT X.ws) v4 := RdL.get h (j := 4) rfl rfl
  obtain ⟨a1, c1, e4, _⟩ := r1.shape
  have r2 : Rd w lo (boolsT X.bs) v5 := RdL.get h (j := 5) rfl rfl
  obtain ⟨a2, c2, e5, _⟩ := r2.shape
  subst e0 e1 e2 e3 e4 e5
  exact ⟨a1, c1, a2, c2, rfl, r1, r2⟩
theorem VA.back {w : World} {lo : Nat} {X : VA} {a1 : Option Addr} {l1 c1 : Nat} {a2 : Option Addr} {l2 c2 : Nat} (r1 : Rd w lo (intsT X.ws) (.slice a1 l1 c1)) (r2 : Rd w lo (boolsT X.bs) (.slice a2 l2 c2)) : RdL w lo (trs (aT X)) (aL X a1 l1 c1 a2 l2 c2) := by
 refine RdL.mk (fun j v t hv ht => ?_) (by simp [aT])
 match j, hv, ht with
 | 0, hv, ht =>
  obtain rfl := Option.some.inj (show some _ = some v from hv)
  obtain rfl := Option.some.inj (show some _ = some t from ht)
  exact rfl
 | 1, hv, ht =>
  obtain rfl := Option.some.inj (show some _ = some v from hv)
  obtain rfl := Option.some.inj (show some _ = some t from ht)
  exact rfl
 | 2, hv, ht =>
  obtain rfl := Option.some.inj (show some _ = some v from hv)
  obtain rfl := Option.some.inj (show some _ = some t from ht)
  exact rfl
 | 3, hv, ht =>
  obtain rfl := Option.some.inj (show some _ = some v from hv)
  obtain rfl := Option.some.inj (show some _ = some t from ht)
  exact rfl
 | 4, hv, ht =>
  obtain rfl := Option.some.inj (show some _ = some v from hv)
  obtain rfl := Option.some.inj (show some _ = some t from ht)
  exact r1
 | 5, hv, ht =>
  obtain rfl := Option.some.inj (show some _ = some v from hv)
  obtain rfl := Option.some.inj (show some _ = some t from ht)
  exact r2
 | j + 6, hv, ht => simp at hv
theorem szT_a (X : VA) : szT 6 (trs (aT X)) = X.ws.length + X.bs.length := by
 simp [szT, sumN, trs, aT, Tr.sz_leaf, intsT_sz, boolsT_sz]
structure VP where
 p : Int
 t : Int
 q : VQ
instance : Inhabited VP := ⟨⟨0, 0, default⟩⟩
def pT (X : VP) : List Tr := [.leaf (.int .i64 X.p), .leaf (.int .i64 X.t), .leaf (.int .i64 X.q.kd), .leaf (.int .i64 X.q.pl), .leaf (.int .i64 X.q.n), intsT X.q.ws, boolsT X.q.bs, .leaf (.int .i64 X.q.wa)]
abbrev pL (X : VP) (a1 : Option Addr) (l1 c1 : Nat) (a2 : Option Addr) (l2 c2 : Nat) : List Value := [.int .i64 X.p, .int .i64 X.t, .int .i64 X.q.kd, .int .i64 X.q.pl, .int .i64 X.q.n, .slice a1 l1 c1, .slice a2 l2 c2, .int .i64 X.q.wa]
theorem VP.cells {w : World} {lo : Nat} {X : VP} {vs : List Value} (h : RdL w lo (trs (pT X)) vs) (hl : vs.length = 8) : ∃ a1 c1 a2 c2, vs = pL X a1 (X.q.ws.length) c1 a2 (X.q.bs.length) c2 /\ Rd w lo (intsT X.q.ws) (.slice a1 (X.q.ws.length) c1) /\ Rd w lo (boolsT X.q.bs) (.slice a2 (X.q.bs.length) c2) := by
 match vs, hl with
 | [v0, v1, v2, v3, v4, v5, v6, v7], _ =>
  have e0 : v0 = .int .i64 X.p := RdL.get h (j := 0) rfl rfl
  have e1 : v1 = .int .i64 X.t := RdL.get h (j := 1) rfl rfl
  have e2 : v2 = .int .i64 X.q.kd := RdL.get h (j := 2) rfl rfl
  have e3 : v3 = .int .i64 X.q.pl := RdL.get h (j := 3) rfl rfl
  have e4 : v4 = .int .i64 X.q.n := RdL.get h (j := 4) rfl rfl
  have r1 : Rd w lo (intsT X.q.ws) v5 := RdL.get h (j := 5) rfl rfl
  obtain ⟨a1, c1, e5, _⟩ := r1.shape
  have r2 : Rd w lo (boolsT X.q.bs) v6 := RdL.get h (j := 6) rfl rfl
  obtain ⟨a2, c2, e6, _⟩ := r2.shape
  have e7 : v7 = .int .i64 X.q.wa := RdL.get h (j := 7) rfl rfl
  subst e0 e1 e2 e3 e4 e5 e6 e7
  exact ⟨a1, c1, a2, c2, rfl, r1, r2⟩
theorem VP.back {w : World} {lo : Nat} {X : VP} {a1 : Option Addr} {l1 c1 : Nat} {a2 : Option Addr} {l2 c2 : Nat} (r1 : Rd w lo (intsT X.q.ws) (.slice a1 l1 c1)) (r2 : Rd w lo (boolsT X.q.bs) (.slice a2 l2 c2)) : RdL w lo (trs (pT X)) (pL X a1 l1 c1 a2 l2 c2) := by
 refine RdL.mk (fun j v t hv ht => ?_) (by simp [pT])
 match j, hv, ht with
 | 0, hv, ht =>
  obtain rfl := Option.some.inj (show some _ = some v from hv)
  obtain rfl := Option.some.inj (show some _ = some t from ht)
  exact rfl
 | 1, hv, ht =>
  obtain rfl := Option.some.inj (show some _ = some v from hv)
  obtain rfl := Option.some.inj (show some _ = some t from ht)
  exact rfl
 | 2, hv, ht =>
  obtain rfl := Option.some.inj (show some _ = some v from hv)
  obtain rfl := Option.some.inj (show some _ = some t from ht)
  exact rfl
 | 3, hv, ht =>
  obtain rfl := Option.some.inj (show some _ = some v from hv)
  obtain rfl := Option.some.inj (show some _ = some t from ht)
  exact rfl
 | 4, hv, ht =>
  obtain rfl := Option.some.inj (show some _ = some v from hv)
  obtain rfl := Option.some.inj (show some _ = some t from ht)
  exact rfl
 | 5, hv, ht =>
  obtain rfl := Option.some.inj (show some _ = some v from hv)
  obtain rfl := Option.some.inj (show some _ = some t from ht)
  exact r1
 | 6, hv, ht =>
  obtain rfl := Option.some.inj (show some _ = some v from hv)
  obtain rfl := Option.some.inj (show some _ = some t from ht)
  exact r2
 | 7, hv, ht =>
  obtain rfl := Option.some.inj (show some _ = some v from hv)
  obtain rfl := Option.some.inj (show some _ = some t from ht)
  exact rfl
 | j + 8, hv, ht => simp at hv
theorem szT_p (X : VP) : szT 8 (trs (pT X)) = X.q.ws.length + X.q.bs.length := by
 simp [szT, sumN, trs, pT, Tr.sz_leaf, intsT_sz, boolsT_sz]
structure VD where
 id : Int
 so : Int
 ta : Int
 un : Int
 q : VQ
 np : Nat
 pt : Nat -> VP
 hs : List Bool
 nt : Nat
 tl : Nat -> VA
instance : Inhabited VD := ⟨⟨0, 0, 0, 0, default, 0, fun _ => default, [], 0, fun _ => default⟩⟩
def dT (X : VD) : List Tr := [.leaf (.int .i64 X.id), .leaf (.int .i64 X.so), .leaf (.int .i64 X.ta), .leaf (.int .i64 X.un), .leaf (.int .i64 X.q.kd), .leaf (.int .i64 X.q.pl), .leaf (.int .i64 X.q.n), intsT X.q.ws, boolsT X.q.bs, .leaf (.int .i64 X.q.wa), .list 8 X.np (fun i => trs (pT (X.pt i))), boolsT X.hs, .list 6 X.nt (fun i => trs (aT (X.tl i)))]
abbrev dL (X : VD) (a1 : Option Addr) (l1 c1 : Nat) (a2 : Option Addr) (l2 c2 : Nat) (a3 : Option Addr) (l3 c3 : Nat) (a4 : Option Addr) (l4 c4 : Nat) (a5 : Option Addr) (l5 c5 : Nat) : List Value := [.int .i64 X.id, .int .i64 X.so, .int .i64 X.ta, .int .i64 X.un, .int .i64 X.q.kd, .int .i64 X.q.pl, .int .i64 X.q.n, .slice a1 l1 c1, .slice a2 l2 c2, .int .i64 X.q.wa, .slice a3 l3 c3, .slice a4 l4 c4, .slice a5 l5 c5]
theorem VD.cells {w : World} {lo : Nat} {X : VD} {vs : List Value} (h : RdL w lo (trs (dT X)) vs) (hl : vs.length = 13) : ∃ a1 c1 a2 c2 a3 c3 a4 c4 a5 c5, vs = dL X a1 (X.q.ws.length) c1 a2 (X.q.bs.length) c2 a3 (X.np) c3 a4 (X.hs.length) c4 a5 (X.nt) c5 /\ Rd w lo (intsT X.q.ws) (.slice a1 (X.q.ws.length) c1) /\ Rd w lo (boolsT X.q.bs) (.slice a2 (X.q.bs.length) c2) /\ Rd w lo (.list 8 X.np (fun i => trs (pT (X.pt i)))) (.slice a3 (X.np) c3) /\ Rd w lo (boolsT X.hs) (.slice a4 (X.hs.length) c4) /\ Rd w lo (.list 6 X.nt (fun i => trs (aT (X.tl i)))) (.slice a5 (X.nt) c5) := by
 match vs, hl with
 | [v0, v1, v2, v3, v4, v5, v6, v7, v8, v9, v10, v11, v12], _ =>
  have e0 : v0 = .int .i64 X.id := RdL.get h (j := 0) rfl rfl
  have e1 : v1 = .int .i64 X.so := RdL.get h (j := 1) rfl rfl
  have e2 : v2 = .int .i64 X.ta := RdL.get h (j := 2) rfl rfl
  have e3 : v3 = .int .i64 X.un := RdL.get h (j := 3) rfl rfl
  have e4 : v4 = .int .i64 X.q.kd := RdL.get h (j := 4) rfl rfl
  have e5 : v5 = .int .i64 X.q.pl := RdL.get h (j := 5) rfl rfl
  have e6 : v6 = .int .i64 X.q.n := RdL.get h (j := 6) rfl rfl
  have r1 : Rd w lo (intsT X.q.ws) v7 := RdL.get h (j := 7) rfl rfl
  obtain ⟨a1, c1, e7, _⟩ := r1.shape
  have r2 : Rd w lo (boolsT X.q.bs) v8 := RdL.get h (j := 8) rfl rfl
  obtain ⟨a2, c2, e8, _⟩ := r2.shape
  have e9 : v9 = .int .i64 X.q.wa := RdL.get h (j := 9) rfl rfl
  have r3 : Rd w lo (.list 8 X.np (fun i => trs (pT (X.pt i)))) v10 := RdL.get h (j := 10) rfl rfl
  obtain ⟨a3, c3, e10, _⟩ := r3.shape
  have r4 : Rd w lo (boolsT X.hs) v11 := RdL.get h (j := 11) rfl rfl
  obtain ⟨a4, c4, e11, _⟩ := r4.shape
  have r5 : Rd w lo (.list 6 X.nt (fun i => trs (aT (X.tl i)))) v12 := RdL.get h (j := 12) rfl rfl
  obtain ⟨a5, c5, e12, _⟩ := r5.shape
  subst e0 e1 e2 e3 e4 e5 e6 e7 e8 e9 e10 e11 e12
  exact ⟨a1, c1, a2, c2, a3, c3, a4, c4, a5, c5, rfl, r1, r2, r3, r4, r5⟩
theorem VD.back {w : World} {lo : Nat} {X : VD} {a1 : Option Addr} {l1 c1 : Nat} {a2 : Option Addr} {l2 c2 : Nat} {a3 : Option Addr} {l3 c3 : Nat} {a4 : Option Addr} {l4 c4 : Nat} {a5 : Option Addr} {l5 c5 : Nat} (r1 : Rd w lo (intsT X.q.ws) (.slice a1 l1 c1)) (r2 : Rd w lo (boolsT X.q.bs) (.slice a2 l2 c2)) (r3 : Rd w lo (.list 8 X.np (fun i => trs (pT (X.pt i)))) (.slice a3 l3 c3)) (r4 : Rd w lo (boolsT X.hs) (.slice a4 l4 c4)) (r5 : Rd w lo (.list 6 X.nt (fun i => trs (aT (X.tl i)))) (.slice a5 l5 c5)) : RdL w lo (trs (dT X)) (dL X a1 l1 c1 a2 l2 c2 a3 l3 c3 a4 l4 c4 a5 l5 c5) := by
 refine RdL.mk (fun j v t hv ht => ?_) (by simp [dT])
 match j, hv, ht with
 | 0, hv, ht =>
  obtain rfl := Option.some.inj (show some _ = some v from hv)
  obtain rfl := Option.some.inj (show some _ = some t from ht)
  exact rfl
 | 1, hv, ht =>
  obtain rfl := Option.some.inj (show some _ = some v from hv)
  obtain rfl := Option.some.inj (show some _ = some t from ht)
  exact rfl
 | 2, hv, ht =>
  obtain rfl := Option.some.inj (show some _ = some v from hv)
  obtain rfl := Option.some.inj (show some _ = some t from ht)
  exact rfl
 | 3, hv, ht =>
  obtain rfl := Option.some.inj (show some _ = some v from hv)
  obtain rfl := Option.some.inj (show some _ = some t from ht)
  exact rfl
 | 4, hv, ht =>
  obtain rfl := Option.some.inj (show some _ = some v from hv)
  obtain rfl := Option.some.inj (show some _ = some t from ht)
  exact rfl
 | 5, hv, ht =>
  obtain rfl := Option.some.inj (show some _ = some v from hv)
  obtain rfl := Option.some.inj (show some _ = some t from ht)
  exact rfl
 | 6, hv, ht =>
  obtain rfl := Option.some.inj (show some _ = some v from hv)
  obtain rfl := Option.some.inj (show some _ = some t from ht)
  exact rfl
 | 7, hv, ht =>
  obtain rfl := Option.some.inj (show some _ = some v from hv)
  obtain rfl := Option.some.inj (show some _ = some t from ht)
  exact r1
 | 8, hv, ht =>
  obtain rfl := Option.some.inj (show some _ = some v from hv)
  obtain rfl := Option.some.inj (show some _ = some t from ht)
  exact r2
 | 9, hv, ht =>
  obtain rfl := Option.some.inj (show some _ = some v from hv)
  obtain rfl := Option.some.inj (show some _ = some t from ht)
  exact rfl
 | 10, hv, ht =>
  obtain rfl := Option.some.inj (show some _ = some v from hv)
  obtain rfl := Option.some.inj (show some _ = some t from ht)
  exact r3
 | 11, hv, ht =>
  obtain rfl := Option.some.inj (show some _ = some v from hv)
  obtain rfl := Option.some.inj (show some _ = some t from ht)
  exact r4
 | 12, hv, ht =>
  obtain rfl := Option.some.inj (show some _ = some v from hv)
  obtain rfl := Option.some.inj (show some _ = some t from ht)
  exact r5
 | j + 13, hv, ht => simp at hv
theorem szT_d (X : VD) : szT 13 (trs (dT X)) = X.q.ws.length + X.q.bs.length + (Tr.list 8 X.np (fun i => trs (pT (X.pt i)))).sz + X.hs.length + (Tr.list 6 X.nt (fun i => trs (aT (X.tl i)))).sz := by
 simp [szT, sumN, trs, dT, Tr.sz_leaf, intsT_sz, boolsT_sz]
structure VT where
 nx : Int
 m : Nat
 f : Nat -> VD
instance : Inhabited VT := ⟨⟨0, 0, fun _ => default⟩⟩
def tT (X : VT) : List Tr := [.leaf (.int .i64 X.nx), .list 13 X.m (fun i => trs (dT (X.f i)))]
abbrev tL (X : VT) (a1 : Option Addr) (l1 c1 : Nat) : List Value := [.int .i64 X.nx, .slice a1 l1 c1]
theorem szT_t (X : VT) : szT 2 (trs (tT X)) = (Tr.list 13 X.m (fun i => trs (dT (X.f i)))).sz := by
 simp [szT, sumN, trs, tT, Tr.sz_leaf, intsT_sz, boolsT_sz]
end Go.Proofs.Ytplaoagcedgdfaa

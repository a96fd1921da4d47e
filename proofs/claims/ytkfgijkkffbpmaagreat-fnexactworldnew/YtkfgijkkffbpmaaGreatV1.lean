/- Texts that the proof needs, joined: Bys0 Bys Marks Box StR ArgS Ios Bos Req1 Cpy El0 Cl1 Cl2 Mid Mid2 Wr1 Resp1 Tr0 Tr1 ArgTr ArgQ Marks2 Steps Bits. -/
import Derived.Test.YtkfgijkkffbpmaaGreatChecked
import Derived.WalkKit
import Derived.Deep.OwnRows
import Derived.Deep.QuietTactic
import Derived.BigQuiet
import Derived.Lib.SmallJoins
import Derived.Laws.MakeOwn
import Derived.ProofKit
import Derived.OpenShut
import Derived.Deep.Grids
import Derived.Deep.Cut
import Derived.Deep.CutRange
import Derived.Deep.DeepCutAuto
import Derived.WideMake
import Derived.Carry
import Derived.Laws.CopyOwn
import Derived.Deep.RegionHeld3
import Derived.Deep.MidRow
import Derived.Deep.Slices
import Derived.Deep.RegionLaw
set_option linter.unusedVariables false
set_option linter.unusedSimpArgs false
set_option maxHeartbeats 2000000
namespace Go.Proofs.YtkfgijkkffbpmaaGreat
open Go.RowKit
def Sl (w : World) (a : Option Addr) (zs : List Int) : Prop :=
 zs = [] \/ ∃ b off, a = some ⟨b, off, none⟩ /\ b < w.heap.size /\ ∀ i, i < zs.length -> w.cell? ⟨b, off + i, none⟩ = some (.int .u8 (zs.getD i 0))
theorem bel_drewN {B : Nat} {a w : World} (h : Below B a w) (n : Nat) : Below B a (w.drewN n) := h.trans ⟨rfl, rfl, rfl, Nat.le_refl _, fun _ _ => rfl⟩
theorem ret_int {k : IntKind} {a b : Int} (h : a = b) : Ending.returned (.int k a) = .returned (.int k b) := by rw [h]
def Own (w : World) (base : Nat) (v : Value) (zs : List Int) : Prop := w.ownsRow base 5 1 v zs.length (zs.map (Value.int .u8))
theorem grown_below {w w' : World} (hb : Below w.heap.size w w') (row : Option Nat) : w.grownBy w' row := ⟨hb.os, hb.tape, hb.output, hb.size, fun k hk _ => hb.block k hk⟩
end Go.Proofs.YtkfgijkkffbpmaaGreat
namespace Go.Proofs.YtkfgijkkffbpmaaGreat
open Go.RowKit
end Go.Proofs.YtkfgijkkffbpmaaGreat
namespace Go.Proofs.YtkfgijkkffbpmaaGreat
open Go.RowKit
def marks (n : Nat) : List Int := (List.range n).map (fun i : Nat => ((i : Int) + 1) % 256)
def Marked (w wr : World) (g cap k : Nat) : Prop :=
 w.grownBy wr (some g) /\ ∃ cur, wr.heap[g]? = some (.cells cur 5 (0, 0)) /\ cur.size = cap /\ ∀ i, i < k -> cur[i]? = some (.int .u8 (((i : Int) + 1) % 256))
theorem drew_refl (w : World) (n : Nat) : Below w.heap.size w (w.drewN n) := bel_drewN (Below.refl _ _) n
theorem hide {p : Prop} (h : p) : Hid p := h
end Go.Proofs.YtkfgijkkffbpmaaGreat
namespace Go.Proofs.YtkfgijkkffbpmaaGreat
open Go.RowKit
def Box (w : World) (g : Nat) (t : TypeId) (v : Value) : Prop := w.heap[g]? = some (.cells #[v] t (0, 0))
end Go.Proofs.YtkfgijkkffbpmaaGreat
namespace Go.Proofs.YtkfgijkkffbpmaaGreat
open Go.RowKit Go.Joins
theorem idx_inj {s i k j l : Nat} (hj : j < s) (hl : l < s) (h : i * s + j = k * s + l) : i = k /\ j = l := by
 have e1 : (i * s + j) / s = i := by rw [Nat.mul_comm, Nat.mul_add_div (by omega), Nat.div_eq_of_lt hj, Nat.add_zero]
 have e2 : (k * s + l) / s = k := by rw [Nat.mul_comm, Nat.mul_add_div (by omega), Nat.div_eq_of_lt hl, Nat.add_zero]
 have : i = k := by rw [<- e1, h, e2]
 subst this
 exact ⟨rfl, by omega⟩
def CsAt (w : World) (g o : Nat) (vs : List Value) : Prop := ∀ j, j < vs.length -> w.cell? ⟨g, o + j, none⟩ = vs[j]?
def RowS (w : World) (g : Nat) (t : TypeId) (s n : Nat) (F : Nat -> List Value) : Prop :=
 ∃ cs, w.heap[g]? = some (.cells cs t (0, 0)) /\ cs.size = n * s /\ ∀ k, k < n -> ∀ j, j < s -> cs[k * s + j]? = (F k)[j]?
def setL (w : World) (g : Nat) : Nat -> List Value -> World
 | _, [] => w
 | o, v :: vs => setL (w.setCell ⟨g, o, none⟩ v) g (o + 1) vs
theorem setL_block {g : Nat} {t : TypeId} {fr : Nat × Nat} : ∀ (vs : List Value) (w : World) (o : Nat) (cs : Array Value), w.heap[g]? = some (.cells cs t fr) ->
 ∃ cs', (setL w g o vs).heap[g]? = some (.cells cs' t fr) /\ cs'.size = cs.size /\ ∀ i, i < cs.size -> cs'[i]? = if o <= i /\ i < o + vs.length then vs[i - o]? else cs[i]?
 | [], w, o, cs, h => ⟨cs, h, rfl, fun i _ => by rw [if_neg (by simp)]⟩
 | v :: vs, w, o, cs, h => by
  obtain ⟨cs', h1, h2, h3⟩ := setL_block vs (w.setCell ⟨g, o, none⟩ v) (o + 1) (cs.setIfInBounds o v) (block_setCell h v)
  refine ⟨cs', h1, by simpa using h2, fun i hi => ?_⟩
  rw [h3 i (by simpa using hi)]
  by_cases e : i = o
  ·subst e
   rw [if_neg (by omega), if_pos (by simp)]
   simp [hi]
  by_cases e2 : o <= i /\ i < o + (v :: vs).length
  ·rw [if_pos (by simp at e2; omega), if_pos e2]
   obtain ⟨d, rfl⟩ : ∃ d, i = o + 1 + d := ⟨i - (o + 1), by omega⟩
   rw [show o + 1 + d - (o + 1) = d by omega, show o + 1 + d - o = d + 1 by omega]
   simp
  rw [if_neg (by simp at e2; omega), if_neg e2, Array.getElem?_setIfInBounds_ne (by omega)]
theorem setL_size (vs : List Value) : ∀ (w : World) (g o : Nat), (setL w g o vs).heap.size = w.heap.size := by
 induction vs with
 | nil => intro w g o; rfl
 | cons v vs ih => intro w g o; show (setL (w.setCell ⟨g, o, none⟩ v) g (o + 1) vs).heap.size = _; rw [ih]; simp [World.setCell]
theorem setL_below {B g : Nat} {w0 : World} (hg : B <= g) : ∀ (vs : List Value) (w : World) (o : Nat), Below B w0 w -> Below B w0 (setL w g o vs)
 | [], _, _, h => h
 | v :: vs, w, o, h => setL_below hg vs (w.setCell ⟨g, o, none⟩ v) (o + 1) (h.setCell hg v)
theorem RowS.lt {w : World} {g : Nat} {t : TypeId} {s n : Nat} {F : Nat -> List Value} (h : RowS w g t s n F) : g < w.heap.size := by
 obtain ⟨cs, h, _⟩ := h
 exact (Array.getElem?_eq_some_iff.1 h).1
theorem RowS.cell {w : World} {g : Nat} {t : TypeId} {s n : Nat} {F : Nat -> List Value} (h : RowS w g t s n F) {k j : Nat} (hk : k < n) (hj : j < s) : w.cell? ⟨g, k * s + j, none⟩ = (F k)[j]? := by
 obtain ⟨cs, h1, _, h3⟩ := h
 rw [cell_of_block h1]
 exact h3 k hk j hj
theorem RowS.fro {w : World} {g : Nat} {t : TypeId} {s n : Nat} {F : Nat -> List Value} (h : RowS w g t s n F) (o : Nat) : w.frozen? ⟨g, o, none⟩ = false := by
 obtain ⟨cs, h1, _⟩ := h
 exact unfrozen_of_block h1 o
theorem RowS.below {w w' : World} {g : Nat} {t : TypeId} {s n : Nat} {F : Nat -> List Value} (h : RowS w g t s n F) (hb : Below w.heap.size w w') : RowS w' g t s n F := by
 have hl := h.lt
 obtain ⟨cs, h1, h2, h3⟩ := h
 exact ⟨cs, by rw [hb.block _ hl]; exact h1, h2, h3⟩
theorem RowS.congr {w : World} {g : Nat} {t : TypeId} {s n : Nat} {F G : Nat -> List Value} (h : RowS w g t s n F) (he : ∀ k, k < n -> F k = G k) : RowS w g t s n G := by
 obtain ⟨cs, h1, h2, h3⟩ := h
 exact ⟨cs, h1, h2, fun k hk j hj => by rw [<- he k hk]; exact h3 k hk j hj⟩
theorem RowS.kept {w w' : World} {g : Nat} {t : TypeId} {s n : Nat} {F : Nat -> List Value} {row : Option Nat} (h : RowS w g t s n F) (hg : w.grownBy w' row) (hne : row ≠ some g) : RowS w' g t s n F := by
 have hl := h.lt
 obtain ⟨cs, h1, h2, h3⟩ := h
 exact ⟨cs, by rw [hg.block g hl (fun e => hne e.symm)]; exact h1, h2, h3⟩
theorem RowS.set {w : World} {g : Nat} {t : TypeId} {s n : Nat} {F : Nat -> List Value} (h : RowS w g t s n F) {k : Nat} (hk : k < n) (vs : List Value) (hv : vs.length = s) : RowS (setL w g (k * s) vs) g t s n (fun i => if i = k then vs else F i) := by
 obtain ⟨cs, h1, h2, h3⟩ := h
 obtain ⟨cs', g1, g2, g3⟩ := setL_block vs w (k * s) cs h1
 refine ⟨cs', g1, by omega, fun i hi j hj => ?_⟩
 have hin : i * s + j < cs.size := by
  rw [h2]
  have : (i + 1) * s <= n * s := Nat.mul_le_mul_right s hi
  rw [Nat.add_mul, Nat.one_mul] at this
  omega
 rw [g3 _ hin]
 by_cases e : i = k
 ·subst e
  rw [if_pos (by omega), Nat.add_sub_cancel_left]
  simp
 rw [if_neg]
 ·rw [h3 i hi j hj]
  simp [e]
 intro ⟨e1, e2⟩
 obtain ⟨d, hd⟩ : ∃ d, i * s + j = k * s + d := ⟨i * s + j - k * s, by omega⟩
 exact e (idx_inj hj (by omega) hd).1
theorem run_make_st {P : Program} (t e : TypeId) (z : Value) (s bytes : Nat) (ht : P.underlying t = some (.slice e)) (hinfo : (P.info? e).map (fun i => (i.zero, i.size, i.bytes)) = some (some z, s, bytes))
 (kl kc : IntKind) (n : Nat) (hbytes : bytes * n <= 281474976710656) (h63 : n <= 9223372036854775807) (w : World) :
 (Instr.makeSlice t (.int kl (n : Int)) (.int kc (n : Int))).run P w = .ok (.slice (some ⟨w.heap.size, 0, none⟩) n n) (w.alloc (.cells (madeCells z.cells (n * s)) e)) := by
 obtain ⟨i, hi, hzz⟩ := Option.map_eq_some_iff.1 hinfo
 simp only [Prod.mk.injEq] at hzz
 obtain ⟨hz, hs, hb⟩ := hzz
 have hb' : (i.bytes : Int) * (n : Int) <= 281474976710656 := by
  have h : ((i.bytes * n : Nat) : Int) <= 281474976710656 := by rw [hb]; omega
  rwa [Int.natCast_mul] at h
 have hr := run_make (P := P) w t e i z ht hi hz kl kc n n (by omega) (Int.le_refl _) hb' (by omega)
 simp only [Int.toNat_natCast, hs] at hr
 exact hr
theorem RowS.made (w : World) (zs : List Value) (n : Nat) (t : TypeId) (h0 : 0 < zs.length) : RowS (w.alloc (.cells (madeCells zs.toArray (n * zs.length)) t)) w.heap.size t zs.length n (fun _ => zs) := by
 refine ⟨madeCells zs.toArray (n * zs.length), (by show (w.heap.push _)[w.heap.size]? = _; simp), size_madeCells _ _, fun k hk j hj => ?_⟩
 have hin : k * zs.length + j < n * zs.length := by
  have : (k + 1) * zs.length <= n * zs.length := Nat.mul_le_mul_right _ hk
  rw [Nat.add_mul, Nat.one_mul] at this
  omega
 have hm : (k * zs.length + j) % zs.length = j := by rw [Nat.add_comm, Nat.add_mul_mod_self_right, Nat.mod_eq_of_lt hj]
 simp [madeCells, hin, hm, hj]
def SlS (w : World) (a : Option Addr) (s n : Nat) (F : Nat -> List Value) : Prop :=
 n = 0 \/ ∃ b off, a = some ⟨b, off, none⟩ /\ b < w.heap.size /\ ∀ k, k < n -> ∀ j, j < s -> w.cell? ⟨b, off + k * s + j, none⟩ = (F k)[j]?
theorem SlS.below {w w' : World} {a : Option Addr} {s n : Nat} {F : Nat -> List Value} (h : SlS w a s n F) (hb : Below w.heap.size w w') : SlS w' a s n F := by
 rcases h with h | ⟨b, off, ha, hlt, hc⟩
 ·exact .inl h
 exact .inr ⟨b, off, ha, by have := hb.size; omega, fun k hk j hj => by rw [hb.cell (p := ⟨b, off + k * s + j, none⟩) hlt]; exact hc k hk j hj⟩
theorem SlS.at {w : World} {a : Option Addr} {s n : Nat} {F : Nat -> List Value} (h : SlS w a s n F) {k : Nat} (hk : k < n) : ∃ b off, a = some ⟨b, off, none⟩ /\ b < w.heap.size /\ ∀ j, j < s -> w.cell? ⟨b, off + k * s + j, none⟩ = (F k)[j]? := by
 rcases h with h | ⟨b, off, ha, hlt, hc⟩
 ·omega
 exact ⟨b, off, ha, hlt, hc k hk⟩
theorem RowS.sl {w : World} {g : Nat} {t : TypeId} {s n : Nat} {F : Nat -> List Value} (h : RowS w g t s n F) : SlS w (some ⟨g, 0, none⟩) s n F :=
 .inr ⟨g, 0, rfl, h.lt, fun k hk j hj => by rw [Nat.zero_add]; exact h.cell hk hj⟩
end Go.Proofs.YtkfgijkkffbpmaaGreat
namespace Go.Proofs.YtkfgijkkffbpmaaGreat
open Go.ChangeShapes Go.WideShapes Go.ChangeAt Go.RowKit Go.Deep Go.Joins
def InBys (w : World) (a : Option Addr) (len : Nat) (zs : List Int) : Prop := zs.length = len /\ len <= maxLen /\ Sl w a zs /\ ∀ n ∈ zs, 0 <= n /\ n <= 255
def SlB (w : World) (a : Option Addr) (zs : List Bool) : Prop :=
 zs = [] \/ ∃ b off, a = some ⟨b, off, none⟩ /\ b < w.heap.size /\ ∀ i, i < zs.length -> w.cell? ⟨b, off + i, none⟩ = some (.bool (zs.getD i false))
def InBos (w : World) (a : Option Addr) (len : Nat) (zs : List Bool) : Prop := zs.length = len /\ SlB w a zs
section
variable {H : Type} {enc : TypeId × Value -> H} {P : Program} {w : World} {base : Nat} {held : Bool}
end
end Go.Proofs.YtkfgijkkffbpmaaGreat
namespace Go.Proofs.YtkfgijkkffbpmaaGreat
open Go.RowKit
def SlI (w : World) (a : Option Addr) (zs : List Int) : Prop :=
 zs = [] \/ ∃ b off, a = some ⟨b, off, none⟩ /\ b < w.heap.size /\ ∀ i, i < zs.length -> w.cell? ⟨b, off + i, none⟩ = some (.int .i64 (zs.getD i 0))
theorem SlI.below {w w' : World} {a : Option Addr} {zs : List Int} (h : SlI w a zs) (hb : Below w.heap.size w w') : SlI w' a zs := by
 rcases h with h | ⟨b, off, ha, hlt, hc⟩
 ·exact .inl h
 exact .inr ⟨b, off, ha, by have := hb.size; omega, fun i hi => by rw [hb.cell (p := ⟨b, off + i, none⟩) hlt]; exact hc i hi⟩
theorem cell_atI {w : World} {a : Option Addr} {zs : List Int} (hs : SlI w a zs) {k : Nat} (hlt : k < zs.length) : ∃ b off, a = some ⟨b, off, none⟩ /\ b < w.heap.size /\ w.cell? ⟨b, off + k, none⟩ = some (.int .i64 (zs.getD k 0)) := by
 rcases hs with hs | ⟨b, off, h1, h2, h3⟩
 ·rw [hs] at hlt; simp at hlt
 exact ⟨b, off, h1, h2, h3 k hlt⟩
def OwnI (w : World) (base : Nat) (v : Value) (zs : List Int) : Prop := w.ownsRow base 3 1 v zs.length (zs.map (Value.int .i64))
theorem OwnI.sl {w : World} {base n cap : Nat} {a : Option Addr} {zs : List Int} (h : OwnI w base (.slice a n cap) zs) : n = zs.length /\ SlI w a zs := by
 obtain ⟨_, h2⟩ := h
 rcases h2 with ⟨h2, h3⟩ | ⟨g, cap', cur, hv, _, hh, hle, _, hs, ht⟩
 ·have e : zs = [] := List.eq_nil_of_length_eq_zero h3
  simp only [Value.slice.injEq] at h2
  exact ⟨by rw [h3]; exact h2.2.1, .inl e⟩
 simp only [Value.slice.injEq] at hv
 refine ⟨hv.2.1, .inr ⟨g, 0, hv.1, (Array.getElem?_eq_some_iff.1 hh).1, fun i hi => ?_⟩⟩
 have e1 : cur.toList[i]? = some (.int .i64 (zs.getD i 0)) := by
  have e2 : (cur.toList.take (zs.length * 1))[i]? = (zs.map (Value.int .i64))[i]? := by rw [ht]
  rw [List.getElem?_take, if_pos (by omega)] at e2
  rw [e2]
  simp [hi]
 simp only [World.cell?, hh, Nat.zero_add]
 rw [Array.getElem?_toList] at e1
 exact e1
theorem OwnI.kept {w w' : World} {base : Nat} {v : Value} {row : Option Nat} {zs : List Int} (h : OwnI w base v zs) (hg : w.grownBy w' row) (hne : v.ownBlock = none \/ v.ownBlock ≠ row) : OwnI w' base v zs := World.ownsRow.kept h hg hne
theorem OwnI.below {w w' : World} {base : Nat} {v : Value} {zs : List Int} (h : OwnI w base v zs) (hb : Below w.heap.size w w') : OwnI w' base v zs := by
 refine h.kept (grown_below hb (some w.heap.size)) ?_
 cases e : v.ownBlock with
 | none => exact .inl rfl
 | some k => exact .inr (fun e2 => by have := (World.ownsRow.lt h k e).2; simp at e2; omega)
theorem OwnI.ofRow {w : World} {base b n : Nat} {zs : List Int} (h : w.rowIs b 3 n (fun i => .int .i64 (zs.getD i 0))) (hn : n = zs.length) (hb : base <= b) (hm : n <= maxLen) : OwnI w base (.slice (some ⟨b, 0, none⟩) n n) zs := by
 subst hn
 obtain ⟨c, hc, hsz, hcell⟩ := h
 refine ⟨by simp, .inr ⟨b, zs.length, c, rfl, hb, hc, Nat.le_refl _, hm, by simpa using hsz, ?_⟩⟩
 apply List.ext_getElem?
 intro i
 by_cases hi : i < zs.length
 ·rw [List.getElem?_take, if_pos (by omega), Array.getElem?_toList, hcell i hi]
  simp [hi]
 rw [List.getElem?_eq_none (by simp; omega), List.getElem?_eq_none (by simp; omega)]
theorem Tryz.infoI3 : (Tryz.prog.info? 3).map (fun i => (i.zero, i.size, i.bytes)) = some (some (.int .i64 0), 1, 8) := by kernel_rfl
theorem toIntS_any (a : Option Addr) (n cap : Nat) (zs : List Int) (w : World) (hn : n = zs.length) (hs : SlI w a zs) (hl : zs.length <= 2000000) :
 Calls Tryz.prog 200 #[.slice a n cap] w fun e w' => e = .returned (.slice (some ⟨w.heap.size, 0, none⟩) n n) /\
  w'.rowIs w.heap.size 3 n (fun i => .int .i64 (zs.getD i 0)) /\ Below w.heap.size w w' := by
 subst hn
 have hmk := run_make_row' (P := Tryz.prog) 91 3 (.int .i64 0) 8 Tryz.underlying91 Tryz.infoI3 rfl .i64 .i64 zs.length (by omega) (by omega)
 go_enter Tryz.func200, Tryz.ntmps200
 go_wp2
 clear hmk
 go_loopw [4] (fun i wr => ∃ k : Nat, k <= zs.length /\ i = .int .i64 k /\ wr.rowIs w.heap.size 3 zs.length (fun i => if i < k then .int .i64 (zs.getD i 0) else .int .i64 0) /\ Below w.heap.size w wr) (fun i _ => zs.length - (intOf i).toNat)
 case atStart => exact ⟨0, Nat.zero_le _, rfl, (World.rowIs_made w _ _ _).congr (fun i _ => by simp), (Below.refl _ _).alloc (Nat.le_refl _) _⟩
 case round =>
  obtain ⟨k, hk, rfl, hrow, hb⟩ := hrel
  by_cases hlt : k < zs.length
  ·obtain ⟨b, off, rfl, hb0, hc0⟩ := cell_atI hs hlt
   have hc : wr.cell? ⟨b, off + k, none⟩ = some (.int .i64 (zs.getD k 0)) := by rw [hb.cell (p := ⟨b, off + k, none⟩) hb0]; exact hc0
   have hst := hrow.cell hlt
   simp only [Nat.lt_irrefl, if_false] at hst
   have hfz := hrow.frozen k
   have hi : (k : Int) < (zs.length : Int) := by omega
   have R : Hid ((wr.setCell ⟨w.heap.size, k, none⟩ (.int .i64 (zs.getD k 0))).rowIs w.heap.size 3 zs.length (fun i => if i < k + 1 then .int .i64 (zs.getD i 0) else .int .i64 0)) := by
    refine (hrow.set k _).congr (fun i _ => ?_)
    by_cases e : i = k
    ·subst e; simp
    rw [if_neg e]
    by_cases h : i < k
    ·rw [if_pos h, if_pos (by omega)]
    rw [if_neg h, if_neg (by omega)]
   have B1 : Below w.heap.size w (wr.setCell ⟨w.heap.size, k, none⟩ (.int .i64 (zs.getD k 0))) := hb.setCell (Nat.le_refl _) _
   clear hrow hb hc0 hs
   go_wp2
   go_roundw
   case rel => exact ⟨k + 1, by omega, by go_num, by simpa [hlt] using R.out, by simpa [hlt] using B1⟩
   case measure => simp [intOf]; omega
  have hkk : k = zs.length := by omega
  have R : Hid (wr.rowIs w.heap.size 3 zs.length (fun i => .int .i64 (zs.getD i 0))) := hrow.congr (fun i hi => by rw [if_pos (by omega)])
  clear hrow hs hkk
  go_wp2
  go_ret
  exact ⟨rfl, R.out, hb⟩
theorem eqIntS_true (a a' : Option Addr) (n n' cap cap' : Nat) (zs : List Int) (w : World) (hn : n = zs.length) (hn' : n' = zs.length) (hs : SlI w a zs) (hs' : SlI w a' zs) (hl : zs.length <= 2000000) :
 Calls Tryz.prog 213 #[.slice a n cap, .slice a' n' cap'] w fun e w' => e = .returned (.bool true) /\ ∃ n, w' = w.drewN n := by
 subst hn hn'
 go_enter Tryz.func213, Tryz.ntmps213
 go_wp2
 go_loopw [5] (fun i wr => ∃ k : Nat, k <= zs.length /\ i = .int .i64 k /\ ∃ n, wr = w.drewN n) (fun i _ => zs.length - (intOf i).toNat)
 case atStart => exact ⟨0, Nat.zero_le _, rfl, 0, rfl⟩
 case round =>
  obtain ⟨k, hk, rfl, n, rfl⟩ := hrel
  by_cases hlt : k < zs.length
  ·obtain ⟨b, off, rfl, _, hc⟩ := cell_atI hs hlt
   obtain ⟨b', off', rfl, _, hc'⟩ := cell_atI hs' hlt
   have hi : (k : Int) < (zs.length : Int) := by omega
   clear hs hs'
   go_wp2
   go_quiet (fail)
   go_wp2
   go_roundw
   case rel => exact ⟨k + 1, by omega, by go_num, _, rfl⟩
   case measure => simp [intOf]; omega
  clear hs hs'
  go_wp2
  go_ret
  exact ⟨rfl, _, rfl⟩
def marksI (s n : Nat) : List Int := (List.range n).map (fun i : Nat => (s : Int) + (i : Int))
theorem marksI_length (s n : Nat) : (marksI s n).length = n := by simp [marksI]
theorem marksI_get (s n i : Nat) (h : i < n) : (marksI s n).getD i 0 = (s : Int) + (i : Int) := by simp [marksI, h]
def MarkedI (s : Nat) (w wr : World) (g cap k : Nat) : Prop :=
 w.grownBy wr (some g) /\ ∃ cur, wr.heap[g]? = some (.cells cur 3 (0, 0)) /\ cur.size = cap /\ ∀ i, i < k -> cur[i]? = some (.int .i64 ((s : Int) + (i : Int)))
end Go.Proofs.YtkfgijkkffbpmaaGreat
namespace Go.Proofs.YtkfgijkkffbpmaaGreat
open Go.RowKit
theorem SlB.below {w w' : World} {a : Option Addr} {zs : List Bool} (h : SlB w a zs) (hb : Below w.heap.size w w') : SlB w' a zs := by
 rcases h with h | ⟨b, off, ha, hlt, hc⟩
 ·exact .inl h
 exact .inr ⟨b, off, ha, by have := hb.size; omega, fun i hi => by rw [hb.cell (p := ⟨b, off + i, none⟩) hlt]; exact hc i hi⟩
theorem cell_atB {w : World} {a : Option Addr} {zs : List Bool} (hs : SlB w a zs) {k : Nat} (hlt : k < zs.length) : ∃ b off, a = some ⟨b, off, none⟩ /\ b < w.heap.size /\ w.cell? ⟨b, off + k, none⟩ = some (.bool (zs.getD k false)) := by
 rcases hs with hs | ⟨b, off, h1, h2, h3⟩
 ·rw [hs] at hlt; simp at hlt
 exact ⟨b, off, h1, h2, h3 k hlt⟩
def OwnB (w : World) (base : Nat) (v : Value) (zs : List Bool) : Prop := w.ownsRow base 4 1 v zs.length (zs.map (Value.bool))
theorem OwnB.sl {w : World} {base n cap : Nat} {a : Option Addr} {zs : List Bool} (h : OwnB w base (.slice a n cap) zs) : n = zs.length /\ SlB w a zs := by
 obtain ⟨_, h2⟩ := h
 rcases h2 with ⟨h2, h3⟩ | ⟨g, cap', cur, hv, _, hh, hle, _, hs, ht⟩
 ·have e : zs = [] := List.eq_nil_of_length_eq_zero h3
  simp only [Value.slice.injEq] at h2
  exact ⟨by rw [h3]; exact h2.2.1, .inl e⟩
 simp only [Value.slice.injEq] at hv
 refine ⟨hv.2.1, .inr ⟨g, 0, hv.1, (Array.getElem?_eq_some_iff.1 hh).1, fun i hi => ?_⟩⟩
 have e1 : cur.toList[i]? = some (.bool (zs.getD i false)) := by
  have e2 : (cur.toList.take (zs.length * 1))[i]? = (zs.map (Value.bool))[i]? := by rw [ht]
  rw [List.getElem?_take, if_pos (by omega)] at e2
  rw [e2]
  simp [hi]
 simp only [World.cell?, hh, Nat.zero_add]
 rw [Array.getElem?_toList] at e1
 exact e1
theorem OwnB.kept {w w' : World} {base : Nat} {v : Value} {row : Option Nat} {zs : List Bool} (h : OwnB w base v zs) (hg : w.grownBy w' row) (hne : v.ownBlock = none \/ v.ownBlock ≠ row) : OwnB w' base v zs := World.ownsRow.kept h hg hne
theorem OwnB.below {w w' : World} {base : Nat} {v : Value} {zs : List Bool} (h : OwnB w base v zs) (hb : Below w.heap.size w w') : OwnB w' base v zs := by
 refine h.kept (grown_below hb (some w.heap.size)) ?_
 cases e : v.ownBlock with
 | none => exact .inl rfl
 | some k => exact .inr (fun e2 => by have := (World.ownsRow.lt h k e).2; simp at e2; omega)
theorem OwnB.ofRow {w : World} {base b n : Nat} {zs : List Bool} (h : w.rowIs b 4 n (fun i => .bool (zs.getD i false))) (hn : n = zs.length) (hb : base <= b) (hm : n <= maxLen) : OwnB w base (.slice (some ⟨b, 0, none⟩) n n) zs := by
 subst hn
 obtain ⟨c, hc, hsz, hcell⟩ := h
 refine ⟨by simp, .inr ⟨b, zs.length, c, rfl, hb, hc, Nat.le_refl _, hm, by simpa using hsz, ?_⟩⟩
 apply List.ext_getElem?
 intro i
 by_cases hi : i < zs.length
 ·rw [List.getElem?_take, if_pos (by omega), Array.getElem?_toList, hcell i hi]
  simp [hi]
 rw [List.getElem?_eq_none (by simp; omega), List.getElem?_eq_none (by simp; omega)]
theorem Tryz.info4 : (Tryz.prog.info? 4).map (fun i => (i.zero, i.size, i.bytes)) = some (some (.bool false), 1, 1) := by kernel_rfl
theorem toBoolS_any (a : Option Addr) (n cap : Nat) (zs : List Bool) (w : World) (hn : n = zs.length) (hs : SlB w a zs) (hl : zs.length <= 20000000) :
 Calls Tryz.prog 199 #[.slice a n cap] w fun e w' => e = .returned (.slice (some ⟨w.heap.size, 0, none⟩) n n) /\
  w'.rowIs w.heap.size 4 n (fun i => .bool (zs.getD i false)) /\ Below w.heap.size w w' := by
 subst hn
 have hmk := run_make_row' (P := Tryz.prog) 92 4 (.bool false) 1 Tryz.underlying92 Tryz.info4 rfl .i64 .i64 zs.length (by omega) (by omega)
 go_enter Tryz.func199, Tryz.ntmps199
 go_wp2
 clear hmk
 go_loopw [4] (fun i wr => ∃ k : Nat, k <= zs.length /\ i = .int .i64 k /\ wr.rowIs w.heap.size 4 zs.length (fun i => if i < k then .bool (zs.getD i false) else .bool false) /\ Below w.heap.size w wr) (fun i _ => zs.length - (intOf i).toNat)
 case atStart => exact ⟨0, Nat.zero_le _, rfl, (World.rowIs_made w _ _ _).congr (fun i _ => by simp), (Below.refl _ _).alloc (Nat.le_refl _) _⟩
 case round =>
  obtain ⟨k, hk, rfl, hrow, hb⟩ := hrel
  by_cases hlt : k < zs.length
  ·obtain ⟨b, off, rfl, hb0, hc0⟩ := cell_atB hs hlt
   have hc : wr.cell? ⟨b, off + k, none⟩ = some (.bool (zs.getD k false)) := by rw [hb.cell (p := ⟨b, off + k, none⟩) hb0]; exact hc0
   have hst := hrow.cell hlt
   simp only [Nat.lt_irrefl, if_false] at hst
   have hfz := hrow.frozen k
   have hi : (k : Int) < (zs.length : Int) := by omega
   have R : Hid ((wr.setCell ⟨w.heap.size, k, none⟩ (.bool (zs.getD k false))).rowIs w.heap.size 4 zs.length (fun i => if i < k + 1 then .bool (zs.getD i false) else .bool false)) := by
    refine (hrow.set k _).congr (fun i _ => ?_)
    by_cases e : i = k
    ·subst e; simp
    rw [if_neg e]
    by_cases h : i < k
    ·rw [if_pos h, if_pos (by omega)]
    rw [if_neg h, if_neg (by omega)]
   have B1 : Below w.heap.size w (wr.setCell ⟨w.heap.size, k, none⟩ (.bool (zs.getD k false))) := hb.setCell (Nat.le_refl _) _
   clear hrow hb hc0 hs
   go_wp2
   go_roundw
   case rel => exact ⟨k + 1, by omega, by go_num, by simpa [hlt] using R.out, by simpa [hlt] using B1⟩
   case measure => simp [intOf]; omega
  have hkk : k = zs.length := by omega
  have R : Hid (wr.rowIs w.heap.size 4 zs.length (fun i => .bool (zs.getD i false))) := hrow.congr (fun i hi => by rw [if_pos (by omega)])
  clear hrow hs hkk
  go_wp2
  go_ret
  exact ⟨rfl, R.out, hb⟩
theorem eqBoolS_true (a a' : Option Addr) (n n' cap cap' : Nat) (zs : List Bool) (w : World) (hn : n = zs.length) (hn' : n' = zs.length) (hs : SlB w a zs) (hs' : SlB w a' zs) (hl : zs.length <= 20000000) :
 Calls Tryz.prog 212 #[.slice a n cap, .slice a' n' cap'] w fun e w' => e = .returned (.bool true) /\ ∃ n, w' = w.drewN n := by
 subst hn hn'
 go_enter Tryz.func212, Tryz.ntmps212
 go_wp2
 go_loopw [5] (fun i wr => ∃ k : Nat, k <= zs.length /\ i = .int .i64 k /\ ∃ n, wr = w.drewN n) (fun i _ => zs.length - (intOf i).toNat)
 case atStart => exact ⟨0, Nat.zero_le _, rfl, 0, rfl⟩
 case round =>
  obtain ⟨k, hk, rfl, n, rfl⟩ := hrel
  by_cases hlt : k < zs.length
  ·obtain ⟨b, off, rfl, _, hc⟩ := cell_atB hs hlt
   obtain ⟨b', off', rfl, _, hc'⟩ := cell_atB hs' hlt
   have hi : (k : Int) < (zs.length : Int) := by omega
   clear hs hs'
   go_wp2
   go_quiet (fail)
   go_wp2
   go_roundw
   case rel => exact ⟨k + 1, by omega, by go_num, _, rfl⟩
   case measure => simp [intOf]; omega
  clear hs hs'
  go_wp2
  go_ret
  exact ⟨rfl, _, rfl⟩
def marksB (s n : Nat) : List Bool := (List.range n).map (fun i : Nat => ((s : Int) + (i : Int)) % 3 == 0)
theorem marksB_length (s n : Nat) : (marksB s n).length = n := by simp [marksB]
theorem marksB_get (s n i : Nat) (h : i < n) : (marksB s n).getD i false = (((s : Int) + (i : Int)) % 3 == 0) := by simp [marksB, h]
def MarkedB (s : Nat) (w wr : World) (g cap k : Nat) : Prop :=
 w.grownBy wr (some g) /\ ∃ cur, wr.heap[g]? = some (.cells cur 4 (0, 0)) /\ cur.size = cap /\ ∀ i, i < k -> cur[i]? = some (.bool (((s : Int) + (i : Int)) % 3 == 0))
end Go.Proofs.YtkfgijkkffbpmaaGreat
namespace Go.Proofs.YtkfgijkkffbpmaaGreat
open Go.RowKit
theorem bel_next {w0 w w' : World} (h : Below w0.heap.size w0 w) (h' : Below w.heap.size w w') : Below w0.heap.size w0 w' := h.trans (h'.mono h.size)
theorem bel_alloc (w : World) (o : Obj) : Below w.heap.size w (w.alloc o) := (Below.refl _ w).alloc (Nat.le_refl _) o
def Blk (w : World) (g : Nat) (t : TypeId) (cs : Array Value) : Prop := w.heap[g]? = some (.cells cs t (0, 0))
theorem Blk.cell {w : World} {g : Nat} {t : TypeId} {cs : Array Value} (h : Blk w g t cs) (j : Nat) {v : Value} (hj : cs[j]? = some v) : w.cell? ⟨g, j, none⟩ = some v := by
 unfold Blk at h; simp [World.cell?, h, hj]
theorem Blk.fro {w : World} {g : Nat} {t : TypeId} {cs : Array Value} (h : Blk w g t cs) (j : Nat) : w.frozen? ⟨g, j, none⟩ = false := by
 unfold Blk at h; simp [World.frozen?, h]
theorem Blk.lt {w : World} {g : Nat} {t : TypeId} {cs : Array Value} (h : Blk w g t cs) : g < w.heap.size := (Array.getElem?_eq_some_iff.1 h).1
theorem Blk.new (w : World) (cs : Array Value) (t : TypeId) : Blk (w.alloc (.cells cs t)) w.heap.size t cs := by
 show (w.heap.push (.cells cs t (0, 0)))[w.heap.size]? = _; simp
theorem Blk.below {w w' : World} {g : Nat} {t : TypeId} {cs : Array Value} (h : Blk w g t cs) (hb : Below w.heap.size w w') : Blk w' g t cs := by
 unfold Blk; rw [hb.block g h.lt]; exact h
theorem Blk.set {w : World} {g : Nat} {t : TypeId} {cs : Array Value} (h : Blk w g t cs) (j : Nat) (y : Value) : Blk (w.setCell ⟨g, j, none⟩ y) g t (cs.setIfInBounds j y) := by
 unfold Blk at h ⊢; simp [World.setCell, Array.getElem?_modify, h]
theorem Blk.setNe {w : World} {g g' j : Nat} {t : TypeId} {cs : Array Value} {y : Value} (h : Blk w g t cs) (hne : g ≠ g') : Blk (w.setCell ⟨g', j, none⟩ y) g t cs := by
 unfold Blk; rw [Below.heap_setCell _ _ _ _ hne]; exact h
theorem row_noBlk {w : World} {base size n g : Nat} {e t : TypeId} {v : Value} {xs : List Value} {cs : Array Value} (h : w.ownsRow base e size v n xs) (hb : Blk w g t cs) (ht : t ≠ e) : v.ownBlock ≠ some g := by
 intro he
 obtain ⟨_, h2⟩ := h
 rcases h2 with ⟨h2, _⟩ | ⟨g', cap, cur, hv, _, hh, _⟩
 ·rw [h2] at he; simp [Value.ownBlock] at he
 rw [hv] at he
 simp [Value.ownBlock] at he
 subst he
 unfold Blk at hb
 rw [hb] at hh
 simp at hh
 exact ht hh.2
theorem grown_setj (w : World) (g o : Nat) (v : Value) : w.grownBy (w.setCell ⟨g, o, none⟩ v) (some g) :=
 ⟨rfl, rfl, rfl, by simp [World.setCell], fun k hk hne => Below.heap_setCell _ _ _ _ (fun e => hne (by simpa using e))⟩
theorem row_set {w : World} {base size n g j : Nat} {e t : TypeId} {v y : Value} {xs : List Value} {cs : Array Value} (h : w.ownsRow base e size v n xs) (hb : Blk w g t cs) (ht : t ≠ e) : (w.setCell ⟨g, j, none⟩ y).ownsRow base e size v n xs :=
 World.ownsRow.kept h (grown_setj w g j y) (.inr (row_noBlk h hb ht))
def ExB (w : World) (g : Nat) (t : TypeId) : Prop := ∃ cs, Blk w g t cs
theorem ExB.set {w : World} {g g' j : Nat} {t : TypeId} {y : Value} (h : ExB w g t) : ExB (w.setCell ⟨g', j, none⟩ y) g t := by
 obtain ⟨cs, h⟩ := h
 by_cases e : g = g'
 ·subst e; exact ⟨_, h.set j y⟩
 exact ⟨_, h.setNe e⟩
theorem row_setE {w : World} {base size n g j : Nat} {e t : TypeId} {v y : Value} {xs : List Value} (h : w.ownsRow base e size v n xs) (hb : ExB w g t) (ht : t ≠ e) : (w.setCell ⟨g, j, none⟩ y).ownsRow base e size v n xs := by
 obtain ⟨cs, hb⟩ := hb
 exact row_set h hb ht
theorem toIntS_ok (a : Option Addr) (n cap : Nat) (zs : List Int) (w : World) (hn : n = zs.length) (hs : SlI w a zs) (hl : zs.length <= 2000000) :
 Calls Tryz.prog 200 #[.slice a n cap] w fun e w' => ∃ g, e = .returned (.slice (some ⟨g, 0, none⟩) n n) /\ OwnI w' w.heap.size (.slice (some ⟨g, 0, none⟩) n n) zs /\ Below w.heap.size w w' := by
 refine (toIntS_any a n cap zs w hn hs hl).mono ?_
 rintro e w' ⟨rfl, q, b⟩
 exact ⟨_, rfl, OwnI.ofRow q hn (Nat.le_refl _) (by unfold maxLen; omega), b⟩
theorem toBoolS_ok (a : Option Addr) (n cap : Nat) (zs : List Bool) (w : World) (hn : n = zs.length) (hs : SlB w a zs) (hl : zs.length <= 20000000) :
 Calls Tryz.prog 199 #[.slice a n cap] w fun e w' => ∃ g, e = .returned (.slice (some ⟨g, 0, none⟩) n n) /\ OwnB w' w.heap.size (.slice (some ⟨g, 0, none⟩) n n) zs /\ Below w.heap.size w w' := by
 refine (toBoolS_any a n cap zs w hn hs hl).mono ?_
 rintro e w' ⟨rfl, q, b⟩
 exact ⟨_, rfl, OwnB.ofRow q hn (Nat.le_refl _) (by unfold maxLen; omega), b⟩
theorem OwnI.mono {w : World} {base base' : Nat} {v : Value} {zs : List Int} (h : OwnI w base v zs) (hb : base' <= base) : OwnI w base' v zs := by
 obtain ⟨h1, h2⟩ := h
 refine ⟨h1, ?_⟩
 rcases h2 with h2 | ⟨g, cap, cur, hv, hg, r⟩
 ·exact .inl h2
 exact .inr ⟨g, cap, cur, hv, by omega, r⟩
theorem OwnB.mono {w : World} {base base' : Nat} {v : Value} {zs : List Bool} (h : OwnB w base v zs) (hb : base' <= base) : OwnB w base' v zs := by
 obtain ⟨h1, h2⟩ := h
 refine ⟨h1, ?_⟩
 rcases h2 with h2 | ⟨g, cap, cur, hv, hg, r⟩
 ·exact .inl h2
 exact .inr ⟨g, cap, cur, hv, by omega, r⟩
theorem eqIntS_ok (a a' : Option Addr) (n n' cap cap' : Nat) (zs : List Int) (w : World) (hn : n = zs.length) (hn' : n' = zs.length) (hs : SlI w a zs) (hs' : SlI w a' zs) (hl : zs.length <= 2000000) :
 Calls Tryz.prog 213 #[.slice a n cap, .slice a' n' cap'] w fun e w' => e = .returned (.bool true) /\ Below w.heap.size w w' := by
 refine (eqIntS_true a a' n n' cap cap' zs w hn hn' hs hs' hl).mono ?_
 rintro e w' ⟨rfl, k, rfl⟩
 exact ⟨rfl, drew_refl _ _⟩
theorem eqBoolS_ok (a a' : Option Addr) (n n' cap cap' : Nat) (zs : List Bool) (w : World) (hn : n = zs.length) (hn' : n' = zs.length) (hs : SlB w a zs) (hs' : SlB w a' zs) (hl : zs.length <= 20000000) :
 Calls Tryz.prog 212 #[.slice a n cap, .slice a' n' cap'] w fun e w' => e = .returned (.bool true) /\ Below w.heap.size w w' := by
 refine (eqBoolS_true a a' n n' cap cap' zs w hn hn' hs hs' hl).mono ?_
 rintro e w' ⟨rfl, k, rfl⟩
 exact ⟨rfl, drew_refl _ _⟩
theorem eqReq_true (kd pl nn wa : Int) (a1 a2 a1' a2' : Option Addr) (l1 l2 l1' l2' c1 c2 c1' c2' : Nat) (ws : List Int) (bs : List Bool) (w : World) (h1 : l1 = ws.length) (h2 : l2 = bs.length) (h1' : l1' = ws.length) (h2' : l2' = bs.length) (s1 : SlI w a1 ws) (s2 : SlB w a2 bs) (s1' : SlI w a1' ws) (s2' : SlB w a2' bs) (hl1 : ws.length <= 2000000) (hl2 : bs.length <= 20000000) :
 Calls Tryz.prog 208 #[.agg #[.int .i64 kd, .int .i64 pl, .int .i64 nn, .slice a1 l1 c1, .slice a2 l2 c2, .int .i64 wa], .agg #[.int .i64 kd, .int .i64 pl, .int .i64 nn, .slice a1' l1' c1', .slice a2' l2' c2', .int .i64 wa]] w fun e w' => e = .returned (.bool true) /\ Below w.heap.size w w' := by
 obtain ⟨W0, hW0'⟩ : ∃ W0, W0 = (w.alloc (.cells #[.int .i64 kd, .int .i64 pl, .int .i64 nn, .slice a1 l1 c1, .slice a2 l2 c2, .int .i64 wa] 94)).alloc (.cells #[.int .i64 kd, .int .i64 pl, .int .i64 nn, .slice a1' l1' c1', .slice a2' l2' c2', .int .i64 wa] 94) := ⟨_, rfl⟩
 have hW0 : Hid (W0 = _) := hW0'
 have B0 : Below w.heap.size w W0 := by rw [hW0']; exact bel_next (bel_alloc w _) (bel_alloc _ _)
 have X0 : Blk W0 w.heap.size 94 #[.int .i64 kd, .int .i64 pl, .int .i64 nn, .slice a1 l1 c1, .slice a2 l2 c2, .int .i64 wa] := by rw [hW0']; exact (Blk.new w _ _).below (bel_alloc _ _)
 have Y0 : Blk W0 (w.heap.size + 1) 94 #[.int .i64 kd, .int .i64 pl, .int .i64 nn, .slice a1' l1' c1', .slice a2' l2' c2', .int .i64 wa] := by
  rw [hW0']; have := Blk.new (w.alloc (.cells #[.int .i64 kd, .int .i64 pl, .int .i64 nn, .slice a1 l1 c1, .slice a2 l2 c2, .int .i64 wa] 94)) #[.int .i64 kd, .int .i64 pl, .int .i64 nn, .slice a1' l1' c1', .slice a2' l2' c2', .int .i64 wa] 94; simpa using this
 have HH : Hid (l1 = ws.length /\ l2 = bs.length /\ l1' = ws.length /\ l2' = bs.length /\ SlI W0 a1 ws /\ SlB W0 a2 bs /\ SlI W0 a1' ws /\ SlB W0 a2' bs) := ⟨h1, h2, h1', h2', s1.below B0, s2.below B0, s1'.below B0, s2'.below B0⟩
 have x0 := X0.cell 0 rfl
 have x1 := X0.cell 1 rfl
 have x2 := X0.cell 2 rfl
 have x3 := X0.cell 3 rfl
 have y0 := Y0.cell 0 rfl
 have y1 := Y0.cell 1 rfl
 have y2 := Y0.cell 2 rfl
 have y3 := Y0.cell 3 rfl
 clear h1 h2 h1' h2' s1 s2 s1' s2' hW0'
 go_enter Tryz.func208, Tryz.ntmps208
 go_upto_region 1 with fail
 rw [<- hW0.out]
 go_wp2_with fail
 refine (eqIntS_ok _ _ _ _ _ _ ws _ HH.out.1 HH.out.2.2.1 HH.out.2.2.2.2.1 HH.out.2.2.2.2.2.2.1 hl1).mono ?_
 rintro e w1 ⟨rfl, b1'⟩
 have b1 := bel_next B0 b1'
 have X1 := X0.below b1'
 have Y1 := Y0.below b1'
 have x4 := X1.cell 4 rfl
 have y4 := Y1.cell 4 rfl
 have S1 : Hid (SlB w1 a2 bs /\ SlB w1 a2' bs) := ⟨HH.out.2.2.2.2.2.1.below b1', HH.out.2.2.2.2.2.2.2.below b1'⟩
 clear x0 x1 x2 x3 y0 y1 y2 y3 X0 Y0 B0 b1'
 go_wp2_with fail
 refine (eqBoolS_ok _ _ _ _ _ _ bs _ HH.out.2.1 HH.out.2.2.2.1 S1.out.1 S1.out.2 hl2).mono ?_
 rintro e w2 ⟨rfl, b2'⟩
 have b2 := bel_next b1 b2'
 have x5 := (X1.below b2').cell 5 rfl
 have y5 := (Y1.below b2').cell 5 rfl
 clear x4 y4 X1 Y1 b1 b2'
 go_wp2
 go_ret
 exact ⟨rfl, b2⟩
end Go.Proofs.YtkfgijkkffbpmaaGreat
namespace Go.Proofs.YtkfgijkkffbpmaaGreat
open Go.RowKit
theorem szq4 : (Tryz.prog.info? 4).map (·.size) = some 1 := by kernel_rfl
theorem slB_at {w : World} {b off : Nat} {zs : List Bool} (h : SlB w (some ⟨b, off, none⟩) zs) : ∀ j v, (zs.map Value.bool)[j]? = some v -> w.cell? (Addr.add ⟨b, off, none⟩ j) = some v := by
 intro j v hj
 have hlt : j < zs.length := by
  rcases Nat.lt_or_ge j zs.length with q | q
  ·exact q
  rw [List.getElem?_eq_none (by simpa using q)] at hj; cases hj
 obtain ⟨b', off', e, _, hc⟩ := cell_atB h hlt
 simp at e
 obtain ⟨rfl, rfl⟩ := e
 have ev : v = .bool (zs.getD j false) := by
  rw [List.getElem?_map, List.getElem?_eq_getElem hlt] at hj
  simp at hj
  rw [<- hj, List.getD_eq_getElem?_getD, List.getElem?_eq_getElem hlt]; rfl
 rw [ev]
 by_cases e0 : j = 0
 ·subst e0; simpa [Addr.add] using hc
 simpa [Addr.add, e0] using hc
theorem onesB (zs : List Bool) : ∀ v ∈ zs.map Value.bool, v.oneCell' = true := by
 intro v hv
 obtain ⟨z, _, rfl⟩ := List.mem_map.1 hv
 rfl
theorem OwnB.ofHeap {w : World} {base g n : Nat} {zs : List Bool} (h : w.heap[g]? = some (.cells (zs.map Value.bool).toArray 4 (0, 0))) (hn : n = zs.length) (hb : base <= g) (hm : n <= maxLen) : OwnB w base (.slice (some ⟨g, 0, none⟩) n n) zs := by
 subst hn
 exact ⟨by simp, .inr ⟨g, zs.length, (zs.map Value.bool).toArray, rfl, hb, h, Nat.le_refl _, hm, by simp, by simp; exact List.take_of_length_le (by simp)⟩⟩
theorem splice_allB {α : Type} (L cs : List α) (h : cs.length = L.length) : splice L 0 cs = cs := by simp [splice, h]
theorem made_rowB (w : World) (n : Nat) : ∃ Z : List Value, Z.length = n /\ (w.alloc (.cells (madeCells #[.bool false] n) 4)).heap[w.heap.size]? = some (.cells Z.toArray 4 (0, 0)) := by
 obtain ⟨c, hc, hsz, _⟩ := World.rowIs_made w (.bool false) n 4
 exact ⟨c.toList, by simpa using hsz, by simpa using hc⟩
theorem copyOfB (a : Option Addr) (n cap : Nat) (zs : List Bool) (w : World) (hn : n = zs.length) (hs : SlB w a zs) (hl : zs.length <= 2000000) :
 Calls Tryz.prog 206 #[.slice a n cap] w fun e w' => ∃ g, e = .returned (.slice (some ⟨g, 0, none⟩) n n) /\ OwnB w' w.heap.size (.slice (some ⟨g, 0, none⟩) n n) zs /\ Below w.heap.size w w' := by
 have hm : n <= maxLen := by unfold maxLen; omega
 have hmk := run_make_row' (P := Tryz.prog) 92 4 (.bool false) 1 Tryz.underlying92 Tryz.info4 rfl .i64 .i64 n (by omega) (by omega)
 obtain ⟨Z, hZ, hZh⟩ := made_rowB w n
 have HZ : Hid (Z.length = n) := hZ
 have HZh : Hid ((w.alloc (.cells (madeCells #[.bool false] n) 4)).heap[w.heap.size]? = some (.cells Z.toArray 4 (0, 0))) := hZh
 have HN : Hid (n = zs.length) := hn
 have b0 : Below w.heap.size w (w.alloc (.cells (madeCells #[.bool false] n) 4)) := (Below.refl _ w).alloc (Nat.le_refl _) _
 have hs1 := SlB.below hs b0
 obtain ⟨X, hX⟩ : ∃ X, X = zs.map Value.bool := ⟨_, rfl⟩
 have HX : Hid (X = zs.map Value.bool) := hX
 have hXl : Hid (X.length = n) := by show X.length = n; rw [hX, hn]; simp
 have hpos : 0 < X.length -> ∃ ad, a = some ad /\ ∀ j v, X[j]? = some v -> (w.alloc (.cells (madeCells #[.bool false] n) 4)).cell? (ad.add j) = some v := by
  intro h
  rcases hs1 with h0 | ⟨b, off, ha, hb, hc⟩
  ·rw [hX, h0] at h; simp at h
  exact ⟨⟨b, off, none⟩, ha, by rw [hX]; exact slB_at (.inr ⟨b, off, rfl, hb, hc⟩)⟩
 have hone : ∀ v ∈ X, v.oneCell' = true := by rw [hX]; exact onesB zs
 have HP : Hid (0 < X.length -> ∃ ad, a = some ad /\ ∀ j v, X[j]? = some v -> (w.alloc (.cells (madeCells #[.bool false] n) 4)).cell? (ad.add j) = some v) := hpos
 clear hs hs1 hn hZ hX hpos hZh
 go_enter Tryz.func206, Tryz.ntmps206
 go_wp2_with ((refine wpList_copy_splice rfl (.tmp 7) (.tmp 8) 92 92 rfl 4 Tryz.underlying92 szq4 _ _ _ _ _ _ rfl rfl w.heap.size 0 Z 4 HZh.out X (by rw [hXl.out]; exact (Nat.min_self n).symm) (fun h => ⟨rfl, HP.out h⟩) (by rw [hXl.out, HZ.out]; omega) hone w.heap.size w b0 (Nat.le_refl _) ?_); intro w2 H2 b2)
 have O2 : OwnB w2 w.heap.size (.slice (some ⟨w.heap.size, 0, none⟩) n n) zs := OwnB.ofHeap (by rw [<- HX.out, <- splice_allB Z X (by rw [hXl.out, HZ.out])]; exact H2.out) HN.out (Nat.le_refl _) hm
 go_ret
 exact ⟨_, rfl, O2, b2⟩
theorem szq3 : (Tryz.prog.info? 3).map (·.size) = some 1 := by kernel_rfl
theorem slI_at {w : World} {b off : Nat} {zs : List Int} (h : SlI w (some ⟨b, off, none⟩) zs) : ∀ j v, (zs.map (Value.int .i64))[j]? = some v -> w.cell? (Addr.add ⟨b, off, none⟩ j) = some v := by
 intro j v hj
 have hlt : j < zs.length := by
  rcases Nat.lt_or_ge j zs.length with q | q
  ·exact q
  rw [List.getElem?_eq_none (by simpa using q)] at hj; cases hj
 obtain ⟨b', off', e, _, hc⟩ := cell_atI h hlt
 simp at e
 obtain ⟨rfl, rfl⟩ := e
 have ev : v = .int .i64 (zs.getD j 0) := by
  rw [List.getElem?_map, List.getElem?_eq_getElem hlt] at hj
  simp at hj
  rw [<- hj, List.getD_eq_getElem?_getD, List.getElem?_eq_getElem hlt]; rfl
 rw [ev]
 by_cases e0 : j = 0
 ·subst e0; simpa [Addr.add] using hc
 simpa [Addr.add, e0] using hc
theorem onesI (zs : List Int) : ∀ v ∈ zs.map (Value.int .i64), v.oneCell' = true := by
 intro v hv
 obtain ⟨z, _, rfl⟩ := List.mem_map.1 hv
 rfl
theorem OwnI.ofHeap {w : World} {base g n : Nat} {zs : List Int} (h : w.heap[g]? = some (.cells (zs.map (Value.int .i64)).toArray 3 (0, 0))) (hn : n = zs.length) (hb : base <= g) (hm : n <= maxLen) : OwnI w base (.slice (some ⟨g, 0, none⟩) n n) zs := by
 subst hn
 exact ⟨by simp, .inr ⟨g, zs.length, (zs.map (Value.int .i64)).toArray, rfl, hb, h, Nat.le_refl _, hm, by simp, by simp; exact List.take_of_length_le (by simp)⟩⟩
theorem splice_allI {α : Type} (L cs : List α) (h : cs.length = L.length) : splice L 0 cs = cs := by simp [splice, h]
theorem made_rowI (w : World) (n : Nat) : ∃ Z : List Value, Z.length = n /\ (w.alloc (.cells (madeCells #[.int .i64 0] n) 3)).heap[w.heap.size]? = some (.cells Z.toArray 3 (0, 0)) := by
 obtain ⟨c, hc, hsz, _⟩ := World.rowIs_made w (.int .i64 0) n 3
 exact ⟨c.toList, by simpa using hsz, by simpa using hc⟩
theorem copyOfI (a : Option Addr) (n cap : Nat) (zs : List Int) (w : World) (hn : n = zs.length) (hs : SlI w a zs) (hl : zs.length <= 2000000) :
 Calls Tryz.prog 207 #[.slice a n cap] w fun e w' => ∃ g, e = .returned (.slice (some ⟨g, 0, none⟩) n n) /\ OwnI w' w.heap.size (.slice (some ⟨g, 0, none⟩) n n) zs /\ Below w.heap.size w w' := by
 have hm : n <= maxLen := by unfold maxLen; omega
 have hmk := run_make_row' (P := Tryz.prog) 91 3 (.int .i64 0) 8 Tryz.underlying91 Tryz.infoI3 rfl .i64 .i64 n (by omega) (by omega)
 obtain ⟨Z, hZ, hZh⟩ := made_rowI w n
 have HZ : Hid (Z.length = n) := hZ
 have HZh : Hid ((w.alloc (.cells (madeCells #[.int .i64 0] n) 3)).heap[w.heap.size]? = some (.cells Z.toArray 3 (0, 0))) := hZh
 have HN : Hid (n = zs.length) := hn
 have b0 : Below w.heap.size w (w.alloc (.cells (madeCells #[.int .i64 0] n) 3)) := (Below.refl _ w).alloc (Nat.le_refl _) _
 have hs1 := SlI.below hs b0
 obtain ⟨X, hX⟩ : ∃ X, X = zs.map (Value.int .i64) := ⟨_, rfl⟩
 have HX : Hid (X = zs.map (Value.int .i64)) := hX
 have hXl : Hid (X.length = n) := by show X.length = n; rw [hX, hn]; simp
 have hpos : 0 < X.length -> ∃ ad, a = some ad /\ ∀ j v, X[j]? = some v -> (w.alloc (.cells (madeCells #[.int .i64 0] n) 3)).cell? (ad.add j) = some v := by
  intro h
  rcases hs1 with h0 | ⟨b, off, ha, hb, hc⟩
  ·rw [hX, h0] at h; simp at h
  exact ⟨⟨b, off, none⟩, ha, by rw [hX]; exact slI_at (.inr ⟨b, off, rfl, hb, hc⟩)⟩
 have hone : ∀ v ∈ X, v.oneCell' = true := by rw [hX]; exact onesI zs
 have HP : Hid (0 < X.length -> ∃ ad, a = some ad /\ ∀ j v, X[j]? = some v -> (w.alloc (.cells (madeCells #[.int .i64 0] n) 3)).cell? (ad.add j) = some v) := hpos
 clear hs hs1 hn hZ hX hpos hZh
 go_enter Tryz.func207, Tryz.ntmps207
 go_wp2_with ((refine wpList_copy_splice rfl (.tmp 7) (.tmp 8) 91 91 rfl 3 Tryz.underlying91 szq3 _ _ _ _ _ _ rfl rfl w.heap.size 0 Z 3 HZh.out X (by rw [hXl.out]; exact (Nat.min_self n).symm) (fun h => ⟨rfl, HP.out h⟩) (by rw [hXl.out, HZ.out]; omega) hone w.heap.size w b0 (Nat.le_refl _) ?_); intro w2 H2 b2)
 have O2 : OwnI w2 w.heap.size (.slice (some ⟨w.heap.size, 0, none⟩) n n) zs := OwnI.ofHeap (by rw [<- HX.out, <- splice_allI Z X (by rw [hXl.out, HZ.out])]; exact H2.out) HN.out (Nat.le_refl _) hm
 go_ret
 exact ⟨_, rfl, O2, b2⟩
end Go.Proofs.YtkfgijkkffbpmaaGreat
namespace Go.Proofs.YtkfgijkkffbpmaaGreat
open Go.RowKit Go.Joins
structure El where
 pre : List Value
 ws : List Int
 bs : List Bool
 post : List Value
instance : Inhabited El := ⟨⟨[], [], [], []⟩⟩
abbrev els (E : El) (a1 a2 : Option Addr) (c1 c2 : Nat) : List Value := E.pre ++ (.slice a1 E.ws.length c1 :: .slice a2 E.bs.length c2 :: E.post)
theorem bel_nx {w0 w w' : World} (h : Below w0.heap.size w0 w) (h' : Below w.heap.size w w') : Below w0.heap.size w0 w' := h.trans (h'.mono h.size)
theorem setL_gw {g : Nat} : ∀ (vs : List Value) (w : World) (o : Nat), w.grownBy (setL w g o vs) (some g)
 | [], w, o => World.grownBy.refl w _
 | v :: vs, w, o => by
  have h1 := grown_setj w g o v
  have h2 := setL_gw (g := g) vs (w.setCell ⟨g, o, none⟩ v) (o + 1)
  exact ⟨h2.os.trans h1.os, h2.tape.trans h1.tape, h2.output.trans h1.output, Nat.le_trans h1.size h2.size, fun k hk hne => by rw [show setL w g o (v :: vs) = setL (w.setCell ⟨g, o, none⟩ v) g (o + 1) vs from rfl, h2.block k (Nat.lt_of_lt_of_le hk h1.size) hne, h1.block k hk hne]⟩
theorem row_stL {w : World} {base size n g o : Nat} {e t : TypeId} {v : Value} {xs vs : List Value} (h : w.ownsRow base e size v n xs) (hb : ExB w g t) (ht : t ≠ e) : (setL w g o vs).ownsRow base e size v n xs := by
 obtain ⟨cs, hb⟩ := hb
 exact World.ownsRow.kept h (setL_gw vs w o) (.inr (row_noBlk h hb ht))
theorem row_ex {w : World} {base s n g : Nat} {e : TypeId} {v : Value} {xs : List Value} (h : w.ownsRow base e s v n xs) (hv : v.ownBlock = some g) : ExB w g e := by
 rcases h.2 with ⟨rfl, _⟩ | ⟨g', cap, cur, rfl, _, hh, _⟩
 ·simp [Value.ownBlock] at hv
 simp [Value.ownBlock] at hv
 subst hv
 exact ⟨cur, hh⟩
theorem grown_no {w w' : World} (hg : w.grownBy w' none) : Below w.heap.size w w' := (Below.refl _ w).grown hg (Nat.le_refl _) (fun k hk => by cases hk)
def RowO (w : World) (g : Nat) (t : TypeId) (s o n : Nat) (F : Nat -> List Value) : Prop :=
 ∃ cs, w.heap[g]? = some (.cells cs t (0, 0)) /\ o + n * s <= cs.size /\ ∀ k, k < n -> ∀ j, j < s -> cs[o + k * s + j]? = (F k)[j]?
section
variable {w w' : World} {g : Nat} {t : TypeId} {s o n : Nat} {F G : Nat -> List Value}
end
def OwnO (w : World) (base : Nat) (t : TypeId) (s : Nat) (v : Value) (n : Nat) (F : Nat -> List Value) : Prop :=
 (n = 0 /\ ∃ a c, v = .slice a 0 c) \/ ∃ g o c, v = .slice (some ⟨g, o, none⟩) n c /\ base <= g /\ RowO w g t s o n F
section
variable {w w' : World} {base : Nat} {t : TypeId} {s : Nat} {v : Value} {n : Nat} {F : Nat -> List Value}
end
def ElAt (w : World) (lo hi : Nat) (vs : List Value) (E : El) : Prop :=
 ∃ a1 a2 c1 c2, vs = els E a1 a2 c1 c2 /\ OwnI w lo (.slice a1 E.ws.length c1) E.ws /\ OwnB w lo (.slice a2 E.bs.length c2) E.bs /\
  (∀ k, (Value.slice a1 E.ws.length c1).ownBlock = some k -> k < hi) /\ (∀ k, (Value.slice a2 E.bs.length c2).ownBlock = some k -> k < hi)
section
variable {w w' : World} {lo hi : Nat} {vs : List Value} {E : El}
end
def InE (w : World) (base : Nat) (β : Nat -> Nat) (F : Nat -> List Value) (G : Nat -> El) (z : Nat) : Prop :=
 base <= β 0 /\ (∀ k, β k <= β (k + 1)) /\ ∀ k, k < z -> ElAt w (β k) (β (k + 1)) (F k) (G k)
section
variable {w w' : World} {base gx z : Nat} {β : Nat -> Nat} {F F' : Nat -> List Value} {G H : Nat -> El}
end
def OwnL (w : World) (base : Nat) (t : TypeId) (s : Nat) (v : Value) (n : Nat) (G : Nat -> El) : Prop :=
 ∃ (F : Nat -> List Value) (β : Nat -> Nat), OwnO w base t s v n F /\ InE w base β F G n
def TopL (w : World) (base hi : Nat) (t : TypeId) (s : Nat) (v : Value) (n : Nat) (G : Nat -> El) : Prop :=
 ∃ (F : Nat -> List Value) (β : Nat -> Nat), OwnO w base t s v n F /\ InE w base β F G n /\ β n <= hi /\ ∀ g o m c, v = .slice (some ⟨g, o, none⟩) m c -> 0 < n -> g < hi
def SlL (w : World) (a : Option Addr) (s n : Nat) (G : Nat -> El) : Prop :=
 ∃ F : Nat -> List Value, SlS w a s n F /\ ∀ k, k < n -> ∃ a1 a2 c1 c2, F k = els (G k) a1 a2 c1 c2 /\ SlI w a1 (G k).ws /\ SlB w a2 (G k).bs
section
variable {w w' : World} {base : Nat} {t : TypeId} {s n : Nat} {v : Value} {G H : Nat -> El} {a : Option Addr}
end
end Go.Proofs.YtkfgijkkffbpmaaGreat
namespace Go.Proofs.YtkfgijkkffbpmaaGreat
open Go.RowKit Go.Joins
structure Ca where
 id : Int
 pa : Int
 un : Int
 kd : Int
 pl : Int
 n : Int
 wa : Int
 ws : List Int
 bs : List Bool
def caE (C : Ca) : El := ⟨[.int .i64 C.id, .int .i64 C.pa, .int .i64 C.un, .int .i64 C.kd, .int .i64 C.pl, .int .i64 C.n], C.ws, C.bs, [.int .i64 C.wa]⟩
abbrev cac (C : Ca) (a1 a2 : Option Addr) (l1 l2 c1 c2 : Nat) : Array Value := #[.int .i64 C.id, .int .i64 C.pa, .int .i64 C.un, .int .i64 C.kd, .int .i64 C.pl, .int .i64 C.n, .slice a1 l1 c1, .slice a2 l2 c2, .int .i64 C.wa]
def ca0 : Ca := ⟨0, 0, 0, 0, 0, 0, 0, [], []⟩
abbrev SlC (w : World) (a : Option Addr) (n : Nat) (f : Nat -> Ca) : Prop := SlL w a 9 n (fun k => caE (f k))
abbrev OwC (w : World) (base : Nat) (v : Value) (n : Nat) (f : Nat -> Ca) : Prop := OwnL w base 96 9 v n (fun k => caE (f k))
def tl (f : Nat -> Ca) : Nat -> Nat
 | 0 => 0
 | k + 1 => tl f k + ((f k).ws.length + (f k).bs.length)
def lfC (left l1 l2 : Nat) : Int := if l1 + l2 <= left then (left : Int) - (l1 : Int) - (l2 : Int) else -1
def lfS (left n : Nat) (f : Nat -> Ca) : Int := if n + tl f n <= left then (left : Int) - (n : Int) - (tl f n : Int) else -1
def BdC (n : Nat) (f : Nat -> Ca) : Prop := n <= 2000000 /\ ∀ k, k < n -> (f k).ws.length <= 2000000 /\ (f k).bs.length <= 2000000
end Go.Proofs.YtkfgijkkffbpmaaGreat
namespace Go.Proofs.YtkfgijkkffbpmaaGreat
open Go.RowKit Go.Joins
def wrA (cs : Array Value) : Nat -> List Value -> Array Value
 | _, [] => cs
 | o, v :: vs => wrA (cs.setIfInBounds o v) (o + 1) vs
theorem Blk.stL {g : Nat} {t : TypeId} : ∀ (vs : List Value) {w : World} {cs : Array Value} (o : Nat), Blk w g t cs -> Blk (setL w g o vs) g t (wrA cs o vs)
 | [], w, cs, o, h => h
 | v :: vs, w, cs, o, h => Blk.stL vs (o + 1) (h.set o v)
theorem Blk.stNe {g g' : Nat} {t : TypeId} {cs : Array Value} (hne : g ≠ g') : ∀ (vs : List Value) {w : World} (o : Nat), Blk w g t cs -> Blk (setL w g' o vs) g t cs
 | [], w, o, h => h
 | v :: vs, w, o, h => Blk.stNe hne vs (o + 1) (h.setNe hne)
theorem RowS.ex {w : World} {g : Nat} {t : TypeId} {s n : Nat} {F : Nat -> List Value} (h : RowS w g t s n F) {k j : Nat} (hk : k < n) (hj : j < s) : ∃ v, w.cell? ⟨g, k * s + j, none⟩ = some v := by
 obtain ⟨cs, h1, h2, h3⟩ := h
 have hin : k * s + j < cs.size := by
  have : (k + 1) * s <= n * s := Nat.mul_le_mul_right s hk
  rw [Nat.add_mul, Nat.one_mul] at this
  omega
 exact ⟨cs[k * s + j], by rw [cell_of_block h1]; simp⟩
abbrev calL (C : Ca) (a1 a2 : Option Addr) (l1 l2 c1 c2 : Nat) : List Value := [.int .i64 C.id, .int .i64 C.pa, .int .i64 C.un, .int .i64 C.kd, .int .i64 C.pl, .int .i64 C.n, .slice a1 l1 c1, .slice a2 l2 c2, .int .i64 C.wa]
abbrev ca0c : Array Value := #[.int .i64 0, .int .i64 0, .int .i64 0, .int .i64 0, .int .i64 0, .int .i64 0, .slice none 0 0, .slice none 0 0, .int .i64 0]
def MadeL (w : World) (B : Nat) (t : TypeId) (s n : Nat) (G : Nat -> El) : Prop := ∃ F β, RowS w B t s n F /\ InE w B β F G n /\ β n <= w.heap.size
end Go.Proofs.YtkfgijkkffbpmaaGreat
namespace Go.Proofs.YtkfgijkkffbpmaaGreat
open Go.RowKit Go.Joins
theorem setCells_L (g : Nat) : ∀ (vs : List Value) (w : World) (o : Nat), w.setCells g o vs = setL w g o vs
 | [], _, _ => rfl
 | v :: vs, w, o => by
  rw [World.setCells, setCells_L g vs]
  rfl
theorem Blk.range {w : World} {g : Nat} {t : TypeId} {cs : Array Value} (h : Blk w g t cs) (o : Nat) (vs : List Value) (hv : ∀ j, j < vs.length -> cs[o + j]? = vs[j]?) : w.rangeAt g o vs := fun j v hj => by
 have hlt : j < vs.length := (List.getElem?_eq_some_iff.1 hj).1
 exact h.cell (o + j) (by rw [hv j hlt, hj])
theorem Blk.there {w : World} {g : Nat} {t : TypeId} {cs : Array Value} (h : Blk w g t cs) (o n : Nat) (hn : o + n <= cs.size) : w.there g o n := fun j hj => by
 refine ⟨?_, h.fro _⟩
 rw [h.cell (o + j) (Array.getElem?_eq_getElem (show o + j < cs.size by omega))]
 rfl
theorem Blk.all {w : World} {g : Nat} {t : TypeId} {vs : List Value} (h : Blk w g t vs.toArray) : w.rangeAt g 0 vs := h.range 0 vs (fun j hj => by simp)
theorem wpList_alloc_any {P : Program} {ops : Array Oper} {rest : List Oper} {op : Oper} {a : Act} {w : World} {Q : Exit -> Act -> World -> Prop} (hgd : op.guard = none) (ty : TypeId) (ho : op.op = .alloc ty) (cs : Array Value) (n b : Nat) (hi : (P.info? ty).map (fun i => (i.zero, i.size, i.bytes)) = some (some (.agg cs), n, b))
 (h : wpList P ops Q rest (a.put op.dst (.pointer (some ⟨w.heap.size, 0, none⟩))) (w.alloc (.cells cs ty))) : wpList P ops Q (op :: rest) a w :=
 wpList_plain hgd fun K hK => by
  have hz : (zeroValue ty).run P w = .ok (.agg cs) w := by
   cases hq : P.info? ty with
   | none => simp [hq] at hi
   | some i => simp [hq] at hi; simp [zeroValue, typeInfo, hq, hi.1]
  have hr : (execOp a.eval op).run P w = .ok (.value (.pointer (some ⟨w.heap.size, 0, none⟩))) (w.alloc (.cells cs ty)) := by
   unfold execOp
   simp only [ho]
   rw [Sem.run_bind]
   have h9 : (Instr.alloc ty true (.tuple #[])).run P w = .ok (.pointer (some ⟨w.heap.size, 0, none⟩)) (w.alloc (.cells cs ty)) := by
    unfold Instr.alloc
    rw [Sem.run_bind, hz]
    rfl
   rw [h9]
   rfl
  unfold Oper.wp
  rw [hr]
  exact hK _ _ h
end Go.Proofs.YtkfgijkkffbpmaaGreat
namespace Go.Proofs.YtkfgijkkffbpmaaGreat
open Go.RowKit Go.Joins
theorem wpList_move_any {P : Program} {ops : Array Oper} {rest : List Oper} {op : Oper} {a : Act} {w : World} {Q : Exit -> Act -> World -> Prop} (hgd : op.guard = none) (x : Operand) (ho : op.op = .move x) (v : Value) (hv : a.eval x = v)
 (h : wpList P ops Q rest (a.put op.dst v) w) : wpList P ops Q (op :: rest) a w :=
 wpList_plain hgd fun K hK => by
  unfold Oper.wp execOp
  simp only [ho, hv]
  exact hK _ _ h
theorem wpList_build_any {P : Program} {ops : Array Oper} {rest : List Oper} {op : Oper} {a : Act} {w : World} {Q : Exit -> Act -> World -> Prop} (hgd : op.guard = none) (t : TypeId) (ps : Array (Nat × Operand)) (ho : op.op = .build t ps) (qs : Array (Nat × Value)) (hq : ps.map (fun (i, x) => (i, a.eval x)) = qs) (v : Value) (hr : (Instr.build t qs).run P w = .ok v w)
 (h : wpList P ops Q rest (a.put op.dst v) w) : wpList P ops Q (op :: rest) a w :=
 wpList_plain hgd fun K hK => by
  unfold Oper.wp execOp
  simp only [ho, hq]
  rw [Sem.run_bind, hr]
  exact hK _ _ h
theorem results_cell {P : Program} {fn : Func} {tmps : Array Value} {w : World} {s : Nat} {t : TypeId} {g o : Nat} {v : Value} (hf : fn.results = #[.cell s t]) (ha : tmps.getD s undef = .pointer (some ⟨g, o, none⟩)) (hl : (loadVar t ⟨g, o, none⟩).run P w = .ok v w) : (results fn tmps).run P w = .ok v w := by
 rw [Array.getD_eq_getD_getElem?] at ha
 unfold results
 rw [hf]
 simp [ha, asAddr, hl, Sem.run_bind]
theorem results_cell1 {P : Program} {fn : Func} {tmps : Array Value} {w : World} {s s1 : Nat} {t : TypeId} {g o : Nat} {v v1 : Value} (hf : fn.results = #[.cell s t, .tmp s1]) (ha : tmps.getD s undef = .pointer (some ⟨g, o, none⟩)) (h1 : tmps.getD s1 undef = v1) (hl : (loadVar t ⟨g, o, none⟩).run P w = .ok v w) : (results fn tmps).run P w = .ok (.tuple #[v, v1]) w := by
 rw [Array.getD_eq_getD_getElem?] at ha h1
 unfold results
 rw [hf]
 simp [ha, asAddr, hl, h1, Sem.run_bind]
end Go.Proofs.YtkfgijkkffbpmaaGreat
namespace Go.Proofs.YtkfgijkkffbpmaaGreat
open Go.RowKit
theorem Blk.six {w : World} {g : Nat} {t : TypeId} {v0 v1 v2 v3 v4 v5 : Value} (h : Blk w g t #[v0, v1, v2, v3, v4, v5]) : w.cell? ⟨g, 0, none⟩ = some v0 /\ w.cell? ⟨g, 1, none⟩ = some v1 /\ w.cell? ⟨g, 2, none⟩ = some v2 /\ w.cell? ⟨g, 3, none⟩ = some v3 /\ w.cell? ⟨g, 4, none⟩ = some v4 /\ w.cell? ⟨g, 5, none⟩ = some v5 :=
 ⟨h.cell 0 rfl, h.cell 1 rfl, h.cell 2 rfl, h.cell 3 rfl, h.cell 4 rfl, h.cell 5 rfl⟩
abbrev rq (kd pl nn wa : Int) (a1 a2 : Option Addr) (l1 l2 c1 c2 : Nat) : Value := .agg #[.int .i64 kd, .int .i64 pl, .int .i64 nn, .slice a1 l1 c1, .slice a2 l2 c2, .int .i64 wa]
def wrK (kd : Int) : Bool := decide (kd = 5 \/ kd = 6 \/ kd = 15 \/ kd = 16 \/ kd = 22 \/ kd = 23)
end Go.Proofs.YtkfgijkkffbpmaaGreat
namespace Go.Proofs.YtkfgijkkffbpmaaGreat
open Go.RowKit
abbrev rp (kd fl pl nn : Int) (a1 a2 : Option Addr) (l1 l2 c1 c2 : Nat) : Value := .agg #[.int .i64 kd, .int .i64 fl, .int .i64 pl, .int .i64 nn, .slice a1 l1 c1, .slice a2 l2 c2]
theorem eqResp_true (kd fl pl nn : Int) (a1 a2 a1' a2' : Option Addr) (l1 l2 l1' l2' c1 c2 c1' c2' : Nat) (ws : List Int) (bs : List Bool) (w : World) (h1 : l1 = ws.length) (h2 : l2 = bs.length) (h1' : l1' = ws.length) (h2' : l2' = bs.length) (s1 : SlI w a1 ws) (s2 : SlB w a2 bs) (s1' : SlI w a1' ws) (s2' : SlB w a2' bs) (hl1 : ws.length <= 2000000) (hl2 : bs.length <= 2000000) :
 Calls Tryz.prog 209 #[.agg #[.int .i64 kd, .int .i64 fl, .int .i64 pl, .int .i64 nn, .slice a1 l1 c1, .slice a2 l2 c2], .agg #[.int .i64 kd, .int .i64 fl, .int .i64 pl, .int .i64 nn, .slice a1' l1' c1', .slice a2' l2' c2']] w fun e w' => e = .returned (.bool true) /\ Below w.heap.size w w' := by
 obtain ⟨W0, hW0'⟩ : ∃ W0, W0 = (w.alloc (.cells #[.int .i64 kd, .int .i64 fl, .int .i64 pl, .int .i64 nn, .slice a1 l1 c1, .slice a2 l2 c2] 146)).alloc (.cells #[.int .i64 kd, .int .i64 fl, .int .i64 pl, .int .i64 nn, .slice a1' l1' c1', .slice a2' l2' c2'] 146) := ⟨_, rfl⟩
 have hW0 : Hid (W0 = _) := hW0'
 have B0 : Below w.heap.size w W0 := by rw [hW0']; exact bel_next (bel_alloc w _) (bel_alloc _ _)
 have X0 : Blk W0 w.heap.size 146 #[.int .i64 kd, .int .i64 fl, .int .i64 pl, .int .i64 nn, .slice a1 l1 c1, .slice a2 l2 c2] := by rw [hW0']; exact (Blk.new w _ _).below (bel_alloc _ _)
 have Y0 : Blk W0 (w.heap.size + 1) 146 #[.int .i64 kd, .int .i64 fl, .int .i64 pl, .int .i64 nn, .slice a1' l1' c1', .slice a2' l2' c2'] := by
  rw [hW0']; have := Blk.new (w.alloc (.cells #[.int .i64 kd, .int .i64 fl, .int .i64 pl, .int .i64 nn, .slice a1 l1 c1, .slice a2 l2 c2] 146)) #[.int .i64 kd, .int .i64 fl, .int .i64 pl, .int .i64 nn, .slice a1' l1' c1', .slice a2' l2' c2'] 146; simpa using this
 have HH : Hid (l1 = ws.length /\ l2 = bs.length /\ l1' = ws.length /\ l2' = bs.length /\ SlI W0 a1 ws /\ SlB W0 a2 bs /\ SlI W0 a1' ws /\ SlB W0 a2' bs) := ⟨h1, h2, h1', h2', s1.below B0, s2.below B0, s1'.below B0, s2'.below B0⟩
 obtain ⟨x0, x1, x2, x3, x4, x5⟩ := X0.six
 obtain ⟨y0, y1, y2, y3, y4, y5⟩ := Y0.six
 clear h1 h2 h1' h2' s1 s2 s1' s2' hW0'
 go_enter Tryz.func209, Tryz.ntmps209
 go_upto_region 1 with fail
 rw [<- hW0.out]
 go_wp2_with fail
 refine (eqIntS_ok _ _ _ _ _ _ ws _ HH.out.1 HH.out.2.2.1 HH.out.2.2.2.2.1 HH.out.2.2.2.2.2.2.1 hl1).mono ?_
 rintro e w1 ⟨rfl, b1'⟩
 have b1 := bel_next B0 b1'
 have X1 := X0.below b1'
 have Y1 := Y0.below b1'
 have S1 : Hid (SlB w1 a2 bs /\ SlB w1 a2' bs) := ⟨HH.out.2.2.2.2.2.1.below b1', HH.out.2.2.2.2.2.2.2.below b1'⟩
 clear x0 x1 x2 x3 x4 x5 y0 y1 y2 y3 y4 y5 X0 Y0 B0 b1'
 have x5 := X1.cell 5 rfl
 have y5 := Y1.cell 5 rfl
 go_wp2_with fail
 refine (eqBoolS_ok _ _ _ _ _ _ bs _ HH.out.2.1 HH.out.2.2.2.1 S1.out.1 S1.out.2 (by omega)).mono ?_
 rintro e w2 ⟨rfl, b2'⟩
 have b2 := bel_next b1 b2'
 go_wp2
 go_ret
 exact ⟨rfl, b2⟩
end Go.Proofs.YtkfgijkkffbpmaaGreat
namespace Go.Proofs.YtkfgijkkffbpmaaGreat
open Go.RowKit Go.Joins
inductive Tr where
 | leaf (v : Value)
 | list (s n : Nat) (f : Nat -> Nat -> Tr)
def Rd (w : World) (lo : Nat) : Tr -> Value -> Prop
 | .leaf u, v => v = u
 | .list s n f, v => ∃ a c, v = .slice a n c /\ n <= c /\ n <= maxLen /\ (n = 0 \/ ∃ (g off : Nat) (F : Nat -> List Value), a = some ⟨g, off, none⟩ /\ lo <= g /\ g < w.heap.size /\
  ∀ k, k < n -> (F k).length = s /\ ∀ j v, (F k)[j]? = some v -> w.cell? ⟨g, off + k * s + j, none⟩ = some v /\ Rd w lo (f k j) v)
def RdL (w : World) (lo : Nat) (ts : Nat -> Tr) (vs : List Value) : Prop := ∀ j v, vs[j]? = some v -> Rd w lo (ts j) v
theorem Rd.below {w w' : World} {lo : Nat} (hb : Below w.heap.size w w') : ∀ {t : Tr} {v : Value}, Rd w lo t v -> Rd w' lo t v := by
 intro t
 induction t with
 | leaf u => intro v h; exact h
 | list s n f ih =>
  intro v h
  obtain ⟨a, c, h1, h2, h3, h4⟩ := h
  refine ⟨a, c, h1, h2, h3, ?_⟩
  rcases h4 with h4 | ⟨g, off, F, ha, hlo, hg, hc⟩
  ·exact .inl h4
  refine .inr ⟨g, off, F, ha, hlo, Nat.lt_of_lt_of_le hg hb.size, fun k hk => ⟨(hc k hk).1, fun j v hj => ?_⟩⟩
  obtain ⟨q1, q2⟩ := (hc k hk).2 j v hj
  exact ⟨(hb.cell (p := ⟨g, off + k * s + j, none⟩) hg).trans q1, ih k j q2⟩
theorem Rd.mono {w : World} {lo lo' : Nat} (hl : lo' <= lo) : ∀ {t : Tr} {v : Value}, Rd w lo t v -> Rd w lo' t v := by
 intro t
 induction t with
 | leaf u => intro v h; exact h
 | list s n f ih =>
  intro v h
  obtain ⟨a, c, h1, h2, h3, h4⟩ := h
  refine ⟨a, c, h1, h2, h3, ?_⟩
  rcases h4 with h4 | ⟨g, off, F, ha, hlo, hg, hc⟩
  ·exact .inl h4
  refine .inr ⟨g, off, F, ha, Nat.le_trans hl hlo, hg, fun k hk => ⟨(hc k hk).1, fun j v hj => ?_⟩⟩
  obtain ⟨q1, q2⟩ := (hc k hk).2 j v hj
  exact ⟨q1, ih k j q2⟩
theorem Rd.kept {w w' : World} {lo gx : Nat} (hg : w.grownBy w' (some gx)) (hx : gx < lo) : ∀ {t : Tr} {v : Value}, Rd w lo t v -> Rd w' lo t v := by
 intro t
 induction t with
 | leaf u => intro v h; exact h
 | list s n f ih =>
  intro v h
  obtain ⟨a, c, h1, h2, h3, h4⟩ := h
  refine ⟨a, c, h1, h2, h3, ?_⟩
  rcases h4 with h4 | ⟨g, off, F, ha, hlo, hgs, hc⟩
  ·exact .inl h4
  refine .inr ⟨g, off, F, ha, hlo, Nat.lt_of_lt_of_le hgs hg.size, fun k hk => ⟨(hc k hk).1, fun j v hj => ?_⟩⟩
  obtain ⟨q1, q2⟩ := (hc k hk).2 j v hj
  refine ⟨?_, ih k j q2⟩
  rw [<- q1]
  exact World.cell?_of_block (a := ⟨g, off + k * s + j, none⟩) (hg.block g hgs (fun e => by have := Option.some.inj e; omega))
theorem Rd.shape {w : World} {lo s n : Nat} {f : Nat -> Nat -> Tr} {v : Value} (h : Rd w lo (.list s n f) v) : ∃ a c, v = .slice a n c /\ n <= c /\ n <= maxLen := by
 obtain ⟨a, c, h1, h2, h3, _⟩ := h
 exact ⟨a, c, h1, h2, h3⟩
theorem Rd.at {w : World} {lo s n m c k : Nat} {a : Option Addr} {f : Nat -> Nat -> Tr} (h : Rd w lo (.list s n f) (.slice a m c)) (hk : k < n) :
 ∃ g off vs, a = some ⟨g, off, none⟩ /\ lo <= g /\ g < w.heap.size /\ vs.length = s /\ w.rangeAt g (off + k * s) vs /\ RdL w lo (f k) vs := by
 obtain ⟨a', c', h1, h2, h3, h4⟩ := h
 simp only [Value.slice.injEq] at h1
 rcases h4 with h4 | ⟨g, off, F, ha, hlo, hgs, hc⟩
 ·omega
 exact ⟨g, off, F k, by rw [h1.1, ha], hlo, hgs, (hc k hk).1, fun j v hj => ((hc k hk).2 j v hj).1, fun j v hj => ((hc k hk).2 j v hj).2⟩
def sumN : Nat -> (Nat -> Nat) -> Nat
 | 0, _ => 0
 | n + 1, g => sumN n g + g n
theorem sumN_mono (g : Nat -> Nat) : ∀ {i j : Nat}, i <= j -> sumN i g <= sumN j g := by
 intro i j hij
 induction hij with
 | refl => exact Nat.le_refl _
 | step _ ih => exact Nat.le_trans ih (by simp [sumN])
theorem sumN_at (g : Nat -> Nat) {k n : Nat} (hk : k < n) : g k <= sumN n g := by
 have := sumN_mono g (show k + 1 <= n by omega)
 simp only [sumN] at this
 omega
def Tr.sz : Tr -> Nat
 | .leaf _ => 0
 | .list s n f => n + sumN n (fun k => sumN s (fun j => (f k j).sz))
def szT (s : Nat) (ts : Nat -> Tr) : Nat := sumN s (fun j => (ts j).sz)
theorem Tr.sz_list (s n : Nat) (f : Nat -> Nat -> Tr) : (Tr.list s n f).sz = n + sumN n (fun k => szT s (f k)) := rfl
def lfT (left t : Nat) : Int := if t <= left then (left : Int) - (t : Int) else -1
def intsT (ws : List Int) : Tr := .list 1 ws.length (fun k _ => .leaf (.int .i64 (ws.getD k 0)))
def boolsT (bs : List Bool) : Tr := .list 1 bs.length (fun k _ => .leaf (.bool (bs.getD k false)))
theorem sumN_zero : ∀ (n : Nat), sumN n (fun _ => 0) = 0
 | 0 => rfl
 | n + 1 => by simp [sumN, sumN_zero n]
theorem intsT_sz (ws : List Int) : (intsT ws).sz = ws.length := by
 unfold intsT
 simp [Tr.sz, sumN, sumN_zero]
theorem boolsT_sz (bs : List Bool) : (boolsT bs).sz = bs.length := by
 unfold boolsT
 simp [Tr.sz, sumN, sumN_zero]
theorem Rd.ints {w : World} {lo : Nat} {ws : List Int} {v : Value} (h : Rd w lo (intsT ws) v) : ∃ a c, v = .slice a ws.length c /\ ws.length <= c /\ ws.length <= maxLen /\ SlI w a ws := by
 obtain ⟨a, c, h1, h2, h3, h4⟩ := h
 refine ⟨a, c, h1, h2, h3, ?_⟩
 rcases h4 with h4 | ⟨g, off, F, ha, hlo, hgs, hc⟩
 ·exact .inl (List.eq_nil_of_length_eq_zero h4)
 refine .inr ⟨g, off, ha, hgs, fun i hi => ?_⟩
 obtain ⟨q1, q2⟩ := hc i hi
 obtain ⟨v, hv⟩ : ∃ v, (F i)[0]? = some v := ⟨(F i)[0]'(by omega), by simp⟩
 obtain ⟨q3, q4⟩ := q2 0 v hv
 rw [Nat.mul_one, Nat.add_zero] at q3
 rw [q3]
 exact congrArg some q4
theorem Rd.bools {w : World} {lo : Nat} {bs : List Bool} {v : Value} (h : Rd w lo (boolsT bs) v) : ∃ a c, v = .slice a bs.length c /\ bs.length <= c /\ bs.length <= maxLen /\ SlB w a bs := by
 obtain ⟨a, c, h1, h2, h3, h4⟩ := h
 refine ⟨a, c, h1, h2, h3, ?_⟩
 rcases h4 with h4 | ⟨g, off, F, ha, hlo, hgs, hc⟩
 ·exact .inl (List.eq_nil_of_length_eq_zero h4)
 refine .inr ⟨g, off, ha, hgs, fun i hi => ?_⟩
 obtain ⟨q1, q2⟩ := hc i hi
 obtain ⟨v, hv⟩ : ∃ v, (F i)[0]? = some v := ⟨(F i)[0]'(by omega), by simp⟩
 obtain ⟨q3, q4⟩ := q2 0 v hv
 rw [Nat.mul_one, Nat.add_zero] at q3
 rw [q3]
 exact congrArg some q4
theorem rd_ints {w : World} {lo n c : Nat} {a : Option Addr} {ws : List Int} (hn : n = ws.length) (hc : n <= c) (hm : n <= maxLen) (h : SlI w a ws) (hlo : ∀ g, (Value.slice a n c).ownBlock = some g -> lo <= g) : Rd w lo (intsT ws) (.slice a n c) := by
 subst hn
 refine ⟨a, c, rfl, hc, hm, ?_⟩
 rcases h with h | ⟨b, off, ha, hb, h⟩
 ·exact .inl (by rw [h]; rfl)
 subst ha
 refine .inr ⟨b, off, fun k => [.int .i64 (ws.getD k 0)], rfl, hlo b rfl, hb, fun k hk => ⟨rfl, fun j v hj => ?_⟩⟩
 match j, hj with
 | 0, hj =>
  simp only [List.getElem?_cons_zero, Option.some.injEq] at hj
  subst hj
  exact ⟨by rw [Nat.mul_one, Nat.add_zero]; exact h k hk, rfl⟩
 | j + 1, hj => simp at hj
theorem rd_bools {w : World} {lo n c : Nat} {a : Option Addr} {bs : List Bool} (hn : n = bs.length) (hc : n <= c) (hm : n <= maxLen) (h : SlB w a bs) (hlo : ∀ g, (Value.slice a n c).ownBlock = some g -> lo <= g) : Rd w lo (boolsT bs) (.slice a n c) := by
 subst hn
 refine ⟨a, c, rfl, hc, hm, ?_⟩
 rcases h with h | ⟨b, off, ha, hb, h⟩
 ·exact .inl (by rw [h]; rfl)
 subst ha
 refine .inr ⟨b, off, fun k => [.bool (bs.getD k false)], rfl, hlo b rfl, hb, fun k hk => ⟨rfl, fun j v hj => ?_⟩⟩
 match j, hj with
 | 0, hj =>
  simp only [List.getElem?_cons_zero, Option.some.injEq] at hj
  subst hj
  exact ⟨by rw [Nat.mul_one, Nat.add_zero]; exact h k hk, rfl⟩
 | j + 1, hj => simp at hj
def trs (l : List Tr) : Nat -> Tr := fun j => l.getD j (.leaf undef)
theorem RdL.get {w : World} {lo j : Nat} {l : List Tr} {vs : List Value} {t : Tr} {v : Value} (h : RdL w lo (trs l) vs) (hv : vs[j]? = some v) (ht : l[j]? = some t) : Rd w lo t v := by
 have := h j v hv
 unfold trs at this
 rw [List.getD_eq_getElem?_getD, ht] at this
 exact this
theorem RdL.mk {w : World} {lo : Nat} {l : List Tr} {vs : List Value} (h : ∀ (j : Nat) v t, vs[j]? = some v -> l[j]? = some t -> Rd w lo t v) (hl : vs.length <= l.length) : RdL w lo (trs l) vs := fun j v hv => by
 have hj : j < vs.length := (List.getElem?_eq_some_iff.1 hv).1
 obtain ⟨t, ht⟩ : ∃ t, l[j]? = some t := ⟨l[j]'(by omega), by simp⟩
 unfold trs
 rw [List.getD_eq_getElem?_getD, ht]
 exact h j v t hv ht
end Go.Proofs.YtkfgijkkffbpmaaGreat
namespace Go.Proofs.YtkfgijkkffbpmaaGreat
open Go.RowKit Go.Joins
theorem Tr.sz_leaf (v : Value) : (Tr.leaf v).sz = 0 := rfl
structure VQ where
 kd : Int
 pl : Int
 n : Int
 ws : List Int
 bs : List Bool
 wa : Int
instance : Inhabited VQ := ⟨⟨0, 0, 0, [], [], 0⟩⟩
def qT (X : VQ) : List Tr := [.leaf (.int .i64 X.kd), .leaf (.int .i64 X.pl), .leaf (.int .i64 X.n), intsT X.ws, boolsT X.bs, .leaf (.int .i64 X.wa)]
abbrev qL (X : VQ) (a1 : Option Addr) (l1 c1 : Nat) (a2 : Option Addr) (l2 c2 : Nat) : List Value := [.int .i64 X.kd, .int .i64 X.pl, .int .i64 X.n, .slice a1 l1 c1, .slice a2 l2 c2, .int .i64 X.wa]
theorem szT_q (X : VQ) : szT 6 (trs (qT X)) = X.ws.length + X.bs.length := by
 simp [szT, sumN, trs, qT, Tr.sz_leaf, intsT_sz, boolsT_sz]
structure VA where
 kd : Int
 fl : Int
 pl : Int
 n : Int
 ws : List Int
 bs : List Bool
instance : Inhabited VA := ⟨⟨0, 0, 0, 0, [], []⟩⟩
def aT (X : VA) : List Tr := [.leaf (.int .i64 X.kd), .leaf (.int .i64 X.fl), .leaf (.int .i64 X.pl), .leaf (.int .i64 X.n), intsT X.ws, boolsT X.bs]
abbrev aL (X : VA) (a1 : Option Addr) (l1 c1 : Nat) (a2 : Option Addr) (l2 c2 : Nat) : List Value := [.int .i64 X.kd, .int .i64 X.fl, .int .i64 X.pl, .int .i64 X.n, .slice a1 l1 c1, .slice a2 l2 c2]
theorem VA.cells {w : World} {lo : Nat} {X : VA} {vs : List Value} (h : RdL w lo (trs (aT X)) vs) (hl : vs.length = 6) : ∃ a1 c1 a2 c2, vs = aL X a1 (X.ws.length) c1 a2 (X.bs.length) c2 /\ Rd w lo (intsT X.ws) (.slice a1 (X.ws.length) c1) /\ Rd w lo (boolsT X.bs) (.slice a2 (X.bs.length) c2) := by
 match vs, hl with
 | [v0, v1, v2, v3, v4, v5], _ =>
  have e0 : v0 = .int .i64 X.kd := RdL.get h (j := 0) rfl rfl
  have e1 : v1 = .int .i64 X.fl := RdL.get h (j := 1) rfl rfl
  have e2 : v2 = .int .i64 X.pl := RdL.get h (j := 2) rfl rfl
  have e3 : v3 = .int .i64 X.n := RdL.get h (j := 3) rfl rfl
  have r1 : Rd w lo (intsT X.ws) v4 := RdL.get h (j := 4) rfl rfl
  obtain ⟨a1, c1, e4, _⟩ := r1.shape
  have r2 : Rd w lo (boolsT X.bs) v5 := RdL.get h (j := 5) rfl rfl
  obtain ⟨a2, c2, e5, _⟩ := r2.shape
  subst e0 e1 e2 e3 e4 e5
  exact ⟨a1, c1, a2, c2, rfl, r1, r2⟩
theorem szT_a (X : VA) : szT 6 (trs (aT X)) = X.ws.length + X.bs.length := by
 simp [szT, sumN, trs, aT, Tr.sz_leaf, intsT_sz, boolsT_sz]
structure VP where
 p : Int
 t : Int
 q : VQ
instance : Inhabited VP := ⟨⟨0, 0, default⟩⟩
def pT (X : VP) : List Tr := [.leaf (.int .i64 X.p), .leaf (.int .i64 X.t), .leaf (.int .i64 X.q.kd), .leaf (.int .i64 X.q.pl), .leaf (.int .i64 X.q.n), intsT X.q.ws, boolsT X.q.bs, .leaf (.int .i64 X.q.wa)]
abbrev pL (X : VP) (a1 : Option Addr) (l1 c1 : Nat) (a2 : Option Addr) (l2 c2 : Nat) : List Value := [.int .i64 X.p, .int .i64 X.t, .int .i64 X.q.kd, .int .i64 X.q.pl, .int .i64 X.q.n, .slice a1 l1 c1, .slice a2 l2 c2, .int .i64 X.q.wa]
theorem VP.cells {w : World} {lo : Nat} {X : VP} {vs : List Value} (h : RdL w lo (trs (pT X)) vs) (hl : vs.length = 8) : ∃ a1 c1 a2 c2, vs = pL X a1 (X.q.ws.length) c1 a2 (X.q.bs.length) c2 /\ Rd w lo (intsT X.q.ws) (.slice a1 (X.q.ws.length) c1) /\ Rd w lo (boolsT X.q.bs) (.slice a2 (X.q.bs.length) c2) := by
 match vs, hl with
 | [v0, v1, v2, v3, v4, v5, v6, v7], _ =>
  have e0 : v0 = .int .i64 X.p := RdL.get h (j := 0) rfl rfl
  have e1 : v1 = .int .i64 X.t := RdL.get h (j := 1) rfl rfl
  have e2 : v2 = .int .i64 X.q.kd := RdL.get h (j := 2) rfl rfl
  have e3 : v3 = .int .i64 X.q.pl := RdL.get h (j := 3) rfl rfl
  have e4 : v4 = .int .i64 X.q.n := RdL.get h (j := 4) rfl rfl
  have r1 : Rd w lo (intsT X.q.ws) v5 := RdL.get h (j := 5) rfl rfl
  obtain ⟨a1, c1, e5, _⟩ := r1.shape
  have r2 : Rd w lo (boolsT X.q.bs) v6 := RdL.get h (j := 6) rfl rfl
  obtain ⟨a2, c2, e6, _⟩ := r2.shape
  have e7 : v7 = .int .i64 X.q.wa := RdL.get h (j := 7) rfl rfl
  subst e0 e1 e2 e3 e4 e5 e6 e7
  exact ⟨a1, c1, a2, c2, rfl, r1, r2⟩
theorem szT_p (X : VP) : szT 8 (trs (pT X)) = X.q.ws.length + X.q.bs.length := by
 simp [szT, sumN, trs, pT, Tr.sz_leaf, intsT_sz, boolsT_sz]
structure VD where
 id : Int
 so : Int
 ta : Int
 un : Int
 q : VQ
 np : Nat
 pt : Nat -> VP
 hs : List Bool
 nt : Nat
 tl : Nat -> VA
instance : Inhabited VD := ⟨⟨0, 0, 0, 0, default, 0, fun _ => default, [], 0, fun _ => default⟩⟩
def dT (X : VD) : List Tr := [.leaf (.int .i64 X.id), .leaf (.int .i64 X.so), .leaf (.int .i64 X.ta), .leaf (.int .i64 X.un), .leaf (.int .i64 X.q.kd), .leaf (.int .i64 X.q.pl), .leaf (.int .i64 X.q.n), intsT X.q.ws, boolsT X.q.bs, .leaf (.int .i64 X.q.wa), .list 8 X.np (fun i => trs (pT (X.pt i))), boolsT X.hs, .list 6 X.nt (fun i => trs (aT (X.tl i)))]
abbrev dL (X : VD) (a1 : Option Addr) (l1 c1 : Nat) (a2 : Option Addr) (l2 c2 : Nat) (a3 : Option Addr) (l3 c3 : Nat) (a4 : Option Addr) (l4 c4 : Nat) (a5 : Option Addr) (l5 c5 : Nat) : List Value := [.int .i64 X.id, .int .i64 X.so, .int .i64 X.ta, .int .i64 X.un, .int .i64 X.q.kd, .int .i64 X.q.pl, .int .i64 X.q.n, .slice a1 l1 c1, .slice a2 l2 c2, .int .i64 X.q.wa, .slice a3 l3 c3, .slice a4 l4 c4, .slice a5 l5 c5]
theorem VD.cells {w : World} {lo : Nat} {X : VD} {vs : List Value} (h : RdL w lo (trs (dT X)) vs) (hl : vs.length = 13) : ∃ a1 c1 a2 c2 a3 c3 a4 c4 a5 c5, vs = dL X a1 (X.q.ws.length) c1 a2 (X.q.bs.length) c2 a3 (X.np) c3 a4 (X.hs.length) c4 a5 (X.nt) c5 /\ Rd w lo (intsT X.q.ws) (.slice a1 (X.q.ws.length) c1) /\ Rd w lo (boolsT X.q.bs) (.slice a2 (X.q.bs.length) c2) /\ Rd w lo (.list 8 X.np (fun i => trs (pT (X.pt i)))) (.slice a3 (X.np) c3) /\ Rd w lo (boolsT X.hs) (.slice a4 (X.hs.length) c4) /\ Rd w lo (.list 6 X.nt (fun i => trs (aT (X.tl i)))) (.slice a5 (X.nt) c5) := by
 match vs, hl with
 | [v0, v1, v2, v3, v4, v5, v6, v7, v8, v9, v10, v11, v12], _ =>
  have e0 : v0 = .int .i64 X.id := RdL.get h (j := 0) rfl rfl
  have e1 : v1 = .int .i64 X.so := RdL.get h (j := 1) rfl rfl
  have e2 : v2 = .int .i64 X.ta := RdL.get h (j := 2) rfl rfl
  have e3 : v3 = .int .i64 X.un := RdL.get h (j := 3) rfl rfl
  have e4 : v4 = .int .i64 X.q.kd := RdL.get h (j := 4) rfl rfl
  have e5 : v5 = .int .i64 X.q.pl := RdL.get h (j := 5) rfl rfl
  have e6 : v6 = .int .i64 X.q.n := RdL.get h (j := 6) rfl rfl
  have r1 : Rd w lo (intsT X.q.ws) v7 := RdL.get h (j := 7) rfl rfl
  obtain ⟨a1, c1, e7, _⟩ := r1.shape
  have r2 : Rd w lo (boolsT X.q.bs) v8 := RdL.get h (j := 8) rfl rfl
  obtain ⟨a2, c2, e8, _⟩ := r2.shape
  have e9 : v9 = .int .i64 X.q.wa := RdL.get h (j := 9) rfl rfl
  have r3 : Rd w lo (.list 8 X.np (fun i => trs (pT (X.pt i)))) v10 := RdL.get h (j := 10) rfl rfl
  obtain ⟨a3, c3, e10, _⟩ := r3.shape
  have r4 : Rd w lo (boolsT X.hs) v11 := RdL.get h (j := 11) rfl rfl
  obtain ⟨a4, c4, e11, _⟩ := r4.shape
  have r5 : Rd w lo (.list 6 X.nt (fun i => trs (aT (X.tl i)))) v12 := RdL.get h (j := 12) rfl rfl
  obtain ⟨a5, c5, e12, _⟩ := r5.shape
  subst e0 e1 e2 e3 e4 e5 e6 e7 e8 e9 e10 e11 e12
  exact ⟨a1, c1, a2, c2, a3, c3, a4, c4, a5, c5, rfl, r1, r2, r3, r4, r5⟩
theorem szT_d (X : VD) : szT 13 (trs (dT X)) = X.q.ws.length + X.q.bs.length + (Tr.list 8 X.np (fun i => trs (pT (X.pt i)))).sz + X.hs.length + (Tr.list 6 X.nt (fun i => trs (aT (X.tl i)))).sz := by
 simp [szT, sumN, trs, dT, Tr.sz_leaf, intsT_sz, boolsT_sz]
structure VT where
 nx : Int
 m : Nat
 f : Nat -> VD
instance : Inhabited VT := ⟨⟨0, 0, fun _ => default⟩⟩
def tT (X : VT) : List Tr := [.leaf (.int .i64 X.nx), .list 13 X.m (fun i => trs (dT (X.f i)))]
abbrev tL (X : VT) (a1 : Option Addr) (l1 c1 : Nat) : List Value := [.int .i64 X.nx, .slice a1 l1 c1]
theorem szT_t (X : VT) : szT 2 (trs (tT X)) = (Tr.list 13 X.m (fun i => trs (dT (X.f i)))).sz := by
 simp [szT, sumN, trs, tT, Tr.sz_leaf, intsT_sz, boolsT_sz]
end Go.Proofs.YtkfgijkkffbpmaaGreat
namespace Go.Proofs.YtkfgijkkffbpmaaGreat
open Go.ChangeShapes Go.WideShapes Go.ChangeAt Go.RowKit Go.Deep Go.Joins
inductive Sh where
 | int
 | bool
 | lst (s : Nat) (f : Nat -> Sh)
def OfSh (w : World) : Sh -> Value -> Prop
 | .int, v => ∃ z, v = .int .i64 z
 | .bool, v => ∃ z, v = .bool z
 | .lst s f, v => ∃ a n c, v = .slice a n c /\ n <= c /\ n <= maxLen /\ (n = 0 \/ ∃ (g off : Nat) (F : Nat -> List Value), a = some ⟨g, off, none⟩ /\ g < w.heap.size /\
  ∀ k, k < n -> (F k).length = s /\ ∀ j v, (F k)[j]? = some v -> w.cell? ⟨g, off + k * s + j, none⟩ = some v /\ OfSh w (f j) v)
def OfShL (w : World) (S : List Sh) (vs : List Value) : Prop := vs.length = S.length /\ ∀ j v, vs[j]? = some v -> OfSh w (S.getD j .int) v
def shF (P : Program) (sh : TypeId -> Option (List Sh)) : List Field -> Nat -> Option (List Sh)
 | [], _ => some []
 | f :: r, o => match sh f.type, shF P sh r (o + P.cellsOf f.type) with
  | some l, some l' => if f.offset = o /\ P.cellsOf f.type = l.length then some (l ++ l') else none
  | _, _ => none
def shT (P : Program) : Nat -> TypeId -> Option (List Sh)
 | 0, _ => none
 | n + 1, t => match P.underlying t with
  | some (.int .i64) => some [.int]
  | some .bool => some [.bool]
  | some (.slice e) => match shT P n e with
   | some l => if P.cellsOf e = l.length /\ 0 < l.length then some [.lst l.length (fun j => l.getD j .int)] else none
   | none => none
  | some (.struct fs) => match shF P (shT P n) fs.toList 0 with
   | some l => if P.cellsOf t = l.length then some l else none
   | none => none
  | _ => none
section
variable {H : Type} {enc : TypeId × Value -> H} {P : Program} {w : World} {base : Nat} {held : Bool}
theorem opened_shF {sh : TypeId -> Option (List Sh)} {cs : List Value}
 (hsh : ∀ t S, sh t = some S -> ∀ (fuel : Nat) cs' (y : DataW H × List MemPlace), DataW.trod enc P w base (fun _ => true) held fuel t cs' = some y -> OfShL w S cs') :
 ∀ (fs : List Field) (o : Nat) (S : List Sh), shF P sh fs o = some S -> (∀ (i : Nat) f, fs[i]? = some f -> ∃ (n : Nat) (y : DataW H × List MemPlace), DataW.trod enc P w base (fun _ => true) held n f.type ((cs.drop f.offset).take (P.cellsOf f.type)) = some y) ->
  ∀ j v, j < S.length -> cs[o + j]? = some v -> OfSh w (S.getD j .int) v
 | [], o, S, h, _, j, v, hj, hv => by
  simp only [shF, Option.some.injEq] at h
  subst h
  simp at hj
 | f :: r, o, S, h, hf, j, v, hj, hv => by
  unfold shF at h
  split at h
  ·rename_i l l' h1 h2
   split at h
   ·rename_i hc
    simp only [Option.some.injEq] at h
    subst h
    obtain ⟨n, y, hy⟩ := hf 0 f rfl
    obtain ⟨q1, q2⟩ := hsh _ _ h1 _ _ _ hy
    by_cases e : j < l.length
    ·have := q2 j v (by
      rw [List.getElem?_take, if_pos (by omega), List.getElem?_drop, hc.1]
      exact hv)
     rw [List.getD_eq_getElem?_getD] at this ⊢
     rw [List.getElem?_append_left e]
     exact this
    have := opened_shF hsh r _ l' h2 (fun i f' hf' => hf (i + 1) f' (by simpa using hf')) (j - l.length) v (by simp at hj; omega) (by
     rw [show o + P.cellsOf f.type + (j - l.length) = o + j by omega]
     exact hv)
    rw [List.getD_eq_getElem?_getD] at this ⊢
    rw [List.getElem?_append_right (by omega)]
    exact this
   simp at h
  simp at h
theorem opened_sh : ∀ (n : Nat) (t : TypeId) (S : List Sh), shT P n t = some S -> ∀ (fuel : Nat) cs (y : DataW H × List MemPlace), DataW.trod enc P w base (fun _ => true) held fuel t cs = some y -> OfShL w S cs
 | 0, t, S, h, _, _, _, _ => by simp [shT] at h
 | n + 1, t, S, h, fuel, cs, y, hy => by
  unfold shT at h
  split at h
  ·rename_i ht
   simp only [Option.some.injEq] at h
   subst h
   obtain ⟨z, rfl, _⟩ := DataW.trod_int ht hy
   refine ⟨rfl, fun j v hv => ?_⟩
   match j, hv with
   | 0, hv => simp at hv; subst hv; exact ⟨z, rfl⟩
   | j + 1, hv => simp at hv
  ·rename_i ht
   simp only [Option.some.injEq] at h
   subst h
   obtain ⟨z, rfl, _⟩ := DataW.trod_bool ht hy
   refine ⟨rfl, fun j v hv => ?_⟩
   match j, hv with
   | 0, hv => simp at hv; subst hv; exact ⟨z, rfl⟩
   | j + 1, hv => simp at hv
  ·rename_i e ht
   split at h
   ·rename_i l hl
    split at h
    ·rename_i hc
     simp only [Option.some.injEq] at h
     subst h
     rcases open_slice ht hy with ⟨rfl, _⟩ | ⟨x, len, c, m, n', D, Pl, rfl, _, hlc, hcm, hmm, _, hx⟩
     ·refine ⟨rfl, fun j v hv => ?_⟩
      match j, hv with
      | 0, hv => simp at hv; subst hv; exact ⟨none, 0, 0, rfl, Nat.le_refl _, Nat.zero_le _, .inl rfl⟩
      | j + 1, hv => simp at hv
     simp only [if_true] at hmm
     subst hmm
     rw [hc.1] at hx
     obtain ⟨F, hF⟩ := choose_lt (α := List Value) (p := fun i cs' => w.cells? base (x.add (i * l.length)) l.length = some cs' /\ DataW.trod enc P w base (fun _ => true) held n' e cs' = some (D i, Pl i)) (fun i hi => hx i hi)
     refine ⟨rfl, fun j v hv => ?_⟩
     match j, hv with
     | 0, hv =>
      simp at hv
      subst hv
      refine ⟨some x, len, m, rfl, hlc, by omega, ?_⟩
      by_cases e0 : len = 0
      ·exact .inl e0
      have hc0 := (World.cells?_some (hF 0 (by omega)).1)
      obtain ⟨b, off, spot⟩ := x
      have hc9 := hc0.2.2 0 hc.2
      obtain ⟨v0, hv0⟩ : ∃ v, (F 0)[0]? = some v := ⟨(F 0)[0]'(by rw [hc0.2.1]; exact hc.2), by simp⟩
      rw [hv0] at hc9
      have hspot : spot = none := by simpa [Addr.add] using World.cell?_spot hc9
      subst hspot
      refine .inr ⟨b, off, F, rfl, (by simpa [Addr.add] using World.block_lt_of_cell? _ _ hc9), fun k hk => ?_⟩
      have h1 := World.cells?_some (hF k (by omega)).1
      obtain ⟨q1, q2⟩ := opened_sh n e l hl _ _ _ (hF k (by omega)).2
      refine ⟨q1, fun j v hj => ⟨?_, q2 j v hj⟩⟩
      have h2 := h1.2.2 j (by rw [<- q1]; exact (List.getElem?_eq_some_iff.1 hj).1)
      have e1 : ∀ (o n : Nat), (Addr.mk b o none).add n = ⟨b, o + n, none⟩ := fun o n => by
       by_cases e : n = 0
       ·subst e; rfl
       simp [Addr.add, e]
      rw [e1, e1, hj] at h2
      exact h2
     | j + 1, hv => simp at hv
    simp at h
   simp at h
  ·rename_i fs ht
   split at h
   ·rename_i l hl
    split at h
    ·rename_i hc
     simp only [Option.some.injEq] at h
     subst h
     obtain ⟨xs, m, _, hx, hlen, hxl, hg⟩ := DataW.trod_struct ht hy
     refine ⟨by rw [hlen, hc], fun j v hv => ?_⟩
     have hj : j < l.length := by
      have := (List.getElem?_eq_some_iff.1 hv).1
      omega
     exact opened_shF (cs := cs) (fun t' S' hs => opened_sh n t' S' hs) fs.toList 0 l hl (fun i f hf => by
      have hf' : fs[i]? = some f := by simpa using hf
      have := hg i f hf'
      have hi : i < xs.length := by rw [hxl]; exact (Array.getElem?_eq_some_iff.1 hf').1
      exact ⟨m, xs[i], by rw [this]; simp⟩) j v hj (by rw [Nat.zero_add]; exact hv)
    simp at h
   simp at h
  simp at h
end
theorem OfSh.ints {w : World} {f : Nat -> Sh} {v : Value} (h : OfSh w (.lst 1 f) v) (hf : f 0 = .int) : ∃ ws, Rd w 0 (intsT ws) v := by
 obtain ⟨a, n, c, rfl, h1, h2, h3⟩ := h
 rcases h3 with h3 | ⟨g, off, F, rfl, hg, hF⟩
 ·subst h3
  exact ⟨[], a, c, rfl, h1, h2, .inl rfl⟩
 obtain ⟨z, hz⟩ := choose_lt (α := Int) (n := n) (p := fun k z => w.cell? ⟨g, off + k, none⟩ = some (.int .i64 z)) (fun k hk => by
  obtain ⟨q1, q2⟩ := hF k hk
  obtain ⟨v, hv⟩ : ∃ v, (F k)[0]? = some v := ⟨(F k)[0]'(by omega), by simp⟩
  obtain ⟨q3, q4⟩ := q2 0 v hv
  rw [hf] at q4
  obtain ⟨z, rfl⟩ := q4
  exact ⟨z, by rw [Nat.mul_one, Nat.add_zero] at q3; exact q3⟩)
 refine ⟨(List.range n).map z, rd_ints (by simp) h1 h2 (.inr ⟨g, off, rfl, hg, fun i hi => ?_⟩) (fun _ _ => Nat.zero_le _)⟩
 simp at hi
 rw [hz i hi]
 simp [List.getD_eq_getElem?_getD, hi]
theorem OfSh.bools {w : World} {f : Nat -> Sh} {v : Value} (h : OfSh w (.lst 1 f) v) (hf : f 0 = .bool) : ∃ bs, Rd w 0 (boolsT bs) v := by
 obtain ⟨a, n, c, rfl, h1, h2, h3⟩ := h
 rcases h3 with h3 | ⟨g, off, F, rfl, hg, hF⟩
 ·subst h3
  exact ⟨[], a, c, rfl, h1, h2, .inl rfl⟩
 obtain ⟨z, hz⟩ := choose_lt (α := Bool) (n := n) (p := fun k z => w.cell? ⟨g, off + k, none⟩ = some (.bool z)) (fun k hk => by
  obtain ⟨q1, q2⟩ := hF k hk
  obtain ⟨v, hv⟩ : ∃ v, (F k)[0]? = some v := ⟨(F k)[0]'(by omega), by simp⟩
  obtain ⟨q3, q4⟩ := q2 0 v hv
  rw [hf] at q4
  obtain ⟨z, rfl⟩ := q4
  exact ⟨z, by rw [Nat.mul_one, Nat.add_zero] at q3; exact q3⟩)
 refine ⟨(List.range n).map z, rd_bools (by simp) h1 h2 (.inr ⟨g, off, rfl, hg, fun i hi => ?_⟩) (fun _ _ => Nat.zero_le _)⟩
 simp at hi
 rw [hz i hi]
 simp [List.getD_eq_getElem?_getD, hi]
theorem OfSh.list {w : World} {s : Nat} {f : Nat -> Sh} {v : Value} {α : Type} [Inhabited α] {T : α -> List Tr} (h : OfSh w (.lst s f) v) (hof : ∀ vs : List Value, vs.length = s -> (∀ j v, vs[j]? = some v -> OfSh w (f j) v) -> ∃ X : α, RdL w 0 (trs (T X)) vs) : ∃ (n : Nat) (g : Nat -> α), Rd w 0 (.list s n (fun i => trs (T (g i)))) v := by
 obtain ⟨a, n, c, rfl, h1, h2, h3⟩ := h
 rcases h3 with h3 | ⟨g, off, F, rfl, hg, hF⟩
 ·subst h3
  exact ⟨0, fun _ => default, a, c, rfl, h1, h2, .inl rfl⟩
 obtain ⟨X, hX⟩ := choose_lt (α := α) (n := n) (p := fun k X => RdL w 0 (trs (T X)) (F k)) (fun k hk => hof _ (hF k hk).1 (fun j v hv => ((hF k hk).2 j v hv).2))
 exact ⟨n, X, some ⟨g, off, none⟩, c, rfl, h1, h2, .inr ⟨g, off, F, rfl, Nat.zero_le _, hg, fun k hk => ⟨(hF k hk).1, fun j v hv => ⟨((hF k hk).2 j v hv).1, hX k hk j v hv⟩⟩⟩⟩
def qSh : List Sh := [.int, .int, .int, .lst 1 (fun j => [Sh.int].getD j .int), .lst 1 (fun j => [Sh.bool].getD j .int), .int]
def aSh : List Sh := [.int, .int, .int, .int, .lst 1 (fun j => [Sh.int].getD j .int), .lst 1 (fun j => [Sh.bool].getD j .int)]
def pSh : List Sh := [.int, .int, .int, .int, .int, .lst 1 (fun j => [Sh.int].getD j .int), .lst 1 (fun j => [Sh.bool].getD j .int), .int]
def dSh : List Sh := [.int, .int, .int, .int, .int, .int, .int, .lst 1 (fun j => [Sh.int].getD j .int), .lst 1 (fun j => [Sh.bool].getD j .int), .int, .lst 8 (fun j => pSh.getD j .int), .lst 1 (fun j => [Sh.bool].getD j .int), .lst 6 (fun j => aSh.getD j .int)]
def tSh : List Sh := [.int, .lst 13 (fun j => dSh.getD j .int)]
end Go.Proofs.YtkfgijkkffbpmaaGreat
namespace Go.Proofs.YtkfgijkkffbpmaaGreat
open Go.ChangeShapes Go.WideShapes Go.ChangeAt Go.RowKit Go.Deep Go.Joins
def InIos (w : World) (a : Option Addr) (len : Nat) (zs : List Int) : Prop := zs.length = len /\ len <= maxLen /\ SlI w a zs /\ ∀ n ∈ zs, -9223372036854775808 <= n /\ n <= 9223372036854775807
section
variable {H : Type} {enc : TypeId × Value -> H} {P : Program} {w : World} {base : Nat} {held : Bool}
theorem opened_int1 {t : TypeId} {k : IntKind} {n : Nat} {c : Value} {y : DataW H × List MemPlace} {spare : Nat -> Bool} (ht : P.underlying t = some (.int k)) (h : DataW.trod enc P w base spare held n t [c] = some y) : ∃ x, c = .int k x /\ (Lit.int k x).wf = true := by
 obtain ⟨x, h1, h2, h3⟩ := DataW.trod_int ht h
 exact ⟨x, by simpa using h1, by first | exact h2 | exact h3⟩
def InReq (w : World) (kd pl nn wa : Int) (a b : Option Addr) (la lb : Nat) (ws : List Int) (bs : List Bool) : Prop :=
 InIos w a la ws /\ InBos w b lb bs /\ lb <= maxLen /\ (Lit.int .i64 kd).wf = true /\ (Lit.int .i64 pl).wf = true /\ (Lit.int .i64 nn).wf = true /\ (Lit.int .i64 wa).wf = true
end
end Go.Proofs.YtkfgijkkffbpmaaGreat
namespace Go.Proofs.YtkfgijkkffbpmaaGreat
open Go.RowKit
def marksF (s n : Nat) : List Int := (List.range n).map (fun i : Nat => ((s : Int) + (i : Int)) % 256)
def MarkedF (s : Nat) (w wr : World) (g cap k : Nat) : Prop :=
 w.grownBy wr (some g) /\ ∃ cur, wr.heap[g]? = some (.cells cur 5 (0, 0)) /\ cur.size = cap /\ ∀ i, i < k -> cur[i]? = some (.int .u8 (((s : Int) + (i : Int)) % 256))
end Go.Proofs.YtkfgijkkffbpmaaGreat
namespace Go.Proofs.YtkfgijkkffbpmaaGreat
open Go.RowKit
end Go.Proofs.YtkfgijkkffbpmaaGreat
namespace Go.Proofs.YtkfgijkkffbpmaaGreat
end Go.Proofs.YtkfgijkkffbpmaaGreat

/- Texts that the proof needs, joined: Bys0 ArgS Bys Marks Ios ArgQ Box StR Marks2 Steps Bos Req1 Bits Ru1 ArgU ArgC SrP RgI RgV RgW RgX. -/
import Derived.Test.YtccffbbboodolaaChecked
import Derived.WalkKit
import Derived.Deep.OwnRows
import Derived.Deep.QuietTactic
import Derived.BigQuiet
import Derived.ProofKit
import Derived.OpenShut
import Derived.Deep.Grids
import Derived.Lib.SmallJoins
import Derived.Laws.MakeOwn
import Derived.Deep.RegionLaw
import Derived.Deep.Cut
import Derived.Deep.CutRange
import Derived.Deep.DeepCutAuto
import Derived.Deep.Slices
import Derived.RegionTactic
import Derived.Below
namespace Go.Proofs.Ytccffbbboodolaa
open Go.RowKit
def Sl (w : World) (a : Option Addr) (zs : List Int) : Prop :=
  zs = [] ∨ ∃ b off, a = some ⟨b, off, none⟩ ∧ b < w.heap.size ∧ ∀ i, i < zs.length → w.cell? ⟨b, off + i, none⟩ = some (.int .u8 (zs.getD i 0))
theorem bel_drewN {B : Nat} {a w : World} (h : Below B a w) (n : Nat) : Below B a (w.drewN n) := h.trans ⟨rfl, rfl, rfl, Nat.le_refl _, fun _ _ => rfl⟩
theorem ret_int {k : IntKind} {a b : Int} (h : a = b) : Ending.returned (.int k a) = .returned (.int k b) := by rw [h]
def Own (w : World) (base : Nat) (v : Value) (zs : List Int) : Prop := w.ownsRow base 5 1 v zs.length (zs.map (Value.int .u8))
theorem grown_below {w w' : World} (hb : Below w.heap.size w w') (row : Option Nat) : w.grownBy w' row := ⟨hb.os, hb.tape, hb.output, hb.size, fun k hk _ => hb.block k hk⟩
end Go.Proofs.Ytccffbbboodolaa
namespace Go.Proofs.Ytccffbbboodolaa
open Go.ChangeShapes Go.WideShapes Go.ChangeAt Go.RowKit Go.Deep Go.Joins
def InBys (w : World) (a : Option Addr) (len : Nat) (zs : List Int) : Prop := zs.length = len ∧ len ≤ maxLen ∧ Sl w a zs ∧ ∀ n ∈ zs, 0 ≤ n ∧ n ≤ 255
def SlB (w : World) (a : Option Addr) (zs : List Bool) : Prop :=
  zs = [] ∨ ∃ b off, a = some ⟨b, off, none⟩ ∧ b < w.heap.size ∧ ∀ i, i < zs.length → w.cell? ⟨b, off + i, none⟩ = some (.bool (zs.getD i false))
def InBos (w : World) (a : Option Addr) (len : Nat) (zs : List Bool) : Prop := zs.length = len ∧ SlB w a zs
section
variable {H : Type} {enc : TypeId × Value → H} {P : Program} {w : World} {base : Nat} {held : Bool}
end
end Go.Proofs.Ytccffbbboodolaa
namespace Go.Proofs.Ytccffbbboodolaa
open Go.RowKit
end Go.Proofs.Ytccffbbboodolaa
namespace Go.Proofs.Ytccffbbboodolaa
open Go.RowKit
def marks (n : Nat) : List Int := (List.range n).map (fun i : Nat => ((i : Int) + 1) % 256)
def Marked (w wr : World) (g cap k : Nat) : Prop :=
  w.grownBy wr (some g) ∧ ∃ cur, wr.heap[g]? = some (.cells cur 5 (0, 0)) ∧ cur.size = cap ∧ ∀ i, i < k → cur[i]? = some (.int .u8 (((i : Int) + 1) % 256))
theorem drew_refl (w : World) (n : Nat) : Below w.heap.size w (w.drewN n) := bel_drewN (Below.refl _ _) n
theorem hide {p : Prop} (h : p) : Hid p := h
end Go.Proofs.Ytccffbbboodolaa
namespace Go.Proofs.Ytccffbbboodolaa
open Go.RowKit
def SlI (w : World) (a : Option Addr) (zs : List Int) : Prop :=
  zs = [] ∨ ∃ b off, a = some ⟨b, off, none⟩ ∧ b < w.heap.size ∧ ∀ i, i < zs.length → w.cell? ⟨b, off + i, none⟩ = some (.int .i64 (zs.getD i 0))
theorem SlI.below {w w' : World} {a : Option Addr} {zs : List Int} (h : SlI w a zs) (hb : Below w.heap.size w w') : SlI w' a zs := by
  rcases h with h | ⟨b, off, ha, hlt, hc⟩
  · exact .inl h
  · exact .inr ⟨b, off, ha, by have := hb.size; omega, fun i hi => by rw [hb.cell (p := ⟨b, off + i, none⟩) hlt]; exact hc i hi⟩
theorem cell_atI {w : World} {a : Option Addr} {zs : List Int} (hs : SlI w a zs) {k : Nat} (hlt : k < zs.length) : ∃ b off, a = some ⟨b, off, none⟩ ∧ b < w.heap.size ∧ w.cell? ⟨b, off + k, none⟩ = some (.int .i64 (zs.getD k 0)) := by
  rcases hs with hs | ⟨b, off, h1, h2, h3⟩
  · rw [hs] at hlt; simp at hlt
  · exact ⟨b, off, h1, h2, h3 k hlt⟩
def OwnI (w : World) (base : Nat) (v : Value) (zs : List Int) : Prop := w.ownsRow base 3 1 v zs.length (zs.map (Value.int .i64))
set_option maxHeartbeats 1000000 in
theorem eqIntS_true (a a' : Option Addr) (n n' cap cap' : Nat) (zs : List Int) (w : World) (hn : n = zs.length) (hn' : n' = zs.length) (hs : SlI w a zs) (hs' : SlI w a' zs) (hl : zs.length ≤ 2000000) :
    Calls Try.prog 74 #[.slice a n cap, .slice a' n' cap'] w fun e w' => e = .returned (.bool true) ∧ ∃ n, w' = w.drewN n := by
  subst hn hn'
  go_enter Try.func74, Try.ntmps74
  go_wp2
  go_loopw [5] (fun i wr => ∃ k : Nat, k ≤ zs.length ∧ i = .int .i64 k ∧ ∃ n, wr = w.drewN n) (fun i _ => zs.length - (intOf i).toNat)
  case atStart => exact ⟨0, Nat.zero_le _, rfl, 0, rfl⟩
  case round =>
    obtain ⟨k, hk, rfl, n, rfl⟩ := hrel
    by_cases hlt : k < zs.length
    · obtain ⟨b, off, rfl, _, hc⟩ := cell_atI hs hlt
      obtain ⟨b', off', rfl, _, hc'⟩ := cell_atI hs' hlt
      have hi : (k : Int) < (zs.length : Int) := by omega
      clear hs hs'
      go_wp2
      go_quiet (fail)
      go_wp2
      go_roundw
      case rel => exact ⟨k + 1, by omega, by go_num, _, rfl⟩
      case measure => simp [intOf]; omega
    · clear hs hs'
      go_wp2
      go_ret
      exact ⟨rfl, _, rfl⟩
def marksI (s n : Nat) : List Int := (List.range n).map (fun i : Nat => (s : Int) + (i : Int))
theorem marksI_length (s n : Nat) : (marksI s n).length = n := by simp [marksI]
theorem marksI_get (s n i : Nat) (h : i < n) : (marksI s n).getD i 0 = (s : Int) + (i : Int) := by simp [marksI, h]
def MarkedI (s : Nat) (w wr : World) (g cap k : Nat) : Prop :=
  w.grownBy wr (some g) ∧ ∃ cur, wr.heap[g]? = some (.cells cur 3 (0, 0)) ∧ cur.size = cap ∧ ∀ i, i < k → cur[i]? = some (.int .i64 ((s : Int) + (i : Int)))
end Go.Proofs.Ytccffbbboodolaa
namespace Go.Proofs.Ytccffbbboodolaa
open Go.ChangeShapes Go.WideShapes Go.ChangeAt Go.RowKit Go.Deep Go.Joins
def InIos (w : World) (a : Option Addr) (len : Nat) (zs : List Int) : Prop := zs.length = len ∧ len ≤ maxLen ∧ SlI w a zs ∧ ∀ n ∈ zs, -9223372036854775808 ≤ n ∧ n ≤ 9223372036854775807
section
variable {H : Type} {enc : TypeId × Value → H} {P : Program} {w : World} {base : Nat} {held : Bool}
theorem opened_int1 {t : TypeId} {k : IntKind} {n : Nat} {c : Value} {y : DataW H × List MemPlace} {spare : Nat → Bool} (ht : P.underlying t = some (.int k)) (h : DataW.trod enc P w base spare held n t [c] = some y) : ∃ x, c = .int k x ∧ (Lit.int k x).wf = true := by
  obtain ⟨x, h1, h2, h3⟩ := DataW.trod_int ht h
  exact ⟨x, by simpa using h1, by first | exact h2 | exact h3⟩
def InReq (w : World) (kd pl nn wa : Int) (a b : Option Addr) (la lb : Nat) (ws : List Int) (bs : List Bool) : Prop :=
  InIos w a la ws ∧ InBos w b lb bs ∧ lb ≤ maxLen ∧ (Lit.int .i64 kd).wf = true ∧ (Lit.int .i64 pl).wf = true ∧ (Lit.int .i64 nn).wf = true ∧ (Lit.int .i64 wa).wf = true
end
end Go.Proofs.Ytccffbbboodolaa
namespace Go.Proofs.Ytccffbbboodolaa
open Go.RowKit
def Box (w : World) (g : Nat) (t : TypeId) (v : Value) : Prop := w.heap[g]? = some (.cells #[v] t (0, 0))
end Go.Proofs.Ytccffbbboodolaa
namespace Go.Proofs.Ytccffbbboodolaa
open Go.RowKit Go.Joins
set_option linter.unusedVariables false
theorem idx_inj {s i k j l : Nat} (hj : j < s) (hl : l < s) (h : i * s + j = k * s + l) : i = k ∧ j = l := by
  have e1 : (i * s + j) / s = i := by rw [Nat.mul_comm, Nat.mul_add_div (by omega), Nat.div_eq_of_lt hj, Nat.add_zero]
  have e2 : (k * s + l) / s = k := by rw [Nat.mul_comm, Nat.mul_add_div (by omega), Nat.div_eq_of_lt hl, Nat.add_zero]
  have : i = k := by rw [← e1, h, e2]
  subst this
  exact ⟨rfl, by omega⟩
def CsAt (w : World) (g o : Nat) (vs : List Value) : Prop := ∀ j, j < vs.length → w.cell? ⟨g, o + j, none⟩ = vs[j]?
def RowS (w : World) (g : Nat) (t : TypeId) (s n : Nat) (F : Nat → List Value) : Prop :=
  ∃ cs, w.heap[g]? = some (.cells cs t (0, 0)) ∧ cs.size = n * s ∧ ∀ k, k < n → ∀ j, j < s → cs[k * s + j]? = (F k)[j]?
def setL (w : World) (g : Nat) : Nat → List Value → World
  | _, [] => w
  | o, v :: vs => setL (w.setCell ⟨g, o, none⟩ v) g (o + 1) vs
theorem setL_block {g : Nat} {t : TypeId} {fr : Nat × Nat} : ∀ (vs : List Value) (w : World) (o : Nat) (cs : Array Value), w.heap[g]? = some (.cells cs t fr) →
    ∃ cs', (setL w g o vs).heap[g]? = some (.cells cs' t fr) ∧ cs'.size = cs.size ∧ ∀ i, i < cs.size → cs'[i]? = if o ≤ i ∧ i < o + vs.length then vs[i - o]? else cs[i]?
  | [], w, o, cs, h => ⟨cs, h, rfl, fun i _ => by rw [if_neg (by simp)]⟩
  | v :: vs, w, o, cs, h => by
    obtain ⟨cs', h1, h2, h3⟩ := setL_block vs (w.setCell ⟨g, o, none⟩ v) (o + 1) (cs.setIfInBounds o v) (block_setCell h v)
    refine ⟨cs', h1, by simpa using h2, fun i hi => ?_⟩
    rw [h3 i (by simpa using hi)]
    by_cases e : i = o
    · subst e
      rw [if_neg (by omega), if_pos (by simp)]
      simp [hi]
    · by_cases e2 : o ≤ i ∧ i < o + (v :: vs).length
      · rw [if_pos (by simp at e2; omega), if_pos e2]
        obtain ⟨d, rfl⟩ : ∃ d, i = o + 1 + d := ⟨i - (o + 1), by omega⟩
        rw [show o + 1 + d - (o + 1) = d by omega, show o + 1 + d - o = d + 1 by omega]
        simp
      · rw [if_neg (by simp at e2; omega), if_neg e2, Array.getElem?_setIfInBounds_ne (by omega)]
theorem setL_size (vs : List Value) : ∀ (w : World) (g o : Nat), (setL w g o vs).heap.size = w.heap.size := by
  induction vs with
  | nil => intro w g o; rfl
  | cons v vs ih => intro w g o; show (setL (w.setCell ⟨g, o, none⟩ v) g (o + 1) vs).heap.size = _; rw [ih]; simp [World.setCell]
theorem setL_below {B g : Nat} {w0 : World} (hg : B ≤ g) : ∀ (vs : List Value) (w : World) (o : Nat), Below B w0 w → Below B w0 (setL w g o vs)
  | [], _, _, h => h
  | v :: vs, w, o, h => setL_below hg vs (w.setCell ⟨g, o, none⟩ v) (o + 1) (h.setCell hg v)
theorem RowS.lt {w : World} {g : Nat} {t : TypeId} {s n : Nat} {F : Nat → List Value} (h : RowS w g t s n F) : g < w.heap.size := by
  obtain ⟨cs, h, _⟩ := h
  exact (Array.getElem?_eq_some_iff.1 h).1
theorem RowS.cell {w : World} {g : Nat} {t : TypeId} {s n : Nat} {F : Nat → List Value} (h : RowS w g t s n F) {k j : Nat} (hk : k < n) (hj : j < s) : w.cell? ⟨g, k * s + j, none⟩ = (F k)[j]? := by
  obtain ⟨cs, h1, _, h3⟩ := h
  rw [cell_of_block h1]
  exact h3 k hk j hj
theorem RowS.fro {w : World} {g : Nat} {t : TypeId} {s n : Nat} {F : Nat → List Value} (h : RowS w g t s n F) (o : Nat) : w.frozen? ⟨g, o, none⟩ = false := by
  obtain ⟨cs, h1, _⟩ := h
  exact unfrozen_of_block h1 o
theorem RowS.below {w w' : World} {g : Nat} {t : TypeId} {s n : Nat} {F : Nat → List Value} (h : RowS w g t s n F) (hb : Below w.heap.size w w') : RowS w' g t s n F := by
  have hl := h.lt
  obtain ⟨cs, h1, h2, h3⟩ := h
  exact ⟨cs, by rw [hb.block _ hl]; exact h1, h2, h3⟩
theorem RowS.congr {w : World} {g : Nat} {t : TypeId} {s n : Nat} {F G : Nat → List Value} (h : RowS w g t s n F) (he : ∀ k, k < n → F k = G k) : RowS w g t s n G := by
  obtain ⟨cs, h1, h2, h3⟩ := h
  exact ⟨cs, h1, h2, fun k hk j hj => by rw [← he k hk]; exact h3 k hk j hj⟩
theorem RowS.kept {w w' : World} {g : Nat} {t : TypeId} {s n : Nat} {F : Nat → List Value} {row : Option Nat} (h : RowS w g t s n F) (hg : w.grownBy w' row) (hne : row ≠ some g) : RowS w' g t s n F := by
  have hl := h.lt
  obtain ⟨cs, h1, h2, h3⟩ := h
  exact ⟨cs, by rw [hg.block g hl (fun e => hne e.symm)]; exact h1, h2, h3⟩
theorem RowS.set {w : World} {g : Nat} {t : TypeId} {s n : Nat} {F : Nat → List Value} (h : RowS w g t s n F) {k : Nat} (hk : k < n) (vs : List Value) (hv : vs.length = s) : RowS (setL w g (k * s) vs) g t s n (fun i => if i = k then vs else F i) := by
  obtain ⟨cs, h1, h2, h3⟩ := h
  obtain ⟨cs', g1, g2, g3⟩ := setL_block vs w (k * s) cs h1
  refine ⟨cs', g1, by omega, fun i hi j hj => ?_⟩
  have hin : i * s + j < cs.size := by
    rw [h2]
    have : (i + 1) * s ≤ n * s := Nat.mul_le_mul_right s hi
    rw [Nat.add_mul, Nat.one_mul] at this
    omega
  rw [g3 _ hin]
  by_cases e : i = k
  · subst e
    rw [if_pos (by omega), Nat.add_sub_cancel_left]
    simp
  · rw [if_neg]
    · rw [h3 i hi j hj]
      simp [e]
    · intro ⟨e1, e2⟩
      obtain ⟨d, hd⟩ : ∃ d, i * s + j = k * s + d := ⟨i * s + j - k * s, by omega⟩
      exact e (idx_inj hj (by omega) hd).1
theorem run_make_st {P : Program} (t e : TypeId) (z : Value) (s bytes : Nat) (ht : P.underlying t = some (.slice e)) (hinfo : (P.info? e).map (fun i => (i.zero, i.size, i.bytes)) = some (some z, s, bytes))
    (kl kc : IntKind) (n : Nat) (hbytes : bytes * n ≤ 281474976710656) (h63 : n ≤ 9223372036854775807) (w : World) :
    (Instr.makeSlice t (.int kl (n : Int)) (.int kc (n : Int))).run P w = .ok (.slice (some ⟨w.heap.size, 0, none⟩) n n) (w.alloc (.cells (madeCells z.cells (n * s)) e)) := by
  obtain ⟨i, hi, hzz⟩ := Option.map_eq_some_iff.1 hinfo
  simp only [Prod.mk.injEq] at hzz
  obtain ⟨hz, hs, hb⟩ := hzz
  have hb' : (i.bytes : Int) * (n : Int) ≤ 281474976710656 := by
    have h : ((i.bytes * n : Nat) : Int) ≤ 281474976710656 := by rw [hb]; omega
    rwa [Int.natCast_mul] at h
  have hr := run_make (P := P) w t e i z ht hi hz kl kc n n (by omega) (Int.le_refl _) hb' (by omega)
  simp only [Int.toNat_natCast, hs] at hr
  exact hr
theorem RowS.made (w : World) (zs : List Value) (n : Nat) (t : TypeId) (h0 : 0 < zs.length) : RowS (w.alloc (.cells (madeCells zs.toArray (n * zs.length)) t)) w.heap.size t zs.length n (fun _ => zs) := by
  refine ⟨madeCells zs.toArray (n * zs.length), (by show (w.heap.push _)[w.heap.size]? = _; simp), size_madeCells _ _, fun k hk j hj => ?_⟩
  have hin : k * zs.length + j < n * zs.length := by
    have : (k + 1) * zs.length ≤ n * zs.length := Nat.mul_le_mul_right _ hk
    rw [Nat.add_mul, Nat.one_mul] at this
    omega
  have hm : (k * zs.length + j) % zs.length = j := by rw [Nat.add_comm, Nat.add_mul_mod_self_right, Nat.mod_eq_of_lt hj]
  simp [madeCells, hin, hm, hj]
def SlS (w : World) (a : Option Addr) (s n : Nat) (F : Nat → List Value) : Prop :=
  n = 0 ∨ ∃ b off, a = some ⟨b, off, none⟩ ∧ b < w.heap.size ∧ ∀ k, k < n → ∀ j, j < s → w.cell? ⟨b, off + k * s + j, none⟩ = (F k)[j]?
theorem SlS.below {w w' : World} {a : Option Addr} {s n : Nat} {F : Nat → List Value} (h : SlS w a s n F) (hb : Below w.heap.size w w') : SlS w' a s n F := by
  rcases h with h | ⟨b, off, ha, hlt, hc⟩
  · exact .inl h
  · exact .inr ⟨b, off, ha, by have := hb.size; omega, fun k hk j hj => by rw [hb.cell (p := ⟨b, off + k * s + j, none⟩) hlt]; exact hc k hk j hj⟩
theorem SlS.at {w : World} {a : Option Addr} {s n : Nat} {F : Nat → List Value} (h : SlS w a s n F) {k : Nat} (hk : k < n) : ∃ b off, a = some ⟨b, off, none⟩ ∧ b < w.heap.size ∧ ∀ j, j < s → w.cell? ⟨b, off + k * s + j, none⟩ = (F k)[j]? := by
  rcases h with h | ⟨b, off, ha, hlt, hc⟩
  · omega
  · exact ⟨b, off, ha, hlt, hc k hk⟩
theorem RowS.sl {w : World} {g : Nat} {t : TypeId} {s n : Nat} {F : Nat → List Value} (h : RowS w g t s n F) : SlS w (some ⟨g, 0, none⟩) s n F :=
  .inr ⟨g, 0, rfl, h.lt, fun k hk j hj => by rw [Nat.zero_add]; exact h.cell hk hj⟩
end Go.Proofs.Ytccffbbboodolaa
namespace Go.Proofs.Ytccffbbboodolaa
open Go.RowKit
def marksF (s n : Nat) : List Int := (List.range n).map (fun i : Nat => ((s : Int) + (i : Int)) % 256)
def MarkedF (s : Nat) (w wr : World) (g cap k : Nat) : Prop :=
  w.grownBy wr (some g) ∧ ∃ cur, wr.heap[g]? = some (.cells cur 5 (0, 0)) ∧ cur.size = cap ∧ ∀ i, i < k → cur[i]? = some (.int .u8 (((s : Int) + (i : Int)) % 256))
end Go.Proofs.Ytccffbbboodolaa
namespace Go.Proofs.Ytccffbbboodolaa
open Go.RowKit
end Go.Proofs.Ytccffbbboodolaa
namespace Go.Proofs.Ytccffbbboodolaa
open Go.RowKit
theorem SlB.below {w w' : World} {a : Option Addr} {zs : List Bool} (h : SlB w a zs) (hb : Below w.heap.size w w') : SlB w' a zs := by
  rcases h with h | ⟨b, off, ha, hlt, hc⟩
  · exact .inl h
  · exact .inr ⟨b, off, ha, by have := hb.size; omega, fun i hi => by rw [hb.cell (p := ⟨b, off + i, none⟩) hlt]; exact hc i hi⟩
theorem cell_atB {w : World} {a : Option Addr} {zs : List Bool} (hs : SlB w a zs) {k : Nat} (hlt : k < zs.length) : ∃ b off, a = some ⟨b, off, none⟩ ∧ b < w.heap.size ∧ w.cell? ⟨b, off + k, none⟩ = some (.bool (zs.getD k false)) := by
  rcases hs with hs | ⟨b, off, h1, h2, h3⟩
  · rw [hs] at hlt; simp at hlt
  · exact ⟨b, off, h1, h2, h3 k hlt⟩
def OwnB (w : World) (base : Nat) (v : Value) (zs : List Bool) : Prop := w.ownsRow base 4 1 v zs.length (zs.map (Value.bool))
set_option maxHeartbeats 1000000 in
theorem eqBoolS_true (a a' : Option Addr) (n n' cap cap' : Nat) (zs : List Bool) (w : World) (hn : n = zs.length) (hn' : n' = zs.length) (hs : SlB w a zs) (hs' : SlB w a' zs) (hl : zs.length ≤ 20000000) :
    Calls Try.prog 69 #[.slice a n cap, .slice a' n' cap'] w fun e w' => e = .returned (.bool true) ∧ ∃ n, w' = w.drewN n := by
  subst hn hn'
  go_enter Try.func69, Try.ntmps69
  go_wp2
  go_loopw [5] (fun i wr => ∃ k : Nat, k ≤ zs.length ∧ i = .int .i64 k ∧ ∃ n, wr = w.drewN n) (fun i _ => zs.length - (intOf i).toNat)
  case atStart => exact ⟨0, Nat.zero_le _, rfl, 0, rfl⟩
  case round =>
    obtain ⟨k, hk, rfl, n, rfl⟩ := hrel
    by_cases hlt : k < zs.length
    · obtain ⟨b, off, rfl, _, hc⟩ := cell_atB hs hlt
      obtain ⟨b', off', rfl, _, hc'⟩ := cell_atB hs' hlt
      have hi : (k : Int) < (zs.length : Int) := by omega
      clear hs hs'
      go_wp2
      go_quiet (fail)
      go_wp2
      go_roundw
      case rel => exact ⟨k + 1, by omega, by go_num, _, rfl⟩
      case measure => simp [intOf]; omega
    · clear hs hs'
      go_wp2
      go_ret
      exact ⟨rfl, _, rfl⟩
def marksB (s n : Nat) : List Bool := (List.range n).map (fun i : Nat => ((s : Int) + (i : Int)) % 3 == 0)
theorem marksB_length (s n : Nat) : (marksB s n).length = n := by simp [marksB]
theorem marksB_get (s n i : Nat) (h : i < n) : (marksB s n).getD i false = (((s : Int) + (i : Int)) % 3 == 0) := by simp [marksB, h]
def MarkedB (s : Nat) (w wr : World) (g cap k : Nat) : Prop :=
  w.grownBy wr (some g) ∧ ∃ cur, wr.heap[g]? = some (.cells cur 4 (0, 0)) ∧ cur.size = cap ∧ ∀ i, i < k → cur[i]? = some (.bool (((s : Int) + (i : Int)) % 3 == 0))
end Go.Proofs.Ytccffbbboodolaa
namespace Go.Proofs.Ytccffbbboodolaa
open Go.RowKit
theorem bel_next {w0 w w' : World} (h : Below w0.heap.size w0 w) (h' : Below w.heap.size w w') : Below w0.heap.size w0 w' := h.trans (h'.mono h.size)
theorem bel_alloc (w : World) (o : Obj) : Below w.heap.size w (w.alloc o) := (Below.refl _ w).alloc (Nat.le_refl _) o
def Blk (w : World) (g : Nat) (t : TypeId) (cs : Array Value) : Prop := w.heap[g]? = some (.cells cs t (0, 0))
theorem Blk.cell {w : World} {g : Nat} {t : TypeId} {cs : Array Value} (h : Blk w g t cs) (j : Nat) {v : Value} (hj : cs[j]? = some v) : w.cell? ⟨g, j, none⟩ = some v := by
  unfold Blk at h; simp [World.cell?, h, hj]
theorem Blk.fro {w : World} {g : Nat} {t : TypeId} {cs : Array Value} (h : Blk w g t cs) (j : Nat) : w.frozen? ⟨g, j, none⟩ = false := by
  unfold Blk at h; simp [World.frozen?, h]
theorem Blk.lt {w : World} {g : Nat} {t : TypeId} {cs : Array Value} (h : Blk w g t cs) : g < w.heap.size := (Array.getElem?_eq_some_iff.1 h).1
theorem Blk.new (w : World) (cs : Array Value) (t : TypeId) : Blk (w.alloc (.cells cs t)) w.heap.size t cs := by
  show (w.heap.push (.cells cs t (0, 0)))[w.heap.size]? = _; simp
theorem Blk.below {w w' : World} {g : Nat} {t : TypeId} {cs : Array Value} (h : Blk w g t cs) (hb : Below w.heap.size w w') : Blk w' g t cs := by
  unfold Blk; rw [hb.block g h.lt]; exact h
theorem Blk.set {w : World} {g : Nat} {t : TypeId} {cs : Array Value} (h : Blk w g t cs) (j : Nat) (y : Value) : Blk (w.setCell ⟨g, j, none⟩ y) g t (cs.setIfInBounds j y) := by
  unfold Blk at h ⊢; simp [World.setCell, Array.getElem?_modify, h]
theorem Blk.setNe {w : World} {g g' j : Nat} {t : TypeId} {cs : Array Value} {y : Value} (h : Blk w g t cs) (hne : g ≠ g') : Blk (w.setCell ⟨g', j, none⟩ y) g t cs := by
  unfold Blk; rw [Below.heap_setCell _ _ _ _ hne]; exact h
theorem row_noBlk {w : World} {base size n g : Nat} {e t : TypeId} {v : Value} {xs : List Value} {cs : Array Value} (h : w.ownsRow base e size v n xs) (hb : Blk w g t cs) (ht : t ≠ e) : v.ownBlock ≠ some g := by
  intro he
  obtain ⟨_, h2⟩ := h
  rcases h2 with ⟨h2, _⟩ | ⟨g', cap, cur, hv, _, hh, _⟩
  · rw [h2] at he; simp [Value.ownBlock] at he
  · rw [hv] at he
    simp [Value.ownBlock] at he
    subst he
    unfold Blk at hb
    rw [hb] at hh
    simp at hh
    exact ht hh.2
theorem grown_setj (w : World) (g o : Nat) (v : Value) : w.grownBy (w.setCell ⟨g, o, none⟩ v) (some g) :=
  ⟨rfl, rfl, rfl, by simp [World.setCell], fun k hk hne => Below.heap_setCell _ _ _ _ (fun e => hne (by simpa using e))⟩
def ExB (w : World) (g : Nat) (t : TypeId) : Prop := ∃ cs, Blk w g t cs
theorem eqIntS_ok (a a' : Option Addr) (n n' cap cap' : Nat) (zs : List Int) (w : World) (hn : n = zs.length) (hn' : n' = zs.length) (hs : SlI w a zs) (hs' : SlI w a' zs) (hl : zs.length ≤ 2000000) :
    Calls Try.prog 74 #[.slice a n cap, .slice a' n' cap'] w fun e w' => e = .returned (.bool true) ∧ Below w.heap.size w w' := by
  refine (eqIntS_true a a' n n' cap cap' zs w hn hn' hs hs' hl).mono ?_
  rintro e w' ⟨rfl, k, rfl⟩
  exact ⟨rfl, drew_refl _ _⟩
theorem eqBoolS_ok (a a' : Option Addr) (n n' cap cap' : Nat) (zs : List Bool) (w : World) (hn : n = zs.length) (hn' : n' = zs.length) (hs : SlB w a zs) (hs' : SlB w a' zs) (hl : zs.length ≤ 20000000) :
    Calls Try.prog 69 #[.slice a n cap, .slice a' n' cap'] w fun e w' => e = .returned (.bool true) ∧ Below w.heap.size w w' := by
  refine (eqBoolS_true a a' n n' cap cap' zs w hn hn' hs hs' hl).mono ?_
  rintro e w' ⟨rfl, k, rfl⟩
  exact ⟨rfl, drew_refl _ _⟩
set_option maxHeartbeats 2000000 in
theorem eqReq_true (kd pl nn wa : Int) (a1 a2 a1' a2' : Option Addr) (l1 l2 l1' l2' c1 c2 c1' c2' : Nat) (ws : List Int) (bs : List Bool) (w : World) (h1 : l1 = ws.length) (h2 : l2 = bs.length) (h1' : l1' = ws.length) (h2' : l2' = bs.length) (s1 : SlI w a1 ws) (s2 : SlB w a2 bs) (s1' : SlI w a1' ws) (s2' : SlB w a2' bs) (hl1 : ws.length ≤ 2000000) (hl2 : bs.length ≤ 20000000) :
    Calls Try.prog 67 #[.agg #[.int .i64 kd, .int .i64 pl, .int .i64 nn, .slice a1 l1 c1, .slice a2 l2 c2, .int .i64 wa], .agg #[.int .i64 kd, .int .i64 pl, .int .i64 nn, .slice a1' l1' c1', .slice a2' l2' c2', .int .i64 wa]] w fun e w' => e = .returned (.bool true) ∧ Below w.heap.size w w' := by
  obtain ⟨W0, hW0'⟩ : ∃ W0, W0 = (w.alloc (.cells #[.int .i64 kd, .int .i64 pl, .int .i64 nn, .slice a1 l1 c1, .slice a2 l2 c2, .int .i64 wa] 48)).alloc (.cells #[.int .i64 kd, .int .i64 pl, .int .i64 nn, .slice a1' l1' c1', .slice a2' l2' c2', .int .i64 wa] 48) := ⟨_, rfl⟩
  have hW0 : Hid (W0 = _) := hW0'
  have B0 : Below w.heap.size w W0 := by rw [hW0']; exact bel_next (bel_alloc w _) (bel_alloc _ _)
  have X0 : Blk W0 w.heap.size 48 #[.int .i64 kd, .int .i64 pl, .int .i64 nn, .slice a1 l1 c1, .slice a2 l2 c2, .int .i64 wa] := by rw [hW0']; exact (Blk.new w _ _).below (bel_alloc _ _)
  have Y0 : Blk W0 (w.heap.size + 1) 48 #[.int .i64 kd, .int .i64 pl, .int .i64 nn, .slice a1' l1' c1', .slice a2' l2' c2', .int .i64 wa] := by
    rw [hW0']; have := Blk.new (w.alloc (.cells #[.int .i64 kd, .int .i64 pl, .int .i64 nn, .slice a1 l1 c1, .slice a2 l2 c2, .int .i64 wa] 48)) #[.int .i64 kd, .int .i64 pl, .int .i64 nn, .slice a1' l1' c1', .slice a2' l2' c2', .int .i64 wa] 48; simpa using this
  have HH : Hid (l1 = ws.length ∧ l2 = bs.length ∧ l1' = ws.length ∧ l2' = bs.length ∧ SlI W0 a1 ws ∧ SlB W0 a2 bs ∧ SlI W0 a1' ws ∧ SlB W0 a2' bs) := ⟨h1, h2, h1', h2', s1.below B0, s2.below B0, s1'.below B0, s2'.below B0⟩
  have x0 := X0.cell 0 rfl
  have x1 := X0.cell 1 rfl
  have x2 := X0.cell 2 rfl
  have x3 := X0.cell 3 rfl
  have y0 := Y0.cell 0 rfl
  have y1 := Y0.cell 1 rfl
  have y2 := Y0.cell 2 rfl
  have y3 := Y0.cell 3 rfl
  clear h1 h2 h1' h2' s1 s2 s1' s2' hW0'
  go_enter Try.func67, Try.ntmps67
  go_upto_region 1 with fail
  rw [← hW0.out]
  go_wp2_with fail
  refine (eqIntS_ok _ _ _ _ _ _ ws _ HH.out.1 HH.out.2.2.1 HH.out.2.2.2.2.1 HH.out.2.2.2.2.2.2.1 hl1).mono ?_
  rintro e w1 ⟨rfl, b1'⟩
  have b1 := bel_next B0 b1'
  have X1 := X0.below b1'
  have Y1 := Y0.below b1'
  have x4 := X1.cell 4 rfl
  have y4 := Y1.cell 4 rfl
  have S1 : Hid (SlB w1 a2 bs ∧ SlB w1 a2' bs) := ⟨HH.out.2.2.2.2.2.1.below b1', HH.out.2.2.2.2.2.2.2.below b1'⟩
  clear x0 x1 x2 x3 y0 y1 y2 y3 X0 Y0 B0 b1'
  go_wp2_with fail
  refine (eqBoolS_ok _ _ _ _ _ _ bs _ HH.out.2.1 HH.out.2.2.2.1 S1.out.1 S1.out.2 hl2).mono ?_
  rintro e w2 ⟨rfl, b2'⟩
  have b2 := bel_next b1 b2'
  have x5 := (X1.below b2').cell 5 rfl
  have y5 := (Y1.below b2').cell 5 rfl
  clear x4 y4 X1 Y1 b1 b2'
  go_wp2
  go_ret
  exact ⟨rfl, b2⟩
end Go.Proofs.Ytccffbbboodolaa
namespace Go.Proofs.Ytccffbbboodolaa
end Go.Proofs.Ytccffbbboodolaa
namespace Go.Proofs.Ytccffbbboodolaa
open Go.RowKit
set_option linter.unusedVariables false
set_option linter.unusedSimpArgs false
structure Ru where
  u : Int
  s : Int
  lo : Int
  hi : Int
  p : Int
  t : Int
  sh : Int
abbrev rul (r : Ru) : List Value := [.int .i64 r.u, .int .i64 r.s, .int .i64 r.lo, .int .i64 r.hi, .int .i64 r.p, .int .i64 r.t, .int .i64 r.sh]
abbrev ruc (r : Ru) : Array Value := #[.int .i64 r.u, .int .i64 r.s, .int .i64 r.lo, .int .i64 r.hi, .int .i64 r.p, .int .i64 r.t, .int .i64 r.sh]
abbrev SlU (w : World) (a : Option Addr) (n : Nat) (f : Nat → Ru) : Prop := SlS w a 7 n (fun k => rul (f k))
abbrev RowU (w : World) (g n : Nat) (f : Nat → Ru) : Prop := RowS w g 65 7 n (fun k => rul (f k))
theorem SlU.seven {w : World} {a : Option Addr} {n : Nat} {f : Nat → Ru} (h : SlU w a n f) {k : Nat} (hk : k < n) : ∃ b off, a = some ⟨b, off, none⟩ ∧ b < w.heap.size ∧
    w.cell? ⟨b, off + k * 7, none⟩ = some (.int .i64 (f k).u) ∧ w.cell? ⟨b, off + k * 7 + 1, none⟩ = some (.int .i64 (f k).s) ∧ w.cell? ⟨b, off + k * 7 + 2, none⟩ = some (.int .i64 (f k).lo) ∧ w.cell? ⟨b, off + k * 7 + 3, none⟩ = some (.int .i64 (f k).hi) ∧ w.cell? ⟨b, off + k * 7 + 4, none⟩ = some (.int .i64 (f k).p) ∧ w.cell? ⟨b, off + k * 7 + 5, none⟩ = some (.int .i64 (f k).t) ∧ w.cell? ⟨b, off + k * 7 + 6, none⟩ = some (.int .i64 (f k).sh) := by
  obtain ⟨b, off, ha, hb, hc⟩ := SlS.at h hk
  exact ⟨b, off, ha, hb, hc 0 (by decide), hc 1 (by decide), hc 2 (by decide), hc 3 (by decide), hc 4 (by decide), hc 5 (by decide), hc 6 (by decide)⟩
theorem RowU.seven {w : World} {g n : Nat} {f : Nat → Ru} (h : RowU w g n f) {k : Nat} (hk : k < n) :
    w.cell? ⟨g, k * 7, none⟩ = some (.int .i64 (f k).u) ∧ w.cell? ⟨g, k * 7 + 1, none⟩ = some (.int .i64 (f k).s) ∧ w.cell? ⟨g, k * 7 + 2, none⟩ = some (.int .i64 (f k).lo) ∧ w.cell? ⟨g, k * 7 + 3, none⟩ = some (.int .i64 (f k).hi) ∧ w.cell? ⟨g, k * 7 + 4, none⟩ = some (.int .i64 (f k).p) ∧ w.cell? ⟨g, k * 7 + 5, none⟩ = some (.int .i64 (f k).t) ∧ w.cell? ⟨g, k * 7 + 6, none⟩ = some (.int .i64 (f k).sh) :=
  ⟨h.cell hk (j := 0) (by decide), h.cell hk (j := 1) (by decide), h.cell hk (j := 2) (by decide), h.cell hk (j := 3) (by decide), h.cell hk (j := 4) (by decide), h.cell hk (j := 5) (by decide), h.cell hk (j := 6) (by decide)⟩
theorem Try.info65 : (Try.prog.info? 65).map (fun i => (i.zero, i.size, i.bytes)) = some (some (.agg (ruc ⟨0, 0, 0, 0, 0, 0, 0⟩)), 7, 56) := by kernel_rfl
set_option maxHeartbeats 1000000 in
theorem toRule_any (r : Ru) (w : World) :
    Calls Try.prog 31 #[.agg (ruc r)] w fun e w' => e = .returned (.agg (ruc r)) ∧ Below w.heap.size w w' := by
  go_enter Try.func31, Try.ntmps31
  go_wp2
  refine bodyPost_ret (v := .agg (ruc r)) (by simp [results, Try.results31, go_sem]) rfl ⟨rfl, ?_⟩
  exact (((Below.refl _ w).alloc (Nat.le_refl _) _).alloc (by simp) _).alloc (by simp; omega) _
set_option maxHeartbeats 1000000 in
theorem eqRule_true (r : Ru) (w : World) :
    Calls Try.prog 38 #[.agg (ruc r), .agg (ruc r)] w fun e w' => e = .returned (.bool true) ∧ Below w.heap.size w w' := by
  go_enter Try.func38, Try.ntmps38
  go_wp2
  go_ret
  exact ⟨rfl, ((Below.refl _ w).alloc (Nat.le_refl _) _).alloc (by simp) _⟩
theorem szRuleS_fits (a : Option Addr) (n cap : Nat) (left : Nat) (w : World) (h : n ≤ left) (hl : left ≤ 1048576) :
    Calls Try.prog 13 #[.slice a n cap, .int .i64 (left : Int)] w fun e w' => e = .returned (.int .i64 (((left - n : Nat) : Nat) : Int)) ∧ w' = w := by
  have h1 : ¬ ((left : Int) - (n : Int) < 0) := by omega
  have h2 : IntKind.i64.wrap ((left : Int) - n) = (left : Int) - n := by rw [IntKind.wrap_i64]; omega
  go_enter Try.func13, Try.ntmps13
  go_wp2
  go_ret
  exact ⟨ret_int (by omega), rfl⟩
theorem szRuleS_big (a : Option Addr) (n cap : Nat) (left : Nat) (w : World) (hm : n ≤ maxLen) (h : ¬ n ≤ left) (hl : left ≤ 1048576) :
    Calls Try.prog 13 #[.slice a n cap, .int .i64 (left : Int)] w fun e w' => e = .returned (.int .i64 (-1)) ∧ w' = w := by
  unfold maxLen at hm
  have h1 : (left : Int) - (n : Int) < 0 := by omega
  have h2 : IntKind.i64.wrap ((left : Int) - n) = (left : Int) - n := by rw [IntKind.wrap_i64]; omega
  go_enter Try.func13, Try.ntmps13
  go_wp2
  go_ret
  exact ⟨rfl, rfl⟩
set_option maxHeartbeats 1000000 in
theorem toRuleS_any (a : Option Addr) (n cap : Nat) (f : Nat → Ru) (w : World) (hs : SlU w a n f) (hl : n ≤ 2000000) :
    Calls Try.prog 16 #[.slice a n cap] w fun e w' => e = .returned (.slice (some ⟨w.heap.size, 0, none⟩) n n) ∧
      RowU w' w.heap.size n f ∧ Below w.heap.size w w' := by
  have hmk := run_make_st (P := Try.prog) 26 65 (.agg (ruc ⟨0, 0, 0, 0, 0, 0, 0⟩)) 7 56 Try.underlying26 Try.info65 .i64 .i64 n (by omega) (by omega)
  go_enter Try.func16, Try.ntmps16
  go_wp2
  clear hmk
  go_loopw [4] (fun i wr => ∃ k : Nat, k ≤ n ∧ i = .int .i64 k ∧ RowU wr w.heap.size n (fun i => if i < k then f i else ⟨0, 0, 0, 0, 0, 0, 0⟩) ∧ Below w.heap.size w wr) (fun i _ => n - (intOf i).toNat)
  case atStart => exact ⟨0, Nat.zero_le _, rfl, (RowS.made w (rul ⟨0, 0, 0, 0, 0, 0, 0⟩) n _ (by simp)).congr (fun i _ => by simp), (Below.refl _ _).alloc (Nat.le_refl _) _⟩
  case round =>
    obtain ⟨k, hk, rfl, hrow, hb⟩ := hrel
    by_cases hlt : k < n
    · obtain ⟨b, off, rfl, hb0, c0, c1, c2, c3, c4, c5, c6⟩ := SlU.seven (SlS.below hs hb) hlt
      have hi : (k : Int) < (n : Int) := by omega
      have HR : Hid (RowU wr w.heap.size n (fun i => if i < k then f i else ⟨0, 0, 0, 0, 0, 0, 0⟩)) := hrow
      have HB : Hid (Below w.heap.size w wr) := hb
      clear hrow hb
      go_wp2_with fail
      refine (toRule_any (f k) _).mono ?_
      rintro e w1 ⟨rfl, b1⟩
      have R1 := HR.out.below b1
      have B1 := bel_next HB.out b1
      obtain ⟨d0, d1, d2, d3, d4, d5, d6⟩ := RowU.seven R1 hlt
      have f0 := RowS.fro R1 (k * 7)
      have f1 := RowS.fro R1 (k * 7 + 1)
      have f2 := RowS.fro R1 (k * 7 + 2)
      have f3 := RowS.fro R1 (k * 7 + 3)
      have f4 := RowS.fro R1 (k * 7 + 4)
      have f5 := RowS.fro R1 (k * 7 + 5)
      have f6 := RowS.fro R1 (k * 7 + 6)
      have HR2 : Hid (RowU (setL w1 w.heap.size (k * 7) (rul (f k))) w.heap.size n (fun i => if i < k + 1 then f i else ⟨0, 0, 0, 0, 0, 0, 0⟩)) := by
        refine (RowS.set R1 hlt (rul (f k)) rfl).congr (fun i _ => ?_)
        by_cases e : i = k
        · subst e; simp
        · simp only [if_neg e]
          by_cases h : i < k
          · rw [if_pos h, if_pos (by omega)]
          · rw [if_neg h, if_neg (by omega)]
      have HB2 : Hid (Below w.heap.size w (setL w1 w.heap.size (k * 7) (rul (f k)))) := setL_below (Nat.le_refl _) _ _ _ B1
      clear R1 B1 b1 HR HB c0 c1 c2 c3 c4 c5 c6 hs
      go_wp2
      go_roundw
      case rel => exact ⟨k + 1, by omega, by go_num, HR2.out, HB2.out⟩
      case measure => simp [intOf]; omega
    · have R : Hid (RowU wr w.heap.size n f) := hrow.congr (fun i hi => by show rul (if i < k then f i else _) = _; rw [if_pos (by omega)])
      clear hrow hs
      go_wp2
      go_ret
      exact ⟨rfl, R.out, hb⟩
set_option maxHeartbeats 1000000 in
theorem eqRuleS_true (a a' : Option Addr) (n cap cap' : Nat) (f : Nat → Ru) (w : World) (hs : SlU w a n f) (hs' : SlU w a' n f) (hl : n ≤ 2000000) :
    Calls Try.prog 22 #[.slice a n cap, .slice a' n cap'] w fun e w' => e = .returned (.bool true) ∧ Below w.heap.size w w' := by
  go_enter Try.func22, Try.ntmps22
  go_wp2
  go_loopw [5] (fun i wr => ∃ k : Nat, k ≤ n ∧ i = .int .i64 k ∧ Below w.heap.size w wr) (fun i _ => n - (intOf i).toNat)
  case atStart => exact ⟨0, Nat.zero_le _, rfl, Below.refl _ _⟩
  case round =>
    obtain ⟨k, hk, rfl, hb⟩ := hrel
    by_cases hlt : k < n
    · obtain ⟨b, off, rfl, hb0, c0, c1, c2, c3, c4, c5, c6⟩ := SlU.seven (SlS.below hs hb) hlt
      obtain ⟨b', off', rfl, hb0', d0, d1, d2, d3, d4, d5, d6⟩ := SlU.seven (SlS.below hs' hb) hlt
      have hi : (k : Int) < (n : Int) := by omega
      clear hs hs'
      go_wp2_with fail
      go_region_with (go_at_call 38; refine (eqRule_true (f k) _).mono ?_; rintro e w1 ⟨rfl, b1'⟩; have b1 : Below wr.heap.size wr w1 := bel_next (by first | exact Below.refl _ _ | exact (Below.refl _ _).drew | exact (Below.refl _ _).drew.drew) b1'; clear b1')
      all_goals (
        have B1 := bel_next hb b1
        clear hb b1 c0 c1 c2 c3 c4 c5 c6 d0 d1 d2 d3 d4 d5 d6
        go_wp2
        go_roundw
        case rel => exact ⟨k + 1, by omega, by go_num, B1⟩
        case measure => simp [intOf]; omega)
    · clear hs hs'
      go_wp2
      go_ret
      exact ⟨rfl, hb⟩
end Go.Proofs.Ytccffbbboodolaa
namespace Go.Proofs.Ytccffbbboodolaa
open Go.ChangeShapes Go.WideShapes Go.ChangeAt Go.RowKit Go.Deep Go.Joins
set_option linter.unusedVariables false
section
variable {H : Type} {enc : TypeId × Value → H} {P : Program} {w : World} {base : Nat} {held : Bool}
def InRus (w : World) (a : Option Addr) (n : Nat) (f : Nat → Ru) : Prop := n ≤ maxLen ∧ SlU w a n f ∧ ∀ k, k < n → -9223372036854775808 ≤ (f k).sh ∧ (f k).sh ≤ 9223372036854775807
theorem opened_cells {t e : TypeId} {fuel s : Nat} {a : Option Addr} {len cap : Nat} {x : DataW H × List MemPlace} (ht : P.underlying t = some (.slice e)) (hs : P.cellsOf e = s) (h0 : 0 < s)
    (hf : DataW.trod enc P w base (fun _ => true) held fuel t [.slice a len cap] = some x) :
    len ≤ maxLen ∧ ∃ F : Nat → List Value, SlS w a s len F ∧ ∀ k, k < len → (F k).length = s ∧ ∃ n y, DataW.trod enc P w base (fun _ => true) held n e (F k) = some y := by
  rcases open_slice ht hf with ⟨hcs, _⟩ | ⟨x, l, c, m, n, D, Pl, hcs, _, hl, hm, hmm, _, hx⟩
  · simp at hcs
    obtain ⟨rfl, rfl, rfl⟩ := hcs
    exact ⟨Nat.zero_le _, fun _ => [], .inl rfl, fun k hk => by omega⟩
  · simp at hcs
    obtain ⟨rfl, rfl, rfl⟩ := hcs
    simp only [if_true] at hmm
    subst hmm
    rw [hs] at hx
    obtain ⟨F, hF⟩ := choose_lt (α := List Value) (p := fun i cs' => w.cells? base (x.add (i * s)) s = some cs' ∧ DataW.trod enc P w base (fun _ => true) held n e cs' = some (D i, Pl i)) (fun i hi => hx i hi)
    refine ⟨by omega, F, ?_, fun k hk => ⟨(World.cells?_some (hF k (by omega)).1).2.1, n, _, (hF k (by omega)).2⟩⟩
    by_cases e0 : len = 0
    · exact .inl e0
    · have hc0 := (World.cells?_some (hF 0 (by omega)).1)
      obtain ⟨b, off, spot⟩ := x
      have hc := hc0.2.2 0 h0
      obtain ⟨v0, hv0⟩ : ∃ v, (F 0)[0]? = some v := ⟨(F 0)[0], by simp⟩
      rw [hv0] at hc
      have hspot : spot = none := by simpa [Addr.add] using World.cell?_spot hc
      subst hspot
      refine .inr ⟨b, off, rfl, (by simpa [Addr.add] using World.block_lt_of_cell? _ _ hc), fun k hk j hj => ?_⟩
      have h1 := (World.cells?_some (hF k (by omega)).1).2.2 j hj
      rw [← h1]
      have e1 : ∀ (o n : Nat), (Addr.mk b o none).add n = ⟨b, o + n, none⟩ := fun o n => by
        by_cases e : n = 0
        · subst e; rfl
        · simp [Addr.add, e]
      rw [e1, e1]
theorem opened_seven {t i : TypeId} {f0 f1 f2 f3 f4 f5 f6 : Field} {fuel : Nat} {cs : List Value} {y : DataW H × List MemPlace} (hs : P.underlying t = some (.struct #[f0, f1, f2, f3, f4, f5, f6])) (hone : oneCellFields P #[f0, f1, f2, f3, f4, f5, f6] = true)
    (e0 : f0.type = i) (e1 : f1.type = i) (e2 : f2.type = i) (e3 : f3.type = i) (e4 : f4.type = i) (e5 : f5.type = i) (e6 : f6.type = i) (hi : P.underlying i = some (.int .i64)) (hl : cs.length = 7)
    (h : DataW.trod enc P w base (fun _ => true) held fuel t cs = some y) : ∃ r : Ru, cs = rul r ∧ -9223372036854775808 ≤ r.sh ∧ r.sh ≤ 9223372036854775807 := by
  obtain ⟨xs, n, _, hx, hl', hlen, hg⟩ := DataW.trod_struct hs h
  match cs, hl with
  | [c0, c1, c2, c3, c4, c5, c6], _ =>
    obtain ⟨o0, k0⟩ := hone_of hone 0 f0 rfl
    obtain ⟨o1, k1⟩ := hone_of hone 1 f1 rfl
    obtain ⟨o2, k2⟩ := hone_of hone 2 f2 rfl
    obtain ⟨o3, k3⟩ := hone_of hone 3 f3 rfl
    obtain ⟨o4, k4⟩ := hone_of hone 4 f4 rfl
    obtain ⟨o5, k5⟩ := hone_of hone 5 f5 rfl
    obtain ⟨o6, k6⟩ := hone_of hone 6 f6 rfl
    have h0 := hg 0 f0 rfl
    have h1 := hg 1 f1 rfl
    have h2 := hg 2 f2 rfl
    have h3 := hg 3 f3 rfl
    have h4 := hg 4 f4 rfl
    have h5 := hg 5 f5 rfl
    have h6 := hg 6 f6 rfl
    match xs, hlen with
    | [y0, y1, y2, y3, y4, y5, y6], _ =>
      obtain ⟨z0, rfl, _⟩ := opened_int1 (c := c0) (y := y0) hi (by rw [← e0]; simpa [o0, k0] using h0)
      obtain ⟨z1, rfl, _⟩ := opened_int1 (c := c1) (y := y1) hi (by rw [← e1]; simpa [o1, k1] using h1)
      obtain ⟨z2, rfl, _⟩ := opened_int1 (c := c2) (y := y2) hi (by rw [← e2]; simpa [o2, k2] using h2)
      obtain ⟨z3, rfl, _⟩ := opened_int1 (c := c3) (y := y3) hi (by rw [← e3]; simpa [o3, k3] using h3)
      obtain ⟨z4, rfl, _⟩ := opened_int1 (c := c4) (y := y4) hi (by rw [← e4]; simpa [o4, k4] using h4)
      obtain ⟨z5, rfl, _⟩ := opened_int1 (c := c5) (y := y5) hi (by rw [← e5]; simpa [o5, k5] using h5)
      obtain ⟨z6, rfl, w6⟩ := opened_int1 (c := c6) (y := y6) hi (by rw [← e6]; simpa [o6, k6] using h6)
      exact ⟨⟨z0, z1, z2, z3, z4, z5, z6⟩, rfl, bounds_i64 w6⟩
instance : Inhabited Ru := ⟨⟨0, 0, 0, 0, 0, 0, 0⟩⟩
theorem opened_rus {t e i : TypeId} {f0 f1 f2 f3 f4 f5 f6 : Field} {fuel : Nat} {a : Option Addr} {len cap : Nat} {x : DataW H × List MemPlace} (ht : P.underlying t = some (.slice e)) (hc : P.cellsOf e = 7) (hs : P.underlying e = some (.struct #[f0, f1, f2, f3, f4, f5, f6])) (hone : oneCellFields P #[f0, f1, f2, f3, f4, f5, f6] = true)
    (e0 : f0.type = i) (e1 : f1.type = i) (e2 : f2.type = i) (e3 : f3.type = i) (e4 : f4.type = i) (e5 : f5.type = i) (e6 : f6.type = i) (hi : P.underlying i = some (.int .i64))
    (hf : DataW.trod enc P w base (fun _ => true) held fuel t [.slice a len cap] = some x) : ∃ f : Nat → Ru, InRus w a len f := by
  obtain ⟨hm, F, hS, hF⟩ := opened_cells ht hc (by decide) hf
  obtain ⟨f, hf'⟩ := choose_lt (α := Ru) (p := fun k r => F k = rul r ∧ -9223372036854775808 ≤ r.sh ∧ r.sh ≤ 9223372036854775807) (fun k hk => by
    obtain ⟨hl, n, y, hy⟩ := hF k hk
    exact opened_seven hs hone e0 e1 e2 e3 e4 e5 e6 hi hl hy)
  refine ⟨f, hm, ?_, fun k hk => (hf' k hk).2⟩
  rcases hS with h | ⟨b, off, ha, hlt, hc'⟩
  · exact .inl h
  · exact .inr ⟨b, off, ha, hlt, fun k hk j hj => by rw [hc' k hk j hj, (hf' k hk).1]⟩
end
end Go.Proofs.Ytccffbbboodolaa
namespace Go.Proofs.Ytccffbbboodolaa
open Go.ChangeShapes Go.WideShapes Go.ChangeAt Go.RowKit Go.Deep Go.Joins
set_option linter.unusedVariables false
section
variable {H : Type} {enc : TypeId × Value → H} {P : Program} {w : World} {base : Nat} {held : Bool}
theorem array3 {α : Type} {cs : Array α} (h : cs.size = 3) : ∃ c0 c1 c2, cs = #[c0, c1, c2] := by
  obtain ⟨l⟩ := cs
  match l, h with
  | [c0, c1, c2], _ => exact ⟨c0, c1, c2, rfl⟩
theorem opened_cfg {r : Reach} {b0 : Nat} {t i s e : TypeId} {g0 g1 g2 f0 f1 f2 f3 f4 f5 f6 : Field} {v : Value} {d : DataW H} {p : List MemPlace} (hs : P.underlying t = some (.struct #[g0, g1, g2])) (hone : oneCellFields P #[g0, g1, g2] = true) (hC : P.cellsOf t = 3)
    (q0 : g0.type = i) (q1 : g1.type = i) (q2 : g2.type = s) (hi : P.underlying i = some (.int .i64)) (ht : P.underlying s = some (.slice e)) (hc : P.cellsOf e = 7) (hse : P.underlying e = some (.struct #[f0, f1, f2, f3, f4, f5, f6])) (hone' : oneCellFields P #[f0, f1, f2, f3, f4, f5, f6] = true)
    (e0 : f0.type = i) (e1 : f1.type = i) (e2 : f2.type = i) (e3 : f3.type = i) (e4 : f4.type = i) (e5 : f5.type = i) (e6 : f6.type = i)
    (hv : Value.okWide P w r b0 t v) (h : DataW.Trod enc P w base (fun _ => true) held t v d p) :
    ∃ wt tr a len cap f, v = .agg #[.int .i64 wt, .int .i64 tr, .slice a len cap] ∧ InRus w a len f := by
  obtain ⟨cs, rfl, hsz⟩ := okWide_struct hs hv
  obtain ⟨c0, c1, c2, rfl⟩ := array3 (hsz.trans hC)
  obtain ⟨fuel, hf'⟩ := h
  obtain ⟨xs, n, _, hx, hl, hlen, hg⟩ := DataW.trod_struct hs hf'
  obtain ⟨o0, k0⟩ := hone_of hone 0 g0 rfl
  obtain ⟨o1, k1⟩ := hone_of hone 1 g1 rfl
  obtain ⟨o2, k2⟩ := hone_of hone 2 g2 rfl
  have h0 := hg 0 g0 rfl
  have h1 := hg 1 g1 rfl
  have h2 := hg 2 g2 rfl
  match xs, hlen with
  | [y0, y1, y2], _ =>
    obtain ⟨z0, rfl, _⟩ := opened_int1 (c := c0) (y := y0) hi (by rw [← q0]; simpa [Value.cells, o0, k0] using h0)
    obtain ⟨z1, rfl, _⟩ := opened_int1 (c := c1) (y := y1) hi (by rw [← q1]; simpa [Value.cells, o1, k1] using h1)
    have h9 : DataW.trod enc P w base (fun _ => true) held n s [c2] = some y2 := by rw [← q2]; simpa [Value.cells, o2, k2] using h2
    obtain ⟨a, l, c, hcs⟩ := slice_form ht h9
    simp at hcs
    subst hcs
    obtain ⟨f, hf⟩ := opened_rus ht hc hse hone' e0 e1 e2 e3 e4 e5 e6 hi h9
    exact ⟨z0, z1, a, l, c, f, rfl, hf⟩
end
end Go.Proofs.Ytccffbbboodolaa
namespace Go.Proofs.Ytccffbbboodolaa
def ltR (a b : Ru) : Prop := a.u < b.u ∨ (a.u = b.u ∧ (a.s < b.s ∨ (a.s = b.s ∧ a.lo < b.lo)))
instance (a b : Ru) : Decidable (ltR a b) := by unfold ltR; infer_instance
def leR (a b : Ru) : Prop := ¬ ltR b a
theorem leR.trans {a b c : Ru} (h : leR a b) (h' : leR b c) : leR a c := by unfold leR ltR at *; omega
theorem leR.refl (a : Ru) : leR a a := by unfold leR ltR; omega
theorem ltR.le {a b : Ru} (h : ltR a b) : leR a b := by unfold leR; unfold ltR at *; omega
def SortedOn (f : Nat → Ru) (a b : Nat) : Prop := ∀ i j, a ≤ i → i < j → j < b → leR (f i) (f j)
theorem SortedOn.le {f : Nat → Ru} {a b i j : Nat} (h : SortedOn f a b) (h1 : a ≤ i) (h2 : i ≤ j) (h3 : j < b) : leR (f i) (f j) := by
  by_cases e : i = j
  · subst e; exact leR.refl _
  · exact h i j h1 (by omega) h3
def PermIn (a b : Nat) (f g : Nat → Ru) : Prop :=
  ∃ σ τ : Nat → Nat, (∀ k, (k < a ∨ b ≤ k) → σ k = k ∧ τ k = k) ∧ (∀ k, a ≤ k → k < b → a ≤ σ k ∧ σ k < b ∧ a ≤ τ k ∧ τ k < b) ∧ (∀ k, τ (σ k) = k ∧ σ (τ k) = k) ∧ ∀ k, g k = f (σ k)
theorem PermIn.refl (a b : Nat) (f : Nat → Ru) : PermIn a b f f := ⟨id, id, fun _ _ => ⟨rfl, rfl⟩, fun _ h1 h2 => ⟨h1, h2, h1, h2⟩, fun _ => ⟨rfl, rfl⟩, fun _ => rfl⟩
theorem PermIn.trans {a b : Nat} {f g h : Nat → Ru} (p : PermIn a b f g) (q : PermIn a b g h) : PermIn a b f h := by
  obtain ⟨σ, τ, h1, h2, h3, h4⟩ := p
  obtain ⟨σ', τ', g1, g2, g3, g4⟩ := q
  refine ⟨fun k => σ (σ' k), fun k => τ' (τ k), fun k hk => ?_, fun k ha hb => ?_, fun k => ⟨?_, ?_⟩, fun k => by rw [g4, h4]⟩
  · have e1 := g1 k hk
    have e2 := h1 k hk
    simp only
    rw [e1.1, e2.2, e2.1, e1.2]
    exact ⟨rfl, rfl⟩
  · have e1 := g2 k ha hb
    have e2 := h2 k ha hb
    have e3 := h2 (σ' k) e1.1 e1.2.1
    have e4 := g2 (τ k) e2.2.2.1 e2.2.2.2
    exact ⟨e3.1, e3.2.1, e4.2.2.1, e4.2.2.2⟩
  · simp only; rw [(h3 _).1, (g3 _).1]
  · simp only; rw [(g3 _).2, (h3 _).2]
theorem PermIn.mono {a b a' b' : Nat} {f g : Nat → Ru} (p : PermIn a b f g) (h1 : a' ≤ a) (h2 : b ≤ b') : PermIn a' b' f g := by
  obtain ⟨σ, τ, p1, p2, p3, p4⟩ := p
  refine ⟨σ, τ, fun k hk => p1 k (by omega), fun k ha hb => ?_, p3, p4⟩
  by_cases e : a ≤ k ∧ k < b
  · have := p2 k e.1 e.2
    omega
  · have := p1 k (by omega)
    omega
theorem PermIn.out {a b : Nat} {f g : Nat → Ru} (p : PermIn a b f g) {k : Nat} (h : k < a ∨ b ≤ k) : g k = f k := by
  obtain ⟨σ, τ, p1, _, _, p4⟩ := p
  rw [p4, (p1 k h).1]
theorem PermIn.from' {a b : Nat} {f g : Nat → Ru} (p : PermIn a b f g) {k : Nat} (h1 : a ≤ k) (h2 : k < b) : ∃ j, a ≤ j ∧ j < b ∧ g k = f j := by
  obtain ⟨σ, τ, _, p2, _, p4⟩ := p
  exact ⟨σ k, (p2 k h1 h2).1, (p2 k h1 h2).2.1, p4 k⟩
def swI (i j k : Nat) : Nat := if k = i then j else if k = j then i else k
theorem swI_inv (i j k : Nat) : swI i j (swI i j k) = k := by unfold swI; split <;> split <;> (try split) <;> omega
theorem PermIn.swap {a b i j : Nat} (f : Nat → Ru) (h1 : a ≤ i) (h2 : i < b) (h3 : a ≤ j) (h4 : j < b) : PermIn a b f (fun k => f (swI i j k)) := by
  refine ⟨swI i j, swI i j, fun k hk => ?_, fun k ha hb => ?_, fun k => ⟨swI_inv i j k, swI_inv i j k⟩, fun k => rfl⟩
  · have : swI i j k = k := by unfold swI; rw [if_neg (by omega), if_neg (by omega)]
    exact ⟨this, this⟩
  · have : a ≤ swI i j k ∧ swI i j k < b := by unfold swI; split <;> (try split) <;> omega
    exact ⟨this.1, this.2, this.1, this.2⟩
def InsI (h : Nat → Ru) (a i j : Nat) : Prop :=
  (∀ p q, a ≤ p → p < q → q ≤ i → p ≠ j → q ≠ j → leR (h p) (h q)) ∧ (∀ q, j < q → q ≤ i → leR (h j) (h q))
theorem InsI.start {h : Nat → Ru} {a i : Nat} (hs : SortedOn h a i) : InsI h a i i :=
  ⟨fun p q h1 h2 h3 _ h5 => hs p q h1 h2 (by omega), fun q h1 h2 => by omega⟩
theorem InsI.step {h : Nat → Ru} {a i j : Nat} (H : InsI h a i j) (hj : a < j) (hi : j ≤ i) (hlt : ltR (h j) (h (j - 1))) : InsI (fun k => h (swI j (j - 1) k)) a i (j - 1) := by
  obtain ⟨H1, H2⟩ := H
  have ej : swI j (j - 1) j = j - 1 := by simp [swI]
  have ej' : swI j (j - 1) (j - 1) = j := by unfold swI; rw [if_neg (by omega), if_pos rfl]
  have eo : ∀ k, k ≠ j → k ≠ j - 1 → swI j (j - 1) k = k := fun k h1 h2 => by unfold swI; rw [if_neg h1, if_neg h2]
  refine ⟨fun p q h1 h2 h3 h4 h5 => ?_, fun q h1 h2 => ?_⟩
  · show leR (h (swI j (j - 1) p)) (h (swI j (j - 1) q))
    by_cases ep : p = j
    · subst ep
      rw [ej, eo q (by omega) h5]
      exact H1 (p - 1) q (by omega) (by omega) h3 (by omega) (by omega)
    · rw [eo p ep h4]
      by_cases eq : q = j
      · subst eq
        rw [ej]
        exact H1 p (q - 1) h1 (by omega) (by omega) ep (by omega)
      · rw [eo q eq h5]
        exact H1 p q h1 h2 h3 ep eq
  · show leR (h (swI j (j - 1) (j - 1))) (h (swI j (j - 1) q))
    rw [ej']
    by_cases eq : q = j
    · subst eq
      rw [ej]
      exact hlt.le
    · rw [eo q eq (by omega)]
      exact H2 q (by omega) h2
theorem InsI.fin {h : Nat → Ru} {a i j : Nat} (H : InsI h a i j) (hi : j ≤ i) (hx : j ≤ a ∨ ¬ ltR (h j) (h (j - 1))) : SortedOn h a (i + 1) := by
  obtain ⟨H1, H2⟩ := H
  intro p q h1 h2 h3
  by_cases ep : p = j
  · subst ep; exact H2 q h2 (by omega)
  · by_cases eq : q = j
    · subst eq
      rcases hx with hx | hx
      · omega
      · have e1 : leR (h (q - 1)) (h q) := hx
        by_cases e2 : p = q - 1
        · subst e2; exact e1
        · exact (H1 p (q - 1) h1 (by omega) (by omega) ep (by omega)).trans e1
    · exact H1 p q h1 h2 (by omega) ep eq
end Go.Proofs.Ytccffbbboodolaa
namespace Go.Proofs.Ytccffbbboodolaa
open Go.RowKit
theorem getD_eq {l : Array Bool} {i : Nat} (h : i < l.size) (x y : Bool) : l.getD i x = l.getD i y := by
  simp [Array.getD, h]
theorem count_set (l : List Bool) (i : Nat) (h : l[i]? = some false) : (l.set i true).count false + 1 = l.count false := by
  induction l generalizing i with
  | nil => simp at h
  | cons x r ih =>
    cases i with
    | zero => simp at h; subst h; simp
    | succ i => simp at h; have := ih i h; cases x <;> simp <;> omega
theorem ready_mem {md : Region.Mode} {ops : Array Oper} {l : Array Bool} {i : Nat} (h : i ∈ Region.ready md ops l) :
    i < ops.size ∧ l.getD i true = false ∧ ∀ o, ops[i]? = some o → ∀ e ∈ o.after, Region.binds md e = true → l.getD e.on false = true := by
  unfold Region.ready at h
  rw [List.mem_filter] at h
  obtain ⟨h1, h2⟩ := h
  simp only [Bool.and_eq_true, Bool.not_eq_true'] at h2
  refine ⟨List.mem_range.1 h1, h2.1, fun o ho e he hb => ?_⟩
  have h3 := h2.2
  rw [ho] at h3
  simp only [Option.map_some, Option.getD_some, Array.all_eq_true_iff_forall_mem] at h3
  have h4 := h3 e he
  simpa [hb] using h4
theorem ready_of {md : Region.Mode} {ops : Array Oper} {l : Array Bool} {i : Nat} {o : Oper} (hi : i < ops.size) (ho : ops[i]? = some o) (hl : l.getD i true = false) (hd : ∀ e ∈ o.after, Region.binds md e = true → l.getD e.on false = true) : i ∈ Region.ready md ops l := by
  unfold Region.ready
  rw [List.mem_filter]
  refine ⟨List.mem_range.2 hi, ?_⟩
  simp only [Bool.and_eq_true, Bool.not_eq_true']
  refine ⟨hl, ?_⟩
  rw [ho]
  simp only [Option.map_some, Option.getD_some, Array.all_eq_true_iff_forall_mem]
  intro e he
  cases hb : Region.binds md e
  · rfl
  · simpa using hd e he hb
def ordB (md : Region.Mode) (ops : Array Oper) : Bool := (List.range ops.size).all fun i => ((ops[i]?).map (·.after.all fun e => !Region.binds md e || decide (e.on < i))).getD true
theorem ordB_of {md : Region.Mode} {ops : Array Oper} (h : ordB md ops = true) : ∀ i o, ops[i]? = some o → ∀ e ∈ o.after, Region.binds md e = true → e.on < i := by
  intro i o ho e he hb
  unfold ordB at h
  rw [List.all_eq_true] at h
  have hi : i < ops.size := (Array.getElem?_eq_some_iff.1 ho).1
  have h1 := h i (List.mem_range.2 hi)
  rw [ho] at h1
  simp only [Option.map_some, Option.getD_some, Array.all_eq_true_iff_forall_mem] at h1
  have h2 := h1 e he
  simpa [hb] using h2
theorem wpAny_inv {P : Program} {ops : Array Oper} {Q : Exit → Act → World → Prop} {md : Region.Mode} (Inv : Array Bool → Act → World → Prop)
    (hordB : ordB md ops = true)
    (hend : ∀ l a w, Inv l a w → (∀ i, i < ops.size → l.getD i true = true) → Q .normal a w)
    (hstep : ∀ l a w i o, Inv l a w → ops[i]? = some o → l.getD i true = false → (∀ e ∈ o.after, Region.binds md e = true → l.getD e.on false = true) →
      ∀ K : Act → World → Prop, (∀ a w, Inv (l.setIfInBounds i true) a w → K a w) → if Region.wanted o (yielded ops a.tmps) = true then Oper.wp P o a w K Q else K (a.put o.dst undef) w) :
    ∀ (fuel : Nat) (l : Array Bool) (a : Act) (w : World), l.size = ops.size → l.toList.count false ≤ fuel → Inv l a w → wpAny P md ops Q fuel l a w := by
  have hord := ordB_of hordB
  have hall : ∀ l : Array Bool, l.size = ops.size → Region.ready md ops l = [] → ∀ i, i < ops.size → l.getD i true = true := by
    intro l hs hr i
    induction i using Nat.strongRecOn with
    | ind i ih =>
      intro hi
      cases hl : l.getD i true
      · obtain ⟨o, ho⟩ : ∃ o, ops[i]? = some o := ⟨ops[i], by simp [hi]⟩
        have : i ∈ Region.ready md ops l := ready_of hi ho hl (fun e he hb => by
          have h1 := hord i o ho e he hb
          rw [getD_eq (by omega) false true]
          exact ih e.on h1 (by omega))
        rw [hr] at this
        simp at this
      · rfl
  intro fuel
  induction fuel with
  | zero =>
    intro l a w hs hc hI
    have hr : Region.ready md ops l = [] := by
      apply List.eq_nil_iff_forall_not_mem.2
      intro i hi
      obtain ⟨h1, h2, _⟩ := ready_mem hi
      have h3 : l.toList[i]? = some false := by
        have h4 : i < l.size := by omega
        rw [Array.getElem?_toList]
        simp [Array.getD, h4] at h2
        simp [h4, h2]
      have := count_set l.toList i h3
      omega
    exact ⟨hr, hend l a w hI (hall l hs hr)⟩
  | succ fuel ih =>
    intro l a w hs hc hI
    refine ⟨fun hr => hend l a w hI (hall l hs hr), fun i hi => ?_⟩
    obtain ⟨h1, h2, h3⟩ := ready_mem hi
    obtain ⟨o, ho⟩ : ∃ o, ops[i]? = some o := ⟨ops[i], by simp [h1]⟩
    refine wpOp_step ho (fun K' hK' => hstep l a w i o hI ho h2 (h3 o ho) K' (fun a' w' hI' => hK' a' w' (ih _ a' w' (by simpa using hs) ?_ hI')))
    have h4 : l.toList[i]? = some false := by
      have h5 : i < l.size := by omega
      rw [Array.getElem?_toList]
      simp [Array.getD, h5] at h2
      simp [h5, h2]
    have := count_set l.toList i h4
    rw [Array.toList_setIfInBounds]
    omega
end Go.Proofs.Ytccffbbboodolaa
namespace Go.Proofs.Ytccffbbboodolaa
open Go.RowKit
def dstOf (ops : Array Oper) (i : Nat) : Option Tmp := (ops[i]?).bind (·.dst)
def dstB (ops : Array Oper) (n : Nat) : Bool :=
  (List.range ops.size).all fun i => match dstOf ops i with
    | some d => decide (d < n) && (List.range ops.size).all fun j => decide (j = i) || decide (dstOf ops j ≠ some d)
    | none => false
def isDst (ops : Array Oper) (s : Nat) : Bool := (List.range ops.size).any fun i => decide (dstOf ops i = some s)
def putsL (a : Act) : Nat → List Oper → (Nat → Value) → Act
  | _, [], _ => a
  | i, o :: os, vs => putsL (a.put o.dst (vs i)) (i + 1) os vs
def wantV (ops : Array Oper) (o : Oper) (ρ : Operand → Value) : Bool :=
  match o.guard with
  | none => true
  | some (j, want) => match dstOf ops j with
    | some d => (match ρ (.tmp d) with | .bool b => b == want | _ => false)
    | none => false
def StpV (P : Program) (ops : Array Oper) (Φ : Nat → Value → World → Prop) (R : World → Prop) (i : Nat) (o : Oper) (ρ : Operand → Value) (u : World) : Prop :=
  (wantV ops o ρ = true ∧ ((∃ v u', (execOp ρ o).run P u = .ok (.value v) u' ∧ Φ i v u' ∧ R u' ∧ Below u.heap.size u u') ∨ (∃ f args, (execOp ρ o).run P u = .ok (.enter f args) u ∧ Calls P f args u fun e u' => ∃ v, e = .returned v ∧ Φ i v u' ∧ R u' ∧ Below u.heap.size u u')))
  ∨ (wantV ops o ρ = false ∧ Φ i undef u)
structure InvV (ops : Array Oper) (Φ : Nat → Value → World → Prop) (R : World → Prop) (a0 : Act) (l : Array Bool) (a : Act) (u : World) : Prop where
  r : R u
  ls : l.size = ops.size
  df : a.defers = a0.defers
  sz : a.tmps.size = a0.tmps.size
  old : ∀ s, (∀ i d, dstOf ops i = some d → l.getD i false = true → d ≠ s) → a.tmps.getD s undef = a0.tmps.getD s undef
  val : ∀ i d, dstOf ops i = some d → l.getD i false = true → Φ i (a.tmps.getD d undef) u
theorem dstB_of {ops : Array Oper} {n : Nat} (h : dstB ops n = true) {i : Nat} (hi : i < ops.size) : ∃ d, dstOf ops i = some d ∧ d < n ∧ ∀ j, j < ops.size → dstOf ops j = some d → j = i := by
  unfold dstB at h
  rw [List.all_eq_true] at h
  have h1 := h i (List.mem_range.2 hi)
  cases hd : dstOf ops i with
  | none => rw [hd] at h1; cases h1
  | some d =>
    rw [hd] at h1
    simp only [Bool.and_eq_true, decide_eq_true_eq, List.all_eq_true, Bool.or_eq_true] at h1
    refine ⟨d, rfl, h1.1, fun j hj e => ?_⟩
    rcases h1.2 j (List.mem_range.2 hj) with h2 | h2
    · exact h2
    · exact absurd e h2
theorem getD_set {l : Array Bool} {i j : Nat} (hi : i < l.size) : (l.setIfInBounds i true).getD j false = if j = i then true else l.getD j false := by
  simp only [Array.getD_eq_getD_getElem?, Array.getElem?_setIfInBounds]
  by_cases e : j = i
  · subst e; simp [hi]
  · rw [if_neg (Ne.symm e), if_neg e]
theorem getD_put {a : Act} {d s : Nat} {v : Value} (hd : d < a.tmps.size) : (a.put (some d) v).tmps.getD s undef = if s = d then v else a.tmps.getD s undef := by
  show (a.tmps.setIfInBounds d v).getD s undef = _
  simp only [Array.getD_eq_getD_getElem?, Array.getElem?_setIfInBounds]
  by_cases e : s = d
  · subst e; simp [hd]
  · rw [if_neg (Ne.symm e), if_neg e]
theorem InvV.next {ops : Array Oper} {Φ : Nat → Value → World → Prop} {R : World → Prop} {a0 : Act} {l : Array Bool} {a : Act} {u u' : World} (h : InvV ops Φ R a0 l a u) (hB : dstB ops a0.tmps.size = true)
    (hmono : ∀ i v u u', Φ i v u → Below u.heap.size u u' → Φ i v u') {i : Nat} {o : Oper} (ho : ops[i]? = some o) {v : Value} (hv : Φ i v u') (hr : R u') (hb : Below u.heap.size u u') :
    InvV ops Φ R a0 (l.setIfInBounds i true) (a.put o.dst v) u' := by
  have hi : i < ops.size := (Array.getElem?_eq_some_iff.1 ho).1
  obtain ⟨d, hd, hlt, hun⟩ := dstB_of hB hi
  have hod : o.dst = some d := by simpa [dstOf, ho] using hd
  rw [hod]
  have hlt' : d < a.tmps.size := by rw [h.sz]; exact hlt
  have hil : i < l.size := by rw [h.ls]; exact hi
  refine ⟨hr, by simpa using h.ls, h.df, by simpa [Act.put] using h.sz, fun s hs => ?_, fun j e hj hl => ?_⟩
  · have hne : d ≠ s := hs i d hd (by rw [getD_set hil, if_pos rfl])
    rw [getD_put hlt', if_neg (Ne.symm hne)]
    exact h.old s (fun j e hj hl => hs j e hj (by rw [getD_set hil]; split; rfl; exact hl))
  · have hjs : j < ops.size := by
      cases hoj : ops[j]? with
      | none => rw [dstOf, hoj] at hj; cases hj
      | some o' => exact (Array.getElem?_eq_some_iff.1 hoj).1
    rw [getD_put hlt']
    by_cases e1 : e = d
    · subst e1
      obtain rfl := hun j hjs hj
      rw [if_pos rfl]
      exact hv
    · rw [if_neg e1]
      have e2 : j ≠ i := fun e2 => by subst e2; rw [hd] at hj; exact e1 (Option.some.inj hj).symm
      rw [getD_set hil, if_neg e2] at hl
      exact hmono _ _ _ _ (h.val j e hj hl) hb
theorem putsL_eq {a : Act} : ∀ (os : List Oper) (k : Nat) (a' : Act) (vs : Nat → Value), a'.defers = a.defers → a'.tmps.size = a.tmps.size → (∀ (j : Nat) (o : Oper) (d : Nat), os[j]? = some o → o.dst = some d → vs (k + j) = a.tmps.getD d undef) →
    (∀ s, a'.tmps.getD s undef = a.tmps.getD s undef ∨ ∃ (j : Nat) (o : Oper), os[j]? = some o ∧ o.dst = some s) → (∀ (j : Nat) (o : Oper), os[j]? = some o → ∃ d, o.dst = some d ∧ d < a.tmps.size) → putsL a' k os vs = a
  | [], k, a', vs, h1, h2, _, h4, _ => by
    have e : a'.tmps = a.tmps := by
      apply Array.ext h2
      intro i hi1 hi2
      rcases h4 i with h | ⟨j, o, h, _⟩
      · simpa [Array.getD, hi1, hi2] using h
      · simp at h
    cases a'; cases a
    simp only at e h1
    subst e h1
    rfl
  | o :: os, k, a', vs, h1, h2, h3, h4, h5 => by
    obtain ⟨d, hd, hlt⟩ := h5 0 o rfl
    show putsL (a'.put o.dst (vs k)) (k + 1) os vs = a
    rw [hd]
    refine putsL_eq os (k + 1) _ vs h1 (by simpa [Act.put] using h2) (fun j o' d' ho hd' => by rw [show k + 1 + j = k + (j + 1) by omega]; exact h3 (j + 1) o' d' (by simpa using ho) hd') (fun s => ?_) (fun j o' ho => h5 (j + 1) o' (by simpa using ho))
    rw [getD_put (by rw [h2]; exact hlt)]
    by_cases e : s = d
    · subst e
      rw [if_pos rfl]
      exact .inl (by simpa using h3 0 o s rfl hd)
    · rw [if_neg e]
      rcases h4 s with h | ⟨j, o', ho, hd'⟩
      · exact .inl h
      · cases j with
        | zero => simp at ho; subst ho; rw [hd] at hd'; exact absurd (Option.some.inj hd').symm e
        | succ j => exact .inr ⟨j, o', by simpa using ho, hd'⟩
theorem wanted_eq {ops : Array Oper} {a : Act} {o : Oper} (h : ∀ j d, dstOf ops j = some d → d < a.tmps.size) : Region.wanted o (yielded ops a.tmps) = wantV ops o a.eval := by
  unfold Region.wanted wantV
  cases o.guard with
  | none => rfl
  | some p =>
    obtain ⟨j, want⟩ := p
    have hy : yielded ops a.tmps j = match dstOf ops j with
        | some d => (match a.eval (.tmp d) with | .bool b => some b | _ => none)
        | none => none := by
      unfold yielded dstOf
      cases hd : (ops[j]?).bind (·.dst) with
      | none => rfl
      | some d =>
        have hlt := h j d hd
        have e : (some d).bind (fun t => a.tmps[t]?) = some (a.eval (.tmp d)) := by
          show a.tmps[d]? = some (a.tmps.getD d undef)
          simp [Array.getD, hlt]
        rw [e]
        simp only
        generalize a.eval (.tmp d) = x
        cases x <;> rfl
    show (yielded ops a.tmps j == some want) = (match dstOf ops j with
      | some d => (match a.eval (.tmp d) with | .bool b => b == want | _ => false)
      | none => false)
    rw [hy]
    cases dstOf ops j with
    | none => rfl
    | some d =>
      simp only
      generalize a.eval (.tmp d) = x
      cases x <;> simp
theorem wpAny_vals {P : Program} {ops : Array Oper} {Q : Exit → Act → World → Prop} {md : Region.Mode} {a0 : Act} {w0 : World} (R : World → Prop) (Φ : Nat → Value → World → Prop)
    (hordB : ordB md ops = true) (hB : dstB ops a0.tmps.size = true) (hmono : ∀ i v u u', Φ i v u → Below u.heap.size u u' → Φ i v u') (h0 : R w0)
    (hend : ∀ (vs : Nat → Value) u, R u → (∀ i, i < ops.size → Φ i (vs i) u) → Q .normal (putsL a0 0 ops.toList vs) u)
    (hstep : ∀ u i o (ρ : Operand → Value), R u → ops[i]? = some o → (∀ s, isDst ops s = false → ρ (.tmp s) = a0.eval (.tmp s)) → (∀ v, ρ (.const v) = v) → (∀ f, ρ (.func f) = .func (.func f) #[] #[]) →
      (∀ e ∈ o.after, Region.binds md e = true → ∀ d, dstOf ops e.on = some d → Φ e.on (ρ (.tmp d)) u) → StpV P ops Φ R i o ρ u)
    (fuel : Nat) (l : Array Bool) (hs : l.size = ops.size) (hc : l.toList.count false ≤ fuel) (hl : ∀ i, l.getD i false = false) : wpAny P md ops Q fuel l a0 w0 := by
  refine wpAny_inv (InvV ops Φ R a0) hordB ?_ ?_ fuel l a0 w0 hs hc ?_
  · intro l a u h hall
    have hall' : ∀ i, i < ops.size → l.getD i false = true := fun i hi => by rw [getD_eq (by rw [h.ls]; exact hi) false true]; exact hall i hi
    have e : putsL a0 0 ops.toList (fun i => a.tmps.getD ((dstOf ops i).getD 0) undef) = a := by
      refine putsL_eq ops.toList 0 a0 _ h.df.symm h.sz.symm (fun j o d ho hd => ?_) (fun s => ?_) (fun j o ho => ?_)
      · rw [Nat.zero_add]
        have : dstOf ops j = some d := by rw [Array.getElem?_toList] at ho; simp [dstOf, ho, hd]
        show a.tmps.getD ((dstOf ops j).getD 0) undef = _
        rw [this]; rfl
      · by_cases hx : ∃ j d, dstOf ops j = some d ∧ l.getD j false = true ∧ d = s
        · obtain ⟨j, d, hd, _, rfl⟩ := hx
          right
          unfold dstOf at hd
          cases ho : ops[j]? with
          | none => rw [ho] at hd; cases hd
          | some o => rw [ho] at hd; exact ⟨j, o, by rw [Array.getElem?_toList]; exact ho, hd⟩
        · left
          exact (h.old s (fun i d hd hl e => hx ⟨i, d, hd, hl, e⟩)).symm
      · rw [Array.getElem?_toList] at ho
        have hi : j < ops.size := (Array.getElem?_eq_some_iff.1 ho).1
        obtain ⟨d, hd, hlt, _⟩ := dstB_of hB hi
        exact ⟨d, by simpa [dstOf, ho] using hd, by rw [h.sz]; exact hlt⟩
    rw [← e]
    refine hend _ u h.r (fun i hi => ?_)
    obtain ⟨d, hd, _, _⟩ := dstB_of hB hi
    show Φ i (a.tmps.getD ((dstOf ops i).getD 0) undef) u
    rw [hd]
    exact h.val i d hd (hall' i hi)
  · intro l a u i o h ho hli hdep K hK
    have hi : i < ops.size := (Array.getElem?_eq_some_iff.1 ho).1
    have hin : ∀ j d, dstOf ops j = some d → j < ops.size := fun j d hj => by
      unfold dstOf at hj
      cases hoj : ops[j]? with
      | none => rw [hoj] at hj; cases hj
      | some o' => exact (Array.getElem?_eq_some_iff.1 hoj).1
    have hw : Region.wanted o (yielded ops a.tmps) = wantV ops o a.eval := wanted_eq (fun j d hj => by
      obtain ⟨d', hd', hlt, _⟩ := dstB_of hB (hin j d hj)
      rw [hj] at hd'
      rw [h.sz, Option.some.inj hd']; exact hlt)
    have hst := hstep u i o a.eval h.r ho (fun s hns => by
      refine h.old s (fun j d hj _ e => ?_)
      subst e
      have : isDst ops d = true := by
        unfold isDst
        rw [List.any_eq_true]
        exact ⟨j, List.mem_range.2 (hin j d hj), by simp [hj]⟩
      rw [this] at hns; cases hns) (fun _ => rfl) (fun _ => rfl) (fun e he hb d hd => h.val e.on d hd (hdep e he hb))
    rcases hst with ⟨hwt, ⟨v, u', hrun, hv, hr, hbl⟩ | ⟨f, args, hrun, hcall⟩⟩ | ⟨hwf, hv⟩
    · rw [if_pos (by rw [hw]; exact hwt)]
      unfold Oper.wp
      rw [hrun]
      exact hK _ _ (h.next hB hmono ho hv hr hbl)
    · rw [if_pos (by rw [hw]; exact hwt)]
      unfold Oper.wp
      rw [hrun, Oper.upon_enter]
      refine hcall.mono ?_
      rintro e u' ⟨v, rfl, hv, hr, hbl⟩
      exact hK _ _ (h.next hB hmono ho hv hr hbl)
    · rw [if_neg (by rw [hw, hwf]; decide)]
      exact hK _ _ (h.next hB hmono ho hv h.r (Below.refl _ _))
  · exact ⟨h0, hs, rfl, rfl, fun _ _ => rfl, fun i d _ hl' => by rw [hl i] at hl'; cases hl'⟩
end Go.Proofs.Ytccffbbboodolaa
namespace Go.Proofs.Ytccffbbboodolaa
open Go.RowKit
theorem run_load_op {P : Program} {ρ : Operand → Value} {o : Oper} {u : World} {t : TypeId} {p : Operand} {ptr v : Value} (ho : o.op = .load t p) (hp : ρ p = ptr) (hr : (Instr.loadAt t ptr).run P u = .ok v u) : (execOp ρ o).run P u = .ok (.value v) u := by
  unfold execOp
  simp only [ho, hp]
  rw [Sem.run_bind, hr]
  rfl
theorem run_call_op {P : Program} {ρ : Operand → Value} {o : Oper} {u : World} {f : FuncId} {xs : Array Operand} {ts : Array TypeId} {args : Array Value} (ho : o.op = .call ⟨.value (.func f), xs, ts⟩) (hf : ρ (.func f) = .func (.func f) #[] #[]) (hx : xs.map ρ = args)
    (hc : (callFunc f args).run P u = .ok (.enter f args) u) : (execOp ρ o).run P u = .ok (.enter f args) u := by
  unfold execOp
  simp only [ho, resolve, hf, hx]
  show (callFunc f ((#[] ++ args) ++ #[])).run P u = _
  simpa using hc
theorem run_pick_op {P : Program} {ρ : Operand → Value} {o : Oper} {u : World} {c x y : Operand} {b : Bool} (ho : o.op = .pick c x y) (hc : ρ c = .bool b) : (execOp ρ o).run P u = .ok (.value (if b = true then ρ x else ρ y)) u := by
  unfold execOp
  simp only [ho, hc]
  rfl
theorem run_bin_op {P : Program} {ρ : Operand → Value} {o : Oper} {u : World} {op : BinOp} {t t' : TypeId} {x y : Operand} {a b v : Value} (ho : o.op = .binOp op t x y t') (ha : ρ x = a) (hb : ρ y = b) (hr : (do eqGuard op t x y a b; binOp op t a b : Sem Value).run P u = .ok v u) : (execOp ρ o).run P u = .ok (.value v) u := by
  unfold execOp
  simp only [ho, ha, hb]
  rw [Sem.run_bind, hr]
  rfl
end Go.Proofs.Ytccffbbboodolaa
namespace Go.Proofs.Ytccffbbboodolaa
open Go.RowKit
def dstC (ops : Array Oper) (n : Nat) : Bool :=
  (List.range ops.size).all fun i => match dstOf ops i with
    | some d => decide (d < n) && (List.range ops.size).all fun j => decide (j = i) || decide (dstOf ops j ≠ some d)
    | none => true
def updB (l : Nat → Bool) (i : Nat) : Nat → Bool := fun j => if j = i then true else l j
def StpW (P : Program) (ops : Array Oper) (Φ : Nat → Value → World → Prop) (R : World → Prop) (M : World → World → Prop) (i : Nat) (o : Oper) (ρ : Operand → Value) (u : World) : Prop :=
  (wantV ops o ρ = true ∧ ((∃ v u', (execOp ρ o).run P u = .ok (.value v) u' ∧ Φ i v u' ∧ R u' ∧ M u u') ∨ (∃ f args, (execOp ρ o).run P u = .ok (.enter f args) u ∧ Calls P f args u fun e u' => ∃ v, e = .returned v ∧ Φ i v u' ∧ R u' ∧ M u u') ∨ (o.dst = none ∧ ∃ u', (execOp ρ o).run P u = .ok .skip u' ∧ R u' ∧ M u u')))
  ∨ (wantV ops o ρ = false ∧ Φ i undef u ∧ R u)
structure InvW (md : Region.Mode) (ops : Array Oper) (Φ : Nat → Value → World → Prop) (R : (Nat → Bool) → World → Prop) (a0 : Act) (l : Array Bool) (a : Act) (u : World) : Prop where
  r : R (fun i => l.getD i false) u
  ls : l.size = ops.size
  df : a.defers = a0.defers
  sz : a.tmps.size = a0.tmps.size
  old : ∀ s, (∀ i d, dstOf ops i = some d → l.getD i false = true → d ≠ s) → a.tmps.getD s undef = a0.tmps.getD s undef
  val : ∀ i d, dstOf ops i = some d → l.getD i false = true → Φ i (a.tmps.getD d undef) u
  cl : ∀ i o, ops[i]? = some o → l.getD i false = true → ∀ e ∈ o.after, Region.binds md e = true → l.getD e.on false = true
theorem dstC_of {ops : Array Oper} {n : Nat} (h : dstC ops n = true) {i : Nat} (hi : i < ops.size) {d : Nat} (hd : dstOf ops i = some d) : d < n ∧ ∀ j, j < ops.size → dstOf ops j = some d → j = i := by
  unfold dstC at h
  rw [List.all_eq_true] at h
  have h1 := h i (List.mem_range.2 hi)
  rw [hd] at h1
  simp only [Bool.and_eq_true, decide_eq_true_eq, List.all_eq_true, Bool.or_eq_true] at h1
  refine ⟨h1.1, fun j hj e => ?_⟩
  rcases h1.2 j (List.mem_range.2 hj) with h2 | h2
  · exact h2
  · exact absurd e h2
theorem dstOf_lt {ops : Array Oper} {j d : Nat} (hj : dstOf ops j = some d) : j < ops.size := by
  unfold dstOf at hj
  cases hoj : ops[j]? with
  | none => rw [hoj] at hj; cases hj
  | some o' => exact (Array.getElem?_eq_some_iff.1 hoj).1
theorem getD_upd {l : Array Bool} {i : Nat} (hi : i < l.size) : (fun j => (l.setIfInBounds i true).getD j false) = updB (fun j => l.getD j false) i := by
  funext j
  exact getD_set hi
theorem InvW.next {md : Region.Mode} {ops : Array Oper} {Φ : Nat → Value → World → Prop} {R : (Nat → Bool) → World → Prop} {M : World → World → Prop} {a0 : Act} {l : Array Bool} {a : Act} {u u' : World} (h : InvW md ops Φ R a0 l a u) (hB : dstC ops a0.tmps.size = true)
    (hmono : ∀ i v u u', Φ i v u → M u u' → Φ i v u') {i : Nat} {o : Oper} (ho : ops[i]? = some o) (hdep : ∀ e ∈ o.after, Region.binds md e = true → l.getD e.on false = true) {v : Value} (hv : ∀ d, o.dst = some d → Φ i v u') (hr : R (updB (fun j => l.getD j false) i) u') (hb : M u u') :
    InvW md ops Φ R a0 (l.setIfInBounds i true) (a.put o.dst v) u' := by
  have hi : i < ops.size := (Array.getElem?_eq_some_iff.1 ho).1
  have hil : i < l.size := by rw [h.ls]; exact hi
  have hcl : ∀ j oj, ops[j]? = some oj → (l.setIfInBounds i true).getD j false = true → ∀ e ∈ oj.after, Region.binds md e = true → (l.setIfInBounds i true).getD e.on false = true := by
    intro j oj hoj hlj e he hbd
    rw [getD_set hil]
    split
    · rfl
    · rw [getD_set hil] at hlj
      by_cases e1 : j = i
      · subst e1
        rw [ho] at hoj
        cases hoj
        exact hdep e he hbd
      · rw [if_neg e1] at hlj
        exact h.cl j oj hoj hlj e he hbd
  have hr' : R (fun j => (l.setIfInBounds i true).getD j false) u' := by rw [getD_upd hil]; exact hr
  cases hod : o.dst with
  | none =>
    have hd : dstOf ops i = none := by simp [dstOf, ho, hod]
    refine ⟨hr', by simpa using h.ls, h.df, h.sz, fun s hs => ?_, fun j e hj hl => ?_, hcl⟩
    · exact h.old s (fun j e hj hl => hs j e hj (by rw [getD_set hil]; split; rfl; exact hl))
    · have e2 : j ≠ i := fun e2 => by subst e2; rw [hd] at hj; cases hj
      rw [getD_set hil, if_neg e2] at hl
      exact hmono _ _ _ _ (h.val j e hj hl) hb
  | some d =>
    have hd : dstOf ops i = some d := by simp [dstOf, ho, hod]
    obtain ⟨hlt, hun⟩ := dstC_of hB hi hd
    have hlt' : d < a.tmps.size := by rw [h.sz]; exact hlt
    refine ⟨hr', by simpa using h.ls, h.df, by simpa [Act.put] using h.sz, fun s hs => ?_, fun j e hj hl => ?_, hcl⟩
    · have hne : d ≠ s := hs i d hd (by rw [getD_set hil, if_pos rfl])
      rw [getD_put hlt', if_neg (Ne.symm hne)]
      exact h.old s (fun j e hj hl => hs j e hj (by rw [getD_set hil]; split; rfl; exact hl))
    · rw [getD_put hlt']
      by_cases e1 : e = d
      · subst e1
        obtain rfl := hun j (dstOf_lt hj) hj
        rw [if_pos rfl]
        exact hv _ hod
      · rw [if_neg e1]
        have e2 : j ≠ i := fun e2 => by subst e2; rw [hd] at hj; exact e1 (Option.some.inj hj).symm
        rw [getD_set hil, if_neg e2] at hl
        exact hmono _ _ _ _ (h.val j e hj hl) hb
theorem putsL_eqW {a : Act} : ∀ (os : List Oper) (k : Nat) (a' : Act) (vs : Nat → Value), a'.defers = a.defers → a'.tmps.size = a.tmps.size → (∀ (j : Nat) (o : Oper) (d : Nat), os[j]? = some o → o.dst = some d → vs (k + j) = a.tmps.getD d undef) →
    (∀ s, a'.tmps.getD s undef = a.tmps.getD s undef ∨ ∃ (j : Nat) (o : Oper), os[j]? = some o ∧ o.dst = some s) → (∀ (j : Nat) (o : Oper) (d : Nat), os[j]? = some o → o.dst = some d → d < a.tmps.size) → putsL a' k os vs = a
  | [], k, a', vs, h1, h2, _, h4, _ => by
    have e : a'.tmps = a.tmps := by
      apply Array.ext h2
      intro i hi1 hi2
      rcases h4 i with h | ⟨j, o, h, _⟩
      · simpa [Array.getD, hi1, hi2] using h
      · simp at h
    cases a'; cases a
    simp only at e h1
    subst e h1
    rfl
  | o :: os, k, a', vs, h1, h2, h3, h4, h5 => by
    show putsL (a'.put o.dst (vs k)) (k + 1) os vs = a
    have h3' : ∀ (j : Nat) (o : Oper) (d : Nat), os[j]? = some o → o.dst = some d → vs (k + 1 + j) = a.tmps.getD d undef := fun j o' d' ho hd' => by rw [show k + 1 + j = k + (j + 1) by omega]; exact h3 (j + 1) o' d' (by simpa using ho) hd'
    have h5' : ∀ (j : Nat) (o : Oper) (d : Nat), os[j]? = some o → o.dst = some d → d < a.tmps.size := fun j o' d' ho hd' => h5 (j + 1) o' d' (by simpa using ho) hd'
    cases hd : o.dst with
    | none =>
      refine putsL_eqW os (k + 1) _ vs h1 h2 h3' (fun s => ?_) h5'
      rcases h4 s with h | ⟨j, o', ho, hd'⟩
      · exact .inl h
      · cases j with
        | zero => simp at ho; subst ho; rw [hd] at hd'; cases hd'
        | succ j => exact .inr ⟨j, o', by simpa using ho, hd'⟩
    | some d =>
      have hlt := h5 0 o d rfl hd
      refine putsL_eqW os (k + 1) _ vs h1 (by simpa [Act.put] using h2) h3' (fun s => ?_) h5'
      rw [getD_put (by rw [h2]; exact hlt)]
      by_cases e : s = d
      · subst e
        rw [if_pos rfl]
        exact .inl (by simpa using h3 0 o s rfl hd)
      · rw [if_neg e]
        rcases h4 s with h | ⟨j, o', ho, hd'⟩
        · exact .inl h
        · cases j with
          | zero => simp at ho; subst ho; rw [hd] at hd'; exact absurd (Option.some.inj hd').symm e
          | succ j => exact .inr ⟨j, o', by simpa using ho, hd'⟩
theorem wpAny_valw {P : Program} {ops : Array Oper} {Q : Exit → Act → World → Prop} {md : Region.Mode} {a0 : Act} {w0 : World} (R : (Nat → Bool) → World → Prop) (M : World → World → Prop) (Φ : Nat → Value → World → Prop)
    (hordB : ordB md ops = true) (hB : dstC ops a0.tmps.size = true) (hmono : ∀ i v u u', Φ i v u → M u u' → Φ i v u') (hM : ∀ u, M u u) (h0 : R (fun _ => false) w0)
    (hend : ∀ (vs : Nat → Value) u, R (fun i => decide (i < ops.size)) u → (∀ i d, dstOf ops i = some d → Φ i (vs i) u) → Q .normal (putsL a0 0 ops.toList vs) u)
    (hstep : ∀ u i o (ρ : Operand → Value) (l : Nat → Bool), R l u → ops[i]? = some o → l i = false → (∀ j oj, ops[j]? = some oj → l j = true → ∀ e ∈ oj.after, Region.binds md e = true → l e.on = true) →
      (∀ s, isDst ops s = false → ρ (.tmp s) = a0.eval (.tmp s)) → (∀ v, ρ (.const v) = v) → (∀ f, ρ (.func f) = .func (.func f) #[] #[]) →
      (∀ e ∈ o.after, Region.binds md e = true → l e.on = true) → (∀ j d, dstOf ops j = some d → l j = true → Φ j (ρ (.tmp d)) u) → StpW P ops Φ (R (updB l i)) M i o ρ u)
    (fuel : Nat) (l : Array Bool) (hs : l.size = ops.size) (hc : l.toList.count false ≤ fuel) (hl : ∀ i, l.getD i false = false) : wpAny P md ops Q fuel l a0 w0 := by
  refine wpAny_inv (InvW md ops Φ R a0) hordB ?_ ?_ fuel l a0 w0 hs hc ?_
  · intro l a u h hall
    have hall' : ∀ i, i < ops.size → l.getD i false = true := fun i hi => by rw [getD_eq (by rw [h.ls]; exact hi) false true]; exact hall i hi
    have e : putsL a0 0 ops.toList (fun i => a.tmps.getD ((dstOf ops i).getD 0) undef) = a := by
      refine putsL_eqW ops.toList 0 a0 _ h.df.symm h.sz.symm (fun j o d ho hd => ?_) (fun s => ?_) (fun j o d ho hd => ?_)
      · rw [Nat.zero_add]
        have : dstOf ops j = some d := by rw [Array.getElem?_toList] at ho; simp [dstOf, ho, hd]
        show a.tmps.getD ((dstOf ops j).getD 0) undef = _
        rw [this]; rfl
      · by_cases hx : ∃ j d, dstOf ops j = some d ∧ l.getD j false = true ∧ d = s
        · obtain ⟨j, d, hd, _, rfl⟩ := hx
          right
          unfold dstOf at hd
          cases ho : ops[j]? with
          | none => rw [ho] at hd; cases hd
          | some o => rw [ho] at hd; exact ⟨j, o, by rw [Array.getElem?_toList]; exact ho, hd⟩
        · left
          exact (h.old s (fun i d hd hl e => hx ⟨i, d, hd, hl, e⟩)).symm
      · rw [Array.getElem?_toList] at ho
        have hi : j < ops.size := (Array.getElem?_eq_some_iff.1 ho).1
        have hd' : dstOf ops j = some d := by simp [dstOf, ho, hd]
        rw [h.sz]
        exact (dstC_of hB hi hd').1
    rw [← e]
    refine hend _ u ?_ (fun i d hd => ?_)
    · have e2 : (fun i => l.getD i false) = (fun i => decide (i < ops.size)) := by
        funext i
        by_cases hi : i < ops.size
        · rw [hall' i hi]; simp [hi]
        · have : ¬ i < l.size := by rw [h.ls]; exact hi
          simp [Array.getD, hi, this]
      rw [← e2]
      exact h.r
    · show Φ i (a.tmps.getD ((dstOf ops i).getD 0) undef) u
      rw [hd]
      exact h.val i d hd (hall' i (dstOf_lt hd))
  · intro l a u i o h ho hli hdep K hK
    have hi : i < ops.size := (Array.getElem?_eq_some_iff.1 ho).1
    have hw : Region.wanted o (yielded ops a.tmps) = wantV ops o a.eval := wanted_eq (fun j d hj => by
      rw [h.sz]; exact (dstC_of hB (dstOf_lt hj) hj).1)
    have hst := hstep u i o a.eval (fun j => l.getD j false) h.r ho (by show l.getD i false = false; rw [getD_eq (by rw [h.ls]; exact hi) false true]; exact hli) (fun j oj hoj hlj e he hb => h.cl j oj hoj hlj e he hb) (fun s hns => by
      refine h.old s (fun j d hj _ e => ?_)
      subst e
      have : isDst ops d = true := by
        unfold isDst
        rw [List.any_eq_true]
        exact ⟨j, List.mem_range.2 (dstOf_lt hj), by simp [hj]⟩
      rw [this] at hns; cases hns) (fun _ => rfl) (fun _ => rfl) hdep (fun j d hd hlj => h.val j d hd hlj)
    rcases hst with ⟨hwt, ⟨v, u', hrun, hv, hr, hbl⟩ | ⟨f, args, hrun, hcall⟩ | ⟨hno, u', hrun, hr, hbl⟩⟩ | ⟨hwf, hv, hr⟩
    · rw [if_pos (by rw [hw]; exact hwt)]
      unfold Oper.wp
      rw [hrun]
      exact hK _ _ (h.next hB hmono ho hdep (fun _ _ => hv) hr hbl)
    · rw [if_pos (by rw [hw]; exact hwt)]
      unfold Oper.wp
      rw [hrun, Oper.upon_enter]
      refine hcall.mono ?_
      rintro e u' ⟨v, rfl, hv, hr, hbl⟩
      exact hK _ _ (h.next hB hmono ho hdep (fun _ _ => hv) hr hbl)
    · rw [if_pos (by rw [hw]; exact hwt)]
      unfold Oper.wp
      rw [hrun, Oper.upon_skip]
      exact hK _ _ (h.next hB hmono ho hdep (fun d hd => by rw [hno] at hd; cases hd) hr hbl)
    · rw [if_neg (by rw [hw, hwf]; decide)]
      exact hK _ _ (h.next hB hmono ho hdep (fun _ _ => hv) hr (hM u))
  · refine ⟨?_, hs, rfl, rfl, fun _ _ => rfl, fun i d _ hl' => (by rw [hl i] at hl'; cases hl'), fun i o _ hl' => (by rw [hl i] at hl'; cases hl')⟩
    rw [show (fun i => l.getD i false) = (fun _ => false) from funext hl]
    exact h0
theorem run_callv_op {P : Program} {ρ : Operand → Value} {o : Oper} {u : World} {f : FuncId} {x : Operand} {xs : Array Operand} {ts : Array TypeId} {args : Array Value} (ho : o.op = .call ⟨.value x, xs, ts⟩) (hf : ρ x = .func (.func f) #[] #[]) (hx : xs.map ρ = args)
    (hc : (callFunc f args).run P u = .ok (.enter f args) u) : (execOp ρ o).run P u = .ok (.enter f args) u := by
  unfold execOp
  simp only [ho, resolve, hf, hx]
  show (callFunc f ((#[] ++ args) ++ #[])).run P u = _
  simpa using hc
theorem run_index_op {P : Program} {ρ : Operand → Value} {o : Oper} {u : World} {t : TypeId} {x y : Operand} {a b v : Value} (ho : o.op = .indexAddr t x y) (ha : ρ x = a) (hb : ρ y = b) (hr : (Instr.indexAt t a b).run P u = .ok v u) : (execOp ρ o).run P u = .ok (.value v) u := by
  unfold execOp
  simp only [ho, ha, hb]
  rw [Sem.run_bind, hr]
  rfl
theorem run_store_op {P : Program} {ρ : Operand → Value} {o : Oper} {u u' : World} {t : TypeId} {x y : Operand} {a b : Value} (ho : o.op = .store t x y) (ha : ρ x = a) (hb : ρ y = b) (hr : (Instr.storeAt t a b).run P u = .ok () u') : (execOp ρ o).run P u = .ok .skip u' := by
  unfold execOp
  simp only [ho, ha, hb]
  rw [Sem.run_bind, hr]
  rfl
theorem run_field_op {P : Program} {ρ : Operand → Value} {o : Oper} {u : World} {s : TypeId} {x : Operand} {f : Nat} {a v : Value} (ho : o.op = .fieldAddr s x f) (ha : ρ x = a) (hr : (Instr.fieldAt s a f).run P u = .ok v u) : (execOp ρ o).run P u = .ok (.value v) u := by
  unfold execOp
  simp only [ho, ha]
  rw [Sem.run_bind, hr]
  rfl
theorem run_build_op {P : Program} {ρ : Operand → Value} {o : Oper} {u u' : World} {t : TypeId} {n : Nat} {ps : Array (Nat × Operand)} {qs : Array (Nat × Value)} {v : Value} (ho : o.op = .buildSlice t n ps) (ha : ps.map (fun (i, x) => (i, ρ x)) = qs) (hr : (Instr.buildSlice t n qs).run P u = .ok v u') : (execOp ρ o).run P u = .ok (.value v) u' := by
  unfold execOp
  simp only [ho, ha]
  rw [Sem.run_bind, hr]
  rfl
theorem run_un_op {P : Program} {ρ : Operand → Value} {o : Oper} {u : World} {op : UnOp} {t : TypeId} {x : Operand} {a v : Value} (ho : o.op = .unOp op t x) (ha : ρ x = a) (hr : (Op.unary op a).run P u = .ok v u) : (execOp ρ o).run P u = .ok (.value v) u := by
  unfold execOp
  simp only [ho, ha]
  rw [Sem.run_bind, hr]
  rfl
end Go.Proofs.Ytccffbbboodolaa

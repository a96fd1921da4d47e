/- Texts that the proof needs, joined: Bys0 ArgS Bys Marks Box StR Marks2 Steps Ios Bos Req1 Bits Ru1 Wr1 Q1 Ru2 SrP. -/
import Derived.Test.YtegckbfbmbiogaaChecked
import Derived.WalkKit
import Derived.Deep.OwnRows
import Derived.Deep.QuietTactic
import Derived.BigQuiet
import Derived.ProofKit
import Derived.OpenShut
import Derived.Deep.Grids
import Derived.Lib.SmallJoins
import Derived.Laws.MakeOwn
import Derived.Deep.RegionLaw
import Derived.Deep.Cut
import Derived.Deep.CutRange
import Derived.Deep.DeepCutAuto
namespace Go.Proofs.Ytegckbfbmbiogaa
open Go.RowKit
def Sl (w : World) (a : Option Addr) (zs : List Int) : Prop :=
  zs = [] ∨ ∃ b off, a = some ⟨b, off, none⟩ ∧ b < w.heap.size ∧ ∀ i, i < zs.length → w.cell? ⟨b, off + i, none⟩ = some (.int .u8 (zs.getD i 0))
theorem Sl.below {w w' : World} {a : Option Addr} {zs : List Int} (h : Sl w a zs) (hb : Below w.heap.size w w') : Sl w' a zs := by
  rcases h with h | ⟨b, off, ha, hlt, hc⟩
  · exact .inl h
  · exact .inr ⟨b, off, ha, by have := hb.size; omega, fun i hi => by rw [hb.cell (p := ⟨b, off + i, none⟩) hlt]; exact hc i hi⟩
theorem cell_at {w : World} {a : Option Addr} {zs : List Int} (hs : Sl w a zs) {k : Nat} (hlt : k < zs.length) : ∃ b off, a = some ⟨b, off, none⟩ ∧ b < w.heap.size ∧ w.cell? ⟨b, off + k, none⟩ = some (.int .u8 (zs.getD k 0)) := by
  rcases hs with hs | ⟨b, off, h1, h2, h3⟩
  · rw [hs] at hlt; simp at hlt
  · exact ⟨b, off, h1, h2, h3 k hlt⟩
theorem bel_drewN {B : Nat} {a w : World} (h : Below B a w) (n : Nat) : Below B a (w.drewN n) := h.trans ⟨rfl, rfl, rfl, Nat.le_refl _, fun _ _ => rfl⟩
theorem get_range {zs : List Int} (hr : ∀ z ∈ zs, 0 ≤ z ∧ z ≤ 255) (i : Nat) : 0 ≤ zs.getD i 0 ∧ zs.getD i 0 ≤ 255 := by
  rw [List.getD_eq_getElem?_getD]
  by_cases h : i < zs.length
  · rw [List.getElem?_eq_getElem h]; exact hr _ (List.getElem_mem h)
  · rw [List.getElem?_eq_none (by omega)]; decide
theorem ret_int {k : IntKind} {a b : Int} (h : a = b) : Ending.returned (.int k a) = .returned (.int k b) := by rw [h]
def Own (w : World) (base : Nat) (v : Value) (zs : List Int) : Prop := w.ownsRow base 5 1 v zs.length (zs.map (Value.int .u8))
theorem grown_below {w w' : World} (hb : Below w.heap.size w w') (row : Option Nat) : w.grownBy w' row := ⟨hb.os, hb.tape, hb.output, hb.size, fun k hk _ => hb.block k hk⟩
end Go.Proofs.Ytegckbfbmbiogaa
namespace Go.Proofs.Ytegckbfbmbiogaa
open Go.ChangeShapes Go.WideShapes Go.ChangeAt Go.RowKit Go.Deep Go.Joins
def InBys (w : World) (a : Option Addr) (len : Nat) (zs : List Int) : Prop := zs.length = len ∧ len ≤ maxLen ∧ Sl w a zs ∧ ∀ n ∈ zs, 0 ≤ n ∧ n ≤ 255
def SlB (w : World) (a : Option Addr) (zs : List Bool) : Prop :=
  zs = [] ∨ ∃ b off, a = some ⟨b, off, none⟩ ∧ b < w.heap.size ∧ ∀ i, i < zs.length → w.cell? ⟨b, off + i, none⟩ = some (.bool (zs.getD i false))
def InBos (w : World) (a : Option Addr) (len : Nat) (zs : List Bool) : Prop := zs.length = len ∧ SlB w a zs
theorem inBys_of {w : World} {x : Addr} {len cap : Nat} {z : List Int} (hl : len ≤ cap) (hm : cap ≤ maxLen) (hz : z.length = cap) (hcell : ∀ i, i < z.length → w.cell? (x.add i) = some (.int .u8 (z.getD i 0)))
    (hwz : ∀ n ∈ z, (Lit.int .u8 n).wf = true) : ∃ zs : List Int, InBys w (some x) len zs := by
  refine ⟨z.take len, by simp; omega, by omega, ?_, fun n hn => bounds_u8 (hwz n (List.mem_of_mem_take hn))⟩
  by_cases h0 : len = 0
  · subst h0; exact .inl (by simp)
  · obtain ⟨b, off, spot⟩ := x
    have hc := hcell 0 (by omega)
    have hspot : spot = none := by simpa [Addr.add] using World.cell?_spot hc
    subst hspot
    refine .inr ⟨b, off, rfl, World.block_lt_of_cell? _ _ hc, fun i hi => ?_⟩
    simp only [List.length_take] at hi
    have := hcell i (by omega)
    rw [List.getD_eq_getElem?_getD, List.getElem?_take, if_pos (by omega), ← List.getD_eq_getElem?_getD]
    by_cases e : i = 0
    · subst e; simpa [Addr.add] using this
    · simpa [Addr.add, e] using this
section
variable {H : Type} {enc : TypeId × Value → H} {P : Program} {w : World} {base : Nat} {held : Bool}
theorem opened_bys {t e : TypeId} {fuel : Nat} {a : Option Addr} {len cap : Nat} {x : DataW H × List MemPlace} (ht : P.underlying t = some (.slice e)) (he : P.underlying e = some (.int .u8)) (hc : P.cellsOf e = 1)
    (hf : DataW.trod enc P w base (fun _ => true) held fuel t [.slice a len cap] = some x) : ∃ zs : List Int, InBys w a len zs := by
  rcases open_ints ht he hc hf with ⟨hcs, _⟩ | ⟨x, l, c, zs, hcs, _, hl, hm, hz, _, hcell, hwz⟩
  · simp at hcs
    obtain ⟨rfl, rfl, rfl⟩ := hcs
    exact ⟨[], rfl, Nat.zero_le _, .inl rfl, fun n hn => by cases hn⟩
  · simp at hcs
    obtain ⟨rfl, rfl, rfl⟩ := hcs
    exact inBys_of hl hm (by simpa using hz) hcell hwz
end
end Go.Proofs.Ytegckbfbmbiogaa
namespace Go.Proofs.Ytegckbfbmbiogaa
open Go.RowKit
end Go.Proofs.Ytegckbfbmbiogaa
namespace Go.Proofs.Ytegckbfbmbiogaa
open Go.RowKit
def marks (n : Nat) : List Int := (List.range n).map (fun i : Nat => ((i : Int) + 1) % 256)
def Marked (w wr : World) (g cap k : Nat) : Prop :=
  w.grownBy wr (some g) ∧ ∃ cur, wr.heap[g]? = some (.cells cur 5 (0, 0)) ∧ cur.size = cap ∧ ∀ i, i < k → cur[i]? = some (.int .u8 (((i : Int) + 1) % 256))
theorem drew_refl (w : World) (n : Nat) : Below w.heap.size w (w.drewN n) := bel_drewN (Below.refl _ _) n
theorem hide {p : Prop} (h : p) : Hid p := h
end Go.Proofs.Ytegckbfbmbiogaa
namespace Go.Proofs.Ytegckbfbmbiogaa
open Go.RowKit
def Box (w : World) (g : Nat) (t : TypeId) (v : Value) : Prop := w.heap[g]? = some (.cells #[v] t (0, 0))
theorem grown_setb (w : World) (g o : Nat) (v : Value) : w.grownBy (w.setCell ⟨g, o, none⟩ v) (some g) :=
  ⟨rfl, rfl, rfl, by simp [World.setCell], fun k hk hne => Below.heap_setCell _ _ _ _ (fun e => hne (by simpa using e))⟩
end Go.Proofs.Ytegckbfbmbiogaa
namespace Go.Proofs.Ytegckbfbmbiogaa
open Go.RowKit Go.Joins
set_option linter.unusedVariables false
theorem idx_inj {s i k j l : Nat} (hj : j < s) (hl : l < s) (h : i * s + j = k * s + l) : i = k ∧ j = l := by
  have e1 : (i * s + j) / s = i := by rw [Nat.mul_comm, Nat.mul_add_div (by omega), Nat.div_eq_of_lt hj, Nat.add_zero]
  have e2 : (k * s + l) / s = k := by rw [Nat.mul_comm, Nat.mul_add_div (by omega), Nat.div_eq_of_lt hl, Nat.add_zero]
  have : i = k := by rw [← e1, h, e2]
  subst this
  exact ⟨rfl, by omega⟩
def CsAt (w : World) (g o : Nat) (vs : List Value) : Prop := ∀ j, j < vs.length → w.cell? ⟨g, o + j, none⟩ = vs[j]?
def RowS (w : World) (g : Nat) (t : TypeId) (s n : Nat) (F : Nat → List Value) : Prop :=
  ∃ cs, w.heap[g]? = some (.cells cs t (0, 0)) ∧ cs.size = n * s ∧ ∀ k, k < n → ∀ j, j < s → cs[k * s + j]? = (F k)[j]?
def setL (w : World) (g : Nat) : Nat → List Value → World
  | _, [] => w
  | o, v :: vs => setL (w.setCell ⟨g, o, none⟩ v) g (o + 1) vs
theorem setL_block {g : Nat} {t : TypeId} {fr : Nat × Nat} : ∀ (vs : List Value) (w : World) (o : Nat) (cs : Array Value), w.heap[g]? = some (.cells cs t fr) →
    ∃ cs', (setL w g o vs).heap[g]? = some (.cells cs' t fr) ∧ cs'.size = cs.size ∧ ∀ i, i < cs.size → cs'[i]? = if o ≤ i ∧ i < o + vs.length then vs[i - o]? else cs[i]?
  | [], w, o, cs, h => ⟨cs, h, rfl, fun i _ => by rw [if_neg (by simp)]⟩
  | v :: vs, w, o, cs, h => by
    obtain ⟨cs', h1, h2, h3⟩ := setL_block vs (w.setCell ⟨g, o, none⟩ v) (o + 1) (cs.setIfInBounds o v) (block_setCell h v)
    refine ⟨cs', h1, by simpa using h2, fun i hi => ?_⟩
    rw [h3 i (by simpa using hi)]
    by_cases e : i = o
    · subst e
      rw [if_neg (by omega), if_pos (by simp)]
      simp [hi]
    · by_cases e2 : o ≤ i ∧ i < o + (v :: vs).length
      · rw [if_pos (by simp at e2; omega), if_pos e2]
        obtain ⟨d, rfl⟩ : ∃ d, i = o + 1 + d := ⟨i - (o + 1), by omega⟩
        rw [show o + 1 + d - (o + 1) = d by omega, show o + 1 + d - o = d + 1 by omega]
        simp
      · rw [if_neg (by simp at e2; omega), if_neg e2, Array.getElem?_setIfInBounds_ne (by omega)]
theorem setL_below {B g : Nat} {w0 : World} (hg : B ≤ g) : ∀ (vs : List Value) (w : World) (o : Nat), Below B w0 w → Below B w0 (setL w g o vs)
  | [], _, _, h => h
  | v :: vs, w, o, h => setL_below hg vs (w.setCell ⟨g, o, none⟩ v) (o + 1) (h.setCell hg v)
def SlS (w : World) (a : Option Addr) (s n : Nat) (F : Nat → List Value) : Prop :=
  n = 0 ∨ ∃ b off, a = some ⟨b, off, none⟩ ∧ b < w.heap.size ∧ ∀ k, k < n → ∀ j, j < s → w.cell? ⟨b, off + k * s + j, none⟩ = (F k)[j]?
theorem SlS.below {w w' : World} {a : Option Addr} {s n : Nat} {F : Nat → List Value} (h : SlS w a s n F) (hb : Below w.heap.size w w') : SlS w' a s n F := by
  rcases h with h | ⟨b, off, ha, hlt, hc⟩
  · exact .inl h
  · exact .inr ⟨b, off, ha, by have := hb.size; omega, fun k hk j hj => by rw [hb.cell (p := ⟨b, off + k * s + j, none⟩) hlt]; exact hc k hk j hj⟩
theorem SlS.at {w : World} {a : Option Addr} {s n : Nat} {F : Nat → List Value} (h : SlS w a s n F) {k : Nat} (hk : k < n) : ∃ b off, a = some ⟨b, off, none⟩ ∧ b < w.heap.size ∧ ∀ j, j < s → w.cell? ⟨b, off + k * s + j, none⟩ = (F k)[j]? := by
  rcases h with h | ⟨b, off, ha, hlt, hc⟩
  · omega
  · exact ⟨b, off, ha, hlt, hc k hk⟩
end Go.Proofs.Ytegckbfbmbiogaa
namespace Go.Proofs.Ytegckbfbmbiogaa
open Go.RowKit
def marksF (s n : Nat) : List Int := (List.range n).map (fun i : Nat => ((s : Int) + (i : Int)) % 256)
def MarkedF (s : Nat) (w wr : World) (g cap k : Nat) : Prop :=
  w.grownBy wr (some g) ∧ ∃ cur, wr.heap[g]? = some (.cells cur 5 (0, 0)) ∧ cur.size = cap ∧ ∀ i, i < k → cur[i]? = some (.int .u8 (((s : Int) + (i : Int)) % 256))
end Go.Proofs.Ytegckbfbmbiogaa
namespace Go.Proofs.Ytegckbfbmbiogaa
open Go.RowKit
theorem step_append_own {P : Program} {ops : Array Oper} {o : Oper} {a : Act} {w : World} {K : Act → World → Prop} {Q : Exit → Act → World → Prop} {E : Prop}
    (hgd : o.guard = none) (s x : Operand) (t : TypeId) (ho : o.op = .call { callee := .builtin .append, args := #[s, x], argTypes := #[t, t] })
    (base : Nat) (e : TypeId) (i : TypeInfo) (z : Value) (size bytes : Nat) (ht : P.underlying t = some (.slice e)) (hi : P.info? e = some i) (hz : i.zero = some z)
    (hsize : i.size = size) (hby : i.bytes = bytes) (hzs : z.cells.size = size) (hsz : 0 < size)
    (v : Value) (n : Nat) (xs : List Value) (hs : a.eval s = v) (hown : w.ownsRow base e size v n xs)
    (ad : Addr) (m c : Nat) (news : List Value) (hx : a.eval x = .slice (some ad) m c) (hl : news.length = m * size) (hnews : ∀ j u, news[j]? = some u → w.cell? (ad.add j) = some u) (h1 : ∀ u ∈ news, u.oneCell' = true)
    (h63 : n + m ≤ maxLen) (hbytes : (n + m) * bytes ≤ 140737488355328) (hbase : base ≤ w.heap.size)
    (h : ∀ v' w', w'.ownsRow base e size v' (n + m) (xs ++ news) → w.grownBy w' v.ownBlock → K (a.put o.dst v') w') :
    if Region.wanted o (yielded ops a.tmps) = true then Oper.wp P o a w K Q else E := by
  have hw : Region.wanted o (yielded ops a.tmps) = true := by simp [Region.wanted, hgd]
  rw [if_pos hw]
  obtain ⟨v', w', hrun, r1, r2, _⟩ := run_append_own (P := P) w base t o.type e i z size bytes ht hi hz hsize hby hzs hsz v n xs hown ad m c news hl hnews h1 h63 hbytes hbase
  unfold Oper.wp
  simp [execOp, ho, resolve, invoke, builtin, hs, hx, hrun, Result.andThen]
  exact h v' w' r1 r2
end Go.Proofs.Ytegckbfbmbiogaa
namespace Go.Proofs.Ytegckbfbmbiogaa
open Go.RowKit
def SlI (w : World) (a : Option Addr) (zs : List Int) : Prop :=
  zs = [] ∨ ∃ b off, a = some ⟨b, off, none⟩ ∧ b < w.heap.size ∧ ∀ i, i < zs.length → w.cell? ⟨b, off + i, none⟩ = some (.int .i64 (zs.getD i 0))
theorem SlI.below {w w' : World} {a : Option Addr} {zs : List Int} (h : SlI w a zs) (hb : Below w.heap.size w w') : SlI w' a zs := by
  rcases h with h | ⟨b, off, ha, hlt, hc⟩
  · exact .inl h
  · exact .inr ⟨b, off, ha, by have := hb.size; omega, fun i hi => by rw [hb.cell (p := ⟨b, off + i, none⟩) hlt]; exact hc i hi⟩
theorem cell_atI {w : World} {a : Option Addr} {zs : List Int} (hs : SlI w a zs) {k : Nat} (hlt : k < zs.length) : ∃ b off, a = some ⟨b, off, none⟩ ∧ b < w.heap.size ∧ w.cell? ⟨b, off + k, none⟩ = some (.int .i64 (zs.getD k 0)) := by
  rcases hs with hs | ⟨b, off, h1, h2, h3⟩
  · rw [hs] at hlt; simp at hlt
  · exact ⟨b, off, h1, h2, h3 k hlt⟩
def OwnI (w : World) (base : Nat) (v : Value) (zs : List Int) : Prop := w.ownsRow base 3 1 v zs.length (zs.map (Value.int .i64))
theorem OwnI.sl {w : World} {base n cap : Nat} {a : Option Addr} {zs : List Int} (h : OwnI w base (.slice a n cap) zs) : n = zs.length ∧ SlI w a zs := by
  obtain ⟨_, h2⟩ := h
  rcases h2 with ⟨h2, h3⟩ | ⟨g, cap', cur, hv, _, hh, hle, _, hs, ht⟩
  · have e : zs = [] := List.eq_nil_of_length_eq_zero h3
    simp only [Value.slice.injEq] at h2
    exact ⟨by rw [h3]; exact h2.2.1, .inl e⟩
  · simp only [Value.slice.injEq] at hv
    refine ⟨hv.2.1, .inr ⟨g, 0, hv.1, (Array.getElem?_eq_some_iff.1 hh).1, fun i hi => ?_⟩⟩
    have e1 : cur.toList[i]? = some (.int .i64 (zs.getD i 0)) := by
      have e2 : (cur.toList.take (zs.length * 1))[i]? = (zs.map (Value.int .i64))[i]? := by rw [ht]
      rw [List.getElem?_take, if_pos (by omega)] at e2
      rw [e2]
      simp [hi]
    simp only [World.cell?, hh, Nat.zero_add]
    rw [Array.getElem?_toList] at e1
    exact e1
theorem OwnI.kept {w w' : World} {base : Nat} {v : Value} {row : Option Nat} {zs : List Int} (h : OwnI w base v zs) (hg : w.grownBy w' row) (hne : v.ownBlock = none ∨ v.ownBlock ≠ row) : OwnI w' base v zs := World.ownsRow.kept h hg hne
theorem OwnI.below {w w' : World} {base : Nat} {v : Value} {zs : List Int} (h : OwnI w base v zs) (hb : Below w.heap.size w w') : OwnI w' base v zs := by
  refine h.kept (grown_below hb (some w.heap.size)) ?_
  cases e : v.ownBlock with
  | none => exact .inl rfl
  | some k => exact .inr (fun e2 => by have := (World.ownsRow.lt h k e).2; simp at e2; omega)
theorem Try.infoI3 : (Try.prog.info? 3).map (fun i => (i.zero, i.size, i.bytes)) = some (some (.int .i64 0), 1, 8) := by kernel_rfl
set_option maxHeartbeats 1000000 in
theorem sameInts_true (a a' : Option Addr) (n n' cap cap' : Nat) (zs : List Int) (w : World) (hn : n = zs.length) (hn' : n' = zs.length) (hs : SlI w a zs) (hs' : SlI w a' zs) (hl : zs.length ≤ 2000000) :
    Calls Try.prog 13 #[.slice a n cap, .slice a' n' cap'] w fun e w' => e = .returned (.bool true) ∧ ∃ n, w' = w.drewN n := by
  subst hn hn'
  go_enter Try.func13, Try.ntmps13
  go_wp2
  go_loopw [5] (fun i wr => ∃ k : Nat, k ≤ zs.length ∧ i = .int .i64 k ∧ ∃ n, wr = w.drewN n) (fun i _ => zs.length - (intOf i).toNat)
  case atStart => exact ⟨0, Nat.zero_le _, rfl, 0, rfl⟩
  case round =>
    obtain ⟨k, hk, rfl, n, rfl⟩ := hrel
    by_cases hlt : k < zs.length
    · obtain ⟨b, off, rfl, _, hc⟩ := cell_atI hs hlt
      obtain ⟨b', off', rfl, _, hc'⟩ := cell_atI hs' hlt
      have hi : (k : Int) < (zs.length : Int) := by omega
      clear hs hs'
      go_wp2
      go_quiet (fail)
      go_wp2
      go_roundw
      case rel => exact ⟨k + 1, by omega, by go_num, _, rfl⟩
      case measure => simp [intOf]; omega
    · clear hs hs'
      go_wp2
      go_ret
      exact ⟨rfl, _, rfl⟩
def marksI (s n : Nat) : List Int := (List.range n).map (fun i : Nat => (s : Int) + (i : Int))
def MarkedI (s : Nat) (w wr : World) (g cap k : Nat) : Prop :=
  w.grownBy wr (some g) ∧ ∃ cur, wr.heap[g]? = some (.cells cur 3 (0, 0)) ∧ cur.size = cap ∧ ∀ i, i < k → cur[i]? = some (.int .i64 ((s : Int) + (i : Int)))
end Go.Proofs.Ytegckbfbmbiogaa
namespace Go.Proofs.Ytegckbfbmbiogaa
open Go.RowKit
theorem SlB.below {w w' : World} {a : Option Addr} {zs : List Bool} (h : SlB w a zs) (hb : Below w.heap.size w w') : SlB w' a zs := by
  rcases h with h | ⟨b, off, ha, hlt, hc⟩
  · exact .inl h
  · exact .inr ⟨b, off, ha, by have := hb.size; omega, fun i hi => by rw [hb.cell (p := ⟨b, off + i, none⟩) hlt]; exact hc i hi⟩
theorem cell_atB {w : World} {a : Option Addr} {zs : List Bool} (hs : SlB w a zs) {k : Nat} (hlt : k < zs.length) : ∃ b off, a = some ⟨b, off, none⟩ ∧ b < w.heap.size ∧ w.cell? ⟨b, off + k, none⟩ = some (.bool (zs.getD k false)) := by
  rcases hs with hs | ⟨b, off, h1, h2, h3⟩
  · rw [hs] at hlt; simp at hlt
  · exact ⟨b, off, h1, h2, h3 k hlt⟩
def OwnB (w : World) (base : Nat) (v : Value) (zs : List Bool) : Prop := w.ownsRow base 4 1 v zs.length (zs.map (Value.bool))
theorem OwnB.sl {w : World} {base n cap : Nat} {a : Option Addr} {zs : List Bool} (h : OwnB w base (.slice a n cap) zs) : n = zs.length ∧ SlB w a zs := by
  obtain ⟨_, h2⟩ := h
  rcases h2 with ⟨h2, h3⟩ | ⟨g, cap', cur, hv, _, hh, hle, _, hs, ht⟩
  · have e : zs = [] := List.eq_nil_of_length_eq_zero h3
    simp only [Value.slice.injEq] at h2
    exact ⟨by rw [h3]; exact h2.2.1, .inl e⟩
  · simp only [Value.slice.injEq] at hv
    refine ⟨hv.2.1, .inr ⟨g, 0, hv.1, (Array.getElem?_eq_some_iff.1 hh).1, fun i hi => ?_⟩⟩
    have e1 : cur.toList[i]? = some (.bool (zs.getD i false)) := by
      have e2 : (cur.toList.take (zs.length * 1))[i]? = (zs.map (Value.bool))[i]? := by rw [ht]
      rw [List.getElem?_take, if_pos (by omega)] at e2
      rw [e2]
      simp [hi]
    simp only [World.cell?, hh, Nat.zero_add]
    rw [Array.getElem?_toList] at e1
    exact e1
theorem OwnB.kept {w w' : World} {base : Nat} {v : Value} {row : Option Nat} {zs : List Bool} (h : OwnB w base v zs) (hg : w.grownBy w' row) (hne : v.ownBlock = none ∨ v.ownBlock ≠ row) : OwnB w' base v zs := World.ownsRow.kept h hg hne
theorem OwnB.below {w w' : World} {base : Nat} {v : Value} {zs : List Bool} (h : OwnB w base v zs) (hb : Below w.heap.size w w') : OwnB w' base v zs := by
  refine h.kept (grown_below hb (some w.heap.size)) ?_
  cases e : v.ownBlock with
  | none => exact .inl rfl
  | some k => exact .inr (fun e2 => by have := (World.ownsRow.lt h k e).2; simp at e2; omega)
theorem Try.info4 : (Try.prog.info? 4).map (fun i => (i.zero, i.size, i.bytes)) = some (some (.bool false), 1, 1) := by kernel_rfl
set_option maxHeartbeats 1000000 in
theorem sameBits_true (a a' : Option Addr) (n n' cap cap' : Nat) (zs : List Bool) (w : World) (hn : n = zs.length) (hn' : n' = zs.length) (hs : SlB w a zs) (hs' : SlB w a' zs) (hl : zs.length ≤ 20000000) :
    Calls Try.prog 14 #[.slice a n cap, .slice a' n' cap'] w fun e w' => e = .returned (.bool true) ∧ ∃ n, w' = w.drewN n := by
  subst hn hn'
  go_enter Try.func14, Try.ntmps14
  go_wp2
  go_loopw [5] (fun i wr => ∃ k : Nat, k ≤ zs.length ∧ i = .int .i64 k ∧ ∃ n, wr = w.drewN n) (fun i _ => zs.length - (intOf i).toNat)
  case atStart => exact ⟨0, Nat.zero_le _, rfl, 0, rfl⟩
  case round =>
    obtain ⟨k, hk, rfl, n, rfl⟩ := hrel
    by_cases hlt : k < zs.length
    · obtain ⟨b, off, rfl, _, hc⟩ := cell_atB hs hlt
      obtain ⟨b', off', rfl, _, hc'⟩ := cell_atB hs' hlt
      have hi : (k : Int) < (zs.length : Int) := by omega
      clear hs hs'
      go_wp2
      go_quiet (fail)
      go_wp2
      go_roundw
      case rel => exact ⟨k + 1, by omega, by go_num, _, rfl⟩
      case measure => simp [intOf]; omega
    · clear hs hs'
      go_wp2
      go_ret
      exact ⟨rfl, _, rfl⟩
def marksB (s n : Nat) : List Bool := (List.range n).map (fun i : Nat => ((s : Int) + (i : Int)) % 3 == 0)
def MarkedB (s : Nat) (w wr : World) (g cap k : Nat) : Prop :=
  w.grownBy wr (some g) ∧ ∃ cur, wr.heap[g]? = some (.cells cur 4 (0, 0)) ∧ cur.size = cap ∧ ∀ i, i < k → cur[i]? = some (.bool (((s : Int) + (i : Int)) % 3 == 0))
end Go.Proofs.Ytegckbfbmbiogaa
namespace Go.Proofs.Ytegckbfbmbiogaa
open Go.RowKit
theorem bel_next {w0 w w' : World} (h : Below w0.heap.size w0 w) (h' : Below w.heap.size w w') : Below w0.heap.size w0 w' := h.trans (h'.mono h.size)
theorem bel_alloc (w : World) (o : Obj) : Below w.heap.size w (w.alloc o) := (Below.refl _ w).alloc (Nat.le_refl _) o
def Blk (w : World) (g : Nat) (t : TypeId) (cs : Array Value) : Prop := w.heap[g]? = some (.cells cs t (0, 0))
theorem Blk.cell {w : World} {g : Nat} {t : TypeId} {cs : Array Value} (h : Blk w g t cs) (j : Nat) {v : Value} (hj : cs[j]? = some v) : w.cell? ⟨g, j, none⟩ = some v := by
  unfold Blk at h; simp [World.cell?, h, hj]
theorem Blk.fro {w : World} {g : Nat} {t : TypeId} {cs : Array Value} (h : Blk w g t cs) (j : Nat) : w.frozen? ⟨g, j, none⟩ = false := by
  unfold Blk at h; simp [World.frozen?, h]
theorem Blk.lt {w : World} {g : Nat} {t : TypeId} {cs : Array Value} (h : Blk w g t cs) : g < w.heap.size := (Array.getElem?_eq_some_iff.1 h).1
theorem Blk.new (w : World) (cs : Array Value) (t : TypeId) : Blk (w.alloc (.cells cs t)) w.heap.size t cs := by
  show (w.heap.push (.cells cs t (0, 0)))[w.heap.size]? = _; simp
theorem Blk.below {w w' : World} {g : Nat} {t : TypeId} {cs : Array Value} (h : Blk w g t cs) (hb : Below w.heap.size w w') : Blk w' g t cs := by
  unfold Blk; rw [hb.block g h.lt]; exact h
theorem Blk.grown {w w' : World} {g : Nat} {t : TypeId} {cs : Array Value} {row : Option Nat} (h : Blk w g t cs) (hg : w.grownBy w' row) (hne : row ≠ some g) : Blk w' g t cs := by
  unfold Blk; rw [hg.block g h.lt (fun e => hne e.symm)]; exact h
theorem Blk.set {w : World} {g : Nat} {t : TypeId} {cs : Array Value} (h : Blk w g t cs) (j : Nat) (y : Value) : Blk (w.setCell ⟨g, j, none⟩ y) g t (cs.setIfInBounds j y) := by
  unfold Blk at h ⊢; simp [World.setCell, Array.getElem?_modify, h]
theorem Blk.setNe {w : World} {g g' j : Nat} {t : TypeId} {cs : Array Value} {y : Value} (h : Blk w g t cs) (hne : g ≠ g') : Blk (w.setCell ⟨g', j, none⟩ y) g t cs := by
  unfold Blk; rw [Below.heap_setCell _ _ _ _ hne]; exact h
theorem row_noBlk {w : World} {base size n g : Nat} {e t : TypeId} {v : Value} {xs : List Value} {cs : Array Value} (h : w.ownsRow base e size v n xs) (hb : Blk w g t cs) (ht : t ≠ e) : v.ownBlock ≠ some g := by
  intro he
  obtain ⟨_, h2⟩ := h
  rcases h2 with ⟨h2, _⟩ | ⟨g', cap, cur, hv, _, hh, _⟩
  · rw [h2] at he; simp [Value.ownBlock] at he
  · rw [hv] at he
    simp [Value.ownBlock] at he
    subst he
    unfold Blk at hb
    rw [hb] at hh
    simp at hh
    exact ht hh.2
theorem grown_setj (w : World) (g o : Nat) (v : Value) : w.grownBy (w.setCell ⟨g, o, none⟩ v) (some g) :=
  ⟨rfl, rfl, rfl, by simp [World.setCell], fun k hk hne => Below.heap_setCell _ _ _ _ (fun e => hne (by simpa using e))⟩
theorem row_set {w : World} {base size n g j : Nat} {e t : TypeId} {v y : Value} {xs : List Value} {cs : Array Value} (h : w.ownsRow base e size v n xs) (hb : Blk w g t cs) (ht : t ≠ e) : (w.setCell ⟨g, j, none⟩ y).ownsRow base e size v n xs :=
  World.ownsRow.kept h (grown_setj w g j y) (.inr (row_noBlk h hb ht))
def ExB (w : World) (g : Nat) (t : TypeId) : Prop := ∃ cs, Blk w g t cs
theorem ExB.set {w : World} {g g' j : Nat} {t : TypeId} {y : Value} (h : ExB w g t) : ExB (w.setCell ⟨g', j, none⟩ y) g t := by
  obtain ⟨cs, h⟩ := h
  by_cases e : g = g'
  · subst e; exact ⟨_, h.set j y⟩
  · exact ⟨_, h.setNe e⟩
theorem row_setE {w : World} {base size n g j : Nat} {e t : TypeId} {v y : Value} {xs : List Value} (h : w.ownsRow base e size v n xs) (hb : ExB w g t) (ht : t ≠ e) : (w.setCell ⟨g, j, none⟩ y).ownsRow base e size v n xs := by
  obtain ⟨cs, hb⟩ := hb
  exact row_set h hb ht
theorem OwnI.mono {w : World} {base base' : Nat} {v : Value} {zs : List Int} (h : OwnI w base v zs) (hb : base' ≤ base) : OwnI w base' v zs := by
  obtain ⟨h1, h2⟩ := h
  refine ⟨h1, ?_⟩
  rcases h2 with h2 | ⟨g, cap, cur, hv, hg, r⟩
  · exact .inl h2
  · exact .inr ⟨g, cap, cur, hv, by omega, r⟩
theorem OwnB.mono {w : World} {base base' : Nat} {v : Value} {zs : List Bool} (h : OwnB w base v zs) (hb : base' ≤ base) : OwnB w base' v zs := by
  obtain ⟨h1, h2⟩ := h
  refine ⟨h1, ?_⟩
  rcases h2 with h2 | ⟨g, cap, cur, hv, hg, r⟩
  · exact .inl h2
  · exact .inr ⟨g, cap, cur, hv, by omega, r⟩
end Go.Proofs.Ytegckbfbmbiogaa
namespace Go.Proofs.Ytegckbfbmbiogaa
theorem i64_and_mask (n : Int) (k : Nat) (m : Int) (hm : (BitVec.ofInt 64 m).toNat = 2 ^ k - 1) (hk : k ≤ 62) : bits .and .i64 n m = n % ((2 ^ k : Nat) : Int) := by
  have key : (BitVec.ofInt 64 n &&& BitVec.ofInt 64 m).toNat = (n % ((2 ^ 64 : Nat) : Int)).toNat % 2 ^ k := by
    rw [BitVec.toNat_and, BitVec.toNat_ofInt, hm, Nat.and_two_pow_sub_one_eq_mod]
  show IntKind.i64.wrap ((BitVec.ofInt 64 n &&& BitVec.ofInt 64 m).toNat : Nat) = n % ((2 ^ k : Nat) : Int)
  have hlt : 2 ^ k ≤ 2 ^ 62 := Nat.pow_le_pow_right (by decide) hk
  have hpos : 0 < 2 ^ k := Nat.two_pow_pos k
  have e1 : (((n % ((2 ^ 64 : Nat) : Int)).toNat % 2 ^ k : Nat) : Int) = n % ((2 ^ k : Nat) : Int) := by
    have h0 : 0 ≤ n % ((2 ^ 64 : Nat) : Int) := Int.emod_nonneg _ (by decide)
    rw [Int.natCast_emod, Int.toNat_of_nonneg h0]
    refine Int.emod_emod_of_dvd n ?_
    exact Int.natCast_dvd_natCast.2 (Nat.pow_dvd_pow 2 (by omega))
  rw [key, e1, IntKind.wrap_i64]
  have h1 : 0 ≤ n % ((2 ^ k : Nat) : Int) := Int.emod_nonneg _ (by omega)
  have h2 : n % ((2 ^ k : Nat) : Int) < ((2 ^ k : Nat) : Int) := Int.emod_lt_of_pos _ (by omega)
  omega
theorem and8 (n : Int) : bits .and .i64 n 255 = n % 256 := i64_and_mask n 8 255 (by decide) (by decide)
theorem wraps_i64' (n : Int) (h₀ : 0 ≤ n) (h₁ : n < 2 ^ 32) : IntKind.i64.wrap n = n := by rw [IntKind.wrap_i64]; omega
end Go.Proofs.Ytegckbfbmbiogaa
namespace Go.Proofs.Ytegckbfbmbiogaa
open Go.RowKit
set_option linter.unusedVariables false
set_option linter.unusedSimpArgs false
structure Ru where
  u : Int
  s : Int
  lo : Int
  hi : Int
  p : Int
  t : Int
  sh : Int
abbrev rul (r : Ru) : List Value := [.int .i64 r.u, .int .i64 r.s, .int .i64 r.lo, .int .i64 r.hi, .int .i64 r.p, .int .i64 r.t, .int .i64 r.sh]
abbrev ruc (r : Ru) : Array Value := #[.int .i64 r.u, .int .i64 r.s, .int .i64 r.lo, .int .i64 r.hi, .int .i64 r.p, .int .i64 r.t, .int .i64 r.sh]
abbrev SlU (w : World) (a : Option Addr) (n : Nat) (f : Nat → Ru) : Prop := SlS w a 7 n (fun k => rul (f k))
abbrev RowU (w : World) (g n : Nat) (f : Nat → Ru) : Prop := RowS w g 41 7 n (fun k => rul (f k))
theorem SlU.seven {w : World} {a : Option Addr} {n : Nat} {f : Nat → Ru} (h : SlU w a n f) {k : Nat} (hk : k < n) : ∃ b off, a = some ⟨b, off, none⟩ ∧ b < w.heap.size ∧
    w.cell? ⟨b, off + k * 7, none⟩ = some (.int .i64 (f k).u) ∧ w.cell? ⟨b, off + k * 7 + 1, none⟩ = some (.int .i64 (f k).s) ∧ w.cell? ⟨b, off + k * 7 + 2, none⟩ = some (.int .i64 (f k).lo) ∧ w.cell? ⟨b, off + k * 7 + 3, none⟩ = some (.int .i64 (f k).hi) ∧ w.cell? ⟨b, off + k * 7 + 4, none⟩ = some (.int .i64 (f k).p) ∧ w.cell? ⟨b, off + k * 7 + 5, none⟩ = some (.int .i64 (f k).t) ∧ w.cell? ⟨b, off + k * 7 + 6, none⟩ = some (.int .i64 (f k).sh) := by
  obtain ⟨b, off, ha, hb, hc⟩ := SlS.at h hk
  exact ⟨b, off, ha, hb, hc 0 (by decide), hc 1 (by decide), hc 2 (by decide), hc 3 (by decide), hc 4 (by decide), hc 5 (by decide), hc 6 (by decide)⟩
theorem Try.info41 : (Try.prog.info? 41).map (fun i => (i.zero, i.size, i.bytes)) = some (some (.agg (ruc ⟨0, 0, 0, 0, 0, 0, 0⟩)), 7, 56) := by kernel_rfl
end Go.Proofs.Ytegckbfbmbiogaa
namespace Go.Proofs.Ytegckbfbmbiogaa
open Go.RowKit
theorem Blk.six {w : World} {g : Nat} {t : TypeId} {v0 v1 v2 v3 v4 v5 : Value} (h : Blk w g t #[v0, v1, v2, v3, v4, v5]) : w.cell? ⟨g, 0, none⟩ = some v0 ∧ w.cell? ⟨g, 1, none⟩ = some v1 ∧ w.cell? ⟨g, 2, none⟩ = some v2 ∧ w.cell? ⟨g, 3, none⟩ = some v3 ∧ w.cell? ⟨g, 4, none⟩ = some v4 ∧ w.cell? ⟨g, 5, none⟩ = some v5 :=
  ⟨h.cell 0 rfl, h.cell 1 rfl, h.cell 2 rfl, h.cell 3 rfl, h.cell 4 rfl, h.cell 5 rfl⟩
abbrev rq (kd pl nn wa : Int) (a1 a2 : Option Addr) (l1 l2 c1 c2 : Nat) : Value := .agg #[.int .i64 kd, .int .i64 pl, .int .i64 nn, .slice a1 l1 c1, .slice a2 l2 c2, .int .i64 wa]
def wrK (kd : Int) : Bool := decide (kd = 5 ∨ kd = 6 ∨ kd = 15 ∨ kd = 16 ∨ kd = 22 ∨ kd = 23)
set_option maxHeartbeats 4000000 in
theorem specWrites_any (kd pl nn wa : Int) (a1 a2 : Option Addr) (l1 l2 c1 c2 : Nat) (w : World) :
    Calls Try.prog 60 #[rq kd pl nn wa a1 a2 l1 l2 c1 c2] w fun e w' => e = .returned (.bool (wrK kd)) ∧ Below w.heap.size w w' := by
  have B0 := bel_alloc w (.cells #[.int .i64 kd, .int .i64 pl, .int .i64 nn, .slice a1 l1 c1, .slice a2 l2 c2, .int .i64 wa] 28)
  by_cases hk : (1 ≤ kd ∧ kd ≤ 6) ∨ kd = 15 ∨ kd = 16 ∨ kd = 22 ∨ kd = 23
  · obtain rfl | rfl | rfl | rfl | rfl | rfl | rfl | rfl | rfl | rfl : kd = 1 ∨ kd = 2 ∨ kd = 3 ∨ kd = 4 ∨ kd = 5 ∨ kd = 6 ∨ kd = 15 ∨ kd = 16 ∨ kd = 22 ∨ kd = 23 := by omega
    all_goals (
      clear hk
      go_enter Try.func60, Try.ntmps60
      go_wp2_with (first | (go_at_call 110; go_in) | (go_at_call 63; go_in))
      go_ret
      exact ⟨rfl, B0⟩)
  · have e : wrK kd = false := by unfold wrK; exact decide_eq_false (by omega)
    rw [e]
    have h15 : ¬ kd = 15 := by omega
    have h16 : ¬ kd = 16 := by omega
    have h22 : ¬ kd = 22 := by omega
    have h23 : ¬ kd = 23 := by omega
    by_cases h1 : 1 ≤ kd
    · have h6 : ¬ kd ≤ 6 := by omega
      clear hk e
      go_enter Try.func60, Try.ntmps60
      go_wp2_with (first | (go_at_call 110; go_in) | (go_at_call 63; go_in))
      go_ret
      exact ⟨rfl, B0⟩
    · clear hk e
      go_enter Try.func60, Try.ntmps60
      go_wp2_with (first | (go_at_call 110; go_in) | (go_at_call 63; go_in))
      go_ret
      exact ⟨rfl, B0⟩
end Go.Proofs.Ytegckbfbmbiogaa
namespace Go.Proofs.Ytegckbfbmbiogaa
open Go.RowKit
set_option linter.unusedVariables false
def inB (x lo hi : Int) : Bool := decide (lo ≤ x ∧ x ≤ hi)
def allW (ws : List Int) : Bool := decide (∀ k, k < ws.length → 0 ≤ ws.getD k 0 ∧ ws.getD k 0 ≤ 65535)
def fitB (p n : Int) : Bool := decide (0 ≤ p ∧ p ≤ 65535 ∧ p + n ≤ 65536)
def rnB (p n most : Int) : Bool := decide (1 ≤ n ∧ n ≤ most ∧ 0 ≤ p ∧ p + n ≤ 65536)
def zrB (n w b a : Bool) (nn : Int) (l1 l2 : Nat) (wa : Int) : Bool := (n || decide (nn = 0)) && ((w || decide (l1 = 0)) && ((b || decide (l2 = 0)) && (a || decide (wa = 0))))
set_option maxHeartbeats 1000000 in
theorem l1In_any (x lo hi : Int) (w : World) (b : Bool) (hb : inB x lo hi = b) : Calls Try.prog 63 #[.int .i64 x, .int .i64 lo, .int .i64 hi] w fun e w' => e = .returned (.bool b) ∧ w' = w := by
  subst hb
  unfold inB
  by_cases h1 : lo ≤ x
  · by_cases h2 : x ≤ hi
    · rw [decide_eq_true (show lo ≤ x ∧ x ≤ hi from ⟨h1, h2⟩)]
      go_enter Try.func63, Try.ntmps63
      go_wp2
      go_ret
      exact ⟨rfl, rfl⟩
    · rw [decide_eq_false (show ¬ (lo ≤ x ∧ x ≤ hi) from fun h => h2 h.2)]
      go_enter Try.func63, Try.ntmps63
      go_wp2
      go_ret
      exact ⟨rfl, rfl⟩
  · rw [decide_eq_false (show ¬ (lo ≤ x ∧ x ≤ hi) from fun h => h1 h.1)]
    go_enter Try.func63, Try.ntmps63
    go_wp2
    go_ret
    exact ⟨rfl, rfl⟩
set_option maxHeartbeats 1000000 in
theorem isWord_any (x : Int) (w : World) (b : Bool) (hb : inB x 0 65535 = b) : Calls Try.prog 97 #[.int .i64 x] w fun e w' => e = .returned (.bool b) ∧ w' = w := by
  subst hb
  unfold inB
  by_cases h1 : 0 ≤ x
  · by_cases h2 : x ≤ 65535
    · rw [decide_eq_true (show 0 ≤ x ∧ x ≤ 65535 from ⟨h1, h2⟩)]
      go_enter Try.func97, Try.ntmps97
      go_wp2
      go_ret
      exact ⟨rfl, rfl⟩
    · rw [decide_eq_false (show ¬ (0 ≤ x ∧ x ≤ 65535) from fun h => h2 h.2)]
      go_enter Try.func97, Try.ntmps97
      go_wp2
      go_ret
      exact ⟨rfl, rfl⟩
  · rw [decide_eq_false (show ¬ (0 ≤ x ∧ x ≤ 65535) from fun h => h1 h.1)]
    go_enter Try.func97, Try.ntmps97
    go_wp2
    go_ret
    exact ⟨rfl, rfl⟩
set_option maxHeartbeats 1000000 in
theorem l3Fits_any (x n : Int) (w : World) (hn0 : 0 ≤ n) (hn1 : n ≤ 9000000000000000000) (b : Bool) (hb : fitB x n = b) : Calls Try.prog 65 #[.int .i64 x, .int .i64 n] w fun e w' => e = .returned (.bool b) ∧ w' = w := by
  subst hb
  unfold fitB
  by_cases h1 : 0 ≤ x
  · by_cases h2 : x ≤ 65535
    · by_cases h3 : x + n ≤ 65536
      · rw [decide_eq_true (show 0 ≤ x ∧ x ≤ 65535 ∧ x + n ≤ 65536 from ⟨h1, h2, h3⟩)]
        go_enter Try.func65, Try.ntmps65
        go_wp2_with (go_at_call 63; go_in)
        go_ret
        exact ⟨rfl, rfl⟩
      · rw [decide_eq_false (show ¬ (0 ≤ x ∧ x ≤ 65535 ∧ x + n ≤ 65536) from fun h => h3 h.2.2)]
        go_enter Try.func65, Try.ntmps65
        go_wp2_with (go_at_call 63; go_in)
        go_ret
        exact ⟨rfl, rfl⟩
    · rw [decide_eq_false (show ¬ (0 ≤ x ∧ x ≤ 65535 ∧ x + n ≤ 65536) from fun h => h2 h.2.1)]
      go_enter Try.func65, Try.ntmps65
      go_wp2_with (go_at_call 63; go_in)
      go_ret
      exact ⟨rfl, rfl⟩
  · rw [decide_eq_false (show ¬ (0 ≤ x ∧ x ≤ 65535 ∧ x + n ≤ 65536) from fun h => h1 h.1)]
    go_enter Try.func65, Try.ntmps65
    go_wp2_with (go_at_call 63; go_in)
    go_ret
    exact ⟨rfl, rfl⟩
set_option maxHeartbeats 1000000 in
theorem isRun_any (x n most : Int) (w : World) (hm : most ≤ 2000) (b : Bool) (hb : rnB x n most = b) : Calls Try.prog 117 #[.int .i64 x, .int .i64 n, .int .i64 most] w fun e w' => e = .returned (.bool b) ∧ w' = w := by
  subst hb
  unfold rnB
  by_cases h1 : 1 ≤ n
  · by_cases h2 : n ≤ most
    · by_cases h3 : 0 ≤ x
      · by_cases h4 : x ≤ 65536 - n
        · rw [decide_eq_true (show 1 ≤ n ∧ n ≤ most ∧ 0 ≤ x ∧ x + n ≤ 65536 from ⟨h1, h2, h3, by omega⟩)]
          go_enter Try.func117, Try.ntmps117
          go_wp2
          go_ret
          exact ⟨rfl, rfl⟩
        · rw [decide_eq_false (show ¬ (1 ≤ n ∧ n ≤ most ∧ 0 ≤ x ∧ x + n ≤ 65536) from fun h => h4 (by omega))]
          go_enter Try.func117, Try.ntmps117
          go_wp2
          go_ret
          exact ⟨rfl, rfl⟩
      · rw [decide_eq_false (show ¬ (1 ≤ n ∧ n ≤ most ∧ 0 ≤ x ∧ x + n ≤ 65536) from fun h => h3 h.2.2.1)]
        go_enter Try.func117, Try.ntmps117
        go_wp2
        go_ret
        exact ⟨rfl, rfl⟩
    · rw [decide_eq_false (show ¬ (1 ≤ n ∧ n ≤ most ∧ 0 ≤ x ∧ x + n ≤ 65536) from fun h => h2 h.2.1)]
      go_enter Try.func117, Try.ntmps117
      go_wp2
      go_ret
      exact ⟨rfl, rfl⟩
  · rw [decide_eq_false (show ¬ (1 ≤ n ∧ n ≤ most ∧ 0 ≤ x ∧ x + n ≤ 65536) from fun h => h1 h.1)]
    go_enter Try.func117, Try.ntmps117
    go_wp2
    go_ret
    exact ⟨rfl, rfl⟩
theorem allW_bad {zs : List Int} {k : Nat} (h : k < zs.length) (hb : ¬ (0 ≤ zs.getD k 0 ∧ zs.getD k 0 ≤ 65535)) : allW zs = false := by
  unfold allW; exact decide_eq_false (fun hh => hb (hh k h))
theorem allW_good {zs : List Int} (hb : ∀ k, k < zs.length → 0 ≤ zs.getD k 0 ∧ zs.getD k 0 ≤ 65535) : allW zs = true := by
  unfold allW; exact decide_eq_true hb
set_option maxHeartbeats 1000000 in
theorem l3Words_any (a : Option Addr) (n cap : Nat) (zs : List Int) (w : World) (hn : n = zs.length) (hs : SlI w a zs) (hl : zs.length ≤ 2000000) (b : Bool) (hb : allW zs = b) :
    Calls Try.prog 62 #[.slice a n cap] w fun e w' => e = .returned (.bool b) ∧ w' = w := by
  subst hn
  go_enter Try.func62, Try.ntmps62
  go_wp2
  go_loop [3] (fun i => ∃ k : Nat, k ≤ zs.length ∧ i = .int .i64 k ∧ ∀ j, j < k → 0 ≤ zs.getD j 0 ∧ zs.getD j 0 ≤ 65535) (fun i => zs.length - (intOf i).toNat)
  case atStart => exact ⟨0, Nat.zero_le _, rfl, fun j hj => absurd hj (Nat.not_lt_zero _)⟩
  case round =>
    obtain ⟨k, hk, rfl, hg⟩ := hrel
    have HG : Hid (∀ j, j < k → 0 ≤ zs.getD j 0 ∧ zs.getD j 0 ≤ 65535) := hg
    clear hg
    by_cases hlt : k < zs.length
    · obtain ⟨bb, off, rfl, _, hc⟩ := cell_atI hs hlt
      have hi : (k : Int) < (zs.length : Int) := by omega
      obtain ⟨x, hx⟩ : ∃ x, x = zs.getD k 0 := ⟨_, rfl⟩
      have HX : Hid (x = zs.getD k 0) := hx
      rw [← hx] at hc
      clear hs hx
      by_cases h1 : 0 ≤ x
      · by_cases h2 : x ≤ 65535
        · go_wp2_with (go_at_call 63; go_in)
          go_round
          case rel =>
            first
              | exact ⟨k + 1, by omega, by go_num, fun j hj => by
                  by_cases e : j = k
                  · subst e; rw [← HX.out]; exact ⟨h1, h2⟩
                  · exact HG.out j (by omega)⟩
              | exact ⟨_, _, ⟨k + 1, by omega, by go_num, fun j hj => by
                  by_cases e : j = k
                  · subst e; rw [← HX.out]; exact ⟨h1, h2⟩
                  · exact HG.out j (by omega)⟩, rfl, rfl⟩
          case measure => simp [intOf]; omega
        · have hf := allW_bad hlt (by rw [← HX.out]; exact fun h => h2 h.2)
          rw [hf] at hb
          subst hb
          go_wp2_with (go_at_call 63; go_in)
          go_ret
          exact ⟨rfl, rfl⟩
      · have hf := allW_bad hlt (by rw [← HX.out]; exact fun h => h1 h.1)
        rw [hf] at hb
        subst hb
        go_wp2_with (go_at_call 63; go_in)
        go_ret
        exact ⟨rfl, rfl⟩
    · have hf := allW_good (zs := zs) (fun j hj => HG.out j (by omega))
      rw [hf] at hb
      subst hb
      clear hs
      go_wp2
      go_ret
      exact ⟨rfl, rfl⟩
set_option maxHeartbeats 1000000 in
theorem areWords_any (a : Option Addr) (n cap : Nat) (zs : List Int) (w : World) (hn : n = zs.length) (hs : SlI w a zs) (hl : zs.length ≤ 2000000) (b : Bool) (hb : allW zs = b) :
    Calls Try.prog 118 #[.slice a n cap] w fun e w' => e = .returned (.bool b) ∧ w' = w := by
  subst hn
  go_enter Try.func118, Try.ntmps118
  go_wp2
  go_loop [7] (fun i => ∃ k : Nat, k ≤ zs.length ∧ i = .int .i64 k ∧ ∀ j, j < k → 0 ≤ zs.getD j 0 ∧ zs.getD j 0 ≤ 65535) (fun i => zs.length - (intOf i).toNat)
  case atStart => exact ⟨0, Nat.zero_le _, rfl, fun j hj => absurd hj (Nat.not_lt_zero _)⟩
  case round =>
    obtain ⟨k, hk, rfl, hg⟩ := hrel
    have HG : Hid (∀ j, j < k → 0 ≤ zs.getD j 0 ∧ zs.getD j 0 ≤ 65535) := hg
    clear hg
    by_cases hlt : k < zs.length
    · obtain ⟨bb, off, rfl, _, hc⟩ := cell_atI hs hlt
      have hi : (k : Int) < (zs.length : Int) := by omega
      obtain ⟨x, hx⟩ : ∃ x, x = zs.getD k 0 := ⟨_, rfl⟩
      have HX : Hid (x = zs.getD k 0) := hx
      rw [← hx] at hc
      clear hs hx
      by_cases h1 : 0 ≤ x
      · by_cases h2 : x ≤ 65535
        · go_wp2_with (go_at_call 97; go_in)
          go_round
          case rel =>
            first
              | exact ⟨k + 1, by omega, by go_num, fun j hj => by
                  by_cases e : j = k
                  · subst e; rw [← HX.out]; exact ⟨h1, h2⟩
                  · exact HG.out j (by omega)⟩
              | exact ⟨_, _, ⟨k + 1, by omega, by go_num, fun j hj => by
                  by_cases e : j = k
                  · subst e; rw [← HX.out]; exact ⟨h1, h2⟩
                  · exact HG.out j (by omega)⟩, rfl, rfl⟩
          case measure => simp [intOf]; omega
        · have hf := allW_bad hlt (by rw [← HX.out]; exact fun h => h2 h.2)
          rw [hf] at hb
          subst hb
          go_wp2_with (go_at_call 97; go_in)
          go_ret
          exact ⟨rfl, rfl⟩
      · have hf := allW_bad hlt (by rw [← HX.out]; exact fun h => h1 h.1)
        rw [hf] at hb
        subst hb
        go_wp2_with (go_at_call 97; go_in)
        go_ret
        exact ⟨rfl, rfl⟩
    · have hf := allW_good (zs := zs) (fun j hj => HG.out j (by omega))
      rw [hf] at hb
      subst hb
      clear hs
      go_wp2
      go_ret
      exact ⟨rfl, rfl⟩
set_option maxHeartbeats 2000000 in
theorem l3Zero_tfff (kd pl nn wa : Int) (a1 a2 : Option Addr) (l1 l2 c1 c2 : Nat) (w : World) (hm1 : l1 ≤ 2000000) (hm2 : l2 ≤ 20000000) (z : Bool) (hz : zrB true false false false nn l1 l2 wa = z) :
    Calls Try.prog 64 #[rq kd pl nn wa a1 a2 l1 l2 c1 c2, .bool true, .bool false, .bool false, .bool false] w fun e w' => e = .returned (.bool z) ∧ Below w.heap.size w w' := by
  have B0 := bel_alloc w (.cells #[.int .i64 kd, .int .i64 pl, .int .i64 nn, .slice a1 l1 c1, .slice a2 l2 c2, .int .i64 wa] 28)
  subst hz
  by_cases h1 : l1 = 0
  · skip
    by_cases h2 : l2 = 0
    · skip
      by_cases ha : wa = 0
      · skip
        have e : zrB true false false false nn l1 l2 wa = true := by simp [zrB, h1, h2, ha]
        rw [e]
        clear e
        subst h1
        subst h2
        subst ha
        go_enter Try.func64, Try.ntmps64
        go_wp2
        go_ret
        exact ⟨rfl, B0⟩
      · have e : zrB true false false false nn l1 l2 wa = false := by simp [zrB, h1, h2, ha]
        rw [e]
        clear e
        subst h1
        subst h2
        have e2 : (wa == 0) = false := by simp [ha]
        go_enter Try.func64, Try.ntmps64
        go_wp2
        go_ret
        exact ⟨rfl, B0⟩
    · have e : zrB true false false false nn l1 l2 wa = false := by simp [zrB, h1, h2]
      rw [e]
      have h2i : ¬ (l2 : Int) = 0 := by omega
      clear e
      subst h1
      go_enter Try.func64, Try.ntmps64
      go_wp2
      go_ret
      exact ⟨rfl, B0⟩
  · have e : zrB true false false false nn l1 l2 wa = false := by simp [zrB, h1]
    rw [e]
    have h1i : ¬ (l1 : Int) = 0 := by omega
    clear e
    go_enter Try.func64, Try.ntmps64
    go_wp2
    go_ret
    exact ⟨rfl, B0⟩
set_option maxHeartbeats 2000000 in
theorem l3Zero_fftf (kd pl nn wa : Int) (a1 a2 : Option Addr) (l1 l2 c1 c2 : Nat) (w : World) (hm1 : l1 ≤ 2000000) (hm2 : l2 ≤ 20000000) (z : Bool) (hz : zrB false false true false nn l1 l2 wa = z) :
    Calls Try.prog 64 #[rq kd pl nn wa a1 a2 l1 l2 c1 c2, .bool false, .bool false, .bool true, .bool false] w fun e w' => e = .returned (.bool z) ∧ Below w.heap.size w w' := by
  have B0 := bel_alloc w (.cells #[.int .i64 kd, .int .i64 pl, .int .i64 nn, .slice a1 l1 c1, .slice a2 l2 c2, .int .i64 wa] 28)
  subst hz
  by_cases hn : nn = 0
  · skip
    by_cases h1 : l1 = 0
    · skip
      by_cases ha : wa = 0
      · skip
        have e : zrB false false true false nn l1 l2 wa = true := by simp [zrB, hn, h1, ha]
        rw [e]
        clear e
        subst hn
        subst h1
        subst ha
        go_enter Try.func64, Try.ntmps64
        go_wp2
        go_ret
        exact ⟨rfl, B0⟩
      · have e : zrB false false true false nn l1 l2 wa = false := by simp [zrB, hn, h1, ha]
        rw [e]
        clear e
        subst hn
        subst h1
        have e2 : (wa == 0) = false := by simp [ha]
        go_enter Try.func64, Try.ntmps64
        go_wp2
        go_ret
        exact ⟨rfl, B0⟩
    · have e : zrB false false true false nn l1 l2 wa = false := by simp [zrB, hn, h1]
      rw [e]
      have h1i : ¬ (l1 : Int) = 0 := by omega
      clear e
      subst hn
      go_enter Try.func64, Try.ntmps64
      go_wp2
      go_ret
      exact ⟨rfl, B0⟩
  · have e : zrB false false true false nn l1 l2 wa = false := by simp [zrB, hn]
    rw [e]
    clear e
    go_enter Try.func64, Try.ntmps64
    go_wp2
    go_ret
    exact ⟨rfl, B0⟩
set_option maxHeartbeats 2000000 in
theorem l3Zero_ftff (kd pl nn wa : Int) (a1 a2 : Option Addr) (l1 l2 c1 c2 : Nat) (w : World) (hm1 : l1 ≤ 2000000) (hm2 : l2 ≤ 20000000) (z : Bool) (hz : zrB false true false false nn l1 l2 wa = z) :
    Calls Try.prog 64 #[rq kd pl nn wa a1 a2 l1 l2 c1 c2, .bool false, .bool true, .bool false, .bool false] w fun e w' => e = .returned (.bool z) ∧ Below w.heap.size w w' := by
  have B0 := bel_alloc w (.cells #[.int .i64 kd, .int .i64 pl, .int .i64 nn, .slice a1 l1 c1, .slice a2 l2 c2, .int .i64 wa] 28)
  subst hz
  by_cases hn : nn = 0
  · skip
    by_cases h2 : l2 = 0
    · skip
      by_cases ha : wa = 0
      · skip
        have e : zrB false true false false nn l1 l2 wa = true := by simp [zrB, hn, h2, ha]
        rw [e]
        clear e
        subst hn
        subst h2
        subst ha
        go_enter Try.func64, Try.ntmps64
        go_wp2
        go_ret
        exact ⟨rfl, B0⟩
      · have e : zrB false true false false nn l1 l2 wa = false := by simp [zrB, hn, h2, ha]
        rw [e]
        clear e
        subst hn
        subst h2
        have e2 : (wa == 0) = false := by simp [ha]
        go_enter Try.func64, Try.ntmps64
        go_wp2
        go_ret
        exact ⟨rfl, B0⟩
    · have e : zrB false true false false nn l1 l2 wa = false := by simp [zrB, hn, h2]
      rw [e]
      have h2i : ¬ (l2 : Int) = 0 := by omega
      clear e
      subst hn
      go_enter Try.func64, Try.ntmps64
      go_wp2
      go_ret
      exact ⟨rfl, B0⟩
  · have e : zrB false true false false nn l1 l2 wa = false := by simp [zrB, hn]
    rw [e]
    clear e
    go_enter Try.func64, Try.ntmps64
    go_wp2
    go_ret
    exact ⟨rfl, B0⟩
set_option maxHeartbeats 2000000 in
theorem l3Zero_ttft (kd pl nn wa : Int) (a1 a2 : Option Addr) (l1 l2 c1 c2 : Nat) (w : World) (hm1 : l1 ≤ 2000000) (hm2 : l2 ≤ 20000000) (z : Bool) (hz : zrB true true false true nn l1 l2 wa = z) :
    Calls Try.prog 64 #[rq kd pl nn wa a1 a2 l1 l2 c1 c2, .bool true, .bool true, .bool false, .bool true] w fun e w' => e = .returned (.bool z) ∧ Below w.heap.size w w' := by
  have B0 := bel_alloc w (.cells #[.int .i64 kd, .int .i64 pl, .int .i64 nn, .slice a1 l1 c1, .slice a2 l2 c2, .int .i64 wa] 28)
  subst hz
  by_cases h2 : l2 = 0
  · skip
    have e : zrB true true false true nn l1 l2 wa = true := by simp [zrB, h2]
    rw [e]
    clear e
    subst h2
    go_enter Try.func64, Try.ntmps64
    go_wp2
    go_ret
    exact ⟨rfl, B0⟩
  · have e : zrB true true false true nn l1 l2 wa = false := by simp [zrB, h2]
    rw [e]
    have h2i : ¬ (l2 : Int) = 0 := by omega
    clear e
    go_enter Try.func64, Try.ntmps64
    go_wp2
    go_ret
    exact ⟨rfl, B0⟩
set_option maxHeartbeats 1000000 in
theorem equal_int (a a' : Option Addr) (n n' cap cap' : Nat) (zs : List Int) (w : World) (hn : n = zs.length) (hn' : n' = zs.length) (hs : SlI w a zs) (hs' : SlI w a' zs) (hl : zs.length ≤ 2000000) :
    Calls Try.prog 115 #[.slice a n cap, .slice a' n' cap'] w fun e w' => e = .returned (.bool true) ∧ Below w.heap.size w w' := by
  subst hn hn'
  go_enter Try.func115, Try.ntmps115
  go_wp2
  go_loopw [13] (fun i wr => ∃ k : Nat, k ≤ zs.length ∧ i = .int .i64 k ∧ ∃ n, wr = w.drewN n) (fun i _ => zs.length - (intOf i).toNat)
  case atStart => exact ⟨0, Nat.zero_le _, rfl, 0, rfl⟩
  case round =>
    obtain ⟨k, hk, rfl, n, rfl⟩ := hrel
    by_cases hlt : k < zs.length
    · obtain ⟨b, off, rfl, _, hc⟩ := cell_atI hs hlt
      obtain ⟨b', off', rfl, _, hc'⟩ := cell_atI hs' hlt
      have hi : (k : Int) < (zs.length : Int) := by omega
      clear hs hs'
      go_wp2
      go_quiet (fail)
      go_wp2
      go_roundw
      case rel => first | exact ⟨k + 1, by omega, by go_num, _, rfl⟩ | exact ⟨_, _, ⟨k + 1, by omega, by go_num, _, rfl⟩, rfl, rfl⟩
      case measure => simp [intOf]; omega
    · clear hs hs'
      go_wp2
      go_ret
      exact ⟨rfl, drew_refl _ _⟩
set_option maxHeartbeats 1000000 in
theorem equal_int_len (a a' : Option Addr) (n n' cap cap' : Nat) (w : World) (hne : ¬ (n : Int) = (n' : Int)) (h1 : n ≤ 20000000) (h2 : n' ≤ 20000000) :
    Calls Try.prog 115 #[.slice a n cap, .slice a' n' cap'] w fun e w' => e = .returned (.bool false) ∧ Below w.heap.size w w' := by
  go_enter Try.func115, Try.ntmps115
  go_wp2
  go_ret
  exact ⟨rfl, Below.refl _ _⟩
set_option maxHeartbeats 1000000 in
theorem equal_bool (a a' : Option Addr) (n n' cap cap' : Nat) (zs : List Bool) (w : World) (hn : n = zs.length) (hn' : n' = zs.length) (hs : SlB w a zs) (hs' : SlB w a' zs) (hl : zs.length ≤ 2000000) :
    Calls Try.prog 114 #[.slice a n cap, .slice a' n' cap'] w fun e w' => e = .returned (.bool true) ∧ Below w.heap.size w w' := by
  subst hn hn'
  go_enter Try.func114, Try.ntmps114
  go_wp2
  go_loopw [13] (fun i wr => ∃ k : Nat, k ≤ zs.length ∧ i = .int .i64 k ∧ ∃ n, wr = w.drewN n) (fun i _ => zs.length - (intOf i).toNat)
  case atStart => exact ⟨0, Nat.zero_le _, rfl, 0, rfl⟩
  case round =>
    obtain ⟨k, hk, rfl, n, rfl⟩ := hrel
    by_cases hlt : k < zs.length
    · obtain ⟨b, off, rfl, _, hc⟩ := cell_atB hs hlt
      obtain ⟨b', off', rfl, _, hc'⟩ := cell_atB hs' hlt
      have hi : (k : Int) < (zs.length : Int) := by omega
      clear hs hs'
      go_wp2
      go_quiet (fail)
      go_wp2
      go_roundw
      case rel => first | exact ⟨k + 1, by omega, by go_num, _, rfl⟩ | exact ⟨_, _, ⟨k + 1, by omega, by go_num, _, rfl⟩, rfl, rfl⟩
      case measure => simp [intOf]; omega
    · clear hs hs'
      go_wp2
      go_ret
      exact ⟨rfl, drew_refl _ _⟩
set_option maxHeartbeats 1000000 in
theorem equal_bool_len (a a' : Option Addr) (n n' cap cap' : Nat) (w : World) (hne : ¬ (n : Int) = (n' : Int)) (h1 : n ≤ 20000000) (h2 : n' ≤ 20000000) :
    Calls Try.prog 114 #[.slice a n cap, .slice a' n' cap'] w fun e w' => e = .returned (.bool false) ∧ Below w.heap.size w w' := by
  go_enter Try.func114, Try.ntmps114
  go_wp2
  go_ret
  exact ⟨rfl, Below.refl _ _⟩
end Go.Proofs.Ytegckbfbmbiogaa
namespace Go.Proofs.Ytegckbfbmbiogaa
open Go.RowKit
set_option linter.unusedVariables false
set_option linter.unusedSimpArgs false
def hasR (r : Ru) (un sp pl : Int) : Bool := decide (r.u = un) && decide (r.s = sp) && decide (r.lo ≤ pl) && decide (pl ≤ r.hi)
def atFrom (f : Nat → Ru) (un sp pl : Int) (n k : Nat) : Int :=
  if h : k < n then (if hasR (f k) un sp pl = true then (k : Int) else atFrom f un sp pl n (k + 1)) else -1
termination_by n - k
abbrev atR (f : Nat → Ru) (n : Nat) (un sp pl : Int) : Int := atFrom f un sp pl n 0
theorem atFrom_hit {f : Nat → Ru} {un sp pl : Int} {n k : Nat} (h : k < n) (hh : hasR (f k) un sp pl = true) : atFrom f un sp pl n k = (k : Int) := by
  rw [atFrom, dif_pos h, if_pos hh]
theorem atFrom_miss {f : Nat → Ru} {un sp pl : Int} {n k : Nat} (h : k < n) (hh : hasR (f k) un sp pl = false) : atFrom f un sp pl n k = atFrom f un sp pl n (k + 1) := by
  rw [atFrom, dif_pos h, if_neg (by rw [hh]; decide)]
theorem atFrom_end {f : Nat → Ru} {un sp pl : Int} {n k : Nat} (h : ¬ k < n) : atFrom f un sp pl n k = -1 := by
  rw [atFrom, dif_neg h]
def Tri (w : World) (g1 g2 g3 : Nat) (un sp pl : Int) : Prop :=
  Box w g1 3 (.int .i64 un) ∧ Box w g2 3 (.int .i64 sp) ∧ Box w g3 3 (.int .i64 pl)
end Go.Proofs.Ytegckbfbmbiogaa
namespace Go.Proofs.Ytegckbfbmbiogaa
def ltR (a b : Ru) : Prop := a.u < b.u ∨ (a.u = b.u ∧ (a.s < b.s ∨ (a.s = b.s ∧ a.lo < b.lo)))
instance (a b : Ru) : Decidable (ltR a b) := by unfold ltR; infer_instance
def leR (a b : Ru) : Prop := ¬ ltR b a
def SortedOn (f : Nat → Ru) (a b : Nat) : Prop := ∀ i j, a ≤ i → i < j → j < b → leR (f i) (f j)
def PermIn (a b : Nat) (f g : Nat → Ru) : Prop :=
  ∃ σ τ : Nat → Nat, (∀ k, (k < a ∨ b ≤ k) → σ k = k ∧ τ k = k) ∧ (∀ k, a ≤ k → k < b → a ≤ σ k ∧ σ k < b ∧ a ≤ τ k ∧ τ k < b) ∧ (∀ k, τ (σ k) = k ∧ σ (τ k) = k) ∧ ∀ k, g k = f (σ k)
def swI (i j k : Nat) : Nat := if k = i then j else if k = j then i else k
def InsI (h : Nat → Ru) (a i j : Nat) : Prop :=
  (∀ p q, a ≤ p → p < q → q ≤ i → p ≠ j → q ≠ j → leR (h p) (h q)) ∧ (∀ q, j < q → q ≤ i → leR (h j) (h q))
end Go.Proofs.Ytegckbfbmbiogaa

/- Texts that the proof needs, joined. -/
import Derived.Test.YtmcednhinafpeaaBys
import Derived.Test.YtmcednhinafpeaaR4
import Derived.Test.YtmcednhinafpeaaQ5
import Derived.Test.YtmcednhinafpeaaPack1
import Derived.Test.YtmcednhinafpeaaMarks2
import Derived.Test.YtmcednhinafpeaaSteps
import Derived.Test.YtmcednhinafpeaaR5
import Derived.Lib.MinMax
import Derived.Test.YtmcednhinafpeaaCur3
namespace Go.Proofs.Ytmcednhinafpeaa
open Go.RowKit

/-- The word of two bytes, as the walk writes it. -/
def word2 (x y : Int) : Int := bits BinOp.or IntKind.i64 (x * 256) y

theorem ret2_eq {k : IntKind} {a b : Int} {v : Value} (h : a = b) : Ending.returned (.tuple #[.int k a, v]) = .returned (.tuple #[.int k b, v]) := by rw [h]

end Go.Proofs.Ytmcednhinafpeaa

namespace Go.Proofs.Ytmcednhinafpeaa
open Go.RowKit

set_option linter.unusedVariables false

set_option linter.unusedSimpArgs false

def wAt (zs : List Int) (i : Nat) : Int := if i + 2 ≤ zs.length then zs.getD i 0 * 256 + zs.getD (i + 1) 0 else 0

def wsF (zs : List Int) (f : Nat) : List Int := (List.range ((zs.length - f) / 2)).map (fun k => wAt zs (f + 2 * k))

theorem wsF_length (zs : List Int) (f : Nat) : (wsF zs f).length = (zs.length - f) / 2 := by simp [wsF]

def wsT (zs : List Int) (f k : Nat) : List Int := (List.range k).map (fun k => wAt zs (f + 2 * k))

theorem wsT_length (zs : List Int) (f k : Nat) : (wsT zs f k).length = k := by simp [wsT]

theorem wsT_succ (zs : List Int) (f k : Nat) : wsT zs f (k + 1) = wsT zs f k ++ [wAt zs (f + 2 * k)] := by simp [wsT, List.range_succ]

theorem get_rg {zs : List Int} (hr : ∀ z ∈ zs, 0 ≤ z ∧ z ≤ 255) (k : Nat) : 0 ≤ zs.getD k 0 ∧ zs.getD k 0 ≤ 255 := by
  by_cases h : k < zs.length
  · have e : zs.getD k 0 = zs[k] := by simp [h]
    rw [e]; exact hr _ (List.getElem_mem h)
  · have e : zs.getD k 0 = 0 := by rw [List.getD_eq_getElem?_getD, List.getElem?_eq_none (by omega)]; rfl
    rw [e]; omega

theorem word2_eq (x y : Int) (h0 : 0 ≤ x) (h1 : x ≤ 255) (h2 : 0 ≤ y) (h3 : y ≤ 255) : word2 x y = x * 256 + y := or8 x y h0 h1 h2 h3

theorem wAt_bd {zs : List Int} (hr : ∀ z ∈ zs, 0 ≤ z ∧ z ≤ 255) (i : Nat) : 0 ≤ wAt zs i ∧ wAt zs i ≤ 65535 := by
  unfold wAt
  have a := get_rg hr i
  have b := get_rg hr (i + 1)
  split <;> omega

theorem Try.infoQ3 : (Try.prog.info? 3).map (fun i => (i.zero, i.size, i.bytes)) = some (some (.int .i64 0), 1, 8) := by kernel_rfl

theorem SlI.cellsAt {w : World} {ad : Addr} {zs : List Int} (h : SlI w (some ad) zs) : ∀ j u, (zs.map (Value.int .i64))[j]? = some u → w.cell? (ad.add j) = some u := by
  intro j u hu
  rcases h with h | ⟨b, off, ha, _, hc⟩
  · subst h; simp at hu
  · obtain rfl : ad = ⟨b, off, none⟩ := by simpa using ha
    have hj : j < zs.length := by
      have := (List.getElem?_eq_some_iff.1 hu).1
      simpa using this
    have e : Addr.add ⟨b, off, none⟩ j = ⟨b, off + j, none⟩ := by
      by_cases h0 : j = 0
      · subst h0; simp [Addr.add]
      · simp [Addr.add, h0]
    rw [e, hc j hj]
    rw [← hu]
    simp [hj]

/-- append onto a row of ints of the call's own. -/
theorem wpList_appI {w : World} {ops : Array Oper} {rest : List Oper} {o : Oper} {a : Act} {Q : Exit → Act → World → Prop} (hgd : o.guard = none) (s x : Operand)
    (ho : o.op = .call { callee := .builtin .append, args := #[s, x], argTypes := #[75, 75] }) (base : Nat) (v : Value) (zs : List Int) (hs : a.eval s = v) (hown : OwnI w base v zs)
    (ad : Addr) (m c : Nat) (ys : List Int) (hx : a.eval x = .slice (some ad) m c) (hm : m = ys.length) (hsl : SlI w (some ad) ys) (hlen : zs.length + ys.length ≤ 4000000) (hbase : base ≤ w.heap.size)
    (h : ∀ v' w', OwnI w' base v' (zs ++ ys) → w.grownBy w' v.ownBlock → wpList Try.prog ops Q rest (a.put o.dst v') w') : wpList Try.prog ops Q (o :: rest) a w := by
  obtain ⟨i0, hi, hz0, hz1, hz2⟩ := info_parts Try.infoQ3
  subst hm
  refine wpList_append_own w hgd s x 75 ho base 3 i0 (.int .i64 0) 1 8 Try.underlying75 hi hz0 hz1 hz2 rfl (by decide) v zs.length (zs.map (Value.int .i64)) hs hown ad ys.length c (ys.map (Value.int .i64)) hx (by simp) hsl.cellsAt (ints_oneCell _ _) (by unfold maxLen; omega) (by omega) hbase ?_
  intro v' w' h1 h2 _
  exact h v' w' (by simpa [OwnI] using h1) h2

theorem ownI_nil (w : World) (B : Nat) : OwnI w B (.slice none 0 0) [] := ⟨rfl, .inl ⟨rfl, rfl⟩⟩

theorem ownB_nil (w : World) (B : Nat) : OwnB w B (.slice none 0 0) [] := ⟨rfl, .inl ⟨rfl, rfl⟩⟩

theorem ownI_shape {w : World} {base : Nat} {v : Value} {zs : List Int} (h : OwnI w base v zs) : ∃ a c n, v = .slice a n c ∧ n = zs.length := by
  obtain ⟨_, h2⟩ := h
  rcases h2 with ⟨hv, h3⟩ | ⟨g, cap, cur, hv, hg, hh, _⟩
  · exact ⟨none, 0, 0, hv, h3.symm⟩
  · exact ⟨_, cap, _, hv, rfl⟩

theorem bel_rowI {B : Nat} {w0 w w' : World} {base : Nat} {v : Value} {zs : List Int} (hb : Below B w0 w) (h : OwnI w base v zs) (hg : w.grownBy w' v.ownBlock) (h1 : B ≤ base) (h2 : B ≤ w.heap.size) : Below B w0 w' :=
  hb.grown hg h2 (fun k hk => by have := (World.ownsRow.lt h k hk).1; omega)

/-- Words in memory of the call's own, or none. -/
def NwI (w w' : World) (e : Ending) (zs : List Int) : Prop := ∃ a c n, e = .returned (.slice a n c) ∧ n = zs.length ∧ OwnI w' w.heap.size (.slice a n c) zs ∧ Below w.heap.size w w'

theorem lit_slI1' (w : World) (x : Int) {g : Nat} (hg : g = w.heap.size) : SlI (w.alloc (.cells #[.int .i64 x] 3)) (some ⟨g, 0, none⟩) [x] := lit_slI1 w x hg

theorem len_eq {a b : Nat} (h : ∀ k, k < a → k < b) (h' : ∀ k, k < b → k < a) : a = b := by
  rcases Nat.lt_trichotomy a b with e | e | e
  · exact absurd (h' a e) (Nat.lt_irrefl _)
  · exact e
  · exact absurd (h b e) (Nat.lt_irrefl _)

theorem same_no {zs ys : List Int} {k : Nat} (h : zs.getD k 0 ≠ ys.getD k 0) : decide (zs = ys) = false := decide_eq_false (fun e => h (by rw [e]))

theorem same_yes {zs ys : List Int} (hl : zs.length = ys.length) (h : ∀ j, j < zs.length → zs.getD j 0 = ys.getD j 0) : decide (zs = ys) = true := by
  refine decide_eq_true (List.ext_getElem hl fun i h1 h2 => ?_)
  have := h i h1
  simpa [h1, h2] using this

theorem strOf_inj : ∀ (zs ys : List Int), (∀ z ∈ zs, 0 ≤ z ∧ z ≤ 255) → (∀ z ∈ ys, 0 ≤ z ∧ z ≤ 255) → (zs.map fun n => UInt8.ofNat n.toNat) = (ys.map fun n => UInt8.ofNat n.toNat) → zs = ys
  | [], [], _, _, _ => rfl
  | [], y :: r, _, _, h => by simp at h
  | x :: r, [], _, _, h => by simp at h
  | x :: r, y :: q, h1, h2, h => by
    simp only [List.map_cons, List.cons.injEq] at h
    have e := strOf_inj r q (fun z hz => h1 z (List.mem_cons_of_mem _ hz)) (fun z hz => h2 z (List.mem_cons_of_mem _ hz)) h.2
    have a := h1 x (List.mem_cons_self ..)
    have b := h2 y (List.mem_cons_self ..)
    have c := congrArg UInt8.toNat h.1
    simp at c
    rw [e, show x = y from by omega]

theorem conv_sl {w : World} {a : Option Addr} {n cap : Nat} {zs : List Int} (hn : n = zs.length) (hs : Sl w a zs) (hp : 0 < zs.length) : (convert 22 9 (.slice a n cap)).run Try.prog w = .ok (.string (strOfNums zs)) w := by
  obtain ⟨b, off, rfl, _, _⟩ := cell_at hs hp
  refine run_convert_bytes_arg w 22 5 Try.underlying22 Try.underlying5 b off n cap zs hn.symm (fun i hi => ?_) 9 Try.underlying9
  obtain ⟨b', off', e, _, hc⟩ := cell_at hs (show i < zs.length by omega)
  simp at e
  obtain ⟨rfl, rfl⟩ := e
  exact hc

end Go.Proofs.Ytmcednhinafpeaa

namespace Go.Proofs.Ytmcednhinafpeaa
open Go.RowKit

set_option linter.unusedVariables false

set_option linter.unusedSimpArgs false

def kindB (k : Int) : Bool := decide (k = 1 ∨ k = 2 ∨ k = 3 ∨ k = 4 ∨ k = 5 ∨ k = 6 ∨ k = 15 ∨ k = 16 ∨ k = 22 ∨ k = 23)

/-- A question told, with its number. -/
def GP (w w' : World) (e : Ending) (kd pl nn wa : Int) (ws : List Int) (bs : List Bool) (code : Int) : Prop :=
  ∃ a1 a2 l1 l2 c1 c2, e = .returned (.tuple #[rq kd pl nn wa a1 a2 l1 l2 c1 c2, .int .i64 code]) ∧ l1 = ws.length ∧ l2 = bs.length ∧ OwnI w' w.heap.size (.slice a1 l1 c1) ws ∧ OwnB w' w.heap.size (.slice a2 l2 c2) bs ∧ Below w.heap.size w w'

theorem gp_zero {w w' : World} {c : Int} (hb : Below w.heap.size w w') : GP w w' (.returned (.tuple #[rq 0 0 0 0 none none 0 0 0 0, .int .i64 c])) 0 0 0 0 [] [] c :=
  ⟨none, none, 0, 0, 0, 0, rfl, rfl, rfl, ownI_nil _ _, ownB_nil _ _, hb⟩

theorem bel_set6 {B : Nat} {W w : World} {g : Nat} {v0 v1 v2 v3 v4 v5 : Value} (hb : Below B W w) (hg : B ≤ g) :
    Below B W ((((((w.setCell ⟨g, 0, none⟩ v0).setCell ⟨g, 1, none⟩ v1).setCell ⟨g, 2, none⟩ v2).setCell ⟨g, 3, none⟩ v3).setCell ⟨g, 4, none⟩ v4).setCell ⟨g, 5, none⟩ v5) :=
  (((((hb.setCell (p := ⟨g, 0, none⟩) hg _).setCell (p := ⟨g, 1, none⟩) hg _).setCell (p := ⟨g, 2, none⟩) hg _).setCell (p := ⟨g, 3, none⟩) hg _).setCell (p := ⟨g, 4, none⟩) hg _).setCell (p := ⟨g, 5, none⟩) hg _

theorem row_set6 {w : World} {base size n g : Nat} {e t : TypeId} {v v0 v1 v2 v3 v4 v5 : Value} {xs : List Value} (h : w.ownsRow base e size v n xs) (hb : ExB w g t) (ht : t ≠ e) :
    ((((((w.setCell ⟨g, 0, none⟩ v0).setCell ⟨g, 1, none⟩ v1).setCell ⟨g, 2, none⟩ v2).setCell ⟨g, 3, none⟩ v3).setCell ⟨g, 4, none⟩ v4).setCell ⟨g, 5, none⟩ v5).ownsRow base e size v n xs :=
  row_setE (row_setE (row_setE (row_setE (row_setE (row_setE h hb ht) (ExB.set hb) ht) (ExB.set (ExB.set hb)) ht) (ExB.set (ExB.set (ExB.set hb))) ht) (ExB.set (ExB.set (ExB.set (ExB.set hb)))) ht) (ExB.set (ExB.set (ExB.set (ExB.set (ExB.set hb))))) ht

end Go.Proofs.Ytmcednhinafpeaa

namespace Go.Proofs.Ytmcednhinafpeaa
open Go.RowKit

/-- Bit k of the bytes. -/
def ub (zs : List Int) (k : Nat) : Bool := zs.getD (k / 8) 0 / ((2 ^ (k % 8) : Nat) : Int) % 2 == 1

theorem and_one : ∀ y : Nat, y < 256 → bits .and .u8 (y : Int) 1 = (y : Int) % 2 := by decide +kernel

theorem pow_cast (k : Nat) : (2 : Int) ^ (k % 8) = ((2 ^ (k % 8) : Nat) : Int) := by simp

theorem ub_eq {zs : List Int} (hr : ∀ z ∈ zs, 0 ≤ z ∧ z ≤ 255) (k : Nat) : (bits BinOp.and IntKind.u8 (zs.getD (k / 8) 0 / 2 ^ (k % 8)) 1 == 1) = ub zs k := by
  have rg := get_range hr (k / 8)
  unfold ub
  rw [pow_cast]
  generalize zs.getD (k / 8) 0 = z at *
  obtain ⟨y, rfl⟩ := Int.eq_ofNat_of_zero_le rg.1
  have e : ((y : Int) / ((2 ^ (k % 8) : Nat) : Int)) = ((y / 2 ^ (k % 8) : Nat) : Int) := by simp
  have hle : y / 2 ^ (k % 8) < 256 := Nat.lt_of_le_of_lt (Nat.div_le_self _ _) (by omega)
  rw [e, and_one _ hle]

def ubs (zs : List Int) (x : Nat) : List Bool := (List.range x).map (ub zs)

theorem ubs_length (zs : List Int) (x : Nat) : (ubs zs x).length = x := by simp [ubs]

theorem ubs_succ (zs : List Int) (x : Nat) : ubs zs (x + 1) = ubs zs x ++ [ub zs x] := by simp [ubs, List.range_succ]

def okU (zs : List Int) (x : Int) : Bool := decide (0 ≤ x ∧ (zs.length : Int) = (x + 7) / 8 ∧ ∀ j, j < 8 * zs.length → x ≤ (j : Int) → ub zs j = false)

def outU (zs : List Int) (x : Int) : List Bool := if okU zs x = true then ubs zs x.toNat else []

/-- What UnpackBits ends with. -/
def UnEnds (zs : List Int) (x : Int) (w : World) (e : Ending) (w' : World) : Prop :=
  ∃ a c, e = .returned (.tuple #[.slice a (outU zs x).length c, .bool (okU zs x)]) ∧ OwnB w' w.heap.size (.slice a (outU zs x).length c) (outU zs x) ∧ Below w.heap.size w w'

theorem okU_no {zs : List Int} {x : Int} (h : ¬ (0 ≤ x ∧ (zs.length : Int) = (x + 7) / 8)) : okU zs x = false ∧ outU zs x = [] := by
  have e : okU zs x = false := by unfold okU; exact decide_eq_false (fun hh => h ⟨hh.1, hh.2.1⟩)
  exact ⟨e, by unfold outU; rw [if_neg (by simp [e])]⟩

theorem okU_bad {zs : List Int} {x : Int} (j : Nat) (h : j < 8 * zs.length) (hx : x ≤ (j : Int)) (hb : ub zs j = true) : okU zs x = false ∧ outU zs x = [] := by
  have e : okU zs x = false := by unfold okU; exact decide_eq_false (fun hh => by have := hh.2.2 j h hx; rw [hb] at this; cases this)
  exact ⟨e, by unfold outU; rw [if_neg (by simp [e])]⟩

theorem okU_yes {zs : List Int} {x : Nat} (h : (zs.length : Int) = ((x : Int) + 7) / 8) (hg : ∀ j, j < 8 * zs.length → x ≤ j → ub zs j = false) : okU zs (x : Int) = true ∧ outU zs (x : Int) = ubs zs x := by
  have e : okU zs (x : Int) = true := by unfold okU; exact decide_eq_true ⟨by omega, h, fun j h1 h2 => hg j h1 (by omega)⟩
  exact ⟨e, by unfold outU; rw [if_pos e]; simp⟩

theorem unEnds_no {zs : List Int} {x : Int} {w w' : World} {a : Option Addr} {c : Nat} (h : okU zs x = false ∧ outU zs x = []) (ho : OwnB w' w.heap.size (.slice a 0 c) []) (hb : Below w.heap.size w w') :
    UnEnds zs x w (.returned (.tuple #[.slice a 0 c, .bool false])) w' := by
  unfold UnEnds
  rw [h.1, h.2]
  exact ⟨a, c, rfl, ho, hb⟩

theorem OwnB.shape {w : World} {base : Nat} {v : Value} {zs : List Bool} (h : OwnB w base v zs) : ∃ a cap, v = .slice a zs.length cap := by
  obtain ⟨_, h2⟩ := h
  rcases h2 with ⟨h2, h3⟩ | ⟨g, cap', cur, hv, _⟩
  · exact ⟨none, 0, by rw [h3]; exact h2⟩
  · exact ⟨_, _, hv⟩

theorem unEnds_yes {zs : List Int} {x : Nat} {w w' : World} {v : Value} (h : okU zs (x : Int) = true ∧ outU zs (x : Int) = ubs zs x) (ho : OwnB w' w.heap.size v (ubs zs x)) (hb : Below w.heap.size w w') :
    UnEnds zs (x : Int) w (.returned (.tuple #[v, .bool true])) w' := by
  unfold UnEnds
  rw [h.1, h.2]
  obtain ⟨a, cap, rfl⟩ := ho.shape
  exact ⟨a, cap, rfl, ho, hb⟩

theorem ownB_empty {w wr : World} (hb : Below w.heap.size w wr) : OwnB (wr.alloc (.cells #[] 4)) w.heap.size (.slice (some ⟨wr.heap.size, 0, none⟩) 0 0) [] ∧ Below w.heap.size w (wr.alloc (.cells #[] 4)) :=
  ⟨World.ownsRow_lit (base := w.heap.size) (e := 4) (size := 1) wr #[] 0 hb.size (by unfold maxLen; omega) rfl, hb.alloc hb.size _⟩

theorem one_cellB {w1 : World} {x : Bool} : ∀ j u, ([Value.bool x])[j]? = some u → (w1.alloc (.cells #[.bool x] 4)).cell? ((⟨w1.heap.size, 0, none⟩ : Addr).add j) = some u := by
  intro j u hu
  match j, hu with
  | 0, hu => simp at hu; subst hu; simp [Addr.add]
  | k + 1, hu => simp at hu

theorem one_oneB (x : Bool) : ∀ u ∈ [Value.bool x], u.oneCell' = true := by
  intro u hu; simp at hu; subst hu; rfl

theorem one_stepB {W wr w1 : World} {o1 : Obj} {v v' : Value} {hs hs' : List Bool} {x y : Bool} (e : hs' = hs ++ [y]) (exy : x = y) (ho : OwnB wr W.heap.size v hs) (hb : Below W.heap.size W wr)
    (h1 : w1.ownsRow W.heap.size 4 1 v' (hs.length + 1) (hs.map Value.bool ++ [Value.bool x])) (g1 : (wr.alloc o1).grownBy w1 v.ownBlock) : OwnB w1 W.heap.size v' hs' ∧ Below W.heap.size W w1 := by
  subst exy
  rw [e]
  refine ⟨by simpa [OwnB] using h1, ?_⟩
  exact (hb.alloc hb.size o1).grown g1 (by have := hb.size; simp; omega) (fun k hk => (World.ownsRow.lt ho k hk).1)

end Go.Proofs.Ytmcednhinafpeaa

namespace Go.Proofs.Ytmcednhinafpeaa
open Go.RowKit

theorem top_bit : ∀ s : Nat, s < 8 → ∀ z : Nat, z < 256 → z / 2 ^ s ≠ 0 → ∃ r, r < 8 ∧ s ≤ r ∧ z / 2 ^ r % 2 = 1 := by decide +kernel

theorem left_bad {zs : List Int} (hr : ∀ z ∈ zs, 0 ≤ z ∧ z ≤ 255) {x : Nat} (hn : (zs.length : Int) = ((x : Int) + 7) / 8) (h8 : x % 8 ≠ 0) (hz : zs.getD (x / 8) 0 / ((2 ^ (x % 8) : Nat) : Int) ≠ 0) :
    okU zs (x : Int) = false ∧ outU zs (x : Int) = [] := by
  have rg := get_range hr (x / 8)
  obtain ⟨y, hy⟩ := Int.eq_ofNat_of_zero_le rg.1
  have e : ((y : Int) / ((2 ^ (x % 8) : Nat) : Int)) = ((y / 2 ^ (x % 8) : Nat) : Int) := by simp
  rw [hy, e] at hz
  obtain ⟨r, h1, h2, h3⟩ := top_bit (x % 8) (Nat.mod_lt _ (by decide)) y (by omega) (by omega)
  have ej1 : (8 * (x / 8) + r) / 8 = x / 8 := by omega
  have ej2 : (8 * (x / 8) + r) % 8 = r := by omega
  refine okU_bad (8 * (x / 8) + r) (by omega) (by omega) ?_
  unfold ub
  rw [ej1, ej2, hy]
  have e2 : ((y : Int) / ((2 ^ r : Nat) : Int)) = ((y / 2 ^ r : Nat) : Int) := by simp
  rw [e2]
  have e3 : ((y / 2 ^ r : Nat) : Int) % 2 = 1 := by omega
  rw [e3]; rfl

theorem left_good {zs : List Int} (hr : ∀ z ∈ zs, 0 ≤ z ∧ z ≤ 255) {x : Nat} (hn : (zs.length : Int) = ((x : Int) + 7) / 8) (h : x % 8 = 0 ∨ zs.getD (x / 8) 0 / ((2 ^ (x % 8) : Nat) : Int) = 0) :
    okU zs (x : Int) = true ∧ outU zs (x : Int) = ubs zs x := by
  refine okU_yes hn (fun j hj hx => ?_)
  by_cases h8 : x % 8 = 0
  · omega
  · have hz := h.resolve_left h8
    have rg := get_range hr (x / 8)
    obtain ⟨y, hy⟩ := Int.eq_ofNat_of_zero_le rg.1
    have e : ((y : Int) / ((2 ^ (x % 8) : Nat) : Int)) = ((y / 2 ^ (x % 8) : Nat) : Int) := by simp
    rw [hy, e] at hz
    have hp : 0 < 2 ^ (x % 8) := Nat.two_pow_pos _
    have hlt : y < 2 ^ (x % 8) := by
      have hz' : y / 2 ^ (x % 8) = 0 := by omega
      rcases (Nat.div_eq_zero_iff).1 hz' with h0 | h0
      · omega
      · exact h0
    have ej : j / 8 = x / 8 := by omega
    have hle : 2 ^ (x % 8) ≤ 2 ^ (j % 8) := Nat.pow_le_pow_right (by decide) (by omega)
    unfold ub
    rw [ej, hy]
    have e2 : ((y : Int) / ((2 ^ (j % 8) : Nat) : Int)) = ((y / 2 ^ (j % 8) : Nat) : Int) := by simp
    rw [e2, Nat.div_eq_of_lt (by omega)]; rfl

end Go.Proofs.Ytmcednhinafpeaa

namespace Go.Proofs.Ytmcednhinafpeaa
open Go.RowKit

set_option linter.unusedVariables false

set_option linter.unusedSimpArgs false

theorem nwo_next {w u w' : World} {e : Ending} {zs : List Int} (hb : Below w.heap.size w u) (h : NwO u w' e zs) : NwO w w' e zs := by
  obtain ⟨a, c, n, he, hn, ho, hb'⟩ := h
  exact ⟨a, c, n, he, hn, own_mono ho hb.size, bel_next hb hb'⟩

theorem putL6 (pl nn wa : Int) (ws : List Int) (bs : List Bool) (h : ws.length = 1) : putL 6 pl nn wa ws bs = 6 % 256 :: wbs [pl, ws.getD 0 0] := by
  match ws, h with
  | [x], _ => rfl

theorem putL22 (pl nn wa : Int) (ws : List Int) (bs : List Bool) (h : ws.length = 2) : putL 22 pl nn wa ws bs = 22 % 256 :: wbs [pl, ws.getD 0 0, ws.getD 1 0] := by
  match ws, h with
  | [x, y], _ => rfl

theorem putV_len (kd pl nn wa : Int) (ws : List Int) (bs : List Bool) (l1 l2 : Nat) (h1 : l1 = ws.length) (h2 : l2 = bs.length) : (putV (okR kd pl nn wa ws l1 l2) kd pl nn wa ws bs).length ≤ 300 := by
  cases hb : okR kd pl nn wa ws l1 l2
  · simp [putV]
  · obtain rfl | rfl | rfl | rfl | rfl | rfl | rfl | rfl | rfl | rfl := okR_kind hb
    · simp [putV, putL, wbs]
    · simp [putV, putL, wbs]
    · simp [putV, putL, wbs]
    · simp [putV, putL, wbs]
    · have hL : l2 = 1 := by rw [okI_5 _ _ _ _ _ _ h1] at hb; simp [rnB, inB] at hb; omega
      simp [putV, putL, wbs, wbs_length, packL_length]
    · have hL : l1 = 1 := by rw [okI_6 _ _ _ _ _ _ h1] at hb; simp [rnB, inB] at hb; omega
      simp [putV, putL, wbs, wbs_length, packL_length]; omega
    · have hL : 1 ≤ l2 ∧ l2 ≤ 1968 := by rw [okI_15 _ _ _ _ _ _ h1] at hb; simp [rnB, inB] at hb; omega
      simp [putV, putL, wbs, wbs_length, packL_length]; omega
    · have hL : 1 ≤ l1 ∧ l1 ≤ 123 := by rw [okI_16 _ _ _ _ _ _ h1] at hb; simp [rnB, inB] at hb; omega
      simp [putV, putL, wbs, wbs_length, packL_length]; omega
    · have hL : l1 = 2 := by rw [okI_22 _ _ _ _ _ _ h1] at hb; simp [rnB, inB] at hb; omega
      simp [putV, putL, wbs, wbs_length, packL_length]; omega
    · have hL : 1 ≤ l1 ∧ l1 ≤ 121 := by rw [okI_23 _ _ _ _ _ _ h1] at hb; simp [rnB, inB] at hb; omega
      simp [putV, putL, wbs, wbs_length, packL_length]; omega

theorem ne_types {w : World} {b1 b2 s1 s2 n1 n2 : Nat} {e1 e2 : TypeId} {v1 v2 : Value} {x1 x2 : List Value} (h1 : w.ownsRow b1 e1 s1 v1 n1 x1) (h2 : w.ownsRow b2 e2 s2 v2 n2 x2) (he : e1 ≠ e2) : v1.ownBlock = none ∨ v1.ownBlock ≠ v2.ownBlock := by
  obtain ⟨_, h1⟩ := h1
  rcases h1 with ⟨hv, _⟩ | ⟨g, cap, cur, hv, _, hh, _⟩
  · subst hv; exact .inl rfl
  · refine .inr ?_
    intro e
    exact row_noBlk (v := v2) (g := g) (t := e1) (cs := cur) h2 hh he (by rw [← e, hv]; rfl)

theorem Blk.row {w w' : World} {g : Nat} {t : TypeId} {cs : Array Value} {b s n : Nat} {e : TypeId} {v : Value} {x : List Value} (h : Blk w g t cs) (hr : w.ownsRow b e s v n x) (hg : w.grownBy w' v.ownBlock) (he : t ≠ e) : Blk w' g t cs :=
  h.grown hg (row_noBlk hr h he)

theorem below_rowG {B : Nat} {w0 w w' : World} {base size n : Nat} {e : TypeId} {v : Value} {xs : List Value} (hb : Below B w0 w) (h : w.ownsRow base e size v n xs) (hg : w.grownBy w' v.ownBlock) (h1 : B ≤ base) (h2 : B ≤ w.heap.size) : Below B w0 w' :=
  hb.grown hg h2 (fun k hk => by have := (World.ownsRow.lt h k hk).1; omega)

theorem eqB_ok (a a' : Option Addr) (n n' cap cap' : Nat) (zs : List Int) (w : World) (hn : n = zs.length) (hn' : n' = zs.length) (hs : Sl w a zs) (hs' : Sl w a' zs) (hl : zs.length ≤ 300) :
    Calls Try.prog 20 #[.slice a n cap, .slice a' n' cap'] w fun e w' => e = .returned (.bool true) ∧ Below w.heap.size w w' := by
  refine (eqByteS_true a a' n n' cap cap' zs w hn hn' hs hs' (by omega)).mono ?_
  rintro e w' ⟨rfl, k, rfl⟩
  exact ⟨rfl, drew_refl _ _⟩

end Go.Proofs.Ytmcednhinafpeaa

namespace Go.Proofs.Ytmcednhinafpeaa
open Go.RowKit

set_option linter.unusedVariables false

set_option linter.unusedSimpArgs false

/-- Bools in memory of the call's own, or none. -/
def NwB (w w' : World) (e : Ending) (bs : List Bool) : Prop := ∃ a c n, e = .returned (.slice a n c) ∧ n = bs.length ∧ OwnB w' w.heap.size (.slice a n c) bs ∧ Below w.heap.size w w'

theorem sl_drop {w : World} {b off : Nat} {zs : List Int} (h : Sl w (some ⟨b, off, none⟩) zs) (k : Nat) : Sl w (some ⟨b, off + k, none⟩) (zs.drop k) := by
  rcases h with h | ⟨b', off', e, hb, hc⟩
  · subst h; exact .inl (by simp)
  · simp at e
    obtain ⟨rfl, rfl⟩ := e
    refine .inr ⟨_, _, rfl, hb, fun i hi => ?_⟩
    simp at hi
    rw [show off + k + i = off + (k + i) from by omega, hc (k + i) (by omega)]
    simp [List.getD_eq_getElem?_getD]

theorem drop_rg {zs : List Int} (hr : ∀ z ∈ zs, 0 ≤ z ∧ z ≤ 255) (k : Nat) : ∀ z ∈ zs.drop k, 0 ≤ z ∧ z ≤ 255 := fun z hz => hr z (List.mem_of_mem_drop hz)

theorem ownB_lit1 (w : World) (x : Bool) (B g : Nat) (hB : B ≤ w.heap.size) (hg : g = w.heap.size) : OwnB (w.alloc (.cells #[.bool x] 4)) B (.slice (some ⟨g, 0, none⟩) 1 1) [x] := by
  subst hg
  exact ⟨rfl, .inr ⟨w.heap.size, 1, #[.bool x], rfl, hB, Blk.new w _ _, by simp, by unfold maxLen; omega, rfl, rfl⟩⟩

theorem ownI_lit1 (w : World) (x : Int) (B g : Nat) (hB : B ≤ w.heap.size) (hg : g = w.heap.size) : OwnI (w.alloc (.cells #[.int .i64 x] 3)) B (.slice (some ⟨g, 0, none⟩) 1 1) [x] := by
  subst hg
  exact ⟨rfl, .inr ⟨w.heap.size, 1, #[.int .i64 x], rfl, hB, Blk.new w _ _, by simp, by unfold maxLen; omega, rfl, rfl⟩⟩

theorem ownI_lit2 (w : World) (x y : Int) (B g : Nat) (hB : B ≤ w.heap.size) (hg : g = w.heap.size) : OwnI (w.alloc (.cells #[.int .i64 x, .int .i64 y] 3)) B (.slice (some ⟨g, 0, none⟩) 2 2) [x, y] := by
  subst hg
  exact ⟨rfl, .inr ⟨w.heap.size, 2, #[.int .i64 x, .int .i64 y], rfl, hB, Blk.new w _ _, by simp, by unfold maxLen; omega, rfl, rfl⟩⟩

theorem wbs_rg : ∀ (ws : List Int), ∀ z ∈ wbs ws, 0 ≤ z ∧ z ≤ 255
  | [], z, hz => by simp [wbs] at hz
  | x :: r, z, hz => by
    simp only [wbs, List.mem_cons] at hz
    rcases hz with rfl | rfl | hz
    · omega
    · omega
    · exact wbs_rg r z hz

theorem packL_rg (bs : List Bool) : ∀ z ∈ packL bs, 0 ≤ z ∧ z ≤ 255 := by
  intro z hz
  simp [packL] at hz
  obtain ⟨i, hi, rfl⟩ := hz
  obtain ⟨h0, h1, h2, h3⟩ := pv_bound bs bs.length i
  refine ⟨h0, ?_⟩
  rcases Nat.lt_trichotomy i (bs.length / 8) with e | e | e
  · have := h1 e; omega
  · have := h2 e
    have h4 : 2 ^ (bs.length % 8) ≤ 2 ^ 7 := Nat.pow_le_pow_right (by omega) (by omega)
    omega
  · have := h3 e; omega

theorem cons_rg {x : Int} {l : List Int} (hx : 0 ≤ x ∧ x ≤ 255) (hl : ∀ z ∈ l, 0 ≤ z ∧ z ≤ 255) : ∀ z ∈ x :: l, 0 ≤ z ∧ z ≤ 255 := by
  intro z hz
  simp only [List.mem_cons] at hz
  rcases hz with rfl | hz
  · exact hx
  · exact hl z hz

theorem app_rg {l m : List Int} (hl : ∀ z ∈ l, 0 ≤ z ∧ z ≤ 255) (hm : ∀ z ∈ m, 0 ≤ z ∧ z ≤ 255) : ∀ z ∈ l ++ m, 0 ≤ z ∧ z ≤ 255 := by
  intro z hz
  simp only [List.mem_append] at hz
  rcases hz with hz | hz
  · exact hl z hz
  · exact hm z hz

theorem one_rg (m : Nat) : ∀ z ∈ [((m : Nat) : Int) % 256], 0 ≤ z ∧ z ≤ 255 := by
  intro z hz
  simp at hz
  omega

def gW (k : Int) (zs : List Int) : List Int := if k = 6 then [wAt zs 3] else if k = 22 then [wAt zs 3, wAt zs 5] else if k = 16 then wsF zs 6 else if k = 23 then wsF zs 10 else []

def gB (k : Int) (zs : List Int) : List Bool := if k = 5 then [wAt zs 3 == 65280] else if k = 15 then outU (zs.drop 6) (wAt zs 3) else []

def gN (k : Int) (zs : List Int) : Int := if k = 5 ∨ k = 6 ∨ k = 15 ∨ k = 16 ∨ k = 22 then 0 else wAt zs 3

def gA (k : Int) (zs : List Int) : Int := if k = 23 then wAt zs 5 else 0

def gOk (k : Int) (zs : List Int) : Bool := okR k (wAt zs 1) (gN k zs) (gA k zs) (gW k zs) (gW k zs).length (gB k zs).length && decide (putL k (wAt zs 1) (gN k zs) (gA k zs) (gW k zs) (gB k zs) = zs)

/-- What GetReq ends with. -/
def GPz (zs : List Int) (w w' : World) (e : Ending) : Prop :=
  if zs.length = 0 ∨ kindB (zs.getD 0 0) = false then GP w w' e 0 0 0 0 [] [] 1
  else if gOk (zs.getD 0 0) zs = true then GP w w' e (zs.getD 0 0) (wAt zs 1) (gN (zs.getD 0 0) zs) (gA (zs.getD 0 0) zs) (gW (zs.getD 0 0) zs) (gB (zs.getD 0 0) zs) 0
  else GP w w' e 0 0 0 0 [] [] 3

theorem gpz_none {zs : List Int} {w w' : World} {e : Ending} (hc : zs.length = 0 ∨ kindB (zs.getD 0 0) = false) (h : GP w w' e 0 0 0 0 [] [] 1) : GPz zs w w' e := by
  unfold GPz; rw [if_pos hc]; exact h

theorem gpz_yes {zs : List Int} {w w' : World} {e : Ending} {k : Int} (hc : ¬ (zs.length = 0 ∨ kindB (zs.getD 0 0) = false)) (hk : zs.getD 0 0 = k) (hy : gOk k zs = true) (h : GP w w' e k (wAt zs 1) (gN k zs) (gA k zs) (gW k zs) (gB k zs) 0) : GPz zs w w' e := by
  unfold GPz; rw [if_neg hc, hk, if_pos hy]; exact h

theorem gpz_no {zs : List Int} {w w' : World} {e : Ending} {k : Int} (hc : ¬ (zs.length = 0 ∨ kindB (zs.getD 0 0) = false)) (hk : zs.getD 0 0 = k) (hy : ¬ gOk k zs = true) (h : GP w w' e 0 0 0 0 [] [] 3) : GPz zs w w' e := by
  unfold GPz; rw [if_neg hc, hk, if_neg hy]; exact h

theorem okg_1 (zs : List Int) : okR 1 (wAt zs 1) (gN 1 zs) (gA 1 zs) (gW 1 zs) (gW 1 zs).length (gB 1 zs).length = (rnB (wAt zs 1) (wAt zs 3) 2000) := by
  rw [okI_1 _ _ _ _ _ _ rfl]
  simp [gN, gA, gW, gB]

theorem putg_1 (zs : List Int) : putL 1 (wAt zs 1) (gN 1 zs) (gA 1 zs) (gW 1 zs) (gB 1 zs) = 1 % 256 :: wbs [wAt zs 1, wAt zs 3] := by
  rfl

theorem okg_2 (zs : List Int) : okR 2 (wAt zs 1) (gN 2 zs) (gA 2 zs) (gW 2 zs) (gW 2 zs).length (gB 2 zs).length = (rnB (wAt zs 1) (wAt zs 3) 2000) := by
  rw [okI_2 _ _ _ _ _ _ rfl]
  simp [gN, gA, gW, gB]

theorem putg_2 (zs : List Int) : putL 2 (wAt zs 1) (gN 2 zs) (gA 2 zs) (gW 2 zs) (gB 2 zs) = 2 % 256 :: wbs [wAt zs 1, wAt zs 3] := by
  rfl

theorem okg_3 (zs : List Int) : okR 3 (wAt zs 1) (gN 3 zs) (gA 3 zs) (gW 3 zs) (gW 3 zs).length (gB 3 zs).length = (rnB (wAt zs 1) (wAt zs 3) 125) := by
  rw [okI_3 _ _ _ _ _ _ rfl]
  simp [gN, gA, gW, gB]

theorem putg_3 (zs : List Int) : putL 3 (wAt zs 1) (gN 3 zs) (gA 3 zs) (gW 3 zs) (gB 3 zs) = 3 % 256 :: wbs [wAt zs 1, wAt zs 3] := by
  rfl

theorem okg_4 (zs : List Int) : okR 4 (wAt zs 1) (gN 4 zs) (gA 4 zs) (gW 4 zs) (gW 4 zs).length (gB 4 zs).length = (rnB (wAt zs 1) (wAt zs 3) 125) := by
  rw [okI_4 _ _ _ _ _ _ rfl]
  simp [gN, gA, gW, gB]

theorem putg_4 (zs : List Int) : putL 4 (wAt zs 1) (gN 4 zs) (gA 4 zs) (gW 4 zs) (gB 4 zs) = 4 % 256 :: wbs [wAt zs 1, wAt zs 3] := by
  rfl

theorem okg_5 (zs : List Int) : okR 5 (wAt zs 1) (gN 5 zs) (gA 5 zs) (gW 5 zs) (gW 5 zs).length (gB 5 zs).length = (inB (wAt zs 1) 0 65535) := by
  rw [okI_5 _ _ _ _ _ _ rfl]
  simp [gN, gA, gW, gB]

theorem putg_5 (zs : List Int) : putL 5 (wAt zs 1) (gN 5 zs) (gA 5 zs) (gW 5 zs) (gB 5 zs) = 5 % 256 :: wbs [wAt zs 1, bif wAt zs 3 == 65280 then 65280 else 0] := by
  rfl

theorem okg_6 (zs : List Int) : okR 6 (wAt zs 1) (gN 6 zs) (gA 6 zs) (gW 6 zs) (gW 6 zs).length (gB 6 zs).length = (inB (wAt zs 1) 0 65535 && inB (wAt zs 3) 0 65535) := by
  rw [okI_6 _ _ _ _ _ _ rfl]
  simp [gN, gA, gW, gB]

theorem putg_6 (zs : List Int) : putL 6 (wAt zs 1) (gN 6 zs) (gA 6 zs) (gW 6 zs) (gB 6 zs) = 6 % 256 :: wbs [wAt zs 1, wAt zs 3] := by
  rfl

theorem okg_15 (zs : List Int) : okR 15 (wAt zs 1) (gN 15 zs) (gA 15 zs) (gW 15 zs) (gW 15 zs).length (gB 15 zs).length = (rnB (wAt zs 1) ((outU (zs.drop 6) (wAt zs 3)).length : Int) 1968) := by
  rw [okI_15 _ _ _ _ _ _ rfl]
  simp [gN, gA, gW, gB]

theorem putg_15 (zs : List Int) : putL 15 (wAt zs 1) (gN 15 zs) (gA 15 zs) (gW 15 zs) (gB 15 zs) = (15 % 256 :: wbs [wAt zs 1, ((outU (zs.drop 6) (wAt zs 3)).length : Int)]) ++ [((((outU (zs.drop 6) (wAt zs 3)).length + 7) / 8 : Nat) : Int) % 256] ++ packL (outU (zs.drop 6) (wAt zs 3)) := by
  rfl

theorem okg_16 (zs : List Int) : okR 16 (wAt zs 1) (gN 16 zs) (gA 16 zs) (gW 16 zs) (gW 16 zs).length (gB 16 zs).length = (rnB (wAt zs 1) ((wsF zs 6).length : Int) 123 && allW (wsF zs 6)) := by
  rw [okI_16 _ _ _ _ _ _ rfl]
  simp [gN, gA, gW, gB]

theorem putg_16 (zs : List Int) : putL 16 (wAt zs 1) (gN 16 zs) (gA 16 zs) (gW 16 zs) (gB 16 zs) = (16 % 256 :: wbs [wAt zs 1, ((wsF zs 6).length : Int)]) ++ [((2 * (wsF zs 6).length : Nat) : Int) % 256] ++ wbs (wsF zs 6) := by
  rfl

theorem okg_22 (zs : List Int) : okR 22 (wAt zs 1) (gN 22 zs) (gA 22 zs) (gW 22 zs) (gW 22 zs).length (gB 22 zs).length = (inB (wAt zs 1) 0 65535 && (inB (wAt zs 3) 0 65535 && inB (wAt zs 5) 0 65535)) := by
  rw [okI_22 _ _ _ _ _ _ rfl]
  simp [gN, gA, gW, gB]

theorem putg_22 (zs : List Int) : putL 22 (wAt zs 1) (gN 22 zs) (gA 22 zs) (gW 22 zs) (gB 22 zs) = 22 % 256 :: wbs [wAt zs 1, wAt zs 3, wAt zs 5] := by
  rfl

theorem okg_23 (zs : List Int) : okR 23 (wAt zs 1) (gN 23 zs) (gA 23 zs) (gW 23 zs) (gW 23 zs).length (gB 23 zs).length = (rnB (wAt zs 1) (wAt zs 3) 125 && (rnB (wAt zs 5) ((wsF zs 10).length : Int) 121 && allW (wsF zs 10))) := by
  rw [okI_23 _ _ _ _ _ _ rfl]
  simp [gN, gA, gW, gB]

theorem putg_23 (zs : List Int) : putL 23 (wAt zs 1) (gN 23 zs) (gA 23 zs) (gW 23 zs) (gB 23 zs) = (23 % 256 :: wbs [wAt zs 1, wAt zs 3, wAt zs 5, ((wsF zs 10).length : Int)]) ++ [((2 * (wsF zs 10).length : Nat) : Int) % 256] ++ wbs (wsF zs 10) := by
  rfl

end Go.Proofs.Ytmcednhinafpeaa

namespace Go.Proofs.Ytmcednhinafpeaa
open Go.RowKit

set_option linter.unusedVariables false

set_option linter.unusedSimpArgs false

def sW (k : Int) (zs : List Int) : List Int := if k = 6 ∨ k = 22 then wsF zs 3 else if k = 16 then wsF zs 6 else if k = 23 then wsF zs 10 else []

def sB (k : Int) (zs : List Int) : List Bool := if k = 5 then [wAt zs 3 != 0] else if k = 15 then outU (zs.drop 6) (wAt zs 3) else []

def sOk (k : Int) (zs : List Int) : Bool := okR k (wAt zs 1) (gN k zs) (gA k zs) (sW k zs) (sW k zs).length (sB k zs).length && decide (putL k (wAt zs 1) (gN k zs) (gA k zs) (sW k zs) (sB k zs) = zs)

/-- What the model's GetReq ends with, of a kind. -/
def SPz (k : Int) (zs : List Int) (w w' : World) (e : Ending) : Prop :=
  if sOk k zs = true then GP w w' e k (wAt zs 1) (gN k zs) (gA k zs) (sW k zs) (sB k zs) 0 else GP w w' e 0 0 0 0 [] [] 3

theorem spz_yes {zs : List Int} {w w' : World} {e : Ending} {k : Int} (hy : sOk k zs = true) (h : GP w w' e k (wAt zs 1) (gN k zs) (gA k zs) (sW k zs) (sB k zs) 0) : SPz k zs w w' e := by
  unfold SPz; rw [if_pos hy]; exact h

theorem spz_no {zs : List Int} {w w' : World} {e : Ending} {k : Int} (hy : ¬ sOk k zs = true) (h : GP w w' e 0 0 0 0 [] [] 3) : SPz k zs w w' e := by
  unfold SPz; rw [if_neg hy]; exact h

theorem outU_le (ys : List Int) (x : Int) (h : x ≤ 65535) : (outU ys x).length ≤ 65535 := by
  unfold outU
  split
  · rw [ubs_length]; omega
  · simp

theorem outU_nil (x : Int) : outU [] x = [] := by
  unfold outU
  by_cases h : okU [] x = true
  · rw [if_pos h]
    unfold okU at h
    obtain ⟨h0, h1, _⟩ := of_decide_eq_true h
    have : x.toNat = 0 := by simp at h1; omega
    rw [this]; rfl
  · rw [if_neg h]

end Go.Proofs.Ytmcednhinafpeaa

namespace Go.Proofs.Ytmcednhinafpeaa
open Go.RowKit

set_option linter.unusedVariables false

set_option linter.unusedSimpArgs false

end Go.Proofs.Ytmcednhinafpeaa

namespace Go.Proofs.Ytmcednhinafpeaa
open Go.RowKit

set_option linter.unusedVariables false

set_option linter.unusedSimpArgs false

theorem spz_same {k : Int} {zs : List Int} {w w' : World} {e : Ending} (hc : ¬ (zs.length = 0 ∨ kindB (zs.getD 0 0) = false)) (hk : zs.getD 0 0 = k) (e1 : sW k zs = gW k zs) (e2 : sB k zs = gB k zs) (h : SPz k zs w w' e) : GPz zs w w' e := by
  have e3 : sOk k zs = gOk k zs := by unfold sOk gOk; rw [e1, e2]
  unfold SPz at h
  by_cases hy : sOk k zs = true
  · rw [if_pos hy, e1, e2] at h
    exact gpz_yes hc hk (e3 ▸ hy) h
  · rw [if_neg hy] at h
    exact gpz_no hc hk (e3 ▸ hy) h

theorem spz_none {k : Int} {zs : List Int} {w w' : World} {e : Ending} (hc : ¬ (zs.length = 0 ∨ kindB (zs.getD 0 0) = false)) (hk : zs.getD 0 0 = k) (e1 : ¬ sOk k zs = true) (e2 : ¬ gOk k zs = true) (h : SPz k zs w w' e) : GPz zs w w' e := by
  unfold SPz at h
  rw [if_neg e1] at h
  exact gpz_no hc hk e2 h

theorem ok_put {k : Int} {zs : List Int} (h : gOk k zs = true) : putL k (wAt zs 1) (gN k zs) (gA k zs) (gW k zs) (gB k zs) = zs := by
  unfold gOk at h
  simp at h
  exact h.2

theorem ok_puts {k : Int} {zs : List Int} (h : sOk k zs = true) : okR k (wAt zs 1) (gN k zs) (gA k zs) (sW k zs) (sW k zs).length (sB k zs).length = true ∧ putL k (wAt zs 1) (gN k zs) (gA k zs) (sW k zs) (sB k zs) = zs := by
  unfold sOk at h
  simp at h
  exact h

theorem spz_6 {zs : List Int} {w w' : World} {e : Ending} (hc : ¬ (zs.length = 0 ∨ kindB (zs.getD 0 0) = false)) (hk : zs.getD 0 0 = 6) (h : SPz 6 zs w w' e) : GPz zs w w' e := by
  by_cases hl : zs.length = 5
  · refine spz_same hc hk ?_ rfl h
    show wsF zs 3 = [wAt zs 3]
    unfold wsF
    rw [hl]
    rfl
  · refine spz_none hc hk (fun hy => hl ?_) (fun hy => hl ?_) h
    · obtain ⟨h1, h2⟩ := ok_puts hy
      rw [okI_6 _ _ _ _ _ _ rfl] at h1
      simp at h1
      rw [← h2]
      show (6 :: wbs (wAt zs 1 :: sW 6 zs)).length = 5
      simp [wbs, wbs_length]
      omega
    · rw [← ok_put hy]
      rfl

theorem spz_22 {zs : List Int} {w w' : World} {e : Ending} (hc : ¬ (zs.length = 0 ∨ kindB (zs.getD 0 0) = false)) (hk : zs.getD 0 0 = 22) (h : SPz 22 zs w w' e) : GPz zs w w' e := by
  by_cases hl : zs.length = 7
  · refine spz_same hc hk ?_ rfl h
    show wsF zs 3 = [wAt zs 3, wAt zs 5]
    unfold wsF
    rw [hl]
    rfl
  · refine spz_none hc hk (fun hy => hl ?_) (fun hy => hl ?_) h
    · obtain ⟨h1, h2⟩ := ok_puts hy
      rw [okI_22 _ _ _ _ _ _ rfl] at h1
      simp at h1
      rw [← h2]
      show (22 :: wbs (wAt zs 1 :: sW 22 zs)).length = 7
      simp [wbs, wbs_length]
      omega
    · rw [← ok_put hy]
      rfl

theorem put5_true {zs : List Int} {pl : Int} (h : 5 :: wbs [pl, 65280] = zs) : wAt zs 3 = 65280 := by
  subst h
  rfl

theorem put5_false {zs : List Int} {pl : Int} (h : 5 :: wbs [pl, 0] = zs) : wAt zs 3 = 0 := by
  subst h
  rfl

theorem spz_5 {zs : List Int} {w w' : World} {e : Ending} (hc : ¬ (zs.length = 0 ∨ kindB (zs.getD 0 0) = false)) (hk : zs.getD 0 0 = 5) (h : SPz 5 zs w w' e) : GPz zs w w' e := by
  by_cases h0 : wAt zs 3 = 0
  · refine spz_same hc hk rfl ?_ h
    show [wAt zs 3 != 0] = [wAt zs 3 == 65280]
    rw [h0]
    rfl
  · by_cases h1 : wAt zs 3 = 65280
    · refine spz_same hc hk rfl ?_ h
      show [wAt zs 3 != 0] = [wAt zs 3 == 65280]
      rw [h1]
      rfl
    · refine spz_none hc hk (fun hy => h1 ?_) (fun hy => h0 ?_) h
      · have h2 := (ok_puts hy).2
        have e1 : (wAt zs 3 != 0) = true := by simp [h0]
        have h3 : 5 :: wbs [wAt zs 1, bif (wAt zs 3 != 0) then 65280 else 0] = zs := h2
        rw [e1] at h3
        exact put5_true h3
      · have h2 := ok_put hy
        have e1 : (wAt zs 3 == 65280) = false := by simp [h1]
        have h3 : 5 :: wbs [wAt zs 1, bif (wAt zs 3 == 65280) then 65280 else 0] = zs := h2
        rw [e1] at h3
        exact put5_false h3

end Go.Proofs.Ytmcednhinafpeaa

namespace Go.Proofs.Ytmcednhinafpeaa
open Go.RowKit

set_option linter.unusedVariables false

set_option linter.unusedSimpArgs false

theorem toB_ok (a : Option Addr) (n cap : Nat) (zs : List Int) (w : World) (hn : n = zs.length) (hs : Sl w a zs) (hl : zs.length ≤ 2000000) :
    Calls Try.prog 19 #[.slice a n cap] w fun e w' => ∃ g, e = .returned (.slice (some ⟨g, 0, none⟩) n n) ∧ Own w' w.heap.size (.slice (some ⟨g, 0, none⟩) n n) zs ∧ Below w.heap.size w w' := by
  refine (toByteS_any a n cap zs w hn hs hl).mono ?_
  rintro e w' ⟨rfl, q, b⟩
  exact ⟨_, rfl, Own.ofRow q hn (Nat.le_refl _) (by unfold maxLen; omega), b⟩

theorem gW_le (k : Int) (zs : List Int) (hl : zs.length ≤ 1048576) : (gW k zs).length ≤ 2000000 := by
  unfold gW
  split
  · simp
  · split
    · simp
    · split
      · rw [wsF_length]; omega
      · split
        · rw [wsF_length]; omega
        · simp

theorem gB_le (k : Int) (zs : List Int) (hr : ∀ z ∈ zs, 0 ≤ z ∧ z ≤ 255) : (gB k zs).length ≤ 2000000 := by
  unfold gB
  split
  · simp
  · split
    · have h := outU_le (zs.drop 6) (wAt zs 3) (by have := wAt_bd hr 3; omega)
      omega
    · simp

theorem gpz_form (zs : List Int) (hl : zs.length ≤ 1048576) (hr : ∀ z ∈ zs, 0 ≤ z ∧ z ≤ 255) : ∃ kd pl nn wa ws bs code, (∀ w w' e, GPz zs w w' e → GP w w' e kd pl nn wa ws bs code) ∧ ws.length ≤ 2000000 ∧ bs.length ≤ 2000000 := by
  by_cases h1 : zs.length = 0 ∨ kindB (zs.getD 0 0) = false
  · refine ⟨0, 0, 0, 0, [], [], 1, fun w w' e h => ?_, by simp, by simp⟩
    unfold GPz at h; rw [if_pos h1] at h; exact h
  · by_cases h2 : gOk (zs.getD 0 0) zs = true
    · refine ⟨zs.getD 0 0, wAt zs 1, gN (zs.getD 0 0) zs, gA (zs.getD 0 0) zs, gW (zs.getD 0 0) zs, gB (zs.getD 0 0) zs, 0, fun w w' e h => ?_, ?_, ?_⟩
      · unfold GPz at h; rw [if_neg h1, if_pos h2] at h; exact h
      · exact gW_le _ zs hl
      · exact gB_le _ zs hr
    · refine ⟨0, 0, 0, 0, [], [], 3, fun w w' e h => ?_, by simp, by simp⟩
      unfold GPz at h; rw [if_neg h1, if_neg h2] at h; exact h

theorem neq_lt {v1 v2 : Value} {B : Nat} (h1 : ∀ k, v1.ownBlock = some k → k < B) (h2 : ∀ k, v2.ownBlock = some k → B ≤ k) : v1.ownBlock = none ∨ v1.ownBlock ≠ v2.ownBlock := by
  cases e : v1.ownBlock with
  | none => exact .inl rfl
  | some k =>
    refine .inr (fun e2 => ?_)
    have a := h1 k e
    have b := h2 k e2.symm
    omega

theorem eqB_any (a a' : Option Addr) (n n' cap cap' : Nat) (zs : List Int) (w : World) (hn : n = zs.length) (hn' : n' = zs.length) (hs : Sl w a zs) (hs' : Sl w a' zs) (hl : zs.length ≤ 2000000) :
    Calls Try.prog 20 #[.slice a n cap, .slice a' n' cap'] w fun e w' => e = .returned (.bool true) ∧ Below w.heap.size w w' := by
  refine (eqByteS_true a a' n n' cap cap' zs w hn hn' hs hs' hl).mono ?_
  rintro e w' ⟨rfl, k, rfl⟩
  exact ⟨rfl, drew_refl _ _⟩

end Go.Proofs.Ytmcednhinafpeaa

namespace Go.Proofs.Ytmcednhinafpeaa
open Go.RowKit

set_option linter.unusedVariables false

set_option linter.unusedSimpArgs false

set_option maxHeartbeats 1000000 in
theorem l1Once_any (w0 : World) (a : Option Addr) (cap : Nat) (zs : List Int) (w : World) (g : Nat) (n : Int) (hn : 1 ≤ n) (hC : Cur w0 a cap zs w g) :
    Calls Try.prog 61 #[.pointer (some ⟨g, 0, none⟩), .int .i64 n] w fun e w' => ∃ t : Bool, e = .returned (.bool t) ∧ Cur w0 a cap zs w' g ∧ w.grownBy w' (some g) := by
  go_enter Try.func61, Try.ntmps61
  go_wp2_with fail
  refine (l1Below_any w0 a cap zs _ g n hn hC).mono ?_
  rintro e w1 ⟨x, rfl, _, C1, g1⟩
  have R : Hid (Cur w0 a cap zs w1 g ∧ w.grownBy w1 (some g)) := ⟨C1, g1⟩
  clear hC C1 g1
  go_wp2
  go_ret
  exact ⟨_, rfl, R.out⟩

/-- What drawing bits ends with. -/
def DrawnBits (w0 : World) (a : Option Addr) (cap : Nat) (zs : List Int) (w : World) (g n : Nat) (e : Ending) (w' : World) : Prop :=
  ∃ (ad : Addr) (c : Nat) (bs : List Bool), e = .returned (.slice (some ad) n c) ∧ n = bs.length ∧ OwnB w' w.heap.size (.slice (some ad) n c) bs ∧ Cur w0 a cap zs w' g ∧ w.grownBy w' (some g)

theorem ownB_some {w : World} {base : Nat} {v : Value} {bs : List Bool} (h : OwnB w base v bs) (h0 : 0 < bs.length) : ∃ ad c, v = .slice (some ad) bs.length c := by
  obtain ⟨_, h2⟩ := h
  rcases h2 with ⟨h2, h3⟩ | ⟨g, cap', cur, hv, _⟩
  · omega
  · exact ⟨_, _, hv⟩

theorem bits_step {w0 w wr w1 w2 : World} {a : Option Addr} {cap g : Nat} {zs : List Int} {bs : List Bool} {v v' : Value} {o1 : Obj} {x : Bool} (hg : g < w.heap.size) (gr : w.grownBy wr (some g)) (ho : OwnB wr w.heap.size v bs) (C1 : Cur w0 a cap zs w1 g) (g1 : wr.grownBy w1 (some g))
    (h2 : w2.ownsRow w.heap.size 4 1 v' (bs.length + 1) (bs.map Value.bool ++ [Value.bool x])) (g2 : (w1.alloc o1).grownBy w2 v.ownBlock) (hlo : w0.heap.size ≤ g) :
    OwnB w2 w.heap.size v' (bs ++ [x]) ∧ Cur w0 a cap zs w2 g ∧ w.grownBy w2 (some g) := by
  have hv : ∀ k, v.ownBlock = some k → w.heap.size ≤ k := fun k hk => (World.ownsRow.lt ho k hk).1
  refine ⟨by simpa [OwnB] using h2, (C1.alloc o1).grown g2 (fun e => by have := hv g e.symm; omega) (fun k hk => by have := hv k hk; omega), ?_⟩
  have gg := grown_trans gr g1
  refine ⟨g2.os.trans gg.os, g2.tape.trans gg.tape, g2.output.trans gg.output, ?_, fun k hk hne => ?_⟩
  · have h := g2.size
    have h' := gg.size
    simp at h
    omega
  · rw [g2.block k (by have := gg.size; simp; omega) (fun e => by have := hv k e.symm; omega)]
    rw [Below.heap_alloc w1 o1 k (by have := gg.size; omega)]
    exact gg.block k hk hne

set_option maxHeartbeats 2000000 in
theorem l2Bits_any (w0 : World) (a : Option Addr) (cap : Nat) (zs : List Int) (w : World) (g : Nat) (n : Nat) (hn : n ≤ 1000000) (hC : Cur w0 a cap zs w g) :
    Calls Try.prog 75 #[.pointer (some ⟨g, 0, none⟩), .int .i64 n] w fun e w' => DrawnBits w0 a cap zs w g n e w' := by
  obtain ⟨i0, hi, hz0, hz1, hz2⟩ := info_parts Try.info4
  have hml : n + 2 ≤ maxLen := by unfold maxLen; omega
  have o0 := World.ownsRow_lit (base := w.heap.size) (e := 4) (size := 1) w #[] 0 (Nat.le_refl _) (by omega) rfl
  have hg := hC.hi
  have hlo := hC.lo
  have C0 := hC.alloc (.cells #[] 4)
  have G0 : w.grownBy (w.alloc (.cells #[] 4)) (some g) := World.grownBy_alloc _ _ _
  clear hC
  go_enter Try.func75, Try.ntmps75
  go_wp2
  go_loopw [5, 6] (fun v i wr => ∃ (k : Nat) (ad : Addr) (c : Nat) (bs : List Bool), k ≤ n ∧ i = .int .i64 k ∧ v = .slice (some ad) k c ∧ bs.length = k ∧ OwnB wr w.heap.size v bs ∧ Cur w0 a cap zs wr g ∧ w.grownBy wr (some g)) (fun _ i _ => n - (intOf i).toNat)
  case atStart => exact ⟨0, _, _, [], Nat.zero_le _, rfl, rfl, rfl, o0, C0, G0⟩
  case round =>
    obtain ⟨k, ad, c, bs, hk, rfl, rfl, hb, ho, C, G⟩ := hrel
    by_cases hlt : k < n
    · have hi' : (k : Int) < (n : Int) := by omega
      have HB : Hid (bs.length = k) := hb
      clear o0 C0 G0 hb
      go_wp2_with fail
      refine (l1Once_any w0 a cap zs _ g _ (by decide) C).mono ?_
      rintro e w1 ⟨x, rfl, C1, g1⟩
      have ho1 : w1.ownsRow w.heap.size 4 1 (.slice (some ad) k c) bs.length (bs.map Value.bool) := ho.kept g1 (.inr (fun e => by have := (World.ownsRow.lt ho g e).1; omega))
      have hm1 : bs.length + 1 ≤ maxLen := by rw [HB.out]; omega
      have hm2 : (bs.length + 1) * 1 ≤ 140737488355328 := by rw [HB.out]; omega
      have hsz : w.heap.size ≤ w1.heap.size := Nat.le_trans G.size g1.size
      go_wp2_with (at_builtin; refine wpList_append_own _ rfl (.tmp 13) (.tmp 16) 76 rfl w.heap.size 4 i0 (.bool false) 1 1 Try.underlying76 hi hz0 hz1 hz2 rfl (by decide) (.slice (some ad) k c) bs.length (bs.map Value.bool) rfl (ho1.alloc _) ⟨w1.heap.size, 0, none⟩ 1 1 [.bool x] rfl (by simp) one_cellB (one_oneB _) hm1 hm2 (by simp; omega) ?_; intro v' w2 o2 g2 _; have R := bits_step hg G ho C1 g1 o2 g2 hlo; clear ho ho1 o2 g2)
      obtain ⟨R1, R2, R3⟩ := R
      obtain ⟨ad', c', hv⟩ := ownB_some R1 (by simp)
      have hv' : Hid (v' = .slice (some ad') (k + 1) c') := by
        show v' = _
        rw [hv, List.length_append, HB.out]; rfl
      clear hv
      go_roundw
      case rel => exact ⟨k + 1, ad', c', bs ++ [x], by omega, by go_num, hv'.out, by rw [List.length_append, HB.out]; rfl, R1, R2, R3⟩
      case measure => simp [intOf]; omega
    · obtain rfl : k = n := by omega
      clear o0 C0 G0
      go_wp2
      go_ret
      exact ⟨ad, c, bs, rfl, hb.symm, ho, C, G⟩

theorem ints_lit (w : World) (l : List Int) (t : TypeId) : Ints (w.alloc (.cells (l.map (Value.int .i64)).toArray t)) ⟨w.heap.size, 0, none⟩ l :=
  ⟨w.heap.size, 0, rfl, by simp, fun i hi => by simp [hi]⟩

/-- What drawing words ends with. -/
def DrawnInts (w0 : World) (a : Option Addr) (cap : Nat) (zs : List Int) (w : World) (g n : Nat) (e : Ending) (w' : World) : Prop :=
  ∃ (ad : Option Addr) (c : Nat) (ws : List Int), e = .returned (.slice ad n c) ∧ n = ws.length ∧ OwnI w' w.heap.size (.slice ad n c) ws ∧ Cur w0 a cap zs w' g ∧ w.grownBy w' (some g)

theorem ints_step {w0 w wr w1 w2 : World} {a : Option Addr} {cap g : Nat} {zs : List Int} {ws : List Int} {v v' : Value} {o1 : Obj} {x : Int} (hg : g < w.heap.size) (gr : w.grownBy wr (some g)) (ho : OwnI wr w.heap.size v ws) (C1 : Cur w0 a cap zs w1 g) (g1 : wr.grownBy w1 (some g))
    (h2 : OwnI w2 w.heap.size v' (ws ++ [x])) (g2 : (w1.alloc o1).grownBy w2 v.ownBlock) (hlo : w0.heap.size ≤ g) :
    OwnI w2 w.heap.size v' (ws ++ [x]) ∧ Cur w0 a cap zs w2 g ∧ w.grownBy w2 (some g) := by
  have hv : ∀ k, v.ownBlock = some k → w.heap.size ≤ k := fun k hk => (World.ownsRow.lt ho k hk).1
  refine ⟨h2, (C1.alloc o1).grown g2 (fun e => by have := hv g e.symm; omega) (fun k hk => by have := hv k hk; omega), ?_⟩
  have gg := grown_trans gr g1
  refine ⟨g2.os.trans gg.os, g2.tape.trans gg.tape, g2.output.trans gg.output, ?_, fun k hk hne => ?_⟩
  · have h := g2.size
    have h' := gg.size
    simp at h
    omega
  · rw [g2.block k (by have := gg.size; simp; omega) (fun e => by have := hv k e.symm; omega)]
    rw [Below.heap_alloc w1 o1 k (by have := gg.size; omega)]
    exact gg.block k hk hne

set_option maxHeartbeats 4000000 in
theorem l3List_any (w0 : World) (a : Option Addr) (cap : Nat) (zs : List Int) (w : World) (g : Nat) (n : Nat) (hn : n ≤ 1000) (hC : Cur w0 a cap zs w g) :
    Calls Try.prog 76 #[.pointer (some ⟨g, 0, none⟩), .int .i64 n] w fun e w' => DrawnInts w0 a cap zs w g n e w' := by
  have o0 : OwnI (w.alloc (.cells #[] 3)) w.heap.size (.slice (some ⟨w.heap.size, 0, none⟩) 0 0) [] := ⟨rfl, .inr ⟨w.heap.size, 0, #[], rfl, Nat.le_refl _, Blk.new w #[] 3, by simp, by simp, rfl, rfl⟩⟩
  have hg := hC.hi
  have hlo := hC.lo
  have C0 := hC.alloc (.cells #[] 3)
  have G0 : w.grownBy (w.alloc (.cells #[] 3)) (some g) := World.grownBy_alloc _ _ _
  clear hC
  go_enter Try.func76, Try.ntmps76
  go_wp2
  go_loopw [5, 6] (fun v i wr => ∃ (k : Nat) (ad : Option Addr) (c : Nat) (ws : List Int), k ≤ n ∧ i = .int .i64 k ∧ v = .slice ad k c ∧ ws.length = k ∧ OwnI wr w.heap.size v ws ∧ Cur w0 a cap zs wr g ∧ w.grownBy wr (some g)) (fun _ i _ => n - (intOf i).toNat)
  case atStart => exact ⟨0, _, _, [], Nat.zero_le _, rfl, rfl, rfl, o0, C0, G0⟩
  case round =>
    obtain ⟨k, ad, c, ws, hk, rfl, rfl, hb, ho, C, G⟩ := hrel
    by_cases hlt : k < n
    · have hi' : (k : Int) < (n : Int) := by omega
      have HB : Hid (ws.length = k) := hb
      clear o0 C0 G0 hb
      go_wp2_with fail
      refine (l1Below_any w0 a cap zs _ g _ (by decide) C).mono ?_
      rintro e w1 ⟨x, rfl, _, C1, g1⟩
      have I1 := ints_lit w1 [0, 1, 65535, 256, x] 3
      have C1' := C1.alloc (.cells ([0, 1, 65535, 256, x].map (Value.int .i64)).toArray 3)
      have g1' : wr.grownBy (w1.alloc (.cells ([0, 1, 65535, 256, x].map (Value.int .i64)).toArray 3)) (some g) := grown_trans g1 (World.grownBy_alloc _ _ _)
      have hneg : w1.heap.size ≠ g := by have := C1.hi; omega
      clear C1 g1
      go_wp2_with fail
      refine (l1Int_any w0 a cap zs _ g ⟨w1.heap.size, 0, none⟩ 5 5 [0, 1, 65535, 256, x] rfl (by omega) (by omega) I1 hneg C1').mono ?_
      rintro e w2 ⟨y, rfl, _, C2, g2⟩
      have gg := grown_trans g1' g2
      have ho1 : OwnI w2 w.heap.size (.slice ad k c) ws := ho.kept gg (.inr (fun e => by have := (World.ownsRow.lt ho g e).1; omega))
      have HLn : Hid (ws.length + 1 ≤ 4000000) := by show ws.length + 1 ≤ 4000000; rw [HB.out]; omega
      have hsz : w.heap.size ≤ w2.heap.size := Nat.le_trans G.size gg.size
      clear I1 C1' g1' g2
      go_wp2_with (at_builtin; refine wpList_appI rfl (.tmp 13) (.tmp 19) rfl w.heap.size (.slice ad k c) ws rfl (ho1.below (bel_alloc _ _)) ⟨w2.heap.size, 0, none⟩ 1 1 [y] rfl rfl (lit_slI1' _ _ rfl) HLn.out (by simp; omega) ?_; intro v' w3 o3 g3)
      obtain ⟨R1, R2, R3⟩ := ints_step hg G ho C2 gg o3 g3 hlo
      obtain ⟨ad', c', n', hv, hn'⟩ := ownI_shape R1
      have en : n' = k + 1 := by rw [hn', List.length_append, HB.out]; rfl
      subst en
      subst hv
      clear o3 g3 ho1 ho C2 gg
      go_roundw
      case rel => exact ⟨k + 1, ad', c', ws ++ [y], by omega, by go_num, rfl, by rw [List.length_append, HB.out]; rfl, R1, R2, R3⟩
      case measure => simp [intOf]; omega
    · obtain rfl : k = n := by omega
      clear o0 C0 G0
      go_wp2
      go_ret
      exact ⟨ad, c, ws, rfl, hb.symm, ho, C, G⟩

end Go.Proofs.Ytmcednhinafpeaa

namespace Go.Proofs.Ytmcednhinafpeaa
open Go.RowKit

set_option linter.unusedVariables false

set_option linter.unusedSimpArgs false

theorem add_bitQ : ∀ s : Nat, s < 8 → ∀ x : Nat, x < 2 ^ s → ∀ r : Nat, r < 8 → (x + 2 ^ s) / 2 ^ r % 2 = if r = s then 1 else x / 2 ^ r % 2 := by decide +kernel

theorem pv_bitQ (bs : List Bool) (k : Nat) : ∀ K, (pv bs K (k / 8) / ((2 ^ (k % 8) : Nat) : Int)) % 2 = if k < K ∧ bs.getD k false = true then 1 else 0
  | 0 => by simp [pv]
  | K + 1 => by
    have ih := pv_bitQ bs k K
    rw [pv]
    by_cases h : K / 8 = k / 8 ∧ bs.getD K false = true
    · rw [if_pos h]
      obtain ⟨h0, _, h2, _⟩ := pv_bound bs K (k / 8)
      have hlt := h2 h.1.symm
      obtain ⟨x, hx⟩ := Int.eq_ofNat_of_zero_le h0
      rw [hx] at ih hlt ⊢
      have hxs : x < 2 ^ (K % 8) := by omega
      have e1 : ((x : Int) + ((2 ^ (K % 8) : Nat) : Int)) / ((2 ^ (k % 8) : Nat) : Int) % 2 = (((x + 2 ^ (K % 8)) / 2 ^ (k % 8) % 2 : Nat) : Int) := by simp
      have e2 : ((x : Int) / ((2 ^ (k % 8) : Nat) : Int)) % 2 = ((x / 2 ^ (k % 8) % 2 : Nat) : Int) := by simp
      rw [e1, add_bitQ (K % 8) (Nat.mod_lt _ (by decide)) x hxs (k % 8) (Nat.mod_lt _ (by decide))]
      rw [e2] at ih
      by_cases e : k = K
      · subst e
        rw [if_pos rfl, if_pos ⟨by omega, h.2⟩]; rfl
      · rw [if_neg (by omega), ih]
        by_cases hk : k < K ∧ bs.getD k false = true
        · rw [if_pos hk, if_pos ⟨by omega, hk.2⟩]
        · rw [if_neg hk, if_neg (fun hh => hk ⟨by omega, hh.2⟩)]
    · rw [if_neg h, ih]
      by_cases hk : k < K ∧ bs.getD k false = true
      · rw [if_pos hk, if_pos ⟨by omega, hk.2⟩]
      · rw [if_neg hk, if_neg (fun hh => hk ⟨by
          have := hh.1
          by_cases e : k = K
          · subst e; exact absurd ⟨rfl, hh.2⟩ h
          · omega, hh.2⟩)]

theorem ub_packQ (bs : List Bool) (k : Nat) (hk : k / 8 < (bs.length + 7) / 8) : ub (packL bs) k = (decide (k < bs.length) && bs.getD k false) := by
  unfold ub
  have e : (packL bs).getD (k / 8) 0 = pv bs bs.length (k / 8) := by simp [packL, hk]
  rw [e, pv_bitQ]
  by_cases h : k < bs.length ∧ bs.getD k false = true
  · rw [if_pos h, decide_eq_true h.1, h.2]; rfl
  · rw [if_neg h]
    by_cases h1 : k < bs.length
    · have : bs.getD k false = false := by
        cases hh : bs.getD k false with
        | false => rfl
        | true => exact absurd ⟨h1, hh⟩ h
      rw [this]; simp
    · rw [decide_eq_false h1]; rfl

theorem unpackQ (bs : List Bool) (n : Nat) (hn : n = bs.length) : okU (packL bs) (n : Int) = true ∧ outU (packL bs) (n : Int) = bs := by
  have Y := okU_yes (zs := packL bs) (x := n) (by rw [packL_length]; omega) (fun j hj hx => by
    rw [packL_length] at hj
    rw [ub_packQ bs j (by omega), decide_eq_false (by omega)]; rfl)
  refine ⟨Y.1, ?_⟩
  rw [Y.2]
  apply List.ext_getElem?
  intro i
  by_cases hi : i < bs.length
  · have e : (ubs (packL bs) n)[i]? = some (ub (packL bs) i) := by simp [ubs, hn, hi]
    rw [e, ub_packQ bs i (by omega), decide_eq_true hi]
    simp [hi]
  · rw [List.getElem?_eq_none (by rw [ubs_length]; omega), List.getElem?_eq_none (by omega)]

theorem wAt_here (pre : List Int) (x y : Int) (r : List Int) : wAt (pre ++ x :: y :: r) pre.length = x * 256 + y := by
  unfold wAt
  rw [if_pos (by simp)]
  simp [List.getD_eq_getElem?_getD]

theorem word_back (x : Int) (h : 0 ≤ x ∧ x ≤ 65535) : x / 256 % 256 * 256 + x % 256 = x := by omega

theorem wsT_here (ws : List Int) (hw : ∀ k, k < ws.length → 0 ≤ ws.getD k 0 ∧ ws.getD k 0 ≤ 65535) : ∀ (pre : List Int), wsT (pre ++ wbs ws) pre.length ws.length = ws := by
  induction ws with
  | nil => intro pre; rfl
  | cons x r ih =>
    intro pre
    have hx := hw 0 (by simp)
    simp at hx
    have e := ih (fun k hk => by have := hw (k + 1) (by simp; omega); simpa using this) (pre ++ [x / 256 % 256, x % 256])
    have e0 : wAt (pre ++ wbs (x :: r)) pre.length = x := by
      rw [show wbs (x :: r) = x / 256 % 256 :: x % 256 :: wbs r from rfl, wAt_here, word_back x hx]
    have e1 : pre ++ [x / 256 % 256, x % 256] ++ wbs r = pre ++ wbs (x :: r) := by simp [wbs]
    rw [e1] at e
    unfold wsT at e ⊢
    rw [show (x :: r).length = r.length + 1 from rfl, List.range_succ_eq_map, List.map_cons, List.map_map]
    rw [show pre.length + 2 * 0 = pre.length from rfl, e0]
    congr 1
    refine (List.map_congr_left ?_).trans e
    intro k _
    show wAt (pre ++ wbs (x :: r)) (pre.length + 2 * (k + 1)) = wAt (pre ++ wbs (x :: r)) ((pre ++ [x / 256 % 256, x % 256]).length + 2 * k)
    rw [List.length_append]
    congr 1
    simp
    omega

theorem wsF_here (pre ws : List Int) (f : Nat) (hf : f = pre.length) (hw : allW ws = true) : wsF (pre ++ wbs ws) f = ws := by
  subst hf
  have h := wsT_here ws (of_decide_eq_true hw) pre
  unfold wsF
  rw [show ((pre ++ wbs ws).length - pre.length) / 2 = ws.length from by simp [wbs_length]]
  exact h

/-- The words of a question come back. -/
def Back (k pl nn wa : Int) (ws : List Int) (bs : List Bool) : Prop :=
  (putL k pl nn wa ws bs).getD 0 0 = k ∧ wAt (putL k pl nn wa ws bs) 1 = pl ∧ gN k (putL k pl nn wa ws bs) = nn ∧ gA k (putL k pl nn wa ws bs) = wa ∧ gW k (putL k pl nn wa ws bs) = ws ∧ gB k (putL k pl nn wa ws bs) = bs

theorem back_1 (pl nn wa : Int) (ws : List Int) (bs : List Bool) (hb : okR 1 pl nn wa ws ws.length bs.length = true) : Back 1 pl nn wa ws bs := by
  rw [okI_1 _ _ _ _ _ _ rfl] at hb
  simp [rnB] at hb
  obtain ⟨hr, hwa, hl1, hl2⟩ := hb
  subst hwa hl1 hl2
  refine ⟨rfl, ?_, ?_, rfl, rfl, rfl⟩
  · exact (wAt_here [1] _ _ _).trans (word_back pl (by omega))
  · exact (wAt_here [1, pl / 256 % 256, pl % 256] _ _ _).trans (word_back nn (by omega))

theorem back_2 (pl nn wa : Int) (ws : List Int) (bs : List Bool) (hb : okR 2 pl nn wa ws ws.length bs.length = true) : Back 2 pl nn wa ws bs := by
  rw [okI_2 _ _ _ _ _ _ rfl] at hb
  simp [rnB] at hb
  obtain ⟨hr, hwa, hl1, hl2⟩ := hb
  subst hwa hl1 hl2
  refine ⟨rfl, ?_, ?_, rfl, rfl, rfl⟩
  · exact (wAt_here [2] _ _ _).trans (word_back pl (by omega))
  · exact (wAt_here [2, pl / 256 % 256, pl % 256] _ _ _).trans (word_back nn (by omega))

theorem back_3 (pl nn wa : Int) (ws : List Int) (bs : List Bool) (hb : okR 3 pl nn wa ws ws.length bs.length = true) : Back 3 pl nn wa ws bs := by
  rw [okI_3 _ _ _ _ _ _ rfl] at hb
  simp [rnB] at hb
  obtain ⟨hr, hwa, hl1, hl2⟩ := hb
  subst hwa hl1 hl2
  refine ⟨rfl, ?_, ?_, rfl, rfl, rfl⟩
  · exact (wAt_here [3] _ _ _).trans (word_back pl (by omega))
  · exact (wAt_here [3, pl / 256 % 256, pl % 256] _ _ _).trans (word_back nn (by omega))

theorem back_4 (pl nn wa : Int) (ws : List Int) (bs : List Bool) (hb : okR 4 pl nn wa ws ws.length bs.length = true) : Back 4 pl nn wa ws bs := by
  rw [okI_4 _ _ _ _ _ _ rfl] at hb
  simp [rnB] at hb
  obtain ⟨hr, hwa, hl1, hl2⟩ := hb
  subst hwa hl1 hl2
  refine ⟨rfl, ?_, ?_, rfl, rfl, rfl⟩
  · exact (wAt_here [4] _ _ _).trans (word_back pl (by omega))
  · exact (wAt_here [4, pl / 256 % 256, pl % 256] _ _ _).trans (word_back nn (by omega))

theorem back_5 (pl nn wa : Int) (ws : List Int) (bs : List Bool) (hb : okR 5 pl nn wa ws ws.length bs.length = true) : Back 5 pl nn wa ws bs := by
  rw [okI_5 _ _ _ _ _ _ rfl] at hb
  simp [inB] at hb
  obtain ⟨hl2, hp, hnn, hwa, hl1⟩ := hb
  subst hnn hwa hl1
  match bs, hl2 with
  | [x], _ =>
    have e3 : wAt (putL 5 pl 0 0 [] [x]) 3 = bif x then 65280 else 0 := by
      cases x
      · exact (wAt_here [5, pl / 256 % 256, pl % 256] _ _ _)
      · exact (wAt_here [5, pl / 256 % 256, pl % 256] _ _ _)
    refine ⟨rfl, ?_, rfl, rfl, rfl, ?_⟩
    · exact (wAt_here [5] _ _ _).trans (word_back pl (by omega))
    · show [wAt (putL 5 pl 0 0 [] [x]) 3 == 65280] = [x]
      rw [e3]
      cases x <;> rfl

theorem back_6 (pl nn wa : Int) (ws : List Int) (bs : List Bool) (hb : okR 6 pl nn wa ws ws.length bs.length = true) : Back 6 pl nn wa ws bs := by
  rw [okI_6 _ _ _ _ _ _ rfl] at hb
  simp [inB] at hb
  obtain ⟨hl1, hp, hx, hnn, hwa, hl2⟩ := hb
  subst hnn hwa hl2
  match ws, hl1, hx with
  | [x], _, hx =>
    simp at hx
    refine ⟨rfl, ?_, rfl, rfl, ?_, rfl⟩
    · exact (wAt_here [6] _ _ _).trans (word_back pl (by omega))
    · show [wAt (putL 6 pl 0 0 [x] []) 3] = [x]
      rw [show wAt (putL 6 pl 0 0 [x] []) 3 = x from (wAt_here [6, pl / 256 % 256, pl % 256] _ _ _).trans (word_back x (by omega))]

theorem back_22 (pl nn wa : Int) (ws : List Int) (bs : List Bool) (hb : okR 22 pl nn wa ws ws.length bs.length = true) : Back 22 pl nn wa ws bs := by
  rw [okI_22 _ _ _ _ _ _ rfl] at hb
  simp [inB] at hb
  obtain ⟨hl1, hp, hx, hy, hnn, hwa, hl2⟩ := hb
  subst hnn hwa hl2
  match ws, hl1, hx, hy with
  | [x, y], _, hx, hy =>
    simp at hx hy
    refine ⟨rfl, ?_, rfl, rfl, ?_, rfl⟩
    · exact (wAt_here [22] _ _ _).trans (word_back pl (by omega))
    · show [wAt (putL 22 pl 0 0 [x, y] []) 3, wAt (putL 22 pl 0 0 [x, y] []) 5] = [x, y]
      rw [show wAt (putL 22 pl 0 0 [x, y] []) 3 = x from (wAt_here [22, pl / 256 % 256, pl % 256] _ _ _).trans (word_back x (by omega))]
      rw [show wAt (putL 22 pl 0 0 [x, y] []) 5 = y from (wAt_here [22, pl / 256 % 256, pl % 256, x / 256 % 256, x % 256] _ _ _).trans (word_back y (by omega))]

theorem w3_15 (pl : Int) (bs : List Bool) (h : bs.length ≤ 1968) : wAt (putL 15 pl 0 0 [] bs) 3 = (bs.length : Int) := (wAt_here [15, pl / 256 % 256, pl % 256] _ _ _).trans (word_back _ (by omega))

theorem back_15 (pl nn wa : Int) (ws : List Int) (bs : List Bool) (hb : okR 15 pl nn wa ws ws.length bs.length = true) : Back 15 pl nn wa ws bs := by
  rw [okI_15 _ _ _ _ _ _ rfl] at hb
  simp [rnB] at hb
  obtain ⟨hr, hnn, hwa, hl1⟩ := hb
  subst hnn hwa hl1
  refine ⟨rfl, ?_, rfl, rfl, rfl, ?_⟩
  · exact (wAt_here [15] _ _ _).trans (word_back pl (by omega))
  · show outU ((putL 15 pl 0 0 [] bs).drop 6) (wAt (putL 15 pl 0 0 [] bs) 3) = bs
    rw [w3_15 pl bs (by omega)]
    exact (unpackQ bs bs.length rfl).2

theorem w3_16 (pl : Int) (ws : List Int) (h : ws.length ≤ 123) : wAt (putL 16 pl 0 0 ws []) 3 = (ws.length : Int) := (wAt_here [16, pl / 256 % 256, pl % 256] _ _ _).trans (word_back _ (by omega))

theorem back_16 (pl nn wa : Int) (ws : List Int) (bs : List Bool) (hb : okR 16 pl nn wa ws ws.length bs.length = true) : Back 16 pl nn wa ws bs := by
  rw [okI_16 _ _ _ _ _ _ rfl] at hb
  simp [rnB] at hb
  obtain ⟨hr, hw, hnn, hwa, hl2⟩ := hb
  subst hnn hwa hl2
  refine ⟨rfl, ?_, rfl, rfl, ?_, rfl⟩
  · exact (wAt_here [16] _ _ _).trans (word_back pl (by omega))
  · exact wsF_here ((16 :: wbs [pl, (ws.length : Int)]) ++ [((2 * ws.length : Nat) : Int) % 256]) ws 6 rfl hw

theorem w7_23 (pl nn wa : Int) (ws : List Int) (h : ws.length ≤ 121) : wAt (putL 23 pl nn wa ws []) 7 = (ws.length : Int) := (wAt_here [23, pl / 256 % 256, pl % 256, nn / 256 % 256, nn % 256, wa / 256 % 256, wa % 256] _ _ _).trans (word_back _ (by omega))

theorem back_23 (pl nn wa : Int) (ws : List Int) (bs : List Bool) (hb : okR 23 pl nn wa ws ws.length bs.length = true) : Back 23 pl nn wa ws bs := by
  rw [okI_23 _ _ _ _ _ _ rfl] at hb
  simp [rnB] at hb
  obtain ⟨hr, hq, hw, hl2⟩ := hb
  subst hl2
  refine ⟨rfl, ?_, ?_, ?_, ?_, rfl⟩
  · exact (wAt_here [23] _ _ _).trans (word_back pl (by omega))
  · exact (wAt_here [23, pl / 256 % 256, pl % 256] _ _ _).trans (word_back nn (by omega))
  · exact (wAt_here [23, pl / 256 % 256, pl % 256, nn / 256 % 256, nn % 256] _ _ _).trans (word_back wa (by omega))
  · exact wsF_here ((23 :: wbs [pl, nn, wa, (ws.length : Int)]) ++ [((2 * ws.length : Nat) : Int) % 256]) ws 10 rfl hw

/-- A question that is right comes back of its bytes. -/
theorem asked_back (kd pl nn wa : Int) (ws : List Int) (bs : List Bool) (hb : okR kd pl nn wa ws ws.length bs.length = true) : Back kd pl nn wa ws bs ∧ gOk kd (putL kd pl nn wa ws bs) = true := by
  have B : Back kd pl nn wa ws bs := by
    obtain rfl | rfl | rfl | rfl | rfl | rfl | rfl | rfl | rfl | rfl := okR_kind hb
    · exact back_1 pl nn wa ws bs hb
    · exact back_2 pl nn wa ws bs hb
    · exact back_3 pl nn wa ws bs hb
    · exact back_4 pl nn wa ws bs hb
    · exact back_5 pl nn wa ws bs hb
    · exact back_6 pl nn wa ws bs hb
    · exact back_15 pl nn wa ws bs hb
    · exact back_16 pl nn wa ws bs hb
    · exact back_22 pl nn wa ws bs hb
    · exact back_23 pl nn wa ws bs hb
  refine ⟨B, ?_⟩
  obtain ⟨_, h1, h2, h3, h4, h5⟩ := B
  unfold gOk
  rw [h1, h2, h3, h4, h5, hb]
  simp

/-- How long the bytes of a question of a kind are, by their own words. -/
def lenG (k : Int) (zs : List Int) : Int :=
  if k = 22 then 7 else if k = 15 then 6 + (wAt zs 3 + 7) / 8 else if k = 16 then 6 + 2 * wAt zs 3 else if k = 23 then 10 + 2 * wAt zs 7 else 5

theorem put_len (kd pl nn wa : Int) (ws : List Int) (bs : List Bool) (hb : okR kd pl nn wa ws ws.length bs.length = true) : ((putL kd pl nn wa ws bs).length : Int) = lenG kd (putL kd pl nn wa ws bs) := by
  obtain rfl | rfl | rfl | rfl | rfl | rfl | rfl | rfl | rfl | rfl := okR_kind hb
  · rfl
  · rfl
  · rfl
  · rfl
  · rfl
  · rw [okI_6 _ _ _ _ _ _ rfl] at hb
    simp at hb
    show ((6 :: wbs (pl :: ws)).length : Int) = 5
    simp [wbs, wbs_length]
    omega
  · rw [okI_15 _ _ _ _ _ _ rfl] at hb
    simp [rnB] at hb
    obtain ⟨hr, hnn, hwa, hl1⟩ := hb
    subst hnn hwa hl1
    show _ = 6 + (wAt (putL 15 pl 0 0 [] bs) 3 + 7) / 8
    rw [w3_15 pl bs (by omega)]
    simp [putL, wbs, packL_length]
    omega
  · rw [okI_16 _ _ _ _ _ _ rfl] at hb
    simp [rnB] at hb
    obtain ⟨hr, hw, hnn, hwa, hl2⟩ := hb
    subst hnn hwa hl2
    show _ = 6 + 2 * wAt (putL 16 pl 0 0 ws []) 3
    rw [w3_16 pl ws (by omega)]
    simp [putL, wbs, wbs_length]
    omega
  · rw [okI_22 _ _ _ _ _ _ rfl] at hb
    simp at hb
    show ((22 :: wbs (pl :: ws)).length : Int) = 7
    simp [wbs, wbs_length]
    omega
  · rw [okI_23 _ _ _ _ _ _ rfl] at hb
    simp [rnB] at hb
    obtain ⟨hr, hq, hw, hl2⟩ := hb
    subst hl2
    show _ = 10 + 2 * wAt (putL 23 pl nn wa ws []) 7
    rw [w7_23 pl nn wa ws (by omega)]
    simp [putL, wbs, wbs_length]
    omega

theorem ok_len {k : Int} {zs : List Int} (h : gOk k zs = true) : (zs.length : Int) = lenG k zs := by
  have h' := h
  unfold gOk at h
  simp only [Bool.and_eq_true, decide_eq_true_eq] at h
  have e := put_len k _ _ _ _ _ h.1
  rw [h.2] at e
  exact e

/-- Two rows of bytes with the same words where their length is told: not both are questions, unless they are as long. -/
theorem ok_apart {k : Int} {zs ys : List Int} (h : gOk k zs = true) (h3 : wAt zs 3 = wAt ys 3) (h7 : wAt zs 7 = wAt ys 7) (hne : zs.length ≠ ys.length) : ¬ gOk k ys = true := by
  intro h'
  have e1 := ok_len h
  have e2 := ok_len h'
  unfold lenG at e1 e2
  rw [h3, h7] at e1
  omega

end Go.Proofs.Ytmcednhinafpeaa

namespace Go.Proofs.Ytmcednhinafpeaa
open Go.RowKit

set_option linter.unusedVariables false

set_option linter.unusedSimpArgs false

theorem putL_rg (kd pl nn wa : Int) (ws : List Int) (bs : List Bool) (hb : okR kd pl nn wa ws ws.length bs.length = true) : ∀ z ∈ putL kd pl nn wa ws bs, 0 ≤ z ∧ z ≤ 255 := by
  have hk := okR_kind hb
  intro z hz
  unfold putL at hz
  have hw := wbs_rg
  have hp := packL_rg bs
  split at hz
  · rcases List.mem_cons.mp hz with h | h
    · omega
    · exact hw _ z h
  · split at hz
    · rcases List.mem_cons.mp hz with h | h
      · omega
      · exact hw _ z h
    · split at hz
      · rcases List.mem_append.mp hz with h | h
        · rcases List.mem_append.mp h with h | h
          · rcases List.mem_cons.mp h with h | h
            · omega
            · exact hw _ z h
          · simp at h; omega
        · exact hp z h
      · split at hz
        · rcases List.mem_append.mp hz with h | h
          · rcases List.mem_append.mp h with h | h
            · rcases List.mem_cons.mp h with h | h
              · omega
              · exact hw _ z h
            · simp at h; omega
          · exact hw _ z h
        · split at hz
          · rcases List.mem_append.mp hz with h | h
            · rcases List.mem_append.mp h with h | h
              · rcases List.mem_cons.mp h with h | h
                · omega
                · exact hw _ z h
              · simp at h; omega
            · exact hw _ z h
          · rcases List.mem_cons.mp hz with h | h
            · omega
            · exact hw _ z h

theorem getD_take {zs : List Int} {m i : Nat} (h : i < m) : (zs.take m).getD i 0 = zs.getD i 0 := by
  simp [List.getD_eq_getElem?_getD, List.getElem?_take, h]

theorem getD_more {zs : List Int} {x : Int} {i : Nat} (h : i < zs.length) : (zs ++ [x]).getD i 0 = zs.getD i 0 := by
  simp [List.getD_eq_getElem?_getD, List.getElem?_append_left h]

theorem wAt_take {zs : List Int} {m i : Nat} (h : i + 2 ≤ m) (hm : m ≤ zs.length) : wAt (zs.take m) i = wAt zs i := by
  unfold wAt
  rw [List.length_take, if_pos (by omega), if_pos (by omega), getD_take (by omega), getD_take (by omega)]

theorem wAt_more {zs : List Int} {x : Int} {i : Nat} (h : i + 2 ≤ zs.length) : wAt (zs ++ [x]) i = wAt zs i := by
  unfold wAt
  rw [List.length_append, if_pos (by simp; omega), if_pos h]
  simp [List.getD_eq_getElem?_getD, List.getElem?_append_left (show i < zs.length by omega), List.getElem?_append_left (show i + 1 < zs.length by omega)]

theorem wAt_nn {zs : List Int} (hr : ∀ z ∈ zs, 0 ≤ z ∧ z ≤ 255) (i : Nat) : 0 ≤ wAt zs i := by
  unfold wAt
  split
  · have h1 := get_range hr i
    have h2 := get_range hr (i + 1)
    omega
  · omega

theorem cut_bad {k : Int} {zs : List Int} (hr : ∀ z ∈ zs, 0 ≤ z ∧ z ≤ 255) (h : gOk k zs = true) : ¬ gOk k (zs.take (zs.length - 1)) = true := by
  intro h'
  have e1 := ok_len h
  have e2 := ok_len h'
  have n3 := wAt_nn hr 3
  have n7 := wAt_nn hr 7
  rw [List.length_take] at e2
  unfold lenG at e1 e2
  by_cases hk : k = 22
  · rw [if_pos hk] at e1 e2; omega
  · rw [if_neg hk] at e1 e2
    by_cases hk : k = 15
    · rw [if_pos hk] at e1 e2
      rw [wAt_take (by omega) (by omega)] at e2; omega
    · rw [if_neg hk] at e1 e2
      by_cases hk : k = 16
      · rw [if_pos hk] at e1 e2
        rw [wAt_take (by omega) (by omega)] at e2; omega
      · rw [if_neg hk] at e1 e2
        by_cases hk : k = 23
        · rw [if_pos hk] at e1 e2
          rw [wAt_take (by omega) (by omega)] at e2; omega
        · rw [if_neg hk] at e1 e2; omega

theorem more_bad {k : Int} {zs : List Int} {x : Int} (hr : ∀ z ∈ zs, 0 ≤ z ∧ z ≤ 255) (h : gOk k zs = true) : ¬ gOk k (zs ++ [x]) = true := by
  intro h'
  have e1 := ok_len h
  have e2 := ok_len h'
  have n3 := wAt_nn hr 3
  have n7 := wAt_nn hr 7
  rw [List.length_append] at e2
  simp only [List.length_cons, List.length_nil] at e2
  unfold lenG at e1 e2
  by_cases hk : k = 22
  · rw [if_pos hk] at e1 e2; omega
  · rw [if_neg hk] at e1 e2
    by_cases hk : k = 15
    · rw [if_pos hk] at e1 e2
      rw [wAt_more (by omega)] at e2; omega
    · rw [if_neg hk] at e1 e2
      by_cases hk : k = 16
      · rw [if_pos hk] at e1 e2
        rw [wAt_more (by omega)] at e2; omega
      · rw [if_neg hk] at e1 e2
        by_cases hk : k = 23
        · rw [if_pos hk] at e1 e2
          rw [wAt_more (by omega)] at e2; omega
        · rw [if_neg hk] at e1 e2; omega

theorem ok_five {k : Int} {zs : List Int} (hr : ∀ z ∈ zs, 0 ≤ z ∧ z ≤ 255) (h : gOk k zs = true) : 5 ≤ zs.length := by
  have e1 := ok_len h
  have n3 := wAt_nn hr 3
  have n7 := wAt_nn hr 7
  unfold lenG at e1
  split at e1
  · omega
  · split at e1
    · omega
    · split at e1
      · omega
      · split at e1 <;> omega

/-- What the three calls of GetReq end with. -/
theorem get_back {kd pl nn wa : Int} {ws : List Int} {bs : List Bool} (hb : okR kd pl nn wa ws ws.length bs.length = true) {w w' : World} {e : Ending} (h : GPz (putL kd pl nn wa ws bs) w w' e) : GP w w' e kd pl nn wa ws bs 0 := by
  obtain ⟨⟨b0, b1, b2, b3, b4, b5⟩, hg⟩ := asked_back kd pl nn wa ws bs hb
  have hr := putL_rg kd pl nn wa ws bs hb
  have h5 := ok_five hr hg
  have hk : kindB kd = true := decide_eq_true (okR_kind hb)
  unfold GPz at h
  rw [b0, if_neg (by rw [hk]; simp; intro hh; rw [hh] at h5; simp at h5), if_pos hg, b1, b2, b3, b4, b5] at h
  exact h

theorem get_bad {kd : Int} {zs : List Int} {w w' : World} {e : Ending} (h0 : zs.getD 0 0 = kd) (h1 : zs.length ≠ 0) (hk : kindB kd = true) (hn : ¬ gOk kd zs = true) (h : GPz zs w w' e) : GP w w' e 0 0 0 0 [] [] 3 := by
  unfold GPz at h
  rw [h0, if_neg (by rw [hk]; simpa using h1), if_neg hn] at h
  exact h

theorem get_cut {kd pl nn wa : Int} {ws : List Int} {bs : List Bool} (hb : okR kd pl nn wa ws ws.length bs.length = true) {w w' : World} {e : Ending} (h : GPz ((putL kd pl nn wa ws bs).take ((putL kd pl nn wa ws bs).length - 1)) w w' e) : GP w w' e 0 0 0 0 [] [] 3 := by
  obtain ⟨⟨b0, _⟩, hg⟩ := asked_back kd pl nn wa ws bs hb
  have hr := putL_rg kd pl nn wa ws bs hb
  have h5 := ok_five hr hg
  exact get_bad (by rw [getD_take (by omega)]; exact b0) (by rw [List.length_take]; omega) (decide_eq_true (okR_kind hb)) (cut_bad hr hg) h

theorem get_more {kd pl nn wa : Int} {ws : List Int} {bs : List Bool} (hb : okR kd pl nn wa ws ws.length bs.length = true) {w w' : World} {e : Ending} (h : GPz (putL kd pl nn wa ws bs ++ [0]) w w' e) : GP w w' e 0 0 0 0 [] [] 3 := by
  obtain ⟨⟨b0, _⟩, hg⟩ := asked_back kd pl nn wa ws bs hb
  have hr := putL_rg kd pl nn wa ws bs hb
  have h5 := ok_five hr hg
  exact get_bad ((getD_more (by omega)).trans b0) (by simp) (decide_eq_true (okR_kind hb)) (more_bad hr hg) h

theorem touches {kd pl nn wa : Int} {ws : List Int} {l1 l2 : Nat} (hb : okR kd pl nn wa ws l1 l2 = true) : 0 ≤ spc0 kd ∧ spc0 kd ≤ 3 ∧ 1 ≤ spcN kd nn l1 l2 ∧ pl + spcN kd nn l1 l2 ≤ 65536 ∧ 0 ≤ pl ∧ spcN kd nn l1 l2 ≤ 65536 ∧ wrK kd = decide (kd > 4) := by
  have hk := okR_kind hb
  unfold okR at hb
  simp only [Bool.and_eq_true] at hb
  obtain ⟨_, hp, hb⟩ := hb
  unfold inB at hp
  have hp := of_decide_eq_true hp
  obtain rfl | rfl | rfl | rfl | rfl | rfl | rfl | rfl | rfl | rfl := hk
  all_goals (
    simp [okK, zrB, inB, fitB] at hb
    simp [spc0, spcN, wrK]
    omega)

end Go.Proofs.Ytmcednhinafpeaa

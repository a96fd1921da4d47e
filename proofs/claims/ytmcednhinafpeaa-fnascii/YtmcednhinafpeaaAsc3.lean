/- Frames in digits: GetAscii, of the program and of its model. -/
import Derived.Test.YtmcednhinafpeaaAsc2
import Derived.Test.YtmcednhinafpeaaUnHex3
namespace Go.Proofs.Ytmcednhinafpeaa
open Go.RowKit

set_option linter.unusedVariables false

set_option linter.unusedSimpArgs false

/-- Between a colon and a line's end. -/
def frB (bs : List Int) : Bool := decide (3 ≤ bs.length ∧ bs.getD 0 0 = 58 ∧ bs.getD (bs.length - 2) 0 = 13 ∧ bs.getD (bs.length - 1) 0 = 10)

def mid (bs : List Int) : List Int := bif frB bs then (bs.drop 1).take (bs.length - 3) else []

def wiA (bs : List Int) : List Int := outS (strOfNums (mid bs))

/-- What GetAscii answers. -/
def gaC (bs : List Int) : Int := if (frB bs && okS (strOfNums (mid bs))) = false then 4 else if (wiA bs).length < 3 then 1 else if 255 < (wiA bs).length then 2 else if lres (wiA bs) = 0 then 0 else 3

def gaU (bs : List Int) : Int := if gaC bs = 0 then (wiA bs).getD 0 0 else 0

def gaP (bs : List Int) : List Int := if gaC bs = 0 then ((wiA bs).drop 1).take ((wiA bs).length - 2) else []

theorem frB_no {bs : List Int} (h : ¬ (3 ≤ bs.length ∧ bs.getD 0 0 = 58 ∧ bs.getD (bs.length - 2) 0 = 13 ∧ bs.getD (bs.length - 1) 0 = 10)) : frB bs = false := by unfold frB; exact decide_eq_false h

theorem frB_yes {bs : List Int} (h : 3 ≤ bs.length ∧ bs.getD 0 0 = 58 ∧ bs.getD (bs.length - 2) 0 = 13 ∧ bs.getD (bs.length - 1) 0 = 10) : frB bs = true := by unfold frB; exact decide_eq_true h

theorem mid_no {bs : List Int} (h : frB bs = false) : mid bs = [] := by unfold mid; rw [h]; rfl

theorem mid_yes {bs : List Int} (h : frB bs = true) : mid bs = (bs.drop 1).take (bs.length - 3) := by unfold mid; rw [h]; rfl

theorem mid_len (bs : List Int) : (mid bs).length ≤ bs.length := by
  unfold mid; cases frB bs <;> simp
  omega

theorem ga_bad {bs : List Int} {k : Int} (h : gaC bs = k) (hk : k ≠ 0) : gaU bs = 0 ∧ gaP bs = [] := by
  unfold gaU gaP; rw [h, if_neg hk, if_neg hk]; exact ⟨rfl, rfl⟩

theorem ga_good {bs : List Int} (h : gaC bs = 0) : gaU bs = (wiA bs).getD 0 0 ∧ gaP bs = ((wiA bs).drop 1).take ((wiA bs).length - 2) := by
  unfold gaU gaP; rw [if_pos h, if_pos h]; exact ⟨rfl, rfl⟩

def GT (w w' : World) (e : Ending) (u : Int) (ps : List Int) (code : Int) : Prop :=
  ∃ a c n, e = .returned (.tuple #[.int .i64 u, .slice a n c, .int .i64 code]) ∧ n = ps.length ∧ Own w' w.heap.size (.slice a n c) ps ∧ Below w.heap.size w w'

theorem outS_rg (s : ByteArray) : ∀ z ∈ outS s, 0 ≤ z ∧ z ≤ 255 := by
  intro z hz
  unfold outS at hz
  by_cases h : okS s = true
  · rw [if_pos h] at hz
    simp [okS] at h
    unfold bytesTo at hz
    obtain ⟨i, hi, rfl⟩ := List.mem_map.1 hz
    have hi' := List.mem_range.1 hi
    have h1 := h.2 (2 * i) (by omega)
    have h2 := h.2 (2 * i + 1) (by omega)
    have := (D_bd s (2 * i)).2
    have := (D_bd s (2 * i + 1)).2
    omega
  · rw [if_neg h] at hz; simp at hz

theorem outS_len (s : ByteArray) : (outS s).length ≤ s.size := by
  unfold outS
  split
  · rw [bytesTo_length]; omega
  · simp

theorem wiA_len (bs : List Int) : (wiA bs).length ≤ bs.length := by
  unfold wiA
  have h1 := outS_len (strOfNums (mid bs))
  rw [strOfNums_size] at h1
  have h2 := mid_len bs
  omega

theorem conv_at {w : World} {b off n cap : Nat} {zs : List Int} (hn : n = zs.length) (hs : Sl w (some ⟨b, off, none⟩) zs) : (convert 22 9 (.slice (some ⟨b, off, none⟩) n cap)).run Try.prog w = .ok (.string (strOfNums zs)) w := by
  refine run_convert_bytes_arg w 22 5 Try.underlying22 Try.underlying5 b off n cap zs hn.symm (fun i hi => ?_) 9 Try.underlying9
  obtain ⟨b', off', e, _, hc⟩ := cell_at hs (show i < zs.length by omega)
  simp at e
  obtain ⟨rfl, rfl⟩ := e
  exact hc

/-- The sum of bytes is nothing just if the last one is the sum of those ahead of it. -/
theorem lsum_iff (xs : List Int) (m : Nat) (hm : xs.length = m + 1) (hr : ∀ z ∈ xs, 0 ≤ z ∧ z ≤ 255) : lres xs = 0 ↔ xs.getD m 0 = lres (xs.take m) := by
  have h1 := get_range hr m
  have h2 := lsum_succ xs m (by omega)
  have h3 := lsum_bd xs m
  have e : lsum (xs.take m) (xs.take m).length = lsum xs m := by
    unfold lsum
    rw [List.take_length]
  unfold lres
  rw [e, hm, h2]
  omega

theorem ga_nil (w w' : World) (k : Int) (bs : List Int) (h : gaC bs = k) (hk : k ≠ 0) (hb : Below w.heap.size w w') : GT w w' (.returned (.tuple #[.int .i64 0, .slice none 0 0, .int .i64 k])) (gaU bs) (gaP bs) (gaC bs) := by
  rw [(ga_bad h hk).1, (ga_bad h hk).2, h]
  exact ⟨none, 0, 0, rfl, rfl, ⟨rfl, .inl ⟨rfl, rfl⟩⟩, hb⟩

theorem ga_lit (w w' : World) (k : Int) (bs : List Int) (h : gaC bs = k) (hk : k ≠ 0) (hb : Below w.heap.size w w') : GT w (w'.alloc (.cells #[] 5)) (.returned (.tuple #[.int .i64 0, .slice (some ⟨w'.heap.size, 0, none⟩) 0 0, .int .i64 k])) (gaU bs) (gaP bs) (gaC bs) := by
  rw [(ga_bad h hk).1, (ga_bad h hk).2, h]
  exact ⟨_, 0, 0, rfl, rfl, ⟨rfl, .inr ⟨w'.heap.size, 0, #[], rfl, hb.size, Blk.new w' #[] 5, by simp, by simp, rfl, rfl⟩⟩, bel_next hb (bel_alloc _ _)⟩

set_option maxRecDepth 20000 in
set_option maxHeartbeats 4000000 in
theorem digitsOf_any (a : Option Addr) (l c : Nat) (bs : List Int) (w : World) (hn : l = bs.length) (hlc : l ≤ c) (hs : Sl w a bs) (hl : bs.length ≤ 2000000) :
    Calls Try.prog 42 #[.slice a l c] w fun e w' => e = .returned (.tuple #[.string (strOfNums (mid bs)), .bool (frB bs)]) ∧ w' = w := by
  by_cases h3 : (l : Int) - 2 < 1
  · have f := frB_no (bs := bs) (by omega)
    rw [mid_no f, f]
    clear hs hn f
    go_enter Try.func42, Try.ntmps42
    go_wp2
    go_ret2
    exact ⟨rfl, rfl⟩
  obtain ⟨m, hm⟩ : ∃ m, l = m + 1 + 1 := ⟨l - 2, by omega⟩
  obtain ⟨b, off, rfl, hb0, hc0⟩ := cell_at hs (k := 0) (by omega)
  obtain ⟨b', off', e', hb1, hcA⟩ := cell_at hs (k := m) (by omega)
  simp only [Option.some.injEq, Addr.mk.injEq, and_true] at e'
  obtain ⟨rfl, rfl⟩ := e'
  obtain ⟨b', off', e', hb2, hcB⟩ := cell_at hs (k := m + 1) (by omega)
  simp only [Option.some.injEq, Addr.mk.injEq, and_true] at e'
  obtain ⟨rfl, rfl⟩ := e'
  rw [Nat.add_zero] at hc0
  have em : bs.length - 2 = m := by omega
  have em1 : bs.length - 1 = m + 1 := by omega
  have HFN : Hid (¬ (bs.getD 0 0 = 58 ∧ bs.getD m 0 = 13 ∧ bs.getD (m + 1) 0 = 10) → frB bs = false) := fun h => frB_no (by rw [em, em1]; exact fun k => h k.2)
  have HFY : Hid ((bs.getD 0 0 = 58 ∧ bs.getD m 0 = 13 ∧ bs.getD (m + 1) 0 = 10) → frB bs = true) := fun h => frB_yes (by rw [em, em1]; exact ⟨by omega, h⟩)
  have HS : Hid (Sl w (some ⟨b, off, none⟩) bs) := hs
  have HB : Hid (l = bs.length) := hn
  have t2 : ((l : Int) - 2).toNat = m := by omega
  have t1 : ((l : Int) - 2 + 1).toNat = m + 1 := by omega
  have t3 : ((l : Int) - 1).toNat = m + 1 := by omega
  have i0 : (1 : Int) ≤ (l : Int) - 2 := by omega
  have i1 : (l : Int) - 2 ≤ (l : Int) := by omega
  have i2 : (l : Int) - 2 ≤ (c : Int) := by omega
  have i3 : (l : Int) - 2 < (l : Int) := by omega
  have i3' : (l : Int) - 2 + 1 < (l : Int) := by omega
  have i4 : (0 : Int) ≤ (l : Int) - 2 := by omega
  have i4' : (0 : Int) ≤ (l : Int) - 2 + 1 := by omega
  have i5 : IntKind.i64.wrap ((l : Int) - 2) = (l : Int) - 2 := by rw [IntKind.wrap_i64]; omega
  have i6 : (1 : Int) ≤ (c : Int) := by omega
  have i7 : (0 : Int) < (l : Int) := by omega
  have i8 : 0 < l := by omega
  have hcq : ¬ c = 1 := by omega
  clear hs hn hb1 hb2
  by_cases h58 : bs.getD 0 0 = 58
  case neg =>
    have f := HFN.out (fun k => h58 k.1)
    rw [mid_no f, f]
    have h58b : (bs.getD 0 0 != 58) = true := by simpa using h58
    clear HFN HFY h58
    generalize bs.getD 0 0 = z at *
    go_enter Try.func42, Try.ntmps42
    go_wp2
    go_ret2
    exact ⟨rfl, rfl⟩
  by_cases h13 : bs.getD m 0 = 13
  case neg =>
    have f := HFN.out (fun k => h13 k.2.1)
    rw [mid_no f, f]
    have h58b : (bs.getD 0 0 != 58) = false := by simpa using h58
    have h13b : (bs.getD m 0 != 13) = true := by simpa using h13
    clear HFN HFY h58 h13
    generalize bs.getD 0 0 = z at *
    generalize bs.getD m 0 = zA at *
    go_enter Try.func42, Try.ntmps42
    go_wp2
    go_ret2
    exact ⟨rfl, rfl⟩
  by_cases h10 : bs.getD (m + 1) 0 = 10
  case neg =>
    have f := HFN.out (fun k => h10 k.2.2)
    rw [mid_no f, f]
    have h58b : (bs.getD 0 0 != 58) = false := by simpa using h58
    have h13b : (bs.getD m 0 != 13) = false := by simpa using h13
    have h10b : (bs.getD (m + 1) 0 != 10) = true := by simpa using h10
    clear HFN HFY h58 h13 h10
    generalize bs.getD 0 0 = z at *
    generalize bs.getD m 0 = zA at *
    generalize bs.getD (m + 1) 0 = zB at *
    go_enter Try.func42, Try.ntmps42
    go_wp2
    go_ret2
    exact ⟨rfl, rfl⟩
  have f := HFY.out ⟨h58, h13, h10⟩
  rw [mid_yes f, f]
  have h58b : (bs.getD 0 0 != 58) = false := by simpa using h58
  have h13b : (bs.getD m 0 != 13) = false := by simpa using h13
  have h10b : (bs.getD (m + 1) 0 != 10) = false := by simpa using h10
  have S1 : Sl w (some ⟨b, off + 1, none⟩) ((bs.drop 1).take (bs.length - 3)) := (Sl.dropT HS.out (by have := HB.out; omega)).takeT _
  have hcv := fun cp => conv_at (cap := cp) (n := m - 1) (by have := HB.out; simp; omega) S1
  clear HFN HFY h58 h13 h10 f S1
  generalize bs.getD 0 0 = z at *
  generalize bs.getD m 0 = zA at *
  generalize bs.getD (m + 1) 0 = zB at *
  generalize strOfNums ((bs.drop 1).take (bs.length - 3)) = S at *
  have tm : ((l : Int) - 2).toNat - 1 = m - 1 := by omega
  go_enter Try.func42, Try.ntmps42
  go_wp2
  go_ret2
  exact ⟨rfl, rfl⟩

end Go.Proofs.Ytmcednhinafpeaa

/- Frames by their sum: PutRtu, of the program and of its model. -/
import Derived.Test.YtoofkikenfgbpaaDoorRtu1
import Derived.Test.YtoofkikenfgbpaaDoorR1
import Derived.Test.YtoofkikenfgbpaaDoorCrc1
import Derived.Test.YtoofkikenfgbpaaDoorSumsN
namespace Go.Proofs.YtoofkikenfgbpaaDoor
open Go.RowKit

set_option linter.unusedVariables false

set_option linter.unusedSimpArgs false

/-- Bytes and their sum. -/
def smL (bs : List Int) : List Int := bs ++ [((crcTo bs bs.length : Nat) : Int) % 256, ((crcTo bs bs.length : Nat) : Int) / 256]

def okF (un : Int) (l : Nat) : Bool := decide (0 ≤ un ∧ un ≤ 255 ∧ 1 ≤ l ∧ l ≤ 253)

/-- A frame, or nothing. -/
def puT (un : Int) (zs : List Int) : List Int := bif okF un zs.length then smL (un :: zs) else []

theorem puT_no {un : Int} {zs : List Int} (h : ¬ (0 ≤ un ∧ un ≤ 255 ∧ 1 ≤ zs.length ∧ zs.length ≤ 253)) : puT un zs = [] := by
  unfold puT okF; rw [decide_eq_false h]; rfl

theorem puT_yes {un : Int} {zs : List Int} (h : 0 ≤ un ∧ un ≤ 255 ∧ 1 ≤ zs.length ∧ zs.length ≤ 253) : puT un zs = smL (un :: zs) := by
  unfold puT okF; rw [decide_eq_true h]; rfl

/-- Bytes in memory of the call's own, or nothing. -/
def NwT (w w' : World) (e : Ending) (zs : List Int) : Prop := ∃ a c n, e = .returned (.slice a n c) ∧ n = zs.length ∧ Own w' w.heap.size (.slice a n c) zs ∧ Below w.heap.size w w'

theorem nwt_lit (w : World) : NwT w (w.alloc (.cells #[] 5)) (.returned (.slice (some ⟨w.heap.size, 0, none⟩) 0 0)) [] :=
  ⟨_, _, _, rfl, rfl, ⟨rfl, .inr ⟨w.heap.size, 0, #[], rfl, Nat.le_refl _, Blk.new w #[] 5, by simp, by simp, rfl, rfl⟩⟩, bel_alloc _ _⟩

theorem nwt_nil (w : World) : NwT w w (.returned (.slice none 0 0)) [] :=
  ⟨_, _, _, rfl, rfl, ⟨rfl, .inl ⟨rfl, rfl⟩⟩, Below.refl _ _⟩

theorem sl_some {w : World} {a : Option Addr} {zs : List Int} (h : Sl w a zs) (hp : 0 < zs.length) : ∃ ad, a = some ad := by
  rcases h with h | ⟨b, off, ha, _⟩
  · rw [h] at hp; simp at hp
  · exact ⟨_, ha⟩

theorem smL_len (bs : List Int) : (smL bs).length = bs.length + 2 := by simp [smL]

set_option maxRecDepth 20000 in
set_option maxHeartbeats 4000000 in
theorem implPutRtu_any (un : Int) (a : Option Addr) (l c : Nat) (zs : List Int) (w : World) (hn : l = zs.length) (hs : Sl w a zs) (hr : ∀ z ∈ zs, 0 ≤ z ∧ z ≤ 255) (hl : zs.length ≤ 2000000) (hT : Tab w) (hw : 0 < w.heap.size) :
    Calls Tryd.prog 7 #[.int .i64 un, .slice a l c] w fun e w' => NwT w w' e (puT un zs) := by
  have HT : Hid (Tab w) := hT
  clear hT
  have hl2 : l ≤ 2000000 := by omega
  by_cases t_u1 : 0 ≤ un
  case neg =>
    rw [puT_no (by omega)]
    clear hn hs hr hl
    go_enter Tryd.func7, Tryd.ntmps7
    go_wp2_with (first | (go_at_call 25; go_in) | (go_at_call 26; go_in) | (go_at_call 27; go_in))
    go_ret
    exact nwt_nil _
  by_cases t_u2 : un ≤ 255
  case neg =>
    rw [puT_no (by omega)]
    clear hn hs hr hl
    go_enter Tryd.func7, Tryd.ntmps7
    go_wp2_with (first | (go_at_call 25; go_in) | (go_at_call 26; go_in) | (go_at_call 27; go_in))
    go_ret
    exact nwt_nil _
  by_cases t_l1 : 1 ≤ (l : Int)
  case neg =>
    rw [puT_no (by omega)]
    obtain rfl : l = 0 := by omega
    clear hn hs hr hl
    go_enter Tryd.func7, Tryd.ntmps7
    go_wp2_with (first | (go_at_call 25; go_in) | (go_at_call 26; go_in) | (go_at_call 27; go_in))
    go_ret
    exact nwt_nil _
  by_cases t_l2 : (l : Int) ≤ 253
  case neg =>
    rw [puT_no (by omega)]
    clear hn hs hr hl
    go_enter Tryd.func7, Tryd.ntmps7
    go_wp2_with (first | (go_at_call 25; go_in) | (go_at_call 26; go_in) | (go_at_call 27; go_in))
    go_ret
    exact nwt_nil _
  rw [puT_yes (by omega)]
  obtain ⟨ad, rfl⟩ := sl_some hs (by omega)
  have B0 := bel_alloc w (.cells #[.int .u8 (un)] 5)
  have o0 := own_lit1 w (un) w.heap.size (Nat.le_refl _)
  have HS : Hid (Sl (w.alloc (.cells #[.int .u8 (un)] 5)) (some ad) zs) := hs.below B0
  have HN : Hid (l = zs.length) := hn
  have HLn : Hid ([un].length + zs.length ≤ 4000000) := by show [un].length + zs.length ≤ 4000000; simp; omega
  have HR : Hid (∀ z ∈ un :: zs, 0 ≤ z ∧ z ≤ 255) := by
    show ∀ z ∈ un :: zs, 0 ≤ z ∧ z ≤ 255
    intro z hz
    rcases List.mem_cons.1 hz with rfl | h
    · omega
    · exact hr z h
  have HLz : Hid (zs.length ≤ 253) := by show zs.length ≤ 253; omega
  clear hn hs hr hl
  go_enter Tryd.func7, Tryd.ntmps7
  go_wp2_with (first | (at_builtin; refine wpList_app rfl _ _ rfl w.heap.size (.slice (some ⟨w.heap.size, 0, none⟩) 1 1) [un] rfl o0 ad l c zs rfl HN.out HS.out HLn.out B0.size ?_; intro v1 w1 o1 g1; have B1 : Below w.heap.size w w1 := bel_grown B0 o0 g1 (Nat.le_refl _) B0.size; obtain ⟨g, c1, hv, _, _⟩ := own_some o1 (by simp); subst hv; have o2 : Own w1 w.heap.size (.slice (some ⟨g, 0, none⟩) (un :: zs).length c1) (un :: zs) := o1; clear o1 g1 o0 B0) | (first | (go_at_call 25; go_in) | (go_at_call 26; go_in) | (go_at_call 27; go_in)))
  refine (implCrc_any _ _ _ (un :: zs) _ (by simp) (HT.out.below B1 hw) o2.sl.2 HR.out (by have := HLz.out; simp; omega)).mono ?_
  rintro e w2 ⟨rfl, e2⟩
  subst e2
  have hc16 := crcTo_lt (un :: zs) (get_range HR.out) (un :: zs).length
  have HM : Hid (smL (un :: zs) = (un :: zs) ++ [((crcTo (un :: zs) (un :: zs).length : Nat) : Int) % 256, ((crcTo (un :: zs) (un :: zs).length : Nat) : Int) / 256]) := rfl
  generalize crcTo (un :: zs) (un :: zs).length = x at *
  have o3 := o2.below (bel_alloc w2 (.cells #[.int .u8 ((x : Int) % 256), .int .u8 ((x : Int) / 256)] 5))
  have B2 := bel_next B1 (bel_alloc w2 (.cells #[.int .u8 ((x : Int) % 256), .int .u8 ((x : Int) / 256)] 5))
  have HL2 : Hid ((un :: zs).length + [(x : Int) % 256, (x : Int) / 256].length ≤ 4000000) := by show (un :: zs).length + [(x : Int) % 256, (x : Int) / 256].length ≤ 4000000; have := HLz.out; simp; omega
  clear o2 B1
  go_wp2_with (at_builtin; refine wpList_app rfl _ _ rfl w.heap.size (.slice (some ⟨g, 0, none⟩) _ c1) (un :: zs) rfl o3 ⟨w2.heap.size, 0, none⟩ 2 2 [(x : Int) % 256, (x : Int) / 256] rfl rfl (sl_lit2 w2 _ _ rfl) HL2.out B2.size ?_; intro v4 w4 o4 g4; have B4 : Below w.heap.size w w4 := bel_grown B2 o3 g4 (Nat.le_refl _) B2.size; rw [← HM.out] at o4; obtain ⟨g', c', hv, _, _⟩ := own_some o4 (by rw [smL_len]; omega); subst hv; have R : NwT w w4 (.returned (.slice (some ⟨g', 0, none⟩) (smL (un :: zs)).length c')) (smL (un :: zs)) := ⟨_, c', _, rfl, rfl, o4, B4⟩; clear o4 g4 o3 B2)
  go_ret
  exact R

end Go.Proofs.YtoofkikenfgbpaaDoor

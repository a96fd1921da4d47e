/- Frames on streams: PutMbap, of the program and of its model. -/
import Derived.Test.YtimgohnnapaafaaRtu1
import Derived.Test.YtimgohnnapaafaaR4
import Derived.Test.YtimgohnnapaafaaPutWord1
namespace Go.Proofs.Ytimgohnnapaafaa
open Go.RowKit

set_option linter.unusedVariables false

set_option linter.unusedSimpArgs false

/-- Bytes in memory of the call's own, or nothing. -/
def NwT (w w' : World) (e : Ending) (zs : List Int) : Prop := ∃ a c n, e = .returned (.slice a n c) ∧ n = zs.length ∧ Own w' w.heap.size (.slice a n c) zs ∧ Below w.heap.size w w'

theorem nwt_lit (w : World) : NwT w (w.alloc (.cells #[] 5)) (.returned (.slice (some ⟨w.heap.size, 0, none⟩) 0 0)) [] :=
  ⟨_, _, _, rfl, rfl, ⟨rfl, .inr ⟨w.heap.size, 0, #[], rfl, Nat.le_refl _, Blk.new w #[] 5, by simp, by simp, rfl, rfl⟩⟩, bel_alloc _ _⟩

theorem nwt_nil (w : World) : NwT w w (.returned (.slice none 0 0)) [] :=
  ⟨_, _, _, rfl, rfl, ⟨rfl, .inl ⟨rfl, rfl⟩⟩, Below.refl _ _⟩

theorem sl_some {w : World} {a : Option Addr} {zs : List Int} (h : Sl w a zs) (hp : 0 < zs.length) : ∃ ad, a = some ad := by
  rcases h with h | ⟨b, off, ha, _⟩
  · rw [h] at hp; simp at hp
  · exact ⟨_, ha⟩

/-- A frame's head, unit and bytes. -/
def mbL (nu un : Int) (zs : List Int) : List Int := nu / 256 % 256 :: nu % 256 :: 0 :: 0 :: ((zs.length : Int) + 1) / 256 % 256 :: ((zs.length : Int) + 1) % 256 :: un :: zs

def okM (nu un : Int) (l : Nat) : Bool := decide (0 ≤ nu ∧ nu ≤ 65535 ∧ 0 ≤ un ∧ un ≤ 255 ∧ 1 ≤ l ∧ l ≤ 253)

/-- A frame, or nothing. -/
def mbV (nu un : Int) (zs : List Int) : List Int := bif okM nu un zs.length then mbL nu un zs else []

theorem mbV_no {nu un : Int} {zs : List Int} (h : ¬ (0 ≤ nu ∧ nu ≤ 65535 ∧ 0 ≤ un ∧ un ≤ 255 ∧ 1 ≤ zs.length ∧ zs.length ≤ 253)) : mbV nu un zs = [] := by
  unfold mbV okM; rw [decide_eq_false h]; rfl

theorem mbV_yes {nu un : Int} {zs : List Int} (h : 0 ≤ nu ∧ nu ≤ 65535 ∧ 0 ≤ un ∧ un ≤ 255 ∧ 1 ≤ zs.length ∧ zs.length ≤ 253) : mbV nu un zs = mbL nu un zs := by
  unfold mbV okM; rw [decide_eq_true h]; rfl

theorem mbL_len (nu un : Int) (zs : List Int) : (mbL nu un zs).length = zs.length + 7 := by simp [mbL]

theorem mbV_len (nu un : Int) (zs : List Int) : (mbV nu un zs).length ≤ 260 := by
  by_cases h : 0 ≤ nu ∧ nu ≤ 65535 ∧ 0 ≤ un ∧ un ≤ 255 ∧ 1 ≤ zs.length ∧ zs.length ≤ 253
  · rw [mbV_yes h, mbL_len]; omega
  · rw [mbV_no h]; simp

set_option maxRecDepth 20000 in
set_option maxHeartbeats 4000000 in
theorem specPutMbap_any (nu un : Int) (a : Option Addr) (l c : Nat) (zs : List Int) (w : World) (hn : l = zs.length) (hs : Sl w a zs) (hl : zs.length ≤ 2000000) :
    Calls Try.prog 54 #[.int .i64 nu, .int .i64 un, .slice a l c] w fun e w' => NwT w w' e (mbV nu un zs) := by
  have hl2 : l ≤ 2000000 := by omega
  by_cases t_n1 : 0 ≤ nu
  case neg =>
    rw [mbV_no (by omega)]
    clear hn hs hl
    go_enter Try.func54, Try.ntmps54
    go_wp2_with (first | (go_at_call 60; go_in) | (go_at_call 24; go_in))
    go_ret
    exact nwt_lit _
  by_cases t_n2 : nu ≤ 65535
  case neg =>
    rw [mbV_no (by omega)]
    clear hn hs hl
    go_enter Try.func54, Try.ntmps54
    go_wp2_with (first | (go_at_call 60; go_in) | (go_at_call 24; go_in))
    go_ret
    exact nwt_lit _
  by_cases t_u1 : 0 ≤ un
  case neg =>
    rw [mbV_no (by omega)]
    clear hn hs hl
    go_enter Try.func54, Try.ntmps54
    go_wp2_with (first | (go_at_call 60; go_in) | (go_at_call 24; go_in))
    go_ret
    exact nwt_lit _
  by_cases t_u2 : un ≤ 255
  case neg =>
    rw [mbV_no (by omega)]
    clear hn hs hl
    go_enter Try.func54, Try.ntmps54
    go_wp2_with (first | (go_at_call 60; go_in) | (go_at_call 24; go_in))
    go_ret
    exact nwt_lit _
  by_cases t_l1 : 1 ≤ (l : Int)
  case neg =>
    rw [mbV_no (by omega)]
    obtain rfl : l = 0 := by omega
    clear hn hs hl
    go_enter Try.func54, Try.ntmps54
    go_wp2_with (first | (go_at_call 60; go_in) | (go_at_call 24; go_in))
    go_ret
    exact nwt_lit _
  by_cases t_l2 : (l : Int) ≤ 253
  case neg =>
    rw [mbV_no (by omega)]
    clear hn hs hl
    go_enter Try.func54, Try.ntmps54
    go_wp2_with (first | (go_at_call 60; go_in) | (go_at_call 24; go_in))
    go_ret
    exact nwt_lit _
  rw [mbV_yes (by omega)]
  obtain ⟨ad, rfl⟩ := sl_some hs (by omega)
  have HS : Hid (Sl w (some ad) zs) := hs
  have HN : Hid (l = zs.length) := hn
  have HLz : Hid (zs.length ≤ 253) := by show zs.length ≤ 253; omega
  have B0 := bel_alloc w (.cells #[] 5)
  clear hn hs hl
  go_enter Try.func54, Try.ntmps54
  go_wp2_with (first | (go_at_call 60; go_in) | (go_at_call 24; go_in))
  refine (specPutWord_any _ _ _ [] nu _ rfl (.inl rfl) (by simp)).mono ?_
  rintro e w1 ⟨v1, rfl, o1, b1'⟩
  have B1 := bel_next B0 b1'
  obtain ⟨g1, c1, hv, _, _⟩ := own_some o1 (by simp)
  subst hv
  clear b1' B0
  go_wp2_with fail
  refine (specPutWord_any _ _ _ _ 0 _ (by simp) o1.sl.2 (by simp)).mono ?_
  rintro e w2 ⟨v2, rfl, o2, b2'⟩
  have B2 := bel_next B1 b2'
  obtain ⟨g2, c2, hv, _, _⟩ := own_some o2 (by simp)
  subst hv
  clear b2' B1 o1
  go_wp2_with fail
  refine (specPutWord_any _ _ _ _ ((l : Int) + 1) _ (by simp) o2.sl.2 (by simp)).mono ?_
  rintro e w3 ⟨v3, rfl, o3', b3'⟩
  have B3 := bel_next B2 b3'
  have o3 : Own w3 w.heap.size v3 _ := o3'.monoT B2.size
  obtain ⟨g3, c3, hv, _, _⟩ := own_some o3 (by simp)
  subst hv
  have e3 : Hid (mbL nu un zs = ([] ++ [nu / 256 % 256, nu % 256] ++ [0 / 256 % 256, 0 % 256] ++ [((l : Int) + 1) / 256 % 256, ((l : Int) + 1) % 256]) ++ [un] ++ zs) := by show mbL nu un zs = _; rw [show (l : Int) = (zs.length : Int) by rw [HN.out]]; simp [mbL]
  have HH : Hid (([] ++ [nu / 256 % 256, nu % 256] ++ [0 / 256 % 256, 0 % 256] ++ [((l : Int) + 1) / 256 % 256, ((l : Int) + 1) % 256]).length = 6) := hide (by simp)
  clear b3' B2 o2 o3'
  generalize ([] ++ [nu / 256 % 256, nu % 256] ++ [0 / 256 % 256, 0 % 256] ++ [((l : Int) + 1) / 256 % 256, ((l : Int) + 1) % 256]) = hd at *
  have hh := HH.out
  rw [hh] at o3 ⊢
  have B4 := bel_next B3 (bel_alloc w3 (.cells #[.int .u8 un] 5))
  have o4 := o3.below (bel_alloc w3 (.cells #[.int .u8 un] 5))
  have HL1 : Hid (hd.length + [un].length ≤ 4000000) := by show hd.length + [un].length ≤ 4000000; rw [hh]; simp
  have HL2 : Hid ((hd ++ [un]).length + zs.length ≤ 4000000) := by show (hd ++ [un]).length + zs.length ≤ 4000000; have := HLz.out; simp; omega
  clear o3 hh
  go_wp2_with (first
    | (at_builtin; refine wpList_app rfl _ _ rfl w.heap.size (.slice (some ⟨g3, 0, none⟩) 6 c3) hd rfl o4 ⟨w3.heap.size, 0, none⟩ 1 1 [un] rfl rfl (sl_lit1 _ _ rfl) HL1.out B4.size ?_; intro v5 w5 o5 g5; have B5 : Below w.heap.size w w5 := bel_grown B4 o4 g5 (Nat.le_refl _) B4.size; clear o4 g5 B4)
    | (at_builtin; refine wpList_app rfl _ _ rfl w.heap.size v5 (hd ++ [un]) rfl o5 ad l c zs rfl HN.out (HS.out.below B5) HL2.out B5.size ?_; intro v6 w6 o6 g6; have B6 : Below w.heap.size w w6 := bel_grown B5 o5 g6 (Nat.le_refl _) B5.size; rw [← e3.out] at o6; obtain ⟨g', c', hv, _, _⟩ := own_some o6 (by rw [mbL_len]; omega); subst hv; have R : NwT w w6 (.returned (.slice (some ⟨g', 0, none⟩) (mbL nu un zs).length c')) (mbL nu un zs) := ⟨_, c', _, rfl, rfl, o6, B6⟩; clear o6 g6 o5 B5))
  go_ret
  exact R

set_option maxRecDepth 20000 in
set_option maxHeartbeats 4000000 in
theorem implPutMbap_any (nu un : Int) (a : Option Addr) (l c : Nat) (zs : List Int) (w : World) (hn : l = zs.length) (hs : Sl w a zs) (hl : zs.length ≤ 2000000) :
    Calls Try.prog 110 #[.int .i64 nu, .int .i64 un, .slice a l c] w fun e w' => NwT w w' e (mbV nu un zs) := by
  have hl2 : l ≤ 2000000 := by omega
  by_cases t_n1 : 0 ≤ nu
  case neg =>
    rw [mbV_no (by omega)]
    clear hn hs hl
    go_enter Try.func110, Try.ntmps110
    go_wp2_with (first | (go_at_call 112; go_in) | (go_at_call 94; go_in) | (go_at_call 65; go_in))
    go_ret
    exact nwt_nil _
  by_cases t_n2 : nu ≤ 65535
  case neg =>
    rw [mbV_no (by omega)]
    clear hn hs hl
    go_enter Try.func110, Try.ntmps110
    go_wp2_with (first | (go_at_call 112; go_in) | (go_at_call 94; go_in) | (go_at_call 65; go_in))
    go_ret
    exact nwt_nil _
  by_cases t_u1 : 0 ≤ un
  case neg =>
    rw [mbV_no (by omega)]
    clear hn hs hl
    go_enter Try.func110, Try.ntmps110
    go_wp2_with (first | (go_at_call 112; go_in) | (go_at_call 94; go_in) | (go_at_call 65; go_in))
    go_ret
    exact nwt_nil _
  by_cases t_u2 : un ≤ 255
  case neg =>
    rw [mbV_no (by omega)]
    clear hn hs hl
    go_enter Try.func110, Try.ntmps110
    go_wp2_with (first | (go_at_call 112; go_in) | (go_at_call 94; go_in) | (go_at_call 65; go_in))
    go_ret
    exact nwt_nil _
  by_cases t_l1 : 1 ≤ (l : Int)
  case neg =>
    rw [mbV_no (by omega)]
    obtain rfl : l = 0 := by omega
    clear hn hs hl
    go_enter Try.func110, Try.ntmps110
    go_wp2_with (first | (go_at_call 112; go_in) | (go_at_call 94; go_in) | (go_at_call 65; go_in))
    go_ret
    exact nwt_nil _
  by_cases t_l2 : (l : Int) ≤ 253
  case neg =>
    rw [mbV_no (by omega)]
    clear hn hs hl
    go_enter Try.func110, Try.ntmps110
    go_wp2_with (first | (go_at_call 112; go_in) | (go_at_call 94; go_in) | (go_at_call 65; go_in))
    go_ret
    exact nwt_nil _
  rw [mbV_yes (by omega)]
  obtain ⟨ad, rfl⟩ := sl_some hs (by omega)
  have HS : Hid (Sl w (some ad) zs) := hs
  have HN : Hid (l = zs.length) := hn
  have HLz : Hid (zs.length ≤ 253) := by show zs.length ≤ 253; omega
  have B0 := bel_alloc w (.cells #[.int .i64 nu, .int .i64 0, .int .i64 ((l : Int) + 1)] 3)
  have i1 : (1 : Int) + (l : Int) = (l : Int) + 1 := by omega
  clear hn hs hl
  go_enter Try.func110, Try.ntmps110
  go_wp2_with (first | (go_at_call 112; go_in) | (go_at_call 94; go_in) | (go_at_call 65; go_in))
  refine (wordBytes_any _ _ _ [nu, 0, (l : Int) + 1] _ rfl (lit_slI3 _ _ _ _ rfl) (by simp) (by simp)).mono ?_
  rintro e w3 ⟨g3, c3, n3, rfl, hn3, o3', b3'⟩
  have B3 := bel_next B0 b3'
  have o3 : Own w3 w.heap.size _ _ := o3'.monoT B0.size
  have e3 : Hid (mbL nu un zs = wbs [nu, 0, (l : Int) + 1] ++ [un] ++ zs) := by show mbL nu un zs = _; rw [show (l : Int) = (zs.length : Int) by rw [HN.out]]; simp [mbL, wbs]
  have HH : Hid ((wbs [nu, 0, (l : Int) + 1]).length = 6) := hide (by simp [wbs])
  subst hn3
  clear b3' B0 o3'
  generalize wbs [nu, 0, (l : Int) + 1] = hd at *
  have hh := HH.out
  rw [hh] at o3 ⊢
  have B4 := bel_next B3 (bel_alloc w3 (.cells #[.int .u8 un] 5))
  have o4 := o3.below (bel_alloc w3 (.cells #[.int .u8 un] 5))
  have HL1 : Hid (hd.length + [un].length ≤ 4000000) := by show hd.length + [un].length ≤ 4000000; rw [hh]; simp
  have HL2 : Hid ((hd ++ [un]).length + zs.length ≤ 4000000) := by show (hd ++ [un]).length + zs.length ≤ 4000000; have := HLz.out; simp; omega
  clear o3 hh
  go_wp2_with (first
    | (at_builtin; refine wpList_app rfl _ _ rfl w.heap.size (.slice (some ⟨g3, 0, none⟩) 6 c3) hd rfl o4 ⟨w3.heap.size, 0, none⟩ 1 1 [un] rfl rfl (sl_lit1 _ _ rfl) HL1.out B4.size ?_; intro v5 w5 o5 g5; have B5 : Below w.heap.size w w5 := bel_grown B4 o4 g5 (Nat.le_refl _) B4.size; clear o4 g5 B4)
    | (at_builtin; refine wpList_app rfl _ _ rfl w.heap.size v5 (hd ++ [un]) rfl o5 ad l c zs rfl HN.out (HS.out.below B5) HL2.out B5.size ?_; intro v6 w6 o6 g6; have B6 : Below w.heap.size w w6 := bel_grown B5 o5 g6 (Nat.le_refl _) B5.size; rw [← e3.out] at o6; obtain ⟨g', c', hv, _, _⟩ := own_some o6 (by rw [mbL_len]; omega); subst hv; have R : NwT w w6 (.returned (.slice (some ⟨g', 0, none⟩) (mbL nu un zs).length c')) (mbL nu un zs) := ⟨_, c', _, rfl, rfl, o6, B6⟩; clear o6 g6 o5 B5))
  go_ret
  exact R

end Go.Proofs.Ytimgohnnapaafaa

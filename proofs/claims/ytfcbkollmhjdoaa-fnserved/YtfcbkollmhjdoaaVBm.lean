/- Texts that the proof needs, joined. -/
import Derived.Test.YtfcbkollmhjdoaaVA
import Derived.Lib.AppendZeros
import Derived.Test.YtfcbkollmhjdoaaDev8
import Derived.Test.YtfcbkollmhjdoaaBits
import Derived.BigRegion
namespace Go.Proofs.Ytfcbkollmhjdoaa
open Go.RowKit

set_option linter.unusedVariables false

set_option linter.unusedSimpArgs false

theorem Df.fresh {w : World} {B s n : Nat} {e : TypeId} {v u : Value} {xs : List Value} (hv : v.ownBlock = some w.heap.size) (hu : w.ownsRow B e s u n xs) : Df v u := by
  rcases h : u.ownBlock with _ | k
  · exact .inr (.inl h)
  · refine .inr (.inr ?_)
    rw [hv, h]
    have := (World.ownsRow.lt hu k h).2
    simp; omega

structure CI (w : World) (a1 a2 a3 a4 : Option Addr) (l1 l2 l3 l4 c1 c2 c3 c4 : Nat) (cs is : List Bool) (hs rs : List Int) (b0 b1 b2 b3 b4 b5 b6 b7 b8 b9 b10 b11 b12 b13 b14 b15 b16 b17 : Bool) (t3 t4 t5 t6 t7 t8 t9 t10 t11 t12 t13 t14 t15 t16 t17 t18 t19 : Value) (u : World) : Prop where
  f0 : b0 = true → ∃ g, t3 = .slice (some ⟨g, 0, none⟩) 0 0 ∧ w.heap.size ≤ g ∧ OwnB u w.heap.size t3 []
  f1 : b1 = true → t4 = .pointer (some ⟨w.heap.size, 0, none⟩)
  f2 : b2 = true → t5 = .slice a1 l1 c1
  f3 : b3 = true → (∃ a' c', t6 = .slice a' l1 c') ∧ OwnB u w.heap.size t6 cs
  f4 : b4 = true → ∃ g, t7 = .slice (some ⟨g, 0, none⟩) 0 0 ∧ w.heap.size ≤ g ∧ OwnB u w.heap.size t7 []
  f5 : b5 = true → t8 = .pointer (some ⟨w.heap.size, 1, none⟩)
  f6 : b6 = true → t9 = .slice a2 l2 c2
  f7 : b7 = true → (∃ a' c', t10 = .slice a' l2 c') ∧ OwnB u w.heap.size t10 is
  f8 : b8 = true → ∃ g, t11 = .slice (some ⟨g, 0, none⟩) 0 0 ∧ w.heap.size ≤ g ∧ OwnI u w.heap.size t11 []
  f9 : b9 = true → t12 = .pointer (some ⟨w.heap.size, 2, none⟩)
  f10 : b10 = true → t13 = .slice a3 l3 c3
  f11 : b11 = true → (∃ a' c', t14 = .slice a' l3 c') ∧ OwnI u w.heap.size t14 hs
  f12 : b12 = true → ∃ g, t15 = .slice (some ⟨g, 0, none⟩) 0 0 ∧ w.heap.size ≤ g ∧ OwnI u w.heap.size t15 []
  f13 : b13 = true → t16 = .pointer (some ⟨w.heap.size, 3, none⟩)
  f14 : b14 = true → t17 = .slice a4 l4 c4
  f15 : b15 = true → (∃ a' c', t18 = .slice a' l4 c') ∧ OwnI u w.heap.size t18 rs
  f16 : b16 = true → t19 = .agg #[t6, t10, t14, t18]
  g16 : b16 = true → b3 = true ∧ b7 = true ∧ b11 = true ∧ b15 = true
  g17 : b17 = true → b16 = true
  f17 : b17 = true → Blk u (w.heap.size + 1) 36 #[t6, t10, t14, t18]
  z17 : b17 = false → Blk u (w.heap.size + 1) 36 #[.slice none 0 0, .slice none 0 0, .slice none 0 0, .slice none 0 0]
  d0_4 : b0 = true → b4 = true → Df t3 t7
  d0_7 : b0 = true → b7 = true → Df t3 t10
  d3_4 : b3 = true → b4 = true → Df t6 t7
  d3_7 : b3 = true → b7 = true → Df t6 t10
  d8_12 : b8 = true → b12 = true → Df t11 t15
  d8_15 : b8 = true → b15 = true → Df t11 t18
  d11_12 : b11 = true → b12 = true → Df t14 t15
  d11_15 : b11 = true → b15 = true → Df t14 t18
  bx : Blk u w.heap.size 36 #[.slice a1 l1 c1, .slice a2 l2 c2, .slice a3 l3 c3, .slice a4 l4 c4]
  bel : Below w.heap.size w u

theorem CI.below {w : World} {a1 a2 a3 a4 : Option Addr} {l1 l2 l3 l4 c1 c2 c3 c4 : Nat} {cs is : List Bool} {hs rs : List Int} {b0 b1 b2 b3 b4 b5 b6 b7 b8 b9 b10 b11 b12 b13 b14 b15 b16 b17 : Bool} {t3 t4 t5 t6 t7 t8 t9 t10 t11 t12 t13 t14 t15 t16 t17 t18 t19 : Value} {u u' : World} (F : CI w a1 a2 a3 a4 l1 l2 l3 l4 c1 c2 c3 c4 cs is hs rs b0 b1 b2 b3 b4 b5 b6 b7 b8 b9 b10 b11 b12 b13 b14 b15 b16 b17 t3 t4 t5 t6 t7 t8 t9 t10 t11 t12 t13 t14 t15 t16 t17 t18 t19 u) (hb : Below u.heap.size u u') : CI w a1 a2 a3 a4 l1 l2 l3 l4 c1 c2 c3 c4 cs is hs rs b0 b1 b2 b3 b4 b5 b6 b7 b8 b9 b10 b11 b12 b13 b14 b15 b16 b17 t3 t4 t5 t6 t7 t8 t9 t10 t11 t12 t13 t14 t15 t16 t17 t18 t19 u' where
  f0 := fun h => by obtain ⟨g, e, h1, o⟩ := F.f0 h; exact ⟨g, e, h1, o.below hb⟩
  f1 := F.f1
  f2 := F.f2
  f3 := fun h => ⟨(F.f3 h).1, (F.f3 h).2.below hb⟩
  f4 := fun h => by obtain ⟨g, e, h1, o⟩ := F.f4 h; exact ⟨g, e, h1, o.below hb⟩
  f5 := F.f5
  f6 := F.f6
  f7 := fun h => ⟨(F.f7 h).1, (F.f7 h).2.below hb⟩
  f8 := fun h => by obtain ⟨g, e, h1, o⟩ := F.f8 h; exact ⟨g, e, h1, o.below hb⟩
  f9 := F.f9
  f10 := F.f10
  f11 := fun h => ⟨(F.f11 h).1, (F.f11 h).2.below hb⟩
  f12 := fun h => by obtain ⟨g, e, h1, o⟩ := F.f12 h; exact ⟨g, e, h1, o.below hb⟩
  f13 := F.f13
  f14 := F.f14
  f15 := fun h => ⟨(F.f15 h).1, (F.f15 h).2.below hb⟩
  f16 := F.f16
  g16 := F.g16
  g17 := F.g17
  f17 := fun h => (F.f17 h).below hb
  z17 := fun h => (F.z17 h).below hb
  d0_4 := F.d0_4
  d0_7 := F.d0_7
  d3_4 := F.d3_4
  d3_7 := F.d3_7
  d8_12 := F.d8_12
  d8_15 := F.d8_15
  d11_12 := F.d11_12
  d11_15 := F.d11_15
  bx := F.bx.below hb
  bel := bel_next F.bel hb

def CInv (w : World) (a1 a2 a3 a4 : Option Addr) (l1 l2 l3 l4 c1 c2 c3 c4 : Nat) (cs is : List Bool) (hs rs : List Int) (l : Array Bool) (act : Act) (u : World) : Prop :=
  ∃ b0 b1 b2 b3 b4 b5 b6 b7 b8 b9 b10 b11 b12 b13 b14 b15 b16 b17 : Bool, l = #[b0, b1, b2, b3, b4, b5, b6, b7, b8, b9, b10, b11, b12, b13, b14, b15, b16, b17] ∧ ∃ t3 t4 t5 t6 t7 t8 t9 t10 t11 t12 t13 t14 t15 t16 t17 t18 t19 : Value, act = { tmps := #[dv a1 a2 a3 a4 l1 l2 l3 l4 c1 c2 c3 c4, .pointer (some ⟨w.heap.size, 0, none⟩), .pointer (some ⟨w.heap.size + 1, 0, none⟩), t3, t4, t5, t6, t7, t8, t9, t10, t11, t12, t13, t14, t15, t16, t17, t18, t19], defers := [] } ∧ CI w a1 a2 a3 a4 l1 l2 l3 l4 c1 c2 c3 c4 cs is hs rs b0 b1 b2 b3 b4 b5 b6 b7 b8 b9 b10 b11 b12 b13 b14 b15 b16 b17 t3 t4 t5 t6 t7 t8 t9 t10 t11 t12 t13 t14 t15 t16 t17 t18 t19 u

set_option maxRecDepth 20000 in
set_option maxHeartbeats 4000000 in
theorem l5Copy_any (a1 a2 a3 a4 : Option Addr) (l1 l2 l3 l4 c1 c2 c3 c4 : Nat) (cs is : List Bool) (hs rs : List Int) (w : World) (hn : LnD l1 l2 l3 l4 cs is hs rs) (hs0 : SlD w a1 a2 a3 a4 cs is hs rs) (hsm : SmD 2000000 cs is hs rs) :
    Calls Try.prog 66 #[dv a1 a2 a3 a4 l1 l2 l3 l4 c1 c2 c3 c4] w fun e w' => ∃ x1 x2 x3 x4 d1 d2 d3 d4, e = .returned (dv x1 x2 x3 x4 l1 l2 l3 l4 d1 d2 d3 d4) ∧ OwnD w' w.heap.size x1 x2 x3 x4 l1 l2 l3 l4 d1 d2 d3 d4 cs is hs rs ∧ Below w.heap.size w w' := by
  obtain ⟨z, hz⟩ : ∃ z, z = (w.alloc (.cells #[.slice a1 l1 c1, .slice a2 l2 c2, .slice a3 l3 c3, .slice a4 l4 c4] 36)).alloc (.cells #[.slice none 0 0, .slice none 0 0, .slice none 0 0, .slice none 0 0] 36) := ⟨_, rfl⟩
  have HZ : Hid (z = _) := hz
  have b0 : Below w.heap.size w z := by rw [hz]; exact bel_next (bel_alloc w _) (bel_alloc _ _)
  have X0 : Blk z w.heap.size 36 #[.slice a1 l1 c1, .slice a2 l2 c2, .slice a3 l3 c3, .slice a4 l4 c4] := by rw [hz]; exact (Blk.new w _ _).below (bel_alloc _ _)
  have R0 : Blk z (w.heap.size + 1) 36 #[.slice none 0 0, .slice none 0 0, .slice none 0 0, .slice none 0 0] := by rw [hz]; have := Blk.new (w.alloc (.cells #[.slice a1 l1 c1, .slice a2 l2 c2, .slice a3 l3 c3, .slice a4 l4 c4] 36)) #[.slice none 0 0, .slice none 0 0, .slice none 0 0, .slice none 0 0] 36; simpa using this
  have HN : Hid (LnD l1 l2 l3 l4 cs is hs rs ∧ SlD w a1 a2 a3 a4 cs is hs rs ∧ SmD 2000000 cs is hs rs) := ⟨hn, hs0, hsm⟩
  clear hz hn hs0 hsm
  go_enter Try.func66, Try.ntmps66
  go_upto_region 1 with fail
  rw [← HZ.out]
  refine wp_region_any (by kernel_rfl) ?_
  refine wpAny_inv (CInv w a1 a2 a3 a4 l1 l2 l3 l4 c1 c2 c3 c4 cs is hs rs) ?_ ?_ ?_ _ _ _ _ rfl (by decide) ?_
  · kernel_rfl
  · rintro l act u ⟨b0, b1, b2, b3, b4, b5, b6, b7, b8, b9, b10, b11, b12, b13, b14, b15, b16, b17, rfl, t3, t4, t5, t6, t7, t8, t9, t10, t11, t12, t13, t14, t15, t16, t17, t18, t19, rfl, F⟩ hall
    obtain rfl : b0 = true := hall 0 (by simp)
    obtain rfl : b1 = true := hall 1 (by simp)
    obtain rfl : b2 = true := hall 2 (by simp)
    obtain rfl : b3 = true := hall 3 (by simp)
    obtain rfl : b4 = true := hall 4 (by simp)
    obtain rfl : b5 = true := hall 5 (by simp)
    obtain rfl : b6 = true := hall 6 (by simp)
    obtain rfl : b7 = true := hall 7 (by simp)
    obtain rfl : b8 = true := hall 8 (by simp)
    obtain rfl : b9 = true := hall 9 (by simp)
    obtain rfl : b10 = true := hall 10 (by simp)
    obtain rfl : b11 = true := hall 11 (by simp)
    obtain rfl : b12 = true := hall 12 (by simp)
    obtain rfl : b13 = true := hall 13 (by simp)
    obtain rfl : b14 = true := hall 14 (by simp)
    obtain rfl : b15 = true := hall 15 (by simp)
    obtain rfl : b16 = true := hall 16 (by simp)
    obtain rfl : b17 = true := hall 17 (by simp)
    obtain ⟨⟨x1, d1, rfl⟩, o1⟩ := F.f3 rfl
    obtain ⟨⟨x2, d2, rfl⟩, o2⟩ := F.f7 rfl
    obtain ⟨⟨x3, d3, rfl⟩, o3⟩ := F.f11 rfl
    obtain ⟨⟨x4, d4, rfl⟩, o4⟩ := F.f15 rfl
    have R := F.f17 rfl
    have hB := F.bel
    have D1 := F.d3_7 rfl rfl
    have D2 := F.d11_15 rfl rfl
    obtain ⟨s0, s1, s2, s3⟩ := R.four
    clear F
    go_wp2
    refine bodyPost_ret (v := dv x1 x2 x3 x4 l1 l2 l3 l4 d1 d2 d3 d4) (by simp [results, Try.results66, go_sem, s0, s1, s2, s3]) rfl ?_
    exact ⟨_, _, _, _, _, _, _, _, rfl, ⟨o1, o2, o3, o4, D1, D2⟩, hB⟩
  · rintro l act u i o ⟨b0, b1, b2, b3, b4, b5, b6, b7, b8, b9, b10, b11, b12, b13, b14, b15, b16, b17, rfl, t3, t4, t5, t6, t7, t8, t9, t10, t11, t12, t13, t14, t15, t16, t17, t18, t19, rfl, F⟩ ho hl hd K hK
    have hi : i < 18 := by
      have := (Array.getElem?_eq_some_iff.1 ho).1
      simpa using this
    have hX := F.bx
    obtain ⟨x0, x1, x2, x3⟩ := hX.four
    obtain rfl | rfl | rfl | rfl | rfl | rfl | rfl | rfl | rfl | rfl | rfl | rfl | rfl | rfl | rfl | rfl | rfl | rfl : i = 0 ∨ i = 1 ∨ i = 2 ∨ i = 3 ∨ i = 4 ∨ i = 5 ∨ i = 6 ∨ i = 7 ∨ i = 8 ∨ i = 9 ∨ i = 10 ∨ i = 11 ∨ i = 12 ∨ i = 13 ∨ i = 14 ∨ i = 15 ∨ i = 16 ∨ i = 17 := by omega
    all_goals (injection ho with ho; subst ho)
    · -- 0
      have hb := bel_alloc u (.cells #[] 4)
      have G := F.below hb
      have ol : OwnB (u.alloc (.cells #[] 4)) w.heap.size (.slice (some ⟨u.heap.size, 0, none⟩) 0 0) [] := ⟨rfl, .inr ⟨u.heap.size, 0, #[], rfl, F.bel.size, Blk.new u #[] 4, by simp, by simp, rfl, rfl⟩⟩
      go_simp
      refine hK _ _ ?_
      exact ⟨true, b1, b2, b3, b4, b5, b6, b7, b8, b9, b10, b11, b12, b13, b14, b15, b16, b17, rfl, _, _, _, _, _, _, _, _, _, _, _, _, _, _, _, _, _, rfl, { f0 := fun _ => ⟨_, rfl, F.bel.size, ol⟩, f1 := G.f1, f2 := G.f2, f3 := G.f3, f4 := G.f4, f5 := G.f5, f6 := G.f6, f7 := G.f7, f8 := G.f8, f9 := G.f9, f10 := G.f10, f11 := G.f11, f12 := G.f12, f13 := G.f13, f14 := G.f14, f15 := G.f15, f16 := G.f16, g16 := G.g16, g17 := G.g17, f17 := G.f17, z17 := G.z17, d0_4 := fun _ h => Df.fresh rfl (by obtain ⟨g, e, _, o⟩ := F.f4 h; exact o), d0_7 := fun _ h => Df.fresh rfl (F.f7 h).2, d3_4 := G.d3_4, d3_7 := G.d3_7, d8_12 := G.d8_12, d8_15 := G.d8_15, d11_12 := G.d11_12, d11_15 := G.d11_15, bx := G.bx, bel := G.bel }⟩
    · -- 1
      go_simp
      refine hK _ _ ?_
      exact ⟨b0, true, b2, b3, b4, b5, b6, b7, b8, b9, b10, b11, b12, b13, b14, b15, b16, b17, rfl, _, _, _, _, _, _, _, _, _, _, _, _, _, _, _, _, _, rfl, { f0 := F.f0, f1 := fun _ => rfl, f2 := F.f2, f3 := F.f3, f4 := F.f4, f5 := F.f5, f6 := F.f6, f7 := F.f7, f8 := F.f8, f9 := F.f9, f10 := F.f10, f11 := F.f11, f12 := F.f12, f13 := F.f13, f14 := F.f14, f15 := F.f15, f16 := F.f16, g16 := F.g16, g17 := F.g17, f17 := F.f17, z17 := F.z17, d0_4 := F.d0_4, d0_7 := F.d0_7, d3_4 := F.d3_4, d3_7 := F.d3_7, d8_12 := F.d8_12, d8_15 := F.d8_15, d11_12 := F.d11_12, d11_15 := F.d11_15, bx := F.bx, bel := F.bel }⟩
    · -- 2
      obtain rfl := F.f1 (hd ⟨1, .data⟩ (by simp) rfl)
      go_simp
      refine hK _ _ ?_
      exact ⟨b0, b1, true, b3, b4, b5, b6, b7, b8, b9, b10, b11, b12, b13, b14, b15, b16, b17, rfl, _, _, _, _, _, _, _, _, _, _, _, _, _, _, _, _, _, rfl, { f0 := F.f0, f1 := F.f1, f2 := fun _ => rfl, f3 := F.f3, f4 := F.f4, f5 := F.f5, f6 := F.f6, f7 := F.f7, f8 := F.f8, f9 := F.f9, f10 := F.f10, f11 := F.f11, f12 := F.f12, f13 := F.f13, f14 := F.f14, f15 := F.f15, f16 := F.f16, g16 := F.g16, g17 := F.g17, f17 := F.f17, z17 := F.z17, d0_4 := F.d0_4, d0_7 := F.d0_7, d3_4 := F.d3_4, d3_7 := F.d3_7, d8_12 := F.d8_12, d8_15 := F.d8_15, d11_12 := F.d11_12, d11_15 := F.d11_15, bx := F.bx, bel := F.bel }⟩
    · -- 3
      have hbl : b0 = true := hd ⟨0, .data⟩ (by simp) rfl
      have hself : b3 = false := hl
      have nb16 : b16 = false := by cases hx : b16; rfl; have := (F.g16 hx).1; rw [hself] at this; exact absurd this (by decide)
      obtain ⟨g, rfl, hg, og⟩ := F.f0 hbl
      obtain rfl := F.f2 (hd ⟨2, .data⟩ (by simp) rfl)
      refine step_app0B rfl (.tmp 3) (.tmp 5) rfl rfl g w.heap.size a1 l1 c1 cs rfl rfl HN.out.1.1 (HN.out.2.1.1.below F.bel) HN.out.2.2.1 hg og ?_
      intro v u' ov hb hv hsh
      have G := F.below hb
      refine hK _ _ ?_
      exact ⟨b0, b1, b2, true, b4, b5, b6, b7, b8, b9, b10, b11, b12, b13, b14, b15, b16, b17, rfl, _, _, _, _, _, _, _, _, _, _, _, _, _, _, _, _, _, rfl, { f0 := G.f0, f1 := G.f1, f2 := G.f2, f3 := fun _ => ⟨hsh, ov⟩, f4 := G.f4, f5 := G.f5, f6 := G.f6, f7 := G.f7, f8 := G.f8, f9 := G.f9, f10 := G.f10, f11 := G.f11, f12 := G.f12, f13 := G.f13, f14 := G.f14, f15 := G.f15, f16 := fun h => by rw [nb16] at h; exact absurd h (by decide), g16 := fun h => by rw [nb16] at h; exact absurd h (by decide), g17 := G.g17, f17 := fun h => by have := F.g17 h; rw [nb16] at this; exact absurd this (by decide), z17 := G.z17, d0_4 := G.d0_4, d0_7 := G.d0_7, d3_4 := fun _ h => by rcases hv with rfl | hv; exact F.d0_4 hbl h; exact Df.fresh hv (by obtain ⟨g, e, _, o⟩ := F.f4 h; exact o), d3_7 := fun _ h => by rcases hv with rfl | hv; exact F.d0_7 hbl h; exact Df.fresh hv (F.f7 h).2, d8_12 := G.d8_12, d8_15 := G.d8_15, d11_12 := G.d11_12, d11_15 := G.d11_15, bx := G.bx, bel := G.bel }⟩
    · -- 4
      have hb := bel_alloc u (.cells #[] 4)
      have G := F.below hb
      have ol : OwnB (u.alloc (.cells #[] 4)) w.heap.size (.slice (some ⟨u.heap.size, 0, none⟩) 0 0) [] := ⟨rfl, .inr ⟨u.heap.size, 0, #[], rfl, F.bel.size, Blk.new u #[] 4, by simp, by simp, rfl, rfl⟩⟩
      go_simp
      refine hK _ _ ?_
      exact ⟨b0, b1, b2, b3, true, b5, b6, b7, b8, b9, b10, b11, b12, b13, b14, b15, b16, b17, rfl, _, _, _, _, _, _, _, _, _, _, _, _, _, _, _, _, _, rfl, { f0 := G.f0, f1 := G.f1, f2 := G.f2, f3 := G.f3, f4 := fun _ => ⟨_, rfl, F.bel.size, ol⟩, f5 := G.f5, f6 := G.f6, f7 := G.f7, f8 := G.f8, f9 := G.f9, f10 := G.f10, f11 := G.f11, f12 := G.f12, f13 := G.f13, f14 := G.f14, f15 := G.f15, f16 := G.f16, g16 := G.g16, g17 := G.g17, f17 := G.f17, z17 := G.z17, d0_4 := fun h _ => (Df.fresh rfl (by obtain ⟨g, e, _, o⟩ := F.f0 h; exact o)).symm, d0_7 := G.d0_7, d3_4 := fun h _ => (Df.fresh rfl (F.f3 h).2).symm, d3_7 := G.d3_7, d8_12 := G.d8_12, d8_15 := G.d8_15, d11_12 := G.d11_12, d11_15 := G.d11_15, bx := G.bx, bel := G.bel }⟩
    · -- 5
      go_simp
      refine hK _ _ ?_
      exact ⟨b0, b1, b2, b3, b4, true, b6, b7, b8, b9, b10, b11, b12, b13, b14, b15, b16, b17, rfl, _, _, _, _, _, _, _, _, _, _, _, _, _, _, _, _, _, rfl, { f0 := F.f0, f1 := F.f1, f2 := F.f2, f3 := F.f3, f4 := F.f4, f5 := fun _ => rfl, f6 := F.f6, f7 := F.f7, f8 := F.f8, f9 := F.f9, f10 := F.f10, f11 := F.f11, f12 := F.f12, f13 := F.f13, f14 := F.f14, f15 := F.f15, f16 := F.f16, g16 := F.g16, g17 := F.g17, f17 := F.f17, z17 := F.z17, d0_4 := F.d0_4, d0_7 := F.d0_7, d3_4 := F.d3_4, d3_7 := F.d3_7, d8_12 := F.d8_12, d8_15 := F.d8_15, d11_12 := F.d11_12, d11_15 := F.d11_15, bx := F.bx, bel := F.bel }⟩
    · -- 6
      obtain rfl := F.f5 (hd ⟨5, .data⟩ (by simp) rfl)
      go_simp
      refine hK _ _ ?_
      exact ⟨b0, b1, b2, b3, b4, b5, true, b7, b8, b9, b10, b11, b12, b13, b14, b15, b16, b17, rfl, _, _, _, _, _, _, _, _, _, _, _, _, _, _, _, _, _, rfl, { f0 := F.f0, f1 := F.f1, f2 := F.f2, f3 := F.f3, f4 := F.f4, f5 := F.f5, f6 := fun _ => rfl, f7 := F.f7, f8 := F.f8, f9 := F.f9, f10 := F.f10, f11 := F.f11, f12 := F.f12, f13 := F.f13, f14 := F.f14, f15 := F.f15, f16 := F.f16, g16 := F.g16, g17 := F.g17, f17 := F.f17, z17 := F.z17, d0_4 := F.d0_4, d0_7 := F.d0_7, d3_4 := F.d3_4, d3_7 := F.d3_7, d8_12 := F.d8_12, d8_15 := F.d8_15, d11_12 := F.d11_12, d11_15 := F.d11_15, bx := F.bx, bel := F.bel }⟩
    · -- 7
      have hbl : b4 = true := hd ⟨4, .data⟩ (by simp) rfl
      have hself : b7 = false := hl
      have nb16 : b16 = false := by cases hx : b16; rfl; have := (F.g16 hx).2.1; rw [hself] at this; exact absurd this (by decide)
      obtain ⟨g, rfl, hg, og⟩ := F.f4 hbl
      obtain rfl := F.f6 (hd ⟨6, .data⟩ (by simp) rfl)
      refine step_app0B rfl (.tmp 7) (.tmp 9) rfl rfl g w.heap.size a2 l2 c2 is rfl rfl HN.out.1.2.1 (HN.out.2.1.2.1.below F.bel) HN.out.2.2.2.1 hg og ?_
      intro v u' ov hb hv hsh
      have G := F.below hb
      refine hK _ _ ?_
      exact ⟨b0, b1, b2, b3, b4, b5, b6, true, b8, b9, b10, b11, b12, b13, b14, b15, b16, b17, rfl, _, _, _, _, _, _, _, _, _, _, _, _, _, _, _, _, _, rfl, { f0 := G.f0, f1 := G.f1, f2 := G.f2, f3 := G.f3, f4 := G.f4, f5 := G.f5, f6 := G.f6, f7 := fun _ => ⟨hsh, ov⟩, f8 := G.f8, f9 := G.f9, f10 := G.f10, f11 := G.f11, f12 := G.f12, f13 := G.f13, f14 := G.f14, f15 := G.f15, f16 := fun h => by rw [nb16] at h; exact absurd h (by decide), g16 := fun h => by rw [nb16] at h; exact absurd h (by decide), g17 := G.g17, f17 := fun h => by have := F.g17 h; rw [nb16] at this; exact absurd this (by decide), z17 := G.z17, d0_4 := G.d0_4, d0_7 := fun h _ => by rcases hv with rfl | hv; exact F.d0_4 h hbl; exact (Df.fresh hv (by obtain ⟨g, e, _, o⟩ := F.f0 h; exact o)).symm, d3_4 := G.d3_4, d3_7 := fun h _ => by rcases hv with rfl | hv; exact F.d3_4 h hbl; exact (Df.fresh hv (F.f3 h).2).symm, d8_12 := G.d8_12, d8_15 := G.d8_15, d11_12 := G.d11_12, d11_15 := G.d11_15, bx := G.bx, bel := G.bel }⟩
    · -- 8
      have hb := bel_alloc u (.cells #[] 3)
      have G := F.below hb
      have ol : OwnI (u.alloc (.cells #[] 3)) w.heap.size (.slice (some ⟨u.heap.size, 0, none⟩) 0 0) [] := ⟨rfl, .inr ⟨u.heap.size, 0, #[], rfl, F.bel.size, Blk.new u #[] 3, by simp, by simp, rfl, rfl⟩⟩
      go_simp
      refine hK _ _ ?_
      exact ⟨b0, b1, b2, b3, b4, b5, b6, b7, true, b9, b10, b11, b12, b13, b14, b15, b16, b17, rfl, _, _, _, _, _, _, _, _, _, _, _, _, _, _, _, _, _, rfl, { f0 := G.f0, f1 := G.f1, f2 := G.f2, f3 := G.f3, f4 := G.f4, f5 := G.f5, f6 := G.f6, f7 := G.f7, f8 := fun _ => ⟨_, rfl, F.bel.size, ol⟩, f9 := G.f9, f10 := G.f10, f11 := G.f11, f12 := G.f12, f13 := G.f13, f14 := G.f14, f15 := G.f15, f16 := G.f16, g16 := G.g16, g17 := G.g17, f17 := G.f17, z17 := G.z17, d0_4 := G.d0_4, d0_7 := G.d0_7, d3_4 := G.d3_4, d3_7 := G.d3_7, d8_12 := fun _ h => Df.fresh rfl (by obtain ⟨g, e, _, o⟩ := F.f12 h; exact o), d8_15 := fun _ h => Df.fresh rfl (F.f15 h).2, d11_12 := G.d11_12, d11_15 := G.d11_15, bx := G.bx, bel := G.bel }⟩
    · -- 9
      go_simp
      refine hK _ _ ?_
      exact ⟨b0, b1, b2, b3, b4, b5, b6, b7, b8, true, b10, b11, b12, b13, b14, b15, b16, b17, rfl, _, _, _, _, _, _, _, _, _, _, _, _, _, _, _, _, _, rfl, { f0 := F.f0, f1 := F.f1, f2 := F.f2, f3 := F.f3, f4 := F.f4, f5 := F.f5, f6 := F.f6, f7 := F.f7, f8 := F.f8, f9 := fun _ => rfl, f10 := F.f10, f11 := F.f11, f12 := F.f12, f13 := F.f13, f14 := F.f14, f15 := F.f15, f16 := F.f16, g16 := F.g16, g17 := F.g17, f17 := F.f17, z17 := F.z17, d0_4 := F.d0_4, d0_7 := F.d0_7, d3_4 := F.d3_4, d3_7 := F.d3_7, d8_12 := F.d8_12, d8_15 := F.d8_15, d11_12 := F.d11_12, d11_15 := F.d11_15, bx := F.bx, bel := F.bel }⟩
    · -- 10
      obtain rfl := F.f9 (hd ⟨9, .data⟩ (by simp) rfl)
      go_simp
      refine hK _ _ ?_
      exact ⟨b0, b1, b2, b3, b4, b5, b6, b7, b8, b9, true, b11, b12, b13, b14, b15, b16, b17, rfl, _, _, _, _, _, _, _, _, _, _, _, _, _, _, _, _, _, rfl, { f0 := F.f0, f1 := F.f1, f2 := F.f2, f3 := F.f3, f4 := F.f4, f5 := F.f5, f6 := F.f6, f7 := F.f7, f8 := F.f8, f9 := F.f9, f10 := fun _ => rfl, f11 := F.f11, f12 := F.f12, f13 := F.f13, f14 := F.f14, f15 := F.f15, f16 := F.f16, g16 := F.g16, g17 := F.g17, f17 := F.f17, z17 := F.z17, d0_4 := F.d0_4, d0_7 := F.d0_7, d3_4 := F.d3_4, d3_7 := F.d3_7, d8_12 := F.d8_12, d8_15 := F.d8_15, d11_12 := F.d11_12, d11_15 := F.d11_15, bx := F.bx, bel := F.bel }⟩
    · -- 11
      have hbl : b8 = true := hd ⟨8, .data⟩ (by simp) rfl
      have hself : b11 = false := hl
      have nb16 : b16 = false := by cases hx : b16; rfl; have := (F.g16 hx).2.2.1; rw [hself] at this; exact absurd this (by decide)
      obtain ⟨g, rfl, hg, og⟩ := F.f8 hbl
      obtain rfl := F.f10 (hd ⟨10, .data⟩ (by simp) rfl)
      refine step_app0I rfl (.tmp 11) (.tmp 13) rfl rfl g w.heap.size a3 l3 c3 hs rfl rfl HN.out.1.2.2.1 (HN.out.2.1.2.2.1.below F.bel) HN.out.2.2.2.2.1 hg og ?_
      intro v u' ov hb hv hsh
      have G := F.below hb
      refine hK _ _ ?_
      exact ⟨b0, b1, b2, b3, b4, b5, b6, b7, b8, b9, b10, true, b12, b13, b14, b15, b16, b17, rfl, _, _, _, _, _, _, _, _, _, _, _, _, _, _, _, _, _, rfl, { f0 := G.f0, f1 := G.f1, f2 := G.f2, f3 := G.f3, f4 := G.f4, f5 := G.f5, f6 := G.f6, f7 := G.f7, f8 := G.f8, f9 := G.f9, f10 := G.f10, f11 := fun _ => ⟨hsh, ov⟩, f12 := G.f12, f13 := G.f13, f14 := G.f14, f15 := G.f15, f16 := fun h => by rw [nb16] at h; exact absurd h (by decide), g16 := fun h => by rw [nb16] at h; exact absurd h (by decide), g17 := G.g17, f17 := fun h => by have := F.g17 h; rw [nb16] at this; exact absurd this (by decide), z17 := G.z17, d0_4 := G.d0_4, d0_7 := G.d0_7, d3_4 := G.d3_4, d3_7 := G.d3_7, d8_12 := G.d8_12, d8_15 := G.d8_15, d11_12 := fun _ h => by rcases hv with rfl | hv; exact F.d8_12 hbl h; exact Df.fresh hv (by obtain ⟨g, e, _, o⟩ := F.f12 h; exact o), d11_15 := fun _ h => by rcases hv with rfl | hv; exact F.d8_15 hbl h; exact Df.fresh hv (F.f15 h).2, bx := G.bx, bel := G.bel }⟩
    · -- 12
      have hb := bel_alloc u (.cells #[] 3)
      have G := F.below hb
      have ol : OwnI (u.alloc (.cells #[] 3)) w.heap.size (.slice (some ⟨u.heap.size, 0, none⟩) 0 0) [] := ⟨rfl, .inr ⟨u.heap.size, 0, #[], rfl, F.bel.size, Blk.new u #[] 3, by simp, by simp, rfl, rfl⟩⟩
      go_simp
      refine hK _ _ ?_
      exact ⟨b0, b1, b2, b3, b4, b5, b6, b7, b8, b9, b10, b11, true, b13, b14, b15, b16, b17, rfl, _, _, _, _, _, _, _, _, _, _, _, _, _, _, _, _, _, rfl, { f0 := G.f0, f1 := G.f1, f2 := G.f2, f3 := G.f3, f4 := G.f4, f5 := G.f5, f6 := G.f6, f7 := G.f7, f8 := G.f8, f9 := G.f9, f10 := G.f10, f11 := G.f11, f12 := fun _ => ⟨_, rfl, F.bel.size, ol⟩, f13 := G.f13, f14 := G.f14, f15 := G.f15, f16 := G.f16, g16 := G.g16, g17 := G.g17, f17 := G.f17, z17 := G.z17, d0_4 := G.d0_4, d0_7 := G.d0_7, d3_4 := G.d3_4, d3_7 := G.d3_7, d8_12 := fun h _ => (Df.fresh rfl (by obtain ⟨g, e, _, o⟩ := F.f8 h; exact o)).symm, d8_15 := G.d8_15, d11_12 := fun h _ => (Df.fresh rfl (F.f11 h).2).symm, d11_15 := G.d11_15, bx := G.bx, bel := G.bel }⟩
    · -- 13
      go_simp
      refine hK _ _ ?_
      exact ⟨b0, b1, b2, b3, b4, b5, b6, b7, b8, b9, b10, b11, b12, true, b14, b15, b16, b17, rfl, _, _, _, _, _, _, _, _, _, _, _, _, _, _, _, _, _, rfl, { f0 := F.f0, f1 := F.f1, f2 := F.f2, f3 := F.f3, f4 := F.f4, f5 := F.f5, f6 := F.f6, f7 := F.f7, f8 := F.f8, f9 := F.f9, f10 := F.f10, f11 := F.f11, f12 := F.f12, f13 := fun _ => rfl, f14 := F.f14, f15 := F.f15, f16 := F.f16, g16 := F.g16, g17 := F.g17, f17 := F.f17, z17 := F.z17, d0_4 := F.d0_4, d0_7 := F.d0_7, d3_4 := F.d3_4, d3_7 := F.d3_7, d8_12 := F.d8_12, d8_15 := F.d8_15, d11_12 := F.d11_12, d11_15 := F.d11_15, bx := F.bx, bel := F.bel }⟩
    · -- 14
      obtain rfl := F.f13 (hd ⟨13, .data⟩ (by simp) rfl)
      go_simp
      refine hK _ _ ?_
      exact ⟨b0, b1, b2, b3, b4, b5, b6, b7, b8, b9, b10, b11, b12, b13, true, b15, b16, b17, rfl, _, _, _, _, _, _, _, _, _, _, _, _, _, _, _, _, _, rfl, { f0 := F.f0, f1 := F.f1, f2 := F.f2, f3 := F.f3, f4 := F.f4, f5 := F.f5, f6 := F.f6, f7 := F.f7, f8 := F.f8, f9 := F.f9, f10 := F.f10, f11 := F.f11, f12 := F.f12, f13 := F.f13, f14 := fun _ => rfl, f15 := F.f15, f16 := F.f16, g16 := F.g16, g17 := F.g17, f17 := F.f17, z17 := F.z17, d0_4 := F.d0_4, d0_7 := F.d0_7, d3_4 := F.d3_4, d3_7 := F.d3_7, d8_12 := F.d8_12, d8_15 := F.d8_15, d11_12 := F.d11_12, d11_15 := F.d11_15, bx := F.bx, bel := F.bel }⟩
    · -- 15
      have hbl : b12 = true := hd ⟨12, .data⟩ (by simp) rfl
      have hself : b15 = false := hl
      have nb16 : b16 = false := by cases hx : b16; rfl; have := (F.g16 hx).2.2.2; rw [hself] at this; exact absurd this (by decide)
      obtain ⟨g, rfl, hg, og⟩ := F.f12 hbl
      obtain rfl := F.f14 (hd ⟨14, .data⟩ (by simp) rfl)
      refine step_app0I rfl (.tmp 15) (.tmp 17) rfl rfl g w.heap.size a4 l4 c4 rs rfl rfl HN.out.1.2.2.2 (HN.out.2.1.2.2.2.below F.bel) HN.out.2.2.2.2.2 hg og ?_
      intro v u' ov hb hv hsh
      have G := F.below hb
      refine hK _ _ ?_
      exact ⟨b0, b1, b2, b3, b4, b5, b6, b7, b8, b9, b10, b11, b12, b13, b14, true, b16, b17, rfl, _, _, _, _, _, _, _, _, _, _, _, _, _, _, _, _, _, rfl, { f0 := G.f0, f1 := G.f1, f2 := G.f2, f3 := G.f3, f4 := G.f4, f5 := G.f5, f6 := G.f6, f7 := G.f7, f8 := G.f8, f9 := G.f9, f10 := G.f10, f11 := G.f11, f12 := G.f12, f13 := G.f13, f14 := G.f14, f15 := fun _ => ⟨hsh, ov⟩, f16 := fun h => by rw [nb16] at h; exact absurd h (by decide), g16 := fun h => by rw [nb16] at h; exact absurd h (by decide), g17 := G.g17, f17 := fun h => by have := F.g17 h; rw [nb16] at this; exact absurd this (by decide), z17 := G.z17, d0_4 := G.d0_4, d0_7 := G.d0_7, d3_4 := G.d3_4, d3_7 := G.d3_7, d8_12 := G.d8_12, d8_15 := fun h _ => by rcases hv with rfl | hv; exact F.d8_12 h hbl; exact (Df.fresh hv (by obtain ⟨g, e, _, o⟩ := F.f8 h; exact o)).symm, d11_12 := G.d11_12, d11_15 := fun h _ => by rcases hv with rfl | hv; exact F.d11_12 h hbl; exact (Df.fresh hv (F.f11 h).2).symm, bx := G.bx, bel := G.bel }⟩
    · -- 16
      obtain ⟨⟨y3, e3, rfl⟩, _⟩ := F.f3 (hd ⟨3, .data⟩ (by simp) rfl)
      obtain ⟨⟨y7, e7, rfl⟩, _⟩ := F.f7 (hd ⟨7, .data⟩ (by simp) rfl)
      obtain ⟨⟨y11, e11, rfl⟩, _⟩ := F.f11 (hd ⟨11, .data⟩ (by simp) rfl)
      obtain ⟨⟨y15, e15, rfl⟩, _⟩ := F.f15 (hd ⟨15, .data⟩ (by simp) rfl)
      go_simp
      refine hK _ _ ?_
      exact ⟨b0, b1, b2, b3, b4, b5, b6, b7, b8, b9, b10, b11, b12, b13, b14, b15, true, b17, rfl, _, _, _, _, _, _, _, _, _, _, _, _, _, _, _, _, _, rfl, { f0 := F.f0, f1 := F.f1, f2 := F.f2, f3 := F.f3, f4 := F.f4, f5 := F.f5, f6 := F.f6, f7 := F.f7, f8 := F.f8, f9 := F.f9, f10 := F.f10, f11 := F.f11, f12 := F.f12, f13 := F.f13, f14 := F.f14, f15 := F.f15, f16 := fun _ => rfl, g16 := fun _ => ⟨hd ⟨3, .data⟩ (by simp) rfl, hd ⟨7, .data⟩ (by simp) rfl, hd ⟨11, .data⟩ (by simp) rfl, hd ⟨15, .data⟩ (by simp) rfl⟩, g17 := fun _ => rfl, f17 := F.f17, z17 := F.z17, d0_4 := F.d0_4, d0_7 := F.d0_7, d3_4 := F.d3_4, d3_7 := F.d3_7, d8_12 := F.d8_12, d8_15 := F.d8_15, d11_12 := F.d11_12, d11_15 := F.d11_15, bx := F.bx, bel := F.bel }⟩
    · -- 17
      obtain ⟨⟨y3, e3, rfl⟩, o3⟩ := F.f3 (hd ⟨3, .phase⟩ (by simp) rfl)
      obtain ⟨⟨y7, e7, rfl⟩, o7⟩ := F.f7 (hd ⟨7, .phase⟩ (by simp) rfl)
      obtain ⟨⟨y11, e11, rfl⟩, o11⟩ := F.f11 (hd ⟨11, .phase⟩ (by simp) rfl)
      obtain ⟨⟨y15, e15, rfl⟩, o15⟩ := F.f15 (hd ⟨15, .phase⟩ (by simp) rfl)
      obtain rfl := F.f16 (hd ⟨16, .data⟩ (by simp) rfl)
      have hb17 : b17 = false := hl
      have R := F.z17 hb17
      obtain ⟨s0, s1, s2, s3⟩ := R.four
      have fr0 := R.fro 0
      have fr1 := R.fro 1
      have fr2 := R.fro 2
      have fr3 := R.fro 3
      go_simp
      refine hK _ _ ?_
      exact ⟨b0, b1, b2, b3, b4, b5, b6, b7, b8, b9, b10, b11, b12, b13, b14, b15, b16, true, rfl, _, _, _, _, _, _, _, _, _, _, _, _, _, _, _, _, _, rfl, { f0 := fun h => by obtain ⟨g, e, h1, o⟩ := F.f0 h; exact ⟨g, e, h1, row_set4 o ⟨_, R⟩ (by decide)⟩, f1 := F.f1, f2 := F.f2, f3 := fun h => ⟨(F.f3 h).1, row_set4 (F.f3 h).2 ⟨_, R⟩ (by decide)⟩, f4 := fun h => by obtain ⟨g, e, h1, o⟩ := F.f4 h; exact ⟨g, e, h1, row_set4 o ⟨_, R⟩ (by decide)⟩, f5 := F.f5, f6 := F.f6, f7 := fun h => ⟨(F.f7 h).1, row_set4 (F.f7 h).2 ⟨_, R⟩ (by decide)⟩, f8 := fun h => by obtain ⟨g, e, h1, o⟩ := F.f8 h; exact ⟨g, e, h1, row_set4 o ⟨_, R⟩ (by decide)⟩, f9 := F.f9, f10 := F.f10, f11 := fun h => ⟨(F.f11 h).1, row_set4 (F.f11 h).2 ⟨_, R⟩ (by decide)⟩, f12 := fun h => by obtain ⟨g, e, h1, o⟩ := F.f12 h; exact ⟨g, e, h1, row_set4 o ⟨_, R⟩ (by decide)⟩, f13 := F.f13, f14 := F.f14, f15 := fun h => ⟨(F.f15 h).1, row_set4 (F.f15 h).2 ⟨_, R⟩ (by decide)⟩, f16 := F.f16, g16 := F.g16, g17 := fun _ => hd ⟨16, .data⟩ (by simp) rfl, f17 := fun _ => by have := (((R.set 0 (.slice y3 l1 e3)).set 1 (.slice y7 l2 e7)).set 2 (.slice y11 l3 e11)).set 3 (.slice y15 l4 e15); simpa using this, z17 := fun h => absurd h (by decide), d0_4 := F.d0_4, d0_7 := F.d0_7, d3_4 := F.d3_4, d3_7 := F.d3_7, d8_12 := F.d8_12, d8_15 := F.d8_15, d11_12 := F.d11_12, d11_15 := F.d11_15, bx := (((F.bx.setNe (by omega)).setNe (by omega)).setNe (by omega)).setNe (by omega), bel := bel_set4 F.bel (by omega) }⟩
  · refine ⟨false, false, false, false, false, false, false, false, false, false, false, false, false, false, false, false, false, false, rfl, _, _, _, _, _, _, _, _, _, _, _, _, _, _, _, _, _, rfl, ?_⟩
    exact { f0 := fun h => absurd h (by decide), f1 := fun h => absurd h (by decide), f2 := fun h => absurd h (by decide), f3 := fun h => absurd h (by decide), f4 := fun h => absurd h (by decide), f5 := fun h => absurd h (by decide), f6 := fun h => absurd h (by decide), f7 := fun h => absurd h (by decide), f8 := fun h => absurd h (by decide), f9 := fun h => absurd h (by decide), f10 := fun h => absurd h (by decide), f11 := fun h => absurd h (by decide), f12 := fun h => absurd h (by decide), f13 := fun h => absurd h (by decide), f14 := fun h => absurd h (by decide), f15 := fun h => absurd h (by decide), f16 := fun h => absurd h (by decide), g16 := fun h => absurd h (by decide), g17 := fun h => absurd h (by decide), f17 := fun h => absurd h (by decide), z17 := fun _ => R0, d0_4 := fun h => absurd h (by decide), d0_7 := fun h => absurd h (by decide), d3_4 := fun h => absurd h (by decide), d3_7 := fun h => absurd h (by decide), d8_12 := fun h => absurd h (by decide), d8_15 := fun h => absurd h (by decide), d11_12 := fun h => absurd h (by decide), d11_15 := fun h => absurd h (by decide), bx := X0, bel := b0.drew }

end Go.Proofs.Ytfcbkollmhjdoaa

namespace Go.Proofs.Ytfcbkollmhjdoaa
open Go.RowKit

set_option linter.unusedVariables false

set_option linter.unusedSimpArgs false

theorem slI_lit4 (w : World) (x0 x1 x2 x3 : Int) : SlI (w.alloc (.cells #[.int .i64 x0, .int .i64 x1, .int .i64 x2, .int .i64 x3] 3)) (some ⟨w.heap.size, 0, none⟩) [x0, x1, x2, x3] :=
  .inr ⟨w.heap.size, 0, rfl, by simp, fun i hi => by
    have : i = 0 ∨ i = 1 ∨ i = 2 ∨ i = 3 := by simp at hi; omega
    rcases this with rfl | rfl | rfl | rfl <;> simp⟩

set_option maxRecDepth 20000 in
set_option maxHeartbeats 2000000 in
theorem l5There_any (a1 a2 a3 a4 : Option Addr) (l1 l2 l3 l4 c1 c2 c3 c4 : Nat) (kd pl nn wa : Int) (q1 q2 : Option Addr) (m1 m2 k1 k2 : Nat) (ws : List Int) (bs : List Bool) (w : World) (h1 : m1 = ws.length) (h2 : m2 = bs.length) (s1 : SlI w q1 ws) (s2 : SlB w q2 bs) (hl1 : ws.length ≤ 2000000) (hl2 : bs.length ≤ 2000000) (hok : okR kd pl nn wa ws m1 m2 = true) (n1 : l1 ≤ 2000000) (n2 : l2 ≤ 2000000) (n3 : l3 ≤ 2000000) (n4 : l4 ≤ 2000000) (b : Bool) (hb : svAll l1 l2 l3 l4 kd pl nn wa m1 m2 = b) :
    Calls Try.prog 68 #[dv a1 a2 a3 a4 l1 l2 l3 l4 c1 c2 c3 c4, rq kd pl nn wa q1 q2 m1 m2 k1 k2] w fun e w' => e = .returned (.bool b) ∧ Below w.heap.size w w' := by
  obtain ⟨z, hz⟩ : ∃ z, z = (w.alloc (.cells #[.slice a1 l1 c1, .slice a2 l2 c2, .slice a3 l3 c3, .slice a4 l4 c4] 36)).alloc (.cells #[.int .i64 kd, .int .i64 pl, .int .i64 nn, .slice q1 m1 k1, .slice q2 m2 k2, .int .i64 wa] 27) := ⟨_, rfl⟩
  have HZ : Hid (z = _) := hz
  have b0 : Below w.heap.size w z := by rw [hz]; exact bel_next (bel_alloc w _) (bel_alloc _ _)
  have X0 : Blk z w.heap.size 36 #[.slice a1 l1 c1, .slice a2 l2 c2, .slice a3 l3 c3, .slice a4 l4 c4] := by rw [hz]; exact (Blk.new w _ _).below (bel_alloc _ _)
  have Y0 : Blk z (w.heap.size + 1) 27 #[.int .i64 kd, .int .i64 pl, .int .i64 nn, .slice q1 m1 k1, .slice q2 m2 k2, .int .i64 wa] := by rw [hz]; have := Blk.new (w.alloc (.cells #[.slice a1 l1 c1, .slice a2 l2 c2, .slice a3 l3 c3, .slice a4 l4 c4] 36)) #[.int .i64 kd, .int .i64 pl, .int .i64 nn, .slice q1 m1 k1, .slice q2 m2 k2, .int .i64 wa] 27; simpa using this
  have HQ : Hid (m1 = ws.length ∧ m2 = bs.length ∧ SlI z q1 ws ∧ SlB z q2 bs ∧ ws.length ≤ 2000000 ∧ bs.length ≤ 2000000) := ⟨h1, h2, s1.below b0, s2.below b0, hl1, hl2⟩
  have f := okR_f hok
  have hs0 : 0 ≤ spc0 kd ∧ spc0 kd < 4 := by unfold spc0; split <;> (try split) <;> (try split) <;> omega
  have hsN : 0 ≤ spcN kd nn m1 m2 ∧ spcN kd nn m1 m2 ≤ 2000000 := by unfold spcN; split <;> (try split) <;> (try split) <;> omega
  have h23 : kd = 23 → spc0 kd = 2 ∧ 0 ≤ wa ∧ wa ≤ 65535 ∧ m1 ≤ 121 := by intro h; refine ⟨by rw [h]; rfl, ?_⟩; omega
  have hV : spcV (okR kd pl nn wa ws m1 m2) kd pl nn m1 m2 = .tuple #[.int .i64 (spc0 kd), .int .i64 pl, .int .i64 (spcN kd nn m1 m2)] := by rw [hok]; rfl
  have HV : Hid (spcV (okR kd pl nn wa ws m1 m2) kd pl nn m1 m2 = .tuple #[.int .i64 (spc0 kd), .int .i64 pl, .int .i64 (spcN kd nn m1 m2)]) := hV
  obtain ⟨hp0, hp1⟩ := f.1
  unfold svAll at hb
  clear hz h1 h2 s1 s2 hl1 hl2 f hV hok
  generalize spcN kd nn m1 m2 = n at *
  generalize spc0 kd = sp at *
  obtain ⟨i, rfl⟩ := Int.eq_ofNat_of_zero_le hs0.1
  have hi4 : i < 4 := by omega
  rw [show ((i : Int)).toNat = i by omega] at hb
  generalize hsz : [(l1 : Int), (l2 : Int), (l3 : Int), (l4 : Int)].getD i 0 = sz at *
  have hszb : 0 ≤ sz ∧ sz ≤ 2000000 := by
    rw [← hsz]
    match i, hi4 with
    | 0, _ => simp; omega
    | 1, _ => simp; omega
    | 2, _ => simp; omega
    | 3, _ => simp; omega
  have h2sz : i = 2 → sz = (l3 : Int) := by intro h; rw [← hsz, h]; rfl
  obtain ⟨x0, x1, x2, x3⟩ := X0.four
  obtain ⟨y0, y1, y2, y3, y4, y5⟩ := Y0.six
  have i4 : (i : Int) < 4 := by omega
  have HS : Hid ([(l1 : Int), (l2 : Int), (l3 : Int), (l4 : Int)].getD i 0 = sz) := hsz
  clear hsz
  go_enter Try.func68, Try.ntmps68
  go_upto_region 1 with fail
  rw [← HZ.out]
  obtain ⟨z1, hz1⟩ : ∃ z1, z1 = z.alloc (.cells #[.int .i64 (l1 : Int), .int .i64 (l2 : Int), .int .i64 (l3 : Int), .int .i64 (l4 : Int)] 3) := ⟨_, rfl⟩
  have HZ1 : Hid (z1 = _) := hz1
  have b1' : Below z.heap.size z z1 := by rw [hz1]; exact bel_alloc _ _
  have SL : SlI z1 (some ⟨z.heap.size, 0, none⟩) [(l1 : Int), (l2 : Int), (l3 : Int), (l4 : Int)] := by rw [hz1]; exact slI_lit4 z _ _ _ _
  have b1 := bel_next b0 b1'
  have X1 := X0.below b1'
  have Y1 := Y0.below b1'
  clear hz1
  go_upto_region 2 with fail
  rw [← HZ1.out]
  clear x0 x1 x2 x3 y0 y1 y2 y3 y4 y5 X0 Y0
  obtain ⟨y0, y1, y2, y3, y4, y5⟩ := Y1.six
  go_wp2_with fail
  refine (specSpaces_t kd pl nn wa q1 q2 m1 m2 k1 k2 ws bs _ HQ.out.1 HQ.out.2.1 (HQ.out.2.2.1.below b1') (HQ.out.2.2.2.1.below b1') HQ.out.2.2.2.2.1 HQ.out.2.2.2.2.2 (i : Int) pl n HV.out).mono ?_
  rintro e w3 ⟨rfl, b3'⟩
  have b3 := bel_next b1 b3'
  have Y3 := Y1.below b3'
  have S3 := SL.below b3'
  obtain ⟨bq, off, eq, hbq, hci⟩ := cell_atI S3 (k := i) (by simp; omega)
  obtain ⟨bq', off', eq', _, hc2⟩ := cell_atI S3 (k := 2) (by simp)
  simp only [Option.some.injEq, Addr.mk.injEq, and_true] at eq eq'
  obtain ⟨rfl, rfl⟩ := eq
  obtain ⟨rfl, rfl⟩ := eq'
  rw [HS.out] at hci
  simp only [Nat.zero_add] at hci hc2
  have hc2' : w3.cell? ⟨z.heap.size, 2, none⟩ = some (.int .i64 (l3 : Int)) := by simpa using hc2
  clear y0 y1 y2 y3 y4 y5 Y1 SL S3 hc2 b1 b1' b3' b0
  obtain ⟨y0, y1, y2, y3, y4, y5⟩ := Y3.six
  generalize z.heap.size = G at *
  by_cases t1 : pl + n ≤ sz
  case neg =>
    obtain rfl : b = false := by
      rw [← hb]; unfold hsB
      split
      · rfl
      · exact decide_eq_false t1
    have t1' : decide (pl + n ≤ sz) = false := decide_eq_false t1
    clear hb
    go_upto_region 3 with fail
    go_quiet (fail)
    go_wp2_with fail
    go_ret
    exact ⟨rfl, bel_drewN b3 _⟩
  by_cases t2 : kd = 23
  case neg =>
    obtain rfl : b = true := by
      rw [← hb, hsB_2 (fun h => t2 h.1)]
      exact decide_eq_true t1
    have t2' : (kd != 23) = true := by simpa using t2
    have t1' : decide (pl + n ≤ sz) = true := decide_eq_true t1
    clear hb
    go_upto_region 3 with fail
    go_quiet (fail)
    go_wp2_with fail
    go_ret
    exact ⟨rfl, bel_drewN b3 _⟩
  subst t2
  obtain ⟨hw2, hw0, hw1, hwm⟩ := h23 rfl
  have iw : IntKind.i64.wrap (wa + (m1 : Int)) = wa + (m1 : Int) := by rw [IntKind.wrap_i64]; omega
  have iw2 : ((23 : Int) != 23) = false := by decide
  have e3 := h2sz (by omega)
  by_cases t3 : wa + (m1 : Int) ≤ (l3 : Int)
  · obtain rfl : b = true := by
      rw [← hb, hsB_2 (fun h => by omega)]
      exact decide_eq_true t1
    have t3' : decide (wa + (m1 : Int) ≤ (l3 : Int)) = true := decide_eq_true t3
    have t1' : decide (pl + n ≤ sz) = true := decide_eq_true t1
    clear hb e3 h2sz h23 hw2
    go_upto_region 3 with fail
    go_quiet (fail)
    go_wp2_with fail
    go_ret
    exact ⟨rfl, bel_drewN b3 _⟩
  · obtain rfl : b = false := by
      rw [← hb]; exact hsB_1 rfl (by omega)
    have t3' : decide (wa + (m1 : Int) ≤ (l3 : Int)) = false := decide_eq_false t3
    have t1' : decide (pl + n ≤ sz) = true := decide_eq_true t1
    clear hb e3 h2sz h23 hw2
    go_upto_region 3 with fail
    go_quiet (fail)
    go_wp2_with fail
    go_ret
    exact ⟨rfl, bel_drewN b3 _⟩

end Go.Proofs.Ytfcbkollmhjdoaa

namespace Go.Proofs.Ytfcbkollmhjdoaa
open Go.RowKit

set_option linter.unusedVariables false

set_option linter.unusedSimpArgs false

theorem wr_snoc {α : Type} (hs : List α) (k : Nat) (ws : List α) (x : α) (h : k + ws.length < hs.length) : (wr hs k ws).set (k + ws.length) x = wr hs k (ws ++ [x]) := by
  unfold wr
  have e1 : (hs.take k).length = k := by simp; omega
  rw [List.set_append_right _ _ (by omega), e1, Nat.add_sub_cancel_left, List.set_append_right _ _ (by omega), Nat.sub_self]
  have e2 : hs.drop (k + ws.length) = hs[k + ws.length] :: hs.drop (k + ws.length + 1) := List.drop_eq_getElem_cons h
  rw [e2]
  simp [Nat.add_assoc]

theorem wr_nil {α : Type} (hs : List α) (k : Nat) : wr hs k [] = hs := by simp [wr]

theorem take_snocG {α : Type} {ws : List α} {k : Nat} (h : k < ws.length) (d : α) : ws.take (k + 1) = ws.take k ++ [ws.getD k d] := by
  rw [List.take_add_one]; simp [h]

set_option maxRecDepth 20000 in
set_option maxHeartbeats 2000000 in
theorem l5Write_any (a1 a2 a3 a4 : Option Addr) (l1 l2 l3 l4 c1 c2 c3 c4 : Nat) (cs is : List Bool) (hs rs : List Int) (k : Nat) (q1 : Option Addr) (m1 k1 : Nat) (ws : List Int) (W0 w : World) (hB : Below W0.heap.size W0 w) (hD : OwnD w W0.heap.size a1 a2 a3 a4 l1 l2 l3 l4 c1 c2 c3 c4 cs is hs rs) (hn : m1 = ws.length) (hq : SlI W0 q1 ws) (hk : k + ws.length ≤ l3) (h3 : l3 ≤ 2000000) :
    Calls Try.prog 70 #[.slice a3 l3 c3, .int .i64 (k : Int), .slice q1 m1 k1] w fun e w' => e = .returned (.tuple #[]) ∧ OwnD w' W0.heap.size a1 a2 a3 a4 l1 l2 l3 l4 c1 c2 c3 c4 cs is (wr hs k ws) rs ∧ Below W0.heap.size W0 w' ∧ Chg w w' (Of4 (.slice a1 l1 c1) (.slice a2 l2 c2) (.slice a3 l3 c3) (.slice a4 l4 c4)) := by
  subst hn
  have hln := hD.sl.1.2.2.1
  go_enter Try.func70, Try.ntmps70
  go_wp2
  go_loopw [6] (fun i wr' => ∃ j : Nat, j ≤ ws.length ∧ i = .int .i64 j ∧ OwnD wr' W0.heap.size a1 a2 a3 a4 l1 l2 l3 l4 c1 c2 c3 c4 cs is (wr hs k (ws.take j)) rs ∧ Below W0.heap.size W0 wr' ∧ Chg w wr' (Of4 (.slice a1 l1 c1) (.slice a2 l2 c2) (.slice a3 l3 c3) (.slice a4 l4 c4))) (fun i _ => ws.length - (intOf i).toNat)
  case atStart => exact ⟨0, Nat.zero_le _, rfl, by rw [List.take_zero, wr_nil]; exact hD, hB, Chg.ofBelow (Below.refl _ _)⟩
  case round =>
    obtain ⟨j, hj, rfl, hD', hB', hC'⟩ := hrel
    by_cases hlt : j < ws.length
    · obtain ⟨bq, off, rfl, hbq, hcq⟩ := cell_atI (hq.below hB') hlt
      obtain ⟨b, rfl, hb, hbl, hc, hf, hset⟩ := hD'.setWord (k := k + j) (by omega)
      obtain ⟨D1, C1⟩ := hset (ws.getD j 0)
      have eL : (Ytfcbkollmhjdoaa.wr hs k (ws.take j)).set (k + j) (ws.getD j 0) = Ytfcbkollmhjdoaa.wr hs k (ws.take (j + 1)) := by
        have h1 : (ws.take j).length = j := by simp; omega
        rw [take_snocG hlt 0]
        have := wr_snoc hs k (ws.take j) (ws.getD j 0) (by omega)
        rw [h1] at this
        exact this
      rw [eL] at D1
      have hH : Hid (OwnD (wr.setCell ⟨b, k + j, none⟩ (.int .i64 (ws.getD j 0))) W0.heap.size a1 a2 (some ⟨b, 0, none⟩) a4 l1 l2 l3 l4 c1 c2 c3 c4 cs is (Ytfcbkollmhjdoaa.wr hs k (ws.take (j + 1))) rs ∧ Below W0.heap.size W0 (wr.setCell ⟨b, k + j, none⟩ (.int .i64 (ws.getD j 0))) ∧ Chg w (wr.setCell ⟨b, k + j, none⟩ (.int .i64 (ws.getD j 0))) (Of4 (.slice a1 l1 c1) (.slice a2 l2 c2) (.slice (some ⟨b, 0, none⟩) l3 c3) (.slice a4 l4 c4))) := ⟨D1, bel_setG hB' hb, hC'.trans C1⟩
      generalize ws.getD j 0 = x at *
      have i0 : (j : Int) < (ws.length : Int) := by omega
      have i1 : (k : Int) + (j : Int) < (l3 : Int) := by omega
      have i2 : IntKind.i64.wrap ((k : Int) + (j : Int)) = (k : Int) + (j : Int) := by rw [IntKind.wrap_i64]; omega
      have i3 : ((k : Int) + (j : Int)).toNat = k + j := by omega
      have i4 : (0 : Int) ≤ (k : Int) + (j : Int) := by omega
      clear hq hB' hD' hC' D1 C1 hset eL hD hB
      go_wp2
      go_roundw
      case rel => exact ⟨j + 1, by omega, by go_num, hH.out.1, hH.out.2.1, hH.out.2.2⟩
      case measure => simp [intOf]; omega
    · have e : ws.take j = ws := List.take_of_length_le (by omega)
      rw [e] at hD'
      have hi' : decide ((j : Int) < (ws.length : Int)) = false := by simp; omega
      clear hq hD hB
      go_wp2
      refine bodyPost_end (v := .tuple #[]) (by simp [results, Try.results70, go_sem]) rfl ?_
      exact ⟨rfl, hD', hB', hC'⟩

end Go.Proofs.Ytfcbkollmhjdoaa

namespace Go.Proofs.Ytfcbkollmhjdoaa
open Go.RowKit

set_option linter.unusedVariables false

set_option linter.unusedSimpArgs false

theorem slB_subG {w : World} {b off k N : Nat} {hs : List Bool} (h : SlB w (some ⟨b, off, none⟩) hs) (hk : k + N ≤ hs.length) : SlB w (some ⟨b, off + k, none⟩) ((hs.drop k).take N) := by
  rcases h with e | ⟨b', off', ha, hb, hc⟩
  · subst e; exact .inl (by simp)
  · simp only [Option.some.injEq, Addr.mk.injEq, and_true] at ha
    obtain ⟨rfl, rfl⟩ := ha
    refine .inr ⟨b, off + k, rfl, hb, fun i hi => ?_⟩
    have hi' : i < N := by simp at hi; omega
    have := hc (k + i) (by omega)
    rw [show off + k + i = off + (k + i) by omega, this]
    simp [List.getD_eq_getElem?_getD, List.getElem?_take, hi', List.getElem?_drop]

theorem slI_subG {w : World} {b off k N : Nat} {hs : List Int} (h : SlI w (some ⟨b, off, none⟩) hs) (hk : k + N ≤ hs.length) : SlI w (some ⟨b, off + k, none⟩) ((hs.drop k).take N) := by
  rcases h with e | ⟨b', off', ha, hb, hc⟩
  · subst e; exact .inl (by simp)
  · simp only [Option.some.injEq, Addr.mk.injEq, and_true] at ha
    obtain ⟨rfl, rfl⟩ := ha
    refine .inr ⟨b, off + k, rfl, hb, fun i hi => ?_⟩
    have hi' : i < N := by simp at hi; omega
    have := hc (k + i) (by omega)
    rw [show off + k + i = off + (k + i) by omega, this]
    simp [List.getD_eq_getElem?_getD, List.getElem?_take, hi', List.getElem?_drop]

/-- append of one false onto a row of the call's own. -/
theorem wpList_appF {w : World} {ops : Array Oper} {rest : List Oper} {o : Oper} {a : Act} {Q : Exit → Act → World → Prop} (hgd : o.guard = none) (s x : Operand)
    (ho : o.op = .call { callee := .builtin .append, args := #[s, x], argTypes := #[25, 25] }) (base : Nat) (v : Value) (zs : List Bool) (hs : a.eval s = v) (hown : OwnB w base v zs)
    (ad : Addr) (m c : Nat) (ys : List Bool) (hx : a.eval x = .slice (some ad) m c) (hm : m = ys.length) (hsl : SlB w (some ad) ys) (hlen : zs.length + ys.length ≤ 4000000) (hbase : base ≤ w.heap.size)
    (h : ∀ v' w', OwnB w' base v' (zs ++ ys) → w.grownBy w' v.ownBlock → wpList Try.prog ops Q rest (a.put o.dst v') w') : wpList Try.prog ops Q (o :: rest) a w := by
  obtain ⟨i0, hi, hz0, hz1, hz2⟩ := info_parts Try.info4
  subst hm
  have hml : zs.length + ys.length ≤ maxLen := by unfold maxLen; omega
  have hsrc : ∀ j v, (ys.map Value.bool)[j]? = some v → w.cell? (ad.add j) = some v := by
    rcases hsl with e | ⟨b, off, ha, hb, hc⟩
    · subst e; intro j v hj; simp at hj
    · simp only [Option.some.injEq] at ha
      subst ha
      exact slB_at (.inr ⟨b, off, rfl, hb, hc⟩)
  refine wpList_append_own _ hgd s x 25 ho base 4 i0 (.bool false) 1 1 Try.underlying25 hi hz0 hz1 hz2 rfl (by decide) v zs.length (zs.map Value.bool) hs hown ad ys.length c (ys.map Value.bool) hx (by simp) hsrc (onesB ys) hml (by omega) hbase ?_
  intro v' w' o' g' _
  exact h v' w' (by simpa [OwnB] using o') g'

theorem tB8_len (bs : List Bool) (k N : Nat) (h : k + N ≤ bs.length) : (tB8 bs k N).length = 8 * ((N + 7) / 8) := by
  unfold tB8; simp; omega

theorem ownB_form {w : World} {base : Nat} {v : Value} {zs : List Bool} (h : OwnB w base v zs) : ∃ a c n, v = .slice a n c ∧ n = zs.length := by
  obtain ⟨_, h2⟩ := h
  rcases h2 with ⟨hv, h3⟩ | ⟨g, cap, cur, hv, hg, hh, _⟩
  · exact ⟨none, 0, 0, hv, h3.symm⟩
  · exact ⟨_, cap, _, hv, rfl⟩

theorem bel_rowB {B : Nat} {w0 w w' : World} {base : Nat} {v : Value} {zs : List Bool} (hb : Below B w0 w) (h : OwnB w base v zs) (hg : w.grownBy w' v.ownBlock) (h1 : B ≤ base) (h2 : B ≤ w.heap.size) : Below B w0 w' :=
  hb.grown hg h2 (fun k hk => by have := (World.ownsRow.lt h k hk).1; omega)

set_option maxRecDepth 20000 in
set_option maxHeartbeats 2000000 in
theorem l5Bits_any (a : Option Addr) (l c k N : Nat) (bs : List Bool) (w : World) (hl : l = bs.length) (hlc : l ≤ c) (hs : SlB w a bs) (hk : k + N ≤ l) (hN : 1 ≤ N) (h3 : l ≤ 2000000) :
    Calls Try.prog 69 #[.slice a l c, .int .i64 (k : Int), .int .i64 (N : Int)] w fun e w' => ∃ v, e = .returned v ∧ OwnB w' w.heap.size v (tB8 bs k N) ∧ Below w.heap.size w w' := by
  obtain ⟨b, off, rfl, hb, hc⟩ := cell_atB hs (k := 0) (by omega)
  have hs1 := slB_subG (k := k) (N := N) hs (by omega)
  obtain ⟨xs, hxs⟩ : ∃ xs, xs = (bs.drop k).take N := ⟨_, rfl⟩
  rw [← hxs] at hs1
  have HX : Hid (N = xs.length ∧ xs = (bs.drop k).take N) := by refine ⟨?_, hxs⟩; rw [hxs]; simp; omega
  have b1 := bel_alloc w (.cells #[] 4)
  have ol : OwnB (w.alloc (.cells #[] 4)) w.heap.size (.slice (some ⟨w.heap.size, 0, none⟩) 0 0) [] := ⟨rfl, .inr ⟨w.heap.size, 0, #[], rfl, Nat.le_refl _, Blk.new w #[] 4, by simp, by simp, rfl, rfl⟩⟩
  have HS1 : Hid (SlB (w.alloc (.cells #[] 4)) (some ⟨b, off + k, none⟩) xs ∧ xs.length ≤ 2000000) := ⟨hs1.below b1, by have := HX.out.1; omega⟩
  have i0 : (k : Int) ≤ (k : Int) + (N : Int) := by omega
  have i1 : (k : Int) + (N : Int) ≤ (l : Int) := by omega
  have i2 : (k : Int) + (N : Int) ≤ (c : Int) := by omega
  have i3 : (0 : Int) ≤ (k : Int) := by omega
  have i4 : (0 : Int) ≤ (k : Int) + (N : Int) := by omega
  have i5 : IntKind.i64.wrap ((k : Int) + (N : Int)) = (k : Int) + (N : Int) := by rw [IntKind.wrap_i64]; omega
  have i6 : (k : Int) ≤ (c : Int) := by omega
  have i7 : ¬ c = k := by omega
  have i8 : ((k : Int) + (N : Int)).toNat - k = N := by omega
  have HM : Hid (N ≤ 2000000) := by show N ≤ 2000000; omega
  clear hs hs1 hxs hc
  go_enter Try.func69, Try.ntmps69
  go_wp2_with (at_builtin; obtain ⟨v1, w1, hr, o1, b1', _, a1, d1, hv1⟩ := app0B (w.alloc (.cells #[] 4)) w.heap.size w.heap.size (some ⟨b, off + k, none⟩) N (c - k) xs HX.out.1 HS1.out.1 HS1.out.2 (Nat.le_refl _) ol; refine Lib.wpList_append_run _ rfl (.tmp 8) (.tmp 14) _ _ rfl _ _ rfl rfl _ _ hr ?_; subst hv1; have B1 := bel_next b1 b1'; clear hr b1' ol b1)
  clear i0 i1 i2 i3 i4 i5 i6 i7 i8
  go_loopw [7] (fun v wr => ∃ j : Nat, N + j ≤ 8 * ((N + 7) / 8) ∧ OwnB wr w.heap.size v (xs ++ List.replicate j false) ∧ Below w.heap.size w wr) (fun v _ => 8 * ((N + 7) / 8) - (match v with | .slice _ n _ => n | _ => 0))
  case atStart => exact ⟨0, by omega, by simpa using o1, B1⟩
  case round =>
    obtain ⟨j, hj, ho, hB⟩ := hrel
    obtain ⟨a', c', n', rfl, hn'⟩ := ownB_form ho
    have hnj : n' = N + j := by rw [hn']; simp; have := HX.out.1; omega
    have HN' : Hid (n' = N + j) := hnj
    have hM := HM.out
    by_cases he : n' % 8 = 0
    · have e : tB8 bs k N = xs ++ List.replicate j false := by
        unfold tB8; rw [← HX.out.2, show 8 * ((N + 7) / 8) - N = j by omega]
      have hz : ((n' : Int) % 8 != 0) = false := by simp; omega
      have hz2 : Int.tmod (n' : Int) 8 = (n' : Int) % 8 := Int.tmod_eq_emod_of_nonneg (by omega)
      rw [← e] at ho
      clear hn' hnj hj o1 B1
      go_wp2_with fail
      go_ret
      exact ⟨_, rfl, ho, hB⟩
    · have hz : ((n' : Int) % 8 != 0) = true := by simp; omega
      have hz2 : Int.tmod (n' : Int) 8 = (n' : Int) % 8 := Int.tmod_eq_emod_of_nonneg (by omega)
      have hlen : Hid ((xs ++ List.replicate j false).length + [false].length ≤ 4000000) := hide (by rw [← hn']; simp; omega)
      have B2 := bel_next hB (bel_alloc wr (.cells #[.bool false] 4))
      have o2 := ho.below (bel_alloc wr (.cells #[.bool false] 4))
      have hlt : N + (j + 1) ≤ 8 * ((N + 7) / 8) := by omega
      clear hn' hnj o1 B1 ho
      go_wp2_with (at_builtin; refine wpList_appF rfl (.tmp 20) (.tmp 21) rfl w.heap.size (.slice a' n' c') (xs ++ List.replicate j false) rfl o2 ⟨wr.heap.size, 0, none⟩ 1 1 [false] rfl rfl (lit_slB1 _ _ rfl) hlen.out B2.size ?_; intro v3 w3 o3 g3; have B3 : Below w.heap.size w w3 := bel_rowB B2 o2 g3 (Nat.le_refl _) B2.size; obtain ⟨a3, c3, n3, hv3, hn3⟩ := ownB_form o3; subst hv3; have HN3 : Hid (n3 = n' + 1) := hide (by rw [hn3, HN'.out]; simp; have := HX.out.1; omega); rw [List.append_assoc, show List.replicate j false ++ [false] = List.replicate (j + 1) false from (List.replicate_succ' ..).symm] at o3; clear hn3 g3 o2 B2)
      go_roundw
      case rel => exact ⟨j + 1, hlt, o3, B3⟩
      case measure => have := HN3.out; have := HN'.out; simp; omega

end Go.Proofs.Ytfcbkollmhjdoaa

namespace Go.Proofs.Ytfcbkollmhjdoaa
open Go.RowKit

/-- A word's bits. -/
abbrev wv (h : Int) : BitVec 64 := BitVec.ofInt 64 h

theorem wv_nat {h : Int} (h0 : 0 ≤ h) (h1 : h ≤ 65535) : ((wv h).toNat : Int) = h := by
  unfold wv
  rw [BitVec.toNat_ofInt]
  have e : h % ((2 ^ 64 : Nat) : Int) = h := Int.emod_eq_of_lt h0 (by omega)
  rw [e]; omega

theorem wrap_sm {n : Nat} (h : n < 65536) : IntKind.i64.wrap (n : Int) = (n : Int) := by rw [IntKind.wrap_i64]; omega

theorem wv_back {v : BitVec 64} : wv (v.toNat : Int) = v := by
  simp [wv, BitVec.ofInt_natCast]

theorem and_lt {a b : BitVec 64} (h : a.toNat < 65536) : (a &&& b).toNat < 65536 := by
  rw [BitVec.toNat_and]; exact Nat.lt_of_le_of_lt Nat.and_le_left h

theorem or_lt {a b : BitVec 64} (h : a.toNat < 65536) (h' : b.toNat < 65536) : (a ||| b).toNat < 65536 := by
  rw [BitVec.toNat_or]; exact Nat.or_lt_two_pow (n := 16) h h'

/-- The masked word's bits. -/
def mv (h x y : BitVec 64) : BitVec 64 := (h &&& x) ||| (y &&& ~~~x)

theorem wv_lt {h : Int} (h0 : 0 ≤ h) (h1 : h ≤ 65535) : (wv h).toNat < 65536 := by have := wv_nat h0 h1; omega

theorem mskI_eq {h x y : Int} (h0 : 0 ≤ h ∧ h ≤ 65535) (y0 : 0 ≤ y ∧ y ≤ 65535) : mskI h x y = ((mv (wv h) (wv x) (wv y)).toNat : Int) := by
  have a1 : bits .and .i64 h x = ((wv h &&& wv x).toNat : Int) := wrap_sm (and_lt (wv_lt h0.1 h0.2))
  have a2 : bits .andNot .i64 y x = ((wv y &&& ~~~(wv x)).toNat : Int) := wrap_sm (and_lt (wv_lt y0.1 y0.2))
  unfold mskI
  rw [a1, a2]
  have a3 : bits .or .i64 ((wv h &&& wv x).toNat : Int) ((wv y &&& ~~~(wv x)).toNat : Int) = ((wv ((wv h &&& wv x).toNat : Int) ||| wv ((wv y &&& ~~~(wv x)).toNat : Int)).toNat : Int) := by
    refine wrap_sm ?_
    show ((wv ((wv h &&& wv x).toNat : Int)) ||| wv ((wv y &&& ~~~(wv x)).toNat : Int)).toNat < 65536
    rw [wv_back, wv_back]
    exact or_lt (and_lt (wv_lt h0.1 h0.2)) (and_lt (wv_lt y0.1 y0.2))
  rw [a3, wv_back, wv_back]; rfl

theorem mv_lt {h x y : BitVec 64} (h0 : h.toNat < 65536) (y0 : y.toNat < 65536) : (mv h x y).toNat < 65536 := or_lt (and_lt h0) (and_lt y0)

theorem mskI_rg {h x y : Int} (h0 : 0 ≤ h ∧ h ≤ 65535) (y0 : 0 ≤ y ∧ y ≤ 65535) : 0 ≤ mskI h x y ∧ mskI h x y ≤ 65535 := by
  rw [mskI_eq h0 y0]
  have := mv_lt (x := wv x) (wv_lt h0.1 h0.2) (wv_lt y0.1 y0.2)
  omega

theorem mv_again (h x y : BitVec 64) : mv (mv h x y) x y = mv h x y := by
  apply BitVec.eq_of_getLsbD_eq
  intro i hi
  simp [mv]
  cases h.getLsbD i <;> cases x.getLsbD i <;> cases y.getLsbD i <;> simp [hi]

theorem mskI_again {h x y : Int} (h0 : 0 ≤ h ∧ h ≤ 65535) (y0 : 0 ≤ y ∧ y ≤ 65535) : mskI (mskI h x y) x y = mskI h x y := by
  rw [mskI_eq (mskI_rg h0 y0) y0, mskI_eq h0 y0, wv_back, mv_again]

theorem sm_bit {v : BitVec 64} (h : v.toNat < 65536) {i : Nat} (hi : 16 ≤ i) : v.getLsbD i = false := by
  rw [BitVec.getLsbD]
  exact Nat.testBit_lt_two_pow (Nat.lt_of_lt_of_le h (Nat.pow_le_pow_right (n := 2) (by decide) hi))

theorem ones_bit (i : Nat) (hi : i < 16) : (wv 65535).getLsbD i = true := by
  have h : ∀ i : Fin 16, (wv 65535).getLsbD i = true := by decide
  exact h ⟨i, hi⟩

theorem mskI_ones {h y : Int} (h0 : 0 ≤ h ∧ h ≤ 65535) (y0 : 0 ≤ y ∧ y ≤ 65535) : mskI h 65535 y = h := by
  rw [mskI_eq h0 y0]
  have e : mv (wv h) (wv 65535) (wv y) = wv h := by
    apply BitVec.eq_of_getLsbD_eq
    intro i hi
    simp only [mv, BitVec.getLsbD_or, BitVec.getLsbD_and, BitVec.getLsbD_not]
    by_cases h16 : i < 16
    · rw [ones_bit i h16]; simp
    · rw [sm_bit (wv_lt h0.1 h0.2) (by omega), sm_bit (wv_lt y0.1 y0.2) (by omega)]; simp
  rw [e, wv_nat h0.1 h0.2]

theorem mskI_none {h y : Int} (h0 : 0 ≤ h ∧ h ≤ 65535) (y0 : 0 ≤ y ∧ y ≤ 65535) : mskI h 0 y = y := by
  rw [mskI_eq h0 y0]
  have e : mv (wv h) (wv 0) (wv y) = wv y := by
    apply BitVec.eq_of_getLsbD_eq
    intro i hi
    have z : (wv 0).getLsbD i = false := by show (0#64 : BitVec 64).getLsbD i = false; simp
    simp only [mv, BitVec.getLsbD_or, BitVec.getLsbD_and, BitVec.getLsbD_not, z]
    simp [hi]
  rw [e, wv_nat y0.1 y0.2]

/-- A bit of a word, as the law asks for it. -/
def bitI (h : Int) (k : Nat) : Int := h / ((2 ^ k : Nat) : Int) % 2

theorem bitI_eq {h : Int} (h0 : 0 ≤ h ∧ h ≤ 65535) (k : Nat) : bitI h k = if (wv h).getLsbD k then 1 else 0 := by
  have e : (wv h).getLsbD k = (wv h).toNat.testBit k := rfl
  rw [e, Nat.testBit_eq_decide_div_mod_eq]
  unfold bitI
  have hn := wv_nat h0.1 h0.2
  have e2 : h / ((2 ^ k : Nat) : Int) % 2 = (((wv h).toNat / 2 ^ k % 2 : Nat) : Int) := by
    rw [Int.natCast_emod, Int.natCast_ediv, hn]; rfl
  rw [e2]
  have hlt : (wv h).toNat / 2 ^ k % 2 < 2 := Nat.mod_lt _ (by decide)
  by_cases q : (wv h).toNat / 2 ^ k % 2 = 1
  · rw [q]; simp
  · have q0 : (wv h).toNat / 2 ^ k % 2 = 0 := by omega
    rw [q0]; simp

/-- What the law asks of a masked word's bits. -/
theorem mskI_bit {h x y : Int} (h0 : 0 ≤ h ∧ h ≤ 65535) (x0 : 0 ≤ x ∧ x ≤ 65535) (y0 : 0 ≤ y ∧ y ≤ 65535) (k : Nat) (hk : k < 16) : bitI (mskI h x y) k = if bitI x k = 0 then bitI y k else bitI h k := by
  rw [bitI_eq (mskI_rg h0 y0), bitI_eq x0, bitI_eq y0, bitI_eq h0, mskI_eq h0 y0, wv_back]
  have h64 : k < 64 := by omega
  simp only [mv, BitVec.getLsbD_or, BitVec.getLsbD_and, BitVec.getLsbD_not, h64]
  cases (wv h).getLsbD k <;> cases (wv x).getLsbD k <;> cases (wv y).getLsbD k <;> rfl

theorem and1 (n : Int) : bits .and .i64 n 1 = n % 2 := i64_and_mask n 1 1 (by decide) (by decide)

theorem bit_form (h : Int) (k : Nat) : bits .and .i64 (h / 2 ^ k) 1 = bitI h k := by
  rw [and1]; unfold bitI; simp

end Go.Proofs.Ytfcbkollmhjdoaa

namespace Go.Proofs.Ytfcbkollmhjdoaa
open Go.RowKit

set_option linter.unusedVariables false

set_option linter.unusedSimpArgs false

/-- What stands while the model serves: the two arguments' boxes, the two results', the copy's and the answer's. -/
structure SS (w : World) (dc qc : Array Value) (z : World) (G6 G7 : Nat) (x1 x2 x3 x4 : Option Addr) (l1 l2 l3 l4 d1 d2 d3 d4 : Nat) (is : List Bool) (rs : List Int) (cs : List Bool) (hs : List Int) (tc : Array Value) (u : World) : Prop where
  X : Blk u w.heap.size 36 dc
  Y : Blk u (w.heap.size + 1) 27 qc
  P : Blk u (w.heap.size + 1 + 1) 36 #[.slice none 0 0, .slice none 0 0, .slice none 0 0, .slice none 0 0]
  Q : Blk u (w.heap.size + 1 + 1 + 1) 29 #[.int .i64 0, .int .i64 0, .int .i64 0, .int .i64 0, .slice none 0 0, .slice none 0 0]
  N : Blk u G6 36 #[.slice x1 l1 d1, .slice x2 l2 d2, .slice x3 l3 d3, .slice x4 l4 d4]
  T : Blk u G7 29 tc
  D : OwnD u z.heap.size x1 x2 x3 x4 l1 l2 l3 l4 d1 d2 d3 d4 cs is hs rs
  bel : Below w.heap.size w u
  belz : Below z.heap.size z u
  zb0 : z.heap.size = w.heap.size + 1 + 1 + 1 + 1
  g6 : z.heap.size ≤ G6
  g7 : G6 < G7

theorem SS.below {w u z : World} {dc qc tc : Array Value} {G6 G7 : Nat} {x1 x2 x3 x4 : Option Addr} {l1 l2 l3 l4 d1 d2 d3 d4 : Nat} {is cs : List Bool} {rs hs : List Int} {u' : World} (h : SS w dc qc z G6 G7 x1 x2 x3 x4 l1 l2 l3 l4 d1 d2 d3 d4 is rs cs hs tc u) (hb : Below u.heap.size u u') : SS w dc qc z G6 G7 x1 x2 x3 x4 l1 l2 l3 l4 d1 d2 d3 d4 is rs cs hs tc u' :=
  ⟨h.X.below hb, h.Y.below hb, h.P.below hb, h.Q.below hb, h.N.below hb, h.T.below hb, h.D.below hb, bel_next h.bel hb, bel_next h.belz hb, h.zb0, h.g6, h.g7⟩

/-- A field of the answer is set. -/
theorem SS.setT {w u z : World} {dc qc tc : Array Value} {G6 G7 : Nat} {x1 x2 x3 x4 : Option Addr} {l1 l2 l3 l4 d1 d2 d3 d4 : Nat} {is cs : List Bool} {rs hs : List Int} (h : SS w dc qc z G6 G7 x1 x2 x3 x4 l1 l2 l3 l4 d1 d2 d3 d4 is rs cs hs tc u) (j : Nat) (y : Value) : SS w dc qc z G6 G7 x1 x2 x3 x4 l1 l2 l3 l4 d1 d2 d3 d4 is rs cs hs (tc.setIfInBounds j y) (u.setCell ⟨G7, j, none⟩ y) := by
  have := h.g6
  have := h.g7
  have := h.zb0
  refine ⟨h.X.setNe (by omega), h.Y.setNe (by omega), h.P.setNe (by omega), h.Q.setNe (by omega), h.N.setNe (by omega), h.T.set j y, ?_, h.bel.setCell (p := ⟨G7, j, none⟩) (by show w.heap.size ≤ G7; omega) _, h.belz.setCell (p := ⟨G7, j, none⟩) (by show z.heap.size ≤ G7; omega) _, h.zb0, h.g6, h.g7⟩
  have e : ExB u G7 29 := ⟨_, h.T⟩
  exact ⟨row_setE h.D.1 e (by decide), row_setE h.D.2.1 e (by decide), row_setE h.D.2.2.1 e (by decide), row_setE h.D.2.2.2.1 e (by decide), h.D.2.2.2.2⟩

/-- The copy's rows are written. -/
theorem SS.chg {w u z : World} {dc qc tc : Array Value} {G6 G7 : Nat} {x1 x2 x3 x4 : Option Addr} {l1 l2 l3 l4 d1 d2 d3 d4 : Nat} {is cs : List Bool} {rs hs : List Int} {u' : World} {cs' : List Bool} {hs' : List Int} (h : SS w dc qc z G6 G7 x1 x2 x3 x4 l1 l2 l3 l4 d1 d2 d3 d4 is rs cs hs tc u) (hc : Chg u u' (Of4 (.slice x1 l1 d1) (.slice x2 l2 d2) (.slice x3 l3 d3) (.slice x4 l4 d4))) (hD : OwnD u' z.heap.size x1 x2 x3 x4 l1 l2 l3 l4 d1 d2 d3 d4 cs' is hs' rs) : SS w dc qc z G6 G7 x1 x2 x3 x4 l1 l2 l3 l4 d1 d2 d3 d4 is rs cs' hs' tc u' :=
  ⟨h.X.chg hc (h.D.noBlk h.X (by decide) (by decide)), h.Y.chg hc (h.D.noBlk h.Y (by decide) (by decide)), h.P.chg hc (h.D.noBlk h.P (by decide) (by decide)), h.Q.chg hc (h.D.noBlk h.Q (by decide) (by decide)), h.N.chg hc (h.D.noBlk h.N (by decide) (by decide)), h.T.chg hc (h.D.noBlk h.T (by decide) (by decide)), hD, Chg.below h.bel hc (fun g hg => by have := (h.D.of4 g hg).1; have := h.zb0; omega) h.bel.size, Chg.below h.belz hc (fun g hg => (h.D.of4 g hg).1) h.belz.size, h.zb0, h.g6, h.g7⟩

/-- Rows that lie behind all that the copy has are none of them. -/
theorem SS.apart {w u z : World} {dc qc tc : Array Value} {G6 G7 : Nat} {x1 x2 x3 x4 : Option Addr} {l1 l2 l3 l4 d1 d2 d3 d4 : Nat} {is cs : List Bool} {rs hs : List Int} {r1 r2 : Option Addr} {p1 p2 t1 t2 : Nat} {u0 : World} {ws : List Int} {bs : List Bool} (h : SS w dc qc z G6 G7 x1 x2 x3 x4 l1 l2 l3 l4 d1 d2 d3 d4 is rs cs hs tc u0) (hi : OwnI u u0.heap.size (.slice r1 p1 t1) ws) (hj : OwnB u u0.heap.size (.slice r2 p2 t2) bs) : ∀ g, (Of4 (.slice x1 l1 d1) (.slice x2 l2 d2) (.slice x3 l3 d3) (.slice x4 l4 d4)) g → ¬ Of2 (.slice r1 p1 t1) (.slice r2 p2 t2) g := by
  intro g h1 h2
  have q1 := (h.D.of4 g h1).2
  rcases h2 with h2 | h2
  · have := (World.ownsRow.lt hi g h2).1; omega
  · have := (World.ownsRow.lt hj g h2).1; omega

/-- A word behind a mask, as the model reckons it. -/
theorem mskI_spec {h x y : Int} (h0 : 0 ≤ h ∧ h ≤ 65535) (x0 : 0 ≤ x ∧ x ≤ 65535) (y0 : 0 ≤ y ∧ y ≤ 65535) : bits .or .i64 (bits .and .i64 h x) (bits .and .i64 y (bits .xor .i64 65535 x)) = mskI h x y := by
  have hx := wv_lt x0.1 x0.2
  have hy := wv_lt y0.1 y0.2
  have hh := wv_lt h0.1 h0.2
  have h16 : (wv 65535).toNat < 65536 := wv_lt (by decide) (by decide)
  have hxor : (wv 65535 ^^^ wv x).toNat < 65536 := by rw [BitVec.toNat_xor]; exact Nat.xor_lt_two_pow (n := 16) h16 hx
  have a1 : bits .and .i64 h x = ((wv h &&& wv x).toNat : Int) := wrap_sm (and_lt hh)
  have a2 : bits .xor .i64 65535 x = ((wv 65535 ^^^ wv x).toNat : Int) := wrap_sm hxor
  have a3 : bits .and .i64 y ((wv 65535 ^^^ wv x).toNat : Int) = ((wv y &&& wv ((wv 65535 ^^^ wv x).toNat : Int)).toNat : Int) := wrap_sm (and_lt hy)
  have a4 : wv y &&& (wv 65535 ^^^ wv x) = wv y &&& ~~~(wv x) := by
    apply BitVec.eq_of_getLsbD_eq
    intro i hi
    by_cases h1 : i < 16
    · simp only [BitVec.getLsbD_and, BitVec.getLsbD_xor, BitVec.getLsbD_not, ones_bit i h1]
      cases (wv x).getLsbD i <;> simp [hi]
    · simp only [BitVec.getLsbD_and, sm_bit hy (show 16 ≤ i by omega), Bool.false_and]
  have a5 : mskI h x y = bits .or .i64 ((wv h &&& wv x).toNat : Int) ((wv y &&& ~~~(wv x)).toNat : Int) := by
    unfold mskI
    rw [a1, show bits .andNot .i64 y x = ((wv y &&& ~~~(wv x)).toNat : Int) from wrap_sm (and_lt hy)]
  rw [a1, a2, a3, wv_back, a4, a5]

end Go.Proofs.Ytfcbkollmhjdoaa

namespace Go.Proofs.Ytfcbkollmhjdoaa
open Go.RowKit

set_option linter.unusedVariables false

set_option linter.unusedSimpArgs false

set_option maxRecDepth 20000 in
set_option maxHeartbeats 4000000 in
theorem specServe_1 (a1 a2 a3 a4 : Option Addr) (l1 l2 l3 l4 c1 c2 c3 c4 : Nat) (cs is : List Bool) (hs rs : List Int) (wa : Int) (q1 q2 : Option Addr) (m1 m2 k1 k2 : Nat) (ws : List Int) (bs : List Bool) (w : World) (hn : LnD l1 l2 l3 l4 cs is hs rs) (hs0 : SlD w a1 a2 a3 a4 cs is hs rs) (hsm : SmD 2000000 cs is hs rs) (hq : SlI w q1 ws) (hq2 : SlB w q2 bs) (h1 : m1 = ws.length) (h2 : m2 = bs.length) (hl : ws.length ≤ 2000000) (hl2 : bs.length ≤ 2000000) (k N : Nat) (hN : 1 ≤ N) (hpk : k + N ≤ l1) (hcap : l1 ≤ c1) (hok : okR 1 (k : Int) (N : Int) wa ws m1 m2 = true) (hd : okD l1 l2 l3 l4 hs rs = true) (hal : svAll l1 l2 l3 l4 1 (k : Int) (N : Int) wa m1 m2 = true) :
    Calls Try.prog 19 #[dv a1 a2 a3 a4 l1 l2 l3 l4 c1 c2 c3 c4, .agg #[.int .i64 1, .int .i64 (k : Int), .int .i64 (N : Int), .slice q1 m1 k1, .slice q2 m2 k2, .int .i64 wa]] w fun e w' => SR w w' e cs is hs rs 1 0 0 0 [] (tB8 cs k N) := by
  obtain ⟨z, hz⟩ : ∃ z, z = (((w.alloc (.cells #[.slice a1 l1 c1, .slice a2 l2 c2, .slice a3 l3 c3, .slice a4 l4 c4] 36)).alloc (.cells #[.int .i64 1, .int .i64 (k : Int), .int .i64 (N : Int), .slice q1 m1 k1, .slice q2 m2 k2, .int .i64 wa] 27)).alloc (.cells #[.slice none 0 0, .slice none 0 0, .slice none 0 0, .slice none 0 0] 36)).alloc (.cells #[.int .i64 0, .int .i64 0, .int .i64 0, .int .i64 0, .slice none 0 0, .slice none 0 0] 29) := ⟨_, rfl⟩
  have HZ : Hid (z = _) := hz
  have b0 : Below w.heap.size w z := by rw [hz]; exact bel_next (bel_next (bel_next (bel_alloc w _) (bel_alloc _ _)) (bel_alloc _ _)) (bel_alloc _ _)
  have X0 : Blk z w.heap.size 36 #[.slice a1 l1 c1, .slice a2 l2 c2, .slice a3 l3 c3, .slice a4 l4 c4] := by rw [hz]; exact (((Blk.new w _ _).below (bel_alloc _ _)).below (bel_alloc _ _)).below (bel_alloc _ _)
  have Y0 : Blk z (w.heap.size + 1) 27 #[.int .i64 1, .int .i64 (k : Int), .int .i64 (N : Int), .slice q1 m1 k1, .slice q2 m2 k2, .int .i64 wa] := by rw [hz]; have := ((Blk.new (w.alloc (.cells #[.slice a1 l1 c1, .slice a2 l2 c2, .slice a3 l3 c3, .slice a4 l4 c4] 36)) #[.int .i64 1, .int .i64 (k : Int), .int .i64 (N : Int), .slice q1 m1 k1, .slice q2 m2 k2, .int .i64 wa] 27).below (bel_alloc _ (.cells #[.slice none 0 0, .slice none 0 0, .slice none 0 0, .slice none 0 0] 36))).below (bel_alloc _ (.cells #[.int .i64 0, .int .i64 0, .int .i64 0, .int .i64 0, .slice none 0 0, .slice none 0 0] 29)); simpa using this
  have P0 : Blk z (w.heap.size + 1 + 1) 36 #[.slice none 0 0, .slice none 0 0, .slice none 0 0, .slice none 0 0] := by rw [hz]; have := (Blk.new ((w.alloc (.cells #[.slice a1 l1 c1, .slice a2 l2 c2, .slice a3 l3 c3, .slice a4 l4 c4] 36)).alloc (.cells #[.int .i64 1, .int .i64 (k : Int), .int .i64 (N : Int), .slice q1 m1 k1, .slice q2 m2 k2, .int .i64 wa] 27)) #[.slice none 0 0, .slice none 0 0, .slice none 0 0, .slice none 0 0] 36).below (bel_alloc _ (.cells #[.int .i64 0, .int .i64 0, .int .i64 0, .int .i64 0, .slice none 0 0, .slice none 0 0] 29)); simpa using this
  have Q0 : Blk z (w.heap.size + 1 + 1 + 1) 29 #[.int .i64 0, .int .i64 0, .int .i64 0, .int .i64 0, .slice none 0 0, .slice none 0 0] := by rw [hz]; have := Blk.new (((w.alloc (.cells #[.slice a1 l1 c1, .slice a2 l2 c2, .slice a3 l3 c3, .slice a4 l4 c4] 36)).alloc (.cells #[.int .i64 1, .int .i64 (k : Int), .int .i64 (N : Int), .slice q1 m1 k1, .slice q2 m2 k2, .int .i64 wa] 27)).alloc (.cells #[.slice none 0 0, .slice none 0 0, .slice none 0 0, .slice none 0 0] 36)) #[.int .i64 0, .int .i64 0, .int .i64 0, .int .i64 0, .slice none 0 0, .slice none 0 0] 29; simpa using this
  have HN : Hid (LnD l1 l2 l3 l4 cs is hs rs ∧ SmD 2000000 cs is hs rs ∧ SlD w a1 a2 a3 a4 cs is hs rs ∧ SlI w q1 ws ∧ SlB w q2 bs) := ⟨hn, hsm, hs0, hq, hq2⟩
  have HQ : Hid (m1 = ws.length ∧ m2 = bs.length ∧ ws.length ≤ 2000000 ∧ bs.length ≤ 2000000) := ⟨h1, h2, hl, hl2⟩
  have HZS : Hid (z.heap.size = w.heap.size + 1 + 1 + 1 + 1) := by show _ = _; rw [hz]; simp
  obtain ⟨x0', x1', x2', x3'⟩ := X0.four
  clear hz hn hs0 hsm hq hq2 h1 h2 hl hl2
  go_enter Try.func19, Try.ntmps19
  go_upto_region 1 with fail
  rw [← HZ.out]
  go_wp2_with fail
  refine (l5Copy_any a1 a2 a3 a4 l1 l2 l3 l4 c1 c2 c3 c4 cs is hs rs _ HN.out.1 (HN.out.2.2.1.below b0) HN.out.2.1).mono ?_
  rintro e w1 ⟨x1, x2, x3, x4, d1, d2, d3, d4, rfl, o1, b'⟩
  have b1 := bel_next b0 b'
  have bz1 := b'
  have X1 := X0.below b'
  have Y1 := Y0.below b'
  have P1 := P0.below b'
  have Q1 := Q0.below b'
  have HG6 : Hid (z.heap.size ≤ w1.heap.size) := b'.size
  clear x0' x1' x2' x3' X0 Y0 P0 Q0 b0 b'
  have b' := bel_alloc w1 (.cells #[.slice x1 l1 d1, .slice x2 l2 d2, .slice x3 l3 d3, .slice x4 l4 d4] 36)
  have N' := Blk.new w1 #[.slice x1 l1 d1, .slice x2 l2 d2, .slice x3 l3 d3, .slice x4 l4 d4] 36
  obtain ⟨w2, hw2⟩ : ∃ x, x = w1.alloc (.cells #[.slice x1 l1 d1, .slice x2 l2 d2, .slice x3 l3 d3, .slice x4 l4 d4] 36) := ⟨_, rfl⟩
  rw [← hw2] at b' N'
  have HW2 : Hid (w2 = _) := hw2
  obtain ⟨G6, hBN⟩ : ∃ x, x = w1.heap.size := ⟨_, rfl⟩
  rw [← hBN] at N'
  have HBN : Hid (G6 = w1.heap.size) := hBN
  have S2 : ∀ G7 tc, G6 < G7 → Blk w2 G7 29 tc → True := fun _ _ _ _ => trivial
  have b2 := bel_next b1 b'
  have bz2 := bel_next bz1 b'
  have X2 := X1.below b'
  have Y2 := Y1.below b'
  have P2 := P1.below b'
  have Q2 := Q1.below b'
  have o2 := o1.below b'
  clear hw2 hBN b1 bz1 X1 Y1 P1 Q1 o1 b' S2
  obtain ⟨x0', x1', x2', x3'⟩ := X2.four
  go_upto_region 2 with fail
  rw [← HW2.out]
  simp only [← HBN.out]

  have HD : Hid (okD l1 l2 l3 l4 hs rs = true) := hd
  have HOK : Hid (okR 1 (k : Int) (N : Int) wa ws m1 m2 = true) := hok
  have HAL : Hid (svAll l1 l2 l3 l4 1 (k : Int) (N : Int) wa m1 m2 = true) := hal
  have HLM : Hid (l1 ≤ 2000000 ∧ l2 ≤ 2000000 ∧ l3 ≤ 2000000 ∧ l4 ≤ 2000000) := by have := okD_len hd; show _ ∧ _ ∧ _ ∧ _; omega
  clear hd hok hal
  go_wp2_with fail
  refine (specDeviceOk_any a1 a2 a3 a4 l1 l2 l3 l4 c1 c2 c3 c4 cs is hs rs _ HN.out.1 (HN.out.2.2.1.below b2) HN.out.2.1 true HD.out).mono ?_
  rintro e w3 ⟨rfl, b'⟩
  have b3 := bel_next b2 b'
  have bz3 := bel_next bz2 b'
  have X3 := X2.below b'
  have Y3 := Y2.below b'
  have P3 := P2.below b'
  have Q3 := Q2.below b'
  have N3 := N'.below b'
  have o3 := o2.below b'
  clear x0' x1' x2' x3' X2 Y2 P2 Q2 N' o2 b2 bz2 b'
  obtain ⟨x0', x1', x2', x3'⟩ := X3.four
  obtain ⟨y0', y1', y2', y3', y4', y5'⟩ := Y3.six

  go_wp2_with fail
  refine (specReqOk_q 1 (k : Int) (N : Int) wa q1 q2 m1 m2 k1 k2 ws bs _ HQ.out.1 HQ.out.2.1 (HN.out.2.2.2.1.below b3) (HN.out.2.2.2.2.below b3) HQ.out.2.2.1 HQ.out.2.2.2).mono ?_
  rintro e w4 ⟨he, b'⟩
  rw [HOK.out] at he
  subst he
  have b4 := bel_next b3 b'
  have bz4 := bel_next bz3 b'
  have X4 := X3.below b'
  have Y4 := Y3.below b'
  have P4 := P3.below b'
  have Q4 := Q3.below b'
  have N4 := N3.below b'
  have o4 := o3.below b'
  clear x0' x1' x2' x3' y0' y1' y2' y3' y4' y5' X3 Y3 P3 Q3 N3 o3 b3 bz3 b'
  obtain ⟨x0', x1', x2', x3'⟩ := X4.four
  obtain ⟨y0', y1', y2', y3', y4', y5'⟩ := Y4.six

  go_wp2_with fail
  refine (l5There_any a1 a2 a3 a4 l1 l2 l3 l4 c1 c2 c3 c4 1 (k : Int) (N : Int) wa q1 q2 m1 m2 k1 k2 ws bs _ HQ.out.1 HQ.out.2.1 (HN.out.2.2.2.1.below b4) (HN.out.2.2.2.2.below b4) HQ.out.2.2.1 HQ.out.2.2.2 HOK.out HLM.out.1 HLM.out.2.1 HLM.out.2.2.1 HLM.out.2.2.2 true HAL.out).mono ?_
  rintro e w5 ⟨rfl, b'⟩
  have b5 := bel_next b4 b'
  have bz5 := bel_next bz4 b'
  have X5 := X4.below b'
  have Y5 := Y4.below b'
  have P5 := P4.below b'
  have Q5 := Q4.below b'
  have N5 := N4.below b'
  have o5 := o4.below b'
  clear x0' x1' x2' x3' y0' y1' y2' y3' y4' y5' X4 Y4 P4 Q4 N4 o4 b4 bz4 b'
  obtain ⟨y0', y1', y2', y3', y4', y5'⟩ := Y5.six

  have b' := bel_alloc w5 (.cells #[.int .i64 1, .int .i64 0, .int .i64 0, .int .i64 0, .slice none 0 0, .slice none 0 0] 29)
  have T' := Blk.new w5 #[.int .i64 1, .int .i64 0, .int .i64 0, .int .i64 0, .slice none 0 0, .slice none 0 0] 29
  obtain ⟨w6, hw6⟩ : ∃ x, x = w5.alloc (.cells #[.int .i64 1, .int .i64 0, .int .i64 0, .int .i64 0, .slice none 0 0, .slice none 0 0] 29) := ⟨_, rfl⟩
  rw [← hw6] at b' T'
  have HW6 : Hid (w6 = _) := hw6
  obtain ⟨G7, hG7⟩ : ∃ x, x = w5.heap.size := ⟨_, rfl⟩
  rw [← hG7] at T'
  have HG7 : Hid (G7 = w5.heap.size) := hG7
  have S6 : SS w #[.slice a1 l1 c1, .slice a2 l2 c2, .slice a3 l3 c3, .slice a4 l4 c4] #[.int .i64 1, .int .i64 (k : Int), .int .i64 (N : Int), .slice q1 m1 k1, .slice q2 m2 k2, .int .i64 wa] z G6 G7 x1 x2 x3 x4 l1 l2 l3 l4 d1 d2 d3 d4 is rs cs hs #[.int .i64 1, .int .i64 0, .int .i64 0, .int .i64 0, .slice none 0 0, .slice none 0 0] w6 := ⟨X5.below b', Y5.below b', P5.below b', Q5.below b', N5.below b', T', o5.below b', bel_next b5 b', bel_next bz5 b', HZS.out, by have := HG6.out; have := HBN.out; omega, by rw [hG7]; exact N5.lt⟩
  clear X5 Y5 P5 Q5 N5 o5 b5 bz5 b' T' hw6 hG7
  go_upto_region 7 with fail
  clear y0' y1' y2' y3' y4' y5'
  rw [← HW6.out]
  simp only [← HG7.out]
  clear HW6 HG7 HW2 HBN HZ

  have HK : Hid (l1 = cs.length ∧ l1 ≤ c1 ∧ k + N ≤ l1 ∧ 1 ≤ N) := ⟨HN.out.1.1, hcap, hpk, hN⟩
  clear hcap hpk hN
  obtain ⟨x0', x1', x2', x3'⟩ := S6.X.four
  obtain ⟨y0', y1', y2', y3', y4', y5'⟩ := S6.Y.six
  obtain ⟨n0', n1', n2', n3'⟩ := S6.N.four
  obtain ⟨t0', t1', t2', t3', t4', t5'⟩ := S6.T.six
  have ft0 := S6.T.fro 0
  have ft1 := S6.T.fro 1
  have ft2 := S6.T.fro 2
  have ft3 := S6.T.fro 3
  have ft4 := S6.T.fro 4
  have ft5 := S6.T.fro 5

  go_wp2_with fail
  refine (l5Bits_any a1 l1 c1 k N cs _ HK.out.1 HK.out.2.1 (HN.out.2.2.1.1.below S6.bel) HK.out.2.2.1 HK.out.2.2.2 HLM.out.1).mono ?_
  rintro e w7 ⟨v, rfl, ov, b'⟩
  obtain ⟨r2, t2, p2, rfl, hp2⟩ := ownB_form ov
  have S7 := S6.below b'
  have HAp : Hid (∀ g, (Of4 (.slice x1 l1 d1) (.slice x2 l2 d2) (.slice x3 l3 d3) (.slice x4 l4 d4)) g → ¬ Of2 (.slice none 0 0) (.slice r2 p2 t2) g) := S6.apart (ownI_nil0 _ _) ov
  have HO : Hid (OwnB w7 w.heap.size (.slice r2 p2 t2) (tB8 cs k N)) := ov.mono S6.bel.size
  have S8 := S7.setT 5 (.slice r2 p2 t2)
  have HO8 : Hid (OwnB (w7.setCell ⟨G7, 5, none⟩ (.slice r2 p2 t2)) w.heap.size (.slice r2 p2 t2) (tB8 cs k N)) := row_setE HO.out ⟨_, S7.T⟩ (by decide)
  clear hp2 ov b' S6
  clear x0' x1' x2' x3' y0' y1' y2' y3' y4' y5' n0' n1' n2' n3' t0' t1' t2' t3' t4' t5' ft0 ft1 ft2 ft3 ft4 ft5

  obtain ⟨x0', x1', x2', x3'⟩ := S7.X.four
  obtain ⟨y0', y1', y2', y3', y4', y5'⟩ := S7.Y.six
  obtain ⟨n0', n1', n2', n3'⟩ := S7.N.four
  obtain ⟨t0', t1', t2', t3', t4', t5'⟩ := S7.T.six
  have ft0 := S7.T.fro 0
  have ft1 := S7.T.fro 1
  have ft2 := S7.T.fro 2
  have ft3 := S7.T.fro 3
  have ft4 := S7.T.fro 4
  have ft5 := S7.T.fro 5

  go_upto_region 41 with fail
  obtain ⟨w8, hw8⟩ : ∃ x, x = w7.setCell ⟨G7, 5, none⟩ (.slice r2 p2 t2) := ⟨_, rfl⟩
  rw [← hw8] at S8 HO8 ⊢
  have S9 : SS w #[.slice a1 l1 c1, .slice a2 l2 c2, .slice a3 l3 c3, .slice a4 l4 c4] #[.int .i64 1, .int .i64 (k : Int), .int .i64 (N : Int), .slice q1 m1 k1, .slice q2 m2 k2, .int .i64 wa] z G6 G7 x1 x2 x3 x4 l1 l2 l3 l4 d1 d2 d3 d4 is rs cs hs #[.int .i64 1, .int .i64 0, .int .i64 0, .int .i64 0, .slice none 0 0, .slice r2 p2 t2] w8 := S8
  clear hw8 S8 S7 HO
  clear x0' x1' x2' x3' y0' y1' y2' y3' y4' y5' n0' n1' n2' n3' t0' t1' t2' t3' t4' t5' ft0 ft1 ft2 ft3 ft4 ft5

  obtain ⟨r1, p1, t1, hr1⟩ : ∃ (r1 : Option Addr) (p1 t1 : Nat), Value.slice r1 p1 t1 = .slice none 0 0 := ⟨none, 0, 0, rfl⟩
  rw [← hr1] at S9 HAp
  have OI : Hid (OwnI w8 w.heap.size (.slice r1 p1 t1) []) := by rw [hr1]; exact ownI_nil0 _ _
  have OB := HO8
  clear hr1
  have N4 := S9.N
  have T' := S9.T
  have P4 := S9.P
  have Q4 := S9.Q
  have HH : Hid (OwnD w8 w.heap.size x1 x2 x3 x4 l1 l2 l3 l4 d1 d2 d3 d4 cs is hs rs ∧ OwnI w8 w.heap.size (.slice r1 p1 t1) [] ∧ OwnB w8 w.heap.size (.slice r2 p2 t2) (tB8 cs k N) ∧ Below w.heap.size w w8 ∧ ExB w8 (w.heap.size + 1 + 1) 36 ∧ ExB w8 (w.heap.size + 1 + 1 + 1) 29) := ⟨S9.D.mono (by have := S9.zb0; omega), OI.out, OB.out, S9.bel, ⟨_, P4⟩, ⟨_, Q4⟩⟩
  have lN : w.heap.size + 1 + 1 + 1 + 1 ≤ G6 := by have := S9.zb0; have := S9.g6; omega
  have lT : w.heap.size + 1 + 1 + 1 + 1 ≤ G7 := by have := S9.g7; omega
  obtain ⟨n0, n1, n2, n3⟩ := N4.four
  obtain ⟨t0', t1', t2', t3', t4', t5'⟩ := T'.six
  obtain ⟨p0', p1', p2', p3'⟩ := P4.four
  obtain ⟨q0', q1', q2', q3', q4', q5'⟩ := Q4.six
  have fp0 := P4.fro 0
  have fp1 := P4.fro 1
  have fp2 := P4.fro 2
  have fp3 := P4.fro 3
  have fq0 := Q4.fro 0
  have fq1 := Q4.fro 1
  have fq2 := Q4.fro 2
  have fq3 := Q4.fro 3
  have fq4 := Q4.fro 4
  have fq5 := Q4.fro 5
  have e1 : ¬ (G6 = w.heap.size + 1 + 1) := by omega
  have e2 : ¬ (G6 = w.heap.size + 1 + 1 + 1) := by omega
  have e3 : ¬ (G7 = w.heap.size + 1 + 1) := by omega
  have e4 : ¬ (G7 = w.heap.size + 1 + 1 + 1) := by omega
  have e1' : ¬ (w.heap.size + 1 + 1 = G6) := by omega
  have e2' : ¬ (w.heap.size + 1 + 1 + 1 = G6) := by omega
  have e3' : ¬ (w.heap.size + 1 + 1 = G7) := by omega
  have e4' : ¬ (w.heap.size + 1 + 1 + 1 = G7) := by omega
  clear lN lT
  obtain ⟨W5, hW5⟩ : ∃ x, x = ((((((((((w8.setCell ⟨w.heap.size + 1 + 1, 0, none⟩ (.slice x1 l1 d1)).setCell ⟨w.heap.size + 1 + 1, 1, none⟩ (.slice x2 l2 d2)).setCell ⟨w.heap.size + 1 + 1, 2, none⟩ (.slice x3 l3 d3)).setCell ⟨w.heap.size + 1 + 1, 3, none⟩ (.slice x4 l4 d4)).setCell ⟨w.heap.size + 1 + 1 + 1, 0, none⟩ (.int .i64 (1))).setCell ⟨w.heap.size + 1 + 1 + 1, 1, none⟩ (.int .i64 (0))).setCell ⟨w.heap.size + 1 + 1 + 1, 2, none⟩ (.int .i64 (0))).setCell ⟨w.heap.size + 1 + 1 + 1, 3, none⟩ (.int .i64 (0))).setCell ⟨w.heap.size + 1 + 1 + 1, 4, none⟩ (.slice r1 p1 t1)).setCell ⟨w.heap.size + 1 + 1 + 1, 5, none⟩ (.slice r2 p2 t2)) := ⟨_, rfl⟩
  have HW5 : Hid (W5 = _) := hW5
  have HF : Hid (OwnD W5 w.heap.size x1 x2 x3 x4 l1 l2 l3 l4 d1 d2 d3 d4 cs is hs rs ∧ OwnI W5 w.heap.size (.slice r1 p1 t1) [] ∧ OwnB W5 w.heap.size (.slice r2 p2 t2) (tB8 cs k N) ∧ Below w.heap.size w W5) := by
    obtain ⟨o1, o2, o3, o4, o5, o6⟩ := HH.out
    have x6 : ∀ v0 v1 v2 v3 : Value, ExB ((((w8.setCell ⟨w.heap.size + 1 + 1, 0, none⟩ v0).setCell ⟨w.heap.size + 1 + 1, 1, none⟩ v1).setCell ⟨w.heap.size + 1 + 1, 2, none⟩ v2).setCell ⟨w.heap.size + 1 + 1, 3, none⟩ v3) (w.heap.size + 1 + 1 + 1) 29 := fun _ _ _ _ => ExB.set (ExB.set (ExB.set (ExB.set o6)))
    rw [hW5]
    exact ⟨(o1.set4 o5 (by decide) (by decide)).set6 (x6 _ _ _ _) (by decide) (by decide), rowp_set6 (row_set4 o2 o5 (by decide)) (x6 _ _ _ _) (by decide), rowp_set6 (row_set4 o3 o5 (by decide)) (x6 _ _ _ _) (by decide), belp_set6 (bel_set4 o4 (by omega)) (by omega)⟩
  have HPQ : Hid (Blk W5 (w.heap.size + 1 + 1) 36 #[.slice x1 l1 d1, .slice x2 l2 d2, .slice x3 l3 d3, .slice x4 l4 d4] ∧ Blk W5 (w.heap.size + 1 + 1 + 1) 29 #[.int .i64 1, .int .i64 0, .int .i64 0, .int .i64 0, .slice r1 p1 t1, .slice r2 p2 t2]) := by
    have a1' := (((P4.set 0 (.slice x1 l1 d1)).set 1 (.slice x2 l2 d2)).set 2 (.slice x3 l3 d3)).set 3 (.slice x4 l4 d4)
    have a2' := (((((a1'.setNe (g' := w.heap.size + 1 + 1 + 1) (j := 0) (y := .int .i64 (1)) (by omega)).setNe (g' := w.heap.size + 1 + 1 + 1) (j := 1) (y := .int .i64 (0)) (by omega)).setNe (g' := w.heap.size + 1 + 1 + 1) (j := 2) (y := .int .i64 (0)) (by omega)).setNe (g' := w.heap.size + 1 + 1 + 1) (j := 3) (y := .int .i64 (0)) (by omega)).setNe (g' := w.heap.size + 1 + 1 + 1) (j := 4) (y := .slice r1 p1 t1) (by omega)).setNe (g' := w.heap.size + 1 + 1 + 1) (j := 5) (y := .slice r2 p2 t2) (by omega)
    have c1' := (((Q4.setNe (g' := w.heap.size + 1 + 1) (j := 0) (y := .slice x1 l1 d1) (by omega)).setNe (g' := w.heap.size + 1 + 1) (j := 1) (y := .slice x2 l2 d2) (by omega)).setNe (g' := w.heap.size + 1 + 1) (j := 2) (y := .slice x3 l3 d3) (by omega)).setNe (g' := w.heap.size + 1 + 1) (j := 3) (y := .slice x4 l4 d4) (by omega)
    have c2' := (((((c1'.set 0 (.int .i64 (1))).set 1 (.int .i64 (0))).set 2 (.int .i64 (0))).set 3 (.int .i64 (0))).set 4 (.slice r1 p1 t1)).set 5 (.slice r2 p2 t2)
    rw [hW5]
    exact ⟨a2', c2'⟩
  clear hW5 S9
  go_region
  rw [← HW5.out]
  obtain ⟨u0, u1, u2, u3⟩ := HPQ.out.1.four
  obtain ⟨v0, v1, v2, v3, v4, v5⟩ := HPQ.out.2.six
  clear p0' p1' p2' p3' q0' q1' q2' q3' q4' q5' fp0 fp1 fp2 fp3 fq0 fq1 fq2 fq3 fq4 fq5 n0 n1 n2 n3 t0' t1' t2' t3' t4' t5'
  go_wp2
  refine bodyPost_ret (v := .tuple #[dv x1 x2 x3 x4 l1 l2 l3 l4 d1 d2 d3 d4, rp (1) (0) (0) (0) r1 r2 p1 p2 t1 t2]) (by simp [results, Try.results19, go_sem, u0, u1, u2, u3, v0, v1, v2, v3, v4, v5]) rfl ?_
  obtain ⟨o1, o2, o3, o4⟩ := HF.out
  exact ⟨_, _, _, _, _, _, _, _, _, _, _, _, _, _, _, _, _, _, rfl, o1.drew, o2.below (Below.refl _ _).drew, o3.below (Below.refl _ _).drew, HAp.out, o4.drew⟩

set_option maxRecDepth 20000 in
set_option maxHeartbeats 4000000 in
theorem specServe_2 (a1 a2 a3 a4 : Option Addr) (l1 l2 l3 l4 c1 c2 c3 c4 : Nat) (cs is : List Bool) (hs rs : List Int) (wa : Int) (q1 q2 : Option Addr) (m1 m2 k1 k2 : Nat) (ws : List Int) (bs : List Bool) (w : World) (hn : LnD l1 l2 l3 l4 cs is hs rs) (hs0 : SlD w a1 a2 a3 a4 cs is hs rs) (hsm : SmD 2000000 cs is hs rs) (hq : SlI w q1 ws) (hq2 : SlB w q2 bs) (h1 : m1 = ws.length) (h2 : m2 = bs.length) (hl : ws.length ≤ 2000000) (hl2 : bs.length ≤ 2000000) (k N : Nat) (hN : 1 ≤ N) (hpk : k + N ≤ l2) (hcap : l2 ≤ c2) (hok : okR 2 (k : Int) (N : Int) wa ws m1 m2 = true) (hd : okD l1 l2 l3 l4 hs rs = true) (hal : svAll l1 l2 l3 l4 2 (k : Int) (N : Int) wa m1 m2 = true) :
    Calls Try.prog 19 #[dv a1 a2 a3 a4 l1 l2 l3 l4 c1 c2 c3 c4, .agg #[.int .i64 2, .int .i64 (k : Int), .int .i64 (N : Int), .slice q1 m1 k1, .slice q2 m2 k2, .int .i64 wa]] w fun e w' => SR w w' e cs is hs rs 2 0 0 0 [] (tB8 is k N) := by
  obtain ⟨z, hz⟩ : ∃ z, z = (((w.alloc (.cells #[.slice a1 l1 c1, .slice a2 l2 c2, .slice a3 l3 c3, .slice a4 l4 c4] 36)).alloc (.cells #[.int .i64 2, .int .i64 (k : Int), .int .i64 (N : Int), .slice q1 m1 k1, .slice q2 m2 k2, .int .i64 wa] 27)).alloc (.cells #[.slice none 0 0, .slice none 0 0, .slice none 0 0, .slice none 0 0] 36)).alloc (.cells #[.int .i64 0, .int .i64 0, .int .i64 0, .int .i64 0, .slice none 0 0, .slice none 0 0] 29) := ⟨_, rfl⟩
  have HZ : Hid (z = _) := hz
  have b0 : Below w.heap.size w z := by rw [hz]; exact bel_next (bel_next (bel_next (bel_alloc w _) (bel_alloc _ _)) (bel_alloc _ _)) (bel_alloc _ _)
  have X0 : Blk z w.heap.size 36 #[.slice a1 l1 c1, .slice a2 l2 c2, .slice a3 l3 c3, .slice a4 l4 c4] := by rw [hz]; exact (((Blk.new w _ _).below (bel_alloc _ _)).below (bel_alloc _ _)).below (bel_alloc _ _)
  have Y0 : Blk z (w.heap.size + 1) 27 #[.int .i64 2, .int .i64 (k : Int), .int .i64 (N : Int), .slice q1 m1 k1, .slice q2 m2 k2, .int .i64 wa] := by rw [hz]; have := ((Blk.new (w.alloc (.cells #[.slice a1 l1 c1, .slice a2 l2 c2, .slice a3 l3 c3, .slice a4 l4 c4] 36)) #[.int .i64 2, .int .i64 (k : Int), .int .i64 (N : Int), .slice q1 m1 k1, .slice q2 m2 k2, .int .i64 wa] 27).below (bel_alloc _ (.cells #[.slice none 0 0, .slice none 0 0, .slice none 0 0, .slice none 0 0] 36))).below (bel_alloc _ (.cells #[.int .i64 0, .int .i64 0, .int .i64 0, .int .i64 0, .slice none 0 0, .slice none 0 0] 29)); simpa using this
  have P0 : Blk z (w.heap.size + 1 + 1) 36 #[.slice none 0 0, .slice none 0 0, .slice none 0 0, .slice none 0 0] := by rw [hz]; have := (Blk.new ((w.alloc (.cells #[.slice a1 l1 c1, .slice a2 l2 c2, .slice a3 l3 c3, .slice a4 l4 c4] 36)).alloc (.cells #[.int .i64 2, .int .i64 (k : Int), .int .i64 (N : Int), .slice q1 m1 k1, .slice q2 m2 k2, .int .i64 wa] 27)) #[.slice none 0 0, .slice none 0 0, .slice none 0 0, .slice none 0 0] 36).below (bel_alloc _ (.cells #[.int .i64 0, .int .i64 0, .int .i64 0, .int .i64 0, .slice none 0 0, .slice none 0 0] 29)); simpa using this
  have Q0 : Blk z (w.heap.size + 1 + 1 + 1) 29 #[.int .i64 0, .int .i64 0, .int .i64 0, .int .i64 0, .slice none 0 0, .slice none 0 0] := by rw [hz]; have := Blk.new (((w.alloc (.cells #[.slice a1 l1 c1, .slice a2 l2 c2, .slice a3 l3 c3, .slice a4 l4 c4] 36)).alloc (.cells #[.int .i64 2, .int .i64 (k : Int), .int .i64 (N : Int), .slice q1 m1 k1, .slice q2 m2 k2, .int .i64 wa] 27)).alloc (.cells #[.slice none 0 0, .slice none 0 0, .slice none 0 0, .slice none 0 0] 36)) #[.int .i64 0, .int .i64 0, .int .i64 0, .int .i64 0, .slice none 0 0, .slice none 0 0] 29; simpa using this
  have HN : Hid (LnD l1 l2 l3 l4 cs is hs rs ∧ SmD 2000000 cs is hs rs ∧ SlD w a1 a2 a3 a4 cs is hs rs ∧ SlI w q1 ws ∧ SlB w q2 bs) := ⟨hn, hsm, hs0, hq, hq2⟩
  have HQ : Hid (m1 = ws.length ∧ m2 = bs.length ∧ ws.length ≤ 2000000 ∧ bs.length ≤ 2000000) := ⟨h1, h2, hl, hl2⟩
  have HZS : Hid (z.heap.size = w.heap.size + 1 + 1 + 1 + 1) := by show _ = _; rw [hz]; simp
  obtain ⟨x0', x1', x2', x3'⟩ := X0.four
  clear hz hn hs0 hsm hq hq2 h1 h2 hl hl2
  go_enter Try.func19, Try.ntmps19
  go_upto_region 1 with fail
  rw [← HZ.out]
  go_wp2_with fail
  refine (l5Copy_any a1 a2 a3 a4 l1 l2 l3 l4 c1 c2 c3 c4 cs is hs rs _ HN.out.1 (HN.out.2.2.1.below b0) HN.out.2.1).mono ?_
  rintro e w1 ⟨x1, x2, x3, x4, d1, d2, d3, d4, rfl, o1, b'⟩
  have b1 := bel_next b0 b'
  have bz1 := b'
  have X1 := X0.below b'
  have Y1 := Y0.below b'
  have P1 := P0.below b'
  have Q1 := Q0.below b'
  have HG6 : Hid (z.heap.size ≤ w1.heap.size) := b'.size
  clear x0' x1' x2' x3' X0 Y0 P0 Q0 b0 b'
  have b' := bel_alloc w1 (.cells #[.slice x1 l1 d1, .slice x2 l2 d2, .slice x3 l3 d3, .slice x4 l4 d4] 36)
  have N' := Blk.new w1 #[.slice x1 l1 d1, .slice x2 l2 d2, .slice x3 l3 d3, .slice x4 l4 d4] 36
  obtain ⟨w2, hw2⟩ : ∃ x, x = w1.alloc (.cells #[.slice x1 l1 d1, .slice x2 l2 d2, .slice x3 l3 d3, .slice x4 l4 d4] 36) := ⟨_, rfl⟩
  rw [← hw2] at b' N'
  have HW2 : Hid (w2 = _) := hw2
  obtain ⟨G6, hBN⟩ : ∃ x, x = w1.heap.size := ⟨_, rfl⟩
  rw [← hBN] at N'
  have HBN : Hid (G6 = w1.heap.size) := hBN
  have S2 : ∀ G7 tc, G6 < G7 → Blk w2 G7 29 tc → True := fun _ _ _ _ => trivial
  have b2 := bel_next b1 b'
  have bz2 := bel_next bz1 b'
  have X2 := X1.below b'
  have Y2 := Y1.below b'
  have P2 := P1.below b'
  have Q2 := Q1.below b'
  have o2 := o1.below b'
  clear hw2 hBN b1 bz1 X1 Y1 P1 Q1 o1 b' S2
  obtain ⟨x0', x1', x2', x3'⟩ := X2.four
  go_upto_region 2 with fail
  rw [← HW2.out]
  simp only [← HBN.out]

  have HD : Hid (okD l1 l2 l3 l4 hs rs = true) := hd
  have HOK : Hid (okR 2 (k : Int) (N : Int) wa ws m1 m2 = true) := hok
  have HAL : Hid (svAll l1 l2 l3 l4 2 (k : Int) (N : Int) wa m1 m2 = true) := hal
  have HLM : Hid (l1 ≤ 2000000 ∧ l2 ≤ 2000000 ∧ l3 ≤ 2000000 ∧ l4 ≤ 2000000) := by have := okD_len hd; show _ ∧ _ ∧ _ ∧ _; omega
  clear hd hok hal
  go_wp2_with fail
  refine (specDeviceOk_any a1 a2 a3 a4 l1 l2 l3 l4 c1 c2 c3 c4 cs is hs rs _ HN.out.1 (HN.out.2.2.1.below b2) HN.out.2.1 true HD.out).mono ?_
  rintro e w3 ⟨rfl, b'⟩
  have b3 := bel_next b2 b'
  have bz3 := bel_next bz2 b'
  have X3 := X2.below b'
  have Y3 := Y2.below b'
  have P3 := P2.below b'
  have Q3 := Q2.below b'
  have N3 := N'.below b'
  have o3 := o2.below b'
  clear x0' x1' x2' x3' X2 Y2 P2 Q2 N' o2 b2 bz2 b'
  obtain ⟨x0', x1', x2', x3'⟩ := X3.four
  obtain ⟨y0', y1', y2', y3', y4', y5'⟩ := Y3.six

  go_wp2_with fail
  refine (specReqOk_q 2 (k : Int) (N : Int) wa q1 q2 m1 m2 k1 k2 ws bs _ HQ.out.1 HQ.out.2.1 (HN.out.2.2.2.1.below b3) (HN.out.2.2.2.2.below b3) HQ.out.2.2.1 HQ.out.2.2.2).mono ?_
  rintro e w4 ⟨he, b'⟩
  rw [HOK.out] at he
  subst he
  have b4 := bel_next b3 b'
  have bz4 := bel_next bz3 b'
  have X4 := X3.below b'
  have Y4 := Y3.below b'
  have P4 := P3.below b'
  have Q4 := Q3.below b'
  have N4 := N3.below b'
  have o4 := o3.below b'
  clear x0' x1' x2' x3' y0' y1' y2' y3' y4' y5' X3 Y3 P3 Q3 N3 o3 b3 bz3 b'
  obtain ⟨x0', x1', x2', x3'⟩ := X4.four
  obtain ⟨y0', y1', y2', y3', y4', y5'⟩ := Y4.six

  go_wp2_with fail
  refine (l5There_any a1 a2 a3 a4 l1 l2 l3 l4 c1 c2 c3 c4 2 (k : Int) (N : Int) wa q1 q2 m1 m2 k1 k2 ws bs _ HQ.out.1 HQ.out.2.1 (HN.out.2.2.2.1.below b4) (HN.out.2.2.2.2.below b4) HQ.out.2.2.1 HQ.out.2.2.2 HOK.out HLM.out.1 HLM.out.2.1 HLM.out.2.2.1 HLM.out.2.2.2 true HAL.out).mono ?_
  rintro e w5 ⟨rfl, b'⟩
  have b5 := bel_next b4 b'
  have bz5 := bel_next bz4 b'
  have X5 := X4.below b'
  have Y5 := Y4.below b'
  have P5 := P4.below b'
  have Q5 := Q4.below b'
  have N5 := N4.below b'
  have o5 := o4.below b'
  clear x0' x1' x2' x3' y0' y1' y2' y3' y4' y5' X4 Y4 P4 Q4 N4 o4 b4 bz4 b'
  obtain ⟨y0', y1', y2', y3', y4', y5'⟩ := Y5.six

  have b' := bel_alloc w5 (.cells #[.int .i64 2, .int .i64 0, .int .i64 0, .int .i64 0, .slice none 0 0, .slice none 0 0] 29)
  have T' := Blk.new w5 #[.int .i64 2, .int .i64 0, .int .i64 0, .int .i64 0, .slice none 0 0, .slice none 0 0] 29
  obtain ⟨w6, hw6⟩ : ∃ x, x = w5.alloc (.cells #[.int .i64 2, .int .i64 0, .int .i64 0, .int .i64 0, .slice none 0 0, .slice none 0 0] 29) := ⟨_, rfl⟩
  rw [← hw6] at b' T'
  have HW6 : Hid (w6 = _) := hw6
  obtain ⟨G7, hG7⟩ : ∃ x, x = w5.heap.size := ⟨_, rfl⟩
  rw [← hG7] at T'
  have HG7 : Hid (G7 = w5.heap.size) := hG7
  have S6 : SS w #[.slice a1 l1 c1, .slice a2 l2 c2, .slice a3 l3 c3, .slice a4 l4 c4] #[.int .i64 2, .int .i64 (k : Int), .int .i64 (N : Int), .slice q1 m1 k1, .slice q2 m2 k2, .int .i64 wa] z G6 G7 x1 x2 x3 x4 l1 l2 l3 l4 d1 d2 d3 d4 is rs cs hs #[.int .i64 2, .int .i64 0, .int .i64 0, .int .i64 0, .slice none 0 0, .slice none 0 0] w6 := ⟨X5.below b', Y5.below b', P5.below b', Q5.below b', N5.below b', T', o5.below b', bel_next b5 b', bel_next bz5 b', HZS.out, by have := HG6.out; have := HBN.out; omega, by rw [hG7]; exact N5.lt⟩
  clear X5 Y5 P5 Q5 N5 o5 b5 bz5 b' T' hw6 hG7
  go_upto_region 7 with fail
  clear y0' y1' y2' y3' y4' y5'
  rw [← HW6.out]
  simp only [← HG7.out]
  clear HW6 HG7 HW2 HBN HZ

  have HK : Hid (l2 = is.length ∧ l2 ≤ c2 ∧ k + N ≤ l2 ∧ 1 ≤ N) := ⟨HN.out.1.2.1, hcap, hpk, hN⟩
  clear hcap hpk hN
  obtain ⟨x0', x1', x2', x3'⟩ := S6.X.four
  obtain ⟨y0', y1', y2', y3', y4', y5'⟩ := S6.Y.six
  obtain ⟨n0', n1', n2', n3'⟩ := S6.N.four
  obtain ⟨t0', t1', t2', t3', t4', t5'⟩ := S6.T.six
  have ft0 := S6.T.fro 0
  have ft1 := S6.T.fro 1
  have ft2 := S6.T.fro 2
  have ft3 := S6.T.fro 3
  have ft4 := S6.T.fro 4
  have ft5 := S6.T.fro 5

  go_wp2_with fail
  refine (l5Bits_any a2 l2 c2 k N is _ HK.out.1 HK.out.2.1 (HN.out.2.2.1.2.1.below S6.bel) HK.out.2.2.1 HK.out.2.2.2 HLM.out.2.1).mono ?_
  rintro e w7 ⟨v, rfl, ov, b'⟩
  obtain ⟨r2, t2, p2, rfl, hp2⟩ := ownB_form ov
  have S7 := S6.below b'
  have HAp : Hid (∀ g, (Of4 (.slice x1 l1 d1) (.slice x2 l2 d2) (.slice x3 l3 d3) (.slice x4 l4 d4)) g → ¬ Of2 (.slice none 0 0) (.slice r2 p2 t2) g) := S6.apart (ownI_nil0 _ _) ov
  have HO : Hid (OwnB w7 w.heap.size (.slice r2 p2 t2) (tB8 is k N)) := ov.mono S6.bel.size
  have S8 := S7.setT 5 (.slice r2 p2 t2)
  have HO8 : Hid (OwnB (w7.setCell ⟨G7, 5, none⟩ (.slice r2 p2 t2)) w.heap.size (.slice r2 p2 t2) (tB8 is k N)) := row_setE HO.out ⟨_, S7.T⟩ (by decide)
  clear hp2 ov b' S6
  clear x0' x1' x2' x3' y0' y1' y2' y3' y4' y5' n0' n1' n2' n3' t0' t1' t2' t3' t4' t5' ft0 ft1 ft2 ft3 ft4 ft5

  obtain ⟨x0', x1', x2', x3'⟩ := S7.X.four
  obtain ⟨y0', y1', y2', y3', y4', y5'⟩ := S7.Y.six
  obtain ⟨n0', n1', n2', n3'⟩ := S7.N.four
  obtain ⟨t0', t1', t2', t3', t4', t5'⟩ := S7.T.six
  have ft0 := S7.T.fro 0
  have ft1 := S7.T.fro 1
  have ft2 := S7.T.fro 2
  have ft3 := S7.T.fro 3
  have ft4 := S7.T.fro 4
  have ft5 := S7.T.fro 5

  go_upto_region 41 with fail
  obtain ⟨w8, hw8⟩ : ∃ x, x = w7.setCell ⟨G7, 5, none⟩ (.slice r2 p2 t2) := ⟨_, rfl⟩
  rw [← hw8] at S8 HO8 ⊢
  have S9 : SS w #[.slice a1 l1 c1, .slice a2 l2 c2, .slice a3 l3 c3, .slice a4 l4 c4] #[.int .i64 2, .int .i64 (k : Int), .int .i64 (N : Int), .slice q1 m1 k1, .slice q2 m2 k2, .int .i64 wa] z G6 G7 x1 x2 x3 x4 l1 l2 l3 l4 d1 d2 d3 d4 is rs cs hs #[.int .i64 2, .int .i64 0, .int .i64 0, .int .i64 0, .slice none 0 0, .slice r2 p2 t2] w8 := S8
  clear hw8 S8 S7 HO
  clear x0' x1' x2' x3' y0' y1' y2' y3' y4' y5' n0' n1' n2' n3' t0' t1' t2' t3' t4' t5' ft0 ft1 ft2 ft3 ft4 ft5

  obtain ⟨r1, p1, t1, hr1⟩ : ∃ (r1 : Option Addr) (p1 t1 : Nat), Value.slice r1 p1 t1 = .slice none 0 0 := ⟨none, 0, 0, rfl⟩
  rw [← hr1] at S9 HAp
  have OI : Hid (OwnI w8 w.heap.size (.slice r1 p1 t1) []) := by rw [hr1]; exact ownI_nil0 _ _
  have OB := HO8
  clear hr1
  have N4 := S9.N
  have T' := S9.T
  have P4 := S9.P
  have Q4 := S9.Q
  have HH : Hid (OwnD w8 w.heap.size x1 x2 x3 x4 l1 l2 l3 l4 d1 d2 d3 d4 cs is hs rs ∧ OwnI w8 w.heap.size (.slice r1 p1 t1) [] ∧ OwnB w8 w.heap.size (.slice r2 p2 t2) (tB8 is k N) ∧ Below w.heap.size w w8 ∧ ExB w8 (w.heap.size + 1 + 1) 36 ∧ ExB w8 (w.heap.size + 1 + 1 + 1) 29) := ⟨S9.D.mono (by have := S9.zb0; omega), OI.out, OB.out, S9.bel, ⟨_, P4⟩, ⟨_, Q4⟩⟩
  have lN : w.heap.size + 1 + 1 + 1 + 1 ≤ G6 := by have := S9.zb0; have := S9.g6; omega
  have lT : w.heap.size + 1 + 1 + 1 + 1 ≤ G7 := by have := S9.g7; omega
  obtain ⟨n0, n1, n2, n3⟩ := N4.four
  obtain ⟨t0', t1', t2', t3', t4', t5'⟩ := T'.six
  obtain ⟨p0', p1', p2', p3'⟩ := P4.four
  obtain ⟨q0', q1', q2', q3', q4', q5'⟩ := Q4.six
  have fp0 := P4.fro 0
  have fp1 := P4.fro 1
  have fp2 := P4.fro 2
  have fp3 := P4.fro 3
  have fq0 := Q4.fro 0
  have fq1 := Q4.fro 1
  have fq2 := Q4.fro 2
  have fq3 := Q4.fro 3
  have fq4 := Q4.fro 4
  have fq5 := Q4.fro 5
  have e1 : ¬ (G6 = w.heap.size + 1 + 1) := by omega
  have e2 : ¬ (G6 = w.heap.size + 1 + 1 + 1) := by omega
  have e3 : ¬ (G7 = w.heap.size + 1 + 1) := by omega
  have e4 : ¬ (G7 = w.heap.size + 1 + 1 + 1) := by omega
  have e1' : ¬ (w.heap.size + 1 + 1 = G6) := by omega
  have e2' : ¬ (w.heap.size + 1 + 1 + 1 = G6) := by omega
  have e3' : ¬ (w.heap.size + 1 + 1 = G7) := by omega
  have e4' : ¬ (w.heap.size + 1 + 1 + 1 = G7) := by omega
  clear lN lT
  obtain ⟨W5, hW5⟩ : ∃ x, x = ((((((((((w8.setCell ⟨w.heap.size + 1 + 1, 0, none⟩ (.slice x1 l1 d1)).setCell ⟨w.heap.size + 1 + 1, 1, none⟩ (.slice x2 l2 d2)).setCell ⟨w.heap.size + 1 + 1, 2, none⟩ (.slice x3 l3 d3)).setCell ⟨w.heap.size + 1 + 1, 3, none⟩ (.slice x4 l4 d4)).setCell ⟨w.heap.size + 1 + 1 + 1, 0, none⟩ (.int .i64 (2))).setCell ⟨w.heap.size + 1 + 1 + 1, 1, none⟩ (.int .i64 (0))).setCell ⟨w.heap.size + 1 + 1 + 1, 2, none⟩ (.int .i64 (0))).setCell ⟨w.heap.size + 1 + 1 + 1, 3, none⟩ (.int .i64 (0))).setCell ⟨w.heap.size + 1 + 1 + 1, 4, none⟩ (.slice r1 p1 t1)).setCell ⟨w.heap.size + 1 + 1 + 1, 5, none⟩ (.slice r2 p2 t2)) := ⟨_, rfl⟩
  have HW5 : Hid (W5 = _) := hW5
  have HF : Hid (OwnD W5 w.heap.size x1 x2 x3 x4 l1 l2 l3 l4 d1 d2 d3 d4 cs is hs rs ∧ OwnI W5 w.heap.size (.slice r1 p1 t1) [] ∧ OwnB W5 w.heap.size (.slice r2 p2 t2) (tB8 is k N) ∧ Below w.heap.size w W5) := by
    obtain ⟨o1, o2, o3, o4, o5, o6⟩ := HH.out
    have x6 : ∀ v0 v1 v2 v3 : Value, ExB ((((w8.setCell ⟨w.heap.size + 1 + 1, 0, none⟩ v0).setCell ⟨w.heap.size + 1 + 1, 1, none⟩ v1).setCell ⟨w.heap.size + 1 + 1, 2, none⟩ v2).setCell ⟨w.heap.size + 1 + 1, 3, none⟩ v3) (w.heap.size + 1 + 1 + 1) 29 := fun _ _ _ _ => ExB.set (ExB.set (ExB.set (ExB.set o6)))
    rw [hW5]
    exact ⟨(o1.set4 o5 (by decide) (by decide)).set6 (x6 _ _ _ _) (by decide) (by decide), rowp_set6 (row_set4 o2 o5 (by decide)) (x6 _ _ _ _) (by decide), rowp_set6 (row_set4 o3 o5 (by decide)) (x6 _ _ _ _) (by decide), belp_set6 (bel_set4 o4 (by omega)) (by omega)⟩
  have HPQ : Hid (Blk W5 (w.heap.size + 1 + 1) 36 #[.slice x1 l1 d1, .slice x2 l2 d2, .slice x3 l3 d3, .slice x4 l4 d4] ∧ Blk W5 (w.heap.size + 1 + 1 + 1) 29 #[.int .i64 2, .int .i64 0, .int .i64 0, .int .i64 0, .slice r1 p1 t1, .slice r2 p2 t2]) := by
    have a1' := (((P4.set 0 (.slice x1 l1 d1)).set 1 (.slice x2 l2 d2)).set 2 (.slice x3 l3 d3)).set 3 (.slice x4 l4 d4)
    have a2' := (((((a1'.setNe (g' := w.heap.size + 1 + 1 + 1) (j := 0) (y := .int .i64 (2)) (by omega)).setNe (g' := w.heap.size + 1 + 1 + 1) (j := 1) (y := .int .i64 (0)) (by omega)).setNe (g' := w.heap.size + 1 + 1 + 1) (j := 2) (y := .int .i64 (0)) (by omega)).setNe (g' := w.heap.size + 1 + 1 + 1) (j := 3) (y := .int .i64 (0)) (by omega)).setNe (g' := w.heap.size + 1 + 1 + 1) (j := 4) (y := .slice r1 p1 t1) (by omega)).setNe (g' := w.heap.size + 1 + 1 + 1) (j := 5) (y := .slice r2 p2 t2) (by omega)
    have c1' := (((Q4.setNe (g' := w.heap.size + 1 + 1) (j := 0) (y := .slice x1 l1 d1) (by omega)).setNe (g' := w.heap.size + 1 + 1) (j := 1) (y := .slice x2 l2 d2) (by omega)).setNe (g' := w.heap.size + 1 + 1) (j := 2) (y := .slice x3 l3 d3) (by omega)).setNe (g' := w.heap.size + 1 + 1) (j := 3) (y := .slice x4 l4 d4) (by omega)
    have c2' := (((((c1'.set 0 (.int .i64 (2))).set 1 (.int .i64 (0))).set 2 (.int .i64 (0))).set 3 (.int .i64 (0))).set 4 (.slice r1 p1 t1)).set 5 (.slice r2 p2 t2)
    rw [hW5]
    exact ⟨a2', c2'⟩
  clear hW5 S9
  go_region
  rw [← HW5.out]
  obtain ⟨u0, u1, u2, u3⟩ := HPQ.out.1.four
  obtain ⟨v0, v1, v2, v3, v4, v5⟩ := HPQ.out.2.six
  clear p0' p1' p2' p3' q0' q1' q2' q3' q4' q5' fp0 fp1 fp2 fp3 fq0 fq1 fq2 fq3 fq4 fq5 n0 n1 n2 n3 t0' t1' t2' t3' t4' t5'
  go_wp2
  refine bodyPost_ret (v := .tuple #[dv x1 x2 x3 x4 l1 l2 l3 l4 d1 d2 d3 d4, rp (2) (0) (0) (0) r1 r2 p1 p2 t1 t2]) (by simp [results, Try.results19, go_sem, u0, u1, u2, u3, v0, v1, v2, v3, v4, v5]) rfl ?_
  obtain ⟨o1, o2, o3, o4⟩ := HF.out
  exact ⟨_, _, _, _, _, _, _, _, _, _, _, _, _, _, _, _, _, _, rfl, o1.drew, o2.below (Below.refl _ _).drew, o3.below (Below.refl _ _).drew, HAp.out, o4.drew⟩

end Go.Proofs.Ytfcbkollmhjdoaa

namespace Go.Proofs.Ytfcbkollmhjdoaa
open Go.RowKit

set_option linter.unusedVariables false

set_option linter.unusedSimpArgs false

set_option maxRecDepth 20000 in
set_option maxHeartbeats 4000000 in
theorem specServe_3 (a1 a2 a3 a4 : Option Addr) (l1 l2 l3 l4 c1 c2 c3 c4 : Nat) (cs is : List Bool) (hs rs : List Int) (wa : Int) (q1 q2 : Option Addr) (m1 m2 k1 k2 : Nat) (ws : List Int) (bs : List Bool) (w : World) (hn : LnD l1 l2 l3 l4 cs is hs rs) (hs0 : SlD w a1 a2 a3 a4 cs is hs rs) (hsm : SmD 2000000 cs is hs rs) (hq : SlI w q1 ws) (hq2 : SlB w q2 bs) (h1 : m1 = ws.length) (h2 : m2 = bs.length) (hl : ws.length ≤ 2000000) (hl2 : bs.length ≤ 2000000) (k N : Nat) (hN : 1 ≤ N) (hpk : k + N ≤ l3) (hcap : l3 ≤ c3) (xs : List Int) (hxs : (hs.drop k).take N = xs) (hok : okR 3 (k : Int) (N : Int) wa ws m1 m2 = true) (hd : okD l1 l2 l3 l4 hs rs = true) (hal : svAll l1 l2 l3 l4 3 (k : Int) (N : Int) wa m1 m2 = true) :
    Calls Try.prog 19 #[dv a1 a2 a3 a4 l1 l2 l3 l4 c1 c2 c3 c4, .agg #[.int .i64 3, .int .i64 (k : Int), .int .i64 (N : Int), .slice q1 m1 k1, .slice q2 m2 k2, .int .i64 wa]] w fun e w' => SR w w' e cs is hs rs 3 0 0 0 xs [] := by
  obtain ⟨z, hz⟩ : ∃ z, z = (((w.alloc (.cells #[.slice a1 l1 c1, .slice a2 l2 c2, .slice a3 l3 c3, .slice a4 l4 c4] 36)).alloc (.cells #[.int .i64 3, .int .i64 (k : Int), .int .i64 (N : Int), .slice q1 m1 k1, .slice q2 m2 k2, .int .i64 wa] 27)).alloc (.cells #[.slice none 0 0, .slice none 0 0, .slice none 0 0, .slice none 0 0] 36)).alloc (.cells #[.int .i64 0, .int .i64 0, .int .i64 0, .int .i64 0, .slice none 0 0, .slice none 0 0] 29) := ⟨_, rfl⟩
  have HZ : Hid (z = _) := hz
  have b0 : Below w.heap.size w z := by rw [hz]; exact bel_next (bel_next (bel_next (bel_alloc w _) (bel_alloc _ _)) (bel_alloc _ _)) (bel_alloc _ _)
  have X0 : Blk z w.heap.size 36 #[.slice a1 l1 c1, .slice a2 l2 c2, .slice a3 l3 c3, .slice a4 l4 c4] := by rw [hz]; exact (((Blk.new w _ _).below (bel_alloc _ _)).below (bel_alloc _ _)).below (bel_alloc _ _)
  have Y0 : Blk z (w.heap.size + 1) 27 #[.int .i64 3, .int .i64 (k : Int), .int .i64 (N : Int), .slice q1 m1 k1, .slice q2 m2 k2, .int .i64 wa] := by rw [hz]; have := ((Blk.new (w.alloc (.cells #[.slice a1 l1 c1, .slice a2 l2 c2, .slice a3 l3 c3, .slice a4 l4 c4] 36)) #[.int .i64 3, .int .i64 (k : Int), .int .i64 (N : Int), .slice q1 m1 k1, .slice q2 m2 k2, .int .i64 wa] 27).below (bel_alloc _ (.cells #[.slice none 0 0, .slice none 0 0, .slice none 0 0, .slice none 0 0] 36))).below (bel_alloc _ (.cells #[.int .i64 0, .int .i64 0, .int .i64 0, .int .i64 0, .slice none 0 0, .slice none 0 0] 29)); simpa using this
  have P0 : Blk z (w.heap.size + 1 + 1) 36 #[.slice none 0 0, .slice none 0 0, .slice none 0 0, .slice none 0 0] := by rw [hz]; have := (Blk.new ((w.alloc (.cells #[.slice a1 l1 c1, .slice a2 l2 c2, .slice a3 l3 c3, .slice a4 l4 c4] 36)).alloc (.cells #[.int .i64 3, .int .i64 (k : Int), .int .i64 (N : Int), .slice q1 m1 k1, .slice q2 m2 k2, .int .i64 wa] 27)) #[.slice none 0 0, .slice none 0 0, .slice none 0 0, .slice none 0 0] 36).below (bel_alloc _ (.cells #[.int .i64 0, .int .i64 0, .int .i64 0, .int .i64 0, .slice none 0 0, .slice none 0 0] 29)); simpa using this
  have Q0 : Blk z (w.heap.size + 1 + 1 + 1) 29 #[.int .i64 0, .int .i64 0, .int .i64 0, .int .i64 0, .slice none 0 0, .slice none 0 0] := by rw [hz]; have := Blk.new (((w.alloc (.cells #[.slice a1 l1 c1, .slice a2 l2 c2, .slice a3 l3 c3, .slice a4 l4 c4] 36)).alloc (.cells #[.int .i64 3, .int .i64 (k : Int), .int .i64 (N : Int), .slice q1 m1 k1, .slice q2 m2 k2, .int .i64 wa] 27)).alloc (.cells #[.slice none 0 0, .slice none 0 0, .slice none 0 0, .slice none 0 0] 36)) #[.int .i64 0, .int .i64 0, .int .i64 0, .int .i64 0, .slice none 0 0, .slice none 0 0] 29; simpa using this
  have HN : Hid (LnD l1 l2 l3 l4 cs is hs rs ∧ SmD 2000000 cs is hs rs ∧ SlD w a1 a2 a3 a4 cs is hs rs ∧ SlI w q1 ws ∧ SlB w q2 bs) := ⟨hn, hsm, hs0, hq, hq2⟩
  have HQ : Hid (m1 = ws.length ∧ m2 = bs.length ∧ ws.length ≤ 2000000 ∧ bs.length ≤ 2000000) := ⟨h1, h2, hl, hl2⟩
  have HB0 : Hid (Below w.heap.size w z) := b0
  have HZS : Hid (z.heap.size = w.heap.size + 1 + 1 + 1 + 1) := by show _ = _; rw [hz]; simp
  obtain ⟨x0', x1', x2', x3'⟩ := X0.four
  clear hz hn hs0 hsm hq hq2 h1 h2 hl hl2
  go_enter Try.func19, Try.ntmps19
  go_upto_region 1 with fail
  rw [← HZ.out]
  go_wp2_with fail
  refine (l5Copy_any a1 a2 a3 a4 l1 l2 l3 l4 c1 c2 c3 c4 cs is hs rs _ HN.out.1 (HN.out.2.2.1.below b0) HN.out.2.1).mono ?_
  rintro e w1 ⟨x1, x2, x3, x4, d1, d2, d3, d4, rfl, o1, b'⟩
  have b1 := bel_next b0 b'
  have bz1 := b'
  have X1 := X0.below b'
  have Y1 := Y0.below b'
  have P1 := P0.below b'
  have Q1 := Q0.below b'
  have HG6 : Hid (z.heap.size ≤ w1.heap.size) := b'.size
  clear x0' x1' x2' x3' X0 Y0 P0 Q0 b0 b'
  have b' := bel_alloc w1 (.cells #[.slice x1 l1 d1, .slice x2 l2 d2, .slice x3 l3 d3, .slice x4 l4 d4] 36)
  have N' := Blk.new w1 #[.slice x1 l1 d1, .slice x2 l2 d2, .slice x3 l3 d3, .slice x4 l4 d4] 36
  obtain ⟨w2, hw2⟩ : ∃ x, x = w1.alloc (.cells #[.slice x1 l1 d1, .slice x2 l2 d2, .slice x3 l3 d3, .slice x4 l4 d4] 36) := ⟨_, rfl⟩
  rw [← hw2] at b' N'
  have HW2 : Hid (w2 = _) := hw2
  obtain ⟨G6, hBN⟩ : ∃ x, x = w1.heap.size := ⟨_, rfl⟩
  rw [← hBN] at N'
  have HBN : Hid (G6 = w1.heap.size) := hBN
  have S2 : ∀ G7 tc, G6 < G7 → Blk w2 G7 29 tc → True := fun _ _ _ _ => trivial
  have b2 := bel_next b1 b'
  have bz2 := bel_next bz1 b'
  have X2 := X1.below b'
  have Y2 := Y1.below b'
  have P2 := P1.below b'
  have Q2 := Q1.below b'
  have o2 := o1.below b'
  clear hw2 hBN b1 bz1 X1 Y1 P1 Q1 o1 b' S2
  obtain ⟨x0', x1', x2', x3'⟩ := X2.four
  go_upto_region 2 with fail
  rw [← HW2.out]
  simp only [← HBN.out]

  have HD : Hid (okD l1 l2 l3 l4 hs rs = true) := hd
  have HOK : Hid (okR 3 (k : Int) (N : Int) wa ws m1 m2 = true) := hok
  have HAL : Hid (svAll l1 l2 l3 l4 3 (k : Int) (N : Int) wa m1 m2 = true) := hal
  have HLM : Hid (l1 ≤ 2000000 ∧ l2 ≤ 2000000 ∧ l3 ≤ 2000000 ∧ l4 ≤ 2000000) := by have := okD_len hd; show _ ∧ _ ∧ _ ∧ _; omega
  clear hd hok hal
  go_wp2_with fail
  refine (specDeviceOk_any a1 a2 a3 a4 l1 l2 l3 l4 c1 c2 c3 c4 cs is hs rs _ HN.out.1 (HN.out.2.2.1.below b2) HN.out.2.1 true HD.out).mono ?_
  rintro e w3 ⟨rfl, b'⟩
  have b3 := bel_next b2 b'
  have bz3 := bel_next bz2 b'
  have X3 := X2.below b'
  have Y3 := Y2.below b'
  have P3 := P2.below b'
  have Q3 := Q2.below b'
  have N3 := N'.below b'
  have o3 := o2.below b'
  clear x0' x1' x2' x3' X2 Y2 P2 Q2 N' o2 b2 bz2 b'
  obtain ⟨x0', x1', x2', x3'⟩ := X3.four
  obtain ⟨y0', y1', y2', y3', y4', y5'⟩ := Y3.six

  go_wp2_with fail
  refine (specReqOk_q 3 (k : Int) (N : Int) wa q1 q2 m1 m2 k1 k2 ws bs _ HQ.out.1 HQ.out.2.1 (HN.out.2.2.2.1.below b3) (HN.out.2.2.2.2.below b3) HQ.out.2.2.1 HQ.out.2.2.2).mono ?_
  rintro e w4 ⟨he, b'⟩
  rw [HOK.out] at he
  subst he
  have b4 := bel_next b3 b'
  have bz4 := bel_next bz3 b'
  have X4 := X3.below b'
  have Y4 := Y3.below b'
  have P4 := P3.below b'
  have Q4 := Q3.below b'
  have N4 := N3.below b'
  have o4 := o3.below b'
  clear x0' x1' x2' x3' y0' y1' y2' y3' y4' y5' X3 Y3 P3 Q3 N3 o3 b3 bz3 b'
  obtain ⟨x0', x1', x2', x3'⟩ := X4.four
  obtain ⟨y0', y1', y2', y3', y4', y5'⟩ := Y4.six

  go_wp2_with fail
  refine (l5There_any a1 a2 a3 a4 l1 l2 l3 l4 c1 c2 c3 c4 3 (k : Int) (N : Int) wa q1 q2 m1 m2 k1 k2 ws bs _ HQ.out.1 HQ.out.2.1 (HN.out.2.2.2.1.below b4) (HN.out.2.2.2.2.below b4) HQ.out.2.2.1 HQ.out.2.2.2 HOK.out HLM.out.1 HLM.out.2.1 HLM.out.2.2.1 HLM.out.2.2.2 true HAL.out).mono ?_
  rintro e w5 ⟨rfl, b'⟩
  have b5 := bel_next b4 b'
  have bz5 := bel_next bz4 b'
  have X5 := X4.below b'
  have Y5 := Y4.below b'
  have P5 := P4.below b'
  have Q5 := Q4.below b'
  have N5 := N4.below b'
  have o5 := o4.below b'
  clear x0' x1' x2' x3' y0' y1' y2' y3' y4' y5' X4 Y4 P4 Q4 N4 o4 b4 bz4 b'
  obtain ⟨y0', y1', y2', y3', y4', y5'⟩ := Y5.six

  have b' := bel_alloc w5 (.cells #[.int .i64 3, .int .i64 0, .int .i64 0, .int .i64 0, .slice none 0 0, .slice none 0 0] 29)
  have T' := Blk.new w5 #[.int .i64 3, .int .i64 0, .int .i64 0, .int .i64 0, .slice none 0 0, .slice none 0 0] 29
  obtain ⟨w6, hw6⟩ : ∃ x, x = w5.alloc (.cells #[.int .i64 3, .int .i64 0, .int .i64 0, .int .i64 0, .slice none 0 0, .slice none 0 0] 29) := ⟨_, rfl⟩
  rw [← hw6] at b' T'
  have HW6 : Hid (w6 = _) := hw6
  obtain ⟨G7, hG7⟩ : ∃ x, x = w5.heap.size := ⟨_, rfl⟩
  rw [← hG7] at T'
  have HG7 : Hid (G7 = w5.heap.size) := hG7
  have S6 : SS w #[.slice a1 l1 c1, .slice a2 l2 c2, .slice a3 l3 c3, .slice a4 l4 c4] #[.int .i64 3, .int .i64 (k : Int), .int .i64 (N : Int), .slice q1 m1 k1, .slice q2 m2 k2, .int .i64 wa] z G6 G7 x1 x2 x3 x4 l1 l2 l3 l4 d1 d2 d3 d4 is rs cs hs #[.int .i64 3, .int .i64 0, .int .i64 0, .int .i64 0, .slice none 0 0, .slice none 0 0] w6 := ⟨X5.below b', Y5.below b', P5.below b', Q5.below b', N5.below b', T', o5.below b', bel_next b5 b', bel_next bz5 b', HZS.out, by have := HG6.out; have := HBN.out; omega, by rw [hG7]; exact N5.lt⟩
  clear X5 Y5 P5 Q5 N5 o5 b5 bz5 b' T' hw6 hG7
  go_upto_region 7 with fail
  clear y0' y1' y2' y3' y4' y5'
  rw [← HW6.out]
  simp only [← HG7.out]
  clear HW6 HG7 HW2 HBN HZ

  have HK : Hid (l3 = hs.length ∧ l3 ≤ c3 ∧ k + N ≤ l3 ∧ 1 ≤ N) := ⟨HN.out.1.2.2.1, hcap, hpk, hN⟩
  clear hcap hpk hN
  obtain ⟨bA', oA', eA', hbA', _⟩ := cell_atI HN.out.2.2.1.2.2.1 (k := 0) (by have := HK.out; omega)
  have HXS : Hid (SlI w (some ⟨bA', oA' + k, none⟩) ((hs.drop k).take N) ∧ N = ((hs.drop k).take N).length) := by
    refine ⟨slI_subG (by rw [← eA']; exact HN.out.2.2.1.2.2.1) (by have := HK.out; omega), ?_⟩
    have := HK.out; simp; omega
  have HXL : Hid (((hs.drop k).take N).length ≤ 2000000) := hide (by have := HXS.out.2; have := HK.out; have := HLM.out; omega)
  subst eA'

  rw [hxs] at HXS HXL
  clear hxs
  obtain ⟨x0', x1', x2', x3'⟩ := S6.X.four
  obtain ⟨y0', y1', y2', y3', y4', y5'⟩ := S6.Y.six
  obtain ⟨n0', n1', n2', n3'⟩ := S6.N.four
  obtain ⟨t0', t1', t2', t3', t4', t5'⟩ := S6.T.six
  have ft0 := S6.T.fro 0
  have ft1 := S6.T.fro 1
  have ft2 := S6.T.fro 2
  have ft3 := S6.T.fro 3
  have ft4 := S6.T.fro 4
  have ft5 := S6.T.fro 5

  go_upto_region 13 with fail
  clear x0' x1' x2' x3' y0' y1' y2' y3' y4' y5' n0' n1' n2' n3' t0' t1' t2' t3' t4' t5' ft0 ft1 ft2 ft3 ft4 ft5

  have i0 : (k : Int) ≤ (k : Int) + (N : Int) := by have := HK.out; omega
  have i1 : (k : Int) + (N : Int) ≤ (l3 : Int) := by have := HK.out; omega
  have i2 : (k : Int) + (N : Int) ≤ (c3 : Int) := by have := HK.out; omega
  have i3 : (0 : Int) ≤ (k : Int) := by omega
  have i4 : (0 : Int) ≤ (k : Int) + (N : Int) := by omega
  have i5 : IntKind.i64.wrap ((k : Int) + (N : Int)) = (k : Int) + (N : Int) := by have := HK.out; have := HLM.out; rw [IntKind.wrap_i64]; omega
  have i6 : (k : Int) ≤ (c3 : Int) := by have := HK.out; omega
  have i7 : ¬ c3 = k := by have := HK.out; omega
  have i8 : ((k : Int) + (N : Int)).toNat - k = N := by omega

  have oL : OwnI (w6.alloc (.cells #[] 3)) w6.heap.size (.slice (some ⟨w6.heap.size, 0, none⟩) 0 0) [] := ⟨rfl, .inr ⟨w6.heap.size, 0, #[], rfl, Nat.le_refl _, Blk.new w6 #[] 3, by simp, by simp, rfl, rfl⟩⟩
  have SL := S6.below (bel_alloc w6 (.cells #[] 3))

  obtain ⟨x0', x1', x2', x3'⟩ := SL.X.four
  obtain ⟨y0', y1', y2', y3', y4', y5'⟩ := SL.Y.six
  obtain ⟨n0', n1', n2', n3'⟩ := SL.N.four
  obtain ⟨t0', t1', t2', t3', t4', t5'⟩ := SL.T.six
  have ft0 := SL.T.fro 0
  have ft1 := SL.T.fro 1
  have ft2 := SL.T.fro 2
  have ft3 := SL.T.fro 3
  have ft4 := SL.T.fro 4
  have ft5 := SL.T.fro 5

  go_upto_region 41 with (at_builtin; obtain ⟨vA, uA, hr, oA, bA, _, r1, t1, hv⟩ := app0I (w6.alloc (.cells #[] 3)) w6.heap.size w6.heap.size (some ⟨bA', oA' + k, none⟩) N (c3 - k) xs HXS.out.2 (HXS.out.1.below (bel_next S6.bel (bel_alloc _ _))) HXL.out (Nat.le_refl _) oL; refine Lib.wpList_append_run _ rfl (.tmp 56) (.tmp 66) _ _ rfl _ _ rfl rfl _ _ hr ?_; subst hv; have SA := SL.below bA; have HAp : Hid (∀ g, (Of4 (.slice x1 l1 d1) (.slice x2 l2 d2) (.slice x3 l3 d3) (.slice x4 l4 d4)) g → ¬ Of2 (.slice r1 N t1) (.slice none 0 0) g) := S6.apart oA (ownB_nil0 _ _); have HOA : Hid (OwnI (uA.setCell ⟨G7, 4, none⟩ (.slice r1 N t1)) w.heap.size (.slice r1 N t1) xs) := row_setE (oA.mono S6.bel.size) ⟨_, SA.T⟩ (by decide); have SB := SA.setT 4 (.slice r1 N t1); obtain ⟨s0', s1', s2', s3', s4', s5'⟩ := SA.T.six; have fs := SA.T.fro 4; clear hr oA bA oL)

  obtain ⟨w8, hw8⟩ : ∃ x, x = uA.setCell ⟨G7, 4, none⟩ (.slice r1 N t1) := ⟨_, rfl⟩
  rw [← hw8] at SB HOA ⊢
  have S9 : SS w #[.slice a1 l1 c1, .slice a2 l2 c2, .slice (some ⟨bA', oA', none⟩) l3 c3, .slice a4 l4 c4] #[.int .i64 3, .int .i64 (k : Int), .int .i64 (N : Int), .slice q1 m1 k1, .slice q2 m2 k2, .int .i64 wa] z G6 G7 x1 x2 x3 x4 l1 l2 l3 l4 d1 d2 d3 d4 is rs cs hs #[.int .i64 3, .int .i64 0, .int .i64 0, .int .i64 0, .slice r1 N t1, .slice none 0 0] w8 := SB
  clear hw8 SB SA SL S6 s0' s1' s2' s3' s4' s5' fs
  clear x0' x1' x2' x3' y0' y1' y2' y3' y4' y5' n0' n1' n2' n3' t0' t1' t2' t3' t4' t5' ft0 ft1 ft2 ft3 ft4 ft5

  have OI := HOA
  obtain ⟨r2, p2, t2, hr2⟩ : ∃ (r2 : Option Addr) (p2 t2 : Nat), Value.slice r2 p2 t2 = .slice none 0 0 := ⟨none, 0, 0, rfl⟩
  rw [← hr2] at S9 HAp
  have OB : Hid (OwnB w8 w.heap.size (.slice r2 p2 t2) []) := by rw [hr2]; exact ownB_nil0 _ _
  clear hr2
  obtain ⟨p1, hp1⟩ : ∃ p1, p1 = N := ⟨_, rfl⟩
  have S10 : SS w #[.slice a1 l1 c1, .slice a2 l2 c2, .slice (some ⟨bA', oA', none⟩) l3 c3, .slice a4 l4 c4] #[.int .i64 3, .int .i64 (k : Int), .int .i64 (N : Int), .slice q1 m1 k1, .slice q2 m2 k2, .int .i64 wa] z G6 G7 x1 x2 x3 x4 l1 l2 l3 l4 d1 d2 d3 d4 is rs cs hs #[.int .i64 3, .int .i64 0, .int .i64 0, .int .i64 0, .slice r1 p1 t1, .slice r2 p2 t2] w8 := by rw [hp1]; exact S9
  rw [← hp1] at HAp OI
  clear S9 i0 i1 i2 i3 i4 i5 i6 i7 i8 HXS HXL HK HOA hp1
  have N4 := S10.N
  have T' := S10.T
  have P4 := S10.P
  have Q4 := S10.Q
  have HH : Hid (OwnD w8 w.heap.size x1 x2 x3 x4 l1 l2 l3 l4 d1 d2 d3 d4 cs is hs rs ∧ OwnI w8 w.heap.size (.slice r1 p1 t1) xs ∧ OwnB w8 w.heap.size (.slice r2 p2 t2) [] ∧ Below w.heap.size w w8 ∧ ExB w8 (w.heap.size + 1 + 1) 36 ∧ ExB w8 (w.heap.size + 1 + 1 + 1) 29) := ⟨S10.D.mono (by have := S10.zb0; omega), OI.out, OB.out, S10.bel, ⟨_, P4⟩, ⟨_, Q4⟩⟩
  have lN : w.heap.size + 1 + 1 + 1 + 1 ≤ G6 := by have := S10.zb0; have := S10.g6; omega
  have lT : w.heap.size + 1 + 1 + 1 + 1 ≤ G7 := by have := S10.g7; omega
  obtain ⟨n0, n1, n2, n3⟩ := N4.four
  obtain ⟨t0', t1', t2', t3', t4', t5'⟩ := T'.six
  obtain ⟨p0', p1', p2', p3'⟩ := P4.four
  obtain ⟨q0', q1', q2', q3', q4', q5'⟩ := Q4.six
  have fp0 := P4.fro 0
  have fp1 := P4.fro 1
  have fp2 := P4.fro 2
  have fp3 := P4.fro 3
  have fq0 := Q4.fro 0
  have fq1 := Q4.fro 1
  have fq2 := Q4.fro 2
  have fq3 := Q4.fro 3
  have fq4 := Q4.fro 4
  have fq5 := Q4.fro 5
  have e1 : ¬ (G6 = w.heap.size + 1 + 1) := by omega
  have e2 : ¬ (G6 = w.heap.size + 1 + 1 + 1) := by omega
  have e3 : ¬ (G7 = w.heap.size + 1 + 1) := by omega
  have e4 : ¬ (G7 = w.heap.size + 1 + 1 + 1) := by omega
  have e1' : ¬ (w.heap.size + 1 + 1 = G6) := by omega
  have e2' : ¬ (w.heap.size + 1 + 1 + 1 = G6) := by omega
  have e3' : ¬ (w.heap.size + 1 + 1 = G7) := by omega
  have e4' : ¬ (w.heap.size + 1 + 1 + 1 = G7) := by omega
  clear lN lT
  obtain ⟨W5, hW5⟩ : ∃ x, x = ((((((((((w8.setCell ⟨w.heap.size + 1 + 1, 0, none⟩ (.slice x1 l1 d1)).setCell ⟨w.heap.size + 1 + 1, 1, none⟩ (.slice x2 l2 d2)).setCell ⟨w.heap.size + 1 + 1, 2, none⟩ (.slice x3 l3 d3)).setCell ⟨w.heap.size + 1 + 1, 3, none⟩ (.slice x4 l4 d4)).setCell ⟨w.heap.size + 1 + 1 + 1, 0, none⟩ (.int .i64 (3))).setCell ⟨w.heap.size + 1 + 1 + 1, 1, none⟩ (.int .i64 (0))).setCell ⟨w.heap.size + 1 + 1 + 1, 2, none⟩ (.int .i64 (0))).setCell ⟨w.heap.size + 1 + 1 + 1, 3, none⟩ (.int .i64 (0))).setCell ⟨w.heap.size + 1 + 1 + 1, 4, none⟩ (.slice r1 p1 t1)).setCell ⟨w.heap.size + 1 + 1 + 1, 5, none⟩ (.slice r2 p2 t2)) := ⟨_, rfl⟩
  have HW5 : Hid (W5 = _) := hW5
  have HF : Hid (OwnD W5 w.heap.size x1 x2 x3 x4 l1 l2 l3 l4 d1 d2 d3 d4 cs is hs rs ∧ OwnI W5 w.heap.size (.slice r1 p1 t1) xs ∧ OwnB W5 w.heap.size (.slice r2 p2 t2) [] ∧ Below w.heap.size w W5) := by
    obtain ⟨o1, o2, o3, o4, o5, o6⟩ := HH.out
    have x6 : ∀ v0 v1 v2 v3 : Value, ExB ((((w8.setCell ⟨w.heap.size + 1 + 1, 0, none⟩ v0).setCell ⟨w.heap.size + 1 + 1, 1, none⟩ v1).setCell ⟨w.heap.size + 1 + 1, 2, none⟩ v2).setCell ⟨w.heap.size + 1 + 1, 3, none⟩ v3) (w.heap.size + 1 + 1 + 1) 29 := fun _ _ _ _ => ExB.set (ExB.set (ExB.set (ExB.set o6)))
    rw [hW5]
    exact ⟨(o1.set4 o5 (by decide) (by decide)).set6 (x6 _ _ _ _) (by decide) (by decide), rowp_set6 (row_set4 o2 o5 (by decide)) (x6 _ _ _ _) (by decide), rowp_set6 (row_set4 o3 o5 (by decide)) (x6 _ _ _ _) (by decide), belp_set6 (bel_set4 o4 (by omega)) (by omega)⟩
  have HPQ : Hid (Blk W5 (w.heap.size + 1 + 1) 36 #[.slice x1 l1 d1, .slice x2 l2 d2, .slice x3 l3 d3, .slice x4 l4 d4] ∧ Blk W5 (w.heap.size + 1 + 1 + 1) 29 #[.int .i64 3, .int .i64 0, .int .i64 0, .int .i64 0, .slice r1 p1 t1, .slice r2 p2 t2]) := by
    have a1' := (((P4.set 0 (.slice x1 l1 d1)).set 1 (.slice x2 l2 d2)).set 2 (.slice x3 l3 d3)).set 3 (.slice x4 l4 d4)
    have a2' := (((((a1'.setNe (g' := w.heap.size + 1 + 1 + 1) (j := 0) (y := .int .i64 (3)) (by omega)).setNe (g' := w.heap.size + 1 + 1 + 1) (j := 1) (y := .int .i64 (0)) (by omega)).setNe (g' := w.heap.size + 1 + 1 + 1) (j := 2) (y := .int .i64 (0)) (by omega)).setNe (g' := w.heap.size + 1 + 1 + 1) (j := 3) (y := .int .i64 (0)) (by omega)).setNe (g' := w.heap.size + 1 + 1 + 1) (j := 4) (y := .slice r1 p1 t1) (by omega)).setNe (g' := w.heap.size + 1 + 1 + 1) (j := 5) (y := .slice r2 p2 t2) (by omega)
    have c1' := (((Q4.setNe (g' := w.heap.size + 1 + 1) (j := 0) (y := .slice x1 l1 d1) (by omega)).setNe (g' := w.heap.size + 1 + 1) (j := 1) (y := .slice x2 l2 d2) (by omega)).setNe (g' := w.heap.size + 1 + 1) (j := 2) (y := .slice x3 l3 d3) (by omega)).setNe (g' := w.heap.size + 1 + 1) (j := 3) (y := .slice x4 l4 d4) (by omega)
    have c2' := (((((c1'.set 0 (.int .i64 (3))).set 1 (.int .i64 (0))).set 2 (.int .i64 (0))).set 3 (.int .i64 (0))).set 4 (.slice r1 p1 t1)).set 5 (.slice r2 p2 t2)
    rw [hW5]
    exact ⟨a2', c2'⟩
  clear hW5 S10
  go_region
  rw [← HW5.out]
  obtain ⟨u0, u1, u2, u3⟩ := HPQ.out.1.four
  obtain ⟨v0, v1, v2, v3, v4, v5⟩ := HPQ.out.2.six
  clear p0' p1' p2' p3' q0' q1' q2' q3' q4' q5' fp0 fp1 fp2 fp3 fq0 fq1 fq2 fq3 fq4 fq5 n0 n1 n2 n3 t0' t1' t2' t3' t4' t5'
  go_wp2
  refine bodyPost_ret (v := .tuple #[dv x1 x2 x3 x4 l1 l2 l3 l4 d1 d2 d3 d4, rp (3) (0) (0) (0) r1 r2 p1 p2 t1 t2]) (by simp [results, Try.results19, go_sem, u0, u1, u2, u3, v0, v1, v2, v3, v4, v5]) rfl ?_
  obtain ⟨o1, o2, o3, o4⟩ := HF.out
  exact ⟨_, _, _, _, _, _, _, _, _, _, _, _, _, _, _, _, _, _, rfl, o1.drew, o2.below (Below.refl _ _).drew, o3.below (Below.refl _ _).drew, HAp.out, o4.drew⟩

set_option maxRecDepth 20000 in
set_option maxHeartbeats 4000000 in
theorem specServe_4 (a1 a2 a3 a4 : Option Addr) (l1 l2 l3 l4 c1 c2 c3 c4 : Nat) (cs is : List Bool) (hs rs : List Int) (wa : Int) (q1 q2 : Option Addr) (m1 m2 k1 k2 : Nat) (ws : List Int) (bs : List Bool) (w : World) (hn : LnD l1 l2 l3 l4 cs is hs rs) (hs0 : SlD w a1 a2 a3 a4 cs is hs rs) (hsm : SmD 2000000 cs is hs rs) (hq : SlI w q1 ws) (hq2 : SlB w q2 bs) (h1 : m1 = ws.length) (h2 : m2 = bs.length) (hl : ws.length ≤ 2000000) (hl2 : bs.length ≤ 2000000) (k N : Nat) (hN : 1 ≤ N) (hpk : k + N ≤ l4) (hcap : l4 ≤ c4) (xs : List Int) (hxs : (rs.drop k).take N = xs) (hok : okR 4 (k : Int) (N : Int) wa ws m1 m2 = true) (hd : okD l1 l2 l3 l4 hs rs = true) (hal : svAll l1 l2 l3 l4 4 (k : Int) (N : Int) wa m1 m2 = true) :
    Calls Try.prog 19 #[dv a1 a2 a3 a4 l1 l2 l3 l4 c1 c2 c3 c4, .agg #[.int .i64 4, .int .i64 (k : Int), .int .i64 (N : Int), .slice q1 m1 k1, .slice q2 m2 k2, .int .i64 wa]] w fun e w' => SR w w' e cs is hs rs 4 0 0 0 xs [] := by
  obtain ⟨z, hz⟩ : ∃ z, z = (((w.alloc (.cells #[.slice a1 l1 c1, .slice a2 l2 c2, .slice a3 l3 c3, .slice a4 l4 c4] 36)).alloc (.cells #[.int .i64 4, .int .i64 (k : Int), .int .i64 (N : Int), .slice q1 m1 k1, .slice q2 m2 k2, .int .i64 wa] 27)).alloc (.cells #[.slice none 0 0, .slice none 0 0, .slice none 0 0, .slice none 0 0] 36)).alloc (.cells #[.int .i64 0, .int .i64 0, .int .i64 0, .int .i64 0, .slice none 0 0, .slice none 0 0] 29) := ⟨_, rfl⟩
  have HZ : Hid (z = _) := hz
  have b0 : Below w.heap.size w z := by rw [hz]; exact bel_next (bel_next (bel_next (bel_alloc w _) (bel_alloc _ _)) (bel_alloc _ _)) (bel_alloc _ _)
  have X0 : Blk z w.heap.size 36 #[.slice a1 l1 c1, .slice a2 l2 c2, .slice a3 l3 c3, .slice a4 l4 c4] := by rw [hz]; exact (((Blk.new w _ _).below (bel_alloc _ _)).below (bel_alloc _ _)).below (bel_alloc _ _)
  have Y0 : Blk z (w.heap.size + 1) 27 #[.int .i64 4, .int .i64 (k : Int), .int .i64 (N : Int), .slice q1 m1 k1, .slice q2 m2 k2, .int .i64 wa] := by rw [hz]; have := ((Blk.new (w.alloc (.cells #[.slice a1 l1 c1, .slice a2 l2 c2, .slice a3 l3 c3, .slice a4 l4 c4] 36)) #[.int .i64 4, .int .i64 (k : Int), .int .i64 (N : Int), .slice q1 m1 k1, .slice q2 m2 k2, .int .i64 wa] 27).below (bel_alloc _ (.cells #[.slice none 0 0, .slice none 0 0, .slice none 0 0, .slice none 0 0] 36))).below (bel_alloc _ (.cells #[.int .i64 0, .int .i64 0, .int .i64 0, .int .i64 0, .slice none 0 0, .slice none 0 0] 29)); simpa using this
  have P0 : Blk z (w.heap.size + 1 + 1) 36 #[.slice none 0 0, .slice none 0 0, .slice none 0 0, .slice none 0 0] := by rw [hz]; have := (Blk.new ((w.alloc (.cells #[.slice a1 l1 c1, .slice a2 l2 c2, .slice a3 l3 c3, .slice a4 l4 c4] 36)).alloc (.cells #[.int .i64 4, .int .i64 (k : Int), .int .i64 (N : Int), .slice q1 m1 k1, .slice q2 m2 k2, .int .i64 wa] 27)) #[.slice none 0 0, .slice none 0 0, .slice none 0 0, .slice none 0 0] 36).below (bel_alloc _ (.cells #[.int .i64 0, .int .i64 0, .int .i64 0, .int .i64 0, .slice none 0 0, .slice none 0 0] 29)); simpa using this
  have Q0 : Blk z (w.heap.size + 1 + 1 + 1) 29 #[.int .i64 0, .int .i64 0, .int .i64 0, .int .i64 0, .slice none 0 0, .slice none 0 0] := by rw [hz]; have := Blk.new (((w.alloc (.cells #[.slice a1 l1 c1, .slice a2 l2 c2, .slice a3 l3 c3, .slice a4 l4 c4] 36)).alloc (.cells #[.int .i64 4, .int .i64 (k : Int), .int .i64 (N : Int), .slice q1 m1 k1, .slice q2 m2 k2, .int .i64 wa] 27)).alloc (.cells #[.slice none 0 0, .slice none 0 0, .slice none 0 0, .slice none 0 0] 36)) #[.int .i64 0, .int .i64 0, .int .i64 0, .int .i64 0, .slice none 0 0, .slice none 0 0] 29; simpa using this
  have HN : Hid (LnD l1 l2 l3 l4 cs is hs rs ∧ SmD 2000000 cs is hs rs ∧ SlD w a1 a2 a3 a4 cs is hs rs ∧ SlI w q1 ws ∧ SlB w q2 bs) := ⟨hn, hsm, hs0, hq, hq2⟩
  have HQ : Hid (m1 = ws.length ∧ m2 = bs.length ∧ ws.length ≤ 2000000 ∧ bs.length ≤ 2000000) := ⟨h1, h2, hl, hl2⟩
  have HB0 : Hid (Below w.heap.size w z) := b0
  have HZS : Hid (z.heap.size = w.heap.size + 1 + 1 + 1 + 1) := by show _ = _; rw [hz]; simp
  obtain ⟨x0', x1', x2', x3'⟩ := X0.four
  clear hz hn hs0 hsm hq hq2 h1 h2 hl hl2
  go_enter Try.func19, Try.ntmps19
  go_upto_region 1 with fail
  rw [← HZ.out]
  go_wp2_with fail
  refine (l5Copy_any a1 a2 a3 a4 l1 l2 l3 l4 c1 c2 c3 c4 cs is hs rs _ HN.out.1 (HN.out.2.2.1.below b0) HN.out.2.1).mono ?_
  rintro e w1 ⟨x1, x2, x3, x4, d1, d2, d3, d4, rfl, o1, b'⟩
  have b1 := bel_next b0 b'
  have bz1 := b'
  have X1 := X0.below b'
  have Y1 := Y0.below b'
  have P1 := P0.below b'
  have Q1 := Q0.below b'
  have HG6 : Hid (z.heap.size ≤ w1.heap.size) := b'.size
  clear x0' x1' x2' x3' X0 Y0 P0 Q0 b0 b'
  have b' := bel_alloc w1 (.cells #[.slice x1 l1 d1, .slice x2 l2 d2, .slice x3 l3 d3, .slice x4 l4 d4] 36)
  have N' := Blk.new w1 #[.slice x1 l1 d1, .slice x2 l2 d2, .slice x3 l3 d3, .slice x4 l4 d4] 36
  obtain ⟨w2, hw2⟩ : ∃ x, x = w1.alloc (.cells #[.slice x1 l1 d1, .slice x2 l2 d2, .slice x3 l3 d3, .slice x4 l4 d4] 36) := ⟨_, rfl⟩
  rw [← hw2] at b' N'
  have HW2 : Hid (w2 = _) := hw2
  obtain ⟨G6, hBN⟩ : ∃ x, x = w1.heap.size := ⟨_, rfl⟩
  rw [← hBN] at N'
  have HBN : Hid (G6 = w1.heap.size) := hBN
  have S2 : ∀ G7 tc, G6 < G7 → Blk w2 G7 29 tc → True := fun _ _ _ _ => trivial
  have b2 := bel_next b1 b'
  have bz2 := bel_next bz1 b'
  have X2 := X1.below b'
  have Y2 := Y1.below b'
  have P2 := P1.below b'
  have Q2 := Q1.below b'
  have o2 := o1.below b'
  clear hw2 hBN b1 bz1 X1 Y1 P1 Q1 o1 b' S2
  obtain ⟨x0', x1', x2', x3'⟩ := X2.four
  go_upto_region 2 with fail
  rw [← HW2.out]
  simp only [← HBN.out]

  have HD : Hid (okD l1 l2 l3 l4 hs rs = true) := hd
  have HOK : Hid (okR 4 (k : Int) (N : Int) wa ws m1 m2 = true) := hok
  have HAL : Hid (svAll l1 l2 l3 l4 4 (k : Int) (N : Int) wa m1 m2 = true) := hal
  have HLM : Hid (l1 ≤ 2000000 ∧ l2 ≤ 2000000 ∧ l3 ≤ 2000000 ∧ l4 ≤ 2000000) := by have := okD_len hd; show _ ∧ _ ∧ _ ∧ _; omega
  clear hd hok hal
  go_wp2_with fail
  refine (specDeviceOk_any a1 a2 a3 a4 l1 l2 l3 l4 c1 c2 c3 c4 cs is hs rs _ HN.out.1 (HN.out.2.2.1.below b2) HN.out.2.1 true HD.out).mono ?_
  rintro e w3 ⟨rfl, b'⟩
  have b3 := bel_next b2 b'
  have bz3 := bel_next bz2 b'
  have X3 := X2.below b'
  have Y3 := Y2.below b'
  have P3 := P2.below b'
  have Q3 := Q2.below b'
  have N3 := N'.below b'
  have o3 := o2.below b'
  clear x0' x1' x2' x3' X2 Y2 P2 Q2 N' o2 b2 bz2 b'
  obtain ⟨x0', x1', x2', x3'⟩ := X3.four
  obtain ⟨y0', y1', y2', y3', y4', y5'⟩ := Y3.six

  go_wp2_with fail
  refine (specReqOk_q 4 (k : Int) (N : Int) wa q1 q2 m1 m2 k1 k2 ws bs _ HQ.out.1 HQ.out.2.1 (HN.out.2.2.2.1.below b3) (HN.out.2.2.2.2.below b3) HQ.out.2.2.1 HQ.out.2.2.2).mono ?_
  rintro e w4 ⟨he, b'⟩
  rw [HOK.out] at he
  subst he
  have b4 := bel_next b3 b'
  have bz4 := bel_next bz3 b'
  have X4 := X3.below b'
  have Y4 := Y3.below b'
  have P4 := P3.below b'
  have Q4 := Q3.below b'
  have N4 := N3.below b'
  have o4 := o3.below b'
  clear x0' x1' x2' x3' y0' y1' y2' y3' y4' y5' X3 Y3 P3 Q3 N3 o3 b3 bz3 b'
  obtain ⟨x0', x1', x2', x3'⟩ := X4.four
  obtain ⟨y0', y1', y2', y3', y4', y5'⟩ := Y4.six

  go_wp2_with fail
  refine (l5There_any a1 a2 a3 a4 l1 l2 l3 l4 c1 c2 c3 c4 4 (k : Int) (N : Int) wa q1 q2 m1 m2 k1 k2 ws bs _ HQ.out.1 HQ.out.2.1 (HN.out.2.2.2.1.below b4) (HN.out.2.2.2.2.below b4) HQ.out.2.2.1 HQ.out.2.2.2 HOK.out HLM.out.1 HLM.out.2.1 HLM.out.2.2.1 HLM.out.2.2.2 true HAL.out).mono ?_
  rintro e w5 ⟨rfl, b'⟩
  have b5 := bel_next b4 b'
  have bz5 := bel_next bz4 b'
  have X5 := X4.below b'
  have Y5 := Y4.below b'
  have P5 := P4.below b'
  have Q5 := Q4.below b'
  have N5 := N4.below b'
  have o5 := o4.below b'
  clear x0' x1' x2' x3' y0' y1' y2' y3' y4' y5' X4 Y4 P4 Q4 N4 o4 b4 bz4 b'
  obtain ⟨y0', y1', y2', y3', y4', y5'⟩ := Y5.six

  have b' := bel_alloc w5 (.cells #[.int .i64 4, .int .i64 0, .int .i64 0, .int .i64 0, .slice none 0 0, .slice none 0 0] 29)
  have T' := Blk.new w5 #[.int .i64 4, .int .i64 0, .int .i64 0, .int .i64 0, .slice none 0 0, .slice none 0 0] 29
  obtain ⟨w6, hw6⟩ : ∃ x, x = w5.alloc (.cells #[.int .i64 4, .int .i64 0, .int .i64 0, .int .i64 0, .slice none 0 0, .slice none 0 0] 29) := ⟨_, rfl⟩
  rw [← hw6] at b' T'
  have HW6 : Hid (w6 = _) := hw6
  obtain ⟨G7, hG7⟩ : ∃ x, x = w5.heap.size := ⟨_, rfl⟩
  rw [← hG7] at T'
  have HG7 : Hid (G7 = w5.heap.size) := hG7
  have S6 : SS w #[.slice a1 l1 c1, .slice a2 l2 c2, .slice a3 l3 c3, .slice a4 l4 c4] #[.int .i64 4, .int .i64 (k : Int), .int .i64 (N : Int), .slice q1 m1 k1, .slice q2 m2 k2, .int .i64 wa] z G6 G7 x1 x2 x3 x4 l1 l2 l3 l4 d1 d2 d3 d4 is rs cs hs #[.int .i64 4, .int .i64 0, .int .i64 0, .int .i64 0, .slice none 0 0, .slice none 0 0] w6 := ⟨X5.below b', Y5.below b', P5.below b', Q5.below b', N5.below b', T', o5.below b', bel_next b5 b', bel_next bz5 b', HZS.out, by have := HG6.out; have := HBN.out; omega, by rw [hG7]; exact N5.lt⟩
  clear X5 Y5 P5 Q5 N5 o5 b5 bz5 b' T' hw6 hG7
  go_upto_region 7 with fail
  clear y0' y1' y2' y3' y4' y5'
  rw [← HW6.out]
  simp only [← HG7.out]
  clear HW6 HG7 HW2 HBN HZ

  have HK : Hid (l4 = rs.length ∧ l4 ≤ c4 ∧ k + N ≤ l4 ∧ 1 ≤ N) := ⟨HN.out.1.2.2.2, hcap, hpk, hN⟩
  clear hcap hpk hN
  obtain ⟨bA', oA', eA', hbA', _⟩ := cell_atI HN.out.2.2.1.2.2.2 (k := 0) (by have := HK.out; omega)
  have HXS : Hid (SlI w (some ⟨bA', oA' + k, none⟩) ((rs.drop k).take N) ∧ N = ((rs.drop k).take N).length) := by
    refine ⟨slI_subG (by rw [← eA']; exact HN.out.2.2.1.2.2.2) (by have := HK.out; omega), ?_⟩
    have := HK.out; simp; omega
  have HXL : Hid (((rs.drop k).take N).length ≤ 2000000) := hide (by have := HXS.out.2; have := HK.out; have := HLM.out; omega)
  subst eA'

  rw [hxs] at HXS HXL
  clear hxs
  obtain ⟨x0', x1', x2', x3'⟩ := S6.X.four
  obtain ⟨y0', y1', y2', y3', y4', y5'⟩ := S6.Y.six
  obtain ⟨n0', n1', n2', n3'⟩ := S6.N.four
  obtain ⟨t0', t1', t2', t3', t4', t5'⟩ := S6.T.six
  have ft0 := S6.T.fro 0
  have ft1 := S6.T.fro 1
  have ft2 := S6.T.fro 2
  have ft3 := S6.T.fro 3
  have ft4 := S6.T.fro 4
  have ft5 := S6.T.fro 5

  go_upto_region 15 with fail
  clear x0' x1' x2' x3' y0' y1' y2' y3' y4' y5' n0' n1' n2' n3' t0' t1' t2' t3' t4' t5' ft0 ft1 ft2 ft3 ft4 ft5

  have i0 : (k : Int) ≤ (k : Int) + (N : Int) := by have := HK.out; omega
  have i1 : (k : Int) + (N : Int) ≤ (l4 : Int) := by have := HK.out; omega
  have i2 : (k : Int) + (N : Int) ≤ (c4 : Int) := by have := HK.out; omega
  have i3 : (0 : Int) ≤ (k : Int) := by omega
  have i4 : (0 : Int) ≤ (k : Int) + (N : Int) := by omega
  have i5 : IntKind.i64.wrap ((k : Int) + (N : Int)) = (k : Int) + (N : Int) := by have := HK.out; have := HLM.out; rw [IntKind.wrap_i64]; omega
  have i6 : (k : Int) ≤ (c4 : Int) := by have := HK.out; omega
  have i7 : ¬ c4 = k := by have := HK.out; omega
  have i8 : ((k : Int) + (N : Int)).toNat - k = N := by omega

  have oL : OwnI (w6.alloc (.cells #[] 3)) w6.heap.size (.slice (some ⟨w6.heap.size, 0, none⟩) 0 0) [] := ⟨rfl, .inr ⟨w6.heap.size, 0, #[], rfl, Nat.le_refl _, Blk.new w6 #[] 3, by simp, by simp, rfl, rfl⟩⟩
  have SL := S6.below (bel_alloc w6 (.cells #[] 3))

  obtain ⟨x0', x1', x2', x3'⟩ := SL.X.four
  obtain ⟨y0', y1', y2', y3', y4', y5'⟩ := SL.Y.six
  obtain ⟨n0', n1', n2', n3'⟩ := SL.N.four
  obtain ⟨t0', t1', t2', t3', t4', t5'⟩ := SL.T.six
  have ft0 := SL.T.fro 0
  have ft1 := SL.T.fro 1
  have ft2 := SL.T.fro 2
  have ft3 := SL.T.fro 3
  have ft4 := SL.T.fro 4
  have ft5 := SL.T.fro 5

  go_upto_region 41 with (at_builtin; obtain ⟨vA, uA, hr, oA, bA, _, r1, t1, hv⟩ := app0I (w6.alloc (.cells #[] 3)) w6.heap.size w6.heap.size (some ⟨bA', oA' + k, none⟩) N (c4 - k) xs HXS.out.2 (HXS.out.1.below (bel_next S6.bel (bel_alloc _ _))) HXL.out (Nat.le_refl _) oL; refine Lib.wpList_append_run _ rfl (.tmp 71) (.tmp 81) _ _ rfl _ _ rfl rfl _ _ hr ?_; subst hv; have SA := SL.below bA; have HAp : Hid (∀ g, (Of4 (.slice x1 l1 d1) (.slice x2 l2 d2) (.slice x3 l3 d3) (.slice x4 l4 d4)) g → ¬ Of2 (.slice r1 N t1) (.slice none 0 0) g) := S6.apart oA (ownB_nil0 _ _); have HOA : Hid (OwnI (uA.setCell ⟨G7, 4, none⟩ (.slice r1 N t1)) w.heap.size (.slice r1 N t1) xs) := row_setE (oA.mono S6.bel.size) ⟨_, SA.T⟩ (by decide); have SB := SA.setT 4 (.slice r1 N t1); obtain ⟨s0', s1', s2', s3', s4', s5'⟩ := SA.T.six; have fs := SA.T.fro 4; clear hr oA bA oL)

  obtain ⟨w8, hw8⟩ : ∃ x, x = uA.setCell ⟨G7, 4, none⟩ (.slice r1 N t1) := ⟨_, rfl⟩
  rw [← hw8] at SB HOA ⊢
  have S9 : SS w #[.slice a1 l1 c1, .slice a2 l2 c2, .slice a3 l3 c3, .slice (some ⟨bA', oA', none⟩) l4 c4] #[.int .i64 4, .int .i64 (k : Int), .int .i64 (N : Int), .slice q1 m1 k1, .slice q2 m2 k2, .int .i64 wa] z G6 G7 x1 x2 x3 x4 l1 l2 l3 l4 d1 d2 d3 d4 is rs cs hs #[.int .i64 4, .int .i64 0, .int .i64 0, .int .i64 0, .slice r1 N t1, .slice none 0 0] w8 := SB
  clear hw8 SB SA SL S6 s0' s1' s2' s3' s4' s5' fs
  clear x0' x1' x2' x3' y0' y1' y2' y3' y4' y5' n0' n1' n2' n3' t0' t1' t2' t3' t4' t5' ft0 ft1 ft2 ft3 ft4 ft5

  have OI := HOA
  obtain ⟨r2, p2, t2, hr2⟩ : ∃ (r2 : Option Addr) (p2 t2 : Nat), Value.slice r2 p2 t2 = .slice none 0 0 := ⟨none, 0, 0, rfl⟩
  rw [← hr2] at S9 HAp
  have OB : Hid (OwnB w8 w.heap.size (.slice r2 p2 t2) []) := by rw [hr2]; exact ownB_nil0 _ _
  clear hr2
  obtain ⟨p1, hp1⟩ : ∃ p1, p1 = N := ⟨_, rfl⟩
  have S10 : SS w #[.slice a1 l1 c1, .slice a2 l2 c2, .slice a3 l3 c3, .slice (some ⟨bA', oA', none⟩) l4 c4] #[.int .i64 4, .int .i64 (k : Int), .int .i64 (N : Int), .slice q1 m1 k1, .slice q2 m2 k2, .int .i64 wa] z G6 G7 x1 x2 x3 x4 l1 l2 l3 l4 d1 d2 d3 d4 is rs cs hs #[.int .i64 4, .int .i64 0, .int .i64 0, .int .i64 0, .slice r1 p1 t1, .slice r2 p2 t2] w8 := by rw [hp1]; exact S9
  rw [← hp1] at HAp OI
  clear S9 i0 i1 i2 i3 i4 i5 i6 i7 i8 HXS HXL HK HOA hp1
  have N4 := S10.N
  have T' := S10.T
  have P4 := S10.P
  have Q4 := S10.Q
  have HH : Hid (OwnD w8 w.heap.size x1 x2 x3 x4 l1 l2 l3 l4 d1 d2 d3 d4 cs is hs rs ∧ OwnI w8 w.heap.size (.slice r1 p1 t1) xs ∧ OwnB w8 w.heap.size (.slice r2 p2 t2) [] ∧ Below w.heap.size w w8 ∧ ExB w8 (w.heap.size + 1 + 1) 36 ∧ ExB w8 (w.heap.size + 1 + 1 + 1) 29) := ⟨S10.D.mono (by have := S10.zb0; omega), OI.out, OB.out, S10.bel, ⟨_, P4⟩, ⟨_, Q4⟩⟩
  have lN : w.heap.size + 1 + 1 + 1 + 1 ≤ G6 := by have := S10.zb0; have := S10.g6; omega
  have lT : w.heap.size + 1 + 1 + 1 + 1 ≤ G7 := by have := S10.g7; omega
  obtain ⟨n0, n1, n2, n3⟩ := N4.four
  obtain ⟨t0', t1', t2', t3', t4', t5'⟩ := T'.six
  obtain ⟨p0', p1', p2', p3'⟩ := P4.four
  obtain ⟨q0', q1', q2', q3', q4', q5'⟩ := Q4.six
  have fp0 := P4.fro 0
  have fp1 := P4.fro 1
  have fp2 := P4.fro 2
  have fp3 := P4.fro 3
  have fq0 := Q4.fro 0
  have fq1 := Q4.fro 1
  have fq2 := Q4.fro 2
  have fq3 := Q4.fro 3
  have fq4 := Q4.fro 4
  have fq5 := Q4.fro 5
  have e1 : ¬ (G6 = w.heap.size + 1 + 1) := by omega
  have e2 : ¬ (G6 = w.heap.size + 1 + 1 + 1) := by omega
  have e3 : ¬ (G7 = w.heap.size + 1 + 1) := by omega
  have e4 : ¬ (G7 = w.heap.size + 1 + 1 + 1) := by omega
  have e1' : ¬ (w.heap.size + 1 + 1 = G6) := by omega
  have e2' : ¬ (w.heap.size + 1 + 1 + 1 = G6) := by omega
  have e3' : ¬ (w.heap.size + 1 + 1 = G7) := by omega
  have e4' : ¬ (w.heap.size + 1 + 1 + 1 = G7) := by omega
  clear lN lT
  obtain ⟨W5, hW5⟩ : ∃ x, x = ((((((((((w8.setCell ⟨w.heap.size + 1 + 1, 0, none⟩ (.slice x1 l1 d1)).setCell ⟨w.heap.size + 1 + 1, 1, none⟩ (.slice x2 l2 d2)).setCell ⟨w.heap.size + 1 + 1, 2, none⟩ (.slice x3 l3 d3)).setCell ⟨w.heap.size + 1 + 1, 3, none⟩ (.slice x4 l4 d4)).setCell ⟨w.heap.size + 1 + 1 + 1, 0, none⟩ (.int .i64 (4))).setCell ⟨w.heap.size + 1 + 1 + 1, 1, none⟩ (.int .i64 (0))).setCell ⟨w.heap.size + 1 + 1 + 1, 2, none⟩ (.int .i64 (0))).setCell ⟨w.heap.size + 1 + 1 + 1, 3, none⟩ (.int .i64 (0))).setCell ⟨w.heap.size + 1 + 1 + 1, 4, none⟩ (.slice r1 p1 t1)).setCell ⟨w.heap.size + 1 + 1 + 1, 5, none⟩ (.slice r2 p2 t2)) := ⟨_, rfl⟩
  have HW5 : Hid (W5 = _) := hW5
  have HF : Hid (OwnD W5 w.heap.size x1 x2 x3 x4 l1 l2 l3 l4 d1 d2 d3 d4 cs is hs rs ∧ OwnI W5 w.heap.size (.slice r1 p1 t1) xs ∧ OwnB W5 w.heap.size (.slice r2 p2 t2) [] ∧ Below w.heap.size w W5) := by
    obtain ⟨o1, o2, o3, o4, o5, o6⟩ := HH.out
    have x6 : ∀ v0 v1 v2 v3 : Value, ExB ((((w8.setCell ⟨w.heap.size + 1 + 1, 0, none⟩ v0).setCell ⟨w.heap.size + 1 + 1, 1, none⟩ v1).setCell ⟨w.heap.size + 1 + 1, 2, none⟩ v2).setCell ⟨w.heap.size + 1 + 1, 3, none⟩ v3) (w.heap.size + 1 + 1 + 1) 29 := fun _ _ _ _ => ExB.set (ExB.set (ExB.set (ExB.set o6)))
    rw [hW5]
    exact ⟨(o1.set4 o5 (by decide) (by decide)).set6 (x6 _ _ _ _) (by decide) (by decide), rowp_set6 (row_set4 o2 o5 (by decide)) (x6 _ _ _ _) (by decide), rowp_set6 (row_set4 o3 o5 (by decide)) (x6 _ _ _ _) (by decide), belp_set6 (bel_set4 o4 (by omega)) (by omega)⟩
  have HPQ : Hid (Blk W5 (w.heap.size + 1 + 1) 36 #[.slice x1 l1 d1, .slice x2 l2 d2, .slice x3 l3 d3, .slice x4 l4 d4] ∧ Blk W5 (w.heap.size + 1 + 1 + 1) 29 #[.int .i64 4, .int .i64 0, .int .i64 0, .int .i64 0, .slice r1 p1 t1, .slice r2 p2 t2]) := by
    have a1' := (((P4.set 0 (.slice x1 l1 d1)).set 1 (.slice x2 l2 d2)).set 2 (.slice x3 l3 d3)).set 3 (.slice x4 l4 d4)
    have a2' := (((((a1'.setNe (g' := w.heap.size + 1 + 1 + 1) (j := 0) (y := .int .i64 (4)) (by omega)).setNe (g' := w.heap.size + 1 + 1 + 1) (j := 1) (y := .int .i64 (0)) (by omega)).setNe (g' := w.heap.size + 1 + 1 + 1) (j := 2) (y := .int .i64 (0)) (by omega)).setNe (g' := w.heap.size + 1 + 1 + 1) (j := 3) (y := .int .i64 (0)) (by omega)).setNe (g' := w.heap.size + 1 + 1 + 1) (j := 4) (y := .slice r1 p1 t1) (by omega)).setNe (g' := w.heap.size + 1 + 1 + 1) (j := 5) (y := .slice r2 p2 t2) (by omega)
    have c1' := (((Q4.setNe (g' := w.heap.size + 1 + 1) (j := 0) (y := .slice x1 l1 d1) (by omega)).setNe (g' := w.heap.size + 1 + 1) (j := 1) (y := .slice x2 l2 d2) (by omega)).setNe (g' := w.heap.size + 1 + 1) (j := 2) (y := .slice x3 l3 d3) (by omega)).setNe (g' := w.heap.size + 1 + 1) (j := 3) (y := .slice x4 l4 d4) (by omega)
    have c2' := (((((c1'.set 0 (.int .i64 (4))).set 1 (.int .i64 (0))).set 2 (.int .i64 (0))).set 3 (.int .i64 (0))).set 4 (.slice r1 p1 t1)).set 5 (.slice r2 p2 t2)
    rw [hW5]
    exact ⟨a2', c2'⟩
  clear hW5 S10
  go_region
  rw [← HW5.out]
  obtain ⟨u0, u1, u2, u3⟩ := HPQ.out.1.four
  obtain ⟨v0, v1, v2, v3, v4, v5⟩ := HPQ.out.2.six
  clear p0' p1' p2' p3' q0' q1' q2' q3' q4' q5' fp0 fp1 fp2 fp3 fq0 fq1 fq2 fq3 fq4 fq5 n0 n1 n2 n3 t0' t1' t2' t3' t4' t5'
  go_wp2
  refine bodyPost_ret (v := .tuple #[dv x1 x2 x3 x4 l1 l2 l3 l4 d1 d2 d3 d4, rp (4) (0) (0) (0) r1 r2 p1 p2 t1 t2]) (by simp [results, Try.results19, go_sem, u0, u1, u2, u3, v0, v1, v2, v3, v4, v5]) rfl ?_
  obtain ⟨o1, o2, o3, o4⟩ := HF.out
  exact ⟨_, _, _, _, _, _, _, _, _, _, _, _, _, _, _, _, _, _, rfl, o1.drew, o2.below (Below.refl _ _).drew, o3.below (Below.refl _ _).drew, HAp.out, o4.drew⟩

end Go.Proofs.Ytfcbkollmhjdoaa

namespace Go.Proofs.Ytfcbkollmhjdoaa
open Go.RowKit

set_option linter.unusedVariables false

set_option linter.unusedSimpArgs false

set_option maxRecDepth 20000 in
set_option maxHeartbeats 4000000 in
theorem specServe_16 (a1 a2 a3 a4 : Option Addr) (l1 l2 l3 l4 c1 c2 c3 c4 : Nat) (cs is : List Bool) (hs rs : List Int) (nn wa : Int) (q1 q2 : Option Addr) (m1 m2 k1 k2 : Nat) (ws : List Int) (bs : List Bool) (w : World) (hn : LnD l1 l2 l3 l4 cs is hs rs) (hs0 : SlD w a1 a2 a3 a4 cs is hs rs) (hsm : SmD 2000000 cs is hs rs) (hq : SlI w q1 ws) (hq2 : SlB w q2 bs) (h1 : m1 = ws.length) (h2 : m2 = bs.length) (hl : ws.length ≤ 2000000) (hl2 : bs.length ≤ 2000000) (k : Nat) (hpk : k + ws.length ≤ l3) (hok : okR 16 (k : Int) nn wa ws m1 m2 = true) (hd : okD l1 l2 l3 l4 hs rs = true) (hal : svAll l1 l2 l3 l4 16 (k : Int) nn wa m1 m2 = true) :
    Calls Try.prog 19 #[dv a1 a2 a3 a4 l1 l2 l3 l4 c1 c2 c3 c4, .agg #[.int .i64 16, .int .i64 (k : Int), .int .i64 nn, .slice q1 m1 k1, .slice q2 m2 k2, .int .i64 wa]] w fun e w' => SR w w' e cs is (wr hs k ws) rs 16 0 (k : Int) (m1 : Int) [] [] := by
  obtain ⟨z, hz⟩ : ∃ z, z = (((w.alloc (.cells #[.slice a1 l1 c1, .slice a2 l2 c2, .slice a3 l3 c3, .slice a4 l4 c4] 36)).alloc (.cells #[.int .i64 16, .int .i64 (k : Int), .int .i64 nn, .slice q1 m1 k1, .slice q2 m2 k2, .int .i64 wa] 27)).alloc (.cells #[.slice none 0 0, .slice none 0 0, .slice none 0 0, .slice none 0 0] 36)).alloc (.cells #[.int .i64 0, .int .i64 0, .int .i64 0, .int .i64 0, .slice none 0 0, .slice none 0 0] 29) := ⟨_, rfl⟩
  have HZ : Hid (z = _) := hz
  have b0 : Below w.heap.size w z := by rw [hz]; exact bel_next (bel_next (bel_next (bel_alloc w _) (bel_alloc _ _)) (bel_alloc _ _)) (bel_alloc _ _)
  have X0 : Blk z w.heap.size 36 #[.slice a1 l1 c1, .slice a2 l2 c2, .slice a3 l3 c3, .slice a4 l4 c4] := by rw [hz]; exact (((Blk.new w _ _).below (bel_alloc _ _)).below (bel_alloc _ _)).below (bel_alloc _ _)
  have Y0 : Blk z (w.heap.size + 1) 27 #[.int .i64 16, .int .i64 (k : Int), .int .i64 nn, .slice q1 m1 k1, .slice q2 m2 k2, .int .i64 wa] := by rw [hz]; have := ((Blk.new (w.alloc (.cells #[.slice a1 l1 c1, .slice a2 l2 c2, .slice a3 l3 c3, .slice a4 l4 c4] 36)) #[.int .i64 16, .int .i64 (k : Int), .int .i64 nn, .slice q1 m1 k1, .slice q2 m2 k2, .int .i64 wa] 27).below (bel_alloc _ (.cells #[.slice none 0 0, .slice none 0 0, .slice none 0 0, .slice none 0 0] 36))).below (bel_alloc _ (.cells #[.int .i64 0, .int .i64 0, .int .i64 0, .int .i64 0, .slice none 0 0, .slice none 0 0] 29)); simpa using this
  have P0 : Blk z (w.heap.size + 1 + 1) 36 #[.slice none 0 0, .slice none 0 0, .slice none 0 0, .slice none 0 0] := by rw [hz]; have := (Blk.new ((w.alloc (.cells #[.slice a1 l1 c1, .slice a2 l2 c2, .slice a3 l3 c3, .slice a4 l4 c4] 36)).alloc (.cells #[.int .i64 16, .int .i64 (k : Int), .int .i64 nn, .slice q1 m1 k1, .slice q2 m2 k2, .int .i64 wa] 27)) #[.slice none 0 0, .slice none 0 0, .slice none 0 0, .slice none 0 0] 36).below (bel_alloc _ (.cells #[.int .i64 0, .int .i64 0, .int .i64 0, .int .i64 0, .slice none 0 0, .slice none 0 0] 29)); simpa using this
  have Q0 : Blk z (w.heap.size + 1 + 1 + 1) 29 #[.int .i64 0, .int .i64 0, .int .i64 0, .int .i64 0, .slice none 0 0, .slice none 0 0] := by rw [hz]; have := Blk.new (((w.alloc (.cells #[.slice a1 l1 c1, .slice a2 l2 c2, .slice a3 l3 c3, .slice a4 l4 c4] 36)).alloc (.cells #[.int .i64 16, .int .i64 (k : Int), .int .i64 nn, .slice q1 m1 k1, .slice q2 m2 k2, .int .i64 wa] 27)).alloc (.cells #[.slice none 0 0, .slice none 0 0, .slice none 0 0, .slice none 0 0] 36)) #[.int .i64 0, .int .i64 0, .int .i64 0, .int .i64 0, .slice none 0 0, .slice none 0 0] 29; simpa using this
  have HN : Hid (LnD l1 l2 l3 l4 cs is hs rs ∧ SmD 2000000 cs is hs rs ∧ SlD w a1 a2 a3 a4 cs is hs rs ∧ SlI w q1 ws ∧ SlB w q2 bs) := ⟨hn, hsm, hs0, hq, hq2⟩
  have HQ : Hid (m1 = ws.length ∧ m2 = bs.length ∧ ws.length ≤ 2000000 ∧ bs.length ≤ 2000000) := ⟨h1, h2, hl, hl2⟩
  have HB0 : Hid (Below w.heap.size w z) := b0
  have HZS : Hid (z.heap.size = w.heap.size + 1 + 1 + 1 + 1) := by show _ = _; rw [hz]; simp
  obtain ⟨x0', x1', x2', x3'⟩ := X0.four
  clear hz hn hs0 hsm hq hq2 h1 h2 hl hl2
  go_enter Try.func19, Try.ntmps19
  go_upto_region 1 with fail
  rw [← HZ.out]
  go_wp2_with fail
  refine (l5Copy_any a1 a2 a3 a4 l1 l2 l3 l4 c1 c2 c3 c4 cs is hs rs _ HN.out.1 (HN.out.2.2.1.below b0) HN.out.2.1).mono ?_
  rintro e w1 ⟨x1, x2, x3, x4, d1, d2, d3, d4, rfl, o1, b'⟩
  have b1 := bel_next b0 b'
  have bz1 := b'
  have X1 := X0.below b'
  have Y1 := Y0.below b'
  have P1 := P0.below b'
  have Q1 := Q0.below b'
  have HG6 : Hid (z.heap.size ≤ w1.heap.size) := b'.size
  clear x0' x1' x2' x3' X0 Y0 P0 Q0 b0 b'
  have b' := bel_alloc w1 (.cells #[.slice x1 l1 d1, .slice x2 l2 d2, .slice x3 l3 d3, .slice x4 l4 d4] 36)
  have N' := Blk.new w1 #[.slice x1 l1 d1, .slice x2 l2 d2, .slice x3 l3 d3, .slice x4 l4 d4] 36
  obtain ⟨w2, hw2⟩ : ∃ x, x = w1.alloc (.cells #[.slice x1 l1 d1, .slice x2 l2 d2, .slice x3 l3 d3, .slice x4 l4 d4] 36) := ⟨_, rfl⟩
  rw [← hw2] at b' N'
  have HW2 : Hid (w2 = _) := hw2
  obtain ⟨G6, hBN⟩ : ∃ x, x = w1.heap.size := ⟨_, rfl⟩
  rw [← hBN] at N'
  have HBN : Hid (G6 = w1.heap.size) := hBN
  have S2 : ∀ G7 tc, G6 < G7 → Blk w2 G7 29 tc → True := fun _ _ _ _ => trivial
  have b2 := bel_next b1 b'
  have bz2 := bel_next bz1 b'
  have X2 := X1.below b'
  have Y2 := Y1.below b'
  have P2 := P1.below b'
  have Q2 := Q1.below b'
  have o2 := o1.below b'
  clear hw2 hBN b1 bz1 X1 Y1 P1 Q1 o1 b' S2
  obtain ⟨x0', x1', x2', x3'⟩ := X2.four
  go_upto_region 2 with fail
  rw [← HW2.out]
  simp only [← HBN.out]

  have HD : Hid (okD l1 l2 l3 l4 hs rs = true) := hd
  have HOK : Hid (okR 16 (k : Int) nn wa ws m1 m2 = true) := hok
  have HAL : Hid (svAll l1 l2 l3 l4 16 (k : Int) nn wa m1 m2 = true) := hal
  have HLM : Hid (l1 ≤ 2000000 ∧ l2 ≤ 2000000 ∧ l3 ≤ 2000000 ∧ l4 ≤ 2000000) := by have := okD_len hd; show _ ∧ _ ∧ _ ∧ _; omega
  clear hd hok hal
  go_wp2_with fail
  refine (specDeviceOk_any a1 a2 a3 a4 l1 l2 l3 l4 c1 c2 c3 c4 cs is hs rs _ HN.out.1 (HN.out.2.2.1.below b2) HN.out.2.1 true HD.out).mono ?_
  rintro e w3 ⟨rfl, b'⟩
  have b3 := bel_next b2 b'
  have bz3 := bel_next bz2 b'
  have X3 := X2.below b'
  have Y3 := Y2.below b'
  have P3 := P2.below b'
  have Q3 := Q2.below b'
  have N3 := N'.below b'
  have o3 := o2.below b'
  clear x0' x1' x2' x3' X2 Y2 P2 Q2 N' o2 b2 bz2 b'
  obtain ⟨x0', x1', x2', x3'⟩ := X3.four
  obtain ⟨y0', y1', y2', y3', y4', y5'⟩ := Y3.six

  go_wp2_with fail
  refine (specReqOk_q 16 (k : Int) nn wa q1 q2 m1 m2 k1 k2 ws bs _ HQ.out.1 HQ.out.2.1 (HN.out.2.2.2.1.below b3) (HN.out.2.2.2.2.below b3) HQ.out.2.2.1 HQ.out.2.2.2).mono ?_
  rintro e w4 ⟨he, b'⟩
  rw [HOK.out] at he
  subst he
  have b4 := bel_next b3 b'
  have bz4 := bel_next bz3 b'
  have X4 := X3.below b'
  have Y4 := Y3.below b'
  have P4 := P3.below b'
  have Q4 := Q3.below b'
  have N4 := N3.below b'
  have o4 := o3.below b'
  clear x0' x1' x2' x3' y0' y1' y2' y3' y4' y5' X3 Y3 P3 Q3 N3 o3 b3 bz3 b'
  obtain ⟨x0', x1', x2', x3'⟩ := X4.four
  obtain ⟨y0', y1', y2', y3', y4', y5'⟩ := Y4.six

  go_wp2_with fail
  refine (l5There_any a1 a2 a3 a4 l1 l2 l3 l4 c1 c2 c3 c4 16 (k : Int) nn wa q1 q2 m1 m2 k1 k2 ws bs _ HQ.out.1 HQ.out.2.1 (HN.out.2.2.2.1.below b4) (HN.out.2.2.2.2.below b4) HQ.out.2.2.1 HQ.out.2.2.2 HOK.out HLM.out.1 HLM.out.2.1 HLM.out.2.2.1 HLM.out.2.2.2 true HAL.out).mono ?_
  rintro e w5 ⟨rfl, b'⟩
  have b5 := bel_next b4 b'
  have bz5 := bel_next bz4 b'
  have X5 := X4.below b'
  have Y5 := Y4.below b'
  have P5 := P4.below b'
  have Q5 := Q4.below b'
  have N5 := N4.below b'
  have o5 := o4.below b'
  clear x0' x1' x2' x3' y0' y1' y2' y3' y4' y5' X4 Y4 P4 Q4 N4 o4 b4 bz4 b'
  obtain ⟨y0', y1', y2', y3', y4', y5'⟩ := Y5.six

  have b' := bel_alloc w5 (.cells #[.int .i64 16, .int .i64 0, .int .i64 0, .int .i64 0, .slice none 0 0, .slice none 0 0] 29)
  have T' := Blk.new w5 #[.int .i64 16, .int .i64 0, .int .i64 0, .int .i64 0, .slice none 0 0, .slice none 0 0] 29
  obtain ⟨w6, hw6⟩ : ∃ x, x = w5.alloc (.cells #[.int .i64 16, .int .i64 0, .int .i64 0, .int .i64 0, .slice none 0 0, .slice none 0 0] 29) := ⟨_, rfl⟩
  rw [← hw6] at b' T'
  have HW6 : Hid (w6 = _) := hw6
  obtain ⟨G7, hG7⟩ : ∃ x, x = w5.heap.size := ⟨_, rfl⟩
  rw [← hG7] at T'
  have HG7 : Hid (G7 = w5.heap.size) := hG7
  have S6 : SS w #[.slice a1 l1 c1, .slice a2 l2 c2, .slice a3 l3 c3, .slice a4 l4 c4] #[.int .i64 16, .int .i64 (k : Int), .int .i64 nn, .slice q1 m1 k1, .slice q2 m2 k2, .int .i64 wa] z G6 G7 x1 x2 x3 x4 l1 l2 l3 l4 d1 d2 d3 d4 is rs cs hs #[.int .i64 16, .int .i64 0, .int .i64 0, .int .i64 0, .slice none 0 0, .slice none 0 0] w6 := ⟨X5.below b', Y5.below b', P5.below b', Q5.below b', N5.below b', T', o5.below b', bel_next b5 b', bel_next bz5 b', HZS.out, by have := HG6.out; have := HBN.out; omega, by rw [hG7]; exact N5.lt⟩
  clear X5 Y5 P5 Q5 N5 o5 b5 bz5 b' T' hw6 hG7
  go_upto_region 7 with fail
  clear y0' y1' y2' y3' y4' y5'
  rw [← HW6.out]
  simp only [← HG7.out]
  clear HW6 HG7 HW2 HBN HZ

  have HK : Hid (k + ws.length ≤ l3) := hpk
  have HXL : Hid (ws.length ≤ 2000000) := HQ.out.2.2.1
  have im1 : (m1 : Int) ≤ 2000000 := by have := HQ.out; omega
  clear hpk
  obtain ⟨x0', x1', x2', x3'⟩ := S6.X.four
  obtain ⟨y0', y1', y2', y3', y4', y5'⟩ := S6.Y.six
  obtain ⟨n0', n1', n2', n3'⟩ := S6.N.four
  obtain ⟨t0', t1', t2', t3', t4', t5'⟩ := S6.T.six
  have ft0 := S6.T.fro 0
  have ft1 := S6.T.fro 1
  have ft2 := S6.T.fro 2
  have ft3 := S6.T.fro 3
  have ft4 := S6.T.fro 4
  have ft5 := S6.T.fro 5

  go_wp2_with fail
  refine (l5Write_any x1 x2 x3 x4 l1 l2 l3 l4 d1 d2 d3 d4 cs is hs rs k q1 m1 k1 ws z _ S6.belz S6.D HQ.out.1 (HN.out.2.2.2.1.below HB0.out) HK.out HLM.out.2.2.1).mono ?_
  rintro e w7 ⟨rfl, D7, _, C7⟩
  have S7 := S6.chg C7 D7
  clear D7 C7 S6
  clear x0' x1' x2' x3' y0' y1' y2' y3' y4' y5' n0' n1' n2' n3' t0' t1' t2' t3' t4' t5' ft0 ft1 ft2 ft3 ft4 ft5

  obtain ⟨x0', x1', x2', x3'⟩ := S7.X.four
  obtain ⟨y0', y1', y2', y3', y4', y5'⟩ := S7.Y.six
  obtain ⟨n0', n1', n2', n3'⟩ := S7.N.four
  obtain ⟨t0', t1', t2', t3', t4', t5'⟩ := S7.T.six
  have ft0 := S7.T.fro 0
  have ft1 := S7.T.fro 1
  have ft2 := S7.T.fro 2
  have ft3 := S7.T.fro 3
  have ft4 := S7.T.fro 4
  have ft5 := S7.T.fro 5

  go_upto_region 41 with fail
  have SB := (S7.setT 2 (.int .i64 (k : Int))).setT 3 (.int .i64 (m1 : Int))
  obtain ⟨w8, hw8⟩ : ∃ x, x = (w7.setCell ⟨G7, 2, none⟩ (.int .i64 (k : Int))).setCell ⟨G7, 3, none⟩ (.int .i64 (m1 : Int)) := ⟨_, rfl⟩
  rw [← hw8] at SB ⊢
  have S9 : SS w #[.slice a1 l1 c1, .slice a2 l2 c2, .slice a3 l3 c3, .slice a4 l4 c4] #[.int .i64 16, .int .i64 (k : Int), .int .i64 nn, .slice q1 m1 k1, .slice q2 m2 k2, .int .i64 wa] z G6 G7 x1 x2 x3 x4 l1 l2 l3 l4 d1 d2 d3 d4 is rs cs (wr hs k ws) #[.int .i64 16, .int .i64 0, .int .i64 (k : Int), .int .i64 (m1 : Int), .slice none 0 0, .slice none 0 0] w8 := SB
  clear hw8 SB S7
  clear x0' x1' x2' x3' y0' y1' y2' y3' y4' y5' n0' n1' n2' n3' t0' t1' t2' t3' t4' t5' ft0 ft1 ft2 ft3 ft4 ft5

  have HAp : Hid (∀ g, (Of4 (.slice x1 l1 d1) (.slice x2 l2 d2) (.slice x3 l3 d3) (.slice x4 l4 d4)) g → ¬ Of2 (.slice none 0 0) (.slice none 0 0) g) := S9.apart (ownI_nil0 w8 _) (ownB_nil0 w8 _)
  obtain ⟨r1, p1, t1, hr1, r2, p2, t2, hr2⟩ : ∃ (r1 : Option Addr) (p1 t1 : Nat) (_ : Value.slice r1 p1 t1 = .slice none 0 0) (r2 : Option Addr) (p2 t2 : Nat), Value.slice r2 p2 t2 = .slice none 0 0 := ⟨none, 0, 0, rfl, none, 0, 0, rfl⟩
  have OI : Hid (OwnI w8 w.heap.size (.slice r1 p1 t1) []) := by rw [hr1]; exact ownI_nil0 _ _
  have OB : Hid (OwnB w8 w.heap.size (.slice r2 p2 t2) []) := by rw [hr2]; exact ownB_nil0 _ _
  have S10 : SS w #[.slice a1 l1 c1, .slice a2 l2 c2, .slice a3 l3 c3, .slice a4 l4 c4] #[.int .i64 16, .int .i64 (k : Int), .int .i64 nn, .slice q1 m1 k1, .slice q2 m2 k2, .int .i64 wa] z G6 G7 x1 x2 x3 x4 l1 l2 l3 l4 d1 d2 d3 d4 is rs cs (wr hs k ws) #[.int .i64 16, .int .i64 0, .int .i64 (k : Int), .int .i64 (m1 : Int), .slice r1 p1 t1, .slice r2 p2 t2] w8 := by rw [hr1, hr2]; exact S9
  have HAp' : Hid (∀ g, (Of4 (.slice x1 l1 d1) (.slice x2 l2 d2) (.slice x3 l3 d3) (.slice x4 l4 d4)) g → ¬ Of2 (.slice r1 p1 t1) (.slice r2 p2 t2) g) := by rw [hr1, hr2]; exact HAp
  clear HAp S9
  have HAp := HAp'
  clear HAp' hr1 hr2
  have N4 := S10.N
  have T' := S10.T
  have P4 := S10.P
  have Q4 := S10.Q
  have HH : Hid (OwnD w8 w.heap.size x1 x2 x3 x4 l1 l2 l3 l4 d1 d2 d3 d4 cs is (wr hs k ws) rs ∧ OwnI w8 w.heap.size (.slice r1 p1 t1) [] ∧ OwnB w8 w.heap.size (.slice r2 p2 t2) [] ∧ Below w.heap.size w w8 ∧ ExB w8 (w.heap.size + 1 + 1) 36 ∧ ExB w8 (w.heap.size + 1 + 1 + 1) 29) := ⟨S10.D.mono (by have := S10.zb0; omega), OI.out, OB.out, S10.bel, ⟨_, P4⟩, ⟨_, Q4⟩⟩
  have lN : w.heap.size + 1 + 1 + 1 + 1 ≤ G6 := by have := S10.zb0; have := S10.g6; omega
  have lT : w.heap.size + 1 + 1 + 1 + 1 ≤ G7 := by have := S10.g7; omega
  obtain ⟨n0, n1, n2, n3⟩ := N4.four
  obtain ⟨t0', t1', t2', t3', t4', t5'⟩ := T'.six
  obtain ⟨p0', p1', p2', p3'⟩ := P4.four
  obtain ⟨q0', q1', q2', q3', q4', q5'⟩ := Q4.six
  have fp0 := P4.fro 0
  have fp1 := P4.fro 1
  have fp2 := P4.fro 2
  have fp3 := P4.fro 3
  have fq0 := Q4.fro 0
  have fq1 := Q4.fro 1
  have fq2 := Q4.fro 2
  have fq3 := Q4.fro 3
  have fq4 := Q4.fro 4
  have fq5 := Q4.fro 5
  have e1 : ¬ (G6 = w.heap.size + 1 + 1) := by omega
  have e2 : ¬ (G6 = w.heap.size + 1 + 1 + 1) := by omega
  have e3 : ¬ (G7 = w.heap.size + 1 + 1) := by omega
  have e4 : ¬ (G7 = w.heap.size + 1 + 1 + 1) := by omega
  have e1' : ¬ (w.heap.size + 1 + 1 = G6) := by omega
  have e2' : ¬ (w.heap.size + 1 + 1 + 1 = G6) := by omega
  have e3' : ¬ (w.heap.size + 1 + 1 = G7) := by omega
  have e4' : ¬ (w.heap.size + 1 + 1 + 1 = G7) := by omega
  clear lN lT
  obtain ⟨W5, hW5⟩ : ∃ x, x = ((((((((((w8.setCell ⟨w.heap.size + 1 + 1, 0, none⟩ (.slice x1 l1 d1)).setCell ⟨w.heap.size + 1 + 1, 1, none⟩ (.slice x2 l2 d2)).setCell ⟨w.heap.size + 1 + 1, 2, none⟩ (.slice x3 l3 d3)).setCell ⟨w.heap.size + 1 + 1, 3, none⟩ (.slice x4 l4 d4)).setCell ⟨w.heap.size + 1 + 1 + 1, 0, none⟩ (.int .i64 (16))).setCell ⟨w.heap.size + 1 + 1 + 1, 1, none⟩ (.int .i64 (0))).setCell ⟨w.heap.size + 1 + 1 + 1, 2, none⟩ (.int .i64 ((k : Int)))).setCell ⟨w.heap.size + 1 + 1 + 1, 3, none⟩ (.int .i64 ((m1 : Int)))).setCell ⟨w.heap.size + 1 + 1 + 1, 4, none⟩ (.slice r1 p1 t1)).setCell ⟨w.heap.size + 1 + 1 + 1, 5, none⟩ (.slice r2 p2 t2)) := ⟨_, rfl⟩
  have HW5 : Hid (W5 = _) := hW5
  have HF : Hid (OwnD W5 w.heap.size x1 x2 x3 x4 l1 l2 l3 l4 d1 d2 d3 d4 cs is (wr hs k ws) rs ∧ OwnI W5 w.heap.size (.slice r1 p1 t1) [] ∧ OwnB W5 w.heap.size (.slice r2 p2 t2) [] ∧ Below w.heap.size w W5) := by
    obtain ⟨o1, o2, o3, o4, o5, o6⟩ := HH.out
    have x6 : ∀ v0 v1 v2 v3 : Value, ExB ((((w8.setCell ⟨w.heap.size + 1 + 1, 0, none⟩ v0).setCell ⟨w.heap.size + 1 + 1, 1, none⟩ v1).setCell ⟨w.heap.size + 1 + 1, 2, none⟩ v2).setCell ⟨w.heap.size + 1 + 1, 3, none⟩ v3) (w.heap.size + 1 + 1 + 1) 29 := fun _ _ _ _ => ExB.set (ExB.set (ExB.set (ExB.set o6)))
    rw [hW5]
    exact ⟨(o1.set4 o5 (by decide) (by decide)).set6 (x6 _ _ _ _) (by decide) (by decide), rowp_set6 (row_set4 o2 o5 (by decide)) (x6 _ _ _ _) (by decide), rowp_set6 (row_set4 o3 o5 (by decide)) (x6 _ _ _ _) (by decide), belp_set6 (bel_set4 o4 (by omega)) (by omega)⟩
  have HPQ : Hid (Blk W5 (w.heap.size + 1 + 1) 36 #[.slice x1 l1 d1, .slice x2 l2 d2, .slice x3 l3 d3, .slice x4 l4 d4] ∧ Blk W5 (w.heap.size + 1 + 1 + 1) 29 #[.int .i64 16, .int .i64 0, .int .i64 (k : Int), .int .i64 (m1 : Int), .slice r1 p1 t1, .slice r2 p2 t2]) := by
    have a1' := (((P4.set 0 (.slice x1 l1 d1)).set 1 (.slice x2 l2 d2)).set 2 (.slice x3 l3 d3)).set 3 (.slice x4 l4 d4)
    have a2' := (((((a1'.setNe (g' := w.heap.size + 1 + 1 + 1) (j := 0) (y := .int .i64 (16)) (by omega)).setNe (g' := w.heap.size + 1 + 1 + 1) (j := 1) (y := .int .i64 (0)) (by omega)).setNe (g' := w.heap.size + 1 + 1 + 1) (j := 2) (y := .int .i64 ((k : Int))) (by omega)).setNe (g' := w.heap.size + 1 + 1 + 1) (j := 3) (y := .int .i64 ((m1 : Int))) (by omega)).setNe (g' := w.heap.size + 1 + 1 + 1) (j := 4) (y := .slice r1 p1 t1) (by omega)).setNe (g' := w.heap.size + 1 + 1 + 1) (j := 5) (y := .slice r2 p2 t2) (by omega)
    have c1' := (((Q4.setNe (g' := w.heap.size + 1 + 1) (j := 0) (y := .slice x1 l1 d1) (by omega)).setNe (g' := w.heap.size + 1 + 1) (j := 1) (y := .slice x2 l2 d2) (by omega)).setNe (g' := w.heap.size + 1 + 1) (j := 2) (y := .slice x3 l3 d3) (by omega)).setNe (g' := w.heap.size + 1 + 1) (j := 3) (y := .slice x4 l4 d4) (by omega)
    have c2' := (((((c1'.set 0 (.int .i64 (16))).set 1 (.int .i64 (0))).set 2 (.int .i64 ((k : Int)))).set 3 (.int .i64 ((m1 : Int)))).set 4 (.slice r1 p1 t1)).set 5 (.slice r2 p2 t2)
    rw [hW5]
    exact ⟨a2', c2'⟩
  clear hW5 S10
  go_region
  rw [← HW5.out]
  obtain ⟨u0, u1, u2, u3⟩ := HPQ.out.1.four
  obtain ⟨v0, v1, v2, v3, v4, v5⟩ := HPQ.out.2.six
  clear p0' p1' p2' p3' q0' q1' q2' q3' q4' q5' fp0 fp1 fp2 fp3 fq0 fq1 fq2 fq3 fq4 fq5 n0 n1 n2 n3 t0' t1' t2' t3' t4' t5'
  go_wp2
  refine bodyPost_ret (v := .tuple #[dv x1 x2 x3 x4 l1 l2 l3 l4 d1 d2 d3 d4, rp (16) (0) ((k : Int)) ((m1 : Int)) r1 r2 p1 p2 t1 t2]) (by simp [results, Try.results19, go_sem, u0, u1, u2, u3, v0, v1, v2, v3, v4, v5]) rfl ?_
  obtain ⟨o1, o2, o3, o4⟩ := HF.out
  exact ⟨_, _, _, _, _, _, _, _, _, _, _, _, _, _, _, _, _, _, rfl, o1.drew, o2.below (Below.refl _ _).drew, o3.below (Below.refl _ _).drew, HAp.out, o4.drew⟩

set_option maxRecDepth 20000 in
set_option maxHeartbeats 4000000 in
theorem specServe_6 (a1 a2 a3 a4 : Option Addr) (l1 l2 l3 l4 c1 c2 c3 c4 : Nat) (cs is : List Bool) (hs rs : List Int) (nn wa : Int) (q1 q2 : Option Addr) (m1 m2 k1 k2 : Nat) (ws : List Int) (bs : List Bool) (w : World) (hn : LnD l1 l2 l3 l4 cs is hs rs) (hs0 : SlD w a1 a2 a3 a4 cs is hs rs) (hsm : SmD 2000000 cs is hs rs) (hq : SlI w q1 ws) (hq2 : SlB w q2 bs) (h1 : m1 = ws.length) (h2 : m2 = bs.length) (hl : ws.length ≤ 2000000) (hl2 : bs.length ≤ 2000000) (k : Nat) (hpk : k + ws.length ≤ l3) (hok : okR 6 (k : Int) nn wa ws m1 m2 = true) (hd : okD l1 l2 l3 l4 hs rs = true) (hal : svAll l1 l2 l3 l4 6 (k : Int) nn wa m1 m2 = true) :
    Calls Try.prog 19 #[dv a1 a2 a3 a4 l1 l2 l3 l4 c1 c2 c3 c4, .agg #[.int .i64 6, .int .i64 (k : Int), .int .i64 nn, .slice q1 m1 k1, .slice q2 m2 k2, .int .i64 wa]] w fun e w' => SR w w' e cs is (wr hs k ws) rs 6 0 (k : Int) 0 ws [] := by
  obtain ⟨z, hz⟩ : ∃ z, z = (((w.alloc (.cells #[.slice a1 l1 c1, .slice a2 l2 c2, .slice a3 l3 c3, .slice a4 l4 c4] 36)).alloc (.cells #[.int .i64 6, .int .i64 (k : Int), .int .i64 nn, .slice q1 m1 k1, .slice q2 m2 k2, .int .i64 wa] 27)).alloc (.cells #[.slice none 0 0, .slice none 0 0, .slice none 0 0, .slice none 0 0] 36)).alloc (.cells #[.int .i64 0, .int .i64 0, .int .i64 0, .int .i64 0, .slice none 0 0, .slice none 0 0] 29) := ⟨_, rfl⟩
  have HZ : Hid (z = _) := hz
  have b0 : Below w.heap.size w z := by rw [hz]; exact bel_next (bel_next (bel_next (bel_alloc w _) (bel_alloc _ _)) (bel_alloc _ _)) (bel_alloc _ _)
  have X0 : Blk z w.heap.size 36 #[.slice a1 l1 c1, .slice a2 l2 c2, .slice a3 l3 c3, .slice a4 l4 c4] := by rw [hz]; exact (((Blk.new w _ _).below (bel_alloc _ _)).below (bel_alloc _ _)).below (bel_alloc _ _)
  have Y0 : Blk z (w.heap.size + 1) 27 #[.int .i64 6, .int .i64 (k : Int), .int .i64 nn, .slice q1 m1 k1, .slice q2 m2 k2, .int .i64 wa] := by rw [hz]; have := ((Blk.new (w.alloc (.cells #[.slice a1 l1 c1, .slice a2 l2 c2, .slice a3 l3 c3, .slice a4 l4 c4] 36)) #[.int .i64 6, .int .i64 (k : Int), .int .i64 nn, .slice q1 m1 k1, .slice q2 m2 k2, .int .i64 wa] 27).below (bel_alloc _ (.cells #[.slice none 0 0, .slice none 0 0, .slice none 0 0, .slice none 0 0] 36))).below (bel_alloc _ (.cells #[.int .i64 0, .int .i64 0, .int .i64 0, .int .i64 0, .slice none 0 0, .slice none 0 0] 29)); simpa using this
  have P0 : Blk z (w.heap.size + 1 + 1) 36 #[.slice none 0 0, .slice none 0 0, .slice none 0 0, .slice none 0 0] := by rw [hz]; have := (Blk.new ((w.alloc (.cells #[.slice a1 l1 c1, .slice a2 l2 c2, .slice a3 l3 c3, .slice a4 l4 c4] 36)).alloc (.cells #[.int .i64 6, .int .i64 (k : Int), .int .i64 nn, .slice q1 m1 k1, .slice q2 m2 k2, .int .i64 wa] 27)) #[.slice none 0 0, .slice none 0 0, .slice none 0 0, .slice none 0 0] 36).below (bel_alloc _ (.cells #[.int .i64 0, .int .i64 0, .int .i64 0, .int .i64 0, .slice none 0 0, .slice none 0 0] 29)); simpa using this
  have Q0 : Blk z (w.heap.size + 1 + 1 + 1) 29 #[.int .i64 0, .int .i64 0, .int .i64 0, .int .i64 0, .slice none 0 0, .slice none 0 0] := by rw [hz]; have := Blk.new (((w.alloc (.cells #[.slice a1 l1 c1, .slice a2 l2 c2, .slice a3 l3 c3, .slice a4 l4 c4] 36)).alloc (.cells #[.int .i64 6, .int .i64 (k : Int), .int .i64 nn, .slice q1 m1 k1, .slice q2 m2 k2, .int .i64 wa] 27)).alloc (.cells #[.slice none 0 0, .slice none 0 0, .slice none 0 0, .slice none 0 0] 36)) #[.int .i64 0, .int .i64 0, .int .i64 0, .int .i64 0, .slice none 0 0, .slice none 0 0] 29; simpa using this
  have HN : Hid (LnD l1 l2 l3 l4 cs is hs rs ∧ SmD 2000000 cs is hs rs ∧ SlD w a1 a2 a3 a4 cs is hs rs ∧ SlI w q1 ws ∧ SlB w q2 bs) := ⟨hn, hsm, hs0, hq, hq2⟩
  have HQ : Hid (m1 = ws.length ∧ m2 = bs.length ∧ ws.length ≤ 2000000 ∧ bs.length ≤ 2000000) := ⟨h1, h2, hl, hl2⟩
  have HB0 : Hid (Below w.heap.size w z) := b0
  have HZS : Hid (z.heap.size = w.heap.size + 1 + 1 + 1 + 1) := by show _ = _; rw [hz]; simp
  obtain ⟨x0', x1', x2', x3'⟩ := X0.four
  clear hz hn hs0 hsm hq hq2 h1 h2 hl hl2
  go_enter Try.func19, Try.ntmps19
  go_upto_region 1 with fail
  rw [← HZ.out]
  go_wp2_with fail
  refine (l5Copy_any a1 a2 a3 a4 l1 l2 l3 l4 c1 c2 c3 c4 cs is hs rs _ HN.out.1 (HN.out.2.2.1.below b0) HN.out.2.1).mono ?_
  rintro e w1 ⟨x1, x2, x3, x4, d1, d2, d3, d4, rfl, o1, b'⟩
  have b1 := bel_next b0 b'
  have bz1 := b'
  have X1 := X0.below b'
  have Y1 := Y0.below b'
  have P1 := P0.below b'
  have Q1 := Q0.below b'
  have HG6 : Hid (z.heap.size ≤ w1.heap.size) := b'.size
  clear x0' x1' x2' x3' X0 Y0 P0 Q0 b0 b'
  have b' := bel_alloc w1 (.cells #[.slice x1 l1 d1, .slice x2 l2 d2, .slice x3 l3 d3, .slice x4 l4 d4] 36)
  have N' := Blk.new w1 #[.slice x1 l1 d1, .slice x2 l2 d2, .slice x3 l3 d3, .slice x4 l4 d4] 36
  obtain ⟨w2, hw2⟩ : ∃ x, x = w1.alloc (.cells #[.slice x1 l1 d1, .slice x2 l2 d2, .slice x3 l3 d3, .slice x4 l4 d4] 36) := ⟨_, rfl⟩
  rw [← hw2] at b' N'
  have HW2 : Hid (w2 = _) := hw2
  obtain ⟨G6, hBN⟩ : ∃ x, x = w1.heap.size := ⟨_, rfl⟩
  rw [← hBN] at N'
  have HBN : Hid (G6 = w1.heap.size) := hBN
  have S2 : ∀ G7 tc, G6 < G7 → Blk w2 G7 29 tc → True := fun _ _ _ _ => trivial
  have b2 := bel_next b1 b'
  have bz2 := bel_next bz1 b'
  have X2 := X1.below b'
  have Y2 := Y1.below b'
  have P2 := P1.below b'
  have Q2 := Q1.below b'
  have o2 := o1.below b'
  clear hw2 hBN b1 bz1 X1 Y1 P1 Q1 o1 b' S2
  obtain ⟨x0', x1', x2', x3'⟩ := X2.four
  go_upto_region 2 with fail
  rw [← HW2.out]
  simp only [← HBN.out]

  have HD : Hid (okD l1 l2 l3 l4 hs rs = true) := hd
  have HOK : Hid (okR 6 (k : Int) nn wa ws m1 m2 = true) := hok
  have HAL : Hid (svAll l1 l2 l3 l4 6 (k : Int) nn wa m1 m2 = true) := hal
  have HLM : Hid (l1 ≤ 2000000 ∧ l2 ≤ 2000000 ∧ l3 ≤ 2000000 ∧ l4 ≤ 2000000) := by have := okD_len hd; show _ ∧ _ ∧ _ ∧ _; omega
  clear hd hok hal
  go_wp2_with fail
  refine (specDeviceOk_any a1 a2 a3 a4 l1 l2 l3 l4 c1 c2 c3 c4 cs is hs rs _ HN.out.1 (HN.out.2.2.1.below b2) HN.out.2.1 true HD.out).mono ?_
  rintro e w3 ⟨rfl, b'⟩
  have b3 := bel_next b2 b'
  have bz3 := bel_next bz2 b'
  have X3 := X2.below b'
  have Y3 := Y2.below b'
  have P3 := P2.below b'
  have Q3 := Q2.below b'
  have N3 := N'.below b'
  have o3 := o2.below b'
  clear x0' x1' x2' x3' X2 Y2 P2 Q2 N' o2 b2 bz2 b'
  obtain ⟨x0', x1', x2', x3'⟩ := X3.four
  obtain ⟨y0', y1', y2', y3', y4', y5'⟩ := Y3.six

  go_wp2_with fail
  refine (specReqOk_q 6 (k : Int) nn wa q1 q2 m1 m2 k1 k2 ws bs _ HQ.out.1 HQ.out.2.1 (HN.out.2.2.2.1.below b3) (HN.out.2.2.2.2.below b3) HQ.out.2.2.1 HQ.out.2.2.2).mono ?_
  rintro e w4 ⟨he, b'⟩
  rw [HOK.out] at he
  subst he
  have b4 := bel_next b3 b'
  have bz4 := bel_next bz3 b'
  have X4 := X3.below b'
  have Y4 := Y3.below b'
  have P4 := P3.below b'
  have Q4 := Q3.below b'
  have N4 := N3.below b'
  have o4 := o3.below b'
  clear x0' x1' x2' x3' y0' y1' y2' y3' y4' y5' X3 Y3 P3 Q3 N3 o3 b3 bz3 b'
  obtain ⟨x0', x1', x2', x3'⟩ := X4.four
  obtain ⟨y0', y1', y2', y3', y4', y5'⟩ := Y4.six

  go_wp2_with fail
  refine (l5There_any a1 a2 a3 a4 l1 l2 l3 l4 c1 c2 c3 c4 6 (k : Int) nn wa q1 q2 m1 m2 k1 k2 ws bs _ HQ.out.1 HQ.out.2.1 (HN.out.2.2.2.1.below b4) (HN.out.2.2.2.2.below b4) HQ.out.2.2.1 HQ.out.2.2.2 HOK.out HLM.out.1 HLM.out.2.1 HLM.out.2.2.1 HLM.out.2.2.2 true HAL.out).mono ?_
  rintro e w5 ⟨rfl, b'⟩
  have b5 := bel_next b4 b'
  have bz5 := bel_next bz4 b'
  have X5 := X4.below b'
  have Y5 := Y4.below b'
  have P5 := P4.below b'
  have Q5 := Q4.below b'
  have N5 := N4.below b'
  have o5 := o4.below b'
  clear x0' x1' x2' x3' y0' y1' y2' y3' y4' y5' X4 Y4 P4 Q4 N4 o4 b4 bz4 b'
  obtain ⟨y0', y1', y2', y3', y4', y5'⟩ := Y5.six

  have b' := bel_alloc w5 (.cells #[.int .i64 6, .int .i64 0, .int .i64 0, .int .i64 0, .slice none 0 0, .slice none 0 0] 29)
  have T' := Blk.new w5 #[.int .i64 6, .int .i64 0, .int .i64 0, .int .i64 0, .slice none 0 0, .slice none 0 0] 29
  obtain ⟨w6, hw6⟩ : ∃ x, x = w5.alloc (.cells #[.int .i64 6, .int .i64 0, .int .i64 0, .int .i64 0, .slice none 0 0, .slice none 0 0] 29) := ⟨_, rfl⟩
  rw [← hw6] at b' T'
  have HW6 : Hid (w6 = _) := hw6
  obtain ⟨G7, hG7⟩ : ∃ x, x = w5.heap.size := ⟨_, rfl⟩
  rw [← hG7] at T'
  have HG7 : Hid (G7 = w5.heap.size) := hG7
  have S6 : SS w #[.slice a1 l1 c1, .slice a2 l2 c2, .slice a3 l3 c3, .slice a4 l4 c4] #[.int .i64 6, .int .i64 (k : Int), .int .i64 nn, .slice q1 m1 k1, .slice q2 m2 k2, .int .i64 wa] z G6 G7 x1 x2 x3 x4 l1 l2 l3 l4 d1 d2 d3 d4 is rs cs hs #[.int .i64 6, .int .i64 0, .int .i64 0, .int .i64 0, .slice none 0 0, .slice none 0 0] w6 := ⟨X5.below b', Y5.below b', P5.below b', Q5.below b', N5.below b', T', o5.below b', bel_next b5 b', bel_next bz5 b', HZS.out, by have := HG6.out; have := HBN.out; omega, by rw [hG7]; exact N5.lt⟩
  clear X5 Y5 P5 Q5 N5 o5 b5 bz5 b' T' hw6 hG7
  go_upto_region 7 with fail
  clear y0' y1' y2' y3' y4' y5'
  rw [← HW6.out]
  simp only [← HG7.out]
  clear HW6 HG7 HW2 HBN HZ

  have HK : Hid (k + ws.length ≤ l3) := hpk
  have HXL : Hid (ws.length ≤ 2000000) := HQ.out.2.2.1
  have im1 : (m1 : Int) ≤ 2000000 := by have := HQ.out; omega
  clear hpk
  obtain ⟨x0', x1', x2', x3'⟩ := S6.X.four
  obtain ⟨y0', y1', y2', y3', y4', y5'⟩ := S6.Y.six
  obtain ⟨n0', n1', n2', n3'⟩ := S6.N.four
  obtain ⟨t0', t1', t2', t3', t4', t5'⟩ := S6.T.six
  have ft0 := S6.T.fro 0
  have ft1 := S6.T.fro 1
  have ft2 := S6.T.fro 2
  have ft3 := S6.T.fro 3
  have ft4 := S6.T.fro 4
  have ft5 := S6.T.fro 5

  go_wp2_with fail
  refine (l5Write_any x1 x2 x3 x4 l1 l2 l3 l4 d1 d2 d3 d4 cs is hs rs k q1 m1 k1 ws z _ S6.belz S6.D HQ.out.1 (HN.out.2.2.2.1.below HB0.out) HK.out HLM.out.2.2.1).mono ?_
  rintro e w7 ⟨rfl, D7, _, C7⟩
  have S7 := S6.chg C7 D7
  clear D7 C7 S6
  clear x0' x1' x2' x3' y0' y1' y2' y3' y4' y5' n0' n1' n2' n3' t0' t1' t2' t3' t4' t5' ft0 ft1 ft2 ft3 ft4 ft5

  obtain ⟨x0', x1', x2', x3'⟩ := S7.X.four
  obtain ⟨y0', y1', y2', y3', y4', y5'⟩ := S7.Y.six
  obtain ⟨n0', n1', n2', n3'⟩ := S7.N.four
  obtain ⟨t0', t1', t2', t3', t4', t5'⟩ := S7.T.six
  have ft0 := S7.T.fro 0
  have ft1 := S7.T.fro 1
  have ft2 := S7.T.fro 2
  have ft3 := S7.T.fro 3
  have ft4 := S7.T.fro 4
  have ft5 := S7.T.fro 5

  go_upto_region 29 with fail
  have S8' := S7.setT 2 (.int .i64 (k : Int))
  obtain ⟨wq, hwq⟩ : ∃ x, x = w7.setCell ⟨G7, 2, none⟩ (.int .i64 (k : Int)) := ⟨_, rfl⟩
  rw [← hwq] at S8' ⊢
  have S8 : SS w #[.slice a1 l1 c1, .slice a2 l2 c2, .slice a3 l3 c3, .slice a4 l4 c4] #[.int .i64 6, .int .i64 (k : Int), .int .i64 nn, .slice q1 m1 k1, .slice q2 m2 k2, .int .i64 wa] z G6 G7 x1 x2 x3 x4 l1 l2 l3 l4 d1 d2 d3 d4 is rs cs (wr hs k ws) #[.int .i64 6, .int .i64 0, .int .i64 (k : Int), .int .i64 0, .slice none 0 0, .slice none 0 0] wq := S8'
  clear hwq S8' S7
  clear x0' x1' x2' x3' y0' y1' y2' y3' y4' y5' n0' n1' n2' n3' t0' t1' t2' t3' t4' t5' ft0 ft1 ft2 ft3 ft4 ft5

  have oL : OwnI (wq.alloc (.cells #[] 3)) wq.heap.size (.slice (some ⟨wq.heap.size, 0, none⟩) 0 0) [] := ⟨rfl, .inr ⟨wq.heap.size, 0, #[], rfl, Nat.le_refl _, Blk.new wq #[] 3, by simp, by simp, rfl, rfl⟩⟩
  have SL := S8.below (bel_alloc wq (.cells #[] 3))

  obtain ⟨x0', x1', x2', x3'⟩ := SL.X.four
  obtain ⟨y0', y1', y2', y3', y4', y5'⟩ := SL.Y.six
  obtain ⟨n0', n1', n2', n3'⟩ := SL.N.four
  obtain ⟨t0', t1', t2', t3', t4', t5'⟩ := SL.T.six
  have ft0 := SL.T.fro 0
  have ft1 := SL.T.fro 1
  have ft2 := SL.T.fro 2
  have ft3 := SL.T.fro 3
  have ft4 := SL.T.fro 4
  have ft5 := SL.T.fro 5

  go_upto_region 41 with (at_builtin; obtain ⟨vA, uA, hr, oA, bA, _, r1, t1, hv⟩ := app0I (wq.alloc (.cells #[] 3)) wq.heap.size wq.heap.size (q1) m1 (k1) ws HQ.out.1 (HN.out.2.2.2.1.below (bel_next S8.bel (bel_alloc _ _))) HXL.out (Nat.le_refl _) oL; refine Lib.wpList_append_run _ rfl (.tmp 133) (.tmp 135) _ _ rfl _ _ rfl rfl _ _ hr ?_; subst hv; have SA := SL.below bA; have HAp : Hid (∀ g, (Of4 (.slice x1 l1 d1) (.slice x2 l2 d2) (.slice x3 l3 d3) (.slice x4 l4 d4)) g → ¬ Of2 (.slice r1 m1 t1) (.slice none 0 0) g) := S8.apart oA (ownB_nil0 _ _); have HOA : Hid (OwnI (uA.setCell ⟨G7, 4, none⟩ (.slice r1 m1 t1)) w.heap.size (.slice r1 m1 t1) ws) := row_setE (oA.mono S8.bel.size) ⟨_, SA.T⟩ (by decide); have SB := SA.setT 4 (.slice r1 m1 t1); obtain ⟨s0', s1', s2', s3', s4', s5'⟩ := SA.T.six; have fs := SA.T.fro 4; clear hr oA bA oL)

  obtain ⟨w8, hw8⟩ : ∃ x, x = uA.setCell ⟨G7, 4, none⟩ (.slice r1 m1 t1) := ⟨_, rfl⟩
  rw [← hw8] at SB HOA ⊢
  have S9 : SS w #[.slice a1 l1 c1, .slice a2 l2 c2, .slice a3 l3 c3, .slice a4 l4 c4] #[.int .i64 6, .int .i64 (k : Int), .int .i64 nn, .slice q1 m1 k1, .slice q2 m2 k2, .int .i64 wa] z G6 G7 x1 x2 x3 x4 l1 l2 l3 l4 d1 d2 d3 d4 is rs cs (wr hs k ws) #[.int .i64 6, .int .i64 0, .int .i64 (k : Int), .int .i64 0, .slice r1 m1 t1, .slice none 0 0] w8 := SB
  clear hw8 SB SA SL S8 s0' s1' s2' s3' s4' s5' fs
  clear x0' x1' x2' x3' y0' y1' y2' y3' y4' y5' n0' n1' n2' n3' t0' t1' t2' t3' t4' t5' ft0 ft1 ft2 ft3 ft4 ft5

  have OI := HOA
  obtain ⟨r2, p2, t2, hr2⟩ : ∃ (r2 : Option Addr) (p2 t2 : Nat), Value.slice r2 p2 t2 = .slice none 0 0 := ⟨none, 0, 0, rfl⟩
  rw [← hr2] at S9 HAp
  have OB : Hid (OwnB w8 w.heap.size (.slice r2 p2 t2) []) := by rw [hr2]; exact ownB_nil0 _ _
  clear hr2
  obtain ⟨p1, hp1⟩ : ∃ p1, p1 = m1 := ⟨_, rfl⟩
  have S10 : SS w #[.slice a1 l1 c1, .slice a2 l2 c2, .slice a3 l3 c3, .slice a4 l4 c4] #[.int .i64 6, .int .i64 (k : Int), .int .i64 nn, .slice q1 m1 k1, .slice q2 m2 k2, .int .i64 wa] z G6 G7 x1 x2 x3 x4 l1 l2 l3 l4 d1 d2 d3 d4 is rs cs (wr hs k ws) #[.int .i64 6, .int .i64 0, .int .i64 (k : Int), .int .i64 0, .slice r1 p1 t1, .slice r2 p2 t2] w8 := by rw [hp1]; exact S9
  rw [← hp1] at HAp OI
  clear S9 HOA hp1
  have N4 := S10.N
  have T' := S10.T
  have P4 := S10.P
  have Q4 := S10.Q
  have HH : Hid (OwnD w8 w.heap.size x1 x2 x3 x4 l1 l2 l3 l4 d1 d2 d3 d4 cs is (wr hs k ws) rs ∧ OwnI w8 w.heap.size (.slice r1 p1 t1) ws ∧ OwnB w8 w.heap.size (.slice r2 p2 t2) [] ∧ Below w.heap.size w w8 ∧ ExB w8 (w.heap.size + 1 + 1) 36 ∧ ExB w8 (w.heap.size + 1 + 1 + 1) 29) := ⟨S10.D.mono (by have := S10.zb0; omega), OI.out, OB.out, S10.bel, ⟨_, P4⟩, ⟨_, Q4⟩⟩
  have lN : w.heap.size + 1 + 1 + 1 + 1 ≤ G6 := by have := S10.zb0; have := S10.g6; omega
  have lT : w.heap.size + 1 + 1 + 1 + 1 ≤ G7 := by have := S10.g7; omega
  obtain ⟨n0, n1, n2, n3⟩ := N4.four
  obtain ⟨t0', t1', t2', t3', t4', t5'⟩ := T'.six
  obtain ⟨p0', p1', p2', p3'⟩ := P4.four
  obtain ⟨q0', q1', q2', q3', q4', q5'⟩ := Q4.six
  have fp0 := P4.fro 0
  have fp1 := P4.fro 1
  have fp2 := P4.fro 2
  have fp3 := P4.fro 3
  have fq0 := Q4.fro 0
  have fq1 := Q4.fro 1
  have fq2 := Q4.fro 2
  have fq3 := Q4.fro 3
  have fq4 := Q4.fro 4
  have fq5 := Q4.fro 5
  have e1 : ¬ (G6 = w.heap.size + 1 + 1) := by omega
  have e2 : ¬ (G6 = w.heap.size + 1 + 1 + 1) := by omega
  have e3 : ¬ (G7 = w.heap.size + 1 + 1) := by omega
  have e4 : ¬ (G7 = w.heap.size + 1 + 1 + 1) := by omega
  have e1' : ¬ (w.heap.size + 1 + 1 = G6) := by omega
  have e2' : ¬ (w.heap.size + 1 + 1 + 1 = G6) := by omega
  have e3' : ¬ (w.heap.size + 1 + 1 = G7) := by omega
  have e4' : ¬ (w.heap.size + 1 + 1 + 1 = G7) := by omega
  clear lN lT
  obtain ⟨W5, hW5⟩ : ∃ x, x = ((((((((((w8.setCell ⟨w.heap.size + 1 + 1, 0, none⟩ (.slice x1 l1 d1)).setCell ⟨w.heap.size + 1 + 1, 1, none⟩ (.slice x2 l2 d2)).setCell ⟨w.heap.size + 1 + 1, 2, none⟩ (.slice x3 l3 d3)).setCell ⟨w.heap.size + 1 + 1, 3, none⟩ (.slice x4 l4 d4)).setCell ⟨w.heap.size + 1 + 1 + 1, 0, none⟩ (.int .i64 (6))).setCell ⟨w.heap.size + 1 + 1 + 1, 1, none⟩ (.int .i64 (0))).setCell ⟨w.heap.size + 1 + 1 + 1, 2, none⟩ (.int .i64 ((k : Int)))).setCell ⟨w.heap.size + 1 + 1 + 1, 3, none⟩ (.int .i64 (0))).setCell ⟨w.heap.size + 1 + 1 + 1, 4, none⟩ (.slice r1 p1 t1)).setCell ⟨w.heap.size + 1 + 1 + 1, 5, none⟩ (.slice r2 p2 t2)) := ⟨_, rfl⟩
  have HW5 : Hid (W5 = _) := hW5
  have HF : Hid (OwnD W5 w.heap.size x1 x2 x3 x4 l1 l2 l3 l4 d1 d2 d3 d4 cs is (wr hs k ws) rs ∧ OwnI W5 w.heap.size (.slice r1 p1 t1) ws ∧ OwnB W5 w.heap.size (.slice r2 p2 t2) [] ∧ Below w.heap.size w W5) := by
    obtain ⟨o1, o2, o3, o4, o5, o6⟩ := HH.out
    have x6 : ∀ v0 v1 v2 v3 : Value, ExB ((((w8.setCell ⟨w.heap.size + 1 + 1, 0, none⟩ v0).setCell ⟨w.heap.size + 1 + 1, 1, none⟩ v1).setCell ⟨w.heap.size + 1 + 1, 2, none⟩ v2).setCell ⟨w.heap.size + 1 + 1, 3, none⟩ v3) (w.heap.size + 1 + 1 + 1) 29 := fun _ _ _ _ => ExB.set (ExB.set (ExB.set (ExB.set o6)))
    rw [hW5]
    exact ⟨(o1.set4 o5 (by decide) (by decide)).set6 (x6 _ _ _ _) (by decide) (by decide), rowp_set6 (row_set4 o2 o5 (by decide)) (x6 _ _ _ _) (by decide), rowp_set6 (row_set4 o3 o5 (by decide)) (x6 _ _ _ _) (by decide), belp_set6 (bel_set4 o4 (by omega)) (by omega)⟩
  have HPQ : Hid (Blk W5 (w.heap.size + 1 + 1) 36 #[.slice x1 l1 d1, .slice x2 l2 d2, .slice x3 l3 d3, .slice x4 l4 d4] ∧ Blk W5 (w.heap.size + 1 + 1 + 1) 29 #[.int .i64 6, .int .i64 0, .int .i64 (k : Int), .int .i64 0, .slice r1 p1 t1, .slice r2 p2 t2]) := by
    have a1' := (((P4.set 0 (.slice x1 l1 d1)).set 1 (.slice x2 l2 d2)).set 2 (.slice x3 l3 d3)).set 3 (.slice x4 l4 d4)
    have a2' := (((((a1'.setNe (g' := w.heap.size + 1 + 1 + 1) (j := 0) (y := .int .i64 (6)) (by omega)).setNe (g' := w.heap.size + 1 + 1 + 1) (j := 1) (y := .int .i64 (0)) (by omega)).setNe (g' := w.heap.size + 1 + 1 + 1) (j := 2) (y := .int .i64 ((k : Int))) (by omega)).setNe (g' := w.heap.size + 1 + 1 + 1) (j := 3) (y := .int .i64 (0)) (by omega)).setNe (g' := w.heap.size + 1 + 1 + 1) (j := 4) (y := .slice r1 p1 t1) (by omega)).setNe (g' := w.heap.size + 1 + 1 + 1) (j := 5) (y := .slice r2 p2 t2) (by omega)
    have c1' := (((Q4.setNe (g' := w.heap.size + 1 + 1) (j := 0) (y := .slice x1 l1 d1) (by omega)).setNe (g' := w.heap.size + 1 + 1) (j := 1) (y := .slice x2 l2 d2) (by omega)).setNe (g' := w.heap.size + 1 + 1) (j := 2) (y := .slice x3 l3 d3) (by omega)).setNe (g' := w.heap.size + 1 + 1) (j := 3) (y := .slice x4 l4 d4) (by omega)
    have c2' := (((((c1'.set 0 (.int .i64 (6))).set 1 (.int .i64 (0))).set 2 (.int .i64 ((k : Int)))).set 3 (.int .i64 (0))).set 4 (.slice r1 p1 t1)).set 5 (.slice r2 p2 t2)
    rw [hW5]
    exact ⟨a2', c2'⟩
  clear hW5 S10
  go_region
  rw [← HW5.out]
  obtain ⟨u0, u1, u2, u3⟩ := HPQ.out.1.four
  obtain ⟨v0, v1, v2, v3, v4, v5⟩ := HPQ.out.2.six
  clear p0' p1' p2' p3' q0' q1' q2' q3' q4' q5' fp0 fp1 fp2 fp3 fq0 fq1 fq2 fq3 fq4 fq5 n0 n1 n2 n3 t0' t1' t2' t3' t4' t5'
  go_wp2
  refine bodyPost_ret (v := .tuple #[dv x1 x2 x3 x4 l1 l2 l3 l4 d1 d2 d3 d4, rp (6) (0) ((k : Int)) (0) r1 r2 p1 p2 t1 t2]) (by simp [results, Try.results19, go_sem, u0, u1, u2, u3, v0, v1, v2, v3, v4, v5]) rfl ?_
  obtain ⟨o1, o2, o3, o4⟩ := HF.out
  exact ⟨_, _, _, _, _, _, _, _, _, _, _, _, _, _, _, _, _, _, rfl, o1.drew, o2.below (Below.refl _ _).drew, o3.below (Below.refl _ _).drew, HAp.out, o4.drew⟩

end Go.Proofs.Ytfcbkollmhjdoaa

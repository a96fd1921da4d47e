/- A device that is copied, by the model. -/
import Derived.Test.YtmbkfoemhnhoiaaDev21
namespace Go.Proofs.Ytmbkfoemhnhoiaa
open Go.RowKit

set_option linter.unusedVariables false

set_option linter.unusedSimpArgs false

theorem Df.fresh {w : World} {B s n : Nat} {e : TypeId} {v u : Value} {xs : List Value} (hv : v.ownBlock = some w.heap.size) (hu : w.ownsRow B e s u n xs) : Df v u := by
  rcases h : u.ownBlock with _ | k
  · exact .inr (.inl h)
  · refine .inr (.inr ?_)
    rw [hv, h]
    have := (World.ownsRow.lt hu k h).2
    simp; omega

structure CI (w : World) (a1 a2 a3 a4 : Option Addr) (l1 l2 l3 l4 c1 c2 c3 c4 : Nat) (cs is : List Bool) (hs rs : List Int) (b0 b1 b2 b3 b4 b5 b6 b7 b8 b9 b10 b11 b12 b13 b14 b15 b16 b17 : Bool) (t3 t4 t5 t6 t7 t8 t9 t10 t11 t12 t13 t14 t15 t16 t17 t18 t19 : Value) (u : World) : Prop where
  f0 : b0 = true → ∃ g, t3 = .slice (some ⟨g, 0, none⟩) 0 0 ∧ w.heap.size ≤ g ∧ OwnB u w.heap.size t3 []
  f1 : b1 = true → t4 = .pointer (some ⟨w.heap.size, 0, none⟩)
  f2 : b2 = true → t5 = .slice a1 l1 c1
  f3 : b3 = true → (∃ a' c', t6 = .slice a' l1 c') ∧ OwnB u w.heap.size t6 cs
  f4 : b4 = true → ∃ g, t7 = .slice (some ⟨g, 0, none⟩) 0 0 ∧ w.heap.size ≤ g ∧ OwnB u w.heap.size t7 []
  f5 : b5 = true → t8 = .pointer (some ⟨w.heap.size, 1, none⟩)
  f6 : b6 = true → t9 = .slice a2 l2 c2
  f7 : b7 = true → (∃ a' c', t10 = .slice a' l2 c') ∧ OwnB u w.heap.size t10 is
  f8 : b8 = true → ∃ g, t11 = .slice (some ⟨g, 0, none⟩) 0 0 ∧ w.heap.size ≤ g ∧ OwnI u w.heap.size t11 []
  f9 : b9 = true → t12 = .pointer (some ⟨w.heap.size, 2, none⟩)
  f10 : b10 = true → t13 = .slice a3 l3 c3
  f11 : b11 = true → (∃ a' c', t14 = .slice a' l3 c') ∧ OwnI u w.heap.size t14 hs
  f12 : b12 = true → ∃ g, t15 = .slice (some ⟨g, 0, none⟩) 0 0 ∧ w.heap.size ≤ g ∧ OwnI u w.heap.size t15 []
  f13 : b13 = true → t16 = .pointer (some ⟨w.heap.size, 3, none⟩)
  f14 : b14 = true → t17 = .slice a4 l4 c4
  f15 : b15 = true → (∃ a' c', t18 = .slice a' l4 c') ∧ OwnI u w.heap.size t18 rs
  f16 : b16 = true → t19 = .agg #[t6, t10, t14, t18]
  g16 : b16 = true → b3 = true ∧ b7 = true ∧ b11 = true ∧ b15 = true
  g17 : b17 = true → b16 = true
  f17 : b17 = true → Blk u (w.heap.size + 1) 36 #[t6, t10, t14, t18]
  z17 : b17 = false → Blk u (w.heap.size + 1) 36 #[.slice none 0 0, .slice none 0 0, .slice none 0 0, .slice none 0 0]
  d0_4 : b0 = true → b4 = true → Df t3 t7
  d0_7 : b0 = true → b7 = true → Df t3 t10
  d3_4 : b3 = true → b4 = true → Df t6 t7
  d3_7 : b3 = true → b7 = true → Df t6 t10
  d8_12 : b8 = true → b12 = true → Df t11 t15
  d8_15 : b8 = true → b15 = true → Df t11 t18
  d11_12 : b11 = true → b12 = true → Df t14 t15
  d11_15 : b11 = true → b15 = true → Df t14 t18
  bx : Blk u w.heap.size 36 #[.slice a1 l1 c1, .slice a2 l2 c2, .slice a3 l3 c3, .slice a4 l4 c4]
  bel : Below w.heap.size w u

theorem CI.below {w : World} {a1 a2 a3 a4 : Option Addr} {l1 l2 l3 l4 c1 c2 c3 c4 : Nat} {cs is : List Bool} {hs rs : List Int} {b0 b1 b2 b3 b4 b5 b6 b7 b8 b9 b10 b11 b12 b13 b14 b15 b16 b17 : Bool} {t3 t4 t5 t6 t7 t8 t9 t10 t11 t12 t13 t14 t15 t16 t17 t18 t19 : Value} {u u' : World} (F : CI w a1 a2 a3 a4 l1 l2 l3 l4 c1 c2 c3 c4 cs is hs rs b0 b1 b2 b3 b4 b5 b6 b7 b8 b9 b10 b11 b12 b13 b14 b15 b16 b17 t3 t4 t5 t6 t7 t8 t9 t10 t11 t12 t13 t14 t15 t16 t17 t18 t19 u) (hb : Below u.heap.size u u') : CI w a1 a2 a3 a4 l1 l2 l3 l4 c1 c2 c3 c4 cs is hs rs b0 b1 b2 b3 b4 b5 b6 b7 b8 b9 b10 b11 b12 b13 b14 b15 b16 b17 t3 t4 t5 t6 t7 t8 t9 t10 t11 t12 t13 t14 t15 t16 t17 t18 t19 u' where
  f0 := fun h => by obtain ⟨g, e, h1, o⟩ := F.f0 h; exact ⟨g, e, h1, o.below hb⟩
  f1 := F.f1
  f2 := F.f2
  f3 := fun h => ⟨(F.f3 h).1, (F.f3 h).2.below hb⟩
  f4 := fun h => by obtain ⟨g, e, h1, o⟩ := F.f4 h; exact ⟨g, e, h1, o.below hb⟩
  f5 := F.f5
  f6 := F.f6
  f7 := fun h => ⟨(F.f7 h).1, (F.f7 h).2.below hb⟩
  f8 := fun h => by obtain ⟨g, e, h1, o⟩ := F.f8 h; exact ⟨g, e, h1, o.below hb⟩
  f9 := F.f9
  f10 := F.f10
  f11 := fun h => ⟨(F.f11 h).1, (F.f11 h).2.below hb⟩
  f12 := fun h => by obtain ⟨g, e, h1, o⟩ := F.f12 h; exact ⟨g, e, h1, o.below hb⟩
  f13 := F.f13
  f14 := F.f14
  f15 := fun h => ⟨(F.f15 h).1, (F.f15 h).2.below hb⟩
  f16 := F.f16
  g16 := F.g16
  g17 := F.g17
  f17 := fun h => (F.f17 h).below hb
  z17 := fun h => (F.z17 h).below hb
  d0_4 := F.d0_4
  d0_7 := F.d0_7
  d3_4 := F.d3_4
  d3_7 := F.d3_7
  d8_12 := F.d8_12
  d8_15 := F.d8_15
  d11_12 := F.d11_12
  d11_15 := F.d11_15
  bx := F.bx.below hb
  bel := bel_next F.bel hb

def CInv (w : World) (a1 a2 a3 a4 : Option Addr) (l1 l2 l3 l4 c1 c2 c3 c4 : Nat) (cs is : List Bool) (hs rs : List Int) (l : Array Bool) (act : Act) (u : World) : Prop :=
  ∃ b0 b1 b2 b3 b4 b5 b6 b7 b8 b9 b10 b11 b12 b13 b14 b15 b16 b17 : Bool, l = #[b0, b1, b2, b3, b4, b5, b6, b7, b8, b9, b10, b11, b12, b13, b14, b15, b16, b17] ∧ ∃ t3 t4 t5 t6 t7 t8 t9 t10 t11 t12 t13 t14 t15 t16 t17 t18 t19 : Value, act = { tmps := #[dv a1 a2 a3 a4 l1 l2 l3 l4 c1 c2 c3 c4, .pointer (some ⟨w.heap.size, 0, none⟩), .pointer (some ⟨w.heap.size + 1, 0, none⟩), t3, t4, t5, t6, t7, t8, t9, t10, t11, t12, t13, t14, t15, t16, t17, t18, t19], defers := [] } ∧ CI w a1 a2 a3 a4 l1 l2 l3 l4 c1 c2 c3 c4 cs is hs rs b0 b1 b2 b3 b4 b5 b6 b7 b8 b9 b10 b11 b12 b13 b14 b15 b16 b17 t3 t4 t5 t6 t7 t8 t9 t10 t11 t12 t13 t14 t15 t16 t17 t18 t19 u

set_option maxRecDepth 20000 in
set_option maxHeartbeats 4000000 in
theorem l5Copy_any (a1 a2 a3 a4 : Option Addr) (l1 l2 l3 l4 c1 c2 c3 c4 : Nat) (cs is : List Bool) (hs rs : List Int) (w : World) (hn : LnD l1 l2 l3 l4 cs is hs rs) (hs0 : SlD w a1 a2 a3 a4 cs is hs rs) (hsm : SmD 2000000 cs is hs rs) :
    Calls Try.prog 74 #[dv a1 a2 a3 a4 l1 l2 l3 l4 c1 c2 c3 c4] w fun e w' => ∃ x1 x2 x3 x4 d1 d2 d3 d4, e = .returned (dv x1 x2 x3 x4 l1 l2 l3 l4 d1 d2 d3 d4) ∧ OwnD w' w.heap.size x1 x2 x3 x4 l1 l2 l3 l4 d1 d2 d3 d4 cs is hs rs ∧ Below w.heap.size w w' := by
  obtain ⟨z, hz⟩ : ∃ z, z = (w.alloc (.cells #[.slice a1 l1 c1, .slice a2 l2 c2, .slice a3 l3 c3, .slice a4 l4 c4] 36)).alloc (.cells #[.slice none 0 0, .slice none 0 0, .slice none 0 0, .slice none 0 0] 36) := ⟨_, rfl⟩
  have HZ : Hid (z = _) := hz
  have b0 : Below w.heap.size w z := by rw [hz]; exact bel_next (bel_alloc w _) (bel_alloc _ _)
  have X0 : Blk z w.heap.size 36 #[.slice a1 l1 c1, .slice a2 l2 c2, .slice a3 l3 c3, .slice a4 l4 c4] := by rw [hz]; exact (Blk.new w _ _).below (bel_alloc _ _)
  have R0 : Blk z (w.heap.size + 1) 36 #[.slice none 0 0, .slice none 0 0, .slice none 0 0, .slice none 0 0] := by rw [hz]; have := Blk.new (w.alloc (.cells #[.slice a1 l1 c1, .slice a2 l2 c2, .slice a3 l3 c3, .slice a4 l4 c4] 36)) #[.slice none 0 0, .slice none 0 0, .slice none 0 0, .slice none 0 0] 36; simpa using this
  have HN : Hid (LnD l1 l2 l3 l4 cs is hs rs ∧ SlD w a1 a2 a3 a4 cs is hs rs ∧ SmD 2000000 cs is hs rs) := ⟨hn, hs0, hsm⟩
  clear hz hn hs0 hsm
  go_enter Try.func74, Try.ntmps74
  go_upto_region 1 with fail
  rw [← HZ.out]
  refine wp_region_any (by kernel_rfl) ?_
  refine wpAny_inv (CInv w a1 a2 a3 a4 l1 l2 l3 l4 c1 c2 c3 c4 cs is hs rs) ?_ ?_ ?_ _ _ _ _ rfl (by decide) ?_
  · kernel_rfl
  · rintro l act u ⟨b0, b1, b2, b3, b4, b5, b6, b7, b8, b9, b10, b11, b12, b13, b14, b15, b16, b17, rfl, t3, t4, t5, t6, t7, t8, t9, t10, t11, t12, t13, t14, t15, t16, t17, t18, t19, rfl, F⟩ hall
    obtain rfl : b0 = true := hall 0 (by simp)
    obtain rfl : b1 = true := hall 1 (by simp)
    obtain rfl : b2 = true := hall 2 (by simp)
    obtain rfl : b3 = true := hall 3 (by simp)
    obtain rfl : b4 = true := hall 4 (by simp)
    obtain rfl : b5 = true := hall 5 (by simp)
    obtain rfl : b6 = true := hall 6 (by simp)
    obtain rfl : b7 = true := hall 7 (by simp)
    obtain rfl : b8 = true := hall 8 (by simp)
    obtain rfl : b9 = true := hall 9 (by simp)
    obtain rfl : b10 = true := hall 10 (by simp)
    obtain rfl : b11 = true := hall 11 (by simp)
    obtain rfl : b12 = true := hall 12 (by simp)
    obtain rfl : b13 = true := hall 13 (by simp)
    obtain rfl : b14 = true := hall 14 (by simp)
    obtain rfl : b15 = true := hall 15 (by simp)
    obtain rfl : b16 = true := hall 16 (by simp)
    obtain rfl : b17 = true := hall 17 (by simp)
    obtain ⟨⟨x1, d1, rfl⟩, o1⟩ := F.f3 rfl
    obtain ⟨⟨x2, d2, rfl⟩, o2⟩ := F.f7 rfl
    obtain ⟨⟨x3, d3, rfl⟩, o3⟩ := F.f11 rfl
    obtain ⟨⟨x4, d4, rfl⟩, o4⟩ := F.f15 rfl
    have R := F.f17 rfl
    have hB := F.bel
    have D1 := F.d3_7 rfl rfl
    have D2 := F.d11_15 rfl rfl
    obtain ⟨s0, s1, s2, s3⟩ := R.four
    clear F
    go_wp2
    refine bodyPost_ret (v := dv x1 x2 x3 x4 l1 l2 l3 l4 d1 d2 d3 d4) (by simp [results, Try.results74, go_sem, s0, s1, s2, s3]) rfl ?_
    exact ⟨_, _, _, _, _, _, _, _, rfl, ⟨o1, o2, o3, o4, D1, D2⟩, hB⟩
  · rintro l act u i o ⟨b0, b1, b2, b3, b4, b5, b6, b7, b8, b9, b10, b11, b12, b13, b14, b15, b16, b17, rfl, t3, t4, t5, t6, t7, t8, t9, t10, t11, t12, t13, t14, t15, t16, t17, t18, t19, rfl, F⟩ ho hl hd K hK
    have hi : i < 18 := by
      have := (Array.getElem?_eq_some_iff.1 ho).1
      simpa using this
    have hX := F.bx
    obtain ⟨x0, x1, x2, x3⟩ := hX.four
    obtain rfl | rfl | rfl | rfl | rfl | rfl | rfl | rfl | rfl | rfl | rfl | rfl | rfl | rfl | rfl | rfl | rfl | rfl : i = 0 ∨ i = 1 ∨ i = 2 ∨ i = 3 ∨ i = 4 ∨ i = 5 ∨ i = 6 ∨ i = 7 ∨ i = 8 ∨ i = 9 ∨ i = 10 ∨ i = 11 ∨ i = 12 ∨ i = 13 ∨ i = 14 ∨ i = 15 ∨ i = 16 ∨ i = 17 := by omega
    all_goals (injection ho with ho; subst ho)
    · -- 0
      have hb := bel_alloc u (.cells #[] 4)
      have G := F.below hb
      have ol : OwnB (u.alloc (.cells #[] 4)) w.heap.size (.slice (some ⟨u.heap.size, 0, none⟩) 0 0) [] := ⟨rfl, .inr ⟨u.heap.size, 0, #[], rfl, F.bel.size, Blk.new u #[] 4, by simp, by simp, rfl, rfl⟩⟩
      go_simp
      refine hK _ _ ?_
      exact ⟨true, b1, b2, b3, b4, b5, b6, b7, b8, b9, b10, b11, b12, b13, b14, b15, b16, b17, rfl, _, _, _, _, _, _, _, _, _, _, _, _, _, _, _, _, _, rfl, { f0 := fun _ => ⟨_, rfl, F.bel.size, ol⟩, f1 := G.f1, f2 := G.f2, f3 := G.f3, f4 := G.f4, f5 := G.f5, f6 := G.f6, f7 := G.f7, f8 := G.f8, f9 := G.f9, f10 := G.f10, f11 := G.f11, f12 := G.f12, f13 := G.f13, f14 := G.f14, f15 := G.f15, f16 := G.f16, g16 := G.g16, g17 := G.g17, f17 := G.f17, z17 := G.z17, d0_4 := fun _ h => Df.fresh rfl (by obtain ⟨g, e, _, o⟩ := F.f4 h; exact o), d0_7 := fun _ h => Df.fresh rfl (F.f7 h).2, d3_4 := G.d3_4, d3_7 := G.d3_7, d8_12 := G.d8_12, d8_15 := G.d8_15, d11_12 := G.d11_12, d11_15 := G.d11_15, bx := G.bx, bel := G.bel }⟩
    · -- 1
      go_simp
      refine hK _ _ ?_
      exact ⟨b0, true, b2, b3, b4, b5, b6, b7, b8, b9, b10, b11, b12, b13, b14, b15, b16, b17, rfl, _, _, _, _, _, _, _, _, _, _, _, _, _, _, _, _, _, rfl, { f0 := F.f0, f1 := fun _ => rfl, f2 := F.f2, f3 := F.f3, f4 := F.f4, f5 := F.f5, f6 := F.f6, f7 := F.f7, f8 := F.f8, f9 := F.f9, f10 := F.f10, f11 := F.f11, f12 := F.f12, f13 := F.f13, f14 := F.f14, f15 := F.f15, f16 := F.f16, g16 := F.g16, g17 := F.g17, f17 := F.f17, z17 := F.z17, d0_4 := F.d0_4, d0_7 := F.d0_7, d3_4 := F.d3_4, d3_7 := F.d3_7, d8_12 := F.d8_12, d8_15 := F.d8_15, d11_12 := F.d11_12, d11_15 := F.d11_15, bx := F.bx, bel := F.bel }⟩
    · -- 2
      obtain rfl := F.f1 (hd ⟨1, .data⟩ (by simp) rfl)
      go_simp
      refine hK _ _ ?_
      exact ⟨b0, b1, true, b3, b4, b5, b6, b7, b8, b9, b10, b11, b12, b13, b14, b15, b16, b17, rfl, _, _, _, _, _, _, _, _, _, _, _, _, _, _, _, _, _, rfl, { f0 := F.f0, f1 := F.f1, f2 := fun _ => rfl, f3 := F.f3, f4 := F.f4, f5 := F.f5, f6 := F.f6, f7 := F.f7, f8 := F.f8, f9 := F.f9, f10 := F.f10, f11 := F.f11, f12 := F.f12, f13 := F.f13, f14 := F.f14, f15 := F.f15, f16 := F.f16, g16 := F.g16, g17 := F.g17, f17 := F.f17, z17 := F.z17, d0_4 := F.d0_4, d0_7 := F.d0_7, d3_4 := F.d3_4, d3_7 := F.d3_7, d8_12 := F.d8_12, d8_15 := F.d8_15, d11_12 := F.d11_12, d11_15 := F.d11_15, bx := F.bx, bel := F.bel }⟩
    · -- 3
      have hbl : b0 = true := hd ⟨0, .data⟩ (by simp) rfl
      have hself : b3 = false := hl
      have nb16 : b16 = false := by cases hx : b16; rfl; have := (F.g16 hx).1; rw [hself] at this; exact absurd this (by decide)
      obtain ⟨g, rfl, hg, og⟩ := F.f0 hbl
      obtain rfl := F.f2 (hd ⟨2, .data⟩ (by simp) rfl)
      refine step_app0B rfl (.tmp 3) (.tmp 5) rfl rfl g w.heap.size a1 l1 c1 cs rfl rfl HN.out.1.1 (HN.out.2.1.1.below F.bel) HN.out.2.2.1 hg og ?_
      intro v u' ov hb hv hsh
      have G := F.below hb
      refine hK _ _ ?_
      exact ⟨b0, b1, b2, true, b4, b5, b6, b7, b8, b9, b10, b11, b12, b13, b14, b15, b16, b17, rfl, _, _, _, _, _, _, _, _, _, _, _, _, _, _, _, _, _, rfl, { f0 := G.f0, f1 := G.f1, f2 := G.f2, f3 := fun _ => ⟨hsh, ov⟩, f4 := G.f4, f5 := G.f5, f6 := G.f6, f7 := G.f7, f8 := G.f8, f9 := G.f9, f10 := G.f10, f11 := G.f11, f12 := G.f12, f13 := G.f13, f14 := G.f14, f15 := G.f15, f16 := fun h => by rw [nb16] at h; exact absurd h (by decide), g16 := fun h => by rw [nb16] at h; exact absurd h (by decide), g17 := G.g17, f17 := fun h => by have := F.g17 h; rw [nb16] at this; exact absurd this (by decide), z17 := G.z17, d0_4 := G.d0_4, d0_7 := G.d0_7, d3_4 := fun _ h => by rcases hv with rfl | hv; exact F.d0_4 hbl h; exact Df.fresh hv (by obtain ⟨g, e, _, o⟩ := F.f4 h; exact o), d3_7 := fun _ h => by rcases hv with rfl | hv; exact F.d0_7 hbl h; exact Df.fresh hv (F.f7 h).2, d8_12 := G.d8_12, d8_15 := G.d8_15, d11_12 := G.d11_12, d11_15 := G.d11_15, bx := G.bx, bel := G.bel }⟩
    · -- 4
      have hb := bel_alloc u (.cells #[] 4)
      have G := F.below hb
      have ol : OwnB (u.alloc (.cells #[] 4)) w.heap.size (.slice (some ⟨u.heap.size, 0, none⟩) 0 0) [] := ⟨rfl, .inr ⟨u.heap.size, 0, #[], rfl, F.bel.size, Blk.new u #[] 4, by simp, by simp, rfl, rfl⟩⟩
      go_simp
      refine hK _ _ ?_
      exact ⟨b0, b1, b2, b3, true, b5, b6, b7, b8, b9, b10, b11, b12, b13, b14, b15, b16, b17, rfl, _, _, _, _, _, _, _, _, _, _, _, _, _, _, _, _, _, rfl, { f0 := G.f0, f1 := G.f1, f2 := G.f2, f3 := G.f3, f4 := fun _ => ⟨_, rfl, F.bel.size, ol⟩, f5 := G.f5, f6 := G.f6, f7 := G.f7, f8 := G.f8, f9 := G.f9, f10 := G.f10, f11 := G.f11, f12 := G.f12, f13 := G.f13, f14 := G.f14, f15 := G.f15, f16 := G.f16, g16 := G.g16, g17 := G.g17, f17 := G.f17, z17 := G.z17, d0_4 := fun h _ => (Df.fresh rfl (by obtain ⟨g, e, _, o⟩ := F.f0 h; exact o)).symm, d0_7 := G.d0_7, d3_4 := fun h _ => (Df.fresh rfl (F.f3 h).2).symm, d3_7 := G.d3_7, d8_12 := G.d8_12, d8_15 := G.d8_15, d11_12 := G.d11_12, d11_15 := G.d11_15, bx := G.bx, bel := G.bel }⟩
    · -- 5
      go_simp
      refine hK _ _ ?_
      exact ⟨b0, b1, b2, b3, b4, true, b6, b7, b8, b9, b10, b11, b12, b13, b14, b15, b16, b17, rfl, _, _, _, _, _, _, _, _, _, _, _, _, _, _, _, _, _, rfl, { f0 := F.f0, f1 := F.f1, f2 := F.f2, f3 := F.f3, f4 := F.f4, f5 := fun _ => rfl, f6 := F.f6, f7 := F.f7, f8 := F.f8, f9 := F.f9, f10 := F.f10, f11 := F.f11, f12 := F.f12, f13 := F.f13, f14 := F.f14, f15 := F.f15, f16 := F.f16, g16 := F.g16, g17 := F.g17, f17 := F.f17, z17 := F.z17, d0_4 := F.d0_4, d0_7 := F.d0_7, d3_4 := F.d3_4, d3_7 := F.d3_7, d8_12 := F.d8_12, d8_15 := F.d8_15, d11_12 := F.d11_12, d11_15 := F.d11_15, bx := F.bx, bel := F.bel }⟩
    · -- 6
      obtain rfl := F.f5 (hd ⟨5, .data⟩ (by simp) rfl)
      go_simp
      refine hK _ _ ?_
      exact ⟨b0, b1, b2, b3, b4, b5, true, b7, b8, b9, b10, b11, b12, b13, b14, b15, b16, b17, rfl, _, _, _, _, _, _, _, _, _, _, _, _, _, _, _, _, _, rfl, { f0 := F.f0, f1 := F.f1, f2 := F.f2, f3 := F.f3, f4 := F.f4, f5 := F.f5, f6 := fun _ => rfl, f7 := F.f7, f8 := F.f8, f9 := F.f9, f10 := F.f10, f11 := F.f11, f12 := F.f12, f13 := F.f13, f14 := F.f14, f15 := F.f15, f16 := F.f16, g16 := F.g16, g17 := F.g17, f17 := F.f17, z17 := F.z17, d0_4 := F.d0_4, d0_7 := F.d0_7, d3_4 := F.d3_4, d3_7 := F.d3_7, d8_12 := F.d8_12, d8_15 := F.d8_15, d11_12 := F.d11_12, d11_15 := F.d11_15, bx := F.bx, bel := F.bel }⟩
    · -- 7
      have hbl : b4 = true := hd ⟨4, .data⟩ (by simp) rfl
      have hself : b7 = false := hl
      have nb16 : b16 = false := by cases hx : b16; rfl; have := (F.g16 hx).2.1; rw [hself] at this; exact absurd this (by decide)
      obtain ⟨g, rfl, hg, og⟩ := F.f4 hbl
      obtain rfl := F.f6 (hd ⟨6, .data⟩ (by simp) rfl)
      refine step_app0B rfl (.tmp 7) (.tmp 9) rfl rfl g w.heap.size a2 l2 c2 is rfl rfl HN.out.1.2.1 (HN.out.2.1.2.1.below F.bel) HN.out.2.2.2.1 hg og ?_
      intro v u' ov hb hv hsh
      have G := F.below hb
      refine hK _ _ ?_
      exact ⟨b0, b1, b2, b3, b4, b5, b6, true, b8, b9, b10, b11, b12, b13, b14, b15, b16, b17, rfl, _, _, _, _, _, _, _, _, _, _, _, _, _, _, _, _, _, rfl, { f0 := G.f0, f1 := G.f1, f2 := G.f2, f3 := G.f3, f4 := G.f4, f5 := G.f5, f6 := G.f6, f7 := fun _ => ⟨hsh, ov⟩, f8 := G.f8, f9 := G.f9, f10 := G.f10, f11 := G.f11, f12 := G.f12, f13 := G.f13, f14 := G.f14, f15 := G.f15, f16 := fun h => by rw [nb16] at h; exact absurd h (by decide), g16 := fun h => by rw [nb16] at h; exact absurd h (by decide), g17 := G.g17, f17 := fun h => by have := F.g17 h; rw [nb16] at this; exact absurd this (by decide), z17 := G.z17, d0_4 := G.d0_4, d0_7 := fun h _ => by rcases hv with rfl | hv; exact F.d0_4 h hbl; exact (Df.fresh hv (by obtain ⟨g, e, _, o⟩ := F.f0 h; exact o)).symm, d3_4 := G.d3_4, d3_7 := fun h _ => by rcases hv with rfl | hv; exact F.d3_4 h hbl; exact (Df.fresh hv (F.f3 h).2).symm, d8_12 := G.d8_12, d8_15 := G.d8_15, d11_12 := G.d11_12, d11_15 := G.d11_15, bx := G.bx, bel := G.bel }⟩
    · -- 8
      have hb := bel_alloc u (.cells #[] 3)
      have G := F.below hb
      have ol : OwnI (u.alloc (.cells #[] 3)) w.heap.size (.slice (some ⟨u.heap.size, 0, none⟩) 0 0) [] := ⟨rfl, .inr ⟨u.heap.size, 0, #[], rfl, F.bel.size, Blk.new u #[] 3, by simp, by simp, rfl, rfl⟩⟩
      go_simp
      refine hK _ _ ?_
      exact ⟨b0, b1, b2, b3, b4, b5, b6, b7, true, b9, b10, b11, b12, b13, b14, b15, b16, b17, rfl, _, _, _, _, _, _, _, _, _, _, _, _, _, _, _, _, _, rfl, { f0 := G.f0, f1 := G.f1, f2 := G.f2, f3 := G.f3, f4 := G.f4, f5 := G.f5, f6 := G.f6, f7 := G.f7, f8 := fun _ => ⟨_, rfl, F.bel.size, ol⟩, f9 := G.f9, f10 := G.f10, f11 := G.f11, f12 := G.f12, f13 := G.f13, f14 := G.f14, f15 := G.f15, f16 := G.f16, g16 := G.g16, g17 := G.g17, f17 := G.f17, z17 := G.z17, d0_4 := G.d0_4, d0_7 := G.d0_7, d3_4 := G.d3_4, d3_7 := G.d3_7, d8_12 := fun _ h => Df.fresh rfl (by obtain ⟨g, e, _, o⟩ := F.f12 h; exact o), d8_15 := fun _ h => Df.fresh rfl (F.f15 h).2, d11_12 := G.d11_12, d11_15 := G.d11_15, bx := G.bx, bel := G.bel }⟩
    · -- 9
      go_simp
      refine hK _ _ ?_
      exact ⟨b0, b1, b2, b3, b4, b5, b6, b7, b8, true, b10, b11, b12, b13, b14, b15, b16, b17, rfl, _, _, _, _, _, _, _, _, _, _, _, _, _, _, _, _, _, rfl, { f0 := F.f0, f1 := F.f1, f2 := F.f2, f3 := F.f3, f4 := F.f4, f5 := F.f5, f6 := F.f6, f7 := F.f7, f8 := F.f8, f9 := fun _ => rfl, f10 := F.f10, f11 := F.f11, f12 := F.f12, f13 := F.f13, f14 := F.f14, f15 := F.f15, f16 := F.f16, g16 := F.g16, g17 := F.g17, f17 := F.f17, z17 := F.z17, d0_4 := F.d0_4, d0_7 := F.d0_7, d3_4 := F.d3_4, d3_7 := F.d3_7, d8_12 := F.d8_12, d8_15 := F.d8_15, d11_12 := F.d11_12, d11_15 := F.d11_15, bx := F.bx, bel := F.bel }⟩
    · -- 10
      obtain rfl := F.f9 (hd ⟨9, .data⟩ (by simp) rfl)
      go_simp
      refine hK _ _ ?_
      exact ⟨b0, b1, b2, b3, b4, b5, b6, b7, b8, b9, true, b11, b12, b13, b14, b15, b16, b17, rfl, _, _, _, _, _, _, _, _, _, _, _, _, _, _, _, _, _, rfl, { f0 := F.f0, f1 := F.f1, f2 := F.f2, f3 := F.f3, f4 := F.f4, f5 := F.f5, f6 := F.f6, f7 := F.f7, f8 := F.f8, f9 := F.f9, f10 := fun _ => rfl, f11 := F.f11, f12 := F.f12, f13 := F.f13, f14 := F.f14, f15 := F.f15, f16 := F.f16, g16 := F.g16, g17 := F.g17, f17 := F.f17, z17 := F.z17, d0_4 := F.d0_4, d0_7 := F.d0_7, d3_4 := F.d3_4, d3_7 := F.d3_7, d8_12 := F.d8_12, d8_15 := F.d8_15, d11_12 := F.d11_12, d11_15 := F.d11_15, bx := F.bx, bel := F.bel }⟩
    · -- 11
      have hbl : b8 = true := hd ⟨8, .data⟩ (by simp) rfl
      have hself : b11 = false := hl
      have nb16 : b16 = false := by cases hx : b16; rfl; have := (F.g16 hx).2.2.1; rw [hself] at this; exact absurd this (by decide)
      obtain ⟨g, rfl, hg, og⟩ := F.f8 hbl
      obtain rfl := F.f10 (hd ⟨10, .data⟩ (by simp) rfl)
      refine step_app0I rfl (.tmp 11) (.tmp 13) rfl rfl g w.heap.size a3 l3 c3 hs rfl rfl HN.out.1.2.2.1 (HN.out.2.1.2.2.1.below F.bel) HN.out.2.2.2.2.1 hg og ?_
      intro v u' ov hb hv hsh
      have G := F.below hb
      refine hK _ _ ?_
      exact ⟨b0, b1, b2, b3, b4, b5, b6, b7, b8, b9, b10, true, b12, b13, b14, b15, b16, b17, rfl, _, _, _, _, _, _, _, _, _, _, _, _, _, _, _, _, _, rfl, { f0 := G.f0, f1 := G.f1, f2 := G.f2, f3 := G.f3, f4 := G.f4, f5 := G.f5, f6 := G.f6, f7 := G.f7, f8 := G.f8, f9 := G.f9, f10 := G.f10, f11 := fun _ => ⟨hsh, ov⟩, f12 := G.f12, f13 := G.f13, f14 := G.f14, f15 := G.f15, f16 := fun h => by rw [nb16] at h; exact absurd h (by decide), g16 := fun h => by rw [nb16] at h; exact absurd h (by decide), g17 := G.g17, f17 := fun h => by have := F.g17 h; rw [nb16] at this; exact absurd this (by decide), z17 := G.z17, d0_4 := G.d0_4, d0_7 := G.d0_7, d3_4 := G.d3_4, d3_7 := G.d3_7, d8_12 := G.d8_12, d8_15 := G.d8_15, d11_12 := fun _ h => by rcases hv with rfl | hv; exact F.d8_12 hbl h; exact Df.fresh hv (by obtain ⟨g, e, _, o⟩ := F.f12 h; exact o), d11_15 := fun _ h => by rcases hv with rfl | hv; exact F.d8_15 hbl h; exact Df.fresh hv (F.f15 h).2, bx := G.bx, bel := G.bel }⟩
    · -- 12
      have hb := bel_alloc u (.cells #[] 3)
      have G := F.below hb
      have ol : OwnI (u.alloc (.cells #[] 3)) w.heap.size (.slice (some ⟨u.heap.size, 0, none⟩) 0 0) [] := ⟨rfl, .inr ⟨u.heap.size, 0, #[], rfl, F.bel.size, Blk.new u #[] 3, by simp, by simp, rfl, rfl⟩⟩
      go_simp
      refine hK _ _ ?_
      exact ⟨b0, b1, b2, b3, b4, b5, b6, b7, b8, b9, b10, b11, true, b13, b14, b15, b16, b17, rfl, _, _, _, _, _, _, _, _, _, _, _, _, _, _, _, _, _, rfl, { f0 := G.f0, f1 := G.f1, f2 := G.f2, f3 := G.f3, f4 := G.f4, f5 := G.f5, f6 := G.f6, f7 := G.f7, f8 := G.f8, f9 := G.f9, f10 := G.f10, f11 := G.f11, f12 := fun _ => ⟨_, rfl, F.bel.size, ol⟩, f13 := G.f13, f14 := G.f14, f15 := G.f15, f16 := G.f16, g16 := G.g16, g17 := G.g17, f17 := G.f17, z17 := G.z17, d0_4 := G.d0_4, d0_7 := G.d0_7, d3_4 := G.d3_4, d3_7 := G.d3_7, d8_12 := fun h _ => (Df.fresh rfl (by obtain ⟨g, e, _, o⟩ := F.f8 h; exact o)).symm, d8_15 := G.d8_15, d11_12 := fun h _ => (Df.fresh rfl (F.f11 h).2).symm, d11_15 := G.d11_15, bx := G.bx, bel := G.bel }⟩
    · -- 13
      go_simp
      refine hK _ _ ?_
      exact ⟨b0, b1, b2, b3, b4, b5, b6, b7, b8, b9, b10, b11, b12, true, b14, b15, b16, b17, rfl, _, _, _, _, _, _, _, _, _, _, _, _, _, _, _, _, _, rfl, { f0 := F.f0, f1 := F.f1, f2 := F.f2, f3 := F.f3, f4 := F.f4, f5 := F.f5, f6 := F.f6, f7 := F.f7, f8 := F.f8, f9 := F.f9, f10 := F.f10, f11 := F.f11, f12 := F.f12, f13 := fun _ => rfl, f14 := F.f14, f15 := F.f15, f16 := F.f16, g16 := F.g16, g17 := F.g17, f17 := F.f17, z17 := F.z17, d0_4 := F.d0_4, d0_7 := F.d0_7, d3_4 := F.d3_4, d3_7 := F.d3_7, d8_12 := F.d8_12, d8_15 := F.d8_15, d11_12 := F.d11_12, d11_15 := F.d11_15, bx := F.bx, bel := F.bel }⟩
    · -- 14
      obtain rfl := F.f13 (hd ⟨13, .data⟩ (by simp) rfl)
      go_simp
      refine hK _ _ ?_
      exact ⟨b0, b1, b2, b3, b4, b5, b6, b7, b8, b9, b10, b11, b12, b13, true, b15, b16, b17, rfl, _, _, _, _, _, _, _, _, _, _, _, _, _, _, _, _, _, rfl, { f0 := F.f0, f1 := F.f1, f2 := F.f2, f3 := F.f3, f4 := F.f4, f5 := F.f5, f6 := F.f6, f7 := F.f7, f8 := F.f8, f9 := F.f9, f10 := F.f10, f11 := F.f11, f12 := F.f12, f13 := F.f13, f14 := fun _ => rfl, f15 := F.f15, f16 := F.f16, g16 := F.g16, g17 := F.g17, f17 := F.f17, z17 := F.z17, d0_4 := F.d0_4, d0_7 := F.d0_7, d3_4 := F.d3_4, d3_7 := F.d3_7, d8_12 := F.d8_12, d8_15 := F.d8_15, d11_12 := F.d11_12, d11_15 := F.d11_15, bx := F.bx, bel := F.bel }⟩
    · -- 15
      have hbl : b12 = true := hd ⟨12, .data⟩ (by simp) rfl
      have hself : b15 = false := hl
      have nb16 : b16 = false := by cases hx : b16; rfl; have := (F.g16 hx).2.2.2; rw [hself] at this; exact absurd this (by decide)
      obtain ⟨g, rfl, hg, og⟩ := F.f12 hbl
      obtain rfl := F.f14 (hd ⟨14, .data⟩ (by simp) rfl)
      refine step_app0I rfl (.tmp 15) (.tmp 17) rfl rfl g w.heap.size a4 l4 c4 rs rfl rfl HN.out.1.2.2.2 (HN.out.2.1.2.2.2.below F.bel) HN.out.2.2.2.2.2 hg og ?_
      intro v u' ov hb hv hsh
      have G := F.below hb
      refine hK _ _ ?_
      exact ⟨b0, b1, b2, b3, b4, b5, b6, b7, b8, b9, b10, b11, b12, b13, b14, true, b16, b17, rfl, _, _, _, _, _, _, _, _, _, _, _, _, _, _, _, _, _, rfl, { f0 := G.f0, f1 := G.f1, f2 := G.f2, f3 := G.f3, f4 := G.f4, f5 := G.f5, f6 := G.f6, f7 := G.f7, f8 := G.f8, f9 := G.f9, f10 := G.f10, f11 := G.f11, f12 := G.f12, f13 := G.f13, f14 := G.f14, f15 := fun _ => ⟨hsh, ov⟩, f16 := fun h => by rw [nb16] at h; exact absurd h (by decide), g16 := fun h => by rw [nb16] at h; exact absurd h (by decide), g17 := G.g17, f17 := fun h => by have := F.g17 h; rw [nb16] at this; exact absurd this (by decide), z17 := G.z17, d0_4 := G.d0_4, d0_7 := G.d0_7, d3_4 := G.d3_4, d3_7 := G.d3_7, d8_12 := G.d8_12, d8_15 := fun h _ => by rcases hv with rfl | hv; exact F.d8_12 h hbl; exact (Df.fresh hv (by obtain ⟨g, e, _, o⟩ := F.f8 h; exact o)).symm, d11_12 := G.d11_12, d11_15 := fun h _ => by rcases hv with rfl | hv; exact F.d11_12 h hbl; exact (Df.fresh hv (F.f11 h).2).symm, bx := G.bx, bel := G.bel }⟩
    · -- 16
      obtain ⟨⟨y3, e3, rfl⟩, _⟩ := F.f3 (hd ⟨3, .data⟩ (by simp) rfl)
      obtain ⟨⟨y7, e7, rfl⟩, _⟩ := F.f7 (hd ⟨7, .data⟩ (by simp) rfl)
      obtain ⟨⟨y11, e11, rfl⟩, _⟩ := F.f11 (hd ⟨11, .data⟩ (by simp) rfl)
      obtain ⟨⟨y15, e15, rfl⟩, _⟩ := F.f15 (hd ⟨15, .data⟩ (by simp) rfl)
      go_simp
      refine hK _ _ ?_
      exact ⟨b0, b1, b2, b3, b4, b5, b6, b7, b8, b9, b10, b11, b12, b13, b14, b15, true, b17, rfl, _, _, _, _, _, _, _, _, _, _, _, _, _, _, _, _, _, rfl, { f0 := F.f0, f1 := F.f1, f2 := F.f2, f3 := F.f3, f4 := F.f4, f5 := F.f5, f6 := F.f6, f7 := F.f7, f8 := F.f8, f9 := F.f9, f10 := F.f10, f11 := F.f11, f12 := F.f12, f13 := F.f13, f14 := F.f14, f15 := F.f15, f16 := fun _ => rfl, g16 := fun _ => ⟨hd ⟨3, .data⟩ (by simp) rfl, hd ⟨7, .data⟩ (by simp) rfl, hd ⟨11, .data⟩ (by simp) rfl, hd ⟨15, .data⟩ (by simp) rfl⟩, g17 := fun _ => rfl, f17 := F.f17, z17 := F.z17, d0_4 := F.d0_4, d0_7 := F.d0_7, d3_4 := F.d3_4, d3_7 := F.d3_7, d8_12 := F.d8_12, d8_15 := F.d8_15, d11_12 := F.d11_12, d11_15 := F.d11_15, bx := F.bx, bel := F.bel }⟩
    · -- 17
      obtain ⟨⟨y3, e3, rfl⟩, o3⟩ := F.f3 (hd ⟨3, .phase⟩ (by simp) rfl)
      obtain ⟨⟨y7, e7, rfl⟩, o7⟩ := F.f7 (hd ⟨7, .phase⟩ (by simp) rfl)
      obtain ⟨⟨y11, e11, rfl⟩, o11⟩ := F.f11 (hd ⟨11, .phase⟩ (by simp) rfl)
      obtain ⟨⟨y15, e15, rfl⟩, o15⟩ := F.f15 (hd ⟨15, .phase⟩ (by simp) rfl)
      obtain rfl := F.f16 (hd ⟨16, .data⟩ (by simp) rfl)
      have hb17 : b17 = false := hl
      have R := F.z17 hb17
      obtain ⟨s0, s1, s2, s3⟩ := R.four
      have fr0 := R.fro 0
      have fr1 := R.fro 1
      have fr2 := R.fro 2
      have fr3 := R.fro 3
      go_simp
      refine hK _ _ ?_
      exact ⟨b0, b1, b2, b3, b4, b5, b6, b7, b8, b9, b10, b11, b12, b13, b14, b15, b16, true, rfl, _, _, _, _, _, _, _, _, _, _, _, _, _, _, _, _, _, rfl, { f0 := fun h => by obtain ⟨g, e, h1, o⟩ := F.f0 h; exact ⟨g, e, h1, row_set4 o ⟨_, R⟩ (by decide)⟩, f1 := F.f1, f2 := F.f2, f3 := fun h => ⟨(F.f3 h).1, row_set4 (F.f3 h).2 ⟨_, R⟩ (by decide)⟩, f4 := fun h => by obtain ⟨g, e, h1, o⟩ := F.f4 h; exact ⟨g, e, h1, row_set4 o ⟨_, R⟩ (by decide)⟩, f5 := F.f5, f6 := F.f6, f7 := fun h => ⟨(F.f7 h).1, row_set4 (F.f7 h).2 ⟨_, R⟩ (by decide)⟩, f8 := fun h => by obtain ⟨g, e, h1, o⟩ := F.f8 h; exact ⟨g, e, h1, row_set4 o ⟨_, R⟩ (by decide)⟩, f9 := F.f9, f10 := F.f10, f11 := fun h => ⟨(F.f11 h).1, row_set4 (F.f11 h).2 ⟨_, R⟩ (by decide)⟩, f12 := fun h => by obtain ⟨g, e, h1, o⟩ := F.f12 h; exact ⟨g, e, h1, row_set4 o ⟨_, R⟩ (by decide)⟩, f13 := F.f13, f14 := F.f14, f15 := fun h => ⟨(F.f15 h).1, row_set4 (F.f15 h).2 ⟨_, R⟩ (by decide)⟩, f16 := F.f16, g16 := F.g16, g17 := fun _ => hd ⟨16, .data⟩ (by simp) rfl, f17 := fun _ => by have := (((R.set 0 (.slice y3 l1 e3)).set 1 (.slice y7 l2 e7)).set 2 (.slice y11 l3 e11)).set 3 (.slice y15 l4 e15); simpa using this, z17 := fun h => absurd h (by decide), d0_4 := F.d0_4, d0_7 := F.d0_7, d3_4 := F.d3_4, d3_7 := F.d3_7, d8_12 := F.d8_12, d8_15 := F.d8_15, d11_12 := F.d11_12, d11_15 := F.d11_15, bx := (((F.bx.setNe (by omega)).setNe (by omega)).setNe (by omega)).setNe (by omega), bel := bel_set4 F.bel (by omega) }⟩
  · refine ⟨false, false, false, false, false, false, false, false, false, false, false, false, false, false, false, false, false, false, rfl, _, _, _, _, _, _, _, _, _, _, _, _, _, _, _, _, _, rfl, ?_⟩
    exact { f0 := fun h => absurd h (by decide), f1 := fun h => absurd h (by decide), f2 := fun h => absurd h (by decide), f3 := fun h => absurd h (by decide), f4 := fun h => absurd h (by decide), f5 := fun h => absurd h (by decide), f6 := fun h => absurd h (by decide), f7 := fun h => absurd h (by decide), f8 := fun h => absurd h (by decide), f9 := fun h => absurd h (by decide), f10 := fun h => absurd h (by decide), f11 := fun h => absurd h (by decide), f12 := fun h => absurd h (by decide), f13 := fun h => absurd h (by decide), f14 := fun h => absurd h (by decide), f15 := fun h => absurd h (by decide), f16 := fun h => absurd h (by decide), g16 := fun h => absurd h (by decide), g17 := fun h => absurd h (by decide), f17 := fun h => absurd h (by decide), z17 := fun _ => R0, d0_4 := fun h => absurd h (by decide), d0_7 := fun h => absurd h (by decide), d3_4 := fun h => absurd h (by decide), d3_7 := fun h => absurd h (by decide), d8_12 := fun h => absurd h (by decide), d8_15 := fun h => absurd h (by decide), d11_12 := fun h => absurd h (by decide), d11_15 := fun h => absurd h (by decide), bx := X0, bel := b0.drew }

end Go.Proofs.Ytmbkfoemhnhoiaa

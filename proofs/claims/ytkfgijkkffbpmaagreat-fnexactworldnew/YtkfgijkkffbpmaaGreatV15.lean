/- Texts that the proof needs, joined: Dev22a Dv0 Tr6 Cz1 Cz2 Wp1 PutWord1 R1 Apd Mk6 Cz5 Cz6 Cz7. -/
import Derived.Test.YtkfgijkkffbpmaaGreatV14
import Derived.Test.YtkfgijkkffbpmaaGreatV3
import Derived.Test.YtkfgijkkffbpmaaGreatV1
import Derived.Deep.RegionWith
import Derived.Test.YtkfgijkkffbpmaaGreatV4
import Derived.Test.YtkfgijkkffbpmaaGreatV7
import Derived.LoopN
import Derived.Lib.AppendZerosOnto
import Derived.Deep.Upon
import Derived.Lib.AppendZeros
import Derived.Maps.AppendAt
import Derived.Test.YtkfgijkkffbpmaaGreatV10
set_option linter.unusedVariables false
set_option linter.unusedSimpArgs false
set_option maxHeartbeats 4000000
set_option maxRecDepth 20000
namespace Go.Proofs.YtkfgijkkffbpmaaGreat
open Go.RowKit
theorem Df.fresh {w : World} {B s n : Nat} {e : TypeId} {v u : Value} {xs : List Value} (hv : v.ownBlock = some w.heap.size) (hu : w.ownsRow B e s u n xs) : Df v u := by
 rcases h : u.ownBlock with _ | k
 ·exact .inr (.inl h)
 refine .inr (.inr ?_)
 rw [hv, h]
 have := (World.ownsRow.lt hu k h).2
 simp; omega
structure CI (w : World) (a1 a2 a3 a4 : Option Addr) (l1 l2 l3 l4 c1 c2 c3 c4 : Nat) (cs is : List Bool) (hs rs : List Int) (b0 b1 b2 b3 b4 b5 b6 b7 b8 b9 b10 b11 b12 b13 b14 b15 b16 b17 : Bool) (t3 t4 t5 t6 t7 t8 t9 t10 t11 t12 t13 t14 t15 t16 t17 t18 t19 : Value) (u : World) : Prop where
 f0 : b0 = true -> ∃ g, t3 = .slice (some ⟨g, 0, none⟩) 0 0 /\ w.heap.size <= g /\ OwnB u w.heap.size t3 []
 f1 : b1 = true -> t4 = .pointer (some ⟨w.heap.size, 0, none⟩)
 f2 : b2 = true -> t5 = .slice a1 l1 c1
 f3 : b3 = true -> (∃ a' c', t6 = .slice a' l1 c') /\ OwnB u w.heap.size t6 cs
 f4 : b4 = true -> ∃ g, t7 = .slice (some ⟨g, 0, none⟩) 0 0 /\ w.heap.size <= g /\ OwnB u w.heap.size t7 []
 f5 : b5 = true -> t8 = .pointer (some ⟨w.heap.size, 1, none⟩)
 f6 : b6 = true -> t9 = .slice a2 l2 c2
 f7 : b7 = true -> (∃ a' c', t10 = .slice a' l2 c') /\ OwnB u w.heap.size t10 is
 f8 : b8 = true -> ∃ g, t11 = .slice (some ⟨g, 0, none⟩) 0 0 /\ w.heap.size <= g /\ OwnI u w.heap.size t11 []
 f9 : b9 = true -> t12 = .pointer (some ⟨w.heap.size, 2, none⟩)
 f10 : b10 = true -> t13 = .slice a3 l3 c3
 f11 : b11 = true -> (∃ a' c', t14 = .slice a' l3 c') /\ OwnI u w.heap.size t14 hs
 f12 : b12 = true -> ∃ g, t15 = .slice (some ⟨g, 0, none⟩) 0 0 /\ w.heap.size <= g /\ OwnI u w.heap.size t15 []
 f13 : b13 = true -> t16 = .pointer (some ⟨w.heap.size, 3, none⟩)
 f14 : b14 = true -> t17 = .slice a4 l4 c4
 f15 : b15 = true -> (∃ a' c', t18 = .slice a' l4 c') /\ OwnI u w.heap.size t18 rs
 f16 : b16 = true -> t19 = .agg #[t6, t10, t14, t18]
 g16 : b16 = true -> b3 = true /\ b7 = true /\ b11 = true /\ b15 = true
 g17 : b17 = true -> b16 = true
 f17 : b17 = true -> Blk u (w.heap.size + 1) 126 #[t6, t10, t14, t18]
 z17 : b17 = false -> Blk u (w.heap.size + 1) 126 #[.slice none 0 0, .slice none 0 0, .slice none 0 0, .slice none 0 0]
 d0_4 : b0 = true -> b4 = true -> Df t3 t7
 d0_7 : b0 = true -> b7 = true -> Df t3 t10
 d3_4 : b3 = true -> b4 = true -> Df t6 t7
 d3_7 : b3 = true -> b7 = true -> Df t6 t10
 d8_12 : b8 = true -> b12 = true -> Df t11 t15
 d8_15 : b8 = true -> b15 = true -> Df t11 t18
 d11_12 : b11 = true -> b12 = true -> Df t14 t15
 d11_15 : b11 = true -> b15 = true -> Df t14 t18
 bx : Blk u w.heap.size 126 #[.slice a1 l1 c1, .slice a2 l2 c2, .slice a3 l3 c3, .slice a4 l4 c4]
 bel : Below w.heap.size w u
theorem CI.below {w : World} {a1 a2 a3 a4 : Option Addr} {l1 l2 l3 l4 c1 c2 c3 c4 : Nat} {cs is : List Bool} {hs rs : List Int} {b0 b1 b2 b3 b4 b5 b6 b7 b8 b9 b10 b11 b12 b13 b14 b15 b16 b17 : Bool} {t3 t4 t5 t6 t7 t8 t9 t10 t11 t12 t13 t14 t15 t16 t17 t18 t19 : Value} {u u' : World} (F : CI w a1 a2 a3 a4 l1 l2 l3 l4 c1 c2 c3 c4 cs is hs rs b0 b1 b2 b3 b4 b5 b6 b7 b8 b9 b10 b11 b12 b13 b14 b15 b16 b17 t3 t4 t5 t6 t7 t8 t9 t10 t11 t12 t13 t14 t15 t16 t17 t18 t19 u) (hb : Below u.heap.size u u') : CI w a1 a2 a3 a4 l1 l2 l3 l4 c1 c2 c3 c4 cs is hs rs b0 b1 b2 b3 b4 b5 b6 b7 b8 b9 b10 b11 b12 b13 b14 b15 b16 b17 t3 t4 t5 t6 t7 t8 t9 t10 t11 t12 t13 t14 t15 t16 t17 t18 t19 u' where
 f0 := fun h => by obtain ⟨g, e, h1, o⟩ := F.f0 h; exact ⟨g, e, h1, o.below hb⟩
 f1 := F.f1
 f2 := F.f2
 f3 := fun h => ⟨(F.f3 h).1, (F.f3 h).2.below hb⟩
 f4 := fun h => by obtain ⟨g, e, h1, o⟩ := F.f4 h; exact ⟨g, e, h1, o.below hb⟩
 f5 := F.f5
 f6 := F.f6
 f7 := fun h => ⟨(F.f7 h).1, (F.f7 h).2.below hb⟩
 f8 := fun h => by obtain ⟨g, e, h1, o⟩ := F.f8 h; exact ⟨g, e, h1, o.below hb⟩
 f9 := F.f9
 f10 := F.f10
 f11 := fun h => ⟨(F.f11 h).1, (F.f11 h).2.below hb⟩
 f12 := fun h => by obtain ⟨g, e, h1, o⟩ := F.f12 h; exact ⟨g, e, h1, o.below hb⟩
 f13 := F.f13
 f14 := F.f14
 f15 := fun h => ⟨(F.f15 h).1, (F.f15 h).2.below hb⟩
 f16 := F.f16
 g16 := F.g16
 g17 := F.g17
 f17 := fun h => (F.f17 h).below hb
 z17 := fun h => (F.z17 h).below hb
 d0_4 := F.d0_4
 d0_7 := F.d0_7
 d3_4 := F.d3_4
 d3_7 := F.d3_7
 d8_12 := F.d8_12
 d8_15 := F.d8_15
 d11_12 := F.d11_12
 d11_15 := F.d11_15
 bx := F.bx.below hb
 bel := bel_next F.bel hb
def CInv (w : World) (a1 a2 a3 a4 : Option Addr) (l1 l2 l3 l4 c1 c2 c3 c4 : Nat) (cs is : List Bool) (hs rs : List Int) (l : Array Bool) (act : Act) (u : World) : Prop :=
 ∃ b0 b1 b2 b3 b4 b5 b6 b7 b8 b9 b10 b11 b12 b13 b14 b15 b16 b17 : Bool, l = #[b0, b1, b2, b3, b4, b5, b6, b7, b8, b9, b10, b11, b12, b13, b14, b15, b16, b17] /\ ∃ t3 t4 t5 t6 t7 t8 t9 t10 t11 t12 t13 t14 t15 t16 t17 t18 t19 : Value, act = { tmps := #[dv a1 a2 a3 a4 l1 l2 l3 l4 c1 c2 c3 c4, .pointer (some ⟨w.heap.size, 0, none⟩), .pointer (some ⟨w.heap.size + 1, 0, none⟩), t3, t4, t5, t6, t7, t8, t9, t10, t11, t12, t13, t14, t15, t16, t17, t18, t19], defers := [] } /\ CI w a1 a2 a3 a4 l1 l2 l3 l4 c1 c2 c3 c4 cs is hs rs b0 b1 b2 b3 b4 b5 b6 b7 b8 b9 b10 b11 b12 b13 b14 b15 b16 b17 t3 t4 t5 t6 t7 t8 t9 t10 t11 t12 t13 t14 t15 t16 t17 t18 t19 u
theorem l5Copy_any (a1 a2 a3 a4 : Option Addr) (l1 l2 l3 l4 c1 c2 c3 c4 : Nat) (cs is : List Bool) (hs rs : List Int) (w : World) (hn : LnD l1 l2 l3 l4 cs is hs rs) (hs0 : SlD w a1 a2 a3 a4 cs is hs rs) (hsm : SmD 2000000 cs is hs rs) :
 Calls Tryz.prog 134 #[dv a1 a2 a3 a4 l1 l2 l3 l4 c1 c2 c3 c4] w fun e w' => ∃ x1 x2 x3 x4 d1 d2 d3 d4, e = .returned (dv x1 x2 x3 x4 l1 l2 l3 l4 d1 d2 d3 d4) /\ OwnD w' w.heap.size x1 x2 x3 x4 l1 l2 l3 l4 d1 d2 d3 d4 cs is hs rs /\ Below w.heap.size w w' := by
 obtain ⟨z, hz⟩ : ∃ z, z = (w.alloc (.cells #[.slice a1 l1 c1, .slice a2 l2 c2, .slice a3 l3 c3, .slice a4 l4 c4] 126)).alloc (.cells #[.slice none 0 0, .slice none 0 0, .slice none 0 0, .slice none 0 0] 126) := ⟨_, rfl⟩
 have HZ : Hid (z = _) := hz
 have b0 : Below w.heap.size w z := by rw [hz]; exact bel_next (bel_alloc w _) (bel_alloc _ _)
 have X0 : Blk z w.heap.size 126 #[.slice a1 l1 c1, .slice a2 l2 c2, .slice a3 l3 c3, .slice a4 l4 c4] := by rw [hz]; exact (Blk.new w _ _).below (bel_alloc _ _)
 have R0 : Blk z (w.heap.size + 1) 126 #[.slice none 0 0, .slice none 0 0, .slice none 0 0, .slice none 0 0] := by rw [hz]; have := Blk.new (w.alloc (.cells #[.slice a1 l1 c1, .slice a2 l2 c2, .slice a3 l3 c3, .slice a4 l4 c4] 126)) #[.slice none 0 0, .slice none 0 0, .slice none 0 0, .slice none 0 0] 126; simpa using this
 have HN : Hid (LnD l1 l2 l3 l4 cs is hs rs /\ SlD w a1 a2 a3 a4 cs is hs rs /\ SmD 2000000 cs is hs rs) := ⟨hn, hs0, hsm⟩
 clear hz hn hs0 hsm
 go_enter Tryz.func134, Tryz.ntmps134
 go_upto_region 1 with fail
 rw [<- HZ.out]
 refine wp_region_any (by kernel_rfl) ?_
 refine wpAny_inv (CInv w a1 a2 a3 a4 l1 l2 l3 l4 c1 c2 c3 c4 cs is hs rs) ?_ ?_ ?_ _ _ _ _ rfl (by decide) ?_
 ·kernel_rfl
 ·rintro l act u ⟨b0, b1, b2, b3, b4, b5, b6, b7, b8, b9, b10, b11, b12, b13, b14, b15, b16, b17, rfl, t3, t4, t5, t6, t7, t8, t9, t10, t11, t12, t13, t14, t15, t16, t17, t18, t19, rfl, F⟩ hall
  obtain rfl : b0 = true := hall 0 (by simp)
  obtain rfl : b1 = true := hall 1 (by simp)
  obtain rfl : b2 = true := hall 2 (by simp)
  obtain rfl : b3 = true := hall 3 (by simp)
  obtain rfl : b4 = true := hall 4 (by simp)
  obtain rfl : b5 = true := hall 5 (by simp)
  obtain rfl : b6 = true := hall 6 (by simp)
  obtain rfl : b7 = true := hall 7 (by simp)
  obtain rfl : b8 = true := hall 8 (by simp)
  obtain rfl : b9 = true := hall 9 (by simp)
  obtain rfl : b10 = true := hall 10 (by simp)
  obtain rfl : b11 = true := hall 11 (by simp)
  obtain rfl : b12 = true := hall 12 (by simp)
  obtain rfl : b13 = true := hall 13 (by simp)
  obtain rfl : b14 = true := hall 14 (by simp)
  obtain rfl : b15 = true := hall 15 (by simp)
  obtain rfl : b16 = true := hall 16 (by simp)
  obtain rfl : b17 = true := hall 17 (by simp)
  obtain ⟨⟨x1, d1, rfl⟩, o1⟩ := F.f3 rfl
  obtain ⟨⟨x2, d2, rfl⟩, o2⟩ := F.f7 rfl
  obtain ⟨⟨x3, d3, rfl⟩, o3⟩ := F.f11 rfl
  obtain ⟨⟨x4, d4, rfl⟩, o4⟩ := F.f15 rfl
  have R := F.f17 rfl
  have hB := F.bel
  have D1 := F.d3_7 rfl rfl
  have D2 := F.d11_15 rfl rfl
  obtain ⟨s0, s1, s2, s3⟩ := R.four
  clear F
  go_wp2
  refine bodyPost_ret (v := dv x1 x2 x3 x4 l1 l2 l3 l4 d1 d2 d3 d4) (by simp [results, Tryz.results134, go_sem, s0, s1, s2, s3]) rfl ?_
  exact ⟨_, _, _, _, _, _, _, _, rfl, ⟨o1, o2, o3, o4, D1, D2⟩, hB⟩
 ·rintro l act u i o ⟨b0, b1, b2, b3, b4, b5, b6, b7, b8, b9, b10, b11, b12, b13, b14, b15, b16, b17, rfl, t3, t4, t5, t6, t7, t8, t9, t10, t11, t12, t13, t14, t15, t16, t17, t18, t19, rfl, F⟩ ho hl hd K hK
  have hi : i < 18 := by
   have := (Array.getElem?_eq_some_iff.1 ho).1
   simpa using this
  have hX := F.bx
  obtain ⟨x0, x1, x2, x3⟩ := hX.four
  obtain rfl | rfl | rfl | rfl | rfl | rfl | rfl | rfl | rfl | rfl | rfl | rfl | rfl | rfl | rfl | rfl | rfl | rfl : i = 0 \/ i = 1 \/ i = 2 \/ i = 3 \/ i = 4 \/ i = 5 \/ i = 6 \/ i = 7 \/ i = 8 \/ i = 9 \/ i = 10 \/ i = 11 \/ i = 12 \/ i = 13 \/ i = 14 \/ i = 15 \/ i = 16 \/ i = 17 := by omega
  all_goals (injection ho with ho; subst ho)
  ·have hb := bel_alloc u (.cells #[] 4)
   have G := F.below hb
   have ol : OwnB (u.alloc (.cells #[] 4)) w.heap.size (.slice (some ⟨u.heap.size, 0, none⟩) 0 0) [] := ⟨rfl, .inr ⟨u.heap.size, 0, #[], rfl, F.bel.size, Blk.new u #[] 4, by simp, by simp, rfl, rfl⟩⟩
   go_simp
   refine hK _ _ ?_
   exact ⟨true, b1, b2, b3, b4, b5, b6, b7, b8, b9, b10, b11, b12, b13, b14, b15, b16, b17, rfl, _, _, _, _, _, _, _, _, _, _, _, _, _, _, _, _, _, rfl, { f0 := fun _ => ⟨_, rfl, F.bel.size, ol⟩, f1 := G.f1, f2 := G.f2, f3 := G.f3, f4 := G.f4, f5 := G.f5, f6 := G.f6, f7 := G.f7, f8 := G.f8, f9 := G.f9, f10 := G.f10, f11 := G.f11, f12 := G.f12, f13 := G.f13, f14 := G.f14, f15 := G.f15, f16 := G.f16, g16 := G.g16, g17 := G.g17, f17 := G.f17, z17 := G.z17, d0_4 := fun _ h => Df.fresh rfl (by obtain ⟨g, e, _, o⟩ := F.f4 h; exact o), d0_7 := fun _ h => Df.fresh rfl (F.f7 h).2, d3_4 := G.d3_4, d3_7 := G.d3_7, d8_12 := G.d8_12, d8_15 := G.d8_15, d11_12 := G.d11_12, d11_15 := G.d11_15, bx := G.bx, bel := G.bel }⟩
  ·go_simp
   refine hK _ _ ?_
   exact ⟨b0, true, b2, b3, b4, b5, b6, b7, b8, b9, b10, b11, b12, b13, b14, b15, b16, b17, rfl, _, _, _, _, _, _, _, _, _, _, _, _, _, _, _, _, _, rfl, { f0 := F.f0, f1 := fun _ => rfl, f2 := F.f2, f3 := F.f3, f4 := F.f4, f5 := F.f5, f6 := F.f6, f7 := F.f7, f8 := F.f8, f9 := F.f9, f10 := F.f10, f11 := F.f11, f12 := F.f12, f13 := F.f13, f14 := F.f14, f15 := F.f15, f16 := F.f16, g16 := F.g16, g17 := F.g17, f17 := F.f17, z17 := F.z17, d0_4 := F.d0_4, d0_7 := F.d0_7, d3_4 := F.d3_4, d3_7 := F.d3_7, d8_12 := F.d8_12, d8_15 := F.d8_15, d11_12 := F.d11_12, d11_15 := F.d11_15, bx := F.bx, bel := F.bel }⟩
  ·obtain rfl := F.f1 (hd ⟨1, .data⟩ (by simp) rfl)
   go_simp
   refine hK _ _ ?_
   exact ⟨b0, b1, true, b3, b4, b5, b6, b7, b8, b9, b10, b11, b12, b13, b14, b15, b16, b17, rfl, _, _, _, _, _, _, _, _, _, _, _, _, _, _, _, _, _, rfl, { f0 := F.f0, f1 := F.f1, f2 := fun _ => rfl, f3 := F.f3, f4 := F.f4, f5 := F.f5, f6 := F.f6, f7 := F.f7, f8 := F.f8, f9 := F.f9, f10 := F.f10, f11 := F.f11, f12 := F.f12, f13 := F.f13, f14 := F.f14, f15 := F.f15, f16 := F.f16, g16 := F.g16, g17 := F.g17, f17 := F.f17, z17 := F.z17, d0_4 := F.d0_4, d0_7 := F.d0_7, d3_4 := F.d3_4, d3_7 := F.d3_7, d8_12 := F.d8_12, d8_15 := F.d8_15, d11_12 := F.d11_12, d11_15 := F.d11_15, bx := F.bx, bel := F.bel }⟩
  ·have hbl : b0 = true := hd ⟨0, .data⟩ (by simp) rfl
   have hself : b3 = false := hl
   have nb16 : b16 = false := by cases hx : b16; rfl; have := (F.g16 hx).1; rw [hself] at this; exact absurd this (by decide)
   obtain ⟨g, rfl, hg, og⟩ := F.f0 hbl
   obtain rfl := F.f2 (hd ⟨2, .data⟩ (by simp) rfl)
   refine step_app0B rfl (.tmp 3) (.tmp 5) rfl rfl g w.heap.size a1 l1 c1 cs rfl rfl HN.out.1.1 (HN.out.2.1.1.below F.bel) HN.out.2.2.1 hg og ?_
   intro v u' ov hb hv hsh
   have G := F.below hb
   refine hK _ _ ?_
   exact ⟨b0, b1, b2, true, b4, b5, b6, b7, b8, b9, b10, b11, b12, b13, b14, b15, b16, b17, rfl, _, _, _, _, _, _, _, _, _, _, _, _, _, _, _, _, _, rfl, { f0 := G.f0, f1 := G.f1, f2 := G.f2, f3 := fun _ => ⟨hsh, ov⟩, f4 := G.f4, f5 := G.f5, f6 := G.f6, f7 := G.f7, f8 := G.f8, f9 := G.f9, f10 := G.f10, f11 := G.f11, f12 := G.f12, f13 := G.f13, f14 := G.f14, f15 := G.f15, f16 := fun h => by rw [nb16] at h; exact absurd h (by decide), g16 := fun h => by rw [nb16] at h; exact absurd h (by decide), g17 := G.g17, f17 := fun h => by have := F.g17 h; rw [nb16] at this; exact absurd this (by decide), z17 := G.z17, d0_4 := G.d0_4, d0_7 := G.d0_7, d3_4 := fun _ h => by rcases hv with rfl | hv; exact F.d0_4 hbl h; exact Df.fresh hv (by obtain ⟨g, e, _, o⟩ := F.f4 h; exact o), d3_7 := fun _ h => by rcases hv with rfl | hv; exact F.d0_7 hbl h; exact Df.fresh hv (F.f7 h).2, d8_12 := G.d8_12, d8_15 := G.d8_15, d11_12 := G.d11_12, d11_15 := G.d11_15, bx := G.bx, bel := G.bel }⟩
  ·have hb := bel_alloc u (.cells #[] 4)
   have G := F.below hb
   have ol : OwnB (u.alloc (.cells #[] 4)) w.heap.size (.slice (some ⟨u.heap.size, 0, none⟩) 0 0) [] := ⟨rfl, .inr ⟨u.heap.size, 0, #[], rfl, F.bel.size, Blk.new u #[] 4, by simp, by simp, rfl, rfl⟩⟩
   go_simp
   refine hK _ _ ?_
   exact ⟨b0, b1, b2, b3, true, b5, b6, b7, b8, b9, b10, b11, b12, b13, b14, b15, b16, b17, rfl, _, _, _, _, _, _, _, _, _, _, _, _, _, _, _, _, _, rfl, { f0 := G.f0, f1 := G.f1, f2 := G.f2, f3 := G.f3, f4 := fun _ => ⟨_, rfl, F.bel.size, ol⟩, f5 := G.f5, f6 := G.f6, f7 := G.f7, f8 := G.f8, f9 := G.f9, f10 := G.f10, f11 := G.f11, f12 := G.f12, f13 := G.f13, f14 := G.f14, f15 := G.f15, f16 := G.f16, g16 := G.g16, g17 := G.g17, f17 := G.f17, z17 := G.z17, d0_4 := fun h _ => (Df.fresh rfl (by obtain ⟨g, e, _, o⟩ := F.f0 h; exact o)).symm, d0_7 := G.d0_7, d3_4 := fun h _ => (Df.fresh rfl (F.f3 h).2).symm, d3_7 := G.d3_7, d8_12 := G.d8_12, d8_15 := G.d8_15, d11_12 := G.d11_12, d11_15 := G.d11_15, bx := G.bx, bel := G.bel }⟩
  ·go_simp
   refine hK _ _ ?_
   exact ⟨b0, b1, b2, b3, b4, true, b6, b7, b8, b9, b10, b11, b12, b13, b14, b15, b16, b17, rfl, _, _, _, _, _, _, _, _, _, _, _, _, _, _, _, _, _, rfl, { f0 := F.f0, f1 := F.f1, f2 := F.f2, f3 := F.f3, f4 := F.f4, f5 := fun _ => rfl, f6 := F.f6, f7 := F.f7, f8 := F.f8, f9 := F.f9, f10 := F.f10, f11 := F.f11, f12 := F.f12, f13 := F.f13, f14 := F.f14, f15 := F.f15, f16 := F.f16, g16 := F.g16, g17 := F.g17, f17 := F.f17, z17 := F.z17, d0_4 := F.d0_4, d0_7 := F.d0_7, d3_4 := F.d3_4, d3_7 := F.d3_7, d8_12 := F.d8_12, d8_15 := F.d8_15, d11_12 := F.d11_12, d11_15 := F.d11_15, bx := F.bx, bel := F.bel }⟩
  ·obtain rfl := F.f5 (hd ⟨5, .data⟩ (by simp) rfl)
   go_simp
   refine hK _ _ ?_
   exact ⟨b0, b1, b2, b3, b4, b5, true, b7, b8, b9, b10, b11, b12, b13, b14, b15, b16, b17, rfl, _, _, _, _, _, _, _, _, _, _, _, _, _, _, _, _, _, rfl, { f0 := F.f0, f1 := F.f1, f2 := F.f2, f3 := F.f3, f4 := F.f4, f5 := F.f5, f6 := fun _ => rfl, f7 := F.f7, f8 := F.f8, f9 := F.f9, f10 := F.f10, f11 := F.f11, f12 := F.f12, f13 := F.f13, f14 := F.f14, f15 := F.f15, f16 := F.f16, g16 := F.g16, g17 := F.g17, f17 := F.f17, z17 := F.z17, d0_4 := F.d0_4, d0_7 := F.d0_7, d3_4 := F.d3_4, d3_7 := F.d3_7, d8_12 := F.d8_12, d8_15 := F.d8_15, d11_12 := F.d11_12, d11_15 := F.d11_15, bx := F.bx, bel := F.bel }⟩
  ·have hbl : b4 = true := hd ⟨4, .data⟩ (by simp) rfl
   have hself : b7 = false := hl
   have nb16 : b16 = false := by cases hx : b16; rfl; have := (F.g16 hx).2.1; rw [hself] at this; exact absurd this (by decide)
   obtain ⟨g, rfl, hg, og⟩ := F.f4 hbl
   obtain rfl := F.f6 (hd ⟨6, .data⟩ (by simp) rfl)
   refine step_app0B rfl (.tmp 7) (.tmp 9) rfl rfl g w.heap.size a2 l2 c2 is rfl rfl HN.out.1.2.1 (HN.out.2.1.2.1.below F.bel) HN.out.2.2.2.1 hg og ?_
   intro v u' ov hb hv hsh
   have G := F.below hb
   refine hK _ _ ?_
   exact ⟨b0, b1, b2, b3, b4, b5, b6, true, b8, b9, b10, b11, b12, b13, b14, b15, b16, b17, rfl, _, _, _, _, _, _, _, _, _, _, _, _, _, _, _, _, _, rfl, { f0 := G.f0, f1 := G.f1, f2 := G.f2, f3 := G.f3, f4 := G.f4, f5 := G.f5, f6 := G.f6, f7 := fun _ => ⟨hsh, ov⟩, f8 := G.f8, f9 := G.f9, f10 := G.f10, f11 := G.f11, f12 := G.f12, f13 := G.f13, f14 := G.f14, f15 := G.f15, f16 := fun h => by rw [nb16] at h; exact absurd h (by decide), g16 := fun h => by rw [nb16] at h; exact absurd h (by decide), g17 := G.g17, f17 := fun h => by have := F.g17 h; rw [nb16] at this; exact absurd this (by decide), z17 := G.z17, d0_4 := G.d0_4, d0_7 := fun h _ => by rcases hv with rfl | hv; exact F.d0_4 h hbl; exact (Df.fresh hv (by obtain ⟨g, e, _, o⟩ := F.f0 h; exact o)).symm, d3_4 := G.d3_4, d3_7 := fun h _ => by rcases hv with rfl | hv; exact F.d3_4 h hbl; exact (Df.fresh hv (F.f3 h).2).symm, d8_12 := G.d8_12, d8_15 := G.d8_15, d11_12 := G.d11_12, d11_15 := G.d11_15, bx := G.bx, bel := G.bel }⟩
  ·have hb := bel_alloc u (.cells #[] 3)
   have G := F.below hb
   have ol : OwnI (u.alloc (.cells #[] 3)) w.heap.size (.slice (some ⟨u.heap.size, 0, none⟩) 0 0) [] := ⟨rfl, .inr ⟨u.heap.size, 0, #[], rfl, F.bel.size, Blk.new u #[] 3, by simp, by simp, rfl, rfl⟩⟩
   go_simp
   refine hK _ _ ?_
   exact ⟨b0, b1, b2, b3, b4, b5, b6, b7, true, b9, b10, b11, b12, b13, b14, b15, b16, b17, rfl, _, _, _, _, _, _, _, _, _, _, _, _, _, _, _, _, _, rfl, { f0 := G.f0, f1 := G.f1, f2 := G.f2, f3 := G.f3, f4 := G.f4, f5 := G.f5, f6 := G.f6, f7 := G.f7, f8 := fun _ => ⟨_, rfl, F.bel.size, ol⟩, f9 := G.f9, f10 := G.f10, f11 := G.f11, f12 := G.f12, f13 := G.f13, f14 := G.f14, f15 := G.f15, f16 := G.f16, g16 := G.g16, g17 := G.g17, f17 := G.f17, z17 := G.z17, d0_4 := G.d0_4, d0_7 := G.d0_7, d3_4 := G.d3_4, d3_7 := G.d3_7, d8_12 := fun _ h => Df.fresh rfl (by obtain ⟨g, e, _, o⟩ := F.f12 h; exact o), d8_15 := fun _ h => Df.fresh rfl (F.f15 h).2, d11_12 := G.d11_12, d11_15 := G.d11_15, bx := G.bx, bel := G.bel }⟩
  ·go_simp
   refine hK _ _ ?_
   exact ⟨b0, b1, b2, b3, b4, b5, b6, b7, b8, true, b10, b11, b12, b13, b14, b15, b16, b17, rfl, _, _, _, _, _, _, _, _, _, _, _, _, _, _, _, _, _, rfl, { f0 := F.f0, f1 := F.f1, f2 := F.f2, f3 := F.f3, f4 := F.f4, f5 := F.f5, f6 := F.f6, f7 := F.f7, f8 := F.f8, f9 := fun _ => rfl, f10 := F.f10, f11 := F.f11, f12 := F.f12, f13 := F.f13, f14 := F.f14, f15 := F.f15, f16 := F.f16, g16 := F.g16, g17 := F.g17, f17 := F.f17, z17 := F.z17, d0_4 := F.d0_4, d0_7 := F.d0_7, d3_4 := F.d3_4, d3_7 := F.d3_7, d8_12 := F.d8_12, d8_15 := F.d8_15, d11_12 := F.d11_12, d11_15 := F.d11_15, bx := F.bx, bel := F.bel }⟩
  ·obtain rfl := F.f9 (hd ⟨9, .data⟩ (by simp) rfl)
   go_simp
   refine hK _ _ ?_
   exact ⟨b0, b1, b2, b3, b4, b5, b6, b7, b8, b9, true, b11, b12, b13, b14, b15, b16, b17, rfl, _, _, _, _, _, _, _, _, _, _, _, _, _, _, _, _, _, rfl, { f0 := F.f0, f1 := F.f1, f2 := F.f2, f3 := F.f3, f4 := F.f4, f5 := F.f5, f6 := F.f6, f7 := F.f7, f8 := F.f8, f9 := F.f9, f10 := fun _ => rfl, f11 := F.f11, f12 := F.f12, f13 := F.f13, f14 := F.f14, f15 := F.f15, f16 := F.f16, g16 := F.g16, g17 := F.g17, f17 := F.f17, z17 := F.z17, d0_4 := F.d0_4, d0_7 := F.d0_7, d3_4 := F.d3_4, d3_7 := F.d3_7, d8_12 := F.d8_12, d8_15 := F.d8_15, d11_12 := F.d11_12, d11_15 := F.d11_15, bx := F.bx, bel := F.bel }⟩
  ·have hbl : b8 = true := hd ⟨8, .data⟩ (by simp) rfl
   have hself : b11 = false := hl
   have nb16 : b16 = false := by cases hx : b16; rfl; have := (F.g16 hx).2.2.1; rw [hself] at this; exact absurd this (by decide)
   obtain ⟨g, rfl, hg, og⟩ := F.f8 hbl
   obtain rfl := F.f10 (hd ⟨10, .data⟩ (by simp) rfl)
   refine step_app0I rfl (.tmp 11) (.tmp 13) rfl rfl g w.heap.size a3 l3 c3 hs rfl rfl HN.out.1.2.2.1 (HN.out.2.1.2.2.1.below F.bel) HN.out.2.2.2.2.1 hg og ?_
   intro v u' ov hb hv hsh
   have G := F.below hb
   refine hK _ _ ?_
   exact ⟨b0, b1, b2, b3, b4, b5, b6, b7, b8, b9, b10, true, b12, b13, b14, b15, b16, b17, rfl, _, _, _, _, _, _, _, _, _, _, _, _, _, _, _, _, _, rfl, { f0 := G.f0, f1 := G.f1, f2 := G.f2, f3 := G.f3, f4 := G.f4, f5 := G.f5, f6 := G.f6, f7 := G.f7, f8 := G.f8, f9 := G.f9, f10 := G.f10, f11 := fun _ => ⟨hsh, ov⟩, f12 := G.f12, f13 := G.f13, f14 := G.f14, f15 := G.f15, f16 := fun h => by rw [nb16] at h; exact absurd h (by decide), g16 := fun h => by rw [nb16] at h; exact absurd h (by decide), g17 := G.g17, f17 := fun h => by have := F.g17 h; rw [nb16] at this; exact absurd this (by decide), z17 := G.z17, d0_4 := G.d0_4, d0_7 := G.d0_7, d3_4 := G.d3_4, d3_7 := G.d3_7, d8_12 := G.d8_12, d8_15 := G.d8_15, d11_12 := fun _ h => by rcases hv with rfl | hv; exact F.d8_12 hbl h; exact Df.fresh hv (by obtain ⟨g, e, _, o⟩ := F.f12 h; exact o), d11_15 := fun _ h => by rcases hv with rfl | hv; exact F.d8_15 hbl h; exact Df.fresh hv (F.f15 h).2, bx := G.bx, bel := G.bel }⟩
  ·have hb := bel_alloc u (.cells #[] 3)
   have G := F.below hb
   have ol : OwnI (u.alloc (.cells #[] 3)) w.heap.size (.slice (some ⟨u.heap.size, 0, none⟩) 0 0) [] := ⟨rfl, .inr ⟨u.heap.size, 0, #[], rfl, F.bel.size, Blk.new u #[] 3, by simp, by simp, rfl, rfl⟩⟩
   go_simp
   refine hK _ _ ?_
   exact ⟨b0, b1, b2, b3, b4, b5, b6, b7, b8, b9, b10, b11, true, b13, b14, b15, b16, b17, rfl, _, _, _, _, _, _, _, _, _, _, _, _, _, _, _, _, _, rfl, { f0 := G.f0, f1 := G.f1, f2 := G.f2, f3 := G.f3, f4 := G.f4, f5 := G.f5, f6 := G.f6, f7 := G.f7, f8 := G.f8, f9 := G.f9, f10 := G.f10, f11 := G.f11, f12 := fun _ => ⟨_, rfl, F.bel.size, ol⟩, f13 := G.f13, f14 := G.f14, f15 := G.f15, f16 := G.f16, g16 := G.g16, g17 := G.g17, f17 := G.f17, z17 := G.z17, d0_4 := G.d0_4, d0_7 := G.d0_7, d3_4 := G.d3_4, d3_7 := G.d3_7, d8_12 := fun h _ => (Df.fresh rfl (by obtain ⟨g, e, _, o⟩ := F.f8 h; exact o)).symm, d8_15 := G.d8_15, d11_12 := fun h _ => (Df.fresh rfl (F.f11 h).2).symm, d11_15 := G.d11_15, bx := G.bx, bel := G.bel }⟩
  ·go_simp
   refine hK _ _ ?_
   exact ⟨b0, b1, b2, b3, b4, b5, b6, b7, b8, b9, b10, b11, b12, true, b14, b15, b16, b17, rfl, _, _, _, _, _, _, _, _, _, _, _, _, _, _, _, _, _, rfl, { f0 := F.f0, f1 := F.f1, f2 := F.f2, f3 := F.f3, f4 := F.f4, f5 := F.f5, f6 := F.f6, f7 := F.f7, f8 := F.f8, f9 := F.f9, f10 := F.f10, f11 := F.f11, f12 := F.f12, f13 := fun _ => rfl, f14 := F.f14, f15 := F.f15, f16 := F.f16, g16 := F.g16, g17 := F.g17, f17 := F.f17, z17 := F.z17, d0_4 := F.d0_4, d0_7 := F.d0_7, d3_4 := F.d3_4, d3_7 := F.d3_7, d8_12 := F.d8_12, d8_15 := F.d8_15, d11_12 := F.d11_12, d11_15 := F.d11_15, bx := F.bx, bel := F.bel }⟩
  ·obtain rfl := F.f13 (hd ⟨13, .data⟩ (by simp) rfl)
   go_simp
   refine hK _ _ ?_
   exact ⟨b0, b1, b2, b3, b4, b5, b6, b7, b8, b9, b10, b11, b12, b13, true, b15, b16, b17, rfl, _, _, _, _, _, _, _, _, _, _, _, _, _, _, _, _, _, rfl, { f0 := F.f0, f1 := F.f1, f2 := F.f2, f3 := F.f3, f4 := F.f4, f5 := F.f5, f6 := F.f6, f7 := F.f7, f8 := F.f8, f9 := F.f9, f10 := F.f10, f11 := F.f11, f12 := F.f12, f13 := F.f13, f14 := fun _ => rfl, f15 := F.f15, f16 := F.f16, g16 := F.g16, g17 := F.g17, f17 := F.f17, z17 := F.z17, d0_4 := F.d0_4, d0_7 := F.d0_7, d3_4 := F.d3_4, d3_7 := F.d3_7, d8_12 := F.d8_12, d8_15 := F.d8_15, d11_12 := F.d11_12, d11_15 := F.d11_15, bx := F.bx, bel := F.bel }⟩
  ·have hbl : b12 = true := hd ⟨12, .data⟩ (by simp) rfl
   have hself : b15 = false := hl
   have nb16 : b16 = false := by cases hx : b16; rfl; have := (F.g16 hx).2.2.2; rw [hself] at this; exact absurd this (by decide)
   obtain ⟨g, rfl, hg, og⟩ := F.f12 hbl
   obtain rfl := F.f14 (hd ⟨14, .data⟩ (by simp) rfl)
   refine step_app0I rfl (.tmp 15) (.tmp 17) rfl rfl g w.heap.size a4 l4 c4 rs rfl rfl HN.out.1.2.2.2 (HN.out.2.1.2.2.2.below F.bel) HN.out.2.2.2.2.2 hg og ?_
   intro v u' ov hb hv hsh
   have G := F.below hb
   refine hK _ _ ?_
   exact ⟨b0, b1, b2, b3, b4, b5, b6, b7, b8, b9, b10, b11, b12, b13, b14, true, b16, b17, rfl, _, _, _, _, _, _, _, _, _, _, _, _, _, _, _, _, _, rfl, { f0 := G.f0, f1 := G.f1, f2 := G.f2, f3 := G.f3, f4 := G.f4, f5 := G.f5, f6 := G.f6, f7 := G.f7, f8 := G.f8, f9 := G.f9, f10 := G.f10, f11 := G.f11, f12 := G.f12, f13 := G.f13, f14 := G.f14, f15 := fun _ => ⟨hsh, ov⟩, f16 := fun h => by rw [nb16] at h; exact absurd h (by decide), g16 := fun h => by rw [nb16] at h; exact absurd h (by decide), g17 := G.g17, f17 := fun h => by have := F.g17 h; rw [nb16] at this; exact absurd this (by decide), z17 := G.z17, d0_4 := G.d0_4, d0_7 := G.d0_7, d3_4 := G.d3_4, d3_7 := G.d3_7, d8_12 := G.d8_12, d8_15 := fun h _ => by rcases hv with rfl | hv; exact F.d8_12 h hbl; exact (Df.fresh hv (by obtain ⟨g, e, _, o⟩ := F.f8 h; exact o)).symm, d11_12 := G.d11_12, d11_15 := fun h _ => by rcases hv with rfl | hv; exact F.d11_12 h hbl; exact (Df.fresh hv (F.f11 h).2).symm, bx := G.bx, bel := G.bel }⟩
  ·obtain ⟨⟨y3, e3, rfl⟩, _⟩ := F.f3 (hd ⟨3, .data⟩ (by simp) rfl)
   obtain ⟨⟨y7, e7, rfl⟩, _⟩ := F.f7 (hd ⟨7, .data⟩ (by simp) rfl)
   obtain ⟨⟨y11, e11, rfl⟩, _⟩ := F.f11 (hd ⟨11, .data⟩ (by simp) rfl)
   obtain ⟨⟨y15, e15, rfl⟩, _⟩ := F.f15 (hd ⟨15, .data⟩ (by simp) rfl)
   go_simp
   refine hK _ _ ?_
   exact ⟨b0, b1, b2, b3, b4, b5, b6, b7, b8, b9, b10, b11, b12, b13, b14, b15, true, b17, rfl, _, _, _, _, _, _, _, _, _, _, _, _, _, _, _, _, _, rfl, { f0 := F.f0, f1 := F.f1, f2 := F.f2, f3 := F.f3, f4 := F.f4, f5 := F.f5, f6 := F.f6, f7 := F.f7, f8 := F.f8, f9 := F.f9, f10 := F.f10, f11 := F.f11, f12 := F.f12, f13 := F.f13, f14 := F.f14, f15 := F.f15, f16 := fun _ => rfl, g16 := fun _ => ⟨hd ⟨3, .data⟩ (by simp) rfl, hd ⟨7, .data⟩ (by simp) rfl, hd ⟨11, .data⟩ (by simp) rfl, hd ⟨15, .data⟩ (by simp) rfl⟩, g17 := fun _ => rfl, f17 := F.f17, z17 := F.z17, d0_4 := F.d0_4, d0_7 := F.d0_7, d3_4 := F.d3_4, d3_7 := F.d3_7, d8_12 := F.d8_12, d8_15 := F.d8_15, d11_12 := F.d11_12, d11_15 := F.d11_15, bx := F.bx, bel := F.bel }⟩
  obtain ⟨⟨y3, e3, rfl⟩, o3⟩ := F.f3 (hd ⟨3, .phase⟩ (by simp) rfl)
  obtain ⟨⟨y7, e7, rfl⟩, o7⟩ := F.f7 (hd ⟨7, .phase⟩ (by simp) rfl)
  obtain ⟨⟨y11, e11, rfl⟩, o11⟩ := F.f11 (hd ⟨11, .phase⟩ (by simp) rfl)
  obtain ⟨⟨y15, e15, rfl⟩, o15⟩ := F.f15 (hd ⟨15, .phase⟩ (by simp) rfl)
  obtain rfl := F.f16 (hd ⟨16, .data⟩ (by simp) rfl)
  have hb17 : b17 = false := hl
  have R := F.z17 hb17
  obtain ⟨s0, s1, s2, s3⟩ := R.four
  have fr0 := R.fro 0
  have fr1 := R.fro 1
  have fr2 := R.fro 2
  have fr3 := R.fro 3
  go_simp
  refine hK _ _ ?_
  exact ⟨b0, b1, b2, b3, b4, b5, b6, b7, b8, b9, b10, b11, b12, b13, b14, b15, b16, true, rfl, _, _, _, _, _, _, _, _, _, _, _, _, _, _, _, _, _, rfl, { f0 := fun h => by obtain ⟨g, e, h1, o⟩ := F.f0 h; exact ⟨g, e, h1, row_set4 o ⟨_, R⟩ (by decide)⟩, f1 := F.f1, f2 := F.f2, f3 := fun h => ⟨(F.f3 h).1, row_set4 (F.f3 h).2 ⟨_, R⟩ (by decide)⟩, f4 := fun h => by obtain ⟨g, e, h1, o⟩ := F.f4 h; exact ⟨g, e, h1, row_set4 o ⟨_, R⟩ (by decide)⟩, f5 := F.f5, f6 := F.f6, f7 := fun h => ⟨(F.f7 h).1, row_set4 (F.f7 h).2 ⟨_, R⟩ (by decide)⟩, f8 := fun h => by obtain ⟨g, e, h1, o⟩ := F.f8 h; exact ⟨g, e, h1, row_set4 o ⟨_, R⟩ (by decide)⟩, f9 := F.f9, f10 := F.f10, f11 := fun h => ⟨(F.f11 h).1, row_set4 (F.f11 h).2 ⟨_, R⟩ (by decide)⟩, f12 := fun h => by obtain ⟨g, e, h1, o⟩ := F.f12 h; exact ⟨g, e, h1, row_set4 o ⟨_, R⟩ (by decide)⟩, f13 := F.f13, f14 := F.f14, f15 := fun h => ⟨(F.f15 h).1, row_set4 (F.f15 h).2 ⟨_, R⟩ (by decide)⟩, f16 := F.f16, g16 := F.g16, g17 := fun _ => hd ⟨16, .data⟩ (by simp) rfl, f17 := fun _ => by have := (((R.set 0 (.slice y3 l1 e3)).set 1 (.slice y7 l2 e7)).set 2 (.slice y11 l3 e11)).set 3 (.slice y15 l4 e15); simpa using this, z17 := fun h => absurd h (by decide), d0_4 := F.d0_4, d0_7 := F.d0_7, d3_4 := F.d3_4, d3_7 := F.d3_7, d8_12 := F.d8_12, d8_15 := F.d8_15, d11_12 := F.d11_12, d11_15 := F.d11_15, bx := (((F.bx.setNe (by omega)).setNe (by omega)).setNe (by omega)).setNe (by omega), bel := bel_set4 F.bel (by omega) }⟩
 refine ⟨false, false, false, false, false, false, false, false, false, false, false, false, false, false, false, false, false, false, rfl, _, _, _, _, _, _, _, _, _, _, _, _, _, _, _, _, _, rfl, ?_⟩
 exact { f0 := fun h => absurd h (by decide), f1 := fun h => absurd h (by decide), f2 := fun h => absurd h (by decide), f3 := fun h => absurd h (by decide), f4 := fun h => absurd h (by decide), f5 := fun h => absurd h (by decide), f6 := fun h => absurd h (by decide), f7 := fun h => absurd h (by decide), f8 := fun h => absurd h (by decide), f9 := fun h => absurd h (by decide), f10 := fun h => absurd h (by decide), f11 := fun h => absurd h (by decide), f12 := fun h => absurd h (by decide), f13 := fun h => absurd h (by decide), f14 := fun h => absurd h (by decide), f15 := fun h => absurd h (by decide), f16 := fun h => absurd h (by decide), g16 := fun h => absurd h (by decide), g17 := fun h => absurd h (by decide), f17 := fun h => absurd h (by decide), z17 := fun _ => R0, d0_4 := fun h => absurd h (by decide), d0_7 := fun h => absurd h (by decide), d3_4 := fun h => absurd h (by decide), d3_7 := fun h => absurd h (by decide), d8_12 := fun h => absurd h (by decide), d8_15 := fun h => absurd h (by decide), d11_12 := fun h => absurd h (by decide), d11_15 := fun h => absurd h (by decide), bx := X0, bel := b0.drew }
end Go.Proofs.YtkfgijkkffbpmaaGreat
namespace Go.Proofs.YtkfgijkkffbpmaaGreat
open Go.RowKit Go.Joins
theorem Own1.four {w : World} {lo hi : Nat} {t0 t1 t2 t3 : Tr} {v0 v1 v2 v3 : Value} (K0 K1 K2 K3 : Sk) (f0 : Fit w t0 K0 v0) (f1 : Fit w t1 K1 v1) (f2 : Fit w t2 K2 v2) (f3 : Fit w t3 K3 v3)
 (o0 : K0.ok /\ ∀ b, K0.bl b -> lo <= b /\ b < hi) (o1 : K1.ok /\ ∀ b, K1.bl b -> lo <= b /\ b < hi) (o2 : K2.ok /\ ∀ b, K2.bl b -> lo <= b /\ b < hi) (o3 : K3.ok /\ ∀ b, K3.bl b -> lo <= b /\ b < hi)
 (d01 : ∀ b, K0.bl b -> ¬ K1.bl b) (d02 : ∀ b, K0.bl b -> ¬ K2.bl b) (d03 : ∀ b, K0.bl b -> ¬ K3.bl b) (d12 : ∀ b, K1.bl b -> ¬ K2.bl b) (d13 : ∀ b, K1.bl b -> ¬ K3.bl b) (d23 : ∀ b, K2.bl b -> ¬ K3.bl b) : Own1 w lo hi [t0, t1, t2, t3] [v0, v1, v2, v3] := by
 refine ⟨fun i => match i with | 0 => K0 | 1 => K1 | 2 => K2 | _ => K3, rfl, fun i v hv => ?_, fun i hi => ?_, fun i i' hi hi' hne b hb hb' => ?_⟩
 ·match i, hv with
  | 0, hv => obtain rfl := Option.some.inj (show some _ = some v from hv); exact f0
  | 1, hv => obtain rfl := Option.some.inj (show some _ = some v from hv); exact f1
  | 2, hv => obtain rfl := Option.some.inj (show some _ = some v from hv); exact f2
  | 3, hv => obtain rfl := Option.some.inj (show some _ = some v from hv); exact f3
  | i + 4, hv => simp at hv
 ·match i, hi with
  | 0, _ => exact o0
  | 1, _ => exact o1
  | 2, _ => exact o2
  | 3, _ => exact o3
  | i + 4, h8 => have h9 : i + 4 < 4 := h8; omega
 match i, i', hi, hi', hne, hb, hb' with
 | 0, 0, _, _, hne, _, _ => exact hne rfl
 | 0, 1, _, _, _, hb, hb' => exact d01 b hb hb'
 | 0, 2, _, _, _, hb, hb' => exact d02 b hb hb'
 | 0, 3, _, _, _, hb, hb' => exact d03 b hb hb'
 | 1, 0, _, _, _, hb, hb' => exact d01 b hb' hb
 | 1, 1, _, _, hne, _, _ => exact hne rfl
 | 1, 2, _, _, _, hb, hb' => exact d12 b hb hb'
 | 1, 3, _, _, _, hb, hb' => exact d13 b hb hb'
 | 2, 0, _, _, _, hb, hb' => exact d02 b hb' hb
 | 2, 1, _, _, _, hb, hb' => exact d12 b hb' hb
 | 2, 2, _, _, hne, _, _ => exact hne rfl
 | 2, 3, _, _, _, hb, hb' => exact d23 b hb hb'
 | 3, 0, _, _, _, hb, hb' => exact d03 b hb' hb
 | 3, 1, _, _, _, hb, hb' => exact d13 b hb' hb
 | 3, 2, _, _, _, hb, hb' => exact d23 b hb' hb
 | 3, 3, _, _, hne, _, _ => exact hne rfl
 | i + 4, _, h8, _, _, _, _ => have h9 : i + 4 < 4 := h8; omega
 | _, i' + 4, _, h8, _, _, _ => have h9 : i' + 4 < 4 := h8; omega
theorem Df.not {v u : Value} (h : Df v u) {b : Nat} (e1 : v.ownBlock = some b) (e2 : u.ownBlock = some b) : False := by
 rcases h with h | h | h
 ·rw [h] at e1; cases e1
 ·rw [h] at e2; cases e2
 exact h (e1.trans e2.symm)
theorem VI.own {w : World} {lo : Nat} {X : VI} {a1 a2 a3 a4 : Option Addr} {l1 l2 l3 l4 c1 c2 c3 c4 : Nat} (h : OwnD w lo a1 a2 a3 a4 l1 l2 l3 l4 c1 c2 c3 c4 X.co X.ip X.ho X.wd) : Own1 w lo w.heap.size (xdT X) (xdL X a1 l1 c1 a2 l2 c2 a3 l3 c3 a4 l4 c4) := by
 obtain ⟨h1, h2, h3, h4, d1, d2⟩ := h
 obtain ⟨K1, f1, o1, b1⟩ := h1.fit
 obtain ⟨K2, f2, o2, b2⟩ := h2.fit
 obtain ⟨K3, f3, o3, b3⟩ := h3.fit
 obtain ⟨K4, f4, o4, b4⟩ := h4.fit
 exact Own1.four K1 K2 K3 K4 f1 f2 f3 f4 ⟨o1, fun b hb => ⟨(b1 b hb).1, f1.lt hb⟩⟩ ⟨o2, fun b hb => ⟨(b2 b hb).1, f2.lt hb⟩⟩ ⟨o3, fun b hb => ⟨(b3 b hb).1, f3.lt hb⟩⟩ ⟨o4, fun b hb => ⟨(b4 b hb).1, f4.lt hb⟩⟩
  (fun b hb hb' => d1.not (b1 b hb).2 (b2 b hb').2) (fun b hb hb' => dis_IB h3 h1 (b3 b hb').2 (b1 b hb).2) (fun b hb hb' => dis_IB h4 h1 (b4 b hb').2 (b1 b hb).2) (fun b hb hb' => dis_IB h3 h2 (b3 b hb').2 (b2 b hb).2) (fun b hb hb' => dis_IB h4 h2 (b4 b hb').2 (b2 b hb).2) (fun b hb hb' => d2.not (b3 b hb).2 (b4 b hb').2)
theorem VI.sl {w : World} {X : VI} {a1 a2 a3 a4 : Option Addr} {l1 l2 l3 l4 c1 c2 c3 c4 : Nat} (r1 : Rd w 0 (boolsT X.co) (.slice a1 l1 c1)) (r2 : Rd w 0 (boolsT X.ip) (.slice a2 l2 c2)) (r3 : Rd w 0 (intsT X.ho) (.slice a3 l3 c3)) (r4 : Rd w 0 (intsT X.wd) (.slice a4 l4 c4)) (hz : szT 4 (trs (xdT X)) <= 1048576) : LnD l1 l2 l3 l4 X.co X.ip X.ho X.wd /\ SlD w a1 a2 a3 a4 X.co X.ip X.ho X.wd /\ SmD 2000000 X.co X.ip X.ho X.wd := by
 rw [szT_xd] at hz
 obtain ⟨_, _, h9, -, -, s1⟩ := r1.bools
 simp only [Value.slice.injEq] at h9
 obtain ⟨rfl, rfl, rfl⟩ := h9
 obtain ⟨_, _, h9, -, -, s2⟩ := r2.bools
 simp only [Value.slice.injEq] at h9
 obtain ⟨rfl, rfl, rfl⟩ := h9
 obtain ⟨_, _, h9, -, -, s3⟩ := r3.ints
 simp only [Value.slice.injEq] at h9
 obtain ⟨rfl, rfl, rfl⟩ := h9
 obtain ⟨_, _, h9, -, -, s4⟩ := r4.ints
 simp only [Value.slice.injEq] at h9
 obtain ⟨rfl, rfl, rfl⟩ := h9
 exact ⟨⟨rfl, rfl, rfl, rfl⟩, ⟨s1, s2, s3, s4⟩, by unfold SmD; omega⟩
def okDv (X : VI) : Bool := okD X.co.length X.ip.length X.ho.length X.wd.length X.ho X.wd
theorem implDvOk (X : VI) (a1 : Option Addr) (l1 c1 : Nat) (a2 : Option Addr) (l2 c2 : Nat) (a3 : Option Addr) (l3 c3 : Nat) (a4 : Option Addr) (l4 c4 : Nat) (w : World) (r1 : Rd w 0 (boolsT X.co) (.slice a1 l1 c1)) (r2 : Rd w 0 (boolsT X.ip) (.slice a2 l2 c2)) (r3 : Rd w 0 (intsT X.ho) (.slice a3 l3 c3)) (r4 : Rd w 0 (intsT X.wd) (.slice a4 l4 c4)) (hz : szT 4 (trs (xdT X)) <= 1048576) :
 Calls Tryz.prog 140 #[.agg (xdL X a1 l1 c1 a2 l2 c2 a3 l3 c3 a4 l4 c4).toArray] w fun e w' => e = .returned (.bool (okDv X)) /\ Below w.heap.size w w' := by
 obtain ⟨h1, h2, h3⟩ := VI.sl r1 r2 r3 r4 hz
 obtain ⟨e1, e2, e3, e4⟩ := id h1
 refine implDeviceOk_any a1 a2 a3 a4 l1 l2 l3 l4 c1 c2 c3 c4 X.co X.ip X.ho X.wd w h1 h2 h3 (okDv X) ?_
 rw [e1, e2, e3, e4]; rfl
theorem specDvOk (X : VI) (a1 : Option Addr) (l1 c1 : Nat) (a2 : Option Addr) (l2 c2 : Nat) (a3 : Option Addr) (l3 c3 : Nat) (a4 : Option Addr) (l4 c4 : Nat) (w : World) (r1 : Rd w 0 (boolsT X.co) (.slice a1 l1 c1)) (r2 : Rd w 0 (boolsT X.ip) (.slice a2 l2 c2)) (r3 : Rd w 0 (intsT X.ho) (.slice a3 l3 c3)) (r4 : Rd w 0 (intsT X.wd) (.slice a4 l4 c4)) (hz : szT 4 (trs (xdT X)) <= 1048576) :
 Calls Tryz.prog 132 #[.agg (xdL X a1 l1 c1 a2 l2 c2 a3 l3 c3 a4 l4 c4).toArray] w fun e w' => e = .returned (.bool (okDv X)) /\ Below w.heap.size w w' := by
 obtain ⟨h1, h2, h3⟩ := VI.sl r1 r2 r3 r4 hz
 obtain ⟨e1, e2, e3, e4⟩ := id h1
 refine specDeviceOk_any a1 a2 a3 a4 l1 l2 l3 l4 c1 c2 c3 c4 X.co X.ip X.ho X.wd w h1 h2 h3 (okDv X) ?_
 rw [e1, e2, e3, e4]; rfl
theorem copyDevice_m (X : VI) (a1 : Option Addr) (l1 c1 : Nat) (a2 : Option Addr) (l2 c2 : Nat) (a3 : Option Addr) (l3 c3 : Nat) (a4 : Option Addr) (l4 c4 : Nat) (w : World) (r1 : Rd w 0 (boolsT X.co) (.slice a1 l1 c1)) (r2 : Rd w 0 (boolsT X.ip) (.slice a2 l2 c2)) (r3 : Rd w 0 (intsT X.ho) (.slice a3 l3 c3)) (r4 : Rd w 0 (intsT X.wd) (.slice a4 l4 c4)) (hz : szT 4 (trs (xdT X)) <= 1048576) :
 Calls Tryz.prog 143 #[.agg (xdL X a1 l1 c1 a2 l2 c2 a3 l3 c3 a4 l4 c4).toArray] w fun e w' => ∃ b1 d1 b2 d2 b3 d3 b4 d4, e = .returned (.agg (xdL X b1 l1 d1 b2 l2 d2 b3 l3 d3 b4 l4 d4).toArray) /\ Own1 w' w.heap.size w'.heap.size (xdT X) (xdL X b1 l1 d1 b2 l2 d2 b3 l3 d3 b4 l4 d4) /\ Below w.heap.size w w' := by
 obtain ⟨h1, h2, h3⟩ := VI.sl r1 r2 r3 r4 hz
 refine (copyDevice_any a1 a2 a3 a4 l1 l2 l3 l4 c1 c2 c3 c4 X.co X.ip X.ho X.wd w h1 h2 h3).mono ?_
 rintro e w' ⟨g1, g2, g3, g4, rfl, ho, hb⟩
 exact ⟨_, _, _, _, _, _, _, _, rfl, VI.own ho, hb⟩
theorem l5Copy_m (X : VI) (a1 : Option Addr) (l1 c1 : Nat) (a2 : Option Addr) (l2 c2 : Nat) (a3 : Option Addr) (l3 c3 : Nat) (a4 : Option Addr) (l4 c4 : Nat) (w : World) (r1 : Rd w 0 (boolsT X.co) (.slice a1 l1 c1)) (r2 : Rd w 0 (boolsT X.ip) (.slice a2 l2 c2)) (r3 : Rd w 0 (intsT X.ho) (.slice a3 l3 c3)) (r4 : Rd w 0 (intsT X.wd) (.slice a4 l4 c4)) (hz : szT 4 (trs (xdT X)) <= 1048576) :
 Calls Tryz.prog 134 #[.agg (xdL X a1 l1 c1 a2 l2 c2 a3 l3 c3 a4 l4 c4).toArray] w fun e w' => ∃ b1 d1 b2 d2 b3 d3 b4 d4, e = .returned (.agg (xdL X b1 l1 d1 b2 l2 d2 b3 l3 d3 b4 l4 d4).toArray) /\ Own1 w' w.heap.size w'.heap.size (xdT X) (xdL X b1 l1 d1 b2 l2 d2 b3 l3 d3 b4 l4 d4) /\ Below w.heap.size w w' := by
 obtain ⟨h1, h2, h3⟩ := VI.sl r1 r2 r3 r4 hz
 refine (l5Copy_any a1 a2 a3 a4 l1 l2 l3 l4 c1 c2 c3 c4 X.co X.ip X.ho X.wd w h1 h2 h3).mono ?_
 rintro e w' ⟨g1, g2, g3, g4, d1, d2, d3, d4, rfl, ho, hb⟩
 exact ⟨_, _, _, _, _, _, _, _, rfl, VI.own ho, hb⟩
theorem toDevice_m (X : VI) (a1 : Option Addr) (l1 c1 : Nat) (a2 : Option Addr) (l2 c2 : Nat) (a3 : Option Addr) (l3 c3 : Nat) (a4 : Option Addr) (l4 c4 : Nat) (w : World) (r1 : Rd w 0 (boolsT X.co) (.slice a1 l1 c1)) (r2 : Rd w 0 (boolsT X.ip) (.slice a2 l2 c2)) (r3 : Rd w 0 (intsT X.ho) (.slice a3 l3 c3)) (r4 : Rd w 0 (intsT X.wd) (.slice a4 l4 c4)) (hz : szT 4 (trs (xdT X)) <= 1048576) :
 Calls Tryz.prog 135 #[.agg (xdL X a1 l1 c1 a2 l2 c2 a3 l3 c3 a4 l4 c4).toArray] w fun e w' => ∃ b1 d1 b2 d2 b3 d3 b4 d4, e = .returned (.agg (xdL X b1 l1 d1 b2 l2 d2 b3 l3 d3 b4 l4 d4).toArray) /\ Own1 w' w.heap.size w'.heap.size (xdT X) (xdL X b1 l1 d1 b2 l2 d2 b3 l3 d3 b4 l4 d4) /\ Below w.heap.size w w' := by
 obtain ⟨h1, h2, h3⟩ := VI.sl r1 r2 r3 r4 hz
 refine (toDevice_any a1 a2 a3 a4 l1 l2 l3 l4 c1 c2 c3 c4 X.co X.ip X.ho X.wd w h1 h2 h3).mono ?_
 rintro e w' ⟨g1, g2, g3, g4, rfl, ho, hb⟩
 exact ⟨_, _, _, _, _, _, _, _, rfl, VI.own ho, hb⟩
end Go.Proofs.YtkfgijkkffbpmaaGreat
namespace Go.Proofs.YtkfgijkkffbpmaaGreat
open Go.RowKit Go.Joins
end Go.Proofs.YtkfgijkkffbpmaaGreat
namespace Go.Proofs.YtkfgijkkffbpmaaGreat
open Go.RowKit Go.Joins
abbrev rpL (kd fl pl nn : Int) (a1 a2 : Option Addr) (l1 l2 c1 c2 : Nat) : Array Value := #[.int .i64 kd, .int .i64 fl, .int .i64 pl, .int .i64 nn, .slice a1 l1 c1, .slice a2 l2 c2]
abbrev rqL (kd pl nn wa : Int) (a1 a2 : Option Addr) (l1 l2 c1 c2 : Nat) : Array Value := #[.int .i64 kd, .int .i64 pl, .int .i64 nn, .slice a1 l1 c1, .slice a2 l2 c2, .int .i64 wa]
abbrev rq0 : Array Value := #[.int .i64 0, .int .i64 0, .int .i64 0, .slice none 0 0, .slice none 0 0, .int .i64 0]
def RqP (w w' : World) (e : Ending) (kd pl nn wa : Int) (l1 l2 : Nat) (ws : List Int) (bs : List Bool) : Prop :=
 ∃ a1 a2 c1 c2, e = .returned (.agg (rqL kd pl nn wa a1 a2 l1 l2 c1 c2)) /\ OwnI w' w.heap.size (.slice a1 l1 c1) ws /\ OwnB w' w.heap.size (.slice a2 l2 c2) bs /\ Below w.heap.size w w'
def CqP (w : World) (B : Nat) (kd pl nn wa : Int) (m1 m2 : Nat) (ws : List Int) (bs : List Bool) (wx : World) : Prop :=
 ∃ g1 g2, Blk wx B 94 (rqL kd pl nn wa (some ⟨g1, 0, none⟩) (some ⟨g2, 0, none⟩) m1 m2 m1 m2) /\ OwnI wx w.heap.size (.slice (some ⟨g1, 0, none⟩) m1 m1) ws /\ OwnB wx w.heap.size (.slice (some ⟨g2, 0, none⟩) m2 m2) bs /\ Blk wx (B + 1) 94 rq0 /\ Below w.heap.size w wx
abbrev rp0 : Array Value := #[.int .i64 0, .int .i64 0, .int .i64 0, .int .i64 0, .slice none 0 0, .slice none 0 0]
def RrP (w w' : World) (e : Ending) (kd fl pl nn : Int) (l1 l2 : Nat) (ws : List Int) (bs : List Bool) : Prop :=
 ∃ a1 a2 c1 c2, e = .returned (.agg (rpL kd fl pl nn a1 a2 l1 l2 c1 c2)) /\ OwnI w' w.heap.size (.slice a1 l1 c1) ws /\ OwnB w' w.heap.size (.slice a2 l2 c2) bs /\ Below w.heap.size w w'
def CrP (w : World) (B : Nat) (kd fl pl nn : Int) (m1 m2 : Nat) (ws : List Int) (bs : List Bool) (wx : World) : Prop :=
 ∃ g1 g2, Blk wx B 146 (rpL kd fl pl nn (some ⟨g1, 0, none⟩) (some ⟨g2, 0, none⟩) m1 m2 m1 m2) /\ OwnI wx w.heap.size (.slice (some ⟨g1, 0, none⟩) m1 m1) ws /\ OwnB wx w.heap.size (.slice (some ⟨g2, 0, none⟩) m2 m2) bs /\ Blk wx (B + 1) 146 rp0 /\ Below w.heap.size w wx
end Go.Proofs.YtkfgijkkffbpmaaGreat
namespace Go.Proofs.YtkfgijkkffbpmaaGreat
open Go.RowKit Go.Joins
end Go.Proofs.YtkfgijkkffbpmaaGreat
namespace Go.Proofs.YtkfgijkkffbpmaaGreat
open Go.RowKit Go.Joins
theorem toPost_m (X : VS) (a1 : Option Addr) (l1 c1 : Nat) (a2 : Option Addr) (l2 c2 : Nat) (a3 : Option Addr) (l3 c3 : Nat) (a4 : Option Addr) (l4 c4 : Nat) (w : World) (r1 : Rd w 0 (boolsT X.d.co) (.slice a1 l1 c1)) (r2 : Rd w 0 (boolsT X.d.ip) (.slice a2 l2 c2)) (r3 : Rd w 0 (intsT X.d.ho) (.slice a3 l3 c3)) (r4 : Rd w 0 (intsT X.d.wd) (.slice a4 l4 c4)) (hz : szT 6 (trs (xsT X)) <= 1048576) :
 Calls Tryz.prog 72 #[.agg (xsL X a1 l1 c1 a2 l2 c2 a3 l3 c3 a4 l4 c4).toArray] w fun e w' => ∃ b1 d1 b2 d2 b3 d3 b4 d4, e = .returned (.agg (xsL X b1 l1 d1 b2 l2 d2 b3 l3 d3 b4 l4 d4).toArray) /\ Own1 w' w.heap.size w'.heap.size (xsT X) (xsL X b1 l1 d1 b2 l2 d2 b3 l3 d3 b4 l4 d4) /\ Below w.heap.size w w' := by
 obtain ⟨W, hW⟩ : ∃ W, W = ((w.alloc (.cells (xsL X a1 l1 c1 a2 l2 c2 a3 l3 c3 a4 l4 c4).toArray 122)).alloc (.cells #[.int .i64 0, .int .i64 0, .slice none 0 0, .slice none 0 0, .slice none 0 0, .slice none 0 0] 128)).alloc (.cells (#[.int .i64 X.po, .int .i64 X.un, .slice none 0 0, .slice none 0 0, .slice none 0 0, .slice none 0 0] : Array Value) 128) := ⟨_, rfl⟩
 have bW : Below w.heap.size w W := by rw [hW]; exact bel_nx (bel_nx (bel_alloc w _) (bel_alloc _ _)) (bel_alloc _ _)
 have A0 : Blk W w.heap.size 122 (xsL X a1 l1 c1 a2 l2 c2 a3 l3 c3 a4 l4 c4).toArray := by rw [hW]; exact ((Blk.new w _ _).below (bel_alloc _ _)).below (bel_alloc _ _)
 have R0 : Blk W (w.heap.size + 1) 128 #[.int .i64 0, .int .i64 0, .slice none 0 0, .slice none 0 0, .slice none 0 0, .slice none 0 0] := by
  rw [hW]; have := (Blk.new (w.alloc (.cells (xsL X a1 l1 c1 a2 l2 c2 a3 l3 c3 a4 l4 c4).toArray 122)) #[.int .i64 0, .int .i64 0, .slice none 0 0, .slice none 0 0, .slice none 0 0, .slice none 0 0] 128).below (bel_alloc _ (.cells (#[.int .i64 X.po, .int .i64 X.un, .slice none 0 0, .slice none 0 0, .slice none 0 0, .slice none 0 0] : Array Value) 128)); simpa using this
 have O0 : Blk W (w.heap.size + 1 + 1) 128 (#[.int .i64 X.po, .int .i64 X.un, .slice none 0 0, .slice none 0 0, .slice none 0 0, .slice none 0 0] : Array Value) := by
  rw [hW]; have := Blk.new ((w.alloc (.cells (xsL X a1 l1 c1 a2 l2 c2 a3 l3 c3 a4 l4 c4).toArray 122)).alloc (.cells #[.int .i64 0, .int .i64 0, .slice none 0 0, .slice none 0 0, .slice none 0 0, .slice none 0 0] 128)) (#[.int .i64 X.po, .int .i64 X.un, .slice none 0 0, .slice none 0 0, .slice none 0 0, .slice none 0 0] : Array Value) 128; simpa using this
 have hs0 : W.heap.size = (w.heap.size + 1 + 1 + 1) := by rw [hW]; simp
 have HZ : Hid (szT 4 (trs (xdT X.d)) <= 1048576) := by
  rw [szT_xs] at hz
  show szT 4 (trs (xdT X.d)) <= 1048576
  try simp only [szT_q, szT_a, szT_p, szT_d, szT_t, szT_xr, szT_xc, szT_xl, szT_xn, szT_xf, szT_xd, szT_xs, szT_xk, szT_xy, szT_xe, szT_xw, true_and]
  omega
 have HR : Hid (Rd w 0 (boolsT X.d.co) (.slice a1 l1 c1) /\ Rd w 0 (boolsT X.d.ip) (.slice a2 l2 c2) /\ Rd w 0 (intsT X.d.ho) (.slice a3 l3 c3) /\ Rd w 0 (intsT X.d.wd) (.slice a4 l4 c4)) := ⟨r1, r2, r3, r4⟩
 have G0 : Hid (Below w.heap.size w W /\ Blk W w.heap.size 122 (xsL X a1 l1 c1 a2 l2 c2 a3 l3 c3 a4 l4 c4).toArray /\ Blk W (w.heap.size + 1) 128 #[.int .i64 0, .int .i64 0, .slice none 0 0, .slice none 0 0, .slice none 0 0, .slice none 0 0] /\ Blk W (w.heap.size + 1 + 1) 128 (#[.int .i64 X.po, .int .i64 X.un, .slice none 0 0, .slice none 0 0, .slice none 0 0, .slice none 0 0] : Array Value) /\ (w.heap.size + 1 + 1 + 1) <= W.heap.size /\ Own1 W (w.heap.size + 1 + 1 + 1) W.heap.size ([]) ([])) := ⟨bW, A0, R0, O0, by omega, Own1.nil _ _ _⟩
 clear bW A0 R0 O0 hs0 hz r1 r2 r3 r4
 go_enter Tryz.func72, Tryz.ntmps72
 go_upto_region 4 with fail
 rw [<- hW]
 clear hW
 obtain ⟨⟨y0, y1, y2, y3, y4, y5⟩, yf⟩ := G0.out.2.1.tc6
 clear yf
 go_wp2_with fail
 refine (toDevice_m X.d a1 l1 c1 a2 l2 c2 a3 l3 c3 a4 l4 c4 _ (HR.out.1.below G0.out.1) (HR.out.2.1.below G0.out.1) (HR.out.2.2.1.below G0.out.1) (HR.out.2.2.2.below G0.out.1) HZ.out).mono ?_
 rintro e w1 ⟨b1, d1, b2, d2, b3, d3, b4, d4, rfl, q, hb1⟩
 clear y0 y1 y2 y3 y4 y5
 have O1 := G0.out.2.2.2.1.below hb1
 obtain ⟨⟨z0, z1, z2, z3, z4, z5⟩, zf⟩ := O1.tc6
 have zg2 := zf 2
 have zg3 := zf 3
 have zg4 := zf 4
 have zg5 := zf 5
 obtain ⟨W1, hW1⟩ : ∃ W9, W9 = setL w1 (w.heap.size + 1 + 1) 2 [.slice b1 l1 d1, .slice b2 l2 d2, .slice b3 l3 d3, .slice b4 l4 d4] := ⟨_, rfl⟩
 have G1 : Hid (Below w.heap.size w W1 /\ Blk W1 w.heap.size 122 (xsL X a1 l1 c1 a2 l2 c2 a3 l3 c3 a4 l4 c4).toArray /\ Blk W1 (w.heap.size + 1) 128 #[.int .i64 0, .int .i64 0, .slice none 0 0, .slice none 0 0, .slice none 0 0, .slice none 0 0] /\ Blk W1 (w.heap.size + 1 + 1) 128 (#[.int .i64 X.po, .int .i64 X.un, .slice b1 l1 d1, .slice b2 l2 d2, .slice b3 l3 d3, .slice b4 l4 d4] : Array Value) /\ (w.heap.size + 1 + 1 + 1) <= W1.heap.size /\ Own1 W1 (w.heap.size + 1 + 1 + 1) W1.heap.size ([] ++ (xdT X.d)) ([] ++ (xdL X.d b1 l1 d1 b2 l2 d2 b3 l3 d3 b4 l4 d4))) := by
  have hg : w1.grownBy W1 (some (w.heap.size + 1 + 1)) := by rw [hW1]; exact setL_gw _ _ _
  have hs9 := G0.out.2.2.2.2.1
  have hs8 := hb1.size
  have hs7 := hg.size
  refine ⟨by rw [hW1]; exact setL_below (by omega) _ _ _ (bel_nx G0.out.1 hb1), by rw [hW1]; exact Blk.stNe (by omega) _ _ (G0.out.2.1.below hb1), by rw [hW1]; exact Blk.stNe (by omega) _ _ (G0.out.2.2.1.below hb1), by rw [hW1, show (#[.int .i64 X.po, .int .i64 X.un, .slice b1 l1 d1, .slice b2 l2 d2, .slice b3 l3 d3, .slice b4 l4 d4] : Array Value) = wrA (#[.int .i64 X.po, .int .i64 X.un, .slice none 0 0, .slice none 0 0, .slice none 0 0, .slice none 0 0] : Array Value) 2 [.slice b1 l1 d1, .slice b2 l2 d2, .slice b3 l3 d3, .slice b4 l4 d4] from (by simp [wrA])]; exact Blk.stL _ _ O1, by omega, G0.out.2.2.2.2.2.next hb1 q hg (by omega) hs9⟩
 have hX1 : W1 = ((((w1.setCell ⟨w.heap.size + 1 + 1, 2, none⟩ (.slice b1 l1 d1)).setCell ⟨w.heap.size + 1 + 1, 3, none⟩ (.slice b2 l2 d2)).setCell ⟨w.heap.size + 1 + 1, 4, none⟩ (.slice b3 l3 d3)).setCell ⟨w.heap.size + 1 + 1, 5, none⟩ (.slice b4 l4 d4)) := by rw [hW1]; simp only [setL, Nat.reduceAdd, Nat.zero_add]
 clear O1 hb1 hW1 q
 go_upto_region 5 with fail
 rw [<- hX1]
 clear hX1 zf z0 z1 z2 z3 z4 z5 zg2 zg3 zg4 zg5
 obtain ⟨W9, hW9⟩ : ∃ W9, W9 = setL W1 (w.heap.size + 1) 0 (xsL X b1 l1 d1 b2 l2 d2 b3 l3 d3 b4 l4 d4) := ⟨_, rfl⟩
 have H9 : Hid (Own1 W9 w.heap.size W9.heap.size (xsT X) (xsL X b1 l1 d1 b2 l2 d2 b3 l3 d3 b4 l4 d4) /\ Below w.heap.size w W9 /\ Blk W9 (w.heap.size + 1) 128 (xsL X b1 l1 d1 b2 l2 d2 b3 l3 d3 b4 l4 d4).toArray) := by
  have hg : W1.grownBy W9 (some (w.heap.size + 1)) := by rw [hW9]; exact setL_gw _ _ _
  have hs9 := G1.out.2.2.2.2.1
  have hs7 := hg.size
  exact ⟨(Own1.leaf (.int .i64 X.po) (Own1.leaf (.int .i64 X.un) ((G1.out.2.2.2.2.2.kept hg (by omega) (Nat.le_refl _)).mono (lo' := w.heap.size) (by omega) hs7) (by omega)) (by omega)), by rw [hW9]; exact setL_below (by omega) _ _ _ G1.out.1, by rw [hW9, show (xsL X b1 l1 d1 b2 l2 d2 b3 l3 d3 b4 l4 d4).toArray = wrA (#[.int .i64 0, .int .i64 0, .slice none 0 0, .slice none 0 0, .slice none 0 0, .slice none 0 0] : Array Value) 0 (xsL X b1 l1 d1 b2 l2 d2 b3 l3 d3 b4 l4 d4) from (by simp [wrA])]; exact Blk.stL _ _ G1.out.2.2.1⟩
 have hr := G1.out.2.2.2.1.all
 have ht := G1.out.2.2.1.there 0 6 (by simp)
 clear G1
 refine wp_region_lit ?_
 refine wpList_load_mid rfl 128 (.tmp 3) rfl (w.heap.size + 1 + 1) 0 rfl (xsL X b1 l1 d1 b2 l2 d2 b3 l3 d3 b4 l4 d4) _ hr Tryz.underlying128 rfl (by kernel_rfl) ?_
 refine wpList_store_mid rfl 128 (.tmp 2) (.tmp 14) rfl (w.heap.size + 1) 0 (xsL X b1 l1 d1 b2 l2 d2 b3 l3 d3 b4 l4 d4).toArray rfl rfl ht (by kernel_rfl) (by simp [Value.oneCell']) ?_
 rw [setCells_L, <- hW9]
 clear hW9 hr ht
 refine wpList_nil ?_
 go_wp2
 obtain ⟨⟨y0, y1, y2, y3, y4, y5⟩, yf⟩ := H9.out.2.2.tc6
 refine bodyPost_ret (v := .agg (xsL X b1 l1 d1 b2 l2 d2 b3 l3 d3 b4 l4 d4).toArray) (by simp [results, Tryz.results72, go_sem, y0, y1, y2, y3, y4, y5]) rfl ⟨b1, d1, b2, d2, b3, d3, b4, d4, rfl, H9.out.1, H9.out.2.1⟩
theorem toPostS_m (n : Nat) (f : Nat -> VS) (a : Option Addr) (n' cap : Nat) (w : World) (hs : Rd w 0 (.list 6 n (fun k => trs (xsT (f k)))) (.slice a n' cap)) (hz : (Tr.list 6 n (fun k => trs (xsT (f k)))).sz <= 1048576) :
 Calls Tryz.prog 27 #[.slice a n' cap] w fun e w' => ∃ b d, e = .returned (.slice b n' d) /\ OwnS w' w.heap.size (.list 6 n (fun k => trs (xsT (f k)))) (.slice b n' d) /\ Below w.heap.size w w' := by
 obtain ⟨a9, c9, h9, -, hn⟩ := hs.shape
 simp only [Value.slice.injEq] at h9
 obtain ⟨-, rfl, -⟩ := h9
 clear a9 c9
 have hn1 : n' <= 1048576 := by rw [Tr.sz_list] at hz; omega
 have HZ : Hid (∀ k, k < n' -> szT 6 (trs (xsT (f k))) <= 1048576) := by
  show ∀ k, k < n' -> szT 6 (trs (xsT (f k))) <= 1048576
  intro k hk
  rw [Tr.sz_list] at hz
  have := sumN_at (fun k => szT 6 (trs (xsT (f k)))) hk
  omega
 have hmk := run_make_st (P := Tryz.prog) 57 128 (.agg #[.int .i64 0, .int .i64 0, .slice none 0 0, .slice none 0 0, .slice none 0 0, .slice none 0 0]) 6 112 Tryz.underlying57 (by kernel_rfl) .i64 .i64 n' (by omega) (by omega)
 have HS : Hid (Rd w 0 (.list 6 n' (fun k => trs (xsT (f k)))) (.slice a n' cap) /\ n' <= maxLen) := ⟨hs, hn⟩
 clear hs hz hn
 go_enter Tryz.func27, Tryz.ntmps27
 go_wp2
 clear hmk
 go_loopw [4] (fun i wr => ∃ (k : Nat), k <= n' /\ i = .int .i64 k /\ LsI wr w.heap.size 128 6 n' (fun i => xsT (f i)) k /\ Below w.heap.size w wr) (fun i _ => n' - (intOf i).toNat)
 case atStart => exact ⟨0, Nat.zero_le _, rfl, LsI.start (RowS.made w (#[.int .i64 0, .int .i64 0, .slice none 0 0, .slice none 0 0, .slice none 0 0, .slice none 0 0]).toList n' _ (by simp)), (Below.refl _ _).alloc (Nat.le_refl _) _⟩
 case round =>
  obtain ⟨k, hk, rfl, hrow, hb⟩ := hrel
  by_cases hlt : k < n'
  ·have hi : (k : Int) < (n' : Int) := by omega
   obtain ⟨b, off, vs, rfl, _, hb0, hlen, hr, hrd⟩ := (HS.out.1.below hb).at hlt
   obtain ⟨a1, c1, a2, c2, a3, c3, a4, c4, rfl, r1, r2, r3, r4⟩ := VS.cells hrd hlen
   clear hlen hrd
   have d09 : wr.cell? ⟨b, off + k * 6, none⟩ = _ := hr 0 _ rfl
   have d19 : wr.cell? ⟨b, off + k * 6 + 1, none⟩ = _ := hr 1 _ rfl
   have d29 : wr.cell? ⟨b, off + k * 6 + 2, none⟩ = _ := hr 2 _ rfl
   have d39 : wr.cell? ⟨b, off + k * 6 + 3, none⟩ = _ := hr 3 _ rfl
   have d49 : wr.cell? ⟨b, off + k * 6 + 4, none⟩ = _ := hr 4 _ rfl
   have d59 : wr.cell? ⟨b, off + k * 6 + 5, none⟩ = _ := hr 5 _ rfl
   have HK : Hid (LsI wr w.heap.size 128 6 n' (fun i => xsT (f i)) k /\ True /\ Below w.heap.size w wr /\ Rd wr 0 (boolsT (f k).d.co) (.slice a1 ((f k).d.co.length) c1) /\ Rd wr 0 (boolsT (f k).d.ip) (.slice a2 ((f k).d.ip.length) c2) /\ Rd wr 0 (intsT (f k).d.ho) (.slice a3 ((f k).d.ho.length) c3) /\ Rd wr 0 (intsT (f k).d.wd) (.slice a4 ((f k).d.wd.length) c4)) := ⟨hrow, trivial, hb, r1, r2, r3, r4⟩
   clear hrow hb hr hb0 r1 r2 r3 r4
   go_wp2_with fail
   refine (toPost_m (f k) a1 ((f k).d.co.length) c1 a2 ((f k).d.ip.length) c2 a3 ((f k).d.ho.length) c3 a4 ((f k).d.wd.length) c4 _ HK.out.2.2.2.1 HK.out.2.2.2.2.1 HK.out.2.2.2.2.2.1 HK.out.2.2.2.2.2.2 (HZ.out k hlt)).mono ?_
   rintro e w1 ⟨b1, d1, b2, d2, b3, d3, b4, d4, rfl, q1, hb1⟩
   obtain ⟨F1, R1⟩ := (HK.out.1.cg (Cg.ofBelow (S := fun _ => False) hb1) (fun b h => h.elim)).row
   obtain ⟨rx0, ry0⟩ : ∃ v, w1.cell? ⟨w.heap.size, k * 6, none⟩ = some v := R1.ex hlt (j := 0) (by decide)
   obtain ⟨rx1, ry1⟩ : ∃ v, w1.cell? ⟨w.heap.size, k * 6 + 1, none⟩ = some v := R1.ex hlt (j := 1) (by decide)
   obtain ⟨rx2, ry2⟩ : ∃ v, w1.cell? ⟨w.heap.size, k * 6 + 2, none⟩ = some v := R1.ex hlt (j := 2) (by decide)
   obtain ⟨rx3, ry3⟩ : ∃ v, w1.cell? ⟨w.heap.size, k * 6 + 3, none⟩ = some v := R1.ex hlt (j := 3) (by decide)
   obtain ⟨rx4, ry4⟩ : ∃ v, w1.cell? ⟨w.heap.size, k * 6 + 4, none⟩ = some v := R1.ex hlt (j := 4) (by decide)
   obtain ⟨rx5, ry5⟩ : ∃ v, w1.cell? ⟨w.heap.size, k * 6 + 5, none⟩ = some v := R1.ex hlt (j := 5) (by decide)
   obtain ⟨W2, hW2⟩ : ∃ W2, W2 = setL w1 w.heap.size (k * 6) (xsL (f k) b1 ((f k).d.co.length) d1 b2 ((f k).d.ip.length) d2 b3 ((f k).d.ho.length) d3 b4 ((f k).d.wd.length) d4) := ⟨_, rfl⟩
   have H2 : Hid (LsI W2 w.heap.size 128 6 n' (fun i => xsT (f i)) (k + 1) /\ Below w.heap.size w W2) := ⟨by rw [hW2]; exact HK.out.1.step (S := fun _ => False) hlt (Cg.ofBelow hb1) (fun b h => h.elim) q1 rfl, by rw [hW2]; exact setL_below (Nat.le_refl _) _ _ _ (bel_nx HK.out.2.2.1 hb1)⟩
   have hW2' : W2 = ((((((w1.setCell ⟨w.heap.size, k * 6, none⟩ (.int .i64 (f k).po)).setCell ⟨w.heap.size, k * 6 + 1, none⟩ (.int .i64 (f k).un)).setCell ⟨w.heap.size, k * 6 + 2, none⟩ (.slice b1 ((f k).d.co.length) d1)).setCell ⟨w.heap.size, k * 6 + 3, none⟩ (.slice b2 ((f k).d.ip.length) d2)).setCell ⟨w.heap.size, k * 6 + 4, none⟩ (.slice b3 ((f k).d.ho.length) d3)).setCell ⟨w.heap.size, k * 6 + 5, none⟩ (.slice b4 ((f k).d.wd.length) d4)) := by rw [hW2]; simp only [setL, Nat.reduceAdd, Nat.zero_add, Nat.add_zero, Nat.add_assoc]
   have HE : Hid (∀ j, w1.frozen? ⟨w.heap.size, j, none⟩ = false) := R1.fro
   have qf0 := HE.out (k * 6)
   have qf1 := HE.out (k * 6 + 1)
   have qf2 := HE.out (k * 6 + 2)
   have qf3 := HE.out (k * 6 + 3)
   have qf4 := HE.out (k * 6 + 4)
   have qf5 := HE.out (k * 6 + 5)
   clear R1 hb1 HK d09 d19 d29 d39 d49 d59 hW2 HE q1
   go_wp2
   rw [<- hW2']
   clear hW2'
   go_roundw
   case rel =>
    exact ⟨k + 1, by omega, by go_num, H2.out.1, H2.out.2⟩
   case measure => simp [intOf]; omega
  have hi : ¬ (k : Int) < (n' : Int) := by omega
  have e9 : k = n' := by omega
  subst e9
  have HR : Hid (LsI wr w.heap.size 128 6 k (fun i => xsT (f i)) k /\ Below w.heap.size w wr) := ⟨hrow, hb⟩
  clear hrow hb
  go_wp2
  go_ret
  exact ⟨_, _, rfl, HR.out.1.done (Nat.le_refl _) HS.out.2 (fun _ _ => rfl), HR.out.2⟩
theorem copyPost_m (X : VS) (a1 : Option Addr) (l1 c1 : Nat) (a2 : Option Addr) (l2 c2 : Nat) (a3 : Option Addr) (l3 c3 : Nat) (a4 : Option Addr) (l4 c4 : Nat) (w : World) (r1 : Rd w 0 (boolsT X.d.co) (.slice a1 l1 c1)) (r2 : Rd w 0 (boolsT X.d.ip) (.slice a2 l2 c2)) (r3 : Rd w 0 (intsT X.d.ho) (.slice a3 l3 c3)) (r4 : Rd w 0 (intsT X.d.wd) (.slice a4 l4 c4)) (hz : szT 6 (trs (xsT X)) <= 1048576) :
 Calls Tryz.prog 77 #[.agg (xsL X a1 l1 c1 a2 l2 c2 a3 l3 c3 a4 l4 c4).toArray] w fun e w' => ∃ b1 d1 b2 d2 b3 d3 b4 d4, e = .returned (.agg (xsL X b1 l1 d1 b2 l2 d2 b3 l3 d3 b4 l4 d4).toArray) /\ Own1 w' w.heap.size w'.heap.size (xsT X) (xsL X b1 l1 d1 b2 l2 d2 b3 l3 d3 b4 l4 d4) /\ Below w.heap.size w w' := by
 obtain ⟨W, hW⟩ : ∃ W, W = (w.alloc (.cells (xsL X a1 l1 c1 a2 l2 c2 a3 l3 c3 a4 l4 c4).toArray 128)).alloc (.cells #[.int .i64 0, .int .i64 0, .slice none 0 0, .slice none 0 0, .slice none 0 0, .slice none 0 0] 128) := ⟨_, rfl⟩
 have bW : Below w.heap.size w W := by rw [hW]; exact bel_nx (bel_alloc w _) (bel_alloc _ _)
 have A0 : Blk W w.heap.size 128 (xsL X a1 l1 c1 a2 l2 c2 a3 l3 c3 a4 l4 c4).toArray := by rw [hW]; exact (Blk.new w _ _).below (bel_alloc _ _)
 have R0 : Blk W (w.heap.size + 1) 128 #[.int .i64 0, .int .i64 0, .slice none 0 0, .slice none 0 0, .slice none 0 0, .slice none 0 0] := by
  rw [hW]; have := Blk.new (w.alloc (.cells (xsL X a1 l1 c1 a2 l2 c2 a3 l3 c3 a4 l4 c4).toArray 128)) #[.int .i64 0, .int .i64 0, .slice none 0 0, .slice none 0 0, .slice none 0 0, .slice none 0 0] 128; simpa using this
 have hs0 : W.heap.size = (w.heap.size + 1 + 1) := by rw [hW]; simp
 have HZ : Hid (szT 4 (trs (xdT X.d)) <= 1048576) := by
  rw [szT_xs] at hz
  show szT 4 (trs (xdT X.d)) <= 1048576
  try simp only [szT_xd]
  omega
 have HR : Hid (Rd w 0 (boolsT X.d.co) (.slice a1 l1 c1) /\ Rd w 0 (boolsT X.d.ip) (.slice a2 l2 c2) /\ Rd w 0 (intsT X.d.ho) (.slice a3 l3 c3) /\ Rd w 0 (intsT X.d.wd) (.slice a4 l4 c4)) := ⟨r1, r2, r3, r4⟩
 have G0 : Hid (Below w.heap.size w W /\ Blk W w.heap.size 128 (xsL X a1 l1 c1 a2 l2 c2 a3 l3 c3 a4 l4 c4).toArray /\ Blk W (w.heap.size + 1) 128 #[.int .i64 0, .int .i64 0, .slice none 0 0, .slice none 0 0, .slice none 0 0, .slice none 0 0] /\ (w.heap.size + 1 + 1) <= W.heap.size) := ⟨bW, A0, R0, by omega⟩
 clear bW A0 R0 hs0 hz r1 r2 r3 r4
 go_enter Tryz.func77, Tryz.ntmps77
 go_upto_region 1 with fail
 rw [<- hW]
 clear hW
 obtain ⟨⟨y0, y1, y2, y3, y4, y5⟩, yf⟩ := G0.out.2.1.tc6
 clear yf
 go_wp2_with fail
 refine (copyDevice_m X.d a1 l1 c1 a2 l2 c2 a3 l3 c3 a4 l4 c4 _ (HR.out.1.below G0.out.1) (HR.out.2.1.below G0.out.1) (HR.out.2.2.1.below G0.out.1) (HR.out.2.2.2.below G0.out.1) HZ.out).mono ?_
 rintro e w1 ⟨b1, d1, b2, d2, b3, d3, b4, d4, rfl, q, hb1⟩
 clear y0 y1 y2 y3 y4 y5
 have O1 := G0.out.2.1.below hb1
 obtain ⟨⟨z0, z1, z2, z3, z4, z5⟩, zf⟩ := O1.tc6
 have zg2 := zf 2
 have zg3 := zf 3
 have zg4 := zf 4
 have zg5 := zf 5
 obtain ⟨W1, hW1⟩ : ∃ W9, W9 = setL w1 w.heap.size 2 [.slice b1 l1 d1, .slice b2 l2 d2, .slice b3 l3 d3, .slice b4 l4 d4] := ⟨_, rfl⟩
 have G1 : Hid (Below w.heap.size w W1 /\ Blk W1 w.heap.size 128 (xsL X b1 l1 d1 b2 l2 d2 b3 l3 d3 b4 l4 d4).toArray /\ Blk W1 (w.heap.size + 1) 128 #[.int .i64 0, .int .i64 0, .slice none 0 0, .slice none 0 0, .slice none 0 0, .slice none 0 0] /\ (w.heap.size + 1 + 1) <= W1.heap.size /\ Own1 W1 (w.heap.size + 1 + 1) W1.heap.size (xdT X.d) (xdL X.d b1 l1 d1 b2 l2 d2 b3 l3 d3 b4 l4 d4)) := by
  have hg : w1.grownBy W1 (some w.heap.size) := by rw [hW1]; exact setL_gw _ _ _
  have hs9 := G0.out.2.2.2
  have hs8 := hb1.size
  have hs7 := hg.size
  refine ⟨by rw [hW1]; exact setL_below (Nat.le_refl _) _ _ _ (bel_nx G0.out.1 hb1), by rw [hW1, show (xsL X b1 l1 d1 b2 l2 d2 b3 l3 d3 b4 l4 d4).toArray = wrA (#[.int .i64 X.po, .int .i64 X.un, .slice a1 l1 c1, .slice a2 l2 c2, .slice a3 l3 c3, .slice a4 l4 c4] : Array Value) 2 [.slice b1 l1 d1, .slice b2 l2 d2, .slice b3 l3 d3, .slice b4 l4 d4] from (by simp [wrA])]; exact Blk.stL _ _ O1, by rw [hW1]; exact Blk.stNe (by omega) _ _ (G0.out.2.2.1.below hb1), by omega, ((q.mono hs9 (Nat.le_refl _)).kept hg (by omega) (Nat.le_refl _)).mono (Nat.le_refl _) hs7⟩
 have hX1 : W1 = ((((w1.setCell ⟨w.heap.size, 2, none⟩ (.slice b1 l1 d1)).setCell ⟨w.heap.size, 3, none⟩ (.slice b2 l2 d2)).setCell ⟨w.heap.size, 4, none⟩ (.slice b3 l3 d3)).setCell ⟨w.heap.size, 5, none⟩ (.slice b4 l4 d4)) := by rw [hW1]; simp only [setL, Nat.reduceAdd, Nat.zero_add]
 clear O1 hb1 hW1 q
 go_upto_region 2 with fail
 rw [<- hX1]
 clear hX1 zf z0 z1 z2 z3 z4 z5 zg2 zg3 zg4 zg5
 obtain ⟨W9, hW9⟩ : ∃ W9, W9 = setL W1 (w.heap.size + 1) 0 (xsL X b1 l1 d1 b2 l2 d2 b3 l3 d3 b4 l4 d4) := ⟨_, rfl⟩
 have H9 : Hid (Own1 W9 w.heap.size W9.heap.size (xsT X) (xsL X b1 l1 d1 b2 l2 d2 b3 l3 d3 b4 l4 d4) /\ Below w.heap.size w W9 /\ Blk W9 (w.heap.size + 1) 128 (xsL X b1 l1 d1 b2 l2 d2 b3 l3 d3 b4 l4 d4).toArray) := by
  have hg : W1.grownBy W9 (some (w.heap.size + 1)) := by rw [hW9]; exact setL_gw _ _ _
  have hs9 := G1.out.2.2.2.1
  have hs7 := hg.size
  exact ⟨(Own1.leaf (.int .i64 X.po) (Own1.leaf (.int .i64 X.un) ((G1.out.2.2.2.2.kept hg (by omega) (Nat.le_refl _)).mono (lo' := w.heap.size) (by omega) hs7) (by omega)) (by omega)), by rw [hW9]; exact setL_below (by omega) _ _ _ G1.out.1, by rw [hW9, show (xsL X b1 l1 d1 b2 l2 d2 b3 l3 d3 b4 l4 d4).toArray = wrA (#[.int .i64 0, .int .i64 0, .slice none 0 0, .slice none 0 0, .slice none 0 0, .slice none 0 0] : Array Value) 0 (xsL X b1 l1 d1 b2 l2 d2 b3 l3 d3 b4 l4 d4) from (by simp [wrA])]; exact Blk.stL _ _ G1.out.2.2.1⟩
 have hr := G1.out.2.1.all
 have ht := G1.out.2.2.1.there 0 6 (by simp)
 clear G1
 refine wp_region_lit ?_
 refine wpList_load_mid rfl 128 (.tmp 1) rfl w.heap.size 0 rfl (xsL X b1 l1 d1 b2 l2 d2 b3 l3 d3 b4 l4 d4) _ hr Tryz.underlying128 rfl (by kernel_rfl) ?_
 refine wpList_store_mid rfl 128 (.tmp 2) (.tmp 7) rfl (w.heap.size + 1) 0 (xsL X b1 l1 d1 b2 l2 d2 b3 l3 d3 b4 l4 d4).toArray rfl rfl ht (by kernel_rfl) (by simp [Value.oneCell']) ?_
 rw [setCells_L, <- hW9]
 clear hW9 hr ht
 refine wpList_nil ?_
 go_wp2
 obtain ⟨⟨y0, y1, y2, y3, y4, y5⟩, yf⟩ := H9.out.2.2.tc6
 refine bodyPost_ret (v := .agg (xsL X b1 l1 d1 b2 l2 d2 b3 l3 d3 b4 l4 d4).toArray) (by simp [results, Tryz.results77, go_sem, y0, y1, y2, y3, y4, y5]) rfl ⟨b1, d1, b2, d2, b3, d3, b4, d4, rfl, H9.out.1, H9.out.2.1⟩
theorem copiesPost_m (n : Nat) (f : Nat -> VS) (a : Option Addr) (n' cap : Nat) (w : World) (hs : Rd w 0 (.list 6 n (fun k => trs (xsT (f k)))) (.slice a n' cap)) (hz : (Tr.list 6 n (fun k => trs (xsT (f k)))).sz <= 1048576) :
 Calls Tryz.prog 76 #[.slice a n' cap, .func (.func 77) #[] #[]] w fun e w' => ∃ b d, e = .returned (.slice b n' d) /\ OwnS w' w.heap.size (.list 6 n (fun k => trs (xsT (f k)))) (.slice b n' d) /\ Below w.heap.size w w' := by
 obtain ⟨a9, c9, h9, -, hn⟩ := hs.shape
 simp only [Value.slice.injEq] at h9
 obtain ⟨-, rfl, -⟩ := h9
 clear a9 c9
 have hn1 : n' <= 1048576 := by rw [Tr.sz_list] at hz; omega
 have HZ : Hid (∀ k, k < n' -> szT 6 (trs (xsT (f k))) <= 1048576) := by
  show ∀ k, k < n' -> szT 6 (trs (xsT (f k))) <= 1048576
  intro k hk
  rw [Tr.sz_list] at hz
  have := sumN_at (fun k => szT 6 (trs (xsT (f k)))) hk
  omega
 have hmk := run_make_st (P := Tryz.prog) 57 128 (.agg #[.int .i64 0, .int .i64 0, .slice none 0 0, .slice none 0 0, .slice none 0 0, .slice none 0 0]) 6 112 Tryz.underlying57 (by kernel_rfl) .i64 .i64 n' (by omega) (by omega)
 have HS : Hid (Rd w 0 (.list 6 n' (fun k => trs (xsT (f k)))) (.slice a n' cap) /\ n' <= maxLen) := ⟨hs, hn⟩
 clear hs hz hn
 go_enter Tryz.func76, Tryz.ntmps76
 go_wp2
 clear hmk
 go_loopw [13] (fun i wr => ∃ (k : Nat), k <= n' /\ i = .int .i64 k /\ LsI wr w.heap.size 128 6 n' (fun i => xsT (f i)) k /\ Below w.heap.size w wr) (fun i _ => n' - (intOf i).toNat)
 case atStart => exact ⟨0, Nat.zero_le _, rfl, LsI.start (RowS.made w (#[.int .i64 0, .int .i64 0, .slice none 0 0, .slice none 0 0, .slice none 0 0, .slice none 0 0]).toList n' _ (by simp)), (Below.refl _ _).alloc (Nat.le_refl _) _⟩
 case round =>
  obtain ⟨k, hk, rfl, hrow, hb⟩ := hrel
  by_cases hlt : k < n'
  ·have hi : (k : Int) < (n' : Int) := by omega
   obtain ⟨b, off, vs, rfl, _, hb0, hlen, hr, hrd⟩ := (HS.out.1.below hb).at hlt
   obtain ⟨a1, c1, a2, c2, a3, c3, a4, c4, rfl, r1, r2, r3, r4⟩ := VS.cells hrd hlen
   clear hlen hrd
   have d09 : wr.cell? ⟨b, off + k * 6, none⟩ = _ := hr 0 _ rfl
   have d19 : wr.cell? ⟨b, off + k * 6 + 1, none⟩ = _ := hr 1 _ rfl
   have d29 : wr.cell? ⟨b, off + k * 6 + 2, none⟩ = _ := hr 2 _ rfl
   have d39 : wr.cell? ⟨b, off + k * 6 + 3, none⟩ = _ := hr 3 _ rfl
   have d49 : wr.cell? ⟨b, off + k * 6 + 4, none⟩ = _ := hr 4 _ rfl
   have d59 : wr.cell? ⟨b, off + k * 6 + 5, none⟩ = _ := hr 5 _ rfl
   have HK : Hid (LsI wr w.heap.size 128 6 n' (fun i => xsT (f i)) k /\ True /\ Below w.heap.size w wr /\ Rd wr 0 (boolsT (f k).d.co) (.slice a1 ((f k).d.co.length) c1) /\ Rd wr 0 (boolsT (f k).d.ip) (.slice a2 ((f k).d.ip.length) c2) /\ Rd wr 0 (intsT (f k).d.ho) (.slice a3 ((f k).d.ho.length) c3) /\ Rd wr 0 (intsT (f k).d.wd) (.slice a4 ((f k).d.wd.length) c4)) := ⟨hrow, trivial, hb, r1, r2, r3, r4⟩
   clear hrow hb hr hb0 r1 r2 r3 r4
   go_wp2_with fail
   refine (copyPost_m (f k) a1 ((f k).d.co.length) c1 a2 ((f k).d.ip.length) c2 a3 ((f k).d.ho.length) c3 a4 ((f k).d.wd.length) c4 _ (HK.out.2.2.2.1.below (bel_alloc _ _)) (HK.out.2.2.2.2.1.below (bel_alloc _ _)) (HK.out.2.2.2.2.2.1.below (bel_alloc _ _)) (HK.out.2.2.2.2.2.2.below (bel_alloc _ _)) (HZ.out k hlt)).mono ?_
   rintro e w1 ⟨b1, d1, b2, d2, b3, d3, b4, d4, rfl, q1, hb1⟩
   have hb1 := bel_nx (bel_alloc wr _) hb1
   have q1 := q1.mono (lo' := wr.heap.size) (by simp) (Nat.le_refl _)
   obtain ⟨F1, R1⟩ := (HK.out.1.cg (Cg.ofBelow (S := fun _ => False) hb1) (fun b h => h.elim)).row
   obtain ⟨rx0, ry0⟩ : ∃ v, w1.cell? ⟨w.heap.size, k * 6, none⟩ = some v := R1.ex hlt (j := 0) (by decide)
   obtain ⟨rx1, ry1⟩ : ∃ v, w1.cell? ⟨w.heap.size, k * 6 + 1, none⟩ = some v := R1.ex hlt (j := 1) (by decide)
   obtain ⟨rx2, ry2⟩ : ∃ v, w1.cell? ⟨w.heap.size, k * 6 + 2, none⟩ = some v := R1.ex hlt (j := 2) (by decide)
   obtain ⟨rx3, ry3⟩ : ∃ v, w1.cell? ⟨w.heap.size, k * 6 + 3, none⟩ = some v := R1.ex hlt (j := 3) (by decide)
   obtain ⟨rx4, ry4⟩ : ∃ v, w1.cell? ⟨w.heap.size, k * 6 + 4, none⟩ = some v := R1.ex hlt (j := 4) (by decide)
   obtain ⟨rx5, ry5⟩ : ∃ v, w1.cell? ⟨w.heap.size, k * 6 + 5, none⟩ = some v := R1.ex hlt (j := 5) (by decide)
   obtain ⟨W2, hW2⟩ : ∃ W2, W2 = setL w1 w.heap.size (k * 6) (xsL (f k) b1 ((f k).d.co.length) d1 b2 ((f k).d.ip.length) d2 b3 ((f k).d.ho.length) d3 b4 ((f k).d.wd.length) d4) := ⟨_, rfl⟩
   have H2 : Hid (LsI W2 w.heap.size 128 6 n' (fun i => xsT (f i)) (k + 1) /\ Below w.heap.size w W2) := ⟨by rw [hW2]; exact HK.out.1.step (S := fun _ => False) hlt (Cg.ofBelow hb1) (fun b h => h.elim) q1 rfl, by rw [hW2]; exact setL_below (Nat.le_refl _) _ _ _ (bel_nx HK.out.2.2.1 hb1)⟩
   have hW2' : W2 = ((((((w1.setCell ⟨w.heap.size, k * 6, none⟩ (.int .i64 (f k).po)).setCell ⟨w.heap.size, k * 6 + 1, none⟩ (.int .i64 (f k).un)).setCell ⟨w.heap.size, k * 6 + 2, none⟩ (.slice b1 ((f k).d.co.length) d1)).setCell ⟨w.heap.size, k * 6 + 3, none⟩ (.slice b2 ((f k).d.ip.length) d2)).setCell ⟨w.heap.size, k * 6 + 4, none⟩ (.slice b3 ((f k).d.ho.length) d3)).setCell ⟨w.heap.size, k * 6 + 5, none⟩ (.slice b4 ((f k).d.wd.length) d4)) := by rw [hW2]; simp only [setL, Nat.reduceAdd, Nat.zero_add, Nat.add_zero, Nat.add_assoc]
   have HE : Hid (∀ j, w1.frozen? ⟨w.heap.size, j, none⟩ = false) := R1.fro
   have qf0 := HE.out (k * 6)
   have qf1 := HE.out (k * 6 + 1)
   have qf2 := HE.out (k * 6 + 2)
   have qf3 := HE.out (k * 6 + 3)
   have qf4 := HE.out (k * 6 + 4)
   have qf5 := HE.out (k * 6 + 5)
   clear R1 hb1 HK d09 d19 d29 d39 d49 d59 hW2 HE q1
   go_wp2
   rw [<- hW2']
   clear hW2'
   go_roundw
   case rel =>
    exact ⟨k + 1, by omega, by go_num, H2.out.1, H2.out.2⟩
   case measure => simp [intOf]; omega
  have hi : ¬ (k : Int) < (n' : Int) := by omega
  have e9 : k = n' := by omega
  subst e9
  have HR : Hid (LsI wr w.heap.size 128 6 k (fun i => xsT (f i)) k /\ Below w.heap.size w wr) := ⟨hrow, hb⟩
  clear hrow hb
  go_wp2
  go_ret
  exact ⟨_, _, rfl, HR.out.1.done (Nat.le_refl _) HS.out.2 (fun _ _ => rfl), HR.out.2⟩
end Go.Proofs.YtkfgijkkffbpmaaGreat
namespace Go.Proofs.YtkfgijkkffbpmaaGreat
open Go.RowKit
end Go.Proofs.YtkfgijkkffbpmaaGreat
namespace Go.Proofs.YtkfgijkkffbpmaaGreat
open Go.RowKit
def wb (x : Int) : List Int := [x / 256 % 256, x % 256]
def wbs : List Int -> List Int
 | [] => []
 | x :: r => x / 256 % 256 :: x % 256 :: wbs r
def Nw (w w' : World) (e : Ending) (zs : List Int) : Prop :=
 ∃ g c n, e = .returned (.slice (some ⟨g, 0, none⟩) n c) /\ n = zs.length /\ Own w' w.heap.size (.slice (some ⟨g, 0, none⟩) n c) zs /\ Below w.heap.size w w'
end Go.Proofs.YtkfgijkkffbpmaaGreat
namespace Go.Proofs.YtkfgijkkffbpmaaGreat
open Go.RowKit
end Go.Proofs.YtkfgijkkffbpmaaGreat
namespace Go.Proofs.YtkfgijkkffbpmaaGreat
open Go.RowKit Go.Joins
theorem fl_push (F : Nat -> List Value) (vs : List Value) (n : Nat) : (List.range (n + 1)).flatMap (fun k => if k = n then vs else F k) = (List.range n).flatMap F ++ vs := by
 rw [List.range_succ, List.flatMap_append]
 congr 1
 ·have : ∀ l : List Nat, (∀ x ∈ l, x < n) -> l.flatMap (fun k => if k = n then vs else F k) = l.flatMap F := by
   intro l
   induction l with
   | nil => intro _; rfl
   | cons x r ih =>
    intro h
    rw [List.flatMap_cons, List.flatMap_cons, ih (fun y hy => h y (by simp [hy]))]
    have := h x (by simp)
    rw [if_neg (by omega)]
  exact this _ (fun x hx => List.mem_range.1 hx)
 simp
theorem fl_len (F : Nat -> List Value) (s : Nat) : ∀ n, (∀ k, k < n -> (F k).length = s) -> ((List.range n).flatMap F).length = n * s
 | 0, _ => by simp
 | n + 1, h => by
  rw [List.range_succ, List.flatMap_append, List.length_append, fl_len F s n (fun k hk => h k (by omega))]
  simp [h n (by omega), Nat.add_mul]
theorem fl_at (F : Nat -> List Value) (s : Nat) : ∀ n, (∀ k, k < n -> (F k).length = s) -> ∀ k j, k < n -> j < s -> ((List.range n).flatMap F)[k * s + j]? = (F k)[j]?
 | 0, _, k, j, hk, _ => by omega
 | n + 1, h, k, j, hk, hj => by
  have hl := fl_len F s n (fun k hk => h k (by omega))
  rw [List.range_succ, List.flatMap_append]
  by_cases e : k = n
  ·subst e
   rw [List.getElem?_append_right (by omega), hl, Nat.add_sub_cancel_left]
   simp
  have hk' : k < n := by omega
  have : (k + 1) * s <= n * s := Nat.mul_le_mul_right s hk'
  rw [Nat.add_mul, Nat.one_mul] at this
  rw [List.getElem?_append_left (by omega)]
  exact fl_at F s n (fun k hk => h k (by omega)) k j hk' hj
def ElG (w : World) (base : Nat) (v : Value) (ts : List Tr) (vs : List Value) : Prop :=
 ∃ K : Nat -> Sk, ∀ i u, vs[i]? = some u -> Fit w (trs ts i) (K i) u /\ ∀ b, (K i).bl b -> base <= b /\ v.ownBlock ≠ some b
theorem ElG.kept {w w' : World} {base : Nat} {v v' : Value} {ts : List Tr} {vs : List Value} (h : ElG w base v ts vs) (hg : w.grownBy w' v.ownBlock) (hv : v'.ownBlock = v.ownBlock \/ v'.ownBlock = some w.heap.size) : ElG w' base v' ts vs := by
 obtain ⟨K, h⟩ := h
 refine ⟨K, fun i u hu => ⟨(h i u hu).1.same hg.size (fun b hb => hg.block b ((h i u hu).1.lt hb) (fun e => ((h i u hu).2 b hb).2 e.symm)), fun b hb => ⟨((h i u hu).2 b hb).1, ?_⟩⟩⟩
 rcases hv with e | e
 ·rw [e]; exact ((h i u hu).2 b hb).2
 rw [e]
 intro q
 have := (h i u hu).1.lt hb
 have := Option.some.inj q
 omega
def LsG (w : World) (base : Nat) (e : TypeId) (s : Nat) (v : Value) (n : Nat) (f : Nat -> List Tr) : Prop :=
 ∃ F : Nat -> List Value, w.ownsRow base e s v n ((List.range n).flatMap F) /\ ∀ k, k < n -> (F k).length = s /\ ElG w base v (f k) (F k)
theorem LsG.below {w w' : World} {base : Nat} {e : TypeId} {s n : Nat} {v : Value} {f : Nat -> List Tr} (h : LsG w base e s v n f) (hb : Below w.heap.size w w') : LsG w' base e s v n f := by
 obtain ⟨F, h1, h2⟩ := h
 refine ⟨F, ?_, fun k hk => ⟨(h2 k hk).1, ?_⟩⟩
 ·refine World.ownsRow.kept h1 (grown_below hb (some w.heap.size)) ?_
  cases e : v.ownBlock with
  | none => exact .inl rfl
  | some k => exact .inr (fun e2 => by have := (World.ownsRow.lt h1 k e).2; simp at e2; omega)
 obtain ⟨K, h3⟩ := (h2 k hk).2
 exact ⟨K, fun i u hu => ⟨(h3 i u hu).1.below hb, (h3 i u hu).2⟩⟩
end Go.Proofs.YtkfgijkkffbpmaaGreat
namespace Go.Proofs.YtkfgijkkffbpmaaGreat
open Go.RowKit Go.Joins
def ReqPst (w w' : World) (e : Ending) (kd pl nn wa : Int) (ws : List Int) (bs : List Bool) : Prop :=
 ∃ r1 r2 l1 l2 c1 c2, e = .returned (.agg (rqL kd pl nn wa r1 r2 l1 l2 c1 c2)) /\ l1 = ws.length /\ l2 = bs.length /\ OwnI w' w.heap.size (.slice r1 l1 c1) ws /\ OwnB w' w.heap.size (.slice r2 l2 c2) bs /\ Below w.heap.size w w'
def RespPst (w w' : World) (e : Ending) (kd fl pl nn : Int) (ws : List Int) (bs : List Bool) : Prop :=
 ∃ r1 r2 l1 l2 c1 c2, e = .returned (.agg (rpL kd fl pl nn r1 r2 l1 l2 c1 c2)) /\ l1 = ws.length /\ l2 = bs.length /\ OwnI w' w.heap.size (.slice r1 l1 c1) ws /\ OwnB w' w.heap.size (.slice r2 l2 c2) bs /\ Below w.heap.size w w'
end Go.Proofs.YtkfgijkkffbpmaaGreat
namespace Go.Proofs.YtkfgijkkffbpmaaGreat
open Go.RowKit Go.Joins
theorem LsG.new (u : World) (base : Nat) (e : TypeId) (s : Nat) (f : Nat -> List Tr) (hb : base <= u.heap.size) : LsG (u.alloc (.cells #[] e)) base e s (.slice (some ⟨u.heap.size, 0, none⟩) 0 0) 0 f :=
 ⟨fun _ => [], ⟨by simp, .inr ⟨u.heap.size, 0, #[], rfl, hb, Blk.new u #[] e, by simp, by simp, by simp, by simp⟩⟩, fun k hk => absurd hk (Nat.not_lt_zero _)⟩
theorem LsG.lt {w : World} {base : Nat} {e : TypeId} {s n : Nat} {v : Value} {f : Nat -> List Tr} (h : LsG w base e s v n f) : ∀ k, v.ownBlock = some k -> base <= k /\ k < w.heap.size := by
 obtain ⟨F, h1, _⟩ := h
 exact fun k hk => World.ownsRow.lt h1 k hk
end Go.Proofs.YtkfgijkkffbpmaaGreat
namespace Go.Proofs.YtkfgijkkffbpmaaGreat
open Go.RowKit Go.Joins
theorem run_asg_x {P : Program} {ρ : Operand -> Value} {o : Oper} {u : World} {x : Operand} {v : Value} (ho : o.op = .assign x) (hx : ρ x = v) : (execOp ρ o).run P u = .ok (.value v) u := by
 unfold execOp
 simp only [ho, hx]
 rfl
theorem run_appG {w : World} (ty t e : TypeId) (sz by' : Nat) (z : Value)
 (ht : Tryz.prog.underlying t = some (.slice e)) (hinfo : (Tryz.prog.info? e).map (fun i => (i.zero, i.size, i.bytes)) = some (some z, sz, by')) (hzs : z.cells.size = sz) (hsz : 0 < sz) (hby : by' <= 10000)
 (base : Nat) (v : Value) (n : Nat) (f : Nat -> List Tr) (hown : LsG w base e sz v n f)
 (g c : Nat) (vs : List Value) (hvs : vs.length = sz) (hb : ∀ j u, vs[j]? = some u -> w.cell? ⟨g, j, none⟩ = some u) (h1 : ∀ u ∈ vs, u.oneCell' = true) (hel : ElG w base v (f n) vs) (hlen : n <= 2000000) (hbase : base <= w.heap.size) :
 ∃ v' w', (Builtin.append_ #[t, t] ty #[v, .slice (some ⟨g, 0, none⟩) 1 c]).run Tryz.prog w = .ok v' w' /\ LsG w' base e sz v' (n + 1) f /\ w.grownBy w' v.ownBlock /\ (∀ k, v.ownBlock = some k -> base <= k) := by
 obtain ⟨F, r1, r2⟩ := hown
 obtain ⟨i0, hi, hzz⟩ := Option.map_eq_some_iff.1 hinfo
 simp only [Prod.mk.injEq] at hzz
 obtain ⟨hz0, hz1, hz2⟩ := hzz
 obtain ⟨v', w', hrun, k1, k2, _, k4⟩ := run_append_own_at w base t ty e i0 z sz by' ht hi hz0 hz1 hz2 hzs hsz v n ((List.range n).flatMap F) r1 ⟨g, 0, none⟩ 1 c vs (by rw [hvs]; simp) (fun j u hu => by
  have e1 : (⟨g, 0, none⟩ : Addr).add j = ⟨g, j, none⟩ := by unfold Addr.add; split <;> simp_all
  rw [e1]
  exact hb j u hu) h1 (by unfold maxLen; omega) (by have : (n + 1) * by' <= 2000001 * 10000 := Nat.mul_le_mul (by omega) hby; omega) hbase
 refine ⟨v', w', hrun, ⟨fun k => if k = n then vs else F k, ?_, fun k hk => ?_⟩, k2, fun k hk => (World.ownsRow.lt r1 k hk).1⟩
 ·rw [fl_push]; exact k1
 by_cases e : k = n
 ·subst e
  simp only [if_true]
  exact ⟨hvs, hel.kept k2 k4⟩
 simp only [if_neg e]
 exact ⟨(r2 k (by omega)).1, (r2 k (by omega)).2.kept k2 k4⟩
def Fl (w : World) (lo : Nat) (ts : List Tr) (vs : List Value) : Prop := vs.length = ts.length /\ ∃ K : Nat -> Sk, ∀ i u, vs[i]? = some u -> Fit w (trs ts i) (K i) u /\ ∀ b, (K i).bl b -> lo <= b
theorem Own1.fl {w : World} {lo hi : Nat} {ts : List Tr} {vs : List Value} (h : Own1 w lo hi ts vs) : Fl w lo ts vs := by
 obtain ⟨K, h1, h2, h3, h4⟩ := h
 exact ⟨h1, K, fun i u hu => ⟨h2 i u hu, fun b hb => ((h3 i (by rw [<- h1]; exact (List.getElem?_eq_some_iff.1 hu).1)).2 b hb).1⟩⟩
theorem Fl.below {w w' : World} {lo : Nat} {ts : List Tr} {vs : List Value} (h : Fl w lo ts vs) (hb : Below w.heap.size w w') : Fl w' lo ts vs := by
 obtain ⟨h0, K, h⟩ := h
 exact ⟨h0, K, fun i u hu => ⟨(h i u hu).1.below hb, (h i u hu).2⟩⟩
theorem Fl.mono {w : World} {lo lo' : Nat} {ts : List Tr} {vs : List Value} (h : Fl w lo ts vs) (hl : lo' <= lo) : Fl w lo' ts vs := by
 obtain ⟨h0, K, h⟩ := h
 exact ⟨h0, K, fun i u hu => ⟨(h i u hu).1, fun b hb => Nat.le_trans hl ((h i u hu).2 b hb)⟩⟩
theorem Fl.kept {w w' : World} {lo g : Nat} {ts : List Tr} {vs : List Value} (h : Fl w lo ts vs) (hg : w.grownBy w' (some g)) (hl : g < lo) : Fl w' lo ts vs := by
 obtain ⟨h0, K, h⟩ := h
 exact ⟨h0, K, fun i u hu => ⟨(h i u hu).1.same hg.size (fun b hb => hg.block b ((h i u hu).1.lt hb) (fun e => by have := (h i u hu).2 b hb; have := Option.some.inj e; omega)), (h i u hu).2⟩⟩
theorem Fl.elG {w : World} {base lo : Nat} {v : Value} {ts : List Tr} {vs : List Value} (h : Fl w lo ts vs) (hl : base <= lo) (hv : ∀ b, v.ownBlock = some b -> b < lo) : ElG w base v ts vs := by
 obtain ⟨h0, K, h⟩ := h
 exact ⟨K, fun i u hu => ⟨(h i u hu).1, fun b hb => ⟨Nat.le_trans hl ((h i u hu).2 b hb), fun e => by have := hv b e; have := (h i u hu).2 b hb; omega⟩⟩⟩
theorem Fl.rd {w : World} {lo : Nat} {ts : List Tr} {vs : List Value} (h : Fl w lo ts vs) (i : Nat) (v : Value) (hv : vs[i]? = some v) : Rd w lo (trs ts i) v := by
 obtain ⟨h0, K, h⟩ := h
 exact (h i v hv).1.rd (h i v hv).2
theorem Fl.app {w : World} {lo : Nat} {ts us : List Tr} {vs xs : List Value} (h1 : Fl w lo ts vs) (h2 : Fl w lo us xs) : Fl w lo (ts ++ us) (vs ++ xs) := by
 obtain ⟨a0, K, a⟩ := h1
 obtain ⟨b0, L, b⟩ := h2
 refine ⟨by simp [a0, b0], fun i => if i < ts.length then K i else L (i - ts.length), fun i v hv => ?_⟩
 by_cases e : i < ts.length
 ·have e' : i < vs.length := by omega
  rw [List.getElem?_append_left e'] at hv
  simp only [if_pos e]
  have : trs (ts ++ us) i = trs ts i := by
   unfold trs
   simp [List.getD_eq_getElem?_getD, List.getElem?_append_left e]
  rw [this]
  exact a i v hv
 have e' : vs.length <= i := by omega
 rw [List.getElem?_append_right e', a0] at hv
 simp only [if_neg e]
 have : trs (ts ++ us) i = trs us (i - ts.length) := by
  unfold trs
  simp [List.getD_eq_getElem?_getD, List.getElem?_append_right (Nat.le_of_not_lt e)]
 rw [this]
 exact b _ v hv
theorem Fl.one {w : World} {lo : Nat} {t : Tr} {K : Sk} {v : Value} (h : Fit w t K v) (hb : ∀ b, K.bl b -> lo <= b) : Fl w lo [t] [v] :=
 ⟨rfl, fun _ => K, fun i u hu => by
  match i, hu with
  | 0, hu => obtain rfl := Option.some.inj (show some v = some u from hu); exact ⟨h, hb⟩
  | i + 1, hu => simp at hu⟩
theorem Fl.leaf {w : World} {lo : Nat} {ts : List Tr} {vs : List Value} (v : Value) (h : Fl w lo ts vs) : Fl w lo (.leaf v :: ts) (v :: vs) :=
 Fl.app (Fl.one (t := .leaf v) (K := .leaf) ⟨rfl, rfl⟩ (fun b hb => hb.elim)) h
theorem LsG.shape {w : World} {base : Nat} {e : TypeId} {s n : Nat} {v : Value} {f : Nat -> List Tr} (h : LsG w base e s v n f) : ∃ a c, v = .slice a n c := by
 obtain ⟨F, h1, _⟩ := h
 rcases h1.2 with ⟨rfl, rfl⟩ | ⟨g, cap, cur, rfl, _⟩
 ·exact ⟨none, 0, rfl⟩
 exact ⟨_, cap, rfl⟩
theorem LsG.fit {w : World} {base : Nat} {e : TypeId} {s n : Nat} {v : Value} {f : Nat -> List Tr} (h : LsG w base e s v n f) : ∃ K, Fit w (.list s n (fun i => trs (f i))) K v /\ ∀ b, K.bl b -> base <= b := by
 obtain ⟨F, h1, h2⟩ := h
 rcases h1.2 with ⟨rfl, rfl⟩ | ⟨g, cap, cur, rfl, hb, hh, hle, hm, hs, ht⟩
 ·exact ⟨.leaf, ⟨rfl, none, 0, rfl⟩, fun b hb => hb.elim⟩
 have hlt : g < w.heap.size := (Array.getElem?_eq_some_iff.1 hh).1
 have hex : ∀ k, ∃ K : Nat -> Sk, k < n -> ∀ i u, (F k)[i]? = some u -> Fit w (trs (f k) i) (K i) u /\ ∀ b, (K i).bl b -> base <= b := by
  intro k
  by_cases hk : k < n
  ·obtain ⟨K, hK⟩ := (h2 k hk).2
   exact ⟨K, fun _ i u hu => ⟨(hK i u hu).1, fun b hb => ((hK i u hu).2 b hb).1⟩⟩
  exact ⟨fun _ => .leaf, fun h => absurd h hk⟩
 obtain ⟨K, hK⟩ := Classical.axiomOfChoice hex
 have hcell : ∀ k j, k < n -> j < s -> ∃ u, (F k)[j]? = some u /\ w.cell? ⟨g, 0 + k * s + j, none⟩ = some u := by
  intro k j hk hj
  have hl := (h2 k hk).1
  obtain ⟨u, hu⟩ : ∃ u, (F k)[j]? = some u := ⟨(F k)[j]'(by omega), by simp⟩
  refine ⟨u, hu, ?_⟩
  have hkl : k * s + j < n * s := by
   have : (k + 1) * s <= n * s := Nat.mul_le_mul_right s hk
   rw [Nat.add_mul, Nat.one_mul] at this
   omega
  rw [Nat.zero_add, <- hu, <- fl_at F s n (fun k hk => (h2 k hk).1) k j hk hj, <- ht, List.getElem?_take, if_pos hkl, Array.getElem?_toList]
  simp [World.cell?, hh]
 refine ⟨.row g 0 s n K, ⟨rfl, rfl, cap, rfl, hle, by omega, hlt, frozen0 hh, fun k j hk hj => ?_⟩, fun b hb' => ?_⟩
 ·obtain ⟨u, hu, hc⟩ := hcell k j hk hj
  exact ⟨u, hc, (hK k hk j u hu).1⟩
 rcases hb' with rfl | ⟨k, j, hk, hj, hb'⟩
 ·exact hb
 obtain ⟨u, hu, _⟩ := hcell k j hk hj
 exact (hK k hk j u hu).2 b hb'
theorem LsG.fl {w : World} {base : Nat} {e : TypeId} {s n : Nat} {v : Value} {f : Nat -> List Tr} (h : LsG w base e s v n f) : Fl w base [.list s n (fun i => trs (f i))] [v] := by
 obtain ⟨K, h1, h2⟩ := h.fit
 exact Fl.one h1 h2
end Go.Proofs.YtkfgijkkffbpmaaGreat

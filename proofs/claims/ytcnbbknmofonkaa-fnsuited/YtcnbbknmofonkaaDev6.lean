/- Copies of devices. -/
import Derived.Test.YtcnbbknmofonkaaDev5
namespace Go.Proofs.Ytcnbbknmofonkaa
open Go.RowKit

set_option linter.unusedVariables false

set_option linter.unusedSimpArgs false

set_option maxRecDepth 20000 in
set_option maxHeartbeats 8000000 in
theorem copyDevice_any (a1 a2 a3 a4 : Option Addr) (l1 l2 l3 l4 c1 c2 c3 c4 : Nat) (cs is : List Bool) (hs rs : List Int) (w : World) (hn : LnD l1 l2 l3 l4 cs is hs rs) (hs0 : SlD w a1 a2 a3 a4 cs is hs rs) (hl : SmD 2000000 cs is hs rs) :
    Calls Try.prog 41 #[dv a1 a2 a3 a4 l1 l2 l3 l4 c1 c2 c3 c4] w fun e w' => ∃ g1 g2 g3 g4, e = .returned (.agg #[.slice (some ⟨g1, 0, none⟩) l1 l1, .slice (some ⟨g2, 0, none⟩) l2 l2, .slice (some ⟨g3, 0, none⟩) l3 l3, .slice (some ⟨g4, 0, none⟩) l4 l4]) ∧ OwnD w' w.heap.size (some ⟨g1, 0, none⟩) (some ⟨g2, 0, none⟩) (some ⟨g3, 0, none⟩) (some ⟨g4, 0, none⟩) l1 l2 l3 l4 l1 l2 l3 l4 cs is hs rs ∧ Below w.heap.size w w' := by
  obtain ⟨z1, hz1⟩ : ∃ z, z = (w.alloc (.cells #[.slice a1 l1 c1, .slice a2 l2 c2, .slice a3 l3 c3, .slice a4 l4 c4] 29)).alloc (.cells #[.slice none 0 0, .slice none 0 0, .slice none 0 0, .slice none 0 0] 29) := ⟨_, rfl⟩
  have HZ : Hid (z1 = _) := hz1
  have hz : z1.heap.size = w.heap.size + 1 + 1 := by rw [hz1]; simp
  have b0 : Below w.heap.size w z1 := by rw [hz1]; exact bel_next (bel_alloc w _) (bel_alloc _ _)
  have X0 : Blk z1 w.heap.size 29 #[.slice a1 l1 c1, .slice a2 l2 c2, .slice a3 l3 c3, .slice a4 l4 c4] := by rw [hz1]; exact (Blk.new w _ _).below (bel_alloc _ _)
  have R0 : Blk z1 (w.heap.size + 1) 29 #[.slice none 0 0, .slice none 0 0, .slice none 0 0, .slice none 0 0] := by rw [hz1]; have := Blk.new (w.alloc (.cells #[.slice a1 l1 c1, .slice a2 l2 c2, .slice a3 l3 c3, .slice a4 l4 c4] 29)) #[.slice none 0 0, .slice none 0 0, .slice none 0 0, .slice none 0 0] 29; simpa using this
  have HS : Hid (SlD z1 a1 a2 a3 a4 cs is hs rs) := hs0.below b0
  have HN : Hid (LnD l1 l2 l3 l4 cs is hs rs ∧ SmD 2000000 cs is hs rs) := ⟨hn, hl⟩
  have dz : Below z1.heap.size z1 z1.drew := (Below.refl _ _).drew
  obtain ⟨x0, x1, x2, x3⟩ := X0.four
  obtain ⟨y0, y1, y2, y3⟩ := R0.four
  have fy := R0.fro
  have fy0 := fy 0
  have fy1 := fy 1
  have fy2 := fy 2
  have fy3 := fy 3
  clear hn hs0 hl hz1
  go_enter Try.func41, Try.ntmps41
  go_upto_region 1 with fail
  rw [← HZ.out]
  go_region_held3 (fun w' => w'.cell? ⟨w.heap.size, 0, none⟩ = some (.slice a1 l1 c1) ∧ w'.cell? ⟨w.heap.size, 1, none⟩ = some (.slice a2 l2 c2) ∧ w'.cell? ⟨w.heap.size, 2, none⟩ = some (.slice a3 l3 c3) ∧ w'.cell? ⟨w.heap.size, 3, none⟩ = some (.slice a4 l4 c4)) (go_keep)
    (first
      | (go_at_call 81; have M1' := i1; clear M1'; refine (copyOfB a2 l2 c2 is _ HN.out.1.2.1 (HS.out.2.1.below (by first | exact B1 | exact B1.drew)) HN.out.2.2.1).mono ?_; rintro e w2 ⟨g2, rfl, i2, b'⟩; have B2 : Below z1.heap.size z1 w2 := (by first | exact bel_next B1 b' | exact bel_next B1.drew b'); have D12 := Df.ofBase i1 i2 (Nat.le_refl _); replace i1 := (by first | exact i1.below b' | exact (i1.below (Below.refl _ _).drew).below b'); obtain ⟨x20, x21, x22, x23⟩ := (X0.below B2).four; obtain ⟨y20, y21, y22, y23⟩ := (R0.below B2).four; have f20 := (R0.below B2).fro 0; have f21 := (R0.below B2).fro 1; have f22 := (R0.below B2).fro 2; have f23 := (R0.below B2).fro 3; clear b')
      | (go_at_call 81; refine (copyOfB a1 l1 c1 cs _ HN.out.1.1 (HS.out.1.below (by first | exact Below.refl _ _ | exact dz)) HN.out.2.1).mono ?_; rintro e w1 ⟨g1, rfl, i1, b'⟩; have B1 : Below z1.heap.size z1 w1 := (by first | exact bel_next (Below.refl _ z1) b' | exact bel_next (Below.refl _ z1).drew b'); obtain ⟨x10, x11, x12, x13⟩ := (X0.below B1).four; obtain ⟨y10, y11, y12, y13⟩ := (R0.below B1).four; have f10 := (R0.below B1).fro 0; have f11 := (R0.below B1).fro 1; have f12 := (R0.below B1).fro 2; have f13 := (R0.below B1).fro 3; clear b')
      | (go_at_call 82; have M3' := i3; clear M3'; refine (copyOfI a4 l4 c4 rs _ HN.out.1.2.2.2 (HS.out.2.2.2.below (by first | exact B3 | exact B3.drew)) HN.out.2.2.2.2).mono ?_; rintro e w4 ⟨g4, rfl, i4, b'⟩; have B4 : Below z1.heap.size z1 w4 := (by first | exact bel_next B3 b' | exact bel_next B3.drew b'); replace i1 := (by first | exact i1.below b' | exact (i1.below (Below.refl _ _).drew).below b'); replace i2 := (by first | exact i2.below b' | exact (i2.below (Below.refl _ _).drew).below b'); have D34 := Df.ofBase i3 i4 (Nat.le_refl _); replace i3 := (by first | exact i3.below b' | exact (i3.below (Below.refl _ _).drew).below b'); obtain ⟨x40, x41, x42, x43⟩ := (X0.below B4).four; obtain ⟨y40, y41, y42, y43⟩ := (R0.below B4).four; have f40 := (R0.below B4).fro 0; have f41 := (R0.below B4).fro 1; have f42 := (R0.below B4).fro 2; have f43 := (R0.below B4).fro 3; clear b')
      | (go_at_call 82; have M2' := i2; clear M2'; refine (copyOfI a3 l3 c3 hs _ HN.out.1.2.2.1 (HS.out.2.2.1.below (by first | exact B2 | exact B2.drew)) HN.out.2.2.2.1).mono ?_; rintro e w3 ⟨g3, rfl, i3, b'⟩; have B3 : Below z1.heap.size z1 w3 := (by first | exact bel_next B2 b' | exact bel_next B2.drew b'); replace i1 := (by first | exact i1.below b' | exact (i1.below (Below.refl _ _).drew).below b'); replace i2 := (by first | exact i2.below b' | exact (i2.below (Below.refl _ _).drew).below b'); obtain ⟨x30, x31, x32, x33⟩ := (X0.below B3).four; obtain ⟨y30, y31, y32, y33⟩ := (R0.below B3).four; have f30 := (R0.below B3).fro 0; have f31 := (R0.below B3).fro 1; have f32 := (R0.below B3).fro 2; have f33 := (R0.below B3).fro 3; clear b'))
  all_goals (
    have q0 := b0.size
    have q1 := (bel_next b0 B1).size
    have q2 := (bel_next b0 B2).size
    have q3 := (bel_next b0 B3).size
    have HH : Hid (OwnD w4 w.heap.size (some ⟨g1, 0, none⟩) (some ⟨g2, 0, none⟩) (some ⟨g3, 0, none⟩) (some ⟨g4, 0, none⟩) l1 l2 l3 l4 l1 l2 l3 l4 cs is hs rs ∧ ExB w4 (w.heap.size + 1) 29 ∧ Below w.heap.size w w4) := ⟨⟨OwnB.mono i1 (by first | exact q0 | exact q1), OwnB.mono i2 (by first | exact q1 | exact q2), OwnI.mono i3 (by first | exact q2 | exact q3), OwnI.mono i4 (by first | exact q3 | omega), D12, D34⟩, ⟨_, R0.below B4⟩, bel_next b0 B4⟩
    clear i1 i2 i3 i4 D12 D34
    go_wp2
    refine bodyPost_ret (v := .agg #[.slice (some ⟨g1, 0, none⟩) l1 l1, .slice (some ⟨g2, 0, none⟩) l2 l2, .slice (some ⟨g3, 0, none⟩) l3 l3, .slice (some ⟨g4, 0, none⟩) l4 l4]) (by simp [results, Try.results41, go_sem, y40, y41, y42, y43]) rfl ?_
    exact ⟨g1, g2, g3, g4, rfl, HH.out.1.set4 HH.out.2.1 (by decide) (by decide), bel_set4 HH.out.2.2 (by omega)⟩)

end Go.Proofs.Ytcnbbknmofonkaa

/- Marks in devices, questions and answers, from any number on. -/
import Derived.Test.YtcnbbknmofonkaaDev3a
import Derived.Test.YtcnbbknmofonkaaResp1
import Derived.Test.YtcnbbknmofonkaaMarkF
namespace Go.Proofs.Ytcnbbknmofonkaa
open Go.RowKit

set_option linter.unusedVariables false

set_option linter.unusedSimpArgs false

/-- From w to w' nothing has changed but new blocks, and blocks of S. -/
def Chg (w w' : World) (S : Nat → Prop) : Prop := w'.os = w.os ∧ w'.tape = w.tape ∧ w'.output = w.output ∧ w.heap.size ≤ w'.heap.size ∧ ∀ g, g < w.heap.size → ¬ S g → w'.heap[g]? = w.heap[g]?

theorem Chg.ofBelow {w w' : World} {S : Nat → Prop} (h : Below w.heap.size w w') : Chg w w' S := ⟨h.os, h.tape, h.output, h.size, fun g hg _ => h.block g hg⟩

theorem Chg.trans {w w' w'' : World} {S : Nat → Prop} (h : Chg w w' S) (h' : Chg w' w'' S) : Chg w w'' S := by
  obtain ⟨a1, a2, a3, a4, a5⟩ := h
  obtain ⟨c1, c2, c3, c4, c5⟩ := h'
  exact ⟨c1.trans a1, c2.trans a2, c3.trans a3, by omega, fun g hg hs => (c5 g (by omega) hs).trans (a5 g hg hs)⟩

theorem Chg.mono {w w' : World} {S S' : Nat → Prop} (h : Chg w w' S) (hs : ∀ g, S g → S' g) : Chg w w' S' := ⟨h.1, h.2.1, h.2.2.1, h.2.2.2.1, fun g hg hn => h.2.2.2.2 g hg (fun q => hn (hs g q))⟩

theorem Chg.ofGrown {w w' : World} {S : Nat → Prop} {row : Option Nat} (h : w.grownBy w' row) (hs : ∀ g, row = some g → S g) : Chg w w' S :=
  ⟨h.os, h.tape, h.output, h.size, fun g hg hn => h.block g hg (fun e => hn (hs g e.symm))⟩

theorem row_chg {w w' : World} {S : Nat → Prop} {b s n : Nat} {e : TypeId} {v : Value} {xs : List Value} (h : w.ownsRow b e s v n xs) (hc : Chg w w' S) (hd : ∀ g, v.ownBlock = some g → ¬ S g) : w'.ownsRow b e s v n xs := by
  have hlt := World.ownsRow.lt h
  obtain ⟨h1, h2⟩ := h
  refine ⟨h1, ?_⟩
  rcases h2 with h2 | ⟨g, cap, cur, hv, hg, hh, r⟩
  · exact .inl h2
  · have e1 : v.ownBlock = some g := by rw [hv]; rfl
    exact .inr ⟨g, cap, cur, hv, hg, (hc.2.2.2.2 g (hlt g e1).2 (hd g e1)).trans hh, r⟩

theorem Blk.chg {w w' : World} {S : Nat → Prop} {g : Nat} {t : TypeId} {cs : Array Value} (h : Blk w g t cs) (hc : Chg w w' S) (hd : ¬ S g) : Blk w' g t cs := by
  unfold Blk; rw [hc.2.2.2.2 g h.lt hd]; exact h

theorem Chg.below {B : Nat} {W w w' : World} {S : Nat → Prop} (hb : Below B W w) (hc : Chg w w' S) (hs : ∀ g, S g → B ≤ g) (hB : B ≤ w.heap.size) : Below B W w' :=
  hb.trans ⟨hc.1, hc.2.1, hc.2.2.1, hc.2.2.2.1, fun g hg => hc.2.2.2.2 g (by omega) (fun q => by have := hs g q; omega)⟩

/-- The block of a slice of the call's own. -/
abbrev Of1 (v : Value) (g : Nat) : Prop := v.ownBlock = some g

def Of2 (v1 v2 : Value) (g : Nat) : Prop := Of1 v1 g ∨ Of1 v2 g

def Of4 (v1 v2 v3 v4 : Value) (g : Nat) : Prop := Of1 v1 g ∨ Of1 v2 g ∨ Of1 v3 g ∨ Of1 v4 g

theorem OwnD.of4 {w : World} {B : Nat} {a1 a2 a3 a4 : Option Addr} {l1 l2 l3 l4 c1 c2 c3 c4 : Nat} {cs is : List Bool} {hs rs : List Int} (h : OwnD w B a1 a2 a3 a4 l1 l2 l3 l4 c1 c2 c3 c4 cs is hs rs) : ∀ g, Of4 (.slice a1 l1 c1) (.slice a2 l2 c2) (.slice a3 l3 c3) (.slice a4 l4 c4) g → B ≤ g ∧ g < w.heap.size := by
  intro g hg
  rcases hg with q | q | q | q
  · exact World.ownsRow.lt h.1 g q
  · exact World.ownsRow.lt h.2.1 g q
  · exact World.ownsRow.lt h.2.2.1 g q
  · exact World.ownsRow.lt h.2.2.2.1 g q

theorem OwnD.chg {w w' : World} {S : Nat → Prop} {B : Nat} {a1 a2 a3 a4 : Option Addr} {l1 l2 l3 l4 c1 c2 c3 c4 : Nat} {cs is : List Bool} {hs rs : List Int} (h : OwnD w B a1 a2 a3 a4 l1 l2 l3 l4 c1 c2 c3 c4 cs is hs rs) (hc : Chg w w' S) (hd : ∀ g, Of4 (.slice a1 l1 c1) (.slice a2 l2 c2) (.slice a3 l3 c3) (.slice a4 l4 c4) g → ¬ S g) : OwnD w' B a1 a2 a3 a4 l1 l2 l3 l4 c1 c2 c3 c4 cs is hs rs :=
  ⟨row_chg h.1 hc (fun g q => hd g (.inl q)), row_chg h.2.1 hc (fun g q => hd g (.inr (.inl q))), row_chg h.2.2.1 hc (fun g q => hd g (.inr (.inr (.inl q)))), row_chg h.2.2.2.1 hc (fun g q => hd g (.inr (.inr (.inr q)))), h.2.2.2.2⟩

/-- A struct's block is none of a device's rows. -/
theorem OwnD.noBlk {w : World} {B g : Nat} {t : TypeId} {cv : Array Value} {a1 a2 a3 a4 : Option Addr} {l1 l2 l3 l4 c1 c2 c3 c4 : Nat} {cs is : List Bool} {hs rs : List Int} (h : OwnD w B a1 a2 a3 a4 l1 l2 l3 l4 c1 c2 c3 c4 cs is hs rs) (hb : Blk w g t cv) (h1 : t ≠ 4) (h2 : t ≠ 3) : ¬ Of4 (.slice a1 l1 c1) (.slice a2 l2 c2) (.slice a3 l3 c3) (.slice a4 l4 c4) g := by
  rintro (q | q | q | q)
  · exact row_noBlk h.1 hb h1 q
  · exact row_noBlk h.2.1 hb h1 q
  · exact row_noBlk h.2.2.1 hb h2 q
  · exact row_noBlk h.2.2.2.1 hb h2 q

theorem markIntS_at (a : Option Addr) (n cap base s : Nat) (x : Int) (zs : List Int) (w : World) (hx : x = ((s : Nat) : Int)) (h : OwnI w base (.slice a n cap) zs) (hl : n ≤ 3000000) (hs' : s ≤ 9000000) :
    Calls Try.prog 48 #[.slice a n cap, .int .i64 x] w fun e w' => e = .returned (.int .i64 ((s : Int) + (n : Int))) ∧ OwnI w' base (.slice a n cap) (marksI s n) ∧ w.grownBy w' (Value.slice a n cap).ownBlock := by
  subst hx
  exact markIntS_from a n cap base s zs w h hl hs'

theorem heldIntS_at (a : Option Addr) (n cap s : Nat) (x : Int) (w : World) (hx : x = ((s : Nat) : Int)) (hs : SlI w a (marksI s n)) (hl : n ≤ 3000000) (hs' : s ≤ 9000000) :
    Calls Try.prog 50 #[.slice a n cap, .int .i64 x] w fun e w' => e = .returned (.int .i64 ((s : Int) + (n : Int))) ∧ w' = w := by
  subst hx
  exact heldIntS_from a n cap s w hs hl hs'

set_option maxRecDepth 20000 in
set_option maxHeartbeats 4000000 in
theorem markDevice_s (a1 a2 a3 a4 : Option Addr) (l1 l2 l3 l4 c1 c2 c3 c4 : Nat) (s B : Nat) (cs is : List Bool) (hs rs : List Int) (x : Int) (w : World) (hx : x = ((s : Nat) : Int)) (o1 : OwnB w B (.slice a1 l1 c1) cs) (o2 : OwnB w B (.slice a2 l2 c2) is) (o3 : OwnI w B (.slice a3 l3 c3) hs) (o4 : OwnI w B (.slice a4 l4 c4) rs) (d12 : Df (.slice a1 l1 c1) (.slice a2 l2 c2)) (d34 : Df (.slice a3 l3 c3) (.slice a4 l4 c4)) (h1 : l1 ≤ 2000000) (h2 : l2 ≤ 2000000) (h3 : l3 ≤ 2000000) (h4 : l4 ≤ 2000000) (hs' : s ≤ 2000000) :
    Calls Try.prog 15 #[.agg #[.slice a1 l1 c1, .slice a2 l2 c2, .slice a3 l3 c3, .slice a4 l4 c4], .int .i64 x] w fun e w' => e = .returned (.int .i64 ((s : Int) + (l1 : Int) + (l2 : Int) + (l3 : Int) + (l4 : Int))) ∧ (OwnB w' B (.slice a1 l1 c1) (marksB (s) l1) ∧ OwnB w' B (.slice a2 l2 c2) (marksB (s + l1) l2) ∧ OwnI w' B (.slice a3 l3 c3) (marksI (s + l1 + l2) l3) ∧ OwnI w' B (.slice a4 l4 c4) (marksI (s + l1 + l2 + l3) l4)) ∧ Chg w w' (Of4 (.slice a1 l1 c1) (.slice a2 l2 c2) (.slice a3 l3 c3) (.slice a4 l4 c4)) := by
  subst hx
  have B0 := bel_alloc w (.cells #[.slice a1 l1 c1, .slice a2 l2 c2, .slice a3 l3 c3, .slice a4 l4 c4] 29)
  have X0 := Blk.new w #[.slice a1 l1 c1, .slice a2 l2 c2, .slice a3 l3 c3, .slice a4 l4 c4] 29
  obtain ⟨w0, hw0⟩ : ∃ w0, w0 = w.alloc (.cells #[.slice a1 l1 c1, .slice a2 l2 c2, .slice a3 l3 c3, .slice a4 l4 c4] 29) := ⟨_, rfl⟩
  have HW : Hid (w0 = _) := hw0
  have p10 := o1.below B0
  have p20 := o2.below B0
  have p30 := o3.below B0
  have p40 := o4.below B0
  rw [← hw0] at B0 X0 p10 p20 p30 p40
  have C0 : Hid (Chg w w0 (Of4 (.slice a1 l1 c1) (.slice a2 l2 c2) (.slice a3 l3 c3) (.slice a4 l4 c4))) := Chg.ofBelow B0
  clear hw0 B0
  go_enter Try.func15, Try.ntmps15
  go_upto_region 1 with fail
  rw [← HW.out]
  have cx := X0.cell 0 rfl
  go_wp2_with fail
  refine (markBoolS_at _ _ _ _ (s) _ cs _ (by omega) p10 (by omega) (by omega)).mono ?_
  rintro e w1 ⟨rfl, q, gr⟩
  have C1 : Hid (Chg w w1 _) := C0.out.trans (Chg.ofGrown gr (fun g hg => .inl hg))
  have X1 := X0.row p10 gr (by decide)
  have p11 := q
  have p21 : OwnB w1 B (.slice a2 l2 c2) is := World.ownsRow.kept p20 gr (Df.ne d12.symm)
  have p31 : OwnI w1 B (.slice a3 l3 c3) hs := World.ownsRow.kept p30 gr (ne_types p30 p10 (by decide))
  have p41 : OwnI w1 B (.slice a4 l4 c4) rs := World.ownsRow.kept p40 gr (ne_types p40 p10 (by decide))
  clear q gr cx X0 C0 p10 p20 p30 p40
  have cx := X1.cell 1 rfl
  go_wp2_with fail
  refine (markBoolS_at _ _ _ _ (s + l1) _ is _ (by omega) p21 (by omega) (by omega)).mono ?_
  rintro e w2 ⟨rfl, q, gr⟩
  have C2 : Hid (Chg w w2 _) := C1.out.trans (Chg.ofGrown gr (fun g hg => .inr (.inl hg)))
  have X2 := X1.row p21 gr (by decide)
  have p12 : OwnB w2 B (.slice a1 l1 c1) (marksB (s) l1) := World.ownsRow.kept p11 gr (Df.ne d12)
  have p22 := q
  have p32 : OwnI w2 B (.slice a3 l3 c3) hs := World.ownsRow.kept p31 gr (ne_types p31 p21 (by decide))
  have p42 : OwnI w2 B (.slice a4 l4 c4) rs := World.ownsRow.kept p41 gr (ne_types p41 p21 (by decide))
  clear q gr cx X1 C1 p11 p21 p31 p41
  have cx := X2.cell 2 rfl
  go_wp2_with fail
  refine (markIntS_at _ _ _ _ (s + l1 + l2) _ hs _ (by omega) p32 (by omega) (by omega)).mono ?_
  rintro e w3 ⟨rfl, q, gr⟩
  have C3 : Hid (Chg w w3 _) := C2.out.trans (Chg.ofGrown gr (fun g hg => .inr (.inr (.inl hg))))
  have X3 := X2.row p32 gr (by decide)
  have p13 : OwnB w3 B (.slice a1 l1 c1) (marksB (s) l1) := World.ownsRow.kept p12 gr (ne_types p12 p32 (by decide))
  have p23 : OwnB w3 B (.slice a2 l2 c2) (marksB (s + l1) l2) := World.ownsRow.kept p22 gr (ne_types p22 p32 (by decide))
  have p33 := q
  have p43 : OwnI w3 B (.slice a4 l4 c4) rs := World.ownsRow.kept p42 gr (Df.ne d34.symm)
  clear q gr cx X2 C2 p12 p22 p32 p42
  have cx := X3.cell 3 rfl
  go_wp2_with fail
  refine (markIntS_at _ _ _ _ (s + l1 + l2 + l3) _ rs _ (by omega) p43 (by omega) (by omega)).mono ?_
  rintro e w4 ⟨rfl, q, gr⟩
  have C4 : Hid (Chg w w4 _) := C3.out.trans (Chg.ofGrown gr (fun g hg => .inr (.inr (.inr hg))))
  have X4 := X3.row p43 gr (by decide)
  have p14 : OwnB w4 B (.slice a1 l1 c1) (marksB (s) l1) := World.ownsRow.kept p13 gr (ne_types p13 p43 (by decide))
  have p24 : OwnB w4 B (.slice a2 l2 c2) (marksB (s + l1) l2) := World.ownsRow.kept p23 gr (ne_types p23 p43 (by decide))
  have p34 : OwnI w4 B (.slice a3 l3 c3) (marksI (s + l1 + l2) l3) := World.ownsRow.kept p33 gr (Df.ne d34)
  have p44 := q
  clear q gr cx X3 C3 p13 p23 p33 p43
  have ez : ((s : Int) + (l1 : Int) + (l2 : Int) + (l3 : Int) + (l4 : Int)) = ((s + l1 + l2 + l3 : Nat) : Int) + (l4 : Int) := by omega
  have HH : Hid (OwnB w4 B (.slice a1 l1 c1) (marksB (s) l1) ∧ OwnB w4 B (.slice a2 l2 c2) (marksB (s + l1) l2) ∧ OwnI w4 B (.slice a3 l3 c3) (marksI (s + l1 + l2) l3) ∧ OwnI w4 B (.slice a4 l4 c4) (marksI (s + l1 + l2 + l3) l4)) := ⟨p14, p24, p34, p44⟩
  clear p14 p24 p34 p44 X4
  go_wp2
  go_ret
  exact ⟨by rw [ez]; rfl, HH.out, C4.out⟩

set_option maxRecDepth 20000 in
set_option maxHeartbeats 4000000 in
theorem heldDevice_s (a1 a2 a3 a4 : Option Addr) (l1 l2 l3 l4 c1 c2 c3 c4 : Nat) (s : Nat) (x : Int) (w : World) (hx : x = ((s : Nat) : Int)) (o1 : SlB w a1 (marksB (s) l1)) (o2 : SlB w a2 (marksB (s + l1) l2)) (o3 : SlI w a3 (marksI (s + l1 + l2) l3)) (o4 : SlI w a4 (marksI (s + l1 + l2 + l3) l4)) (h1 : l1 ≤ 2000000) (h2 : l2 ≤ 2000000) (h3 : l3 ≤ 2000000) (h4 : l4 ≤ 2000000) (hs' : s ≤ 2000000) :
    Calls Try.prog 18 #[.agg #[.slice a1 l1 c1, .slice a2 l2 c2, .slice a3 l3 c3, .slice a4 l4 c4], .int .i64 x] w fun e w' => e = .returned (.int .i64 ((s : Int) + (l1 : Int) + (l2 : Int) + (l3 : Int) + (l4 : Int))) ∧ Below w.heap.size w w' := by
  subst hx
  obtain ⟨w0, hw0⟩ : ∃ w0, w0 = w.alloc (.cells #[.slice a1 l1 c1, .slice a2 l2 c2, .slice a3 l3 c3, .slice a4 l4 c4] 29) := ⟨_, rfl⟩
  have HW : Hid (w0 = _) := hw0
  have B0 : Below w.heap.size w w0 := by rw [hw0]; exact bel_alloc _ _
  have X0 : Blk w0 w.heap.size 29 #[.slice a1 l1 c1, .slice a2 l2 c2, .slice a3 l3 c3, .slice a4 l4 c4] := by rw [hw0]; exact Blk.new _ _ _
  have cx1 := X0.cell 0 rfl
  have cx2 := X0.cell 1 rfl
  have cx3 := X0.cell 2 rfl
  have cx4 := X0.cell 3 rfl
  have H : Hid (SlB w0 a1 (marksB (s) l1) ∧ SlB w0 a2 (marksB (s + l1) l2) ∧ SlI w0 a3 (marksI (s + l1 + l2) l3) ∧ SlI w0 a4 (marksI (s + l1 + l2 + l3) l4)) := ⟨o1.below B0, o2.below B0, o3.below B0, o4.below B0⟩
  have f0 : ¬ (((s : Nat) : Int) + (l1 : Int) < 0) := by omega
  have f1 : ¬ (((s + l1 : Nat) : Int) + (l2 : Int) < 0) := by omega
  have f2 : ¬ (((s + l1 + l2 : Nat) : Int) + (l3 : Int) < 0) := by omega
  have f3 : ¬ (((s + l1 + l2 + l3 : Nat) : Int) + (l4 : Int) < 0) := by omega
  have ez : ((s : Int) + (l1 : Int) + (l2 : Int) + (l3 : Int) + (l4 : Int)) = ((s + l1 + l2 + l3 : Nat) : Int) + (l4 : Int) := by omega
  clear hw0 o1 o2 o3 o4 X0
  go_enter Try.func18, Try.ntmps18
  go_upto_region 1 with fail
  rw [← HW.out]
  go_wp2_with fail
  refine (heldBoolS_at _ _ _ (s) _ _ (by omega) H.out.1 (by omega) (by omega)).mono ?_
  rintro e w1 ⟨rfl, rfl⟩
  go_wp2_with fail
  refine (heldBoolS_at _ _ _ (s + l1) _ _ (by omega) H.out.2.1 (by omega) (by omega)).mono ?_
  rintro e w2 ⟨rfl, rfl⟩
  go_wp2_with fail
  refine (heldIntS_at _ _ _ (s + l1 + l2) _ _ (by omega) H.out.2.2.1 (by omega) (by omega)).mono ?_
  rintro e w3 ⟨rfl, rfl⟩
  go_wp2_with fail
  refine (heldIntS_at _ _ _ (s + l1 + l2 + l3) _ _ (by omega) H.out.2.2.2 (by omega) (by omega)).mono ?_
  rintro e w4 ⟨rfl, rfl⟩
  go_wp2
  go_ret
  exact ⟨by rw [ez]; rfl, B0⟩

end Go.Proofs.Ytcnbbknmofonkaa

/- Texts that the proof needs, joined: Cl3 Cl4 Cy1 Bits PutWord1 Wr1 Q1 Pack1 Marks2 R1 Apd. -/
import Derived.Test.YtmhdneenjoelfaaGreatY2
import Derived.Deep.RegionWith
import Derived.WalkKit
import Derived.Test.YtmhdneenjoelfaaGreatY1
import Derived.LoopN
import Derived.Lib.AppendZerosOnto
import Derived.Deep.Upon
import Derived.Lib.AppendZeros
namespace Go.Proofs.YtmhdneenjoelfaaGreat
open Go.RowKit Go.Joins
set_option linter.unusedVariables false
set_option linter.unusedSimpArgs false
def mkCa (s : Nat) (C : Ca) : Ca := ⟨(s : Int), (s : Int) + 1, (s : Int) + 2, (s : Int) + 3, (s : Int) + 4, (s : Int) + 5, (s : Int) + 6 + C.ws.length + C.bs.length, marksI (s + 6) C.ws.length, marksB (s + 6 + C.ws.length) C.bs.length⟩
def ctCa (C : Ca) : Nat := 7 + C.ws.length + C.bs.length
def msCa (s : Nat) (f : Nat → Ca) : Nat → Nat
  | 0 => s
  | k + 1 => msCa s f k + ctCa (f k)
def tlCa (f : Nat → Ca) : Nat → Nat
  | 0 => 0
  | k + 1 => tlCa f k + ((f k).ws.length + (f k).bs.length)
theorem msCa_eq (s : Nat) (f : Nat → Ca) : ∀ k, msCa s f k = s + 7 * k + tlCa f k
  | 0 => by simp [msCa, tlCa]
  | k + 1 => by simp only [msCa, tlCa, ctCa, msCa_eq s f k]; omega
theorem tlCa_mono (f : Nat → Ca) : ∀ {i j : Nat}, i ≤ j → tlCa f i ≤ tlCa f j := by
  intro i j hij
  induction hij with
  | refl => exact Nat.le_refl _
  | step _ ih => exact Nat.le_trans ih (by simp [tlCa])
def SmCa (n : Nat) (f : Nat → Ca) : Prop := n + tlCa f n ≤ 1048600
theorem SmCa.at {n : Nat} {f : Nat → Ca} (h : SmCa n f) {z : Nat} (hz : z < n) : n ≤ 1048600 ∧ (f z).ws.length ≤ 1048600 ∧ (f z).bs.length ≤ 1048600 ∧ ∀ s, s ≤ 100 → msCa s f z + 7 + (f z).ws.length + (f z).bs.length ≤ 8388900 := by
  have h1 := tlCa_mono f (show z + 1 ≤ n by omega)
  simp only [tlCa] at h1
  unfold SmCa at h
  refine ⟨by omega, by omega, by omega, fun s hs => ?_⟩
  rw [msCa_eq]
  omega
set_option maxRecDepth 20000 in
set_option maxHeartbeats 4000000 in
theorem markCa_ne (g o n c base s : Nat) (f : Nat → Ca) (F0 : Nat → List Value) (β : Nat → Nat) (w : World) (hR0 : RowO w g 30 9 o n F0) (hbg : base ≤ g) (hI0 : InE w base β F0 (fun k => caE (f k)) n) (hs : s ≤ 100) (hG : SmCa n f) :
    Calls Tryz.prog 61 #[.slice (some ⟨g, o, none⟩) n c, .int .i64 (s : Int)] w fun e w' => e = .returned (.int .i64 (msCa s f n : Int)) ∧ (∃ F', RowO w' g 30 9 o n F' ∧ InE w' base β F' (fun k => caE (mkCa (msCa s f k) (f k))) n ∧ ∀ j, j < n → ∀ k, Ob (F' j) k ↔ Ob (F0 j) k) ∧ Below base w w' ∧ Out w w' g (fun k => ∃ j, j < n ∧ Ob (F0 j) k) := by
  have HH : Hid (RowO w g 30 9 o n F0 ∧ InE w base β F0 (fun k => caE (f k)) n ∧ SmCa n f ∧ ∀ k, β k ≤ β (k + 1)) := ⟨hR0, hI0, hG, hI0.2.1⟩
  have hn : n ≤ 1048600 := by unfold SmCa at hG; omega
  clear hR0 hI0 hG
  go_enter Tryz.func61, Tryz.ntmps61
  go_wp2
  go_loopw [1, 5] (fun kv i wr => ∃ (z : Nat) (F : Nat → List Value), z ≤ n ∧ i = .int .i64 z ∧ kv = .int .i64 (msCa s f z : Int) ∧ RowO wr g 30 9 o n F ∧ InE wr base β F (fun k => caE (if k < z then mkCa (msCa s f k) (f k) else f k)) n ∧ Below base w wr ∧ Out w wr g (fun k => ∃ j, j < n ∧ Ob (F0 j) k) ∧ ∀ j, j < n → ∀ k, Ob (F j) k ↔ Ob (F0 j) k) (fun _ i _ => n - (intOf i).toNat)
  case atStart => exact ⟨0, F0, Nat.zero_le _, rfl, rfl, HH.out.1, HH.out.2.1.congr (fun _ _ => rfl) (fun k _ => by simp), Below.refl _ _, Out.refl _ _ _, fun _ _ _ => Iff.rfl⟩
  case round =>
    obtain ⟨z, F, hz, rfl, rfl, hC, hI, hbl, hout, hob⟩ := hrel
    by_cases hlt : z < n
    · have hi : (z : Int) < (n : Int) := by omega
      have hbd := HH.out.2.2.1.at hlt
      have hms := hbd.2.2.2 s hs
      obtain ⟨k, hk⟩ : ∃ k, k = msCa s f z := ⟨_, rfl⟩
      rw [← hk] at hms ⊢
      obtain ⟨H, hH⟩ : ∃ H : Nat → Ca, H = (fun k => if k < z then mkCa (msCa s f k) (f k) else f k) := ⟨_, rfl⟩
      have hI' : InE wr base β F (fun k => caE (H k)) n := by rw [hH]; exact hI
      clear hI
      have hHz : H z = f z := by rw [hH]; simp
      have HHH : Hid (H = (fun k => if k < z then mkCa (msCa s f k) (f k) else f k) ∧ H z = f z) := ⟨hH, hHz⟩
      obtain ⟨a1, a2, c1, c2, hF, o1, o2, k1, k2⟩ := hI'.2.2 z hlt
      obtain ⟨l1, hl1⟩ : ∃ l1, l1 = (H z).ws.length := ⟨_, rfl⟩
      obtain ⟨l2, hl2⟩ : ∃ l2, l2 = (H z).bs.length := ⟨_, rfl⟩
      have HL : Hid (l1 = (H z).ws.length ∧ l2 = (H z).bs.length ∧ l1 ≤ 1048600 ∧ l2 ≤ 1048600 ∧ l1 = (f z).ws.length ∧ l2 = (f z).bs.length) := ⟨hl1, hl2, by rw [hl1, hHz]; exact hbd.2.1, by rw [hl2, hHz]; exact hbd.2.2.1, by rw [hl1, hHz], by rw [hl2, hHz]⟩
      have HK : Hid (k = msCa s f z ∧ k + 7 + l1 + l2 ≤ 8388900) := ⟨hk, by have := HL.out; omega⟩
      have e0 : wr.cell? ⟨g, o + z * 9, none⟩ = some (.int .i64 (H z).id) := by have h9 := hC.cell hlt (j := 0) (by decide); rw [hF] at h9; simpa [caE] using h9
      have f0 := hC.fro (o + z * 9)
      have e1 : wr.cell? ⟨g, o + z * 9 + 1, none⟩ = some (.int .i64 (H z).pa) := by have h9 := hC.cell hlt (j := 1) (by decide); rw [hF] at h9; simpa [caE] using h9
      have f1 := hC.fro (o + z * 9 + 1)
      have e2 : wr.cell? ⟨g, o + z * 9 + 2, none⟩ = some (.int .i64 (H z).un) := by have h9 := hC.cell hlt (j := 2) (by decide); rw [hF] at h9; simpa [caE] using h9
      have f2 := hC.fro (o + z * 9 + 2)
      have e3 : wr.cell? ⟨g, o + z * 9 + 3, none⟩ = some (.int .i64 (H z).kd) := by have h9 := hC.cell hlt (j := 3) (by decide); rw [hF] at h9; simpa [caE] using h9
      have f3 := hC.fro (o + z * 9 + 3)
      have e4 : wr.cell? ⟨g, o + z * 9 + 4, none⟩ = some (.int .i64 (H z).pl) := by have h9 := hC.cell hlt (j := 4) (by decide); rw [hF] at h9; simpa [caE] using h9
      have f4 := hC.fro (o + z * 9 + 4)
      have e5 : wr.cell? ⟨g, o + z * 9 + 5, none⟩ = some (.int .i64 (H z).n) := by have h9 := hC.cell hlt (j := 5) (by decide); rw [hF] at h9; simpa [caE] using h9
      have f5 := hC.fro (o + z * 9 + 5)
      have e6 : wr.cell? ⟨g, o + z * 9 + 6, none⟩ = some (.slice a1 l1 c1) := by have h9 := hC.cell hlt (j := 6) (by decide); rw [hF] at h9; simpa [caE, hl1] using h9
      have f6 := hC.fro (o + z * 9 + 6)
      have e7 : wr.cell? ⟨g, o + z * 9 + 7, none⟩ = some (.slice a2 l2 c2) := by have h9 := hC.cell hlt (j := 7) (by decide); rw [hF] at h9; simpa [caE, hl2] using h9
      have f7 := hC.fro (o + z * 9 + 7)
      have e8 : wr.cell? ⟨g, o + z * 9 + 8, none⟩ = some (.int .i64 (H z).wa) := by have h9 := hC.cell hlt (j := 8) (by decide); rw [hF] at h9; simpa [caE] using h9
      have f8 := hC.fro (o + z * 9 + 8)
      have v0 : IntKind.i64.wrap ((k : Int) + 1) = (k : Int) + 1 := by have := HK.out; rw [IntKind.wrap_i64]; omega
      have v1 : IntKind.i64.wrap ((k : Int) + 1 + 1) = (k : Int) + 2 := by have := HK.out; rw [IntKind.wrap_i64]; omega
      have v2 : IntKind.i64.wrap ((k : Int) + 2 + 1) = (k : Int) + 3 := by have := HK.out; rw [IntKind.wrap_i64]; omega
      have v3 : IntKind.i64.wrap ((k : Int) + 3 + 1) = (k : Int) + 4 := by have := HK.out; rw [IntKind.wrap_i64]; omega
      have v4 : IntKind.i64.wrap ((k : Int) + 4 + 1) = (k : Int) + 5 := by have := HK.out; rw [IntKind.wrap_i64]; omega
      have v5 : IntKind.i64.wrap ((k : Int) + 5 + 1) = (k : Int) + 6 := by have := HK.out; rw [IntKind.wrap_i64]; omega
      have HF : Hid (RowO wr g 30 9 o n F ∧ InE wr base β F (fun k => caE (H k)) n ∧ F z = els (caE (H z)) a1 a2 c1 c2 ∧ OwnI wr (β z) (.slice a1 l1 c1) (H z).ws ∧ OwnB wr (β z) (.slice a2 l2 c2) (H z).bs ∧ (∀ k, (Value.slice a1 l1 c1).ownBlock = some k → k < β (z + 1)) ∧ (∀ k, (Value.slice a2 l2 c2).ownBlock = some k → k < β (z + 1)) ∧ Below base w wr ∧ Out w wr g (fun k => ∃ j, j < n ∧ Ob (F0 j) k) ∧ ∀ j, j < n → ∀ k, Ob (F j) k ↔ Ob (F0 j) k) := ⟨hC, hI', hF, by rw [hl1]; exact o1, by rw [hl2]; exact o2, by rw [hl1]; exact k1, by rw [hl2]; exact k2, hbl, hout, hob⟩
      clear hC hI' hF o1 o2 k1 k2 hbl hbd hms hk hH hHz hl1 hl2 hout hob
      go_upto_region 16 with fail
      obtain ⟨W1, hW1⟩ : ∃ W1, W1 = setL wr g (o + z * 9) [.int .i64 ((k : Int)), .int .i64 ((k : Int) + 1), .int .i64 ((k : Int) + 2), .int .i64 ((k : Int) + 3), .int .i64 ((k : Int) + 4), .int .i64 ((k : Int) + 5)] := ⟨_, rfl⟩
      have hW1' : W1 = ((((((wr.setCell ⟨g, o + z * 9, none⟩ (.int .i64 ((k : Int)))).setCell ⟨g, o + z * 9 + 1, none⟩ (.int .i64 ((k : Int) + 1))).setCell ⟨g, o + z * 9 + 2, none⟩ (.int .i64 ((k : Int) + 2))).setCell ⟨g, o + z * 9 + 3, none⟩ (.int .i64 ((k : Int) + 3))).setCell ⟨g, o + z * 9 + 4, none⟩ (.int .i64 ((k : Int) + 4))).setCell ⟨g, o + z * 9 + 5, none⟩ (.int .i64 ((k : Int) + 5))) := hW1
      rw [← hW1']
      have C1 : RowO W1 g 30 9 o n (fun i => if i = z then els ⟨[.int .i64 ((k : Int)), .int .i64 ((k : Int) + 1), .int .i64 ((k : Int) + 2), .int .i64 ((k : Int) + 3), .int .i64 ((k : Int) + 4), .int .i64 ((k : Int) + 5)], (H z).ws, (H z).bs, [.int .i64 (H z).wa]⟩ a1 a2 c1 c2 else F i) := by
        rw [hW1]
        refine HF.out.1.upd (i := 0) hlt _ _ (by simp) (fun j hj => ?_)
        rw [HF.out.2.2.1]
        obtain rfl | rfl | rfl | rfl | rfl | rfl | rfl | rfl | rfl : j = 0 ∨ j = 1 ∨ j = 2 ∨ j = 3 ∨ j = 4 ∨ j = 5 ∨ j = 6 ∨ j = 7 ∨ j = 8 := by omega
        all_goals simp [caE]
      have G1 : wr.grownBy W1 (some g) := by rw [hW1]; exact setL_gw _ _ _
      have H1 : Hid (W1 = setL wr g (o + z * 9) [.int .i64 ((k : Int)), .int .i64 ((k : Int) + 1), .int .i64 ((k : Int) + 2), .int .i64 ((k : Int) + 3), .int .i64 ((k : Int) + 4), .int .i64 ((k : Int) + 5)] ∧ OwnI W1 (β z) (.slice a1 l1 c1) (H z).ws ∧ OwnB W1 (β z) (.slice a2 l2 c2) (H z).bs ∧ RowO W1 g 30 9 o n (fun i => if i = z then els ⟨[.int .i64 ((k : Int)), .int .i64 ((k : Int) + 1), .int .i64 ((k : Int) + 2), .int .i64 ((k : Int) + 3), .int .i64 ((k : Int) + 4), .int .i64 ((k : Int) + 5)], (H z).ws, (H z).bs, [.int .i64 (H z).wa]⟩ a1 a2 c1 c2 else F i)) := by
        obtain ⟨cs, hX⟩ := HF.out.1.exB
        exact ⟨hW1, HF.out.2.2.2.1.kept G1 (.inr (row_noBlk HF.out.2.2.2.1 hX (by decide))), HF.out.2.2.2.2.1.kept G1 (.inr (row_noBlk HF.out.2.2.2.2.1 hX (by decide))), C1⟩
      clear hW1 hW1' G1 e0 e1 e2 e3 e4 e5 e6 e7 e8 f0 f1 f2 f3 f4 f5 f6 f7 f8 v0 v1 v2 v3 v4 v5
      have t5 : W1.cell? ⟨g, o + z * 9 + 6, none⟩ = some (.slice a1 l1 c1) := by have h9 := C1.cell hlt (j := 6) (by decide); have := HL.out.1; simpa [this] using h9
      clear C1
      go_wp2_with fail
      refine (markIntS_a a1 l1 c1 (β z) (k + 6) _ (H z).ws _ (by omega) H1.out.2.1 (by have := HL.out; omega) (by have := HK.out; omega)).mono ?_
      rintro e W2 ⟨rfl, m1, g1⟩
      have C2 := H1.out.2.2.2.keptV H1.out.2.1 g1 (by decide)
      have H2 : Hid (OwnI W2 (β z) (.slice a1 l1 c1) (marksI (k + 6) l1) ∧ W1.grownBy W2 (Value.slice a1 l1 c1).ownBlock ∧ OwnB W2 (β z) (.slice a2 l2 c2) (H z).bs ∧ RowO W2 g 30 9 o n (fun i => if i = z then els ⟨[.int .i64 ((k : Int)), .int .i64 ((k : Int) + 1), .int .i64 ((k : Int) + 2), .int .i64 ((k : Int) + 3), .int .i64 ((k : Int) + 4), .int .i64 ((k : Int) + 5)], (H z).ws, (H z).bs, [.int .i64 (H z).wa]⟩ a1 a2 c1 c2 else F i)) := ⟨m1, g1, H1.out.2.2.1.kept g1 (ne_typesE H1.out.2.2.1 H1.out.2.1 (by decide)), C2⟩
      have t6 : W2.cell? ⟨g, o + z * 9 + 7, none⟩ = some (.slice a2 l2 c2) := by have h9 := C2.cell hlt (j := 6 + 1) (by decide); have := HL.out.2.1; simpa [this] using h9
      obtain ⟨k5, hk5⟩ : ∃ k5 : Nat, (k5 : Int) = ((k + 6 : Nat) : Int) + (l1 : Int) := ⟨k + 6 + l1, by omega⟩
      rw [← hk5]
      have HK5 : Hid (k5 = k + 6 + l1) := by show _ = _; omega
      clear m1 g1 C2 t5 hk5
      go_wp2_with fail
      refine (markBoolS_from a2 l2 c2 (β z) k5 (H z).bs _ H2.out.2.2.1 (by have := HL.out; omega) (by have := HK.out; have := HK5.out; have := HL.out; omega)).mono ?_
      rintro e W3 ⟨rfl, m2, g2⟩
      have C3 := H2.out.2.2.2.keptV H2.out.2.2.1 g2 (by decide)
      obtain ⟨k6, hk6⟩ : ∃ k6 : Nat, (k6 : Int) = (k5 : Int) + (l2 : Int) := ⟨k5 + l2, by omega⟩
      rw [← hk6]
      have HK6 : Hid (k6 = k + 6 + l1 + l2 ∧ k6 + 1 = msCa s f (z + 1)) := by
        have e1 := HK5.out
        have e2 := HK.out.1
        have e3 := HL.out
        refine ⟨by omega, ?_⟩
        simp only [msCa, ctCa]
        omega
      have H3 : Hid ((∃ F', RowO (setL W3 g (o + z * 9 + (6 + 2)) [.int .i64 (k6 : Int)]) g 30 9 o n F' ∧ InE (setL W3 g (o + z * 9 + (6 + 2)) [.int .i64 (k6 : Int)]) base β F' (fun j => caE (if j = z then mkCa k (H z) else H j)) n ∧ ∀ j, j < n → ∀ k, Ob (F' j) k ↔ Ob (F0 j) k) ∧ Below base w (setL W3 g (o + z * 9 + (6 + 2)) [.int .i64 (k6 : Int)]) ∧ Out w (setL W3 g (o + z * 9 + (6 + 2)) [.int .i64 (k6 : Int)]) g (fun k => ∃ j, j < n ∧ Ob (F0 j) k)) := by
        have f1 := HF.out
        have el := HL.out
        have ek : k6 = k + 6 + (H z).ws.length + (H z).bs.length := by have := HK6.out.1; omega
        have r9 := mark_elB (W1 := W1) (W2 := W2) (W3 := W3) (G := fun k => caE (H k)) (p' := [.int .i64 ((k : Int)), .int .i64 ((k : Int) + 1), .int .i64 ((k : Int) + 2), .int .i64 ((k : Int) + 3), .int .i64 ((k : Int) + 4), .int .i64 ((k : Int) + 5)]) (q' := [.int .i64 (k6 : Int)]) (ws' := marksI (k + 6) (H z).ws.length) (bs' := marksB (k + 6 + (H z).ws.length) (H z).bs.length) (S := 9) (by decide) (by decide) f1.1 hbg f1.2.1 hlt f1.2.2.1 (by show OwnI _ _ (.slice _ (H z).ws.length _) _; rw [← el.1]; exact f1.2.2.2.1) (by show OwnB _ _ (.slice _ (H z).bs.length _) _; rw [← el.2.1]; exact f1.2.2.2.2.1) (by show ∀ k, (Value.slice a1 (H z).ws.length c1).ownBlock = some k → _; rw [← el.1]; exact f1.2.2.2.2.2.1) (by show ∀ k, (Value.slice a2 (H z).bs.length c2).ownBlock = some k → _; rw [← el.2.1]; exact f1.2.2.2.2.2.2.1) (by simp [caE]) (by simp [caE]) (by simp [caE]) (by simp [caE, marksI_length]) (by simp [caE, marksB_length]) H1.out.1 (by show OwnI _ _ (.slice _ (H z).ws.length _) _; rw [← el.1]; exact H2.out.1) (by show W1.grownBy W2 (Value.slice a1 (H z).ws.length c1).ownBlock; rw [← el.1]; exact H2.out.2.1) (by show OwnB _ _ (.slice _ (H z).bs.length _) _; rw [← el.1, ← el.2.1, ← HK5.out]; exact m2) (by show W2.grownBy W3 (Value.slice a2 (H z).bs.length c2).ownBlock; rw [← el.2.1]; exact g2)
        have hm := HH.out.2.2.2
        have hobz : ∀ y, Ob (F z) y ↔ (Value.slice a1 (H z).ws.length c1).ownBlock = some y ∨ (Value.slice a2 (H z).bs.length c2).ownBlock = some y := fun y => by
          rw [f1.2.2.1]
          exact Ob_els (E := caE (H z)) (by simp [caE, Value.ownBlock]) (by simp [caE, Value.ownBlock])
        refine ⟨?_, f1.2.2.2.2.2.2.2.1.trans r9.2.1, f1.2.2.2.2.2.2.2.2.1.trans r9.2.2 (fun y hy => ⟨z, hlt, (f1.2.2.2.2.2.2.2.2.2 z hlt y).1 ((hobz y).2 hy)⟩)⟩
        obtain ⟨q1, q2⟩ := r9.1
        refine ⟨_, q1, q2.congr (fun _ _ => rfl) (fun j hj => ?_), fun j hj y => ?_⟩
        rotate_left
        · by_cases e : j = z
          · subst e
            simp only [if_pos]
            rw [← f1.2.2.2.2.2.2.2.2.2 j hj y, hobz y]
            have h9 := Ob_els (E := ⟨[.int .i64 ((k : Int)), .int .i64 ((k : Int) + 1), .int .i64 ((k : Int) + 2), .int .i64 ((k : Int) + 3), .int .i64 ((k : Int) + 4), .int .i64 ((k : Int) + 5)], marksI (k + 6) (H j).ws.length, marksB (k + 6 + (H j).ws.length) (H j).bs.length, [.int .i64 (k6 : Int)]⟩) (a1 := a1) (a2 := a2) (c1 := c1) (c2 := c2) (k := y) (by simp [Value.ownBlock]) (by simp [Value.ownBlock])
            simp only [marksI_length, marksB_length] at h9
            exact h9
          · simp only [if_neg e]
            exact f1.2.2.2.2.2.2.2.2.2 j hj y
        by_cases e : j = z
        · subst e
          simp only [if_pos]
          simp [caE, mkCa, ek]
          try omega
        · simp only [if_neg e]
      have t7 : ∃ v7, W3.cell? ⟨g, o + z * 9 + 8, none⟩ = some v7 := ⟨_, by have h9 := C3.cell hlt (j := 6 + 2) (by decide); simpa using h9⟩
      obtain ⟨v7, t7⟩ := t7
      have f7 := C3.fro (o + z * 9 + 8)
      have w7 : IntKind.i64.wrap ((k6 : Int) + 1) = (k6 : Int) + 1 := by have := HK6.out; have := HK.out; have := HL.out; rw [IntKind.wrap_i64]; omega
      clear m2 g2 C3 t6 H1 H2 HF hk6
      go_wp2
      go_roundw
      case rel =>
        obtain ⟨⟨F', q1, q2, q5⟩, q3, q4⟩ := H3.out
        exact ⟨z + 1, F', by omega, by go_num, (by have := HK6.out.2; congr 1; omega), q1, q2.congr (fun _ _ => rfl) (fun j hj => by have e8 := HHH.out.2; have e7 := HK.out.1; by_cases e : j = z; (subst e; simp [e8, e7]); (simp only [if_neg e]; rw [HHH.out.1]; simp only; by_cases e6 : j < z; (rw [if_pos e6, if_pos (by omega)]); (rw [if_neg e6, if_neg (by omega)]))), q3, q4, q5⟩
      case measure => simp [intOf]; omega
    · have hi : ¬ (z : Int) < (n : Int) := by omega
      have e9 : z = n := by omega
      subst e9
      have HX : Hid ((∃ F', RowO wr g 30 9 o z F' ∧ InE wr base β F' (fun k => caE (mkCa (msCa s f k) (f k))) z ∧ ∀ j, j < z → ∀ k, Ob (F' j) k ↔ Ob (F0 j) k) ∧ Below base w wr ∧ Out w wr g (fun k => ∃ j, j < z ∧ Ob (F0 j) k)) := ⟨⟨F, hC, hI.congr (fun _ _ => rfl) (fun k hk => by simp [hk]), hob⟩, hbl, hout⟩
      clear hC hI hbl hout hob
      go_wp2
      go_ret
      exact ⟨rfl, HX.out.1, HX.out.2.1, HX.out.2.2⟩
theorem markCa_nil (a : Option Addr) (c s : Nat) (w : World) : Calls Tryz.prog 61 #[.slice a 0 c, .int .i64 (s : Int)] w fun e w' => e = .returned (.int .i64 (s : Int)) ∧ w' = w := by
  go_enter Tryz.func61, Tryz.ntmps61
  go_wp2
  go_loopw [1, 5] (fun kv i wr => i = .int .i64 0 ∧ kv = .int .i64 (s : Int) ∧ wr = w) (fun _ _ _ => 0)
  case atStart => exact ⟨rfl, rfl, (by first | rfl | trivial)⟩
  case round =>
    obtain ⟨rfl, rfl, hwr⟩ := hrel
    have hwr' := hwr.symm
    clear hwr
    subst hwr'
    go_wp2
    go_ret
    exact ⟨rfl, rfl⟩
set_option maxRecDepth 20000 in
set_option maxHeartbeats 4000000 in
theorem heldCa_any (a : Option Addr) (n c s : Nat) (f : Nat → Ca) (w : World) (h : SlL w a 9 n (fun k => caE (mkCa (msCa s f k) (f k)))) (hs : s ≤ 100) (hG : SmCa n f) :
    Calls Tryz.prog 65 #[.slice a n c, .int .i64 (s : Int)] w fun e w' => e = .returned (.int .i64 (msCa s f n : Int)) ∧ w' = w := by
  have HH : Hid (SlL w a 9 n (fun k => caE (mkCa (msCa s f k) (f k))) ∧ SmCa n f) := ⟨h, hG⟩
  have hn : n ≤ 1048600 := by unfold SmCa at hG; omega
  clear h hG
  go_enter Tryz.func65, Tryz.ntmps65
  go_wp2
  go_loopw [1, 5] (fun kv i wr => ∃ z : Nat, z ≤ n ∧ i = .int .i64 z ∧ kv = .int .i64 (msCa s f z : Int) ∧ wr = w) (fun _ i _ => n - (intOf i).toNat)
  case atStart => exact ⟨0, Nat.zero_le _, rfl, rfl, (by first | rfl | trivial)⟩
  case round =>
    obtain ⟨z, hz, rfl, rfl, hwr⟩ := hrel
    have hwr' := hwr.symm
    clear hwr
    subst hwr'
    by_cases hlt : z < n
    · have hi : (z : Int) < (n : Int) := by omega
      have hbd := HH.out.2.at hlt
      have hms := hbd.2.2.2 s hs
      obtain ⟨k, hk⟩ : ∃ k, k = msCa s f z := ⟨_, rfl⟩
      obtain ⟨g, o, a1, a2, c1, c2, ha, hg, hcell, s1, s2⟩ := HH.out.1.at hlt
      subst ha
      simp only [caE, mkCa, marksI_length, marksB_length] at hcell s1 s2
      obtain ⟨l1, hl1⟩ : ∃ l1, l1 = (f z).ws.length := ⟨_, rfl⟩
      obtain ⟨l2, hl2⟩ : ∃ l2, l2 = (f z).bs.length := ⟨_, rfl⟩
      simp only [els, marksI_length, marksB_length, ← hk, ← hl1, ← hl2] at hcell
      rw [← hk, ← hl1] at s1
      rw [← hk, ← hl1, ← hl2] at s2
      rw [← hk] at hms ⊢
      obtain ⟨k5, hk5⟩ : ∃ k5 : Nat, k5 = k + 6 + l1 := ⟨_, rfl⟩
      rw [← hk5] at s2
      obtain ⟨k6, hk6⟩ : ∃ k6 : Nat, k6 = k5 + l2 := ⟨_, rfl⟩
      have HK : Hid (k + 7 + l1 + l2 ≤ 8388900 ∧ l1 ≤ 1048600 ∧ l2 ≤ 1048600 ∧ k5 = k + 6 + l1 ∧ k6 = k5 + l2 ∧ k6 + 1 = msCa s f (z + 1) ∧ SlI w a1 (marksI (k + 6) l1) ∧ SlB w a2 (marksB k5 l2)) := ⟨by omega, by omega, by omega, hk5, hk6, by simp only [msCa, ctCa]; omega, s1, s2⟩
      have e0 : w.cell? ⟨g, o + z * 9, none⟩ = some (.int .i64 ((k : Int))) := by have h9 := hcell 0 (by decide); simpa using h9
      have e1 : w.cell? ⟨g, o + z * 9 + 1, none⟩ = some (.int .i64 ((k : Int) + 1)) := by have h9 := hcell 1 (by decide); simpa using h9
      have e2 : w.cell? ⟨g, o + z * 9 + 2, none⟩ = some (.int .i64 ((k : Int) + 2)) := by have h9 := hcell 2 (by decide); simpa using h9
      have e3 : w.cell? ⟨g, o + z * 9 + 3, none⟩ = some (.int .i64 ((k : Int) + 3)) := by have h9 := hcell 3 (by decide); simpa using h9
      have e4 : w.cell? ⟨g, o + z * 9 + 4, none⟩ = some (.int .i64 ((k : Int) + 4)) := by have h9 := hcell 4 (by decide); simpa using h9
      have e5 : w.cell? ⟨g, o + z * 9 + 5, none⟩ = some (.int .i64 ((k : Int) + 5)) := by have h9 := hcell 5 (by decide); simpa using h9
      have e6 : w.cell? ⟨g, o + z * 9 + 6, none⟩ = some (.slice a1 l1 c1) := by have h9 := hcell 6 (by decide); simpa using h9
      have e7 : w.cell? ⟨g, o + z * 9 + 7, none⟩ = some (.slice a2 l2 c2) := by have h9 := hcell 7 (by decide); simpa using h9
      have e8 : w.cell? ⟨g, o + z * 9 + 8, none⟩ = some (.int .i64 (k6 : Int)) := by have h9 := hcell 8 (by decide); rw [show (k : Int) + 6 + l1 + l2 = (k6 : Int) by omega] at h9; simpa using h9
      have v0 : IntKind.i64.wrap ((k : Int) + 1) = (k : Int) + 1 := by have := HK.out; rw [IntKind.wrap_i64]; omega
      have v1 : IntKind.i64.wrap ((k : Int) + 1 + 1) = (k : Int) + 2 := by have := HK.out; rw [IntKind.wrap_i64]; omega
      have v2 : IntKind.i64.wrap ((k : Int) + 2 + 1) = (k : Int) + 3 := by have := HK.out; rw [IntKind.wrap_i64]; omega
      have v3 : IntKind.i64.wrap ((k : Int) + 3 + 1) = (k : Int) + 4 := by have := HK.out; rw [IntKind.wrap_i64]; omega
      have v4 : IntKind.i64.wrap ((k : Int) + 4 + 1) = (k : Int) + 5 := by have := HK.out; rw [IntKind.wrap_i64]; omega
      have v5 : IntKind.i64.wrap ((k : Int) + 5 + 1) = (k : Int) + 6 := by have := HK.out; rw [IntKind.wrap_i64]; omega
      have v9 : IntKind.i64.wrap ((k6 : Int) + 1) = (k6 : Int) + 1 := by have := HK.out; rw [IntKind.wrap_i64]; omega
      clear hbd hms hk hl1 hl2 hcell s1 s2 hk5 hk6 hg
      go_wp2_with fail
      refine (heldIntS_a a1 l1 c1 (k + 6) _ _ (by omega) HK.out.2.2.2.2.2.2.1 (by have := HK.out; omega) (by have := HK.out; omega)).mono ?_
      rintro e w2 ⟨rfl, hw2⟩
      subst hw2
      have x5 : ((k + 6 : Nat) : Int) + (l1 : Int) = (k5 : Int) := by have := HK.out; omega
      rw [x5]
      have y5 : ¬ (k5 : Int) < 0 := by omega
      clear x5
      go_wp2_with fail
      refine (heldBoolS_from a2 l2 c2 k5 _ HK.out.2.2.2.2.2.2.2 (by have := HK.out; omega) (by have := HK.out; omega)).mono ?_
      rintro e w3 ⟨rfl, hw3⟩
      subst hw3
      have x6 : (k5 : Int) + (l2 : Int) = (k6 : Int) := by have := HK.out; omega
      rw [x6]
      have y6 : ¬ (k6 : Int) < 0 := by omega
      clear x6
      go_wp2
      go_roundw
      case rel => exact ⟨z + 1, by omega, by go_num, (by have := HK.out; congr 1; omega), (by first | rfl | trivial)⟩
      case measure => simp [intOf]; omega
    · have hi : ¬ (z : Int) < (n : Int) := by omega
      have e9 : z = n := by omega
      subst e9
      go_wp2
      go_ret
      exact ⟨rfl, rfl⟩
end Go.Proofs.YtmhdneenjoelfaaGreat
namespace Go.Proofs.YtmhdneenjoelfaaGreat
open Go.RowKit Go.Joins
set_option linter.unusedVariables false
set_option linter.unusedSimpArgs false
def FrR (w w' : World) (v1 v2 : Value) : Prop := w.heap.size ≤ w'.heap.size ∧ ∀ k, k < w.heap.size → v1.ownBlock ≠ some k → v2.ownBlock ≠ some k → w'.heap[k]? = w.heap[k]?
theorem FrR.pre {w0 w w' : World} {v1 v2 : Value} (hb : Below w0.heap.size w0 w) (h : FrR w w' v1 v2) : FrR w0 w' v1 v2 :=
  ⟨Nat.le_trans hb.size h.1, fun k hk h1 h2 => by rw [h.2 k (Nat.lt_of_lt_of_le hk hb.size) h1 h2, hb.block k hk]⟩
theorem Blk.six3 {w : World} {g : Nat} {t : TypeId} {v0 v1 v2 v3 v4 v5 : Value} (h : Blk w g t #[v0, v1, v2, v3, v4, v5]) : w.cell? ⟨g, 0, none⟩ = some v0 ∧ w.cell? ⟨g, 1, none⟩ = some v1 ∧ w.cell? ⟨g, 2, none⟩ = some v2 ∧ w.cell? ⟨g, 3, none⟩ = some v3 ∧ w.cell? ⟨g, 4, none⟩ = some v4 ∧ w.cell? ⟨g, 5, none⟩ = some v5 :=
  ⟨h.cell 0 rfl, h.cell 1 rfl, h.cell 2 rfl, h.cell 3 rfl, h.cell 4 rfl, h.cell 5 rfl⟩
def MkR (w w' : World) (b s : Nat) (a1 a2 : Option Addr) (l1 l2 c1 c2 : Nat) : Prop :=
  OwnI w' b (.slice a1 l1 c1) (marksI s l1) ∧ OwnB w' b (.slice a2 l2 c2) (marksB (s + l1) l2) ∧ FrR w w' (.slice a1 l1 c1) (.slice a2 l2 c2) ∧ Below b w w'
set_option maxRecDepth 20000 in
set_option maxHeartbeats 2000000 in
theorem markReqL (kd pl nn wa : Int) (g1 g2 : Option Addr) (l1 l2 c1 c2 b s : Nat) (ws : List Int) (bs : List Bool) (w : World) (o1 : OwnI w b (.slice g1 l1 c1) ws) (o2 : OwnB w b (.slice g2 l2 c2) bs) (hb : b ≤ w.heap.size) (hl1 : l1 ≤ 1048600) (hl2 : l2 ≤ 1048600) (hs : s + l1 ≤ 9000000) :
    Calls Tryz.prog 109 #[.agg #[.int .i64 kd, .int .i64 pl, .int .i64 nn, .slice g1 l1 c1, .slice g2 l2 c2, .int .i64 wa], .int .i64 (s : Int)] w fun e w' => e = .returned (.int .i64 ((s + l1 + l2 : Nat) : Int)) ∧ MkR w w' b s g1 g2 l1 l2 c1 c2 := by
  obtain ⟨B, hB⟩ : ∃ B, B = w.heap.size := ⟨_, rfl⟩
  obtain ⟨W, hW⟩ : ∃ W, W = w.alloc (.cells #[.int .i64 kd, .int .i64 pl, .int .i64 nn, .slice g1 l1 c1, .slice g2 l2 c2, .int .i64 wa] 28) := ⟨_, rfl⟩
  have bW : Below w.heap.size w W := by rw [hW]; exact bel_alloc _ _
  have HW : Hid (Below w.heap.size w W ∧ Blk W B 28 #[.int .i64 kd, .int .i64 pl, .int .i64 nn, .slice g1 l1 c1, .slice g2 l2 c2, .int .i64 wa] ∧ OwnI W b (.slice g1 l1 c1) ws ∧ OwnB W b (.slice g2 l2 c2) bs ∧ b ≤ w.heap.size) := ⟨bW, by rw [hW, hB]; exact Blk.new w _ _, o1.below bW, o2.below bW, hb⟩
  clear bW o1 o2 hb
  go_enter Tryz.func109, Tryz.ntmps109
  go_upto_region 1 with fail
  rw [← hW, ← hB]
  clear hW hB
  obtain ⟨y0, y1, y2, y3, y4, y5⟩ := HW.out.2.1.six3
  go_wp2_with fail
  refine (markIntS_from g1 l1 c1 b s ws _ HW.out.2.2.1 (by omega) (by omega)).mono ?_
  rintro e u1 ⟨rfl, m1, gg1⟩
  obtain ⟨x1, hx1⟩ : ∃ x1 : Nat, (x1 : Int) = (s : Int) + (l1 : Int) := ⟨s + l1, by omega⟩
  rw [← hx1]
  have HU : Hid (W.grownBy u1 (Value.slice g1 l1 c1).ownBlock ∧ OwnB u1 b (.slice g2 l2 c2) bs ∧ Blk u1 B 28 #[.int .i64 kd, .int .i64 pl, .int .i64 nn, .slice g1 l1 c1, .slice g2 l2 c2, .int .i64 wa] ∧ x1 = s + l1 ∧ OwnI u1 b (.slice g1 l1 c1) (marksI s l1)) := ⟨gg1, HW.out.2.2.2.1.kept gg1 (ne_typesE HW.out.2.2.2.1 HW.out.2.2.1 (by decide)), HW.out.2.1.grown gg1 (row_noBlk HW.out.2.2.1 HW.out.2.1 (by decide)), by omega, m1⟩
  clear m1 gg1 y0 y1 y2 y3 y4 y5 hx1
  obtain ⟨y0, y1, y2, y3, y4, y5⟩ := HU.out.2.2.1.six3
  go_wp2_with fail
  refine (markBoolS_from g2 l2 c2 b x1 bs _ HU.out.2.1 (by omega) (by have := HU.out; omega)).mono ?_
  rintro e u2 ⟨rfl, m2, gg2⟩
  obtain ⟨x2, hx2⟩ : ∃ x2 : Nat, (x2 : Int) = (x1 : Int) + (l2 : Int) := ⟨x1 + l2, by omega⟩
  rw [← hx2]
  have HV : Hid (x2 = s + l1 + l2 ∧ MkR w u2 b s g1 g2 l1 l2 c1 c2) := by
    have hx := HU.out.2.2.2.1
    refine ⟨by omega, HU.out.2.2.2.2.kept gg2 (ne_typesE HU.out.2.2.2.2 HU.out.2.1 (by decide)), by rw [← hx]; exact m2, ⟨Nat.le_trans HW.out.1.size (Nat.le_trans HU.out.1.size gg2.size), fun k hk h1 h2 => ?_⟩, ?_⟩
    · have q1 := Nat.lt_of_lt_of_le hk HW.out.1.size
      rw [gg2.block k (Nat.lt_of_lt_of_le q1 HU.out.1.size) (fun e => h2 e.symm), HU.out.1.block k q1 (fun e => h1 e.symm), HW.out.1.block k hk]
    · exact ((HW.out.1.mono HW.out.2.2.2.2).grown HU.out.1 (Nat.le_trans HW.out.2.2.2.2 HW.out.1.size) (fun k hk => (World.ownsRow.lt HW.out.2.2.1 k hk).1)).grown gg2 (Nat.le_trans HW.out.2.2.2.2 (Nat.le_trans HW.out.1.size HU.out.1.size)) (fun k hk => (World.ownsRow.lt HU.out.2.1 k hk).1)
  clear m2 gg2 y0 y1 y2 y3 y4 y5 hx2
  go_wp2
  go_ret
  exact ⟨by rw [← HV.out.1]; rfl, HV.out.2⟩
set_option maxRecDepth 20000 in
set_option maxHeartbeats 2000000 in
theorem markCallL (C : Ca) (g1 g2 : Option Addr) (l1 l2 c1 c2 b s : Nat) (ws : List Int) (bs : List Bool) (w : World) (o1 : OwnI w b (.slice g1 l1 c1) ws) (o2 : OwnB w b (.slice g2 l2 c2) bs) (hb : b ≤ w.heap.size) (hl1 : l1 ≤ 1048600) (hl2 : l2 ≤ 1048600) (hs : s + l1 ≤ 9000000) :
    Calls Tryz.prog 62 #[.agg (cac C g1 g2 l1 l2 c1 c2), .int .i64 (s : Int)] w fun e w' => e = .returned (.int .i64 ((s + l1 + l2 : Nat) : Int)) ∧ MkR w w' b s g1 g2 l1 l2 c1 c2 := by
  have bW := bel_alloc w (.cells (cac C g1 g2 l1 l2 c1 c2) 30)
  have HW : Hid (OwnI (w.alloc (.cells (cac C g1 g2 l1 l2 c1 c2) 30)) b (.slice g1 l1 c1) ws ∧ OwnB (w.alloc (.cells (cac C g1 g2 l1 l2 c1 c2) 30)) b (.slice g2 l2 c2) bs ∧ b ≤ (w.alloc (.cells (cac C g1 g2 l1 l2 c1 c2) 30)).heap.size ∧ b ≤ w.heap.size ∧ Below w.heap.size w (w.alloc (.cells (cac C g1 g2 l1 l2 c1 c2) 30))) := ⟨o1.below bW, o2.below bW, Nat.le_trans hb bW.size, hb, bW⟩
  clear o1 o2 bW hb
  go_enter Tryz.func62, Tryz.ntmps62
  go_wp2_with fail
  refine (markReqL C.kd C.pl C.n C.wa g1 g2 l1 l2 c1 c2 b s ws bs _ HW.out.1 HW.out.2.1 HW.out.2.2.1 hl1 hl2 hs).mono ?_
  rintro e w1 ⟨rfl, m⟩
  have HM : Hid (MkR w w1 b s g1 g2 l1 l2 c1 c2) := ⟨m.1, m.2.1, FrR.pre HW.out.2.2.2.2 m.2.2.1, (HW.out.2.2.2.2.mono HW.out.2.2.2.1).trans m.2.2.2⟩
  clear m
  obtain ⟨x, hx⟩ : ∃ x : Nat, x = s + l1 + l2 := ⟨_, rfl⟩
  rw [← hx]
  have HX : Hid (x = s + l1 + l2) := hx
  clear hx HW
  go_wp2
  go_ret
  exact ⟨by rw [← HX.out]; rfl, HM.out⟩
set_option maxRecDepth 20000 in
set_option maxHeartbeats 2000000 in
theorem heldReqL (kd pl nn wa : Int) (g1 g2 : Option Addr) (l1 l2 c1 c2 s : Nat) (w : World) (s1 : SlI w g1 (marksI s l1)) (s2 : SlB w g2 (marksB (s + l1) l2)) (hl1 : l1 ≤ 1048600) (hl2 : l2 ≤ 1048600) (hs : s + l1 ≤ 9000000) :
    Calls Tryz.prog 110 #[.agg #[.int .i64 kd, .int .i64 pl, .int .i64 nn, .slice g1 l1 c1, .slice g2 l2 c2, .int .i64 wa], .int .i64 (s : Int)] w fun e w' => e = .returned (.int .i64 ((s + l1 + l2 : Nat) : Int)) ∧ Below w.heap.size w w' := by
  have bW := bel_alloc w (.cells #[.int .i64 kd, .int .i64 pl, .int .i64 nn, .slice g1 l1 c1, .slice g2 l2 c2, .int .i64 wa] 28)
  obtain ⟨x1, hx1⟩ : ∃ x1 : Nat, x1 = s + l1 := ⟨_, rfl⟩
  obtain ⟨x2, hx2⟩ : ∃ x2 : Nat, x2 = s + l1 + l2 := ⟨_, rfl⟩
  have HW : Hid (SlI (w.alloc (.cells #[.int .i64 kd, .int .i64 pl, .int .i64 nn, .slice g1 l1 c1, .slice g2 l2 c2, .int .i64 wa] 28)) g1 (marksI s l1) ∧ SlB (w.alloc (.cells #[.int .i64 kd, .int .i64 pl, .int .i64 nn, .slice g1 l1 c1, .slice g2 l2 c2, .int .i64 wa] 28)) g2 (marksB x1 l2) ∧ x1 = s + l1 ∧ x2 = s + l1 + l2) := ⟨s1.below bW, by rw [hx1]; exact s2.below bW, hx1, hx2⟩
  rw [← hx2]
  have y1 : ¬ (x1 : Int) < 0 := by omega
  have y2 : ¬ (x2 : Int) < 0 := by omega
  clear s1 s2 hx1 hx2
  go_enter Tryz.func110, Tryz.ntmps110
  go_wp2_with fail
  refine (heldIntS_from g1 l1 c1 s _ HW.out.1 (by omega) (by omega)).mono ?_
  rintro e u1 ⟨rfl, hu⟩
  subst hu
  rw [show (s : Int) + (l1 : Int) = (x1 : Int) by have := HW.out; omega]
  go_wp2_with fail
  refine (heldBoolS_from g2 l2 c2 x1 _ HW.out.2.1 (by omega) (by have := HW.out; omega)).mono ?_
  rintro e u2 ⟨rfl, hu⟩
  subst hu
  rw [show (x1 : Int) + (l2 : Int) = (x2 : Int) by have := HW.out; omega]
  go_wp2
  go_ret
  exact ⟨rfl, bW⟩
set_option maxRecDepth 20000 in
set_option maxHeartbeats 2000000 in
theorem heldCallL (C : Ca) (g1 g2 : Option Addr) (l1 l2 c1 c2 s : Nat) (w : World) (s1 : SlI w g1 (marksI s l1)) (s2 : SlB w g2 (marksB (s + l1) l2)) (hl1 : l1 ≤ 1048600) (hl2 : l2 ≤ 1048600) (hs : s + l1 ≤ 9000000) :
    Calls Tryz.prog 66 #[.agg (cac C g1 g2 l1 l2 c1 c2), .int .i64 (s : Int)] w fun e w' => e = .returned (.int .i64 ((s + l1 + l2 : Nat) : Int)) ∧ Below w.heap.size w w' := by
  have bW := bel_alloc w (.cells (cac C g1 g2 l1 l2 c1 c2) 30)
  have HW : Hid (SlI (w.alloc (.cells (cac C g1 g2 l1 l2 c1 c2) 30)) g1 (marksI s l1) ∧ SlB (w.alloc (.cells (cac C g1 g2 l1 l2 c1 c2) 30)) g2 (marksB (s + l1) l2)) := ⟨s1.below bW, s2.below bW⟩
  clear s1 s2
  obtain ⟨x, hx⟩ : ∃ x : Nat, x = s + l1 + l2 := ⟨_, rfl⟩
  have HX : Hid (x = s + l1 + l2) := hx
  rw [← hx]
  have y1 : ¬ (x : Int) < 0 := by omega
  clear hx
  go_enter Tryz.func66, Tryz.ntmps66
  go_wp2_with fail
  refine (heldReqL C.kd C.pl C.n C.wa g1 g2 l1 l2 c1 c2 s _ HW.out.1 HW.out.2 hl1 hl2 hs).mono ?_
  rintro e w1 ⟨rfl, b1⟩
  rw [← HX.out]
  have B1 := bel_nx bW b1
  clear b1 bW HW
  go_wp2
  go_ret
  exact ⟨rfl, B1⟩
def mkL (x : Nat) (L : La) : La := { L with c := { L.c with ws := marksI x L.c.ws.length, bs := marksB (x + L.c.ws.length) L.c.bs.length } }
def SmL (n : Nat) (f : Nat → Ca) (l1 l2 : Nat) : Prop := n + tlCa f n + l1 + l2 ≤ 1048600
theorem tlCa_eq (f : Nat → Ca) : ∀ n, tlCa f n = tl f n
  | 0 => rfl
  | n + 1 => by simp [tlCa, tl, tlCa_eq f n]
theorem SmL.ca {n l1 l2 : Nat} {f : Nat → Ca} (h : SmL n f l1 l2) : SmCa n f := by unfold SmL at h; unfold SmCa; omega
theorem SmL.ms {n l1 l2 : Nat} {f : Nat → Ca} (h : SmL n f l1 l2) : l1 ≤ 1048600 ∧ l2 ≤ 1048600 ∧ ∀ s, s ≤ 100 → msCa s f n + l1 ≤ 9000000 := by
  unfold SmL at h
  refine ⟨by omega, by omega, fun s hs => ?_⟩
  rw [msCa_eq]
  omega
def OutV (w w' : World) (n : Nat) (v : Value) (P : Nat → Prop) : Prop := w.heap.size ≤ w'.heap.size ∧ ∀ k, k < w.heap.size → ¬ (0 < n ∧ v.ownBlock = some k) → ¬ P k → w'.heap[k]? = w.heap[k]?
def Keep (hi : Nat) (w w' : World) : Prop := w.heap.size ≤ w'.heap.size ∧ ∀ k, hi ≤ k → k < w.heap.size → w'.heap[k]? = w.heap[k]?
theorem Keep.blk {hi g : Nat} {w w' : World} {t : TypeId} {cs : Array Value} (h : Keep hi w w') (hb : Blk w g t cs) (hg : hi ≤ g) : Blk w' g t cs := by
  unfold Blk; rw [h.2 g hg hb.lt]; exact hb
theorem Keep.row {hi base s n : Nat} {w w' : World} {e : TypeId} {v : Value} {xs : List Value} (h : Keep hi w w') (hr : w.ownsRow base e s v n xs) (hb : hi ≤ base) : w'.ownsRow base e s v n xs :=
  row_same hr (fun g hg => h.2 g (Nat.le_trans hb (World.ownsRow.lt hr g hg).1) (World.ownsRow.lt hr g hg).2)
theorem Keep.below {hi : Nat} {w w' : World} (hb : Below w.heap.size w w') : Keep hi w w' := ⟨hb.size, fun k _ hk => hb.block k hk⟩
theorem Keep.trans {hi : Nat} {w w' w'' : World} (h : Keep hi w w') (h' : Keep hi w' w'') : Keep hi w w'' := ⟨Nat.le_trans h.1 h'.1, fun k hk hl => by rw [h'.2 k hk (Nat.lt_of_lt_of_le hl h.1), h.2 k hk hl]⟩
theorem Blk.noEx {w : World} {g : Nat} {t t' : TypeId} {cs : Array Value} (h : Blk w g t cs) (ht : t ≠ t') : ¬ ExB w g t' := by
  rintro ⟨cs', h'⟩
  unfold Blk at h h'
  rw [h] at h'
  simp at h'
  exact ht h'.2
theorem row_noEx {w : World} {base s n g : Nat} {e t : TypeId} {v : Value} {xs : List Value} (h : w.ownsRow base e s v n xs) (hv : v.ownBlock = some g) (ht : e ≠ t) : ¬ ExB w g t := by
  obtain ⟨cs, hb⟩ := row_ex h hv
  exact Blk.noEx hb ht
theorem markCallS_L (a : Option Addr) (n c base s : Nat) (f : Nat → Ca) (F0 : Nat → List Value) (β : Nat → Nat) (w : World) (hO : OwnO w base 30 9 (.slice a n c) n F0) (hI : InE w base β F0 (fun k => caE (f k)) n) (hs : s ≤ 100) (hG : SmCa n f) :
    Calls Tryz.prog 61 #[.slice a n c, .int .i64 (s : Int)] w fun e w' => e = .returned (.int .i64 (msCa s f n : Int)) ∧ (∃ F', OwnO w' base 30 9 (.slice a n c) n F' ∧ InE w' base β F' (fun k => caE (mkCa (msCa s f k) (f k))) n ∧ ∀ j, j < n → ∀ k, Ob (F' j) k ↔ Ob (F0 j) k) ∧ Below base w w' ∧ OutV w w' n (.slice a n c) (fun k => ∃ j, j < n ∧ Ob (F0 j) k) := by
  by_cases h0 : n = 0
  · subst h0
    refine (markCa_nil a c s w).mono ?_
    rintro e w' ⟨rfl, rfl⟩
    exact ⟨rfl, ⟨F0, hO, hI.congr (fun _ _ => rfl) (fun k hk => by omega), fun _ _ _ => Iff.rfl⟩, Below.refl _ _, Nat.le_refl _, fun _ _ _ _ => rfl⟩
  · rcases hO with ⟨h9, _⟩ | ⟨g, o, c', hv, hbg, hR⟩
    · exact absurd h9 h0
    · simp only [Value.slice.injEq, true_and] at hv
      obtain ⟨rfl, rfl⟩ := hv
      refine (markCa_ne g o n c base s f F0 β w hR hbg hI hs hG).mono ?_
      rintro e w' ⟨rfl, ⟨F', q1, q2, q5⟩, q3, q4⟩
      exact ⟨rfl, ⟨F', .inr ⟨g, o, c, rfl, hbg, q1⟩, q2, q5⟩, q3, q4.1, fun k hk hne ho => q4.2 k hk (fun e => hne ⟨by omega, by rw [e]; rfl⟩) ho⟩
def LnPB (w : World) (base hi n : Nat) (f : Nat → Ca) (L : La) (a : Option Addr) (cp : Nat) (a1 a2 : Option Addr) (l1 l2 c1 c2 : Nat) : Prop :=
  l1 = L.c.ws.length ∧ l2 = L.c.bs.length ∧ ∃ (F : Nat → List Value) (β : Nat → Nat), OwnO w base 30 9 (.slice a n cp) n F ∧ InE w base β F (fun k => caE (f k)) n ∧ OwnI w base (.slice a1 l1 c1) L.c.ws ∧ OwnB w base (.slice a2 l2 c2) L.c.bs ∧
    (∀ k, (Value.slice a1 l1 c1).ownBlock = some k → ∀ j, j < n → ¬ Ob (F j) k) ∧ (∀ k, (Value.slice a2 l2 c2).ownBlock = some k → ∀ j, j < n → ¬ Ob (F j) k) ∧
    (∀ k, 0 < n → (Value.slice a n cp).ownBlock = some k → k < hi) ∧ (∀ k j, j < n → Ob (F j) k → k < hi) ∧ (∀ k, (Value.slice a1 l1 c1).ownBlock = some k → k < hi) ∧ (∀ k, (Value.slice a2 l2 c2).ownBlock = some k → k < hi)
theorem OwnO.blk {w : World} {base : Nat} {t : TypeId} {s : Nat} {v : Value} {n k : Nat} {F : Nat → List Value} (h : OwnO w base t s v n F) (h0 : 0 < n) (hk : v.ownBlock = some k) : ExB w k t ∧ k < w.heap.size ∧ base ≤ k := by
  rcases h with ⟨h9, _⟩ | ⟨g, o, c, rfl, hb, hR⟩
  · omega
  · simp [Value.ownBlock] at hk
    subst hk
    exact ⟨hR.exB, hR.lt, hb⟩
theorem LnP.pb {w : World} {base n cp l1 l2 c1 c2 : Nat} {f : Nat → Ca} {L : La} {a a1 a2 : Option Addr} (h : LnP w base n f L a cp a1 a2 l1 l2 c1 c2) : LnPB w base w.heap.size n f L a cp a1 a2 l1 l2 c1 c2 := by
  obtain ⟨h1, h2, F, β, h3, h4, h5, h6, h7, h8⟩ := h
  exact ⟨h1, h2, F, β, h3, h4, h5, h6, h7, h8, fun k h0 hk => (h3.blk h0 hk).2.1, fun k j hj ho => (h4.ob hj ho).2.2, fun k hk => (World.ownsRow.lt h5 k hk).2, fun k hk => (World.ownsRow.lt h6 k hk).2⟩
theorem LnPB.p {w : World} {base hi n cp l1 l2 c1 c2 : Nat} {f : Nat → Ca} {L : La} {a a1 a2 : Option Addr} (h : LnPB w base hi n f L a cp a1 a2 l1 l2 c1 c2) : LnP w base n f L a cp a1 a2 l1 l2 c1 c2 := by
  obtain ⟨h1, h2, F, β, h3, h4, h5, h6, h7, h8, _⟩ := h
  exact ⟨h1, h2, F, β, h3, h4, h5, h6, h7, h8⟩
theorem LnPB.below {w w' : World} {base hi n cp l1 l2 c1 c2 : Nat} {f : Nat → Ca} {L : La} {a a1 a2 : Option Addr} (h : LnPB w base hi n f L a cp a1 a2 l1 l2 c1 c2) (hb : Below w.heap.size w w') : LnPB w' base hi n f L a cp a1 a2 l1 l2 c1 c2 := by
  obtain ⟨h1, h2, F, β, h3, h4, h5, h6, h7⟩ := h
  exact ⟨h1, h2, F, β, h3.below hb, h4.below hb, h5.below hb, h6.below hb, h7⟩
theorem LnPB.keep {w w' : World} {hx base hi n cp l1 l2 c1 c2 : Nat} {f : Nat → Ca} {L : La} {a a1 a2 : Option Addr} (h : LnPB w base hi n f L a cp a1 a2 l1 l2 c1 c2) (hk : Keep hx w w') (hb : hx ≤ base) : LnPB w' base hi n f L a cp a1 a2 l1 l2 c1 c2 := by
  obtain ⟨h1, h2, F, β, h3, h4, h5, h6, h7⟩ := h
  refine ⟨h1, h2, F, β, ?_, ?_, hk.row h5 hb, hk.row h6 hb, h7⟩
  · rcases h3 with q | ⟨g, o, c', hv, hbg, cs, r1, r2⟩
    · exact .inl q
    · exact .inr ⟨g, o, c', hv, hbg, cs, by rw [hk.2 g (by omega) (Array.getElem?_eq_some_iff.1 r1).1]; exact r1, r2⟩
  · obtain ⟨i0, i1, i2⟩ := h4
    refine ⟨i0, i1, fun k hk' => ?_⟩
    obtain ⟨b1, b2, k1, k2, e, o1, o2, t1, t2⟩ := i2 k hk'
    have hlo := bt_mono i1 (Nat.zero_le k)
    exact ⟨b1, b2, k1, k2, e, hk.row o1 (by omega), hk.row o2 (by omega), t1, t2⟩
set_option maxRecDepth 20000 in
set_option maxHeartbeats 4000000 in
theorem markLine_any (L : La) (a a1 a2 : Option Addr) (n cp l1 l2 c1 c2 base s : Nat) (f : Nat → Ca) (hi : Nat) (w : World) (h : LnPB w base hi n f L a cp a1 a2 l1 l2 c1 c2) (hb : base ≤ w.heap.size) (hs : s ≤ 100) (hG : SmL n f l1 l2) :
    Calls Tryz.prog 19 #[.agg (lac L a n cp a1 a2 l1 l2 c1 c2), .int .i64 (s : Int)] w fun e w' => e = .returned (.int .i64 ((msCa s f n + l1 + l2 : Nat) : Int)) ∧ LnP w' base n (fun k => mkCa (msCa s f k) (f k)) (mkL (msCa s f n) L) a cp a1 a2 l1 l2 c1 c2 ∧ Below base w w' ∧ Keep hi w w' := by
  obtain ⟨hl1, hl2, F, β, h3, h4, h5, h6, h7, h8, z1, z2, z3, z4⟩ := h
  have HZ : Hid ((∀ k, 0 < n → (Value.slice a n cp).ownBlock = some k → k < hi) ∧ (∀ k j, j < n → Ob (F j) k → k < hi) ∧ (∀ k, (Value.slice a1 l1 c1).ownBlock = some k → k < hi) ∧ (∀ k, (Value.slice a2 l2 c2).ownBlock = some k → k < hi)) := ⟨z1, z2, z3, z4⟩
  clear z1 z2 z3 z4
  obtain ⟨B, hB⟩ : ∃ B, B = w.heap.size := ⟨_, rfl⟩
  obtain ⟨W, hW⟩ : ∃ W, W = w.alloc (.cells (lac L a n cp a1 a2 l1 l2 c1 c2) 32) := ⟨_, rfl⟩
  have bW : Below w.heap.size w W := by rw [hW]; exact bel_alloc _ _
  have A0 : Blk W B 32 (lac L a n cp a1 a2 l1 l2 c1 c2) := by rw [hW, hB]; exact Blk.new _ _ _
  have H0 : Hid (OwnO W base 30 9 (.slice a n cp) n F ∧ InE W base β F (fun k => caE (f k)) n ∧ OwnI W base (.slice a1 l1 c1) L.c.ws ∧ OwnB W base (.slice a2 l2 c2) L.c.bs ∧ Blk W B 32 (lac L a n cp a1 a2 l1 l2 c1 c2) ∧ Below w.heap.size w W ∧ (∀ j, j < n → ¬ Ob (F j) B) ∧ base ≤ w.heap.size ∧ SmL n f l1 l2) := ⟨h3.below bW, h4.below bW, h5.below bW, h6.below bW, A0, bW, fun j hj ho => by have := (h4.ob hj ho).2.2; omega, hb, hG⟩
  have HD : Hid (l1 = L.c.ws.length ∧ l2 = L.c.bs.length ∧ (∀ k, (Value.slice a1 l1 c1).ownBlock = some k → ∀ j, j < n → ¬ Ob (F j) k) ∧ (∀ k, (Value.slice a2 l2 c2).ownBlock = some k → ∀ j, j < n → ¬ Ob (F j) k)) := ⟨hl1, hl2, h7, h8⟩
  clear hl1 hl2 h3 h4 h5 h6 h7 h8 bW hG hb
  obtain ⟨⟨x0, x1, x2, x3, x4, x5, x6, x7, x8, x9, x10, x11, x12, x13, x14, x15, x16⟩, xf⟩ := A0.svn
  clear A0 xf
  go_enter Tryz.func19, Tryz.ntmps19
  go_upto_region 1 with fail
  rw [← hW, ← hB]
  clear hW hB
  go_wp2_with fail
  refine (markCallS_L a n cp base s f F β _ H0.out.1 H0.out.2.1 hs H0.out.2.2.2.2.2.2.2.2.ca).mono ?_
  rintro e w1 ⟨rfl, ⟨F', q1, q2, q5⟩, q3, q4⟩
  obtain ⟨x, hx⟩ : ∃ x : Nat, x = msCa s f n := ⟨_, rfl⟩
  rw [← hx]
  have H1 : Hid (OwnO w1 base 30 9 (.slice a n cp) n F' ∧ InE w1 base β F' (fun k => caE (mkCa (msCa s f k) (f k))) n ∧ OwnI w1 base (.slice a1 l1 c1) L.c.ws ∧ OwnB w1 base (.slice a2 l2 c2) L.c.bs ∧ Blk w1 B 32 (lac L a n cp a1 a2 l1 l2 c1 c2) ∧ Below base w w1 ∧ x = msCa s f n ∧ base ≤ w1.heap.size ∧ (∀ j, j < n → ∀ k, Ob (F' j) k ↔ Ob (F j) k) ∧ Keep hi w w1) := by
    have f0 := H0.out
    have hBl := f0.2.2.2.2.1.lt
    refine ⟨q1, q2, row_same f0.2.2.1 (fun g hg => ?_), row_same f0.2.2.2.1 (fun g hg => ?_), ?_, (f0.2.2.2.2.2.1.mono f0.2.2.2.2.2.2.2.1).trans q3, hx, Nat.le_trans f0.2.2.2.2.2.2.2.1 (Nat.le_trans f0.2.2.2.2.2.1.size q4.1), q5, Nat.le_trans f0.2.2.2.2.2.1.size q4.1, fun k hk hl => ?_⟩
    · exact q4.2 g (World.ownsRow.lt f0.2.2.1 g hg).2 (fun hq => row_noEx f0.2.2.1 hg (by decide) (f0.1.blk hq.1 hq.2).1) (by rintro ⟨j, hj, ho⟩; exact HD.out.2.2.1 g hg j hj ho)
    · exact q4.2 g (World.ownsRow.lt f0.2.2.2.1 g hg).2 (fun hq => row_noEx f0.2.2.2.1 hg (by decide) (f0.1.blk hq.1 hq.2).1) (by rintro ⟨j, hj, ho⟩; exact HD.out.2.2.2 g hg j hj ho)
    · unfold Blk
      rw [q4.2 B hBl (fun hq => Blk.noEx f0.2.2.2.2.1 (by decide) (f0.1.blk hq.1 hq.2).1) (by rintro ⟨j, hj, ho⟩; exact f0.2.2.2.2.2.2.1 j hj ho)]
      exact f0.2.2.2.2.1
    · rw [q4.2 k (Nat.lt_of_lt_of_le hl f0.2.2.2.2.2.1.size) (fun hq => by have := HZ.out.1 k hq.1 hq.2; omega) (by rintro ⟨j, hj, ho⟩; have := HZ.out.2.1 k j hj ho; omega)]
      exact f0.2.2.2.2.2.1.block k hl
  clear q1 q2 q3 q4 q5 hx x0 x1 x2 x3 x4 x5 x6 x7 x8 x9 x10 x11 x12 x13 x14 x15 x16
  obtain ⟨⟨x0, x1, x2, x3, x4, x5, x6, x7, x8, x9, x10, x11, x12, x13, x14, x15, x16⟩, xf⟩ := H1.out.2.2.2.2.1.svn
  clear xf
  go_wp2_with fail
  refine (markCallL L.c a1 a2 l1 l2 c1 c2 base x L.c.ws L.c.bs _ H1.out.2.2.1 H1.out.2.2.2.1 H1.out.2.2.2.2.2.2.2.1 (H0.out.2.2.2.2.2.2.2.2.ms).1 (H0.out.2.2.2.2.2.2.2.2.ms).2.1 (by have := H1.out.2.2.2.2.2.2.1; rw [this]; exact (H0.out.2.2.2.2.2.2.2.2.ms).2.2 s hs)).mono ?_
  rintro e w2 ⟨rfl, m⟩
  obtain ⟨y, hy⟩ : ∃ y : Nat, y = x + l1 + l2 := ⟨_, rfl⟩
  rw [← hy]
  have H2 : Hid (y = msCa s f n + l1 + l2 ∧ LnP w2 base n (fun k => mkCa (msCa s f k) (f k)) (mkL (msCa s f n) L) a cp a1 a2 l1 l2 c1 c2 ∧ Below base w w2 ∧ Keep hi w w2) := by
    have f1 := H1.out
    have d := HD.out
    obtain ⟨m1, m2, m3, m4⟩ := m
    have hxx := f1.2.2.2.2.2.2.1
    refine ⟨by omega, ⟨by simp [mkL, marksI_length]; exact d.1, by simp [mkL, marksB_length]; exact d.2.1, F', β, ?_, ?_, ?_, ?_, fun k hk j hj ho => d.2.2.1 k hk j hj ((f1.2.2.2.2.2.2.2.2.1 j hj k).1 ho), fun k hk j hj ho => d.2.2.2 k hk j hj ((f1.2.2.2.2.2.2.2.2.1 j hj k).1 ho)⟩, f1.2.2.2.2.2.1.trans m4, f1.2.2.2.2.2.2.2.2.2.trans ⟨m3.1, fun k hk hl => m3.2 k hl (fun e9 => by have := HZ.out.2.2.1 k e9; omega) (fun e9 => by have := HZ.out.2.2.2 k e9; omega)⟩⟩
    · rcases f1.1 with q | ⟨g, o, c', hv, hbg, hR⟩
      · exact .inl q
      · refine .inr ⟨g, o, c', hv, hbg, ?_⟩
        obtain ⟨cs, r1, r2⟩ := hR
        refine ⟨cs, ?_, r2⟩
        rw [m3.2 g (Array.getElem?_eq_some_iff.1 r1).1 (row_noBlk f1.2.2.1 (show Blk w1 g 30 cs from r1) (by decide)) (row_noBlk f1.2.2.2.1 (show Blk w1 g 30 cs from r1) (by decide))]
        exact r1
    · obtain ⟨i0, i1, i2⟩ := f1.2.1
      refine ⟨i0, i1, fun k hk => ?_⟩
      obtain ⟨b1, b2, k1, k2, e, o1, o2, t1, t2⟩ := i2 k hk
      have hob : ∀ g, (Value.slice b1 (caE (mkCa (msCa s f k) (f k))).ws.length k1).ownBlock = some g ∨ (Value.slice b2 (caE (mkCa (msCa s f k) (f k))).bs.length k2).ownBlock = some g → Ob (F k) g := fun g hg => (f1.2.2.2.2.2.2.2.2.1 k hk g).1 (by rw [e]; exact (Ob_els (by simp [caE, Value.ownBlock]) (by simp [caE, Value.ownBlock])).2 hg)
      refine ⟨b1, b2, k1, k2, e, row_same o1 (fun g hg => ?_), row_same o2 (fun g hg => ?_), t1, t2⟩
      · exact m3.2 g (World.ownsRow.lt o1 g hg).2 (fun e9 => d.2.2.1 g e9 k hk (hob g (.inl hg))) (fun e9 => d.2.2.2 g e9 k hk (hob g (.inl hg)))
      · exact m3.2 g (World.ownsRow.lt o2 g hg).2 (fun e9 => d.2.2.1 g e9 k hk (hob g (.inr hg))) (fun e9 => d.2.2.2 g e9 k hk (hob g (.inr hg)))
    · show OwnI w2 base (.slice a1 l1 c1) (marksI (msCa s f n) L.c.ws.length)
      rw [← hxx, ← d.1]; exact m1
    · show OwnB w2 base (.slice a2 l2 c2) (marksB (msCa s f n + L.c.ws.length) L.c.bs.length)
      rw [← hxx, ← d.1, ← d.2.1]; exact m2
  clear m hy x0 x1 x2 x3 x4 x5 x6 x7 x8 x9 x10 x11 x12 x13 x14 x15 x16 H0 H1
  go_wp2
  go_ret
  exact ⟨by rw [← H2.out.1]; rfl, H2.out.2.1, H2.out.2.2.1, H2.out.2.2.2⟩
set_option maxRecDepth 20000 in
set_option maxHeartbeats 4000000 in
theorem heldLine_any (L : La) (a a1 a2 : Option Addr) (n cp l1 l2 c1 c2 s : Nat) (f : Nat → Ca) (w : World) (h : LnR w n (fun k => mkCa (msCa s f k) (f k)) (mkL (msCa s f n) L) a a1 a2 l1 l2) (hs : s ≤ 100) (hG : SmL n f l1 l2) (L' : La) (hL' : L' = L) :
    Calls Tryz.prog 22 #[.agg (lac L' a n cp a1 a2 l1 l2 c1 c2), .int .i64 (s : Int)] w fun e w' => e = .returned (.int .i64 ((msCa s f n + l1 + l2 : Nat) : Int)) ∧ Below w.heap.size w w' := by
  subst hL'
  obtain ⟨B, hB⟩ : ∃ B, B = w.heap.size := ⟨_, rfl⟩
  obtain ⟨W, hW⟩ : ∃ W, W = w.alloc (.cells (lac L' a n cp a1 a2 l1 l2 c1 c2) 32) := ⟨_, rfl⟩
  have bW : Below w.heap.size w W := by rw [hW]; exact bel_alloc _ _
  have A0 : Blk W B 32 (lac L' a n cp a1 a2 l1 l2 c1 c2) := by rw [hW, hB]; exact Blk.new _ _ _
  obtain ⟨x, hx⟩ : ∃ x : Nat, x = msCa s f n := ⟨_, rfl⟩
  obtain ⟨y, hy⟩ : ∃ y : Nat, y = msCa s f n + l1 + l2 := ⟨_, rfl⟩
  have h1 : l1 = L'.c.ws.length := by have := h.1; simpa [mkL, marksI_length] using this
  have h2 : l2 = L'.c.bs.length := by have := h.2.1; simpa [mkL, marksB_length] using this
  have H0 : Hid (SlC W a n (fun k => mkCa (msCa s f k) (f k)) ∧ SlI W a1 (marksI x l1) ∧ SlB W a2 (marksB (x + l1) l2) ∧ Below w.heap.size w W ∧ SmL n f l1 l2 ∧ x = msCa s f n ∧ y = msCa s f n + l1 + l2) := by
    have h9 := h.below bW
    refine ⟨h9.2.2.1, ?_, ?_, bW, hG, hx, hy⟩
    · have := h9.2.2.2.1; rw [hx, h1]; exact this
    · have := h9.2.2.2.2; rw [hx, h1, h2]; exact this
  have y1 : ¬ (x : Int) < 0 := by omega
  have y2 : ¬ (y : Int) < 0 := by omega
  rw [← hy]
  obtain ⟨⟨x0, x1, x2, x3, x4, x5, x6, x7, x8, x9, x10, x11, x12, x13, x14, x15, x16⟩, xf⟩ := A0.svn
  clear h A0 bW hG hx hy h1 h2 xf
  go_enter Tryz.func22, Tryz.ntmps22
  go_upto_region 1 with fail
  rw [← hW, ← hB]
  clear hW hB
  go_wp2_with fail
  refine (heldCa_any a n cp s f _ H0.out.1 hs H0.out.2.2.2.2.1.ca).mono ?_
  rintro e w1 ⟨rfl, hw⟩
  have hw := hw.symm
  subst hw
  rw [← H0.out.2.2.2.2.2.1]
  go_wp2_with fail
  refine (heldCallL L'.c a1 a2 l1 l2 c1 c2 x _ H0.out.2.1 H0.out.2.2.1 (H0.out.2.2.2.2.1.ms).1 (H0.out.2.2.2.2.1.ms).2.1 (by have := H0.out.2.2.2.2.2.1; rw [this]; exact (H0.out.2.2.2.2.1.ms).2.2 s hs)).mono ?_
  rintro e w2 ⟨rfl, b2⟩
  rw [show ((x + l1 + l2 : Nat) : Int) = (y : Int) by have := H0.out; omega]
  have B2 : Hid (Below w.heap.size w w2) := bel_nx H0.out.2.2.2.1 b2
  clear b2 x0 x1 x2 x3 x4 x5 x6 x7 x8 x9 x10 x11 x12 x13 x14 x15 x16
  go_wp2
  go_ret
  exact ⟨rfl, B2.out⟩
end Go.Proofs.YtmhdneenjoelfaaGreat
namespace Go.Proofs.YtmhdneenjoelfaaGreat
open Go.RowKit Go.Joins
set_option linter.unusedVariables false
set_option linter.unusedSimpArgs false
abbrev rqL (kd pl nn wa : Int) (a1 a2 : Option Addr) (l1 l2 c1 c2 : Nat) : Array Value := #[.int .i64 kd, .int .i64 pl, .int .i64 nn, .slice a1 l1 c1, .slice a2 l2 c2, .int .i64 wa]
abbrev rq0 : Array Value := #[.int .i64 0, .int .i64 0, .int .i64 0, .slice none 0 0, .slice none 0 0, .int .i64 0]
def RqP (w w' : World) (e : Ending) (kd pl nn wa : Int) (l1 l2 : Nat) (ws : List Int) (bs : List Bool) : Prop :=
  ∃ a1 a2 c1 c2, e = .returned (.agg (rqL kd pl nn wa a1 a2 l1 l2 c1 c2)) ∧ OwnI w' w.heap.size (.slice a1 l1 c1) ws ∧ OwnB w' w.heap.size (.slice a2 l2 c2) bs ∧ Below w.heap.size w w'
def CqP (w : World) (B : Nat) (kd pl nn wa : Int) (m1 m2 : Nat) (ws : List Int) (bs : List Bool) (wx : World) : Prop :=
  ∃ g1 g2, Blk wx B 28 (rqL kd pl nn wa (some ⟨g1, 0, none⟩) (some ⟨g2, 0, none⟩) m1 m2 m1 m2) ∧ OwnI wx w.heap.size (.slice (some ⟨g1, 0, none⟩) m1 m1) ws ∧ OwnB wx w.heap.size (.slice (some ⟨g2, 0, none⟩) m2 m2) bs ∧ Blk wx (B + 1) 28 rq0 ∧ Below w.heap.size w wx
theorem cqA {w u : World} {B : Nat} {kd pl nn wa : Int} {q1 q2 : Option Addr} {m1 m2 k1 k2 g1 g2 : Nat} {ws : List Int} {bs : List Bool} (hB : Blk u B 28 (rqL kd pl nn wa q1 q2 m1 m2 k1 k2)) (o1 : OwnI u w.heap.size (.slice (some ⟨g1, 0, none⟩) m1 m1) ws) (o2 : OwnB u w.heap.size (.slice (some ⟨g2, 0, none⟩) m2 m2) bs) (hR : Blk u (B + 1) 28 rq0) (hb : Below w.heap.size w u) (hBw : w.heap.size ≤ B) :
    CqP w B kd pl nn wa m1 m2 ws bs ((u.setCell ⟨B, 3, none⟩ (.slice (some ⟨g1, 0, none⟩) m1 m1)).setCell ⟨B, 4, none⟩ (.slice (some ⟨g2, 0, none⟩) m2 m2)) := by
  refine ⟨g1, g2, ?_, row_setE (row_setE o1 ⟨_, hB⟩ (by decide)) (ExB.set ⟨_, hB⟩) (by decide), row_setE (row_setE o2 ⟨_, hB⟩ (by decide)) (ExB.set ⟨_, hB⟩) (by decide), (hR.setNe (by omega)).setNe (by omega), (hb.setCell (p := ⟨B, 3, none⟩) hBw _).setCell (p := ⟨B, 4, none⟩) hBw _⟩
  have h9 := (hB.set 3 (.slice (some ⟨g1, 0, none⟩) m1 m1)).set 4 (.slice (some ⟨g2, 0, none⟩) m2 m2)
  simpa using h9
set_option maxRecDepth 20000 in
set_option maxHeartbeats 1000000 in
theorem implCopyReq_any (kd pl nn wa : Int) (q1 q2 : Option Addr) (m1 m2 k1 k2 : Nat) (ws : List Int) (bs : List Bool) (w : World) (h1 : m1 = ws.length) (h2 : m2 = bs.length) (s1 : SlI w q1 ws) (s2 : SlB w q2 bs) (hl1 : m1 ≤ 2000000) (hl2 : m2 ≤ 2000000) :
    Calls Tryz.prog 121 #[.agg (rqL kd pl nn wa q1 q2 m1 m2 k1 k2)] w fun e w' => RqP w w' e kd pl nn wa m1 m2 ws bs := by
  obtain ⟨B, hB⟩ : ∃ B, B = w.heap.size := ⟨_, rfl⟩
  obtain ⟨W, hW⟩ : ∃ W, W = (w.alloc (.cells (rqL kd pl nn wa q1 q2 m1 m2 k1 k2) 28)).alloc (.cells rq0 28) := ⟨_, rfl⟩
  have bW : Below w.heap.size w W := by rw [hW]; exact bel_nx (bel_alloc _ _) (bel_alloc _ _)
  have HW : Hid (Below w.heap.size w W ∧ Blk W B 28 (rqL kd pl nn wa q1 q2 m1 m2 k1 k2) ∧ Blk W (B + 1) 28 rq0 ∧ SlI W q1 ws ∧ SlB W q2 bs ∧ m1 = ws.length ∧ m2 = bs.length ∧ w.heap.size ≤ B) := ⟨bW, by rw [hW, hB]; exact (Blk.new w _ _).below (bel_alloc _ _), by rw [hW, hB]; have := Blk.new (w.alloc (.cells (rqL kd pl nn wa q1 q2 m1 m2 k1 k2) 28)) rq0 28; simpa using this, s1.below bW, s2.below bW, h1, h2, by omega⟩
  clear bW h1 h2 s1 s2
  go_enter Tryz.func121, Tryz.ntmps121
  go_upto_region 1 with fail
  rw [← hW]
  have hB1 : w.heap.size + 1 = B + 1 := by omega
  rw [hB1, ← hB]
  clear hW hB hB1
  obtain ⟨y0, y1, y2, y3, y4, y5⟩ := HW.out.2.1.six3
  go_cut [] (fun wx => CqP w B kd pl nn wa m1 m2 ws bs wx)
  case first =>
    go_region_with (first
      | (go_at_call 96; refine (copyOfI q1 m1 k1 ws _ HW.out.2.2.2.2.2.1 (HW.out.2.2.2.1.below (by first | exact Below.refl _ _ | exact (Below.refl _ _).drew | exact (Below.refl _ _).drew.drew)) (by have := HW.out.2.2.2.2.2.1; omega)).mono ?_; rintro e w1 ⟨g1, rfl, O1', b1'⟩; have H1 : Hid (Below W.heap.size W w1 ∧ OwnI w1 w.heap.size (.slice (some ⟨g1, 0, none⟩) m1 m1) ws) := (by have b9 : Below W.heap.size W w1 := bel_nx (by first | exact Below.refl _ _ | exact (Below.refl _ _).drew | exact (Below.refl _ _).drew.drew) b1'; exact ⟨b9, OwnI.mono (show OwnI _ _ _ _ from O1') HW.out.1.size⟩); clear O1' b1'; obtain ⟨z0, z1, z2, z3, z4, z5⟩ := (HW.out.2.1.below H1.out.1).six3; have zf := (HW.out.2.1.below H1.out.1).fro; have zf3 := zf 3; have zf4 := zf 4)
      | (go_at_call 97; refine (copyOfB q2 m2 k2 bs _ HW.out.2.2.2.2.2.2.1 (HW.out.2.2.2.2.1.below (by first | exact H1.out.1 | exact H1.out.1.drew | exact H1.out.1.drew.drew)) (by have := HW.out.2.2.2.2.2.2.1; omega)).mono ?_; rintro e w2 ⟨g2, rfl, O2', b2'⟩; have H2 : Hid (Below W.heap.size W w2 ∧ OwnI w2 w.heap.size (.slice (some ⟨g1, 0, none⟩) m1 m1) ws ∧ OwnB w2 w.heap.size (.slice (some ⟨g2, 0, none⟩) m2 m2) bs) := (by have b8 : Below w1.heap.size w1 w2 := bel_nx (by first | exact Below.refl _ _ | exact (Below.refl _ _).drew | exact (Below.refl _ _).drew.drew) b2'; have b9 := bel_nx H1.out.1 b8; exact ⟨b9, H1.out.2.below b8, OwnB.mono (show OwnB _ _ _ _ from O2') (Nat.le_trans HW.out.1.size (Nat.le_trans H1.out.1.size (by first | exact Nat.le_refl _ | (simp))))⟩); clear O2' b2'; obtain ⟨x0, x1, x2, x3, x4, x5⟩ := (HW.out.2.1.below H2.out.1).six3; have xf := (HW.out.2.1.below H2.out.1).fro; have xf3 := xf 3; have xf4 := xf 4))
    all_goals (go_wp2_with fail; go_meet; first | exact cqA (HW.out.2.1.below H2.out.1) H2.out.2.1 H2.out.2.2 (HW.out.2.2.1.below H2.out.1) (bel_nx HW.out.1 H2.out.1) HW.out.2.2.2.2.2.2.2 | exact cqB (HW.out.2.1.below H2.out.1) H2.out.2.1 H2.out.2.2 (HW.out.2.2.1.below H2.out.1) (bel_nx HW.out.1 H2.out.1) HW.out.2.2.2.2.2.2.2)
  case rest =>
  obtain ⟨g1, g2, X1, O1, O2, R1, b1⟩ := hcut
  rename World => u
  have HX : Hid (OwnI u w.heap.size (.slice (some ⟨g1, 0, none⟩) m1 m1) ws ∧ OwnB u w.heap.size (.slice (some ⟨g2, 0, none⟩) m2 m2) bs ∧ Below w.heap.size w u ∧ Blk u (B + 1) 28 rq0) := ⟨O1, O2, b1, R1⟩
  clear y0 y1 y2 y3 y4 y5
  obtain ⟨y0, y1, y2, y3, y4, y5⟩ := X1.six3
  obtain ⟨x0, x1, x2, x3, x4, x5⟩ := R1.six3
  have f0 := R1.fro 0
  have f1 := R1.fro 1
  have f2 := R1.fro 2
  have f3 := R1.fro 3
  have f4 := R1.fro 4
  have f5 := R1.fro 5
  have HY : Hid (OwnI (setL u (B + 1) 0 (rqL kd pl nn wa (some ⟨g1, 0, none⟩) (some ⟨g2, 0, none⟩) m1 m2 m1 m2).toList) w.heap.size (.slice (some ⟨g1, 0, none⟩) m1 m1) ws ∧ OwnB (setL u (B + 1) 0 (rqL kd pl nn wa (some ⟨g1, 0, none⟩) (some ⟨g2, 0, none⟩) m1 m2 m1 m2).toList) w.heap.size (.slice (some ⟨g2, 0, none⟩) m2 m2) bs ∧ Below w.heap.size w (setL u (B + 1) 0 (rqL kd pl nn wa (some ⟨g1, 0, none⟩) (some ⟨g2, 0, none⟩) m1 m2 m1 m2).toList)) := ⟨row_stL O1 ⟨_, R1⟩ (by decide), row_stL O2 ⟨_, R1⟩ (by decide), setL_below (by have := HW.out.2.2.2.2.2.2.2; omega) _ _ _ b1⟩
  clear X1 O1 O2 R1 b1 HX HW
  go_wp2
  refine bodyPost_ret (v := .agg (rqL kd pl nn wa (some ⟨g1, 0, none⟩) (some ⟨g2, 0, none⟩) m1 m2 m1 m2)) (by simp [results, Tryz.results121, go_sem, x0, x1, x2, x3, x4, x5]) rfl ⟨_, _, _, _, rfl, HY.out.1, HY.out.2.1, HY.out.2.2⟩
end Go.Proofs.YtmhdneenjoelfaaGreat
namespace Go.Proofs.YtmhdneenjoelfaaGreat
theorem i64_and_mask (n : Int) (k : Nat) (m : Int) (hm : (BitVec.ofInt 64 m).toNat = 2 ^ k - 1) (hk : k ≤ 62) : bits .and .i64 n m = n % ((2 ^ k : Nat) : Int) := by
  have key : (BitVec.ofInt 64 n &&& BitVec.ofInt 64 m).toNat = (n % ((2 ^ 64 : Nat) : Int)).toNat % 2 ^ k := by
    rw [BitVec.toNat_and, BitVec.toNat_ofInt, hm, Nat.and_two_pow_sub_one_eq_mod]
  show IntKind.i64.wrap ((BitVec.ofInt 64 n &&& BitVec.ofInt 64 m).toNat : Nat) = n % ((2 ^ k : Nat) : Int)
  have hlt : 2 ^ k ≤ 2 ^ 62 := Nat.pow_le_pow_right (by decide) hk
  have hpos : 0 < 2 ^ k := Nat.two_pow_pos k
  have e1 : (((n % ((2 ^ 64 : Nat) : Int)).toNat % 2 ^ k : Nat) : Int) = n % ((2 ^ k : Nat) : Int) := by
    have h0 : 0 ≤ n % ((2 ^ 64 : Nat) : Int) := Int.emod_nonneg _ (by decide)
    rw [Int.natCast_emod, Int.toNat_of_nonneg h0]
    refine Int.emod_emod_of_dvd n ?_
    exact Int.natCast_dvd_natCast.2 (Nat.pow_dvd_pow 2 (by omega))
  rw [key, e1, IntKind.wrap_i64]
  have h1 : 0 ≤ n % ((2 ^ k : Nat) : Int) := Int.emod_nonneg _ (by omega)
  have h2 : n % ((2 ^ k : Nat) : Int) < ((2 ^ k : Nat) : Int) := Int.emod_lt_of_pos _ (by omega)
  omega
theorem and16 (n : Int) : bits .and .i64 n 65535 = n % 65536 := i64_and_mask n 16 65535 (by decide) (by decide)
theorem and32 (n : Int) : bits .and .i64 n 4294967295 = n % 4294967296 := i64_and_mask n 32 4294967295 (by decide) (by decide)
end Go.Proofs.YtmhdneenjoelfaaGreat
namespace Go.Proofs.YtmhdneenjoelfaaGreat
open Go.RowKit
end Go.Proofs.YtmhdneenjoelfaaGreat
namespace Go.Proofs.YtmhdneenjoelfaaGreat
open Go.RowKit
theorem Blk.six {w : World} {g : Nat} {t : TypeId} {v0 v1 v2 v3 v4 v5 : Value} (h : Blk w g t #[v0, v1, v2, v3, v4, v5]) : w.cell? ⟨g, 0, none⟩ = some v0 ∧ w.cell? ⟨g, 1, none⟩ = some v1 ∧ w.cell? ⟨g, 2, none⟩ = some v2 ∧ w.cell? ⟨g, 3, none⟩ = some v3 ∧ w.cell? ⟨g, 4, none⟩ = some v4 ∧ w.cell? ⟨g, 5, none⟩ = some v5 :=
  ⟨h.cell 0 rfl, h.cell 1 rfl, h.cell 2 rfl, h.cell 3 rfl, h.cell 4 rfl, h.cell 5 rfl⟩
abbrev rq (kd pl nn wa : Int) (a1 a2 : Option Addr) (l1 l2 c1 c2 : Nat) : Value := .agg #[.int .i64 kd, .int .i64 pl, .int .i64 nn, .slice a1 l1 c1, .slice a2 l2 c2, .int .i64 wa]
def wrK (kd : Int) : Bool := decide (kd = 5 ∨ kd = 6 ∨ kd = 15 ∨ kd = 16 ∨ kd = 22 ∨ kd = 23)
end Go.Proofs.YtmhdneenjoelfaaGreat
namespace Go.Proofs.YtmhdneenjoelfaaGreat
open Go.RowKit
set_option linter.unusedVariables false
def inB (x lo hi : Int) : Bool := decide (lo ≤ x ∧ x ≤ hi)
def allW (ws : List Int) : Bool := decide (∀ k, k < ws.length → 0 ≤ ws.getD k 0 ∧ ws.getD k 0 ≤ 65535)
def fitB (p n : Int) : Bool := decide (0 ≤ p ∧ p ≤ 65535 ∧ p + n ≤ 65536)
def rnB (p n most : Int) : Bool := decide (1 ≤ n ∧ n ≤ most ∧ 0 ≤ p ∧ p + n ≤ 65536)
def zrB (n w b a : Bool) (nn : Int) (l1 l2 : Nat) (wa : Int) : Bool := (n || decide (nn = 0)) && ((w || decide (l1 = 0)) && ((b || decide (l2 = 0)) && (a || decide (wa = 0))))
set_option maxHeartbeats 1000000 in
theorem l1In_any (x lo hi : Int) (w : World) (b : Bool) (hb : inB x lo hi = b) : Calls Tryz.prog 35 #[.int .i64 x, .int .i64 lo, .int .i64 hi] w fun e w' => e = .returned (.bool b) ∧ w' = w := by
  subst hb
  unfold inB
  by_cases h1 : lo ≤ x
  · by_cases h2 : x ≤ hi
    · rw [decide_eq_true (show lo ≤ x ∧ x ≤ hi from ⟨h1, h2⟩)]
      go_enter Tryz.func35, Tryz.ntmps35
      go_wp2
      go_ret
      exact ⟨rfl, rfl⟩
    · rw [decide_eq_false (show ¬ (lo ≤ x ∧ x ≤ hi) from fun h => h2 h.2)]
      go_enter Tryz.func35, Tryz.ntmps35
      go_wp2
      go_ret
      exact ⟨rfl, rfl⟩
  · rw [decide_eq_false (show ¬ (lo ≤ x ∧ x ≤ hi) from fun h => h1 h.1)]
    go_enter Tryz.func35, Tryz.ntmps35
    go_wp2
    go_ret
    exact ⟨rfl, rfl⟩
set_option maxHeartbeats 1000000 in
theorem isWord_any (x : Int) (w : World) (b : Bool) (hb : inB x 0 65535 = b) : Calls Tryz.prog 85 #[.int .i64 x] w fun e w' => e = .returned (.bool b) ∧ w' = w := by
  subst hb
  unfold inB
  by_cases h1 : 0 ≤ x
  · by_cases h2 : x ≤ 65535
    · rw [decide_eq_true (show 0 ≤ x ∧ x ≤ 65535 from ⟨h1, h2⟩)]
      go_enter Tryz.func85, Tryz.ntmps85
      go_wp2
      go_ret
      exact ⟨rfl, rfl⟩
    · rw [decide_eq_false (show ¬ (0 ≤ x ∧ x ≤ 65535) from fun h => h2 h.2)]
      go_enter Tryz.func85, Tryz.ntmps85
      go_wp2
      go_ret
      exact ⟨rfl, rfl⟩
  · rw [decide_eq_false (show ¬ (0 ≤ x ∧ x ≤ 65535) from fun h => h1 h.1)]
    go_enter Tryz.func85, Tryz.ntmps85
    go_wp2
    go_ret
    exact ⟨rfl, rfl⟩
set_option maxHeartbeats 1000000 in
theorem l3Fits_any (x n : Int) (w : World) (hn0 : 0 ≤ n) (hn1 : n ≤ 9000000000000000000) (b : Bool) (hb : fitB x n = b) : Calls Tryz.prog 90 #[.int .i64 x, .int .i64 n] w fun e w' => e = .returned (.bool b) ∧ w' = w := by
  subst hb
  unfold fitB
  by_cases h1 : 0 ≤ x
  · by_cases h2 : x ≤ 65535
    · by_cases h3 : x + n ≤ 65536
      · rw [decide_eq_true (show 0 ≤ x ∧ x ≤ 65535 ∧ x + n ≤ 65536 from ⟨h1, h2, h3⟩)]
        go_enter Tryz.func90, Tryz.ntmps90
        go_wp2_with (go_at_call 35; go_in)
        go_ret
        exact ⟨rfl, rfl⟩
      · rw [decide_eq_false (show ¬ (0 ≤ x ∧ x ≤ 65535 ∧ x + n ≤ 65536) from fun h => h3 h.2.2)]
        go_enter Tryz.func90, Tryz.ntmps90
        go_wp2_with (go_at_call 35; go_in)
        go_ret
        exact ⟨rfl, rfl⟩
    · rw [decide_eq_false (show ¬ (0 ≤ x ∧ x ≤ 65535 ∧ x + n ≤ 65536) from fun h => h2 h.2.1)]
      go_enter Tryz.func90, Tryz.ntmps90
      go_wp2_with (go_at_call 35; go_in)
      go_ret
      exact ⟨rfl, rfl⟩
  · rw [decide_eq_false (show ¬ (0 ≤ x ∧ x ≤ 65535 ∧ x + n ≤ 65536) from fun h => h1 h.1)]
    go_enter Tryz.func90, Tryz.ntmps90
    go_wp2_with (go_at_call 35; go_in)
    go_ret
    exact ⟨rfl, rfl⟩
set_option maxHeartbeats 1000000 in
theorem isRun_any (x n most : Int) (w : World) (hm : most ≤ 2000) (b : Bool) (hb : rnB x n most = b) : Calls Tryz.prog 143 #[.int .i64 x, .int .i64 n, .int .i64 most] w fun e w' => e = .returned (.bool b) ∧ w' = w := by
  subst hb
  unfold rnB
  by_cases h1 : 1 ≤ n
  · by_cases h2 : n ≤ most
    · by_cases h3 : 0 ≤ x
      · by_cases h4 : x ≤ 65536 - n
        · rw [decide_eq_true (show 1 ≤ n ∧ n ≤ most ∧ 0 ≤ x ∧ x + n ≤ 65536 from ⟨h1, h2, h3, by omega⟩)]
          go_enter Tryz.func143, Tryz.ntmps143
          go_wp2
          go_ret
          exact ⟨rfl, rfl⟩
        · rw [decide_eq_false (show ¬ (1 ≤ n ∧ n ≤ most ∧ 0 ≤ x ∧ x + n ≤ 65536) from fun h => h4 (by omega))]
          go_enter Tryz.func143, Tryz.ntmps143
          go_wp2
          go_ret
          exact ⟨rfl, rfl⟩
      · rw [decide_eq_false (show ¬ (1 ≤ n ∧ n ≤ most ∧ 0 ≤ x ∧ x + n ≤ 65536) from fun h => h3 h.2.2.1)]
        go_enter Tryz.func143, Tryz.ntmps143
        go_wp2
        go_ret
        exact ⟨rfl, rfl⟩
    · rw [decide_eq_false (show ¬ (1 ≤ n ∧ n ≤ most ∧ 0 ≤ x ∧ x + n ≤ 65536) from fun h => h2 h.2.1)]
      go_enter Tryz.func143, Tryz.ntmps143
      go_wp2
      go_ret
      exact ⟨rfl, rfl⟩
  · rw [decide_eq_false (show ¬ (1 ≤ n ∧ n ≤ most ∧ 0 ≤ x ∧ x + n ≤ 65536) from fun h => h1 h.1)]
    go_enter Tryz.func143, Tryz.ntmps143
    go_wp2
    go_ret
    exact ⟨rfl, rfl⟩
theorem allW_bad {zs : List Int} {k : Nat} (h : k < zs.length) (hb : ¬ (0 ≤ zs.getD k 0 ∧ zs.getD k 0 ≤ 65535)) : allW zs = false := by
  unfold allW; exact decide_eq_false (fun hh => hb (hh k h))
theorem allW_good {zs : List Int} (hb : ∀ k, k < zs.length → 0 ≤ zs.getD k 0 ∧ zs.getD k 0 ≤ 65535) : allW zs = true := by
  unfold allW; exact decide_eq_true hb
set_option maxHeartbeats 1000000 in
theorem l3Words_any (a : Option Addr) (n cap : Nat) (zs : List Int) (w : World) (hn : n = zs.length) (hs : SlI w a zs) (hl : zs.length ≤ 2000000) (b : Bool) (hb : allW zs = b) :
    Calls Tryz.prog 88 #[.slice a n cap] w fun e w' => e = .returned (.bool b) ∧ w' = w := by
  subst hn
  go_enter Tryz.func88, Tryz.ntmps88
  go_wp2
  go_loop [3] (fun i => ∃ k : Nat, k ≤ zs.length ∧ i = .int .i64 k ∧ ∀ j, j < k → 0 ≤ zs.getD j 0 ∧ zs.getD j 0 ≤ 65535) (fun i => zs.length - (intOf i).toNat)
  case atStart => exact ⟨0, Nat.zero_le _, rfl, fun j hj => absurd hj (Nat.not_lt_zero _)⟩
  case round =>
    obtain ⟨k, hk, rfl, hg⟩ := hrel
    have HG : Hid (∀ j, j < k → 0 ≤ zs.getD j 0 ∧ zs.getD j 0 ≤ 65535) := hg
    clear hg
    by_cases hlt : k < zs.length
    · obtain ⟨bb, off, rfl, _, hc⟩ := cell_atI hs hlt
      have hi : (k : Int) < (zs.length : Int) := by omega
      obtain ⟨x, hx⟩ : ∃ x, x = zs.getD k 0 := ⟨_, rfl⟩
      have HX : Hid (x = zs.getD k 0) := hx
      rw [← hx] at hc
      clear hs hx
      by_cases h1 : 0 ≤ x
      · by_cases h2 : x ≤ 65535
        · go_wp2_with (go_at_call 35; go_in)
          go_round
          case rel =>
            first
              | exact ⟨k + 1, by omega, by go_num, fun j hj => by
                  by_cases e : j = k
                  · subst e; rw [← HX.out]; exact ⟨h1, h2⟩
                  · exact HG.out j (by omega)⟩
              | exact ⟨_, _, ⟨k + 1, by omega, by go_num, fun j hj => by
                  by_cases e : j = k
                  · subst e; rw [← HX.out]; exact ⟨h1, h2⟩
                  · exact HG.out j (by omega)⟩, rfl, rfl⟩
          case measure => simp [intOf]; omega
        · have hf := allW_bad hlt (by rw [← HX.out]; exact fun h => h2 h.2)
          rw [hf] at hb
          subst hb
          go_wp2_with (go_at_call 35; go_in)
          go_ret
          exact ⟨rfl, rfl⟩
      · have hf := allW_bad hlt (by rw [← HX.out]; exact fun h => h1 h.1)
        rw [hf] at hb
        subst hb
        go_wp2_with (go_at_call 35; go_in)
        go_ret
        exact ⟨rfl, rfl⟩
    · have hf := allW_good (zs := zs) (fun j hj => HG.out j (by omega))
      rw [hf] at hb
      subst hb
      clear hs
      go_wp2
      go_ret
      exact ⟨rfl, rfl⟩
set_option maxHeartbeats 1000000 in
theorem areWords_any (a : Option Addr) (n cap : Nat) (zs : List Int) (w : World) (hn : n = zs.length) (hs : SlI w a zs) (hl : zs.length ≤ 2000000) (b : Bool) (hb : allW zs = b) :
    Calls Tryz.prog 144 #[.slice a n cap] w fun e w' => e = .returned (.bool b) ∧ w' = w := by
  subst hn
  go_enter Tryz.func144, Tryz.ntmps144
  go_wp2
  go_loop [7] (fun i => ∃ k : Nat, k ≤ zs.length ∧ i = .int .i64 k ∧ ∀ j, j < k → 0 ≤ zs.getD j 0 ∧ zs.getD j 0 ≤ 65535) (fun i => zs.length - (intOf i).toNat)
  case atStart => exact ⟨0, Nat.zero_le _, rfl, fun j hj => absurd hj (Nat.not_lt_zero _)⟩
  case round =>
    obtain ⟨k, hk, rfl, hg⟩ := hrel
    have HG : Hid (∀ j, j < k → 0 ≤ zs.getD j 0 ∧ zs.getD j 0 ≤ 65535) := hg
    clear hg
    by_cases hlt : k < zs.length
    · obtain ⟨bb, off, rfl, _, hc⟩ := cell_atI hs hlt
      have hi : (k : Int) < (zs.length : Int) := by omega
      obtain ⟨x, hx⟩ : ∃ x, x = zs.getD k 0 := ⟨_, rfl⟩
      have HX : Hid (x = zs.getD k 0) := hx
      rw [← hx] at hc
      clear hs hx
      by_cases h1 : 0 ≤ x
      · by_cases h2 : x ≤ 65535
        · go_wp2_with (go_at_call 85; go_in)
          go_round
          case rel =>
            first
              | exact ⟨k + 1, by omega, by go_num, fun j hj => by
                  by_cases e : j = k
                  · subst e; rw [← HX.out]; exact ⟨h1, h2⟩
                  · exact HG.out j (by omega)⟩
              | exact ⟨_, _, ⟨k + 1, by omega, by go_num, fun j hj => by
                  by_cases e : j = k
                  · subst e; rw [← HX.out]; exact ⟨h1, h2⟩
                  · exact HG.out j (by omega)⟩, rfl, rfl⟩
          case measure => simp [intOf]; omega
        · have hf := allW_bad hlt (by rw [← HX.out]; exact fun h => h2 h.2)
          rw [hf] at hb
          subst hb
          go_wp2_with (go_at_call 85; go_in)
          go_ret
          exact ⟨rfl, rfl⟩
      · have hf := allW_bad hlt (by rw [← HX.out]; exact fun h => h1 h.1)
        rw [hf] at hb
        subst hb
        go_wp2_with (go_at_call 85; go_in)
        go_ret
        exact ⟨rfl, rfl⟩
    · have hf := allW_good (zs := zs) (fun j hj => HG.out j (by omega))
      rw [hf] at hb
      subst hb
      clear hs
      go_wp2
      go_ret
      exact ⟨rfl, rfl⟩
set_option maxHeartbeats 2000000 in
theorem l3Zero_tfff (kd pl nn wa : Int) (a1 a2 : Option Addr) (l1 l2 c1 c2 : Nat) (w : World) (hm1 : l1 ≤ 2000000) (hm2 : l2 ≤ 20000000) (z : Bool) (hz : zrB true false false false nn l1 l2 wa = z) :
    Calls Tryz.prog 89 #[rq kd pl nn wa a1 a2 l1 l2 c1 c2, .bool true, .bool false, .bool false, .bool false] w fun e w' => e = .returned (.bool z) ∧ Below w.heap.size w w' := by
  have B0 := bel_alloc w (.cells #[.int .i64 kd, .int .i64 pl, .int .i64 nn, .slice a1 l1 c1, .slice a2 l2 c2, .int .i64 wa] 28)
  subst hz
  by_cases h1 : l1 = 0
  · skip
    by_cases h2 : l2 = 0
    · skip
      by_cases ha : wa = 0
      · skip
        have e : zrB true false false false nn l1 l2 wa = true := by simp [zrB, h1, h2, ha]
        rw [e]
        clear e
        subst h1
        subst h2
        subst ha
        go_enter Tryz.func89, Tryz.ntmps89
        go_wp2
        go_ret
        exact ⟨rfl, B0⟩
      · have e : zrB true false false false nn l1 l2 wa = false := by simp [zrB, h1, h2, ha]
        rw [e]
        clear e
        subst h1
        subst h2
        have e2 : (wa == 0) = false := by simp [ha]
        go_enter Tryz.func89, Tryz.ntmps89
        go_wp2
        go_ret
        exact ⟨rfl, B0⟩
    · have e : zrB true false false false nn l1 l2 wa = false := by simp [zrB, h1, h2]
      rw [e]
      have h2i : ¬ (l2 : Int) = 0 := by omega
      clear e
      subst h1
      go_enter Tryz.func89, Tryz.ntmps89
      go_wp2
      go_ret
      exact ⟨rfl, B0⟩
  · have e : zrB true false false false nn l1 l2 wa = false := by simp [zrB, h1]
    rw [e]
    have h1i : ¬ (l1 : Int) = 0 := by omega
    clear e
    go_enter Tryz.func89, Tryz.ntmps89
    go_wp2
    go_ret
    exact ⟨rfl, B0⟩
set_option maxHeartbeats 2000000 in
theorem l3Zero_fftf (kd pl nn wa : Int) (a1 a2 : Option Addr) (l1 l2 c1 c2 : Nat) (w : World) (hm1 : l1 ≤ 2000000) (hm2 : l2 ≤ 20000000) (z : Bool) (hz : zrB false false true false nn l1 l2 wa = z) :
    Calls Tryz.prog 89 #[rq kd pl nn wa a1 a2 l1 l2 c1 c2, .bool false, .bool false, .bool true, .bool false] w fun e w' => e = .returned (.bool z) ∧ Below w.heap.size w w' := by
  have B0 := bel_alloc w (.cells #[.int .i64 kd, .int .i64 pl, .int .i64 nn, .slice a1 l1 c1, .slice a2 l2 c2, .int .i64 wa] 28)
  subst hz
  by_cases hn : nn = 0
  · skip
    by_cases h1 : l1 = 0
    · skip
      by_cases ha : wa = 0
      · skip
        have e : zrB false false true false nn l1 l2 wa = true := by simp [zrB, hn, h1, ha]
        rw [e]
        clear e
        subst hn
        subst h1
        subst ha
        go_enter Tryz.func89, Tryz.ntmps89
        go_wp2
        go_ret
        exact ⟨rfl, B0⟩
      · have e : zrB false false true false nn l1 l2 wa = false := by simp [zrB, hn, h1, ha]
        rw [e]
        clear e
        subst hn
        subst h1
        have e2 : (wa == 0) = false := by simp [ha]
        go_enter Tryz.func89, Tryz.ntmps89
        go_wp2
        go_ret
        exact ⟨rfl, B0⟩
    · have e : zrB false false true false nn l1 l2 wa = false := by simp [zrB, hn, h1]
      rw [e]
      have h1i : ¬ (l1 : Int) = 0 := by omega
      clear e
      subst hn
      go_enter Tryz.func89, Tryz.ntmps89
      go_wp2
      go_ret
      exact ⟨rfl, B0⟩
  · have e : zrB false false true false nn l1 l2 wa = false := by simp [zrB, hn]
    rw [e]
    clear e
    go_enter Tryz.func89, Tryz.ntmps89
    go_wp2
    go_ret
    exact ⟨rfl, B0⟩
set_option maxHeartbeats 2000000 in
theorem l3Zero_ftff (kd pl nn wa : Int) (a1 a2 : Option Addr) (l1 l2 c1 c2 : Nat) (w : World) (hm1 : l1 ≤ 2000000) (hm2 : l2 ≤ 20000000) (z : Bool) (hz : zrB false true false false nn l1 l2 wa = z) :
    Calls Tryz.prog 89 #[rq kd pl nn wa a1 a2 l1 l2 c1 c2, .bool false, .bool true, .bool false, .bool false] w fun e w' => e = .returned (.bool z) ∧ Below w.heap.size w w' := by
  have B0 := bel_alloc w (.cells #[.int .i64 kd, .int .i64 pl, .int .i64 nn, .slice a1 l1 c1, .slice a2 l2 c2, .int .i64 wa] 28)
  subst hz
  by_cases hn : nn = 0
  · skip
    by_cases h2 : l2 = 0
    · skip
      by_cases ha : wa = 0
      · skip
        have e : zrB false true false false nn l1 l2 wa = true := by simp [zrB, hn, h2, ha]
        rw [e]
        clear e
        subst hn
        subst h2
        subst ha
        go_enter Tryz.func89, Tryz.ntmps89
        go_wp2
        go_ret
        exact ⟨rfl, B0⟩
      · have e : zrB false true false false nn l1 l2 wa = false := by simp [zrB, hn, h2, ha]
        rw [e]
        clear e
        subst hn
        subst h2
        have e2 : (wa == 0) = false := by simp [ha]
        go_enter Tryz.func89, Tryz.ntmps89
        go_wp2
        go_ret
        exact ⟨rfl, B0⟩
    · have e : zrB false true false false nn l1 l2 wa = false := by simp [zrB, hn, h2]
      rw [e]
      have h2i : ¬ (l2 : Int) = 0 := by omega
      clear e
      subst hn
      go_enter Tryz.func89, Tryz.ntmps89
      go_wp2
      go_ret
      exact ⟨rfl, B0⟩
  · have e : zrB false true false false nn l1 l2 wa = false := by simp [zrB, hn]
    rw [e]
    clear e
    go_enter Tryz.func89, Tryz.ntmps89
    go_wp2
    go_ret
    exact ⟨rfl, B0⟩
set_option maxHeartbeats 2000000 in
theorem l3Zero_ttft (kd pl nn wa : Int) (a1 a2 : Option Addr) (l1 l2 c1 c2 : Nat) (w : World) (hm1 : l1 ≤ 2000000) (hm2 : l2 ≤ 20000000) (z : Bool) (hz : zrB true true false true nn l1 l2 wa = z) :
    Calls Tryz.prog 89 #[rq kd pl nn wa a1 a2 l1 l2 c1 c2, .bool true, .bool true, .bool false, .bool true] w fun e w' => e = .returned (.bool z) ∧ Below w.heap.size w w' := by
  have B0 := bel_alloc w (.cells #[.int .i64 kd, .int .i64 pl, .int .i64 nn, .slice a1 l1 c1, .slice a2 l2 c2, .int .i64 wa] 28)
  subst hz
  by_cases h2 : l2 = 0
  · skip
    have e : zrB true true false true nn l1 l2 wa = true := by simp [zrB, h2]
    rw [e]
    clear e
    subst h2
    go_enter Tryz.func89, Tryz.ntmps89
    go_wp2
    go_ret
    exact ⟨rfl, B0⟩
  · have e : zrB true true false true nn l1 l2 wa = false := by simp [zrB, h2]
    rw [e]
    have h2i : ¬ (l2 : Int) = 0 := by omega
    clear e
    go_enter Tryz.func89, Tryz.ntmps89
    go_wp2
    go_ret
    exact ⟨rfl, B0⟩
set_option maxHeartbeats 1000000 in
theorem equal_int (a a' : Option Addr) (n n' cap cap' : Nat) (zs : List Int) (w : World) (hn : n = zs.length) (hn' : n' = zs.length) (hs : SlI w a zs) (hs' : SlI w a' zs) (hl : zs.length ≤ 2000000) :
    Calls Tryz.prog 127 #[.slice a n cap, .slice a' n' cap'] w fun e w' => e = .returned (.bool true) ∧ Below w.heap.size w w' := by
  subst hn hn'
  go_enter Tryz.func127, Tryz.ntmps127
  go_wp2
  go_loopw [13] (fun i wr => ∃ k : Nat, k ≤ zs.length ∧ i = .int .i64 k ∧ ∃ n, wr = w.drewN n) (fun i _ => zs.length - (intOf i).toNat)
  case atStart => exact ⟨0, Nat.zero_le _, rfl, 0, rfl⟩
  case round =>
    obtain ⟨k, hk, rfl, n, rfl⟩ := hrel
    by_cases hlt : k < zs.length
    · obtain ⟨b, off, rfl, _, hc⟩ := cell_atI hs hlt
      obtain ⟨b', off', rfl, _, hc'⟩ := cell_atI hs' hlt
      have hi : (k : Int) < (zs.length : Int) := by omega
      clear hs hs'
      go_wp2
      go_quiet (fail)
      go_wp2
      go_roundw
      case rel => first | exact ⟨k + 1, by omega, by go_num, _, rfl⟩ | exact ⟨_, _, ⟨k + 1, by omega, by go_num, _, rfl⟩, rfl, rfl⟩
      case measure => simp [intOf]; omega
    · clear hs hs'
      go_wp2
      go_ret
      exact ⟨rfl, drew_refl _ _⟩
set_option maxHeartbeats 1000000 in
theorem equal_int_len (a a' : Option Addr) (n n' cap cap' : Nat) (w : World) (hne : ¬ (n : Int) = (n' : Int)) (h1 : n ≤ 20000000) (h2 : n' ≤ 20000000) :
    Calls Tryz.prog 127 #[.slice a n cap, .slice a' n' cap'] w fun e w' => e = .returned (.bool false) ∧ Below w.heap.size w w' := by
  go_enter Tryz.func127, Tryz.ntmps127
  go_wp2
  go_ret
  exact ⟨rfl, Below.refl _ _⟩
set_option maxHeartbeats 1000000 in
theorem equal_bool (a a' : Option Addr) (n n' cap cap' : Nat) (zs : List Bool) (w : World) (hn : n = zs.length) (hn' : n' = zs.length) (hs : SlB w a zs) (hs' : SlB w a' zs) (hl : zs.length ≤ 2000000) :
    Calls Tryz.prog 126 #[.slice a n cap, .slice a' n' cap'] w fun e w' => e = .returned (.bool true) ∧ Below w.heap.size w w' := by
  subst hn hn'
  go_enter Tryz.func126, Tryz.ntmps126
  go_wp2
  go_loopw [13] (fun i wr => ∃ k : Nat, k ≤ zs.length ∧ i = .int .i64 k ∧ ∃ n, wr = w.drewN n) (fun i _ => zs.length - (intOf i).toNat)
  case atStart => exact ⟨0, Nat.zero_le _, rfl, 0, rfl⟩
  case round =>
    obtain ⟨k, hk, rfl, n, rfl⟩ := hrel
    by_cases hlt : k < zs.length
    · obtain ⟨b, off, rfl, _, hc⟩ := cell_atB hs hlt
      obtain ⟨b', off', rfl, _, hc'⟩ := cell_atB hs' hlt
      have hi : (k : Int) < (zs.length : Int) := by omega
      clear hs hs'
      go_wp2
      go_quiet (fail)
      go_wp2
      go_roundw
      case rel => first | exact ⟨k + 1, by omega, by go_num, _, rfl⟩ | exact ⟨_, _, ⟨k + 1, by omega, by go_num, _, rfl⟩, rfl, rfl⟩
      case measure => simp [intOf]; omega
    · clear hs hs'
      go_wp2
      go_ret
      exact ⟨rfl, drew_refl _ _⟩
set_option maxHeartbeats 1000000 in
theorem equal_bool_len (a a' : Option Addr) (n n' cap cap' : Nat) (w : World) (hne : ¬ (n : Int) = (n' : Int)) (h1 : n ≤ 20000000) (h2 : n' ≤ 20000000) :
    Calls Tryz.prog 126 #[.slice a n cap, .slice a' n' cap'] w fun e w' => e = .returned (.bool false) ∧ Below w.heap.size w w' := by
  go_enter Tryz.func126, Tryz.ntmps126
  go_wp2
  go_ret
  exact ⟨rfl, Below.refl _ _⟩
end Go.Proofs.YtmhdneenjoelfaaGreat
namespace Go.Proofs.YtmhdneenjoelfaaGreat
open Go.RowKit
def pv (bits : List Bool) : Nat → Nat → Int
  | 0, _ => 0
  | k + 1, j => if k / 8 = j ∧ bits.getD k false = true then pv bits k j + (2 ^ (k % 8) : Nat) else pv bits k j
end Go.Proofs.YtmhdneenjoelfaaGreat
namespace Go.Proofs.YtmhdneenjoelfaaGreat
open Go.RowKit
def marksF (s n : Nat) : List Int := (List.range n).map (fun i : Nat => ((s : Int) + (i : Int)) % 256)
def MarkedF (s : Nat) (w wr : World) (g cap k : Nat) : Prop :=
  w.grownBy wr (some g) ∧ ∃ cur, wr.heap[g]? = some (.cells cur 5 (0, 0)) ∧ cur.size = cap ∧ ∀ i, i < k → cur[i]? = some (.int .u8 (((s : Int) + (i : Int)) % 256))
end Go.Proofs.YtmhdneenjoelfaaGreat
namespace Go.Proofs.YtmhdneenjoelfaaGreat
open Go.RowKit
set_option linter.unusedVariables false
set_option linter.unusedSimpArgs false
def wb (x : Int) : List Int := [x / 256 % 256, x % 256]
def wbs : List Int → List Int
  | [] => []
  | x :: r => x / 256 % 256 :: x % 256 :: wbs r
def Nw (w w' : World) (e : Ending) (zs : List Int) : Prop :=
  ∃ g c n, e = .returned (.slice (some ⟨g, 0, none⟩) n c) ∧ n = zs.length ∧ Own w' w.heap.size (.slice (some ⟨g, 0, none⟩) n c) zs ∧ Below w.heap.size w w'
end Go.Proofs.YtmhdneenjoelfaaGreat
namespace Go.Proofs.YtmhdneenjoelfaaGreat
open Go.RowKit
set_option linter.unusedVariables false
set_option linter.unusedSimpArgs false
theorem Tryz.infoQ3 : (Tryz.prog.info? 3).map (fun i => (i.zero, i.size, i.bytes)) = some (some (.int .i64 0), 1, 8) := by kernel_rfl
theorem SlI.cellsAt {w : World} {ad : Addr} {zs : List Int} (h : SlI w (some ad) zs) : ∀ j u, (zs.map (Value.int .i64))[j]? = some u → w.cell? (ad.add j) = some u := by
  intro j u hu
  rcases h with h | ⟨b, off, ha, _, hc⟩
  · subst h; simp at hu
  · obtain rfl : ad = ⟨b, off, none⟩ := by simpa using ha
    have hj : j < zs.length := by
      have := (List.getElem?_eq_some_iff.1 hu).1
      simpa using this
    have e : Addr.add ⟨b, off, none⟩ j = ⟨b, off + j, none⟩ := by
      by_cases h0 : j = 0
      · subst h0; simp [Addr.add]
      · simp [Addr.add, h0]
    rw [e, hc j hj]
    rw [← hu]
    simp [hj]
theorem wpList_appI {w : World} {ops : Array Oper} {rest : List Oper} {o : Oper} {a : Act} {Q : Exit → Act → World → Prop} (hgd : o.guard = none) (s x : Operand)
    (ho : o.op = .call { callee := .builtin .append, args := #[s, x], argTypes := #[25, 25] }) (base : Nat) (v : Value) (zs : List Int) (hs : a.eval s = v) (hown : OwnI w base v zs)
    (ad : Addr) (m c : Nat) (ys : List Int) (hx : a.eval x = .slice (some ad) m c) (hm : m = ys.length) (hsl : SlI w (some ad) ys) (hlen : zs.length + ys.length ≤ 4000000) (hbase : base ≤ w.heap.size)
    (h : ∀ v' w', OwnI w' base v' (zs ++ ys) → w.grownBy w' v.ownBlock → wpList Tryz.prog ops Q rest (a.put o.dst v') w') : wpList Tryz.prog ops Q (o :: rest) a w := by
  obtain ⟨i0, hi, hz0, hz1, hz2⟩ := info_parts Tryz.infoQ3
  subst hm
  refine wpList_append_own w hgd s x 25 ho base 3 i0 (.int .i64 0) 1 8 Tryz.underlying25 hi hz0 hz1 hz2 rfl (by decide) v zs.length (zs.map (Value.int .i64)) hs hown ad ys.length c (ys.map (Value.int .i64)) hx (by simp) hsl.cellsAt (ints_oneCell _ _) (by unfold maxLen; omega) (by omega) hbase ?_
  intro v' w' h1 h2 _
  exact h v' w' (by simpa [OwnI] using h1) h2
theorem ints_none {w : World} {ys : List Int} (h : SlI w none ys) : ys = [] := by
  cases ys with
  | nil => rfl
  | cons y r => obtain ⟨b, off, e, _⟩ := cell_atI (k := 0) h (by simp); simp at e
theorem bools_none {w : World} {ys : List Bool} (h : SlB w none ys) : ys = [] := by
  cases ys with
  | nil => rfl
  | cons y r => obtain ⟨b, off, e, _⟩ := cell_atB (k := 0) h (by simp); simp at e
theorem wpList_appIO {w : World} {ops : Array Oper} {rest : List Oper} {o : Oper} {a : Act} {Q : Exit → Act → World → Prop} (hgd : o.guard = none) (s x : Operand)
    (ho : o.op = .call { callee := .builtin .append, args := #[s, x], argTypes := #[25, 25] }) (base : Nat) (v : Value) (zs : List Int) (hs : a.eval s = v) (hown : OwnI w base v zs)
    (ad : Option Addr) (m c : Nat) (ys : List Int) (hx : a.eval x = .slice ad m c) (hm : m = ys.length) (hsl : SlI w ad ys) (hlen : zs.length + ys.length ≤ 4000000) (hbase : base ≤ w.heap.size)
    (h : ∀ v' w', OwnI w' base v' (zs ++ ys) → w.grownBy w' v.ownBlock → wpList Tryz.prog ops Q rest (a.put o.dst v') w') : wpList Tryz.prog ops Q (o :: rest) a w := by
  cases ad with
  | some ad => exact wpList_appI hgd s x ho base v zs hs hown ad m c ys hx hm hsl hlen hbase h
  | none =>
    obtain rfl := ints_none hsl
    obtain rfl : m = 0 := hm
    obtain ⟨i0, hi, hz0, hz1, hz2⟩ := info_parts Tryz.infoQ3
    have hgo : ∀ (sa : Option Addr) (sn sc : Nat), sn ≤ sc → v = .slice sa sn sc → wpList Tryz.prog ops Q (o :: rest) a w := by
      rintro sa sn sc hcap rfl
      exact Lib.wpList_append_run _ hgd s x _ _ ho _ _ hs hx _ _ (run_append_nothing w 25 25 o.type 3 i0 Tryz.underlying25 hi sa sn sc hcap _ (Src.ofNil w Tryz.underlying25 c)) (h _ w (by simpa using hown) ⟨rfl, rfl, rfl, Nat.le_refl _, fun _ _ _ => rfl⟩)
    rcases hown.2 with ⟨e, _⟩ | ⟨g, cap', cur, hv, _, hh, h3, _⟩
    · exact hgo _ _ _ (Nat.le_refl 0) e
    · exact hgo _ _ _ h3 hv
theorem boolCells {w : World} {ad : Addr} {ys : List Bool} (h : SlB w (some ad) ys) : ∀ j u, (ys.map Value.bool)[j]? = some u → w.cell? (ad.add j) = some u := by
  intro j u hu
  rw [List.getElem?_map] at hu
  by_cases hj : j < ys.length
  · obtain ⟨b, off, e, _, hc⟩ := cell_atB h hj
    simp at e
    subst e
    rw [List.getElem?_eq_getElem hj] at hu
    simp at hu
    subst hu
    have : ys.getD j false = ys[j] := by simp [List.getD_eq_getElem?_getD, hj]
    rw [this] at hc
    by_cases h0 : j = 0
    · subst h0; simpa [Addr.add] using hc
    · simpa [Addr.add, h0] using hc
  · rw [List.getElem?_eq_none (by omega)] at hu; simp at hu
theorem wpList_appBO {w : World} {ops : Array Oper} {rest : List Oper} {o : Oper} {a : Act} {Q : Exit → Act → World → Prop} (hgd : o.guard = none) (s x : Operand)
    (ho : o.op = .call { callee := .builtin .append, args := #[s, x], argTypes := #[26, 26] }) (base : Nat) (v : Value) (zs : List Bool) (hs : a.eval s = v) (hown : OwnB w base v zs)
    (ad : Option Addr) (m c : Nat) (ys : List Bool) (hx : a.eval x = .slice ad m c) (hm : m = ys.length) (hsl : SlB w ad ys) (hlen : zs.length + ys.length ≤ 4000000) (hbase : base ≤ w.heap.size)
    (h : ∀ v' w', OwnB w' base v' (zs ++ ys) → w.grownBy w' v.ownBlock → wpList Tryz.prog ops Q rest (a.put o.dst v') w') : wpList Tryz.prog ops Q (o :: rest) a w := by
  obtain ⟨i0, hi, hz0, hz1, hz2⟩ := info_parts Tryz.info4
  cases ad with
  | some ad =>
    subst hm
    have hml : zs.length + ys.length ≤ maxLen := by unfold maxLen; omega
    refine wpList_append_own _ hgd s x 26 ho base 4 i0 (.bool false) 1 1 Tryz.underlying26 hi hz0 hz1 hz2 rfl (by decide) v zs.length (zs.map Value.bool) hs hown ad ys.length c (ys.map Value.bool) hx (by simp) (boolCells hsl) (by intro u hu; obtain ⟨y, _, rfl⟩ := List.mem_map.mp hu; rfl) hml (by omega) hbase ?_
    intro v' w' o' g' _
    exact h v' w' (by simpa [OwnB] using o') g'
  | none =>
    obtain rfl := bools_none hsl
    obtain rfl : m = 0 := hm
    have hgo : ∀ (sa : Option Addr) (sn sc : Nat), sn ≤ sc → v = .slice sa sn sc → wpList Tryz.prog ops Q (o :: rest) a w := by
      rintro sa sn sc hcap rfl
      exact Lib.wpList_append_run _ hgd s x _ _ ho _ _ hs hx _ _ (run_append_nothing w 26 26 o.type 4 i0 Tryz.underlying26 hi sa sn sc hcap _ (Src.ofNil w Tryz.underlying26 c)) (h _ w (by simpa using hown) ⟨rfl, rfl, rfl, Nat.le_refl _, fun _ _ _ => rfl⟩)
    rcases hown.2 with ⟨e, _⟩ | ⟨g, cap', cur, hv, _, hh, h3, _⟩
    · exact hgo _ _ _ (Nat.le_refl 0) e
    · exact hgo _ _ _ h3 hv
theorem newI (u : World) (base : Nat) (hb : base ≤ u.heap.size) : OwnI (u.alloc (.cells #[] 3)) base (.slice (some ⟨u.heap.size, 0, none⟩) 0 0) [] := ⟨rfl, .inr ⟨u.heap.size, 0, #[], rfl, hb, Blk.new u #[] 3, by simp, by simp, rfl, rfl⟩⟩
theorem newB (u : World) (base : Nat) (hb : base ≤ u.heap.size) : OwnB (u.alloc (.cells #[] 4)) base (.slice (some ⟨u.heap.size, 0, none⟩) 0 0) [] := ⟨rfl, .inr ⟨u.heap.size, 0, #[], rfl, hb, Blk.new u #[] 4, by simp, by simp, rfl, rfl⟩⟩
theorem ownB_shape {w : World} {base : Nat} {v : Value} {zs : List Bool} (h : OwnB w base v zs) : ∃ a c n, v = .slice a n c ∧ n = zs.length := by
  obtain ⟨_, h2⟩ := h
  rcases h2 with ⟨hv, h3⟩ | ⟨g, cap, cur, hv, hg, hh, _⟩
  · exact ⟨none, 0, 0, hv, h3.symm⟩
  · exact ⟨_, cap, _, hv, rfl⟩
theorem ownI_shape2 {w : World} {base : Nat} {v : Value} {zs : List Int} (h : OwnI w base v zs) : ∃ a c n, v = .slice a n c ∧ n = zs.length := by
  obtain ⟨_, h2⟩ := h
  rcases h2 with ⟨hv, h3⟩ | ⟨g, cap, cur, hv, hg, hh, _⟩
  · exact ⟨none, 0, 0, hv, h3.symm⟩
  · exact ⟨_, cap, _, hv, rfl⟩
end Go.Proofs.YtmhdneenjoelfaaGreat

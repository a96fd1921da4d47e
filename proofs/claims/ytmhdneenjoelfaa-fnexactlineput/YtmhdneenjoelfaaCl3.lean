/- Lists of calls that are marked, and held. -/
import Derived.Test.YtmhdneenjoelfaaCl1
import Derived.Test.YtmhdneenjoelfaaEl1
namespace Go.Proofs.Ytmhdneenjoelfaa
open Go.RowKit Go.Joins

set_option linter.unusedVariables false

set_option linter.unusedSimpArgs false

/-- Marked from s on. -/
def mkCa (s : Nat) (C : Ca) : Ca := ⟨(s : Int), (s : Int) + 1, (s : Int) + 2, (s : Int) + 3, (s : Int) + 4, (s : Int) + 5, (s : Int) + 6 + C.ws.length + C.bs.length, marksI (s + 6) C.ws.length, marksB (s + 6 + C.ws.length) C.bs.length⟩

def ctCa (C : Ca) : Nat := 7 + C.ws.length + C.bs.length

/-- Where struct k begins. -/
def msCa (s : Nat) (f : Nat → Ca) : Nat → Nat
  | 0 => s
  | k + 1 => msCa s f k + ctCa (f k)

def tlCa (f : Nat → Ca) : Nat → Nat
  | 0 => 0
  | k + 1 => tlCa f k + ((f k).ws.length + (f k).bs.length)

theorem msCa_eq (s : Nat) (f : Nat → Ca) : ∀ k, msCa s f k = s + 7 * k + tlCa f k
  | 0 => by simp [msCa, tlCa]
  | k + 1 => by simp only [msCa, tlCa, ctCa, msCa_eq s f k]; omega

theorem tlCa_mono (f : Nat → Ca) : ∀ {i j : Nat}, i ≤ j → tlCa f i ≤ tlCa f j := by
  intro i j hij
  induction hij with
  | refl => exact Nat.le_refl _
  | step _ ih => exact Nat.le_trans ih (by simp [tlCa])

/-- All that is counted is small. -/
def SmCa (n : Nat) (f : Nat → Ca) : Prop := n + tlCa f n ≤ 1048600

theorem SmCa.at {n : Nat} {f : Nat → Ca} (h : SmCa n f) {z : Nat} (hz : z < n) : n ≤ 1048600 ∧ (f z).ws.length ≤ 1048600 ∧ (f z).bs.length ≤ 1048600 ∧ ∀ s, s ≤ 100 → msCa s f z + 7 + (f z).ws.length + (f z).bs.length ≤ 8388900 := by
  have h1 := tlCa_mono f (show z + 1 ≤ n by omega)
  simp only [tlCa] at h1
  unfold SmCa at h
  refine ⟨by omega, by omega, by omega, fun s hs => ?_⟩
  rw [msCa_eq]
  omega

set_option maxRecDepth 20000 in
set_option maxHeartbeats 4000000 in
theorem markCa_ne (g o n c base s : Nat) (f : Nat → Ca) (F0 : Nat → List Value) (β : Nat → Nat) (w : World) (hR0 : RowO w g 30 9 o n F0) (hbg : base ≤ g) (hI0 : InE w base β F0 (fun k => caE (f k)) n) (hs : s ≤ 100) (hG : SmCa n f) :
    Calls Try.prog 50 #[.slice (some ⟨g, o, none⟩) n c, .int .i64 (s : Int)] w fun e w' => e = .returned (.int .i64 (msCa s f n : Int)) ∧ (∃ F', RowO w' g 30 9 o n F' ∧ InE w' base β F' (fun k => caE (mkCa (msCa s f k) (f k))) n ∧ ∀ j, j < n → ∀ k, Ob (F' j) k ↔ Ob (F0 j) k) ∧ Below base w w' ∧ Out w w' g (fun k => ∃ j, j < n ∧ Ob (F0 j) k) := by
  have HH : Hid (RowO w g 30 9 o n F0 ∧ InE w base β F0 (fun k => caE (f k)) n ∧ SmCa n f ∧ ∀ k, β k ≤ β (k + 1)) := ⟨hR0, hI0, hG, hI0.2.1⟩
  have hn : n ≤ 1048600 := by unfold SmCa at hG; omega
  clear hR0 hI0 hG
  go_enter Try.func50, Try.ntmps50
  go_wp2
  go_loopw [1, 5] (fun kv i wr => ∃ (z : Nat) (F : Nat → List Value), z ≤ n ∧ i = .int .i64 z ∧ kv = .int .i64 (msCa s f z : Int) ∧ RowO wr g 30 9 o n F ∧ InE wr base β F (fun k => caE (if k < z then mkCa (msCa s f k) (f k) else f k)) n ∧ Below base w wr ∧ Out w wr g (fun k => ∃ j, j < n ∧ Ob (F0 j) k) ∧ ∀ j, j < n → ∀ k, Ob (F j) k ↔ Ob (F0 j) k) (fun _ i _ => n - (intOf i).toNat)
  case atStart => exact ⟨0, F0, Nat.zero_le _, rfl, rfl, HH.out.1, HH.out.2.1.congr (fun _ _ => rfl) (fun k _ => by simp), Below.refl _ _, Out.refl _ _ _, fun _ _ _ => Iff.rfl⟩
  case round =>
    obtain ⟨z, F, hz, rfl, rfl, hC, hI, hbl, hout, hob⟩ := hrel
    by_cases hlt : z < n
    · have hi : (z : Int) < (n : Int) := by omega
      have hbd := HH.out.2.2.1.at hlt
      have hms := hbd.2.2.2 s hs
      obtain ⟨k, hk⟩ : ∃ k, k = msCa s f z := ⟨_, rfl⟩
      rw [← hk] at hms ⊢
      obtain ⟨H, hH⟩ : ∃ H : Nat → Ca, H = (fun k => if k < z then mkCa (msCa s f k) (f k) else f k) := ⟨_, rfl⟩
      have hI' : InE wr base β F (fun k => caE (H k)) n := by rw [hH]; exact hI
      clear hI
      have hHz : H z = f z := by rw [hH]; simp
      have HHH : Hid (H = (fun k => if k < z then mkCa (msCa s f k) (f k) else f k) ∧ H z = f z) := ⟨hH, hHz⟩
      obtain ⟨a1, a2, c1, c2, hF, o1, o2, k1, k2⟩ := hI'.2.2 z hlt
      obtain ⟨l1, hl1⟩ : ∃ l1, l1 = (H z).ws.length := ⟨_, rfl⟩
      obtain ⟨l2, hl2⟩ : ∃ l2, l2 = (H z).bs.length := ⟨_, rfl⟩
      have HL : Hid (l1 = (H z).ws.length ∧ l2 = (H z).bs.length ∧ l1 ≤ 1048600 ∧ l2 ≤ 1048600 ∧ l1 = (f z).ws.length ∧ l2 = (f z).bs.length) := ⟨hl1, hl2, by rw [hl1, hHz]; exact hbd.2.1, by rw [hl2, hHz]; exact hbd.2.2.1, by rw [hl1, hHz], by rw [hl2, hHz]⟩
      have HK : Hid (k = msCa s f z ∧ k + 7 + l1 + l2 ≤ 8388900) := ⟨hk, by have := HL.out; omega⟩
      have e0 : wr.cell? ⟨g, o + z * 9, none⟩ = some (.int .i64 (H z).id) := by have h9 := hC.cell hlt (j := 0) (by decide); rw [hF] at h9; simpa [caE] using h9
      have f0 := hC.fro (o + z * 9)
      have e1 : wr.cell? ⟨g, o + z * 9 + 1, none⟩ = some (.int .i64 (H z).pa) := by have h9 := hC.cell hlt (j := 1) (by decide); rw [hF] at h9; simpa [caE] using h9
      have f1 := hC.fro (o + z * 9 + 1)
      have e2 : wr.cell? ⟨g, o + z * 9 + 2, none⟩ = some (.int .i64 (H z).un) := by have h9 := hC.cell hlt (j := 2) (by decide); rw [hF] at h9; simpa [caE] using h9
      have f2 := hC.fro (o + z * 9 + 2)
      have e3 : wr.cell? ⟨g, o + z * 9 + 3, none⟩ = some (.int .i64 (H z).kd) := by have h9 := hC.cell hlt (j := 3) (by decide); rw [hF] at h9; simpa [caE] using h9
      have f3 := hC.fro (o + z * 9 + 3)
      have e4 : wr.cell? ⟨g, o + z * 9 + 4, none⟩ = some (.int .i64 (H z).pl) := by have h9 := hC.cell hlt (j := 4) (by decide); rw [hF] at h9; simpa [caE] using h9
      have f4 := hC.fro (o + z * 9 + 4)
      have e5 : wr.cell? ⟨g, o + z * 9 + 5, none⟩ = some (.int .i64 (H z).n) := by have h9 := hC.cell hlt (j := 5) (by decide); rw [hF] at h9; simpa [caE] using h9
      have f5 := hC.fro (o + z * 9 + 5)
      have e6 : wr.cell? ⟨g, o + z * 9 + 6, none⟩ = some (.slice a1 l1 c1) := by have h9 := hC.cell hlt (j := 6) (by decide); rw [hF] at h9; simpa [caE, hl1] using h9
      have f6 := hC.fro (o + z * 9 + 6)
      have e7 : wr.cell? ⟨g, o + z * 9 + 7, none⟩ = some (.slice a2 l2 c2) := by have h9 := hC.cell hlt (j := 7) (by decide); rw [hF] at h9; simpa [caE, hl2] using h9
      have f7 := hC.fro (o + z * 9 + 7)
      have e8 : wr.cell? ⟨g, o + z * 9 + 8, none⟩ = some (.int .i64 (H z).wa) := by have h9 := hC.cell hlt (j := 8) (by decide); rw [hF] at h9; simpa [caE] using h9
      have f8 := hC.fro (o + z * 9 + 8)
      have v0 : IntKind.i64.wrap ((k : Int) + 1) = (k : Int) + 1 := by have := HK.out; rw [IntKind.wrap_i64]; omega
      have v1 : IntKind.i64.wrap ((k : Int) + 1 + 1) = (k : Int) + 2 := by have := HK.out; rw [IntKind.wrap_i64]; omega
      have v2 : IntKind.i64.wrap ((k : Int) + 2 + 1) = (k : Int) + 3 := by have := HK.out; rw [IntKind.wrap_i64]; omega
      have v3 : IntKind.i64.wrap ((k : Int) + 3 + 1) = (k : Int) + 4 := by have := HK.out; rw [IntKind.wrap_i64]; omega
      have v4 : IntKind.i64.wrap ((k : Int) + 4 + 1) = (k : Int) + 5 := by have := HK.out; rw [IntKind.wrap_i64]; omega
      have v5 : IntKind.i64.wrap ((k : Int) + 5 + 1) = (k : Int) + 6 := by have := HK.out; rw [IntKind.wrap_i64]; omega
      have HF : Hid (RowO wr g 30 9 o n F ∧ InE wr base β F (fun k => caE (H k)) n ∧ F z = els (caE (H z)) a1 a2 c1 c2 ∧ OwnI wr (β z) (.slice a1 l1 c1) (H z).ws ∧ OwnB wr (β z) (.slice a2 l2 c2) (H z).bs ∧ (∀ k, (Value.slice a1 l1 c1).ownBlock = some k → k < β (z + 1)) ∧ (∀ k, (Value.slice a2 l2 c2).ownBlock = some k → k < β (z + 1)) ∧ Below base w wr ∧ Out w wr g (fun k => ∃ j, j < n ∧ Ob (F0 j) k) ∧ ∀ j, j < n → ∀ k, Ob (F j) k ↔ Ob (F0 j) k) := ⟨hC, hI', hF, by rw [hl1]; exact o1, by rw [hl2]; exact o2, by rw [hl1]; exact k1, by rw [hl2]; exact k2, hbl, hout, hob⟩
      clear hC hI' hF o1 o2 k1 k2 hbl hbd hms hk hH hHz hl1 hl2 hout hob
      go_upto_region 16 with fail
      obtain ⟨W1, hW1⟩ : ∃ W1, W1 = setL wr g (o + z * 9) [.int .i64 ((k : Int)), .int .i64 ((k : Int) + 1), .int .i64 ((k : Int) + 2), .int .i64 ((k : Int) + 3), .int .i64 ((k : Int) + 4), .int .i64 ((k : Int) + 5)] := ⟨_, rfl⟩
      have hW1' : W1 = ((((((wr.setCell ⟨g, o + z * 9, none⟩ (.int .i64 ((k : Int)))).setCell ⟨g, o + z * 9 + 1, none⟩ (.int .i64 ((k : Int) + 1))).setCell ⟨g, o + z * 9 + 2, none⟩ (.int .i64 ((k : Int) + 2))).setCell ⟨g, o + z * 9 + 3, none⟩ (.int .i64 ((k : Int) + 3))).setCell ⟨g, o + z * 9 + 4, none⟩ (.int .i64 ((k : Int) + 4))).setCell ⟨g, o + z * 9 + 5, none⟩ (.int .i64 ((k : Int) + 5))) := hW1
      rw [← hW1']
      have C1 : RowO W1 g 30 9 o n (fun i => if i = z then els ⟨[.int .i64 ((k : Int)), .int .i64 ((k : Int) + 1), .int .i64 ((k : Int) + 2), .int .i64 ((k : Int) + 3), .int .i64 ((k : Int) + 4), .int .i64 ((k : Int) + 5)], (H z).ws, (H z).bs, [.int .i64 (H z).wa]⟩ a1 a2 c1 c2 else F i) := by
        rw [hW1]
        refine HF.out.1.upd (i := 0) hlt _ _ (by simp) (fun j hj => ?_)
        rw [HF.out.2.2.1]
        obtain rfl | rfl | rfl | rfl | rfl | rfl | rfl | rfl | rfl : j = 0 ∨ j = 1 ∨ j = 2 ∨ j = 3 ∨ j = 4 ∨ j = 5 ∨ j = 6 ∨ j = 7 ∨ j = 8 := by omega
        all_goals simp [caE]
      have G1 : wr.grownBy W1 (some g) := by rw [hW1]; exact setL_gw _ _ _
      have H1 : Hid (W1 = setL wr g (o + z * 9) [.int .i64 ((k : Int)), .int .i64 ((k : Int) + 1), .int .i64 ((k : Int) + 2), .int .i64 ((k : Int) + 3), .int .i64 ((k : Int) + 4), .int .i64 ((k : Int) + 5)] ∧ OwnI W1 (β z) (.slice a1 l1 c1) (H z).ws ∧ OwnB W1 (β z) (.slice a2 l2 c2) (H z).bs ∧ RowO W1 g 30 9 o n (fun i => if i = z then els ⟨[.int .i64 ((k : Int)), .int .i64 ((k : Int) + 1), .int .i64 ((k : Int) + 2), .int .i64 ((k : Int) + 3), .int .i64 ((k : Int) + 4), .int .i64 ((k : Int) + 5)], (H z).ws, (H z).bs, [.int .i64 (H z).wa]⟩ a1 a2 c1 c2 else F i)) := by
        obtain ⟨cs, hX⟩ := HF.out.1.exB
        exact ⟨hW1, HF.out.2.2.2.1.kept G1 (.inr (row_noBlk HF.out.2.2.2.1 hX (by decide))), HF.out.2.2.2.2.1.kept G1 (.inr (row_noBlk HF.out.2.2.2.2.1 hX (by decide))), C1⟩
      clear hW1 hW1' G1 e0 e1 e2 e3 e4 e5 e6 e7 e8 f0 f1 f2 f3 f4 f5 f6 f7 f8 v0 v1 v2 v3 v4 v5
      have t5 : W1.cell? ⟨g, o + z * 9 + 6, none⟩ = some (.slice a1 l1 c1) := by have h9 := C1.cell hlt (j := 6) (by decide); have := HL.out.1; simpa [this] using h9
      clear C1
      go_wp2_with fail
      refine (markIntS_a a1 l1 c1 (β z) (k + 6) _ (H z).ws _ (by omega) H1.out.2.1 (by have := HL.out; omega) (by have := HK.out; omega)).mono ?_
      rintro e W2 ⟨rfl, m1, g1⟩
      have C2 := H1.out.2.2.2.keptV H1.out.2.1 g1 (by decide)
      have H2 : Hid (OwnI W2 (β z) (.slice a1 l1 c1) (marksI (k + 6) l1) ∧ W1.grownBy W2 (Value.slice a1 l1 c1).ownBlock ∧ OwnB W2 (β z) (.slice a2 l2 c2) (H z).bs ∧ RowO W2 g 30 9 o n (fun i => if i = z then els ⟨[.int .i64 ((k : Int)), .int .i64 ((k : Int) + 1), .int .i64 ((k : Int) + 2), .int .i64 ((k : Int) + 3), .int .i64 ((k : Int) + 4), .int .i64 ((k : Int) + 5)], (H z).ws, (H z).bs, [.int .i64 (H z).wa]⟩ a1 a2 c1 c2 else F i)) := ⟨m1, g1, H1.out.2.2.1.kept g1 (ne_typesE H1.out.2.2.1 H1.out.2.1 (by decide)), C2⟩
      have t6 : W2.cell? ⟨g, o + z * 9 + 7, none⟩ = some (.slice a2 l2 c2) := by have h9 := C2.cell hlt (j := 6 + 1) (by decide); have := HL.out.2.1; simpa [this] using h9
      obtain ⟨k5, hk5⟩ : ∃ k5 : Nat, (k5 : Int) = ((k + 6 : Nat) : Int) + (l1 : Int) := ⟨k + 6 + l1, by omega⟩
      rw [← hk5]
      have HK5 : Hid (k5 = k + 6 + l1) := by show _ = _; omega
      clear m1 g1 C2 t5 hk5
      go_wp2_with fail
      refine (markBoolS_from a2 l2 c2 (β z) k5 (H z).bs _ H2.out.2.2.1 (by have := HL.out; omega) (by have := HK.out; have := HK5.out; have := HL.out; omega)).mono ?_
      rintro e W3 ⟨rfl, m2, g2⟩
      have C3 := H2.out.2.2.2.keptV H2.out.2.2.1 g2 (by decide)
      obtain ⟨k6, hk6⟩ : ∃ k6 : Nat, (k6 : Int) = (k5 : Int) + (l2 : Int) := ⟨k5 + l2, by omega⟩
      rw [← hk6]
      have HK6 : Hid (k6 = k + 6 + l1 + l2 ∧ k6 + 1 = msCa s f (z + 1)) := by
        have e1 := HK5.out
        have e2 := HK.out.1
        have e3 := HL.out
        refine ⟨by omega, ?_⟩
        simp only [msCa, ctCa]
        omega
      have H3 : Hid ((∃ F', RowO (setL W3 g (o + z * 9 + (6 + 2)) [.int .i64 (k6 : Int)]) g 30 9 o n F' ∧ InE (setL W3 g (o + z * 9 + (6 + 2)) [.int .i64 (k6 : Int)]) base β F' (fun j => caE (if j = z then mkCa k (H z) else H j)) n ∧ ∀ j, j < n → ∀ k, Ob (F' j) k ↔ Ob (F0 j) k) ∧ Below base w (setL W3 g (o + z * 9 + (6 + 2)) [.int .i64 (k6 : Int)]) ∧ Out w (setL W3 g (o + z * 9 + (6 + 2)) [.int .i64 (k6 : Int)]) g (fun k => ∃ j, j < n ∧ Ob (F0 j) k)) := by
        have f1 := HF.out
        have el := HL.out
        have ek : k6 = k + 6 + (H z).ws.length + (H z).bs.length := by have := HK6.out.1; omega
        have r9 := mark_elB (W1 := W1) (W2 := W2) (W3 := W3) (G := fun k => caE (H k)) (p' := [.int .i64 ((k : Int)), .int .i64 ((k : Int) + 1), .int .i64 ((k : Int) + 2), .int .i64 ((k : Int) + 3), .int .i64 ((k : Int) + 4), .int .i64 ((k : Int) + 5)]) (q' := [.int .i64 (k6 : Int)]) (ws' := marksI (k + 6) (H z).ws.length) (bs' := marksB (k + 6 + (H z).ws.length) (H z).bs.length) (S := 9) (by decide) (by decide) f1.1 hbg f1.2.1 hlt f1.2.2.1 (by show OwnI _ _ (.slice _ (H z).ws.length _) _; rw [← el.1]; exact f1.2.2.2.1) (by show OwnB _ _ (.slice _ (H z).bs.length _) _; rw [← el.2.1]; exact f1.2.2.2.2.1) (by show ∀ k, (Value.slice a1 (H z).ws.length c1).ownBlock = some k → _; rw [← el.1]; exact f1.2.2.2.2.2.1) (by show ∀ k, (Value.slice a2 (H z).bs.length c2).ownBlock = some k → _; rw [← el.2.1]; exact f1.2.2.2.2.2.2.1) (by simp [caE]) (by simp [caE]) (by simp [caE]) (by simp [caE, marksI_length]) (by simp [caE, marksB_length]) H1.out.1 (by show OwnI _ _ (.slice _ (H z).ws.length _) _; rw [← el.1]; exact H2.out.1) (by show W1.grownBy W2 (Value.slice a1 (H z).ws.length c1).ownBlock; rw [← el.1]; exact H2.out.2.1) (by show OwnB _ _ (.slice _ (H z).bs.length _) _; rw [← el.1, ← el.2.1, ← HK5.out]; exact m2) (by show W2.grownBy W3 (Value.slice a2 (H z).bs.length c2).ownBlock; rw [← el.2.1]; exact g2)
        have hm := HH.out.2.2.2
        have hobz : ∀ y, Ob (F z) y ↔ (Value.slice a1 (H z).ws.length c1).ownBlock = some y ∨ (Value.slice a2 (H z).bs.length c2).ownBlock = some y := fun y => by
          rw [f1.2.2.1]
          exact Ob_els (E := caE (H z)) (by simp [caE, Value.ownBlock]) (by simp [caE, Value.ownBlock])
        refine ⟨?_, f1.2.2.2.2.2.2.2.1.trans r9.2.1, f1.2.2.2.2.2.2.2.2.1.trans r9.2.2 (fun y hy => ⟨z, hlt, (f1.2.2.2.2.2.2.2.2.2 z hlt y).1 ((hobz y).2 hy)⟩)⟩
        obtain ⟨q1, q2⟩ := r9.1
        refine ⟨_, q1, q2.congr (fun _ _ => rfl) (fun j hj => ?_), fun j hj y => ?_⟩
        rotate_left
        · by_cases e : j = z
          · subst e
            simp only [if_pos]
            rw [← f1.2.2.2.2.2.2.2.2.2 j hj y, hobz y]
            have h9 := Ob_els (E := ⟨[.int .i64 ((k : Int)), .int .i64 ((k : Int) + 1), .int .i64 ((k : Int) + 2), .int .i64 ((k : Int) + 3), .int .i64 ((k : Int) + 4), .int .i64 ((k : Int) + 5)], marksI (k + 6) (H j).ws.length, marksB (k + 6 + (H j).ws.length) (H j).bs.length, [.int .i64 (k6 : Int)]⟩) (a1 := a1) (a2 := a2) (c1 := c1) (c2 := c2) (k := y) (by simp [Value.ownBlock]) (by simp [Value.ownBlock])
            simp only [marksI_length, marksB_length] at h9
            exact h9
          · simp only [if_neg e]
            exact f1.2.2.2.2.2.2.2.2.2 j hj y
        by_cases e : j = z
        · subst e
          simp only [if_pos]
          simp [caE, mkCa, ek]
          try omega
        · simp only [if_neg e]
      have t7 : ∃ v7, W3.cell? ⟨g, o + z * 9 + 8, none⟩ = some v7 := ⟨_, by have h9 := C3.cell hlt (j := 6 + 2) (by decide); simpa using h9⟩
      obtain ⟨v7, t7⟩ := t7
      have f7 := C3.fro (o + z * 9 + 8)
      have w7 : IntKind.i64.wrap ((k6 : Int) + 1) = (k6 : Int) + 1 := by have := HK6.out; have := HK.out; have := HL.out; rw [IntKind.wrap_i64]; omega
      clear m2 g2 C3 t6 H1 H2 HF hk6
      go_wp2
      go_roundw
      case rel =>
        obtain ⟨⟨F', q1, q2, q5⟩, q3, q4⟩ := H3.out
        exact ⟨z + 1, F', by omega, by go_num, (by have := HK6.out.2; congr 1; omega), q1, q2.congr (fun _ _ => rfl) (fun j hj => by have e8 := HHH.out.2; have e7 := HK.out.1; by_cases e : j = z; (subst e; simp [e8, e7]); (simp only [if_neg e]; rw [HHH.out.1]; simp only; by_cases e6 : j < z; (rw [if_pos e6, if_pos (by omega)]); (rw [if_neg e6, if_neg (by omega)]))), q3, q4, q5⟩
      case measure => simp [intOf]; omega
    · have hi : ¬ (z : Int) < (n : Int) := by omega
      have e9 : z = n := by omega
      subst e9
      have HX : Hid ((∃ F', RowO wr g 30 9 o z F' ∧ InE wr base β F' (fun k => caE (mkCa (msCa s f k) (f k))) z ∧ ∀ j, j < z → ∀ k, Ob (F' j) k ↔ Ob (F0 j) k) ∧ Below base w wr ∧ Out w wr g (fun k => ∃ j, j < z ∧ Ob (F0 j) k)) := ⟨⟨F, hC, hI.congr (fun _ _ => rfl) (fun k hk => by simp [hk]), hob⟩, hbl, hout⟩
      clear hC hI hbl hout hob
      go_wp2
      go_ret
      exact ⟨rfl, HX.out.1, HX.out.2.1, HX.out.2.2⟩

theorem markCa_nil (a : Option Addr) (c s : Nat) (w : World) : Calls Try.prog 50 #[.slice a 0 c, .int .i64 (s : Int)] w fun e w' => e = .returned (.int .i64 (s : Int)) ∧ w' = w := by
  go_enter Try.func50, Try.ntmps50
  go_wp2
  go_loopw [1, 5] (fun kv i wr => i = .int .i64 0 ∧ kv = .int .i64 (s : Int) ∧ wr = w) (fun _ _ _ => 0)
  case atStart => exact ⟨rfl, rfl, (by first | rfl | trivial)⟩
  case round =>
    obtain ⟨rfl, rfl, hwr⟩ := hrel
    have hwr' := hwr.symm
    clear hwr
    subst hwr'
    go_wp2
    go_ret
    exact ⟨rfl, rfl⟩

set_option maxRecDepth 20000 in
set_option maxHeartbeats 4000000 in
theorem heldCa_any (a : Option Addr) (n c s : Nat) (f : Nat → Ca) (w : World) (h : SlL w a 9 n (fun k => caE (mkCa (msCa s f k) (f k)))) (hs : s ≤ 100) (hG : SmCa n f) :
    Calls Try.prog 52 #[.slice a n c, .int .i64 (s : Int)] w fun e w' => e = .returned (.int .i64 (msCa s f n : Int)) ∧ w' = w := by
  have HH : Hid (SlL w a 9 n (fun k => caE (mkCa (msCa s f k) (f k))) ∧ SmCa n f) := ⟨h, hG⟩
  have hn : n ≤ 1048600 := by unfold SmCa at hG; omega
  clear h hG
  go_enter Try.func52, Try.ntmps52
  go_wp2
  go_loopw [1, 5] (fun kv i wr => ∃ z : Nat, z ≤ n ∧ i = .int .i64 z ∧ kv = .int .i64 (msCa s f z : Int) ∧ wr = w) (fun _ i _ => n - (intOf i).toNat)
  case atStart => exact ⟨0, Nat.zero_le _, rfl, rfl, (by first | rfl | trivial)⟩
  case round =>
    obtain ⟨z, hz, rfl, rfl, hwr⟩ := hrel
    have hwr' := hwr.symm
    clear hwr
    subst hwr'
    by_cases hlt : z < n
    · have hi : (z : Int) < (n : Int) := by omega
      have hbd := HH.out.2.at hlt
      have hms := hbd.2.2.2 s hs
      obtain ⟨k, hk⟩ : ∃ k, k = msCa s f z := ⟨_, rfl⟩
      obtain ⟨g, o, a1, a2, c1, c2, ha, hg, hcell, s1, s2⟩ := HH.out.1.at hlt
      subst ha
      simp only [caE, mkCa, marksI_length, marksB_length] at hcell s1 s2
      obtain ⟨l1, hl1⟩ : ∃ l1, l1 = (f z).ws.length := ⟨_, rfl⟩
      obtain ⟨l2, hl2⟩ : ∃ l2, l2 = (f z).bs.length := ⟨_, rfl⟩
      simp only [els, marksI_length, marksB_length, ← hk, ← hl1, ← hl2] at hcell
      rw [← hk, ← hl1] at s1
      rw [← hk, ← hl1, ← hl2] at s2
      rw [← hk] at hms ⊢
      obtain ⟨k5, hk5⟩ : ∃ k5 : Nat, k5 = k + 6 + l1 := ⟨_, rfl⟩
      rw [← hk5] at s2
      obtain ⟨k6, hk6⟩ : ∃ k6 : Nat, k6 = k5 + l2 := ⟨_, rfl⟩
      have HK : Hid (k + 7 + l1 + l2 ≤ 8388900 ∧ l1 ≤ 1048600 ∧ l2 ≤ 1048600 ∧ k5 = k + 6 + l1 ∧ k6 = k5 + l2 ∧ k6 + 1 = msCa s f (z + 1) ∧ SlI w a1 (marksI (k + 6) l1) ∧ SlB w a2 (marksB k5 l2)) := ⟨by omega, by omega, by omega, hk5, hk6, by simp only [msCa, ctCa]; omega, s1, s2⟩
      have e0 : w.cell? ⟨g, o + z * 9, none⟩ = some (.int .i64 ((k : Int))) := by have h9 := hcell 0 (by decide); simpa using h9
      have e1 : w.cell? ⟨g, o + z * 9 + 1, none⟩ = some (.int .i64 ((k : Int) + 1)) := by have h9 := hcell 1 (by decide); simpa using h9
      have e2 : w.cell? ⟨g, o + z * 9 + 2, none⟩ = some (.int .i64 ((k : Int) + 2)) := by have h9 := hcell 2 (by decide); simpa using h9
      have e3 : w.cell? ⟨g, o + z * 9 + 3, none⟩ = some (.int .i64 ((k : Int) + 3)) := by have h9 := hcell 3 (by decide); simpa using h9
      have e4 : w.cell? ⟨g, o + z * 9 + 4, none⟩ = some (.int .i64 ((k : Int) + 4)) := by have h9 := hcell 4 (by decide); simpa using h9
      have e5 : w.cell? ⟨g, o + z * 9 + 5, none⟩ = some (.int .i64 ((k : Int) + 5)) := by have h9 := hcell 5 (by decide); simpa using h9
      have e6 : w.cell? ⟨g, o + z * 9 + 6, none⟩ = some (.slice a1 l1 c1) := by have h9 := hcell 6 (by decide); simpa using h9
      have e7 : w.cell? ⟨g, o + z * 9 + 7, none⟩ = some (.slice a2 l2 c2) := by have h9 := hcell 7 (by decide); simpa using h9
      have e8 : w.cell? ⟨g, o + z * 9 + 8, none⟩ = some (.int .i64 (k6 : Int)) := by have h9 := hcell 8 (by decide); rw [show (k : Int) + 6 + l1 + l2 = (k6 : Int) by omega] at h9; simpa using h9
      have v0 : IntKind.i64.wrap ((k : Int) + 1) = (k : Int) + 1 := by have := HK.out; rw [IntKind.wrap_i64]; omega
      have v1 : IntKind.i64.wrap ((k : Int) + 1 + 1) = (k : Int) + 2 := by have := HK.out; rw [IntKind.wrap_i64]; omega
      have v2 : IntKind.i64.wrap ((k : Int) + 2 + 1) = (k : Int) + 3 := by have := HK.out; rw [IntKind.wrap_i64]; omega
      have v3 : IntKind.i64.wrap ((k : Int) + 3 + 1) = (k : Int) + 4 := by have := HK.out; rw [IntKind.wrap_i64]; omega
      have v4 : IntKind.i64.wrap ((k : Int) + 4 + 1) = (k : Int) + 5 := by have := HK.out; rw [IntKind.wrap_i64]; omega
      have v5 : IntKind.i64.wrap ((k : Int) + 5 + 1) = (k : Int) + 6 := by have := HK.out; rw [IntKind.wrap_i64]; omega
      have v9 : IntKind.i64.wrap ((k6 : Int) + 1) = (k6 : Int) + 1 := by have := HK.out; rw [IntKind.wrap_i64]; omega
      clear hbd hms hk hl1 hl2 hcell s1 s2 hk5 hk6 hg
      go_wp2_with fail
      refine (heldIntS_a a1 l1 c1 (k + 6) _ _ (by omega) HK.out.2.2.2.2.2.2.1 (by have := HK.out; omega) (by have := HK.out; omega)).mono ?_
      rintro e w2 ⟨rfl, hw2⟩
      subst hw2
      have x5 : ((k + 6 : Nat) : Int) + (l1 : Int) = (k5 : Int) := by have := HK.out; omega
      rw [x5]
      have y5 : ¬ (k5 : Int) < 0 := by omega
      clear x5
      go_wp2_with fail
      refine (heldBoolS_from a2 l2 c2 k5 _ HK.out.2.2.2.2.2.2.2 (by have := HK.out; omega) (by have := HK.out; omega)).mono ?_
      rintro e w3 ⟨rfl, hw3⟩
      subst hw3
      have x6 : (k5 : Int) + (l2 : Int) = (k6 : Int) := by have := HK.out; omega
      rw [x6]
      have y6 : ¬ (k6 : Int) < 0 := by omega
      clear x6
      go_wp2
      go_roundw
      case rel => exact ⟨z + 1, by omega, by go_num, (by have := HK.out; congr 1; omega), (by first | rfl | trivial)⟩
      case measure => simp [intOf]; omega
    · have hi : ¬ (z : Int) < (n : Int) := by omega
      have e9 : z = n := by omega
      subst e9
      go_wp2
      go_ret
      exact ⟨rfl, rfl⟩

end Go.Proofs.Ytmhdneenjoelfaa

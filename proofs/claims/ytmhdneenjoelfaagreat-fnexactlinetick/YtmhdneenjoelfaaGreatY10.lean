/- Texts that the proof needs, joined: Do1 Resp1 Do2 Cr1 Hr0 Tk0 S1 WordAt1 R2 R3 R4 G1 G2 P2 S0 P3 P4 P5 S3 Hr1 S2. -/
import Derived.Test.YtmhdneenjoelfaaGreatY3
import Derived.Test.YtmhdneenjoelfaaGreatY9
import Derived.Test.YtmhdneenjoelfaaGreatY4
import Derived.Test.YtmhdneenjoelfaaGreatY7
import Derived.Test.YtmhdneenjoelfaaGreatY1
import Derived.Lib.AppendZerosOnto
import Derived.Lib.SliceRun
import Derived.Lib.Walk
import Derived.Test.YtmhdneenjoelfaaGreatY6
import Derived.Deep.RegionWith
import Derived.Deep.RegionHeld3
import Derived.BigQuiet
namespace Go.Proofs.YtmhdneenjoelfaaGreat
open Go.RowKit Go.Joins
set_option linter.unusedVariables false
set_option linter.unusedSimpArgs false
structure Od where
  nu : Int
  un : Int
  kd : Int
  pl : Int
  n : Int
  wa : Int
  ws : List Int
  bs : List Bool
def odE (C : Od) : El := ⟨[.int .i64 C.nu, .int .i64 C.un, .int .i64 C.kd, .int .i64 C.pl, .int .i64 C.n], C.ws, C.bs, [.int .i64 C.wa]⟩
abbrev odc (C : Od) (a1 a2 : Option Addr) (l1 l2 c1 c2 : Nat) : Array Value := #[.int .i64 C.nu, .int .i64 C.un, .int .i64 C.kd, .int .i64 C.pl, .int .i64 C.n, .slice a1 l1 c1, .slice a2 l2 c2, .int .i64 C.wa]
abbrev odcL (C : Od) (a1 a2 : Option Addr) (l1 l2 c1 c2 : Nat) : List Value := [.int .i64 C.nu, .int .i64 C.un, .int .i64 C.kd, .int .i64 C.pl, .int .i64 C.n, .slice a1 l1 c1, .slice a2 l2 c2, .int .i64 C.wa]
structure Dn where
  id : Int
  pa : Int
  kd : Int
  fl : Int
  pl : Int
  n : Int
  ws : List Int
  bs : List Bool
def dnE (C : Dn) : El := ⟨[.int .i64 C.id, .int .i64 C.pa, .int .i64 C.kd, .int .i64 C.fl, .int .i64 C.pl, .int .i64 C.n], C.ws, C.bs, []⟩
abbrev dnd (C : Dn) (a1 a2 : Option Addr) (l1 l2 c1 c2 : Nat) : Array Value := #[.int .i64 C.id, .int .i64 C.pa, .int .i64 C.kd, .int .i64 C.fl, .int .i64 C.pl, .int .i64 C.n, .slice a1 l1 c1, .slice a2 l2 c2]
abbrev dndL (C : Dn) (a1 a2 : Option Addr) (l1 l2 c1 c2 : Nat) : List Value := [.int .i64 C.id, .int .i64 C.pa, .int .i64 C.kd, .int .i64 C.fl, .int .i64 C.pl, .int .i64 C.n, .slice a1 l1 c1, .slice a2 l2 c2]
theorem obT {w : World} {base n j k : Nat} {β : Nat → Nat} {F : Nat → List Value} {G : Nat → El} (h : InE w base β F G n) (hj : j < n) (ho : Ob (F j) k) (hp : ∀ v ∈ (G j).pre, v.ownBlock = none := by simp [odE, dnE, Value.ownBlock]) (hq : ∀ v ∈ (G j).post, v.ownBlock = none := by simp [odE, dnE, Value.ownBlock]) : k < β n := by
  obtain ⟨a1, a2, c1, c2, e, o1, o2, k1, k2⟩ := h.2.2 j hj
  rw [e] at ho
  have hm := bt_mono h.2.1 (show j + 1 ≤ n by omega)
  rcases (Ob_els hp hq).1 ho with q | q
  · have := k1 k q; omega
  · have := k2 k q; omega
def mkOd (s : Nat) (C : Od) : Od := ⟨(s : Int), (s : Int) + 1, (s : Int) + 2, (s : Int) + 3, (s : Int) + 4, (s : Int) + 5 + C.ws.length + C.bs.length, marksI (s + 5) C.ws.length, marksB (s + 5 + C.ws.length) C.bs.length⟩
def ctOd (C : Od) : Nat := 6 + C.ws.length + C.bs.length
def msOd (s : Nat) (f : Nat → Od) : Nat → Nat
  | 0 => s
  | k + 1 => msOd s f k + ctOd (f k)
def tlOd (f : Nat → Od) : Nat → Nat
  | 0 => 0
  | k + 1 => tlOd f k + ((f k).ws.length + (f k).bs.length)
theorem msOd_eq (s : Nat) (f : Nat → Od) : ∀ k, msOd s f k = s + 6 * k + tlOd f k
  | 0 => by simp [msOd, tlOd]
  | k + 1 => by simp only [msOd, tlOd, ctOd, msOd_eq s f k]; omega
theorem tlOd_mono (f : Nat → Od) : ∀ {i j : Nat}, i ≤ j → tlOd f i ≤ tlOd f j := by
  intro i j hij
  induction hij with
  | refl => exact Nat.le_refl _
  | step _ ih => exact Nat.le_trans ih (by simp [tlOd])
def SmOd (n : Nat) (f : Nat → Od) : Prop := n + tlOd f n ≤ 1048600
theorem SmOd.at {n : Nat} {f : Nat → Od} (h : SmOd n f) {z : Nat} (hz : z < n) : n ≤ 1048600 ∧ (f z).ws.length ≤ 1048600 ∧ (f z).bs.length ≤ 1048600 ∧ ∀ s, s + 6 * n + tlOd f n ≤ 8999000 → msOd s f z + 6 + (f z).ws.length + (f z).bs.length ≤ 8999000 := by
  have h1 := tlOd_mono f (show z + 1 ≤ n by omega)
  simp only [tlOd] at h1
  unfold SmOd at h
  refine ⟨by omega, by omega, by omega, fun s hs => ?_⟩
  rw [msOd_eq]
  omega
set_option maxRecDepth 20000 in
set_option maxHeartbeats 4000000 in
theorem markOd_ne (g o n c base s : Nat) (f : Nat → Od) (F0 : Nat → List Value) (β : Nat → Nat) (w : World) (hR0 : RowO w g 83 8 o n F0) (hbg : base ≤ g) (hI0 : InE w base β F0 (fun k => odE (f k)) n) (hs : s + 6 * n + tlOd f n ≤ 8999000) (hG : SmOd n f) :
    Calls Tryz.prog 20 #[.slice (some ⟨g, o, none⟩) n c, .int .i64 (s : Int)] w fun e w' => e = .returned (.int .i64 (msOd s f n : Int)) ∧ (∃ F', RowO w' g 83 8 o n F' ∧ InE w' base β F' (fun k => odE (mkOd (msOd s f k) (f k))) n ∧ ∀ j, j < n → ∀ k, Ob (F' j) k ↔ Ob (F0 j) k) ∧ Below base w w' ∧ Out w w' g (fun k => ∃ j, j < n ∧ Ob (F0 j) k) := by
  have HH : Hid (RowO w g 83 8 o n F0 ∧ InE w base β F0 (fun k => odE (f k)) n ∧ SmOd n f ∧ ∀ k, β k ≤ β (k + 1)) := ⟨hR0, hI0, hG, hI0.2.1⟩
  have hn : n ≤ 1048600 := by unfold SmOd at hG; omega
  clear hR0 hI0 hG
  go_enter Tryz.func20, Tryz.ntmps20
  go_wp2
  go_loopw [1, 5] (fun kv i wr => ∃ (z : Nat) (F : Nat → List Value), z ≤ n ∧ i = .int .i64 z ∧ kv = .int .i64 (msOd s f z : Int) ∧ RowO wr g 83 8 o n F ∧ InE wr base β F (fun k => odE (if k < z then mkOd (msOd s f k) (f k) else f k)) n ∧ Below base w wr ∧ Out w wr g (fun k => ∃ j, j < n ∧ Ob (F0 j) k) ∧ ∀ j, j < n → ∀ k, Ob (F j) k ↔ Ob (F0 j) k) (fun _ i _ => n - (intOf i).toNat)
  case atStart => exact ⟨0, F0, Nat.zero_le _, rfl, rfl, HH.out.1, HH.out.2.1.congr (fun _ _ => rfl) (fun k _ => by simp), Below.refl _ _, Out.refl _ _ _, fun _ _ _ => Iff.rfl⟩
  case round =>
    obtain ⟨z, F, hz, rfl, rfl, hC, hI, hbl, hout, hob⟩ := hrel
    by_cases hlt : z < n
    · have hi : (z : Int) < (n : Int) := by omega
      have hbd := HH.out.2.2.1.at hlt
      have hms := hbd.2.2.2 s hs
      obtain ⟨k, hk⟩ : ∃ k, k = msOd s f z := ⟨_, rfl⟩
      rw [← hk] at hms ⊢
      obtain ⟨H, hH⟩ : ∃ H : Nat → Od, H = (fun k => if k < z then mkOd (msOd s f k) (f k) else f k) := ⟨_, rfl⟩
      have hI' : InE wr base β F (fun k => odE (H k)) n := by rw [hH]; exact hI
      clear hI
      have hHz : H z = f z := by rw [hH]; simp
      have HHH : Hid (H = (fun k => if k < z then mkOd (msOd s f k) (f k) else f k) ∧ H z = f z) := ⟨hH, hHz⟩
      obtain ⟨a1, a2, c1, c2, hF, o1, o2, k1, k2⟩ := hI'.2.2 z hlt
      obtain ⟨l1, hl1⟩ : ∃ l1, l1 = (H z).ws.length := ⟨_, rfl⟩
      obtain ⟨l2, hl2⟩ : ∃ l2, l2 = (H z).bs.length := ⟨_, rfl⟩
      have HL : Hid (l1 = (H z).ws.length ∧ l2 = (H z).bs.length ∧ l1 ≤ 1048600 ∧ l2 ≤ 1048600 ∧ l1 = (f z).ws.length ∧ l2 = (f z).bs.length) := ⟨hl1, hl2, by rw [hl1, hHz]; exact hbd.2.1, by rw [hl2, hHz]; exact hbd.2.2.1, by rw [hl1, hHz], by rw [hl2, hHz]⟩
      have HK : Hid (k = msOd s f z ∧ k + 6 + l1 + l2 ≤ 8999000) := ⟨hk, by have := HL.out; omega⟩
      have e0 : wr.cell? ⟨g, o + z * 8, none⟩ = some (.int .i64 (H z).nu) := by have h9 := hC.cell hlt (j := 0) (by decide); rw [hF] at h9; simpa [odE] using h9
      have f0 := hC.fro (o + z * 8)
      have e1 : wr.cell? ⟨g, o + z * 8 + 1, none⟩ = some (.int .i64 (H z).un) := by have h9 := hC.cell hlt (j := 1) (by decide); rw [hF] at h9; simpa [odE] using h9
      have f1 := hC.fro (o + z * 8 + 1)
      have e2 : wr.cell? ⟨g, o + z * 8 + 2, none⟩ = some (.int .i64 (H z).kd) := by have h9 := hC.cell hlt (j := 2) (by decide); rw [hF] at h9; simpa [odE] using h9
      have f2 := hC.fro (o + z * 8 + 2)
      have e3 : wr.cell? ⟨g, o + z * 8 + 3, none⟩ = some (.int .i64 (H z).pl) := by have h9 := hC.cell hlt (j := 3) (by decide); rw [hF] at h9; simpa [odE] using h9
      have f3 := hC.fro (o + z * 8 + 3)
      have e4 : wr.cell? ⟨g, o + z * 8 + 4, none⟩ = some (.int .i64 (H z).n) := by have h9 := hC.cell hlt (j := 4) (by decide); rw [hF] at h9; simpa [odE] using h9
      have f4 := hC.fro (o + z * 8 + 4)
      have e5 : wr.cell? ⟨g, o + z * 8 + 5, none⟩ = some (.slice a1 l1 c1) := by have h9 := hC.cell hlt (j := 5) (by decide); rw [hF] at h9; simpa [odE, hl1] using h9
      have f5 := hC.fro (o + z * 8 + 5)
      have e6 : wr.cell? ⟨g, o + z * 8 + 6, none⟩ = some (.slice a2 l2 c2) := by have h9 := hC.cell hlt (j := 6) (by decide); rw [hF] at h9; simpa [odE, hl2] using h9
      have f6 := hC.fro (o + z * 8 + 6)
      have e7 : wr.cell? ⟨g, o + z * 8 + 7, none⟩ = some (.int .i64 (H z).wa) := by have h9 := hC.cell hlt (j := 7) (by decide); rw [hF] at h9; simpa [odE] using h9
      have f7 := hC.fro (o + z * 8 + 7)
      have v0 : IntKind.i64.wrap ((k : Int) + 1) = (k : Int) + 1 := by have := HK.out; rw [IntKind.wrap_i64]; omega
      have v1 : IntKind.i64.wrap ((k : Int) + 1 + 1) = (k : Int) + 2 := by have := HK.out; rw [IntKind.wrap_i64]; omega
      have v2 : IntKind.i64.wrap ((k : Int) + 2 + 1) = (k : Int) + 3 := by have := HK.out; rw [IntKind.wrap_i64]; omega
      have v3 : IntKind.i64.wrap ((k : Int) + 3 + 1) = (k : Int) + 4 := by have := HK.out; rw [IntKind.wrap_i64]; omega
      have v4 : IntKind.i64.wrap ((k : Int) + 4 + 1) = (k : Int) + 5 := by have := HK.out; rw [IntKind.wrap_i64]; omega
      have HF : Hid (RowO wr g 83 8 o n F ∧ InE wr base β F (fun k => odE (H k)) n ∧ F z = els (odE (H z)) a1 a2 c1 c2 ∧ OwnI wr (β z) (.slice a1 l1 c1) (H z).ws ∧ OwnB wr (β z) (.slice a2 l2 c2) (H z).bs ∧ (∀ k, (Value.slice a1 l1 c1).ownBlock = some k → k < β (z + 1)) ∧ (∀ k, (Value.slice a2 l2 c2).ownBlock = some k → k < β (z + 1)) ∧ Below base w wr ∧ Out w wr g (fun k => ∃ j, j < n ∧ Ob (F0 j) k) ∧ ∀ j, j < n → ∀ k, Ob (F j) k ↔ Ob (F0 j) k) := ⟨hC, hI', hF, by rw [hl1]; exact o1, by rw [hl2]; exact o2, by rw [hl1]; exact k1, by rw [hl2]; exact k2, hbl, hout, hob⟩
      clear hC hI' hF o1 o2 k1 k2 hbl hbd hms hk hH hHz hl1 hl2 hout hob
      go_upto_region 14 with fail
      obtain ⟨W1, hW1⟩ : ∃ W1, W1 = setL wr g (o + z * 8) [.int .i64 ((k : Int)), .int .i64 ((k : Int) + 1), .int .i64 ((k : Int) + 2), .int .i64 ((k : Int) + 3), .int .i64 ((k : Int) + 4)] := ⟨_, rfl⟩
      have hW1' : W1 = (((((wr.setCell ⟨g, o + z * 8, none⟩ (.int .i64 ((k : Int)))).setCell ⟨g, o + z * 8 + 1, none⟩ (.int .i64 ((k : Int) + 1))).setCell ⟨g, o + z * 8 + 2, none⟩ (.int .i64 ((k : Int) + 2))).setCell ⟨g, o + z * 8 + 3, none⟩ (.int .i64 ((k : Int) + 3))).setCell ⟨g, o + z * 8 + 4, none⟩ (.int .i64 ((k : Int) + 4))) := hW1
      rw [← hW1']
      have C1 : RowO W1 g 83 8 o n (fun i => if i = z then els ⟨[.int .i64 ((k : Int)), .int .i64 ((k : Int) + 1), .int .i64 ((k : Int) + 2), .int .i64 ((k : Int) + 3), .int .i64 ((k : Int) + 4)], (H z).ws, (H z).bs, [.int .i64 (H z).wa]⟩ a1 a2 c1 c2 else F i) := by
        rw [hW1]
        refine HF.out.1.upd (i := 0) hlt _ _ (by simp) (fun j hj => ?_)
        rw [HF.out.2.2.1]
        obtain rfl | rfl | rfl | rfl | rfl | rfl | rfl | rfl : j = 0 ∨ j = 1 ∨ j = 2 ∨ j = 3 ∨ j = 4 ∨ j = 5 ∨ j = 6 ∨ j = 7 := by omega
        all_goals simp [odE]
      have G1 : wr.grownBy W1 (some g) := by rw [hW1]; exact setL_gw _ _ _
      have H1 : Hid (W1 = setL wr g (o + z * 8) [.int .i64 ((k : Int)), .int .i64 ((k : Int) + 1), .int .i64 ((k : Int) + 2), .int .i64 ((k : Int) + 3), .int .i64 ((k : Int) + 4)] ∧ OwnI W1 (β z) (.slice a1 l1 c1) (H z).ws ∧ OwnB W1 (β z) (.slice a2 l2 c2) (H z).bs ∧ RowO W1 g 83 8 o n (fun i => if i = z then els ⟨[.int .i64 ((k : Int)), .int .i64 ((k : Int) + 1), .int .i64 ((k : Int) + 2), .int .i64 ((k : Int) + 3), .int .i64 ((k : Int) + 4)], (H z).ws, (H z).bs, [.int .i64 (H z).wa]⟩ a1 a2 c1 c2 else F i)) := by
        obtain ⟨cs, hX⟩ := HF.out.1.exB
        exact ⟨hW1, HF.out.2.2.2.1.kept G1 (.inr (row_noBlk HF.out.2.2.2.1 hX (by decide))), HF.out.2.2.2.2.1.kept G1 (.inr (row_noBlk HF.out.2.2.2.2.1 hX (by decide))), C1⟩
      clear hW1 hW1' G1 e0 e1 e2 e3 e4 e5 e6 e7 f0 f1 f2 f3 f4 f5 f6 f7 v0 v1 v2 v3 v4
      have t5 : W1.cell? ⟨g, o + z * 8 + 5, none⟩ = some (.slice a1 l1 c1) := by have h9 := C1.cell hlt (j := 5) (by decide); have := HL.out.1; simpa [this] using h9
      clear C1
      go_wp2_with fail
      refine (markIntS_a a1 l1 c1 (β z) (k + 5) _ (H z).ws _ (by omega) H1.out.2.1 (by have := HL.out; omega) (by have := HK.out; omega)).mono ?_
      rintro e W2 ⟨rfl, m1, g1⟩
      have C2 := H1.out.2.2.2.keptV H1.out.2.1 g1 (by decide)
      have H2 : Hid (OwnI W2 (β z) (.slice a1 l1 c1) (marksI (k + 5) l1) ∧ W1.grownBy W2 (Value.slice a1 l1 c1).ownBlock ∧ OwnB W2 (β z) (.slice a2 l2 c2) (H z).bs ∧ RowO W2 g 83 8 o n (fun i => if i = z then els ⟨[.int .i64 ((k : Int)), .int .i64 ((k : Int) + 1), .int .i64 ((k : Int) + 2), .int .i64 ((k : Int) + 3), .int .i64 ((k : Int) + 4)], (H z).ws, (H z).bs, [.int .i64 (H z).wa]⟩ a1 a2 c1 c2 else F i)) := ⟨m1, g1, H1.out.2.2.1.kept g1 (ne_typesE H1.out.2.2.1 H1.out.2.1 (by decide)), C2⟩
      have t6 : W2.cell? ⟨g, o + z * 8 + 6, none⟩ = some (.slice a2 l2 c2) := by have h9 := C2.cell hlt (j := 5 + 1) (by decide); have := HL.out.2.1; simpa [this] using h9
      obtain ⟨k5, hk5⟩ : ∃ k5 : Nat, (k5 : Int) = ((k + 5 : Nat) : Int) + (l1 : Int) := ⟨k + 5 + l1, by omega⟩
      rw [← hk5]
      have HK5 : Hid (k5 = k + 5 + l1) := by show _ = _; omega
      clear m1 g1 C2 t5 hk5
      go_wp2_with fail
      refine (markBoolS_from a2 l2 c2 (β z) k5 (H z).bs _ H2.out.2.2.1 (by have := HL.out; omega) (by have := HK.out; have := HK5.out; have := HL.out; omega)).mono ?_
      rintro e W3 ⟨rfl, m2, g2⟩
      have C3 := H2.out.2.2.2.keptV H2.out.2.2.1 g2 (by decide)
      obtain ⟨k6, hk6⟩ : ∃ k6 : Nat, (k6 : Int) = (k5 : Int) + (l2 : Int) := ⟨k5 + l2, by omega⟩
      rw [← hk6]
      have HK6 : Hid (k6 = k + 5 + l1 + l2 ∧ k6 + 1 = msOd s f (z + 1)) := by
        have e1 := HK5.out
        have e2 := HK.out.1
        have e3 := HL.out
        refine ⟨by omega, ?_⟩
        simp only [msOd, ctOd]
        omega
      have H3 : Hid ((∃ F', RowO (setL W3 g (o + z * 8 + (5 + 2)) [.int .i64 (k6 : Int)]) g 83 8 o n F' ∧ InE (setL W3 g (o + z * 8 + (5 + 2)) [.int .i64 (k6 : Int)]) base β F' (fun j => odE (if j = z then mkOd k (H z) else H j)) n ∧ ∀ j, j < n → ∀ k, Ob (F' j) k ↔ Ob (F0 j) k) ∧ Below base w (setL W3 g (o + z * 8 + (5 + 2)) [.int .i64 (k6 : Int)]) ∧ Out w (setL W3 g (o + z * 8 + (5 + 2)) [.int .i64 (k6 : Int)]) g (fun k => ∃ j, j < n ∧ Ob (F0 j) k)) := by
        have f1 := HF.out
        have el := HL.out
        have ek : k6 = k + 5 + (H z).ws.length + (H z).bs.length := by have := HK6.out.1; omega
        have r9 := mark_elB (W1 := W1) (W2 := W2) (W3 := W3) (G := fun k => odE (H k)) (p' := [.int .i64 ((k : Int)), .int .i64 ((k : Int) + 1), .int .i64 ((k : Int) + 2), .int .i64 ((k : Int) + 3), .int .i64 ((k : Int) + 4)]) (q' := [.int .i64 (k6 : Int)]) (ws' := marksI (k + 5) (H z).ws.length) (bs' := marksB (k + 5 + (H z).ws.length) (H z).bs.length) (S := 8) (by decide) (by decide) f1.1 hbg f1.2.1 hlt f1.2.2.1 (by show OwnI _ _ (.slice _ (H z).ws.length _) _; rw [← el.1]; exact f1.2.2.2.1) (by show OwnB _ _ (.slice _ (H z).bs.length _) _; rw [← el.2.1]; exact f1.2.2.2.2.1) (by show ∀ k, (Value.slice a1 (H z).ws.length c1).ownBlock = some k → _; rw [← el.1]; exact f1.2.2.2.2.2.1) (by show ∀ k, (Value.slice a2 (H z).bs.length c2).ownBlock = some k → _; rw [← el.2.1]; exact f1.2.2.2.2.2.2.1) (by simp [odE]) (by simp [odE]) (by simp [odE]) (by simp [odE, marksI_length]) (by simp [odE, marksB_length]) H1.out.1 (by show OwnI _ _ (.slice _ (H z).ws.length _) _; rw [← el.1]; exact H2.out.1) (by show W1.grownBy W2 (Value.slice a1 (H z).ws.length c1).ownBlock; rw [← el.1]; exact H2.out.2.1) (by show OwnB _ _ (.slice _ (H z).bs.length _) _; rw [← el.1, ← el.2.1, ← HK5.out]; exact m2) (by show W2.grownBy W3 (Value.slice a2 (H z).bs.length c2).ownBlock; rw [← el.2.1]; exact g2)
        have hm := HH.out.2.2.2
        have hobz : ∀ y, Ob (F z) y ↔ (Value.slice a1 (H z).ws.length c1).ownBlock = some y ∨ (Value.slice a2 (H z).bs.length c2).ownBlock = some y := fun y => by
          rw [f1.2.2.1]
          exact Ob_els (E := odE (H z)) (by simp [odE, Value.ownBlock]) (by simp [odE, Value.ownBlock])
        refine ⟨?_, f1.2.2.2.2.2.2.2.1.trans r9.2.1, f1.2.2.2.2.2.2.2.2.1.trans r9.2.2 (fun y hy => ⟨z, hlt, (f1.2.2.2.2.2.2.2.2.2 z hlt y).1 ((hobz y).2 hy)⟩)⟩
        obtain ⟨q1, q2⟩ := r9.1
        refine ⟨_, q1, q2.congr (fun _ _ => rfl) (fun j hj => ?_), fun j hj y => ?_⟩
        rotate_left
        · by_cases e : j = z
          · subst e
            simp only [if_pos]
            rw [← f1.2.2.2.2.2.2.2.2.2 j hj y, hobz y]
            have h9 := Ob_els (E := ⟨[.int .i64 ((k : Int)), .int .i64 ((k : Int) + 1), .int .i64 ((k : Int) + 2), .int .i64 ((k : Int) + 3), .int .i64 ((k : Int) + 4)], marksI (k + 5) (H j).ws.length, marksB (k + 5 + (H j).ws.length) (H j).bs.length, [.int .i64 (k6 : Int)]⟩) (a1 := a1) (a2 := a2) (c1 := c1) (c2 := c2) (k := y) (by simp [Value.ownBlock]) (by simp [Value.ownBlock])
            simp only [marksI_length, marksB_length] at h9
            exact h9
          · simp only [if_neg e]
            exact f1.2.2.2.2.2.2.2.2.2 j hj y
        by_cases e : j = z
        · subst e
          simp only [if_pos]
          simp [odE, mkOd, ek]
          try omega
        · simp only [if_neg e]
      have t7 : ∃ v7, W3.cell? ⟨g, o + z * 8 + 7, none⟩ = some v7 := ⟨_, by have h9 := C3.cell hlt (j := 5 + 2) (by decide); simpa using h9⟩
      obtain ⟨v7, t7⟩ := t7
      have f7 := C3.fro (o + z * 8 + 7)
      have w7 : IntKind.i64.wrap ((k6 : Int) + 1) = (k6 : Int) + 1 := by have := HK6.out; have := HK.out; have := HL.out; rw [IntKind.wrap_i64]; omega
      clear m2 g2 C3 t6 H1 H2 HF hk6
      go_wp2
      go_roundw
      case rel =>
        obtain ⟨⟨F', q1, q2, q5⟩, q3, q4⟩ := H3.out
        exact ⟨z + 1, F', by omega, by go_num, (by have := HK6.out.2; congr 1; omega), q1, q2.congr (fun _ _ => rfl) (fun j hj => by have e8 := HHH.out.2; have e7 := HK.out.1; by_cases e : j = z; (subst e; simp [e8, e7]); (simp only [if_neg e]; rw [HHH.out.1]; simp only; by_cases e6 : j < z; (rw [if_pos e6, if_pos (by omega)]); (rw [if_neg e6, if_neg (by omega)]))), q3, q4, q5⟩
      case measure => simp [intOf]; omega
    · have hi : ¬ (z : Int) < (n : Int) := by omega
      have e9 : z = n := by omega
      subst e9
      have HX : Hid ((∃ F', RowO wr g 83 8 o z F' ∧ InE wr base β F' (fun k => odE (mkOd (msOd s f k) (f k))) z ∧ ∀ j, j < z → ∀ k, Ob (F' j) k ↔ Ob (F0 j) k) ∧ Below base w wr ∧ Out w wr g (fun k => ∃ j, j < z ∧ Ob (F0 j) k)) := ⟨⟨F, hC, hI.congr (fun _ _ => rfl) (fun k hk => by simp [hk]), hob⟩, hbl, hout⟩
      clear hC hI hbl hout hob
      go_wp2
      go_ret
      exact ⟨rfl, HX.out.1, HX.out.2.1, HX.out.2.2⟩
theorem markOd_nil (a : Option Addr) (c s : Nat) (w : World) : Calls Tryz.prog 20 #[.slice a 0 c, .int .i64 (s : Int)] w fun e w' => e = .returned (.int .i64 (s : Int)) ∧ w' = w := by
  go_enter Tryz.func20, Tryz.ntmps20
  go_wp2
  go_loopw [1, 5] (fun kv i wr => i = .int .i64 0 ∧ kv = .int .i64 (s : Int) ∧ wr = w) (fun _ _ _ => 0)
  case atStart => exact ⟨rfl, rfl, (by first | rfl | trivial)⟩
  case round =>
    obtain ⟨rfl, rfl, hwr⟩ := hrel
    have hwr' := hwr.symm
    clear hwr
    subst hwr'
    go_wp2
    go_ret
    exact ⟨rfl, rfl⟩
set_option maxRecDepth 20000 in
set_option maxHeartbeats 4000000 in
theorem heldOd_any (a : Option Addr) (n c s : Nat) (f : Nat → Od) (w : World) (h : SlL w a 8 n (fun k => odE (mkOd (msOd s f k) (f k)))) (hs : s + 6 * n + tlOd f n ≤ 8999000) (hG : SmOd n f) :
    Calls Tryz.prog 23 #[.slice a n c, .int .i64 (s : Int)] w fun e w' => e = .returned (.int .i64 (msOd s f n : Int)) ∧ w' = w := by
  have HH : Hid (SlL w a 8 n (fun k => odE (mkOd (msOd s f k) (f k))) ∧ SmOd n f) := ⟨h, hG⟩
  have hn : n ≤ 1048600 := by unfold SmOd at hG; omega
  clear h hG
  go_enter Tryz.func23, Tryz.ntmps23
  go_wp2
  go_loopw [1, 5] (fun kv i wr => ∃ z : Nat, z ≤ n ∧ i = .int .i64 z ∧ kv = .int .i64 (msOd s f z : Int) ∧ wr = w) (fun _ i _ => n - (intOf i).toNat)
  case atStart => exact ⟨0, Nat.zero_le _, rfl, rfl, (by first | rfl | trivial)⟩
  case round =>
    obtain ⟨z, hz, rfl, rfl, hwr⟩ := hrel
    have hwr' := hwr.symm
    clear hwr
    subst hwr'
    by_cases hlt : z < n
    · have hi : (z : Int) < (n : Int) := by omega
      have hbd := HH.out.2.at hlt
      have hms := hbd.2.2.2 s hs
      obtain ⟨k, hk⟩ : ∃ k, k = msOd s f z := ⟨_, rfl⟩
      obtain ⟨g, o, a1, a2, c1, c2, ha, hg, hcell, s1, s2⟩ := HH.out.1.at hlt
      subst ha
      simp only [odE, mkOd, marksI_length, marksB_length] at hcell s1 s2
      obtain ⟨l1, hl1⟩ : ∃ l1, l1 = (f z).ws.length := ⟨_, rfl⟩
      obtain ⟨l2, hl2⟩ : ∃ l2, l2 = (f z).bs.length := ⟨_, rfl⟩
      simp only [els, marksI_length, marksB_length, ← hk, ← hl1, ← hl2] at hcell
      rw [← hk, ← hl1] at s1
      rw [← hk, ← hl1, ← hl2] at s2
      rw [← hk] at hms ⊢
      obtain ⟨k5, hk5⟩ : ∃ k5 : Nat, k5 = k + 5 + l1 := ⟨_, rfl⟩
      rw [← hk5] at s2
      obtain ⟨k6, hk6⟩ : ∃ k6 : Nat, k6 = k5 + l2 := ⟨_, rfl⟩
      have HK : Hid (k + 6 + l1 + l2 ≤ 8999000 ∧ l1 ≤ 1048600 ∧ l2 ≤ 1048600 ∧ k5 = k + 5 + l1 ∧ k6 = k5 + l2 ∧ k6 + 1 = msOd s f (z + 1) ∧ SlI w a1 (marksI (k + 5) l1) ∧ SlB w a2 (marksB k5 l2)) := ⟨by omega, by omega, by omega, hk5, hk6, by simp only [msOd, ctOd]; omega, s1, s2⟩
      have e0 : w.cell? ⟨g, o + z * 8, none⟩ = some (.int .i64 ((k : Int))) := by have h9 := hcell 0 (by decide); simpa using h9
      have e1 : w.cell? ⟨g, o + z * 8 + 1, none⟩ = some (.int .i64 ((k : Int) + 1)) := by have h9 := hcell 1 (by decide); simpa using h9
      have e2 : w.cell? ⟨g, o + z * 8 + 2, none⟩ = some (.int .i64 ((k : Int) + 2)) := by have h9 := hcell 2 (by decide); simpa using h9
      have e3 : w.cell? ⟨g, o + z * 8 + 3, none⟩ = some (.int .i64 ((k : Int) + 3)) := by have h9 := hcell 3 (by decide); simpa using h9
      have e4 : w.cell? ⟨g, o + z * 8 + 4, none⟩ = some (.int .i64 ((k : Int) + 4)) := by have h9 := hcell 4 (by decide); simpa using h9
      have e5 : w.cell? ⟨g, o + z * 8 + 5, none⟩ = some (.slice a1 l1 c1) := by have h9 := hcell 5 (by decide); simpa using h9
      have e6 : w.cell? ⟨g, o + z * 8 + 6, none⟩ = some (.slice a2 l2 c2) := by have h9 := hcell 6 (by decide); simpa using h9
      have e7 : w.cell? ⟨g, o + z * 8 + 7, none⟩ = some (.int .i64 (k6 : Int)) := by have h9 := hcell 7 (by decide); rw [show (k : Int) + 5 + l1 + l2 = (k6 : Int) by omega] at h9; simpa using h9
      have v0 : IntKind.i64.wrap ((k : Int) + 1) = (k : Int) + 1 := by have := HK.out; rw [IntKind.wrap_i64]; omega
      have v1 : IntKind.i64.wrap ((k : Int) + 1 + 1) = (k : Int) + 2 := by have := HK.out; rw [IntKind.wrap_i64]; omega
      have v2 : IntKind.i64.wrap ((k : Int) + 2 + 1) = (k : Int) + 3 := by have := HK.out; rw [IntKind.wrap_i64]; omega
      have v3 : IntKind.i64.wrap ((k : Int) + 3 + 1) = (k : Int) + 4 := by have := HK.out; rw [IntKind.wrap_i64]; omega
      have v4 : IntKind.i64.wrap ((k : Int) + 4 + 1) = (k : Int) + 5 := by have := HK.out; rw [IntKind.wrap_i64]; omega
      have v9 : IntKind.i64.wrap ((k6 : Int) + 1) = (k6 : Int) + 1 := by have := HK.out; rw [IntKind.wrap_i64]; omega
      clear hbd hms hk hl1 hl2 hcell s1 s2 hk5 hk6 hg
      go_wp2_with fail
      refine (heldIntS_a a1 l1 c1 (k + 5) _ _ (by omega) HK.out.2.2.2.2.2.2.1 (by have := HK.out; omega) (by have := HK.out; omega)).mono ?_
      rintro e w2 ⟨rfl, hw2⟩
      subst hw2
      have x5 : ((k + 5 : Nat) : Int) + (l1 : Int) = (k5 : Int) := by have := HK.out; omega
      rw [x5]
      have y5 : ¬ (k5 : Int) < 0 := by omega
      clear x5
      go_wp2_with fail
      refine (heldBoolS_from a2 l2 c2 k5 _ HK.out.2.2.2.2.2.2.2 (by have := HK.out; omega) (by have := HK.out; omega)).mono ?_
      rintro e w3 ⟨rfl, hw3⟩
      subst hw3
      have x6 : (k5 : Int) + (l2 : Int) = (k6 : Int) := by have := HK.out; omega
      rw [x6]
      have y6 : ¬ (k6 : Int) < 0 := by omega
      clear x6
      go_wp2
      go_roundw
      case rel => exact ⟨z + 1, by omega, by go_num, (by have := HK.out; congr 1; omega), (by first | rfl | trivial)⟩
      case measure => simp [intOf]; omega
    · have hi : ¬ (z : Int) < (n : Int) := by omega
      have e9 : z = n := by omega
      subst e9
      go_wp2
      go_ret
      exact ⟨rfl, rfl⟩
def mkDn (s : Nat) (C : Dn) : Dn := ⟨(s : Int), (s : Int) + 1, (s : Int) + 2, (s : Int) + 3, (s : Int) + 4, (s : Int) + 5, marksI (s + 6) C.ws.length, marksB (s + 6 + C.ws.length) C.bs.length⟩
def ctDn (C : Dn) : Nat := 6 + C.ws.length + C.bs.length
def msDn (s : Nat) (f : Nat → Dn) : Nat → Nat
  | 0 => s
  | k + 1 => msDn s f k + ctDn (f k)
def tlDn (f : Nat → Dn) : Nat → Nat
  | 0 => 0
  | k + 1 => tlDn f k + ((f k).ws.length + (f k).bs.length)
theorem msDn_eq (s : Nat) (f : Nat → Dn) : ∀ k, msDn s f k = s + 6 * k + tlDn f k
  | 0 => by simp [msDn, tlDn]
  | k + 1 => by simp only [msDn, tlDn, ctDn, msDn_eq s f k]; omega
theorem tlDn_mono (f : Nat → Dn) : ∀ {i j : Nat}, i ≤ j → tlDn f i ≤ tlDn f j := by
  intro i j hij
  induction hij with
  | refl => exact Nat.le_refl _
  | step _ ih => exact Nat.le_trans ih (by simp [tlDn])
def SmDn (n : Nat) (f : Nat → Dn) : Prop := n + tlDn f n ≤ 1048600
theorem SmDn.at {n : Nat} {f : Nat → Dn} (h : SmDn n f) {z : Nat} (hz : z < n) : n ≤ 1048600 ∧ (f z).ws.length ≤ 1048600 ∧ (f z).bs.length ≤ 1048600 ∧ ∀ s, s + 6 * n + tlDn f n ≤ 8999000 → msDn s f z + 6 + (f z).ws.length + (f z).bs.length ≤ 8999000 := by
  have h1 := tlDn_mono f (show z + 1 ≤ n by omega)
  simp only [tlDn] at h1
  unfold SmDn at h
  refine ⟨by omega, by omega, by omega, fun s hs => ?_⟩
  rw [msDn_eq]
  omega
set_option maxRecDepth 20000 in
set_option maxHeartbeats 4000000 in
theorem markDn_ne (g o n c base s : Nat) (f : Nat → Dn) (F0 : Nat → List Value) (β : Nat → Nat) (w : World) (hR0 : RowO w g 43 8 o n F0) (hbg : base ≤ g) (hI0 : InE w base β F0 (fun k => dnE (f k)) n) (hs : s + 6 * n + tlDn f n ≤ 8999000) (hG : SmDn n f) :
    Calls Tryz.prog 21 #[.slice (some ⟨g, o, none⟩) n c, .int .i64 (s : Int)] w fun e w' => e = .returned (.int .i64 (msDn s f n : Int)) ∧ (∃ F', RowO w' g 43 8 o n F' ∧ InE w' base β F' (fun k => dnE (mkDn (msDn s f k) (f k))) n ∧ ∀ j, j < n → ∀ k, Ob (F' j) k ↔ Ob (F0 j) k) ∧ Below base w w' ∧ Out w w' g (fun k => ∃ j, j < n ∧ Ob (F0 j) k) := by
  have HH : Hid (RowO w g 43 8 o n F0 ∧ InE w base β F0 (fun k => dnE (f k)) n ∧ SmDn n f ∧ ∀ k, β k ≤ β (k + 1)) := ⟨hR0, hI0, hG, hI0.2.1⟩
  have hn : n ≤ 1048600 := by unfold SmDn at hG; omega
  clear hR0 hI0 hG
  go_enter Tryz.func21, Tryz.ntmps21
  go_wp2
  go_loopw [1, 5] (fun kv i wr => ∃ (z : Nat) (F : Nat → List Value), z ≤ n ∧ i = .int .i64 z ∧ kv = .int .i64 (msDn s f z : Int) ∧ RowO wr g 43 8 o n F ∧ InE wr base β F (fun k => dnE (if k < z then mkDn (msDn s f k) (f k) else f k)) n ∧ Below base w wr ∧ Out w wr g (fun k => ∃ j, j < n ∧ Ob (F0 j) k) ∧ ∀ j, j < n → ∀ k, Ob (F j) k ↔ Ob (F0 j) k) (fun _ i _ => n - (intOf i).toNat)
  case atStart => exact ⟨0, F0, Nat.zero_le _, rfl, rfl, HH.out.1, HH.out.2.1.congr (fun _ _ => rfl) (fun k _ => by simp), Below.refl _ _, Out.refl _ _ _, fun _ _ _ => Iff.rfl⟩
  case round =>
    obtain ⟨z, F, hz, rfl, rfl, hC, hI, hbl, hout, hob⟩ := hrel
    by_cases hlt : z < n
    · have hi : (z : Int) < (n : Int) := by omega
      have hbd := HH.out.2.2.1.at hlt
      have hms := hbd.2.2.2 s hs
      obtain ⟨k, hk⟩ : ∃ k, k = msDn s f z := ⟨_, rfl⟩
      rw [← hk] at hms ⊢
      obtain ⟨H, hH⟩ : ∃ H : Nat → Dn, H = (fun k => if k < z then mkDn (msDn s f k) (f k) else f k) := ⟨_, rfl⟩
      have hI' : InE wr base β F (fun k => dnE (H k)) n := by rw [hH]; exact hI
      clear hI
      have hHz : H z = f z := by rw [hH]; simp
      have HHH : Hid (H = (fun k => if k < z then mkDn (msDn s f k) (f k) else f k) ∧ H z = f z) := ⟨hH, hHz⟩
      obtain ⟨a1, a2, c1, c2, hF, o1, o2, k1, k2⟩ := hI'.2.2 z hlt
      obtain ⟨l1, hl1⟩ : ∃ l1, l1 = (H z).ws.length := ⟨_, rfl⟩
      obtain ⟨l2, hl2⟩ : ∃ l2, l2 = (H z).bs.length := ⟨_, rfl⟩
      have HL : Hid (l1 = (H z).ws.length ∧ l2 = (H z).bs.length ∧ l1 ≤ 1048600 ∧ l2 ≤ 1048600 ∧ l1 = (f z).ws.length ∧ l2 = (f z).bs.length) := ⟨hl1, hl2, by rw [hl1, hHz]; exact hbd.2.1, by rw [hl2, hHz]; exact hbd.2.2.1, by rw [hl1, hHz], by rw [hl2, hHz]⟩
      have HK : Hid (k = msDn s f z ∧ k + 6 + l1 + l2 ≤ 8999000) := ⟨hk, by have := HL.out; omega⟩
      have e0 : wr.cell? ⟨g, o + z * 8, none⟩ = some (.int .i64 (H z).id) := by have h9 := hC.cell hlt (j := 0) (by decide); rw [hF] at h9; simpa [dnE] using h9
      have f0 := hC.fro (o + z * 8)
      have e1 : wr.cell? ⟨g, o + z * 8 + 1, none⟩ = some (.int .i64 (H z).pa) := by have h9 := hC.cell hlt (j := 1) (by decide); rw [hF] at h9; simpa [dnE] using h9
      have f1 := hC.fro (o + z * 8 + 1)
      have e2 : wr.cell? ⟨g, o + z * 8 + 2, none⟩ = some (.int .i64 (H z).kd) := by have h9 := hC.cell hlt (j := 2) (by decide); rw [hF] at h9; simpa [dnE] using h9
      have f2 := hC.fro (o + z * 8 + 2)
      have e3 : wr.cell? ⟨g, o + z * 8 + 3, none⟩ = some (.int .i64 (H z).fl) := by have h9 := hC.cell hlt (j := 3) (by decide); rw [hF] at h9; simpa [dnE] using h9
      have f3 := hC.fro (o + z * 8 + 3)
      have e4 : wr.cell? ⟨g, o + z * 8 + 4, none⟩ = some (.int .i64 (H z).pl) := by have h9 := hC.cell hlt (j := 4) (by decide); rw [hF] at h9; simpa [dnE] using h9
      have f4 := hC.fro (o + z * 8 + 4)
      have e5 : wr.cell? ⟨g, o + z * 8 + 5, none⟩ = some (.int .i64 (H z).n) := by have h9 := hC.cell hlt (j := 5) (by decide); rw [hF] at h9; simpa [dnE] using h9
      have f5 := hC.fro (o + z * 8 + 5)
      have e6 : wr.cell? ⟨g, o + z * 8 + 6, none⟩ = some (.slice a1 l1 c1) := by have h9 := hC.cell hlt (j := 6) (by decide); rw [hF] at h9; simpa [dnE, hl1] using h9
      have f6 := hC.fro (o + z * 8 + 6)
      have e7 : wr.cell? ⟨g, o + z * 8 + 7, none⟩ = some (.slice a2 l2 c2) := by have h9 := hC.cell hlt (j := 7) (by decide); rw [hF] at h9; simpa [dnE, hl2] using h9
      have f7 := hC.fro (o + z * 8 + 7)
      have v0 : IntKind.i64.wrap ((k : Int) + 1) = (k : Int) + 1 := by have := HK.out; rw [IntKind.wrap_i64]; omega
      have v1 : IntKind.i64.wrap ((k : Int) + 1 + 1) = (k : Int) + 2 := by have := HK.out; rw [IntKind.wrap_i64]; omega
      have v2 : IntKind.i64.wrap ((k : Int) + 2 + 1) = (k : Int) + 3 := by have := HK.out; rw [IntKind.wrap_i64]; omega
      have v3 : IntKind.i64.wrap ((k : Int) + 3 + 1) = (k : Int) + 4 := by have := HK.out; rw [IntKind.wrap_i64]; omega
      have v4 : IntKind.i64.wrap ((k : Int) + 4 + 1) = (k : Int) + 5 := by have := HK.out; rw [IntKind.wrap_i64]; omega
      have v5 : IntKind.i64.wrap ((k : Int) + 5 + 1) = (k : Int) + 6 := by have := HK.out; rw [IntKind.wrap_i64]; omega
      have HF : Hid (RowO wr g 43 8 o n F ∧ InE wr base β F (fun k => dnE (H k)) n ∧ F z = els (dnE (H z)) a1 a2 c1 c2 ∧ OwnI wr (β z) (.slice a1 l1 c1) (H z).ws ∧ OwnB wr (β z) (.slice a2 l2 c2) (H z).bs ∧ (∀ k, (Value.slice a1 l1 c1).ownBlock = some k → k < β (z + 1)) ∧ (∀ k, (Value.slice a2 l2 c2).ownBlock = some k → k < β (z + 1)) ∧ Below base w wr ∧ Out w wr g (fun k => ∃ j, j < n ∧ Ob (F0 j) k) ∧ ∀ j, j < n → ∀ k, Ob (F j) k ↔ Ob (F0 j) k) := ⟨hC, hI', hF, by rw [hl1]; exact o1, by rw [hl2]; exact o2, by rw [hl1]; exact k1, by rw [hl2]; exact k2, hbl, hout, hob⟩
      clear hC hI' hF o1 o2 k1 k2 hbl hbd hms hk hH hHz hl1 hl2 hout hob
      go_upto_region 16 with fail
      obtain ⟨W1, hW1⟩ : ∃ W1, W1 = setL wr g (o + z * 8) [.int .i64 ((k : Int)), .int .i64 ((k : Int) + 1), .int .i64 ((k : Int) + 2), .int .i64 ((k : Int) + 3), .int .i64 ((k : Int) + 4), .int .i64 ((k : Int) + 5)] := ⟨_, rfl⟩
      have hW1' : W1 = ((((((wr.setCell ⟨g, o + z * 8, none⟩ (.int .i64 ((k : Int)))).setCell ⟨g, o + z * 8 + 1, none⟩ (.int .i64 ((k : Int) + 1))).setCell ⟨g, o + z * 8 + 2, none⟩ (.int .i64 ((k : Int) + 2))).setCell ⟨g, o + z * 8 + 3, none⟩ (.int .i64 ((k : Int) + 3))).setCell ⟨g, o + z * 8 + 4, none⟩ (.int .i64 ((k : Int) + 4))).setCell ⟨g, o + z * 8 + 5, none⟩ (.int .i64 ((k : Int) + 5))) := hW1
      rw [← hW1']
      have C1 : RowO W1 g 43 8 o n (fun i => if i = z then els ⟨[.int .i64 ((k : Int)), .int .i64 ((k : Int) + 1), .int .i64 ((k : Int) + 2), .int .i64 ((k : Int) + 3), .int .i64 ((k : Int) + 4), .int .i64 ((k : Int) + 5)], (H z).ws, (H z).bs, []⟩ a1 a2 c1 c2 else F i) := by
        rw [hW1]
        refine HF.out.1.upd (i := 0) hlt _ _ (by simp) (fun j hj => ?_)
        rw [HF.out.2.2.1]
        obtain rfl | rfl | rfl | rfl | rfl | rfl | rfl | rfl : j = 0 ∨ j = 1 ∨ j = 2 ∨ j = 3 ∨ j = 4 ∨ j = 5 ∨ j = 6 ∨ j = 7 := by omega
        all_goals simp [dnE]
      have G1 : wr.grownBy W1 (some g) := by rw [hW1]; exact setL_gw _ _ _
      have H1 : Hid (W1 = setL wr g (o + z * 8) [.int .i64 ((k : Int)), .int .i64 ((k : Int) + 1), .int .i64 ((k : Int) + 2), .int .i64 ((k : Int) + 3), .int .i64 ((k : Int) + 4), .int .i64 ((k : Int) + 5)] ∧ OwnI W1 (β z) (.slice a1 l1 c1) (H z).ws ∧ OwnB W1 (β z) (.slice a2 l2 c2) (H z).bs ∧ RowO W1 g 43 8 o n (fun i => if i = z then els ⟨[.int .i64 ((k : Int)), .int .i64 ((k : Int) + 1), .int .i64 ((k : Int) + 2), .int .i64 ((k : Int) + 3), .int .i64 ((k : Int) + 4), .int .i64 ((k : Int) + 5)], (H z).ws, (H z).bs, []⟩ a1 a2 c1 c2 else F i)) := by
        obtain ⟨cs, hX⟩ := HF.out.1.exB
        exact ⟨hW1, HF.out.2.2.2.1.kept G1 (.inr (row_noBlk HF.out.2.2.2.1 hX (by decide))), HF.out.2.2.2.2.1.kept G1 (.inr (row_noBlk HF.out.2.2.2.2.1 hX (by decide))), C1⟩
      clear hW1 hW1' G1 e0 e1 e2 e3 e4 e5 e6 e7 f0 f1 f2 f3 f4 f5 f6 f7 v0 v1 v2 v3 v4 v5
      have t5 : W1.cell? ⟨g, o + z * 8 + 6, none⟩ = some (.slice a1 l1 c1) := by have h9 := C1.cell hlt (j := 6) (by decide); have := HL.out.1; simpa [this] using h9
      clear C1
      go_wp2_with fail
      refine (markIntS_a a1 l1 c1 (β z) (k + 6) _ (H z).ws _ (by omega) H1.out.2.1 (by have := HL.out; omega) (by have := HK.out; omega)).mono ?_
      rintro e W2 ⟨rfl, m1, g1⟩
      have C2 := H1.out.2.2.2.keptV H1.out.2.1 g1 (by decide)
      have H2 : Hid (OwnI W2 (β z) (.slice a1 l1 c1) (marksI (k + 6) l1) ∧ W1.grownBy W2 (Value.slice a1 l1 c1).ownBlock ∧ OwnB W2 (β z) (.slice a2 l2 c2) (H z).bs ∧ RowO W2 g 43 8 o n (fun i => if i = z then els ⟨[.int .i64 ((k : Int)), .int .i64 ((k : Int) + 1), .int .i64 ((k : Int) + 2), .int .i64 ((k : Int) + 3), .int .i64 ((k : Int) + 4), .int .i64 ((k : Int) + 5)], (H z).ws, (H z).bs, []⟩ a1 a2 c1 c2 else F i)) := ⟨m1, g1, H1.out.2.2.1.kept g1 (ne_typesE H1.out.2.2.1 H1.out.2.1 (by decide)), C2⟩
      have t6 : W2.cell? ⟨g, o + z * 8 + 7, none⟩ = some (.slice a2 l2 c2) := by have h9 := C2.cell hlt (j := 6 + 1) (by decide); have := HL.out.2.1; simpa [this] using h9
      obtain ⟨k5, hk5⟩ : ∃ k5 : Nat, (k5 : Int) = ((k + 6 : Nat) : Int) + (l1 : Int) := ⟨k + 6 + l1, by omega⟩
      rw [← hk5]
      have HK5 : Hid (k5 = k + 6 + l1) := by show _ = _; omega
      clear m1 g1 C2 t5 hk5
      go_wp2_with fail
      refine (markBoolS_from a2 l2 c2 (β z) k5 (H z).bs _ H2.out.2.2.1 (by have := HL.out; omega) (by have := HK.out; have := HK5.out; have := HL.out; omega)).mono ?_
      rintro e W3 ⟨rfl, m2, g2⟩
      have C3 := H2.out.2.2.2.keptV H2.out.2.2.1 g2 (by decide)
      obtain ⟨k6, hk6⟩ : ∃ k6 : Nat, (k6 : Int) = (k5 : Int) + (l2 : Int) := ⟨k5 + l2, by omega⟩
      rw [← hk6]
      have HK6 : Hid (k6 = k + 6 + l1 + l2 ∧ k6 = msDn s f (z + 1)) := by
        have e1 := HK5.out
        have e2 := HK.out.1
        have e3 := HL.out
        refine ⟨by omega, ?_⟩
        simp only [msDn, ctDn]
        omega
      have H3 : Hid ((∃ F', RowO (setL W3 g (o + z * 8 + (6 + 2)) []) g 43 8 o n F' ∧ InE (setL W3 g (o + z * 8 + (6 + 2)) []) base β F' (fun j => dnE (if j = z then mkDn k (H z) else H j)) n ∧ ∀ j, j < n → ∀ k, Ob (F' j) k ↔ Ob (F0 j) k) ∧ Below base w (setL W3 g (o + z * 8 + (6 + 2)) []) ∧ Out w (setL W3 g (o + z * 8 + (6 + 2)) []) g (fun k => ∃ j, j < n ∧ Ob (F0 j) k)) := by
        have f1 := HF.out
        have el := HL.out
        have ek : k6 = k + 6 + (H z).ws.length + (H z).bs.length := by have := HK6.out.1; omega
        have r9 := mark_elB (W1 := W1) (W2 := W2) (W3 := W3) (G := fun k => dnE (H k)) (p' := [.int .i64 ((k : Int)), .int .i64 ((k : Int) + 1), .int .i64 ((k : Int) + 2), .int .i64 ((k : Int) + 3), .int .i64 ((k : Int) + 4), .int .i64 ((k : Int) + 5)]) (q' := []) (ws' := marksI (k + 6) (H z).ws.length) (bs' := marksB (k + 6 + (H z).ws.length) (H z).bs.length) (S := 8) (by decide) (by decide) f1.1 hbg f1.2.1 hlt f1.2.2.1 (by show OwnI _ _ (.slice _ (H z).ws.length _) _; rw [← el.1]; exact f1.2.2.2.1) (by show OwnB _ _ (.slice _ (H z).bs.length _) _; rw [← el.2.1]; exact f1.2.2.2.2.1) (by show ∀ k, (Value.slice a1 (H z).ws.length c1).ownBlock = some k → _; rw [← el.1]; exact f1.2.2.2.2.2.1) (by show ∀ k, (Value.slice a2 (H z).bs.length c2).ownBlock = some k → _; rw [← el.2.1]; exact f1.2.2.2.2.2.2.1) (by simp [dnE]) (by simp [dnE]) (by simp [dnE]) (by simp [dnE, marksI_length]) (by simp [dnE, marksB_length]) H1.out.1 (by show OwnI _ _ (.slice _ (H z).ws.length _) _; rw [← el.1]; exact H2.out.1) (by show W1.grownBy W2 (Value.slice a1 (H z).ws.length c1).ownBlock; rw [← el.1]; exact H2.out.2.1) (by show OwnB _ _ (.slice _ (H z).bs.length _) _; rw [← el.1, ← el.2.1, ← HK5.out]; exact m2) (by show W2.grownBy W3 (Value.slice a2 (H z).bs.length c2).ownBlock; rw [← el.2.1]; exact g2)
        have hm := HH.out.2.2.2
        have hobz : ∀ y, Ob (F z) y ↔ (Value.slice a1 (H z).ws.length c1).ownBlock = some y ∨ (Value.slice a2 (H z).bs.length c2).ownBlock = some y := fun y => by
          rw [f1.2.2.1]
          exact Ob_els (E := dnE (H z)) (by simp [dnE, Value.ownBlock]) (by simp [dnE, Value.ownBlock])
        refine ⟨?_, f1.2.2.2.2.2.2.2.1.trans r9.2.1, f1.2.2.2.2.2.2.2.2.1.trans r9.2.2 (fun y hy => ⟨z, hlt, (f1.2.2.2.2.2.2.2.2.2 z hlt y).1 ((hobz y).2 hy)⟩)⟩
        obtain ⟨q1, q2⟩ := r9.1
        refine ⟨_, q1, q2.congr (fun _ _ => rfl) (fun j hj => ?_), fun j hj y => ?_⟩
        rotate_left
        · by_cases e : j = z
          · subst e
            simp only [if_pos]
            rw [← f1.2.2.2.2.2.2.2.2.2 j hj y, hobz y]
            have h9 := Ob_els (E := ⟨[.int .i64 ((k : Int)), .int .i64 ((k : Int) + 1), .int .i64 ((k : Int) + 2), .int .i64 ((k : Int) + 3), .int .i64 ((k : Int) + 4), .int .i64 ((k : Int) + 5)], marksI (k + 6) (H j).ws.length, marksB (k + 6 + (H j).ws.length) (H j).bs.length, []⟩) (a1 := a1) (a2 := a2) (c1 := c1) (c2 := c2) (k := y) (by simp [Value.ownBlock]) (by simp [Value.ownBlock])
            simp only [marksI_length, marksB_length] at h9
            exact h9
          · simp only [if_neg e]
            exact f1.2.2.2.2.2.2.2.2.2 j hj y
        by_cases e : j = z
        · subst e
          simp only [if_pos]
          simp [dnE, mkDn, ek]
          try omega
        · simp only [if_neg e]
      clear m2 g2 C3 t6 H1 H2 HF hk6
      go_wp2
      go_roundw
      case rel =>
        obtain ⟨⟨F', q1, q2, q5⟩, q3, q4⟩ := H3.out
        exact ⟨z + 1, F', by omega, by go_num, (by have := HK6.out.2; congr 1; omega), q1, q2.congr (fun _ _ => rfl) (fun j hj => by have e8 := HHH.out.2; have e7 := HK.out.1; by_cases e : j = z; (subst e; simp [e8, e7]); (simp only [if_neg e]; rw [HHH.out.1]; simp only; by_cases e6 : j < z; (rw [if_pos e6, if_pos (by omega)]); (rw [if_neg e6, if_neg (by omega)]))), q3, q4, q5⟩
      case measure => simp [intOf]; omega
    · have hi : ¬ (z : Int) < (n : Int) := by omega
      have e9 : z = n := by omega
      subst e9
      have HX : Hid ((∃ F', RowO wr g 43 8 o z F' ∧ InE wr base β F' (fun k => dnE (mkDn (msDn s f k) (f k))) z ∧ ∀ j, j < z → ∀ k, Ob (F' j) k ↔ Ob (F0 j) k) ∧ Below base w wr ∧ Out w wr g (fun k => ∃ j, j < z ∧ Ob (F0 j) k)) := ⟨⟨F, hC, hI.congr (fun _ _ => rfl) (fun k hk => by simp [hk]), hob⟩, hbl, hout⟩
      clear hC hI hbl hout hob
      go_wp2
      go_ret
      exact ⟨rfl, HX.out.1, HX.out.2.1, HX.out.2.2⟩
theorem markDn_nil (a : Option Addr) (c s : Nat) (w : World) : Calls Tryz.prog 21 #[.slice a 0 c, .int .i64 (s : Int)] w fun e w' => e = .returned (.int .i64 (s : Int)) ∧ w' = w := by
  go_enter Tryz.func21, Tryz.ntmps21
  go_wp2
  go_loopw [1, 5] (fun kv i wr => i = .int .i64 0 ∧ kv = .int .i64 (s : Int) ∧ wr = w) (fun _ _ _ => 0)
  case atStart => exact ⟨rfl, rfl, (by first | rfl | trivial)⟩
  case round =>
    obtain ⟨rfl, rfl, hwr⟩ := hrel
    have hwr' := hwr.symm
    clear hwr
    subst hwr'
    go_wp2
    go_ret
    exact ⟨rfl, rfl⟩
set_option maxRecDepth 20000 in
set_option maxHeartbeats 4000000 in
theorem heldDn_any (a : Option Addr) (n c s : Nat) (f : Nat → Dn) (w : World) (h : SlL w a 8 n (fun k => dnE (mkDn (msDn s f k) (f k)))) (hs : s + 6 * n + tlDn f n ≤ 8999000) (hG : SmDn n f) :
    Calls Tryz.prog 24 #[.slice a n c, .int .i64 (s : Int)] w fun e w' => e = .returned (.int .i64 (msDn s f n : Int)) ∧ w' = w := by
  have HH : Hid (SlL w a 8 n (fun k => dnE (mkDn (msDn s f k) (f k))) ∧ SmDn n f) := ⟨h, hG⟩
  have hn : n ≤ 1048600 := by unfold SmDn at hG; omega
  clear h hG
  go_enter Tryz.func24, Tryz.ntmps24
  go_wp2
  go_loopw [1, 5] (fun kv i wr => ∃ z : Nat, z ≤ n ∧ i = .int .i64 z ∧ kv = .int .i64 (msDn s f z : Int) ∧ wr = w) (fun _ i _ => n - (intOf i).toNat)
  case atStart => exact ⟨0, Nat.zero_le _, rfl, rfl, (by first | rfl | trivial)⟩
  case round =>
    obtain ⟨z, hz, rfl, rfl, hwr⟩ := hrel
    have hwr' := hwr.symm
    clear hwr
    subst hwr'
    by_cases hlt : z < n
    · have hi : (z : Int) < (n : Int) := by omega
      have hbd := HH.out.2.at hlt
      have hms := hbd.2.2.2 s hs
      obtain ⟨k, hk⟩ : ∃ k, k = msDn s f z := ⟨_, rfl⟩
      obtain ⟨g, o, a1, a2, c1, c2, ha, hg, hcell, s1, s2⟩ := HH.out.1.at hlt
      subst ha
      simp only [dnE, mkDn, marksI_length, marksB_length] at hcell s1 s2
      obtain ⟨l1, hl1⟩ : ∃ l1, l1 = (f z).ws.length := ⟨_, rfl⟩
      obtain ⟨l2, hl2⟩ : ∃ l2, l2 = (f z).bs.length := ⟨_, rfl⟩
      simp only [els, marksI_length, marksB_length, ← hk, ← hl1, ← hl2] at hcell
      rw [← hk, ← hl1] at s1
      rw [← hk, ← hl1, ← hl2] at s2
      rw [← hk] at hms ⊢
      obtain ⟨k5, hk5⟩ : ∃ k5 : Nat, k5 = k + 6 + l1 := ⟨_, rfl⟩
      rw [← hk5] at s2
      obtain ⟨k6, hk6⟩ : ∃ k6 : Nat, k6 = k5 + l2 := ⟨_, rfl⟩
      have HK : Hid (k + 6 + l1 + l2 ≤ 8999000 ∧ l1 ≤ 1048600 ∧ l2 ≤ 1048600 ∧ k5 = k + 6 + l1 ∧ k6 = k5 + l2 ∧ k6 = msDn s f (z + 1) ∧ SlI w a1 (marksI (k + 6) l1) ∧ SlB w a2 (marksB k5 l2)) := ⟨by omega, by omega, by omega, hk5, hk6, by simp only [msDn, ctDn]; omega, s1, s2⟩
      have e0 : w.cell? ⟨g, o + z * 8, none⟩ = some (.int .i64 ((k : Int))) := by have h9 := hcell 0 (by decide); simpa using h9
      have e1 : w.cell? ⟨g, o + z * 8 + 1, none⟩ = some (.int .i64 ((k : Int) + 1)) := by have h9 := hcell 1 (by decide); simpa using h9
      have e2 : w.cell? ⟨g, o + z * 8 + 2, none⟩ = some (.int .i64 ((k : Int) + 2)) := by have h9 := hcell 2 (by decide); simpa using h9
      have e3 : w.cell? ⟨g, o + z * 8 + 3, none⟩ = some (.int .i64 ((k : Int) + 3)) := by have h9 := hcell 3 (by decide); simpa using h9
      have e4 : w.cell? ⟨g, o + z * 8 + 4, none⟩ = some (.int .i64 ((k : Int) + 4)) := by have h9 := hcell 4 (by decide); simpa using h9
      have e5 : w.cell? ⟨g, o + z * 8 + 5, none⟩ = some (.int .i64 ((k : Int) + 5)) := by have h9 := hcell 5 (by decide); simpa using h9
      have e6 : w.cell? ⟨g, o + z * 8 + 6, none⟩ = some (.slice a1 l1 c1) := by have h9 := hcell 6 (by decide); simpa using h9
      have e7 : w.cell? ⟨g, o + z * 8 + 7, none⟩ = some (.slice a2 l2 c2) := by have h9 := hcell 7 (by decide); simpa using h9
      have v0 : IntKind.i64.wrap ((k : Int) + 1) = (k : Int) + 1 := by have := HK.out; rw [IntKind.wrap_i64]; omega
      have v1 : IntKind.i64.wrap ((k : Int) + 1 + 1) = (k : Int) + 2 := by have := HK.out; rw [IntKind.wrap_i64]; omega
      have v2 : IntKind.i64.wrap ((k : Int) + 2 + 1) = (k : Int) + 3 := by have := HK.out; rw [IntKind.wrap_i64]; omega
      have v3 : IntKind.i64.wrap ((k : Int) + 3 + 1) = (k : Int) + 4 := by have := HK.out; rw [IntKind.wrap_i64]; omega
      have v4 : IntKind.i64.wrap ((k : Int) + 4 + 1) = (k : Int) + 5 := by have := HK.out; rw [IntKind.wrap_i64]; omega
      have v5 : IntKind.i64.wrap ((k : Int) + 5 + 1) = (k : Int) + 6 := by have := HK.out; rw [IntKind.wrap_i64]; omega
      clear hbd hms hk hl1 hl2 hcell s1 s2 hk5 hk6 hg
      go_wp2_with fail
      refine (heldIntS_a a1 l1 c1 (k + 6) _ _ (by omega) HK.out.2.2.2.2.2.2.1 (by have := HK.out; omega) (by have := HK.out; omega)).mono ?_
      rintro e w2 ⟨rfl, hw2⟩
      subst hw2
      have x5 : ((k + 6 : Nat) : Int) + (l1 : Int) = (k5 : Int) := by have := HK.out; omega
      rw [x5]
      have y5 : ¬ (k5 : Int) < 0 := by omega
      clear x5
      go_wp2_with fail
      refine (heldBoolS_from a2 l2 c2 k5 _ HK.out.2.2.2.2.2.2.2 (by have := HK.out; omega) (by have := HK.out; omega)).mono ?_
      rintro e w3 ⟨rfl, hw3⟩
      subst hw3
      have x6 : (k5 : Int) + (l2 : Int) = (k6 : Int) := by have := HK.out; omega
      rw [x6]
      have y6 : ¬ (k6 : Int) < 0 := by omega
      clear x6
      go_wp2
      go_roundw
      case rel => exact ⟨z + 1, by omega, by go_num, (by have := HK.out; congr 1; omega), (by first | rfl | trivial)⟩
      case measure => simp [intOf]; omega
    · have hi : ¬ (z : Int) < (n : Int) := by omega
      have e9 : z = n := by omega
      subst e9
      go_wp2
      go_ret
      exact ⟨rfl, rfl⟩
theorem markOd_L (a : Option Addr) (n c base hi s : Nat) (f : Nat → Od) (w : World) (h : TopL w base hi 83 8 (.slice a n c) n (fun k => odE (f k))) (hs : s + 6 * n + tlOd f n ≤ 8999000) (hG : SmOd n f) :
    Calls Tryz.prog 20 #[.slice a n c, .int .i64 (s : Int)] w fun e w' => e = .returned (.int .i64 (msOd s f n : Int)) ∧ TopL w' base hi 83 8 (.slice a n c) n (fun k => odE (mkOd (msOd s f k) (f k))) ∧ Below base w w' ∧ Keep hi w w' := by
  obtain ⟨F0, β, hO, hI, hβ, hv0⟩ := h
  by_cases h0 : n = 0
  · subst h0
    refine (markOd_nil a c s w).mono ?_
    rintro e w' ⟨rfl, rfl⟩
    exact ⟨rfl, ⟨F0, β, hO, hI.congr (fun _ _ => rfl) (fun k hk => by omega), hβ, hv0⟩, Below.refl _ _, Nat.le_refl _, fun _ _ _ => rfl⟩
  · rcases hO with ⟨h9, _⟩ | ⟨g, o, c', hv, hbg, hR⟩
    · exact absurd h9 h0
    · simp only [Value.slice.injEq, true_and] at hv
      obtain ⟨rfl, rfl⟩ := hv
      have hgh := hv0 g o n c rfl (by omega)
      refine (markOd_ne g o n c base s f F0 β w hR hbg hI hs hG).mono ?_
      rintro e w' ⟨rfl, ⟨F', q1, q2, q5⟩, q3, q4⟩
      refine ⟨rfl, ⟨F', β, .inr ⟨g, o, c, rfl, hbg, q1⟩, q2, hβ, hv0⟩, q3, q4.1, fun k hk hl => q4.2 k hl (by omega) ?_⟩
      rintro ⟨j, hj, ho⟩
      have := obT hI hj ho
      omega
theorem markDn_L (a : Option Addr) (n c base hi s : Nat) (f : Nat → Dn) (w : World) (h : TopL w base hi 43 8 (.slice a n c) n (fun k => dnE (f k))) (hs : s + 6 * n + tlDn f n ≤ 8999000) (hG : SmDn n f) :
    Calls Tryz.prog 21 #[.slice a n c, .int .i64 (s : Int)] w fun e w' => e = .returned (.int .i64 (msDn s f n : Int)) ∧ TopL w' base hi 43 8 (.slice a n c) n (fun k => dnE (mkDn (msDn s f k) (f k))) ∧ Below base w w' ∧ Keep hi w w' := by
  obtain ⟨F0, β, hO, hI, hβ, hv0⟩ := h
  by_cases h0 : n = 0
  · subst h0
    refine (markDn_nil a c s w).mono ?_
    rintro e w' ⟨rfl, rfl⟩
    exact ⟨rfl, ⟨F0, β, hO, hI.congr (fun _ _ => rfl) (fun k hk => by omega), hβ, hv0⟩, Below.refl _ _, Nat.le_refl _, fun _ _ _ => rfl⟩
  · rcases hO with ⟨h9, _⟩ | ⟨g, o, c', hv, hbg, hR⟩
    · exact absurd h9 h0
    · simp only [Value.slice.injEq, true_and] at hv
      obtain ⟨rfl, rfl⟩ := hv
      have hgh := hv0 g o n c rfl (by omega)
      refine (markDn_ne g o n c base s f F0 β w hR hbg hI hs hG).mono ?_
      rintro e w' ⟨rfl, ⟨F', q1, q2, q5⟩, q3, q4⟩
      refine ⟨rfl, ⟨F', β, .inr ⟨g, o, c, rfl, hbg, q1⟩, q2, hβ, hv0⟩, q3, q4.1, fun k hk hl => q4.2 k hl (by omega) ?_⟩
      rintro ⟨j, hj, ho⟩
      have := obT hI hj ho
      omega
end Go.Proofs.YtmhdneenjoelfaaGreat
namespace Go.Proofs.YtmhdneenjoelfaaGreat
open Go.RowKit
set_option linter.unusedVariables false
abbrev rp (kd fl pl nn : Int) (a1 a2 : Option Addr) (l1 l2 c1 c2 : Nat) : Value := .agg #[.int .i64 kd, .int .i64 fl, .int .i64 pl, .int .i64 nn, .slice a1 l1 c1, .slice a2 l2 c2]
theorem belp_set6 {B : Nat} {W w : World} {g : Nat} {v0 v1 v2 v3 v4 v5 : Value} (hb : Below B W w) (hg : B ≤ g) :
    Below B W ((((((w.setCell ⟨g, 0, none⟩ v0).setCell ⟨g, 1, none⟩ v1).setCell ⟨g, 2, none⟩ v2).setCell ⟨g, 3, none⟩ v3).setCell ⟨g, 4, none⟩ v4).setCell ⟨g, 5, none⟩ v5) :=
  (((((hb.setCell (p := ⟨g, 0, none⟩) hg _).setCell (p := ⟨g, 1, none⟩) hg _).setCell (p := ⟨g, 2, none⟩) hg _).setCell (p := ⟨g, 3, none⟩) hg _).setCell (p := ⟨g, 4, none⟩) hg _).setCell (p := ⟨g, 5, none⟩) hg _
set_option maxHeartbeats 2000000 in
theorem eqResp_true (kd fl pl nn : Int) (a1 a2 a1' a2' : Option Addr) (l1 l2 l1' l2' c1 c2 c1' c2' : Nat) (ws : List Int) (bs : List Bool) (w : World) (h1 : l1 = ws.length) (h2 : l2 = bs.length) (h1' : l1' = ws.length) (h2' : l2' = bs.length) (s1 : SlI w a1 ws) (s2 : SlB w a2 bs) (s1' : SlI w a1' ws) (s2' : SlB w a2' bs) (hl1 : ws.length ≤ 2000000) (hl2 : bs.length ≤ 2000000) :
    Calls Tryz.prog 28 #[.agg #[.int .i64 kd, .int .i64 fl, .int .i64 pl, .int .i64 nn, .slice a1 l1 c1, .slice a2 l2 c2], .agg #[.int .i64 kd, .int .i64 fl, .int .i64 pl, .int .i64 nn, .slice a1' l1' c1', .slice a2' l2' c2']] w fun e w' => e = .returned (.bool true) ∧ Below w.heap.size w w' := by
  obtain ⟨W0, hW0'⟩ : ∃ W0, W0 = (w.alloc (.cells #[.int .i64 kd, .int .i64 fl, .int .i64 pl, .int .i64 nn, .slice a1 l1 c1, .slice a2 l2 c2] 37)).alloc (.cells #[.int .i64 kd, .int .i64 fl, .int .i64 pl, .int .i64 nn, .slice a1' l1' c1', .slice a2' l2' c2'] 37) := ⟨_, rfl⟩
  have hW0 : Hid (W0 = _) := hW0'
  have B0 : Below w.heap.size w W0 := by rw [hW0']; exact bel_next (bel_alloc w _) (bel_alloc _ _)
  have X0 : Blk W0 w.heap.size 37 #[.int .i64 kd, .int .i64 fl, .int .i64 pl, .int .i64 nn, .slice a1 l1 c1, .slice a2 l2 c2] := by rw [hW0']; exact (Blk.new w _ _).below (bel_alloc _ _)
  have Y0 : Blk W0 (w.heap.size + 1) 37 #[.int .i64 kd, .int .i64 fl, .int .i64 pl, .int .i64 nn, .slice a1' l1' c1', .slice a2' l2' c2'] := by
    rw [hW0']; have := Blk.new (w.alloc (.cells #[.int .i64 kd, .int .i64 fl, .int .i64 pl, .int .i64 nn, .slice a1 l1 c1, .slice a2 l2 c2] 37)) #[.int .i64 kd, .int .i64 fl, .int .i64 pl, .int .i64 nn, .slice a1' l1' c1', .slice a2' l2' c2'] 37; simpa using this
  have HH : Hid (l1 = ws.length ∧ l2 = bs.length ∧ l1' = ws.length ∧ l2' = bs.length ∧ SlI W0 a1 ws ∧ SlB W0 a2 bs ∧ SlI W0 a1' ws ∧ SlB W0 a2' bs) := ⟨h1, h2, h1', h2', s1.below B0, s2.below B0, s1'.below B0, s2'.below B0⟩
  obtain ⟨x0, x1, x2, x3, x4, x5⟩ := X0.six
  obtain ⟨y0, y1, y2, y3, y4, y5⟩ := Y0.six
  clear h1 h2 h1' h2' s1 s2 s1' s2' hW0'
  go_enter Tryz.func28, Tryz.ntmps28
  go_upto_region 1 with fail
  rw [← hW0.out]
  go_wp2_with fail
  refine (eqIntS_ok _ _ _ _ _ _ ws _ HH.out.1 HH.out.2.2.1 HH.out.2.2.2.2.1 HH.out.2.2.2.2.2.2.1 hl1).mono ?_
  rintro e w1 ⟨rfl, b1'⟩
  have b1 := bel_next B0 b1'
  have X1 := X0.below b1'
  have Y1 := Y0.below b1'
  have S1 : Hid (SlB w1 a2 bs ∧ SlB w1 a2' bs) := ⟨HH.out.2.2.2.2.2.1.below b1', HH.out.2.2.2.2.2.2.2.below b1'⟩
  clear x0 x1 x2 x3 x4 x5 y0 y1 y2 y3 y4 y5 X0 Y0 B0 b1'
  have x5 := X1.cell 5 rfl
  have y5 := Y1.cell 5 rfl
  go_wp2_with fail
  refine (eqBoolS_ok _ _ _ _ _ _ bs _ HH.out.2.1 HH.out.2.2.2.1 S1.out.1 S1.out.2 (by omega)).mono ?_
  rintro e w2 ⟨rfl, b2'⟩
  have b2 := bel_next b1 b2'
  go_wp2
  go_ret
  exact ⟨rfl, b2⟩
end Go.Proofs.YtmhdneenjoelfaaGreat
namespace Go.Proofs.YtmhdneenjoelfaaGreat
open Go.RowKit Go.Joins
set_option linter.unusedVariables false
set_option linter.unusedSimpArgs false
abbrev SlOd (w : World) (a : Option Addr) (n : Nat) (f : Nat → Od) : Prop := SlL w a 8 n (fun k => odE (f k))
theorem SlOd.eight {w : World} {a : Option Addr} {n : Nat} {f : Nat → Od} (h : SlL w a 8 n (fun k => odE (f k))) {k : Nat} (hk : k < n) : ∃ b off a1 a2 l1 l2 c1 c2, a = some ⟨b, off, none⟩ ∧ b < w.heap.size ∧ l1 = (f k).ws.length ∧ l2 = (f k).bs.length ∧
    (w.cell? ⟨b, off + k * 8, none⟩ = some (.int .i64 (f k).nu) ∧ w.cell? ⟨b, off + k * 8 + 1, none⟩ = some (.int .i64 (f k).un) ∧ w.cell? ⟨b, off + k * 8 + 2, none⟩ = some (.int .i64 (f k).kd) ∧ w.cell? ⟨b, off + k * 8 + 3, none⟩ = some (.int .i64 (f k).pl) ∧ w.cell? ⟨b, off + k * 8 + 4, none⟩ = some (.int .i64 (f k).n) ∧ w.cell? ⟨b, off + k * 8 + 5, none⟩ = some (.slice a1 l1 c1) ∧ w.cell? ⟨b, off + k * 8 + 6, none⟩ = some (.slice a2 l2 c2) ∧ w.cell? ⟨b, off + k * 8 + 7, none⟩ = some (.int .i64 (f k).wa)) ∧ SlI w a1 (f k).ws ∧ SlB w a2 (f k).bs := by
  obtain ⟨b, off, a1, a2, c1, c2, ha, hb, hc, s1, s2⟩ := SlL.at h hk
  exact ⟨b, off, a1, a2, _, _, c1, c2, ha, hb, rfl, rfl, ⟨hc 0 (by decide), hc 1 (by decide), hc 2 (by decide), hc 3 (by decide), hc 4 (by decide), hc 5 (by decide), hc 6 (by decide), hc 7 (by decide)⟩, s1, s2⟩
set_option maxRecDepth 20000 in
set_option maxHeartbeats 2000000 in
theorem eqOrder_true (C : Od) (a1 a2 a1' a2' : Option Addr) (l1 l2 c1 c2 c1' c2' : Nat) (w : World) (h1 : l1 = C.ws.length) (h2 : l2 = C.bs.length) (s1 : SlI w a1 C.ws) (s2 : SlB w a2 C.bs) (s1' : SlI w a1' C.ws) (s2' : SlB w a2' C.bs) (hl1 : C.ws.length ≤ 2000000) (hl2 : C.bs.length ≤ 2000000) :
    Calls Tryz.prog 59 #[.agg (odc C a1 a2 l1 l2 c1 c2), .agg (odc C a1' a2' l1 l2 c1' c2')] w fun e w' => e = .returned (.bool true) ∧ Below w.heap.size w w' := by
  have B0 : Below w.heap.size w ((w.alloc (.cells (odc C a1 a2 l1 l2 c1 c2) 83)).alloc (.cells (odc C a1' a2' l1 l2 c1' c2') 83)) := bel_nx (bel_alloc _ _) (bel_alloc _ _)
  have HS : Hid (SlI w a1 C.ws ∧ SlB w a2 C.bs ∧ SlI w a1' C.ws ∧ SlB w a2' C.bs ∧ l1 = C.ws.length ∧ l2 = C.bs.length) := ⟨s1, s2, s1', s2', h1, h2⟩
  clear s1 s2 s1' s2' h1 h2
  go_enter Tryz.func59, Tryz.ntmps59
  go_wp2_with fail
  refine (eqReq_true C.kd C.pl C.n C.wa a1 a2 a1' a2' l1 l2 l1 l2 c1 c2 c1' c2' C.ws C.bs _ HS.out.2.2.2.2.1 HS.out.2.2.2.2.2 HS.out.2.2.2.2.1 HS.out.2.2.2.2.2 (HS.out.1.below B0) (HS.out.2.1.below B0) (HS.out.2.2.1.below B0) (HS.out.2.2.2.1.below B0) (by omega) (by omega)).mono ?_
  rintro e w1 ⟨rfl, b1⟩
  have B1 := bel_nx B0 b1
  clear B0 b1
  go_wp2
  go_ret
  exact ⟨rfl, B1⟩
def BdOd (n : Nat) (f : Nat → Od) : Prop := n ≤ 2000000 ∧ ∀ k, k < n → (f k).ws.length ≤ 2000000 ∧ (f k).bs.length ≤ 2000000
set_option maxRecDepth 20000 in
set_option maxHeartbeats 2000000 in
theorem eqOrderS_true (a a' : Option Addr) (n c c' : Nat) (f : Nat → Od) (w : World) (h : SlOd w a n f) (h' : SlOd w a' n f) (hb : BdOd n f) :
    Calls Tryz.prog 17 #[.slice a n c, .slice a' n c'] w fun e w' => e = .returned (.bool true) ∧ Below w.heap.size w w' := by
  have HH : Hid (SlOd w a n f ∧ SlOd w a' n f ∧ BdOd n f) := ⟨h, h', hb⟩
  have hn8 : n ≤ 2000000 := hb.1
  clear h h' hb
  go_enter Tryz.func17, Tryz.ntmps17
  go_wp2
  go_loopw [5] (fun i wr => ∃ z : Nat, z ≤ n ∧ i = .int .i64 z ∧ Below w.heap.size w wr) (fun i _ => n - (intOf i).toNat)
  case atStart => exact ⟨0, Nat.zero_le _, rfl, Below.refl _ _⟩
  case round =>
    obtain ⟨z, hz, rfl, hbl⟩ := hrel
    by_cases hlt : z < n
    · have hi : (z : Int) < (n : Int) := by omega
      obtain ⟨g, off, a1, a2, l1, l2, c1, c2, rfl, hb0, hl1, hl2, ⟨d0, d1, d2, d3, d4, d5, d6, d7⟩, s1, s2⟩ := SlOd.eight (HH.out.1.below hbl) hlt
      obtain ⟨g', off', a1', a2', l1', l2', c1', c2', rfl, hb0', hl1', hl2', ⟨e0, e1, e2, e3, e4, e5, e6, e7⟩, s1', s2'⟩ := SlOd.eight (HH.out.2.1.below hbl) hlt
      obtain ⟨C, hC⟩ : ∃ C, C = f z := ⟨_, rfl⟩
      obtain rfl : l1' = l1 := by omega
      obtain rfl : l2' = l2 := by omega
      rw [← hC] at d0 d1 d2 d3 d4 d7 e0 e1 e2 e3 e4 e7 s1 s2 s1' s2' hl1 hl2
      have HB : Hid (C.ws.length ≤ 2000000 ∧ C.bs.length ≤ 2000000 ∧ SlI wr a1 C.ws ∧ SlB wr a2 C.bs ∧ SlI wr a1' C.ws ∧ SlB wr a2' C.bs ∧ l1' = C.ws.length ∧ l2' = C.bs.length) := ⟨by rw [hC]; exact (HH.out.2.2.2 z hlt).1, by rw [hC]; exact (HH.out.2.2.2 z hlt).2, s1, s2, s1', s2', hl1, hl2⟩
      clear s1 s2 s1' s2' hC hl1 hl2 hl1' hl2' hb0 hb0'
      go_wp2_with fail
      go_region_with (go_at_call 59; refine (eqOrder_true C a1 a2 a1' a2' l1' l2' c1 c2 c1' c2' _ HB.out.2.2.2.2.2.2.1 HB.out.2.2.2.2.2.2.2 (HB.out.2.2.1.below (by first | exact Below.refl _ _ | exact (Below.refl _ _).drew | exact (Below.refl _ _).drew.drew)) (HB.out.2.2.2.1.below (by first | exact Below.refl _ _ | exact (Below.refl _ _).drew | exact (Below.refl _ _).drew.drew)) (HB.out.2.2.2.2.1.below (by first | exact Below.refl _ _ | exact (Below.refl _ _).drew | exact (Below.refl _ _).drew.drew)) (HB.out.2.2.2.2.2.1.below (by first | exact Below.refl _ _ | exact (Below.refl _ _).drew | exact (Below.refl _ _).drew.drew)) HB.out.1 HB.out.2.1).mono ?_; rintro e w1 ⟨rfl, b1'⟩; have b1 : Below wr.heap.size wr w1 := bel_nx (by first | exact Below.refl _ _ | exact (Below.refl _ _).drew | exact (Below.refl _ _).drew.drew) b1'; clear b1')
      all_goals (
        have B1 := bel_nx hbl b1
        clear hbl b1 d0 d1 d2 d3 d4 d5 d6 d7 e0 e1 e2 e3 e4 e5 e6 e7
        go_wp2
        go_roundw
        case rel => exact ⟨z + 1, by omega, by go_num, B1⟩
        case measure => simp [intOf]; omega)
    · have hi : ¬ (z : Int) < (n : Int) := by omega
      go_wp2
      go_ret
      exact ⟨rfl, hbl⟩
abbrev SlDn (w : World) (a : Option Addr) (n : Nat) (f : Nat → Dn) : Prop := SlL w a 8 n (fun k => dnE (f k))
theorem SlDn.eight {w : World} {a : Option Addr} {n : Nat} {f : Nat → Dn} (h : SlL w a 8 n (fun k => dnE (f k))) {k : Nat} (hk : k < n) : ∃ b off a1 a2 l1 l2 c1 c2, a = some ⟨b, off, none⟩ ∧ b < w.heap.size ∧ l1 = (f k).ws.length ∧ l2 = (f k).bs.length ∧
    (w.cell? ⟨b, off + k * 8, none⟩ = some (.int .i64 (f k).id) ∧ w.cell? ⟨b, off + k * 8 + 1, none⟩ = some (.int .i64 (f k).pa) ∧ w.cell? ⟨b, off + k * 8 + 2, none⟩ = some (.int .i64 (f k).kd) ∧ w.cell? ⟨b, off + k * 8 + 3, none⟩ = some (.int .i64 (f k).fl) ∧ w.cell? ⟨b, off + k * 8 + 4, none⟩ = some (.int .i64 (f k).pl) ∧ w.cell? ⟨b, off + k * 8 + 5, none⟩ = some (.int .i64 (f k).n) ∧ w.cell? ⟨b, off + k * 8 + 6, none⟩ = some (.slice a1 l1 c1) ∧ w.cell? ⟨b, off + k * 8 + 7, none⟩ = some (.slice a2 l2 c2)) ∧ SlI w a1 (f k).ws ∧ SlB w a2 (f k).bs := by
  obtain ⟨b, off, a1, a2, c1, c2, ha, hb, hc, s1, s2⟩ := SlL.at h hk
  exact ⟨b, off, a1, a2, _, _, c1, c2, ha, hb, rfl, rfl, ⟨hc 0 (by decide), hc 1 (by decide), hc 2 (by decide), hc 3 (by decide), hc 4 (by decide), hc 5 (by decide), hc 6 (by decide), hc 7 (by decide)⟩, s1, s2⟩
set_option maxRecDepth 20000 in
set_option maxHeartbeats 2000000 in
theorem eqDone_true (C : Dn) (a1 a2 a1' a2' : Option Addr) (l1 l2 c1 c2 c1' c2' : Nat) (w : World) (h1 : l1 = C.ws.length) (h2 : l2 = C.bs.length) (s1 : SlI w a1 C.ws) (s2 : SlB w a2 C.bs) (s1' : SlI w a1' C.ws) (s2' : SlB w a2' C.bs) (hl1 : C.ws.length ≤ 2000000) (hl2 : C.bs.length ≤ 2000000) :
    Calls Tryz.prog 60 #[.agg (dnd C a1 a2 l1 l2 c1 c2), .agg (dnd C a1' a2' l1 l2 c1' c2')] w fun e w' => e = .returned (.bool true) ∧ Below w.heap.size w w' := by
  have B0 : Below w.heap.size w ((w.alloc (.cells (dnd C a1 a2 l1 l2 c1 c2) 43)).alloc (.cells (dnd C a1' a2' l1 l2 c1' c2') 43)) := bel_nx (bel_alloc _ _) (bel_alloc _ _)
  have HS : Hid (SlI w a1 C.ws ∧ SlB w a2 C.bs ∧ SlI w a1' C.ws ∧ SlB w a2' C.bs ∧ l1 = C.ws.length ∧ l2 = C.bs.length) := ⟨s1, s2, s1', s2', h1, h2⟩
  clear s1 s2 s1' s2' h1 h2
  go_enter Tryz.func60, Tryz.ntmps60
  go_wp2_with fail
  refine (eqResp_true C.kd C.fl C.pl C.n a1 a2 a1' a2' l1 l2 l1 l2 c1 c2 c1' c2' C.ws C.bs _ HS.out.2.2.2.2.1 HS.out.2.2.2.2.2 HS.out.2.2.2.2.1 HS.out.2.2.2.2.2 (HS.out.1.below B0) (HS.out.2.1.below B0) (HS.out.2.2.1.below B0) (HS.out.2.2.2.1.below B0) (by omega) (by omega)).mono ?_
  rintro e w1 ⟨rfl, b1⟩
  have B1 := bel_nx B0 b1
  clear B0 b1
  go_wp2
  go_ret
  exact ⟨rfl, B1⟩
def BdDn (n : Nat) (f : Nat → Dn) : Prop := n ≤ 2000000 ∧ ∀ k, k < n → (f k).ws.length ≤ 2000000 ∧ (f k).bs.length ≤ 2000000
set_option maxRecDepth 20000 in
set_option maxHeartbeats 2000000 in
theorem eqDoneS_true (a a' : Option Addr) (n c c' : Nat) (f : Nat → Dn) (w : World) (h : SlDn w a n f) (h' : SlDn w a' n f) (hb : BdDn n f) :
    Calls Tryz.prog 18 #[.slice a n c, .slice a' n c'] w fun e w' => e = .returned (.bool true) ∧ Below w.heap.size w w' := by
  have HH : Hid (SlDn w a n f ∧ SlDn w a' n f ∧ BdDn n f) := ⟨h, h', hb⟩
  have hn8 : n ≤ 2000000 := hb.1
  clear h h' hb
  go_enter Tryz.func18, Tryz.ntmps18
  go_wp2
  go_loopw [5] (fun i wr => ∃ z : Nat, z ≤ n ∧ i = .int .i64 z ∧ Below w.heap.size w wr) (fun i _ => n - (intOf i).toNat)
  case atStart => exact ⟨0, Nat.zero_le _, rfl, Below.refl _ _⟩
  case round =>
    obtain ⟨z, hz, rfl, hbl⟩ := hrel
    by_cases hlt : z < n
    · have hi : (z : Int) < (n : Int) := by omega
      obtain ⟨g, off, a1, a2, l1, l2, c1, c2, rfl, hb0, hl1, hl2, ⟨d0, d1, d2, d3, d4, d5, d6, d7⟩, s1, s2⟩ := SlDn.eight (HH.out.1.below hbl) hlt
      obtain ⟨g', off', a1', a2', l1', l2', c1', c2', rfl, hb0', hl1', hl2', ⟨e0, e1, e2, e3, e4, e5, e6, e7⟩, s1', s2'⟩ := SlDn.eight (HH.out.2.1.below hbl) hlt
      obtain ⟨C, hC⟩ : ∃ C, C = f z := ⟨_, rfl⟩
      obtain rfl : l1' = l1 := by omega
      obtain rfl : l2' = l2 := by omega
      rw [← hC] at d0 d1 d2 d3 d4 d5 e0 e1 e2 e3 e4 e5 s1 s2 s1' s2' hl1 hl2
      have HB : Hid (C.ws.length ≤ 2000000 ∧ C.bs.length ≤ 2000000 ∧ SlI wr a1 C.ws ∧ SlB wr a2 C.bs ∧ SlI wr a1' C.ws ∧ SlB wr a2' C.bs ∧ l1' = C.ws.length ∧ l2' = C.bs.length) := ⟨by rw [hC]; exact (HH.out.2.2.2 z hlt).1, by rw [hC]; exact (HH.out.2.2.2 z hlt).2, s1, s2, s1', s2', hl1, hl2⟩
      clear s1 s2 s1' s2' hC hl1 hl2 hl1' hl2' hb0 hb0'
      go_wp2_with fail
      go_region_with (go_at_call 60; refine (eqDone_true C a1 a2 a1' a2' l1' l2' c1 c2 c1' c2' _ HB.out.2.2.2.2.2.2.1 HB.out.2.2.2.2.2.2.2 (HB.out.2.2.1.below (by first | exact Below.refl _ _ | exact (Below.refl _ _).drew | exact (Below.refl _ _).drew.drew)) (HB.out.2.2.2.1.below (by first | exact Below.refl _ _ | exact (Below.refl _ _).drew | exact (Below.refl _ _).drew.drew)) (HB.out.2.2.2.2.1.below (by first | exact Below.refl _ _ | exact (Below.refl _ _).drew | exact (Below.refl _ _).drew.drew)) (HB.out.2.2.2.2.2.1.below (by first | exact Below.refl _ _ | exact (Below.refl _ _).drew | exact (Below.refl _ _).drew.drew)) HB.out.1 HB.out.2.1).mono ?_; rintro e w1 ⟨rfl, b1'⟩; have b1 : Below wr.heap.size wr w1 := bel_nx (by first | exact Below.refl _ _ | exact (Below.refl _ _).drew | exact (Below.refl _ _).drew.drew) b1'; clear b1')
      all_goals (
        have B1 := bel_nx hbl b1
        clear hbl b1 d0 d1 d2 d3 d4 d5 d6 d7 e0 e1 e2 e3 e4 e5 e6 e7
        go_wp2
        go_roundw
        case rel => exact ⟨z + 1, by omega, by go_num, B1⟩
        case measure => simp [intOf]; omega)
    · have hi : ¬ (z : Int) < (n : Int) := by omega
      go_wp2
      go_ret
      exact ⟨rfl, hbl⟩
end Go.Proofs.YtmhdneenjoelfaaGreat
namespace Go.Proofs.YtmhdneenjoelfaaGreat
open Go.RowKit Go.Joins
set_option linter.unusedVariables false
set_option linter.unusedSimpArgs false
abbrev rp0 : Array Value := #[.int .i64 0, .int .i64 0, .int .i64 0, .int .i64 0, .slice none 0 0, .slice none 0 0]
def RrP (w w' : World) (e : Ending) (kd fl pl nn : Int) (l1 l2 : Nat) (ws : List Int) (bs : List Bool) : Prop :=
  ∃ a1 a2 c1 c2, e = .returned (.agg (rpL kd fl pl nn a1 a2 l1 l2 c1 c2)) ∧ OwnI w' w.heap.size (.slice a1 l1 c1) ws ∧ OwnB w' w.heap.size (.slice a2 l2 c2) bs ∧ Below w.heap.size w w'
def CrP (w : World) (B : Nat) (kd fl pl nn : Int) (m1 m2 : Nat) (ws : List Int) (bs : List Bool) (wx : World) : Prop :=
  ∃ g1 g2, Blk wx B 37 (rpL kd fl pl nn (some ⟨g1, 0, none⟩) (some ⟨g2, 0, none⟩) m1 m2 m1 m2) ∧ OwnI wx w.heap.size (.slice (some ⟨g1, 0, none⟩) m1 m1) ws ∧ OwnB wx w.heap.size (.slice (some ⟨g2, 0, none⟩) m2 m2) bs ∧ Blk wx (B + 1) 37 rp0 ∧ Below w.heap.size w wx
def RespPst (w w' : World) (e : Ending) (kd fl pl nn : Int) (ws : List Int) (bs : List Bool) : Prop :=
  ∃ r1 r2 l1 l2 c1 c2, e = .returned (.agg (rpL kd fl pl nn r1 r2 l1 l2 c1 c2)) ∧ l1 = ws.length ∧ l2 = bs.length ∧ OwnI w' w.heap.size (.slice r1 l1 c1) ws ∧ OwnB w' w.heap.size (.slice r2 l2 c2) bs ∧ Below w.heap.size w w'
end Go.Proofs.YtmhdneenjoelfaaGreat
namespace Go.Proofs.YtmhdneenjoelfaaGreat
open Go.RowKit Go.Joins
set_option linter.unusedVariables false
set_option linter.unusedSimpArgs false
theorem wpList_bs {P : Program} {ops : Array Oper} {rest : List Oper} {op : Oper} {a : Act} {w w' : World} {Q : Exit → Act → World → Prop} (hgd : op.guard = none) (t : TypeId) (k : Nat) (ps : Array (Nat × Operand)) (ho : op.op = .buildSlice t k ps) (qs : Array (Nat × Value)) (hq : ps.map (fun (i, x) => (i, a.eval x)) = qs) (v : Value) (hr : (Instr.buildSlice t k qs).run P w = .ok v w')
    (h : wpList P ops Q rest (a.put op.dst v) w') : wpList P ops Q (op :: rest) a w :=
  wpList_plain hgd fun K hK => by
    unfold Oper.wp execOp
    simp only [ho, hq]
    rw [Sem.run_bind, hr]
    exact hK _ _ h
theorem run_bs_op {P : Program} {ρ : Operand → Value} {o : Oper} {u u' : World} {t : TypeId} {k : Nat} {ps : Array (Nat × Operand)} {qs : Array (Nat × Value)} {v : Value} (ho : o.op = .buildSlice t k ps) (ha : ps.map (fun (i, x) => (i, ρ x)) = qs) (hr : (Instr.buildSlice t k qs).run P u = .ok v u') : (execOp ρ o).run P u = .ok (.value v) u' := by
  unfold execOp
  simp only [ho, ha]
  rw [Sem.run_bind, hr]
  rfl
theorem run_bsD (D : Dn) (a1 a2 : Option Addr) (l1 l2 c1 c2 : Nat) (w : World) : (Instr.buildSlice 39 1 #[(0, .agg (dnd D a1 a2 l1 l2 c1 c2))]).run Tryz.prog w = .ok (.slice (some ⟨w.heap.size, 0, none⟩) 1 1) (w.alloc (.cells (dnd D a1 a2 l1 l2 c1 c2) 43)) := by kernel_rfl
theorem run_bsO (D : Od) (a1 a2 : Option Addr) (l1 l2 c1 c2 : Nat) (w : World) : (Instr.buildSlice 45 1 #[(0, .agg (odc D a1 a2 l1 l2 c1 c2))]).run Tryz.prog w = .ok (.slice (some ⟨w.heap.size, 0, none⟩) 1 1) (w.alloc (.cells (odc D a1 a2 l1 l2 c1 c2) 83)) := by kernel_rfl
theorem run_bs0D (w : World) : (Instr.buildSlice 39 0 #[]).run Tryz.prog w = .ok (.slice (some ⟨w.heap.size, 0, none⟩) 0 0) (w.alloc (.cells #[] 43)) := by kernel_rfl
theorem run_bs0O (w : World) : (Instr.buildSlice 45 0 #[]).run Tryz.prog w = .ok (.slice (some ⟨w.heap.size, 0, none⟩) 0 0) (w.alloc (.cells #[] 83)) := by kernel_rfl
theorem Tryz.infoD283 : (Tryz.prog.info? 83).map (fun i => (i.zero, i.size, i.bytes)) = some (some (.agg #[.int .i64 0, .int .i64 0, .int .i64 0, .int .i64 0, .int .i64 0, .slice none 0 0, .slice none 0 0, .int .i64 0]), 8, 96) := by kernel_rfl
theorem topL_one {w : World} {base lo : Nat} {t : TypeId} {v : Value} {vs : List Value} {E : El} (h : w.ownsRow base t 8 v 1 vs) (hl : vs.length = 8) (p : ElAt w lo w.heap.size vs E) (hlo : base ≤ lo) (hlw : lo ≤ w.heap.size) : ∃ a c, v = .slice a 1 c ∧ TopL w base w.heap.size t 8 (.slice a 1 c) 1 (fun _ => E) := by
  rcases h.2 with ⟨hv, h0⟩ | ⟨g, cap, cur, hv, hb, hh, hle, _, hs, ht⟩
  · cases h0
  · refine ⟨_, _, hv, fun _ => vs, fun k => if k = 0 then lo else w.heap.size, .inr ⟨g, 0, cap, rfl, hb, cur, hh, by rw [hs]; omega, fun k hk j hj => ?_⟩, ⟨by simpa using hlo, fun k => ?_, fun k hk => ?_⟩, by simp, fun g' o m c he h0 => ?_⟩
    · obtain rfl : k = 0 := by omega
      have hlt : j < 1 * 8 := by omega
      have e0 : 0 + 0 * 8 + j = j := by omega
      show cur[0 + 0 * 8 + j]? = vs[j]?
      rw [e0, ← ht, List.getElem?_take, if_pos hlt, Array.getElem?_toList]
    · by_cases e : k = 0
      · subst e; simpa using hlw
      · simp [e]
    · obtain rfl : k = 0 := by omega
      simpa using p
    · simp only [Value.slice.injEq, Option.some.injEq, Addr.mk.injEq] at he
      obtain ⟨⟨rfl, _, _⟩, _, _⟩ := he
      exact (Array.getElem?_eq_some_iff.1 hh).1
theorem topL_nil (w : World) (base hi : Nat) (t : TypeId) (s : Nat) (a : Option Addr) (c : Nat) (G : Nat → El) (h : base ≤ hi) : TopL w base hi t s (.slice a 0 c) 0 G := ⟨fun _ => [], fun _ => base, .inl ⟨rfl, a, c, rfl⟩, InE.start w base _ _, h, fun _ _ _ _ _ h => absurd h (Nat.lt_irrefl 0)⟩
theorem row_nil {w : World} {base g : Nat} {t : TypeId} {s : Nat} (hb : base ≤ g) (h : Blk w g t #[]) : w.ownsRow base t s (.slice (some ⟨g, 0, none⟩) 0 0) 0 [] := ⟨by simp, .inr ⟨g, 0, #[], rfl, hb, h, Nat.le_refl _, by simp, by simp, by simp⟩⟩
end Go.Proofs.YtmhdneenjoelfaaGreat
namespace Go.Proofs.YtmhdneenjoelfaaGreat
open Go.RowKit Go.Joins
set_option linter.unusedVariables false
set_option linter.unusedSimpArgs false
def tkO (x n : Int) : Int := (x + n) % 4294967296
def tkD (x y : Int) : Bool := decide ((x - y) % 4294967296 < 2147483648)
theorem inB_of {x lo hi : Int} (h : inB x lo hi = true) : lo ≤ x ∧ x ≤ hi := by unfold inB at h; exact of_decide_eq_true h
set_option maxHeartbeats 1000000 in
theorem implTickOn_in (x n : Int) (w : World) (hx : inB x 0 4294967295 = true) (hn : inB n 0 4294967295 = true) : Calls Tryz.prog 11 #[.int .i64 x, .int .i64 n] w fun e w' => e = .returned (.int .i64 (tkO x n)) ∧ w' = w := by
  have h1 := inB_of hx
  have h2 := inB_of hn
  have hw : IntKind.i64.wrap (x + n) = x + n := by rw [IntKind.wrap_i64]; omega
  have ha : bits .and .i64 (x + n) 4294967295 = tkO x n := and32 _
  have HX : Hid (inB x 0 4294967295 = true ∧ inB n 0 4294967295 = true) := ⟨hx, hn⟩
  clear hx hn h1 h2
  go_enter Tryz.func11, Tryz.ntmps11
  go_wp2_with fail
  refine (isTickL x _ true HX.out.1).mono ?_
  rintro e w1 ⟨rfl, hw1⟩; have hw1 := hw1.symm; subst hw1
  go_wp2_with fail
  refine (isTickL n _ true HX.out.2).mono ?_
  rintro e w1 ⟨rfl, hw1⟩; have hw1 := hw1.symm; subst hw1
  go_wp2
  go_ret
  exact ⟨rfl, rfl⟩
set_option maxHeartbeats 1000000 in
theorem specTickOn_in (x n : Int) (w : World) (hx : inB x 0 4294967295 = true) (hn : inB n 0 4294967295 = true) : Calls Tryz.prog 52 #[.int .i64 x, .int .i64 n] w fun e w' => e = .returned (.int .i64 (tkO x n)) ∧ w' = w := by
  have h1 := inB_of hx
  have h2 := inB_of hn
  have hw : IntKind.i64.wrap (x + n) = x + n := by rw [IntKind.wrap_i64]; omega
  have ha : bits .and .i64 (x + n) 4294967295 = tkO x n := and32 _
  have HX : Hid (inB x 0 4294967295 = true ∧ inB n 0 4294967295 = true) := ⟨hx, hn⟩
  clear hx hn h1 h2
  go_enter Tryz.func52, Tryz.ntmps52
  go_wp2_with fail
  refine (l1TickL x _ true HX.out.1).mono ?_
  rintro e w1 ⟨rfl, hw1⟩; have hw1 := hw1.symm; subst hw1
  go_wp2_with fail
  refine (l1TickL n _ true HX.out.2).mono ?_
  rintro e w1 ⟨rfl, hw1⟩; have hw1 := hw1.symm; subst hw1
  go_wp2
  go_ret
  exact ⟨rfl, rfl⟩
set_option maxHeartbeats 1000000 in
theorem implTickGap_in (x n : Int) (w : World) (hx : inB x 0 4294967295 = true) (hn : inB n 0 4294967295 = true) : Calls Tryz.prog 128 #[.int .i64 x, .int .i64 n] w fun e w' => e = .returned (.int .i64 ((n - x) % 4294967296)) ∧ w' = w := by
  have h1 := inB_of hx
  have h2 := inB_of hn
  have hw : IntKind.i64.wrap (n - x) = n - x := by rw [IntKind.wrap_i64]; omega
  have ha : bits .and .i64 (n - x) 4294967295 = (n - x) % 4294967296 := and32 _
  have HX : Hid (inB x 0 4294967295 = true ∧ inB n 0 4294967295 = true) := ⟨hx, hn⟩
  clear hx hn h1 h2
  go_enter Tryz.func128, Tryz.ntmps128
  go_wp2_with fail
  refine (isTickL x _ true HX.out.1).mono ?_
  rintro e w1 ⟨rfl, hw1⟩; have hw1 := hw1.symm; subst hw1
  go_wp2_with fail
  refine (isTickL n _ true HX.out.2).mono ?_
  rintro e w1 ⟨rfl, hw1⟩; have hw1 := hw1.symm; subst hw1
  go_wp2
  go_ret
  exact ⟨rfl, rfl⟩
set_option maxHeartbeats 1000000 in
theorem specTickGap_in (x n : Int) (w : World) (hx : inB x 0 4294967295 = true) (hn : inB n 0 4294967295 = true) : Calls Tryz.prog 105 #[.int .i64 x, .int .i64 n] w fun e w' => e = .returned (.int .i64 ((n - x) % 4294967296)) ∧ w' = w := by
  have h1 := inB_of hx
  have h2 := inB_of hn
  have hw : IntKind.i64.wrap (n - x) = n - x := by rw [IntKind.wrap_i64]; omega
  have ha : bits .and .i64 (n - x) 4294967295 = (n - x) % 4294967296 := and32 _
  have HX : Hid (inB x 0 4294967295 = true ∧ inB n 0 4294967295 = true) := ⟨hx, hn⟩
  clear hx hn h1 h2
  go_enter Tryz.func105, Tryz.ntmps105
  go_wp2_with fail
  refine (l1TickL x _ true HX.out.1).mono ?_
  rintro e w1 ⟨rfl, hw1⟩; have hw1 := hw1.symm; subst hw1
  go_wp2_with fail
  refine (l1TickL n _ true HX.out.2).mono ?_
  rintro e w1 ⟨rfl, hw1⟩; have hw1 := hw1.symm; subst hw1
  go_wp2
  go_ret
  exact ⟨rfl, rfl⟩
set_option maxHeartbeats 1000000 in
theorem implTickDue_in (x y : Int) (w : World) (hx : inB x 0 4294967295 = true) (hn : inB y 0 4294967295 = true) : Calls Tryz.prog 98 #[.int .i64 x, .int .i64 y] w fun e w' => e = .returned (.bool (tkD x y)) ∧ w' = w := by
  obtain ⟨g, hg⟩ : ∃ g, g = (x - y) % 4294967296 := ⟨_, rfl⟩
  obtain ⟨d, hd⟩ : ∃ d, d = tkD x y := ⟨_, rfl⟩
  have hlt : decide (g < 2147483648) = d := by rw [hd, hg]; rfl
  have HX : Hid (inB x 0 4294967295 = true ∧ inB y 0 4294967295 = true ∧ g = (x - y) % 4294967296) := ⟨hx, hn, hg⟩
  rw [← hd]
  clear hx hn hd hg
  go_enter Tryz.func98, Tryz.ntmps98
  go_wp2_with fail
  refine (isTickL x _ true HX.out.1).mono ?_
  rintro e w1 ⟨rfl, hw1⟩; have hw1 := hw1.symm; subst hw1
  go_wp2_with fail
  refine (isTickL y _ true HX.out.2.1).mono ?_
  rintro e w1 ⟨rfl, hw1⟩; have hw1 := hw1.symm; subst hw1
  go_wp2_with fail
  refine (implTickGap_in y x _ HX.out.2.1 HX.out.1).mono ?_
  rintro e w1 ⟨rfl, hw1⟩; have hw1 := hw1.symm; subst hw1
  rw [← HX.out.2.2]
  go_wp2
  go_ret
  exact ⟨rfl, rfl⟩
set_option maxHeartbeats 1000000 in
theorem specTickDue_in (x y : Int) (w : World) (hx : inB x 0 4294967295 = true) (hn : inB y 0 4294967295 = true) : Calls Tryz.prog 51 #[.int .i64 x, .int .i64 y] w fun e w' => e = .returned (.bool (tkD x y)) ∧ w' = w := by
  obtain ⟨g, hg⟩ : ∃ g, g = (x - y) % 4294967296 := ⟨_, rfl⟩
  obtain ⟨d, hd⟩ : ∃ d, d = tkD x y := ⟨_, rfl⟩
  have hlt : decide (g < 2147483648) = d := by rw [hd, hg]; rfl
  have HX : Hid (inB x 0 4294967295 = true ∧ inB y 0 4294967295 = true ∧ g = (x - y) % 4294967296) := ⟨hx, hn, hg⟩
  rw [← hd]
  clear hx hn hd hg
  go_enter Tryz.func51, Tryz.ntmps51
  go_wp2_with fail
  refine (l1TickL x _ true HX.out.1).mono ?_
  rintro e w1 ⟨rfl, hw1⟩; have hw1 := hw1.symm; subst hw1
  go_wp2_with fail
  refine (l1TickL y _ true HX.out.2.1).mono ?_
  rintro e w1 ⟨rfl, hw1⟩; have hw1 := hw1.symm; subst hw1
  go_wp2_with fail
  refine (specTickGap_in y x _ HX.out.2.1 HX.out.1).mono ?_
  rintro e w1 ⟨rfl, hw1⟩; have hw1 := hw1.symm; subst hw1
  rw [← HX.out.2.2]
  go_wp2
  go_ret
  exact ⟨rfl, rfl⟩
set_option maxRecDepth 20000 in
set_option maxHeartbeats 1000000 in
theorem isDue_no (L : La) (a a1 a2 : Option Addr) (n cp l1 l2 c1 c2 B : Nat) (now : Int) (w : World) (hB : Blk w B 32 (lac L a n cp a1 a2 l1 l2 c1 c2)) (hz : L.bz = false) :
    Calls Tryz.prog 42 #[.pointer (some ⟨B, 0, none⟩), .int .i64 now] w fun e w' => e = .returned (.bool false) ∧ w' = w := by
  have y1 : w.cell? ⟨B, 1, none⟩ = some (.bool L.bz) := hB.cell 1 rfl
  rw [hz] at y1
  clear hB hz
  go_enter Tryz.func42, Tryz.ntmps42
  go_wp2
  go_ret
  exact ⟨rfl, rfl⟩
set_option maxRecDepth 20000 in
set_option maxHeartbeats 1000000 in
theorem isDue_yes (L : La) (a a1 a2 : Option Addr) (n cp l1 l2 c1 c2 B : Nat) (now : Int) (w : World) (hB : Blk w B 32 (lac L a n cp a1 a2 l1 l2 c1 c2)) (hz : L.bz = true) (hx : inB now 0 4294967295 = true) (hd : inB L.du 0 4294967295 = true) :
    Calls Tryz.prog 42 #[.pointer (some ⟨B, 0, none⟩), .int .i64 now] w fun e w' => e = .returned (.bool (tkD now L.du)) ∧ w' = w := by
  have y1 : w.cell? ⟨B, 1, none⟩ = some (.bool L.bz) := hB.cell 1 rfl
  have y12 : w.cell? ⟨B, 12, none⟩ = some (.int .i64 L.du) := hB.cell 12 rfl
  rw [hz] at y1
  have HX : Hid (inB now 0 4294967295 = true ∧ inB L.du 0 4294967295 = true) := ⟨hx, hd⟩
  clear hB hz hx hd
  go_enter Tryz.func42, Tryz.ntmps42
  go_wp2_with fail
  refine (implTickDue_in now L.du _ HX.out.1 HX.out.2).mono ?_
  rintro e w1 ⟨rfl, hw1⟩; have hw1 := hw1.symm; subst hw1
  go_wp2
  go_ret
  exact ⟨rfl, rfl⟩
end Go.Proofs.YtmhdneenjoelfaaGreat
namespace Go.Proofs.YtmhdneenjoelfaaGreat
open Go.RowKit
set_option linter.unusedVariables false
set_option linter.unusedSimpArgs false
def nfB (bs : List Bool) (n : Nat) : Bool := decide (∀ k, k < bs.length → n ≤ k → bs.getD k false = false)
end Go.Proofs.YtmhdneenjoelfaaGreat
namespace Go.Proofs.YtmhdneenjoelfaaGreat
open Go.RowKit
def word2 (x y : Int) : Int := bits BinOp.or IntKind.i64 (x * 256) y
end Go.Proofs.YtmhdneenjoelfaaGreat
namespace Go.Proofs.YtmhdneenjoelfaaGreat
open Go.RowKit
set_option linter.unusedVariables false
set_option linter.unusedSimpArgs false
end Go.Proofs.YtmhdneenjoelfaaGreat
namespace Go.Proofs.YtmhdneenjoelfaaGreat
open Go.RowKit
set_option linter.unusedVariables false
set_option linter.unusedSimpArgs false
def packL (bs : List Bool) : List Int := (List.range ((bs.length + 7) / 8)).map (fun i => pv bs bs.length i)
end Go.Proofs.YtmhdneenjoelfaaGreat
namespace Go.Proofs.YtmhdneenjoelfaaGreat
open Go.RowKit
set_option linter.unusedVariables false
set_option linter.unusedSimpArgs false
end Go.Proofs.YtmhdneenjoelfaaGreat
namespace Go.Proofs.YtmhdneenjoelfaaGreat
open Go.RowKit
set_option linter.unusedVariables false
set_option linter.unusedSimpArgs false
def wAt (zs : List Int) (i : Nat) : Int := if i + 2 ≤ zs.length then zs.getD i 0 * 256 + zs.getD (i + 1) 0 else 0
def wsF (zs : List Int) (f : Nat) : List Int := (List.range ((zs.length - f) / 2)).map (fun k => wAt zs (f + 2 * k))
def wsT (zs : List Int) (f k : Nat) : List Int := (List.range k).map (fun k => wAt zs (f + 2 * k))
def NwI (w w' : World) (e : Ending) (zs : List Int) : Prop := ∃ a c n, e = .returned (.slice a n c) ∧ n = zs.length ∧ OwnI w' w.heap.size (.slice a n c) zs ∧ Below w.heap.size w w'
end Go.Proofs.YtmhdneenjoelfaaGreat
namespace Go.Proofs.YtmhdneenjoelfaaGreat
open Go.RowKit
set_option linter.unusedVariables false
set_option linter.unusedSimpArgs false
def kindB (k : Int) : Bool := decide (k = 1 ∨ k = 2 ∨ k = 3 ∨ k = 4 ∨ k = 5 ∨ k = 6 ∨ k = 15 ∨ k = 16 ∨ k = 22 ∨ k = 23)
def GP (w w' : World) (e : Ending) (kd pl nn wa : Int) (ws : List Int) (bs : List Bool) (code : Int) : Prop :=
  ∃ a1 a2 l1 l2 c1 c2, e = .returned (.tuple #[rq kd pl nn wa a1 a2 l1 l2 c1 c2, .int .i64 code]) ∧ l1 = ws.length ∧ l2 = bs.length ∧ OwnI w' w.heap.size (.slice a1 l1 c1) ws ∧ OwnB w' w.heap.size (.slice a2 l2 c2) bs ∧ Below w.heap.size w w'
end Go.Proofs.YtmhdneenjoelfaaGreat
namespace Go.Proofs.YtmhdneenjoelfaaGreat
open Go.RowKit
set_option linter.unusedVariables false
set_option linter.unusedSimpArgs false
def zr4 (a n w b : Bool) (pl nn : Int) (l1 l2 : Nat) : Bool := (a || decide (pl = 0)) && ((n || decide (nn = 0)) && ((w || decide (l1 = 0)) && (b || decide (l2 = 0))))
def okAK (kd pl nn : Int) (l1 l2 : Nat) : Bool :=
  if kd = 1 ∨ kd = 2 then zr4 false false false true pl nn l1 l2 && (inB l2 1 2000 && decide (l2 % 8 = 0))
  else if kd = 3 ∨ kd = 4 ∨ kd = 23 then zr4 false false true false pl nn l1 l2 && inB l1 1 125
  else if kd = 5 then zr4 true false false true pl nn l1 l2 && decide (l2 = 1)
  else if kd = 6 then zr4 true false true false pl nn l1 l2 && decide (l1 = 1)
  else if kd = 22 then zr4 true false true false pl nn l1 l2 && decide (l1 = 2)
  else if kd = 15 then zr4 true true false false pl nn l1 l2 && inB nn 1 1968
  else zr4 true true false false pl nn l1 l2 && inB nn 1 123
def okA (kd fl pl nn : Int) (ws : List Int) (l1 l2 : Nat) : Bool := kindB kd && (inB fl 0 255 && (allW ws && (inB pl 0 65535 && (if 0 < fl then zr4 false false false false pl nn l1 l2 else okAK kd pl nn l1 l2))))
end Go.Proofs.YtmhdneenjoelfaaGreat
namespace Go.Proofs.YtmhdneenjoelfaaGreat
open Go.RowKit
def anB (kd pl nn : Int) (m1 m2 : Nat) (qs : List Int) (qb : List Bool) (ap an : Int) (l1 l2 : Nat) (ws : List Int) (bs : List Bool) : Bool :=
  if kd = 1 ∨ kd = 2 then nfB bs nn.toNat && decide (l2 = (nn.toNat + 7) / 8 * 8)
  else if kd = 3 ∨ kd = 4 ∨ kd = 23 then decide ((l1 : Int) = nn)
  else if kd = 5 then decide (ap = pl) && decide (bs = qb)
  else if kd = 6 ∨ kd = 22 then decide (ap = pl) && decide (ws = qs)
  else if kd = 15 then decide (ap = pl) && decide (an = (m2 : Int))
  else decide (ap = pl) && decide (an = (m1 : Int))
def suB (kd pl nn wa : Int) (m1 m2 : Nat) (qs : List Int) (qb : List Bool) (kd' fl ap an : Int) (l1 l2 : Nat) (ws : List Int) (bs : List Bool) : Bool :=
  okR kd pl nn wa qs m1 m2 && (okA kd' fl ap an ws l1 l2 && (decide (kd = kd') && (!decide (fl = 0) || anB kd pl nn m1 m2 qs qb ap an l1 l2 ws bs)))
end Go.Proofs.YtmhdneenjoelfaaGreat
namespace Go.Proofs.YtmhdneenjoelfaaGreat
open Go.RowKit
set_option linter.unusedVariables false
set_option linter.unusedSimpArgs false
set_option maxHeartbeats 1000000 in
theorem isCount_any (x most : Int) (w : World) (b : Bool) (hb : inB x 1 most = b) : Calls Tryz.prog 118 #[.int .i64 x, .int .i64 most] w fun e w' => e = .returned (.bool b) ∧ w' = w := by
  subst hb
  unfold inB
  by_cases h1 : 1 ≤ x
  · by_cases h2 : x ≤ most
    · rw [decide_eq_true (show 1 ≤ x ∧ x ≤ most from ⟨h1, h2⟩)]
      go_enter Tryz.func118, Tryz.ntmps118
      go_wp2
      go_ret
      exact ⟨rfl, rfl⟩
    · rw [decide_eq_false (show ¬ (1 ≤ x ∧ x ≤ most) from fun h => h2 h.2)]
      go_enter Tryz.func118, Tryz.ntmps118
      go_wp2
      go_ret
      exact ⟨rfl, rfl⟩
  · rw [decide_eq_false (show ¬ (1 ≤ x ∧ x ≤ most) from fun h => h1 h.1)]
    go_enter Tryz.func118, Tryz.ntmps118
    go_wp2
    go_ret
    exact ⟨rfl, rfl⟩
set_option maxHeartbeats 1000000 in
theorem isFault_any (x : Int) (w : World) (b : Bool) (hb : inB x 1 255 = b) : Calls Tryz.prog 100 #[.int .i64 x] w fun e w' => e = .returned (.bool b) ∧ w' = w := by
  go_enter Tryz.func100, Tryz.ntmps100
  go_wp2_with fail
  refine (isCount_any _ _ _ _ hb).mono ?_
  rintro e wx ⟨rfl, rfl⟩
  go_wp2
  go_ret
  exact ⟨rfl, rfl⟩
def tB (kd fl pl nn : Int) (ws : List Int) (l1 l2 : Nat) : Bool :=
  if fl = 0 then
    if kd = 1 ∨ kd = 2 then inB l2 1 2000 && decide (l2 % 8 = 0)
    else if kd = 3 ∨ kd = 4 ∨ kd = 23 then inB l1 1 125 && allW ws
    else if kd = 5 then inB pl 0 65535 && decide (l2 = 1)
    else if kd = 6 then inB pl 0 65535 && (decide (l1 = 1) && allW ws)
    else if kd = 22 then inB pl 0 65535 && (decide (l1 = 2) && allW ws)
    else if kd = 15 then inB pl 0 65535 && inB nn 1 1968
    else inB pl 0 65535 && inB nn 1 123
  else inB fl 1 255
def zrA (kd fl pl nn : Int) (l1 l2 : Nat) : Bool :=
  if fl = 0 then
    if kd = 1 ∨ kd = 2 then zr4 false false false true pl nn l1 l2
    else if kd = 3 ∨ kd = 4 ∨ kd = 23 then zr4 false false true false pl nn l1 l2
    else if kd = 5 then zr4 true false false true pl nn l1 l2
    else if kd = 6 ∨ kd = 22 then zr4 true false true false pl nn l1 l2
    else zr4 true true false false pl nn l1 l2
  else zr4 false false false false pl nn l1 l2
end Go.Proofs.YtmhdneenjoelfaaGreat
namespace Go.Proofs.YtmhdneenjoelfaaGreat
open Go.RowKit
set_option linter.unusedVariables false
set_option linter.unusedSimpArgs false
end Go.Proofs.YtmhdneenjoelfaaGreat
namespace Go.Proofs.YtmhdneenjoelfaaGreat
open Go.RowKit
set_option linter.unusedVariables false
set_option linter.unusedSimpArgs false
abbrev ansE (c : Int) : Value := .iface 142 (.agg #[.int .i64 c])
def chk (kd : Int) (b : Bool) : Value := bif b then .nilIface else bif kindB kd then ansE 3 else ansE 1
end Go.Proofs.YtmhdneenjoelfaaGreat
namespace Go.Proofs.YtmhdneenjoelfaaGreat
open Go.RowKit
set_option linter.unusedVariables false
set_option linter.unusedSimpArgs false
end Go.Proofs.YtmhdneenjoelfaaGreat
namespace Go.Proofs.YtmhdneenjoelfaaGreat
open Go.RowKit Go.Joins
set_option linter.unusedVariables false
set_option linter.unusedSimpArgs false
def hrB (n : Nat) (f : Nat → Ca) (L : La) (l1 l2 : Nat) (nu un kd fl pl nn : Int) (m1 m2 : Nat) (ws : List Int) (bs : List Bool) : Bool := okLn n f L l1 l2 && ((L.bz && ((L.nu == nu) && (L.c.un == un))) && suB L.c.kd L.c.pl L.c.n L.c.wa l1 l2 L.c.ws L.c.bs kd fl pl nn m1 m2 ws bs)
def hrL (b : Bool) (L : La) : La := if b = true then freeL L else L
def hrN (b : Bool) : Nat := if b = true then 1 else 0
def hrD (L : La) (kd fl pl nn : Int) (ws : List Int) (bs : List Bool) : Dn := ⟨L.c.id, L.c.pa, kd, fl, pl, nn, ws, bs⟩
def HrP (w w' : World) (e : Ending) (n : Nat) (f : Nat → Ca) (L' : La) (b : Bool) (D : Dn) : Prop :=
  ∃ a cp a1 a2 c1 c2 hi v vc, e = .returned (.tuple #[.agg (lac L' a n cp a1 a2 L'.c.ws.length L'.c.bs.length c1 c2), .slice v (hrN b) vc]) ∧ w.heap.size ≤ hi ∧ hi ≤ w'.heap.size ∧ LnPB w' w.heap.size hi n f L' a cp a1 a2 L'.c.ws.length L'.c.bs.length c1 c2 ∧ TopL w' hi w'.heap.size 43 8 (.slice v (hrN b) vc) (hrN b) (fun _ => dnE D) ∧ Below w.heap.size w w'
theorem row_noT {w w' : World} {base s n gx : Nat} {e t : TypeId} {v : Value} {xs : List Value} (h : w.ownsRow base e s v n xs) (hg : w.grownBy w' (some gx)) (hx : ExB w gx t) (ht : t ≠ e) : w'.ownsRow base e s v n xs := by
  obtain ⟨cs, hb⟩ := hx
  exact World.ownsRow.kept h hg (.inr (row_noBlk h hb ht))
theorem ownI_nil9 (w : World) (b : Nat) : OwnI w b (.slice none 0 0) [] := ⟨by simp, .inl ⟨rfl, rfl⟩⟩
theorem ownB_nil9 (w : World) (b : Nat) : OwnB w b (.slice none 0 0) [] := ⟨by simp, .inl ⟨rfl, rfl⟩⟩
theorem LnPB.free {w : World} {base hi n cp l1 l2 c1 c2 : Nat} {f : Nat → Ca} {L : La} {a a1 a2 : Option Addr} (h : LnPB w base hi n f L a cp a1 a2 l1 l2 c1 c2) : LnPB w base hi n f (freeL L) a cp none none 0 0 0 0 := by
  obtain ⟨h1, h2, F, β, h3, h4, h5, h6, h7, h8, h9, h10, h11, h12⟩ := h
  refine ⟨rfl, rfl, F, β, h3, h4, ownI_nil9 _ _, ownB_nil9 _ _, fun k hk => ?_, fun k hk => ?_, h9, h10, fun k hk => ?_, fun k hk => ?_⟩
  all_goals cases hk
theorem LnPB.keptT {w w' : World} {base hi n cp l1 l2 c1 c2 gx : Nat} {f : Nat → Ca} {L : La} {a a1 a2 : Option Addr} {t' : TypeId} (h : LnPB w base hi n f L a cp a1 a2 l1 l2 c1 c2) (hg : w.grownBy w' (some gx)) (hx : ExB w gx t') (h0 : t' ≠ 30) (k1 : t' ≠ 3) (k2 : t' ≠ 4) : LnPB w' base hi n f L a cp a1 a2 l1 l2 c1 c2 := by
  obtain ⟨h1, h2, F, β, h3, h4, h5, h6, h7⟩ := h
  have hx' := hx
  obtain ⟨cs, hb⟩ := hx'
  exact ⟨h1, h2, F, β, h3.kept hg (.inr ⟨t', hx, h0⟩), h4.keptT hg hx k1 k2, h5.kept hg (.inr (row_noBlk h5 hb k1)), h6.kept hg (.inr (row_noBlk h6 hb k2)), h7⟩
theorem topL_keptLt {w w' : World} {base hi gx : Nat} {t : TypeId} {s : Nat} {v : Value} {n : Nat} {G : Nat → El} (h : TopL w base hi t s v n G) (hg : w.grownBy w' (some gx)) (hx : gx < base) : TopL w' base hi t s v n G := by
  obtain ⟨F, β, h1, h2, h3⟩ := h
  exact ⟨F, β, h1.kept hg (.inl hx), h2.keptLt hg hx, h3⟩
end Go.Proofs.YtmhdneenjoelfaaGreat
namespace Go.Proofs.YtmhdneenjoelfaaGreat
open Go.RowKit
set_option linter.unusedVariables false
set_option linter.unusedSimpArgs false
end Go.Proofs.YtmhdneenjoelfaaGreat

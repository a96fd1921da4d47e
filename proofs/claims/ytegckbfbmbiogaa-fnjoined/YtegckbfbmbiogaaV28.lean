/- Texts that the proof needs, joined: JnC JnG Cur1 Cur2 Cur3 Dev1 Dev2 Dev3a MarkF Dev4 Dev5 Dev6 Dev7 Dev8 Dev9 Dev13 Dev14 Dev15 Unp1 Unp2 AskB. -/
import Derived.Test.YtegckbfbmbiogaaV27
import Derived.Test.YtegckbfbmbiogaaV1
import Derived.Test.YtegckbfbmbiogaaV25
import Derived.Test.YtegckbfbmbiogaaV9
import Derived.Test.YtegckbfbmbiogaaV12
import Derived.WideMake
import Derived.Carry
import Derived.Laws.CopyOwn
import Derived.Deep.RegionHeld3
import Derived.BigRegion
import Derived.Test.YtegckbfbmbiogaaV21
import Derived.Test.YtegckbfbmbiogaaV5
namespace Go.Proofs.Ytegckbfbmbiogaa
open Go.RowKit Go.Joins
set_option linter.unusedVariables false
set_option linter.unusedSimpArgs false
def fillB (l : List Bool) : List Bool := l ++ List.replicate (8 * ((l.length + 7) / 8) - l.length) false
def rsA (kd pl : Int) (ws : List Int) (bs : List Bool) (Ps : List Pa) (A : Nat → An) (n : Nat) : An :=
  if wrK kd = true ∧ ¬ kd = 23 then waA kd pl ws bs Ps A n else ⟨kd, 0, 0, 0, jW A n, fillB (mB kd Ps A n)⟩
theorem fillB_nil : fillB [] = [] := rfl
theorem okR_kindJ {kd pl nn wa : Int} {ws : List Int} {l1 l2 : Nat} (h : okR kd pl nn wa ws l1 l2 = true) : kd = 1 ∨ kd = 2 ∨ kd = 3 ∨ kd = 4 ∨ kd = 5 ∨ kd = 6 ∨ kd = 15 ∨ kd = 16 ∨ kd = 22 ∨ kd = 23 := by
  unfold okR at h
  simp only [Bool.and_eq_true] at h
  have h7 := h.2.2
  by_cases hk : kd = 1 ∨ kd = 2 ∨ kd = 3 ∨ kd = 4 ∨ kd = 5 ∨ kd = 6 ∨ kd = 15 ∨ kd = 16 ∨ kd = 22 ∨ kd = 23
  · exact hk
  · exfalso
    unfold okK at h7
    rw [if_neg (by omega), if_neg (by omega), if_neg (by omega), if_neg (by omega), if_neg (by omega), if_neg (by omega), if_neg (by omega), if_neg (by omega)] at h7
    cases h7
theorem rsA_waA {kd pl nn wa : Int} {ws : List Int} {bs : List Bool} {Ps : List Pa} {A : Nat → An} {n : Nat} (hok : okR kd pl nn wa ws ws.length bs.length = true) (hall : AllS Ps A n) (hk : kd = 1 ∨ kd = 2 → ∀ k, k < n → (Ps.getD k default).kd = 1 ∨ (Ps.getD k default).kd = 2) : rsA kd pl ws bs Ps A n = waA kd pl ws bs Ps A n := by
  unfold rsA
  by_cases hw : wrK kd = true ∧ ¬ kd = 23
  · rw [if_pos hw]
  · rw [if_neg hw]
    have hw' : ¬ (kd = 5 ∨ kd = 6 ∨ kd = 15 ∨ kd = 16 ∨ kd = 22) := by
      intro e
      apply hw
      unfold wrK
      exact ⟨decide_eq_true (by omega), by omega⟩
    have := okR_kindJ hok
    unfold waA
    by_cases h1 : kd = 1 ∨ kd = 2
    · rw [if_pos h1, jW_none hall (hk h1)]
      unfold mB fillB
      rw [if_pos (by omega)]
    · rw [if_neg h1, if_pos (by omega)]
      unfold mB
      rw [if_neg (by omega), fillB_nil]
end Go.Proofs.Ytegckbfbmbiogaa
namespace Go.Proofs.Ytegckbfbmbiogaa
open Go.RowKit Go.Joins
set_option linter.unusedVariables false
set_option linter.unusedSimpArgs false
def SmP (kq : Int) (P : Pa) : Prop := P.kd = kq ∧ (0 ≤ P.n ∧ P.n ≤ 100) ∧ P.ws.length ≤ 6 ∧ P.bs.length ≤ 20 ∧ (0 ≤ P.pl ∧ P.pl ≤ 65535) ∧ okR P.kd P.pl P.n P.wa P.ws P.ws.length P.bs.length = true
theorem flat_le {α β : Type} (f : α → List β) : ∀ (l : List α) (x : α), x ∈ l → (f x).length ≤ (l.flatMap f).length
  | y :: l, x, h => by
    rw [List.flatMap_cons, List.length_append]
    rcases List.mem_cons.1 h with rfl | h9
    · omega
    · have := flat_le f l x h9; omega
theorem okR_pl {kd pl nn wa : Int} {ws : List Int} {l1 l2 : Nat} (h : okR kd pl nn wa ws l1 l2 = true) : 0 ≤ pl ∧ pl ≤ 65535 := by
  have hk := okR_kind h
  unfold okR okK at h
  simp only [Bool.and_eq_true] at h
  have h1 := h.1
  have h2 := h.2
  first
    | (have := inB_yes h1; omega)
    | (have := inB_yes h2.1; omega)
theorem okR_nn {kd pl nn wa : Int} {ws : List Int} {l1 l2 : Nat} (h : okR kd pl nn wa ws l1 l2 = true) (hk : ¬ (kd = 1 ∨ kd = 2 ∨ kd = 3 ∨ kd = 4 ∨ kd = 23)) : nn = 0 := by
  have h9 := okR_kind h
  unfold okR okK at h
  simp only [Bool.and_eq_true] at h
  have h7 := h.2.2
  rw [if_neg (by omega), if_neg (by omega)] at h7
  split at h7
  · unfold zrB at h7; simp at h7; omega
  · split at h7
    · unfold zrB at h7; simp at h7; omega
    · split at h7
      · unfold zrB at h7; simp at h7; omega
      · split at h7
        · unfold zrB at h7; simp at h7; omega
        · split at h7
          · unfold zrB at h7; simp at h7; omega
          · rw [if_neg (by omega)] at h7; cases h7
theorem s_mono {S : Nat → Nat} {n : Nat} (h : ∀ z, z < n → S z ≤ S (z + 1)) : ∀ d z, z + d ≤ n → S z ≤ S (z + d)
  | 0, z, _ => Nat.le_refl _
  | d + 1, z, hz => Nat.le_trans (s_mono h d z (by omega)) (h (z + d) (by omega))
theorem good_small {f : Nat → Ru} {n : Nat} {kd pl nn : Int} {ws : List Int} {bs : List Bool} {Ps : List Pa} (h : GoodPs f n kd pl nn ws bs Ps) (hn : 0 ≤ nn ∧ nn ≤ 100) (h1 : ws.length ≤ 6) (h2 : bs.length ≤ 20) : ∀ z, z < Ps.length → SmP kd (Ps.getD z default) := by
  obtain ⟨S, s0, se, hg, hw, hb⟩ := h
  intro z hz
  obtain ⟨g1, g2, _, g4, g5⟩ := hg z hz
  have hmem : Ps.getD z default ∈ Ps := by rw [List.getD_eq_getElem?_getD, List.getElem?_eq_getElem hz]; simp
  have l1 := flat_le (fun P : Pa => P.ws) Ps _ hmem
  have l2 := flat_le (fun P : Pa => P.bs) Ps _ hmem
  rw [hw] at l1
  rw [hb] at l2
  have m1 := s_mono (n := Ps.length) (fun z hz => (hg z hz).2.2.2.2) z 0 (by omega)
  have m2 := s_mono (n := Ps.length) (fun z hz => (hg z hz).2.2.2.2) (Ps.length - (z + 1)) (z + 1) (by omega)
  rw [Nat.zero_add] at m1
  rw [show z + 1 + (Ps.length - (z + 1)) = Ps.length from by omega] at m2
  have tot : (S Ps.length : Int) ≤ 100 := by
    rw [se]; unfold spcN
    split
    · omega
    · split
      · omega
      · split
        · omega
        · omega
  refine ⟨g2, ?_, by omega, by omega, okR_pl g1, g1⟩
  by_cases hk : (Ps.getD z default).kd = 1 ∨ (Ps.getD z default).kd = 2 ∨ (Ps.getD z default).kd = 3 ∨ (Ps.getD z default).kd = 4 ∨ (Ps.getD z default).kd = 23
  · unfold spcN at g4
    rw [if_neg (by omega), if_neg (by omega), if_neg (by omega)] at g4
    omega
  · have := okR_nn g1 hk
    omega
theorem pm_small {f : Nat → Ru} {n : Nat} {kd pl nn wa : Int} {ws : List Int} {bs : List Bool} {rk uk : Bool} (hrk : rk = true ↔ OkRs f n) (hR : okR kd pl nn wa ws ws.length bs.length = true) (hn : 0 ≤ nn ∧ nn ≤ 100) (h1 : ws.length ≤ 6) (h2 : bs.length ≤ 20) : (pm rk (okR kd pl nn wa ws ws.length bs.length) uk (ptsM f n 1 kd pl nn wa ws bs)).1.length ≤ 8 ∧ ∀ z, z < (pm rk (okR kd pl nn wa ws ws.length bs.length) uk (ptsM f n 1 kd pl nn wa ws bs)).1.length → SmP kd ((pm rk (okR kd pl nn wa ws ws.length bs.length) uk (ptsM f n 1 kd pl nn wa ws bs)).1.getD z default) := by
  unfold pm
  rw [hR]
  cases rk with
  | false => exact ⟨Nat.zero_le _, fun z hz => absurd hz (Nat.not_lt_zero _)⟩
  | true =>
    cases uk with
    | false => exact ⟨Nat.zero_le _, fun z hz => absurd hz (Nat.not_lt_zero _)⟩
    | true =>
      simp only [Bool.and_self, cond_true]
      cases e : ptsM f n 1 kd pl nn wa ws bs with
      | none => exact ⟨Nat.zero_le _, fun z hz => absurd hz (Nat.not_lt_zero _)⟩
      | some l =>
        simp only
        by_cases h8 : l.length ≤ 8
        · rw [if_pos h8]
          exact ⟨h8, good_small (good_of (fun k hk => (hrk.1 rfl).2.1 k hk) hR e) hn h1 h2⟩
        · rw [if_neg h8]
          exact ⟨Nat.zero_le _, fun z hz => absurd hz (Nat.not_lt_zero _)⟩
theorem jB_none {Ps : List Pa} {A : Nat → An} {n : Nat} (h : AllS Ps A n) (hk : ∀ k, k < n → ¬ ((Ps.getD k default).kd = 1 ∨ (Ps.getD k default).kd = 2)) : jB Ps A n = [] := by
  unfold jB
  rw [List.flatMap_eq_nil_iff]
  intro k hm
  have hlt := List.mem_range.mp hm
  have h1 := h k hlt
  obtain ⟨r1, r2, r3, r4⟩ := suP_ok h1
  by_cases hp : 0 < (A k).fl
  · rw [((suP_fault h1).2.2 hp).2]; simp
  · by_cases h3 : (Ps.getD k default).kd = 3 ∨ (Ps.getD k default).kd = 4 ∨ (Ps.getD k default).kd = 23
    · have hb : (A k).bs = [] := by
        unfold okA at r2
        simp only [Bool.and_eq_true] at r2
        have h4 := r2.2.2.2.2
        rw [if_neg hp] at h4
        have := hk k hlt
        unfold okAK at h4
        rw [if_neg (by omega), if_pos (by omega)] at h4
        unfold zr4 at h4
        simp only [Bool.and_eq_true, Bool.or_eq_true, decide_eq_true_eq, Bool.false_or, Bool.false_eq_true, false_or] at h4
        apply List.eq_nil_of_length_eq_zero
        omega
      rw [hb]; simp
    · have hz := okR_nn r1 (by have := hk k hlt; omega)
      rw [hz]; simp
theorem suQ_none {kd pl nn wa : Int} {ws : List Int} {bs : List Bool} {x : An} (hk : kd = 1 ∨ kd = 2) (hb : x.bs = []) (hf : x.fl = 0) : suQ kd pl nn wa ws bs x = false := by
  cases e : suQ kd pl nn wa ws bs x with
  | false => rfl
  | true =>
    exfalso
    unfold suQ suB at e
    simp only [Bool.and_eq_true, Bool.or_eq_true, decide_eq_true_eq, Bool.not_eq_true', decide_eq_false_iff_not] at e
    obtain ⟨e1, e2, e3, e4⟩ := e
    have h5 : anB kd pl nn ws.length bs.length ws bs x.pl x.nn x.ws.length x.bs.length x.ws x.bs = true := by
      rcases e4 with h9 | h9
      · exact absurd hf h9
      · exact h9
    unfold anB at h5
    rw [if_pos hk] at h5
    simp only [Bool.and_eq_true, decide_eq_true_eq] at h5
    rw [hb] at h5
    simp only [List.length_nil] at h5
    unfold okR okK at e1
    simp only [Bool.and_eq_true] at e1
    have h6 := e1.2.2
    rw [if_pos hk] at h6
    simp only [Bool.and_eq_true] at h6
    have h7 := inB_yes h6.2.1
    omega
theorem joined_same {kd pl nn wa kq : Int} {ws : List Int} {bs : List Bool} {Ps : List Pa} {A : Nat → An} {n : Nat} (hn0 : 0 < n) (hok : okR kd pl nn wa ws ws.length bs.length = true) (hall : AllS Ps A n) (hq : ∀ k, k < n → (Ps.getD k default).kd = kq) :
    (bif suQ kd pl nn wa ws bs (rsA kd pl ws bs Ps A n) then rsA kd pl ws bs Ps A n else foA (true && inB 4 1 255) kd 4) = (bif suQ kd pl nn wa ws bs (waA kd pl ws bs Ps A n) then waA kd pl ws bs Ps A n else foA (true && inB 4 1 255) kd 4) := by
  by_cases h1 : kd = 1 ∨ kd = 2
  · by_cases h2 : kq = 1 ∨ kq = 2
    · rw [rsA_waA hok hall (fun _ k hk => by rw [hq k hk]; exact h2)]
    · have hj := jB_none hall (fun k hk => by rw [hq k hk]; exact h2)
      have e1 : suQ kd pl nn wa ws bs (waA kd pl ws bs Ps A n) = false := by
        apply suQ_none h1
        · unfold waA; rw [if_pos h1]; show jB Ps A n ++ _ = []; rw [hj]; simp
        · unfold waA; rw [if_pos h1]
      have hwr : ¬ (wrK kd = true ∧ ¬ kd = 23) := by
        intro h9
        have := h9.1
        unfold wrK at this
        have := of_decide_eq_true this
        omega
      have e2 : suQ kd pl nn wa ws bs (rsA kd pl ws bs Ps A n) = false := by
        apply suQ_none h1
        · unfold rsA; rw [if_neg hwr]; show fillB (mB kd Ps A n) = []; unfold mB; rw [if_pos (by omega), hj]; rfl
        · unfold rsA; rw [if_neg hwr]
      rw [e1, e2]
      rfl
  · rw [rsA_waA hok hall (fun h => absurd h h1)]
end Go.Proofs.Ytegckbfbmbiogaa
namespace Go.Proofs.Ytegckbfbmbiogaa
open Go.RowKit
structure Cur (w0 : World) (a : Option Addr) (cap : Nat) (zs : List Int) (w : World) (g : Nat) : Prop where
  lo : w0.heap.size ≤ g
  hi : g < w.heap.size
  c0 : w.cell? ⟨g, 0, none⟩ = some (.slice a zs.length cap)
  c1 : ∃ i : Nat, i ≤ zs.length ∧ w.cell? ⟨g, 1, none⟩ = some (.int .i64 i)
  c2 : ∃ h : Int, w.cell? ⟨g, 2, none⟩ = some (.int .i64 h)
  fz : ∀ o, w.frozen? ⟨g, o, none⟩ = false
  sl : Sl w0 a zs
  rg : ∀ z ∈ zs, 0 ≤ z ∧ z ≤ 255
  len : zs.length ≤ 1048576
  bel : Below w0.heap.size w0 w
theorem grown_trans {w w1 w2 : World} {g : Nat} (h1 : w.grownBy w1 (some g)) (h2 : w1.grownBy w2 (some g)) : w.grownBy w2 (some g) :=
  ⟨h2.os.trans h1.os, h2.tape.trans h1.tape, h2.output.trans h1.output, Nat.le_trans h1.size h2.size, fun k hk hne => (h2.block k (Nat.lt_of_lt_of_le hk h1.size) hne).trans (h1.block k hk hne)⟩
theorem grown_set (w : World) (g o : Nat) (v : Value) : w.grownBy (w.setCell ⟨g, o, none⟩ v) (some g) :=
  ⟨rfl, rfl, rfl, by simp [World.setCell], fun k hk hne => Below.heap_setCell _ _ _ _ (fun e => hne (by simpa using e))⟩
theorem grown_drewN (w : World) (n : Nat) (row : Option Nat) : w.grownBy (w.drewN n) row := ⟨rfl, rfl, rfl, Nat.le_refl _, fun _ _ _ => rfl⟩
section
variable {w0 w w' : World} {a : Option Addr} {cap g : Nat} {zs : List Int}
theorem Cur.drewN (h : Cur w0 a cap zs w g) (n : Nat) : Cur w0 a cap zs (w.drewN n) g :=
  ⟨h.lo, h.hi, h.c0, h.c1, h.c2, h.fz, h.sl, h.rg, h.len, bel_drewN h.bel n⟩
theorem cell_other (w : World) (g o o' : Nat) (v : Value) (h : o' ≠ o) : (w.setCell ⟨g, o, none⟩ v).cell? ⟨g, o', none⟩ = w.cell? ⟨g, o', none⟩ :=
  World.cell?_setCell_other _ _ _ _ (fun e => h (congrArg Addr.off e).symm)
theorem Cur.set2 (h : Cur w0 a cap zs w g) (x : Int) : Cur w0 a cap zs (w.setCell ⟨g, 2, none⟩ (.int .i64 x)) g := by
  obtain ⟨i, hi, c1⟩ := h.c1
  obtain ⟨y, c2⟩ := h.c2
  refine ⟨h.lo, by simpa [World.setCell] using h.hi, by rw [cell_other _ _ _ _ _ (by decide)]; exact h.c0, ⟨i, hi, by rw [cell_other _ _ _ _ _ (by decide)]; exact c1⟩, ⟨x, World.cell?_setCell_same _ _ _ c2⟩, fun o => ?_, h.sl, h.rg, h.len, h.bel.setCell h.lo _⟩
  simpa using h.fz o
theorem Cur.set1 (h : Cur w0 a cap zs w g) (i : Nat) (hi : i ≤ zs.length) : Cur w0 a cap zs (w.setCell ⟨g, 1, none⟩ (.int .i64 i)) g := by
  obtain ⟨_, _, c1⟩ := h.c1
  obtain ⟨y, c2⟩ := h.c2
  refine ⟨h.lo, by simpa [World.setCell] using h.hi, by rw [cell_other _ _ _ _ _ (by decide)]; exact h.c0, ⟨i, hi, World.cell?_setCell_same _ _ _ c1⟩, ⟨y, by rw [cell_other _ _ _ _ _ (by decide)]; exact c2⟩, fun o => ?_, h.sl, h.rg, h.len, h.bel.setCell h.lo _⟩
  simpa using h.fz o
theorem Cur.grown {w2 : World} {row : Option Nat} (h : Cur w0 a cap zs w g) (hg : w.grownBy w2 row) (hne : some g ≠ row) (hr : ∀ k, row = some k → w0.heap.size ≤ k) : Cur w0 a cap zs w2 g := by
  have e : w2.heap[g]? = w.heap[g]? := hg.block g h.hi hne
  have ec : ∀ o, w2.cell? ⟨g, o, none⟩ = w.cell? ⟨g, o, none⟩ := fun o => World.cell?_of_block (a := ⟨g, o, none⟩) e
  have ef : ∀ o, w2.frozen? ⟨g, o, none⟩ = w.frozen? ⟨g, o, none⟩ := fun o => World.frozen?_of_block (a := ⟨g, o, none⟩) e
  obtain ⟨i, hi, c1⟩ := h.c1
  obtain ⟨y, c2⟩ := h.c2
  exact ⟨h.lo, Nat.lt_of_lt_of_le h.hi hg.size, by rw [ec]; exact h.c0, ⟨i, hi, by rw [ec]; exact c1⟩, ⟨y, by rw [ec]; exact c2⟩, fun o => by rw [ef]; exact h.fz o, h.sl, h.rg, h.len, h.bel.grown hg h.bel.size hr⟩
theorem Cur.alloc (h : Cur w0 a cap zs w g) (o : Obj) : Cur w0 a cap zs (w.alloc o) g :=
  h.grown (World.grownBy_alloc w o none) (by simp) (fun k hk => by cases hk)
end
end Go.Proofs.Ytegckbfbmbiogaa
namespace Go.Proofs.Ytegckbfbmbiogaa
open Go.RowKit
def Drawn (w0 : World) (a : Option Addr) (cap : Nat) (zs : List Int) (w : World) (g : Nat) (P : Int → Prop) (e : Ending) (w' : World) : Prop :=
  ∃ x : Int, e = .returned (.int .i64 x) ∧ P x ∧ Cur w0 a cap zs w' g ∧ w.grownBy w' (some g)
theorem mod_bd (n : Int) : 0 ≤ n % 256 ∧ n % 256 ≤ 255 := by omega
set_option maxHeartbeats 2000000 in
theorem l1Byte_any (w0 : World) (a : Option Addr) (cap : Nat) (zs : List Int) (w : World) (g : Nat) (hC : Cur w0 a cap zs w g) :
    Calls Try.prog 102 #[.pointer (some ⟨g, 0, none⟩)] w fun e w' => Drawn w0 a cap zs w g (fun x => 0 ≤ x ∧ x ≤ 255) e w' := by
  obtain ⟨i, hi, c1⟩ := hC.c1
  obtain ⟨h, c2⟩ := hC.c2
  have c0 := hC.c0
  have fz1 := hC.fz 1
  have fz2 := hC.fz 2
  have hlen := hC.len
  have e255 : ∀ n : Int, bits BinOp.and IntKind.i64 n 255 = n % 256 := and8
  by_cases hlt : i < zs.length
  · obtain ⟨b, off, hab, hb0, hz0⟩ := cell_at hC.sl hlt
    have hz : w.cell? ⟨b, off + i, none⟩ = some (.int .u8 (zs.getD i 0)) := by rw [hC.bel.cell (p := ⟨b, off + i, none⟩) hb0]; exact hz0
    have rg := get_range hC.rg i
    have hbg : b ≠ g := by have := hC.lo; omega
    have hz' : ∀ v, (w.setCell ⟨g, 2, none⟩ v).cell? ⟨b, off + i, none⟩ = some (.int .u8 (zs.getD i 0)) := fun v => by
      rw [World.cell?_setCell_other _ _ _ _ (fun e => hbg (congrArg Addr.block e).symm)]; exact hz
    generalize zs.getD i 0 = z at *
    rw [hab] at c0
    have HC : Hid (Cur w0 a cap zs w g) := hC
    have hi' : (i : Int) < (zs.length : Int) := by omega
    clear hC hz0 hz
    go_enter Try.func102, Try.ntmps102
    go_wp2
    go_quiet (fail)
    go_wp2
    go_quiet (fail)
    go_wp2
    go_quiet (fail)
    go_wp2
    go_ret
    exact ⟨_, rfl, mod_bd _, ((HC.out.set2 _).drewN _).set1 (i + 1) (by omega), grown_trans (grown_trans (grown_set w g 2 _) (grown_drewN _ _ _)) (grown_set _ g 1 _)⟩
  · have HC : Hid (Cur w0 a cap zs w g) := hC
    have hi' : ¬ (i : Int) < (zs.length : Int) := by omega
    clear hC
    go_enter Try.func102, Try.ntmps102
    go_wp2
    go_quiet (fail)
    go_wp2
    go_quiet (fail)
    go_wp2
    go_ret
    exact ⟨_, rfl, mod_bd _, ((HC.out.set2 _).drewN _).drewN _, grown_trans (grown_trans (grown_set w g 2 _) (grown_drewN _ _ _)) (grown_drewN _ _ _)⟩
set_option maxHeartbeats 1000000 in
theorem l1Below_any (w0 : World) (a : Option Addr) (cap : Nat) (zs : List Int) (w : World) (g : Nat) (n : Int) (hn : 1 ≤ n) (hC : Cur w0 a cap zs w g) :
    Calls Try.prog 51 #[.pointer (some ⟨g, 0, none⟩), .int .i64 n] w fun e w' => Drawn w0 a cap zs w g (fun x => 0 ≤ x ∧ x < n) e w' := by
  have h0 : ¬ n ≤ 0 := by omega
  by_cases h1 : n ≤ 256
  · go_enter Try.func51, Try.ntmps51
    go_wp2_with fail
    refine (l1Byte_any w0 a cap zs _ g hC).mono ?_
    rintro e w1 ⟨x, rfl, hx, C1, g1⟩
    go_wp2
    go_ret
    exact ⟨_, rfl, ⟨Int.emod_nonneg _ (by omega), Int.emod_lt_of_pos _ (by omega)⟩, C1, g1⟩
  · go_enter Try.func51, Try.ntmps51
    go_wp2_with fail
    refine (l1Byte_any w0 a cap zs _ g hC).mono ?_
    rintro e w1 ⟨x, rfl, hx, C1, g1⟩
    go_wp2_with fail
    refine (l1Byte_any w0 a cap zs _ g C1).mono ?_
    rintro e w2 ⟨y, rfl, hy, C2, g2⟩
    go_wp2_with fail
    refine (l1Byte_any w0 a cap zs _ g C2).mono ?_
    rintro e w3 ⟨z, rfl, hz, C3, g3⟩
    go_wp2
    go_ret
    exact ⟨_, rfl, ⟨Int.emod_nonneg _ (by omega), Int.emod_lt_of_pos _ (by omega)⟩, C3, grown_trans (grown_trans g1 g2) g3⟩
def Ints (w : World) (ad : Addr) (l : List Int) : Prop := ∃ b off, ad = ⟨b, off, none⟩ ∧ b < w.heap.size ∧ ∀ i, i < l.length → w.cell? ⟨b, off + i, none⟩ = some (.int .i64 (l.getD i 0))
theorem Ints.grown {w w' : World} {ad : Addr} {l : List Int} {row : Option Nat} (h : Ints w ad l) (hg : w.grownBy w' row) (hne : some ad.block ≠ row) : Ints w' ad l := by
  obtain ⟨b, off, rfl, hb, hc⟩ := h
  exact ⟨b, off, rfl, Nat.lt_of_lt_of_le hb hg.size, fun i hi => hg.cell (hc i hi) hne⟩
set_option maxHeartbeats 1000000 in
theorem l1Int_any (w0 : World) (a : Option Addr) (cap : Nat) (zs : List Int) (w : World) (g : Nat) (ad : Addr) (n c : Nat) (l : List Int) (hn : n = l.length) (h1 : 1 ≤ n) (h2 : n ≤ 1000) (hl : Ints w ad l) (hne : ad.block ≠ g) (hC : Cur w0 a cap zs w g) :
    Calls Try.prog 81 #[.pointer (some ⟨g, 0, none⟩), .slice (some ad) n c] w fun e w' => Drawn w0 a cap zs w g (fun x => x ∈ l) e w' := by
  subst hn
  go_enter Try.func81, Try.ntmps81
  go_wp2_with fail
  refine (l1Below_any w0 a cap zs _ g _ (by omega) hC).mono ?_
  rintro e w1 ⟨x, rfl, hx, C1, g1⟩
  obtain ⟨k, rfl⟩ := Int.eq_ofNat_of_zero_le hx.1
  obtain ⟨b, off, rfl, hb, hc⟩ := hl.grown g1 (by simpa using hne)
  have hk : k < l.length := by omega
  have hck := hc k hk
  have hm : l.getD k 0 ∈ l := by rw [List.getD_eq_getElem?_getD, List.getElem?_eq_getElem hk]; exact List.getElem_mem hk
  generalize l.getD k 0 = v at *
  clear hc hl
  go_wp2
  go_ret
  exact ⟨v, rfl, hm, C1, g1⟩
end Go.Proofs.Ytegckbfbmbiogaa
namespace Go.Proofs.Ytegckbfbmbiogaa
open Go.RowKit
theorem and30 (n : Int) : bits .and .i64 n 1073741823 = n % 1073741824 := i64_and_mask n 30 1073741823 (by decide) (by decide)
theorem cur_new {w : World} {a : Option Addr} {cap : Nat} {zs : List Int} (hs : Sl w a zs) (hr : ∀ z ∈ zs, 0 ≤ z ∧ z ≤ 255) (hl : zs.length ≤ 1048576) (h : Int) (t : TypeId) :
    Cur w a cap zs (w.alloc (.cells #[.slice a zs.length cap, .int .i64 0, .int .i64 h] t)) w.heap.size where
  lo := Nat.le_refl _
  hi := by simp
  c0 := by simp
  c1 := ⟨0, Nat.zero_le _, by simp⟩
  c2 := ⟨h, by simp⟩
  fz := fun o => by simp
  sl := hs
  rg := hr
  len := hl
  bel := (Below.refl _ _).alloc (Nat.le_refl _) _
set_option maxHeartbeats 1000000 in
theorem l1New_any (w : World) (a : Option Addr) (n cap : Nat) (zs : List Int) (hn : n = zs.length) (hs : Sl w a zs) (hr : ∀ z ∈ zs, 0 ≤ z ∧ z ≤ 255) (hl : zs.length ≤ 1048576) :
    Calls Try.prog 33 #[.slice a n cap] w fun e w' => e = .returned (.pointer (some ⟨w.heap.size, 0, none⟩)) ∧ Cur w a cap zs w' w.heap.size ∧ w.grownBy w' none := by
  subst hn
  have e30 : ∀ n : Int, bits BinOp.and IntKind.i64 n 1073741823 = n % 1073741824 := and30
  go_enter Try.func33, Try.ntmps33
  go_wp2
  go_loop [3, 4] (fun x i => ∃ (k : Nat) (h : Int), k ≤ zs.length ∧ i = .int .i64 k ∧ x = .int .i64 h ∧ 0 ≤ h ∧ h ≤ 1073741824) (fun _ i => zs.length - (intOf i).toNat)
  case atStart => exact ⟨0, _, Nat.zero_le _, rfl, rfl, by omega, by omega⟩
  case round =>
    obtain ⟨k, h, hk, rfl, rfl, h0, h1⟩ := hrel
    by_cases hlt : k < zs.length
    · by_cases h4 : k < 4000
      · obtain ⟨b, off, rfl, _, hc⟩ := cell_at hs hlt
        have rg := get_range hr k
        generalize zs.getD k 0 = z at *
        have hi' : (k : Int) < (zs.length : Int) := by omega
        have hi4 : (k : Int) < 4000 := by omega
        clear hs hr
        go_wp2
        go_round
        case rel => exact ⟨k + 1, _, by omega, by go_num, rfl, by omega, by omega⟩
        case measure => simp [intOf]; omega
      · have hi' : (k : Int) < (zs.length : Int) := by omega
        have hi4 : decide ((k : Int) < 4000) = false := by simp; omega
        have R := cur_new (cap := cap) hs hr hl h 103
        clear hs hr
        go_wp2
        go_ret
        exact ⟨rfl, R, World.grownBy_alloc _ _ _⟩
    · have hi' : decide ((k : Int) < (zs.length : Int)) = false := by simp; omega
      have R := cur_new (cap := cap) hs hr hl h 103
      clear hs hr
      go_wp2
      go_ret
      exact ⟨rfl, R, World.grownBy_alloc _ _ _⟩
end Go.Proofs.Ytegckbfbmbiogaa
namespace Go.Proofs.Ytegckbfbmbiogaa
open Go.RowKit
set_option linter.unusedVariables false
abbrev dv (a1 a2 a3 a4 : Option Addr) (l1 l2 l3 l4 c1 c2 c3 c4 : Nat) : Value := .agg #[.slice a1 l1 c1, .slice a2 l2 c2, .slice a3 l3 c3, .slice a4 l4 c4]
def SlD (w : World) (a1 a2 a3 a4 : Option Addr) (cs is : List Bool) (hs rs : List Int) : Prop := SlB w a1 cs ∧ SlB w a2 is ∧ SlI w a3 hs ∧ SlI w a4 rs
def LnD (l1 l2 l3 l4 : Nat) (cs is : List Bool) (hs rs : List Int) : Prop := l1 = cs.length ∧ l2 = is.length ∧ l3 = hs.length ∧ l4 = rs.length
def SmD (m : Nat) (cs is : List Bool) (hs rs : List Int) : Prop := cs.length ≤ m ∧ is.length ≤ m ∧ hs.length ≤ m ∧ rs.length ≤ m
def Df (v u : Value) : Prop := v.ownBlock = none ∨ u.ownBlock = none ∨ v.ownBlock ≠ u.ownBlock
def OwnD (w : World) (B : Nat) (a1 a2 a3 a4 : Option Addr) (l1 l2 l3 l4 c1 c2 c3 c4 : Nat) (cs is : List Bool) (hs rs : List Int) : Prop :=
  OwnB w B (.slice a1 l1 c1) cs ∧ OwnB w B (.slice a2 l2 c2) is ∧ OwnI w B (.slice a3 l3 c3) hs ∧ OwnI w B (.slice a4 l4 c4) rs ∧ Df (.slice a1 l1 c1) (.slice a2 l2 c2) ∧ Df (.slice a3 l3 c3) (.slice a4 l4 c4)
end Go.Proofs.Ytegckbfbmbiogaa
namespace Go.Proofs.Ytegckbfbmbiogaa
open Go.RowKit
set_option linter.unusedVariables false
set_option linter.unusedSimpArgs false
def okD (l1 l2 l3 l4 : Nat) (hs rs : List Int) : Bool := decide (l1 ≤ 64 ∧ l2 ≤ 64 ∧ l3 ≤ 64 ∧ l4 ≤ 64) && (allW hs && allW rs)
def sdB (cs is : List Bool) (hs rs : List Int) (cs2 is2 : List Bool) (hs2 rs2 : List Int) : Bool := decide (cs = cs2) && (decide (is = is2) && (decide (hs = hs2) && decide (rs = rs2)))
end Go.Proofs.Ytegckbfbmbiogaa
namespace Go.Proofs.Ytegckbfbmbiogaa
open Go.RowKit
set_option linter.unusedVariables false
set_option linter.unusedSimpArgs false
def ND (w w' : World) (e : Ending) (cs is : List Bool) (hs rs : List Int) : Prop :=
  ∃ a1 a2 a3 a4 l1 l2 l3 l4 c1 c2 c3 c4, e = .returned (dv a1 a2 a3 a4 l1 l2 l3 l4 c1 c2 c3 c4) ∧ OwnD w' w.heap.size a1 a2 a3 a4 l1 l2 l3 l4 c1 c2 c3 c4 cs is hs rs ∧ Below w.heap.size w w'
def dnN (n : Int) : Nat := if 0 ≤ n ∧ n ≤ 64 then n.toNat else 0
abbrev NDn (w w' : World) (e : Ending) (m : Nat) : Prop := ND w w' e (List.replicate m false) (List.replicate m false) (List.replicate m 0) (List.replicate m 0)
end Go.Proofs.Ytegckbfbmbiogaa
namespace Go.Proofs.Ytegckbfbmbiogaa
open Go.RowKit
set_option linter.unusedVariables false
theorem ne_types {w : World} {b1 b2 s1 s2 n1 n2 : Nat} {e1 e2 : TypeId} {v1 v2 : Value} {x1 x2 : List Value} (h1 : w.ownsRow b1 e1 s1 v1 n1 x1) (h2 : w.ownsRow b2 e2 s2 v2 n2 x2) (he : e1 ≠ e2) : v1.ownBlock = none ∨ v1.ownBlock ≠ v2.ownBlock := by
  obtain ⟨_, h1⟩ := h1
  rcases h1 with ⟨hv, _⟩ | ⟨g, cap, cur, hv, _, hh, _⟩
  · subst hv; exact .inl rfl
  · refine .inr ?_
    intro e
    exact row_noBlk (v := v2) (g := g) (t := e1) (cs := cur) h2 hh he (by rw [← e, hv]; rfl)
theorem Blk.row {w w' : World} {g : Nat} {t : TypeId} {cs : Array Value} {b s n : Nat} {e : TypeId} {v : Value} {x : List Value} (h : Blk w g t cs) (hr : w.ownsRow b e s v n x) (hg : w.grownBy w' v.ownBlock) (he : t ≠ e) : Blk w' g t cs :=
  h.grown hg (row_noBlk hr h he)
end Go.Proofs.Ytegckbfbmbiogaa
namespace Go.Proofs.Ytegckbfbmbiogaa
open Go.RowKit
set_option linter.unusedVariables false
set_option linter.unusedSimpArgs false
def Chg (w w' : World) (S : Nat → Prop) : Prop := w'.os = w.os ∧ w'.tape = w.tape ∧ w'.output = w.output ∧ w.heap.size ≤ w'.heap.size ∧ ∀ g, g < w.heap.size → ¬ S g → w'.heap[g]? = w.heap[g]?
abbrev Of1 (v : Value) (g : Nat) : Prop := v.ownBlock = some g
def Of2 (v1 v2 : Value) (g : Nat) : Prop := Of1 v1 g ∨ Of1 v2 g
def Of4 (v1 v2 v3 v4 : Value) (g : Nat) : Prop := Of1 v1 g ∨ Of1 v2 g ∨ Of1 v3 g ∨ Of1 v4 g
end Go.Proofs.Ytegckbfbmbiogaa
namespace Go.Proofs.Ytegckbfbmbiogaa
open Go.RowKit
set_option linter.unusedVariables false
set_option linter.unusedSimpArgs false
end Go.Proofs.Ytegckbfbmbiogaa
namespace Go.Proofs.Ytegckbfbmbiogaa
open Go.RowKit
set_option linter.unusedVariables false
set_option linter.unusedSimpArgs false
end Go.Proofs.Ytegckbfbmbiogaa
namespace Go.Proofs.Ytegckbfbmbiogaa
open Go.RowKit
set_option linter.unusedVariables false
set_option linter.unusedSimpArgs false
def SV (W0 w w' : World) (e : Ending) (a1 a2 a3 a4 : Option Addr) (l1 l2 l3 l4 c1 c2 c3 c4 : Nat) (cs is : List Bool) (hs rs : List Int) (kd fl pl nn : Int) (ws : List Int) (bs : List Bool) : Prop :=
  ∃ r1 r2 m1 m2 k1 k2, e = .returned (rp kd fl pl nn r1 r2 m1 m2 k1 k2) ∧ OwnI w' w.heap.size (.slice r1 m1 k1) ws ∧ OwnB w' w.heap.size (.slice r2 m2 k2) bs ∧ OwnD w' W0.heap.size a1 a2 a3 a4 l1 l2 l3 l4 c1 c2 c3 c4 cs is hs rs ∧ Below W0.heap.size W0 w' ∧ Chg w w' (Of4 (.slice a1 l1 c1) (.slice a2 l2 c2) (.slice a3 l3 c3) (.slice a4 l4 c4))
end Go.Proofs.Ytegckbfbmbiogaa
namespace Go.Proofs.Ytegckbfbmbiogaa
open Go.RowKit
set_option linter.unusedVariables false
set_option linter.unusedSimpArgs false
def mskI (h x y : Int) : Int := bits .or .i64 (bits .and .i64 h x) (bits .andNot .i64 y x)
end Go.Proofs.Ytegckbfbmbiogaa
namespace Go.Proofs.Ytegckbfbmbiogaa
open Go.RowKit
set_option linter.unusedVariables false
set_option linter.unusedSimpArgs false
def hsB (sz j k kd wa m1 : Int) : Bool := if kd = 23 ∧ wa + m1 > sz then false else decide (j + k ≤ sz)
end Go.Proofs.Ytegckbfbmbiogaa
namespace Go.Proofs.Ytegckbfbmbiogaa
open Go.RowKit
set_option linter.unusedVariables false
set_option linter.unusedSimpArgs false
def TP (w w' : World) (e : Ending) (kd fl pl nn : Int) (ws : List Int) (bs : List Bool) : Prop :=
  ∃ r1 r2 m1 m2 k1 k2, e = .returned (rp kd fl pl nn r1 r2 m1 m2 k1 k2) ∧ OwnI w' w.heap.size (.slice r1 m1 k1) ws ∧ OwnB w' w.heap.size (.slice r2 m2 k2) bs ∧ Below w.heap.size w w'
end Go.Proofs.Ytegckbfbmbiogaa
namespace Go.Proofs.Ytegckbfbmbiogaa
open Go.RowKit
set_option linter.unusedVariables false
set_option linter.unusedSimpArgs false
end Go.Proofs.Ytegckbfbmbiogaa
namespace Go.Proofs.Ytegckbfbmbiogaa
open Go.RowKit
set_option linter.unusedVariables false
set_option linter.unusedSimpArgs false
def wr {α : Type} (hs : List α) (k : Nat) (ws : List α) : List α := hs.take k ++ (ws ++ hs.drop (k + ws.length))
end Go.Proofs.Ytegckbfbmbiogaa
namespace Go.Proofs.Ytegckbfbmbiogaa
open Go.RowKit
def ub (zs : List Int) (k : Nat) : Bool := zs.getD (k / 8) 0 / ((2 ^ (k % 8) : Nat) : Int) % 2 == 1
def ubs (zs : List Int) (x : Nat) : List Bool := (List.range x).map (ub zs)
def okU (zs : List Int) (x : Int) : Bool := decide (0 ≤ x ∧ (zs.length : Int) = (x + 7) / 8 ∧ ∀ j, j < 8 * zs.length → x ≤ (j : Int) → ub zs j = false)
def outU (zs : List Int) (x : Int) : List Bool := if okU zs x = true then ubs zs x.toNat else []
def UnEnds (zs : List Int) (x : Int) (w : World) (e : Ending) (w' : World) : Prop :=
  ∃ a c, e = .returned (.tuple #[.slice a (outU zs x).length c, .bool (okU zs x)]) ∧ OwnB w' w.heap.size (.slice a (outU zs x).length c) (outU zs x) ∧ Below w.heap.size w w'
theorem one_cellB {w1 : World} {x : Bool} : ∀ j u, ([Value.bool x])[j]? = some u → (w1.alloc (.cells #[.bool x] 4)).cell? ((⟨w1.heap.size, 0, none⟩ : Addr).add j) = some u := by
  intro j u hu
  match j, hu with
  | 0, hu => simp at hu; subst hu; simp [Addr.add]
  | k + 1, hu => simp at hu
theorem one_oneB (x : Bool) : ∀ u ∈ [Value.bool x], u.oneCell' = true := by
  intro u hu; simp at hu; subst hu; rfl
end Go.Proofs.Ytegckbfbmbiogaa
namespace Go.Proofs.Ytegckbfbmbiogaa
open Go.RowKit
end Go.Proofs.Ytegckbfbmbiogaa
namespace Go.Proofs.Ytegckbfbmbiogaa
open Go.RowKit
set_option linter.unusedVariables false
set_option linter.unusedSimpArgs false
set_option maxHeartbeats 1000000 in
theorem l1Once_any (w0 : World) (a : Option Addr) (cap : Nat) (zs : List Int) (w : World) (g : Nat) (n : Int) (hn : 1 ≤ n) (hC : Cur w0 a cap zs w g) :
    Calls Try.prog 101 #[.pointer (some ⟨g, 0, none⟩), .int .i64 n] w fun e w' => ∃ t : Bool, e = .returned (.bool t) ∧ Cur w0 a cap zs w' g ∧ w.grownBy w' (some g) := by
  go_enter Try.func101, Try.ntmps101
  go_wp2_with fail
  refine (l1Below_any w0 a cap zs _ g n hn hC).mono ?_
  rintro e w1 ⟨x, rfl, _, C1, g1⟩
  have R : Hid (Cur w0 a cap zs w1 g ∧ w.grownBy w1 (some g)) := ⟨C1, g1⟩
  clear hC C1 g1
  go_wp2
  go_ret
  exact ⟨_, rfl, R.out⟩
def DrawnBits (w0 : World) (a : Option Addr) (cap : Nat) (zs : List Int) (w : World) (g n : Nat) (e : Ending) (w' : World) : Prop :=
  ∃ (ad : Addr) (c : Nat) (bs : List Bool), e = .returned (.slice (some ad) n c) ∧ n = bs.length ∧ OwnB w' w.heap.size (.slice (some ad) n c) bs ∧ Cur w0 a cap zs w' g ∧ w.grownBy w' (some g)
theorem ownB_some {w : World} {base : Nat} {v : Value} {bs : List Bool} (h : OwnB w base v bs) (h0 : 0 < bs.length) : ∃ ad c, v = .slice (some ad) bs.length c := by
  obtain ⟨_, h2⟩ := h
  rcases h2 with ⟨h2, h3⟩ | ⟨g, cap', cur, hv, _⟩
  · omega
  · exact ⟨_, _, hv⟩
theorem bits_step {w0 w wr w1 w2 : World} {a : Option Addr} {cap g : Nat} {zs : List Int} {bs : List Bool} {v v' : Value} {o1 : Obj} {x : Bool} (hg : g < w.heap.size) (gr : w.grownBy wr (some g)) (ho : OwnB wr w.heap.size v bs) (C1 : Cur w0 a cap zs w1 g) (g1 : wr.grownBy w1 (some g))
    (h2 : w2.ownsRow w.heap.size 4 1 v' (bs.length + 1) (bs.map Value.bool ++ [Value.bool x])) (g2 : (w1.alloc o1).grownBy w2 v.ownBlock) (hlo : w0.heap.size ≤ g) :
    OwnB w2 w.heap.size v' (bs ++ [x]) ∧ Cur w0 a cap zs w2 g ∧ w.grownBy w2 (some g) := by
  have hv : ∀ k, v.ownBlock = some k → w.heap.size ≤ k := fun k hk => (World.ownsRow.lt ho k hk).1
  refine ⟨by simpa [OwnB] using h2, (C1.alloc o1).grown g2 (fun e => by have := hv g e.symm; omega) (fun k hk => by have := hv k hk; omega), ?_⟩
  have gg := grown_trans gr g1
  refine ⟨g2.os.trans gg.os, g2.tape.trans gg.tape, g2.output.trans gg.output, ?_, fun k hk hne => ?_⟩
  · have h := g2.size
    have h' := gg.size
    simp at h
    omega
  · rw [g2.block k (by have := gg.size; simp; omega) (fun e => by have := hv k e.symm; omega)]
    rw [Below.heap_alloc w1 o1 k (by have := gg.size; omega)]
    exact gg.block k hk hne
set_option maxHeartbeats 2000000 in
theorem l2Bits_any (w0 : World) (a : Option Addr) (cap : Nat) (zs : List Int) (w : World) (g : Nat) (n : Nat) (hn : n ≤ 1000000) (hC : Cur w0 a cap zs w g) :
    Calls Try.prog 82 #[.pointer (some ⟨g, 0, none⟩), .int .i64 n] w fun e w' => DrawnBits w0 a cap zs w g n e w' := by
  obtain ⟨i0, hi, hz0, hz1, hz2⟩ := info_parts Try.info4
  have hml : n + 2 ≤ maxLen := by unfold maxLen; omega
  have o0 := World.ownsRow_lit (base := w.heap.size) (e := 4) (size := 1) w #[] 0 (Nat.le_refl _) (by omega) rfl
  have hg := hC.hi
  have hlo := hC.lo
  have C0 := hC.alloc (.cells #[] 4)
  have G0 : w.grownBy (w.alloc (.cells #[] 4)) (some g) := World.grownBy_alloc _ _ _
  clear hC
  go_enter Try.func82, Try.ntmps82
  go_wp2
  go_loopw [5, 6] (fun v i wr => ∃ (k : Nat) (ad : Addr) (c : Nat) (bs : List Bool), k ≤ n ∧ i = .int .i64 k ∧ v = .slice (some ad) k c ∧ bs.length = k ∧ OwnB wr w.heap.size v bs ∧ Cur w0 a cap zs wr g ∧ w.grownBy wr (some g)) (fun _ i _ => n - (intOf i).toNat)
  case atStart => exact ⟨0, _, _, [], Nat.zero_le _, rfl, rfl, rfl, o0, C0, G0⟩
  case round =>
    obtain ⟨k, ad, c, bs, hk, rfl, rfl, hb, ho, C, G⟩ := hrel
    by_cases hlt : k < n
    · have hi' : (k : Int) < (n : Int) := by omega
      have HB : Hid (bs.length = k) := hb
      clear o0 C0 G0 hb
      go_wp2_with fail
      refine (l1Once_any w0 a cap zs _ g _ (by decide) C).mono ?_
      rintro e w1 ⟨x, rfl, C1, g1⟩
      have ho1 : w1.ownsRow w.heap.size 4 1 (.slice (some ad) k c) bs.length (bs.map Value.bool) := ho.kept g1 (.inr (fun e => by have := (World.ownsRow.lt ho g e).1; omega))
      have hm1 : bs.length + 1 ≤ maxLen := by rw [HB.out]; omega
      have hm2 : (bs.length + 1) * 1 ≤ 140737488355328 := by rw [HB.out]; omega
      have hsz : w.heap.size ≤ w1.heap.size := Nat.le_trans G.size g1.size
      go_wp2_with (at_builtin; refine wpList_append_own _ rfl (.tmp 13) (.tmp 16) 26 rfl w.heap.size 4 i0 (.bool false) 1 1 Try.underlying26 hi hz0 hz1 hz2 rfl (by decide) (.slice (some ad) k c) bs.length (bs.map Value.bool) rfl (ho1.alloc _) ⟨w1.heap.size, 0, none⟩ 1 1 [.bool x] rfl (by simp) one_cellB (one_oneB _) hm1 hm2 (by simp; omega) ?_; intro v' w2 o2 g2 _; have R := bits_step hg G ho C1 g1 o2 g2 hlo; clear ho ho1 o2 g2)
      obtain ⟨R1, R2, R3⟩ := R
      obtain ⟨ad', c', hv⟩ := ownB_some R1 (by simp)
      have hv' : Hid (v' = .slice (some ad') (k + 1) c') := by
        show v' = _
        rw [hv, List.length_append, HB.out]; rfl
      clear hv
      go_roundw
      case rel => exact ⟨k + 1, ad', c', bs ++ [x], by omega, by go_num, hv'.out, by rw [List.length_append, HB.out]; rfl, R1, R2, R3⟩
      case measure => simp [intOf]; omega
    · obtain rfl : k = n := by omega
      clear o0 C0 G0
      go_wp2
      go_ret
      exact ⟨ad, c, bs, rfl, hb.symm, ho, C, G⟩
theorem ints_lit (w : World) (l : List Int) (t : TypeId) : Ints (w.alloc (.cells (l.map (Value.int .i64)).toArray t)) ⟨w.heap.size, 0, none⟩ l :=
  ⟨w.heap.size, 0, rfl, by simp, fun i hi => by simp [hi]⟩
def DrawnInts (w0 : World) (a : Option Addr) (cap : Nat) (zs : List Int) (w : World) (g n : Nat) (e : Ending) (w' : World) : Prop :=
  ∃ (ad : Option Addr) (c : Nat) (ws : List Int), e = .returned (.slice ad n c) ∧ n = ws.length ∧ OwnI w' w.heap.size (.slice ad n c) ws ∧ Cur w0 a cap zs w' g ∧ w.grownBy w' (some g)
theorem ints_step {w0 w wr w1 w2 : World} {a : Option Addr} {cap g : Nat} {zs : List Int} {ws : List Int} {v v' : Value} {o1 : Obj} {x : Int} (hg : g < w.heap.size) (gr : w.grownBy wr (some g)) (ho : OwnI wr w.heap.size v ws) (C1 : Cur w0 a cap zs w1 g) (g1 : wr.grownBy w1 (some g))
    (h2 : OwnI w2 w.heap.size v' (ws ++ [x])) (g2 : (w1.alloc o1).grownBy w2 v.ownBlock) (hlo : w0.heap.size ≤ g) :
    OwnI w2 w.heap.size v' (ws ++ [x]) ∧ Cur w0 a cap zs w2 g ∧ w.grownBy w2 (some g) := by
  have hv : ∀ k, v.ownBlock = some k → w.heap.size ≤ k := fun k hk => (World.ownsRow.lt ho k hk).1
  refine ⟨h2, (C1.alloc o1).grown g2 (fun e => by have := hv g e.symm; omega) (fun k hk => by have := hv k hk; omega), ?_⟩
  have gg := grown_trans gr g1
  refine ⟨g2.os.trans gg.os, g2.tape.trans gg.tape, g2.output.trans gg.output, ?_, fun k hk hne => ?_⟩
  · have h := g2.size
    have h' := gg.size
    simp at h
    omega
  · rw [g2.block k (by have := gg.size; simp; omega) (fun e => by have := hv k e.symm; omega)]
    rw [Below.heap_alloc w1 o1 k (by have := gg.size; omega)]
    exact gg.block k hk hne
end Go.Proofs.Ytegckbfbmbiogaa

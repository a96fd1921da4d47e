/- The law of parts, walked. -/
import Derived.Test.YtaaokbmfpfmfgaaADmmmmmm
import Derived.Test.YtaaokbmfpfmfgaaPRmmmm
import Derived.Test.YtaaokbmfpfmfgaaRgX
import Derived.Test.YtaaokbmfpfmfgaaRgW
namespace Go.Proofs.Ytaaokbmfpfmfgaa
open Go.RowKit Go.Joins

set_option linter.unusedVariables false

set_option linter.unusedSimpArgs false

theorem pm_pos {rk ok uk : Bool} {R : Option (List Pa)} (h : 0 < (pm rk ok uk R).2) : (pm rk ok uk R).1 = [] := by
  unfold pm at h ⊢
  cases rk <;> cases ok <;> cases uk <;> simp at h ⊢
  cases R with
  | none => rfl
  | some l =>
    simp only at h ⊢
    by_cases h8 : l.length ≤ 8
    · rw [if_pos h8] at h; simp at h
    · rw [if_neg h8]

theorem pm_zero {rk ok uk : Bool} {R : Option (List Pa)} (h : ¬ 0 < (pm rk ok uk R).2) : rk = true ∧ ok = true ∧ R = some (pm rk ok uk R).1 ∧ (pm rk ok uk R).1.length ≤ 8 := by
  unfold pm at h ⊢
  cases rk <;> cases ok <;> cases uk <;> simp at h ⊢
  cases R with
  | none => simp at h
  | some l =>
    simp only at h ⊢
    by_cases h8 : l.length ≤ 8
    · simp only [if_pos h8]; exact ⟨trivial, h8⟩
    · rw [if_neg h8] at h; simp at h

theorem fl_step {α : Type} (g : Pa → List α) : ∀ (Ps : List Pa) (z : Nat), z < Ps.length → (Ps.take (z + 1)).flatMap g = (Ps.take z).flatMap g ++ g (Ps.getD z default)
  | [], z, h => by simp at h
  | P :: r, 0, h => by simp
  | P :: r, z + 1, h => by
    rw [List.take_succ_cons, List.flatMap_cons, fl_step g r z (by simpa using h), List.take_succ_cons, List.flatMap_cons, List.getD_cons_succ, List.append_assoc]

theorem fl_le {α : Type} (g : Pa → List α) (Ps : List Pa) (z : Nat) : ((Ps.take z).flatMap g).length ≤ (Ps.flatMap g).length := by
  conv => rhs; rw [← List.take_append_drop z Ps]
  rw [List.flatMap_append, List.length_append]
  omega

theorem ne_typesY {w : World} {b1 b2 s1 s2 n1 n2 : Nat} {e1 e2 : TypeId} {v1 v2 : Value} {x1 x2 : List Value} (h1 : w.ownsRow b1 e1 s1 v1 n1 x1) (h2 : w.ownsRow b2 e2 s2 v2 n2 x2) (he : e1 ≠ e2) : v1.ownBlock = none ∨ v1.ownBlock ≠ v2.ownBlock := by
  cases e : v1.ownBlock with
  | none => exact .inl rfl
  | some g =>
    obtain ⟨cs, hb⟩ := row_exB h1 e
    exact .inr (fun e2' => row_noBlk h2 hb he e2'.symm)

/-- What is gathered. -/
def Gat (w5 wr : World) (Ps : List Pa) (z : Nat) (v1 v2 : Value) : Prop := OwnI wr w5.heap.size v1 ((Ps.take z).flatMap (fun P => P.ws)) ∧ OwnB wr w5.heap.size v2 ((Ps.take z).flatMap (fun P => P.bs)) ∧ Below w5.heap.size w5 wr

set_option maxRecDepth 20000 in
set_option maxHeartbeats 8000000 in
theorem parted_law (a : Option Addr) (cap : Nat) (zs : List Int) (w : World) (hs : Sl w a zs) (hr : ∀ z ∈ zs, 0 ≤ z ∧ z ≤ 255) (hl : zs.length ≤ 1048576) :
    Calls Try.prog 3 #[.slice a zs.length cap] w fun e w' => e = .returned (.bool true) ∧ Below w.heap.size w w' := by
  have hl' : ¬ (1048576 : Int) < (zs.length : Int) := by omega
  go_enter Try.func3, Try.ntmps3
  go_wp2_with (first | (go_at_call 6; go_in) | fail)
  refine (drawRoute_any w a _ cap zs rfl hs hr hl).mono ?_
  rintro e w1 ⟨va, vn, vc, f, kd, pl, nn, wa, a1, a2, l1, l2, c1, c2, ws, bs, rfl, hvn, SU, h64, e1, e2, e3, e4, e5, e6, s1, s2, B1⟩
  obtain ⟨rk, hrk⟩ : ∃ b : Bool, b = true ↔ OkRs f vn := by
    by_cases h : OkRs f vn
    · exact ⟨true, fun _ => h, fun _ => rfl⟩
    · exact ⟨false, ⟨fun e => Bool.noConfusion e, fun e => absurd e h⟩⟩
  obtain ⟨uk, huk⟩ : ∃ b : Bool, b = true ↔ ∃ j, j < vn ∧ (f j).u = 1 := by
    by_cases h : ∃ j, j < vn ∧ (f j).u = 1
    · exact ⟨true, fun _ => h, fun _ => rfl⟩
    · exact ⟨false, ⟨fun e => Bool.noConfusion e, fun e => absurd e h⟩⟩
  obtain ⟨Rr, hRr⟩ : ∃ Rr, Rr = pm rk (okR kd pl nn wa ws l1 l2) uk (ptsM f vn 1 kd pl nn wa ws bs) := ⟨_, rfl⟩
  obtain ⟨gQ, hgQ⟩ : ∃ gQ, gQ = w1.heap.size := ⟨_, rfl⟩
  obtain ⟨W2, hW2⟩ : ∃ W2, W2 = w1.alloc (.cells (rqc kd pl nn wa a1 a2 l1 l2 c1 c2) 28) := ⟨_, rfl⟩
  have b2 : Below w1.heap.size w1 W2 := by rw [hW2]; exact bel_alloc _ _
  have HF : Hid ((rk = true ↔ OkRs f vn) ∧ (uk = true ↔ ∃ j, j < vn ∧ (f j).u = 1) ∧ (∀ k, k < vn → -9223372036854775808 ≤ (f k).sh ∧ (f k).sh ≤ 9223372036854775807) ∧ Rr = pm rk (okR kd pl nn wa ws l1 l2) uk (ptsM f vn 1 kd pl nn wa ws bs)) := ⟨hrk, huk, h64, hRr⟩
  have HL : Hid (l1 = ws.length ∧ l2 = bs.length ∧ l1 ≤ 200 ∧ l2 ≤ 2000 ∧ l1 ≤ c1 ∧ l2 ≤ c2) := ⟨e1, e2, e3, e4, e5, e6⟩
  have HW2 : Hid (Below w.heap.size w W2 ∧ SlU W2 va vn f ∧ SlI W2 a1 ws ∧ SlB W2 a2 bs ∧ Blk W2 gQ 28 (rqc kd pl nn wa a1 a2 l1 l2 c1 c2)) := ⟨bel_next B1 b2, SlS.below SU b2, s1.below b2, s2.below b2, by rw [hW2, hgQ]; exact Blk.new w1 _ _⟩
  clear hs hr hl SU h64 e1 e2 e3 e4 e5 e6 s1 s2 B1 b2 hrk huk hRr
  go_upto_region 4 with fail
  rw [← hW2, ← hgQ]
  clear hW2 hgQ
  obtain ⟨y0, y1, y2, y3, y4, y5⟩ := HW2.out.2.2.2.2.six
  go_wp2_with fail
  refine (implParts_all kd va vn vc f 1 pl nn wa a1 a2 l1 l2 c1 c2 ws bs _ HW2.out.2.1 (by omega) HF.out.2.2.1 HL.out.1 HL.out.2.1 HW2.out.2.2.1 HW2.out.2.2.2.1 (by have := HL.out; omega) (by have := HL.out; omega) HL.out.2.2.2.2.1 HL.out.2.2.2.2.2 rk uk HF.out.1 HF.out.2.1).mono ?_
  rintro e w3 ⟨v3, rfl, o3, b3⟩
  rw [← HF.out.2.2.2] at o3 ⊢
  obtain ⟨vb, vd, hvb⟩ := o3.shape
  subst hvb
  obtain ⟨N, hN⟩ : ∃ N, N = Rr.1.length := ⟨_, rfl⟩
  obtain ⟨ft, hft⟩ : ∃ ft, ft = Rr.2 := ⟨_, rfl⟩
  rw [← hN] at o3 ⊢
  rw [← hft]
  have HN : Hid (N = Rr.1.length ∧ ft = Rr.2) := ⟨hN, hft⟩
  have HW3 : Hid (Below w.heap.size w w3 ∧ SlU w3 va vn f ∧ SlI w3 a1 ws ∧ SlB w3 a2 bs ∧ Blk w3 gQ 28 (rqc kd pl nn wa a1 a2 l1 l2 c1 c2) ∧ OwnPs w3 W2.heap.size (.slice vb N vd) Rr.1) := ⟨bel_next HW2.out.1 b3, SlS.below HW2.out.2.1 b3, HW2.out.2.2.1.below b3, HW2.out.2.2.2.1.below b3, HW2.out.2.2.2.2.below b3, o3⟩
  clear hN hft o3 b3 HW2 y0 y1 y2 y3 y4 y5
  obtain ⟨y0, y1, y2, y3, y4, y5⟩ := HW3.out.2.2.2.2.1.six
  go_wp2_with fail
  refine (specParts_all kd va vn vc f 1 pl nn wa a1 a2 l1 l2 c1 c2 ws bs _ HW3.out.2.1 (by omega) HL.out.1 HL.out.2.1 HW3.out.2.2.1 HW3.out.2.2.2.1 (by have := HL.out; omega) (by have := HL.out; omega) HL.out.2.2.2.2.1 HL.out.2.2.2.2.2 rk uk HF.out.1 HF.out.2.1).mono ?_
  rintro e w4 ⟨v4, rfl, o4, b4⟩
  rw [← HF.out.2.2.2, ← HN.out.2]
  have HW4 : Hid (Below w.heap.size w w4 ∧ SlU w4 va vn f ∧ SlI w4 a1 ws ∧ SlB w4 a2 bs ∧ Blk w4 gQ 28 (rqc kd pl nn wa a1 a2 l1 l2 c1 c2) ∧ OwnPs w4 W2.heap.size (.slice vb N vd) Rr.1) := ⟨bel_next HW3.out.1 b4, SlS.below HW3.out.2.1 b4, HW3.out.2.2.1.below b4, HW3.out.2.2.2.1.below b4, HW3.out.2.2.2.2.1.below b4, HW3.out.2.2.2.2.2.below b4⟩
  clear o4 b4 HW3 y0 y1 y2 y3 y4 y5
  by_cases hpos : 0 < ft
  · have n0 : N = 0 := by have h9 := pm_pos (show 0 < (pm rk (okR kd pl nn wa ws l1 l2) uk (ptsM f vn 1 kd pl nn wa ws bs)).2 by rw [← HF.out.2.2.2, ← HN.out.2]; exact hpos); rw [← HF.out.2.2.2] at h9; rw [HN.out.1, h9]; rfl
    have d0 : ((N : Int) == 0) = true := by subst n0; rfl
    clear n0
    go_wp2
    go_ret
    exact ⟨by first | rfl | exact congrArg (fun x => Ending.returned (Value.bool x)) d0, HW4.out.1⟩
  · have hz := pm_zero (show ¬ 0 < (pm rk (okR kd pl nn wa ws l1 l2) uk (ptsM f vn 1 kd pl nn wa ws bs)).2 by rw [← HF.out.2.2.2, ← HN.out.2]; exact hpos)
    rw [← HF.out.2.2.2] at hz
    have hrs := HF.out.1.1 hz.1
    have hok := hz.2.1
    have hgood : GoodPs f vn kd pl nn ws bs Rr.1 := good_of hrs.2.1 (by rw [← HL.out.1, ← HL.out.2.1]; exact hok) hz.2.2.1
    obtain ⟨Sf, sf0, sf1, sf2, sf3, sf4⟩ := hgood
    obtain ⟨Ps, hPs⟩ : ∃ Ps, Ps = Rr.1 := ⟨_, rfl⟩
    rw [← hPs] at sf1 sf2 sf3 sf4
    have HG : Hid (Sf 0 = 0 ∧ (Sf N : Int) = spcN kd nn l1 l2 ∧ (∀ z, z < N → GoodP f vn kd pl (Sf z) (Sf (z + 1)) (Ps.getD z default)) ∧ Ps.flatMap (fun P => P.ws) = ws ∧ Ps.flatMap (fun P => P.bs) = bs ∧ N = Ps.length ∧ N ≤ 8 ∧ OkRs f vn ∧ okR kd pl nn wa ws l1 l2 = true) := ⟨sf0, by rw [HN.out.1, ← hPs, HL.out.1, HL.out.2.1]; exact sf1, fun z hz9 => sf2 z (by rw [hPs, ← HN.out.1]; exact hz9), sf3, sf4, by rw [hPs]; exact HN.out.1, by rw [HN.out.1]; exact hz.2.2.2, hrs, hok⟩
    have hW4' : OwnPs w4 W2.heap.size (.slice vb N vd) Ps := by rw [hPs]; exact HW4.out.2.2.2.2.2
    obtain ⟨cn, hcn⟩ : ∃ cn : Nat, (cn : Int) = spcN kd nn l1 l2 := ⟨Sf N, HG.out.2.1⟩
    obtain ⟨sp, hsp⟩ : ∃ sp, sp = spc0 kd := ⟨_, rfl⟩
    have HV : Hid (spcV (okR kd pl nn wa ws l1 l2) kd pl nn l1 l2 = .tuple #[.int .i64 sp, .int .i64 pl, .int .i64 (cn : Int)] ∧ sp = spc0 kd ∧ (cn : Int) = spcN kd nn l1 l2 ∧ (0 ≤ pl ∧ pl ≤ 65535) ∧ pl + cn ≤ 65536) := by
      have hm := okR_m (bs := bs) hok HL.out.1 HL.out.2.1
      refine ⟨by rw [hok, hsp, hcn]; rfl, hsp, hcn, hm.1, by rw [hcn]; exact hm.2.2.2.1⟩
    have HP4 : Hid (OwnPs w4 W2.heap.size (.slice vb N vd) Ps) := hW4'
    clear hz hrs hok sf0 sf1 sf2 sf3 sf4 hPs hW4' hcn hsp
    obtain ⟨y0, y1, y2, y3, y4, y5⟩ := HW4.out.2.2.2.2.1.six
    go_wp2_with fail
    refine (implSpaces_t kd pl nn wa a1 a2 l1 l2 c1 c2 ws bs _ HL.out.1 HL.out.2.1 HW4.out.2.2.1 HW4.out.2.2.2.1 (by have := HL.out; omega) (by have := HL.out; omega) sp pl (cn : Int) HV.out.1).mono ?_
    rintro e w5 ⟨rfl, b5⟩
    have HW5 : Hid (Below w.heap.size w w5 ∧ SlU w5 va vn f ∧ SlI w5 a1 ws ∧ SlB w5 a2 bs ∧ Blk w5 gQ 28 (rqc kd pl nn wa a1 a2 l1 l2 c1 c2) ∧ OwnPs w5 W2.heap.size (.slice vb N vd) Ps) := ⟨bel_next HW4.out.1 b5, SlS.below HW4.out.2.1 b5, HW4.out.2.2.1.below b5, HW4.out.2.2.2.1.below b5, HW4.out.2.2.2.2.1.below b5, HP4.out.below b5⟩
    clear b5 HW4 HP4 y0 y1 y2 y3 y4 y5
    have HLB : Hid (∀ b o, vb = some ⟨b, o, none⟩ → 0 < N → b < w5.heap.size) := by
      intro b o hb h0N
      obtain ⟨FF, ββ, hCC, _⟩ := HW5.out.2.2.2.2.2
      rcases hCC with ⟨h0, aa, cc, ee⟩ | ⟨g', c', ee, _, hrr⟩
      · have := HG.out; omega
      · simp only [Value.slice.injEq] at ee
        have h8 := ee.1.symm.trans hb
        simp only [Option.some.injEq, Addr.mk.injEq] at h8
        have := hrr.lt
        omega
    go_upto_region 14 with fail
    obtain ⟨W6, hW6⟩ : ∃ W6, W6 = (w5.alloc (.cells #[] 3)).alloc (.cells #[] 4) := ⟨_, rfl⟩
    have HW6 : Hid (Gat w5 W6 Ps 0 (.slice (some ⟨w5.heap.size, 0, none⟩) 0 0) (.slice (some ⟨w5.heap.size + 1, 0, none⟩) 0 0)) := by
      refine ⟨?_, ?_, ?_⟩
      · rw [hW6]; simpa using (newI w5 w5.heap.size (Nat.le_refl _)).below (bel_alloc _ (.cells #[] 4))
      · rw [hW6]; have := newB (w5.alloc (.cells #[] 3)) w5.heap.size (by simp); simpa using this
      · rw [hW6]; exact bel_next (bel_alloc _ _) (bel_alloc _ _)
    rw [← hW6]
    obtain ⟨gi, hgi⟩ : ∃ gi, gi = w5.heap.size := ⟨_, rfl⟩
    have hgi' : w5.heap.size + 1 = gi + 1 := by rw [hgi]
    rw [← hgi] at HW6
    rw [← hgi]
    clear hW6 hgi hgi'
    go_wp2
    go_loopw [12, 13, 14, 15] (fun sv v1 v2 iv wr => ∃ (z : Nat) (wa1 ba1 : Option Addr) (wn wc1 bn bc1 : Nat), z ≤ N ∧ iv = .int .i64 z ∧ sv = .int .i64 (Sf z : Int) ∧ v1 = .slice wa1 wn wc1 ∧ v2 = .slice ba1 bn bc1 ∧ Gat w5 wr Ps z (.slice wa1 wn wc1) (.slice ba1 bn bc1)) (fun _ _ _ i _ => N - (intOf i).toNat)
    case atStart => exact ⟨0, some ⟨gi, 0, none⟩, some ⟨gi + 1, 0, none⟩, 0, 0, 0, 0, Nat.zero_le _, rfl, by rw [HG.out.1]; rfl, rfl, rfl, HW6.out⟩
    case round =>
      clear HW6
      obtain ⟨z, wa1, ba1, wn, wc1, bn, bc1, hz, rfl, rfl, rfl, rfl, hgat⟩ := hrel
      have HGT : Hid (Gat w5 wr Ps z (.slice wa1 wn wc1) (.slice ba1 bn bc1)) := hgat
      clear hgat
      by_cases hlt : z < N
      · have hN8 : N ≤ 8 := HG.out.2.2.2.2.2.2.1
        have hi : (z : Int) < (N : Int) := by omega
        obtain ⟨P, hP⟩ : ∃ P, P = Ps.getD z default := ⟨_, rfl⟩
        obtain ⟨hok1, hok2, ⟨x, hxn, hat, hxp, hxt, hxl⟩, hsn, hle⟩ := HG.out.2.2.1 z hlt
        rw [← hP] at hok1 hok2 hxp hxt hxl hsn
        obtain ⟨s, hs⟩ : ∃ s, s = Sf z := ⟨_, rfl⟩
        obtain ⟨s', hs'⟩ : ∃ s', s' = Sf (z + 1) := ⟨_, rfl⟩
        rw [← hs] at hat hxl hsn hle ⊢
        rw [← hs'] at hsn hle
        obtain ⟨t1, ht1⟩ : ∃ t1, t1 = P.ws.length := ⟨_, rfl⟩
        obtain ⟨t2, ht2⟩ : ∃ t2, t2 = P.bs.length := ⟨_, rfl⟩
        obtain ⟨lb, lo, b1, b2, d1, d2, hvb, i0, i1, i2, i3, i4, i5, i6, i7, sj1, hb5⟩ := HW5.out.2.2.2.2.2.at (k := z) (by have := HG.out; omega)
        have hbel := HGT.out.2.2
        have hlb := HLB.out lb lo hvb (by omega)
        have i0 := (hbel.cell (p := ⟨lb, lo + z * 8, none⟩) hlb).trans i0
        have i1 := (hbel.cell (p := ⟨lb, lo + z * 8 + 1, none⟩) hlb).trans i1
        have i2 := (hbel.cell (p := ⟨lb, lo + z * 8 + 2, none⟩) hlb).trans i2
        have i3 := (hbel.cell (p := ⟨lb, lo + z * 8 + 3, none⟩) hlb).trans i3
        have i4 := (hbel.cell (p := ⟨lb, lo + z * 8 + 4, none⟩) hlb).trans i4
        have i5 := (hbel.cell (p := ⟨lb, lo + z * 8 + 5, none⟩) hlb).trans i5
        have i6 := (hbel.cell (p := ⟨lb, lo + z * 8 + 6, none⟩) hlb).trans i6
        have i7 := (hbel.cell (p := ⟨lb, lo + z * 8 + 7, none⟩) hlb).trans i7
        have si1 := sj1.below hbel
        have si2 := hb5.below hbel
        clear hbel hlb sj1
        rw [← hP] at i0 i1 i2 i3 i4 i5 i6 i7 si1 si2 hb5
        rw [← ht1] at i5
        rw [← ht2] at i6
        rw [hok2] at i2
        rw [hxl] at i3
        rw [← hxp] at i0
        rw [← hxt] at i1
        subst hvb
        have hfw := fl_step (fun P => P.ws) Ps z (by have := HG.out; omega)
        have hfb := fl_step (fun P => P.bs) Ps z (by have := HG.out; omega)
        have hlw := fl_le (fun P => P.ws) Ps (z + 1)
        have hlb := fl_le (fun P => P.bs) Ps (z + 1)
        rw [HG.out.2.2.2.1] at hlw
        rw [HG.out.2.2.2.2.1] at hlb
        rw [hfw, List.length_append] at hlw
        rw [hfb, List.length_append] at hlb
        rw [← hP] at hfw hfb hlw hlb
        have hsle : s' ≤ cn := by
          have hmono : ∀ d, z + 1 + d ≤ N → Sf (z + 1) ≤ Sf (z + 1 + d) := by
            intro d
            induction d with
            | zero => intro _; exact Nat.le_refl _
            | succ d ih => intro hd; exact Nat.le_trans (ih (by omega)) (HG.out.2.2.1 (z + 1 + d) (by omega)).2.2.2.2
          have h8 := hmono (N - (z + 1)) (by omega)
          rw [show z + 1 + (N - (z + 1)) = N by omega] at h8
          have h7 := HG.out.2.1
          have h6 := HV.out.2.2.1
          omega
        have HZ : Hid (P = Ps.getD z default ∧ okR kd (pl + (s : Int) + (f x).sh) P.n P.wa P.ws t1 t2 = true ∧ atR f vn 1 sp (pl + s) = (x : Int) ∧ spcN kd P.n t1 t2 = (s' : Int) - s ∧ s ≤ s' ∧ s' = Sf (z + 1) ∧ t1 = P.ws.length ∧ t2 = P.bs.length ∧ ((Ps.take z).flatMap (fun P => P.ws)).length + P.ws.length ≤ 200 ∧ ((Ps.take z).flatMap (fun P => P.bs)).length + P.bs.length ≤ 2000 ∧ (Ps.take (z + 1)).flatMap (fun P => P.ws) = (Ps.take z).flatMap (fun P => P.ws) ++ P.ws ∧ (Ps.take (z + 1)).flatMap (fun P => P.bs) = (Ps.take z).flatMap (fun P => P.bs) ++ P.bs ∧ s' ≤ cn ∧ (f x).p = P.p ∧ (f x).t = P.t) := ⟨hP, by rw [hxl, hok2] at hok1; rw [ht1, ht2]; exact hok1, by rw [HV.out.2.1]; exact hat, by rw [hok2] at hsn; rw [ht1, ht2]; exact hsn, hle, hs', ht1, ht2, by have := HL.out; omega, by have := HL.out; omega, hfw, hfb, hsle, hxp, hxt⟩
        obtain ⟨gR, hgR⟩ : ∃ gR, gR = wr.heap.size := ⟨_, rfl⟩
        obtain ⟨U, hU⟩ : ∃ U, U = wr.alloc (.cells (rqc kd (pl + (s : Int) + (f x).sh) P.n P.wa b1 b2 t1 t2 d1 d2) 28) := ⟨_, rfl⟩
        have bU : Below wr.heap.size wr U := by rw [hU]; exact bel_alloc _ _
        have HU : Hid (Below w5.heap.size w5 U ∧ OwnI U w5.heap.size (.slice wa1 wn wc1) ((Ps.take z).flatMap (fun P => P.ws)) ∧ OwnB U w5.heap.size (.slice ba1 bn bc1) ((Ps.take z).flatMap (fun P => P.bs)) ∧ Blk U gR 28 (rqc kd (pl + (s : Int) + (f x).sh) P.n P.wa b1 b2 t1 t2 d1 d2) ∧ SlI U b1 P.ws ∧ SlB U b2 P.bs) := ⟨bel_next HGT.out.2.2 bU, HGT.out.1.below bU, HGT.out.2.1.below bU, by rw [hU, hgR]; exact Blk.new wr _ _, si1.below bU, si2.below bU⟩
        have HB5 : Hid (∀ u, Below w5.heap.size w5 u → SlB u b2 P.bs) := fun u hu => hb5.below hu
        have xi : (x : Int) < (vn : Int) := by omega
        clear hb5 hP hok1 hok2 hat hxp hxt hxl hsn hle hs hs' ht1 ht2 hfw hfb hlw hlb bU HGT si1 si2 hsle
        go_upto_region 18 with fail
        rw [← hU, ← hgR]
        clear hU hgR i0 i1 i2 i3 i4 i5 i6 i7
        obtain ⟨y0, y1, y2, y3, y4, y5⟩ := HU.out.2.2.2.1.six
        go_wp2_with fail
        refine (implSpaces_t kd (pl + (s : Int) + (f x).sh) P.n P.wa b1 b2 t1 t2 d1 d2 P.ws P.bs _ HZ.out.2.2.2.2.2.2.1 HZ.out.2.2.2.2.2.2.2.1 HU.out.2.2.2.2.1 HU.out.2.2.2.2.2 (by have := HZ.out; omega) (by have := HZ.out; omega) (spc0 kd) (pl + (s : Int) + (f x).sh) ((s' : Int) - s) (by rw [HZ.out.2.1, ← HZ.out.2.2.2.1]; rfl)).mono ?_
        rintro e w6 ⟨rfl, b6⟩
        have HU6 : Hid (Below w5.heap.size w5 w6 ∧ OwnI w6 w5.heap.size (.slice wa1 wn wc1) ((Ps.take z).flatMap (fun P => P.ws)) ∧ OwnB w6 w5.heap.size (.slice ba1 bn bc1) ((Ps.take z).flatMap (fun P => P.bs)) ∧ Blk w6 gR 28 (rqc kd (pl + (s : Int) + (f x).sh) P.n P.wa b1 b2 t1 t2 d1 d2) ∧ SlI w6 b1 P.ws ∧ SlB w6 b2 P.bs) := ⟨bel_next HU.out.1 b6, HU.out.2.1.below b6, HU.out.2.2.1.below b6, HU.out.2.2.2.1.below b6, HU.out.2.2.2.2.1.below b6, HU.out.2.2.2.2.2.below b6⟩
        clear b6 HU y0 y1 y2 y3 y4 y5
        obtain ⟨y0, y1, y2, y3, y4, y5⟩ := (HW5.out.2.2.2.2.1.below HU6.out.1).six
        go_wp2_with fail
        refine (implSpaces_t kd pl nn wa a1 a2 l1 l2 c1 c2 ws bs _ HL.out.1 HL.out.2.1 (HW5.out.2.2.1.below HU6.out.1) (HW5.out.2.2.2.1.below HU6.out.1) (by have := HL.out; omega) (by have := HL.out; omega) sp pl (cn : Int) HV.out.1).mono ?_
        rintro e w7 ⟨rfl, b7⟩
        have HU7 : Hid (Below w5.heap.size w5 w7 ∧ OwnI w7 w5.heap.size (.slice wa1 wn wc1) ((Ps.take z).flatMap (fun P => P.ws)) ∧ OwnB w7 w5.heap.size (.slice ba1 bn bc1) ((Ps.take z).flatMap (fun P => P.bs)) ∧ Blk w7 gR 28 (rqc kd (pl + (s : Int) + (f x).sh) P.n P.wa b1 b2 t1 t2 d1 d2) ∧ SlI w7 b1 P.ws ∧ SlB w7 b2 P.bs) := ⟨bel_next HU6.out.1 b7, HU6.out.2.1.below b7, HU6.out.2.2.1.below b7, HU6.out.2.2.2.1.below b7, HU6.out.2.2.2.2.1.below b7, HU6.out.2.2.2.2.2.below b7⟩
        clear b7 HU6 y0 y1 y2 y3 y4 y5
        obtain ⟨y0, y1, y2, y3, y4, y5⟩ := (HW5.out.2.2.2.2.1.below HU7.out.1).six
        have v1 : IntKind.i64.wrap (pl + (s : Int)) = pl + s := by have := HV.out; have := HZ.out; rw [IntKind.wrap_i64]; omega
        go_wp2_with fail
        refine (implRuleAt_any va vn vc f 1 sp (pl + s) _ (SlS.below HW5.out.2.1 HU7.out.1) (by omega)).mono ?_
        rintro e w8 ⟨rfl, b8⟩
        rw [HZ.out.2.2.1]
        have HU8 : Hid (Below w5.heap.size w5 w8 ∧ OwnI w8 w5.heap.size (.slice wa1 wn wc1) ((Ps.take z).flatMap (fun P => P.ws)) ∧ OwnB w8 w5.heap.size (.slice ba1 bn bc1) ((Ps.take z).flatMap (fun P => P.bs)) ∧ SlI w8 b1 P.ws ∧ SlB w8 b2 P.bs) := ⟨bel_next HU7.out.1 b8, HU7.out.2.1.below b8, HU7.out.2.2.1.below b8, HU7.out.2.2.2.2.1.below b8, HU7.out.2.2.2.2.2.below b8⟩
        have HG8 : Hid (Blk w8 gQ 28 (rqc kd pl nn wa a1 a2 l1 l2 c1 c2) ∧ Blk w8 gR 28 (rqc kd (pl + (s : Int) + (f x).sh) P.n P.wa b1 b2 t1 t2 d1 d2)) := ⟨HW5.out.2.2.2.2.1.below HU8.out.1, HU7.out.2.2.2.1.below b8⟩
        obtain ⟨bb, off, rfl, hbb, _⟩ := SlU.seven HW5.out.2.1 hxn
        have HC8 : Hid (∀ u, Below w8.heap.size w8 u → u.cell? ⟨bb, off + x * 7 + 4, none⟩ = some (.int .i64 (f x).p) ∧ u.cell? ⟨bb, off + x * 7 + 5, none⟩ = some (.int .i64 (f x).t) ∧ u.cell? ⟨bb, off + x * 7 + 6, none⟩ = some (.int .i64 (f x).sh)) := by
          intro u hu
          obtain ⟨b9, o9, e9, _, h9⟩ := SlU.seven (SlS.below HW5.out.2.1 (bel_next HU8.out.1 hu)) hxn
          simp only [Option.some.injEq, Addr.mk.injEq] at e9
          obtain ⟨rfl, rfl, _⟩ := e9
          exact ⟨h9.2.2.2.2.1, h9.2.2.2.2.2.1, h9.2.2.2.2.2.2⟩
        have HL8 : Hid (∀ u, Below w8.heap.size w8 u → u.cell? ⟨lb, lo + z * 8, none⟩ = some (.int .i64 (f x).p) ∧ u.cell? ⟨lb, lo + z * 8 + 1, none⟩ = some (.int .i64 (f x).t)) := by
          intro u hu
          obtain ⟨lb', lo', _, _, _, _, e9, i0, i1, _⟩ := (HW5.out.2.2.2.2.2.below (bel_next HU8.out.1 hu)).at (k := z) (by have := HG.out; omega)
          simp only [Option.some.injEq, Addr.mk.injEq] at e9
          obtain ⟨rfl, rfl, _⟩ := e9
          rw [← HZ.out.1] at i0 i1
          rw [← HZ.out.2.2.2.2.2.2.2.2.2.2.2.2.2.1] at i0
          rw [← HZ.out.2.2.2.2.2.2.2.2.2.2.2.2.2.2] at i1
          exact ⟨i0, i1⟩
        have HO8 : Hid (∀ u, Below w8.heap.size w8 u → Calls Try.prog 12 #[.agg (rqc kd (pl + (s : Int) + (f x).sh) P.n P.wa b1 b2 t1 t2 d1 d2)] u fun e w' => e = .returned (.bool true) ∧ Below u.heap.size u w') := by
          intro u hu
          have h9 := implReqOk_q kd (pl + (s : Int) + (f x).sh) P.n P.wa b1 b2 t1 t2 d1 d2 P.ws P.bs u HZ.out.2.2.2.2.2.2.1 HZ.out.2.2.2.2.2.2.2.1 (HU8.out.2.2.2.1.below hu) (HU8.out.2.2.2.2.below hu) (by have := HZ.out; omega) (by have := HZ.out; omega)
          rw [HZ.out.2.1] at h9
          exact h9
        have x0 : ¬ (x : Int) < 0 := by omega
        have hos := HG.out.2.2.2.2.2.2.2.1.2.1 x hxn
        have v2 : IntKind.i64.wrap (pl + (s : Int) + (f x).sh) = pl + s + (f x).sh := by unfold OkRu at hos; have := HV.out; have := HZ.out; rw [IntKind.wrap_i64]; omega
        clear hos b8 HU7 y0 y1 y2 y3 y4 y5 hbb
        go_upto_region 21 with fail
        refine wp_region_any (by kernel_rfl) ?_
        refine wpAny_vals (fun u => Below w8.heap.size w8 u) (fun i v u => match i with
          | 0 => v = .agg (rqc kd (pl + (s : Int) + (f x).sh) P.n P.wa b1 b2 t1 t2 d1 d2)
          | 1 => v = .bool true
          | 2 => v = .bool false
          | 3 => v = .bool false
          | 4 => v = .pointer (some ⟨gR, 0, none⟩)
          | 5 => v = .int .i64 kd
          | 6 => v = .pointer (some ⟨gQ, 0, none⟩)
          | 7 => v = .int .i64 kd
          | 8 => v = .bool false
          | 9 => v = .bool false
          | 10 => v = .bool false
          | 11 => v = .int .i64 (x : Int)
          | 12 => v = .bool false
          | 13 => v = .bool false
          | 14 => v = .bool false
          | 15 => v = .slice (some ⟨bb, off, none⟩) vn vc
          | 16 => v = .int .i64 (x : Int)
          | 17 => v = .pointer (some ⟨bb, off + x * 7, none⟩)
          | 18 => v = .pointer (some ⟨bb, off + x * 7 + 4, none⟩)
          | 19 => v = .int .i64 (f x).p
          | 20 => v = .slice (some ⟨lb, lo, none⟩) N vd
          | 21 => v = .int .i64 (z : Int)
          | 22 => v = .pointer (some ⟨lb, lo + z * 8, none⟩)
          | 23 => v = .pointer (some ⟨lb, lo + z * 8, none⟩)
          | 24 => v = .int .i64 (f x).p
          | 25 => v = .bool false
          | 26 => v = .bool false
          | 27 => v = .bool false
          | 28 => v = .slice (some ⟨bb, off, none⟩) vn vc
          | 29 => v = .int .i64 (x : Int)
          | 30 => v = .pointer (some ⟨bb, off + x * 7, none⟩)
          | 31 => v = .pointer (some ⟨bb, off + x * 7 + 5, none⟩)
          | 32 => v = .int .i64 (f x).t
          | 33 => v = .slice (some ⟨lb, lo, none⟩) N vd
          | 34 => v = .int .i64 (z : Int)
          | 35 => v = .pointer (some ⟨lb, lo + z * 8, none⟩)
          | 36 => v = .pointer (some ⟨lb, lo + z * 8 + 1, none⟩)
          | 37 => v = .int .i64 (f x).t
          | 38 => v = .bool false
          | 39 => v = .bool false
          | 40 => v = .bool false
          | 41 => v = .pointer (some ⟨gR, 1, none⟩)
          | 42 => v = .int .i64 (pl + (s : Int) + (f x).sh)
          | 43 => v = .pointer (some ⟨gQ, 1, none⟩)
          | 44 => v = .int .i64 pl
          | 45 => v = .int .i64 (s : Int)
          | 46 => v = .int .i64 (pl + (s : Int))
          | 47 => v = .slice (some ⟨bb, off, none⟩) vn vc
          | 48 => v = .int .i64 (x : Int)
          | 49 => v = .pointer (some ⟨bb, off + x * 7, none⟩)
          | 50 => v = .pointer (some ⟨bb, off + x * 7 + 6, none⟩)
          | 51 => v = .int .i64 (f x).sh
          | 52 => v = .int .i64 (pl + (s : Int) + (f x).sh)
          | 53 => v = .bool false
          | 54 => v = .bool false
          | _ => True) (by kernel_rfl) (by kernel_rfl) (fun _ _ _ _ h _ => h) (Below.refl _ _).drew ?_ ?_ _ _ rfl (by decide) (fun i => by simp [Array.getD]; try (split <;> rfl))
        · intro vs u hR hall
          have e54 : vs 54 = .bool false := hall 54 (by simp)
          simp only [putsL]
          rw [e54]
          clear hall e54
          have HR9 : Hid (Below w5.heap.size w5 u ∧ OwnI u w5.heap.size (.slice wa1 wn wc1) ((Ps.take z).flatMap (fun P => P.ws)) ∧ OwnB u w5.heap.size (.slice ba1 bn bc1) ((Ps.take z).flatMap (fun P => P.bs)) ∧ SlI u b1 P.ws ∧ SlB u b2 P.bs ∧ Blk u gR 28 (rqc kd (pl + (s : Int) + (f x).sh) P.n P.wa b1 b2 t1 t2 d1 d2) ∧ Below w8.heap.size w8 u) := ⟨bel_next HU8.out.1 hR, HU8.out.2.1.below hR, HU8.out.2.2.1.below hR, HU8.out.2.2.2.1.below hR, HU8.out.2.2.2.2.below hR, HG8.out.2.below hR, hR⟩
          clear hR HU8 HG8 HC8 HL8 HO8 v1 v2
          have ws' : IntKind.i64.wrap ((s : Int) + ((s' : Int) - s)) = (s' : Int) := by have := HV.out; have := HZ.out; rw [IntKind.wrap_i64]; omega
          obtain ⟨y0, y1, y2, y3, y4, y5⟩ := HR9.out.2.2.2.2.2.1.six
          go_simp
          go_upto_region 25 with (at_builtin; refine wpList_appIO rfl (.tmp 147) (.tmp 149) rfl w5.heap.size (.slice wa1 wn wc1) ((Ps.take z).flatMap (fun P => P.ws)) rfl HR9.out.2.1 b1 t1 d1 P.ws rfl HZ.out.2.2.2.2.2.2.1 HR9.out.2.2.2.1 (by have := HZ.out; omega) HR9.out.1.size ?_; intro v9 w9 O9 g9; have H9 : Hid (OwnI w9 w5.heap.size v9 ((Ps.take (z + 1)).flatMap (fun P => P.ws)) ∧ Below w5.heap.size w5 w9 ∧ OwnB w9 w5.heap.size (.slice ba1 bn bc1) ((Ps.take z).flatMap (fun P => P.bs)) ∧ SlB w9 b2 P.bs ∧ Blk w9 gR 28 (rqc kd (pl + (s : Int) + (f x).sh) P.n P.wa b1 b2 t1 t2 d1 d2)) := ⟨by rw [HZ.out.2.2.2.2.2.2.2.2.2.2.1]; exact O9, HR9.out.1.grown g9 HR9.out.1.size (fun k hk => (World.ownsRow.lt HR9.out.2.1 k hk).1), HR9.out.2.2.1.kept g9 (ne_typesY HR9.out.2.2.1 HR9.out.2.1 (by decide)), HB5.out w9 (HR9.out.1.grown g9 HR9.out.1.size (fun k hk => (World.ownsRow.lt HR9.out.2.1 k hk).1)), HR9.out.2.2.2.2.2.1.grown g9 (row_noBlk HR9.out.2.1 HR9.out.2.2.2.2.2.1 (by decide))⟩; clear O9 g9; obtain ⟨wa2, wc2, wn2, hv9, hn9⟩ := ownI_shape2 H9.out.1; clear hn9; subst hv9)
          clear y0 y1 y2 y3 y4 y5 HR9
          obtain ⟨y0, y1, y2, y3, y4, y5⟩ := H9.out.2.2.2.2.six
          go_wp2_with (at_builtin; refine wpList_appBO rfl (.tmp 151) (.tmp 153) rfl w5.heap.size (.slice ba1 bn bc1) ((Ps.take z).flatMap (fun P => P.bs)) rfl H9.out.2.2.1 b2 t2 d2 P.bs rfl HZ.out.2.2.2.2.2.2.2.1 H9.out.2.2.2.1 (by have := HZ.out; omega) H9.out.2.1.size ?_; intro v10 w10 O10 g10; have H10 : Hid (Gat w5 w10 Ps (z + 1) (.slice wa2 wn2 wc2) v10) := ⟨H9.out.1.kept g10 (ne_typesY H9.out.1 H9.out.2.2.1 (by decide)), by rw [HZ.out.2.2.2.2.2.2.2.2.2.2.2.1]; exact O10, H9.out.2.1.grown g10 H9.out.2.1.size (fun k hk => (World.ownsRow.lt H9.out.2.2.1 k hk).1)⟩; clear O10 g10; obtain ⟨ba2, bc2, bn2, hv10, hn10⟩ := ownB_shape H10.out.2.1; clear hn10; subst hv10)
          go_roundw
          case rel => exact ⟨z + 1, wa2, ba2, wn2, wc2, bn2, bc2, by omega, by go_num, by rw [HZ.out.2.2.2.2.2.1], rfl, rfl, H10.out⟩
          case measure => simp [intOf]; omega
        · intro u i o ρ hR ho hρ hc hf hd
          have hi : i < 55 := by
            have := (Array.getElem?_eq_some_iff.1 ho).1
            simpa using this
          obtain rfl | rfl | rfl | rfl | rfl | rfl | rfl | rfl | rfl | rfl | rfl | rfl | rfl | rfl | rfl | rfl | rfl | rfl | rfl | rfl | rfl | rfl | rfl | rfl | rfl | rfl | rfl | rfl | rfl | rfl | rfl | rfl | rfl | rfl | rfl | rfl | rfl | rfl | rfl | rfl | rfl | rfl | rfl | rfl | rfl | rfl | rfl | rfl | rfl | rfl | rfl | rfl | rfl | rfl | rfl : i = 0 ∨ i = 1 ∨ i = 2 ∨ i = 3 ∨ i = 4 ∨ i = 5 ∨ i = 6 ∨ i = 7 ∨ i = 8 ∨ i = 9 ∨ i = 10 ∨ i = 11 ∨ i = 12 ∨ i = 13 ∨ i = 14 ∨ i = 15 ∨ i = 16 ∨ i = 17 ∨ i = 18 ∨ i = 19 ∨ i = 20 ∨ i = 21 ∨ i = 22 ∨ i = 23 ∨ i = 24 ∨ i = 25 ∨ i = 26 ∨ i = 27 ∨ i = 28 ∨ i = 29 ∨ i = 30 ∨ i = 31 ∨ i = 32 ∨ i = 33 ∨ i = 34 ∨ i = 35 ∨ i = 36 ∨ i = 37 ∨ i = 38 ∨ i = 39 ∨ i = 40 ∨ i = 41 ∨ i = 42 ∨ i = 43 ∨ i = 44 ∨ i = 45 ∨ i = 46 ∨ i = 47 ∨ i = 48 ∨ i = 49 ∨ i = 50 ∨ i = 51 ∨ i = 52 ∨ i = 53 ∨ i = 54 := by omega
          all_goals (simp only [List.getElem?_toArray, List.getElem?_cons_zero, List.getElem?_cons_succ, Option.some.injEq] at ho; subst ho)
          · -- 0
            obtain ⟨y0, y1, y2, y3, y4, y5⟩ := (HG8.out.2.below hR).six
            have s16 : ρ (.tmp 16) = .pointer (some ⟨gR, 0, none⟩) := (hρ 16 (by kernel_rfl)).trans rfl
            have hr : (Instr.loadAt 28 (.pointer (some ⟨gR, 0, none⟩))).run Try.prog u = .ok (.agg (rqc kd (pl + (s : Int) + (f x).sh) P.n P.wa b1 b2 t1 t2 d1 d2)) u := by go_simp
            exact .inl ⟨rfl, .inl ⟨.agg (rqc kd (pl + (s : Int) + (f x).sh) P.n P.wa b1 b2 t1 t2 d1 d2), u, run_load_op rfl s16 hr, rfl, hR, Below.refl _ _⟩⟩
          · -- 1
            have h0 : ρ (.tmp 89) = .agg (rqc kd (pl + (s : Int) + (f x).sh) P.n P.wa b1 b2 t1 t2 d1 d2) := hd ⟨0, .data⟩ (by simp) rfl 89 rfl
            refine .inl ⟨rfl, .inr ⟨_, _, run_call_op rfl (hf _) (args := #[.agg (rqc kd (pl + (s : Int) + (f x).sh) P.n P.wa b1 b2 t1 t2 d1 d2)]) (by simp [h0]) (by kernel_rfl), ?_⟩⟩
            refine (HO8.out _ hR).mono ?_
            rintro e u' ⟨he, b'⟩
            exact ⟨_, he, rfl, bel_next hR b', b'⟩
          · -- 2
            have h1 : ρ (.tmp 90) = .bool true := hd ⟨1, .data⟩ (by simp) rfl 90 rfl
            exact .inl ⟨rfl, .inl ⟨.bool false, u, run_un_op rfl h1 (by go_simp), rfl, hR, Below.refl _ _⟩⟩
          · -- 3
            have h2 : ρ (.tmp 91) = .bool false := hd ⟨2, .data⟩ (by simp) rfl 91 rfl
            exact .inl ⟨rfl, .inl ⟨_, u, rfl, h2, hR, Below.refl _ _⟩⟩
          · -- 4
            have g3 : ρ (.tmp 92) = .bool false := hd ⟨3, .guard⟩ (by simp) rfl 92 rfl
            have s16 : ρ (.tmp 16) = .pointer (some ⟨gR, 0, none⟩) := (hρ 16 (by kernel_rfl)).trans rfl
            exact .inl ⟨(by show (match ρ (.tmp 92) with | .bool b => b == false | _ => false) = true; rw [g3]; rfl), .inl ⟨.pointer (some ⟨gR, 0, none⟩), u, run_field_op rfl s16 (by go_simp), rfl, hR, Below.refl _ _⟩⟩
          · -- 5
            obtain ⟨y0, y1, y2, y3, y4, y5⟩ := (HG8.out.2.below hR).six
            have g3 : ρ (.tmp 92) = .bool false := hd ⟨3, .guard⟩ (by simp) rfl 92 rfl
            have h4 : ρ (.tmp 93) = .pointer (some ⟨gR, 0, none⟩) := hd ⟨4, .data⟩ (by simp) rfl 93 rfl
            have hr : (Instr.loadAt 3 (.pointer (some ⟨gR, 0, none⟩))).run Try.prog u = .ok (.int .i64 kd) u := by go_simp
            exact .inl ⟨(by show (match ρ (.tmp 92) with | .bool b => b == false | _ => false) = true; rw [g3]; rfl), .inl ⟨.int .i64 kd, u, run_load_op rfl h4 hr, rfl, hR, Below.refl _ _⟩⟩
          · -- 6
            have g3 : ρ (.tmp 92) = .bool false := hd ⟨3, .guard⟩ (by simp) rfl 92 rfl
            have s4 : ρ (.tmp 4) = .pointer (some ⟨gQ, 0, none⟩) := (hρ 4 (by kernel_rfl)).trans rfl
            exact .inl ⟨(by show (match ρ (.tmp 92) with | .bool b => b == false | _ => false) = true; rw [g3]; rfl), .inl ⟨.pointer (some ⟨gQ, 0, none⟩), u, run_field_op rfl s4 (by go_simp), rfl, hR, Below.refl _ _⟩⟩
          · -- 7
            obtain ⟨y0, y1, y2, y3, y4, y5⟩ := (HG8.out.1.below hR).six
            have g3 : ρ (.tmp 92) = .bool false := hd ⟨3, .guard⟩ (by simp) rfl 92 rfl
            have h6 : ρ (.tmp 95) = .pointer (some ⟨gQ, 0, none⟩) := hd ⟨6, .data⟩ (by simp) rfl 95 rfl
            have hr : (Instr.loadAt 3 (.pointer (some ⟨gQ, 0, none⟩))).run Try.prog u = .ok (.int .i64 kd) u := by go_simp
            exact .inl ⟨(by show (match ρ (.tmp 92) with | .bool b => b == false | _ => false) = true; rw [g3]; rfl), .inl ⟨.int .i64 kd, u, run_load_op rfl h6 hr, rfl, hR, Below.refl _ _⟩⟩
          · -- 8
            have g3 : ρ (.tmp 92) = .bool false := hd ⟨3, .guard⟩ (by simp) rfl 92 rfl
            have h5 : ρ (.tmp 94) = .int .i64 kd := hd ⟨5, .data⟩ (by simp) rfl 94 rfl
            have h7 : ρ (.tmp 96) = .int .i64 kd := hd ⟨7, .data⟩ (by simp) rfl 96 rfl
            exact .inl ⟨(by show (match ρ (.tmp 92) with | .bool b => b == false | _ => false) = true; rw [g3]; rfl), .inl ⟨.bool false, u, run_bin_op rfl h5 h7 (by go_simp), rfl, hR, Below.refl _ _⟩⟩
          · -- 9
            have h3 : ρ (.tmp 92) = .bool false := hd ⟨3, .data⟩ (by simp) rfl 92 rfl
            have h8 : ρ (.tmp 97) = .bool false := hd ⟨8, .data⟩ (by simp) rfl 97 rfl
            exact .inl ⟨rfl, .inl ⟨_, u, run_pick_op rfl h3, (by simpa using h8), hR, Below.refl _ _⟩⟩
          · -- 10
            have h9 : ρ (.tmp 98) = .bool false := hd ⟨9, .data⟩ (by simp) rfl 98 rfl
            exact .inl ⟨rfl, .inl ⟨_, u, rfl, h9, hR, Below.refl _ _⟩⟩
          · -- 11
            have g10 : ρ (.tmp 99) = .bool false := hd ⟨10, .guard⟩ (by simp) rfl 99 rfl
            have s23 : ρ (.tmp 23) = .int .i64 (x : Int) := (hρ 23 (by kernel_rfl)).trans rfl
            exact .inl ⟨(by show (match ρ (.tmp 99) with | .bool b => b == false | _ => false) = true; rw [g10]; rfl), .inl ⟨_, u, rfl, s23, hR, Below.refl _ _⟩⟩
          · -- 12
            have g10 : ρ (.tmp 99) = .bool false := hd ⟨10, .guard⟩ (by simp) rfl 99 rfl
            have h11 : ρ (.tmp 100) = .int .i64 (x : Int) := hd ⟨11, .data⟩ (by simp) rfl 100 rfl
            exact .inl ⟨(by show (match ρ (.tmp 99) with | .bool b => b == false | _ => false) = true; rw [g10]; rfl), .inl ⟨.bool false, u, run_bin_op rfl h11 (hc _) (by go_simp), rfl, hR, Below.refl _ _⟩⟩
          · -- 13
            have h10 : ρ (.tmp 99) = .bool false := hd ⟨10, .data⟩ (by simp) rfl 99 rfl
            have h12 : ρ (.tmp 101) = .bool false := hd ⟨12, .data⟩ (by simp) rfl 101 rfl
            exact .inl ⟨rfl, .inl ⟨_, u, run_pick_op rfl h10, (by simpa using h12), hR, Below.refl _ _⟩⟩
          · -- 14
            have h13 : ρ (.tmp 102) = .bool false := hd ⟨13, .data⟩ (by simp) rfl 102 rfl
            exact .inl ⟨rfl, .inl ⟨_, u, rfl, h13, hR, Below.refl _ _⟩⟩
          · -- 15
            have g14 : ρ (.tmp 103) = .bool false := hd ⟨14, .guard⟩ (by simp) rfl 103 rfl
            have s3 : ρ (.tmp 3) = .slice (some ⟨bb, off, none⟩) vn vc := (hρ 3 (by kernel_rfl)).trans rfl
            exact .inl ⟨(by show (match ρ (.tmp 103) with | .bool b => b == false | _ => false) = true; rw [g14]; rfl), .inl ⟨_, u, rfl, s3, hR, Below.refl _ _⟩⟩
          · -- 16
            have g14 : ρ (.tmp 103) = .bool false := hd ⟨14, .guard⟩ (by simp) rfl 103 rfl
            have s23 : ρ (.tmp 23) = .int .i64 (x : Int) := (hρ 23 (by kernel_rfl)).trans rfl
            exact .inl ⟨(by show (match ρ (.tmp 103) with | .bool b => b == false | _ => false) = true; rw [g14]; rfl), .inl ⟨_, u, rfl, s23, hR, Below.refl _ _⟩⟩
          · -- 17
            have g14 : ρ (.tmp 103) = .bool false := hd ⟨14, .guard⟩ (by simp) rfl 103 rfl
            have h15 : ρ (.tmp 104) = .slice (some ⟨bb, off, none⟩) vn vc := hd ⟨15, .data⟩ (by simp) rfl 104 rfl
            have h16 : ρ (.tmp 105) = .int .i64 (x : Int) := hd ⟨16, .data⟩ (by simp) rfl 105 rfl
            exact .inl ⟨(by show (match ρ (.tmp 103) with | .bool b => b == false | _ => false) = true; rw [g14]; rfl), .inl ⟨.pointer (some ⟨bb, off + x * 7, none⟩), u, run_index_op rfl h15 h16 (by go_simp), rfl, hR, Below.refl _ _⟩⟩
          · -- 18
            have g14 : ρ (.tmp 103) = .bool false := hd ⟨14, .guard⟩ (by simp) rfl 103 rfl
            have h17 : ρ (.tmp 106) = .pointer (some ⟨bb, off + x * 7, none⟩) := hd ⟨17, .data⟩ (by simp) rfl 106 rfl
            exact .inl ⟨(by show (match ρ (.tmp 103) with | .bool b => b == false | _ => false) = true; rw [g14]; rfl), .inl ⟨.pointer (some ⟨bb, off + x * 7 + 4, none⟩), u, run_field_op rfl h17 (by go_simp), rfl, hR, Below.refl _ _⟩⟩
          · -- 19
            obtain ⟨j4, j5, j6⟩ := HC8.out u hR
            have g14 : ρ (.tmp 103) = .bool false := hd ⟨14, .guard⟩ (by simp) rfl 103 rfl
            have h18 : ρ (.tmp 107) = .pointer (some ⟨bb, off + x * 7 + 4, none⟩) := hd ⟨18, .data⟩ (by simp) rfl 107 rfl
            have hr : (Instr.loadAt 3 (.pointer (some ⟨bb, off + x * 7 + 4, none⟩))).run Try.prog u = .ok (.int .i64 (f x).p) u := by go_simp
            exact .inl ⟨(by show (match ρ (.tmp 103) with | .bool b => b == false | _ => false) = true; rw [g14]; rfl), .inl ⟨.int .i64 (f x).p, u, run_load_op rfl h18 hr, rfl, hR, Below.refl _ _⟩⟩
          · -- 20
            have g14 : ρ (.tmp 103) = .bool false := hd ⟨14, .guard⟩ (by simp) rfl 103 rfl
            have s5 : ρ (.tmp 5) = .slice (some ⟨lb, lo, none⟩) N vd := (hρ 5 (by kernel_rfl)).trans rfl
            exact .inl ⟨(by show (match ρ (.tmp 103) with | .bool b => b == false | _ => false) = true; rw [g14]; rfl), .inl ⟨_, u, rfl, s5, hR, Below.refl _ _⟩⟩
          · -- 21
            have g14 : ρ (.tmp 103) = .bool false := hd ⟨14, .guard⟩ (by simp) rfl 103 rfl
            have s15 : ρ (.tmp 15) = .int .i64 (z : Int) := (hρ 15 (by kernel_rfl)).trans rfl
            exact .inl ⟨(by show (match ρ (.tmp 103) with | .bool b => b == false | _ => false) = true; rw [g14]; rfl), .inl ⟨_, u, rfl, s15, hR, Below.refl _ _⟩⟩
          · -- 22
            have g14 : ρ (.tmp 103) = .bool false := hd ⟨14, .guard⟩ (by simp) rfl 103 rfl
            have h20 : ρ (.tmp 109) = .slice (some ⟨lb, lo, none⟩) N vd := hd ⟨20, .data⟩ (by simp) rfl 109 rfl
            have h21 : ρ (.tmp 110) = .int .i64 (z : Int) := hd ⟨21, .data⟩ (by simp) rfl 110 rfl
            exact .inl ⟨(by show (match ρ (.tmp 103) with | .bool b => b == false | _ => false) = true; rw [g14]; rfl), .inl ⟨.pointer (some ⟨lb, lo + z * 8, none⟩), u, run_index_op rfl h20 h21 (by go_simp), rfl, hR, Below.refl _ _⟩⟩
          · -- 23
            have g14 : ρ (.tmp 103) = .bool false := hd ⟨14, .guard⟩ (by simp) rfl 103 rfl
            have h22 : ρ (.tmp 111) = .pointer (some ⟨lb, lo + z * 8, none⟩) := hd ⟨22, .data⟩ (by simp) rfl 111 rfl
            exact .inl ⟨(by show (match ρ (.tmp 103) with | .bool b => b == false | _ => false) = true; rw [g14]; rfl), .inl ⟨.pointer (some ⟨lb, lo + z * 8, none⟩), u, run_field_op rfl h22 (by go_simp), rfl, hR, Below.refl _ _⟩⟩
          · -- 24
            obtain ⟨i0, i1⟩ := HL8.out u hR
            have g14 : ρ (.tmp 103) = .bool false := hd ⟨14, .guard⟩ (by simp) rfl 103 rfl
            have h23 : ρ (.tmp 112) = .pointer (some ⟨lb, lo + z * 8, none⟩) := hd ⟨23, .data⟩ (by simp) rfl 112 rfl
            have hr : (Instr.loadAt 3 (.pointer (some ⟨lb, lo + z * 8, none⟩))).run Try.prog u = .ok (.int .i64 (f x).p) u := by go_simp
            exact .inl ⟨(by show (match ρ (.tmp 103) with | .bool b => b == false | _ => false) = true; rw [g14]; rfl), .inl ⟨.int .i64 (f x).p, u, run_load_op rfl h23 hr, rfl, hR, Below.refl _ _⟩⟩
          · -- 25
            have g14 : ρ (.tmp 103) = .bool false := hd ⟨14, .guard⟩ (by simp) rfl 103 rfl
            have h19 : ρ (.tmp 108) = .int .i64 (f x).p := hd ⟨19, .data⟩ (by simp) rfl 108 rfl
            have h24 : ρ (.tmp 113) = .int .i64 (f x).p := hd ⟨24, .data⟩ (by simp) rfl 113 rfl
            exact .inl ⟨(by show (match ρ (.tmp 103) with | .bool b => b == false | _ => false) = true; rw [g14]; rfl), .inl ⟨.bool false, u, run_bin_op rfl h19 h24 (by go_simp), rfl, hR, Below.refl _ _⟩⟩
          · -- 26
            have h14 : ρ (.tmp 103) = .bool false := hd ⟨14, .data⟩ (by simp) rfl 103 rfl
            have h25 : ρ (.tmp 114) = .bool false := hd ⟨25, .data⟩ (by simp) rfl 114 rfl
            exact .inl ⟨rfl, .inl ⟨_, u, run_pick_op rfl h14, (by simpa using h25), hR, Below.refl _ _⟩⟩
          · -- 27
            have h26 : ρ (.tmp 115) = .bool false := hd ⟨26, .data⟩ (by simp) rfl 115 rfl
            exact .inl ⟨rfl, .inl ⟨_, u, rfl, h26, hR, Below.refl _ _⟩⟩
          · -- 28
            have g27 : ρ (.tmp 116) = .bool false := hd ⟨27, .guard⟩ (by simp) rfl 116 rfl
            have s3 : ρ (.tmp 3) = .slice (some ⟨bb, off, none⟩) vn vc := (hρ 3 (by kernel_rfl)).trans rfl
            exact .inl ⟨(by show (match ρ (.tmp 116) with | .bool b => b == false | _ => false) = true; rw [g27]; rfl), .inl ⟨_, u, rfl, s3, hR, Below.refl _ _⟩⟩
          · -- 29
            have g27 : ρ (.tmp 116) = .bool false := hd ⟨27, .guard⟩ (by simp) rfl 116 rfl
            have s23 : ρ (.tmp 23) = .int .i64 (x : Int) := (hρ 23 (by kernel_rfl)).trans rfl
            exact .inl ⟨(by show (match ρ (.tmp 116) with | .bool b => b == false | _ => false) = true; rw [g27]; rfl), .inl ⟨_, u, rfl, s23, hR, Below.refl _ _⟩⟩
          · -- 30
            have g27 : ρ (.tmp 116) = .bool false := hd ⟨27, .guard⟩ (by simp) rfl 116 rfl
            have h28 : ρ (.tmp 117) = .slice (some ⟨bb, off, none⟩) vn vc := hd ⟨28, .data⟩ (by simp) rfl 117 rfl
            have h29 : ρ (.tmp 118) = .int .i64 (x : Int) := hd ⟨29, .data⟩ (by simp) rfl 118 rfl
            exact .inl ⟨(by show (match ρ (.tmp 116) with | .bool b => b == false | _ => false) = true; rw [g27]; rfl), .inl ⟨.pointer (some ⟨bb, off + x * 7, none⟩), u, run_index_op rfl h28 h29 (by go_simp), rfl, hR, Below.refl _ _⟩⟩
          · -- 31
            have g27 : ρ (.tmp 116) = .bool false := hd ⟨27, .guard⟩ (by simp) rfl 116 rfl
            have h30 : ρ (.tmp 119) = .pointer (some ⟨bb, off + x * 7, none⟩) := hd ⟨30, .data⟩ (by simp) rfl 119 rfl
            exact .inl ⟨(by show (match ρ (.tmp 116) with | .bool b => b == false | _ => false) = true; rw [g27]; rfl), .inl ⟨.pointer (some ⟨bb, off + x * 7 + 5, none⟩), u, run_field_op rfl h30 (by go_simp), rfl, hR, Below.refl _ _⟩⟩
          · -- 32
            obtain ⟨j4, j5, j6⟩ := HC8.out u hR
            have g27 : ρ (.tmp 116) = .bool false := hd ⟨27, .guard⟩ (by simp) rfl 116 rfl
            have h31 : ρ (.tmp 120) = .pointer (some ⟨bb, off + x * 7 + 5, none⟩) := hd ⟨31, .data⟩ (by simp) rfl 120 rfl
            have hr : (Instr.loadAt 3 (.pointer (some ⟨bb, off + x * 7 + 5, none⟩))).run Try.prog u = .ok (.int .i64 (f x).t) u := by go_simp
            exact .inl ⟨(by show (match ρ (.tmp 116) with | .bool b => b == false | _ => false) = true; rw [g27]; rfl), .inl ⟨.int .i64 (f x).t, u, run_load_op rfl h31 hr, rfl, hR, Below.refl _ _⟩⟩
          · -- 33
            have g27 : ρ (.tmp 116) = .bool false := hd ⟨27, .guard⟩ (by simp) rfl 116 rfl
            have s5 : ρ (.tmp 5) = .slice (some ⟨lb, lo, none⟩) N vd := (hρ 5 (by kernel_rfl)).trans rfl
            exact .inl ⟨(by show (match ρ (.tmp 116) with | .bool b => b == false | _ => false) = true; rw [g27]; rfl), .inl ⟨_, u, rfl, s5, hR, Below.refl _ _⟩⟩
          · -- 34
            have g27 : ρ (.tmp 116) = .bool false := hd ⟨27, .guard⟩ (by simp) rfl 116 rfl
            have s15 : ρ (.tmp 15) = .int .i64 (z : Int) := (hρ 15 (by kernel_rfl)).trans rfl
            exact .inl ⟨(by show (match ρ (.tmp 116) with | .bool b => b == false | _ => false) = true; rw [g27]; rfl), .inl ⟨_, u, rfl, s15, hR, Below.refl _ _⟩⟩
          · -- 35
            have g27 : ρ (.tmp 116) = .bool false := hd ⟨27, .guard⟩ (by simp) rfl 116 rfl
            have h33 : ρ (.tmp 122) = .slice (some ⟨lb, lo, none⟩) N vd := hd ⟨33, .data⟩ (by simp) rfl 122 rfl
            have h34 : ρ (.tmp 123) = .int .i64 (z : Int) := hd ⟨34, .data⟩ (by simp) rfl 123 rfl
            exact .inl ⟨(by show (match ρ (.tmp 116) with | .bool b => b == false | _ => false) = true; rw [g27]; rfl), .inl ⟨.pointer (some ⟨lb, lo + z * 8, none⟩), u, run_index_op rfl h33 h34 (by go_simp), rfl, hR, Below.refl _ _⟩⟩
          · -- 36
            have g27 : ρ (.tmp 116) = .bool false := hd ⟨27, .guard⟩ (by simp) rfl 116 rfl
            have h35 : ρ (.tmp 124) = .pointer (some ⟨lb, lo + z * 8, none⟩) := hd ⟨35, .data⟩ (by simp) rfl 124 rfl
            exact .inl ⟨(by show (match ρ (.tmp 116) with | .bool b => b == false | _ => false) = true; rw [g27]; rfl), .inl ⟨.pointer (some ⟨lb, lo + z * 8 + 1, none⟩), u, run_field_op rfl h35 (by go_simp), rfl, hR, Below.refl _ _⟩⟩
          · -- 37
            obtain ⟨i0, i1⟩ := HL8.out u hR
            have g27 : ρ (.tmp 116) = .bool false := hd ⟨27, .guard⟩ (by simp) rfl 116 rfl
            have h36 : ρ (.tmp 125) = .pointer (some ⟨lb, lo + z * 8 + 1, none⟩) := hd ⟨36, .data⟩ (by simp) rfl 125 rfl
            have hr : (Instr.loadAt 3 (.pointer (some ⟨lb, lo + z * 8 + 1, none⟩))).run Try.prog u = .ok (.int .i64 (f x).t) u := by go_simp
            exact .inl ⟨(by show (match ρ (.tmp 116) with | .bool b => b == false | _ => false) = true; rw [g27]; rfl), .inl ⟨.int .i64 (f x).t, u, run_load_op rfl h36 hr, rfl, hR, Below.refl _ _⟩⟩
          · -- 38
            have g27 : ρ (.tmp 116) = .bool false := hd ⟨27, .guard⟩ (by simp) rfl 116 rfl
            have h32 : ρ (.tmp 121) = .int .i64 (f x).t := hd ⟨32, .data⟩ (by simp) rfl 121 rfl
            have h37 : ρ (.tmp 126) = .int .i64 (f x).t := hd ⟨37, .data⟩ (by simp) rfl 126 rfl
            exact .inl ⟨(by show (match ρ (.tmp 116) with | .bool b => b == false | _ => false) = true; rw [g27]; rfl), .inl ⟨.bool false, u, run_bin_op rfl h32 h37 (by go_simp), rfl, hR, Below.refl _ _⟩⟩
          · -- 39
            have h27 : ρ (.tmp 116) = .bool false := hd ⟨27, .data⟩ (by simp) rfl 116 rfl
            have h38 : ρ (.tmp 127) = .bool false := hd ⟨38, .data⟩ (by simp) rfl 127 rfl
            exact .inl ⟨rfl, .inl ⟨_, u, run_pick_op rfl h27, (by simpa using h38), hR, Below.refl _ _⟩⟩
          · -- 40
            have h39 : ρ (.tmp 128) = .bool false := hd ⟨39, .data⟩ (by simp) rfl 128 rfl
            exact .inl ⟨rfl, .inl ⟨_, u, rfl, h39, hR, Below.refl _ _⟩⟩
          · -- 41
            have g40 : ρ (.tmp 129) = .bool false := hd ⟨40, .guard⟩ (by simp) rfl 129 rfl
            have s16 : ρ (.tmp 16) = .pointer (some ⟨gR, 0, none⟩) := (hρ 16 (by kernel_rfl)).trans rfl
            exact .inl ⟨(by show (match ρ (.tmp 129) with | .bool b => b == false | _ => false) = true; rw [g40]; rfl), .inl ⟨.pointer (some ⟨gR, 1, none⟩), u, run_field_op rfl s16 (by go_simp), rfl, hR, Below.refl _ _⟩⟩
          · -- 42
            obtain ⟨y0, y1, y2, y3, y4, y5⟩ := (HG8.out.2.below hR).six
            have g40 : ρ (.tmp 129) = .bool false := hd ⟨40, .guard⟩ (by simp) rfl 129 rfl
            have h41 : ρ (.tmp 130) = .pointer (some ⟨gR, 1, none⟩) := hd ⟨41, .data⟩ (by simp) rfl 130 rfl
            have hr : (Instr.loadAt 3 (.pointer (some ⟨gR, 1, none⟩))).run Try.prog u = .ok (.int .i64 (pl + (s : Int) + (f x).sh)) u := by go_simp
            exact .inl ⟨(by show (match ρ (.tmp 129) with | .bool b => b == false | _ => false) = true; rw [g40]; rfl), .inl ⟨.int .i64 (pl + (s : Int) + (f x).sh), u, run_load_op rfl h41 hr, rfl, hR, Below.refl _ _⟩⟩
          · -- 43
            have g40 : ρ (.tmp 129) = .bool false := hd ⟨40, .guard⟩ (by simp) rfl 129 rfl
            have s4 : ρ (.tmp 4) = .pointer (some ⟨gQ, 0, none⟩) := (hρ 4 (by kernel_rfl)).trans rfl
            exact .inl ⟨(by show (match ρ (.tmp 129) with | .bool b => b == false | _ => false) = true; rw [g40]; rfl), .inl ⟨.pointer (some ⟨gQ, 1, none⟩), u, run_field_op rfl s4 (by go_simp), rfl, hR, Below.refl _ _⟩⟩
          · -- 44
            obtain ⟨y0, y1, y2, y3, y4, y5⟩ := (HG8.out.1.below hR).six
            have g40 : ρ (.tmp 129) = .bool false := hd ⟨40, .guard⟩ (by simp) rfl 129 rfl
            have h43 : ρ (.tmp 132) = .pointer (some ⟨gQ, 1, none⟩) := hd ⟨43, .data⟩ (by simp) rfl 132 rfl
            have hr : (Instr.loadAt 3 (.pointer (some ⟨gQ, 1, none⟩))).run Try.prog u = .ok (.int .i64 pl) u := by go_simp
            exact .inl ⟨(by show (match ρ (.tmp 129) with | .bool b => b == false | _ => false) = true; rw [g40]; rfl), .inl ⟨.int .i64 pl, u, run_load_op rfl h43 hr, rfl, hR, Below.refl _ _⟩⟩
          · -- 45
            have g40 : ρ (.tmp 129) = .bool false := hd ⟨40, .guard⟩ (by simp) rfl 129 rfl
            have s12 : ρ (.tmp 12) = .int .i64 (s : Int) := (hρ 12 (by kernel_rfl)).trans rfl
            exact .inl ⟨(by show (match ρ (.tmp 129) with | .bool b => b == false | _ => false) = true; rw [g40]; rfl), .inl ⟨_, u, rfl, s12, hR, Below.refl _ _⟩⟩
          · -- 46
            have g40 : ρ (.tmp 129) = .bool false := hd ⟨40, .guard⟩ (by simp) rfl 129 rfl
            have h44 : ρ (.tmp 133) = .int .i64 pl := hd ⟨44, .data⟩ (by simp) rfl 133 rfl
            have h45 : ρ (.tmp 134) = .int .i64 (s : Int) := hd ⟨45, .data⟩ (by simp) rfl 134 rfl
            exact .inl ⟨(by show (match ρ (.tmp 129) with | .bool b => b == false | _ => false) = true; rw [g40]; rfl), .inl ⟨.int .i64 (pl + (s : Int)), u, run_bin_op rfl h44 h45 (by go_simp), rfl, hR, Below.refl _ _⟩⟩
          · -- 47
            have g40 : ρ (.tmp 129) = .bool false := hd ⟨40, .guard⟩ (by simp) rfl 129 rfl
            have s3 : ρ (.tmp 3) = .slice (some ⟨bb, off, none⟩) vn vc := (hρ 3 (by kernel_rfl)).trans rfl
            exact .inl ⟨(by show (match ρ (.tmp 129) with | .bool b => b == false | _ => false) = true; rw [g40]; rfl), .inl ⟨_, u, rfl, s3, hR, Below.refl _ _⟩⟩
          · -- 48
            have g40 : ρ (.tmp 129) = .bool false := hd ⟨40, .guard⟩ (by simp) rfl 129 rfl
            have s23 : ρ (.tmp 23) = .int .i64 (x : Int) := (hρ 23 (by kernel_rfl)).trans rfl
            exact .inl ⟨(by show (match ρ (.tmp 129) with | .bool b => b == false | _ => false) = true; rw [g40]; rfl), .inl ⟨_, u, rfl, s23, hR, Below.refl _ _⟩⟩
          · -- 49
            have g40 : ρ (.tmp 129) = .bool false := hd ⟨40, .guard⟩ (by simp) rfl 129 rfl
            have h47 : ρ (.tmp 136) = .slice (some ⟨bb, off, none⟩) vn vc := hd ⟨47, .data⟩ (by simp) rfl 136 rfl
            have h48 : ρ (.tmp 137) = .int .i64 (x : Int) := hd ⟨48, .data⟩ (by simp) rfl 137 rfl
            exact .inl ⟨(by show (match ρ (.tmp 129) with | .bool b => b == false | _ => false) = true; rw [g40]; rfl), .inl ⟨.pointer (some ⟨bb, off + x * 7, none⟩), u, run_index_op rfl h47 h48 (by go_simp), rfl, hR, Below.refl _ _⟩⟩
          · -- 50
            have g40 : ρ (.tmp 129) = .bool false := hd ⟨40, .guard⟩ (by simp) rfl 129 rfl
            have h49 : ρ (.tmp 138) = .pointer (some ⟨bb, off + x * 7, none⟩) := hd ⟨49, .data⟩ (by simp) rfl 138 rfl
            exact .inl ⟨(by show (match ρ (.tmp 129) with | .bool b => b == false | _ => false) = true; rw [g40]; rfl), .inl ⟨.pointer (some ⟨bb, off + x * 7 + 6, none⟩), u, run_field_op rfl h49 (by go_simp), rfl, hR, Below.refl _ _⟩⟩
          · -- 51
            obtain ⟨j4, j5, j6⟩ := HC8.out u hR
            have g40 : ρ (.tmp 129) = .bool false := hd ⟨40, .guard⟩ (by simp) rfl 129 rfl
            have h50 : ρ (.tmp 139) = .pointer (some ⟨bb, off + x * 7 + 6, none⟩) := hd ⟨50, .data⟩ (by simp) rfl 139 rfl
            have hr : (Instr.loadAt 3 (.pointer (some ⟨bb, off + x * 7 + 6, none⟩))).run Try.prog u = .ok (.int .i64 (f x).sh) u := by go_simp
            exact .inl ⟨(by show (match ρ (.tmp 129) with | .bool b => b == false | _ => false) = true; rw [g40]; rfl), .inl ⟨.int .i64 (f x).sh, u, run_load_op rfl h50 hr, rfl, hR, Below.refl _ _⟩⟩
          · -- 52
            have g40 : ρ (.tmp 129) = .bool false := hd ⟨40, .guard⟩ (by simp) rfl 129 rfl
            have h46 : ρ (.tmp 135) = .int .i64 (pl + (s : Int)) := hd ⟨46, .data⟩ (by simp) rfl 135 rfl
            have h51 : ρ (.tmp 140) = .int .i64 (f x).sh := hd ⟨51, .data⟩ (by simp) rfl 140 rfl
            exact .inl ⟨(by show (match ρ (.tmp 129) with | .bool b => b == false | _ => false) = true; rw [g40]; rfl), .inl ⟨.int .i64 (pl + (s : Int) + (f x).sh), u, run_bin_op rfl h46 h51 (by go_simp), rfl, hR, Below.refl _ _⟩⟩
          · -- 53
            have g40 : ρ (.tmp 129) = .bool false := hd ⟨40, .guard⟩ (by simp) rfl 129 rfl
            have h42 : ρ (.tmp 131) = .int .i64 (pl + (s : Int) + (f x).sh) := hd ⟨42, .data⟩ (by simp) rfl 131 rfl
            have h52 : ρ (.tmp 141) = .int .i64 (pl + (s : Int) + (f x).sh) := hd ⟨52, .data⟩ (by simp) rfl 141 rfl
            exact .inl ⟨(by show (match ρ (.tmp 129) with | .bool b => b == false | _ => false) = true; rw [g40]; rfl), .inl ⟨.bool false, u, run_bin_op rfl h42 h52 (by go_simp), rfl, hR, Below.refl _ _⟩⟩
          · -- 54
            have h40 : ρ (.tmp 129) = .bool false := hd ⟨40, .data⟩ (by simp) rfl 129 rfl
            have h53 : ρ (.tmp 142) = .bool false := hd ⟨53, .data⟩ (by simp) rfl 142 rfl
            exact .inl ⟨rfl, .inl ⟨_, u, run_pick_op rfl h40, (by simpa using h53), hR, Below.refl _ _⟩⟩
      · have hi : ¬ (z : Int) < (N : Int) := by omega
        have ez : z = N := by omega
        subst ez
        have HE : Hid (SlI wr wa1 ws ∧ SlB wr ba1 bs ∧ wn = ws.length ∧ bn = bs.length ∧ Below w5.heap.size w5 wr ∧ (Sf z : Int) = (cn : Int)) := by
          have q1 := HGT.out.1.sl
          have q2 := HGT.out.2.1.sl
          have et : Ps.take z = Ps := List.take_of_length_le (by have := HG.out; omega)
          rw [et, HG.out.2.2.2.1] at q1
          rw [et, HG.out.2.2.2.2.1] at q2
          exact ⟨q1.2, q2.2, q1.1, q2.1, HGT.out.2.2, by rw [HV.out.2.2.1]; exact HG.out.2.1⟩
        have deq : ((Sf z : Int) == (cn : Int)) = true := by rw [HE.out.2.2.2.2.2]; simp
        obtain ⟨y0, y1, y2, y3, y4, y5⟩ := (HW5.out.2.2.2.2.1.below HE.out.2.2.2.2.1).six
        clear HGT
        go_wp2_with fail
        refine (sameInts_true wa1 a1 wn l1 wc1 c1 ws _ HE.out.2.2.1 HL.out.1 HE.out.1 (HW5.out.2.2.1.below HE.out.2.2.2.2.1) (by have := HL.out; omega)).mono ?_
        rintro e w6 ⟨rfl, b6'⟩
        have b6 : Below wr.heap.size wr w6 := by obtain ⟨k6, rfl⟩ := b6'; exact bel_drewN (Below.refl _ _) _
        clear b6'
        have B6 : Hid (Below w5.heap.size w5 w6 ∧ SlB w6 ba1 bs) := ⟨bel_next HE.out.2.2.2.2.1 b6, HE.out.2.1.below b6⟩
        clear b6 y0 y1 y2 y3 y4 y5
        obtain ⟨y0, y1, y2, y3, y4, y5⟩ := (HW5.out.2.2.2.2.1.below B6.out.1).six
        go_wp2_with fail
        refine (sameBits_true ba1 a2 bn l2 bc1 c2 bs _ HE.out.2.2.2.1 HL.out.2.1 B6.out.2 (HW5.out.2.2.2.1.below B6.out.1) (by have := HL.out; omega)).mono ?_
        rintro e w7 ⟨rfl, b7'⟩
        have b7 : Below w6.heap.size w6 w7 := by obtain ⟨k7, rfl⟩ := b7'; exact bel_drewN (Below.refl _ _) _
        clear b7'
        have B7 : Hid (Below w5.heap.size w5 w7) := bel_next B6.out.1 b7
        clear b7 y0 y1 y2 y3 y4 y5
        go_wp2_with fail
        refine (implRulesOk_any va vn vc f _ (SlS.below HW5.out.2.1 B7.out) (by omega) HF.out.2.2.1 true ⟨fun _ => HG.out.2.2.2.2.2.2.2.1, fun _ => rfl⟩).mono ?_
        rintro e w9 ⟨rfl, b9⟩
        have B9 : Hid (Below w.heap.size w w9) := bel_next (bel_next HW5.out.1 B7.out) b9
        clear b9
        go_wp2
        go_ret
        exact ⟨rfl, B9.out⟩

set_option maxRecDepth 20000 in
set_option maxHeartbeats 1000000 in
theorem parted_big (a : Option Addr) (cap : Nat) (zs : List Int) (w : World) (hbig : (1048576 : Int) < (zs.length : Int)) :
    Calls Try.prog 3 #[.slice a zs.length cap] w fun e w' => e = .returned (.bool true) ∧ Below w.heap.size w w' := by
  go_enter Try.func3, Try.ntmps3
  go_wp2
  go_ret
  exact ⟨rfl, Below.refl _ _⟩

end Go.Proofs.Ytaaokbmfpfmfgaa

/- The law of frames on streams, walked: a drawn frame comes back; cut it is waited for. -/
import Derived.Test.YtbdlppihiffjgaaMb5
import Derived.Test.YtbdlppihiffjgaaMb6
import Derived.Test.YtbdlppihiffjgaaAt1
import Derived.Test.YtbdlppihiffjgaaBys
namespace Go.Proofs.Ytbdlppihiffjgaa
open Go.RowKit

set_option linter.unusedVariables false

set_option linter.unusedSimpArgs false

theorem Own.capM {w : World} {base : Nat} {a : Option Addr} {n c : Nat} {zs : List Int} (h : Own w base (.slice a n c) zs) : n ≤ c := by
  obtain ⟨_, h2⟩ := h
  rcases h2 with ⟨h2, h3⟩ | ⟨g, cap', cur, hv, _, _, hle, _⟩
  · simp only [Value.slice.injEq] at h2; omega
  · simp only [Value.slice.injEq] at hv; omega

theorem mbL_rg {nu un : Int} {bs : List Int} (h : 0 ≤ nu ∧ nu ≤ 65535 ∧ 0 ≤ un ∧ un ≤ 255 ∧ 1 ≤ bs.length ∧ bs.length ≤ 253) (hr : ∀ z ∈ bs, 0 ≤ z ∧ z ≤ 255) : ∀ z ∈ mbL nu un bs, 0 ≤ z ∧ z ≤ 255 := by
  intro z hz
  simp only [mbL, List.mem_cons] at hz
  rcases hz with h' | h' | h' | h' | h' | h' | h' | h'
  all_goals first | exact hr z h' | omega

set_option maxRecDepth 20000 in
set_option maxHeartbeats 2000000 in
theorem mbap_law (a : Option Addr) (cap : Nat) (zs : List Int) (w : World) (hs : Sl w a zs) (hr : ∀ z ∈ zs, 0 ≤ z ∧ z ≤ 255) (hl : zs.length ≤ 1048576) :
    Calls Try.prog 4 #[.slice a zs.length cap] w fun e w' => e = .returned (.bool true) ∧ Below w.heap.size w w' := by
  have H : Hid (Sl w a zs ∧ (∀ z ∈ zs, 0 ≤ z ∧ z ≤ 255) ∧ zs.length ≤ 1048576) := ⟨hs, hr, hl⟩
  have hbg : ¬ (1048576 : Int) < (zs.length : Int) := by omega
  clear hs hr hl
  go_enter Try.func4, Try.ntmps4
  go_wp2_with (go_at_call 9; go_in)
  refine (drawPutMbap_any w a _ cap zs rfl H.out.1 H.out.2.1 H.out.2.2).mono ?_
  rintro e w1 ⟨nu, un, ad, m, c, bs, rfl, hm, hm2, o1, hbr, b1⟩
  have HB : Hid (m = bs.length ∧ m ≤ 260) := ⟨hm, hm2⟩
  have HBR : Hid (∀ z ∈ bs, 0 ≤ z ∧ z ≤ 255) := hbr
  clear hm hm2 hbr
  go_wp2_with fail
  refine (implPutMbap_any nu un ad m c bs _ HB.out.1 o1.sl.2 (by have := HB.out; omega)).mono ?_
  rintro e w2 ⟨aF, cF, nF, rfl, hnF, oF, b'⟩
  have b2 := bel_next b1 b'
  have o2 := o1.below b'
  have oF2 := oF.monoT b1.size
  have HNF : Hid (nF = (mbV nu un bs).length) := hnF
  clear oF b' b1 o1 hnF
  go_wp2_with fail
  refine (specPutMbap_any nu un ad m c bs _ HB.out.1 o2.sl.2 (by have := HB.out; omega)).mono ?_
  rintro e w3 ⟨aG, cG, nG, rfl, hnG, oG, b'⟩
  have b3 := bel_next b2 b'
  have o3 := o2.below b'
  have oF3 := oF2.below b'
  have HNG : Hid (nG = (mbV nu un bs).length) := hnG
  clear oG b' b2 o2 oF2 hnG
  by_cases hok : 0 ≤ nu ∧ nu ≤ 65535 ∧ 0 ≤ un ∧ un ≤ 255 ∧ 1 ≤ bs.length ∧ bs.length ≤ 253
  case neg =>
    have e0 : mbV nu un bs = [] := mbV_no hok
    obtain rfl : nG = 0 := by rw [HNG.out, e0]; rfl
    obtain rfl : nF = 0 := by rw [HNF.out, e0]; rfl
    clear o3 oF3 HNF HNG
    go_wp2_with fail
    go_ret
    exact ⟨rfl, b3⟩
  have e0 : mbV nu un bs = mbL nu un bs := mbV_yes hok
  rw [e0] at oF3
  have HG : Hid (nG = m + 7) := by show nG = m + 7; rw [HNG.out, e0, mbL_len, HB.out.1]
  have HF : Hid (nF = m + 7 ∧ nF = (mbL nu un bs).length ∧ nF ≤ 300) := by have h := HNF.out; rw [e0] at h; have h2 := h; rw [mbL_len] at h2; have := HB.out; exact ⟨by omega, h, by omega⟩
  have HOK : Hid (0 ≤ nu ∧ nu ≤ 65535 ∧ 0 ≤ un ∧ un ≤ 255 ∧ 1 ≤ bs.length ∧ bs.length ≤ 253) := hok
  clear HNF HNG e0 hok
  have hg0 : ((nG : Int) == 0) = false := by have := HG.out; simp; omega
  have b4 := bel_next b3 (bel_alloc w3 (.cells #[] 5))
  have o4 := o3.below (bel_alloc w3 (.cells #[] 5))
  have oF4 := oF3.below (bel_alloc w3 (.cells #[] 5))
  obtain ⟨gF, cF', hv, _, _⟩ := own_some oF4 (by rw [mbL_len]; omega)
  simp only [Value.slice.injEq] at hv
  obtain ⟨rfl, e1, e2⟩ := hv
  clear e1 e2
  have i4 : Own (w3.alloc (.cells #[] 5)) w3.heap.size (.slice (some ⟨w3.heap.size, 0, none⟩) 0 0) [] := ⟨rfl, .inr ⟨w3.heap.size, 0, #[], rfl, Nat.le_refl _, Blk.new w3 #[] 5, by simp, by simp, rfl, rfl⟩⟩
  have hw3 : w.heap.size ≤ w3.heap.size := b3.size
  have HQ : Hid (([] : List Int).length + (mbL nu un bs).length ≤ 4000000) := hide (by have := HF.out; simp; omega)
  have HFC : Hid (nF ≤ cF) := Own.capM oF4
  have HO3 : Hid (Own w3 w.heap.size (.slice ad m c) bs) := o3
  have HOF3 : Hid (Own w3 w.heap.size (.slice (some ⟨gF, 0, none⟩) nF cF) (mbL nu un bs)) := oF3
  have HB3 : Hid (Below w.heap.size w w3) := b3
  clear b3 o3 oF3 b4 o4
  have HQ2 : Hid ((mbL nu un bs).length + [(1 : Int), 2].length ≤ 4000000) := hide (by have := HF.out; simp; omega)
  have HXX : Hid (nxC (mbL nu un bs ++ [1, 2]) = 1 ∧ nxN (mbL nu un bs ++ [1, 2]) = nu ∧ nxU (mbL nu un bs ++ [1, 2]) = un ∧ nxP (mbL nu un bs ++ [1, 2]) = bs ∧ nxK (mbL nu un bs ++ [1, 2]) = (bs.length : Int) + 7) := by have h := HOK.out; exact nx_mb nu un bs [1, 2] h.1 h.2.1 h.2.2.2.2.1 h.2.2.2.2.2
  have HCC : Hid (∀ k, k < m + 7 → nxC ((mbL nu un bs).take k) = 0) := by have h := HOK.out; have := HB.out; exact fun k hk => nx_cut nu un bs k h.2.2.2.2.1 h.2.2.2.2.2 (by omega)
  have HRR : Hid (∀ z ∈ mbL nu un bs, 0 ≤ z ∧ z ≤ 255) := mbL_rg HOK.out HBR.out
  generalize mbL nu un bs = F at *
  have HX : Hid (nxC (F ++ [1, 2]) = 1 ∧ nxN (F ++ [1, 2]) = nu ∧ nxU (F ++ [1, 2]) = un ∧ nxP (F ++ [1, 2]) = bs ∧ nxK (F ++ [1, 2]) = (nF : Int)) := by
    obtain ⟨h1, h2, h3, h4, h5⟩ := HXX.out
    exact ⟨h1, h2, h3, h4, by rw [h5]; have := HF.out; have := HB.out; omega⟩
  have HRF : Hid (∀ z ∈ F ++ [1, 2], 0 ≤ z ∧ z ≤ 255) := by
    intro z hz
    rcases List.mem_append.1 hz with h | h
    · exact HRR.out z h
    · simp at h; omega
  go_wp2_with (first
    | (at_builtin; refine wpList_app rfl (.tmp 39) (.tmp 40) rfl w3.heap.size (.slice (some ⟨w3.heap.size, 0, none⟩) 0 0) [] rfl i4 ⟨gF, 0, none⟩ nF cF F rfl HF.out.2.1 oF4.sl.2 HQ.out (by simp) ?_; intro v5 w5 o5 g5; rw [List.nil_append] at o5; have b5 : Below w3.heap.size w3 w5 := bel_grown (bel_alloc w3 _) i4 g5 (Nat.le_refl _) (by simp); have b6 := bel_next b5 (bel_alloc w5 (.cells #[.int .u8 1, .int .u8 2] 5)); have o6 := o5.below (bel_alloc w5 (.cells #[.int .u8 1, .int .u8 2] 5)); clear g5 o5)
    | (at_builtin; refine wpList_app rfl (.tmp 41) (.tmp 42) rfl w3.heap.size v5 F rfl o6 ⟨w5.heap.size, 0, none⟩ 2 2 [1, 2] rfl rfl (sl_lit2 _ _ _ rfl) HQ2.out b6.size ?_; intro v7 w7 o7 g7; have b7 : Below w3.heap.size w3 w7 := bel_grown b6 o6 g7 (Nat.le_refl _) b6.size; obtain ⟨g', c', n7, hv, hn7⟩ := own_some' o7 (by simp); subst hv; have HN7 : Hid (n7 = (F ++ [1, 2]).length) := hn7; clear hn7 g7 o6 b6))
  refine (implNextMbap_any _ _ _ (F ++ [1, 2]) _ HN7.out (Own.capM o7) o7.sl.2 HRF.out (by have := HF.out; simp; omega)).mono ?_
  rintro e w8 h'
  obtain ⟨hx1, hx2, hx3, hx4, hx5⟩ := HX.out
  rw [hx1, hx2, hx3, hx4, hx5] at h'
  clear hx1 hx2 hx3 hx4 hx5
  obtain ⟨pa, pc, pn, rfl, hpn, p8, b8'⟩ := h'
  have b8 := bel_next HB3.out (bel_next b7 b8')
  have o8 := HO3.out.below (bel_next b7 b8')
  have oF8 := HOF3.out.below (bel_next b7 b8')
  have HP : Hid (pn = bs.length) := hpn
  clear hpn b8' b7 o7 i4 oF4 hw3 hg0
  go_wp2_with fail
  refine (at_any _ a _ cap zs _ (by decide) (by decide) rfl (H.out.1.below b8) H.out.2.1 H.out.2.2).mono ?_
  rintro e wx ⟨y, rfl, hy0, hy1, ex⟩
  have ex' := ex.symm
  subst ex'
  have hnF : (nF : Int) ≠ 0 := by have := HF.out; omega
  obtain ⟨k, hk⟩ : ∃ k : Nat, y % (nF : Int) = (k : Int) := ⟨(y % (nF : Int)).toNat, by have := Int.emod_nonneg y hnF; omega⟩
  have hkl : (k : Int) < (nF : Int) := by rw [← hk]; exact Int.emod_lt_of_pos y (by omega)
  have hkl' : k < nF := by omega
  have hkc : (k : Int) ≤ (cF : Int) := by have := HFC.out; omega
  have htm : Int.tmod y (nF : Int) = (k : Int) := by rw [Int.tmod_eq_emod_of_nonneg hy0]; exact hk
  clear hk ex
  go_wp2_with fail
  have HK : Hid (k = (F.take k).length ∧ k ≤ cF ∧ k ≤ 300) := by have := HF.out; exact ⟨by simp; omega, by omega, by omega⟩
  have HC0 : Hid (nxC (F.take k) = 0) := HCC.out k (by have := HF.out; omega)
  refine (implNextMbap_any _ _ _ (F.take k) _ HK.out.1 HK.out.2.1 (oF8.sl.2.takeM k) (fun z hz => HRR.out z (List.mem_of_mem_take hz)) (by have := HK.out; omega)).mono ?_
  rintro e w9 h'
  obtain ⟨n1, n2, n3, n4⟩ := nx_bad HC0.out (by decide)
  rw [HC0.out, n1, n2, n3, n4] at h'
  clear n1 n2 n3 n4
  obtain ⟨qa, qc, qn, rfl, hqn, q9, b9'⟩ := h'
  have b9 := bel_next b8 b9'
  have o9 := o8.below b9'
  have p9 := p8.below b9'
  clear hqn q9 b9' b8 o8 p8 oF8 htm hkl hkl' hkc hnF
  go_wp2_with fail
  refine (sameBytes_true pa ad pn m pc c bs _ HP.out HB.out.1 p9.sl.2 o9.sl.2 (by have := HB.out; omega)).mono ?_
  rintro e w10 ⟨rfl, nd, e10⟩
  have d10 : Below w9.heap.size w9 w10 := by rw [e10]; exact drew_refl _ _
  have b10 := bel_next b9 d10
  clear e10 d10 b9 o9 p9
  go_wp2_with fail
  go_ret
  exact ⟨rfl, b10⟩

end Go.Proofs.Ytbdlppihiffjgaa

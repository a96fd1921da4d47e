/- A listener hears a frame byte by byte, behind four bytes without a colon; frames in digits come back. -/
import Derived.Test.YtmcednhinafpeaaAsc5
import Derived.Test.YtmcednhinafpeaaAsc8a
import Derived.Test.YtmcednhinafpeaaAsc8b
namespace Go.Proofs.Ytmcednhinafpeaa
open Go.RowKit

set_option linter.unusedVariables false

set_option linter.unusedSimpArgs false

theorem dg_hexd (d : Int) (h0 : 0 ≤ d) (h1 : d ≤ 15) : dg (hexd d) = d := by
  unfold dg hexd
  by_cases h : d < 10
  · rw [if_pos h, if_pos (by omega)]; omega
  · rw [if_neg h, if_neg (by omega), if_pos (by omega)]; omega

theorem hexd_bd (d : Int) (h0 : 0 ≤ d) (h1 : d ≤ 15) : 0 ≤ hexd d ∧ hexd d ≤ 255 := by unfold hexd; split <;> omega

theorem hexs_get (zs : List Int) : ∀ k, k ≤ zs.length → ∀ i, i < k → (hexs zs k)[2 * i]? = some (hexd (zs.getD i 0 / 16)) ∧ (hexs zs k)[2 * i + 1]? = some (hexd (zs.getD i 0 % 16))
  | 0, _, i, hi => absurd hi (Nat.not_lt_zero _)
  | k + 1, h, i, hi => by
    rw [hexs_succ zs k (by omega)]
    have hl := hexs_length zs k (by omega)
    by_cases e : i < k
    · have ih := hexs_get zs k (by omega) i e
      rw [List.getElem?_append_left (by omega), List.getElem?_append_left (by omega)]
      exact ih
    · obtain rfl : i = k := by omega
      rw [List.getElem?_append_right (by omega), List.getElem?_append_right (by omega), hl]
      constructor
      · rw [show 2 * i - 2 * i = 0 by omega]; rfl
      · rw [show 2 * i + 1 - 2 * i = 1 by omega]; rfl

theorem D_str (xs : List Int) (j : Nat) (x : Int) (h : xs[j]? = some x) (h0 : 0 ≤ x) (h1 : x ≤ 255) : D (strOfNums xs) j = dg x := by
  have hj : j < xs.length := (List.getElem?_eq_some_iff.1 h).1
  have hs : j < (strOfNums xs).size := by rw [strOfNums_size]; exact hj
  rw [D_at _ j hs]
  have e : ((strOfNums xs)[j]'hs) = UInt8.ofNat x.toNat := by
    have e1 : (strOfNums xs).data.toList[j]? = some (UInt8.ofNat x.toNat) := by rw [strOfNums_data, List.getElem?_map, h]; rfl
    have e2 : (strOfNums xs).data.toList[j]? = some ((strOfNums xs)[j]'hs) := by
      rw [Array.getElem?_toList]
      exact Array.getElem?_eq_getElem hs
    rw [e1] at e2
    exact (Option.some.inj e2).symm
  rw [e]
  have e3 : ((UInt8.ofNat x.toNat).toNat : Int) = x := by
    rw [UInt8.toNat_ofNat']
    omega
  rw [e3]

theorem unhex_hex (zs : List Int) (hr : ∀ z ∈ zs, 0 ≤ z ∧ z ≤ 255) : okS (strOfNums (hexs zs zs.length)) = true ∧ outS (strOfNums (hexs zs zs.length)) = zs := by
  have hl := hexs_length zs zs.length (Nat.le_refl _)
  have hsz : (strOfNums (hexs zs zs.length)).size = 2 * zs.length := by rw [strOfNums_size, hl]
  have hD : ∀ i, i < zs.length → D (strOfNums (hexs zs zs.length)) (2 * i) = zs.getD i 0 / 16 ∧ D (strOfNums (hexs zs zs.length)) (2 * i + 1) = zs.getD i 0 % 16 := fun i hi => by
    have g := hexs_get zs zs.length (Nat.le_refl _) i hi
    have r := get_range hr i
    have b1 := hexd_bd (zs.getD i 0 / 16) (by omega) (by omega)
    have b2 := hexd_bd (zs.getD i 0 % 16) (by omega) (by omega)
    rw [D_str _ _ _ g.1 b1.1 b1.2, D_str _ _ _ g.2 b2.1 b2.2, dg_hexd _ (by omega) (by omega), dg_hexd _ (by omega) (by omega)]
    exact ⟨rfl, rfl⟩
  have hg : ∀ j, j < (strOfNums (hexs zs zs.length)).size → 0 ≤ D (strOfNums (hexs zs zs.length)) j := fun j hj => by
    have d := hD (j / 2) (by omega)
    have r := get_range hr (j / 2)
    by_cases e : j % 2 = 0
    · have e2 : 2 * (j / 2) = j := by omega
      rw [e2] at d
      rw [d.1]; omega
    · have e2 : 2 * (j / 2) + 1 = j := by omega
      rw [e2] at d
      rw [d.2]; omega
  have Y := okS_yes (s := strOfNums (hexs zs zs.length)) (by omega) hg
  refine ⟨Y.1, ?_⟩
  rw [Y.2, hsz, show 2 * zs.length / 2 = zs.length by omega]
  apply List.ext_getElem?
  intro i
  by_cases hi : i < zs.length
  · have d := hD i hi
    simp only [bytesTo, List.getElem?_map, List.getElem?_range hi, Option.map_some]
    rw [d.1, d.2, List.getElem?_eq_getElem hi, List.getD_eq_getElem?_getD, List.getElem?_eq_getElem hi]
    simp only [Option.getD_some, Option.some.injEq]
    omega
  · rw [List.getElem?_eq_none (by rw [bytesTo_length]; omega), List.getElem?_eq_none (by omega)]

theorem rgU {un : Int} {zs : List Int} (h0 : 0 ≤ un) (h1 : un ≤ 255) (hr : ∀ z ∈ zs, 0 ≤ z ∧ z ≤ 255) : ∀ z ∈ lrL (un :: zs), 0 ≤ z ∧ z ≤ 255 := by
  apply lrL_rg
  intro z hz
  rcases List.mem_cons.1 hz with rfl | h
  · exact ⟨h0, h1⟩
  · exact hr z h

theorem lres_lrL (bs : List Int) (h : ∀ z ∈ lrL bs, 0 ≤ z ∧ z ≤ 255) : lres (lrL bs) = 0 := by
  refine (lsum_iff (lrL bs) bs.length (lrL_len bs) h).2 ?_
  have e1 : (lrL bs).take bs.length = bs := by unfold lrL; exact List.take_left
  have e2 : (lrL bs).getD bs.length 0 = lres bs := by unfold lrL; simp [List.getD_eq_getElem?_getD]
  rw [e1, e2]

theorem asL_get0 (xs : List Int) : (asL xs).getD 0 0 = 58 := by unfold asL; simp [List.getD_eq_getElem?_getD]

theorem asL_form (xs : List Int) : ∃ h : List Int, h = hexs xs xs.length ∧ h.length = 2 * xs.length ∧ asL xs = 58 :: (h ++ [13, 10]) := by
  refine ⟨_, rfl, hexs_length _ _ (Nat.le_refl _), ?_⟩
  unfold asL; simp

theorem asL_fr (xs : List Int) : frB (asL xs) = true ∧ mid (asL xs) = hexs xs xs.length := by
  obtain ⟨h, hh, hl, e⟩ := asL_form xs
  have hlen : (asL xs).length = h.length + 3 := by rw [e]; simp
  have f : frB (asL xs) = true := by
    refine frB_yes ⟨by omega, asL_get0 xs, ?_, ?_⟩
    · rw [hlen, e, show h.length + 3 - 2 = h.length + 1 by omega]
      simp [List.getD_eq_getElem?_getD]
    · rw [hlen, e, show h.length + 3 - 1 = (h.length + 1) + 1 by omega]
      simp [List.getD_eq_getElem?_getD, List.getElem?_append]
  refine ⟨f, ?_⟩
  rw [mid_yes f, hlen, e, ← hh]
  simp

theorem asL_in (xs : List Int) (hr : ∀ z ∈ xs, 0 ≤ z ∧ z ≤ 255) (j : Nat) (h0 : 0 < j) (h1 : j + 1 < (asL xs).length) : (asL xs).getD j 0 ≠ 58 ∧ (asL xs).getD j 0 ≠ 10 := by
  obtain ⟨h, hh, hl, e⟩ := asL_form xs
  have hg := hexs_rg hr xs.length
  rw [← hh] at hg
  have hlen : (asL xs).length = h.length + 3 := by rw [e]; simp
  obtain ⟨k, rfl⟩ : ∃ k, j = k + 1 := ⟨j - 1, by omega⟩
  rw [e, List.getD_eq_getElem?_getD, List.getElem?_cons_succ]
  by_cases hk : k < h.length
  · rw [List.getElem?_append_left hk, List.getElem?_eq_getElem hk]
    have := hg _ (List.getElem_mem hk)
    simp only [Option.getD_some]
    omega
  · have ek : k = h.length := by omega
    subst ek
    simp

theorem asL_last (xs : List Int) : (asL xs).getD ((asL xs).length - 1) 0 = 10 ∧ (asL xs).take ((asL xs).length - 1) ++ [10] = asL xs := by
  obtain ⟨h, hh, hl, e⟩ := asL_form xs
  have hlen : (asL xs).length - 1 = (h.length + 1) + 1 := by rw [e]; simp
  rw [hlen, e]
  refine ⟨by simp [List.getD_eq_getElem?_getD, List.getElem?_append], ?_⟩
  have : h ++ [13, 10] = (h ++ [13]) ++ [10] := by simp
  rw [this, List.take_succ_cons, List.take_left' (by simp)]
  simp

/-- A frame comes back. -/
theorem ga_back (un : Int) (zs : List Int) (h0 : 0 ≤ un) (h1 : un ≤ 255) (hr : ∀ z ∈ zs, 0 ≤ z ∧ z ≤ 255) (hl1 : 1 ≤ zs.length) (hl2 : zs.length ≤ 253) :
    gaC (puA un zs) = 0 ∧ gaU (puA un zs) = un ∧ gaP (puA un zs) = zs ∧ (puA un zs).length = 2 * zs.length + 7 := by
  rw [puA_yes ⟨h0, h1, hl1, hl2⟩]
  have hR := rgU h0 h1 hr
  have hf := asL_fr (lrL (un :: zs))
  have hu := unhex_hex (lrL (un :: zs)) hR
  have hll : (lrL (un :: zs)).length = zs.length + 2 := by rw [lrL_len]; rfl
  have hw : wiA (asL (lrL (un :: zs))) = lrL (un :: zs) := by unfold wiA; rw [hf.2]; exact hu.2
  have hC : gaC (asL (lrL (un :: zs))) = 0 := by
    unfold gaC
    rw [hw, hf.1, hf.2, hu.1, if_neg (by simp), if_neg (by omega), if_neg (by omega), if_pos (lres_lrL _ hR)]
  refine ⟨hC, ?_, ?_, by rw [asL_len, hll]; omega⟩
  · rw [(ga_good hC).1, hw]; rfl
  · rw [(ga_good hC).2, hw, hll]
    unfold lrL
    simp

/-- What a listener holds behind i bytes. -/
def Zi (F : List Int) (i : Nat) : List Int := if i ≤ 4 then [] else if i < 4 + F.length then F.take (i - 4) else []

def Oi (F : List Int) (i : Nat) : Bool := decide (4 < i ∧ i < 4 + F.length)

def Li (i : Nat) : Int := if i = 0 then 0 else 5

theorem Li_rg (i : Nat) : 0 ≤ Li i ∧ Li i ≤ 4294967295 := by unfold Li; split <;> omega

theorem Li_succ (i : Nat) : Li (i + 1) = 5 := by unfold Li; rw [if_neg (by omega)]

theorem Zi_few {F : List Int} {i : Nat} (h : i ≤ 4) : Zi F i = [] ∧ Oi F i = false := by
  unfold Zi Oi; rw [if_pos h]; exact ⟨rfl, decide_eq_false (by omega)⟩

theorem Zi_mid {F : List Int} {i : Nat} (h1 : 4 < i) (h2 : i < 4 + F.length) : Zi F i = F.take (i - 4) ∧ Oi F i = true := by
  unfold Zi Oi; rw [if_neg (by omega), if_pos h2]; exact ⟨rfl, decide_eq_true ⟨h1, h2⟩⟩

theorem Zi_end {F : List Int} {i : Nat} (h : i = 4 + F.length) : Zi F i = [] ∧ Oi F i = false := by
  unfold Zi Oi; rw [if_neg (c := i < 4 + F.length) (by omega)]; refine ⟨by split <;> rfl, decide_eq_false (by omega)⟩

theorem Zi_len (F : List Int) (i : Nat) (h : F.length ≤ 600) : (Zi F i).length ≤ 600 := by
  unfold Zi; split
  · simp
  · split
    · simp; omega
    · simp

theorem Zi_ok (F : List Int) (i : Nat) (ls wt : Int) (hF : F.length ≤ 600) (h58 : F.getD 0 0 = 58) (hls : 0 ≤ ls ∧ ls ≤ 4294967295) (hw : 1 ≤ wt ∧ wt ≤ 1000) : okAk (Zi F i) (Oi F i) ls wt = true := by
  have hl := Zi_len F i hF
  by_cases h1 : i ≤ 4
  · rw [(Zi_few h1).1, (Zi_few h1).2]; exact okAk_ff (by simp; omega) (by simp)
  · by_cases h2 : i < 4 + F.length
    · rw [(Zi_mid (by omega) h2).1] at hl ⊢
      rw [(Zi_mid (by omega) h2).2]
      refine okAk_tt ⟨hw.1, hw.2, hl, hls.1, hls.2⟩ (by simp; omega) ?_
      rw [List.getD_eq_getElem?_getD, List.getElem?_take, if_pos (by omega), ← List.getD_eq_getElem?_getD]
      exact h58
    · have h3 : Zi F i = [] := by unfold Zi; rw [if_neg h1, if_neg h2]
      have h4 : Oi F i = false := decide_eq_false (by omega)
      rw [h3, h4]; exact okAk_ff (by simp; omega) (by simp)

/-- A frame that was told. -/
def OneG (w : World) (B : Nat) (un : Int) (ps : List Int) (ga : Option Addr) (gn : Nat) : Prop :=
  ∃ g pa pn pc rs, ga = some ⟨g, 0, none⟩ ∧ gn = 1 ∧ Blk w g 39 (gcs 0 un pa pn pc rs) ∧ pn = ps.length ∧ Own w B (.slice pa pn pc) ps

theorem junk_len (y : Int) (F : List Int) : ([13, 10, 120, y] ++ F).length = 4 + F.length := by simp; omega

theorem hear_i (y un wt : Int) (F ps : List Int) (xs : List Int) (hF : F = asL xs) (hxr : ∀ z ∈ xs, 0 ≤ z ∧ z ≤ 255) (hFl : F.length ≤ 600) (hb : gaC F = 0 ∧ gaU F = un ∧ gaP F = ps) (hy : y ≠ 58) (hw : 1 ≤ wt ∧ wt ≤ 1000) (i : Nat) (hi : i < 4 + F.length)
    (by' : Int) (hby : by' = ([13, 10, 120, y] ++ F).getD i 0) (a : Option Addr) (l c : Nat) (w : World) (hn : l = (Zi F i).length) (hs : Sl w a (Zi F i)) :
    Calls Try.prog 16 #[sc a l c (Oi F i) (Li i) wt, .int .u8 by', .int .i64 5] w fun e w' => ∃ a' n' c' ga gn gc, e = .returned (.tuple #[sc a' n' c' (Oi F (i + 1)) 5 wt, .slice ga gn gc]) ∧ n' = (Zi F (i + 1)).length ∧ Own w' w.heap.size (.slice a' n' c') (Zi F (i + 1)) ∧ ((i + 1 < 4 + F.length ∧ gn = 0) ∨ (i + 1 = 4 + F.length ∧ OneG w' w.heap.size un ps ga gn)) ∧ Below w.heap.size w w' := by
  have h58 : F.getD 0 0 = 58 := by rw [hF]; exact asL_get0 xs
  have ho := Zi_ok F i (Li i) wt hFl h58 (Li_rg i) hw
  have hFlen : 3 ≤ F.length := by rw [hF, asL_len]; omega
  have ht : (0 : Int) ≤ 5 ∧ (5 : Int) ≤ 4294967295 := by omega
  by_cases h4 : i < 4
  · have e0 := Zi_few (F := F) (i := i) (by omega)
    have e1 := Zi_few (F := F) (i := i + 1) (by omega)
    have hne : by' ≠ 58 := by
      rw [hby]
      match i, h4 with
      | 0, _ => simp
      | 1, _ => simp
      | 2, _ => simp
      | 3, _ => simpa using hy
    rw [e0.2] at ho ⊢
    rw [e0.1] at ho hn hs
    rw [e1.1, e1.2]
    refine (implAsciiHear_sp a l c (Li i) wt by' 5 [] w hn hs (by simp) ho ht (by simpa using hne)).mono ?_
    rintro e w' ⟨a', n', c', ga, gn, gc, rfl, hn', o', G, b'⟩
    refine ⟨a', n', c', ga, gn, gc, rfl, hn', o', .inl ⟨by omega, ?_⟩, b'⟩
    rcases G with ⟨_, h⟩ | ⟨k, u, ps, g, pa, pn, pc, rs, h, _⟩
    · exact h
    · cases h
  by_cases h5 : i = 4
  · have e0 := Zi_few (F := F) (i := i) (by omega)
    have e1 := Zi_mid (F := F) (i := i + 1) (by omega) (by omega)
    have h58b : by' = 58 := by rw [hby, h5]; simpa [List.getD_eq_getElem?_getD] using h58
    rw [e0.2] at ho ⊢
    rw [e0.1] at ho hn hs
    have et : F.take (i + 1 - 4) = [58] := by
      rw [show i + 1 - 4 = 1 by omega]
      cases F with
      | nil => simp at hFlen
      | cons f F => simp at h58; simp [h58]
    rw [e1.1, e1.2, et]
    refine (implAsciiHear_sc a l c (Li i) wt by' 5 [] w hn hs (by simp) ho ht h58b).mono ?_
    rintro e w' ⟨a', n', c', ga, gn, gc, rfl, hn', o', G, b'⟩
    refine ⟨a', n', c', ga, gn, gc, rfl, hn', o', .inl ⟨by omega, ?_⟩, b'⟩
    rcases G with ⟨_, h⟩ | ⟨k, u, ps, g, pa, pn, pc, rs, h, _⟩
    · exact h
    · cases h
  have e0 := Zi_mid (F := F) (i := i) (by omega) hi
  have eL : Li i = 5 := by unfold Li; rw [if_neg (by omega)]
  have hgp : ¬ wt ≤ gap (Li i) 5 := by rw [eL]; unfold gap; omega
  have hbF : by' = F.getD (i - 4) 0 := by
    rw [hby, List.getD_eq_getElem?_getD, List.getElem?_append_right (by simp; omega), ← List.getD_eq_getElem?_getD]; rfl
  rw [e0.2] at ho ⊢
  rw [e0.1] at ho hn hs
  have hl0 : (F.take (i - 4)).length = i - 4 := by simp; omega
  by_cases h6 : i + 1 < 4 + F.length
  · have e1 := Zi_mid (F := F) (i := i + 1) (by omega) h6
    have hin : by' ≠ 58 ∧ by' ≠ 10 := by rw [hbF, hF]; exact asL_in xs hxr (i - 4) (by omega) (by rw [← hF]; omega)
    have et : F.take (i + 1 - 4) = F.take (i - 4) ++ [by'] := by
      rw [show i + 1 - 4 = (i - 4) + 1 by omega, hbF]
      exact take_snoc (by omega)
    rw [e1.1, e1.2, et]
    refine (implAsciiHear_oa a l c (Li i) wt by' 5 (F.take (i - 4)) w hn hs (by omega) ho ht hgp (by omega) (by simpa using hin.2) (by simpa using hin.1)).mono ?_
    rintro e w' ⟨a', n', c', ga, gn, gc, rfl, hn', o', G, b'⟩
    refine ⟨a', n', c', ga, gn, gc, rfl, hn', o', .inl ⟨h6, ?_⟩, b'⟩
    rcases G with ⟨_, h⟩ | ⟨k, u, ps, g, pa, pn, pc, rs, h, _⟩
    · exact h
    · cases h
  · have e7 : i + 1 = 4 + F.length := by omega
    have e1 := Zi_end (F := F) e7
    have hla := asL_last xs
    rw [← hF] at hla
    have hj : i - 4 = F.length - 1 := by omega
    have h10 : by' = 10 := by rw [hbF, hj]; exact hla.1
    have et : F.take (i - 4) ++ [10] = F := by rw [hj]; exact hla.2
    rw [e1.1, e1.2]
    refine (implAsciiHear_oe a l c (Li i) wt by' 5 (F.take (i - 4)) w hn hs (by omega) ho ht hgp (by omega) h10).mono ?_
    rw [et]
    rintro e w' ⟨a', n', c', ga, gn, gc, rfl, hn', o', G, b'⟩
    refine ⟨a', n', c', ga, gn, gc, rfl, hn', o', .inr ⟨e7, ?_⟩, b'⟩
    rcases G with ⟨h, _⟩ | ⟨k, u, ps', g, pa, pn, pc, rs, h, rfl, rfl, _, hB, hpn, ho', _⟩
    · cases h
    · simp only [Option.some.injEq, Prod.mk.injEq] at h
      obtain ⟨rfl, rfl, rfl⟩ := h
      rw [hb.1, hb.2.1] at hB
      rw [hb.2.2] at hpn ho'
      exact ⟨g, pa, pn, pc, rs, rfl, rfl, hB, hpn, ho'⟩

end Go.Proofs.Ytmcednhinafpeaa

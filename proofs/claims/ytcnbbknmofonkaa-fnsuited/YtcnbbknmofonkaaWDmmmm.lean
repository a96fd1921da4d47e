/- Texts that the proof needs, joined. -/
import Derived.Test.YtcnbbknmofonkaaWA
import Derived.Test.YtcnbbknmofonkaaDev8
import Derived.Test.YtcnbbknmofonkaaBits
import Derived.Test.YtcnbbknmofonkaaDev3
import Derived.Test.YtcnbbknmofonkaaS0
import Derived.Test.YtcnbbknmofonkaaBys0
import Derived.Test.YtcnbbknmofonkaaWF
import Derived.Test.YtcnbbknmofonkaaS2
import Derived.Test.YtcnbbknmofonkaaWS
import Derived.Deep.RegionHeld3
import Derived.Below
import Derived.Deep.Cut
import Derived.Deep.CutRange
namespace Go.Proofs.Ytcnbbknmofonkaa
open Go.RowKit

set_option linter.unusedVariables false

theorem svAll_m (m : Nat) (kd pl nn wa : Int) (m1 m2 : Nat) : svAll m m m m kd pl nn wa m1 m2 = hsB m pl (spcN kd nn m1 m2) kd wa m1 := by
  unfold svAll
  have : [(m : Int), (m : Int), (m : Int), (m : Int)].getD (spc0 kd).toNat 0 = (m : Int) := by
    unfold spc0
    split
    · rfl
    split
    · rfl
    split
    · rfl
    · rfl
  rw [this]

theorem allW_rep (m : Nat) : allW (List.replicate m 0) = true := by
  unfold allW
  refine decide_eq_true (fun k hk => ?_)
  have : (List.replicate m (0 : Int)).getD k 0 = 0 := by
    simp only [List.getD_eq_getElem?_getD, List.getElem?_replicate]
    split <;> rfl
  rw [this]
  omega

theorem okD_rep (m : Nat) (hm : m ≤ 64) : okD m m m m (List.replicate m 0) (List.replicate m 0) = true := by
  unfold okD
  rw [allW_rep, decide_eq_true ⟨hm, hm, hm, hm⟩]
  rfl

theorem svDo_fl (cs is : List Bool) (hs rs : List Int) (kd pl nn wa : Int) (ws : List Int) (bs : List Bool) : (svDo cs is hs rs kd pl nn wa ws bs).fl = 0 := by
  unfold svDo
  repeat' split
  all_goals rfl

theorem sv_no {l1 l2 l3 l4 : Nat} {cs is : List Bool} {hs rs : List Int} {kd pl nn wa : Int} {m1 m2 : Nat} {ws : List Int} {bs : List Bool} (h : okR kd pl nn wa ws m1 m2 = false) : (svV l1 l2 l3 l4 cs is hs rs kd pl nn wa m1 m2 ws bs).kd = 0 := by
  unfold svV; rw [if_pos h]

theorem sv_not {m : Nat} {kd pl nn wa : Int} {m1 m2 : Nat} {ws : List Int} {bs : List Bool} (hm : m ≤ 64) (h : okR kd pl nn wa ws m1 m2 = true) (ha : hsB m pl (spcN kd nn m1 m2) kd wa m1 = false) :
    svV m m m m (List.replicate m false) (List.replicate m false) (List.replicate m 0) (List.replicate m 0) kd pl nn wa m1 m2 ws bs = ⟨List.replicate m false, List.replicate m 0, kd, 2, 0, 0, [], []⟩ := by
  unfold svV
  rw [if_neg (by rw [h]; decide), if_neg (by rw [okD_rep m hm]; decide), if_pos (by rw [svAll_m]; exact ha)]

theorem sv_there {m : Nat} {kd pl nn wa : Int} {m1 m2 : Nat} {ws : List Int} {bs : List Bool} (hm : m ≤ 64) (h1 : m1 = ws.length) (h2 : m2 = bs.length) (h : okR kd pl nn wa ws m1 m2 = true) (ha : hsB m pl (spcN kd nn m1 m2) kd wa m1 = true) :
    (svV m m m m (List.replicate m false) (List.replicate m false) (List.replicate m 0) (List.replicate m 0) kd pl nn wa m1 m2 ws bs).fl = 0 ∧ (svV m m m m (List.replicate m false) (List.replicate m false) (List.replicate m 0) (List.replicate m 0) kd pl nn wa m1 m2 ws bs).hs.length = m := by
  unfold svV
  rw [if_neg (by rw [h]; decide), if_neg (by rw [okD_rep m hm]; decide), if_neg (by rw [svAll_m, ha]; decide)]
  refine ⟨svDo_fl _ _ _ _ _ _ _ _ _ _, ?_⟩
  obtain ⟨hp, hk⟩ := okR_f h
  unfold svDo
  rcases hk with hk | hk | hk | hk | hk | hk | hk | hk | hk | hk <;> obtain ⟨rfl, hk⟩ := hk
  · simp
  · simp
  · simp
  · simp
  · simp
  · simp
  · simp
  · simp [hsB, spcN] at ha
    simp
    rw [wr_length _ _ _ (by simp; omega)]
    simp
  · simp
  · simp [hsB, spcN] at ha
    simp
    rw [wr_length _ _ _ (by simp; omega)]
    simp

theorem hsB_there {m : Nat} {kd pl nn wa : Int} {m1 : Nat} {N : Int} (h1 : pl + N ≤ (m : Int)) (h2 : kd = 23 → wa + (m1 : Int) ≤ (m : Int)) : hsB m pl N kd wa m1 = true := by
  unfold hsB
  rw [if_neg (by rintro ⟨h3, h4⟩; have := h2 h3; omega)]
  exact decide_eq_true h1

theorem hsB_far {m : Nat} {kd pl nn wa : Int} {m1 : Nat} {N : Int} (h1 : ¬ pl + N ≤ (m : Int)) : hsB m pl N kd wa m1 = false := by
  unfold hsB
  split
  · rfl
  · exact decide_eq_false h1

theorem hsB_wr {m : Nat} {kd pl nn wa : Int} {m1 : Nat} {N : Int} (h1 : kd = 23) (h2 : ¬ wa + (m1 : Int) ≤ (m : Int)) : hsB m pl N kd wa m1 = false := by
  unfold hsB
  rw [if_pos ⟨h1, by omega⟩]

end Go.Proofs.Ytcnbbknmofonkaa

namespace Go.Proofs.Ytcnbbknmofonkaa
open Go.RowKit

/-- A word's bits. -/
abbrev wv (h : Int) : BitVec 64 := BitVec.ofInt 64 h

theorem wv_nat {h : Int} (h0 : 0 ≤ h) (h1 : h ≤ 65535) : ((wv h).toNat : Int) = h := by
  unfold wv
  rw [BitVec.toNat_ofInt]
  have e : h % ((2 ^ 64 : Nat) : Int) = h := Int.emod_eq_of_lt h0 (by omega)
  rw [e]; omega

theorem wrap_sm {n : Nat} (h : n < 65536) : IntKind.i64.wrap (n : Int) = (n : Int) := by rw [IntKind.wrap_i64]; omega

theorem wv_back {v : BitVec 64} : wv (v.toNat : Int) = v := by
  simp [wv, BitVec.ofInt_natCast]

theorem and_lt {a b : BitVec 64} (h : a.toNat < 65536) : (a &&& b).toNat < 65536 := by
  rw [BitVec.toNat_and]; exact Nat.lt_of_le_of_lt Nat.and_le_left h

theorem or_lt {a b : BitVec 64} (h : a.toNat < 65536) (h' : b.toNat < 65536) : (a ||| b).toNat < 65536 := by
  rw [BitVec.toNat_or]; exact Nat.or_lt_two_pow (n := 16) h h'

/-- The masked word's bits. -/
def mv (h x y : BitVec 64) : BitVec 64 := (h &&& x) ||| (y &&& ~~~x)

theorem wv_lt {h : Int} (h0 : 0 ≤ h) (h1 : h ≤ 65535) : (wv h).toNat < 65536 := by have := wv_nat h0 h1; omega

theorem mskI_eq {h x y : Int} (h0 : 0 ≤ h ∧ h ≤ 65535) (y0 : 0 ≤ y ∧ y ≤ 65535) : mskI h x y = ((mv (wv h) (wv x) (wv y)).toNat : Int) := by
  have a1 : bits .and .i64 h x = ((wv h &&& wv x).toNat : Int) := wrap_sm (and_lt (wv_lt h0.1 h0.2))
  have a2 : bits .andNot .i64 y x = ((wv y &&& ~~~(wv x)).toNat : Int) := wrap_sm (and_lt (wv_lt y0.1 y0.2))
  unfold mskI
  rw [a1, a2]
  have a3 : bits .or .i64 ((wv h &&& wv x).toNat : Int) ((wv y &&& ~~~(wv x)).toNat : Int) = ((wv ((wv h &&& wv x).toNat : Int) ||| wv ((wv y &&& ~~~(wv x)).toNat : Int)).toNat : Int) := by
    refine wrap_sm ?_
    show ((wv ((wv h &&& wv x).toNat : Int)) ||| wv ((wv y &&& ~~~(wv x)).toNat : Int)).toNat < 65536
    rw [wv_back, wv_back]
    exact or_lt (and_lt (wv_lt h0.1 h0.2)) (and_lt (wv_lt y0.1 y0.2))
  rw [a3, wv_back, wv_back]; rfl

theorem mv_lt {h x y : BitVec 64} (h0 : h.toNat < 65536) (y0 : y.toNat < 65536) : (mv h x y).toNat < 65536 := or_lt (and_lt h0) (and_lt y0)

theorem mskI_rg {h x y : Int} (h0 : 0 ≤ h ∧ h ≤ 65535) (y0 : 0 ≤ y ∧ y ≤ 65535) : 0 ≤ mskI h x y ∧ mskI h x y ≤ 65535 := by
  rw [mskI_eq h0 y0]
  have := mv_lt (x := wv x) (wv_lt h0.1 h0.2) (wv_lt y0.1 y0.2)
  omega

theorem mv_again (h x y : BitVec 64) : mv (mv h x y) x y = mv h x y := by
  apply BitVec.eq_of_getLsbD_eq
  intro i hi
  simp [mv]
  cases h.getLsbD i <;> cases x.getLsbD i <;> cases y.getLsbD i <;> simp [hi]

theorem mskI_again {h x y : Int} (h0 : 0 ≤ h ∧ h ≤ 65535) (y0 : 0 ≤ y ∧ y ≤ 65535) : mskI (mskI h x y) x y = mskI h x y := by
  rw [mskI_eq (mskI_rg h0 y0) y0, mskI_eq h0 y0, wv_back, mv_again]

theorem sm_bit {v : BitVec 64} (h : v.toNat < 65536) {i : Nat} (hi : 16 ≤ i) : v.getLsbD i = false := by
  rw [BitVec.getLsbD]
  exact Nat.testBit_lt_two_pow (Nat.lt_of_lt_of_le h (Nat.pow_le_pow_right (n := 2) (by decide) hi))

theorem ones_bit (i : Nat) (hi : i < 16) : (wv 65535).getLsbD i = true := by
  have h : ∀ i : Fin 16, (wv 65535).getLsbD i = true := by decide
  exact h ⟨i, hi⟩

theorem mskI_ones {h y : Int} (h0 : 0 ≤ h ∧ h ≤ 65535) (y0 : 0 ≤ y ∧ y ≤ 65535) : mskI h 65535 y = h := by
  rw [mskI_eq h0 y0]
  have e : mv (wv h) (wv 65535) (wv y) = wv h := by
    apply BitVec.eq_of_getLsbD_eq
    intro i hi
    simp only [mv, BitVec.getLsbD_or, BitVec.getLsbD_and, BitVec.getLsbD_not]
    by_cases h16 : i < 16
    · rw [ones_bit i h16]; simp
    · rw [sm_bit (wv_lt h0.1 h0.2) (by omega), sm_bit (wv_lt y0.1 y0.2) (by omega)]; simp
  rw [e, wv_nat h0.1 h0.2]

theorem mskI_none {h y : Int} (h0 : 0 ≤ h ∧ h ≤ 65535) (y0 : 0 ≤ y ∧ y ≤ 65535) : mskI h 0 y = y := by
  rw [mskI_eq h0 y0]
  have e : mv (wv h) (wv 0) (wv y) = wv y := by
    apply BitVec.eq_of_getLsbD_eq
    intro i hi
    have z : (wv 0).getLsbD i = false := by show (0#64 : BitVec 64).getLsbD i = false; simp
    simp only [mv, BitVec.getLsbD_or, BitVec.getLsbD_and, BitVec.getLsbD_not, z]
    simp [hi]
  rw [e, wv_nat y0.1 y0.2]

/-- A bit of a word, as the law asks for it. -/
def bitI (h : Int) (k : Nat) : Int := h / ((2 ^ k : Nat) : Int) % 2

theorem bitI_eq {h : Int} (h0 : 0 ≤ h ∧ h ≤ 65535) (k : Nat) : bitI h k = if (wv h).getLsbD k then 1 else 0 := by
  have e : (wv h).getLsbD k = (wv h).toNat.testBit k := rfl
  rw [e, Nat.testBit_eq_decide_div_mod_eq]
  unfold bitI
  have hn := wv_nat h0.1 h0.2
  have e2 : h / ((2 ^ k : Nat) : Int) % 2 = (((wv h).toNat / 2 ^ k % 2 : Nat) : Int) := by
    rw [Int.natCast_emod, Int.natCast_ediv, hn]; rfl
  rw [e2]
  have hlt : (wv h).toNat / 2 ^ k % 2 < 2 := Nat.mod_lt _ (by decide)
  by_cases q : (wv h).toNat / 2 ^ k % 2 = 1
  · rw [q]; simp
  · have q0 : (wv h).toNat / 2 ^ k % 2 = 0 := by omega
    rw [q0]; simp

/-- What the law asks of a masked word's bits. -/
theorem mskI_bit {h x y : Int} (h0 : 0 ≤ h ∧ h ≤ 65535) (x0 : 0 ≤ x ∧ x ≤ 65535) (y0 : 0 ≤ y ∧ y ≤ 65535) (k : Nat) (hk : k < 16) : bitI (mskI h x y) k = if bitI x k = 0 then bitI y k else bitI h k := by
  rw [bitI_eq (mskI_rg h0 y0), bitI_eq x0, bitI_eq y0, bitI_eq h0, mskI_eq h0 y0, wv_back]
  have h64 : k < 64 := by omega
  simp only [mv, BitVec.getLsbD_or, BitVec.getLsbD_and, BitVec.getLsbD_not, h64]
  cases (wv h).getLsbD k <;> cases (wv x).getLsbD k <;> cases (wv y).getLsbD k <;> rfl

theorem and1 (n : Int) : bits .and .i64 n 1 = n % 2 := i64_and_mask n 1 1 (by decide) (by decide)

theorem bit_form (h : Int) (k : Nat) : bits .and .i64 (h / 2 ^ k) 1 = bitI h k := by
  rw [and1]; unfold bitI; simp

end Go.Proofs.Ytcnbbknmofonkaa

namespace Go.Proofs.Ytcnbbknmofonkaa
open Go.RowKit

set_option linter.unusedVariables false

set_option linter.unusedSimpArgs false

theorem allW_at {ws : List Int} (h : allW ws = true) (k : Nat) (hk : k < ws.length) : 0 ≤ ws.getD k 0 ∧ ws.getD k 0 ≤ 65535 := (of_decide_eq_true h) k hk

theorem allW_mem {ws : List Int} (h : ∀ x ∈ ws, 0 ≤ x ∧ x ≤ 65535) : allW ws = true := by
  refine decide_eq_true (fun k hk => ?_)
  rw [List.getD_eq_getElem?_getD, List.getElem?_eq_getElem hk]
  exact h _ (List.getElem_mem hk)

theorem mem_allW {ws : List Int} (h : allW ws = true) : ∀ x ∈ ws, 0 ≤ x ∧ x ≤ 65535 := by
  intro x hx
  obtain ⟨k, hk, rfl⟩ := List.getElem_of_mem hx
  have := allW_at h k hk
  rw [List.getD_eq_getElem?_getD, List.getElem?_eq_getElem hk] at this
  exact this

theorem allW_set {hs : List Int} {k : Nat} {x : Int} (h : allW hs = true) (hx : 0 ≤ x ∧ x ≤ 65535) : allW (hs.set k x) = true := by
  refine allW_mem (fun y hy => ?_)
  rcases List.mem_or_eq_of_mem_set hy with h1 | h1
  · exact mem_allW h y h1
  · exact h1 ▸ hx

theorem allW_wr {hs ws : List Int} {k : Nat} (h : allW hs = true) (h2 : allW ws = true) : allW (wr hs k ws) = true := by
  refine allW_mem (fun y hy => ?_)
  unfold wr at hy
  rcases List.mem_append.1 hy with h1 | h1
  · exact mem_allW h y (List.mem_of_mem_take h1)
  · rcases List.mem_append.1 h1 with h1 | h1
    · exact mem_allW h2 y h1
    · exact mem_allW h y (List.mem_of_mem_drop h1)

theorem wr_wr {α : Type} (hs : List α) (k : Nat) (ws : List α) (h : k + ws.length ≤ hs.length) : wr (wr hs k ws) k ws = wr hs k ws := by
  unfold wr
  have e1 : (hs.take k ++ (ws ++ hs.drop (k + ws.length))).take k = hs.take k := by
    rw [List.take_append_of_le_length (by simp; omega), List.take_take, Nat.min_self]
  have e2 : (hs.take k ++ (ws ++ hs.drop (k + ws.length))).drop (k + ws.length) = hs.drop (k + ws.length) := by
    rw [← List.append_assoc, List.drop_append_of_le_length (by simp; omega), List.drop_of_length_le (by simp; omega), List.nil_append]
  rw [e1, e2]

theorem wr_read {α : Type} (hs : List α) (k : Nat) (ws : List α) (h : k + ws.length ≤ hs.length) : ((wr hs k ws).drop k).take ws.length = ws := by
  unfold wr
  rw [List.drop_append_of_le_length (by simp; omega), List.drop_of_length_le (by simp; omega), List.nil_append, List.take_append_of_le_length (Nat.le_refl _), List.take_length]

theorem set_read {α : Type} (hs : List α) (k : Nat) (x : α) (h : k < hs.length) : ((hs.set k x).drop k).take 1 = [x] := by
  rw [← wr_one hs k x h]
  exact wr_read hs k [x] (by simp; omega)

/-- What the rows are behind a question that is served. -/
theorem svDo_len (cs is : List Bool) (hs rs : List Int) (kd pl nn wa : Int) (m1 m2 : Nat) (ws : List Int) (bs : List Bool) (h1 : m1 = ws.length) (h2 : m2 = bs.length) (h : okR kd pl nn wa ws m1 m2 = true) (ha : svAll cs.length is.length hs.length rs.length kd pl nn wa m1 m2 = true) :
    (svDo cs is hs rs kd pl nn wa ws bs).cs.length = cs.length ∧ (svDo cs is hs rs kd pl nn wa ws bs).hs.length = hs.length := by
  obtain ⟨hp, hk⟩ := okR_f h
  unfold svDo
  unfold svAll at ha
  rcases hk with hk | hk | hk | hk | hk | hk | hk | hk | hk | hk <;> obtain ⟨rfl, hk⟩ := hk
  · simp
  · simp
  · simp
  · simp
  · simp
  · simp
  · simp [hsB, spcN, spc0] at ha
    simp
    exact wr_length _ _ _ (by omega)
  · simp [hsB, spcN, spc0] at ha
    simp
    exact wr_length _ _ _ (by omega)
  · simp
  · simp [hsB, spcN, spc0] at ha
    simp
    exact wr_length _ _ _ (by omega)

theorem svV_cases (l1 l2 l3 l4 : Nat) (cs is : List Bool) (hs rs : List Int) (kd pl nn wa : Int) (m1 m2 : Nat) (ws : List Int) (bs : List Bool) :
    ((svV l1 l2 l3 l4 cs is hs rs kd pl nn wa m1 m2 ws bs).cs = cs ∧ (svV l1 l2 l3 l4 cs is hs rs kd pl nn wa m1 m2 ws bs).hs = hs ∧ (okR kd pl nn wa ws m1 m2 = false ∨ okD l1 l2 l3 l4 hs rs = false ∨ (svV l1 l2 l3 l4 cs is hs rs kd pl nn wa m1 m2 ws bs).fl = 2))
    ∨ (okR kd pl nn wa ws m1 m2 = true ∧ okD l1 l2 l3 l4 hs rs = true ∧ svAll l1 l2 l3 l4 kd pl nn wa m1 m2 = true ∧ svV l1 l2 l3 l4 cs is hs rs kd pl nn wa m1 m2 ws bs = svDo cs is hs rs kd pl nn wa ws bs) := by
  unfold svV
  cases hR : okR kd pl nn wa ws m1 m2
  · exact .inl ⟨rfl, rfl, .inl rfl⟩
  cases hD : okD l1 l2 l3 l4 hs rs
  · exact .inl ⟨rfl, rfl, .inr (.inl rfl)⟩
  cases hA : svAll l1 l2 l3 l4 kd pl nn wa m1 m2
  · exact .inl ⟨rfl, rfl, .inr (.inr rfl)⟩
  · exact .inr ⟨rfl, rfl, rfl, rfl⟩

theorem okD_words {l1 l2 l3 l4 : Nat} {hs rs : List Int} (h : okD l1 l2 l3 l4 hs rs = true) : allW hs = true ∧ allW rs = true := by
  unfold okD at h
  simp only [Bool.and_eq_true] at h
  exact ⟨h.2.1, h.2.2⟩

theorem okD_new {l1 l2 l3 l4 : Nat} {hs hs' rs : List Int} (h : okD l1 l2 l3 l4 hs rs = true) (h' : allW hs' = true) : okD l1 l2 l3 l4 hs' rs = true := by
  unfold okD at h ⊢
  simp only [Bool.and_eq_true] at h ⊢
  exact ⟨h.1, h', h.2.2⟩

theorem okR_words {kd pl nn wa : Int} {ws : List Int} {m1 m2 : Nat} (h : okR kd pl nn wa ws m1 m2 = true) : allW ws = true := by
  unfold okR at h
  simp only [Bool.and_eq_true] at h
  exact h.1

theorem svDo_words {cs is : List Bool} {hs rs : List Int} {kd pl nn wa : Int} {m1 m2 : Nat} {ws : List Int} {bs : List Bool} (h1 : m1 = ws.length) (h : okR kd pl nn wa ws m1 m2 = true) (hh : allW hs = true) (hp3 : kd = 22 → pl.toNat < hs.length) : allW (svDo cs is hs rs kd pl nn wa ws bs).hs = true := by
  obtain ⟨hp, hk⟩ := okR_f h
  have hw := okR_words h
  unfold svDo
  rcases hk with hk | hk | hk | hk | hk | hk | hk | hk | hk | hk <;> obtain ⟨rfl, hk⟩ := hk
  · simpa using hh
  · simpa using hh
  · simpa using hh
  · simpa using hh
  · simpa using hh
  · simp
    have := allW_at hw 0 (by omega)
    rw [List.getD_eq_getElem?_getD] at this
    exact allW_set hh this
  · simpa using hh
  · simp
    exact allW_wr hh hw
  · simp
    have q0 := allW_at hh pl.toNat (hp3 rfl)
    have q1 := allW_at hw 1 (by omega)
    simp only [List.getD_eq_getElem?_getD] at q0 q1
    exact allW_set hh (mskI_rg q0 q1)
  · simp
    exact allW_wr hh hw

/-- Served twice is as once. -/
theorem svDo_twice {cs is : List Bool} {hs rs : List Int} {kd pl nn wa : Int} {m1 m2 : Nat} {ws : List Int} {bs : List Bool} (h1 : m1 = ws.length) (h2 : m2 = bs.length) (h : okR kd pl nn wa ws m1 m2 = true) (hh : allW hs = true) (ha : svAll cs.length is.length hs.length rs.length kd pl nn wa m1 m2 = true) :
    svDo (svDo cs is hs rs kd pl nn wa ws bs).cs is (svDo cs is hs rs kd pl nn wa ws bs).hs rs kd pl nn wa ws bs = svDo cs is hs rs kd pl nn wa ws bs := by
  obtain ⟨hp, hk⟩ := okR_f h
  have hw := okR_words h
  unfold svAll at ha
  rcases hk with hk | hk | hk | hk | hk | hk | hk | hk | hk | hk <;> obtain ⟨rfl, hk⟩ := hk
  · simp [svDo]
  · simp [svDo]
  · simp [svDo]
  · simp [svDo]
  · simp [svDo, List.set_set]
  · simp [svDo, List.set_set]
  · simp [hsB, spcN, spc0] at ha
    simp [svDo]
    exact wr_wr _ _ _ (by omega)
  · simp [hsB, spcN, spc0] at ha
    simp [svDo]
    exact wr_wr _ _ _ (by omega)
  · simp [hsB, spcN, spc0] at ha
    have hl : pl.toNat < hs.length := by omega
    have q0 := allW_at hh pl.toNat hl
    have q1 := allW_at hw 1 (by omega)
    simp only [List.getD_eq_getElem?_getD] at q0 q1
    have e : ∀ x : Int, (hs.set pl.toNat x)[pl.toNat]?.getD 0 = x := by intro x; simp [hl]
    simp only [svDo]
    simp [List.set_set, e, mskI_again q0 q1]
  · simp [hsB, spcN, spc0] at ha
    have e := wr_wr hs wa.toNat ws (by omega)
    simp [svDo, e]

end Go.Proofs.Ytcnbbknmofonkaa

namespace Go.Proofs.Ytcnbbknmofonkaa
open Go.RowKit

set_option linter.unusedVariables false

set_option linter.unusedSimpArgs false

theorem SlB.takeM {w : World} {a : Option Addr} {zs : List Bool} (h : SlB w a zs) (m : Nat) : SlB w a (zs.take m) := by
  rcases h with e | ⟨b, off, e, hb, hc⟩
  · subst e; simp; exact .inl rfl
  · refine .inr ⟨b, off, e, hb, fun k hk => ?_⟩
    simp at hk
    rw [hc k (by omega)]
    have hm : k < m := by omega
    simp [List.getD_eq_getElem?_getD, List.getElem?_take, hm]

/-- Words that are read of a device. -/
theorem rd_words {l1 l2 l3 l4 : Nat} {cs is : List Bool} {hs rs : List Int} {pl : Int} {N : Nat} (hD : okD l1 l2 l3 l4 hs rs = true) (hp : 0 ≤ pl ∧ pl ≤ 65535) (hf : pl + (N : Int) ≤ 65536) (h1 : 1 ≤ N) (h2 : N ≤ 125) (ha : pl + (N : Int) ≤ (l3 : Int)) :
    svV l1 l2 l3 l4 cs is hs rs 3 pl (N : Int) 0 0 0 [] [] = ⟨cs, hs, 3, 0, 0, 0, (hs.drop pl.toNat).take N, []⟩ := by
  have hR : okR 3 pl (N : Int) 0 [] 0 0 = true := by
    unfold okR
    simp [allW, inB, okK, zrB, fitB]
    omega
  unfold svV
  rw [if_neg (by rw [hR]; decide), if_neg (by rw [hD]; decide), if_neg (by simp [svAll, spc0, spcN, hsB]; omega)]
  simp [svDo]

/-- Bits that are read of a device. -/
theorem rd_bits {l1 l2 l3 l4 : Nat} {cs is : List Bool} {hs rs : List Int} {pl : Int} {N : Nat} (hD : okD l1 l2 l3 l4 hs rs = true) (hp : 0 ≤ pl ∧ pl ≤ 65535) (hf : pl + (N : Int) ≤ 65536) (h1 : 1 ≤ N) (h2 : N ≤ 2000) (ha : pl + (N : Int) ≤ (l1 : Int)) :
    svV l1 l2 l3 l4 cs is hs rs 1 pl (N : Int) 0 0 0 [] [] = ⟨cs, hs, 1, 0, 0, 0, [], tB8 cs pl.toNat N⟩ := by
  have hR : okR 1 pl (N : Int) 0 [] 0 0 = true := by
    unfold okR
    simp [allW, inB, okK, zrB, fitB]
    omega
  unfold svV
  rw [if_neg (by rw [hR]; decide), if_neg (by rw [hD]; decide), if_neg (by simp [svAll, spc0, spcN, hsB]; omega)]
  simp [svDo]

/-- What is known of a question that is served. -/
structure SvT (l1 l2 l3 l4 : Nat) (cs is : List Bool) (hs rs : List Int) (kd pl nn wa : Int) (m1 m2 : Nat) (ws : List Int) (bs : List Bool) (V : SvR) : Prop where
  ok : okR kd pl nn wa ws m1 m2 = true
  od : okD l1 l2 l3 l4 V.hs rs = true
  cl : V.cs.length = l1
  hl : V.hs.length = l3
  tw : svV l1 l2 l3 l4 V.cs is V.hs rs kd pl nn wa m1 m2 ws bs = V
  kp : V.fl > 0 ∨ kd ≤ 4 → V.cs = cs ∧ V.hs = hs
  ww : V.fl ≤ 0 → kd = 6 ∨ kd = 16 → svV l1 l2 l3 l4 V.cs is V.hs rs 3 pl (m1 : Int) 0 0 0 [] [] = ⟨V.cs, V.hs, 3, 0, 0, 0, ws, []⟩
  wc : V.fl ≤ 0 → kd = 5 ∨ kd = 15 → ∃ pad, svV l1 l2 l3 l4 V.cs is V.hs rs 1 pl (m2 : Int) 0 0 0 [] [] = ⟨V.cs, V.hs, 1, 0, 0, 0, [], bs ++ pad⟩
  wr : V.fl ≤ 0 → kd = 23 → svV l1 l2 l3 l4 V.cs is V.hs rs 3 pl nn 0 0 0 [] [] = ⟨V.cs, V.hs, 3, 0, 0, 0, V.ws, []⟩

theorem svT_of {l1 l2 l3 l4 : Nat} {cs is : List Bool} {hs rs : List Int} {kd pl nn wa : Int} {m1 m2 : Nat} {ws : List Int} {bs : List Bool} (hn : LnD l1 l2 l3 l4 cs is hs rs) (h1 : m1 = ws.length) (h2 : m2 = bs.length) (hR : okR kd pl nn wa ws m1 m2 = true) (hD : okD l1 l2 l3 l4 hs rs = true) :
    SvT l1 l2 l3 l4 cs is hs rs kd pl nn wa m1 m2 ws bs (svV l1 l2 l3 l4 cs is hs rs kd pl nn wa m1 m2 ws bs) := by
  obtain ⟨rfl, rfl, rfl, rfl⟩ := hn
  obtain ⟨V, hV⟩ : ∃ V, V = svV cs.length is.length hs.length rs.length cs is hs rs kd pl nn wa m1 m2 ws bs := ⟨_, rfl⟩
  rcases svV_cases cs.length is.length hs.length rs.length cs is hs rs kd pl nn wa m1 m2 ws bs with ⟨e1, e2, h3⟩ | ⟨_, _, hA, e⟩
  · rw [← hV] at e1 e2 h3 ⊢
    have hf : V.fl = 2 := by
      rcases h3 with h3 | h3 | h3
      · rw [hR] at h3; cases h3
      · rw [hD] at h3; cases h3
      · exact h3
    refine ⟨hR, by rw [e2]; exact hD, by rw [e1], by rw [e2], by rw [e1, e2]; exact hV.symm, fun _ => ⟨e1, e2⟩, fun h => by omega, fun h => by omega, fun h => by omega⟩
  · rw [← hV] at e ⊢
    have hlen := svDo_len cs is hs rs kd pl nn wa m1 m2 ws bs h1 h2 hR hA
    have htw := svDo_twice h1 h2 hR (okD_words hD).1 hA
    obtain ⟨hp, hk⟩ := okR_f hR
    have hA' := hA
    unfold svAll at hA'
    have h22 : kd = 22 → pl.toNat < hs.length := by
      rintro rfl
      simp [hsB, spcN, spc0] at hA'
      omega
    have hod : okD cs.length is.length hs.length rs.length V.hs rs = true := okD_new hD (by rw [e]; exact svDo_words h1 hR (okD_words hD).1 h22)
    have hfl : V.fl = 0 := by rw [e]; exact svDo_fl _ _ _ _ _ _ _ _ _ _
    have hcl : V.cs.length = cs.length := by rw [e]; exact hlen.1
    have hhl : V.hs.length = hs.length := by rw [e]; exact hlen.2
    have hfit : (kd = 15 → pl + (m2 : Int) ≤ 65536) ∧ (kd = 16 → pl + (m1 : Int) ≤ 65536) ∧ (kd = 23 → pl + nn ≤ 65536) := by
      have h := hR
      unfold okR at h
      simp only [Bool.and_eq_true] at h
      have h := h.2.2
      refine ⟨?_, ?_, ?_⟩ <;> rintro rfl <;> simp [okK, fitB, zrB, inB] at h <;> omega
    refine ⟨hR, hod, hcl, hhl, ?_, ?_, ?_, ?_, ?_⟩
    · unfold svV
      rw [if_neg (by rw [hR]; decide), if_neg (by rw [hod]; decide), if_neg (by rw [hA]; decide), e]
      exact htw
    · rintro (h | h)
      · omega
      · rw [e]
        unfold svDo
        rcases hk with hk | hk | hk | hk | hk | hk | hk | hk | hk | hk <;> obtain ⟨rfl, hk⟩ := hk
        · simp
        · simp
        · simp
        · simp
        all_goals omega
    · rintro _ (rfl | rfl)
      · simp [hsB, spcN, spc0] at hA'
        simp [okR, okK, zrB] at hR
        have hm : m1 = 1 := by omega
        obtain ⟨x, rfl⟩ : ∃ x, ws = [x] := List.length_eq_one_iff.1 (by omega)
        have eh : V.hs = hs.set pl.toNat x := by rw [e]; simp [svDo]
        rw [rd_words hod hp (by omega) (by omega) (by omega) (by omega), hm, eh, set_read hs pl.toNat x (by omega)]
      · simp [hsB, spcN, spc0] at hA'
        have hm : 1 ≤ m1 ∧ m1 ≤ 123 := by omega
        have eh : V.hs = wr hs pl.toNat ws := by rw [e]; simp [svDo]
        rw [rd_words hod hp (by have := hfit.2.1 rfl; omega) (by omega) (by omega) (by omega), eh, h1, wr_read hs pl.toNat ws (by omega)]
    · rintro _ (rfl | rfl)
      · simp [hsB, spcN, spc0] at hA'
        have hm : m2 = 1 := by omega
        obtain ⟨x, rfl⟩ : ∃ x, bs = [x] := List.length_eq_one_iff.1 (by omega)
        have eh : V.cs = cs.set pl.toNat x := by rw [e]; simp [svDo]
        refine ⟨List.replicate (8 * ((1 + 7) / 8) - 1) false, ?_⟩
        rw [rd_bits hod hp (by omega) (by omega) (by omega) (by omega), hm, eh, tB8, set_read cs pl.toNat x (by omega)]
      · simp [hsB, spcN, spc0] at hA'
        have hm : 1 ≤ m2 ∧ m2 ≤ 1968 := by omega
        have eh : V.cs = wr cs pl.toNat bs := by rw [e]; simp [svDo]
        refine ⟨List.replicate (8 * ((bs.length + 7) / 8) - bs.length) false, ?_⟩
        rw [rd_bits hod hp (by have := hfit.1 rfl; omega) (by omega) (by omega) (by omega), eh, h2, tB8, wr_read cs pl.toNat bs (by omega)]
    · rintro _ rfl
      simp [hsB, spcN, spc0] at hA'
      obtain ⟨N, rfl⟩ : ∃ N : Nat, nn = (N : Int) := ⟨nn.toNat, by omega⟩
      rw [rd_words hod hp (by have := hfit.2.2 rfl; omega) (by omega) (by omega) (by omega), e]
      simp [svDo]

end Go.Proofs.Ytcnbbknmofonkaa

namespace Go.Proofs.Ytcnbbknmofonkaa
open Go.RowKit

set_option linter.unusedVariables false

set_option linter.unusedSimpArgs false

theorem tB8_len (bs : List Bool) (k N : Nat) (h : k + N ≤ bs.length) : (tB8 bs k N).length = 8 * ((N + 7) / 8) := by
  unfold tB8; simp; omega

/-- What Serve told, as a value. -/
def SRv (u : World) (B : Nat) (is : List Bool) (rs : List Int) (V : SvR) (v : Value) : Prop :=
  ∃ a1 a2 a3 a4 l1 l2 l3 l4 c1 c2 c3 c4 r1 r2 m1 m2 k1 k2, v = .tuple #[dv a1 a2 a3 a4 l1 l2 l3 l4 c1 c2 c3 c4, rp V.kd V.fl V.pl V.nn r1 r2 m1 m2 k1 k2] ∧ OwnD u B a1 a2 a3 a4 l1 l2 l3 l4 c1 c2 c3 c4 V.cs is V.hs rs ∧ OwnI u B (.slice r1 m1 k1) V.ws ∧ OwnB u B (.slice r2 m2 k2) V.bs ∧
    (∀ g, Of4 (.slice a1 l1 c1) (.slice a2 l2 c2) (.slice a3 l3 c3) (.slice a4 l4 c4) g → ¬ Of2 (.slice r1 m1 k1) (.slice r2 m2 k2) g)

theorem SRv.below {u u' : World} {B : Nat} {is : List Bool} {rs : List Int} {V : SvR} {v : Value} (h : SRv u B is rs V v) (hb : Below u.heap.size u u') : SRv u' B is rs V v := by
  obtain ⟨a1, a2, a3, a4, l1, l2, l3, l4, c1, c2, c3, c4, r1, r2, m1, m2, k1, k2, e, o1, o2, o3, o4⟩ := h
  exact ⟨a1, a2, a3, a4, l1, l2, l3, l4, c1, c2, c3, c4, r1, r2, m1, m2, k1, k2, e, o1.below hb, o2.below hb, o3.below hb, o4⟩

/-- What the two boxes hold behind such a statement. -/
def SRb (u : World) (B B6 B7 : Nat) (is : List Bool) (rs : List Int) (V : SvR) : Prop :=
  ∃ a1 a2 a3 a4 l1 l2 l3 l4 c1 c2 c3 c4 r1 r2 m1 m2 k1 k2, Blk u B6 29 #[.slice a1 l1 c1, .slice a2 l2 c2, .slice a3 l3 c3, .slice a4 l4 c4] ∧ Blk u B7 48 #[.int .i64 V.kd, .int .i64 V.fl, .int .i64 V.pl, .int .i64 V.nn, .slice r1 m1 k1, .slice r2 m2 k2] ∧ OwnD u B a1 a2 a3 a4 l1 l2 l3 l4 c1 c2 c3 c4 V.cs is V.hs rs ∧ OwnI u B (.slice r1 m1 k1) V.ws ∧ OwnB u B (.slice r2 m2 k2) V.bs ∧
    (∀ g, Of4 (.slice a1 l1 c1) (.slice a2 l2 c2) (.slice a3 l3 c3) (.slice a4 l4 c4) g → ¬ Of2 (.slice r1 m1 k1) (.slice r2 m2 k2) g)

theorem blk_neT {u : World} {g g' : Nat} {t t' : TypeId} {c c' : Array Value} (h : Blk u g t c) (h' : Blk u g' t' c') (ht : t ≠ t') : g ≠ g' := by
  intro e
  subst e
  have := h.symm.trans h'
  simp at this
  exact ht this.2

theorem blk_agg {u : World} {B : Nat} {t : TypeId} {cs zs : Array Value} (h : Blk u B t cs) (e : Value.agg cs = .agg zs) : Blk u B t zs := by
  injection e with e
  exact e ▸ h

theorem blk_set4 {u : World} {B : Nat} {t : TypeId} {z0 z1 z2 z3 v0 v1 v2 v3 : Value} (h : Blk u B t #[z0, z1, z2, z3]) : Blk ((((u.setCell ⟨B, 0, none⟩ v0).setCell ⟨B, 1, none⟩ v1).setCell ⟨B, 2, none⟩ v2).setCell ⟨B, 3, none⟩ v3) B t #[v0, v1, v2, v3] :=
  (((h.set 0 v0).set 1 v1).set 2 v2).set 3 v3

theorem blk_set6 {u : World} {B : Nat} {t : TypeId} {z0 z1 z2 z3 z4 z5 v0 v1 v2 v3 v4 v5 : Value} (h : Blk u B t #[z0, z1, z2, z3, z4, z5]) : Blk ((((((u.setCell ⟨B, 0, none⟩ v0).setCell ⟨B, 1, none⟩ v1).setCell ⟨B, 2, none⟩ v2).setCell ⟨B, 3, none⟩ v3).setCell ⟨B, 4, none⟩ v4).setCell ⟨B, 5, none⟩ v5) B t #[v0, v1, v2, v3, v4, v5] :=
  (((((h.set 0 v0).set 1 v1).set 2 v2).set 3 v3).set 4 v4).set 5 v5

theorem wpAny_inv_at {P : Program} {ops : Array Oper} {Q : Exit → Act → World → Prop} {md : Region.Mode} {a0 : Act} {w0 : World} (Inv : Act → Array Bool → Act → World → Prop)
    (hordB : ordB md ops = true)
    (hend : ∀ l a w, Inv a0 l a w → (∀ i, i < ops.size → l.getD i true = true) → Q .normal a w)
    (hstep : ∀ l a w i o, Inv a0 l a w → ops[i]? = some o → l.getD i true = false → (∀ e ∈ o.after, Region.binds md e = true → l.getD e.on false = true) →
      ∀ K : Act → World → Prop, (∀ a w, Inv a0 (l.setIfInBounds i true) a w → K a w) → if Region.wanted o (yielded ops a.tmps) = true then Oper.wp P o a w K Q else K (a.put o.dst undef) w)
    (fuel : Nat) (l : Array Bool) (hs : l.size = ops.size) (hc : l.toList.count false ≤ fuel) (hI : Inv a0 l a0 w0) : wpAny P md ops Q fuel l a0 w0 :=
  wpAny_inv (Inv a0) hordB hend hstep fuel l a0 w0 hs hc hI

theorem svV_len {l1 l2 l3 l4 : Nat} {cs is : List Bool} {hs rs : List Int} {kd pl nn wa : Int} {m1 m2 : Nat} {ws : List Int} {bs : List Bool} {V : SvR} (hn : LnD l1 l2 l3 l4 cs is hs rs) (h1 : m1 = ws.length) (h2 : m2 = bs.length) (hV : svV l1 l2 l3 l4 cs is hs rs kd pl nn wa m1 m2 ws bs = V) :
    V.cs.length = cs.length ∧ V.hs.length = hs.length ∧ V.ws.length ≤ ws.length + hs.length + rs.length ∧ V.bs.length ≤ bs.length + 2007 := by
  obtain ⟨e1, e2, e3, e4⟩ := hn
  cases hok : okR kd pl nn wa ws m1 m2
  · obtain rfl : V = ⟨cs, hs, 0, 0, 0, 0, [], []⟩ := by rw [← hV]; unfold svV; rw [if_pos hok]
    exact ⟨rfl, rfl, by simp, by simp⟩
  cases hd : okD l1 l2 l3 l4 hs rs
  · obtain rfl : V = ⟨cs, hs, kd, 4, 0, 0, [], []⟩ := by rw [← hV]; unfold svV; rw [hok, if_neg (by decide), if_pos hd]
    exact ⟨rfl, rfl, by simp, by simp⟩
  cases ha : svAll l1 l2 l3 l4 kd pl nn wa m1 m2
  · obtain rfl : V = ⟨cs, hs, kd, 2, 0, 0, [], []⟩ := by rw [← hV]; unfold svV; rw [hok, if_neg (by decide), hd, if_neg (by decide), if_pos ha]
    exact ⟨rfl, rfl, by simp, by simp⟩
  have hVd : svDo cs is hs rs kd pl nn wa ws bs = V := by rw [← hV]; unfold svV; rw [hok, if_neg (by decide), hd, if_neg (by decide), ha, if_neg (by decide)]
  have hle := svAll_le ha
  obtain ⟨⟨hp0, hp1⟩, hf⟩ := okR_f hok
  obtain ⟨k, rfl⟩ := Int.eq_ofNat_of_zero_le hp0
  clear hV
  rcases hf with h1 | h2 | h3 | h4 | h5 | h6 | h15 | h16 | h22 | h23
  · obtain ⟨rfl, hN1, hN2, hm1, hm2, rfl⟩ := h1
    obtain ⟨N, rfl⟩ := Int.eq_ofNat_of_zero_le (show 0 ≤ nn by omega)
    obtain rfl : V = ⟨cs, hs, 1, 0, 0, 0, [], tB8 cs k N⟩ := by rw [← hVd]; rfl
    have hle1 := hle.1
    have hle2 := hle.2
    simp [spc0, spcN] at hle1 hle2
    exact ⟨rfl, rfl, by simp, by show (tB8 cs k N).length ≤ _; rw [tB8_len cs k N (by omega)]; omega⟩
  · obtain ⟨rfl, hN1, hN2, hm1, hm2, rfl⟩ := h2
    obtain ⟨N, rfl⟩ := Int.eq_ofNat_of_zero_le (show 0 ≤ nn by omega)
    obtain rfl : V = ⟨cs, hs, 2, 0, 0, 0, [], tB8 is k N⟩ := by rw [← hVd]; rfl
    have hle1 := hle.1
    have hle2 := hle.2
    simp [spc0, spcN] at hle1 hle2
    exact ⟨rfl, rfl, by simp, by show (tB8 is k N).length ≤ _; rw [tB8_len is k N (by omega)]; omega⟩
  · obtain ⟨rfl, hN1, hN2, hm1, hm2, rfl⟩ := h3
    obtain ⟨N, rfl⟩ := Int.eq_ofNat_of_zero_le (show 0 ≤ nn by omega)
    obtain rfl : V = ⟨cs, hs, 3, 0, 0, 0, (hs.drop k).take N, []⟩ := by rw [← hVd]; rfl
    have hle1 := hle.1
    have hle2 := hle.2
    simp [spc0, spcN] at hle1 hle2
    exact ⟨rfl, rfl, by show ((hs.drop k).take N).length ≤ _; simp; omega, by simp⟩
  · obtain ⟨rfl, hN1, hN2, hm1, hm2, rfl⟩ := h4
    obtain ⟨N, rfl⟩ := Int.eq_ofNat_of_zero_le (show 0 ≤ nn by omega)
    obtain rfl : V = ⟨cs, hs, 4, 0, 0, 0, (rs.drop k).take N, []⟩ := by rw [← hVd]; rfl
    have hle1 := hle.1
    have hle2 := hle.2
    simp [spc0, spcN] at hle1 hle2
    exact ⟨rfl, rfl, by show ((rs.drop k).take N).length ≤ _; simp; omega, by simp⟩
  · obtain ⟨rfl, rfl, hm1, hm2, rfl⟩ := h5
    obtain rfl : V = ⟨cs.set k (bs.getD 0 false), hs, 5, 0, (k : Int), 0, [], bs⟩ := by rw [← hVd]; rfl
    have hle1 := hle.1
    have hle2 := hle.2
    simp [spc0, spcN] at hle1 hle2
    exact ⟨by simp, rfl, by simp, by show bs.length ≤ _; omega⟩
  · obtain ⟨rfl, rfl, hm1, hm2, rfl⟩ := h6
    obtain rfl : V = ⟨cs, hs.set k (ws.getD 0 0), 6, 0, (k : Int), 0, ws, []⟩ := by rw [← hVd]; rfl
    have hle1 := hle.1
    have hle2 := hle.2
    simp [spc0, spcN] at hle1 hle2
    exact ⟨rfl, by simp, by show ws.length ≤ _; omega, by simp⟩
  · obtain ⟨rfl, rfl, hm1, hm2, hm3, rfl⟩ := h15
    obtain rfl : V = ⟨wr cs k bs, hs, 15, 0, (k : Int), bs.length, [], []⟩ := by rw [← hVd]; rfl
    have hle1 := hle.1
    have hle2 := hle.2
    simp [spc0, spcN] at hle1 hle2
    exact ⟨wr_length cs k bs (by omega), rfl, by simp, by simp⟩
  · obtain ⟨rfl, rfl, hm2, hm1, hm3, rfl⟩ := h16
    obtain rfl : V = ⟨cs, wr hs k ws, 16, 0, (k : Int), ws.length, [], []⟩ := by rw [← hVd]; rfl
    have hle1 := hle.1
    have hle2 := hle.2
    simp [spc0, spcN] at hle1 hle2
    exact ⟨rfl, wr_length hs k ws (by omega), by simp, by simp⟩
  · obtain ⟨rfl, rfl, hm1, hm2, rfl⟩ := h22
    obtain rfl : V = ⟨cs, hs.set k (mskI (hs.getD k 0) (ws.getD 0 0) (ws.getD 1 0)), 22, 0, (k : Int), 0, ws, []⟩ := by rw [← hVd]; rfl
    have hle1 := hle.1
    have hle2 := hle.2
    simp [spc0, spcN] at hle1 hle2
    exact ⟨rfl, by simp, by show ws.length ≤ _; omega, by simp⟩
  · obtain ⟨rfl, hN1, hN2, hm2, hm1, hm3, hw1, hw2⟩ := h23
    obtain ⟨N, rfl⟩ := Int.eq_ofNat_of_zero_le (show 0 ≤ nn by omega)
    obtain ⟨j, rfl⟩ := Int.eq_ofNat_of_zero_le hw1
    obtain rfl : V = ⟨cs, wr hs j ws, 23, 0, 0, 0, ((wr hs j ws).drop k).take N, []⟩ := by rw [← hVd]; rfl
    have hle1 := hle.1
    have hle2 := hle.2
    simp [spc0, spcN] at hle1 hle2
    exact ⟨rfl, wr_length hs j ws (by omega), by show (((wr hs j ws).drop k).take N).length ≤ _; have := wr_length hs j ws (by omega); simp; omega, by simp⟩

end Go.Proofs.Ytcnbbknmofonkaa

namespace Go.Proofs.Ytcnbbknmofonkaa
open Go.RowKit

set_option linter.unusedVariables false

set_option linter.unusedSimpArgs false

theorem suB_kind {kd pl nn wa : Int} {m1 m2 : Nat} {qs : List Int} {qb : List Bool} {kd' fl ap an : Int} {l1 l2 : Nat} {ws : List Int} {bs : List Bool} (h : suB kd pl nn wa m1 m2 qs qb kd' fl ap an l1 l2 ws bs = true) : kd = kd' ∧ okR kd pl nn wa qs m1 m2 = true := by
  unfold suB at h
  simp only [Bool.and_eq_true] at h
  exact ⟨of_decide_eq_true h.2.2.1, h.1⟩

theorem kindB_ok {kd pl nn wa : Int} {ws : List Int} {m1 m2 : Nat} (h : okR kd pl nn wa ws m1 m2 = true) : kindB kd = true := by
  obtain ⟨_, hk⟩ := okR_f h
  rcases hk with hk | hk | hk | hk | hk | hk | hk | hk | hk | hk <;> obtain ⟨rfl, hk⟩ := hk <;> decide

theorem suB_fault {kd pl nn wa : Int} {m1 m2 : Nat} {qs : List Int} {qb : List Bool} {x : Int} (h : okR kd pl nn wa qs m1 m2 = true) (h1 : 1 ≤ x) (h2 : x ≤ 255) : suB kd pl nn wa m1 m2 qs qb kd x 0 0 0 0 [] [] = true := by
  have hk := kindB_ok h
  have h0 : ¬ x = 0 := by omega
  have h3 : 0 < x := by omega
  simp [suB, h, okA, hk, inB, allW, zr4, h0, h3]
  omega

theorem tB8_lenS (cs : List Bool) (k N : Nat) (h : k + N ≤ cs.length) : (tB8 cs k N).length = (N + 7) / 8 * 8 := by
  simp [tB8]
  omega

theorem tB8_nfS (cs : List Bool) (k N : Nat) (h : k + N ≤ cs.length) : nfB (tB8 cs k N) N = true := by
  refine decide_eq_true (fun i hi hN => ?_)
  unfold tB8 at hi ⊢
  have hl : ((cs.drop k).take N).length = N := by simp; omega
  rw [List.getD_eq_getElem?_getD, List.getElem?_append_right (by omega)]
  simp only [List.getElem?_replicate]
  split <;> rfl

theorem allW_cut {hs : List Int} {k N : Nat} (h : allW hs = true) : allW ((hs.drop k).take N) = true :=
  allW_mem (fun x hx => mem_allW h x (List.mem_of_mem_drop (List.mem_of_mem_take hx)))

theorem suB_served {l1 l2 l3 l4 : Nat} {cs is : List Bool} {hs rs : List Int} {kd pl nn wa : Int} {m1 m2 : Nat} {ws : List Int} {bs : List Bool} {V : SvR} (hn : LnD l1 l2 l3 l4 cs is hs rs) (h1 : m1 = ws.length) (h2 : m2 = bs.length) (hR : okR kd pl nn wa ws m1 m2 = true) (hD : okD l1 l2 l3 l4 hs rs = true) (hV : svV l1 l2 l3 l4 cs is hs rs kd pl nn wa m1 m2 ws bs = V) :
    suB kd pl nn wa m1 m2 ws bs V.kd V.fl V.pl V.nn V.ws.length V.bs.length V.ws V.bs = true := by
  obtain ⟨rfl, rfl, rfl, rfl⟩ := hn
  have hlim : cs.length ≤ 64 ∧ is.length ≤ 64 ∧ hs.length ≤ 64 ∧ rs.length ≤ 64 := by
    unfold okD at hD
    simp only [Bool.and_eq_true] at hD
    exact of_decide_eq_true hD.1
  obtain ⟨hw1, hw2⟩ := okD_words hD
  cases hA : svAll cs.length is.length hs.length rs.length kd pl nn wa m1 m2
  · have e : V = ⟨cs, hs, kd, 2, 0, 0, [], []⟩ := by rw [← hV]; unfold svV; rw [if_neg (by rw [hR]; decide), if_neg (by rw [hD]; decide), if_pos hA]
    rw [e]
    exact suB_fault hR (show (1 : Int) ≤ 2 by decide) (show (2 : Int) ≤ 255 by decide)
  · have e : V = svDo cs is hs rs kd pl nn wa ws bs := by rw [← hV]; unfold svV; rw [if_neg (by rw [hR]; decide), if_neg (by rw [hD]; decide), if_neg (by rw [hA]; decide)]
    rw [e]
    have hk2 := kindB_ok hR
    have hqw := okR_words hR
    obtain ⟨hp, hk⟩ := okR_f hR
    unfold svAll at hA
    unfold suB okA
    rw [hR]
    rcases hk with hk | hk | hk | hk | hk | hk | hk | hk | hk | hk <;> obtain ⟨rfl, hk⟩ := hk <;> rw [show svDo cs is hs rs _ pl nn wa ws bs = _ from rfl]
    · simp [hsB, spcN, spc0] at hA
      have q1 := tB8_lenS cs pl.toNat nn.toNat (by omega)
      have q2 := tB8_nfS cs pl.toNat nn.toNat (by omega)
      simp [svDo, hk2, inB, allW, okAK, zr4, anB, q1, q2]
      omega
    · simp [hsB, spcN, spc0] at hA
      have q1 := tB8_lenS is pl.toNat nn.toNat (by omega)
      have q2 := tB8_nfS is pl.toNat nn.toNat (by omega)
      simp [svDo, hk2, inB, allW, okAK, zr4, anB, q1, q2]
      omega
    · simp [hsB, spcN, spc0] at hA
      have q1 := allW_cut (k := pl.toNat) (N := nn.toNat) hw1
      simp [svDo, hk2, inB, okAK, zr4, anB, q1]
      omega
    · simp [hsB, spcN, spc0] at hA
      have q1 := allW_cut (k := pl.toNat) (N := nn.toNat) hw2
      simp [svDo, hk2, inB, okAK, zr4, anB, q1]
      omega
    · simp [svDo, hk2, inB, allW, okAK, zr4, anB]
      omega
    · simp [svDo, hk2, inB, hqw, okAK, zr4, anB]
      omega
    · simp [svDo, hk2, inB, allW, okAK, zr4, anB]
      omega
    · simp [svDo, hk2, inB, allW, okAK, zr4, anB]
      omega
    · simp [svDo, hk2, inB, hqw, okAK, zr4, anB]
      omega
    · simp [hsB, spcN, spc0] at hA
      have q1 := allW_cut (k := pl.toNat) (N := nn.toNat) (allW_wr (k := wa.toNat) hw1 hqw)
      have q2 := wr_length hs wa.toNat ws (by omega)
      simp [svDo, hk2, inB, okAK, zr4, anB, q1, q2]
      omega

end Go.Proofs.Ytcnbbknmofonkaa

namespace Go.Proofs.Ytcnbbknmofonkaa
open Go.RowKit

set_option maxHeartbeats 1000000 in
theorem at_any (w : World) (a : Option Addr) (n cap : Nat) (zs : List Int) (j : Int) (hj0 : 0 ≤ j) (hj : j ≤ 100) (hn : n = zs.length) (hs : Sl w a zs) (hr : ∀ z ∈ zs, 0 ≤ z ∧ z ≤ 255) (hl : zs.length ≤ 1048576) :
    Calls Try.prog 28 #[.slice a n cap, .int .i64 j] w fun e w' => ∃ x : Int, e = .returned (.int .i64 x) ∧ 0 ≤ x ∧ x ≤ 255 ∧ w' = w := by
  subst hn
  obtain ⟨k, rfl⟩ := Int.eq_ofNat_of_zero_le hj0
  by_cases hlt : k < zs.length
  · obtain ⟨b, off, rfl, _, hc⟩ := cell_at hs hlt
    have rg := get_range hr k
    generalize zs.getD k 0 = z at *
    have hi' : (k : Int) < (zs.length : Int) := by omega
    clear hs hr
    go_enter Try.func28, Try.ntmps28
    go_wp2
    go_ret
    exact ⟨z, rfl, rg.1, rg.2, rfl⟩
  · have hi' : ¬ (k : Int) < (zs.length : Int) := by omega
    clear hs hr
    go_enter Try.func28, Try.ntmps28
    go_wp2
    go_ret
    exact ⟨_, rfl, by omega, by omega, rfl⟩

end Go.Proofs.Ytcnbbknmofonkaa

namespace Go.Proofs.Ytcnbbknmofonkaa
open Go.RowKit

set_option linter.unusedVariables false

set_option linter.unusedSimpArgs false

/-- What is known in the law, once the question and the answer are drawn. -/
structure LQ (w : World) (u : World) (Q A : Nat) (kd pl nn wa : Int) (q1 q2 : Option Addr) (m1 m2 k1 k2 : Nat) (qs : List Int) (qb : List Bool) (kd' fl ap an : Int) (a1 a2 : Option Addr) (l1 l2 c1 c2 : Nat) (ws : List Int) (bs : List Bool) : Prop where
  b : Below w.heap.size w u
  y : Blk u Q 46 #[.int .i64 kd, .int .i64 pl, .int .i64 nn, .slice q1 m1 k1, .slice q2 m2 k2, .int .i64 wa]
  x : Blk u A 48 #[.int .i64 kd', .int .i64 fl, .int .i64 ap, .int .i64 an, .slice a1 l1 c1, .slice a2 l2 c2]
  i : OwnI u w.heap.size (.slice q1 m1 k1) qs
  j : OwnB u w.heap.size (.slice q2 m2 k2) qb
  i2 : OwnI u w.heap.size (.slice a1 l1 c1) ws
  j2 : OwnB u w.heap.size (.slice a2 l2 c2) bs

theorem LQ.below {w u t : World} {Q A : Nat} {kd pl nn wa : Int} {q1 q2 : Option Addr} {m1 m2 k1 k2 : Nat} {qs : List Int} {qb : List Bool} {kd' fl ap an : Int} {a1 a2 : Option Addr} {l1 l2 c1 c2 : Nat} {ws : List Int} {bs : List Bool} (h : LQ w u Q A kd pl nn wa q1 q2 m1 m2 k1 k2 qs qb kd' fl ap an a1 a2 l1 l2 c1 c2 ws bs) (b : Below u.heap.size u t) : LQ w t Q A kd pl nn wa q1 q2 m1 m2 k1 k2 qs qb kd' fl ap an a1 a2 l1 l2 c1 c2 ws bs :=
  ⟨bel_next h.b b, h.y.below b, h.x.below b, OwnI.below h.i b, OwnB.below h.j b, OwnI.below h.i2 b, OwnB.below h.j2 b⟩

/-- And what a device is and tells, in blocks. -/
structure LG (w : World) (Q A : Nat) (kd pl nn wa : Int) (q1 q2 : Option Addr) (m1 m2 k1 k2 : Nat) (qs : List Int) (qb : List Bool) (kd' fl ap an : Int) (a1 a2 : Option Addr) (l1 l2 c1 c2 : Nat) (ws : List Int) (bs : List Bool) (B N T : Nat) (u1 u2 u3 u4 : Option Addr) (e1 e2 e3 e4 v1 v2 v3 v4 : Nat) (is : List Bool) (rs : List Int) (V : SvR) (r1 r2 : Option Addr) (n1 n2 p1 p2 : Nat) (u : World) : Prop where
  l : LQ w u Q A kd pl nn wa q1 q2 m1 m2 k1 k2 qs qb kd' fl ap an a1 a2 l1 l2 c1 c2 ws bs
  x : Blk u N 29 #[.slice u1 e1 v1, .slice u2 e2 v2, .slice u3 e3 v3, .slice u4 e4 v4]
  y : Blk u T 48 #[.int .i64 V.kd, .int .i64 V.fl, .int .i64 V.pl, .int .i64 V.nn, .slice r1 n1 p1, .slice r2 n2 p2]
  e : OwnD u B u1 u2 u3 u4 e1 e2 e3 e4 v1 v2 v3 v4 V.cs is V.hs rs
  i : OwnI u B (.slice r1 n1 p1) V.ws
  j : OwnB u B (.slice r2 n2 p2) V.bs

theorem LG.below {w : World} {Q A : Nat} {kd pl nn wa : Int} {q1 q2 : Option Addr} {m1 m2 k1 k2 : Nat} {qs : List Int} {qb : List Bool} {kd' fl ap an : Int} {a1 a2 : Option Addr} {l1 l2 c1 c2 : Nat} {ws : List Int} {bs : List Bool} {B N T : Nat} {u1 u2 u3 u4 : Option Addr} {e1 e2 e3 e4 v1 v2 v3 v4 : Nat} {is : List Bool} {rs : List Int} {V : SvR} {r1 r2 : Option Addr} {n1 n2 p1 p2 : Nat} {u t : World} (h : LG w Q A kd pl nn wa q1 q2 m1 m2 k1 k2 qs qb kd' fl ap an a1 a2 l1 l2 c1 c2 ws bs B N T u1 u2 u3 u4 e1 e2 e3 e4 v1 v2 v3 v4 is rs V r1 r2 n1 n2 p1 p2 u) (b : Below u.heap.size u t) : LG w Q A kd pl nn wa q1 q2 m1 m2 k1 k2 qs qb kd' fl ap an a1 a2 l1 l2 c1 c2 ws bs B N T u1 u2 u3 u4 e1 e2 e3 e4 v1 v2 v3 v4 is rs V r1 r2 n1 n2 p1 p2 t :=
  ⟨h.l.below b, h.x.below b, h.y.below b, h.e.below b, OwnI.below h.i b, OwnB.below h.j b⟩

theorem capS {w : World} {B n c : Nat} {a : Option Addr} {bs : List Bool} (h : OwnB w B (.slice a n c) bs) : n ≤ c := by
  by_cases h0 : 0 < n
  · obtain ⟨_, _, h1⟩ := OwnB.cap h h0; exact h1
  · omega

theorem two_blkS (u : World) (c1 c2 : Array Value) (t1 t2 : TypeId) (W : World) (hW : W = (u.alloc (.cells c1 t1)).alloc (.cells c2 t2)) : Below u.heap.size u W ∧ Blk W u.heap.size t1 c1 ∧ Blk W (u.heap.size + 1) t2 c2 := by
  subst hW
  refine ⟨bel_next (bel_alloc _ _) (bel_alloc _ _), (Blk.new _ _ _).below (bel_alloc _ _), ?_⟩
  have := Blk.new (u.alloc (.cells c1 t1)) c2 t2
  simpa using this

end Go.Proofs.Ytcnbbknmofonkaa

namespace Go.Proofs.Ytcnbbknmofonkaa
open Go.RowKit

set_option linter.unusedVariables false

set_option linter.unusedSimpArgs false

abbrev rB : List Bool := List.replicate 30 false
abbrev rI : List Int := List.replicate 30 0

structure RK (W : World) (kd pl nn wa : Int) (q1 q2 : Option Addr) (m1 m2 k1 k2 : Nat) (V : SvR) (b0 b1 b2 b3 b4 b5 b6 b7 b8 b9 : Bool) (tB tC tS tM tE tF tX tY : Value) (u : World) : Prop where
  bel : Below W.heap.size W u
  f0 : b0 = true → ∃ d1 d2 d3 d4 h1 h2 h3 h4 g1 g2 g3 g4, tB = dv d1 d2 d3 d4 h1 h2 h3 h4 g1 g2 g3 g4 ∧ OwnD u W.heap.size d1 d2 d3 d4 h1 h2 h3 h4 g1 g2 g3 g4 rB rB rI rI
  f1 : b1 = true → tC = .agg #[.int .i64 kd, .int .i64 pl, .int .i64 nn, .slice q1 m1 k1, .slice q2 m2 k2, .int .i64 wa]
  f2 : b2 = true → SRv u W.heap.size rB rI V tS
  f3 : b3 = true → b2 = true ∧ tM = tS
  f4 : b4 = true → b3 = true ∧ ∀ x y, tM = .tuple #[x, y] → tE = x
  f5 : b5 = true → b3 = true ∧ ∀ x y, tM = .tuple #[x, y] → tF = y
  f6 : b6 = true → ∃ B6, tX = .pointer (some ⟨B6, 0, none⟩) ∧ W.heap.size ≤ B6 ∧ (b8 = false → Blk u B6 29 #[.slice none 0 0, .slice none 0 0, .slice none 0 0, .slice none 0 0]) ∧ (b8 = true → ∀ zs, tE = .agg zs → Blk u B6 29 zs)
  f7 : b7 = true → ∃ B7, tY = .pointer (some ⟨B7, 0, none⟩) ∧ W.heap.size ≤ B7 ∧ (b9 = false → Blk u B7 48 #[.int .i64 0, .int .i64 0, .int .i64 0, .int .i64 0, .slice none 0 0, .slice none 0 0]) ∧ (b9 = true → ∀ zs, tF = .agg zs → Blk u B7 48 zs)
  g8 : b8 = true → b6 = true ∧ b4 = true
  g9 : b9 = true → b7 = true ∧ b5 = true

theorem RK.below {W : World} {kd pl nn wa : Int} {q1 q2 : Option Addr} {m1 m2 k1 k2 : Nat} {V : SvR} {b0 b1 b2 b3 b4 b5 b6 b7 b8 b9 : Bool} {tB tC tS tM tE tF tX tY : Value} {u u' : World} (F : RK W kd pl nn wa q1 q2 m1 m2 k1 k2 V b0 b1 b2 b3 b4 b5 b6 b7 b8 b9 tB tC tS tM tE tF tX tY u) (b : Below u.heap.size u u') : RK W kd pl nn wa q1 q2 m1 m2 k1 k2 V b0 b1 b2 b3 b4 b5 b6 b7 b8 b9 tB tC tS tM tE tF tX tY u' where
  bel := bel_next F.bel b
  f0 := fun h => by obtain ⟨z1, z2, z3, z4, z5, z6, z7, z8, z9, z10, z11, z12, e, o⟩ := F.f0 h; exact ⟨z1, z2, z3, z4, z5, z6, z7, z8, z9, z10, z11, z12, e, o.below b⟩
  f1 := F.f1
  f2 := fun h => by obtain ⟨x1, x2, x3, x4, y1, y2, y3, y4, d1, d2, d3, d4, r1, r2, p1, p2, k1', k2', e, o1, o2, o3, o4⟩ := F.f2 h; exact ⟨x1, x2, x3, x4, y1, y2, y3, y4, d1, d2, d3, d4, r1, r2, p1, p2, k1', k2', e, o1.below b, OwnI.below o2 b, OwnB.below o3 b, o4⟩
  f3 := F.f3
  f4 := F.f4
  f5 := F.f5
  f6 := fun h => by obtain ⟨B, e, l, z, y⟩ := F.f6 h; exact ⟨B, e, l, fun k => (z k).below b, fun k zs ez => (y k zs ez).below b⟩
  f7 := fun h => by obtain ⟨B, e, l, z, y⟩ := F.f7 h; exact ⟨B, e, l, fun k => (z k).below b, fun k zs ez => (y k zs ez).below b⟩
  g8 := F.g8
  g9 := F.g9

def putK (a : Act) (tB tC tS tM tE tF tX tY : Value) : Act := ((((((((a.put (some 45) tB).put (some 46) tC).put (some 47) tS).put (some 44) tM).put (some 48) tE).put (some 49) tF).put (some 6) tX).put (some 7) tY)

def RInvK (W : World) (kd pl nn wa : Int) (q1 q2 : Option Addr) (m1 m2 k1 k2 : Nat) (V : SvR) (a0 : Act) (l : Array Bool) (act : Act) (u : World) : Prop :=
  ∃ b0 b1 b2 b3 b4 b5 b6 b7 b8 b9 : Bool, l = #[b0, b1, b2, b3, b4, b5, b6, b7, b8, b9] ∧ ∃ tB tC tS tM tE tF tX tY : Value, act = putK a0 tB tC tS tM tE tF tX tY ∧ RK W kd pl nn wa q1 q2 m1 m2 k1 k2 V b0 b1 b2 b3 b4 b5 b6 b7 b8 b9 tB tC tS tM tE tF tX tY u

end Go.Proofs.Ytcnbbknmofonkaa

namespace Go.Proofs.Ytcnbbknmofonkaa
open Go.RowKit

def dstOf (ops : Array Oper) (i : Nat) : Option Tmp := (ops[i]?).bind (·.dst)

def dstB (ops : Array Oper) (n : Nat) : Bool :=
  (List.range ops.size).all fun i => match dstOf ops i with
    | some d => decide (d < n) && (List.range ops.size).all fun j => decide (j = i) || decide (dstOf ops j ≠ some d)
    | none => false

def isDst (ops : Array Oper) (s : Nat) : Bool := (List.range ops.size).any fun i => decide (dstOf ops i = some s)

/-- Values put into a frame, one behind the other. -/
def putsL (a : Act) : Nat → List Oper → (Nat → Value) → Act
  | _, [], _ => a
  | i, o :: os, vs => putsL (a.put o.dst (vs i)) (i + 1) os vs

def wantV (ops : Array Oper) (o : Oper) (ρ : Operand → Value) : Bool :=
  match o.guard with
  | none => true
  | some (j, want) => match dstOf ops j with
    | some d => (match ρ (.tmp d) with | .bool b => b == want | _ => false)
    | none => false

/-- What is asked of one operation. -/
def StpV (P : Program) (ops : Array Oper) (Φ : Nat → Value → World → Prop) (R : World → Prop) (i : Nat) (o : Oper) (ρ : Operand → Value) (u : World) : Prop :=
  (wantV ops o ρ = true ∧ ((∃ v u', (execOp ρ o).run P u = .ok (.value v) u' ∧ Φ i v u' ∧ R u' ∧ Below u.heap.size u u') ∨ (∃ f args, (execOp ρ o).run P u = .ok (.enter f args) u ∧ Calls P f args u fun e u' => ∃ v, e = .returned v ∧ Φ i v u' ∧ R u' ∧ Below u.heap.size u u')))
  ∨ (wantV ops o ρ = false ∧ Φ i undef u)

structure InvV (ops : Array Oper) (Φ : Nat → Value → World → Prop) (R : World → Prop) (a0 : Act) (l : Array Bool) (a : Act) (u : World) : Prop where
  r : R u
  ls : l.size = ops.size
  df : a.defers = a0.defers
  sz : a.tmps.size = a0.tmps.size
  old : ∀ s, (∀ i d, dstOf ops i = some d → l.getD i false = true → d ≠ s) → a.tmps.getD s undef = a0.tmps.getD s undef
  val : ∀ i d, dstOf ops i = some d → l.getD i false = true → Φ i (a.tmps.getD d undef) u

theorem dstB_of {ops : Array Oper} {n : Nat} (h : dstB ops n = true) {i : Nat} (hi : i < ops.size) : ∃ d, dstOf ops i = some d ∧ d < n ∧ ∀ j, j < ops.size → dstOf ops j = some d → j = i := by
  unfold dstB at h
  rw [List.all_eq_true] at h
  have h1 := h i (List.mem_range.2 hi)
  cases hd : dstOf ops i with
  | none => rw [hd] at h1; cases h1
  | some d =>
    rw [hd] at h1
    simp only [Bool.and_eq_true, decide_eq_true_eq, List.all_eq_true, Bool.or_eq_true] at h1
    refine ⟨d, rfl, h1.1, fun j hj e => ?_⟩
    rcases h1.2 j (List.mem_range.2 hj) with h2 | h2
    · exact h2
    · exact absurd e h2

theorem getD_set {l : Array Bool} {i j : Nat} (hi : i < l.size) : (l.setIfInBounds i true).getD j false = if j = i then true else l.getD j false := by
  simp only [Array.getD_eq_getD_getElem?, Array.getElem?_setIfInBounds]
  by_cases e : j = i
  · subst e; simp [hi]
  · rw [if_neg (Ne.symm e), if_neg e]

theorem getD_put {a : Act} {d s : Nat} {v : Value} (hd : d < a.tmps.size) : (a.put (some d) v).tmps.getD s undef = if s = d then v else a.tmps.getD s undef := by
  show (a.tmps.setIfInBounds d v).getD s undef = _
  simp only [Array.getD_eq_getD_getElem?, Array.getElem?_setIfInBounds]
  by_cases e : s = d
  · subst e; simp [hd]
  · rw [if_neg (Ne.symm e), if_neg e]

theorem InvV.next {ops : Array Oper} {Φ : Nat → Value → World → Prop} {R : World → Prop} {a0 : Act} {l : Array Bool} {a : Act} {u u' : World} (h : InvV ops Φ R a0 l a u) (hB : dstB ops a0.tmps.size = true)
    (hmono : ∀ i v u u', Φ i v u → Below u.heap.size u u' → Φ i v u') {i : Nat} {o : Oper} (ho : ops[i]? = some o) {v : Value} (hv : Φ i v u') (hr : R u') (hb : Below u.heap.size u u') :
    InvV ops Φ R a0 (l.setIfInBounds i true) (a.put o.dst v) u' := by
  have hi : i < ops.size := (Array.getElem?_eq_some_iff.1 ho).1
  obtain ⟨d, hd, hlt, hun⟩ := dstB_of hB hi
  have hod : o.dst = some d := by simpa [dstOf, ho] using hd
  rw [hod]
  have hlt' : d < a.tmps.size := by rw [h.sz]; exact hlt
  have hil : i < l.size := by rw [h.ls]; exact hi
  refine ⟨hr, by simpa using h.ls, h.df, by simpa [Act.put] using h.sz, fun s hs => ?_, fun j e hj hl => ?_⟩
  · have hne : d ≠ s := hs i d hd (by rw [getD_set hil, if_pos rfl])
    rw [getD_put hlt', if_neg (Ne.symm hne)]
    exact h.old s (fun j e hj hl => hs j e hj (by rw [getD_set hil]; split; rfl; exact hl))
  · have hjs : j < ops.size := by
      cases hoj : ops[j]? with
      | none => rw [dstOf, hoj] at hj; cases hj
      | some o' => exact (Array.getElem?_eq_some_iff.1 hoj).1
    rw [getD_put hlt']
    by_cases e1 : e = d
    · subst e1
      obtain rfl := hun j hjs hj
      rw [if_pos rfl]
      exact hv
    · rw [if_neg e1]
      have e2 : j ≠ i := fun e2 => by subst e2; rw [hd] at hj; exact e1 (Option.some.inj hj).symm
      rw [getD_set hil, if_neg e2] at hl
      exact hmono _ _ _ _ (h.val j e hj hl) hb

theorem putsL_eq {a : Act} : ∀ (os : List Oper) (k : Nat) (a' : Act) (vs : Nat → Value), a'.defers = a.defers → a'.tmps.size = a.tmps.size → (∀ (j : Nat) (o : Oper) (d : Nat), os[j]? = some o → o.dst = some d → vs (k + j) = a.tmps.getD d undef) →
    (∀ s, a'.tmps.getD s undef = a.tmps.getD s undef ∨ ∃ (j : Nat) (o : Oper), os[j]? = some o ∧ o.dst = some s) → (∀ (j : Nat) (o : Oper), os[j]? = some o → ∃ d, o.dst = some d ∧ d < a.tmps.size) → putsL a' k os vs = a
  | [], k, a', vs, h1, h2, _, h4, _ => by
    have e : a'.tmps = a.tmps := by
      apply Array.ext h2
      intro i hi1 hi2
      rcases h4 i with h | ⟨j, o, h, _⟩
      · simpa [Array.getD, hi1, hi2] using h
      · simp at h
    cases a'; cases a
    simp only at e h1
    subst e h1
    rfl
  | o :: os, k, a', vs, h1, h2, h3, h4, h5 => by
    obtain ⟨d, hd, hlt⟩ := h5 0 o rfl
    show putsL (a'.put o.dst (vs k)) (k + 1) os vs = a
    rw [hd]
    refine putsL_eq os (k + 1) _ vs h1 (by simpa [Act.put] using h2) (fun j o' d' ho hd' => by rw [show k + 1 + j = k + (j + 1) by omega]; exact h3 (j + 1) o' d' (by simpa using ho) hd') (fun s => ?_) (fun j o' ho => h5 (j + 1) o' (by simpa using ho))
    rw [getD_put (by rw [h2]; exact hlt)]
    by_cases e : s = d
    · subst e
      rw [if_pos rfl]
      exact .inl (by simpa using h3 0 o s rfl hd)
    · rw [if_neg e]
      rcases h4 s with h | ⟨j, o', ho, hd'⟩
      · exact .inl h
      · cases j with
        | zero => simp at ho; subst ho; rw [hd] at hd'; exact absurd (Option.some.inj hd').symm e
        | succ j => exact .inr ⟨j, o', by simpa using ho, hd'⟩

theorem wanted_eq {ops : Array Oper} {a : Act} {o : Oper} (h : ∀ j d, dstOf ops j = some d → d < a.tmps.size) : Region.wanted o (yielded ops a.tmps) = wantV ops o a.eval := by
  unfold Region.wanted wantV
  cases o.guard with
  | none => rfl
  | some p =>
    obtain ⟨j, want⟩ := p
    have hy : yielded ops a.tmps j = match dstOf ops j with
        | some d => (match a.eval (.tmp d) with | .bool b => some b | _ => none)
        | none => none := by
      unfold yielded dstOf
      cases hd : (ops[j]?).bind (·.dst) with
      | none => rfl
      | some d =>
        have hlt := h j d hd
        have e : (some d).bind (fun t => a.tmps[t]?) = some (a.eval (.tmp d)) := by
          show a.tmps[d]? = some (a.tmps.getD d undef)
          simp [Array.getD, hlt]
        rw [e]
        simp only
        generalize a.eval (.tmp d) = x
        cases x <;> rfl
    show (yielded ops a.tmps j == some want) = (match dstOf ops j with
      | some d => (match a.eval (.tmp d) with | .bool b => b == want | _ => false)
      | none => false)
    rw [hy]
    cases dstOf ops j with
    | none => rfl
    | some d =>
      simp only
      generalize a.eval (.tmp d) = x
      cases x <;> simp

theorem wpAny_vals {P : Program} {ops : Array Oper} {Q : Exit → Act → World → Prop} {md : Region.Mode} {a0 : Act} {w0 : World} (R : World → Prop) (Φ : Nat → Value → World → Prop)
    (hordB : ordB md ops = true) (hB : dstB ops a0.tmps.size = true) (hmono : ∀ i v u u', Φ i v u → Below u.heap.size u u' → Φ i v u') (h0 : R w0)
    (hend : ∀ (vs : Nat → Value) u, R u → (∀ i, i < ops.size → Φ i (vs i) u) → Q .normal (putsL a0 0 ops.toList vs) u)
    (hstep : ∀ u i o (ρ : Operand → Value), R u → ops[i]? = some o → (∀ s, isDst ops s = false → ρ (.tmp s) = a0.eval (.tmp s)) → (∀ v, ρ (.const v) = v) → (∀ f, ρ (.func f) = .func (.func f) #[] #[]) →
      (∀ e ∈ o.after, Region.binds md e = true → ∀ d, dstOf ops e.on = some d → Φ e.on (ρ (.tmp d)) u) → StpV P ops Φ R i o ρ u)
    (fuel : Nat) (l : Array Bool) (hs : l.size = ops.size) (hc : l.toList.count false ≤ fuel) (hl : ∀ i, l.getD i false = false) : wpAny P md ops Q fuel l a0 w0 := by
  refine wpAny_inv (InvV ops Φ R a0) hordB ?_ ?_ fuel l a0 w0 hs hc ?_
  · intro l a u h hall
    have hall' : ∀ i, i < ops.size → l.getD i false = true := fun i hi => by rw [getD_eq (by rw [h.ls]; exact hi) false true]; exact hall i hi
    have e : putsL a0 0 ops.toList (fun i => a.tmps.getD ((dstOf ops i).getD 0) undef) = a := by
      refine putsL_eq ops.toList 0 a0 _ h.df.symm h.sz.symm (fun j o d ho hd => ?_) (fun s => ?_) (fun j o ho => ?_)
      · rw [Nat.zero_add]
        have : dstOf ops j = some d := by rw [Array.getElem?_toList] at ho; simp [dstOf, ho, hd]
        show a.tmps.getD ((dstOf ops j).getD 0) undef = _
        rw [this]; rfl
      · by_cases hx : ∃ j d, dstOf ops j = some d ∧ l.getD j false = true ∧ d = s
        · obtain ⟨j, d, hd, _, rfl⟩ := hx
          right
          unfold dstOf at hd
          cases ho : ops[j]? with
          | none => rw [ho] at hd; cases hd
          | some o => rw [ho] at hd; exact ⟨j, o, by rw [Array.getElem?_toList]; exact ho, hd⟩
        · left
          exact (h.old s (fun i d hd hl e => hx ⟨i, d, hd, hl, e⟩)).symm
      · rw [Array.getElem?_toList] at ho
        have hi : j < ops.size := (Array.getElem?_eq_some_iff.1 ho).1
        obtain ⟨d, hd, hlt, _⟩ := dstB_of hB hi
        exact ⟨d, by simpa [dstOf, ho] using hd, by rw [h.sz]; exact hlt⟩
    rw [← e]
    refine hend _ u h.r (fun i hi => ?_)
    obtain ⟨d, hd, _, _⟩ := dstB_of hB hi
    show Φ i (a.tmps.getD ((dstOf ops i).getD 0) undef) u
    rw [hd]
    exact h.val i d hd (hall' i hi)
  · intro l a u i o h ho hli hdep K hK
    have hi : i < ops.size := (Array.getElem?_eq_some_iff.1 ho).1
    have hin : ∀ j d, dstOf ops j = some d → j < ops.size := fun j d hj => by
      unfold dstOf at hj
      cases hoj : ops[j]? with
      | none => rw [hoj] at hj; cases hj
      | some o' => exact (Array.getElem?_eq_some_iff.1 hoj).1
    have hw : Region.wanted o (yielded ops a.tmps) = wantV ops o a.eval := wanted_eq (fun j d hj => by
      obtain ⟨d', hd', hlt, _⟩ := dstB_of hB (hin j d hj)
      rw [hj] at hd'
      rw [h.sz, Option.some.inj hd']; exact hlt)
    have hst := hstep u i o a.eval h.r ho (fun s hns => by
      refine h.old s (fun j d hj _ e => ?_)
      subst e
      have : isDst ops d = true := by
        unfold isDst
        rw [List.any_eq_true]
        exact ⟨j, List.mem_range.2 (hin j d hj), by simp [hj]⟩
      rw [this] at hns; cases hns) (fun _ => rfl) (fun _ => rfl) (fun e he hb d hd => h.val e.on d hd (hdep e he hb))
    rcases hst with ⟨hwt, ⟨v, u', hrun, hv, hr, hbl⟩ | ⟨f, args, hrun, hcall⟩⟩ | ⟨hwf, hv⟩
    · rw [if_pos (by rw [hw]; exact hwt)]
      unfold Oper.wp
      rw [hrun]
      exact hK _ _ (h.next hB hmono ho hv hr hbl)
    · rw [if_pos (by rw [hw]; exact hwt)]
      unfold Oper.wp
      rw [hrun, Oper.upon_enter]
      refine hcall.mono ?_
      rintro e u' ⟨v, rfl, hv, hr, hbl⟩
      exact hK _ _ (h.next hB hmono ho hv hr hbl)
    · rw [if_neg (by rw [hw, hwf]; decide)]
      exact hK _ _ (h.next hB hmono ho hv h.r (Below.refl _ _))
  · exact ⟨h0, hs, rfl, rfl, fun _ _ => rfl, fun i d _ hl' => by rw [hl i] at hl'; cases hl'⟩

end Go.Proofs.Ytcnbbknmofonkaa

namespace Go.Proofs.Ytcnbbknmofonkaa
open Go.RowKit

theorem run_load_op {P : Program} {ρ : Operand → Value} {o : Oper} {u : World} {t : TypeId} {p : Operand} {ptr v : Value} (ho : o.op = .load t p) (hp : ρ p = ptr) (hr : (Instr.loadAt t ptr).run P u = .ok v u) : (execOp ρ o).run P u = .ok (.value v) u := by
  unfold execOp
  simp only [ho, hp]
  rw [Sem.run_bind, hr]
  rfl

theorem run_call_op {P : Program} {ρ : Operand → Value} {o : Oper} {u : World} {f : FuncId} {xs : Array Operand} {ts : Array TypeId} {args : Array Value} (ho : o.op = .call ⟨.value (.func f), xs, ts⟩) (hf : ρ (.func f) = .func (.func f) #[] #[]) (hx : xs.map ρ = args)
    (hc : (callFunc f args).run P u = .ok (.enter f args) u) : (execOp ρ o).run P u = .ok (.enter f args) u := by
  unfold execOp
  simp only [ho, resolve, hf, hx]
  show (callFunc f ((#[] ++ args) ++ #[])).run P u = _
  simpa using hc

theorem run_pick_op {P : Program} {ρ : Operand → Value} {o : Oper} {u : World} {c x y : Operand} {b : Bool} (ho : o.op = .pick c x y) (hc : ρ c = .bool b) : (execOp ρ o).run P u = .ok (.value (if b = true then ρ x else ρ y)) u := by
  unfold execOp
  simp only [ho, hc]
  rfl

theorem run_bin_op {P : Program} {ρ : Operand → Value} {o : Oper} {u : World} {op : BinOp} {t t' : TypeId} {x y : Operand} {a b v : Value} (ho : o.op = .binOp op t x y t') (ha : ρ x = a) (hb : ρ y = b) (hr : (do eqGuard op t x y a b; binOp op t a b : Sem Value).run P u = .ok v u) : (execOp ρ o).run P u = .ok (.value v) u := by
  unfold execOp
  simp only [ho, ha, hb]
  rw [Sem.run_bind, hr]
  rfl

end Go.Proofs.Ytcnbbknmofonkaa

namespace Go.Proofs.Ytcnbbknmofonkaa
open Go.RowKit

set_option linter.unusedVariables false

set_option linter.unusedSimpArgs false

set_option maxRecDepth 20000 in
set_option maxHeartbeats 2000000 in
theorem suited_law (a : Option Addr) (n cap : Nat) (zs : List Int) (w : World) (hn : n = zs.length) (hs : Sl w a zs) (hr : ∀ z ∈ zs, 0 ≤ z ∧ z ≤ 255) (hl : zs.length ≤ 1048576) :
    Calls Try.prog 4 #[.slice a n cap] w fun e w' => e = .returned (.bool true) ∧ Below w.heap.size w w' := by
  have HS : Hid (n = zs.length ∧ Sl w a zs ∧ (∀ z ∈ zs, 0 ≤ z ∧ z ≤ 255) ∧ zs.length ≤ 1048576) := ⟨hn, hs, hr, hl⟩
  have hl' : ¬ ((1048576 : Int) < (n : Int)) := by omega
  clear hn hs hr hl
  have AT : Hid (∀ (u : World) (j : Int), 0 ≤ j → j ≤ 100 → Below w.heap.size w u → Calls Try.prog 28 #[.slice a n cap, .int .i64 j] u fun e w' => ∃ x : Int, e = .returned (.int .i64 x) ∧ 0 ≤ x ∧ x ≤ 255 ∧ u = w') := fun u j h0 h1 hb => (at_any u a n cap zs j h0 h1 HS.out.1 (HS.out.2.1.below hb) HS.out.2.2.1 HS.out.2.2.2).mono (fun e w' ⟨x, h1, h2, h3, h4⟩ => ⟨x, h1, h2, h3, h4.symm⟩)
  go_enter Try.func4, Try.ntmps4
  go_wp2_with (first | (go_at_call 20; go_in) | fail)
  refine (DrawSuits_any w a n cap zs HS.out.1 HS.out.2.1 HS.out.2.2.1 HS.out.2.2.2).mono ?_
  rintro e w1 ⟨kd, pl, nn, wa, q1, q2, m1, m2, k1, k2, qs, qb, kd', fl, ap, an, a1, a2, l1, l2, c1, c2, ws, bs, rfl, hm1, hm2, hl1, hl2, i1, j1, i2, j2, b1⟩
  have HE : Hid (m1 = qs.length ∧ m2 = qb.length ∧ l1 = ws.length ∧ l2 = bs.length ∧ m1 ≤ 5000 ∧ m2 ≤ 5000 ∧ l1 ≤ 5000 ∧ l2 ≤ 5000) := ⟨i1.sl.1, j1.sl.1, i2.sl.1, j2.sl.1, hm1, hm2, hl1, hl2⟩
  clear hm1 hm2 hl1 hl2
  obtain ⟨w2, hw2⟩ : ∃ x, x = (w1.alloc (.cells #[.int .i64 kd, .int .i64 pl, .int .i64 nn, .slice q1 m1 k1, .slice q2 m2 k2, .int .i64 wa] 46)).alloc (.cells #[.int .i64 kd', .int .i64 fl, .int .i64 ap, .int .i64 an, .slice a1 l1 c1, .slice a2 l2 c2] 48) := ⟨_, rfl⟩
  obtain ⟨b', Y2, X2⟩ := two_blkS w1 _ _ _ _ w2 hw2
  obtain ⟨Q, hQ⟩ : ∃ x, x = w1.heap.size := ⟨_, rfl⟩
  rw [← hQ] at X2 Y2
  have L2 : LQ w w2 Q (Q + 1) kd pl nn wa q1 q2 m1 m2 k1 k2 qs qb kd' fl ap an a1 a2 l1 l2 c1 c2 ws bs := ⟨bel_next b1 b', Y2, X2, OwnI.below i1 b', OwnB.below j1 b', OwnI.below i2 b', OwnB.below j2 b'⟩
  have HW2 : Hid (w2 = _) := hw2
  have HQ : Hid (Q = w1.heap.size) := hQ
  clear hw2 hQ b1 i1 j1 i2 j2 b' X2 Y2
  obtain ⟨S, hS⟩ : ∃ S, suB kd pl nn wa m1 m2 qs qb kd' fl ap an l1 l2 ws bs = S := ⟨_, rfl⟩
  have HSu : Hid (suB kd pl nn wa m1 m2 qs qb kd' fl ap an l1 l2 ws bs = S) := hS
  clear hS
  obtain ⟨y0, y1, y2, y3, y4, y5⟩ := L2.y.six
  obtain ⟨x0, x1, x2, x3, x4, x5⟩ := L2.x.six
  go_upto_region 4 with fail
  rw [← HW2.out]
  simp only [← HQ.out]
  go_wp2_with fail
  refine (implSuits_q kd kd' fl pl nn wa q1 q2 m1 m2 k1 k2 qs qb ap an a1 a2 l1 l2 c1 c2 ws bs _ HE.out.1 HE.out.2.1 L2.i.sl.2 L2.j.sl.2 (by have := HE.out; omega) (by have := HE.out; omega) HE.out.2.2.1 HE.out.2.2.2.1 L2.i2.sl.2 L2.j2.sl.2 (by have := HE.out; omega) (by have := HE.out; omega) (capS L2.j2)).mono ?_
  rintro e w3 ⟨he, b'⟩
  rw [HSu.out] at he
  subst he
  have L3 := L2.below b'
  clear L2 b' x0 x1 x2 x3 x4 x5 y0 y1 y2 y3 y4 y5
  obtain ⟨y0, y1, y2, y3, y4, y5⟩ := L3.y.six
  obtain ⟨x0, x1, x2, x3, x4, x5⟩ := L3.x.six
  go_upto_region 5 with fail
  go_cut [32] from 15 to 43 (fun s32 wx => s32 = .bool false ∧ LQ w wx Q (Q + 1) kd pl nn wa q1 q2 m1 m2 k1 k2 qs qb kd' fl ap an a1 a2 l1 l2 c1 c2 ws bs)
  case first =>
    go_wp2_with fail
    refine (specSuits_q kd kd' fl pl nn wa q1 q2 m1 m2 k1 k2 qs qb ap an a1 a2 l1 l2 c1 c2 ws bs _ HE.out.1 HE.out.2.1 L3.i.sl.2 L3.j.sl.2 (by have := HE.out; omega) (by have := HE.out; omega) HE.out.2.2.1 HE.out.2.2.2.1 L3.i2.sl.2 L3.j2.sl.2 (by have := HE.out; omega) (by have := HE.out; omega)).mono ?_
    rintro e w4 ⟨he, b'⟩
    rw [HSu.out] at he
    subst he
    have L4 := L3.below b'
    clear L3 b' x0 x1 x2 x3 x4 x5 y0 y1 y2 y3 y4 y5
    obtain ⟨y0, y1, y2, y3, y4, y5⟩ := L4.y.six
    obtain ⟨x0, x1, x2, x3, x4, x5⟩ := L4.x.six
    cases S
    · go_wp2_with fail
      go_meet
      case rel => exact ⟨rfl, L4⟩
    · obtain ⟨rfl, _⟩ := suB_kind HSu.out
      go_wp2_with fail
      go_meet
      case rel => exact ⟨rfl, L4⟩
  case rest =>
  obtain ⟨rfl, L4⟩ := hcut
  clear L3 x0 x1 x2 x3 x4 x5 y0 y1 y2 y3 y4 y5
  obtain ⟨y0, y1, y2, y3, y4, y5⟩ := L4.y.six
  obtain ⟨x0, x1, x2, x3, x4, x5⟩ := L4.x.six
  go_wp2_with fail
  refine (specReqOk_q kd pl nn wa q1 q2 m1 m2 k1 k2 qs qb _ HE.out.1 HE.out.2.1 L4.i.sl.2 L4.j.sl.2 (by have := HE.out; omega) (by have := HE.out; omega)).mono ?_
  rintro e w5 ⟨he, b'⟩
  have L5 := L4.below b'
  clear L4 b' x0 x1 x2 x3 x4 x5 y0 y1 y2 y3 y4 y5
  obtain ⟨y0, y1, y2, y3, y4, y5⟩ := L5.y.six
  cases hok : okR kd pl nn wa qs m1 m2
  · obtain rfl : S = false := by
      cases S
      · rfl
      · have h := (suB_kind HSu.out).2; rw [hok] at h; cases h
    rw [hok] at he
    subst he
    go_wp2_with fail
    refine (implFaultOf_q kd pl nn wa q1 q2 m1 m2 k1 k2 qs qb 1 _ HE.out.1 HE.out.2.1 L5.i.sl.2 L5.j.sl.2 (by have := HE.out; omega) (by have := HE.out; omega)).mono ?_
    rintro e w6 ⟨he, b'⟩
    rw [hok, Bool.false_and] at he
    rw [show foV false kd 1 = rp 0 0 0 0 none none 0 0 0 0 from rfl] at he
    subst he
    have B6 := bel_next L5.b b'
    clear b' L5 y0 y1 y2 y3 y4 y5
    have fld : ∀ u : World, (Instr.field 48 (rp 0 0 0 0 none none 0 0 0 0) 0).run Try.prog u = .ok (.int .i64 0) u := fun u => by kernel_rfl
    go_wp2
    go_ret
    exact ⟨rfl, B6⟩
  rw [hok] at he
  subst he
  have HOK : Hid (okR kd pl nn wa qs m1 m2 = true) := hok
  clear hok y0 y1 y2 y3 y4 y5
  obtain ⟨V, hV⟩ : ∃ V, svV rB.length rB.length rI.length rI.length rB rB rI rI kd pl nn wa m1 m2 qs qb = V := ⟨_, rfl⟩
  have HV : Hid (svV rB.length rB.length rI.length rI.length rB rB rI rI kd pl nn wa m1 m2 qs qb = V) := hV
  have HSM : Hid (SmD 2000000 rB rB rI rI) := by simp [SmD, Hid]
  have HL : Hid (LQ w w5 Q (Q + 1) kd pl nn wa q1 q2 m1 m2 k1 k2 qs qb kd' fl ap an a1 a2 l1 l2 c1 c2 ws bs) := L5
  clear hV L5
  go_upto_region 9 with fail
  go_cut [6, 7] (fun s6 s7 wx => ∃ B6 B7, s6 = .pointer (some ⟨B6, 0, none⟩) ∧ s7 = .pointer (some ⟨B7, 0, none⟩) ∧ w5.heap.size ≤ B6 ∧ w5.heap.size ≤ B7 ∧ SRb wx w5.heap.size B6 B7 rB rI V ∧ Below w5.heap.size w5 wx)
  case first =>
    refine wp_region_any (by kernel_rfl) ?_
    refine wpAny_inv_at (RInvK w5 kd pl nn wa q1 q2 m1 m2 k1 k2 V) (by kernel_rfl) ?_ ?_ _ _ rfl (by decide) ?_
    · rintro l act u ⟨b0, b1, b2, b3, b4, b5, b6, b7, b8, b9, rfl, tB, tC, tS, tM, tE, tF, tX, tY, rfl, F⟩ hall
      obtain rfl : b0 = true := hall 0 (by simp)
      obtain rfl : b1 = true := hall 1 (by simp)
      obtain rfl : b2 = true := hall 2 (by simp)
      obtain rfl : b3 = true := hall 3 (by simp)
      obtain rfl : b4 = true := hall 4 (by simp)
      obtain rfl : b5 = true := hall 5 (by simp)
      obtain rfl : b6 = true := hall 6 (by simp)
      obtain rfl : b7 = true := hall 7 (by simp)
      obtain rfl : b8 = true := hall 8 (by simp)
      obtain rfl : b9 = true := hall 9 (by simp)
      obtain ⟨x1, x2, x3, x4, y1, y2, y3, y4, d1, d2, d3, d4, r1, r2, p1, p2, k1', k2', e, o1, o2, o3, o4⟩ := F.f2 rfl
      obtain ⟨B6, eX, hB6, _, z6⟩ := F.f6 rfl
      obtain ⟨B7, eY, hB7, _, z7⟩ := F.f7 rfl
      have eM := (F.f3 rfl).2.trans e
      have eE := (F.f4 rfl).2 _ _ eM
      have eF := (F.f5 rfl).2 _ _ eM
      have Z6 := z6 rfl _ eE
      have Z7 := z7 rfl _ eF
      have R : SRb u w5.heap.size B6 B7 rB rI V := ⟨x1, x2, x3, x4, y1, y2, y3, y4, d1, d2, d3, d4, r1, r2, p1, p2, k1', k2', Z6, Z7, o1, o2, o3, o4⟩
      have hbel := F.bel
      subst eX
      subst eY
      clear F o1 o2 o3 o4 z6 z7 Z6 Z7 e eM eE eF
      simp only [putK]
      go_simp
      go_wp2_with fail
      go_meet
      exact ⟨B6, B7, rfl, rfl, hB6, hB7, R, hbel⟩
    · rintro l act u i o ⟨b0, b1, b2, b3, b4, b5, b6, b7, b8, b9, rfl, tB, tC, tS, tM, tE, tF, tX, tY, rfl, F⟩ ho hl hd K hK
      have hi : i < 10 := by
        have := (Array.getElem?_eq_some_iff.1 ho).1
        simpa using this
      obtain ⟨x1, x2, x3, x4, y1, y2, y3, y4, d1, d2, d3, d4, r1, r2, p1, p2, k1', k2', eM0⟩ : ∃ (x1 x2 x3 x4 : Option Addr) (y1 y2 y3 y4 d1 d2 d3 d4 : Nat) (r1 r2 : Option Addr) (p1 p2 k1' k2' : Nat), b3 = true → tM = .tuple #[dv x1 x2 x3 x4 y1 y2 y3 y4 d1 d2 d3 d4, rp V.kd V.fl V.pl V.nn r1 r2 p1 p2 k1' k2'] := by
        cases hb : b3
        · exact ⟨none, none, none, none, 0, 0, 0, 0, 0, 0, 0, 0, none, none, 0, 0, 0, 0, fun h => absurd h (by decide)⟩
        · obtain ⟨x1, x2, x3, x4, y1, y2, y3, y4, d1, d2, d3, d4, r1, r2, p1, p2, k1', k2', eS, _⟩ := F.f2 (F.f3 hb).1
          exact ⟨x1, x2, x3, x4, y1, y2, y3, y4, d1, d2, d3, d4, r1, r2, p1, p2, k1', k2', fun _ => (F.f3 hb).2.trans eS⟩
      obtain ⟨B6, h80⟩ : ∃ B6, b6 = true → tX = .pointer (some ⟨B6, 0, none⟩) ∧ w5.heap.size ≤ B6 ∧ (b8 = false → Blk u B6 29 #[.slice none 0 0, .slice none 0 0, .slice none 0 0, .slice none 0 0]) := by
        cases hb : b6
        · exact ⟨0, fun h => absurd h (by decide)⟩
        · obtain ⟨B6, e1, e2, e3, _⟩ := F.f6 hb
          exact ⟨B6, fun _ => ⟨e1, e2, e3⟩⟩
      obtain ⟨B7, h90⟩ : ∃ B7, b7 = true → tY = .pointer (some ⟨B7, 0, none⟩) ∧ w5.heap.size ≤ B7 ∧ (b9 = false → Blk u B7 48 #[.int .i64 0, .int .i64 0, .int .i64 0, .int .i64 0, .slice none 0 0, .slice none 0 0]) := by
        cases hb : b7
        · exact ⟨0, fun h => absurd h (by decide)⟩
        · obtain ⟨B7, e1, e2, e3, _⟩ := F.f7 hb
          exact ⟨B7, fun _ => ⟨e1, e2, e3⟩⟩
      obtain rfl | rfl | rfl | rfl | rfl | rfl | rfl | rfl | rfl | rfl : i = 0 ∨ i = 1 ∨ i = 2 ∨ i = 3 ∨ i = 4 ∨ i = 5 ∨ i = 6 ∨ i = 7 ∨ i = 8 ∨ i = 9 := by omega
      all_goals (simp only [List.getElem?_toArray, List.getElem?_cons_zero, List.getElem?_cons_succ, Option.some.injEq] at ho; subst ho; simp only [putK])
      · -- 0
        have hb0 : b0 = false := hl
        go_wp2_with fail
        refine (implNew_any 30 30 rfl _).mono ?_
        rintro e u' ⟨d1, d2, d3, d4, h1, h2, h3, h4, g1, g2, g3, g4, rfl, oD, b'⟩
        have G' := F.below b'
        go_simp
        refine hK _ _ ?_
        exact ⟨true, _, _, _, _, _, _, _, _, _, rfl, _, _, _, _, _, _, _, _, by simp [putK, Act.put], { bel := G'.bel, f0 := fun _ => ⟨d1, d2, d3, d4, h1, h2, h3, h4, g1, g2, g3, g4, rfl, oD.mono F.bel.size⟩, f1 := G'.f1, f2 := G'.f2, f3 := G'.f3, f4 := G'.f4, f5 := G'.f5, f6 := G'.f6, f7 := G'.f7, g8 := G'.g8, g9 := G'.g9 }⟩
      · -- 1
        have ee := (HL.out.y.below F.bel).six
        have e0 := ee.1
        have e1 := ee.2.1
        have e2 := ee.2.2.1
        have e3 := ee.2.2.2.1
        have e4 := ee.2.2.2.2.1
        have e5 := ee.2.2.2.2.2
        clear ee
        go_simp
        refine hK _ _ ?_
        exact ⟨_, true, _, _, _, _, _, _, _, _, rfl, _, _, _, _, _, _, _, _, by simp [putK, Act.put], { bel := F.bel, f0 := F.f0, f1 := fun _ => rfl, f2 := F.f2, f3 := F.f3, f4 := F.f4, f5 := F.f5, f6 := F.f6, f7 := F.f7, g8 := F.g8, g9 := F.g9 }⟩
      · -- 2
        obtain ⟨z1, z2, z3, z4, z5, z6, z7, z8, z9, z10, z11, z12, rfl, oD⟩ := F.f0 (hd ⟨0, .data⟩ (by simp) rfl)
        obtain rfl := F.f1 (hd ⟨1, .data⟩ (by simp) rfl)
        have hb4 : b2 = false := hl
        have nb5 : b3 = false := by cases hx : b3; rfl; have := (F.f3 hx).1; rw [hb4] at this; exact absurd this (by decide)
        go_wp2_with fail
        have LU := HL.out.below F.bel
        refine (implServe_q z1 z2 z3 z4 z5 z6 z7 z8 z9 z10 z11 z12 rB rB rI rI kd pl nn wa q1 q2 m1 m2 k1 k2 qs qb _ oD.sl.1 oD.sl.2 HSM.out LU.i.sl.2 LU.j.sl.2 HE.out.1 HE.out.2.1 (by have := HE.out; omega) (by have := HE.out; omega) V (by obtain ⟨h1, h2, h3, h4⟩ := oD.sl.1; rw [h1, h2, h3, h4]; exact HV.out)).mono ?_
        rintro e u' ⟨x1, x2, x3, x4, y1, y2, y3, y4, d1, d2, d3, d4, r1, r2, p1, p2, k1', k2', rfl, o1, o2, o3, o4, b'⟩
        have G' := F.below b'
        go_simp
        refine hK _ _ ?_
        exact ⟨_, _, true, _, _, _, _, _, _, _, rfl, _, _, _, _, _, _, _, _, by simp [putK, Act.put], { bel := G'.bel, f0 := G'.f0, f1 := G'.f1, f2 := fun _ => ⟨x1, x2, x3, x4, y1, y2, y3, y4, d1, d2, d3, d4, r1, r2, p1, p2, k1', k2', rfl, o1.mono F.bel.size, o2.mono F.bel.size, o3.mono F.bel.size, o4⟩, f3 := fun h => absurd (h.symm.trans nb5) (by decide), f4 := G'.f4, f5 := G'.f5, f6 := G'.f6, f7 := G'.f7, g8 := G'.g8, g9 := G'.g9 }⟩
      · -- 3
        have hs5 : b3 = false := hl
        have nb6 : b4 = false := by cases hx : b4; rfl; have := (F.f4 hx).1; rw [hs5] at this; exact absurd this (by decide)
        have nb7 : b5 = false := by cases hx : b5; rfl; have := (F.f5 hx).1; rw [hs5] at this; exact absurd this (by decide)
        go_simp
        refine hK _ _ ?_
        exact ⟨_, _, _, true, _, _, _, _, _, _, rfl, _, _, _, _, _, _, _, _, by simp [putK, Act.put], { bel := F.bel, f0 := F.f0, f1 := F.f1, f2 := F.f2, f3 := fun _ => ⟨hd ⟨2, .data⟩ (by simp) rfl, rfl⟩, f4 := fun h => absurd (h.symm.trans nb6) (by decide), f5 := fun h => absurd (h.symm.trans nb7) (by decide), f6 := F.f6, f7 := F.f7, g8 := F.g8, g9 := F.g9 }⟩
      · -- 4
        have hself : b4 = false := hl
        have hb5 : b3 = true := hd ⟨3, .data⟩ (by simp) rfl
        have nbk : b8 = false := by cases hx : b8; rfl; have := (F.g8 hx).2; rw [hself] at this; exact absurd this (by decide)
        have eM := eM0 hb5
        subst eM
        go_simp
        refine hK _ _ ?_
        exact ⟨_, _, _, _, true, _, _, _, _, _, rfl, tB, tC, tS, (.tuple #[(dv x1 x2 x3 x4 y1 y2 y3 y4 d1 d2 d3 d4), (rp V.kd V.fl V.pl V.nn r1 r2 p1 p2 k1' k2')]), (dv x1 x2 x3 x4 y1 y2 y3 y4 d1 d2 d3 d4), tF, tX, tY, by simp [putK, Act.put], { bel := F.bel, f0 := F.f0, f1 := F.f1, f2 := F.f2, f3 := F.f3, f4 := fun _ => ⟨hb5, fun x y e => by simp at e; first | exact e.1 | exact e.2⟩, f5 := F.f5, f6 := fun h => by obtain ⟨B, e, l, z, y⟩ := F.f6 h; exact ⟨B, e, l, z, fun k => absurd (k.symm.trans nbk) (by decide)⟩, f7 := F.f7, g8 := fun k => absurd (k.symm.trans nbk) (by decide), g9 := F.g9 }⟩
      · -- 5
        have hself : b5 = false := hl
        have hb5 : b3 = true := hd ⟨3, .data⟩ (by simp) rfl
        have nbk : b9 = false := by cases hx : b9; rfl; have := (F.g9 hx).2; rw [hself] at this; exact absurd this (by decide)
        have eM := eM0 hb5
        subst eM
        go_simp
        refine hK _ _ ?_
        exact ⟨_, _, _, _, _, true, _, _, _, _, rfl, tB, tC, tS, (.tuple #[(dv x1 x2 x3 x4 y1 y2 y3 y4 d1 d2 d3 d4), (rp V.kd V.fl V.pl V.nn r1 r2 p1 p2 k1' k2')]), tE, (rp V.kd V.fl V.pl V.nn r1 r2 p1 p2 k1' k2'), tX, tY, by simp [putK, Act.put], { bel := F.bel, f0 := F.f0, f1 := F.f1, f2 := F.f2, f3 := F.f3, f4 := F.f4, f5 := fun _ => ⟨hb5, fun x y e => by simp at e; first | exact e.1 | exact e.2⟩, f6 := F.f6, f7 := fun h => by obtain ⟨B, e, l, z, y⟩ := F.f7 h; exact ⟨B, e, l, z, fun k => absurd (k.symm.trans nbk) (by decide)⟩, g8 := F.g8, g9 := fun k => absurd (k.symm.trans nbk) (by decide) }⟩
      · -- 6
        have hself : b6 = false := hl
        have nbk : b8 = false := by cases hx : b8; rfl; have := (F.g8 hx).1; rw [hself] at this; exact absurd this (by decide)
        have b' := bel_alloc u (.cells #[.slice none 0 0, .slice none 0 0, .slice none 0 0, .slice none 0 0] 29)
        have G' := F.below b'
        have N' := Blk.new u #[.slice none 0 0, .slice none 0 0, .slice none 0 0, .slice none 0 0] 29
        go_simp
        refine hK _ _ ?_
        exact ⟨_, _, _, _, _, _, true, _, _, _, rfl, _, _, _, _, _, _, _, _, by simp [putK, Act.put], { bel := G'.bel, f0 := G'.f0, f1 := G'.f1, f2 := G'.f2, f3 := G'.f3, f4 := G'.f4, f5 := G'.f5, f6 := fun _ => ⟨u.heap.size, rfl, F.bel.size, fun _ => N', fun k => absurd (k.symm.trans nbk) (by decide)⟩, f7 := G'.f7, g8 := fun k => absurd (k.symm.trans nbk) (by decide), g9 := G'.g9 }⟩
      · -- 7
        have hself : b7 = false := hl
        have nbk : b9 = false := by cases hx : b9; rfl; have := (F.g9 hx).1; rw [hself] at this; exact absurd this (by decide)
        have b' := bel_alloc u (.cells #[.int .i64 0, .int .i64 0, .int .i64 0, .int .i64 0, .slice none 0 0, .slice none 0 0] 48)
        have G' := F.below b'
        have N' := Blk.new u #[.int .i64 0, .int .i64 0, .int .i64 0, .int .i64 0, .slice none 0 0, .slice none 0 0] 48
        go_simp
        refine hK _ _ ?_
        exact ⟨_, _, _, _, _, _, _, true, _, _, rfl, _, _, _, _, _, _, _, _, by simp [putK, Act.put], { bel := G'.bel, f0 := G'.f0, f1 := G'.f1, f2 := G'.f2, f3 := G'.f3, f4 := G'.f4, f5 := G'.f5, f6 := G'.f6, f7 := fun _ => ⟨u.heap.size, rfl, F.bel.size, fun _ => N', fun k => absurd (k.symm.trans nbk) (by decide)⟩, g8 := G'.g8, g9 := fun k => absurd (k.symm.trans nbk) (by decide) }⟩
      · -- 8
        have hself : b8 = false := hl
        have hb8 : b6 = true := hd ⟨6, .data⟩ (by simp) rfl
        have hb6 : b4 = true := hd ⟨4, .data⟩ (by simp) rfl
        have hb5 := (F.f4 hb6).1
        have eM := eM0 hb5
        have eE := (F.f4 hb6).2 _ _ eM
        have h8 := h80 hb8
        have eX := h8.1
        have hB6 := h8.2.1
        have z6 := h8.2.2
        clear h8
        have Z6 := z6 hself
        have s0 := Z6.cell 0 rfl
        have s1 := Z6.cell 1 rfl
        have s2 := Z6.cell 2 rfl
        have s3 := Z6.cell 3 rfl
        have fr0 := Z6.fro 0
        have fr1 := Z6.fro 1
        have fr2 := Z6.fro 2
        have fr3 := Z6.fro 3
        clear eM eM0
        subst eX
        subst eE
        have xB : ExB u B6 29 := ⟨_, Z6⟩
        go_simp
        refine hK _ _ ?_
        exact ⟨_, _, _, _, _, _, _, _, true, _, rfl, tB, tC, tS, tM, (dv x1 x2 x3 x4 y1 y2 y3 y4 d1 d2 d3 d4), tF, (.pointer (some ⟨B6, 0, none⟩)), tY, by simp [putK, Act.put], { bel := bel_set4 F.bel hB6, f0 := fun h => by obtain ⟨z1, z2, z3, z4, z5, z6, z7, z8, z9, z10, z11, z12, e, o⟩ := F.f0 h; exact ⟨z1, z2, z3, z4, z5, z6, z7, z8, z9, z10, z11, z12, e, o.set4 xB (by decide) (by decide)⟩, f1 := F.f1, f2 := fun h => by obtain ⟨x1, x2, x3, x4, y1, y2, y3, y4, d1, d2, d3, d4, r1, r2, p1, p2, k1', k2', e, o1, o2, o3, o4⟩ := F.f2 h; exact ⟨x1, x2, x3, x4, y1, y2, y3, y4, d1, d2, d3, d4, r1, r2, p1, p2, k1', k2', e, o1.set4 xB (by decide) (by decide), row_set4 o2 xB (by decide), row_set4 o3 xB (by decide), o4⟩, f3 := F.f3, f4 := F.f4, f5 := F.f5, f6 := fun _ => ⟨B6, rfl, hB6, fun k => absurd k (by decide), fun _ zs ez => blk_agg (blk_set4 Z6) ez⟩, f7 := fun h => by obtain ⟨B7, e, l, z, y⟩ := F.f7 h; exact ⟨B7, e, l, fun k => by have hne := blk_neT (z k) Z6 (by decide); exact ((((z k).setNe hne).setNe hne).setNe hne).setNe hne, fun k zs ez => by have hne := blk_neT (y k zs ez) Z6 (by decide); exact ((((y k zs ez).setNe hne).setNe hne).setNe hne).setNe hne⟩, g8 := fun _ => ⟨hb8, hb6⟩, g9 := F.g9 }⟩
      · -- 9
        have hself : b9 = false := hl
        have hb9 : b7 = true := hd ⟨7, .data⟩ (by simp) rfl
        have hb7 : b5 = true := hd ⟨5, .data⟩ (by simp) rfl
        have hb5 := (F.f5 hb7).1
        have eM := eM0 hb5
        have eF := (F.f5 hb7).2 _ _ eM
        have h9 := h90 hb9
        have eY := h9.1
        have hB7 := h9.2.1
        have z7 := h9.2.2
        clear h9
        have Z7 := z7 hself
        have s0 := Z7.cell 0 rfl
        have s1 := Z7.cell 1 rfl
        have s2 := Z7.cell 2 rfl
        have s3 := Z7.cell 3 rfl
        have s4 := Z7.cell 4 rfl
        have s5 := Z7.cell 5 rfl
        have fr0 := Z7.fro 0
        have fr1 := Z7.fro 1
        have fr2 := Z7.fro 2
        have fr3 := Z7.fro 3
        have fr4 := Z7.fro 4
        have fr5 := Z7.fro 5
        clear eM eM0
        subst eY
        subst eF
        have xB : ExB u B7 48 := ⟨_, Z7⟩
        go_simp
        refine hK _ _ ?_
        exact ⟨_, _, _, _, _, _, _, _, _, true, rfl, tB, tC, tS, tM, tE, (rp V.kd V.fl V.pl V.nn r1 r2 p1 p2 k1' k2'), tX, (.pointer (some ⟨B7, 0, none⟩)), by simp [putK, Act.put], { bel := belp_set6 F.bel hB7, f0 := fun h => by obtain ⟨z1, z2, z3, z4, z5, z6, z7, z8, z9, z10, z11, z12, e, o⟩ := F.f0 h; exact ⟨z1, z2, z3, z4, z5, z6, z7, z8, z9, z10, z11, z12, e, o.set6 xB (by decide) (by decide)⟩, f1 := F.f1, f2 := fun h => by obtain ⟨x1, x2, x3, x4, y1, y2, y3, y4, d1, d2, d3, d4, r1, r2, p1, p2, k1', k2', e, o1, o2, o3, o4⟩ := F.f2 h; exact ⟨x1, x2, x3, x4, y1, y2, y3, y4, d1, d2, d3, d4, r1, r2, p1, p2, k1', k2', e, o1.set6 xB (by decide) (by decide), rowp_set6 o2 xB (by decide), rowp_set6 o3 xB (by decide), o4⟩, f3 := F.f3, f4 := F.f4, f5 := F.f5, f6 := fun h => by obtain ⟨B6, e, l, z, y⟩ := F.f6 h; exact ⟨B6, e, l, fun k => by have hne := blk_neT (z k) Z7 (by decide); exact ((((((z k).setNe hne).setNe hne).setNe hne).setNe hne).setNe hne).setNe hne, fun k zs ez => by have hne := blk_neT (y k zs ez) Z7 (by decide); exact ((((((y k zs ez).setNe hne).setNe hne).setNe hne).setNe hne).setNe hne).setNe hne⟩, f7 := fun _ => ⟨B7, rfl, hB7, fun k => absurd k (by decide), fun _ zs ez => blk_agg (blk_set6 Z7) ez⟩, g8 := F.g8, g9 := fun _ => ⟨hb9, hb7⟩ }⟩
    · refine ⟨false, false, false, false, false, false, false, false, false, false, rfl, undef, undef, undef, undef, undef, undef, undef, undef, by simp [putK, Act.put], ?_⟩
      exact { bel := (Below.refl _ _).drew, f0 := fun h => absurd h (by decide), f1 := fun h => absurd h (by decide), f2 := fun h => absurd h (by decide), f3 := fun h => absurd h (by decide), f4 := fun h => absurd h (by decide), f5 := fun h => absurd h (by decide), f6 := fun h => absurd h (by decide), f7 := fun h => absurd h (by decide), g8 := fun h => absurd h (by decide), g9 := fun h => absurd h (by decide) }
  case rest =>
  obtain ⟨N, A, rfl, rfl, hN, hA, R', b'⟩ := hcut
  obtain ⟨u1, u2, u3, u4, e1, e2, e3, e4, v1, v2, v3, v4, r1, r2, n1, n2, p1, p2, X8, Y8, E8, I8, J8, _⟩ := R'
  have L8 := HL.out.below b'
  clear b' HL
  have HT : Hid (suB kd pl nn wa m1 m2 qs qb V.kd V.fl V.pl V.nn n1 n2 V.ws V.bs = true ∧ okD e1 e2 e3 e4 V.hs rI = true ∧ V.ws.length ≤ 2000000 ∧ V.bs.length ≤ 2000000 ∧ SmD 2000000 V.cs rB V.hs rI) := by
    have hD : okD rB.length rB.length rI.length rI.length rI rI = true := okD_rep 30 (by decide)
    have hs1 := suB_served ⟨rfl, rfl, rfl, rfl⟩ HE.out.1 HE.out.2.1 HOK.out hD HV.out
    have ht := svT_of (cs := rB) (is := rB) ⟨rfl, rfl, rfl, rfl⟩ HE.out.1 HE.out.2.1 HOK.out hD
    rw [HV.out] at ht
    obtain ⟨_, _, q3, q4⟩ := svV_len ⟨rfl, rfl, rfl, rfl⟩ HE.out.1 HE.out.2.1 HV.out
    have g1 := ht.cl
    have g3 := ht.hl
    have k1 := E8.sl.1.1
    have k2 := E8.sl.1.2.1
    have k3 := E8.sl.1.2.2.1
    have k4 := E8.sl.1.2.2.2
    have m1' := I8.sl.1
    have m2' := J8.sl.1
    have hE := HE.out
    have hb : rB.length = 30 := by simp
    have hi : rI.length = 30 := by simp
    refine ⟨by rw [m1', m2']; exact hs1, by rw [k1, k2, k3, k4, g1, g3]; exact ht.od, by omega, by omega, by omega, by omega, by omega, by omega⟩
  obtain ⟨y0, y1, y2, y3, y4, y5⟩ := L8.y.six
  obtain ⟨z0, z1, z2, z3⟩ := X8.four
  obtain ⟨t0, t1, t2, t3, t4, t5⟩ := Y8.six
  have b' : Below wc.heap.size wc wc := Below.refl _ _
  have G : LG w Q (Q + 1) kd pl nn wa q1 q2 m1 m2 k1 k2 qs qb kd' fl ap an a1 a2 l1 l2 c1 c2 ws bs w5.heap.size N A u1 u2 u3 u4 e1 e2 e3 e4 v1 v2 v3 v4 rB rI V r1 r2 n1 n2 p1 p2 wc := ⟨L8, X8, Y8, E8, I8, J8⟩
  have HG : Hid (LG w Q (Q + 1) kd pl nn wa q1 q2 m1 m2 k1 k2 qs qb kd' fl ap an a1 a2 l1 l2 c1 c2 ws bs w5.heap.size N A u1 u2 u3 u4 e1 e2 e3 e4 v1 v2 v3 v4 rB rI V r1 r2 n1 n2 p1 p2 wc) := G
  clear G b' L8 X8 Y8 E8 I8 J8 y0 y1 y2 y3 y4 y5 z0 z1 z2 z3 t0 t1 t2 t3 t4 t5
  go_upto_region 10 with fail
  refine wp_region_any (by kernel_rfl) ?_
  refine wpAny_vals (fun u => Below wc.heap.size wc u) (fun i v _ => match i with
    | 0 => v = .agg #[.int .i64 kd, .int .i64 pl, .int .i64 nn, .slice q1 m1 k1, .slice q2 m2 k2, .int .i64 wa]
    | 1 => v = .agg #[.int .i64 kd, .int .i64 pl, .int .i64 nn, .slice q1 m1 k1, .slice q2 m2 k2, .int .i64 wa]
    | 2 => v = .slice a n cap
    | 3 => ∃ x, v = .int .i64 x ∧ 0 ≤ x ∧ x ≤ 255
    | 4 => ∃ x, v = .int .i64 x ∧ 0 ≤ x ∧ x ≤ 254
    | 5 => ∃ x, v = .int .i64 x ∧ 1 ≤ x ∧ x ≤ 255
    | 6 => ∃ x, v = rp kd x 0 0 none none 0 0 0 0 ∧ 1 ≤ x ∧ x ≤ 255
    | 9 => v = .agg #[.int .i64 kd, .int .i64 pl, .int .i64 nn, .slice q1 m1 k1, .slice q2 m2 k2, .int .i64 wa]
    | 10 => v = .agg #[.int .i64 V.kd, .int .i64 V.fl, .int .i64 V.pl, .int .i64 V.nn, .slice r1 n1 p1, .slice r2 n2 p2]
    | 14 => v = .agg #[.slice u1 e1 v1, .slice u2 e2 v2, .slice u3 e3 v3, .slice u4 e4 v4]
    | _ => v = .bool true) (by kernel_rfl) (by kernel_rfl) (fun _ _ _ _ h _ => h) (Below.refl _ _).drew ?_ ?_ _ _ rfl (by decide) (fun i => by simp [Array.getD]; try (split <;> rfl))
  · intro vs u hR hall
    have e17 : vs 17 = .bool true := hall 17 (by simp)
    have BU := bel_next HG.out.l.b hR
    simp only [putsL]
    rw [e17]
    clear hall e17
    go_simp
    go_wp2
    go_ret
    exact ⟨rfl, BU⟩
  · intro u i o ρ hR ho hρ hc hf hd
    have GU := HG.out.below hR
    have hi : i < 18 := by
      have := (Array.getElem?_eq_some_iff.1 ho).1
      simpa using this
    obtain rfl | rfl | rfl | rfl | rfl | rfl | rfl | rfl | rfl | rfl | rfl | rfl | rfl | rfl | rfl | rfl | rfl | rfl : i = 0 ∨ i = 1 ∨ i = 2 ∨ i = 3 ∨ i = 4 ∨ i = 5 ∨ i = 6 ∨ i = 7 ∨ i = 8 ∨ i = 9 ∨ i = 10 ∨ i = 11 ∨ i = 12 ∨ i = 13 ∨ i = 14 ∨ i = 15 ∨ i = 16 ∨ i = 17 := by omega
    all_goals (simp only [List.getElem?_toArray, List.getElem?_cons_zero, List.getElem?_cons_succ, Option.some.injEq] at ho; subst ho)
    · -- 0
      have ee := GU.l.y.six
      have z0 := ee.1
      have z1 := ee.2.1
      have z2 := ee.2.2.1
      have z3 := ee.2.2.2.1
      have z4 := ee.2.2.2.2.1
      have z5 := ee.2.2.2.2.2
      clear ee
      have hp : ρ (.tmp 3) = .pointer (some ⟨Q, 0, none⟩) := (hρ 3 (by kernel_rfl)).trans rfl
      have hr : (Instr.loadAt 46 (.pointer (some ⟨Q, 0, none⟩))).run Try.prog u = .ok (.agg #[.int .i64 kd, .int .i64 pl, .int .i64 nn, .slice q1 m1 k1, .slice q2 m2 k2, .int .i64 wa]) u := by go_simp
      exact .inl ⟨rfl, .inl ⟨_, u, run_load_op rfl hp hr, rfl, hR, Below.refl _ _⟩⟩
    · -- 1
      have ee := GU.l.y.six
      have z0 := ee.1
      have z1 := ee.2.1
      have z2 := ee.2.2.1
      have z3 := ee.2.2.2.1
      have z4 := ee.2.2.2.2.1
      have z5 := ee.2.2.2.2.2
      clear ee
      have hp : ρ (.tmp 3) = .pointer (some ⟨Q, 0, none⟩) := (hρ 3 (by kernel_rfl)).trans rfl
      have hr : (Instr.loadAt 46 (.pointer (some ⟨Q, 0, none⟩))).run Try.prog u = .ok (.agg #[.int .i64 kd, .int .i64 pl, .int .i64 nn, .slice q1 m1 k1, .slice q2 m2 k2, .int .i64 wa]) u := by go_simp
      exact .inl ⟨rfl, .inl ⟨_, u, run_load_op rfl hp hr, rfl, hR, Below.refl _ _⟩⟩
    · -- 2
      exact .inl ⟨rfl, .inl ⟨_, u, rfl, (hρ 0 (by kernel_rfl)).trans rfl, hR, Below.refl _ _⟩⟩
    · -- 3
      have h2 := hd ⟨2, .data⟩ (by simp) rfl 52 rfl
      refine .inl ⟨rfl, .inr ⟨_, _, run_call_op rfl (hf _) (args := #[.slice a n cap, .int .i64 2]) (by simp [hc, show ρ (.tmp 52) = .slice a n cap from h2]) (by kernel_rfl), ?_⟩⟩
      refine (AT.out _ 2 (by omega) (by omega) GU.l.b).mono ?_
      rintro e u' ⟨x', rfl, hx0, hx1, rfl⟩
      exact ⟨_, rfl, ⟨_, rfl, hx0, hx1⟩, hR, Below.refl _ _⟩
    · -- 4
      have h3 := hd ⟨3, .data⟩ (by simp) rfl 53 rfl
      obtain ⟨x, hx, hx0, hx1⟩ := h3
      have htm : x.tmod 255 = x % 255 := Int.tmod_eq_emod_of_nonneg hx0
      have wrx : IntKind.i64.wrap (x % 255) = x % 255 := wraps_i64' _ (by omega) (by omega)
      exact .inl ⟨rfl, .inl ⟨.int .i64 (x % 255), u, run_bin_op rfl hx (hc _) (by go_simp), ⟨_, rfl, by omega, by omega⟩, hR, Below.refl _ _⟩⟩
    · -- 5
      have h4 := hd ⟨4, .data⟩ (by simp) rfl 54 rfl
      obtain ⟨x, hx, hx0, hx1⟩ := h4
      have wrx : IntKind.i64.wrap (1 + x) = 1 + x := wraps_i64' _ (by omega) (by omega)
      exact .inl ⟨rfl, .inl ⟨.int .i64 (1 + x), u, run_bin_op rfl (hc _) hx (by go_simp), ⟨_, rfl, by omega, by omega⟩, hR, Below.refl _ _⟩⟩
    · -- 6
      have h1 := hd ⟨1, .data⟩ (by simp) rfl 51 rfl
      have h5 := hd ⟨5, .data⟩ (by simp) rfl 55 rfl
      obtain ⟨x, hx, hx0, hx1⟩ := h5
      refine .inl ⟨rfl, .inr ⟨_, _, run_call_op rfl (hf _) (args := #[(.agg #[.int .i64 kd, .int .i64 pl, .int .i64 nn, .slice q1 m1 k1, .slice q2 m2 k2, .int .i64 wa]), .int .i64 x]) (by simp [show ρ (.tmp 51) = (.agg #[.int .i64 kd, .int .i64 pl, .int .i64 nn, .slice q1 m1 k1, .slice q2 m2 k2, .int .i64 wa]) from h1, hx]) (by kernel_rfl), ?_⟩⟩
      refine (implFaultOf_q kd pl nn wa q1 q2 m1 m2 k1 k2 qs qb x _ HE.out.1 HE.out.2.1 GU.l.i.sl.2 GU.l.j.sl.2 (by have := HE.out; omega) (by have := HE.out; omega)).mono ?_
      rintro e u' ⟨he, b'⟩
      rw [HOK.out, show inB x 1 255 = true from decide_eq_true (by omega)] at he
      rw [show foV (true && true) kd x = rp kd x 0 0 none none 0 0 0 0 from rfl] at he
      exact ⟨_, he, ⟨_, rfl, hx0, hx1⟩, bel_next hR b', b'⟩
    · -- 7
      have h0 := hd ⟨0, .data⟩ (by simp) rfl 50 rfl
      have h6 := hd ⟨6, .data⟩ (by simp) rfl 56 rfl
      obtain ⟨x, hx, hx0, hx1⟩ := h6
      refine .inl ⟨rfl, .inr ⟨_, _, run_call_op rfl (hf _) (args := #[(.agg #[.int .i64 kd, .int .i64 pl, .int .i64 nn, .slice q1 m1 k1, .slice q2 m2 k2, .int .i64 wa]), rp kd x 0 0 none none 0 0 0 0]) (by simp [show ρ (.tmp 50) = (.agg #[.int .i64 kd, .int .i64 pl, .int .i64 nn, .slice q1 m1 k1, .slice q2 m2 k2, .int .i64 wa]) from h0, hx]) (by kernel_rfl), ?_⟩⟩
      refine (implSuits_q kd kd x pl nn wa q1 q2 m1 m2 k1 k2 qs qb 0 0 none none 0 0 0 0 [] [] _ HE.out.1 HE.out.2.1 GU.l.i.sl.2 GU.l.j.sl.2 (by have := HE.out; omega) (by have := HE.out; omega) rfl rfl (.inl rfl) (.inl rfl) (by simp) (by simp) (Nat.le_refl _)).mono ?_
      rintro e u' ⟨he, b'⟩
      rw [suB_fault HOK.out (by omega) (by omega)] at he
      exact ⟨_, he, rfl, bel_next hR b', b'⟩
    · -- 8
      have h7 := hd ⟨7, .data⟩ (by simp) rfl 57 rfl
      exact .inl ⟨rfl, .inl ⟨_, u, rfl, h7, hR, Below.refl _ _⟩⟩
    · -- 9
      have h8 := hd ⟨8, .guard⟩ (by simp) rfl 58 rfl
      have ee := GU.l.y.six
      have z0 := ee.1
      have z1 := ee.2.1
      have z2 := ee.2.2.1
      have z3 := ee.2.2.2.1
      have z4 := ee.2.2.2.2.1
      have z5 := ee.2.2.2.2.2
      clear ee
      have hp : ρ (.tmp 3) = .pointer (some ⟨Q, 0, none⟩) := (hρ 3 (by kernel_rfl)).trans rfl
      have hr : (Instr.loadAt 46 (.pointer (some ⟨Q, 0, none⟩))).run Try.prog u = .ok (.agg #[.int .i64 kd, .int .i64 pl, .int .i64 nn, .slice q1 m1 k1, .slice q2 m2 k2, .int .i64 wa]) u := by go_simp
      exact .inl ⟨(by show (match ρ (.tmp 58) with | .bool b => b == true | _ => false) = true; rw [show ρ (.tmp 58) = .bool true from h8]; rfl), .inl ⟨_, u, run_load_op rfl hp hr, rfl, hR, Below.refl _ _⟩⟩
    · -- 10
      have h8 := hd ⟨8, .guard⟩ (by simp) rfl 58 rfl
      have ee := GU.y.six
      have z0 := ee.1
      have z1 := ee.2.1
      have z2 := ee.2.2.1
      have z3 := ee.2.2.2.1
      have z4 := ee.2.2.2.2.1
      have z5 := ee.2.2.2.2.2
      clear ee
      have hp : ρ (.tmp 7) = .pointer (some ⟨A, 0, none⟩) := (hρ 7 (by kernel_rfl)).trans rfl
      have hr : (Instr.loadAt 48 (.pointer (some ⟨A, 0, none⟩))).run Try.prog u = .ok (.agg #[.int .i64 V.kd, .int .i64 V.fl, .int .i64 V.pl, .int .i64 V.nn, .slice r1 n1 p1, .slice r2 n2 p2]) u := by go_simp
      exact .inl ⟨(by show (match ρ (.tmp 58) with | .bool b => b == true | _ => false) = true; rw [show ρ (.tmp 58) = .bool true from h8]; rfl), .inl ⟨_, u, run_load_op rfl hp hr, rfl, hR, Below.refl _ _⟩⟩
    · -- 11
      have h8 := hd ⟨8, .guard⟩ (by simp) rfl 58 rfl
      have h9 := hd ⟨9, .data⟩ (by simp) rfl 59 rfl
      have h10 := hd ⟨10, .data⟩ (by simp) rfl 60 rfl
      refine .inl ⟨(by show (match ρ (.tmp 58) with | .bool b => b == true | _ => false) = true; rw [show ρ (.tmp 58) = .bool true from h8]; rfl), .inr ⟨_, _, run_call_op rfl (hf _) (args := #[(.agg #[.int .i64 kd, .int .i64 pl, .int .i64 nn, .slice q1 m1 k1, .slice q2 m2 k2, .int .i64 wa]), (.agg #[.int .i64 V.kd, .int .i64 V.fl, .int .i64 V.pl, .int .i64 V.nn, .slice r1 n1 p1, .slice r2 n2 p2])]) (by simp [show ρ (.tmp 59) = (.agg #[.int .i64 kd, .int .i64 pl, .int .i64 nn, .slice q1 m1 k1, .slice q2 m2 k2, .int .i64 wa]) from h9, show ρ (.tmp 60) = (.agg #[.int .i64 V.kd, .int .i64 V.fl, .int .i64 V.pl, .int .i64 V.nn, .slice r1 n1 p1, .slice r2 n2 p2]) from h10]) (by kernel_rfl), ?_⟩⟩
      refine (implSuits_q kd V.kd V.fl pl nn wa q1 q2 m1 m2 k1 k2 qs qb V.pl V.nn r1 r2 n1 n2 p1 p2 V.ws V.bs _ HE.out.1 HE.out.2.1 GU.l.i.sl.2 GU.l.j.sl.2 (by have := HE.out; omega) (by have := HE.out; omega) GU.i.sl.1 GU.j.sl.1 GU.i.sl.2 GU.j.sl.2 HT.out.2.2.1 HT.out.2.2.2.1 (capS GU.j)).mono ?_
      rintro e u' ⟨he, b'⟩
      rw [HT.out.1] at he
      exact ⟨_, he, rfl, bel_next hR b', b'⟩
    · -- 12
      have h8 := hd ⟨8, .data⟩ (by simp) rfl 58 rfl
      have h11 := hd ⟨11, .data⟩ (by simp) rfl 61 rfl
      exact .inl ⟨rfl, .inl ⟨_, u, run_pick_op rfl (show ρ (.tmp 58) = .bool true from h8), h11, hR, Below.refl _ _⟩⟩
    · -- 13
      have h12 := hd ⟨12, .data⟩ (by simp) rfl 62 rfl
      exact .inl ⟨rfl, .inl ⟨_, u, rfl, h12, hR, Below.refl _ _⟩⟩
    · -- 14
      have h13 := hd ⟨13, .guard⟩ (by simp) rfl 63 rfl
      have ee := GU.x.four
      have z0 := ee.1
      have z1 := ee.2.1
      have z2 := ee.2.2.1
      have z3 := ee.2.2.2
      clear ee
      have hp : ρ (.tmp 6) = .pointer (some ⟨N, 0, none⟩) := (hρ 6 (by kernel_rfl)).trans rfl
      have hr : (Instr.loadAt 29 (.pointer (some ⟨N, 0, none⟩))).run Try.prog u = .ok (.agg #[.slice u1 e1 v1, .slice u2 e2 v2, .slice u3 e3 v3, .slice u4 e4 v4]) u := by go_simp
      exact .inl ⟨(by show (match ρ (.tmp 63) with | .bool b => b == true | _ => false) = true; rw [show ρ (.tmp 63) = .bool true from h13]; rfl), .inl ⟨_, u, run_load_op rfl hp hr, rfl, hR, Below.refl _ _⟩⟩
    · -- 15
      have h13 := hd ⟨13, .guard⟩ (by simp) rfl 63 rfl
      have h14 := hd ⟨14, .data⟩ (by simp) rfl 64 rfl
      refine .inl ⟨(by show (match ρ (.tmp 63) with | .bool b => b == true | _ => false) = true; rw [show ρ (.tmp 63) = .bool true from h13]; rfl), .inr ⟨_, _, run_call_op rfl (hf _) (args := #[(.agg #[.slice u1 e1 v1, .slice u2 e2 v2, .slice u3 e3 v3, .slice u4 e4 v4])]) (by simp [show ρ (.tmp 64) = (.agg #[.slice u1 e1 v1, .slice u2 e2 v2, .slice u3 e3 v3, .slice u4 e4 v4]) from h14]) (by kernel_rfl), ?_⟩⟩
      refine (implDeviceOk_any u1 u2 u3 u4 e1 e2 e3 e4 v1 v2 v3 v4 V.cs rB V.hs rI _ GU.e.sl.1 GU.e.sl.2 HT.out.2.2.2.2 true HT.out.2.1).mono ?_
      rintro e u' ⟨he, b'⟩
      exact ⟨_, he, rfl, bel_next hR b', b'⟩
    · -- 16
      have h13 := hd ⟨13, .data⟩ (by simp) rfl 63 rfl
      have h15 := hd ⟨15, .data⟩ (by simp) rfl 65 rfl
      exact .inl ⟨rfl, .inl ⟨_, u, run_pick_op rfl (show ρ (.tmp 63) = .bool true from h13), h15, hR, Below.refl _ _⟩⟩
    · -- 17
      have h16 := hd ⟨16, .data⟩ (by simp) rfl 66 rfl
      exact .inl ⟨rfl, .inl ⟨_, u, rfl, h16, hR, Below.refl _ _⟩⟩

end Go.Proofs.Ytcnbbknmofonkaa

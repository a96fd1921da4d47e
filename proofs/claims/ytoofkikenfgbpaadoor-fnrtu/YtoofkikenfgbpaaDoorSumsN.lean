/- The two sums over numbers: a sum and its own bytes are nothing; a byte that is another is told. -/
import Derived.Test.YtoofkikenfgbpaaDoorCrcN
import Derived.Test.YtoofkikenfgbpaaDoorSumsT
import Derived.Test.YtoofkikenfgbpaaDoorLrc1
namespace Go.Proofs.YtoofkikenfgbpaaDoor

theorem xor_cr {a b c : Nat} (h : a ^^^ c = b ^^^ c) : a = b := by
  have e : a ^^^ c ^^^ c = b ^^^ c ^^^ c := by rw [h]
  rwa [Nat.xor_assoc, Nat.xor_self, Nat.xor_zero, Nat.xor_assoc, Nat.xor_self, Nat.xor_zero] at e

theorem xor_cl {a b c : Nat} (h : c ^^^ a = c ^^^ b) : a = b := by
  rw [Nat.xor_comm c a, Nat.xor_comm c b] at h
  exact xor_cr h

theorem low_xor (c : Nat) (h : c < 65536) : c ^^^ (c % 256) = 256 * (c / 256) := by
  have := low_check ⟨c / 256, by omega⟩ ⟨c % 256, by omega⟩
  simpa [Nat.div_add_mod] using this

theorem four_low (h : Nat) : four (four (256 * h)) = h := by
  have e1 : four (256 * h) = 16 * h := by
    unfold four
    rw [show 256 * h % 16 = 0 by omega, show 256 * h / 16 = 16 * h by omega]
    exact Nat.xor_zero _
  rw [e1]
  unfold four
  rw [show 16 * h % 16 = 0 by omega, show 16 * h / 16 = h by omega]
  exact Nat.xor_zero _

theorem crcTo_congr (zs ys : List Int) : ∀ k, (∀ j, j < k → zs.getD j 0 = ys.getD j 0) → crcTo zs k = crcTo ys k
  | 0, _ => rfl
  | k + 1, h => by
    show four (four (crcTo zs k ^^^ (zs.getD k 0).toNat)) = four (four (crcTo ys k ^^^ (ys.getD k 0).toNat))
    rw [crcTo_congr zs ys k (fun j hj => h j (by omega)), h k (by omega)]

theorem getD_left (zs ys : List Int) (j : Nat) (h : j < zs.length) : (zs ++ ys).getD j 0 = zs.getD j 0 := by
  rw [List.getD_eq_getElem?_getD, List.getD_eq_getElem?_getD, List.getElem?_append_left h]

theorem getD_right (zs ys : List Int) (j : Nat) : (zs ++ ys).getD (zs.length + j) 0 = ys.getD j 0 := by
  rw [List.getD_eq_getElem?_getD, List.getD_eq_getElem?_getD, List.getElem?_append_right (by omega)]
  congr 2
  omega

theorem crc_own (zs : List Int) (hc : crcTo zs zs.length < 65536) (lo hi : Int) (hlo : lo = ((crcTo zs zs.length : Nat) : Int) % 256) (hhi : hi = ((crcTo zs zs.length : Nat) : Int) / 256 % 256) :
    crcTo (zs ++ [lo, hi]) (zs ++ [lo, hi]).length = 0 := by
  rw [show (zs ++ [lo, hi]).length = zs.length + 1 + 1 by simp]
  have e0 : crcTo (zs ++ [lo, hi]) zs.length = crcTo zs zs.length := crcTo_congr _ _ _ (fun j hj => getD_left zs _ j hj)
  have g0 : (zs ++ [lo, hi]).getD zs.length 0 = lo := getD_right zs [lo, hi] 0
  have g1 : (zs ++ [lo, hi]).getD (zs.length + 1) 0 = hi := getD_right zs [lo, hi] 1
  show four (four (four (four (crcTo (zs ++ [lo, hi]) zs.length ^^^ ((zs ++ [lo, hi]).getD zs.length 0).toNat)) ^^^ ((zs ++ [lo, hi]).getD (zs.length + 1) 0).toNat)) = 0
  rw [e0, g0, g1]
  generalize crcTo zs zs.length = c at *
  have t0 : lo.toNat = c % 256 := by omega
  have t1 : hi.toNat = c / 256 := by omega
  rw [t0, t1, low_xor c hc, four_low, Nat.xor_self]
  decide

theorem four_top (x : Nat) (h : x < 65536) : four x / 4096 = tabN.getD (x % 16) 0 / 4096 := by
  unfold four
  have e : (x / 16 ^^^ tabN.getD (x % 16) 0) >>> 12 = (x / 16) >>> 12 ^^^ tabN.getD (x % 16) 0 >>> 12 := Nat.shiftRight_xor_distrib
  rw [Nat.shiftRight_eq_div_pow, Nat.shiftRight_eq_div_pow, Nat.shiftRight_eq_div_pow] at e
  rw [show (4096 : Nat) = 2 ^ 12 by decide, e, show x / 16 / 2 ^ 12 = 0 by omega, Nat.zero_xor]

theorem tab_tops : ∀ i : Fin 16, ∀ j : Fin 16, tabN.getD i.val 0 / 4096 = tabN.getD j.val 0 / 4096 → i = j := by decide +kernel

theorem four_inj (x y : Nat) (hx : x < 65536) (hy : y < 65536) (h : four x = four y) : x = y := by
  have t : tabN.getD (x % 16) 0 / 4096 = tabN.getD (y % 16) 0 / 4096 := by rw [← four_top x hx, ← four_top y hy, h]
  have e := tab_tops ⟨x % 16, by omega⟩ ⟨y % 16, by omega⟩ t
  have e' : x % 16 = y % 16 := by simpa using e
  have q : x / 16 = y / 16 := by
    have h2 : x / 16 ^^^ tabN.getD (x % 16) 0 = y / 16 ^^^ tabN.getD (y % 16) 0 := h
    rw [e'] at h2
    exact xor_cr h2
  omega

theorem crcTo_ne (zs ys : List Int) (hz : ∀ i, 0 ≤ zs.getD i 0 ∧ zs.getD i 0 ≤ 255) (hy : ∀ i, 0 ≤ ys.getD i 0 ∧ ys.getD i 0 ≤ 255) (i : Nat) (hne : zs.getD i 0 ≠ ys.getD i 0) (heq : ∀ j, j ≠ i → zs.getD j 0 = ys.getD j 0) :
    ∀ k, i < k → crcTo zs k ≠ crcTo ys k
  | 0, h => absurd h (Nat.not_lt_zero _)
  | k + 1, h => by
    intro he
    have bz := crcTo_lt zs hz k
    have by' := crcTo_lt ys hy k
    have rz := hz k
    have ry := hy k
    have x1 := xor_lt _ (zs.getD k 0).toNat bz (by omega)
    have x2 := xor_lt _ (ys.getD k 0).toNat by' (by omega)
    have h1 : crcTo zs k ^^^ (zs.getD k 0).toNat = crcTo ys k ^^^ (ys.getD k 0).toNat :=
      four_inj _ _ x1 x2 (four_inj _ _ (four_lt _ x1) (four_lt _ x2) he)
    by_cases e : i = k
    · subst e
      rw [crcTo_congr zs ys i (fun j hj => heq j (by omega))] at h1
      have := xor_cl h1
      exact hne (by omega)
    · rw [heq k (fun e2 => e e2.symm)] at h1
      exact crcTo_ne zs ys hz hy i hne heq k (by omega) (xor_cr h1)

theorem lsum_all (zs : List Int) : lsum zs zs.length = zs.sum % 256 := by unfold lsum; rw [List.take_length]

theorem lres_own (zs : List Int) (l : Int) (hl : l = lres zs % 256) : lres (zs ++ [l]) = 0 := by
  unfold lres at *
  rw [lsum_all] at *
  rw [List.sum_append]
  simp only [List.sum_cons, List.sum_nil]
  omega

theorem sum_set : ∀ (zs : List Int) (i : Nat) (x : Int), i < zs.length → (zs.set i x).sum = zs.sum - zs.getD i 0 + x
  | [], i, x, h => by simp at h
  | z :: zs, 0, x, _ => by simp; omega
  | z :: zs, i + 1, x, h => by
    have := sum_set zs i x (by simpa using h)
    simp only [List.set_cons_succ, List.sum_cons, List.getD_cons_succ]
    omega

theorem lres_ne (zs : List Int) (i : Nat) (x : Int) (hi : i < zs.length) (hz : 0 ≤ zs.getD i 0 ∧ zs.getD i 0 ≤ 255) (hx : 0 ≤ x ∧ x ≤ 255) (hne : zs.getD i 0 ≠ x) : lres (zs.set i x) ≠ lres zs := by
  unfold lres
  rw [lsum_all, lsum_all, sum_set zs i x hi]
  omega

end Go.Proofs.YtoofkikenfgbpaaDoor

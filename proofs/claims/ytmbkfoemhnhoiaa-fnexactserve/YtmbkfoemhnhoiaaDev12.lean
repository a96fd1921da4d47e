/- Words written, and masked, by Serve. -/
import Derived.Test.YtmbkfoemhnhoiaaDev11
namespace Go.Proofs.Ytmbkfoemhnhoiaa
open Go.RowKit

set_option linter.unusedVariables false

set_option linter.unusedSimpArgs false

theorem allW_of {ws : List Int} (h : ∀ x ∈ ws, 0 ≤ x ∧ x ≤ 65535) : allW ws = true := by
  refine allW_good (fun k hk => ?_)
  rw [List.getD_eq_getElem?_getD, List.getElem?_eq_getElem hk]
  exact h _ (List.getElem_mem hk)

theorem okR6 (k : Nat) (x : Int) (hk : k ≤ 65535) (hx : 0 ≤ x ∧ x ≤ 65535) : okR 6 (k : Int) 0 0 [x] 1 0 = true := by
  have h1 : allW [x] = true := allW_of (by simpa using hx)
  have h2 : inB (k : Int) 0 65535 = true := decide_eq_true (by omega)
  unfold okR; rw [h1, h2]; rfl

theorem okR22 (k : Nat) (x y : Int) (hk : k ≤ 65535) (hx : 0 ≤ x ∧ x ≤ 65535) (hy : 0 ≤ y ∧ y ≤ 65535) : okR 22 (k : Int) 0 0 [x, y] 2 0 = true := by
  have h1 : allW [x, y] = true := allW_of (by intro z hz; simp at hz; rcases hz with rfl | rfl; exact hx; exact hy)
  have h2 : inB (k : Int) 0 65535 = true := decide_eq_true (by omega)
  unfold okR; rw [h1, h2]; rfl

theorem okD_len {l1 l2 l3 l4 : Nat} {hs rs : List Int} (h : okD l1 l2 l3 l4 hs rs = true) : l1 ≤ 64 ∧ l2 ≤ 64 ∧ l3 ≤ 64 ∧ l4 ≤ 64 := by
  unfold okD at h; simp only [Bool.and_eq_true] at h; exact of_decide_eq_true h.1

theorem okD_sm {l1 l2 l3 l4 : Nat} {cs is : List Bool} {hs rs : List Int} (h : okD l1 l2 l3 l4 hs rs = true) (hn : LnD l1 l2 l3 l4 cs is hs rs) : SmD 2000000 cs is hs rs := by
  obtain ⟨e1, e2, e3, e4⟩ := hn
  have := okD_len h
  unfold SmD; omega

theorem implServe_6 (a1 a2 a3 a4 : Option Addr) (l1 l2 l3 l4 c1 c2 c3 c4 : Nat) (cs is : List Bool) (hs rs : List Int) (k : Nat) (x : Int) (q1 : Option Addr) (k1 : Nat) (w : World) (hn : LnD l1 l2 l3 l4 cs is hs rs) (hs0 : SlD w a1 a2 a3 a4 cs is hs rs) (hd : okD l1 l2 l3 l4 hs rs = true) (hk : k < l3) (hx : 0 ≤ x ∧ x ≤ 65535) (hq : SlI w q1 [x]) :
    Calls Try.prog 15 #[dv a1 a2 a3 a4 l1 l2 l3 l4 c1 c2 c3 c4, rq 6 (k : Int) 0 0 q1 none 1 0 k1 0] w fun e w' => SR w w' e cs is (hs.set k x) rs 6 0 (k : Int) 0 [x] [] := by
  have hl := okD_len hd
  have hsm := okD_sm hd hn
  have hok := okR6 k x (by omega) hx
  refine implServe_of a1 a2 a3 a4 l1 l2 l3 l4 c1 c2 c3 c4 cs is hs rs 6 (k : Int) 0 0 q1 none 1 0 k1 0 [x] [] w hn hs0 hsm hq (.inl rfl) cs is (hs.set k x) rs 6 0 (k : Int) 0 [x] [] ?_
  intro W0 u g1 g2 g3 g4 hB hD hq' hq2'
  refine serve_6 _ _ _ _ l1 l2 l3 l4 l1 l2 l3 l4 cs is hs rs (k : Int) 0 0 q1 none 1 0 k1 0 [x] [] W0 u hB hD rfl rfl hq' hq2' (by simp) (by simp) hok hd hsm cs is (hs.set k x) rs [x] [] (k : Int) 0 ?_ ?_
  · intro v s1 s2
    refine hasAll_any _ _ _ _ l1 l2 l3 l4 l1 l2 l3 l4 6 (k : Int) 0 0 q1 none 1 0 k1 0 [x] [] v rfl rfl s1 s2 (by simp) (by simp) 2 (k : Int) 1 (l3 : Int) (by rw [hok]; rfl) (by omega) (by omega) (by omega) (fun h => by omega) (by omega) (by omega) (by omega) (by omega) rfl true ?_
    rw [hsB_2 (fun h => by omega)]
    exact decide_eq_true (by omega)
  · intro v hv hDv
    have := setWord_any _ _ _ _ l1 l2 l3 l4 l1 l2 l3 l4 cs is hs rs 6 0 0 k q1 none 1 0 k1 0 [x] [] W0 v hv hDv rfl hq' hk (by simp) (by omega) (by simp)
    exact this

theorem implServe_22 (a1 a2 a3 a4 : Option Addr) (l1 l2 l3 l4 c1 c2 c3 c4 : Nat) (cs is : List Bool) (hs rs : List Int) (k : Nat) (x y : Int) (q1 : Option Addr) (k1 : Nat) (w : World) (hn : LnD l1 l2 l3 l4 cs is hs rs) (hs0 : SlD w a1 a2 a3 a4 cs is hs rs) (hd : okD l1 l2 l3 l4 hs rs = true) (hk : k < l3) (hx : 0 ≤ x ∧ x ≤ 65535) (hy : 0 ≤ y ∧ y ≤ 65535) (hq : SlI w q1 [x, y]) :
    Calls Try.prog 15 #[dv a1 a2 a3 a4 l1 l2 l3 l4 c1 c2 c3 c4, rq 22 (k : Int) 0 0 q1 none 2 0 k1 0] w fun e w' => SR w w' e cs is (hs.set k (mskI (hs.getD k 0) x y)) rs 22 0 (k : Int) 0 [x, y] [] := by
  have hl := okD_len hd
  have hsm := okD_sm hd hn
  have hok := okR22 k x y (by omega) hx hy
  refine implServe_of a1 a2 a3 a4 l1 l2 l3 l4 c1 c2 c3 c4 cs is hs rs 22 (k : Int) 0 0 q1 none 2 0 k1 0 [x, y] [] w hn hs0 hsm hq (.inl rfl) cs is (hs.set k (mskI (hs.getD k 0) x y)) rs 22 0 (k : Int) 0 [x, y] [] ?_
  intro W0 u g1 g2 g3 g4 hB hD hq' hq2'
  refine serve_22 _ _ _ _ l1 l2 l3 l4 l1 l2 l3 l4 cs is hs rs (k : Int) 0 0 q1 none 2 0 k1 0 [x, y] [] W0 u hB hD rfl rfl hq' hq2' (by simp) (by simp) hok hd hsm cs is (hs.set k (mskI (hs.getD k 0) x y)) rs [x, y] [] (k : Int) 0 ?_ ?_
  · intro v s1 s2
    refine hasAll_any _ _ _ _ l1 l2 l3 l4 l1 l2 l3 l4 22 (k : Int) 0 0 q1 none 2 0 k1 0 [x, y] [] v rfl rfl s1 s2 (by simp) (by simp) 2 (k : Int) 1 (l3 : Int) (by rw [hok]; rfl) (by omega) (by omega) (by omega) (fun h => by omega) (by omega) (by omega) (by omega) (by omega) rfl true ?_
    rw [hsB_2 (fun h => by omega)]
    exact decide_eq_true (by omega)
  · intro v hv hDv
    have := maskWord_any _ _ _ _ l1 l2 l3 l4 l1 l2 l3 l4 cs is hs rs 22 0 0 k q1 none 2 0 k1 0 [x, y] [] W0 v hv hDv rfl hq' hk (by simp) (by omega) (by simp)
    exact this

end Go.Proofs.Ytmbkfoemhnhoiaa

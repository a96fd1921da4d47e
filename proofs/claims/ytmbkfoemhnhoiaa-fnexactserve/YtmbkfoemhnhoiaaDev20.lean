/- What a device does, whatever it is asked. -/
import Derived.Test.YtmbkfoemhnhoiaaDev18a
import Derived.Test.YtmbkfoemhnhoiaaDev18b
import Derived.Test.YtmbkfoemhnhoiaaDev19
import Derived.Test.YtmbkfoemhnhoiaaDev12
namespace Go.Proofs.Ytmbkfoemhnhoiaa
open Go.RowKit

set_option linter.unusedVariables false

set_option linter.unusedSimpArgs false

/-- What serving comes to. -/
structure SvR where
  cs : List Bool
  hs : List Int
  kd : Int
  fl : Int
  pl : Int
  nn : Int
  ws : List Int
  bs : List Bool

/-- Is all there? -/
def svAll (l1 l2 l3 l4 : Nat) (kd pl nn wa : Int) (m1 m2 : Nat) : Bool := hsB ([(l1 : Int), (l2 : Int), (l3 : Int), (l4 : Int)].getD (spc0 kd).toNat 0) pl (spcN kd nn m1 m2) kd wa m1

/-- Bits told, in whole bytes. -/
def tB8 (cs : List Bool) (k N : Nat) : List Bool := (cs.drop k).take N ++ List.replicate (8 * ((N + 7) / 8) - N) false

def svDo (cs is : List Bool) (hs rs : List Int) (kd pl nn wa : Int) (ws : List Int) (bs : List Bool) : SvR :=
  if kd = 1 then ⟨cs, hs, 1, 0, 0, 0, [], tB8 cs pl.toNat nn.toNat⟩
  else if kd = 2 then ⟨cs, hs, 2, 0, 0, 0, [], tB8 is pl.toNat nn.toNat⟩
  else if kd = 3 then ⟨cs, hs, 3, 0, 0, 0, (hs.drop pl.toNat).take nn.toNat, []⟩
  else if kd = 4 then ⟨cs, hs, 4, 0, 0, 0, (rs.drop pl.toNat).take nn.toNat, []⟩
  else if kd = 5 then ⟨cs.set pl.toNat (bs.getD 0 false), hs, 5, 0, pl, 0, [], bs⟩
  else if kd = 6 then ⟨cs, hs.set pl.toNat (ws.getD 0 0), 6, 0, pl, 0, ws, []⟩
  else if kd = 15 then ⟨wr cs pl.toNat bs, hs, 15, 0, pl, bs.length, [], []⟩
  else if kd = 16 then ⟨cs, wr hs pl.toNat ws, 16, 0, pl, ws.length, [], []⟩
  else if kd = 22 then ⟨cs, hs.set pl.toNat (mskI (hs.getD pl.toNat 0) (ws.getD 0 0) (ws.getD 1 0)), 22, 0, pl, 0, ws, []⟩
  else ⟨cs, wr hs wa.toNat ws, 23, 0, 0, 0, ((wr hs wa.toNat ws).drop pl.toNat).take nn.toNat, []⟩

def svV (l1 l2 l3 l4 : Nat) (cs is : List Bool) (hs rs : List Int) (kd pl nn wa : Int) (m1 m2 : Nat) (ws : List Int) (bs : List Bool) : SvR :=
  if okR kd pl nn wa ws m1 m2 = false then ⟨cs, hs, 0, 0, 0, 0, [], []⟩
  else if okD l1 l2 l3 l4 hs rs = false then ⟨cs, hs, kd, 4, 0, 0, [], []⟩
  else if svAll l1 l2 l3 l4 kd pl nn wa m1 m2 = false then ⟨cs, hs, kd, 2, 0, 0, [], []⟩
  else svDo cs is hs rs kd pl nn wa ws bs

theorem okR_f {kd pl nn wa : Int} {ws : List Int} {m1 m2 : Nat} (h : okR kd pl nn wa ws m1 m2 = true) : (0 ≤ pl ∧ pl ≤ 65535) ∧
    ((kd = 1 ∧ 1 ≤ nn ∧ nn ≤ 2000 ∧ m1 = 0 ∧ m2 = 0 ∧ wa = 0) ∨ (kd = 2 ∧ 1 ≤ nn ∧ nn ≤ 2000 ∧ m1 = 0 ∧ m2 = 0 ∧ wa = 0) ∨ (kd = 3 ∧ 1 ≤ nn ∧ nn ≤ 125 ∧ m1 = 0 ∧ m2 = 0 ∧ wa = 0) ∨ (kd = 4 ∧ 1 ≤ nn ∧ nn ≤ 125 ∧ m1 = 0 ∧ m2 = 0 ∧ wa = 0)
     ∨ (kd = 5 ∧ nn = 0 ∧ m1 = 0 ∧ m2 = 1 ∧ wa = 0) ∨ (kd = 6 ∧ nn = 0 ∧ m1 = 1 ∧ m2 = 0 ∧ wa = 0) ∨ (kd = 15 ∧ nn = 0 ∧ m1 = 0 ∧ 1 ≤ m2 ∧ m2 ≤ 1968 ∧ wa = 0) ∨ (kd = 16 ∧ nn = 0 ∧ m2 = 0 ∧ 1 ≤ m1 ∧ m1 ≤ 123 ∧ wa = 0)
     ∨ (kd = 22 ∧ nn = 0 ∧ m1 = 2 ∧ m2 = 0 ∧ wa = 0) ∨ (kd = 23 ∧ 1 ≤ nn ∧ nn ≤ 125 ∧ m2 = 0 ∧ 1 ≤ m1 ∧ m1 ≤ 121 ∧ 0 ≤ wa ∧ wa ≤ 65535)) := by
  unfold okR at h
  simp only [Bool.and_eq_true] at h
  obtain ⟨_, h2, h3⟩ := h
  refine ⟨inB_yes h2, ?_⟩
  by_cases e1 : kd = 1
  · subst e1
    simp [okK, zrB, inB, fitB] at h3
    exact .inl ⟨rfl, by omega, by omega, by omega, by omega, by omega⟩
  by_cases e2 : kd = 2
  · subst e2
    simp [okK, zrB, inB, fitB] at h3
    exact .inr (.inl ⟨rfl, by omega, by omega, by omega, by omega, by omega⟩)
  by_cases e3 : kd = 3
  · subst e3
    simp [okK, zrB, inB, fitB] at h3
    exact .inr (.inr (.inl ⟨rfl, by omega, by omega, by omega, by omega, by omega⟩))
  by_cases e4 : kd = 4
  · subst e4
    simp [okK, zrB, inB, fitB] at h3
    exact .inr (.inr (.inr (.inl ⟨rfl, by omega, by omega, by omega, by omega, by omega⟩)))
  by_cases e5 : kd = 5
  · subst e5
    simp [okK, zrB, inB, fitB] at h3
    exact .inr (.inr (.inr (.inr (.inl ⟨rfl, by omega, by omega, by omega, by omega⟩))))
  by_cases e6 : kd = 6
  · subst e6
    simp [okK, zrB, inB, fitB] at h3
    exact .inr (.inr (.inr (.inr (.inr (.inl ⟨rfl, by omega, by omega, by omega, by omega⟩)))))
  by_cases e15 : kd = 15
  · subst e15
    simp [okK, zrB, inB, fitB] at h3
    exact .inr (.inr (.inr (.inr (.inr (.inr (.inl ⟨rfl, by omega, by omega, by omega, by omega, by omega⟩))))))
  by_cases e16 : kd = 16
  · subst e16
    simp [okK, zrB, inB, fitB] at h3
    exact .inr (.inr (.inr (.inr (.inr (.inr (.inr (.inl ⟨rfl, by omega, by omega, by omega, by omega, by omega⟩)))))))
  by_cases e22 : kd = 22
  · subst e22
    simp [okK, zrB, inB, fitB] at h3
    exact .inr (.inr (.inr (.inr (.inr (.inr (.inr (.inr (.inl ⟨rfl, by omega, by omega, by omega, by omega⟩))))))))
  by_cases e23 : kd = 23
  · subst e23
    simp [okK, zrB, inB, fitB] at h3
    exact .inr (.inr (.inr (.inr (.inr (.inr (.inr (.inr (.inr (⟨rfl, by omega, by omega, by omega, by omega, by omega, by omega, by omega⟩)))))))))
  simp [okK, e1, e2, e3, e4, e5, e6, e15, e16, e22, e23] at h3

theorem okR_w {kd pl nn wa : Int} {ws : List Int} {m1 m2 : Nat} (h : okR kd pl nn wa ws m1 m2 = true) : allW ws = true := by
  unfold okR at h
  simp only [Bool.and_eq_true] at h
  exact h.1

set_option maxHeartbeats 1000000 in
theorem hasAll_q (a1 a2 a3 a4 : Option Addr) (l1 l2 l3 l4 c1 c2 c3 c4 : Nat) (kd pl nn wa : Int) (q1 q2 : Option Addr) (m1 m2 k1 k2 : Nat) (ws : List Int) (bs : List Bool) (w : World) (h1 : m1 = ws.length) (h2 : m2 = bs.length) (s1 : SlI w q1 ws) (s2 : SlB w q2 bs) (hl1 : ws.length ≤ 2000000) (hl2 : bs.length ≤ 2000000) (hok : okR kd pl nn wa ws m1 m2 = true) (n1 : l1 ≤ 2000000) (n2 : l2 ≤ 2000000) (n3 : l3 ≤ 2000000) (n4 : l4 ≤ 2000000) (b : Bool) (hb : svAll l1 l2 l3 l4 kd pl nn wa m1 m2 = b) :
    Calls Try.prog 105 #[dv a1 a2 a3 a4 l1 l2 l3 l4 c1 c2 c3 c4, rq kd pl nn wa q1 q2 m1 m2 k1 k2] w fun e w' => e = .returned (.bool b) ∧ Below w.heap.size w w' := by
  have f := okR_f hok
  have hs0 : 0 ≤ spc0 kd ∧ spc0 kd < 4 := by unfold spc0; split <;> (try split) <;> (try split) <;> omega
  have hsN : 0 ≤ spcN kd nn m1 m2 ∧ spcN kd nn m1 m2 ≤ 2000000 := by unfold spcN; split <;> (try split) <;> (try split) <;> omega
  refine hasAll_any a1 a2 a3 a4 l1 l2 l3 l4 c1 c2 c3 c4 kd pl nn wa q1 q2 m1 m2 k1 k2 ws bs w h1 h2 s1 s2 hl1 hl2 (spc0 kd).toNat pl (spcN kd nn m1 m2) _ ?_ (by omega) f.1 hsN (fun h => by omega) n1 n2 n3 n4 rfl b hb
  rw [hok]
  unfold spcV
  rw [show ((spc0 kd).toNat : Int) = spc0 kd by omega]
  rfl

theorem svAll_le {l1 l2 l3 l4 : Nat} {kd pl nn wa : Int} {m1 m2 : Nat} (h : svAll l1 l2 l3 l4 kd pl nn wa m1 m2 = true) : pl + spcN kd nn m1 m2 ≤ [(l1 : Int), (l2 : Int), (l3 : Int), (l4 : Int)].getD (spc0 kd).toNat 0 ∧ (kd = 23 → wa + m1 ≤ (l3 : Int)) := by
  unfold svAll hsB at h
  split at h
  · exact absurd h (by decide)
  · rename_i hh
    refine ⟨of_decide_eq_true h, fun h23 => ?_⟩
    have : spc0 kd = 2 := by rw [h23]; rfl
    rw [this] at hh
    simp at hh
    have := hh h23
    omega

set_option maxRecDepth 20000 in
set_option maxHeartbeats 4000000 in
theorem serve_q (a1 a2 a3 a4 : Option Addr) (l1 l2 l3 l4 c1 c2 c3 c4 : Nat) (cs is : List Bool) (hs rs : List Int) (kd pl nn wa : Int) (q1 q2 : Option Addr) (m1 m2 k1 k2 : Nat) (ws : List Int) (bs : List Bool) (W0 w : World) (hB : Below W0.heap.size W0 w) (hD : OwnD w W0.heap.size a1 a2 a3 a4 l1 l2 l3 l4 c1 c2 c3 c4 cs is hs rs) (hn : m1 = ws.length) (hn2 : m2 = bs.length) (hq : SlI W0 q1 ws) (hq2 : SlB W0 q2 bs) (hl : ws.length ≤ 2000000) (hl2 : bs.length ≤ 2000000) (hsm : SmD 2000000 cs is hs rs) (V : SvR) (hV : svV l1 l2 l3 l4 cs is hs rs kd pl nn wa m1 m2 ws bs = V) :
    Calls Try.prog 68 #[dv a1 a2 a3 a4 l1 l2 l3 l4 c1 c2 c3 c4, rq kd pl nn wa q1 q2 m1 m2 k1 k2] w fun e w' => SV W0 w w' e a1 a2 a3 a4 l1 l2 l3 l4 c1 c2 c3 c4 V.cs is V.hs rs V.kd V.fl V.pl V.nn V.ws V.bs := by
  have hln := hD.sl.1
  have hlim : l1 ≤ 2000000 ∧ l2 ≤ 2000000 ∧ l3 ≤ 2000000 ∧ l4 ≤ 2000000 := by
    obtain ⟨e1, e2, e3, e4⟩ := hln
    obtain ⟨g1, g2, g3, g4⟩ := hsm
    omega
  cases hok : okR kd pl nn wa ws m1 m2
  · obtain rfl : V = ⟨cs, hs, 0, 0, 0, 0, [], []⟩ := by rw [← hV]; unfold svV; rw [if_pos hok]
    exact serve_no a1 a2 a3 a4 l1 l2 l3 l4 c1 c2 c3 c4 cs is hs rs kd pl nn wa q1 q2 m1 m2 k1 k2 ws bs W0 w hB hD hn hn2 hq hq2 hl hl2 hsm hok
  cases hd : okD l1 l2 l3 l4 hs rs
  · obtain rfl : V = ⟨cs, hs, kd, 4, 0, 0, [], []⟩ := by rw [← hV]; unfold svV; rw [hok, if_neg (by decide), if_pos hd]
    exact serve_dev a1 a2 a3 a4 l1 l2 l3 l4 c1 c2 c3 c4 cs is hs rs kd pl nn wa q1 q2 m1 m2 k1 k2 ws bs W0 w hB hD hn hn2 hq hq2 hl hl2 hsm hok hd
  cases ha : svAll l1 l2 l3 l4 kd pl nn wa m1 m2
  · obtain rfl : V = ⟨cs, hs, kd, 2, 0, 0, [], []⟩ := by rw [← hV]; unfold svV; rw [hok, if_neg (by decide), hd, if_neg (by decide), if_pos ha]
    exact serve_at a1 a2 a3 a4 l1 l2 l3 l4 c1 c2 c3 c4 cs is hs rs kd pl nn wa q1 q2 m1 m2 k1 k2 ws bs W0 w hB hD hn hn2 hq hq2 hl hl2 hsm hok hd (fun v s1 s2 => hasAll_q a1 a2 a3 a4 l1 l2 l3 l4 c1 c2 c3 c4 kd pl nn wa q1 q2 m1 m2 k1 k2 ws bs v hn hn2 s1 s2 hl hl2 hok hlim.1 hlim.2.1 hlim.2.2.1 hlim.2.2.2 false ha)
  have hVd : svDo cs is hs rs kd pl nn wa ws bs = V := by rw [← hV]; unfold svV; rw [hok, if_neg (by decide), hd, if_neg (by decide), ha, if_neg (by decide)]
  have hle := svAll_le ha
  have hA : ∀ v : World, SlI v q1 ws → SlB v q2 bs → Calls Try.prog 105 #[dv a1 a2 a3 a4 l1 l2 l3 l4 c1 c2 c3 c4, rq kd pl nn wa q1 q2 m1 m2 k1 k2] v fun e w' => e = .returned (.bool true) ∧ Below v.heap.size v w' := fun v s1 s2 => hasAll_q a1 a2 a3 a4 l1 l2 l3 l4 c1 c2 c3 c4 kd pl nn wa q1 q2 m1 m2 k1 k2 ws bs v hn hn2 s1 s2 hl hl2 hok hlim.1 hlim.2.1 hlim.2.2.1 hlim.2.2.2 true ha
  obtain ⟨⟨hp0, hp1⟩, hf⟩ := okR_f hok
  obtain ⟨k, rfl⟩ := Int.eq_ofNat_of_zero_le hp0
  clear hV ha
  rcases hf with h1 | h2 | h3 | h4 | h5 | h6 | h15 | h16 | h22 | h23
  · obtain ⟨rfl, hN1, hN2, hm1, hm2, rfl⟩ := h1
    obtain ⟨N, rfl⟩ := Int.eq_ofNat_of_zero_le (show 0 ≤ nn by omega)
    obtain rfl : V = ⟨cs, hs, 1, 0, 0, 0, [], tB8 cs k N⟩ := by rw [← hVd]; rfl
    have hle1 := hle.1
    have hle2 := hle.2
    simp [spc0, spcN] at hle1 hle2
    exact serve_1 a1 a2 a3 a4 l1 l2 l3 l4 c1 c2 c3 c4 cs is hs rs (k : Int) (N : Int) 0 q1 q2 m1 m2 k1 k2 ws bs W0 w hB hD hn hn2 hq hq2 hl hl2 hok hd hsm cs is hs rs ([]) (tB8 cs k N) 0 0 hA (fun v hv hDv => tellCoils_any a1 a2 a3 a4 l1 l2 l3 l4 c1 c2 c3 c4 cs is hs rs 1 0 k N q1 q2 m1 m2 k1 k2 W0 v hv hDv (by omega) (by omega) (by omega) (by omega))
  · obtain ⟨rfl, hN1, hN2, hm1, hm2, rfl⟩ := h2
    obtain ⟨N, rfl⟩ := Int.eq_ofNat_of_zero_le (show 0 ≤ nn by omega)
    obtain rfl : V = ⟨cs, hs, 2, 0, 0, 0, [], tB8 is k N⟩ := by rw [← hVd]; rfl
    have hle1 := hle.1
    have hle2 := hle.2
    simp [spc0, spcN] at hle1 hle2
    exact serve_2 a1 a2 a3 a4 l1 l2 l3 l4 c1 c2 c3 c4 cs is hs rs (k : Int) (N : Int) 0 q1 q2 m1 m2 k1 k2 ws bs W0 w hB hD hn hn2 hq hq2 hl hl2 hok hd hsm cs is hs rs ([]) (tB8 is k N) 0 0 hA (fun v hv hDv => tellInputs_any a1 a2 a3 a4 l1 l2 l3 l4 c1 c2 c3 c4 cs is hs rs 2 0 k N q1 q2 m1 m2 k1 k2 W0 v hv hDv (by omega) (by omega) (by omega) (by omega))
  · obtain ⟨rfl, hN1, hN2, hm1, hm2, rfl⟩ := h3
    obtain ⟨N, rfl⟩ := Int.eq_ofNat_of_zero_le (show 0 ≤ nn by omega)
    obtain rfl : V = ⟨cs, hs, 3, 0, 0, 0, (hs.drop k).take N, []⟩ := by rw [← hVd]; rfl
    have hle1 := hle.1
    have hle2 := hle.2
    simp [spc0, spcN] at hle1 hle2
    exact serve_3 a1 a2 a3 a4 l1 l2 l3 l4 c1 c2 c3 c4 cs is hs rs (k : Int) (N : Int) 0 q1 q2 m1 m2 k1 k2 ws bs W0 w hB hD hn hn2 hq hq2 hl hl2 hok hd hsm cs is hs rs ((hs.drop k).take N) ([]) 0 0 hA (fun v hv hDv => tellHolding_any a1 a2 a3 a4 l1 l2 l3 l4 c1 c2 c3 c4 cs is hs rs 3 0 k N q1 q2 m1 m2 k1 k2 W0 v hv hDv (by omega) (by omega) (by omega) (by omega))
  · obtain ⟨rfl, hN1, hN2, hm1, hm2, rfl⟩ := h4
    obtain ⟨N, rfl⟩ := Int.eq_ofNat_of_zero_le (show 0 ≤ nn by omega)
    obtain rfl : V = ⟨cs, hs, 4, 0, 0, 0, (rs.drop k).take N, []⟩ := by rw [← hVd]; rfl
    have hle1 := hle.1
    have hle2 := hle.2
    simp [spc0, spcN] at hle1 hle2
    exact serve_4 a1 a2 a3 a4 l1 l2 l3 l4 c1 c2 c3 c4 cs is hs rs (k : Int) (N : Int) 0 q1 q2 m1 m2 k1 k2 ws bs W0 w hB hD hn hn2 hq hq2 hl hl2 hok hd hsm cs is hs rs ((rs.drop k).take N) ([]) 0 0 hA (fun v hv hDv => tellWords_any a1 a2 a3 a4 l1 l2 l3 l4 c1 c2 c3 c4 cs is hs rs 4 0 k N q1 q2 m1 m2 k1 k2 W0 v hv hDv (by omega) (by omega) (by omega) (by omega))
  · obtain ⟨rfl, rfl, hm1, hm2, rfl⟩ := h5
    obtain rfl : V = ⟨cs.set k (bs.getD 0 false), hs, 5, 0, (k : Int), 0, [], bs⟩ := by rw [← hVd]; rfl
    have hle1 := hle.1
    have hle2 := hle.2
    simp [spc0, spcN] at hle1 hle2
    exact serve_5 a1 a2 a3 a4 l1 l2 l3 l4 c1 c2 c3 c4 cs is hs rs (k : Int) 0 0 q1 q2 m1 m2 k1 k2 ws bs W0 w hB hD hn hn2 hq hq2 hl hl2 hok hd hsm (cs.set k (bs.getD 0 false)) is hs rs [] bs (k : Int) 0 hA (fun v hv hDv => setCoil_any a1 a2 a3 a4 l1 l2 l3 l4 c1 c2 c3 c4 cs is hs rs 5 0 0 k q1 q2 m1 m2 k1 k2 ws bs W0 v hv hDv hn2 hq2 (by omega) (by omega) hl2 (by omega))
  · obtain ⟨rfl, rfl, hm1, hm2, rfl⟩ := h6
    obtain rfl : V = ⟨cs, hs.set k (ws.getD 0 0), 6, 0, (k : Int), 0, ws, []⟩ := by rw [← hVd]; rfl
    have hle1 := hle.1
    have hle2 := hle.2
    simp [spc0, spcN] at hle1 hle2
    exact serve_6 a1 a2 a3 a4 l1 l2 l3 l4 c1 c2 c3 c4 cs is hs rs (k : Int) 0 0 q1 q2 m1 m2 k1 k2 ws bs W0 w hB hD hn hn2 hq hq2 hl hl2 hok hd hsm cs is (hs.set k (ws.getD 0 0)) rs ws [] (k : Int) 0 hA (fun v hv hDv => setWord_any a1 a2 a3 a4 l1 l2 l3 l4 c1 c2 c3 c4 cs is hs rs 6 0 0 k q1 q2 m1 m2 k1 k2 ws bs W0 v hv hDv hn hq (by omega) hl (by omega) (by omega))
  · obtain ⟨rfl, rfl, hm1, hm2, hm3, rfl⟩ := h15
    obtain rfl : V = ⟨wr cs k bs, hs, 15, 0, (k : Int), bs.length, [], []⟩ := by rw [← hVd]; rfl
    have hle1 := hle.1
    have hle2 := hle.2
    simp [spc0, spcN] at hle1 hle2
    have hmi : (m2 : Int) = bs.length := by rw [← hn2]
    exact serve_15 a1 a2 a3 a4 l1 l2 l3 l4 c1 c2 c3 c4 cs is hs rs (k : Int) 0 0 q1 q2 m1 m2 k1 k2 ws bs W0 w hB hD hn hn2 hq hq2 hl hl2 hok hd hsm (wr cs k bs) is hs rs [] [] (k : Int) (bs.length : Int) hA (fun v hv hDv => (hn2 ▸ setCoils_any a1 a2 a3 a4 l1 l2 l3 l4 c1 c2 c3 c4 cs is hs rs 15 0 0 k q1 q2 m1 m2 k1 k2 ws bs W0 v hv hDv hn2 hq2 (by omega) (by omega) (by omega) (by omega)))
  · obtain ⟨rfl, rfl, hm2, hm1, hm3, rfl⟩ := h16
    obtain rfl : V = ⟨cs, wr hs k ws, 16, 0, (k : Int), ws.length, [], []⟩ := by rw [← hVd]; rfl
    have hle1 := hle.1
    have hle2 := hle.2
    simp [spc0, spcN] at hle1 hle2
    have hmi : (m1 : Int) = ws.length := by rw [← hn]
    exact serve_16 a1 a2 a3 a4 l1 l2 l3 l4 c1 c2 c3 c4 cs is hs rs (k : Int) 0 0 q1 q2 m1 m2 k1 k2 ws bs W0 w hB hD hn hn2 hq hq2 hl hl2 hok hd hsm cs is (wr hs k ws) rs [] [] (k : Int) (ws.length : Int) hA (fun v hv hDv => (hn ▸ setWords_any a1 a2 a3 a4 l1 l2 l3 l4 c1 c2 c3 c4 cs is hs rs 16 0 0 k q1 q2 m1 m2 k1 k2 ws bs W0 v hv hDv hn hq (by omega) (by omega) (by omega) (by omega)))
  · obtain ⟨rfl, rfl, hm1, hm2, rfl⟩ := h22
    obtain rfl : V = ⟨cs, hs.set k (mskI (hs.getD k 0) (ws.getD 0 0) (ws.getD 1 0)), 22, 0, (k : Int), 0, ws, []⟩ := by rw [← hVd]; rfl
    have hle1 := hle.1
    have hle2 := hle.2
    simp [spc0, spcN] at hle1 hle2
    exact serve_22 a1 a2 a3 a4 l1 l2 l3 l4 c1 c2 c3 c4 cs is hs rs (k : Int) 0 0 q1 q2 m1 m2 k1 k2 ws bs W0 w hB hD hn hn2 hq hq2 hl hl2 hok hd hsm cs is (hs.set k (mskI (hs.getD k 0) (ws.getD 0 0) (ws.getD 1 0))) rs ws [] (k : Int) 0 hA (fun v hv hDv => maskWord_any a1 a2 a3 a4 l1 l2 l3 l4 c1 c2 c3 c4 cs is hs rs 22 0 0 k q1 q2 m1 m2 k1 k2 ws bs W0 v hv hDv hn hq (by omega) hl (by omega) (by omega))
  · obtain ⟨rfl, hN1, hN2, hm2, hm1, hm3, hw1, hw2⟩ := h23
    obtain ⟨N, rfl⟩ := Int.eq_ofNat_of_zero_le (show 0 ≤ nn by omega)
    obtain ⟨j, rfl⟩ := Int.eq_ofNat_of_zero_le hw1
    obtain rfl : V = ⟨cs, wr hs j ws, 23, 0, 0, 0, ((wr hs j ws).drop k).take N, []⟩ := by rw [← hVd]; rfl
    have hle1 := hle.1
    have hle2 := hle.2
    simp [spc0, spcN] at hle1 hle2
    exact serve_23 a1 a2 a3 a4 l1 l2 l3 l4 c1 c2 c3 c4 cs is hs rs (k : Int) (N : Int) (j : Int) q1 q2 m1 m2 k1 k2 ws bs W0 w hB hD hn hn2 hq hq2 hl hl2 hok hd hsm cs is (wr hs j ws) rs (((wr hs j ws).drop k).take N) [] 0 0 hA (fun v hv hDv => setAndTell_any a1 a2 a3 a4 l1 l2 l3 l4 c1 c2 c3 c4 cs is hs rs 23 0 0 k q1 q2 m1 m2 k1 k2 ws bs W0 v hv hDv N j hn hq (by omega) (by omega) (by omega) (by omega) (by omega) (by omega) (by omega))

end Go.Proofs.Ytmbkfoemhnhoiaa

/- Texts that the proof needs, joined: Dev31. -/
import Derived.Test.YtfdddkjonjpgpaaV15
namespace Go.Proofs.Ytfdddkjonjpgpaa
open Go.RowKit
set_option linter.unusedVariables false
set_option linter.unusedSimpArgs false
theorem svV_len {l1 l2 l3 l4 : Nat} {cs is : List Bool} {hs rs : List Int} {kd pl nn wa : Int} {m1 m2 : Nat} {ws : List Int} {bs : List Bool} {V : SvR} (hn : LnD l1 l2 l3 l4 cs is hs rs) (h1 : m1 = ws.length) (h2 : m2 = bs.length) (hV : svV l1 l2 l3 l4 cs is hs rs kd pl nn wa m1 m2 ws bs = V) :
    V.cs.length = cs.length ∧ V.hs.length = hs.length ∧ V.ws.length ≤ ws.length + hs.length + rs.length ∧ V.bs.length ≤ bs.length + 2007 := by
  obtain ⟨e1, e2, e3, e4⟩ := hn
  cases hok : okR kd pl nn wa ws m1 m2
  · obtain rfl : V = ⟨cs, hs, 0, 0, 0, 0, [], []⟩ := by rw [← hV]; unfold svV; rw [if_pos hok]
    exact ⟨rfl, rfl, by simp, by simp⟩
  cases hd : okD l1 l2 l3 l4 hs rs
  · obtain rfl : V = ⟨cs, hs, kd, 4, 0, 0, [], []⟩ := by rw [← hV]; unfold svV; rw [hok, if_neg (by decide), if_pos hd]
    exact ⟨rfl, rfl, by simp, by simp⟩
  cases ha : svAll l1 l2 l3 l4 kd pl nn wa m1 m2
  · obtain rfl : V = ⟨cs, hs, kd, 2, 0, 0, [], []⟩ := by rw [← hV]; unfold svV; rw [hok, if_neg (by decide), hd, if_neg (by decide), if_pos ha]
    exact ⟨rfl, rfl, by simp, by simp⟩
  have hVd : svDo cs is hs rs kd pl nn wa ws bs = V := by rw [← hV]; unfold svV; rw [hok, if_neg (by decide), hd, if_neg (by decide), ha, if_neg (by decide)]
  have hle := svAll_le ha
  obtain ⟨⟨hp0, hp1⟩, hf⟩ := okR_f hok
  obtain ⟨k, rfl⟩ := Int.eq_ofNat_of_zero_le hp0
  clear hV
  rcases hf with h1 | h2 | h3 | h4 | h5 | h6 | h15 | h16 | h22 | h23
  · obtain ⟨rfl, hN1, hN2, hm1, hm2, rfl⟩ := h1
    obtain ⟨N, rfl⟩ := Int.eq_ofNat_of_zero_le (show 0 ≤ nn by omega)
    obtain rfl : V = ⟨cs, hs, 1, 0, 0, 0, [], tB8 cs k N⟩ := by rw [← hVd]; rfl
    have hle1 := hle.1
    have hle2 := hle.2
    simp [spc0, spcN] at hle1 hle2
    exact ⟨rfl, rfl, by simp, by show (tB8 cs k N).length ≤ _; rw [tB8_len cs k N (by omega)]; omega⟩
  · obtain ⟨rfl, hN1, hN2, hm1, hm2, rfl⟩ := h2
    obtain ⟨N, rfl⟩ := Int.eq_ofNat_of_zero_le (show 0 ≤ nn by omega)
    obtain rfl : V = ⟨cs, hs, 2, 0, 0, 0, [], tB8 is k N⟩ := by rw [← hVd]; rfl
    have hle1 := hle.1
    have hle2 := hle.2
    simp [spc0, spcN] at hle1 hle2
    exact ⟨rfl, rfl, by simp, by show (tB8 is k N).length ≤ _; rw [tB8_len is k N (by omega)]; omega⟩
  · obtain ⟨rfl, hN1, hN2, hm1, hm2, rfl⟩ := h3
    obtain ⟨N, rfl⟩ := Int.eq_ofNat_of_zero_le (show 0 ≤ nn by omega)
    obtain rfl : V = ⟨cs, hs, 3, 0, 0, 0, (hs.drop k).take N, []⟩ := by rw [← hVd]; rfl
    have hle1 := hle.1
    have hle2 := hle.2
    simp [spc0, spcN] at hle1 hle2
    exact ⟨rfl, rfl, by show ((hs.drop k).take N).length ≤ _; simp; omega, by simp⟩
  · obtain ⟨rfl, hN1, hN2, hm1, hm2, rfl⟩ := h4
    obtain ⟨N, rfl⟩ := Int.eq_ofNat_of_zero_le (show 0 ≤ nn by omega)
    obtain rfl : V = ⟨cs, hs, 4, 0, 0, 0, (rs.drop k).take N, []⟩ := by rw [← hVd]; rfl
    have hle1 := hle.1
    have hle2 := hle.2
    simp [spc0, spcN] at hle1 hle2
    exact ⟨rfl, rfl, by show ((rs.drop k).take N).length ≤ _; simp; omega, by simp⟩
  · obtain ⟨rfl, rfl, hm1, hm2, rfl⟩ := h5
    obtain rfl : V = ⟨cs.set k (bs.getD 0 false), hs, 5, 0, (k : Int), 0, [], bs⟩ := by rw [← hVd]; rfl
    have hle1 := hle.1
    have hle2 := hle.2
    simp [spc0, spcN] at hle1 hle2
    exact ⟨by simp, rfl, by simp, by show bs.length ≤ _; omega⟩
  · obtain ⟨rfl, rfl, hm1, hm2, rfl⟩ := h6
    obtain rfl : V = ⟨cs, hs.set k (ws.getD 0 0), 6, 0, (k : Int), 0, ws, []⟩ := by rw [← hVd]; rfl
    have hle1 := hle.1
    have hle2 := hle.2
    simp [spc0, spcN] at hle1 hle2
    exact ⟨rfl, by simp, by show ws.length ≤ _; omega, by simp⟩
  · obtain ⟨rfl, rfl, hm1, hm2, hm3, rfl⟩ := h15
    obtain rfl : V = ⟨wr cs k bs, hs, 15, 0, (k : Int), bs.length, [], []⟩ := by rw [← hVd]; rfl
    have hle1 := hle.1
    have hle2 := hle.2
    simp [spc0, spcN] at hle1 hle2
    exact ⟨wr_length cs k bs (by omega), rfl, by simp, by simp⟩
  · obtain ⟨rfl, rfl, hm2, hm1, hm3, rfl⟩ := h16
    obtain rfl : V = ⟨cs, wr hs k ws, 16, 0, (k : Int), ws.length, [], []⟩ := by rw [← hVd]; rfl
    have hle1 := hle.1
    have hle2 := hle.2
    simp [spc0, spcN] at hle1 hle2
    exact ⟨rfl, wr_length hs k ws (by omega), by simp, by simp⟩
  · obtain ⟨rfl, rfl, hm1, hm2, rfl⟩ := h22
    obtain rfl : V = ⟨cs, hs.set k (mskI (hs.getD k 0) (ws.getD 0 0) (ws.getD 1 0)), 22, 0, (k : Int), 0, ws, []⟩ := by rw [← hVd]; rfl
    have hle1 := hle.1
    have hle2 := hle.2
    simp [spc0, spcN] at hle1 hle2
    exact ⟨rfl, by simp, by show ws.length ≤ _; omega, by simp⟩
  · obtain ⟨rfl, hN1, hN2, hm2, hm1, hm3, hw1, hw2⟩ := h23
    obtain ⟨N, rfl⟩ := Int.eq_ofNat_of_zero_le (show 0 ≤ nn by omega)
    obtain ⟨j, rfl⟩ := Int.eq_ofNat_of_zero_le hw1
    obtain rfl : V = ⟨cs, wr hs j ws, 23, 0, 0, 0, ((wr hs j ws).drop k).take N, []⟩ := by rw [← hVd]; rfl
    have hle1 := hle.1
    have hle2 := hle.2
    simp [spc0, spcN] at hle1 hle2
    exact ⟨rfl, wr_length hs j ws (by omega), by show (((wr hs j ws).drop k).take N).length ≤ _; have := wr_length hs j ws (by omega); simp; omega, by simp⟩
theorem noBlk_row {u : World} {B g s n : Nat} {e t : TypeId} {v : Value} {xs : List Value} {cs : Array Value} (h : u.ownsRow B e s v n xs) (hb : Blk u g t cs) (ht : t ≠ e) : ¬ v.ownBlock = some g := by
  intro hv
  obtain ⟨_, h2⟩ := h
  rcases h2 with ⟨rfl, _⟩ | ⟨g', cap, cur, rfl, _, hh, _⟩
  · simp [Value.ownBlock] at hv
  · simp [Value.ownBlock] at hv
    subst hv
    have := hh.symm.trans hb
    simp at this
    exact ht this.2.symm
end Go.Proofs.Ytfdddkjonjpgpaa

/- Texts that the proof needs, joined: Mk11. -/
import Derived.Test.YtkfgijkkffbpmaaGreatV13
import Derived.Test.YtkfgijkkffbpmaaGreatV18
set_option linter.unusedVariables false
set_option linter.unusedSimpArgs false
set_option maxHeartbeats 8000000
set_option maxRecDepth 20000
namespace Go.Proofs.YtkfgijkkffbpmaaGreat
open Go.RowKit Go.Joins
theorem heldPostS_f (n : Nat) (f : Nat -> VS) (a : Option Addr) (n' c s : Nat) (x : Int) (w : World) (hx : x = ((s : Nat) : Int)) (h : Rd w 0 (.list 6 n (fun i => trs (xsT (nmVS (s + sumN i (fun i => ctVS (f i))) (f i))))) (.slice a n' c)) (hB : s + sumN n (fun i => ctVS (f i)) <= 1125899906842624) :
 Calls Tryz.prog 87 #[.slice a n' c, .int .i64 x] w fun e w' => e = .returned (.int .i64 ((s + sumN n (fun i => ctVS (f i)) : Nat) : Int)) /\ w' = w := by
 subst hx
 obtain ⟨a9, c9, h9, -, hm⟩ := h.shape
 simp only [Value.slice.injEq] at h9
 obtain ⟨-, rfl, -⟩ := h9
 clear a9 c9
 unfold maxLen at hm
 have HH : Hid (Rd w 0 (.list 6 n' (fun i => trs (xsT (nmVS (s + sumN i (fun i => ctVS (f i))) (f i))))) (.slice a n' c) /\ s + sumN n' (fun i => ctVS (f i)) <= 1125899906842624) := ⟨h, hB⟩
 clear h hB
 go_enter Tryz.func87, Tryz.ntmps87
 go_wp2
 go_loopw [1, 5] (fun kv i wr => ∃ z : Nat, z <= n' /\ i = .int .i64 z /\ kv = .int .i64 ((s + sumN z (fun i => ctVS (f i)) : Nat) : Int) /\ wr = w) (fun _ i _ => n' - (intOf i).toNat)
 case atStart => exact ⟨0, Nat.zero_le _, rfl, rfl, rfl⟩
 case round =>
  obtain ⟨z, hz, rfl, rfl, hw⟩ := hrel
  subst hw
  by_cases hlt : z < n'
  ·have hi : (z : Int) < (n' : Int) := by omega
   obtain ⟨kk, hkk⟩ : ∃ kk, kk = s + sumN z (fun i => ctVS (f i)) := ⟨_, rfl⟩
   rw [<- hkk]
   have HC : Hid (ctVS (f z) = 1 + 1 + ctVI (f z).d /\ ctVI (f z).d = (f z).d.co.length + (f z).d.ip.length + (f z).d.ho.length + (f z).d.wd.length /\ True) := ⟨rfl, rfl, trivial⟩
   have HK0 : Hid (kk = s + sumN z (fun i => ctVS (f i)) /\ kk + ctVS (f z) <= 1125899906842624 /\ s + sumN (z + 1) (fun i => ctVS (f i)) = kk + ctVS (f z)) := ⟨hkk, by have h7 := sumN_le (g := (fun i => ctVS (f i))) hlt; have h8 := HH.out.2; omega, by rw [hkk]; simp only [sumN]; omega⟩
   obtain ⟨b, off, vs, rfl, _, hb0, hlen, hr, hrd⟩ := HH.out.1.at hlt
   rw [<- hkk] at hrd
   obtain ⟨a1, c1, a2, c2, a3, c3, a4, c4, rfl, r1, r2, r3, r4⟩ := VS.cells hrd hlen
   have HR : Hid (wr.rangeAt b (off + z * 6) (xsL (nmVS kk (f z)) a1 ((nmVS kk (f z)).d.co.length) c1 a2 ((nmVS kk (f z)).d.ip.length) c2 a3 ((nmVS kk (f z)).d.ho.length) c3 a4 ((nmVS kk (f z)).d.wd.length) c4) /\ Rd wr 0 (boolsT (nmVS kk (f z)).d.co) (.slice a1 ((nmVS kk (f z)).d.co.length) c1) /\ Rd wr 0 (boolsT (nmVS kk (f z)).d.ip) (.slice a2 ((nmVS kk (f z)).d.ip.length) c2) /\ Rd wr 0 (intsT (nmVS kk (f z)).d.ho) (.slice a3 ((nmVS kk (f z)).d.ho.length) c3) /\ Rd wr 0 (intsT (nmVS kk (f z)).d.wd) (.slice a4 ((nmVS kk (f z)).d.wd.length) c4)) := ⟨hr, r1, r2, r3, r4⟩
   clear hlen hrd hr hb0 hkk r1 r2 r3 r4
   have d0 : wr.cell? ⟨b, off + z * 6, none⟩ = some (.int .i64 ((kk : Int))) := (HR.out.1 0 _ rfl).trans (congrArg (fun x => some (Value.int .i64 x)) (by show ((kk : Nat) : Int) = _; have := HC.out; have := HK0.out; omega))
   have v0 : IntKind.i64.wrap ((kk : Int) + 1) = (kk : Int) + 1 := by have := HC.out; have := HK0.out; rw [IntKind.wrap_i64]; omega
   have d1 : wr.cell? ⟨b, off + z * 6 + 1, none⟩ = some (.int .i64 ((kk : Int) + 1)) := (HR.out.1 1 _ rfl).trans (congrArg (fun x => some (Value.int .i64 x)) (by show ((kk + 1 : Nat) : Int) = _; have := HC.out; have := HK0.out; omega))
   have v1 : IntKind.i64.wrap ((kk : Int) + 1 + 1) = (kk : Int) + 2 := by have := HC.out; have := HK0.out; rw [IntKind.wrap_i64]; omega
   have d2 : wr.cell? ⟨b, off + z * 6 + 2, none⟩ = some (.slice a1 ((nmVS kk (f z)).d.co.length) c1) := HR.out.1 2 _ rfl
   go_wp2_with fail
   refine (heldBoolS_f (f z).d.co.length a1 _ c1 ((kk + 1 + 1)) _ _ (by have := HC.out; have := HK0.out; omega) HR.out.2.1 (by have := HC.out; have := HK0.out; omega)).mono ?_
   rintro e w9 ⟨rfl, hw⟩
   have hw := hw.symm
   subst hw
   obtain ⟨k1, hk1⟩ : ∃ k1 : Nat, k1 = (kk + 1 + 1) + (f z).d.co.length := ⟨_, rfl⟩
   rw [<- hk1]
   have HK1 : Hid (k1 = (kk + 1 + 1) + (f z).d.co.length) := hk1
   have nn1 : ¬ ((k1 : Int) < 0) := by omega
   clear hk1
   have d3 : wr.cell? ⟨b, off + z * 6 + 3, none⟩ = some (.slice a2 ((nmVS kk (f z)).d.ip.length) c2) := HR.out.1 3 _ rfl
   go_wp2_with fail
   refine (heldBoolS_f (f z).d.ip.length a2 _ c2 ((kk + 1 + 1) + (f z).d.co.length) _ _ (by have := HC.out; have := HK0.out; have := HK1.out; omega) HR.out.2.2.1 (by have := HC.out; have := HK0.out; have := HK1.out; omega)).mono ?_
   rintro e w9 ⟨rfl, hw⟩
   have hw := hw.symm
   subst hw
   obtain ⟨k2, hk2⟩ : ∃ k2 : Nat, k2 = (kk + 1 + 1) + (f z).d.co.length + (f z).d.ip.length := ⟨_, rfl⟩
   rw [<- hk2]
   have HK2 : Hid (k2 = (kk + 1 + 1) + (f z).d.co.length + (f z).d.ip.length) := hk2
   have nn2 : ¬ ((k2 : Int) < 0) := by omega
   clear hk2
   have d4 : wr.cell? ⟨b, off + z * 6 + 4, none⟩ = some (.slice a3 ((nmVS kk (f z)).d.ho.length) c3) := HR.out.1 4 _ rfl
   go_wp2_with fail
   refine (heldIntS_f (f z).d.ho.length a3 _ c3 ((kk + 1 + 1) + (f z).d.co.length + (f z).d.ip.length) _ _ (by have := HC.out; have := HK0.out; have := HK1.out; have := HK2.out; omega) HR.out.2.2.2.1 (by have := HC.out; have := HK0.out; have := HK1.out; have := HK2.out; omega)).mono ?_
   rintro e w9 ⟨rfl, hw⟩
   have hw := hw.symm
   subst hw
   obtain ⟨k3, hk3⟩ : ∃ k3 : Nat, k3 = (kk + 1 + 1) + (f z).d.co.length + (f z).d.ip.length + (f z).d.ho.length := ⟨_, rfl⟩
   rw [<- hk3]
   have HK3 : Hid (k3 = (kk + 1 + 1) + (f z).d.co.length + (f z).d.ip.length + (f z).d.ho.length) := hk3
   have nn3 : ¬ ((k3 : Int) < 0) := by omega
   clear hk3
   have d5 : wr.cell? ⟨b, off + z * 6 + 5, none⟩ = some (.slice a4 ((nmVS kk (f z)).d.wd.length) c4) := HR.out.1 5 _ rfl
   go_wp2_with fail
   refine (heldIntS_f (f z).d.wd.length a4 _ c4 ((kk + 1 + 1) + (f z).d.co.length + (f z).d.ip.length + (f z).d.ho.length) _ _ (by have := HC.out; have := HK0.out; have := HK1.out; have := HK2.out; have := HK3.out; omega) HR.out.2.2.2.2 (by have := HC.out; have := HK0.out; have := HK1.out; have := HK2.out; have := HK3.out; omega)).mono ?_
   rintro e w9 ⟨rfl, hw⟩
   have hw := hw.symm
   subst hw
   obtain ⟨k4, hk4⟩ : ∃ k4 : Nat, k4 = (kk + 1 + 1) + (f z).d.co.length + (f z).d.ip.length + (f z).d.ho.length + (f z).d.wd.length := ⟨_, rfl⟩
   rw [<- hk4]
   have HK4 : Hid (k4 = (kk + 1 + 1) + (f z).d.co.length + (f z).d.ip.length + (f z).d.ho.length + (f z).d.wd.length) := hk4
   have nn4 : ¬ ((k4 : Int) < 0) := by omega
   clear hk4
   have HZ : Hid ((k4 : Int) = ((s + sumN (z + 1) (fun i => ctVS (f i)) : Nat) : Int)) := by show _ = _; have := HC.out; have := HK0.out; have := HK1.out; have := HK2.out; have := HK3.out; have := HK4.out; omega
   go_wp2
   go_roundw
   case rel => exact ⟨z + 1, by omega, by go_num, congrArg (Value.int .i64) HZ.out, trivial⟩
   case measure => simp [intOf]; omega
  have hi : ¬ (z : Int) < (n' : Int) := by omega
  have e9 : z = n' := by omega
  subst e9
  go_wp2
  go_ret
  exact ⟨rfl, rfl⟩
theorem heldPacketS_f (n : Nat) (f : Nat -> VK) (a : Option Addr) (n' c s : Nat) (x : Int) (w : World) (hx : x = ((s : Nat) : Int)) (h : Rd w 0 (.list 16 n (fun i => trs (xkT (nmVK (s + sumN i (fun i => ctVK (f i))) (f i))))) (.slice a n' c)) (hB : s + sumN n (fun i => ctVK (f i)) <= 1125899906842624) :
 Calls Tryz.prog 88 #[.slice a n' c, .int .i64 x] w fun e w' => e = .returned (.int .i64 ((s + sumN n (fun i => ctVK (f i)) : Nat) : Int)) /\ w' = w := by
 subst hx
 obtain ⟨a9, c9, h9, -, hm⟩ := h.shape
 simp only [Value.slice.injEq] at h9
 obtain ⟨-, rfl, -⟩ := h9
 clear a9 c9
 unfold maxLen at hm
 have HH : Hid (Rd w 0 (.list 16 n' (fun i => trs (xkT (nmVK (s + sumN i (fun i => ctVK (f i))) (f i))))) (.slice a n' c) /\ s + sumN n' (fun i => ctVK (f i)) <= 1125899906842624) := ⟨h, hB⟩
 clear h hB
 go_enter Tryz.func88, Tryz.ntmps88
 go_wp2
 go_loopw [1, 5] (fun kv i wr => ∃ z : Nat, z <= n' /\ i = .int .i64 z /\ kv = .int .i64 ((s + sumN z (fun i => ctVK (f i)) : Nat) : Int) /\ wr = w) (fun _ i _ => n' - (intOf i).toNat)
 case atStart => exact ⟨0, Nat.zero_le _, rfl, rfl, rfl⟩
 case round =>
  obtain ⟨z, hz, rfl, rfl, hw⟩ := hrel
  subst hw
  by_cases hlt : z < n'
  ·have hi : (z : Int) < (n' : Int) := by omega
   obtain ⟨kk, hkk⟩ : ∃ kk, kk = s + sumN z (fun i => ctVK (f i)) := ⟨_, rfl⟩
   rw [<- hkk]
   have HC : Hid (ctVK (f z) = 1 + 1 + 1 + 1 + ctVQ (f z).q + ctVA (f z).a /\ ctVQ (f z).q = 1 + 1 + 1 + (f z).q.ws.length + (f z).q.bs.length + 1 /\ ctVA (f z).a = 1 + 1 + 1 + 1 + (f z).a.ws.length + (f z).a.bs.length /\ True) := ⟨rfl, rfl, rfl, trivial⟩
   have HK0 : Hid (kk = s + sumN z (fun i => ctVK (f i)) /\ kk + ctVK (f z) <= 1125899906842624 /\ s + sumN (z + 1) (fun i => ctVK (f i)) = kk + ctVK (f z)) := ⟨hkk, by have h7 := sumN_le (g := (fun i => ctVK (f i))) hlt; have h8 := HH.out.2; omega, by rw [hkk]; simp only [sumN]; omega⟩
   obtain ⟨b, off, vs, rfl, _, hb0, hlen, hr, hrd⟩ := HH.out.1.at hlt
   rw [<- hkk] at hrd
   obtain ⟨a1, c1, a2, c2, a3, c3, a4, c4, rfl, r1, r2, r3, r4⟩ := VK.cells hrd hlen
   have HR : Hid (wr.rangeAt b (off + z * 16) (xkL (nmVK kk (f z)) a1 ((nmVK kk (f z)).q.ws.length) c1 a2 ((nmVK kk (f z)).q.bs.length) c2 a3 ((nmVK kk (f z)).a.ws.length) c3 a4 ((nmVK kk (f z)).a.bs.length) c4) /\ Rd wr 0 (intsT (nmVK kk (f z)).q.ws) (.slice a1 ((nmVK kk (f z)).q.ws.length) c1) /\ Rd wr 0 (boolsT (nmVK kk (f z)).q.bs) (.slice a2 ((nmVK kk (f z)).q.bs.length) c2) /\ Rd wr 0 (intsT (nmVK kk (f z)).a.ws) (.slice a3 ((nmVK kk (f z)).a.ws.length) c3) /\ Rd wr 0 (boolsT (nmVK kk (f z)).a.bs) (.slice a4 ((nmVK kk (f z)).a.bs.length) c4)) := ⟨hr, r1, r2, r3, r4⟩
   clear hlen hrd hr hb0 hkk r1 r2 r3 r4
   have d0 : wr.cell? ⟨b, off + z * 16, none⟩ = some (.bool (((kk : Int)) % 3 == 0)) := (HR.out.1 0 _ rfl).trans (congrArg (fun x : Int => some (Value.bool (x % 3 == 0))) (by show ((kk : Nat) : Int) = _; have := HC.out; have := HK0.out; omega))
   have v0 : IntKind.i64.wrap ((kk : Int) + 1) = (kk : Int) + 1 := by have := HC.out; have := HK0.out; rw [IntKind.wrap_i64]; omega
   have d1 : wr.cell? ⟨b, off + z * 16 + 1, none⟩ = some (.int .i64 ((kk : Int) + 1)) := (HR.out.1 1 _ rfl).trans (congrArg (fun x => some (Value.int .i64 x)) (by show ((kk + 1 : Nat) : Int) = _; have := HC.out; have := HK0.out; omega))
   have v1 : IntKind.i64.wrap ((kk : Int) + 1 + 1) = (kk : Int) + 2 := by have := HC.out; have := HK0.out; rw [IntKind.wrap_i64]; omega
   have d2 : wr.cell? ⟨b, off + z * 16 + 2, none⟩ = some (.int .i64 ((kk : Int) + 2)) := (HR.out.1 2 _ rfl).trans (congrArg (fun x => some (Value.int .i64 x)) (by show ((kk + 1 + 1 : Nat) : Int) = _; have := HC.out; have := HK0.out; omega))
   have v2 : IntKind.i64.wrap ((kk : Int) + 2 + 1) = (kk : Int) + 3 := by have := HC.out; have := HK0.out; rw [IntKind.wrap_i64]; omega
   have d3 : wr.cell? ⟨b, off + z * 16 + 3, none⟩ = some (.int .i64 ((kk : Int) + 3)) := (HR.out.1 3 _ rfl).trans (congrArg (fun x => some (Value.int .i64 x)) (by show ((kk + 1 + 1 + 1 : Nat) : Int) = _; have := HC.out; have := HK0.out; omega))
   have v3 : IntKind.i64.wrap ((kk : Int) + 3 + 1) = (kk : Int) + 4 := by have := HC.out; have := HK0.out; rw [IntKind.wrap_i64]; omega
   have d4 : wr.cell? ⟨b, off + z * 16 + 4, none⟩ = some (.int .i64 ((kk : Int) + 4)) := (HR.out.1 4 _ rfl).trans (congrArg (fun x => some (Value.int .i64 x)) (by show (((kk + 1 + 1 + 1 + 1) : Nat) : Int) = _; have := HC.out; have := HK0.out; omega))
   have v4 : IntKind.i64.wrap ((kk : Int) + 4 + 1) = (kk : Int) + 5 := by have := HC.out; have := HK0.out; rw [IntKind.wrap_i64]; omega
   have d5 : wr.cell? ⟨b, off + z * 16 + 5, none⟩ = some (.int .i64 ((kk : Int) + 5)) := (HR.out.1 5 _ rfl).trans (congrArg (fun x => some (Value.int .i64 x)) (by show (((kk + 1 + 1 + 1 + 1) + 1 : Nat) : Int) = _; have := HC.out; have := HK0.out; omega))
   have v5 : IntKind.i64.wrap ((kk : Int) + 5 + 1) = (kk : Int) + 6 := by have := HC.out; have := HK0.out; rw [IntKind.wrap_i64]; omega
   have d6 : wr.cell? ⟨b, off + z * 16 + 6, none⟩ = some (.int .i64 ((kk : Int) + 6)) := (HR.out.1 6 _ rfl).trans (congrArg (fun x => some (Value.int .i64 x)) (by show (((kk + 1 + 1 + 1 + 1) + 1 + 1 : Nat) : Int) = _; have := HC.out; have := HK0.out; omega))
   have v6 : IntKind.i64.wrap ((kk : Int) + 6 + 1) = (kk : Int) + 7 := by have := HC.out; have := HK0.out; rw [IntKind.wrap_i64]; omega
   have d7 : wr.cell? ⟨b, off + z * 16 + 7, none⟩ = some (.slice a1 ((nmVK kk (f z)).q.ws.length) c1) := HR.out.1 7 _ rfl
   go_wp2_with fail
   refine (heldIntS_f (f z).q.ws.length a1 _ c1 ((kk + 1 + 1 + 1 + 1) + 1 + 1 + 1) _ _ (by have := HC.out; have := HK0.out; omega) HR.out.2.1 (by have := HC.out; have := HK0.out; omega)).mono ?_
   rintro e w9 ⟨rfl, hw⟩
   have hw := hw.symm
   subst hw
   obtain ⟨k1, hk1⟩ : ∃ k1 : Nat, k1 = (kk + 1 + 1 + 1 + 1) + 1 + 1 + 1 + (f z).q.ws.length := ⟨_, rfl⟩
   rw [<- hk1]
   have HK1 : Hid (k1 = (kk + 1 + 1 + 1 + 1) + 1 + 1 + 1 + (f z).q.ws.length) := hk1
   have nn1 : ¬ ((k1 : Int) < 0) := by omega
   clear hk1
   have d8 : wr.cell? ⟨b, off + z * 16 + 8, none⟩ = some (.slice a2 ((nmVK kk (f z)).q.bs.length) c2) := HR.out.1 8 _ rfl
   go_wp2_with fail
   refine (heldBoolS_f (f z).q.bs.length a2 _ c2 ((kk + 1 + 1 + 1 + 1) + 1 + 1 + 1 + (f z).q.ws.length) _ _ (by have := HC.out; have := HK0.out; have := HK1.out; omega) HR.out.2.2.1 (by have := HC.out; have := HK0.out; have := HK1.out; omega)).mono ?_
   rintro e w9 ⟨rfl, hw⟩
   have hw := hw.symm
   subst hw
   obtain ⟨k2, hk2⟩ : ∃ k2 : Nat, k2 = (kk + 1 + 1 + 1 + 1) + 1 + 1 + 1 + (f z).q.ws.length + (f z).q.bs.length := ⟨_, rfl⟩
   rw [<- hk2]
   have HK2 : Hid (k2 = (kk + 1 + 1 + 1 + 1) + 1 + 1 + 1 + (f z).q.ws.length + (f z).q.bs.length) := hk2
   have nn2 : ¬ ((k2 : Int) < 0) := by omega
   clear hk2
   have d9 : wr.cell? ⟨b, off + z * 16 + 9, none⟩ = some (.int .i64 ((k2 : Int))) := (HR.out.1 9 _ rfl).trans (congrArg (fun x => some (Value.int .i64 x)) (by show (((kk + 1 + 1 + 1 + 1) + 1 + 1 + 1 + (f z).q.ws.length + (f z).q.bs.length : Nat) : Int) = _; have := HC.out; have := HK0.out; have := HK1.out; have := HK2.out; omega))
   have v9 : IntKind.i64.wrap ((k2 : Int) + 1) = (k2 : Int) + 1 := by have := HC.out; have := HK0.out; have := HK1.out; have := HK2.out; rw [IntKind.wrap_i64]; omega
   have d10 : wr.cell? ⟨b, off + z * 16 + 10, none⟩ = some (.int .i64 ((k2 : Int) + 1)) := (HR.out.1 10 _ rfl).trans (congrArg (fun x => some (Value.int .i64 x)) (by show (((kk + 1 + 1 + 1 + 1 + ctVQ (f z).q) : Nat) : Int) = _; have := HC.out; have := HK0.out; have := HK1.out; have := HK2.out; omega))
   have v10 : IntKind.i64.wrap ((k2 : Int) + 1 + 1) = (k2 : Int) + 2 := by have := HC.out; have := HK0.out; have := HK1.out; have := HK2.out; rw [IntKind.wrap_i64]; omega
   have d11 : wr.cell? ⟨b, off + z * 16 + 11, none⟩ = some (.int .i64 ((k2 : Int) + 2)) := (HR.out.1 11 _ rfl).trans (congrArg (fun x => some (Value.int .i64 x)) (by show (((kk + 1 + 1 + 1 + 1 + ctVQ (f z).q) + 1 : Nat) : Int) = _; have := HC.out; have := HK0.out; have := HK1.out; have := HK2.out; omega))
   have v11 : IntKind.i64.wrap ((k2 : Int) + 2 + 1) = (k2 : Int) + 3 := by have := HC.out; have := HK0.out; have := HK1.out; have := HK2.out; rw [IntKind.wrap_i64]; omega
   have d12 : wr.cell? ⟨b, off + z * 16 + 12, none⟩ = some (.int .i64 ((k2 : Int) + 3)) := (HR.out.1 12 _ rfl).trans (congrArg (fun x => some (Value.int .i64 x)) (by show (((kk + 1 + 1 + 1 + 1 + ctVQ (f z).q) + 1 + 1 : Nat) : Int) = _; have := HC.out; have := HK0.out; have := HK1.out; have := HK2.out; omega))
   have v12 : IntKind.i64.wrap ((k2 : Int) + 3 + 1) = (k2 : Int) + 4 := by have := HC.out; have := HK0.out; have := HK1.out; have := HK2.out; rw [IntKind.wrap_i64]; omega
   have d13 : wr.cell? ⟨b, off + z * 16 + 13, none⟩ = some (.int .i64 ((k2 : Int) + 4)) := (HR.out.1 13 _ rfl).trans (congrArg (fun x => some (Value.int .i64 x)) (by show (((kk + 1 + 1 + 1 + 1 + ctVQ (f z).q) + 1 + 1 + 1 : Nat) : Int) = _; have := HC.out; have := HK0.out; have := HK1.out; have := HK2.out; omega))
   have v13 : IntKind.i64.wrap ((k2 : Int) + 4 + 1) = (k2 : Int) + 5 := by have := HC.out; have := HK0.out; have := HK1.out; have := HK2.out; rw [IntKind.wrap_i64]; omega
   have d14 : wr.cell? ⟨b, off + z * 16 + 14, none⟩ = some (.slice a3 ((nmVK kk (f z)).a.ws.length) c3) := HR.out.1 14 _ rfl
   go_wp2_with fail
   refine (heldIntS_f (f z).a.ws.length a3 _ c3 ((kk + 1 + 1 + 1 + 1 + ctVQ (f z).q) + 1 + 1 + 1 + 1) _ _ (by have := HC.out; have := HK0.out; have := HK1.out; have := HK2.out; omega) HR.out.2.2.2.1 (by have := HC.out; have := HK0.out; have := HK1.out; have := HK2.out; omega)).mono ?_
   rintro e w9 ⟨rfl, hw⟩
   have hw := hw.symm
   subst hw
   obtain ⟨k3, hk3⟩ : ∃ k3 : Nat, k3 = (kk + 1 + 1 + 1 + 1 + ctVQ (f z).q) + 1 + 1 + 1 + 1 + (f z).a.ws.length := ⟨_, rfl⟩
   rw [<- hk3]
   have HK3 : Hid (k3 = (kk + 1 + 1 + 1 + 1 + ctVQ (f z).q) + 1 + 1 + 1 + 1 + (f z).a.ws.length) := hk3
   have nn3 : ¬ ((k3 : Int) < 0) := by omega
   clear hk3
   have d15 : wr.cell? ⟨b, off + z * 16 + 15, none⟩ = some (.slice a4 ((nmVK kk (f z)).a.bs.length) c4) := HR.out.1 15 _ rfl
   go_wp2_with fail
   refine (heldBoolS_f (f z).a.bs.length a4 _ c4 ((kk + 1 + 1 + 1 + 1 + ctVQ (f z).q) + 1 + 1 + 1 + 1 + (f z).a.ws.length) _ _ (by have := HC.out; have := HK0.out; have := HK1.out; have := HK2.out; have := HK3.out; omega) HR.out.2.2.2.2 (by have := HC.out; have := HK0.out; have := HK1.out; have := HK2.out; have := HK3.out; omega)).mono ?_
   rintro e w9 ⟨rfl, hw⟩
   have hw := hw.symm
   subst hw
   obtain ⟨k4, hk4⟩ : ∃ k4 : Nat, k4 = (kk + 1 + 1 + 1 + 1 + ctVQ (f z).q) + 1 + 1 + 1 + 1 + (f z).a.ws.length + (f z).a.bs.length := ⟨_, rfl⟩
   rw [<- hk4]
   have HK4 : Hid (k4 = (kk + 1 + 1 + 1 + 1 + ctVQ (f z).q) + 1 + 1 + 1 + 1 + (f z).a.ws.length + (f z).a.bs.length) := hk4
   have nn4 : ¬ ((k4 : Int) < 0) := by omega
   clear hk4
   have HZ : Hid ((k4 : Int) = ((s + sumN (z + 1) (fun i => ctVK (f i)) : Nat) : Int)) := by show _ = _; have := HC.out; have := HK0.out; have := HK1.out; have := HK2.out; have := HK3.out; have := HK4.out; omega
   go_wp2
   go_roundw
   case rel => exact ⟨z + 1, by omega, by go_num, congrArg (Value.int .i64) HZ.out, trivial⟩
   case measure => simp [intOf]; omega
  have hi : ¬ (z : Int) < (n' : Int) := by omega
  have e9 : z = n' := by omega
  subst e9
  go_wp2
  go_ret
  exact ⟨rfl, rfl⟩
theorem heldReplyS_f (n : Nat) (f : Nat -> VR) (a : Option Addr) (n' c s : Nat) (x : Int) (w : World) (hx : x = ((s : Nat) : Int)) (h : Rd w 0 (.list 16 n (fun i => trs (xyT (nmVR (s + sumN i (fun i => ctVR (f i))) (f i))))) (.slice a n' c)) (hB : s + sumN n (fun i => ctVR (f i)) <= 1125899906842624) :
 Calls Tryz.prog 89 #[.slice a n' c, .int .i64 x] w fun e w' => e = .returned (.int .i64 ((s + sumN n (fun i => ctVR (f i)) : Nat) : Int)) /\ w' = w := by
 subst hx
 obtain ⟨a9, c9, h9, -, hm⟩ := h.shape
 simp only [Value.slice.injEq] at h9
 obtain ⟨-, rfl, -⟩ := h9
 clear a9 c9
 unfold maxLen at hm
 have HH : Hid (Rd w 0 (.list 16 n' (fun i => trs (xyT (nmVR (s + sumN i (fun i => ctVR (f i))) (f i))))) (.slice a n' c) /\ s + sumN n' (fun i => ctVR (f i)) <= 1125899906842624) := ⟨h, hB⟩
 clear h hB
 go_enter Tryz.func89, Tryz.ntmps89
 go_wp2
 go_loopw [1, 5] (fun kv i wr => ∃ z : Nat, z <= n' /\ i = .int .i64 z /\ kv = .int .i64 ((s + sumN z (fun i => ctVR (f i)) : Nat) : Int) /\ wr = w) (fun _ i _ => n' - (intOf i).toNat)
 case atStart => exact ⟨0, Nat.zero_le _, rfl, rfl, rfl⟩
 case round =>
  obtain ⟨z, hz, rfl, rfl, hw⟩ := hrel
  subst hw
  by_cases hlt : z < n'
  ·have hi : (z : Int) < (n' : Int) := by omega
   obtain ⟨kk, hkk⟩ : ∃ kk, kk = s + sumN z (fun i => ctVR (f i)) := ⟨_, rfl⟩
   rw [<- hkk]
   have HC : Hid (ctVR (f z) = 1 + 1 + ctVQ (f z).q + sumN (f z).np (fun i => ctVP ((f z).pt i)) + sumN (f z).nt (fun i => ctVA ((f z).tl i)) + ctVA (f z).a /\ ctVQ (f z).q = 1 + 1 + 1 + (f z).q.ws.length + (f z).q.bs.length + 1 /\ ctVA (f z).a = 1 + 1 + 1 + 1 + (f z).a.ws.length + (f z).a.bs.length /\ True) := ⟨rfl, rfl, rfl, trivial⟩
   have HK0 : Hid (kk = s + sumN z (fun i => ctVR (f i)) /\ kk + ctVR (f z) <= 1125899906842624 /\ s + sumN (z + 1) (fun i => ctVR (f i)) = kk + ctVR (f z)) := ⟨hkk, by have h7 := sumN_le (g := (fun i => ctVR (f i))) hlt; have h8 := HH.out.2; omega, by rw [hkk]; simp only [sumN]; omega⟩
   obtain ⟨b, off, vs, rfl, _, hb0, hlen, hr, hrd⟩ := HH.out.1.at hlt
   rw [<- hkk] at hrd
   obtain ⟨a1, c1, a2, c2, a3, c3, a4, c4, a5, c5, a6, c6, rfl, r1, r2, r3, r4, r5, r6⟩ := VR.cells hrd hlen
   have HR : Hid (wr.rangeAt b (off + z * 16) (xyL (nmVR kk (f z)) a1 ((nmVR kk (f z)).q.ws.length) c1 a2 ((nmVR kk (f z)).q.bs.length) c2 a3 ((nmVR kk (f z)).np) c3 a4 ((nmVR kk (f z)).nt) c4 a5 ((nmVR kk (f z)).a.ws.length) c5 a6 ((nmVR kk (f z)).a.bs.length) c6) /\ Rd wr 0 (intsT (nmVR kk (f z)).q.ws) (.slice a1 ((nmVR kk (f z)).q.ws.length) c1) /\ Rd wr 0 (boolsT (nmVR kk (f z)).q.bs) (.slice a2 ((nmVR kk (f z)).q.bs.length) c2) /\ Rd wr 0 (.list 8 (nmVR kk (f z)).np (fun i => trs (pT ((nmVR kk (f z)).pt i)))) (.slice a3 ((nmVR kk (f z)).np) c3) /\ Rd wr 0 (.list 6 (nmVR kk (f z)).nt (fun i => trs (aT ((nmVR kk (f z)).tl i)))) (.slice a4 ((nmVR kk (f z)).nt) c4) /\ Rd wr 0 (intsT (nmVR kk (f z)).a.ws) (.slice a5 ((nmVR kk (f z)).a.ws.length) c5) /\ Rd wr 0 (boolsT (nmVR kk (f z)).a.bs) (.slice a6 ((nmVR kk (f z)).a.bs.length) c6)) := ⟨hr, r1, r2, r3, r4, r5, r6⟩
   clear hlen hrd hr hb0 hkk r1 r2 r3 r4 r5 r6
   have d0 : wr.cell? ⟨b, off + z * 16, none⟩ = some (.int .i64 ((kk : Int))) := (HR.out.1 0 _ rfl).trans (congrArg (fun x => some (Value.int .i64 x)) (by show ((kk : Nat) : Int) = _; have := HC.out; have := HK0.out; omega))
   have v0 : IntKind.i64.wrap ((kk : Int) + 1) = (kk : Int) + 1 := by have := HC.out; have := HK0.out; rw [IntKind.wrap_i64]; omega
   have d1 : wr.cell? ⟨b, off + z * 16 + 1, none⟩ = some (.int .i64 ((kk : Int) + 1)) := (HR.out.1 1 _ rfl).trans (congrArg (fun x => some (Value.int .i64 x)) (by show ((kk + 1 : Nat) : Int) = _; have := HC.out; have := HK0.out; omega))
   have v1 : IntKind.i64.wrap ((kk : Int) + 1 + 1) = (kk : Int) + 2 := by have := HC.out; have := HK0.out; rw [IntKind.wrap_i64]; omega
   have d2 : wr.cell? ⟨b, off + z * 16 + 2, none⟩ = some (.int .i64 ((kk : Int) + 2)) := (HR.out.1 2 _ rfl).trans (congrArg (fun x => some (Value.int .i64 x)) (by show (((kk + 1 + 1) : Nat) : Int) = _; have := HC.out; have := HK0.out; omega))
   have v2 : IntKind.i64.wrap ((kk : Int) + 2 + 1) = (kk : Int) + 3 := by have := HC.out; have := HK0.out; rw [IntKind.wrap_i64]; omega
   have d3 : wr.cell? ⟨b, off + z * 16 + 3, none⟩ = some (.int .i64 ((kk : Int) + 3)) := (HR.out.1 3 _ rfl).trans (congrArg (fun x => some (Value.int .i64 x)) (by show (((kk + 1 + 1) + 1 : Nat) : Int) = _; have := HC.out; have := HK0.out; omega))
   have v3 : IntKind.i64.wrap ((kk : Int) + 3 + 1) = (kk : Int) + 4 := by have := HC.out; have := HK0.out; rw [IntKind.wrap_i64]; omega
   have d4 : wr.cell? ⟨b, off + z * 16 + 4, none⟩ = some (.int .i64 ((kk : Int) + 4)) := (HR.out.1 4 _ rfl).trans (congrArg (fun x => some (Value.int .i64 x)) (by show (((kk + 1 + 1) + 1 + 1 : Nat) : Int) = _; have := HC.out; have := HK0.out; omega))
   have v4 : IntKind.i64.wrap ((kk : Int) + 4 + 1) = (kk : Int) + 5 := by have := HC.out; have := HK0.out; rw [IntKind.wrap_i64]; omega
   have d5 : wr.cell? ⟨b, off + z * 16 + 5, none⟩ = some (.slice a1 ((nmVR kk (f z)).q.ws.length) c1) := HR.out.1 5 _ rfl
   go_wp2_with fail
   refine (heldIntS_f (f z).q.ws.length a1 _ c1 ((kk + 1 + 1) + 1 + 1 + 1) _ _ (by have := HC.out; have := HK0.out; omega) HR.out.2.1 (by have := HC.out; have := HK0.out; omega)).mono ?_
   rintro e w9 ⟨rfl, hw⟩
   have hw := hw.symm
   subst hw
   obtain ⟨k1, hk1⟩ : ∃ k1 : Nat, k1 = (kk + 1 + 1) + 1 + 1 + 1 + (f z).q.ws.length := ⟨_, rfl⟩
   rw [<- hk1]
   have HK1 : Hid (k1 = (kk + 1 + 1) + 1 + 1 + 1 + (f z).q.ws.length) := hk1
   have nn1 : ¬ ((k1 : Int) < 0) := by omega
   clear hk1
   have d6 : wr.cell? ⟨b, off + z * 16 + 6, none⟩ = some (.slice a2 ((nmVR kk (f z)).q.bs.length) c2) := HR.out.1 6 _ rfl
   go_wp2_with fail
   refine (heldBoolS_f (f z).q.bs.length a2 _ c2 ((kk + 1 + 1) + 1 + 1 + 1 + (f z).q.ws.length) _ _ (by have := HC.out; have := HK0.out; have := HK1.out; omega) HR.out.2.2.1 (by have := HC.out; have := HK0.out; have := HK1.out; omega)).mono ?_
   rintro e w9 ⟨rfl, hw⟩
   have hw := hw.symm
   subst hw
   obtain ⟨k2, hk2⟩ : ∃ k2 : Nat, k2 = (kk + 1 + 1) + 1 + 1 + 1 + (f z).q.ws.length + (f z).q.bs.length := ⟨_, rfl⟩
   rw [<- hk2]
   have HK2 : Hid (k2 = (kk + 1 + 1) + 1 + 1 + 1 + (f z).q.ws.length + (f z).q.bs.length) := hk2
   have nn2 : ¬ ((k2 : Int) < 0) := by omega
   clear hk2
   have d7 : wr.cell? ⟨b, off + z * 16 + 7, none⟩ = some (.int .i64 ((k2 : Int))) := (HR.out.1 7 _ rfl).trans (congrArg (fun x => some (Value.int .i64 x)) (by show (((kk + 1 + 1) + 1 + 1 + 1 + (f z).q.ws.length + (f z).q.bs.length : Nat) : Int) = _; have := HC.out; have := HK0.out; have := HK1.out; have := HK2.out; omega))
   have v7 : IntKind.i64.wrap ((k2 : Int) + 1) = (k2 : Int) + 1 := by have := HC.out; have := HK0.out; have := HK1.out; have := HK2.out; rw [IntKind.wrap_i64]; omega
   have d8 : wr.cell? ⟨b, off + z * 16 + 8, none⟩ = some (.slice a3 ((nmVR kk (f z)).np) c3) := HR.out.1 8 _ rfl
   go_wp2_with fail
   refine (heldPartS_f (f z).np (f z).pt a3 _ c3 (kk + 1 + 1 + ctVQ (f z).q) _ _ (by have := HC.out; have := HK0.out; have := HK1.out; have := HK2.out; omega) HR.out.2.2.2.1 (by have := HC.out; have := HK0.out; have := HK1.out; have := HK2.out; omega)).mono ?_
   rintro e w9 ⟨rfl, hw⟩
   have hw := hw.symm
   subst hw
   obtain ⟨k3, hk3⟩ : ∃ k3 : Nat, k3 = kk + 1 + 1 + ctVQ (f z).q + sumN (f z).np (fun i => ctVP ((f z).pt i)) := ⟨_, rfl⟩
   rw [<- hk3]
   have HK3 : Hid (k3 = kk + 1 + 1 + ctVQ (f z).q + sumN (f z).np (fun i => ctVP ((f z).pt i))) := hk3
   have nn3 : ¬ ((k3 : Int) < 0) := by omega
   clear hk3
   have d9 : wr.cell? ⟨b, off + z * 16 + 9, none⟩ = some (.slice a4 ((nmVR kk (f z)).nt) c4) := HR.out.1 9 _ rfl
   go_wp2_with fail
   refine (heldRespS_f (f z).nt (f z).tl a4 _ c4 (kk + 1 + 1 + ctVQ (f z).q + sumN (f z).np (fun i => ctVP ((f z).pt i))) _ _ (by have := HC.out; have := HK0.out; have := HK1.out; have := HK2.out; have := HK3.out; omega) HR.out.2.2.2.2.1 (by have := HC.out; have := HK0.out; have := HK1.out; have := HK2.out; have := HK3.out; omega)).mono ?_
   rintro e w9 ⟨rfl, hw⟩
   have hw := hw.symm
   subst hw
   obtain ⟨k4, hk4⟩ : ∃ k4 : Nat, k4 = kk + 1 + 1 + ctVQ (f z).q + sumN (f z).np (fun i => ctVP ((f z).pt i)) + sumN (f z).nt (fun i => ctVA ((f z).tl i)) := ⟨_, rfl⟩
   rw [<- hk4]
   have HK4 : Hid (k4 = kk + 1 + 1 + ctVQ (f z).q + sumN (f z).np (fun i => ctVP ((f z).pt i)) + sumN (f z).nt (fun i => ctVA ((f z).tl i))) := hk4
   have nn4 : ¬ ((k4 : Int) < 0) := by omega
   clear hk4
   have d10 : wr.cell? ⟨b, off + z * 16 + 10, none⟩ = some (.int .i64 ((k4 : Int))) := (HR.out.1 10 _ rfl).trans (congrArg (fun x => some (Value.int .i64 x)) (by show (((kk + 1 + 1 + ctVQ (f z).q + sumN (f z).np (fun i => ctVP ((f z).pt i)) + sumN (f z).nt (fun i => ctVA ((f z).tl i))) : Nat) : Int) = _; have := HC.out; have := HK0.out; have := HK1.out; have := HK2.out; have := HK3.out; have := HK4.out; omega))
   have v10 : IntKind.i64.wrap ((k4 : Int) + 1) = (k4 : Int) + 1 := by have := HC.out; have := HK0.out; have := HK1.out; have := HK2.out; have := HK3.out; have := HK4.out; rw [IntKind.wrap_i64]; omega
   have d11 : wr.cell? ⟨b, off + z * 16 + 11, none⟩ = some (.int .i64 ((k4 : Int) + 1)) := (HR.out.1 11 _ rfl).trans (congrArg (fun x => some (Value.int .i64 x)) (by show (((kk + 1 + 1 + ctVQ (f z).q + sumN (f z).np (fun i => ctVP ((f z).pt i)) + sumN (f z).nt (fun i => ctVA ((f z).tl i))) + 1 : Nat) : Int) = _; have := HC.out; have := HK0.out; have := HK1.out; have := HK2.out; have := HK3.out; have := HK4.out; omega))
   have v11 : IntKind.i64.wrap ((k4 : Int) + 1 + 1) = (k4 : Int) + 2 := by have := HC.out; have := HK0.out; have := HK1.out; have := HK2.out; have := HK3.out; have := HK4.out; rw [IntKind.wrap_i64]; omega
   have d12 : wr.cell? ⟨b, off + z * 16 + 12, none⟩ = some (.int .i64 ((k4 : Int) + 2)) := (HR.out.1 12 _ rfl).trans (congrArg (fun x => some (Value.int .i64 x)) (by show (((kk + 1 + 1 + ctVQ (f z).q + sumN (f z).np (fun i => ctVP ((f z).pt i)) + sumN (f z).nt (fun i => ctVA ((f z).tl i))) + 1 + 1 : Nat) : Int) = _; have := HC.out; have := HK0.out; have := HK1.out; have := HK2.out; have := HK3.out; have := HK4.out; omega))
   have v12 : IntKind.i64.wrap ((k4 : Int) + 2 + 1) = (k4 : Int) + 3 := by have := HC.out; have := HK0.out; have := HK1.out; have := HK2.out; have := HK3.out; have := HK4.out; rw [IntKind.wrap_i64]; omega
   have d13 : wr.cell? ⟨b, off + z * 16 + 13, none⟩ = some (.int .i64 ((k4 : Int) + 3)) := (HR.out.1 13 _ rfl).trans (congrArg (fun x => some (Value.int .i64 x)) (by show (((kk + 1 + 1 + ctVQ (f z).q + sumN (f z).np (fun i => ctVP ((f z).pt i)) + sumN (f z).nt (fun i => ctVA ((f z).tl i))) + 1 + 1 + 1 : Nat) : Int) = _; have := HC.out; have := HK0.out; have := HK1.out; have := HK2.out; have := HK3.out; have := HK4.out; omega))
   have v13 : IntKind.i64.wrap ((k4 : Int) + 3 + 1) = (k4 : Int) + 4 := by have := HC.out; have := HK0.out; have := HK1.out; have := HK2.out; have := HK3.out; have := HK4.out; rw [IntKind.wrap_i64]; omega
   have d14 : wr.cell? ⟨b, off + z * 16 + 14, none⟩ = some (.slice a5 ((nmVR kk (f z)).a.ws.length) c5) := HR.out.1 14 _ rfl
   go_wp2_with fail
   refine (heldIntS_f (f z).a.ws.length a5 _ c5 ((kk + 1 + 1 + ctVQ (f z).q + sumN (f z).np (fun i => ctVP ((f z).pt i)) + sumN (f z).nt (fun i => ctVA ((f z).tl i))) + 1 + 1 + 1 + 1) _ _ (by have := HC.out; have := HK0.out; have := HK1.out; have := HK2.out; have := HK3.out; have := HK4.out; omega) HR.out.2.2.2.2.2.1 (by have := HC.out; have := HK0.out; have := HK1.out; have := HK2.out; have := HK3.out; have := HK4.out; omega)).mono ?_
   rintro e w9 ⟨rfl, hw⟩
   have hw := hw.symm
   subst hw
   obtain ⟨k5, hk5⟩ : ∃ k5 : Nat, k5 = (kk + 1 + 1 + ctVQ (f z).q + sumN (f z).np (fun i => ctVP ((f z).pt i)) + sumN (f z).nt (fun i => ctVA ((f z).tl i))) + 1 + 1 + 1 + 1 + (f z).a.ws.length := ⟨_, rfl⟩
   rw [<- hk5]
   have HK5 : Hid (k5 = (kk + 1 + 1 + ctVQ (f z).q + sumN (f z).np (fun i => ctVP ((f z).pt i)) + sumN (f z).nt (fun i => ctVA ((f z).tl i))) + 1 + 1 + 1 + 1 + (f z).a.ws.length) := hk5
   have nn5 : ¬ ((k5 : Int) < 0) := by omega
   clear hk5
   have d15 : wr.cell? ⟨b, off + z * 16 + 15, none⟩ = some (.slice a6 ((nmVR kk (f z)).a.bs.length) c6) := HR.out.1 15 _ rfl
   go_wp2_with fail
   refine (heldBoolS_f (f z).a.bs.length a6 _ c6 ((kk + 1 + 1 + ctVQ (f z).q + sumN (f z).np (fun i => ctVP ((f z).pt i)) + sumN (f z).nt (fun i => ctVA ((f z).tl i))) + 1 + 1 + 1 + 1 + (f z).a.ws.length) _ _ (by have := HC.out; have := HK0.out; have := HK1.out; have := HK2.out; have := HK3.out; have := HK4.out; have := HK5.out; omega) HR.out.2.2.2.2.2.2 (by have := HC.out; have := HK0.out; have := HK1.out; have := HK2.out; have := HK3.out; have := HK4.out; have := HK5.out; omega)).mono ?_
   rintro e w9 ⟨rfl, hw⟩
   have hw := hw.symm
   subst hw
   obtain ⟨k6, hk6⟩ : ∃ k6 : Nat, k6 = (kk + 1 + 1 + ctVQ (f z).q + sumN (f z).np (fun i => ctVP ((f z).pt i)) + sumN (f z).nt (fun i => ctVA ((f z).tl i))) + 1 + 1 + 1 + 1 + (f z).a.ws.length + (f z).a.bs.length := ⟨_, rfl⟩
   rw [<- hk6]
   have HK6 : Hid (k6 = (kk + 1 + 1 + ctVQ (f z).q + sumN (f z).np (fun i => ctVP ((f z).pt i)) + sumN (f z).nt (fun i => ctVA ((f z).tl i))) + 1 + 1 + 1 + 1 + (f z).a.ws.length + (f z).a.bs.length) := hk6
   have nn6 : ¬ ((k6 : Int) < 0) := by omega
   clear hk6
   have HZ : Hid ((k6 : Int) = ((s + sumN (z + 1) (fun i => ctVR (f i)) : Nat) : Int)) := by show _ = _; have := HC.out; have := HK0.out; have := HK1.out; have := HK2.out; have := HK3.out; have := HK4.out; have := HK5.out; have := HK6.out; omega
   go_wp2
   go_roundw
   case rel => exact ⟨z + 1, by omega, by go_num, congrArg (Value.int .i64) HZ.out, trivial⟩
   case measure => simp [intOf]; omega
  have hi : ¬ (z : Int) < (n' : Int) := by omega
  have e9 : z = n' := by omega
  subst e9
  go_wp2
  go_ret
  exact ⟨rfl, rfl⟩
theorem heldServedS_f (n : Nat) (f : Nat -> VE) (a : Option Addr) (n' c s : Nat) (x : Int) (w : World) (hx : x = ((s : Nat) : Int)) (h : Rd w 0 (.list 15 n (fun i => trs (xeT (nmVE (s + sumN i (fun i => ctVE (f i))) (f i))))) (.slice a n' c)) (hB : s + sumN n (fun i => ctVE (f i)) <= 1125899906842624) :
 Calls Tryz.prog 90 #[.slice a n' c, .int .i64 x] w fun e w' => e = .returned (.int .i64 ((s + sumN n (fun i => ctVE (f i)) : Nat) : Int)) /\ w' = w := by
 subst hx
 obtain ⟨a9, c9, h9, -, hm⟩ := h.shape
 simp only [Value.slice.injEq] at h9
 obtain ⟨-, rfl, -⟩ := h9
 clear a9 c9
 unfold maxLen at hm
 have HH : Hid (Rd w 0 (.list 15 n' (fun i => trs (xeT (nmVE (s + sumN i (fun i => ctVE (f i))) (f i))))) (.slice a n' c) /\ s + sumN n' (fun i => ctVE (f i)) <= 1125899906842624) := ⟨h, hB⟩
 clear h hB
 go_enter Tryz.func90, Tryz.ntmps90
 go_wp2
 go_loopw [1, 5] (fun kv i wr => ∃ z : Nat, z <= n' /\ i = .int .i64 z /\ kv = .int .i64 ((s + sumN z (fun i => ctVE (f i)) : Nat) : Int) /\ wr = w) (fun _ i _ => n' - (intOf i).toNat)
 case atStart => exact ⟨0, Nat.zero_le _, rfl, rfl, rfl⟩
 case round =>
  obtain ⟨z, hz, rfl, rfl, hw⟩ := hrel
  subst hw
  by_cases hlt : z < n'
  ·have hi : (z : Int) < (n' : Int) := by omega
   obtain ⟨kk, hkk⟩ : ∃ kk, kk = s + sumN z (fun i => ctVE (f i)) := ⟨_, rfl⟩
   rw [<- hkk]
   have HC : Hid (ctVE (f z) = 1 + 1 + 1 + ctVQ (f z).q + ctVA (f z).a /\ ctVQ (f z).q = 1 + 1 + 1 + (f z).q.ws.length + (f z).q.bs.length + 1 /\ ctVA (f z).a = 1 + 1 + 1 + 1 + (f z).a.ws.length + (f z).a.bs.length /\ True) := ⟨rfl, rfl, rfl, trivial⟩
   have HK0 : Hid (kk = s + sumN z (fun i => ctVE (f i)) /\ kk + ctVE (f z) <= 1125899906842624 /\ s + sumN (z + 1) (fun i => ctVE (f i)) = kk + ctVE (f z)) := ⟨hkk, by have h7 := sumN_le (g := (fun i => ctVE (f i))) hlt; have h8 := HH.out.2; omega, by rw [hkk]; simp only [sumN]; omega⟩
   obtain ⟨b, off, vs, rfl, _, hb0, hlen, hr, hrd⟩ := HH.out.1.at hlt
   rw [<- hkk] at hrd
   obtain ⟨a1, c1, a2, c2, a3, c3, a4, c4, rfl, r1, r2, r3, r4⟩ := VE.cells hrd hlen
   have HR : Hid (wr.rangeAt b (off + z * 15) (xeL (nmVE kk (f z)) a1 ((nmVE kk (f z)).q.ws.length) c1 a2 ((nmVE kk (f z)).q.bs.length) c2 a3 ((nmVE kk (f z)).a.ws.length) c3 a4 ((nmVE kk (f z)).a.bs.length) c4) /\ Rd wr 0 (intsT (nmVE kk (f z)).q.ws) (.slice a1 ((nmVE kk (f z)).q.ws.length) c1) /\ Rd wr 0 (boolsT (nmVE kk (f z)).q.bs) (.slice a2 ((nmVE kk (f z)).q.bs.length) c2) /\ Rd wr 0 (intsT (nmVE kk (f z)).a.ws) (.slice a3 ((nmVE kk (f z)).a.ws.length) c3) /\ Rd wr 0 (boolsT (nmVE kk (f z)).a.bs) (.slice a4 ((nmVE kk (f z)).a.bs.length) c4)) := ⟨hr, r1, r2, r3, r4⟩
   clear hlen hrd hr hb0 hkk r1 r2 r3 r4
   have d0 : wr.cell? ⟨b, off + z * 15, none⟩ = some (.int .i64 ((kk : Int))) := (HR.out.1 0 _ rfl).trans (congrArg (fun x => some (Value.int .i64 x)) (by show ((kk : Nat) : Int) = _; have := HC.out; have := HK0.out; omega))
   have v0 : IntKind.i64.wrap ((kk : Int) + 1) = (kk : Int) + 1 := by have := HC.out; have := HK0.out; rw [IntKind.wrap_i64]; omega
   have d1 : wr.cell? ⟨b, off + z * 15 + 1, none⟩ = some (.int .i64 ((kk : Int) + 1)) := (HR.out.1 1 _ rfl).trans (congrArg (fun x => some (Value.int .i64 x)) (by show ((kk + 1 : Nat) : Int) = _; have := HC.out; have := HK0.out; omega))
   have v1 : IntKind.i64.wrap ((kk : Int) + 1 + 1) = (kk : Int) + 2 := by have := HC.out; have := HK0.out; rw [IntKind.wrap_i64]; omega
   have d2 : wr.cell? ⟨b, off + z * 15 + 2, none⟩ = some (.int .i64 ((kk : Int) + 2)) := (HR.out.1 2 _ rfl).trans (congrArg (fun x => some (Value.int .i64 x)) (by show ((kk + 1 + 1 : Nat) : Int) = _; have := HC.out; have := HK0.out; omega))
   have v2 : IntKind.i64.wrap ((kk : Int) + 2 + 1) = (kk : Int) + 3 := by have := HC.out; have := HK0.out; rw [IntKind.wrap_i64]; omega
   have d3 : wr.cell? ⟨b, off + z * 15 + 3, none⟩ = some (.int .i64 ((kk : Int) + 3)) := (HR.out.1 3 _ rfl).trans (congrArg (fun x => some (Value.int .i64 x)) (by show (((kk + 1 + 1 + 1) : Nat) : Int) = _; have := HC.out; have := HK0.out; omega))
   have v3 : IntKind.i64.wrap ((kk : Int) + 3 + 1) = (kk : Int) + 4 := by have := HC.out; have := HK0.out; rw [IntKind.wrap_i64]; omega
   have d4 : wr.cell? ⟨b, off + z * 15 + 4, none⟩ = some (.int .i64 ((kk : Int) + 4)) := (HR.out.1 4 _ rfl).trans (congrArg (fun x => some (Value.int .i64 x)) (by show (((kk + 1 + 1 + 1) + 1 : Nat) : Int) = _; have := HC.out; have := HK0.out; omega))
   have v4 : IntKind.i64.wrap ((kk : Int) + 4 + 1) = (kk : Int) + 5 := by have := HC.out; have := HK0.out; rw [IntKind.wrap_i64]; omega
   have d5 : wr.cell? ⟨b, off + z * 15 + 5, none⟩ = some (.int .i64 ((kk : Int) + 5)) := (HR.out.1 5 _ rfl).trans (congrArg (fun x => some (Value.int .i64 x)) (by show (((kk + 1 + 1 + 1) + 1 + 1 : Nat) : Int) = _; have := HC.out; have := HK0.out; omega))
   have v5 : IntKind.i64.wrap ((kk : Int) + 5 + 1) = (kk : Int) + 6 := by have := HC.out; have := HK0.out; rw [IntKind.wrap_i64]; omega
   have d6 : wr.cell? ⟨b, off + z * 15 + 6, none⟩ = some (.slice a1 ((nmVE kk (f z)).q.ws.length) c1) := HR.out.1 6 _ rfl
   go_wp2_with fail
   refine (heldIntS_f (f z).q.ws.length a1 _ c1 ((kk + 1 + 1 + 1) + 1 + 1 + 1) _ _ (by have := HC.out; have := HK0.out; omega) HR.out.2.1 (by have := HC.out; have := HK0.out; omega)).mono ?_
   rintro e w9 ⟨rfl, hw⟩
   have hw := hw.symm
   subst hw
   obtain ⟨k1, hk1⟩ : ∃ k1 : Nat, k1 = (kk + 1 + 1 + 1) + 1 + 1 + 1 + (f z).q.ws.length := ⟨_, rfl⟩
   rw [<- hk1]
   have HK1 : Hid (k1 = (kk + 1 + 1 + 1) + 1 + 1 + 1 + (f z).q.ws.length) := hk1
   have nn1 : ¬ ((k1 : Int) < 0) := by omega
   clear hk1
   have d7 : wr.cell? ⟨b, off + z * 15 + 7, none⟩ = some (.slice a2 ((nmVE kk (f z)).q.bs.length) c2) := HR.out.1 7 _ rfl
   go_wp2_with fail
   refine (heldBoolS_f (f z).q.bs.length a2 _ c2 ((kk + 1 + 1 + 1) + 1 + 1 + 1 + (f z).q.ws.length) _ _ (by have := HC.out; have := HK0.out; have := HK1.out; omega) HR.out.2.2.1 (by have := HC.out; have := HK0.out; have := HK1.out; omega)).mono ?_
   rintro e w9 ⟨rfl, hw⟩
   have hw := hw.symm
   subst hw
   obtain ⟨k2, hk2⟩ : ∃ k2 : Nat, k2 = (kk + 1 + 1 + 1) + 1 + 1 + 1 + (f z).q.ws.length + (f z).q.bs.length := ⟨_, rfl⟩
   rw [<- hk2]
   have HK2 : Hid (k2 = (kk + 1 + 1 + 1) + 1 + 1 + 1 + (f z).q.ws.length + (f z).q.bs.length) := hk2
   have nn2 : ¬ ((k2 : Int) < 0) := by omega
   clear hk2
   have d8 : wr.cell? ⟨b, off + z * 15 + 8, none⟩ = some (.int .i64 ((k2 : Int))) := (HR.out.1 8 _ rfl).trans (congrArg (fun x => some (Value.int .i64 x)) (by show (((kk + 1 + 1 + 1) + 1 + 1 + 1 + (f z).q.ws.length + (f z).q.bs.length : Nat) : Int) = _; have := HC.out; have := HK0.out; have := HK1.out; have := HK2.out; omega))
   have v8 : IntKind.i64.wrap ((k2 : Int) + 1) = (k2 : Int) + 1 := by have := HC.out; have := HK0.out; have := HK1.out; have := HK2.out; rw [IntKind.wrap_i64]; omega
   have d9 : wr.cell? ⟨b, off + z * 15 + 9, none⟩ = some (.int .i64 ((k2 : Int) + 1)) := (HR.out.1 9 _ rfl).trans (congrArg (fun x => some (Value.int .i64 x)) (by show (((kk + 1 + 1 + 1 + ctVQ (f z).q) : Nat) : Int) = _; have := HC.out; have := HK0.out; have := HK1.out; have := HK2.out; omega))
   have v9 : IntKind.i64.wrap ((k2 : Int) + 1 + 1) = (k2 : Int) + 2 := by have := HC.out; have := HK0.out; have := HK1.out; have := HK2.out; rw [IntKind.wrap_i64]; omega
   have d10 : wr.cell? ⟨b, off + z * 15 + 10, none⟩ = some (.int .i64 ((k2 : Int) + 2)) := (HR.out.1 10 _ rfl).trans (congrArg (fun x => some (Value.int .i64 x)) (by show (((kk + 1 + 1 + 1 + ctVQ (f z).q) + 1 : Nat) : Int) = _; have := HC.out; have := HK0.out; have := HK1.out; have := HK2.out; omega))
   have v10 : IntKind.i64.wrap ((k2 : Int) + 2 + 1) = (k2 : Int) + 3 := by have := HC.out; have := HK0.out; have := HK1.out; have := HK2.out; rw [IntKind.wrap_i64]; omega
   have d11 : wr.cell? ⟨b, off + z * 15 + 11, none⟩ = some (.int .i64 ((k2 : Int) + 3)) := (HR.out.1 11 _ rfl).trans (congrArg (fun x => some (Value.int .i64 x)) (by show (((kk + 1 + 1 + 1 + ctVQ (f z).q) + 1 + 1 : Nat) : Int) = _; have := HC.out; have := HK0.out; have := HK1.out; have := HK2.out; omega))
   have v11 : IntKind.i64.wrap ((k2 : Int) + 3 + 1) = (k2 : Int) + 4 := by have := HC.out; have := HK0.out; have := HK1.out; have := HK2.out; rw [IntKind.wrap_i64]; omega
   have d12 : wr.cell? ⟨b, off + z * 15 + 12, none⟩ = some (.int .i64 ((k2 : Int) + 4)) := (HR.out.1 12 _ rfl).trans (congrArg (fun x => some (Value.int .i64 x)) (by show (((kk + 1 + 1 + 1 + ctVQ (f z).q) + 1 + 1 + 1 : Nat) : Int) = _; have := HC.out; have := HK0.out; have := HK1.out; have := HK2.out; omega))
   have v12 : IntKind.i64.wrap ((k2 : Int) + 4 + 1) = (k2 : Int) + 5 := by have := HC.out; have := HK0.out; have := HK1.out; have := HK2.out; rw [IntKind.wrap_i64]; omega
   have d13 : wr.cell? ⟨b, off + z * 15 + 13, none⟩ = some (.slice a3 ((nmVE kk (f z)).a.ws.length) c3) := HR.out.1 13 _ rfl
   go_wp2_with fail
   refine (heldIntS_f (f z).a.ws.length a3 _ c3 ((kk + 1 + 1 + 1 + ctVQ (f z).q) + 1 + 1 + 1 + 1) _ _ (by have := HC.out; have := HK0.out; have := HK1.out; have := HK2.out; omega) HR.out.2.2.2.1 (by have := HC.out; have := HK0.out; have := HK1.out; have := HK2.out; omega)).mono ?_
   rintro e w9 ⟨rfl, hw⟩
   have hw := hw.symm
   subst hw
   obtain ⟨k3, hk3⟩ : ∃ k3 : Nat, k3 = (kk + 1 + 1 + 1 + ctVQ (f z).q) + 1 + 1 + 1 + 1 + (f z).a.ws.length := ⟨_, rfl⟩
   rw [<- hk3]
   have HK3 : Hid (k3 = (kk + 1 + 1 + 1 + ctVQ (f z).q) + 1 + 1 + 1 + 1 + (f z).a.ws.length) := hk3
   have nn3 : ¬ ((k3 : Int) < 0) := by omega
   clear hk3
   have d14 : wr.cell? ⟨b, off + z * 15 + 14, none⟩ = some (.slice a4 ((nmVE kk (f z)).a.bs.length) c4) := HR.out.1 14 _ rfl
   go_wp2_with fail
   refine (heldBoolS_f (f z).a.bs.length a4 _ c4 ((kk + 1 + 1 + 1 + ctVQ (f z).q) + 1 + 1 + 1 + 1 + (f z).a.ws.length) _ _ (by have := HC.out; have := HK0.out; have := HK1.out; have := HK2.out; have := HK3.out; omega) HR.out.2.2.2.2 (by have := HC.out; have := HK0.out; have := HK1.out; have := HK2.out; have := HK3.out; omega)).mono ?_
   rintro e w9 ⟨rfl, hw⟩
   have hw := hw.symm
   subst hw
   obtain ⟨k4, hk4⟩ : ∃ k4 : Nat, k4 = (kk + 1 + 1 + 1 + ctVQ (f z).q) + 1 + 1 + 1 + 1 + (f z).a.ws.length + (f z).a.bs.length := ⟨_, rfl⟩
   rw [<- hk4]
   have HK4 : Hid (k4 = (kk + 1 + 1 + 1 + ctVQ (f z).q) + 1 + 1 + 1 + 1 + (f z).a.ws.length + (f z).a.bs.length) := hk4
   have nn4 : ¬ ((k4 : Int) < 0) := by omega
   clear hk4
   have HZ : Hid ((k4 : Int) = ((s + sumN (z + 1) (fun i => ctVE (f i)) : Nat) : Int)) := by show _ = _; have := HC.out; have := HK0.out; have := HK1.out; have := HK2.out; have := HK3.out; have := HK4.out; omega
   go_wp2
   go_roundw
   case rel => exact ⟨z + 1, by omega, by go_num, congrArg (Value.int .i64) HZ.out, trivial⟩
   case measure => simp [intOf]; omega
  have hi : ¬ (z : Int) < (n' : Int) := by omega
  have e9 : z = n' := by omega
  subst e9
  go_wp2
  go_ret
  exact ⟨rfl, rfl⟩
end Go.Proofs.YtkfgijkkffbpmaaGreat

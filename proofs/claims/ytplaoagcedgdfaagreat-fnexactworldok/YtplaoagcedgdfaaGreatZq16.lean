/- Parts of the proof. -/
import Derived.Test.YtplaoagcedgdfaaGreatZq11
import Derived.Test.YtplaoagcedgdfaaGreatZq1
import Derived.Test.YtplaoagcedgdfaaGreatZq14
import Derived.Test.YtplaoagcedgdfaaGreatZq10
import Derived.Test.YtplaoagcedgdfaaGreatZq12
import Derived.Test.YtplaoagcedgdfaaGreatZq6
set_option linter.unusedVariables false
set_option linter.unusedSimpArgs false
set_option maxHeartbeats 8000000
set_option maxRecDepth 20000
namespace Go.Proofs.YtplaoagcedgdfaaGreat
open Go.RowKit Go.Joins Go.Proofs.Tryz
theorem lx (n : Nat) (f : Nat -> VS) (a : Option Addr) (c : Nat) (w : World) (hs : Rd w 0 (.list 6 n (fun i => aa (bn (f i)))) (.slice a n c)) (hn : n <= 2000000) (hz : ∀ k, k < n -> ao 4 (aa (eu (f k).d)) <= 1048576) :
 Calls prog 66 #[.slice a n c] w fun e w' => e = .returned (.bool (eB n f)) /\ Below w.heap.size w w' := by
 have HE : Hid (Rd w 0 (.list 6 n (fun i => aa (bn (f i)))) (.slice a n c) /\ ∀ k, k < n -> ao 4 (aa (eu (f k).d)) <= 1048576) := ⟨hs, hz⟩
 clear hs hz
 go_enter func66, ntmps66
 go_wp2
 go_loopw [3] (fun i wr => ∃ k : Nat, k <= n /\ i = .int .i64 k /\ bO (cU f) k = true /\ Below w.heap.size w wr) (fun i _ => n - (intOf i).toNat)
 case atStart => exact ⟨0, Nat.zero_le _, rfl, rfl, Below.refl _ _⟩
 case round =>
  obtain ⟨k, hk, rfl, hall, hbl⟩ := hrel
  by_cases hlt : k < n
  ·have hi : (k : Int) < (n : Int) := by omega
   obtain ⟨b, off, vs, rfl, _, hb0, hlen, hr, hrd⟩ := (HE.out.1.below hbl).at hlt
   obtain ⟨a1, c1, a2, c2, a3, c3, a4, c4, rfl, r1, r2, r3, r4⟩ := VS.cells hrd hlen
   have d0 : wr.cell? ⟨b, off + k * 6, none⟩ = _ := hr 0 _ rfl
   have d1 := hr 1 _ rfl
   have d2 := hr 2 _ rfl
   have d3 := hr 3 _ rfl
   have d4 := hr 4 _ rfl
   have d5 := hr 5 _ rfl
   obtain ⟨x0, hx0⟩ : ∃ x, aw (f k).po 0 5 = x := ⟨_, rfl⟩
   obtain ⟨x1, hx1⟩ : ∃ x, aw (f k).un 1 247 = x := ⟨_, rfl⟩
   obtain ⟨x2, hx2⟩ : ∃ x, gT (f k).d = x := ⟨_, rfl⟩
   have HX : Hid (aw (f k).po 0 5 = x0 /\ aw (f k).un 1 247 = x1 /\ gT (f k).d = x2) := ⟨hx0, hx1, hx2⟩
   have HA : Hid (bO (cU f) k = true /\ Below w.heap.size w wr /\ cU f k = ((x0 && x1) && (x2 && bO (fun j => !fB (f j) (f k)) k))) := ⟨hall, hbl, by unfold cU tC; rw [hx0, hx1, hx2]⟩
   have HR : Hid (Rd wr 0 (af (f k).d.co) (.slice a1 (f k).d.co.length c1) /\ Rd wr 0 (af (f k).d.ip) (.slice a2 (f k).d.ip.length c2) /\ Rd wr 0 (ah (f k).d.ho) (.slice a3 (f k).d.ho.length c3) /\ Rd wr 0 (ah (f k).d.wd) (.slice a4 (f k).d.wd.length c4) /\ ao 4 (aa (eu (f k).d)) <= 1048576) := ⟨r1, r2, r3, r4, HE.out.2 k hlt⟩
   clear hall hbl r1 r2 r3 r4 hlen hrd hr hx0 hx1 hx2 hb0
   go_wp2_with fail
   refine (aE _ _ _ _ _ HX.out.1).mono ?_
   rintro e w1 ⟨rfl, hw⟩
   have hw := hw.symm
   subst hw
   cases x0
   case false =>
    have B9 : Hid (bO (cU f) n = false /\ Below w.heap.size w wr) := ⟨er hlt (by rw [HA.out.2.2]; rfl), HA.out.2.1⟩
    go_wp2
    go_ret
    exact ⟨by unfold eB; rw [B9.out.1, Bool.and_false]; rfl, B9.out.2⟩
   go_wp2_with fail
   refine (aE _ _ _ _ _ HX.out.2.1).mono ?_
   rintro e w1 ⟨rfl, hw⟩
   have hw := hw.symm
   subst hw
   cases x1
   case false =>
    have B9 : Hid (bO (cU f) n = false /\ Below w.heap.size w wr) := ⟨er hlt (by rw [HA.out.2.2]; rfl), HA.out.2.1⟩
    go_wp2
    go_ret
    exact ⟨by unfold eB; rw [B9.out.1, Bool.and_false]; rfl, B9.out.2⟩
   go_wp2_with fail
   refine (rF (f k).d a1 _ c1 a2 _ c2 a3 _ c3 a4 _ c4 _ HR.out.1 HR.out.2.1 HR.out.2.2.1 HR.out.2.2.2.1 HR.out.2.2.2.2).mono ?_
   rintro e w1 ⟨rfl, b1⟩
   rw [HX.out.2.2]
   have B1 : Hid (Below w.heap.size w w1) := ae HA.out.2.1 b1
   clear b1 d0 d1 d2 d3 d4 d5
   cases x2
   case false =>
    have B9 : Hid (bO (cU f) n = false /\ Below w.heap.size w w1) := ⟨er hlt (by rw [HA.out.2.2]; rfl), B1.out⟩
    go_wp2
    go_ret
    exact ⟨by unfold eB; rw [B9.out.1, Bool.and_false]; rfl, B9.out.2⟩
   go_wp2
   go_loopw [4] (fun i wr => ∃ j : Nat, j <= k /\ i = .int .i64 j /\ bO (fun j => !fB (f j) (f k)) j = true /\ Below w.heap.size w wr) (fun i _ => k - (intOf i).toNat)
   case atStart => exact ⟨0, Nat.zero_le _, rfl, rfl, B1.out⟩
   case round =>
    obtain ⟨j, hj, rfl, hjall, hjb⟩ := hrel
    by_cases hjk : j < k
    ·have hji : (j : Int) < (k : Int) := by omega
     have hjn : (j : Int) < (n : Int) := by omega
     obtain ⟨b', off', vs', he', _, hb0, hlen, hr, hrd⟩ := (HE.out.1.below hjb).at hlt
     obtain ⟨_, _, _, _, _, _, _, _, rfl, _⟩ := VS.cells hrd hlen
     obtain ⟨b2, off2, vs2, he2, _, hb2, hlen2, hr2, hrd2⟩ := (HE.out.1.below hjb).at (k := j) (by omega)
     obtain ⟨_, _, _, _, _, _, _, _, rfl, _⟩ := VS.cells hrd2 hlen2
     simp only [Option.some.injEq, Addr.mk.injEq, and_true] at he' he2
     obtain ⟨rfl, rfl⟩ := he'
     obtain ⟨rfl, rfl⟩ := he2
     obtain ⟨e0, he0⟩ : ∃ x, ((f j).po == (f k).po) = x := ⟨_, rfl⟩
     obtain ⟨e1, he1⟩ : ∃ x, ((f j).un == (f k).un) = x := ⟨_, rfl⟩
     have HD : Hid (((f j).po == (f k).po) = e0 /\ ((f j).un == (f k).un) = e1) := ⟨he0, he1⟩
     have HJ : Hid (bO (fun j => !fB (f j) (f k)) j = true /\ Below w.heap.size w wr) := ⟨hjall, hjb⟩
     have HK : Hid (b < wr.heap.size /\ wr.rangeAt b (off + k * 6) [.int .i64 (f k).po, .int .i64 (f k).un] /\ wr.rangeAt b (off + j * 6) [.int .i64 (f j).po, .int .i64 (f j).un]) := by
      refine ⟨hb0, fun i v hv => ?_, fun i v hv => ?_⟩
      ·match i, hv with
       | 0, hv => obtain rfl := sj hv; exact hr 0 _ rfl
       | 1, hv => obtain rfl := sj hv; exact hr 1 _ rfl
       | i + 2, hv => simp at hv
      match i, hv with
      | 0, hv => obtain rfl := sj hv; exact hr2 0 _ rfl
      | 1, hv => obtain rfl := sj hv; exact hr2 1 _ rfl
      | i + 2, hv => simp at hv
     clear he0 he1 hjall hjb hb0 hlen hr hrd hb2 hlen2 hr2 hrd2 HA HR HX B1
     go_upto_region 9 with fail
     refine wp_region_any (by kernel_rfl) ?_
     refine aX (fun u => Below wr.heap.size wr u) (fun i v u => match i with
      | 0 => v = .slice (some ⟨b, off, none⟩) n c
      | 1 => v = .int .i64 (j : Int)
      | 2 => v = .pointer (some ⟨b, off + j * 6, none⟩)
      | 3 => v = .pointer (some ⟨b, off + j * 6, none⟩)
      | 4 => v = .int .i64 (f j).po
      | 5 => v = .slice (some ⟨b, off, none⟩) n c
      | 6 => v = .int .i64 (k : Int)
      | 7 => v = .pointer (some ⟨b, off + k * 6, none⟩)
      | 8 => v = .pointer (some ⟨b, off + k * 6, none⟩)
      | 9 => v = .int .i64 (f k).po
      | 10 => v = .bool e0
      | 11 => v = .bool e0
      | 12 => v = cond e0 (.slice (some ⟨b, off, none⟩) n c) undef
      | 13 => v = cond e0 (.int .i64 (j : Int)) undef
      | 14 => v = cond e0 (.pointer (some ⟨b, off + j * 6, none⟩)) undef
      | 15 => v = cond e0 (.pointer (some ⟨b, off + j * 6 + 1, none⟩)) undef
      | 16 => v = cond e0 (.int .i64 (f j).un) undef
      | 17 => v = cond e0 (.slice (some ⟨b, off, none⟩) n c) undef
      | 18 => v = cond e0 (.int .i64 (k : Int)) undef
      | 19 => v = cond e0 (.pointer (some ⟨b, off + k * 6, none⟩)) undef
      | 20 => v = cond e0 (.pointer (some ⟨b, off + k * 6 + 1, none⟩)) undef
      | 21 => v = cond e0 (.int .i64 (f k).un) undef
      | 22 => v = cond e0 (.bool e1) undef
      | 23 => v = cond e0 (.bool e1) (.bool false)
      | _ => v = undef) (by kernel_rfl) (by kernel_rfl) (fun _ _ _ _ h _ => h) (by first | exact Below.refl _ _ | exact (Below.refl _ _).drew) ?_ ?_ _ _ rfl (by decide) (fun i => by simp [Array.getD]; try (split <;> rfl))
     ·intro vs u hR hall
      simp only [bm]
      cases e0
      ·have e23 : vs 23 = .bool false := hall 23 (by simp)
       rw [e23]
       clear hall e23
       have HF : Hid (bO (fun j => !fB (f j) (f k)) (j + 1) = true /\ Below w.heap.size w u) := ⟨dO HJ.out.1 (by have := HD.out; simp [fB] at this ⊢; exact .inl this.1), ae HJ.out.2 hR⟩
       clear HK HD HJ hR
       go_simp
       go_wp2
       go_roundw
       case rel => exact ⟨j + 1, by omega, by go_num, HF.out.1, HF.out.2⟩
       case measure => simp [intOf]; omega
      cases e1
      ·have e23 : vs 23 = .bool false := hall 23 (by simp)
       rw [e23]
       clear hall e23
       have HF : Hid (bO (fun j => !fB (f j) (f k)) (j + 1) = true /\ Below w.heap.size w u) := ⟨dO HJ.out.1 (by have := HD.out; simp [fB] at this ⊢; exact .inr this.2), ae HJ.out.2 hR⟩
       clear HK HD HJ hR
       go_simp
       go_wp2
       go_roundw
       case rel => exact ⟨j + 1, by omega, by go_num, HF.out.1, HF.out.2⟩
       case measure => simp [intOf]; omega
      have e23 : vs 23 = .bool true := hall 23 (by simp)
      rw [e23]
      clear hall e23
      have HF : Hid (cU f k = false) := by
       show cU f k = false
       have h9 : fB (f j) (f k) = true := by have := HD.out; simp [fB] at this ⊢; exact this
       have h8 := er (g := fun j => !fB (f j) (f k)) hjk (by simp [h9])
       unfold cU
       rw [h8]; simp
      have B9 : Hid (bO (cU f) n = false /\ Below w.heap.size w u) := ⟨er hlt HF.out, ae HJ.out.2 hR⟩
      clear HK HD HJ HF hR
      go_simp
      go_wp2
      go_ret
      exact ⟨by unfold eB; rw [B9.out.1, Bool.and_false]; rfl, B9.out.2⟩
     intro u i o ρ hR ho hρ hc hf hd
     have hi : i < 24 := by
      have := (Array.getElem?_eq_some_iff.1 ho).1
      simpa using this
     obtain rfl | rfl | rfl | rfl | rfl | rfl | rfl | rfl | rfl | rfl | rfl | rfl | rfl | rfl | rfl | rfl | rfl | rfl | rfl | rfl | rfl | rfl | rfl | rfl : i = 0 \/ i = 1 \/ i = 2 \/ i = 3 \/ i = 4 \/ i = 5 \/ i = 6 \/ i = 7 \/ i = 8 \/ i = 9 \/ i = 10 \/ i = 11 \/ i = 12 \/ i = 13 \/ i = 14 \/ i = 15 \/ i = 16 \/ i = 17 \/ i = 18 \/ i = 19 \/ i = 20 \/ i = 21 \/ i = 22 \/ i = 23 := by omega
     all_goals (simp only [List.getElem?_toArray, List.getElem?_cons_zero, List.getElem?_cons_succ, Option.some.injEq] at ho; subst ho)
     ·exact yr rfl (hρ 0 (by kernel_rfl)) hR
     ·exact yr rfl (hρ 4 (by kernel_rfl)) hR
     ·exact yr (au rfl (dq hd 0 41) (dq hd 1 42) (by go_simp)) rfl hR
     ·exact yr (aq rfl (dq hd 2 43) (by go_simp)) rfl hR
     ·have y9 : u.cell? ⟨b, off + j * 6, none⟩ = some (.int .i64 (f j).po) := (ax HK.out.2.2 HK.out.1 hR) 0 _ rfl
      exact yr (ai rfl (dq hd 3 44) (by go_simp)) rfl hR
     ·exact yr rfl (hρ 0 (by kernel_rfl)) hR
     ·exact yr rfl (hρ 3 (by kernel_rfl)) hR
     ·exact yr (au rfl (dq hd 5 46) (dq hd 6 47) (by go_simp)) rfl hR
     ·exact yr (aq rfl (dq hd 7 48) (by go_simp)) rfl hR
     ·have y9 : u.cell? ⟨b, off + k * 6, none⟩ = some (.int .i64 (f k).po) := (ax HK.out.2.1 HK.out.1 hR) 0 _ rfl
      exact yr (ai rfl (dq hd 8 49) (by go_simp)) rfl hR
     ·cases e0
      ·have t0 : ((f j).po == (f k).po) = false := HD.out.1
       exact yr (aD rfl (dq hd 4 45) (dq hd 9 50) (by go_simp)) rfl hR
      have t0 : ((f j).po == (f k).po) = true := HD.out.1
      exact yr (aD rfl (dq hd 4 45) (dq hd 9 50) (by go_simp)) rfl hR
     ·exact yr rfl (dq hd 10 51) hR
     ·cases e0
      ·exact aj (.bool false) hd 11 52
      exact yq hd 11 52 rfl (hρ 0 (by kernel_rfl)) hR
     ·cases e0
      ·exact aj (.bool false) hd 11 52
      exact yq hd 11 52 rfl (hρ 4 (by kernel_rfl)) hR
     ·cases e0
      ·exact aj (.bool false) hd 11 52
      exact yq hd 11 52 (au rfl (dq hd 12 53) (dq hd 13 54) (by go_simp)) rfl hR
     ·cases e0
      ·exact aj (.bool false) hd 11 52
      exact yq hd 11 52 (aq rfl (dq hd 14 55) (by go_simp)) rfl hR
     ·cases e0
      ·exact aj (.bool false) hd 11 52
      have y9 := (ax HK.out.2.2 HK.out.1 hR) 1 _ rfl
      exact yq hd 11 52 (ai rfl (dq hd 15 56) (by go_simp)) rfl hR
     ·cases e0
      ·exact aj (.bool false) hd 11 52
      exact yq hd 11 52 rfl (hρ 0 (by kernel_rfl)) hR
     ·cases e0
      ·exact aj (.bool false) hd 11 52
      exact yq hd 11 52 rfl (hρ 3 (by kernel_rfl)) hR
     ·cases e0
      ·exact aj (.bool false) hd 11 52
      exact yq hd 11 52 (au rfl (dq hd 17 58) (dq hd 18 59) (by go_simp)) rfl hR
     ·cases e0
      ·exact aj (.bool false) hd 11 52
      exact yq hd 11 52 (aq rfl (dq hd 19 60) (by go_simp)) rfl hR
     ·cases e0
      ·exact aj (.bool false) hd 11 52
      have y9 := (ax HK.out.2.1 HK.out.1 hR) 1 _ rfl
      exact yq hd 11 52 (ai rfl (dq hd 20 61) (by go_simp)) rfl hR
     ·cases e0
      ·exact aj (.bool false) hd 11 52
      cases e1
      ·have t1 : ((f j).un == (f k).un) = false := HD.out.2
       exact yq hd 11 52 (aD rfl (dq hd 16 57) (dq hd 21 62) (by go_simp)) rfl hR
      have t1 : ((f j).un == (f k).un) = true := HD.out.2
      exact yq hd 11 52 (aD rfl (dq hd 16 57) (dq hd 21 62) (by go_simp)) rfl hR
     cases e0
     ·exact yr (aA rfl (dq hd 11 52)) (by simpa using hc _) hR
     exact yr (aA rfl (dq hd 11 52)) (by simpa using (dq hd 22 63)) hR
    have hji : ¬ (j : Int) < (k : Int) := by omega
    have e9 : j = k := by omega
    have hk9 : bO (fun j => !fB (f j) (f k)) k = true := by have h8 := hjall; rw [e9] at h8; exact h8
    have HF : Hid (bO (cU f) (k + 1) = true /\ Below w.heap.size w wr) := ⟨dO HA.out.1 (by rw [HA.out.2.2, hk9]; rfl), hjb⟩
    clear e9 hk9 hjall hjb HA HR HX B1
    go_wp2
    go_roundw
    case rel => exact ⟨k + 1, by omega, by go_num, HF.out.1, HF.out.2⟩
    case measure => simp [intOf]; omega
  have hi : ¬ (k : Int) < (n : Int) := by omega
  have e9 : k = n := by omega
  have HF : Hid (bO (cU f) n = true /\ Below w.heap.size w wr) := ⟨by rw [<- e9]; exact hall, hbl⟩
  clear hall hbl e9
  obtain ⟨x, hx⟩ : ∃ x, decide (n <= 8) = x := ⟨_, rfl⟩
  have HN : Hid (eB n f = x) := by show _ = x; unfold eB; rw [HF.out.1, hx, Bool.and_true]
  cases x
  case false =>
   have h8 : ¬ (n : Int) <= 8 := by have := of_decide_eq_false hx; omega
   clear hx
   go_wp2
   go_ret
   exact ⟨by rw [HN.out]; rfl, HF.out.2⟩
  have h8 : (n : Int) <= 8 := by have := of_decide_eq_true hx; omega
  clear hx
  go_wp2
  go_ret
  exact ⟨by rw [HN.out]; rfl, HF.out.2⟩
def Ob (vs : List Value) (k : Nat) : Prop := ∃ v ∈ vs, v.ownBlock = some k
def Out (w w' : World) (g : Nat) (P : Nat -> Prop) : Prop := w.heap.size <= w'.heap.size /\ ∀ k, k < w.heap.size -> k ≠ g -> ¬ P k -> w'.heap[k]? = w.heap[k]?
structure La where
 bz : Bool
 c : Ca
 nu : Int
 du : Int
 le : Int
 nx : Int
 wt : Int
 tr : Int
abbrev vJ (L : La) (a : Option Addr) (n cp : Nat) (a1 a2 : Option Addr) (l1 l2 c1 c2 : Nat) : List Value := [.slice a n cp, .bool L.bz, .int .i64 L.c.id, .int .i64 L.c.pa, .int .i64 L.c.un, .int .i64 L.c.kd, .int .i64 L.c.pl, .int .i64 L.c.n, .slice a1 l1 c1, .slice a2 l2 c2, .int .i64 L.c.wa, .int .i64 L.nu, .int .i64 L.du, .int .i64 L.le, .int .i64 L.nx, .int .i64 L.wt, .int .i64 L.tr]
abbrev pn (L : La) (a : Option Addr) (n cp : Nat) (a1 a2 : Option Addr) (l1 l2 c1 c2 : Nat) : Array Value := #[.slice a n cp, .bool L.bz, .int .i64 L.c.id, .int .i64 L.c.pa, .int .i64 L.c.un, .int .i64 L.c.kd, .int .i64 L.c.pl, .int .i64 L.c.n, .slice a1 l1 c1, .slice a2 l2 c2, .int .i64 L.c.wa, .int .i64 L.nu, .int .i64 L.du, .int .i64 L.le, .int .i64 L.nx, .int .i64 L.wt, .int .i64 L.tr]
abbrev lzc : Array Value := #[.slice none 0 0, .bool false, .int .i64 0, .int .i64 0, .int .i64 0, .int .i64 0, .int .i64 0, .int .i64 0, .slice none 0 0, .slice none 0 0, .int .i64 0, .int .i64 0, .int .i64 0, .int .i64 0, .int .i64 0, .int .i64 0, .int .i64 0]
theorem ag.svn {w : World} {g : Nat} {t : TypeId} {v0 v1 v2 v3 v4 v5 v6 v7 v8 v9 v10 v11 v12 v13 v14 v15 v16 : Value} (h : ag w g t #[v0, v1, v2, v3, v4, v5, v6, v7, v8, v9, v10, v11, v12, v13, v14, v15, v16]) : (w.cell? ⟨g, 0, none⟩ = some v0 /\ w.cell? ⟨g, 1, none⟩ = some v1 /\ w.cell? ⟨g, 2, none⟩ = some v2 /\ w.cell? ⟨g, 3, none⟩ = some v3 /\ w.cell? ⟨g, 4, none⟩ = some v4 /\ w.cell? ⟨g, 5, none⟩ = some v5 /\ w.cell? ⟨g, 6, none⟩ = some v6 /\ w.cell? ⟨g, 7, none⟩ = some v7 /\ w.cell? ⟨g, 8, none⟩ = some v8 /\ w.cell? ⟨g, 9, none⟩ = some v9 /\ w.cell? ⟨g, 10, none⟩ = some v10 /\ w.cell? ⟨g, 11, none⟩ = some v11 /\ w.cell? ⟨g, 12, none⟩ = some v12 /\ w.cell? ⟨g, 13, none⟩ = some v13 /\ w.cell? ⟨g, 14, none⟩ = some v14 /\ w.cell? ⟨g, 15, none⟩ = some v15 /\ w.cell? ⟨g, 16, none⟩ = some v16) /\ ∀ j, w.frozen? ⟨g, j, none⟩ = false :=
 ⟨⟨h.cell 0 rfl, h.cell 1 rfl, h.cell 2 rfl, h.cell 3 rfl, h.cell 4 rfl, h.cell 5 rfl, h.cell 6 rfl, h.cell 7 rfl, h.cell 8 rfl, h.cell 9 rfl, h.cell 10 rfl, h.cell 11 rfl, h.cell 12 rfl, h.cell 13 rfl, h.cell 14 rfl, h.cell 15 rfl, h.cell 16 rfl⟩, h.fro⟩
def jJ (w : World) (n : Nat) (f : Nat -> Ca) (L : La) (a a1 a2 : Option Addr) (l1 l2 : Nat) : Prop := l1 = L.c.ws.length /\ l2 = L.c.bs.length /\ lK w a n f /\ aQ w a1 L.c.ws /\ aW w a2 L.c.bs
def LnP (w : World) (base n : Nat) (f : Nat -> Ca) (L : La) (a : Option Addr) (cp : Nat) (a1 a2 : Option Addr) (l1 l2 c1 c2 : Nat) : Prop :=
 l1 = L.c.ws.length /\ l2 = L.c.bs.length /\ ∃ (F : Nat -> List Value) (β : Nat -> Nat), qr w base 86 9 (.slice a n cp) n F /\ rG w base β F (fun k => tz (f k)) n /\ bT w base (.slice a1 l1 c1) L.c.ws /\ cG w base (.slice a2 l2 c2) L.c.bs /\
  (∀ k, (Value.slice a1 l1 c1).ownBlock = some k -> ∀ j, j < n -> ¬ Ob (F j) k) /\ (∀ k, (Value.slice a2 l2 c2).ownBlock = some k -> ∀ j, j < n -> ¬ Ob (F j) k)
section
variable {w w' : World} {base n cp l1 l2 c1 c2 : Nat} {f : Nat -> Ca} {L : La} {a a1 a2 : Option Addr}
theorem jJ.below (h : jJ w n f L a a1 a2 l1 l2) (hb : Below w.heap.size w w') : jJ w' n f L a a1 a2 l1 l2 := ⟨h.1, h.2.1, h.2.2.1.below hb, h.2.2.2.1.below hb, h.2.2.2.2.below hb⟩
end
def lfL (n : Nat) (f : Nat -> Ca) (l1 l2 : Nat) : Int := if n + tl f n + l1 + l2 <= 1048576 then (((1048576 - (n + tl f n + l1 + l2) : Nat)) : Int) else -1
def eM (L : La) (l1 l2 : Nat) : Bool := if L.bz = true then dc L.c && (aw L.nu 0 65535 && (aw L.du 0 4294967295 && (decide (0 <= L.le) && decide (L.le <= L.tr)))) else cV L.c l1 l2 && ((L.nu == 0) && ((L.du == 0) && (L.le == 0)))
def dd (f : Nat -> Ca) : Nat -> Bool
 | 0 => true
 | k + 1 => dd f k && dc (f k)
theorem nK {f : Nat -> Ca} {k n : Nat} (hk : k < n) (h : dc (f k) = false) : dd f n = false := by
 induction n with
 | zero => omega
 | succ n ih =>
  by_cases e : k = n
  ·subst e; simp [dd, h]
  simp [dd, ih (by omega)]
def gJ (n : Nat) (f : Nat -> Ca) (L : La) (l1 l2 : Nat) : Bool := aw L.wt 1 100 && (aw L.tr 0 5 && (decide (n <= 40) && (aw L.nx 0 65535 && (dd f n && eM L l1 l2))))
def hU (w : World) (g o : Nat) (L : La) (n cp : Nat) (a a1 a2 : Option Addr) (l1 l2 c1 c2 : Nat) : Prop := g < w.heap.size /\ w.rangeAt g o (vJ L a n cp a1 a2 l1 l2 c1 c2)
theorem hU.below {w w' : World} {g o : Nat} {L : La} {n cp : Nat} {a a1 a2 : Option Addr} {l1 l2 c1 c2 : Nat} (h : hU w g o L n cp a a1 a2 l1 l2 c1 c2) (hb : Below w.heap.size w w') : hU w' g o L n cp a a1 a2 l1 l2 c1 c2 := ⟨Nat.lt_of_lt_of_le h.1 hb.size, ax h.2 h.1 hb⟩
theorem hU.svn {w : World} {g o : Nat} {L : La} {n cp : Nat} {a a1 a2 : Option Addr} {l1 l2 c1 c2 : Nat} (h : hU w g o L n cp a a1 a2 l1 l2 c1 c2) : (w.cell? ⟨g, o, none⟩ = some (.slice a n cp) /\ w.cell? ⟨g, o + 1, none⟩ = some (.bool L.bz) /\ w.cell? ⟨g, o + 2, none⟩ = some (.int .i64 L.c.id) /\ w.cell? ⟨g, o + 3, none⟩ = some (.int .i64 L.c.pa) /\ w.cell? ⟨g, o + 4, none⟩ = some (.int .i64 L.c.un) /\ w.cell? ⟨g, o + 5, none⟩ = some (.int .i64 L.c.kd) /\ w.cell? ⟨g, o + 6, none⟩ = some (.int .i64 L.c.pl) /\ w.cell? ⟨g, o + 7, none⟩ = some (.int .i64 L.c.n) /\ w.cell? ⟨g, o + 8, none⟩ = some (.slice a1 l1 c1) /\ w.cell? ⟨g, o + 9, none⟩ = some (.slice a2 l2 c2) /\ w.cell? ⟨g, o + 10, none⟩ = some (.int .i64 L.c.wa) /\ w.cell? ⟨g, o + 11, none⟩ = some (.int .i64 L.nu) /\ w.cell? ⟨g, o + 12, none⟩ = some (.int .i64 L.du) /\ w.cell? ⟨g, o + 13, none⟩ = some (.int .i64 L.le) /\ w.cell? ⟨g, o + 14, none⟩ = some (.int .i64 L.nx) /\ w.cell? ⟨g, o + 15, none⟩ = some (.int .i64 L.wt) /\ w.cell? ⟨g, o + 16, none⟩ = some (.int .i64 L.tr)) /\ True := ⟨⟨h.2 0 _ rfl, h.2 1 _ rfl, h.2 2 _ rfl, h.2 3 _ rfl, h.2 4 _ rfl, h.2 5 _ rfl, h.2 6 _ rfl, h.2 7 _ rfl, h.2 8 _ rfl, h.2 9 _ rfl, h.2 10 _ rfl, h.2 11 _ rfl, h.2 12 _ rfl, h.2 13 _ rfl, h.2 14 _ rfl, h.2 15 _ rfl, h.2 16 _ rfl⟩, trivial⟩
theorem oh (L : La) (g o n cp : Nat) (a a1 a2 : Option Addr) (l1 l2 c1 c2 : Nat) (w : World) (hB : hU w g o L n cp a a1 a2 l1 l2 c1 c2) (h1 : l1 = L.c.ws.length) (h2 : l2 = L.c.bs.length) (s1 : aQ w a1 L.c.ws) (s2 : aW w a2 L.c.bs) (hl1 : l1 <= 2000000) (hl2 : l2 <= 2000000) :
 Calls prog 204 #[.pointer (some ⟨g, o, none⟩)] w fun e w' => e = .returned (.bool (eM L l1 l2)) /\ Below w.heap.size w w' := by
 have HB : Hid (hU w g o L n cp a a1 a2 l1 l2 c1 c2 /\ l1 = L.c.ws.length /\ l2 = L.c.bs.length /\ aQ w a1 L.c.ws /\ aW w a2 L.c.bs) := ⟨hB, h1, h2, s1, s2⟩
 obtain ⟨⟨y0, y1, y2, y3, y4, y5, y6, y7, y8, y9, y10, y11, y12, y13, y14, y15, y16⟩, _⟩ := hB.svn
 obtain ⟨bz, hbz⟩ : ∃ x, L.bz = x := ⟨_, rfl⟩
 clear hB h1 h2 s1 s2
 cases bz
 case false =>
  obtain ⟨x0, hx0⟩ : ∃ x, cV L.c l1 l2 = x := ⟨_, rfl⟩
  obtain ⟨z1, hz1⟩ : ∃ x, (L.nu == 0) = x := ⟨_, rfl⟩
  obtain ⟨z2, hz2⟩ : ∃ x, (L.du == 0) = x := ⟨_, rfl⟩
  obtain ⟨z3, hz3⟩ : ∃ x, (L.le == 0) = x := ⟨_, rfl⟩
  have HE : Hid (eM L l1 l2 = (x0 && (z1 && (z2 && z3))) /\ cV L.c l1 l2 = x0) := ⟨by unfold eM; rw [hbz, hx0, hz1, hz2, hz3]; rfl, hx0⟩
  rw [HE.out.1]
  rw [hbz] at y1
  clear hx0 hbz
  go_enter func204, ntmps204
  go_wp2_with fail
  refine (lX L.c g (o + 2) a1 a2 l1 l2 c1 c2 _ y2 y3 y4 y5 y6 y7 y8 y9 y10 HB.out.2.1 HB.out.2.2.1 hl1 hl2).mono ?_
  rintro e w1 ⟨rfl, b1⟩
  rw [HE.out.2]
  have HC : Hid (Below w.heap.size w w1 /\ hU w1 g o L n cp a a1 a2 l1 l2 c1 c2) := ⟨b1, HB.out.1.below b1⟩
  clear b1 y0 y1 y2 y3 y4 y5 y6 y7 y8 y9 y10 y11 y12 y13 y14 y15 y16
  obtain ⟨⟨y0, y1, y2, y3, y4, y5, y6, y7, y8, y9, y10, y11, y12, y13, y14, y15, y16⟩, _⟩ := HC.out.2.svn
  cases x0
  case false =>
   go_wp2
   go_ret
   exact ⟨rfl, HC.out.1⟩
  cases z1
  case false =>
   go_wp2
   go_ret
   exact ⟨rfl, HC.out.1⟩
  cases z2
  case false =>
   go_wp2
   go_ret
   exact ⟨rfl, HC.out.1⟩
  cases z3
  all_goals (
   go_wp2
   go_ret
   exact ⟨rfl, HC.out.1⟩)
 obtain ⟨x0, hx0⟩ : ∃ x, dc L.c = x := ⟨_, rfl⟩
 obtain ⟨z1, hz1⟩ : ∃ x, aw L.nu 0 65535 = x := ⟨_, rfl⟩
 obtain ⟨z2, hz2⟩ : ∃ x, aw L.du 0 4294967295 = x := ⟨_, rfl⟩
 obtain ⟨z3, hz3⟩ : ∃ x, decide (0 <= L.le) = x := ⟨_, rfl⟩
 obtain ⟨z4, hz4⟩ : ∃ x, decide (L.le <= L.tr) = x := ⟨_, rfl⟩
 have HX : Hid (dc L.c = x0 /\ aw L.nu 0 65535 = z1 /\ aw L.du 0 4294967295 = z2 /\ decide (0 <= L.le) = z3 /\ decide (L.le <= L.tr) = z4) := ⟨hx0, hz1, hz2, hz3, hz4⟩
 have he : eM L l1 l2 = (x0 && (z1 && (z2 && (z3 && z4)))) := by unfold eM; rw [hbz, hx0, hz1, hz2, hz3, hz4]; rfl
 rw [he]
 rw [hbz] at y1
 clear hx0 hz1 hz2 hz3 hz4 hbz he
 go_enter func204, ntmps204
 go_upto_region 3 with fail
 clear y0 y1 y2 y3 y4 y5 y6 y7 y8 y9 y10 y11 y12 y13 y14 y15 y16
 refine wp_region_any (by kernel_rfl) ?_
 refine aX (fun u => Below w.heap.size w u) (fun i v u => match i with
  | 0 => v = .pointer (some ⟨g, o, none⟩)
  | 1 => v = .pointer (some ⟨g, o, none⟩)
  | 2 => v = .pointer (some ⟨g, o + 2, none⟩)
  | 3 => v = .bool x0
  | 4 => v = .bool x0
  | 5 => v = cond x0 (.pointer (some ⟨g, o, none⟩)) undef
  | 6 => v = cond x0 (.pointer (some ⟨g, o, none⟩)) undef
  | 7 => v = cond x0 (.pointer (some ⟨g, o + 11, none⟩)) undef
  | 8 => v = cond x0 (.int .i64 L.nu) undef
  | 9 => v = cond x0 (.bool z1) undef
  | 10 => v = cond x0 (.bool z1) (.bool false)
  | 11 => v = cond x0 (.bool z1) (.bool false)
  | 12 => v = cond x0 (cond z1 (.pointer (some ⟨g, o, none⟩)) undef) undef
  | 13 => v = cond x0 (cond z1 (.pointer (some ⟨g, o, none⟩)) undef) undef
  | 14 => v = cond x0 (cond z1 (.pointer (some ⟨g, o + 12, none⟩)) undef) undef
  | 15 => v = cond x0 (cond z1 (.int .i64 L.du) undef) undef
  | 16 => v = cond x0 (cond z1 (.bool z2) undef) undef
  | 17 => v = cond x0 (cond z1 (.bool z2) (.bool false)) (.bool false)
  | 18 => v = cond x0 (cond z1 (.bool z2) (.bool false)) (.bool false)
  | 19 => v = cond x0 (cond z1 (cond z2 (.pointer (some ⟨g, o, none⟩)) undef) undef) undef
  | 20 => v = cond x0 (cond z1 (cond z2 (.pointer (some ⟨g, o, none⟩)) undef) undef) undef
  | 21 => v = cond x0 (cond z1 (cond z2 (.pointer (some ⟨g, o + 13, none⟩)) undef) undef) undef
  | 22 => v = cond x0 (cond z1 (cond z2 (.int .i64 L.le) undef) undef) undef
  | 23 => v = cond x0 (cond z1 (cond z2 (.bool z3) undef) undef) undef
  | 24 => v = cond x0 (cond z1 (cond z2 (.bool z3) (.bool false)) (.bool false)) (.bool false)
  | 25 => v = cond x0 (cond z1 (cond z2 (.bool z3) (.bool false)) (.bool false)) (.bool false)
  | 26 => v = cond x0 (cond z1 (cond z2 (cond z3 (.pointer (some ⟨g, o, none⟩)) undef) undef) undef) undef
  | 27 => v = cond x0 (cond z1 (cond z2 (cond z3 (.pointer (some ⟨g, o, none⟩)) undef) undef) undef) undef
  | 28 => v = cond x0 (cond z1 (cond z2 (cond z3 (.pointer (some ⟨g, o + 13, none⟩)) undef) undef) undef) undef
  | 29 => v = cond x0 (cond z1 (cond z2 (cond z3 (.int .i64 L.le) undef) undef) undef) undef
  | 30 => v = cond x0 (cond z1 (cond z2 (cond z3 (.pointer (some ⟨g, o, none⟩)) undef) undef) undef) undef
  | 31 => v = cond x0 (cond z1 (cond z2 (cond z3 (.pointer (some ⟨g, o, none⟩)) undef) undef) undef) undef
  | 32 => v = cond x0 (cond z1 (cond z2 (cond z3 (.pointer (some ⟨g, o + 16, none⟩)) undef) undef) undef) undef
  | 33 => v = cond x0 (cond z1 (cond z2 (cond z3 (.int .i64 L.tr) undef) undef) undef) undef
  | 34 => v = cond x0 (cond z1 (cond z2 (cond z3 (.bool z4) undef) undef) undef) undef
  | 35 => v = cond x0 (cond z1 (cond z2 (cond z3 (.bool z4) (.bool false)) (.bool false)) (.bool false)) (.bool false)
  | 36 => v = cond x0 (cond z1 (cond z2 (cond z3 (.bool z4) (.bool false)) (.bool false)) (.bool false)) (.bool false)
  | _ => v = undef) (by kernel_rfl) (by kernel_rfl) (fun _ _ _ _ h _ => h) (by first | exact Below.refl _ _ | exact (Below.refl _ _).drew) ?_ ?_ _ _ rfl (by decide) (fun i => by simp [Array.getD]; try (split <;> rfl))
 ·intro vs u hR hall
  simp only [bm]
  cases x0
  ·have e36 : vs 36 = .bool false := hall 36 (by simp)
   rw [e36]
   clear hall e36
   have B9 := hR
   clear HX HB hR
   go_simp
   go_wp2
   go_ret
   exact ⟨rfl, B9⟩
  cases z1
  ·have e36 : vs 36 = .bool false := hall 36 (by simp)
   rw [e36]
   clear hall e36
   have B9 := hR
   clear HX HB hR
   go_simp
   go_wp2
   go_ret
   exact ⟨rfl, B9⟩
  cases z2
  ·have e36 : vs 36 = .bool false := hall 36 (by simp)
   rw [e36]
   clear hall e36
   have B9 := hR
   clear HX HB hR
   go_simp
   go_wp2
   go_ret
   exact ⟨rfl, B9⟩
  cases z3
  ·have e36 : vs 36 = .bool false := hall 36 (by simp)
   rw [e36]
   clear hall e36
   have B9 := hR
   clear HX HB hR
   go_simp
   go_wp2
   go_ret
   exact ⟨rfl, B9⟩
  cases z4
  ·have e36 : vs 36 = .bool false := hall 36 (by simp)
   rw [e36]
   clear hall e36
   have B9 := hR
   clear HX HB hR
   go_simp
   go_wp2
   go_ret
   exact ⟨rfl, B9⟩
  have e36 : vs 36 = .bool true := hall 36 (by simp)
  rw [e36]
  clear hall e36
  have B9 := hR
  clear HX HB hR
  go_simp
  go_wp2
  go_ret
  exact ⟨rfl, B9⟩
 intro u i o ρ hR ho hρ hc hf hd
 have hi : i < 37 := by
  have := (Array.getElem?_eq_some_iff.1 ho).1
  simpa using this
 obtain rfl | rfl | rfl | rfl | rfl | rfl | rfl | rfl | rfl | rfl | rfl | rfl | rfl | rfl | rfl | rfl | rfl | rfl | rfl | rfl | rfl | rfl | rfl | rfl | rfl | rfl | rfl | rfl | rfl | rfl | rfl | rfl | rfl | rfl | rfl | rfl | rfl : i = 0 \/ i = 1 \/ i = 2 \/ i = 3 \/ i = 4 \/ i = 5 \/ i = 6 \/ i = 7 \/ i = 8 \/ i = 9 \/ i = 10 \/ i = 11 \/ i = 12 \/ i = 13 \/ i = 14 \/ i = 15 \/ i = 16 \/ i = 17 \/ i = 18 \/ i = 19 \/ i = 20 \/ i = 21 \/ i = 22 \/ i = 23 \/ i = 24 \/ i = 25 \/ i = 26 \/ i = 27 \/ i = 28 \/ i = 29 \/ i = 30 \/ i = 31 \/ i = 32 \/ i = 33 \/ i = 34 \/ i = 35 \/ i = 36 := by omega
 all_goals (simp only [List.getElem?_toArray, List.getElem?_cons_zero, List.getElem?_cons_succ, Option.some.injEq] at ho; subst ho)
 ·exact yr rfl (hρ 0 (by kernel_rfl)) hR
 ·exact yr (cx rfl (dq hd 0 33)) rfl hR
 ·exact yr (aq rfl (dq hd 1 34) (by go_simp)) rfl hR
 ·have h2 : _ = _ := dq hd 2 35
  refine .inl ⟨rfl, .inr ⟨_, _, bj rfl (hf _) (args := #[.pointer (some ⟨g, o + 2, none⟩)]) (by simp [h2]) (by kernel_rfl), ?_⟩⟩
  refine (hJ L.c g (o + 2) a1 a2 l1 l2 c1 c2 _ ((HB.out.1.below hR).2 2 _ rfl) ((HB.out.1.below hR).2 3 _ rfl) ((HB.out.1.below hR).2 4 _ rfl) ((HB.out.1.below hR).2 5 _ rfl) ((HB.out.1.below hR).2 6 _ rfl) ((HB.out.1.below hR).2 7 _ rfl) ((HB.out.1.below hR).2 8 _ rfl) ((HB.out.1.below hR).2 9 _ rfl) ((HB.out.1.below hR).2 10 _ rfl) HB.out.2.1 HB.out.2.2.1 (HB.out.2.2.2.1.below hR) (HB.out.2.2.2.2.below hR) hl1 hl2).mono ?_
  rintro e u' ⟨he, b'⟩
  exact ⟨_, he.trans (by rw [HX.out.1] <;> rfl), rfl, ae hR b', b'⟩
 ·exact yr rfl (dq hd 3 36) hR
 ·cases x0
  ·exact aj (.bool false) hd 4 37
  exact yq hd 4 37 rfl (hρ 0 (by kernel_rfl)) hR
 ·cases x0
  ·exact aj (.bool false) hd 4 37
  exact yq hd 4 37 (cx rfl (dq hd 5 38)) rfl hR
 ·cases x0
  ·exact aj (.bool false) hd 4 37
  exact yq hd 4 37 (aq rfl (dq hd 6 39) (by go_simp)) rfl hR
 ·cases x0
  ·exact aj (.bool false) hd 4 37
  have y9 := (HB.out.1.below hR).2 11 _ rfl
  exact yq hd 4 37 (ai rfl (dq hd 7 40) (by go_simp)) rfl hR
 ·cases x0
  ·exact aj (.bool false) hd 4 37
  have g4 : ρ (.tmp 37) = .bool true := gq hd 4 37
  have h8 : _ = _ := dq hd 8 41
  refine .inl ⟨(by show (match ρ (.tmp 37) with | .bool b => b == true | _ => false) = true; rw [g4]; rfl), .inr ⟨_, _, bj rfl (hf _) (args := #[.int .i64 L.nu]) (by simp [h8]) (by kernel_rfl), ?_⟩⟩
  refine (be _ _ _ HX.out.2.1).mono ?_
  rintro e u' ⟨he, rfl⟩
  exact ⟨_, he.trans rfl, rfl, hR, Below.refl _ _⟩
 ·cases x0
  ·exact yr (aA rfl (dq hd 4 37)) (by simpa using hc _) hR
  exact yr (aA rfl (dq hd 4 37)) (by simpa using (dq hd 9 42)) hR
 ·exact yr rfl (dq hd 10 43) hR
 ·cases x0
  ·exact aj (.bool false) hd 11 44
  cases z1
  ·exact aj (.bool false) hd 11 44
  exact yq hd 11 44 rfl (hρ 0 (by kernel_rfl)) hR
 ·cases x0
  ·exact aj (.bool false) hd 11 44
  cases z1
  ·exact aj (.bool false) hd 11 44
  exact yq hd 11 44 (cx rfl (dq hd 12 45)) rfl hR
 ·cases x0
  ·exact aj (.bool false) hd 11 44
  cases z1
  ·exact aj (.bool false) hd 11 44
  exact yq hd 11 44 (aq rfl (dq hd 13 46) (by go_simp)) rfl hR
 ·cases x0
  ·exact aj (.bool false) hd 11 44
  cases z1
  ·exact aj (.bool false) hd 11 44
  have y9 := (HB.out.1.below hR).2 12 _ rfl
  exact yq hd 11 44 (ai rfl (dq hd 14 47) (by go_simp)) rfl hR
 ·cases x0
  ·exact aj (.bool false) hd 11 44
  cases z1
  ·exact aj (.bool false) hd 11 44
  have g11 : ρ (.tmp 44) = .bool true := gq hd 11 44
  have h15 : _ = _ := dq hd 15 48
  refine .inl ⟨(by show (match ρ (.tmp 44) with | .bool b => b == true | _ => false) = true; rw [g11]; rfl), .inr ⟨_, _, bj rfl (hf _) (args := #[.int .i64 L.du]) (by simp [h15]) (by kernel_rfl), ?_⟩⟩
  refine (nI _ _ _ HX.out.2.2.1).mono ?_
  rintro e u' ⟨he, rfl⟩
  exact ⟨_, he.trans rfl, rfl, hR, Below.refl _ _⟩
 ·cases x0
  ·exact yr (aA rfl (dq hd 11 44)) (by simpa using hc _) hR
  cases z1
  ·exact yr (aA rfl (dq hd 11 44)) (by simpa using hc _) hR
  exact yr (aA rfl (dq hd 11 44)) (by simpa using (dq hd 16 49)) hR
 ·exact yr rfl (dq hd 17 50) hR
 ·cases x0
  ·exact aj (.bool false) hd 18 51
  cases z1
  ·exact aj (.bool false) hd 18 51
  cases z2
  ·exact aj (.bool false) hd 18 51
  exact yq hd 18 51 rfl (hρ 0 (by kernel_rfl)) hR
 ·cases x0
  ·exact aj (.bool false) hd 18 51
  cases z1
  ·exact aj (.bool false) hd 18 51
  cases z2
  ·exact aj (.bool false) hd 18 51
  exact yq hd 18 51 (cx rfl (dq hd 19 52)) rfl hR
 ·cases x0
  ·exact aj (.bool false) hd 18 51
  cases z1
  ·exact aj (.bool false) hd 18 51
  cases z2
  ·exact aj (.bool false) hd 18 51
  exact yq hd 18 51 (aq rfl (dq hd 20 53) (by go_simp)) rfl hR
 ·cases x0
  ·exact aj (.bool false) hd 18 51
  cases z1
  ·exact aj (.bool false) hd 18 51
  cases z2
  ·exact aj (.bool false) hd 18 51
  have y9 := (HB.out.1.below hR).2 13 _ rfl
  exact yq hd 18 51 (ai rfl (dq hd 21 54) (by go_simp)) rfl hR
 ·cases x0
  ·exact aj (.bool false) hd 18 51
  cases z1
  ·exact aj (.bool false) hd 18 51
  cases z2
  ·exact aj (.bool false) hd 18 51
  cases z3
  ·have t3 : ¬ (0 <= L.le) := of_decide_eq_false HX.out.2.2.2.1
   exact yq hd 18 51 (aD rfl (hc _) (dq hd 22 55) (by go_simp)) rfl hR
  have t3 : (0 <= L.le) := of_decide_eq_true HX.out.2.2.2.1
  exact yq hd 18 51 (aD rfl (hc _) (dq hd 22 55) (by go_simp)) rfl hR
 ·cases x0
  ·exact yr (aA rfl (dq hd 18 51)) (by simpa using hc _) hR
  cases z1
  ·exact yr (aA rfl (dq hd 18 51)) (by simpa using hc _) hR
  cases z2
  ·exact yr (aA rfl (dq hd 18 51)) (by simpa using hc _) hR
  exact yr (aA rfl (dq hd 18 51)) (by simpa using (dq hd 23 56)) hR
 ·exact yr rfl (dq hd 24 57) hR
 ·cases x0
  ·exact aj (.bool false) hd 25 58
  cases z1
  ·exact aj (.bool false) hd 25 58
  cases z2
  ·exact aj (.bool false) hd 25 58
  cases z3
  ·exact aj (.bool false) hd 25 58
  exact yq hd 25 58 rfl (hρ 0 (by kernel_rfl)) hR
 ·cases x0
  ·exact aj (.bool false) hd 25 58
  cases z1
  ·exact aj (.bool false) hd 25 58
  cases z2
  ·exact aj (.bool false) hd 25 58
  cases z3
  ·exact aj (.bool false) hd 25 58
  exact yq hd 25 58 (cx rfl (dq hd 26 59)) rfl hR
 ·cases x0
  ·exact aj (.bool false) hd 25 58
  cases z1
  ·exact aj (.bool false) hd 25 58
  cases z2
  ·exact aj (.bool false) hd 25 58
  cases z3
  ·exact aj (.bool false) hd 25 58
  exact yq hd 25 58 (aq rfl (dq hd 27 60) (by go_simp)) rfl hR
 ·cases x0
  ·exact aj (.bool false) hd 25 58
  cases z1
  ·exact aj (.bool false) hd 25 58
  cases z2
  ·exact aj (.bool false) hd 25 58
  cases z3
  ·exact aj (.bool false) hd 25 58
  have y9 := (HB.out.1.below hR).2 13 _ rfl
  exact yq hd 25 58 (ai rfl (dq hd 28 61) (by go_simp)) rfl hR
 ·cases x0
  ·exact aj (.bool false) hd 25 58
  cases z1
  ·exact aj (.bool false) hd 25 58
  cases z2
  ·exact aj (.bool false) hd 25 58
  cases z3
  ·exact aj (.bool false) hd 25 58
  exact yq hd 25 58 rfl (hρ 0 (by kernel_rfl)) hR
 ·cases x0
  ·exact aj (.bool false) hd 25 58
  cases z1
  ·exact aj (.bool false) hd 25 58
  cases z2
  ·exact aj (.bool false) hd 25 58
  cases z3
  ·exact aj (.bool false) hd 25 58
  exact yq hd 25 58 (cx rfl (dq hd 30 63)) rfl hR
 ·cases x0
  ·exact aj (.bool false) hd 25 58
  cases z1
  ·exact aj (.bool false) hd 25 58
  cases z2
  ·exact aj (.bool false) hd 25 58
  cases z3
  ·exact aj (.bool false) hd 25 58
  exact yq hd 25 58 (aq rfl (dq hd 31 64) (by go_simp)) rfl hR
 ·cases x0
  ·exact aj (.bool false) hd 25 58
  cases z1
  ·exact aj (.bool false) hd 25 58
  cases z2
  ·exact aj (.bool false) hd 25 58
  cases z3
  ·exact aj (.bool false) hd 25 58
  have y9 := (HB.out.1.below hR).2 16 _ rfl
  exact yq hd 25 58 (ai rfl (dq hd 32 65) (by go_simp)) rfl hR
 ·cases x0
  ·exact aj (.bool false) hd 25 58
  cases z1
  ·exact aj (.bool false) hd 25 58
  cases z2
  ·exact aj (.bool false) hd 25 58
  cases z3
  ·exact aj (.bool false) hd 25 58
  cases z4
  ·have t4 : ¬ (L.le <= L.tr) := of_decide_eq_false HX.out.2.2.2.2
   exact yq hd 25 58 (aD rfl (dq hd 29 62) (dq hd 33 66) (by go_simp)) rfl hR
  have t4 : (L.le <= L.tr) := of_decide_eq_true HX.out.2.2.2.2
  exact yq hd 25 58 (aD rfl (dq hd 29 62) (dq hd 33 66) (by go_simp)) rfl hR
 ·cases x0
  ·exact yr (aA rfl (dq hd 25 58)) (by simpa using hc _) hR
  cases z1
  ·exact yr (aA rfl (dq hd 25 58)) (by simpa using hc _) hR
  cases z2
  ·exact yr (aA rfl (dq hd 25 58)) (by simpa using hc _) hR
  cases z3
  ·exact yr (aA rfl (dq hd 25 58)) (by simpa using hc _) hR
  exact yr (aA rfl (dq hd 25 58)) (by simpa using (dq hd 34 67)) hR
 exact yr rfl (dq hd 35 68) hR
theorem mY (L : La) (g o n cp : Nat) (a a1 a2 : Option Addr) (l1 l2 c1 c2 : Nat) (f : Nat -> Ca) (w : World) (hB : hU w g o L n cp a a1 a2 l1 l2 c1 c2) (hs : jJ w n f L a a1 a2 l1 l2) (hb : nF n f) :
 Calls prog 205 #[.pointer (some ⟨g, o, none⟩)] w fun e w' => e = .returned (.bool (decide (n <= 40) && dd f n)) /\ Below w.heap.size w w' := by
 have HB : Hid (hU w g o L n cp a a1 a2 l1 l2 c1 c2 /\ lK w a n f /\ nF n f) := ⟨hB, hs.2.2.1, hb⟩
 obtain ⟨⟨y0, y1, y2, y3, y4, y5, y6, y7, y8, y9, y10, y11, y12, y13, y14, y15, y16⟩, _⟩ := hB.svn
 have hn2 := hb.1
 clear hB hs hb
 by_cases h40 : n <= 40
 ·have hg : ¬ (40 < (n : Int)) := by omega
  rw [decide_eq_true h40]
  go_enter func205, ntmps205
  go_wp2
  clear y0 y1 y2 y3 y4 y5 y6 y7 y8 y9 y10 y11 y12 y13 y14 y15 y16
  go_loopw [15] (fun i wr => ∃ k : Nat, k <= n /\ i = .int .i64 k /\ dd f k = true /\ Below w.heap.size w wr) (fun i _ => n - (intOf i).toNat)
  case atStart => exact ⟨0, Nat.zero_le _, rfl, rfl, Below.refl _ _⟩
  case round =>
   obtain ⟨k, hk, rfl, hall, hbl⟩ := hrel
   obtain ⟨⟨y0, y1, y2, y3, y4, y5, y6, y7, y8, y9, y10, y11, y12, y13, y14, y15, y16⟩, _⟩ := (HB.out.1.below hbl).svn
   by_cases hlt : k < n
   ·have hi : (k : Int) < (n : Int) := by omega
    obtain ⟨b, off, b1, b2, m1, m2, k1, k2, rfl, hb0, hm1, hm2, ⟨d0, d1, d2, d3, d4, d5, d6, d7, d8⟩, s1, s2⟩ := lK.nine (HB.out.2.1.below hbl) hlt
    obtain ⟨C, hC⟩ : ∃ C, C = f k := ⟨_, rfl⟩
    rw [<- hC] at d0 d1 d2 d3 d4 d5 d8 hm1 hm2 s1 s2
    obtain ⟨x, hx⟩ : ∃ x, dc C = x := ⟨_, rfl⟩
    have hbd := HB.out.2.2.2 k hlt
    have HS : Hid (aQ wr b1 C.ws /\ aW wr b2 C.bs /\ m1 = C.ws.length /\ m2 = C.bs.length /\ m1 <= 2000000 /\ m2 <= 2000000 /\ C = f k /\ dc C = x /\ dd f k = true /\ Below w.heap.size w wr) := ⟨s1, s2, hm1, hm2, by rw [hm1, hC]; exact hbd.1, by rw [hm2, hC]; exact hbd.2, hC, hx, hall, hbl⟩
    clear s1 s2 hm1 hm2 hC hx hbd hb0 hall hbl
    go_wp2_with fail
    refine (hJ C b (off + k * 9) b1 b2 m1 m2 k1 k2 _ d0 d1 d2 d3 d4 d5 d6 d7 d8 HS.out.2.2.1 HS.out.2.2.2.1 HS.out.1 HS.out.2.1 HS.out.2.2.2.2.1 HS.out.2.2.2.2.2.1).mono ?_
    rintro e w1 ⟨rfl, b9⟩
    rw [HS.out.2.2.2.2.2.2.2.1]
    have HW : Hid (Below w.heap.size w w1) := ae HS.out.2.2.2.2.2.2.2.2.2 b9
    clear b9 d0 d1 d2 d3 d4 d5 d6 d7 d8 y0 y1 y2 y3 y4 y5 y6 y7 y8 y9 y10 y11 y12 y13 y14 y15 y16
    cases x
    case false =>
     have HF : Hid (dd f n = false) := nK hlt (by rw [<- HS.out.2.2.2.2.2.2.1]; exact HS.out.2.2.2.2.2.2.2.1)
     go_wp2
     go_ret
     exact ⟨(by rw [HF.out]; rfl), HW.out⟩
    have HF : Hid (dd f (k + 1) = true) := by show (dd f k && dc (f k)) = true; rw [HS.out.2.2.2.2.2.2.2.2.1, <- HS.out.2.2.2.2.2.2.1, HS.out.2.2.2.2.2.2.2.1]; rfl
    go_wp2
    go_roundw
    case rel => exact ⟨k + 1, by omega, by go_num, HF.out, HW.out⟩
    case measure => simp [intOf]; omega
   have hi : ¬ (k : Int) < (n : Int) := by omega
   have e9 : k = n := by omega
   subst e9
   have HF : Hid (dd f k = true) := hall
   clear hall
   go_wp2
   go_ret
   exact ⟨(by rw [HF.out]; rfl), hbl⟩
 have hg : 40 < (n : Int) := by omega
 rw [decide_eq_false h40]
 go_enter func205, ntmps205
 go_wp2
 go_ret
 exact ⟨rfl, Below.refl _ _⟩
theorem oi (L : La) (g o n cp : Nat) (a a1 a2 : Option Addr) (l1 l2 c1 c2 : Nat) (f : Nat -> Ca) (w : World) (hB : hU w g o L n cp a a1 a2 l1 l2 c1 c2) (hs : jJ w n f L a a1 a2 l1 l2) (hb : nF n f) (hl1 : l1 <= 2000000) (hl2 : l2 <= 2000000) :
 Calls prog 146 #[.pointer (some ⟨g, o, none⟩)] w fun e w' => e = .returned (.bool (gJ n f L l1 l2)) /\ Below w.heap.size w w' := by
 obtain ⟨x0, hx0⟩ : ∃ x, aw L.wt 1 100 = x := ⟨_, rfl⟩
 obtain ⟨x1, hx1⟩ : ∃ x, aw L.tr 0 5 = x := ⟨_, rfl⟩
 obtain ⟨x2, hx2⟩ : ∃ x, aw L.nx 0 65535 = x := ⟨_, rfl⟩
 obtain ⟨x3, hx3⟩ : ∃ x, eM L l1 l2 = x := ⟨_, rfl⟩
 obtain ⟨x4, hx4⟩ : ∃ x, (decide (n <= 40) && dd f n) = x := ⟨_, rfl⟩
 have he : gJ n f L l1 l2 = (x0 && (x1 && (x2 && (x3 && x4)))) := by
  unfold gJ
  rw [hx0, hx1, hx2, hx3, <- hx4]
  cases x0 <;> cases x1 <;> cases x2 <;> cases x3 <;> simp
 have HX : Hid (aw L.wt 1 100 = x0 /\ aw L.tr 0 5 = x1 /\ aw L.nx 0 65535 = x2 /\ eM L l1 l2 = x3 /\ (decide (n <= 40) && dd f n) = x4 /\ hU w g o L n cp a a1 a2 l1 l2 c1 c2 /\ jJ w n f L a a1 a2 l1 l2 /\ nF n f) := ⟨hx0, hx1, hx2, hx3, hx4, hB, hs, hb⟩
 rw [he]
 obtain ⟨⟨y0, y1, y2, y3, y4, y5, y6, y7, y8, y9, y10, y11, y12, y13, y14, y15, y16⟩, _⟩ := hB.svn
 clear hx0 hx1 hx2 hx3 hx4 hB hs hb he
 go_enter func146, ntmps146
 go_wp2_with fail
 refine (td _ _ _ HX.out.1).mono ?_
 rintro e w1 ⟨rfl, rfl⟩
 cases x0
 case false =>
  go_wp2
  go_ret
  exact ⟨rfl, Below.refl _ _⟩
 go_wp2_with fail
 refine (qO _ _ _ HX.out.2.1).mono ?_
 rintro e w1 ⟨rfl, rfl⟩
 cases x1
 case false =>
  go_wp2
  go_ret
  exact ⟨rfl, Below.refl _ _⟩
 go_wp2_with fail
 refine (be _ _ _ HX.out.2.2.1).mono ?_
 rintro e w1 ⟨rfl, rfl⟩
 cases x2
 case false =>
  go_wp2
  go_ret
  exact ⟨rfl, Below.refl _ _⟩
 go_wp2_with fail
 refine (oh L g o n cp a a1 a2 l1 l2 c1 c2 _ HX.out.2.2.2.2.2.1 HX.out.2.2.2.2.2.2.1.1 HX.out.2.2.2.2.2.2.1.2.1 HX.out.2.2.2.2.2.2.1.2.2.2.1 HX.out.2.2.2.2.2.2.1.2.2.2.2 hl1 hl2).mono ?_
 rintro e w1 ⟨rfl, b1⟩
 rw [HX.out.2.2.2.1]
 clear y0 y1 y2 y3 y4 y5 y6 y7 y8 y9 y10 y11 y12 y13 y14 y15 y16
 cases x3
 case false =>
  go_wp2
  go_ret
  exact ⟨rfl, b1⟩
 go_wp2_with fail
 refine (mY L g o n cp a a1 a2 l1 l2 c1 c2 f _ (HX.out.2.2.2.2.2.1.below b1) (HX.out.2.2.2.2.2.2.1.below b1) HX.out.2.2.2.2.2.2.2).mono ?_
 rintro e w2 ⟨rfl, b2⟩
 rw [HX.out.2.2.2.2.1]
 have HW : Hid (Below w1.heap.size w1 w2 /\ Below w2.heap.size w2 w2) := ⟨b2, Below.refl _ _⟩
 have B2 := ae b1 b2
 clear b1 b2
 go_wp2
 go_ret
 exact ⟨rfl, B2⟩
def ma (L : VL) : Ca := ⟨L.id, L.pa, L.un, L.q.kd, L.q.pl, L.q.n, L.q.wa, L.q.ws, L.q.bs⟩
def pq (X : VN) : La := ⟨X.bz, ma X.c, X.nu, X.du, X.le, X.nx, X.wt, X.tr⟩
def cI (X : VN) : Bool := gJ X.nq (fun k => ma (X.qf k)) (pq X) X.c.q.ws.length X.c.q.bs.length
def iT (X : VN) : Prop := X.nq <= 2000000 /\ (∀ k, k < X.nq -> (X.qf k).q.ws.length <= 2000000 /\ (X.qf k).q.bs.length <= 2000000) /\ X.c.q.ws.length <= 2000000 /\ X.c.q.bs.length <= 2000000
theorem Rd.slc {w : World} {lo n : Nat} {f : Nat -> VL} {a : Option Addr} {m c : Nat} (h : Rd w lo (.list 9 n (fun i => aa (aO (f i)))) (.slice a m c)) : lK w a n (fun k => ma (f k)) := by
 obtain ⟨a', c', h1, h2, h3, h4⟩ := h
 simp only [Value.slice.injEq] at h1
 obtain ⟨rfl, rfl, rfl⟩ := h1
 rcases h4 with h4 | ⟨g, off, F, ha, hlo, hgs, hc⟩
 ·subst h4; exact rT _ _ _ _
 refine ⟨F, .inr ⟨g, off, ha, hgs, fun k hk j hj => ?_⟩, fun k hk => ?_⟩
 ·obtain ⟨q1, q2⟩ := hc k hk
  obtain ⟨v, hv⟩ : ∃ v, (F k)[j]? = some v := ⟨(F k)[j]'(by omega), by simp⟩
  rw [(q2 j v hv).1, hv]
 obtain ⟨q1, q2⟩ := hc k hk
 obtain ⟨a1, c1, a2, c2, e, r1, r2⟩ := VL.cells (w := w) (lo := lo) (X := f k) (fun j v hv => (q2 j v hv).2) q1
 obtain ⟨_, _, e1, _, _, s1⟩ := r1.ints
 obtain ⟨_, _, e2, _, _, s2⟩ := r2.bools
 simp only [Value.slice.injEq] at e1 e2
 rw [<- e1.1] at s1
 rw [<- e2.1] at s2
 exact ⟨a1, a2, c1, c2, e, s1, s2⟩
theorem pr (X : VN) (g o : Nat) (vs : List Value) (w : World) (hg : g < w.heap.size) (hlen : vs.length = 17) (hr : w.rangeAt g o vs) (hrd : ay w 0 (aa (aU X)) vs) (hb : iT X) :
 Calls prog 146 #[.pointer (some ⟨g, o, none⟩)] w fun e w' => e = .returned (.bool (cI X)) /\ Below w.heap.size w w' := by
 obtain ⟨a1, c1, a2, c2, a3, c3, rfl, r1, r2, r3⟩ := VN.cells hrd hlen
 obtain ⟨_, _, e2, _, _, s2⟩ := r2.ints
 obtain ⟨_, _, e3, _, _, s3⟩ := r3.bools
 simp only [Value.slice.injEq] at e2 e3
 rw [<- e2.1] at s2
 rw [<- e3.1] at s3
 exact oi (pq X) g o X.nq c1 a1 a2 a3 X.c.q.ws.length X.c.q.bs.length c2 c3 (fun k => ma (X.qf k)) w ⟨hg, hr⟩ ⟨rfl, rfl, r1.slc, s2, s3⟩ ⟨hb.1, fun k hk => hb.2.1 k hk⟩ hb.2.2.1 hb.2.2.2
def dK (w : World) (g o : Nat) (X : VF) : Prop := g < w.heap.size /\ ∃ vs, vs.length = 11 /\ w.rangeAt g o vs /\ ay w 0 (aa (dS X)) vs
theorem dK.below {w w' : World} {g o : Nat} {X : VF} (h : dK w g o X) (hb : Below w.heap.size w w') : dK w' g o X := by
 obtain ⟨h1, vs, h2, h3, h4⟩ := h
 exact ⟨Nat.lt_of_lt_of_le h1 hb.size, vs, h2, fun j v hv => (hb.cell (p := ⟨g, o + j, none⟩) h1).trans (h3 j v hv), h4.below hb⟩
theorem dK.tc {w : World} {g o : Nat} {X : VF} (h : dK w g o X) : ∃ a1 c1 a2 c2 a3 c3, (w.cell? ⟨g, o, none⟩ = some (.int .i64 X.nw) /\ w.cell? ⟨g, o + 1, none⟩ = some (.int .i64 X.set.wt) /\ w.cell? ⟨g, o + 2, none⟩ = some (.int .i64 X.set.tr) /\ w.cell? ⟨g, o + 3, none⟩ = some (.slice a1 X.set.n c1) /\ w.cell? ⟨g, o + 4, none⟩ = some (.int .i64 X.op.nx) /\ w.cell? ⟨g, o + 5, none⟩ = some (.slice a2 X.op.m c2) /\ w.cell? ⟨g, o + 6, none⟩ = some (.slice a3 X.nl c3) /\ w.cell? ⟨g, o + 7, none⟩ = some (.int .i64 X.sk) /\ w.cell? ⟨g, o + 8, none⟩ = some (.int .i64 X.re) /\ w.cell? ⟨g, o + 9, none⟩ = some (.int .i64 X.fa) /\ w.cell? ⟨g, o + 10, none⟩ = some (.int .i64 X.se)) /\ Rd w 0 (.list 7 X.set.n (fun i => aa (bi (X.set.f i)))) (.slice a1 X.set.n c1) /\ Rd w 0 (.list 13 X.op.m (fun i => aa (dT (X.op.f i)))) (.slice a2 X.op.m c2) /\ Rd w 0 (.list 17 X.nl (fun i => aa (aU (X.lf i)))) (.slice a3 X.nl c3) := by
 obtain ⟨h1, vs, h2, h3, h4⟩ := h
 obtain ⟨a1, c1, a2, c2, a3, c3, rfl, r1, r2, r3⟩ := VF.cells h4 h2
 exact ⟨a1, c1, a2, c2, a3, c3, ⟨h3 0 _ rfl, h3 1 _ rfl, h3 2 _ rfl, h3 3 _ rfl, h3 4 _ rfl, h3 5 _ rfl, h3 6 _ rfl, h3 7 _ rfl, h3 8 _ rfl, h3 9 _ rfl, h3 10 _ rfl⟩, r1, r2, r3⟩
theorem kr (X : VF) (g o : Nat) (w : World) (h : dK w g o X) (hb : ∀ k, k < X.nl -> iT (X.lf k)) :
 Calls prog 90 #[.pointer (some ⟨g, o, none⟩)] w fun e w' => e = .returned (.bool (decide (X.nl = 6) && aI (fun i => cI (X.lf i)) X.nl)) /\ Below w.heap.size w w' := by
 have HP : Hid (dK w g o X /\ ∀ k, k < X.nl -> iT (X.lf k)) := ⟨h, hb⟩
 obtain ⟨a1, c1, a2, c2, a3, c3, ⟨y0, y1, y2, y3, y4, y5, y6, y7, y8, y9, y10⟩, r1, r2, r3⟩ := h.tc
 clear r1 r2 r3 h hb
 by_cases e6 : X.nl = 6
 ·have h6 : ((X.nl : Int) != 6) = false := by simp; omega
  rw [decide_eq_true e6]
  go_enter func90, ntmps90
  have HE : Hid (X.nl = 6) := e6
  have hn6 : X.nl <= 6 := by omega
  clear e6
  go_wp2
  clear y0 y1 y2 y3 y4 y5 y6 y7 y8 y9 y10
  go_loopw [15] (fun i wr => ∃ k : Nat, k <= X.nl /\ i = .int .i64 k /\ aI (fun i => cI (X.lf i)) k = true /\ Below w.heap.size w wr) (fun i _ => X.nl - (intOf i).toNat)
  case atStart => exact ⟨0, Nat.zero_le _, rfl, rfl, Below.refl _ _⟩
  case round =>
   obtain ⟨k, hk, rfl, hall, hbl⟩ := hrel
   obtain ⟨b1, k1, b2, k2, b3, k3, ⟨y0, y1, y2, y3, y4, y5, y6, y7, y8, y9, y10⟩, q1, q2, q3⟩ := (HP.out.1.below hbl).tc
   by_cases hlt : k < X.nl
   ·have hi : (k : Int) < (X.nl : Int) := by omega
    obtain ⟨b, off, vs, rfl, _, hb0, hlen, hr, hrd⟩ := q3.at hlt
    obtain ⟨x, hx⟩ : ∃ x, cI (X.lf k) = x := ⟨_, rfl⟩
    have HS : Hid ((b < wr.heap.size /\ vs.length = 17 /\ wr.rangeAt b (off + k * 17) vs /\ ay wr 0 (aa (aU (X.lf k))) vs) /\ cI (X.lf k) = x /\ aI (fun i => cI (X.lf i)) k = true /\ Below w.heap.size w wr) := ⟨⟨hb0, hlen, hr, hrd⟩, hx, hall, hbl⟩
    clear q1 q2 q3 hb0 hlen hr hrd hx hall hbl
    go_wp2_with fail
    refine (pr (X.lf k) b (off + k * 17) vs _ HS.out.1.1 HS.out.1.2.1 HS.out.1.2.2.1 HS.out.1.2.2.2 (HP.out.2 k hlt)).mono ?_
    rintro e w1 ⟨rfl, b9⟩
    rw [HS.out.2.1]
    have HW : Hid (Below w.heap.size w w1) := ae HS.out.2.2.2 b9
    clear b9 y0 y1 y2 y3 y4 y5 y6 y7 y8 y9 y10
    cases x
    case false =>
     have HF : Hid (aI (fun i => cI (X.lf i)) X.nl = false) := cM hlt HS.out.2.1
     go_wp2
     go_ret
     exact ⟨by rw [HF.out]; rfl, HW.out⟩
    have HF : Hid (aI (fun i => cI (X.lf i)) (k + 1) = true) := cF HS.out.2.2.1 HS.out.2.1
    go_wp2
    go_roundw
    case rel => exact ⟨k + 1, by omega, by go_num, HF.out, HW.out⟩
    case measure => simp [intOf]; omega
   have hi : ¬ (k : Int) < (X.nl : Int) := by omega
   have e9 : k = X.nl := by omega
   have HF : Hid (aI (fun i => cI (X.lf i)) X.nl = true /\ Below w.heap.size w wr) := ⟨by rw [<- e9]; exact hall, hbl⟩
   clear hall hbl e9 q1 q2 q3
   go_wp2
   go_ret
   exact ⟨by rw [HF.out.1]; rfl, HF.out.2⟩
 have h6 : ((X.nl : Int) != 6) = true := by simp; omega
 rw [decide_eq_false e6]
 clear e6
 go_enter func90, ntmps90
 go_wp2
 go_ret
 exact ⟨rfl, Below.refl _ _⟩
theorem pu (g o : Nat) (w : World) : Calls prog 141 #[.pointer (some ⟨g, o, none⟩), .int .i64 0] w fun e w' => e = .returned (.pointer (some ⟨g, o + 7, none⟩)) /\ w' = w := by
 go_enter func141, ntmps141
 go_wp2
 go_ret
 exact ⟨rfl, rfl⟩
theorem pw (g o : Nat) (w : World) : Calls prog 141 #[.pointer (some ⟨g, o, none⟩), .int .i64 1] w fun e w' => e = .returned (.pointer (some ⟨g, o + 8, none⟩)) /\ w' = w := by
 go_enter func141, ntmps141
 go_wp2
 go_ret
 exact ⟨rfl, rfl⟩
theorem px (g o : Nat) (w : World) : Calls prog 141 #[.pointer (some ⟨g, o, none⟩), .int .i64 2] w fun e w' => e = .returned (.pointer (some ⟨g, o + 9, none⟩)) /\ w' = w := by
 go_enter func141, ntmps141
 go_wp2
 go_ret
 exact ⟨rfl, rfl⟩
theorem py (g o : Nat) (w : World) : Calls prog 141 #[.pointer (some ⟨g, o, none⟩), .int .i64 3] w fun e w' => e = .returned (.pointer (some ⟨g, o + 10, none⟩)) /\ w' = w := by
 go_enter func141, ntmps141
 go_wp2
 go_ret
 exact ⟨rfl, rfl⟩
def fm (X : VF) (k : Nat) : Int := match k with | 0 => X.sk | 1 => X.re | 2 => X.fa | _ => X.se
theorem mZ (X : VF) (g o : Nat) (w : World) (h : dK w g o X) (k : Nat) (hk : k < 4) : Calls prog 141 #[.pointer (some ⟨g, o, none⟩), .int .i64 (k : Int)] w fun e w' => ∃ p, e = .returned (.pointer (some ⟨g, p, none⟩)) /\ w.cell? ⟨g, p, none⟩ = some (.int .i64 (fm X k)) /\ w' = w := by
 obtain ⟨a1, c1, a2, c2, a3, c3, ⟨y0, y1, y2, y3, y4, y5, y6, y7, y8, y9, y10⟩, r1, r2, r3⟩ := h.tc
 match k, hk with
 | 0, _ => exact (pu g o w).mono (fun e w' h => ⟨_, h.1, y7, h.2⟩)
 | 1, _ => exact (pw g o w).mono (fun e w' h => ⟨_, h.1, y8, h.2⟩)
 | 2, _ => exact (px g o w).mono (fun e w' h => ⟨_, h.1, y9, h.2⟩)
 | 3, _ => exact (py g o w).mono (fun e w' h => ⟨_, h.1, y10, h.2⟩)
 | k + 4, hk => omega
theorem jK (X : VF) (g o : Nat) (w : World) (h : dK w g o X) :
 Calls prog 87 #[.pointer (some ⟨g, o, none⟩)] w fun e w' => e = .returned (.bool (aI (fun k => aw (fm X k) 0 1000000000) 4)) /\ w' = w := by
 have HP : Hid (dK w g o X) := h
 clear h
 go_enter func87, ntmps87
 go_wp2
 go_loopw [5] (fun i wr => ∃ k : Nat, k <= 4 /\ i = .int .i64 k /\ aI (fun k => aw (fm X k) 0 1000000000) k = true /\ wr = w) (fun i _ => 4 - (intOf i).toNat)
 case atStart => exact ⟨0, Nat.zero_le _, rfl, rfl, rfl⟩
 case round =>
  obtain ⟨k, hk, rfl, hall, hw⟩ := hrel
  subst hw
  by_cases hlt : k < 4
  ·have hi : (k : Int) < 4 := by omega
   have HA : Hid (aI (fun k => aw (fm X k) 0 1000000000) k = true) := hall
   clear hall
   go_wp2_with fail
   refine (mZ X g o _ HP.out k hlt).mono ?_
   rintro e w1 ⟨p, rfl, hc, hw⟩
   have hw := hw.symm
   subst hw
   obtain ⟨z, hz⟩ : ∃ z, z = fm X k := ⟨_, rfl⟩
   rw [<- hz] at hc
   have HZ : Hid (z = fm X k) := hz
   clear hz
   by_cases h0 : z < 0
   ·have HF : Hid (aI (fun k => aw (fm X k) 0 1000000000) 4 = false) := cM hlt (by show aw (fm X k) 0 1000000000 = false; rw [<- HZ.out]; unfold aw; exact decide_eq_false (by omega))
    go_wp2
    go_ret
    exact ⟨by rw [HF.out]; rfl, rfl⟩
   by_cases h1 : 1000000000 < z
   ·have HF : Hid (aI (fun k => aw (fm X k) 0 1000000000) 4 = false) := cM hlt (by show aw (fm X k) 0 1000000000 = false; rw [<- HZ.out]; unfold aw; exact decide_eq_false (by omega))
    go_wp2
    go_ret
    exact ⟨by rw [HF.out]; rfl, rfl⟩
   have HF : Hid (aI (fun k => aw (fm X k) 0 1000000000) (k + 1) = true) := cF HA.out (by show aw (fm X k) 0 1000000000 = true; rw [<- HZ.out]; unfold aw; exact decide_eq_true (by omega))
   go_wp2
   go_roundw
   case rel => exact ⟨k + 1, by omega, by go_num, HF.out, trivial⟩
   case measure => simp [intOf]; omega
  have hi : ¬ (k : Int) < 4 := by omega
  have e9 : k = 4 := by omega
  subst e9
  have HF : Hid (aI (fun k => aw (fm X k) 0 1000000000) 4 = true) := hall
  clear hall
  go_wp2
  go_ret
  exact ⟨by rw [HF.out]; rfl, rfl⟩
end Go.Proofs.YtplaoagcedgdfaaGreat

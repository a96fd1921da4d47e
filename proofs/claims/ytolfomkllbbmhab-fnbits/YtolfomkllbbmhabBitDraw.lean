/- Drawn bits; they come back of their bytes. -/
import Derived.Test.YtolfomkllbbmhabCur4
import Derived.Test.YtolfomkllbbmhabUnp2
import Derived.Test.YtolfomkllbbmhabPackL
namespace Go.Proofs.Ytolfomkllbbmhab
open Go.RowKit

theorem add_bit : ∀ s : Nat, s < 8 → ∀ x : Nat, x < 2 ^ s → ∀ r : Nat, r < 8 → (x + 2 ^ s) / 2 ^ r % 2 = if r = s then 1 else x / 2 ^ r % 2 := by decide +kernel

theorem pv_bit (bs : List Bool) (k : Nat) : ∀ K, (pv bs K (k / 8) / ((2 ^ (k % 8) : Nat) : Int)) % 2 = if k < K ∧ bs.getD k false = true then 1 else 0
  | 0 => by simp [pv]
  | K + 1 => by
    have ih := pv_bit bs k K
    rw [pv]
    by_cases h : K / 8 = k / 8 ∧ bs.getD K false = true
    · rw [if_pos h]
      obtain ⟨h0, _, h2, _⟩ := pv_bound bs K (k / 8)
      have hlt := h2 h.1.symm
      obtain ⟨x, hx⟩ := Int.eq_ofNat_of_zero_le h0
      rw [hx] at ih hlt ⊢
      have hxs : x < 2 ^ (K % 8) := by omega
      have e1 : ((x : Int) + ((2 ^ (K % 8) : Nat) : Int)) / ((2 ^ (k % 8) : Nat) : Int) % 2 = (((x + 2 ^ (K % 8)) / 2 ^ (k % 8) % 2 : Nat) : Int) := by simp
      have e2 : ((x : Int) / ((2 ^ (k % 8) : Nat) : Int)) % 2 = ((x / 2 ^ (k % 8) % 2 : Nat) : Int) := by simp
      rw [e1, add_bit (K % 8) (Nat.mod_lt _ (by decide)) x hxs (k % 8) (Nat.mod_lt _ (by decide))]
      rw [e2] at ih
      by_cases e : k = K
      · subst e
        rw [if_pos rfl, if_pos ⟨by omega, h.2⟩]; rfl
      · rw [if_neg (by omega), ih]
        by_cases hk : k < K ∧ bs.getD k false = true
        · rw [if_pos hk, if_pos ⟨by omega, hk.2⟩]
        · rw [if_neg hk, if_neg (fun hh => hk ⟨by omega, hh.2⟩)]
    · rw [if_neg h, ih]
      by_cases hk : k < K ∧ bs.getD k false = true
      · rw [if_pos hk, if_pos ⟨by omega, hk.2⟩]
      · rw [if_neg hk, if_neg (fun hh => hk ⟨by
          have := hh.1
          by_cases e : k = K
          · subst e; exact absurd ⟨rfl, hh.2⟩ h
          · omega, hh.2⟩)]

theorem ub_pack (bs : List Bool) (m k : Nat) (hk : k / 8 < m) : ub (packL bs m) k = (decide (k < bs.length) && bs.getD k false) := by
  unfold ub
  have e : (packL bs m).getD (k / 8) 0 = pv bs bs.length (k / 8) := by simp [packL, hk]
  rw [e, pv_bit]
  by_cases h : k < bs.length ∧ bs.getD k false = true
  · rw [if_pos h, decide_eq_true h.1, h.2]; rfl
  · rw [if_neg h]
    by_cases h1 : k < bs.length
    · have : bs.getD k false = false := by
        cases hh : bs.getD k false with
        | false => rfl
        | true => exact absurd ⟨h1, hh⟩ h
      rw [this]; simp
    · rw [decide_eq_false h1]; rfl

theorem unpack_pack (bs : List Bool) (n m : Nat) (hn : n = bs.length) (hm : m = (n + 7) / 8) : okU (packL bs m) (n : Int) = true ∧ outU (packL bs m) (n : Int) = bs := by
  have Y := okU_yes (zs := packL bs m) (x := n) (by rw [packL_length]; omega) (fun j hj hx => by
    rw [packL_length] at hj
    rw [ub_pack bs m j (by omega), decide_eq_false (by omega)]; rfl)
  refine ⟨Y.1, ?_⟩
  rw [Y.2]
  apply List.ext_getElem?
  intro i
  by_cases hi : i < bs.length
  · have e : (ubs (packL bs m) n)[i]? = some (ub (packL bs m) i) := by simp [ubs, hn, hi]
    rw [e, ub_pack bs m i (by omega), decide_eq_true hi]
    simp [hi]
  · rw [List.getElem?_eq_none (by rw [ubs_length]; omega), List.getElem?_eq_none (by omega)]

theorem packL_range (bs : List Bool) (m : Nat) (hm : m = (bs.length + 7) / 8) : ∀ z ∈ packL bs m, 0 ≤ z ∧ z ≤ 255 := by
  intro z hz
  obtain ⟨i, hi, rfl⟩ := List.mem_map.1 hz
  have hi' := List.mem_range.1 hi
  obtain ⟨h0, h1, h2, _⟩ := pv_bound bs bs.length i
  refine ⟨h0, ?_⟩
  by_cases e : i = bs.length / 8
  · have h3 := h2 e
    have hp : (2 ^ (bs.length % 8) : Nat) ≤ 2 ^ 7 := Nat.pow_le_pow_right (by decide) (by have := Nat.mod_lt bs.length (show 0 < 8 by decide); omega)
    omega
  · have := h1 (by omega); omega

set_option maxHeartbeats 1000000 in
theorem l1Once_any (w0 : World) (a : Option Addr) (cap : Nat) (zs : List Int) (w : World) (g : Nat) (n : Int) (hn : 1 ≤ n) (hC : Cur w0 a cap zs w g) :
    Calls Try.prog 24 #[.pointer (some ⟨g, 0, none⟩), .int .i64 n] w fun e w' => ∃ t : Bool, e = .returned (.bool t) ∧ Cur w0 a cap zs w' g ∧ w.grownBy w' (some g) := by
  go_enter Try.func24, Try.ntmps24
  go_wp2_with fail
  refine (l1Below_any w0 a cap zs _ g n hn hC).mono ?_
  rintro e w1 ⟨x, rfl, _, C1, g1⟩
  have R : Hid (Cur w0 a cap zs w1 g ∧ w.grownBy w1 (some g)) := ⟨C1, g1⟩
  clear hC C1 g1
  go_wp2
  go_ret
  exact ⟨_, rfl, R.out⟩

/-- What drawing bits ends with. -/
def DrawnBits (w0 : World) (a : Option Addr) (cap : Nat) (zs : List Int) (w : World) (g n : Nat) (e : Ending) (w' : World) : Prop :=
  ∃ (ad : Addr) (c : Nat) (bs : List Bool), e = .returned (.slice (some ad) n c) ∧ n = bs.length ∧ OwnB w' w.heap.size (.slice (some ad) n c) bs ∧ Cur w0 a cap zs w' g ∧ w.grownBy w' (some g)

theorem ownB_some {w : World} {base : Nat} {v : Value} {bs : List Bool} (h : OwnB w base v bs) (h0 : 0 < bs.length) : ∃ ad c, v = .slice (some ad) bs.length c := by
  obtain ⟨_, h2⟩ := h
  rcases h2 with ⟨h2, h3⟩ | ⟨g, cap', cur, hv, _⟩
  · omega
  · exact ⟨_, _, hv⟩

theorem bits_step {w0 w wr w1 w2 : World} {a : Option Addr} {cap g : Nat} {zs : List Int} {bs : List Bool} {v v' : Value} {o1 : Obj} {x : Bool} (hg : g < w.heap.size) (gr : w.grownBy wr (some g)) (ho : OwnB wr w.heap.size v bs) (C1 : Cur w0 a cap zs w1 g) (g1 : wr.grownBy w1 (some g))
    (h2 : w2.ownsRow w.heap.size 4 1 v' (bs.length + 1) (bs.map Value.bool ++ [Value.bool x])) (g2 : (w1.alloc o1).grownBy w2 v.ownBlock) (hlo : w0.heap.size ≤ g) :
    OwnB w2 w.heap.size v' (bs ++ [x]) ∧ Cur w0 a cap zs w2 g ∧ w.grownBy w2 (some g) := by
  have hv : ∀ k, v.ownBlock = some k → w.heap.size ≤ k := fun k hk => (World.ownsRow.lt ho k hk).1
  refine ⟨by simpa [OwnB] using h2, (C1.alloc o1).grown g2 (fun e => by have := hv g e.symm; omega) (fun k hk => by have := hv k hk; omega), ?_⟩
  have gg := grown_trans gr g1
  refine ⟨g2.os.trans gg.os, g2.tape.trans gg.tape, g2.output.trans gg.output, ?_, fun k hk hne => ?_⟩
  · have h := g2.size
    have h' := gg.size
    simp at h
    omega
  · rw [g2.block k (by have := gg.size; simp; omega) (fun e => by have := hv k e.symm; omega)]
    rw [Below.heap_alloc w1 o1 k (by have := gg.size; omega)]
    exact gg.block k hk hne

set_option maxHeartbeats 2000000 in
theorem l2Bits_any (w0 : World) (a : Option Addr) (cap : Nat) (zs : List Int) (w : World) (g : Nat) (n : Nat) (hn : n ≤ 1000000) (hC : Cur w0 a cap zs w g) :
    Calls Try.prog 18 #[.pointer (some ⟨g, 0, none⟩), .int .i64 n] w fun e w' => DrawnBits w0 a cap zs w g n e w' := by
  obtain ⟨i0, hi, hz0, hz1, hz2⟩ := info_parts Try.info4
  have hml : n + 2 ≤ maxLen := by unfold maxLen; omega
  have o0 := World.ownsRow_lit (base := w.heap.size) (e := 4) (size := 1) w #[] 0 (Nat.le_refl _) (by omega) rfl
  have hg := hC.hi
  have hlo := hC.lo
  have C0 := hC.alloc (.cells #[] 4)
  have G0 : w.grownBy (w.alloc (.cells #[] 4)) (some g) := World.grownBy_alloc _ _ _
  clear hC
  go_enter Try.func18, Try.ntmps18
  go_wp2
  go_loopw [5, 6] (fun v i wr => ∃ (k : Nat) (ad : Addr) (c : Nat) (bs : List Bool), k ≤ n ∧ i = .int .i64 k ∧ v = .slice (some ad) k c ∧ bs.length = k ∧ OwnB wr w.heap.size v bs ∧ Cur w0 a cap zs wr g ∧ w.grownBy wr (some g)) (fun _ i _ => n - (intOf i).toNat)
  case atStart => exact ⟨0, _, _, [], Nat.zero_le _, rfl, rfl, rfl, o0, C0, G0⟩
  case round =>
    obtain ⟨k, ad, c, bs, hk, rfl, rfl, hb, ho, C, G⟩ := hrel
    by_cases hlt : k < n
    · have hi' : (k : Int) < (n : Int) := by omega
      have HB : Hid (bs.length = k) := hb
      clear o0 C0 G0 hb
      go_wp2_with fail
      refine (l1Once_any w0 a cap zs _ g _ (by decide) C).mono ?_
      rintro e w1 ⟨x, rfl, C1, g1⟩
      have ho1 : w1.ownsRow w.heap.size 4 1 (.slice (some ad) k c) bs.length (bs.map Value.bool) := ho.kept g1 (.inr (fun e => by have := (World.ownsRow.lt ho g e).1; omega))
      have hm1 : bs.length + 1 ≤ maxLen := by rw [HB.out]; omega
      have hm2 : (bs.length + 1) * 1 ≤ 140737488355328 := by rw [HB.out]; omega
      have hsz : w.heap.size ≤ w1.heap.size := Nat.le_trans G.size g1.size
      go_wp2_with (at_builtin; refine wpList_append_own _ rfl (.tmp 13) (.tmp 16) 24 rfl w.heap.size 4 i0 (.bool false) 1 1 Try.underlying24 hi hz0 hz1 hz2 rfl (by decide) (.slice (some ad) k c) bs.length (bs.map Value.bool) rfl (ho1.alloc _) ⟨w1.heap.size, 0, none⟩ 1 1 [.bool x] rfl (by simp) one_cellB (one_oneB _) hm1 hm2 (by simp; omega) ?_; intro v' w2 o2 g2 _; have R := bits_step hg G ho C1 g1 o2 g2 hlo; clear ho ho1 o2 g2)
      obtain ⟨R1, R2, R3⟩ := R
      obtain ⟨ad', c', hv⟩ := ownB_some R1 (by simp)
      have hv' : Hid (v' = .slice (some ad') (k + 1) c') := by
        show v' = _
        rw [hv, List.length_append, HB.out]; rfl
      clear hv
      go_roundw
      case rel => exact ⟨k + 1, ad', c', bs ++ [x], by omega, by go_num, hv'.out, by rw [List.length_append, HB.out]; rfl, R1, R2, R3⟩
      case measure => simp [intOf]; omega
    · obtain rfl : k = n := by omega
      clear o0 C0 G0
      go_wp2
      go_ret
      exact ⟨ad, c, bs, rfl, hb.symm, ho, C, G⟩

def bitList : List Int := [0, 1, 7, 8, 9, 20]

set_option maxHeartbeats 1000000 in
theorem drawPackBits_any (w : World) (a : Option Addr) (n cap : Nat) (zs : List Int) (hn : n = zs.length) (hs : Sl w a zs) (hr : ∀ z ∈ zs, 0 ≤ z ∧ z ≤ 255) (hl : zs.length ≤ 1048576) :
    Calls Try.prog 6 #[.slice a n cap] w fun e w' => ∃ (ad : Addr) (k c : Nat) (bs : List Bool), e = .returned (.slice (some ad) k c) ∧ k = bs.length ∧ k ≤ 20 ∧ OwnB w' w.heap.size (.slice (some ad) k c) bs ∧ Below w.heap.size w w' := by
  subst hn
  go_enter Try.func6, Try.ntmps6
  go_wp2_with fail
  refine (l1New_any w a _ cap zs rfl hs hr hl).mono ?_
  rintro e w1 ⟨rfl, C1, _⟩
  clear hs hr
  go_wp2_with fail
  have I := ints_lit w1 bitList 3
  refine (l1Int_any w a cap zs _ _ ⟨w1.heap.size, 0, none⟩ _ _ bitList rfl (by decide) (by decide) I (by have := C1.hi; show w1.heap.size ≠ w.heap.size; omega) (C1.alloc _)).mono ?_
  rintro e w2 ⟨x, rfl, hx, C2, g2⟩
  have hb : 0 ≤ x ∧ x ≤ 20 := by simp [bitList] at hx; omega
  obtain ⟨k, rfl⟩ := Int.eq_ofNat_of_zero_le hb.1
  have hk20 : k ≤ 20 := by omega
  clear I C1 g2 hx hb
  go_wp2_with fail
  refine (l2Bits_any w a cap zs _ _ k (by omega) C2).mono ?_
  rintro e w3 ⟨ad, c, bs, rfl, hkb, ho, C3, _⟩
  have R : Hid (k = bs.length ∧ k ≤ 20 ∧ OwnB w3 w.heap.size (.slice (some ad) k c) bs ∧ Below w.heap.size w w3) := by
    refine ⟨hkb, hk20, ?_, C3.bel⟩
    obtain ⟨h1, h2⟩ := ho
    refine ⟨h1, ?_⟩
    rcases h2 with h2 | ⟨g, cap, cur, hv, hg, r⟩
    · exact .inl h2
    · exact .inr ⟨g, cap, cur, hv, by have := C2.hi; omega, r⟩
  clear ho C2 C3 hkb
  go_wp2
  go_ret
  exact ⟨ad, k, c, bs, rfl, R.out⟩

theorem sameBits_ok (a a' : Option Addr) (n n' cap cap' : Nat) (zs : List Bool) (w : World) (hn : n = zs.length) (hn' : n' = zs.length) (hs : SlB w a zs) (hs' : SlB w a' zs) (hl : zs.length ≤ 20000000) :
    Calls Try.prog 9 #[.slice a n cap, .slice a' n' cap'] w fun e w' => e = .returned (.bool true) ∧ Below w.heap.size w w' := by
  refine (sameBits_true a a' n n' cap cap' zs w hn hn' hs hs' hl).mono ?_
  rintro e w' ⟨rfl, k, rfl⟩
  exact ⟨rfl, drew_refl _ _⟩

def UnIsB (R : List Int) (n : Nat) (bs : List Bool) : Prop := okU R (n : Int) = true ∧ outU R (n : Int) = bs

set_option maxHeartbeats 4000000 in
theorem bits_law (a : Option Addr) (cap : Nat) (zs : List Int) (w : World) (hs : Sl w a zs) (hr : ∀ z ∈ zs, 0 ≤ z ∧ z ≤ 255) (hl : zs.length ≤ 1048576) :
    Calls Try.prog 3 #[.slice a zs.length cap] w fun e w' => e = .returned (.bool true) ∧ Below w.heap.size w w' := by
  have hl' : ¬ (1048576 : Int) < (zs.length : Int) := by omega
  go_enter Try.func3, Try.ntmps3
  go_wp2_with (first | (go_at_call 5; go_in) | fail)
  refine (drawPackBits_any w a _ cap zs rfl hs hr hl).mono ?_
  rintro e w1 ⟨ad, n, c, bs, rfl, hn', hn20, o1, b1⟩
  have HN : Hid (n = bs.length) := hn'
  obtain ⟨m, hm'⟩ : ∃ m, m = (n + 7) / 8 := ⟨_, rfl⟩
  have HM : Hid (m = (n + 7) / 8) := hm'
  obtain ⟨R, hR'⟩ : ∃ R, R = packL bs m := ⟨_, rfl⟩
  have HE : Hid (PackIs bs n m R) := ⟨hm', hR'⟩
  have HRm : Hid (m = R.length) := by show m = R.length; rw [hR', packL_length]
  have HU : Hid (UnIsB R n bs) := by
    have := unpack_pack bs n m hn' hm'
    show okU R (n : Int) = true ∧ outU R (n : Int) = bs
    rw [hR']; exact this
  have HRr : Hid (∀ z ∈ R, 0 ≤ z ∧ z ≤ 255) := by show ∀ z ∈ R, _; rw [hR']; exact packL_range bs m (by rw [← hn']; exact hm')
  have hmi : ((n : Int) + 7) / 8 = (m : Int) := by omega
  have hm20 : m ≤ 20 := by omega
  have HX : Hid (okU R ((n : Int) + 9) = false ∧ outU R ((n : Int) + 9) = []) := okU_no (by rw [← HRm.out]; omega)
  have HB20 : Hid (bs.length ≤ 20) := by show bs.length ≤ 20; omega
  clear hs hr hn' hm' hR'
  go_wp2_with fail
  refine (implPackBits_ok _ n _ m bs R _ HN.out HE.out o1.sl.2 (by omega)).mono ?_
  rintro e w2 ⟨g2, rfl, p2, b2'⟩
  have b2 := bel_next b1 b2'
  have o2 := o1.below b2'
  clear b1 o1 b2'
  go_wp2_with fail
  refine (implUnpack_any _ m _ R (n : Int) _ HRm.out p2.sl.2 HRr.out (by omega) (by omega)).mono ?_
  unfold UnEnds
  rw [HU.out.1, HU.out.2, ← HN.out]
  rintro e w3 ⟨a3, c3, rfl, x3, b3'⟩
  have b3 := bel_next b2 b3'
  have o3 := o2.below b3'
  have p3 := p2.below b3'
  clear b2 o2 p2 b3'
  go_wp2_with fail
  refine (implUnpack_any _ m _ R ((n : Int) + 9) _ HRm.out p3.sl.2 HRr.out (by omega) (by omega)).mono ?_
  unfold UnEnds
  rw [HX.out.1, HX.out.2]
  rintro e w4 ⟨a4, c4, rfl, _, b4'⟩
  have b4 := bel_next b3 b4'
  have o4 := o3.below b4'
  have x4 := x3.below b4'
  clear b3 o3 x3 p3 b4'
  go_wp2_with fail
  refine (sameBits_ok _ _ _ _ _ _ bs _ HN.out HN.out x4.sl.2 o4.sl.2 (by have := HB20.out; omega)).mono ?_
  rintro e w5 ⟨rfl, b5'⟩
  have b5 := bel_next b4 b5'
  clear b4 b5' o4 x4
  go_wp2
  go_ret
  exact ⟨rfl, b5⟩

end Go.Proofs.Ytolfomkllbbmhab

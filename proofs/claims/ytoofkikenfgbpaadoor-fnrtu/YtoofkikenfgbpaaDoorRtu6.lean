/- RtuWait, of the program and of its model. -/
import Derived.Test.YtoofkikenfgbpaaDoorRtu4
import Derived.Test.YtoofkikenfgbpaaDoorRtu5
namespace Go.Proofs.YtoofkikenfgbpaaDoor
open Go.RowKit

set_option linter.unusedVariables false

set_option linter.unusedSimpArgs false

/-- A frame ends there. -/
def wtE (l : Nat) (ls : Int) (bd : Bool) (hf wh tk : Int) : Bool := (okT l ls bd hf wh && tkB tk) && (decide (0 < l) && decide (wh ≤ gap ls tk))

/-- What is told of it. -/
def gotOf (bd : Bool) (zs : List Int) : Int × Int × List Int := bif bd then (5, 0, []) else (gtC zs, gtU zs, gtP zs)

def WR (w w' : World) (e : Ending) (zs : List Int) (ls : Int) (bd : Bool) (hf wh : Int) (gs : Option (Int × Int × List Int)) : Prop :=
  ∃ a n c ga gn gc, e = .returned (.tuple #[rt a n c ls bd hf wh, .slice ga gn gc]) ∧ n = zs.length ∧ Own w' w.heap.size (.slice a n c) zs ∧ GotV w' w.heap.size (.slice a n c) ga gn gs ∧ Below w.heap.size w w'

/-- As GotV, its bytes below block bb. -/
def GotW (w : World) (B bb : Nat) (ga : Option Addr) (gn : Nat) (gs : Option (Int × Int × List Int)) : Prop :=
  (gs = none ∧ gn = 0) ∨ ∃ k u ps g pa pn pc, gs = some (k, u, ps) ∧ ga = some ⟨g, 0, none⟩ ∧ gn = 1 ∧ B ≤ g ∧ Blk w g 42 #[.int .i64 k, .int .i64 u, .slice pa pn pc] ∧ pn = ps.length ∧ Own w B (.slice pa pn pc) ps ∧ (∀ j, (Value.slice pa pn pc).ownBlock = some j → j < bb) ∧ ps.length ≤ 300

theorem GotW.one {w : World} {B bb g : Nat} {k u : Int} {ps : List Int} {pa : Option Addr} {pn pc : Nat} (h4 : B ≤ g) (h5 : Blk w g 42 #[.int .i64 k, .int .i64 u, .slice pa pn pc]) (h6 : pn = ps.length) (h7 : Own w B (.slice pa pn pc) ps) (h8 : ∀ j, (Value.slice pa pn pc).ownBlock = some j → j < bb) (h9 : ps.length ≤ 300) : GotW w B bb (some ⟨g, 0, none⟩) 1 (some (k, u, ps)) :=
  .inr ⟨k, u, ps, g, pa, pn, pc, rfl, rfl, rfl, h4, h5, h6, h7, h8, h9⟩

theorem GotW.v {w w' : World} {B bb : Nat} {ga : Option Addr} {gn : Nat} {gs : Option (Int × Int × List Int)} {x : Value} {zs : List Int} (h : GotW w B bb ga gn gs) (ho : Own w' bb x zs) : GotV w B x ga gn gs := by
  rcases h with h | ⟨k, u, ps, g, pa, pn, pc, h1, h2, h3, h4, h5, h6, h7, h8, h9⟩
  · exact .inl h
  · refine .inr ⟨k, u, ps, g, pa, pn, pc, h1, h2, h3, h4, h5, h6, h7, ?_, h9⟩
    cases e : x.ownBlock with
    | none => exact .inl e
    | some i =>
      cases e2 : (Value.slice pa pn pc).ownBlock with
      | none => exact .inr (.inl e2)
      | some j => exact .inr (.inr (fun e3 => by have := (World.ownsRow.lt ho i e).1; have := h8 j e2; rw [e, e2] at e3; simp at e3; omega))

theorem GotW.below {w w' : World} {B bb : Nat} {ga : Option Addr} {gn : Nat} {gs : Option (Int × Int × List Int)} (h : GotW w B bb ga gn gs) (hb : Below w.heap.size w w') : GotW w' B bb ga gn gs := by
  rcases h with h | ⟨k, u, ps, g, pa, pn, pc, h1, h2, h3, h4, h5, h6, h7, h8, h9⟩
  · exact .inl h
  · exact .inr ⟨k, u, ps, g, pa, pn, pc, h1, h2, h3, h4, h5.below hb, h6, h7.below hb, h8, h9⟩

theorem GotW.mono {w : World} {B B' bb : Nat} {ga : Option Addr} {gn : Nat} {gs : Option (Int × Int × List Int)} (h : GotW w B bb ga gn gs) (hb : B' ≤ B) : GotW w B' bb ga gn gs := by
  rcases h with h | ⟨k, u, ps, g, pa, pn, pc, h1, h2, h3, h4, h5, h6, h7, h8, h9⟩
  · exact .inl h
  · exact .inr ⟨k, u, ps, g, pa, pn, pc, h1, h2, h3, by omega, h5, h6, h7.monoT hb, h8, h9⟩

/-- As WR; the listener's bytes lie from block bb on, the frame's below. -/
def WS (w w' : World) (e : Ending) (zs : List Int) (ls : Int) (bd : Bool) (hf wh : Int) (gs : Option (Int × Int × List Int)) : Prop :=
  ∃ a n c ga gn gc bb, e = .returned (.tuple #[rt a n c ls bd hf wh, .slice ga gn gc]) ∧ n = zs.length ∧ Own w' bb (.slice a n c) zs ∧ w.heap.size ≤ bb ∧ bb ≤ w'.heap.size ∧ GotW w' w.heap.size bb ga gn gs ∧ Below w.heap.size w w'

theorem WS.wr {w w' : World} {e : Ending} {zs : List Int} {ls : Int} {bd : Bool} {hf wh : Int} {gs : Option (Int × Int × List Int)} (h : WS w w' e zs ls bd hf wh gs) : WR w w' e zs ls bd hf wh gs := by
  obtain ⟨a, n, c, ga, gn, gc, bb, h1, h2, h3, h4, h5, h6, h7⟩ := h
  exact ⟨a, n, c, ga, gn, gc, h1, h2, h3.monoT h4, h6.v h3, h7⟩

theorem okT_parts {l : Nat} {ls : Int} {bd : Bool} {hf wh : Int} (h : okT l ls bd hf wh = true) : (1 ≤ hf ∧ hf ≤ 1000 ∧ hf ≤ wh ∧ wh ≤ 1000 ∧ l ≤ 257 ∧ 0 ≤ ls ∧ ls ≤ 4294967295) ∧ (bd = true → 0 < l) := by
  unfold okT at h
  simp only [Bool.and_eq_true, decide_eq_true_eq, Bool.or_eq_true, Bool.not_eq_true'] at h
  refine ⟨h.1, fun hb => ?_⟩
  rcases h.2 with h2 | h2
  · rw [hb] at h2; cases h2
  · exact h2

theorem tkB_parts {t : Int} (h : tkB t = true) : 0 ≤ t ∧ t ≤ 4294967295 := by unfold tkB at h; exact of_decide_eq_true h

set_option maxRecDepth 20000 in
set_option maxHeartbeats 4000000 in
theorem canHear_any (a : Option Addr) (l c : Nat) (ls : Int) (bd : Bool) (hf wh tk : Int) (w : World) (hl : l ≤ 2000000) (b : Bool) (hb : (okT l ls bd hf wh && tkB tk) = b) :
    Calls Tryd.prog 31 #[rt a l c ls bd hf wh, .int .i64 tk] w fun e w' => e = .returned (.bool b) ∧ Below w.heap.size w w' := by
  subst hb
  have b0 := bel_alloc w (.cells #[.slice a l c, .int .i64 ls, .bool bd, .int .i64 hf, .int .i64 wh] 33)
  cases ho : okT l ls bd hf wh
  · go_enter Tryd.func31, Tryd.ntmps31
    go_wp2_with fail
    refine (implRtuOk_any a l c ls bd hf wh _ hl _ ho).mono ?_
    rintro e w1 ⟨rfl, b'⟩
    have b1 := bel_next b0 b'
    clear b0 b' ho
    go_wp2
    go_ret
    exact ⟨rfl, b1⟩
  · by_cases h1 : 0 ≤ tk
    case neg =>
      rw [show tkB tk = false by unfold tkB; exact decide_eq_false (by omega)]
      go_enter Tryd.func31, Tryd.ntmps31
      go_wp2_with fail
      refine (implRtuOk_any a l c ls bd hf wh _ hl _ ho).mono ?_
      rintro e w1 ⟨rfl, b'⟩
      have b1 := bel_next b0 b'
      clear b0 b' ho
      go_wp2_with (go_at_call 34; go_in)
      go_ret
      exact ⟨rfl, b1⟩
    by_cases h2 : tk ≤ 4294967295
    case neg =>
      rw [show tkB tk = false by unfold tkB; exact decide_eq_false (by omega)]
      go_enter Tryd.func31, Tryd.ntmps31
      go_wp2_with fail
      refine (implRtuOk_any a l c ls bd hf wh _ hl _ ho).mono ?_
      rintro e w1 ⟨rfl, b'⟩
      have b1 := bel_next b0 b'
      clear b0 b' ho
      go_wp2_with (go_at_call 34; go_in)
      go_ret
      exact ⟨by have hd := decide_eq_false (show ¬ tk ≤ 4294967295 by omega); first | rfl | (show Ending.returned (.bool (decide (tk ≤ 4294967295))) = _; rw [hd]; rfl), b1⟩
    rw [show tkB tk = true by unfold tkB; exact decide_eq_true (by omega)]
    go_enter Tryd.func31, Tryd.ntmps31
    go_wp2_with fail
    refine (implRtuOk_any a l c ls bd hf wh _ hl _ ho).mono ?_
    rintro e w1 ⟨rfl, b'⟩
    have b1 := bel_next b0 b'
    clear b0 b' ho
    go_wp2_with (go_at_call 34; go_in)
    go_ret
    exact ⟨by have hd := decide_eq_true (show tk ≤ 4294967295 by omega); first | rfl | (show Ending.returned (.bool (decide (tk ≤ 4294967295))) = _; rw [hd]; rfl), b1⟩

set_option maxRecDepth 20000 in
set_option maxHeartbeats 4000000 in
theorem isSilent_any (a : Option Addr) (l c : Nat) (ls : Int) (bd : Bool) (hf wh tk n : Int) (w : World) (h1 : 0 ≤ ls) (h2 : ls ≤ 4294967295) (h3 : 0 ≤ tk) (h4 : tk ≤ 4294967295) (b : Bool) (hb : (decide (0 < l) && decide (n ≤ gap ls tk)) = b) :
    Calls Tryd.prog 33 #[rt a l c ls bd hf wh, .int .i64 tk, .int .i64 n] w fun e w' => e = .returned (.bool b) ∧ Below w.heap.size w w' := by
  subst hb
  have b0 := bel_alloc w (.cells #[.slice a l c, .int .i64 ls, .bool bd, .int .i64 hf, .int .i64 wh] 33)
  by_cases h0 : 0 < l
  · have h0i : (0 : Int) < (l : Int) := by omega
    rw [decide_eq_true h0]
    go_enter Tryd.func33, Tryd.ntmps33
    go_wp2_with fail
    refine (implGap_ok ls tk _ h1 h2 h3 h4).mono ?_
    rintro e w1 ⟨rfl, e1⟩
    subst e1
    go_wp2
    go_ret
    exact ⟨by simp, b0⟩
  · obtain rfl : l = 0 := by omega
    go_enter Tryd.func33, Tryd.ntmps33
    go_wp2_with fail
    go_ret
    exact ⟨by simp, b0⟩

set_option maxRecDepth 20000 in
set_option maxHeartbeats 8000000 in
theorem implRtuWait_no (a : Option Addr) (l c : Nat) (ls : Int) (bd : Bool) (hf wh tk : Int) (zs : List Int) (w : World) (hn : l = zs.length) (hs : Sl w a zs) (hl : zs.length ≤ 2000000) (hE : wtE l ls bd hf wh tk = false) :
    Calls Tryd.prog 15 #[rt a l c ls bd hf wh, .int .i64 tk] w fun e w' => WS w w' e zs ls bd hf wh none := by
  have HN : Hid (l = zs.length ∧ l ≤ 2000000 ∧ zs.length ≤ 2000000) := by show _ ∧ _; omega
  obtain ⟨W0, hW0'⟩ : ∃ W0, W0 = (w.alloc (.cells #[.slice a l c, .int .i64 ls, .bool bd, .int .i64 hf, .int .i64 wh] 33)).alloc (.cells #[.slice none 0 0, .int .i64 0, .bool false, .int .i64 0, .int .i64 0] 33) := ⟨_, rfl⟩
  have hW0 : Hid (W0 = _) := hW0'
  have hz : W0.heap.size = w.heap.size + 1 + 1 := by rw [hW0']; simp
  have B0 : Below w.heap.size w W0 := by rw [hW0']; exact bel_next (bel_alloc w _) (bel_alloc _ _)
  have X0 : Blk W0 w.heap.size 33 #[.slice a l c, .int .i64 ls, .bool bd, .int .i64 hf, .int .i64 wh] := by rw [hW0']; exact ((Blk.new w _ _).below (bel_alloc _ _))
  have R0 : Blk W0 (w.heap.size + 1) 33 #[.slice none 0 0, .int .i64 0, .bool false, .int .i64 0, .int .i64 0] := by rw [hW0']; have := (Blk.new (w.alloc (.cells #[.slice a l c, .int .i64 ls, .bool bd, .int .i64 hf, .int .i64 wh] 33)) #[.slice none 0 0, .int .i64 0, .bool false, .int .i64 0, .int .i64 0] 33); simpa using this
  have S1 : Hid (Sl W0 a zs) := hs.below B0
  clear hn hs hW0' hl
  cases hh : (okT l ls bd hf wh && tkB tk)
  · clear hE
    go_enter Tryd.func15, Tryd.ntmps15
    go_wp2_with fail
    rw [← hW0.out]
    refine (canHear_any a l c ls bd hf wh tk _ HN.out.2.1 _ hh).mono ?_
    rintro e w1 ⟨rfl, b'⟩
    have BB1 : Hid (Below W0.heap.size W0 w1) := b'
    have b1 := bel_next B0 b'
    have X1 := X0.below b'
    have R1 := R0.below b'
    have S2 : Hid (Sl w1 a zs) := S1.out.below b'
    clear b' B0 X0 R0 S1
    obtain ⟨x0, x1, x2, x3, x4⟩ := X1.five
    clear hh
    go_wp2_with fail
    refine (copyRtu_any a l c ls bd hf wh zs _ HN.out.1 S2.out HN.out.2.2).mono ?_
    rintro e w9 ⟨a', c', n', rfl, hn', o9, b'⟩
    have b9 := bel_next b1 b'
    have R9 := R1.below b'
    have HN' : Hid (n' = zs.length) := hn'
    have hzz : w.heap.size ≤ w1.heap.size := b1.size
    have HJ : Hid (Own w9 w1.heap.size (.slice a' n' c') zs ∧ Below w.heap.size w w9 ∧ ExB w9 (w.heap.size + 1) 33) := ⟨o9, b9, ⟨_, R9⟩⟩
    obtain ⟨r0, r1, r2, r3, r4⟩ := R9.five
    have fr := R9.fro
    clear b' hn' o9 b9 R9 R1 X1 b1
    go_wp2
    refine bodyPost_ret (v := .tuple #[rt a' n' c' ls bd hf wh, .slice none 0 0]) (by simp [results, Tryd.results15, go_sem, r0, r1, r2, r3, r4]) rfl ?_
    obtain ⟨j3, b3, eR⟩ := HJ.out
    refine ⟨a', n', c', none, 0, 0, w.heap.size, rfl, HN'.out, Own.monoT (show Own _ _ _ _ from (row_setE (row_setE (row_setE (row_setE (row_setE j3 eR (by decide)) (ExB.set eR) (by decide)) (ExB.set (ExB.set eR)) (by decide)) (ExB.set (ExB.set (ExB.set eR))) (by decide)) (ExB.set (ExB.set (ExB.set (ExB.set eR)))) (by decide))) hzz, Nat.le_refl _, ?_, .inl ⟨rfl, rfl⟩, ?_⟩
    · exact Below.size (((((b3.setCell (p := ⟨w.heap.size + 1, 0, none⟩) (by show w.heap.size ≤ w.heap.size + 1; omega) _).setCell (p := ⟨w.heap.size + 1, 1, none⟩) (by show w.heap.size ≤ w.heap.size + 1; omega) _).setCell (p := ⟨w.heap.size + 1, 2, none⟩) (by show w.heap.size ≤ w.heap.size + 1; omega) _).setCell (p := ⟨w.heap.size + 1, 3, none⟩) (by show w.heap.size ≤ w.heap.size + 1; omega) _).setCell (p := ⟨w.heap.size + 1, 4, none⟩) (by show w.heap.size ≤ w.heap.size + 1; omega) _)
    · exact (((((b3.setCell (p := ⟨w.heap.size + 1, 0, none⟩) (by show w.heap.size ≤ w.heap.size + 1; omega) _).setCell (p := ⟨w.heap.size + 1, 1, none⟩) (by show w.heap.size ≤ w.heap.size + 1; omega) _).setCell (p := ⟨w.heap.size + 1, 2, none⟩) (by show w.heap.size ≤ w.heap.size + 1; omega) _).setCell (p := ⟨w.heap.size + 1, 3, none⟩) (by show w.heap.size ≤ w.heap.size + 1; omega) _).setCell (p := ⟨w.heap.size + 1, 4, none⟩) (by show w.heap.size ≤ w.heap.size + 1; omega) _)
  · have HE : Hid ((decide (0 < l) && decide (wh ≤ gap ls tk)) = false) := by show _ = _; unfold wtE at hE; rw [hh] at hE; simpa using hE
    have hP : 0 ≤ ls ∧ ls ≤ 4294967295 ∧ 0 ≤ tk ∧ tk ≤ 4294967295 := by
      have h1 : okT l ls bd hf wh = true := by simp only [Bool.and_eq_true] at hh; exact hh.1
      have h2 : tkB tk = true := by simp only [Bool.and_eq_true] at hh; exact hh.2
      have q1 := (okT_parts h1).1
      have q2 := tkB_parts h2
      omega
    have HP : Hid (0 ≤ ls ∧ ls ≤ 4294967295 ∧ 0 ≤ tk ∧ tk ≤ 4294967295) := hP
    clear hP
    clear hE
    go_enter Tryd.func15, Tryd.ntmps15
    go_wp2_with fail
    rw [← hW0.out]
    refine (canHear_any a l c ls bd hf wh tk _ HN.out.2.1 _ hh).mono ?_
    rintro e w1 ⟨rfl, b'⟩
    have BB1 : Hid (Below W0.heap.size W0 w1) := b'
    have b1 := bel_next B0 b'
    have X1 := X0.below b'
    have R1 := R0.below b'
    have S2 : Hid (Sl w1 a zs) := S1.out.below b'
    clear b' B0 X0 R0 S1
    obtain ⟨x0, x1, x2, x3, x4⟩ := X1.five
    go_wp2_with fail
    refine (isSilent_any a l c ls bd hf wh tk wh _ HP.out.1 HP.out.2.1 HP.out.2.2.1 HP.out.2.2.2 _ HE.out).mono ?_
    rintro e w2 ⟨rfl, b'⟩
    have BB : Hid (Below W0.heap.size W0 w2) := bel_next BB1.out b'
    have b2 := bel_next b1 b'
    have X2 := X1.below b'
    have R2 := R1.below b'
    have S3 : Hid (Sl w2 a zs) := S2.out.below b'
    clear b' b1 X1 R1 S2 x0 x1 x2 x3 x4
    obtain ⟨x0, x1, x2, x3, x4⟩ := X2.five
    clear hh HP HE
    go_wp2_with fail
    refine (copyRtu_any a l c ls bd hf wh zs _ HN.out.1 S3.out HN.out.2.2).mono ?_
    rintro e w9 ⟨a', c', n', rfl, hn', o9, b'⟩
    have b9 := bel_next b2 b'
    have R9 := R2.below b'
    have HN' : Hid (n' = zs.length) := hn'
    have hzz : w.heap.size ≤ w2.heap.size := b2.size
    have HJ : Hid (Own w9 w2.heap.size (.slice a' n' c') zs ∧ Below w.heap.size w w9 ∧ ExB w9 (w.heap.size + 1) 33) := ⟨o9, b9, ⟨_, R9⟩⟩
    obtain ⟨r0, r1, r2, r3, r4⟩ := R9.five
    have fr := R9.fro
    clear b' hn' o9 b9 R9 R2 X2 b2
    go_wp2
    refine bodyPost_ret (v := .tuple #[rt a' n' c' ls bd hf wh, .slice none 0 0]) (by simp [results, Tryd.results15, go_sem, r0, r1, r2, r3, r4]) rfl ?_
    obtain ⟨j3, b3, eR⟩ := HJ.out
    refine ⟨a', n', c', none, 0, 0, w.heap.size, rfl, HN'.out, Own.monoT (show Own _ _ _ _ from (row_setE (row_setE (row_setE (row_setE (row_setE j3 eR (by decide)) (ExB.set eR) (by decide)) (ExB.set (ExB.set eR)) (by decide)) (ExB.set (ExB.set (ExB.set eR))) (by decide)) (ExB.set (ExB.set (ExB.set (ExB.set eR)))) (by decide))) hzz, Nat.le_refl _, ?_, .inl ⟨rfl, rfl⟩, ?_⟩
    · exact Below.size (((((b3.setCell (p := ⟨w.heap.size + 1, 0, none⟩) (by show w.heap.size ≤ w.heap.size + 1; omega) _).setCell (p := ⟨w.heap.size + 1, 1, none⟩) (by show w.heap.size ≤ w.heap.size + 1; omega) _).setCell (p := ⟨w.heap.size + 1, 2, none⟩) (by show w.heap.size ≤ w.heap.size + 1; omega) _).setCell (p := ⟨w.heap.size + 1, 3, none⟩) (by show w.heap.size ≤ w.heap.size + 1; omega) _).setCell (p := ⟨w.heap.size + 1, 4, none⟩) (by show w.heap.size ≤ w.heap.size + 1; omega) _)
    · exact (((((b3.setCell (p := ⟨w.heap.size + 1, 0, none⟩) (by show w.heap.size ≤ w.heap.size + 1; omega) _).setCell (p := ⟨w.heap.size + 1, 1, none⟩) (by show w.heap.size ≤ w.heap.size + 1; omega) _).setCell (p := ⟨w.heap.size + 1, 2, none⟩) (by show w.heap.size ≤ w.heap.size + 1; omega) _).setCell (p := ⟨w.heap.size + 1, 3, none⟩) (by show w.heap.size ≤ w.heap.size + 1; omega) _).setCell (p := ⟨w.heap.size + 1, 4, none⟩) (by show w.heap.size ≤ w.heap.size + 1; omega) _)

abbrev st5 (w : World) (g : Nat) (v0 v1 v2 v3 v4 : Value) : World := ((((w.setCell ⟨g, 0, none⟩ v0).setCell ⟨g, 1, none⟩ v1).setCell ⟨g, 2, none⟩ v2).setCell ⟨g, 3, none⟩ v3).setCell ⟨g, 4, none⟩ v4

theorem st5_size (w : World) (g : Nat) (v0 v1 v2 v3 v4 : Value) : (st5 w g v0 v1 v2 v3 v4).heap.size = w.heap.size := by simp [st5, World.setCell]

theorem st5_self {w : World} {g : Nat} {t : TypeId} {a0 a1 a2 a3 a4 : Value} (h : Blk w g t #[a0, a1, a2, a3, a4]) (v0 v1 v2 v3 v4 : Value) : Blk (st5 w g v0 v1 v2 v3 v4) g t #[v0, v1, v2, v3, v4] := by
  have := ((((h.set 0 v0).set 1 v1).set 2 v2).set 3 v3).set 4 v4
  simpa using this

theorem st5_own {w : World} {g base : Nat} {t : Value} {v0 v1 v2 v3 v4 : Value} {zs : List Int} (h : Own w base t zs) (hb : ExB w g 33) : Own (st5 w g v0 v1 v2 v3 v4) base t zs :=
  (show Own _ _ _ _ from (row_setE (row_setE (row_setE (row_setE (row_setE h hb (by decide)) (ExB.set hb) (by decide)) (ExB.set (ExB.set hb)) (by decide)) (ExB.set (ExB.set (ExB.set hb))) (by decide)) (ExB.set (ExB.set (ExB.set (ExB.set hb)))) (by decide)))

theorem st5_bel {B : Nat} {W w : World} {g : Nat} {v0 v1 v2 v3 v4 : Value} (h : Below B W w) (hg : B ≤ g) : Below B W (st5 w g v0 v1 v2 v3 v4) :=
  ((((h.setCell (p := ⟨g, 0, none⟩) hg v0).setCell (p := ⟨g, 1, none⟩) hg v1).setCell (p := ⟨g, 2, none⟩) hg v2).setCell (p := ⟨g, 3, none⟩) hg v3).setCell (p := ⟨g, 4, none⟩) hg v4

theorem st5_blk {w : World} {g g' : Nat} {t : TypeId} {cs : Array Value} {v0 v1 v2 v3 v4 : Value} (h : Blk w g' t cs) (hne : g' ≠ g) : Blk (st5 w g v0 v1 v2 v3 v4) g' t cs :=
  ((((h.setNe hne).setNe hne).setNe hne).setNe hne).setNe hne

theorem gtP_le (zs : List Int) : (gtP zs).length ≤ 300 := by
  unfold gtP gtC
  by_cases h4 : zs.length < 4
  · rw [if_pos h4]; simp
  · by_cases h5 : 256 < zs.length
    · rw [if_neg h4, if_pos h5]; simp
    · rw [if_neg h4, if_neg h5]
      split <;> simp <;> omega

theorem gotOf_len (bd : Bool) (zs : List Int) : (gotOf bd zs).2.2.length ≤ 300 := by
  cases bd
  · exact gtP_le zs
  · simp [gotOf]

theorem wtE_parts {l : Nat} {ls : Int} {bd : Bool} {hf wh tk : Int} (h : wtE l ls bd hf wh tk = true) : (okT l ls bd hf wh && tkB tk) = true ∧ (decide (0 < l) && decide (wh ≤ gap ls tk)) = true := by
  unfold wtE at h
  simpa only [Bool.and_eq_true] using h

set_option maxRecDepth 20000 in
set_option maxHeartbeats 8000000 in
theorem ended_any (a : Option Addr) (l c : Nat) (ls : Int) (bd : Bool) (hf wh : Int) (zs : List Int) (w : World) (hn : l = zs.length) (hs : Sl w a zs) (hl : zs.length ≤ 2000000) (hlc : l ≤ c) (hr : ∀ z ∈ zs, 0 ≤ z ∧ z ≤ 255) (hT : Tab w) :
    Calls Tryd.prog 35 #[rt a l c ls bd hf wh] w fun e w' => ∃ pa pn pc, e = .returned (.tuple #[rt none 0 0 ls false hf wh, .agg #[.int .i64 (gotOf bd zs).1, .int .i64 (gotOf bd zs).2.1, .slice pa pn pc]]) ∧ pn = (gotOf bd zs).2.2.length ∧ Own w' w.heap.size (.slice pa pn pc) (gotOf bd zs).2.2 ∧ Below w.heap.size w w' := by
  cases bd
  · obtain ⟨W0, hW0'⟩ : ∃ W0, W0 = (((w.alloc (.cells #[.slice a l c, .int .i64 ls, .bool false, .int .i64 hf, .int .i64 wh] 33)).alloc (.cells #[.slice none 0 0, .int .i64 0, .bool false, .int .i64 0, .int .i64 0] 33)).alloc (.cells #[.int .i64 0, .int .i64 0, .slice none 0 0] 42)).alloc (.cells #[.int .i64 5, .int .i64 0, .slice none 0 0] 42) := ⟨_, rfl⟩
    have hW0 : Hid (W0 = _) := hW0'
    have HN : Hid (l = zs.length ∧ l ≤ 2000000 ∧ zs.length ≤ 2000000 ∧ l ≤ c) := by show _ ∧ _; omega
    have hz : W0.heap.size = w.heap.size + 1 + 1 + 1 + 1 := by rw [hW0']; simp
    have hw0 : 0 < w.heap.size := World.block_lt_of_cell? _ _ (hT 0 (by decide))
    have B0 : Below w.heap.size w W0 := by rw [hW0']; exact bel_next (bel_next (bel_next (bel_alloc w _) (bel_alloc _ _)) (bel_alloc _ _)) (bel_alloc _ _)
    have X0 : Blk W0 w.heap.size 33 #[.slice a l c, .int .i64 ls, .bool false, .int .i64 hf, .int .i64 wh] := by rw [hW0']; exact (((Blk.new w _ _).below (bel_alloc _ _)).below (bel_alloc _ _)).below (bel_alloc _ _)
    have R0 : Blk W0 (w.heap.size + 1) 33 #[.slice none 0 0, .int .i64 0, .bool false, .int .i64 0, .int .i64 0] := by rw [hW0']; have := ((Blk.new (w.alloc (.cells #[.slice a l c, .int .i64 ls, .bool false, .int .i64 hf, .int .i64 wh] 33)) #[.slice none 0 0, .int .i64 0, .bool false, .int .i64 0, .int .i64 0] 33).below (bel_alloc _ (.cells #[.int .i64 0, .int .i64 0, .slice none 0 0] 42))).below (bel_alloc _ (.cells #[.int .i64 5, .int .i64 0, .slice none 0 0] 42)); simpa using this
    have G0 : Blk W0 (w.heap.size + 1 + 1) 42 #[.int .i64 0, .int .i64 0, .slice none 0 0] := by rw [hW0']; have := (Blk.new ((w.alloc (.cells #[.slice a l c, .int .i64 ls, .bool false, .int .i64 hf, .int .i64 wh] 33)).alloc (.cells #[.slice none 0 0, .int .i64 0, .bool false, .int .i64 0, .int .i64 0] 33)) #[.int .i64 0, .int .i64 0, .slice none 0 0] 42).below (bel_alloc _ (.cells #[.int .i64 5, .int .i64 0, .slice none 0 0] 42)); simpa using this
    have T0 : Blk W0 (w.heap.size + 1 + 1 + 1) 42 #[.int .i64 5, .int .i64 0, .slice none 0 0] := by rw [hW0']; have := Blk.new (((w.alloc (.cells #[.slice a l c, .int .i64 ls, .bool false, .int .i64 hf, .int .i64 wh] 33)).alloc (.cells #[.slice none 0 0, .int .i64 0, .bool false, .int .i64 0, .int .i64 0] 33)).alloc (.cells #[.int .i64 0, .int .i64 0, .slice none 0 0] 42)) #[.int .i64 5, .int .i64 0, .slice none 0 0] 42; simpa using this
    have S1 : Hid (Sl W0 a zs) := hs.below B0
    have HT : Hid (Tab W0) := hT.below B0 hw0
    have HR : Hid (∀ z ∈ zs, 0 ≤ z ∧ z ≤ 255) := hr
    have HGo : Hid (gotOf false zs = (gtC zs, gtU zs, gtP zs)) := rfl
    rw [HGo.out]
    generalize hU : gtU zs = U at *
    generalize hP : gtP zs = P at *
    generalize hC : gtC zs = C at *
    have HU : Hid (gtU zs = U ∧ gtP zs = P ∧ gtC zs = C) := ⟨hU, hP, hC⟩
    clear hn hs hl hlc hr hT hW0' HGo hU hP hC
    go_enter Tryd.func35, Tryd.ntmps35
    go_wp2_with fail
    rw [← hW0.out]
    refine (implGetRtu_any a l c zs _ HN.out.1 HN.out.2.2.2 S1.out HR.out HN.out.2.2.1 HT.out).mono ?_
    rintro e w1 h'
    rw [HU.out.1, HU.out.2.1, HU.out.2.2] at h'
    obtain ⟨pa, pc, pn, rfl, hpn, o1, b'⟩ := h'
    have b1 := bel_next B0 b'
    have X1 := X0.below b'
    have R1 := R0.below b'
    have G1 := G0.below b'
    have T1 := T0.below b'
    have HJ : Hid (pn = P.length ∧ Own w1 W0.heap.size (.slice pa pn pc) P ∧ Below w.heap.size w w1 ∧ ExB w1 w.heap.size 33 ∧ ExB w1 (w.heap.size + 1) 33 ∧ ExB w1 (w.heap.size + 1 + 1) 42 ∧ ExB w1 (w.heap.size + 1 + 1 + 1) 42) := ⟨hpn, o1, b1, ⟨_, X1⟩, ⟨_, R1⟩, ⟨_, G1⟩, ⟨_, T1⟩⟩
    obtain ⟨x0, x1, x2, x3, x4⟩ := X1.five
    obtain ⟨r0, r1, r2, r3, r4⟩ := R1.five
    obtain ⟨g0, g1, g2⟩ := G1.three
    obtain ⟨t0, t1, t2⟩ := T1.three
    have fx := X1.fro
    have fr := R1.fro
    have fg := G1.fro
    have ft := T1.fro
    have hz0 : w.heap.size ≤ W0.heap.size := by omega
    clear b' B0 X0 R0 G0 T0 X1 R1 G1 T1 o1 b1 S1 HT hpn
    go_wp2_with fail
    go_region
    all_goals go_wp2
    refine bodyPost_ret (v := .tuple #[rt none 0 0 ls false hf wh, .agg #[.int .i64 C, .int .i64 U, .slice pa pn pc]]) (by simp [results, Tryd.results35, go_sem, r0, r1, r2, r3, r4, g0, g1, g2]) rfl ?_
    obtain ⟨hpn, j3, b3, eX, eR, eG, eT⟩ := HJ.out
    exact ⟨pa, pn, pc, rfl, hpn, Own.below (Own.monoT (show Own _ _ _ _ from (row_setE (row_setE (row_setE (row_setE (row_setE (row_setE (row_setE (row_setE (row_setE (row_setE (row_setE (row_setE (row_setE j3 eT (by decide)) (ExB.set eT) (by decide)) (ExB.set (ExB.set eT)) (by decide)) (ExB.set (ExB.set (ExB.set eX))) (by decide)) (ExB.set (ExB.set (ExB.set (ExB.set eX)))) (by decide)) (ExB.set (ExB.set (ExB.set (ExB.set (ExB.set eR))))) (by decide)) (ExB.set (ExB.set (ExB.set (ExB.set (ExB.set (ExB.set eR)))))) (by decide)) (ExB.set (ExB.set (ExB.set (ExB.set (ExB.set (ExB.set (ExB.set eR))))))) (by decide)) (ExB.set (ExB.set (ExB.set (ExB.set (ExB.set (ExB.set (ExB.set (ExB.set eR)))))))) (by decide)) (ExB.set (ExB.set (ExB.set (ExB.set (ExB.set (ExB.set (ExB.set (ExB.set (ExB.set eR))))))))) (by decide)) (ExB.set (ExB.set (ExB.set (ExB.set (ExB.set (ExB.set (ExB.set (ExB.set (ExB.set (ExB.set eG)))))))))) (by decide)) (ExB.set (ExB.set (ExB.set (ExB.set (ExB.set (ExB.set (ExB.set (ExB.set (ExB.set (ExB.set (ExB.set eG))))))))))) (by decide)) (ExB.set (ExB.set (ExB.set (ExB.set (ExB.set (ExB.set (ExB.set (ExB.set (ExB.set (ExB.set (ExB.set (ExB.set eG)))))))))))) (by decide))) hz0) (Below.refl _ _).drew, (((((((((((((b3.setCell (p := ⟨w.heap.size + 1 + 1 + 1, 1, none⟩) (by show w.heap.size ≤ w.heap.size + 1 + 1 + 1; omega) _).setCell (p := ⟨w.heap.size + 1 + 1 + 1, 2, none⟩) (by show w.heap.size ≤ w.heap.size + 1 + 1 + 1; omega) _).setCell (p := ⟨w.heap.size + 1 + 1 + 1, 0, none⟩) (by show w.heap.size ≤ w.heap.size + 1 + 1 + 1; omega) _).setCell (p := ⟨w.heap.size, 0, none⟩) (by show w.heap.size ≤ w.heap.size; omega) _).setCell (p := ⟨w.heap.size, 2, none⟩) (by show w.heap.size ≤ w.heap.size; omega) _).setCell (p := ⟨w.heap.size + 1, 0, none⟩) (by show w.heap.size ≤ w.heap.size + 1; omega) _).setCell (p := ⟨w.heap.size + 1, 1, none⟩) (by show w.heap.size ≤ w.heap.size + 1; omega) _).setCell (p := ⟨w.heap.size + 1, 2, none⟩) (by show w.heap.size ≤ w.heap.size + 1; omega) _).setCell (p := ⟨w.heap.size + 1, 3, none⟩) (by show w.heap.size ≤ w.heap.size + 1; omega) _).setCell (p := ⟨w.heap.size + 1, 4, none⟩) (by show w.heap.size ≤ w.heap.size + 1; omega) _).setCell (p := ⟨w.heap.size + 1 + 1, 0, none⟩) (by show w.heap.size ≤ w.heap.size + 1 + 1; omega) _).setCell (p := ⟨w.heap.size + 1 + 1, 1, none⟩) (by show w.heap.size ≤ w.heap.size + 1 + 1; omega) _).setCell (p := ⟨w.heap.size + 1 + 1, 2, none⟩) (by show w.heap.size ≤ w.heap.size + 1 + 1; omega) _).drew⟩
  · clear hn hs hl hlc hr hT
    go_enter Tryd.func35, Tryd.ntmps35
    go_wp2_with fail
    go_region
    all_goals go_wp2
    refine bodyPost_ret (v := .tuple #[rt none 0 0 ls false hf wh, .agg #[.int .i64 5, .int .i64 0, .slice none 0 0]]) (by simp [results, Tryd.results35, go_sem]) rfl ?_
    exact ⟨none, 0, 0, rfl, rfl, ⟨rfl, .inl ⟨rfl, rfl⟩⟩, (bel_next (bel_next (bel_next (bel_alloc w _) (bel_alloc _ _)) (bel_alloc _ _)) (bel_alloc _ _)).drew⟩

set_option maxRecDepth 20000 in
set_option maxHeartbeats 8000000 in
theorem implRtuWait_yes (a : Option Addr) (l c : Nat) (ls : Int) (bd : Bool) (hf wh tk : Int) (zs : List Int) (w : World) (hn : l = zs.length) (hs : Sl w a zs) (hl : zs.length ≤ 2000000) (hlc : l ≤ c) (hr : ∀ z ∈ zs, 0 ≤ z ∧ z ≤ 255) (hT : Tab w) (hE : wtE l ls bd hf wh tk = true) :
    Calls Tryd.prog 15 #[rt a l c ls bd hf wh, .int .i64 tk] w fun e w' => WS w w' e [] ls false hf wh (some (gotOf bd zs)) := by
  have HN : Hid (l = zs.length ∧ l ≤ 2000000 ∧ zs.length ≤ 2000000) := by show _ ∧ _; omega
  obtain ⟨W0, hW0'⟩ : ∃ W0, W0 = (w.alloc (.cells #[.slice a l c, .int .i64 ls, .bool bd, .int .i64 hf, .int .i64 wh] 33)).alloc (.cells #[.slice none 0 0, .int .i64 0, .bool false, .int .i64 0, .int .i64 0] 33) := ⟨_, rfl⟩
  have hW0 : Hid (W0 = _) := hW0'
  have hz : W0.heap.size = w.heap.size + 1 + 1 := by rw [hW0']; simp
  have B0 : Below w.heap.size w W0 := by rw [hW0']; exact bel_next (bel_alloc w _) (bel_alloc _ _)
  have X0 : Blk W0 w.heap.size 33 #[.slice a l c, .int .i64 ls, .bool bd, .int .i64 hf, .int .i64 wh] := by rw [hW0']; exact ((Blk.new w _ _).below (bel_alloc _ _))
  have R0 : Blk W0 (w.heap.size + 1) 33 #[.slice none 0 0, .int .i64 0, .bool false, .int .i64 0, .int .i64 0] := by rw [hW0']; have := (Blk.new (w.alloc (.cells #[.slice a l c, .int .i64 ls, .bool bd, .int .i64 hf, .int .i64 wh] 33)) #[.slice none 0 0, .int .i64 0, .bool false, .int .i64 0, .int .i64 0] 33); simpa using this
  have S1 : Hid (Sl W0 a zs) := hs.below B0
  clear hn hs hW0' hl
  have hw0 : 0 < w.heap.size := World.block_lt_of_cell? _ _ (hT 0 (by decide))
  have HT : Hid (Tab W0) := hT.below B0 hw0
  have HR : Hid (∀ z ∈ zs, 0 ≤ z ∧ z ≤ 255) := hr
  have HLC : Hid (l ≤ c) := hlc
  obtain ⟨hh, he⟩ := wtE_parts hE
  have HE : Hid ((decide (0 < l) && decide (wh ≤ gap ls tk)) = true) := he
  have hP : 0 ≤ ls ∧ ls ≤ 4294967295 ∧ 0 ≤ tk ∧ tk ≤ 4294967295 := by
    have h1 : okT l ls bd hf wh = true := by simp only [Bool.and_eq_true] at hh; exact hh.1
    have h2 : tkB tk = true := by simp only [Bool.and_eq_true] at hh; exact hh.2
    have q1 := (okT_parts h1).1
    have q2 := tkB_parts h2
    omega
  have HP : Hid (0 ≤ ls ∧ ls ≤ 4294967295 ∧ 0 ≤ tk ∧ tk ≤ 4294967295) := hP
  clear hP
  clear hE he hr hT hlc
  go_enter Tryd.func15, Tryd.ntmps15
  go_wp2_with fail
  rw [← hW0.out]
  refine (canHear_any a l c ls bd hf wh tk _ HN.out.2.1 _ hh).mono ?_
  rintro e w1 ⟨rfl, b'⟩
  have BB1 : Hid (Below W0.heap.size W0 w1) := b'
  have b1 := bel_next B0 b'
  have X1 := X0.below b'
  have R1 := R0.below b'
  have S2 : Hid (Sl w1 a zs) := S1.out.below b'
  clear b' B0 X0 R0 S1
  obtain ⟨x0, x1, x2, x3, x4⟩ := X1.five
  go_wp2_with fail
  refine (isSilent_any a l c ls bd hf wh tk wh _ HP.out.1 HP.out.2.1 HP.out.2.2.1 HP.out.2.2.2 _ HE.out).mono ?_
  rintro e w2 ⟨rfl, b'⟩
  have BB : Hid (Below W0.heap.size W0 w2) := bel_next BB1.out b'
  have b2 := bel_next b1 b'
  have X2 := X1.below b'
  have R2 := R1.below b'
  have S3 : Hid (Sl w2 a zs) := S2.out.below b'
  clear b' b1 X1 R1 S2 x0 x1 x2 x3 x4
  obtain ⟨x0, x1, x2, x3, x4⟩ := X2.five
  have T2 : Hid (Tab w2) := HT.out.below (B := W0.heap.size) BB.out (by omega)
  clear hh HP HE HT
  go_wp2_with fail
  refine (ended_any a l c ls bd hf wh zs _ HN.out.1 S3.out HN.out.2.2 HLC.out HR.out T2.out).mono ?_
  rintro e w3 ⟨pa, pn, pc, rfl, hpn, o3, b'⟩
  have b3 := bel_next b2 b'
  have R3 := R2.below b'
  have hz2 : w.heap.size ≤ w2.heap.size := b2.size
  have hz3 : w.heap.size + 1 < w3.heap.size := R3.lt
  obtain ⟨K, hK⟩ : ∃ K, K = (gotOf bd zs).1 := ⟨_, rfl⟩
  obtain ⟨U, hU⟩ : ∃ U, U = (gotOf bd zs).2.1 := ⟨_, rfl⟩
  obtain ⟨P, hP⟩ : ∃ P, P = (gotOf bd zs).2.2 := ⟨_, rfl⟩
  have HG : Hid (gotOf bd zs = (K, U, P)) := by show _ = _; rw [hK, hU, hP]
  rw [← hK, ← hU]
  rw [← hP] at hpn o3
  have HPN : Hid (pn = P.length) := hpn
  have HPL : Hid (P.length ≤ 300) := by show P.length ≤ 300; rw [hP]; exact gotOf_len bd zs
  obtain ⟨W4, hW4'⟩ : ∃ W4, W4 = (w3.alloc (.cells #[.slice none 0 0, .int .i64 ls, .bool false, .int .i64 hf, .int .i64 wh] 33)).alloc (.cells #[.int .i64 K, .int .i64 U, .slice pa pn pc] 42) := ⟨_, rfl⟩
  have hW4 : Hid (W4 = _) := hW4'
  have q4 : Below w3.heap.size w3 W4 := by rw [hW4']; exact bel_next (bel_alloc _ _) (bel_alloc _ _)
  have b4 := bel_next b3 q4
  have R4 := R3.below q4
  have o4 := o3.below q4
  have N4 : Blk W4 w3.heap.size 33 #[.slice none 0 0, .int .i64 ls, .bool false, .int .i64 hf, .int .i64 wh] := by rw [hW4']; exact (Blk.new w3 _ _).below (bel_alloc _ _)
  have T4 : Blk W4 (w3.heap.size + 1) 42 #[.int .i64 K, .int .i64 U, .slice pa pn pc] := by rw [hW4']; have := Blk.new (w3.alloc (.cells #[.slice none 0 0, .int .i64 ls, .bool false, .int .i64 hf, .int .i64 wh] 33)) #[.int .i64 K, .int .i64 U, .slice pa pn pc] 42; simpa using this
  have hz4 : W4.heap.size = w3.heap.size + 1 + 1 := by rw [hW4']; simp
  clear b' b2 R2 X2 x0 x1 x2 x3 x4 S3 T2 hK hU hP hpn hW4' q4 b3 R3 o3
  obtain ⟨r0, r1, r2, r3, r4⟩ := R4.five
  obtain ⟨n0, n1, n2, n3, n4⟩ := N4.five
  obtain ⟨t0, t1, t2⟩ := T4.three
  have fr := R4.fro
  have RA := R4.below (bel_alloc W4 (.cells #[.int .i64 K, .int .i64 U, .slice pa pn pc] 42))
  obtain ⟨s0, s1, s2, s3, s4⟩ := RA.five
  have fs := RA.fro
  have d1 : ¬ w3.heap.size = w.heap.size + 1 := by omega
  have d2 : ¬ w3.heap.size + 1 = w.heap.size + 1 := by omega
  have d3 : ¬ w.heap.size + 1 = w3.heap.size := by omega
  have d4 : ¬ w.heap.size + 1 = w3.heap.size + 1 := by omega
  have d5 : ¬ w.heap.size + 1 = W4.heap.size := by omega
  have d6 : ¬ W4.heap.size = w.heap.size + 1 := by omega
  go_wp2_with fail
  rw [← hW4.out]
  go_region
  · go_wp2
    have Z := (st5_self R4 (.slice none 0 0) (.int .i64 ls) (.bool false) (.int .i64 hf) (.int .i64 wh))
    have hsz := st5_size W4 (w.heap.size + 1) (.slice none 0 0) (.int .i64 ls) (.bool false) (.int .i64 hf) (.int .i64 wh)
    have oZ := st5_own (v0 := .slice none 0 0) (v1 := .int .i64 ls) (v2 := .bool false) (v3 := .int .i64 hf) (v4 := .int .i64 wh) o4 ⟨_, R4⟩
    have bZ := st5_bel (v0 := .slice none 0 0) (v1 := .int .i64 ls) (v2 := .bool false) (v3 := .int .i64 hf) (v4 := .int .i64 wh) b4 (show w.heap.size ≤ w.heap.size + 1 by omega)
    have qb := (bel_alloc (st5 W4 (w.heap.size + 1) (.slice none 0 0) (.int .i64 ls) (.bool false) (.int .i64 hf) (.int .i64 wh)) (.cells #[.int .i64 K, .int .i64 U, .slice pa pn pc] 42)).drew
    have gZ := (Blk.new (st5 W4 (w.heap.size + 1) (.slice none 0 0) (.int .i64 ls) (.bool false) (.int .i64 hf) (.int .i64 wh)) #[.int .i64 K, .int .i64 U, .slice pa pn pc] 42).below (Below.refl _ _).drew
    rw [hsz, hz4] at gZ
    have Z' := Z.below qb
    obtain ⟨z0, z1, z2, z3, z4⟩ := Z'.five
    refine bodyPost_ret (v := .tuple #[rt none 0 0 ls false hf wh, .slice (some ⟨w3.heap.size + 1 + 1, 0, none⟩) 1 1]) (by simp only [results, Tryd.results15]; simp [go_sem] at z0 z1 z2 z3 z4 ⊢; simp [z0, z1, z2, z3, z4]) rfl ?_
    rw [HG.out]
    exact ⟨none, 0, 0, _, 1, 1, _, rfl, rfl, ⟨rfl, .inl ⟨rfl, rfl⟩⟩, Below.size (bel_next bZ qb), Nat.le_refl _, GotW.one (by omega) gZ HPN.out (Own.monoT (oZ.below qb) hz2) (fun j hj => (World.ownsRow.lt (oZ.below qb) j hj).2) HPL.out, bel_next bZ qb⟩
  · go_wp2
    have eA := bel_alloc W4 (.cells #[.int .i64 K, .int .i64 U, .slice pa pn pc] 42)
    have oZ := st5_own (v0 := .slice none 0 0) (v1 := .int .i64 ls) (v2 := .bool false) (v3 := .int .i64 hf) (v4 := .int .i64 wh) (o4.below eA) ⟨_, RA⟩
    have bZ := st5_bel (v0 := .slice none 0 0) (v1 := .int .i64 ls) (v2 := .bool false) (v3 := .int .i64 hf) (v4 := .int .i64 wh) (bel_next b4 eA) (show w.heap.size ≤ w.heap.size + 1 by omega)
    have gZ := (st5_blk (v0 := .slice none 0 0) (v1 := .int .i64 ls) (v2 := .bool false) (v3 := .int .i64 hf) (v4 := .int .i64 wh) (Blk.new W4 #[.int .i64 K, .int .i64 U, .slice pa pn pc] 42) (g := w.heap.size + 1) (by omega)).below (Below.refl _ _).drew
    rw [hz4] at gZ
    refine bodyPost_ret (v := .tuple #[rt none 0 0 ls false hf wh, .slice (some ⟨w3.heap.size + 1 + 1, 0, none⟩) 1 1]) (by simp [results, Tryd.results15, go_sem, s0, s1, s2, s3, s4]) rfl ?_
    rw [HG.out]
    exact ⟨none, 0, 0, _, 1, 1, _, rfl, rfl, ⟨rfl, .inl ⟨rfl, rfl⟩⟩, Below.size bZ.drew, Nat.le_refl _, GotW.one (by omega) gZ HPN.out (Own.monoT (oZ.below (Below.refl _ _).drew) hz2) (fun j hj => (World.ownsRow.lt (oZ.below (Below.refl _ _).drew) j hj).2) HPL.out, bZ.drew⟩

end Go.Proofs.YtoofkikenfgbpaaDoor

/- Texts that the proof needs, joined: G3. -/
import Derived.Test.YtohikbpolofklaaGreatDoorV6
import Derived.Test.YtohikbpolofklaaGreatDoorV7
import Derived.Lib.MinMax
namespace Go.Proofs.YtohikbpolofklaaGreatDoor
open Go.RowKit
set_option linter.unusedVariables false
set_option linter.unusedSimpArgs false
def NwB (w w' : World) (e : Ending) (bs : List Bool) : Prop := ∃ a c n, e = .returned (.slice a n c) ∧ n = bs.length ∧ OwnB w' w.heap.size (.slice a n c) bs ∧ Below w.heap.size w w'
theorem sl_drop {w : World} {b off : Nat} {zs : List Int} (h : Sl w (some ⟨b, off, none⟩) zs) (k : Nat) : Sl w (some ⟨b, off + k, none⟩) (zs.drop k) := by
  rcases h with h | ⟨b', off', e, hb, hc⟩
  · subst h; exact .inl (by simp)
  · simp at e
    obtain ⟨rfl, rfl⟩ := e
    refine .inr ⟨_, _, rfl, hb, fun i hi => ?_⟩
    simp at hi
    rw [show off + k + i = off + (k + i) from by omega, hc (k + i) (by omega)]
    simp [List.getD_eq_getElem?_getD]
theorem drop_rg {zs : List Int} (hr : ∀ z ∈ zs, 0 ≤ z ∧ z ≤ 255) (k : Nat) : ∀ z ∈ zs.drop k, 0 ≤ z ∧ z ≤ 255 := fun z hz => hr z (List.mem_of_mem_drop hz)
set_option maxRecDepth 20000 in
set_option maxHeartbeats 2000000 in
theorem bitsFrom_any (a : Option Addr) (n cap : Nat) (zs : List Int) (x : Int) (w : World) (hn : n = zs.length) (hs : Sl w a zs) (hr : ∀ z ∈ zs, 0 ≤ z ∧ z ≤ 255) (hl : n ≤ 2000000) (hp : 0 < zs.length) (hcap : n ≤ cap) (hx : x ≤ 65535) :
    Calls Tryz.prog 75 #[.slice a n cap, .int .i64 6, .int .i64 x] w fun e w' => NwB w w' e (outU (zs.drop 6) x) := by
  obtain ⟨b, off, rfl, _, _⟩ := cell_at hs hp
  have HS : Hid (n = zs.length ∧ Sl w (some ⟨b, off, none⟩) zs ∧ (∀ z ∈ zs, 0 ≤ z ∧ z ≤ 255)) := ⟨hn, hs, hr⟩
  by_cases h6 : 6 < n
  · have g1 : (6 : Int) < (n : Int) := by omega
    have hmin : (min 6 (n : Int)).toNat = 6 := by omega
    have HD : Hid ((zs.drop 6).length = n - 6) := by show (zs.drop 6).length = n - 6; simp; omega
    clear hn hs hr hp
    go_enter Tryz.func75, Tryz.ntmps75
    go_wp2_with fail
    refine (implUnpack_any _ _ _ (zs.drop 6) x _ (by rw [HD.out]) (sl_drop HS.out.2.1 6) (drop_rg HS.out.2.2 6) (by omega) (by omega)).mono ?_
    rintro e w1 ⟨a', c', rfl, ho, hb⟩
    have R : NwB w w1 (.returned (.slice a' (outU (zs.drop 6) x).length c')) (outU (zs.drop 6) x) := ⟨a', c', _, rfl, rfl, ho, hb⟩
    clear ho hb
    generalize (outU (zs.drop 6) x).length = m at *
    go_wp2
    go_ret
    exact R
  · have g1 : ¬ (6 : Int) < (n : Int) := by omega
    have hmin : (min 6 (n : Int)).toNat = n := by omega
    have HD : Hid (zs.drop 6 = []) := by show zs.drop 6 = []; exact List.drop_eq_nil_of_le (by omega)
    clear hn hs hr hp
    go_enter Tryz.func75, Tryz.ntmps75
    go_wp2_with (go_at_call 81; refine (implUnpack_any _ _ _ (zs.drop 6) x _ (by simp [HD.out]) (by rw [HD.out]; exact .inl rfl) (drop_rg HS.out.2.2 6) (by omega) (by omega)).mono ?_; rintro e w1 ⟨a', c', rfl, ho, hb⟩; have R : NwB w w1 (.returned (.slice a' (outU (zs.drop 6) x).length c')) (outU (zs.drop 6) x) := ⟨a', c', _, rfl, rfl, ho, hb⟩; clear ho hb; generalize (outU (zs.drop 6) x).length = m at *)
    all_goals (go_ret; exact R)
set_option maxRecDepth 20000 in
set_option maxHeartbeats 4000000 in
theorem questionIn_1 (a : Option Addr) (n cap : Nat) (zs : List Int) (w : World) (hn : n = zs.length) (hs : Sl w a zs) (hr : ∀ z ∈ zs, 0 ≤ z ∧ z ≤ 255) (hl : n ≤ 2000000) (hp : 0 < zs.length) (hcap : n ≤ cap) (hk : zs.getD 0 0 = 1) :
    Calls Tryz.prog 62 #[.slice a n cap] w fun e w' => e = .returned (.iface 87 (.agg #[.int .i64 (wAt zs 1), .int .i64 (wAt zs 3)])) ∧ Below w.heap.size w w' := by
  obtain ⟨bk, off, ea, hbk, hc⟩ := cell_at hs hp
  rw [hk] at hc
  have hc0 : w.cell? ⟨bk, off, none⟩ = some (.int .u8 1) := by simpa using hc
  have hz0 : (0 : Int) < (n : Int) := by omega
  have HS : Hid (n = zs.length ∧ Sl w a zs ∧ (∀ z ∈ zs, 0 ≤ z ∧ z ≤ 255) ∧ 0 < zs.length) := ⟨hn, hs, hr, hp⟩
  have HB3 : Hid (0 ≤ wAt zs 3 ∧ wAt zs 3 ≤ 65535) := wAt_bd hr 3
  subst ea
  clear hn hs hr hp hc hk
  go_enter Tryz.func62, Tryz.ntmps62
  go_wp2_with fail
  refine (implWordAt_q _ n cap zs _ 1 _ rfl HS.out.1 HS.out.2.1 HS.out.2.2.1 hl).mono ?_
  rintro e w1 ⟨rfl, b'⟩
  have B1 := b'
  go_wp2_with fail
  refine (implWordAt_q _ n cap zs _ 3 _ rfl HS.out.1 (HS.out.2.1.below B1) HS.out.2.2.1 hl).mono ?_
  rintro e w2 ⟨rfl, b'⟩
  have B2 := bel_next B1 b'
  clear b' B1
  go_wp2_with fail
  refine (implWordAt_q _ n cap zs _ 5 _ rfl HS.out.1 (HS.out.2.1.below B2) HS.out.2.2.1 hl).mono ?_
  rintro e w3 ⟨rfl, b'⟩
  have B3 := bel_next B2 b'
  clear b' B2
  have c3 : w3.cell? ⟨bk, off, none⟩ = _ := (B3.cell (p := ⟨bk, off, none⟩) hbk).trans hc0
  go_wp2
  go_ret
  exact ⟨rfl, B3⟩
set_option maxRecDepth 20000 in
set_option maxHeartbeats 4000000 in
theorem questionIn_2 (a : Option Addr) (n cap : Nat) (zs : List Int) (w : World) (hn : n = zs.length) (hs : Sl w a zs) (hr : ∀ z ∈ zs, 0 ≤ z ∧ z ≤ 255) (hl : n ≤ 2000000) (hp : 0 < zs.length) (hcap : n ≤ cap) (hk : zs.getD 0 0 = 2) :
    Calls Tryz.prog 62 #[.slice a n cap] w fun e w' => e = .returned (.iface 89 (.agg #[.int .i64 (wAt zs 1), .int .i64 (wAt zs 3)])) ∧ Below w.heap.size w w' := by
  obtain ⟨bk, off, ea, hbk, hc⟩ := cell_at hs hp
  rw [hk] at hc
  have hc0 : w.cell? ⟨bk, off, none⟩ = some (.int .u8 2) := by simpa using hc
  have hz0 : (0 : Int) < (n : Int) := by omega
  have HS : Hid (n = zs.length ∧ Sl w a zs ∧ (∀ z ∈ zs, 0 ≤ z ∧ z ≤ 255) ∧ 0 < zs.length) := ⟨hn, hs, hr, hp⟩
  have HB3 : Hid (0 ≤ wAt zs 3 ∧ wAt zs 3 ≤ 65535) := wAt_bd hr 3
  subst ea
  clear hn hs hr hp hc hk
  go_enter Tryz.func62, Tryz.ntmps62
  go_wp2_with fail
  refine (implWordAt_q _ n cap zs _ 1 _ rfl HS.out.1 HS.out.2.1 HS.out.2.2.1 hl).mono ?_
  rintro e w1 ⟨rfl, b'⟩
  have B1 := b'
  go_wp2_with fail
  refine (implWordAt_q _ n cap zs _ 3 _ rfl HS.out.1 (HS.out.2.1.below B1) HS.out.2.2.1 hl).mono ?_
  rintro e w2 ⟨rfl, b'⟩
  have B2 := bel_next B1 b'
  clear b' B1
  go_wp2_with fail
  refine (implWordAt_q _ n cap zs _ 5 _ rfl HS.out.1 (HS.out.2.1.below B2) HS.out.2.2.1 hl).mono ?_
  rintro e w3 ⟨rfl, b'⟩
  have B3 := bel_next B2 b'
  clear b' B2
  have c3 : w3.cell? ⟨bk, off, none⟩ = _ := (B3.cell (p := ⟨bk, off, none⟩) hbk).trans hc0
  go_wp2
  go_ret
  exact ⟨rfl, B3⟩
set_option maxRecDepth 20000 in
set_option maxHeartbeats 4000000 in
theorem questionIn_3 (a : Option Addr) (n cap : Nat) (zs : List Int) (w : World) (hn : n = zs.length) (hs : Sl w a zs) (hr : ∀ z ∈ zs, 0 ≤ z ∧ z ≤ 255) (hl : n ≤ 2000000) (hp : 0 < zs.length) (hcap : n ≤ cap) (hk : zs.getD 0 0 = 3) :
    Calls Tryz.prog 62 #[.slice a n cap] w fun e w' => e = .returned (.iface 90 (.agg #[.int .i64 (wAt zs 1), .int .i64 (wAt zs 3)])) ∧ Below w.heap.size w w' := by
  obtain ⟨bk, off, ea, hbk, hc⟩ := cell_at hs hp
  rw [hk] at hc
  have hc0 : w.cell? ⟨bk, off, none⟩ = some (.int .u8 3) := by simpa using hc
  have hz0 : (0 : Int) < (n : Int) := by omega
  have HS : Hid (n = zs.length ∧ Sl w a zs ∧ (∀ z ∈ zs, 0 ≤ z ∧ z ≤ 255) ∧ 0 < zs.length) := ⟨hn, hs, hr, hp⟩
  have HB3 : Hid (0 ≤ wAt zs 3 ∧ wAt zs 3 ≤ 65535) := wAt_bd hr 3
  subst ea
  clear hn hs hr hp hc hk
  go_enter Tryz.func62, Tryz.ntmps62
  go_wp2_with fail
  refine (implWordAt_q _ n cap zs _ 1 _ rfl HS.out.1 HS.out.2.1 HS.out.2.2.1 hl).mono ?_
  rintro e w1 ⟨rfl, b'⟩
  have B1 := b'
  go_wp2_with fail
  refine (implWordAt_q _ n cap zs _ 3 _ rfl HS.out.1 (HS.out.2.1.below B1) HS.out.2.2.1 hl).mono ?_
  rintro e w2 ⟨rfl, b'⟩
  have B2 := bel_next B1 b'
  clear b' B1
  go_wp2_with fail
  refine (implWordAt_q _ n cap zs _ 5 _ rfl HS.out.1 (HS.out.2.1.below B2) HS.out.2.2.1 hl).mono ?_
  rintro e w3 ⟨rfl, b'⟩
  have B3 := bel_next B2 b'
  clear b' B2
  have c3 : w3.cell? ⟨bk, off, none⟩ = _ := (B3.cell (p := ⟨bk, off, none⟩) hbk).trans hc0
  go_wp2
  go_ret
  exact ⟨rfl, B3⟩
set_option maxRecDepth 20000 in
set_option maxHeartbeats 4000000 in
theorem questionIn_4 (a : Option Addr) (n cap : Nat) (zs : List Int) (w : World) (hn : n = zs.length) (hs : Sl w a zs) (hr : ∀ z ∈ zs, 0 ≤ z ∧ z ≤ 255) (hl : n ≤ 2000000) (hp : 0 < zs.length) (hcap : n ≤ cap) (hk : zs.getD 0 0 = 4) :
    Calls Tryz.prog 62 #[.slice a n cap] w fun e w' => e = .returned (.iface 91 (.agg #[.int .i64 (wAt zs 1), .int .i64 (wAt zs 3)])) ∧ Below w.heap.size w w' := by
  obtain ⟨bk, off, ea, hbk, hc⟩ := cell_at hs hp
  rw [hk] at hc
  have hc0 : w.cell? ⟨bk, off, none⟩ = some (.int .u8 4) := by simpa using hc
  have hz0 : (0 : Int) < (n : Int) := by omega
  have HS : Hid (n = zs.length ∧ Sl w a zs ∧ (∀ z ∈ zs, 0 ≤ z ∧ z ≤ 255) ∧ 0 < zs.length) := ⟨hn, hs, hr, hp⟩
  have HB3 : Hid (0 ≤ wAt zs 3 ∧ wAt zs 3 ≤ 65535) := wAt_bd hr 3
  subst ea
  clear hn hs hr hp hc hk
  go_enter Tryz.func62, Tryz.ntmps62
  go_wp2_with fail
  refine (implWordAt_q _ n cap zs _ 1 _ rfl HS.out.1 HS.out.2.1 HS.out.2.2.1 hl).mono ?_
  rintro e w1 ⟨rfl, b'⟩
  have B1 := b'
  go_wp2_with fail
  refine (implWordAt_q _ n cap zs _ 3 _ rfl HS.out.1 (HS.out.2.1.below B1) HS.out.2.2.1 hl).mono ?_
  rintro e w2 ⟨rfl, b'⟩
  have B2 := bel_next B1 b'
  clear b' B1
  go_wp2_with fail
  refine (implWordAt_q _ n cap zs _ 5 _ rfl HS.out.1 (HS.out.2.1.below B2) HS.out.2.2.1 hl).mono ?_
  rintro e w3 ⟨rfl, b'⟩
  have B3 := bel_next B2 b'
  clear b' B2
  have c3 : w3.cell? ⟨bk, off, none⟩ = _ := (B3.cell (p := ⟨bk, off, none⟩) hbk).trans hc0
  go_wp2
  go_ret
  exact ⟨rfl, B3⟩
set_option maxRecDepth 20000 in
set_option maxHeartbeats 4000000 in
theorem questionIn_5 (a : Option Addr) (n cap : Nat) (zs : List Int) (w : World) (hn : n = zs.length) (hs : Sl w a zs) (hr : ∀ z ∈ zs, 0 ≤ z ∧ z ≤ 255) (hl : n ≤ 2000000) (hp : 0 < zs.length) (hcap : n ≤ cap) (hk : zs.getD 0 0 = 5) :
    Calls Tryz.prog 62 #[.slice a n cap] w fun e w' => e = .returned (.iface 93 (.agg #[.int .i64 (wAt zs 1), .bool (wAt zs 3 == 65280)])) ∧ Below w.heap.size w w' := by
  obtain ⟨bk, off, ea, hbk, hc⟩ := cell_at hs hp
  rw [hk] at hc
  have hc0 : w.cell? ⟨bk, off, none⟩ = some (.int .u8 5) := by simpa using hc
  have hz0 : (0 : Int) < (n : Int) := by omega
  have HS : Hid (n = zs.length ∧ Sl w a zs ∧ (∀ z ∈ zs, 0 ≤ z ∧ z ≤ 255) ∧ 0 < zs.length) := ⟨hn, hs, hr, hp⟩
  have HB3 : Hid (0 ≤ wAt zs 3 ∧ wAt zs 3 ≤ 65535) := wAt_bd hr 3
  subst ea
  clear hn hs hr hp hc hk
  go_enter Tryz.func62, Tryz.ntmps62
  go_wp2_with fail
  refine (implWordAt_q _ n cap zs _ 1 _ rfl HS.out.1 HS.out.2.1 HS.out.2.2.1 hl).mono ?_
  rintro e w1 ⟨rfl, b'⟩
  have B1 := b'
  go_wp2_with fail
  refine (implWordAt_q _ n cap zs _ 3 _ rfl HS.out.1 (HS.out.2.1.below B1) HS.out.2.2.1 hl).mono ?_
  rintro e w2 ⟨rfl, b'⟩
  have B2 := bel_next B1 b'
  clear b' B1
  go_wp2_with fail
  refine (implWordAt_q _ n cap zs _ 5 _ rfl HS.out.1 (HS.out.2.1.below B2) HS.out.2.2.1 hl).mono ?_
  rintro e w3 ⟨rfl, b'⟩
  have B3 := bel_next B2 b'
  clear b' B2
  have c3 : w3.cell? ⟨bk, off, none⟩ = _ := (B3.cell (p := ⟨bk, off, none⟩) hbk).trans hc0
  go_wp2
  go_ret
  exact ⟨rfl, B3⟩
set_option maxRecDepth 20000 in
set_option maxHeartbeats 4000000 in
theorem questionIn_6 (a : Option Addr) (n cap : Nat) (zs : List Int) (w : World) (hn : n = zs.length) (hs : Sl w a zs) (hr : ∀ z ∈ zs, 0 ≤ z ∧ z ≤ 255) (hl : n ≤ 2000000) (hp : 0 < zs.length) (hcap : n ≤ cap) (hk : zs.getD 0 0 = 6) :
    Calls Tryz.prog 62 #[.slice a n cap] w fun e w' => e = .returned (.iface 96 (.agg #[.int .i64 (wAt zs 1), .int .i64 (wAt zs 3)])) ∧ Below w.heap.size w w' := by
  obtain ⟨bk, off, ea, hbk, hc⟩ := cell_at hs hp
  rw [hk] at hc
  have hc0 : w.cell? ⟨bk, off, none⟩ = some (.int .u8 6) := by simpa using hc
  have hz0 : (0 : Int) < (n : Int) := by omega
  have HS : Hid (n = zs.length ∧ Sl w a zs ∧ (∀ z ∈ zs, 0 ≤ z ∧ z ≤ 255) ∧ 0 < zs.length) := ⟨hn, hs, hr, hp⟩
  have HB3 : Hid (0 ≤ wAt zs 3 ∧ wAt zs 3 ≤ 65535) := wAt_bd hr 3
  subst ea
  clear hn hs hr hp hc hk
  go_enter Tryz.func62, Tryz.ntmps62
  go_wp2_with fail
  refine (implWordAt_q _ n cap zs _ 1 _ rfl HS.out.1 HS.out.2.1 HS.out.2.2.1 hl).mono ?_
  rintro e w1 ⟨rfl, b'⟩
  have B1 := b'
  go_wp2_with fail
  refine (implWordAt_q _ n cap zs _ 3 _ rfl HS.out.1 (HS.out.2.1.below B1) HS.out.2.2.1 hl).mono ?_
  rintro e w2 ⟨rfl, b'⟩
  have B2 := bel_next B1 b'
  clear b' B1
  go_wp2_with fail
  refine (implWordAt_q _ n cap zs _ 5 _ rfl HS.out.1 (HS.out.2.1.below B2) HS.out.2.2.1 hl).mono ?_
  rintro e w3 ⟨rfl, b'⟩
  have B3 := bel_next B2 b'
  clear b' B2
  have c3 : w3.cell? ⟨bk, off, none⟩ = _ := (B3.cell (p := ⟨bk, off, none⟩) hbk).trans hc0
  go_wp2
  go_ret
  exact ⟨rfl, B3⟩
set_option maxRecDepth 20000 in
set_option maxHeartbeats 4000000 in
theorem questionIn_15 (a : Option Addr) (n cap : Nat) (zs : List Int) (w : World) (hn : n = zs.length) (hs : Sl w a zs) (hr : ∀ z ∈ zs, 0 ≤ z ∧ z ≤ 255) (hl : n ≤ 2000000) (hp : 0 < zs.length) (hcap : n ≤ cap) (hk : zs.getD 0 0 = 15) :
    Calls Tryz.prog 62 #[.slice a n cap] w fun e w' => ∃ a' c' n', e = .returned (.iface 98 (.agg #[.int .i64 (wAt zs 1), .slice a' n' c'])) ∧ n' = (outU (zs.drop 6) (wAt zs 3)).length ∧ OwnB w' w.heap.size (.slice a' n' c') (outU (zs.drop 6) (wAt zs 3)) ∧ Below w.heap.size w w' := by
  obtain ⟨bk, off, ea, hbk, hc⟩ := cell_at hs hp
  rw [hk] at hc
  have hc0 : w.cell? ⟨bk, off, none⟩ = some (.int .u8 15) := by simpa using hc
  have hz0 : (0 : Int) < (n : Int) := by omega
  have HS : Hid (n = zs.length ∧ Sl w a zs ∧ (∀ z ∈ zs, 0 ≤ z ∧ z ≤ 255) ∧ 0 < zs.length) := ⟨hn, hs, hr, hp⟩
  have HB3 : Hid (0 ≤ wAt zs 3 ∧ wAt zs 3 ≤ 65535) := wAt_bd hr 3
  subst ea
  clear hn hs hr hp hc hk
  go_enter Tryz.func62, Tryz.ntmps62
  go_wp2_with fail
  refine (implWordAt_q _ n cap zs _ 1 _ rfl HS.out.1 HS.out.2.1 HS.out.2.2.1 hl).mono ?_
  rintro e w1 ⟨rfl, b'⟩
  have B1 := b'
  go_wp2_with fail
  refine (implWordAt_q _ n cap zs _ 3 _ rfl HS.out.1 (HS.out.2.1.below B1) HS.out.2.2.1 hl).mono ?_
  rintro e w2 ⟨rfl, b'⟩
  have B2 := bel_next B1 b'
  clear b' B1
  go_wp2_with fail
  refine (implWordAt_q _ n cap zs _ 5 _ rfl HS.out.1 (HS.out.2.1.below B2) HS.out.2.2.1 hl).mono ?_
  rintro e w3 ⟨rfl, b'⟩
  have B3 := bel_next B2 b'
  clear b' B2
  have c3 : w3.cell? ⟨bk, off, none⟩ = _ := (B3.cell (p := ⟨bk, off, none⟩) hbk).trans hc0
  go_wp2_with fail
  refine (bitsFrom_any _ n cap zs _ _ HS.out.1 (HS.out.2.1.below B3) HS.out.2.2.1 hl HS.out.2.2.2 hcap HB3.out.2).mono ?_
  rintro e w4 ⟨a', c', n', rfl, hn', o4, b'⟩
  have H4 : Hid _ := (⟨hn', OwnB.mono o4 B3.size, bel_next B3 b'⟩ : _ ∧ _ ∧ _)
  clear hn' o4 b'
  go_wp2
  go_ret
  exact ⟨a', c', n', rfl, H4.out⟩
set_option maxRecDepth 20000 in
set_option maxHeartbeats 4000000 in
theorem questionIn_16 (a : Option Addr) (n cap : Nat) (zs : List Int) (w : World) (hn : n = zs.length) (hs : Sl w a zs) (hr : ∀ z ∈ zs, 0 ≤ z ∧ z ≤ 255) (hl : n ≤ 2000000) (hp : 0 < zs.length) (hcap : n ≤ cap) (hk : zs.getD 0 0 = 16) :
    Calls Tryz.prog 62 #[.slice a n cap] w fun e w' => ∃ a' c' n', e = .returned (.iface 101 (.agg #[.int .i64 (wAt zs 1), .slice a' n' c'])) ∧ n' = (wsF zs 6).length ∧ OwnI w' w.heap.size (.slice a' n' c') (wsF zs 6) ∧ Below w.heap.size w w' := by
  obtain ⟨bk, off, ea, hbk, hc⟩ := cell_at hs hp
  rw [hk] at hc
  have hc0 : w.cell? ⟨bk, off, none⟩ = some (.int .u8 16) := by simpa using hc
  have hz0 : (0 : Int) < (n : Int) := by omega
  have HS : Hid (n = zs.length ∧ Sl w a zs ∧ (∀ z ∈ zs, 0 ≤ z ∧ z ≤ 255) ∧ 0 < zs.length) := ⟨hn, hs, hr, hp⟩
  have HB3 : Hid (0 ≤ wAt zs 3 ∧ wAt zs 3 ≤ 65535) := wAt_bd hr 3
  subst ea
  clear hn hs hr hp hc hk
  go_enter Tryz.func62, Tryz.ntmps62
  go_wp2_with fail
  refine (implWordAt_q _ n cap zs _ 1 _ rfl HS.out.1 HS.out.2.1 HS.out.2.2.1 hl).mono ?_
  rintro e w1 ⟨rfl, b'⟩
  have B1 := b'
  go_wp2_with fail
  refine (implWordAt_q _ n cap zs _ 3 _ rfl HS.out.1 (HS.out.2.1.below B1) HS.out.2.2.1 hl).mono ?_
  rintro e w2 ⟨rfl, b'⟩
  have B2 := bel_next B1 b'
  clear b' B1
  go_wp2_with fail
  refine (implWordAt_q _ n cap zs _ 5 _ rfl HS.out.1 (HS.out.2.1.below B2) HS.out.2.2.1 hl).mono ?_
  rintro e w3 ⟨rfl, b'⟩
  have B3 := bel_next B2 b'
  clear b' B2
  have c3 : w3.cell? ⟨bk, off, none⟩ = _ := (B3.cell (p := ⟨bk, off, none⟩) hbk).trans hc0
  go_wp2_with fail
  refine (wordsFrom_any _ n cap zs _ 6 _ rfl HS.out.1 (HS.out.2.1.below B3) HS.out.2.2.1 hl (by omega)).mono ?_
  rintro e w4 ⟨a', c', n', rfl, hn', o4, b'⟩
  have H4 : Hid _ := (⟨hn', OwnI.mono o4 B3.size, bel_next B3 b'⟩ : _ ∧ _ ∧ _)
  clear hn' o4 b'
  go_wp2
  go_ret
  exact ⟨a', c', n', rfl, H4.out⟩
set_option maxRecDepth 20000 in
set_option maxHeartbeats 4000000 in
theorem questionIn_22 (a : Option Addr) (n cap : Nat) (zs : List Int) (w : World) (hn : n = zs.length) (hs : Sl w a zs) (hr : ∀ z ∈ zs, 0 ≤ z ∧ z ≤ 255) (hl : n ≤ 2000000) (hp : 0 < zs.length) (hcap : n ≤ cap) (hk : zs.getD 0 0 = 22) :
    Calls Tryz.prog 62 #[.slice a n cap] w fun e w' => e = .returned (.iface 104 (.agg #[.int .i64 (wAt zs 1), .int .i64 (wAt zs 3), .int .i64 (wAt zs 5)])) ∧ Below w.heap.size w w' := by
  obtain ⟨bk, off, ea, hbk, hc⟩ := cell_at hs hp
  rw [hk] at hc
  have hc0 : w.cell? ⟨bk, off, none⟩ = some (.int .u8 22) := by simpa using hc
  have hz0 : (0 : Int) < (n : Int) := by omega
  have HS : Hid (n = zs.length ∧ Sl w a zs ∧ (∀ z ∈ zs, 0 ≤ z ∧ z ≤ 255) ∧ 0 < zs.length) := ⟨hn, hs, hr, hp⟩
  have HB3 : Hid (0 ≤ wAt zs 3 ∧ wAt zs 3 ≤ 65535) := wAt_bd hr 3
  subst ea
  clear hn hs hr hp hc hk
  go_enter Tryz.func62, Tryz.ntmps62
  go_wp2_with fail
  refine (implWordAt_q _ n cap zs _ 1 _ rfl HS.out.1 HS.out.2.1 HS.out.2.2.1 hl).mono ?_
  rintro e w1 ⟨rfl, b'⟩
  have B1 := b'
  go_wp2_with fail
  refine (implWordAt_q _ n cap zs _ 3 _ rfl HS.out.1 (HS.out.2.1.below B1) HS.out.2.2.1 hl).mono ?_
  rintro e w2 ⟨rfl, b'⟩
  have B2 := bel_next B1 b'
  clear b' B1
  go_wp2_with fail
  refine (implWordAt_q _ n cap zs _ 5 _ rfl HS.out.1 (HS.out.2.1.below B2) HS.out.2.2.1 hl).mono ?_
  rintro e w3 ⟨rfl, b'⟩
  have B3 := bel_next B2 b'
  clear b' B2
  have c3 : w3.cell? ⟨bk, off, none⟩ = _ := (B3.cell (p := ⟨bk, off, none⟩) hbk).trans hc0
  go_wp2
  go_ret
  exact ⟨rfl, B3⟩
set_option maxRecDepth 20000 in
set_option maxHeartbeats 4000000 in
theorem questionIn_23 (a : Option Addr) (n cap : Nat) (zs : List Int) (w : World) (hn : n = zs.length) (hs : Sl w a zs) (hr : ∀ z ∈ zs, 0 ≤ z ∧ z ≤ 255) (hl : n ≤ 2000000) (hp : 0 < zs.length) (hcap : n ≤ cap) (hk : zs.getD 0 0 = 23) :
    Calls Tryz.prog 62 #[.slice a n cap] w fun e w' => ∃ a' c' n', e = .returned (.iface 106 (.agg #[.int .i64 (wAt zs 1), .int .i64 (wAt zs 3), .int .i64 (wAt zs 5), .slice a' n' c'])) ∧ n' = (wsF zs 10).length ∧ OwnI w' w.heap.size (.slice a' n' c') (wsF zs 10) ∧ Below w.heap.size w w' := by
  obtain ⟨bk, off, ea, hbk, hc⟩ := cell_at hs hp
  rw [hk] at hc
  have hc0 : w.cell? ⟨bk, off, none⟩ = some (.int .u8 23) := by simpa using hc
  have hz0 : (0 : Int) < (n : Int) := by omega
  have HS : Hid (n = zs.length ∧ Sl w a zs ∧ (∀ z ∈ zs, 0 ≤ z ∧ z ≤ 255) ∧ 0 < zs.length) := ⟨hn, hs, hr, hp⟩
  have HB3 : Hid (0 ≤ wAt zs 3 ∧ wAt zs 3 ≤ 65535) := wAt_bd hr 3
  subst ea
  clear hn hs hr hp hc hk
  go_enter Tryz.func62, Tryz.ntmps62
  go_wp2_with fail
  refine (implWordAt_q _ n cap zs _ 1 _ rfl HS.out.1 HS.out.2.1 HS.out.2.2.1 hl).mono ?_
  rintro e w1 ⟨rfl, b'⟩
  have B1 := b'
  go_wp2_with fail
  refine (implWordAt_q _ n cap zs _ 3 _ rfl HS.out.1 (HS.out.2.1.below B1) HS.out.2.2.1 hl).mono ?_
  rintro e w2 ⟨rfl, b'⟩
  have B2 := bel_next B1 b'
  clear b' B1
  go_wp2_with fail
  refine (implWordAt_q _ n cap zs _ 5 _ rfl HS.out.1 (HS.out.2.1.below B2) HS.out.2.2.1 hl).mono ?_
  rintro e w3 ⟨rfl, b'⟩
  have B3 := bel_next B2 b'
  clear b' B2
  have c3 : w3.cell? ⟨bk, off, none⟩ = _ := (B3.cell (p := ⟨bk, off, none⟩) hbk).trans hc0
  go_wp2_with fail
  refine (wordsFrom_any _ n cap zs _ 10 _ rfl HS.out.1 (HS.out.2.1.below B3) HS.out.2.2.1 hl (by omega)).mono ?_
  rintro e w4 ⟨a', c', n', rfl, hn', o4, b'⟩
  have H4 : Hid _ := (⟨hn', OwnI.mono o4 B3.size, bel_next B3 b'⟩ : _ ∧ _ ∧ _)
  clear hn' o4 b'
  go_wp2
  go_ret
  exact ⟨a', c', n', rfl, H4.out⟩
theorem ownB_lit1 (w : World) (x : Bool) (B g : Nat) (hB : B ≤ w.heap.size) (hg : g = w.heap.size) : OwnB (w.alloc (.cells #[.bool x] 4)) B (.slice (some ⟨g, 0, none⟩) 1 1) [x] := by
  subst hg
  exact ⟨rfl, .inr ⟨w.heap.size, 1, #[.bool x], rfl, hB, Blk.new w _ _, by simp, by unfold maxLen; omega, rfl, rfl⟩⟩
theorem ownI_lit1 (w : World) (x : Int) (B g : Nat) (hB : B ≤ w.heap.size) (hg : g = w.heap.size) : OwnI (w.alloc (.cells #[.int .i64 x] 3)) B (.slice (some ⟨g, 0, none⟩) 1 1) [x] := by
  subst hg
  exact ⟨rfl, .inr ⟨w.heap.size, 1, #[.int .i64 x], rfl, hB, Blk.new w _ _, by simp, by unfold maxLen; omega, rfl, rfl⟩⟩
theorem ownI_lit2 (w : World) (x y : Int) (B g : Nat) (hB : B ≤ w.heap.size) (hg : g = w.heap.size) : OwnI (w.alloc (.cells #[.int .i64 x, .int .i64 y] 3)) B (.slice (some ⟨g, 0, none⟩) 2 2) [x, y] := by
  subst hg
  exact ⟨rfl, .inr ⟨w.heap.size, 2, #[.int .i64 x, .int .i64 y], rfl, hB, Blk.new w _ _, by simp, by unfold maxLen; omega, rfl, rfl⟩⟩
set_option maxHeartbeats 2000000 in
theorem reqO_5 (pl : Int) (x : Bool) (w : World) (B : Nat) (hB : B ≤ w.heap.size) :
    Calls Tryz.prog 105 #[.agg #[.int .i64 pl, .bool x]] w fun e w' => e = .returned (rq 5 pl 0 0 none (some ⟨w.heap.size + 1 + 1, 0, none⟩) 0 1 0 1) ∧ OwnB w' B (.slice (some ⟨w.heap.size + 1 + 1, 0, none⟩) 1 1) [x] ∧ Below w.heap.size w w' := by
  go_enter Tryz.func105, Tryz.ntmps105
  go_wp2
  refine bodyPost_ret (v := rq 5 pl 0 0 none (some ⟨w.heap.size + 1 + 1, 0, none⟩) 0 1 0 1) (by simp [results, Tryz.results105, go_sem]) rfl ?_
  exact ⟨rfl, ownB_lit1 _ _ _ _ (by simp; omega) (by simp), bel_next (bel_next (bel_alloc _ _) (bel_alloc _ _)) (bel_alloc _ _)⟩
set_option maxHeartbeats 2000000 in
theorem reqO_6 (pl x : Int) (w : World) (B : Nat) (hB : B ≤ w.heap.size) :
    Calls Tryz.prog 106 #[.agg #[.int .i64 pl, .int .i64 x]] w fun e w' => e = .returned (rq 6 pl 0 0 (some ⟨w.heap.size + 1 + 1, 0, none⟩) none 1 0 1 0) ∧ OwnI w' B (.slice (some ⟨w.heap.size + 1 + 1, 0, none⟩) 1 1) [x] ∧ Below w.heap.size w w' := by
  go_enter Tryz.func106, Tryz.ntmps106
  go_wp2
  refine bodyPost_ret (v := rq 6 pl 0 0 (some ⟨w.heap.size + 1 + 1, 0, none⟩) none 1 0 1 0) (by simp [results, Tryz.results106, go_sem]) rfl ?_
  exact ⟨rfl, ownI_lit1 _ _ _ _ (by simp; omega) (by simp), bel_next (bel_next (bel_alloc _ _) (bel_alloc _ _)) (bel_alloc _ _)⟩
set_option maxHeartbeats 2000000 in
theorem reqO_22 (pl x y : Int) (w : World) (B : Nat) (hB : B ≤ w.heap.size) :
    Calls Tryz.prog 109 #[.agg #[.int .i64 pl, .int .i64 x, .int .i64 y]] w fun e w' => e = .returned (rq 22 pl 0 0 (some ⟨w.heap.size + 1 + 1, 0, none⟩) none 2 0 2 0) ∧ OwnI w' B (.slice (some ⟨w.heap.size + 1 + 1, 0, none⟩) 2 2) [x, y] ∧ Below w.heap.size w w' := by
  go_enter Tryz.func109, Tryz.ntmps109
  go_wp2
  refine bodyPost_ret (v := rq 22 pl 0 0 (some ⟨w.heap.size + 1 + 1, 0, none⟩) none 2 0 2 0) (by simp [results, Tryz.results109, go_sem]) rfl ?_
  exact ⟨rfl, ownI_lit2 _ _ _ _ _ (by simp; omega) (by simp), bel_next (bel_next (bel_alloc _ _) (bel_alloc _ _)) (bel_alloc _ _)⟩
theorem wbs_rg : ∀ (ws : List Int), ∀ z ∈ wbs ws, 0 ≤ z ∧ z ≤ 255
  | [], z, hz => by simp [wbs] at hz
  | x :: r, z, hz => by
    simp only [wbs, List.mem_cons] at hz
    rcases hz with rfl | rfl | hz
    · omega
    · omega
    · exact wbs_rg r z hz
theorem packL_rg (bs : List Bool) : ∀ z ∈ packL bs, 0 ≤ z ∧ z ≤ 255 := by
  intro z hz
  simp [packL] at hz
  obtain ⟨i, hi, rfl⟩ := hz
  obtain ⟨h0, h1, h2, h3⟩ := pv_bound bs bs.length i
  refine ⟨h0, ?_⟩
  rcases Nat.lt_trichotomy i (bs.length / 8) with e | e | e
  · have := h1 e; omega
  · have := h2 e
    have h4 : 2 ^ (bs.length % 8) ≤ 2 ^ 7 := Nat.pow_le_pow_right (by omega) (by omega)
    omega
  · have := h3 e; omega
theorem cons_rg {x : Int} {l : List Int} (hx : 0 ≤ x ∧ x ≤ 255) (hl : ∀ z ∈ l, 0 ≤ z ∧ z ≤ 255) : ∀ z ∈ x :: l, 0 ≤ z ∧ z ≤ 255 := by
  intro z hz
  simp only [List.mem_cons] at hz
  rcases hz with rfl | hz
  · exact hx
  · exact hl z hz
theorem app_rg {l m : List Int} (hl : ∀ z ∈ l, 0 ≤ z ∧ z ≤ 255) (hm : ∀ z ∈ m, 0 ≤ z ∧ z ≤ 255) : ∀ z ∈ l ++ m, 0 ≤ z ∧ z ≤ 255 := by
  intro z hz
  simp only [List.mem_append] at hz
  rcases hz with hz | hz
  · exact hl z hz
  · exact hm z hz
theorem one_rg (m : Nat) : ∀ z ∈ [((m : Nat) : Int) % 256], 0 ≤ z ∧ z ≤ 255 := by
  intro z hz
  simp at hz
  omega
def gW (k : Int) (zs : List Int) : List Int := if k = 6 then [wAt zs 3] else if k = 22 then [wAt zs 3, wAt zs 5] else if k = 16 then wsF zs 6 else if k = 23 then wsF zs 10 else []
def gB (k : Int) (zs : List Int) : List Bool := if k = 5 then [wAt zs 3 == 65280] else if k = 15 then outU (zs.drop 6) (wAt zs 3) else []
def gN (k : Int) (zs : List Int) : Int := if k = 5 ∨ k = 6 ∨ k = 15 ∨ k = 16 ∨ k = 22 then 0 else wAt zs 3
def gA (k : Int) (zs : List Int) : Int := if k = 23 then wAt zs 5 else 0
def gOk (k : Int) (zs : List Int) : Bool := okR k (wAt zs 1) (gN k zs) (gA k zs) (gW k zs) (gW k zs).length (gB k zs).length && decide (putL k (wAt zs 1) (gN k zs) (gA k zs) (gW k zs) (gB k zs) = zs)
def GPz (zs : List Int) (w w' : World) (e : Ending) : Prop :=
  if zs.length = 0 ∨ kindB (zs.getD 0 0) = false then GP w w' e 0 0 0 0 [] [] 1
  else if gOk (zs.getD 0 0) zs = true then GP w w' e (zs.getD 0 0) (wAt zs 1) (gN (zs.getD 0 0) zs) (gA (zs.getD 0 0) zs) (gW (zs.getD 0 0) zs) (gB (zs.getD 0 0) zs) 0
  else GP w w' e 0 0 0 0 [] [] 3
theorem gpz_none {zs : List Int} {w w' : World} {e : Ending} (hc : zs.length = 0 ∨ kindB (zs.getD 0 0) = false) (h : GP w w' e 0 0 0 0 [] [] 1) : GPz zs w w' e := by
  unfold GPz; rw [if_pos hc]; exact h
theorem gpz_yes {zs : List Int} {w w' : World} {e : Ending} {k : Int} (hc : ¬ (zs.length = 0 ∨ kindB (zs.getD 0 0) = false)) (hk : zs.getD 0 0 = k) (hy : gOk k zs = true) (h : GP w w' e k (wAt zs 1) (gN k zs) (gA k zs) (gW k zs) (gB k zs) 0) : GPz zs w w' e := by
  unfold GPz; rw [if_neg hc, hk, if_pos hy]; exact h
theorem gpz_no {zs : List Int} {w w' : World} {e : Ending} {k : Int} (hc : ¬ (zs.length = 0 ∨ kindB (zs.getD 0 0) = false)) (hk : zs.getD 0 0 = k) (hy : ¬ gOk k zs = true) (h : GP w w' e 0 0 0 0 [] [] 3) : GPz zs w w' e := by
  unfold GPz; rw [if_neg hc, hk, if_neg hy]; exact h
theorem okg_1 (zs : List Int) : okR 1 (wAt zs 1) (gN 1 zs) (gA 1 zs) (gW 1 zs) (gW 1 zs).length (gB 1 zs).length = (rnB (wAt zs 1) (wAt zs 3) 2000) := by
  rw [okI_1 _ _ _ _ _ _ rfl]
  simp [gN, gA, gW, gB]
theorem putg_1 (zs : List Int) : putL 1 (wAt zs 1) (gN 1 zs) (gA 1 zs) (gW 1 zs) (gB 1 zs) = 1 % 256 :: wbs [wAt zs 1, wAt zs 3] := by
  rfl
set_option maxHeartbeats 2000000 in
theorem implGet_1 (a : Option Addr) (n cap : Nat) (zs : List Int) (w : World) (hn : n = zs.length) (hs : Sl w a zs) (hr : ∀ z ∈ zs, 0 ≤ z ∧ z ≤ 255) (hl : n ≤ 2000000) (hp : 0 < zs.length) (hcap : n ≤ cap) (hk : zs.getD 0 0 = 1) :
    Calls Tryz.prog 37 #[.slice a n cap] w fun e w' => GPz zs w w' e := by
  have hkb : kindB (zs.getD 0 0) = true := by rw [hk]; rfl
  have hcnd : ¬ (zs.length = 0 ∨ kindB (zs.getD 0 0) = false) := by
    rintro (h | h)
    · omega
    · rw [hkb] at h; cases h
  let Q : Value → World → Prop := fun v u => v = .agg #[.int .i64 (wAt zs 1), .int .i64 (wAt zs 3)]
  have hQ : ∀ v u u', Q v u → Below u.heap.size u u' → Q v u' := fun _ _ _ h _ => h
  have hq : ∀ u, Below w.heap.size w u → Calls Tryz.prog 62 #[.slice a n cap] u fun e u' => ∃ v, e = .returned (.iface 87 v) ∧ Below u.heap.size u u' ∧ Q v u' := by
    intro u hu
    refine (questionIn_1 a n cap zs u hn (hs.below hu) hr hl hp hcap hk).mono ?_
    rintro e u' ⟨rfl, hb⟩
    exact ⟨_, rfl, hb, rfl⟩
  cases hI : (rnB (wAt zs 1) (wAt zs 3) 2000)
  · have hno : ¬ gOk 1 zs = true := by unfold gOk; rw [okg_1, hI]; simp
    refine (get_no a n cap zs w hn hs hr hl hp hkb _ Q hQ hq ?_).mono fun e w' h => gpz_no hcnd hk hno h
    rintro v u rfl
    exact isRight_1 _ _ u _ hI
  · have hi : ∀ v u, Q v u → Calls Tryz.prog 55 #[.iface 87 v] u fun e u' => e = .returned (.bool true) ∧ Below u.heap.size u u' := by
      rintro v u rfl
      exact isRight_1 _ _ u _ hI
    have hput : ∀ v u, Q v u → Calls Tryz.prog 32 #[.iface 87 v] u fun e u' => Nw u u' e (1 % 256 :: wbs [wAt zs 1, wAt zs 3]) := by
      rintro v u rfl
      exact putQ_1 _ _ u
    by_cases hZ : 1 % 256 :: wbs [wAt zs 1, wAt zs 3] = zs
    · have hyes : gOk 1 zs = true := by unfold gOk; rw [okg_1, hI, putg_1, decide_eq_true hZ]; rfl
      refine (get_eq a n cap zs w hn hs hr hl hp hkb _ 101 1 (wAt zs 1) (gN 1 zs) (gA 1 zs) (gW 1 zs) (gB 1 zs) Q hQ hq hi _ hput (cons_rg (by omega) (wbs_rg _)) (by simp) (decide_eq_true hZ) callf_1 meth_1 ?_).mono fun e w' h => gpz_yes hcnd hk hyes h
      rintro v u hu rfl
      refine (req_1 _ _ u).mono ?_
      rintro e u' ⟨rfl, hb⟩
      exact ⟨none, none, 0, 0, 0, 0, rfl, rfl, rfl, ownI_nil _ _, ownB_nil _ _, hb⟩
    · have hno : ¬ gOk 1 zs = true := by unfold gOk; rw [okg_1, hI, putg_1, decide_eq_false hZ]; simp
      exact (get_ne a n cap zs w hn hs hr hl hp hkb _ Q hQ hq hi _ hput (cons_rg (by omega) (wbs_rg _)) (by simp) (decide_eq_false hZ)).mono fun e w' h => gpz_no hcnd hk hno h
theorem okg_2 (zs : List Int) : okR 2 (wAt zs 1) (gN 2 zs) (gA 2 zs) (gW 2 zs) (gW 2 zs).length (gB 2 zs).length = (rnB (wAt zs 1) (wAt zs 3) 2000) := by
  rw [okI_2 _ _ _ _ _ _ rfl]
  simp [gN, gA, gW, gB]
theorem putg_2 (zs : List Int) : putL 2 (wAt zs 1) (gN 2 zs) (gA 2 zs) (gW 2 zs) (gB 2 zs) = 2 % 256 :: wbs [wAt zs 1, wAt zs 3] := by
  rfl
set_option maxHeartbeats 2000000 in
theorem implGet_2 (a : Option Addr) (n cap : Nat) (zs : List Int) (w : World) (hn : n = zs.length) (hs : Sl w a zs) (hr : ∀ z ∈ zs, 0 ≤ z ∧ z ≤ 255) (hl : n ≤ 2000000) (hp : 0 < zs.length) (hcap : n ≤ cap) (hk : zs.getD 0 0 = 2) :
    Calls Tryz.prog 37 #[.slice a n cap] w fun e w' => GPz zs w w' e := by
  have hkb : kindB (zs.getD 0 0) = true := by rw [hk]; rfl
  have hcnd : ¬ (zs.length = 0 ∨ kindB (zs.getD 0 0) = false) := by
    rintro (h | h)
    · omega
    · rw [hkb] at h; cases h
  let Q : Value → World → Prop := fun v u => v = .agg #[.int .i64 (wAt zs 1), .int .i64 (wAt zs 3)]
  have hQ : ∀ v u u', Q v u → Below u.heap.size u u' → Q v u' := fun _ _ _ h _ => h
  have hq : ∀ u, Below w.heap.size w u → Calls Tryz.prog 62 #[.slice a n cap] u fun e u' => ∃ v, e = .returned (.iface 89 v) ∧ Below u.heap.size u u' ∧ Q v u' := by
    intro u hu
    refine (questionIn_2 a n cap zs u hn (hs.below hu) hr hl hp hcap hk).mono ?_
    rintro e u' ⟨rfl, hb⟩
    exact ⟨_, rfl, hb, rfl⟩
  cases hI : (rnB (wAt zs 1) (wAt zs 3) 2000)
  · have hno : ¬ gOk 2 zs = true := by unfold gOk; rw [okg_2, hI]; simp
    refine (get_no a n cap zs w hn hs hr hl hp hkb _ Q hQ hq ?_).mono fun e w' h => gpz_no hcnd hk hno h
    rintro v u rfl
    exact isRight_2 _ _ u _ hI
  · have hi : ∀ v u, Q v u → Calls Tryz.prog 55 #[.iface 89 v] u fun e u' => e = .returned (.bool true) ∧ Below u.heap.size u u' := by
      rintro v u rfl
      exact isRight_2 _ _ u _ hI
    have hput : ∀ v u, Q v u → Calls Tryz.prog 32 #[.iface 89 v] u fun e u' => Nw u u' e (2 % 256 :: wbs [wAt zs 1, wAt zs 3]) := by
      rintro v u rfl
      exact putQ_2 _ _ u
    by_cases hZ : 2 % 256 :: wbs [wAt zs 1, wAt zs 3] = zs
    · have hyes : gOk 2 zs = true := by unfold gOk; rw [okg_2, hI, putg_2, decide_eq_true hZ]; rfl
      refine (get_eq a n cap zs w hn hs hr hl hp hkb _ 102 2 (wAt zs 1) (gN 2 zs) (gA 2 zs) (gW 2 zs) (gB 2 zs) Q hQ hq hi _ hput (cons_rg (by omega) (wbs_rg _)) (by simp) (decide_eq_true hZ) callf_2 meth_2 ?_).mono fun e w' h => gpz_yes hcnd hk hyes h
      rintro v u hu rfl
      refine (req_2 _ _ u).mono ?_
      rintro e u' ⟨rfl, hb⟩
      exact ⟨none, none, 0, 0, 0, 0, rfl, rfl, rfl, ownI_nil _ _, ownB_nil _ _, hb⟩
    · have hno : ¬ gOk 2 zs = true := by unfold gOk; rw [okg_2, hI, putg_2, decide_eq_false hZ]; simp
      exact (get_ne a n cap zs w hn hs hr hl hp hkb _ Q hQ hq hi _ hput (cons_rg (by omega) (wbs_rg _)) (by simp) (decide_eq_false hZ)).mono fun e w' h => gpz_no hcnd hk hno h
theorem okg_3 (zs : List Int) : okR 3 (wAt zs 1) (gN 3 zs) (gA 3 zs) (gW 3 zs) (gW 3 zs).length (gB 3 zs).length = (rnB (wAt zs 1) (wAt zs 3) 125) := by
  rw [okI_3 _ _ _ _ _ _ rfl]
  simp [gN, gA, gW, gB]
theorem putg_3 (zs : List Int) : putL 3 (wAt zs 1) (gN 3 zs) (gA 3 zs) (gW 3 zs) (gB 3 zs) = 3 % 256 :: wbs [wAt zs 1, wAt zs 3] := by
  rfl
set_option maxHeartbeats 2000000 in
theorem implGet_3 (a : Option Addr) (n cap : Nat) (zs : List Int) (w : World) (hn : n = zs.length) (hs : Sl w a zs) (hr : ∀ z ∈ zs, 0 ≤ z ∧ z ≤ 255) (hl : n ≤ 2000000) (hp : 0 < zs.length) (hcap : n ≤ cap) (hk : zs.getD 0 0 = 3) :
    Calls Tryz.prog 37 #[.slice a n cap] w fun e w' => GPz zs w w' e := by
  have hkb : kindB (zs.getD 0 0) = true := by rw [hk]; rfl
  have hcnd : ¬ (zs.length = 0 ∨ kindB (zs.getD 0 0) = false) := by
    rintro (h | h)
    · omega
    · rw [hkb] at h; cases h
  let Q : Value → World → Prop := fun v u => v = .agg #[.int .i64 (wAt zs 1), .int .i64 (wAt zs 3)]
  have hQ : ∀ v u u', Q v u → Below u.heap.size u u' → Q v u' := fun _ _ _ h _ => h
  have hq : ∀ u, Below w.heap.size w u → Calls Tryz.prog 62 #[.slice a n cap] u fun e u' => ∃ v, e = .returned (.iface 90 v) ∧ Below u.heap.size u u' ∧ Q v u' := by
    intro u hu
    refine (questionIn_3 a n cap zs u hn (hs.below hu) hr hl hp hcap hk).mono ?_
    rintro e u' ⟨rfl, hb⟩
    exact ⟨_, rfl, hb, rfl⟩
  cases hI : (rnB (wAt zs 1) (wAt zs 3) 125)
  · have hno : ¬ gOk 3 zs = true := by unfold gOk; rw [okg_3, hI]; simp
    refine (get_no a n cap zs w hn hs hr hl hp hkb _ Q hQ hq ?_).mono fun e w' h => gpz_no hcnd hk hno h
    rintro v u rfl
    exact isRight_3 _ _ u _ hI
  · have hi : ∀ v u, Q v u → Calls Tryz.prog 55 #[.iface 90 v] u fun e u' => e = .returned (.bool true) ∧ Below u.heap.size u u' := by
      rintro v u rfl
      exact isRight_3 _ _ u _ hI
    have hput : ∀ v u, Q v u → Calls Tryz.prog 32 #[.iface 90 v] u fun e u' => Nw u u' e (3 % 256 :: wbs [wAt zs 1, wAt zs 3]) := by
      rintro v u rfl
      exact putQ_3 _ _ u
    by_cases hZ : 3 % 256 :: wbs [wAt zs 1, wAt zs 3] = zs
    · have hyes : gOk 3 zs = true := by unfold gOk; rw [okg_3, hI, putg_3, decide_eq_true hZ]; rfl
      refine (get_eq a n cap zs w hn hs hr hl hp hkb _ 103 3 (wAt zs 1) (gN 3 zs) (gA 3 zs) (gW 3 zs) (gB 3 zs) Q hQ hq hi _ hput (cons_rg (by omega) (wbs_rg _)) (by simp) (decide_eq_true hZ) callf_3 meth_3 ?_).mono fun e w' h => gpz_yes hcnd hk hyes h
      rintro v u hu rfl
      refine (req_3 _ _ u).mono ?_
      rintro e u' ⟨rfl, hb⟩
      exact ⟨none, none, 0, 0, 0, 0, rfl, rfl, rfl, ownI_nil _ _, ownB_nil _ _, hb⟩
    · have hno : ¬ gOk 3 zs = true := by unfold gOk; rw [okg_3, hI, putg_3, decide_eq_false hZ]; simp
      exact (get_ne a n cap zs w hn hs hr hl hp hkb _ Q hQ hq hi _ hput (cons_rg (by omega) (wbs_rg _)) (by simp) (decide_eq_false hZ)).mono fun e w' h => gpz_no hcnd hk hno h
theorem okg_4 (zs : List Int) : okR 4 (wAt zs 1) (gN 4 zs) (gA 4 zs) (gW 4 zs) (gW 4 zs).length (gB 4 zs).length = (rnB (wAt zs 1) (wAt zs 3) 125) := by
  rw [okI_4 _ _ _ _ _ _ rfl]
  simp [gN, gA, gW, gB]
theorem putg_4 (zs : List Int) : putL 4 (wAt zs 1) (gN 4 zs) (gA 4 zs) (gW 4 zs) (gB 4 zs) = 4 % 256 :: wbs [wAt zs 1, wAt zs 3] := by
  rfl
set_option maxHeartbeats 2000000 in
theorem implGet_4 (a : Option Addr) (n cap : Nat) (zs : List Int) (w : World) (hn : n = zs.length) (hs : Sl w a zs) (hr : ∀ z ∈ zs, 0 ≤ z ∧ z ≤ 255) (hl : n ≤ 2000000) (hp : 0 < zs.length) (hcap : n ≤ cap) (hk : zs.getD 0 0 = 4) :
    Calls Tryz.prog 37 #[.slice a n cap] w fun e w' => GPz zs w w' e := by
  have hkb : kindB (zs.getD 0 0) = true := by rw [hk]; rfl
  have hcnd : ¬ (zs.length = 0 ∨ kindB (zs.getD 0 0) = false) := by
    rintro (h | h)
    · omega
    · rw [hkb] at h; cases h
  let Q : Value → World → Prop := fun v u => v = .agg #[.int .i64 (wAt zs 1), .int .i64 (wAt zs 3)]
  have hQ : ∀ v u u', Q v u → Below u.heap.size u u' → Q v u' := fun _ _ _ h _ => h
  have hq : ∀ u, Below w.heap.size w u → Calls Tryz.prog 62 #[.slice a n cap] u fun e u' => ∃ v, e = .returned (.iface 91 v) ∧ Below u.heap.size u u' ∧ Q v u' := by
    intro u hu
    refine (questionIn_4 a n cap zs u hn (hs.below hu) hr hl hp hcap hk).mono ?_
    rintro e u' ⟨rfl, hb⟩
    exact ⟨_, rfl, hb, rfl⟩
  cases hI : (rnB (wAt zs 1) (wAt zs 3) 125)
  · have hno : ¬ gOk 4 zs = true := by unfold gOk; rw [okg_4, hI]; simp
    refine (get_no a n cap zs w hn hs hr hl hp hkb _ Q hQ hq ?_).mono fun e w' h => gpz_no hcnd hk hno h
    rintro v u rfl
    exact isRight_4 _ _ u _ hI
  · have hi : ∀ v u, Q v u → Calls Tryz.prog 55 #[.iface 91 v] u fun e u' => e = .returned (.bool true) ∧ Below u.heap.size u u' := by
      rintro v u rfl
      exact isRight_4 _ _ u _ hI
    have hput : ∀ v u, Q v u → Calls Tryz.prog 32 #[.iface 91 v] u fun e u' => Nw u u' e (4 % 256 :: wbs [wAt zs 1, wAt zs 3]) := by
      rintro v u rfl
      exact putQ_4 _ _ u
    by_cases hZ : 4 % 256 :: wbs [wAt zs 1, wAt zs 3] = zs
    · have hyes : gOk 4 zs = true := by unfold gOk; rw [okg_4, hI, putg_4, decide_eq_true hZ]; rfl
      refine (get_eq a n cap zs w hn hs hr hl hp hkb _ 104 4 (wAt zs 1) (gN 4 zs) (gA 4 zs) (gW 4 zs) (gB 4 zs) Q hQ hq hi _ hput (cons_rg (by omega) (wbs_rg _)) (by simp) (decide_eq_true hZ) callf_4 meth_4 ?_).mono fun e w' h => gpz_yes hcnd hk hyes h
      rintro v u hu rfl
      refine (req_4 _ _ u).mono ?_
      rintro e u' ⟨rfl, hb⟩
      exact ⟨none, none, 0, 0, 0, 0, rfl, rfl, rfl, ownI_nil _ _, ownB_nil _ _, hb⟩
    · have hno : ¬ gOk 4 zs = true := by unfold gOk; rw [okg_4, hI, putg_4, decide_eq_false hZ]; simp
      exact (get_ne a n cap zs w hn hs hr hl hp hkb _ Q hQ hq hi _ hput (cons_rg (by omega) (wbs_rg _)) (by simp) (decide_eq_false hZ)).mono fun e w' h => gpz_no hcnd hk hno h
theorem okg_5 (zs : List Int) : okR 5 (wAt zs 1) (gN 5 zs) (gA 5 zs) (gW 5 zs) (gW 5 zs).length (gB 5 zs).length = (inB (wAt zs 1) 0 65535) := by
  rw [okI_5 _ _ _ _ _ _ rfl]
  simp [gN, gA, gW, gB]
theorem putg_5 (zs : List Int) : putL 5 (wAt zs 1) (gN 5 zs) (gA 5 zs) (gW 5 zs) (gB 5 zs) = 5 % 256 :: wbs [wAt zs 1, bif wAt zs 3 == 65280 then 65280 else 0] := by
  rfl
set_option maxHeartbeats 2000000 in
theorem implGet_5 (a : Option Addr) (n cap : Nat) (zs : List Int) (w : World) (hn : n = zs.length) (hs : Sl w a zs) (hr : ∀ z ∈ zs, 0 ≤ z ∧ z ≤ 255) (hl : n ≤ 2000000) (hp : 0 < zs.length) (hcap : n ≤ cap) (hk : zs.getD 0 0 = 5) :
    Calls Tryz.prog 37 #[.slice a n cap] w fun e w' => GPz zs w w' e := by
  have hkb : kindB (zs.getD 0 0) = true := by rw [hk]; rfl
  have hcnd : ¬ (zs.length = 0 ∨ kindB (zs.getD 0 0) = false) := by
    rintro (h | h)
    · omega
    · rw [hkb] at h; cases h
  let Q : Value → World → Prop := fun v u => v = .agg #[.int .i64 (wAt zs 1), .bool (wAt zs 3 == 65280)]
  have hQ : ∀ v u u', Q v u → Below u.heap.size u u' → Q v u' := fun _ _ _ h _ => h
  have hq : ∀ u, Below w.heap.size w u → Calls Tryz.prog 62 #[.slice a n cap] u fun e u' => ∃ v, e = .returned (.iface 93 v) ∧ Below u.heap.size u u' ∧ Q v u' := by
    intro u hu
    refine (questionIn_5 a n cap zs u hn (hs.below hu) hr hl hp hcap hk).mono ?_
    rintro e u' ⟨rfl, hb⟩
    exact ⟨_, rfl, hb, rfl⟩
  cases hI : (inB (wAt zs 1) 0 65535)
  · have hno : ¬ gOk 5 zs = true := by unfold gOk; rw [okg_5, hI]; simp
    refine (get_no a n cap zs w hn hs hr hl hp hkb _ Q hQ hq ?_).mono fun e w' h => gpz_no hcnd hk hno h
    rintro v u rfl
    exact isRight_5 _ _ u _ hI
  · have hi : ∀ v u, Q v u → Calls Tryz.prog 55 #[.iface 93 v] u fun e u' => e = .returned (.bool true) ∧ Below u.heap.size u u' := by
      rintro v u rfl
      exact isRight_5 _ _ u _ hI
    have hput : ∀ v u, Q v u → Calls Tryz.prog 32 #[.iface 93 v] u fun e u' => Nw u u' e (5 % 256 :: wbs [wAt zs 1, bif wAt zs 3 == 65280 then 65280 else 0]) := by
      rintro v u rfl
      exact putQ_5 _ _ u
    by_cases hZ : 5 % 256 :: wbs [wAt zs 1, bif wAt zs 3 == 65280 then 65280 else 0] = zs
    · have hyes : gOk 5 zs = true := by unfold gOk; rw [okg_5, hI, putg_5, decide_eq_true hZ]; rfl
      refine (get_eq a n cap zs w hn hs hr hl hp hkb _ 105 5 (wAt zs 1) (gN 5 zs) (gA 5 zs) (gW 5 zs) (gB 5 zs) Q hQ hq hi _ hput (cons_rg (by omega) (wbs_rg _)) (by simp) (decide_eq_true hZ) callf_5 meth_5 ?_).mono fun e w' h => gpz_yes hcnd hk hyes h
      rintro v u hu rfl
      refine (reqO_5 _ _ u w.heap.size hu.size).mono ?_
      rintro e u' ⟨rfl, ho, hb⟩
      exact ⟨_, _, _, _, _, _, rfl, rfl, rfl, ownI_nil _ _, ho, hb⟩
    · have hno : ¬ gOk 5 zs = true := by unfold gOk; rw [okg_5, hI, putg_5, decide_eq_false hZ]; simp
      exact (get_ne a n cap zs w hn hs hr hl hp hkb _ Q hQ hq hi _ hput (cons_rg (by omega) (wbs_rg _)) (by simp) (decide_eq_false hZ)).mono fun e w' h => gpz_no hcnd hk hno h
theorem okg_6 (zs : List Int) : okR 6 (wAt zs 1) (gN 6 zs) (gA 6 zs) (gW 6 zs) (gW 6 zs).length (gB 6 zs).length = (inB (wAt zs 1) 0 65535 && inB (wAt zs 3) 0 65535) := by
  rw [okI_6 _ _ _ _ _ _ rfl]
  simp [gN, gA, gW, gB]
theorem putg_6 (zs : List Int) : putL 6 (wAt zs 1) (gN 6 zs) (gA 6 zs) (gW 6 zs) (gB 6 zs) = 6 % 256 :: wbs [wAt zs 1, wAt zs 3] := by
  rfl
set_option maxHeartbeats 2000000 in
theorem implGet_6 (a : Option Addr) (n cap : Nat) (zs : List Int) (w : World) (hn : n = zs.length) (hs : Sl w a zs) (hr : ∀ z ∈ zs, 0 ≤ z ∧ z ≤ 255) (hl : n ≤ 2000000) (hp : 0 < zs.length) (hcap : n ≤ cap) (hk : zs.getD 0 0 = 6) :
    Calls Tryz.prog 37 #[.slice a n cap] w fun e w' => GPz zs w w' e := by
  have hkb : kindB (zs.getD 0 0) = true := by rw [hk]; rfl
  have hcnd : ¬ (zs.length = 0 ∨ kindB (zs.getD 0 0) = false) := by
    rintro (h | h)
    · omega
    · rw [hkb] at h; cases h
  let Q : Value → World → Prop := fun v u => v = .agg #[.int .i64 (wAt zs 1), .int .i64 (wAt zs 3)]
  have hQ : ∀ v u u', Q v u → Below u.heap.size u u' → Q v u' := fun _ _ _ h _ => h
  have hq : ∀ u, Below w.heap.size w u → Calls Tryz.prog 62 #[.slice a n cap] u fun e u' => ∃ v, e = .returned (.iface 96 v) ∧ Below u.heap.size u u' ∧ Q v u' := by
    intro u hu
    refine (questionIn_6 a n cap zs u hn (hs.below hu) hr hl hp hcap hk).mono ?_
    rintro e u' ⟨rfl, hb⟩
    exact ⟨_, rfl, hb, rfl⟩
  cases hI : (inB (wAt zs 1) 0 65535 && inB (wAt zs 3) 0 65535)
  · have hno : ¬ gOk 6 zs = true := by unfold gOk; rw [okg_6, hI]; simp
    refine (get_no a n cap zs w hn hs hr hl hp hkb _ Q hQ hq ?_).mono fun e w' h => gpz_no hcnd hk hno h
    rintro v u rfl
    exact isRight_6 _ _ u _ hI
  · have hi : ∀ v u, Q v u → Calls Tryz.prog 55 #[.iface 96 v] u fun e u' => e = .returned (.bool true) ∧ Below u.heap.size u u' := by
      rintro v u rfl
      exact isRight_6 _ _ u _ hI
    have hput : ∀ v u, Q v u → Calls Tryz.prog 32 #[.iface 96 v] u fun e u' => Nw u u' e (6 % 256 :: wbs [wAt zs 1, wAt zs 3]) := by
      rintro v u rfl
      exact putQ_6 _ _ u
    by_cases hZ : 6 % 256 :: wbs [wAt zs 1, wAt zs 3] = zs
    · have hyes : gOk 6 zs = true := by unfold gOk; rw [okg_6, hI, putg_6, decide_eq_true hZ]; rfl
      refine (get_eq a n cap zs w hn hs hr hl hp hkb _ 106 6 (wAt zs 1) (gN 6 zs) (gA 6 zs) (gW 6 zs) (gB 6 zs) Q hQ hq hi _ hput (cons_rg (by omega) (wbs_rg _)) (by simp) (decide_eq_true hZ) callf_6 meth_6 ?_).mono fun e w' h => gpz_yes hcnd hk hyes h
      rintro v u hu rfl
      refine (reqO_6 _ _ u w.heap.size hu.size).mono ?_
      rintro e u' ⟨rfl, ho, hb⟩
      exact ⟨_, _, _, _, _, _, rfl, rfl, rfl, ho, ownB_nil _ _, hb⟩
    · have hno : ¬ gOk 6 zs = true := by unfold gOk; rw [okg_6, hI, putg_6, decide_eq_false hZ]; simp
      exact (get_ne a n cap zs w hn hs hr hl hp hkb _ Q hQ hq hi _ hput (cons_rg (by omega) (wbs_rg _)) (by simp) (decide_eq_false hZ)).mono fun e w' h => gpz_no hcnd hk hno h
theorem okg_15 (zs : List Int) : okR 15 (wAt zs 1) (gN 15 zs) (gA 15 zs) (gW 15 zs) (gW 15 zs).length (gB 15 zs).length = (rnB (wAt zs 1) ((outU (zs.drop 6) (wAt zs 3)).length : Int) 1968) := by
  rw [okI_15 _ _ _ _ _ _ rfl]
  simp [gN, gA, gW, gB]
theorem putg_15 (zs : List Int) : putL 15 (wAt zs 1) (gN 15 zs) (gA 15 zs) (gW 15 zs) (gB 15 zs) = (15 % 256 :: wbs [wAt zs 1, ((outU (zs.drop 6) (wAt zs 3)).length : Int)]) ++ [((((outU (zs.drop 6) (wAt zs 3)).length + 7) / 8 : Nat) : Int) % 256] ++ packL (outU (zs.drop 6) (wAt zs 3)) := by
  rfl
set_option maxHeartbeats 2000000 in
theorem implGet_15 (a : Option Addr) (n cap : Nat) (zs : List Int) (w : World) (hn : n = zs.length) (hs : Sl w a zs) (hr : ∀ z ∈ zs, 0 ≤ z ∧ z ≤ 255) (hl : n ≤ 2000000) (hp : 0 < zs.length) (hcap : n ≤ cap) (hk : zs.getD 0 0 = 15) :
    Calls Tryz.prog 37 #[.slice a n cap] w fun e w' => GPz zs w w' e := by
  have hkb : kindB (zs.getD 0 0) = true := by rw [hk]; rfl
  have hcnd : ¬ (zs.length = 0 ∨ kindB (zs.getD 0 0) = false) := by
    rintro (h | h)
    · omega
    · rw [hkb] at h; cases h
  let Q : Value → World → Prop := fun v u => ∃ a' c' n', v = .agg #[.int .i64 (wAt zs 1), .slice a' n' c'] ∧ OwnB u w.heap.size (.slice a' n' c') (outU (zs.drop 6) (wAt zs 3)) ∧ n' = (outU (zs.drop 6) (wAt zs 3)).length
  have hQ : ∀ v u u', Q v u → Below u.heap.size u u' → Q v u' := by
    rintro v u u' ⟨a', c', n', hv, ho, hn'⟩ hb
    exact ⟨a', c', n', hv, ho.below hb, hn'⟩
  have hq : ∀ u, Below w.heap.size w u → Calls Tryz.prog 62 #[.slice a n cap] u fun e u' => ∃ v, e = .returned (.iface 98 v) ∧ Below u.heap.size u u' ∧ Q v u' := by
    intro u hu
    refine (questionIn_15 a n cap zs u hn (hs.below hu) hr hl hp hcap hk).mono ?_
    rintro e u' ⟨a', c', n', rfl, hn', ho, hb⟩
    exact ⟨_, rfl, hb, a', c', n', rfl, OwnB.mono ho hu.size, hn'⟩
  cases hI : (rnB (wAt zs 1) ((outU (zs.drop 6) (wAt zs 3)).length : Int) 1968)
  · have hno : ¬ gOk 15 zs = true := by unfold gOk; rw [okg_15, hI]; simp
    refine (get_no a n cap zs w hn hs hr hl hp hkb _ Q hQ hq ?_).mono fun e w' h => gpz_no hcnd hk hno h
    rintro v u ⟨a', c', n', rfl, ho, hn'⟩
    exact isRight_15 _ _ _ _ u _ (by rw [hn']; exact hI)
  · have hi : ∀ v u, Q v u → Calls Tryz.prog 55 #[.iface 98 v] u fun e u' => e = .returned (.bool true) ∧ Below u.heap.size u u' := by
      rintro v u ⟨a', c', n', rfl, ho, hn'⟩
      exact isRight_15 _ _ _ _ u _ (by rw [hn']; exact hI)
    have hI2 : (outU (zs.drop 6) (wAt zs 3)).length ≤ 1968 := by simp [rnB] at hI; omega
    have hput : ∀ v u, Q v u → Calls Tryz.prog 32 #[.iface 98 v] u fun e u' => Nw u u' e ((15 % 256 :: wbs [wAt zs 1, ((outU (zs.drop 6) (wAt zs 3)).length : Int)]) ++ [((((outU (zs.drop 6) (wAt zs 3)).length + 7) / 8 : Nat) : Int) % 256] ++ packL (outU (zs.drop 6) (wAt zs 3))) := by
      rintro v u ⟨a', c', n', rfl, ho, hn'⟩
      have h := putQ_15 (wAt zs 1) a' n' c' _ u hn' ho.sl.2 (by omega)
      rw [hn'] at h ⊢
      exact h
    by_cases hZ : ((15 % 256 :: wbs [wAt zs 1, ((outU (zs.drop 6) (wAt zs 3)).length : Int)]) ++ [((((outU (zs.drop 6) (wAt zs 3)).length + 7) / 8 : Nat) : Int) % 256] ++ packL (outU (zs.drop 6) (wAt zs 3))) = zs
    · have hyes : gOk 15 zs = true := by unfold gOk; rw [okg_15, hI, putg_15, decide_eq_true hZ]; rfl
      refine (get_eq a n cap zs w hn hs hr hl hp hkb _ 107 15 (wAt zs 1) (gN 15 zs) (gA 15 zs) (gW 15 zs) (gB 15 zs) Q hQ hq hi _ hput (app_rg (app_rg (cons_rg (by omega) (wbs_rg _)) (one_rg _)) (packL_rg _)) (by simp) (decide_eq_true hZ) callf_15 meth_15 ?_).mono fun e w' h => gpz_yes hcnd hk hyes h
      rintro v u hu ⟨a', c', n', rfl, ho, hn'⟩
      refine (req_15 _ _ _ _ u).mono ?_
      rintro e u' ⟨rfl, hb⟩
      exact ⟨_, _, _, _, _, _, rfl, rfl, hn', ownI_nil _ _, ho.below hb, hb⟩
    · have hno : ¬ gOk 15 zs = true := by unfold gOk; rw [okg_15, hI, putg_15, decide_eq_false hZ]; simp
      exact (get_ne a n cap zs w hn hs hr hl hp hkb _ Q hQ hq hi _ hput (app_rg (app_rg (cons_rg (by omega) (wbs_rg _)) (one_rg _)) (packL_rg _)) (by simp) (decide_eq_false hZ)).mono fun e w' h => gpz_no hcnd hk hno h
theorem okg_16 (zs : List Int) : okR 16 (wAt zs 1) (gN 16 zs) (gA 16 zs) (gW 16 zs) (gW 16 zs).length (gB 16 zs).length = (rnB (wAt zs 1) ((wsF zs 6).length : Int) 123 && allW (wsF zs 6)) := by
  rw [okI_16 _ _ _ _ _ _ rfl]
  simp [gN, gA, gW, gB]
theorem putg_16 (zs : List Int) : putL 16 (wAt zs 1) (gN 16 zs) (gA 16 zs) (gW 16 zs) (gB 16 zs) = (16 % 256 :: wbs [wAt zs 1, ((wsF zs 6).length : Int)]) ++ [((2 * (wsF zs 6).length : Nat) : Int) % 256] ++ wbs (wsF zs 6) := by
  rfl
set_option maxHeartbeats 2000000 in
theorem implGet_16 (a : Option Addr) (n cap : Nat) (zs : List Int) (w : World) (hn : n = zs.length) (hs : Sl w a zs) (hr : ∀ z ∈ zs, 0 ≤ z ∧ z ≤ 255) (hl : n ≤ 2000000) (hp : 0 < zs.length) (hcap : n ≤ cap) (hk : zs.getD 0 0 = 16) :
    Calls Tryz.prog 37 #[.slice a n cap] w fun e w' => GPz zs w w' e := by
  have hkb : kindB (zs.getD 0 0) = true := by rw [hk]; rfl
  have hcnd : ¬ (zs.length = 0 ∨ kindB (zs.getD 0 0) = false) := by
    rintro (h | h)
    · omega
    · rw [hkb] at h; cases h
  let Q : Value → World → Prop := fun v u => ∃ a' c' n', v = .agg #[.int .i64 (wAt zs 1), .slice a' n' c'] ∧ OwnI u w.heap.size (.slice a' n' c') (wsF zs 6) ∧ n' = (wsF zs 6).length
  have hQ : ∀ v u u', Q v u → Below u.heap.size u u' → Q v u' := by
    rintro v u u' ⟨a', c', n', hv, ho, hn'⟩ hb
    exact ⟨a', c', n', hv, ho.below hb, hn'⟩
  have hq : ∀ u, Below w.heap.size w u → Calls Tryz.prog 62 #[.slice a n cap] u fun e u' => ∃ v, e = .returned (.iface 101 v) ∧ Below u.heap.size u u' ∧ Q v u' := by
    intro u hu
    refine (questionIn_16 a n cap zs u hn (hs.below hu) hr hl hp hcap hk).mono ?_
    rintro e u' ⟨a', c', n', rfl, hn', ho, hb⟩
    exact ⟨_, rfl, hb, a', c', n', rfl, OwnI.mono ho hu.size, hn'⟩
  cases hI : (rnB (wAt zs 1) ((wsF zs 6).length : Int) 123 && allW (wsF zs 6))
  · have hno : ¬ gOk 16 zs = true := by unfold gOk; rw [okg_16, hI]; simp
    refine (get_no a n cap zs w hn hs hr hl hp hkb _ Q hQ hq ?_).mono fun e w' h => gpz_no hcnd hk hno h
    rintro v u ⟨a', c', n', rfl, ho, hn'⟩
    exact isRight_16 _ _ _ _ (wsF zs 6) u hn' ho.sl.2 (by rw [wsF_length]; omega) _ (by rw [hn']; exact hI)
  · have hi : ∀ v u, Q v u → Calls Tryz.prog 55 #[.iface 101 v] u fun e u' => e = .returned (.bool true) ∧ Below u.heap.size u u' := by
      rintro v u ⟨a', c', n', rfl, ho, hn'⟩
      exact isRight_16 _ _ _ _ (wsF zs 6) u hn' ho.sl.2 (by rw [wsF_length]; omega) _ (by rw [hn']; exact hI)
    have hI2 : 1 ≤ (wsF zs 6).length ∧ (wsF zs 6).length ≤ 123 := by simp [rnB] at hI; omega
    have hput : ∀ v u, Q v u → Calls Tryz.prog 32 #[.iface 101 v] u fun e u' => Nw u u' e ((16 % 256 :: wbs [wAt zs 1, ((wsF zs 6).length : Int)]) ++ [((2 * (wsF zs 6).length : Nat) : Int) % 256] ++ wbs (wsF zs 6)) := by
      rintro v u ⟨a', c', n', rfl, ho, hn'⟩
      have h := putQ_16 (wAt zs 1) a' n' c' (wsF zs 6) u hn' ho.sl.2 (by omega) (by omega)
      rw [hn'] at h ⊢
      exact h
    by_cases hZ : ((16 % 256 :: wbs [wAt zs 1, ((wsF zs 6).length : Int)]) ++ [((2 * (wsF zs 6).length : Nat) : Int) % 256] ++ wbs (wsF zs 6)) = zs
    · have hyes : gOk 16 zs = true := by unfold gOk; rw [okg_16, hI, putg_16, decide_eq_true hZ]; rfl
      refine (get_eq a n cap zs w hn hs hr hl hp hkb _ 108 16 (wAt zs 1) (gN 16 zs) (gA 16 zs) (gW 16 zs) (gB 16 zs) Q hQ hq hi _ hput (app_rg (app_rg (cons_rg (by omega) (wbs_rg _)) (one_rg _)) (wbs_rg _)) (by simp) (decide_eq_true hZ) callf_16 meth_16 ?_).mono fun e w' h => gpz_yes hcnd hk hyes h
      rintro v u hu ⟨a', c', n', rfl, ho, hn'⟩
      refine (req_16 _ _ _ _ u).mono ?_
      rintro e u' ⟨rfl, hb⟩
      exact ⟨_, _, _, _, _, _, rfl, hn', rfl, ho.below hb, ownB_nil _ _, hb⟩
    · have hno : ¬ gOk 16 zs = true := by unfold gOk; rw [okg_16, hI, putg_16, decide_eq_false hZ]; simp
      exact (get_ne a n cap zs w hn hs hr hl hp hkb _ Q hQ hq hi _ hput (app_rg (app_rg (cons_rg (by omega) (wbs_rg _)) (one_rg _)) (wbs_rg _)) (by simp) (decide_eq_false hZ)).mono fun e w' h => gpz_no hcnd hk hno h
theorem okg_22 (zs : List Int) : okR 22 (wAt zs 1) (gN 22 zs) (gA 22 zs) (gW 22 zs) (gW 22 zs).length (gB 22 zs).length = (inB (wAt zs 1) 0 65535 && (inB (wAt zs 3) 0 65535 && inB (wAt zs 5) 0 65535)) := by
  rw [okI_22 _ _ _ _ _ _ rfl]
  simp [gN, gA, gW, gB]
theorem putg_22 (zs : List Int) : putL 22 (wAt zs 1) (gN 22 zs) (gA 22 zs) (gW 22 zs) (gB 22 zs) = 22 % 256 :: wbs [wAt zs 1, wAt zs 3, wAt zs 5] := by
  rfl
set_option maxHeartbeats 2000000 in
theorem implGet_22 (a : Option Addr) (n cap : Nat) (zs : List Int) (w : World) (hn : n = zs.length) (hs : Sl w a zs) (hr : ∀ z ∈ zs, 0 ≤ z ∧ z ≤ 255) (hl : n ≤ 2000000) (hp : 0 < zs.length) (hcap : n ≤ cap) (hk : zs.getD 0 0 = 22) :
    Calls Tryz.prog 37 #[.slice a n cap] w fun e w' => GPz zs w w' e := by
  have hkb : kindB (zs.getD 0 0) = true := by rw [hk]; rfl
  have hcnd : ¬ (zs.length = 0 ∨ kindB (zs.getD 0 0) = false) := by
    rintro (h | h)
    · omega
    · rw [hkb] at h; cases h
  let Q : Value → World → Prop := fun v u => v = .agg #[.int .i64 (wAt zs 1), .int .i64 (wAt zs 3), .int .i64 (wAt zs 5)]
  have hQ : ∀ v u u', Q v u → Below u.heap.size u u' → Q v u' := fun _ _ _ h _ => h
  have hq : ∀ u, Below w.heap.size w u → Calls Tryz.prog 62 #[.slice a n cap] u fun e u' => ∃ v, e = .returned (.iface 104 v) ∧ Below u.heap.size u u' ∧ Q v u' := by
    intro u hu
    refine (questionIn_22 a n cap zs u hn (hs.below hu) hr hl hp hcap hk).mono ?_
    rintro e u' ⟨rfl, hb⟩
    exact ⟨_, rfl, hb, rfl⟩
  cases hI : (inB (wAt zs 1) 0 65535 && (inB (wAt zs 3) 0 65535 && inB (wAt zs 5) 0 65535))
  · have hno : ¬ gOk 22 zs = true := by unfold gOk; rw [okg_22, hI]; simp
    refine (get_no a n cap zs w hn hs hr hl hp hkb _ Q hQ hq ?_).mono fun e w' h => gpz_no hcnd hk hno h
    rintro v u rfl
    exact isRight_22 _ _ _ u _ hI
  · have hi : ∀ v u, Q v u → Calls Tryz.prog 55 #[.iface 104 v] u fun e u' => e = .returned (.bool true) ∧ Below u.heap.size u u' := by
      rintro v u rfl
      exact isRight_22 _ _ _ u _ hI
    have hput : ∀ v u, Q v u → Calls Tryz.prog 32 #[.iface 104 v] u fun e u' => Nw u u' e (22 % 256 :: wbs [wAt zs 1, wAt zs 3, wAt zs 5]) := by
      rintro v u rfl
      exact putQ_22 _ _ _ u
    by_cases hZ : 22 % 256 :: wbs [wAt zs 1, wAt zs 3, wAt zs 5] = zs
    · have hyes : gOk 22 zs = true := by unfold gOk; rw [okg_22, hI, putg_22, decide_eq_true hZ]; rfl
      refine (get_eq a n cap zs w hn hs hr hl hp hkb _ 109 22 (wAt zs 1) (gN 22 zs) (gA 22 zs) (gW 22 zs) (gB 22 zs) Q hQ hq hi _ hput (cons_rg (by omega) (wbs_rg _)) (by simp) (decide_eq_true hZ) callf_22 meth_22 ?_).mono fun e w' h => gpz_yes hcnd hk hyes h
      rintro v u hu rfl
      refine (reqO_22 _ _ _ u w.heap.size hu.size).mono ?_
      rintro e u' ⟨rfl, ho, hb⟩
      exact ⟨_, _, _, _, _, _, rfl, rfl, rfl, ho, ownB_nil _ _, hb⟩
    · have hno : ¬ gOk 22 zs = true := by unfold gOk; rw [okg_22, hI, putg_22, decide_eq_false hZ]; simp
      exact (get_ne a n cap zs w hn hs hr hl hp hkb _ Q hQ hq hi _ hput (cons_rg (by omega) (wbs_rg _)) (by simp) (decide_eq_false hZ)).mono fun e w' h => gpz_no hcnd hk hno h
theorem okg_23 (zs : List Int) : okR 23 (wAt zs 1) (gN 23 zs) (gA 23 zs) (gW 23 zs) (gW 23 zs).length (gB 23 zs).length = (rnB (wAt zs 1) (wAt zs 3) 125 && (rnB (wAt zs 5) ((wsF zs 10).length : Int) 121 && allW (wsF zs 10))) := by
  rw [okI_23 _ _ _ _ _ _ rfl]
  simp [gN, gA, gW, gB]
theorem putg_23 (zs : List Int) : putL 23 (wAt zs 1) (gN 23 zs) (gA 23 zs) (gW 23 zs) (gB 23 zs) = (23 % 256 :: wbs [wAt zs 1, wAt zs 3, wAt zs 5, ((wsF zs 10).length : Int)]) ++ [((2 * (wsF zs 10).length : Nat) : Int) % 256] ++ wbs (wsF zs 10) := by
  rfl
set_option maxHeartbeats 2000000 in
theorem implGet_23 (a : Option Addr) (n cap : Nat) (zs : List Int) (w : World) (hn : n = zs.length) (hs : Sl w a zs) (hr : ∀ z ∈ zs, 0 ≤ z ∧ z ≤ 255) (hl : n ≤ 2000000) (hp : 0 < zs.length) (hcap : n ≤ cap) (hk : zs.getD 0 0 = 23) :
    Calls Tryz.prog 37 #[.slice a n cap] w fun e w' => GPz zs w w' e := by
  have hkb : kindB (zs.getD 0 0) = true := by rw [hk]; rfl
  have hcnd : ¬ (zs.length = 0 ∨ kindB (zs.getD 0 0) = false) := by
    rintro (h | h)
    · omega
    · rw [hkb] at h; cases h
  let Q : Value → World → Prop := fun v u => ∃ a' c' n', v = .agg #[.int .i64 (wAt zs 1), .int .i64 (wAt zs 3), .int .i64 (wAt zs 5), .slice a' n' c'] ∧ OwnI u w.heap.size (.slice a' n' c') (wsF zs 10) ∧ n' = (wsF zs 10).length
  have hQ : ∀ v u u', Q v u → Below u.heap.size u u' → Q v u' := by
    rintro v u u' ⟨a', c', n', hv, ho, hn'⟩ hb
    exact ⟨a', c', n', hv, ho.below hb, hn'⟩
  have hq : ∀ u, Below w.heap.size w u → Calls Tryz.prog 62 #[.slice a n cap] u fun e u' => ∃ v, e = .returned (.iface 106 v) ∧ Below u.heap.size u u' ∧ Q v u' := by
    intro u hu
    refine (questionIn_23 a n cap zs u hn (hs.below hu) hr hl hp hcap hk).mono ?_
    rintro e u' ⟨a', c', n', rfl, hn', ho, hb⟩
    exact ⟨_, rfl, hb, a', c', n', rfl, OwnI.mono ho hu.size, hn'⟩
  cases hI : (rnB (wAt zs 1) (wAt zs 3) 125 && (rnB (wAt zs 5) ((wsF zs 10).length : Int) 121 && allW (wsF zs 10)))
  · have hno : ¬ gOk 23 zs = true := by unfold gOk; rw [okg_23, hI]; simp
    refine (get_no a n cap zs w hn hs hr hl hp hkb _ Q hQ hq ?_).mono fun e w' h => gpz_no hcnd hk hno h
    rintro v u ⟨a', c', n', rfl, ho, hn'⟩
    exact isRight_23 _ _ _ _ _ _ (wsF zs 10) u hn' ho.sl.2 (by rw [wsF_length]; omega) _ (by rw [hn']; exact hI)
  · have hi : ∀ v u, Q v u → Calls Tryz.prog 55 #[.iface 106 v] u fun e u' => e = .returned (.bool true) ∧ Below u.heap.size u u' := by
      rintro v u ⟨a', c', n', rfl, ho, hn'⟩
      exact isRight_23 _ _ _ _ _ _ (wsF zs 10) u hn' ho.sl.2 (by rw [wsF_length]; omega) _ (by rw [hn']; exact hI)
    have hI2 : 1 ≤ (wsF zs 10).length ∧ (wsF zs 10).length ≤ 121 := by simp [rnB] at hI; omega
    have hput : ∀ v u, Q v u → Calls Tryz.prog 32 #[.iface 106 v] u fun e u' => Nw u u' e ((23 % 256 :: wbs [wAt zs 1, wAt zs 3, wAt zs 5, ((wsF zs 10).length : Int)]) ++ [((2 * (wsF zs 10).length : Nat) : Int) % 256] ++ wbs (wsF zs 10)) := by
      rintro v u ⟨a', c', n', rfl, ho, hn'⟩
      have h := putQ_23 (wAt zs 1) (wAt zs 3) (wAt zs 5) a' n' c' (wsF zs 10) u hn' ho.sl.2 (by omega) (by omega)
      rw [hn'] at h ⊢
      exact h
    by_cases hZ : ((23 % 256 :: wbs [wAt zs 1, wAt zs 3, wAt zs 5, ((wsF zs 10).length : Int)]) ++ [((2 * (wsF zs 10).length : Nat) : Int) % 256] ++ wbs (wsF zs 10)) = zs
    · have hyes : gOk 23 zs = true := by unfold gOk; rw [okg_23, hI, putg_23, decide_eq_true hZ]; rfl
      refine (get_eq a n cap zs w hn hs hr hl hp hkb _ 110 23 (wAt zs 1) (gN 23 zs) (gA 23 zs) (gW 23 zs) (gB 23 zs) Q hQ hq hi _ hput (app_rg (app_rg (cons_rg (by omega) (wbs_rg _)) (one_rg _)) (wbs_rg _)) (by simp) (decide_eq_true hZ) callf_23 meth_23 ?_).mono fun e w' h => gpz_yes hcnd hk hyes h
      rintro v u hu ⟨a', c', n', rfl, ho, hn'⟩
      refine (req_23 _ _ _ _ _ _ u).mono ?_
      rintro e u' ⟨rfl, hb⟩
      exact ⟨_, _, _, _, _, _, rfl, hn', rfl, ho.below hb, ownB_nil _ _, hb⟩
    · have hno : ¬ gOk 23 zs = true := by unfold gOk; rw [okg_23, hI, putg_23, decide_eq_false hZ]; simp
      exact (get_ne a n cap zs w hn hs hr hl hp hkb _ Q hQ hq hi _ hput (app_rg (app_rg (cons_rg (by omega) (wbs_rg _)) (one_rg _)) (wbs_rg _)) (by simp) (decide_eq_false hZ)).mono fun e w' h => gpz_no hcnd hk hno h
theorem implGet_q (a : Option Addr) (n cap : Nat) (zs : List Int) (w : World) (hn : n = zs.length) (hs : Sl w a zs) (hr : ∀ z ∈ zs, 0 ≤ z ∧ z ≤ 255) (hl : n ≤ 2000000) (hcap : n ≤ cap) :
    Calls Tryz.prog 37 #[.slice a n cap] w fun e w' => GPz zs w w' e := by
  by_cases h0 : zs.length = 0
  · exact (get_none a n cap zs w hn hs hr hl h0).mono fun e w' h => gpz_none (.inl h0) h
  · cases hk : kindB (zs.getD 0 0)
    · exact (get_kind a n cap zs w hn hs hr hl (by omega) hk).mono fun e w' h => gpz_none (.inr hk) h
    · have hk2 := of_decide_eq_true hk
      rcases hk2 with h | h | h | h | h | h | h | h | h | h
      · exact implGet_1 a n cap zs w hn hs hr hl (by omega) hcap h
      · exact implGet_2 a n cap zs w hn hs hr hl (by omega) hcap h
      · exact implGet_3 a n cap zs w hn hs hr hl (by omega) hcap h
      · exact implGet_4 a n cap zs w hn hs hr hl (by omega) hcap h
      · exact implGet_5 a n cap zs w hn hs hr hl (by omega) hcap h
      · exact implGet_6 a n cap zs w hn hs hr hl (by omega) hcap h
      · exact implGet_15 a n cap zs w hn hs hr hl (by omega) hcap h
      · exact implGet_16 a n cap zs w hn hs hr hl (by omega) hcap h
      · exact implGet_22 a n cap zs w hn hs hr hl (by omega) hcap h
      · exact implGet_23 a n cap zs w hn hs hr hl (by omega) hcap h
end Go.Proofs.YtohikbpolofklaaGreatDoor

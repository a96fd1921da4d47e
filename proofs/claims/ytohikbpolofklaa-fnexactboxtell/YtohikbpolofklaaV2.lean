/- Texts that the proof needs, joined: PutWord1 Pack1 Marks2 R1 R2 R3 Steps R4 G1 G2 Unp1 Unp2 R5 R6 G3 G4 G5 G6 G7 MarkP Bx1 P2. -/
import Derived.Test.YtohikbpolofklaaV1
import Derived.LoopN
import Derived.Lib.AppendZerosOnto
import Derived.Lib.SliceRun
import Derived.Lib.Walk
import Derived.Deep.RegionWith
import Derived.Deep.RegionHeld3
import Derived.WalkKit
import Derived.Deep.RegionLaw
import Derived.Lib.MinMax
namespace Go.Proofs.Ytohikbpolofklaa
open Go.RowKit
theorem Sl.cellsAt {w : World} {ad : Addr} {zs : List Int} (h : Sl w (some ad) zs) : ∀ j u, (zs.map (Value.int .u8))[j]? = some u → w.cell? (ad.add j) = some u := by
  intro j u hu
  rcases h with h | ⟨b, off, ha, _, hc⟩
  · subst h; simp at hu
  · obtain rfl : ad = ⟨b, off, none⟩ := by simpa using ha
    have hj : j < zs.length := by
      have := (List.getElem?_eq_some_iff.1 hu).1
      simpa using this
    have e : Addr.add ⟨b, off, none⟩ j = ⟨b, off + j, none⟩ := by
      by_cases h0 : j = 0
      · subst h0; simp [Addr.add]
      · simp [Addr.add, h0]
    rw [e, hc j hj]
    rw [← hu]
    simp [hj]
theorem ones (zs : List Int) : ∀ u ∈ zs.map (Value.int .u8), u.oneCell' = true := ints_oneCell _ _
theorem two_cells {w1 : World} {x y : Int} : ∀ j u, ([Value.int .u8 x, Value.int .u8 y])[j]? = some u → (w1.alloc (.cells #[.int .u8 x, .int .u8 y] 5)).cell? ((⟨w1.heap.size, 0, none⟩ : Addr).add j) = some u := by
  intro j u hu
  match j, hu with
  | 0, hu => simp at hu; subst hu; simp [Addr.add]
  | 1, hu => simp at hu; subst hu; simp [Addr.add]
  | k + 2, hu => simp at hu
theorem two_ones (x y : Int) : ∀ u ∈ [Value.int .u8 x, Value.int .u8 y], u.oneCell' = true := by
  intro u hu; simp at hu; rcases hu with rfl | rfl <;> rfl
theorem own_end {W w1 w2 : World} {o1 : Obj} {v1 v2 : Value} {zs : List Int} {x y x' y' : Int} (hb : Below W.heap.size W w1) (hv1 : ∀ k, v1.ownBlock = some k → W.heap.size ≤ k)
    (h2 : w2.ownsRow W.heap.size 5 1 v2 (zs.length + 2) (zs.map (Value.int .u8) ++ [Value.int .u8 x, Value.int .u8 y])) (g2 : (w1.alloc o1).grownBy w2 v1.ownBlock) (ex : x = x') (ey : y = y') :
    Own w2 W.heap.size v2 (zs ++ [x', y']) ∧ Below W.heap.size W w2 := by
  subst ex ey
  refine ⟨by simpa [Own] using h2, ?_⟩
  exact (hb.alloc hb.size o1).grown g2 (by have := hb.size; simp; omega) hv1
set_option maxHeartbeats 1000000 in
theorem specPutWord_any (ad : Addr) (n cap : Nat) (zs : List Int) (x : Int) (w : World) (hn : n = zs.length) (hs : Sl w (some ad) zs) (hl : zs.length ≤ 2000000) :
    Calls Try.prog 34 #[.slice (some ad) n cap, .int .i64 x] w fun e w' => ∃ v, e = .returned v ∧ Own w' w.heap.size v (zs ++ [x / 256 % 256, x % 256]) ∧ Below w.heap.size w w' := by
  subst hn
  obtain ⟨i0, hi, hz0, hz1, hz2⟩ := info_parts Try.info5
  have hml : zs.length + 2 ≤ maxLen := by unfold maxLen; omega
  have o0 := World.ownsRow_lit (base := w.heap.size) (e := 5) (size := 1) w #[] 0 (Nat.le_refl _) (by omega) rfl
  have c0 := (hs.below ((Below.refl _ w).alloc (Nat.le_refl _) (.cells #[] 5))).cellsAt
  have ex : Hid (bits BinOp.and IntKind.i64 x 65535 / 256 % 256 = x / 256 % 256) := by rw [and16]; exact (by omega : x % 65536 / 256 % 256 = x / 256 % 256)
  have ey : Hid (bits BinOp.and IntKind.i64 x 65535 % 256 = x % 256) := by rw [and16]; exact (by omega : x % 65536 % 256 = x % 256)
  clear hs
  go_enter Try.func34, Try.ntmps34
  go_wp2_with (first | (at_builtin; refine wpList_append_own _ rfl (.tmp 7) (.tmp 8) 22 rfl w.heap.size 5 i0 (.int .u8 0) 1 1 Try.underlying22 hi hz0 hz1 hz2 rfl (by decide) (.slice (some ⟨w.heap.size, 0, none⟩) 0 0) 0 [] rfl o0 ad zs.length cap (zs.map (Value.int .u8)) rfl (by simp) c0 (ones zs) (by omega) (by omega) (by simp) ?_; intro v1 w1 o1 g1 _; simp only [Nat.zero_add, List.nil_append] at o1; have hb1 : Below w.heap.size w w1 := ((Below.refl _ w).alloc (Nat.le_refl _) (.cells #[] 5)).grown g1 (by simp) (fun k hk => by simp [Value.ownBlock] at hk; omega)) | (at_builtin; refine wpList_append_own _ rfl (.tmp 9) (.tmp 15) 22 rfl w.heap.size 5 i0 (.int .u8 0) 1 1 Try.underlying22 hi hz0 hz1 hz2 rfl (by decide) v1 zs.length (zs.map (Value.int .u8)) rfl (o1.alloc _) ⟨w1.heap.size, 0, none⟩ 2 2 [.int .u8 (bits BinOp.and IntKind.i64 x 65535 / 256 % 256), .int .u8 (bits BinOp.and IntKind.i64 x 65535 % 256)] rfl (by simp) two_cells (two_ones _ _) (by omega) (by omega) (by have := hb1.size; simp; omega) ?_; intro v2 w2 o2 g2 _))
  go_ret
  exact ⟨_, rfl, own_end hb1 (fun k hk => (o1.lt k hk).1) o2 g2 ex.out ey.out⟩
end Go.Proofs.Ytohikbpolofklaa
namespace Go.Proofs.Ytohikbpolofklaa
open Go.RowKit
def pv (bits : List Bool) : Nat → Nat → Int
  | 0, _ => 0
  | k + 1, j => if k / 8 = j ∧ bits.getD k false = true then pv bits k j + (2 ^ (k % 8) : Nat) else pv bits k j
theorem pv_bound (bs : List Bool) : ∀ k j, 0 ≤ pv bs k j ∧ (j < k / 8 → pv bs k j < 256) ∧ (j = k / 8 → pv bs k j < (2 ^ (k % 8) : Nat)) ∧ (k / 8 < j → pv bs k j = 0)
  | 0, j => by simp [pv]
  | k + 1, j => by
    obtain ⟨h0, h1, h2, h3⟩ := pv_bound bs k j
    have hp : (2 ^ (k % 8) : Nat) ≤ 128 ∧ 1 ≤ (2 ^ (k % 8) : Nat) := by
      have : k % 8 < 8 := Nat.mod_lt _ (by decide)
      generalize k % 8 = r at *
      match r, this with
      | 0, _ => decide
      | 1, _ => decide
      | 2, _ => decide
      | 3, _ => decide
      | 4, _ => decide
      | 5, _ => decide
      | 6, _ => decide
      | 7, _ => decide
    have key : pv bs (k + 1) j = pv bs k j ∨ (k / 8 = j ∧ pv bs (k + 1) j = pv bs k j + (2 ^ (k % 8) : Nat)) := by
      rw [pv]
      by_cases h : k / 8 = j ∧ bs.getD k false = true
      · right; rw [if_pos h]; exact ⟨h.1, rfl⟩
      · left; rw [if_neg h]
    by_cases hm : k % 8 = 7
    · have e1 : (k + 1) / 8 = k / 8 + 1 := by omega
      have e2 : (k + 1) % 8 = 0 := by omega
      have e3 : (2 ^ (k % 8) : Nat) = 128 := by rw [hm]
      rw [e1, e2]
      rcases key with hk | ⟨hj, hk⟩
      · rw [hk]; refine ⟨h0, fun h => ?_, fun h => ?_, fun h => h3 (by omega)⟩
        · by_cases hh : j = k / 8
          · have := h2 hh; omega
          · exact h1 (by omega)
        · rw [h3 (by omega)]; decide
      · rw [hk]; refine ⟨by omega, fun _ => by have := h2 hj.symm; omega, fun h => by omega, fun h => by omega⟩
    · have e1 : (k + 1) / 8 = k / 8 := by omega
      have e2 : (k + 1) % 8 = k % 8 + 1 := by omega
      have e3 : (2 ^ (k % 8 + 1) : Nat) = 2 * 2 ^ (k % 8) := by rw [Nat.pow_succ]; omega
      rw [e1, e2, e3]
      rcases key with hk | ⟨hj, hk⟩
      · rw [hk]; exact ⟨h0, h1, fun h => by have := h2 h; omega, h3⟩
      · rw [hk]; exact ⟨by omega, fun h => by omega, fun h => by have := h2 h; omega, fun h => by omega⟩
theorem or_bit : ∀ r : Nat, r < 8 → ∀ x : Nat, x < 2 ^ r → bits .or .u8 (x : Int) ((2 ^ r : Nat) : Int) = (x : Int) + ((2 ^ r : Nat) : Int) := by decide
theorem or_pv (bs : List Bool) (k : Nat) : bits .or .u8 (pv bs k (k / 8)) ((2 ^ (k % 8) : Nat) : Int) = pv bs k (k / 8) + ((2 ^ (k % 8) : Nat) : Int) := by
  obtain ⟨h0, _, h2, _⟩ := pv_bound bs k (k / 8)
  obtain ⟨x, hx⟩ := Int.eq_ofNat_of_zero_le h0
  have := h2 rfl
  rw [hx] at this ⊢
  exact or_bit (k % 8) (Nat.mod_lt _ (by decide)) x (by omega)
theorem two_pow8 (k : Nat) : (2 : Int) ^ (k % 8) % 256 = ((2 ^ (k % 8) : Nat) : Int) := by
  have : k % 8 < 8 := Nat.mod_lt _ (by decide)
  generalize k % 8 = r at *
  match r, this with
  | 0, _ => decide
  | 1, _ => decide
  | 2, _ => decide
  | 3, _ => decide
  | 4, _ => decide
  | 5, _ => decide
  | 6, _ => decide
  | 7, _ => decide
theorem pack_set {wr : World} {g m k : Nat} {t : TypeId} {bs : List Bool} (hrow : wr.rowIs g t m (fun i => .int .u8 (pv bs k i))) (hbit : bs.getD k false = true) :
    (wr.setCell ⟨g, k / 8, none⟩ (.int .u8 (bits BinOp.or IntKind.u8 (pv bs k (k / 8)) (2 ^ (k % 8) % 256)))).rowIs g t m (fun i => .int .u8 (pv bs (k + 1) i)) := by
  rw [two_pow8, or_pv]
  refine (hrow.set (k / 8) _).congr (fun i _ => ?_)
  by_cases e : i = k / 8
  · subst e; rw [if_pos rfl, pv, if_pos ⟨rfl, hbit⟩]
  · rw [if_neg e, pv, if_neg (fun h => e h.1.symm)]
set_option maxHeartbeats 2000000 in
theorem specPackBits_any (a : Option Addr) (n cap m : Nat) (bs : List Bool) (w : World) (hn : n = bs.length) (hm : m = (n + 7) / 8) (hs : SlB w a bs) (hl : n ≤ 2000000) :
    Calls Try.prog 31 #[.slice a n cap] w fun e w' => e = .returned (.slice (some ⟨w.heap.size, 0, none⟩) m m) ∧ w'.rowIs w.heap.size 5 m (fun i => .int .u8 (pv bs n i)) ∧ Below w.heap.size w w' := by
  have hmk := run_make_row' (P := Try.prog) 22 5 (.int .u8 0) 1 Try.underlying22 Try.info5 rfl .i64 .i64 m (by omega) (by omega)
  have hmi : ((n : Int) + 7) / 8 = (m : Int) := by omega
  have HN : Hid (n = bs.length) := hn
  have HMM : Hid (m = (n + 7) / 8) := hm
  clear hn hm
  go_enter Try.func31, Try.ntmps31
  go_wp2
  clear hmk
  go_loopw [4] (fun i wr => ∃ k : Nat, k ≤ n ∧ i = .int .i64 k ∧ wr.rowIs w.heap.size 5 m (fun i => .int .u8 (pv bs k i)) ∧ Below w.heap.size w wr) (fun i _ => n - (intOf i).toNat)
  case atStart => exact ⟨0, Nat.zero_le _, rfl, (World.rowIs_made w _ _ _).congr (fun i _ => by simp [pv]), (Below.refl _ _).alloc (Nat.le_refl _) _⟩
  case round =>
    obtain ⟨k, hk, rfl, hrow, hb⟩ := hrel
    by_cases hlt : k < n
    · obtain ⟨b, off, rfl, hb0, hc0⟩ := cell_atB hs (k := k) (by have := HN.out; omega)
      have hc : wr.cell? ⟨b, off + k, none⟩ = some (.bool (bs.getD k false)) := by rw [hb.cell (p := ⟨b, off + k, none⟩) hb0]; exact hc0
      have hi : (k : Int) < (n : Int) := by omega
      have hd : k / 8 < m := by have := HMM.out; omega
      have hst := hrow.cell hd
      have hfz := hrow.frozen (k / 8)
      by_cases hbit : bs.getD k false = true
      · rw [hbit] at hc
        have R : Hid ((wr.setCell ⟨w.heap.size, k / 8, none⟩ (.int .u8 (bits BinOp.or IntKind.u8 (pv bs k (k / 8)) (2 ^ (k % 8) % 256)))).rowIs w.heap.size 5 m (fun i => .int .u8 (pv bs (k + 1) i))) := pack_set hrow hbit
        have B1 : Hid (Below w.heap.size w (wr.setCell ⟨w.heap.size, k / 8, none⟩ (.int .u8 (bits BinOp.or IntKind.u8 (pv bs k (k / 8)) (2 ^ (k % 8) % 256))))) := hb.setCell (Nat.le_refl _) _
        clear hc0 hs hrow hb
        go_wp2
        go_roundw
        case rel => exact ⟨k + 1, by omega, by go_num, R.out, B1.out⟩
        case measure => simp [intOf]; omega
      · have hbit' : bs.getD k false = false := by simpa using hbit
        rw [hbit'] at hc
        have R : Hid (wr.rowIs w.heap.size 5 m (fun i => .int .u8 (pv bs (k + 1) i))) := hrow.congr (fun i _ => by rw [pv, if_neg (fun h => hbit h.2)])
        clear hrow hc0 hs hst hfz
        go_wp2
        go_roundw
        case rel => exact ⟨k + 1, by omega, by go_num, R.out, hb⟩
        case measure => simp [intOf]; omega
    · obtain rfl : k = n := by omega
      have R : Hid (wr.rowIs w.heap.size 5 m (fun i => .int .u8 (pv bs k i))) := hrow
      clear hrow hs
      go_wp2
      go_ret
      exact ⟨rfl, R.out, hb⟩
set_option maxHeartbeats 1000000 in
theorem bytesFor_any (x : Int) (w : World) (h0 : 0 ≤ x) (h1 : x ≤ 9223372036854775807) :
    Calls Try.prog 52 #[.int .i64 x] w fun e w' => e = .returned (.int .i64 ((x + 7) / 8)) ∧ w' = w := by
  by_cases h : x % 8 = 0
  · have e : (x + 7) / 8 = x / 8 := by omega
    rw [e]
    have h' : (x % 8 == 0) = true := by simp [h]
    clear e
    go_enter Try.func52, Try.ntmps52
    go_wp2
    go_ret
    exact ⟨rfl, rfl⟩
  · have e : (x + 7) / 8 = x / 8 + 1 := by omega
    rw [e]
    have h' : (x % 8 == 0) = false := by simp [h]
    clear e
    go_enter Try.func52, Try.ntmps52
    go_wp2
    go_ret
    exact ⟨rfl, rfl⟩
set_option maxHeartbeats 2000000 in
theorem implPackBits_any (a : Option Addr) (n cap m : Nat) (bs : List Bool) (w : World) (hn : n = bs.length) (hm : m = (n + 7) / 8) (hs : SlB w a bs) (hl : n ≤ 2000000) :
    Calls Try.prog 44 #[.slice a n cap] w fun e w' => e = .returned (.slice (some ⟨w.heap.size, 0, none⟩) m m) ∧ w'.rowIs w.heap.size 5 m (fun i => .int .u8 (pv bs n i)) ∧ Below w.heap.size w w' := by
  have hmk := run_make_row' (P := Try.prog) 22 5 (.int .u8 0) 1 Try.underlying22 Try.info5 rfl .i64 .i64 m (by omega) (by omega)
  have hmi : ((n : Int) + 7) / 8 = (m : Int) := by omega
  have HN : Hid (n = bs.length) := hn
  have HMM : Hid (m = (n + 7) / 8) := hm
  clear hn hm
  go_enter Try.func44, Try.ntmps44
  go_wp2_with fail
  refine (bytesFor_any _ _ (by omega) (by omega)).mono ?_
  rintro e w1 ⟨rfl, e1⟩
  subst e1
  rw [hmi]
  go_wp2
  clear hmk
  go_loopw [12] (fun i wr => ∃ k : Nat, k ≤ n ∧ i = .int .i64 k ∧ wr.rowIs w1.heap.size 5 m (fun i => .int .u8 (pv bs k i)) ∧ Below w1.heap.size w1 wr) (fun i _ => n - (intOf i).toNat)
  case atStart => exact ⟨0, Nat.zero_le _, rfl, (World.rowIs_made w1 _ _ _).congr (fun i _ => by simp [pv]), (Below.refl _ _).alloc (Nat.le_refl _) _⟩
  case round =>
    obtain ⟨k, hk, rfl, hrow, hb⟩ := hrel
    by_cases hlt : k < n
    · obtain ⟨b, off, rfl, hb0, hc0⟩ := cell_atB hs (k := k) (by have := HN.out; omega)
      have hc : wr.cell? ⟨b, off + k, none⟩ = some (.bool (bs.getD k false)) := by rw [hb.cell (p := ⟨b, off + k, none⟩) hb0]; exact hc0
      have hi : (k : Int) < (n : Int) := by omega
      have hd : k / 8 < m := by have := HMM.out; omega
      have hst := hrow.cell hd
      have hfz := hrow.frozen (k / 8)
      by_cases hbit : bs.getD k false = true
      · rw [hbit] at hc
        have R : Hid ((wr.setCell ⟨w1.heap.size, k / 8, none⟩ (.int .u8 (bits BinOp.or IntKind.u8 (pv bs k (k / 8)) (2 ^ (k % 8) % 256)))).rowIs w1.heap.size 5 m (fun i => .int .u8 (pv bs (k + 1) i))) := pack_set hrow hbit
        have B1 : Hid (Below w1.heap.size w1 (wr.setCell ⟨w1.heap.size, k / 8, none⟩ (.int .u8 (bits BinOp.or IntKind.u8 (pv bs k (k / 8)) (2 ^ (k % 8) % 256))))) := hb.setCell (Nat.le_refl _) _
        clear hc0 hs hrow hb
        go_wp2_with fail
        go_region
        go_wp2
        go_roundw
        case rel => exact ⟨k + 1, by omega, by go_num, R.out, B1.out.drew⟩
        case measure => simp [intOf]; omega
      · have hbit' : bs.getD k false = false := by simpa using hbit
        rw [hbit'] at hc
        have R : Hid (wr.rowIs w1.heap.size 5 m (fun i => .int .u8 (pv bs (k + 1) i))) := hrow.congr (fun i _ => by rw [pv, if_neg (fun h => hbit h.2)])
        clear hrow hc0 hs hst hfz
        go_wp2
        go_roundw
        case rel => exact ⟨k + 1, by omega, by go_num, R.out, hb⟩
        case measure => simp [intOf]; omega
    · obtain rfl : k = n := by omega
      have R : Hid (wr.rowIs w1.heap.size 5 m (fun i => .int .u8 (pv bs k i))) := hrow
      clear hrow hs
      go_wp2
      go_ret
      exact ⟨rfl, R.out, hb⟩
end Go.Proofs.Ytohikbpolofklaa
namespace Go.Proofs.Ytohikbpolofklaa
open Go.RowKit
def marksF (s n : Nat) : List Int := (List.range n).map (fun i : Nat => ((s : Int) + (i : Int)) % 256)
def MarkedF (s : Nat) (w wr : World) (g cap k : Nat) : Prop :=
  w.grownBy wr (some g) ∧ ∃ cur, wr.heap[g]? = some (.cells cur 5 (0, 0)) ∧ cur.size = cap ∧ ∀ i, i < k → cur[i]? = some (.int .u8 (((s : Int) + (i : Int)) % 256))
end Go.Proofs.Ytohikbpolofklaa
namespace Go.Proofs.Ytohikbpolofklaa
open Go.RowKit
set_option linter.unusedVariables false
set_option linter.unusedSimpArgs false
def wb (x : Int) : List Int := [x / 256 % 256, x % 256]
def wbs : List Int → List Int
  | [] => []
  | x :: r => x / 256 % 256 :: x % 256 :: wbs r
theorem wbs_length (ws : List Int) : (wbs ws).length = 2 * ws.length := by
  induction ws with
  | nil => rfl
  | cons x r ih => simp [wbs, ih]; omega
theorem wbs_snoc (ws : List Int) (x : Int) : wbs (ws ++ [x]) = wbs ws ++ [x / 256 % 256, x % 256] := by
  induction ws with
  | nil => rfl
  | cons y r ih => simp [wbs, ih]
theorem take_snoc {ws : List Int} {k : Nat} (h : k < ws.length) : ws.take (k + 1) = ws.take k ++ [ws.getD k 0] := by
  rw [List.take_add_one]; simp [h]
theorem wbs_step (ws : List Int) (k : Nat) (h : k < ws.length) : wbs (ws.take (k + 1)) = wbs (ws.take k) ++ [ws.getD k 0 / 256 % 256, ws.getD k 0 % 256] := by
  rw [take_snoc h, wbs_snoc]
def Nw (w w' : World) (e : Ending) (zs : List Int) : Prop :=
  ∃ g c n, e = .returned (.slice (some ⟨g, 0, none⟩) n c) ∧ n = zs.length ∧ Own w' w.heap.size (.slice (some ⟨g, 0, none⟩) n c) zs ∧ Below w.heap.size w w'
theorem own_some {w : World} {base : Nat} {v : Value} {zs : List Int} (h : Own w base v zs) (hp : 0 < zs.length) : ∃ g c, v = .slice (some ⟨g, 0, none⟩) zs.length c ∧ base ≤ g ∧ g < w.heap.size := by
  have hl := fun k e => World.ownsRow.lt h k e
  obtain ⟨_, h2⟩ := h
  rcases h2 with ⟨hv, h3⟩ | ⟨g, cap, cur, hv, hg, hh, _⟩
  · simp at h3; subst h3; simp at hp
  · exact ⟨g, cap, hv, hg, (hl g (by rw [hv]; rfl)).2⟩
theorem wpList_app {w : World} {ops : Array Oper} {rest : List Oper} {o : Oper} {a : Act} {Q : Exit → Act → World → Prop} (hgd : o.guard = none) (s x : Operand)
    (ho : o.op = .call { callee := .builtin .append, args := #[s, x], argTypes := #[22, 22] }) (base : Nat) (v : Value) (zs : List Int) (hs : a.eval s = v) (hown : Own w base v zs)
    (ad : Addr) (m c : Nat) (ys : List Int) (hx : a.eval x = .slice (some ad) m c) (hm : m = ys.length) (hsl : Sl w (some ad) ys) (hlen : zs.length + ys.length ≤ 4000000) (hbase : base ≤ w.heap.size)
    (h : ∀ v' w', Own w' base v' (zs ++ ys) → w.grownBy w' v.ownBlock → wpList Try.prog ops Q rest (a.put o.dst v') w') : wpList Try.prog ops Q (o :: rest) a w := by
  obtain ⟨i0, hi, hz0, hz1, hz2⟩ := info_parts Try.info5
  subst hm
  refine wpList_append_own w hgd s x 22 ho base 5 i0 (.int .u8 0) 1 1 Try.underlying22 hi hz0 hz1 hz2 rfl (by decide) v zs.length (zs.map (Value.int .u8)) hs hown ad ys.length c (ys.map (Value.int .u8)) hx (by simp) hsl.cellsAt (ones ys) (by unfold maxLen; omega) (by omega) hbase ?_
  intro v' w' h1 h2 _
  exact h v' w' (by simpa [Own] using h1) h2
theorem sl_lit1 (w : World) (x : Int) {g : Nat} (hg : g = w.heap.size) : Sl (w.alloc (.cells #[.int .u8 x] 5)) (some ⟨g, 0, none⟩) [x] := hg ▸
  .inr ⟨_, 0, rfl, by simp, fun i hi => by
    have : i = 0 := by simp at hi; omega
    subst this; simp⟩
theorem sl_lit2 (w : World) (x y : Int) {g : Nat} (hg : g = w.heap.size) : Sl (w.alloc (.cells #[.int .u8 x, .int .u8 y] 5)) (some ⟨g, 0, none⟩) [x, y] := hg ▸
  .inr ⟨_, 0, rfl, by simp, fun i hi => by
    have : i = 0 ∨ i = 1 := by simp at hi; omega
    rcases this with rfl | rfl <;> simp⟩
theorem own_lit1 (w : World) (x : Int) (B : Nat) (hB : B ≤ w.heap.size) : Own (w.alloc (.cells #[.int .u8 x] 5)) B (.slice (some ⟨w.heap.size, 0, none⟩) 1 1) [x] := by
  refine ⟨by simp, .inr ⟨w.heap.size, 1, #[.int .u8 x], rfl, hB, ?_, by simp, by unfold maxLen; omega, by simp, by simp⟩⟩
  show (w.heap.push (.cells #[.int .u8 x] 5 (0, 0)))[w.heap.size]? = _
  simp
theorem own_zero {w : World} {g cap : Nat} {cur : Array Value} {B : Nat} (hB : B ≤ g) (hh : w.heap[g]? = some (.cells cur 5 (0, 0))) (hc : cur.size = cap) (hm : cap ≤ maxLen) : Own w B (.slice (some ⟨g, 0, none⟩) 0 cap) [] :=
  ⟨by simp, .inr ⟨g, cap, cur, rfl, hB, hh, by simp, hm, by simp [hc], by simp⟩⟩
theorem bel_grown {B : Nat} {w0 w w' : World} {base : Nat} {v : Value} {zs : List Int} (hb : Below B w0 w) (h : Own w base v zs) (hg : w.grownBy w' v.ownBlock) (h1 : B ≤ base) (h2 : B ≤ w.heap.size) : Below B w0 w' := below_own hb h hg h1 h2
set_option maxHeartbeats 2000000 in
theorem wordBytes_any (a : Option Addr) (n cap : Nat) (ws : List Int) (w : World) (hn : n = ws.length) (hs : SlI w a ws) (hl : ws.length ≤ 1000000) (hp : 0 < ws.length) :
    Calls Try.prog 45 #[.slice a n cap] w fun e w' => Nw w w' e (wbs ws) := by
  subst hn
  obtain ⟨i0, hi, hz0, hz1, hz2⟩ := info_parts Try.info5
  have hml : 2 * ws.length + 2 ≤ maxLen := by unfold maxLen; omega
  have HP : Hid (0 < ws.length) := hp
  clear hp
  go_enter Try.func45, Try.ntmps45
  go_wp2_with (at_make; refine wpList_make_own _ rfl (.const (.int .i64 0)) (.tmp 8) 22 rfl w.heap.size 5 i0 (.int .u8 0) 1 Try.underlying22 hi hz0 hz1 .i64 .i64 (2 * (ws.length : Int)) (2 * ws.length) rfl rfl (by omega) (by rw [hz2]; omega) (by omega) (Nat.le_refl _) ?_; intro w0 o0 g0)
  have hb0 : Below w.heap.size w w0 := (Below.refl _ w).grown g0 (Nat.le_refl _) (fun k hk => by cases hk)
  go_loopw [3, 12] (fun v i wr => ∃ k : Nat, k ≤ ws.length ∧ i = .int .i64 k ∧ Own wr w.heap.size v (wbs (ws.take k)) ∧ Below w.heap.size w wr) (fun _ i _ => ws.length - (intOf i).toNat)
  case atStart => exact ⟨0, Nat.zero_le _, rfl, o0, hb0⟩
  case round =>
    obtain ⟨k, hk, rfl, ho, hb⟩ := hrel
    by_cases hlt : k < ws.length
    · obtain ⟨b, off, rfl, hbl, hc0⟩ := cell_atI hs hlt
      have hc : wr.cell? ⟨b, off + k, none⟩ = some (.int .i64 (ws.getD k 0)) := by rw [hb.cell (p := ⟨b, off + k, none⟩) hbl]; exact hc0
      have HS : Hid (wbs (ws.take (k + 1)) = wbs (ws.take k) ++ [ws.getD k 0 / 256 % 256, ws.getD k 0 % 256]) := wbs_step ws k hlt
      have HLn : Hid ((wbs (ws.take k)).length + 2 ≤ 4000000) := by show (wbs (ws.take k)).length + 2 ≤ 4000000; rw [wbs_length, List.length_take]; omega
      generalize ws.getD k 0 = z at *
      have hi' : (k : Int) < (ws.length : Int) := by omega
      clear hc0 hs hb0 g0 o0
      go_wp2_with (at_builtin; refine wpList_app rfl (.tmp 16) (.tmp 22) rfl w.heap.size u3 (wbs (ws.take k)) rfl (ho.below (bel_alloc _ _)) ⟨wr.heap.size, 0, none⟩ 2 2 [z / 256 % 256, z % 256] rfl rfl (sl_lit2 _ _ _ rfl) HLn.out (by have := hb.size; simp; omega) ?_; intro v' w1 o1 g1; have hb1 : Below w.heap.size w w1 := bel_grown (bel_next hb (bel_alloc _ _)) (ho.below (bel_alloc _ _)) g1 (Nat.le_refl _) (by have := hb.size; simp; omega); rw [← HS.out] at o1; clear ho hb g1)
      go_roundw
      case rel => first | exact ⟨k + 1, by omega, by go_num, o1, hb1⟩ | exact ⟨_, _, _, ⟨k + 1, by omega, by go_num, o1, hb1⟩, rfl, rfl, rfl⟩
      case measure => simp [intOf]; omega
    · have e : ws.take k = ws := List.take_of_length_le (by omega)
      rw [e] at ho
      obtain ⟨g, c, hv, hg, hgl⟩ := own_some ho (by rw [wbs_length]; have := HP.out; omega)
      subst hv
      have R : Nw w wr (.returned (.slice (some ⟨g, 0, none⟩) (wbs ws).length c)) (wbs ws) := ⟨g, c, _, rfl, rfl, ho, hb⟩
      clear hs hb0 g0 o0 ho hb e
      go_wp2
      go_ret
      exact R
set_option maxHeartbeats 2000000 in
theorem putKind_any (kd : Int) (a : Option Addr) (n cap : Nat) (ws : List Int) (w : World) (hn : n = ws.length) (hs : SlI w a ws) (hl : ws.length ≤ 1000000) (hp : 0 < ws.length) :
    Calls Try.prog 43 #[.int .i64 kd, .slice a n cap] w fun e w' => Nw w w' e (kd % 256 :: wbs ws) := by
  have B0 := bel_alloc w (.cells #[.int .u8 (kd % 256)] 5)
  have o0 := own_lit1 w (kd % 256) w.heap.size (Nat.le_refl _)
  have H : Hid (n = ws.length ∧ SlI (w.alloc (.cells #[.int .u8 (kd % 256)] 5)) a ws ∧ ws.length ≤ 1000000 ∧ 0 < ws.length) := ⟨hn, hs.below B0, hl, hp⟩
  clear hn hs hl hp
  go_enter Try.func43, Try.ntmps43
  go_wp2_with fail
  refine (wordBytes_any _ _ _ ws _ H.out.1 H.out.2.1 H.out.2.2.1 H.out.2.2.2).mono ?_
  rintro e w1 ⟨g, c, m, rfl, hm, o1, b1'⟩
  have B1 := bel_next B0 b1'
  have o0' := o0.below b1'
  have HM : Hid (m = (wbs ws).length) := hm
  have hs1 := o1.sl.2
  have HLn : Hid ([kd % 256].length + (wbs ws).length ≤ 4000000) := by show [kd % 256].length + (wbs ws).length ≤ 4000000; rw [wbs_length]; have := H.out.2.2.1; simp; omega
  clear hm o0 b1' o1 B0
  go_wp2_with (at_builtin; refine wpList_app rfl (.tmp 7) (.tmp 9) rfl w.heap.size (.slice (some ⟨w.heap.size, 0, none⟩) 1 1) [kd % 256] rfl o0' ⟨g, 0, none⟩ m c (wbs ws) rfl HM.out hs1 HLn.out B1.size ?_; intro v' w2 o2 g2; have B2 : Below w.heap.size w w2 := bel_grown B1 o0' g2 (Nat.le_refl _) B1.size; obtain ⟨g', c', hv, _, _⟩ := own_some o2 (by simp); subst hv; have R : Nw w w2 (.returned (.slice (some ⟨g', 0, none⟩) ([kd % 256] ++ wbs ws).length c')) (kd % 256 :: wbs ws) := ⟨g', c', _, rfl, rfl, o2, B2⟩; clear o2 g2 o0' hs1)
  go_ret
  exact R
set_option maxHeartbeats 1000000 in
theorem coilWord_any (x : Bool) (w : World) : Calls Try.prog 46 #[.bool x] w fun e w' => e = .returned (.int .i64 (bif x then 65280 else 0)) ∧ w' = w := by
  cases x
  · go_enter Try.func46, Try.ntmps46
    go_wp2
    go_ret
    exact ⟨rfl, rfl⟩
  · go_enter Try.func46, Try.ntmps46
    go_wp2
    go_ret
    exact ⟨rfl, rfl⟩
end Go.Proofs.Ytohikbpolofklaa
namespace Go.Proofs.Ytohikbpolofklaa
open Go.RowKit
set_option linter.unusedVariables false
set_option linter.unusedSimpArgs false
set_option maxHeartbeats 4000000 in
theorem grow_nil (x : Int) (n : Nat) (w : World) (hx : x = (n : Int)) (h0 : 0 < n) (hl : n ≤ 4000000) :
    Calls Try.prog 59 #[.slice none 0 0, .int .i64 x] w fun e w' => ∃ g G, e = .returned (.slice (some ⟨g, 0, none⟩) 0 G) ∧ Own w' w.heap.size (.slice (some ⟨g, 0, none⟩) 0 G) [] ∧ Below w.heap.size w w' := by
  subst hx
  obtain ⟨i0, hi, hz0, hz1, hz2⟩ := info_parts Try.info5
  have hold : (Builtin.firstCells i0.size 0 (.slice none 0 0)).run Try.prog w.drew = .ok ([] : List Value).toArray w.drew := run_firstCells_none w.drew i0.size 0 0 0
  have h := Lib.run_append_grow_zeros w 22 3 22 5 i0 (.int .u8 0) .i64 .i64 Try.underlying22 Try.underlying3 hi hz0 none 0 0 [] hold n h0 (by omega) (by omega) (by omega) (by rw [hz2]; omega)
    (growslice_fits (by omega) (by rw [hz2]; omega))
  have hG0 := grownCap_ge w (0 + n) 0 5
  have hG1 := grownCap_le_maxLen w (0 + n) 0 5 (by unfold maxLen; omega)
  obtain ⟨G, hG⟩ : ∃ G, G = grownCap w (0 + n) 0 5 := ⟨_, rfl⟩
  rw [← hG] at h hG0 hG1
  clear hold hG
  obtain ⟨cur, hcur⟩ : ∃ cur, cur = ([] : List Value).toArray ++ Builtin.zeroCells (Value.int IntKind.u8 0).cells n ++ Builtin.zeroCells (Value.int IntKind.u8 0).cells (G - (0 + n)) := ⟨_, rfl⟩
  have hsz : cur.size = G := by rw [hcur]; simp [Builtin.zeroCells, Value.cells]; omega
  rw [← hcur] at h
  have hh : (w.drew.alloc (.cells cur 5)).heap[w.heap.size]? = some (.cells cur 5 (0, 0)) := Blk.new w.drew cur 5
  have B1 : Below w.heap.size w (w.drew.alloc (.cells cur 5)) := (Below.refl _ w).drew.alloc (Nat.le_refl _) _
  have ho := own_zero (B := w.heap.size) (Nat.le_refl _) hh hsz hG1
  generalize w.drew.alloc (.cells cur 5) = w1 at *
  have h1 : ¬ ((n : Int) < 0) := by omega
  have h4 : (n : Int) > 0 := by omega
  have hz : 0 + n = n := Nat.zero_add n
  rw [hz] at h hG0
  clear hcur hsz hh hz
  go_enter Try.func59, Try.ntmps59
  go_wp2_with (at_builtin; refine Lib.wpList_append_run _ rfl _ _ _ _ rfl _ _ rfl rfl _ _ h ?_)
  go_ret
  exact ⟨_, _, rfl, ho, B1⟩
theorem own_some' {w : World} {base : Nat} {v : Value} {zs : List Int} (h : Own w base v zs) (hp : 0 < zs.length) : ∃ g c n, v = .slice (some ⟨g, 0, none⟩) n c ∧ n = zs.length := by
  obtain ⟨g, c, hv, _⟩ := own_some h hp
  exact ⟨g, c, _, hv, rfl⟩
theorem own_mono {w : World} {base base' : Nat} {v : Value} {zs : List Int} (h : Own w base v zs) (hb : base' ≤ base) : Own w base' v zs := by
  obtain ⟨h1, h2⟩ := h
  refine ⟨h1, ?_⟩
  rcases h2 with h2 | ⟨g, cap, cur, hv, hg, r⟩
  · exact .inl h2
  · exact .inr ⟨g, cap, cur, hv, by omega, r⟩
set_option maxRecDepth 20000 in
set_option maxHeartbeats 8000000 in
theorem concat3 (G : Nat) (d0 d1 d2 : Addr) (n0 n1 n2 c0 c1 c2 : Nat) (z0 z1 z2 : List Int) (w : World) (x0 : w.cell? ⟨G, 0, none⟩ = some (.slice (some d0) n0 c0)) (x1 : w.cell? ⟨G, 1, none⟩ = some (.slice (some d1) n1 c1)) (x2 : w.cell? ⟨G, 2, none⟩ = some (.slice (some d2) n2 c2)) (hG : G < w.heap.size)
    (h0 : n0 = z0.length) (h1 : n1 = z1.length) (h2 : n2 = z2.length) (s0 : Sl w (some d0) z0) (s1 : Sl w (some d1) z1) (s2 : Sl w (some d2) z2) (hp : 0 < n1) (l0 : n0 ≤ 1000000) (l1 : n1 ≤ 1000000) (l2 : n2 ≤ 1000000) :
    Calls Try.prog 51 #[.slice (some ⟨G, 0, none⟩) 3 3] w fun e w' => Nw w w' e (z0 ++ z1 ++ z2) := by
  have HH : Hid (n0 = z0.length ∧ n1 = z1.length ∧ n2 = z2.length ∧ Sl w (some d0) z0 ∧ Sl w (some d1) z1 ∧ Sl w (some d2) z2 ∧ G < w.heap.size) := ⟨h0, h1, h2, s0, s1, s2, hG⟩
  have q0 : ¬ ((n0 : Int) < 0) := by omega
  have q1 : ¬ ((n0 : Int) + (n1 : Int) < 0) := by omega
  have q2 : ¬ ((n0 : Int) + (n1 : Int) + (n2 : Int) < 0) := by omega
  have HP : Hid (0 < n1 ∧ n0 ≤ 1000000 ∧ n1 ≤ 1000000 ∧ n2 ≤ 1000000) := ⟨hp, l0, l1, l2⟩
  clear h0 h1 h2 s0 s1 s2 hG hp
  go_enter Try.func51, Try.ntmps51
  go_wp2
  refine wp_loop_rounds 4 ?_
  rw [rounds_succ]
  go_wp2
  rw [rounds_succ]
  go_wp2
  rw [rounds_succ]
  go_wp2
  rw [rounds_succ]
  go_wp2_with fail
  refine (grow_nil _ (n0 + n1 + n2) _ (by omega) (by have := HP.out; omega) (by have := HP.out; omega)).mono ?_
  rintro e w1 ⟨g, C, rfl, o1, b1⟩
  have y0 : w1.cell? ⟨G, 0, none⟩ = _ := (b1.cell (p := ⟨G, 0, none⟩) HH.out.2.2.2.2.2.2).trans x0
  have y1 : w1.cell? ⟨G, 1, none⟩ = _ := (b1.cell (p := ⟨G, 1, none⟩) HH.out.2.2.2.2.2.2).trans x1
  have y2 : w1.cell? ⟨G, 2, none⟩ = _ := (b1.cell (p := ⟨G, 2, none⟩) HH.out.2.2.2.2.2.2).trans x2
  clear x0 x1 x2 q0 q1 q2
  go_wp2
  refine wp_loop_rounds 4 ?_
  rw [rounds_succ]
  go_wp2_with (at_builtin; refine wpList_app rfl (.tmp 31) (.tmp 32) rfl w.heap.size (.slice (some ⟨g, 0, none⟩) 0 C) [] rfl o1 d0 n0 c0 z0 rfl HH.out.1 (HH.out.2.2.2.1.below b1) (by have := HP.out; have := HH.out; simp; omega) b1.size ?_; intro v2 w2 o2 g2; have b2 : Below w.heap.size w w2 := bel_grown b1 o1 g2 (Nat.le_refl _) b1.size; have m1 : w2.cell? ⟨G, 1, none⟩ = _ := (b2.cell (p := ⟨G, 1, none⟩) HH.out.2.2.2.2.2.2).trans ((b1.cell (p := ⟨G, 1, none⟩) HH.out.2.2.2.2.2.2).symm.trans y1); have m2 : w2.cell? ⟨G, 2, none⟩ = _ := (b2.cell (p := ⟨G, 2, none⟩) HH.out.2.2.2.2.2.2).trans ((b1.cell (p := ⟨G, 2, none⟩) HH.out.2.2.2.2.2.2).symm.trans y2); clear o1 g2 y0 y1 y2)
  rw [rounds_succ]
  go_wp2_with (at_builtin; refine wpList_app rfl (.tmp 31) (.tmp 32) rfl w.heap.size v2 ([] ++ z0) rfl o2 d1 n1 c1 z1 rfl HH.out.2.1 (HH.out.2.2.2.2.1.below b2) (by have := HP.out; have := HH.out; simp; omega) b2.size ?_; intro v3 w3 o3 g3; have b3 : Below w.heap.size w w3 := bel_grown b2 o2 g3 (Nat.le_refl _) b2.size; have r2 : w3.cell? ⟨G, 2, none⟩ = _ := (b3.cell (p := ⟨G, 2, none⟩) HH.out.2.2.2.2.2.2).trans ((b2.cell (p := ⟨G, 2, none⟩) HH.out.2.2.2.2.2.2).symm.trans m2); clear o2 g3 m1 m2)
  rw [rounds_succ]
  go_wp2_with (at_builtin; refine wpList_app rfl (.tmp 31) (.tmp 32) rfl w.heap.size v3 ([] ++ z0 ++ z1) rfl o3 d2 n2 c2 z2 rfl HH.out.2.2.1 (HH.out.2.2.2.2.2.1.below b3) (by have := HP.out; have := HH.out; simp; omega) b3.size ?_; intro v4 w4 o4 g4; have b4 : Below w.heap.size w w4 := bel_grown b3 o3 g4 (Nat.le_refl _) b3.size; obtain ⟨g', c', n', hv, hn'⟩ := own_some' o4 (by have := HP.out; have := HH.out; simp; omega); subst hv; have R : Nw w w4 (.returned (.slice (some ⟨g', 0, none⟩) n' c')) (z0 ++ z1 ++ z2) := ⟨g', c', _, rfl, by simpa using hn', by simpa using o4, b4⟩; clear o3 o4 g4 r2 hn')
  rw [rounds_succ]
  go_wp2
  go_ret
  exact R
set_option maxHeartbeats 4000000 in
theorem putCounted_any (gh gm nh nm ch cm : Nat) (zh zm : List Int) (w : World) (hh : nh = zh.length) (hm : nm = zm.length) (sh : Sl w (some ⟨gh, 0, none⟩) zh) (sm : Sl w (some ⟨gm, 0, none⟩) zm) (lh : nh ≤ 1000000) (lm : nm ≤ 1000000) :
    Calls Try.prog 42 #[.slice (some ⟨gh, 0, none⟩) nh ch, .slice (some ⟨gm, 0, none⟩) nm cm] w fun e w' => Nw w w' e (zh ++ [(nm : Int) % 256] ++ zm) := by
  obtain ⟨W1, hW1⟩ : ∃ W1, W1 = w.alloc (.cells #[.int .u8 ((nm : Int) % 256)] 5) := ⟨_, rfl⟩
  obtain ⟨W2, hW2⟩ : ∃ W2, W2 = W1.alloc (.cells #[.slice (some ⟨gh, 0, none⟩) nh ch, .slice (some ⟨w.heap.size, 0, none⟩) 1 1, .slice (some ⟨gm, 0, none⟩) nm cm] 22) := ⟨_, rfl⟩
  have B1 : Below w.heap.size w W1 := by rw [hW1]; exact bel_alloc _ _
  have B2' : Below W1.heap.size W1 W2 := by rw [hW2]; exact bel_alloc _ _
  have B2 := bel_next B1 B2'
  have hs1 : W1.heap.size = w.heap.size + 1 := by rw [hW1]; simp
  have X : Blk W2 (w.heap.size + 1) 22 #[.slice (some ⟨gh, 0, none⟩) nh ch, .slice (some ⟨w.heap.size, 0, none⟩) 1 1, .slice (some ⟨gm, 0, none⟩) nm cm] := by rw [hW2, ← hs1]; exact Blk.new _ _ _
  have s1 : Sl W2 (some ⟨w.heap.size, 0, none⟩) [(nm : Int) % 256] := Sl.below (by rw [hW1]; exact sl_lit1 _ _ rfl) B2'
  have HW : Hid (W2 = (w.alloc (.cells #[.int .u8 ((nm : Int) % 256)] 5)).alloc (.cells #[.slice (some ⟨gh, 0, none⟩) nh ch, .slice (some ⟨w.heap.size, 0, none⟩) 1 1, .slice (some ⟨gm, 0, none⟩) nm cm] 22)) := by rw [← hW1]; exact hW2
  have K := concat3 (w.heap.size + 1) ⟨gh, 0, none⟩ ⟨w.heap.size, 0, none⟩ ⟨gm, 0, none⟩ nh 1 nm ch 1 cm zh [(nm : Int) % 256] zm W2 (X.cell 0 rfl) (X.cell 1 rfl) (X.cell 2 rfl) X.lt hh rfl hm (sh.below B2) s1 (sm.below B2) (by omega) lh (by omega) lm
  have HK : Hid (Calls Try.prog 51 #[.slice (some ⟨w.heap.size + 1, 0, none⟩) 3 3] W2 fun e w' => Nw W2 w' e (zh ++ [(nm : Int) % 256] ++ zm)) := K
  clear K X s1 sh sm hh hm hW1 hW2 B1 B2' hs1
  go_enter Try.func42, Try.ntmps42
  go_wp2_with fail
  rw [← HW.out]
  refine HK.out.mono ?_
  rintro e w3 ⟨g, c, n, rfl, hn, o3, b3⟩
  have R : Nw w w3 (.returned (.slice (some ⟨g, 0, none⟩) n c)) (zh ++ [(nm : Int) % 256] ++ zm) := ⟨g, c, n, rfl, hn, own_mono o3 B2.size, bel_next B2 b3⟩
  clear hn o3 b3
  go_wp2
  go_ret
  exact R
end Go.Proofs.Ytohikbpolofklaa
namespace Go.Proofs.Ytohikbpolofklaa
open Go.RowKit
set_option linter.unusedVariables false
set_option linter.unusedSimpArgs false
theorem lit_slI3 (w : World) (x y z : Int) {g : Nat} (hg : g = w.heap.size) : SlI (w.alloc (.cells #[.int .i64 x, .int .i64 y, .int .i64 z] 3)) (some ⟨g, 0, none⟩) [x, y, z] := hg ▸
  .inr ⟨_, 0, rfl, by simp, fun i hi => by
    have : i = 0 ∨ i = 1 ∨ i = 2 := by simp at hi; omega
    rcases this with rfl | rfl | rfl <;> simp⟩
theorem nw_next {w u w' : World} {e : Ending} {zs : List Int} (hb : Below w.heap.size w u) (h : Nw u w' e zs) : Nw w w' e zs := by
  obtain ⟨g, c, n, he, hn, ho, hb'⟩ := h
  exact ⟨g, c, n, he, hn, own_mono ho hb.size, bel_next hb hb'⟩
theorem Nw.bel {w w' : World} {e : Ending} {zs : List Int} (h : Nw w w' e zs) : Below w.heap.size w w' := by
  obtain ⟨_, _, _, _, _, _, hb⟩ := h
  exact hb
def packL (bs : List Bool) : List Int := (List.range ((bs.length + 7) / 8)).map (fun i => pv bs bs.length i)
theorem packL_length (bs : List Bool) : (packL bs).length = (bs.length + 7) / 8 := by simp [packL]
theorem implPack_nw (a : Option Addr) (n cap : Nat) (bs : List Bool) (w : World) (hn : n = bs.length) (hs : SlB w a bs) (hl : n ≤ 2000000) :
    Calls Try.prog 44 #[.slice a n cap] w fun e w' => Nw w w' e (packL bs) := by
  refine (implPackBits_any a n cap ((n + 7) / 8) bs w hn rfl hs hl).mono ?_
  rintro e w' ⟨rfl, hr, hb⟩
  subst hn
  refine ⟨_, _, _, rfl, (packL_length bs).symm, Own.ofRow (zs := packL bs) ?_ (packL_length bs).symm (Nat.le_refl _) (by unfold maxLen; omega), hb⟩
  refine hr.congr ?_
  intro i hi
  simp [packL, hi]
theorem specPack_nw (a : Option Addr) (n cap : Nat) (bs : List Bool) (w : World) (hn : n = bs.length) (hs : SlB w a bs) (hl : n ≤ 2000000) :
    Calls Try.prog 31 #[.slice a n cap] w fun e w' => Nw w w' e (packL bs) := by
  refine (specPackBits_any a n cap ((n + 7) / 8) bs w hn rfl hs hl).mono ?_
  rintro e w' ⟨rfl, hr, hb⟩
  subst hn
  refine ⟨_, _, _, rfl, (packL_length bs).symm, Own.ofRow (zs := packL bs) ?_ (packL_length bs).symm (Nat.le_refl _) (by unfold maxLen; omega), hb⟩
  refine hr.congr ?_
  intro i hi
  simp [packL, hi]
end Go.Proofs.Ytohikbpolofklaa
namespace Go.Proofs.Ytohikbpolofklaa
open Go.RowKit
theorem step_append_own {P : Program} {ops : Array Oper} {o : Oper} {a : Act} {w : World} {K : Act → World → Prop} {Q : Exit → Act → World → Prop} {E : Prop}
    (hgd : o.guard = none) (s x : Operand) (t : TypeId) (ho : o.op = .call { callee := .builtin .append, args := #[s, x], argTypes := #[t, t] })
    (base : Nat) (e : TypeId) (i : TypeInfo) (z : Value) (size bytes : Nat) (ht : P.underlying t = some (.slice e)) (hi : P.info? e = some i) (hz : i.zero = some z)
    (hsize : i.size = size) (hby : i.bytes = bytes) (hzs : z.cells.size = size) (hsz : 0 < size)
    (v : Value) (n : Nat) (xs : List Value) (hs : a.eval s = v) (hown : w.ownsRow base e size v n xs)
    (ad : Addr) (m c : Nat) (news : List Value) (hx : a.eval x = .slice (some ad) m c) (hl : news.length = m * size) (hnews : ∀ j u, news[j]? = some u → w.cell? (ad.add j) = some u) (h1 : ∀ u ∈ news, u.oneCell' = true)
    (h63 : n + m ≤ maxLen) (hbytes : (n + m) * bytes ≤ 140737488355328) (hbase : base ≤ w.heap.size)
    (h : ∀ v' w', w'.ownsRow base e size v' (n + m) (xs ++ news) → w.grownBy w' v.ownBlock → K (a.put o.dst v') w') :
    if Region.wanted o (yielded ops a.tmps) = true then Oper.wp P o a w K Q else E := by
  have hw : Region.wanted o (yielded ops a.tmps) = true := by simp [Region.wanted, hgd]
  rw [if_pos hw]
  obtain ⟨v', w', hrun, r1, r2, _⟩ := run_append_own (P := P) w base t o.type e i z size bytes ht hi hz hsize hby hzs hsz v n xs hown ad m c news hl hnews h1 h63 hbytes hbase
  unfold Oper.wp
  simp [execOp, ho, resolve, invoke, builtin, hs, hx, hrun, Result.andThen]
  exact h v' w' r1 r2
end Go.Proofs.Ytohikbpolofklaa
namespace Go.Proofs.Ytohikbpolofklaa
open Go.RowKit
set_option linter.unusedVariables false
set_option linter.unusedSimpArgs false
theorem step_app {ops : Array Oper} {o : Oper} {a : Act} {w : World} {K : Act → World → Prop} {Q : Exit → Act → World → Prop} {E : Prop} (hgd : o.guard = none) (s x : Operand)
    (ho : o.op = .call { callee := .builtin .append, args := #[s, x], argTypes := #[22, 22] }) (base : Nat) (v : Value) (zs : List Int) (hs : a.eval s = v) (hown : Own w base v zs)
    (ad : Addr) (m c : Nat) (ys : List Int) (hx : a.eval x = .slice (some ad) m c) (hm : m = ys.length) (hsl : Sl w (some ad) ys) (hlen : zs.length + ys.length ≤ 4000000) (hbase : base ≤ w.heap.size)
    (h : ∀ v' w', Own w' base v' (zs ++ ys) → w.grownBy w' v.ownBlock → K (a.put o.dst v') w') : if Region.wanted o (yielded ops a.tmps) = true then Oper.wp Try.prog o a w K Q else E := by
  obtain ⟨i0, hi, hz0, hz1, hz2⟩ := info_parts Try.info5
  subst hm
  refine step_append_own hgd s x 22 ho base 5 i0 (.int .u8 0) 1 1 Try.underlying22 hi hz0 hz1 hz2 rfl (by decide) v zs.length (zs.map (Value.int .u8)) hs hown ad ys.length c (ys.map (Value.int .u8)) hx (by simp) hsl.cellsAt (ones ys) (by unfold maxLen; omega) (by omega) hbase ?_
  intro v' w' h1 h2
  exact h v' w' (by simpa [Own] using h1) h2
theorem specPutWord_nw (g n c : Nat) (zs : List Int) (x : Int) (w : World) (hn : n = zs.length) (hs : Sl w (some ⟨g, 0, none⟩) zs) (hl : zs.length ≤ 2000000) :
    Calls Try.prog 34 #[.slice (some ⟨g, 0, none⟩) n c, .int .i64 x] w fun e w' => Nw w w' e (zs ++ wb x) := by
  refine (specPutWord_any ⟨g, 0, none⟩ n c zs x w hn hs hl).mono ?_
  rintro e w' ⟨v, rfl, ho, hb⟩
  obtain ⟨g', c', n', hv, hn'⟩ := own_some' ho (by simp)
  subst hv
  exact ⟨g', c', n', rfl, hn', ho, hb⟩
set_option maxHeartbeats 2000000 in
theorem l3Coil_any (g n c : Nat) (zs : List Int) (x : Bool) (w : World) (B : Nat) (hB : B ≤ w.heap.size) (ho : Own w B (.slice (some ⟨g, 0, none⟩) n c) zs) (hl : zs.length ≤ 2000000) :
    Calls Try.prog 33 #[.slice (some ⟨g, 0, none⟩) n c, .bool x] w fun e w' => ∃ g' c' n', e = .returned (.slice (some ⟨g', 0, none⟩) n' c') ∧ n' = (zs ++ [bif x then 255 else 0, 0]).length ∧ Own w' B (.slice (some ⟨g', 0, none⟩) n' c') (zs ++ [bif x then 255 else 0, 0]) ∧ w.heap.size ≤ w'.heap.size ∧ ∀ W, Below B W w → Below B W w' := by
  have HL : Hid (zs.length + [(0 : Int), 0].length ≤ 4000000) := by show zs.length + 2 ≤ 4000000; omega
  have HB : Hid (B ≤ w.heap.size) := hB
  clear hB
  cases x
  · go_enter Try.func33, Try.ntmps33
    go_wp2_with (at_builtin; refine wpList_app rfl (.tmp 9) (.tmp 10) rfl B (.slice (some ⟨g, 0, none⟩) n c) zs rfl (ho.below (bel_alloc _ _)) ⟨w.heap.size, 0, none⟩ 2 2 [0, 0] rfl rfl (sl_lit2 _ _ _ rfl) HL.out (by have := HB.out; simp; omega) ?_; intro v' w1 o1 g1)
    obtain ⟨g', c', n', hv, hn'⟩ := own_some' o1 (by simp)
    have hz : w.heap.size ≤ w1.heap.size := by have := g1.size; simp at this; omega
    have hbb : ∀ W, Below B W w → Below B W w1 := fun W hW => bel_grown (hW.alloc (by have := HB.out; omega) _) (ho.below (bel_alloc _ _)) g1 (Nat.le_refl _) (by have := HB.out; simp; omega)
    subst hv
    have H : Hid (n' = (zs ++ [0, 0]).length ∧ Own w1 B (.slice (some ⟨g', 0, none⟩) n' c') (zs ++ [0, 0]) ∧ w.heap.size ≤ w1.heap.size ∧ ∀ W, Below B W w → Below B W w1) := ⟨hn', o1, hz, hbb⟩
    clear o1 g1 hz hbb hn'
    go_ret
    exact ⟨g', c', n', rfl, H.out⟩
  · go_enter Try.func33, Try.ntmps33
    go_wp2_with (at_builtin; refine wpList_app rfl (.tmp 6) (.tmp 7) rfl B (.slice (some ⟨g, 0, none⟩) n c) zs rfl (ho.below (bel_alloc _ _)) ⟨w.heap.size, 0, none⟩ 2 2 [255, 0] rfl rfl (sl_lit2 _ _ _ rfl) HL.out (by have := HB.out; simp; omega) ?_; intro v' w1 o1 g1)
    obtain ⟨g', c', n', hv, hn'⟩ := own_some' o1 (by simp)
    have hz : w.heap.size ≤ w1.heap.size := by have := g1.size; simp at this; omega
    have hbb : ∀ W, Below B W w → Below B W w1 := fun W hW => bel_grown (hW.alloc (by have := HB.out; omega) _) (ho.below (bel_alloc _ _)) g1 (Nat.le_refl _) (by have := HB.out; simp; omega)
    subst hv
    have H : Hid (n' = (zs ++ [255, 0]).length ∧ Own w1 B (.slice (some ⟨g', 0, none⟩) n' c') (zs ++ [255, 0]) ∧ w.heap.size ≤ w1.heap.size ∧ ∀ W, Below B W w → Below B W w1) := ⟨hn', o1, hz, hbb⟩
    clear o1 g1 hz hbb hn'
    go_ret
    exact ⟨g', c', n', rfl, H.out⟩
set_option maxHeartbeats 2000000 in
theorem l3PutWords_any (g n c : Nat) (zs : List Int) (a : Option Addr) (m cap : Nat) (ws : List Int) (w : World) (hn : n = zs.length) (hs : Sl w (some ⟨g, 0, none⟩) zs) (hl : zs.length ≤ 100000) (hm : m = ws.length) (hw : SlI w a ws) (hlw : ws.length ≤ 100000) (hp : 0 < ws.length) :
    Calls Try.prog 32 #[.slice (some ⟨g, 0, none⟩) n c, .slice a m cap] w fun e w' => Nw w w' e (zs ++ wbs ws) := by
  subst hm
  have HP : Hid (0 < ws.length) := hp
  clear hp
  go_enter Try.func32, Try.ntmps32
  go_wp2
  go_loopw [0, 5] (fun v i wr => ∃ k : Nat, k ≤ ws.length ∧ i = .int .i64 k ∧ (∃ g' c' n', v = .slice (some ⟨g', 0, none⟩) n' c' ∧ n' = (zs ++ wbs (ws.take k)).length ∧ Sl wr (some ⟨g', 0, none⟩) (zs ++ wbs (ws.take k)) ∧ (0 < k → Own wr w.heap.size (.slice (some ⟨g', 0, none⟩) n' c') (zs ++ wbs (ws.take k)))) ∧ Below w.heap.size w wr) (fun _ i _ => ws.length - (intOf i).toNat)
  case atStart => exact ⟨0, Nat.zero_le _, rfl, ⟨g, c, n, rfl, by simpa [wbs] using hn, by simpa [wbs] using hs, fun h => absurd h (Nat.lt_irrefl _)⟩, Below.refl _ _⟩
  case round =>
    obtain ⟨k, hk, rfl, ⟨g', c', n', rfl, hn', hs', ho⟩, hb⟩ := hrel
    by_cases hlt : k < ws.length
    · obtain ⟨b, off, rfl, hbl, hc0⟩ := cell_atI hw hlt
      have hc : wr.cell? ⟨b, off + k, none⟩ = some (.int .i64 (ws.getD k 0)) := by rw [hb.cell (p := ⟨b, off + k, none⟩) hbl]; exact hc0
      have HS : Hid (zs ++ wbs (ws.take (k + 1)) = (zs ++ wbs (ws.take k)) ++ wb (ws.getD k 0)) := by show _ = _; rw [wbs_step ws k hlt]; simp [wb]
      have HLn : Hid ((zs ++ wbs (ws.take k)).length ≤ 2000000) := by show (zs ++ wbs (ws.take k)).length ≤ 2000000; rw [List.length_append, wbs_length, List.length_take]; omega
      have HN : Hid (n' = (zs ++ wbs (ws.take k)).length) := hn'
      generalize ws.getD k 0 = z at *
      have hi' : (k : Int) < (ws.length : Int) := by omega
      clear hc0 hw hs hn hn' ho
      go_wp2_with fail
      refine (specPutWord_nw g' n' c' (zs ++ wbs (ws.take k)) z _ HN.out hs' HLn.out).mono ?_
      rintro e w1 h1
      replace h1 := nw_next hb h1
      rw [← HS.out] at h1
      obtain ⟨g2, c2, n2, rfl, hn2, ho2, hb2⟩ := h1
      have H2 : Hid _ := (⟨hn2, ho2.sl.2, fun _ => ho2⟩ : _ ∧ _ ∧ (0 < k + 1 → _))
      clear hn2 ho2 hs' hb
      go_wp2
      go_roundw
      case rel => exact ⟨k + 1, by omega, by go_num, ⟨g2, c2, n2, rfl, H2.out⟩, hb2⟩
      case measure => simp [intOf]; omega
    · have e : ws.take k = ws := List.take_of_length_le (by omega)
      rw [e] at ho hn'
      have R : Nw w wr (.returned (.slice (some ⟨g', 0, none⟩) n' c')) (zs ++ wbs ws) := ⟨g', c', n', rfl, hn', ho (by have := HP.out; omega), hb⟩
      clear hs hs' ho hn hn' hb e hw
      go_wp2
      go_ret
      exact R
end Go.Proofs.Ytohikbpolofklaa
namespace Go.Proofs.Ytohikbpolofklaa
open Go.RowKit
set_option linter.unusedVariables false
set_option linter.unusedSimpArgs false
def wAt (zs : List Int) (i : Nat) : Int := if i + 2 ≤ zs.length then zs.getD i 0 * 256 + zs.getD (i + 1) 0 else 0
def wsF (zs : List Int) (f : Nat) : List Int := (List.range ((zs.length - f) / 2)).map (fun k => wAt zs (f + 2 * k))
def wsT (zs : List Int) (f k : Nat) : List Int := (List.range k).map (fun k => wAt zs (f + 2 * k))
def NwI (w w' : World) (e : Ending) (zs : List Int) : Prop := ∃ a c n, e = .returned (.slice a n c) ∧ n = zs.length ∧ OwnI w' w.heap.size (.slice a n c) zs ∧ Below w.heap.size w w'
end Go.Proofs.Ytohikbpolofklaa
namespace Go.Proofs.Ytohikbpolofklaa
open Go.RowKit
set_option linter.unusedVariables false
set_option linter.unusedSimpArgs false
def kindB (k : Int) : Bool := decide (k = 1 ∨ k = 2 ∨ k = 3 ∨ k = 4 ∨ k = 5 ∨ k = 6 ∨ k = 15 ∨ k = 16 ∨ k = 22 ∨ k = 23)
set_option maxHeartbeats 2000000 in
theorem isKind_any (k : Int) (w : World) (b : Bool) (hb : kindB k = b) : Calls Try.prog 47 #[.int .i64 k] w fun e w' => e = .returned (.bool b) ∧ w' = w := by
  by_cases hk : k = 1 ∨ k = 2 ∨ k = 3 ∨ k = 4 ∨ k = 5 ∨ k = 6 ∨ k = 15 ∨ k = 16 ∨ k = 22 ∨ k = 23
  · have e : kindB k = true := decide_eq_true hk
    rw [e] at hb
    subst hb
    clear e
    obtain rfl | rfl | rfl | rfl | rfl | rfl | rfl | rfl | rfl | rfl := hk
    all_goals (
      go_enter Try.func47, Try.ntmps47
      go_wp2
      go_ret
      exact ⟨rfl, rfl⟩)
  · have e : kindB k = false := decide_eq_false hk
    rw [e] at hb
    subst hb
    have h1 : ¬ k = 1 := by omega
    have h2 : ¬ k = 2 := by omega
    have h3 : ¬ k = 3 := by omega
    have h4 : ¬ k = 4 := by omega
    have h5 : ¬ k = 5 := by omega
    have h6 : ¬ k = 6 := by omega
    have h15 : ¬ k = 15 := by omega
    have h16 : ¬ k = 16 := by omega
    have h22 : ¬ k = 22 := by omega
    have h23 : ¬ k = 23 := by omega
    clear hk e
    go_enter Try.func47, Try.ntmps47
    go_wp2
    go_ret
    exact ⟨rfl, rfl⟩
set_option maxHeartbeats 2000000 in
theorem l3Kind_any (k : Int) (w : World) (b : Bool) (hb : kindB k = b) : Calls Try.prog 37 #[.int .i64 k] w fun e w' => e = .returned (.bool b) ∧ w' = w := by
  by_cases hk : k = 1 ∨ k = 2 ∨ k = 3 ∨ k = 4 ∨ k = 5 ∨ k = 6 ∨ k = 15 ∨ k = 16 ∨ k = 22 ∨ k = 23
  · have e : kindB k = true := decide_eq_true hk
    rw [e] at hb
    subst hb
    clear e
    obtain rfl | rfl | rfl | rfl | rfl | rfl | rfl | rfl | rfl | rfl := hk
    all_goals (
      go_enter Try.func37, Try.ntmps37
      go_wp2_with (go_at_call 38; go_in)
      go_ret
      exact ⟨rfl, rfl⟩)
  · have e : kindB k = false := decide_eq_false hk
    rw [e] at hb
    subst hb
    have h15 : ¬ k = 15 := by omega
    have h16 : ¬ k = 16 := by omega
    have h22 : ¬ k = 22 := by omega
    have h23 : ¬ k = 23 := by omega
    have hq : (k == 23) = false := by simp [h23]
    have hq1 : (k == 15) = false := by simp [h15]
    have hq2 : (k == 16) = false := by simp [h16]
    have hq3 : (k == 22) = false := by simp [h22]
    by_cases h1 : 1 ≤ k
    · have h6 : ¬ k ≤ 6 := by omega
      clear hk e
      go_enter Try.func37, Try.ntmps37
      go_wp2_with (go_at_call 38; go_in)
      go_ret
      exact ⟨rfl, rfl⟩
    · clear hk e
      go_enter Try.func37, Try.ntmps37
      go_wp2_with (go_at_call 38; go_in)
      go_ret
      exact ⟨rfl, rfl⟩
def GP (w w' : World) (e : Ending) (kd pl nn wa : Int) (ws : List Int) (bs : List Bool) (code : Int) : Prop :=
  ∃ a1 a2 l1 l2 c1 c2, e = .returned (.tuple #[rq kd pl nn wa a1 a2 l1 l2 c1 c2, .int .i64 code]) ∧ l1 = ws.length ∧ l2 = bs.length ∧ OwnI w' w.heap.size (.slice a1 l1 c1) ws ∧ OwnB w' w.heap.size (.slice a2 l2 c2) bs ∧ Below w.heap.size w w'
end Go.Proofs.Ytohikbpolofklaa
namespace Go.Proofs.Ytohikbpolofklaa
open Go.RowKit
def ub (zs : List Int) (k : Nat) : Bool := zs.getD (k / 8) 0 / ((2 ^ (k % 8) : Nat) : Int) % 2 == 1
def ubs (zs : List Int) (x : Nat) : List Bool := (List.range x).map (ub zs)
def okU (zs : List Int) (x : Int) : Bool := decide (0 ≤ x ∧ (zs.length : Int) = (x + 7) / 8 ∧ ∀ j, j < 8 * zs.length → x ≤ (j : Int) → ub zs j = false)
def outU (zs : List Int) (x : Int) : List Bool := if okU zs x = true then ubs zs x.toNat else []
def UnEnds (zs : List Int) (x : Int) (w : World) (e : Ending) (w' : World) : Prop :=
  ∃ a c, e = .returned (.tuple #[.slice a (outU zs x).length c, .bool (okU zs x)]) ∧ OwnB w' w.heap.size (.slice a (outU zs x).length c) (outU zs x) ∧ Below w.heap.size w w'
end Go.Proofs.Ytohikbpolofklaa
namespace Go.Proofs.Ytohikbpolofklaa
open Go.RowKit
end Go.Proofs.Ytohikbpolofklaa
namespace Go.Proofs.Ytohikbpolofklaa
open Go.RowKit
set_option linter.unusedVariables false
set_option linter.unusedSimpArgs false
theorem byte_wrap (l1 : Nat) (h : l1 ≤ 1000000) : IntKind.u8.wrap (IntKind.i64.wrap (2 * (l1 : Int))) = ((2 * l1 : Nat) : Int) % 256 := by
  rw [IntKind.wrap_i64, IntKind.wrap_u8]
  omega
def putL (kd pl nn wa : Int) (ws : List Int) (bs : List Bool) : List Int :=
  if kd = 5 then 5 :: wbs [pl, bif bs.getD 0 false then 65280 else 0]
  else if kd = 6 ∨ kd = 22 then kd :: wbs (pl :: ws)
  else if kd = 15 then (15 :: wbs [pl, (bs.length : Int)]) ++ [(((bs.length + 7) / 8 : Nat) : Int) % 256] ++ packL bs
  else if kd = 16 then (16 :: wbs [pl, (ws.length : Int)]) ++ [((2 * ws.length : Nat) : Int) % 256] ++ wbs ws
  else if kd = 23 then (23 :: wbs [pl, nn, wa, (ws.length : Int)]) ++ [((2 * ws.length : Nat) : Int) % 256] ++ wbs ws
  else kd :: wbs [pl, nn]
def putV (b : Bool) (kd pl nn wa : Int) (ws : List Int) (bs : List Bool) : List Int := bif b then putL kd pl nn wa ws bs else []
def NwO (w w' : World) (e : Ending) (zs : List Int) : Prop := ∃ a c n, e = .returned (.slice a n c) ∧ n = zs.length ∧ Own w' w.heap.size (.slice a n c) zs ∧ Below w.heap.size w w'
theorem Nw.o {w w' : World} {e : Ending} {zs : List Int} (h : Nw w w' e zs) : NwO w w' e zs := by
  obtain ⟨g, c, n, h⟩ := h
  exact ⟨_, c, n, h⟩
end Go.Proofs.Ytohikbpolofklaa
namespace Go.Proofs.Ytohikbpolofklaa
open Go.RowKit
set_option linter.unusedVariables false
set_option linter.unusedSimpArgs false
theorem ne_types {w : World} {b1 b2 s1 s2 n1 n2 : Nat} {e1 e2 : TypeId} {v1 v2 : Value} {x1 x2 : List Value} (h1 : w.ownsRow b1 e1 s1 v1 n1 x1) (h2 : w.ownsRow b2 e2 s2 v2 n2 x2) (he : e1 ≠ e2) : v1.ownBlock = none ∨ v1.ownBlock ≠ v2.ownBlock := by
  obtain ⟨_, h1⟩ := h1
  rcases h1 with ⟨hv, _⟩ | ⟨g, cap, cur, hv, _, hh, _⟩
  · subst hv; exact .inl rfl
  · refine .inr ?_
    intro e
    exact row_noBlk (v := v2) (g := g) (t := e1) (cs := cur) h2 hh he (by rw [← e, hv]; rfl)
theorem Blk.row {w w' : World} {g : Nat} {t : TypeId} {cs : Array Value} {b s n : Nat} {e : TypeId} {v : Value} {x : List Value} (h : Blk w g t cs) (hr : w.ownsRow b e s v n x) (hg : w.grownBy w' v.ownBlock) (he : t ≠ e) : Blk w' g t cs :=
  h.grown hg (row_noBlk hr h he)
theorem below_rowG {B : Nat} {w0 w w' : World} {base size n : Nat} {e : TypeId} {v : Value} {xs : List Value} (hb : Below B w0 w) (h : w.ownsRow base e size v n xs) (hg : w.grownBy w' v.ownBlock) (h1 : B ≤ base) (h2 : B ≤ w.heap.size) : Below B w0 w' :=
  hb.grown hg h2 (fun k hk => by have := (World.ownsRow.lt h k hk).1; omega)
theorem markBoolS_at (a : Option Addr) (n cap base s : Nat) (x : Int) (zs : List Bool) (w : World) (hx : x = ((s : Nat) : Int)) (h : OwnB w base (.slice a n cap) zs) (hl : n ≤ 20000000) (hs' : s ≤ 9000000) :
    Calls Try.prog 28 #[.slice a n cap, .int .i64 x] w fun e w' => e = .returned (.int .i64 ((s : Int) + (n : Int))) ∧ OwnB w' base (.slice a n cap) (marksB s n) ∧ w.grownBy w' (Value.slice a n cap).ownBlock := by
  subst hx
  exact markBoolS_from a n cap base s zs w h hl hs'
end Go.Proofs.Ytohikbpolofklaa
namespace Go.Proofs.Ytohikbpolofklaa
open Go.RowKit
set_option linter.unusedVariables false
set_option linter.unusedSimpArgs false
def NwB (w w' : World) (e : Ending) (bs : List Bool) : Prop := ∃ a c n, e = .returned (.slice a n c) ∧ n = bs.length ∧ OwnB w' w.heap.size (.slice a n c) bs ∧ Below w.heap.size w w'
def gW (k : Int) (zs : List Int) : List Int := if k = 6 then [wAt zs 3] else if k = 22 then [wAt zs 3, wAt zs 5] else if k = 16 then wsF zs 6 else if k = 23 then wsF zs 10 else []
def gB (k : Int) (zs : List Int) : List Bool := if k = 5 then [wAt zs 3 == 65280] else if k = 15 then outU (zs.drop 6) (wAt zs 3) else []
def gN (k : Int) (zs : List Int) : Int := if k = 5 ∨ k = 6 ∨ k = 15 ∨ k = 16 ∨ k = 22 then 0 else wAt zs 3
def gA (k : Int) (zs : List Int) : Int := if k = 23 then wAt zs 5 else 0
def gOk (k : Int) (zs : List Int) : Bool := okR k (wAt zs 1) (gN k zs) (gA k zs) (gW k zs) (gW k zs).length (gB k zs).length && decide (putL k (wAt zs 1) (gN k zs) (gA k zs) (gW k zs) (gB k zs) = zs)
def GPz (zs : List Int) (w w' : World) (e : Ending) : Prop :=
  if zs.length = 0 ∨ kindB (zs.getD 0 0) = false then GP w w' e 0 0 0 0 [] [] 1
  else if gOk (zs.getD 0 0) zs = true then GP w w' e (zs.getD 0 0) (wAt zs 1) (gN (zs.getD 0 0) zs) (gA (zs.getD 0 0) zs) (gW (zs.getD 0 0) zs) (gB (zs.getD 0 0) zs) 0
  else GP w w' e 0 0 0 0 [] [] 3
end Go.Proofs.Ytohikbpolofklaa
namespace Go.Proofs.Ytohikbpolofklaa
open Go.RowKit
set_option linter.unusedVariables false
set_option linter.unusedSimpArgs false
def sW (k : Int) (zs : List Int) : List Int := if k = 6 ∨ k = 22 then wsF zs 3 else if k = 16 then wsF zs 6 else if k = 23 then wsF zs 10 else []
def sB (k : Int) (zs : List Int) : List Bool := if k = 5 then [wAt zs 3 != 0] else if k = 15 then outU (zs.drop 6) (wAt zs 3) else []
def sOk (k : Int) (zs : List Int) : Bool := okR k (wAt zs 1) (gN k zs) (gA k zs) (sW k zs) (sW k zs).length (sB k zs).length && decide (putL k (wAt zs 1) (gN k zs) (gA k zs) (sW k zs) (sB k zs) = zs)
def SPz (k : Int) (zs : List Int) (w w' : World) (e : Ending) : Prop :=
  if sOk k zs = true then GP w w' e k (wAt zs 1) (gN k zs) (gA k zs) (sW k zs) (sB k zs) 0 else GP w w' e 0 0 0 0 [] [] 3
end Go.Proofs.Ytohikbpolofklaa
namespace Go.Proofs.Ytohikbpolofklaa
open Go.RowKit
set_option linter.unusedVariables false
set_option linter.unusedSimpArgs false
end Go.Proofs.Ytohikbpolofklaa
namespace Go.Proofs.Ytohikbpolofklaa
open Go.RowKit
set_option linter.unusedVariables false
set_option linter.unusedSimpArgs false
end Go.Proofs.Ytohikbpolofklaa
namespace Go.Proofs.Ytohikbpolofklaa
open Go.RowKit
set_option linter.unusedVariables false
set_option linter.unusedSimpArgs false
theorem toB_ok (a : Option Addr) (n cap : Nat) (zs : List Int) (w : World) (hn : n = zs.length) (hs : Sl w a zs) (hl : zs.length ≤ 2000000) :
    Calls Try.prog 19 #[.slice a n cap] w fun e w' => ∃ g, e = .returned (.slice (some ⟨g, 0, none⟩) n n) ∧ Own w' w.heap.size (.slice (some ⟨g, 0, none⟩) n n) zs ∧ Below w.heap.size w w' := by
  refine (toByteS_any a n cap zs w hn hs hl).mono ?_
  rintro e w' ⟨rfl, q, b⟩
  exact ⟨_, rfl, Own.ofRow q hn (Nat.le_refl _) (by unfold maxLen; omega), b⟩
theorem eqB_any (a a' : Option Addr) (n n' cap cap' : Nat) (zs : List Int) (w : World) (hn : n = zs.length) (hn' : n' = zs.length) (hs : Sl w a zs) (hs' : Sl w a' zs) (hl : zs.length ≤ 2000000) :
    Calls Try.prog 23 #[.slice a n cap, .slice a' n' cap'] w fun e w' => e = .returned (.bool true) ∧ Below w.heap.size w w' := by
  refine (eqByteS_true a a' n n' cap cap' zs w hn hn' hs hs' hl).mono ?_
  rintro e w' ⟨rfl, k, rfl⟩
  exact ⟨rfl, drew_refl _ _⟩
end Go.Proofs.Ytohikbpolofklaa
namespace Go.Proofs.Ytohikbpolofklaa
open Go.RowKit
set_option linter.unusedVariables false
end Go.Proofs.Ytohikbpolofklaa
namespace Go.Proofs.Ytohikbpolofklaa
open Go.RowKit
set_option linter.unusedVariables false
set_option linter.unusedSimpArgs false
abbrev bxc (nm un : Int) (a : Option Addr) (l c : Nat) : Array Value := #[.int .i64 nm, .int .i64 un, .slice a l c]
theorem Blk.tri {w : World} {g : Nat} {t : TypeId} {v0 v1 v2 : Value} (h : Blk w g t #[v0, v1, v2]) : w.cell? ⟨g, 0, none⟩ = some v0 ∧ w.cell? ⟨g, 1, none⟩ = some v1 ∧ w.cell? ⟨g, 2, none⟩ = some v2 :=
  ⟨h.cell 0 rfl, h.cell 1 rfl, h.cell 2 rfl⟩
theorem grow_tr {w w1 w2 : World} {row : Option Nat} (h1 : w.grownBy w1 row) (h2 : w1.grownBy w2 row) : w.grownBy w2 row :=
  ⟨h2.os.trans h1.os, h2.tape.trans h1.tape, h2.output.trans h1.output, Nat.le_trans h1.size h2.size, fun k hk hne => (h2.block k (Nat.lt_of_lt_of_le hk h1.size) hne).trans (h1.block k hk hne)⟩
set_option maxHeartbeats 2000000 in
theorem szBox_fits (nm un : Int) (a : Option Addr) (l c : Nat) (w : World) (h : l ≤ 1048576) :
    Calls Try.prog 4 #[.agg (bxc nm un a l c), .int .i64 1048576] w fun e w' => e = .returned (.int .i64 (1048576 - (l : Int))) ∧ Below w.heap.size w w' := by
  have h' : ¬ (1048576 - (l : Int) < 0) := by omega
  go_enter Try.func4, Try.ntmps4
  go_wp2_with (go_at_call 15; go_in)
  go_ret
  exact ⟨rfl, bel_alloc _ _⟩
set_option maxHeartbeats 2000000 in
theorem szBox_big (nm un : Int) (a : Option Addr) (l c : Nat) (w : World) (hm : l ≤ maxLen) (h : ¬ l ≤ 1048576) :
    Calls Try.prog 4 #[.agg (bxc nm un a l c), .int .i64 1048576] w fun e w' => e = .returned (.int .i64 (-1)) ∧ Below w.heap.size w w' := by
  unfold maxLen at hm
  have h' : (1048576 - (l : Int) < 0) := by omega
  go_enter Try.func4, Try.ntmps4
  go_wp2_with (go_at_call 15; go_in)
  go_ret
  exact ⟨rfl, bel_alloc _ _⟩
set_option maxRecDepth 20000 in
set_option maxHeartbeats 4000000 in
theorem toBox_any (nm un : Int) (a : Option Addr) (l c : Nat) (zs : List Int) (w : World) (hn : l = zs.length) (hs : Sl w a zs) (hl : zs.length ≤ 2000000) :
    Calls Try.prog 7 #[.agg (bxc nm un a l c)] w fun e w' => ∃ g, e = .returned (.agg (bxc nm un (some ⟨g, 0, none⟩) l l)) ∧ Own w' w.heap.size (.slice (some ⟨g, 0, none⟩) l l) zs ∧ Below w.heap.size w w' := by
  have HN : Hid (l = zs.length) := hn
  obtain ⟨W0, hW0'⟩ : ∃ W0, W0 = ((w.alloc (.cells (bxc nm un a l c) 24)).alloc (.cells (bxc 0 0 none 0 0) 31)).alloc (.cells (bxc nm un none 0 0) 31) := ⟨_, rfl⟩
  have hW0 : Hid (W0 = _) := hW0'
  have hz : W0.heap.size = w.heap.size + 1 + 1 + 1 := by rw [hW0']; simp
  have B0 : Below w.heap.size w W0 := by rw [hW0']; exact bel_next (bel_next (bel_alloc w _) (bel_alloc _ _)) (bel_alloc _ _)
  have A0 : Blk W0 w.heap.size 24 (bxc nm un a l c) := by rw [hW0']; exact ((Blk.new w _ _).below (bel_alloc _ _)).below (bel_alloc _ _)
  have R0 : Blk W0 (w.heap.size + 1) 31 (bxc 0 0 none 0 0) := by
    rw [hW0']; have := (Blk.new (w.alloc (.cells (bxc nm un a l c) 24)) (bxc 0 0 none 0 0) 31).below (bel_alloc _ (.cells (bxc nm un none 0 0) 31)); simpa using this
  have O0 : Blk W0 (w.heap.size + 1 + 1) 31 (bxc nm un none 0 0) := by
    rw [hW0']; have := Blk.new ((w.alloc (.cells (bxc nm un a l c) 24)).alloc (.cells (bxc 0 0 none 0 0) 31)) (bxc nm un none 0 0) 31; simpa using this
  have S1 : Hid (Sl W0 a zs) := hs.below B0
  have c02 := A0.cell 2 rfl
  clear hn hs hW0'
  go_enter Try.func7, Try.ntmps7
  go_upto_region 4 with fail
  rw [← hW0.out]
  go_wp2_with fail
  refine (toB_ok a l c zs _ HN.out S1.out hl).mono ?_
  rintro e w1 ⟨g, rfl, i1, b1'⟩
  have b1 := bel_next B0 b1'
  have R1 := R0.below b1'
  have O1 := O0.below b1'
  obtain ⟨r0, r1, r2⟩ := R1.tri
  obtain ⟨o0, o1, o2⟩ := O1.tri
  have fo := O1.fro
  have fr := R1.fro
  have eO : ExB w1 (w.heap.size + 1 + 1) 31 := ⟨_, O1⟩
  have eR : ExB w1 (w.heap.size + 1) 31 := ⟨_, R1⟩
  have HJ : Hid (Own w1 W0.heap.size (.slice (some ⟨g, 0, none⟩) l l) zs ∧ Below w.heap.size w w1 ∧ ExB w1 (w.heap.size + 1 + 1) 31 ∧ ExB w1 (w.heap.size + 1) 31) := ⟨i1, b1, eO, eR⟩
  have hz0 : w.heap.size ≤ W0.heap.size := by omega
  clear b1' B0 A0 R0 O0 R1 O1 i1 b1 eO eR c02
  go_wp2
  refine bodyPost_ret (v := .agg (bxc nm un (some ⟨g, 0, none⟩) l l)) (by simp [results, Try.results7, go_sem, r0, r1, r2]) rfl ?_
  obtain ⟨j3, b3, eO, eR⟩ := HJ.out
  exact ⟨g, rfl, own_mono (show Own _ _ _ _ from row_setE (row_setE (row_setE (row_setE j3 eO (by decide)) (ExB.set eR) (by decide)) (ExB.set (ExB.set eR)) (by decide)) (ExB.set (ExB.set (ExB.set eR))) (by decide)) hz0, (((b3.setCell (p := ⟨w.heap.size + 1 + 1, 2, none⟩) (by show w.heap.size ≤ w.heap.size + 1 + 1; omega) _).setCell (p := ⟨w.heap.size + 1, 0, none⟩) (Nat.le_succ _) _).setCell (p := ⟨w.heap.size + 1, 1, none⟩) (Nat.le_succ _) _).setCell (p := ⟨w.heap.size + 1, 2, none⟩) (Nat.le_succ _) _⟩
set_option maxRecDepth 20000 in
set_option maxHeartbeats 4000000 in
theorem eqBox_true (nm un : Int) (a a' : Option Addr) (l l' c c' : Nat) (zs : List Int) (w : World) (hn : l = zs.length) (hn' : l' = zs.length) (hs : Sl w a zs) (hs' : Sl w a' zs) (hl : zs.length ≤ 2000000) :
    Calls Try.prog 10 #[.agg (bxc nm un a l c), .agg (bxc nm un a' l' c')] w fun e w' => e = .returned (.bool true) ∧ Below w.heap.size w w' := by
  have HN : Hid (l = zs.length ∧ l' = zs.length) := ⟨hn, hn'⟩
  obtain ⟨W0, hW0'⟩ : ∃ W0, W0 = (w.alloc (.cells (bxc nm un a l c) 31)).alloc (.cells (bxc nm un a' l' c') 31) := ⟨_, rfl⟩
  have hW0 : Hid (W0 = _) := hW0'
  have B0 : Below w.heap.size w W0 := by rw [hW0']; exact bel_next (bel_alloc w _) (bel_alloc _ _)
  have X0 : Blk W0 w.heap.size 31 (bxc nm un a l c) := by rw [hW0']; exact (Blk.new w _ _).below (bel_alloc _ _)
  have Y0 : Blk W0 (w.heap.size + 1) 31 (bxc nm un a' l' c') := by
    rw [hW0']; have := Blk.new (w.alloc (.cells (bxc nm un a l c) 31)) (bxc nm un a' l' c') 31; simpa using this
  have HS : Hid (Sl W0 a zs ∧ Sl W0 a' zs) := ⟨hs.below B0, hs'.below B0⟩
  obtain ⟨x0, x1, x2⟩ := X0.tri
  obtain ⟨y0, y1, y2⟩ := Y0.tri
  clear hn hn' hs hs' hW0' X0 Y0
  go_enter Try.func10, Try.ntmps10
  go_upto_region 1 with fail
  rw [← hW0.out]
  go_wp2_with fail
  refine (eqB_any _ _ _ _ _ _ zs _ HN.out.1 HN.out.2 HS.out.1 HS.out.2 hl).mono ?_
  rintro e w1 ⟨rfl, b1'⟩
  have b1 := bel_next B0 b1'
  clear b1' B0 x0 x1 x2 y0 y1 y2
  go_wp2
  go_ret
  exact ⟨rfl, b1⟩
set_option maxHeartbeats 1000000 in
theorem markBox_1 (nm un : Int) (a : Option Addr) (l c base : Nat) (zs : List Int) (w : World) (h : Own w base (.slice a l c) zs) (hl : l ≤ 3000000) :
    Calls Try.prog 12 #[.agg (bxc nm un a l c), .int .i64 1] w fun e w' => e = .returned (.int .i64 ((l : Int) + 1)) ∧ Own w' base (.slice a l c) (marks l) ∧ w.grownBy w' (Value.slice a l c).ownBlock := by
  have HO : Hid (Own (w.alloc (.cells (bxc nm un a l c) 31)) base (.slice a l c) zs) := h.below (bel_alloc _ _)
  have HG : Hid (w.grownBy (w.alloc (.cells (bxc nm un a l c) 31)) (Value.slice a l c).ownBlock) := World.grownBy_alloc w _ _
  clear h
  go_enter Try.func12, Try.ntmps12
  go_wp2_with fail
  refine (markByteS_any a l c base zs _ HO.out hl).mono ?_
  rintro e w1 ⟨rfl, o1, g1⟩
  have R : Hid (Own w1 base (.slice a l c) (marks l) ∧ w.grownBy w1 (Value.slice a l c).ownBlock) := ⟨o1, grow_tr HG.out g1⟩
  clear o1 g1
  go_wp2
  go_ret
  exact ⟨rfl, R.out⟩
set_option maxHeartbeats 1000000 in
theorem heldBox_1 (nm un : Int) (a : Option Addr) (l c : Nat) (w : World) (h : Sl w a (marks l)) (hl : l ≤ 3000000) :
    Calls Try.prog 14 #[.agg (bxc nm un a l c), .int .i64 1] w fun e w' => e = .returned (.int .i64 ((l : Int) + 1)) ∧ Below w.heap.size w w' := by
  have HS : Hid (Sl (w.alloc (.cells (bxc nm un a l c) 31)) a (marks l)) := h.below (bel_alloc _ _)
  have HB := bel_alloc w (.cells (bxc nm un a l c) 31)
  have f0 : ¬ ((l : Int) + 1 < 0) := by omega
  clear h
  go_enter Try.func14, Try.ntmps14
  go_wp2_with fail
  refine (heldByteS_any a l c _ HS.out hl).mono ?_
  rintro e w1 ⟨rfl, rfl⟩
  go_wp2
  go_ret
  exact ⟨rfl, HB⟩
set_option maxRecDepth 20000 in
set_option maxHeartbeats 4000000 in
theorem markResp_s (kd fl pl nn : Int) (g1 g2 : Option Addr) (l1 l2 c1 c2 b1 b2 : Nat) (ws : List Int) (bs : List Bool) (s : Nat) (x : Int) (w : World) (hx : x = ((s : Nat) : Int)) (hs9 : s ≤ 5000000) (o1 : OwnI w b1 (.slice g1 l1 c1) ws) (o2 : OwnB w b2 (.slice g2 l2 c2) bs) (hl1 : l1 ≤ 2000000) (hl2 : l2 ≤ 2000000) :
    Calls Try.prog 13 #[rp kd fl pl nn g1 g2 l1 l2 c1 c2, .int .i64 x] w fun e w' => e = .returned (.int .i64 (x + (l1 : Int) + (l2 : Int))) ∧ OwnI w' b1 (.slice g1 l1 c1) (marksI s l1) ∧ OwnB w' b2 (.slice g2 l2 c2) (marksB (s + l1) l2) ∧
      (∀ base v zs, OwnI w base v zs → (v.ownBlock = none ∨ v.ownBlock ≠ (Value.slice g1 l1 c1).ownBlock) → OwnI w' base v zs) ∧ (∀ base v zs, OwnB w base v zs → (v.ownBlock = none ∨ v.ownBlock ≠ (Value.slice g2 l2 c2).ownBlock) → OwnB w' base v zs) ∧ (∀ base v zs, Own w base v zs → Own w' base v zs) ∧ (∀ g t cs, Blk w g t cs → t ≠ 3 → t ≠ 4 → Blk w' g t cs) ∧ (∀ B W, Below B W w → B ≤ b1 → B ≤ b2 → B ≤ w.heap.size → Below B W w') := by
  subst hx
  have B0 := bel_alloc w (.cells #[.int .i64 kd, .int .i64 fl, .int .i64 pl, .int .i64 nn, .slice g1 l1 c1, .slice g2 l2 c2] 34)
  have X0 := Blk.new w #[.int .i64 kd, .int .i64 fl, .int .i64 pl, .int .i64 nn, .slice g1 l1 c1, .slice g2 l2 c2] 34
  have p1 := o1.below B0
  have p2 := o2.below B0
  obtain ⟨x0, x1, x2, x3, x4, x5⟩ := X0.six
  obtain ⟨w0, hw0⟩ : ∃ w0, w0 = w.alloc (.cells #[.int .i64 kd, .int .i64 fl, .int .i64 pl, .int .i64 nn, .slice g1 l1 c1, .slice g2 l2 c2] 34) := ⟨_, rfl⟩
  have HW : Hid (w0 = _) := hw0
  rw [← hw0] at p1 p2 B0 X0 x0 x1 x2 x3 x4 x5
  clear hw0
  go_enter Try.func13, Try.ntmps13
  go_upto_region 1 with fail
  rw [← HW.out]
  go_wp2_with fail
  refine (markIntS_from _ _ _ _ s ws _ p1 (by omega) (by omega)).mono ?_
  rintro e w1 ⟨rfl, r1, gr1⟩
  have r2 := World.ownsRow.kept p2 gr1 (ne_types p2 p1 (by decide))
  have X1 := X0.row p1 gr1 (by decide)
  obtain ⟨y0, y1, y2, y3, y4, y5⟩ := X1.six
  have HK1 : Hid ((∀ base v zs, OwnI w base v zs → (v.ownBlock = none ∨ v.ownBlock ≠ (Value.slice g1 l1 c1).ownBlock) → OwnI w1 base v zs) ∧ (∀ base v zs, OwnB w base v zs → (v.ownBlock = none ∨ v.ownBlock ≠ (Value.slice g2 l2 c2).ownBlock) → OwnB w1 base v zs) ∧ (∀ base v zs, Own w base v zs → Own w1 base v zs) ∧ (∀ g t cs, Blk w g t cs → t ≠ 3 → t ≠ 4 → Blk w1 g t cs) ∧ (∀ B W, Below B W w → B ≤ b1 → B ≤ w.heap.size → Below B W w1 ∧ B ≤ w1.heap.size)) := by
    refine ⟨fun base v zs h hv => OwnI.kept (h.below B0) gr1 hv, fun base v zs h _ => World.ownsRow.kept (h.below B0) gr1 (ne_types (h.below B0) p1 (by decide)), fun base v zs h => Own.kept (h.below B0) gr1 (ne_types (h.below B0) p1 (by decide)), fun g t cs h ht _ => (h.below B0).row p1 gr1 ht, fun B W h hB hs => ?_⟩
    have q := h.trans (B0.mono hs)
    have q2 : B ≤ w0.heap.size := by have := B0.size; omega
    exact ⟨below_rowG q p1 gr1 hB q2, by have := gr1.size; omega⟩
  clear x0 x1 x2 x3 x4 x5 X0 gr1 p1 p2
  go_wp2_with fail
  refine (markBoolS_at _ _ _ _ (s + l1) _ bs _ (by omega) r2 (by omega) (by omega)).mono ?_
  rintro e w2 ⟨rfl, t2, gr2⟩
  have t1 := World.ownsRow.kept r1 gr2 (ne_types r1 r2 (by decide))
  have HK : Hid (OwnI w2 b1 (.slice g1 l1 c1) (marksI s l1) ∧ OwnB w2 b2 (.slice g2 l2 c2) (marksB (s + l1) l2) ∧ (∀ base v zs, OwnI w base v zs → (v.ownBlock = none ∨ v.ownBlock ≠ (Value.slice g1 l1 c1).ownBlock) → OwnI w2 base v zs) ∧ (∀ base v zs, OwnB w base v zs → (v.ownBlock = none ∨ v.ownBlock ≠ (Value.slice g2 l2 c2).ownBlock) → OwnB w2 base v zs) ∧ (∀ base v zs, Own w base v zs → Own w2 base v zs) ∧ (∀ g t cs, Blk w g t cs → t ≠ 3 → t ≠ 4 → Blk w2 g t cs) ∧ (∀ B W, Below B W w → B ≤ b1 → B ≤ b2 → B ≤ w.heap.size → Below B W w2)) := by
    refine ⟨t1, t2, fun base v zs h hv => ?_, fun base v zs h hv => ?_, fun base v zs h => ?_, fun g t cs h ht ht' => ?_, fun B W h hB hB2 hs => ?_⟩
    · have := HK1.out.1 base v zs h hv
      exact World.ownsRow.kept this gr2 (ne_types this r2 (by decide))
    · have := HK1.out.2.1 base v zs h hv
      exact World.ownsRow.kept this gr2 hv
    · have := HK1.out.2.2.1 base v zs h
      exact Own.kept this gr2 (ne_types this r2 (by decide))
    · exact (HK1.out.2.2.2.1 g t cs h ht ht').row r2 gr2 ht'
    · obtain ⟨q, q2⟩ := HK1.out.2.2.2.2 B W h hB hs
      exact below_rowG q r2 gr2 hB2 q2
  have ez : (s : Int) + (l1 : Int) + (l2 : Int) = ((s + l1 : Nat) : Int) + (l2 : Int) := by omega
  clear t1 t2 gr2 r1 r2 X1 y0 y1 y2 y3 y4 y5
  go_wp2
  go_ret
  exact ⟨by rw [ez]; rfl, HK.out⟩
end Go.Proofs.Ytohikbpolofklaa
namespace Go.Proofs.Ytohikbpolofklaa
open Go.RowKit
set_option linter.unusedVariables false
set_option linter.unusedSimpArgs false
def zr4 (a n w b : Bool) (pl nn : Int) (l1 l2 : Nat) : Bool := (a || decide (pl = 0)) && ((n || decide (nn = 0)) && ((w || decide (l1 = 0)) && (b || decide (l2 = 0))))
def okAK (kd pl nn : Int) (l1 l2 : Nat) : Bool :=
  if kd = 1 ∨ kd = 2 then zr4 false false false true pl nn l1 l2 && (inB l2 1 2000 && decide (l2 % 8 = 0))
  else if kd = 3 ∨ kd = 4 ∨ kd = 23 then zr4 false false true false pl nn l1 l2 && inB l1 1 125
  else if kd = 5 then zr4 true false false true pl nn l1 l2 && decide (l2 = 1)
  else if kd = 6 then zr4 true false true false pl nn l1 l2 && decide (l1 = 1)
  else if kd = 22 then zr4 true false true false pl nn l1 l2 && decide (l1 = 2)
  else if kd = 15 then zr4 true true false false pl nn l1 l2 && inB nn 1 1968
  else zr4 true true false false pl nn l1 l2 && inB nn 1 123
def okA (kd fl pl nn : Int) (ws : List Int) (l1 l2 : Nat) : Bool := kindB kd && (inB fl 0 255 && (allW ws && (inB pl 0 65535 && (if 0 < fl then zr4 false false false false pl nn l1 l2 else okAK kd pl nn l1 l2))))
set_option maxHeartbeats 2000000 in
theorem l4Zero_ffff (kd fl pl nn : Int) (a1 a2 : Option Addr) (l1 l2 c1 c2 : Nat) (w : World) (hm1 : l1 ≤ 2000000) (hm2 : l2 ≤ 20000000) (z : Bool) (hz : zr4 false false false false pl nn l1 l2 = z) :
    Calls Try.prog 40 #[rp kd fl pl nn a1 a2 l1 l2 c1 c2, .bool false, .bool false, .bool false, .bool false] w fun e w' => e = .returned (.bool z) ∧ Below w.heap.size w w' := by
  have B0 := bel_alloc w (.cells #[.int .i64 kd, .int .i64 fl, .int .i64 pl, .int .i64 nn, .slice a1 l1 c1, .slice a2 l2 c2] 34)
  subst hz
  by_cases hA : pl = 0
  · skip
    by_cases hN : nn = 0
    · skip
      by_cases h1 : l1 = 0
      · skip
        by_cases h2 : l2 = 0
        · skip
          have e : zr4 false false false false pl nn l1 l2 = true := by simp [zr4, hA, hN, h1, h2]
          rw [e]
          clear e
          subst hA
          subst hN
          subst h1
          subst h2
          go_enter Try.func40, Try.ntmps40
          go_wp2
          go_ret
          exact ⟨rfl, B0⟩
        · skip
          have e : zr4 false false false false pl nn l1 l2 = false := by simp [zr4, hA, hN, h1, h2]
          rw [e]
          have h2i : ((l2 : Int) == 0) = false := by simp [h2]
          clear e
          subst hA
          subst hN
          subst h1
          go_enter Try.func40, Try.ntmps40
          go_wp2
          go_ret
          exact ⟨rfl, B0⟩
      · skip
        have e : zr4 false false false false pl nn l1 l2 = false := by simp [zr4, hA, hN, h1]
        rw [e]
        have h1i : ((l1 : Int) == 0) = false := by simp [h1]
        clear e
        subst hA
        subst hN
        go_enter Try.func40, Try.ntmps40
        go_wp2
        go_ret
        exact ⟨rfl, B0⟩
    · skip
      have e : zr4 false false false false pl nn l1 l2 = false := by simp [zr4, hA, hN]
      rw [e]
      have eN : (nn == 0) = false := by simp [hN]
      clear e
      subst hA
      go_enter Try.func40, Try.ntmps40
      go_wp2
      go_ret
      exact ⟨rfl, B0⟩
  · skip
    have e : zr4 false false false false pl nn l1 l2 = false := by simp [zr4, hA]
    rw [e]
    have eA : (pl == 0) = false := by simp [hA]
    clear e
    go_enter Try.func40, Try.ntmps40
    go_wp2
    go_ret
    exact ⟨rfl, B0⟩
set_option maxHeartbeats 2000000 in
theorem l4Zero_ffft (kd fl pl nn : Int) (a1 a2 : Option Addr) (l1 l2 c1 c2 : Nat) (w : World) (hm1 : l1 ≤ 2000000) (hm2 : l2 ≤ 20000000) (z : Bool) (hz : zr4 false false false true pl nn l1 l2 = z) :
    Calls Try.prog 40 #[rp kd fl pl nn a1 a2 l1 l2 c1 c2, .bool false, .bool false, .bool false, .bool true] w fun e w' => e = .returned (.bool z) ∧ Below w.heap.size w w' := by
  have B0 := bel_alloc w (.cells #[.int .i64 kd, .int .i64 fl, .int .i64 pl, .int .i64 nn, .slice a1 l1 c1, .slice a2 l2 c2] 34)
  subst hz
  by_cases hA : pl = 0
  · skip
    by_cases hN : nn = 0
    · skip
      by_cases h1 : l1 = 0
      · skip
        have e : zr4 false false false true pl nn l1 l2 = true := by simp [zr4, hA, hN, h1]
        rw [e]
        clear e
        subst hA
        subst hN
        subst h1
        go_enter Try.func40, Try.ntmps40
        go_wp2
        go_ret
        exact ⟨rfl, B0⟩
      · skip
        have e : zr4 false false false true pl nn l1 l2 = false := by simp [zr4, hA, hN, h1]
        rw [e]
        have h1i : ((l1 : Int) == 0) = false := by simp [h1]
        clear e
        subst hA
        subst hN
        go_enter Try.func40, Try.ntmps40
        go_wp2
        go_ret
        exact ⟨rfl, B0⟩
    · skip
      have e : zr4 false false false true pl nn l1 l2 = false := by simp [zr4, hA, hN]
      rw [e]
      have eN : (nn == 0) = false := by simp [hN]
      clear e
      subst hA
      go_enter Try.func40, Try.ntmps40
      go_wp2
      go_ret
      exact ⟨rfl, B0⟩
  · skip
    have e : zr4 false false false true pl nn l1 l2 = false := by simp [zr4, hA]
    rw [e]
    have eA : (pl == 0) = false := by simp [hA]
    clear e
    go_enter Try.func40, Try.ntmps40
    go_wp2
    go_ret
    exact ⟨rfl, B0⟩
set_option maxHeartbeats 2000000 in
theorem l4Zero_fftf (kd fl pl nn : Int) (a1 a2 : Option Addr) (l1 l2 c1 c2 : Nat) (w : World) (hm1 : l1 ≤ 2000000) (hm2 : l2 ≤ 20000000) (z : Bool) (hz : zr4 false false true false pl nn l1 l2 = z) :
    Calls Try.prog 40 #[rp kd fl pl nn a1 a2 l1 l2 c1 c2, .bool false, .bool false, .bool true, .bool false] w fun e w' => e = .returned (.bool z) ∧ Below w.heap.size w w' := by
  have B0 := bel_alloc w (.cells #[.int .i64 kd, .int .i64 fl, .int .i64 pl, .int .i64 nn, .slice a1 l1 c1, .slice a2 l2 c2] 34)
  subst hz
  by_cases hA : pl = 0
  · skip
    by_cases hN : nn = 0
    · skip
      by_cases h2 : l2 = 0
      · skip
        have e : zr4 false false true false pl nn l1 l2 = true := by simp [zr4, hA, hN, h2]
        rw [e]
        clear e
        subst hA
        subst hN
        subst h2
        go_enter Try.func40, Try.ntmps40
        go_wp2
        go_ret
        exact ⟨rfl, B0⟩
      · skip
        have e : zr4 false false true false pl nn l1 l2 = false := by simp [zr4, hA, hN, h2]
        rw [e]
        have h2i : ((l2 : Int) == 0) = false := by simp [h2]
        clear e
        subst hA
        subst hN
        go_enter Try.func40, Try.ntmps40
        go_wp2
        go_ret
        exact ⟨rfl, B0⟩
    · skip
      have e : zr4 false false true false pl nn l1 l2 = false := by simp [zr4, hA, hN]
      rw [e]
      have eN : (nn == 0) = false := by simp [hN]
      clear e
      subst hA
      go_enter Try.func40, Try.ntmps40
      go_wp2
      go_ret
      exact ⟨rfl, B0⟩
  · skip
    have e : zr4 false false true false pl nn l1 l2 = false := by simp [zr4, hA]
    rw [e]
    have eA : (pl == 0) = false := by simp [hA]
    clear e
    go_enter Try.func40, Try.ntmps40
    go_wp2
    go_ret
    exact ⟨rfl, B0⟩
set_option maxHeartbeats 2000000 in
theorem l4Zero_tfft (kd fl pl nn : Int) (a1 a2 : Option Addr) (l1 l2 c1 c2 : Nat) (w : World) (hm1 : l1 ≤ 2000000) (hm2 : l2 ≤ 20000000) (z : Bool) (hz : zr4 true false false true pl nn l1 l2 = z) :
    Calls Try.prog 40 #[rp kd fl pl nn a1 a2 l1 l2 c1 c2, .bool true, .bool false, .bool false, .bool true] w fun e w' => e = .returned (.bool z) ∧ Below w.heap.size w w' := by
  have B0 := bel_alloc w (.cells #[.int .i64 kd, .int .i64 fl, .int .i64 pl, .int .i64 nn, .slice a1 l1 c1, .slice a2 l2 c2] 34)
  subst hz
  by_cases hN : nn = 0
  · skip
    by_cases h1 : l1 = 0
    · skip
      have e : zr4 true false false true pl nn l1 l2 = true := by simp [zr4, hN, h1]
      rw [e]
      clear e
      subst hN
      subst h1
      go_enter Try.func40, Try.ntmps40
      go_wp2
      go_ret
      exact ⟨rfl, B0⟩
    · skip
      have e : zr4 true false false true pl nn l1 l2 = false := by simp [zr4, hN, h1]
      rw [e]
      have h1i : ((l1 : Int) == 0) = false := by simp [h1]
      clear e
      subst hN
      go_enter Try.func40, Try.ntmps40
      go_wp2
      go_ret
      exact ⟨rfl, B0⟩
  · skip
    have e : zr4 true false false true pl nn l1 l2 = false := by simp [zr4, hN]
    rw [e]
    have eN : (nn == 0) = false := by simp [hN]
    clear e
    go_enter Try.func40, Try.ntmps40
    go_wp2
    go_ret
    exact ⟨rfl, B0⟩
set_option maxHeartbeats 2000000 in
theorem l4Zero_tftf (kd fl pl nn : Int) (a1 a2 : Option Addr) (l1 l2 c1 c2 : Nat) (w : World) (hm1 : l1 ≤ 2000000) (hm2 : l2 ≤ 20000000) (z : Bool) (hz : zr4 true false true false pl nn l1 l2 = z) :
    Calls Try.prog 40 #[rp kd fl pl nn a1 a2 l1 l2 c1 c2, .bool true, .bool false, .bool true, .bool false] w fun e w' => e = .returned (.bool z) ∧ Below w.heap.size w w' := by
  have B0 := bel_alloc w (.cells #[.int .i64 kd, .int .i64 fl, .int .i64 pl, .int .i64 nn, .slice a1 l1 c1, .slice a2 l2 c2] 34)
  subst hz
  by_cases hN : nn = 0
  · skip
    by_cases h2 : l2 = 0
    · skip
      have e : zr4 true false true false pl nn l1 l2 = true := by simp [zr4, hN, h2]
      rw [e]
      clear e
      subst hN
      subst h2
      go_enter Try.func40, Try.ntmps40
      go_wp2
      go_ret
      exact ⟨rfl, B0⟩
    · skip
      have e : zr4 true false true false pl nn l1 l2 = false := by simp [zr4, hN, h2]
      rw [e]
      have h2i : ((l2 : Int) == 0) = false := by simp [h2]
      clear e
      subst hN
      go_enter Try.func40, Try.ntmps40
      go_wp2
      go_ret
      exact ⟨rfl, B0⟩
  · skip
    have e : zr4 true false true false pl nn l1 l2 = false := by simp [zr4, hN]
    rw [e]
    have eN : (nn == 0) = false := by simp [hN]
    clear e
    go_enter Try.func40, Try.ntmps40
    go_wp2
    go_ret
    exact ⟨rfl, B0⟩
set_option maxHeartbeats 2000000 in
theorem l4Zero_ttff (kd fl pl nn : Int) (a1 a2 : Option Addr) (l1 l2 c1 c2 : Nat) (w : World) (hm1 : l1 ≤ 2000000) (hm2 : l2 ≤ 20000000) (z : Bool) (hz : zr4 true true false false pl nn l1 l2 = z) :
    Calls Try.prog 40 #[rp kd fl pl nn a1 a2 l1 l2 c1 c2, .bool true, .bool true, .bool false, .bool false] w fun e w' => e = .returned (.bool z) ∧ Below w.heap.size w w' := by
  have B0 := bel_alloc w (.cells #[.int .i64 kd, .int .i64 fl, .int .i64 pl, .int .i64 nn, .slice a1 l1 c1, .slice a2 l2 c2] 34)
  subst hz
  by_cases h1 : l1 = 0
  · skip
    by_cases h2 : l2 = 0
    · skip
      have e : zr4 true true false false pl nn l1 l2 = true := by simp [zr4, h1, h2]
      rw [e]
      clear e
      subst h1
      subst h2
      go_enter Try.func40, Try.ntmps40
      go_wp2
      go_ret
      exact ⟨rfl, B0⟩
    · skip
      have e : zr4 true true false false pl nn l1 l2 = false := by simp [zr4, h1, h2]
      rw [e]
      have h2i : ((l2 : Int) == 0) = false := by simp [h2]
      clear e
      subst h1
      go_enter Try.func40, Try.ntmps40
      go_wp2
      go_ret
      exact ⟨rfl, B0⟩
  · skip
    have e : zr4 true true false false pl nn l1 l2 = false := by simp [zr4, h1]
    rw [e]
    have h1i : ((l1 : Int) == 0) = false := by simp [h1]
    clear e
    go_enter Try.func40, Try.ntmps40
    go_wp2
    go_ret
    exact ⟨rfl, B0⟩
theorem l4Zero_or (a n v b : Bool) (kd fl pl nn : Int) (a1 a2 : Option Addr) (l1 l2 c1 c2 : Nat) (w : World) (h : a = false ∧ n = false ∧ v = false ∧ b = false ∨ a = false ∧ n = false ∧ v = false ∧ b = true ∨ a = false ∧ n = false ∧ v = true ∧ b = false ∨ a = true ∧ n = false ∧ v = false ∧ b = true ∨ a = true ∧ n = false ∧ v = true ∧ b = false ∨ a = true ∧ n = true ∧ v = false ∧ b = false) (hm1 : l1 ≤ 2000000) (hm2 : l2 ≤ 20000000) :
    Calls Try.prog 40 #[rp kd fl pl nn a1 a2 l1 l2 c1 c2, .bool a, .bool n, .bool v, .bool b] w fun e w' => Below w.heap.size w w' ∧ ((zr4 a n v b pl nn l1 l2 = true ∧ e = .returned (.bool true)) ∨ (zr4 a n v b pl nn l1 l2 = false ∧ e = .returned (.bool false))) := by
  obtain ⟨rfl, rfl, rfl, rfl⟩ | ⟨rfl, rfl, rfl, rfl⟩ | ⟨rfl, rfl, rfl, rfl⟩ | ⟨rfl, rfl, rfl, rfl⟩ | ⟨rfl, rfl, rfl, rfl⟩ | ⟨rfl, rfl, rfl, rfl⟩ := h
  · exact bo (l4Zero_ffff _ _ _ _ _ _ _ _ _ _ _ hm1 hm2 _ rfl)
  · exact bo (l4Zero_ffft _ _ _ _ _ _ _ _ _ _ _ hm1 hm2 _ rfl)
  · exact bo (l4Zero_fftf _ _ _ _ _ _ _ _ _ _ _ hm1 hm2 _ rfl)
  · exact bo (l4Zero_tfft _ _ _ _ _ _ _ _ _ _ _ hm1 hm2 _ rfl)
  · exact bo (l4Zero_tftf _ _ _ _ _ _ _ _ _ _ _ hm1 hm2 _ rfl)
  · exact bo (l4Zero_ttff _ _ _ _ _ _ _ _ _ _ _ hm1 hm2 _ rfl)
set_option maxRecDepth 20000 in
set_option maxHeartbeats 4000000 in
theorem specRespOk_any (kd fl pl nn : Int) (a1 a2 : Option Addr) (l1 l2 c1 c2 : Nat) (ws : List Int) (w : World) (h1 : l1 = ws.length) (s1 : SlI w a1 ws) (hl1 : ws.length ≤ 2000000) (hl2 : l2 ≤ 20000000) (b : Bool) (hb : okA kd fl pl nn ws l1 l2 = b) :
    Calls Try.prog 30 #[rp kd fl pl nn a1 a2 l1 l2 c1 c2] w fun e w' => e = .returned (.bool b) ∧ Below w.heap.size w w' := by
  have B0 := bel_alloc w (.cells #[.int .i64 kd, .int .i64 fl, .int .i64 pl, .int .i64 nn, .slice a1 l1 c1, .slice a2 l2 c2] 34)
  have X0 := Blk.new w #[.int .i64 kd, .int .i64 fl, .int .i64 pl, .int .i64 nn, .slice a1 l1 c1, .slice a2 l2 c2] 34
  have S1 : Hid (SlI (w.alloc (.cells #[.int .i64 kd, .int .i64 fl, .int .i64 pl, .int .i64 nn, .slice a1 l1 c1, .slice a2 l2 c2] 34)) a1 ws) := s1.below B0
  have H1 : Hid (l1 = ws.length) := h1
  clear h1 s1
  subst hb
  cases hK : kindB kd
  · go_enter Try.func30, Try.ntmps30
    go_wp2_with (go_at_call 37; refine (l3Kind_any _ _ _ hK).mono ?_; rintro e wx ⟨rfl, rfl⟩)
    go_ret
    exact ⟨by simp [okA, hK], B0⟩
  by_cases h0 : 0 < fl
  rotate_left
  rcases of_decide_eq_true hK with rfl | rfl | rfl | rfl | rfl | rfl | rfl | rfl | rfl | rfl
  all_goals
    go_enter Try.func30, Try.ntmps30
    go_wp2_with (first
      | (go_at_call 37; refine (l3Kind_any _ _ _ hK).mono ?_; rintro e wx ⟨rfl, rfl⟩)
      | (go_at_call 39; refine (bo (l3Words_any _ _ _ ws _ H1.out S1.out hl1 _ rfl)).mono ?_; rintro e wx ⟨rfl, ⟨hW, rfl⟩ | ⟨hW, rfl⟩⟩)
      | (go_at_call 38; refine (l1In_or _ _ _ _).mono ?_; rintro e wx ⟨rfl, ⟨hN, hm, rfl⟩ | ⟨hN, rfl⟩⟩)
      | (go_at_call 40; refine (l4Zero_or _ _ _ _ _ _ _ _ _ _ _ _ _ _ _ (by simp) (by have := H1.out; omega) hl2).mono ?_;
         rintro e w1 ⟨b', ⟨hZ, rfl⟩ | ⟨hZ, rfl⟩⟩ <;> (have B1 := bel_next B0 b'; obtain ⟨y0, y1, y2, y3, y4, y5⟩ := (X0.below b').six; clear B0 X0)))
    all_goals
      go_ret
      refine ⟨?_, by assumption⟩
      first | (simp [okA, okAK, *, show ¬ 0 < fl by omega]; done) | (simp [okA, okAK, *]; done) | (simp [okA, okAK, *, show ¬ 0 < fl by omega]; rw [Bool.eq_iff_iff]; simp; omega)
theorem specRespOk_q (kd fl pl nn : Int) (a1 a2 : Option Addr) (l1 l2 c1 c2 : Nat) (ws : List Int) (bs : List Bool) (w : World) (h1 : l1 = ws.length) (h2 : l2 = bs.length) (s1 : SlI w a1 ws) (s2 : SlB w a2 bs) (hl1 : ws.length ≤ 2000000) (hl2 : bs.length ≤ 2000000) :
    Calls Try.prog 30 #[rp kd fl pl nn a1 a2 l1 l2 c1 c2] w fun e w' => e = .returned (.bool (okA kd fl pl nn ws l1 l2)) ∧ Below w.heap.size w w' :=
  specRespOk_any kd fl pl nn a1 a2 l1 l2 c1 c2 ws w h1 s1 hl1 (by omega) _ rfl
end Go.Proofs.Ytohikbpolofklaa

/- UnHex of the program, walked. -/
import Derived.Test.YtmcednhinafpeaaUnHex2
import Derived.WalkSmall
namespace Go.Proofs.Ytmcednhinafpeaa
open Go.RowKit
open Go.Lib

/-- What the row holds at i when pos digits have been read. -/
def cont (s : ByteArray) (pos i : Nat) : Int := if 2 * i + 2 ≤ pos then D s (2 * i) * 16 + D s (2 * i + 1) else if 2 * i + 1 = pos then D s (2 * i) else 0

theorem cont_step (s : ByteArray) (pos i : Nat) : cont s (pos + 1) i = if i = pos / 2 then cont s pos (pos / 2) * 16 + D s pos else cont s pos i := by
  unfold cont
  by_cases e : i = pos / 2
  · subst e
    rw [if_pos rfl]
    by_cases h : pos % 2 = 0
    · have e2 : 2 * (pos / 2) = pos := by omega
      rw [e2, if_neg (by omega), if_pos rfl, if_neg (by omega), if_neg (by omega)]; omega
    · have e2 : 2 * (pos / 2) + 1 = pos := by omega
      rw [if_pos (by omega), if_neg (by omega), if_pos e2, e2]
  · rw [if_neg e]
    by_cases h : 2 * i + 2 ≤ pos
    · rw [if_pos h, if_pos (by omega)]
    · rw [if_neg h, if_neg (by omega), if_neg (by omega), if_neg (by omega)]

theorem cont_at_bd (s : ByteArray) (pos : Nat) (hg : ∀ j, j < pos → 0 ≤ D s j) : 0 ≤ cont s pos (pos / 2) ∧ cont s pos (pos / 2) ≤ 15 := by
  unfold cont
  rw [if_neg (by omega)]
  split
  · exact ⟨hg _ (by omega), (D_bd s _).2⟩
  · omega

theorem cont_done (s : ByteArray) (n i : Nat) (hi : i < n) : cont s (2 * n) i = (bytesTo s n).getD i 0 := by
  unfold cont
  rw [if_pos (by omega)]
  simp [bytesTo, hi]

theorem cont_zero (s : ByteArray) (i : Nat) : cont s 0 i = 0 := by unfold cont; rw [if_neg (by omega), if_neg (by omega)]

theorem rune_good (s : ByteArray) (pos : Nat) (h : pos < s.size) (hg : 0 ≤ D s pos) : (s[pos]'h).toNat < 128 := by
  rw [D_at s pos h] at hg
  have := dg_ascii _ hg
  omega

theorem rune_bad (s : ByteArray) (pos : Nat) (h : pos < s.size) (hg : D s pos < 0) : dg ((Utf8.decode s pos).1 : Int) < 0 := by
  by_cases ha : (s[pos]'h).toNat < 128
  · rw [decode_ascii s pos h ha, ← D_at s pos h]; exact hg
  · have := (decode_high s pos h (by omega)).1
    unfold dg
    rw [if_neg (by omega), if_neg (by omega)]; decide

theorem row_iterAt {w : World} {b n K : Nat} {t : TypeId} {f : Nat → Value} {s : ByteArray} {p : Nat} (h : w.rowIs b t n f) (hne : b ≠ K) : (w.iterAt K s p).rowIs b t n f := by
  refine h.of_block ?_
  simp only [World.iterAt]
  rw [Array.getElem?_setIfInBounds, if_neg (fun e => hne e.symm)]

theorem below_iterAt {B K : Nat} {w0 w : World} {s : ByteArray} {p : Nat} (h : Below B w0 w) (hK : B ≤ K) : Below B w0 (w.iterAt K s p) := by
  refine h.trans ⟨rfl, rfl, rfl, by simp [World.iterAt], fun k hk => ?_⟩
  simp only [World.iterAt]
  rw [Array.getElem?_setIfInBounds, if_neg (by omega)]

theorem u8_or4 (c d : Int) (h0 : 0 ≤ c) (h1 : c ≤ 15) (h2 : 0 ≤ d) (h3 : d ≤ 15) : bits .or .u8 (c * 16) d = c * 16 + d :=
  bits_join .u8 8 (by decide) wraps_u8 4 (c * 16) d (by omega) (by omega) (by omega) h2 (by omega) (by omega)

/-- What holds when pos digits have been read. -/
structure Rd (s : ByteArray) (n : Nat) (w wr : World) (pos : Nat) : Prop where
  it : wr.heap[w.heap.size + 1]? = some (.stringIter s pos)
  row : wr.rowIs w.heap.size 5 n (fun i => .int .u8 (cont s pos i))
  bel : Below w.heap.size w wr
  good : ∀ j, j < pos → 0 ≤ D s j

theorem rd_start (s : ByteArray) (n : Nat) (w : World) : Rd s n w ((w.alloc (.cells (madeCells #[.int .u8 0] n) 5)).iter s 0) 0 where
  it := by
    have := World.iter_heap (w.alloc (.cells (madeCells #[.int .u8 0] n) 5)) s 0
    simpa using this
  row := ((World.rowIs_made w _ _ _).congr (fun i _ => by rw [cont_zero])).alloc _
  bel := ((Below.refl _ _).alloc (Nat.le_refl _) _).alloc (by simp) _
  good := fun j hj => absurd hj (Nat.not_lt_zero _)

theorem rd_step {s : ByteArray} {n : Nat} {w wr : World} {pos : Nat} (h : Rd s n w wr pos) (hd : 0 ≤ D s pos) :
    Rd s n w ((wr.iterAt (w.heap.size + 1) s (pos + 1)).setCell ⟨w.heap.size, pos / 2, none⟩ (.int .u8 (cont s pos (pos / 2) * 16 + D s pos))) (pos + 1) where
  it := by
    rw [Below.heap_setCell _ _ _ _ (by show w.heap.size + 1 ≠ w.heap.size; omega)]
    exact iterAt_heap wr _ s pos (pos + 1) h.it
  row := ((row_iterAt h.row (by omega)).set (pos / 2) _).congr (fun i _ => by
    rw [cont_step]
    by_cases e : i = pos / 2
    · rw [if_pos e, if_pos e]
    · rw [if_neg e, if_neg e])
  bel := (below_iterAt h.bel (by omega)).setCell (Nat.le_refl _) _
  good := fun j hj => by
    by_cases e : j = pos
    · subst e; exact hd
    · exact h.good j (by omega)

set_option maxHeartbeats 2000000 in
theorem implUnHex_any (s : ByteArray) (w : World) (hl : s.size ≤ 2000000) :
    Calls Try.prog 43 #[.string s] w fun e w' => Ends s w e w' := by
  by_cases he : s.size % 2 = 0
  · obtain ⟨n, hn⟩ : ∃ n, n = s.size / 2 := ⟨_, rfl⟩
    have hsz : Hid (s.size = 2 * n) := by show s.size = 2 * n; omega
    have he' : ((s.size : Int) % 2 != 0) = false := by simp; omega
    have hdiv : (s.size : Int) / 2 = (n : Int) := by omega
    have hnl : n ≤ 2000000 := by omega
    have hmk := run_make_row' (P := Try.prog) 22 5 (.int .u8 0) 1 Try.underlying22 Try.info5 rfl .i64 .i64 n (by omega) (by omega)
    have R0 := rd_start s n w
    have HE : Hid (s.size % 2 = 0) := he
    clear hn he
    go_enter Try.func43, Try.ntmps43
    go_wp2
    clear hmk
    go_loopw [] (fun wr => ∃ pos : Nat, pos ≤ s.size ∧ Rd s n w wr pos) (fun wr => s.size - wr.iterPos (w.heap.size + 1))
    case atStart => exact ⟨0, Nat.zero_le _, R0⟩
    case round =>
      obtain ⟨pos, hp, hR⟩ := hrel
      clear R0
      by_cases hlt : pos < s.size
      · by_cases hd : 0 ≤ D s pos
        · have hnx : ∀ ty, (Instr.next (.pointer (some ⟨w.heap.size + 1, 0, none⟩)) true ty).run Try.prog wr = _ := fun ty => run_next_ascii_at wr (w.heap.size + 1) s pos ty hR.it hlt (rune_good s pos hlt hd)
          go_wp2_with fail
          refine (digitOf_yes _ _ (by rw [← D_at s pos hlt]; exact hd)).mono ?_
          rintro e w1 ⟨rfl, e1⟩
          have E1 : Hid (D s pos = dg (s[pos]'hlt).toNat) := D_at s pos hlt
          have B1 := D_bd s pos
          have R1 := rd_step hR hd
          have hrow := row_iterAt (K := w.heap.size + 1) (s := s) (p := pos + 1) hR.row (by omega)
          have hidx : pos / 2 < n := by have := hsz.out; omega
          have hc := hrow.cell hidx
          have hf := hrow.frozen (pos / 2)
          have hcb := cont_at_bd s pos hR.good
          have P0 : wr.iterPos (w.heap.size + 1) = pos := by simp [World.iterPos, hR.it]
          have P1 : World.iterPos ((wr.iterAt (w.heap.size + 1) s (pos + 1)).setCell ⟨w.heap.size, pos / 2, none⟩ (.int .u8 (cont s pos (pos / 2) * 16 + D s pos))) (w.heap.size + 1) = pos + 1 := by simp [World.iterPos, R1.it]
          rw [E1.out] at R1 B1 hd P1
          generalize dg (s[pos]'hlt).toNat = d at *
          generalize cont s pos (pos / 2) = c at *
          have eor := u8_or4 c d hcb.1 hcb.2 hd B1.2
          have HP0 : Hid (wr.iterPos (w.heap.size + 1) = pos) := P0
          have HP1 : Hid (World.iterPos ((wr.iterAt (w.heap.size + 1) s (pos + 1)).setCell ⟨w.heap.size, pos / 2, none⟩ (.int .u8 (c * 16 + d))) (w.heap.size + 1) = pos + 1) := P1
          rw [← e1] at hc hf R1 HP1
          have hidx' : (pos : Int) / 2 < (n : Int) := by omega
          clear hrow hnx P0 P1 hR E1 e1
          go_wp2
          go_roundw
          case rel => exact ⟨pos + 1, by omega, R1⟩
          case measure => rw [HP0.out, HP1.out]; omega
        · have hbad : dg ((Utf8.decode s pos).1 : Int) < 0 := rune_bad s pos hlt (by omega)
          have hnx : ∀ ty, (Instr.next (.pointer (some ⟨w.heap.size + 1, 0, none⟩)) true ty).run Try.prog wr = _ := fun ty => run_next_any_at wr (w.heap.size + 1) s pos ty hR.it hlt
          go_wp2_with fail
          refine (digitOf_no _ _ hbad).mono ?_
          rintro e w1 ⟨rfl, e1⟩
          have HN : Hid (okS s = false ∧ outS s = []) := okS_bad pos hlt (by omega)
          have hb : Below w.heap.size w w1 := by rw [e1]; exact below_iterAt hR.bel (by omega)
          clear hnx e1 hR hbad
          go_wp2
          go_ret2
          exact ends_no HN.out (World.ownsRow_nil _ _ _ _) hb
      · have hnx : ∀ ty, (Instr.next (.pointer (some ⟨w.heap.size + 1, 0, none⟩)) true ty).run Try.prog wr = _ := fun ty => run_next_end_at wr (w.heap.size + 1) s pos ty hR.it hlt
        have HY : Hid (okS s = true ∧ outS s = bytesTo s (s.size / 2)) := okS_yes HE.out (fun j hj => hR.good j (by omega))
        have en : s.size / 2 = n := by have := hsz.out; omega
        have O : Own wr w.heap.size (.slice (some ⟨w.heap.size, 0, none⟩) n n) (bytesTo s (s.size / 2)) := by
          rw [en]
          refine Own.ofRow (hR.row.congr (fun i hi => ?_)) (bytesTo_length s n).symm (Nat.le_refl _) (by unfold maxLen; omega)
          have ep : pos = 2 * n := by have := hsz.out; omega
          rw [ep, cont_done s n i hi]
        have hb := hR.bel
        have HO : Hid (Own wr w.heap.size (.slice (some ⟨w.heap.size, 0, none⟩) n n) (bytesTo s (s.size / 2))) := O
        clear O en hR
        go_wp2
        go_ret2
        exact ends_yes HY.out HO.out hb
  · have HN : Hid (okS s = false ∧ outS s = []) := okS_odd he
    have he' : ((s.size : Int) % 2 != 0) = true := by simp; omega
    clear he
    go_enter Try.func43, Try.ntmps43
    go_wp2
    go_ret2
    exact ends_no HN.out (World.ownsRow_nil _ _ _ _) (Below.refl _ _)

end Go.Proofs.Ytmcednhinafpeaa

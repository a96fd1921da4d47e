/- The text of settings, of the model. -/
import Derived.Test.YtklnfeblkffgiaaDoorTx1
import Derived.Test.YtklnfeblkffgiaaDoorCf1
namespace Go.Proofs.YtklnfeblkffgiaaDoor
open Go.RowKit

set_option linter.unusedVariables false

set_option linter.unusedSimpArgs false

/-- Numbers, each behind a blank. -/
def nbT (ns : List Int) : List UInt8 := ns.flatMap (fun n => 32 :: Lib.itoa n)

/-- A line: its word, its numbers. -/
def lnT (word : List UInt8) (ns : List Int) : List UInt8 := word ++ nbT ns ++ [10]

def ruN (r : Ru) : List Int := [r.u, r.s, r.lo, r.hi, r.p, r.t, r.sh]

/-- The text of settings with the first n rules. -/
def cfT (wt tr : Int) (f : Nat → Ru) (n : Nat) : List UInt8 := (lnT [119, 97, 105, 116] [wt] ++ lnT [116, 114, 105, 101, 115] [tr]) ++ (List.range n).flatMap (fun i => lnT [114, 117, 108, 101] (ruN (f i)))

theorem cfT_succ (wt tr : Int) (f : Nat → Ru) (n : Nat) : cfT wt tr f (n + 1) = cfT wt tr f n ++ lnT [114, 117, 108, 101] (ruN (f n)) := by
  unfold cfT
  rw [List.range_succ, List.flatMap_append]
  simp

theorem cfT_zero (wt tr : Int) (f : Nat → Ru) : cfT wt tr f 0 = lnT [119, 97, 105, 116] [wt] ++ lnT [116, 114, 105, 101, 115] [tr] := by unfold cfT; simp

theorem nbT_len (ns : List Int) (h : ∀ n ∈ ns, -1000000 ≤ n ∧ n ≤ 1000000) : (nbT ns).length ≤ ns.length * 1000003 := by
  induction ns with
  | nil => simp [nbT]
  | cons x xs ih =>
    have h1 := itoa_len x (h x (by simp))
    have h2 := ih (fun n hn => h n (by simp [hn]))
    unfold nbT at *
    rw [List.flatMap_cons, List.length_append, List.length_cons, List.length_cons]
    rw [Nat.add_mul]
    omega

theorem nbT_snoc (ns : List Int) (x : Int) : nbT (ns ++ [x]) = nbT ns ++ (32 :: Lib.itoa x) := by unfold nbT; simp

/-- Rules whose numbers are small. -/
def SmR (f : Nat → Ru) (n : Nat) : Prop := ∀ k, k < n → ∀ x ∈ ruN (f k), -1000000 ≤ x ∧ x ≤ 1000000

theorem lnT_len (word : List UInt8) (ns : List Int) (h : ∀ n ∈ ns, -1000000 ≤ n ∧ n ≤ 1000000) (hw : word.length ≤ 10) (hn : ns.length ≤ 7) : (lnT word ns).length ≤ 7000100 := by
  unfold lnT
  rw [List.length_append, List.length_append, List.length_cons, List.length_nil]
  have h1 := nbT_len ns h
  have : ns.length * 1000003 ≤ 7 * 1000003 := Nat.mul_le_mul_right _ hn
  omega

theorem cfT_len {wt tr : Int} {f : Nat → Ru} {m : Nat} (h1 : -1000000 ≤ wt ∧ wt ≤ 1000000) (h2 : -1000000 ≤ tr ∧ tr ≤ 1000000) (hs : SmR f m) (hm : m ≤ 24) : ∀ n, n ≤ m → (cfT wt tr f n).length ≤ (n + 2) * 7000100
  | 0, _ => by
    rw [cfT_zero, List.length_append]
    have a1 := lnT_len [119, 97, 105, 116] [wt] (by intro n hn; simp at hn; subst hn; exact h1) (by simp) (by simp)
    have a2 := lnT_len [116, 114, 105, 101, 115] [tr] (by intro n hn; simp at hn; subst hn; exact h2) (by simp) (by simp)
    omega
  | n + 1, hn => by
    rw [cfT_succ, List.length_append]
    have a1 := cfT_len h1 h2 hs hm n (by omega)
    have a2 := lnT_len [114, 117, 108, 101] (ruN (f n)) (hs n (by omega)) (by simp) (by simp [ruN])
    have : (n + 1 + 2) * 7000100 = (n + 2) * 7000100 + 7000100 := by omega
    omega

theorem no_big {x y : ByteArray} (h : x.size + y.size ≤ 1000000000) : ¬ (9223372036854775807 < x.size + y.size) := by omega

theorem tx_mk (l : List UInt8) : ByteArray.mk l.toArray = tx l := rfl

set_option maxRecDepth 20000 in
set_option maxHeartbeats 2000000 in
theorem specText_good (wt tr : Int) (a : Option Addr) (n cap : Nat) (f : Nat → Ru) (w : World) (hs : SlU w a n f) (hn : n ≤ 24) (b : Bool) (hb : b = true ↔ OkRs f n) (hok : okC wt tr b = true) (h1 : -1000000 ≤ wt ∧ wt ≤ 1000000) (h2 : -1000000 ≤ tr ∧ tr ≤ 1000000) (hsm : SmR f n) :
    Calls Tryd.prog 13 #[.agg (cfc wt tr a n cap)] w fun e w' => e = .returned (.string (tx (cfT wt tr f n))) ∧ Below w.heap.size w w' := by
  obtain ⟨W, hW⟩ : ∃ W, W = w.alloc (.cells (cfc wt tr a n cap) 26) := ⟨_, rfl⟩
  have bW : Below w.heap.size w W := by rw [hW]; exact bel_alloc _ _
  obtain ⟨B, hB⟩ : ∃ B, B = w.heap.size := ⟨_, rfl⟩
  have HW : Hid (Blk W B 26 (cfc wt tr a n cap) ∧ Below w.heap.size w W) := ⟨by rw [hW, hB]; exact Blk.new w _ _, bW⟩
  have HS : Hid (SlU w a n f ∧ (b = true ↔ OkRs f n) ∧ okC wt tr b = true ∧ SmR f n ∧ w.heap.size = B) := ⟨hs, hb, hok, hsm, hB.symm⟩
  clear hs hb hok hsm bW
  go_enter Tryd.func13, Tryd.ntmps13
  go_upto_region 1 with fail
  rw [← hW, ← hB]
  clear hW hB
  obtain ⟨⟨y0, y1, y2⟩, _⟩ := HW.out.1.thr
  go_wp2_with fail
  refine (specConfigOk_any wt tr a n cap f _ (SlS.below HS.out.1 HW.out.2) (by omega) b HS.out.2.1).mono ?_
  rintro e w1 ⟨rfl, b1⟩
  rw [HS.out.2.2.1]
  have HW1 : Hid (Blk w1 B 26 (cfc wt tr a n cap) ∧ Below w.heap.size w w1) := ⟨HW.out.1.below b1, bel_next HW.out.2 b1⟩
  clear b1 HW y0 y1 y2
  obtain ⟨⟨y0, y1, y2⟩, _⟩ := HW1.out.1.thr
  have z1 := itoa_len wt h1
  have z2 := itoa_len tr h2
  obtain ⟨L1, hL1⟩ : ∃ L1, L1 = [119, 97, 105, 116, 32] ++ Lib.itoa wt := ⟨_, rfl⟩
  obtain ⟨L2, hL2⟩ : ∃ L2, L2 = L1 ++ [10, 116, 114, 105, 101, 115, 32] := ⟨_, rfl⟩
  obtain ⟨L3, hL3⟩ : ∃ L3, L3 = L2 ++ Lib.itoa tr := ⟨_, rfl⟩
  have g1 : ByteArray.mk #[119, 97, 105, 116, 32] ++ tx (Lib.itoa wt) = tx L1 := by rw [tx_mk, tx_append, hL1]
  have g2 : tx L1 ++ ByteArray.mk #[10, 116, 114, 105, 101, 115, 32] = tx L2 := by rw [tx_mk, tx_append, hL2]
  have g3 : tx L2 ++ tx (Lib.itoa tr) = tx L3 := by rw [tx_append, hL3]
  have g4 : tx L3 ++ ByteArray.mk #[10] = tx (cfT wt tr f 0) := by
    rw [tx_mk, tx_append, hL3, hL2, hL1, cfT_zero]
    congr 1
    simp [lnT, nbT]
  have q1 : L1.length ≤ 2000000 := by rw [hL1]; simp; omega
  have q2 : L2.length ≤ 3000000 := by rw [hL2]; simp; omega
  have q3 : L3.length ≤ 5000000 := by rw [hL3]; simp; omega
  have k1 : ¬ (9223372036854775807 < (ByteArray.mk #[119, 97, 105, 116, 32]).size + (tx (Lib.itoa wt)).size) := no_big (by rw [tx_size]; show 5 + _ ≤ _; omega)
  have k2 : ¬ (9223372036854775807 < (tx L1).size + (ByteArray.mk #[10, 116, 114, 105, 101, 115, 32]).size) := no_big (by rw [tx_size]; show _ + 7 ≤ _; omega)
  have k3 : ¬ (9223372036854775807 < (tx L2).size + (tx (Lib.itoa tr)).size) := no_big (by rw [tx_size, tx_size]; omega)
  have k4 : ¬ (9223372036854775807 < (tx L3).size + (ByteArray.mk #[10]).size) := no_big (by rw [tx_size]; show _ + 1 ≤ _; omega)
  clear hL1 hL2 hL3 q1 q2 q3 z1 z2
  go_upto_region 3 with fail
  go_cut [3] (fun sX wx => sX = .string (tx (cfT wt tr f 0)) ∧ Blk wx B 26 (cfc wt tr a n cap) ∧ Below w.heap.size w wx)
  case first =>
    go_region_with (go_at_call 30; refine (l11Text_any _ (by first | exact h1 | exact h2) _).mono ?_; rintro e w2 ⟨rfl, b2⟩; have HW2 := (show Blk w2 B 26 (cfc wt tr a n cap) ∧ Below w.heap.size w w2 from (by first | exact ⟨HW2.1.below (bel_next (Below.refl _ _) b2), bel_next HW2.2 (bel_next (Below.refl _ _) b2)⟩ | exact ⟨HW2.1.below (bel_next (Below.refl _ _).drew b2), bel_next HW2.2 (bel_next (Below.refl _ _).drew b2)⟩ | exact ⟨HW2.1.below (bel_next (Below.refl _ _).drew.drew b2), bel_next HW2.2 (bel_next (Below.refl _ _).drew.drew b2)⟩ | exact ⟨HW1.out.1.below (bel_next (Below.refl _ _) b2), bel_next HW1.out.2 (bel_next (Below.refl _ _) b2)⟩ | exact ⟨HW1.out.1.below (bel_next (Below.refl _ _).drew b2), bel_next HW1.out.2 (bel_next (Below.refl _ _).drew b2)⟩ | exact ⟨HW1.out.1.below (bel_next (Below.refl _ _).drew.drew b2), bel_next HW1.out.2 (bel_next (Below.refl _ _).drew.drew b2)⟩)); clear b2; obtain ⟨⟨y0', y1', y2'⟩, _⟩ := HW2.1.thr)
    all_goals (go_wp2_with fail; go_meet; exact ⟨rfl, HW2.1, HW2.2⟩)
  case rest =>
  obtain ⟨rfl, K3, b3⟩ := hcut
  rename World => w3
  have H3 : Hid (Blk w3 B 26 (cfc wt tr a n cap) ∧ Below w.heap.size w w3) := ⟨K3, b3⟩
  clear K3 b3 HW1 y0 y1 y2 k1 k2 k3 k4 g1 g2 g3 g4
  go_wp2
  go_loopw [3, 4] (fun s i wr => ∃ k : Nat, k ≤ n ∧ i = .int .i64 k ∧ s = .string (tx (cfT wt tr f k)) ∧ Blk wr B 26 (cfc wt tr a n cap) ∧ Below w.heap.size w wr) (fun _ i _ => n - (intOf i).toNat)
  case atStart => exact ⟨0, Nat.zero_le _, rfl, rfl, H3.out.1, H3.out.2⟩
  case round =>
    obtain ⟨k, hk, rfl, rfl, K, bk⟩ := hrel
    have HK : Hid (Blk wr B 26 (cfc wt tr a n cap) ∧ Below w.heap.size w wr) := ⟨K, bk⟩
    clear K bk H3
    obtain ⟨⟨y0, y1, y2⟩, _⟩ := HK.out.1.thr
    by_cases hlt : k < n
    · have hi : (k : Int) < (n : Int) := by omega
      obtain ⟨gb, off, rfl, hgb, c0, c1, c2, c3, c4, c5, c6⟩ := SlU.seven (SlS.below HS.out.1 HK.out.2) hlt
      obtain ⟨r, hr⟩ : ∃ r, r = f k := ⟨_, rfl⟩
      rw [← hr] at c0 c1 c2 c3 c4 c5 c6
      have HR : Hid (r = f k) := hr
      obtain ⟨L, hL⟩ : ∃ L, L = cfT wt tr f k := ⟨_, rfl⟩
      have HLL : Hid (L = cfT wt tr f k ∧ L.length ≤ 190000000) := ⟨hL, by
        rw [hL]
        have h9 := cfT_len h1 h2 HS.out.2.2.2.1 hn k hk
        have : (k + 2) * 7000100 ≤ 26 * 7000100 := Nat.mul_le_mul_right _ (by omega)
        omega⟩
      rw [← hL]
      clear hL hr
      obtain ⟨L1, hL1⟩ : ∃ L1, L1 = L ++ [114, 117, 108, 101] := ⟨_, rfl⟩
      have g1 : tx L ++ ByteArray.mk #[114, 117, 108, 101] = tx L1 := by rw [tx_mk, tx_append, hL1]
      have HL1 := hide hL1
      have k1 : ¬ (9223372036854775807 < (tx L).size + (ByteArray.mk #[114, 117, 108, 101]).size) := no_big (by rw [tx_size]; show _ + 4 ≤ _; have := HLL.out; omega)
      clear hL1
      obtain ⟨W4, hW4⟩ : ∃ W4, W4 = (wr.alloc (.cells (ruc r) 33)).alloc (.cells (ruc r) 3) := ⟨_, rfl⟩
      obtain ⟨G, hG⟩ : ∃ G, G = wr.heap.size + 1 := ⟨_, rfl⟩
      have HK4 : Hid (Blk W4 B 26 (cfc wt tr (some ⟨gb, off, none⟩) n cap) ∧ Below w.heap.size w W4 ∧ Blk W4 G 3 (ruc r)) := by
        refine ⟨by rw [hW4]; exact (HK.out.1.below (bel_alloc _ _)).below (bel_alloc _ _), by rw [hW4]; exact bel_next (bel_next HK.out.2 (bel_alloc _ _)) (bel_alloc _ _), ?_⟩
        rw [hW4, hG]
        have h9 := Blk.new (wr.alloc (.cells (ruc r) 33)) (ruc r) 3
        simpa using h9
      go_wp2
      rw [← hW4, ← hG]
      clear hW4 hG y0 y1 y2 c0 c1 c2 c3 c4 c5 c6 k1 g1 HK
      go_loopw [3, 7] (fun s j wr2 => ∃ m : Nat, m ≤ 7 ∧ j = .int .i64 m ∧ s = .string (tx (L1 ++ nbT ((ruN r).take m))) ∧ Blk wr2 B 26 (cfc wt tr (some ⟨gb, off, none⟩) n cap) ∧ Below w.heap.size w wr2 ∧ Blk wr2 G 3 (ruc r)) (fun _ j _ => 7 - (intOf j).toNat)
      case atStart => exact ⟨0, by omega, rfl, by rw [show (ruN r).take 0 = [] from rfl]; simp [nbT], HK4.out.1, HK4.out.2.1, HK4.out.2.2⟩
      case round =>
        obtain ⟨m, hm, rfl, rfl, K, bk, KG⟩ := hrel
        have HK : Hid (Blk wr B 26 (cfc wt tr (some ⟨gb, off, none⟩) n cap) ∧ Below w.heap.size w wr ∧ Blk wr G 3 (ruc r)) := ⟨K, bk, KG⟩
        clear K bk KG HK4
        obtain ⟨LL, hLL⟩ : ∃ LL, LL = L1 ++ nbT ((ruN r).take m) := ⟨_, rfl⟩
        have HLM : Hid (LL = L1 ++ nbT ((ruN r).take m) ∧ LL.length ≤ 198000000) := ⟨hLL, by
          rw [hLL, HL1.out, List.length_append, List.length_append]
          have h9 := nbT_len ((ruN r).take m) (fun x hx => HS.out.2.2.2.1 k hlt x (by rw [← HR.out]; exact List.mem_of_mem_take hx))
          have h8 : ((ruN r).take m).length ≤ 7 := by rw [List.length_take]; omega
          have : ((ruN r).take m).length * 1000003 ≤ 7 * 1000003 := Nat.mul_le_mul_right _ h8
          have := HLL.out.2
          simp only [List.length_cons, List.length_nil]
          omega⟩
        rw [← hLL]
        clear hLL
        by_cases h7 : m < 7
        · have hi7 : (m : Int) < 7 := by omega
          obtain ⟨x, hx⟩ : ∃ x, x = (ruN r).getD m 0 := ⟨_, rfl⟩
          have HX : Hid (x = (ruN r).getD m 0 ∧ -1000000 ≤ x ∧ x ≤ 1000000) := ⟨hx, by
            have h9 := HS.out.2.2.2.1 k hlt x (by
              rw [← HR.out, hx, List.getD_eq_getElem?_getD, List.getElem?_eq_getElem (by simpa [ruN] using h7)]
              simp)
            exact h9⟩
          have cx : wr.cell? ⟨G, m, none⟩ = some (.int .i64 x) := by
            refine HK.out.2.2.cell m ?_
            rw [hx]
            match m, h7 with
            | 0, _ => rfl
            | 1, _ => rfl
            | 2, _ => rfl
            | 3, _ => rfl
            | 4, _ => rfl
            | 5, _ => rfl
            | 6, _ => rfl
          clear hx
          obtain ⟨LM, hLM⟩ : ∃ LM, LM = LL ++ [32] := ⟨_, rfl⟩
          obtain ⟨LN, hLN⟩ : ∃ LN, LN = LM ++ Lib.itoa x := ⟨_, rfl⟩
          have HLN : Hid (LN = L1 ++ nbT ((ruN r).take (m + 1))) := by
            show _ = _
            rw [hLN, hLM, HLM.out.1]
            have e9 : (ruN r).take (m + 1) = (ruN r).take m ++ [x] := by
              rw [List.take_add_one, HX.out.1, List.getD_eq_getElem?_getD, List.getElem?_eq_getElem (by simpa [ruN] using h7)]
              simp
            rw [e9, nbT_snoc]
            simp
          have g1 : tx LL ++ ByteArray.mk #[32] = tx LM := by rw [tx_mk, tx_append, hLM]
          have g2 : tx LM ++ tx (Lib.itoa x) = tx LN := by rw [tx_append, hLN]
          have k1 : ¬ (9223372036854775807 < (tx LL).size + (ByteArray.mk #[32]).size) := no_big (by rw [tx_size]; show _ + 1 ≤ _; have := HLM.out; omega)
          have k2 : ¬ (9223372036854775807 < (tx LM).size + (tx (Lib.itoa x)).size) := no_big (by rw [tx_size, tx_size, hLM]; have := HLM.out; have := itoa_len x HX.out.2; simp; omega)
          clear hLM hLN
          go_wp2_with fail
          refine (l11Text_any x HX.out.2 _).mono ?_
          rintro e w5 ⟨rfl, b5⟩
          have HK5 : Hid (Blk w5 B 26 (cfc wt tr (some ⟨gb, off, none⟩) n cap) ∧ Below w.heap.size w w5 ∧ Blk w5 G 3 (ruc r)) := ⟨HK.out.1.below b5, bel_next HK.out.2.1 b5, HK.out.2.2.below b5⟩
          clear b5 HK cx
          go_wp2
          go_roundw
          case rel => exact ⟨m + 1, by omega, by go_num, by rw [HLN.out], HK5.out.1, HK5.out.2.1, HK5.out.2.2⟩
          case measure => simp [intOf]; omega
        · have hi7 : ¬ (m : Int) < 7 := by omega
          have g1 : tx LL ++ ByteArray.mk #[10] = tx (cfT wt tr f (k + 1)) := by
            rw [tx_mk, tx_append, HLM.out.1, HL1.out, HLL.out.1, cfT_succ, ← HR.out]
            have e9 : (ruN r).take m = ruN r := List.take_of_length_le (by simp [ruN]; omega)
            rw [e9]
            unfold lnT
            simp
          have k1 : ¬ (9223372036854775807 < (tx LL).size + (ByteArray.mk #[10]).size) := no_big (by rw [tx_size]; show _ + 1 ≤ _; have := HLM.out; omega)
          go_wp2
          go_roundw
          case rel => exact ⟨k + 1, by omega, by go_num, rfl, HK.out.1, HK.out.2.1⟩
          case measure => simp [intOf]; omega
    · have ek : n = k := by omega
      subst ek
      have hi : ¬ (n : Int) < (n : Int) := by omega
      go_wp2
      go_ret
      exact ⟨rfl, HK.out.2⟩

end Go.Proofs.YtklnfeblkffgiaaDoor

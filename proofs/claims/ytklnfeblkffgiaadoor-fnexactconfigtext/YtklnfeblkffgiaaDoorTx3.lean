/- The text of settings, of the program. -/
import Derived.Test.YtklnfeblkffgiaaDoorTx2
import Derived.Test.YtklnfeblkffgiaaDoorShf
import Derived.Lib.AppendIntMem
import Derived.WalkSmall
namespace Go.Proofs.YtklnfeblkffgiaaDoor
open Go.RowKit

set_option linter.unusedVariables false

set_option linter.unusedSimpArgs false

/-- The table of powers of ten lies as the library lays it. -/
def Pw (w : World) : Prop := Lib.TabIs Tryd.prog w "internal/strconv.uint64pow10" .u64 Lib.pow10Tab

theorem gPw : Tryd.prog.globalNamed "internal/strconv.uint64pow10" = some 0 := by kernel_rfl

theorem Pw.lt {w : World} (h : Pw w) : 0 < w.heap.size := World.block_lt_of_cell? _ _ (Lib.TabIs.cell h gPw 0 (by decide))

theorem Pw.below {w w' : World} (h : Pw w) (b : Below w.heap.size w w') : Pw w' := var?_below b gPw h.lt h

theorem itoa_any (n : Int) (h : -1000000 ≤ n ∧ n ≤ 1000000) (w : World) (ht : Pw w) :
    Calls Tryd.prog 41 #[.int .i64 n] w fun e w' => e = .returned (.string (tx (Lib.itoa n))) ∧ Below w.heap.size w w' := by
  refine (Tryd.strconv_Itoa n (by omega) (by omega) w ht).mono ?_
  rintro e w' ⟨rfl, k, os, rfl⟩
  exact ⟨rfl, Lib.below_grow _ _ (Nat.le_refl _) _ _⟩

set_option maxRecDepth 20000 in
set_option maxHeartbeats 1000000 in
theorem configLine_any (word : List UInt8) (bw : ByteArray) (hbw : bw = tx word) (hw : word.length ≤ 10) (ns : List Int) (a : Option Addr) (m cap : Nat) (w : World) (hm : m = ns.length) (hs : SlI w a ns) (hn : ns.length ≤ 7) (hb : ∀ n ∈ ns, -1000000 ≤ n ∧ n ≤ 1000000) (ht : Pw w) :
    Calls Tryd.prog 21 #[.string bw, .slice a m cap] w fun e w' => e = .returned (.string (tx (lnT word ns))) ∧ Below w.heap.size w w' := by
  subst hbw
  have HS : Hid (SlI w a ns ∧ m = ns.length ∧ (∀ n ∈ ns, -1000000 ≤ n ∧ n ≤ 1000000) ∧ Pw w ∧ ns.length ≤ 7) := ⟨hs, hm, hb, ht, hn⟩
  have hm7 : m ≤ 7 := by omega
  clear hs hm hb ht hn
  go_enter Tryd.func21, Tryd.ntmps21
  go_wp2
  go_loopw [5, 11] (fun s i wr => ∃ k : Nat, k ≤ m ∧ i = .int .i64 k ∧ s = .string (tx (word ++ nbT (ns.take k))) ∧ Below w.heap.size w wr) (fun _ i _ => m - (intOf i).toNat)
  case atStart => exact ⟨0, Nat.zero_le _, rfl, by simp [nbT], Below.refl _ _⟩
  case round =>
    obtain ⟨k, hk, rfl, rfl, bk⟩ := hrel
    have HK := hide bk
    clear bk
    obtain ⟨L, hL⟩ : ∃ L, L = word ++ nbT (ns.take k) := ⟨_, rfl⟩
    have HL : Hid (L = word ++ nbT (ns.take k) ∧ L.length ≤ 7100000) := ⟨hL, by
      rw [hL, List.length_append]
      have h9 := nbT_len (ns.take k) (fun x hx => HS.out.2.2.1 x (List.mem_of_mem_take hx))
      have h8 : (ns.take k).length ≤ 7 := by rw [List.length_take]; have := HS.out; omega
      have : (ns.take k).length * 1000003 ≤ 7 * 1000003 := Nat.mul_le_mul_right _ h8
      omega⟩
    rw [← hL]
    clear hL
    by_cases hlt : k < m
    · have hi : (k : Int) < (m : Int) := by omega
      obtain ⟨x, hx⟩ : ∃ x, x = ns.getD k 0 := ⟨_, rfl⟩
      have hkl : k < ns.length := by have := HS.out; omega
      have HX : Hid (x = ns.getD k 0 ∧ -1000000 ≤ x ∧ x ≤ 1000000) := ⟨hx, HS.out.2.2.1 x (by rw [hx, List.getD_eq_getElem?_getD, List.getElem?_eq_getElem hkl]; simp)⟩
      obtain ⟨gb, off, rfl, hgb, hc⟩ : ∃ b off, a = some ⟨b, off, none⟩ ∧ b < wr.heap.size ∧ wr.cell? ⟨b, off + k, none⟩ = some (.int .i64 x) := by
        rcases HS.out.1.below HK.out with h | ⟨b, off, ha, hlt', hcell⟩
        · rw [h] at hkl; simp at hkl
        · exact ⟨b, off, ha, hlt', by rw [hx]; exact hcell k hkl⟩
      clear hx
      obtain ⟨LM, hLM⟩ : ∃ LM, LM = 32 :: Lib.itoa x := ⟨_, rfl⟩
      obtain ⟨LN, hLN⟩ : ∃ LN, LN = L ++ LM := ⟨_, rfl⟩
      have HLN : Hid (LN = word ++ nbT (ns.take (k + 1))) := by
        show _ = _
        rw [hLN, hLM, HL.out.1]
        have e9 : ns.take (k + 1) = ns.take k ++ [x] := by
          rw [List.take_add_one, HX.out.1, List.getD_eq_getElem?_getD, List.getElem?_eq_getElem hkl]
          simp
        rw [e9, nbT_snoc]
        simp
      have g1 : ByteArray.mk #[32] ++ tx (Lib.itoa x) = tx LM := by rw [tx_mk, tx_append, hLM]; rfl
      have g2 : tx L ++ tx LM = tx LN := by rw [tx_append, hLN]
      have k1 : ¬ (9223372036854775807 < (ByteArray.mk #[32]).size + (tx (Lib.itoa x)).size) := no_big (by rw [tx_size]; show 1 + _ ≤ _; have := itoa_len x HX.out.2; omega)
      have k2 : ¬ (9223372036854775807 < (tx L).size + (tx LM).size) := no_big (by rw [tx_size, tx_size, hLM]; have := HL.out; have := itoa_len x HX.out.2; simp; omega)
      clear hLM hLN hkl
      go_wp2_with fail
      refine (itoa_any x HX.out.2 _ (HS.out.2.2.2.1.below HK.out)).mono ?_
      rintro e w5 ⟨rfl, b5⟩
      have HK5 := hide (bel_next HK.out b5)
      clear b5 HK hc
      go_wp2
      go_roundw
      case rel => exact ⟨k + 1, by omega, by go_num, by rw [HLN.out], HK5.out⟩
      case measure => simp [intOf]; omega
    · have hi : ¬ (k : Int) < (m : Int) := by omega
      have g1 : tx L ++ ByteArray.mk #[10] = tx (lnT word ns) := by
        rw [tx_mk, tx_append, HL.out.1]
        have e9 : ns.take k = ns := List.take_of_length_le (by have := HS.out; omega)
        rw [e9]
        rfl
      have k1 : ¬ (9223372036854775807 < (tx L).size + (ByteArray.mk #[10]).size) := no_big (by rw [tx_size]; show _ + 1 ≤ _; have := HL.out; omega)
      go_wp2
      go_ret
      exact ⟨rfl, HK.out⟩

end Go.Proofs.YtklnfeblkffgiaaDoor

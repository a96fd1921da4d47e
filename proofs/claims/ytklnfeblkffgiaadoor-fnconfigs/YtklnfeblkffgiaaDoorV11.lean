/- Texts that the proof needs, joined: Shf Tx3 Pc0 Pc1 Shg Pc2 Shh Pc3 Pc4 Pc6 Pc7. -/
import Derived.Shelf.Strconv.Itoa0
import Derived.Shelf.Strconv.Itoa1
import Derived.Shelf.LaysM
import Derived.Shelf.Strconv.Itoa2
import Derived.Shelf.Strconv.Itoa3
import Derived.Test.YtklnfeblkffgiaaDoorProg
import Derived.Test.YtklnfeblkffgiaaDoorV10
import Derived.Lib.AppendIntMem
import Derived.WalkSmall
import Derived.Lib.Split
import Derived.Lib.IndexBytes
import Derived.Lib.Atoi
import Derived.Shelf.Strconv.Atoi
import Derived.Shelf.Strconv.AtoiErrFast
import Derived.Shelf.Strconv.ParseIntEmpty
import Derived.Shelf.Strconv.AtoiFail
import Derived.Shelf.Strconv.Clone
import Derived.Shelf.Strconv.SyntaxError
import Derived.Shelf.LaysC
import Derived.Shelf.Strconv.ToError
import Derived.Shelf.Strconv.Lower
import Derived.Shelf.Strconv.ParseUint10
import Derived.Shelf.Strconv.ParseUint10Empty
import Derived.Shelf.Strconv.ParseUint10Any
import Derived.Shelf.Strconv.ParseInt10
import Derived.Shelf.Strconv.AtoiLong
import Derived.Shelf.Strconv.AtoiInnerAll
import Derived.Shelf.Strconv.RangeError
import Derived.Shelf.Strconv.ToErrorRange
import Derived.Shelf.Strconv.AtoiAll
import Derived.Shelf.Strconv.ErrVarAll
import Derived.Shelf.Strings.Search1
import Derived.Lib.AtoiErrMem
import Derived.Shelf.Strings.Search2
import Derived.Shelf.Strings.Search3
import Derived.Shelf.Strings.Cut
import Derived.Shelf.Strings.Count
import Derived.Shelf.Strings.Shaped
import Derived.Shelf.Strings.Split
import Derived.Shelf.Strings.SplitShaped
import Derived.Deep.RegionHeld3
namespace Go.Proofs
open Go.Shelf
def Tryd.laysM171_ren : Go.Shelf.Ren := ⟨fun | 171 => 41 | 243 => 56 | 246 => 68 | 283 => 76 | 284 => 77 | 285 => 78 | 286 => 79 | 129 => 89 | 317 => 88 | 318 => 90 | 319 => 91 | 320 => 92 | 337 => 107 | 338 => 108 | n => n, fun | 3 => 3 | 9 => 9 | 2 => 2 | 4 => 4 | 171 => 99 | 0 => 0 | 53 => 100 | 37 => 22 | 5 => 5 | 173 => 103 | 212 => 111 | 51 => 112 | 20 => 20 | 213 => 113 | 46 => 88 | 232 => 136 | 233 => 137 | n => n, fun | 17 => 0 | 18 => 4 | 19 => 5 | n => n⟩
theorem Tryd.laysM171 : Go.Proofs.LaysM.n171 Tryd.prog Tryd.laysM171_ren := {
  mixed := by kernel_rfl
  f129 := Tryd.func89.trans (congrArg some (by kernel_rfl))
  f171 := Tryd.func41.trans (congrArg some (by kernel_rfl))
  f243 := Tryd.func56.trans (congrArg some (by kernel_rfl))
  f246 := Tryd.func68.trans (congrArg some (by kernel_rfl))
  f283 := Tryd.func76.trans (congrArg some (by kernel_rfl))
  f284 := Tryd.func77.trans (congrArg some (by kernel_rfl))
  f285 := Tryd.func78.trans (congrArg some (by kernel_rfl))
  f286 := Tryd.func79.trans (congrArg some (by kernel_rfl))
  f317 := Tryd.func88.trans (congrArg some (by kernel_rfl))
  f318 := Tryd.func90.trans (congrArg some (by kernel_rfl))
  f319 := Tryd.func91.trans (congrArg some (by kernel_rfl))
  f320 := Tryd.func92.trans (congrArg some (by kernel_rfl))
  f337 := Tryd.func107.trans (congrArg some (by kernel_rfl))
  f338 := Tryd.func108.trans (congrArg some (by kernel_rfl))
  t0 := Tryd.underlying0
  a0 := Tryd.isAgg0
  z0 := Tryd.sizeOf0
  v0 := Tryd.zeroValue0
  t2 := Tryd.underlying2
  a2 := Tryd.isAgg2
  z2 := Tryd.sizeOf2
  v2 := Tryd.zeroValue2
  t3 := Tryd.underlying3
  a3 := Tryd.isAgg3
  z3 := Tryd.sizeOf3
  v3 := Tryd.zeroValue3
  t4 := Tryd.underlying4
  a4 := Tryd.isAgg4
  z4 := Tryd.sizeOf4
  v4 := Tryd.zeroValue4
  t5 := Tryd.underlying5
  a5 := Tryd.isAgg5
  z5 := Tryd.sizeOf5
  v5 := Tryd.zeroValue5
  t9 := Tryd.underlying9
  a9 := Tryd.isAgg9
  z9 := Tryd.sizeOf9
  v9 := Tryd.zeroValue9
  t20 := Tryd.underlying20
  a20 := Tryd.isAgg20
  z20 := Tryd.sizeOf20
  v20 := Tryd.zeroValue20
  t37 := Tryd.underlying22
  a37 := Tryd.isAgg22
  z37 := Tryd.sizeOf22
  v37 := Tryd.zeroValue22
  t46 := Tryd.underlying88
  a46 := Tryd.isAgg88
  z46 := Tryd.sizeOf88
  v46 := Tryd.zeroValue88
  t51 := Tryd.underlying112
  a51 := Tryd.isAgg112
  z51 := Tryd.sizeOf112
  v51 := Tryd.zeroValue112
  t53 := Tryd.underlying100
  a53 := Tryd.isAgg100
  z53 := Tryd.sizeOf100
  v53 := Tryd.zeroValue100
  t171 := Tryd.underlying99
  a171 := Tryd.isAgg99
  z171 := Tryd.sizeOf99
  v171 := Tryd.zeroValue99
  t173 := Tryd.underlying103
  a173 := Tryd.isAgg103
  z173 := Tryd.sizeOf103
  v173 := Tryd.zeroValue103
  t212 := Tryd.underlying111
  a212 := Tryd.isAgg111
  z212 := Tryd.sizeOf111
  v212 := Tryd.zeroValue111
  t213 := Tryd.underlying113
  a213 := Tryd.isAgg113
  z213 := Tryd.sizeOf113
  t232 := Tryd.underlying136
  a232 := Tryd.isAgg136
  z232 := Tryd.sizeOf136
  v232 := Tryd.zeroValue136
  t233 := Tryd.underlying137
  a233 := Tryd.isAgg137
  z233 := Tryd.sizeOf137
  v233 := Tryd.zeroValue137
  g17 := by kernel_rfl
  g18 := by kernel_rfl
  g19 := by kernel_rfl
  i0 := by kernel_rfl
  i2 := by kernel_rfl
  i3 := by kernel_rfl
  i4 := by kernel_rfl
  i5 := by kernel_rfl
  i9 := by kernel_rfl
  i20 := by kernel_rfl
  i37 := by kernel_rfl
  i46 := by kernel_rfl
  i51 := by kernel_rfl
  i53 := by kernel_rfl
  i171 := by kernel_rfl
  i173 := by kernel_rfl
  i212 := by kernel_rfl
  i232 := by kernel_rfl
  i233 := by kernel_rfl
  m17 := by kernel_rfl
  m18 := by kernel_rfl
  m19 := by kernel_rfl }
open Go.RowKit Go.Sort Go.Lib in
theorem Tryd.strconv_Itoa (n : Int) (h0 : -9223372036854775808 ≤ n) (h1 : n ≤ 9223372036854775807) (w : World) (htab : Lib.TabIs Tryd.prog w "internal/strconv.uint64pow10" .u64 Lib.pow10Tab) :
    Calls Tryd.prog 41 #[.int .i64 n] w fun e w' => e = .returned (.string ⟨(Lib.itoa n).toArray⟩) ∧ ∃ k os, w' = grow (w.drewN k) os := Any.strconv_Itoa Tryd.laysM171 n h0 h1 w htab
end Go.Proofs
namespace Go.Proofs.YtklnfeblkffgiaaDoor
open Go.RowKit
set_option linter.unusedVariables false
set_option linter.unusedSimpArgs false
def Pw (w : World) : Prop := Lib.TabIs Tryd.prog w "internal/strconv.uint64pow10" .u64 Lib.pow10Tab
theorem gPw : Tryd.prog.globalNamed "internal/strconv.uint64pow10" = some 0 := by kernel_rfl
theorem Pw.lt {w : World} (h : Pw w) : 0 < w.heap.size := World.block_lt_of_cell? _ _ (Lib.TabIs.cell h gPw 0 (by decide))
theorem Pw.below {w w' : World} (h : Pw w) (b : Below w.heap.size w w') : Pw w' := var?_below b gPw h.lt h
theorem itoa_any (n : Int) (h : -1000000 ≤ n ∧ n ≤ 1000000) (w : World) (ht : Pw w) :
    Calls Tryd.prog 41 #[.int .i64 n] w fun e w' => e = .returned (.string (tx (Lib.itoa n))) ∧ Below w.heap.size w w' := by
  refine (Tryd.strconv_Itoa n (by omega) (by omega) w ht).mono ?_
  rintro e w' ⟨rfl, k, os, rfl⟩
  exact ⟨rfl, Lib.below_grow _ _ (Nat.le_refl _) _ _⟩
set_option maxRecDepth 20000 in
set_option maxHeartbeats 1000000 in
theorem configLine_any (word : List UInt8) (bw : ByteArray) (hbw : bw = tx word) (hw : word.length ≤ 10) (ns : List Int) (a : Option Addr) (m cap : Nat) (w : World) (hm : m = ns.length) (hs : SlI w a ns) (hn : ns.length ≤ 7) (hb : ∀ n ∈ ns, -1000000 ≤ n ∧ n ≤ 1000000) (ht : Pw w) :
    Calls Tryd.prog 21 #[.string bw, .slice a m cap] w fun e w' => e = .returned (.string (tx (lnT word ns))) ∧ Below w.heap.size w w' := by
  subst hbw
  have HS : Hid (SlI w a ns ∧ m = ns.length ∧ (∀ n ∈ ns, -1000000 ≤ n ∧ n ≤ 1000000) ∧ Pw w ∧ ns.length ≤ 7) := ⟨hs, hm, hb, ht, hn⟩
  have hm7 : m ≤ 7 := by omega
  clear hs hm hb ht hn
  go_enter Tryd.func21, Tryd.ntmps21
  go_wp2
  go_loopw [5, 11] (fun s i wr => ∃ k : Nat, k ≤ m ∧ i = .int .i64 k ∧ s = .string (tx (word ++ nbT (ns.take k))) ∧ Below w.heap.size w wr) (fun _ i _ => m - (intOf i).toNat)
  case atStart => exact ⟨0, Nat.zero_le _, rfl, by simp [nbT], Below.refl _ _⟩
  case round =>
    obtain ⟨k, hk, rfl, rfl, bk⟩ := hrel
    have HK := hide bk
    clear bk
    obtain ⟨L, hL⟩ : ∃ L, L = word ++ nbT (ns.take k) := ⟨_, rfl⟩
    have HL : Hid (L = word ++ nbT (ns.take k) ∧ L.length ≤ 7100000) := ⟨hL, by
      rw [hL, List.length_append]
      have h9 := nbT_len (ns.take k) (fun x hx => HS.out.2.2.1 x (List.mem_of_mem_take hx))
      have h8 : (ns.take k).length ≤ 7 := by rw [List.length_take]; have := HS.out; omega
      have : (ns.take k).length * 1000003 ≤ 7 * 1000003 := Nat.mul_le_mul_right _ h8
      omega⟩
    rw [← hL]
    clear hL
    by_cases hlt : k < m
    · have hi : (k : Int) < (m : Int) := by omega
      obtain ⟨x, hx⟩ : ∃ x, x = ns.getD k 0 := ⟨_, rfl⟩
      have hkl : k < ns.length := by have := HS.out; omega
      have HX : Hid (x = ns.getD k 0 ∧ -1000000 ≤ x ∧ x ≤ 1000000) := ⟨hx, HS.out.2.2.1 x (by rw [hx, List.getD_eq_getElem?_getD, List.getElem?_eq_getElem hkl]; simp)⟩
      obtain ⟨gb, off, rfl, hgb, hc⟩ : ∃ b off, a = some ⟨b, off, none⟩ ∧ b < wr.heap.size ∧ wr.cell? ⟨b, off + k, none⟩ = some (.int .i64 x) := by
        rcases HS.out.1.below HK.out with h | ⟨b, off, ha, hlt', hcell⟩
        · rw [h] at hkl; simp at hkl
        · exact ⟨b, off, ha, hlt', by rw [hx]; exact hcell k hkl⟩
      clear hx
      obtain ⟨LM, hLM⟩ : ∃ LM, LM = 32 :: Lib.itoa x := ⟨_, rfl⟩
      obtain ⟨LN, hLN⟩ : ∃ LN, LN = L ++ LM := ⟨_, rfl⟩
      have HLN : Hid (LN = word ++ nbT (ns.take (k + 1))) := by
        show _ = _
        rw [hLN, hLM, HL.out.1]
        have e9 : ns.take (k + 1) = ns.take k ++ [x] := by
          rw [List.take_add_one, HX.out.1, List.getD_eq_getElem?_getD, List.getElem?_eq_getElem hkl]
          simp
        rw [e9, nbT_snoc]
        simp
      have g1 : ByteArray.mk #[32] ++ tx (Lib.itoa x) = tx LM := by rw [tx_mk, tx_append, hLM]; rfl
      have g2 : tx L ++ tx LM = tx LN := by rw [tx_append, hLN]
      have k1 : ¬ (9223372036854775807 < (ByteArray.mk #[32]).size + (tx (Lib.itoa x)).size) := no_big (by rw [tx_size]; show 1 + _ ≤ _; have := itoa_len x HX.out.2; omega)
      have k2 : ¬ (9223372036854775807 < (tx L).size + (tx LM).size) := no_big (by rw [tx_size, tx_size, hLM]; have := HL.out; have := itoa_len x HX.out.2; simp; omega)
      clear hLM hLN hkl
      go_wp2_with fail
      refine (itoa_any x HX.out.2 _ (HS.out.2.2.2.1.below HK.out)).mono ?_
      rintro e w5 ⟨rfl, b5⟩
      have HK5 := hide (bel_next HK.out b5)
      clear b5 HK hc
      go_wp2
      go_roundw
      case rel => exact ⟨k + 1, by omega, by go_num, by rw [HLN.out], HK5.out⟩
      case measure => simp [intOf]; omega
    · have hi : ¬ (k : Int) < (m : Int) := by omega
      have g1 : tx L ++ ByteArray.mk #[10] = tx (lnT word ns) := by
        rw [tx_mk, tx_append, HL.out.1]
        have e9 : ns.take k = ns := List.take_of_length_le (by have := HS.out; omega)
        rw [e9]
        rfl
      have k1 : ¬ (9223372036854775807 < (tx L).size + (ByteArray.mk #[10]).size) := no_big (by rw [tx_size]; show _ + 1 ≤ _; have := HL.out; omega)
      go_wp2
      go_ret
      exact ⟨rfl, HK.out⟩
end Go.Proofs.YtklnfeblkffgiaaDoor
namespace Go.Proofs.YtklnfeblkffgiaaDoor
open Go.RowKit
set_option linter.unusedVariables false
set_option linter.unusedSimpArgs false
theorem giveUp_any (w : World) : Calls Tryd.prog 48 #[] w fun e w' => (∃ pv, e = .panicked [{ v := .iface 9 pv, recovered := false }]) ∧ Below w.heap.size w w' := by
  go_enter Tryd.func48, Tryd.ntmps48
  go_wp2
  exact ⟨rfl, ⟨_, rfl⟩, Below.refl _ _⟩
end Go.Proofs.YtklnfeblkffgiaaDoor
namespace Go.Proofs.YtklnfeblkffgiaaDoor
open Go.RowKit
set_option linter.unusedVariables false
set_option linter.unusedSimpArgs false
theorem ib_miss (c : UInt8) : ∀ l : List UInt8, c ∉ l → Lib.indexByte l c = -1
  | [], _ => rfl
  | b :: l, h => by
    have h1 : ¬ b = c := fun e => h (by rw [e]; simp)
    have h2 := ib_miss c l (fun e => h (by simp [e]))
    unfold Lib.indexByte
    rw [if_neg (by simpa using h1), h2]
    rfl
theorem ib_hit (c : UInt8) (r : List UInt8) : ∀ l : List UInt8, c ∉ l → Lib.indexByte (l ++ c :: r) c = (l.length : Int)
  | [], _ => by simp [Lib.indexByte]
  | b :: l, h => by
    have h1 : ¬ b = c := fun e => h (by rw [e]; simp)
    have h2 := ib_hit c r l (fun e => h (by simp [e]))
    rw [List.cons_append]
    unfold Lib.indexByte
    rw [if_neg (by simpa using h1), h2, if_neg (by simp)]
    simp
theorem cut_hit (l r : List UInt8) (h : (10 : UInt8) ∉ l) : Lib.cut (l ++ 10 :: r) [10] = (l, r, true) := by
  unfold Lib.cut
  rw [Lib.index_one, ib_hit 10 r l h, if_pos (by omega)]
  simp
theorem cut_miss (l : List UInt8) (h : (10 : UInt8) ∉ l) : Lib.cut l [10] = (l, [], false) := by
  unfold Lib.cut
  rw [Lib.index_one, ib_miss 10 l h, if_neg (by omega)]
theorem splitK_words : ∀ (ps : List (List UInt8)) (p : List UInt8) (k : Nat), (32 : UInt8) ∉ p → (∀ q ∈ ps, (32 : UInt8) ∉ q) → ps.length ≤ k → Lib.splitK [32] 0 k (p ++ ps.flatMap (fun q => 32 :: q)) = p :: ps
  | [], p, k, hp, _, _ => by
    simp only [List.flatMap_nil, List.append_nil]
    cases k with
    | zero => rfl
    | succ k =>
      unfold Lib.splitK
      rw [Lib.index_one, ib_miss 32 p hp]
      rfl
  | q :: qs, p, 0, _, _, hk => by simp at hk
  | q :: qs, p, k + 1, hp, hq, hk => by
    have ih := splitK_words qs q k (hq q (by simp)) (fun x hx => hq x (by simp [hx])) (by simpa using hk)
    rw [List.flatMap_cons, List.cons_append]
    unfold Lib.splitK
    rw [Lib.index_one, ib_hit 32 _ p hp, if_neg (by simp)]
    have e1 : ((p.length : Int)).toNat = p.length := Int.toNat_natCast _
    rw [e1]
    have e2 : (p ++ 32 :: (q ++ List.flatMap (fun q => 32 :: q) qs)).take (p.length + 0) = p := by simp
    have e3 : (p ++ 32 :: (q ++ List.flatMap (fun q => 32 :: q) qs)).drop (p.length + [(32 : UInt8)].length) = q ++ List.flatMap (fun q => 32 :: q) qs := by simp
    rw [e2, e3, ih]
theorem tx_data (l : List UInt8) : (tx l).data.toList = l := by simp [tx]
theorem tx_of (x : ByteArray) : tx x.data.toList = x := by
  apply ByteArray.ext
  simp [tx]
theorem splitB_words (ps : List (List UInt8)) (p : List UInt8) (k : Nat) (hp : (32 : UInt8) ∉ p) (hq : ∀ q ∈ ps, (32 : UInt8) ∉ q) (hk : ps.length ≤ k) : Lib.splitB (ByteArray.mk #[32]) 0 k (tx (p ++ ps.flatMap (fun q => 32 :: q))) = (p :: ps).map tx := by
  have h := Lib.splitB_data (ByteArray.mk #[32]) 0 k (tx (p ++ ps.flatMap (fun q => 32 :: q)))
  rw [tx_data] at h
  have h2 : Lib.splitK (ByteArray.mk #[32]).data.toList 0 k (p ++ ps.flatMap (fun q => 32 :: q)) = p :: ps := splitK_words ps p k hp hq hk
  rw [h2] at h
  rw [← h, List.map_map]
  conv => lhs; rw [← List.map_id (Lib.splitB (ByteArray.mk #[32]) 0 k (tx (p ++ ps.flatMap (fun q => 32 :: q))))]
  apply List.map_congr_left
  intro x _
  exact (tx_of x).symm
theorem dec_bytes (u : Nat) : ∀ b ∈ Lib.decDigits u, 48 ≤ b.toNat ∧ b.toNat ≤ 57 := by
  induction u using Nat.strongRecOn with
  | _ u ih =>
    intro b hb
    rw [Lib.decDigits] at hb
    split at hb
    · simp only [List.mem_singleton] at hb
      subst hb
      rw [UInt8.toNat_ofNat_of_lt' (by show 48 + u < 256; omega)]
      omega
    · rcases List.mem_append.1 hb with h | h
      · exact ih (u / 10) (by omega) b h
      · simp only [List.mem_singleton] at h
        subst h
        rw [UInt8.toNat_ofNat_of_lt' (by show 48 + u % 10 < 256; omega)]
        omega
theorem itoa_bytes (n : Int) : ∀ b ∈ Lib.itoa n, b = 45 ∨ (48 ≤ b.toNat ∧ b.toNat ≤ 57) := by
  intro b hb
  unfold Lib.itoa at hb
  split at hb
  · rcases List.mem_cons.1 hb with h | h
    · exact .inl h
    · exact .inr (dec_bytes _ b h)
  · exact .inr (dec_bytes _ b hb)
theorem itoa_no (n : Int) : (32 : UInt8) ∉ Lib.itoa n ∧ (10 : UInt8) ∉ Lib.itoa n := by
  constructor
  · intro h
    rcases itoa_bytes n _ h with h | h
    · exact absurd h (by decide)
    · exact absurd h (by decide)
  · intro h
    rcases itoa_bytes n _ h with h | h
    · exact absurd h (by decide)
    · exact absurd h (by decide)
theorem decFrom_app : ∀ (l m : List UInt8) (acc : Nat), Lib.decFrom acc (l ++ m) = (Lib.decFrom acc l).bind (fun a => Lib.decFrom a m)
  | [], m, acc => rfl
  | b :: l, m, acc => by
    rw [List.cons_append]
    have e1 : ∀ t, Lib.decFrom acc (b :: t) = match Lib.digitVal b with | some d => Lib.decFrom (acc * 10 + d) t | none => none := fun t => rfl
    rw [e1, e1]
    cases Lib.digitVal b with
    | none => rfl
    | some d => exact decFrom_app l m (acc * 10 + d)
theorem digitVal_of (d : Nat) (h : d < 10) : Lib.digitVal (UInt8.ofNat (48 + d)) = some d := by
  unfold Lib.digitVal
  rw [UInt8.toNat_ofNat_of_lt' (by show 48 + d < 256; omega), if_pos (by omega)]
  simp
theorem decFrom_dec (u : Nat) : Lib.decFrom 0 (Lib.decDigits u) = some u := by
  induction u using Nat.strongRecOn with
  | _ u ih =>
    rw [Lib.decDigits]
    split
    · rename_i h
      unfold Lib.decFrom
      rw [digitVal_of u h]
      simp [Lib.decFrom]
    · rename_i h
      rw [decFrom_app, ih (u / 10) (by omega)]
      simp only [Option.bind_some]
      unfold Lib.decFrom
      rw [digitVal_of (u % 10) (by omega)]
      simp only [Lib.decFrom]
      congr 1
      omega
theorem dec_cons (u : Nat) : ∃ b r, Lib.decDigits u = b :: r := by
  cases h : Lib.decDigits u with
  | nil =>
    rw [Lib.decDigits] at h
    split at h
    · simp at h
    · simp at h
  | cons b r => exact ⟨b, r, rfl⟩
theorem decNat_dec (u : Nat) : Lib.decNat (Lib.decDigits u) = some u := by
  obtain ⟨b, r, h⟩ := dec_cons u
  unfold Lib.decNat
  rw [h]
  simp only [List.isEmpty_cons, Bool.false_eq_true, if_false]
  rw [← h]
  exact decFrom_dec u
theorem atoi_itoa (n : Int) : Lib.atoi (Lib.itoa n) = some n := by
  unfold Lib.itoa
  split
  · rename_i h
    unfold Lib.atoi
    simp only [beq_self_eq_true, if_true]
    rw [decNat_dec]
    simp only [Option.map_some]
    congr 1
    omega
  · rename_i h
    obtain ⟨b, r, hd⟩ := dec_cons n.toNat
    have hb := dec_bytes n.toNat b (by rw [hd]; simp)
    rw [hd]
    have e1 : Lib.atoi (b :: r) = if b == 45 then (Lib.decNat r).map (fun (m : Nat) => -(m : Int)) else if b == 43 then (Lib.decNat r).map (fun (m : Nat) => (m : Int)) else (Lib.decNat (b :: r)).map (fun (m : Nat) => (m : Int)) := rfl
    rw [e1]
    have h1 : ¬ (b == 45) = true := by
      intro e
      have := beq_iff_eq.1 e
      rw [this] at hb
      exact absurd hb (by decide)
    have h2 : ¬ (b == 43) = true := by
      intro e
      have := beq_iff_eq.1 e
      rw [this] at hb
      exact absurd hb (by decide)
    rw [if_neg h1, if_neg h2, ← hd, decNat_dec]
    simp only [Option.map_some]
    congr 1
    omega
end Go.Proofs.YtklnfeblkffgiaaDoor
namespace Go.Proofs
open Go.Shelf
def Tryd.lays172_ren : Go.Shelf.Ren := ⟨fun | 172 => 75 | 244 => 86 | 245 => 87 | 247 => 102 | 279 => 103 | 280 => 104 | 281 => 105 | 282 => 106 | 287 => 113 | 316 => 114 | 171 => 41 | 205 => 115 | 321 => 117 | 322 => 118 | 243 => 56 | 246 => 68 | 283 => 76 | 284 => 77 | 285 => 78 | 286 => 79 | 129 => 89 | 317 => 88 | 318 => 90 | 319 => 91 | 320 => 92 | 337 => 107 | 338 => 108 | n => n, fun | 9 => 9 | 3 => 3 | 75 => 96 | 76 => 97 | 4 => 4 | 5 => 5 | 167 => 121 | 37 => 22 | 0 => 0 | 85 => 122 | 2 => 2 | 168 => 124 | 53 => 100 | 175 => 130 | 46 => 88 | 210 => 134 | 127 => 143 | 145 => 146 | 143 => 144 | 21 => 21 | 171 => 99 | 173 => 103 | 212 => 111 | 51 => 112 | 20 => 20 | 213 => 113 | 232 => 136 | 233 => 137 | 80 => 147 | n => n, fun | 15 => 2 | 16 => 3 | 17 => 0 | 18 => 4 | 19 => 5 | n => n⟩
theorem Tryd.lays172 : Go.Proofs.Lays.n172 Tryd.prog Tryd.lays172_ren := {
  mixed := by kernel_rfl
  f129 := Tryd.func89.trans (congrArg some (by kernel_rfl))
  f171 := Tryd.func41.trans (congrArg some (by kernel_rfl))
  f172 := Tryd.func75.trans (congrArg some (by kernel_rfl))
  f205 := Tryd.func115.trans (congrArg some (by kernel_rfl))
  f243 := Tryd.func56.trans (congrArg some (by kernel_rfl))
  f244 := Tryd.func86.trans (congrArg some (by kernel_rfl))
  f245 := Tryd.func87.trans (congrArg some (by kernel_rfl))
  f246 := Tryd.func68.trans (congrArg some (by kernel_rfl))
  f247 := Tryd.func102.trans (congrArg some (by kernel_rfl))
  f279 := Tryd.func103.trans (congrArg some (by kernel_rfl))
  f280 := Tryd.func104.trans (congrArg some (by kernel_rfl))
  f281 := Tryd.func105.trans (congrArg some (by kernel_rfl))
  f282 := Tryd.func106.trans (congrArg some (by kernel_rfl))
  f283 := Tryd.func76.trans (congrArg some (by kernel_rfl))
  f284 := Tryd.func77.trans (congrArg some (by kernel_rfl))
  f285 := Tryd.func78.trans (congrArg some (by kernel_rfl))
  f286 := Tryd.func79.trans (congrArg some (by kernel_rfl))
  f287 := Tryd.func113.trans (congrArg some (by kernel_rfl))
  f316 := Tryd.func114.trans (congrArg some (by kernel_rfl))
  f317 := Tryd.func88.trans (congrArg some (by kernel_rfl))
  f318 := Tryd.func90.trans (congrArg some (by kernel_rfl))
  f319 := Tryd.func91.trans (congrArg some (by kernel_rfl))
  f320 := Tryd.func92.trans (congrArg some (by kernel_rfl))
  f321 := Tryd.func117.trans (congrArg some (by kernel_rfl))
  f322 := Tryd.func118.trans (congrArg some (by kernel_rfl))
  f337 := Tryd.func107.trans (congrArg some (by kernel_rfl))
  f338 := Tryd.func108.trans (congrArg some (by kernel_rfl))
  t0 := Tryd.underlying0
  a0 := Tryd.isAgg0
  z0 := Tryd.sizeOf0
  v0 := Tryd.zeroValue0
  t2 := Tryd.underlying2
  a2 := Tryd.isAgg2
  z2 := Tryd.sizeOf2
  v2 := Tryd.zeroValue2
  t3 := Tryd.underlying3
  a3 := Tryd.isAgg3
  z3 := Tryd.sizeOf3
  v3 := Tryd.zeroValue3
  t4 := Tryd.underlying4
  a4 := Tryd.isAgg4
  z4 := Tryd.sizeOf4
  v4 := Tryd.zeroValue4
  t5 := Tryd.underlying5
  a5 := Tryd.isAgg5
  z5 := Tryd.sizeOf5
  v5 := Tryd.zeroValue5
  t9 := Tryd.underlying9
  a9 := Tryd.isAgg9
  z9 := Tryd.sizeOf9
  v9 := Tryd.zeroValue9
  t20 := Tryd.underlying20
  a20 := Tryd.isAgg20
  z20 := Tryd.sizeOf20
  v20 := Tryd.zeroValue20
  t21 := Tryd.underlying21
  a21 := Tryd.isAgg21
  z21 := Tryd.sizeOf21
  v21 := Tryd.zeroValue21
  t37 := Tryd.underlying22
  a37 := Tryd.isAgg22
  z37 := Tryd.sizeOf22
  v37 := Tryd.zeroValue22
  t46 := Tryd.underlying88
  a46 := Tryd.isAgg88
  z46 := Tryd.sizeOf88
  v46 := Tryd.zeroValue88
  t51 := Tryd.underlying112
  a51 := Tryd.isAgg112
  z51 := Tryd.sizeOf112
  v51 := Tryd.zeroValue112
  t53 := Tryd.underlying100
  a53 := Tryd.isAgg100
  z53 := Tryd.sizeOf100
  v53 := Tryd.zeroValue100
  t75 := Tryd.underlying96
  a75 := Tryd.isAgg96
  z75 := Tryd.sizeOf96
  v75 := Tryd.zeroValue96
  t76 := Tryd.underlying97
  a76 := Tryd.isAgg97
  z76 := Tryd.sizeOf97
  v76 := Tryd.zeroValue97
  t85 := Tryd.underlying122
  a85 := Tryd.isAgg122
  z85 := Tryd.sizeOf122
  v85 := Tryd.zeroValue122
  t127 := Tryd.underlying143
  a127 := Tryd.isAgg143
  z127 := Tryd.sizeOf143
  v127 := Tryd.zeroValue143
  t143 := Tryd.underlying144
  a143 := Tryd.isAgg144
  z143 := Tryd.sizeOf144
  v143 := Tryd.zeroValue144
  t145 := Tryd.underlying146
  a145 := Tryd.isAgg146
  z145 := Tryd.sizeOf146
  v145 := Tryd.zeroValue146
  t167 := Tryd.underlying121
  a167 := Tryd.isAgg121
  z167 := Tryd.sizeOf121
  v167 := Tryd.zeroValue121
  t168 := Tryd.underlying124
  a168 := Tryd.isAgg124
  z168 := Tryd.sizeOf124
  v168 := Tryd.zeroValue124
  t171 := Tryd.underlying99
  a171 := Tryd.isAgg99
  z171 := Tryd.sizeOf99
  v171 := Tryd.zeroValue99
  t173 := Tryd.underlying103
  a173 := Tryd.isAgg103
  z173 := Tryd.sizeOf103
  v173 := Tryd.zeroValue103
  t175 := Tryd.underlying130
  a175 := Tryd.isAgg130
  z175 := Tryd.sizeOf130
  v175 := Tryd.zeroValue130
  t210 := Tryd.underlying134
  a210 := Tryd.isAgg134
  z210 := Tryd.sizeOf134
  v210 := Tryd.zeroValue134
  t212 := Tryd.underlying111
  a212 := Tryd.isAgg111
  z212 := Tryd.sizeOf111
  v212 := Tryd.zeroValue111
  t213 := Tryd.underlying113
  a213 := Tryd.isAgg113
  z213 := Tryd.sizeOf113
  t232 := Tryd.underlying136
  a232 := Tryd.isAgg136
  z232 := Tryd.sizeOf136
  v232 := Tryd.zeroValue136
  t233 := Tryd.underlying137
  a233 := Tryd.isAgg137
  z233 := Tryd.sizeOf137
  v233 := Tryd.zeroValue137
  g15 := by kernel_rfl
  g16 := by kernel_rfl
  g17 := by kernel_rfl
  g18 := by kernel_rfl
  g19 := by kernel_rfl }
open Go.RowKit in
theorem Tryd.strconv_Atoi (s : ByteArray) (n : Int) (hl : s.size ≤ 18) (h : Lib.atoi s.data.toList = some n) (w : World) :
    Calls Tryd.prog 75 #[.string s] w fun e w' => e = .returned (.tuple #[.int .i64 n, .nilIface]) ∧ ∃ t, w' = Lib.bytesWorld w 5 t := Any.strconv_Atoi Tryd.lays172 s n hl h w
end Go.Proofs
namespace Go.Proofs.YtklnfeblkffgiaaDoor
open Go.RowKit
set_option linter.unusedVariables false
set_option linter.unusedSimpArgs false
theorem dec_seven (u : Nat) (h : u ≤ 999999) : (Lib.decDigits u).length ≤ 6 := by
  rw [Lib.decDigits_length]
  unfold Lib.nDigits
  split
  · omega
  · unfold Lib.nDigits
    split
    · omega
    · unfold Lib.nDigits
      split
      · omega
      · unfold Lib.nDigits
        split
        · omega
        · unfold Lib.nDigits
          split
          · omega
          · unfold Lib.nDigits
            split
            · omega
            · omega
theorem itoa_seven (n : Int) (h : -999999 ≤ n ∧ n ≤ 999999) : (Lib.itoa n).length ≤ 7 := by
  unfold Lib.itoa
  split
  · have := dec_seven n.natAbs (by omega)
    simp only [List.length_cons]
    omega
  · have := dec_seven n.toNat (by omega)
    omega
theorem atoi_any (n : Int) (h : -999999 ≤ n ∧ n ≤ 999999) (w : World) :
    Calls Tryd.prog 75 #[.string (tx (Lib.itoa n))] w fun e w' => e = .returned (.tuple #[.int .i64 n, .nilIface]) ∧ Below w.heap.size w w' := by
  refine (Tryd.strconv_Atoi (tx (Lib.itoa n)) n (by rw [tx_size]; have := itoa_seven n h; omega) (by rw [tx_data]; exact atoi_itoa n) w).mono ?_
  rintro e w' ⟨rfl, t, rfl⟩
  exact ⟨rfl, Lib.bytesWorld_below _ _ _⟩
set_option maxRecDepth 20000 in
set_option maxHeartbeats 1000000 in
theorem numberIn_good (n least : Int) (h : -999999 ≤ n ∧ n ≤ 999999) (hl : least ≤ n) (w : World) (ht : Pw w) :
    Calls Tryd.prog 67 #[.string (tx (Lib.itoa n)), .int .i64 least] w fun e w' => e = .returned (.int .i64 n) ∧ Below w.heap.size w w' := by
  have h1 : ¬ n < least := by omega
  have h2 : ¬ (999999 : Int) < n := by omega
  have e1 : ((tx (Lib.itoa n)).toList == (tx (Lib.itoa n)).toList) = true := by simp
  have HT := hide ht
  clear ht
  go_enter Tryd.func67, Tryd.ntmps67
  go_wp2_with fail
  refine (atoi_any n h _).mono ?_
  rintro e w1 ⟨rfl, b1⟩
  have HT1 := hide (HT.out.below b1)
  have B1 := hide b1
  clear b1
  go_wp2_with fail
  refine (itoa_any n (by omega) _ HT1.out).mono ?_
  rintro e w2 ⟨rfl, b2⟩
  have B2 := hide (bel_next B1.out b2)
  clear b2
  go_wp2
  go_ret
  exact ⟨rfl, B2.out⟩
end Go.Proofs.YtklnfeblkffgiaaDoor
namespace Go.Proofs
open Go.Shelf
def Tryd.lays145_ren : Go.Shelf.Ren := ⟨fun | 145 => 65 | 220 => 73 | 219 => 82 | 217 => 95 | 225 => 96 | 224 => 97 | 267 => 98 | 266 => 110 | 314 => 111 | n => n, fun | 9 => 9 | 4 => 4 | 59 => 84 | 3 => 3 | 5 => 5 | 46 => 88 | 146 => 128 | 51 => 112 | n => n, fun | 1 => 1 | n => n⟩
theorem Tryd.lays145 : Go.Proofs.Lays.n145 Tryd.prog Tryd.lays145_ren := {
  mixed := by kernel_rfl
  f145 := Tryd.func65.trans (congrArg some (by kernel_rfl))
  f217 := Tryd.func95.trans (congrArg some (by kernel_rfl))
  f219 := Tryd.func82.trans (congrArg some (by kernel_rfl))
  f220 := Tryd.func73.trans (congrArg some (by kernel_rfl))
  f224 := Tryd.func97.trans (congrArg some (by kernel_rfl))
  f225 := Tryd.func96.trans (congrArg some (by kernel_rfl))
  f266 := Tryd.func110.trans (congrArg some (by kernel_rfl))
  f267 := Tryd.func98.trans (congrArg some (by kernel_rfl))
  f314 := Tryd.func111.trans (congrArg some (by kernel_rfl))
  t3 := Tryd.underlying3
  a3 := Tryd.isAgg3
  z3 := Tryd.sizeOf3
  v3 := Tryd.zeroValue3
  t4 := Tryd.underlying4
  a4 := Tryd.isAgg4
  z4 := Tryd.sizeOf4
  v4 := Tryd.zeroValue4
  t5 := Tryd.underlying5
  a5 := Tryd.isAgg5
  z5 := Tryd.sizeOf5
  v5 := Tryd.zeroValue5
  t9 := Tryd.underlying9
  a9 := Tryd.isAgg9
  z9 := Tryd.sizeOf9
  v9 := Tryd.zeroValue9
  t46 := Tryd.underlying88
  a46 := Tryd.isAgg88
  z46 := Tryd.sizeOf88
  v46 := Tryd.zeroValue88
  t51 := Tryd.underlying112
  a51 := Tryd.isAgg112
  z51 := Tryd.sizeOf112
  v51 := Tryd.zeroValue112
  t59 := Tryd.underlying84
  a59 := Tryd.isAgg84
  z59 := Tryd.sizeOf84
  v59 := Tryd.zeroValue84
  t146 := Tryd.underlying128
  a146 := Tryd.isAgg128
  z146 := Tryd.sizeOf128
  v146 := Tryd.zeroValue128
  g1 := by kernel_rfl }
open Go.RowKit Go.Lib in
theorem Tryd.strings_Cut (s sep : ByteArray) (m : Int) (w : World) (hs : s.size < 4294967281) (hm : w.cell? ⟨1, 0, none⟩ = some (.int .i64 m)) :
    Calls Tryd.prog 65 #[.string s, .string sep] w fun e w' => e = .returned (.tuple #[.string ⟨(Lib.cut s.data.toList sep.data.toList).1.toArray⟩, .string ⟨(Lib.cut s.data.toList sep.data.toList).2.1.toArray⟩, .bool (Lib.cut s.data.toList sep.data.toList).2.2]) ∧ ∃ n, w' = w.drewN n := Any.strings_Cut Tryd.lays145 s sep m w hs hm
def Tryd.laysM145_ren : Go.Shelf.Ren := ⟨fun | 145 => 65 | 220 => 73 | 219 => 82 | 217 => 95 | 225 => 96 | 224 => 97 | 267 => 98 | 266 => 110 | 314 => 111 | n => n, fun | 9 => 9 | 4 => 4 | 59 => 84 | 3 => 3 | 5 => 5 | 46 => 88 | 146 => 128 | 51 => 112 | n => n, fun | 1 => 1 | n => n⟩
theorem Tryd.laysM145 : Go.Proofs.LaysM.n145 Tryd.prog Tryd.laysM145_ren := {
  mixed := by kernel_rfl
  f145 := Tryd.func65.trans (congrArg some (by kernel_rfl))
  f217 := Tryd.func95.trans (congrArg some (by kernel_rfl))
  f219 := Tryd.func82.trans (congrArg some (by kernel_rfl))
  f220 := Tryd.func73.trans (congrArg some (by kernel_rfl))
  f224 := Tryd.func97.trans (congrArg some (by kernel_rfl))
  f225 := Tryd.func96.trans (congrArg some (by kernel_rfl))
  f266 := Tryd.func110.trans (congrArg some (by kernel_rfl))
  f267 := Tryd.func98.trans (congrArg some (by kernel_rfl))
  f314 := Tryd.func111.trans (congrArg some (by kernel_rfl))
  t3 := Tryd.underlying3
  a3 := Tryd.isAgg3
  z3 := Tryd.sizeOf3
  v3 := Tryd.zeroValue3
  t4 := Tryd.underlying4
  a4 := Tryd.isAgg4
  z4 := Tryd.sizeOf4
  v4 := Tryd.zeroValue4
  t5 := Tryd.underlying5
  a5 := Tryd.isAgg5
  z5 := Tryd.sizeOf5
  v5 := Tryd.zeroValue5
  t9 := Tryd.underlying9
  a9 := Tryd.isAgg9
  z9 := Tryd.sizeOf9
  v9 := Tryd.zeroValue9
  t46 := Tryd.underlying88
  a46 := Tryd.isAgg88
  z46 := Tryd.sizeOf88
  v46 := Tryd.zeroValue88
  t51 := Tryd.underlying112
  a51 := Tryd.isAgg112
  z51 := Tryd.sizeOf112
  v51 := Tryd.zeroValue112
  t59 := Tryd.underlying84
  a59 := Tryd.isAgg84
  z59 := Tryd.sizeOf84
  v59 := Tryd.zeroValue84
  t146 := Tryd.underlying128
  a146 := Tryd.isAgg128
  z146 := Tryd.sizeOf128
  v146 := Tryd.zeroValue128
  g1 := by kernel_rfl
  i3 := by kernel_rfl
  i4 := by kernel_rfl
  i5 := by kernel_rfl
  i9 := by kernel_rfl
  i46 := by kernel_rfl
  i51 := by kernel_rfl
  i59 := by kernel_rfl
  i146 := by kernel_rfl
  m1 := by kernel_rfl
  s1_3 := fun w h => Go.Proofs.cell_of_shapedOpen_int (zero := #[.int .i64 0]) (t := 3) h (of_decide_eq_true (by kernel_rfl)) (by kernel_rfl) rfl (by kernel_rfl) (by kernel_rfl) Tryd.underlying3 }
open Go.RowKit Go.Lib in
theorem Tryd.strings_Cut_shaped (s sep : ByteArray) (w : World) (h : w.ShapedOpen Tryd.prog) (hs : s.size < 4294967281) :
    Calls Tryd.prog 65 #[.string s, .string sep] w fun e w' => e = .returned (.tuple #[.string ⟨(Lib.cut s.data.toList sep.data.toList).1.toArray⟩, .string ⟨(Lib.cut s.data.toList sep.data.toList).2.1.toArray⟩, .bool (Lib.cut s.data.toList sep.data.toList).2.2]) ∧ ∃ n, w' = w.drewN n := Any.strings_Cut_shaped Tryd.laysM145 s sep w h hs
def Tryd.lays147_ren : Go.Shelf.Ren := ⟨fun | 147 => 66 | 221 => 74 | 268 => 83 | 138 => 84 | 143 => 85 | 195 => 99 | 197 => 100 | 218 => 101 | 219 => 82 | 260 => 112 | 217 => 95 | 225 => 96 | 224 => 97 | 267 => 98 | 266 => 110 | 314 => 111 | n => n, fun | 9 => 9 | 3 => 3 | 31 => 58 | 4 => 4 | 0 => 0 | 105 => 119 | 21 => 21 | 5 => 5 | 46 => 88 | 119 => 138 | 139 => 141 | 138 => 140 | 146 => 128 | 51 => 112 | n => n, fun | 1 => 1 | 3 => 6 | 4 => 7 | n => n⟩
theorem Tryd.lays147 : Go.Proofs.Lays.n147 Tryd.prog Tryd.lays147_ren := {
  mixed := by kernel_rfl
  f138 := Tryd.func84.trans (congrArg some (by kernel_rfl))
  f143 := Tryd.func85.trans (congrArg some (by kernel_rfl))
  f147 := Tryd.func66.trans (congrArg some (by kernel_rfl))
  f195 := Tryd.func99.trans (congrArg some (by kernel_rfl))
  f197 := Tryd.func100.trans (congrArg some (by kernel_rfl))
  f217 := Tryd.func95.trans (congrArg some (by kernel_rfl))
  f218 := Tryd.func101.trans (congrArg some (by kernel_rfl))
  f219 := Tryd.func82.trans (congrArg some (by kernel_rfl))
  f221 := Tryd.func74.trans (congrArg some (by kernel_rfl))
  f224 := Tryd.func97.trans (congrArg some (by kernel_rfl))
  f225 := Tryd.func96.trans (congrArg some (by kernel_rfl))
  f260 := Tryd.func112.trans (congrArg some (by kernel_rfl))
  f266 := Tryd.func110.trans (congrArg some (by kernel_rfl))
  f267 := Tryd.func98.trans (congrArg some (by kernel_rfl))
  f268 := Tryd.func83.trans (congrArg some (by kernel_rfl))
  f314 := Tryd.func111.trans (congrArg some (by kernel_rfl))
  t0 := Tryd.underlying0
  a0 := Tryd.isAgg0
  z0 := Tryd.sizeOf0
  v0 := Tryd.zeroValue0
  t3 := Tryd.underlying3
  a3 := Tryd.isAgg3
  z3 := Tryd.sizeOf3
  v3 := Tryd.zeroValue3
  t4 := Tryd.underlying4
  a4 := Tryd.isAgg4
  z4 := Tryd.sizeOf4
  v4 := Tryd.zeroValue4
  t5 := Tryd.underlying5
  a5 := Tryd.isAgg5
  z5 := Tryd.sizeOf5
  v5 := Tryd.zeroValue5
  t9 := Tryd.underlying9
  a9 := Tryd.isAgg9
  z9 := Tryd.sizeOf9
  v9 := Tryd.zeroValue9
  t21 := Tryd.underlying21
  a21 := Tryd.isAgg21
  z21 := Tryd.sizeOf21
  v21 := Tryd.zeroValue21
  t31 := Tryd.underlying58
  a31 := Tryd.isAgg58
  z31 := Tryd.sizeOf58
  v31 := Tryd.zeroValue58
  t46 := Tryd.underlying88
  a46 := Tryd.isAgg88
  z46 := Tryd.sizeOf88
  v46 := Tryd.zeroValue88
  t51 := Tryd.underlying112
  a51 := Tryd.isAgg112
  z51 := Tryd.sizeOf112
  v51 := Tryd.zeroValue112
  t105 := Tryd.underlying119
  a105 := Tryd.isAgg119
  z105 := Tryd.sizeOf119
  v105 := Tryd.zeroValue119
  t119 := Tryd.underlying138
  a119 := Tryd.isAgg138
  z119 := Tryd.sizeOf138
  t138 := Tryd.underlying140
  a138 := Tryd.isAgg140
  z138 := Tryd.sizeOf140
  v138 := Tryd.zeroValue140
  t139 := Tryd.underlying141
  a139 := Tryd.isAgg141
  z139 := Tryd.sizeOf141
  v139 := Tryd.zeroValue141
  t146 := Tryd.underlying128
  a146 := Tryd.isAgg128
  z146 := Tryd.sizeOf128
  v146 := Tryd.zeroValue128
  g1 := by kernel_rfl
  g3 := by kernel_rfl
  g4 := by kernel_rfl }
open Go.RowKit Go.Lib in
theorem Tryd.strings_SplitN (s sep : ByteArray) (n : Nat) (m : Int) (w : World) (hs : s.size < 4294967281) (hm : w.cell? ⟨1, 0, none⟩ = some (.int .i64 m)) (h1 : 1 ≤ sep.size) (hn : 1 ≤ n) (hn63 : n ≤ 9223372036854775807) :
    Calls Tryd.prog 66 #[.string s, .string sep, .int .i64 n] w fun e w' =>
      e = .returned (.slice (some ⟨w.heap.size, 0, none⟩) (Lib.splitB sep 0 (min n (s.size + 1) - 1) s).length (min n (s.size + 1))) ∧ w' = w.alloc (.cells (Lib.cellsOf (Lib.splitB sep 0 (min n (s.size + 1) - 1) s) (min n (s.size + 1))) 9) := Any.strings_SplitN Tryd.lays147 (by kernel_rfl) s sep n m w hs hm h1 hn hn63
end Go.Proofs
namespace Go.Proofs.YtklnfeblkffgiaaDoor
open Go.RowKit
set_option linter.unusedVariables false
set_option linter.unusedSimpArgs false
def En (w : World) : Prop := Pw w ∧ ∃ m, w.cell? ⟨1, 0, none⟩ = some (.int .i64 m)
theorem En.below {w w' : World} (h : En w) (b : Below w.heap.size w w') : En w' := by
  obtain ⟨h1, m, h2⟩ := h
  exact ⟨h1.below b, m, (b.cell (p := ⟨1, 0, none⟩) (World.block_lt_of_cell? _ _ h2)).trans h2⟩
theorem cut_any (s : List UInt8) (hs : s.length ≤ 1000000000) (w : World) (hE : En w) :
    Calls Tryd.prog 65 #[.string (tx s), .string (ByteArray.mk #[10])] w fun e w' => e = .returned (.tuple #[.string (tx (Lib.cut s [10]).1), .string (tx (Lib.cut s [10]).2.1), .bool (Lib.cut s [10]).2.2]) ∧ Below w.heap.size w w' := by
  obtain ⟨_, m, hm⟩ := hE
  refine (Tryd.strings_Cut (tx s) (ByteArray.mk #[10]) m w (by rw [tx_size]; omega) hm).mono ?_
  rintro e w' ⟨rfl, n, rfl⟩
  rw [tx_data]
  exact ⟨rfl, drew_refl w n⟩
theorem flat_long : ∀ ps : List (List UInt8), ps.length ≤ (ps.flatMap (fun q => 32 :: q)).length
  | [] => Nat.le_refl _
  | q :: qs => by
    have := flat_long qs
    rw [List.flatMap_cons, List.length_append, List.length_cons, List.length_cons]
    omega
theorem split_any (p : List UInt8) (ps : List (List UInt8)) (hp : (32 : UInt8) ∉ p) (hq : ∀ q ∈ ps, (32 : UInt8) ∉ q) (hs : (p ++ ps.flatMap (fun q => 32 :: q)).length ≤ 1000000000) (n : Int) (hn : n = (ps.length : Int) + 2) (h7 : ps.length ≤ 100) (w : World) (hE : En w) :
    Calls Tryd.prog 66 #[.string (tx (p ++ ps.flatMap (fun q => 32 :: q))), .string (ByteArray.mk #[32]), .int .i64 n] w fun e w' => ∃ c, e = .returned (.slice (some ⟨w.heap.size, 0, none⟩) (ps.length + 1) c) ∧ (∀ j, j < ps.length + 1 → w'.cell? ⟨w.heap.size, j, none⟩ = some (.string (tx ((p :: ps).getD j [])))) ∧ Below w.heap.size w w' := by
  obtain ⟨_, m, hm⟩ := hE
  have e1 : n = ((ps.length + 2 : Nat) : Int) := by omega
  subst e1
  refine (Tryd.strings_SplitN (tx (p ++ ps.flatMap (fun q => 32 :: q))) (ByteArray.mk #[32]) (ps.length + 2) m w (by rw [tx_size]; omega) hm (by show 1 ≤ 1; omega) (by omega) (by omega)).mono ?_
  rintro e w' ⟨rfl, rfl⟩
  have hl := flat_long ps
  have hk : ps.length ≤ min (ps.length + 2) ((tx (p ++ ps.flatMap (fun q => 32 :: q))).size + 1) - 1 := by
    rw [tx_size, List.length_append]; omega
  rw [splitB_words ps p _ hp hq hk]
  refine ⟨_, by rw [List.length_map, List.length_cons], fun j hj => ?_, bel_alloc _ _⟩
  have hj' : j < (p :: ps).length := by simpa using hj
  have hcell : (Lib.cellsOf ((p :: ps).map tx) (min (ps.length + 2) ((tx (p ++ ps.flatMap (fun q => 32 :: q))).size + 1)))[j]? = some (.string (tx ((p :: ps).getD j []))) := by
    unfold Lib.cellsOf
    rw [List.getElem?_toArray, List.getElem?_append_left (by simpa using hj), List.map_map, List.getElem?_map, List.getD_eq_getElem?_getD, List.getElem?_eq_getElem hj']
    rfl
  have hb := Blk.new w (Lib.cellsOf ((p :: ps).map tx) (min (ps.length + 2) ((tx (p ++ ps.flatMap (fun q => 32 :: q))).size + 1))) 9
  exact hb.cell j hcell
theorem nbT_flat (ns : List Int) : nbT ns = (ns.map Lib.itoa).flatMap (fun q => 32 :: q) := by
  unfold nbT
  rw [List.flatMap_map]
theorem no_ten (word : List UInt8) (hw : (10 : UInt8) ∉ word) (ns : List Int) : (10 : UInt8) ∉ word ++ nbT ns := by
  intro h
  rcases List.mem_append.1 h with h | h
  · exact hw h
  · unfold nbT at h
    obtain ⟨n, _, h2⟩ := List.mem_flatMap.1 h
    rcases List.mem_cons.1 h2 with h3 | h3
    · exact absurd h3 (by decide)
    · exact (itoa_no n).2 h3
theorem grown_setp {w u : World} {g j : Nat} {y : Value} (h : w.grownBy u (some g)) : w.grownBy (u.setCell ⟨g, j, none⟩ y) (some g) := by
  have h2 : u.grownBy (u.setCell ⟨g, j, none⟩ y) (some g) := ⟨rfl, rfl, rfl, by simp, fun k hk hne => by simp [World.setCell, Array.getElem?_modify]; intro e; exact absurd (by rw [e]) hne⟩
  exact ⟨h2.os.trans h.os, h2.tape.trans h.tape, h2.output.trans h.output, Nat.le_trans h.size h2.size, fun k hk hne => (h2.block k (Nat.lt_of_lt_of_le hk h.size) hne).trans (h.block k hk hne)⟩
set_option maxRecDepth 20000 in
set_option maxHeartbeats 2000000 in
theorem numbers_good (word : List UInt8) (bw : ByteArray) (hbw : bw = tx word) (hw1 : (32 : UInt8) ∉ word) (hw2 : (10 : UInt8) ∉ word) (ns ls : List Int) (m : Nat) (hm : m = ns.length) (hml : m = ls.length) (h7 : m ≤ 7) (hb : ∀ k, k < m → -999999 ≤ ns.getD k 0 ∧ ns.getD k 0 ≤ 999999 ∧ ls.getD k 0 ≤ ns.getD k 0) (rest : List UInt8) (rB k : Nat) (hk : k ≤ 1000) (la : Option Addr) (cap : Nat) (w : World) (hsl : SlI w la ls)
    (hR : Blk w rB 51 #[.string (tx (lnT word ns ++ rest)), .int .i64 (k : Int)]) (hsz : (lnT word ns ++ rest).length ≤ 1000000000) (hE : En w) :
    Calls Tryd.prog 46 #[.pointer (some ⟨rB, 0, none⟩), .string bw, .slice la m cap] w fun e w' => ∃ g, e = .returned (.slice (some ⟨g, 0, none⟩) m m) ∧ OwnI w' w.heap.size (.slice (some ⟨g, 0, none⟩) m m) ns ∧ Blk w' rB 51 #[.string (tx rest), .int .i64 ((k + 1 : Nat) : Int)] ∧ w.grownBy w' (some rB) := by
  subst hbw
  obtain ⟨T, hT⟩ : ∃ T, T = lnT word ns ++ rest := ⟨_, rfl⟩
  obtain ⟨L, hL⟩ : ∃ L, L = word ++ (ns.map Lib.itoa).flatMap (fun q => 32 :: q) := ⟨_, rfl⟩
  have hcut : Lib.cut T [10] = (L, rest, true) := by
    have e1 : T = (word ++ nbT ns) ++ 10 :: rest := by rw [hT]; unfold lnT; simp
    rw [e1, cut_hit _ _ (no_ten word hw2 ns), nbT_flat, ← hL]
  have HT : Hid (T.length ≤ 1000000000 ∧ L.length ≤ 1000000000) := by
    refine ⟨by rw [hT]; exact hsz, ?_⟩
    rw [hL, ← nbT_flat]
    unfold lnT at hsz
    simp only [List.length_append] at hsz ⊢
    omega
  have HP : Hid (∀ q ∈ ns.map Lib.itoa, (32 : UInt8) ∉ q) := fun q hq => by
    obtain ⟨n, _, rfl⟩ := List.mem_map.1 hq
    exact (itoa_no n).1
  have HS : Hid (SlI w la ls ∧ m = ns.length ∧ m = ls.length ∧ En w ∧ (32 : UInt8) ∉ word ∧ Blk w rB 51 #[.string (tx T), .int .i64 (k : Int)] ∧ (∀ k, k < m → -999999 ≤ ns.getD k 0 ∧ ns.getD k 0 ≤ 999999 ∧ ls.getD k 0 ≤ ns.getD k 0) ∧ L = word ++ (ns.map Lib.itoa).flatMap (fun q => 32 :: q)) := ⟨hsl, hm, hml, hE, hw1, by rw [hT]; exact hR, hb, hL⟩
  have HCU : Hid (∀ u, Below w.heap.size w u → Calls Tryd.prog 65 #[.string (tx T), .string (ByteArray.mk #[10])] u fun e w' => e = .returned (.tuple #[.string (tx L), .string (tx rest), .bool true]) ∧ Below u.heap.size u w') := by
    intro u hu
    have h9 := cut_any T HT.out.1 u (HS.out.2.2.2.1.below hu)
    rw [hcut] at h9
    exact h9
  have HSP : Hid (∀ (u : World) (n : Int), n = (m : Int) + 2 → Below w.heap.size w u → Calls Tryd.prog 66 #[.string (tx L), .string (ByteArray.mk #[32]), .int .i64 n] u fun e w' => ∃ c, e = .returned (.slice (some ⟨u.heap.size, 0, none⟩) (m + 1) c) ∧ (∀ j, j < m + 1 → w'.cell? ⟨u.heap.size, j, none⟩ = some (.string (tx ((word :: ns.map Lib.itoa).getD j [])))) ∧ Below u.heap.size u w') := by
    intro u n hn hu
    have h9 := split_any word (ns.map Lib.itoa) HS.out.2.2.2.2.1 HP.out (by rw [← hL]; exact HT.out.2) n (by rw [List.length_map, ← HS.out.2.1]; exact hn) (by rw [List.length_map, ← HS.out.2.1]; omega) u (HS.out.2.2.2.1.below hu)
    rw [← hL, List.length_map, ← HS.out.2.1] at h9
    exact h9
  obtain ⟨⟨y0, y1⟩, ⟨z0, z1⟩⟩ : (w.cell? ⟨rB, 0, none⟩ = some (.string (tx T)) ∧ w.cell? ⟨rB, 1, none⟩ = some (.int .i64 (k : Int))) ∧ w.frozen? ⟨rB, 0, none⟩ = false ∧ w.frozen? ⟨rB, 1, none⟩ = false := ⟨⟨HS.out.2.2.2.2.2.1.cell 0 rfl, HS.out.2.2.2.2.2.1.cell 1 rfl⟩, HS.out.2.2.2.2.2.1.fro 0, HS.out.2.2.2.2.2.1.fro 1⟩
  clear hw1 hw2 hm hml hb hsl hR hsz hE hT hL hcut
  go_enter Tryd.func46, Tryd.ntmps46
  go_wp2_with fail
  refine (HCU.out _ (Below.refl _ _)).mono ?_
  rintro e w1 ⟨rfl, b1⟩
  have B1 := hide b1
  clear b1 y0 y1 z0 z1 HCU
  have hw2' : IntKind.i64.wrap ((m : Int) + 2) = (m : Int) + 2 := by rw [IntKind.wrap_i64]; omega
  go_wp2_with fail
  refine (HSP.out _ _ rfl B1.out).mono ?_
  rintro e w2 ⟨c, rfl, hcs, b2⟩
  obtain ⟨gp, hgp⟩ : ∃ gp, gp = w1.heap.size := ⟨_, rfl⟩
  rw [← hgp] at hcs ⊢
  have B2 : Hid (Below w.heap.size w w2 ∧ (∀ j, j < m + 1 → w2.cell? ⟨gp, j, none⟩ = some (.string (tx ((word :: ns.map Lib.itoa).getD j []))))) := ⟨bel_next B1.out b2, hcs⟩
  clear hcs b2 B1 hgp HSP
  have i0 : w2.cell? ⟨gp, 0, none⟩ = some (.string (tx word)) := B2.out.2 0 (by omega)
  have e1 : ((tx word).toList == (tx word).toList) = true := by simp
  have hw3 : IntKind.i64.wrap ((m : Int) + 1) = (m : Int) + 1 := by rw [IntKind.wrap_i64]; omega
  have hmk := run_make_row' (P := Tryd.prog) 55 3 (.int .i64 0) 8 Tryd.underlying55 Tryd.infoI3 rfl .i64 .i64 m (by omega) (by omega)
  go_wp2
  obtain ⟨gr, hgr⟩ : ∃ gr, gr = w2.heap.size := ⟨_, rfl⟩
  rw [← hgr]
  have HG : Hid (gr = w2.heap.size) := hgr
  clear hmk i0
  go_loopw [51] (fun i wr => ∃ z : Nat, z ≤ m ∧ i = .int .i64 z ∧ wr.rowIs gr 3 m (fun i => if i < z then .int .i64 (ns.getD i 0) else .int .i64 0) ∧ Below w2.heap.size w2 wr) (fun i _ => m - (intOf i).toNat)
  case atStart => exact ⟨0, Nat.zero_le _, rfl, by rw [hgr]; exact (World.rowIs_made w2 _ _ _).congr (fun i _ => by simp), (Below.refl _ _).alloc (Nat.le_refl _) _⟩
  case round =>
    obtain ⟨z, hz, rfl, hrow, hbl⟩ := hrel
    have HRW : Hid (wr.rowIs gr 3 m (fun i => if i < z then .int .i64 (ns.getD i 0) else .int .i64 0) ∧ Below w2.heap.size w2 wr ∧ Below w.heap.size w wr) := ⟨hrow, hbl, bel_next B2.out.1 hbl⟩
    clear hrow hbl hgr
    by_cases hlt : z < m
    · have hi : (z : Int) < (m : Int) := by omega
      obtain ⟨n, hn⟩ : ∃ n, n = ns.getD z 0 := ⟨_, rfl⟩
      obtain ⟨l, hl⟩ : ∃ l, l = ls.getD z 0 := ⟨_, rfl⟩
      have HNL : Hid (n = ns.getD z 0 ∧ (-999999 ≤ n ∧ n ≤ 999999) ∧ l ≤ n) := ⟨hn, by rw [hn]; have := HS.out.2.2.2.2.2.2.1 z hlt; omega, by rw [hn, hl]; exact (HS.out.2.2.2.2.2.2.1 z hlt).2.2⟩
      obtain ⟨b, off, rfl, hc⟩ : ∃ b off, la = some ⟨b, off, none⟩ ∧ wr.cell? ⟨b, off + z, none⟩ = some (.int .i64 l) := by
        rcases HS.out.1.below HRW.out.2.2 with h | ⟨b, off, ha, _, hcell⟩
        · exfalso; have := HS.out.2.2.1; rw [h] at this; simp at this; omega
        · exact ⟨b, off, ha, by rw [hl]; exact hcell z (by have := HS.out.2.2.1; omega)⟩
      have hp : wr.cell? ⟨gp, z + 1, none⟩ = some (.string (tx (Lib.itoa n))) := by
        have h9 := B2.out.2 (z + 1) (by omega)
        have hlt2 := World.block_lt_of_cell? _ _ h9
        rw [HRW.out.2.1.cell (p := ⟨gp, z + 1, none⟩) hlt2, h9]
        have h8 : (word :: ns.map Lib.itoa).getD (z + 1) [] = Lib.itoa n := by
          rw [List.getD_cons_succ, List.getD_eq_getElem?_getD, List.getElem?_map, hn, List.getD_eq_getElem?_getD, List.getElem?_eq_getElem (by have := HS.out.2.1; omega)]
          rfl
        rw [h8]
      have hw4 : IntKind.i64.wrap ((z : Int) + 1) = ((z + 1 : Nat) : Int) := by rw [IntKind.wrap_i64]; omega
      have hi2 : ((z + 1 : Nat) : Int) < ((m + 1 : Nat) : Int) := by omega
      have hi3 : z + 1 < m + 1 := by omega
      clear hn hl
      go_wp2_with fail
      refine (numberIn_good n l HNL.out.2.1 HNL.out.2.2 _ (HS.out.2.2.2.1.below HRW.out.2.2).1).mono ?_
      rintro e w3 ⟨rfl, b3⟩
      have hgl : gr < wr.heap.size := by
        have h9 := HRW.out.1.cell hlt
        exact World.block_lt_of_cell? _ _ h9
      have R3 : w3.rowIs gr 3 m (fun i => if i < z then .int .i64 (ns.getD i 0) else .int .i64 0) := by
        obtain ⟨cs, c1, c2⟩ := HRW.out.1
        exact ⟨cs, by rw [b3.block gr hgl]; exact c1, c2⟩
      have hst := R3.cell hlt
      simp only [Nat.lt_irrefl, if_false] at hst
      have hfz := R3.frozen z
      have R4 : Hid ((w3.setCell ⟨gr, z, none⟩ (.int .i64 n)).rowIs gr 3 m (fun i => if i < z + 1 then .int .i64 (ns.getD i 0) else .int .i64 0)) := by
        refine (R3.set z _).congr (fun i _ => ?_)
        by_cases e : i = z
        · subst e; simp [HNL.out.1]
        · rw [if_neg e]
          by_cases h : i < z
          · rw [if_pos h, if_pos (by omega)]
          · rw [if_neg h, if_neg (by omega)]
      have B4 : Hid (Below w2.heap.size w2 (w3.setCell ⟨gr, z, none⟩ (.int .i64 n))) := (bel_next HRW.out.2.1 b3).setCell (p := ⟨gr, z, none⟩) (by show w2.heap.size ≤ gr; rw [HG.out]; exact Nat.le_refl _) _
      clear R3 b3 hc hp HRW
      go_wp2
      go_roundw
      case rel => exact ⟨z + 1, by omega, by go_num, R4.out, B4.out⟩
      case measure => simp [intOf]; omega
    · have hi : ¬ (z : Int) < (m : Int) := by omega
      have R : Hid (wr.rowIs gr 3 m (fun i => .int .i64 (ns.getD i 0))) := HRW.out.1.congr (fun i hi => by rw [if_pos (by omega)])
      have KR := HS.out.2.2.2.2.2.1.below HRW.out.2.2
      obtain ⟨⟨y0, y1⟩, ⟨z0, z1⟩⟩ : (wr.cell? ⟨rB, 0, none⟩ = some (.string (tx T)) ∧ wr.cell? ⟨rB, 1, none⟩ = some (.int .i64 (k : Int))) ∧ wr.frozen? ⟨rB, 0, none⟩ = false ∧ wr.frozen? ⟨rB, 1, none⟩ = false := ⟨⟨KR.cell 0 rfl, KR.cell 1 rfl⟩, KR.fro 0, KR.fro 1⟩
      have hw5 : IntKind.i64.wrap ((k : Int) + 1) = ((k + 1 : Nat) : Int) := by rw [IntKind.wrap_i64]; omega
      have HKR := hide KR
      have O : Hid (OwnI wr w.heap.size (.slice (some ⟨gr, 0, none⟩) m m) ns) := OwnI.ofRow R.out HS.out.2.1 (by rw [HG.out]; exact B2.out.1.size) (by unfold maxLen; omega)
      clear KR
      go_wp2
      go_ret
      refine ⟨gr, rfl, ?_, ?_, ?_⟩
      · exact row_setE (row_setE O.out ⟨_, HKR.out⟩ (by decide)) (ExB.set ⟨_, HKR.out⟩) (by decide)
      · have h9 := (HKR.out.set 0 (.string (tx rest))).set 1 (.int .i64 ((k + 1 : Nat) : Int))
        simpa using h9
      · exact grown_setp (grown_setp (grown_below HRW.out.2.2 (some rB)))
end Go.Proofs.YtklnfeblkffgiaaDoor
namespace Go.Proofs.YtklnfeblkffgiaaDoor
open Go.RowKit
set_option linter.unusedVariables false
set_option linter.unusedSimpArgs false
set_option maxRecDepth 20000 in
set_option maxHeartbeats 2000000 in
theorem numbers_short (word : List UInt8) (bw : ByteArray) (hbw : bw = tx word) (hw1 : (32 : UInt8) ∉ word) (hw2 : (10 : UInt8) ∉ word) (ns : List Int) (m : Nat) (hm : m = ns.length) (h7 : m ≤ 7) (rB k : Nat) (la : Option Addr) (cap : Nat) (w : World)
    (hR : Blk w rB 51 #[.string (tx (word ++ nbT ns)), .int .i64 (k : Int)]) (hsz : (word ++ nbT ns).length ≤ 1000000000) (hE : En w) :
    Calls Tryd.prog 46 #[.pointer (some ⟨rB, 0, none⟩), .string bw, .slice la m cap] w fun e w' => (∃ pv, e = .panicked [{ v := .iface 9 pv, recovered := false }]) ∧ Below w.heap.size w w' := by
  subst hbw
  obtain ⟨L, hL⟩ : ∃ L, L = word ++ (ns.map Lib.itoa).flatMap (fun q => 32 :: q) := ⟨_, rfl⟩
  have eL : word ++ nbT ns = L := by rw [nbT_flat, hL]
  rw [eL] at hR hsz
  have hcut : Lib.cut L [10] = (L, [], false) := by
    rw [← eL, cut_miss _ (no_ten word hw2 ns)]
  have HP : Hid (∀ q ∈ ns.map Lib.itoa, (32 : UInt8) ∉ q) := fun q hq => by
    obtain ⟨n, _, rfl⟩ := List.mem_map.1 hq
    exact (itoa_no n).1
  have HCU : Hid (Calls Tryd.prog 65 #[.string (tx L), .string (ByteArray.mk #[10])] w fun e w' => e = .returned (.tuple #[.string (tx L), .string (tx []), .bool false]) ∧ Below w.heap.size w w') := by
    have h9 := cut_any L hsz w hE
    rw [hcut] at h9
    exact h9
  have HSP : Hid (∀ (u : World) (n : Int), n = (m : Int) + 2 → Below w.heap.size w u → Calls Tryd.prog 66 #[.string (tx L), .string (ByteArray.mk #[32]), .int .i64 n] u fun e w' => ∃ c, e = .returned (.slice (some ⟨u.heap.size, 0, none⟩) (m + 1) c) ∧ Below u.heap.size u w') := by
    intro u n hn hu
    have h9 := split_any word (ns.map Lib.itoa) hw1 HP.out (by rw [← hL]; exact hsz) n (by rw [List.length_map, ← hm]; exact hn) (by rw [List.length_map, ← hm]; omega) u (hE.below hu)
    rw [← hL, List.length_map, ← hm] at h9
    exact h9.mono (fun e w' ⟨c, h1, _, h3⟩ => ⟨c, h1, h3⟩)
  have y0 : w.cell? ⟨rB, 0, none⟩ = some (.string (tx L)) := hR.cell 0 rfl
  clear hw1 hw2 hm hR hsz hE hL hcut eL HP
  go_enter Tryd.func46, Tryd.ntmps46
  go_wp2_with fail
  refine HCU.out.mono ?_
  rintro e w1 ⟨rfl, b1⟩
  have B1 := hide b1
  clear b1 y0 HCU
  have hw2' : IntKind.i64.wrap ((m : Int) + 2) = (m : Int) + 2 := by rw [IntKind.wrap_i64]; omega
  go_wp2_with fail
  refine (HSP.out _ _ rfl B1.out).mono ?_
  rintro e w2 ⟨c, rfl, b2⟩
  have B2 := hide (bel_next B1.out b2)
  clear b2 B1 HSP
  go_wp2_with fail
  refine (giveUp_any _).mono ?_
  rintro e w3 ⟨⟨pv, rfl⟩, b3⟩
  exact ⟨rfl, ⟨pv, rfl⟩, bel_next B2.out b3⟩
end Go.Proofs.YtklnfeblkffgiaaDoor
namespace Go.Proofs.YtklnfeblkffgiaaDoor
open Go.RowKit
set_option linter.unusedVariables false
set_option linter.unusedSimpArgs false
def RdR (r : Ru) : Prop := (0 ≤ r.u ∧ r.u ≤ 999999) ∧ (0 ≤ r.s ∧ r.s ≤ 999999) ∧ (0 ≤ r.lo ∧ r.lo ≤ 999999) ∧ (0 ≤ r.hi ∧ r.hi ≤ 999999) ∧ (0 ≤ r.p ∧ r.p ≤ 999999) ∧ (0 ≤ r.t ∧ r.t ≤ 999999) ∧ (-999999 ≤ r.sh ∧ r.sh ≤ 999999)
abbrev lsR : List Int := [0, 0, 0, 0, 0, 0, -999999]
abbrev lsC : Array Value := #[.int .i64 0, .int .i64 0, .int .i64 0, .int .i64 0, .int .i64 0, .int .i64 0, .int .i64 (-999999)]
theorem sl_leasts {w : World} {G : Nat} (h : Blk w G 3 lsC) : SlI w (some ⟨G, 0, none⟩) lsR := .inr ⟨G, 0, rfl, h.lt, fun i hi => by
  have h7 : i < 7 := by simpa using hi
  have h9 := h.cell i (v := .int .i64 (lsR.getD i 0)) (by
    match i, h7 with
    | 0, _ => rfl
    | 1, _ => rfl
    | 2, _ => rfl
    | 3, _ => rfl
    | 4, _ => rfl
    | 5, _ => rfl
    | 6, _ => rfl)
  simpa using h9⟩
theorem rd_bounds {r : Ru} (h : RdR r) : ∀ k, k < 7 → -999999 ≤ (ruN r).getD k 0 ∧ (ruN r).getD k 0 ≤ 999999 ∧ lsR.getD k 0 ≤ (ruN r).getD k 0 := by
  intro k hk
  unfold RdR at h
  match k, hk with
  | 0, _ => show -999999 ≤ r.u ∧ r.u ≤ 999999 ∧ 0 ≤ r.u; omega
  | 1, _ => show -999999 ≤ r.s ∧ r.s ≤ 999999 ∧ 0 ≤ r.s; omega
  | 2, _ => show -999999 ≤ r.lo ∧ r.lo ≤ 999999 ∧ 0 ≤ r.lo; omega
  | 3, _ => show -999999 ≤ r.hi ∧ r.hi ≤ 999999 ∧ 0 ≤ r.hi; omega
  | 4, _ => show -999999 ≤ r.p ∧ r.p ≤ 999999 ∧ 0 ≤ r.p; omega
  | 5, _ => show -999999 ≤ r.t ∧ r.t ≤ 999999 ∧ 0 ≤ r.t; omega
  | 6, _ => show -999999 ≤ r.sh ∧ r.sh ≤ 999999 ∧ -999999 ≤ r.sh; omega
theorem grown_tr {w w1 w2 : World} {g : Nat} (h1 : w.grownBy w1 (some g)) (h2 : w1.grownBy w2 (some g)) : w.grownBy w2 (some g) :=
  ⟨h2.os.trans h1.os, h2.tape.trans h1.tape, h2.output.trans h1.output, Nat.le_trans h1.size h2.size, fun k hk hne => (h2.block k (Nat.lt_of_lt_of_le hk h1.size) hne).trans (h1.block k hk hne)⟩
theorem grown_hi {w u : World} {g B j : Nat} {y : Value} (hB : w.heap.size ≤ B) (h : w.grownBy u (some g)) : w.grownBy (u.setCell ⟨B, j, none⟩ y) (some g) := by
  have h2 : u.grownBy (u.setCell ⟨B, j, none⟩ y) (some B) := grown_setp (grown_below (Below.refl _ u) (some B))
  exact ⟨h2.os.trans h.os, h2.tape.trans h.tape, h2.output.trans h.output, Nat.le_trans h.size h2.size, fun k hk hne => (h2.block k (Nat.lt_of_lt_of_le hk h.size) (fun e => by have := Option.some.inj e; omega)).trans (h.block k hk hne)⟩
theorem setG7 {u : World} {B : Nat} {t : TypeId} {x0 x1 x2 x3 x4 x5 x6 v0 v1 v2 v3 v4 v5 v6 : Value} (h : Blk u B t #[x0, x1, x2, x3, x4, x5, x6]) : Blk (((((((u.setCell ⟨B, 0, none⟩ v0).setCell ⟨B, 1, none⟩ v1).setCell ⟨B, 2, none⟩ v2).setCell ⟨B, 3, none⟩ v3).setCell ⟨B, 4, none⟩ v4).setCell ⟨B, 5, none⟩ v5).setCell ⟨B, 6, none⟩ v6) B t #[v0, v1, v2, v3, v4, v5, v6] := by
  have h9 := (((((((h.set 0 v0).set 1 v1).set 2 v2).set 3 v3).set 4 v4).set 5 v5).set 6 v6)
  simpa using h9
theorem Blk.dr {w : World} {g : Nat} {t : TypeId} {cs : Array Value} (h : Blk w g t cs) : Blk w.drew g t cs := h
theorem grown_dr {w u : World} {r : Option Nat} (h : w.grownBy u r) : w.grownBy u.drew r := ⟨h.os, h.tape, h.output, h.size, h.block⟩
theorem Blk.sev {w : World} {g : Nat} {t : TypeId} {v0 v1 v2 v3 v4 v5 v6 : Value} (h : Blk w g t #[v0, v1, v2, v3, v4, v5, v6]) : (w.cell? ⟨g, 0, none⟩ = some v0 ∧ w.cell? ⟨g, 1, none⟩ = some v1 ∧ w.cell? ⟨g, 2, none⟩ = some v2 ∧ w.cell? ⟨g, 3, none⟩ = some v3 ∧ w.cell? ⟨g, 4, none⟩ = some v4 ∧ w.cell? ⟨g, 5, none⟩ = some v5 ∧ w.cell? ⟨g, 6, none⟩ = some v6) ∧ w.frozen? ⟨g, 0, none⟩ = false ∧ w.frozen? ⟨g, 1, none⟩ = false ∧ w.frozen? ⟨g, 2, none⟩ = false ∧ w.frozen? ⟨g, 3, none⟩ = false ∧ w.frozen? ⟨g, 4, none⟩ = false ∧ w.frozen? ⟨g, 5, none⟩ = false ∧ w.frozen? ⟨g, 6, none⟩ = false :=
  ⟨⟨h.cell 0 rfl, h.cell 1 rfl, h.cell 2 rfl, h.cell 3 rfl, h.cell 4 rfl, h.cell 5 rfl, h.cell 6 rfl⟩, h.fro 0, h.fro 1, h.fro 2, h.fro 3, h.fro 4, h.fro 5, h.fro 6⟩
set_option maxRecDepth 20000 in
set_option maxHeartbeats 2000000 in
theorem rule_good (r : Ru) (hr : RdR r) (rest : List UInt8) (rB k : Nat) (hk : k ≤ 1000) (w : World) (hR : Blk w rB 51 #[.string (tx (lnT [114, 117, 108, 101] (ruN r) ++ rest)), .int .i64 (k : Int)]) (hsz : (lnT [114, 117, 108, 101] (ruN r) ++ rest).length ≤ 1000000000) (hE : En w) :
    Calls Tryd.prog 47 #[.pointer (some ⟨rB, 0, none⟩)] w fun e w' => e = .returned (.agg (ruc r)) ∧ Blk w' rB 51 #[.string (tx rest), .int .i64 ((k + 1 : Nat) : Int)] ∧ w.grownBy w' (some rB) := by
  obtain ⟨W, hW⟩ : ∃ W, W = (w.alloc (.cells (ruc ⟨0, 0, 0, 0, 0, 0, 0⟩) 33)).alloc (.cells lsC 3) := ⟨_, rfl⟩
  obtain ⟨B2, hB2⟩ : ∃ B2, B2 = w.heap.size := ⟨_, rfl⟩
  have bW : Below w.heap.size w W := by rw [hW]; exact bel_next (bel_alloc _ _) (bel_alloc _ _)
  have hrl := hR.lt
  have HW : Hid (Blk W B2 33 (ruc ⟨0, 0, 0, 0, 0, 0, 0⟩) ∧ Blk W (B2 + 1) 3 lsC ∧ Below w.heap.size w W ∧ rB < B2 ∧ B2 = w.heap.size) := by
    refine ⟨by rw [hW, hB2]; exact (Blk.new w _ _).below (bel_alloc _ _), ?_, bW, by omega, hB2⟩
    rw [hW, hB2]
    have h9 := Blk.new (w.alloc (.cells (ruc ⟨0, 0, 0, 0, 0, 0, 0⟩) 33)) lsC 3
    simpa using h9
  have HNU := hide (numbers_good [114, 117, 108, 101] (ByteArray.mk #[114, 117, 108, 101]) rfl (by decide) (by decide) (ruN r) lsR 7 rfl rfl (by omega) (rd_bounds hr) rest rB k hk (some ⟨B2 + 1, 0, none⟩) 7 W (sl_leasts HW.out.2.1) (hR.below bW) hsz (hE.below bW))
  clear hR hsz hE bW hr hrl
  go_enter Tryd.func47, Tryd.ntmps47
  go_wp2_with fail
  rw [← hW, ← hB2]
  clear hW hB2
  refine HNU.out.mono ?_
  rintro e w2 ⟨gs, rfl, O2, R2, g2⟩
  have HD : Hid (Blk w2 B2 33 (ruc ⟨0, 0, 0, 0, 0, 0, 0⟩) ∧ Blk w2 rB 51 #[.string (tx rest), .int .i64 ((k + 1 : Nat) : Int)] ∧ w.grownBy w2 (some rB) ∧ gs ≠ B2 ∧ rB < B2) := by
    refine ⟨HW.out.1.grown g2 (fun e9 => by have := Option.some.inj e9; have := HW.out.2.2.2.1; omega), R2, grown_tr (grown_below HW.out.2.2.1 (some rB)) g2, ?_, HW.out.2.2.2.1⟩
    intro e9
    have h9 := (World.ownsRow.lt O2 gs rfl).1
    have := HW.out.1.lt
    omega
  have hcell : ∀ j, j < 7 → w2.cell? ⟨gs, j, none⟩ = some (.int .i64 ((ruN r).getD j 0)) := fun j hj => by
    rcases O2.sl.2 with h | ⟨b, off, ha, _, hc⟩
    · simp [ruN] at h
    · simp only [Option.some.injEq, Addr.mk.injEq, true_and] at ha
      obtain ⟨rfl, rfl, _⟩ := ha
      have h9 := hc j (by simpa [ruN] using hj)
      simpa using h9
  have c0 : w2.cell? ⟨gs, 0, none⟩ = some (.int .i64 r.u) := hcell 0 (by omega)
  have c1 : w2.cell? ⟨gs, 1, none⟩ = some (.int .i64 r.s) := hcell 1 (by omega)
  have c2 : w2.cell? ⟨gs, 2, none⟩ = some (.int .i64 r.lo) := hcell 2 (by omega)
  have c3 : w2.cell? ⟨gs, 3, none⟩ = some (.int .i64 r.hi) := hcell 3 (by omega)
  have c4 : w2.cell? ⟨gs, 4, none⟩ = some (.int .i64 r.p) := hcell 4 (by omega)
  have c5 : w2.cell? ⟨gs, 5, none⟩ = some (.int .i64 r.t) := hcell 5 (by omega)
  have c6 : w2.cell? ⟨gs, 6, none⟩ = some (.int .i64 r.sh) := hcell 6 (by omega)
  obtain ⟨⟨x0, x1, x2, x3, x4, x5, x6⟩, f0, f1, f2, f3, f4, f5, f6⟩ := HD.out.1.sev
  have hne := HD.out.2.2.2.1
  have hne' : ¬ B2 = gs := fun e => hne e.symm
  have HB2 : Hid (B2 = w.heap.size) := HW.out.2.2.2.2
  clear hcell O2 R2 g2 HW HNU
  obtain ⟨W9, hW9⟩ : ∃ W9, W9 = (((((((w2.setCell ⟨B2, 0, none⟩ (.int .i64 r.u)).setCell ⟨B2, 1, none⟩ (.int .i64 r.s)).setCell ⟨B2, 2, none⟩ (.int .i64 r.lo)).setCell ⟨B2, 3, none⟩ (.int .i64 r.hi)).setCell ⟨B2, 4, none⟩ (.int .i64 r.p)).setCell ⟨B2, 5, none⟩ (.int .i64 r.t)).setCell ⟨B2, 6, none⟩ (.int .i64 r.sh)).drew := ⟨_, rfl⟩
  have H9 : Hid (Blk W9 B2 33 (ruc r) ∧ Blk W9 rB 51 #[.string (tx rest), .int .i64 ((k + 1 : Nat) : Int)] ∧ w.grownBy W9 (some rB)) := by
    rw [hW9]
    have n1 : rB ≠ B2 := by have := HD.out.2.2.2.2; omega
    refine ⟨?_, ?_, ?_⟩
    · exact Blk.dr (setG7 HD.out.1)
    · exact Blk.dr (((((((HD.out.2.1.setNe n1).setNe n1).setNe n1).setNe n1).setNe n1).setNe n1).setNe n1)
    · have hB : w.heap.size ≤ B2 := by rw [HB2.out]; exact Nat.le_refl _
      exact grown_dr (grown_hi hB (grown_hi hB (grown_hi hB (grown_hi hB (grown_hi hB (grown_hi hB (grown_hi hB HD.out.2.2.1)))))))
  go_upto_region 2 with fail
  go_region_held3 (fun w' => w'.cell? ⟨gs, 0, none⟩ = some (.int .i64 r.u) ∧ w'.cell? ⟨gs, 1, none⟩ = some (.int .i64 r.s) ∧ w'.cell? ⟨gs, 2, none⟩ = some (.int .i64 r.lo) ∧ w'.cell? ⟨gs, 3, none⟩ = some (.int .i64 r.hi) ∧ w'.cell? ⟨gs, 4, none⟩ = some (.int .i64 r.p) ∧ w'.cell? ⟨gs, 5, none⟩ = some (.int .i64 r.t) ∧ w'.cell? ⟨gs, 6, none⟩ = some (.int .i64 r.sh)) (go_keep) (fail)
  all_goals (
    rw [← hW9]
    clear hW9 c0 c1 c2 c3 c4 c5 c6 x0 x1 x2 x3 x4 x5 x6 f0 f1 f2 f3 f4 f5 f6
    obtain ⟨⟨x0, x1, x2, x3, x4, x5, x6⟩, _⟩ := H9.out.1.sev
    go_wp2
    refine bodyPost_ret (v := .agg (ruc r)) (by simp [results, Tryd.results47, go_sem, x0, x1, x2, x3, x4, x5, x6]) rfl ⟨rfl, H9.out.2.1, H9.out.2.2⟩)
end Go.Proofs.YtklnfeblkffgiaaDoor
namespace Go.Proofs.YtklnfeblkffgiaaDoor
open Go.RowKit
set_option linter.unusedVariables false
set_option linter.unusedSimpArgs false
set_option maxRecDepth 20000 in
set_option maxHeartbeats 1000000 in
theorem rule_short (r : Ru) (rB k : Nat) (w : World) (hR : Blk w rB 51 #[.string (tx ([114, 117, 108, 101] ++ nbT (ruN r))), .int .i64 (k : Int)]) (hsz : ([114, 117, 108, 101] ++ nbT (ruN r)).length ≤ 1000000000) (hE : En w) :
    Calls Tryd.prog 47 #[.pointer (some ⟨rB, 0, none⟩)] w fun e w' => (∃ pv, e = .panicked [{ v := .iface 9 pv, recovered := false }]) ∧ Below w.heap.size w w' := by
  obtain ⟨W, hW⟩ : ∃ W, W = (w.alloc (.cells (ruc ⟨0, 0, 0, 0, 0, 0, 0⟩) 33)).alloc (.cells lsC 3) := ⟨_, rfl⟩
  have bW : Below w.heap.size w W := by rw [hW]; exact bel_next (bel_alloc _ _) (bel_alloc _ _)
  have HB := hide bW
  have HNU : Hid (∀ la cap, Calls Tryd.prog 46 #[.pointer (some ⟨rB, 0, none⟩), .string (ByteArray.mk #[114, 117, 108, 101]), .slice la 7 cap] W fun e w' => (∃ pv, e = .panicked [{ v := .iface 9 pv, recovered := false }]) ∧ Below W.heap.size W w') := fun la cap => numbers_short [114, 117, 108, 101] (ByteArray.mk #[114, 117, 108, 101]) rfl (by decide) (by decide) (ruN r) 7 rfl (by omega) rB k la cap W (hR.below bW) hsz (hE.below bW)
  clear hR hsz hE bW
  go_enter Tryd.func47, Tryd.ntmps47
  go_wp2_with fail
  rw [← hW]
  clear hW
  refine (HNU.out _ _).mono ?_
  rintro e w3 ⟨⟨pv, rfl⟩, b3⟩
  exact ⟨rfl, ⟨pv, rfl⟩, bel_next HB.out b3⟩
end Go.Proofs.YtklnfeblkffgiaaDoor

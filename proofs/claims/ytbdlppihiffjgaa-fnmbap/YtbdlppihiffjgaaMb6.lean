/- Draws of frames on streams. -/
import Derived.Test.YtbdlppihiffjgaaAscD
import Derived.Test.YtbdlppihiffjgaaMb3
namespace Go.Proofs.Ytbdlppihiffjgaa
open Go.RowKit

set_option linter.unusedVariables false

set_option linter.unusedSimpArgs false

/-- What drawing a unit and bytes ends with. -/
def DrawnR (w : World) (e : Ending) (w' : World) : Prop :=
  ∃ (un : Int) (ad : Option Addr) (m c : Nat) (bs : List Int), e = .returned (.tuple #[.int .i64 un, .slice ad m c]) ∧ m = bs.length ∧ m ≤ 260 ∧ Own w' w.heap.size (.slice ad m c) bs ∧ (∀ z ∈ bs, 0 ≤ z ∧ z ≤ 255) ∧ Below w.heap.size w w'

theorem own_zeros (w : World) (B n : Nat) (hB : B ≤ w.heap.size) (hn : n ≤ 1000000) : Own (w.alloc (.cells (madeCells #[.int .u8 0] n) 5)) B (.slice (some ⟨w.heap.size, 0, none⟩) n n) (List.replicate n 0) :=
  Own.ofRow ((World.rowIs_made w (.int .u8 0) n 5).congr (fun i hi => by simp [hi])) (by simp) hB (by unfold maxLen; omega)

/-- Bytes that were drawn, and the cursor beside them. -/
def Bq (w : World) (a : Option Addr) (cap : Nat) (zs : List Int) (v : Value) (wx : World) : Prop :=
  ∃ (ad : Option Addr) (m c : Nat) (bs : List Int), v = .slice ad m c ∧ m = bs.length ∧ m ≤ 260 ∧ (∀ z ∈ bs, 0 ≤ z ∧ z ≤ 255) ∧ Own wx w.heap.size (.slice ad m c) bs ∧ Cur w a cap zs wx w.heap.size ∧ ((Value.slice ad m c).ownBlock = none ∨ (Value.slice ad m c).ownBlock ≠ some w.heap.size)

theorem Bq.next {w wx wy : World} {a : Option Addr} {cap : Nat} {zs : List Int} {v : Value} (h : Bq w a cap zs v wx) (hC : Cur w a cap zs wy w.heap.size) (hg : wx.grownBy wy (some w.heap.size)) : Bq w a cap zs v wy := by
  obtain ⟨ad, m, c, bs, e, h1, h2, h3, o, C, ne⟩ := h
  exact ⟨ad, m, c, bs, e, h1, h2, h3, o.kept hg ne, hC, ne⟩

theorem Bq.zeros {w wx : World} {a : Option Addr} {cap : Nat} {zs : List Int} (n : Nat) (hn : n ≤ 260) (hC : Cur w a cap zs wx w.heap.size) : Bq w a cap zs (.slice (some ⟨wx.heap.size, 0, none⟩) n n) (wx.alloc (.cells (madeCells #[.int .u8 0] n) 5)) :=
  ⟨_, n, n, List.replicate n 0, rfl, by simp, hn, fun z hz => by rw [List.eq_of_mem_replicate hz]; omega, own_zeros wx _ n (by have := hC.lo; have := hC.hi; omega) (by omega), hC.alloc _, .inr (by have := hC.hi; simp [Value.ownBlock]; omega)⟩

theorem Bq.lit {w wx : World} {a : Option Addr} {cap : Nat} {zs : List Int} (hC : Cur w a cap zs wx w.heap.size) : Bq w a cap zs (.slice (some ⟨wx.heap.size, 0, none⟩) 0 0) (wx.alloc (.cells #[] 5)) :=
  ⟨_, 0, 0, [], rfl, rfl, by omega, fun z hz => by simp at hz, ⟨rfl, .inr ⟨wx.heap.size, 0, #[], rfl, by have := hC.lo; have := hC.hi; omega, Blk.new wx #[] 5, by simp, by simp, rfl, rfl⟩⟩, hC.alloc _, .inr (by have := hC.hi; simp [Value.ownBlock]; omega)⟩

set_option maxRecDepth 20000 in
set_option maxHeartbeats 2000000 in
theorem drawPutRtu_any (w : World) (a : Option Addr) (n cap : Nat) (zs : List Int) (hn : n = zs.length) (hs : Sl w a zs) (hr : ∀ z ∈ zs, 0 ≤ z ∧ z ≤ 255) (hl : zs.length ≤ 1048576) :
    Calls Try.prog 43 #[.slice a n cap] w fun e w' => DrawnR w e w' := by
  have H : Hid (n = zs.length ∧ Sl w a zs ∧ (∀ z ∈ zs, 0 ≤ z ∧ z ≤ 255) ∧ zs.length ≤ 1048576) := ⟨hn, hs, hr, hl⟩
  clear hn hs hr hl
  go_enter Try.func43, Try.ntmps43
  go_wp2_with fail
  refine (l1New_any w a n cap zs H.out.1 H.out.2.1 H.out.2.2.1 H.out.2.2.2).mono ?_
  rintro e w1 ⟨rfl, C1, g1⟩
  have hz1 : w.heap.size ≤ w1.heap.size := g1.size
  clear g1 H
  go_wp2_with fail
  refine (l6Some_any w a cap zs _ w.heap.size C1).mono ?_
  rintro e w2 ⟨ad, m, c, bs, rfl, hm, h1, h2, o2, hrg, C2, g2⟩
  have Q2 : Hid (Bq w a cap zs (.slice ad m c) w2) := ⟨ad, m, c, bs, rfl, hm, by omega, hrg, o2.monoT hz1, C2, row_ne_g o2 C1.hi⟩
  clear hm h1 h2 hrg o2 g2 C1 hz1
  go_wp2_with fail
  refine (l1Once_any w a cap zs _ w.heap.size _ (by decide) C2).mono ?_
  rintro e w3 ⟨t, rfl, C3, g3⟩
  have Q3 : Hid (Bq w a cap zs (.slice ad m c) w3) := Q2.out.next C3 g3
  clear g3 C2 Q2
  go_upto_if 11 with fail
  go_cut [5] (fun s5 wx => Bq w a cap zs s5 wx)
  case first =>
    cases t
    · go_wp2_with fail
      go_meet
      exact Q3.out
    · go_wp2_with fail
      refine (l1Below_any w a cap zs _ w.heap.size _ (by decide) C3).mono ?_
      rintro e z4 ⟨x, rfl, hx, C4, g4⟩
      obtain ⟨k, rfl⟩ : ∃ k : Nat, x = (k : Int) := ⟨x.toNat, by omega⟩
      have hmk : ∀ w : World, (Instr.makeSlice 22 (.int .i64 (252 + (k : Int))) (.int .i64 (252 + (k : Int)))).run Try.prog w = .ok (.slice (some ⟨w.heap.size, 0, none⟩) (252 + k) (252 + k)) (w.alloc (.cells (madeCells #[.int .u8 0] (252 + k)) 5)) := fun w => run_make_row' (P := Try.prog) 22 5 (.int .u8 0) 1 Try.underlying22 Try.info5 rfl .i64 .i64 (252 + k) (by omega) (by omega) w
      have Q4 := Bq.zeros (252 + k) (by omega) C4
      clear g4 C4 C3 Q3
      go_wp2_with fail
      go_meet
      exact Q4
  case rest =>
  obtain ⟨ad', m', c', bs', rfl, h1, h2, h3, o4, C4, ne⟩ := hcut
  have Q4 : Hid (Bq w a cap zs (.slice ad' m' c') wc) := ⟨ad', m', c', bs', rfl, h1, h2, h3, o4, C4, ne⟩
  clear h1 h2 h3 o4 ne Q3 C3
  go_wp2_with fail
  refine (l1Once_any w a cap zs _ w.heap.size _ (by decide) C4).mono ?_
  rintro e w5 ⟨t2, rfl, C5, g5⟩
  have Q5 : Hid (Bq w a cap zs (.slice ad' m' c') w5) := Q4.out.next C5 g5
  clear g5 C4 Q4
  go_upto_if 17 with fail
  go_cut [5] (fun s5 wx => Bq w a cap zs s5 wx)
  case first =>
    cases t2
    · go_wp2_with fail
      go_meet
      exact Q5.out
    · have Q6 := Bq.lit C5
      clear Q5 C5
      go_wp2_with fail
      go_meet
      exact Q6
  case rest =>
  obtain ⟨ad'', m'', c'', bs'', rfl, h1, h2, h3, o6, C6, ne⟩ := hcut
  have Q6 : Hid (Bq w a cap zs (.slice ad'' m'' c'') wc) := ⟨ad'', m'', c'', bs'', rfl, h1, h2, h3, o6, C6, ne⟩
  clear h1 h2 h3 o6 ne Q5 C5
  go_wp2_with fail
  have bl := bel_alloc wc (.cells #[.int .i64 0, .int .i64 1, .int .i64 17, .int .i64 255, .int .i64 256, .int .i64 (-1), .int .i64 1, .int .i64 2] 3)
  have C7 := C6.alloc (.cells #[.int .i64 0, .int .i64 1, .int .i64 17, .int .i64 255, .int .i64 256, .int .i64 (-1), .int .i64 1, .int .i64 2] 3)
  have Q7 : Hid (Bq w a cap zs (.slice ad'' m'' c'') (wc.alloc (.cells #[.int .i64 0, .int .i64 1, .int .i64 17, .int .i64 255, .int .i64 256, .int .i64 (-1), .int .i64 1, .int .i64 2] 3))) := Q6.out.next C7 (grown_below bl _)
  refine (l1Int_any w a cap zs _ w.heap.size ⟨wc.heap.size, 0, none⟩ 8 8 [0, 1, 17, 255, 256, -1, 1, 2] rfl (by omega) (by omega) (ints_litY wc [0, 1, 17, 255, 256, -1, 1, 2] 3) (by have := C6.hi; show wc.heap.size ≠ w.heap.size; omega) C7).mono ?_
  rintro e w8 ⟨un, rfl, hun, C8, g8⟩
  have Q8 := Q7.out.next C8 g8
  obtain ⟨ad3, m3, c3, bs3, e3, h1, h2, h3, o8, C8', ne⟩ := Q8
  have R : DrawnR w (.returned (.tuple #[.int .i64 un, .slice ad'' m'' c''])) w8 := ⟨un, ad'', m'', c'', bs3, rfl, by simp at e3; omega, by simp at e3; omega, by rw [e3]; exact o8, h3, C8.bel⟩
  clear e3 h1 h2 h3 o8 ne C8' C8 g8 Q7 C7 bl Q6 C6
  go_wp2_with fail
  go_ret2
  exact R

/-- What drawing a frame's parts ends with. -/
def DrawnM (w : World) (e : Ending) (w' : World) : Prop :=
  ∃ (nu un : Int) (ad : Option Addr) (m c : Nat) (bs : List Int), e = .returned (.tuple #[.int .i64 nu, .int .i64 un, .slice ad m c]) ∧ m = bs.length ∧ m ≤ 260 ∧ Own w' w.heap.size (.slice ad m c) bs ∧ (∀ z ∈ bs, 0 ≤ z ∧ z ≤ 255) ∧ Below w.heap.size w w'

set_option maxRecDepth 20000 in
set_option maxHeartbeats 2000000 in
theorem drawPutMbap_any (w : World) (a : Option Addr) (n cap : Nat) (zs : List Int) (hn : n = zs.length) (hs : Sl w a zs) (hr : ∀ z ∈ zs, 0 ≤ z ∧ z ≤ 255) (hl : zs.length ≤ 1048576) :
    Calls Try.prog 17 #[.slice a n cap] w fun e w' => DrawnM w e w' := by
  have H : Hid (n = zs.length ∧ Sl w a zs ∧ (∀ z ∈ zs, 0 ≤ z ∧ z ≤ 255) ∧ zs.length ≤ 1048576) := ⟨hn, hs, hr, hl⟩
  clear hn hs hr hl
  go_enter Try.func17, Try.ntmps17
  go_wp2_with fail
  refine (l1New_any w a n cap zs H.out.1 H.out.2.1 H.out.2.2.1 H.out.2.2.2).mono ?_
  rintro e w1 ⟨rfl, C1, g1⟩
  have hz1 : w.heap.size ≤ w1.heap.size := g1.size
  have C2 := C1.alloc (.cells #[.int .i64 0, .int .i64 1, .int .i64 65535, .int .i64 65536, .int .i64 (-1), .int .i64 300] 3)
  have hC := C1.hi
  clear g1 C1
  go_wp2_with fail
  refine (l1Int_any w a cap zs _ w.heap.size ⟨w1.heap.size, 0, none⟩ 6 6 [0, 1, 65535, 65536, -1, 300] rfl (by omega) (by omega) (ints_litY w1 [0, 1, 65535, 65536, -1, 300] 3) (by show w1.heap.size ≠ w.heap.size; omega) C2).mono ?_
  rintro e w3 ⟨nu, rfl, hnu, C3, g3⟩
  have b3 := C3.bel
  clear g3 hnu C2
  go_wp2_with fail
  refine (drawPutRtu_any _ a n cap zs H.out.1 (H.out.2.1.below b3) H.out.2.2.1 H.out.2.2.2).mono ?_
  rintro e w4 ⟨un, ad, m, c, bs, rfl, hm, h2, o4, h3, b4⟩
  have R : DrawnM w (.returned (.tuple #[.int .i64 nu, .int .i64 un, .slice ad m c])) w4 := ⟨nu, un, ad, m, c, bs, rfl, hm, h2, o4.monoT b3.size, h3, bel_next b3 b4⟩
  clear hm h2 o4 h3 b4 b3 C3 H
  go_wp2_with fail
  go_ret3
  exact R

end Go.Proofs.Ytbdlppihiffjgaa

/- The law of UnpackBits, walked. -/
import Derived.Test.YtolfomkllbbmhaiUnp2
namespace Go.Proofs.Ytolfomkllbbmhai
open Go.RowKit

def UnIs (zs : List Int) (x : Int) (q : Nat) (R : List Bool) (ok : Bool) : Prop := q = (outU zs x).length ∧ R = outU zs x ∧ ok = okU zs x

theorem specUnpack_q (a : Option Addr) (n cap : Nat) (zs : List Int) (x : Int) (q : Nat) (R : List Bool) (ok : Bool) (w : World) (hn : n = zs.length) (hE : UnIs zs x q R ok) (hs : Sl w a zs) (hr : ∀ z ∈ zs, 0 ≤ z ∧ z ≤ 255) (hl : n ≤ 2000000) :
    Calls Try.prog 26 #[.slice a n cap, .int .i64 x] w fun e w' => ∃ a c, e = .returned (.tuple #[.slice a q c, .bool ok]) ∧ OwnB w' w.heap.size (.slice a q c) R ∧ Below w.heap.size w w' := by
  obtain ⟨rfl, rfl, rfl⟩ := hE
  exact specUnpack_any a n cap zs x w hn hs hr hl

theorem implUnpack_q (a : Option Addr) (n cap : Nat) (zs : List Int) (x : Int) (q : Nat) (R : List Bool) (ok : Bool) (w : World) (hn : n = zs.length) (hE : UnIs zs x q R ok) (hs : Sl w a zs) (hr : ∀ z ∈ zs, 0 ≤ z ∧ z ≤ 255) (hl : n ≤ 2000000) (hx : x ≤ 9223372036854775807) :
    Calls Try.prog 27 #[.slice a n cap, .int .i64 x] w fun e w' => ∃ a c, e = .returned (.tuple #[.slice a q c, .bool ok]) ∧ OwnB w' w.heap.size (.slice a q c) R ∧ Below w.heap.size w w' := by
  obtain ⟨rfl, rfl, rfl⟩ := hE
  exact implUnpack_any a n cap zs x w hn hs hr hl hx

theorem outU_le (zs : List Int) (x : Int) : (outU zs x).length ≤ 8 * zs.length := by
  unfold outU
  split
  · rename_i h
    unfold okU at h
    have := of_decide_eq_true h
    rw [ubs_length]; omega
  · simp

set_option maxRecDepth 20000 in
set_option maxHeartbeats 8000000 in
theorem unpack_law (a : Option Addr) (n cap : Nat) (zs : List Int) (x : Int) (q : Nat) (R : List Bool) (ok : Bool) (w : World) (hn : n = zs.length) (hs : Sl w a zs) (hr : ∀ z ∈ zs, 0 ≤ z ∧ z ≤ 255) (hl : n ≤ 1048576) (hx : x ≤ 9223372036854775807) (hE : UnIs zs x q R ok) :
    Calls Try.prog 8 #[.slice a n cap, .int .i64 x] w fun e w' => e = .returned (.bool true) ∧ Below w.heap.size w w' := by
  have HN : Hid (n = zs.length) := hn
  have HE : Hid (UnIs zs x q R ok) := hE
  have hQ : q = R.length := by rw [hE.1, hE.2.1]
  have HQ : Hid (q = R.length) := hQ
  have hq3 : q ≤ 20000000 := by have := outU_le zs x; have := hE.1; omega
  have HR : Hid (R.length ≤ 20000000) := by show R.length ≤ 20000000; rw [← hQ]; exact hq3
  have HL : Hid (zs.length ≤ 2000000) := by show zs.length ≤ 2000000; omega
  have Hs : Hid (Sl w a zs) := hs
  have Hr : Hid (∀ z ∈ zs, 0 ≤ z ∧ z ≤ 255) := hr
  have hl2 : n ≤ 2000000 := by omega
  have hn3 : n ≤ 3000000 := by omega
  clear hs hn hE hQ hr
  have b0 := Below.refl w.heap.size w
  go_enter Try.func8, Try.ntmps8
  go_wp2_with fail
  refine (toByteS_ok a n cap zs _ HN.out (Hs.out.below b0) HL.out).mono ?_
  rintro e v1 ⟨t0, rfl, n', b'⟩
  have b1 := bel_next b0 b'
  have T1 := n'
  have hBT : w.heap.size ≤ _ := b0.size
  clear b0 b' n'
  go_wp2_with fail
  refine (specUnpack_q _ n _ zs x q R ok _ HN.out HE.out T1.sl.2 Hr.out hl2).mono ?_
  rintro e v2 ⟨o0, oc, rfl, n', b'⟩
  have b2 := bel_next b1 b'
  have T2 := T1.below b'
  have O2 := n'
  have hBO : w.heap.size ≤ _ := b1.size
  have neTO := ne_lt (fun k e => (World.ownsRow.lt T1 k e).2) (fun k e => (World.ownsRow.lt n' k e).1)
  clear b1 T1 b' n'
  clear T2 neTO hBT
  go_wp2_with fail
  refine (toByteS_ok a n cap zs _ HN.out (Hs.out.below b2) HL.out).mono ?_
  rintro e v3 ⟨x0, rfl, n', b'⟩
  have b3 := bel_next b2 b'
  have O3 := O2.below b'
  have X3 := n'
  have hBX : w.heap.size ≤ _ := b2.size
  have neOX := ne_lt (fun k e => (World.ownsRow.lt O2 k e).2) (fun k e => (World.ownsRow.lt n' k e).1)
  clear b2 O2 b' n'
  go_wp2_with fail
  refine (implUnpack_q _ n _ zs x q R ok _ HN.out HE.out X3.sl.2 Hr.out hl2 hx).mono ?_
  rintro e v4 ⟨g0, gc, rfl, n', b'⟩
  have b4 := bel_next b3 b'
  have O4 := O3.below b'
  have X4 := X3.below b'
  have G4 := n'
  have hBG : w.heap.size ≤ _ := b3.size
  have neOG := ne_lt (fun k e => (World.ownsRow.lt O3 k e).2) (fun k e => (World.ownsRow.lt n' k e).1)
  have neXG := ne_lt (fun k e => (World.ownsRow.lt X3 k e).2) (fun k e => (World.ownsRow.lt n' k e).1)
  clear b3 O3 X3 b' n'
  go_wp2_with fail
  refine (eqBoolS_ok _ _ _ _ _ _ R _ HQ.out HQ.out G4.sl.2 O4.sl.2 HR.out).mono ?_
  rintro e v5 ⟨rfl, b'⟩
  have b5 := bel_next b4 b'
  have O5 := O4.below b'
  have X5 := X4.below b'
  have G5 := G4.below b'
  clear b4 O4 X4 G4 b'
  go_wp2_with fail
  refine (toByteS_ok a n cap zs _ HN.out (Hs.out.below b5) HL.out).mono ?_
  rintro e v6 ⟨t1, rfl, n', b'⟩
  have b6 := bel_next b5 b'
  have O6 := O5.below b'
  have X6 := X5.below b'
  have G6 := G5.below b'
  have T6 := n'
  have hBT : w.heap.size ≤ _ := b5.size
  have neOT := ne_lt (fun k e => (World.ownsRow.lt O5 k e).2) (fun k e => (World.ownsRow.lt n' k e).1)
  have neXT := ne_lt (fun k e => (World.ownsRow.lt X5 k e).2) (fun k e => (World.ownsRow.lt n' k e).1)
  have neGT := ne_lt (fun k e => (World.ownsRow.lt G5 k e).2) (fun k e => (World.ownsRow.lt n' k e).1)
  clear b5 O5 X5 G5 b' n'
  go_wp2_with fail
  refine (eqByteS_ok _ _ _ _ _ _ zs _ HN.out HN.out X6.sl.2 T6.sl.2 HL.out).mono ?_
  rintro e v7 ⟨rfl, b'⟩
  have b7 := bel_next b6 b'
  have O7 := O6.below b'
  have X7 := X6.below b'
  have G7 := G6.below b'
  have T7 := T6.below b'
  clear b6 O6 X6 G6 T6 b'
  clear T7 neOT neXT neGT hBT
  go_wp2_with fail
  refine (markByteS_sv 1 _ _ _ _ 1 zs _ rfl X7 hn3 (by omega)).mono ?_
  rintro e v8 ⟨rfl, n', gr⟩
  have b8 := below_ownG b7 X7 gr hBX b7.size
  have O8 := O7.kept gr neOX.1
  have G8 := G7.kept gr neXG.2
  clear b7 O7 G7 X7 n' gr
  go_wp2_with fail
  refine (eqBoolS_ok _ _ _ _ _ _ R _ HQ.out HQ.out G8.sl.2 O8.sl.2 HR.out).mono ?_
  rintro e v9 ⟨rfl, b'⟩
  have b9 := bel_next b8 b'
  have O9 := O8.below b'
  have G9 := G8.below b'
  clear b8 O8 G8 b'
  go_wp2_with fail
  refine (markBoolS_sv 1 _ _ _ _ 1 R _ rfl G9 hq3 (by omega)).mono ?_
  rintro e v10 ⟨rfl, n', gr⟩
  have b10 := below_ownG b9 G9 gr hBG b9.size
  have O10 := O9.kept gr neOG.1
  have G10 := n'
  clear b9 O9 G9 n' gr
  go_wp2_with fail
  refine (heldBoolS_sv 1 _ _ _ 1 _ rfl G10.sl.2 hq3 (by omega)).mono ?_
  rintro e v11 ⟨rfl, b'⟩
  have b11 := bel_next b10 b'
  have O11 := O10.below b'
  have G11 := G10.below b'
  clear b10 O10 G10 b'
  go_wp2_with fail
  refine (toByteS_ok a n cap zs _ HN.out (Hs.out.below b11) HL.out).mono ?_
  rintro e v12 ⟨t2, rfl, n', b'⟩
  have b12 := bel_next b11 b'
  have O12 := O11.below b'
  have G12 := G11.below b'
  have T12 := n'
  have hBT : w.heap.size ≤ _ := b11.size
  have neOT := ne_lt (fun k e => (World.ownsRow.lt O11 k e).2) (fun k e => (World.ownsRow.lt n' k e).1)
  have neGT := ne_lt (fun k e => (World.ownsRow.lt G11 k e).2) (fun k e => (World.ownsRow.lt n' k e).1)
  clear b11 O11 G11 b' n'
  go_wp2_with fail
  refine (implUnpack_q _ n _ zs x q R ok _ HN.out HE.out T12.sl.2 Hr.out hl2 hx).mono ?_
  rintro e v13 ⟨h0, hc0, rfl, n', b'⟩
  have b13 := bel_next b12 b'
  have O13 := O12.below b'
  have G13 := G12.below b'
  have T13 := T12.below b'
  have Z13 := n'
  have hBZ : w.heap.size ≤ _ := b12.size
  have neOZ := ne_lt (fun k e => (World.ownsRow.lt O12 k e).2) (fun k e => (World.ownsRow.lt n' k e).1)
  have neGZ := ne_lt (fun k e => (World.ownsRow.lt G12 k e).2) (fun k e => (World.ownsRow.lt n' k e).1)
  have neTZ := ne_lt (fun k e => (World.ownsRow.lt T12 k e).2) (fun k e => (World.ownsRow.lt n' k e).1)
  clear b12 O12 G12 T12 b' n'
  go_wp2_with fail
  refine (eqBoolS_ok _ _ _ _ _ _ R _ HQ.out HQ.out Z13.sl.2 O13.sl.2 HR.out).mono ?_
  rintro e v14 ⟨rfl, b'⟩
  have b14 := bel_next b13 b'
  have O14 := O13.below b'
  have G14 := G13.below b'
  have T14 := T13.below b'
  have Z14 := Z13.below b'
  clear b13 O13 G13 T13 Z13 b'
  go_wp2_with fail
  refine (heldBoolS_sv 1 _ _ _ 1 _ rfl G14.sl.2 hq3 (by omega)).mono ?_
  rintro e v15 ⟨rfl, b'⟩
  have b15 := bel_next b14 b'
  have O15 := O14.below b'
  have G15 := G14.below b'
  have T15 := T14.below b'
  have Z15 := Z14.below b'
  clear b14 O14 G14 T14 Z14 b'
  go_wp2
  go_ret
  exact ⟨rfl, b15⟩

end Go.Proofs.Ytolfomkllbbmhai

/- What a listener of digits does with a byte: its parts. -/
import Derived.Test.YtmcednhinafpeaaAscG
import Derived.Test.YtmcednhinafpeaaAsc5
namespace Go.Proofs.Ytmcednhinafpeaa
open Go.RowKit

set_option linter.unusedVariables false

set_option linter.unusedSimpArgs false

set_option maxRecDepth 20000 in
set_option maxHeartbeats 2000000 in
theorem shut_any (a : Option Addr) (l c : Nat) (op : Bool) (ls wt k u : Int) (pa : Option Addr) (pn pc : Nat) (w : World) :
    Calls Try.prog 49 #[sc a l c op ls wt, .agg #[.int .i64 k, .int .i64 u, .slice pa pn pc]] w fun e w' => ∃ g, e = .returned (.tuple #[sc none 0 0 false ls wt, .slice (some ⟨g, 0, none⟩) 1 1]) ∧ w.heap.size ≤ g ∧ Blk w' g 39 (gcs k u pa pn pc []) ∧ Below w.heap.size w w' := by
  go_enter Try.func49, Try.ntmps49
  go_wp2_with fail
  go_region
  all_goals (
    go_wp2
    refine bodyPost_ret (v := .tuple #[sc none 0 0 false ls wt, .slice (some ⟨w.heap.size + 1 + 1 + 1, 0, none⟩) 1 1]) (by simp [results, Try.results49, go_sem]) rfl ?_
    refine ⟨_, rfl, by omega, ?_, ?_⟩
    · have q := (Blk.new (((w.alloc (.cells #[.slice none 0 0, .bool false, .int .i64 ls, .int .i64 wt] 31)).alloc (.cells #[.int .i64 k, .int .i64 u, .slice pa pn pc] 39)).alloc (.cells #[.slice none 0 0, .bool false, .int .i64 ls, .int .i64 wt] 31)) (gcs k u pa pn pc []) 39).below (Below.refl _ _).drew
      simpa using q
    · exact (bel_next (bel_next (bel_next (bel_alloc w _) (bel_alloc _ _)) (bel_alloc _ _)) (bel_alloc _ _)).drew)

set_option maxRecDepth 20000 in
set_option maxHeartbeats 2000000 in
theorem between_colon (a : Option Addr) (l c : Nat) (op : Bool) (ls wt b : Int) (w : World) (hb : b = 58) :
    Calls Try.prog 67 #[sc a l c op ls wt, .int .u8 b] w fun e w' => ∃ g, e = .returned (.tuple #[sc (some ⟨g, 0, none⟩) 1 1 true ls wt, .slice none 0 0]) ∧ Own w' w.heap.size (.slice (some ⟨g, 0, none⟩) 1 1) [58] ∧ Below w.heap.size w w' := by
  subst hb
  go_enter Try.func67, Try.ntmps67
  go_wp2
  refine bodyPost_ret (v := .tuple #[sc (some ⟨w.heap.size + 1 + 1, 0, none⟩) 1 1 true ls wt, .slice none 0 0]) (by simp [results, Try.results67, go_sem]) rfl ?_
  refine ⟨_, rfl, ?_, bel_next (bel_next (bel_alloc w _) (bel_alloc _ _)) (bel_alloc _ _)⟩
  have := own_lit1 ((w.alloc (.cells #[.slice (some ⟨w.heap.size + 1 + 1, 0, none⟩) 1 1, .bool true, .int .i64 ls, .int .i64 wt] 31)).alloc (.cells #[.slice (some ⟨w.heap.size + 1 + 1, 0, none⟩) 1 1, .bool true, .int .i64 ls, .int .i64 wt] 31)) 58 w.heap.size (by simp; omega)
  simpa using this

set_option maxRecDepth 20000 in
set_option maxHeartbeats 2000000 in
theorem between_pass (a : Option Addr) (l c : Nat) (op : Bool) (ls wt b : Int) (w : World) (hb : (b == 58) = false) :
    Calls Try.prog 67 #[sc a l c op ls wt, .int .u8 b] w fun e w' => e = .returned (.tuple #[sc a l c op ls wt, .slice none 0 0]) ∧ Below w.heap.size w w' := by
  go_enter Try.func67, Try.ntmps67
  go_wp2
  refine bodyPost_ret (v := .tuple #[sc a l c op ls wt, .slice none 0 0]) (by simp [results, Try.results67, go_sem]) rfl ?_
  exact ⟨rfl, bel_next (bel_alloc w _) (bel_alloc _ _)⟩

set_option maxRecDepth 20000 in
set_option maxHeartbeats 2000000 in
theorem state_open (a : Option Addr) (l c : Nat) (ls wt : Int) (w : World) :
    Calls Try.prog 50 #[sc a l c true ls wt] w fun e w' => e = .returned (.func (.func 66) #[sc a l c true ls wt] #[]) ∧ Below w.heap.size w w' := by
  have hmf : ∀ (fn : Fn) (first cap : Array Value) (w : World), (Instr.makeFunc fn first cap).run Try.prog w = .ok (.func fn first cap) w := fun _ _ _ _ => rfl
  go_enter Try.func50, Try.ntmps50
  go_wp2
  go_ret
  exact ⟨rfl, bel_alloc _ _⟩

set_option maxRecDepth 20000 in
set_option maxHeartbeats 2000000 in
theorem state_shut (a : Option Addr) (l c : Nat) (ls wt : Int) (w : World) :
    Calls Try.prog 50 #[sc a l c false ls wt] w fun e w' => e = .returned (.func (.func 67) #[sc a l c false ls wt] #[]) ∧ Below w.heap.size w w' := by
  have hmf : ∀ (fn : Fn) (first cap : Array Value) (w : World), (Instr.makeFunc fn first cap).run Try.prog w = .ok (.func fn first cap) w := fun _ _ _ _ => rfl
  go_enter Try.func50, Try.ntmps50
  go_wp2
  go_ret
  exact ⟨rfl, bel_alloc _ _⟩

set_option maxRecDepth 20000 in
set_option maxHeartbeats 4000000 in
theorem copyAscii_any (a : Option Addr) (l c : Nat) (op : Bool) (ls wt : Int) (zs : List Int) (w : World) (hn : l = zs.length) (hs : Sl w a zs) (hl : zs.length ≤ 2000000) :
    Calls Try.prog 47 #[sc a l c op ls wt] w fun e w' => ∃ g, e = .returned (sc (some ⟨g, 0, none⟩) l l op ls wt) ∧ Own w' w.heap.size (.slice (some ⟨g, 0, none⟩) l l) zs ∧ Below w.heap.size w w' := by
  have HN : Hid (l = zs.length) := hn
  obtain ⟨W0, hW0'⟩ : ∃ W0, W0 = (w.alloc (.cells #[.slice a l c, .bool op, .int .i64 ls, .int .i64 wt] 31)).alloc (.cells #[.slice none 0 0, .bool false, .int .i64 0, .int .i64 0] 31) := ⟨_, rfl⟩
  have hW0 : Hid (W0 = _) := hW0'
  have hz : W0.heap.size = w.heap.size + 1 + 1 := by rw [hW0']; simp
  have B0 : Below w.heap.size w W0 := by rw [hW0']; exact bel_next (bel_alloc w _) (bel_alloc _ _)
  have X0 : Blk W0 w.heap.size 31 #[.slice a l c, .bool op, .int .i64 ls, .int .i64 wt] := by rw [hW0']; exact ((Blk.new w _ _).below (bel_alloc _ _))
  have R0 : Blk W0 (w.heap.size + 1) 31 #[.slice none 0 0, .bool false, .int .i64 0, .int .i64 0] := by rw [hW0']; have := (Blk.new (w.alloc (.cells #[.slice a l c, .bool op, .int .i64 ls, .int .i64 wt] 31)) #[.slice none 0 0, .bool false, .int .i64 0, .int .i64 0] 31); simpa using this
  have S1 : Hid (Sl W0 a zs) := hs.below B0
  have HL : Hid (([] : List Int).length + zs.length ≤ 4000000 ∧ zs.length ≤ 2000000) := by show _ ∧ _; simp; omega
  clear hn hs hW0' hl
  go_enter Try.func47, Try.ntmps47
  go_wp2_with fail
  rw [← hW0.out]
  refine (copyT_any a l c zs _ HN.out S1.out HL.out.2).mono ?_
  rintro e w1 ⟨g, rfl, o1', b1'⟩
  have b1 := bel_next B0 b1'
  have X1 := X0.below b1'
  have R1 := R0.below b1'
  have o1 := o1'.monoT (by omega : w.heap.size ≤ W0.heap.size)
  have HN' : Hid (l = zs.length) := HN.out
  clear b1' o1' X0 R0 B0
  obtain ⟨x0, x1, x2, x3⟩ := X1.four
  obtain ⟨r0, r1, r2, r3⟩ := R1.four
  have fx := X1.fro
  have fr := R1.fro
  have HJ : Hid (Own w1 w.heap.size (.slice (some ⟨g, 0, none⟩) l l) zs ∧ Below w.heap.size w w1 ∧ ExB w1 w.heap.size 31 ∧ ExB w1 (w.heap.size + 1) 31) := ⟨o1, b1, ⟨_, X1⟩, ⟨_, R1⟩⟩
  clear X1 R1 o1 b1
  go_wp2
  refine bodyPost_ret (v := sc (some ⟨g, 0, none⟩) l l op ls wt) (by simp [results, Try.results47, go_sem, r0, r1, r2, r3]) rfl ?_
  obtain ⟨j3, b3, eX, eR⟩ := HJ.out
  exact ⟨_, rfl, (show Own _ _ _ _ from (row_setE (row_setE (row_setE (row_setE (row_setE j3 eX (by decide)) (ExB.set eR) (by decide)) (ExB.set (ExB.set eR)) (by decide)) (ExB.set (ExB.set (ExB.set eR))) (by decide)) (ExB.set (ExB.set (ExB.set (ExB.set eR)))) (by decide))), (((((b3.setCell (p := ⟨w.heap.size, 0, none⟩) (by show w.heap.size ≤ w.heap.size; omega) _).setCell (p := ⟨w.heap.size + 1, 0, none⟩) (by show w.heap.size ≤ w.heap.size + 1; omega) _).setCell (p := ⟨w.heap.size + 1, 1, none⟩) (by show w.heap.size ≤ w.heap.size + 1; omega) _).setCell (p := ⟨w.heap.size + 1, 2, none⟩) (by show w.heap.size ≤ w.heap.size + 1; omega) _).setCell (p := ⟨w.heap.size + 1, 3, none⟩) (by show w.heap.size ≤ w.heap.size + 1; omega) _)⟩

end Go.Proofs.Ytmcednhinafpeaa

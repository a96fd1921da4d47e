/- Drawn rings. -/
import Derived.Test.YtckmffhdngfchaaDraw1
import Derived.Test.YtckmffhdngfchaaRing6
namespace Go.Proofs.Ytckmffhdngfchaa
open Go.RowKit

set_option maxHeartbeats 1000000 in
theorem l1Once_any (w0 : World) (a : Option Addr) (cap : Nat) (zs : List Int) (w : World) (g : Nat) (n : Int) (hn : 1 ≤ n) (hC : Cur w0 a cap zs w g) :
    Calls Try.prog 30 #[.pointer (some ⟨g, 0, none⟩), .int .i64 n] w fun e w' => ∃ t : Bool, e = .returned (.bool t) ∧ Cur w0 a cap zs w' g ∧ w.grownBy w' (some g) := by
  go_enter Try.func30, Try.ntmps30
  go_wp2_with fail
  refine (l1Below_any w0 a cap zs _ g n hn hC).mono ?_
  rintro e w1 ⟨x, rfl, _, C1, g1⟩
  have R : Hid (Cur w0 a cap zs w1 g ∧ w.grownBy w1 (some g)) := ⟨C1, g1⟩
  clear hC C1 g1
  go_wp2
  go_ret
  exact ⟨_, rfl, R.out⟩

theorem grown_setNew {w w3 : World} {g b o : Nat} {v : Value} (h : w.grownBy w3 (some g)) (hb : w.heap.size ≤ b) : w.grownBy (w3.setCell ⟨b, o, none⟩ v) (some g) :=
  ⟨h.os, h.tape, h.output, by simpa [World.setCell] using h.size, fun k hk hne => by rw [Below.heap_setCell _ _ _ _ (by show k ≠ b; omega)]; exact h.block k hk hne⟩

theorem Cur.setOther {w0 w : World} {a : Option Addr} {cap g b o : Nat} {zs : List Int} {v : Value} (h : Cur w0 a cap zs w g) (hne : g ≠ b) (hb : w0.heap.size ≤ b) : Cur w0 a cap zs (w.setCell ⟨b, o, none⟩ v) g :=
  h.grown (grown_setb w b o v) (by simp; exact hne) (fun k hk => by simp at hk; omega)

/-- What drawing a ring ends with. -/
def DrawnR (w0 : World) (a : Option Addr) (cap : Nat) (zs : List Int) (w : World) (g : Nat) (e : Ending) (w' : World) : Prop :=
  ∃ (ad : Addr) (n c : Nat) (rs : List Int), e = .returned (.agg #[.slice (some ad) n c]) ∧ n = rs.length ∧ n ≤ 302 ∧ Own w' w.heap.size (.slice (some ad) n c) rs ∧ Cur w0 a cap zs w' g ∧ w.grownBy w' (some g)

set_option maxHeartbeats 2000000 in
theorem l2Ring_any (w0 : World) (a : Option Addr) (cap : Nat) (zs : List Int) (w : World) (g : Nat) (hC : Cur w0 a cap zs w g) :
    Calls Try.prog 26 #[.pointer (some ⟨g, 0, none⟩)] w fun e w' => DrawnR w0 a cap zs w g e w' := by
  have hg := hC.hi
  have hlo := hC.lo
  have C0 := hC.alloc (.cells #[.slice none 0 0] 25)
  have G0 : w.grownBy (w.alloc (.cells #[.slice none 0 0] 25)) (some g) := World.grownBy_alloc _ _ _
  have r0 := Box.new w (.slice none 0 0) 25
  have hne : some g ≠ some w.heap.size := by simp; omega
  clear hC
  go_enter Try.func26, Try.ntmps26
  go_wp2_with fail
  refine (l1Once_any w0 a cap zs _ g _ (by decide) C0).mono ?_
  rintro e w1 ⟨t, rfl, C1, g1⟩
  have G1 := grown_trans G0 g1
  have r1 := r0.grown g1 hne
  clear C0 G0 r0 g1
  cases t with
  | true =>
    go_wp2_with fail
    refine (l1Below_any w0 a cap zs _ g _ (by decide) C1).mono ?_
    rintro e w2 ⟨x, rfl, hx, C2, g2⟩
    obtain ⟨k, rfl⟩ := Int.eq_ofNat_of_zero_le hx.1
    have hk4 : k < 4 := by omega
    have G2 := grown_trans G1 g2
    have r2 := r1.grown g2 hne
    clear C1 G1 r1 g2 hx
    obtain ⟨K, hK⟩ : ∃ K, K = 298 + k := ⟨_, rfl⟩
    have hKi : (298 : Int) + (k : Int) = (K : Int) := by omega
    have hKb : K ≤ 302 := by omega
    have hmk := run_make_row' (P := Try.prog) 22 5 (.int .u8 0) 1 Try.underlying22 Try.info5 rfl .i64 .i64 K (by omega) (by omega)
    have r2' : Box (w2.setCell ⟨w.heap.size, 0, none⟩ (.slice (some ⟨w2.heap.size, 0, none⟩) K K)) w.heap.size 25 (.slice (some ⟨w2.heap.size, 0, none⟩) K K) := r2.set _
    have C2' := C2.setOther (b := w.heap.size) (o := 0) (v := .slice (some ⟨w2.heap.size, 0, none⟩) K K) (by omega) (by omega)
    have G2' := grown_setNew (b := w.heap.size) (o := 0) (v := .slice (some ⟨w2.heap.size, 0, none⟩) K K) G2 (Nat.le_refl _)
    have hsz2 : (w2.setCell ⟨w.heap.size, 0, none⟩ (.slice (some ⟨w2.heap.size, 0, none⟩) K K)).heap.size = w2.heap.size := by simp [World.setCell]
    have cr := r2.cell
    have fr := r2.fro
    generalize hW : w2.setCell ⟨w.heap.size, 0, none⟩ (.slice (some ⟨w2.heap.size, 0, none⟩) K K) = W2 at r2' C2' G2' hsz2
    have q3 := World.rowIs_made W2 (.int .u8 0) K 5
    rw [hsz2] at q3
    have o3 : Own (W2.alloc (.cells (madeCells #[.int .u8 0] K) 5)) w.heap.size (.slice (some ⟨w2.heap.size, 0, none⟩) K K) (List.replicate K 0) :=
      Own.ofRow (q3.congr (fun i hi => by simp [hi])) (by simp) G2.size (by unfold maxLen; omega)
    have C3 := C2'.alloc (.cells (madeCells #[.int .u8 0] K) 5)
    have G3 : w.grownBy (W2.alloc (.cells (madeCells #[.int .u8 0] K) 5)) (some g) := grown_trans G2' (World.grownBy_alloc _ _ _)
    have cr3 := (r2'.below (bel_alloc W2 (.cells (madeCells #[.int .u8 0] K) 5))).cell
    have H : Hid (DrawnR w0 a cap zs w g (.returned (.agg #[.slice (some ⟨w2.heap.size, 0, none⟩) K K])) (W2.alloc (.cells (madeCells #[.int .u8 0] K) 5))) :=
      ⟨_, _, _, List.replicate K 0, rfl, by simp, by omega, o3, C3, G3⟩
    have hlt : w.heap.size < w2.heap.size := r2.lt
    have HW : Hid (w2.setCell ⟨w.heap.size, 0, none⟩ (.slice (some ⟨w2.heap.size, 0, none⟩) K K) = W2) := hW
    have Hcr3 : Hid ((W2.alloc (.cells (madeCells #[.int .u8 0] K) 5)).cell? ⟨w.heap.size, 0, none⟩ = some (.slice (some ⟨w2.heap.size, 0, none⟩) K K)) := cr3
    clear q3 o3 C2 C3 C2' G2 G2' G3 r2 r2' hW hsz2 hK cr3
    go_wp2
    rw [HW.out]
    have cr3 := Hcr3.out
    refine bodyPost_ret (v := .agg #[.slice (some ⟨w2.heap.size, 0, none⟩) K K]) (by simp [results, Try.results26, go_sem, cr3]) rfl ?_
    exact H.out
  | false =>
    go_wp2_with fail
    refine (l1Some_any w0 a cap zs _ g C1).mono ?_
    rintro e w2 ⟨ad, n, c, bs, rfl, hn, hn20, o2, _, C2, g2⟩
    have G2 := grown_trans G1 g2
    have r2 := r1.grown g2 hne
    have cr := r2.cell
    have fr := r2.fro
    have H : Hid (DrawnR w0 a cap zs w g (.returned (.agg #[.slice (some ad) n c])) (w2.setCell ⟨w.heap.size, 0, none⟩ (.slice (some ad) n c))) :=
      ⟨_, _, _, bs, rfl, hn, by omega, (o2.mono' G1.size).setb r2 (by decide), C2.setOther (by omega) (by omega), grown_setNew G2 (Nat.le_refl _)⟩
    clear o2 C1 C2 G1 G2 r1 r2 g2 hn
    go_wp2
    refine bodyPost_ret (v := .agg #[.slice (some ad) n c]) (by simp [results, Try.results26, go_sem, cr]) rfl ?_
    exact H.out

theorem Own.capLe {w : World} {base n cap : Nat} {a : Option Addr} {zs : List Int} (h : Own w base (.slice a n cap) zs) : n ≤ cap := by
  by_cases h0 : n = 0
  · omega
  · obtain ⟨_, _, _, _, _, _, hle, _⟩ := h.cells (by omega); exact hle

set_option maxHeartbeats 2000000 in
theorem drawRingPut_any (w : World) (a : Option Addr) (n cap : Nat) (zs : List Int) (hn : n = zs.length) (hs : Sl w a zs) (hr : ∀ z ∈ zs, 0 ≤ z ∧ z ≤ 255) (hl : zs.length ≤ 1048576) :
    Calls Try.prog 7 #[.slice a n cap] w fun e w' => ∃ (ad ad' : Addr) (n m c c' : Nat) (rs bs : List Int), e = .returned (.tuple #[.agg #[.slice (some ad) n c], .slice (some ad') m c']) ∧ n = rs.length ∧ n ≤ 302 ∧ m = bs.length ∧ m ≤ 20 ∧ m ≤ c' ∧
      Own w' w.heap.size (.slice (some ad) n c) rs ∧ Own w' w.heap.size (.slice (some ad') m c') bs ∧ Below w.heap.size w w' := by
  have HNN : Hid (n = zs.length) := hn
  obtain ⟨W0, hW0'⟩ : ∃ W0, W0 = w.alloc (.cells #[.slice none 0 0] 25) := ⟨_, rfl⟩
  have hW0 : Hid (W0 = _) := hW0'
  have b0 : Below w.heap.size w W0 := by rw [hW0']; exact bel_alloc w _
  have r0 : Box W0 w.heap.size 25 (.slice none 0 0) := by rw [hW0']; exact Box.new w _ _
  have hlt0 : w.heap.size < W0.heap.size := r0.lt
  have Hs : Hid (Sl _ a zs) := hs.below b0
  clear hs hn hW0'
  go_enter Try.func7, Try.ntmps7
  go_upto_region 1 with fail
  rw [← hW0.out]
  go_wp2_with fail
  refine (l1New_any _ a _ cap zs HNN.out Hs.out hr hl).mono ?_
  rintro e w1 ⟨rfl, C1, g1⟩
  have B1 : Below w.heap.size w w1 := bel_next b0 C1.bel
  have r1 := r0.below C1.bel
  have hc1 := C1.hi
  have HB0 : Hid (Below w.heap.size w W0) := b0
  clear hr g1 r0 b0
  go_wp2_with fail
  refine (l2Ring_any _ a cap zs _ _ C1).mono ?_
  rintro e w2 ⟨ad, n, c, rs, rfl, hn', hn302, o2, C2, g2⟩
  have HN : Hid (n = rs.length) := hn'
  have B2 := bel_next HB0.out C2.bel
  have r2 := r1.grown g2 (by simp; omega)
  have hsz1 : w.heap.size ≤ w1.heap.size := B1.size
  clear C1 hn' B1 r1
  go_wp2_with fail
  refine (l1Some_any _ a cap zs _ _ C2).mono ?_
  rintro e w3 ⟨ad', m, c', bs, rfl, hm', hm20, o3, _, C3, g3⟩
  have HM : Hid (m = bs.length) := hm'
  have B3 := bel_next HB0.out C3.bel
  have r3 := r2.grown g3 (by simp; omega)
  have o3' := o2.notCur g3 hc1
  have cr := r3.cell
  have fr := r3.fro
  have hcc := o3.capLe
  have H : Hid (Own w3 w.heap.size (.slice (some ad) n c) rs ∧ Own w3 w.heap.size (.slice (some ad') m c') bs ∧ Box w3 w.heap.size 25 (.slice none 0 0) ∧ Below w.heap.size w w3) := ⟨o3'.mono' hsz1, o3.mono' B2.size, r3, B3⟩
  clear o2 o3 o3' C2 C3 g2 g3 r2 r3 hm' B2 B3
  go_wp2
  refine bodyPost_ret (v := .tuple #[.agg #[.slice (some ad) n c], .slice (some ad') m c']) (by simp [results, Try.results7, go_sem, cr]) rfl ?_
  exact ⟨ad, ad', n, m, c, c', rs, bs, rfl, HN.out, hn302, HM.out, hm20, hcc, H.out.1.setb H.out.2.2.1 (by decide), H.out.2.1.setb H.out.2.2.1 (by decide), H.out.2.2.2.setCell (Nat.le_refl _) _⟩

set_option maxHeartbeats 1000000 in
theorem at_any (a : Option Addr) (n cap : Nat) (zs : List Int) (w : World) (hn : n = zs.length) (hs : Sl w a zs) (hr : ∀ z ∈ zs, 0 ≤ z ∧ z ≤ 255) (hl : n ≤ 1048576) :
    Calls Try.prog 11 #[.slice a n cap, .int .i64 2] w fun e w' => ∃ y : Int, e = .returned (.int .i64 y) ∧ 0 ≤ y ∧ y ≤ 255 ∧ w' = w := by
  by_cases h : 2 < n
  · obtain ⟨b, off, rfl, _, hc⟩ := cell_at hs (k := 2) (by omega)
    have rg := get_range hr 2
    generalize zs.getD 2 0 = z at *
    have h' : (2 : Int) < (n : Int) := by omega
    clear hs hr hn
    go_enter Try.func11, Try.ntmps11
    go_wp2
    go_ret
    exact ⟨_, rfl, rg.1, rg.2, rfl⟩
  · have h' : ¬ ((2 : Int) < (n : Int)) := by omega
    clear hs hr hn
    go_enter Try.func11, Try.ntmps11
    go_wp2
    go_ret
    exact ⟨_, rfl, by omega, by omega, rfl⟩

end Go.Proofs.Ytckmffhdngfchaa

/- Texts that the proof needs, joined. -/
import Derived.Test.YtaaokbmfpfmfgaaReq1
import Derived.WideMake
import Derived.Carry
import Derived.Laws.CopyOwn
import Derived.Deep.RegionHeld3
import Derived.Test.YtaaokbmfpfmfgaaPMm
import Derived.Test.YtaaokbmfpfmfgaaRu3
import Derived.Test.YtaaokbmfpfmfgaaRgX
import Derived.Test.YtaaokbmfpfmfgaaRgW
import Derived.Test.YtaaokbmfpfmfgaaSr10
namespace Go.Proofs.Ytaaokbmfpfmfgaa
open Go.RowKit

set_option linter.unusedVariables false

set_option linter.unusedSimpArgs false

theorem szq4 : (Try.prog.info? 4).map (·.size) = some 1 := by kernel_rfl

theorem slB_at {w : World} {b off : Nat} {zs : List Bool} (h : SlB w (some ⟨b, off, none⟩) zs) : ∀ j v, (zs.map Value.bool)[j]? = some v → w.cell? (Addr.add ⟨b, off, none⟩ j) = some v := by
  intro j v hj
  have hlt : j < zs.length := by
    rcases Nat.lt_or_ge j zs.length with q | q
    · exact q
    · rw [List.getElem?_eq_none (by simpa using q)] at hj; cases hj
  obtain ⟨b', off', e, _, hc⟩ := cell_atB h hlt
  simp at e
  obtain ⟨rfl, rfl⟩ := e
  have ev : v = .bool (zs.getD j false) := by
    rw [List.getElem?_map, List.getElem?_eq_getElem hlt] at hj
    simp at hj
    rw [← hj, List.getD_eq_getElem?_getD, List.getElem?_eq_getElem hlt]; rfl
  rw [ev]
  by_cases e0 : j = 0
  · subst e0; simpa [Addr.add] using hc
  · simpa [Addr.add, e0] using hc

theorem onesB (zs : List Bool) : ∀ v ∈ zs.map Value.bool, v.oneCell' = true := by
  intro v hv
  obtain ⟨z, _, rfl⟩ := List.mem_map.1 hv
  rfl

theorem OwnB.ofHeap {w : World} {base g n : Nat} {zs : List Bool} (h : w.heap[g]? = some (.cells (zs.map Value.bool).toArray 4 (0, 0))) (hn : n = zs.length) (hb : base ≤ g) (hm : n ≤ maxLen) : OwnB w base (.slice (some ⟨g, 0, none⟩) n n) zs := by
  subst hn
  exact ⟨by simp, .inr ⟨g, zs.length, (zs.map Value.bool).toArray, rfl, hb, h, Nat.le_refl _, hm, by simp, by simp; exact List.take_of_length_le (by simp)⟩⟩

theorem splice_allB {α : Type} (L cs : List α) (h : cs.length = L.length) : splice L 0 cs = cs := by simp [splice, h]

theorem made_rowB (w : World) (n : Nat) : ∃ Z : List Value, Z.length = n ∧ (w.alloc (.cells (madeCells #[.bool false] n) 4)).heap[w.heap.size]? = some (.cells Z.toArray 4 (0, 0)) := by
  obtain ⟨c, hc, hsz, _⟩ := World.rowIs_made w (.bool false) n 4
  exact ⟨c.toList, by simpa using hsz, by simpa using hc⟩

set_option maxHeartbeats 1000000 in
theorem copyOfB (a : Option Addr) (n cap : Nat) (zs : List Bool) (w : World) (hn : n = zs.length) (hs : SlB w a zs) (hl : zs.length ≤ 2000000) :
    Calls Try.prog 106 #[.slice a n cap] w fun e w' => ∃ g, e = .returned (.slice (some ⟨g, 0, none⟩) n n) ∧ OwnB w' w.heap.size (.slice (some ⟨g, 0, none⟩) n n) zs ∧ Below w.heap.size w w' := by
  have hm : n ≤ maxLen := by unfold maxLen; omega
  have hmk := run_make_row' (P := Try.prog) 26 4 (.bool false) 1 Try.underlying26 Try.info4 rfl .i64 .i64 n (by omega) (by omega)
  obtain ⟨Z, hZ, hZh⟩ := made_rowB w n
  have HZ : Hid (Z.length = n) := hZ
  have HZh : Hid ((w.alloc (.cells (madeCells #[.bool false] n) 4)).heap[w.heap.size]? = some (.cells Z.toArray 4 (0, 0))) := hZh
  have HN : Hid (n = zs.length) := hn
  have b0 : Below w.heap.size w (w.alloc (.cells (madeCells #[.bool false] n) 4)) := (Below.refl _ w).alloc (Nat.le_refl _) _
  have hs1 := SlB.below hs b0
  obtain ⟨X, hX⟩ : ∃ X, X = zs.map Value.bool := ⟨_, rfl⟩
  have HX : Hid (X = zs.map Value.bool) := hX
  have hXl : Hid (X.length = n) := by show X.length = n; rw [hX, hn]; simp
  have hpos : 0 < X.length → ∃ ad, a = some ad ∧ ∀ j v, X[j]? = some v → (w.alloc (.cells (madeCells #[.bool false] n) 4)).cell? (ad.add j) = some v := by
    intro h
    rcases hs1 with h0 | ⟨b, off, ha, hb, hc⟩
    · rw [hX, h0] at h; simp at h
    · exact ⟨⟨b, off, none⟩, ha, by rw [hX]; exact slB_at (.inr ⟨b, off, rfl, hb, hc⟩)⟩
  have hone : ∀ v ∈ X, v.oneCell' = true := by rw [hX]; exact onesB zs
  have HP : Hid (0 < X.length → ∃ ad, a = some ad ∧ ∀ j v, X[j]? = some v → (w.alloc (.cells (madeCells #[.bool false] n) 4)).cell? (ad.add j) = some v) := hpos
  clear hs hs1 hn hZ hX hpos hZh
  go_enter Try.func106, Try.ntmps106
  go_wp2_with ((refine wpList_copy_splice rfl (.tmp 7) (.tmp 8) 26 26 rfl 4 Try.underlying26 szq4 _ _ _ _ _ _ rfl rfl w.heap.size 0 Z 4 HZh.out X (by rw [hXl.out]; exact (Nat.min_self n).symm) (fun h => ⟨rfl, HP.out h⟩) (by rw [hXl.out, HZ.out]; omega) hone w.heap.size w b0 (Nat.le_refl _) ?_); intro w2 H2 b2)
  have O2 : OwnB w2 w.heap.size (.slice (some ⟨w.heap.size, 0, none⟩) n n) zs := OwnB.ofHeap (by rw [← HX.out, ← splice_allB Z X (by rw [hXl.out, HZ.out])]; exact H2.out) HN.out (Nat.le_refl _) hm
  go_ret
  exact ⟨_, rfl, O2, b2⟩

theorem szq3 : (Try.prog.info? 3).map (·.size) = some 1 := by kernel_rfl

theorem slI_at {w : World} {b off : Nat} {zs : List Int} (h : SlI w (some ⟨b, off, none⟩) zs) : ∀ j v, (zs.map (Value.int .i64))[j]? = some v → w.cell? (Addr.add ⟨b, off, none⟩ j) = some v := by
  intro j v hj
  have hlt : j < zs.length := by
    rcases Nat.lt_or_ge j zs.length with q | q
    · exact q
    · rw [List.getElem?_eq_none (by simpa using q)] at hj; cases hj
  obtain ⟨b', off', e, _, hc⟩ := cell_atI h hlt
  simp at e
  obtain ⟨rfl, rfl⟩ := e
  have ev : v = .int .i64 (zs.getD j 0) := by
    rw [List.getElem?_map, List.getElem?_eq_getElem hlt] at hj
    simp at hj
    rw [← hj, List.getD_eq_getElem?_getD, List.getElem?_eq_getElem hlt]; rfl
  rw [ev]
  by_cases e0 : j = 0
  · subst e0; simpa [Addr.add] using hc
  · simpa [Addr.add, e0] using hc

theorem onesI (zs : List Int) : ∀ v ∈ zs.map (Value.int .i64), v.oneCell' = true := by
  intro v hv
  obtain ⟨z, _, rfl⟩ := List.mem_map.1 hv
  rfl

theorem OwnI.ofHeap {w : World} {base g n : Nat} {zs : List Int} (h : w.heap[g]? = some (.cells (zs.map (Value.int .i64)).toArray 3 (0, 0))) (hn : n = zs.length) (hb : base ≤ g) (hm : n ≤ maxLen) : OwnI w base (.slice (some ⟨g, 0, none⟩) n n) zs := by
  subst hn
  exact ⟨by simp, .inr ⟨g, zs.length, (zs.map (Value.int .i64)).toArray, rfl, hb, h, Nat.le_refl _, hm, by simp, by simp; exact List.take_of_length_le (by simp)⟩⟩

theorem splice_allI {α : Type} (L cs : List α) (h : cs.length = L.length) : splice L 0 cs = cs := by simp [splice, h]

theorem made_rowI (w : World) (n : Nat) : ∃ Z : List Value, Z.length = n ∧ (w.alloc (.cells (madeCells #[.int .i64 0] n) 3)).heap[w.heap.size]? = some (.cells Z.toArray 3 (0, 0)) := by
  obtain ⟨c, hc, hsz, _⟩ := World.rowIs_made w (.int .i64 0) n 3
  exact ⟨c.toList, by simpa using hsz, by simpa using hc⟩

set_option maxHeartbeats 1000000 in
theorem copyOfI (a : Option Addr) (n cap : Nat) (zs : List Int) (w : World) (hn : n = zs.length) (hs : SlI w a zs) (hl : zs.length ≤ 2000000) :
    Calls Try.prog 107 #[.slice a n cap] w fun e w' => ∃ g, e = .returned (.slice (some ⟨g, 0, none⟩) n n) ∧ OwnI w' w.heap.size (.slice (some ⟨g, 0, none⟩) n n) zs ∧ Below w.heap.size w w' := by
  have hm : n ≤ maxLen := by unfold maxLen; omega
  have hmk := run_make_row' (P := Try.prog) 25 3 (.int .i64 0) 8 Try.underlying25 Try.infoI3 rfl .i64 .i64 n (by omega) (by omega)
  obtain ⟨Z, hZ, hZh⟩ := made_rowI w n
  have HZ : Hid (Z.length = n) := hZ
  have HZh : Hid ((w.alloc (.cells (madeCells #[.int .i64 0] n) 3)).heap[w.heap.size]? = some (.cells Z.toArray 3 (0, 0))) := hZh
  have HN : Hid (n = zs.length) := hn
  have b0 : Below w.heap.size w (w.alloc (.cells (madeCells #[.int .i64 0] n) 3)) := (Below.refl _ w).alloc (Nat.le_refl _) _
  have hs1 := SlI.below hs b0
  obtain ⟨X, hX⟩ : ∃ X, X = zs.map (Value.int .i64) := ⟨_, rfl⟩
  have HX : Hid (X = zs.map (Value.int .i64)) := hX
  have hXl : Hid (X.length = n) := by show X.length = n; rw [hX, hn]; simp
  have hpos : 0 < X.length → ∃ ad, a = some ad ∧ ∀ j v, X[j]? = some v → (w.alloc (.cells (madeCells #[.int .i64 0] n) 3)).cell? (ad.add j) = some v := by
    intro h
    rcases hs1 with h0 | ⟨b, off, ha, hb, hc⟩
    · rw [hX, h0] at h; simp at h
    · exact ⟨⟨b, off, none⟩, ha, by rw [hX]; exact slI_at (.inr ⟨b, off, rfl, hb, hc⟩)⟩
  have hone : ∀ v ∈ X, v.oneCell' = true := by rw [hX]; exact onesI zs
  have HP : Hid (0 < X.length → ∃ ad, a = some ad ∧ ∀ j v, X[j]? = some v → (w.alloc (.cells (madeCells #[.int .i64 0] n) 3)).cell? (ad.add j) = some v) := hpos
  clear hs hs1 hn hZ hX hpos hZh
  go_enter Try.func107, Try.ntmps107
  go_wp2_with ((refine wpList_copy_splice rfl (.tmp 7) (.tmp 8) 25 25 rfl 3 Try.underlying25 szq3 _ _ _ _ _ _ rfl rfl w.heap.size 0 Z 3 HZh.out X (by rw [hXl.out]; exact (Nat.min_self n).symm) (fun h => ⟨rfl, HP.out h⟩) (by rw [hXl.out, HZ.out]; omega) hone w.heap.size w b0 (Nat.le_refl _) ?_); intro w2 H2 b2)
  have O2 : OwnI w2 w.heap.size (.slice (some ⟨w.heap.size, 0, none⟩) n n) zs := OwnI.ofHeap (by rw [← HX.out, ← splice_allI Z X (by rw [hXl.out, HZ.out])]; exact H2.out) HN.out (Nat.le_refl _) hm
  go_ret
  exact ⟨_, rfl, O2, b2⟩

theorem slI_off {w : World} {g off k N : Nat} {hs : List Int} (h : SlI w (some ⟨g, off, none⟩) hs) (hk : k + N ≤ hs.length) : SlI w (some ⟨g, off + k, none⟩) ((hs.drop k).take N) := by
  by_cases h0 : N = 0
  · subst h0; exact .inl (by simp)
  rcases h with h | ⟨b, off', e, hb, hc⟩
  · rw [h] at hk; simp at hk; omega
  · simp at e
    obtain ⟨rfl, rfl⟩ := e
    refine .inr ⟨g, off + k, rfl, hb, fun i hi => ?_⟩
    simp at hi
    have := hc (k + i) (by omega)
    rw [Nat.add_assoc, this, List.getD_eq_getElem?_getD, List.getD_eq_getElem?_getD, List.getElem?_take, if_pos (by omega), List.getElem?_drop]

theorem slB_off {w : World} {g off k N : Nat} {hs : List Bool} (h : SlB w (some ⟨g, off, none⟩) hs) (hk : k + N ≤ hs.length) : SlB w (some ⟨g, off + k, none⟩) ((hs.drop k).take N) := by
  by_cases h0 : N = 0
  · subst h0; exact .inl (by simp)
  rcases h with h | ⟨b, off', e, hb, hc⟩
  · rw [h] at hk; simp at hk; omega
  · simp at e
    obtain ⟨rfl, rfl⟩ := e
    refine .inr ⟨g, off + k, rfl, hb, fun i hi => ?_⟩
    simp at hi
    have := hc (k + i) (by omega)
    rw [Nat.add_assoc, this, List.getD_eq_getElem?_getD, List.getD_eq_getElem?_getD, List.getElem?_take, if_pos (by omega), List.getElem?_drop]

theorem slI_some {w : World} {a : Option Addr} {zs : List Int} (h : SlI w a zs) (hp : 0 < zs.length) : ∃ b off, a = some ⟨b, off, none⟩ := by
  rcases h with h | ⟨b, off, e, _⟩
  · rw [h] at hp; simp at hp
  · exact ⟨b, off, e⟩

theorem slB_some {w : World} {a : Option Addr} {zs : List Bool} (h : SlB w a zs) (hp : 0 < zs.length) : ∃ b off, a = some ⟨b, off, none⟩ := by
  rcases h with h | ⟨b, off, e, _⟩
  · rw [h] at hp; simp at hp
  · exact ⟨b, off, e⟩

end Go.Proofs.Ytaaokbmfpfmfgaa

namespace Go.Proofs.Ytaaokbmfpfmfgaa
open Go.RowKit

set_option linter.unusedVariables false

set_option linter.unusedSimpArgs false

/-- A part: port, unit, and a question. -/
structure Pa where
  p : Int
  t : Int
  kd : Int
  pl : Int
  n : Int
  wa : Int
  ws : List Int
  bs : List Bool

instance : Inhabited Pa := ⟨⟨0, 0, 0, 0, 0, 0, [], []⟩⟩

/-- The eight cells of a part. -/
abbrev ptl (P : Pa) (a1 a2 : Option Addr) (c1 c2 : Nat) : List Value := [.int .i64 P.p, .int .i64 P.t, .int .i64 P.kd, .int .i64 P.pl, .int .i64 P.n, .slice a1 P.ws.length c1, .slice a2 P.bs.length c2, .int .i64 P.wa]

/-- What the call of part ends with. -/
def PartPost (w w' : World) (e : Ending) (P : Pa) : Prop :=
  ∃ a1 a2 l1 l2 c1 c2, e = .returned (.agg #[.int .i64 P.p, .int .i64 P.t, .int .i64 P.kd, .int .i64 P.pl, .int .i64 P.n, .slice a1 l1 c1, .slice a2 l2 c2, .int .i64 P.wa]) ∧ l1 = P.ws.length ∧ l2 = P.bs.length ∧ OwnI w' w.heap.size (.slice a1 l1 c1) P.ws ∧ OwnB w' w.heap.size (.slice a2 l2 c2) P.bs ∧ Below w.heap.size w w'

theorem setL_gr {g : Nat} : ∀ (vs : List Value) (w : World) (o : Nat), w.grownBy (setL w g o vs) (some g)
  | [], w, o => World.grownBy.refl w _
  | v :: vs, w, o => by
    have h1 := grown_setb w g o v
    have h2 := setL_gr (g := g) vs (w.setCell ⟨g, o, none⟩ v) (o + 1)
    exact ⟨h2.os.trans h1.os, h2.tape.trans h1.tape, h2.output.trans h1.output, Nat.le_trans h1.size h2.size, fun k hk hne => by rw [show setL w g o (v :: vs) = setL (w.setCell ⟨g, o, none⟩ v) g (o + 1) vs from rfl, h2.block k (Nat.lt_of_lt_of_le hk h1.size) hne, h1.block k hk hne]⟩

theorem row_setL {w : World} {base size n g o : Nat} {e t : TypeId} {v : Value} {xs vs : List Value} (h : w.ownsRow base e size v n xs) (hb : ExB w g t) (ht : t ≠ e) : (setL w g o vs).ownsRow base e size v n xs := by
  obtain ⟨cs, hb⟩ := hb
  exact World.ownsRow.kept h (setL_gr vs w o) (.inr (row_noBlk h hb ht))

theorem ownI_z (w : World) (base : Nat) : OwnI w base (.slice none 0 0) [] := World.ownsRow_nil w base _ _

theorem ownB_z (w : World) (base : Nat) : OwnB w base (.slice none 0 0) [] := World.ownsRow_nil w base _ _

set_option maxRecDepth 20000 in
set_option maxHeartbeats 1000000 in
theorem part_5 (r : Ru) (ac pl nn wa : Int) (q1 q2 : Option Addr) (m1 m2 k1 k2 fr N : Nat) (bs : List Bool) (w : World) (h1 : 0 ≤ ac ∧ ac ≤ 65535) (h2 : -65535 ≤ r.sh ∧ r.sh ≤ 65535) (h3 : 0 ≤ pl ∧ pl ≤ 65535) (hm : m2 = bs.length) (hs : SlB w q2 bs) (hl : bs.length ≤ 2000000) (hkk : m2 ≤ k2) (hfr : ac - pl = (fr : Int)) (hin : fr + N ≤ bs.length) (hpos : 0 < N) :
    Calls Try.prog 88 #[.agg #[.int .i64 r.u, .int .i64 r.s, .int .i64 r.lo, .int .i64 r.hi, .int .i64 r.p, .int .i64 r.t, .int .i64 r.sh, .int .i64 ac, .int .i64 (N : Int)], .agg (rqc 5 pl nn wa q1 q2 m1 m2 k1 k2)] w fun e w' => PartPost w w' e ⟨r.p, r.t, 5, ac + r.sh, 0, 0, [], ((bs.drop fr).take N)⟩ := by
  obtain ⟨b, off, rfl⟩ := slB_some hs (by omega)
  have w1 : IntKind.i64.wrap (ac + r.sh) = ac + r.sh := by rw [IntKind.wrap_i64]; omega
  have w2 : IntKind.i64.wrap (ac - pl) = (fr : Int) := by rw [IntKind.wrap_i64]; omega
  have bZ : Below w.heap.size w ((((w.alloc (.cells #[.int .i64 r.u, .int .i64 r.s, .int .i64 r.lo, .int .i64 r.hi, .int .i64 r.p, .int .i64 r.t, .int .i64 r.sh, .int .i64 ac, .int .i64 (N : Int)] 112)).alloc (.cells (rqc 5 pl nn wa q1 (some ⟨b, off, none⟩) m1 m2 k1 k2) 28)).alloc (.cells #[.int .i64 0, .int .i64 0, .int .i64 0, .int .i64 0, .int .i64 0, .slice none 0 0, .slice none 0 0, .int .i64 0] 37)).alloc (.cells (rqc 5 (ac + r.sh) 0 0 none none 0 0 0 0) 28)) := ((((Below.refl _ w).alloc (Nat.le_refl _) _).alloc (by simp) _).alloc (by simp; omega) _).alloc (by simp; omega) _
  have hck : ¬ k2 = fr := by omega
  have i0 : (fr : Int) ≤ (fr : Int) + (N : Int) := by omega
  have i1 : (fr : Int) + (N : Int) ≤ (m2 : Int) := by omega
  have i2 : (fr : Int) + (N : Int) ≤ (k2 : Int) := by omega
  have i3' : (0 : Int) ≤ (fr : Int) := by omega
  have i4 : (0 : Int) ≤ (fr : Int) + (N : Int) := by omega
  have i5 : IntKind.i64.wrap ((fr : Int) + (N : Int)) = (fr : Int) + (N : Int) := by rw [IntKind.wrap_i64]; omega
  have i6 : (fr : Int) ≤ (k2 : Int) := by omega
  have HQ : Hid (N = ((bs.drop fr).take N).length ∧ SlB w (some ⟨b, off + fr, none⟩) ((bs.drop fr).take N) ∧ ((bs.drop fr).take N).length ≤ 2000000) := ⟨by simp; omega, slB_off hs hin, by simp; omega⟩
  clear hs hl hm hin hkk hfr
  go_enter Try.func88, Try.ntmps88
  go_wp2_with fail
  refine (copyOfB (some ⟨b, off + fr, none⟩) N (k2 - fr) _ _ HQ.out.1 (HQ.out.2.1.below bZ) HQ.out.2.2).mono ?_
  rintro e w3 ⟨g3, rfl, i3, b'⟩
  obtain ⟨Z, hZ⟩ : ∃ Z, Z = ((((w.alloc (.cells #[.int .i64 r.u, .int .i64 r.s, .int .i64 r.lo, .int .i64 r.hi, .int .i64 r.p, .int .i64 r.t, .int .i64 r.sh, .int .i64 ac, .int .i64 (N : Int)] 112)).alloc (.cells (rqc 5 pl nn wa q1 (some ⟨b, off, none⟩) m1 m2 k1 k2) 28)).alloc (.cells #[.int .i64 0, .int .i64 0, .int .i64 0, .int .i64 0, .int .i64 0, .slice none 0 0, .slice none 0 0, .int .i64 0] 37)).alloc (.cells (rqc 5 (ac + r.sh) 0 0 none none 0 0 0 0) 28)) := ⟨_, rfl⟩
  have X1 : Blk Z w.heap.size 112 #[.int .i64 r.u, .int .i64 r.s, .int .i64 r.lo, .int .i64 r.hi, .int .i64 r.p, .int .i64 r.t, .int .i64 r.sh, .int .i64 ac, .int .i64 (N : Int)] := by rw [hZ]; exact (((Blk.new w _ _).below (bel_alloc _ _)).below (bel_alloc _ _)).below (bel_alloc _ _)
  have X2 : Blk Z (w.heap.size + 1 + 1) 37 #[.int .i64 0, .int .i64 0, .int .i64 0, .int .i64 0, .int .i64 0, .slice none 0 0, .slice none 0 0, .int .i64 0] := by
    rw [hZ]
    have := (Blk.new ((w.alloc (.cells #[.int .i64 r.u, .int .i64 r.s, .int .i64 r.lo, .int .i64 r.hi, .int .i64 r.p, .int .i64 r.t, .int .i64 r.sh, .int .i64 ac, .int .i64 (N : Int)] 112)).alloc (.cells (rqc 5 pl nn wa q1 (some ⟨b, off, none⟩) m1 m2 k1 k2) 28)) #[.int .i64 0, .int .i64 0, .int .i64 0, .int .i64 0, .int .i64 0, .slice none 0 0, .slice none 0 0, .int .i64 0] 37).below (bel_alloc _ (.cells (rqc 5 (ac + r.sh) 0 0 none none 0 0 0 0) 28))
    simpa using this
  have X3 : Blk Z (w.heap.size + 1 + 1 + 1) 28 (rqc 5 (ac + r.sh) 0 0 none none 0 0 0 0) := by
    rw [hZ]
    have := Blk.new (((w.alloc (.cells #[.int .i64 r.u, .int .i64 r.s, .int .i64 r.lo, .int .i64 r.hi, .int .i64 r.p, .int .i64 r.t, .int .i64 r.sh, .int .i64 ac, .int .i64 (N : Int)] 112)).alloc (.cells (rqc 5 pl nn wa q1 (some ⟨b, off, none⟩) m1 m2 k1 k2) 28)).alloc (.cells #[.int .i64 0, .int .i64 0, .int .i64 0, .int .i64 0, .int .i64 0, .slice none 0 0, .slice none 0 0, .int .i64 0] 37)) (rqc 5 (ac + r.sh) 0 0 none none 0 0 0 0) 28
    simpa using this
  rw [← hZ] at b' i3 bZ
  clear hZ
  have Y1 := X1.below b'
  have Y2 := X2.below b'
  have Y3 := X3.below b'
  have HH : Hid (OwnB w3 w.heap.size (.slice (some ⟨g3, 0, none⟩) N N) ((bs.drop fr).take N) ∧ ExB w3 (w.heap.size + 1 + 1) 37 ∧ ExB w3 (w.heap.size + 1 + 1 + 1) 28 ∧ Below w.heap.size w w3) := ⟨OwnB.mono i3 (by exact bZ.size), ⟨_, Y2⟩, ⟨_, Y3⟩, bel_next bZ b'⟩
  have d4 := Y1.cell 4 rfl
  have d5 := Y1.cell 5 rfl
  obtain ⟨y0, y1, y2, y3, y4, y5⟩ := Y3.six
  have f0 := Y3.fro 3
  have f1 := Y3.fro 4
  have p0 := Y2.cell 0 rfl
  have r0 := Y2.fro 0
  have p1 := Y2.cell 1 rfl
  have r1 := Y2.fro 1
  have p2 := Y2.cell 2 rfl
  have r2 := Y2.fro 2
  have p3 := Y2.cell 3 rfl
  have r3 := Y2.fro 3
  have p4 := Y2.cell 4 rfl
  have r4 := Y2.fro 4
  have p5 := Y2.cell 5 rfl
  have r5 := Y2.fro 5
  have p6 := Y2.cell 6 rfl
  have r6 := Y2.fro 6
  have p7 := Y2.cell 7 rfl
  have r7 := Y2.fro 7
  have HF : Hid (OwnB (setL (w3.setCell ⟨w.heap.size + 1 + 1 + 1, 4, none⟩ (.slice (some ⟨g3, 0, none⟩) N N)) (w.heap.size + 1 + 1) 0 [.int .i64 r.p, .int .i64 r.t, .int .i64 5, .int .i64 (ac + r.sh), .int .i64 0, .slice none 0 0, .slice (some ⟨g3, 0, none⟩) N N, .int .i64 0]) w.heap.size (.slice (some ⟨g3, 0, none⟩) N N) ((bs.drop fr).take N) ∧ Below w.heap.size w (setL (w3.setCell ⟨w.heap.size + 1 + 1 + 1, 4, none⟩ (.slice (some ⟨g3, 0, none⟩) N N)) (w.heap.size + 1 + 1) 0 [.int .i64 r.p, .int .i64 r.t, .int .i64 5, .int .i64 (ac + r.sh), .int .i64 0, .slice none 0 0, .slice (some ⟨g3, 0, none⟩) N N, .int .i64 0])) := ⟨row_setL (row_setE HH.out.1 HH.out.2.2.1 (by decide)) (ExB.set HH.out.2.1) (by decide), setL_below (by omega) _ _ _ (HH.out.2.2.2.setCell (p := ⟨w.heap.size + 1 + 1 + 1, 4, none⟩) (by show w.heap.size ≤ w.heap.size + 1 + 1 + 1; omega) _)⟩
  clear X1 X2 X3 Y1 Y2 Y3 b' i3 bZ HH
  go_wp2
  refine bodyPost_ret (v := .agg #[.int .i64 r.p, .int .i64 r.t, .int .i64 5, .int .i64 (ac + r.sh), .int .i64 0, .slice none 0 0, .slice (some ⟨g3, 0, none⟩) N N, .int .i64 0]) (by simp [results, Try.results88, go_sem, y0, y1, y2, y3, y4, y5, p0, p1, p2, p3, p4, p5, p6, p7]) rfl ?_
  exact ⟨none, _, 0, _, 0, _, rfl, rfl, HQ.out.1, ownI_z _ _, HF.out.1, HF.out.2⟩

set_option maxRecDepth 20000 in
set_option maxHeartbeats 1000000 in
theorem part_15 (r : Ru) (ac pl nn wa : Int) (q1 q2 : Option Addr) (m1 m2 k1 k2 fr N : Nat) (bs : List Bool) (w : World) (h1 : 0 ≤ ac ∧ ac ≤ 65535) (h2 : -65535 ≤ r.sh ∧ r.sh ≤ 65535) (h3 : 0 ≤ pl ∧ pl ≤ 65535) (hm : m2 = bs.length) (hs : SlB w q2 bs) (hl : bs.length ≤ 2000000) (hkk : m2 ≤ k2) (hfr : ac - pl = (fr : Int)) (hin : fr + N ≤ bs.length) (hpos : 0 < N) :
    Calls Try.prog 88 #[.agg #[.int .i64 r.u, .int .i64 r.s, .int .i64 r.lo, .int .i64 r.hi, .int .i64 r.p, .int .i64 r.t, .int .i64 r.sh, .int .i64 ac, .int .i64 (N : Int)], .agg (rqc 15 pl nn wa q1 q2 m1 m2 k1 k2)] w fun e w' => PartPost w w' e ⟨r.p, r.t, 15, ac + r.sh, 0, 0, [], ((bs.drop fr).take N)⟩ := by
  obtain ⟨b, off, rfl⟩ := slB_some hs (by omega)
  have w1 : IntKind.i64.wrap (ac + r.sh) = ac + r.sh := by rw [IntKind.wrap_i64]; omega
  have w2 : IntKind.i64.wrap (ac - pl) = (fr : Int) := by rw [IntKind.wrap_i64]; omega
  have bZ : Below w.heap.size w ((((w.alloc (.cells #[.int .i64 r.u, .int .i64 r.s, .int .i64 r.lo, .int .i64 r.hi, .int .i64 r.p, .int .i64 r.t, .int .i64 r.sh, .int .i64 ac, .int .i64 (N : Int)] 112)).alloc (.cells (rqc 15 pl nn wa q1 (some ⟨b, off, none⟩) m1 m2 k1 k2) 28)).alloc (.cells #[.int .i64 0, .int .i64 0, .int .i64 0, .int .i64 0, .int .i64 0, .slice none 0 0, .slice none 0 0, .int .i64 0] 37)).alloc (.cells (rqc 15 (ac + r.sh) 0 0 none none 0 0 0 0) 28)) := ((((Below.refl _ w).alloc (Nat.le_refl _) _).alloc (by simp) _).alloc (by simp; omega) _).alloc (by simp; omega) _
  have hck : ¬ k2 = fr := by omega
  have i0 : (fr : Int) ≤ (fr : Int) + (N : Int) := by omega
  have i1 : (fr : Int) + (N : Int) ≤ (m2 : Int) := by omega
  have i2 : (fr : Int) + (N : Int) ≤ (k2 : Int) := by omega
  have i3' : (0 : Int) ≤ (fr : Int) := by omega
  have i4 : (0 : Int) ≤ (fr : Int) + (N : Int) := by omega
  have i5 : IntKind.i64.wrap ((fr : Int) + (N : Int)) = (fr : Int) + (N : Int) := by rw [IntKind.wrap_i64]; omega
  have i6 : (fr : Int) ≤ (k2 : Int) := by omega
  have HQ : Hid (N = ((bs.drop fr).take N).length ∧ SlB w (some ⟨b, off + fr, none⟩) ((bs.drop fr).take N) ∧ ((bs.drop fr).take N).length ≤ 2000000) := ⟨by simp; omega, slB_off hs hin, by simp; omega⟩
  clear hs hl hm hin hkk hfr
  go_enter Try.func88, Try.ntmps88
  go_wp2_with fail
  refine (copyOfB (some ⟨b, off + fr, none⟩) N (k2 - fr) _ _ HQ.out.1 (HQ.out.2.1.below bZ) HQ.out.2.2).mono ?_
  rintro e w3 ⟨g3, rfl, i3, b'⟩
  obtain ⟨Z, hZ⟩ : ∃ Z, Z = ((((w.alloc (.cells #[.int .i64 r.u, .int .i64 r.s, .int .i64 r.lo, .int .i64 r.hi, .int .i64 r.p, .int .i64 r.t, .int .i64 r.sh, .int .i64 ac, .int .i64 (N : Int)] 112)).alloc (.cells (rqc 15 pl nn wa q1 (some ⟨b, off, none⟩) m1 m2 k1 k2) 28)).alloc (.cells #[.int .i64 0, .int .i64 0, .int .i64 0, .int .i64 0, .int .i64 0, .slice none 0 0, .slice none 0 0, .int .i64 0] 37)).alloc (.cells (rqc 15 (ac + r.sh) 0 0 none none 0 0 0 0) 28)) := ⟨_, rfl⟩
  have X1 : Blk Z w.heap.size 112 #[.int .i64 r.u, .int .i64 r.s, .int .i64 r.lo, .int .i64 r.hi, .int .i64 r.p, .int .i64 r.t, .int .i64 r.sh, .int .i64 ac, .int .i64 (N : Int)] := by rw [hZ]; exact (((Blk.new w _ _).below (bel_alloc _ _)).below (bel_alloc _ _)).below (bel_alloc _ _)
  have X2 : Blk Z (w.heap.size + 1 + 1) 37 #[.int .i64 0, .int .i64 0, .int .i64 0, .int .i64 0, .int .i64 0, .slice none 0 0, .slice none 0 0, .int .i64 0] := by
    rw [hZ]
    have := (Blk.new ((w.alloc (.cells #[.int .i64 r.u, .int .i64 r.s, .int .i64 r.lo, .int .i64 r.hi, .int .i64 r.p, .int .i64 r.t, .int .i64 r.sh, .int .i64 ac, .int .i64 (N : Int)] 112)).alloc (.cells (rqc 15 pl nn wa q1 (some ⟨b, off, none⟩) m1 m2 k1 k2) 28)) #[.int .i64 0, .int .i64 0, .int .i64 0, .int .i64 0, .int .i64 0, .slice none 0 0, .slice none 0 0, .int .i64 0] 37).below (bel_alloc _ (.cells (rqc 15 (ac + r.sh) 0 0 none none 0 0 0 0) 28))
    simpa using this
  have X3 : Blk Z (w.heap.size + 1 + 1 + 1) 28 (rqc 15 (ac + r.sh) 0 0 none none 0 0 0 0) := by
    rw [hZ]
    have := Blk.new (((w.alloc (.cells #[.int .i64 r.u, .int .i64 r.s, .int .i64 r.lo, .int .i64 r.hi, .int .i64 r.p, .int .i64 r.t, .int .i64 r.sh, .int .i64 ac, .int .i64 (N : Int)] 112)).alloc (.cells (rqc 15 pl nn wa q1 (some ⟨b, off, none⟩) m1 m2 k1 k2) 28)).alloc (.cells #[.int .i64 0, .int .i64 0, .int .i64 0, .int .i64 0, .int .i64 0, .slice none 0 0, .slice none 0 0, .int .i64 0] 37)) (rqc 15 (ac + r.sh) 0 0 none none 0 0 0 0) 28
    simpa using this
  rw [← hZ] at b' i3 bZ
  clear hZ
  have Y1 := X1.below b'
  have Y2 := X2.below b'
  have Y3 := X3.below b'
  have HH : Hid (OwnB w3 w.heap.size (.slice (some ⟨g3, 0, none⟩) N N) ((bs.drop fr).take N) ∧ ExB w3 (w.heap.size + 1 + 1) 37 ∧ ExB w3 (w.heap.size + 1 + 1 + 1) 28 ∧ Below w.heap.size w w3) := ⟨OwnB.mono i3 (by exact bZ.size), ⟨_, Y2⟩, ⟨_, Y3⟩, bel_next bZ b'⟩
  have d4 := Y1.cell 4 rfl
  have d5 := Y1.cell 5 rfl
  obtain ⟨y0, y1, y2, y3, y4, y5⟩ := Y3.six
  have f0 := Y3.fro 3
  have f1 := Y3.fro 4
  have p0 := Y2.cell 0 rfl
  have r0 := Y2.fro 0
  have p1 := Y2.cell 1 rfl
  have r1 := Y2.fro 1
  have p2 := Y2.cell 2 rfl
  have r2 := Y2.fro 2
  have p3 := Y2.cell 3 rfl
  have r3 := Y2.fro 3
  have p4 := Y2.cell 4 rfl
  have r4 := Y2.fro 4
  have p5 := Y2.cell 5 rfl
  have r5 := Y2.fro 5
  have p6 := Y2.cell 6 rfl
  have r6 := Y2.fro 6
  have p7 := Y2.cell 7 rfl
  have r7 := Y2.fro 7
  have HF : Hid (OwnB (setL (w3.setCell ⟨w.heap.size + 1 + 1 + 1, 4, none⟩ (.slice (some ⟨g3, 0, none⟩) N N)) (w.heap.size + 1 + 1) 0 [.int .i64 r.p, .int .i64 r.t, .int .i64 15, .int .i64 (ac + r.sh), .int .i64 0, .slice none 0 0, .slice (some ⟨g3, 0, none⟩) N N, .int .i64 0]) w.heap.size (.slice (some ⟨g3, 0, none⟩) N N) ((bs.drop fr).take N) ∧ Below w.heap.size w (setL (w3.setCell ⟨w.heap.size + 1 + 1 + 1, 4, none⟩ (.slice (some ⟨g3, 0, none⟩) N N)) (w.heap.size + 1 + 1) 0 [.int .i64 r.p, .int .i64 r.t, .int .i64 15, .int .i64 (ac + r.sh), .int .i64 0, .slice none 0 0, .slice (some ⟨g3, 0, none⟩) N N, .int .i64 0])) := ⟨row_setL (row_setE HH.out.1 HH.out.2.2.1 (by decide)) (ExB.set HH.out.2.1) (by decide), setL_below (by omega) _ _ _ (HH.out.2.2.2.setCell (p := ⟨w.heap.size + 1 + 1 + 1, 4, none⟩) (by show w.heap.size ≤ w.heap.size + 1 + 1 + 1; omega) _)⟩
  clear X1 X2 X3 Y1 Y2 Y3 b' i3 bZ HH
  go_wp2
  refine bodyPost_ret (v := .agg #[.int .i64 r.p, .int .i64 r.t, .int .i64 15, .int .i64 (ac + r.sh), .int .i64 0, .slice none 0 0, .slice (some ⟨g3, 0, none⟩) N N, .int .i64 0]) (by simp [results, Try.results88, go_sem, y0, y1, y2, y3, y4, y5, p0, p1, p2, p3, p4, p5, p6, p7]) rfl ?_
  exact ⟨none, _, 0, _, 0, _, rfl, rfl, HQ.out.1, ownI_z _ _, HF.out.1, HF.out.2⟩

set_option maxRecDepth 20000 in
set_option maxHeartbeats 1000000 in
theorem part_6 (r : Ru) (ac pl nn wa : Int) (q1 q2 : Option Addr) (m1 m2 k1 k2 fr N : Nat) (ws : List Int) (w : World) (h1 : 0 ≤ ac ∧ ac ≤ 65535) (h2 : -65535 ≤ r.sh ∧ r.sh ≤ 65535) (h3 : 0 ≤ pl ∧ pl ≤ 65535) (hm : m1 = ws.length) (hs : SlI w q1 ws) (hl : ws.length ≤ 2000000) (hkk : m1 ≤ k1) (hfr : ac - pl = (fr : Int)) (hin : fr + N ≤ ws.length) (hpos : 0 < N) :
    Calls Try.prog 88 #[.agg #[.int .i64 r.u, .int .i64 r.s, .int .i64 r.lo, .int .i64 r.hi, .int .i64 r.p, .int .i64 r.t, .int .i64 r.sh, .int .i64 ac, .int .i64 (N : Int)], .agg (rqc 6 pl nn wa q1 q2 m1 m2 k1 k2)] w fun e w' => PartPost w w' e ⟨r.p, r.t, 6, ac + r.sh, 0, 0, ((ws.drop fr).take N), []⟩ := by
  obtain ⟨b, off, rfl⟩ := slI_some hs (by omega)
  have w1 : IntKind.i64.wrap (ac + r.sh) = ac + r.sh := by rw [IntKind.wrap_i64]; omega
  have w2 : IntKind.i64.wrap (ac - pl) = (fr : Int) := by rw [IntKind.wrap_i64]; omega
  have bZ : Below w.heap.size w ((((w.alloc (.cells #[.int .i64 r.u, .int .i64 r.s, .int .i64 r.lo, .int .i64 r.hi, .int .i64 r.p, .int .i64 r.t, .int .i64 r.sh, .int .i64 ac, .int .i64 (N : Int)] 112)).alloc (.cells (rqc 6 pl nn wa (some ⟨b, off, none⟩) q2 m1 m2 k1 k2) 28)).alloc (.cells #[.int .i64 0, .int .i64 0, .int .i64 0, .int .i64 0, .int .i64 0, .slice none 0 0, .slice none 0 0, .int .i64 0] 37)).alloc (.cells (rqc 6 (ac + r.sh) 0 0 none none 0 0 0 0) 28)) := ((((Below.refl _ w).alloc (Nat.le_refl _) _).alloc (by simp) _).alloc (by simp; omega) _).alloc (by simp; omega) _
  have hck : ¬ k1 = fr := by omega
  have i0 : (fr : Int) ≤ (fr : Int) + (N : Int) := by omega
  have i1 : (fr : Int) + (N : Int) ≤ (m1 : Int) := by omega
  have i2 : (fr : Int) + (N : Int) ≤ (k1 : Int) := by omega
  have i3' : (0 : Int) ≤ (fr : Int) := by omega
  have i4 : (0 : Int) ≤ (fr : Int) + (N : Int) := by omega
  have i5 : IntKind.i64.wrap ((fr : Int) + (N : Int)) = (fr : Int) + (N : Int) := by rw [IntKind.wrap_i64]; omega
  have i6 : (fr : Int) ≤ (k1 : Int) := by omega
  have HQ : Hid (N = ((ws.drop fr).take N).length ∧ SlI w (some ⟨b, off + fr, none⟩) ((ws.drop fr).take N) ∧ ((ws.drop fr).take N).length ≤ 2000000) := ⟨by simp; omega, slI_off hs hin, by simp; omega⟩
  clear hs hl hm hin hkk hfr
  go_enter Try.func88, Try.ntmps88
  go_wp2_with fail
  refine (copyOfI (some ⟨b, off + fr, none⟩) N (k1 - fr) _ _ HQ.out.1 (HQ.out.2.1.below bZ) HQ.out.2.2).mono ?_
  rintro e w3 ⟨g3, rfl, i3, b'⟩
  obtain ⟨Z, hZ⟩ : ∃ Z, Z = ((((w.alloc (.cells #[.int .i64 r.u, .int .i64 r.s, .int .i64 r.lo, .int .i64 r.hi, .int .i64 r.p, .int .i64 r.t, .int .i64 r.sh, .int .i64 ac, .int .i64 (N : Int)] 112)).alloc (.cells (rqc 6 pl nn wa (some ⟨b, off, none⟩) q2 m1 m2 k1 k2) 28)).alloc (.cells #[.int .i64 0, .int .i64 0, .int .i64 0, .int .i64 0, .int .i64 0, .slice none 0 0, .slice none 0 0, .int .i64 0] 37)).alloc (.cells (rqc 6 (ac + r.sh) 0 0 none none 0 0 0 0) 28)) := ⟨_, rfl⟩
  have X1 : Blk Z w.heap.size 112 #[.int .i64 r.u, .int .i64 r.s, .int .i64 r.lo, .int .i64 r.hi, .int .i64 r.p, .int .i64 r.t, .int .i64 r.sh, .int .i64 ac, .int .i64 (N : Int)] := by rw [hZ]; exact (((Blk.new w _ _).below (bel_alloc _ _)).below (bel_alloc _ _)).below (bel_alloc _ _)
  have X2 : Blk Z (w.heap.size + 1 + 1) 37 #[.int .i64 0, .int .i64 0, .int .i64 0, .int .i64 0, .int .i64 0, .slice none 0 0, .slice none 0 0, .int .i64 0] := by
    rw [hZ]
    have := (Blk.new ((w.alloc (.cells #[.int .i64 r.u, .int .i64 r.s, .int .i64 r.lo, .int .i64 r.hi, .int .i64 r.p, .int .i64 r.t, .int .i64 r.sh, .int .i64 ac, .int .i64 (N : Int)] 112)).alloc (.cells (rqc 6 pl nn wa (some ⟨b, off, none⟩) q2 m1 m2 k1 k2) 28)) #[.int .i64 0, .int .i64 0, .int .i64 0, .int .i64 0, .int .i64 0, .slice none 0 0, .slice none 0 0, .int .i64 0] 37).below (bel_alloc _ (.cells (rqc 6 (ac + r.sh) 0 0 none none 0 0 0 0) 28))
    simpa using this
  have X3 : Blk Z (w.heap.size + 1 + 1 + 1) 28 (rqc 6 (ac + r.sh) 0 0 none none 0 0 0 0) := by
    rw [hZ]
    have := Blk.new (((w.alloc (.cells #[.int .i64 r.u, .int .i64 r.s, .int .i64 r.lo, .int .i64 r.hi, .int .i64 r.p, .int .i64 r.t, .int .i64 r.sh, .int .i64 ac, .int .i64 (N : Int)] 112)).alloc (.cells (rqc 6 pl nn wa (some ⟨b, off, none⟩) q2 m1 m2 k1 k2) 28)).alloc (.cells #[.int .i64 0, .int .i64 0, .int .i64 0, .int .i64 0, .int .i64 0, .slice none 0 0, .slice none 0 0, .int .i64 0] 37)) (rqc 6 (ac + r.sh) 0 0 none none 0 0 0 0) 28
    simpa using this
  rw [← hZ] at b' i3 bZ
  clear hZ
  have Y1 := X1.below b'
  have Y2 := X2.below b'
  have Y3 := X3.below b'
  have HH : Hid (OwnI w3 w.heap.size (.slice (some ⟨g3, 0, none⟩) N N) ((ws.drop fr).take N) ∧ ExB w3 (w.heap.size + 1 + 1) 37 ∧ ExB w3 (w.heap.size + 1 + 1 + 1) 28 ∧ Below w.heap.size w w3) := ⟨OwnI.mono i3 (by exact bZ.size), ⟨_, Y2⟩, ⟨_, Y3⟩, bel_next bZ b'⟩
  have d4 := Y1.cell 4 rfl
  have d5 := Y1.cell 5 rfl
  obtain ⟨y0, y1, y2, y3, y4, y5⟩ := Y3.six
  have f0 := Y3.fro 3
  have f1 := Y3.fro 4
  have p0 := Y2.cell 0 rfl
  have r0 := Y2.fro 0
  have p1 := Y2.cell 1 rfl
  have r1 := Y2.fro 1
  have p2 := Y2.cell 2 rfl
  have r2 := Y2.fro 2
  have p3 := Y2.cell 3 rfl
  have r3 := Y2.fro 3
  have p4 := Y2.cell 4 rfl
  have r4 := Y2.fro 4
  have p5 := Y2.cell 5 rfl
  have r5 := Y2.fro 5
  have p6 := Y2.cell 6 rfl
  have r6 := Y2.fro 6
  have p7 := Y2.cell 7 rfl
  have r7 := Y2.fro 7
  have HF : Hid (OwnI (setL (w3.setCell ⟨w.heap.size + 1 + 1 + 1, 3, none⟩ (.slice (some ⟨g3, 0, none⟩) N N)) (w.heap.size + 1 + 1) 0 [.int .i64 r.p, .int .i64 r.t, .int .i64 6, .int .i64 (ac + r.sh), .int .i64 0, .slice (some ⟨g3, 0, none⟩) N N, .slice none 0 0, .int .i64 0]) w.heap.size (.slice (some ⟨g3, 0, none⟩) N N) ((ws.drop fr).take N) ∧ Below w.heap.size w (setL (w3.setCell ⟨w.heap.size + 1 + 1 + 1, 3, none⟩ (.slice (some ⟨g3, 0, none⟩) N N)) (w.heap.size + 1 + 1) 0 [.int .i64 r.p, .int .i64 r.t, .int .i64 6, .int .i64 (ac + r.sh), .int .i64 0, .slice (some ⟨g3, 0, none⟩) N N, .slice none 0 0, .int .i64 0])) := ⟨row_setL (row_setE HH.out.1 HH.out.2.2.1 (by decide)) (ExB.set HH.out.2.1) (by decide), setL_below (by omega) _ _ _ (HH.out.2.2.2.setCell (p := ⟨w.heap.size + 1 + 1 + 1, 3, none⟩) (by show w.heap.size ≤ w.heap.size + 1 + 1 + 1; omega) _)⟩
  clear X1 X2 X3 Y1 Y2 Y3 b' i3 bZ HH
  go_wp2
  refine bodyPost_ret (v := .agg #[.int .i64 r.p, .int .i64 r.t, .int .i64 6, .int .i64 (ac + r.sh), .int .i64 0, .slice (some ⟨g3, 0, none⟩) N N, .slice none 0 0, .int .i64 0]) (by simp [results, Try.results88, go_sem, y0, y1, y2, y3, y4, y5, p0, p1, p2, p3, p4, p5, p6, p7]) rfl ?_
  exact ⟨_, none, _, 0, _, 0, rfl, HQ.out.1, rfl, HF.out.1, ownB_z _ _, HF.out.2⟩

set_option maxRecDepth 20000 in
set_option maxHeartbeats 1000000 in
theorem part_16 (r : Ru) (ac pl nn wa : Int) (q1 q2 : Option Addr) (m1 m2 k1 k2 fr N : Nat) (ws : List Int) (w : World) (h1 : 0 ≤ ac ∧ ac ≤ 65535) (h2 : -65535 ≤ r.sh ∧ r.sh ≤ 65535) (h3 : 0 ≤ pl ∧ pl ≤ 65535) (hm : m1 = ws.length) (hs : SlI w q1 ws) (hl : ws.length ≤ 2000000) (hkk : m1 ≤ k1) (hfr : ac - pl = (fr : Int)) (hin : fr + N ≤ ws.length) (hpos : 0 < N) :
    Calls Try.prog 88 #[.agg #[.int .i64 r.u, .int .i64 r.s, .int .i64 r.lo, .int .i64 r.hi, .int .i64 r.p, .int .i64 r.t, .int .i64 r.sh, .int .i64 ac, .int .i64 (N : Int)], .agg (rqc 16 pl nn wa q1 q2 m1 m2 k1 k2)] w fun e w' => PartPost w w' e ⟨r.p, r.t, 16, ac + r.sh, 0, 0, ((ws.drop fr).take N), []⟩ := by
  obtain ⟨b, off, rfl⟩ := slI_some hs (by omega)
  have w1 : IntKind.i64.wrap (ac + r.sh) = ac + r.sh := by rw [IntKind.wrap_i64]; omega
  have w2 : IntKind.i64.wrap (ac - pl) = (fr : Int) := by rw [IntKind.wrap_i64]; omega
  have bZ : Below w.heap.size w ((((w.alloc (.cells #[.int .i64 r.u, .int .i64 r.s, .int .i64 r.lo, .int .i64 r.hi, .int .i64 r.p, .int .i64 r.t, .int .i64 r.sh, .int .i64 ac, .int .i64 (N : Int)] 112)).alloc (.cells (rqc 16 pl nn wa (some ⟨b, off, none⟩) q2 m1 m2 k1 k2) 28)).alloc (.cells #[.int .i64 0, .int .i64 0, .int .i64 0, .int .i64 0, .int .i64 0, .slice none 0 0, .slice none 0 0, .int .i64 0] 37)).alloc (.cells (rqc 16 (ac + r.sh) 0 0 none none 0 0 0 0) 28)) := ((((Below.refl _ w).alloc (Nat.le_refl _) _).alloc (by simp) _).alloc (by simp; omega) _).alloc (by simp; omega) _
  have hck : ¬ k1 = fr := by omega
  have i0 : (fr : Int) ≤ (fr : Int) + (N : Int) := by omega
  have i1 : (fr : Int) + (N : Int) ≤ (m1 : Int) := by omega
  have i2 : (fr : Int) + (N : Int) ≤ (k1 : Int) := by omega
  have i3' : (0 : Int) ≤ (fr : Int) := by omega
  have i4 : (0 : Int) ≤ (fr : Int) + (N : Int) := by omega
  have i5 : IntKind.i64.wrap ((fr : Int) + (N : Int)) = (fr : Int) + (N : Int) := by rw [IntKind.wrap_i64]; omega
  have i6 : (fr : Int) ≤ (k1 : Int) := by omega
  have HQ : Hid (N = ((ws.drop fr).take N).length ∧ SlI w (some ⟨b, off + fr, none⟩) ((ws.drop fr).take N) ∧ ((ws.drop fr).take N).length ≤ 2000000) := ⟨by simp; omega, slI_off hs hin, by simp; omega⟩
  clear hs hl hm hin hkk hfr
  go_enter Try.func88, Try.ntmps88
  go_wp2_with fail
  refine (copyOfI (some ⟨b, off + fr, none⟩) N (k1 - fr) _ _ HQ.out.1 (HQ.out.2.1.below bZ) HQ.out.2.2).mono ?_
  rintro e w3 ⟨g3, rfl, i3, b'⟩
  obtain ⟨Z, hZ⟩ : ∃ Z, Z = ((((w.alloc (.cells #[.int .i64 r.u, .int .i64 r.s, .int .i64 r.lo, .int .i64 r.hi, .int .i64 r.p, .int .i64 r.t, .int .i64 r.sh, .int .i64 ac, .int .i64 (N : Int)] 112)).alloc (.cells (rqc 16 pl nn wa (some ⟨b, off, none⟩) q2 m1 m2 k1 k2) 28)).alloc (.cells #[.int .i64 0, .int .i64 0, .int .i64 0, .int .i64 0, .int .i64 0, .slice none 0 0, .slice none 0 0, .int .i64 0] 37)).alloc (.cells (rqc 16 (ac + r.sh) 0 0 none none 0 0 0 0) 28)) := ⟨_, rfl⟩
  have X1 : Blk Z w.heap.size 112 #[.int .i64 r.u, .int .i64 r.s, .int .i64 r.lo, .int .i64 r.hi, .int .i64 r.p, .int .i64 r.t, .int .i64 r.sh, .int .i64 ac, .int .i64 (N : Int)] := by rw [hZ]; exact (((Blk.new w _ _).below (bel_alloc _ _)).below (bel_alloc _ _)).below (bel_alloc _ _)
  have X2 : Blk Z (w.heap.size + 1 + 1) 37 #[.int .i64 0, .int .i64 0, .int .i64 0, .int .i64 0, .int .i64 0, .slice none 0 0, .slice none 0 0, .int .i64 0] := by
    rw [hZ]
    have := (Blk.new ((w.alloc (.cells #[.int .i64 r.u, .int .i64 r.s, .int .i64 r.lo, .int .i64 r.hi, .int .i64 r.p, .int .i64 r.t, .int .i64 r.sh, .int .i64 ac, .int .i64 (N : Int)] 112)).alloc (.cells (rqc 16 pl nn wa (some ⟨b, off, none⟩) q2 m1 m2 k1 k2) 28)) #[.int .i64 0, .int .i64 0, .int .i64 0, .int .i64 0, .int .i64 0, .slice none 0 0, .slice none 0 0, .int .i64 0] 37).below (bel_alloc _ (.cells (rqc 16 (ac + r.sh) 0 0 none none 0 0 0 0) 28))
    simpa using this
  have X3 : Blk Z (w.heap.size + 1 + 1 + 1) 28 (rqc 16 (ac + r.sh) 0 0 none none 0 0 0 0) := by
    rw [hZ]
    have := Blk.new (((w.alloc (.cells #[.int .i64 r.u, .int .i64 r.s, .int .i64 r.lo, .int .i64 r.hi, .int .i64 r.p, .int .i64 r.t, .int .i64 r.sh, .int .i64 ac, .int .i64 (N : Int)] 112)).alloc (.cells (rqc 16 pl nn wa (some ⟨b, off, none⟩) q2 m1 m2 k1 k2) 28)).alloc (.cells #[.int .i64 0, .int .i64 0, .int .i64 0, .int .i64 0, .int .i64 0, .slice none 0 0, .slice none 0 0, .int .i64 0] 37)) (rqc 16 (ac + r.sh) 0 0 none none 0 0 0 0) 28
    simpa using this
  rw [← hZ] at b' i3 bZ
  clear hZ
  have Y1 := X1.below b'
  have Y2 := X2.below b'
  have Y3 := X3.below b'
  have HH : Hid (OwnI w3 w.heap.size (.slice (some ⟨g3, 0, none⟩) N N) ((ws.drop fr).take N) ∧ ExB w3 (w.heap.size + 1 + 1) 37 ∧ ExB w3 (w.heap.size + 1 + 1 + 1) 28 ∧ Below w.heap.size w w3) := ⟨OwnI.mono i3 (by exact bZ.size), ⟨_, Y2⟩, ⟨_, Y3⟩, bel_next bZ b'⟩
  have d4 := Y1.cell 4 rfl
  have d5 := Y1.cell 5 rfl
  obtain ⟨y0, y1, y2, y3, y4, y5⟩ := Y3.six
  have f0 := Y3.fro 3
  have f1 := Y3.fro 4
  have p0 := Y2.cell 0 rfl
  have r0 := Y2.fro 0
  have p1 := Y2.cell 1 rfl
  have r1 := Y2.fro 1
  have p2 := Y2.cell 2 rfl
  have r2 := Y2.fro 2
  have p3 := Y2.cell 3 rfl
  have r3 := Y2.fro 3
  have p4 := Y2.cell 4 rfl
  have r4 := Y2.fro 4
  have p5 := Y2.cell 5 rfl
  have r5 := Y2.fro 5
  have p6 := Y2.cell 6 rfl
  have r6 := Y2.fro 6
  have p7 := Y2.cell 7 rfl
  have r7 := Y2.fro 7
  have HF : Hid (OwnI (setL (w3.setCell ⟨w.heap.size + 1 + 1 + 1, 3, none⟩ (.slice (some ⟨g3, 0, none⟩) N N)) (w.heap.size + 1 + 1) 0 [.int .i64 r.p, .int .i64 r.t, .int .i64 16, .int .i64 (ac + r.sh), .int .i64 0, .slice (some ⟨g3, 0, none⟩) N N, .slice none 0 0, .int .i64 0]) w.heap.size (.slice (some ⟨g3, 0, none⟩) N N) ((ws.drop fr).take N) ∧ Below w.heap.size w (setL (w3.setCell ⟨w.heap.size + 1 + 1 + 1, 3, none⟩ (.slice (some ⟨g3, 0, none⟩) N N)) (w.heap.size + 1 + 1) 0 [.int .i64 r.p, .int .i64 r.t, .int .i64 16, .int .i64 (ac + r.sh), .int .i64 0, .slice (some ⟨g3, 0, none⟩) N N, .slice none 0 0, .int .i64 0])) := ⟨row_setL (row_setE HH.out.1 HH.out.2.2.1 (by decide)) (ExB.set HH.out.2.1) (by decide), setL_below (by omega) _ _ _ (HH.out.2.2.2.setCell (p := ⟨w.heap.size + 1 + 1 + 1, 3, none⟩) (by show w.heap.size ≤ w.heap.size + 1 + 1 + 1; omega) _)⟩
  clear X1 X2 X3 Y1 Y2 Y3 b' i3 bZ HH
  go_wp2
  refine bodyPost_ret (v := .agg #[.int .i64 r.p, .int .i64 r.t, .int .i64 16, .int .i64 (ac + r.sh), .int .i64 0, .slice (some ⟨g3, 0, none⟩) N N, .slice none 0 0, .int .i64 0]) (by simp [results, Try.results88, go_sem, y0, y1, y2, y3, y4, y5, p0, p1, p2, p3, p4, p5, p6, p7]) rfl ?_
  exact ⟨_, none, _, 0, _, 0, rfl, HQ.out.1, rfl, HF.out.1, ownB_z _ _, HF.out.2⟩

set_option maxRecDepth 20000 in
set_option maxHeartbeats 1000000 in
theorem part_22 (r : Ru) (ac pl nn wa : Int) (q1 q2 : Option Addr) (m1 m2 k1 k2 fr N : Nat) (ws : List Int) (w : World) (h1 : 0 ≤ ac ∧ ac ≤ 65535) (h2 : -65535 ≤ r.sh ∧ r.sh ≤ 65535) (h3 : 0 ≤ pl ∧ pl ≤ 65535) (hm : m1 = ws.length) (hs : SlI w q1 ws) (hl : ws.length ≤ 2000000) (hkk : m1 ≤ k1) (hfr : ac - pl = (fr : Int)) (hin : fr + N ≤ ws.length) (hpos : 0 < N) :
    Calls Try.prog 88 #[.agg #[.int .i64 r.u, .int .i64 r.s, .int .i64 r.lo, .int .i64 r.hi, .int .i64 r.p, .int .i64 r.t, .int .i64 r.sh, .int .i64 ac, .int .i64 (N : Int)], .agg (rqc 22 pl nn wa q1 q2 m1 m2 k1 k2)] w fun e w' => PartPost w w' e ⟨r.p, r.t, 22, ac + r.sh, 0, 0, ws, []⟩ := by
  obtain ⟨b, off, rfl⟩ := slI_some hs (by omega)
  have w1 : IntKind.i64.wrap (ac + r.sh) = ac + r.sh := by rw [IntKind.wrap_i64]; omega
  have w2 : IntKind.i64.wrap (ac - pl) = (fr : Int) := by rw [IntKind.wrap_i64]; omega
  have bZ : Below w.heap.size w ((((w.alloc (.cells #[.int .i64 r.u, .int .i64 r.s, .int .i64 r.lo, .int .i64 r.hi, .int .i64 r.p, .int .i64 r.t, .int .i64 r.sh, .int .i64 ac, .int .i64 (N : Int)] 112)).alloc (.cells (rqc 22 pl nn wa (some ⟨b, off, none⟩) q2 m1 m2 k1 k2) 28)).alloc (.cells #[.int .i64 0, .int .i64 0, .int .i64 0, .int .i64 0, .int .i64 0, .slice none 0 0, .slice none 0 0, .int .i64 0] 37)).alloc (.cells (rqc 22 (ac + r.sh) 0 0 none none 0 0 0 0) 28)) := ((((Below.refl _ w).alloc (Nat.le_refl _) _).alloc (by simp) _).alloc (by simp; omega) _).alloc (by simp; omega) _
  have HQ : Hid (m1 = ws.length ∧ SlI w (some ⟨b, off, none⟩) ws ∧ ws.length ≤ 2000000) := ⟨hm, hs, hl⟩
  clear hs hl hm hin hkk hfr
  go_enter Try.func88, Try.ntmps88
  go_wp2_with fail
  refine (copyOfI (some ⟨b, off, none⟩) m1 k1 _ _ HQ.out.1 (HQ.out.2.1.below bZ) HQ.out.2.2).mono ?_
  rintro e w3 ⟨g3, rfl, i3, b'⟩
  obtain ⟨Z, hZ⟩ : ∃ Z, Z = ((((w.alloc (.cells #[.int .i64 r.u, .int .i64 r.s, .int .i64 r.lo, .int .i64 r.hi, .int .i64 r.p, .int .i64 r.t, .int .i64 r.sh, .int .i64 ac, .int .i64 (N : Int)] 112)).alloc (.cells (rqc 22 pl nn wa (some ⟨b, off, none⟩) q2 m1 m2 k1 k2) 28)).alloc (.cells #[.int .i64 0, .int .i64 0, .int .i64 0, .int .i64 0, .int .i64 0, .slice none 0 0, .slice none 0 0, .int .i64 0] 37)).alloc (.cells (rqc 22 (ac + r.sh) 0 0 none none 0 0 0 0) 28)) := ⟨_, rfl⟩
  have X1 : Blk Z w.heap.size 112 #[.int .i64 r.u, .int .i64 r.s, .int .i64 r.lo, .int .i64 r.hi, .int .i64 r.p, .int .i64 r.t, .int .i64 r.sh, .int .i64 ac, .int .i64 (N : Int)] := by rw [hZ]; exact (((Blk.new w _ _).below (bel_alloc _ _)).below (bel_alloc _ _)).below (bel_alloc _ _)
  have X2 : Blk Z (w.heap.size + 1 + 1) 37 #[.int .i64 0, .int .i64 0, .int .i64 0, .int .i64 0, .int .i64 0, .slice none 0 0, .slice none 0 0, .int .i64 0] := by
    rw [hZ]
    have := (Blk.new ((w.alloc (.cells #[.int .i64 r.u, .int .i64 r.s, .int .i64 r.lo, .int .i64 r.hi, .int .i64 r.p, .int .i64 r.t, .int .i64 r.sh, .int .i64 ac, .int .i64 (N : Int)] 112)).alloc (.cells (rqc 22 pl nn wa (some ⟨b, off, none⟩) q2 m1 m2 k1 k2) 28)) #[.int .i64 0, .int .i64 0, .int .i64 0, .int .i64 0, .int .i64 0, .slice none 0 0, .slice none 0 0, .int .i64 0] 37).below (bel_alloc _ (.cells (rqc 22 (ac + r.sh) 0 0 none none 0 0 0 0) 28))
    simpa using this
  have X3 : Blk Z (w.heap.size + 1 + 1 + 1) 28 (rqc 22 (ac + r.sh) 0 0 none none 0 0 0 0) := by
    rw [hZ]
    have := Blk.new (((w.alloc (.cells #[.int .i64 r.u, .int .i64 r.s, .int .i64 r.lo, .int .i64 r.hi, .int .i64 r.p, .int .i64 r.t, .int .i64 r.sh, .int .i64 ac, .int .i64 (N : Int)] 112)).alloc (.cells (rqc 22 pl nn wa (some ⟨b, off, none⟩) q2 m1 m2 k1 k2) 28)).alloc (.cells #[.int .i64 0, .int .i64 0, .int .i64 0, .int .i64 0, .int .i64 0, .slice none 0 0, .slice none 0 0, .int .i64 0] 37)) (rqc 22 (ac + r.sh) 0 0 none none 0 0 0 0) 28
    simpa using this
  rw [← hZ] at b' i3 bZ
  clear hZ
  have Y1 := X1.below b'
  have Y2 := X2.below b'
  have Y3 := X3.below b'
  have HH : Hid (OwnI w3 w.heap.size (.slice (some ⟨g3, 0, none⟩) m1 m1) ws ∧ ExB w3 (w.heap.size + 1 + 1) 37 ∧ ExB w3 (w.heap.size + 1 + 1 + 1) 28 ∧ Below w.heap.size w w3) := ⟨OwnI.mono i3 (by exact bZ.size), ⟨_, Y2⟩, ⟨_, Y3⟩, bel_next bZ b'⟩
  have d4 := Y1.cell 4 rfl
  have d5 := Y1.cell 5 rfl
  obtain ⟨y0, y1, y2, y3, y4, y5⟩ := Y3.six
  have f0 := Y3.fro 3
  have f1 := Y3.fro 4
  have p0 := Y2.cell 0 rfl
  have r0 := Y2.fro 0
  have p1 := Y2.cell 1 rfl
  have r1 := Y2.fro 1
  have p2 := Y2.cell 2 rfl
  have r2 := Y2.fro 2
  have p3 := Y2.cell 3 rfl
  have r3 := Y2.fro 3
  have p4 := Y2.cell 4 rfl
  have r4 := Y2.fro 4
  have p5 := Y2.cell 5 rfl
  have r5 := Y2.fro 5
  have p6 := Y2.cell 6 rfl
  have r6 := Y2.fro 6
  have p7 := Y2.cell 7 rfl
  have r7 := Y2.fro 7
  have HF : Hid (OwnI (setL (w3.setCell ⟨w.heap.size + 1 + 1 + 1, 3, none⟩ (.slice (some ⟨g3, 0, none⟩) m1 m1)) (w.heap.size + 1 + 1) 0 [.int .i64 r.p, .int .i64 r.t, .int .i64 22, .int .i64 (ac + r.sh), .int .i64 0, .slice (some ⟨g3, 0, none⟩) m1 m1, .slice none 0 0, .int .i64 0]) w.heap.size (.slice (some ⟨g3, 0, none⟩) m1 m1) ws ∧ Below w.heap.size w (setL (w3.setCell ⟨w.heap.size + 1 + 1 + 1, 3, none⟩ (.slice (some ⟨g3, 0, none⟩) m1 m1)) (w.heap.size + 1 + 1) 0 [.int .i64 r.p, .int .i64 r.t, .int .i64 22, .int .i64 (ac + r.sh), .int .i64 0, .slice (some ⟨g3, 0, none⟩) m1 m1, .slice none 0 0, .int .i64 0])) := ⟨row_setL (row_setE HH.out.1 HH.out.2.2.1 (by decide)) (ExB.set HH.out.2.1) (by decide), setL_below (by omega) _ _ _ (HH.out.2.2.2.setCell (p := ⟨w.heap.size + 1 + 1 + 1, 3, none⟩) (by show w.heap.size ≤ w.heap.size + 1 + 1 + 1; omega) _)⟩
  clear X1 X2 X3 Y1 Y2 Y3 b' i3 bZ HH
  go_wp2
  refine bodyPost_ret (v := .agg #[.int .i64 r.p, .int .i64 r.t, .int .i64 22, .int .i64 (ac + r.sh), .int .i64 0, .slice (some ⟨g3, 0, none⟩) m1 m1, .slice none 0 0, .int .i64 0]) (by simp [results, Try.results88, go_sem, y0, y1, y2, y3, y4, y5, p0, p1, p2, p3, p4, p5, p6, p7]) rfl ?_
  exact ⟨_, none, _, 0, _, 0, rfl, HQ.out.1, rfl, HF.out.1, ownB_z _ _, HF.out.2⟩

end Go.Proofs.Ytaaokbmfpfmfgaa

namespace Go.Proofs.Ytaaokbmfpfmfgaa
open Go.RowKit Go.Joins

set_option linter.unusedVariables false

set_option linter.unusedSimpArgs false

/-- A block whose first n elements have the cells F k, s each. -/
def RowC (w : World) (g : Nat) (t : TypeId) (s n : Nat) (F : Nat → List Value) : Prop :=
  ∃ cs, w.heap[g]? = some (.cells cs t (0, 0)) ∧ n * s ≤ cs.size ∧ ∀ k, k < n → ∀ j, j < s → cs[k * s + j]? = (F k)[j]?

theorem RowS.rowC {w : World} {g : Nat} {t : TypeId} {s n : Nat} {F : Nat → List Value} (h : RowS w g t s n F) : RowC w g t s n F := by
  obtain ⟨cs, h1, h2, h3⟩ := h
  exact ⟨cs, h1, Nat.le_of_eq h2.symm, h3⟩

theorem RowC.lt {w : World} {g : Nat} {t : TypeId} {s n : Nat} {F : Nat → List Value} (h : RowC w g t s n F) : g < w.heap.size := by
  obtain ⟨cs, h, _⟩ := h
  exact (Array.getElem?_eq_some_iff.1 h).1

theorem RowC.cell {w : World} {g : Nat} {t : TypeId} {s n : Nat} {F : Nat → List Value} (h : RowC w g t s n F) {k j : Nat} (hk : k < n) (hj : j < s) : w.cell? ⟨g, k * s + j, none⟩ = (F k)[j]? := by
  obtain ⟨cs, h1, _, h3⟩ := h
  rw [cell_of_block h1]
  exact h3 k hk j hj

theorem RowC.fro {w : World} {g : Nat} {t : TypeId} {s n : Nat} {F : Nat → List Value} (h : RowC w g t s n F) (o : Nat) : w.frozen? ⟨g, o, none⟩ = false := by
  obtain ⟨cs, h1, _⟩ := h
  exact unfrozen_of_block h1 o

theorem RowC.below {w w' : World} {g : Nat} {t : TypeId} {s n : Nat} {F : Nat → List Value} (h : RowC w g t s n F) (hb : Below w.heap.size w w') : RowC w' g t s n F := by
  have hl := h.lt
  obtain ⟨cs, h1, h2, h3⟩ := h
  exact ⟨cs, by rw [hb.block _ hl]; exact h1, h2, h3⟩

theorem RowC.congr {w : World} {g : Nat} {t : TypeId} {s n : Nat} {F G : Nat → List Value} (h : RowC w g t s n F) (he : ∀ k, k < n → F k = G k) : RowC w g t s n G := by
  obtain ⟨cs, h1, h2, h3⟩ := h
  exact ⟨cs, h1, h2, fun k hk j hj => by rw [← he k hk]; exact h3 k hk j hj⟩

theorem RowC.kept {w w' : World} {g : Nat} {t : TypeId} {s n : Nat} {F : Nat → List Value} {row : Option Nat} (h : RowC w g t s n F) (hg : w.grownBy w' row) (hne : row ≠ some g) : RowC w' g t s n F := by
  have hl := h.lt
  obtain ⟨cs, h1, h2, h3⟩ := h
  exact ⟨cs, by rw [hg.block g hl (fun e => hne e.symm)]; exact h1, h2, h3⟩

theorem RowC.set {w : World} {g : Nat} {t : TypeId} {s n : Nat} {F : Nat → List Value} (h : RowC w g t s n F) {k : Nat} (hk : k < n) (vs : List Value) (hv : vs.length = s) : RowC (setL w g (k * s) vs) g t s n (fun i => if i = k then vs else F i) := by
  obtain ⟨cs, h1, h2, h3⟩ := h
  obtain ⟨cs', g1, g2, g3⟩ := setL_block vs w (k * s) cs h1
  refine ⟨cs', g1, by omega, fun i hi j hj => ?_⟩
  have hin : i * s + j < cs.size := by
    have : (i + 1) * s ≤ n * s := Nat.mul_le_mul_right s hi
    rw [Nat.add_mul, Nat.one_mul] at this
    omega
  rw [g3 _ hin]
  by_cases e : i = k
  · subst e
    rw [if_pos (by omega), Nat.add_sub_cancel_left]
    simp
  · rw [if_neg]
    · rw [h3 i hi j hj]
      simp [e]
    · intro ⟨e1, e2⟩
      obtain ⟨d, hd⟩ : ∃ d, i * s + j = k * s + d := ⟨i * s + j - k * s, by omega⟩
      exact e (idx_inj hj (by omega) hd).1

theorem RowC.exB {w : World} {g : Nat} {t : TypeId} {s n : Nat} {F : Nat → List Value} (h : RowC w g t s n F) : ExB w g t := by
  obtain ⟨cs, h1, _⟩ := h
  exact ⟨cs, h1⟩

/-- A list of structs of the call's own. -/
def OwnC (w : World) (base : Nat) (t : TypeId) (s : Nat) (v : Value) (n : Nat) (F : Nat → List Value) : Prop :=
  (n = 0 ∧ ∃ a c, v = .slice a 0 c) ∨ ∃ g c, v = .slice (some ⟨g, 0, none⟩) n c ∧ base ≤ g ∧ RowC w g t s n F

theorem OwnC.below {w w' : World} {base : Nat} {t : TypeId} {s : Nat} {v : Value} {n : Nat} {F : Nat → List Value} (h : OwnC w base t s v n F) (hb : Below w.heap.size w w') : OwnC w' base t s v n F := by
  rcases h with h | ⟨g, c, h1, h2, h3⟩
  · exact .inl h
  · exact .inr ⟨g, c, h1, h2, h3.below hb⟩

theorem OwnC.mono {w : World} {base base' : Nat} {t : TypeId} {s : Nat} {v : Value} {n : Nat} {F : Nat → List Value} (h : OwnC w base t s v n F) (hb : base' ≤ base) : OwnC w base' t s v n F := by
  rcases h with h | ⟨g, c, h1, h2, h3⟩
  · exact .inl h
  · exact .inr ⟨g, c, h1, by omega, h3⟩

theorem OwnC.keptLt {w w' : World} {base gx : Nat} {t : TypeId} {s : Nat} {v : Value} {n : Nat} {F : Nat → List Value} (h : OwnC w base t s v n F) (hg : w.grownBy w' (some gx)) (hx : gx < base) : OwnC w' base t s v n F := by
  rcases h with h | ⟨g, c, h1, h2, h3⟩
  · exact .inl h
  · exact .inr ⟨g, c, h1, h2, h3.kept hg (by intro e; have := Option.some.inj e; omega)⟩

theorem OwnC.shape {w : World} {base : Nat} {t : TypeId} {s : Nat} {v : Value} {n : Nat} {F : Nat → List Value} (h : OwnC w base t s v n F) : ∃ a c, v = .slice a n c := by
  rcases h with ⟨rfl, h⟩ | ⟨g, c, h1, _⟩
  · exact h
  · exact ⟨_, c, h1⟩

theorem OwnC.sl {w : World} {base : Nat} {t : TypeId} {s n m c : Nat} {a : Option Addr} {F : Nat → List Value} (h : OwnC w base t s (.slice a m c) n F) : SlS w a s n F := by
  rcases h with ⟨h, _⟩ | ⟨g, c', h1, _, h3⟩
  · exact .inl h
  · simp only [Value.slice.injEq] at h1
    exact .inr ⟨g, 0, h1.1, h3.lt, fun k hk j hj => by rw [Nat.zero_add]; exact h3.cell hk hj⟩

/-- One part lies in the world as the cells vs: its rows in the blocks lo .. hi. -/
def PtAt (w : World) (lo hi : Nat) (vs : List Value) (P : Pa) : Prop :=
  ∃ a1 a2 c1 c2, vs = ptl P a1 a2 c1 c2 ∧ OwnI w lo (.slice a1 P.ws.length c1) P.ws ∧ OwnB w lo (.slice a2 P.bs.length c2) P.bs ∧
    (∀ k, (Value.slice a1 P.ws.length c1).ownBlock = some k → k < hi) ∧ (∀ k, (Value.slice a2 P.bs.length c2).ownBlock = some k → k < hi)

theorem PtAt.below {w w' : World} {lo hi : Nat} {vs : List Value} {P : Pa} (h : PtAt w lo hi vs P) (hb : Below w.heap.size w w') : PtAt w' lo hi vs P := by
  obtain ⟨a1, a2, c1, c2, h1, h2, h3, h4, h5⟩ := h
  exact ⟨a1, a2, c1, c2, h1, h2.below hb, h3.below hb, h4, h5⟩

theorem PtAt.mono {w : World} {lo lo' hi : Nat} {vs : List Value} {P : Pa} (h : PtAt w lo hi vs P) (hl : lo' ≤ lo) : PtAt w lo' hi vs P := by
  obtain ⟨a1, a2, c1, c2, h1, h2, h3, h4, h5⟩ := h
  exact ⟨a1, a2, c1, c2, h1, h2.mono hl, h3.mono hl, h4, h5⟩

theorem PtAt.kept {w w' : World} {lo hi : Nat} {vs : List Value} {P : Pa} {gx : Nat} (h : PtAt w lo hi vs P) (hg : w.grownBy w' (some gx)) (hx : gx < lo ∨ hi ≤ gx ∨ ∃ t, ExB w gx t ∧ t ≠ 3 ∧ t ≠ 4) : PtAt w' lo hi vs P := by
  obtain ⟨a1, a2, c1, c2, h1, h2, h3, h4, h5⟩ := h
  refine ⟨a1, a2, c1, c2, h1, h2.kept hg (.inr ?_), h3.kept hg (.inr ?_), h4, h5⟩
  · intro e
    rcases hx with hx | hx | ⟨t, ⟨cs, hx⟩, ht, _⟩
    · have := (World.ownsRow.lt h2 gx e).1; omega
    · have := h4 gx e; omega
    · exact row_noBlk h2 hx ht e
  · intro e
    rcases hx with hx | hx | ⟨t, ⟨cs, hx⟩, _, ht⟩
    · have := (World.ownsRow.lt h3 gx e).1; omega
    · have := h5 gx e; omega
    · exact row_noBlk h3 hx ht e

theorem PtAt.len {w : World} {lo hi : Nat} {vs : List Value} {P : Pa} (h : PtAt w lo hi vs P) : vs.length = 8 := by
  obtain ⟨a1, a2, c1, c2, rfl, _⟩ := h
  rfl

/-- The first z parts lie apart, one behind the other. -/
def InP (w : World) (base : Nat) (β : Nat → Nat) (F : Nat → List Value) (Ps : List Pa) (z : Nat) : Prop :=
  base ≤ β 0 ∧ (∀ k, β k ≤ β (k + 1)) ∧ ∀ k, k < z → PtAt w (β k) (β (k + 1)) (F k) (Ps.getD k default)

theorem InP.start (w : World) (base : Nat) (F : Nat → List Value) (Ps : List Pa) : InP w base (fun _ => base) F Ps 0 := ⟨Nat.le_refl _, fun _ => Nat.le_refl _, fun k hk => by omega⟩

theorem InP.below {w w' : World} {base : Nat} {β : Nat → Nat} {F : Nat → List Value} {Ps : List Pa} {z : Nat} (h : InP w base β F Ps z) (hb : Below w.heap.size w w') : InP w' base β F Ps z := ⟨h.1, h.2.1, fun k hk => (h.2.2 k hk).below hb⟩

theorem InP.keptT {w w' : World} {base gx : Nat} {β : Nat → Nat} {F : Nat → List Value} {Ps : List Pa} {z : Nat} {t : TypeId} (h : InP w base β F Ps z) (hg : w.grownBy w' (some gx)) (hx : ExB w gx t) (h1 : t ≠ 3) (h2 : t ≠ 4) : InP w' base β F Ps z := ⟨h.1, h.2.1, fun k hk => (h.2.2 k hk).kept hg (.inr (.inr ⟨t, hx, h1, h2⟩))⟩

theorem beta_mono {β : Nat → Nat} (h : ∀ k, β k ≤ β (k + 1)) : ∀ {i j : Nat}, i ≤ j → β i ≤ β j := by
  intro i j hij
  induction hij with
  | refl => exact Nat.le_refl _
  | step _ ih => exact Nat.le_trans ih (h _)

theorem InP.keptLt {w w' : World} {base gx : Nat} {β : Nat → Nat} {F : Nat → List Value} {Ps : List Pa} {z : Nat} (h : InP w base β F Ps z) (hg : w.grownBy w' (some gx)) (hx : gx < base) : InP w' base β F Ps z :=
  ⟨h.1, h.2.1, fun k hk => (h.2.2 k hk).kept hg (.inl (by have := beta_mono h.2.1 (Nat.zero_le k); have := h.1; omega))⟩

theorem InP.congr {w : World} {base : Nat} {β : Nat → Nat} {F G : Nat → List Value} {Ps : List Pa} {z : Nat} (h : InP w base β F Ps z) (he : ∀ k, k < z → F k = G k) : InP w base β G Ps z := ⟨h.1, h.2.1, fun k hk => by rw [← he k hk]; exact h.2.2 k hk⟩

/-- One part more. -/
theorem InP.push {w : World} {base lo z : Nat} {β : Nat → Nat} {F : Nat → List Value} {Ps : List Pa} {vs : List Value} {P : Pa} (h : InP w base β F Ps z) (hz : β z ≤ lo) (hlo : lo ≤ w.heap.size) (p : PtAt w lo w.heap.size vs P) (hP : Ps.getD z default = P) :
    InP w base (fun k => if k ≤ z then β k else w.heap.size) (fun k => if k = z then vs else F k) Ps (z + 1) := by
  refine ⟨h.1, fun k => ?_, fun k hk => ?_⟩
  · by_cases e : k + 1 ≤ z
    · simp only [if_pos e, if_pos (show k ≤ z by omega)]; exact h.2.1 k
    · by_cases e2 : k ≤ z
      · simp only [if_pos e2, if_neg e]
        have : k = z := by omega
        subst this; omega
      · simp only [if_neg e2, if_neg e]; exact Nat.le_refl _
  · by_cases e : k = z
    · subst e
      simp only [if_pos (Nat.le_refl k), if_neg (show ¬ k + 1 ≤ k by omega), if_pos]
      rw [hP]
      exact p.mono hz
    · simp only [if_pos (show k ≤ z by omega), if_pos (show k + 1 ≤ z by omega), if_neg e]
      exact h.2.2 k (by omega)

/-- A list of parts of the call's own. -/
def OwnPs (w : World) (base : Nat) (v : Value) (Ps : List Pa) : Prop :=
  ∃ F β, OwnC w base 37 8 v Ps.length F ∧ InP w base β F Ps Ps.length

theorem OwnPs.below {w w' : World} {base : Nat} {v : Value} {Ps : List Pa} (h : OwnPs w base v Ps) (hb : Below w.heap.size w w') : OwnPs w' base v Ps := by
  obtain ⟨F, β, h1, h2⟩ := h
  exact ⟨F, β, h1.below hb, h2.below hb⟩

theorem OwnPs.keptLt {w w' : World} {base gx : Nat} {v : Value} {Ps : List Pa} (h : OwnPs w base v Ps) (hg : w.grownBy w' (some gx)) (hx : gx < base) : OwnPs w' base v Ps := by
  obtain ⟨F, β, h1, h2⟩ := h
  exact ⟨F, β, h1.keptLt hg hx, h2.keptLt hg hx⟩

theorem OwnPs.mono {w : World} {base base' : Nat} {v : Value} {Ps : List Pa} (h : OwnPs w base v Ps) (hb : base' ≤ base) : OwnPs w base' v Ps := by
  obtain ⟨F, β, h1, h2⟩ := h
  exact ⟨F, β, h1.mono hb, Nat.le_trans hb h2.1, h2.2⟩

theorem OwnPs.shape {w : World} {base : Nat} {v : Value} {Ps : List Pa} (h : OwnPs w base v Ps) : ∃ a c, v = .slice a Ps.length c := by
  obtain ⟨F, β, h1, h2⟩ := h
  exact h1.shape

theorem ownPs_nil (w : World) (base : Nat) (a : Option Addr) (c : Nat) : OwnPs w base (.slice a 0 c) [] := ⟨fun _ => [], fun _ => base, .inl ⟨rfl, a, c, rfl⟩, InP.start w base _ _⟩

/-- Part k as it is read. -/
theorem OwnPs.at {w : World} {base : Nat} {a : Option Addr} {m c : Nat} {Ps : List Pa} (h : OwnPs w base (.slice a m c) Ps) {k : Nat} (hk : k < Ps.length) : ∃ b off a1 a2 c1 c2, a = some ⟨b, off, none⟩ ∧
    w.cell? ⟨b, off + k * 8, none⟩ = some (.int .i64 (Ps.getD k default).p) ∧ w.cell? ⟨b, off + k * 8 + 1, none⟩ = some (.int .i64 (Ps.getD k default).t) ∧ w.cell? ⟨b, off + k * 8 + 2, none⟩ = some (.int .i64 (Ps.getD k default).kd) ∧ w.cell? ⟨b, off + k * 8 + 3, none⟩ = some (.int .i64 (Ps.getD k default).pl) ∧ w.cell? ⟨b, off + k * 8 + 4, none⟩ = some (.int .i64 (Ps.getD k default).n) ∧
    w.cell? ⟨b, off + k * 8 + 5, none⟩ = some (.slice a1 (Ps.getD k default).ws.length c1) ∧ w.cell? ⟨b, off + k * 8 + 6, none⟩ = some (.slice a2 (Ps.getD k default).bs.length c2) ∧ w.cell? ⟨b, off + k * 8 + 7, none⟩ = some (.int .i64 (Ps.getD k default).wa) ∧
    SlI w a1 (Ps.getD k default).ws ∧ SlB w a2 (Ps.getD k default).bs := by
  obtain ⟨F, β, h1, h2⟩ := h
  obtain ⟨b, off, ha, hb, hc⟩ := SlS.at h1.sl hk
  obtain ⟨a1, a2, c1, c2, e, o1, o2, _⟩ := h2.2.2 k hk
  rw [e] at hc
  exact ⟨b, off, a1, a2, c1, c2, ha, hc 0 (by decide), hc 1 (by decide), hc 2 (by decide), hc 3 (by decide), hc 4 (by decide), hc 5 (by decide), hc 6 (by decide), hc 7 (by decide), o1.sl.2, o2.sl.2⟩

end Go.Proofs.Ytaaokbmfpfmfgaa

namespace Go.Proofs.Ytaaokbmfpfmfgaa
open Go.RowKit

set_option linter.unusedVariables false

set_option linter.unusedSimpArgs false

def pcN (kd n : Int) : Int := if kd ≤ 4 then n else 0

def pcW (kd : Int) (fr N : Nat) (ws : List Int) : List Int := if kd = 6 ∨ kd = 16 then (ws.drop fr).take N else if kd = 22 then ws else []

def pcB (kd : Int) (fr N : Nat) (bs : List Bool) : List Bool := if kd = 5 ∨ kd = 15 then (bs.drop fr).take N else []

/-- The part of a question at a run. -/
def pcOf (kd pl : Int) (ws : List Int) (bs : List Bool) (x : Rn) : Pa := ⟨x.r.p, x.r.t, kd, x.at' + x.r.sh, pcN kd x.n, 0, pcW kd (x.at' - pl).toNat x.n.toNat ws, pcB kd (x.at' - pl).toNat x.n.toNat bs⟩

/-- Kinds that are no ReadWrite, and how much of their lists is asked for. -/
def KdM (kd pl : Int) (ws : List Int) (bs : List Bool) (E : Int) : Prop :=
  (kd = 1 ∨ kd = 2 ∨ kd = 3 ∨ kd = 4) ∨ ((kd = 5 ∨ kd = 15) ∧ E ≤ pl + bs.length) ∨ ((kd = 6 ∨ kd = 16 ∨ kd = 22) ∧ E ≤ pl + ws.length)

theorem part_any (kd : Int) (x : Rn) (pl nn wa E : Int) (q1 q2 : Option Addr) (m1 m2 k1 k2 : Nat) (ws : List Int) (bs : List Bool) (w : World) (hk : KdM kd pl ws bs E) (h1 : 0 ≤ x.at' ∧ x.at' ≤ 65535) (h2 : -65535 ≤ x.r.sh ∧ x.r.sh ≤ 65535) (h3 : 0 ≤ pl ∧ pl ≤ 65535) (hx : pl ≤ x.at' ∧ 0 < x.n ∧ x.at' + x.n ≤ E)
    (hm1 : m1 = ws.length) (hm2 : m2 = bs.length) (s1 : SlI w q1 ws) (s2 : SlB w q2 bs) (hl1 : ws.length ≤ 2000000) (hl2 : bs.length ≤ 2000000) (hk1 : m1 ≤ k1) (hk2 : m2 ≤ k2) :
    Calls Try.prog 88 #[.agg (rnc x), .agg (rqc kd pl nn wa q1 q2 m1 m2 k1 k2)] w fun e w' => PartPost w w' e (pcOf kd pl ws bs x) := by
  obtain ⟨r, ac, n⟩ := x
  simp only at h1 h2 hx ⊢
  obtain ⟨N, rfl⟩ : ∃ N : Nat, n = (N : Int) := ⟨n.toNat, by omega⟩
  obtain ⟨fr, hfr⟩ : ∃ fr : Nat, ac - pl = (fr : Int) := ⟨(ac - pl).toNat, by omega⟩
  have efr : (ac - pl).toNat = fr := by omega
  have eN : ((N : Int)).toNat = N := by omega
  rcases hk with hk | ⟨hk, hE⟩ | ⟨hk, hE⟩
  · refine (part_read kd hk ⟨r, ac, N⟩ pl nn wa q1 q2 m1 m2 k1 k2 w h1 h2 h3).mono ?_
    rintro e w' ⟨rfl, b⟩
    have e1 : pcOf kd pl ws bs ⟨r, ac, N⟩ = ⟨r.p, r.t, kd, ac + r.sh, N, 0, [], []⟩ := by
      unfold pcOf pcN pcW pcB
      rw [if_pos (by omega), if_neg (by omega), if_neg (by omega), if_neg (by omega)]
    rw [e1]
    exact ⟨none, none, 0, 0, 0, 0, rfl, rfl, rfl, ownI_z _ _, ownB_z _ _, b⟩
  · have e1 : pcOf kd pl ws bs ⟨r, ac, N⟩ = ⟨r.p, r.t, kd, ac + r.sh, 0, 0, [], (bs.drop fr).take N⟩ := by
      unfold pcOf pcN pcW pcB
      simp only
      rw [if_neg (by omega), if_neg (by omega), if_neg (by omega), if_pos hk, efr, eN]
    rw [e1]
    obtain rfl | rfl := hk
    · exact part_5 r ac pl nn wa q1 q2 m1 m2 k1 k2 fr N bs w h1 h2 h3 hm2 s2 hl2 hk2 hfr (by omega) (by omega)
    · exact part_15 r ac pl nn wa q1 q2 m1 m2 k1 k2 fr N bs w h1 h2 h3 hm2 s2 hl2 hk2 hfr (by omega) (by omega)
  · by_cases h22 : kd = 22
    · subst h22
      have e1 : pcOf 22 pl ws bs ⟨r, ac, N⟩ = ⟨r.p, r.t, 22, ac + r.sh, 0, 0, ws, []⟩ := by
        unfold pcOf pcN pcW pcB
        rw [if_neg (by omega), if_neg (by omega), if_pos rfl, if_neg (by omega)]
      rw [e1]
      exact part_22 r ac pl nn wa q1 q2 m1 m2 k1 k2 fr N ws w h1 h2 h3 hm1 s1 hl1 hk1 hfr (by omega) (by omega)
    · have e1 : pcOf kd pl ws bs ⟨r, ac, N⟩ = ⟨r.p, r.t, kd, ac + r.sh, 0, 0, (ws.drop fr).take N, []⟩ := by
        unfold pcOf pcN pcW pcB
        simp only
        rw [if_neg (by omega), if_pos (by omega), if_neg (by omega), efr, eN]
      rw [e1]
      obtain rfl | rfl | rfl := hk
      · exact part_6 r ac pl nn wa q1 q2 m1 m2 k1 k2 fr N ws w h1 h2 h3 hm1 s1 hl1 hk1 hfr (by omega) (by omega)
      · exact part_16 r ac pl nn wa q1 q2 m1 m2 k1 k2 fr N ws w h1 h2 h3 hm1 s1 hl1 hk1 hfr (by omega) (by omega)
      · exact absurd rfl h22

/-- What partsOf has told. -/
def PartsPo (w w' : World) (e : Ending) (f : Nat → Ru) (n : Nat) (un sp E c0 kd : Int) (ws : List Int) (bs : List Bool) : Prop :=
  ∃ v l b, e = .returned (.tuple #[v, .bool b]) ∧ OwnPs w' w.heap.size v (l.map (pcOf kd c0 ws bs)) ∧ RunsR f n un sp E c0 b l ∧ Below w.heap.size w w'

theorem pt_getD {l : List Rn} {g : Rn → Pa} {k : Nat} (h : k < l.length) : (l.map g).getD k default = g (l.getD k default) := by
  rw [List.getD_eq_getElem?_getD, List.getElem?_map, List.getD_eq_getElem?_getD, List.getElem?_eq_getElem h]; rfl

theorem slI_w {w w' : World} {a : Option Addr} {zs : List Int} (h : SlI w a zs) (hb : Below w.heap.size w w') : SlI w' a zs := h.below hb

theorem slB_w {w w' : World} {a : Option Addr} {zs : List Bool} (h : SlB w a zs) (hb : Below w.heap.size w w') : SlB w' a zs := h.below hb

set_option maxRecDepth 20000 in
set_option maxHeartbeats 2000000 in
theorem partsOf_any (kd : Int) (a : Option Addr) (n cap : Nat) (f : Nat → Ru) (un sp pl nn wa : Int) (q1 q2 : Option Addr) (m1 m2 k1 k2 : Nat) (ws : List Int) (bs : List Bool) (w : World) (hs : SlU w a n f) (hn : n ≤ 24) (hok : ∀ k, k < n → OkRu (f k)) (hap : Apart f n)
    (h1 : m1 = ws.length) (h2 : m2 = bs.length) (s1 : SlI w q1 ws) (s2 : SlB w q2 bs) (hl1 : ws.length ≤ 2000000) (hl2 : bs.length ≤ 2000000) (hk1 : m1 ≤ k1) (hk2 : m2 ≤ k2) (cn : Int) (hk : KdM kd pl ws bs (pl + cn)) (hv : spcV (okR kd pl nn wa ws m1 m2) kd pl nn m1 m2 = .tuple #[.int .i64 sp, .int .i64 pl, .int .i64 cn]) (hc : 0 ≤ pl ∧ 0 ≤ cn ∧ pl + cn ≤ 65536) (hc' : pl ≤ 65535) :
    Calls Try.prog 37 #[.slice a n cap, .int .i64 un, .agg (rqc kd pl nn wa q1 q2 m1 m2 k1 k2)] w fun e w' => PartsPo w w' e f n un sp (pl + cn) pl kd ws bs := by
  have hk23' : ¬ kd = 23 := by unfold KdM at hk; omega
  have hk23 : (kd == 23) = false := by simpa using hk23'
  have HK : Hid (KdM kd pl ws bs (pl + cn) ∧ m1 ≤ k1 ∧ m2 ≤ k2) := ⟨hk, hk1, hk2⟩
  clear hk hk1 hk2
  obtain ⟨W, hW⟩ : ∃ W, W = w.alloc (.cells (rqc kd pl nn wa q1 q2 m1 m2 k1 k2) 28) := ⟨_, rfl⟩
  have bW : Below w.heap.size w W := by rw [hW]; exact (Below.refl _ _).alloc (Nat.le_refl _) _
  have HFF : Hid ((∀ k, k < n → OkRu (f k)) ∧ Apart f n) := ⟨hok, hap⟩
  have HW : Hid (SlU W a n f ∧ SlI W q1 ws ∧ SlB W q2 bs ∧ Below w.heap.size w W ∧ Blk W w.heap.size 28 (rqc kd pl nn wa q1 q2 m1 m2 k1 k2)) := ⟨SlS.below hs bW, s1.below bW, s2.below bW, bW, by rw [hW]; exact Blk.new w _ 28⟩
  have HQ : Hid (m1 = ws.length ∧ m2 = bs.length) := ⟨h1, h2⟩
  have HV : Hid (spcV (okR kd pl nn wa ws m1 m2) kd pl nn m1 m2 = .tuple #[.int .i64 sp, .int .i64 pl, .int .i64 cn]) := hv
  have HS : Hid (SlI w q1 ws ∧ SlB w q2 bs) := ⟨s1, s2⟩
  clear hs s1 s2 bW h1 h2 hv hok hap
  go_enter Try.func37, Try.ntmps37
  go_upto_region 3 with fail
  rw [← hW]
  clear hW
  obtain ⟨y0, y1, y2, y3, y4, y5⟩ := HW.out.2.2.2.2.six
  go_wp2_with fail
  refine (implSpaces_t kd pl nn wa q1 q2 m1 m2 k1 k2 ws bs _ HQ.out.1 HQ.out.2 HW.out.2.1 HW.out.2.2.1 hl1 hl2 sp pl cn HV.out).mono ?_
  rintro e w1 ⟨rfl, b1⟩
  have HX : Hid (SlU w1 a n f ∧ Below w.heap.size w w1 ∧ Blk w1 w.heap.size 28 (rqc kd pl nn wa q1 q2 m1 m2 k1 k2) ∧ SlI w1 q1 ws ∧ SlB w1 q2 bs) := ⟨SlS.below HW.out.1 b1, bel_next HW.out.2.2.2.1 b1, HW.out.2.2.2.2.below b1, HW.out.2.1.below b1, HW.out.2.2.1.below b1⟩
  clear HW b1 y0 y1 y2 y3 y4 y5 HV
  go_wp2_with fail
  refine (runsOf_any a n cap f un sp pl cn _ HX.out.1 hn HFF.out.1 HFF.out.2 hc).mono ?_
  rintro e w2 ⟨v, l, b, rfl, O2, hln, hR, hel, b2⟩
  obtain ⟨va, vc, rfl⟩ := O2.shape
  obtain ⟨N, hN⟩ : ∃ N, N = l.length := ⟨_, rfl⟩
  rw [← hN] at O2 ⊢
  have HN : Hid (N = l.length ∧ N ≤ 24) := ⟨hN, by omega⟩
  have HL : Hid (l.length ≤ n ∧ RunsR f n un sp (pl + cn) pl b l ∧ ∀ k, k < N → OkRu (l.getD k default).r ∧ hasR (l.getD k default).r un sp (l.getD k default).at' = true ∧ pl ≤ (l.getD k default).at' ∧ 0 < (l.getD k default).n ∧ (l.getD k default).at' + (l.getD k default).n ≤ pl + cn) := ⟨hln, hR, fun k hk => hel (l.getD k default) (by rw [List.getD_eq_getElem?_getD, List.getElem?_eq_getElem (by omega)]; simp)⟩
  have hmk := run_make_st (P := Try.prog) 31 37 (.agg zpl.toArray) 8 96 Try.underlying31 Try.infoP37 .i64 .i64 N (by have := HN.out; omega) (by have := HN.out; omega)
  have bM := (Below.refl w2.heap.size w2).alloc (Nat.le_refl _) (.cells (madeCells (Value.agg zpl.toArray).cells (N * 8)) 37)
  have HM : Hid (RowS (w2.alloc (.cells (madeCells (Value.agg zpl.toArray).cells (N * 8)) 37)) w2.heap.size 37 8 N (fun _ => zpl) ∧ OwnR (w2.alloc (.cells (madeCells (Value.agg zpl.toArray).cells (N * 8)) 37)) w1.heap.size (.slice va N vc) l ∧ Blk (w2.alloc (.cells (madeCells (Value.agg zpl.toArray).cells (N * 8)) 37)) w.heap.size 28 (rqc kd pl nn wa q1 q2 m1 m2 k1 k2) ∧ Below w.heap.size w (w2.alloc (.cells (madeCells (Value.agg zpl.toArray).cells (N * 8)) 37)) ∧ w.heap.size ≤ w2.heap.size ∧ SlI (w2.alloc (.cells (madeCells (Value.agg zpl.toArray).cells (N * 8)) 37)) q1 ws ∧ SlB (w2.alloc (.cells (madeCells (Value.agg zpl.toArray).cells (N * 8)) 37)) q2 bs) := ⟨RowS.made w2 zpl N _ (by simp), O2.below bM, (HX.out.2.2.1.below b2).below bM, bel_next (bel_next HX.out.2.1 b2) bM, (bel_next HX.out.2.1 b2).size, (HX.out.2.2.2.1.below b2).below bM, (HX.out.2.2.2.2.below b2).below bM⟩
  have HGE : Hid (w.heap.size ≤ w2.heap.size) := HM.out.2.2.2.2.1
  clear O2 hN hln hR hel b2 bM HX
  go_wp2
  clear hmk
  go_loopw [45] (fun i wr => ∃ z : Nat, z ≤ N ∧ i = .int .i64 z ∧ (∃ (F : Nat → List Value) (β : Nat → Nat), RowS wr w2.heap.size 37 8 N F ∧ (∀ k, z ≤ k → F k = zpl) ∧ InP wr w.heap.size β F (l.map (pcOf kd pl ws bs)) z ∧ β z ≤ wr.heap.size) ∧ OwnR wr w1.heap.size (.slice va N vc) l ∧ Blk wr w.heap.size 28 (rqc kd pl nn wa q1 q2 m1 m2 k1 k2) ∧ Below w.heap.size w wr ∧ SlI wr q1 ws ∧ SlB wr q2 bs) (fun i _ => N - (intOf i).toNat)
  case atStart => exact ⟨0, Nat.zero_le _, rfl, ⟨fun _ => zpl, fun _ => w.heap.size, HM.out.1, fun _ _ => rfl, InP.start _ _ _ _, HM.out.2.2.2.1.size⟩, HM.out.2.1, HM.out.2.2.1, HM.out.2.2.2.1, HM.out.2.2.2.2.2⟩
  case round =>
    obtain ⟨z, hz, rfl, ⟨F, β, hrow, hF, hIn, hβ⟩, hO, hQ, hbl, hs1, hs2⟩ := hrel
    have hN24 : N ≤ 24 := HN.out.2
    by_cases hlt : z < N
    · have hi : (z : Int) < (N : Int) := by omega
      obtain ⟨x, hx⟩ : ∃ x, x = l.getD z default := ⟨_, rfl⟩
      have HXX : Hid (x = l.getD z default) := hx
      have hsl := (OwnR.sl hO)
      rw [← hsl.1] at hsl
      obtain ⟨bb, off, hva, hbb, c0, c1, c2, c3, c4, c5, c6, c7, c8⟩ := SlS.nine (G := fun k => l.getD k default) hsl.2 hlt
      simp only [← hx] at c0 c1 c2 c3 c4 c5 c6 c7 c8
      subst hva
      have hx2 := HL.out.2.2 z hlt
      rw [← hx] at hx2
      have HX2 : Hid (0 ≤ x.at' ∧ x.at' ≤ 65535 ∧ (-65535 ≤ x.r.sh ∧ x.r.sh ≤ 65535) ∧ pl ≤ x.at' ∧ 0 < x.n ∧ x.at' + x.n ≤ pl + cn) := by
        obtain ⟨o1, o2, o3⟩ := hx2
        rw [hasR_true] at o2
        unfold OkRu at o1
        show _ ∧ _
        omega
      obtain ⟨W3, hW3⟩ : ∃ W3, W3 = wr.alloc (.cells (rnc x) 112) := ⟨_, rfl⟩
      obtain ⟨gB, hgB⟩ : ∃ gB, gB = wr.heap.size := ⟨_, rfl⟩
      have bW3 : Below wr.heap.size wr W3 := by rw [hW3]; exact (Below.refl _ _).alloc (Nat.le_refl _) _
      have HW3 : Hid ((RowS W3 w2.heap.size 37 8 N F ∧ InP W3 w.heap.size β F (l.map (pcOf kd pl ws bs)) z ∧ β z ≤ W3.heap.size ∧ SlI W3 q1 ws ∧ SlB W3 q2 bs) ∧ OwnR W3 w1.heap.size (.slice (some ⟨bb, off, none⟩) N vc) l ∧ Blk W3 w.heap.size 28 (rqc kd pl nn wa q1 q2 m1 m2 k1 k2) ∧ Below w.heap.size w W3 ∧ Blk W3 gB 112 (rnc x)) := ⟨⟨hrow.below bW3, hIn.below bW3, Nat.le_trans hβ bW3.size, hs1.below bW3, hs2.below bW3⟩, hO.below bW3, hQ.below bW3, bel_next hbl bW3, by rw [hW3, hgB]; exact Blk.new wr _ 112⟩
      have HF : Hid (F z = zpl ∧ ∀ k, z + 1 ≤ k → F k = zpl) := ⟨hF z (Nat.le_refl _), fun k hk => hF k (by omega)⟩
      clear hrow hO hQ hbl bW3 hsl hx2 hx hIn hβ hF hs1 hs2
      go_upto_region 9 with fail
      rw [← hW3, ← hgB]
      clear hW3 hgB c0 c1 c2 c3 c4 c5 c6 c7 c8
      obtain ⟨y0, y1, y2, y3, y4, y5⟩ := HW3.out.2.2.1.six
      have z0 := HW3.out.2.2.2.2.cell 0 rfl
      have z1 := HW3.out.2.2.2.2.cell 1 rfl
      have z2 := HW3.out.2.2.2.2.cell 2 rfl
      have z3 := HW3.out.2.2.2.2.cell 3 rfl
      have z4 := HW3.out.2.2.2.2.cell 4 rfl
      have z5 := HW3.out.2.2.2.2.cell 5 rfl
      have z6 := HW3.out.2.2.2.2.cell 6 rfl
      have z7 := HW3.out.2.2.2.2.cell 7 rfl
      have z8 := HW3.out.2.2.2.2.cell 8 rfl
      go_wp2_with fail
      refine (part_any kd x pl nn wa (pl + cn) q1 q2 m1 m2 k1 k2 ws bs _ HK.out.1 ⟨HX2.out.1, HX2.out.2.1⟩ HX2.out.2.2.1 ⟨hc.1, hc'⟩ HX2.out.2.2.2 HQ.out.1 HQ.out.2 HW3.out.1.2.2.2.1 HW3.out.1.2.2.2.2 hl1 hl2 HK.out.2.1 HK.out.2.2).mono ?_
      rintro e w4 ⟨a1, a2, l1, l2, c1, c2, rfl, e1, e2, o1, o2, b4⟩
      have R2 := HW3.out.1.1.below b4
      obtain ⟨P, hP⟩ : ∃ P, P = pcOf kd pl ws bs x := ⟨_, rfl⟩
      rw [← hP] at e1 e2 o1 o2 ⊢
      have HP : Hid (P = pcOf kd pl ws bs x ∧ l1 = P.ws.length ∧ l2 = P.bs.length) := ⟨hP, e1, e2⟩
      have HX4 : Hid ((OwnR w4 w1.heap.size (.slice (some ⟨bb, off, none⟩) N vc) l ∧ Blk w4 w.heap.size 28 (rqc kd pl nn wa q1 q2 m1 m2 k1 k2) ∧ Below w.heap.size w w4) ∧ SlI w4 q1 ws ∧ SlB w4 q2 bs ∧ InP w4 w.heap.size β F (l.map (pcOf kd pl ws bs)) z ∧ β z ≤ W3.heap.size ∧ W3.heap.size ≤ w4.heap.size ∧ OwnI w4 W3.heap.size (.slice a1 l1 c1) P.ws ∧ OwnB w4 W3.heap.size (.slice a2 l2 c2) P.bs) := ⟨⟨HW3.out.2.1.below b4, HW3.out.2.2.1.below b4, bel_next HW3.out.2.2.2.1 b4⟩, HW3.out.1.2.2.2.1.below b4, HW3.out.1.2.2.2.2.below b4, HW3.out.1.2.1.below b4, HW3.out.1.2.2.1, b4.size, o1, o2⟩
      clear hP e1 e2 o1 o2
      clear y0 y1 y2 y3 y4 y5 z0 z1 z2 z3 z4 z5 z6 z7 z8 HW3 b4
      have HNE : Hid (w2.heap.size ≠ w.heap.size) := by
        intro e9
        obtain ⟨cs, h9, _⟩ := R2
        have h8 : w4.heap[w.heap.size]? = _ := HX4.out.1.2.1
        rw [e9, h8] at h9
        simp at h9
      have d0 : w4.cell? ⟨w2.heap.size, z * 8, none⟩ = some (.int .i64 0) := (by have h9 := R2.cell (k := z) (j := 0) hlt (by decide); rw [HF.out.1] at h9; simpa using h9)
      have g0 := RowS.fro R2 (z * 8)
      have d1 : w4.cell? ⟨w2.heap.size, z * 8 + 1, none⟩ = some (.int .i64 0) := (by have h9 := R2.cell (k := z) (j := 1) hlt (by decide); rw [HF.out.1] at h9; simpa using h9)
      have g1 := RowS.fro R2 (z * 8 + 1)
      have d2 : w4.cell? ⟨w2.heap.size, z * 8 + 2, none⟩ = some (.int .i64 0) := (by have h9 := R2.cell (k := z) (j := 2) hlt (by decide); rw [HF.out.1] at h9; simpa using h9)
      have g2 := RowS.fro R2 (z * 8 + 2)
      have d3 : w4.cell? ⟨w2.heap.size, z * 8 + 3, none⟩ = some (.int .i64 0) := (by have h9 := R2.cell (k := z) (j := 3) hlt (by decide); rw [HF.out.1] at h9; simpa using h9)
      have g3 := RowS.fro R2 (z * 8 + 3)
      have d4 : w4.cell? ⟨w2.heap.size, z * 8 + 4, none⟩ = some (.int .i64 0) := (by have h9 := R2.cell (k := z) (j := 4) hlt (by decide); rw [HF.out.1] at h9; simpa using h9)
      have g4 := RowS.fro R2 (z * 8 + 4)
      have d5 : w4.cell? ⟨w2.heap.size, z * 8 + 5, none⟩ = some (.slice none 0 0) := (by have h9 := R2.cell (k := z) (j := 5) hlt (by decide); rw [HF.out.1] at h9; simpa using h9)
      have g5 := RowS.fro R2 (z * 8 + 5)
      have d6 : w4.cell? ⟨w2.heap.size, z * 8 + 6, none⟩ = some (.slice none 0 0) := (by have h9 := R2.cell (k := z) (j := 6) hlt (by decide); rw [HF.out.1] at h9; simpa using h9)
      have g6 := RowS.fro R2 (z * 8 + 6)
      have d7 : w4.cell? ⟨w2.heap.size, z * 8 + 7, none⟩ = some (.int .i64 0) := (by have h9 := R2.cell (k := z) (j := 7) hlt (by decide); rw [HF.out.1] at h9; simpa using h9)
      have g7 := RowS.fro R2 (z * 8 + 7)
      have HR2 : Hid (RowS (setL w4 w2.heap.size (z * 8) [.int .i64 P.p, .int .i64 P.t, .int .i64 P.kd, .int .i64 P.pl, .int .i64 P.n, .slice a1 l1 c1, .slice a2 l2 c2, .int .i64 P.wa]) w2.heap.size 37 8 N (fun k => if k = z then [.int .i64 P.p, .int .i64 P.t, .int .i64 P.kd, .int .i64 P.pl, .int .i64 P.n, .slice a1 l1 c1, .slice a2 l2 c2, .int .i64 P.wa] else F k) ∧ (∀ k, z + 1 ≤ k → (fun k => if k = z then [.int .i64 P.p, .int .i64 P.t, .int .i64 P.kd, .int .i64 P.pl, .int .i64 P.n, .slice a1 l1 c1, .slice a2 l2 c2, .int .i64 P.wa] else F k) k = zpl)) := ⟨RowS.set R2 hlt [.int .i64 P.p, .int .i64 P.t, .int .i64 P.kd, .int .i64 P.pl, .int .i64 P.n, .slice a1 l1 c1, .slice a2 l2 c2, .int .i64 P.wa] rfl, fun k hk => by simp only [if_neg (show ¬ k = z by omega)]; exact HF.out.2 k hk⟩
      have HG : Hid (w4.grownBy (setL w4 w2.heap.size (z * 8) [.int .i64 P.p, .int .i64 P.t, .int .i64 P.kd, .int .i64 P.pl, .int .i64 P.n, .slice a1 l1 c1, .slice a2 l2 c2, .int .i64 P.wa]) (some w2.heap.size) ∧ ExB w4 w2.heap.size 37 ∧ w4.heap.size ≤ (setL w4 w2.heap.size (z * 8) [.int .i64 P.p, .int .i64 P.t, .int .i64 P.kd, .int .i64 P.pl, .int .i64 P.n, .slice a1 l1 c1, .slice a2 l2 c2, .int .i64 P.wa]).heap.size) := ⟨setL_grown _ _ _, (RowC.exB (RowS.rowC R2)), (setL_grown _ _ _).size⟩
      have HI2 : Hid (∃ β', InP (setL w4 w2.heap.size (z * 8) [.int .i64 P.p, .int .i64 P.t, .int .i64 P.kd, .int .i64 P.pl, .int .i64 P.n, .slice a1 l1 c1, .slice a2 l2 c2, .int .i64 P.wa]) w.heap.size β' (fun k => if k = z then [.int .i64 P.p, .int .i64 P.t, .int .i64 P.kd, .int .i64 P.pl, .int .i64 P.n, .slice a1 l1 c1, .slice a2 l2 c2, .int .i64 P.wa] else F k) (l.map (pcOf kd pl ws bs)) (z + 1) ∧ β' (z + 1) ≤ (setL w4 w2.heap.size (z * 8) [.int .i64 P.p, .int .i64 P.t, .int .i64 P.kd, .int .i64 P.pl, .int .i64 P.n, .slice a1 l1 c1, .slice a2 l2 c2, .int .i64 P.wa]).heap.size) := by
        have hin := HX4.out.2.2.2
        obtain ⟨eP, e1, e2⟩ := HP.out
        have hp : PtAt w4 W3.heap.size w4.heap.size [.int .i64 P.p, .int .i64 P.t, .int .i64 P.kd, .int .i64 P.pl, .int .i64 P.n, .slice a1 l1 c1, .slice a2 l2 c2, .int .i64 P.wa] P := ⟨a1, a2, c1, c2, by rw [e1, e2], by rw [← e1]; exact hin.2.2.2.1, by rw [← e2]; exact hin.2.2.2.2, by rw [← e1]; exact fun k hk => (World.ownsRow.lt hin.2.2.2.1 k hk).2, by rw [← e2]; exact fun k hk => (World.ownsRow.lt hin.2.2.2.2 k hk).2⟩
        have hq : (l.map (pcOf kd pl ws bs)).getD z default = P := by rw [pt_getD (by have := HN.out.1; omega), eP, HXX.out]
        exact ⟨_, (InP.push hin.1 hin.2.1 hin.2.2.1 hp hq).keptT HG.out.1 HG.out.2.1 (by decide) (by decide), by simp only [if_neg (show ¬ z + 1 ≤ z by omega)]; exact HG.out.2.2⟩
      have HB2 : Hid (OwnR (setL w4 w2.heap.size (z * 8) [.int .i64 P.p, .int .i64 P.t, .int .i64 P.kd, .int .i64 P.pl, .int .i64 P.n, .slice a1 l1 c1, .slice a2 l2 c2, .int .i64 P.wa]) w1.heap.size (.slice (some ⟨bb, off, none⟩) N vc) l ∧ Blk (setL w4 w2.heap.size (z * 8) [.int .i64 P.p, .int .i64 P.t, .int .i64 P.kd, .int .i64 P.pl, .int .i64 P.n, .slice a1 l1 c1, .slice a2 l2 c2, .int .i64 P.wa]) w.heap.size 28 (rqc kd pl nn wa q1 q2 m1 m2 k1 k2) ∧ Below w.heap.size w (setL w4 w2.heap.size (z * 8) [.int .i64 P.p, .int .i64 P.t, .int .i64 P.kd, .int .i64 P.pl, .int .i64 P.n, .slice a1 l1 c1, .slice a2 l2 c2, .int .i64 P.wa]) ∧ SlI (setL w4 w2.heap.size (z * 8) [.int .i64 P.p, .int .i64 P.t, .int .i64 P.kd, .int .i64 P.pl, .int .i64 P.n, .slice a1 l1 c1, .slice a2 l2 c2, .int .i64 P.wa]) q1 ws ∧ SlB (setL w4 w2.heap.size (z * 8) [.int .i64 P.p, .int .i64 P.t, .int .i64 P.kd, .int .i64 P.pl, .int .i64 P.n, .slice a1 l1 c1, .slice a2 l2 c2, .int .i64 P.wa]) q2 bs) := ⟨HX4.out.1.1.kept (setL_grown _ _ _) (.inr (OwnR.noRow HX4.out.1.1 R2 (by decide))), HX4.out.1.2.1.grown (setL_grown _ _ _) (by have := HNE.out; intro e9; exact this (Option.some.inj e9)), setL_below HGE.out _ _ _ HX4.out.1.2.2, slI_w HS.out.1 (setL_below HGE.out _ _ _ HX4.out.1.2.2), slB_w HS.out.2 (setL_below HGE.out _ _ _ HX4.out.1.2.2)⟩
      clear R2 HX4
      go_wp2
      go_roundw
      case rel => obtain ⟨β2, i2, i3⟩ := HI2.out; exact ⟨z + 1, by omega, by go_num, ⟨_, β2, HR2.out.1, HR2.out.2, i2, i3⟩, HB2.out⟩
      case measure => simp [intOf]; omega
    · have hi : ¬ (z : Int) < (N : Int) := by omega
      have HX9 : Hid (OwnPs wr w.heap.size (.slice (some ⟨w2.heap.size, 0, none⟩) N N) (l.map (pcOf kd pl ws bs)) ∧ Below w.heap.size w wr) := by
        have e9 : (l.map (pcOf kd pl ws bs)).length = N := by rw [List.length_map]; exact HN.out.1.symm
        have e8 : z = N := by omega
        refine ⟨⟨F, β, ?_, ?_⟩, hbl⟩
        · rw [e9]; exact .inr ⟨w2.heap.size, N, rfl, HGE.out, hrow.rowC⟩
        · rw [e9]; rw [e8] at hIn; exact hIn
      clear hrow hO hQ hbl hIn hβ hF hs1 hs2
      go_wp2
      refine bodyPost_ret (v := .tuple #[.slice (some ⟨w2.heap.size, 0, none⟩) N N, .bool b]) (by simp [results, Try.results37, go_sem]) rfl ?_
      exact ⟨_, l, b, rfl, HX9.out.1, HL.out.2.1, HX9.out.2⟩

end Go.Proofs.Ytaaokbmfpfmfgaa

namespace Go.Proofs.Ytaaokbmfpfmfgaa
open Go.RowKit Go.Joins

set_option linter.unusedVariables false

set_option linter.unusedSimpArgs false

theorem run_len_op {P : Program} {ρ : Operand → Value} {o : Oper} {u : World} {x : Operand} {t : TypeId} {a : Option Addr} {n c : Nat} {el : TypeId} (hu : P.underlying t = some (.slice el)) (ho : o.op = .call { callee := .builtin .len, args := #[x], argTypes := #[t] }) (hx : ρ x = .slice a n c) : (execOp ρ o).run P u = .ok (.value (.int .i64 (n : Int))) u := by
  unfold execOp
  rw [ho]
  simp [hx, Builtin.len_, run_underlying (P := P) hu, go_sem]

def bothM (f : Nat → Ru) (n : Nat) (un pl nn wa : Int) (ws : List Int) : Option Pa :=
  if atR f n un 2 pl < 0 then none else
    if ((f (atR f n un 2 pl).toNat).lo ≤ pl ∧ pl + nn - 1 ≤ (f (atR f n un 2 pl).toNat).hi) ∧ ((f (atR f n un 2 pl).toNat).lo ≤ wa ∧ wa + (ws.length : Int) - 1 ≤ (f (atR f n un 2 pl).toNat).hi) then
      some ⟨(f (atR f n un 2 pl).toNat).p, (f (atR f n un 2 pl).toNat).t, 23, pl + (f (atR f n un 2 pl).toNat).sh, nn, wa + (f (atR f n un 2 pl).toNat).sh, ws, []⟩ else none

/-- What partsOf has told. -/
def PartsPw (w w' : World) (e : Ending) (R : Option (List Pa)) : Prop :=
  ∃ v Ps b, e = .returned (.tuple #[v, .bool b]) ∧ OwnPs w' w.heap.size v Ps ∧ (b = true → R = some Ps) ∧ (b = false → R = none) ∧ Below w.heap.size w w'

theorem ownPs_one (Y : World) (base : Nat) (P : Pa) (a1 a2 : Option Addr) (c1 c2 : Nat) (h1 : OwnI Y base (.slice a1 P.ws.length c1) P.ws) (h2 : OwnB Y base (.slice a2 P.bs.length c2) P.bs) (hb : base ≤ Y.heap.size) :
    OwnPs (Y.alloc (.cells #[.int .i64 P.p, .int .i64 P.t, .int .i64 P.kd, .int .i64 P.pl, .int .i64 P.n, .slice a1 P.ws.length c1, .slice a2 P.bs.length c2, .int .i64 P.wa] 37)) base (.slice (some ⟨Y.heap.size, 0, none⟩) 1 1) [P] := by
  refine ⟨fun _ => ptl P a1 a2 c1 c2, fun k => if k = 0 then base else Y.heap.size, .inr ⟨Y.heap.size, 1, rfl, hb, ⟨(ptl P a1 a2 c1 c2).toArray, (by show (Y.heap.push _)[Y.heap.size]? = _; simp), by simp, fun k hk j hj => ?_⟩⟩, Nat.le_refl _, fun k => ?_, fun k hk => ?_⟩
  · have : k = 0 := by simp at hk; omega
    subst this
    simp
  · by_cases e : k = 0
    · simp [e, hb]
    · simp [e]
  · have : k = 0 := by simp at hk; omega
    subst this
    exact ⟨a1, a2, c1, c2, rfl, h1.below (bel_alloc _ _), h2.below (bel_alloc _ _), fun k hk => (World.ownsRow.lt h1 k hk).2, fun k hk => (World.ownsRow.lt h2 k hk).2⟩

set_option maxRecDepth 20000 in
set_option maxHeartbeats 2000000 in
theorem bothPart_any (a : Option Addr) (n cap : Nat) (f : Nat → Ru) (un pl nn wa : Int) (q1 q2 : Option Addr) (m1 m2 k1 k2 : Nat) (ws : List Int) (w : World) (hs : SlU w a n f) (hn : n ≤ 24) (hok : ∀ k, k < n → OkRu (f k))
    (h1 : m1 = ws.length) (s1 : SlI w q1 ws) (hl1 : ws.length ≤ 121) (hp : 0 ≤ pl ∧ pl ≤ 65535) (hnn : 0 ≤ nn ∧ nn ≤ 125) (hwa : 0 ≤ wa ∧ wa ≤ 65535) :
    Calls Try.prog 86 #[.slice a n cap, .int .i64 un, .agg (rqc 23 pl nn wa q1 q2 m1 m2 k1 k2)] w fun e w' => PartsPw w w' e ((bothM f n un pl nn wa ws).map (fun P => [P])) := by
  obtain ⟨W0, hW0⟩ : ∃ W0, W0 = w.alloc (.cells (rqc 23 pl nn wa q1 q2 m1 m2 k1 k2) 28) := ⟨_, rfl⟩
  obtain ⟨gQ, hgQ⟩ : ∃ gQ, gQ = w.heap.size := ⟨_, rfl⟩
  have bW0 : Below w.heap.size w W0 := by rw [hW0]; exact bel_alloc _ _
  have HW0 : Hid (SlU W0 a n f ∧ Below w.heap.size w W0 ∧ SlI W0 q1 ws ∧ Blk W0 gQ 28 (rqc 23 pl nn wa q1 q2 m1 m2 k1 k2)) := ⟨SlS.below hs bW0, bW0, s1.below bW0, by rw [hW0, hgQ]; exact Blk.new w _ _⟩
  have HM : Hid (m1 = ws.length ∧ ws.length ≤ 2000000) := ⟨h1, by omega⟩
  have HB : Hid ((0 ≤ pl ∧ pl ≤ 65535) ∧ (0 ≤ nn ∧ nn ≤ 65536) ∧ (0 ≤ wa ∧ wa ≤ 65535) ∧ (0 ≤ (m1 : Int) ∧ (m1 : Int) ≤ 65536)) := ⟨hp, ⟨hnn.1, by omega⟩, hwa, ⟨by omega, by omega⟩⟩
  have HOK : Hid (∀ k, k < n → OkRu (f k)) := hok
  have HQW : Hid (w.heap.size ≤ gQ) := Nat.le_of_eq hgQ.symm
  clear hs bW0 s1 h1 hp hnn hwa hok
  go_enter Try.func86, Try.ntmps86
  go_upto_region 1 with fail
  rw [← hW0, ← hgQ]
  clear hW0 hgQ
  have y1 := HW0.out.2.2.2.cell 1 rfl
  go_wp2_with fail
  refine (implRuleAt_any a n cap f un 2 pl _ HW0.out.1 (by omega)).mono ?_
  rintro e w1 ⟨rfl, b1⟩
  have HW : Hid (SlU w1 a n f ∧ Below w.heap.size w w1 ∧ SlI w1 q1 ws) := ⟨SlS.below HW0.out.1 b1, bel_next HW0.out.2.1 b1, HW0.out.2.2.1.below b1⟩
  have HQ : Hid (Blk w1 gQ 28 (rqc 23 pl nn wa q1 q2 m1 m2 k1 k2)) := HW0.out.2.2.2.below b1
  clear HW0 b1 y1
  by_cases hi : atR f n un 2 pl < 0
  · have HNO : Hid ((bothM f n un pl nn wa ws).map (fun P => [P]) = none) := by show _ = _; unfold bothM; rw [if_pos hi]; rfl
    have HX : Hid (Below w.heap.size w w1) := HW.out.2.1
    have dt : decide (atR f n un 2 pl < 0) = true := decide_eq_true hi
    clear HW HQ
    go_upto_region 2 with fail
    go_quiet (fail)
    go_wp2
    refine bodyPost_ret (v := .tuple #[.slice none 0 0, .bool false]) (by simp [results, Try.results86, go_sem]) rfl ⟨_, [], false, rfl, ownPs_nil _ _ _ _, (by intro e9; cases e9), (fun _ => HNO.out), (by exact bel_drewN HX.out _)⟩
  · obtain ⟨x, hx, hxn⟩ : ∃ x : Nat, atR f n un 2 pl = (x : Int) ∧ x < n := by
      rcases atFrom_cases f un 2 pl n 0 with ⟨x, _, g2, g3, _⟩ | ⟨g1, _⟩
      · exact ⟨x, g3, g2⟩
      · exact absurd (by rw [atR, g1]; decide) hi
    have HI : Hid (atR f n un 2 pl = (x : Int)) := hx
    have xi : (x : Int) < (n : Int) := by omega
    have x0 : ¬ (x : Int) < 0 := by omega
    obtain ⟨bb, off, rfl, hbb, _⟩ := SlU.seven HW.out.1 hxn
    have HC : Hid (∀ u, Below w1.heap.size w1 u → u.cell? ⟨bb, off + x * 7, none⟩ = some (.int .i64 (f x).u) ∧ u.cell? ⟨bb, off + x * 7 + 1, none⟩ = some (.int .i64 (f x).s) ∧ u.cell? ⟨bb, off + x * 7 + 2, none⟩ = some (.int .i64 (f x).lo) ∧ u.cell? ⟨bb, off + x * 7 + 3, none⟩ = some (.int .i64 (f x).hi) ∧ u.cell? ⟨bb, off + x * 7 + 4, none⟩ = some (.int .i64 (f x).p) ∧ u.cell? ⟨bb, off + x * 7 + 5, none⟩ = some (.int .i64 (f x).t) ∧ u.cell? ⟨bb, off + x * 7 + 6, none⟩ = some (.int .i64 (f x).sh)) := by
      intro u hu
      obtain ⟨b2, o2, e2, _, h9⟩ := SlU.seven (SlS.below HW.out.1 hu) hxn
      simp only [Option.some.injEq, Addr.mk.injEq] at e2
      obtain ⟨rfl, rfl, _⟩ := e2
      exact h9
    have hox := HOK.out x hxn
    have ws1 : IntKind.i64.wrap (pl + (f x).sh) = pl + (f x).sh := by unfold OkRu at hox; have := HB.out; rw [IntKind.wrap_i64]; omega
    have ws2 : IntKind.i64.wrap (wa + (f x).sh) = wa + (f x).sh := by unfold OkRu at hox; have := HB.out; rw [IntKind.wrap_i64]; omega
    rw [hx]
    clear hx hi hox HOK hbb
    obtain ⟨t1, ht1⟩ : ∃ t1 : Bool, t1 = decide ((f x).lo ≤ pl ∧ pl + nn - 1 ≤ (f x).hi) := ⟨_, rfl⟩
    obtain ⟨t2, ht2⟩ : ∃ t2 : Bool, t2 = decide ((f x).lo ≤ wa ∧ wa + (m1 : Int) - 1 ≤ (f x).hi) := ⟨_, rfl⟩
    have HT1 : Hid (t1 = decide ((f x).lo ≤ pl ∧ pl + nn - 1 ≤ (f x).hi)) := ht1
    have HT2 : Hid (t2 = decide ((f x).lo ≤ wa ∧ wa + (m1 : Int) - 1 ≤ (f x).hi)) := ht2
    clear ht1 ht2
    cases t1 with
    | false =>
      have HNO : Hid ((bothM f n un pl nn wa ws).map (fun P => [P]) = none) := by
        have h9 := of_decide_eq_false HT1.out.symm
        show _ = _
        unfold bothM
        rw [HI.out, if_neg x0, Int.toNat_natCast, if_neg (fun h => h9 h.1)]; rfl
      go_upto_region 2 with fail
      refine wp_region_any (by kernel_rfl) ?_
      refine wpAny_vals (fun u => Below w1.heap.size w1 u) (fun i v u => match i with
        | 0 => v = .int .i64 (x : Int)
        | 1 => v = .bool false
        | 2 => v = .bool false
        | 3 => v = .slice (some ⟨bb, off, none⟩) n cap
        | 4 => v = .int .i64 (x : Int)
        | 5 => v = .pointer (some ⟨bb, off + x * 7, none⟩)
        | 6 => v = .agg (ruc (f x))
        | 7 => v = .pointer (some ⟨gQ, 1, none⟩)
        | 8 => v = .int .i64 pl
        | 9 => v = .pointer (some ⟨gQ, 2, none⟩)
        | 10 => v = .int .i64 nn
        | 11 => v = .bool false
        | 12 => v = .bool true
        | 13 => v = .bool true
        | 14 => v = .bool true
        | 15 => v = undef
        | 16 => v = undef
        | 17 => v = undef
        | 18 => v = undef
        | 19 => v = undef
        | 20 => v = undef
        | 21 => v = undef
        | 22 => v = undef
        | 23 => v = undef
        | 24 => v = undef
        | 25 => v = undef
        | 26 => v = .bool true
        | _ => True) (by kernel_rfl) (by kernel_rfl) (fun _ _ _ _ h _ => h) (Below.refl _ _).drew ?_ ?_ _ _ rfl (by decide) (fun i => by simp [Array.getD]; try (split <;> rfl))
      · intro vs u hR hall
        have e26 : vs 26 = .bool true := hall 26 (by simp)
        simp only [putsL]
        rw [e26]
        clear hall e26
        have HX : Hid (Below w.heap.size w u) := bel_next HW.out.2.1 hR
        clear hR HW HC HQ
        go_simp
        go_wp2
        refine bodyPost_ret (v := .tuple #[.slice none 0 0, .bool false]) (by simp [results, Try.results86, go_sem]) rfl ⟨_, [], false, rfl, ownPs_nil _ _ _ _, (by intro e9; cases e9), (fun _ => HNO.out), HX.out⟩
      · intro u i o ρ hR ho hρ hc hf hd
        have hi : i < 27 := by
          have := (Array.getElem?_eq_some_iff.1 ho).1
          simpa using this
        obtain rfl | rfl | rfl | rfl | rfl | rfl | rfl | rfl | rfl | rfl | rfl | rfl | rfl | rfl | rfl | rfl | rfl | rfl | rfl | rfl | rfl | rfl | rfl | rfl | rfl | rfl | rfl : i = 0 ∨ i = 1 ∨ i = 2 ∨ i = 3 ∨ i = 4 ∨ i = 5 ∨ i = 6 ∨ i = 7 ∨ i = 8 ∨ i = 9 ∨ i = 10 ∨ i = 11 ∨ i = 12 ∨ i = 13 ∨ i = 14 ∨ i = 15 ∨ i = 16 ∨ i = 17 ∨ i = 18 ∨ i = 19 ∨ i = 20 ∨ i = 21 ∨ i = 22 ∨ i = 23 ∨ i = 24 ∨ i = 25 ∨ i = 26 := by omega
        all_goals (simp only [List.getElem?_toArray, List.getElem?_cons_zero, List.getElem?_cons_succ, Option.some.injEq] at ho; subst ho)
        · -- 0
          have s8 : ρ (.tmp 8) = .int .i64 (x : Int) := (hρ 8 (by kernel_rfl)).trans rfl
          exact .inl ⟨rfl, .inl ⟨_, u, rfl, s8, hR, Below.refl _ _⟩⟩
        · -- 1
          have h0 : ρ (.tmp 16) = .int .i64 (x : Int) := hd ⟨0, .data⟩ (by simp) rfl 16 rfl
          exact .inl ⟨rfl, .inl ⟨.bool false, u, run_bin_op rfl h0 (hc _) (by go_simp), rfl, hR, Below.refl _ _⟩⟩
        · -- 2
          have h1 : ρ (.tmp 17) = .bool false := hd ⟨1, .data⟩ (by simp) rfl 17 rfl
          exact .inl ⟨rfl, .inl ⟨_, u, rfl, h1, hR, Below.refl _ _⟩⟩
        · -- 3
          have g2 : ρ (.tmp 18) = .bool false := hd ⟨2, .guard⟩ (by simp) rfl 18 rfl
          have s0 : ρ (.tmp 0) = .slice (some ⟨bb, off, none⟩) n cap := (hρ 0 (by kernel_rfl)).trans rfl
          exact .inl ⟨(by show (match ρ (.tmp 18) with | .bool b => b == false | _ => false) = true; rw [g2]; rfl), .inl ⟨_, u, rfl, s0, hR, Below.refl _ _⟩⟩
        · -- 4
          have g2 : ρ (.tmp 18) = .bool false := hd ⟨2, .guard⟩ (by simp) rfl 18 rfl
          have s8 : ρ (.tmp 8) = .int .i64 (x : Int) := (hρ 8 (by kernel_rfl)).trans rfl
          exact .inl ⟨(by show (match ρ (.tmp 18) with | .bool b => b == false | _ => false) = true; rw [g2]; rfl), .inl ⟨_, u, rfl, s8, hR, Below.refl _ _⟩⟩
        · -- 5
          have g2 : ρ (.tmp 18) = .bool false := hd ⟨2, .guard⟩ (by simp) rfl 18 rfl
          have h3 : ρ (.tmp 19) = .slice (some ⟨bb, off, none⟩) n cap := hd ⟨3, .data⟩ (by simp) rfl 19 rfl
          have h4 : ρ (.tmp 20) = .int .i64 (x : Int) := hd ⟨4, .data⟩ (by simp) rfl 20 rfl
          exact .inl ⟨(by show (match ρ (.tmp 18) with | .bool b => b == false | _ => false) = true; rw [g2]; rfl), .inl ⟨.pointer (some ⟨bb, off + x * 7, none⟩), u, run_index_op rfl h3 h4 (by go_simp), rfl, hR, Below.refl _ _⟩⟩
        · -- 6
          obtain ⟨c0, c1, c2, c3, c4, c5, c6⟩ := HC.out u hR
          have g2 : ρ (.tmp 18) = .bool false := hd ⟨2, .guard⟩ (by simp) rfl 18 rfl
          have h5 : ρ (.tmp 21) = .pointer (some ⟨bb, off + x * 7, none⟩) := hd ⟨5, .data⟩ (by simp) rfl 21 rfl
          have hr : (Instr.loadAt 41 (.pointer (some ⟨bb, off + x * 7, none⟩))).run Try.prog u = .ok (.agg (ruc (f x))) u := by go_simp
          exact .inl ⟨(by show (match ρ (.tmp 18) with | .bool b => b == false | _ => false) = true; rw [g2]; rfl), .inl ⟨.agg (ruc (f x)), u, run_load_op rfl h5 hr, rfl, hR, Below.refl _ _⟩⟩
        · -- 7
          have g2 : ρ (.tmp 18) = .bool false := hd ⟨2, .guard⟩ (by simp) rfl 18 rfl
          have s5 : ρ (.tmp 5) = .pointer (some ⟨gQ, 0, none⟩) := (hρ 5 (by kernel_rfl)).trans rfl
          exact .inl ⟨(by show (match ρ (.tmp 18) with | .bool b => b == false | _ => false) = true; rw [g2]; rfl), .inl ⟨.pointer (some ⟨gQ, 1, none⟩), u, run_field_op rfl s5 (by go_simp), rfl, hR, Below.refl _ _⟩⟩
        · -- 8
          obtain ⟨y0, y1, y2, y3, y4, y5⟩ := (HQ.out.below hR).six
          have g2 : ρ (.tmp 18) = .bool false := hd ⟨2, .guard⟩ (by simp) rfl 18 rfl
          have h7 : ρ (.tmp 23) = .pointer (some ⟨gQ, 1, none⟩) := hd ⟨7, .data⟩ (by simp) rfl 23 rfl
          have hr : (Instr.loadAt 3 (.pointer (some ⟨gQ, 1, none⟩))).run Try.prog u = .ok (.int .i64 pl) u := by go_simp
          exact .inl ⟨(by show (match ρ (.tmp 18) with | .bool b => b == false | _ => false) = true; rw [g2]; rfl), .inl ⟨.int .i64 pl, u, run_load_op rfl h7 hr, rfl, hR, Below.refl _ _⟩⟩
        · -- 9
          have g2 : ρ (.tmp 18) = .bool false := hd ⟨2, .guard⟩ (by simp) rfl 18 rfl
          have s5 : ρ (.tmp 5) = .pointer (some ⟨gQ, 0, none⟩) := (hρ 5 (by kernel_rfl)).trans rfl
          exact .inl ⟨(by show (match ρ (.tmp 18) with | .bool b => b == false | _ => false) = true; rw [g2]; rfl), .inl ⟨.pointer (some ⟨gQ, 2, none⟩), u, run_field_op rfl s5 (by go_simp), rfl, hR, Below.refl _ _⟩⟩
        · -- 10
          obtain ⟨y0, y1, y2, y3, y4, y5⟩ := (HQ.out.below hR).six
          have g2 : ρ (.tmp 18) = .bool false := hd ⟨2, .guard⟩ (by simp) rfl 18 rfl
          have h9 : ρ (.tmp 25) = .pointer (some ⟨gQ, 2, none⟩) := hd ⟨9, .data⟩ (by simp) rfl 25 rfl
          have hr : (Instr.loadAt 3 (.pointer (some ⟨gQ, 2, none⟩))).run Try.prog u = .ok (.int .i64 nn) u := by go_simp
          exact .inl ⟨(by show (match ρ (.tmp 18) with | .bool b => b == false | _ => false) = true; rw [g2]; rfl), .inl ⟨.int .i64 nn, u, run_load_op rfl h9 hr, rfl, hR, Below.refl _ _⟩⟩
        · -- 11
          have g2 : ρ (.tmp 18) = .bool false := hd ⟨2, .guard⟩ (by simp) rfl 18 rfl
          have h6 : ρ (.tmp 22) = .agg (ruc (f x)) := hd ⟨6, .data⟩ (by simp) rfl 22 rfl
          have h8 : ρ (.tmp 24) = .int .i64 pl := hd ⟨8, .data⟩ (by simp) rfl 24 rfl
          have h10 : ρ (.tmp 26) = .int .i64 nn := hd ⟨10, .data⟩ (by simp) rfl 26 rfl
          refine .inl ⟨(by show (match ρ (.tmp 18) with | .bool b => b == false | _ => false) = true; rw [g2]; rfl), .inr ⟨_, _, run_call_op rfl (hf _) (args := #[.agg (ruc (f x)), .int .i64 pl, .int .i64 nn]) (by simp [h6, h8, h10]) (by kernel_rfl), ?_⟩⟩
          refine (hasRun_any (f x) pl nn _ HB.out.1 HB.out.2.1 false HT1.out).mono ?_
          rintro e u' ⟨he, b'⟩
          exact ⟨_, he, rfl, bel_next hR b', b'⟩
        · -- 12
          have g2 : ρ (.tmp 18) = .bool false := hd ⟨2, .guard⟩ (by simp) rfl 18 rfl
          have h11 : ρ (.tmp 27) = .bool false := hd ⟨11, .data⟩ (by simp) rfl 27 rfl
          exact .inl ⟨(by show (match ρ (.tmp 18) with | .bool b => b == false | _ => false) = true; rw [g2]; rfl), .inl ⟨.bool true, u, run_un_op rfl h11 (by go_simp), rfl, hR, Below.refl _ _⟩⟩
        · -- 13
          have h2 : ρ (.tmp 18) = .bool false := hd ⟨2, .data⟩ (by simp) rfl 18 rfl
          have h12 : ρ (.tmp 28) = .bool true := hd ⟨12, .data⟩ (by simp) rfl 28 rfl
          exact .inl ⟨rfl, .inl ⟨_, u, run_pick_op rfl h2, (by simpa using h12), hR, Below.refl _ _⟩⟩
        · -- 14
          have h13 : ρ (.tmp 29) = .bool true := hd ⟨13, .data⟩ (by simp) rfl 29 rfl
          exact .inl ⟨rfl, .inl ⟨_, u, rfl, h13, hR, Below.refl _ _⟩⟩
        · -- 15
          have g14 : ρ (.tmp 30) = .bool true := hd ⟨14, .guard⟩ (by simp) rfl 30 rfl
          exact .inr ⟨(by show (match ρ (.tmp 30) with | .bool b => b == false | _ => false) = false; rw [g14]; rfl), rfl⟩
        · -- 16
          have g14 : ρ (.tmp 30) = .bool true := hd ⟨14, .guard⟩ (by simp) rfl 30 rfl
          exact .inr ⟨(by show (match ρ (.tmp 30) with | .bool b => b == false | _ => false) = false; rw [g14]; rfl), rfl⟩
        · -- 17
          have g14 : ρ (.tmp 30) = .bool true := hd ⟨14, .guard⟩ (by simp) rfl 30 rfl
          exact .inr ⟨(by show (match ρ (.tmp 30) with | .bool b => b == false | _ => false) = false; rw [g14]; rfl), rfl⟩
        · -- 18
          have g14 : ρ (.tmp 30) = .bool true := hd ⟨14, .guard⟩ (by simp) rfl 30 rfl
          exact .inr ⟨(by show (match ρ (.tmp 30) with | .bool b => b == false | _ => false) = false; rw [g14]; rfl), rfl⟩
        · -- 19
          have g14 : ρ (.tmp 30) = .bool true := hd ⟨14, .guard⟩ (by simp) rfl 30 rfl
          exact .inr ⟨(by show (match ρ (.tmp 30) with | .bool b => b == false | _ => false) = false; rw [g14]; rfl), rfl⟩
        · -- 20
          have g14 : ρ (.tmp 30) = .bool true := hd ⟨14, .guard⟩ (by simp) rfl 30 rfl
          exact .inr ⟨(by show (match ρ (.tmp 30) with | .bool b => b == false | _ => false) = false; rw [g14]; rfl), rfl⟩
        · -- 21
          have g14 : ρ (.tmp 30) = .bool true := hd ⟨14, .guard⟩ (by simp) rfl 30 rfl
          exact .inr ⟨(by show (match ρ (.tmp 30) with | .bool b => b == false | _ => false) = false; rw [g14]; rfl), rfl⟩
        · -- 22
          have g14 : ρ (.tmp 30) = .bool true := hd ⟨14, .guard⟩ (by simp) rfl 30 rfl
          exact .inr ⟨(by show (match ρ (.tmp 30) with | .bool b => b == false | _ => false) = false; rw [g14]; rfl), rfl⟩
        · -- 23
          have g14 : ρ (.tmp 30) = .bool true := hd ⟨14, .guard⟩ (by simp) rfl 30 rfl
          exact .inr ⟨(by show (match ρ (.tmp 30) with | .bool b => b == false | _ => false) = false; rw [g14]; rfl), rfl⟩
        · -- 24
          have g14 : ρ (.tmp 30) = .bool true := hd ⟨14, .guard⟩ (by simp) rfl 30 rfl
          exact .inr ⟨(by show (match ρ (.tmp 30) with | .bool b => b == false | _ => false) = false; rw [g14]; rfl), rfl⟩
        · -- 25
          have g14 : ρ (.tmp 30) = .bool true := hd ⟨14, .guard⟩ (by simp) rfl 30 rfl
          exact .inr ⟨(by show (match ρ (.tmp 30) with | .bool b => b == false | _ => false) = false; rw [g14]; rfl), rfl⟩
        · -- 26
          have h14 : ρ (.tmp 30) = .bool true := hd ⟨14, .data⟩ (by simp) rfl 30 rfl
          exact .inl ⟨rfl, .inl ⟨_, u, run_pick_op rfl h14, (by simpa using hc _), hR, Below.refl _ _⟩⟩
    | true =>
      cases t2 with
      | false =>
        have HNO : Hid ((bothM f n un pl nn wa ws).map (fun P => [P]) = none) := by
          have h9 := of_decide_eq_false HT2.out.symm
          show _ = _
          unfold bothM
          rw [HI.out, if_neg x0, Int.toNat_natCast, if_neg (fun h => h9 (by rw [HM.out.1]; exact h.2))]; rfl
        go_upto_region 2 with fail
        refine wp_region_any (by kernel_rfl) ?_
        refine wpAny_vals (fun u => Below w1.heap.size w1 u) (fun i v u => match i with
          | 0 => v = .int .i64 (x : Int)
          | 1 => v = .bool false
          | 2 => v = .bool false
          | 3 => v = .slice (some ⟨bb, off, none⟩) n cap
          | 4 => v = .int .i64 (x : Int)
          | 5 => v = .pointer (some ⟨bb, off + x * 7, none⟩)
          | 6 => v = .agg (ruc (f x))
          | 7 => v = .pointer (some ⟨gQ, 1, none⟩)
          | 8 => v = .int .i64 pl
          | 9 => v = .pointer (some ⟨gQ, 2, none⟩)
          | 10 => v = .int .i64 nn
          | 11 => v = .bool true
          | 12 => v = .bool false
          | 13 => v = .bool false
          | 14 => v = .bool false
          | 15 => v = .slice (some ⟨bb, off, none⟩) n cap
          | 16 => v = .int .i64 (x : Int)
          | 17 => v = .pointer (some ⟨bb, off + x * 7, none⟩)
          | 18 => v = .agg (ruc (f x))
          | 19 => v = .pointer (some ⟨gQ, 5, none⟩)
          | 20 => v = .int .i64 wa
          | 21 => v = .pointer (some ⟨gQ, 3, none⟩)
          | 22 => v = .slice q1 m1 k1
          | 23 => v = .int .i64 (m1 : Int)
          | 24 => v = .bool false
          | 25 => v = .bool true
          | 26 => v = .bool true
          | _ => True) (by kernel_rfl) (by kernel_rfl) (fun _ _ _ _ h _ => h) (Below.refl _ _).drew ?_ ?_ _ _ rfl (by decide) (fun i => by simp [Array.getD]; try (split <;> rfl))
        · intro vs u hR hall
          have e26 : vs 26 = .bool true := hall 26 (by simp)
          simp only [putsL]
          rw [e26]
          clear hall e26
          have HX : Hid (Below w.heap.size w u) := bel_next HW.out.2.1 hR
          clear hR HW HC HQ
          go_simp
          go_wp2
          refine bodyPost_ret (v := .tuple #[.slice none 0 0, .bool false]) (by simp [results, Try.results86, go_sem]) rfl ⟨_, [], false, rfl, ownPs_nil _ _ _ _, (by intro e9; cases e9), (fun _ => HNO.out), HX.out⟩
        · intro u i o ρ hR ho hρ hc hf hd
          have hi : i < 27 := by
            have := (Array.getElem?_eq_some_iff.1 ho).1
            simpa using this
          obtain rfl | rfl | rfl | rfl | rfl | rfl | rfl | rfl | rfl | rfl | rfl | rfl | rfl | rfl | rfl | rfl | rfl | rfl | rfl | rfl | rfl | rfl | rfl | rfl | rfl | rfl | rfl : i = 0 ∨ i = 1 ∨ i = 2 ∨ i = 3 ∨ i = 4 ∨ i = 5 ∨ i = 6 ∨ i = 7 ∨ i = 8 ∨ i = 9 ∨ i = 10 ∨ i = 11 ∨ i = 12 ∨ i = 13 ∨ i = 14 ∨ i = 15 ∨ i = 16 ∨ i = 17 ∨ i = 18 ∨ i = 19 ∨ i = 20 ∨ i = 21 ∨ i = 22 ∨ i = 23 ∨ i = 24 ∨ i = 25 ∨ i = 26 := by omega
          all_goals (simp only [List.getElem?_toArray, List.getElem?_cons_zero, List.getElem?_cons_succ, Option.some.injEq] at ho; subst ho)
          · -- 0
            have s8 : ρ (.tmp 8) = .int .i64 (x : Int) := (hρ 8 (by kernel_rfl)).trans rfl
            exact .inl ⟨rfl, .inl ⟨_, u, rfl, s8, hR, Below.refl _ _⟩⟩
          · -- 1
            have h0 : ρ (.tmp 16) = .int .i64 (x : Int) := hd ⟨0, .data⟩ (by simp) rfl 16 rfl
            exact .inl ⟨rfl, .inl ⟨.bool false, u, run_bin_op rfl h0 (hc _) (by go_simp), rfl, hR, Below.refl _ _⟩⟩
          · -- 2
            have h1 : ρ (.tmp 17) = .bool false := hd ⟨1, .data⟩ (by simp) rfl 17 rfl
            exact .inl ⟨rfl, .inl ⟨_, u, rfl, h1, hR, Below.refl _ _⟩⟩
          · -- 3
            have g2 : ρ (.tmp 18) = .bool false := hd ⟨2, .guard⟩ (by simp) rfl 18 rfl
            have s0 : ρ (.tmp 0) = .slice (some ⟨bb, off, none⟩) n cap := (hρ 0 (by kernel_rfl)).trans rfl
            exact .inl ⟨(by show (match ρ (.tmp 18) with | .bool b => b == false | _ => false) = true; rw [g2]; rfl), .inl ⟨_, u, rfl, s0, hR, Below.refl _ _⟩⟩
          · -- 4
            have g2 : ρ (.tmp 18) = .bool false := hd ⟨2, .guard⟩ (by simp) rfl 18 rfl
            have s8 : ρ (.tmp 8) = .int .i64 (x : Int) := (hρ 8 (by kernel_rfl)).trans rfl
            exact .inl ⟨(by show (match ρ (.tmp 18) with | .bool b => b == false | _ => false) = true; rw [g2]; rfl), .inl ⟨_, u, rfl, s8, hR, Below.refl _ _⟩⟩
          · -- 5
            have g2 : ρ (.tmp 18) = .bool false := hd ⟨2, .guard⟩ (by simp) rfl 18 rfl
            have h3 : ρ (.tmp 19) = .slice (some ⟨bb, off, none⟩) n cap := hd ⟨3, .data⟩ (by simp) rfl 19 rfl
            have h4 : ρ (.tmp 20) = .int .i64 (x : Int) := hd ⟨4, .data⟩ (by simp) rfl 20 rfl
            exact .inl ⟨(by show (match ρ (.tmp 18) with | .bool b => b == false | _ => false) = true; rw [g2]; rfl), .inl ⟨.pointer (some ⟨bb, off + x * 7, none⟩), u, run_index_op rfl h3 h4 (by go_simp), rfl, hR, Below.refl _ _⟩⟩
          · -- 6
            obtain ⟨c0, c1, c2, c3, c4, c5, c6⟩ := HC.out u hR
            have g2 : ρ (.tmp 18) = .bool false := hd ⟨2, .guard⟩ (by simp) rfl 18 rfl
            have h5 : ρ (.tmp 21) = .pointer (some ⟨bb, off + x * 7, none⟩) := hd ⟨5, .data⟩ (by simp) rfl 21 rfl
            have hr : (Instr.loadAt 41 (.pointer (some ⟨bb, off + x * 7, none⟩))).run Try.prog u = .ok (.agg (ruc (f x))) u := by go_simp
            exact .inl ⟨(by show (match ρ (.tmp 18) with | .bool b => b == false | _ => false) = true; rw [g2]; rfl), .inl ⟨.agg (ruc (f x)), u, run_load_op rfl h5 hr, rfl, hR, Below.refl _ _⟩⟩
          · -- 7
            have g2 : ρ (.tmp 18) = .bool false := hd ⟨2, .guard⟩ (by simp) rfl 18 rfl
            have s5 : ρ (.tmp 5) = .pointer (some ⟨gQ, 0, none⟩) := (hρ 5 (by kernel_rfl)).trans rfl
            exact .inl ⟨(by show (match ρ (.tmp 18) with | .bool b => b == false | _ => false) = true; rw [g2]; rfl), .inl ⟨.pointer (some ⟨gQ, 1, none⟩), u, run_field_op rfl s5 (by go_simp), rfl, hR, Below.refl _ _⟩⟩
          · -- 8
            obtain ⟨y0, y1, y2, y3, y4, y5⟩ := (HQ.out.below hR).six
            have g2 : ρ (.tmp 18) = .bool false := hd ⟨2, .guard⟩ (by simp) rfl 18 rfl
            have h7 : ρ (.tmp 23) = .pointer (some ⟨gQ, 1, none⟩) := hd ⟨7, .data⟩ (by simp) rfl 23 rfl
            have hr : (Instr.loadAt 3 (.pointer (some ⟨gQ, 1, none⟩))).run Try.prog u = .ok (.int .i64 pl) u := by go_simp
            exact .inl ⟨(by show (match ρ (.tmp 18) with | .bool b => b == false | _ => false) = true; rw [g2]; rfl), .inl ⟨.int .i64 pl, u, run_load_op rfl h7 hr, rfl, hR, Below.refl _ _⟩⟩
          · -- 9
            have g2 : ρ (.tmp 18) = .bool false := hd ⟨2, .guard⟩ (by simp) rfl 18 rfl
            have s5 : ρ (.tmp 5) = .pointer (some ⟨gQ, 0, none⟩) := (hρ 5 (by kernel_rfl)).trans rfl
            exact .inl ⟨(by show (match ρ (.tmp 18) with | .bool b => b == false | _ => false) = true; rw [g2]; rfl), .inl ⟨.pointer (some ⟨gQ, 2, none⟩), u, run_field_op rfl s5 (by go_simp), rfl, hR, Below.refl _ _⟩⟩
          · -- 10
            obtain ⟨y0, y1, y2, y3, y4, y5⟩ := (HQ.out.below hR).six
            have g2 : ρ (.tmp 18) = .bool false := hd ⟨2, .guard⟩ (by simp) rfl 18 rfl
            have h9 : ρ (.tmp 25) = .pointer (some ⟨gQ, 2, none⟩) := hd ⟨9, .data⟩ (by simp) rfl 25 rfl
            have hr : (Instr.loadAt 3 (.pointer (some ⟨gQ, 2, none⟩))).run Try.prog u = .ok (.int .i64 nn) u := by go_simp
            exact .inl ⟨(by show (match ρ (.tmp 18) with | .bool b => b == false | _ => false) = true; rw [g2]; rfl), .inl ⟨.int .i64 nn, u, run_load_op rfl h9 hr, rfl, hR, Below.refl _ _⟩⟩
          · -- 11
            have g2 : ρ (.tmp 18) = .bool false := hd ⟨2, .guard⟩ (by simp) rfl 18 rfl
            have h6 : ρ (.tmp 22) = .agg (ruc (f x)) := hd ⟨6, .data⟩ (by simp) rfl 22 rfl
            have h8 : ρ (.tmp 24) = .int .i64 pl := hd ⟨8, .data⟩ (by simp) rfl 24 rfl
            have h10 : ρ (.tmp 26) = .int .i64 nn := hd ⟨10, .data⟩ (by simp) rfl 26 rfl
            refine .inl ⟨(by show (match ρ (.tmp 18) with | .bool b => b == false | _ => false) = true; rw [g2]; rfl), .inr ⟨_, _, run_call_op rfl (hf _) (args := #[.agg (ruc (f x)), .int .i64 pl, .int .i64 nn]) (by simp [h6, h8, h10]) (by kernel_rfl), ?_⟩⟩
            refine (hasRun_any (f x) pl nn _ HB.out.1 HB.out.2.1 true HT1.out).mono ?_
            rintro e u' ⟨he, b'⟩
            exact ⟨_, he, rfl, bel_next hR b', b'⟩
          · -- 12
            have g2 : ρ (.tmp 18) = .bool false := hd ⟨2, .guard⟩ (by simp) rfl 18 rfl
            have h11 : ρ (.tmp 27) = .bool true := hd ⟨11, .data⟩ (by simp) rfl 27 rfl
            exact .inl ⟨(by show (match ρ (.tmp 18) with | .bool b => b == false | _ => false) = true; rw [g2]; rfl), .inl ⟨.bool false, u, run_un_op rfl h11 (by go_simp), rfl, hR, Below.refl _ _⟩⟩
          · -- 13
            have h2 : ρ (.tmp 18) = .bool false := hd ⟨2, .data⟩ (by simp) rfl 18 rfl
            have h12 : ρ (.tmp 28) = .bool false := hd ⟨12, .data⟩ (by simp) rfl 28 rfl
            exact .inl ⟨rfl, .inl ⟨_, u, run_pick_op rfl h2, (by simpa using h12), hR, Below.refl _ _⟩⟩
          · -- 14
            have h13 : ρ (.tmp 29) = .bool false := hd ⟨13, .data⟩ (by simp) rfl 29 rfl
            exact .inl ⟨rfl, .inl ⟨_, u, rfl, h13, hR, Below.refl _ _⟩⟩
          · -- 15
            have g14 : ρ (.tmp 30) = .bool false := hd ⟨14, .guard⟩ (by simp) rfl 30 rfl
            have s0 : ρ (.tmp 0) = .slice (some ⟨bb, off, none⟩) n cap := (hρ 0 (by kernel_rfl)).trans rfl
            exact .inl ⟨(by show (match ρ (.tmp 30) with | .bool b => b == false | _ => false) = true; rw [g14]; rfl), .inl ⟨_, u, rfl, s0, hR, Below.refl _ _⟩⟩
          · -- 16
            have g14 : ρ (.tmp 30) = .bool false := hd ⟨14, .guard⟩ (by simp) rfl 30 rfl
            have s8 : ρ (.tmp 8) = .int .i64 (x : Int) := (hρ 8 (by kernel_rfl)).trans rfl
            exact .inl ⟨(by show (match ρ (.tmp 30) with | .bool b => b == false | _ => false) = true; rw [g14]; rfl), .inl ⟨_, u, rfl, s8, hR, Below.refl _ _⟩⟩
          · -- 17
            have g14 : ρ (.tmp 30) = .bool false := hd ⟨14, .guard⟩ (by simp) rfl 30 rfl
            have h15 : ρ (.tmp 31) = .slice (some ⟨bb, off, none⟩) n cap := hd ⟨15, .data⟩ (by simp) rfl 31 rfl
            have h16 : ρ (.tmp 32) = .int .i64 (x : Int) := hd ⟨16, .data⟩ (by simp) rfl 32 rfl
            exact .inl ⟨(by show (match ρ (.tmp 30) with | .bool b => b == false | _ => false) = true; rw [g14]; rfl), .inl ⟨.pointer (some ⟨bb, off + x * 7, none⟩), u, run_index_op rfl h15 h16 (by go_simp), rfl, hR, Below.refl _ _⟩⟩
          · -- 18
            obtain ⟨c0, c1, c2, c3, c4, c5, c6⟩ := HC.out u hR
            have g14 : ρ (.tmp 30) = .bool false := hd ⟨14, .guard⟩ (by simp) rfl 30 rfl
            have h17 : ρ (.tmp 33) = .pointer (some ⟨bb, off + x * 7, none⟩) := hd ⟨17, .data⟩ (by simp) rfl 33 rfl
            have hr : (Instr.loadAt 41 (.pointer (some ⟨bb, off + x * 7, none⟩))).run Try.prog u = .ok (.agg (ruc (f x))) u := by go_simp
            exact .inl ⟨(by show (match ρ (.tmp 30) with | .bool b => b == false | _ => false) = true; rw [g14]; rfl), .inl ⟨.agg (ruc (f x)), u, run_load_op rfl h17 hr, rfl, hR, Below.refl _ _⟩⟩
          · -- 19
            have g14 : ρ (.tmp 30) = .bool false := hd ⟨14, .guard⟩ (by simp) rfl 30 rfl
            have s5 : ρ (.tmp 5) = .pointer (some ⟨gQ, 0, none⟩) := (hρ 5 (by kernel_rfl)).trans rfl
            exact .inl ⟨(by show (match ρ (.tmp 30) with | .bool b => b == false | _ => false) = true; rw [g14]; rfl), .inl ⟨.pointer (some ⟨gQ, 5, none⟩), u, run_field_op rfl s5 (by go_simp), rfl, hR, Below.refl _ _⟩⟩
          · -- 20
            obtain ⟨y0, y1, y2, y3, y4, y5⟩ := (HQ.out.below hR).six
            have g14 : ρ (.tmp 30) = .bool false := hd ⟨14, .guard⟩ (by simp) rfl 30 rfl
            have h19 : ρ (.tmp 35) = .pointer (some ⟨gQ, 5, none⟩) := hd ⟨19, .data⟩ (by simp) rfl 35 rfl
            have hr : (Instr.loadAt 3 (.pointer (some ⟨gQ, 5, none⟩))).run Try.prog u = .ok (.int .i64 wa) u := by go_simp
            exact .inl ⟨(by show (match ρ (.tmp 30) with | .bool b => b == false | _ => false) = true; rw [g14]; rfl), .inl ⟨.int .i64 wa, u, run_load_op rfl h19 hr, rfl, hR, Below.refl _ _⟩⟩
          · -- 21
            have g14 : ρ (.tmp 30) = .bool false := hd ⟨14, .guard⟩ (by simp) rfl 30 rfl
            have s5 : ρ (.tmp 5) = .pointer (some ⟨gQ, 0, none⟩) := (hρ 5 (by kernel_rfl)).trans rfl
            exact .inl ⟨(by show (match ρ (.tmp 30) with | .bool b => b == false | _ => false) = true; rw [g14]; rfl), .inl ⟨.pointer (some ⟨gQ, 3, none⟩), u, run_field_op rfl s5 (by go_simp), rfl, hR, Below.refl _ _⟩⟩
          · -- 22
            obtain ⟨y0, y1, y2, y3, y4, y5⟩ := (HQ.out.below hR).six
            have g14 : ρ (.tmp 30) = .bool false := hd ⟨14, .guard⟩ (by simp) rfl 30 rfl
            have h21 : ρ (.tmp 37) = .pointer (some ⟨gQ, 3, none⟩) := hd ⟨21, .data⟩ (by simp) rfl 37 rfl
            have hr : (Instr.loadAt 25 (.pointer (some ⟨gQ, 3, none⟩))).run Try.prog u = .ok (.slice q1 m1 k1) u := by go_simp
            exact .inl ⟨(by show (match ρ (.tmp 30) with | .bool b => b == false | _ => false) = true; rw [g14]; rfl), .inl ⟨.slice q1 m1 k1, u, run_load_op rfl h21 hr, rfl, hR, Below.refl _ _⟩⟩
          · -- 23
            have g14 : ρ (.tmp 30) = .bool false := hd ⟨14, .guard⟩ (by simp) rfl 30 rfl
            have h22 : ρ (.tmp 38) = .slice q1 m1 k1 := hd ⟨22, .data⟩ (by simp) rfl 38 rfl
            exact .inl ⟨(by show (match ρ (.tmp 30) with | .bool b => b == false | _ => false) = true; rw [g14]; rfl), .inl ⟨_, u, run_len_op Try.underlying25 rfl h22, rfl, hR, Below.refl _ _⟩⟩
          · -- 24
            have g14 : ρ (.tmp 30) = .bool false := hd ⟨14, .guard⟩ (by simp) rfl 30 rfl
            have h18 : ρ (.tmp 34) = .agg (ruc (f x)) := hd ⟨18, .data⟩ (by simp) rfl 34 rfl
            have h20 : ρ (.tmp 36) = .int .i64 wa := hd ⟨20, .data⟩ (by simp) rfl 36 rfl
            have h23 : ρ (.tmp 39) = .int .i64 (m1 : Int) := hd ⟨23, .data⟩ (by simp) rfl 39 rfl
            refine .inl ⟨(by show (match ρ (.tmp 30) with | .bool b => b == false | _ => false) = true; rw [g14]; rfl), .inr ⟨_, _, run_call_op rfl (hf _) (args := #[.agg (ruc (f x)), .int .i64 wa, .int .i64 (m1 : Int)]) (by simp [h18, h20, h23]) (by kernel_rfl), ?_⟩⟩
            refine (hasRun_any (f x) wa (m1 : Int) _ HB.out.2.2.1 HB.out.2.2.2 false HT2.out).mono ?_
            rintro e u' ⟨he, b'⟩
            exact ⟨_, he, rfl, bel_next hR b', b'⟩
          · -- 25
            have g14 : ρ (.tmp 30) = .bool false := hd ⟨14, .guard⟩ (by simp) rfl 30 rfl
            have h24 : ρ (.tmp 40) = .bool false := hd ⟨24, .data⟩ (by simp) rfl 40 rfl
            exact .inl ⟨(by show (match ρ (.tmp 30) with | .bool b => b == false | _ => false) = true; rw [g14]; rfl), .inl ⟨.bool true, u, run_un_op rfl h24 (by go_simp), rfl, hR, Below.refl _ _⟩⟩
          · -- 26
            have h14 : ρ (.tmp 30) = .bool false := hd ⟨14, .data⟩ (by simp) rfl 30 rfl
            have h25 : ρ (.tmp 41) = .bool true := hd ⟨25, .data⟩ (by simp) rfl 41 rfl
            exact .inl ⟨rfl, .inl ⟨_, u, run_pick_op rfl h14, (by simpa using h25), hR, Below.refl _ _⟩⟩
      | true =>
        have HYES : Hid ((bothM f n un pl nn wa ws).map (fun P => [P]) = some [⟨(f x).p, (f x).t, 23, pl + (f x).sh, nn, wa + (f x).sh, ws, []⟩]) := by
          have h8 := of_decide_eq_true HT1.out.symm
          have h9 := of_decide_eq_true HT2.out.symm
          show _ = _
          unfold bothM
          rw [HI.out, if_neg x0, Int.toNat_natCast, if_pos ⟨h8, by rw [← HM.out.1]; exact h9⟩]; rfl
        go_upto_region 2 with fail
        refine wp_region_any (by kernel_rfl) ?_
        refine wpAny_vals (fun u => Below w1.heap.size w1 u) (fun i v u => match i with
          | 0 => v = .int .i64 (x : Int)
          | 1 => v = .bool false
          | 2 => v = .bool false
          | 3 => v = .slice (some ⟨bb, off, none⟩) n cap
          | 4 => v = .int .i64 (x : Int)
          | 5 => v = .pointer (some ⟨bb, off + x * 7, none⟩)
          | 6 => v = .agg (ruc (f x))
          | 7 => v = .pointer (some ⟨gQ, 1, none⟩)
          | 8 => v = .int .i64 pl
          | 9 => v = .pointer (some ⟨gQ, 2, none⟩)
          | 10 => v = .int .i64 nn
          | 11 => v = .bool true
          | 12 => v = .bool false
          | 13 => v = .bool false
          | 14 => v = .bool false
          | 15 => v = .slice (some ⟨bb, off, none⟩) n cap
          | 16 => v = .int .i64 (x : Int)
          | 17 => v = .pointer (some ⟨bb, off + x * 7, none⟩)
          | 18 => v = .agg (ruc (f x))
          | 19 => v = .pointer (some ⟨gQ, 5, none⟩)
          | 20 => v = .int .i64 wa
          | 21 => v = .pointer (some ⟨gQ, 3, none⟩)
          | 22 => v = .slice q1 m1 k1
          | 23 => v = .int .i64 (m1 : Int)
          | 24 => v = .bool true
          | 25 => v = .bool false
          | 26 => v = .bool false
          | _ => True) (by kernel_rfl) (by kernel_rfl) (fun _ _ _ _ h _ => h) (Below.refl _ _).drew ?_ ?_ _ _ rfl (by decide) (fun i => by simp [Array.getD]; try (split <;> rfl))
        · intro vs u hR hall
          have e26 : vs 26 = .bool false := hall 26 (by simp)
          simp only [putsL]
          rw [e26]
          clear hall e26
          have HX : Hid (Below w.heap.size w u ∧ Blk u gQ 28 (rqc 23 pl nn wa q1 q2 m1 m2 k1 k2) ∧ SlI u q1 ws ∧ gQ < u.heap.size) := ⟨bel_next HW.out.2.1 hR, HQ.out.below hR, HW.out.2.2.below hR, (HQ.out.below hR).lt⟩
          obtain ⟨c0, c1, c2, c3, c4, c5, c6⟩ := HC.out u hR
          clear hR HW HC HQ
          go_simp
          go_upto_region 5 with fail
          obtain ⟨gR, hgR⟩ : ∃ gR, gR = u.heap.size := ⟨_, rfl⟩
          obtain ⟨W, hW⟩ : ∃ W, W = u.alloc (.cells (ruc (f x)) 41) := ⟨_, rfl⟩
          have bW : Below u.heap.size u W := by rw [hW]; exact bel_alloc _ _
          have HY : Hid (Below w.heap.size w W ∧ SlI W q1 ws) := ⟨bel_next HX.out.1 bW, HX.out.2.2.1.below bW⟩
          have YQ : Blk W gQ 28 (rqc 23 pl nn wa q1 q2 m1 m2 k1 k2) := HX.out.2.1.below bW
          have YR : Blk W gR 41 (ruc (f x)) := by rw [hW, hgR]; exact Blk.new u _ _
          rw [← hW, ← hgR]
          clear hW bW hgR HX c0 c1 c2 c3 c4 c5 c6
          obtain ⟨y0, y1, y2, y3, y4, y5⟩ := YQ.six
          have r6 := YR.cell 6 rfl
          have q1' : ¬ gQ = W.heap.size := Nat.ne_of_lt YQ.lt
          have q2' : ¬ gR = W.heap.size := Nat.ne_of_lt YR.lt
          have q3' : ¬ W.heap.size = gQ := fun e => q1' e.symm
          have q4' : ¬ W.heap.size = gR := fun e => q2' e.symm
          have dz : Below W.heap.size W W.drew := (Below.refl _ _).drew
          have dA : Below W.heap.size W (W.alloc (.cells #[.int .i64 0, .int .i64 0, .int .i64 0, .slice none 0 0, .slice none 0 0, .int .i64 0] 28)) := bel_alloc _ _
          have dAd : Below W.heap.size W (W.alloc (.cells #[.int .i64 0, .int .i64 0, .int .i64 0, .slice none 0 0, .slice none 0 0, .int .i64 0] 28)).drew := (bel_alloc _ _).drew
          go_region_held3 (fun w' => w'.cell? ⟨gQ, 0, none⟩ = some (.int .i64 23) ∧ w'.cell? ⟨gQ, 1, none⟩ = some (.int .i64 pl) ∧ w'.cell? ⟨gQ, 2, none⟩ = some (.int .i64 nn) ∧ w'.cell? ⟨gQ, 3, none⟩ = some (.slice q1 m1 k1) ∧ w'.cell? ⟨gQ, 5, none⟩ = some (.int .i64 wa) ∧ w'.cell? ⟨gR, 6, none⟩ = some (.int .i64 (f x).sh)) (go_keep)
            (first
              | (go_at_call 107; refine (copyOfI q1 m1 k1 ws _ HM.out.1 (HY.out.2.below (by first | exact Below.refl _ _ | exact dz)) HM.out.2).mono ?_; rintro e w3 ⟨g3, rfl, i3, b'⟩; have B3 : Below W.heap.size W w3 := (by first | exact b' | exact bel_next dz b'); have n1' : ¬ gQ = w3.heap.size := Nat.ne_of_lt (YQ.below B3).lt; have n2' : ¬ gR = w3.heap.size := Nat.ne_of_lt (YR.below B3).lt; have n3' : ¬ w3.heap.size = gQ := fun e => n1' e.symm; have n4' : ¬ w3.heap.size = gR := fun e => n2' e.symm; obtain ⟨v0, v1, v2, v3, v4, v5⟩ := (YQ.below B3).six; have s4 := (YR.below B3).cell 4 rfl; have s5 := (YR.below B3).cell 5 rfl; have s6 := (YR.below B3).cell 6 rfl; clear b')
              | (go_at_call 107; refine (copyOfI q1 m1 k1 ws _ HM.out.1 (HY.out.2.below (by first | exact dA | exact dAd)) HM.out.2).mono ?_; rintro e w3 ⟨g3, rfl, i3, b'⟩; have B3 : Below W.heap.size W w3 := (by first | exact bel_next dA b' | exact bel_next dAd b'); have ZB : Blk w3 W.heap.size 28 #[.int .i64 0, .int .i64 0, .int .i64 0, .slice none 0 0, .slice none 0 0, .int .i64 0] := (by first | exact (Blk.new W _ _).below b' | exact (Blk.new W _ _).below (bel_next ((Below.refl _ _).drew) b')); obtain ⟨v0, v1, v2, v3, v4, v5⟩ := (YQ.below B3).six; have s4 := (YR.below B3).cell 4 rfl; have s5 := (YR.below B3).cell 5 rfl; have s6 := (YR.below B3).cell 6 rfl; obtain ⟨z0, z1, z2, z3, z4, z5⟩ := ZB.six; have f0 := ZB.fro 0; have f1 := ZB.fro 1; have f2 := ZB.fro 2; have f3 := ZB.fro 3; have f4 := ZB.fro 4; have f5 := ZB.fro 5; clear b'))
          · obtain ⟨Y, hY⟩ : ∃ Y, Y = w3.alloc (.cells #[.int .i64 23, .int .i64 (pl + (f x).sh), .int .i64 nn, .slice (some ⟨g3, 0, none⟩) m1 m1, .slice none 0 0, .int .i64 (wa + (f x).sh)] 28) := ⟨_, rfl⟩
            obtain ⟨gA, hgA⟩ : ∃ gA, gA = w3.heap.size := ⟨_, rfl⟩
            have bY : Below w3.heap.size w3 Y := by rw [hY]; exact bel_alloc _ _
            have HF : Hid (Below w.heap.size w Y ∧ Blk Y gA 28 #[.int .i64 23, .int .i64 (pl + (f x).sh), .int .i64 nn, .slice (some ⟨g3, 0, none⟩) m1 m1, .slice none 0 0, .int .i64 (wa + (f x).sh)] ∧ Blk Y gR 41 (ruc (f x)) ∧ OwnI Y w.heap.size (.slice (some ⟨g3, 0, none⟩) m1 m1) ws) := ⟨bel_next (bel_next HY.out.1 B3) bY, by rw [hY, hgA]; exact Blk.new w3 _ _, (YR.below B3).below bY, (OwnI.mono i3 (by have := HY.out.1.size; simpa using this)).below bY⟩
            clear bY
            rw [← hY, ← hgA]
            clear hY hgA i3 B3 YQ YR y0 y1 y2 y3 y4 y5 v0 v1 v2 v3 v4 v5 s4 s5 s6 r6 n1' n2' n3' n4' q1' q2' q3' q4' dz dA dAd HY
            obtain ⟨z0', z1', z2', z3', z4', z5'⟩ := HF.out.2.1.six
            have t4 := HF.out.2.2.1.cell 4 rfl
            have t5 := HF.out.2.2.1.cell 5 rfl
            go_wp2
            refine bodyPost_ret (v := .tuple #[.slice (some ⟨Y.heap.size, 0, none⟩) 1 1, .bool true]) (by simp [results, Try.results86, go_sem]) rfl ?_
            have e1 := HM.out.1
            subst e1
            exact ⟨_, [⟨(f x).p, (f x).t, 23, pl + (f x).sh, nn, wa + (f x).sh, ws, []⟩], true, rfl, ownPs_one Y w.heap.size ⟨(f x).p, (f x).t, 23, pl + (f x).sh, nn, wa + (f x).sh, ws, []⟩ (some ⟨g3, 0, none⟩) none ws.length 0 HF.out.2.2.2 (ownB_z _ _) HF.out.1.size, fun _ => HYES.out, (by intro e9; cases e9), bel_next HF.out.1 (bel_alloc _ _)⟩
          · obtain ⟨Y, hY⟩ : ∃ Y, Y = (((((w3.setCell ⟨W.heap.size, 0, none⟩ (.int .i64 23)).setCell ⟨W.heap.size, 1, none⟩ (.int .i64 (pl + (f x).sh))).setCell ⟨W.heap.size, 2, none⟩ (.int .i64 nn)).setCell ⟨W.heap.size, 3, none⟩ (.slice (some ⟨g3, 0, none⟩) m1 m1)).setCell ⟨W.heap.size, 4, none⟩ (.slice none 0 0)).setCell ⟨W.heap.size, 5, none⟩ (.int .i64 (wa + (f x).sh)) := ⟨_, rfl⟩
            obtain ⟨gA, hgA⟩ : ∃ gA, gA = W.heap.size := ⟨_, rfl⟩
            have hY' : Y = setL w3 W.heap.size 0 [.int .i64 23, .int .i64 (pl + (f x).sh), .int .i64 nn, .slice (some ⟨g3, 0, none⟩) m1 m1, .slice none 0 0, .int .i64 (wa + (f x).sh)] := hY
            have gY : w3.grownBy Y (some W.heap.size) := by rw [hY']; exact setL_gr _ _ _
            have HF : Hid (Below w.heap.size w Y ∧ Blk Y gA 28 #[.int .i64 23, .int .i64 (pl + (f x).sh), .int .i64 nn, .slice (some ⟨g3, 0, none⟩) m1 m1, .slice none 0 0, .int .i64 (wa + (f x).sh)] ∧ Blk Y gR 41 (ruc (f x)) ∧ OwnI Y w.heap.size (.slice (some ⟨g3, 0, none⟩) m1 m1) ws) := ⟨by rw [hY']; exact setL_below HY.out.1.size _ _ _ (bel_next HY.out.1 B3), by rw [hY, hgA]; have h9 := (((((ZB.set 0 (.int .i64 23)).set 1 (.int .i64 (pl + (f x).sh))).set 2 (.int .i64 nn)).set 3 (.slice (some ⟨g3, 0, none⟩) m1 m1)).set 4 (.slice none 0 0)).set 5 (.int .i64 (wa + (f x).sh)); simpa using h9, (YR.below B3).grown gY (by intro e9; exact q4' (Option.some.inj e9)), by rw [hY']; exact row_setL (OwnI.mono i3 (by have := HY.out.1.size; simp; omega)) ⟨_, ZB⟩ (by decide)⟩
            clear hY' gY ZB z0 z1 z2 z3 z4 z5 f0 f1 f2 f3 f4 f5
            rw [← hY, ← hgA]
            clear hY hgA i3 B3 YQ YR y0 y1 y2 y3 y4 y5 v0 v1 v2 v3 v4 v5 s4 s5 s6 r6 q1' q2' q3' q4' dz dA dAd HY
            obtain ⟨z0', z1', z2', z3', z4', z5'⟩ := HF.out.2.1.six
            have t4 := HF.out.2.2.1.cell 4 rfl
            have t5 := HF.out.2.2.1.cell 5 rfl
            go_wp2
            refine bodyPost_ret (v := .tuple #[.slice (some ⟨Y.heap.size, 0, none⟩) 1 1, .bool true]) (by simp [results, Try.results86, go_sem]) rfl ?_
            have e1 := HM.out.1
            subst e1
            exact ⟨_, [⟨(f x).p, (f x).t, 23, pl + (f x).sh, nn, wa + (f x).sh, ws, []⟩], true, rfl, ownPs_one Y w.heap.size ⟨(f x).p, (f x).t, 23, pl + (f x).sh, nn, wa + (f x).sh, ws, []⟩ (some ⟨g3, 0, none⟩) none ws.length 0 HF.out.2.2.2 (ownB_z _ _) HF.out.1.size, fun _ => HYES.out, (by intro e9; cases e9), bel_next HF.out.1 (bel_alloc _ _)⟩
        · intro u i o ρ hR ho hρ hc hf hd
          have hi : i < 27 := by
            have := (Array.getElem?_eq_some_iff.1 ho).1
            simpa using this
          obtain rfl | rfl | rfl | rfl | rfl | rfl | rfl | rfl | rfl | rfl | rfl | rfl | rfl | rfl | rfl | rfl | rfl | rfl | rfl | rfl | rfl | rfl | rfl | rfl | rfl | rfl | rfl : i = 0 ∨ i = 1 ∨ i = 2 ∨ i = 3 ∨ i = 4 ∨ i = 5 ∨ i = 6 ∨ i = 7 ∨ i = 8 ∨ i = 9 ∨ i = 10 ∨ i = 11 ∨ i = 12 ∨ i = 13 ∨ i = 14 ∨ i = 15 ∨ i = 16 ∨ i = 17 ∨ i = 18 ∨ i = 19 ∨ i = 20 ∨ i = 21 ∨ i = 22 ∨ i = 23 ∨ i = 24 ∨ i = 25 ∨ i = 26 := by omega
          all_goals (simp only [List.getElem?_toArray, List.getElem?_cons_zero, List.getElem?_cons_succ, Option.some.injEq] at ho; subst ho)
          · -- 0
            have s8 : ρ (.tmp 8) = .int .i64 (x : Int) := (hρ 8 (by kernel_rfl)).trans rfl
            exact .inl ⟨rfl, .inl ⟨_, u, rfl, s8, hR, Below.refl _ _⟩⟩
          · -- 1
            have h0 : ρ (.tmp 16) = .int .i64 (x : Int) := hd ⟨0, .data⟩ (by simp) rfl 16 rfl
            exact .inl ⟨rfl, .inl ⟨.bool false, u, run_bin_op rfl h0 (hc _) (by go_simp), rfl, hR, Below.refl _ _⟩⟩
          · -- 2
            have h1 : ρ (.tmp 17) = .bool false := hd ⟨1, .data⟩ (by simp) rfl 17 rfl
            exact .inl ⟨rfl, .inl ⟨_, u, rfl, h1, hR, Below.refl _ _⟩⟩
          · -- 3
            have g2 : ρ (.tmp 18) = .bool false := hd ⟨2, .guard⟩ (by simp) rfl 18 rfl
            have s0 : ρ (.tmp 0) = .slice (some ⟨bb, off, none⟩) n cap := (hρ 0 (by kernel_rfl)).trans rfl
            exact .inl ⟨(by show (match ρ (.tmp 18) with | .bool b => b == false | _ => false) = true; rw [g2]; rfl), .inl ⟨_, u, rfl, s0, hR, Below.refl _ _⟩⟩
          · -- 4
            have g2 : ρ (.tmp 18) = .bool false := hd ⟨2, .guard⟩ (by simp) rfl 18 rfl
            have s8 : ρ (.tmp 8) = .int .i64 (x : Int) := (hρ 8 (by kernel_rfl)).trans rfl
            exact .inl ⟨(by show (match ρ (.tmp 18) with | .bool b => b == false | _ => false) = true; rw [g2]; rfl), .inl ⟨_, u, rfl, s8, hR, Below.refl _ _⟩⟩
          · -- 5
            have g2 : ρ (.tmp 18) = .bool false := hd ⟨2, .guard⟩ (by simp) rfl 18 rfl
            have h3 : ρ (.tmp 19) = .slice (some ⟨bb, off, none⟩) n cap := hd ⟨3, .data⟩ (by simp) rfl 19 rfl
            have h4 : ρ (.tmp 20) = .int .i64 (x : Int) := hd ⟨4, .data⟩ (by simp) rfl 20 rfl
            exact .inl ⟨(by show (match ρ (.tmp 18) with | .bool b => b == false | _ => false) = true; rw [g2]; rfl), .inl ⟨.pointer (some ⟨bb, off + x * 7, none⟩), u, run_index_op rfl h3 h4 (by go_simp), rfl, hR, Below.refl _ _⟩⟩
          · -- 6
            obtain ⟨c0, c1, c2, c3, c4, c5, c6⟩ := HC.out u hR
            have g2 : ρ (.tmp 18) = .bool false := hd ⟨2, .guard⟩ (by simp) rfl 18 rfl
            have h5 : ρ (.tmp 21) = .pointer (some ⟨bb, off + x * 7, none⟩) := hd ⟨5, .data⟩ (by simp) rfl 21 rfl
            have hr : (Instr.loadAt 41 (.pointer (some ⟨bb, off + x * 7, none⟩))).run Try.prog u = .ok (.agg (ruc (f x))) u := by go_simp
            exact .inl ⟨(by show (match ρ (.tmp 18) with | .bool b => b == false | _ => false) = true; rw [g2]; rfl), .inl ⟨.agg (ruc (f x)), u, run_load_op rfl h5 hr, rfl, hR, Below.refl _ _⟩⟩
          · -- 7
            have g2 : ρ (.tmp 18) = .bool false := hd ⟨2, .guard⟩ (by simp) rfl 18 rfl
            have s5 : ρ (.tmp 5) = .pointer (some ⟨gQ, 0, none⟩) := (hρ 5 (by kernel_rfl)).trans rfl
            exact .inl ⟨(by show (match ρ (.tmp 18) with | .bool b => b == false | _ => false) = true; rw [g2]; rfl), .inl ⟨.pointer (some ⟨gQ, 1, none⟩), u, run_field_op rfl s5 (by go_simp), rfl, hR, Below.refl _ _⟩⟩
          · -- 8
            obtain ⟨y0, y1, y2, y3, y4, y5⟩ := (HQ.out.below hR).six
            have g2 : ρ (.tmp 18) = .bool false := hd ⟨2, .guard⟩ (by simp) rfl 18 rfl
            have h7 : ρ (.tmp 23) = .pointer (some ⟨gQ, 1, none⟩) := hd ⟨7, .data⟩ (by simp) rfl 23 rfl
            have hr : (Instr.loadAt 3 (.pointer (some ⟨gQ, 1, none⟩))).run Try.prog u = .ok (.int .i64 pl) u := by go_simp
            exact .inl ⟨(by show (match ρ (.tmp 18) with | .bool b => b == false | _ => false) = true; rw [g2]; rfl), .inl ⟨.int .i64 pl, u, run_load_op rfl h7 hr, rfl, hR, Below.refl _ _⟩⟩
          · -- 9
            have g2 : ρ (.tmp 18) = .bool false := hd ⟨2, .guard⟩ (by simp) rfl 18 rfl
            have s5 : ρ (.tmp 5) = .pointer (some ⟨gQ, 0, none⟩) := (hρ 5 (by kernel_rfl)).trans rfl
            exact .inl ⟨(by show (match ρ (.tmp 18) with | .bool b => b == false | _ => false) = true; rw [g2]; rfl), .inl ⟨.pointer (some ⟨gQ, 2, none⟩), u, run_field_op rfl s5 (by go_simp), rfl, hR, Below.refl _ _⟩⟩
          · -- 10
            obtain ⟨y0, y1, y2, y3, y4, y5⟩ := (HQ.out.below hR).six
            have g2 : ρ (.tmp 18) = .bool false := hd ⟨2, .guard⟩ (by simp) rfl 18 rfl
            have h9 : ρ (.tmp 25) = .pointer (some ⟨gQ, 2, none⟩) := hd ⟨9, .data⟩ (by simp) rfl 25 rfl
            have hr : (Instr.loadAt 3 (.pointer (some ⟨gQ, 2, none⟩))).run Try.prog u = .ok (.int .i64 nn) u := by go_simp
            exact .inl ⟨(by show (match ρ (.tmp 18) with | .bool b => b == false | _ => false) = true; rw [g2]; rfl), .inl ⟨.int .i64 nn, u, run_load_op rfl h9 hr, rfl, hR, Below.refl _ _⟩⟩
          · -- 11
            have g2 : ρ (.tmp 18) = .bool false := hd ⟨2, .guard⟩ (by simp) rfl 18 rfl
            have h6 : ρ (.tmp 22) = .agg (ruc (f x)) := hd ⟨6, .data⟩ (by simp) rfl 22 rfl
            have h8 : ρ (.tmp 24) = .int .i64 pl := hd ⟨8, .data⟩ (by simp) rfl 24 rfl
            have h10 : ρ (.tmp 26) = .int .i64 nn := hd ⟨10, .data⟩ (by simp) rfl 26 rfl
            refine .inl ⟨(by show (match ρ (.tmp 18) with | .bool b => b == false | _ => false) = true; rw [g2]; rfl), .inr ⟨_, _, run_call_op rfl (hf _) (args := #[.agg (ruc (f x)), .int .i64 pl, .int .i64 nn]) (by simp [h6, h8, h10]) (by kernel_rfl), ?_⟩⟩
            refine (hasRun_any (f x) pl nn _ HB.out.1 HB.out.2.1 true HT1.out).mono ?_
            rintro e u' ⟨he, b'⟩
            exact ⟨_, he, rfl, bel_next hR b', b'⟩
          · -- 12
            have g2 : ρ (.tmp 18) = .bool false := hd ⟨2, .guard⟩ (by simp) rfl 18 rfl
            have h11 : ρ (.tmp 27) = .bool true := hd ⟨11, .data⟩ (by simp) rfl 27 rfl
            exact .inl ⟨(by show (match ρ (.tmp 18) with | .bool b => b == false | _ => false) = true; rw [g2]; rfl), .inl ⟨.bool false, u, run_un_op rfl h11 (by go_simp), rfl, hR, Below.refl _ _⟩⟩
          · -- 13
            have h2 : ρ (.tmp 18) = .bool false := hd ⟨2, .data⟩ (by simp) rfl 18 rfl
            have h12 : ρ (.tmp 28) = .bool false := hd ⟨12, .data⟩ (by simp) rfl 28 rfl
            exact .inl ⟨rfl, .inl ⟨_, u, run_pick_op rfl h2, (by simpa using h12), hR, Below.refl _ _⟩⟩
          · -- 14
            have h13 : ρ (.tmp 29) = .bool false := hd ⟨13, .data⟩ (by simp) rfl 29 rfl
            exact .inl ⟨rfl, .inl ⟨_, u, rfl, h13, hR, Below.refl _ _⟩⟩
          · -- 15
            have g14 : ρ (.tmp 30) = .bool false := hd ⟨14, .guard⟩ (by simp) rfl 30 rfl
            have s0 : ρ (.tmp 0) = .slice (some ⟨bb, off, none⟩) n cap := (hρ 0 (by kernel_rfl)).trans rfl
            exact .inl ⟨(by show (match ρ (.tmp 30) with | .bool b => b == false | _ => false) = true; rw [g14]; rfl), .inl ⟨_, u, rfl, s0, hR, Below.refl _ _⟩⟩
          · -- 16
            have g14 : ρ (.tmp 30) = .bool false := hd ⟨14, .guard⟩ (by simp) rfl 30 rfl
            have s8 : ρ (.tmp 8) = .int .i64 (x : Int) := (hρ 8 (by kernel_rfl)).trans rfl
            exact .inl ⟨(by show (match ρ (.tmp 30) with | .bool b => b == false | _ => false) = true; rw [g14]; rfl), .inl ⟨_, u, rfl, s8, hR, Below.refl _ _⟩⟩
          · -- 17
            have g14 : ρ (.tmp 30) = .bool false := hd ⟨14, .guard⟩ (by simp) rfl 30 rfl
            have h15 : ρ (.tmp 31) = .slice (some ⟨bb, off, none⟩) n cap := hd ⟨15, .data⟩ (by simp) rfl 31 rfl
            have h16 : ρ (.tmp 32) = .int .i64 (x : Int) := hd ⟨16, .data⟩ (by simp) rfl 32 rfl
            exact .inl ⟨(by show (match ρ (.tmp 30) with | .bool b => b == false | _ => false) = true; rw [g14]; rfl), .inl ⟨.pointer (some ⟨bb, off + x * 7, none⟩), u, run_index_op rfl h15 h16 (by go_simp), rfl, hR, Below.refl _ _⟩⟩
          · -- 18
            obtain ⟨c0, c1, c2, c3, c4, c5, c6⟩ := HC.out u hR
            have g14 : ρ (.tmp 30) = .bool false := hd ⟨14, .guard⟩ (by simp) rfl 30 rfl
            have h17 : ρ (.tmp 33) = .pointer (some ⟨bb, off + x * 7, none⟩) := hd ⟨17, .data⟩ (by simp) rfl 33 rfl
            have hr : (Instr.loadAt 41 (.pointer (some ⟨bb, off + x * 7, none⟩))).run Try.prog u = .ok (.agg (ruc (f x))) u := by go_simp
            exact .inl ⟨(by show (match ρ (.tmp 30) with | .bool b => b == false | _ => false) = true; rw [g14]; rfl), .inl ⟨.agg (ruc (f x)), u, run_load_op rfl h17 hr, rfl, hR, Below.refl _ _⟩⟩
          · -- 19
            have g14 : ρ (.tmp 30) = .bool false := hd ⟨14, .guard⟩ (by simp) rfl 30 rfl
            have s5 : ρ (.tmp 5) = .pointer (some ⟨gQ, 0, none⟩) := (hρ 5 (by kernel_rfl)).trans rfl
            exact .inl ⟨(by show (match ρ (.tmp 30) with | .bool b => b == false | _ => false) = true; rw [g14]; rfl), .inl ⟨.pointer (some ⟨gQ, 5, none⟩), u, run_field_op rfl s5 (by go_simp), rfl, hR, Below.refl _ _⟩⟩
          · -- 20
            obtain ⟨y0, y1, y2, y3, y4, y5⟩ := (HQ.out.below hR).six
            have g14 : ρ (.tmp 30) = .bool false := hd ⟨14, .guard⟩ (by simp) rfl 30 rfl
            have h19 : ρ (.tmp 35) = .pointer (some ⟨gQ, 5, none⟩) := hd ⟨19, .data⟩ (by simp) rfl 35 rfl
            have hr : (Instr.loadAt 3 (.pointer (some ⟨gQ, 5, none⟩))).run Try.prog u = .ok (.int .i64 wa) u := by go_simp
            exact .inl ⟨(by show (match ρ (.tmp 30) with | .bool b => b == false | _ => false) = true; rw [g14]; rfl), .inl ⟨.int .i64 wa, u, run_load_op rfl h19 hr, rfl, hR, Below.refl _ _⟩⟩
          · -- 21
            have g14 : ρ (.tmp 30) = .bool false := hd ⟨14, .guard⟩ (by simp) rfl 30 rfl
            have s5 : ρ (.tmp 5) = .pointer (some ⟨gQ, 0, none⟩) := (hρ 5 (by kernel_rfl)).trans rfl
            exact .inl ⟨(by show (match ρ (.tmp 30) with | .bool b => b == false | _ => false) = true; rw [g14]; rfl), .inl ⟨.pointer (some ⟨gQ, 3, none⟩), u, run_field_op rfl s5 (by go_simp), rfl, hR, Below.refl _ _⟩⟩
          · -- 22
            obtain ⟨y0, y1, y2, y3, y4, y5⟩ := (HQ.out.below hR).six
            have g14 : ρ (.tmp 30) = .bool false := hd ⟨14, .guard⟩ (by simp) rfl 30 rfl
            have h21 : ρ (.tmp 37) = .pointer (some ⟨gQ, 3, none⟩) := hd ⟨21, .data⟩ (by simp) rfl 37 rfl
            have hr : (Instr.loadAt 25 (.pointer (some ⟨gQ, 3, none⟩))).run Try.prog u = .ok (.slice q1 m1 k1) u := by go_simp
            exact .inl ⟨(by show (match ρ (.tmp 30) with | .bool b => b == false | _ => false) = true; rw [g14]; rfl), .inl ⟨.slice q1 m1 k1, u, run_load_op rfl h21 hr, rfl, hR, Below.refl _ _⟩⟩
          · -- 23
            have g14 : ρ (.tmp 30) = .bool false := hd ⟨14, .guard⟩ (by simp) rfl 30 rfl
            have h22 : ρ (.tmp 38) = .slice q1 m1 k1 := hd ⟨22, .data⟩ (by simp) rfl 38 rfl
            exact .inl ⟨(by show (match ρ (.tmp 30) with | .bool b => b == false | _ => false) = true; rw [g14]; rfl), .inl ⟨_, u, run_len_op Try.underlying25 rfl h22, rfl, hR, Below.refl _ _⟩⟩
          · -- 24
            have g14 : ρ (.tmp 30) = .bool false := hd ⟨14, .guard⟩ (by simp) rfl 30 rfl
            have h18 : ρ (.tmp 34) = .agg (ruc (f x)) := hd ⟨18, .data⟩ (by simp) rfl 34 rfl
            have h20 : ρ (.tmp 36) = .int .i64 wa := hd ⟨20, .data⟩ (by simp) rfl 36 rfl
            have h23 : ρ (.tmp 39) = .int .i64 (m1 : Int) := hd ⟨23, .data⟩ (by simp) rfl 39 rfl
            refine .inl ⟨(by show (match ρ (.tmp 30) with | .bool b => b == false | _ => false) = true; rw [g14]; rfl), .inr ⟨_, _, run_call_op rfl (hf _) (args := #[.agg (ruc (f x)), .int .i64 wa, .int .i64 (m1 : Int)]) (by simp [h18, h20, h23]) (by kernel_rfl), ?_⟩⟩
            refine (hasRun_any (f x) wa (m1 : Int) _ HB.out.2.2.1 HB.out.2.2.2 true HT2.out).mono ?_
            rintro e u' ⟨he, b'⟩
            exact ⟨_, he, rfl, bel_next hR b', b'⟩
          · -- 25
            have g14 : ρ (.tmp 30) = .bool false := hd ⟨14, .guard⟩ (by simp) rfl 30 rfl
            have h24 : ρ (.tmp 40) = .bool true := hd ⟨24, .data⟩ (by simp) rfl 40 rfl
            exact .inl ⟨(by show (match ρ (.tmp 30) with | .bool b => b == false | _ => false) = true; rw [g14]; rfl), .inl ⟨.bool false, u, run_un_op rfl h24 (by go_simp), rfl, hR, Below.refl _ _⟩⟩
          · -- 26
            have h14 : ρ (.tmp 30) = .bool false := hd ⟨14, .data⟩ (by simp) rfl 30 rfl
            have h25 : ρ (.tmp 41) = .bool false := hd ⟨25, .data⟩ (by simp) rfl 41 rfl
            exact .inl ⟨rfl, .inl ⟨_, u, run_pick_op rfl h14, (by simpa using h25), hR, Below.refl _ _⟩⟩

end Go.Proofs.Ytaaokbmfpfmfgaa

namespace Go.Proofs.Ytaaokbmfpfmfgaa
open Go.RowKit Go.Joins

set_option linter.unusedVariables false

set_option linter.unusedSimpArgs false

theorem okR_m {kd pl nn wa : Int} {ws : List Int} {bs : List Bool} {m1 m2 : Nat} (h : okR kd pl nn wa ws m1 m2 = true) (e1 : m1 = ws.length) (e2 : m2 = bs.length) :
    (0 ≤ pl ∧ pl ≤ 65535) ∧ 1 ≤ spcN kd nn m1 m2 ∧ spcN kd nn m1 m2 ≤ 2000 ∧ pl + spcN kd nn m1 m2 ≤ 65536 ∧ (¬ kd = 23 → KdM kd pl ws bs (pl + spcN kd nn m1 m2) ∧ wa = 0 ∧ (4 < kd → nn = 0) ∧ (kd ≤ 5 → m1 = 0) ∧ (kd = 15 → m1 = 0) ∧ (kd ≤ 4 → m2 = 0) ∧ (kd = 6 ∨ kd = 16 ∨ kd = 22 → m2 = 0)) ∧ (kd = 23 → 1 ≤ nn ∧ nn ≤ 125 ∧ m2 = 0 ∧ 1 ≤ m1 ∧ m1 ≤ 121 ∧ 0 ≤ wa ∧ wa ≤ 65535) := by
  have hk := okR_kind h
  unfold okR at h
  simp only [Bool.and_eq_true] at h
  obtain ⟨_, h2, h3⟩ := h
  have hp := inB_yes h2
  obtain rfl | rfl | rfl | rfl | rfl | rfl | rfl | rfl | rfl | rfl := hk <;> (simp [okK, zrB, inB, fitB] at h3; simp only [spcN]; refine ⟨hp, ?_⟩; simp [KdM]; omega)

/-- All parts of a right question; none, where a place has no rule. -/
def ptsM (f : Nat → Ru) (n : Nat) (un kd pl nn wa : Int) (ws : List Int) (bs : List Bool) : Option (List Pa) :=
  if kd = 23 then (bothM f n un pl nn wa ws).map (fun P => [P]) else (runs f n un (spc0 kd) (pl + spcN kd nn ws.length bs.length) pl).map (List.map (pcOf kd pl ws bs))

set_option maxRecDepth 20000 in
set_option maxHeartbeats 2000000 in
theorem partsOf_23 (a : Option Addr) (n cap : Nat) (f : Nat → Ru) (un pl nn wa : Int) (q1 q2 : Option Addr) (m1 m2 k1 k2 : Nat) (ws : List Int) (w : World) (hs : SlU w a n f) (hn : n ≤ 24) (hok : ∀ k, k < n → OkRu (f k))
    (h1 : m1 = ws.length) (s1 : SlI w q1 ws) (hl1 : ws.length ≤ 121) (hp : 0 ≤ pl ∧ pl ≤ 65535) (hnn : 0 ≤ nn ∧ nn ≤ 125) (hwa : 0 ≤ wa ∧ wa ≤ 65535) :
    Calls Try.prog 37 #[.slice a n cap, .int .i64 un, .agg (rqc 23 pl nn wa q1 q2 m1 m2 k1 k2)] w fun e w' => PartsPw w w' e ((bothM f n un pl nn wa ws).map (fun P => [P])) := by
  have bW : Below w.heap.size w (w.alloc (.cells (rqc 23 pl nn wa q1 q2 m1 m2 k1 k2) 28)) := bel_alloc _ _
  obtain ⟨R, hR⟩ : ∃ R, R = (bothM f n un pl nn wa ws).map (fun P => [P]) := ⟨_, rfl⟩
  have hc := bothPart_any a n cap f un pl nn wa q1 q2 m1 m2 k1 k2 ws _ (SlS.below hs bW) hn hok h1 (s1.below bW) hl1 hp hnn hwa
  rw [← hR] at hc ⊢
  have HC : Hid (Calls Try.prog 86 #[.slice a n cap, .int .i64 un, .agg (rqc 23 pl nn wa q1 q2 m1 m2 k1 k2)] (w.alloc (.cells (rqc 23 pl nn wa q1 q2 m1 m2 k1 k2) 28)) fun e w' => PartsPw (w.alloc (.cells (rqc 23 pl nn wa q1 q2 m1 m2 k1 k2) 28)) w' e R) := hc
  clear hc hs hok s1 h1 hR hp hnn hwa
  go_enter Try.func37, Try.ntmps37
  go_wp2_with fail
  refine HC.out.mono ?_
  rintro e w1 ⟨v, Ps, b, rfl, h1, h2, h3, h4⟩
  have HX : Hid (OwnPs w1 w.heap.size v Ps ∧ (b = true → R = some Ps) ∧ (b = false → R = none) ∧ Below w.heap.size w w1) := ⟨h1.mono bW.size, h2, h3, bel_next bW h4⟩
  clear h1 h2 h3 h4 HC bW
  go_wp2
  refine bodyPost_ret (v := .tuple #[v, .bool b]) (by simp [results, Try.results37, go_sem]) rfl ⟨v, Ps, b, rfl, HX.out⟩

theorem partsOf_all (kd : Int) (a : Option Addr) (n cap : Nat) (f : Nat → Ru) (un pl nn wa : Int) (q1 q2 : Option Addr) (m1 m2 k1 k2 : Nat) (ws : List Int) (bs : List Bool) (w : World) (hs : SlU w a n f) (hn : n ≤ 24) (hok : ∀ k, k < n → OkRu (f k)) (hap : Apart f n)
    (h1 : m1 = ws.length) (h2 : m2 = bs.length) (s1 : SlI w q1 ws) (s2 : SlB w q2 bs) (hl1 : ws.length ≤ 2000000) (hl2 : bs.length ≤ 2000000) (hk1 : m1 ≤ k1) (hk2 : m2 ≤ k2) (hR : okR kd pl nn wa ws m1 m2 = true) :
    Calls Try.prog 37 #[.slice a n cap, .int .i64 un, .agg (rqc kd pl nn wa q1 q2 m1 m2 k1 k2)] w fun e w' => PartsPw w w' e (ptsM f n un kd pl nn wa ws bs) := by
  obtain ⟨hp, c1, c2, c3, c4, c5⟩ := okR_m hR h1 h2
  unfold ptsM
  by_cases h23 : kd = 23
  · subst h23
    rw [if_pos rfl]
    obtain ⟨d1, d2, d3, d4, d5, d6⟩ := c5 rfl
    exact partsOf_23 a n cap f un pl nn wa q1 q2 m1 m2 k1 k2 ws w hs hn hok h1 s1 (by omega) hp ⟨by omega, d2⟩ d6
  · rw [if_neg h23]
    refine (partsOf_any kd a n cap f un (spc0 kd) pl nn wa q1 q2 m1 m2 k1 k2 ws bs w hs hn hok hap h1 h2 s1 s2 hl1 hl2 hk1 hk2 (spcN kd nn m1 m2) (c4 h23).1 (by rw [hR]; rfl) ⟨hp.1, by omega, c3⟩ hp.2).mono ?_
    rintro e w' ⟨v, l, b, rfl, h5, h6, h7⟩
    rw [h1, h2] at h6
    exact ⟨v, _, b, rfl, h5, fun e => by rw [h6.1 e]; rfl, fun e => by rw [h6.2 e]; rfl, h7⟩

/-- What Parts tells. -/
def pm (rk ok uk : Bool) (R : Option (List Pa)) : List Pa × Int :=
  bif rk && ok then (bif uk then (match R with | none => ([], 2) | some l => if l.length ≤ 8 then (l, 0) else ([], 3)) else ([], 10)) else ([], 3)

/-- What Parts ends with. -/
def PmPost (w w' : World) (e : Ending) (r : List Pa × Int) : Prop := ∃ v, e = .returned (.tuple #[v, .int .i64 r.2]) ∧ OwnPs w' w.heap.size v r.1 ∧ Below w.heap.size w w'

set_option maxRecDepth 20000 in
set_option maxHeartbeats 2000000 in
theorem implParts_all (kd : Int) (a : Option Addr) (n cap : Nat) (f : Nat → Ru) (un pl nn wa : Int) (q1 q2 : Option Addr) (m1 m2 k1 k2 : Nat) (ws : List Int) (bs : List Bool) (w : World) (hs : SlU w a n f) (hn : n ≤ 2000000) (h64 : ∀ k, k < n → -9223372036854775808 ≤ (f k).sh ∧ (f k).sh ≤ 9223372036854775807)
    (h1 : m1 = ws.length) (h2 : m2 = bs.length) (s1 : SlI w q1 ws) (s2 : SlB w q2 bs) (hl1 : ws.length ≤ 2000000) (hl2 : bs.length ≤ 2000000) (hk1 : m1 ≤ k1) (hk2 : m2 ≤ k2) (rk uk : Bool) (hrk : rk = true ↔ OkRs f n) (huk : uk = true ↔ ∃ j, j < n ∧ (f j).u = un) :
    Calls Try.prog 8 #[.slice a n cap, .int .i64 un, .agg (rqc kd pl nn wa q1 q2 m1 m2 k1 k2)] w fun e w' => PmPost w w' e (pm rk (okR kd pl nn wa ws m1 m2) uk (ptsM f n un kd pl nn wa ws bs)) := by
  obtain ⟨W, hW⟩ : ∃ W, W = w.alloc (.cells (rqc kd pl nn wa q1 q2 m1 m2 k1 k2) 28) := ⟨_, rfl⟩
  have bW : Below w.heap.size w W := by rw [hW]; exact (Below.refl _ _).alloc (Nat.le_refl _) _
  have HF : Hid ((rk = true ↔ OkRs f n) ∧ (∀ k, k < n → -9223372036854775808 ≤ (f k).sh ∧ (f k).sh ≤ 9223372036854775807) ∧ (uk = true ↔ ∃ j, j < n ∧ (f j).u = un)) := ⟨hrk, h64, huk⟩
  have HW : Hid (SlU W a n f ∧ SlI W q1 ws ∧ SlB W q2 bs ∧ Below w.heap.size w W ∧ Blk W w.heap.size 28 (rqc kd pl nn wa q1 q2 m1 m2 k1 k2)) := ⟨SlS.below hs bW, s1.below bW, s2.below bW, bW, by rw [hW]; exact Blk.new w _ 28⟩
  have HQ : Hid (m1 = ws.length ∧ m2 = bs.length ∧ m1 ≤ k1 ∧ m2 ≤ k2) := ⟨h1, h2, hk1, hk2⟩
  obtain ⟨R, hR⟩ : ∃ R, R = ptsM f n un kd pl nn wa ws bs := ⟨_, rfl⟩
  obtain ⟨ok, hok⟩ : ∃ ok, ok = okR kd pl nn wa ws m1 m2 := ⟨_, rfl⟩
  rw [← hR, ← hok]
  have HR : Hid (R = ptsM f n un kd pl nn wa ws bs ∧ ok = okR kd pl nn wa ws m1 m2) := ⟨hR, hok⟩
  clear hs s1 s2 bW h1 h2 hrk h64 huk hk1 hk2 hR hok
  go_enter Try.func8, Try.ntmps8
  go_upto_region 1 with fail
  rw [← hW]
  clear hW
  go_wp2_with fail
  refine (implRulesOk_any a n cap f _ HW.out.1 hn HF.out.2.1 rk HF.out.1).mono ?_
  rintro e w1 ⟨rfl, b1⟩
  have HW1 : Hid (SlU w1 a n f ∧ SlI w1 q1 ws ∧ SlB w1 q2 bs ∧ Below w.heap.size w w1 ∧ Blk w1 w.heap.size 28 (rqc kd pl nn wa q1 q2 m1 m2 k1 k2)) := ⟨SlS.below HW.out.1 b1, HW.out.2.1.below b1, HW.out.2.2.1.below b1, bel_next HW.out.2.2.2.1 b1, HW.out.2.2.2.2.below b1⟩
  clear HW b1
  cases rk with
  | false =>
    go_wp2
    refine bodyPost_ret (v := .tuple #[.slice none 0 0, .int .i64 3]) (by simp [results, Try.results8, go_sem]) rfl ⟨_, rfl, ownPs_nil _ _ _ _, HW1.out.2.2.2.1⟩
  | true =>
    have hrs := HF.out.1.1 rfl
    have HRS : Hid (OkRs f n) := hrs
    have hn24 : n ≤ 24 := hrs.1
    clear hrs
    obtain ⟨y0, y1, y2, y3, y4, y5⟩ := HW1.out.2.2.2.2.six
    go_wp2_with fail
    refine (implReqOk_q kd pl nn wa q1 q2 m1 m2 k1 k2 ws bs _ HQ.out.1 HQ.out.2.1 HW1.out.2.1 HW1.out.2.2.1 hl1 hl2).mono ?_
    rintro e w2 ⟨he, b2⟩
    rw [← HR.out.2] at he
    subst he
    have HW2 : Hid (SlU w2 a n f ∧ SlI w2 q1 ws ∧ SlB w2 q2 bs ∧ Below w.heap.size w w2 ∧ Blk w2 w.heap.size 28 (rqc kd pl nn wa q1 q2 m1 m2 k1 k2)) := ⟨SlS.below HW1.out.1 b2, HW1.out.2.1.below b2, HW1.out.2.2.1.below b2, bel_next HW1.out.2.2.2.1 b2, HW1.out.2.2.2.2.below b2⟩
    clear HW1 b2 y0 y1 y2 y3 y4 y5
    cases ok with
    | false =>
      go_wp2
      refine bodyPost_ret (v := .tuple #[.slice none 0 0, .int .i64 3]) (by simp [results, Try.results8, go_sem]) rfl ⟨_, rfl, ownPs_nil _ _ _ _, HW2.out.2.2.2.1⟩
    | true =>
      go_wp2_with fail
      refine (hasUnit_any a n cap f un _ HW2.out.1 hn uk HF.out.2.2).mono ?_
      rintro e w3 ⟨rfl, b3⟩
      have HW3 : Hid (SlU w3 a n f ∧ SlI w3 q1 ws ∧ SlB w3 q2 bs ∧ Below w.heap.size w w3 ∧ Blk w3 w.heap.size 28 (rqc kd pl nn wa q1 q2 m1 m2 k1 k2)) := ⟨SlS.below HW2.out.1 b3, HW2.out.2.1.below b3, HW2.out.2.2.1.below b3, bel_next HW2.out.2.2.2.1 b3, HW2.out.2.2.2.2.below b3⟩
      clear HW2 b3
      cases uk with
      | false =>
        go_wp2
        refine bodyPost_ret (v := .tuple #[.slice none 0 0, .int .i64 10]) (by simp [results, Try.results8, go_sem]) rfl ⟨_, rfl, ownPs_nil _ _ _ _, HW3.out.2.2.2.1⟩
      | true =>
        obtain ⟨y0, y1, y2, y3, y4, y5⟩ := HW3.out.2.2.2.2.six
        go_wp2_with fail
        refine (partsOf_all kd a n cap f un pl nn wa q1 q2 m1 m2 k1 k2 ws bs _ HW3.out.1 hn24 HRS.out.2.1 HRS.out.2.2 HQ.out.1 HQ.out.2.1 HW3.out.2.1 HW3.out.2.2.1 hl1 hl2 HQ.out.2.2.1 HQ.out.2.2.2 HR.out.2.symm).mono ?_
        rintro e w4 ⟨v, Ps, b, rfl, o4, r1, r2, b4⟩
        rw [← HR.out.1] at r1 r2
        obtain ⟨va, vc, rfl⟩ := o4.shape
        obtain ⟨N, hN⟩ : ∃ N, N = Ps.length := ⟨_, rfl⟩
        have HX : Hid (N = Ps.length ∧ (b = true → R = some Ps) ∧ (b = false → R = none) ∧ OwnPs w4 w.heap.size (.slice va N vc) Ps ∧ Below w.heap.size w w4) := ⟨hN, r1, r2, by rw [hN]; exact o4.mono HW3.out.2.2.2.1.size, bel_next HW3.out.2.2.2.1 b4⟩
        rw [← hN]
        clear hN r1 r2 o4 b4 HW3 y0 y1 y2 y3 y4 y5
        cases b with
        | false =>
          have e9 := HX.out.2.2.1 rfl
          go_wp2
          refine bodyPost_ret (v := .tuple #[.slice none 0 0, .int .i64 2]) (by simp [results, Try.results8, go_sem]) rfl ?_
          rw [e9]
          exact ⟨_, rfl, ownPs_nil _ _ _ _, HX.out.2.2.2.2⟩
        | true =>
          have HE : Hid (R = some Ps) := HX.out.2.1 rfl
          by_cases h8 : 8 < N
          · have d : (8 : Int) < (N : Int) := by omega
            go_wp2
            refine bodyPost_ret (v := .tuple #[.slice none 0 0, .int .i64 3]) (by simp [results, Try.results8, go_sem]) rfl ?_
            have e8 : pm true true true R = ([], 3) := by rw [HE.out]; simp only [pm, Bool.and_self, cond_true]; rw [if_neg (by have := HX.out.1; omega)]
            rw [e8]
            exact ⟨_, rfl, ownPs_nil _ _ _ _, HX.out.2.2.2.2⟩
          · have d : ¬ (8 : Int) < (N : Int) := by omega
            go_wp2
            refine bodyPost_ret (v := .tuple #[.slice va N vc, .int .i64 0]) (by simp [results, Try.results8, go_sem]) rfl ?_
            have e8 : pm true true true R = (Ps, 0) := by rw [HE.out]; simp only [pm, Bool.and_self, cond_true]; rw [if_pos (by have := HX.out.1; omega)]
            rw [e8]
            exact ⟨_, rfl, HX.out.2.2.2.1, HX.out.2.2.2.2⟩

end Go.Proofs.Ytaaokbmfpfmfgaa

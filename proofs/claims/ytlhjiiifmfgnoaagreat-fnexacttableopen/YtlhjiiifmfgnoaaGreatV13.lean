/- Texts that the proof needs, joined: S3. -/
import Derived.Test.YtlhjiiifmfgnoaaGreatV11
import Derived.Test.YtlhjiiifmfgnoaaGreatV12
import Derived.Deep.RegionHeld3
import Derived.BigQuiet
set_option linter.unusedVariables false
set_option linter.unusedSimpArgs false
set_option maxHeartbeats 2000000
set_option maxRecDepth 20000
namespace Go.Proofs.YtlhjiiifmfgnoaaGreat
open Go.RowKit
theorem slB_drop {w : World} {b off : Nat} {bs : List Bool} (N : Nat) (hlt : N < bs.length) (h : SlB w (some ⟨b, off, none⟩) bs) : SlB w (some ⟨b, off + N, none⟩) (bs.drop N) := by
 rcases h with h | ⟨b', off', e, hb, hc⟩
 ·subst h; simp at hlt
 simp at e
 obtain ⟨rfl, rfl⟩ := e
 refine .inr ⟨b, off + N, rfl, hb, fun i hi => ?_⟩
 rw [List.length_drop] at hi
 have := hc (N + i) (by omega)
 rw [show off + N + i = off + (N + i) by omega, this]
 simp [List.getD_eq_getElem?_getD, List.getElem?_drop]
theorem bytesForM (N : Nat) (M : Int) (w : World) (hn : (N : Int) <= 9223372036854775807) (hM : M = ((N : Int) + 7) / 8) : Calls Tryz.prog 130 #[.int .i64 (N : Int)] w fun e w' => e = .returned (.int .i64 M) /\ w' = w := by
 rw [hM]
 exact bytesFor_any (N : Int) w (by omega) hn
theorem nfB_drop (bs : List Bool) (N : Nat) : nfB (bs.drop N) 0 = nfB bs N := by
 unfold nfB
 rw [decide_eq_decide]
 constructor
 ·intro h k hk hn
  have := h (k - N) (by rw [List.length_drop]; omega) (Nat.zero_le _)
  simpa [List.getD_eq_getElem?_getD, List.getElem?_drop, show N + (k - N) = k by omega] using this
 intro h k hk _
 rw [List.length_drop] at hk
 have := h (N + k) (by omega) (by omega)
 simpa [List.getD_eq_getElem?_getD, List.getElem?_drop] using this
theorem answers_1 (pl nn wa : Int) (q1 q2 : Option Addr) (m1 m2 k1 k2 : Nat) (qs : List Int) (qb : List Bool) (ap an : Int) (a1 a2 : Option Addr) (l1 l2 c1 c2 : Nat) (ws : List Int) (bs : List Bool) (w : World) (g1 : m1 = qs.length) (g2 : m2 = qb.length) (t1 : SlI w q1 qs) (t2 : SlB w q2 qb) (hm1 : qs.length <= 2000000) (hm2 : qb.length <= 2000000) (h1 : l1 = ws.length) (h2 : l2 = bs.length) (s1 : SlI w a1 ws) (s2 : SlB w a2 bs) (hl1 : ws.length <= 2000000) (hl2 : bs.length <= 2000000) (hcap : l2 <= c2) (hq : okR 1 pl nn wa qs m1 m2 = true) (ha : okA 1 0 ap an ws l1 l2 = true) :
 Calls Tryz.prog 118 #[rq 1 pl nn wa q1 q2 m1 m2 k1 k2, rp 1 0 ap an a1 a2 l1 l2 c1 c2] w fun e w' => e = .returned (.bool (anB 1 pl nn m1 m2 qs qb ap an l1 l2 ws bs)) /\ Below w.heap.size w w' := by
 obtain ⟨W0, hW0⟩ : ∃ W0, W0 = (w.alloc (.cells #[.int .i64 1, .int .i64 pl, .int .i64 nn, .slice q1 m1 k1, .slice q2 m2 k2, .int .i64 wa] 39)).alloc (.cells #[.int .i64 1, .int .i64 0, .int .i64 ap, .int .i64 an, .slice a1 l1 c1, .slice a2 l2 c2] 89) := ⟨_, rfl⟩
 have HW : Hid (W0 = _) := hW0
 have B0 : Below w.heap.size w W0 := by rw [hW0]; exact bel_next (bel_alloc w _) (bel_alloc _ _)
 have X0 : Blk W0 w.heap.size 39 #[.int .i64 1, .int .i64 pl, .int .i64 nn, .slice q1 m1 k1, .slice q2 m2 k2, .int .i64 wa] := by rw [hW0]; exact (Blk.new w _ _).below (bel_alloc _ _)
 have Y0 : Blk W0 (w.heap.size + 1) 89 #[.int .i64 1, .int .i64 0, .int .i64 ap, .int .i64 an, .slice a1 l1 c1, .slice a2 l2 c2] := by
  rw [hW0]; have := Blk.new (w.alloc (.cells #[.int .i64 1, .int .i64 pl, .int .i64 nn, .slice q1 m1 k1, .slice q2 m2 k2, .int .i64 wa] 39)) #[.int .i64 1, .int .i64 0, .int .i64 ap, .int .i64 an, .slice a1 l1 c1, .slice a2 l2 c2] 89; simpa using this
 have HL : Hid (m1 = qs.length /\ m2 = qb.length /\ l1 = ws.length /\ l2 = bs.length) := ⟨g1, g2, h1, h2⟩
 have HS : Hid (SlI W0 q1 qs /\ SlB W0 q2 qb /\ SlI W0 a1 ws /\ SlB W0 a2 bs) := ⟨t1.below B0, t2.below B0, s1.below B0, s2.below B0⟩
 obtain ⟨x0, x1, x2, x3, x4, x5⟩ := X0.six
 obtain ⟨y0, y1, y2, y3, y4, y5⟩ := Y0.six
 clear hW0 g1 g2 h1 h2 t1 t2 s1 s2
 have hN : 1 <= nn /\ nn <= 2000 := by simp [okR, okK, zrB, inB, fitB] at hq; omega
 have hB : 1 <= l2 /\ l2 <= 2000 := by simp [okA, okAK, kindB, inB, zr4] at ha; omega
 obtain ⟨N, rfl⟩ : ∃ N : Nat, nn = (N : Int) := ⟨nn.toNat, by omega⟩
 clear hq ha
 have d0 : Below W0.heap.size W0 W0.drew := (Below.refl _ _).drew
 obtain ⟨M, hM⟩ : ∃ M : Int, M = ((N : Int) + 7) / 8 := ⟨_, rfl⟩
 have HM : Hid (M = ((N : Int) + 7) / 8 /\ 0 <= M /\ M <= 1000) := ⟨hM, by omega, by omega⟩
 have hw8 : IntKind.i64.wrap (8 * M) = 8 * M := wraps_i64' _ (by omega) (by omega)
 obtain ⟨bk, off, ea, hbk, hc⟩ := cell_atB (k := 0) HS.out.2.2.2 (by have := HL.out; omega)
 subst ea
 clear hc
 by_cases he : (l2 : Int) = 8 * M
 ·have hle : N <= l2 := by omega
  have heb : ((l2 : Int) == 8 * M) = true := by simp [he]
  have heb2 : decide ((l2 : Int) = 8 * M) = true := by simp [he]
  have HEQ : Hid (l2 = (N + 7) / 8 * 8) := by show l2 = _; omega
  have hci : (l2 : Int) <= (c2 : Int) := by omega
  have hn0 : (0 : Int) <= (N : Int) := by omega
  have hnl2 : (N : Int) <= (l2 : Int) := by omega
  clear hM he
  by_cases hnl : N = l2
  ·have hz : nfB bs N = true := decide_eq_true (fun k h1 h2 => by have := HL.out; omega)
   have HE : Hid (anB 1 pl (N : Int) m1 m2 qs qb ap an l1 l2 ws bs = true) := by show _ = true; simp [anB, hz, HEQ.out]
   have HZ : Hid (nfB [] 0 = true) := rfl
   clear hz
   have hnl' := hnl.symm
   clear hnl HEQ
   subst hnl'
   by_cases hcl : c2 = l2
   ·subst hcl
    go_enter Tryz.func118, Tryz.ntmps118
    go_upto_region 1 with fail
    rw [<- HW.out]
    go_upto_region 4 with fail
    go_region_held3 (fun w' => w'.cell? ⟨w.heap.size, 2, none⟩ = some (.int .i64 (c2 : Int)) /\ w'.cell? ⟨w.heap.size + 1, 5, none⟩ = some (.slice (some ⟨bk, off, none⟩) c2 c2)) (go_keep)
     (first
      | (go_at_call 130; refine (bytesFor_any (c2 : Int) _ (by omega) (by omega)).mono ?_; rintro e wx ⟨he, rfl⟩; rw [<- HM.out.1] at he; subst he)
      | (go_at_call 131; refine (containsB_any _ 0 _ [] _ rfl (.inl rfl) (by simp) _ HZ.out).mono ?_; rintro e wC ⟨rfl, bC⟩; have BC := bel_next (w0 := w) (by first | exact B0 | exact B0.drew) bC; have XC := (Blk.below (by first | exact X0 | exact X0.below d0) bC).six; have YC := (Blk.below (by first | exact Y0 | exact Y0.below d0) bC).six; obtain ⟨xc0, xc1, xc2, xc3, xc4, xc5⟩ := XC; obtain ⟨yc0, yc1, yc2, yc3, yc4, yc5⟩ := YC; clear bC))
    all_goals (go_wp2; go_ret; exact ⟨by rw [HE.out]; rfl, BC⟩)
   skip
   go_enter Tryz.func118, Tryz.ntmps118
   go_upto_region 1 with fail
   rw [<- HW.out]
   go_upto_region 4 with fail
   go_region_held3 (fun w' => w'.cell? ⟨w.heap.size, 2, none⟩ = some (.int .i64 (l2 : Int)) /\ w'.cell? ⟨w.heap.size + 1, 5, none⟩ = some (.slice (some ⟨bk, off, none⟩) l2 c2)) (go_keep)
    (first
     | (go_at_call 130; refine (bytesFor_any (l2 : Int) _ (by omega) (by omega)).mono ?_; rintro e wx ⟨he, rfl⟩; rw [<- HM.out.1] at he; subst he)
     | (go_at_call 131; refine (containsB_any _ 0 _ [] _ rfl (.inl rfl) (by simp) _ HZ.out).mono ?_; rintro e wC ⟨rfl, bC⟩; have BC := bel_next (w0 := w) (by first | exact B0 | exact B0.drew) bC; have XC := (Blk.below (by first | exact X0 | exact X0.below d0) bC).six; have YC := (Blk.below (by first | exact Y0 | exact Y0.below d0) bC).six; obtain ⟨xc0, xc1, xc2, xc3, xc4, xc5⟩ := XC; obtain ⟨yc0, yc1, yc2, yc3, yc4, yc5⟩ := YC; clear bC))
   all_goals (go_wp2; go_ret; exact ⟨by rw [HE.out]; rfl, BC⟩)
  have hlt : N < l2 := by omega
  have HSl : Hid (SlB W0 (some ⟨bk, off + N, none⟩) (bs.drop N)) := slB_drop N (by have := HL.out; omega) HS.out.2.2.2
  have HLd : Hid (l2 - N = (bs.drop N).length) := by show _ = _; rw [List.length_drop]; have := HL.out; omega
  have hnz : ¬ l2 - N = 0 := by omega
  have hcn : ¬ c2 = N := by omega
  cases hz : nfB bs N
  ·have HE : Hid (anB 1 pl (N : Int) m1 m2 qs qb ap an l1 l2 ws bs = false) := by show _ = false; simp [anB, hz, HEQ.out]
   have HZ : Hid (nfB (bs.drop N) 0 = false) := by show _ = false; rw [nfB_drop]; exact hz
   clear hz
   go_enter Tryz.func118, Tryz.ntmps118
   go_upto_region 1 with fail
   rw [<- HW.out]
   go_upto_region 4 with fail
   go_region_held3 (fun w' => w'.cell? ⟨w.heap.size, 2, none⟩ = some (.int .i64 (N : Int)) /\ w'.cell? ⟨w.heap.size + 1, 5, none⟩ = some (.slice (some ⟨bk, off, none⟩) l2 c2)) (go_keep)
    (first
     | (go_at_call 130; refine (bytesFor_any (N : Int) _ (by omega) (by omega)).mono ?_; rintro e wx ⟨he, rfl⟩; rw [<- HM.out.1] at he; subst he)
     | (go_at_call 131; refine (containsB_any _ (l2 - N) _ (bs.drop N) _ HLd.out (by first | exact HSl.out | exact HSl.out.below d0) (by rw [List.length_drop]; omega) _ HZ.out).mono ?_; rintro e wC ⟨rfl, bC⟩; have BC := bel_next (w0 := w) (by first | exact B0 | exact B0.drew) bC; have XC := (Blk.below (by first | exact X0 | exact X0.below d0) bC).six; have YC := (Blk.below (by first | exact Y0 | exact Y0.below d0) bC).six; obtain ⟨xc0, xc1, xc2, xc3, xc4, xc5⟩ := XC; obtain ⟨yc0, yc1, yc2, yc3, yc4, yc5⟩ := YC; clear bC))
   all_goals (go_wp2; go_ret; exact ⟨by rw [HE.out]; rfl, BC⟩)
  have HE : Hid (anB 1 pl (N : Int) m1 m2 qs qb ap an l1 l2 ws bs = true) := by show _ = true; simp [anB, hz, HEQ.out]
  have HZ : Hid (nfB (bs.drop N) 0 = true) := by show _ = true; rw [nfB_drop]; exact hz
  clear hz
  go_enter Tryz.func118, Tryz.ntmps118
  go_upto_region 1 with fail
  rw [<- HW.out]
  go_upto_region 4 with fail
  go_region_held3 (fun w' => w'.cell? ⟨w.heap.size, 2, none⟩ = some (.int .i64 (N : Int)) /\ w'.cell? ⟨w.heap.size + 1, 5, none⟩ = some (.slice (some ⟨bk, off, none⟩) l2 c2)) (go_keep)
   (first
    | (go_at_call 130; refine (bytesFor_any (N : Int) _ (by omega) (by omega)).mono ?_; rintro e wx ⟨he, rfl⟩; rw [<- HM.out.1] at he; subst he)
    | (go_at_call 131; refine (containsB_any _ (l2 - N) _ (bs.drop N) _ HLd.out (by first | exact HSl.out | exact HSl.out.below d0) (by rw [List.length_drop]; omega) _ HZ.out).mono ?_; rintro e wC ⟨rfl, bC⟩; have BC := bel_next (w0 := w) (by first | exact B0 | exact B0.drew) bC; have XC := (Blk.below (by first | exact X0 | exact X0.below d0) bC).six; have YC := (Blk.below (by first | exact Y0 | exact Y0.below d0) bC).six; obtain ⟨xc0, xc1, xc2, xc3, xc4, xc5⟩ := XC; obtain ⟨yc0, yc1, yc2, yc3, yc4, yc5⟩ := YC; clear bC))
  all_goals (go_wp2; go_ret; exact ⟨by rw [HE.out]; rfl, BC⟩)
 have HE : Hid (anB 1 pl (N : Int) m1 m2 qs qb ap an l1 l2 ws bs = false) := by show _ = false; have : ¬ l2 = (N + 7) / 8 * 8 := (by omega); simp [anB, this]
 have heb : decide ((l2 : Int) = IntKind.i64.wrap (8 * M)) = false := by rw [hw8]; simp [he]
 have hea : decide ((l2 : Int) = 8 * M) = false := by simp [he]
 have hed : ((l2 : Int) == 8 * M) = false := by simp [he]
 have hec : ¬ (l2 : Int) = IntKind.i64.wrap (8 * M) := by rw [hw8]; exact he
 clear hM
 go_enter Tryz.func118, Tryz.ntmps118
 go_upto_region 1 with fail
 rw [<- HW.out]
 go_upto_region 4 with fail
 go_quiet ((go_at_call 130; refine Calls.quiet_of_same (bytesForM N M _ (by omega) HM.out.1)))
 go_wp2
 go_ret
 exact ⟨by rw [HE.out]; rfl, bel_drewN B0 _⟩
theorem answers_2 (pl nn wa : Int) (q1 q2 : Option Addr) (m1 m2 k1 k2 : Nat) (qs : List Int) (qb : List Bool) (ap an : Int) (a1 a2 : Option Addr) (l1 l2 c1 c2 : Nat) (ws : List Int) (bs : List Bool) (w : World) (g1 : m1 = qs.length) (g2 : m2 = qb.length) (t1 : SlI w q1 qs) (t2 : SlB w q2 qb) (hm1 : qs.length <= 2000000) (hm2 : qb.length <= 2000000) (h1 : l1 = ws.length) (h2 : l2 = bs.length) (s1 : SlI w a1 ws) (s2 : SlB w a2 bs) (hl1 : ws.length <= 2000000) (hl2 : bs.length <= 2000000) (hcap : l2 <= c2) (hq : okR 2 pl nn wa qs m1 m2 = true) (ha : okA 2 0 ap an ws l1 l2 = true) :
 Calls Tryz.prog 118 #[rq 2 pl nn wa q1 q2 m1 m2 k1 k2, rp 2 0 ap an a1 a2 l1 l2 c1 c2] w fun e w' => e = .returned (.bool (anB 2 pl nn m1 m2 qs qb ap an l1 l2 ws bs)) /\ Below w.heap.size w w' := by
 obtain ⟨W0, hW0⟩ : ∃ W0, W0 = (w.alloc (.cells #[.int .i64 2, .int .i64 pl, .int .i64 nn, .slice q1 m1 k1, .slice q2 m2 k2, .int .i64 wa] 39)).alloc (.cells #[.int .i64 2, .int .i64 0, .int .i64 ap, .int .i64 an, .slice a1 l1 c1, .slice a2 l2 c2] 89) := ⟨_, rfl⟩
 have HW : Hid (W0 = _) := hW0
 have B0 : Below w.heap.size w W0 := by rw [hW0]; exact bel_next (bel_alloc w _) (bel_alloc _ _)
 have X0 : Blk W0 w.heap.size 39 #[.int .i64 2, .int .i64 pl, .int .i64 nn, .slice q1 m1 k1, .slice q2 m2 k2, .int .i64 wa] := by rw [hW0]; exact (Blk.new w _ _).below (bel_alloc _ _)
 have Y0 : Blk W0 (w.heap.size + 1) 89 #[.int .i64 2, .int .i64 0, .int .i64 ap, .int .i64 an, .slice a1 l1 c1, .slice a2 l2 c2] := by
  rw [hW0]; have := Blk.new (w.alloc (.cells #[.int .i64 2, .int .i64 pl, .int .i64 nn, .slice q1 m1 k1, .slice q2 m2 k2, .int .i64 wa] 39)) #[.int .i64 2, .int .i64 0, .int .i64 ap, .int .i64 an, .slice a1 l1 c1, .slice a2 l2 c2] 89; simpa using this
 have HL : Hid (m1 = qs.length /\ m2 = qb.length /\ l1 = ws.length /\ l2 = bs.length) := ⟨g1, g2, h1, h2⟩
 have HS : Hid (SlI W0 q1 qs /\ SlB W0 q2 qb /\ SlI W0 a1 ws /\ SlB W0 a2 bs) := ⟨t1.below B0, t2.below B0, s1.below B0, s2.below B0⟩
 obtain ⟨x0, x1, x2, x3, x4, x5⟩ := X0.six
 obtain ⟨y0, y1, y2, y3, y4, y5⟩ := Y0.six
 clear hW0 g1 g2 h1 h2 t1 t2 s1 s2
 have hN : 1 <= nn /\ nn <= 2000 := by simp [okR, okK, zrB, inB, fitB] at hq; omega
 have hB : 1 <= l2 /\ l2 <= 2000 := by simp [okA, okAK, kindB, inB, zr4] at ha; omega
 obtain ⟨N, rfl⟩ : ∃ N : Nat, nn = (N : Int) := ⟨nn.toNat, by omega⟩
 clear hq ha
 have d0 : Below W0.heap.size W0 W0.drew := (Below.refl _ _).drew
 obtain ⟨M, hM⟩ : ∃ M : Int, M = ((N : Int) + 7) / 8 := ⟨_, rfl⟩
 have HM : Hid (M = ((N : Int) + 7) / 8 /\ 0 <= M /\ M <= 1000) := ⟨hM, by omega, by omega⟩
 have hw8 : IntKind.i64.wrap (8 * M) = 8 * M := wraps_i64' _ (by omega) (by omega)
 obtain ⟨bk, off, ea, hbk, hc⟩ := cell_atB (k := 0) HS.out.2.2.2 (by have := HL.out; omega)
 subst ea
 clear hc
 by_cases he : (l2 : Int) = 8 * M
 ·have hle : N <= l2 := by omega
  have heb : ((l2 : Int) == 8 * M) = true := by simp [he]
  have heb2 : decide ((l2 : Int) = 8 * M) = true := by simp [he]
  have HEQ : Hid (l2 = (N + 7) / 8 * 8) := by show l2 = _; omega
  have hci : (l2 : Int) <= (c2 : Int) := by omega
  have hn0 : (0 : Int) <= (N : Int) := by omega
  have hnl2 : (N : Int) <= (l2 : Int) := by omega
  clear hM he
  by_cases hnl : N = l2
  ·have hz : nfB bs N = true := decide_eq_true (fun k h1 h2 => by have := HL.out; omega)
   have HE : Hid (anB 2 pl (N : Int) m1 m2 qs qb ap an l1 l2 ws bs = true) := by show _ = true; simp [anB, hz, HEQ.out]
   have HZ : Hid (nfB [] 0 = true) := rfl
   clear hz
   have hnl' := hnl.symm
   clear hnl HEQ
   subst hnl'
   by_cases hcl : c2 = l2
   ·subst hcl
    go_enter Tryz.func118, Tryz.ntmps118
    go_upto_region 1 with fail
    rw [<- HW.out]
    go_upto_region 4 with fail
    go_region_held3 (fun w' => w'.cell? ⟨w.heap.size, 2, none⟩ = some (.int .i64 (c2 : Int)) /\ w'.cell? ⟨w.heap.size + 1, 5, none⟩ = some (.slice (some ⟨bk, off, none⟩) c2 c2)) (go_keep)
     (first
      | (go_at_call 130; refine (bytesFor_any (c2 : Int) _ (by omega) (by omega)).mono ?_; rintro e wx ⟨he, rfl⟩; rw [<- HM.out.1] at he; subst he)
      | (go_at_call 131; refine (containsB_any _ 0 _ [] _ rfl (.inl rfl) (by simp) _ HZ.out).mono ?_; rintro e wC ⟨rfl, bC⟩; have BC := bel_next (w0 := w) (by first | exact B0 | exact B0.drew) bC; have XC := (Blk.below (by first | exact X0 | exact X0.below d0) bC).six; have YC := (Blk.below (by first | exact Y0 | exact Y0.below d0) bC).six; obtain ⟨xc0, xc1, xc2, xc3, xc4, xc5⟩ := XC; obtain ⟨yc0, yc1, yc2, yc3, yc4, yc5⟩ := YC; clear bC))
    all_goals (go_wp2; go_ret; exact ⟨by rw [HE.out]; rfl, BC⟩)
   skip
   go_enter Tryz.func118, Tryz.ntmps118
   go_upto_region 1 with fail
   rw [<- HW.out]
   go_upto_region 4 with fail
   go_region_held3 (fun w' => w'.cell? ⟨w.heap.size, 2, none⟩ = some (.int .i64 (l2 : Int)) /\ w'.cell? ⟨w.heap.size + 1, 5, none⟩ = some (.slice (some ⟨bk, off, none⟩) l2 c2)) (go_keep)
    (first
     | (go_at_call 130; refine (bytesFor_any (l2 : Int) _ (by omega) (by omega)).mono ?_; rintro e wx ⟨he, rfl⟩; rw [<- HM.out.1] at he; subst he)
     | (go_at_call 131; refine (containsB_any _ 0 _ [] _ rfl (.inl rfl) (by simp) _ HZ.out).mono ?_; rintro e wC ⟨rfl, bC⟩; have BC := bel_next (w0 := w) (by first | exact B0 | exact B0.drew) bC; have XC := (Blk.below (by first | exact X0 | exact X0.below d0) bC).six; have YC := (Blk.below (by first | exact Y0 | exact Y0.below d0) bC).six; obtain ⟨xc0, xc1, xc2, xc3, xc4, xc5⟩ := XC; obtain ⟨yc0, yc1, yc2, yc3, yc4, yc5⟩ := YC; clear bC))
   all_goals (go_wp2; go_ret; exact ⟨by rw [HE.out]; rfl, BC⟩)
  have hlt : N < l2 := by omega
  have HSl : Hid (SlB W0 (some ⟨bk, off + N, none⟩) (bs.drop N)) := slB_drop N (by have := HL.out; omega) HS.out.2.2.2
  have HLd : Hid (l2 - N = (bs.drop N).length) := by show _ = _; rw [List.length_drop]; have := HL.out; omega
  have hnz : ¬ l2 - N = 0 := by omega
  have hcn : ¬ c2 = N := by omega
  cases hz : nfB bs N
  ·have HE : Hid (anB 2 pl (N : Int) m1 m2 qs qb ap an l1 l2 ws bs = false) := by show _ = false; simp [anB, hz, HEQ.out]
   have HZ : Hid (nfB (bs.drop N) 0 = false) := by show _ = false; rw [nfB_drop]; exact hz
   clear hz
   go_enter Tryz.func118, Tryz.ntmps118
   go_upto_region 1 with fail
   rw [<- HW.out]
   go_upto_region 4 with fail
   go_region_held3 (fun w' => w'.cell? ⟨w.heap.size, 2, none⟩ = some (.int .i64 (N : Int)) /\ w'.cell? ⟨w.heap.size + 1, 5, none⟩ = some (.slice (some ⟨bk, off, none⟩) l2 c2)) (go_keep)
    (first
     | (go_at_call 130; refine (bytesFor_any (N : Int) _ (by omega) (by omega)).mono ?_; rintro e wx ⟨he, rfl⟩; rw [<- HM.out.1] at he; subst he)
     | (go_at_call 131; refine (containsB_any _ (l2 - N) _ (bs.drop N) _ HLd.out (by first | exact HSl.out | exact HSl.out.below d0) (by rw [List.length_drop]; omega) _ HZ.out).mono ?_; rintro e wC ⟨rfl, bC⟩; have BC := bel_next (w0 := w) (by first | exact B0 | exact B0.drew) bC; have XC := (Blk.below (by first | exact X0 | exact X0.below d0) bC).six; have YC := (Blk.below (by first | exact Y0 | exact Y0.below d0) bC).six; obtain ⟨xc0, xc1, xc2, xc3, xc4, xc5⟩ := XC; obtain ⟨yc0, yc1, yc2, yc3, yc4, yc5⟩ := YC; clear bC))
   all_goals (go_wp2; go_ret; exact ⟨by rw [HE.out]; rfl, BC⟩)
  have HE : Hid (anB 2 pl (N : Int) m1 m2 qs qb ap an l1 l2 ws bs = true) := by show _ = true; simp [anB, hz, HEQ.out]
  have HZ : Hid (nfB (bs.drop N) 0 = true) := by show _ = true; rw [nfB_drop]; exact hz
  clear hz
  go_enter Tryz.func118, Tryz.ntmps118
  go_upto_region 1 with fail
  rw [<- HW.out]
  go_upto_region 4 with fail
  go_region_held3 (fun w' => w'.cell? ⟨w.heap.size, 2, none⟩ = some (.int .i64 (N : Int)) /\ w'.cell? ⟨w.heap.size + 1, 5, none⟩ = some (.slice (some ⟨bk, off, none⟩) l2 c2)) (go_keep)
   (first
    | (go_at_call 130; refine (bytesFor_any (N : Int) _ (by omega) (by omega)).mono ?_; rintro e wx ⟨he, rfl⟩; rw [<- HM.out.1] at he; subst he)
    | (go_at_call 131; refine (containsB_any _ (l2 - N) _ (bs.drop N) _ HLd.out (by first | exact HSl.out | exact HSl.out.below d0) (by rw [List.length_drop]; omega) _ HZ.out).mono ?_; rintro e wC ⟨rfl, bC⟩; have BC := bel_next (w0 := w) (by first | exact B0 | exact B0.drew) bC; have XC := (Blk.below (by first | exact X0 | exact X0.below d0) bC).six; have YC := (Blk.below (by first | exact Y0 | exact Y0.below d0) bC).six; obtain ⟨xc0, xc1, xc2, xc3, xc4, xc5⟩ := XC; obtain ⟨yc0, yc1, yc2, yc3, yc4, yc5⟩ := YC; clear bC))
  all_goals (go_wp2; go_ret; exact ⟨by rw [HE.out]; rfl, BC⟩)
 have HE : Hid (anB 2 pl (N : Int) m1 m2 qs qb ap an l1 l2 ws bs = false) := by show _ = false; have : ¬ l2 = (N + 7) / 8 * 8 := (by omega); simp [anB, this]
 have heb : decide ((l2 : Int) = IntKind.i64.wrap (8 * M)) = false := by rw [hw8]; simp [he]
 have hea : decide ((l2 : Int) = 8 * M) = false := by simp [he]
 have hed : ((l2 : Int) == 8 * M) = false := by simp [he]
 have hec : ¬ (l2 : Int) = IntKind.i64.wrap (8 * M) := by rw [hw8]; exact he
 clear hM
 go_enter Tryz.func118, Tryz.ntmps118
 go_upto_region 1 with fail
 rw [<- HW.out]
 go_upto_region 4 with fail
 go_quiet ((go_at_call 130; refine Calls.quiet_of_same (bytesForM N M _ (by omega) HM.out.1)))
 go_wp2
 go_ret
 exact ⟨by rw [HE.out]; rfl, bel_drewN B0 _⟩
theorem answers_3 (pl nn wa : Int) (q1 q2 : Option Addr) (m1 m2 k1 k2 : Nat) (qs : List Int) (qb : List Bool) (ap an : Int) (a1 a2 : Option Addr) (l1 l2 c1 c2 : Nat) (ws : List Int) (bs : List Bool) (w : World) (g1 : m1 = qs.length) (g2 : m2 = qb.length) (t1 : SlI w q1 qs) (t2 : SlB w q2 qb) (hm1 : qs.length <= 2000000) (hm2 : qb.length <= 2000000) (h1 : l1 = ws.length) (h2 : l2 = bs.length) (s1 : SlI w a1 ws) (s2 : SlB w a2 bs) (hl1 : ws.length <= 2000000) (hl2 : bs.length <= 2000000) (hq : okR 3 pl nn wa qs m1 m2 = true) (ha : okA 3 0 ap an ws l1 l2 = true) :
 Calls Tryz.prog 118 #[rq 3 pl nn wa q1 q2 m1 m2 k1 k2, rp 3 0 ap an a1 a2 l1 l2 c1 c2] w fun e w' => e = .returned (.bool (anB 3 pl nn m1 m2 qs qb ap an l1 l2 ws bs)) /\ Below w.heap.size w w' := by
 obtain ⟨W0, hW0⟩ : ∃ W0, W0 = (w.alloc (.cells #[.int .i64 3, .int .i64 pl, .int .i64 nn, .slice q1 m1 k1, .slice q2 m2 k2, .int .i64 wa] 39)).alloc (.cells #[.int .i64 3, .int .i64 0, .int .i64 ap, .int .i64 an, .slice a1 l1 c1, .slice a2 l2 c2] 89) := ⟨_, rfl⟩
 have HW : Hid (W0 = _) := hW0
 have B0 : Below w.heap.size w W0 := by rw [hW0]; exact bel_next (bel_alloc w _) (bel_alloc _ _)
 have X0 : Blk W0 w.heap.size 39 #[.int .i64 3, .int .i64 pl, .int .i64 nn, .slice q1 m1 k1, .slice q2 m2 k2, .int .i64 wa] := by rw [hW0]; exact (Blk.new w _ _).below (bel_alloc _ _)
 have Y0 : Blk W0 (w.heap.size + 1) 89 #[.int .i64 3, .int .i64 0, .int .i64 ap, .int .i64 an, .slice a1 l1 c1, .slice a2 l2 c2] := by
  rw [hW0]; have := Blk.new (w.alloc (.cells #[.int .i64 3, .int .i64 pl, .int .i64 nn, .slice q1 m1 k1, .slice q2 m2 k2, .int .i64 wa] 39)) #[.int .i64 3, .int .i64 0, .int .i64 ap, .int .i64 an, .slice a1 l1 c1, .slice a2 l2 c2] 89; simpa using this
 have HL : Hid (m1 = qs.length /\ m2 = qb.length /\ l1 = ws.length /\ l2 = bs.length) := ⟨g1, g2, h1, h2⟩
 have HS : Hid (SlI W0 q1 qs /\ SlB W0 q2 qb /\ SlI W0 a1 ws /\ SlB W0 a2 bs) := ⟨t1.below B0, t2.below B0, s1.below B0, s2.below B0⟩
 obtain ⟨x0, x1, x2, x3, x4, x5⟩ := X0.six
 obtain ⟨y0, y1, y2, y3, y4, y5⟩ := Y0.six
 clear hW0 g1 g2 h1 h2 t1 t2 s1 s2
 clear hq ha
 by_cases he : (l1 : Int) = nn
 ·have hei : ((l1 : Int) == nn) = true := by simp [he]
  have HE : Hid (anB 3 pl nn m1 m2 qs qb ap an l1 l2 ws bs = true) := by show _ = true; simp [anB, he]
  clear he
  go_enter Tryz.func118, Tryz.ntmps118
  go_upto_region 1 with fail
  rw [<- HW.out]
  go_wp2
  go_ret
  exact ⟨by rw [HE.out]; first | rfl | simp [hei], B0⟩
 have hei : ((l1 : Int) == nn) = false := by simp [he]
 have HE : Hid (anB 3 pl nn m1 m2 qs qb ap an l1 l2 ws bs = false) := by show _ = false; simp [anB, he]
 clear he
 go_enter Tryz.func118, Tryz.ntmps118
 go_upto_region 1 with fail
 rw [<- HW.out]
 go_wp2
 go_ret
 exact ⟨by rw [HE.out]; first | rfl | simp [hei], B0⟩
theorem answers_4 (pl nn wa : Int) (q1 q2 : Option Addr) (m1 m2 k1 k2 : Nat) (qs : List Int) (qb : List Bool) (ap an : Int) (a1 a2 : Option Addr) (l1 l2 c1 c2 : Nat) (ws : List Int) (bs : List Bool) (w : World) (g1 : m1 = qs.length) (g2 : m2 = qb.length) (t1 : SlI w q1 qs) (t2 : SlB w q2 qb) (hm1 : qs.length <= 2000000) (hm2 : qb.length <= 2000000) (h1 : l1 = ws.length) (h2 : l2 = bs.length) (s1 : SlI w a1 ws) (s2 : SlB w a2 bs) (hl1 : ws.length <= 2000000) (hl2 : bs.length <= 2000000) (hq : okR 4 pl nn wa qs m1 m2 = true) (ha : okA 4 0 ap an ws l1 l2 = true) :
 Calls Tryz.prog 118 #[rq 4 pl nn wa q1 q2 m1 m2 k1 k2, rp 4 0 ap an a1 a2 l1 l2 c1 c2] w fun e w' => e = .returned (.bool (anB 4 pl nn m1 m2 qs qb ap an l1 l2 ws bs)) /\ Below w.heap.size w w' := by
 obtain ⟨W0, hW0⟩ : ∃ W0, W0 = (w.alloc (.cells #[.int .i64 4, .int .i64 pl, .int .i64 nn, .slice q1 m1 k1, .slice q2 m2 k2, .int .i64 wa] 39)).alloc (.cells #[.int .i64 4, .int .i64 0, .int .i64 ap, .int .i64 an, .slice a1 l1 c1, .slice a2 l2 c2] 89) := ⟨_, rfl⟩
 have HW : Hid (W0 = _) := hW0
 have B0 : Below w.heap.size w W0 := by rw [hW0]; exact bel_next (bel_alloc w _) (bel_alloc _ _)
 have X0 : Blk W0 w.heap.size 39 #[.int .i64 4, .int .i64 pl, .int .i64 nn, .slice q1 m1 k1, .slice q2 m2 k2, .int .i64 wa] := by rw [hW0]; exact (Blk.new w _ _).below (bel_alloc _ _)
 have Y0 : Blk W0 (w.heap.size + 1) 89 #[.int .i64 4, .int .i64 0, .int .i64 ap, .int .i64 an, .slice a1 l1 c1, .slice a2 l2 c2] := by
  rw [hW0]; have := Blk.new (w.alloc (.cells #[.int .i64 4, .int .i64 pl, .int .i64 nn, .slice q1 m1 k1, .slice q2 m2 k2, .int .i64 wa] 39)) #[.int .i64 4, .int .i64 0, .int .i64 ap, .int .i64 an, .slice a1 l1 c1, .slice a2 l2 c2] 89; simpa using this
 have HL : Hid (m1 = qs.length /\ m2 = qb.length /\ l1 = ws.length /\ l2 = bs.length) := ⟨g1, g2, h1, h2⟩
 have HS : Hid (SlI W0 q1 qs /\ SlB W0 q2 qb /\ SlI W0 a1 ws /\ SlB W0 a2 bs) := ⟨t1.below B0, t2.below B0, s1.below B0, s2.below B0⟩
 obtain ⟨x0, x1, x2, x3, x4, x5⟩ := X0.six
 obtain ⟨y0, y1, y2, y3, y4, y5⟩ := Y0.six
 clear hW0 g1 g2 h1 h2 t1 t2 s1 s2
 clear hq ha
 by_cases he : (l1 : Int) = nn
 ·have hei : ((l1 : Int) == nn) = true := by simp [he]
  have HE : Hid (anB 4 pl nn m1 m2 qs qb ap an l1 l2 ws bs = true) := by show _ = true; simp [anB, he]
  clear he
  go_enter Tryz.func118, Tryz.ntmps118
  go_upto_region 1 with fail
  rw [<- HW.out]
  go_wp2
  go_ret
  exact ⟨by rw [HE.out]; first | rfl | simp [hei], B0⟩
 have hei : ((l1 : Int) == nn) = false := by simp [he]
 have HE : Hid (anB 4 pl nn m1 m2 qs qb ap an l1 l2 ws bs = false) := by show _ = false; simp [anB, he]
 clear he
 go_enter Tryz.func118, Tryz.ntmps118
 go_upto_region 1 with fail
 rw [<- HW.out]
 go_wp2
 go_ret
 exact ⟨by rw [HE.out]; first | rfl | simp [hei], B0⟩
theorem answers_5 (pl nn wa : Int) (q1 q2 : Option Addr) (m1 m2 k1 k2 : Nat) (qs : List Int) (qb : List Bool) (ap an : Int) (a1 a2 : Option Addr) (l1 l2 c1 c2 : Nat) (ws : List Int) (bs : List Bool) (w : World) (g1 : m1 = qs.length) (g2 : m2 = qb.length) (t1 : SlI w q1 qs) (t2 : SlB w q2 qb) (hm1 : qs.length <= 2000000) (hm2 : qb.length <= 2000000) (h1 : l1 = ws.length) (h2 : l2 = bs.length) (s1 : SlI w a1 ws) (s2 : SlB w a2 bs) (hl1 : ws.length <= 2000000) (hl2 : bs.length <= 2000000) (hq : okR 5 pl nn wa qs m1 m2 = true) (ha : okA 5 0 ap an ws l1 l2 = true) :
 Calls Tryz.prog 118 #[rq 5 pl nn wa q1 q2 m1 m2 k1 k2, rp 5 0 ap an a1 a2 l1 l2 c1 c2] w fun e w' => e = .returned (.bool (anB 5 pl nn m1 m2 qs qb ap an l1 l2 ws bs)) /\ Below w.heap.size w w' := by
 obtain ⟨W0, hW0⟩ : ∃ W0, W0 = (w.alloc (.cells #[.int .i64 5, .int .i64 pl, .int .i64 nn, .slice q1 m1 k1, .slice q2 m2 k2, .int .i64 wa] 39)).alloc (.cells #[.int .i64 5, .int .i64 0, .int .i64 ap, .int .i64 an, .slice a1 l1 c1, .slice a2 l2 c2] 89) := ⟨_, rfl⟩
 have HW : Hid (W0 = _) := hW0
 have B0 : Below w.heap.size w W0 := by rw [hW0]; exact bel_next (bel_alloc w _) (bel_alloc _ _)
 have X0 : Blk W0 w.heap.size 39 #[.int .i64 5, .int .i64 pl, .int .i64 nn, .slice q1 m1 k1, .slice q2 m2 k2, .int .i64 wa] := by rw [hW0]; exact (Blk.new w _ _).below (bel_alloc _ _)
 have Y0 : Blk W0 (w.heap.size + 1) 89 #[.int .i64 5, .int .i64 0, .int .i64 ap, .int .i64 an, .slice a1 l1 c1, .slice a2 l2 c2] := by
  rw [hW0]; have := Blk.new (w.alloc (.cells #[.int .i64 5, .int .i64 pl, .int .i64 nn, .slice q1 m1 k1, .slice q2 m2 k2, .int .i64 wa] 39)) #[.int .i64 5, .int .i64 0, .int .i64 ap, .int .i64 an, .slice a1 l1 c1, .slice a2 l2 c2] 89; simpa using this
 have HL : Hid (m1 = qs.length /\ m2 = qb.length /\ l1 = ws.length /\ l2 = bs.length) := ⟨g1, g2, h1, h2⟩
 have HS : Hid (SlI W0 q1 qs /\ SlB W0 q2 qb /\ SlI W0 a1 ws /\ SlB W0 a2 bs) := ⟨t1.below B0, t2.below B0, s1.below B0, s2.below B0⟩
 obtain ⟨x0, x1, x2, x3, x4, x5⟩ := X0.six
 obtain ⟨y0, y1, y2, y3, y4, y5⟩ := Y0.six
 clear hW0 g1 g2 h1 h2 t1 t2 s1 s2
 have HO : Hid (ws = qs) := by
  have e1 : m1 = 0 := (by simp [okR, okK, zrB, inB, fitB] at hq; omega)
  have e2 : l1 = 0 := (by simp [okA, okAK, kindB, inB, zr4] at ha; omega)
  have := HL.out
  show ws = qs
  rw [List.eq_nil_of_length_eq_zero (show ws.length = 0 by omega), List.eq_nil_of_length_eq_zero (show qs.length = 0 by omega)]
 clear hq ha
 by_cases hA : ap = pl
 ·cases he : decide (bs = qb)
  ·have HE : Hid (anB 5 pl nn m1 m2 qs qb ap an l1 l2 ws bs = false) := by show _ = false; simp [anB, hA]; simpa using he
   have HQE : Hid (decide (bs = qb) = false) := he
   clear he
   have hA' := hA.symm
   clear hA
   subst hA'
   go_enter Tryz.func118, Tryz.ntmps118
   go_upto_region 1 with fail
   rw [<- HW.out]
   go_wp2_with fail
   refine (equal_bool_any _ _ _ _ _ _ bs qb _ HL.out.2.2.2 HL.out.2.1 HS.out.2.2.2 HS.out.2.1 hl2 hm2 false HQE.out).mono ?_
   rintro e w1 ⟨rfl, b'⟩
   have B1 := bel_next B0 b'
   have X1 := X0.below b'
   have Y1 := Y0.below b'
   have HS1 : Hid (SlI w1 q1 qs /\ SlB w1 q2 qb /\ SlI w1 a1 ws /\ SlB w1 a2 bs) := ⟨HS.out.1.below b', HS.out.2.1.below b', HS.out.2.2.1.below b', HS.out.2.2.2.below b'⟩
   clear b' B0 X0 Y0 x0 x1 x2 x3 x4 x5 y0 y1 y2 y3 y4 y5
   obtain ⟨x0, x1, x2, x3, x4, x5⟩ := X1.six
   obtain ⟨y0, y1, y2, y3, y4, y5⟩ := Y1.six
   go_wp2
   go_ret
   exact ⟨by rw [HE.out]; rfl, B1⟩
  have HE : Hid (anB 5 pl nn m1 m2 qs qb ap an l1 l2 ws bs = true) := by show _ = true; simp [anB, hA]; simpa using he
  have HQE : Hid (decide (bs = qb) = true) := he
  clear he
  have hA' := hA.symm
  clear hA
  subst hA'
  go_enter Tryz.func118, Tryz.ntmps118
  go_upto_region 1 with fail
  rw [<- HW.out]
  go_wp2_with fail
  refine (equal_bool_any _ _ _ _ _ _ bs qb _ HL.out.2.2.2 HL.out.2.1 HS.out.2.2.2 HS.out.2.1 hl2 hm2 true HQE.out).mono ?_
  rintro e w1 ⟨rfl, b'⟩
  have B1 := bel_next B0 b'
  have X1 := X0.below b'
  have Y1 := Y0.below b'
  have HS1 : Hid (SlI w1 q1 qs /\ SlB w1 q2 qb /\ SlI w1 a1 ws /\ SlB w1 a2 bs) := ⟨HS.out.1.below b', HS.out.2.1.below b', HS.out.2.2.1.below b', HS.out.2.2.2.below b'⟩
  clear b' B0 X0 Y0 x0 x1 x2 x3 x4 x5 y0 y1 y2 y3 y4 y5
  obtain ⟨x0, x1, x2, x3, x4, x5⟩ := X1.six
  obtain ⟨y0, y1, y2, y3, y4, y5⟩ := Y1.six
  go_wp2_with fail
  refine (equal_int_any _ _ _ _ _ _ ws qs _ HL.out.2.2.1 HL.out.1 HS1.out.2.2.1 HS1.out.1 hl1 hm1 true (decide_eq_true HO.out)).mono ?_
  rintro e w2 ⟨rfl, b'⟩
  have B2 := bel_next B1 b'
  clear b'
  go_wp2
  go_ret
  exact ⟨by rw [HE.out]; rfl, B2⟩
 have HE : Hid (anB 5 pl nn m1 m2 qs qb ap an l1 l2 ws bs = false) := by show _ = false; simp [anB, hA]
 have hAb : (ap == pl) = false := by simp [hA]
 go_enter Tryz.func118, Tryz.ntmps118
 go_upto_region 1 with fail
 rw [<- HW.out]
 go_wp2
 go_ret
 exact ⟨by rw [HE.out]; rfl, B0⟩
theorem answers_6 (pl nn wa : Int) (q1 q2 : Option Addr) (m1 m2 k1 k2 : Nat) (qs : List Int) (qb : List Bool) (ap an : Int) (a1 a2 : Option Addr) (l1 l2 c1 c2 : Nat) (ws : List Int) (bs : List Bool) (w : World) (g1 : m1 = qs.length) (g2 : m2 = qb.length) (t1 : SlI w q1 qs) (t2 : SlB w q2 qb) (hm1 : qs.length <= 2000000) (hm2 : qb.length <= 2000000) (h1 : l1 = ws.length) (h2 : l2 = bs.length) (s1 : SlI w a1 ws) (s2 : SlB w a2 bs) (hl1 : ws.length <= 2000000) (hl2 : bs.length <= 2000000) (hq : okR 6 pl nn wa qs m1 m2 = true) (ha : okA 6 0 ap an ws l1 l2 = true) :
 Calls Tryz.prog 118 #[rq 6 pl nn wa q1 q2 m1 m2 k1 k2, rp 6 0 ap an a1 a2 l1 l2 c1 c2] w fun e w' => e = .returned (.bool (anB 6 pl nn m1 m2 qs qb ap an l1 l2 ws bs)) /\ Below w.heap.size w w' := by
 obtain ⟨W0, hW0⟩ : ∃ W0, W0 = (w.alloc (.cells #[.int .i64 6, .int .i64 pl, .int .i64 nn, .slice q1 m1 k1, .slice q2 m2 k2, .int .i64 wa] 39)).alloc (.cells #[.int .i64 6, .int .i64 0, .int .i64 ap, .int .i64 an, .slice a1 l1 c1, .slice a2 l2 c2] 89) := ⟨_, rfl⟩
 have HW : Hid (W0 = _) := hW0
 have B0 : Below w.heap.size w W0 := by rw [hW0]; exact bel_next (bel_alloc w _) (bel_alloc _ _)
 have X0 : Blk W0 w.heap.size 39 #[.int .i64 6, .int .i64 pl, .int .i64 nn, .slice q1 m1 k1, .slice q2 m2 k2, .int .i64 wa] := by rw [hW0]; exact (Blk.new w _ _).below (bel_alloc _ _)
 have Y0 : Blk W0 (w.heap.size + 1) 89 #[.int .i64 6, .int .i64 0, .int .i64 ap, .int .i64 an, .slice a1 l1 c1, .slice a2 l2 c2] := by
  rw [hW0]; have := Blk.new (w.alloc (.cells #[.int .i64 6, .int .i64 pl, .int .i64 nn, .slice q1 m1 k1, .slice q2 m2 k2, .int .i64 wa] 39)) #[.int .i64 6, .int .i64 0, .int .i64 ap, .int .i64 an, .slice a1 l1 c1, .slice a2 l2 c2] 89; simpa using this
 have HL : Hid (m1 = qs.length /\ m2 = qb.length /\ l1 = ws.length /\ l2 = bs.length) := ⟨g1, g2, h1, h2⟩
 have HS : Hid (SlI W0 q1 qs /\ SlB W0 q2 qb /\ SlI W0 a1 ws /\ SlB W0 a2 bs) := ⟨t1.below B0, t2.below B0, s1.below B0, s2.below B0⟩
 obtain ⟨x0, x1, x2, x3, x4, x5⟩ := X0.six
 obtain ⟨y0, y1, y2, y3, y4, y5⟩ := Y0.six
 clear hW0 g1 g2 h1 h2 t1 t2 s1 s2
 have HO : Hid (bs = qb) := by
  have e1 : m2 = 0 := (by simp [okR, okK, zrB, inB, fitB] at hq; omega)
  have e2 : l2 = 0 := (by simp [okA, okAK, kindB, inB, zr4] at ha; omega)
  have := HL.out
  show bs = qb
  rw [List.eq_nil_of_length_eq_zero (show bs.length = 0 by omega), List.eq_nil_of_length_eq_zero (show qb.length = 0 by omega)]
 clear hq ha
 by_cases hA : ap = pl
 ·cases he : decide (ws = qs)
  ·have HE : Hid (anB 6 pl nn m1 m2 qs qb ap an l1 l2 ws bs = false) := by show _ = false; simp [anB, hA]; simpa using he
   have HQE : Hid (decide (ws = qs) = false) := he
   clear he
   have hA' := hA.symm
   clear hA
   subst hA'
   go_enter Tryz.func118, Tryz.ntmps118
   go_upto_region 1 with fail
   rw [<- HW.out]
   go_wp2_with fail
   refine (equal_bool_any _ _ _ _ _ _ bs qb _ HL.out.2.2.2 HL.out.2.1 HS.out.2.2.2 HS.out.2.1 hl2 hm2 true (decide_eq_true HO.out)).mono ?_
   rintro e w1 ⟨rfl, b'⟩
   have B1 := bel_next B0 b'
   have X1 := X0.below b'
   have Y1 := Y0.below b'
   have HS1 : Hid (SlI w1 q1 qs /\ SlB w1 q2 qb /\ SlI w1 a1 ws /\ SlB w1 a2 bs) := ⟨HS.out.1.below b', HS.out.2.1.below b', HS.out.2.2.1.below b', HS.out.2.2.2.below b'⟩
   clear b' B0 X0 Y0 x0 x1 x2 x3 x4 x5 y0 y1 y2 y3 y4 y5
   obtain ⟨x0, x1, x2, x3, x4, x5⟩ := X1.six
   obtain ⟨y0, y1, y2, y3, y4, y5⟩ := Y1.six
   go_wp2_with fail
   refine (equal_int_any _ _ _ _ _ _ ws qs _ HL.out.2.2.1 HL.out.1 HS1.out.2.2.1 HS1.out.1 hl1 hm1 false HQE.out).mono ?_
   rintro e w2 ⟨rfl, b'⟩
   have B2 := bel_next B1 b'
   clear b'
   go_wp2
   go_ret
   exact ⟨by rw [HE.out]; rfl, B2⟩
  have HE : Hid (anB 6 pl nn m1 m2 qs qb ap an l1 l2 ws bs = true) := by show _ = true; simp [anB, hA]; simpa using he
  have HQE : Hid (decide (ws = qs) = true) := he
  clear he
  have hA' := hA.symm
  clear hA
  subst hA'
  go_enter Tryz.func118, Tryz.ntmps118
  go_upto_region 1 with fail
  rw [<- HW.out]
  go_wp2_with fail
  refine (equal_bool_any _ _ _ _ _ _ bs qb _ HL.out.2.2.2 HL.out.2.1 HS.out.2.2.2 HS.out.2.1 hl2 hm2 true (decide_eq_true HO.out)).mono ?_
  rintro e w1 ⟨rfl, b'⟩
  have B1 := bel_next B0 b'
  have X1 := X0.below b'
  have Y1 := Y0.below b'
  have HS1 : Hid (SlI w1 q1 qs /\ SlB w1 q2 qb /\ SlI w1 a1 ws /\ SlB w1 a2 bs) := ⟨HS.out.1.below b', HS.out.2.1.below b', HS.out.2.2.1.below b', HS.out.2.2.2.below b'⟩
  clear b' B0 X0 Y0 x0 x1 x2 x3 x4 x5 y0 y1 y2 y3 y4 y5
  obtain ⟨x0, x1, x2, x3, x4, x5⟩ := X1.six
  obtain ⟨y0, y1, y2, y3, y4, y5⟩ := Y1.six
  go_wp2_with fail
  refine (equal_int_any _ _ _ _ _ _ ws qs _ HL.out.2.2.1 HL.out.1 HS1.out.2.2.1 HS1.out.1 hl1 hm1 true HQE.out).mono ?_
  rintro e w2 ⟨rfl, b'⟩
  have B2 := bel_next B1 b'
  clear b'
  go_wp2
  go_ret
  exact ⟨by rw [HE.out]; rfl, B2⟩
 have HE : Hid (anB 6 pl nn m1 m2 qs qb ap an l1 l2 ws bs = false) := by show _ = false; simp [anB, hA]
 have hAb : (ap == pl) = false := by simp [hA]
 go_enter Tryz.func118, Tryz.ntmps118
 go_upto_region 1 with fail
 rw [<- HW.out]
 go_wp2
 go_ret
 exact ⟨by rw [HE.out]; rfl, B0⟩
theorem answers_15 (pl nn wa : Int) (q1 q2 : Option Addr) (m1 m2 k1 k2 : Nat) (qs : List Int) (qb : List Bool) (ap an : Int) (a1 a2 : Option Addr) (l1 l2 c1 c2 : Nat) (ws : List Int) (bs : List Bool) (w : World) (g1 : m1 = qs.length) (g2 : m2 = qb.length) (t1 : SlI w q1 qs) (t2 : SlB w q2 qb) (hm1 : qs.length <= 2000000) (hm2 : qb.length <= 2000000) (h1 : l1 = ws.length) (h2 : l2 = bs.length) (s1 : SlI w a1 ws) (s2 : SlB w a2 bs) (hl1 : ws.length <= 2000000) (hl2 : bs.length <= 2000000) (hq : okR 15 pl nn wa qs m1 m2 = true) (ha : okA 15 0 ap an ws l1 l2 = true) :
 Calls Tryz.prog 118 #[rq 15 pl nn wa q1 q2 m1 m2 k1 k2, rp 15 0 ap an a1 a2 l1 l2 c1 c2] w fun e w' => e = .returned (.bool (anB 15 pl nn m1 m2 qs qb ap an l1 l2 ws bs)) /\ Below w.heap.size w w' := by
 obtain ⟨W0, hW0⟩ : ∃ W0, W0 = (w.alloc (.cells #[.int .i64 15, .int .i64 pl, .int .i64 nn, .slice q1 m1 k1, .slice q2 m2 k2, .int .i64 wa] 39)).alloc (.cells #[.int .i64 15, .int .i64 0, .int .i64 ap, .int .i64 an, .slice a1 l1 c1, .slice a2 l2 c2] 89) := ⟨_, rfl⟩
 have HW : Hid (W0 = _) := hW0
 have B0 : Below w.heap.size w W0 := by rw [hW0]; exact bel_next (bel_alloc w _) (bel_alloc _ _)
 have X0 : Blk W0 w.heap.size 39 #[.int .i64 15, .int .i64 pl, .int .i64 nn, .slice q1 m1 k1, .slice q2 m2 k2, .int .i64 wa] := by rw [hW0]; exact (Blk.new w _ _).below (bel_alloc _ _)
 have Y0 : Blk W0 (w.heap.size + 1) 89 #[.int .i64 15, .int .i64 0, .int .i64 ap, .int .i64 an, .slice a1 l1 c1, .slice a2 l2 c2] := by
  rw [hW0]; have := Blk.new (w.alloc (.cells #[.int .i64 15, .int .i64 pl, .int .i64 nn, .slice q1 m1 k1, .slice q2 m2 k2, .int .i64 wa] 39)) #[.int .i64 15, .int .i64 0, .int .i64 ap, .int .i64 an, .slice a1 l1 c1, .slice a2 l2 c2] 89; simpa using this
 have HL : Hid (m1 = qs.length /\ m2 = qb.length /\ l1 = ws.length /\ l2 = bs.length) := ⟨g1, g2, h1, h2⟩
 have HS : Hid (SlI W0 q1 qs /\ SlB W0 q2 qb /\ SlI W0 a1 ws /\ SlB W0 a2 bs) := ⟨t1.below B0, t2.below B0, s1.below B0, s2.below B0⟩
 obtain ⟨x0, x1, x2, x3, x4, x5⟩ := X0.six
 obtain ⟨y0, y1, y2, y3, y4, y5⟩ := Y0.six
 clear hW0 g1 g2 h1 h2 t1 t2 s1 s2
 clear hq ha
 by_cases hA : ap = pl
 ·by_cases he : an = (m2 : Int)
  ·have HE : Hid (anB 15 pl nn m1 m2 qs qb ap an l1 l2 ws bs = true) := by show _ = true; simp [anB, hA, he]
   have hei : (an == (m2 : Int)) = true := by simp [he]
   clear he
   have hA' := hA.symm
   clear hA
   subst hA'
   go_enter Tryz.func118, Tryz.ntmps118
   go_upto_region 1 with fail
   rw [<- HW.out]
   go_wp2
   go_ret
   exact ⟨by rw [HE.out]; first | rfl | simp [hei], B0⟩
  have HE : Hid (anB 15 pl nn m1 m2 qs qb ap an l1 l2 ws bs = false) := by show _ = false; simp [anB, hA, he]
  have hei : (an == (m2 : Int)) = false := by simp [he]
  clear he
  have hA' := hA.symm
  clear hA
  subst hA'
  go_enter Tryz.func118, Tryz.ntmps118
  go_upto_region 1 with fail
  rw [<- HW.out]
  go_wp2
  go_ret
  exact ⟨by rw [HE.out]; first | rfl | simp [hei], B0⟩
 have HE : Hid (anB 15 pl nn m1 m2 qs qb ap an l1 l2 ws bs = false) := by show _ = false; simp [anB, hA]
 have hAb : (ap == pl) = false := by simp [hA]
 go_enter Tryz.func118, Tryz.ntmps118
 go_upto_region 1 with fail
 rw [<- HW.out]
 go_wp2
 go_ret
 exact ⟨by rw [HE.out]; rfl, B0⟩
theorem answers_16 (pl nn wa : Int) (q1 q2 : Option Addr) (m1 m2 k1 k2 : Nat) (qs : List Int) (qb : List Bool) (ap an : Int) (a1 a2 : Option Addr) (l1 l2 c1 c2 : Nat) (ws : List Int) (bs : List Bool) (w : World) (g1 : m1 = qs.length) (g2 : m2 = qb.length) (t1 : SlI w q1 qs) (t2 : SlB w q2 qb) (hm1 : qs.length <= 2000000) (hm2 : qb.length <= 2000000) (h1 : l1 = ws.length) (h2 : l2 = bs.length) (s1 : SlI w a1 ws) (s2 : SlB w a2 bs) (hl1 : ws.length <= 2000000) (hl2 : bs.length <= 2000000) (hq : okR 16 pl nn wa qs m1 m2 = true) (ha : okA 16 0 ap an ws l1 l2 = true) :
 Calls Tryz.prog 118 #[rq 16 pl nn wa q1 q2 m1 m2 k1 k2, rp 16 0 ap an a1 a2 l1 l2 c1 c2] w fun e w' => e = .returned (.bool (anB 16 pl nn m1 m2 qs qb ap an l1 l2 ws bs)) /\ Below w.heap.size w w' := by
 obtain ⟨W0, hW0⟩ : ∃ W0, W0 = (w.alloc (.cells #[.int .i64 16, .int .i64 pl, .int .i64 nn, .slice q1 m1 k1, .slice q2 m2 k2, .int .i64 wa] 39)).alloc (.cells #[.int .i64 16, .int .i64 0, .int .i64 ap, .int .i64 an, .slice a1 l1 c1, .slice a2 l2 c2] 89) := ⟨_, rfl⟩
 have HW : Hid (W0 = _) := hW0
 have B0 : Below w.heap.size w W0 := by rw [hW0]; exact bel_next (bel_alloc w _) (bel_alloc _ _)
 have X0 : Blk W0 w.heap.size 39 #[.int .i64 16, .int .i64 pl, .int .i64 nn, .slice q1 m1 k1, .slice q2 m2 k2, .int .i64 wa] := by rw [hW0]; exact (Blk.new w _ _).below (bel_alloc _ _)
 have Y0 : Blk W0 (w.heap.size + 1) 89 #[.int .i64 16, .int .i64 0, .int .i64 ap, .int .i64 an, .slice a1 l1 c1, .slice a2 l2 c2] := by
  rw [hW0]; have := Blk.new (w.alloc (.cells #[.int .i64 16, .int .i64 pl, .int .i64 nn, .slice q1 m1 k1, .slice q2 m2 k2, .int .i64 wa] 39)) #[.int .i64 16, .int .i64 0, .int .i64 ap, .int .i64 an, .slice a1 l1 c1, .slice a2 l2 c2] 89; simpa using this
 have HL : Hid (m1 = qs.length /\ m2 = qb.length /\ l1 = ws.length /\ l2 = bs.length) := ⟨g1, g2, h1, h2⟩
 have HS : Hid (SlI W0 q1 qs /\ SlB W0 q2 qb /\ SlI W0 a1 ws /\ SlB W0 a2 bs) := ⟨t1.below B0, t2.below B0, s1.below B0, s2.below B0⟩
 obtain ⟨x0, x1, x2, x3, x4, x5⟩ := X0.six
 obtain ⟨y0, y1, y2, y3, y4, y5⟩ := Y0.six
 clear hW0 g1 g2 h1 h2 t1 t2 s1 s2
 clear hq ha
 by_cases hA : ap = pl
 ·by_cases he : an = (m1 : Int)
  ·have HE : Hid (anB 16 pl nn m1 m2 qs qb ap an l1 l2 ws bs = true) := by show _ = true; simp [anB, hA, he]
   have hei : (an == (m1 : Int)) = true := by simp [he]
   clear he
   have hA' := hA.symm
   clear hA
   subst hA'
   go_enter Tryz.func118, Tryz.ntmps118
   go_upto_region 1 with fail
   rw [<- HW.out]
   go_wp2
   go_ret
   exact ⟨by rw [HE.out]; first | rfl | simp [hei], B0⟩
  have HE : Hid (anB 16 pl nn m1 m2 qs qb ap an l1 l2 ws bs = false) := by show _ = false; simp [anB, hA, he]
  have hei : (an == (m1 : Int)) = false := by simp [he]
  clear he
  have hA' := hA.symm
  clear hA
  subst hA'
  go_enter Tryz.func118, Tryz.ntmps118
  go_upto_region 1 with fail
  rw [<- HW.out]
  go_wp2
  go_ret
  exact ⟨by rw [HE.out]; first | rfl | simp [hei], B0⟩
 have HE : Hid (anB 16 pl nn m1 m2 qs qb ap an l1 l2 ws bs = false) := by show _ = false; simp [anB, hA]
 have hAb : (ap == pl) = false := by simp [hA]
 go_enter Tryz.func118, Tryz.ntmps118
 go_upto_region 1 with fail
 rw [<- HW.out]
 go_wp2
 go_ret
 exact ⟨by rw [HE.out]; rfl, B0⟩
theorem answers_22 (pl nn wa : Int) (q1 q2 : Option Addr) (m1 m2 k1 k2 : Nat) (qs : List Int) (qb : List Bool) (ap an : Int) (a1 a2 : Option Addr) (l1 l2 c1 c2 : Nat) (ws : List Int) (bs : List Bool) (w : World) (g1 : m1 = qs.length) (g2 : m2 = qb.length) (t1 : SlI w q1 qs) (t2 : SlB w q2 qb) (hm1 : qs.length <= 2000000) (hm2 : qb.length <= 2000000) (h1 : l1 = ws.length) (h2 : l2 = bs.length) (s1 : SlI w a1 ws) (s2 : SlB w a2 bs) (hl1 : ws.length <= 2000000) (hl2 : bs.length <= 2000000) (hq : okR 22 pl nn wa qs m1 m2 = true) (ha : okA 22 0 ap an ws l1 l2 = true) :
 Calls Tryz.prog 118 #[rq 22 pl nn wa q1 q2 m1 m2 k1 k2, rp 22 0 ap an a1 a2 l1 l2 c1 c2] w fun e w' => e = .returned (.bool (anB 22 pl nn m1 m2 qs qb ap an l1 l2 ws bs)) /\ Below w.heap.size w w' := by
 obtain ⟨W0, hW0⟩ : ∃ W0, W0 = (w.alloc (.cells #[.int .i64 22, .int .i64 pl, .int .i64 nn, .slice q1 m1 k1, .slice q2 m2 k2, .int .i64 wa] 39)).alloc (.cells #[.int .i64 22, .int .i64 0, .int .i64 ap, .int .i64 an, .slice a1 l1 c1, .slice a2 l2 c2] 89) := ⟨_, rfl⟩
 have HW : Hid (W0 = _) := hW0
 have B0 : Below w.heap.size w W0 := by rw [hW0]; exact bel_next (bel_alloc w _) (bel_alloc _ _)
 have X0 : Blk W0 w.heap.size 39 #[.int .i64 22, .int .i64 pl, .int .i64 nn, .slice q1 m1 k1, .slice q2 m2 k2, .int .i64 wa] := by rw [hW0]; exact (Blk.new w _ _).below (bel_alloc _ _)
 have Y0 : Blk W0 (w.heap.size + 1) 89 #[.int .i64 22, .int .i64 0, .int .i64 ap, .int .i64 an, .slice a1 l1 c1, .slice a2 l2 c2] := by
  rw [hW0]; have := Blk.new (w.alloc (.cells #[.int .i64 22, .int .i64 pl, .int .i64 nn, .slice q1 m1 k1, .slice q2 m2 k2, .int .i64 wa] 39)) #[.int .i64 22, .int .i64 0, .int .i64 ap, .int .i64 an, .slice a1 l1 c1, .slice a2 l2 c2] 89; simpa using this
 have HL : Hid (m1 = qs.length /\ m2 = qb.length /\ l1 = ws.length /\ l2 = bs.length) := ⟨g1, g2, h1, h2⟩
 have HS : Hid (SlI W0 q1 qs /\ SlB W0 q2 qb /\ SlI W0 a1 ws /\ SlB W0 a2 bs) := ⟨t1.below B0, t2.below B0, s1.below B0, s2.below B0⟩
 obtain ⟨x0, x1, x2, x3, x4, x5⟩ := X0.six
 obtain ⟨y0, y1, y2, y3, y4, y5⟩ := Y0.six
 clear hW0 g1 g2 h1 h2 t1 t2 s1 s2
 have HO : Hid (bs = qb) := by
  have e1 : m2 = 0 := (by simp [okR, okK, zrB, inB, fitB] at hq; omega)
  have e2 : l2 = 0 := (by simp [okA, okAK, kindB, inB, zr4] at ha; omega)
  have := HL.out
  show bs = qb
  rw [List.eq_nil_of_length_eq_zero (show bs.length = 0 by omega), List.eq_nil_of_length_eq_zero (show qb.length = 0 by omega)]
 clear hq ha
 by_cases hA : ap = pl
 ·cases he : decide (ws = qs)
  ·have HE : Hid (anB 22 pl nn m1 m2 qs qb ap an l1 l2 ws bs = false) := by show _ = false; simp [anB, hA]; simpa using he
   have HQE : Hid (decide (ws = qs) = false) := he
   clear he
   have hA' := hA.symm
   clear hA
   subst hA'
   go_enter Tryz.func118, Tryz.ntmps118
   go_upto_region 1 with fail
   rw [<- HW.out]
   go_wp2_with fail
   refine (equal_bool_any _ _ _ _ _ _ bs qb _ HL.out.2.2.2 HL.out.2.1 HS.out.2.2.2 HS.out.2.1 hl2 hm2 true (decide_eq_true HO.out)).mono ?_
   rintro e w1 ⟨rfl, b'⟩
   have B1 := bel_next B0 b'
   have X1 := X0.below b'
   have Y1 := Y0.below b'
   have HS1 : Hid (SlI w1 q1 qs /\ SlB w1 q2 qb /\ SlI w1 a1 ws /\ SlB w1 a2 bs) := ⟨HS.out.1.below b', HS.out.2.1.below b', HS.out.2.2.1.below b', HS.out.2.2.2.below b'⟩
   clear b' B0 X0 Y0 x0 x1 x2 x3 x4 x5 y0 y1 y2 y3 y4 y5
   obtain ⟨x0, x1, x2, x3, x4, x5⟩ := X1.six
   obtain ⟨y0, y1, y2, y3, y4, y5⟩ := Y1.six
   go_wp2_with fail
   refine (equal_int_any _ _ _ _ _ _ ws qs _ HL.out.2.2.1 HL.out.1 HS1.out.2.2.1 HS1.out.1 hl1 hm1 false HQE.out).mono ?_
   rintro e w2 ⟨rfl, b'⟩
   have B2 := bel_next B1 b'
   clear b'
   go_wp2
   go_ret
   exact ⟨by rw [HE.out]; rfl, B2⟩
  have HE : Hid (anB 22 pl nn m1 m2 qs qb ap an l1 l2 ws bs = true) := by show _ = true; simp [anB, hA]; simpa using he
  have HQE : Hid (decide (ws = qs) = true) := he
  clear he
  have hA' := hA.symm
  clear hA
  subst hA'
  go_enter Tryz.func118, Tryz.ntmps118
  go_upto_region 1 with fail
  rw [<- HW.out]
  go_wp2_with fail
  refine (equal_bool_any _ _ _ _ _ _ bs qb _ HL.out.2.2.2 HL.out.2.1 HS.out.2.2.2 HS.out.2.1 hl2 hm2 true (decide_eq_true HO.out)).mono ?_
  rintro e w1 ⟨rfl, b'⟩
  have B1 := bel_next B0 b'
  have X1 := X0.below b'
  have Y1 := Y0.below b'
  have HS1 : Hid (SlI w1 q1 qs /\ SlB w1 q2 qb /\ SlI w1 a1 ws /\ SlB w1 a2 bs) := ⟨HS.out.1.below b', HS.out.2.1.below b', HS.out.2.2.1.below b', HS.out.2.2.2.below b'⟩
  clear b' B0 X0 Y0 x0 x1 x2 x3 x4 x5 y0 y1 y2 y3 y4 y5
  obtain ⟨x0, x1, x2, x3, x4, x5⟩ := X1.six
  obtain ⟨y0, y1, y2, y3, y4, y5⟩ := Y1.six
  go_wp2_with fail
  refine (equal_int_any _ _ _ _ _ _ ws qs _ HL.out.2.2.1 HL.out.1 HS1.out.2.2.1 HS1.out.1 hl1 hm1 true HQE.out).mono ?_
  rintro e w2 ⟨rfl, b'⟩
  have B2 := bel_next B1 b'
  clear b'
  go_wp2
  go_ret
  exact ⟨by rw [HE.out]; rfl, B2⟩
 have HE : Hid (anB 22 pl nn m1 m2 qs qb ap an l1 l2 ws bs = false) := by show _ = false; simp [anB, hA]
 have hAb : (ap == pl) = false := by simp [hA]
 go_enter Tryz.func118, Tryz.ntmps118
 go_upto_region 1 with fail
 rw [<- HW.out]
 go_wp2
 go_ret
 exact ⟨by rw [HE.out]; rfl, B0⟩
theorem answers_23 (pl nn wa : Int) (q1 q2 : Option Addr) (m1 m2 k1 k2 : Nat) (qs : List Int) (qb : List Bool) (ap an : Int) (a1 a2 : Option Addr) (l1 l2 c1 c2 : Nat) (ws : List Int) (bs : List Bool) (w : World) (g1 : m1 = qs.length) (g2 : m2 = qb.length) (t1 : SlI w q1 qs) (t2 : SlB w q2 qb) (hm1 : qs.length <= 2000000) (hm2 : qb.length <= 2000000) (h1 : l1 = ws.length) (h2 : l2 = bs.length) (s1 : SlI w a1 ws) (s2 : SlB w a2 bs) (hl1 : ws.length <= 2000000) (hl2 : bs.length <= 2000000) (hq : okR 23 pl nn wa qs m1 m2 = true) (ha : okA 23 0 ap an ws l1 l2 = true) :
 Calls Tryz.prog 118 #[rq 23 pl nn wa q1 q2 m1 m2 k1 k2, rp 23 0 ap an a1 a2 l1 l2 c1 c2] w fun e w' => e = .returned (.bool (anB 23 pl nn m1 m2 qs qb ap an l1 l2 ws bs)) /\ Below w.heap.size w w' := by
 obtain ⟨W0, hW0⟩ : ∃ W0, W0 = (w.alloc (.cells #[.int .i64 23, .int .i64 pl, .int .i64 nn, .slice q1 m1 k1, .slice q2 m2 k2, .int .i64 wa] 39)).alloc (.cells #[.int .i64 23, .int .i64 0, .int .i64 ap, .int .i64 an, .slice a1 l1 c1, .slice a2 l2 c2] 89) := ⟨_, rfl⟩
 have HW : Hid (W0 = _) := hW0
 have B0 : Below w.heap.size w W0 := by rw [hW0]; exact bel_next (bel_alloc w _) (bel_alloc _ _)
 have X0 : Blk W0 w.heap.size 39 #[.int .i64 23, .int .i64 pl, .int .i64 nn, .slice q1 m1 k1, .slice q2 m2 k2, .int .i64 wa] := by rw [hW0]; exact (Blk.new w _ _).below (bel_alloc _ _)
 have Y0 : Blk W0 (w.heap.size + 1) 89 #[.int .i64 23, .int .i64 0, .int .i64 ap, .int .i64 an, .slice a1 l1 c1, .slice a2 l2 c2] := by
  rw [hW0]; have := Blk.new (w.alloc (.cells #[.int .i64 23, .int .i64 pl, .int .i64 nn, .slice q1 m1 k1, .slice q2 m2 k2, .int .i64 wa] 39)) #[.int .i64 23, .int .i64 0, .int .i64 ap, .int .i64 an, .slice a1 l1 c1, .slice a2 l2 c2] 89; simpa using this
 have HL : Hid (m1 = qs.length /\ m2 = qb.length /\ l1 = ws.length /\ l2 = bs.length) := ⟨g1, g2, h1, h2⟩
 have HS : Hid (SlI W0 q1 qs /\ SlB W0 q2 qb /\ SlI W0 a1 ws /\ SlB W0 a2 bs) := ⟨t1.below B0, t2.below B0, s1.below B0, s2.below B0⟩
 obtain ⟨x0, x1, x2, x3, x4, x5⟩ := X0.six
 obtain ⟨y0, y1, y2, y3, y4, y5⟩ := Y0.six
 clear hW0 g1 g2 h1 h2 t1 t2 s1 s2
 clear hq ha
 by_cases he : (l1 : Int) = nn
 ·have hei : ((l1 : Int) == nn) = true := by simp [he]
  have HE : Hid (anB 23 pl nn m1 m2 qs qb ap an l1 l2 ws bs = true) := by show _ = true; simp [anB, he]
  clear he
  go_enter Tryz.func118, Tryz.ntmps118
  go_upto_region 1 with fail
  rw [<- HW.out]
  go_wp2
  go_ret
  exact ⟨by rw [HE.out]; first | rfl | simp [hei], B0⟩
 have hei : ((l1 : Int) == nn) = false := by simp [he]
 have HE : Hid (anB 23 pl nn m1 m2 qs qb ap an l1 l2 ws bs = false) := by show _ = false; simp [anB, he]
 clear he
 go_enter Tryz.func118, Tryz.ntmps118
 go_upto_region 1 with fail
 rw [<- HW.out]
 go_wp2
 go_ret
 exact ⟨by rw [HE.out]; first | rfl | simp [hei], B0⟩
theorem answers_q (kd : Int) (pl nn wa : Int) (q1 q2 : Option Addr) (m1 m2 k1 k2 : Nat) (qs : List Int) (qb : List Bool) (ap an : Int) (a1 a2 : Option Addr) (l1 l2 c1 c2 : Nat) (ws : List Int) (bs : List Bool) (w : World) (g1 : m1 = qs.length) (g2 : m2 = qb.length) (t1 : SlI w q1 qs) (t2 : SlB w q2 qb) (hm1 : qs.length <= 2000000) (hm2 : qb.length <= 2000000) (h1 : l1 = ws.length) (h2 : l2 = bs.length) (s1 : SlI w a1 ws) (s2 : SlB w a2 bs) (hl1 : ws.length <= 2000000) (hl2 : bs.length <= 2000000) (hcap : l2 <= c2) (hq : okR kd pl nn wa qs m1 m2 = true) (ha : okA kd 0 ap an ws l1 l2 = true) :
 Calls Tryz.prog 118 #[rq kd pl nn wa q1 q2 m1 m2 k1 k2, rp kd 0 ap an a1 a2 l1 l2 c1 c2] w fun e w' => e = .returned (.bool (anB kd pl nn m1 m2 qs qb ap an l1 l2 ws bs)) /\ Below w.heap.size w w' := by
 obtain rfl | rfl | rfl | rfl | rfl | rfl | rfl | rfl | rfl | rfl := okR_kind hq
 ·exact answers_1 pl nn wa q1 q2 m1 m2 k1 k2 qs qb ap an a1 a2 l1 l2 c1 c2 ws bs w g1 g2 t1 t2 hm1 hm2 h1 h2 s1 s2 hl1 hl2 hcap hq ha
 ·exact answers_2 pl nn wa q1 q2 m1 m2 k1 k2 qs qb ap an a1 a2 l1 l2 c1 c2 ws bs w g1 g2 t1 t2 hm1 hm2 h1 h2 s1 s2 hl1 hl2 hcap hq ha
 ·exact answers_3 pl nn wa q1 q2 m1 m2 k1 k2 qs qb ap an a1 a2 l1 l2 c1 c2 ws bs w g1 g2 t1 t2 hm1 hm2 h1 h2 s1 s2 hl1 hl2 hq ha
 ·exact answers_4 pl nn wa q1 q2 m1 m2 k1 k2 qs qb ap an a1 a2 l1 l2 c1 c2 ws bs w g1 g2 t1 t2 hm1 hm2 h1 h2 s1 s2 hl1 hl2 hq ha
 ·exact answers_5 pl nn wa q1 q2 m1 m2 k1 k2 qs qb ap an a1 a2 l1 l2 c1 c2 ws bs w g1 g2 t1 t2 hm1 hm2 h1 h2 s1 s2 hl1 hl2 hq ha
 ·exact answers_6 pl nn wa q1 q2 m1 m2 k1 k2 qs qb ap an a1 a2 l1 l2 c1 c2 ws bs w g1 g2 t1 t2 hm1 hm2 h1 h2 s1 s2 hl1 hl2 hq ha
 ·exact answers_15 pl nn wa q1 q2 m1 m2 k1 k2 qs qb ap an a1 a2 l1 l2 c1 c2 ws bs w g1 g2 t1 t2 hm1 hm2 h1 h2 s1 s2 hl1 hl2 hq ha
 ·exact answers_16 pl nn wa q1 q2 m1 m2 k1 k2 qs qb ap an a1 a2 l1 l2 c1 c2 ws bs w g1 g2 t1 t2 hm1 hm2 h1 h2 s1 s2 hl1 hl2 hq ha
 ·exact answers_22 pl nn wa q1 q2 m1 m2 k1 k2 qs qb ap an a1 a2 l1 l2 c1 c2 ws bs w g1 g2 t1 t2 hm1 hm2 h1 h2 s1 s2 hl1 hl2 hq ha
 exact answers_23 pl nn wa q1 q2 m1 m2 k1 k2 qs qb ap an a1 a2 l1 l2 c1 c2 ws bs w g1 g2 t1 t2 hm1 hm2 h1 h2 s1 s2 hl1 hl2 hq ha
theorem implSuits_q (kd kd' fl : Int) (pl nn wa : Int) (q1 q2 : Option Addr) (m1 m2 k1 k2 : Nat) (qs : List Int) (qb : List Bool) (ap an : Int) (a1 a2 : Option Addr) (l1 l2 c1 c2 : Nat) (ws : List Int) (bs : List Bool) (w : World) (g1 : m1 = qs.length) (g2 : m2 = qb.length) (t1 : SlI w q1 qs) (t2 : SlB w q2 qb) (hm1 : qs.length <= 2000000) (hm2 : qb.length <= 2000000) (h1 : l1 = ws.length) (h2 : l2 = bs.length) (s1 : SlI w a1 ws) (s2 : SlB w a2 bs) (hl1 : ws.length <= 2000000) (hl2 : bs.length <= 2000000) (hcap : l2 <= c2) :
 Calls Tryz.prog 97 #[rq kd pl nn wa q1 q2 m1 m2 k1 k2, rp kd' fl ap an a1 a2 l1 l2 c1 c2] w fun e w' => e = .returned (.bool (suB kd pl nn wa m1 m2 qs qb kd' fl ap an l1 l2 ws bs)) /\ Below w.heap.size w w' := by
 obtain ⟨W0, hW0⟩ : ∃ W0, W0 = (w.alloc (.cells #[.int .i64 kd, .int .i64 pl, .int .i64 nn, .slice q1 m1 k1, .slice q2 m2 k2, .int .i64 wa] 39)).alloc (.cells #[.int .i64 kd', .int .i64 fl, .int .i64 ap, .int .i64 an, .slice a1 l1 c1, .slice a2 l2 c2] 89) := ⟨_, rfl⟩
 have HW : Hid (W0 = _) := hW0
 have B0 : Below w.heap.size w W0 := by rw [hW0]; exact bel_next (bel_alloc w _) (bel_alloc _ _)
 have X0 : Blk W0 w.heap.size 39 #[.int .i64 kd, .int .i64 pl, .int .i64 nn, .slice q1 m1 k1, .slice q2 m2 k2, .int .i64 wa] := by rw [hW0]; exact (Blk.new w _ _).below (bel_alloc _ _)
 have Y0 : Blk W0 (w.heap.size + 1) 89 #[.int .i64 kd', .int .i64 fl, .int .i64 ap, .int .i64 an, .slice a1 l1 c1, .slice a2 l2 c2] := by
  rw [hW0]; have := Blk.new (w.alloc (.cells #[.int .i64 kd, .int .i64 pl, .int .i64 nn, .slice q1 m1 k1, .slice q2 m2 k2, .int .i64 wa] 39)) #[.int .i64 kd', .int .i64 fl, .int .i64 ap, .int .i64 an, .slice a1 l1 c1, .slice a2 l2 c2] 89; simpa using this
 have HL : Hid (m1 = qs.length /\ m2 = qb.length /\ l1 = ws.length /\ l2 = bs.length) := ⟨g1, g2, h1, h2⟩
 have HS : Hid (SlI W0 q1 qs /\ SlB W0 q2 qb /\ SlI W0 a1 ws /\ SlB W0 a2 bs) := ⟨t1.below B0, t2.below B0, s1.below B0, s2.below B0⟩
 obtain ⟨x0, x1, x2, x3, x4, x5⟩ := X0.six
 obtain ⟨y0, y1, y2, y3, y4, y5⟩ := Y0.six
 clear hW0 g1 g2 h1 h2 t1 t2 s1 s2
 cases hq : okR kd pl nn wa qs m1 m2
 ·have HE : Hid (suB kd pl nn wa m1 m2 qs qb kd' fl ap an l1 l2 ws bs = false) := by show _ = false; simp [suB, hq]
  have HQ : Hid (okR kd pl nn wa qs m1 m2 = false) := hq
  clear hq
  go_enter Tryz.func97, Tryz.ntmps97
  go_upto_region 1 with fail
  rw [<- HW.out]
  go_wp2_with fail
  refine (implReqOk_q kd pl nn wa q1 q2 m1 m2 k1 k2 qs qb _ HL.out.1 HL.out.2.1 HS.out.1 HS.out.2.1 hm1 hm2).mono ?_
  rintro e w1 ⟨he, b'⟩
  rw [HQ.out] at he
  subst he
  have B1 := bel_next B0 b'
  go_wp2
  go_ret
  exact ⟨by rw [HE.out]; rfl, B1⟩
 have HQ : Hid (okR kd pl nn wa qs m1 m2 = true) := hq
 cases ha : okA kd' fl ap an ws l1 l2
 ·have HE : Hid (suB kd pl nn wa m1 m2 qs qb kd' fl ap an l1 l2 ws bs = false) := by show _ = false; simp [suB, ha]
  have HA : Hid (okA kd' fl ap an ws l1 l2 = false) := ha
  clear hq ha
  go_enter Tryz.func97, Tryz.ntmps97
  go_upto_region 1 with fail
  rw [<- HW.out]
  go_wp2_with fail
  refine (implReqOk_q kd pl nn wa q1 q2 m1 m2 k1 k2 qs qb _ HL.out.1 HL.out.2.1 HS.out.1 HS.out.2.1 hm1 hm2).mono ?_
  rintro e w1 ⟨he, b'⟩
  rw [HQ.out] at he
  subst he
  have B1 := bel_next B0 b'
  have X1 := X0.below b'
  have Y1 := Y0.below b'
  have HS1 : Hid (SlI w1 q1 qs /\ SlB w1 q2 qb /\ SlI w1 a1 ws /\ SlB w1 a2 bs) := ⟨HS.out.1.below b', HS.out.2.1.below b', HS.out.2.2.1.below b', HS.out.2.2.2.below b'⟩
  clear b' B0 X0 Y0 x0 x1 x2 x3 x4 x5 y0 y1 y2 y3 y4 y5
  obtain ⟨x0, x1, x2, x3, x4, x5⟩ := X1.six
  obtain ⟨y0, y1, y2, y3, y4, y5⟩ := Y1.six
  go_wp2_with fail
  refine (implRespOk_q kd' fl ap an a1 a2 l1 l2 c1 c2 ws bs _ HL.out.2.2.1 HL.out.2.2.2 HS1.out.2.2.1 HS1.out.2.2.2 hl1 hl2).mono ?_
  rintro e w2 ⟨he, b'⟩
  rw [HA.out] at he
  subst he
  have B2 := bel_next B1 b'
  have X2 := X1.below b'
  have Y2 := Y1.below b'
  have HS2 : Hid (SlI w2 q1 qs /\ SlB w2 q2 qb /\ SlI w2 a1 ws /\ SlB w2 a2 bs) := ⟨HS1.out.1.below b', HS1.out.2.1.below b', HS1.out.2.2.1.below b', HS1.out.2.2.2.below b'⟩
  clear b' B1 X1 Y1 x0 x1 x2 x3 x4 x5 y0 y1 y2 y3 y4 y5
  obtain ⟨x0, x1, x2, x3, x4, x5⟩ := X2.six
  obtain ⟨y0, y1, y2, y3, y4, y5⟩ := Y2.six
  go_wp2
  go_ret
  exact ⟨by rw [HE.out]; rfl, B2⟩
 have HA : Hid (okA kd' fl ap an ws l1 l2 = true) := ha
 by_cases hk : kd = kd'
 ·subst hk
  by_cases h0 : fl = 0
  ·subst h0
   have HE : suB kd pl nn wa m1 m2 qs qb kd 0 ap an l1 l2 ws bs = anB kd pl nn m1 m2 qs qb ap an l1 l2 ws bs := by simp [suB, hq, ha]
   rw [HE]
   have g1 := HL.out.1
   have g2 := HL.out.2.1
   have h1 := HL.out.2.2.1
   have h2 := HL.out.2.2.2
   have HQ0 : Hid (okR kd pl nn wa qs m1 m2 = true) := hq
   clear hq ha g1 g2 h1 h2
   go_enter Tryz.func97, Tryz.ntmps97
   go_upto_region 1 with fail
   rw [<- HW.out]
   go_wp2_with fail
   refine (implReqOk_q kd pl nn wa q1 q2 m1 m2 k1 k2 qs qb _ HL.out.1 HL.out.2.1 HS.out.1 HS.out.2.1 hm1 hm2).mono ?_
   rintro e w1 ⟨he, b'⟩
   rw [HQ.out] at he
   subst he
   have B1 := bel_next B0 b'
   have X1 := X0.below b'
   have Y1 := Y0.below b'
   have HS1 : Hid (SlI w1 q1 qs /\ SlB w1 q2 qb /\ SlI w1 a1 ws /\ SlB w1 a2 bs) := ⟨HS.out.1.below b', HS.out.2.1.below b', HS.out.2.2.1.below b', HS.out.2.2.2.below b'⟩
   clear b' B0 X0 Y0 x0 x1 x2 x3 x4 x5 y0 y1 y2 y3 y4 y5
   obtain ⟨x0, x1, x2, x3, x4, x5⟩ := X1.six
   obtain ⟨y0, y1, y2, y3, y4, y5⟩ := Y1.six
   go_wp2_with fail
   refine (implRespOk_q kd 0 ap an a1 a2 l1 l2 c1 c2 ws bs _ HL.out.2.2.1 HL.out.2.2.2 HS1.out.2.2.1 HS1.out.2.2.2 hl1 hl2).mono ?_
   rintro e w2 ⟨he, b'⟩
   rw [HA.out] at he
   subst he
   have B2 := bel_next B1 b'
   have X2 := X1.below b'
   have Y2 := Y1.below b'
   have HS2 : Hid (SlI w2 q1 qs /\ SlB w2 q2 qb /\ SlI w2 a1 ws /\ SlB w2 a2 bs) := ⟨HS1.out.1.below b', HS1.out.2.1.below b', HS1.out.2.2.1.below b', HS1.out.2.2.2.below b'⟩
   clear b' B1 X1 Y1 x0 x1 x2 x3 x4 x5 y0 y1 y2 y3 y4 y5
   obtain ⟨x0, x1, x2, x3, x4, x5⟩ := X2.six
   obtain ⟨y0, y1, y2, y3, y4, y5⟩ := Y2.six
   go_wp2_with fail
   refine (answers_q kd pl nn wa q1 q2 m1 m2 k1 k2 qs qb ap an a1 a2 l1 l2 c1 c2 ws bs _ HL.out.1 HL.out.2.1 HS2.out.1 HS2.out.2.1 hm1 hm2 HL.out.2.2.1 HL.out.2.2.2 HS2.out.2.2.1 HS2.out.2.2.2 hl1 hl2 hcap HQ.out HA.out).mono ?_
   rintro e w3 ⟨rfl, b'⟩
   have B3 := bel_next B2 b'
   clear b'
   go_wp2
   go_ret
   exact ⟨rfl, B3⟩
  have HE : Hid (suB kd pl nn wa m1 m2 qs qb kd fl ap an l1 l2 ws bs = true) := by show _ = true; simp [suB, hq, ha, h0]
  have hp : ¬ fl = 0 := h0
  clear hq ha
  go_enter Tryz.func97, Tryz.ntmps97
  go_upto_region 1 with fail
  rw [<- HW.out]
  go_wp2_with fail
  refine (implReqOk_q kd pl nn wa q1 q2 m1 m2 k1 k2 qs qb _ HL.out.1 HL.out.2.1 HS.out.1 HS.out.2.1 hm1 hm2).mono ?_
  rintro e w1 ⟨he, b'⟩
  rw [HQ.out] at he
  subst he
  have B1 := bel_next B0 b'
  have X1 := X0.below b'
  have Y1 := Y0.below b'
  have HS1 : Hid (SlI w1 q1 qs /\ SlB w1 q2 qb /\ SlI w1 a1 ws /\ SlB w1 a2 bs) := ⟨HS.out.1.below b', HS.out.2.1.below b', HS.out.2.2.1.below b', HS.out.2.2.2.below b'⟩
  clear b' B0 X0 Y0 x0 x1 x2 x3 x4 x5 y0 y1 y2 y3 y4 y5
  obtain ⟨x0, x1, x2, x3, x4, x5⟩ := X1.six
  obtain ⟨y0, y1, y2, y3, y4, y5⟩ := Y1.six
  go_wp2_with fail
  refine (implRespOk_q kd fl ap an a1 a2 l1 l2 c1 c2 ws bs _ HL.out.2.2.1 HL.out.2.2.2 HS1.out.2.2.1 HS1.out.2.2.2 hl1 hl2).mono ?_
  rintro e w2 ⟨he, b'⟩
  rw [HA.out] at he
  subst he
  have B2 := bel_next B1 b'
  have X2 := X1.below b'
  have Y2 := Y1.below b'
  have HS2 : Hid (SlI w2 q1 qs /\ SlB w2 q2 qb /\ SlI w2 a1 ws /\ SlB w2 a2 bs) := ⟨HS1.out.1.below b', HS1.out.2.1.below b', HS1.out.2.2.1.below b', HS1.out.2.2.2.below b'⟩
  clear b' B1 X1 Y1 x0 x1 x2 x3 x4 x5 y0 y1 y2 y3 y4 y5
  obtain ⟨x0, x1, x2, x3, x4, x5⟩ := X2.six
  obtain ⟨y0, y1, y2, y3, y4, y5⟩ := Y2.six
  go_wp2
  go_ret
  exact ⟨by rw [HE.out]; rfl, B2⟩
 have HE : Hid (suB kd pl nn wa m1 m2 qs qb kd' fl ap an l1 l2 ws bs = false) := by show _ = false; simp [suB, hk]
 have hkb : (kd == kd') = false := by simp [hk]
 clear hq ha
 go_enter Tryz.func97, Tryz.ntmps97
 go_upto_region 1 with fail
 rw [<- HW.out]
 go_wp2_with fail
 refine (implReqOk_q kd pl nn wa q1 q2 m1 m2 k1 k2 qs qb _ HL.out.1 HL.out.2.1 HS.out.1 HS.out.2.1 hm1 hm2).mono ?_
 rintro e w1 ⟨he, b'⟩
 rw [HQ.out] at he
 subst he
 have B1 := bel_next B0 b'
 have X1 := X0.below b'
 have Y1 := Y0.below b'
 have HS1 : Hid (SlI w1 q1 qs /\ SlB w1 q2 qb /\ SlI w1 a1 ws /\ SlB w1 a2 bs) := ⟨HS.out.1.below b', HS.out.2.1.below b', HS.out.2.2.1.below b', HS.out.2.2.2.below b'⟩
 clear b' B0 X0 Y0 x0 x1 x2 x3 x4 x5 y0 y1 y2 y3 y4 y5
 obtain ⟨x0, x1, x2, x3, x4, x5⟩ := X1.six
 obtain ⟨y0, y1, y2, y3, y4, y5⟩ := Y1.six
 go_wp2_with fail
 refine (implRespOk_q kd' fl ap an a1 a2 l1 l2 c1 c2 ws bs _ HL.out.2.2.1 HL.out.2.2.2 HS1.out.2.2.1 HS1.out.2.2.2 hl1 hl2).mono ?_
 rintro e w2 ⟨he, b'⟩
 rw [HA.out] at he
 subst he
 have B2 := bel_next B1 b'
 have X2 := X1.below b'
 have Y2 := Y1.below b'
 have HS2 : Hid (SlI w2 q1 qs /\ SlB w2 q2 qb /\ SlI w2 a1 ws /\ SlB w2 a2 bs) := ⟨HS1.out.1.below b', HS1.out.2.1.below b', HS1.out.2.2.1.below b', HS1.out.2.2.2.below b'⟩
 clear b' B1 X1 Y1 x0 x1 x2 x3 x4 x5 y0 y1 y2 y3 y4 y5
 obtain ⟨x0, x1, x2, x3, x4, x5⟩ := X2.six
 obtain ⟨y0, y1, y2, y3, y4, y5⟩ := Y2.six
 go_wp2
 go_ret
 exact ⟨by rw [HE.out]; rfl, B2⟩
end Go.Proofs.YtlhjiiifmfgnoaaGreat

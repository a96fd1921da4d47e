/- Texts that the proof needs, joined: F1 Jn7 Jn9. -/
import Derived.Test.YtegckbfbmbiogaaV9
import Derived.Test.YtegckbfbmbiogaaV12
import Derived.Test.YtegckbfbmbiogaaV20
import Derived.Test.YtegckbfbmbiogaaV19
import Derived.Deep.RegionLaw
namespace Go.Proofs.Ytegckbfbmbiogaa
open Go.RowKit
set_option linter.unusedVariables false
set_option linter.unusedSimpArgs false
abbrev foV (b : Bool) (kd x : Int) : Value := rp (bif b then kd else 0) (bif b then x else 0) 0 0 none none 0 0 0 0
set_option maxRecDepth 20000 in
set_option maxHeartbeats 4000000 in
theorem specFaultOf_q (kd pl nn wa : Int) (a1 a2 : Option Addr) (l1 l2 c1 c2 : Nat) (ws : List Int) (bs : List Bool) (x : Int) (w : World) (h1 : l1 = ws.length) (h2 : l2 = bs.length) (s1 : SlI w a1 ws) (s2 : SlB w a2 bs) (hl1 : ws.length ≤ 2000000) (hl2 : bs.length ≤ 2000000) :
    Calls Try.prog 58 #[rq kd pl nn wa a1 a2 l1 l2 c1 c2, .int .i64 x] w fun e w' => e = .returned (foV (okR kd pl nn wa ws l1 l2 && inB x 1 255) kd x) ∧ Below w.heap.size w w' := by
  obtain ⟨W0, hW0⟩ : ∃ W0, W0 = (w.alloc (.cells #[.int .i64 kd, .int .i64 pl, .int .i64 nn, .slice a1 l1 c1, .slice a2 l2 c2, .int .i64 wa] 28)).alloc (.cells #[.int .i64 0, .int .i64 0, .int .i64 0, .int .i64 0, .slice none 0 0, .slice none 0 0] 49) := ⟨_, rfl⟩
  have HW : Hid (W0 = _) := hW0
  have B0 : Below w.heap.size w W0 := by rw [hW0]; exact bel_next (bel_alloc w _) (bel_alloc _ _)
  have X0 : Blk W0 w.heap.size 28 #[.int .i64 kd, .int .i64 pl, .int .i64 nn, .slice a1 l1 c1, .slice a2 l2 c2, .int .i64 wa] := by rw [hW0]; exact (Blk.new w _ _).below (bel_alloc _ _)
  have R0 : Blk W0 (w.heap.size + 1) 49 #[.int .i64 0, .int .i64 0, .int .i64 0, .int .i64 0, .slice none 0 0, .slice none 0 0] := by
    rw [hW0]; have := Blk.new (w.alloc (.cells #[.int .i64 kd, .int .i64 pl, .int .i64 nn, .slice a1 l1 c1, .slice a2 l2 c2, .int .i64 wa] 28)) #[.int .i64 0, .int .i64 0, .int .i64 0, .int .i64 0, .slice none 0 0, .slice none 0 0] 49; simpa using this
  have HS : Hid (SlI W0 a1 ws ∧ SlB W0 a2 bs) := ⟨s1.below B0, s2.below B0⟩
  have HL : Hid (l1 = ws.length ∧ l2 = bs.length) := ⟨h1, h2⟩
  obtain ⟨x0, x1, x2, x3, x4, x5⟩ := X0.six
  clear hW0 h1 h2 s1 s2
  go_enter Try.func58, Try.ntmps58
  go_upto_region 1 with fail
  rw [← HW.out]
  go_wp2_with fail
  refine (specReqOk_q kd pl nn wa a1 a2 l1 l2 c1 c2 ws bs _ HL.out.1 HL.out.2 HS.out.1 HS.out.2 hl1 hl2).mono ?_
  rintro e w1 ⟨rfl, b'⟩
  have B1 := bel_next B0 b'
  have R1 := R0.below b'
  obtain ⟨z0, z1, z2, z3, z4, z5⟩ := (X0.below b').six
  obtain ⟨y0, y1, y2, y3, y4, y5⟩ := R1.six
  have fy := R1.fro
  clear b' B0 X0 R0 x0 x1 x2 x3 x4 x5 R1
  cases hok : okR kd pl nn wa ws l1 l2
  · skip
    go_wp2
    refine bodyPost_ret (v := foV false kd x) (by simp [results, Try.results58, go_sem, y0, y1, y2, y3, y4, y5]) rfl ?_
    exact ⟨by rw [hok]; rfl, belp_set6 B1 (Nat.le_succ _)⟩
  · cases hx : inB x 1 255
    · skip
      go_wp2_with (go_at_call 63; refine (l1In_any _ _ _ _ _ hx).mono ?_; rintro e wx ⟨rfl, rfl⟩)
      refine bodyPost_ret (v := foV false kd x) (by simp [results, Try.results58, go_sem, y0, y1, y2, y3, y4, y5]) rfl ?_
      exact ⟨by rw [hok, hx]; rfl, belp_set6 B1 (Nat.le_succ _)⟩
    · skip
      go_wp2_with (go_at_call 63; refine (l1In_any _ _ _ _ _ hx).mono ?_; rintro e wx ⟨rfl, rfl⟩)
      refine bodyPost_ret (v := foV true kd x) (by simp [results, Try.results58, go_sem, y0, y1, y2, y3, y4, y5]) rfl ?_
      exact ⟨by rw [hok, hx]; rfl, belp_set6 B1 (Nat.le_succ _)⟩
set_option maxRecDepth 20000 in
set_option maxHeartbeats 4000000 in
theorem implFaultOf_q (kd pl nn wa : Int) (a1 a2 : Option Addr) (l1 l2 c1 c2 : Nat) (ws : List Int) (bs : List Bool) (x : Int) (w : World) (h1 : l1 = ws.length) (h2 : l2 = bs.length) (s1 : SlI w a1 ws) (s2 : SlB w a2 bs) (hl1 : ws.length ≤ 2000000) (hl2 : bs.length ≤ 2000000) :
    Calls Try.prog 55 #[rq kd pl nn wa a1 a2 l1 l2 c1 c2, .int .i64 x] w fun e w' => e = .returned (foV (okR kd pl nn wa ws l1 l2 && inB x 1 255) kd x) ∧ Below w.heap.size w w' := by
  obtain ⟨W0, hW0⟩ : ∃ W0, W0 = (w.alloc (.cells #[.int .i64 kd, .int .i64 pl, .int .i64 nn, .slice a1 l1 c1, .slice a2 l2 c2, .int .i64 wa] 28)).alloc (.cells #[.int .i64 0, .int .i64 0, .int .i64 0, .int .i64 0, .slice none 0 0, .slice none 0 0] 49) := ⟨_, rfl⟩
  have HW : Hid (W0 = _) := hW0
  have B0 : Below w.heap.size w W0 := by rw [hW0]; exact bel_next (bel_alloc w _) (bel_alloc _ _)
  have X0 : Blk W0 w.heap.size 28 #[.int .i64 kd, .int .i64 pl, .int .i64 nn, .slice a1 l1 c1, .slice a2 l2 c2, .int .i64 wa] := by rw [hW0]; exact (Blk.new w _ _).below (bel_alloc _ _)
  have R0 : Blk W0 (w.heap.size + 1) 49 #[.int .i64 0, .int .i64 0, .int .i64 0, .int .i64 0, .slice none 0 0, .slice none 0 0] := by
    rw [hW0]; have := Blk.new (w.alloc (.cells #[.int .i64 kd, .int .i64 pl, .int .i64 nn, .slice a1 l1 c1, .slice a2 l2 c2, .int .i64 wa] 28)) #[.int .i64 0, .int .i64 0, .int .i64 0, .int .i64 0, .slice none 0 0, .slice none 0 0] 49; simpa using this
  have HS : Hid (SlI W0 a1 ws ∧ SlB W0 a2 bs) := ⟨s1.below B0, s2.below B0⟩
  have HL : Hid (l1 = ws.length ∧ l2 = bs.length) := ⟨h1, h2⟩
  obtain ⟨x0, x1, x2, x3, x4, x5⟩ := X0.six
  clear hW0 h1 h2 s1 s2
  go_enter Try.func55, Try.ntmps55
  go_upto_region 1 with fail
  rw [← HW.out]
  go_wp2_with fail
  refine (implReqOk_q kd pl nn wa a1 a2 l1 l2 c1 c2 ws bs _ HL.out.1 HL.out.2 HS.out.1 HS.out.2 hl1 hl2).mono ?_
  rintro e w1 ⟨rfl, b'⟩
  have B1 := bel_next B0 b'
  have R1 := R0.below b'
  obtain ⟨z0, z1, z2, z3, z4, z5⟩ := (X0.below b').six
  obtain ⟨y0, y1, y2, y3, y4, y5⟩ := R1.six
  have fy := R1.fro
  clear b' B0 X0 R0 x0 x1 x2 x3 x4 x5 R1
  cases hok : okR kd pl nn wa ws l1 l2
  · skip
    go_wp2
    refine bodyPost_ret (v := foV false kd x) (by simp [results, Try.results55, go_sem, y0, y1, y2, y3, y4, y5]) rfl ?_
    exact ⟨by rw [hok]; rfl, belp_set6 B1 (Nat.le_succ _)⟩
  · cases hx : inB x 1 255
    · skip
      go_wp2_with (go_at_call 103; refine (isFault_any _ _ _ hx).mono ?_; rintro e wx ⟨rfl, rfl⟩)
      refine bodyPost_ret (v := foV false kd x) (by simp [results, Try.results55, go_sem, y0, y1, y2, y3, y4, y5]) rfl ?_
      exact ⟨by rw [hok, hx]; rfl, belp_set6 B1 (Nat.le_succ _)⟩
    · skip
      go_wp2_with (go_at_call 103; refine (isFault_any _ _ _ hx).mono ?_; rintro e wx ⟨rfl, rfl⟩)
      refine bodyPost_ret (v := foV true kd x) (by simp [results, Try.results55, go_sem, y0, y1, y2, y3, y4, y5]) rfl ?_
      exact ⟨by rw [hok, hx]; rfl, belp_set6 B1 (Nat.le_succ _)⟩
end Go.Proofs.Ytegckbfbmbiogaa
namespace Go.Proofs.Ytegckbfbmbiogaa
open Go.RowKit Go.Joins
set_option linter.unusedVariables false
set_option linter.unusedSimpArgs false
def foA (b : Bool) (kd x : Int) : An := bif b then ⟨kd, x, 0, 0, [], []⟩ else ⟨0, 0, 0, 0, [], []⟩
theorem foV_foA (b : Bool) (kd x : Int) : foV b kd x = .agg #[.int .i64 (foA b kd x).kd, .int .i64 (foA b kd x).fl, .int .i64 0, .int .i64 0, .slice none 0 0, .slice none 0 0] := by
  cases b <;> rfl
theorem foA_rest (b : Bool) (kd x : Int) : (foA b kd x).pl = 0 ∧ (foA b kd x).nn = 0 ∧ (foA b kd x).ws = [] ∧ (foA b kd x).bs = [] := by
  cases b <;> exact ⟨rfl, rfl, rfl, rfl⟩
theorem own_capJ {w : World} {base s n m c : Nat} {e : TypeId} {a : Option Addr} {xs : List Value} (h : w.ownsRow base e s (.slice a m c) n xs) : m ≤ c := by
  rcases h.2 with ⟨e, h0⟩ | ⟨g', c', cur, e, _, _, hle, _⟩
  · simp only [Value.slice.injEq] at e; omega
  · simp only [Value.slice.injEq] at e; omega
def waA (kd pl : Int) (ws : List Int) (bs : List Bool) (Ps : List Pa) (A : Nat → An) (n : Nat) : An :=
  if kd = 1 ∨ kd = 2 then ⟨kd, 0, 0, 0, [], jB Ps A n ++ List.replicate (8 * (((jB Ps A n).length + 7) / 8) - (jB Ps A n).length) false⟩
  else if kd = 3 ∨ kd = 4 ∨ kd = 23 then ⟨kd, 0, 0, 0, jW A n, []⟩
  else if kd = 15 then ⟨kd, 0, pl, (bs.length : Int), [], []⟩
  else if kd = 16 then ⟨kd, 0, pl, (ws.length : Int), [], []⟩
  else ⟨kd, 0, pl, 0, ws, bs⟩
theorem whole_any (kd pl nn wa : Int) (q1 q2 : Option Addr) (m1 m2 k1 k2 : Nat) (ws : List Int) (bs : List Bool) (a : Option Addr) (n cap base : Nat) (Ps : List Pa) (at' : Option Addr) (cap' : Nat) (A : Nat → An) (w : World)
    (hok : okR kd pl nn wa ws m1 m2 = true) (h1 : m1 = ws.length) (h2 : m2 = bs.length) (s1 : SlI w q1 ws) (s2 : SlB w q2 bs) (hl1 : ws.length ≤ 2000000) (hl2 : bs.length ≤ 2000000) (hn : n = Ps.length) (h : OwnPs w base (.slice a n cap) Ps) (h' : SlA w at' n A) (hn8 : n ≤ 100) (hP : ∀ k, k < n → 0 ≤ (Ps.getD k default).n ∧ (Ps.getD k default).n ≤ 2000) (hA : ∀ k, k < n → (A k).ws.length ≤ 2000 ∧ (A k).bs.length ≤ 2000) :
    Calls Try.prog 57 #[.agg (rqc kd pl nn wa q1 q2 m1 m2 k1 k2), .slice a n cap, .slice at' n cap'] w fun e w' => AnPost w w' e (waA kd pl ws bs Ps A n) := by
  have hk := okR_kind hok
  unfold waA
  obtain rfl | rfl | rfl | rfl | rfl | rfl | rfl | rfl | rfl | rfl := hk
  · exact whole_1 pl nn wa q1 q2 m1 m2 k1 k2 a n cap at' n cap' w base Ps A rfl hn h h' (by omega) hP (fun k hk => (hA k hk).2)
  · exact whole_2 pl nn wa q1 q2 m1 m2 k1 k2 a n cap at' n cap' w base Ps A rfl hn h h' (by omega) hP (fun k hk => (hA k hk).2)
  · exact whole_3 pl nn wa q1 q2 m1 m2 k1 k2 a n cap at' n cap' w A h' (by omega) (fun k hk => (hA k hk).1)
  · exact whole_4 pl nn wa q1 q2 m1 m2 k1 k2 a n cap at' n cap' w A h' (by omega) (fun k hk => (hA k hk).1)
  · exact whole_5 pl nn wa q1 q2 m1 m2 k1 k2 a n cap at' n cap' w ws bs h1 h2 s1 s2 hl1 hl2
  · exact whole_6 pl nn wa q1 q2 m1 m2 k1 k2 a n cap at' n cap' w ws bs h1 h2 s1 s2 hl1 hl2
  · rw [← h2]; exact whole_15 pl nn wa q1 q2 m1 m2 k1 k2 a n cap at' n cap' w
  · rw [← h1]; exact whole_16 pl nn wa q1 q2 m1 m2 k1 k2 a n cap at' n cap' w
  · exact whole_22 pl nn wa q1 q2 m1 m2 k1 k2 a n cap at' n cap' w ws bs h1 h2 s1 s2 hl1 hl2
  · exact whole_23 pl nn wa q1 q2 m1 m2 k1 k2 a n cap at' n cap' w A h' (by omega) (fun k hk => (hA k hk).1)
theorem waA_len {kd pl nn wa : Int} {ws : List Int} {bs : List Bool} {m1 m2 : Nat} {Ps : List Pa} {A : Nat → An} {n : Nat} (hn8 : n ≤ 100) (hl1 : ws.length ≤ 2000000) (hl2 : bs.length ≤ 2000000) (hA : ∀ k, k < n → (A k).ws.length ≤ 2000 ∧ (A k).bs.length ≤ 2000) : (waA kd pl ws bs Ps A n).ws.length ≤ 2000000 ∧ (waA kd pl ws bs Ps A n).bs.length ≤ 2000000 := by
  have e1 := jB_len Ps A n (fun k hk => (hA k hk).2) n (Nat.le_refl _)
  have e2 := jW_len A n (fun k hk => (hA k hk).1) n (Nat.le_refl _)
  have e3 : n * 2000 ≤ 100 * 2000 := Nat.mul_le_mul_right _ hn8
  unfold waA
  split
  · simp; omega
  · split
    · simp; omega
    · split
      · simp
      · split
        · simp
        · exact ⟨hl1, hl2⟩
def suQ (kd pl nn wa : Int) (ws : List Int) (bs : List Bool) (x : An) : Bool := suB kd pl nn wa ws.length bs.length ws bs x.kd x.fl x.pl x.nn x.ws.length x.bs.length x.ws x.bs
def joA (td : Bool) (kd pl nn wa : Int) (ws : List Int) (bs : List Bool) (Ps : List Pa) (A : Nat → An) (n : Nat) : An :=
  bif okR kd pl nn wa ws ws.length bs.length && td then
    (if ffF A n 0 = 0 then (bif suQ kd pl nn wa ws bs (waA kd pl ws bs Ps A n) then waA kd pl ws bs Ps A n else foA (okR kd pl nn wa ws ws.length bs.length && inB 4 1 255) kd 4)
     else foA (okR kd pl nn wa ws ws.length bs.length && inB (ffF A n 0) 1 255) kd (ffF A n 0))
  else foA (okR kd pl nn wa ws ws.length bs.length && inB 4 1 255) kd 4
set_option maxRecDepth 20000 in
set_option maxHeartbeats 4000000 in
theorem implJoined_any (kd pl nn wa : Int) (q1 q2 : Option Addr) (m1 m2 k1 k2 : Nat) (ws : List Int) (bs : List Bool) (a : Option Addr) (n cap base : Nat) (Ps : List Pa) (at' : Option Addr) (m cap' : Nat) (A : Nat → An) (w : World)
    (h1 : m1 = ws.length) (h2 : m2 = bs.length) (s1 : SlI w q1 ws) (s2 : SlB w q2 bs) (hl1 : ws.length ≤ 2000000) (hl2 : bs.length ≤ 2000000) (hn : n = Ps.length) (h : OwnPs w base (.slice a n cap) Ps) (h' : SlA w at' m A) (hn8 : n ≤ 100) (hm8 : m ≤ 100) (hP : ∀ k, k < n → 0 ≤ (Ps.getD k default).n ∧ (Ps.getD k default).n ≤ 2000) (hP2 : ∀ k, k < n → (Ps.getD k default).ws.length ≤ 2000 ∧ (Ps.getD k default).bs.length ≤ 2000) (hA : ∀ k, k < m → (A k).ws.length ≤ 2000 ∧ (A k).bs.length ≤ 2000)
    (td : Bool) (htd : td = true ↔ (0 < n ∧ m = n ∧ AllS Ps A n)) :
    Calls Try.prog 17 #[.agg (rqc kd pl nn wa q1 q2 m1 m2 k1 k2), .slice a n cap, .slice at' m cap'] w fun e w' => AnPost w w' e (joA td kd pl nn wa ws bs Ps A m) := by
  obtain ⟨B, hB⟩ : ∃ B, B = w.heap.size := ⟨_, rfl⟩
  obtain ⟨W, hW⟩ : ∃ W, W = (w.alloc (.cells (rqc kd pl nn wa q1 q2 m1 m2 k1 k2) 28)).alloc (.cells #[.int .i64 0, .int .i64 0, .int .i64 0, .int .i64 0, .slice none 0 0, .slice none 0 0] 49) := ⟨_, rfl⟩
  have bW : Below w.heap.size w W := by rw [hW]; exact bel_next (bel_alloc _ _) (bel_alloc _ _)
  have HW : Hid (Below w.heap.size w W ∧ Blk W B 28 (rqc kd pl nn wa q1 q2 m1 m2 k1 k2) ∧ Blk W (B + 1) 49 #[.int .i64 0, .int .i64 0, .int .i64 0, .int .i64 0, .slice none 0 0, .slice none 0 0] ∧ w.heap.size = B) := ⟨bW, by rw [hW, hB]; exact (Blk.new w _ _).below (bel_alloc _ _), by rw [hW, hB]; have := Blk.new (w.alloc (.cells (rqc kd pl nn wa q1 q2 m1 m2 k1 k2) 28)) #[.int .i64 0, .int .i64 0, .int .i64 0, .int .i64 0, .slice none 0 0, .slice none 0 0] 49; simpa using this, hB.symm⟩
  have HS : Hid (m1 = ws.length ∧ m2 = bs.length ∧ SlI w q1 ws ∧ SlB w q2 bs ∧ OwnPs w base (.slice a n cap) Ps ∧ SlA w at' m A ∧ n = Ps.length ∧ (td = true ↔ (0 < n ∧ m = n ∧ AllS Ps A n)) ∧ (∀ k, k < n → 0 ≤ (Ps.getD k default).n ∧ (Ps.getD k default).n ≤ 2000) ∧ (∀ k, k < n → (Ps.getD k default).ws.length ≤ 2000 ∧ (Ps.getD k default).bs.length ≤ 2000) ∧ (∀ k, k < m → (A k).ws.length ≤ 2000 ∧ (A k).bs.length ≤ 2000)) := ⟨h1, h2, s1, s2, h, h', hn, htd, hP, hP2, hA⟩
  obtain ⟨ok, hok⟩ : ∃ ok, ok = okR kd pl nn wa ws ws.length bs.length := ⟨_, rfl⟩
  obtain ⟨R, hR⟩ : ∃ R, R = joA td kd pl nn wa ws bs Ps A m := ⟨_, rfl⟩
  rw [← hR]
  have HR : Hid (R = joA td kd pl nn wa ws bs Ps A m ∧ ok = okR kd pl nn wa ws ws.length bs.length) := ⟨hR, hok⟩
  have HFO : Hid (∀ (u : World) (x : Int), Below w.heap.size w u → Calls Try.prog 55 #[.agg (rqc kd pl nn wa q1 q2 m1 m2 k1 k2), .int .i64 x] u fun e w' => e = .returned (.agg #[.int .i64 (foA (ok && inB x 1 255) kd x).kd, .int .i64 (foA (ok && inB x 1 255) kd x).fl, .int .i64 0, .int .i64 0, .slice none 0 0, .slice none 0 0]) ∧ Below u.heap.size u w') := by
    intro u x hu
    have h9 := implFaultOf_q kd pl nn wa q1 q2 m1 m2 k1 k2 ws bs x u h1 h2 (s1.below hu) (s2.below hu) hl1 hl2
    rw [h1, h2, ← hok] at h9
    rw [foV_foA] at h9
    rw [h1, h2]
    exact h9
  have HRO : Hid (∀ (u : World), Below w.heap.size w u → Calls Try.prog 12 #[.agg (rqc kd pl nn wa q1 q2 m1 m2 k1 k2)] u fun e w' => e = .returned (.bool ok) ∧ Below u.heap.size u w') := by
    intro u hu
    have h9 := implReqOk_q kd pl nn wa q1 q2 m1 m2 k1 k2 ws bs u h1 h2 (s1.below hu) (s2.below hu) hl1 hl2
    rw [hok, ← h1, ← h2]
    exact h9
  clear bW h1 h2 s1 s2 hn h h' hP hP2 hA htd hR hok
  go_enter Try.func17, Try.ntmps17
  go_upto_region 1 with fail
  rw [← hW, ← hB]
  clear hW hB
  obtain ⟨⟨y0, y1, y2, y3, y4, y5⟩, _⟩ := HW.out.2.1.six2
  go_wp2_with fail
  refine (HRO.out _ HW.out.1).mono ?_
  rintro e w1 ⟨rfl, b1⟩
  have HW1 : Hid (Below w.heap.size w w1 ∧ Blk w1 B 28 (rqc kd pl nn wa q1 q2 m1 m2 k1 k2) ∧ Blk w1 (B + 1) 49 #[.int .i64 0, .int .i64 0, .int .i64 0, .int .i64 0, .slice none 0 0, .slice none 0 0] ∧ w.heap.size = B) := ⟨bel_next HW.out.1 b1, HW.out.2.1.below b1, HW.out.2.2.1.below b1, HW.out.2.2.2⟩
  clear b1 HW y0 y1 y2 y3 y4 y5
  cases ok with
  | false =>
    have HE : Hid (R = foA (false && inB 4 1 255) kd 4) := by show _ = _; rw [HR.out.1]; unfold joA; rw [← HR.out.2]; rfl
    obtain ⟨⟨y0, y1, y2, y3, y4, y5⟩, _⟩ := HW1.out.2.1.six2
    go_wp2_with fail
    refine (HFO.out _ 4 HW1.out.1).mono ?_
    rintro e wf ⟨rfl, bf⟩
    obtain ⟨fk, hfk⟩ : ∃ fk, fk = (foA (false && inB 4 1 255) kd 4).kd := ⟨_, rfl⟩
    obtain ⟨fl, hfl⟩ : ∃ fl, fl = (foA (false && inB 4 1 255) kd 4).fl := ⟨_, rfl⟩
    rw [← hfk, ← hfl]
    have HEE : Hid (R = ⟨fk, fl, 0, 0, [], []⟩) := by
      show _ = _
      rw [HE.out, hfk, hfl]
      obtain ⟨g1, g2, g3, g4⟩ := foA_rest (false && inB 4 1 255) kd 4
      cases hq : foA (false && inB 4 1 255) kd 4 with
      | mk a b c d e f => rw [hq] at g1 g2 g3 g4; simp only at g1 g2 g3 g4; subst g1; subst g2; subst g3; subst g4; rfl
    have K1 := HW1.out.2.2.1.below bf
    have HY : Hid (Below w.heap.size w (setL wf (B + 1) 0 [.int .i64 fk, .int .i64 fl, .int .i64 0, .int .i64 0, .slice none 0 0, .slice none 0 0])) := setL_below (by have := HW1.out.2.2.2; omega) _ _ _ (bel_next HW1.out.1 bf)
    obtain ⟨⟨z0, z1, z2, z3, z4, z5⟩, ⟨f0, f1, f2, f3, f4, f5⟩⟩ := K1.six2
    clear K1 bf hfk hfl y0 y1 y2 y3 y4 y5
    go_wp2
    refine bodyPost_ret (v := .agg #[.int .i64 fk, .int .i64 fl, .int .i64 0, .int .i64 0, .slice none 0 0, .slice none 0 0]) (by simp [results, Try.results17, go_sem, z0, z1, z2, z3, z4, z5]) rfl ?_
    rw [HEE.out]
    exact ⟨none, none, 0, 0, 0, 0, rfl, rfl, rfl, ownI_z _ _, ownB_z _ _, HY.out⟩
  | true =>
    go_wp2_with fail
    refine (wereTold_any a n cap base Ps at' m cap' A _ HS.out.2.2.2.2.2.2.1 (HS.out.2.2.2.2.1.below HW1.out.1) (HS.out.2.2.2.2.2.1.below HW1.out.1) (by omega) (by omega) HS.out.2.2.2.2.2.2.2.2.2.1 (fun k hk => ⟨by have := HS.out.2.2.2.2.2.2.2.2.2.2 k hk; omega, by have := HS.out.2.2.2.2.2.2.2.2.2.2 k hk; omega⟩) td HS.out.2.2.2.2.2.2.2.1).mono ?_
    rintro e w2 ⟨rfl, b2⟩
    have HW2 : Hid (Below w.heap.size w w2 ∧ Blk w2 B 28 (rqc kd pl nn wa q1 q2 m1 m2 k1 k2) ∧ Blk w2 (B + 1) 49 #[.int .i64 0, .int .i64 0, .int .i64 0, .int .i64 0, .slice none 0 0, .slice none 0 0] ∧ w.heap.size = B) := ⟨bel_next HW1.out.1 b2, HW1.out.2.1.below b2, HW1.out.2.2.1.below b2, HW1.out.2.2.2⟩
    clear b2 HW1
    cases td with
    | false =>
      have HE : Hid (R = foA (true && inB 4 1 255) kd 4) := by show _ = _; rw [HR.out.1]; unfold joA; rw [← HR.out.2]; rfl
      obtain ⟨⟨y0, y1, y2, y3, y4, y5⟩, _⟩ := HW2.out.2.1.six2
      go_wp2_with fail
      refine (HFO.out _ 4 HW2.out.1).mono ?_
      rintro e wf ⟨rfl, bf⟩
      obtain ⟨fk, hfk⟩ : ∃ fk, fk = (foA (true && inB 4 1 255) kd 4).kd := ⟨_, rfl⟩
      obtain ⟨fl, hfl⟩ : ∃ fl, fl = (foA (true && inB 4 1 255) kd 4).fl := ⟨_, rfl⟩
      rw [← hfk, ← hfl]
      have HEE : Hid (R = ⟨fk, fl, 0, 0, [], []⟩) := by
        show _ = _
        rw [HE.out, hfk, hfl]
        obtain ⟨g1, g2, g3, g4⟩ := foA_rest (true && inB 4 1 255) kd 4
        cases hq : foA (true && inB 4 1 255) kd 4 with
        | mk a b c d e f => rw [hq] at g1 g2 g3 g4; simp only at g1 g2 g3 g4; subst g1; subst g2; subst g3; subst g4; rfl
      have K1 := HW2.out.2.2.1.below bf
      have HY : Hid (Below w.heap.size w (setL wf (B + 1) 0 [.int .i64 fk, .int .i64 fl, .int .i64 0, .int .i64 0, .slice none 0 0, .slice none 0 0])) := setL_below (by have := HW2.out.2.2.2; omega) _ _ _ (bel_next HW2.out.1 bf)
      obtain ⟨⟨z0, z1, z2, z3, z4, z5⟩, ⟨f0, f1, f2, f3, f4, f5⟩⟩ := K1.six2
      clear K1 bf hfk hfl y0 y1 y2 y3 y4 y5
      go_wp2
      refine bodyPost_ret (v := .agg #[.int .i64 fk, .int .i64 fl, .int .i64 0, .int .i64 0, .slice none 0 0, .slice none 0 0]) (by simp [results, Try.results17, go_sem, z0, z1, z2, z3, z4, z5]) rfl ?_
      rw [HEE.out]
      exact ⟨none, none, 0, 0, 0, 0, rfl, rfl, rfl, ownI_z _ _, ownB_z _ _, HY.out⟩
    | true =>
      have hmn : m = n := (HS.out.2.2.2.2.2.2.2.1.1 rfl).2.1
      have HMN : Hid (m = n) := hmn
      clear hmn
      go_wp2_with fail
      refine (firstFault_any at' m cap' A _ (HS.out.2.2.2.2.2.1.below HW2.out.1) (by omega)).mono ?_
      rintro e w3 ⟨rfl, b3⟩
      have HW3 : Hid (Below w.heap.size w w3 ∧ Blk w3 B 28 (rqc kd pl nn wa q1 q2 m1 m2 k1 k2) ∧ Blk w3 (B + 1) 49 #[.int .i64 0, .int .i64 0, .int .i64 0, .int .i64 0, .slice none 0 0, .slice none 0 0] ∧ w.heap.size = B) := ⟨bel_next HW2.out.1 b3, HW2.out.2.1.below b3, HW2.out.2.2.1.below b3, HW2.out.2.2.2⟩
      clear b3 HW2
      obtain ⟨ff, hff⟩ : ∃ ff, ff = ffF A m 0 := ⟨_, rfl⟩
      have HFF : Hid (ff = ffF A m 0) := hff
      rw [← hff]
      clear hff
      by_cases h0 : ff = 0
      · subst h0
        obtain ⟨⟨y0, y1, y2, y3, y4, y5⟩, _⟩ := HW3.out.2.1.six2
        have HC : Hid (Calls Try.prog 57 #[.agg (rqc kd pl nn wa q1 q2 m1 m2 k1 k2), .slice a n cap, .slice at' n cap'] w3 fun e w' => AnPost w3 w' e (waA kd pl ws bs Ps A n)) := whole_any kd pl nn wa q1 q2 m1 m2 k1 k2 ws bs a n cap base Ps at' cap' A w3 (by rw [HS.out.1, HS.out.2.1]; exact HR.out.2.symm) HS.out.1 HS.out.2.1 (HS.out.2.2.1.below HW3.out.1) (HS.out.2.2.2.1.below HW3.out.1) hl1 hl2 HS.out.2.2.2.2.2.2.1 (HS.out.2.2.2.2.1.below HW3.out.1) (by have h9 := HS.out.2.2.2.2.2.1.below HW3.out.1; rw [HMN.out] at h9; exact h9) hn8 HS.out.2.2.2.2.2.2.2.2.1 (fun k hk => HS.out.2.2.2.2.2.2.2.2.2.2 k (by rw [HMN.out]; exact hk))
        rw [HMN.out]
        go_wp2_with fail
        refine HC.out.mono ?_
        rintro e w4 ⟨r1, r2, l1, l2, c1, c2, rfl, e1, e2, o1, o2, b4⟩
        obtain ⟨x, hx⟩ : ∃ x, x = waA kd pl ws bs Ps A n := ⟨_, rfl⟩
        rw [← hx] at e1 e2 o1 o2 ⊢
        have hlen := waA_len (kd := kd) (pl := pl) (nn := nn) (wa := wa) (ws := ws) (bs := bs) (m1 := m1) (m2 := m2) (Ps := Ps) (A := A) (n := n) hn8 hl1 hl2 (fun k hk => HS.out.2.2.2.2.2.2.2.2.2.2 k (by rw [HMN.out]; exact hk))
        rw [← hx] at hlen
        obtain ⟨g2, hg2⟩ : ∃ g2, g2 = w4.heap.size := ⟨_, rfl⟩
        obtain ⟨W5, hW5⟩ : ∃ W5, W5 = w4.alloc (.cells #[.int .i64 x.kd, .int .i64 x.fl, .int .i64 x.pl, .int .i64 x.nn, .slice r1 l1 c1, .slice r2 l2 c2] 49) := ⟨_, rfl⟩
        have b5 : Below w4.heap.size w4 W5 := by rw [hW5]; exact bel_alloc _ _
        have HX5 : Hid (Below w.heap.size w W5 ∧ Blk W5 B 28 (rqc kd pl nn wa q1 q2 m1 m2 k1 k2) ∧ Blk W5 (B + 1) 49 #[.int .i64 0, .int .i64 0, .int .i64 0, .int .i64 0, .slice none 0 0, .slice none 0 0] ∧ Blk W5 g2 49 #[.int .i64 x.kd, .int .i64 x.fl, .int .i64 x.pl, .int .i64 x.nn, .slice r1 l1 c1, .slice r2 l2 c2] ∧ OwnI W5 w.heap.size (.slice r1 l1 c1) x.ws ∧ OwnB W5 w.heap.size (.slice r2 l2 c2) x.bs ∧ l1 = x.ws.length ∧ l2 = x.bs.length ∧ x = waA kd pl ws bs Ps A n ∧ x.ws.length ≤ 2000000 ∧ x.bs.length ≤ 2000000 ∧ w.heap.size = B) := ⟨bel_next (bel_next HW3.out.1 b4) b5, (HW3.out.2.1.below b4).below b5, (HW3.out.2.2.1.below b4).below b5, by rw [hW5, hg2]; exact Blk.new w4 _ _, (OwnI.mono o1 HW3.out.1.size).below b5, (OwnB.mono o2 HW3.out.1.size).below b5, e1, e2, hx, hlen.1, hlen.2, HW3.out.2.2.2⟩
        clear e1 e2 o1 o2 b4 b5 hx hlen HW3 HC y0 y1 y2 y3 y4 y5
        go_upto_region 7 with fail
        rw [← hW5, ← hg2]
        clear hW5 hg2
        obtain ⟨⟨y0, y1, y2, y3, y4, y5⟩, _⟩ := HX5.out.2.1.six2
        obtain ⟨⟨x0, x1, x2, x3, x4, x5⟩, _⟩ := HX5.out.2.2.2.1.six2
        obtain ⟨sb, hsb⟩ : ∃ sb, sb = suQ kd pl nn wa ws bs x := ⟨_, rfl⟩
        have HSU : Hid (Calls Try.prog 21 #[.agg (rqc kd pl nn wa q1 q2 m1 m2 k1 k2), .agg #[.int .i64 x.kd, .int .i64 x.fl, .int .i64 x.pl, .int .i64 x.nn, .slice r1 l1 c1, .slice r2 l2 c2]] W5 fun e w' => e = .returned (.bool sb) ∧ Below W5.heap.size W5 w') := by
          have h9 := implSuits_q kd x.kd x.fl pl nn wa q1 q2 m1 m2 k1 k2 ws bs x.pl x.nn r1 r2 l1 l2 c1 c2 x.ws x.bs W5 HS.out.1 HS.out.2.1 (HS.out.2.2.1.below HX5.out.1) (HS.out.2.2.2.1.below HX5.out.1) hl1 hl2 HX5.out.2.2.2.2.2.2.1 HX5.out.2.2.2.2.2.2.2.1 HX5.out.2.2.2.2.1.sl.2 HX5.out.2.2.2.2.2.1.sl.2 HX5.out.2.2.2.2.2.2.2.2.2.1 HX5.out.2.2.2.2.2.2.2.2.2.2.1 (own_capJ HX5.out.2.2.2.2.2.1)
          have e9 : sb = suB kd pl nn wa m1 m2 ws bs x.kd x.fl x.pl x.nn l1 l2 x.ws x.bs := by rw [hsb]; unfold suQ; rw [HS.out.1, HS.out.2.1, HX5.out.2.2.2.2.2.2.1, HX5.out.2.2.2.2.2.2.2.1]
          rw [e9]; exact h9
        have HSB : Hid (sb = suQ kd pl nn wa ws bs x) := hsb
        clear hsb
        go_wp2_with fail
        refine HSU.out.mono ?_
        rintro e w6 ⟨rfl, b6⟩
        have HX6 : Hid (Below w.heap.size w w6 ∧ Blk w6 B 28 (rqc kd pl nn wa q1 q2 m1 m2 k1 k2) ∧ Blk w6 (B + 1) 49 #[.int .i64 0, .int .i64 0, .int .i64 0, .int .i64 0, .slice none 0 0, .slice none 0 0] ∧ w.heap.size = B) := ⟨bel_next HX5.out.1 b6, HX5.out.2.1.below b6, HX5.out.2.2.1.below b6, HX5.out.2.2.2.2.2.2.2.2.2.2.2⟩
        have HX7 : Hid (Blk w6 g2 49 #[.int .i64 x.kd, .int .i64 x.fl, .int .i64 x.pl, .int .i64 x.nn, .slice r1 l1 c1, .slice r2 l2 c2] ∧ OwnI w6 w.heap.size (.slice r1 l1 c1) x.ws ∧ OwnB w6 w.heap.size (.slice r2 l2 c2) x.bs ∧ l1 = x.ws.length ∧ l2 = x.bs.length ∧ x = waA kd pl ws bs Ps A n) := ⟨HX5.out.2.2.2.1.below b6, HX5.out.2.2.2.2.1.below b6, HX5.out.2.2.2.2.2.1.below b6, HX5.out.2.2.2.2.2.2.1, HX5.out.2.2.2.2.2.2.2.1, HX5.out.2.2.2.2.2.2.2.2.1⟩
        clear b6 HX5 HSU y0 y1 y2 y3 y4 y5 x0 x1 x2 x3 x4 x5
        cases sb with
        | false =>
          have HE : Hid (R = foA (true && inB 4 1 255) kd 4) := by
            show _ = _
            rw [HR.out.1]; unfold joA; rw [← HR.out.2, HMN.out] ; rw [HMN.out] at HFF; rw [← HFF.out]
            simp only [Bool.and_self, cond_true, if_pos]
            rw [← HX7.out.2.2.2.2.2, ← HSB.out]; rfl
          obtain ⟨⟨y0, y1, y2, y3, y4, y5⟩, _⟩ := HX6.out.2.1.six2
          go_wp2_with fail
          refine (HFO.out _ 4 HX6.out.1).mono ?_
          rintro e wf ⟨rfl, bf⟩
          obtain ⟨fk, hfk⟩ : ∃ fk, fk = (foA (true && inB 4 1 255) kd 4).kd := ⟨_, rfl⟩
          obtain ⟨fl, hfl⟩ : ∃ fl, fl = (foA (true && inB 4 1 255) kd 4).fl := ⟨_, rfl⟩
          rw [← hfk, ← hfl]
          have HEE : Hid (R = ⟨fk, fl, 0, 0, [], []⟩) := by
            show _ = _
            rw [HE.out, hfk, hfl]
            obtain ⟨g1, g2, g3, g4⟩ := foA_rest (true && inB 4 1 255) kd 4
            cases hq : foA (true && inB 4 1 255) kd 4 with
            | mk a b c d e f => rw [hq] at g1 g2 g3 g4; simp only at g1 g2 g3 g4; subst g1; subst g2; subst g3; subst g4; rfl
          have K1 := HX6.out.2.2.1.below bf
          have HY : Hid (Below w.heap.size w (setL wf (B + 1) 0 [.int .i64 fk, .int .i64 fl, .int .i64 0, .int .i64 0, .slice none 0 0, .slice none 0 0])) := setL_below (by have := HX6.out.2.2.2; omega) _ _ _ (bel_next HX6.out.1 bf)
          obtain ⟨⟨z0, z1, z2, z3, z4, z5⟩, ⟨f0, f1, f2, f3, f4, f5⟩⟩ := K1.six2
          clear K1 bf hfk hfl y0 y1 y2 y3 y4 y5
          go_wp2
          refine bodyPost_ret (v := .agg #[.int .i64 fk, .int .i64 fl, .int .i64 0, .int .i64 0, .slice none 0 0, .slice none 0 0]) (by simp [results, Try.results17, go_sem, z0, z1, z2, z3, z4, z5]) rfl ?_
          rw [HEE.out]
          exact ⟨none, none, 0, 0, 0, 0, rfl, rfl, rfl, ownI_z _ _, ownB_z _ _, HY.out⟩
        | true =>
          have HE : Hid (R = x) := by
            show _ = _
            rw [HR.out.1]; unfold joA; rw [← HR.out.2, HMN.out]; rw [HMN.out] at HFF; rw [← HFF.out]
            simp only [Bool.and_self, cond_true, if_pos]
            rw [← HX7.out.2.2.2.2.2, ← HSB.out]; rfl
          obtain ⟨⟨x0, x1, x2, x3, x4, x5⟩, _⟩ := HX7.out.1.six2
          obtain ⟨⟨z0, z1, z2, z3, z4, z5⟩, ⟨f0, f1, f2, f3, f4, f5⟩⟩ := HX6.out.2.2.1.six2
          have HY : Hid (OwnI (setL w6 (B + 1) 0 [.int .i64 x.kd, .int .i64 x.fl, .int .i64 x.pl, .int .i64 x.nn, .slice r1 l1 c1, .slice r2 l2 c2]) w.heap.size (.slice r1 l1 c1) x.ws ∧ OwnB (setL w6 (B + 1) 0 [.int .i64 x.kd, .int .i64 x.fl, .int .i64 x.pl, .int .i64 x.nn, .slice r1 l1 c1, .slice r2 l2 c2]) w.heap.size (.slice r2 l2 c2) x.bs ∧ Below w.heap.size w (setL w6 (B + 1) 0 [.int .i64 x.kd, .int .i64 x.fl, .int .i64 x.pl, .int .i64 x.nn, .slice r1 l1 c1, .slice r2 l2 c2])) := ⟨row_setL HX7.out.2.1 ⟨_, HX6.out.2.2.1⟩ (by decide), row_setL HX7.out.2.2.1 ⟨_, HX6.out.2.2.1⟩ (by decide), setL_below (by have := HX6.out.2.2.2; omega) _ _ _ HX6.out.1⟩
          go_wp2
          refine bodyPost_ret (v := .agg #[.int .i64 x.kd, .int .i64 x.fl, .int .i64 x.pl, .int .i64 x.nn, .slice r1 l1 c1, .slice r2 l2 c2]) (by simp [results, Try.results17, go_sem, z0, z1, z2, z3, z4, z5]) rfl ?_
          rw [HE.out]
          exact ⟨r1, r2, l1, l2, c1, c2, rfl, HX7.out.2.2.2.1, HX7.out.2.2.2.2.1, HY.out.1, HY.out.2.1, HY.out.2.2⟩
      · have dn : (ff == 0) = false := by simpa using h0
        have HE : Hid (R = foA (true && inB ff 1 255) kd ff) := by
          show _ = _
          rw [HR.out.1]; unfold joA; rw [← HR.out.2, ← HFF.out]
          simp only [Bool.and_self, cond_true]
          rw [if_neg h0]
        obtain ⟨⟨y0, y1, y2, y3, y4, y5⟩, _⟩ := HW3.out.2.1.six2
        go_wp2_with fail
        refine (HFO.out _ ff HW3.out.1).mono ?_
        rintro e wf ⟨rfl, bf⟩
        obtain ⟨fk, hfk⟩ : ∃ fk, fk = (foA (true && inB ff 1 255) kd ff).kd := ⟨_, rfl⟩
        obtain ⟨fl, hfl⟩ : ∃ fl, fl = (foA (true && inB ff 1 255) kd ff).fl := ⟨_, rfl⟩
        rw [← hfk, ← hfl]
        have HEE : Hid (R = ⟨fk, fl, 0, 0, [], []⟩) := by
          show _ = _
          rw [HE.out, hfk, hfl]
          obtain ⟨g1, g2, g3, g4⟩ := foA_rest (true && inB ff 1 255) kd ff
          cases hq : foA (true && inB ff 1 255) kd ff with
          | mk a b c d e f => rw [hq] at g1 g2 g3 g4; simp only at g1 g2 g3 g4; subst g1; subst g2; subst g3; subst g4; rfl
        have K1 := HW3.out.2.2.1.below bf
        have HY : Hid (Below w.heap.size w (setL wf (B + 1) 0 [.int .i64 fk, .int .i64 fl, .int .i64 0, .int .i64 0, .slice none 0 0, .slice none 0 0])) := setL_below (by have := HW3.out.2.2.2; omega) _ _ _ (bel_next HW3.out.1 bf)
        obtain ⟨⟨z0, z1, z2, z3, z4, z5⟩, ⟨f0, f1, f2, f3, f4, f5⟩⟩ := K1.six2
        clear K1 bf hfk hfl y0 y1 y2 y3 y4 y5
        go_wp2
        refine bodyPost_ret (v := .agg #[.int .i64 fk, .int .i64 fl, .int .i64 0, .int .i64 0, .slice none 0 0, .slice none 0 0]) (by simp [results, Try.results17, go_sem, z0, z1, z2, z3, z4, z5]) rfl ?_
        rw [HEE.out]
        exact ⟨none, none, 0, 0, 0, 0, rfl, rfl, rfl, ownI_z _ _, ownB_z _ _, HY.out⟩
end Go.Proofs.Ytegckbfbmbiogaa
namespace Go.Proofs.Ytegckbfbmbiogaa
open Go.RowKit Go.Joins
set_option linter.unusedVariables false
set_option linter.unusedSimpArgs false
theorem step_appIO {ops : Array Oper} {o : Oper} {a : Act} {w : World} {K : Act → World → Prop} {Q : Exit → Act → World → Prop} {E : Prop} (hgd : o.guard = none) (s x : Operand)
    (ho : o.op = .call { callee := .builtin .append, args := #[s, x], argTypes := #[25, 25] }) (base : Nat) (v : Value) (zs : List Int) (hs : a.eval s = v) (hown : OwnI w base v zs)
    (ad : Option Addr) (m c : Nat) (ys : List Int) (hx : a.eval x = .slice ad m c) (hm : m = ys.length) (hsl : SlI w ad ys) (hlen : zs.length + ys.length ≤ 4000000) (hbase : base ≤ w.heap.size)
    (h : ∀ v' w', OwnI w' base v' (zs ++ ys) → w.grownBy w' v.ownBlock → K (a.put o.dst v') w') : if Region.wanted o (yielded ops a.tmps) = true then Oper.wp Try.prog o a w K Q else E := by
  obtain ⟨i0, hi, hz0, hz1, hz2⟩ := info_parts Try.infoQ3
  cases ad with
  | some ad =>
    subst hm
    refine step_append_own hgd s x 25 ho base 3 i0 (.int .i64 0) 1 8 Try.underlying25 hi hz0 hz1 hz2 rfl (by decide) v zs.length (zs.map (Value.int .i64)) hs hown ad ys.length c (ys.map (Value.int .i64)) hx (by simp) hsl.cellsAt (ints_oneCell _ _) (by unfold maxLen; omega) (by omega) hbase ?_
    intro v' w' h1 h2
    exact h v' w' (by simpa [OwnI] using h1) h2
  | none =>
    obtain rfl := ints_none hsl
    obtain rfl : m = 0 := hm
    have hw : Region.wanted o (yielded ops a.tmps) = true := by simp [Region.wanted, hgd]
    rw [if_pos hw]
    have hgo : ∀ (sa : Option Addr) (sn sc : Nat), sn ≤ sc → v = .slice sa sn sc → Oper.wp Try.prog o a w K Q := by
      rintro sa sn sc hcap rfl
      have hr := run_append_nothing w 25 25 o.type 3 i0 Try.underlying25 hi sa sn sc hcap _ (Src.ofNil w Try.underlying25 c)
      have h9 := h _ w (by simpa using hown) ⟨rfl, rfl, rfl, Nat.le_refl _, fun _ _ _ => rfl⟩
      unfold Oper.wp
      simp [execOp, ho, resolve, invoke, builtin, hs, hx, hr, Result.andThen]
      exact h9
    rcases hown.2 with ⟨e, _⟩ | ⟨g, cap', cur, hv, _, hh, h3, _⟩
    · exact hgo _ _ _ (Nat.le_refl 0) e
    · exact hgo _ _ _ h3 hv
theorem ne_typesJ {w : World} {b1 b2 s1 s2 n1 n2 : Nat} {e1 e2 : TypeId} {v1 v2 : Value} {x1 x2 : List Value} (h1 : w.ownsRow b1 e1 s1 v1 n1 x1) (h2 : w.ownsRow b2 e2 s2 v2 n2 x2) (he : e1 ≠ e2) : v1.ownBlock = none ∨ v1.ownBlock ≠ v2.ownBlock := by
  rcases h1.2 with ⟨h, _⟩ | ⟨g, c, cu, hv, _, hh, _⟩
  · exact .inl (by rw [h]; rfl)
  · right
    rcases h2.2 with ⟨h', _⟩ | ⟨g', c', cu', hv', _, hh', _⟩
    · rw [hv, h']; simp [Value.ownBlock]
    · rw [hv, hv']
      simp only [Value.ownBlock]
      intro e
      have e2 : g = g' := Option.some.inj e
      subst e2
      rw [hh] at hh'
      simp at hh'
      exact he hh'.2
structure JI (w : World) (B G : Nat) (rq : Array Value) (kd : Int) (va : Option Addr) (vn vc : Nat) (vb : Option Addr) (un uc : Nat) (ws : List Int) (bs : List Bool) (u : World) : Prop where
  bel : Below w.heap.size w u
  q : Blk u B 28 rq
  r0 : Blk u (B + 1) 49 #[.int .i64 0, .int .i64 0, .int .i64 0, .int .i64 0, .slice none 0 0, .slice none 0 0]
  r : Blk u G 49 #[.int .i64 kd, .int .i64 0, .int .i64 0, .int .i64 0, .slice va vn vc, .slice vb un uc]
  ow : OwnI u w.heap.size (.slice va vn vc) ws
  ob : OwnB u w.heap.size (.slice vb un uc) bs
theorem JI.below {w : World} {B G : Nat} {rq : Array Value} {kd : Int} {va : Option Addr} {vn vc : Nat} {vb : Option Addr} {un uc : Nat} {ws : List Int} {bs : List Bool} {u u' : World} (h : JI w B G rq kd va vn vc vb un uc ws bs u) (b : Below u.heap.size u u') : JI w B G rq kd va vn vc vb un uc ws bs u' :=
  ⟨bel_next h.bel b, h.q.below b, h.r0.below b, h.r.below b, h.ow.below b, h.ob.below b⟩
theorem JI.words {w : World} {B G : Nat} {rq : Array Value} {kd : Int} {va : Option Addr} {vn vc : Nat} {vb : Option Addr} {un uc : Nat} {ws : List Int} {bs : List Bool} {u u' : World} {va' : Option Addr} {vn' vc' : Nat} {ws' : List Int} (h : JI w B G rq kd va vn vc vb un uc ws bs u) (o : OwnI u' w.heap.size (.slice va' vn' vc') ws') (g : u.grownBy u' (Value.slice va vn vc).ownBlock) (hG : w.heap.size ≤ G) (h1 : B ≠ G) (h2 : B + 1 ≠ G) :
    Blk u' G 49 #[.int .i64 kd, .int .i64 0, .int .i64 0, .int .i64 0, .slice va vn vc, .slice vb un uc] ∧ Below w.heap.size w u' ∧ JI w B G rq kd va' vn' vc' vb un uc ws' bs (u'.setCell ⟨G, 4, none⟩ (.slice va' vn' vc')) := by
  have b1 : Below w.heap.size w u' := h.bel.grown g h.bel.size (fun k hk => (World.ownsRow.lt h.ow k hk).1)
  have r1 := h.r.grown g (row_noBlk h.ow h.r (by decide))
  refine ⟨r1, b1, b1.setCell (p := ⟨G, 4, none⟩) hG _, (h.q.grown g (row_noBlk h.ow h.q (by decide))).setNe h1, (h.r0.grown g (row_noBlk h.ow h.r0 (by decide))).setNe h2, ?_, row_setE o ⟨_, r1⟩ (by decide), row_setE (h.ob.kept g (ne_typesJ h.ob h.ow (by decide))) ⟨_, r1⟩ (by decide)⟩
  have h9 := r1.set 4 (.slice va' vn' vc')
  simpa using h9
theorem JI.bits {w : World} {B G : Nat} {rq : Array Value} {kd : Int} {va : Option Addr} {vn vc : Nat} {vb : Option Addr} {un uc : Nat} {ws : List Int} {bs : List Bool} {u u' : World} {vb' : Option Addr} {un' uc' : Nat} {bs' : List Bool} (h : JI w B G rq kd va vn vc vb un uc ws bs u) (o : OwnB u' w.heap.size (.slice vb' un' uc') bs') (g : u.grownBy u' (Value.slice vb un uc).ownBlock) (hG : w.heap.size ≤ G) (h1 : B ≠ G) (h2 : B + 1 ≠ G) :
    Blk u' G 49 #[.int .i64 kd, .int .i64 0, .int .i64 0, .int .i64 0, .slice va vn vc, .slice vb un uc] ∧ Below w.heap.size w u' ∧ JI w B G rq kd va vn vc vb' un' uc' ws bs' (u'.setCell ⟨G, 5, none⟩ (.slice vb' un' uc')) := by
  have b1 : Below w.heap.size w u' := h.bel.grown g h.bel.size (fun k hk => (World.ownsRow.lt h.ob k hk).1)
  have r1 := h.r.grown g (row_noBlk h.ob h.r (by decide))
  refine ⟨r1, b1, b1.setCell (p := ⟨G, 5, none⟩) hG _, (h.q.grown g (row_noBlk h.ob h.q (by decide))).setNe h1, (h.r0.grown g (row_noBlk h.ob h.r0 (by decide))).setNe h2, ?_, row_setE (h.ow.kept g (ne_typesJ h.ow h.ob (by decide))) ⟨_, r1⟩ (by decide), row_setE o ⟨_, r1⟩ (by decide)⟩
  have h9 := r1.set 5 (.slice vb' un' uc')
  simpa using h9
end Go.Proofs.Ytegckbfbmbiogaa

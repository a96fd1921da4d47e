/- Texts that the proof needs, joined: Ln3. -/
import Derived.Test.YtmhdneenjoelfaaGreatY2
import Derived.Test.YtmhdneenjoelfaaGreatY7
import Derived.Test.YtmhdneenjoelfaaGreatY4
namespace Go.Proofs.YtmhdneenjoelfaaGreat
open Go.RowKit Go.Joins
set_option linter.unusedVariables false
set_option linter.unusedSimpArgs false
theorem run_nil_op {P : Program} {ρ : Operand → Value} {o : Oper} {u : World} {x : Operand} {p : Addr} (ho : o.op = .nilCheck x) (ha : ρ x = .pointer (some p)) : (execOp ρ o).run P u = .ok (.value (.pointer (some p))) u := by
  unfold execOp
  simp only [ho, ha]
  rfl
def askB (L : La) (l1 l2 : Nat) : Bool := if L.bz = true then okCa L.c && (inB L.nu 0 65535 && (inB L.du 0 4294967295 && (decide (0 ≤ L.le) && decide (L.le ≤ L.tr)))) else noCa L.c l1 l2 && ((L.nu == 0) && ((L.du == 0) && (L.le == 0)))
def allC (f : Nat → Ca) : Nat → Bool
  | 0 => true
  | k + 1 => allC f k && okCa (f k)
theorem allC_no {f : Nat → Ca} {k n : Nat} (hk : k < n) (h : okCa (f k) = false) : allC f n = false := by
  induction n with
  | zero => omega
  | succ n ih =>
    by_cases e : k = n
    · subst e; simp [allC, h]
    · simp [allC, ih (by omega)]
def okLn (n : Nat) (f : Nat → Ca) (L : La) (l1 l2 : Nat) : Bool := inB L.wt 1 100 && (inB L.tr 0 5 && (decide (n ≤ 40) && (inB L.nx 0 65535 && (allC f n && askB L l1 l2))))
set_option maxRecDepth 20000 in
set_option maxHeartbeats 2000000 in
theorem asks_0 (L : La) (g n cp : Nat) (a a1 a2 : Option Addr) (l1 l2 c1 c2 : Nat) (f : Nat → Ca) (w : World) (hB : Blk w g 32 (lac L a n cp a1 a2 l1 l2 c1 c2)) (hs : LnR w n f L a a1 a2 l1 l2) (hl1 : l1 ≤ 2000000) (hl2 : l2 ≤ 2000000) (hbz : L.bz = true) (z1 z2 z3 z4 : Bool)
    (h0 : okCa L.c = false) (h1 : inB L.nu 0 65535 = z1) (h2 : inB L.du 0 4294967295 = z2) (h3 : decide (0 ≤ L.le) = z3) (h4 : decide (L.le ≤ L.tr) = z4) :
    Calls Tryz.prog 86 #[.pointer (some ⟨g, 0, none⟩)] w fun e w' => e = .returned (.bool false) ∧ Below w.heap.size w w' := by
  have HX : Hid (okCa L.c = false ∧ inB L.nu 0 65535 = z1 ∧ inB L.du 0 4294967295 = z2 ∧ decide (0 ≤ L.le) = z3 ∧ decide (L.le ≤ L.tr) = z4) := ⟨h0, h1, h2, h3, h4⟩
  have HB : Hid (Blk w g 32 (lac L a n cp a1 a2 l1 l2 c1 c2) ∧ LnR w n f L a a1 a2 l1 l2) := ⟨hB, hs⟩
  obtain ⟨⟨y0, y1, y2, y3, y4, y5, y6, y7, y8, y9, y10, y11, y12, y13, y14, y15, y16⟩, _⟩ := hB.svn
  rw [hbz] at y1
  clear h0 h1 h2 h3 h4 hB hs
  go_enter Tryz.func86, Tryz.ntmps86
  go_upto_region 3 with fail
  clear y0 y1 y2 y3 y4 y5 y6 y7 y8 y9 y10 y11 y12 y13 y14 y15 y16
  refine wp_region_any (by kernel_rfl) ?_
  refine wpAny_vals (fun u => Below w.heap.size w u) (fun i v u => match i with
    | 0 => v = .pointer (some ⟨g, 0, none⟩)
    | 1 => v = .pointer (some ⟨g, 0, none⟩)
    | 2 => v = .pointer (some ⟨g, 2, none⟩)
    | 3 => v = .bool false
    | 4 => v = .bool false
    | 5 => v = undef
    | 6 => v = undef
    | 7 => v = undef
    | 8 => v = undef
    | 9 => v = undef
    | 10 => v = .bool false
    | 11 => v = .bool false
    | 12 => v = undef
    | 13 => v = undef
    | 14 => v = undef
    | 15 => v = undef
    | 16 => v = undef
    | 17 => v = .bool false
    | 18 => v = .bool false
    | 19 => v = undef
    | 20 => v = undef
    | 21 => v = undef
    | 22 => v = undef
    | 23 => v = undef
    | 24 => v = .bool false
    | 25 => v = .bool false
    | 26 => v = undef
    | 27 => v = undef
    | 28 => v = undef
    | 29 => v = undef
    | 30 => v = undef
    | 31 => v = undef
    | 32 => v = undef
    | 33 => v = undef
    | 34 => v = undef
    | 35 => v = .bool false
    | 36 => v = .bool false
    | _ => True) (by kernel_rfl) (by kernel_rfl) (fun _ _ _ _ h _ => h) (by first | exact Below.refl _ _ | exact (Below.refl _ _).drew) ?_ ?_ _ _ rfl (by decide) (fun i => by simp [Array.getD]; try (split <;> rfl))
  · intro vs u hR hall
    have e36 : vs 36 = .bool false := hall 36 (by simp)
    simp only [putsL]
    rw [e36]
    clear hall e36
    go_wp2
    go_ret
    refine ⟨?_, hR⟩
    rw [getD_put (by simp [Act.put]), if_pos rfl]
  · intro u i o ρ hR ho hρ hc hf hd
    have hi : i < 37 := by
      have := (Array.getElem?_eq_some_iff.1 ho).1
      simpa using this
    obtain rfl | rfl | rfl | rfl | rfl | rfl | rfl | rfl | rfl | rfl | rfl | rfl | rfl | rfl | rfl | rfl | rfl | rfl | rfl | rfl | rfl | rfl | rfl | rfl | rfl | rfl | rfl | rfl | rfl | rfl | rfl | rfl | rfl | rfl | rfl | rfl | rfl : i = 0 ∨ i = 1 ∨ i = 2 ∨ i = 3 ∨ i = 4 ∨ i = 5 ∨ i = 6 ∨ i = 7 ∨ i = 8 ∨ i = 9 ∨ i = 10 ∨ i = 11 ∨ i = 12 ∨ i = 13 ∨ i = 14 ∨ i = 15 ∨ i = 16 ∨ i = 17 ∨ i = 18 ∨ i = 19 ∨ i = 20 ∨ i = 21 ∨ i = 22 ∨ i = 23 ∨ i = 24 ∨ i = 25 ∨ i = 26 ∨ i = 27 ∨ i = 28 ∨ i = 29 ∨ i = 30 ∨ i = 31 ∨ i = 32 ∨ i = 33 ∨ i = 34 ∨ i = 35 ∨ i = 36 := by omega
    all_goals (simp only [List.getElem?_toArray, List.getElem?_cons_zero, List.getElem?_cons_succ, Option.some.injEq] at ho; subst ho)
    · -- 0
      have s0 : ρ (.tmp 0) = .pointer (some ⟨g, 0, none⟩) := (hρ 0 (by kernel_rfl)).trans rfl
      exact .inl ⟨rfl, .inl ⟨_, u, rfl, s0, hR, Below.refl _ _⟩⟩
    · -- 1
      have h0 : ρ (.tmp 33) = .pointer (some ⟨g, 0, none⟩) := hd ⟨0, .data⟩ (by simp) rfl 33 rfl
      exact .inl ⟨rfl, .inl ⟨.pointer (some ⟨g, 0, none⟩), u, run_nil_op rfl h0, rfl, hR, Below.refl _ _⟩⟩
    · -- 2
      have h1 : ρ (.tmp 34) = .pointer (some ⟨g, 0, none⟩) := hd ⟨1, .data⟩ (by simp) rfl 34 rfl
      exact .inl ⟨rfl, .inl ⟨.pointer (some ⟨g, 2, none⟩), u, run_field_op rfl h1 (by go_simp), rfl, hR, Below.refl _ _⟩⟩
    · -- 3
      obtain ⟨⟨y0, y1, y2, y3, y4, y5, y6, y7, y8, y9, y10, y11, y12, y13, y14, y15, y16⟩, _⟩ := (HB.out.1.below hR).svn
      have h2 : ρ (.tmp 35) = .pointer (some ⟨g, 2, none⟩) := hd ⟨2, .data⟩ (by simp) rfl 35 rfl
      refine .inl ⟨rfl, .inr ⟨_, _, run_call_op rfl (hf _) (args := #[.pointer (some ⟨g, 2, none⟩)]) (by simp [h2]) (by kernel_rfl), ?_⟩⟩
      refine (callRight_any L.c g 2 a1 a2 l1 l2 c1 c2 _ y2 y3 y4 y5 y6 y7 y8 y9 y10 HB.out.2.1 HB.out.2.2.1 (HB.out.2.2.2.2.1.below hR) (HB.out.2.2.2.2.2.below hR) hl1 hl2).mono ?_
      rintro e u' ⟨he, b'⟩
      exact ⟨_, he.trans (by rw [HX.out.1]), rfl, bel_nx hR b', b'⟩
    · -- 4
      have h3 : ρ (.tmp 36) = .bool false := hd ⟨3, .data⟩ (by simp) rfl 36 rfl
      exact .inl ⟨rfl, .inl ⟨_, u, rfl, h3, hR, Below.refl _ _⟩⟩
    · -- 5
      have g4 : ρ (.tmp 37) = .bool false := hd ⟨4, .guard⟩ (by simp) rfl 37 rfl
      exact .inr ⟨(by show (match ρ (.tmp 37) with | .bool b => b == true | _ => false) = false; rw [g4]; rfl), rfl⟩
    · -- 6
      have g4 : ρ (.tmp 37) = .bool false := hd ⟨4, .guard⟩ (by simp) rfl 37 rfl
      exact .inr ⟨(by show (match ρ (.tmp 37) with | .bool b => b == true | _ => false) = false; rw [g4]; rfl), rfl⟩
    · -- 7
      have g4 : ρ (.tmp 37) = .bool false := hd ⟨4, .guard⟩ (by simp) rfl 37 rfl
      exact .inr ⟨(by show (match ρ (.tmp 37) with | .bool b => b == true | _ => false) = false; rw [g4]; rfl), rfl⟩
    · -- 8
      have g4 : ρ (.tmp 37) = .bool false := hd ⟨4, .guard⟩ (by simp) rfl 37 rfl
      exact .inr ⟨(by show (match ρ (.tmp 37) with | .bool b => b == true | _ => false) = false; rw [g4]; rfl), rfl⟩
    · -- 9
      have g4 : ρ (.tmp 37) = .bool false := hd ⟨4, .guard⟩ (by simp) rfl 37 rfl
      exact .inr ⟨(by show (match ρ (.tmp 37) with | .bool b => b == true | _ => false) = false; rw [g4]; rfl), rfl⟩
    · -- 10
      have h4 : ρ (.tmp 37) = .bool false := hd ⟨4, .data⟩ (by simp) rfl 37 rfl
      exact .inl ⟨rfl, .inl ⟨_, u, run_pick_op rfl h4, (by simpa using hc _), hR, Below.refl _ _⟩⟩
    · -- 11
      have h10 : ρ (.tmp 43) = .bool false := hd ⟨10, .data⟩ (by simp) rfl 43 rfl
      exact .inl ⟨rfl, .inl ⟨_, u, rfl, h10, hR, Below.refl _ _⟩⟩
    · -- 12
      have g11 : ρ (.tmp 44) = .bool false := hd ⟨11, .guard⟩ (by simp) rfl 44 rfl
      exact .inr ⟨(by show (match ρ (.tmp 44) with | .bool b => b == true | _ => false) = false; rw [g11]; rfl), rfl⟩
    · -- 13
      have g11 : ρ (.tmp 44) = .bool false := hd ⟨11, .guard⟩ (by simp) rfl 44 rfl
      exact .inr ⟨(by show (match ρ (.tmp 44) with | .bool b => b == true | _ => false) = false; rw [g11]; rfl), rfl⟩
    · -- 14
      have g11 : ρ (.tmp 44) = .bool false := hd ⟨11, .guard⟩ (by simp) rfl 44 rfl
      exact .inr ⟨(by show (match ρ (.tmp 44) with | .bool b => b == true | _ => false) = false; rw [g11]; rfl), rfl⟩
    · -- 15
      have g11 : ρ (.tmp 44) = .bool false := hd ⟨11, .guard⟩ (by simp) rfl 44 rfl
      exact .inr ⟨(by show (match ρ (.tmp 44) with | .bool b => b == true | _ => false) = false; rw [g11]; rfl), rfl⟩
    · -- 16
      have g11 : ρ (.tmp 44) = .bool false := hd ⟨11, .guard⟩ (by simp) rfl 44 rfl
      exact .inr ⟨(by show (match ρ (.tmp 44) with | .bool b => b == true | _ => false) = false; rw [g11]; rfl), rfl⟩
    · -- 17
      have h11 : ρ (.tmp 44) = .bool false := hd ⟨11, .data⟩ (by simp) rfl 44 rfl
      exact .inl ⟨rfl, .inl ⟨_, u, run_pick_op rfl h11, (by simpa using hc _), hR, Below.refl _ _⟩⟩
    · -- 18
      have h17 : ρ (.tmp 50) = .bool false := hd ⟨17, .data⟩ (by simp) rfl 50 rfl
      exact .inl ⟨rfl, .inl ⟨_, u, rfl, h17, hR, Below.refl _ _⟩⟩
    · -- 19
      have g18 : ρ (.tmp 51) = .bool false := hd ⟨18, .guard⟩ (by simp) rfl 51 rfl
      exact .inr ⟨(by show (match ρ (.tmp 51) with | .bool b => b == true | _ => false) = false; rw [g18]; rfl), rfl⟩
    · -- 20
      have g18 : ρ (.tmp 51) = .bool false := hd ⟨18, .guard⟩ (by simp) rfl 51 rfl
      exact .inr ⟨(by show (match ρ (.tmp 51) with | .bool b => b == true | _ => false) = false; rw [g18]; rfl), rfl⟩
    · -- 21
      have g18 : ρ (.tmp 51) = .bool false := hd ⟨18, .guard⟩ (by simp) rfl 51 rfl
      exact .inr ⟨(by show (match ρ (.tmp 51) with | .bool b => b == true | _ => false) = false; rw [g18]; rfl), rfl⟩
    · -- 22
      have g18 : ρ (.tmp 51) = .bool false := hd ⟨18, .guard⟩ (by simp) rfl 51 rfl
      exact .inr ⟨(by show (match ρ (.tmp 51) with | .bool b => b == true | _ => false) = false; rw [g18]; rfl), rfl⟩
    · -- 23
      have g18 : ρ (.tmp 51) = .bool false := hd ⟨18, .guard⟩ (by simp) rfl 51 rfl
      exact .inr ⟨(by show (match ρ (.tmp 51) with | .bool b => b == true | _ => false) = false; rw [g18]; rfl), rfl⟩
    · -- 24
      have h18 : ρ (.tmp 51) = .bool false := hd ⟨18, .data⟩ (by simp) rfl 51 rfl
      exact .inl ⟨rfl, .inl ⟨_, u, run_pick_op rfl h18, (by simpa using hc _), hR, Below.refl _ _⟩⟩
    · -- 25
      have h24 : ρ (.tmp 57) = .bool false := hd ⟨24, .data⟩ (by simp) rfl 57 rfl
      exact .inl ⟨rfl, .inl ⟨_, u, rfl, h24, hR, Below.refl _ _⟩⟩
    · -- 26
      have g25 : ρ (.tmp 58) = .bool false := hd ⟨25, .guard⟩ (by simp) rfl 58 rfl
      exact .inr ⟨(by show (match ρ (.tmp 58) with | .bool b => b == true | _ => false) = false; rw [g25]; rfl), rfl⟩
    · -- 27
      have g25 : ρ (.tmp 58) = .bool false := hd ⟨25, .guard⟩ (by simp) rfl 58 rfl
      exact .inr ⟨(by show (match ρ (.tmp 58) with | .bool b => b == true | _ => false) = false; rw [g25]; rfl), rfl⟩
    · -- 28
      have g25 : ρ (.tmp 58) = .bool false := hd ⟨25, .guard⟩ (by simp) rfl 58 rfl
      exact .inr ⟨(by show (match ρ (.tmp 58) with | .bool b => b == true | _ => false) = false; rw [g25]; rfl), rfl⟩
    · -- 29
      have g25 : ρ (.tmp 58) = .bool false := hd ⟨25, .guard⟩ (by simp) rfl 58 rfl
      exact .inr ⟨(by show (match ρ (.tmp 58) with | .bool b => b == true | _ => false) = false; rw [g25]; rfl), rfl⟩
    · -- 30
      have g25 : ρ (.tmp 58) = .bool false := hd ⟨25, .guard⟩ (by simp) rfl 58 rfl
      exact .inr ⟨(by show (match ρ (.tmp 58) with | .bool b => b == true | _ => false) = false; rw [g25]; rfl), rfl⟩
    · -- 31
      have g25 : ρ (.tmp 58) = .bool false := hd ⟨25, .guard⟩ (by simp) rfl 58 rfl
      exact .inr ⟨(by show (match ρ (.tmp 58) with | .bool b => b == true | _ => false) = false; rw [g25]; rfl), rfl⟩
    · -- 32
      have g25 : ρ (.tmp 58) = .bool false := hd ⟨25, .guard⟩ (by simp) rfl 58 rfl
      exact .inr ⟨(by show (match ρ (.tmp 58) with | .bool b => b == true | _ => false) = false; rw [g25]; rfl), rfl⟩
    · -- 33
      have g25 : ρ (.tmp 58) = .bool false := hd ⟨25, .guard⟩ (by simp) rfl 58 rfl
      exact .inr ⟨(by show (match ρ (.tmp 58) with | .bool b => b == true | _ => false) = false; rw [g25]; rfl), rfl⟩
    · -- 34
      have g25 : ρ (.tmp 58) = .bool false := hd ⟨25, .guard⟩ (by simp) rfl 58 rfl
      exact .inr ⟨(by show (match ρ (.tmp 58) with | .bool b => b == true | _ => false) = false; rw [g25]; rfl), rfl⟩
    · -- 35
      have h25 : ρ (.tmp 58) = .bool false := hd ⟨25, .data⟩ (by simp) rfl 58 rfl
      exact .inl ⟨rfl, .inl ⟨_, u, run_pick_op rfl h25, (by simpa using hc _), hR, Below.refl _ _⟩⟩
    · -- 36
      have h35 : ρ (.tmp 68) = .bool false := hd ⟨35, .data⟩ (by simp) rfl 68 rfl
      exact .inl ⟨rfl, .inl ⟨_, u, rfl, h35, hR, Below.refl _ _⟩⟩
set_option maxRecDepth 20000 in
set_option maxHeartbeats 2000000 in
theorem asks_1 (L : La) (g n cp : Nat) (a a1 a2 : Option Addr) (l1 l2 c1 c2 : Nat) (f : Nat → Ca) (w : World) (hB : Blk w g 32 (lac L a n cp a1 a2 l1 l2 c1 c2)) (hs : LnR w n f L a a1 a2 l1 l2) (hl1 : l1 ≤ 2000000) (hl2 : l2 ≤ 2000000) (hbz : L.bz = true) (z2 z3 z4 : Bool)
    (h0 : okCa L.c = true) (h1 : inB L.nu 0 65535 = false) (h2 : inB L.du 0 4294967295 = z2) (h3 : decide (0 ≤ L.le) = z3) (h4 : decide (L.le ≤ L.tr) = z4) :
    Calls Tryz.prog 86 #[.pointer (some ⟨g, 0, none⟩)] w fun e w' => e = .returned (.bool false) ∧ Below w.heap.size w w' := by
  have HX : Hid (okCa L.c = true ∧ inB L.nu 0 65535 = false ∧ inB L.du 0 4294967295 = z2 ∧ decide (0 ≤ L.le) = z3 ∧ decide (L.le ≤ L.tr) = z4) := ⟨h0, h1, h2, h3, h4⟩
  have HB : Hid (Blk w g 32 (lac L a n cp a1 a2 l1 l2 c1 c2) ∧ LnR w n f L a a1 a2 l1 l2) := ⟨hB, hs⟩
  obtain ⟨⟨y0, y1, y2, y3, y4, y5, y6, y7, y8, y9, y10, y11, y12, y13, y14, y15, y16⟩, _⟩ := hB.svn
  rw [hbz] at y1
  clear h0 h1 h2 h3 h4 hB hs
  go_enter Tryz.func86, Tryz.ntmps86
  go_upto_region 3 with fail
  clear y0 y1 y2 y3 y4 y5 y6 y7 y8 y9 y10 y11 y12 y13 y14 y15 y16
  refine wp_region_any (by kernel_rfl) ?_
  refine wpAny_vals (fun u => Below w.heap.size w u) (fun i v u => match i with
    | 0 => v = .pointer (some ⟨g, 0, none⟩)
    | 1 => v = .pointer (some ⟨g, 0, none⟩)
    | 2 => v = .pointer (some ⟨g, 2, none⟩)
    | 3 => v = .bool true
    | 4 => v = .bool true
    | 5 => v = .pointer (some ⟨g, 0, none⟩)
    | 6 => v = .pointer (some ⟨g, 0, none⟩)
    | 7 => v = .pointer (some ⟨g, 11, none⟩)
    | 8 => v = .int .i64 L.nu
    | 9 => v = .bool false
    | 10 => v = .bool false
    | 11 => v = .bool false
    | 12 => v = undef
    | 13 => v = undef
    | 14 => v = undef
    | 15 => v = undef
    | 16 => v = undef
    | 17 => v = .bool false
    | 18 => v = .bool false
    | 19 => v = undef
    | 20 => v = undef
    | 21 => v = undef
    | 22 => v = undef
    | 23 => v = undef
    | 24 => v = .bool false
    | 25 => v = .bool false
    | 26 => v = undef
    | 27 => v = undef
    | 28 => v = undef
    | 29 => v = undef
    | 30 => v = undef
    | 31 => v = undef
    | 32 => v = undef
    | 33 => v = undef
    | 34 => v = undef
    | 35 => v = .bool false
    | 36 => v = .bool false
    | _ => True) (by kernel_rfl) (by kernel_rfl) (fun _ _ _ _ h _ => h) (by first | exact Below.refl _ _ | exact (Below.refl _ _).drew) ?_ ?_ _ _ rfl (by decide) (fun i => by simp [Array.getD]; try (split <;> rfl))
  · intro vs u hR hall
    have e36 : vs 36 = .bool false := hall 36 (by simp)
    simp only [putsL]
    rw [e36]
    clear hall e36
    go_wp2
    go_ret
    refine ⟨?_, hR⟩
    rw [getD_put (by simp [Act.put]), if_pos rfl]
  · intro u i o ρ hR ho hρ hc hf hd
    have hi : i < 37 := by
      have := (Array.getElem?_eq_some_iff.1 ho).1
      simpa using this
    obtain rfl | rfl | rfl | rfl | rfl | rfl | rfl | rfl | rfl | rfl | rfl | rfl | rfl | rfl | rfl | rfl | rfl | rfl | rfl | rfl | rfl | rfl | rfl | rfl | rfl | rfl | rfl | rfl | rfl | rfl | rfl | rfl | rfl | rfl | rfl | rfl | rfl : i = 0 ∨ i = 1 ∨ i = 2 ∨ i = 3 ∨ i = 4 ∨ i = 5 ∨ i = 6 ∨ i = 7 ∨ i = 8 ∨ i = 9 ∨ i = 10 ∨ i = 11 ∨ i = 12 ∨ i = 13 ∨ i = 14 ∨ i = 15 ∨ i = 16 ∨ i = 17 ∨ i = 18 ∨ i = 19 ∨ i = 20 ∨ i = 21 ∨ i = 22 ∨ i = 23 ∨ i = 24 ∨ i = 25 ∨ i = 26 ∨ i = 27 ∨ i = 28 ∨ i = 29 ∨ i = 30 ∨ i = 31 ∨ i = 32 ∨ i = 33 ∨ i = 34 ∨ i = 35 ∨ i = 36 := by omega
    all_goals (simp only [List.getElem?_toArray, List.getElem?_cons_zero, List.getElem?_cons_succ, Option.some.injEq] at ho; subst ho)
    · -- 0
      have s0 : ρ (.tmp 0) = .pointer (some ⟨g, 0, none⟩) := (hρ 0 (by kernel_rfl)).trans rfl
      exact .inl ⟨rfl, .inl ⟨_, u, rfl, s0, hR, Below.refl _ _⟩⟩
    · -- 1
      have h0 : ρ (.tmp 33) = .pointer (some ⟨g, 0, none⟩) := hd ⟨0, .data⟩ (by simp) rfl 33 rfl
      exact .inl ⟨rfl, .inl ⟨.pointer (some ⟨g, 0, none⟩), u, run_nil_op rfl h0, rfl, hR, Below.refl _ _⟩⟩
    · -- 2
      have h1 : ρ (.tmp 34) = .pointer (some ⟨g, 0, none⟩) := hd ⟨1, .data⟩ (by simp) rfl 34 rfl
      exact .inl ⟨rfl, .inl ⟨.pointer (some ⟨g, 2, none⟩), u, run_field_op rfl h1 (by go_simp), rfl, hR, Below.refl _ _⟩⟩
    · -- 3
      obtain ⟨⟨y0, y1, y2, y3, y4, y5, y6, y7, y8, y9, y10, y11, y12, y13, y14, y15, y16⟩, _⟩ := (HB.out.1.below hR).svn
      have h2 : ρ (.tmp 35) = .pointer (some ⟨g, 2, none⟩) := hd ⟨2, .data⟩ (by simp) rfl 35 rfl
      refine .inl ⟨rfl, .inr ⟨_, _, run_call_op rfl (hf _) (args := #[.pointer (some ⟨g, 2, none⟩)]) (by simp [h2]) (by kernel_rfl), ?_⟩⟩
      refine (callRight_any L.c g 2 a1 a2 l1 l2 c1 c2 _ y2 y3 y4 y5 y6 y7 y8 y9 y10 HB.out.2.1 HB.out.2.2.1 (HB.out.2.2.2.2.1.below hR) (HB.out.2.2.2.2.2.below hR) hl1 hl2).mono ?_
      rintro e u' ⟨he, b'⟩
      exact ⟨_, he.trans (by rw [HX.out.1]), rfl, bel_nx hR b', b'⟩
    · -- 4
      have h3 : ρ (.tmp 36) = .bool true := hd ⟨3, .data⟩ (by simp) rfl 36 rfl
      exact .inl ⟨rfl, .inl ⟨_, u, rfl, h3, hR, Below.refl _ _⟩⟩
    · -- 5
      have g4 : ρ (.tmp 37) = .bool true := hd ⟨4, .guard⟩ (by simp) rfl 37 rfl
      have s0 : ρ (.tmp 0) = .pointer (some ⟨g, 0, none⟩) := (hρ 0 (by kernel_rfl)).trans rfl
      exact .inl ⟨(by show (match ρ (.tmp 37) with | .bool b => b == true | _ => false) = true; rw [g4]; rfl), .inl ⟨_, u, rfl, s0, hR, Below.refl _ _⟩⟩
    · -- 6
      have g4 : ρ (.tmp 37) = .bool true := hd ⟨4, .guard⟩ (by simp) rfl 37 rfl
      have h5 : ρ (.tmp 38) = .pointer (some ⟨g, 0, none⟩) := hd ⟨5, .data⟩ (by simp) rfl 38 rfl
      exact .inl ⟨(by show (match ρ (.tmp 37) with | .bool b => b == true | _ => false) = true; rw [g4]; rfl), .inl ⟨.pointer (some ⟨g, 0, none⟩), u, run_nil_op rfl h5, rfl, hR, Below.refl _ _⟩⟩
    · -- 7
      have g4 : ρ (.tmp 37) = .bool true := hd ⟨4, .guard⟩ (by simp) rfl 37 rfl
      have h6 : ρ (.tmp 39) = .pointer (some ⟨g, 0, none⟩) := hd ⟨6, .data⟩ (by simp) rfl 39 rfl
      exact .inl ⟨(by show (match ρ (.tmp 37) with | .bool b => b == true | _ => false) = true; rw [g4]; rfl), .inl ⟨.pointer (some ⟨g, 11, none⟩), u, run_field_op rfl h6 (by go_simp), rfl, hR, Below.refl _ _⟩⟩
    · -- 8
      obtain ⟨⟨y0, y1, y2, y3, y4, y5, y6, y7, y8, y9, y10, y11, y12, y13, y14, y15, y16⟩, _⟩ := (HB.out.1.below hR).svn
      have g4 : ρ (.tmp 37) = .bool true := hd ⟨4, .guard⟩ (by simp) rfl 37 rfl
      have h7 : ρ (.tmp 40) = .pointer (some ⟨g, 11, none⟩) := hd ⟨7, .data⟩ (by simp) rfl 40 rfl
      have hr : (Instr.loadAt 3 (.pointer (some ⟨g, 11, none⟩))).run Tryz.prog u = .ok (.int .i64 L.nu) u := by go_simp
      exact .inl ⟨(by show (match ρ (.tmp 37) with | .bool b => b == true | _ => false) = true; rw [g4]; rfl), .inl ⟨.int .i64 L.nu, u, run_load_op rfl h7 hr, rfl, hR, Below.refl _ _⟩⟩
    · -- 9
      have g4 : ρ (.tmp 37) = .bool true := hd ⟨4, .guard⟩ (by simp) rfl 37 rfl
      have h8 : ρ (.tmp 41) = .int .i64 L.nu := hd ⟨8, .data⟩ (by simp) rfl 41 rfl
      refine .inl ⟨(by show (match ρ (.tmp 37) with | .bool b => b == true | _ => false) = true; rw [g4]; rfl), .inr ⟨_, _, run_call_op rfl (hf _) (args := #[.int .i64 L.nu]) (by simp [h8]) (by kernel_rfl), ?_⟩⟩
      refine (isWord_any _ _ _ HX.out.2.1).mono ?_
      rintro e u' ⟨he, rfl⟩
      exact ⟨_, he, rfl, hR, Below.refl _ _⟩
    · -- 10
      have h4 : ρ (.tmp 37) = .bool true := hd ⟨4, .data⟩ (by simp) rfl 37 rfl
      have h9 : ρ (.tmp 42) = .bool false := hd ⟨9, .data⟩ (by simp) rfl 42 rfl
      exact .inl ⟨rfl, .inl ⟨_, u, run_pick_op rfl h4, (by simpa using h9), hR, Below.refl _ _⟩⟩
    · -- 11
      have h10 : ρ (.tmp 43) = .bool false := hd ⟨10, .data⟩ (by simp) rfl 43 rfl
      exact .inl ⟨rfl, .inl ⟨_, u, rfl, h10, hR, Below.refl _ _⟩⟩
    · -- 12
      have g11 : ρ (.tmp 44) = .bool false := hd ⟨11, .guard⟩ (by simp) rfl 44 rfl
      exact .inr ⟨(by show (match ρ (.tmp 44) with | .bool b => b == true | _ => false) = false; rw [g11]; rfl), rfl⟩
    · -- 13
      have g11 : ρ (.tmp 44) = .bool false := hd ⟨11, .guard⟩ (by simp) rfl 44 rfl
      exact .inr ⟨(by show (match ρ (.tmp 44) with | .bool b => b == true | _ => false) = false; rw [g11]; rfl), rfl⟩
    · -- 14
      have g11 : ρ (.tmp 44) = .bool false := hd ⟨11, .guard⟩ (by simp) rfl 44 rfl
      exact .inr ⟨(by show (match ρ (.tmp 44) with | .bool b => b == true | _ => false) = false; rw [g11]; rfl), rfl⟩
    · -- 15
      have g11 : ρ (.tmp 44) = .bool false := hd ⟨11, .guard⟩ (by simp) rfl 44 rfl
      exact .inr ⟨(by show (match ρ (.tmp 44) with | .bool b => b == true | _ => false) = false; rw [g11]; rfl), rfl⟩
    · -- 16
      have g11 : ρ (.tmp 44) = .bool false := hd ⟨11, .guard⟩ (by simp) rfl 44 rfl
      exact .inr ⟨(by show (match ρ (.tmp 44) with | .bool b => b == true | _ => false) = false; rw [g11]; rfl), rfl⟩
    · -- 17
      have h11 : ρ (.tmp 44) = .bool false := hd ⟨11, .data⟩ (by simp) rfl 44 rfl
      exact .inl ⟨rfl, .inl ⟨_, u, run_pick_op rfl h11, (by simpa using hc _), hR, Below.refl _ _⟩⟩
    · -- 18
      have h17 : ρ (.tmp 50) = .bool false := hd ⟨17, .data⟩ (by simp) rfl 50 rfl
      exact .inl ⟨rfl, .inl ⟨_, u, rfl, h17, hR, Below.refl _ _⟩⟩
    · -- 19
      have g18 : ρ (.tmp 51) = .bool false := hd ⟨18, .guard⟩ (by simp) rfl 51 rfl
      exact .inr ⟨(by show (match ρ (.tmp 51) with | .bool b => b == true | _ => false) = false; rw [g18]; rfl), rfl⟩
    · -- 20
      have g18 : ρ (.tmp 51) = .bool false := hd ⟨18, .guard⟩ (by simp) rfl 51 rfl
      exact .inr ⟨(by show (match ρ (.tmp 51) with | .bool b => b == true | _ => false) = false; rw [g18]; rfl), rfl⟩
    · -- 21
      have g18 : ρ (.tmp 51) = .bool false := hd ⟨18, .guard⟩ (by simp) rfl 51 rfl
      exact .inr ⟨(by show (match ρ (.tmp 51) with | .bool b => b == true | _ => false) = false; rw [g18]; rfl), rfl⟩
    · -- 22
      have g18 : ρ (.tmp 51) = .bool false := hd ⟨18, .guard⟩ (by simp) rfl 51 rfl
      exact .inr ⟨(by show (match ρ (.tmp 51) with | .bool b => b == true | _ => false) = false; rw [g18]; rfl), rfl⟩
    · -- 23
      have g18 : ρ (.tmp 51) = .bool false := hd ⟨18, .guard⟩ (by simp) rfl 51 rfl
      exact .inr ⟨(by show (match ρ (.tmp 51) with | .bool b => b == true | _ => false) = false; rw [g18]; rfl), rfl⟩
    · -- 24
      have h18 : ρ (.tmp 51) = .bool false := hd ⟨18, .data⟩ (by simp) rfl 51 rfl
      exact .inl ⟨rfl, .inl ⟨_, u, run_pick_op rfl h18, (by simpa using hc _), hR, Below.refl _ _⟩⟩
    · -- 25
      have h24 : ρ (.tmp 57) = .bool false := hd ⟨24, .data⟩ (by simp) rfl 57 rfl
      exact .inl ⟨rfl, .inl ⟨_, u, rfl, h24, hR, Below.refl _ _⟩⟩
    · -- 26
      have g25 : ρ (.tmp 58) = .bool false := hd ⟨25, .guard⟩ (by simp) rfl 58 rfl
      exact .inr ⟨(by show (match ρ (.tmp 58) with | .bool b => b == true | _ => false) = false; rw [g25]; rfl), rfl⟩
    · -- 27
      have g25 : ρ (.tmp 58) = .bool false := hd ⟨25, .guard⟩ (by simp) rfl 58 rfl
      exact .inr ⟨(by show (match ρ (.tmp 58) with | .bool b => b == true | _ => false) = false; rw [g25]; rfl), rfl⟩
    · -- 28
      have g25 : ρ (.tmp 58) = .bool false := hd ⟨25, .guard⟩ (by simp) rfl 58 rfl
      exact .inr ⟨(by show (match ρ (.tmp 58) with | .bool b => b == true | _ => false) = false; rw [g25]; rfl), rfl⟩
    · -- 29
      have g25 : ρ (.tmp 58) = .bool false := hd ⟨25, .guard⟩ (by simp) rfl 58 rfl
      exact .inr ⟨(by show (match ρ (.tmp 58) with | .bool b => b == true | _ => false) = false; rw [g25]; rfl), rfl⟩
    · -- 30
      have g25 : ρ (.tmp 58) = .bool false := hd ⟨25, .guard⟩ (by simp) rfl 58 rfl
      exact .inr ⟨(by show (match ρ (.tmp 58) with | .bool b => b == true | _ => false) = false; rw [g25]; rfl), rfl⟩
    · -- 31
      have g25 : ρ (.tmp 58) = .bool false := hd ⟨25, .guard⟩ (by simp) rfl 58 rfl
      exact .inr ⟨(by show (match ρ (.tmp 58) with | .bool b => b == true | _ => false) = false; rw [g25]; rfl), rfl⟩
    · -- 32
      have g25 : ρ (.tmp 58) = .bool false := hd ⟨25, .guard⟩ (by simp) rfl 58 rfl
      exact .inr ⟨(by show (match ρ (.tmp 58) with | .bool b => b == true | _ => false) = false; rw [g25]; rfl), rfl⟩
    · -- 33
      have g25 : ρ (.tmp 58) = .bool false := hd ⟨25, .guard⟩ (by simp) rfl 58 rfl
      exact .inr ⟨(by show (match ρ (.tmp 58) with | .bool b => b == true | _ => false) = false; rw [g25]; rfl), rfl⟩
    · -- 34
      have g25 : ρ (.tmp 58) = .bool false := hd ⟨25, .guard⟩ (by simp) rfl 58 rfl
      exact .inr ⟨(by show (match ρ (.tmp 58) with | .bool b => b == true | _ => false) = false; rw [g25]; rfl), rfl⟩
    · -- 35
      have h25 : ρ (.tmp 58) = .bool false := hd ⟨25, .data⟩ (by simp) rfl 58 rfl
      exact .inl ⟨rfl, .inl ⟨_, u, run_pick_op rfl h25, (by simpa using hc _), hR, Below.refl _ _⟩⟩
    · -- 36
      have h35 : ρ (.tmp 68) = .bool false := hd ⟨35, .data⟩ (by simp) rfl 68 rfl
      exact .inl ⟨rfl, .inl ⟨_, u, rfl, h35, hR, Below.refl _ _⟩⟩
set_option maxRecDepth 20000 in
set_option maxHeartbeats 2000000 in
theorem asks_2 (L : La) (g n cp : Nat) (a a1 a2 : Option Addr) (l1 l2 c1 c2 : Nat) (f : Nat → Ca) (w : World) (hB : Blk w g 32 (lac L a n cp a1 a2 l1 l2 c1 c2)) (hs : LnR w n f L a a1 a2 l1 l2) (hl1 : l1 ≤ 2000000) (hl2 : l2 ≤ 2000000) (hbz : L.bz = true) (z3 z4 : Bool)
    (h0 : okCa L.c = true) (h1 : inB L.nu 0 65535 = true) (h2 : inB L.du 0 4294967295 = false) (h3 : decide (0 ≤ L.le) = z3) (h4 : decide (L.le ≤ L.tr) = z4) :
    Calls Tryz.prog 86 #[.pointer (some ⟨g, 0, none⟩)] w fun e w' => e = .returned (.bool false) ∧ Below w.heap.size w w' := by
  have HX : Hid (okCa L.c = true ∧ inB L.nu 0 65535 = true ∧ inB L.du 0 4294967295 = false ∧ decide (0 ≤ L.le) = z3 ∧ decide (L.le ≤ L.tr) = z4) := ⟨h0, h1, h2, h3, h4⟩
  have HB : Hid (Blk w g 32 (lac L a n cp a1 a2 l1 l2 c1 c2) ∧ LnR w n f L a a1 a2 l1 l2) := ⟨hB, hs⟩
  obtain ⟨⟨y0, y1, y2, y3, y4, y5, y6, y7, y8, y9, y10, y11, y12, y13, y14, y15, y16⟩, _⟩ := hB.svn
  rw [hbz] at y1
  clear h0 h1 h2 h3 h4 hB hs
  go_enter Tryz.func86, Tryz.ntmps86
  go_upto_region 3 with fail
  clear y0 y1 y2 y3 y4 y5 y6 y7 y8 y9 y10 y11 y12 y13 y14 y15 y16
  refine wp_region_any (by kernel_rfl) ?_
  refine wpAny_vals (fun u => Below w.heap.size w u) (fun i v u => match i with
    | 0 => v = .pointer (some ⟨g, 0, none⟩)
    | 1 => v = .pointer (some ⟨g, 0, none⟩)
    | 2 => v = .pointer (some ⟨g, 2, none⟩)
    | 3 => v = .bool true
    | 4 => v = .bool true
    | 5 => v = .pointer (some ⟨g, 0, none⟩)
    | 6 => v = .pointer (some ⟨g, 0, none⟩)
    | 7 => v = .pointer (some ⟨g, 11, none⟩)
    | 8 => v = .int .i64 L.nu
    | 9 => v = .bool true
    | 10 => v = .bool true
    | 11 => v = .bool true
    | 12 => v = .pointer (some ⟨g, 0, none⟩)
    | 13 => v = .pointer (some ⟨g, 0, none⟩)
    | 14 => v = .pointer (some ⟨g, 12, none⟩)
    | 15 => v = .int .i64 L.du
    | 16 => v = .bool false
    | 17 => v = .bool false
    | 18 => v = .bool false
    | 19 => v = undef
    | 20 => v = undef
    | 21 => v = undef
    | 22 => v = undef
    | 23 => v = undef
    | 24 => v = .bool false
    | 25 => v = .bool false
    | 26 => v = undef
    | 27 => v = undef
    | 28 => v = undef
    | 29 => v = undef
    | 30 => v = undef
    | 31 => v = undef
    | 32 => v = undef
    | 33 => v = undef
    | 34 => v = undef
    | 35 => v = .bool false
    | 36 => v = .bool false
    | _ => True) (by kernel_rfl) (by kernel_rfl) (fun _ _ _ _ h _ => h) (by first | exact Below.refl _ _ | exact (Below.refl _ _).drew) ?_ ?_ _ _ rfl (by decide) (fun i => by simp [Array.getD]; try (split <;> rfl))
  · intro vs u hR hall
    have e36 : vs 36 = .bool false := hall 36 (by simp)
    simp only [putsL]
    rw [e36]
    clear hall e36
    go_wp2
    go_ret
    refine ⟨?_, hR⟩
    rw [getD_put (by simp [Act.put]), if_pos rfl]
  · intro u i o ρ hR ho hρ hc hf hd
    have hi : i < 37 := by
      have := (Array.getElem?_eq_some_iff.1 ho).1
      simpa using this
    obtain rfl | rfl | rfl | rfl | rfl | rfl | rfl | rfl | rfl | rfl | rfl | rfl | rfl | rfl | rfl | rfl | rfl | rfl | rfl | rfl | rfl | rfl | rfl | rfl | rfl | rfl | rfl | rfl | rfl | rfl | rfl | rfl | rfl | rfl | rfl | rfl | rfl : i = 0 ∨ i = 1 ∨ i = 2 ∨ i = 3 ∨ i = 4 ∨ i = 5 ∨ i = 6 ∨ i = 7 ∨ i = 8 ∨ i = 9 ∨ i = 10 ∨ i = 11 ∨ i = 12 ∨ i = 13 ∨ i = 14 ∨ i = 15 ∨ i = 16 ∨ i = 17 ∨ i = 18 ∨ i = 19 ∨ i = 20 ∨ i = 21 ∨ i = 22 ∨ i = 23 ∨ i = 24 ∨ i = 25 ∨ i = 26 ∨ i = 27 ∨ i = 28 ∨ i = 29 ∨ i = 30 ∨ i = 31 ∨ i = 32 ∨ i = 33 ∨ i = 34 ∨ i = 35 ∨ i = 36 := by omega
    all_goals (simp only [List.getElem?_toArray, List.getElem?_cons_zero, List.getElem?_cons_succ, Option.some.injEq] at ho; subst ho)
    · -- 0
      have s0 : ρ (.tmp 0) = .pointer (some ⟨g, 0, none⟩) := (hρ 0 (by kernel_rfl)).trans rfl
      exact .inl ⟨rfl, .inl ⟨_, u, rfl, s0, hR, Below.refl _ _⟩⟩
    · -- 1
      have h0 : ρ (.tmp 33) = .pointer (some ⟨g, 0, none⟩) := hd ⟨0, .data⟩ (by simp) rfl 33 rfl
      exact .inl ⟨rfl, .inl ⟨.pointer (some ⟨g, 0, none⟩), u, run_nil_op rfl h0, rfl, hR, Below.refl _ _⟩⟩
    · -- 2
      have h1 : ρ (.tmp 34) = .pointer (some ⟨g, 0, none⟩) := hd ⟨1, .data⟩ (by simp) rfl 34 rfl
      exact .inl ⟨rfl, .inl ⟨.pointer (some ⟨g, 2, none⟩), u, run_field_op rfl h1 (by go_simp), rfl, hR, Below.refl _ _⟩⟩
    · -- 3
      obtain ⟨⟨y0, y1, y2, y3, y4, y5, y6, y7, y8, y9, y10, y11, y12, y13, y14, y15, y16⟩, _⟩ := (HB.out.1.below hR).svn
      have h2 : ρ (.tmp 35) = .pointer (some ⟨g, 2, none⟩) := hd ⟨2, .data⟩ (by simp) rfl 35 rfl
      refine .inl ⟨rfl, .inr ⟨_, _, run_call_op rfl (hf _) (args := #[.pointer (some ⟨g, 2, none⟩)]) (by simp [h2]) (by kernel_rfl), ?_⟩⟩
      refine (callRight_any L.c g 2 a1 a2 l1 l2 c1 c2 _ y2 y3 y4 y5 y6 y7 y8 y9 y10 HB.out.2.1 HB.out.2.2.1 (HB.out.2.2.2.2.1.below hR) (HB.out.2.2.2.2.2.below hR) hl1 hl2).mono ?_
      rintro e u' ⟨he, b'⟩
      exact ⟨_, he.trans (by rw [HX.out.1]), rfl, bel_nx hR b', b'⟩
    · -- 4
      have h3 : ρ (.tmp 36) = .bool true := hd ⟨3, .data⟩ (by simp) rfl 36 rfl
      exact .inl ⟨rfl, .inl ⟨_, u, rfl, h3, hR, Below.refl _ _⟩⟩
    · -- 5
      have g4 : ρ (.tmp 37) = .bool true := hd ⟨4, .guard⟩ (by simp) rfl 37 rfl
      have s0 : ρ (.tmp 0) = .pointer (some ⟨g, 0, none⟩) := (hρ 0 (by kernel_rfl)).trans rfl
      exact .inl ⟨(by show (match ρ (.tmp 37) with | .bool b => b == true | _ => false) = true; rw [g4]; rfl), .inl ⟨_, u, rfl, s0, hR, Below.refl _ _⟩⟩
    · -- 6
      have g4 : ρ (.tmp 37) = .bool true := hd ⟨4, .guard⟩ (by simp) rfl 37 rfl
      have h5 : ρ (.tmp 38) = .pointer (some ⟨g, 0, none⟩) := hd ⟨5, .data⟩ (by simp) rfl 38 rfl
      exact .inl ⟨(by show (match ρ (.tmp 37) with | .bool b => b == true | _ => false) = true; rw [g4]; rfl), .inl ⟨.pointer (some ⟨g, 0, none⟩), u, run_nil_op rfl h5, rfl, hR, Below.refl _ _⟩⟩
    · -- 7
      have g4 : ρ (.tmp 37) = .bool true := hd ⟨4, .guard⟩ (by simp) rfl 37 rfl
      have h6 : ρ (.tmp 39) = .pointer (some ⟨g, 0, none⟩) := hd ⟨6, .data⟩ (by simp) rfl 39 rfl
      exact .inl ⟨(by show (match ρ (.tmp 37) with | .bool b => b == true | _ => false) = true; rw [g4]; rfl), .inl ⟨.pointer (some ⟨g, 11, none⟩), u, run_field_op rfl h6 (by go_simp), rfl, hR, Below.refl _ _⟩⟩
    · -- 8
      obtain ⟨⟨y0, y1, y2, y3, y4, y5, y6, y7, y8, y9, y10, y11, y12, y13, y14, y15, y16⟩, _⟩ := (HB.out.1.below hR).svn
      have g4 : ρ (.tmp 37) = .bool true := hd ⟨4, .guard⟩ (by simp) rfl 37 rfl
      have h7 : ρ (.tmp 40) = .pointer (some ⟨g, 11, none⟩) := hd ⟨7, .data⟩ (by simp) rfl 40 rfl
      have hr : (Instr.loadAt 3 (.pointer (some ⟨g, 11, none⟩))).run Tryz.prog u = .ok (.int .i64 L.nu) u := by go_simp
      exact .inl ⟨(by show (match ρ (.tmp 37) with | .bool b => b == true | _ => false) = true; rw [g4]; rfl), .inl ⟨.int .i64 L.nu, u, run_load_op rfl h7 hr, rfl, hR, Below.refl _ _⟩⟩
    · -- 9
      have g4 : ρ (.tmp 37) = .bool true := hd ⟨4, .guard⟩ (by simp) rfl 37 rfl
      have h8 : ρ (.tmp 41) = .int .i64 L.nu := hd ⟨8, .data⟩ (by simp) rfl 41 rfl
      refine .inl ⟨(by show (match ρ (.tmp 37) with | .bool b => b == true | _ => false) = true; rw [g4]; rfl), .inr ⟨_, _, run_call_op rfl (hf _) (args := #[.int .i64 L.nu]) (by simp [h8]) (by kernel_rfl), ?_⟩⟩
      refine (isWord_any _ _ _ HX.out.2.1).mono ?_
      rintro e u' ⟨he, rfl⟩
      exact ⟨_, he, rfl, hR, Below.refl _ _⟩
    · -- 10
      have h4 : ρ (.tmp 37) = .bool true := hd ⟨4, .data⟩ (by simp) rfl 37 rfl
      have h9 : ρ (.tmp 42) = .bool true := hd ⟨9, .data⟩ (by simp) rfl 42 rfl
      exact .inl ⟨rfl, .inl ⟨_, u, run_pick_op rfl h4, (by simpa using h9), hR, Below.refl _ _⟩⟩
    · -- 11
      have h10 : ρ (.tmp 43) = .bool true := hd ⟨10, .data⟩ (by simp) rfl 43 rfl
      exact .inl ⟨rfl, .inl ⟨_, u, rfl, h10, hR, Below.refl _ _⟩⟩
    · -- 12
      have g11 : ρ (.tmp 44) = .bool true := hd ⟨11, .guard⟩ (by simp) rfl 44 rfl
      have s0 : ρ (.tmp 0) = .pointer (some ⟨g, 0, none⟩) := (hρ 0 (by kernel_rfl)).trans rfl
      exact .inl ⟨(by show (match ρ (.tmp 44) with | .bool b => b == true | _ => false) = true; rw [g11]; rfl), .inl ⟨_, u, rfl, s0, hR, Below.refl _ _⟩⟩
    · -- 13
      have g11 : ρ (.tmp 44) = .bool true := hd ⟨11, .guard⟩ (by simp) rfl 44 rfl
      have h12 : ρ (.tmp 45) = .pointer (some ⟨g, 0, none⟩) := hd ⟨12, .data⟩ (by simp) rfl 45 rfl
      exact .inl ⟨(by show (match ρ (.tmp 44) with | .bool b => b == true | _ => false) = true; rw [g11]; rfl), .inl ⟨.pointer (some ⟨g, 0, none⟩), u, run_nil_op rfl h12, rfl, hR, Below.refl _ _⟩⟩
    · -- 14
      have g11 : ρ (.tmp 44) = .bool true := hd ⟨11, .guard⟩ (by simp) rfl 44 rfl
      have h13 : ρ (.tmp 46) = .pointer (some ⟨g, 0, none⟩) := hd ⟨13, .data⟩ (by simp) rfl 46 rfl
      exact .inl ⟨(by show (match ρ (.tmp 44) with | .bool b => b == true | _ => false) = true; rw [g11]; rfl), .inl ⟨.pointer (some ⟨g, 12, none⟩), u, run_field_op rfl h13 (by go_simp), rfl, hR, Below.refl _ _⟩⟩
    · -- 15
      obtain ⟨⟨y0, y1, y2, y3, y4, y5, y6, y7, y8, y9, y10, y11, y12, y13, y14, y15, y16⟩, _⟩ := (HB.out.1.below hR).svn
      have g11 : ρ (.tmp 44) = .bool true := hd ⟨11, .guard⟩ (by simp) rfl 44 rfl
      have h14 : ρ (.tmp 47) = .pointer (some ⟨g, 12, none⟩) := hd ⟨14, .data⟩ (by simp) rfl 47 rfl
      have hr : (Instr.loadAt 3 (.pointer (some ⟨g, 12, none⟩))).run Tryz.prog u = .ok (.int .i64 L.du) u := by go_simp
      exact .inl ⟨(by show (match ρ (.tmp 44) with | .bool b => b == true | _ => false) = true; rw [g11]; rfl), .inl ⟨.int .i64 L.du, u, run_load_op rfl h14 hr, rfl, hR, Below.refl _ _⟩⟩
    · -- 16
      have g11 : ρ (.tmp 44) = .bool true := hd ⟨11, .guard⟩ (by simp) rfl 44 rfl
      have h15 : ρ (.tmp 48) = .int .i64 L.du := hd ⟨15, .data⟩ (by simp) rfl 48 rfl
      refine .inl ⟨(by show (match ρ (.tmp 44) with | .bool b => b == true | _ => false) = true; rw [g11]; rfl), .inr ⟨_, _, run_call_op rfl (hf _) (args := #[.int .i64 L.du]) (by simp [h15]) (by kernel_rfl), ?_⟩⟩
      refine (isTickL _ _ _ HX.out.2.2.1).mono ?_
      rintro e u' ⟨he, rfl⟩
      exact ⟨_, he, rfl, hR, Below.refl _ _⟩
    · -- 17
      have h11 : ρ (.tmp 44) = .bool true := hd ⟨11, .data⟩ (by simp) rfl 44 rfl
      have h16 : ρ (.tmp 49) = .bool false := hd ⟨16, .data⟩ (by simp) rfl 49 rfl
      exact .inl ⟨rfl, .inl ⟨_, u, run_pick_op rfl h11, (by simpa using h16), hR, Below.refl _ _⟩⟩
    · -- 18
      have h17 : ρ (.tmp 50) = .bool false := hd ⟨17, .data⟩ (by simp) rfl 50 rfl
      exact .inl ⟨rfl, .inl ⟨_, u, rfl, h17, hR, Below.refl _ _⟩⟩
    · -- 19
      have g18 : ρ (.tmp 51) = .bool false := hd ⟨18, .guard⟩ (by simp) rfl 51 rfl
      exact .inr ⟨(by show (match ρ (.tmp 51) with | .bool b => b == true | _ => false) = false; rw [g18]; rfl), rfl⟩
    · -- 20
      have g18 : ρ (.tmp 51) = .bool false := hd ⟨18, .guard⟩ (by simp) rfl 51 rfl
      exact .inr ⟨(by show (match ρ (.tmp 51) with | .bool b => b == true | _ => false) = false; rw [g18]; rfl), rfl⟩
    · -- 21
      have g18 : ρ (.tmp 51) = .bool false := hd ⟨18, .guard⟩ (by simp) rfl 51 rfl
      exact .inr ⟨(by show (match ρ (.tmp 51) with | .bool b => b == true | _ => false) = false; rw [g18]; rfl), rfl⟩
    · -- 22
      have g18 : ρ (.tmp 51) = .bool false := hd ⟨18, .guard⟩ (by simp) rfl 51 rfl
      exact .inr ⟨(by show (match ρ (.tmp 51) with | .bool b => b == true | _ => false) = false; rw [g18]; rfl), rfl⟩
    · -- 23
      have g18 : ρ (.tmp 51) = .bool false := hd ⟨18, .guard⟩ (by simp) rfl 51 rfl
      exact .inr ⟨(by show (match ρ (.tmp 51) with | .bool b => b == true | _ => false) = false; rw [g18]; rfl), rfl⟩
    · -- 24
      have h18 : ρ (.tmp 51) = .bool false := hd ⟨18, .data⟩ (by simp) rfl 51 rfl
      exact .inl ⟨rfl, .inl ⟨_, u, run_pick_op rfl h18, (by simpa using hc _), hR, Below.refl _ _⟩⟩
    · -- 25
      have h24 : ρ (.tmp 57) = .bool false := hd ⟨24, .data⟩ (by simp) rfl 57 rfl
      exact .inl ⟨rfl, .inl ⟨_, u, rfl, h24, hR, Below.refl _ _⟩⟩
    · -- 26
      have g25 : ρ (.tmp 58) = .bool false := hd ⟨25, .guard⟩ (by simp) rfl 58 rfl
      exact .inr ⟨(by show (match ρ (.tmp 58) with | .bool b => b == true | _ => false) = false; rw [g25]; rfl), rfl⟩
    · -- 27
      have g25 : ρ (.tmp 58) = .bool false := hd ⟨25, .guard⟩ (by simp) rfl 58 rfl
      exact .inr ⟨(by show (match ρ (.tmp 58) with | .bool b => b == true | _ => false) = false; rw [g25]; rfl), rfl⟩
    · -- 28
      have g25 : ρ (.tmp 58) = .bool false := hd ⟨25, .guard⟩ (by simp) rfl 58 rfl
      exact .inr ⟨(by show (match ρ (.tmp 58) with | .bool b => b == true | _ => false) = false; rw [g25]; rfl), rfl⟩
    · -- 29
      have g25 : ρ (.tmp 58) = .bool false := hd ⟨25, .guard⟩ (by simp) rfl 58 rfl
      exact .inr ⟨(by show (match ρ (.tmp 58) with | .bool b => b == true | _ => false) = false; rw [g25]; rfl), rfl⟩
    · -- 30
      have g25 : ρ (.tmp 58) = .bool false := hd ⟨25, .guard⟩ (by simp) rfl 58 rfl
      exact .inr ⟨(by show (match ρ (.tmp 58) with | .bool b => b == true | _ => false) = false; rw [g25]; rfl), rfl⟩
    · -- 31
      have g25 : ρ (.tmp 58) = .bool false := hd ⟨25, .guard⟩ (by simp) rfl 58 rfl
      exact .inr ⟨(by show (match ρ (.tmp 58) with | .bool b => b == true | _ => false) = false; rw [g25]; rfl), rfl⟩
    · -- 32
      have g25 : ρ (.tmp 58) = .bool false := hd ⟨25, .guard⟩ (by simp) rfl 58 rfl
      exact .inr ⟨(by show (match ρ (.tmp 58) with | .bool b => b == true | _ => false) = false; rw [g25]; rfl), rfl⟩
    · -- 33
      have g25 : ρ (.tmp 58) = .bool false := hd ⟨25, .guard⟩ (by simp) rfl 58 rfl
      exact .inr ⟨(by show (match ρ (.tmp 58) with | .bool b => b == true | _ => false) = false; rw [g25]; rfl), rfl⟩
    · -- 34
      have g25 : ρ (.tmp 58) = .bool false := hd ⟨25, .guard⟩ (by simp) rfl 58 rfl
      exact .inr ⟨(by show (match ρ (.tmp 58) with | .bool b => b == true | _ => false) = false; rw [g25]; rfl), rfl⟩
    · -- 35
      have h25 : ρ (.tmp 58) = .bool false := hd ⟨25, .data⟩ (by simp) rfl 58 rfl
      exact .inl ⟨rfl, .inl ⟨_, u, run_pick_op rfl h25, (by simpa using hc _), hR, Below.refl _ _⟩⟩
    · -- 36
      have h35 : ρ (.tmp 68) = .bool false := hd ⟨35, .data⟩ (by simp) rfl 68 rfl
      exact .inl ⟨rfl, .inl ⟨_, u, rfl, h35, hR, Below.refl _ _⟩⟩
set_option maxRecDepth 20000 in
set_option maxHeartbeats 2000000 in
theorem asks_3 (L : La) (g n cp : Nat) (a a1 a2 : Option Addr) (l1 l2 c1 c2 : Nat) (f : Nat → Ca) (w : World) (hB : Blk w g 32 (lac L a n cp a1 a2 l1 l2 c1 c2)) (hs : LnR w n f L a a1 a2 l1 l2) (hl1 : l1 ≤ 2000000) (hl2 : l2 ≤ 2000000) (hbz : L.bz = true) (z4 : Bool)
    (h0 : okCa L.c = true) (h1 : inB L.nu 0 65535 = true) (h2 : inB L.du 0 4294967295 = true) (h3 : decide (0 ≤ L.le) = false) (h4 : decide (L.le ≤ L.tr) = z4) :
    Calls Tryz.prog 86 #[.pointer (some ⟨g, 0, none⟩)] w fun e w' => e = .returned (.bool false) ∧ Below w.heap.size w w' := by
  have HX : Hid (okCa L.c = true ∧ inB L.nu 0 65535 = true ∧ inB L.du 0 4294967295 = true ∧ decide (0 ≤ L.le) = false ∧ decide (L.le ≤ L.tr) = z4) := ⟨h0, h1, h2, h3, h4⟩
  have HB : Hid (Blk w g 32 (lac L a n cp a1 a2 l1 l2 c1 c2) ∧ LnR w n f L a a1 a2 l1 l2) := ⟨hB, hs⟩
  obtain ⟨⟨y0, y1, y2, y3, y4, y5, y6, y7, y8, y9, y10, y11, y12, y13, y14, y15, y16⟩, _⟩ := hB.svn
  rw [hbz] at y1
  clear h0 h1 h2 h3 h4 hB hs
  go_enter Tryz.func86, Tryz.ntmps86
  go_upto_region 3 with fail
  clear y0 y1 y2 y3 y4 y5 y6 y7 y8 y9 y10 y11 y12 y13 y14 y15 y16
  refine wp_region_any (by kernel_rfl) ?_
  refine wpAny_vals (fun u => Below w.heap.size w u) (fun i v u => match i with
    | 0 => v = .pointer (some ⟨g, 0, none⟩)
    | 1 => v = .pointer (some ⟨g, 0, none⟩)
    | 2 => v = .pointer (some ⟨g, 2, none⟩)
    | 3 => v = .bool true
    | 4 => v = .bool true
    | 5 => v = .pointer (some ⟨g, 0, none⟩)
    | 6 => v = .pointer (some ⟨g, 0, none⟩)
    | 7 => v = .pointer (some ⟨g, 11, none⟩)
    | 8 => v = .int .i64 L.nu
    | 9 => v = .bool true
    | 10 => v = .bool true
    | 11 => v = .bool true
    | 12 => v = .pointer (some ⟨g, 0, none⟩)
    | 13 => v = .pointer (some ⟨g, 0, none⟩)
    | 14 => v = .pointer (some ⟨g, 12, none⟩)
    | 15 => v = .int .i64 L.du
    | 16 => v = .bool true
    | 17 => v = .bool true
    | 18 => v = .bool true
    | 19 => v = .pointer (some ⟨g, 0, none⟩)
    | 20 => v = .pointer (some ⟨g, 0, none⟩)
    | 21 => v = .pointer (some ⟨g, 13, none⟩)
    | 22 => v = .int .i64 L.le
    | 23 => v = .bool false
    | 24 => v = .bool false
    | 25 => v = .bool false
    | 26 => v = undef
    | 27 => v = undef
    | 28 => v = undef
    | 29 => v = undef
    | 30 => v = undef
    | 31 => v = undef
    | 32 => v = undef
    | 33 => v = undef
    | 34 => v = undef
    | 35 => v = .bool false
    | 36 => v = .bool false
    | _ => True) (by kernel_rfl) (by kernel_rfl) (fun _ _ _ _ h _ => h) (by first | exact Below.refl _ _ | exact (Below.refl _ _).drew) ?_ ?_ _ _ rfl (by decide) (fun i => by simp [Array.getD]; try (split <;> rfl))
  · intro vs u hR hall
    have e36 : vs 36 = .bool false := hall 36 (by simp)
    simp only [putsL]
    rw [e36]
    clear hall e36
    go_wp2
    go_ret
    refine ⟨?_, hR⟩
    rw [getD_put (by simp [Act.put]), if_pos rfl]
  · intro u i o ρ hR ho hρ hc hf hd
    have hi : i < 37 := by
      have := (Array.getElem?_eq_some_iff.1 ho).1
      simpa using this
    obtain rfl | rfl | rfl | rfl | rfl | rfl | rfl | rfl | rfl | rfl | rfl | rfl | rfl | rfl | rfl | rfl | rfl | rfl | rfl | rfl | rfl | rfl | rfl | rfl | rfl | rfl | rfl | rfl | rfl | rfl | rfl | rfl | rfl | rfl | rfl | rfl | rfl : i = 0 ∨ i = 1 ∨ i = 2 ∨ i = 3 ∨ i = 4 ∨ i = 5 ∨ i = 6 ∨ i = 7 ∨ i = 8 ∨ i = 9 ∨ i = 10 ∨ i = 11 ∨ i = 12 ∨ i = 13 ∨ i = 14 ∨ i = 15 ∨ i = 16 ∨ i = 17 ∨ i = 18 ∨ i = 19 ∨ i = 20 ∨ i = 21 ∨ i = 22 ∨ i = 23 ∨ i = 24 ∨ i = 25 ∨ i = 26 ∨ i = 27 ∨ i = 28 ∨ i = 29 ∨ i = 30 ∨ i = 31 ∨ i = 32 ∨ i = 33 ∨ i = 34 ∨ i = 35 ∨ i = 36 := by omega
    all_goals (simp only [List.getElem?_toArray, List.getElem?_cons_zero, List.getElem?_cons_succ, Option.some.injEq] at ho; subst ho)
    · -- 0
      have s0 : ρ (.tmp 0) = .pointer (some ⟨g, 0, none⟩) := (hρ 0 (by kernel_rfl)).trans rfl
      exact .inl ⟨rfl, .inl ⟨_, u, rfl, s0, hR, Below.refl _ _⟩⟩
    · -- 1
      have h0 : ρ (.tmp 33) = .pointer (some ⟨g, 0, none⟩) := hd ⟨0, .data⟩ (by simp) rfl 33 rfl
      exact .inl ⟨rfl, .inl ⟨.pointer (some ⟨g, 0, none⟩), u, run_nil_op rfl h0, rfl, hR, Below.refl _ _⟩⟩
    · -- 2
      have h1 : ρ (.tmp 34) = .pointer (some ⟨g, 0, none⟩) := hd ⟨1, .data⟩ (by simp) rfl 34 rfl
      exact .inl ⟨rfl, .inl ⟨.pointer (some ⟨g, 2, none⟩), u, run_field_op rfl h1 (by go_simp), rfl, hR, Below.refl _ _⟩⟩
    · -- 3
      obtain ⟨⟨y0, y1, y2, y3, y4, y5, y6, y7, y8, y9, y10, y11, y12, y13, y14, y15, y16⟩, _⟩ := (HB.out.1.below hR).svn
      have h2 : ρ (.tmp 35) = .pointer (some ⟨g, 2, none⟩) := hd ⟨2, .data⟩ (by simp) rfl 35 rfl
      refine .inl ⟨rfl, .inr ⟨_, _, run_call_op rfl (hf _) (args := #[.pointer (some ⟨g, 2, none⟩)]) (by simp [h2]) (by kernel_rfl), ?_⟩⟩
      refine (callRight_any L.c g 2 a1 a2 l1 l2 c1 c2 _ y2 y3 y4 y5 y6 y7 y8 y9 y10 HB.out.2.1 HB.out.2.2.1 (HB.out.2.2.2.2.1.below hR) (HB.out.2.2.2.2.2.below hR) hl1 hl2).mono ?_
      rintro e u' ⟨he, b'⟩
      exact ⟨_, he.trans (by rw [HX.out.1]), rfl, bel_nx hR b', b'⟩
    · -- 4
      have h3 : ρ (.tmp 36) = .bool true := hd ⟨3, .data⟩ (by simp) rfl 36 rfl
      exact .inl ⟨rfl, .inl ⟨_, u, rfl, h3, hR, Below.refl _ _⟩⟩
    · -- 5
      have g4 : ρ (.tmp 37) = .bool true := hd ⟨4, .guard⟩ (by simp) rfl 37 rfl
      have s0 : ρ (.tmp 0) = .pointer (some ⟨g, 0, none⟩) := (hρ 0 (by kernel_rfl)).trans rfl
      exact .inl ⟨(by show (match ρ (.tmp 37) with | .bool b => b == true | _ => false) = true; rw [g4]; rfl), .inl ⟨_, u, rfl, s0, hR, Below.refl _ _⟩⟩
    · -- 6
      have g4 : ρ (.tmp 37) = .bool true := hd ⟨4, .guard⟩ (by simp) rfl 37 rfl
      have h5 : ρ (.tmp 38) = .pointer (some ⟨g, 0, none⟩) := hd ⟨5, .data⟩ (by simp) rfl 38 rfl
      exact .inl ⟨(by show (match ρ (.tmp 37) with | .bool b => b == true | _ => false) = true; rw [g4]; rfl), .inl ⟨.pointer (some ⟨g, 0, none⟩), u, run_nil_op rfl h5, rfl, hR, Below.refl _ _⟩⟩
    · -- 7
      have g4 : ρ (.tmp 37) = .bool true := hd ⟨4, .guard⟩ (by simp) rfl 37 rfl
      have h6 : ρ (.tmp 39) = .pointer (some ⟨g, 0, none⟩) := hd ⟨6, .data⟩ (by simp) rfl 39 rfl
      exact .inl ⟨(by show (match ρ (.tmp 37) with | .bool b => b == true | _ => false) = true; rw [g4]; rfl), .inl ⟨.pointer (some ⟨g, 11, none⟩), u, run_field_op rfl h6 (by go_simp), rfl, hR, Below.refl _ _⟩⟩
    · -- 8
      obtain ⟨⟨y0, y1, y2, y3, y4, y5, y6, y7, y8, y9, y10, y11, y12, y13, y14, y15, y16⟩, _⟩ := (HB.out.1.below hR).svn
      have g4 : ρ (.tmp 37) = .bool true := hd ⟨4, .guard⟩ (by simp) rfl 37 rfl
      have h7 : ρ (.tmp 40) = .pointer (some ⟨g, 11, none⟩) := hd ⟨7, .data⟩ (by simp) rfl 40 rfl
      have hr : (Instr.loadAt 3 (.pointer (some ⟨g, 11, none⟩))).run Tryz.prog u = .ok (.int .i64 L.nu) u := by go_simp
      exact .inl ⟨(by show (match ρ (.tmp 37) with | .bool b => b == true | _ => false) = true; rw [g4]; rfl), .inl ⟨.int .i64 L.nu, u, run_load_op rfl h7 hr, rfl, hR, Below.refl _ _⟩⟩
    · -- 9
      have g4 : ρ (.tmp 37) = .bool true := hd ⟨4, .guard⟩ (by simp) rfl 37 rfl
      have h8 : ρ (.tmp 41) = .int .i64 L.nu := hd ⟨8, .data⟩ (by simp) rfl 41 rfl
      refine .inl ⟨(by show (match ρ (.tmp 37) with | .bool b => b == true | _ => false) = true; rw [g4]; rfl), .inr ⟨_, _, run_call_op rfl (hf _) (args := #[.int .i64 L.nu]) (by simp [h8]) (by kernel_rfl), ?_⟩⟩
      refine (isWord_any _ _ _ HX.out.2.1).mono ?_
      rintro e u' ⟨he, rfl⟩
      exact ⟨_, he, rfl, hR, Below.refl _ _⟩
    · -- 10
      have h4 : ρ (.tmp 37) = .bool true := hd ⟨4, .data⟩ (by simp) rfl 37 rfl
      have h9 : ρ (.tmp 42) = .bool true := hd ⟨9, .data⟩ (by simp) rfl 42 rfl
      exact .inl ⟨rfl, .inl ⟨_, u, run_pick_op rfl h4, (by simpa using h9), hR, Below.refl _ _⟩⟩
    · -- 11
      have h10 : ρ (.tmp 43) = .bool true := hd ⟨10, .data⟩ (by simp) rfl 43 rfl
      exact .inl ⟨rfl, .inl ⟨_, u, rfl, h10, hR, Below.refl _ _⟩⟩
    · -- 12
      have g11 : ρ (.tmp 44) = .bool true := hd ⟨11, .guard⟩ (by simp) rfl 44 rfl
      have s0 : ρ (.tmp 0) = .pointer (some ⟨g, 0, none⟩) := (hρ 0 (by kernel_rfl)).trans rfl
      exact .inl ⟨(by show (match ρ (.tmp 44) with | .bool b => b == true | _ => false) = true; rw [g11]; rfl), .inl ⟨_, u, rfl, s0, hR, Below.refl _ _⟩⟩
    · -- 13
      have g11 : ρ (.tmp 44) = .bool true := hd ⟨11, .guard⟩ (by simp) rfl 44 rfl
      have h12 : ρ (.tmp 45) = .pointer (some ⟨g, 0, none⟩) := hd ⟨12, .data⟩ (by simp) rfl 45 rfl
      exact .inl ⟨(by show (match ρ (.tmp 44) with | .bool b => b == true | _ => false) = true; rw [g11]; rfl), .inl ⟨.pointer (some ⟨g, 0, none⟩), u, run_nil_op rfl h12, rfl, hR, Below.refl _ _⟩⟩
    · -- 14
      have g11 : ρ (.tmp 44) = .bool true := hd ⟨11, .guard⟩ (by simp) rfl 44 rfl
      have h13 : ρ (.tmp 46) = .pointer (some ⟨g, 0, none⟩) := hd ⟨13, .data⟩ (by simp) rfl 46 rfl
      exact .inl ⟨(by show (match ρ (.tmp 44) with | .bool b => b == true | _ => false) = true; rw [g11]; rfl), .inl ⟨.pointer (some ⟨g, 12, none⟩), u, run_field_op rfl h13 (by go_simp), rfl, hR, Below.refl _ _⟩⟩
    · -- 15
      obtain ⟨⟨y0, y1, y2, y3, y4, y5, y6, y7, y8, y9, y10, y11, y12, y13, y14, y15, y16⟩, _⟩ := (HB.out.1.below hR).svn
      have g11 : ρ (.tmp 44) = .bool true := hd ⟨11, .guard⟩ (by simp) rfl 44 rfl
      have h14 : ρ (.tmp 47) = .pointer (some ⟨g, 12, none⟩) := hd ⟨14, .data⟩ (by simp) rfl 47 rfl
      have hr : (Instr.loadAt 3 (.pointer (some ⟨g, 12, none⟩))).run Tryz.prog u = .ok (.int .i64 L.du) u := by go_simp
      exact .inl ⟨(by show (match ρ (.tmp 44) with | .bool b => b == true | _ => false) = true; rw [g11]; rfl), .inl ⟨.int .i64 L.du, u, run_load_op rfl h14 hr, rfl, hR, Below.refl _ _⟩⟩
    · -- 16
      have g11 : ρ (.tmp 44) = .bool true := hd ⟨11, .guard⟩ (by simp) rfl 44 rfl
      have h15 : ρ (.tmp 48) = .int .i64 L.du := hd ⟨15, .data⟩ (by simp) rfl 48 rfl
      refine .inl ⟨(by show (match ρ (.tmp 44) with | .bool b => b == true | _ => false) = true; rw [g11]; rfl), .inr ⟨_, _, run_call_op rfl (hf _) (args := #[.int .i64 L.du]) (by simp [h15]) (by kernel_rfl), ?_⟩⟩
      refine (isTickL _ _ _ HX.out.2.2.1).mono ?_
      rintro e u' ⟨he, rfl⟩
      exact ⟨_, he, rfl, hR, Below.refl _ _⟩
    · -- 17
      have h11 : ρ (.tmp 44) = .bool true := hd ⟨11, .data⟩ (by simp) rfl 44 rfl
      have h16 : ρ (.tmp 49) = .bool true := hd ⟨16, .data⟩ (by simp) rfl 49 rfl
      exact .inl ⟨rfl, .inl ⟨_, u, run_pick_op rfl h11, (by simpa using h16), hR, Below.refl _ _⟩⟩
    · -- 18
      have h17 : ρ (.tmp 50) = .bool true := hd ⟨17, .data⟩ (by simp) rfl 50 rfl
      exact .inl ⟨rfl, .inl ⟨_, u, rfl, h17, hR, Below.refl _ _⟩⟩
    · -- 19
      have g18 : ρ (.tmp 51) = .bool true := hd ⟨18, .guard⟩ (by simp) rfl 51 rfl
      have s0 : ρ (.tmp 0) = .pointer (some ⟨g, 0, none⟩) := (hρ 0 (by kernel_rfl)).trans rfl
      exact .inl ⟨(by show (match ρ (.tmp 51) with | .bool b => b == true | _ => false) = true; rw [g18]; rfl), .inl ⟨_, u, rfl, s0, hR, Below.refl _ _⟩⟩
    · -- 20
      have g18 : ρ (.tmp 51) = .bool true := hd ⟨18, .guard⟩ (by simp) rfl 51 rfl
      have h19 : ρ (.tmp 52) = .pointer (some ⟨g, 0, none⟩) := hd ⟨19, .data⟩ (by simp) rfl 52 rfl
      exact .inl ⟨(by show (match ρ (.tmp 51) with | .bool b => b == true | _ => false) = true; rw [g18]; rfl), .inl ⟨.pointer (some ⟨g, 0, none⟩), u, run_nil_op rfl h19, rfl, hR, Below.refl _ _⟩⟩
    · -- 21
      have g18 : ρ (.tmp 51) = .bool true := hd ⟨18, .guard⟩ (by simp) rfl 51 rfl
      have h20 : ρ (.tmp 53) = .pointer (some ⟨g, 0, none⟩) := hd ⟨20, .data⟩ (by simp) rfl 53 rfl
      exact .inl ⟨(by show (match ρ (.tmp 51) with | .bool b => b == true | _ => false) = true; rw [g18]; rfl), .inl ⟨.pointer (some ⟨g, 13, none⟩), u, run_field_op rfl h20 (by go_simp), rfl, hR, Below.refl _ _⟩⟩
    · -- 22
      obtain ⟨⟨y0, y1, y2, y3, y4, y5, y6, y7, y8, y9, y10, y11, y12, y13, y14, y15, y16⟩, _⟩ := (HB.out.1.below hR).svn
      have g18 : ρ (.tmp 51) = .bool true := hd ⟨18, .guard⟩ (by simp) rfl 51 rfl
      have h21 : ρ (.tmp 54) = .pointer (some ⟨g, 13, none⟩) := hd ⟨21, .data⟩ (by simp) rfl 54 rfl
      have hr : (Instr.loadAt 3 (.pointer (some ⟨g, 13, none⟩))).run Tryz.prog u = .ok (.int .i64 L.le) u := by go_simp
      exact .inl ⟨(by show (match ρ (.tmp 51) with | .bool b => b == true | _ => false) = true; rw [g18]; rfl), .inl ⟨.int .i64 L.le, u, run_load_op rfl h21 hr, rfl, hR, Below.refl _ _⟩⟩
    · -- 23
      have q9 := HX.out.2.2.2.1
      have g18 : ρ (.tmp 51) = .bool true := hd ⟨18, .guard⟩ (by simp) rfl 51 rfl
      have h22 : ρ (.tmp 55) = .int .i64 L.le := hd ⟨22, .data⟩ (by simp) rfl 55 rfl
      exact .inl ⟨(by show (match ρ (.tmp 51) with | .bool b => b == true | _ => false) = true; rw [g18]; rfl), .inl ⟨.bool false, u, run_bin_op rfl (hc _) h22 (by go_simp), rfl, hR, Below.refl _ _⟩⟩
    · -- 24
      have h18 : ρ (.tmp 51) = .bool true := hd ⟨18, .data⟩ (by simp) rfl 51 rfl
      have h23 : ρ (.tmp 56) = .bool false := hd ⟨23, .data⟩ (by simp) rfl 56 rfl
      exact .inl ⟨rfl, .inl ⟨_, u, run_pick_op rfl h18, (by simpa using h23), hR, Below.refl _ _⟩⟩
    · -- 25
      have h24 : ρ (.tmp 57) = .bool false := hd ⟨24, .data⟩ (by simp) rfl 57 rfl
      exact .inl ⟨rfl, .inl ⟨_, u, rfl, h24, hR, Below.refl _ _⟩⟩
    · -- 26
      have g25 : ρ (.tmp 58) = .bool false := hd ⟨25, .guard⟩ (by simp) rfl 58 rfl
      exact .inr ⟨(by show (match ρ (.tmp 58) with | .bool b => b == true | _ => false) = false; rw [g25]; rfl), rfl⟩
    · -- 27
      have g25 : ρ (.tmp 58) = .bool false := hd ⟨25, .guard⟩ (by simp) rfl 58 rfl
      exact .inr ⟨(by show (match ρ (.tmp 58) with | .bool b => b == true | _ => false) = false; rw [g25]; rfl), rfl⟩
    · -- 28
      have g25 : ρ (.tmp 58) = .bool false := hd ⟨25, .guard⟩ (by simp) rfl 58 rfl
      exact .inr ⟨(by show (match ρ (.tmp 58) with | .bool b => b == true | _ => false) = false; rw [g25]; rfl), rfl⟩
    · -- 29
      have g25 : ρ (.tmp 58) = .bool false := hd ⟨25, .guard⟩ (by simp) rfl 58 rfl
      exact .inr ⟨(by show (match ρ (.tmp 58) with | .bool b => b == true | _ => false) = false; rw [g25]; rfl), rfl⟩
    · -- 30
      have g25 : ρ (.tmp 58) = .bool false := hd ⟨25, .guard⟩ (by simp) rfl 58 rfl
      exact .inr ⟨(by show (match ρ (.tmp 58) with | .bool b => b == true | _ => false) = false; rw [g25]; rfl), rfl⟩
    · -- 31
      have g25 : ρ (.tmp 58) = .bool false := hd ⟨25, .guard⟩ (by simp) rfl 58 rfl
      exact .inr ⟨(by show (match ρ (.tmp 58) with | .bool b => b == true | _ => false) = false; rw [g25]; rfl), rfl⟩
    · -- 32
      have g25 : ρ (.tmp 58) = .bool false := hd ⟨25, .guard⟩ (by simp) rfl 58 rfl
      exact .inr ⟨(by show (match ρ (.tmp 58) with | .bool b => b == true | _ => false) = false; rw [g25]; rfl), rfl⟩
    · -- 33
      have g25 : ρ (.tmp 58) = .bool false := hd ⟨25, .guard⟩ (by simp) rfl 58 rfl
      exact .inr ⟨(by show (match ρ (.tmp 58) with | .bool b => b == true | _ => false) = false; rw [g25]; rfl), rfl⟩
    · -- 34
      have g25 : ρ (.tmp 58) = .bool false := hd ⟨25, .guard⟩ (by simp) rfl 58 rfl
      exact .inr ⟨(by show (match ρ (.tmp 58) with | .bool b => b == true | _ => false) = false; rw [g25]; rfl), rfl⟩
    · -- 35
      have h25 : ρ (.tmp 58) = .bool false := hd ⟨25, .data⟩ (by simp) rfl 58 rfl
      exact .inl ⟨rfl, .inl ⟨_, u, run_pick_op rfl h25, (by simpa using hc _), hR, Below.refl _ _⟩⟩
    · -- 36
      have h35 : ρ (.tmp 68) = .bool false := hd ⟨35, .data⟩ (by simp) rfl 68 rfl
      exact .inl ⟨rfl, .inl ⟨_, u, rfl, h35, hR, Below.refl _ _⟩⟩
set_option maxRecDepth 20000 in
set_option maxHeartbeats 2000000 in
theorem asks_4 (L : La) (g n cp : Nat) (a a1 a2 : Option Addr) (l1 l2 c1 c2 : Nat) (f : Nat → Ca) (w : World) (hB : Blk w g 32 (lac L a n cp a1 a2 l1 l2 c1 c2)) (hs : LnR w n f L a a1 a2 l1 l2) (hl1 : l1 ≤ 2000000) (hl2 : l2 ≤ 2000000) (hbz : L.bz = true)
    (h0 : okCa L.c = true) (h1 : inB L.nu 0 65535 = true) (h2 : inB L.du 0 4294967295 = true) (h3 : decide (0 ≤ L.le) = true) (h4 : decide (L.le ≤ L.tr) = false) :
    Calls Tryz.prog 86 #[.pointer (some ⟨g, 0, none⟩)] w fun e w' => e = .returned (.bool false) ∧ Below w.heap.size w w' := by
  have HX : Hid (okCa L.c = true ∧ inB L.nu 0 65535 = true ∧ inB L.du 0 4294967295 = true ∧ decide (0 ≤ L.le) = true ∧ decide (L.le ≤ L.tr) = false) := ⟨h0, h1, h2, h3, h4⟩
  have HB : Hid (Blk w g 32 (lac L a n cp a1 a2 l1 l2 c1 c2) ∧ LnR w n f L a a1 a2 l1 l2) := ⟨hB, hs⟩
  obtain ⟨⟨y0, y1, y2, y3, y4, y5, y6, y7, y8, y9, y10, y11, y12, y13, y14, y15, y16⟩, _⟩ := hB.svn
  rw [hbz] at y1
  clear h0 h1 h2 h3 h4 hB hs
  go_enter Tryz.func86, Tryz.ntmps86
  go_upto_region 3 with fail
  clear y0 y1 y2 y3 y4 y5 y6 y7 y8 y9 y10 y11 y12 y13 y14 y15 y16
  refine wp_region_any (by kernel_rfl) ?_
  refine wpAny_vals (fun u => Below w.heap.size w u) (fun i v u => match i with
    | 0 => v = .pointer (some ⟨g, 0, none⟩)
    | 1 => v = .pointer (some ⟨g, 0, none⟩)
    | 2 => v = .pointer (some ⟨g, 2, none⟩)
    | 3 => v = .bool true
    | 4 => v = .bool true
    | 5 => v = .pointer (some ⟨g, 0, none⟩)
    | 6 => v = .pointer (some ⟨g, 0, none⟩)
    | 7 => v = .pointer (some ⟨g, 11, none⟩)
    | 8 => v = .int .i64 L.nu
    | 9 => v = .bool true
    | 10 => v = .bool true
    | 11 => v = .bool true
    | 12 => v = .pointer (some ⟨g, 0, none⟩)
    | 13 => v = .pointer (some ⟨g, 0, none⟩)
    | 14 => v = .pointer (some ⟨g, 12, none⟩)
    | 15 => v = .int .i64 L.du
    | 16 => v = .bool true
    | 17 => v = .bool true
    | 18 => v = .bool true
    | 19 => v = .pointer (some ⟨g, 0, none⟩)
    | 20 => v = .pointer (some ⟨g, 0, none⟩)
    | 21 => v = .pointer (some ⟨g, 13, none⟩)
    | 22 => v = .int .i64 L.le
    | 23 => v = .bool true
    | 24 => v = .bool true
    | 25 => v = .bool true
    | 26 => v = .pointer (some ⟨g, 0, none⟩)
    | 27 => v = .pointer (some ⟨g, 0, none⟩)
    | 28 => v = .pointer (some ⟨g, 13, none⟩)
    | 29 => v = .int .i64 L.le
    | 30 => v = .pointer (some ⟨g, 0, none⟩)
    | 31 => v = .pointer (some ⟨g, 0, none⟩)
    | 32 => v = .pointer (some ⟨g, 16, none⟩)
    | 33 => v = .int .i64 L.tr
    | 34 => v = .bool false
    | 35 => v = .bool false
    | 36 => v = .bool false
    | _ => True) (by kernel_rfl) (by kernel_rfl) (fun _ _ _ _ h _ => h) (by first | exact Below.refl _ _ | exact (Below.refl _ _).drew) ?_ ?_ _ _ rfl (by decide) (fun i => by simp [Array.getD]; try (split <;> rfl))
  · intro vs u hR hall
    have e36 : vs 36 = .bool false := hall 36 (by simp)
    simp only [putsL]
    rw [e36]
    clear hall e36
    go_wp2
    go_ret
    refine ⟨?_, hR⟩
    rw [getD_put (by simp [Act.put]), if_pos rfl]
  · intro u i o ρ hR ho hρ hc hf hd
    have hi : i < 37 := by
      have := (Array.getElem?_eq_some_iff.1 ho).1
      simpa using this
    obtain rfl | rfl | rfl | rfl | rfl | rfl | rfl | rfl | rfl | rfl | rfl | rfl | rfl | rfl | rfl | rfl | rfl | rfl | rfl | rfl | rfl | rfl | rfl | rfl | rfl | rfl | rfl | rfl | rfl | rfl | rfl | rfl | rfl | rfl | rfl | rfl | rfl : i = 0 ∨ i = 1 ∨ i = 2 ∨ i = 3 ∨ i = 4 ∨ i = 5 ∨ i = 6 ∨ i = 7 ∨ i = 8 ∨ i = 9 ∨ i = 10 ∨ i = 11 ∨ i = 12 ∨ i = 13 ∨ i = 14 ∨ i = 15 ∨ i = 16 ∨ i = 17 ∨ i = 18 ∨ i = 19 ∨ i = 20 ∨ i = 21 ∨ i = 22 ∨ i = 23 ∨ i = 24 ∨ i = 25 ∨ i = 26 ∨ i = 27 ∨ i = 28 ∨ i = 29 ∨ i = 30 ∨ i = 31 ∨ i = 32 ∨ i = 33 ∨ i = 34 ∨ i = 35 ∨ i = 36 := by omega
    all_goals (simp only [List.getElem?_toArray, List.getElem?_cons_zero, List.getElem?_cons_succ, Option.some.injEq] at ho; subst ho)
    · -- 0
      have s0 : ρ (.tmp 0) = .pointer (some ⟨g, 0, none⟩) := (hρ 0 (by kernel_rfl)).trans rfl
      exact .inl ⟨rfl, .inl ⟨_, u, rfl, s0, hR, Below.refl _ _⟩⟩
    · -- 1
      have h0 : ρ (.tmp 33) = .pointer (some ⟨g, 0, none⟩) := hd ⟨0, .data⟩ (by simp) rfl 33 rfl
      exact .inl ⟨rfl, .inl ⟨.pointer (some ⟨g, 0, none⟩), u, run_nil_op rfl h0, rfl, hR, Below.refl _ _⟩⟩
    · -- 2
      have h1 : ρ (.tmp 34) = .pointer (some ⟨g, 0, none⟩) := hd ⟨1, .data⟩ (by simp) rfl 34 rfl
      exact .inl ⟨rfl, .inl ⟨.pointer (some ⟨g, 2, none⟩), u, run_field_op rfl h1 (by go_simp), rfl, hR, Below.refl _ _⟩⟩
    · -- 3
      obtain ⟨⟨y0, y1, y2, y3, y4, y5, y6, y7, y8, y9, y10, y11, y12, y13, y14, y15, y16⟩, _⟩ := (HB.out.1.below hR).svn
      have h2 : ρ (.tmp 35) = .pointer (some ⟨g, 2, none⟩) := hd ⟨2, .data⟩ (by simp) rfl 35 rfl
      refine .inl ⟨rfl, .inr ⟨_, _, run_call_op rfl (hf _) (args := #[.pointer (some ⟨g, 2, none⟩)]) (by simp [h2]) (by kernel_rfl), ?_⟩⟩
      refine (callRight_any L.c g 2 a1 a2 l1 l2 c1 c2 _ y2 y3 y4 y5 y6 y7 y8 y9 y10 HB.out.2.1 HB.out.2.2.1 (HB.out.2.2.2.2.1.below hR) (HB.out.2.2.2.2.2.below hR) hl1 hl2).mono ?_
      rintro e u' ⟨he, b'⟩
      exact ⟨_, he.trans (by rw [HX.out.1]), rfl, bel_nx hR b', b'⟩
    · -- 4
      have h3 : ρ (.tmp 36) = .bool true := hd ⟨3, .data⟩ (by simp) rfl 36 rfl
      exact .inl ⟨rfl, .inl ⟨_, u, rfl, h3, hR, Below.refl _ _⟩⟩
    · -- 5
      have g4 : ρ (.tmp 37) = .bool true := hd ⟨4, .guard⟩ (by simp) rfl 37 rfl
      have s0 : ρ (.tmp 0) = .pointer (some ⟨g, 0, none⟩) := (hρ 0 (by kernel_rfl)).trans rfl
      exact .inl ⟨(by show (match ρ (.tmp 37) with | .bool b => b == true | _ => false) = true; rw [g4]; rfl), .inl ⟨_, u, rfl, s0, hR, Below.refl _ _⟩⟩
    · -- 6
      have g4 : ρ (.tmp 37) = .bool true := hd ⟨4, .guard⟩ (by simp) rfl 37 rfl
      have h5 : ρ (.tmp 38) = .pointer (some ⟨g, 0, none⟩) := hd ⟨5, .data⟩ (by simp) rfl 38 rfl
      exact .inl ⟨(by show (match ρ (.tmp 37) with | .bool b => b == true | _ => false) = true; rw [g4]; rfl), .inl ⟨.pointer (some ⟨g, 0, none⟩), u, run_nil_op rfl h5, rfl, hR, Below.refl _ _⟩⟩
    · -- 7
      have g4 : ρ (.tmp 37) = .bool true := hd ⟨4, .guard⟩ (by simp) rfl 37 rfl
      have h6 : ρ (.tmp 39) = .pointer (some ⟨g, 0, none⟩) := hd ⟨6, .data⟩ (by simp) rfl 39 rfl
      exact .inl ⟨(by show (match ρ (.tmp 37) with | .bool b => b == true | _ => false) = true; rw [g4]; rfl), .inl ⟨.pointer (some ⟨g, 11, none⟩), u, run_field_op rfl h6 (by go_simp), rfl, hR, Below.refl _ _⟩⟩
    · -- 8
      obtain ⟨⟨y0, y1, y2, y3, y4, y5, y6, y7, y8, y9, y10, y11, y12, y13, y14, y15, y16⟩, _⟩ := (HB.out.1.below hR).svn
      have g4 : ρ (.tmp 37) = .bool true := hd ⟨4, .guard⟩ (by simp) rfl 37 rfl
      have h7 : ρ (.tmp 40) = .pointer (some ⟨g, 11, none⟩) := hd ⟨7, .data⟩ (by simp) rfl 40 rfl
      have hr : (Instr.loadAt 3 (.pointer (some ⟨g, 11, none⟩))).run Tryz.prog u = .ok (.int .i64 L.nu) u := by go_simp
      exact .inl ⟨(by show (match ρ (.tmp 37) with | .bool b => b == true | _ => false) = true; rw [g4]; rfl), .inl ⟨.int .i64 L.nu, u, run_load_op rfl h7 hr, rfl, hR, Below.refl _ _⟩⟩
    · -- 9
      have g4 : ρ (.tmp 37) = .bool true := hd ⟨4, .guard⟩ (by simp) rfl 37 rfl
      have h8 : ρ (.tmp 41) = .int .i64 L.nu := hd ⟨8, .data⟩ (by simp) rfl 41 rfl
      refine .inl ⟨(by show (match ρ (.tmp 37) with | .bool b => b == true | _ => false) = true; rw [g4]; rfl), .inr ⟨_, _, run_call_op rfl (hf _) (args := #[.int .i64 L.nu]) (by simp [h8]) (by kernel_rfl), ?_⟩⟩
      refine (isWord_any _ _ _ HX.out.2.1).mono ?_
      rintro e u' ⟨he, rfl⟩
      exact ⟨_, he, rfl, hR, Below.refl _ _⟩
    · -- 10
      have h4 : ρ (.tmp 37) = .bool true := hd ⟨4, .data⟩ (by simp) rfl 37 rfl
      have h9 : ρ (.tmp 42) = .bool true := hd ⟨9, .data⟩ (by simp) rfl 42 rfl
      exact .inl ⟨rfl, .inl ⟨_, u, run_pick_op rfl h4, (by simpa using h9), hR, Below.refl _ _⟩⟩
    · -- 11
      have h10 : ρ (.tmp 43) = .bool true := hd ⟨10, .data⟩ (by simp) rfl 43 rfl
      exact .inl ⟨rfl, .inl ⟨_, u, rfl, h10, hR, Below.refl _ _⟩⟩
    · -- 12
      have g11 : ρ (.tmp 44) = .bool true := hd ⟨11, .guard⟩ (by simp) rfl 44 rfl
      have s0 : ρ (.tmp 0) = .pointer (some ⟨g, 0, none⟩) := (hρ 0 (by kernel_rfl)).trans rfl
      exact .inl ⟨(by show (match ρ (.tmp 44) with | .bool b => b == true | _ => false) = true; rw [g11]; rfl), .inl ⟨_, u, rfl, s0, hR, Below.refl _ _⟩⟩
    · -- 13
      have g11 : ρ (.tmp 44) = .bool true := hd ⟨11, .guard⟩ (by simp) rfl 44 rfl
      have h12 : ρ (.tmp 45) = .pointer (some ⟨g, 0, none⟩) := hd ⟨12, .data⟩ (by simp) rfl 45 rfl
      exact .inl ⟨(by show (match ρ (.tmp 44) with | .bool b => b == true | _ => false) = true; rw [g11]; rfl), .inl ⟨.pointer (some ⟨g, 0, none⟩), u, run_nil_op rfl h12, rfl, hR, Below.refl _ _⟩⟩
    · -- 14
      have g11 : ρ (.tmp 44) = .bool true := hd ⟨11, .guard⟩ (by simp) rfl 44 rfl
      have h13 : ρ (.tmp 46) = .pointer (some ⟨g, 0, none⟩) := hd ⟨13, .data⟩ (by simp) rfl 46 rfl
      exact .inl ⟨(by show (match ρ (.tmp 44) with | .bool b => b == true | _ => false) = true; rw [g11]; rfl), .inl ⟨.pointer (some ⟨g, 12, none⟩), u, run_field_op rfl h13 (by go_simp), rfl, hR, Below.refl _ _⟩⟩
    · -- 15
      obtain ⟨⟨y0, y1, y2, y3, y4, y5, y6, y7, y8, y9, y10, y11, y12, y13, y14, y15, y16⟩, _⟩ := (HB.out.1.below hR).svn
      have g11 : ρ (.tmp 44) = .bool true := hd ⟨11, .guard⟩ (by simp) rfl 44 rfl
      have h14 : ρ (.tmp 47) = .pointer (some ⟨g, 12, none⟩) := hd ⟨14, .data⟩ (by simp) rfl 47 rfl
      have hr : (Instr.loadAt 3 (.pointer (some ⟨g, 12, none⟩))).run Tryz.prog u = .ok (.int .i64 L.du) u := by go_simp
      exact .inl ⟨(by show (match ρ (.tmp 44) with | .bool b => b == true | _ => false) = true; rw [g11]; rfl), .inl ⟨.int .i64 L.du, u, run_load_op rfl h14 hr, rfl, hR, Below.refl _ _⟩⟩
    · -- 16
      have g11 : ρ (.tmp 44) = .bool true := hd ⟨11, .guard⟩ (by simp) rfl 44 rfl
      have h15 : ρ (.tmp 48) = .int .i64 L.du := hd ⟨15, .data⟩ (by simp) rfl 48 rfl
      refine .inl ⟨(by show (match ρ (.tmp 44) with | .bool b => b == true | _ => false) = true; rw [g11]; rfl), .inr ⟨_, _, run_call_op rfl (hf _) (args := #[.int .i64 L.du]) (by simp [h15]) (by kernel_rfl), ?_⟩⟩
      refine (isTickL _ _ _ HX.out.2.2.1).mono ?_
      rintro e u' ⟨he, rfl⟩
      exact ⟨_, he, rfl, hR, Below.refl _ _⟩
    · -- 17
      have h11 : ρ (.tmp 44) = .bool true := hd ⟨11, .data⟩ (by simp) rfl 44 rfl
      have h16 : ρ (.tmp 49) = .bool true := hd ⟨16, .data⟩ (by simp) rfl 49 rfl
      exact .inl ⟨rfl, .inl ⟨_, u, run_pick_op rfl h11, (by simpa using h16), hR, Below.refl _ _⟩⟩
    · -- 18
      have h17 : ρ (.tmp 50) = .bool true := hd ⟨17, .data⟩ (by simp) rfl 50 rfl
      exact .inl ⟨rfl, .inl ⟨_, u, rfl, h17, hR, Below.refl _ _⟩⟩
    · -- 19
      have g18 : ρ (.tmp 51) = .bool true := hd ⟨18, .guard⟩ (by simp) rfl 51 rfl
      have s0 : ρ (.tmp 0) = .pointer (some ⟨g, 0, none⟩) := (hρ 0 (by kernel_rfl)).trans rfl
      exact .inl ⟨(by show (match ρ (.tmp 51) with | .bool b => b == true | _ => false) = true; rw [g18]; rfl), .inl ⟨_, u, rfl, s0, hR, Below.refl _ _⟩⟩
    · -- 20
      have g18 : ρ (.tmp 51) = .bool true := hd ⟨18, .guard⟩ (by simp) rfl 51 rfl
      have h19 : ρ (.tmp 52) = .pointer (some ⟨g, 0, none⟩) := hd ⟨19, .data⟩ (by simp) rfl 52 rfl
      exact .inl ⟨(by show (match ρ (.tmp 51) with | .bool b => b == true | _ => false) = true; rw [g18]; rfl), .inl ⟨.pointer (some ⟨g, 0, none⟩), u, run_nil_op rfl h19, rfl, hR, Below.refl _ _⟩⟩
    · -- 21
      have g18 : ρ (.tmp 51) = .bool true := hd ⟨18, .guard⟩ (by simp) rfl 51 rfl
      have h20 : ρ (.tmp 53) = .pointer (some ⟨g, 0, none⟩) := hd ⟨20, .data⟩ (by simp) rfl 53 rfl
      exact .inl ⟨(by show (match ρ (.tmp 51) with | .bool b => b == true | _ => false) = true; rw [g18]; rfl), .inl ⟨.pointer (some ⟨g, 13, none⟩), u, run_field_op rfl h20 (by go_simp), rfl, hR, Below.refl _ _⟩⟩
    · -- 22
      obtain ⟨⟨y0, y1, y2, y3, y4, y5, y6, y7, y8, y9, y10, y11, y12, y13, y14, y15, y16⟩, _⟩ := (HB.out.1.below hR).svn
      have g18 : ρ (.tmp 51) = .bool true := hd ⟨18, .guard⟩ (by simp) rfl 51 rfl
      have h21 : ρ (.tmp 54) = .pointer (some ⟨g, 13, none⟩) := hd ⟨21, .data⟩ (by simp) rfl 54 rfl
      have hr : (Instr.loadAt 3 (.pointer (some ⟨g, 13, none⟩))).run Tryz.prog u = .ok (.int .i64 L.le) u := by go_simp
      exact .inl ⟨(by show (match ρ (.tmp 51) with | .bool b => b == true | _ => false) = true; rw [g18]; rfl), .inl ⟨.int .i64 L.le, u, run_load_op rfl h21 hr, rfl, hR, Below.refl _ _⟩⟩
    · -- 23
      have q9 := HX.out.2.2.2.1
      have g18 : ρ (.tmp 51) = .bool true := hd ⟨18, .guard⟩ (by simp) rfl 51 rfl
      have h22 : ρ (.tmp 55) = .int .i64 L.le := hd ⟨22, .data⟩ (by simp) rfl 55 rfl
      exact .inl ⟨(by show (match ρ (.tmp 51) with | .bool b => b == true | _ => false) = true; rw [g18]; rfl), .inl ⟨.bool true, u, run_bin_op rfl (hc _) h22 (by go_simp), rfl, hR, Below.refl _ _⟩⟩
    · -- 24
      have h18 : ρ (.tmp 51) = .bool true := hd ⟨18, .data⟩ (by simp) rfl 51 rfl
      have h23 : ρ (.tmp 56) = .bool true := hd ⟨23, .data⟩ (by simp) rfl 56 rfl
      exact .inl ⟨rfl, .inl ⟨_, u, run_pick_op rfl h18, (by simpa using h23), hR, Below.refl _ _⟩⟩
    · -- 25
      have h24 : ρ (.tmp 57) = .bool true := hd ⟨24, .data⟩ (by simp) rfl 57 rfl
      exact .inl ⟨rfl, .inl ⟨_, u, rfl, h24, hR, Below.refl _ _⟩⟩
    · -- 26
      have g25 : ρ (.tmp 58) = .bool true := hd ⟨25, .guard⟩ (by simp) rfl 58 rfl
      have s0 : ρ (.tmp 0) = .pointer (some ⟨g, 0, none⟩) := (hρ 0 (by kernel_rfl)).trans rfl
      exact .inl ⟨(by show (match ρ (.tmp 58) with | .bool b => b == true | _ => false) = true; rw [g25]; rfl), .inl ⟨_, u, rfl, s0, hR, Below.refl _ _⟩⟩
    · -- 27
      have g25 : ρ (.tmp 58) = .bool true := hd ⟨25, .guard⟩ (by simp) rfl 58 rfl
      have h26 : ρ (.tmp 59) = .pointer (some ⟨g, 0, none⟩) := hd ⟨26, .data⟩ (by simp) rfl 59 rfl
      exact .inl ⟨(by show (match ρ (.tmp 58) with | .bool b => b == true | _ => false) = true; rw [g25]; rfl), .inl ⟨.pointer (some ⟨g, 0, none⟩), u, run_nil_op rfl h26, rfl, hR, Below.refl _ _⟩⟩
    · -- 28
      have g25 : ρ (.tmp 58) = .bool true := hd ⟨25, .guard⟩ (by simp) rfl 58 rfl
      have h27 : ρ (.tmp 60) = .pointer (some ⟨g, 0, none⟩) := hd ⟨27, .data⟩ (by simp) rfl 60 rfl
      exact .inl ⟨(by show (match ρ (.tmp 58) with | .bool b => b == true | _ => false) = true; rw [g25]; rfl), .inl ⟨.pointer (some ⟨g, 13, none⟩), u, run_field_op rfl h27 (by go_simp), rfl, hR, Below.refl _ _⟩⟩
    · -- 29
      obtain ⟨⟨y0, y1, y2, y3, y4, y5, y6, y7, y8, y9, y10, y11, y12, y13, y14, y15, y16⟩, _⟩ := (HB.out.1.below hR).svn
      have g25 : ρ (.tmp 58) = .bool true := hd ⟨25, .guard⟩ (by simp) rfl 58 rfl
      have h28 : ρ (.tmp 61) = .pointer (some ⟨g, 13, none⟩) := hd ⟨28, .data⟩ (by simp) rfl 61 rfl
      have hr : (Instr.loadAt 3 (.pointer (some ⟨g, 13, none⟩))).run Tryz.prog u = .ok (.int .i64 L.le) u := by go_simp
      exact .inl ⟨(by show (match ρ (.tmp 58) with | .bool b => b == true | _ => false) = true; rw [g25]; rfl), .inl ⟨.int .i64 L.le, u, run_load_op rfl h28 hr, rfl, hR, Below.refl _ _⟩⟩
    · -- 30
      have g25 : ρ (.tmp 58) = .bool true := hd ⟨25, .guard⟩ (by simp) rfl 58 rfl
      have s0 : ρ (.tmp 0) = .pointer (some ⟨g, 0, none⟩) := (hρ 0 (by kernel_rfl)).trans rfl
      exact .inl ⟨(by show (match ρ (.tmp 58) with | .bool b => b == true | _ => false) = true; rw [g25]; rfl), .inl ⟨_, u, rfl, s0, hR, Below.refl _ _⟩⟩
    · -- 31
      have g25 : ρ (.tmp 58) = .bool true := hd ⟨25, .guard⟩ (by simp) rfl 58 rfl
      have h30 : ρ (.tmp 63) = .pointer (some ⟨g, 0, none⟩) := hd ⟨30, .data⟩ (by simp) rfl 63 rfl
      exact .inl ⟨(by show (match ρ (.tmp 58) with | .bool b => b == true | _ => false) = true; rw [g25]; rfl), .inl ⟨.pointer (some ⟨g, 0, none⟩), u, run_nil_op rfl h30, rfl, hR, Below.refl _ _⟩⟩
    · -- 32
      have g25 : ρ (.tmp 58) = .bool true := hd ⟨25, .guard⟩ (by simp) rfl 58 rfl
      have h31 : ρ (.tmp 64) = .pointer (some ⟨g, 0, none⟩) := hd ⟨31, .data⟩ (by simp) rfl 64 rfl
      exact .inl ⟨(by show (match ρ (.tmp 58) with | .bool b => b == true | _ => false) = true; rw [g25]; rfl), .inl ⟨.pointer (some ⟨g, 16, none⟩), u, run_field_op rfl h31 (by go_simp), rfl, hR, Below.refl _ _⟩⟩
    · -- 33
      obtain ⟨⟨y0, y1, y2, y3, y4, y5, y6, y7, y8, y9, y10, y11, y12, y13, y14, y15, y16⟩, _⟩ := (HB.out.1.below hR).svn
      have g25 : ρ (.tmp 58) = .bool true := hd ⟨25, .guard⟩ (by simp) rfl 58 rfl
      have h32 : ρ (.tmp 65) = .pointer (some ⟨g, 16, none⟩) := hd ⟨32, .data⟩ (by simp) rfl 65 rfl
      have hr : (Instr.loadAt 3 (.pointer (some ⟨g, 16, none⟩))).run Tryz.prog u = .ok (.int .i64 L.tr) u := by go_simp
      exact .inl ⟨(by show (match ρ (.tmp 58) with | .bool b => b == true | _ => false) = true; rw [g25]; rfl), .inl ⟨.int .i64 L.tr, u, run_load_op rfl h32 hr, rfl, hR, Below.refl _ _⟩⟩
    · -- 34
      have q9 := HX.out.2.2.2.2
      have g25 : ρ (.tmp 58) = .bool true := hd ⟨25, .guard⟩ (by simp) rfl 58 rfl
      have h29 : ρ (.tmp 62) = .int .i64 L.le := hd ⟨29, .data⟩ (by simp) rfl 62 rfl
      have h33 : ρ (.tmp 66) = .int .i64 L.tr := hd ⟨33, .data⟩ (by simp) rfl 66 rfl
      exact .inl ⟨(by show (match ρ (.tmp 58) with | .bool b => b == true | _ => false) = true; rw [g25]; rfl), .inl ⟨.bool false, u, run_bin_op rfl h29 h33 (by go_simp), rfl, hR, Below.refl _ _⟩⟩
    · -- 35
      have h25 : ρ (.tmp 58) = .bool true := hd ⟨25, .data⟩ (by simp) rfl 58 rfl
      have h34 : ρ (.tmp 67) = .bool false := hd ⟨34, .data⟩ (by simp) rfl 67 rfl
      exact .inl ⟨rfl, .inl ⟨_, u, run_pick_op rfl h25, (by simpa using h34), hR, Below.refl _ _⟩⟩
    · -- 36
      have h35 : ρ (.tmp 68) = .bool false := hd ⟨35, .data⟩ (by simp) rfl 68 rfl
      exact .inl ⟨rfl, .inl ⟨_, u, rfl, h35, hR, Below.refl _ _⟩⟩
set_option maxRecDepth 20000 in
set_option maxHeartbeats 2000000 in
theorem asks_5 (L : La) (g n cp : Nat) (a a1 a2 : Option Addr) (l1 l2 c1 c2 : Nat) (f : Nat → Ca) (w : World) (hB : Blk w g 32 (lac L a n cp a1 a2 l1 l2 c1 c2)) (hs : LnR w n f L a a1 a2 l1 l2) (hl1 : l1 ≤ 2000000) (hl2 : l2 ≤ 2000000) (hbz : L.bz = true)
    (h0 : okCa L.c = true) (h1 : inB L.nu 0 65535 = true) (h2 : inB L.du 0 4294967295 = true) (h3 : decide (0 ≤ L.le) = true) (h4 : decide (L.le ≤ L.tr) = true) :
    Calls Tryz.prog 86 #[.pointer (some ⟨g, 0, none⟩)] w fun e w' => e = .returned (.bool true) ∧ Below w.heap.size w w' := by
  have HX : Hid (okCa L.c = true ∧ inB L.nu 0 65535 = true ∧ inB L.du 0 4294967295 = true ∧ decide (0 ≤ L.le) = true ∧ decide (L.le ≤ L.tr) = true) := ⟨h0, h1, h2, h3, h4⟩
  have HB : Hid (Blk w g 32 (lac L a n cp a1 a2 l1 l2 c1 c2) ∧ LnR w n f L a a1 a2 l1 l2) := ⟨hB, hs⟩
  obtain ⟨⟨y0, y1, y2, y3, y4, y5, y6, y7, y8, y9, y10, y11, y12, y13, y14, y15, y16⟩, _⟩ := hB.svn
  rw [hbz] at y1
  clear h0 h1 h2 h3 h4 hB hs
  go_enter Tryz.func86, Tryz.ntmps86
  go_upto_region 3 with fail
  clear y0 y1 y2 y3 y4 y5 y6 y7 y8 y9 y10 y11 y12 y13 y14 y15 y16
  refine wp_region_any (by kernel_rfl) ?_
  refine wpAny_vals (fun u => Below w.heap.size w u) (fun i v u => match i with
    | 0 => v = .pointer (some ⟨g, 0, none⟩)
    | 1 => v = .pointer (some ⟨g, 0, none⟩)
    | 2 => v = .pointer (some ⟨g, 2, none⟩)
    | 3 => v = .bool true
    | 4 => v = .bool true
    | 5 => v = .pointer (some ⟨g, 0, none⟩)
    | 6 => v = .pointer (some ⟨g, 0, none⟩)
    | 7 => v = .pointer (some ⟨g, 11, none⟩)
    | 8 => v = .int .i64 L.nu
    | 9 => v = .bool true
    | 10 => v = .bool true
    | 11 => v = .bool true
    | 12 => v = .pointer (some ⟨g, 0, none⟩)
    | 13 => v = .pointer (some ⟨g, 0, none⟩)
    | 14 => v = .pointer (some ⟨g, 12, none⟩)
    | 15 => v = .int .i64 L.du
    | 16 => v = .bool true
    | 17 => v = .bool true
    | 18 => v = .bool true
    | 19 => v = .pointer (some ⟨g, 0, none⟩)
    | 20 => v = .pointer (some ⟨g, 0, none⟩)
    | 21 => v = .pointer (some ⟨g, 13, none⟩)
    | 22 => v = .int .i64 L.le
    | 23 => v = .bool true
    | 24 => v = .bool true
    | 25 => v = .bool true
    | 26 => v = .pointer (some ⟨g, 0, none⟩)
    | 27 => v = .pointer (some ⟨g, 0, none⟩)
    | 28 => v = .pointer (some ⟨g, 13, none⟩)
    | 29 => v = .int .i64 L.le
    | 30 => v = .pointer (some ⟨g, 0, none⟩)
    | 31 => v = .pointer (some ⟨g, 0, none⟩)
    | 32 => v = .pointer (some ⟨g, 16, none⟩)
    | 33 => v = .int .i64 L.tr
    | 34 => v = .bool true
    | 35 => v = .bool true
    | 36 => v = .bool true
    | _ => True) (by kernel_rfl) (by kernel_rfl) (fun _ _ _ _ h _ => h) (by first | exact Below.refl _ _ | exact (Below.refl _ _).drew) ?_ ?_ _ _ rfl (by decide) (fun i => by simp [Array.getD]; try (split <;> rfl))
  · intro vs u hR hall
    have e36 : vs 36 = .bool true := hall 36 (by simp)
    simp only [putsL]
    rw [e36]
    clear hall e36
    go_wp2
    go_ret
    refine ⟨?_, hR⟩
    rw [getD_put (by simp [Act.put]), if_pos rfl]
  · intro u i o ρ hR ho hρ hc hf hd
    have hi : i < 37 := by
      have := (Array.getElem?_eq_some_iff.1 ho).1
      simpa using this
    obtain rfl | rfl | rfl | rfl | rfl | rfl | rfl | rfl | rfl | rfl | rfl | rfl | rfl | rfl | rfl | rfl | rfl | rfl | rfl | rfl | rfl | rfl | rfl | rfl | rfl | rfl | rfl | rfl | rfl | rfl | rfl | rfl | rfl | rfl | rfl | rfl | rfl : i = 0 ∨ i = 1 ∨ i = 2 ∨ i = 3 ∨ i = 4 ∨ i = 5 ∨ i = 6 ∨ i = 7 ∨ i = 8 ∨ i = 9 ∨ i = 10 ∨ i = 11 ∨ i = 12 ∨ i = 13 ∨ i = 14 ∨ i = 15 ∨ i = 16 ∨ i = 17 ∨ i = 18 ∨ i = 19 ∨ i = 20 ∨ i = 21 ∨ i = 22 ∨ i = 23 ∨ i = 24 ∨ i = 25 ∨ i = 26 ∨ i = 27 ∨ i = 28 ∨ i = 29 ∨ i = 30 ∨ i = 31 ∨ i = 32 ∨ i = 33 ∨ i = 34 ∨ i = 35 ∨ i = 36 := by omega
    all_goals (simp only [List.getElem?_toArray, List.getElem?_cons_zero, List.getElem?_cons_succ, Option.some.injEq] at ho; subst ho)
    · -- 0
      have s0 : ρ (.tmp 0) = .pointer (some ⟨g, 0, none⟩) := (hρ 0 (by kernel_rfl)).trans rfl
      exact .inl ⟨rfl, .inl ⟨_, u, rfl, s0, hR, Below.refl _ _⟩⟩
    · -- 1
      have h0 : ρ (.tmp 33) = .pointer (some ⟨g, 0, none⟩) := hd ⟨0, .data⟩ (by simp) rfl 33 rfl
      exact .inl ⟨rfl, .inl ⟨.pointer (some ⟨g, 0, none⟩), u, run_nil_op rfl h0, rfl, hR, Below.refl _ _⟩⟩
    · -- 2
      have h1 : ρ (.tmp 34) = .pointer (some ⟨g, 0, none⟩) := hd ⟨1, .data⟩ (by simp) rfl 34 rfl
      exact .inl ⟨rfl, .inl ⟨.pointer (some ⟨g, 2, none⟩), u, run_field_op rfl h1 (by go_simp), rfl, hR, Below.refl _ _⟩⟩
    · -- 3
      obtain ⟨⟨y0, y1, y2, y3, y4, y5, y6, y7, y8, y9, y10, y11, y12, y13, y14, y15, y16⟩, _⟩ := (HB.out.1.below hR).svn
      have h2 : ρ (.tmp 35) = .pointer (some ⟨g, 2, none⟩) := hd ⟨2, .data⟩ (by simp) rfl 35 rfl
      refine .inl ⟨rfl, .inr ⟨_, _, run_call_op rfl (hf _) (args := #[.pointer (some ⟨g, 2, none⟩)]) (by simp [h2]) (by kernel_rfl), ?_⟩⟩
      refine (callRight_any L.c g 2 a1 a2 l1 l2 c1 c2 _ y2 y3 y4 y5 y6 y7 y8 y9 y10 HB.out.2.1 HB.out.2.2.1 (HB.out.2.2.2.2.1.below hR) (HB.out.2.2.2.2.2.below hR) hl1 hl2).mono ?_
      rintro e u' ⟨he, b'⟩
      exact ⟨_, he.trans (by rw [HX.out.1]), rfl, bel_nx hR b', b'⟩
    · -- 4
      have h3 : ρ (.tmp 36) = .bool true := hd ⟨3, .data⟩ (by simp) rfl 36 rfl
      exact .inl ⟨rfl, .inl ⟨_, u, rfl, h3, hR, Below.refl _ _⟩⟩
    · -- 5
      have g4 : ρ (.tmp 37) = .bool true := hd ⟨4, .guard⟩ (by simp) rfl 37 rfl
      have s0 : ρ (.tmp 0) = .pointer (some ⟨g, 0, none⟩) := (hρ 0 (by kernel_rfl)).trans rfl
      exact .inl ⟨(by show (match ρ (.tmp 37) with | .bool b => b == true | _ => false) = true; rw [g4]; rfl), .inl ⟨_, u, rfl, s0, hR, Below.refl _ _⟩⟩
    · -- 6
      have g4 : ρ (.tmp 37) = .bool true := hd ⟨4, .guard⟩ (by simp) rfl 37 rfl
      have h5 : ρ (.tmp 38) = .pointer (some ⟨g, 0, none⟩) := hd ⟨5, .data⟩ (by simp) rfl 38 rfl
      exact .inl ⟨(by show (match ρ (.tmp 37) with | .bool b => b == true | _ => false) = true; rw [g4]; rfl), .inl ⟨.pointer (some ⟨g, 0, none⟩), u, run_nil_op rfl h5, rfl, hR, Below.refl _ _⟩⟩
    · -- 7
      have g4 : ρ (.tmp 37) = .bool true := hd ⟨4, .guard⟩ (by simp) rfl 37 rfl
      have h6 : ρ (.tmp 39) = .pointer (some ⟨g, 0, none⟩) := hd ⟨6, .data⟩ (by simp) rfl 39 rfl
      exact .inl ⟨(by show (match ρ (.tmp 37) with | .bool b => b == true | _ => false) = true; rw [g4]; rfl), .inl ⟨.pointer (some ⟨g, 11, none⟩), u, run_field_op rfl h6 (by go_simp), rfl, hR, Below.refl _ _⟩⟩
    · -- 8
      obtain ⟨⟨y0, y1, y2, y3, y4, y5, y6, y7, y8, y9, y10, y11, y12, y13, y14, y15, y16⟩, _⟩ := (HB.out.1.below hR).svn
      have g4 : ρ (.tmp 37) = .bool true := hd ⟨4, .guard⟩ (by simp) rfl 37 rfl
      have h7 : ρ (.tmp 40) = .pointer (some ⟨g, 11, none⟩) := hd ⟨7, .data⟩ (by simp) rfl 40 rfl
      have hr : (Instr.loadAt 3 (.pointer (some ⟨g, 11, none⟩))).run Tryz.prog u = .ok (.int .i64 L.nu) u := by go_simp
      exact .inl ⟨(by show (match ρ (.tmp 37) with | .bool b => b == true | _ => false) = true; rw [g4]; rfl), .inl ⟨.int .i64 L.nu, u, run_load_op rfl h7 hr, rfl, hR, Below.refl _ _⟩⟩
    · -- 9
      have g4 : ρ (.tmp 37) = .bool true := hd ⟨4, .guard⟩ (by simp) rfl 37 rfl
      have h8 : ρ (.tmp 41) = .int .i64 L.nu := hd ⟨8, .data⟩ (by simp) rfl 41 rfl
      refine .inl ⟨(by show (match ρ (.tmp 37) with | .bool b => b == true | _ => false) = true; rw [g4]; rfl), .inr ⟨_, _, run_call_op rfl (hf _) (args := #[.int .i64 L.nu]) (by simp [h8]) (by kernel_rfl), ?_⟩⟩
      refine (isWord_any _ _ _ HX.out.2.1).mono ?_
      rintro e u' ⟨he, rfl⟩
      exact ⟨_, he, rfl, hR, Below.refl _ _⟩
    · -- 10
      have h4 : ρ (.tmp 37) = .bool true := hd ⟨4, .data⟩ (by simp) rfl 37 rfl
      have h9 : ρ (.tmp 42) = .bool true := hd ⟨9, .data⟩ (by simp) rfl 42 rfl
      exact .inl ⟨rfl, .inl ⟨_, u, run_pick_op rfl h4, (by simpa using h9), hR, Below.refl _ _⟩⟩
    · -- 11
      have h10 : ρ (.tmp 43) = .bool true := hd ⟨10, .data⟩ (by simp) rfl 43 rfl
      exact .inl ⟨rfl, .inl ⟨_, u, rfl, h10, hR, Below.refl _ _⟩⟩
    · -- 12
      have g11 : ρ (.tmp 44) = .bool true := hd ⟨11, .guard⟩ (by simp) rfl 44 rfl
      have s0 : ρ (.tmp 0) = .pointer (some ⟨g, 0, none⟩) := (hρ 0 (by kernel_rfl)).trans rfl
      exact .inl ⟨(by show (match ρ (.tmp 44) with | .bool b => b == true | _ => false) = true; rw [g11]; rfl), .inl ⟨_, u, rfl, s0, hR, Below.refl _ _⟩⟩
    · -- 13
      have g11 : ρ (.tmp 44) = .bool true := hd ⟨11, .guard⟩ (by simp) rfl 44 rfl
      have h12 : ρ (.tmp 45) = .pointer (some ⟨g, 0, none⟩) := hd ⟨12, .data⟩ (by simp) rfl 45 rfl
      exact .inl ⟨(by show (match ρ (.tmp 44) with | .bool b => b == true | _ => false) = true; rw [g11]; rfl), .inl ⟨.pointer (some ⟨g, 0, none⟩), u, run_nil_op rfl h12, rfl, hR, Below.refl _ _⟩⟩
    · -- 14
      have g11 : ρ (.tmp 44) = .bool true := hd ⟨11, .guard⟩ (by simp) rfl 44 rfl
      have h13 : ρ (.tmp 46) = .pointer (some ⟨g, 0, none⟩) := hd ⟨13, .data⟩ (by simp) rfl 46 rfl
      exact .inl ⟨(by show (match ρ (.tmp 44) with | .bool b => b == true | _ => false) = true; rw [g11]; rfl), .inl ⟨.pointer (some ⟨g, 12, none⟩), u, run_field_op rfl h13 (by go_simp), rfl, hR, Below.refl _ _⟩⟩
    · -- 15
      obtain ⟨⟨y0, y1, y2, y3, y4, y5, y6, y7, y8, y9, y10, y11, y12, y13, y14, y15, y16⟩, _⟩ := (HB.out.1.below hR).svn
      have g11 : ρ (.tmp 44) = .bool true := hd ⟨11, .guard⟩ (by simp) rfl 44 rfl
      have h14 : ρ (.tmp 47) = .pointer (some ⟨g, 12, none⟩) := hd ⟨14, .data⟩ (by simp) rfl 47 rfl
      have hr : (Instr.loadAt 3 (.pointer (some ⟨g, 12, none⟩))).run Tryz.prog u = .ok (.int .i64 L.du) u := by go_simp
      exact .inl ⟨(by show (match ρ (.tmp 44) with | .bool b => b == true | _ => false) = true; rw [g11]; rfl), .inl ⟨.int .i64 L.du, u, run_load_op rfl h14 hr, rfl, hR, Below.refl _ _⟩⟩
    · -- 16
      have g11 : ρ (.tmp 44) = .bool true := hd ⟨11, .guard⟩ (by simp) rfl 44 rfl
      have h15 : ρ (.tmp 48) = .int .i64 L.du := hd ⟨15, .data⟩ (by simp) rfl 48 rfl
      refine .inl ⟨(by show (match ρ (.tmp 44) with | .bool b => b == true | _ => false) = true; rw [g11]; rfl), .inr ⟨_, _, run_call_op rfl (hf _) (args := #[.int .i64 L.du]) (by simp [h15]) (by kernel_rfl), ?_⟩⟩
      refine (isTickL _ _ _ HX.out.2.2.1).mono ?_
      rintro e u' ⟨he, rfl⟩
      exact ⟨_, he, rfl, hR, Below.refl _ _⟩
    · -- 17
      have h11 : ρ (.tmp 44) = .bool true := hd ⟨11, .data⟩ (by simp) rfl 44 rfl
      have h16 : ρ (.tmp 49) = .bool true := hd ⟨16, .data⟩ (by simp) rfl 49 rfl
      exact .inl ⟨rfl, .inl ⟨_, u, run_pick_op rfl h11, (by simpa using h16), hR, Below.refl _ _⟩⟩
    · -- 18
      have h17 : ρ (.tmp 50) = .bool true := hd ⟨17, .data⟩ (by simp) rfl 50 rfl
      exact .inl ⟨rfl, .inl ⟨_, u, rfl, h17, hR, Below.refl _ _⟩⟩
    · -- 19
      have g18 : ρ (.tmp 51) = .bool true := hd ⟨18, .guard⟩ (by simp) rfl 51 rfl
      have s0 : ρ (.tmp 0) = .pointer (some ⟨g, 0, none⟩) := (hρ 0 (by kernel_rfl)).trans rfl
      exact .inl ⟨(by show (match ρ (.tmp 51) with | .bool b => b == true | _ => false) = true; rw [g18]; rfl), .inl ⟨_, u, rfl, s0, hR, Below.refl _ _⟩⟩
    · -- 20
      have g18 : ρ (.tmp 51) = .bool true := hd ⟨18, .guard⟩ (by simp) rfl 51 rfl
      have h19 : ρ (.tmp 52) = .pointer (some ⟨g, 0, none⟩) := hd ⟨19, .data⟩ (by simp) rfl 52 rfl
      exact .inl ⟨(by show (match ρ (.tmp 51) with | .bool b => b == true | _ => false) = true; rw [g18]; rfl), .inl ⟨.pointer (some ⟨g, 0, none⟩), u, run_nil_op rfl h19, rfl, hR, Below.refl _ _⟩⟩
    · -- 21
      have g18 : ρ (.tmp 51) = .bool true := hd ⟨18, .guard⟩ (by simp) rfl 51 rfl
      have h20 : ρ (.tmp 53) = .pointer (some ⟨g, 0, none⟩) := hd ⟨20, .data⟩ (by simp) rfl 53 rfl
      exact .inl ⟨(by show (match ρ (.tmp 51) with | .bool b => b == true | _ => false) = true; rw [g18]; rfl), .inl ⟨.pointer (some ⟨g, 13, none⟩), u, run_field_op rfl h20 (by go_simp), rfl, hR, Below.refl _ _⟩⟩
    · -- 22
      obtain ⟨⟨y0, y1, y2, y3, y4, y5, y6, y7, y8, y9, y10, y11, y12, y13, y14, y15, y16⟩, _⟩ := (HB.out.1.below hR).svn
      have g18 : ρ (.tmp 51) = .bool true := hd ⟨18, .guard⟩ (by simp) rfl 51 rfl
      have h21 : ρ (.tmp 54) = .pointer (some ⟨g, 13, none⟩) := hd ⟨21, .data⟩ (by simp) rfl 54 rfl
      have hr : (Instr.loadAt 3 (.pointer (some ⟨g, 13, none⟩))).run Tryz.prog u = .ok (.int .i64 L.le) u := by go_simp
      exact .inl ⟨(by show (match ρ (.tmp 51) with | .bool b => b == true | _ => false) = true; rw [g18]; rfl), .inl ⟨.int .i64 L.le, u, run_load_op rfl h21 hr, rfl, hR, Below.refl _ _⟩⟩
    · -- 23
      have q9 := HX.out.2.2.2.1
      have g18 : ρ (.tmp 51) = .bool true := hd ⟨18, .guard⟩ (by simp) rfl 51 rfl
      have h22 : ρ (.tmp 55) = .int .i64 L.le := hd ⟨22, .data⟩ (by simp) rfl 55 rfl
      exact .inl ⟨(by show (match ρ (.tmp 51) with | .bool b => b == true | _ => false) = true; rw [g18]; rfl), .inl ⟨.bool true, u, run_bin_op rfl (hc _) h22 (by go_simp), rfl, hR, Below.refl _ _⟩⟩
    · -- 24
      have h18 : ρ (.tmp 51) = .bool true := hd ⟨18, .data⟩ (by simp) rfl 51 rfl
      have h23 : ρ (.tmp 56) = .bool true := hd ⟨23, .data⟩ (by simp) rfl 56 rfl
      exact .inl ⟨rfl, .inl ⟨_, u, run_pick_op rfl h18, (by simpa using h23), hR, Below.refl _ _⟩⟩
    · -- 25
      have h24 : ρ (.tmp 57) = .bool true := hd ⟨24, .data⟩ (by simp) rfl 57 rfl
      exact .inl ⟨rfl, .inl ⟨_, u, rfl, h24, hR, Below.refl _ _⟩⟩
    · -- 26
      have g25 : ρ (.tmp 58) = .bool true := hd ⟨25, .guard⟩ (by simp) rfl 58 rfl
      have s0 : ρ (.tmp 0) = .pointer (some ⟨g, 0, none⟩) := (hρ 0 (by kernel_rfl)).trans rfl
      exact .inl ⟨(by show (match ρ (.tmp 58) with | .bool b => b == true | _ => false) = true; rw [g25]; rfl), .inl ⟨_, u, rfl, s0, hR, Below.refl _ _⟩⟩
    · -- 27
      have g25 : ρ (.tmp 58) = .bool true := hd ⟨25, .guard⟩ (by simp) rfl 58 rfl
      have h26 : ρ (.tmp 59) = .pointer (some ⟨g, 0, none⟩) := hd ⟨26, .data⟩ (by simp) rfl 59 rfl
      exact .inl ⟨(by show (match ρ (.tmp 58) with | .bool b => b == true | _ => false) = true; rw [g25]; rfl), .inl ⟨.pointer (some ⟨g, 0, none⟩), u, run_nil_op rfl h26, rfl, hR, Below.refl _ _⟩⟩
    · -- 28
      have g25 : ρ (.tmp 58) = .bool true := hd ⟨25, .guard⟩ (by simp) rfl 58 rfl
      have h27 : ρ (.tmp 60) = .pointer (some ⟨g, 0, none⟩) := hd ⟨27, .data⟩ (by simp) rfl 60 rfl
      exact .inl ⟨(by show (match ρ (.tmp 58) with | .bool b => b == true | _ => false) = true; rw [g25]; rfl), .inl ⟨.pointer (some ⟨g, 13, none⟩), u, run_field_op rfl h27 (by go_simp), rfl, hR, Below.refl _ _⟩⟩
    · -- 29
      obtain ⟨⟨y0, y1, y2, y3, y4, y5, y6, y7, y8, y9, y10, y11, y12, y13, y14, y15, y16⟩, _⟩ := (HB.out.1.below hR).svn
      have g25 : ρ (.tmp 58) = .bool true := hd ⟨25, .guard⟩ (by simp) rfl 58 rfl
      have h28 : ρ (.tmp 61) = .pointer (some ⟨g, 13, none⟩) := hd ⟨28, .data⟩ (by simp) rfl 61 rfl
      have hr : (Instr.loadAt 3 (.pointer (some ⟨g, 13, none⟩))).run Tryz.prog u = .ok (.int .i64 L.le) u := by go_simp
      exact .inl ⟨(by show (match ρ (.tmp 58) with | .bool b => b == true | _ => false) = true; rw [g25]; rfl), .inl ⟨.int .i64 L.le, u, run_load_op rfl h28 hr, rfl, hR, Below.refl _ _⟩⟩
    · -- 30
      have g25 : ρ (.tmp 58) = .bool true := hd ⟨25, .guard⟩ (by simp) rfl 58 rfl
      have s0 : ρ (.tmp 0) = .pointer (some ⟨g, 0, none⟩) := (hρ 0 (by kernel_rfl)).trans rfl
      exact .inl ⟨(by show (match ρ (.tmp 58) with | .bool b => b == true | _ => false) = true; rw [g25]; rfl), .inl ⟨_, u, rfl, s0, hR, Below.refl _ _⟩⟩
    · -- 31
      have g25 : ρ (.tmp 58) = .bool true := hd ⟨25, .guard⟩ (by simp) rfl 58 rfl
      have h30 : ρ (.tmp 63) = .pointer (some ⟨g, 0, none⟩) := hd ⟨30, .data⟩ (by simp) rfl 63 rfl
      exact .inl ⟨(by show (match ρ (.tmp 58) with | .bool b => b == true | _ => false) = true; rw [g25]; rfl), .inl ⟨.pointer (some ⟨g, 0, none⟩), u, run_nil_op rfl h30, rfl, hR, Below.refl _ _⟩⟩
    · -- 32
      have g25 : ρ (.tmp 58) = .bool true := hd ⟨25, .guard⟩ (by simp) rfl 58 rfl
      have h31 : ρ (.tmp 64) = .pointer (some ⟨g, 0, none⟩) := hd ⟨31, .data⟩ (by simp) rfl 64 rfl
      exact .inl ⟨(by show (match ρ (.tmp 58) with | .bool b => b == true | _ => false) = true; rw [g25]; rfl), .inl ⟨.pointer (some ⟨g, 16, none⟩), u, run_field_op rfl h31 (by go_simp), rfl, hR, Below.refl _ _⟩⟩
    · -- 33
      obtain ⟨⟨y0, y1, y2, y3, y4, y5, y6, y7, y8, y9, y10, y11, y12, y13, y14, y15, y16⟩, _⟩ := (HB.out.1.below hR).svn
      have g25 : ρ (.tmp 58) = .bool true := hd ⟨25, .guard⟩ (by simp) rfl 58 rfl
      have h32 : ρ (.tmp 65) = .pointer (some ⟨g, 16, none⟩) := hd ⟨32, .data⟩ (by simp) rfl 65 rfl
      have hr : (Instr.loadAt 3 (.pointer (some ⟨g, 16, none⟩))).run Tryz.prog u = .ok (.int .i64 L.tr) u := by go_simp
      exact .inl ⟨(by show (match ρ (.tmp 58) with | .bool b => b == true | _ => false) = true; rw [g25]; rfl), .inl ⟨.int .i64 L.tr, u, run_load_op rfl h32 hr, rfl, hR, Below.refl _ _⟩⟩
    · -- 34
      have q9 := HX.out.2.2.2.2
      have g25 : ρ (.tmp 58) = .bool true := hd ⟨25, .guard⟩ (by simp) rfl 58 rfl
      have h29 : ρ (.tmp 62) = .int .i64 L.le := hd ⟨29, .data⟩ (by simp) rfl 62 rfl
      have h33 : ρ (.tmp 66) = .int .i64 L.tr := hd ⟨33, .data⟩ (by simp) rfl 66 rfl
      exact .inl ⟨(by show (match ρ (.tmp 58) with | .bool b => b == true | _ => false) = true; rw [g25]; rfl), .inl ⟨.bool true, u, run_bin_op rfl h29 h33 (by go_simp), rfl, hR, Below.refl _ _⟩⟩
    · -- 35
      have h25 : ρ (.tmp 58) = .bool true := hd ⟨25, .data⟩ (by simp) rfl 58 rfl
      have h34 : ρ (.tmp 67) = .bool true := hd ⟨34, .data⟩ (by simp) rfl 67 rfl
      exact .inl ⟨rfl, .inl ⟨_, u, run_pick_op rfl h25, (by simpa using h34), hR, Below.refl _ _⟩⟩
    · -- 36
      have h35 : ρ (.tmp 68) = .bool true := hd ⟨35, .data⟩ (by simp) rfl 68 rfl
      exact .inl ⟨rfl, .inl ⟨_, u, rfl, h35, hR, Below.refl _ _⟩⟩
set_option maxRecDepth 20000 in
set_option maxHeartbeats 2000000 in
theorem asks_idle (L : La) (g n cp : Nat) (a a1 a2 : Option Addr) (l1 l2 c1 c2 : Nat) (f : Nat → Ca) (w : World) (hB : Blk w g 32 (lac L a n cp a1 a2 l1 l2 c1 c2)) (hs : LnR w n f L a a1 a2 l1 l2) (hl1 : l1 ≤ 2000000) (hl2 : l2 ≤ 2000000) (hbz : L.bz = false) :
    Calls Tryz.prog 86 #[.pointer (some ⟨g, 0, none⟩)] w fun e w' => e = .returned (.bool (noCa L.c l1 l2 && ((L.nu == 0) && ((L.du == 0) && (L.le == 0))))) ∧ Below w.heap.size w w' := by
  obtain ⟨x0, hx0⟩ : ∃ x, noCa L.c l1 l2 = x := ⟨_, rfl⟩
  have HX : Hid (noCa L.c l1 l2 = x0 ∧ Blk w g 32 (lac L a n cp a1 a2 l1 l2 c1 c2) ∧ l1 = L.c.ws.length ∧ l2 = L.c.bs.length) := ⟨hx0, hB, hs.1, hs.2.1⟩
  rw [hx0]
  obtain ⟨⟨y0, y1, y2, y3, y4, y5, y6, y7, y8, y9, y10, y11, y12, y13, y14, y15, y16⟩, _⟩ := hB.svn
  rw [hbz] at y1
  clear hx0 hB hs
  cases x0 with
  | false =>
    go_enter Tryz.func86, Tryz.ntmps86
    go_wp2_with fail
    refine (callZero_any L.c g 2 a1 a2 l1 l2 c1 c2 _ y2 y3 y4 y5 y6 y7 y8 y9 y10 HX.out.2.2.1 HX.out.2.2.2 hl1 hl2).mono ?_
    rintro e w1 ⟨rfl, b1⟩
    rw [HX.out.1]
    clear y0 y1 y2 y3 y4 y5 y6 y7 y8 y9 y10 y11 y12 y13 y14 y15 y16
    go_wp2
    go_ret
    exact ⟨rfl, b1⟩
  | true =>
    cases q0 : (L.nu == 0) with
    | false =>
      simp only [Bool.true_and, Bool.false_and, Bool.and_self]
      go_enter Tryz.func86, Tryz.ntmps86
      go_wp2_with fail
      refine (callZero_any L.c g 2 a1 a2 l1 l2 c1 c2 _ y2 y3 y4 y5 y6 y7 y8 y9 y10 HX.out.2.2.1 HX.out.2.2.2 hl1 hl2).mono ?_
      rintro e w1 ⟨rfl, b1⟩
      rw [HX.out.1]
      clear y0 y1 y2 y3 y4 y5 y6 y7 y8 y9 y10 y11 y12 y13 y14 y15 y16
      obtain ⟨⟨y0, y1, y2, y3, y4, y5, y6, y7, y8, y9, y10, y11, y12, y13, y14, y15, y16⟩, _⟩ := (HX.out.2.1.below b1).svn
      go_wp2
      go_ret
      exact ⟨rfl, b1⟩
    | true =>
      cases q1 : (L.du == 0) with
      | false =>
        simp only [Bool.true_and, Bool.false_and, Bool.and_self]
        go_enter Tryz.func86, Tryz.ntmps86
        go_wp2_with fail
        refine (callZero_any L.c g 2 a1 a2 l1 l2 c1 c2 _ y2 y3 y4 y5 y6 y7 y8 y9 y10 HX.out.2.2.1 HX.out.2.2.2 hl1 hl2).mono ?_
        rintro e w1 ⟨rfl, b1⟩
        rw [HX.out.1]
        clear y0 y1 y2 y3 y4 y5 y6 y7 y8 y9 y10 y11 y12 y13 y14 y15 y16
        obtain ⟨⟨y0, y1, y2, y3, y4, y5, y6, y7, y8, y9, y10, y11, y12, y13, y14, y15, y16⟩, _⟩ := (HX.out.2.1.below b1).svn
        go_wp2
        go_ret
        exact ⟨rfl, b1⟩
      | true =>
        cases q2 : (L.le == 0) with
        | false =>
          simp only [Bool.true_and, Bool.false_and, Bool.and_self]
          go_enter Tryz.func86, Tryz.ntmps86
          go_wp2_with fail
          refine (callZero_any L.c g 2 a1 a2 l1 l2 c1 c2 _ y2 y3 y4 y5 y6 y7 y8 y9 y10 HX.out.2.2.1 HX.out.2.2.2 hl1 hl2).mono ?_
          rintro e w1 ⟨rfl, b1⟩
          rw [HX.out.1]
          clear y0 y1 y2 y3 y4 y5 y6 y7 y8 y9 y10 y11 y12 y13 y14 y15 y16
          obtain ⟨⟨y0, y1, y2, y3, y4, y5, y6, y7, y8, y9, y10, y11, y12, y13, y14, y15, y16⟩, _⟩ := (HX.out.2.1.below b1).svn
          go_wp2
          go_ret
          exact ⟨rfl, b1⟩
        | true =>
          simp only [Bool.true_and, Bool.false_and, Bool.and_self]
          go_enter Tryz.func86, Tryz.ntmps86
          go_wp2_with fail
          refine (callZero_any L.c g 2 a1 a2 l1 l2 c1 c2 _ y2 y3 y4 y5 y6 y7 y8 y9 y10 HX.out.2.2.1 HX.out.2.2.2 hl1 hl2).mono ?_
          rintro e w1 ⟨rfl, b1⟩
          rw [HX.out.1]
          clear y0 y1 y2 y3 y4 y5 y6 y7 y8 y9 y10 y11 y12 y13 y14 y15 y16
          obtain ⟨⟨y0, y1, y2, y3, y4, y5, y6, y7, y8, y9, y10, y11, y12, y13, y14, y15, y16⟩, _⟩ := (HX.out.2.1.below b1).svn
          go_wp2
          go_ret
          exact ⟨rfl, b1⟩
theorem asksRight_any (L : La) (g n cp : Nat) (a a1 a2 : Option Addr) (l1 l2 c1 c2 : Nat) (f : Nat → Ca) (w : World) (hB : Blk w g 32 (lac L a n cp a1 a2 l1 l2 c1 c2)) (hs : LnR w n f L a a1 a2 l1 l2) (hl1 : l1 ≤ 2000000) (hl2 : l2 ≤ 2000000) :
    Calls Tryz.prog 86 #[.pointer (some ⟨g, 0, none⟩)] w fun e w' => e = .returned (.bool (askB L l1 l2)) ∧ Below w.heap.size w w' := by
  unfold askB
  cases hbz : L.bz with
  | false => simp only [if_neg (show ¬ (false = true) by decide)]; exact asks_idle L g n cp a a1 a2 l1 l2 c1 c2 f w hB hs hl1 hl2 hbz
  | true =>
    simp only [if_pos]
    cases h0 : okCa L.c with
    | false => exact asks_0 L g n cp a a1 a2 l1 l2 c1 c2 f w hB hs hl1 hl2 hbz _ _ _ _ h0 rfl rfl rfl rfl
    | true =>
      cases h1 : inB L.nu 0 65535 with
      | false => exact asks_1 L g n cp a a1 a2 l1 l2 c1 c2 f w hB hs hl1 hl2 hbz _ _ _ h0 h1 rfl rfl rfl
      | true =>
        cases h2 : inB L.du 0 4294967295 with
        | false => exact asks_2 L g n cp a a1 a2 l1 l2 c1 c2 f w hB hs hl1 hl2 hbz _ _ h0 h1 h2 rfl rfl
        | true =>
          cases h3 : decide (0 ≤ L.le) with
          | false => exact asks_3 L g n cp a a1 a2 l1 l2 c1 c2 f w hB hs hl1 hl2 hbz _ h0 h1 h2 h3 rfl
          | true =>
            cases h4 : decide (L.le ≤ L.tr) with
            | false => exact asks_4 L g n cp a a1 a2 l1 l2 c1 c2 f w hB hs hl1 hl2 hbz h0 h1 h2 h3 h4
            | true => exact asks_5 L g n cp a a1 a2 l1 l2 c1 c2 f w hB hs hl1 hl2 hbz h0 h1 h2 h3 h4
set_option maxRecDepth 20000 in
set_option maxHeartbeats 2000000 in
theorem waitsRight_any (L : La) (g n cp : Nat) (a a1 a2 : Option Addr) (l1 l2 c1 c2 : Nat) (f : Nat → Ca) (w : World) (hB : Blk w g 32 (lac L a n cp a1 a2 l1 l2 c1 c2)) (hs : LnR w n f L a a1 a2 l1 l2) (hb : BdC n f) :
    Calls Tryz.prog 87 #[.pointer (some ⟨g, 0, none⟩)] w fun e w' => e = .returned (.bool (decide (n ≤ 40) && allC f n)) ∧ Below w.heap.size w w' := by
  have HB : Hid (Blk w g 32 (lac L a n cp a1 a2 l1 l2 c1 c2) ∧ SlC w a n f ∧ BdC n f) := ⟨hB, hs.2.2.1, hb⟩
  obtain ⟨⟨y0, y1, y2, y3, y4, y5, y6, y7, y8, y9, y10, y11, y12, y13, y14, y15, y16⟩, _⟩ := hB.svn
  have hn2 := hb.1
  clear hB hs hb
  by_cases h40 : n ≤ 40
  · have hg : ¬ (40 < (n : Int)) := by omega
    rw [decide_eq_true h40]
    go_enter Tryz.func87, Tryz.ntmps87
    go_wp2
    clear y0 y1 y2 y3 y4 y5 y6 y7 y8 y9 y10 y11 y12 y13 y14 y15 y16
    go_loopw [15] (fun i wr => ∃ k : Nat, k ≤ n ∧ i = .int .i64 k ∧ allC f k = true ∧ Below w.heap.size w wr) (fun i _ => n - (intOf i).toNat)
    case atStart => exact ⟨0, Nat.zero_le _, rfl, rfl, Below.refl _ _⟩
    case round =>
      obtain ⟨k, hk, rfl, hall, hbl⟩ := hrel
      obtain ⟨⟨y0, y1, y2, y3, y4, y5, y6, y7, y8, y9, y10, y11, y12, y13, y14, y15, y16⟩, _⟩ := (HB.out.1.below hbl).svn
      by_cases hlt : k < n
      · have hi : (k : Int) < (n : Int) := by omega
        obtain ⟨b, off, b1, b2, m1, m2, k1, k2, rfl, hb0, hm1, hm2, ⟨d0, d1, d2, d3, d4, d5, d6, d7, d8⟩, s1, s2⟩ := SlC.nine (HB.out.2.1.below hbl) hlt
        obtain ⟨C, hC⟩ : ∃ C, C = f k := ⟨_, rfl⟩
        rw [← hC] at d0 d1 d2 d3 d4 d5 d8 hm1 hm2 s1 s2
        obtain ⟨x, hx⟩ : ∃ x, okCa C = x := ⟨_, rfl⟩
        have hbd := HB.out.2.2.2 k hlt
        have HS : Hid (SlI wr b1 C.ws ∧ SlB wr b2 C.bs ∧ m1 = C.ws.length ∧ m2 = C.bs.length ∧ m1 ≤ 2000000 ∧ m2 ≤ 2000000 ∧ C = f k ∧ okCa C = x ∧ allC f k = true ∧ Below w.heap.size w wr) := ⟨s1, s2, hm1, hm2, by rw [hm1, hC]; exact hbd.1, by rw [hm2, hC]; exact hbd.2, hC, hx, hall, hbl⟩
        clear s1 s2 hm1 hm2 hC hx hbd hb0 hall hbl
        go_wp2_with fail
        refine (callRight_any C b (off + k * 9) b1 b2 m1 m2 k1 k2 _ d0 d1 d2 d3 d4 d5 d6 d7 d8 HS.out.2.2.1 HS.out.2.2.2.1 HS.out.1 HS.out.2.1 HS.out.2.2.2.2.1 HS.out.2.2.2.2.2.1).mono ?_
        rintro e w1 ⟨rfl, b9⟩
        rw [HS.out.2.2.2.2.2.2.2.1]
        have HW : Hid (Below w.heap.size w w1) := bel_nx HS.out.2.2.2.2.2.2.2.2.2 b9
        clear b9 d0 d1 d2 d3 d4 d5 d6 d7 d8 y0 y1 y2 y3 y4 y5 y6 y7 y8 y9 y10 y11 y12 y13 y14 y15 y16
        cases x with
        | false =>
          have HF : Hid (allC f n = false) := allC_no hlt (by rw [← HS.out.2.2.2.2.2.2.1]; exact HS.out.2.2.2.2.2.2.2.1)
          go_wp2
          go_ret
          exact ⟨(by rw [HF.out]; rfl), HW.out⟩
        | true =>
          have HF : Hid (allC f (k + 1) = true) := by show (allC f k && okCa (f k)) = true; rw [HS.out.2.2.2.2.2.2.2.2.1, ← HS.out.2.2.2.2.2.2.1, HS.out.2.2.2.2.2.2.2.1]; rfl
          go_wp2
          go_roundw
          case rel => exact ⟨k + 1, by omega, by go_num, HF.out, HW.out⟩
          case measure => simp [intOf]; omega
      · have hi : ¬ (k : Int) < (n : Int) := by omega
        have e9 : k = n := by omega
        subst e9
        have HF : Hid (allC f k = true) := hall
        clear hall
        go_wp2
        go_ret
        exact ⟨(by rw [HF.out]; rfl), hbl⟩
  · have hg : 40 < (n : Int) := by omega
    rw [decide_eq_false h40]
    go_enter Tryz.func87, Tryz.ntmps87
    go_wp2
    go_ret
    exact ⟨rfl, Below.refl _ _⟩
set_option maxRecDepth 20000 in
set_option maxHeartbeats 2000000 in
theorem lineRight_any (L : La) (g n cp : Nat) (a a1 a2 : Option Addr) (l1 l2 c1 c2 : Nat) (f : Nat → Ca) (w : World) (hB : Blk w g 32 (lac L a n cp a1 a2 l1 l2 c1 c2)) (hs : LnR w n f L a a1 a2 l1 l2) (hb : BdC n f) (hl1 : l1 ≤ 2000000) (hl2 : l2 ≤ 2000000) :
    Calls Tryz.prog 33 #[.pointer (some ⟨g, 0, none⟩)] w fun e w' => e = .returned (.bool (okLn n f L l1 l2)) ∧ Below w.heap.size w w' := by
  obtain ⟨x0, hx0⟩ : ∃ x, inB L.wt 1 100 = x := ⟨_, rfl⟩
  obtain ⟨x1, hx1⟩ : ∃ x, inB L.tr 0 5 = x := ⟨_, rfl⟩
  obtain ⟨x2, hx2⟩ : ∃ x, inB L.nx 0 65535 = x := ⟨_, rfl⟩
  obtain ⟨x3, hx3⟩ : ∃ x, askB L l1 l2 = x := ⟨_, rfl⟩
  obtain ⟨x4, hx4⟩ : ∃ x, (decide (n ≤ 40) && allC f n) = x := ⟨_, rfl⟩
  have he : okLn n f L l1 l2 = (x0 && (x1 && (x2 && (x3 && x4)))) := by
    unfold okLn
    rw [hx0, hx1, hx2, hx3, ← hx4]
    cases x0 <;> cases x1 <;> cases x2 <;> cases x3 <;> simp
  have HX : Hid (inB L.wt 1 100 = x0 ∧ inB L.tr 0 5 = x1 ∧ inB L.nx 0 65535 = x2 ∧ askB L l1 l2 = x3 ∧ (decide (n ≤ 40) && allC f n) = x4 ∧ Blk w g 32 (lac L a n cp a1 a2 l1 l2 c1 c2) ∧ LnR w n f L a a1 a2 l1 l2 ∧ BdC n f) := ⟨hx0, hx1, hx2, hx3, hx4, hB, hs, hb⟩
  rw [he]
  obtain ⟨⟨y0, y1, y2, y3, y4, y5, y6, y7, y8, y9, y10, y11, y12, y13, y14, y15, y16⟩, _⟩ := hB.svn
  clear hx0 hx1 hx2 hx3 hx4 hB hs hb he
  go_enter Tryz.func33, Tryz.ntmps33
  go_wp2_with fail
  refine (isAnsWL _ _ _ HX.out.1).mono ?_
  rintro e w1 ⟨rfl, rfl⟩
  cases x0 with
  | false =>
    go_wp2
    go_ret
    exact ⟨rfl, Below.refl _ _⟩
  | true =>
    go_wp2_with fail
    refine (isTriesL _ _ _ HX.out.2.1).mono ?_
    rintro e w1 ⟨rfl, rfl⟩
    cases x1 with
    | false =>
      go_wp2
      go_ret
      exact ⟨rfl, Below.refl _ _⟩
    | true =>
      go_wp2_with fail
      refine (isWord_any _ _ _ HX.out.2.2.1).mono ?_
      rintro e w1 ⟨rfl, rfl⟩
      cases x2 with
      | false =>
        go_wp2
        go_ret
        exact ⟨rfl, Below.refl _ _⟩
      | true =>
        go_wp2_with fail
        refine (asksRight_any L g n cp a a1 a2 l1 l2 c1 c2 f _ HX.out.2.2.2.2.2.1 HX.out.2.2.2.2.2.2.1 hl1 hl2).mono ?_
        rintro e w1 ⟨rfl, b1⟩
        rw [HX.out.2.2.2.1]
        clear y0 y1 y2 y3 y4 y5 y6 y7 y8 y9 y10 y11 y12 y13 y14 y15 y16
        cases x3 with
        | false =>
          go_wp2
          go_ret
          exact ⟨rfl, b1⟩
        | true =>
          go_wp2_with fail
          refine (waitsRight_any L g n cp a a1 a2 l1 l2 c1 c2 f _ (HX.out.2.2.2.2.2.1.below b1) (HX.out.2.2.2.2.2.2.1.below b1) HX.out.2.2.2.2.2.2.2).mono ?_
          rintro e w2 ⟨rfl, b2⟩
          rw [HX.out.2.2.2.2.1]
          have HW : Hid (Below w1.heap.size w1 w2 ∧ Below w2.heap.size w2 w2) := ⟨b2, Below.refl _ _⟩
          have B2 := bel_nx b1 b2
          clear b1 b2
          go_wp2
          go_ret
          exact ⟨rfl, B2⟩
end Go.Proofs.YtmhdneenjoelfaaGreat

/- Texts that the proof needs, joined. -/
import Derived.Test.YtaaokbmfpfmfgaaPtP
import Derived.Test.YtaaokbmfpfmfgaaSr8
import Derived.Test.YtaaokbmfpfmfgaaR1
import Derived.Lib.MinMax
import Derived.Test.YtaaokbmfpfmfgaaQQ
namespace Go.Proofs.Ytaaokbmfpfmfgaa
open Go.RowKit

set_option linter.unusedVariables false

set_option linter.unusedSimpArgs false

/-- The first of n rules of a unit, from k on. -/
def unFrom (f : Nat → Ru) (un : Int) (n k : Nat) : Int :=
  if h : k < n then (if (f k).u = un then (k : Int) else unFrom f un n (k + 1)) else -1
termination_by n - k

theorem unFrom_hit {f : Nat → Ru} {un : Int} {n k : Nat} (h : k < n) (hh : (f k).u = un) : unFrom f un n k = (k : Int) := by
  rw [unFrom, dif_pos h, if_pos hh]

theorem unFrom_miss {f : Nat → Ru} {un : Int} {n k : Nat} (h : k < n) (hh : ¬ (f k).u = un) : unFrom f un n k = unFrom f un n (k + 1) := by
  rw [unFrom, dif_pos h, if_neg hh]

theorem unFrom_end {f : Nat → Ru} {un : Int} {n k : Nat} (h : ¬ k < n) : unFrom f un n k = -1 := by
  rw [unFrom, dif_neg h]

theorem unFrom_ge (f : Nat → Ru) (un : Int) (n k : Nat) : 0 ≤ unFrom f un n k ↔ ∃ j, k ≤ j ∧ j < n ∧ (f j).u = un := by
  by_cases h : k < n
  · by_cases hh : (f k).u = un
    · rw [unFrom_hit h hh]
      exact ⟨fun _ => ⟨k, Nat.le_refl _, h, hh⟩, fun _ => by omega⟩
    · rw [unFrom_miss h hh, unFrom_ge f un n (k + 1)]
      constructor
      · rintro ⟨j, h1, h2, h3⟩; exact ⟨j, by omega, h2, h3⟩
      · rintro ⟨j, h1, h2, h3⟩
        by_cases e : j = k
        · subst e; exact absurd h3 hh
        · exact ⟨j, by omega, h2, h3⟩
  · rw [unFrom_end h]
    constructor
    · intro h1; omega
    · rintro ⟨j, h1, h2, _⟩; omega
termination_by n - k

set_option maxHeartbeats 1000000 in
theorem hasUnit1_any (r : Ru) (g1 : Nat) (un : Int) (w : World) (h : Box w g1 3 (.int .i64 un)) :
    Calls Try.prog 85 #[.agg (ruc r), .pointer (some ⟨g1, 0, none⟩)] w fun e w' => e = .returned (.bool (decide (r.u = un))) ∧ Below w.heap.size w w' := by
  have B0 : Below w.heap.size w (w.alloc (.cells (ruc r) 41)) := (Below.refl _ w).alloc (Nat.le_refl _) _
  have c1 := (h.below B0).cell
  by_cases e : r.u = un
  · rw [decide_eq_true e]
    have d : (r.u == un) = true := by simpa using e
    go_enter Try.func85, Try.ntmps85
    go_wp2
    go_ret
    exact ⟨rfl, B0⟩
  · rw [decide_eq_false e]
    have d : (r.u == un) = false := by simpa using e
    go_enter Try.func85, Try.ntmps85
    go_wp2
    go_ret
    exact ⟨by first | rfl | simp [d], B0⟩

set_option maxHeartbeats 1000000 in
theorem indexUnit_any (a : Option Addr) (n cap : Nat) (f : Nat → Ru) (g1 : Nat) (un : Int) (w : World) (hs : SlU w a n f) (h : Box w g1 3 (.int .i64 un)) (hl : n ≤ 2000000) :
    Calls Try.prog 45 #[.slice a n cap, .func (.func 85) #[] #[.pointer (some ⟨g1, 0, none⟩)]] w fun e w' => e = .returned (.int .i64 (unFrom f un n 0)) ∧ Below w.heap.size w w' := by
  go_enter Try.func45, Try.ntmps45
  go_wp2
  go_loopw [8] (fun i wr => ∃ k : Nat, k ≤ n ∧ i = .int .i64 k ∧ Below w.heap.size w wr ∧ unFrom f un n 0 = unFrom f un n k) (fun i _ => n - (intOf i).toNat)
  case atStart => exact ⟨0, Nat.zero_le _, rfl, Below.refl _ _, rfl⟩
  case round =>
    obtain ⟨k, hk, rfl, hb, HA⟩ := hrel
    by_cases hlt : k < n
    · obtain ⟨b, off, rfl, hb0, c0, c1, c2, c3, c4, c5, c6⟩ := SlU.seven (SlS.below hs hb) hlt
      have hi : (k : Int) < (n : Int) := by omega
      have H1 := h.below hb
      have HA' : Hid (unFrom f un n 0 = unFrom f un n k) := HA
      clear HA
      go_wp2_with fail
      refine (hasUnit1_any (f k) g1 un _ H1).mono ?_
      rintro e w1 ⟨rfl, b1⟩
      have B1 := bel_next hb b1
      clear hb b1 c0 c1 c2 c3 c4 c5 c6 H1
      by_cases hh : (f k).u = un
      · rw [decide_eq_true hh]
        have HA2 : Hid (unFrom f un n 0 = (k : Int)) := HA'.out.trans (unFrom_hit hlt hh)
        clear HA' hh
        go_wp2
        go_ret
        exact ⟨ret_int HA2.out.symm, B1⟩
      · rw [decide_eq_false hh]
        have HA2 : Hid (unFrom f un n 0 = unFrom f un n (k + 1)) := HA'.out.trans (unFrom_miss hlt hh)
        clear HA' hh
        go_wp2
        go_roundw
        case rel => exact ⟨k + 1, by omega, by go_num, B1, HA2.out⟩
        case measure => simp [intOf]; omega
    · have HA' : Hid (unFrom f un n 0 = unFrom f un n k) := HA
      clear hs HA
      go_wp2
      go_ret
      exact ⟨ret_int (HA'.out.trans (unFrom_end hlt)).symm, hb⟩

set_option maxHeartbeats 1000000 in
theorem hasUnit_any (a : Option Addr) (n cap : Nat) (f : Nat → Ru) (un : Int) (w : World) (hs : SlU w a n f) (hl : n ≤ 2000000) (b : Bool) (hb : b = true ↔ ∃ j, j < n ∧ (f j).u = un) :
    Calls Try.prog 36 #[.slice a n cap, .int .i64 un] w fun e w' => e = .returned (.bool b) ∧ Below w.heap.size w w' := by
  have hmf : ∀ (fn : Fn) (first cap : Array Value) (w : World), (Instr.makeFunc fn first cap).run Try.prog w = .ok (.func fn first cap) w := fun _ _ _ _ => rfl
  have B0 : Below w.heap.size w (w.alloc (.cells #[.int .i64 un] 3)) := (Below.refl _ w).alloc (Nat.le_refl _) _
  have HT : Hid (Box (w.alloc (.cells #[.int .i64 un] 3)) w.heap.size 3 (.int .i64 un)) := Box.new w (.int .i64 un) 3
  have HS : Hid (SlU (w.alloc (.cells #[.int .i64 un] 3)) a n f) := SlS.below hs B0
  have HB : Hid (Below w.heap.size w (w.alloc (.cells #[.int .i64 un] 3))) := B0
  have HBB : Hid (b = true ↔ 0 ≤ unFrom f un n 0) := by
    rw [unFrom_ge]
    exact hb.trans ⟨fun ⟨j, h1, h2⟩ => ⟨j, Nat.zero_le _, h1, h2⟩, fun ⟨j, _, h1, h2⟩ => ⟨j, h1, h2⟩⟩
  clear hs B0 hb
  go_enter Try.func36, Try.ntmps36
  go_wp2_with fail
  refine Calls.mono (R := fun e w' => e = .returned (.bool b) ∧ Below (w.alloc (.cells #[.int .i64 un] 3)).heap.size (w.alloc (.cells #[.int .i64 un] 3)) w') ?_ ?_
  · go_enter Try.func84, Try.ntmps84
    go_wp2_with fail
    refine (indexUnit_any a n cap f w.heap.size un _ HS.out HT.out hl).mono ?_
    rintro e w1 ⟨rfl, b1⟩
    clear HS HT
    cases b with
    | true =>
      have hge : 0 ≤ unFrom f un n 0 := HBB.out.1 rfl
      go_wp2
      go_ret
      exact ⟨rfl, b1⟩
    | false =>
      have hge : ¬ 0 ≤ unFrom f un n 0 := fun e => by have := HBB.out.2 e; cases this
      have hge' : decide (0 ≤ unFrom f un n 0) = false := decide_eq_false hge
      go_wp2
      go_ret
      exact ⟨by first | rfl | exact congrArg (fun x => Ending.returned (Value.bool x)) hge', b1⟩
  · rintro e w1 ⟨rfl, b1⟩
    have B1 := bel_next HB.out b1
    clear b1 HS HT HB
    go_wp2
    go_ret
    exact ⟨rfl, B1⟩

set_option maxHeartbeats 1000000 in
theorem hasRun_any (r : Ru) (p m : Int) (w : World) (hp : 0 ≤ p ∧ p ≤ 65535) (hm : 0 ≤ m ∧ m ≤ 65536) (b : Bool) (hb : b = decide (r.lo ≤ p ∧ p + m - 1 ≤ r.hi)) :
    Calls Try.prog 116 #[.agg (ruc r), .int .i64 p, .int .i64 m] w fun e w' => e = .returned (.bool b) ∧ Below w.heap.size w w' := by
  have B0 : Below w.heap.size w (w.alloc (.cells (ruc r) 41)) := (Below.refl _ w).alloc (Nat.le_refl _) _
  have w1 : IntKind.i64.wrap (p + m) = p + m := by rw [IntKind.wrap_i64]; omega
  have w2 : IntKind.i64.wrap (p + m - 1) = p + m - 1 := by rw [IntKind.wrap_i64]; omega
  by_cases h1 : r.lo ≤ p
  · by_cases h2 : p + m - 1 ≤ r.hi
    · rw [hb, decide_eq_true (show r.lo ≤ p ∧ p + m - 1 ≤ r.hi from ⟨h1, h2⟩)]
      go_enter Try.func116, Try.ntmps116
      go_wp2
      go_ret
      exact ⟨rfl, B0⟩
    · rw [hb, decide_eq_false (show ¬ (r.lo ≤ p ∧ p + m - 1 ≤ r.hi) from fun h => h2 h.2)]
      go_enter Try.func116, Try.ntmps116
      go_wp2
      go_ret
      exact ⟨rfl, B0⟩
  · rw [hb, decide_eq_false (show ¬ (r.lo ≤ p ∧ p + m - 1 ≤ r.hi) from fun h => h1 h.1)]
    go_enter Try.func116, Try.ntmps116
    go_wp2
    go_ret
    exact ⟨rfl, B0⟩

end Go.Proofs.Ytaaokbmfpfmfgaa

namespace Go.Proofs.Ytaaokbmfpfmfgaa
open Go.RowKit

set_option linter.unusedVariables false

set_option linter.unusedSimpArgs false

/-- The nine cells of a run. -/
abbrev rnl (x : Rn) : List Value := rul x.r ++ [.int .i64 x.at', .int .i64 x.n]

/-- A list of runs of the call's own. -/
def OwnR (w : World) (base : Nat) (v : Value) (l : List Rn) : Prop := w.ownsRow base 112 9 v l.length (l.flatMap rnl)

theorem ownR_nil (w : World) (base : Nat) : OwnR w base (.slice none 0 0) [] := World.ownsRow_nil w base _ _

theorem OwnR.kept {w w' : World} {base : Nat} {v : Value} {l : List Rn} {row : Option Nat} (h : OwnR w base v l) (hg : w.grownBy w' row) (hne : v.ownBlock = none ∨ v.ownBlock ≠ row) : OwnR w' base v l := World.ownsRow.kept h hg hne

theorem OwnR.below {w w' : World} {base : Nat} {v : Value} {l : List Rn} (h : OwnR w base v l) (hb : Below w.heap.size w w') : OwnR w' base v l := by
  refine h.kept (grown_below hb (some w.heap.size)) ?_
  cases e : v.ownBlock with
  | none => exact .inl rfl
  | some k => exact .inr (fun e2 => by have := (World.ownsRow.lt h k e).2; simp at e2; omega)

theorem OwnR.shape {w : World} {base : Nat} {v : Value} {l : List Rn} (h : OwnR w base v l) : ∃ a cap, v = .slice a l.length cap := by
  rcases h.2 with ⟨rfl, h0⟩ | ⟨g, cap, cur, rfl, _⟩
  · exact ⟨none, 0, by rw [h0]⟩
  · exact ⟨_, cap, rfl⟩

theorem OwnR.noRow {w : World} {base g s n : Nat} {t : TypeId} {v : Value} {l : List Rn} {F : Nat → List Value} (h : OwnR w base v l) (hr : RowS w g t s n F) (ht : t ≠ 112) : v.ownBlock ≠ some g := by
  intro e
  rcases h.2 with ⟨rfl, _⟩ | ⟨g', cap, cur, rfl, _, hh, _⟩
  · simp [Value.ownBlock] at e
  · simp [Value.ownBlock] at e
    subst e
    obtain ⟨cs, h1, _⟩ := hr
    rw [hh] at h1
    simp only [Option.some.injEq, Obj.cells.injEq] at h1
    exact ht h1.2.1.symm

theorem Try.infoR112 : (Try.prog.info? 112).map (fun i => (i.zero, i.size, i.bytes)) = some (some (.agg (rnl ⟨⟨0, 0, 0, 0, 0, 0, 0⟩, 0, 0⟩).toArray), 9, 72) := by kernel_rfl

theorem flatMap_len (l : List Rn) : (l.flatMap rnl).length = l.length * 9 := by
  induction l with
  | nil => rfl
  | cons x r ih => rw [List.flatMap_cons, List.length_append, ih]; simp; omega

/-- What runsOf has told. -/
def RunsR (f : Nat → Ru) (n : Nat) (un sp E c0 : Int) (b : Bool) (l : List Rn) : Prop := (b = true → runs f n un sp E c0 = some l) ∧ (b = false → runs f n un sp E c0 = none)

def RunsPost (w w' : World) (e : Ending) (f : Nat → Ru) (n : Nat) (un sp E c0 : Int) : Prop := ∃ v l b, e = .returned (.tuple #[v, .bool b]) ∧ OwnR w' w.heap.size v l ∧ l.length ≤ n ∧ RunsR f n un sp E c0 b l ∧ (∀ x ∈ l, OkRu x.r ∧ hasR x.r un sp x.at' = true ∧ c0 ≤ x.at' ∧ 0 < x.n ∧ x.at' + x.n ≤ E) ∧ Below w.heap.size w w'

/-- One run more. -/
theorem wpList_appR {w : World} {ops : Array Oper} {rest : List Oper} {o : Oper} {a : Act} {Q : Exit → Act → World → Prop} (hgd : o.guard = none) (s x : Operand)
    (ho : o.op = .call { callee := .builtin .append, args := #[s, x], argTypes := #[108, 108] }) (base : Nat) (v : Value) (l : List Rn) (hs : a.eval s = v) (hown : OwnR w base v l)
    (g c : Nat) (y : Rn) (hx : a.eval x = .slice (some ⟨g, 0, none⟩) 1 c) (hy : ∀ j u, (rnl y)[j]? = some u → w.cell? ((⟨g, 0, none⟩ : Addr).add j) = some u) (hlen : l.length ≤ 1000000) (hbase : base ≤ w.heap.size)
    (h : ∀ v' w', OwnR w' base v' (l ++ [y]) → w.grownBy w' v.ownBlock → wpList Try.prog ops Q rest (a.put o.dst v') w') : wpList Try.prog ops Q (o :: rest) a w := by
  obtain ⟨i0, hi, hzz⟩ := Option.map_eq_some_iff.1 Try.infoR112
  simp only [Prod.mk.injEq] at hzz
  obtain ⟨hz0, hz1, hz2⟩ := hzz
  refine wpList_append_own w hgd s x 108 ho base 112 i0 _ 9 72 Try.underlying108 hi hz0 hz1 hz2 rfl (by decide) v l.length (l.flatMap rnl) hs hown ⟨g, 0, none⟩ 1 c (rnl y) hx rfl hy (fun u hu => by simp at hu; rcases hu with rfl | rfl | rfl | rfl | rfl | rfl | rfl | rfl | rfl <;> rfl) (by unfold maxLen; omega) (by omega) hbase ?_
  intro v' w' h1 h2 _
  refine h v' w' ?_ h2
  show w'.ownsRow base _ 9 v' (l ++ [y]).length ((l ++ [y]).flatMap rnl)
  rw [List.length_append, List.flatMap_append]
  simpa using h1

set_option maxRecDepth 20000 in
set_option maxHeartbeats 1000000 in
theorem runsOf_any (a : Option Addr) (n cap : Nat) (f : Nat → Ru) (un sp c0 m : Int) (w : World) (hs : SlU w a n f) (hn : n ≤ 24) (hok : ∀ k, k < n → OkRu (f k)) (hap : Apart f n) (hc : 0 ≤ c0 ∧ 0 ≤ m ∧ c0 + m ≤ 65536) :
    Calls Try.prog 87 #[.slice a n cap, .int .i64 un, .int .i64 sp, .int .i64 c0, .int .i64 m] w fun e w' => RunsPost w w' e f n un sp (c0 + m) c0 := by
  obtain ⟨E, hE⟩ : ∃ E, E = c0 + m := ⟨_, rfl⟩
  have wE : IntKind.i64.wrap (c0 + m) = E := by rw [IntKind.wrap_i64]; omega
  have HF : Hid ((∀ k, k < n → OkRu (f k)) ∧ Apart f n) := ⟨hok, hap⟩
  have HE : Hid (E = c0 + m ∧ 0 ≤ c0 ∧ c0 ≤ E ∧ E ≤ 65536) := (⟨hE, by omega, by omega, by omega⟩ : E = c0 + m ∧ 0 ≤ c0 ∧ c0 ≤ E ∧ E ≤ 65536)
  rw [← hE]
  clear hok hap hE hc
  go_enter Try.func87, Try.ntmps87
  go_wp2_with fail
  refine (sortedBy_any a n cap f _ hs hn).mono ?_
  rintro e w1 ⟨rfl, h, R1, P1, S1, B1⟩
  have HP : Hid (PermIn 0 n f h ∧ SortedOn h 0 n) := ⟨P1, S1⟩
  have HOH : Hid (∀ k, k < n → OkRu (h k)) := fun k hk => by
    obtain ⟨j, _, hj, ej⟩ := P1.from' (k := k) (Nat.zero_le _) hk
    rw [ej]; exact HF.out.1 j hj
  clear hs P1 S1
  go_wp2
  go_loopw [3, 12, 23] (fun cv v i wr => ∃ (z : Nat) (c : Int) (l : List Rn) (va : Option Addr) (vn vc : Nat), z ≤ n ∧ i = .int .i64 z ∧ cv = .int .i64 c ∧ v = .slice va vn vc ∧ 0 ≤ c ∧ RunI f h n un sp E c0 z c l ∧ OwnR wr w.heap.size (.slice va vn vc) l ∧ RowU wr w.heap.size n h ∧ Below w.heap.size w wr) (fun cv v i _ => n - (intOf i).toNat)
  case atStart => exact ⟨0, c0, [], none, 0, 0, Nat.zero_le _, rfl, rfl, rfl, HE.out.2.1, RunI.start HE.out.2.2.1, ownR_nil _ _, R1, B1⟩
  case round =>
    clear R1 B1
    obtain ⟨z, c, l, va, vn, vc, hz, rfl, rfl, rfl, hc0, hI, hO, hrow, hbl⟩ := hrel
    have HI : Hid (RunI f h n un sp E c0 z c l) := hI
    clear hI
    by_cases hlt : z < n
    · have hi : (z : Int) < (n : Int) := by omega
      obtain ⟨x0, x1, x2, x3, x4, x5, x6⟩ := RowU.seven hrow hlt
      obtain ⟨gB, hgB⟩ : ∃ gB, gB = wr.heap.size := ⟨_, rfl⟩
      obtain ⟨W, hW⟩ : ∃ W, W = wr.alloc (.cells (ruc (h z)) 41) := ⟨_, rfl⟩
      have bW : Below wr.heap.size wr W := by rw [hW]; exact (Below.refl _ _).alloc (Nat.le_refl _) _
      have HW : Hid (OwnR W w.heap.size (.slice va vn vc) l ∧ RowU W w.heap.size n h ∧ Below w.heap.size w W ∧ gB < W.heap.size ∧ Blk W gB 41 (ruc (h z))) := ⟨hO.below bW, hrow.below bW, bel_next hbl bW, by rw [hW, hgB]; simp, by rw [hW, hgB]; exact Blk.new wr (ruc (h z)) 41⟩
      clear hrow hbl hO bW
      by_cases hcE : c < E
      · cases hh : hasR (h z) un sp c
        · have HH : Hid (RunI f h n un sp E c0 (z + 1) c l) := HI.out.miss HP.out.2 hlt (fun _ => hh)
          clear HI
          go_upto_region 6 with fail
          rw [← hW, ← hgB]
          clear hW hgB x0 x1 x2 x3 x4 x5 x6
          have y0 := HW.out.2.2.2.2.cell 0 rfl
          have y1 := HW.out.2.2.2.2.cell 1 rfl
          have y2 := HW.out.2.2.2.2.cell 2 rfl
          have y3 := HW.out.2.2.2.2.cell 3 rfl
          have y4 := HW.out.2.2.2.2.cell 4 rfl
          have y5 := HW.out.2.2.2.2.cell 5 rfl
          have y6 := HW.out.2.2.2.2.cell 6 rfl
          go_wp2_with fail
          refine (has_any (h z) un sp c _).mono ?_
          rintro e w2 ⟨he, b2⟩
          rw [hh] at he
          subst he
          have HX : Hid (OwnR w2 w.heap.size (.slice va vn vc) l ∧ RowU w2 w.heap.size n h ∧ Below w.heap.size w w2) := ⟨HW.out.1.below b2, HW.out.2.1.below b2, bel_next HW.out.2.2.1 b2⟩
          clear HW b2 y0 y1 y2 y3 y4 y5 y6
          go_wp2
          go_roundw
          case rel => exact ⟨z + 1, c, l, va, vn, vc, by omega, by go_num, rfl, rfl, hc0, HH.out, HX.out.1, HX.out.2.1, HX.out.2.2⟩
          case measure => simp [intOf]; omega
        · have HH : Hid (RunI f h n un sp E c0 (z + 1) (min ((h z).hi + 1) E) (l ++ [⟨h z, c, min ((h z).hi + 1) E - c⟩])) := HI.out.hit HF.out.2 (fun k hk => (HF.out.1 k hk).2.2.1.2.1) HP.out.1 hlt hcE hh
          have hb1 := hasR_true.1 hh
          have ho := HOH.out z hlt
          have hE := HE.out
          have HLN : Hid (l.length ≤ 1000000) := by have := HI.out.len; show l.length ≤ 1000000; omega
          obtain ⟨nx, hnx⟩ : ∃ nx, min ((h z).hi + 1) E = nx := ⟨_, rfl⟩
          have HNX : Hid (min ((h z).hi + 1) E = nx ∧ c < nx ∧ nx ≤ 65536) := ⟨hnx, by unfold OkRu at ho; omega, by omega⟩
          have wh : IntKind.i64.wrap ((h z).hi + 1) = (h z).hi + 1 := by unfold OkRu at ho; rw [IntKind.wrap_i64]; omega
          have wn : IntKind.i64.wrap (nx - c) = nx - c := by have := HNX.out; rw [IntKind.wrap_i64]; omega
          clear HI hb1 ho hE
          go_upto_region 6 with fail
          rw [← hW, ← hgB]
          clear hW hgB x0 x1 x2 x3 x4 x5 x6
          have y0 := HW.out.2.2.2.2.cell 0 rfl
          have y1 := HW.out.2.2.2.2.cell 1 rfl
          have y2 := HW.out.2.2.2.2.cell 2 rfl
          have y3 := HW.out.2.2.2.2.cell 3 rfl
          have y4 := HW.out.2.2.2.2.cell 4 rfl
          have y5 := HW.out.2.2.2.2.cell 5 rfl
          have y6 := HW.out.2.2.2.2.cell 6 rfl
          go_wp2_with fail
          refine (has_any (h z) un sp c _).mono ?_
          rintro e w2 ⟨he, b2⟩
          rw [hh] at he
          subst he
          have HX : Hid (OwnR w2 w.heap.size (.slice va vn vc) l ∧ RowU w2 w.heap.size n h ∧ Below w.heap.size w w2 ∧ Blk w2 gB 41 (ruc (h z))) := ⟨HW.out.1.below b2, HW.out.2.1.below b2, bel_next HW.out.2.2.1 b2, HW.out.2.2.2.2.below b2⟩
          clear HW b2 y0 y1 y2 y3 y4 y5 y6
          have y0 := HX.out.2.2.2.cell 0 rfl
          have y1 := HX.out.2.2.2.cell 1 rfl
          have y2 := HX.out.2.2.2.cell 2 rfl
          have y3 := HX.out.2.2.2.cell 3 rfl
          have y4 := HX.out.2.2.2.cell 4 rfl
          have y5 := HX.out.2.2.2.cell 5 rfl
          have y6 := HX.out.2.2.2.cell 6 rfl
          go_upto_region 8 with fail
          obtain ⟨W2, hW2⟩ : ∃ W2, W2 = w2.alloc (.cells (rnl ⟨h z, c, nx - c⟩).toArray 112) := ⟨_, rfl⟩
          have bW2 : Below w2.heap.size w2 W2 := by rw [hW2]; exact (Below.refl _ _).alloc (Nat.le_refl _) _
          have HX2 : Hid (OwnR W2 w.heap.size (.slice va vn vc) l ∧ RowU W2 w.heap.size n h ∧ Below w.heap.size w W2 ∧ w.heap.size ≤ W2.heap.size ∧ Blk W2 w2.heap.size 112 (rnl ⟨h z, c, nx - c⟩).toArray) := ⟨HX.out.1.below bW2, HX.out.2.1.below bW2, bel_next HX.out.2.2.1 bW2, (bel_next HX.out.2.2.1 bW2).size, by rw [hW2]; exact Blk.new w2 _ 112⟩
          have HC2 : Hid (∀ j u, (rnl ⟨h z, c, nx - c⟩)[j]? = some u → W2.cell? ((⟨w2.heap.size, 0, none⟩ : Addr).add j) = some u) := by
            intro j u hu
            have e1 : (⟨w2.heap.size, 0, none⟩ : Addr).add j = ⟨w2.heap.size, j, none⟩ := by unfold Addr.add; split <;> simp_all
            rw [e1]
            exact HX2.out.2.2.2.2.cell j (by rw [List.getElem?_toArray]; exact hu)
          rw [hW2] at HX2 HC2
          clear hW2 bW2 HX
          go_wp2_with (at_builtin; refine wpList_appR rfl (.tmp 42) (.tmp 49) rfl w.heap.size (.slice va vn vc) l rfl HX2.out.1 w2.heap.size 1 ⟨h z, c, nx - c⟩ rfl HC2.out HLN.out HX2.out.2.2.2.1 ?_; intro v' w4 O4 gg)
          have hne : (Value.slice va vn vc).ownBlock ≠ some w.heap.size := OwnR.noRow HX2.out.1 HX2.out.2.1 (by decide)
          have R4 : RowU w4 w.heap.size n h := RowS.kept HX2.out.2.1 gg hne
          have B4 : Below w.heap.size w w4 := HX2.out.2.2.1.grown gg HX2.out.2.2.2.1 (fun k hk => (World.ownsRow.lt HX2.out.1 k hk).1)
          obtain ⟨va', vc', rfl⟩ := O4.shape
          have HN := HNX.out
          go_roundw
          case rel => exact ⟨z + 1, nx, _, _, _, _, by omega, by go_num, rfl, rfl, by omega, (by have h9 := HH.out; rw [HN.1] at h9; exact h9), O4, R4, B4⟩
          case measure => simp [intOf]; omega
      · have HH : Hid (RunI f h n un sp E c0 (z + 1) c l) := HI.out.miss HP.out.2 hlt (fun e => absurd e hcE)
        clear HI
        go_upto_region 6 with fail
        rw [← hW, ← hgB]
        clear hW hgB x0 x1 x2 x3 x4 x5 x6
        go_wp2
        go_roundw
        case rel => exact ⟨z + 1, c, l, va, vn, vc, by omega, by go_num, rfl, rfl, hc0, HH.out, HW.out.1, HW.out.2.1, HW.out.2.2.1⟩
        case measure => simp [intOf]; omega
    · have hi : ¬ (z : Int) < (n : Int) := by omega
      obtain ⟨b, hb⟩ : ∃ b : Bool, (c == E) = b := ⟨_, rfl⟩
      have hfin := (show RunI f h n un sp E c0 n c l from by have h9 := HI.out; rw [show z = n by omega] at h9; exact h9).fin HP.out.1
      have HX : Hid (OwnR wr w.heap.size (.slice va vn vc) l ∧ l.length ≤ n ∧ RunsR f n un sp E c0 b l ∧ (∀ x ∈ l, OkRu x.r ∧ hasR x.r un sp x.at' = true ∧ c0 ≤ x.at' ∧ 0 < x.n ∧ x.at' + x.n ≤ E) ∧ Below w.heap.size w wr) := ⟨hO, by have := HI.out.len; omega, ⟨fun e => hfin.1 (by rw [e] at hb; simpa using hb), fun e => hfin.2 (by rw [e] at hb; simpa using hb)⟩, fun x hx => (by obtain ⟨⟨j, hj, ej⟩, hh⟩ := HI.out.el x hx; exact ⟨by rw [ej]; exact HOH.out j hj, hh⟩), hbl⟩
      clear hfin hO hrow hbl HI
      go_wp2
      refine bodyPost_ret (v := .tuple #[.slice va vn vc, .bool b]) (by simp [results, Try.results87, go_sem]) rfl ⟨_, l, b, rfl, HX.out⟩

end Go.Proofs.Ytaaokbmfpfmfgaa

namespace Go.Proofs.Ytaaokbmfpfmfgaa
open Go.RowKit

set_option linter.unusedVariables false

set_option linter.unusedSimpArgs false

abbrev rnc (x : Rn) : Array Value := #[.int .i64 x.r.u, .int .i64 x.r.s, .int .i64 x.r.lo, .int .i64 x.r.hi, .int .i64 x.r.p, .int .i64 x.r.t, .int .i64 x.r.sh, .int .i64 x.at', .int .i64 x.n]
abbrev rqc (kd pl nn wa : Int) (q1 q2 : Option Addr) (m1 m2 k1 k2 : Nat) : Array Value := #[.int .i64 kd, .int .i64 pl, .int .i64 nn, .slice q1 m1 k1, .slice q2 m2 k2, .int .i64 wa]

set_option maxRecDepth 20000 in
set_option maxHeartbeats 1000000 in
theorem part_1 (x : Rn) (pl nn wa : Int) (q1 q2 : Option Addr) (m1 m2 k1 k2 : Nat) (w : World) (h1 : 0 ≤ x.at' ∧ x.at' ≤ 65535) (h2 : -65535 ≤ x.r.sh ∧ x.r.sh ≤ 65535) (h3 : 0 ≤ pl ∧ pl ≤ 65535) :
    Calls Try.prog 88 #[.agg (rnc x), .agg (rqc 1 pl nn wa q1 q2 m1 m2 k1 k2)] w fun e w' => e = .returned (.agg #[.int .i64 x.r.p, .int .i64 x.r.t, .int .i64 1, .int .i64 (x.at' + x.r.sh), .int .i64 x.n, .slice none 0 0, .slice none 0 0, .int .i64 0]) ∧ Below w.heap.size w w' := by
  have w1 : IntKind.i64.wrap (x.at' + x.r.sh) = x.at' + x.r.sh := by rw [IntKind.wrap_i64]; omega
  have w2 : IntKind.i64.wrap (x.at' - pl) = x.at' - pl := by rw [IntKind.wrap_i64]; omega
  go_enter Try.func88, Try.ntmps88
  go_wp2
  refine bodyPost_ret (v := .agg #[.int .i64 x.r.p, .int .i64 x.r.t, .int .i64 1, .int .i64 (x.at' + x.r.sh), .int .i64 x.n, .slice none 0 0, .slice none 0 0, .int .i64 0]) (by simp [results, Try.results88, go_sem]) rfl ⟨rfl, ?_⟩
  exact ((((Below.refl _ w).alloc (Nat.le_refl _) _).alloc (by simp) _).alloc (by simp; omega) _).alloc (by simp; omega) _

set_option maxRecDepth 20000 in
set_option maxHeartbeats 1000000 in
theorem part_2 (x : Rn) (pl nn wa : Int) (q1 q2 : Option Addr) (m1 m2 k1 k2 : Nat) (w : World) (h1 : 0 ≤ x.at' ∧ x.at' ≤ 65535) (h2 : -65535 ≤ x.r.sh ∧ x.r.sh ≤ 65535) (h3 : 0 ≤ pl ∧ pl ≤ 65535) :
    Calls Try.prog 88 #[.agg (rnc x), .agg (rqc 2 pl nn wa q1 q2 m1 m2 k1 k2)] w fun e w' => e = .returned (.agg #[.int .i64 x.r.p, .int .i64 x.r.t, .int .i64 2, .int .i64 (x.at' + x.r.sh), .int .i64 x.n, .slice none 0 0, .slice none 0 0, .int .i64 0]) ∧ Below w.heap.size w w' := by
  have w1 : IntKind.i64.wrap (x.at' + x.r.sh) = x.at' + x.r.sh := by rw [IntKind.wrap_i64]; omega
  have w2 : IntKind.i64.wrap (x.at' - pl) = x.at' - pl := by rw [IntKind.wrap_i64]; omega
  go_enter Try.func88, Try.ntmps88
  go_wp2
  refine bodyPost_ret (v := .agg #[.int .i64 x.r.p, .int .i64 x.r.t, .int .i64 2, .int .i64 (x.at' + x.r.sh), .int .i64 x.n, .slice none 0 0, .slice none 0 0, .int .i64 0]) (by simp [results, Try.results88, go_sem]) rfl ⟨rfl, ?_⟩
  exact ((((Below.refl _ w).alloc (Nat.le_refl _) _).alloc (by simp) _).alloc (by simp; omega) _).alloc (by simp; omega) _

set_option maxRecDepth 20000 in
set_option maxHeartbeats 1000000 in
theorem part_3 (x : Rn) (pl nn wa : Int) (q1 q2 : Option Addr) (m1 m2 k1 k2 : Nat) (w : World) (h1 : 0 ≤ x.at' ∧ x.at' ≤ 65535) (h2 : -65535 ≤ x.r.sh ∧ x.r.sh ≤ 65535) (h3 : 0 ≤ pl ∧ pl ≤ 65535) :
    Calls Try.prog 88 #[.agg (rnc x), .agg (rqc 3 pl nn wa q1 q2 m1 m2 k1 k2)] w fun e w' => e = .returned (.agg #[.int .i64 x.r.p, .int .i64 x.r.t, .int .i64 3, .int .i64 (x.at' + x.r.sh), .int .i64 x.n, .slice none 0 0, .slice none 0 0, .int .i64 0]) ∧ Below w.heap.size w w' := by
  have w1 : IntKind.i64.wrap (x.at' + x.r.sh) = x.at' + x.r.sh := by rw [IntKind.wrap_i64]; omega
  have w2 : IntKind.i64.wrap (x.at' - pl) = x.at' - pl := by rw [IntKind.wrap_i64]; omega
  go_enter Try.func88, Try.ntmps88
  go_wp2
  refine bodyPost_ret (v := .agg #[.int .i64 x.r.p, .int .i64 x.r.t, .int .i64 3, .int .i64 (x.at' + x.r.sh), .int .i64 x.n, .slice none 0 0, .slice none 0 0, .int .i64 0]) (by simp [results, Try.results88, go_sem]) rfl ⟨rfl, ?_⟩
  exact ((((Below.refl _ w).alloc (Nat.le_refl _) _).alloc (by simp) _).alloc (by simp; omega) _).alloc (by simp; omega) _

set_option maxRecDepth 20000 in
set_option maxHeartbeats 1000000 in
theorem part_4 (x : Rn) (pl nn wa : Int) (q1 q2 : Option Addr) (m1 m2 k1 k2 : Nat) (w : World) (h1 : 0 ≤ x.at' ∧ x.at' ≤ 65535) (h2 : -65535 ≤ x.r.sh ∧ x.r.sh ≤ 65535) (h3 : 0 ≤ pl ∧ pl ≤ 65535) :
    Calls Try.prog 88 #[.agg (rnc x), .agg (rqc 4 pl nn wa q1 q2 m1 m2 k1 k2)] w fun e w' => e = .returned (.agg #[.int .i64 x.r.p, .int .i64 x.r.t, .int .i64 4, .int .i64 (x.at' + x.r.sh), .int .i64 x.n, .slice none 0 0, .slice none 0 0, .int .i64 0]) ∧ Below w.heap.size w w' := by
  have w1 : IntKind.i64.wrap (x.at' + x.r.sh) = x.at' + x.r.sh := by rw [IntKind.wrap_i64]; omega
  have w2 : IntKind.i64.wrap (x.at' - pl) = x.at' - pl := by rw [IntKind.wrap_i64]; omega
  go_enter Try.func88, Try.ntmps88
  go_wp2
  refine bodyPost_ret (v := .agg #[.int .i64 x.r.p, .int .i64 x.r.t, .int .i64 4, .int .i64 (x.at' + x.r.sh), .int .i64 x.n, .slice none 0 0, .slice none 0 0, .int .i64 0]) (by simp [results, Try.results88, go_sem]) rfl ⟨rfl, ?_⟩
  exact ((((Below.refl _ w).alloc (Nat.le_refl _) _).alloc (by simp) _).alloc (by simp; omega) _).alloc (by simp; omega) _

/-- Of what reads. -/
theorem part_read (kd : Int) (hk : kd = 1 ∨ kd = 2 ∨ kd = 3 ∨ kd = 4) (x : Rn) (pl nn wa : Int) (q1 q2 : Option Addr) (m1 m2 k1 k2 : Nat) (w : World) (h1 : 0 ≤ x.at' ∧ x.at' ≤ 65535) (h2 : -65535 ≤ x.r.sh ∧ x.r.sh ≤ 65535) (h3 : 0 ≤ pl ∧ pl ≤ 65535) :
    Calls Try.prog 88 #[.agg (rnc x), .agg (rqc kd pl nn wa q1 q2 m1 m2 k1 k2)] w fun e w' => e = .returned (.agg #[.int .i64 x.r.p, .int .i64 x.r.t, .int .i64 kd, .int .i64 (x.at' + x.r.sh), .int .i64 x.n, .slice none 0 0, .slice none 0 0, .int .i64 0]) ∧ Below w.heap.size w w' := by
  obtain rfl | rfl | rfl | rfl := hk
  · exact part_1 x pl nn wa q1 q2 m1 m2 k1 k2 w h1 h2 h3
  · exact part_2 x pl nn wa q1 q2 m1 m2 k1 k2 w h1 h2 h3
  · exact part_3 x pl nn wa q1 q2 m1 m2 k1 k2 w h1 h2 h3
  · exact part_4 x pl nn wa q1 q2 m1 m2 k1 k2 w h1 h2 h3

end Go.Proofs.Ytaaokbmfpfmfgaa

namespace Go.Proofs.Ytaaokbmfpfmfgaa
open Go.RowKit

set_option linter.unusedVariables false

set_option linter.unusedSimpArgs false

instance : Inhabited Rn := ⟨⟨⟨0, 0, 0, 0, 0, 0, 0⟩, 0, 0⟩⟩

theorem flatMap_at : ∀ (l : List Rn) (k j : Nat), k < l.length → j < 9 → (l.flatMap rnl)[k * 9 + j]? = (rnl (l.getD k default))[j]?
  | [], k, j, hk, _ => by simp at hk
  | x :: r, 0, j, hk, hj => by
    rw [List.flatMap_cons, List.getElem?_append_left (by simp; omega)]
    simp
  | x :: r, k + 1, j, hk, hj => by
    rw [List.flatMap_cons, List.getElem?_append_right (by simp; omega)]
    have e : (k + 1) * 9 + j - (rnl x).length = k * 9 + j := by simp; omega
    rw [e, flatMap_at r k j (by simpa using hk) hj]
    simp

theorem OwnR.sl {w : World} {base n cap : Nat} {a : Option Addr} {l : List Rn} (h : OwnR w base (.slice a n cap) l) : n = l.length ∧ SlS w a 9 l.length (fun k => rnl (l.getD k default)) := by
  rcases h.2 with ⟨e, h0⟩ | ⟨g, cap', cur, hv, _, hh, hle, _, hs, ht⟩
  · simp only [Value.slice.injEq] at e
    exact ⟨by rw [h0]; exact e.2.1, .inl h0⟩
  · simp only [Value.slice.injEq] at hv
    refine ⟨hv.2.1, .inr ⟨g, 0, hv.1, (Array.getElem?_eq_some_iff.1 hh).1, fun k hk j hj => ?_⟩⟩
    have hlt : k * 9 + j < l.length * 9 := by omega
    have e1 : (l.flatMap rnl)[k * 9 + j]? = cur[k * 9 + j]? := by
      rw [← ht, List.getElem?_take, if_pos hlt, Array.getElem?_toList]
    have e2 : w.cell? ⟨g, 0 + k * 9 + j, none⟩ = cur[k * 9 + j]? := by simp [World.cell?, hh]
    rw [e2, ← e1]
    exact flatMap_at l k j hk hj

theorem SlS.nine {w : World} {a : Option Addr} {n : Nat} {G : Nat → Rn} (h : SlS w a 9 n (fun k => rnl (G k))) {k : Nat} (hk : k < n) : ∃ b off, a = some ⟨b, off, none⟩ ∧ b < w.heap.size ∧
    w.cell? ⟨b, off + k * 9, none⟩ = some (.int .i64 (G k).r.u) ∧ w.cell? ⟨b, off + k * 9 + 1, none⟩ = some (.int .i64 (G k).r.s) ∧ w.cell? ⟨b, off + k * 9 + 2, none⟩ = some (.int .i64 (G k).r.lo) ∧ w.cell? ⟨b, off + k * 9 + 3, none⟩ = some (.int .i64 (G k).r.hi) ∧ w.cell? ⟨b, off + k * 9 + 4, none⟩ = some (.int .i64 (G k).r.p) ∧ w.cell? ⟨b, off + k * 9 + 5, none⟩ = some (.int .i64 (G k).r.t) ∧ w.cell? ⟨b, off + k * 9 + 6, none⟩ = some (.int .i64 (G k).r.sh) ∧ w.cell? ⟨b, off + k * 9 + 7, none⟩ = some (.int .i64 (G k).at') ∧ w.cell? ⟨b, off + k * 9 + 8, none⟩ = some (.int .i64 (G k).n) := by
  obtain ⟨b, off, ha, hb, hc⟩ := SlS.at h hk
  exact ⟨b, off, ha, hb, hc 0 (by decide), hc 1 (by decide), hc 2 (by decide), hc 3 (by decide), hc 4 (by decide), hc 5 (by decide), hc 6 (by decide), hc 7 (by decide), hc 8 (by decide)⟩

theorem setL_grown {g : Nat} : ∀ (vs : List Value) (w : World) (o : Nat), w.grownBy (setL w g o vs) (some g)
  | [], w, o => World.grownBy.refl w _
  | v :: vs, w, o => by
    have h1 := grown_setb w g o v
    have h2 := setL_grown (g := g) vs (w.setCell ⟨g, o, none⟩ v) (o + 1)
    exact ⟨h2.os.trans h1.os, h2.tape.trans h1.tape, h2.output.trans h1.output, Nat.le_trans h1.size h2.size, fun k hk hne => by rw [show setL w g o (v :: vs) = setL (w.setCell ⟨g, o, none⟩ v) g (o + 1) vs from rfl, h2.block k (Nat.lt_of_lt_of_le hk h1.size) hne, h1.block k hk hne]⟩

/-- The eight cells of a part that reads. -/
abbrev prl (kd : Int) (x : Rn) : List Value := [.int .i64 x.r.p, .int .i64 x.r.t, .int .i64 kd, .int .i64 (x.at' + x.r.sh), .int .i64 x.n, .slice none 0 0, .slice none 0 0, .int .i64 0]

/-- The parts of a question that reads, in a row of the call's own. -/
def PartsPost (w w' : World) (e : Ending) (f : Nat → Ru) (n : Nat) (un sp E c0 kd : Int) : Prop :=
  ∃ g l b, e = .returned (.tuple #[.slice (some ⟨g, 0, none⟩) l.length l.length, .bool b]) ∧ w.heap.size ≤ g ∧ RowS w' g 37 8 l.length (fun k => prl kd (l.getD k default)) ∧ l.length ≤ n ∧ RunsR f n un sp E c0 b l ∧ Below w.heap.size w w'

abbrev zpl : List Value := [.int .i64 0, .int .i64 0, .int .i64 0, .int .i64 0, .int .i64 0, .slice none 0 0, .slice none 0 0, .int .i64 0]

theorem Try.infoP37 : (Try.prog.info? 37).map (fun i => (i.zero, i.size, i.bytes)) = some (some (.agg zpl.toArray), 8, 96) := by kernel_rfl

set_option maxRecDepth 20000 in
set_option maxHeartbeats 2000000 in
theorem partsOf_read (kd : Int) (hk : kd = 1 ∨ kd = 2 ∨ kd = 3 ∨ kd = 4) (a : Option Addr) (n cap : Nat) (f : Nat → Ru) (un sp pl nn wa : Int) (q1 q2 : Option Addr) (m1 m2 k1 k2 : Nat) (ws : List Int) (bs : List Bool) (w : World) (hs : SlU w a n f) (hn : n ≤ 24) (hok : ∀ k, k < n → OkRu (f k)) (hap : Apart f n)
    (h1 : m1 = ws.length) (h2 : m2 = bs.length) (s1 : SlI w q1 ws) (s2 : SlB w q2 bs) (hl1 : ws.length ≤ 2000000) (hl2 : bs.length ≤ 2000000) (hv : spcV (okR kd pl nn wa ws m1 m2) kd pl nn m1 m2 = .tuple #[.int .i64 sp, .int .i64 pl, .int .i64 nn]) (hc : 0 ≤ pl ∧ 0 ≤ nn ∧ pl + nn ≤ 65536) (hc' : pl ≤ 65535) :
    Calls Try.prog 37 #[.slice a n cap, .int .i64 un, .agg (rqc kd pl nn wa q1 q2 m1 m2 k1 k2)] w fun e w' => PartsPost w w' e f n un sp (pl + nn) pl kd := by
  have hk23 : (kd == 23) = false := by obtain rfl | rfl | rfl | rfl := hk <;> rfl
  have hk23' : ¬ kd = 23 := by omega
  obtain ⟨W, hW⟩ : ∃ W, W = w.alloc (.cells (rqc kd pl nn wa q1 q2 m1 m2 k1 k2) 28) := ⟨_, rfl⟩
  have bW : Below w.heap.size w W := by rw [hW]; exact (Below.refl _ _).alloc (Nat.le_refl _) _
  have HF : Hid ((∀ k, k < n → OkRu (f k)) ∧ Apart f n) := ⟨hok, hap⟩
  have HW : Hid (SlU W a n f ∧ SlI W q1 ws ∧ SlB W q2 bs ∧ Below w.heap.size w W ∧ Blk W w.heap.size 28 (rqc kd pl nn wa q1 q2 m1 m2 k1 k2)) := ⟨SlS.below hs bW, s1.below bW, s2.below bW, bW, by rw [hW]; exact Blk.new w _ 28⟩
  have HQ : Hid (m1 = ws.length ∧ m2 = bs.length) := ⟨h1, h2⟩
  have HV : Hid (spcV (okR kd pl nn wa ws m1 m2) kd pl nn m1 m2 = .tuple #[.int .i64 sp, .int .i64 pl, .int .i64 nn]) := hv
  clear hs s1 s2 bW h1 h2 hv hok hap
  go_enter Try.func37, Try.ntmps37
  go_upto_region 3 with fail
  rw [← hW]
  clear hW
  obtain ⟨y0, y1, y2, y3, y4, y5⟩ := HW.out.2.2.2.2.six
  go_wp2_with fail
  refine (implSpaces_t kd pl nn wa q1 q2 m1 m2 k1 k2 ws bs _ HQ.out.1 HQ.out.2 HW.out.2.1 HW.out.2.2.1 hl1 hl2 sp pl nn HV.out).mono ?_
  rintro e w1 ⟨rfl, b1⟩
  have HX : Hid (SlU w1 a n f ∧ Below w.heap.size w w1 ∧ Blk w1 w.heap.size 28 (rqc kd pl nn wa q1 q2 m1 m2 k1 k2)) := ⟨SlS.below HW.out.1 b1, bel_next HW.out.2.2.2.1 b1, HW.out.2.2.2.2.below b1⟩
  clear HW b1 y0 y1 y2 y3 y4 y5 HV
  go_wp2_with fail
  refine (runsOf_any a n cap f un sp pl nn _ HX.out.1 hn HF.out.1 HF.out.2 hc).mono ?_
  rintro e w2 ⟨v, l, b, rfl, O2, hln, hR, hel, b2⟩
  obtain ⟨va, vc, rfl⟩ := O2.shape
  obtain ⟨N, hN⟩ : ∃ N, N = l.length := ⟨_, rfl⟩
  rw [← hN] at O2 ⊢
  have HN : Hid (N = l.length ∧ N ≤ 24) := ⟨hN, by omega⟩
  have HL : Hid (l.length ≤ n ∧ RunsR f n un sp (pl + nn) pl b l ∧ ∀ k, k < N → OkRu (l.getD k default).r ∧ hasR (l.getD k default).r un sp (l.getD k default).at' = true) := ⟨hln, hR, fun k hk => (fun h9 => ⟨h9.1, h9.2.1⟩) (hel (l.getD k default) (by rw [List.getD_eq_getElem?_getD, List.getElem?_eq_getElem (by omega)]; simp))⟩
  have hmk := run_make_st (P := Try.prog) 31 37 (.agg zpl.toArray) 8 96 Try.underlying31 Try.infoP37 .i64 .i64 N (by have := HN.out; omega) (by have := HN.out; omega)
  have bM := (Below.refl w2.heap.size w2).alloc (Nat.le_refl _) (.cells (madeCells (Value.agg zpl.toArray).cells (N * 8)) 37)
  have HM : Hid (RowS (w2.alloc (.cells (madeCells (Value.agg zpl.toArray).cells (N * 8)) 37)) w2.heap.size 37 8 N (fun _ => zpl) ∧ OwnR (w2.alloc (.cells (madeCells (Value.agg zpl.toArray).cells (N * 8)) 37)) w1.heap.size (.slice va N vc) l ∧ Blk (w2.alloc (.cells (madeCells (Value.agg zpl.toArray).cells (N * 8)) 37)) w.heap.size 28 (rqc kd pl nn wa q1 q2 m1 m2 k1 k2) ∧ Below w.heap.size w (w2.alloc (.cells (madeCells (Value.agg zpl.toArray).cells (N * 8)) 37)) ∧ w.heap.size ≤ w2.heap.size) := ⟨RowS.made w2 zpl N _ (by simp), O2.below bM, (HX.out.2.2.below b2).below bM, bel_next (bel_next HX.out.2.1 b2) bM, (bel_next HX.out.2.1 b2).size⟩
  have HGE : Hid (w.heap.size ≤ w2.heap.size) := HM.out.2.2.2.2
  clear O2 hN hln hR hel b2 bM HX
  go_wp2
  clear hmk
  go_loopw [45] (fun i wr => ∃ z : Nat, z ≤ N ∧ i = .int .i64 z ∧ RowS wr w2.heap.size 37 8 N (fun k => if k < z then prl kd (l.getD k default) else zpl) ∧ OwnR wr w1.heap.size (.slice va N vc) l ∧ Blk wr w.heap.size 28 (rqc kd pl nn wa q1 q2 m1 m2 k1 k2) ∧ Below w.heap.size w wr) (fun i _ => N - (intOf i).toNat)
  case atStart => exact ⟨0, Nat.zero_le _, rfl, HM.out.1.congr (fun k _ => by simp), HM.out.2.1, HM.out.2.2.1, HM.out.2.2.2.1⟩
  case round =>
    obtain ⟨z, hz, rfl, hrow, hO, hQ, hbl⟩ := hrel
    have hN24 : N ≤ 24 := HN.out.2
    by_cases hlt : z < N
    · have hi : (z : Int) < (N : Int) := by omega
      obtain ⟨x, hx⟩ : ∃ x, x = l.getD z default := ⟨_, rfl⟩
      have HXX : Hid (x = l.getD z default) := hx
      have hsl := (OwnR.sl hO)
      rw [← hsl.1] at hsl
      obtain ⟨bb, off, hva, hbb, c0, c1, c2, c3, c4, c5, c6, c7, c8⟩ := SlS.nine (G := fun k => l.getD k default) hsl.2 hlt
      simp only [← hx] at c0 c1 c2 c3 c4 c5 c6 c7 c8
      subst hva
      have hx2 := HL.out.2.2 z hlt
      rw [← hx] at hx2
      have HX2 : Hid (0 ≤ x.at' ∧ x.at' ≤ 65535 ∧ -65535 ≤ x.r.sh ∧ x.r.sh ≤ 65535) := by
        obtain ⟨o1, o2⟩ := hx2
        rw [hasR_true] at o2
        unfold OkRu at o1
        show _ ∧ _
        omega
      obtain ⟨W3, hW3⟩ : ∃ W3, W3 = wr.alloc (.cells (rnc x) 112) := ⟨_, rfl⟩
      obtain ⟨gB, hgB⟩ : ∃ gB, gB = wr.heap.size := ⟨_, rfl⟩
      have bW3 : Below wr.heap.size wr W3 := by rw [hW3]; exact (Below.refl _ _).alloc (Nat.le_refl _) _
      have HW3 : Hid (RowS W3 w2.heap.size 37 8 N (fun k => if k < z then prl kd (l.getD k default) else zpl) ∧ OwnR W3 w1.heap.size (.slice (some ⟨bb, off, none⟩) N vc) l ∧ Blk W3 w.heap.size 28 (rqc kd pl nn wa q1 q2 m1 m2 k1 k2) ∧ Below w.heap.size w W3 ∧ Blk W3 gB 112 (rnc x)) := ⟨hrow.below bW3, hO.below bW3, hQ.below bW3, bel_next hbl bW3, by rw [hW3, hgB]; exact Blk.new wr _ 112⟩
      clear hrow hO hQ hbl bW3 hsl hx2 hx
      go_upto_region 9 with fail
      rw [← hW3, ← hgB]
      clear hW3 hgB c0 c1 c2 c3 c4 c5 c6 c7 c8
      obtain ⟨y0, y1, y2, y3, y4, y5⟩ := HW3.out.2.2.1.six
      have e0 := HW3.out.2.2.2.2.cell 0 rfl
      have e1 := HW3.out.2.2.2.2.cell 1 rfl
      have e2 := HW3.out.2.2.2.2.cell 2 rfl
      have e3 := HW3.out.2.2.2.2.cell 3 rfl
      have e4 := HW3.out.2.2.2.2.cell 4 rfl
      have e5 := HW3.out.2.2.2.2.cell 5 rfl
      have e6 := HW3.out.2.2.2.2.cell 6 rfl
      have e7 := HW3.out.2.2.2.2.cell 7 rfl
      have e8 := HW3.out.2.2.2.2.cell 8 rfl
      go_wp2_with fail
      refine (part_read kd hk x pl nn wa q1 q2 m1 m2 k1 k2 _ ⟨HX2.out.1, HX2.out.2.1⟩ HX2.out.2.2 ⟨hc.1, hc'⟩).mono ?_
      rintro e w4 ⟨rfl, b4⟩
      have R2 := HW3.out.1.below b4
      have HX4 : Hid (OwnR w4 w1.heap.size (.slice (some ⟨bb, off, none⟩) N vc) l ∧ Blk w4 w.heap.size 28 (rqc kd pl nn wa q1 q2 m1 m2 k1 k2) ∧ Below w.heap.size w w4) := ⟨HW3.out.2.1.below b4, HW3.out.2.2.1.below b4, bel_next HW3.out.2.2.2.1 b4⟩
      clear y0 y1 y2 y3 y4 y5 e0 e1 e2 e3 e4 e5 e6 e7 e8 HW3 b4
      have HNE : Hid (w2.heap.size ≠ w.heap.size) := by
        intro e9
        obtain ⟨cs, h9, _⟩ := R2
        have h8 : w4.heap[w.heap.size]? = _ := HX4.out.2.1
        rw [e9, h8] at h9
        simp at h9
      have d0 : w4.cell? ⟨w2.heap.size, z * 8, none⟩ = some (.int .i64 0) := (by have h9 := R2.cell (k := z) (j := 0) hlt (by decide); simpa using h9)
      have g0 := RowS.fro R2 (z * 8)
      have d1 : w4.cell? ⟨w2.heap.size, z * 8 + 1, none⟩ = some (.int .i64 0) := (by have h9 := R2.cell (k := z) (j := 1) hlt (by decide); simpa using h9)
      have g1 := RowS.fro R2 (z * 8 + 1)
      have d2 : w4.cell? ⟨w2.heap.size, z * 8 + 2, none⟩ = some (.int .i64 0) := (by have h9 := R2.cell (k := z) (j := 2) hlt (by decide); simpa using h9)
      have g2 := RowS.fro R2 (z * 8 + 2)
      have d3 : w4.cell? ⟨w2.heap.size, z * 8 + 3, none⟩ = some (.int .i64 0) := (by have h9 := R2.cell (k := z) (j := 3) hlt (by decide); simpa using h9)
      have g3 := RowS.fro R2 (z * 8 + 3)
      have d4 : w4.cell? ⟨w2.heap.size, z * 8 + 4, none⟩ = some (.int .i64 0) := (by have h9 := R2.cell (k := z) (j := 4) hlt (by decide); simpa using h9)
      have g4 := RowS.fro R2 (z * 8 + 4)
      have d5 : w4.cell? ⟨w2.heap.size, z * 8 + 5, none⟩ = some (.slice none 0 0) := (by have h9 := R2.cell (k := z) (j := 5) hlt (by decide); simpa using h9)
      have g5 := RowS.fro R2 (z * 8 + 5)
      have d6 : w4.cell? ⟨w2.heap.size, z * 8 + 6, none⟩ = some (.slice none 0 0) := (by have h9 := R2.cell (k := z) (j := 6) hlt (by decide); simpa using h9)
      have g6 := RowS.fro R2 (z * 8 + 6)
      have d7 : w4.cell? ⟨w2.heap.size, z * 8 + 7, none⟩ = some (.int .i64 0) := (by have h9 := R2.cell (k := z) (j := 7) hlt (by decide); simpa using h9)
      have g7 := RowS.fro R2 (z * 8 + 7)
      have HR2 : Hid (RowS (setL w4 w2.heap.size (z * 8) (prl kd x)) w2.heap.size 37 8 N (fun k => if k < z + 1 then prl kd (l.getD k default) else zpl)) := by
        refine (RowS.set R2 hlt (prl kd x) rfl).congr (fun i _ => ?_)
        by_cases e : i = z
        · subst e; simp [HXX.out]
        · simp only [if_neg e]
          by_cases h : i < z
          · rw [if_pos h, if_pos (by omega)]
          · rw [if_neg h, if_neg (by omega)]
      have HB2 : Hid (OwnR (setL w4 w2.heap.size (z * 8) (prl kd x)) w1.heap.size (.slice (some ⟨bb, off, none⟩) N vc) l ∧ Blk (setL w4 w2.heap.size (z * 8) (prl kd x)) w.heap.size 28 (rqc kd pl nn wa q1 q2 m1 m2 k1 k2) ∧ Below w.heap.size w (setL w4 w2.heap.size (z * 8) (prl kd x))) := ⟨HX4.out.1.kept (setL_grown _ _ _) (.inr (OwnR.noRow HX4.out.1 R2 (by decide))), HX4.out.2.1.grown (setL_grown _ _ _) (by have := HNE.out; intro e9; exact this (Option.some.inj e9)), setL_below HGE.out _ _ _ HX4.out.2.2⟩
      clear R2 HX4
      go_wp2
      go_roundw
      case rel => exact ⟨z + 1, by omega, by go_num, HR2.out, HB2.out.1, HB2.out.2.1, HB2.out.2.2⟩
      case measure => simp [intOf]; omega
    · have hi : ¬ (z : Int) < (N : Int) := by omega
      have HX9 : Hid (RowS wr w2.heap.size 37 8 N (fun k => prl kd (l.getD k default)) ∧ Below w.heap.size w wr) := ⟨hrow.congr (fun k hk => by show (if k < z then _ else _) = _; rw [if_pos (by omega)]), hbl⟩
      clear hrow hO hQ hbl
      go_wp2
      refine bodyPost_ret (v := .tuple #[.slice (some ⟨w2.heap.size, 0, none⟩) N N, .bool b]) (by simp [results, Try.results37, go_sem]) rfl ?_
      have e9 := HN.out.1
      subst e9
      exact ⟨w2.heap.size, l, b, rfl, HGE.out, HX9.out.1, HL.out.1, HL.out.2.1, HX9.out.2⟩

end Go.Proofs.Ytaaokbmfpfmfgaa

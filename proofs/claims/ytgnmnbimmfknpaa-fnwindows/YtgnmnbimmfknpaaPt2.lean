/- The runs of places of the program. -/
import Derived.Test.YtgnmnbimmfknpaaPt1
import Derived.Test.YtgnmnbimmfknpaaR1
import Derived.Lib.MinMax
namespace Go.Proofs.Ytgnmnbimmfknpaa
open Go.RowKit

set_option linter.unusedVariables false

set_option linter.unusedSimpArgs false

/-- The nine cells of a run. -/
abbrev rnl (x : Rn) : List Value := rul x.r ++ [.int .i64 x.at', .int .i64 x.n]

/-- A list of runs of the call's own. -/
def OwnR (w : World) (base : Nat) (v : Value) (l : List Rn) : Prop := w.ownsRow base 127 9 v l.length (l.flatMap rnl)

theorem ownR_nil (w : World) (base : Nat) : OwnR w base (.slice none 0 0) [] := World.ownsRow_nil w base _ _

theorem OwnR.kept {w w' : World} {base : Nat} {v : Value} {l : List Rn} {row : Option Nat} (h : OwnR w base v l) (hg : w.grownBy w' row) (hne : v.ownBlock = none ∨ v.ownBlock ≠ row) : OwnR w' base v l := World.ownsRow.kept h hg hne

theorem OwnR.below {w w' : World} {base : Nat} {v : Value} {l : List Rn} (h : OwnR w base v l) (hb : Below w.heap.size w w') : OwnR w' base v l := by
  refine h.kept (grown_below hb (some w.heap.size)) ?_
  cases e : v.ownBlock with
  | none => exact .inl rfl
  | some k => exact .inr (fun e2 => by have := (World.ownsRow.lt h k e).2; simp at e2; omega)

theorem OwnR.shape {w : World} {base : Nat} {v : Value} {l : List Rn} (h : OwnR w base v l) : ∃ a cap, v = .slice a l.length cap := by
  rcases h.2 with ⟨rfl, h0⟩ | ⟨g, cap, cur, rfl, _⟩
  · exact ⟨none, 0, by rw [h0]⟩
  · exact ⟨_, cap, rfl⟩

theorem OwnR.noRow {w : World} {base g s n : Nat} {t : TypeId} {v : Value} {l : List Rn} {F : Nat → List Value} (h : OwnR w base v l) (hr : RowS w g t s n F) (ht : t ≠ 127) : v.ownBlock ≠ some g := by
  intro e
  rcases h.2 with ⟨rfl, _⟩ | ⟨g', cap, cur, rfl, _, hh, _⟩
  · simp [Value.ownBlock] at e
  · simp [Value.ownBlock] at e
    subst e
    obtain ⟨cs, h1, _⟩ := hr
    rw [hh] at h1
    simp only [Option.some.injEq, Obj.cells.injEq] at h1
    exact ht h1.2.1.symm

theorem Try.infoR127 : (Try.prog.info? 127).map (fun i => (i.zero, i.size, i.bytes)) = some (some (.agg (rnl ⟨⟨0, 0, 0, 0, 0, 0, 0⟩, 0, 0⟩).toArray), 9, 72) := by kernel_rfl

theorem flatMap_len (l : List Rn) : (l.flatMap rnl).length = l.length * 9 := by
  induction l with
  | nil => rfl
  | cons x r ih => rw [List.flatMap_cons, List.length_append, ih]; simp; omega

/-- What runsOf has told. -/
def RunsR (f : Nat → Ru) (n : Nat) (un sp E c0 : Int) (b : Bool) (l : List Rn) : Prop := (b = true → runs f n un sp E c0 = some l) ∧ (b = false → runs f n un sp E c0 = none)

def RunsPost (w w' : World) (e : Ending) (f : Nat → Ru) (n : Nat) (un sp E c0 : Int) : Prop := ∃ v l b, e = .returned (.tuple #[v, .bool b]) ∧ OwnR w' w.heap.size v l ∧ l.length ≤ n ∧ RunsR f n un sp E c0 b l ∧ (∀ x ∈ l, OkRu x.r ∧ hasR x.r un sp x.at' = true) ∧ Below w.heap.size w w'

/-- One run more. -/
theorem wpList_appR {w : World} {ops : Array Oper} {rest : List Oper} {o : Oper} {a : Act} {Q : Exit → Act → World → Prop} (hgd : o.guard = none) (s x : Operand)
    (ho : o.op = .call { callee := .builtin .append, args := #[s, x], argTypes := #[123, 123] }) (base : Nat) (v : Value) (l : List Rn) (hs : a.eval s = v) (hown : OwnR w base v l)
    (g c : Nat) (y : Rn) (hx : a.eval x = .slice (some ⟨g, 0, none⟩) 1 c) (hy : ∀ j u, (rnl y)[j]? = some u → w.cell? ((⟨g, 0, none⟩ : Addr).add j) = some u) (hlen : l.length ≤ 1000000) (hbase : base ≤ w.heap.size)
    (h : ∀ v' w', OwnR w' base v' (l ++ [y]) → w.grownBy w' v.ownBlock → wpList Try.prog ops Q rest (a.put o.dst v') w') : wpList Try.prog ops Q (o :: rest) a w := by
  obtain ⟨i0, hi, hzz⟩ := Option.map_eq_some_iff.1 Try.infoR127
  simp only [Prod.mk.injEq] at hzz
  obtain ⟨hz0, hz1, hz2⟩ := hzz
  refine wpList_append_own w hgd s x 123 ho base 127 i0 _ 9 72 Try.underlying123 hi hz0 hz1 hz2 rfl (by decide) v l.length (l.flatMap rnl) hs hown ⟨g, 0, none⟩ 1 c (rnl y) hx rfl hy (fun u hu => by simp at hu; rcases hu with rfl | rfl | rfl | rfl | rfl | rfl | rfl | rfl | rfl <;> rfl) (by unfold maxLen; omega) (by omega) hbase ?_
  intro v' w' h1 h2 _
  refine h v' w' ?_ h2
  show w'.ownsRow base _ 9 v' (l ++ [y]).length ((l ++ [y]).flatMap rnl)
  rw [List.length_append, List.flatMap_append]
  simpa using h1

set_option maxRecDepth 20000 in
set_option maxHeartbeats 1000000 in
theorem runsOf_any (a : Option Addr) (n cap : Nat) (f : Nat → Ru) (un sp c0 m : Int) (w : World) (hs : SlU w a n f) (hn : n ≤ 24) (hok : ∀ k, k < n → OkRu (f k)) (hap : Apart f n) (hc : 0 ≤ c0 ∧ 0 ≤ m ∧ c0 + m ≤ 65536) :
    Calls Try.prog 103 #[.slice a n cap, .int .i64 un, .int .i64 sp, .int .i64 c0, .int .i64 m] w fun e w' => RunsPost w w' e f n un sp (c0 + m) c0 := by
  obtain ⟨E, hE⟩ : ∃ E, E = c0 + m := ⟨_, rfl⟩
  have wE : IntKind.i64.wrap (c0 + m) = E := by rw [IntKind.wrap_i64]; omega
  have HF : Hid ((∀ k, k < n → OkRu (f k)) ∧ Apart f n) := ⟨hok, hap⟩
  have HE : Hid (E = c0 + m ∧ 0 ≤ c0 ∧ c0 ≤ E ∧ E ≤ 65536) := (⟨hE, by omega, by omega, by omega⟩ : E = c0 + m ∧ 0 ≤ c0 ∧ c0 ≤ E ∧ E ≤ 65536)
  rw [← hE]
  clear hok hap hE hc
  go_enter Try.func103, Try.ntmps103
  go_wp2_with fail
  refine (sortedBy_any a n cap f _ hs hn).mono ?_
  rintro e w1 ⟨rfl, h, R1, P1, S1, B1⟩
  have HP : Hid (PermIn 0 n f h ∧ SortedOn h 0 n) := ⟨P1, S1⟩
  have HOH : Hid (∀ k, k < n → OkRu (h k)) := fun k hk => by
    obtain ⟨j, _, hj, ej⟩ := P1.from' (k := k) (Nat.zero_le _) hk
    rw [ej]; exact HF.out.1 j hj
  clear hs P1 S1
  go_wp2
  go_loopw [3, 12, 23] (fun cv v i wr => ∃ (z : Nat) (c : Int) (l : List Rn) (va : Option Addr) (vn vc : Nat), z ≤ n ∧ i = .int .i64 z ∧ cv = .int .i64 c ∧ v = .slice va vn vc ∧ 0 ≤ c ∧ RunI f h n un sp E c0 z c l ∧ OwnR wr w.heap.size (.slice va vn vc) l ∧ RowU wr w.heap.size n h ∧ Below w.heap.size w wr) (fun cv v i _ => n - (intOf i).toNat)
  case atStart => exact ⟨0, c0, [], none, 0, 0, Nat.zero_le _, rfl, rfl, rfl, HE.out.2.1, RunI.start HE.out.2.2.1, ownR_nil _ _, R1, B1⟩
  case round =>
    clear R1 B1
    obtain ⟨z, c, l, va, vn, vc, hz, rfl, rfl, rfl, hc0, hI, hO, hrow, hbl⟩ := hrel
    have HI : Hid (RunI f h n un sp E c0 z c l) := hI
    clear hI
    by_cases hlt : z < n
    · have hi : (z : Int) < (n : Int) := by omega
      obtain ⟨x0, x1, x2, x3, x4, x5, x6⟩ := RowU.seven hrow hlt
      obtain ⟨gB, hgB⟩ : ∃ gB, gB = wr.heap.size := ⟨_, rfl⟩
      obtain ⟨W, hW⟩ : ∃ W, W = wr.alloc (.cells (ruc (h z)) 30) := ⟨_, rfl⟩
      have bW : Below wr.heap.size wr W := by rw [hW]; exact (Below.refl _ _).alloc (Nat.le_refl _) _
      have HW : Hid (OwnR W w.heap.size (.slice va vn vc) l ∧ RowU W w.heap.size n h ∧ Below w.heap.size w W ∧ gB < W.heap.size ∧ Blk W gB 30 (ruc (h z))) := ⟨hO.below bW, hrow.below bW, bel_next hbl bW, by rw [hW, hgB]; simp, by rw [hW, hgB]; exact Blk.new wr (ruc (h z)) 30⟩
      clear hrow hbl hO bW
      by_cases hcE : c < E
      · cases hh : hasR (h z) un sp c
        · have HH : Hid (RunI f h n un sp E c0 (z + 1) c l) := HI.out.miss HP.out.2 hlt (fun _ => hh)
          clear HI
          go_upto_region 6 with fail
          rw [← hW, ← hgB]
          clear hW hgB x0 x1 x2 x3 x4 x5 x6
          have y0 := HW.out.2.2.2.2.cell 0 rfl
          have y1 := HW.out.2.2.2.2.cell 1 rfl
          have y2 := HW.out.2.2.2.2.cell 2 rfl
          have y3 := HW.out.2.2.2.2.cell 3 rfl
          have y4 := HW.out.2.2.2.2.cell 4 rfl
          have y5 := HW.out.2.2.2.2.cell 5 rfl
          have y6 := HW.out.2.2.2.2.cell 6 rfl
          go_wp2_with fail
          refine (has_any (h z) un sp c _).mono ?_
          rintro e w2 ⟨he, b2⟩
          rw [hh] at he
          subst he
          have HX : Hid (OwnR w2 w.heap.size (.slice va vn vc) l ∧ RowU w2 w.heap.size n h ∧ Below w.heap.size w w2) := ⟨HW.out.1.below b2, HW.out.2.1.below b2, bel_next HW.out.2.2.1 b2⟩
          clear HW b2 y0 y1 y2 y3 y4 y5 y6
          go_wp2
          go_roundw
          case rel => exact ⟨z + 1, c, l, va, vn, vc, by omega, by go_num, rfl, rfl, hc0, HH.out, HX.out.1, HX.out.2.1, HX.out.2.2⟩
          case measure => simp [intOf]; omega
        · have HH : Hid (RunI f h n un sp E c0 (z + 1) (min ((h z).hi + 1) E) (l ++ [⟨h z, c, min ((h z).hi + 1) E - c⟩])) := HI.out.hit HF.out.2 (fun k hk => (HF.out.1 k hk).2.2.1.2.1) HP.out.1 hlt hcE hh
          have hb1 := hasR_true.1 hh
          have ho := HOH.out z hlt
          have hE := HE.out
          have HLN : Hid (l.length ≤ 1000000) := by have := HI.out.len; show l.length ≤ 1000000; omega
          obtain ⟨nx, hnx⟩ : ∃ nx, min ((h z).hi + 1) E = nx := ⟨_, rfl⟩
          have HNX : Hid (min ((h z).hi + 1) E = nx ∧ c < nx ∧ nx ≤ 65536) := ⟨hnx, by unfold OkRu at ho; omega, by omega⟩
          have wh : IntKind.i64.wrap ((h z).hi + 1) = (h z).hi + 1 := by unfold OkRu at ho; rw [IntKind.wrap_i64]; omega
          have wn : IntKind.i64.wrap (nx - c) = nx - c := by have := HNX.out; rw [IntKind.wrap_i64]; omega
          clear HI hb1 ho hE
          go_upto_region 6 with fail
          rw [← hW, ← hgB]
          clear hW hgB x0 x1 x2 x3 x4 x5 x6
          have y0 := HW.out.2.2.2.2.cell 0 rfl
          have y1 := HW.out.2.2.2.2.cell 1 rfl
          have y2 := HW.out.2.2.2.2.cell 2 rfl
          have y3 := HW.out.2.2.2.2.cell 3 rfl
          have y4 := HW.out.2.2.2.2.cell 4 rfl
          have y5 := HW.out.2.2.2.2.cell 5 rfl
          have y6 := HW.out.2.2.2.2.cell 6 rfl
          go_wp2_with fail
          refine (has_any (h z) un sp c _).mono ?_
          rintro e w2 ⟨he, b2⟩
          rw [hh] at he
          subst he
          have HX : Hid (OwnR w2 w.heap.size (.slice va vn vc) l ∧ RowU w2 w.heap.size n h ∧ Below w.heap.size w w2 ∧ Blk w2 gB 30 (ruc (h z))) := ⟨HW.out.1.below b2, HW.out.2.1.below b2, bel_next HW.out.2.2.1 b2, HW.out.2.2.2.2.below b2⟩
          clear HW b2 y0 y1 y2 y3 y4 y5 y6
          have y0 := HX.out.2.2.2.cell 0 rfl
          have y1 := HX.out.2.2.2.cell 1 rfl
          have y2 := HX.out.2.2.2.cell 2 rfl
          have y3 := HX.out.2.2.2.cell 3 rfl
          have y4 := HX.out.2.2.2.cell 4 rfl
          have y5 := HX.out.2.2.2.cell 5 rfl
          have y6 := HX.out.2.2.2.cell 6 rfl
          go_upto_region 8 with fail
          obtain ⟨W2, hW2⟩ : ∃ W2, W2 = w2.alloc (.cells (rnl ⟨h z, c, nx - c⟩).toArray 127) := ⟨_, rfl⟩
          have bW2 : Below w2.heap.size w2 W2 := by rw [hW2]; exact (Below.refl _ _).alloc (Nat.le_refl _) _
          have HX2 : Hid (OwnR W2 w.heap.size (.slice va vn vc) l ∧ RowU W2 w.heap.size n h ∧ Below w.heap.size w W2 ∧ w.heap.size ≤ W2.heap.size ∧ Blk W2 w2.heap.size 127 (rnl ⟨h z, c, nx - c⟩).toArray) := ⟨HX.out.1.below bW2, HX.out.2.1.below bW2, bel_next HX.out.2.2.1 bW2, (bel_next HX.out.2.2.1 bW2).size, by rw [hW2]; exact Blk.new w2 _ 127⟩
          have HC2 : Hid (∀ j u, (rnl ⟨h z, c, nx - c⟩)[j]? = some u → W2.cell? ((⟨w2.heap.size, 0, none⟩ : Addr).add j) = some u) := by
            intro j u hu
            have e1 : (⟨w2.heap.size, 0, none⟩ : Addr).add j = ⟨w2.heap.size, j, none⟩ := by unfold Addr.add; split <;> simp_all
            rw [e1]
            exact HX2.out.2.2.2.2.cell j (by rw [List.getElem?_toArray]; exact hu)
          rw [hW2] at HX2 HC2
          clear hW2 bW2 HX
          go_wp2_with (at_builtin; refine wpList_appR rfl (.tmp 42) (.tmp 49) rfl w.heap.size (.slice va vn vc) l rfl HX2.out.1 w2.heap.size 1 ⟨h z, c, nx - c⟩ rfl HC2.out HLN.out HX2.out.2.2.2.1 ?_; intro v' w4 O4 gg)
          have hne : (Value.slice va vn vc).ownBlock ≠ some w.heap.size := OwnR.noRow HX2.out.1 HX2.out.2.1 (by decide)
          have R4 : RowU w4 w.heap.size n h := RowS.kept HX2.out.2.1 gg hne
          have B4 : Below w.heap.size w w4 := HX2.out.2.2.1.grown gg HX2.out.2.2.2.1 (fun k hk => (World.ownsRow.lt HX2.out.1 k hk).1)
          obtain ⟨va', vc', rfl⟩ := O4.shape
          have HN := HNX.out
          go_roundw
          case rel => exact ⟨z + 1, nx, _, _, _, _, by omega, by go_num, rfl, rfl, by omega, (by have h9 := HH.out; rw [HN.1] at h9; exact h9), O4, R4, B4⟩
          case measure => simp [intOf]; omega
      · have HH : Hid (RunI f h n un sp E c0 (z + 1) c l) := HI.out.miss HP.out.2 hlt (fun e => absurd e hcE)
        clear HI
        go_upto_region 6 with fail
        rw [← hW, ← hgB]
        clear hW hgB x0 x1 x2 x3 x4 x5 x6
        go_wp2
        go_roundw
        case rel => exact ⟨z + 1, c, l, va, vn, vc, by omega, by go_num, rfl, rfl, hc0, HH.out, HW.out.1, HW.out.2.1, HW.out.2.2.1⟩
        case measure => simp [intOf]; omega
    · have hi : ¬ (z : Int) < (n : Int) := by omega
      obtain ⟨b, hb⟩ : ∃ b : Bool, (c == E) = b := ⟨_, rfl⟩
      have hfin := (show RunI f h n un sp E c0 n c l from by have h9 := HI.out; rw [show z = n by omega] at h9; exact h9).fin HP.out.1
      have HX : Hid (OwnR wr w.heap.size (.slice va vn vc) l ∧ l.length ≤ n ∧ RunsR f n un sp E c0 b l ∧ (∀ x ∈ l, OkRu x.r ∧ hasR x.r un sp x.at' = true) ∧ Below w.heap.size w wr) := ⟨hO, by have := HI.out.len; omega, ⟨fun e => hfin.1 (by rw [e] at hb; simpa using hb), fun e => hfin.2 (by rw [e] at hb; simpa using hb)⟩, fun x hx => (by obtain ⟨⟨j, hj, ej⟩, hh⟩ := HI.out.el x hx; exact ⟨by rw [ej]; exact HOH.out j hj, hh⟩), hbl⟩
      clear hfin hO hrow hbl HI
      go_wp2
      refine bodyPost_ret (v := .tuple #[.slice va vn vc, .bool b]) (by simp [results, Try.results103, go_sem]) rfl ⟨_, l, b, rfl, HX.out⟩

end Go.Proofs.Ytgnmnbimmfknpaa

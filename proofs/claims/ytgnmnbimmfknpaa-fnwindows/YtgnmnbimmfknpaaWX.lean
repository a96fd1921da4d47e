/- Texts that the proof needs, joined. -/
import Derived.Test.YtgnmnbimmfknpaaPtP
import Derived.Test.YtgnmnbimmfknpaaPt2
import Derived.Test.YtgnmnbimmfknpaaQ6
import Derived.Test.YtgnmnbimmfknpaaSr8
import Derived.Test.YtgnmnbimmfknpaaSrR
import Derived.Test.YtgnmnbimmfknpaaRu2
import Derived.Test.YtgnmnbimmfknpaaRgX
namespace Go.Proofs.Ytgnmnbimmfknpaa

/-- How many of the first k rules have the place. -/
def cntR (f : Nat → Ru) (un sp p : Int) : Nat → Nat
  | 0 => 0
  | k + 1 => cntR f un sp p k + (if hasR (f k) un sp p = true then 1 else 0)

theorem cntR_none {f : Nat → Ru} {un sp p : Int} : ∀ {k : Nat}, (∀ j, j < k → hasR (f j) un sp p = false) → cntR f un sp p k = 0
  | 0, _ => rfl
  | k + 1, h => by
    have e := h k (by omega)
    show cntR f un sp p k + _ = 0
    rw [cntR_none (fun j hj => h j (by omega)), if_neg (by rw [e]; decide)]

theorem cntR_le (f : Nat → Ru) (un sp p : Int) : ∀ k : Nat, cntR f un sp p k ≤ k
  | 0 => Nat.le_refl _
  | k + 1 => by
    have := cntR_le f un sp p k
    show cntR f un sp p k + _ ≤ k + 1
    split <;> omega

theorem cntR_one {f : Nat → Ru} {un sp p : Int} {x : Nat} (hx : hasR (f x) un sp p = true) : ∀ {k : Nat}, x < k → (∀ j, j < k → j ≠ x → hasR (f j) un sp p = false) → cntR f un sp p k = 1
  | 0, h, _ => by omega
  | k + 1, h, ho => by
    show cntR f un sp p k + _ = 1
    by_cases e : x = k
    · subst e
      rw [cntR_none (fun j hj => ho j (by omega) (by omega)), if_pos hx]
    · have e' := ho k (by omega) (by omega)
      rw [cntR_one hx (by omega) (fun j hj hn => ho j (by omega) hn), if_neg (by rw [e']; decide)]

/-- No rule has the place, or one alone: then it is the one that is found, and the run is the place. -/
theorem win_cases {f : Nat → Ru} {n : Nat} (h : OkRs f n) (un sp p : Int) :
    (atR f n un sp p = -1 ∧ cntR f un sp p n = 0 ∧ runs f n un sp (p + 1) p = none) ∨
    (∃ x, x < n ∧ atR f n un sp p = (x : Int) ∧ cntR f un sp p n = 1 ∧ runs f n un sp (p + 1) p = some [⟨f x, p, 1⟩] ∧ (f x).u = un) := by
  obtain ⟨h24, hok, hap⟩ := h
  rcases atFrom_cases f un sp p n 0 with ⟨x, _, h2, h3, h4, h5⟩ | ⟨h1, h2⟩
  · refine .inr ⟨x, h2, h3, ?_, ?_, ?_⟩
    · refine cntR_one h4 h2 fun j hj hne => ?_
      rcases Nat.lt_or_gt_of_ne hne with hl | hl
      · exact h5 j (Nat.zero_le _) hl
      · cases hh : hasR (f j) un sp p with
        | false => rfl
        | true =>
          exfalso
          refine hap j hj x hl ?_
          rw [hasR_true] at h4 hh
          unfold ovl
          omega
    · have hr := rAt_some hap (fun k hk => (hok k hk).2.2.1.2.1) h2 h4
      rw [runs_step (by omega) hr]
      rw [hasR_true] at h4
      have e : min ((f x).hi + 1) (p + 1) = p + 1 := by omega
      rw [e, runs_end (by omega)]
      have e1 : p + 1 - p = 1 := by omega
      simp [e1]
    · rw [hasR_true] at h4
      exact h4.1
  · exact .inl ⟨h1, cntR_none fun j hj => h2 j (Nat.zero_le _) hj, runs_none (by omega) fun j hj => h2 j (Nat.zero_le _) hj⟩

end Go.Proofs.Ytgnmnbimmfknpaa

namespace Go.Proofs.Ytgnmnbimmfknpaa
open Go.RowKit

set_option linter.unusedVariables false

set_option linter.unusedSimpArgs false

abbrev rnc (x : Rn) : Array Value := #[.int .i64 x.r.u, .int .i64 x.r.s, .int .i64 x.r.lo, .int .i64 x.r.hi, .int .i64 x.r.p, .int .i64 x.r.t, .int .i64 x.r.sh, .int .i64 x.at', .int .i64 x.n]
abbrev rqc (kd pl nn wa : Int) (q1 q2 : Option Addr) (m1 m2 k1 k2 : Nat) : Array Value := #[.int .i64 kd, .int .i64 pl, .int .i64 nn, .slice q1 m1 k1, .slice q2 m2 k2, .int .i64 wa]

set_option maxRecDepth 20000 in
set_option maxHeartbeats 1000000 in
theorem part_1 (x : Rn) (pl nn wa : Int) (q1 q2 : Option Addr) (m1 m2 k1 k2 : Nat) (w : World) (h1 : 0 ≤ x.at' ∧ x.at' ≤ 65535) (h2 : -65535 ≤ x.r.sh ∧ x.r.sh ≤ 65535) (h3 : 0 ≤ pl ∧ pl ≤ 65535) :
    Calls Try.prog 104 #[.agg (rnc x), .agg (rqc 1 pl nn wa q1 q2 m1 m2 k1 k2)] w fun e w' => e = .returned (.agg #[.int .i64 x.r.p, .int .i64 x.r.t, .int .i64 1, .int .i64 (x.at' + x.r.sh), .int .i64 x.n, .slice none 0 0, .slice none 0 0, .int .i64 0]) ∧ Below w.heap.size w w' := by
  have w1 : IntKind.i64.wrap (x.at' + x.r.sh) = x.at' + x.r.sh := by rw [IntKind.wrap_i64]; omega
  have w2 : IntKind.i64.wrap (x.at' - pl) = x.at' - pl := by rw [IntKind.wrap_i64]; omega
  go_enter Try.func104, Try.ntmps104
  go_wp2
  refine bodyPost_ret (v := .agg #[.int .i64 x.r.p, .int .i64 x.r.t, .int .i64 1, .int .i64 (x.at' + x.r.sh), .int .i64 x.n, .slice none 0 0, .slice none 0 0, .int .i64 0]) (by simp [results, Try.results104, go_sem]) rfl ⟨rfl, ?_⟩
  exact ((((Below.refl _ w).alloc (Nat.le_refl _) _).alloc (by simp) _).alloc (by simp; omega) _).alloc (by simp; omega) _

set_option maxRecDepth 20000 in
set_option maxHeartbeats 1000000 in
theorem part_2 (x : Rn) (pl nn wa : Int) (q1 q2 : Option Addr) (m1 m2 k1 k2 : Nat) (w : World) (h1 : 0 ≤ x.at' ∧ x.at' ≤ 65535) (h2 : -65535 ≤ x.r.sh ∧ x.r.sh ≤ 65535) (h3 : 0 ≤ pl ∧ pl ≤ 65535) :
    Calls Try.prog 104 #[.agg (rnc x), .agg (rqc 2 pl nn wa q1 q2 m1 m2 k1 k2)] w fun e w' => e = .returned (.agg #[.int .i64 x.r.p, .int .i64 x.r.t, .int .i64 2, .int .i64 (x.at' + x.r.sh), .int .i64 x.n, .slice none 0 0, .slice none 0 0, .int .i64 0]) ∧ Below w.heap.size w w' := by
  have w1 : IntKind.i64.wrap (x.at' + x.r.sh) = x.at' + x.r.sh := by rw [IntKind.wrap_i64]; omega
  have w2 : IntKind.i64.wrap (x.at' - pl) = x.at' - pl := by rw [IntKind.wrap_i64]; omega
  go_enter Try.func104, Try.ntmps104
  go_wp2
  refine bodyPost_ret (v := .agg #[.int .i64 x.r.p, .int .i64 x.r.t, .int .i64 2, .int .i64 (x.at' + x.r.sh), .int .i64 x.n, .slice none 0 0, .slice none 0 0, .int .i64 0]) (by simp [results, Try.results104, go_sem]) rfl ⟨rfl, ?_⟩
  exact ((((Below.refl _ w).alloc (Nat.le_refl _) _).alloc (by simp) _).alloc (by simp; omega) _).alloc (by simp; omega) _

set_option maxRecDepth 20000 in
set_option maxHeartbeats 1000000 in
theorem part_3 (x : Rn) (pl nn wa : Int) (q1 q2 : Option Addr) (m1 m2 k1 k2 : Nat) (w : World) (h1 : 0 ≤ x.at' ∧ x.at' ≤ 65535) (h2 : -65535 ≤ x.r.sh ∧ x.r.sh ≤ 65535) (h3 : 0 ≤ pl ∧ pl ≤ 65535) :
    Calls Try.prog 104 #[.agg (rnc x), .agg (rqc 3 pl nn wa q1 q2 m1 m2 k1 k2)] w fun e w' => e = .returned (.agg #[.int .i64 x.r.p, .int .i64 x.r.t, .int .i64 3, .int .i64 (x.at' + x.r.sh), .int .i64 x.n, .slice none 0 0, .slice none 0 0, .int .i64 0]) ∧ Below w.heap.size w w' := by
  have w1 : IntKind.i64.wrap (x.at' + x.r.sh) = x.at' + x.r.sh := by rw [IntKind.wrap_i64]; omega
  have w2 : IntKind.i64.wrap (x.at' - pl) = x.at' - pl := by rw [IntKind.wrap_i64]; omega
  go_enter Try.func104, Try.ntmps104
  go_wp2
  refine bodyPost_ret (v := .agg #[.int .i64 x.r.p, .int .i64 x.r.t, .int .i64 3, .int .i64 (x.at' + x.r.sh), .int .i64 x.n, .slice none 0 0, .slice none 0 0, .int .i64 0]) (by simp [results, Try.results104, go_sem]) rfl ⟨rfl, ?_⟩
  exact ((((Below.refl _ w).alloc (Nat.le_refl _) _).alloc (by simp) _).alloc (by simp; omega) _).alloc (by simp; omega) _

set_option maxRecDepth 20000 in
set_option maxHeartbeats 1000000 in
theorem part_4 (x : Rn) (pl nn wa : Int) (q1 q2 : Option Addr) (m1 m2 k1 k2 : Nat) (w : World) (h1 : 0 ≤ x.at' ∧ x.at' ≤ 65535) (h2 : -65535 ≤ x.r.sh ∧ x.r.sh ≤ 65535) (h3 : 0 ≤ pl ∧ pl ≤ 65535) :
    Calls Try.prog 104 #[.agg (rnc x), .agg (rqc 4 pl nn wa q1 q2 m1 m2 k1 k2)] w fun e w' => e = .returned (.agg #[.int .i64 x.r.p, .int .i64 x.r.t, .int .i64 4, .int .i64 (x.at' + x.r.sh), .int .i64 x.n, .slice none 0 0, .slice none 0 0, .int .i64 0]) ∧ Below w.heap.size w w' := by
  have w1 : IntKind.i64.wrap (x.at' + x.r.sh) = x.at' + x.r.sh := by rw [IntKind.wrap_i64]; omega
  have w2 : IntKind.i64.wrap (x.at' - pl) = x.at' - pl := by rw [IntKind.wrap_i64]; omega
  go_enter Try.func104, Try.ntmps104
  go_wp2
  refine bodyPost_ret (v := .agg #[.int .i64 x.r.p, .int .i64 x.r.t, .int .i64 4, .int .i64 (x.at' + x.r.sh), .int .i64 x.n, .slice none 0 0, .slice none 0 0, .int .i64 0]) (by simp [results, Try.results104, go_sem]) rfl ⟨rfl, ?_⟩
  exact ((((Below.refl _ w).alloc (Nat.le_refl _) _).alloc (by simp) _).alloc (by simp; omega) _).alloc (by simp; omega) _

/-- Of what reads. -/
theorem part_read (kd : Int) (hk : kd = 1 ∨ kd = 2 ∨ kd = 3 ∨ kd = 4) (x : Rn) (pl nn wa : Int) (q1 q2 : Option Addr) (m1 m2 k1 k2 : Nat) (w : World) (h1 : 0 ≤ x.at' ∧ x.at' ≤ 65535) (h2 : -65535 ≤ x.r.sh ∧ x.r.sh ≤ 65535) (h3 : 0 ≤ pl ∧ pl ≤ 65535) :
    Calls Try.prog 104 #[.agg (rnc x), .agg (rqc kd pl nn wa q1 q2 m1 m2 k1 k2)] w fun e w' => e = .returned (.agg #[.int .i64 x.r.p, .int .i64 x.r.t, .int .i64 kd, .int .i64 (x.at' + x.r.sh), .int .i64 x.n, .slice none 0 0, .slice none 0 0, .int .i64 0]) ∧ Below w.heap.size w w' := by
  obtain rfl | rfl | rfl | rfl := hk
  · exact part_1 x pl nn wa q1 q2 m1 m2 k1 k2 w h1 h2 h3
  · exact part_2 x pl nn wa q1 q2 m1 m2 k1 k2 w h1 h2 h3
  · exact part_3 x pl nn wa q1 q2 m1 m2 k1 k2 w h1 h2 h3
  · exact part_4 x pl nn wa q1 q2 m1 m2 k1 k2 w h1 h2 h3

end Go.Proofs.Ytgnmnbimmfknpaa

namespace Go.Proofs.Ytgnmnbimmfknpaa
open Go.RowKit

set_option linter.unusedVariables false

set_option linter.unusedSimpArgs false

instance : Inhabited Rn := ⟨⟨⟨0, 0, 0, 0, 0, 0, 0⟩, 0, 0⟩⟩

theorem flatMap_at : ∀ (l : List Rn) (k j : Nat), k < l.length → j < 9 → (l.flatMap rnl)[k * 9 + j]? = (rnl (l.getD k default))[j]?
  | [], k, j, hk, _ => by simp at hk
  | x :: r, 0, j, hk, hj => by
    rw [List.flatMap_cons, List.getElem?_append_left (by simp; omega)]
    simp
  | x :: r, k + 1, j, hk, hj => by
    rw [List.flatMap_cons, List.getElem?_append_right (by simp; omega)]
    have e : (k + 1) * 9 + j - (rnl x).length = k * 9 + j := by simp; omega
    rw [e, flatMap_at r k j (by simpa using hk) hj]
    simp

theorem OwnR.sl {w : World} {base n cap : Nat} {a : Option Addr} {l : List Rn} (h : OwnR w base (.slice a n cap) l) : n = l.length ∧ SlS w a 9 l.length (fun k => rnl (l.getD k default)) := by
  rcases h.2 with ⟨e, h0⟩ | ⟨g, cap', cur, hv, _, hh, hle, _, hs, ht⟩
  · simp only [Value.slice.injEq] at e
    exact ⟨by rw [h0]; exact e.2.1, .inl h0⟩
  · simp only [Value.slice.injEq] at hv
    refine ⟨hv.2.1, .inr ⟨g, 0, hv.1, (Array.getElem?_eq_some_iff.1 hh).1, fun k hk j hj => ?_⟩⟩
    have hlt : k * 9 + j < l.length * 9 := by omega
    have e1 : (l.flatMap rnl)[k * 9 + j]? = cur[k * 9 + j]? := by
      rw [← ht, List.getElem?_take, if_pos hlt, Array.getElem?_toList]
    have e2 : w.cell? ⟨g, 0 + k * 9 + j, none⟩ = cur[k * 9 + j]? := by simp [World.cell?, hh]
    rw [e2, ← e1]
    exact flatMap_at l k j hk hj

theorem SlS.nine {w : World} {a : Option Addr} {n : Nat} {G : Nat → Rn} (h : SlS w a 9 n (fun k => rnl (G k))) {k : Nat} (hk : k < n) : ∃ b off, a = some ⟨b, off, none⟩ ∧ b < w.heap.size ∧
    w.cell? ⟨b, off + k * 9, none⟩ = some (.int .i64 (G k).r.u) ∧ w.cell? ⟨b, off + k * 9 + 1, none⟩ = some (.int .i64 (G k).r.s) ∧ w.cell? ⟨b, off + k * 9 + 2, none⟩ = some (.int .i64 (G k).r.lo) ∧ w.cell? ⟨b, off + k * 9 + 3, none⟩ = some (.int .i64 (G k).r.hi) ∧ w.cell? ⟨b, off + k * 9 + 4, none⟩ = some (.int .i64 (G k).r.p) ∧ w.cell? ⟨b, off + k * 9 + 5, none⟩ = some (.int .i64 (G k).r.t) ∧ w.cell? ⟨b, off + k * 9 + 6, none⟩ = some (.int .i64 (G k).r.sh) ∧ w.cell? ⟨b, off + k * 9 + 7, none⟩ = some (.int .i64 (G k).at') ∧ w.cell? ⟨b, off + k * 9 + 8, none⟩ = some (.int .i64 (G k).n) := by
  obtain ⟨b, off, ha, hb, hc⟩ := SlS.at h hk
  exact ⟨b, off, ha, hb, hc 0 (by decide), hc 1 (by decide), hc 2 (by decide), hc 3 (by decide), hc 4 (by decide), hc 5 (by decide), hc 6 (by decide), hc 7 (by decide), hc 8 (by decide)⟩

theorem setL_grown {g : Nat} : ∀ (vs : List Value) (w : World) (o : Nat), w.grownBy (setL w g o vs) (some g)
  | [], w, o => World.grownBy.refl w _
  | v :: vs, w, o => by
    have h1 := grown_setb w g o v
    have h2 := setL_grown (g := g) vs (w.setCell ⟨g, o, none⟩ v) (o + 1)
    exact ⟨h2.os.trans h1.os, h2.tape.trans h1.tape, h2.output.trans h1.output, Nat.le_trans h1.size h2.size, fun k hk hne => by rw [show setL w g o (v :: vs) = setL (w.setCell ⟨g, o, none⟩ v) g (o + 1) vs from rfl, h2.block k (Nat.lt_of_lt_of_le hk h1.size) hne, h1.block k hk hne]⟩

/-- The eight cells of a part that reads. -/
abbrev prl (kd : Int) (x : Rn) : List Value := [.int .i64 x.r.p, .int .i64 x.r.t, .int .i64 kd, .int .i64 (x.at' + x.r.sh), .int .i64 x.n, .slice none 0 0, .slice none 0 0, .int .i64 0]

/-- The parts of a question that reads, in a row of the call's own. -/
def PartsPost (w w' : World) (e : Ending) (f : Nat → Ru) (n : Nat) (un sp E c0 kd : Int) : Prop :=
  ∃ g l b, e = .returned (.tuple #[.slice (some ⟨g, 0, none⟩) l.length l.length, .bool b]) ∧ w.heap.size ≤ g ∧ RowS w' g 39 8 l.length (fun k => prl kd (l.getD k default)) ∧ l.length ≤ n ∧ RunsR f n un sp E c0 b l ∧ Below w.heap.size w w'

abbrev zpl : List Value := [.int .i64 0, .int .i64 0, .int .i64 0, .int .i64 0, .int .i64 0, .slice none 0 0, .slice none 0 0, .int .i64 0]

theorem Try.infoP39 : (Try.prog.info? 39).map (fun i => (i.zero, i.size, i.bytes)) = some (some (.agg zpl.toArray), 8, 96) := by kernel_rfl

set_option maxRecDepth 20000 in
set_option maxHeartbeats 2000000 in
theorem partsOf_read (kd : Int) (hk : kd = 1 ∨ kd = 2 ∨ kd = 3 ∨ kd = 4) (a : Option Addr) (n cap : Nat) (f : Nat → Ru) (un sp pl nn wa : Int) (q1 q2 : Option Addr) (m1 m2 k1 k2 : Nat) (ws : List Int) (bs : List Bool) (w : World) (hs : SlU w a n f) (hn : n ≤ 24) (hok : ∀ k, k < n → OkRu (f k)) (hap : Apart f n)
    (h1 : m1 = ws.length) (h2 : m2 = bs.length) (s1 : SlI w q1 ws) (s2 : SlB w q2 bs) (hl1 : ws.length ≤ 2000000) (hl2 : bs.length ≤ 2000000) (hv : spcV (okR kd pl nn wa ws m1 m2) kd pl nn m1 m2 = .tuple #[.int .i64 sp, .int .i64 pl, .int .i64 nn]) (hc : 0 ≤ pl ∧ 0 ≤ nn ∧ pl + nn ≤ 65536) (hc' : pl ≤ 65535) :
    Calls Try.prog 55 #[.slice a n cap, .int .i64 un, .agg (rqc kd pl nn wa q1 q2 m1 m2 k1 k2)] w fun e w' => PartsPost w w' e f n un sp (pl + nn) pl kd := by
  have hk23 : (kd == 23) = false := by obtain rfl | rfl | rfl | rfl := hk <;> rfl
  have hk23' : ¬ kd = 23 := by omega
  obtain ⟨W, hW⟩ : ∃ W, W = w.alloc (.cells (rqc kd pl nn wa q1 q2 m1 m2 k1 k2) 37) := ⟨_, rfl⟩
  have bW : Below w.heap.size w W := by rw [hW]; exact (Below.refl _ _).alloc (Nat.le_refl _) _
  have HF : Hid ((∀ k, k < n → OkRu (f k)) ∧ Apart f n) := ⟨hok, hap⟩
  have HW : Hid (SlU W a n f ∧ SlI W q1 ws ∧ SlB W q2 bs ∧ Below w.heap.size w W ∧ Blk W w.heap.size 37 (rqc kd pl nn wa q1 q2 m1 m2 k1 k2)) := ⟨SlS.below hs bW, s1.below bW, s2.below bW, bW, by rw [hW]; exact Blk.new w _ 37⟩
  have HQ : Hid (m1 = ws.length ∧ m2 = bs.length) := ⟨h1, h2⟩
  have HV : Hid (spcV (okR kd pl nn wa ws m1 m2) kd pl nn m1 m2 = .tuple #[.int .i64 sp, .int .i64 pl, .int .i64 nn]) := hv
  clear hs s1 s2 bW h1 h2 hv hok hap
  go_enter Try.func55, Try.ntmps55
  go_upto_region 3 with fail
  rw [← hW]
  clear hW
  obtain ⟨y0, y1, y2, y3, y4, y5⟩ := HW.out.2.2.2.2.six
  go_wp2_with fail
  refine (implSpaces_t kd pl nn wa q1 q2 m1 m2 k1 k2 ws bs _ HQ.out.1 HQ.out.2 HW.out.2.1 HW.out.2.2.1 hl1 hl2 sp pl nn HV.out).mono ?_
  rintro e w1 ⟨rfl, b1⟩
  have HX : Hid (SlU w1 a n f ∧ Below w.heap.size w w1 ∧ Blk w1 w.heap.size 37 (rqc kd pl nn wa q1 q2 m1 m2 k1 k2)) := ⟨SlS.below HW.out.1 b1, bel_next HW.out.2.2.2.1 b1, HW.out.2.2.2.2.below b1⟩
  clear HW b1 y0 y1 y2 y3 y4 y5 HV
  go_wp2_with fail
  refine (runsOf_any a n cap f un sp pl nn _ HX.out.1 hn HF.out.1 HF.out.2 hc).mono ?_
  rintro e w2 ⟨v, l, b, rfl, O2, hln, hR, hel, b2⟩
  obtain ⟨va, vc, rfl⟩ := O2.shape
  obtain ⟨N, hN⟩ : ∃ N, N = l.length := ⟨_, rfl⟩
  rw [← hN] at O2 ⊢
  have HN : Hid (N = l.length ∧ N ≤ 24) := ⟨hN, by omega⟩
  have HL : Hid (l.length ≤ n ∧ RunsR f n un sp (pl + nn) pl b l ∧ ∀ k, k < N → OkRu (l.getD k default).r ∧ hasR (l.getD k default).r un sp (l.getD k default).at' = true) := ⟨hln, hR, fun k hk => hel _ (by rw [List.getD_eq_getElem?_getD, List.getElem?_eq_getElem (by omega)]; simp)⟩
  have hmk := run_make_st (P := Try.prog) 32 39 (.agg zpl.toArray) 8 96 Try.underlying32 Try.infoP39 .i64 .i64 N (by have := HN.out; omega) (by have := HN.out; omega)
  have bM := (Below.refl w2.heap.size w2).alloc (Nat.le_refl _) (.cells (madeCells (Value.agg zpl.toArray).cells (N * 8)) 39)
  have HM : Hid (RowS (w2.alloc (.cells (madeCells (Value.agg zpl.toArray).cells (N * 8)) 39)) w2.heap.size 39 8 N (fun _ => zpl) ∧ OwnR (w2.alloc (.cells (madeCells (Value.agg zpl.toArray).cells (N * 8)) 39)) w1.heap.size (.slice va N vc) l ∧ Blk (w2.alloc (.cells (madeCells (Value.agg zpl.toArray).cells (N * 8)) 39)) w.heap.size 37 (rqc kd pl nn wa q1 q2 m1 m2 k1 k2) ∧ Below w.heap.size w (w2.alloc (.cells (madeCells (Value.agg zpl.toArray).cells (N * 8)) 39)) ∧ w.heap.size ≤ w2.heap.size) := ⟨RowS.made w2 zpl N _ (by simp), O2.below bM, (HX.out.2.2.below b2).below bM, bel_next (bel_next HX.out.2.1 b2) bM, (bel_next HX.out.2.1 b2).size⟩
  have HGE : Hid (w.heap.size ≤ w2.heap.size) := HM.out.2.2.2.2
  clear O2 hN hln hR hel b2 bM HX
  go_wp2
  clear hmk
  go_loopw [45] (fun i wr => ∃ z : Nat, z ≤ N ∧ i = .int .i64 z ∧ RowS wr w2.heap.size 39 8 N (fun k => if k < z then prl kd (l.getD k default) else zpl) ∧ OwnR wr w1.heap.size (.slice va N vc) l ∧ Blk wr w.heap.size 37 (rqc kd pl nn wa q1 q2 m1 m2 k1 k2) ∧ Below w.heap.size w wr) (fun i _ => N - (intOf i).toNat)
  case atStart => exact ⟨0, Nat.zero_le _, rfl, HM.out.1.congr (fun k _ => by simp), HM.out.2.1, HM.out.2.2.1, HM.out.2.2.2.1⟩
  case round =>
    obtain ⟨z, hz, rfl, hrow, hO, hQ, hbl⟩ := hrel
    have hN24 : N ≤ 24 := HN.out.2
    by_cases hlt : z < N
    · have hi : (z : Int) < (N : Int) := by omega
      obtain ⟨x, hx⟩ : ∃ x, x = l.getD z default := ⟨_, rfl⟩
      have HXX : Hid (x = l.getD z default) := hx
      have hsl := (OwnR.sl hO)
      rw [← hsl.1] at hsl
      obtain ⟨bb, off, hva, hbb, c0, c1, c2, c3, c4, c5, c6, c7, c8⟩ := SlS.nine (G := fun k => l.getD k default) hsl.2 hlt
      simp only [← hx] at c0 c1 c2 c3 c4 c5 c6 c7 c8
      subst hva
      have hx2 := HL.out.2.2 z hlt
      rw [← hx] at hx2
      have HX2 : Hid (0 ≤ x.at' ∧ x.at' ≤ 65535 ∧ -65535 ≤ x.r.sh ∧ x.r.sh ≤ 65535) := by
        obtain ⟨o1, o2⟩ := hx2
        rw [hasR_true] at o2
        unfold OkRu at o1
        show _ ∧ _
        omega
      obtain ⟨W3, hW3⟩ : ∃ W3, W3 = wr.alloc (.cells (rnc x) 127) := ⟨_, rfl⟩
      obtain ⟨gB, hgB⟩ : ∃ gB, gB = wr.heap.size := ⟨_, rfl⟩
      have bW3 : Below wr.heap.size wr W3 := by rw [hW3]; exact (Below.refl _ _).alloc (Nat.le_refl _) _
      have HW3 : Hid (RowS W3 w2.heap.size 39 8 N (fun k => if k < z then prl kd (l.getD k default) else zpl) ∧ OwnR W3 w1.heap.size (.slice (some ⟨bb, off, none⟩) N vc) l ∧ Blk W3 w.heap.size 37 (rqc kd pl nn wa q1 q2 m1 m2 k1 k2) ∧ Below w.heap.size w W3 ∧ Blk W3 gB 127 (rnc x)) := ⟨hrow.below bW3, hO.below bW3, hQ.below bW3, bel_next hbl bW3, by rw [hW3, hgB]; exact Blk.new wr _ 127⟩
      clear hrow hO hQ hbl bW3 hsl hx2 hx
      go_upto_region 9 with fail
      rw [← hW3, ← hgB]
      clear hW3 hgB c0 c1 c2 c3 c4 c5 c6 c7 c8
      obtain ⟨y0, y1, y2, y3, y4, y5⟩ := HW3.out.2.2.1.six
      have e0 := HW3.out.2.2.2.2.cell 0 rfl
      have e1 := HW3.out.2.2.2.2.cell 1 rfl
      have e2 := HW3.out.2.2.2.2.cell 2 rfl
      have e3 := HW3.out.2.2.2.2.cell 3 rfl
      have e4 := HW3.out.2.2.2.2.cell 4 rfl
      have e5 := HW3.out.2.2.2.2.cell 5 rfl
      have e6 := HW3.out.2.2.2.2.cell 6 rfl
      have e7 := HW3.out.2.2.2.2.cell 7 rfl
      have e8 := HW3.out.2.2.2.2.cell 8 rfl
      go_wp2_with fail
      refine (part_read kd hk x pl nn wa q1 q2 m1 m2 k1 k2 _ ⟨HX2.out.1, HX2.out.2.1⟩ HX2.out.2.2 ⟨hc.1, hc'⟩).mono ?_
      rintro e w4 ⟨rfl, b4⟩
      have R2 := HW3.out.1.below b4
      have HX4 : Hid (OwnR w4 w1.heap.size (.slice (some ⟨bb, off, none⟩) N vc) l ∧ Blk w4 w.heap.size 37 (rqc kd pl nn wa q1 q2 m1 m2 k1 k2) ∧ Below w.heap.size w w4) := ⟨HW3.out.2.1.below b4, HW3.out.2.2.1.below b4, bel_next HW3.out.2.2.2.1 b4⟩
      clear y0 y1 y2 y3 y4 y5 e0 e1 e2 e3 e4 e5 e6 e7 e8 HW3 b4
      have HNE : Hid (w2.heap.size ≠ w.heap.size) := by
        intro e9
        obtain ⟨cs, h9, _⟩ := R2
        have h8 : w4.heap[w.heap.size]? = _ := HX4.out.2.1
        rw [e9, h8] at h9
        simp at h9
      have d0 : w4.cell? ⟨w2.heap.size, z * 8, none⟩ = some (.int .i64 0) := (by have h9 := R2.cell (k := z) (j := 0) hlt (by decide); simpa using h9)
      have g0 := RowS.fro R2 (z * 8)
      have d1 : w4.cell? ⟨w2.heap.size, z * 8 + 1, none⟩ = some (.int .i64 0) := (by have h9 := R2.cell (k := z) (j := 1) hlt (by decide); simpa using h9)
      have g1 := RowS.fro R2 (z * 8 + 1)
      have d2 : w4.cell? ⟨w2.heap.size, z * 8 + 2, none⟩ = some (.int .i64 0) := (by have h9 := R2.cell (k := z) (j := 2) hlt (by decide); simpa using h9)
      have g2 := RowS.fro R2 (z * 8 + 2)
      have d3 : w4.cell? ⟨w2.heap.size, z * 8 + 3, none⟩ = some (.int .i64 0) := (by have h9 := R2.cell (k := z) (j := 3) hlt (by decide); simpa using h9)
      have g3 := RowS.fro R2 (z * 8 + 3)
      have d4 : w4.cell? ⟨w2.heap.size, z * 8 + 4, none⟩ = some (.int .i64 0) := (by have h9 := R2.cell (k := z) (j := 4) hlt (by decide); simpa using h9)
      have g4 := RowS.fro R2 (z * 8 + 4)
      have d5 : w4.cell? ⟨w2.heap.size, z * 8 + 5, none⟩ = some (.slice none 0 0) := (by have h9 := R2.cell (k := z) (j := 5) hlt (by decide); simpa using h9)
      have g5 := RowS.fro R2 (z * 8 + 5)
      have d6 : w4.cell? ⟨w2.heap.size, z * 8 + 6, none⟩ = some (.slice none 0 0) := (by have h9 := R2.cell (k := z) (j := 6) hlt (by decide); simpa using h9)
      have g6 := RowS.fro R2 (z * 8 + 6)
      have d7 : w4.cell? ⟨w2.heap.size, z * 8 + 7, none⟩ = some (.int .i64 0) := (by have h9 := R2.cell (k := z) (j := 7) hlt (by decide); simpa using h9)
      have g7 := RowS.fro R2 (z * 8 + 7)
      have HR2 : Hid (RowS (setL w4 w2.heap.size (z * 8) (prl kd x)) w2.heap.size 39 8 N (fun k => if k < z + 1 then prl kd (l.getD k default) else zpl)) := by
        refine (RowS.set R2 hlt (prl kd x) rfl).congr (fun i _ => ?_)
        by_cases e : i = z
        · subst e; simp [HXX.out]
        · simp only [if_neg e]
          by_cases h : i < z
          · rw [if_pos h, if_pos (by omega)]
          · rw [if_neg h, if_neg (by omega)]
      have HB2 : Hid (OwnR (setL w4 w2.heap.size (z * 8) (prl kd x)) w1.heap.size (.slice (some ⟨bb, off, none⟩) N vc) l ∧ Blk (setL w4 w2.heap.size (z * 8) (prl kd x)) w.heap.size 37 (rqc kd pl nn wa q1 q2 m1 m2 k1 k2) ∧ Below w.heap.size w (setL w4 w2.heap.size (z * 8) (prl kd x))) := ⟨HX4.out.1.kept (setL_grown _ _ _) (.inr (OwnR.noRow HX4.out.1 R2 (by decide))), HX4.out.2.1.grown (setL_grown _ _ _) (by have := HNE.out; intro e9; exact this (Option.some.inj e9)), setL_below HGE.out _ _ _ HX4.out.2.2⟩
      clear R2 HX4
      go_wp2
      go_roundw
      case rel => exact ⟨z + 1, by omega, by go_num, HR2.out, HB2.out.1, HB2.out.2.1, HB2.out.2.2⟩
      case measure => simp [intOf]; omega
    · have hi : ¬ (z : Int) < (N : Int) := by omega
      have HX9 : Hid (RowS wr w2.heap.size 39 8 N (fun k => prl kd (l.getD k default)) ∧ Below w.heap.size w wr) := ⟨hrow.congr (fun k hk => by show (if k < z then _ else _) = _; rw [if_pos (by omega)]), hbl⟩
      clear hrow hO hQ hbl
      go_wp2
      refine bodyPost_ret (v := .tuple #[.slice (some ⟨w2.heap.size, 0, none⟩) N N, .bool b]) (by simp [results, Try.results55, go_sem]) rfl ?_
      have e9 := HN.out.1
      subst e9
      exact ⟨w2.heap.size, l, b, rfl, HGE.out, HX9.out.1, HL.out.1, HL.out.2.1, HX9.out.2⟩

end Go.Proofs.Ytgnmnbimmfknpaa

namespace Go.Proofs.Ytgnmnbimmfknpaa
open Go.RowKit

set_option linter.unusedVariables false

set_option linter.unusedSimpArgs false

set_option maxRecDepth 20000 in
set_option maxHeartbeats 2000000 in
theorem areApart_any (a : Option Addr) (n cap : Nat) (f : Nat → Ru) (w : World) (hs : SlU w a n f) (hn : n ≤ 24) (hok : ∀ k, k < n → (f k).lo ≤ (f k).hi) (b : Bool) (hb : b = true ↔ Apart f n) :
    Calls Try.prog 53 #[.slice a n cap] w fun e w' => e = .returned (.bool b) ∧ Below w.heap.size w w' := by
  have HB : Hid (b = true ↔ Apart f n) := hb
  have HOK : Hid (∀ k, k < n → (f k).lo ≤ (f k).hi) := hok
  clear hb hok
  go_enter Try.func53, Try.ntmps53
  go_wp2_with fail
  refine (sortedBy_any a n cap f _ hs hn).mono ?_
  rintro e w1 ⟨rfl, h, R1, P1, S1, B1⟩
  have HI : Hid (True ∧ (AdjOk h n ↔ Apart f n)) := ⟨trivial, apart_iff HOK.out P1 S1⟩
  clear P1 S1 HOK hs
  go_wp2
  go_loopw [4] (fun i wr => ∃ z : Nat, 1 ≤ z ∧ (z ≤ n ∨ z = 1) ∧ i = .int .i64 z ∧ RowU wr w.heap.size n h ∧ (∀ j, j + 1 < z → j + 1 < n → hasR (h j) (h (j + 1)).u (h (j + 1)).s (h (j + 1)).lo = false) ∧ Below w.heap.size w wr) (fun i _ => n - (intOf i).toNat)
  case atStart => exact ⟨1, Nat.le_refl _, .inr rfl, rfl, R1, fun j h1 h2 => by omega, B1⟩
  case round =>
    clear R1 B1
    obtain ⟨z, hz, hzn, rfl, hrow, hadj, hbl⟩ := hrel
    have HA : Hid (∀ j, j + 1 < z → j + 1 < n → hasR (h j) (h (j + 1)).u (h (j + 1)).s (h (j + 1)).lo = false) := hadj
    clear hadj
    by_cases hlt : z < n
    · have hi : (z : Int) < (n : Int) := by omega
      obtain ⟨y, hy⟩ : ∃ y, z = y + 1 := ⟨z - 1, by omega⟩
      have wy : IntKind.i64.wrap ((z : Int) - 1) = (y : Int) := by rw [IntKind.wrap_i64]; omega
      have hyn : (y : Int) < (n : Int) := by omega
      have hyn2 : y < n := by omega
      obtain ⟨c0, c1, c2, c3, c4, c5, c6⟩ := RowU.seven hrow hlt
      obtain ⟨hv, hhv⟩ : ∃ hv, hasR (h y) (h z).u (h z).s (h z).lo = hv := ⟨_, rfl⟩
      have HV : Hid (hasR (h y) (h z).u (h z).s (h z).lo = hv) := hhv
      have HY : Hid (z = y + 1) := hy
      obtain ⟨gB, hgB⟩ : ∃ gB, gB = wr.heap.size := ⟨_, rfl⟩
      obtain ⟨W, hW⟩ : ∃ W, W = wr.alloc (.cells (ruc (h z)) 30) := ⟨_, rfl⟩
      have HW : Hid (RowU W w.heap.size n h ∧ Below w.heap.size w W ∧ gB < W.heap.size ∧ ∀ u, Below W.heap.size W u → u.cell? ⟨gB, 0, none⟩ = some (.int .i64 (h z).u) ∧ u.cell? ⟨gB, 1, none⟩ = some (.int .i64 (h z).s) ∧ u.cell? ⟨gB, 2, none⟩ = some (.int .i64 (h z).lo)) := by
        have hl : gB < W.heap.size := by rw [hW, hgB]; simp
        refine ⟨by rw [hW]; exact hrow.below ((Below.refl _ _).alloc (Nat.le_refl _) _), by rw [hW]; exact bel_next hbl ((Below.refl _ _).alloc (Nat.le_refl _) _), hl, fun u hu => ⟨?_, ?_, ?_⟩⟩
        · rw [hu.cell (p := ⟨gB, 0, none⟩) hl, hW, hgB]; simp [go_sem]
        · rw [hu.cell (p := ⟨gB, 1, none⟩) hl, hW, hgB]; simp [go_sem]
        · rw [hu.cell (p := ⟨gB, 2, none⟩) hl, hW, hgB]; simp [go_sem]
      clear hhv hy hrow hbl
      go_wp2
      rw [← hW, ← hgB]
      clear hW hgB c0 c1 c2 c3 c4 c5 c6
      refine wp_region_any (by kernel_rfl) ?_
      refine wpAny_vals (fun u => Below W.heap.size W u) (fun i v u => match i with
        | 0 => v = .slice (some ⟨w.heap.size, 0, none⟩) n n
        | 1 => v = .int .i64 (z : Int)
        | 2 => v = .int .i64 (y : Int)
        | 3 => v = .pointer (some ⟨w.heap.size, y * 7, none⟩)
        | 4 => v = .agg (ruc (h y))
        | 5 => v = .pointer (some ⟨gB, 0, none⟩)
        | 6 => v = .int .i64 (h z).u
        | 7 => v = .pointer (some ⟨gB, 1, none⟩)
        | 8 => v = .int .i64 (h z).s
        | 9 => v = .pointer (some ⟨gB, 2, none⟩)
        | 10 => v = .int .i64 (h z).lo
        | 11 => v = .bool hv
        | _ => True) (by kernel_rfl) (by kernel_rfl) (fun _ _ _ _ h _ => h) (Below.refl _ _).drew ?_ ?_ _ _ rfl (by decide) (fun i => by simp [Array.getD]; try (split <;> rfl))
      · intro vs u hR hall
        have e16 : vs 11 = .bool hv := hall 11 (by simp)
        simp only [putsL]
        rw [e16]
        clear hall e16
        have HX : Hid (RowU u w.heap.size n h ∧ Below w.heap.size w u) := ⟨HW.out.1.below hR, bel_next HW.out.2.1 hR⟩
        clear hR HW
        cases hv with
        | false =>
          go_simp
          go_wp2
          go_roundw
          case rel => exact ⟨z + 1, by omega, by omega, by go_num, HX.out.1, fun j h1 h2 => (by have := HY.out; by_cases e : j = y; (subst e; rw [← this]; exact HV.out); (exact HA.out j (by omega) h2)), HX.out.2⟩
          case measure => simp [intOf]; omega
        | true =>
          have hno : b = false := by cases b with | false => rfl | true => (have h9 := (HI.out.2.trans HB.out.symm).2 rfl y (by have := HY.out; omega); rw [← HY.out, HV.out] at h9; cases h9)
          subst hno
          go_simp
          go_wp2
          go_ret
          exact ⟨rfl, HX.out.2⟩
      · intro u i o ρ hR ho hρ hc hf hd
        have hi : i < 12 := by
          have := (Array.getElem?_eq_some_iff.1 ho).1
          simpa using this
        obtain rfl | rfl | rfl | rfl | rfl | rfl | rfl | rfl | rfl | rfl | rfl | rfl : i = 0 ∨ i = 1 ∨ i = 2 ∨ i = 3 ∨ i = 4 ∨ i = 5 ∨ i = 6 ∨ i = 7 ∨ i = 8 ∨ i = 9 ∨ i = 10 ∨ i = 11 := by omega
        all_goals (simp only [List.getElem?_toArray, List.getElem?_cons_zero, List.getElem?_cons_succ, Option.some.injEq] at ho; subst ho)
        · -- 0
          have s3 : ρ (.tmp 3) = .slice (some ⟨w.heap.size, 0, none⟩) n n := (hρ 3 (by kernel_rfl)).trans rfl
          exact .inl ⟨rfl, .inl ⟨_, u, rfl, s3, hR, Below.refl _ _⟩⟩
        · -- 1
          have s4 : ρ (.tmp 4) = .int .i64 (z : Int) := (hρ 4 (by kernel_rfl)).trans rfl
          exact .inl ⟨rfl, .inl ⟨_, u, rfl, s4, hR, Below.refl _ _⟩⟩
        · -- 2
          have h1 : ρ (.tmp 19) = .int .i64 (z : Int) := hd ⟨1, .data⟩ (by simp) rfl 19 rfl
          exact .inl ⟨rfl, .inl ⟨.int .i64 (y : Int), u, run_bin_op rfl h1 (hc _) (by go_simp), rfl, hR, Below.refl _ _⟩⟩
        · -- 3
          have h0 : ρ (.tmp 18) = .slice (some ⟨w.heap.size, 0, none⟩) n n := hd ⟨0, .data⟩ (by simp) rfl 18 rfl
          have h2 : ρ (.tmp 20) = .int .i64 (y : Int) := hd ⟨2, .data⟩ (by simp) rfl 20 rfl
          exact .inl ⟨rfl, .inl ⟨.pointer (some ⟨w.heap.size, y * 7, none⟩), u, run_index_op rfl h0 h2 (by go_simp), rfl, hR, Below.refl _ _⟩⟩
        · -- 4
          have R0 : RowU u w.heap.size n h := HW.out.1.below hR
          obtain ⟨d0, d1, d2, d3, d4, d5, d6⟩ := RowU.seven R0 (show y < n from by omega)
          clear R0
          have h3 : ρ (.tmp 21) = .pointer (some ⟨w.heap.size, y * 7, none⟩) := hd ⟨3, .data⟩ (by simp) rfl 21 rfl
          have hr : (Instr.loadAt 30 (.pointer (some ⟨w.heap.size, y * 7, none⟩))).run Try.prog u = .ok (.agg (ruc (h y))) u := by go_simp
          exact .inl ⟨rfl, .inl ⟨.agg (ruc (h y)), u, run_load_op rfl h3 hr, rfl, hR, Below.refl _ _⟩⟩
        · -- 5
          have s5 : ρ (.tmp 5) = .pointer (some ⟨gB, 0, none⟩) := (hρ 5 (by kernel_rfl)).trans rfl
          exact .inl ⟨rfl, .inl ⟨.pointer (some ⟨gB, 0, none⟩), u, run_field_op rfl s5 (by go_simp), rfl, hR, Below.refl _ _⟩⟩
        · -- 6
          obtain ⟨q0, q1, q2⟩ := HW.out.2.2.2 u hR
          have h5 : ρ (.tmp 23) = .pointer (some ⟨gB, 0, none⟩) := hd ⟨5, .data⟩ (by simp) rfl 23 rfl
          have hr : (Instr.loadAt 3 (.pointer (some ⟨gB, 0, none⟩))).run Try.prog u = .ok (.int .i64 (h z).u) u := by go_simp
          exact .inl ⟨rfl, .inl ⟨.int .i64 (h z).u, u, run_load_op rfl h5 hr, rfl, hR, Below.refl _ _⟩⟩
        · -- 7
          have s5 : ρ (.tmp 5) = .pointer (some ⟨gB, 0, none⟩) := (hρ 5 (by kernel_rfl)).trans rfl
          exact .inl ⟨rfl, .inl ⟨.pointer (some ⟨gB, 1, none⟩), u, run_field_op rfl s5 (by go_simp), rfl, hR, Below.refl _ _⟩⟩
        · -- 8
          obtain ⟨q0, q1, q2⟩ := HW.out.2.2.2 u hR
          have h7 : ρ (.tmp 25) = .pointer (some ⟨gB, 1, none⟩) := hd ⟨7, .data⟩ (by simp) rfl 25 rfl
          have hr : (Instr.loadAt 3 (.pointer (some ⟨gB, 1, none⟩))).run Try.prog u = .ok (.int .i64 (h z).s) u := by go_simp
          exact .inl ⟨rfl, .inl ⟨.int .i64 (h z).s, u, run_load_op rfl h7 hr, rfl, hR, Below.refl _ _⟩⟩
        · -- 9
          have s5 : ρ (.tmp 5) = .pointer (some ⟨gB, 0, none⟩) := (hρ 5 (by kernel_rfl)).trans rfl
          exact .inl ⟨rfl, .inl ⟨.pointer (some ⟨gB, 2, none⟩), u, run_field_op rfl s5 (by go_simp), rfl, hR, Below.refl _ _⟩⟩
        · -- 10
          obtain ⟨q0, q1, q2⟩ := HW.out.2.2.2 u hR
          have h9 : ρ (.tmp 27) = .pointer (some ⟨gB, 2, none⟩) := hd ⟨9, .data⟩ (by simp) rfl 27 rfl
          have hr : (Instr.loadAt 3 (.pointer (some ⟨gB, 2, none⟩))).run Try.prog u = .ok (.int .i64 (h z).lo) u := by go_simp
          exact .inl ⟨rfl, .inl ⟨.int .i64 (h z).lo, u, run_load_op rfl h9 hr, rfl, hR, Below.refl _ _⟩⟩
        · -- 11
          have h4 : ρ (.tmp 22) = .agg (ruc (h y)) := hd ⟨4, .data⟩ (by simp) rfl 22 rfl
          have h6 : ρ (.tmp 24) = .int .i64 (h z).u := hd ⟨6, .data⟩ (by simp) rfl 24 rfl
          have h8 : ρ (.tmp 26) = .int .i64 (h z).s := hd ⟨8, .data⟩ (by simp) rfl 26 rfl
          have h10 : ρ (.tmp 28) = .int .i64 (h z).lo := hd ⟨10, .data⟩ (by simp) rfl 28 rfl
          refine .inl ⟨rfl, .inr ⟨_, _, run_call_op rfl (hf _) (args := #[.agg (ruc (h y)), .int .i64 (h z).u, .int .i64 (h z).s, .int .i64 (h z).lo]) (by simp [h4, h6, h8, h10]) (by kernel_rfl), ?_⟩⟩
          refine (has_any (h y) (h z).u (h z).s (h z).lo _).mono ?_
          rintro e u' ⟨he, b'⟩
          rw [HV.out] at he
          exact ⟨_, he, rfl, bel_next hR b', b'⟩
    · have hi : ¬ (z : Int) < (n : Int) := by omega
      have hyes : b = true := HB.out.2 (HI.out.2.1 (fun j hj => HA.out j (by omega) hj))
      subst hyes
      clear hrow
      go_wp2
      go_ret
      exact ⟨rfl, hbl⟩

set_option maxRecDepth 20000 in
set_option maxHeartbeats 2000000 in
theorem implRulesOk_any (a : Option Addr) (n cap : Nat) (f : Nat → Ru) (w : World) (hs : SlU w a n f) (hl : n ≤ 2000000) (h64 : ∀ k, k < n → -9223372036854775808 ≤ (f k).sh ∧ (f k).sh ≤ 9223372036854775807) (b : Bool) (hb : b = true ↔ OkRs f n) :
    Calls Try.prog 14 #[.slice a n cap] w fun e w' => e = .returned (.bool b) ∧ Below w.heap.size w w' := by
  have HB : Hid (b = true ↔ OkRs f n) := hb
  clear hb
  by_cases hn : 24 < n
  · have d : (24 : Int) < (n : Int) := by omega
    have hno : b = false := by cases b with | false => rfl | true => (have := (HB.out.1 rfl).1; omega)
    subst hno
    clear hs
    go_enter Try.func14, Try.ntmps14
    go_wp2
    go_ret
    exact ⟨rfl, Below.refl _ _⟩
  · have d : ¬ (24 : Int) < (n : Int) := by omega
    go_enter Try.func14, Try.ntmps14
    go_wp2
    go_loopw [10] (fun i wr => ∃ z : Nat, z ≤ n ∧ i = .int .i64 z ∧ (∀ k, k < z → OkRu (f k)) ∧ Below w.heap.size w wr) (fun i _ => n - (intOf i).toNat)
    case atStart => exact ⟨0, Nat.zero_le _, rfl, fun k hk => by omega, Below.refl _ _⟩
    case round =>
      obtain ⟨z, hz, rfl, hall, hbl⟩ := hrel
      by_cases hlt : z < n
      · have hi : (z : Int) < (n : Int) := by omega
        obtain ⟨bb, off, rfl, hb0, c0, c1, c2, c3, c4, c5, c6⟩ := SlU.seven (SlS.below hs hbl) hlt
        have B1 : Below w.heap.size w (wr.alloc (.cells (ruc (f z)) 30)) := bel_next hbl ((Below.refl _ _).alloc (Nat.le_refl _) _)
        have HA : Hid (∀ k, k < z → OkRu (f k)) := hall
        clear hall
        go_wp2_with fail
        refine (isRight_any (f z) _ (h64 z hlt)).mono ?_
        rintro e w2 ⟨rfl, b2⟩
        have B2 := bel_next B1 b2
        clear B1 b2 hbl c0 c1 c2 c3 c4 c5 c6
        by_cases ho : OkRu (f z)
        · rw [decide_eq_true ho]
          go_wp2
          go_roundw
          case rel => exact ⟨z + 1, by omega, by go_num, fun k hk => (by by_cases e : k = z; (subst e; exact ho); (exact HA.out k (by omega))), B2⟩
          case measure => simp [intOf]; omega
        · rw [decide_eq_false ho]
          have hno : b = false := by cases b with | false => rfl | true => exact absurd ((HB.out.1 rfl).2.1 z hlt) ho
          subst hno
          go_wp2
          go_ret
          exact ⟨rfl, B2⟩
      · have hi : ¬ (z : Int) < (n : Int) := by omega
        have S2 := SlS.below hs hbl
        have HA : Hid (∀ k, k < n → OkRu (f k)) := fun k hk => hall k (by omega)
        clear hall
        go_wp2_with fail
        refine (areApart_any a n cap f _ S2 (by omega) (fun k hk => (HA.out k hk).2.2.1.2.1) b ⟨fun h => (HB.out.1 h).2.2, fun h => HB.out.2 ⟨by omega, HA.out, h⟩⟩).mono ?_
        rintro e w2 ⟨rfl, b2⟩
        have B2 := bel_next hbl b2
        clear b2 hbl S2
        go_wp2
        go_ret
        exact ⟨rfl, B2⟩

end Go.Proofs.Ytgnmnbimmfknpaa

namespace Go.Proofs.Ytgnmnbimmfknpaa
open Go.RowKit

set_option linter.unusedVariables false

set_option linter.unusedSimpArgs false

/-- What Parts tells of a question that reads. -/
def PartsRes (w w' : World) (e : Ending) (f : Nat → Ru) (n : Nat) (un sp E c0 kd : Int) : Prop :=
  ∃ v ft, e = .returned (.tuple #[v, .int .i64 ft]) ∧ Below w.heap.size w w' ∧
    ((¬ (∃ j, j < n ∧ (f j).u = un) ∧ v = .slice none 0 0 ∧ ft = 10) ∨
     ((∃ j, j < n ∧ (f j).u = un) ∧ runs f n un sp E c0 = none ∧ v = .slice none 0 0 ∧ ft = 2) ∨
     ((∃ j, j < n ∧ (f j).u = un) ∧ ∃ l, runs f n un sp E c0 = some l ∧ 8 < l.length ∧ v = .slice none 0 0 ∧ ft = 3) ∨
     ((∃ j, j < n ∧ (f j).u = un) ∧ ∃ l g, runs f n un sp E c0 = some l ∧ l.length ≤ 8 ∧ v = .slice (some ⟨g, 0, none⟩) l.length l.length ∧ RowS w' g 39 8 l.length (fun k => prl kd (l.getD k default)) ∧ w.heap.size ≤ g ∧ ft = 0))

set_option maxRecDepth 20000 in
set_option maxHeartbeats 2000000 in
theorem implParts_read (kd : Int) (hk : kd = 1 ∨ kd = 2 ∨ kd = 3 ∨ kd = 4) (a : Option Addr) (n cap : Nat) (f : Nat → Ru) (un sp pl nn wa : Int) (q1 q2 : Option Addr) (m1 m2 k1 k2 : Nat) (ws : List Int) (bs : List Bool) (w : World) (hs : SlU w a n f) (h64 : ∀ k, k < n → -9223372036854775808 ≤ (f k).sh ∧ (f k).sh ≤ 9223372036854775807) (hrs : OkRs f n)
    (h1 : m1 = ws.length) (h2 : m2 = bs.length) (s1 : SlI w q1 ws) (s2 : SlB w q2 bs) (hl1 : ws.length ≤ 2000000) (hl2 : bs.length ≤ 2000000) (hokR : okR kd pl nn wa ws m1 m2 = true) (hv : spcV (okR kd pl nn wa ws m1 m2) kd pl nn m1 m2 = .tuple #[.int .i64 sp, .int .i64 pl, .int .i64 nn]) (hc : 0 ≤ pl ∧ 0 ≤ nn ∧ pl + nn ≤ 65536) (hc' : pl ≤ 65535) :
    Calls Try.prog 15 #[.slice a n cap, .int .i64 un, .agg (rqc kd pl nn wa q1 q2 m1 m2 k1 k2)] w fun e w' => PartsRes w w' e f n un sp (pl + nn) pl kd := by
  obtain ⟨W, hW⟩ : ∃ W, W = w.alloc (.cells (rqc kd pl nn wa q1 q2 m1 m2 k1 k2) 37) := ⟨_, rfl⟩
  have bW : Below w.heap.size w W := by rw [hW]; exact (Below.refl _ _).alloc (Nat.le_refl _) _
  have HF : Hid (OkRs f n ∧ (∀ k, k < n → -9223372036854775808 ≤ (f k).sh ∧ (f k).sh ≤ 9223372036854775807)) := ⟨hrs, h64⟩
  have HW : Hid (SlU W a n f ∧ SlI W q1 ws ∧ SlB W q2 bs ∧ Below w.heap.size w W ∧ Blk W w.heap.size 37 (rqc kd pl nn wa q1 q2 m1 m2 k1 k2)) := ⟨SlS.below hs bW, s1.below bW, s2.below bW, bW, by rw [hW]; exact Blk.new w _ 37⟩
  have HQ : Hid (m1 = ws.length ∧ m2 = bs.length ∧ okR kd pl nn wa ws m1 m2 = true) := ⟨h1, h2, hokR⟩
  have HV : Hid (spcV (okR kd pl nn wa ws m1 m2) kd pl nn m1 m2 = .tuple #[.int .i64 sp, .int .i64 pl, .int .i64 nn]) := hv
  have hn24 : n ≤ 24 := hrs.1
  clear hs s1 s2 bW h1 h2 hv hokR hrs h64
  go_enter Try.func15, Try.ntmps15
  go_upto_region 1 with fail
  rw [← hW]
  clear hW
  go_wp2_with fail
  refine (implRulesOk_any a n cap f _ HW.out.1 (by omega) HF.out.2 true ⟨fun _ => HF.out.1, fun _ => rfl⟩).mono ?_
  rintro e w1 ⟨rfl, b1⟩
  have HW1 : Hid (SlU w1 a n f ∧ SlI w1 q1 ws ∧ SlB w1 q2 bs ∧ Below w.heap.size w w1 ∧ Blk w1 w.heap.size 37 (rqc kd pl nn wa q1 q2 m1 m2 k1 k2)) := ⟨SlS.below HW.out.1 b1, HW.out.2.1.below b1, HW.out.2.2.1.below b1, bel_next HW.out.2.2.2.1 b1, HW.out.2.2.2.2.below b1⟩
  clear HW b1
  obtain ⟨y0, y1, y2, y3, y4, y5⟩ := HW1.out.2.2.2.2.six
  go_wp2_with fail
  refine (implReqOk_q kd pl nn wa q1 q2 m1 m2 k1 k2 ws bs _ HQ.out.1 HQ.out.2.1 HW1.out.2.1 HW1.out.2.2.1 hl1 hl2).mono ?_
  rintro e w2 ⟨he, b2⟩
  rw [HQ.out.2.2] at he
  subst he
  have HW2 : Hid (SlU w2 a n f ∧ SlI w2 q1 ws ∧ SlB w2 q2 bs ∧ Below w.heap.size w w2 ∧ Blk w2 w.heap.size 37 (rqc kd pl nn wa q1 q2 m1 m2 k1 k2)) := ⟨SlS.below HW1.out.1 b2, HW1.out.2.1.below b2, HW1.out.2.2.1.below b2, bel_next HW1.out.2.2.2.1 b2, HW1.out.2.2.2.2.below b2⟩
  clear HW1 b2 y0 y1 y2 y3 y4 y5
  by_cases hu : ∃ j, j < n ∧ (f j).u = un
  · go_wp2_with fail
    refine (hasUnit_any a n cap f un _ HW2.out.1 (by omega) true ⟨fun _ => hu, fun _ => rfl⟩).mono ?_
    rintro e w3 ⟨rfl, b3⟩
    have HW3 : Hid (SlU w3 a n f ∧ SlI w3 q1 ws ∧ SlB w3 q2 bs ∧ Below w.heap.size w w3 ∧ Blk w3 w.heap.size 37 (rqc kd pl nn wa q1 q2 m1 m2 k1 k2)) := ⟨SlS.below HW2.out.1 b3, HW2.out.2.1.below b3, HW2.out.2.2.1.below b3, bel_next HW2.out.2.2.2.1 b3, HW2.out.2.2.2.2.below b3⟩
    have HU : Hid (∃ j, j < n ∧ (f j).u = un) := hu
    clear HW2 b3 hu
    obtain ⟨y0, y1, y2, y3, y4, y5⟩ := HW3.out.2.2.2.2.six
    go_wp2_with fail
    refine (partsOf_read kd hk a n cap f un sp pl nn wa q1 q2 m1 m2 k1 k2 ws bs _ HW3.out.1 hn24 HF.out.1.2.1 HF.out.1.2.2 HQ.out.1 HQ.out.2.1 HW3.out.2.1 HW3.out.2.2.1 hl1 hl2 HV.out hc hc').mono ?_
    rintro e w4 ⟨g, l, b, rfl, hg, R4, hln, hR, b4⟩
    have B4 := bel_next HW3.out.2.2.2.1 b4
    have hgw : w.heap.size ≤ g := Nat.le_trans HW3.out.2.2.2.1.size hg
    obtain ⟨N, hN⟩ : ∃ N, N = l.length := ⟨_, rfl⟩
    have HX : Hid (N = l.length ∧ RunsR f n un sp (pl + nn) pl b l ∧ RowS w4 g 39 8 l.length (fun k => prl kd (l.getD k default)) ∧ w.heap.size ≤ g ∧ Below w.heap.size w w4) := ⟨hN, hR, R4, hgw, B4⟩
    rw [← hN]
    clear hN hR R4 B4 b4 hg hgw hln HW3 y0 y1 y2 y3 y4 y5
    cases b with
    | false =>
      go_wp2
      refine bodyPost_ret (v := .tuple #[.slice none 0 0, .int .i64 2]) (by simp [results, Try.results15, go_sem]) rfl ⟨_, _, rfl, HX.out.2.2.2.2, .inr (.inl ⟨HU.out, HX.out.2.1.2 rfl, rfl, rfl⟩)⟩
    | true =>
      by_cases h8 : 8 < N
      · have d : (8 : Int) < (N : Int) := by omega
        go_wp2
        refine bodyPost_ret (v := .tuple #[.slice none 0 0, .int .i64 3]) (by simp [results, Try.results15, go_sem]) rfl ⟨_, _, rfl, HX.out.2.2.2.2, .inr (.inr (.inl ⟨HU.out, l, HX.out.2.1.1 rfl, by rw [← HX.out.1]; exact h8, rfl, rfl⟩))⟩
      · have d : ¬ (8 : Int) < (N : Int) := by omega
        go_wp2
        refine bodyPost_ret (v := .tuple #[.slice (some ⟨g, 0, none⟩) N N, .int .i64 0]) (by simp [results, Try.results15, go_sem]) rfl ⟨_, _, rfl, HX.out.2.2.2.2, .inr (.inr (.inr ⟨HU.out, l, g, HX.out.2.1.1 rfl, by rw [← HX.out.1]; omega, by rw [HX.out.1], HX.out.2.2.1, HX.out.2.2.2.1, rfl⟩))⟩
  · go_wp2_with fail
    refine (hasUnit_any a n cap f un _ HW2.out.1 (by omega) false ⟨fun e => Bool.noConfusion e, fun e => absurd e hu⟩).mono ?_
    rintro e w3 ⟨rfl, b3⟩
    have B3 := bel_next HW2.out.2.2.2.1 b3
    have HU : Hid (¬ ∃ j, j < n ∧ (f j).u = un) := hu
    clear HW2 b3 hu
    go_wp2
    refine bodyPost_ret (v := .tuple #[.slice none 0 0, .int .i64 10]) (by simp [results, Try.results15, go_sem]) rfl ⟨_, _, rfl, B3, .inl ⟨HU.out, rfl, rfl⟩⟩

end Go.Proofs.Ytgnmnbimmfknpaa

namespace Go.Proofs.Ytgnmnbimmfknpaa
open Go.RowKit

set_option linter.unusedVariables false

set_option linter.unusedSimpArgs false

set_option maxHeartbeats 1000000 in
theorem implRuleAt_any (a : Option Addr) (n cap : Nat) (f : Nat → Ru) (un sp pl : Int) (w : World) (hs : SlU w a n f) (hl : n ≤ 2000000) :
    Calls Try.prog 11 #[.slice a n cap, .int .i64 un, .int .i64 sp, .int .i64 pl] w fun e w' => e = .returned (.int .i64 (atR f n un sp pl)) ∧ Below w.heap.size w w' := by
  have hmf : ∀ (fn : Fn) (first cap : Array Value) (w : World), (Instr.makeFunc fn first cap).run Try.prog w = .ok (.func fn first cap) w := fun _ _ _ _ => rfl
  have B0 : Below w.heap.size w (((w.alloc (.cells #[.int .i64 un] 3)).alloc (.cells #[.int .i64 sp] 3)).alloc (.cells #[.int .i64 pl] 3)) := (((Below.refl _ w).alloc (Nat.le_refl _) _).alloc (by simp) _).alloc (by simp; omega) _
  have T0 : Tri (((w.alloc (.cells #[.int .i64 un] 3)).alloc (.cells #[.int .i64 sp] 3)).alloc (.cells #[.int .i64 pl] 3)) w.heap.size (w.heap.size + 1) (w.heap.size + 1 + 1) un sp pl :=
    ⟨((Box.new w (.int .i64 un) 3).below ((Below.refl _ _).alloc (Nat.le_refl _) _)).below ((Below.refl _ _).alloc (Nat.le_refl _) _), by simpa using (Box.new (w.alloc (.cells #[.int .i64 un] 3)) (.int .i64 sp) 3).below ((Below.refl _ _).alloc (Nat.le_refl _) _), by simpa using Box.new ((w.alloc (.cells #[.int .i64 un] 3)).alloc (.cells #[.int .i64 sp] 3)) (.int .i64 pl) 3⟩
  have HT : Hid (Tri _ _ _ _ un sp pl) := T0
  have HS : Hid (SlU _ a n f) := SlS.below hs B0
  have HB : Hid (Below _ _ _) := B0
  clear T0 hs B0
  go_enter Try.func11, Try.ntmps11
  go_wp2_with fail
  refine (indexFunc_any a n cap f _ _ _ un sp pl _ HS.out HT.out hl).mono ?_
  rintro e w1 ⟨rfl, b1⟩
  have B1 := bel_next HB.out b1
  clear b1 HS HT HB
  go_wp2
  go_ret
  exact ⟨rfl, B1⟩

set_option maxHeartbeats 4000000 in
theorem specRuleAt_any (a : Option Addr) (n cap : Nat) (f : Nat → Ru) (un sp pl : Int) (w : World) (hs : SlU w a n f) (hl : n ≤ 2000000) :
    Calls Try.prog 12 #[.slice a n cap, .int .i64 un, .int .i64 sp, .int .i64 pl] w fun e w' => e = .returned (.int .i64 (atR f n un sp pl)) ∧ Below w.heap.size w w' := by
  go_enter Try.func12, Try.ntmps12
  go_wp2
  go_loopw [9] (fun i wr => ∃ k : Nat, k ≤ n ∧ i = .int .i64 k ∧ Below w.heap.size w wr ∧ atR f n un sp pl = atFrom f un sp pl n k) (fun i _ => n - (intOf i).toNat)
  case atStart => exact ⟨0, Nat.zero_le _, rfl, Below.refl _ _, rfl⟩
  case round =>
    obtain ⟨k, hk, rfl, hb, HA⟩ := hrel
    have HA' : Hid (atR f n un sp pl = atFrom f un sp pl n k) := HA
    clear HA
    by_cases hlt : k < n
    · obtain ⟨b, off, rfl, hb0, c0, c1, c2, c3, c4, c5, c6⟩ := SlU.seven (SlS.below hs hb) hlt
      have hi : (k : Int) < (n : Int) := by omega
      by_cases h1 : (f k).u = un
      · by_cases h2 : (f k).s = sp
        · have d1 : decide ((f k).u = un) = true := by simpa using h1
          have d2 : decide ((f k).s = sp) = true := by simpa using h2
          have e1 : hasR (f k) un sp pl = inB pl (f k).lo (f k).hi := by simp [hasR, inB, h1, h2]
          clear hs
          cases hin : inB pl (f k).lo (f k).hi
          · rw [hin] at e1
            go_wp2
            go_quiet ((go_at_call 50; refine Calls.quiet_of_same (l1In_any pl (f k).lo (f k).hi _ false hin)))
            go_wp2
            go_roundw
            case rel => exact ⟨k + 1, by omega, by go_num, by first | exact hb | exact bel_drewN hb _, HA'.out.trans (atFrom_miss hlt e1)⟩
            case measure => simp [intOf]; omega
          · rw [hin] at e1
            go_wp2
            go_quiet ((go_at_call 50; refine Calls.quiet_of_same (l1In_any pl (f k).lo (f k).hi _ true hin)))
            go_wp2
            go_ret
            exact ⟨ret_int (HA'.out.trans (atFrom_hit hlt e1)).symm, by first | exact hb | exact bel_drewN hb _⟩
        · have hh : hasR (f k) un sp pl = false := by simp [hasR, h2]
          have d1 : decide ((f k).u = un) = true := by simpa using h1
          have d2 : ((f k).s == sp) = false := by simpa using h2
          clear hs
          go_wp2
          go_quiet (fail)
          go_wp2
          go_roundw
          case rel => exact ⟨k + 1, by omega, by go_num, by first | exact hb | exact bel_drewN hb _, HA'.out.trans (atFrom_miss hlt hh)⟩
          case measure => simp [intOf]; omega
      · have hh : hasR (f k) un sp pl = false := by simp [hasR, h1]
        have d1 : ((f k).u == un) = false := by simpa using h1
        clear hs
        go_wp2
        go_quiet (fail)
        go_wp2
        go_roundw
        case rel => exact ⟨k + 1, by omega, by go_num, by first | exact hb | exact bel_drewN hb _, HA'.out.trans (atFrom_miss hlt hh)⟩
        case measure => simp [intOf]; omega
    · clear hs
      go_wp2
      go_ret
      exact ⟨ret_int (HA'.out.trans (atFrom_end hlt)).symm, hb⟩

end Go.Proofs.Ytgnmnbimmfknpaa

namespace Go.Proofs.Ytgnmnbimmfknpaa
open Go.RowKit

set_option linter.unusedVariables false

set_option linter.unusedSimpArgs false

set_option maxRecDepth 20000 in
set_option maxHeartbeats 8000000 in
theorem specRulesOk_any (a : Option Addr) (n cap : Nat) (f : Nat → Ru) (w : World) (hs : SlU w a n f) (hl : n ≤ 2000000) (b : Bool) (hb : b = true ↔ OkRs f n) :
    Calls Try.prog 13 #[.slice a n cap] w fun e w' => e = .returned (.bool b) ∧ Below w.heap.size w w' := by
  have HB : Hid (b = true ↔ OkRs f n) := hb
  clear hb
  by_cases hn : 24 < n
  · have d : (24 : Int) < (n : Int) := by omega
    have hno : b = false := by cases b with | false => rfl | true => (have := (HB.out.1 rfl).1; omega)
    subst hno
    clear hs
    go_enter Try.func13, Try.ntmps13
    go_wp2
    go_ret
    exact ⟨rfl, Below.refl _ _⟩
  · have d : ¬ (24 : Int) < (n : Int) := by omega
    go_enter Try.func13, Try.ntmps13
    go_wp2
    go_loopw [3] (fun i wr => ∃ z : Nat, z ≤ n ∧ i = .int .i64 z ∧ (∀ k, k < z → OkRu (f k)) ∧ Apart f z ∧ Below w.heap.size w wr) (fun i _ => n - (intOf i).toNat)
    case atStart => exact ⟨0, Nat.zero_le _, rfl, fun k hk => by omega, fun i hi => by omega, Below.refl _ _⟩
    case round =>
      obtain ⟨z, hz, rfl, hall, hap, hbl⟩ := hrel
      have HZ : Hid ((∀ k, k < z → OkRu (f k)) ∧ Apart f z) := ⟨hall, hap⟩
      clear hall hap
      by_cases hlt : z < n
      · have hi : (z : Int) < (n : Int) := by omega
        obtain ⟨bb, off, rfl, hb0, c0, c1, c2, c3, c4, c5, c6⟩ := SlU.seven (SlS.below hs hbl) hlt
        go_wp2_with fail
        refine (l10Rule_any (f z) _).mono ?_
        rintro e w2 ⟨rfl, b2⟩
        have B2 := bel_next hbl b2
        clear hbl b2 c0 c1 c2 c3 c4 c5 c6 hb0
        by_cases ho : OkRu (f z)
        · rw [decide_eq_true ho]
          go_wp2
          go_loopw [4] (fun i wr => ∃ y : Nat, y ≤ z ∧ i = .int .i64 y ∧ (∀ k, k < y → ¬ ovl (f k) (f z)) ∧ Below w.heap.size w wr) (fun i _ => z - (intOf i).toNat)
          case atStart => exact ⟨0, Nat.zero_le _, rfl, fun k hk => by omega, B2⟩
          case round =>
            clear B2
            obtain ⟨y, hy, rfl, hno', hbl⟩ := hrel
            have HA : Hid (∀ k, k < y → ¬ ovl (f k) (f z)) := hno'
            clear hno'
            by_cases hlt2 : y < z
            case neg =>
              have hi2 : ¬ (y : Int) < (z : Int) := by omega
              have HX : Hid ((∀ k, k < z + 1 → OkRu (f k)) ∧ Apart f (z + 1)) := ⟨fun k hk => (by by_cases e : k = z; (subst e; exact ho); (exact HZ.out.1 k (by omega))), fun i hi k hk => (by by_cases e : i = z; (subst e; exact HA.out k (by omega)); (exact HZ.out.2 i (by omega) k hk))⟩
              go_wp2
              go_roundw
              case rel => exact ⟨z + 1, by omega, by go_num, HX.out.1, HX.out.2, hbl⟩
              case measure => simp [intOf]; omega
            have hi2 : (y : Int) < (z : Int) := by omega
            have hyn : (y : Int) < (n : Int) := by omega
            have hyn2 : y < n := by omega
            have SS := SlS.below hs hbl
            have CE : Hid (∀ u, Below wr.heap.size wr u → u.cell? ⟨bb, off + z * 7, none⟩ = some (.int .i64 (f z).u) ∧ u.cell? ⟨bb, off + z * 7 + 1, none⟩ = some (.int .i64 (f z).s) ∧ u.cell? ⟨bb, off + z * 7 + 2, none⟩ = some (.int .i64 (f z).lo) ∧ u.cell? ⟨bb, off + z * 7 + 3, none⟩ = some (.int .i64 (f z).hi) ∧ u.cell? ⟨bb, off + y * 7, none⟩ = some (.int .i64 (f y).u) ∧ u.cell? ⟨bb, off + y * 7 + 1, none⟩ = some (.int .i64 (f y).s) ∧ u.cell? ⟨bb, off + y * 7 + 2, none⟩ = some (.int .i64 (f y).lo) ∧ u.cell? ⟨bb, off + y * 7 + 3, none⟩ = some (.int .i64 (f y).hi)) := by
              intro u hu
              have S2 := SlS.below SS hu
              obtain ⟨b1, o1, e1, _, x0, x1, x2, x3, _, _, _⟩ := SlU.seven S2 hlt
              obtain ⟨b2, o2, e2, _, y0, y1, y2, y3, _, _, _⟩ := SlU.seven S2 hyn2
              simp only [Option.some.injEq, Addr.mk.injEq] at e1 e2
              obtain ⟨rfl, rfl, _⟩ := e1
              obtain ⟨rfl, rfl, _⟩ := e2
              exact ⟨x0, x1, x2, x3, y0, y1, y2, y3⟩
            clear SS hs
            by_cases h0 : (f y).u = (f z).u
            case neg =>
              have d0 : ((f y).u == (f z).u) = false := by simpa using h0
              go_wp2
              refine wp_region_any (by kernel_rfl) ?_
              refine wpAny_vals (fun u => Below wr.heap.size wr u) (fun i v u => match i with
                | 0 => v = .slice (some ⟨bb, off, none⟩) n cap
                | 1 => v = .int .i64 (y : Int)
                | 2 => v = .pointer (some ⟨bb, off + y * 7, none⟩)
                | 3 => v = .pointer (some ⟨bb, off + y * 7, none⟩)
                | 4 => v = .int .i64 (f y).u
                | 5 => v = .slice (some ⟨bb, off, none⟩) n cap
                | 6 => v = .int .i64 (z : Int)
                | 7 => v = .pointer (some ⟨bb, off + z * 7, none⟩)
                | 8 => v = .pointer (some ⟨bb, off + z * 7, none⟩)
                | 9 => v = .int .i64 (f z).u
                | 10 => v = .bool false
                | 11 => v = .bool false
                | 12 => v = undef
                | 13 => v = undef
                | 14 => v = undef
                | 15 => v = undef
                | 16 => v = undef
                | 17 => v = undef
                | 18 => v = undef
                | 19 => v = undef
                | 20 => v = undef
                | 21 => v = undef
                | 22 => v = undef
                | 23 => v = .bool false
                | 24 => v = .bool false
                | 25 => v = undef
                | 26 => v = undef
                | 27 => v = undef
                | 28 => v = undef
                | 29 => v = undef
                | 30 => v = undef
                | 31 => v = undef
                | 32 => v = undef
                | 33 => v = undef
                | 34 => v = undef
                | 35 => v = undef
                | 36 => v = .bool false
                | 37 => v = .bool false
                | 38 => v = undef
                | 39 => v = undef
                | 40 => v = undef
                | 41 => v = undef
                | 42 => v = undef
                | 43 => v = undef
                | 44 => v = undef
                | 45 => v = undef
                | 46 => v = undef
                | 47 => v = undef
                | 48 => v = undef
                | 49 => v = .bool false
                | _ => True) (by kernel_rfl) (by kernel_rfl) (fun _ _ _ _ h _ => h) (Below.refl _ _).drew ?_ ?_ _ _ rfl (by decide) (fun i => by simp [Array.getD]; try (split <;> rfl))
              · intro vs u hR hall
                have e16 : vs 49 = .bool false := hall 49 (by simp)
                simp only [putsL]
                rw [e16]
                clear hall e16
                have BX := bel_next hbl hR
                clear hR CE hbl
                go_simp
                go_wp2
                go_roundw
                case rel => exact ⟨y + 1, by omega, by go_num, fun k hk => (by by_cases e : k = y; (subst e; exact fun h => (by unfold ovl at h; omega)); (exact HA.out k (by omega))), BX⟩
                case measure => simp [intOf]; omega
              · intro u i o ρ hR ho hρ hc hf hd
                have hi : i < 50 := by
                  have := (Array.getElem?_eq_some_iff.1 ho).1
                  simpa using this
                obtain rfl | rfl | rfl | rfl | rfl | rfl | rfl | rfl | rfl | rfl | rfl | rfl | rfl | rfl | rfl | rfl | rfl | rfl | rfl | rfl | rfl | rfl | rfl | rfl | rfl | rfl | rfl | rfl | rfl | rfl | rfl | rfl | rfl | rfl | rfl | rfl | rfl | rfl | rfl | rfl | rfl | rfl | rfl | rfl | rfl | rfl | rfl | rfl | rfl | rfl : i = 0 ∨ i = 1 ∨ i = 2 ∨ i = 3 ∨ i = 4 ∨ i = 5 ∨ i = 6 ∨ i = 7 ∨ i = 8 ∨ i = 9 ∨ i = 10 ∨ i = 11 ∨ i = 12 ∨ i = 13 ∨ i = 14 ∨ i = 15 ∨ i = 16 ∨ i = 17 ∨ i = 18 ∨ i = 19 ∨ i = 20 ∨ i = 21 ∨ i = 22 ∨ i = 23 ∨ i = 24 ∨ i = 25 ∨ i = 26 ∨ i = 27 ∨ i = 28 ∨ i = 29 ∨ i = 30 ∨ i = 31 ∨ i = 32 ∨ i = 33 ∨ i = 34 ∨ i = 35 ∨ i = 36 ∨ i = 37 ∨ i = 38 ∨ i = 39 ∨ i = 40 ∨ i = 41 ∨ i = 42 ∨ i = 43 ∨ i = 44 ∨ i = 45 ∨ i = 46 ∨ i = 47 ∨ i = 48 ∨ i = 49 := by omega
                all_goals (simp only [List.getElem?_toArray, List.getElem?_cons_zero, List.getElem?_cons_succ, Option.some.injEq] at ho; subst ho)
                · -- 0
                  have s0 : ρ (.tmp 0) = .slice (some ⟨bb, off, none⟩) n cap := (hρ 0 (by kernel_rfl)).trans rfl
                  exact .inl ⟨rfl, .inl ⟨_, u, rfl, s0, hR, Below.refl _ _⟩⟩
                · -- 1
                  have s4 : ρ (.tmp 4) = .int .i64 (y : Int) := (hρ 4 (by kernel_rfl)).trans rfl
                  exact .inl ⟨rfl, .inl ⟨_, u, rfl, s4, hR, Below.refl _ _⟩⟩
                · -- 2
                  have h0 : ρ (.tmp 25) = .slice (some ⟨bb, off, none⟩) n cap := hd ⟨0, .data⟩ (by simp) rfl 25 rfl
                  have h1 : ρ (.tmp 26) = .int .i64 (y : Int) := hd ⟨1, .data⟩ (by simp) rfl 26 rfl
                  exact .inl ⟨rfl, .inl ⟨.pointer (some ⟨bb, off + y * 7, none⟩), u, run_index_op rfl h0 h1 (by go_simp), rfl, hR, Below.refl _ _⟩⟩
                · -- 3
                  have h2 : ρ (.tmp 27) = .pointer (some ⟨bb, off + y * 7, none⟩) := hd ⟨2, .data⟩ (by simp) rfl 27 rfl
                  exact .inl ⟨rfl, .inl ⟨.pointer (some ⟨bb, off + y * 7, none⟩), u, run_field_op rfl h2 (by go_simp), rfl, hR, Below.refl _ _⟩⟩
                · -- 4
                  obtain ⟨q0, q1, q2, q3, p0, p1, p2, p3⟩ := CE.out u hR
                  have h3 : ρ (.tmp 28) = .pointer (some ⟨bb, off + y * 7, none⟩) := hd ⟨3, .data⟩ (by simp) rfl 28 rfl
                  have hr : (Instr.loadAt 3 (.pointer (some ⟨bb, off + y * 7, none⟩))).run Try.prog u = .ok (.int .i64 (f y).u) u := by go_simp
                  exact .inl ⟨rfl, .inl ⟨.int .i64 (f y).u, u, run_load_op rfl h3 hr, rfl, hR, Below.refl _ _⟩⟩
                · -- 5
                  have s0 : ρ (.tmp 0) = .slice (some ⟨bb, off, none⟩) n cap := (hρ 0 (by kernel_rfl)).trans rfl
                  exact .inl ⟨rfl, .inl ⟨_, u, rfl, s0, hR, Below.refl _ _⟩⟩
                · -- 6
                  have s3 : ρ (.tmp 3) = .int .i64 (z : Int) := (hρ 3 (by kernel_rfl)).trans rfl
                  exact .inl ⟨rfl, .inl ⟨_, u, rfl, s3, hR, Below.refl _ _⟩⟩
                · -- 7
                  have h5 : ρ (.tmp 30) = .slice (some ⟨bb, off, none⟩) n cap := hd ⟨5, .data⟩ (by simp) rfl 30 rfl
                  have h6 : ρ (.tmp 31) = .int .i64 (z : Int) := hd ⟨6, .data⟩ (by simp) rfl 31 rfl
                  exact .inl ⟨rfl, .inl ⟨.pointer (some ⟨bb, off + z * 7, none⟩), u, run_index_op rfl h5 h6 (by go_simp), rfl, hR, Below.refl _ _⟩⟩
                · -- 8
                  have h7 : ρ (.tmp 32) = .pointer (some ⟨bb, off + z * 7, none⟩) := hd ⟨7, .data⟩ (by simp) rfl 32 rfl
                  exact .inl ⟨rfl, .inl ⟨.pointer (some ⟨bb, off + z * 7, none⟩), u, run_field_op rfl h7 (by go_simp), rfl, hR, Below.refl _ _⟩⟩
                · -- 9
                  obtain ⟨q0, q1, q2, q3, p0, p1, p2, p3⟩ := CE.out u hR
                  have h8 : ρ (.tmp 33) = .pointer (some ⟨bb, off + z * 7, none⟩) := hd ⟨8, .data⟩ (by simp) rfl 33 rfl
                  have hr : (Instr.loadAt 3 (.pointer (some ⟨bb, off + z * 7, none⟩))).run Try.prog u = .ok (.int .i64 (f z).u) u := by go_simp
                  exact .inl ⟨rfl, .inl ⟨.int .i64 (f z).u, u, run_load_op rfl h8 hr, rfl, hR, Below.refl _ _⟩⟩
                · -- 10
                  have h4 : ρ (.tmp 29) = .int .i64 (f y).u := hd ⟨4, .data⟩ (by simp) rfl 29 rfl
                  have h9 : ρ (.tmp 34) = .int .i64 (f z).u := hd ⟨9, .data⟩ (by simp) rfl 34 rfl
                  exact .inl ⟨rfl, .inl ⟨.bool false, u, run_bin_op rfl h4 h9 (by go_simp), rfl, hR, Below.refl _ _⟩⟩
                · -- 11
                  have h10 : ρ (.tmp 35) = .bool false := hd ⟨10, .data⟩ (by simp) rfl 35 rfl
                  exact .inl ⟨rfl, .inl ⟨_, u, rfl, h10, hR, Below.refl _ _⟩⟩
                · -- 12
                  have g11 : ρ (.tmp 36) = .bool false := hd ⟨11, .guard⟩ (by simp) rfl 36 rfl
                  exact .inr ⟨(by show (match ρ (.tmp 36) with | .bool b => b == true | _ => false) = false; rw [g11]; rfl), rfl⟩
                · -- 13
                  have g11 : ρ (.tmp 36) = .bool false := hd ⟨11, .guard⟩ (by simp) rfl 36 rfl
                  exact .inr ⟨(by show (match ρ (.tmp 36) with | .bool b => b == true | _ => false) = false; rw [g11]; rfl), rfl⟩
                · -- 14
                  have g11 : ρ (.tmp 36) = .bool false := hd ⟨11, .guard⟩ (by simp) rfl 36 rfl
                  exact .inr ⟨(by show (match ρ (.tmp 36) with | .bool b => b == true | _ => false) = false; rw [g11]; rfl), rfl⟩
                · -- 15
                  have g11 : ρ (.tmp 36) = .bool false := hd ⟨11, .guard⟩ (by simp) rfl 36 rfl
                  exact .inr ⟨(by show (match ρ (.tmp 36) with | .bool b => b == true | _ => false) = false; rw [g11]; rfl), rfl⟩
                · -- 16
                  have g11 : ρ (.tmp 36) = .bool false := hd ⟨11, .guard⟩ (by simp) rfl 36 rfl
                  exact .inr ⟨(by show (match ρ (.tmp 36) with | .bool b => b == true | _ => false) = false; rw [g11]; rfl), rfl⟩
                · -- 17
                  have g11 : ρ (.tmp 36) = .bool false := hd ⟨11, .guard⟩ (by simp) rfl 36 rfl
                  exact .inr ⟨(by show (match ρ (.tmp 36) with | .bool b => b == true | _ => false) = false; rw [g11]; rfl), rfl⟩
                · -- 18
                  have g11 : ρ (.tmp 36) = .bool false := hd ⟨11, .guard⟩ (by simp) rfl 36 rfl
                  exact .inr ⟨(by show (match ρ (.tmp 36) with | .bool b => b == true | _ => false) = false; rw [g11]; rfl), rfl⟩
                · -- 19
                  have g11 : ρ (.tmp 36) = .bool false := hd ⟨11, .guard⟩ (by simp) rfl 36 rfl
                  exact .inr ⟨(by show (match ρ (.tmp 36) with | .bool b => b == true | _ => false) = false; rw [g11]; rfl), rfl⟩
                · -- 20
                  have g11 : ρ (.tmp 36) = .bool false := hd ⟨11, .guard⟩ (by simp) rfl 36 rfl
                  exact .inr ⟨(by show (match ρ (.tmp 36) with | .bool b => b == true | _ => false) = false; rw [g11]; rfl), rfl⟩
                · -- 21
                  have g11 : ρ (.tmp 36) = .bool false := hd ⟨11, .guard⟩ (by simp) rfl 36 rfl
                  exact .inr ⟨(by show (match ρ (.tmp 36) with | .bool b => b == true | _ => false) = false; rw [g11]; rfl), rfl⟩
                · -- 22
                  have g11 : ρ (.tmp 36) = .bool false := hd ⟨11, .guard⟩ (by simp) rfl 36 rfl
                  exact .inr ⟨(by show (match ρ (.tmp 36) with | .bool b => b == true | _ => false) = false; rw [g11]; rfl), rfl⟩
                · -- 23
                  have h11 : ρ (.tmp 36) = .bool false := hd ⟨11, .data⟩ (by simp) rfl 36 rfl
                  exact .inl ⟨rfl, .inl ⟨_, u, run_pick_op rfl h11, (by simpa using hc _), hR, Below.refl _ _⟩⟩
                · -- 24
                  have h23 : ρ (.tmp 48) = .bool false := hd ⟨23, .data⟩ (by simp) rfl 48 rfl
                  exact .inl ⟨rfl, .inl ⟨_, u, rfl, h23, hR, Below.refl _ _⟩⟩
                · -- 25
                  have g24 : ρ (.tmp 49) = .bool false := hd ⟨24, .guard⟩ (by simp) rfl 49 rfl
                  exact .inr ⟨(by show (match ρ (.tmp 49) with | .bool b => b == true | _ => false) = false; rw [g24]; rfl), rfl⟩
                · -- 26
                  have g24 : ρ (.tmp 49) = .bool false := hd ⟨24, .guard⟩ (by simp) rfl 49 rfl
                  exact .inr ⟨(by show (match ρ (.tmp 49) with | .bool b => b == true | _ => false) = false; rw [g24]; rfl), rfl⟩
                · -- 27
                  have g24 : ρ (.tmp 49) = .bool false := hd ⟨24, .guard⟩ (by simp) rfl 49 rfl
                  exact .inr ⟨(by show (match ρ (.tmp 49) with | .bool b => b == true | _ => false) = false; rw [g24]; rfl), rfl⟩
                · -- 28
                  have g24 : ρ (.tmp 49) = .bool false := hd ⟨24, .guard⟩ (by simp) rfl 49 rfl
                  exact .inr ⟨(by show (match ρ (.tmp 49) with | .bool b => b == true | _ => false) = false; rw [g24]; rfl), rfl⟩
                · -- 29
                  have g24 : ρ (.tmp 49) = .bool false := hd ⟨24, .guard⟩ (by simp) rfl 49 rfl
                  exact .inr ⟨(by show (match ρ (.tmp 49) with | .bool b => b == true | _ => false) = false; rw [g24]; rfl), rfl⟩
                · -- 30
                  have g24 : ρ (.tmp 49) = .bool false := hd ⟨24, .guard⟩ (by simp) rfl 49 rfl
                  exact .inr ⟨(by show (match ρ (.tmp 49) with | .bool b => b == true | _ => false) = false; rw [g24]; rfl), rfl⟩
                · -- 31
                  have g24 : ρ (.tmp 49) = .bool false := hd ⟨24, .guard⟩ (by simp) rfl 49 rfl
                  exact .inr ⟨(by show (match ρ (.tmp 49) with | .bool b => b == true | _ => false) = false; rw [g24]; rfl), rfl⟩
                · -- 32
                  have g24 : ρ (.tmp 49) = .bool false := hd ⟨24, .guard⟩ (by simp) rfl 49 rfl
                  exact .inr ⟨(by show (match ρ (.tmp 49) with | .bool b => b == true | _ => false) = false; rw [g24]; rfl), rfl⟩
                · -- 33
                  have g24 : ρ (.tmp 49) = .bool false := hd ⟨24, .guard⟩ (by simp) rfl 49 rfl
                  exact .inr ⟨(by show (match ρ (.tmp 49) with | .bool b => b == true | _ => false) = false; rw [g24]; rfl), rfl⟩
                · -- 34
                  have g24 : ρ (.tmp 49) = .bool false := hd ⟨24, .guard⟩ (by simp) rfl 49 rfl
                  exact .inr ⟨(by show (match ρ (.tmp 49) with | .bool b => b == true | _ => false) = false; rw [g24]; rfl), rfl⟩
                · -- 35
                  have g24 : ρ (.tmp 49) = .bool false := hd ⟨24, .guard⟩ (by simp) rfl 49 rfl
                  exact .inr ⟨(by show (match ρ (.tmp 49) with | .bool b => b == true | _ => false) = false; rw [g24]; rfl), rfl⟩
                · -- 36
                  have h24 : ρ (.tmp 49) = .bool false := hd ⟨24, .data⟩ (by simp) rfl 49 rfl
                  exact .inl ⟨rfl, .inl ⟨_, u, run_pick_op rfl h24, (by simpa using hc _), hR, Below.refl _ _⟩⟩
                · -- 37
                  have h36 : ρ (.tmp 61) = .bool false := hd ⟨36, .data⟩ (by simp) rfl 61 rfl
                  exact .inl ⟨rfl, .inl ⟨_, u, rfl, h36, hR, Below.refl _ _⟩⟩
                · -- 38
                  have g37 : ρ (.tmp 62) = .bool false := hd ⟨37, .guard⟩ (by simp) rfl 62 rfl
                  exact .inr ⟨(by show (match ρ (.tmp 62) with | .bool b => b == true | _ => false) = false; rw [g37]; rfl), rfl⟩
                · -- 39
                  have g37 : ρ (.tmp 62) = .bool false := hd ⟨37, .guard⟩ (by simp) rfl 62 rfl
                  exact .inr ⟨(by show (match ρ (.tmp 62) with | .bool b => b == true | _ => false) = false; rw [g37]; rfl), rfl⟩
                · -- 40
                  have g37 : ρ (.tmp 62) = .bool false := hd ⟨37, .guard⟩ (by simp) rfl 62 rfl
                  exact .inr ⟨(by show (match ρ (.tmp 62) with | .bool b => b == true | _ => false) = false; rw [g37]; rfl), rfl⟩
                · -- 41
                  have g37 : ρ (.tmp 62) = .bool false := hd ⟨37, .guard⟩ (by simp) rfl 62 rfl
                  exact .inr ⟨(by show (match ρ (.tmp 62) with | .bool b => b == true | _ => false) = false; rw [g37]; rfl), rfl⟩
                · -- 42
                  have g37 : ρ (.tmp 62) = .bool false := hd ⟨37, .guard⟩ (by simp) rfl 62 rfl
                  exact .inr ⟨(by show (match ρ (.tmp 62) with | .bool b => b == true | _ => false) = false; rw [g37]; rfl), rfl⟩
                · -- 43
                  have g37 : ρ (.tmp 62) = .bool false := hd ⟨37, .guard⟩ (by simp) rfl 62 rfl
                  exact .inr ⟨(by show (match ρ (.tmp 62) with | .bool b => b == true | _ => false) = false; rw [g37]; rfl), rfl⟩
                · -- 44
                  have g37 : ρ (.tmp 62) = .bool false := hd ⟨37, .guard⟩ (by simp) rfl 62 rfl
                  exact .inr ⟨(by show (match ρ (.tmp 62) with | .bool b => b == true | _ => false) = false; rw [g37]; rfl), rfl⟩
                · -- 45
                  have g37 : ρ (.tmp 62) = .bool false := hd ⟨37, .guard⟩ (by simp) rfl 62 rfl
                  exact .inr ⟨(by show (match ρ (.tmp 62) with | .bool b => b == true | _ => false) = false; rw [g37]; rfl), rfl⟩
                · -- 46
                  have g37 : ρ (.tmp 62) = .bool false := hd ⟨37, .guard⟩ (by simp) rfl 62 rfl
                  exact .inr ⟨(by show (match ρ (.tmp 62) with | .bool b => b == true | _ => false) = false; rw [g37]; rfl), rfl⟩
                · -- 47
                  have g37 : ρ (.tmp 62) = .bool false := hd ⟨37, .guard⟩ (by simp) rfl 62 rfl
                  exact .inr ⟨(by show (match ρ (.tmp 62) with | .bool b => b == true | _ => false) = false; rw [g37]; rfl), rfl⟩
                · -- 48
                  have g37 : ρ (.tmp 62) = .bool false := hd ⟨37, .guard⟩ (by simp) rfl 62 rfl
                  exact .inr ⟨(by show (match ρ (.tmp 62) with | .bool b => b == true | _ => false) = false; rw [g37]; rfl), rfl⟩
                · -- 49
                  have h37 : ρ (.tmp 62) = .bool false := hd ⟨37, .data⟩ (by simp) rfl 62 rfl
                  exact .inl ⟨rfl, .inl ⟨_, u, run_pick_op rfl h37, (by simpa using hc _), hR, Below.refl _ _⟩⟩
            have d0 : ((f y).u == (f z).u) = true := by simpa using h0
            by_cases h1 : (f y).s = (f z).s
            case neg =>
              have d1 : ((f y).s == (f z).s) = false := by simpa using h1
              go_wp2
              refine wp_region_any (by kernel_rfl) ?_
              refine wpAny_vals (fun u => Below wr.heap.size wr u) (fun i v u => match i with
                | 0 => v = .slice (some ⟨bb, off, none⟩) n cap
                | 1 => v = .int .i64 (y : Int)
                | 2 => v = .pointer (some ⟨bb, off + y * 7, none⟩)
                | 3 => v = .pointer (some ⟨bb, off + y * 7, none⟩)
                | 4 => v = .int .i64 (f y).u
                | 5 => v = .slice (some ⟨bb, off, none⟩) n cap
                | 6 => v = .int .i64 (z : Int)
                | 7 => v = .pointer (some ⟨bb, off + z * 7, none⟩)
                | 8 => v = .pointer (some ⟨bb, off + z * 7, none⟩)
                | 9 => v = .int .i64 (f z).u
                | 10 => v = .bool true
                | 11 => v = .bool true
                | 12 => v = .slice (some ⟨bb, off, none⟩) n cap
                | 13 => v = .int .i64 (y : Int)
                | 14 => v = .pointer (some ⟨bb, off + y * 7, none⟩)
                | 15 => v = .pointer (some ⟨bb, off + y * 7 + 1, none⟩)
                | 16 => v = .int .i64 (f y).s
                | 17 => v = .slice (some ⟨bb, off, none⟩) n cap
                | 18 => v = .int .i64 (z : Int)
                | 19 => v = .pointer (some ⟨bb, off + z * 7, none⟩)
                | 20 => v = .pointer (some ⟨bb, off + z * 7 + 1, none⟩)
                | 21 => v = .int .i64 (f z).s
                | 22 => v = .bool false
                | 23 => v = .bool false
                | 24 => v = .bool false
                | 25 => v = undef
                | 26 => v = undef
                | 27 => v = undef
                | 28 => v = undef
                | 29 => v = undef
                | 30 => v = undef
                | 31 => v = undef
                | 32 => v = undef
                | 33 => v = undef
                | 34 => v = undef
                | 35 => v = undef
                | 36 => v = .bool false
                | 37 => v = .bool false
                | 38 => v = undef
                | 39 => v = undef
                | 40 => v = undef
                | 41 => v = undef
                | 42 => v = undef
                | 43 => v = undef
                | 44 => v = undef
                | 45 => v = undef
                | 46 => v = undef
                | 47 => v = undef
                | 48 => v = undef
                | 49 => v = .bool false
                | _ => True) (by kernel_rfl) (by kernel_rfl) (fun _ _ _ _ h _ => h) (Below.refl _ _).drew ?_ ?_ _ _ rfl (by decide) (fun i => by simp [Array.getD]; try (split <;> rfl))
              · intro vs u hR hall
                have e16 : vs 49 = .bool false := hall 49 (by simp)
                simp only [putsL]
                rw [e16]
                clear hall e16
                have BX := bel_next hbl hR
                clear hR CE hbl
                go_simp
                go_wp2
                go_roundw
                case rel => exact ⟨y + 1, by omega, by go_num, fun k hk => (by by_cases e : k = y; (subst e; exact fun h => (by unfold ovl at h; omega)); (exact HA.out k (by omega))), BX⟩
                case measure => simp [intOf]; omega
              · intro u i o ρ hR ho hρ hc hf hd
                have hi : i < 50 := by
                  have := (Array.getElem?_eq_some_iff.1 ho).1
                  simpa using this
                obtain rfl | rfl | rfl | rfl | rfl | rfl | rfl | rfl | rfl | rfl | rfl | rfl | rfl | rfl | rfl | rfl | rfl | rfl | rfl | rfl | rfl | rfl | rfl | rfl | rfl | rfl | rfl | rfl | rfl | rfl | rfl | rfl | rfl | rfl | rfl | rfl | rfl | rfl | rfl | rfl | rfl | rfl | rfl | rfl | rfl | rfl | rfl | rfl | rfl | rfl : i = 0 ∨ i = 1 ∨ i = 2 ∨ i = 3 ∨ i = 4 ∨ i = 5 ∨ i = 6 ∨ i = 7 ∨ i = 8 ∨ i = 9 ∨ i = 10 ∨ i = 11 ∨ i = 12 ∨ i = 13 ∨ i = 14 ∨ i = 15 ∨ i = 16 ∨ i = 17 ∨ i = 18 ∨ i = 19 ∨ i = 20 ∨ i = 21 ∨ i = 22 ∨ i = 23 ∨ i = 24 ∨ i = 25 ∨ i = 26 ∨ i = 27 ∨ i = 28 ∨ i = 29 ∨ i = 30 ∨ i = 31 ∨ i = 32 ∨ i = 33 ∨ i = 34 ∨ i = 35 ∨ i = 36 ∨ i = 37 ∨ i = 38 ∨ i = 39 ∨ i = 40 ∨ i = 41 ∨ i = 42 ∨ i = 43 ∨ i = 44 ∨ i = 45 ∨ i = 46 ∨ i = 47 ∨ i = 48 ∨ i = 49 := by omega
                all_goals (simp only [List.getElem?_toArray, List.getElem?_cons_zero, List.getElem?_cons_succ, Option.some.injEq] at ho; subst ho)
                · -- 0
                  have s0 : ρ (.tmp 0) = .slice (some ⟨bb, off, none⟩) n cap := (hρ 0 (by kernel_rfl)).trans rfl
                  exact .inl ⟨rfl, .inl ⟨_, u, rfl, s0, hR, Below.refl _ _⟩⟩
                · -- 1
                  have s4 : ρ (.tmp 4) = .int .i64 (y : Int) := (hρ 4 (by kernel_rfl)).trans rfl
                  exact .inl ⟨rfl, .inl ⟨_, u, rfl, s4, hR, Below.refl _ _⟩⟩
                · -- 2
                  have h0 : ρ (.tmp 25) = .slice (some ⟨bb, off, none⟩) n cap := hd ⟨0, .data⟩ (by simp) rfl 25 rfl
                  have h1 : ρ (.tmp 26) = .int .i64 (y : Int) := hd ⟨1, .data⟩ (by simp) rfl 26 rfl
                  exact .inl ⟨rfl, .inl ⟨.pointer (some ⟨bb, off + y * 7, none⟩), u, run_index_op rfl h0 h1 (by go_simp), rfl, hR, Below.refl _ _⟩⟩
                · -- 3
                  have h2 : ρ (.tmp 27) = .pointer (some ⟨bb, off + y * 7, none⟩) := hd ⟨2, .data⟩ (by simp) rfl 27 rfl
                  exact .inl ⟨rfl, .inl ⟨.pointer (some ⟨bb, off + y * 7, none⟩), u, run_field_op rfl h2 (by go_simp), rfl, hR, Below.refl _ _⟩⟩
                · -- 4
                  obtain ⟨q0, q1, q2, q3, p0, p1, p2, p3⟩ := CE.out u hR
                  have h3 : ρ (.tmp 28) = .pointer (some ⟨bb, off + y * 7, none⟩) := hd ⟨3, .data⟩ (by simp) rfl 28 rfl
                  have hr : (Instr.loadAt 3 (.pointer (some ⟨bb, off + y * 7, none⟩))).run Try.prog u = .ok (.int .i64 (f y).u) u := by go_simp
                  exact .inl ⟨rfl, .inl ⟨.int .i64 (f y).u, u, run_load_op rfl h3 hr, rfl, hR, Below.refl _ _⟩⟩
                · -- 5
                  have s0 : ρ (.tmp 0) = .slice (some ⟨bb, off, none⟩) n cap := (hρ 0 (by kernel_rfl)).trans rfl
                  exact .inl ⟨rfl, .inl ⟨_, u, rfl, s0, hR, Below.refl _ _⟩⟩
                · -- 6
                  have s3 : ρ (.tmp 3) = .int .i64 (z : Int) := (hρ 3 (by kernel_rfl)).trans rfl
                  exact .inl ⟨rfl, .inl ⟨_, u, rfl, s3, hR, Below.refl _ _⟩⟩
                · -- 7
                  have h5 : ρ (.tmp 30) = .slice (some ⟨bb, off, none⟩) n cap := hd ⟨5, .data⟩ (by simp) rfl 30 rfl
                  have h6 : ρ (.tmp 31) = .int .i64 (z : Int) := hd ⟨6, .data⟩ (by simp) rfl 31 rfl
                  exact .inl ⟨rfl, .inl ⟨.pointer (some ⟨bb, off + z * 7, none⟩), u, run_index_op rfl h5 h6 (by go_simp), rfl, hR, Below.refl _ _⟩⟩
                · -- 8
                  have h7 : ρ (.tmp 32) = .pointer (some ⟨bb, off + z * 7, none⟩) := hd ⟨7, .data⟩ (by simp) rfl 32 rfl
                  exact .inl ⟨rfl, .inl ⟨.pointer (some ⟨bb, off + z * 7, none⟩), u, run_field_op rfl h7 (by go_simp), rfl, hR, Below.refl _ _⟩⟩
                · -- 9
                  obtain ⟨q0, q1, q2, q3, p0, p1, p2, p3⟩ := CE.out u hR
                  have h8 : ρ (.tmp 33) = .pointer (some ⟨bb, off + z * 7, none⟩) := hd ⟨8, .data⟩ (by simp) rfl 33 rfl
                  have hr : (Instr.loadAt 3 (.pointer (some ⟨bb, off + z * 7, none⟩))).run Try.prog u = .ok (.int .i64 (f z).u) u := by go_simp
                  exact .inl ⟨rfl, .inl ⟨.int .i64 (f z).u, u, run_load_op rfl h8 hr, rfl, hR, Below.refl _ _⟩⟩
                · -- 10
                  have h4 : ρ (.tmp 29) = .int .i64 (f y).u := hd ⟨4, .data⟩ (by simp) rfl 29 rfl
                  have h9 : ρ (.tmp 34) = .int .i64 (f z).u := hd ⟨9, .data⟩ (by simp) rfl 34 rfl
                  exact .inl ⟨rfl, .inl ⟨.bool true, u, run_bin_op rfl h4 h9 (by go_simp), rfl, hR, Below.refl _ _⟩⟩
                · -- 11
                  have h10 : ρ (.tmp 35) = .bool true := hd ⟨10, .data⟩ (by simp) rfl 35 rfl
                  exact .inl ⟨rfl, .inl ⟨_, u, rfl, h10, hR, Below.refl _ _⟩⟩
                · -- 12
                  have g11 : ρ (.tmp 36) = .bool true := hd ⟨11, .guard⟩ (by simp) rfl 36 rfl
                  have s0 : ρ (.tmp 0) = .slice (some ⟨bb, off, none⟩) n cap := (hρ 0 (by kernel_rfl)).trans rfl
                  exact .inl ⟨(by show (match ρ (.tmp 36) with | .bool b => b == true | _ => false) = true; rw [g11]; rfl), .inl ⟨_, u, rfl, s0, hR, Below.refl _ _⟩⟩
                · -- 13
                  have g11 : ρ (.tmp 36) = .bool true := hd ⟨11, .guard⟩ (by simp) rfl 36 rfl
                  have s4 : ρ (.tmp 4) = .int .i64 (y : Int) := (hρ 4 (by kernel_rfl)).trans rfl
                  exact .inl ⟨(by show (match ρ (.tmp 36) with | .bool b => b == true | _ => false) = true; rw [g11]; rfl), .inl ⟨_, u, rfl, s4, hR, Below.refl _ _⟩⟩
                · -- 14
                  have g11 : ρ (.tmp 36) = .bool true := hd ⟨11, .guard⟩ (by simp) rfl 36 rfl
                  have h12 : ρ (.tmp 37) = .slice (some ⟨bb, off, none⟩) n cap := hd ⟨12, .data⟩ (by simp) rfl 37 rfl
                  have h13 : ρ (.tmp 38) = .int .i64 (y : Int) := hd ⟨13, .data⟩ (by simp) rfl 38 rfl
                  exact .inl ⟨(by show (match ρ (.tmp 36) with | .bool b => b == true | _ => false) = true; rw [g11]; rfl), .inl ⟨.pointer (some ⟨bb, off + y * 7, none⟩), u, run_index_op rfl h12 h13 (by go_simp), rfl, hR, Below.refl _ _⟩⟩
                · -- 15
                  have g11 : ρ (.tmp 36) = .bool true := hd ⟨11, .guard⟩ (by simp) rfl 36 rfl
                  have h14 : ρ (.tmp 39) = .pointer (some ⟨bb, off + y * 7, none⟩) := hd ⟨14, .data⟩ (by simp) rfl 39 rfl
                  exact .inl ⟨(by show (match ρ (.tmp 36) with | .bool b => b == true | _ => false) = true; rw [g11]; rfl), .inl ⟨.pointer (some ⟨bb, off + y * 7 + 1, none⟩), u, run_field_op rfl h14 (by go_simp), rfl, hR, Below.refl _ _⟩⟩
                · -- 16
                  obtain ⟨q0, q1, q2, q3, p0, p1, p2, p3⟩ := CE.out u hR
                  have g11 : ρ (.tmp 36) = .bool true := hd ⟨11, .guard⟩ (by simp) rfl 36 rfl
                  have h15 : ρ (.tmp 40) = .pointer (some ⟨bb, off + y * 7 + 1, none⟩) := hd ⟨15, .data⟩ (by simp) rfl 40 rfl
                  have hr : (Instr.loadAt 3 (.pointer (some ⟨bb, off + y * 7 + 1, none⟩))).run Try.prog u = .ok (.int .i64 (f y).s) u := by go_simp
                  exact .inl ⟨(by show (match ρ (.tmp 36) with | .bool b => b == true | _ => false) = true; rw [g11]; rfl), .inl ⟨.int .i64 (f y).s, u, run_load_op rfl h15 hr, rfl, hR, Below.refl _ _⟩⟩
                · -- 17
                  have g11 : ρ (.tmp 36) = .bool true := hd ⟨11, .guard⟩ (by simp) rfl 36 rfl
                  have s0 : ρ (.tmp 0) = .slice (some ⟨bb, off, none⟩) n cap := (hρ 0 (by kernel_rfl)).trans rfl
                  exact .inl ⟨(by show (match ρ (.tmp 36) with | .bool b => b == true | _ => false) = true; rw [g11]; rfl), .inl ⟨_, u, rfl, s0, hR, Below.refl _ _⟩⟩
                · -- 18
                  have g11 : ρ (.tmp 36) = .bool true := hd ⟨11, .guard⟩ (by simp) rfl 36 rfl
                  have s3 : ρ (.tmp 3) = .int .i64 (z : Int) := (hρ 3 (by kernel_rfl)).trans rfl
                  exact .inl ⟨(by show (match ρ (.tmp 36) with | .bool b => b == true | _ => false) = true; rw [g11]; rfl), .inl ⟨_, u, rfl, s3, hR, Below.refl _ _⟩⟩
                · -- 19
                  have g11 : ρ (.tmp 36) = .bool true := hd ⟨11, .guard⟩ (by simp) rfl 36 rfl
                  have h17 : ρ (.tmp 42) = .slice (some ⟨bb, off, none⟩) n cap := hd ⟨17, .data⟩ (by simp) rfl 42 rfl
                  have h18 : ρ (.tmp 43) = .int .i64 (z : Int) := hd ⟨18, .data⟩ (by simp) rfl 43 rfl
                  exact .inl ⟨(by show (match ρ (.tmp 36) with | .bool b => b == true | _ => false) = true; rw [g11]; rfl), .inl ⟨.pointer (some ⟨bb, off + z * 7, none⟩), u, run_index_op rfl h17 h18 (by go_simp), rfl, hR, Below.refl _ _⟩⟩
                · -- 20
                  have g11 : ρ (.tmp 36) = .bool true := hd ⟨11, .guard⟩ (by simp) rfl 36 rfl
                  have h19 : ρ (.tmp 44) = .pointer (some ⟨bb, off + z * 7, none⟩) := hd ⟨19, .data⟩ (by simp) rfl 44 rfl
                  exact .inl ⟨(by show (match ρ (.tmp 36) with | .bool b => b == true | _ => false) = true; rw [g11]; rfl), .inl ⟨.pointer (some ⟨bb, off + z * 7 + 1, none⟩), u, run_field_op rfl h19 (by go_simp), rfl, hR, Below.refl _ _⟩⟩
                · -- 21
                  obtain ⟨q0, q1, q2, q3, p0, p1, p2, p3⟩ := CE.out u hR
                  have g11 : ρ (.tmp 36) = .bool true := hd ⟨11, .guard⟩ (by simp) rfl 36 rfl
                  have h20 : ρ (.tmp 45) = .pointer (some ⟨bb, off + z * 7 + 1, none⟩) := hd ⟨20, .data⟩ (by simp) rfl 45 rfl
                  have hr : (Instr.loadAt 3 (.pointer (some ⟨bb, off + z * 7 + 1, none⟩))).run Try.prog u = .ok (.int .i64 (f z).s) u := by go_simp
                  exact .inl ⟨(by show (match ρ (.tmp 36) with | .bool b => b == true | _ => false) = true; rw [g11]; rfl), .inl ⟨.int .i64 (f z).s, u, run_load_op rfl h20 hr, rfl, hR, Below.refl _ _⟩⟩
                · -- 22
                  have g11 : ρ (.tmp 36) = .bool true := hd ⟨11, .guard⟩ (by simp) rfl 36 rfl
                  have h16 : ρ (.tmp 41) = .int .i64 (f y).s := hd ⟨16, .data⟩ (by simp) rfl 41 rfl
                  have h21 : ρ (.tmp 46) = .int .i64 (f z).s := hd ⟨21, .data⟩ (by simp) rfl 46 rfl
                  exact .inl ⟨(by show (match ρ (.tmp 36) with | .bool b => b == true | _ => false) = true; rw [g11]; rfl), .inl ⟨.bool false, u, run_bin_op rfl h16 h21 (by go_simp), rfl, hR, Below.refl _ _⟩⟩
                · -- 23
                  have h11 : ρ (.tmp 36) = .bool true := hd ⟨11, .data⟩ (by simp) rfl 36 rfl
                  have h22 : ρ (.tmp 47) = .bool false := hd ⟨22, .data⟩ (by simp) rfl 47 rfl
                  exact .inl ⟨rfl, .inl ⟨_, u, run_pick_op rfl h11, (by simpa using h22), hR, Below.refl _ _⟩⟩
                · -- 24
                  have h23 : ρ (.tmp 48) = .bool false := hd ⟨23, .data⟩ (by simp) rfl 48 rfl
                  exact .inl ⟨rfl, .inl ⟨_, u, rfl, h23, hR, Below.refl _ _⟩⟩
                · -- 25
                  have g24 : ρ (.tmp 49) = .bool false := hd ⟨24, .guard⟩ (by simp) rfl 49 rfl
                  exact .inr ⟨(by show (match ρ (.tmp 49) with | .bool b => b == true | _ => false) = false; rw [g24]; rfl), rfl⟩
                · -- 26
                  have g24 : ρ (.tmp 49) = .bool false := hd ⟨24, .guard⟩ (by simp) rfl 49 rfl
                  exact .inr ⟨(by show (match ρ (.tmp 49) with | .bool b => b == true | _ => false) = false; rw [g24]; rfl), rfl⟩
                · -- 27
                  have g24 : ρ (.tmp 49) = .bool false := hd ⟨24, .guard⟩ (by simp) rfl 49 rfl
                  exact .inr ⟨(by show (match ρ (.tmp 49) with | .bool b => b == true | _ => false) = false; rw [g24]; rfl), rfl⟩
                · -- 28
                  have g24 : ρ (.tmp 49) = .bool false := hd ⟨24, .guard⟩ (by simp) rfl 49 rfl
                  exact .inr ⟨(by show (match ρ (.tmp 49) with | .bool b => b == true | _ => false) = false; rw [g24]; rfl), rfl⟩
                · -- 29
                  have g24 : ρ (.tmp 49) = .bool false := hd ⟨24, .guard⟩ (by simp) rfl 49 rfl
                  exact .inr ⟨(by show (match ρ (.tmp 49) with | .bool b => b == true | _ => false) = false; rw [g24]; rfl), rfl⟩
                · -- 30
                  have g24 : ρ (.tmp 49) = .bool false := hd ⟨24, .guard⟩ (by simp) rfl 49 rfl
                  exact .inr ⟨(by show (match ρ (.tmp 49) with | .bool b => b == true | _ => false) = false; rw [g24]; rfl), rfl⟩
                · -- 31
                  have g24 : ρ (.tmp 49) = .bool false := hd ⟨24, .guard⟩ (by simp) rfl 49 rfl
                  exact .inr ⟨(by show (match ρ (.tmp 49) with | .bool b => b == true | _ => false) = false; rw [g24]; rfl), rfl⟩
                · -- 32
                  have g24 : ρ (.tmp 49) = .bool false := hd ⟨24, .guard⟩ (by simp) rfl 49 rfl
                  exact .inr ⟨(by show (match ρ (.tmp 49) with | .bool b => b == true | _ => false) = false; rw [g24]; rfl), rfl⟩
                · -- 33
                  have g24 : ρ (.tmp 49) = .bool false := hd ⟨24, .guard⟩ (by simp) rfl 49 rfl
                  exact .inr ⟨(by show (match ρ (.tmp 49) with | .bool b => b == true | _ => false) = false; rw [g24]; rfl), rfl⟩
                · -- 34
                  have g24 : ρ (.tmp 49) = .bool false := hd ⟨24, .guard⟩ (by simp) rfl 49 rfl
                  exact .inr ⟨(by show (match ρ (.tmp 49) with | .bool b => b == true | _ => false) = false; rw [g24]; rfl), rfl⟩
                · -- 35
                  have g24 : ρ (.tmp 49) = .bool false := hd ⟨24, .guard⟩ (by simp) rfl 49 rfl
                  exact .inr ⟨(by show (match ρ (.tmp 49) with | .bool b => b == true | _ => false) = false; rw [g24]; rfl), rfl⟩
                · -- 36
                  have h24 : ρ (.tmp 49) = .bool false := hd ⟨24, .data⟩ (by simp) rfl 49 rfl
                  exact .inl ⟨rfl, .inl ⟨_, u, run_pick_op rfl h24, (by simpa using hc _), hR, Below.refl _ _⟩⟩
                · -- 37
                  have h36 : ρ (.tmp 61) = .bool false := hd ⟨36, .data⟩ (by simp) rfl 61 rfl
                  exact .inl ⟨rfl, .inl ⟨_, u, rfl, h36, hR, Below.refl _ _⟩⟩
                · -- 38
                  have g37 : ρ (.tmp 62) = .bool false := hd ⟨37, .guard⟩ (by simp) rfl 62 rfl
                  exact .inr ⟨(by show (match ρ (.tmp 62) with | .bool b => b == true | _ => false) = false; rw [g37]; rfl), rfl⟩
                · -- 39
                  have g37 : ρ (.tmp 62) = .bool false := hd ⟨37, .guard⟩ (by simp) rfl 62 rfl
                  exact .inr ⟨(by show (match ρ (.tmp 62) with | .bool b => b == true | _ => false) = false; rw [g37]; rfl), rfl⟩
                · -- 40
                  have g37 : ρ (.tmp 62) = .bool false := hd ⟨37, .guard⟩ (by simp) rfl 62 rfl
                  exact .inr ⟨(by show (match ρ (.tmp 62) with | .bool b => b == true | _ => false) = false; rw [g37]; rfl), rfl⟩
                · -- 41
                  have g37 : ρ (.tmp 62) = .bool false := hd ⟨37, .guard⟩ (by simp) rfl 62 rfl
                  exact .inr ⟨(by show (match ρ (.tmp 62) with | .bool b => b == true | _ => false) = false; rw [g37]; rfl), rfl⟩
                · -- 42
                  have g37 : ρ (.tmp 62) = .bool false := hd ⟨37, .guard⟩ (by simp) rfl 62 rfl
                  exact .inr ⟨(by show (match ρ (.tmp 62) with | .bool b => b == true | _ => false) = false; rw [g37]; rfl), rfl⟩
                · -- 43
                  have g37 : ρ (.tmp 62) = .bool false := hd ⟨37, .guard⟩ (by simp) rfl 62 rfl
                  exact .inr ⟨(by show (match ρ (.tmp 62) with | .bool b => b == true | _ => false) = false; rw [g37]; rfl), rfl⟩
                · -- 44
                  have g37 : ρ (.tmp 62) = .bool false := hd ⟨37, .guard⟩ (by simp) rfl 62 rfl
                  exact .inr ⟨(by show (match ρ (.tmp 62) with | .bool b => b == true | _ => false) = false; rw [g37]; rfl), rfl⟩
                · -- 45
                  have g37 : ρ (.tmp 62) = .bool false := hd ⟨37, .guard⟩ (by simp) rfl 62 rfl
                  exact .inr ⟨(by show (match ρ (.tmp 62) with | .bool b => b == true | _ => false) = false; rw [g37]; rfl), rfl⟩
                · -- 46
                  have g37 : ρ (.tmp 62) = .bool false := hd ⟨37, .guard⟩ (by simp) rfl 62 rfl
                  exact .inr ⟨(by show (match ρ (.tmp 62) with | .bool b => b == true | _ => false) = false; rw [g37]; rfl), rfl⟩
                · -- 47
                  have g37 : ρ (.tmp 62) = .bool false := hd ⟨37, .guard⟩ (by simp) rfl 62 rfl
                  exact .inr ⟨(by show (match ρ (.tmp 62) with | .bool b => b == true | _ => false) = false; rw [g37]; rfl), rfl⟩
                · -- 48
                  have g37 : ρ (.tmp 62) = .bool false := hd ⟨37, .guard⟩ (by simp) rfl 62 rfl
                  exact .inr ⟨(by show (match ρ (.tmp 62) with | .bool b => b == true | _ => false) = false; rw [g37]; rfl), rfl⟩
                · -- 49
                  have h37 : ρ (.tmp 62) = .bool false := hd ⟨37, .data⟩ (by simp) rfl 62 rfl
                  exact .inl ⟨rfl, .inl ⟨_, u, run_pick_op rfl h37, (by simpa using hc _), hR, Below.refl _ _⟩⟩
            have d1 : ((f y).s == (f z).s) = true := by simpa using h1
            by_cases h2 : (f y).lo ≤ (f z).hi
            case neg =>
              go_wp2
              refine wp_region_any (by kernel_rfl) ?_
              refine wpAny_vals (fun u => Below wr.heap.size wr u) (fun i v u => match i with
                | 0 => v = .slice (some ⟨bb, off, none⟩) n cap
                | 1 => v = .int .i64 (y : Int)
                | 2 => v = .pointer (some ⟨bb, off + y * 7, none⟩)
                | 3 => v = .pointer (some ⟨bb, off + y * 7, none⟩)
                | 4 => v = .int .i64 (f y).u
                | 5 => v = .slice (some ⟨bb, off, none⟩) n cap
                | 6 => v = .int .i64 (z : Int)
                | 7 => v = .pointer (some ⟨bb, off + z * 7, none⟩)
                | 8 => v = .pointer (some ⟨bb, off + z * 7, none⟩)
                | 9 => v = .int .i64 (f z).u
                | 10 => v = .bool true
                | 11 => v = .bool true
                | 12 => v = .slice (some ⟨bb, off, none⟩) n cap
                | 13 => v = .int .i64 (y : Int)
                | 14 => v = .pointer (some ⟨bb, off + y * 7, none⟩)
                | 15 => v = .pointer (some ⟨bb, off + y * 7 + 1, none⟩)
                | 16 => v = .int .i64 (f y).s
                | 17 => v = .slice (some ⟨bb, off, none⟩) n cap
                | 18 => v = .int .i64 (z : Int)
                | 19 => v = .pointer (some ⟨bb, off + z * 7, none⟩)
                | 20 => v = .pointer (some ⟨bb, off + z * 7 + 1, none⟩)
                | 21 => v = .int .i64 (f z).s
                | 22 => v = .bool true
                | 23 => v = .bool true
                | 24 => v = .bool true
                | 25 => v = .slice (some ⟨bb, off, none⟩) n cap
                | 26 => v = .int .i64 (y : Int)
                | 27 => v = .pointer (some ⟨bb, off + y * 7, none⟩)
                | 28 => v = .pointer (some ⟨bb, off + y * 7 + 2, none⟩)
                | 29 => v = .int .i64 (f y).lo
                | 30 => v = .slice (some ⟨bb, off, none⟩) n cap
                | 31 => v = .int .i64 (z : Int)
                | 32 => v = .pointer (some ⟨bb, off + z * 7, none⟩)
                | 33 => v = .pointer (some ⟨bb, off + z * 7 + 3, none⟩)
                | 34 => v = .int .i64 (f z).hi
                | 35 => v = .bool false
                | 36 => v = .bool false
                | 37 => v = .bool false
                | 38 => v = undef
                | 39 => v = undef
                | 40 => v = undef
                | 41 => v = undef
                | 42 => v = undef
                | 43 => v = undef
                | 44 => v = undef
                | 45 => v = undef
                | 46 => v = undef
                | 47 => v = undef
                | 48 => v = undef
                | 49 => v = .bool false
                | _ => True) (by kernel_rfl) (by kernel_rfl) (fun _ _ _ _ h _ => h) (Below.refl _ _).drew ?_ ?_ _ _ rfl (by decide) (fun i => by simp [Array.getD]; try (split <;> rfl))
              · intro vs u hR hall
                have e16 : vs 49 = .bool false := hall 49 (by simp)
                simp only [putsL]
                rw [e16]
                clear hall e16
                have BX := bel_next hbl hR
                clear hR CE hbl
                go_simp
                go_wp2
                go_roundw
                case rel => exact ⟨y + 1, by omega, by go_num, fun k hk => (by by_cases e : k = y; (subst e; exact fun h => (by unfold ovl at h; omega)); (exact HA.out k (by omega))), BX⟩
                case measure => simp [intOf]; omega
              · intro u i o ρ hR ho hρ hc hf hd
                have hi : i < 50 := by
                  have := (Array.getElem?_eq_some_iff.1 ho).1
                  simpa using this
                obtain rfl | rfl | rfl | rfl | rfl | rfl | rfl | rfl | rfl | rfl | rfl | rfl | rfl | rfl | rfl | rfl | rfl | rfl | rfl | rfl | rfl | rfl | rfl | rfl | rfl | rfl | rfl | rfl | rfl | rfl | rfl | rfl | rfl | rfl | rfl | rfl | rfl | rfl | rfl | rfl | rfl | rfl | rfl | rfl | rfl | rfl | rfl | rfl | rfl | rfl : i = 0 ∨ i = 1 ∨ i = 2 ∨ i = 3 ∨ i = 4 ∨ i = 5 ∨ i = 6 ∨ i = 7 ∨ i = 8 ∨ i = 9 ∨ i = 10 ∨ i = 11 ∨ i = 12 ∨ i = 13 ∨ i = 14 ∨ i = 15 ∨ i = 16 ∨ i = 17 ∨ i = 18 ∨ i = 19 ∨ i = 20 ∨ i = 21 ∨ i = 22 ∨ i = 23 ∨ i = 24 ∨ i = 25 ∨ i = 26 ∨ i = 27 ∨ i = 28 ∨ i = 29 ∨ i = 30 ∨ i = 31 ∨ i = 32 ∨ i = 33 ∨ i = 34 ∨ i = 35 ∨ i = 36 ∨ i = 37 ∨ i = 38 ∨ i = 39 ∨ i = 40 ∨ i = 41 ∨ i = 42 ∨ i = 43 ∨ i = 44 ∨ i = 45 ∨ i = 46 ∨ i = 47 ∨ i = 48 ∨ i = 49 := by omega
                all_goals (simp only [List.getElem?_toArray, List.getElem?_cons_zero, List.getElem?_cons_succ, Option.some.injEq] at ho; subst ho)
                · -- 0
                  have s0 : ρ (.tmp 0) = .slice (some ⟨bb, off, none⟩) n cap := (hρ 0 (by kernel_rfl)).trans rfl
                  exact .inl ⟨rfl, .inl ⟨_, u, rfl, s0, hR, Below.refl _ _⟩⟩
                · -- 1
                  have s4 : ρ (.tmp 4) = .int .i64 (y : Int) := (hρ 4 (by kernel_rfl)).trans rfl
                  exact .inl ⟨rfl, .inl ⟨_, u, rfl, s4, hR, Below.refl _ _⟩⟩
                · -- 2
                  have h0 : ρ (.tmp 25) = .slice (some ⟨bb, off, none⟩) n cap := hd ⟨0, .data⟩ (by simp) rfl 25 rfl
                  have h1 : ρ (.tmp 26) = .int .i64 (y : Int) := hd ⟨1, .data⟩ (by simp) rfl 26 rfl
                  exact .inl ⟨rfl, .inl ⟨.pointer (some ⟨bb, off + y * 7, none⟩), u, run_index_op rfl h0 h1 (by go_simp), rfl, hR, Below.refl _ _⟩⟩
                · -- 3
                  have h2 : ρ (.tmp 27) = .pointer (some ⟨bb, off + y * 7, none⟩) := hd ⟨2, .data⟩ (by simp) rfl 27 rfl
                  exact .inl ⟨rfl, .inl ⟨.pointer (some ⟨bb, off + y * 7, none⟩), u, run_field_op rfl h2 (by go_simp), rfl, hR, Below.refl _ _⟩⟩
                · -- 4
                  obtain ⟨q0, q1, q2, q3, p0, p1, p2, p3⟩ := CE.out u hR
                  have h3 : ρ (.tmp 28) = .pointer (some ⟨bb, off + y * 7, none⟩) := hd ⟨3, .data⟩ (by simp) rfl 28 rfl
                  have hr : (Instr.loadAt 3 (.pointer (some ⟨bb, off + y * 7, none⟩))).run Try.prog u = .ok (.int .i64 (f y).u) u := by go_simp
                  exact .inl ⟨rfl, .inl ⟨.int .i64 (f y).u, u, run_load_op rfl h3 hr, rfl, hR, Below.refl _ _⟩⟩
                · -- 5
                  have s0 : ρ (.tmp 0) = .slice (some ⟨bb, off, none⟩) n cap := (hρ 0 (by kernel_rfl)).trans rfl
                  exact .inl ⟨rfl, .inl ⟨_, u, rfl, s0, hR, Below.refl _ _⟩⟩
                · -- 6
                  have s3 : ρ (.tmp 3) = .int .i64 (z : Int) := (hρ 3 (by kernel_rfl)).trans rfl
                  exact .inl ⟨rfl, .inl ⟨_, u, rfl, s3, hR, Below.refl _ _⟩⟩
                · -- 7
                  have h5 : ρ (.tmp 30) = .slice (some ⟨bb, off, none⟩) n cap := hd ⟨5, .data⟩ (by simp) rfl 30 rfl
                  have h6 : ρ (.tmp 31) = .int .i64 (z : Int) := hd ⟨6, .data⟩ (by simp) rfl 31 rfl
                  exact .inl ⟨rfl, .inl ⟨.pointer (some ⟨bb, off + z * 7, none⟩), u, run_index_op rfl h5 h6 (by go_simp), rfl, hR, Below.refl _ _⟩⟩
                · -- 8
                  have h7 : ρ (.tmp 32) = .pointer (some ⟨bb, off + z * 7, none⟩) := hd ⟨7, .data⟩ (by simp) rfl 32 rfl
                  exact .inl ⟨rfl, .inl ⟨.pointer (some ⟨bb, off + z * 7, none⟩), u, run_field_op rfl h7 (by go_simp), rfl, hR, Below.refl _ _⟩⟩
                · -- 9
                  obtain ⟨q0, q1, q2, q3, p0, p1, p2, p3⟩ := CE.out u hR
                  have h8 : ρ (.tmp 33) = .pointer (some ⟨bb, off + z * 7, none⟩) := hd ⟨8, .data⟩ (by simp) rfl 33 rfl
                  have hr : (Instr.loadAt 3 (.pointer (some ⟨bb, off + z * 7, none⟩))).run Try.prog u = .ok (.int .i64 (f z).u) u := by go_simp
                  exact .inl ⟨rfl, .inl ⟨.int .i64 (f z).u, u, run_load_op rfl h8 hr, rfl, hR, Below.refl _ _⟩⟩
                · -- 10
                  have h4 : ρ (.tmp 29) = .int .i64 (f y).u := hd ⟨4, .data⟩ (by simp) rfl 29 rfl
                  have h9 : ρ (.tmp 34) = .int .i64 (f z).u := hd ⟨9, .data⟩ (by simp) rfl 34 rfl
                  exact .inl ⟨rfl, .inl ⟨.bool true, u, run_bin_op rfl h4 h9 (by go_simp), rfl, hR, Below.refl _ _⟩⟩
                · -- 11
                  have h10 : ρ (.tmp 35) = .bool true := hd ⟨10, .data⟩ (by simp) rfl 35 rfl
                  exact .inl ⟨rfl, .inl ⟨_, u, rfl, h10, hR, Below.refl _ _⟩⟩
                · -- 12
                  have g11 : ρ (.tmp 36) = .bool true := hd ⟨11, .guard⟩ (by simp) rfl 36 rfl
                  have s0 : ρ (.tmp 0) = .slice (some ⟨bb, off, none⟩) n cap := (hρ 0 (by kernel_rfl)).trans rfl
                  exact .inl ⟨(by show (match ρ (.tmp 36) with | .bool b => b == true | _ => false) = true; rw [g11]; rfl), .inl ⟨_, u, rfl, s0, hR, Below.refl _ _⟩⟩
                · -- 13
                  have g11 : ρ (.tmp 36) = .bool true := hd ⟨11, .guard⟩ (by simp) rfl 36 rfl
                  have s4 : ρ (.tmp 4) = .int .i64 (y : Int) := (hρ 4 (by kernel_rfl)).trans rfl
                  exact .inl ⟨(by show (match ρ (.tmp 36) with | .bool b => b == true | _ => false) = true; rw [g11]; rfl), .inl ⟨_, u, rfl, s4, hR, Below.refl _ _⟩⟩
                · -- 14
                  have g11 : ρ (.tmp 36) = .bool true := hd ⟨11, .guard⟩ (by simp) rfl 36 rfl
                  have h12 : ρ (.tmp 37) = .slice (some ⟨bb, off, none⟩) n cap := hd ⟨12, .data⟩ (by simp) rfl 37 rfl
                  have h13 : ρ (.tmp 38) = .int .i64 (y : Int) := hd ⟨13, .data⟩ (by simp) rfl 38 rfl
                  exact .inl ⟨(by show (match ρ (.tmp 36) with | .bool b => b == true | _ => false) = true; rw [g11]; rfl), .inl ⟨.pointer (some ⟨bb, off + y * 7, none⟩), u, run_index_op rfl h12 h13 (by go_simp), rfl, hR, Below.refl _ _⟩⟩
                · -- 15
                  have g11 : ρ (.tmp 36) = .bool true := hd ⟨11, .guard⟩ (by simp) rfl 36 rfl
                  have h14 : ρ (.tmp 39) = .pointer (some ⟨bb, off + y * 7, none⟩) := hd ⟨14, .data⟩ (by simp) rfl 39 rfl
                  exact .inl ⟨(by show (match ρ (.tmp 36) with | .bool b => b == true | _ => false) = true; rw [g11]; rfl), .inl ⟨.pointer (some ⟨bb, off + y * 7 + 1, none⟩), u, run_field_op rfl h14 (by go_simp), rfl, hR, Below.refl _ _⟩⟩
                · -- 16
                  obtain ⟨q0, q1, q2, q3, p0, p1, p2, p3⟩ := CE.out u hR
                  have g11 : ρ (.tmp 36) = .bool true := hd ⟨11, .guard⟩ (by simp) rfl 36 rfl
                  have h15 : ρ (.tmp 40) = .pointer (some ⟨bb, off + y * 7 + 1, none⟩) := hd ⟨15, .data⟩ (by simp) rfl 40 rfl
                  have hr : (Instr.loadAt 3 (.pointer (some ⟨bb, off + y * 7 + 1, none⟩))).run Try.prog u = .ok (.int .i64 (f y).s) u := by go_simp
                  exact .inl ⟨(by show (match ρ (.tmp 36) with | .bool b => b == true | _ => false) = true; rw [g11]; rfl), .inl ⟨.int .i64 (f y).s, u, run_load_op rfl h15 hr, rfl, hR, Below.refl _ _⟩⟩
                · -- 17
                  have g11 : ρ (.tmp 36) = .bool true := hd ⟨11, .guard⟩ (by simp) rfl 36 rfl
                  have s0 : ρ (.tmp 0) = .slice (some ⟨bb, off, none⟩) n cap := (hρ 0 (by kernel_rfl)).trans rfl
                  exact .inl ⟨(by show (match ρ (.tmp 36) with | .bool b => b == true | _ => false) = true; rw [g11]; rfl), .inl ⟨_, u, rfl, s0, hR, Below.refl _ _⟩⟩
                · -- 18
                  have g11 : ρ (.tmp 36) = .bool true := hd ⟨11, .guard⟩ (by simp) rfl 36 rfl
                  have s3 : ρ (.tmp 3) = .int .i64 (z : Int) := (hρ 3 (by kernel_rfl)).trans rfl
                  exact .inl ⟨(by show (match ρ (.tmp 36) with | .bool b => b == true | _ => false) = true; rw [g11]; rfl), .inl ⟨_, u, rfl, s3, hR, Below.refl _ _⟩⟩
                · -- 19
                  have g11 : ρ (.tmp 36) = .bool true := hd ⟨11, .guard⟩ (by simp) rfl 36 rfl
                  have h17 : ρ (.tmp 42) = .slice (some ⟨bb, off, none⟩) n cap := hd ⟨17, .data⟩ (by simp) rfl 42 rfl
                  have h18 : ρ (.tmp 43) = .int .i64 (z : Int) := hd ⟨18, .data⟩ (by simp) rfl 43 rfl
                  exact .inl ⟨(by show (match ρ (.tmp 36) with | .bool b => b == true | _ => false) = true; rw [g11]; rfl), .inl ⟨.pointer (some ⟨bb, off + z * 7, none⟩), u, run_index_op rfl h17 h18 (by go_simp), rfl, hR, Below.refl _ _⟩⟩
                · -- 20
                  have g11 : ρ (.tmp 36) = .bool true := hd ⟨11, .guard⟩ (by simp) rfl 36 rfl
                  have h19 : ρ (.tmp 44) = .pointer (some ⟨bb, off + z * 7, none⟩) := hd ⟨19, .data⟩ (by simp) rfl 44 rfl
                  exact .inl ⟨(by show (match ρ (.tmp 36) with | .bool b => b == true | _ => false) = true; rw [g11]; rfl), .inl ⟨.pointer (some ⟨bb, off + z * 7 + 1, none⟩), u, run_field_op rfl h19 (by go_simp), rfl, hR, Below.refl _ _⟩⟩
                · -- 21
                  obtain ⟨q0, q1, q2, q3, p0, p1, p2, p3⟩ := CE.out u hR
                  have g11 : ρ (.tmp 36) = .bool true := hd ⟨11, .guard⟩ (by simp) rfl 36 rfl
                  have h20 : ρ (.tmp 45) = .pointer (some ⟨bb, off + z * 7 + 1, none⟩) := hd ⟨20, .data⟩ (by simp) rfl 45 rfl
                  have hr : (Instr.loadAt 3 (.pointer (some ⟨bb, off + z * 7 + 1, none⟩))).run Try.prog u = .ok (.int .i64 (f z).s) u := by go_simp
                  exact .inl ⟨(by show (match ρ (.tmp 36) with | .bool b => b == true | _ => false) = true; rw [g11]; rfl), .inl ⟨.int .i64 (f z).s, u, run_load_op rfl h20 hr, rfl, hR, Below.refl _ _⟩⟩
                · -- 22
                  have g11 : ρ (.tmp 36) = .bool true := hd ⟨11, .guard⟩ (by simp) rfl 36 rfl
                  have h16 : ρ (.tmp 41) = .int .i64 (f y).s := hd ⟨16, .data⟩ (by simp) rfl 41 rfl
                  have h21 : ρ (.tmp 46) = .int .i64 (f z).s := hd ⟨21, .data⟩ (by simp) rfl 46 rfl
                  exact .inl ⟨(by show (match ρ (.tmp 36) with | .bool b => b == true | _ => false) = true; rw [g11]; rfl), .inl ⟨.bool true, u, run_bin_op rfl h16 h21 (by go_simp), rfl, hR, Below.refl _ _⟩⟩
                · -- 23
                  have h11 : ρ (.tmp 36) = .bool true := hd ⟨11, .data⟩ (by simp) rfl 36 rfl
                  have h22 : ρ (.tmp 47) = .bool true := hd ⟨22, .data⟩ (by simp) rfl 47 rfl
                  exact .inl ⟨rfl, .inl ⟨_, u, run_pick_op rfl h11, (by simpa using h22), hR, Below.refl _ _⟩⟩
                · -- 24
                  have h23 : ρ (.tmp 48) = .bool true := hd ⟨23, .data⟩ (by simp) rfl 48 rfl
                  exact .inl ⟨rfl, .inl ⟨_, u, rfl, h23, hR, Below.refl _ _⟩⟩
                · -- 25
                  have g24 : ρ (.tmp 49) = .bool true := hd ⟨24, .guard⟩ (by simp) rfl 49 rfl
                  have s0 : ρ (.tmp 0) = .slice (some ⟨bb, off, none⟩) n cap := (hρ 0 (by kernel_rfl)).trans rfl
                  exact .inl ⟨(by show (match ρ (.tmp 49) with | .bool b => b == true | _ => false) = true; rw [g24]; rfl), .inl ⟨_, u, rfl, s0, hR, Below.refl _ _⟩⟩
                · -- 26
                  have g24 : ρ (.tmp 49) = .bool true := hd ⟨24, .guard⟩ (by simp) rfl 49 rfl
                  have s4 : ρ (.tmp 4) = .int .i64 (y : Int) := (hρ 4 (by kernel_rfl)).trans rfl
                  exact .inl ⟨(by show (match ρ (.tmp 49) with | .bool b => b == true | _ => false) = true; rw [g24]; rfl), .inl ⟨_, u, rfl, s4, hR, Below.refl _ _⟩⟩
                · -- 27
                  have g24 : ρ (.tmp 49) = .bool true := hd ⟨24, .guard⟩ (by simp) rfl 49 rfl
                  have h25 : ρ (.tmp 50) = .slice (some ⟨bb, off, none⟩) n cap := hd ⟨25, .data⟩ (by simp) rfl 50 rfl
                  have h26 : ρ (.tmp 51) = .int .i64 (y : Int) := hd ⟨26, .data⟩ (by simp) rfl 51 rfl
                  exact .inl ⟨(by show (match ρ (.tmp 49) with | .bool b => b == true | _ => false) = true; rw [g24]; rfl), .inl ⟨.pointer (some ⟨bb, off + y * 7, none⟩), u, run_index_op rfl h25 h26 (by go_simp), rfl, hR, Below.refl _ _⟩⟩
                · -- 28
                  have g24 : ρ (.tmp 49) = .bool true := hd ⟨24, .guard⟩ (by simp) rfl 49 rfl
                  have h27 : ρ (.tmp 52) = .pointer (some ⟨bb, off + y * 7, none⟩) := hd ⟨27, .data⟩ (by simp) rfl 52 rfl
                  exact .inl ⟨(by show (match ρ (.tmp 49) with | .bool b => b == true | _ => false) = true; rw [g24]; rfl), .inl ⟨.pointer (some ⟨bb, off + y * 7 + 2, none⟩), u, run_field_op rfl h27 (by go_simp), rfl, hR, Below.refl _ _⟩⟩
                · -- 29
                  obtain ⟨q0, q1, q2, q3, p0, p1, p2, p3⟩ := CE.out u hR
                  have g24 : ρ (.tmp 49) = .bool true := hd ⟨24, .guard⟩ (by simp) rfl 49 rfl
                  have h28 : ρ (.tmp 53) = .pointer (some ⟨bb, off + y * 7 + 2, none⟩) := hd ⟨28, .data⟩ (by simp) rfl 53 rfl
                  have hr : (Instr.loadAt 3 (.pointer (some ⟨bb, off + y * 7 + 2, none⟩))).run Try.prog u = .ok (.int .i64 (f y).lo) u := by go_simp
                  exact .inl ⟨(by show (match ρ (.tmp 49) with | .bool b => b == true | _ => false) = true; rw [g24]; rfl), .inl ⟨.int .i64 (f y).lo, u, run_load_op rfl h28 hr, rfl, hR, Below.refl _ _⟩⟩
                · -- 30
                  have g24 : ρ (.tmp 49) = .bool true := hd ⟨24, .guard⟩ (by simp) rfl 49 rfl
                  have s0 : ρ (.tmp 0) = .slice (some ⟨bb, off, none⟩) n cap := (hρ 0 (by kernel_rfl)).trans rfl
                  exact .inl ⟨(by show (match ρ (.tmp 49) with | .bool b => b == true | _ => false) = true; rw [g24]; rfl), .inl ⟨_, u, rfl, s0, hR, Below.refl _ _⟩⟩
                · -- 31
                  have g24 : ρ (.tmp 49) = .bool true := hd ⟨24, .guard⟩ (by simp) rfl 49 rfl
                  have s3 : ρ (.tmp 3) = .int .i64 (z : Int) := (hρ 3 (by kernel_rfl)).trans rfl
                  exact .inl ⟨(by show (match ρ (.tmp 49) with | .bool b => b == true | _ => false) = true; rw [g24]; rfl), .inl ⟨_, u, rfl, s3, hR, Below.refl _ _⟩⟩
                · -- 32
                  have g24 : ρ (.tmp 49) = .bool true := hd ⟨24, .guard⟩ (by simp) rfl 49 rfl
                  have h30 : ρ (.tmp 55) = .slice (some ⟨bb, off, none⟩) n cap := hd ⟨30, .data⟩ (by simp) rfl 55 rfl
                  have h31 : ρ (.tmp 56) = .int .i64 (z : Int) := hd ⟨31, .data⟩ (by simp) rfl 56 rfl
                  exact .inl ⟨(by show (match ρ (.tmp 49) with | .bool b => b == true | _ => false) = true; rw [g24]; rfl), .inl ⟨.pointer (some ⟨bb, off + z * 7, none⟩), u, run_index_op rfl h30 h31 (by go_simp), rfl, hR, Below.refl _ _⟩⟩
                · -- 33
                  have g24 : ρ (.tmp 49) = .bool true := hd ⟨24, .guard⟩ (by simp) rfl 49 rfl
                  have h32 : ρ (.tmp 57) = .pointer (some ⟨bb, off + z * 7, none⟩) := hd ⟨32, .data⟩ (by simp) rfl 57 rfl
                  exact .inl ⟨(by show (match ρ (.tmp 49) with | .bool b => b == true | _ => false) = true; rw [g24]; rfl), .inl ⟨.pointer (some ⟨bb, off + z * 7 + 3, none⟩), u, run_field_op rfl h32 (by go_simp), rfl, hR, Below.refl _ _⟩⟩
                · -- 34
                  obtain ⟨q0, q1, q2, q3, p0, p1, p2, p3⟩ := CE.out u hR
                  have g24 : ρ (.tmp 49) = .bool true := hd ⟨24, .guard⟩ (by simp) rfl 49 rfl
                  have h33 : ρ (.tmp 58) = .pointer (some ⟨bb, off + z * 7 + 3, none⟩) := hd ⟨33, .data⟩ (by simp) rfl 58 rfl
                  have hr : (Instr.loadAt 3 (.pointer (some ⟨bb, off + z * 7 + 3, none⟩))).run Try.prog u = .ok (.int .i64 (f z).hi) u := by go_simp
                  exact .inl ⟨(by show (match ρ (.tmp 49) with | .bool b => b == true | _ => false) = true; rw [g24]; rfl), .inl ⟨.int .i64 (f z).hi, u, run_load_op rfl h33 hr, rfl, hR, Below.refl _ _⟩⟩
                · -- 35
                  have g24 : ρ (.tmp 49) = .bool true := hd ⟨24, .guard⟩ (by simp) rfl 49 rfl
                  have h29 : ρ (.tmp 54) = .int .i64 (f y).lo := hd ⟨29, .data⟩ (by simp) rfl 54 rfl
                  have h34 : ρ (.tmp 59) = .int .i64 (f z).hi := hd ⟨34, .data⟩ (by simp) rfl 59 rfl
                  exact .inl ⟨(by show (match ρ (.tmp 49) with | .bool b => b == true | _ => false) = true; rw [g24]; rfl), .inl ⟨.bool false, u, run_bin_op rfl h29 h34 (by go_simp), rfl, hR, Below.refl _ _⟩⟩
                · -- 36
                  have h24 : ρ (.tmp 49) = .bool true := hd ⟨24, .data⟩ (by simp) rfl 49 rfl
                  have h35 : ρ (.tmp 60) = .bool false := hd ⟨35, .data⟩ (by simp) rfl 60 rfl
                  exact .inl ⟨rfl, .inl ⟨_, u, run_pick_op rfl h24, (by simpa using h35), hR, Below.refl _ _⟩⟩
                · -- 37
                  have h36 : ρ (.tmp 61) = .bool false := hd ⟨36, .data⟩ (by simp) rfl 61 rfl
                  exact .inl ⟨rfl, .inl ⟨_, u, rfl, h36, hR, Below.refl _ _⟩⟩
                · -- 38
                  have g37 : ρ (.tmp 62) = .bool false := hd ⟨37, .guard⟩ (by simp) rfl 62 rfl
                  exact .inr ⟨(by show (match ρ (.tmp 62) with | .bool b => b == true | _ => false) = false; rw [g37]; rfl), rfl⟩
                · -- 39
                  have g37 : ρ (.tmp 62) = .bool false := hd ⟨37, .guard⟩ (by simp) rfl 62 rfl
                  exact .inr ⟨(by show (match ρ (.tmp 62) with | .bool b => b == true | _ => false) = false; rw [g37]; rfl), rfl⟩
                · -- 40
                  have g37 : ρ (.tmp 62) = .bool false := hd ⟨37, .guard⟩ (by simp) rfl 62 rfl
                  exact .inr ⟨(by show (match ρ (.tmp 62) with | .bool b => b == true | _ => false) = false; rw [g37]; rfl), rfl⟩
                · -- 41
                  have g37 : ρ (.tmp 62) = .bool false := hd ⟨37, .guard⟩ (by simp) rfl 62 rfl
                  exact .inr ⟨(by show (match ρ (.tmp 62) with | .bool b => b == true | _ => false) = false; rw [g37]; rfl), rfl⟩
                · -- 42
                  have g37 : ρ (.tmp 62) = .bool false := hd ⟨37, .guard⟩ (by simp) rfl 62 rfl
                  exact .inr ⟨(by show (match ρ (.tmp 62) with | .bool b => b == true | _ => false) = false; rw [g37]; rfl), rfl⟩
                · -- 43
                  have g37 : ρ (.tmp 62) = .bool false := hd ⟨37, .guard⟩ (by simp) rfl 62 rfl
                  exact .inr ⟨(by show (match ρ (.tmp 62) with | .bool b => b == true | _ => false) = false; rw [g37]; rfl), rfl⟩
                · -- 44
                  have g37 : ρ (.tmp 62) = .bool false := hd ⟨37, .guard⟩ (by simp) rfl 62 rfl
                  exact .inr ⟨(by show (match ρ (.tmp 62) with | .bool b => b == true | _ => false) = false; rw [g37]; rfl), rfl⟩
                · -- 45
                  have g37 : ρ (.tmp 62) = .bool false := hd ⟨37, .guard⟩ (by simp) rfl 62 rfl
                  exact .inr ⟨(by show (match ρ (.tmp 62) with | .bool b => b == true | _ => false) = false; rw [g37]; rfl), rfl⟩
                · -- 46
                  have g37 : ρ (.tmp 62) = .bool false := hd ⟨37, .guard⟩ (by simp) rfl 62 rfl
                  exact .inr ⟨(by show (match ρ (.tmp 62) with | .bool b => b == true | _ => false) = false; rw [g37]; rfl), rfl⟩
                · -- 47
                  have g37 : ρ (.tmp 62) = .bool false := hd ⟨37, .guard⟩ (by simp) rfl 62 rfl
                  exact .inr ⟨(by show (match ρ (.tmp 62) with | .bool b => b == true | _ => false) = false; rw [g37]; rfl), rfl⟩
                · -- 48
                  have g37 : ρ (.tmp 62) = .bool false := hd ⟨37, .guard⟩ (by simp) rfl 62 rfl
                  exact .inr ⟨(by show (match ρ (.tmp 62) with | .bool b => b == true | _ => false) = false; rw [g37]; rfl), rfl⟩
                · -- 49
                  have h37 : ρ (.tmp 62) = .bool false := hd ⟨37, .data⟩ (by simp) rfl 62 rfl
                  exact .inl ⟨rfl, .inl ⟨_, u, run_pick_op rfl h37, (by simpa using hc _), hR, Below.refl _ _⟩⟩
            by_cases h3 : (f z).lo ≤ (f y).hi
            case neg =>
              go_wp2
              refine wp_region_any (by kernel_rfl) ?_
              refine wpAny_vals (fun u => Below wr.heap.size wr u) (fun i v u => match i with
                | 0 => v = .slice (some ⟨bb, off, none⟩) n cap
                | 1 => v = .int .i64 (y : Int)
                | 2 => v = .pointer (some ⟨bb, off + y * 7, none⟩)
                | 3 => v = .pointer (some ⟨bb, off + y * 7, none⟩)
                | 4 => v = .int .i64 (f y).u
                | 5 => v = .slice (some ⟨bb, off, none⟩) n cap
                | 6 => v = .int .i64 (z : Int)
                | 7 => v = .pointer (some ⟨bb, off + z * 7, none⟩)
                | 8 => v = .pointer (some ⟨bb, off + z * 7, none⟩)
                | 9 => v = .int .i64 (f z).u
                | 10 => v = .bool true
                | 11 => v = .bool true
                | 12 => v = .slice (some ⟨bb, off, none⟩) n cap
                | 13 => v = .int .i64 (y : Int)
                | 14 => v = .pointer (some ⟨bb, off + y * 7, none⟩)
                | 15 => v = .pointer (some ⟨bb, off + y * 7 + 1, none⟩)
                | 16 => v = .int .i64 (f y).s
                | 17 => v = .slice (some ⟨bb, off, none⟩) n cap
                | 18 => v = .int .i64 (z : Int)
                | 19 => v = .pointer (some ⟨bb, off + z * 7, none⟩)
                | 20 => v = .pointer (some ⟨bb, off + z * 7 + 1, none⟩)
                | 21 => v = .int .i64 (f z).s
                | 22 => v = .bool true
                | 23 => v = .bool true
                | 24 => v = .bool true
                | 25 => v = .slice (some ⟨bb, off, none⟩) n cap
                | 26 => v = .int .i64 (y : Int)
                | 27 => v = .pointer (some ⟨bb, off + y * 7, none⟩)
                | 28 => v = .pointer (some ⟨bb, off + y * 7 + 2, none⟩)
                | 29 => v = .int .i64 (f y).lo
                | 30 => v = .slice (some ⟨bb, off, none⟩) n cap
                | 31 => v = .int .i64 (z : Int)
                | 32 => v = .pointer (some ⟨bb, off + z * 7, none⟩)
                | 33 => v = .pointer (some ⟨bb, off + z * 7 + 3, none⟩)
                | 34 => v = .int .i64 (f z).hi
                | 35 => v = .bool true
                | 36 => v = .bool true
                | 37 => v = .bool true
                | 38 => v = .slice (some ⟨bb, off, none⟩) n cap
                | 39 => v = .int .i64 (z : Int)
                | 40 => v = .pointer (some ⟨bb, off + z * 7, none⟩)
                | 41 => v = .pointer (some ⟨bb, off + z * 7 + 2, none⟩)
                | 42 => v = .int .i64 (f z).lo
                | 43 => v = .slice (some ⟨bb, off, none⟩) n cap
                | 44 => v = .int .i64 (y : Int)
                | 45 => v = .pointer (some ⟨bb, off + y * 7, none⟩)
                | 46 => v = .pointer (some ⟨bb, off + y * 7 + 3, none⟩)
                | 47 => v = .int .i64 (f y).hi
                | 48 => v = .bool false
                | 49 => v = .bool false
                | _ => True) (by kernel_rfl) (by kernel_rfl) (fun _ _ _ _ h _ => h) (Below.refl _ _).drew ?_ ?_ _ _ rfl (by decide) (fun i => by simp [Array.getD]; try (split <;> rfl))
              · intro vs u hR hall
                have e16 : vs 49 = .bool false := hall 49 (by simp)
                simp only [putsL]
                rw [e16]
                clear hall e16
                have BX := bel_next hbl hR
                clear hR CE hbl
                go_simp
                go_wp2
                go_roundw
                case rel => exact ⟨y + 1, by omega, by go_num, fun k hk => (by by_cases e : k = y; (subst e; exact fun h => (by unfold ovl at h; omega)); (exact HA.out k (by omega))), BX⟩
                case measure => simp [intOf]; omega
              · intro u i o ρ hR ho hρ hc hf hd
                have hi : i < 50 := by
                  have := (Array.getElem?_eq_some_iff.1 ho).1
                  simpa using this
                obtain rfl | rfl | rfl | rfl | rfl | rfl | rfl | rfl | rfl | rfl | rfl | rfl | rfl | rfl | rfl | rfl | rfl | rfl | rfl | rfl | rfl | rfl | rfl | rfl | rfl | rfl | rfl | rfl | rfl | rfl | rfl | rfl | rfl | rfl | rfl | rfl | rfl | rfl | rfl | rfl | rfl | rfl | rfl | rfl | rfl | rfl | rfl | rfl | rfl | rfl : i = 0 ∨ i = 1 ∨ i = 2 ∨ i = 3 ∨ i = 4 ∨ i = 5 ∨ i = 6 ∨ i = 7 ∨ i = 8 ∨ i = 9 ∨ i = 10 ∨ i = 11 ∨ i = 12 ∨ i = 13 ∨ i = 14 ∨ i = 15 ∨ i = 16 ∨ i = 17 ∨ i = 18 ∨ i = 19 ∨ i = 20 ∨ i = 21 ∨ i = 22 ∨ i = 23 ∨ i = 24 ∨ i = 25 ∨ i = 26 ∨ i = 27 ∨ i = 28 ∨ i = 29 ∨ i = 30 ∨ i = 31 ∨ i = 32 ∨ i = 33 ∨ i = 34 ∨ i = 35 ∨ i = 36 ∨ i = 37 ∨ i = 38 ∨ i = 39 ∨ i = 40 ∨ i = 41 ∨ i = 42 ∨ i = 43 ∨ i = 44 ∨ i = 45 ∨ i = 46 ∨ i = 47 ∨ i = 48 ∨ i = 49 := by omega
                all_goals (simp only [List.getElem?_toArray, List.getElem?_cons_zero, List.getElem?_cons_succ, Option.some.injEq] at ho; subst ho)
                · -- 0
                  have s0 : ρ (.tmp 0) = .slice (some ⟨bb, off, none⟩) n cap := (hρ 0 (by kernel_rfl)).trans rfl
                  exact .inl ⟨rfl, .inl ⟨_, u, rfl, s0, hR, Below.refl _ _⟩⟩
                · -- 1
                  have s4 : ρ (.tmp 4) = .int .i64 (y : Int) := (hρ 4 (by kernel_rfl)).trans rfl
                  exact .inl ⟨rfl, .inl ⟨_, u, rfl, s4, hR, Below.refl _ _⟩⟩
                · -- 2
                  have h0 : ρ (.tmp 25) = .slice (some ⟨bb, off, none⟩) n cap := hd ⟨0, .data⟩ (by simp) rfl 25 rfl
                  have h1 : ρ (.tmp 26) = .int .i64 (y : Int) := hd ⟨1, .data⟩ (by simp) rfl 26 rfl
                  exact .inl ⟨rfl, .inl ⟨.pointer (some ⟨bb, off + y * 7, none⟩), u, run_index_op rfl h0 h1 (by go_simp), rfl, hR, Below.refl _ _⟩⟩
                · -- 3
                  have h2 : ρ (.tmp 27) = .pointer (some ⟨bb, off + y * 7, none⟩) := hd ⟨2, .data⟩ (by simp) rfl 27 rfl
                  exact .inl ⟨rfl, .inl ⟨.pointer (some ⟨bb, off + y * 7, none⟩), u, run_field_op rfl h2 (by go_simp), rfl, hR, Below.refl _ _⟩⟩
                · -- 4
                  obtain ⟨q0, q1, q2, q3, p0, p1, p2, p3⟩ := CE.out u hR
                  have h3 : ρ (.tmp 28) = .pointer (some ⟨bb, off + y * 7, none⟩) := hd ⟨3, .data⟩ (by simp) rfl 28 rfl
                  have hr : (Instr.loadAt 3 (.pointer (some ⟨bb, off + y * 7, none⟩))).run Try.prog u = .ok (.int .i64 (f y).u) u := by go_simp
                  exact .inl ⟨rfl, .inl ⟨.int .i64 (f y).u, u, run_load_op rfl h3 hr, rfl, hR, Below.refl _ _⟩⟩
                · -- 5
                  have s0 : ρ (.tmp 0) = .slice (some ⟨bb, off, none⟩) n cap := (hρ 0 (by kernel_rfl)).trans rfl
                  exact .inl ⟨rfl, .inl ⟨_, u, rfl, s0, hR, Below.refl _ _⟩⟩
                · -- 6
                  have s3 : ρ (.tmp 3) = .int .i64 (z : Int) := (hρ 3 (by kernel_rfl)).trans rfl
                  exact .inl ⟨rfl, .inl ⟨_, u, rfl, s3, hR, Below.refl _ _⟩⟩
                · -- 7
                  have h5 : ρ (.tmp 30) = .slice (some ⟨bb, off, none⟩) n cap := hd ⟨5, .data⟩ (by simp) rfl 30 rfl
                  have h6 : ρ (.tmp 31) = .int .i64 (z : Int) := hd ⟨6, .data⟩ (by simp) rfl 31 rfl
                  exact .inl ⟨rfl, .inl ⟨.pointer (some ⟨bb, off + z * 7, none⟩), u, run_index_op rfl h5 h6 (by go_simp), rfl, hR, Below.refl _ _⟩⟩
                · -- 8
                  have h7 : ρ (.tmp 32) = .pointer (some ⟨bb, off + z * 7, none⟩) := hd ⟨7, .data⟩ (by simp) rfl 32 rfl
                  exact .inl ⟨rfl, .inl ⟨.pointer (some ⟨bb, off + z * 7, none⟩), u, run_field_op rfl h7 (by go_simp), rfl, hR, Below.refl _ _⟩⟩
                · -- 9
                  obtain ⟨q0, q1, q2, q3, p0, p1, p2, p3⟩ := CE.out u hR
                  have h8 : ρ (.tmp 33) = .pointer (some ⟨bb, off + z * 7, none⟩) := hd ⟨8, .data⟩ (by simp) rfl 33 rfl
                  have hr : (Instr.loadAt 3 (.pointer (some ⟨bb, off + z * 7, none⟩))).run Try.prog u = .ok (.int .i64 (f z).u) u := by go_simp
                  exact .inl ⟨rfl, .inl ⟨.int .i64 (f z).u, u, run_load_op rfl h8 hr, rfl, hR, Below.refl _ _⟩⟩
                · -- 10
                  have h4 : ρ (.tmp 29) = .int .i64 (f y).u := hd ⟨4, .data⟩ (by simp) rfl 29 rfl
                  have h9 : ρ (.tmp 34) = .int .i64 (f z).u := hd ⟨9, .data⟩ (by simp) rfl 34 rfl
                  exact .inl ⟨rfl, .inl ⟨.bool true, u, run_bin_op rfl h4 h9 (by go_simp), rfl, hR, Below.refl _ _⟩⟩
                · -- 11
                  have h10 : ρ (.tmp 35) = .bool true := hd ⟨10, .data⟩ (by simp) rfl 35 rfl
                  exact .inl ⟨rfl, .inl ⟨_, u, rfl, h10, hR, Below.refl _ _⟩⟩
                · -- 12
                  have g11 : ρ (.tmp 36) = .bool true := hd ⟨11, .guard⟩ (by simp) rfl 36 rfl
                  have s0 : ρ (.tmp 0) = .slice (some ⟨bb, off, none⟩) n cap := (hρ 0 (by kernel_rfl)).trans rfl
                  exact .inl ⟨(by show (match ρ (.tmp 36) with | .bool b => b == true | _ => false) = true; rw [g11]; rfl), .inl ⟨_, u, rfl, s0, hR, Below.refl _ _⟩⟩
                · -- 13
                  have g11 : ρ (.tmp 36) = .bool true := hd ⟨11, .guard⟩ (by simp) rfl 36 rfl
                  have s4 : ρ (.tmp 4) = .int .i64 (y : Int) := (hρ 4 (by kernel_rfl)).trans rfl
                  exact .inl ⟨(by show (match ρ (.tmp 36) with | .bool b => b == true | _ => false) = true; rw [g11]; rfl), .inl ⟨_, u, rfl, s4, hR, Below.refl _ _⟩⟩
                · -- 14
                  have g11 : ρ (.tmp 36) = .bool true := hd ⟨11, .guard⟩ (by simp) rfl 36 rfl
                  have h12 : ρ (.tmp 37) = .slice (some ⟨bb, off, none⟩) n cap := hd ⟨12, .data⟩ (by simp) rfl 37 rfl
                  have h13 : ρ (.tmp 38) = .int .i64 (y : Int) := hd ⟨13, .data⟩ (by simp) rfl 38 rfl
                  exact .inl ⟨(by show (match ρ (.tmp 36) with | .bool b => b == true | _ => false) = true; rw [g11]; rfl), .inl ⟨.pointer (some ⟨bb, off + y * 7, none⟩), u, run_index_op rfl h12 h13 (by go_simp), rfl, hR, Below.refl _ _⟩⟩
                · -- 15
                  have g11 : ρ (.tmp 36) = .bool true := hd ⟨11, .guard⟩ (by simp) rfl 36 rfl
                  have h14 : ρ (.tmp 39) = .pointer (some ⟨bb, off + y * 7, none⟩) := hd ⟨14, .data⟩ (by simp) rfl 39 rfl
                  exact .inl ⟨(by show (match ρ (.tmp 36) with | .bool b => b == true | _ => false) = true; rw [g11]; rfl), .inl ⟨.pointer (some ⟨bb, off + y * 7 + 1, none⟩), u, run_field_op rfl h14 (by go_simp), rfl, hR, Below.refl _ _⟩⟩
                · -- 16
                  obtain ⟨q0, q1, q2, q3, p0, p1, p2, p3⟩ := CE.out u hR
                  have g11 : ρ (.tmp 36) = .bool true := hd ⟨11, .guard⟩ (by simp) rfl 36 rfl
                  have h15 : ρ (.tmp 40) = .pointer (some ⟨bb, off + y * 7 + 1, none⟩) := hd ⟨15, .data⟩ (by simp) rfl 40 rfl
                  have hr : (Instr.loadAt 3 (.pointer (some ⟨bb, off + y * 7 + 1, none⟩))).run Try.prog u = .ok (.int .i64 (f y).s) u := by go_simp
                  exact .inl ⟨(by show (match ρ (.tmp 36) with | .bool b => b == true | _ => false) = true; rw [g11]; rfl), .inl ⟨.int .i64 (f y).s, u, run_load_op rfl h15 hr, rfl, hR, Below.refl _ _⟩⟩
                · -- 17
                  have g11 : ρ (.tmp 36) = .bool true := hd ⟨11, .guard⟩ (by simp) rfl 36 rfl
                  have s0 : ρ (.tmp 0) = .slice (some ⟨bb, off, none⟩) n cap := (hρ 0 (by kernel_rfl)).trans rfl
                  exact .inl ⟨(by show (match ρ (.tmp 36) with | .bool b => b == true | _ => false) = true; rw [g11]; rfl), .inl ⟨_, u, rfl, s0, hR, Below.refl _ _⟩⟩
                · -- 18
                  have g11 : ρ (.tmp 36) = .bool true := hd ⟨11, .guard⟩ (by simp) rfl 36 rfl
                  have s3 : ρ (.tmp 3) = .int .i64 (z : Int) := (hρ 3 (by kernel_rfl)).trans rfl
                  exact .inl ⟨(by show (match ρ (.tmp 36) with | .bool b => b == true | _ => false) = true; rw [g11]; rfl), .inl ⟨_, u, rfl, s3, hR, Below.refl _ _⟩⟩
                · -- 19
                  have g11 : ρ (.tmp 36) = .bool true := hd ⟨11, .guard⟩ (by simp) rfl 36 rfl
                  have h17 : ρ (.tmp 42) = .slice (some ⟨bb, off, none⟩) n cap := hd ⟨17, .data⟩ (by simp) rfl 42 rfl
                  have h18 : ρ (.tmp 43) = .int .i64 (z : Int) := hd ⟨18, .data⟩ (by simp) rfl 43 rfl
                  exact .inl ⟨(by show (match ρ (.tmp 36) with | .bool b => b == true | _ => false) = true; rw [g11]; rfl), .inl ⟨.pointer (some ⟨bb, off + z * 7, none⟩), u, run_index_op rfl h17 h18 (by go_simp), rfl, hR, Below.refl _ _⟩⟩
                · -- 20
                  have g11 : ρ (.tmp 36) = .bool true := hd ⟨11, .guard⟩ (by simp) rfl 36 rfl
                  have h19 : ρ (.tmp 44) = .pointer (some ⟨bb, off + z * 7, none⟩) := hd ⟨19, .data⟩ (by simp) rfl 44 rfl
                  exact .inl ⟨(by show (match ρ (.tmp 36) with | .bool b => b == true | _ => false) = true; rw [g11]; rfl), .inl ⟨.pointer (some ⟨bb, off + z * 7 + 1, none⟩), u, run_field_op rfl h19 (by go_simp), rfl, hR, Below.refl _ _⟩⟩
                · -- 21
                  obtain ⟨q0, q1, q2, q3, p0, p1, p2, p3⟩ := CE.out u hR
                  have g11 : ρ (.tmp 36) = .bool true := hd ⟨11, .guard⟩ (by simp) rfl 36 rfl
                  have h20 : ρ (.tmp 45) = .pointer (some ⟨bb, off + z * 7 + 1, none⟩) := hd ⟨20, .data⟩ (by simp) rfl 45 rfl
                  have hr : (Instr.loadAt 3 (.pointer (some ⟨bb, off + z * 7 + 1, none⟩))).run Try.prog u = .ok (.int .i64 (f z).s) u := by go_simp
                  exact .inl ⟨(by show (match ρ (.tmp 36) with | .bool b => b == true | _ => false) = true; rw [g11]; rfl), .inl ⟨.int .i64 (f z).s, u, run_load_op rfl h20 hr, rfl, hR, Below.refl _ _⟩⟩
                · -- 22
                  have g11 : ρ (.tmp 36) = .bool true := hd ⟨11, .guard⟩ (by simp) rfl 36 rfl
                  have h16 : ρ (.tmp 41) = .int .i64 (f y).s := hd ⟨16, .data⟩ (by simp) rfl 41 rfl
                  have h21 : ρ (.tmp 46) = .int .i64 (f z).s := hd ⟨21, .data⟩ (by simp) rfl 46 rfl
                  exact .inl ⟨(by show (match ρ (.tmp 36) with | .bool b => b == true | _ => false) = true; rw [g11]; rfl), .inl ⟨.bool true, u, run_bin_op rfl h16 h21 (by go_simp), rfl, hR, Below.refl _ _⟩⟩
                · -- 23
                  have h11 : ρ (.tmp 36) = .bool true := hd ⟨11, .data⟩ (by simp) rfl 36 rfl
                  have h22 : ρ (.tmp 47) = .bool true := hd ⟨22, .data⟩ (by simp) rfl 47 rfl
                  exact .inl ⟨rfl, .inl ⟨_, u, run_pick_op rfl h11, (by simpa using h22), hR, Below.refl _ _⟩⟩
                · -- 24
                  have h23 : ρ (.tmp 48) = .bool true := hd ⟨23, .data⟩ (by simp) rfl 48 rfl
                  exact .inl ⟨rfl, .inl ⟨_, u, rfl, h23, hR, Below.refl _ _⟩⟩
                · -- 25
                  have g24 : ρ (.tmp 49) = .bool true := hd ⟨24, .guard⟩ (by simp) rfl 49 rfl
                  have s0 : ρ (.tmp 0) = .slice (some ⟨bb, off, none⟩) n cap := (hρ 0 (by kernel_rfl)).trans rfl
                  exact .inl ⟨(by show (match ρ (.tmp 49) with | .bool b => b == true | _ => false) = true; rw [g24]; rfl), .inl ⟨_, u, rfl, s0, hR, Below.refl _ _⟩⟩
                · -- 26
                  have g24 : ρ (.tmp 49) = .bool true := hd ⟨24, .guard⟩ (by simp) rfl 49 rfl
                  have s4 : ρ (.tmp 4) = .int .i64 (y : Int) := (hρ 4 (by kernel_rfl)).trans rfl
                  exact .inl ⟨(by show (match ρ (.tmp 49) with | .bool b => b == true | _ => false) = true; rw [g24]; rfl), .inl ⟨_, u, rfl, s4, hR, Below.refl _ _⟩⟩
                · -- 27
                  have g24 : ρ (.tmp 49) = .bool true := hd ⟨24, .guard⟩ (by simp) rfl 49 rfl
                  have h25 : ρ (.tmp 50) = .slice (some ⟨bb, off, none⟩) n cap := hd ⟨25, .data⟩ (by simp) rfl 50 rfl
                  have h26 : ρ (.tmp 51) = .int .i64 (y : Int) := hd ⟨26, .data⟩ (by simp) rfl 51 rfl
                  exact .inl ⟨(by show (match ρ (.tmp 49) with | .bool b => b == true | _ => false) = true; rw [g24]; rfl), .inl ⟨.pointer (some ⟨bb, off + y * 7, none⟩), u, run_index_op rfl h25 h26 (by go_simp), rfl, hR, Below.refl _ _⟩⟩
                · -- 28
                  have g24 : ρ (.tmp 49) = .bool true := hd ⟨24, .guard⟩ (by simp) rfl 49 rfl
                  have h27 : ρ (.tmp 52) = .pointer (some ⟨bb, off + y * 7, none⟩) := hd ⟨27, .data⟩ (by simp) rfl 52 rfl
                  exact .inl ⟨(by show (match ρ (.tmp 49) with | .bool b => b == true | _ => false) = true; rw [g24]; rfl), .inl ⟨.pointer (some ⟨bb, off + y * 7 + 2, none⟩), u, run_field_op rfl h27 (by go_simp), rfl, hR, Below.refl _ _⟩⟩
                · -- 29
                  obtain ⟨q0, q1, q2, q3, p0, p1, p2, p3⟩ := CE.out u hR
                  have g24 : ρ (.tmp 49) = .bool true := hd ⟨24, .guard⟩ (by simp) rfl 49 rfl
                  have h28 : ρ (.tmp 53) = .pointer (some ⟨bb, off + y * 7 + 2, none⟩) := hd ⟨28, .data⟩ (by simp) rfl 53 rfl
                  have hr : (Instr.loadAt 3 (.pointer (some ⟨bb, off + y * 7 + 2, none⟩))).run Try.prog u = .ok (.int .i64 (f y).lo) u := by go_simp
                  exact .inl ⟨(by show (match ρ (.tmp 49) with | .bool b => b == true | _ => false) = true; rw [g24]; rfl), .inl ⟨.int .i64 (f y).lo, u, run_load_op rfl h28 hr, rfl, hR, Below.refl _ _⟩⟩
                · -- 30
                  have g24 : ρ (.tmp 49) = .bool true := hd ⟨24, .guard⟩ (by simp) rfl 49 rfl
                  have s0 : ρ (.tmp 0) = .slice (some ⟨bb, off, none⟩) n cap := (hρ 0 (by kernel_rfl)).trans rfl
                  exact .inl ⟨(by show (match ρ (.tmp 49) with | .bool b => b == true | _ => false) = true; rw [g24]; rfl), .inl ⟨_, u, rfl, s0, hR, Below.refl _ _⟩⟩
                · -- 31
                  have g24 : ρ (.tmp 49) = .bool true := hd ⟨24, .guard⟩ (by simp) rfl 49 rfl
                  have s3 : ρ (.tmp 3) = .int .i64 (z : Int) := (hρ 3 (by kernel_rfl)).trans rfl
                  exact .inl ⟨(by show (match ρ (.tmp 49) with | .bool b => b == true | _ => false) = true; rw [g24]; rfl), .inl ⟨_, u, rfl, s3, hR, Below.refl _ _⟩⟩
                · -- 32
                  have g24 : ρ (.tmp 49) = .bool true := hd ⟨24, .guard⟩ (by simp) rfl 49 rfl
                  have h30 : ρ (.tmp 55) = .slice (some ⟨bb, off, none⟩) n cap := hd ⟨30, .data⟩ (by simp) rfl 55 rfl
                  have h31 : ρ (.tmp 56) = .int .i64 (z : Int) := hd ⟨31, .data⟩ (by simp) rfl 56 rfl
                  exact .inl ⟨(by show (match ρ (.tmp 49) with | .bool b => b == true | _ => false) = true; rw [g24]; rfl), .inl ⟨.pointer (some ⟨bb, off + z * 7, none⟩), u, run_index_op rfl h30 h31 (by go_simp), rfl, hR, Below.refl _ _⟩⟩
                · -- 33
                  have g24 : ρ (.tmp 49) = .bool true := hd ⟨24, .guard⟩ (by simp) rfl 49 rfl
                  have h32 : ρ (.tmp 57) = .pointer (some ⟨bb, off + z * 7, none⟩) := hd ⟨32, .data⟩ (by simp) rfl 57 rfl
                  exact .inl ⟨(by show (match ρ (.tmp 49) with | .bool b => b == true | _ => false) = true; rw [g24]; rfl), .inl ⟨.pointer (some ⟨bb, off + z * 7 + 3, none⟩), u, run_field_op rfl h32 (by go_simp), rfl, hR, Below.refl _ _⟩⟩
                · -- 34
                  obtain ⟨q0, q1, q2, q3, p0, p1, p2, p3⟩ := CE.out u hR
                  have g24 : ρ (.tmp 49) = .bool true := hd ⟨24, .guard⟩ (by simp) rfl 49 rfl
                  have h33 : ρ (.tmp 58) = .pointer (some ⟨bb, off + z * 7 + 3, none⟩) := hd ⟨33, .data⟩ (by simp) rfl 58 rfl
                  have hr : (Instr.loadAt 3 (.pointer (some ⟨bb, off + z * 7 + 3, none⟩))).run Try.prog u = .ok (.int .i64 (f z).hi) u := by go_simp
                  exact .inl ⟨(by show (match ρ (.tmp 49) with | .bool b => b == true | _ => false) = true; rw [g24]; rfl), .inl ⟨.int .i64 (f z).hi, u, run_load_op rfl h33 hr, rfl, hR, Below.refl _ _⟩⟩
                · -- 35
                  have g24 : ρ (.tmp 49) = .bool true := hd ⟨24, .guard⟩ (by simp) rfl 49 rfl
                  have h29 : ρ (.tmp 54) = .int .i64 (f y).lo := hd ⟨29, .data⟩ (by simp) rfl 54 rfl
                  have h34 : ρ (.tmp 59) = .int .i64 (f z).hi := hd ⟨34, .data⟩ (by simp) rfl 59 rfl
                  exact .inl ⟨(by show (match ρ (.tmp 49) with | .bool b => b == true | _ => false) = true; rw [g24]; rfl), .inl ⟨.bool true, u, run_bin_op rfl h29 h34 (by go_simp), rfl, hR, Below.refl _ _⟩⟩
                · -- 36
                  have h24 : ρ (.tmp 49) = .bool true := hd ⟨24, .data⟩ (by simp) rfl 49 rfl
                  have h35 : ρ (.tmp 60) = .bool true := hd ⟨35, .data⟩ (by simp) rfl 60 rfl
                  exact .inl ⟨rfl, .inl ⟨_, u, run_pick_op rfl h24, (by simpa using h35), hR, Below.refl _ _⟩⟩
                · -- 37
                  have h36 : ρ (.tmp 61) = .bool true := hd ⟨36, .data⟩ (by simp) rfl 61 rfl
                  exact .inl ⟨rfl, .inl ⟨_, u, rfl, h36, hR, Below.refl _ _⟩⟩
                · -- 38
                  have g37 : ρ (.tmp 62) = .bool true := hd ⟨37, .guard⟩ (by simp) rfl 62 rfl
                  have s0 : ρ (.tmp 0) = .slice (some ⟨bb, off, none⟩) n cap := (hρ 0 (by kernel_rfl)).trans rfl
                  exact .inl ⟨(by show (match ρ (.tmp 62) with | .bool b => b == true | _ => false) = true; rw [g37]; rfl), .inl ⟨_, u, rfl, s0, hR, Below.refl _ _⟩⟩
                · -- 39
                  have g37 : ρ (.tmp 62) = .bool true := hd ⟨37, .guard⟩ (by simp) rfl 62 rfl
                  have s3 : ρ (.tmp 3) = .int .i64 (z : Int) := (hρ 3 (by kernel_rfl)).trans rfl
                  exact .inl ⟨(by show (match ρ (.tmp 62) with | .bool b => b == true | _ => false) = true; rw [g37]; rfl), .inl ⟨_, u, rfl, s3, hR, Below.refl _ _⟩⟩
                · -- 40
                  have g37 : ρ (.tmp 62) = .bool true := hd ⟨37, .guard⟩ (by simp) rfl 62 rfl
                  have h38 : ρ (.tmp 63) = .slice (some ⟨bb, off, none⟩) n cap := hd ⟨38, .data⟩ (by simp) rfl 63 rfl
                  have h39 : ρ (.tmp 64) = .int .i64 (z : Int) := hd ⟨39, .data⟩ (by simp) rfl 64 rfl
                  exact .inl ⟨(by show (match ρ (.tmp 62) with | .bool b => b == true | _ => false) = true; rw [g37]; rfl), .inl ⟨.pointer (some ⟨bb, off + z * 7, none⟩), u, run_index_op rfl h38 h39 (by go_simp), rfl, hR, Below.refl _ _⟩⟩
                · -- 41
                  have g37 : ρ (.tmp 62) = .bool true := hd ⟨37, .guard⟩ (by simp) rfl 62 rfl
                  have h40 : ρ (.tmp 65) = .pointer (some ⟨bb, off + z * 7, none⟩) := hd ⟨40, .data⟩ (by simp) rfl 65 rfl
                  exact .inl ⟨(by show (match ρ (.tmp 62) with | .bool b => b == true | _ => false) = true; rw [g37]; rfl), .inl ⟨.pointer (some ⟨bb, off + z * 7 + 2, none⟩), u, run_field_op rfl h40 (by go_simp), rfl, hR, Below.refl _ _⟩⟩
                · -- 42
                  obtain ⟨q0, q1, q2, q3, p0, p1, p2, p3⟩ := CE.out u hR
                  have g37 : ρ (.tmp 62) = .bool true := hd ⟨37, .guard⟩ (by simp) rfl 62 rfl
                  have h41 : ρ (.tmp 66) = .pointer (some ⟨bb, off + z * 7 + 2, none⟩) := hd ⟨41, .data⟩ (by simp) rfl 66 rfl
                  have hr : (Instr.loadAt 3 (.pointer (some ⟨bb, off + z * 7 + 2, none⟩))).run Try.prog u = .ok (.int .i64 (f z).lo) u := by go_simp
                  exact .inl ⟨(by show (match ρ (.tmp 62) with | .bool b => b == true | _ => false) = true; rw [g37]; rfl), .inl ⟨.int .i64 (f z).lo, u, run_load_op rfl h41 hr, rfl, hR, Below.refl _ _⟩⟩
                · -- 43
                  have g37 : ρ (.tmp 62) = .bool true := hd ⟨37, .guard⟩ (by simp) rfl 62 rfl
                  have s0 : ρ (.tmp 0) = .slice (some ⟨bb, off, none⟩) n cap := (hρ 0 (by kernel_rfl)).trans rfl
                  exact .inl ⟨(by show (match ρ (.tmp 62) with | .bool b => b == true | _ => false) = true; rw [g37]; rfl), .inl ⟨_, u, rfl, s0, hR, Below.refl _ _⟩⟩
                · -- 44
                  have g37 : ρ (.tmp 62) = .bool true := hd ⟨37, .guard⟩ (by simp) rfl 62 rfl
                  have s4 : ρ (.tmp 4) = .int .i64 (y : Int) := (hρ 4 (by kernel_rfl)).trans rfl
                  exact .inl ⟨(by show (match ρ (.tmp 62) with | .bool b => b == true | _ => false) = true; rw [g37]; rfl), .inl ⟨_, u, rfl, s4, hR, Below.refl _ _⟩⟩
                · -- 45
                  have g37 : ρ (.tmp 62) = .bool true := hd ⟨37, .guard⟩ (by simp) rfl 62 rfl
                  have h43 : ρ (.tmp 68) = .slice (some ⟨bb, off, none⟩) n cap := hd ⟨43, .data⟩ (by simp) rfl 68 rfl
                  have h44 : ρ (.tmp 69) = .int .i64 (y : Int) := hd ⟨44, .data⟩ (by simp) rfl 69 rfl
                  exact .inl ⟨(by show (match ρ (.tmp 62) with | .bool b => b == true | _ => false) = true; rw [g37]; rfl), .inl ⟨.pointer (some ⟨bb, off + y * 7, none⟩), u, run_index_op rfl h43 h44 (by go_simp), rfl, hR, Below.refl _ _⟩⟩
                · -- 46
                  have g37 : ρ (.tmp 62) = .bool true := hd ⟨37, .guard⟩ (by simp) rfl 62 rfl
                  have h45 : ρ (.tmp 70) = .pointer (some ⟨bb, off + y * 7, none⟩) := hd ⟨45, .data⟩ (by simp) rfl 70 rfl
                  exact .inl ⟨(by show (match ρ (.tmp 62) with | .bool b => b == true | _ => false) = true; rw [g37]; rfl), .inl ⟨.pointer (some ⟨bb, off + y * 7 + 3, none⟩), u, run_field_op rfl h45 (by go_simp), rfl, hR, Below.refl _ _⟩⟩
                · -- 47
                  obtain ⟨q0, q1, q2, q3, p0, p1, p2, p3⟩ := CE.out u hR
                  have g37 : ρ (.tmp 62) = .bool true := hd ⟨37, .guard⟩ (by simp) rfl 62 rfl
                  have h46 : ρ (.tmp 71) = .pointer (some ⟨bb, off + y * 7 + 3, none⟩) := hd ⟨46, .data⟩ (by simp) rfl 71 rfl
                  have hr : (Instr.loadAt 3 (.pointer (some ⟨bb, off + y * 7 + 3, none⟩))).run Try.prog u = .ok (.int .i64 (f y).hi) u := by go_simp
                  exact .inl ⟨(by show (match ρ (.tmp 62) with | .bool b => b == true | _ => false) = true; rw [g37]; rfl), .inl ⟨.int .i64 (f y).hi, u, run_load_op rfl h46 hr, rfl, hR, Below.refl _ _⟩⟩
                · -- 48
                  have g37 : ρ (.tmp 62) = .bool true := hd ⟨37, .guard⟩ (by simp) rfl 62 rfl
                  have h42 : ρ (.tmp 67) = .int .i64 (f z).lo := hd ⟨42, .data⟩ (by simp) rfl 67 rfl
                  have h47 : ρ (.tmp 72) = .int .i64 (f y).hi := hd ⟨47, .data⟩ (by simp) rfl 72 rfl
                  exact .inl ⟨(by show (match ρ (.tmp 62) with | .bool b => b == true | _ => false) = true; rw [g37]; rfl), .inl ⟨.bool false, u, run_bin_op rfl h42 h47 (by go_simp), rfl, hR, Below.refl _ _⟩⟩
                · -- 49
                  have h37 : ρ (.tmp 62) = .bool true := hd ⟨37, .data⟩ (by simp) rfl 62 rfl
                  have h48 : ρ (.tmp 73) = .bool false := hd ⟨48, .data⟩ (by simp) rfl 73 rfl
                  exact .inl ⟨rfl, .inl ⟨_, u, run_pick_op rfl h37, (by simpa using h48), hR, Below.refl _ _⟩⟩
            go_wp2
            refine wp_region_any (by kernel_rfl) ?_
            refine wpAny_vals (fun u => Below wr.heap.size wr u) (fun i v u => match i with
              | 0 => v = .slice (some ⟨bb, off, none⟩) n cap
              | 1 => v = .int .i64 (y : Int)
              | 2 => v = .pointer (some ⟨bb, off + y * 7, none⟩)
              | 3 => v = .pointer (some ⟨bb, off + y * 7, none⟩)
              | 4 => v = .int .i64 (f y).u
              | 5 => v = .slice (some ⟨bb, off, none⟩) n cap
              | 6 => v = .int .i64 (z : Int)
              | 7 => v = .pointer (some ⟨bb, off + z * 7, none⟩)
              | 8 => v = .pointer (some ⟨bb, off + z * 7, none⟩)
              | 9 => v = .int .i64 (f z).u
              | 10 => v = .bool true
              | 11 => v = .bool true
              | 12 => v = .slice (some ⟨bb, off, none⟩) n cap
              | 13 => v = .int .i64 (y : Int)
              | 14 => v = .pointer (some ⟨bb, off + y * 7, none⟩)
              | 15 => v = .pointer (some ⟨bb, off + y * 7 + 1, none⟩)
              | 16 => v = .int .i64 (f y).s
              | 17 => v = .slice (some ⟨bb, off, none⟩) n cap
              | 18 => v = .int .i64 (z : Int)
              | 19 => v = .pointer (some ⟨bb, off + z * 7, none⟩)
              | 20 => v = .pointer (some ⟨bb, off + z * 7 + 1, none⟩)
              | 21 => v = .int .i64 (f z).s
              | 22 => v = .bool true
              | 23 => v = .bool true
              | 24 => v = .bool true
              | 25 => v = .slice (some ⟨bb, off, none⟩) n cap
              | 26 => v = .int .i64 (y : Int)
              | 27 => v = .pointer (some ⟨bb, off + y * 7, none⟩)
              | 28 => v = .pointer (some ⟨bb, off + y * 7 + 2, none⟩)
              | 29 => v = .int .i64 (f y).lo
              | 30 => v = .slice (some ⟨bb, off, none⟩) n cap
              | 31 => v = .int .i64 (z : Int)
              | 32 => v = .pointer (some ⟨bb, off + z * 7, none⟩)
              | 33 => v = .pointer (some ⟨bb, off + z * 7 + 3, none⟩)
              | 34 => v = .int .i64 (f z).hi
              | 35 => v = .bool true
              | 36 => v = .bool true
              | 37 => v = .bool true
              | 38 => v = .slice (some ⟨bb, off, none⟩) n cap
              | 39 => v = .int .i64 (z : Int)
              | 40 => v = .pointer (some ⟨bb, off + z * 7, none⟩)
              | 41 => v = .pointer (some ⟨bb, off + z * 7 + 2, none⟩)
              | 42 => v = .int .i64 (f z).lo
              | 43 => v = .slice (some ⟨bb, off, none⟩) n cap
              | 44 => v = .int .i64 (y : Int)
              | 45 => v = .pointer (some ⟨bb, off + y * 7, none⟩)
              | 46 => v = .pointer (some ⟨bb, off + y * 7 + 3, none⟩)
              | 47 => v = .int .i64 (f y).hi
              | 48 => v = .bool true
              | 49 => v = .bool true
              | _ => True) (by kernel_rfl) (by kernel_rfl) (fun _ _ _ _ h _ => h) (Below.refl _ _).drew ?_ ?_ _ _ rfl (by decide) (fun i => by simp [Array.getD]; try (split <;> rfl))
            · intro vs u hR hall
              have e16 : vs 49 = .bool true := hall 49 (by simp)
              simp only [putsL]
              rw [e16]
              clear hall e16
              have BX := bel_next hbl hR
              clear hR CE hbl
              have hno : b = false := by cases b with | false => rfl | true => exact absurd (show ovl (f y) (f z) from ⟨h0, h1, h2, h3⟩) ((HB.out.1 rfl).2.2 z hlt y hlt2)
              subst hno
              go_simp
              go_wp2
              go_ret
              exact ⟨rfl, BX⟩
            · intro u i o ρ hR ho hρ hc hf hd
              have hi : i < 50 := by
                have := (Array.getElem?_eq_some_iff.1 ho).1
                simpa using this
              obtain rfl | rfl | rfl | rfl | rfl | rfl | rfl | rfl | rfl | rfl | rfl | rfl | rfl | rfl | rfl | rfl | rfl | rfl | rfl | rfl | rfl | rfl | rfl | rfl | rfl | rfl | rfl | rfl | rfl | rfl | rfl | rfl | rfl | rfl | rfl | rfl | rfl | rfl | rfl | rfl | rfl | rfl | rfl | rfl | rfl | rfl | rfl | rfl | rfl | rfl : i = 0 ∨ i = 1 ∨ i = 2 ∨ i = 3 ∨ i = 4 ∨ i = 5 ∨ i = 6 ∨ i = 7 ∨ i = 8 ∨ i = 9 ∨ i = 10 ∨ i = 11 ∨ i = 12 ∨ i = 13 ∨ i = 14 ∨ i = 15 ∨ i = 16 ∨ i = 17 ∨ i = 18 ∨ i = 19 ∨ i = 20 ∨ i = 21 ∨ i = 22 ∨ i = 23 ∨ i = 24 ∨ i = 25 ∨ i = 26 ∨ i = 27 ∨ i = 28 ∨ i = 29 ∨ i = 30 ∨ i = 31 ∨ i = 32 ∨ i = 33 ∨ i = 34 ∨ i = 35 ∨ i = 36 ∨ i = 37 ∨ i = 38 ∨ i = 39 ∨ i = 40 ∨ i = 41 ∨ i = 42 ∨ i = 43 ∨ i = 44 ∨ i = 45 ∨ i = 46 ∨ i = 47 ∨ i = 48 ∨ i = 49 := by omega
              all_goals (simp only [List.getElem?_toArray, List.getElem?_cons_zero, List.getElem?_cons_succ, Option.some.injEq] at ho; subst ho)
              · -- 0
                have s0 : ρ (.tmp 0) = .slice (some ⟨bb, off, none⟩) n cap := (hρ 0 (by kernel_rfl)).trans rfl
                exact .inl ⟨rfl, .inl ⟨_, u, rfl, s0, hR, Below.refl _ _⟩⟩
              · -- 1
                have s4 : ρ (.tmp 4) = .int .i64 (y : Int) := (hρ 4 (by kernel_rfl)).trans rfl
                exact .inl ⟨rfl, .inl ⟨_, u, rfl, s4, hR, Below.refl _ _⟩⟩
              · -- 2
                have h0 : ρ (.tmp 25) = .slice (some ⟨bb, off, none⟩) n cap := hd ⟨0, .data⟩ (by simp) rfl 25 rfl
                have h1 : ρ (.tmp 26) = .int .i64 (y : Int) := hd ⟨1, .data⟩ (by simp) rfl 26 rfl
                exact .inl ⟨rfl, .inl ⟨.pointer (some ⟨bb, off + y * 7, none⟩), u, run_index_op rfl h0 h1 (by go_simp), rfl, hR, Below.refl _ _⟩⟩
              · -- 3
                have h2 : ρ (.tmp 27) = .pointer (some ⟨bb, off + y * 7, none⟩) := hd ⟨2, .data⟩ (by simp) rfl 27 rfl
                exact .inl ⟨rfl, .inl ⟨.pointer (some ⟨bb, off + y * 7, none⟩), u, run_field_op rfl h2 (by go_simp), rfl, hR, Below.refl _ _⟩⟩
              · -- 4
                obtain ⟨q0, q1, q2, q3, p0, p1, p2, p3⟩ := CE.out u hR
                have h3 : ρ (.tmp 28) = .pointer (some ⟨bb, off + y * 7, none⟩) := hd ⟨3, .data⟩ (by simp) rfl 28 rfl
                have hr : (Instr.loadAt 3 (.pointer (some ⟨bb, off + y * 7, none⟩))).run Try.prog u = .ok (.int .i64 (f y).u) u := by go_simp
                exact .inl ⟨rfl, .inl ⟨.int .i64 (f y).u, u, run_load_op rfl h3 hr, rfl, hR, Below.refl _ _⟩⟩
              · -- 5
                have s0 : ρ (.tmp 0) = .slice (some ⟨bb, off, none⟩) n cap := (hρ 0 (by kernel_rfl)).trans rfl
                exact .inl ⟨rfl, .inl ⟨_, u, rfl, s0, hR, Below.refl _ _⟩⟩
              · -- 6
                have s3 : ρ (.tmp 3) = .int .i64 (z : Int) := (hρ 3 (by kernel_rfl)).trans rfl
                exact .inl ⟨rfl, .inl ⟨_, u, rfl, s3, hR, Below.refl _ _⟩⟩
              · -- 7
                have h5 : ρ (.tmp 30) = .slice (some ⟨bb, off, none⟩) n cap := hd ⟨5, .data⟩ (by simp) rfl 30 rfl
                have h6 : ρ (.tmp 31) = .int .i64 (z : Int) := hd ⟨6, .data⟩ (by simp) rfl 31 rfl
                exact .inl ⟨rfl, .inl ⟨.pointer (some ⟨bb, off + z * 7, none⟩), u, run_index_op rfl h5 h6 (by go_simp), rfl, hR, Below.refl _ _⟩⟩
              · -- 8
                have h7 : ρ (.tmp 32) = .pointer (some ⟨bb, off + z * 7, none⟩) := hd ⟨7, .data⟩ (by simp) rfl 32 rfl
                exact .inl ⟨rfl, .inl ⟨.pointer (some ⟨bb, off + z * 7, none⟩), u, run_field_op rfl h7 (by go_simp), rfl, hR, Below.refl _ _⟩⟩
              · -- 9
                obtain ⟨q0, q1, q2, q3, p0, p1, p2, p3⟩ := CE.out u hR
                have h8 : ρ (.tmp 33) = .pointer (some ⟨bb, off + z * 7, none⟩) := hd ⟨8, .data⟩ (by simp) rfl 33 rfl
                have hr : (Instr.loadAt 3 (.pointer (some ⟨bb, off + z * 7, none⟩))).run Try.prog u = .ok (.int .i64 (f z).u) u := by go_simp
                exact .inl ⟨rfl, .inl ⟨.int .i64 (f z).u, u, run_load_op rfl h8 hr, rfl, hR, Below.refl _ _⟩⟩
              · -- 10
                have h4 : ρ (.tmp 29) = .int .i64 (f y).u := hd ⟨4, .data⟩ (by simp) rfl 29 rfl
                have h9 : ρ (.tmp 34) = .int .i64 (f z).u := hd ⟨9, .data⟩ (by simp) rfl 34 rfl
                exact .inl ⟨rfl, .inl ⟨.bool true, u, run_bin_op rfl h4 h9 (by go_simp), rfl, hR, Below.refl _ _⟩⟩
              · -- 11
                have h10 : ρ (.tmp 35) = .bool true := hd ⟨10, .data⟩ (by simp) rfl 35 rfl
                exact .inl ⟨rfl, .inl ⟨_, u, rfl, h10, hR, Below.refl _ _⟩⟩
              · -- 12
                have g11 : ρ (.tmp 36) = .bool true := hd ⟨11, .guard⟩ (by simp) rfl 36 rfl
                have s0 : ρ (.tmp 0) = .slice (some ⟨bb, off, none⟩) n cap := (hρ 0 (by kernel_rfl)).trans rfl
                exact .inl ⟨(by show (match ρ (.tmp 36) with | .bool b => b == true | _ => false) = true; rw [g11]; rfl), .inl ⟨_, u, rfl, s0, hR, Below.refl _ _⟩⟩
              · -- 13
                have g11 : ρ (.tmp 36) = .bool true := hd ⟨11, .guard⟩ (by simp) rfl 36 rfl
                have s4 : ρ (.tmp 4) = .int .i64 (y : Int) := (hρ 4 (by kernel_rfl)).trans rfl
                exact .inl ⟨(by show (match ρ (.tmp 36) with | .bool b => b == true | _ => false) = true; rw [g11]; rfl), .inl ⟨_, u, rfl, s4, hR, Below.refl _ _⟩⟩
              · -- 14
                have g11 : ρ (.tmp 36) = .bool true := hd ⟨11, .guard⟩ (by simp) rfl 36 rfl
                have h12 : ρ (.tmp 37) = .slice (some ⟨bb, off, none⟩) n cap := hd ⟨12, .data⟩ (by simp) rfl 37 rfl
                have h13 : ρ (.tmp 38) = .int .i64 (y : Int) := hd ⟨13, .data⟩ (by simp) rfl 38 rfl
                exact .inl ⟨(by show (match ρ (.tmp 36) with | .bool b => b == true | _ => false) = true; rw [g11]; rfl), .inl ⟨.pointer (some ⟨bb, off + y * 7, none⟩), u, run_index_op rfl h12 h13 (by go_simp), rfl, hR, Below.refl _ _⟩⟩
              · -- 15
                have g11 : ρ (.tmp 36) = .bool true := hd ⟨11, .guard⟩ (by simp) rfl 36 rfl
                have h14 : ρ (.tmp 39) = .pointer (some ⟨bb, off + y * 7, none⟩) := hd ⟨14, .data⟩ (by simp) rfl 39 rfl
                exact .inl ⟨(by show (match ρ (.tmp 36) with | .bool b => b == true | _ => false) = true; rw [g11]; rfl), .inl ⟨.pointer (some ⟨bb, off + y * 7 + 1, none⟩), u, run_field_op rfl h14 (by go_simp), rfl, hR, Below.refl _ _⟩⟩
              · -- 16
                obtain ⟨q0, q1, q2, q3, p0, p1, p2, p3⟩ := CE.out u hR
                have g11 : ρ (.tmp 36) = .bool true := hd ⟨11, .guard⟩ (by simp) rfl 36 rfl
                have h15 : ρ (.tmp 40) = .pointer (some ⟨bb, off + y * 7 + 1, none⟩) := hd ⟨15, .data⟩ (by simp) rfl 40 rfl
                have hr : (Instr.loadAt 3 (.pointer (some ⟨bb, off + y * 7 + 1, none⟩))).run Try.prog u = .ok (.int .i64 (f y).s) u := by go_simp
                exact .inl ⟨(by show (match ρ (.tmp 36) with | .bool b => b == true | _ => false) = true; rw [g11]; rfl), .inl ⟨.int .i64 (f y).s, u, run_load_op rfl h15 hr, rfl, hR, Below.refl _ _⟩⟩
              · -- 17
                have g11 : ρ (.tmp 36) = .bool true := hd ⟨11, .guard⟩ (by simp) rfl 36 rfl
                have s0 : ρ (.tmp 0) = .slice (some ⟨bb, off, none⟩) n cap := (hρ 0 (by kernel_rfl)).trans rfl
                exact .inl ⟨(by show (match ρ (.tmp 36) with | .bool b => b == true | _ => false) = true; rw [g11]; rfl), .inl ⟨_, u, rfl, s0, hR, Below.refl _ _⟩⟩
              · -- 18
                have g11 : ρ (.tmp 36) = .bool true := hd ⟨11, .guard⟩ (by simp) rfl 36 rfl
                have s3 : ρ (.tmp 3) = .int .i64 (z : Int) := (hρ 3 (by kernel_rfl)).trans rfl
                exact .inl ⟨(by show (match ρ (.tmp 36) with | .bool b => b == true | _ => false) = true; rw [g11]; rfl), .inl ⟨_, u, rfl, s3, hR, Below.refl _ _⟩⟩
              · -- 19
                have g11 : ρ (.tmp 36) = .bool true := hd ⟨11, .guard⟩ (by simp) rfl 36 rfl
                have h17 : ρ (.tmp 42) = .slice (some ⟨bb, off, none⟩) n cap := hd ⟨17, .data⟩ (by simp) rfl 42 rfl
                have h18 : ρ (.tmp 43) = .int .i64 (z : Int) := hd ⟨18, .data⟩ (by simp) rfl 43 rfl
                exact .inl ⟨(by show (match ρ (.tmp 36) with | .bool b => b == true | _ => false) = true; rw [g11]; rfl), .inl ⟨.pointer (some ⟨bb, off + z * 7, none⟩), u, run_index_op rfl h17 h18 (by go_simp), rfl, hR, Below.refl _ _⟩⟩
              · -- 20
                have g11 : ρ (.tmp 36) = .bool true := hd ⟨11, .guard⟩ (by simp) rfl 36 rfl
                have h19 : ρ (.tmp 44) = .pointer (some ⟨bb, off + z * 7, none⟩) := hd ⟨19, .data⟩ (by simp) rfl 44 rfl
                exact .inl ⟨(by show (match ρ (.tmp 36) with | .bool b => b == true | _ => false) = true; rw [g11]; rfl), .inl ⟨.pointer (some ⟨bb, off + z * 7 + 1, none⟩), u, run_field_op rfl h19 (by go_simp), rfl, hR, Below.refl _ _⟩⟩
              · -- 21
                obtain ⟨q0, q1, q2, q3, p0, p1, p2, p3⟩ := CE.out u hR
                have g11 : ρ (.tmp 36) = .bool true := hd ⟨11, .guard⟩ (by simp) rfl 36 rfl
                have h20 : ρ (.tmp 45) = .pointer (some ⟨bb, off + z * 7 + 1, none⟩) := hd ⟨20, .data⟩ (by simp) rfl 45 rfl
                have hr : (Instr.loadAt 3 (.pointer (some ⟨bb, off + z * 7 + 1, none⟩))).run Try.prog u = .ok (.int .i64 (f z).s) u := by go_simp
                exact .inl ⟨(by show (match ρ (.tmp 36) with | .bool b => b == true | _ => false) = true; rw [g11]; rfl), .inl ⟨.int .i64 (f z).s, u, run_load_op rfl h20 hr, rfl, hR, Below.refl _ _⟩⟩
              · -- 22
                have g11 : ρ (.tmp 36) = .bool true := hd ⟨11, .guard⟩ (by simp) rfl 36 rfl
                have h16 : ρ (.tmp 41) = .int .i64 (f y).s := hd ⟨16, .data⟩ (by simp) rfl 41 rfl
                have h21 : ρ (.tmp 46) = .int .i64 (f z).s := hd ⟨21, .data⟩ (by simp) rfl 46 rfl
                exact .inl ⟨(by show (match ρ (.tmp 36) with | .bool b => b == true | _ => false) = true; rw [g11]; rfl), .inl ⟨.bool true, u, run_bin_op rfl h16 h21 (by go_simp), rfl, hR, Below.refl _ _⟩⟩
              · -- 23
                have h11 : ρ (.tmp 36) = .bool true := hd ⟨11, .data⟩ (by simp) rfl 36 rfl
                have h22 : ρ (.tmp 47) = .bool true := hd ⟨22, .data⟩ (by simp) rfl 47 rfl
                exact .inl ⟨rfl, .inl ⟨_, u, run_pick_op rfl h11, (by simpa using h22), hR, Below.refl _ _⟩⟩
              · -- 24
                have h23 : ρ (.tmp 48) = .bool true := hd ⟨23, .data⟩ (by simp) rfl 48 rfl
                exact .inl ⟨rfl, .inl ⟨_, u, rfl, h23, hR, Below.refl _ _⟩⟩
              · -- 25
                have g24 : ρ (.tmp 49) = .bool true := hd ⟨24, .guard⟩ (by simp) rfl 49 rfl
                have s0 : ρ (.tmp 0) = .slice (some ⟨bb, off, none⟩) n cap := (hρ 0 (by kernel_rfl)).trans rfl
                exact .inl ⟨(by show (match ρ (.tmp 49) with | .bool b => b == true | _ => false) = true; rw [g24]; rfl), .inl ⟨_, u, rfl, s0, hR, Below.refl _ _⟩⟩
              · -- 26
                have g24 : ρ (.tmp 49) = .bool true := hd ⟨24, .guard⟩ (by simp) rfl 49 rfl
                have s4 : ρ (.tmp 4) = .int .i64 (y : Int) := (hρ 4 (by kernel_rfl)).trans rfl
                exact .inl ⟨(by show (match ρ (.tmp 49) with | .bool b => b == true | _ => false) = true; rw [g24]; rfl), .inl ⟨_, u, rfl, s4, hR, Below.refl _ _⟩⟩
              · -- 27
                have g24 : ρ (.tmp 49) = .bool true := hd ⟨24, .guard⟩ (by simp) rfl 49 rfl
                have h25 : ρ (.tmp 50) = .slice (some ⟨bb, off, none⟩) n cap := hd ⟨25, .data⟩ (by simp) rfl 50 rfl
                have h26 : ρ (.tmp 51) = .int .i64 (y : Int) := hd ⟨26, .data⟩ (by simp) rfl 51 rfl
                exact .inl ⟨(by show (match ρ (.tmp 49) with | .bool b => b == true | _ => false) = true; rw [g24]; rfl), .inl ⟨.pointer (some ⟨bb, off + y * 7, none⟩), u, run_index_op rfl h25 h26 (by go_simp), rfl, hR, Below.refl _ _⟩⟩
              · -- 28
                have g24 : ρ (.tmp 49) = .bool true := hd ⟨24, .guard⟩ (by simp) rfl 49 rfl
                have h27 : ρ (.tmp 52) = .pointer (some ⟨bb, off + y * 7, none⟩) := hd ⟨27, .data⟩ (by simp) rfl 52 rfl
                exact .inl ⟨(by show (match ρ (.tmp 49) with | .bool b => b == true | _ => false) = true; rw [g24]; rfl), .inl ⟨.pointer (some ⟨bb, off + y * 7 + 2, none⟩), u, run_field_op rfl h27 (by go_simp), rfl, hR, Below.refl _ _⟩⟩
              · -- 29
                obtain ⟨q0, q1, q2, q3, p0, p1, p2, p3⟩ := CE.out u hR
                have g24 : ρ (.tmp 49) = .bool true := hd ⟨24, .guard⟩ (by simp) rfl 49 rfl
                have h28 : ρ (.tmp 53) = .pointer (some ⟨bb, off + y * 7 + 2, none⟩) := hd ⟨28, .data⟩ (by simp) rfl 53 rfl
                have hr : (Instr.loadAt 3 (.pointer (some ⟨bb, off + y * 7 + 2, none⟩))).run Try.prog u = .ok (.int .i64 (f y).lo) u := by go_simp
                exact .inl ⟨(by show (match ρ (.tmp 49) with | .bool b => b == true | _ => false) = true; rw [g24]; rfl), .inl ⟨.int .i64 (f y).lo, u, run_load_op rfl h28 hr, rfl, hR, Below.refl _ _⟩⟩
              · -- 30
                have g24 : ρ (.tmp 49) = .bool true := hd ⟨24, .guard⟩ (by simp) rfl 49 rfl
                have s0 : ρ (.tmp 0) = .slice (some ⟨bb, off, none⟩) n cap := (hρ 0 (by kernel_rfl)).trans rfl
                exact .inl ⟨(by show (match ρ (.tmp 49) with | .bool b => b == true | _ => false) = true; rw [g24]; rfl), .inl ⟨_, u, rfl, s0, hR, Below.refl _ _⟩⟩
              · -- 31
                have g24 : ρ (.tmp 49) = .bool true := hd ⟨24, .guard⟩ (by simp) rfl 49 rfl
                have s3 : ρ (.tmp 3) = .int .i64 (z : Int) := (hρ 3 (by kernel_rfl)).trans rfl
                exact .inl ⟨(by show (match ρ (.tmp 49) with | .bool b => b == true | _ => false) = true; rw [g24]; rfl), .inl ⟨_, u, rfl, s3, hR, Below.refl _ _⟩⟩
              · -- 32
                have g24 : ρ (.tmp 49) = .bool true := hd ⟨24, .guard⟩ (by simp) rfl 49 rfl
                have h30 : ρ (.tmp 55) = .slice (some ⟨bb, off, none⟩) n cap := hd ⟨30, .data⟩ (by simp) rfl 55 rfl
                have h31 : ρ (.tmp 56) = .int .i64 (z : Int) := hd ⟨31, .data⟩ (by simp) rfl 56 rfl
                exact .inl ⟨(by show (match ρ (.tmp 49) with | .bool b => b == true | _ => false) = true; rw [g24]; rfl), .inl ⟨.pointer (some ⟨bb, off + z * 7, none⟩), u, run_index_op rfl h30 h31 (by go_simp), rfl, hR, Below.refl _ _⟩⟩
              · -- 33
                have g24 : ρ (.tmp 49) = .bool true := hd ⟨24, .guard⟩ (by simp) rfl 49 rfl
                have h32 : ρ (.tmp 57) = .pointer (some ⟨bb, off + z * 7, none⟩) := hd ⟨32, .data⟩ (by simp) rfl 57 rfl
                exact .inl ⟨(by show (match ρ (.tmp 49) with | .bool b => b == true | _ => false) = true; rw [g24]; rfl), .inl ⟨.pointer (some ⟨bb, off + z * 7 + 3, none⟩), u, run_field_op rfl h32 (by go_simp), rfl, hR, Below.refl _ _⟩⟩
              · -- 34
                obtain ⟨q0, q1, q2, q3, p0, p1, p2, p3⟩ := CE.out u hR
                have g24 : ρ (.tmp 49) = .bool true := hd ⟨24, .guard⟩ (by simp) rfl 49 rfl
                have h33 : ρ (.tmp 58) = .pointer (some ⟨bb, off + z * 7 + 3, none⟩) := hd ⟨33, .data⟩ (by simp) rfl 58 rfl
                have hr : (Instr.loadAt 3 (.pointer (some ⟨bb, off + z * 7 + 3, none⟩))).run Try.prog u = .ok (.int .i64 (f z).hi) u := by go_simp
                exact .inl ⟨(by show (match ρ (.tmp 49) with | .bool b => b == true | _ => false) = true; rw [g24]; rfl), .inl ⟨.int .i64 (f z).hi, u, run_load_op rfl h33 hr, rfl, hR, Below.refl _ _⟩⟩
              · -- 35
                have g24 : ρ (.tmp 49) = .bool true := hd ⟨24, .guard⟩ (by simp) rfl 49 rfl
                have h29 : ρ (.tmp 54) = .int .i64 (f y).lo := hd ⟨29, .data⟩ (by simp) rfl 54 rfl
                have h34 : ρ (.tmp 59) = .int .i64 (f z).hi := hd ⟨34, .data⟩ (by simp) rfl 59 rfl
                exact .inl ⟨(by show (match ρ (.tmp 49) with | .bool b => b == true | _ => false) = true; rw [g24]; rfl), .inl ⟨.bool true, u, run_bin_op rfl h29 h34 (by go_simp), rfl, hR, Below.refl _ _⟩⟩
              · -- 36
                have h24 : ρ (.tmp 49) = .bool true := hd ⟨24, .data⟩ (by simp) rfl 49 rfl
                have h35 : ρ (.tmp 60) = .bool true := hd ⟨35, .data⟩ (by simp) rfl 60 rfl
                exact .inl ⟨rfl, .inl ⟨_, u, run_pick_op rfl h24, (by simpa using h35), hR, Below.refl _ _⟩⟩
              · -- 37
                have h36 : ρ (.tmp 61) = .bool true := hd ⟨36, .data⟩ (by simp) rfl 61 rfl
                exact .inl ⟨rfl, .inl ⟨_, u, rfl, h36, hR, Below.refl _ _⟩⟩
              · -- 38
                have g37 : ρ (.tmp 62) = .bool true := hd ⟨37, .guard⟩ (by simp) rfl 62 rfl
                have s0 : ρ (.tmp 0) = .slice (some ⟨bb, off, none⟩) n cap := (hρ 0 (by kernel_rfl)).trans rfl
                exact .inl ⟨(by show (match ρ (.tmp 62) with | .bool b => b == true | _ => false) = true; rw [g37]; rfl), .inl ⟨_, u, rfl, s0, hR, Below.refl _ _⟩⟩
              · -- 39
                have g37 : ρ (.tmp 62) = .bool true := hd ⟨37, .guard⟩ (by simp) rfl 62 rfl
                have s3 : ρ (.tmp 3) = .int .i64 (z : Int) := (hρ 3 (by kernel_rfl)).trans rfl
                exact .inl ⟨(by show (match ρ (.tmp 62) with | .bool b => b == true | _ => false) = true; rw [g37]; rfl), .inl ⟨_, u, rfl, s3, hR, Below.refl _ _⟩⟩
              · -- 40
                have g37 : ρ (.tmp 62) = .bool true := hd ⟨37, .guard⟩ (by simp) rfl 62 rfl
                have h38 : ρ (.tmp 63) = .slice (some ⟨bb, off, none⟩) n cap := hd ⟨38, .data⟩ (by simp) rfl 63 rfl
                have h39 : ρ (.tmp 64) = .int .i64 (z : Int) := hd ⟨39, .data⟩ (by simp) rfl 64 rfl
                exact .inl ⟨(by show (match ρ (.tmp 62) with | .bool b => b == true | _ => false) = true; rw [g37]; rfl), .inl ⟨.pointer (some ⟨bb, off + z * 7, none⟩), u, run_index_op rfl h38 h39 (by go_simp), rfl, hR, Below.refl _ _⟩⟩
              · -- 41
                have g37 : ρ (.tmp 62) = .bool true := hd ⟨37, .guard⟩ (by simp) rfl 62 rfl
                have h40 : ρ (.tmp 65) = .pointer (some ⟨bb, off + z * 7, none⟩) := hd ⟨40, .data⟩ (by simp) rfl 65 rfl
                exact .inl ⟨(by show (match ρ (.tmp 62) with | .bool b => b == true | _ => false) = true; rw [g37]; rfl), .inl ⟨.pointer (some ⟨bb, off + z * 7 + 2, none⟩), u, run_field_op rfl h40 (by go_simp), rfl, hR, Below.refl _ _⟩⟩
              · -- 42
                obtain ⟨q0, q1, q2, q3, p0, p1, p2, p3⟩ := CE.out u hR
                have g37 : ρ (.tmp 62) = .bool true := hd ⟨37, .guard⟩ (by simp) rfl 62 rfl
                have h41 : ρ (.tmp 66) = .pointer (some ⟨bb, off + z * 7 + 2, none⟩) := hd ⟨41, .data⟩ (by simp) rfl 66 rfl
                have hr : (Instr.loadAt 3 (.pointer (some ⟨bb, off + z * 7 + 2, none⟩))).run Try.prog u = .ok (.int .i64 (f z).lo) u := by go_simp
                exact .inl ⟨(by show (match ρ (.tmp 62) with | .bool b => b == true | _ => false) = true; rw [g37]; rfl), .inl ⟨.int .i64 (f z).lo, u, run_load_op rfl h41 hr, rfl, hR, Below.refl _ _⟩⟩
              · -- 43
                have g37 : ρ (.tmp 62) = .bool true := hd ⟨37, .guard⟩ (by simp) rfl 62 rfl
                have s0 : ρ (.tmp 0) = .slice (some ⟨bb, off, none⟩) n cap := (hρ 0 (by kernel_rfl)).trans rfl
                exact .inl ⟨(by show (match ρ (.tmp 62) with | .bool b => b == true | _ => false) = true; rw [g37]; rfl), .inl ⟨_, u, rfl, s0, hR, Below.refl _ _⟩⟩
              · -- 44
                have g37 : ρ (.tmp 62) = .bool true := hd ⟨37, .guard⟩ (by simp) rfl 62 rfl
                have s4 : ρ (.tmp 4) = .int .i64 (y : Int) := (hρ 4 (by kernel_rfl)).trans rfl
                exact .inl ⟨(by show (match ρ (.tmp 62) with | .bool b => b == true | _ => false) = true; rw [g37]; rfl), .inl ⟨_, u, rfl, s4, hR, Below.refl _ _⟩⟩
              · -- 45
                have g37 : ρ (.tmp 62) = .bool true := hd ⟨37, .guard⟩ (by simp) rfl 62 rfl
                have h43 : ρ (.tmp 68) = .slice (some ⟨bb, off, none⟩) n cap := hd ⟨43, .data⟩ (by simp) rfl 68 rfl
                have h44 : ρ (.tmp 69) = .int .i64 (y : Int) := hd ⟨44, .data⟩ (by simp) rfl 69 rfl
                exact .inl ⟨(by show (match ρ (.tmp 62) with | .bool b => b == true | _ => false) = true; rw [g37]; rfl), .inl ⟨.pointer (some ⟨bb, off + y * 7, none⟩), u, run_index_op rfl h43 h44 (by go_simp), rfl, hR, Below.refl _ _⟩⟩
              · -- 46
                have g37 : ρ (.tmp 62) = .bool true := hd ⟨37, .guard⟩ (by simp) rfl 62 rfl
                have h45 : ρ (.tmp 70) = .pointer (some ⟨bb, off + y * 7, none⟩) := hd ⟨45, .data⟩ (by simp) rfl 70 rfl
                exact .inl ⟨(by show (match ρ (.tmp 62) with | .bool b => b == true | _ => false) = true; rw [g37]; rfl), .inl ⟨.pointer (some ⟨bb, off + y * 7 + 3, none⟩), u, run_field_op rfl h45 (by go_simp), rfl, hR, Below.refl _ _⟩⟩
              · -- 47
                obtain ⟨q0, q1, q2, q3, p0, p1, p2, p3⟩ := CE.out u hR
                have g37 : ρ (.tmp 62) = .bool true := hd ⟨37, .guard⟩ (by simp) rfl 62 rfl
                have h46 : ρ (.tmp 71) = .pointer (some ⟨bb, off + y * 7 + 3, none⟩) := hd ⟨46, .data⟩ (by simp) rfl 71 rfl
                have hr : (Instr.loadAt 3 (.pointer (some ⟨bb, off + y * 7 + 3, none⟩))).run Try.prog u = .ok (.int .i64 (f y).hi) u := by go_simp
                exact .inl ⟨(by show (match ρ (.tmp 62) with | .bool b => b == true | _ => false) = true; rw [g37]; rfl), .inl ⟨.int .i64 (f y).hi, u, run_load_op rfl h46 hr, rfl, hR, Below.refl _ _⟩⟩
              · -- 48
                have g37 : ρ (.tmp 62) = .bool true := hd ⟨37, .guard⟩ (by simp) rfl 62 rfl
                have h42 : ρ (.tmp 67) = .int .i64 (f z).lo := hd ⟨42, .data⟩ (by simp) rfl 67 rfl
                have h47 : ρ (.tmp 72) = .int .i64 (f y).hi := hd ⟨47, .data⟩ (by simp) rfl 72 rfl
                exact .inl ⟨(by show (match ρ (.tmp 62) with | .bool b => b == true | _ => false) = true; rw [g37]; rfl), .inl ⟨.bool true, u, run_bin_op rfl h42 h47 (by go_simp), rfl, hR, Below.refl _ _⟩⟩
              · -- 49
                have h37 : ρ (.tmp 62) = .bool true := hd ⟨37, .data⟩ (by simp) rfl 62 rfl
                have h48 : ρ (.tmp 73) = .bool true := hd ⟨48, .data⟩ (by simp) rfl 73 rfl
                exact .inl ⟨rfl, .inl ⟨_, u, run_pick_op rfl h37, (by simpa using h48), hR, Below.refl _ _⟩⟩
        · rw [decide_eq_false ho]
          have hno : b = false := by cases b with | false => rfl | true => exact absurd ((HB.out.1 rfl).2.1 z hlt) ho
          subst hno
          go_wp2
          go_ret
          exact ⟨rfl, B2⟩
      · have hi : ¬ (z : Int) < (n : Int) := by omega
        have hyes : b = true := HB.out.2 ⟨by omega, fun k hk => HZ.out.1 k (by omega), fun i hi k hk => HZ.out.2 i (by omega) k hk⟩
        subst hyes
        clear hs
        go_wp2
        go_ret
        exact ⟨rfl, hbl⟩

end Go.Proofs.Ytgnmnbimmfknpaa

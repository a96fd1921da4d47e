/- Texts that the proof needs, joined: Hr2 HrM Tk1 Tk2 Ta F1. -/
import Derived.Test.YtmhdneenjoelfaaGreatY10
import Derived.ArgAppend
import Derived.Test.YtmhdneenjoelfaaGreatY7
namespace Go.Proofs.YtmhdneenjoelfaaGreat
open Go.RowKit Go.Joins
set_option linter.unusedVariables false
set_option linter.unusedSimpArgs false
def RgS (S : World → Prop) (g s : Nat) (t : TypeId) (zs cs : Array Value) (l : Nat → Bool) (σ : Nat → Value) (u : World) : Prop := S u ∧ (l s = false → Blk u g t zs) ∧ (l s = true → Blk u g t cs)
theorem TopL.below9 {w w' : World} {base hi : Nat} {t : TypeId} {s : Nat} {v : Value} {n : Nat} {G : Nat → El} (h : TopL w base hi t s v n G) (hb : Below w.heap.size w w') {hi' : Nat} (hh : hi ≤ hi') : TopL w' base hi' t s v n G := by
  obtain ⟨F, β, h1, h2, h3, h4⟩ := h
  exact ⟨F, β, h1.below hb, h2.below hb, by omega, fun g o m c e h0 => by have := h4 g o m c e h0; omega⟩
theorem TopL.keptT {w w' : World} {base hi gx : Nat} {t t' : TypeId} {s : Nat} {v : Value} {n : Nat} {G : Nat → El} (h : TopL w base hi t s v n G) (hg : w.grownBy w' (some gx)) (hx : ExB w gx t') (h0 : t' ≠ t) (k1 : t' ≠ 3) (k2 : t' ≠ 4) {hi' : Nat} (hh : hi ≤ hi') : TopL w' base hi' t s v n G := by
  obtain ⟨F, β, h1, h2, h3, h4⟩ := h
  exact ⟨F, β, h1.kept hg (.inr ⟨t', hx, h0⟩), h2.keptT hg hx k1 k2, by omega, fun g o m c e h0 => by have := h4 g o m c e h0; omega⟩
def SH (w : World) (B hi n cp l1 l2 c1 c2 : Nat) (f : Nat → Ca) (L : La) (a a1 a2 : Option Addr) (kd fl pl nn : Int) (q1 q2 : Option Addr) (m1 m2 k1 k2 : Nat) (a6 : Option Addr) (cp6 : Nat) (r1 r2 : Option Addr) (d1 d2 : Nat) (u : World) : Prop :=
  LnPB u w.heap.size hi n f L a6 cp6 r1 r2 l1 l2 d1 d2 ∧ Blk u hi 32 (lac L a6 n cp6 r1 r2 l1 l2 d1 d2) ∧ Blk u (B + 1) 37 (rpL kd fl pl nn q1 q2 m1 m2 k1 k2) ∧ Blk u B 32 (lac L a n cp a1 a2 l1 l2 c1 c2) ∧ Below w.heap.size w u ∧ w.heap.size = B ∧ B + 1 + 1 < hi
end Go.Proofs.YtmhdneenjoelfaaGreat
namespace Go.Proofs.YtmhdneenjoelfaaGreat
open Go.RowKit Go.Joins
set_option linter.unusedVariables false
set_option linter.unusedSimpArgs false
set_option maxRecDepth 20000 in
set_option maxHeartbeats 4000000 in
theorem markLine_pb (L : La) (a a1 a2 : Option Addr) (n cp l1 l2 c1 c2 base s : Nat) (f : Nat → Ca) (hi : Nat) (w : World) (h : LnPB w base hi n f L a cp a1 a2 l1 l2 c1 c2) (hb : base ≤ w.heap.size) (hs : s ≤ 100) (hG : SmL n f l1 l2) :
    Calls Tryz.prog 19 #[.agg (lac L a n cp a1 a2 l1 l2 c1 c2), .int .i64 (s : Int)] w fun e w' => e = .returned (.int .i64 ((msCa s f n + l1 + l2 : Nat) : Int)) ∧ LnPB w' base hi n (fun k => mkCa (msCa s f k) (f k)) (mkL (msCa s f n) L) a cp a1 a2 l1 l2 c1 c2 ∧ Below base w w' ∧ Keep hi w w' := by
  obtain ⟨hl1, hl2, F, β, h3, h4, h5, h6, h7, h8, z1, z2, z3, z4⟩ := h
  have HZ : Hid ((∀ k, 0 < n → (Value.slice a n cp).ownBlock = some k → k < hi) ∧ (∀ k j, j < n → Ob (F j) k → k < hi) ∧ (∀ k, (Value.slice a1 l1 c1).ownBlock = some k → k < hi) ∧ (∀ k, (Value.slice a2 l2 c2).ownBlock = some k → k < hi)) := ⟨z1, z2, z3, z4⟩
  clear z1 z2 z3 z4
  obtain ⟨B, hB⟩ : ∃ B, B = w.heap.size := ⟨_, rfl⟩
  obtain ⟨W, hW⟩ : ∃ W, W = w.alloc (.cells (lac L a n cp a1 a2 l1 l2 c1 c2) 32) := ⟨_, rfl⟩
  have bW : Below w.heap.size w W := by rw [hW]; exact bel_alloc _ _
  have A0 : Blk W B 32 (lac L a n cp a1 a2 l1 l2 c1 c2) := by rw [hW, hB]; exact Blk.new _ _ _
  have H0 : Hid (OwnO W base 30 9 (.slice a n cp) n F ∧ InE W base β F (fun k => caE (f k)) n ∧ OwnI W base (.slice a1 l1 c1) L.c.ws ∧ OwnB W base (.slice a2 l2 c2) L.c.bs ∧ Blk W B 32 (lac L a n cp a1 a2 l1 l2 c1 c2) ∧ Below w.heap.size w W ∧ (∀ j, j < n → ¬ Ob (F j) B) ∧ base ≤ w.heap.size ∧ SmL n f l1 l2) := ⟨h3.below bW, h4.below bW, h5.below bW, h6.below bW, A0, bW, fun j hj ho => by have := (h4.ob hj ho).2.2; omega, hb, hG⟩
  have HD : Hid (l1 = L.c.ws.length ∧ l2 = L.c.bs.length ∧ (∀ k, (Value.slice a1 l1 c1).ownBlock = some k → ∀ j, j < n → ¬ Ob (F j) k) ∧ (∀ k, (Value.slice a2 l2 c2).ownBlock = some k → ∀ j, j < n → ¬ Ob (F j) k)) := ⟨hl1, hl2, h7, h8⟩
  clear hl1 hl2 h3 h4 h5 h6 h7 h8 bW hG hb
  obtain ⟨⟨x0, x1, x2, x3, x4, x5, x6, x7, x8, x9, x10, x11, x12, x13, x14, x15, x16⟩, xf⟩ := A0.svn
  clear A0 xf
  go_enter Tryz.func19, Tryz.ntmps19
  go_upto_region 1 with fail
  rw [← hW, ← hB]
  clear hW hB
  go_wp2_with fail
  refine (markCallS_L a n cp base s f F β _ H0.out.1 H0.out.2.1 hs H0.out.2.2.2.2.2.2.2.2.ca).mono ?_
  rintro e w1 ⟨rfl, ⟨F', q1, q2, q5⟩, q3, q4⟩
  obtain ⟨x, hx⟩ : ∃ x : Nat, x = msCa s f n := ⟨_, rfl⟩
  rw [← hx]
  have H1 : Hid (OwnO w1 base 30 9 (.slice a n cp) n F' ∧ InE w1 base β F' (fun k => caE (mkCa (msCa s f k) (f k))) n ∧ OwnI w1 base (.slice a1 l1 c1) L.c.ws ∧ OwnB w1 base (.slice a2 l2 c2) L.c.bs ∧ Blk w1 B 32 (lac L a n cp a1 a2 l1 l2 c1 c2) ∧ Below base w w1 ∧ x = msCa s f n ∧ base ≤ w1.heap.size ∧ (∀ j, j < n → ∀ k, Ob (F' j) k ↔ Ob (F j) k) ∧ Keep hi w w1) := by
    have f0 := H0.out
    have hBl := f0.2.2.2.2.1.lt
    refine ⟨q1, q2, row_same f0.2.2.1 (fun g hg => ?_), row_same f0.2.2.2.1 (fun g hg => ?_), ?_, (f0.2.2.2.2.2.1.mono f0.2.2.2.2.2.2.2.1).trans q3, hx, Nat.le_trans f0.2.2.2.2.2.2.2.1 (Nat.le_trans f0.2.2.2.2.2.1.size q4.1), q5, Nat.le_trans f0.2.2.2.2.2.1.size q4.1, fun k hk hl => ?_⟩
    · exact q4.2 g (World.ownsRow.lt f0.2.2.1 g hg).2 (fun hq => row_noEx f0.2.2.1 hg (by decide) (f0.1.blk hq.1 hq.2).1) (by rintro ⟨j, hj, ho⟩; exact HD.out.2.2.1 g hg j hj ho)
    · exact q4.2 g (World.ownsRow.lt f0.2.2.2.1 g hg).2 (fun hq => row_noEx f0.2.2.2.1 hg (by decide) (f0.1.blk hq.1 hq.2).1) (by rintro ⟨j, hj, ho⟩; exact HD.out.2.2.2 g hg j hj ho)
    · unfold Blk
      rw [q4.2 B hBl (fun hq => Blk.noEx f0.2.2.2.2.1 (by decide) (f0.1.blk hq.1 hq.2).1) (by rintro ⟨j, hj, ho⟩; exact f0.2.2.2.2.2.2.1 j hj ho)]
      exact f0.2.2.2.2.1
    · rw [q4.2 k (Nat.lt_of_lt_of_le hl f0.2.2.2.2.2.1.size) (fun hq => by have := HZ.out.1 k hq.1 hq.2; omega) (by rintro ⟨j, hj, ho⟩; have := HZ.out.2.1 k j hj ho; omega)]
      exact f0.2.2.2.2.2.1.block k hl
  clear q1 q2 q3 q4 q5 hx x0 x1 x2 x3 x4 x5 x6 x7 x8 x9 x10 x11 x12 x13 x14 x15 x16
  obtain ⟨⟨x0, x1, x2, x3, x4, x5, x6, x7, x8, x9, x10, x11, x12, x13, x14, x15, x16⟩, xf⟩ := H1.out.2.2.2.2.1.svn
  clear xf
  go_wp2_with fail
  refine (markCallL L.c a1 a2 l1 l2 c1 c2 base x L.c.ws L.c.bs _ H1.out.2.2.1 H1.out.2.2.2.1 H1.out.2.2.2.2.2.2.2.1 (H0.out.2.2.2.2.2.2.2.2.ms).1 (H0.out.2.2.2.2.2.2.2.2.ms).2.1 (by have := H1.out.2.2.2.2.2.2.1; rw [this]; exact (H0.out.2.2.2.2.2.2.2.2.ms).2.2 s hs)).mono ?_
  rintro e w2 ⟨rfl, m⟩
  obtain ⟨y, hy⟩ : ∃ y : Nat, y = x + l1 + l2 := ⟨_, rfl⟩
  rw [← hy]
  have H2 : Hid (y = msCa s f n + l1 + l2 ∧ LnPB w2 base hi n (fun k => mkCa (msCa s f k) (f k)) (mkL (msCa s f n) L) a cp a1 a2 l1 l2 c1 c2 ∧ Below base w w2 ∧ Keep hi w w2) := by
    have f1 := H1.out
    have d := HD.out
    obtain ⟨m1, m2, m3, m4⟩ := m
    have hxx := f1.2.2.2.2.2.2.1
    refine ⟨by omega, ⟨by simp [mkL, marksI_length]; exact d.1, by simp [mkL, marksB_length]; exact d.2.1, F', β, ?_, ?_, ?_, ?_, fun k hk j hj ho => d.2.2.1 k hk j hj ((f1.2.2.2.2.2.2.2.2.1 j hj k).1 ho), fun k hk j hj ho => d.2.2.2 k hk j hj ((f1.2.2.2.2.2.2.2.2.1 j hj k).1 ho), HZ.out.1, fun k j hj ho => HZ.out.2.1 k j hj ((f1.2.2.2.2.2.2.2.2.1 j hj k).1 ho), HZ.out.2.2.1, HZ.out.2.2.2⟩, f1.2.2.2.2.2.1.trans m4, f1.2.2.2.2.2.2.2.2.2.trans ⟨m3.1, fun k hk hl => m3.2 k hl (fun e9 => by have := HZ.out.2.2.1 k e9; omega) (fun e9 => by have := HZ.out.2.2.2 k e9; omega)⟩⟩
    · rcases f1.1 with q | ⟨g, o, c', hv, hbg, hR⟩
      · exact .inl q
      · refine .inr ⟨g, o, c', hv, hbg, ?_⟩
        obtain ⟨cs, r1, r2⟩ := hR
        refine ⟨cs, ?_, r2⟩
        rw [m3.2 g (Array.getElem?_eq_some_iff.1 r1).1 (row_noBlk f1.2.2.1 (show Blk w1 g 30 cs from r1) (by decide)) (row_noBlk f1.2.2.2.1 (show Blk w1 g 30 cs from r1) (by decide))]
        exact r1
    · obtain ⟨i0, i1, i2⟩ := f1.2.1
      refine ⟨i0, i1, fun k hk => ?_⟩
      obtain ⟨b1, b2, k1, k2, e, o1, o2, t1, t2⟩ := i2 k hk
      have hob : ∀ g, (Value.slice b1 (caE (mkCa (msCa s f k) (f k))).ws.length k1).ownBlock = some g ∨ (Value.slice b2 (caE (mkCa (msCa s f k) (f k))).bs.length k2).ownBlock = some g → Ob (F k) g := fun g hg => (f1.2.2.2.2.2.2.2.2.1 k hk g).1 (by rw [e]; exact (Ob_els (by simp [caE, Value.ownBlock]) (by simp [caE, Value.ownBlock])).2 hg)
      refine ⟨b1, b2, k1, k2, e, row_same o1 (fun g hg => ?_), row_same o2 (fun g hg => ?_), t1, t2⟩
      · exact m3.2 g (World.ownsRow.lt o1 g hg).2 (fun e9 => d.2.2.1 g e9 k hk (hob g (.inl hg))) (fun e9 => d.2.2.2 g e9 k hk (hob g (.inl hg)))
      · exact m3.2 g (World.ownsRow.lt o2 g hg).2 (fun e9 => d.2.2.1 g e9 k hk (hob g (.inr hg))) (fun e9 => d.2.2.2 g e9 k hk (hob g (.inr hg)))
    · show OwnI w2 base (.slice a1 l1 c1) (marksI (msCa s f n) L.c.ws.length)
      rw [← hxx, ← d.1]; exact m1
    · show OwnB w2 base (.slice a2 l2 c2) (marksB (msCa s f n + L.c.ws.length) L.c.bs.length)
      rw [← hxx, ← d.1, ← d.2.1]; exact m2
  clear m hy x0 x1 x2 x3 x4 x5 x6 x7 x8 x9 x10 x11 x12 x13 x14 x15 x16 H0 H1
  go_wp2
  go_ret
  exact ⟨by rw [← H2.out.1]; rfl, H2.out.2.1, H2.out.2.2.1, H2.out.2.2.2⟩
theorem LnPB.cut {w w' : World} {base hi n cp l1 l2 c1 c2 : Nat} {f : Nat → Ca} {L : La} {a a1 a2 : Option Addr} (h : LnPB w base hi n f L a cp a1 a2 l1 l2 c1 c2) (hb : ∀ k, k < hi → k < w.heap.size → w'.heap[k]? = w.heap[k]?) : LnPB w' base hi n f L a cp a1 a2 l1 l2 c1 c2 := by
  obtain ⟨h1, h2, F, β, h3, h4, h5, h6, h7, h8, h9, h10, h11, h12⟩ := h
  refine ⟨h1, h2, F, β, ?_, ?_, row_same h5 (fun g hg => hb g (h11 g hg) (World.ownsRow.lt h5 g hg).2), row_same h6 (fun g hg => hb g (h12 g hg) (World.ownsRow.lt h6 g hg).2), h7, h8, h9, h10, h11, h12⟩
  · rcases h3 with q | ⟨g, o, c', hv, hbg, cs, r1, r2⟩
    · exact .inl q
    · by_cases h0 : n = 0
      · subst h0; exact .inl ⟨rfl, _, _, hv⟩
      · have hg := h9 g (by omega) (by rw [hv]; rfl)
        exact .inr ⟨g, o, c', hv, hbg, cs, by rw [hb g hg (Array.getElem?_eq_some_iff.1 r1).1]; exact r1, r2⟩
  · obtain ⟨i0, i1, i2⟩ := h4
    refine ⟨i0, i1, fun k hk => ?_⟩
    obtain ⟨b1, b2, k1, k2, e, o1, o2, t1, t2⟩ := i2 k hk
    have hob : ∀ g, (Value.slice b1 (caE (f k)).ws.length k1).ownBlock = some g ∨ (Value.slice b2 (caE (f k)).bs.length k2).ownBlock = some g → g < hi := fun g hg => h10 g k hk (by rw [e]; exact (Ob_els (by simp [caE, Value.ownBlock]) (by simp [caE, Value.ownBlock])).2 hg)
    exact ⟨b1, b2, k1, k2, e, row_same o1 (fun g hg => hb g (hob g (.inl hg)) (World.ownsRow.lt o1 g hg).2), row_same o2 (fun g hg => hb g (hob g (.inr hg)) (World.ownsRow.lt o2 g hg).2), t1, t2⟩
theorem TopL.cut {w w' : World} {base hi n : Nat} {t : TypeId} {s : Nat} {v : Value} {G : Nat → El} (h : TopL w base hi t s v n G) (hb : ∀ k, k < hi → k < w.heap.size → w'.heap[k]? = w.heap[k]?) : TopL w' base hi t s v n G := by
  obtain ⟨F, β, h3, ⟨i0, i1, i2⟩, h5, h6⟩ := h
  refine ⟨F, β, ?_, ⟨i0, i1, fun k hk => ?_⟩, h5, h6⟩
  · rcases h3 with q | ⟨g, o, c', hv, hbg, cs, r1, r2⟩
    · exact .inl q
    · by_cases h0 : n = 0
      · subst h0; exact .inl ⟨rfl, _, _, hv⟩
      · have hg := h6 g o n c' hv (by omega)
        exact .inr ⟨g, o, c', hv, hbg, cs, by rw [hb g hg (Array.getElem?_eq_some_iff.1 r1).1]; exact r1, r2⟩
  · obtain ⟨b1, b2, k1, k2, e, o1, o2, t1, t2⟩ := i2 k hk
    have hm := bt_mono i1 (show k + 1 ≤ n by omega)
    exact ⟨b1, b2, k1, k2, e, row_same o1 (fun g hg => hb g (by have := t1 g hg; omega) (World.ownsRow.lt o1 g hg).2), row_same o2 (fun g hg => hb g (by have := t2 g hg; omega) (World.ownsRow.lt o2 g hg).2), t1, t2⟩
theorem TopL.keep {w w' : World} {hx base hi n : Nat} {t : TypeId} {s : Nat} {v : Value} {G : Nat → El} (h : TopL w base hi t s v n G) (hk : Keep hx w w') (hb : hx ≤ base) : TopL w' base hi t s v n G := by
  obtain ⟨F, β, h3, ⟨i0, i1, i2⟩, h5, h6⟩ := h
  refine ⟨F, β, ?_, ⟨i0, i1, fun k hk' => ?_⟩, h5, h6⟩
  · rcases h3 with q | ⟨g, o, c', hv, hbg, cs, r1, r2⟩
    · exact .inl q
    · exact .inr ⟨g, o, c', hv, hbg, cs, by rw [hk.2 g (by omega) (Array.getElem?_eq_some_iff.1 r1).1]; exact r1, r2⟩
  · obtain ⟨b1, b2, k1, k2, e, o1, o2, t1, t2⟩ := i2 k hk'
    have hlo := bt_mono i1 (Nat.zero_le k)
    exact ⟨b1, b2, k1, k2, e, hk.row o1 (by omega), hk.row o2 (by omega), t1, t2⟩
theorem TopL.up {w : World} {base hi hi' n : Nat} {t : TypeId} {s : Nat} {v : Value} {G : Nat → El} (h : TopL w base hi t s v n G) (hh : hi ≤ hi') : TopL w base hi' t s v n G := by
  obtain ⟨F, β, h3, h4, h5, h6⟩ := h
  exact ⟨F, β, h3, h4, by omega, fun g o m c e h0 => by have := h6 g o m c e h0; omega⟩
theorem TopL.sl {w : World} {base hi n m c : Nat} {t : TypeId} {s : Nat} {a : Option Addr} {G : Nat → El} (h : TopL w base hi t s (.slice a m c) n G) : SlL w a s n G := by
  obtain ⟨F, β, h3, h4, _⟩ := h
  exact OwnL.sl ⟨F, β, h3, h4⟩
def RgQ (w8 : World) (m s S : Nat) (St : World → Nat → Prop) (l : Nat → Bool) (σ : Nat → Value) (u : World) : Prop :=
  Below w8.heap.size w8 u ∧ (l m = true → ∃ g, σ S = .pointer (some ⟨g, 0, none⟩) ∧ w8.heap.size ≤ g ∧ (l s = false → Blk u g 32 lzc) ∧ (l s = true → St u g))
end Go.Proofs.YtmhdneenjoelfaaGreat
namespace Go.Proofs.YtmhdneenjoelfaaGreat
open Go.RowKit Go.Joins
set_option linter.unusedVariables false
set_option linter.unusedSimpArgs false
abbrev rqLL (kd pl nn wa : Int) (a1 a2 : Option Addr) (l1 l2 c1 c2 : Nat) : List Value := [.int .i64 kd, .int .i64 pl, .int .i64 nn, .slice a1 l1 c1, .slice a2 l2 c2, .int .i64 wa]
abbrev od0 : Array Value := #[.int .i64 0, .int .i64 0, .int .i64 0, .int .i64 0, .int .i64 0, .slice none 0 0, .slice none 0 0, .int .i64 0]
def odL (L : La) : Od := ⟨L.nu, L.c.un, L.c.kd, L.c.pl, L.c.n, L.c.wa, L.c.ws, L.c.bs⟩
def RgT (S : World → Prop) (g s : Nat) (t : TypeId) (zs : Array Value) (St : World → Prop) (l : Nat → Bool) (σ : Nat → Value) (u : World) : Prop := S u ∧ (l s = false → Blk u g t zs) ∧ (l s = true → St u)
theorem RgT.next {S : World → Prop} {g s : Nat} {t : TypeId} {zs : Array Value} {St : World → Prop} {l : Nat → Bool} {σ σ' : Nat → Value} {u u' : World} (h : RgT S g s t zs St l σ u) {i : Nat} (hi : i ≠ s) (hS : S u') (hb : Below u.heap.size u u') (hSt : St u → St u') : RgT S g s t zs St (updB l i) σ' u' := by
  refine ⟨hS, ?_, ?_⟩
  · rw [updB_ne hi]; exact fun e => (h.2.1 e).below hb
  · rw [updB_ne hi]; exact fun e => hSt (h.2.2 e)
theorem lac_req {u : World} {B n xc l1 l2 e1 e2 : Nat} {L : La} {xa y1 y2 : Option Addr} {t : TypeId} (q0 : Blk u B t (lac L xa n xc y1 y2 l1 l2 e1 e2)) : u.rangeAt B 5 (rqLL L.c.kd L.c.pl L.c.n L.c.wa y1 y2 l1 l2 e1 e2) := q0.range 5 _ (fun j hj => by
  have hj' : j < 6 := hj
  obtain rfl | rfl | rfl | rfl | rfl | rfl : j = 0 ∨ j = 1 ∨ j = 2 ∨ j = 3 ∨ j = 4 ∨ j = 5 := by omega
  all_goals rfl)
def OdS (g lo : Nat) (O : Od) (l1 l2 : Nat) (u : World) : Prop := ∃ u1 u2 t1 t2, Blk u g 83 (odc O u1 u2 l1 l2 t1 t2) ∧ OwnI u lo (.slice u1 l1 t1) O.ws ∧ OwnB u lo (.slice u2 l2 t2) O.bs
theorem OdS.below {g lo l1 l2 : Nat} {O : Od} {u u' : World} (h : OdS g lo O l1 l2 u) (hb : Below u.heap.size u u') : OdS g lo O l1 l2 u' := by
  obtain ⟨u1, u2, t1, t2, h1, h2, h3⟩ := h
  exact ⟨u1, u2, t1, t2, h1.below hb, h2.below hb, h3.below hb⟩
def OrdP (w w' : World) (e : Ending) (B : Nat) (O : Od) (l1 l2 : Nat) (cs : Array Value) : Prop :=
  ∃ u1 u2 t1 t2, e = .returned (.agg (odc O u1 u2 l1 l2 t1 t2)) ∧ OwnI w' w.heap.size (.slice u1 l1 t1) O.ws ∧ OwnB w' w.heap.size (.slice u2 l2 t2) O.bs ∧ Blk w' B 32 cs ∧ w.grownBy w' (some B)
theorem wr08b (v0 v1 v2 v3 v4 v5 v6 v7 x0 x1 x2 x3 x4 x5 x6 x7 : Value) : wrA #[v0, v1, v2, v3, v4, v5, v6, v7] 0 [x0, x1, x2, x3, x4, x5, x6, x7] = #[x0, x1, x2, x3, x4, x5, x6, x7] := by simp [wrA]
theorem lwr12_1 (v0 v1 v2 v3 v4 v5 v6 v7 v8 v9 v10 v11 v12 v13 v14 v15 v16 x12 : Value) : wrA #[v0, v1, v2, v3, v4, v5, v6, v7, v8, v9, v10, v11, v12, v13, v14, v15, v16] 12 [x12] = #[v0, v1, v2, v3, v4, v5, v6, v7, v8, v9, v10, v11, x12, v13, v14, v15, v16] := by simp [wrA]
theorem lwr13_1 (v0 v1 v2 v3 v4 v5 v6 v7 v8 v9 v10 v11 v12 v13 v14 v15 v16 x13 : Value) : wrA #[v0, v1, v2, v3, v4, v5, v6, v7, v8, v9, v10, v11, v12, v13, v14, v15, v16] 13 [x13] = #[v0, v1, v2, v3, v4, v5, v6, v7, v8, v9, v10, v11, v12, x13, v14, v15, v16] := by simp [wrA]
theorem lwr1_1 (v0 v1 v2 v3 v4 v5 v6 v7 v8 v9 v10 v11 v12 v13 v14 v15 v16 x1 : Value) : wrA #[v0, v1, v2, v3, v4, v5, v6, v7, v8, v9, v10, v11, v12, v13, v14, v15, v16] 1 [x1] = #[v0, x1, v2, v3, v4, v5, v6, v7, v8, v9, v10, v11, v12, v13, v14, v15, v16] := by simp [wrA]
theorem lwr11_1 (v0 v1 v2 v3 v4 v5 v6 v7 v8 v9 v10 v11 v12 v13 v14 v15 v16 x11 : Value) : wrA #[v0, v1, v2, v3, v4, v5, v6, v7, v8, v9, v10, v11, v12, v13, v14, v15, v16] 11 [x11] = #[v0, v1, v2, v3, v4, v5, v6, v7, v8, v9, v10, x11, v12, v13, v14, v15, v16] := by simp [wrA]
theorem lwr14_1 (v0 v1 v2 v3 v4 v5 v6 v7 v8 v9 v10 v11 v12 v13 v14 v15 v16 x14 : Value) : wrA #[v0, v1, v2, v3, v4, v5, v6, v7, v8, v9, v10, v11, v12, v13, v14, v15, v16] 14 [x14] = #[v0, v1, v2, v3, v4, v5, v6, v7, v8, v9, v10, v11, v12, v13, x14, v15, v16] := by simp [wrA]
theorem gr_tr {w u u' : World} {B D : Nat} (g : w.grownBy u (some B)) (g3 : u.grownBy u' (some D)) (hD : D = B ∨ w.heap.size ≤ D) : w.grownBy u' (some B) := by
  refine ⟨g3.os.trans g.os, g3.tape.trans g.tape, g3.output.trans g.output, Nat.le_trans g.size g3.size, fun k hk hne => ?_⟩
  rw [g3.block k (Nat.lt_of_lt_of_le hk g.size) (fun e => by have := Option.some.inj e; rcases hD with h | h; (subst h; exact hne e); omega), g.block k hk hne]
theorem gr_bel {w u u' : World} {B : Nat} (g : w.grownBy u (some B)) (b : Below u.heap.size u u') : w.grownBy u' (some B) := gr_tr g (grown_below b (some B)) (.inl rfl)
def MgO (u u' : World) : Prop := Below u.heap.size u u' ∨ ∃ g, u.grownBy u' (some g) ∧ ExB u g 83
theorem MgO.i {base : Nat} {v : Value} {zs : List Int} {u u' : World} (hm : MgO u u') (h : OwnI u base v zs) : OwnI u' base v zs := by
  rcases hm with hb | ⟨g, hg, hx⟩
  · exact h.below hb
  · exact row_noT h hg hx (by decide)
theorem MgO.b {base : Nat} {v : Value} {zs : List Bool} {u u' : World} (hm : MgO u u') (h : OwnB u base v zs) : OwnB u' base v zs := by
  rcases hm with hb | ⟨g, hg, hx⟩
  · exact h.below hb
  · exact row_noT h hg hx (by decide)
set_option maxRecDepth 20000 in
set_option maxHeartbeats 2000000 in
theorem order_any (L : La) (a a1 a2 : Option Addr) (n cp l1 l2 c1 c2 B b : Nat) (now : Int) (w : World) (hB : Blk w B 32 (lac L a n cp a1 a2 l1 l2 c1 c2)) (e1 : l1 = L.c.ws.length) (e2 : l2 = L.c.bs.length) (o1 : OwnI w b (.slice a1 l1 c1) L.c.ws) (o2 : OwnB w b (.slice a2 l2 c2) L.c.bs) (hl1 : l1 ≤ 2000000) (hl2 : l2 ≤ 2000000) (hx : inB now 0 4294967295 = true) (hwt : inB L.wt 0 4294967295 = true) :
    Calls Tryz.prog 99 #[.pointer (some ⟨B, 0, none⟩), .int .i64 now] w fun e w' => OrdP w w' e B (odL L) l1 l2 (lac { L with du := tkO now L.wt } a n cp a1 a2 l1 l2 c1 c2) := by
  obtain ⟨Br, hBr⟩ : ∃ Br, Br = w.heap.size := ⟨_, rfl⟩
  obtain ⟨W, hW⟩ : ∃ W, W = w.alloc (.cells od0 83) := ⟨_, rfl⟩
  obtain ⟨W1, hW1⟩ : ∃ W1, W1 = setL W B 12 [.int .i64 (tkO now L.wt)] := ⟨_, rfl⟩
  have bW : Below w.heap.size w W := by rw [hW]; exact bel_alloc _ _
  have hBl := hB.lt
  have A0 : Blk W B 32 (lac L a n cp a1 a2 l1 l2 c1 c2) := hB.below bW
  have HB : Hid (Blk W1 B 32 (lac { L with du := tkO now L.wt } a n cp a1 a2 l1 l2 c1 c2) ∧ Blk W1 Br 83 od0 ∧ w.grownBy W1 (some B) ∧ w.heap.size = Br ∧ B < Br) := by
    have g1 : W.grownBy W1 (some B) := by rw [hW1]; exact setL_gw _ _ _
    refine ⟨?_, by rw [hW1, hW, hBr]; exact Blk.stNe (by omega) _ _ (Blk.new w _ _), gr_tr (grown_below bW (some B)) g1 (.inl rfl), hBr.symm, by omega⟩
    rw [hW1, show lac { L with du := tkO now L.wt } a n cp a1 a2 l1 l2 c1 c2 = wrA (lac L a n cp a1 a2 l1 l2 c1 c2) 12 [.int .i64 (tkO now L.wt)] from (lwr12_1 _ _ _ _ _ _ _ _ _ _ _ _ _ _ _ _ _ _).symm]; exact Blk.stL _ _ A0
  have HC : Hid (l1 = L.c.ws.length ∧ l2 = L.c.bs.length ∧ inB now 0 4294967295 = true ∧ inB L.wt 0 4294967295 = true ∧ OwnI w b (.slice a1 l1 c1) L.c.ws ∧ OwnB w b (.slice a2 l2 c2) L.c.bs ∧ ExB w B 32) := ⟨e1, e2, hx, hwt, o1, o2, ⟨_, hB⟩⟩
  have y15 : W.cell? ⟨B, 15, none⟩ = some (.int .i64 L.wt) := A0.cell 15 rfl
  have y12 : W.cell? ⟨B, 12, none⟩ = some (.int .i64 L.du) := A0.cell 12 rfl
  have yf := A0.fro 12
  clear bW hB A0 e1 e2 o1 o2 hx hwt hBl
  go_enter Tryz.func99, Tryz.ntmps99
  go_upto_region 1 with fail
  rw [← hW, ← hBr]
  clear hW hBr
  go_wp2_with fail
  refine (implTickOn_in now L.wt _ HC.out.2.2.1 HC.out.2.2.2.1).mono ?_
  rintro e w1 ⟨rfl, hw1⟩
  have hw1 := hw1.symm
  subst hw1
  have hW1' : W1 = W.setCell ⟨B, 12, none⟩ (.int .i64 (tkO now L.wt)) := hW1
  clear hW1
  go_upto_region 2 with fail
  rw [← hW1']
  clear hW1' y15 y12 yf
  try go_simp
  refine wp_region_any (by kernel_rfl) ?_
  refine wpAny_valy (RgT (fun u => w.grownBy u (some B) ∧ Blk u B 32 (lac { L with du := tkO now L.wt } a n cp a1 a2 l1 l2 c1 c2)) Br 16 83 od0 (OdS Br w.heap.size (odL L) l1 l2)) MgO (fun i v u => match i with
    | 0 => v = .pointer (some ⟨B, 0, none⟩)
    | 1 => v = .pointer (some ⟨B, 0, none⟩)
    | 2 => v = .pointer (some ⟨B, 11, none⟩)
    | 3 => v = .int .i64 L.nu
    | 4 => v = .pointer (some ⟨B, 0, none⟩)
    | 5 => v = .pointer (some ⟨B, 0, none⟩)
    | 6 => v = .pointer (some ⟨B, 2, none⟩)
    | 7 => v = .pointer (some ⟨B, 4, none⟩)
    | 8 => v = .int .i64 L.c.un
    | 9 => v = .pointer (some ⟨B, 0, none⟩)
    | 10 => v = .pointer (some ⟨B, 0, none⟩)
    | 11 => v = .pointer (some ⟨B, 2, none⟩)
    | 12 => v = .pointer (some ⟨B, 5, none⟩)
    | 13 => v = .agg (rqL L.c.kd L.c.pl L.c.n L.c.wa a1 a2 l1 l2 c1 c2)
    | 14 => ∃ u1 u2 t1 t2, v = .agg (rqL L.c.kd L.c.pl L.c.n L.c.wa u1 u2 l1 l2 t1 t2) ∧ OwnI u w.heap.size (.slice u1 l1 t1) L.c.ws ∧ OwnB u w.heap.size (.slice u2 l2 t2) L.c.bs
    | 15 => ∃ u1 u2 t1 t2, v = .agg (odc (odL L) u1 u2 l1 l2 t1 t2) ∧ OwnI u w.heap.size (.slice u1 l1 t1) L.c.ws ∧ OwnB u w.heap.size (.slice u2 l2 t2) L.c.bs
    | _ => True) (by kernel_rfl) (by kernel_rfl) ?_ (fun u => .inl (Below.refl _ _)) ⟨by first | exact ⟨HB.out.2.2.1, HB.out.1⟩ | exact ⟨gr_bel HB.out.2.2.1 ((Below.refl _ _).drew), HB.out.1.below ((Below.refl _ _).drew)⟩, (fun _ => by first | exact HB.out.2.1 | exact HB.out.2.1.below ((Below.refl _ _).drew)), (fun h => by cases h)⟩ ?_ ?_ _ _ rfl (by decide) (fun i => by simp [Array.getD]; try (split <;> rfl))
  · intro i v u u' h hm
    match i with
    | 14 =>
      obtain ⟨u1, u2, t1, t2, e, h1, h2⟩ := h
      exact ⟨u1, u2, t1, t2, e, hm.i h1, hm.b h2⟩
    | 15 =>
      obtain ⟨u1, u2, t1, t2, e, h1, h2⟩ := h
      exact ⟨u1, u2, t1, t2, e, hm.i h1, hm.b h2⟩
    | 0 | 1 | 2 | 3 | 4 | 5 | 6 | 7 | 8 | 9 | 10 | 11 | 12 | 13 => exact h
    | _ + 16 => trivial
  rotate_left
  · intro u i o ρ l hR ho hli hcl hρ hc hf hdep hv
    have hi' : i < 17 := by
      have := (Array.getElem?_eq_some_iff.1 ho).1
      simpa using this
    obtain rfl | rfl | rfl | rfl | rfl | rfl | rfl | rfl | rfl | rfl | rfl | rfl | rfl | rfl | rfl | rfl | rfl : i = 0 ∨ i = 1 ∨ i = 2 ∨ i = 3 ∨ i = 4 ∨ i = 5 ∨ i = 6 ∨ i = 7 ∨ i = 8 ∨ i = 9 ∨ i = 10 ∨ i = 11 ∨ i = 12 ∨ i = 13 ∨ i = 14 ∨ i = 15 ∨ i = 16 := by omega
    all_goals (simp only [List.getElem?_toArray, List.getElem?_cons_zero, List.getElem?_cons_succ, Option.some.injEq] at ho; subst ho)
    · have s0 : ρ (.tmp 0) = .pointer (some ⟨B, 0, none⟩) := (hρ 0 (by kernel_rfl)).trans rfl
      exact .inl ⟨rfl, .inl ⟨_, u, rfl, s0, (hR.next (by decide) hR.1 (Below.refl _ _) (fun h => h)), .inl (Below.refl _ _)⟩⟩
    · have h0 : ρ (.tmp 14) = .pointer (some ⟨B, 0, none⟩) := hv 0 14 rfl (hdep ⟨0, .data⟩ (by simp) rfl)
      exact .inl ⟨rfl, .inl ⟨_, u, run_nil_op rfl h0, rfl, (hR.next (by decide) hR.1 (Below.refl _ _) (fun h => h)), .inl (Below.refl _ _)⟩⟩
    · have h1 : ρ (.tmp 15) = .pointer (some ⟨B, 0, none⟩) := hv 1 15 rfl (hdep ⟨1, .data⟩ (by simp) rfl)
      exact .inl ⟨rfl, .inl ⟨.pointer (some ⟨B, 11, none⟩), u, run_field_op rfl h1 (by go_simp), rfl, (hR.next (by decide) hR.1 (Below.refl _ _) (fun h => h)), .inl (Below.refl _ _)⟩⟩
    · have h2 : ρ (.tmp 16) = .pointer (some ⟨B, 11, none⟩) := hv 2 16 rfl (hdep ⟨2, .data⟩ (by simp) rfl)
      obtain ⟨⟨y0, y1, y2, y3, y4, y5, y6, y7, y8, y9, y10, y11, y12, y13, y14, y15, y16⟩, _⟩ := hR.1.2.svn
      have hr : (Instr.loadAt 3 (.pointer (some ⟨B, 11, none⟩))).run Tryz.prog u = .ok (.int .i64 L.nu) u := by go_simp
      exact .inl ⟨rfl, .inl ⟨_, u, run_load_op rfl h2 hr, rfl, (hR.next (by decide) hR.1 (Below.refl _ _) (fun h => h)), .inl (Below.refl _ _)⟩⟩
    · have s0 : ρ (.tmp 0) = .pointer (some ⟨B, 0, none⟩) := (hρ 0 (by kernel_rfl)).trans rfl
      exact .inl ⟨rfl, .inl ⟨_, u, rfl, s0, (hR.next (by decide) hR.1 (Below.refl _ _) (fun h => h)), .inl (Below.refl _ _)⟩⟩
    · have h4 : ρ (.tmp 18) = .pointer (some ⟨B, 0, none⟩) := hv 4 18 rfl (hdep ⟨4, .data⟩ (by simp) rfl)
      exact .inl ⟨rfl, .inl ⟨_, u, run_nil_op rfl h4, rfl, (hR.next (by decide) hR.1 (Below.refl _ _) (fun h => h)), .inl (Below.refl _ _)⟩⟩
    · have h5 : ρ (.tmp 19) = .pointer (some ⟨B, 0, none⟩) := hv 5 19 rfl (hdep ⟨5, .data⟩ (by simp) rfl)
      exact .inl ⟨rfl, .inl ⟨.pointer (some ⟨B, 2, none⟩), u, run_field_op rfl h5 (by go_simp), rfl, (hR.next (by decide) hR.1 (Below.refl _ _) (fun h => h)), .inl (Below.refl _ _)⟩⟩
    · have h6 : ρ (.tmp 20) = .pointer (some ⟨B, 2, none⟩) := hv 6 20 rfl (hdep ⟨6, .data⟩ (by simp) rfl)
      exact .inl ⟨rfl, .inl ⟨.pointer (some ⟨B, 4, none⟩), u, run_field_op rfl h6 (by go_simp), rfl, (hR.next (by decide) hR.1 (Below.refl _ _) (fun h => h)), .inl (Below.refl _ _)⟩⟩
    · have h7 : ρ (.tmp 21) = .pointer (some ⟨B, 4, none⟩) := hv 7 21 rfl (hdep ⟨7, .data⟩ (by simp) rfl)
      obtain ⟨⟨y0, y1, y2, y3, y4, y5, y6, y7, y8, y9, y10, y11, y12, y13, y14, y15, y16⟩, _⟩ := hR.1.2.svn
      have hr : (Instr.loadAt 3 (.pointer (some ⟨B, 4, none⟩))).run Tryz.prog u = .ok (.int .i64 L.c.un) u := by go_simp
      exact .inl ⟨rfl, .inl ⟨_, u, run_load_op rfl h7 hr, rfl, (hR.next (by decide) hR.1 (Below.refl _ _) (fun h => h)), .inl (Below.refl _ _)⟩⟩
    · have s0 : ρ (.tmp 0) = .pointer (some ⟨B, 0, none⟩) := (hρ 0 (by kernel_rfl)).trans rfl
      exact .inl ⟨rfl, .inl ⟨_, u, rfl, s0, (hR.next (by decide) hR.1 (Below.refl _ _) (fun h => h)), .inl (Below.refl _ _)⟩⟩
    · have h9 : ρ (.tmp 23) = .pointer (some ⟨B, 0, none⟩) := hv 9 23 rfl (hdep ⟨9, .data⟩ (by simp) rfl)
      exact .inl ⟨rfl, .inl ⟨_, u, run_nil_op rfl h9, rfl, (hR.next (by decide) hR.1 (Below.refl _ _) (fun h => h)), .inl (Below.refl _ _)⟩⟩
    · have h10 : ρ (.tmp 24) = .pointer (some ⟨B, 0, none⟩) := hv 10 24 rfl (hdep ⟨10, .data⟩ (by simp) rfl)
      exact .inl ⟨rfl, .inl ⟨.pointer (some ⟨B, 2, none⟩), u, run_field_op rfl h10 (by go_simp), rfl, (hR.next (by decide) hR.1 (Below.refl _ _) (fun h => h)), .inl (Below.refl _ _)⟩⟩
    · have h11 : ρ (.tmp 25) = .pointer (some ⟨B, 2, none⟩) := hv 11 25 rfl (hdep ⟨11, .data⟩ (by simp) rfl)
      exact .inl ⟨rfl, .inl ⟨.pointer (some ⟨B, 5, none⟩), u, run_field_op rfl h11 (by go_simp), rfl, (hR.next (by decide) hR.1 (Below.refl _ _) (fun h => h)), .inl (Below.refl _ _)⟩⟩
    · have h12 : ρ (.tmp 26) = .pointer (some ⟨B, 5, none⟩) := hv 12 26 rfl (hdep ⟨12, .data⟩ (by simp) rfl)
      exact .inl ⟨rfl, .inl ⟨_, u, run_load_op rfl h12 (run_loadAt_mid u B 5 28 (rqLL L.c.kd L.c.pl L.c.n L.c.wa a1 a2 l1 l2 c1 c2) _ (lac_req (L := { L with du := tkO now L.wt }) hR.1.2) Tryz.underlying28 rfl (by kernel_rfl)), rfl, (hR.next (by decide) hR.1 (Below.refl _ _) (fun h => h)), .inl (Below.refl _ _)⟩⟩
    · have h13 : ρ (.tmp 27) = .agg (rqL L.c.kd L.c.pl L.c.n L.c.wa a1 a2 l1 l2 c1 c2) := hv 13 27 rfl (hdep ⟨13, .data⟩ (by simp) rfl)
      refine .inl ⟨rfl, .inr (.inl ⟨_, _, run_call_op rfl (hf _) (args := #[.agg (rqL L.c.kd L.c.pl L.c.n L.c.wa a1 a2 l1 l2 c1 c2)]) (by simp [h13]) (by kernel_rfl), ?_⟩)⟩
      have p1 := (row_noT HC.out.2.2.2.2.1 hR.1.1 HC.out.2.2.2.2.2.2 (by decide))
      have p2 := (row_noT HC.out.2.2.2.2.2.1 hR.1.1 HC.out.2.2.2.2.2.2 (by decide))
      refine (implCopyReq_any L.c.kd L.c.pl L.c.n L.c.wa a1 a2 l1 l2 c1 c2 L.c.ws L.c.bs _ HC.out.1 HC.out.2.1 (OwnI.sl p1).2 (OwnB.sl p2).2 hl1 hl2).mono ?_
      rintro e u' ⟨u1, u2, t1, t2, he, i1, i2, b'⟩
      exact ⟨_, he, ⟨u1, u2, t1, t2, rfl, OwnI.mono (show OwnI _ _ _ _ from i1) hR.1.1.size, OwnB.mono (show OwnB _ _ _ _ from i2) hR.1.1.size⟩, hR.next (by decide) ⟨gr_bel hR.1.1 b', hR.1.2.below b'⟩ b' (fun h => h.below b'), .inl b'⟩
    · have h3 : ρ (.tmp 17) = .int .i64 L.nu := hv 3 17 rfl (hdep ⟨3, .data⟩ (by simp) rfl)
      have h8 : ρ (.tmp 22) = .int .i64 L.c.un := hv 8 22 rfl (hdep ⟨8, .data⟩ (by simp) rfl)
      obtain ⟨u1, u2, t1, t2, h14, j1, j2⟩ : ∃ u1 u2 t1 t2, ρ (.tmp 28) = .agg (rqL L.c.kd L.c.pl L.c.n L.c.wa u1 u2 l1 l2 t1 t2) ∧ OwnI u w.heap.size (.slice u1 l1 t1) L.c.ws ∧ OwnB u w.heap.size (.slice u2 l2 t2) L.c.bs := hv 14 28 rfl (hdep ⟨14, .data⟩ (by simp) rfl)
      exact .inl ⟨rfl, .inl ⟨.agg (odc (odL L) u1 u2 l1 l2 t1 t2), u, run_bld_op rfl (qs := #[(0, .int .i64 L.nu), (1, .int .i64 L.c.un), (2, .agg (rqL L.c.kd L.c.pl L.c.n L.c.wa u1 u2 l1 l2 t1 t2))]) (by simp only [List.map_toArray, List.map_cons, List.map_nil, h3, h8, h14]) (by kernel_rfl), ⟨u1, u2, t1, t2, rfl, j1, j2⟩, (hR.next (by decide) hR.1 (Below.refl _ _) (fun h => h)), .inl (Below.refl _ _)⟩⟩
    · obtain ⟨u1, u2, t1, t2, h15, j1, j2⟩ : ∃ u1 u2 t1 t2, ρ (.tmp 29) = .agg (odc (odL L) u1 u2 l1 l2 t1 t2) ∧ OwnI u w.heap.size (.slice u1 l1 t1) L.c.ws ∧ OwnB u w.heap.size (.slice u2 l2 t2) L.c.bs := hv 15 29 rfl (hdep ⟨15, .data⟩ (by simp) rfl)
      have s4 : ρ (.tmp 4) = .pointer (some ⟨Br, 0, none⟩) := (hρ 4 (by kernel_rfl)).trans rfl
      have hz := hR.2.1 hli
      have hr : (Instr.storeAt 83 (.pointer (some ⟨Br, 0, none⟩)) (.agg (odc (odL L) u1 u2 l1 l2 t1 t2))).run Tryz.prog u = .ok () (setL u Br 0 (odcL (odL L) u1 u2 l1 l2 t1 t2)) := by
        rw [run_storeAt_mid u Br 0 83 (odc (odL L) u1 u2 l1 l2 t1 t2) (hz.there 0 8 (by simp)) (by kernel_rfl) (by simp [Value.oneCell']), setCells_L]
      have gg : u.grownBy (setL u Br 0 (odcL (odL L) u1 u2 l1 l2 t1 t2)) (some Br) := setL_gw _ _ _
      have hx9 : ExB u Br 83 := ⟨_, hz⟩
      refine .inl ⟨rfl, .inr (.inr ⟨rfl, _, run_store_op rfl s4 h15 hr, ⟨⟨gr_tr hR.1.1 gg (.inr (by have := HB.out; omega)), Blk.stNe (by have := HB.out; omega) _ _ hR.1.2⟩, (fun h => by have h9 : updB l 16 16 = true := rfl; rw [h9] at h; cases h), fun _ => ⟨u1, u2, t1, t2, ?_, row_noT j1 gg hx9 (by decide), row_noT j2 gg hx9 (by decide)⟩⟩, .inr ⟨Br, gg, hx9⟩⟩)⟩
      rw [show odc (odL L) u1 u2 l1 l2 t1 t2 = wrA od0 0 (odcL (odL L) u1 u2 l1 l2 t1 t2) from (wr08b _ _ _ _ _ _ _ _ _ _ _ _ _ _ _ _).symm]; exact Blk.stL _ _ hz
  intro vs σ u hR hσ hall
  obtain ⟨u1, u2, t1, t2, X9, o1, o2⟩ := hR.2.2 rfl
  have H9 : Hid (Blk u Br 83 (odc (odL L) u1 u2 l1 l2 t1 t2) ∧ OwnI u w.heap.size (.slice u1 l1 t1) L.c.ws ∧ OwnB u w.heap.size (.slice u2 l2 t2) L.c.bs ∧ Blk u B 32 (lac { L with du := tkO now L.wt } a n cp a1 a2 l1 l2 c1 c2) ∧ w.grownBy u (some B)) := ⟨X9, o1, o2, hR.1.2, hR.1.1⟩
  simp only [putsL]
  clear hall hσ hR X9 o1 o2 HB HC
  try go_simp
  go_wp2
  try go_simp
  refine bodyPost_ret (v := .agg (odc (odL L) u1 u2 l1 l2 t1 t2)) (results_cell Tryz.results99 rfl (run_loadVar_mid _ _ _ 83 (odcL (odL L) u1 u2 l1 l2 t1 t2) _ H9.out.1.all Tryz.underlying83 rfl (by kernel_rfl))) rfl ?_
  exact ⟨u1, u2, t1, t2, rfl, H9.out.2.1, H9.out.2.2.1, H9.out.2.2.2.1, H9.out.2.2.2.2⟩
set_option maxRecDepth 20000 in
set_option maxHeartbeats 2000000 in
theorem askAgain_any (L : La) (a a1 a2 : Option Addr) (n cp l1 l2 c1 c2 B b : Nat) (now : Int) (w : World) (hB : Blk w B 32 (lac L a n cp a1 a2 l1 l2 c1 c2)) (e1 : l1 = L.c.ws.length) (e2 : l2 = L.c.bs.length) (o1 : OwnI w b (.slice a1 l1 c1) L.c.ws) (o2 : OwnB w b (.slice a2 l2 c2) L.c.bs) (hl1 : l1 ≤ 2000000) (hl2 : l2 ≤ 2000000) (hx : inB now 0 4294967295 = true) (hwt : inB L.wt 0 4294967295 = true) (hle : 0 < L.le ∧ L.le ≤ 5) :
    Calls Tryz.prog 43 #[.pointer (some ⟨B, 0, none⟩), .int .i64 now] w fun e w' => OrdP w w' e B (odL L) l1 l2 (lac { L with le := L.le - 1, du := tkO now L.wt } a n cp a1 a2 l1 l2 c1 c2) := by
  obtain ⟨Br, hBr⟩ : ∃ Br, Br = w.heap.size := ⟨_, rfl⟩
  obtain ⟨W, hW⟩ : ∃ W, W = w.alloc (.cells od0 83) := ⟨_, rfl⟩
  obtain ⟨W1, hW1⟩ : ∃ W1, W1 = setL W B 13 [.int .i64 (L.le - 1)] := ⟨_, rfl⟩
  have bW : Below w.heap.size w W := by rw [hW]; exact bel_alloc _ _
  have hBl := hB.lt
  have A0 : Blk W B 32 (lac L a n cp a1 a2 l1 l2 c1 c2) := hB.below bW
  have hwr : IntKind.i64.wrap (L.le - 1) = L.le - 1 := by rw [IntKind.wrap_i64]; omega
  have HB : Hid (Blk W1 B 32 (lac { L with le := L.le - 1 } a n cp a1 a2 l1 l2 c1 c2) ∧ Blk W1 Br 83 od0 ∧ w.grownBy W1 (some B) ∧ w.heap.size = Br ∧ B < Br ∧ OwnI W1 b (.slice a1 l1 c1) L.c.ws ∧ OwnB W1 b (.slice a2 l2 c2) L.c.bs) := by
    have g1 : W.grownBy W1 (some B) := by rw [hW1]; exact setL_gw _ _ _
    have g2 := gr_tr (grown_below bW (some B)) g1 (.inl rfl)
    have hxb : ExB w B 32 := ⟨_, hB⟩
    refine ⟨?_, by rw [hW1, hW, hBr]; exact Blk.stNe (by omega) _ _ (Blk.new w _ _), g2, hBr.symm, by omega, row_noT o1 g2 hxb (by decide), row_noT o2 g2 hxb (by decide)⟩
    rw [hW1, show lac { L with le := L.le - 1 } a n cp a1 a2 l1 l2 c1 c2 = wrA (lac L a n cp a1 a2 l1 l2 c1 c2) 13 [.int .i64 (L.le - 1)] from (lwr13_1 _ _ _ _ _ _ _ _ _ _ _ _ _ _ _ _ _ _).symm]; exact Blk.stL _ _ A0
  have HC : Hid (l1 = L.c.ws.length ∧ l2 = L.c.bs.length ∧ inB now 0 4294967295 = true ∧ inB L.wt 0 4294967295 = true) := ⟨e1, e2, hx, hwt⟩
  have y13 : W.cell? ⟨B, 13, none⟩ = some (.int .i64 L.le) := A0.cell 13 rfl
  have yf := A0.fro 13
  clear bW hB A0 e1 e2 o1 o2 hx hwt hBl hle
  go_enter Tryz.func43, Tryz.ntmps43
  go_upto_region 1 with fail
  rw [← hW, ← hBr]
  clear hW hBr
  have hW1' : W1 = W.setCell ⟨B, 13, none⟩ (.int .i64 (L.le - 1)) := hW1
  clear hW1
  go_upto_region 2 with fail
  rw [← hW1']
  clear hW1' y13 yf hwr
  go_wp2_with fail
  refine (order_any { L with le := L.le - 1 } a a1 a2 n cp l1 l2 c1 c2 B b now _ HB.out.1 HC.out.1 HC.out.2.1 HB.out.2.2.2.2.2.1 HB.out.2.2.2.2.2.2 hl1 hl2 HC.out.2.2.1 HC.out.2.2.2).mono ?_
  rintro e w2 ⟨u1, u2, t1, t2, rfl, i1, i2, X2, g2⟩
  have HD : Hid (Blk w2 Br 83 od0 ∧ OwnI w2 w.heap.size (.slice u1 l1 t1) L.c.ws ∧ OwnB w2 w.heap.size (.slice u2 l2 t2) L.c.bs ∧ Blk w2 B 32 (lac { L with le := L.le - 1, du := tkO now L.wt } a n cp a1 a2 l1 l2 c1 c2) ∧ w.grownBy w2 (some B) ∧ w.heap.size = Br ∧ B < Br) := by
    have h9 := HB.out
    exact ⟨h9.2.1.grown g2 (by intro e9; have := Option.some.inj e9; omega), OwnI.mono (show OwnI _ _ _ _ from i1) h9.2.2.1.size, OwnB.mono (show OwnB _ _ _ _ from i2) h9.2.2.1.size, X2, gr_tr h9.2.2.1 g2 (.inl rfl), h9.2.2.2.1, h9.2.2.2.2.1⟩
  clear i1 i2 X2 g2 HB
  rename_i hK
  refine hK _ _ ?_
  clear hK
  refine wpList_store_mid rfl 83 (.tmp 4) (.tmp 14) rfl Br 0 (odc (odL L) u1 u2 l1 l2 t1 t2) rfl rfl (HD.out.1.there 0 8 (by simp)) (by kernel_rfl) (by simp [Value.oneCell']) ?_
  rw [setCells_L]
  refine wpList_nil ?_
  have H9 : Hid (Blk (setL w2 Br 0 (odcL (odL L) u1 u2 l1 l2 t1 t2)) Br 83 (odc (odL L) u1 u2 l1 l2 t1 t2) ∧ OrdP w (setL w2 Br 0 (odcL (odL L) u1 u2 l1 l2 t1 t2)) (.returned (.agg (odc (odL L) u1 u2 l1 l2 t1 t2))) B (odL L) l1 l2 (lac { L with le := L.le - 1, du := tkO now L.wt } a n cp a1 a2 l1 l2 c1 c2)) := by
    have h9 := HD.out
    have gg : w2.grownBy (setL w2 Br 0 (odcL (odL L) u1 u2 l1 l2 t1 t2)) (some Br) := setL_gw _ _ _
    have hx9 : ExB w2 Br 83 := ⟨_, h9.1⟩
    refine ⟨?_, u1, u2, t1, t2, rfl, row_noT h9.2.1 gg hx9 (by decide), row_noT h9.2.2.1 gg hx9 (by decide), Blk.stNe (by omega) _ _ h9.2.2.2.1, gr_tr h9.2.2.2.2.1 gg (.inr (by omega))⟩
    rw [show odc (odL L) u1 u2 l1 l2 t1 t2 = wrA od0 0 (odcL (odL L) u1 u2 l1 l2 t1 t2) from (wr08b _ _ _ _ _ _ _ _ _ _ _ _ _ _ _ _).symm]; exact Blk.stL _ _ h9.1
  clear HD HC
  go_wp2
  refine bodyPost_ret (v := .agg (odc (odL L) u1 u2 l1 l2 t1 t2)) (results_cell Tryz.results43 rfl (run_loadVar_mid _ _ _ 83 (odcL (odL L) u1 u2 l1 l2 t1 t2) _ H9.out.1.all Tryz.underlying83 rfl (by kernel_rfl))) rfl ?_
  exact H9.out.2
end Go.Proofs.YtmhdneenjoelfaaGreat
namespace Go.Proofs.YtmhdneenjoelfaaGreat
open Go.RowKit Go.Joins
set_option linter.unusedVariables false
set_option linter.unusedSimpArgs false
theorem sl1r (g o n cp : Nat) (u : World) (h1 : 1 ≤ n) : (Instr.sliceAt 24 (.slice (some ⟨g, o, none⟩) n cp) (some (.int .i64 1)) none none).run Tryz.prog u = .ok (.slice (if cp = 1 then some ⟨g, o, none⟩ else some ⟨g, o + 9, none⟩) (n - 1) (cp - 1)) u := by
  have e1 : (1 : Int) ≤ (n : Int) := by omega
  have e9 : (⟨g, o, none⟩ : Addr).add 9 = ⟨g, o + 9, none⟩ := by unfold Addr.add; simp
  by_cases hc : cp = 1
  · subst hc
    go_simp
  · rw [if_neg hc]
    go_simp
theorem cell_lt9 {w : World} {g o : Nat} {v : Value} (h : w.cell? ⟨g, o, none⟩ = some v) : g < w.heap.size := by
  rcases Nat.lt_or_ge g w.heap.size with h9 | h9
  · exact h9
  · have h8 : w.heap[g]? = none := Array.getElem?_eq_none h9
    unfold World.cell? at h
    simp [h8] at h
theorem rangeAt_below {w w' : World} {g o : Nat} {vs : List Value} (h : w.rangeAt g o vs) (hb : Below w.heap.size w w') : w'.rangeAt g o vs := fun j v hj => by
  have h9 := h j v hj
  rw [World.cell?_of_block (w := w) (hb.block g (cell_lt9 h9))]; exact h9
theorem InE.tail {w : World} {base : Nat} {β : Nat → Nat} {F : Nat → List Value} {G : Nat → El} {n : Nat} (h : InE w base β F G (n + 1)) : InE w base (fun k => β (k + 1)) (fun k => F (k + 1)) (fun k => G (k + 1)) n :=
  ⟨Nat.le_trans h.1 (h.2.1 0), fun k => h.2.1 (k + 1), fun k hk => h.2.2 (k + 1) (by omega)⟩
theorem LnPB.head {w : World} {base hi n cp l1 l2 c1 c2 : Nat} {f : Nat → Ca} {L : La} {a a1 a2 : Option Addr} (h : LnPB w base hi n f L a cp a1 a2 l1 l2 c1 c2) (hn : 0 < n) :
    ∃ g o b1 b2 k1 k2 m1 m2, a = some ⟨g, o, none⟩ ∧ ExB w g 30 ∧ m1 = (f 0).ws.length ∧ m2 = (f 0).bs.length ∧ w.rangeAt g o (calL (f 0) b1 b2 m1 m2 k1 k2) ∧ OwnI w base (.slice b1 m1 k1) (f 0).ws ∧ OwnB w base (.slice b2 m2 k2) (f 0).bs ∧
      ∀ (w' : World) (L2 : La) (xa : Option Addr) (cp2 B : Nat), w.grownBy w' (some B) → ExB w B 32 → L2.c = f 0 → (0 < n - 1 → xa = some ⟨g, o + 9, none⟩) → LnPB w' base hi (n - 1) (fun k => f (k + 1)) L2 xa cp2 b1 b2 m1 m2 k1 k2 := by
  obtain ⟨h1, h2, F, β, h3, h4, h5, h6, h7, h8, h9, h10, h11, h12⟩ := h
  rcases h3 with ⟨h0, _⟩ | ⟨g, o, c', hv, hbg, hR⟩
  · omega
  · simp only [Value.slice.injEq, true_and] at hv
    obtain ⟨rfl, rfl⟩ := hv
    obtain ⟨b1, b2, k1, k2, e, o1, o2, t1, t2⟩ := h4.2.2 0 hn
    have hβ := h4.1
    refine ⟨g, o, b1, b2, k1, k2, _, _, rfl, hR.exB, rfl, rfl, ?_, OwnI.mono (show OwnI _ _ _ _ from o1) hβ, OwnB.mono (show OwnB _ _ _ _ from o2) hβ, ?_⟩
    · intro j v hj
      have hj9 : j < 9 := by
        have := (List.getElem?_eq_some_iff.1 hj).1
        simpa using this
      have hc := hR.cell hn hj9
      rw [e] at hc
      have e0 : o + 0 * 9 + j = o + j := by omega
      rw [e0] at hc
      rw [hc, ← hj]; rfl
    · intro w' L2 xa cp2 B hg hx hc hxa
      obtain ⟨m, rfl⟩ : ∃ m, n = m + 1 := ⟨n - 1, by omega⟩
      have hx' := hx
      obtain ⟨cs, hb⟩ := hx'
      have hbt : ∀ {i j}, i ≤ j → β i ≤ β j := fun h => bt_mono h4.2.1 h
      have hob : ∀ k, (Value.slice b1 (caE (f 0)).ws.length k1).ownBlock = some k ∨ (Value.slice b2 (caE (f 0)).bs.length k2).ownBlock = some k → Ob (F 0) k := fun k hk => by rw [e]; exact (Ob_els (by simp [caE, Value.ownBlock]) (by simp [caE, Value.ownBlock])).2 hk
      have hno : ∀ k, k < β 1 → ∀ j, j < m → ¬ Ob (F (j + 1)) k := fun k hk j hj ho => by
        obtain ⟨d1, d2, f1, f2, e', p1, p2, _, _⟩ := h4.2.2 (j + 1) (by omega)
        rw [e'] at ho
        have hβ1 := hbt (show 1 ≤ j + 1 by omega)
        rcases (Ob_els (by simp [caE, Value.ownBlock]) (by simp [caE, Value.ownBlock])).1 ho with q | q
        · have := (World.ownsRow.lt p1 k q).1; omega
        · have := (World.ownsRow.lt p2 k q).1; omega
      refine ⟨by rw [hc], by rw [hc], fun k => F (k + 1), fun k => β (k + 1), ?_, h4.tail.keptT hg hx (by decide) (by decide), ?_, ?_, fun k hk j hj => hno k (t1 k hk) j hj, fun k hk j hj => hno k (t2 k hk) j hj, fun k h0 hk => ?_, fun k j hj ho => h10 k (j + 1) (by omega) ho, fun k hk => h10 k 0 (by omega) (hob k (.inl hk)), fun k hk => h10 k 0 (by omega) (hob k (.inr hk))⟩
      · show OwnO w' base 30 9 (.slice xa m cp2) m _
        by_cases h0 : m = 0
        · subst h0; exact .inl ⟨rfl, _, _, rfl⟩
        · have := hxa (by show 0 < m + 1 - 1; omega)
          subst this
          exact .inr ⟨g, o + 9, cp2, rfl, hbg, hR.tail.kept hg (fun e9 => by have := Option.some.inj e9; subst this; exact Blk.noEx hb (by decide) hR.exB)⟩
      · rw [hc]; exact row_noT (OwnI.mono (show OwnI _ _ _ _ from o1) hβ) hg hx (by decide)
      · rw [hc]; exact row_noT (OwnB.mono (show OwnB _ _ _ _ from o2) hβ) hg hx (by decide)
      · have hm : 0 < m := h0
        have := hxa (by show 0 < m + 1 - 1; omega)
        subst this
        have hk' : some g = some k := hk
        exact h9 k (by omega) hk'
theorem rangeAt_gr {w w' : World} {g o B : Nat} {vs : List Value} (h : w.rangeAt g o vs) (hg : w.grownBy w' (some B)) (hne : g ≠ B) : w'.rangeAt g o vs := fun j v hj => by
  have h9 := h j v hj
  rw [World.cell?_of_block (w := w) (hg.block g (cell_lt9 h9) (fun e => hne (Option.some.inj e)))]
  exact h9
theorem run_slc_op {P : Program} {ρ : Operand → Value} {o : Oper} {u : World} {t : TypeId} {x y : Operand} {a b v : Value} (ho : o.op = .slice t x (some y) none none) (ha : ρ x = a) (hb : ρ y = b) (hr : (Instr.sliceAt t a (some b) none none).run P u = .ok v u) : (execOp ρ o).run P u = .ok (.value v) u := by
  unfold execOp
  simp only [ho, ha, hb, Option.map_some, Option.map_none]
  rw [Sem.run_bind, hr]
  rfl
def RgK (W : World) (B : Nat) (t : TypeId) (X : Nat → Array Value) (st : (Nat → Bool) → Nat) (l : Nat → Bool) (σ : Nat → Value) (u : World) : Prop := W.grownBy u (some B) ∧ Blk u B t (X (st l))
def st3 (i j k : Nat) (l : Nat → Bool) : Nat := if l k = true then 3 else if l j = true then 2 else if l i = true then 1 else 0
def st2 (i j : Nat) (l : Nat → Bool) : Nat := if l j = true then 2 else if l i = true then 1 else 0
theorem st3_ne {i j k x : Nat} {l : Nat → Bool} (h1 : x ≠ i) (h2 : x ≠ j) (h3 : x ≠ k) : st3 i j k (updB l x) = st3 i j k l := by unfold st3; rw [updB_ne h1, updB_ne h2, updB_ne h3]
theorem st2_ne {i j x : Nat} {l : Nat → Bool} (h1 : x ≠ i) (h2 : x ≠ j) : st2 i j (updB l x) = st2 i j l := by unfold st2; rw [updB_ne h1, updB_ne h2]
def nxL (C : Ca) (now : Int) (L : La) : La := ⟨true, C, L.nx, tkO now L.wt, L.tr, (L.nx + 1) % 65536, L.wt, L.tr⟩
set_option maxRecDepth 20000 in
set_option maxHeartbeats 2000000 in
theorem askNext_any (L : La) (C : Ca) (a1 a2 : Option Addr) (n cp l1 l2 c1 c2 B b gq oq : Nat) (b1 b2 : Option Addr) (m1 m2 k1 k2 : Nat) (now : Int) (w : World) (hB : Blk w B 32 (lac L (some ⟨gq, oq, none⟩) n cp a1 a2 l1 l2 c1 c2)) (hq : ExB w gq 30) (hrg : w.rangeAt gq oq (calL C b1 b2 m1 m2 k1 k2)) (hn : 1 ≤ n) (hcp : n ≤ cp) (e1 : m1 = C.ws.length) (e2 : m2 = C.bs.length) (o1 : OwnI w b (.slice b1 m1 k1) C.ws) (o2 : OwnB w b (.slice b2 m2 k2) C.bs) (hl1 : m1 ≤ 2000000) (hl2 : m2 ≤ 2000000) (hx : inB now 0 4294967295 = true) (hwt : inB L.wt 0 4294967295 = true) (hnx : 0 ≤ L.nx ∧ L.nx ≤ 65535) :
    Calls Tryz.prog 45 #[.pointer (some ⟨B, 0, none⟩), .int .i64 now] w fun e w' => ∃ xa, OrdP w w' e B (odL (nxL C now L)) m1 m2 (lac (nxL C now L) xa (n - 1) (cp - 1) b1 b2 m1 m2 k1 k2) ∧ (0 < n - 1 → xa = some ⟨gq, oq + 9, none⟩) := by
  obtain ⟨Br, hBr⟩ : ∃ Br, Br = w.heap.size := ⟨_, rfl⟩
  obtain ⟨W, hW⟩ : ∃ W, W = w.alloc (.cells od0 83) := ⟨_, rfl⟩
  obtain ⟨xa, hxr, hxa⟩ : ∃ xa, (∀ u : World, (Instr.sliceAt 24 (.slice (some ⟨gq, oq, none⟩) n cp) (some (.int .i64 1)) none none).run Tryz.prog u = .ok (.slice xa (n - 1) (cp - 1)) u) ∧ (0 < n - 1 → xa = some ⟨gq, oq + 9, none⟩) := by
    refine ⟨if cp = 1 then some ⟨gq, oq, none⟩ else some ⟨gq, oq + 9, none⟩, fun u => ?_, fun h => if_neg (by omega)⟩
    exact sl1r gq oq n cp u hn
  have bW : Below w.heap.size w W := by rw [hW]; exact bel_alloc _ _
  have hBl := hB.lt
  have A0 := hB.below bW
  have hqB : gq ≠ B := fun e => by subst e; exact Blk.noEx hB (by decide) hq
  have HB : Hid (Blk W B 32 (lac L (some ⟨gq, oq, none⟩) n cp a1 a2 l1 l2 c1 c2) ∧ Blk W Br 83 od0 ∧ Below w.heap.size w W ∧ w.heap.size = Br ∧ B < Br ∧ ExB w B 32 ∧ W.rangeAt gq oq (calL C b1 b2 m1 m2 k1 k2)) := ⟨A0, by rw [hW, hBr]; exact Blk.new w _ _, bW, hBr.symm, by omega, ⟨_, hB⟩, rangeAt_below hrg bW⟩
  have HC : Hid (m1 = C.ws.length ∧ m2 = C.bs.length ∧ inB now 0 4294967295 = true ∧ inB L.wt 0 4294967295 = true ∧ OwnI w b (.slice b1 m1 k1) C.ws ∧ OwnB w b (.slice b2 m2 k2) C.bs ∧ (0 < n - 1 → xa = some ⟨gq, oq + 9, none⟩)) := ⟨e1, e2, hx, hwt, o1, o2, hxa⟩
  have hn1 : (0 : Int) < (n : Int) := by omega
  obtain ⟨nx1, hnx1⟩ : ∃ x, x = (L.nx + 1) % 65536 := ⟨_, rfl⟩
  have hw1 : IntKind.i64.wrap (L.nx + 1) = L.nx + 1 := by rw [IntKind.wrap_i64]; omega
  have ha1 : bits .and .i64 (L.nx + 1) 65535 = nx1 := by rw [hnx1]; exact and16 _
  have HN : Hid (nx1 = (L.nx + 1) % 65536) := hnx1
  clear bW hB A0 e1 e2 o1 o2 hx hwt hBl hq hrg hxa hnx hnx1 hcp
  go_enter Tryz.func45, Tryz.ntmps45
  go_upto_region 1 with fail
  rw [← hW, ← hBr]
  clear hW hBr
  try go_simp
  refine wp_region_any (by kernel_rfl) ?_
  refine wpAny_valy (RgK W B 32 (fun i => match i with | 0 => lac L (some ⟨gq, oq, none⟩) n cp a1 a2 l1 l2 c1 c2 | 1 => lac { L with bz := true } (some ⟨gq, oq, none⟩) n cp a1 a2 l1 l2 c1 c2 | 2 => lac { L with bz := true, c := C } (some ⟨gq, oq, none⟩) n cp b1 b2 m1 m2 k1 k2 | _ => lac { L with bz := true, c := C } xa (n - 1) (cp - 1) b1 b2 m1 m2 k1 k2) (st3 16 19 22)) (fun _ _ => True) (fun i v u => match i with
    | 0 => v = .pointer (some ⟨B, 0, none⟩)
    | 1 => v = .pointer (some ⟨B, 0, none⟩)
    | 2 => v = .pointer (some ⟨B, 0, none⟩)
    | 3 => v = .pointer (some ⟨B, 0, none⟩)
    | 4 => v = .pointer (some ⟨B, 0, none⟩)
    | 5 => v = .pointer (some ⟨B, 0, none⟩)
    | 6 => v = .slice (some ⟨gq, oq, none⟩) n cp
    | 7 => v = .pointer (some ⟨gq, oq, none⟩)
    | 8 => v = .agg (cac C b1 b2 m1 m2 k1 k2)
    | 9 => v = .pointer (some ⟨B, 0, none⟩)
    | 10 => v = .pointer (some ⟨B, 0, none⟩)
    | 11 => v = .pointer (some ⟨B, 0, none⟩)
    | 12 => v = .slice (some ⟨gq, oq, none⟩) n cp
    | 13 => v = .slice xa (n - 1) (cp - 1)
    | 14 => v = .pointer (some ⟨B, 0, none⟩)
    | 15 => v = .pointer (some ⟨B, 1, none⟩)
    | 17 => v = .pointer (some ⟨B, 0, none⟩)
    | 18 => v = .pointer (some ⟨B, 2, none⟩)
    | 20 => v = .pointer (some ⟨B, 0, none⟩)
    | 21 => v = .pointer (some ⟨B, 0, none⟩)
    | _ => True) (by kernel_rfl) (by kernel_rfl) (fun _ _ _ _ h _ => h) (fun _ => trivial) ⟨gr_bel (grown_below (Below.refl _ W) (some B)) (by first | exact Below.refl _ _ | exact (Below.refl _ _).drew), by first | exact HB.out.1 | exact HB.out.1.below ((Below.refl _ _).drew)⟩ ?_ ?_ _ _ rfl (by decide) (fun i => by simp [Array.getD]; try (split <;> rfl))
  rotate_left
  · intro u i o ρ l hR ho hli hcl hρ hc hf hdep hv
    have hi' : i < 23 := by
      have := (Array.getElem?_eq_some_iff.1 ho).1
      simpa using this
    have c19 : l 22 = true → l 19 = true := fun h => hcl 22 _ rfl h ⟨19, .chain⟩ (by simp) rfl
    have c16 : l 19 = true → l 16 = true := fun h => hcl 19 _ rfl h ⟨16, .chain⟩ (by simp) rfl
    have c0 : ∀ x, (x = 6 ∨ x = 8 ∨ x = 12) → l x = false → st3 16 19 22 l = 0 := fun x hx hlx => by
      have h16 : l 16 = false := by
        cases h : l 16 with
        | false => rfl
        | true =>
          have p6 := hcl 16 _ rfl h ⟨6, .phase⟩ (by simp) rfl
          have p8 := hcl 16 _ rfl h ⟨8, .phase⟩ (by simp) rfl
          have p12 := hcl 16 _ rfl h ⟨12, .phase⟩ (by simp) rfl
          rcases hx with rfl | rfl | rfl
          · rw [p6] at hlx; cases hlx
          · rw [p8] at hlx; cases hlx
          · rw [p12] at hlx; cases hlx
      have h19 : l 19 = false := by
        cases h : l 19 with
        | false => rfl
        | true => rw [c16 h] at h16; cases h16
      have h22 : l 22 = false := by
        cases h : l 22 with
        | false => rfl
        | true => rw [c19 h] at h19; cases h19
      simp [st3, h16, h19, h22]
    obtain rfl | rfl | rfl | rfl | rfl | rfl | rfl | rfl | rfl | rfl | rfl | rfl | rfl | rfl | rfl | rfl | rfl | rfl | rfl | rfl | rfl | rfl | rfl : i = 0 ∨ i = 1 ∨ i = 2 ∨ i = 3 ∨ i = 4 ∨ i = 5 ∨ i = 6 ∨ i = 7 ∨ i = 8 ∨ i = 9 ∨ i = 10 ∨ i = 11 ∨ i = 12 ∨ i = 13 ∨ i = 14 ∨ i = 15 ∨ i = 16 ∨ i = 17 ∨ i = 18 ∨ i = 19 ∨ i = 20 ∨ i = 21 ∨ i = 22 := by omega
    all_goals (simp only [List.getElem?_toArray, List.getElem?_cons_zero, List.getElem?_cons_succ, Option.some.injEq] at ho; subst ho)
    · have s0 : ρ (.tmp 0) = .pointer (some ⟨B, 0, none⟩) := (hρ 0 (by kernel_rfl)).trans rfl
      exact .inl ⟨rfl, .inl ⟨_, u, rfl, s0, ⟨hR.1, by rw [st3_ne (by decide) (by decide) (by decide)]; exact hR.2⟩, trivial⟩⟩
    · have s0 : ρ (.tmp 0) = .pointer (some ⟨B, 0, none⟩) := (hρ 0 (by kernel_rfl)).trans rfl
      exact .inl ⟨rfl, .inl ⟨_, u, rfl, s0, ⟨hR.1, by rw [st3_ne (by decide) (by decide) (by decide)]; exact hR.2⟩, trivial⟩⟩
    · have s0 : ρ (.tmp 0) = .pointer (some ⟨B, 0, none⟩) := (hρ 0 (by kernel_rfl)).trans rfl
      exact .inl ⟨rfl, .inl ⟨_, u, rfl, s0, ⟨hR.1, by rw [st3_ne (by decide) (by decide) (by decide)]; exact hR.2⟩, trivial⟩⟩
    · have s0 : ρ (.tmp 0) = .pointer (some ⟨B, 0, none⟩) := (hρ 0 (by kernel_rfl)).trans rfl
      exact .inl ⟨rfl, .inl ⟨_, u, rfl, s0, ⟨hR.1, by rw [st3_ne (by decide) (by decide) (by decide)]; exact hR.2⟩, trivial⟩⟩
    · have h3 : ρ (.tmp 8) = .pointer (some ⟨B, 0, none⟩) := hv 3 8 rfl (hdep ⟨3, .data⟩ (by simp) rfl)
      exact .inl ⟨rfl, .inl ⟨_, u, run_nil_op rfl h3, rfl, ⟨hR.1, by rw [st3_ne (by decide) (by decide) (by decide)]; exact hR.2⟩, trivial⟩⟩
    · have h4 : ρ (.tmp 9) = .pointer (some ⟨B, 0, none⟩) := hv 4 9 rfl (hdep ⟨4, .data⟩ (by simp) rfl)
      exact .inl ⟨rfl, .inl ⟨.pointer (some ⟨B, 0, none⟩), u, run_field_op rfl h4 (by go_simp), rfl, ⟨hR.1, by rw [st3_ne (by decide) (by decide) (by decide)]; exact hR.2⟩, trivial⟩⟩
    · have h5 : ρ (.tmp 10) = .pointer (some ⟨B, 0, none⟩) := hv 5 10 rfl (hdep ⟨5, .data⟩ (by simp) rfl)
      have q0 := hR.2
      rw [c0 6 (.inl rfl) hli] at q0
      have y0 : u.cell? ⟨B, 0, none⟩ = some (.slice (some ⟨gq, oq, none⟩) n cp) := q0.cell 0 rfl
      have hr : (Instr.loadAt 24 (.pointer (some ⟨B, 0, none⟩))).run Tryz.prog u = .ok (.slice (some ⟨gq, oq, none⟩) n cp) u := by go_simp
      exact .inl ⟨rfl, .inl ⟨_, u, run_load_op rfl h5 hr, rfl, ⟨hR.1, by rw [st3_ne (by decide) (by decide) (by decide)]; exact hR.2⟩, trivial⟩⟩
    · have h6 : ρ (.tmp 11) = .slice (some ⟨gq, oq, none⟩) n cp := hv 6 11 rfl (hdep ⟨6, .data⟩ (by simp) rfl)
      have hr : (Instr.indexAt 24 (.slice (some ⟨gq, oq, none⟩) n cp) (.int .i64 0)).run Tryz.prog u = .ok (.pointer (some ⟨gq, oq, none⟩)) u := by (go_simp; intro h0; omega)
      exact .inl ⟨rfl, .inl ⟨_, u, run_index_op rfl h6 (hc _) hr, rfl, ⟨hR.1, by rw [st3_ne (by decide) (by decide) (by decide)]; exact hR.2⟩, trivial⟩⟩
    · have h7 : ρ (.tmp 12) = .pointer (some ⟨gq, oq, none⟩) := hv 7 12 rfl (hdep ⟨7, .data⟩ (by simp) rfl)
      have hrr : u.rangeAt gq oq (calL C b1 b2 m1 m2 k1 k2) := rangeAt_gr HB.out.2.2.2.2.2.2 hR.1 hqB
      exact .inl ⟨rfl, .inl ⟨_, u, run_load_op rfl h7 (run_loadAt_mid u gq oq 30 (calL C b1 b2 m1 m2 k1 k2) _ hrr Tryz.underlying30 rfl (by kernel_rfl)), rfl, ⟨hR.1, by rw [st3_ne (by decide) (by decide) (by decide)]; exact hR.2⟩, trivial⟩⟩
    · have s0 : ρ (.tmp 0) = .pointer (some ⟨B, 0, none⟩) := (hρ 0 (by kernel_rfl)).trans rfl
      exact .inl ⟨rfl, .inl ⟨_, u, rfl, s0, ⟨hR.1, by rw [st3_ne (by decide) (by decide) (by decide)]; exact hR.2⟩, trivial⟩⟩
    · have h9 : ρ (.tmp 14) = .pointer (some ⟨B, 0, none⟩) := hv 9 14 rfl (hdep ⟨9, .data⟩ (by simp) rfl)
      exact .inl ⟨rfl, .inl ⟨_, u, run_nil_op rfl h9, rfl, ⟨hR.1, by rw [st3_ne (by decide) (by decide) (by decide)]; exact hR.2⟩, trivial⟩⟩
    · have h10 : ρ (.tmp 15) = .pointer (some ⟨B, 0, none⟩) := hv 10 15 rfl (hdep ⟨10, .data⟩ (by simp) rfl)
      exact .inl ⟨rfl, .inl ⟨.pointer (some ⟨B, 0, none⟩), u, run_field_op rfl h10 (by go_simp), rfl, ⟨hR.1, by rw [st3_ne (by decide) (by decide) (by decide)]; exact hR.2⟩, trivial⟩⟩
    · have h11 : ρ (.tmp 16) = .pointer (some ⟨B, 0, none⟩) := hv 11 16 rfl (hdep ⟨11, .data⟩ (by simp) rfl)
      have q0 := hR.2
      rw [c0 12 (.inr (.inr rfl)) hli] at q0
      have y0 : u.cell? ⟨B, 0, none⟩ = some (.slice (some ⟨gq, oq, none⟩) n cp) := q0.cell 0 rfl
      have hr : (Instr.loadAt 24 (.pointer (some ⟨B, 0, none⟩))).run Tryz.prog u = .ok (.slice (some ⟨gq, oq, none⟩) n cp) u := by go_simp
      exact .inl ⟨rfl, .inl ⟨_, u, run_load_op rfl h11 hr, rfl, ⟨hR.1, by rw [st3_ne (by decide) (by decide) (by decide)]; exact hR.2⟩, trivial⟩⟩
    · have h12 : ρ (.tmp 17) = .slice (some ⟨gq, oq, none⟩) n cp := hv 12 17 rfl (hdep ⟨12, .data⟩ (by simp) rfl)
      exact .inl ⟨rfl, .inl ⟨_, u, run_slc_op rfl h12 (hc _) (hxr u), rfl, ⟨hR.1, by rw [st3_ne (by decide) (by decide) (by decide)]; exact hR.2⟩, trivial⟩⟩
    · have h0 : ρ (.tmp 5) = .pointer (some ⟨B, 0, none⟩) := hv 0 5 rfl (hdep ⟨0, .data⟩ (by simp) rfl)
      exact .inl ⟨rfl, .inl ⟨_, u, run_nil_op rfl h0, rfl, ⟨hR.1, by rw [st3_ne (by decide) (by decide) (by decide)]; exact hR.2⟩, trivial⟩⟩
    · have h14 : ρ (.tmp 19) = .pointer (some ⟨B, 0, none⟩) := hv 14 19 rfl (hdep ⟨14, .data⟩ (by simp) rfl)
      exact .inl ⟨rfl, .inl ⟨.pointer (some ⟨B, 1, none⟩), u, run_field_op rfl h14 (by go_simp), rfl, ⟨hR.1, by rw [st3_ne (by decide) (by decide) (by decide)]; exact hR.2⟩, trivial⟩⟩
    · have h15 : ρ (.tmp 20) = .pointer (some ⟨B, 1, none⟩) := hv 15 20 rfl (hdep ⟨15, .data⟩ (by simp) rfl)
      have q0 := hR.2
      have hf19 : l 19 = false := by
        cases h : l 19 with
        | false => rfl
        | true => have := c16 h; rw [hli] at this; cases this
      have hf22 : l 22 = false := by
        cases h : l 22 with
        | false => rfl
        | true => have := c16 (c19 h); rw [hli] at this; cases this
      have hst : st3 16 19 22 l = 0 := by simp [st3, hf19, hf22, hli]
      rw [hst] at q0
      have q9 : Blk u B 32 (lac L (some ⟨gq, oq, none⟩) n cp a1 a2 l1 l2 c1 c2) := q0
      have yc := q9.cell 1 rfl
      have yfr := q9.fro 1
      have hr : (Instr.storeAt 4 (.pointer (some ⟨B, 1, none⟩)) (.bool true)).run Tryz.prog u = .ok () (setL u B 1 [.bool true]) := by go_simp; rfl
      refine .inl ⟨rfl, .inr (.inr ⟨rfl, _, run_store_op rfl h15 (hc _) hr, ⟨gr_tr hR.1 (setL_gw _ _ _) (.inl rfl), ?_⟩, trivial⟩)⟩
      have hs2 : st3 16 19 22 (updB l 16) = 1 := by
        have h9 : updB l 16 16 = true := rfl
        simp [st3, h9, updB_ne (show 16 ≠ 19 by decide), updB_ne (show 16 ≠ 22 by decide), hf19, hf22]
      rw [hs2]
      show Blk _ _ _ (lac { L with bz := true } (some ⟨gq, oq, none⟩) n cp a1 a2 l1 l2 c1 c2)
      rw [show lac { L with bz := true } (some ⟨gq, oq, none⟩) n cp a1 a2 l1 l2 c1 c2 = wrA (lac L (some ⟨gq, oq, none⟩) n cp a1 a2 l1 l2 c1 c2) 1 [.bool true] from (lwr1_1 _ _ _ _ _ _ _ _ _ _ _ _ _ _ _ _ _ _).symm]; exact Blk.stL _ _ q9
    · have h1 : ρ (.tmp 6) = .pointer (some ⟨B, 0, none⟩) := hv 1 6 rfl (hdep ⟨1, .data⟩ (by simp) rfl)
      exact .inl ⟨rfl, .inl ⟨_, u, run_nil_op rfl h1, rfl, ⟨hR.1, by rw [st3_ne (by decide) (by decide) (by decide)]; exact hR.2⟩, trivial⟩⟩
    · have h17 : ρ (.tmp 21) = .pointer (some ⟨B, 0, none⟩) := hv 17 21 rfl (hdep ⟨17, .data⟩ (by simp) rfl)
      exact .inl ⟨rfl, .inl ⟨.pointer (some ⟨B, 2, none⟩), u, run_field_op rfl h17 (by go_simp), rfl, ⟨hR.1, by rw [st3_ne (by decide) (by decide) (by decide)]; exact hR.2⟩, trivial⟩⟩
    · have h18 : ρ (.tmp 22) = .pointer (some ⟨B, 2, none⟩) := hv 18 22 rfl (hdep ⟨18, .data⟩ (by simp) rfl)
      have h8 : ρ (.tmp 13) = .agg (cac C b1 b2 m1 m2 k1 k2) := hv 8 13 rfl (hdep ⟨8, .data⟩ (by simp) rfl)
      have h16 := hdep ⟨16, .chain⟩ (by simp) rfl
      have q0 := hR.2
      have hf22 : l 22 = false := by
        cases h : l 22 with
        | false => rfl
        | true => have := c19 h; rw [hli] at this; cases this
      have hst : st3 16 19 22 l = 1 := by simp [st3, hf22, hli, h16]
      rw [hst] at q0
      have q9 : Blk u B 32 (lac { L with bz := true } (some ⟨gq, oq, none⟩) n cp a1 a2 l1 l2 c1 c2) := q0
      have hr : (Instr.storeAt 30 (.pointer (some ⟨B, 2, none⟩)) (.agg (cac C b1 b2 m1 m2 k1 k2))).run Tryz.prog u = .ok () (setL u B 2 (calL C b1 b2 m1 m2 k1 k2)) := by
        rw [run_storeAt_mid u B 2 30 (cac C b1 b2 m1 m2 k1 k2) (q9.there 2 9 (by simp)) (by kernel_rfl) (by simp [Value.oneCell']), setCells_L]
      refine .inl ⟨rfl, .inr (.inr ⟨rfl, _, run_store_op rfl h18 h8 hr, ⟨gr_tr hR.1 (setL_gw _ _ _) (.inl rfl), ?_⟩, trivial⟩)⟩
      have hs2 : st3 16 19 22 (updB l 19) = 2 := by
        have h9 : updB l 19 19 = true := rfl
        simp [st3, h9, updB_ne (show 19 ≠ 22 by decide), hf22]
      rw [hs2]
      show Blk _ _ _ (lac { L with bz := true, c := C } (some ⟨gq, oq, none⟩) n cp b1 b2 m1 m2 k1 k2)
      rw [show lac { L with bz := true, c := C } (some ⟨gq, oq, none⟩) n cp b1 b2 m1 m2 k1 k2 = wrA (lac { L with bz := true } (some ⟨gq, oq, none⟩) n cp a1 a2 l1 l2 c1 c2) 2 (calL C b1 b2 m1 m2 k1 k2) from (lwr2_9 _ _ _ _ _ _ _ _ _ _ _ _ _ _ _ _ _ _ _ _ _ _ _ _ _ _).symm]; exact Blk.stL _ _ q9
    · have h2 : ρ (.tmp 7) = .pointer (some ⟨B, 0, none⟩) := hv 2 7 rfl (hdep ⟨2, .data⟩ (by simp) rfl)
      exact .inl ⟨rfl, .inl ⟨_, u, run_nil_op rfl h2, rfl, ⟨hR.1, by rw [st3_ne (by decide) (by decide) (by decide)]; exact hR.2⟩, trivial⟩⟩
    · have h20 : ρ (.tmp 23) = .pointer (some ⟨B, 0, none⟩) := hv 20 23 rfl (hdep ⟨20, .data⟩ (by simp) rfl)
      exact .inl ⟨rfl, .inl ⟨.pointer (some ⟨B, 0, none⟩), u, run_field_op rfl h20 (by go_simp), rfl, ⟨hR.1, by rw [st3_ne (by decide) (by decide) (by decide)]; exact hR.2⟩, trivial⟩⟩
    · have h21 : ρ (.tmp 24) = .pointer (some ⟨B, 0, none⟩) := hv 21 24 rfl (hdep ⟨21, .data⟩ (by simp) rfl)
      have h13 : ρ (.tmp 18) = .slice xa (n - 1) (cp - 1) := hv 13 18 rfl (hdep ⟨13, .data⟩ (by simp) rfl)
      have h19 := hdep ⟨19, .chain⟩ (by simp) rfl
      have q0 := hR.2
      have hst : st3 16 19 22 l = 2 := by simp [st3, hli, h19]
      rw [hst] at q0
      have q9 : Blk u B 32 (lac { L with bz := true, c := C } (some ⟨gq, oq, none⟩) n cp b1 b2 m1 m2 k1 k2) := q0
      have yc := q9.cell 0 rfl
      have yfr := q9.fro 0
      have hr : (Instr.storeAt 24 (.pointer (some ⟨B, 0, none⟩)) (.slice xa (n - 1) (cp - 1))).run Tryz.prog u = .ok () (setL u B 0 [.slice xa (n - 1) (cp - 1)]) := by go_simp; rfl
      refine .inl ⟨rfl, .inr (.inr ⟨rfl, _, run_store_op rfl h21 h13 hr, ⟨gr_tr hR.1 (setL_gw _ _ _) (.inl rfl), ?_⟩, trivial⟩)⟩
      have hs2 : st3 16 19 22 (updB l 22) = 3 := by
        have h9 : updB l 22 22 = true := rfl
        simp [st3, h9]
      rw [hs2]
      show Blk _ _ _ (lac { L with bz := true, c := C } xa (n - 1) (cp - 1) b1 b2 m1 m2 k1 k2)
      rw [show lac { L with bz := true, c := C } xa (n - 1) (cp - 1) b1 b2 m1 m2 k1 k2 = wrA (lac { L with bz := true, c := C } (some ⟨gq, oq, none⟩) n cp b1 b2 m1 m2 k1 k2) 0 [.slice xa (n - 1) (cp - 1)] from (lwr0_1 _ _ _ _ _ _ _ _ _ _ _ _ _ _ _ _ _ _).symm]; exact Blk.stL _ _ q9
  intro vs σ u1 hR hσ hall
  have H1 : Hid (W.grownBy u1 (some B) ∧ Blk u1 B 32 (lac { L with bz := true, c := C } xa (n - 1) (cp - 1) b1 b2 m1 m2 k1 k2)) := ⟨hR.1, hR.2⟩
  simp only [putsL]
  clear hall hσ hR
  go_upto_region 2 with fail
  try go_simp
  refine wp_region_any (by kernel_rfl) ?_
  refine wpAny_valy (RgK u1 B 32 (fun i => match i with | 0 => lac { L with bz := true, c := C } xa (n - 1) (cp - 1) b1 b2 m1 m2 k1 k2 | 1 => lac { L with bz := true, c := C, nu := L.nx } xa (n - 1) (cp - 1) b1 b2 m1 m2 k1 k2 | _ => lac { L with bz := true, c := C, nu := L.nx, nx := nx1 } xa (n - 1) (cp - 1) b1 b2 m1 m2 k1 k2) (st2 14 17)) (fun _ _ => True) (fun i v u => match i with
    | 0 => v = .pointer (some ⟨B, 0, none⟩)
    | 1 => v = .pointer (some ⟨B, 0, none⟩)
    | 2 => v = .pointer (some ⟨B, 0, none⟩)
    | 3 => v = .pointer (some ⟨B, 0, none⟩)
    | 4 => v = .pointer (some ⟨B, 14, none⟩)
    | 5 => v = .int .i64 L.nx
    | 6 => v = .pointer (some ⟨B, 0, none⟩)
    | 7 => v = .pointer (some ⟨B, 0, none⟩)
    | 8 => v = .pointer (some ⟨B, 14, none⟩)
    | 9 => v = .int .i64 L.nx
    | 10 => v = .int .i64 (L.nx + 1)
    | 11 => v = .int .i64 nx1
    | 12 => v = .pointer (some ⟨B, 0, none⟩)
    | 13 => v = .pointer (some ⟨B, 11, none⟩)
    | 15 => v = .pointer (some ⟨B, 0, none⟩)
    | 16 => v = .pointer (some ⟨B, 14, none⟩)
    | _ => True) (by kernel_rfl) (by kernel_rfl) (fun _ _ _ _ h _ => h) (fun _ => trivial) ⟨gr_bel (grown_below (Below.refl _ u1) (some B)) (by first | exact Below.refl _ _ | exact (Below.refl _ _).drew), by first | exact H1.out.2 | exact H1.out.2.below ((Below.refl _ _).drew)⟩ ?_ ?_ _ _ rfl (by decide) (fun i => by simp [Array.getD]; try (split <;> rfl))
  rotate_left
  · intro u i o ρ l hR ho hli hcl hρ hc hf hdep hv
    have hi' : i < 18 := by
      have := (Array.getElem?_eq_some_iff.1 ho).1
      simpa using this
    have c14 : l 17 = true → l 14 = true := fun h => hcl 17 _ rfl h ⟨14, .chain⟩ (by simp) rfl
    have c0 : ∀ x, (x = 5 ∨ x = 9) → l x = false → st2 14 17 l = 0 := fun x hx hlx => by
      have h14 : l 14 = false := by
        cases h : l 14 with
        | false => rfl
        | true =>
          have p5 := hcl 14 _ rfl h ⟨5, .phase⟩ (by simp) rfl
          have p9 := hcl 14 _ rfl h ⟨9, .phase⟩ (by simp) rfl
          rcases hx with rfl | rfl
          · rw [p5] at hlx; cases hlx
          · rw [p9] at hlx; cases hlx
      have h17 : l 17 = false := by
        cases h : l 17 with
        | false => rfl
        | true => rw [c14 h] at h14; cases h14
      simp [st2, h14, h17]
    obtain rfl | rfl | rfl | rfl | rfl | rfl | rfl | rfl | rfl | rfl | rfl | rfl | rfl | rfl | rfl | rfl | rfl | rfl : i = 0 ∨ i = 1 ∨ i = 2 ∨ i = 3 ∨ i = 4 ∨ i = 5 ∨ i = 6 ∨ i = 7 ∨ i = 8 ∨ i = 9 ∨ i = 10 ∨ i = 11 ∨ i = 12 ∨ i = 13 ∨ i = 14 ∨ i = 15 ∨ i = 16 ∨ i = 17 := by omega
    all_goals (simp only [List.getElem?_toArray, List.getElem?_cons_zero, List.getElem?_cons_succ, Option.some.injEq] at ho; subst ho)
    · have s0 : ρ (.tmp 0) = .pointer (some ⟨B, 0, none⟩) := (hρ 0 (by kernel_rfl)).trans rfl
      exact .inl ⟨rfl, .inl ⟨_, u, rfl, s0, ⟨hR.1, by rw [st2_ne (by decide) (by decide)]; exact hR.2⟩, trivial⟩⟩
    · have s0 : ρ (.tmp 0) = .pointer (some ⟨B, 0, none⟩) := (hρ 0 (by kernel_rfl)).trans rfl
      exact .inl ⟨rfl, .inl ⟨_, u, rfl, s0, ⟨hR.1, by rw [st2_ne (by decide) (by decide)]; exact hR.2⟩, trivial⟩⟩
    · have s0 : ρ (.tmp 0) = .pointer (some ⟨B, 0, none⟩) := (hρ 0 (by kernel_rfl)).trans rfl
      exact .inl ⟨rfl, .inl ⟨_, u, rfl, s0, ⟨hR.1, by rw [st2_ne (by decide) (by decide)]; exact hR.2⟩, trivial⟩⟩
    · have h2 : ρ (.tmp 27) = .pointer (some ⟨B, 0, none⟩) := hv 2 27 rfl (hdep ⟨2, .data⟩ (by simp) rfl)
      exact .inl ⟨rfl, .inl ⟨_, u, run_nil_op rfl h2, rfl, ⟨hR.1, by rw [st2_ne (by decide) (by decide)]; exact hR.2⟩, trivial⟩⟩
    · have h3 : ρ (.tmp 28) = .pointer (some ⟨B, 0, none⟩) := hv 3 28 rfl (hdep ⟨3, .data⟩ (by simp) rfl)
      exact .inl ⟨rfl, .inl ⟨.pointer (some ⟨B, 14, none⟩), u, run_field_op rfl h3 (by go_simp), rfl, ⟨hR.1, by rw [st2_ne (by decide) (by decide)]; exact hR.2⟩, trivial⟩⟩
    · have h4 : ρ (.tmp 29) = .pointer (some ⟨B, 14, none⟩) := hv 4 29 rfl (hdep ⟨4, .data⟩ (by simp) rfl)
      have q0 := hR.2
      rw [c0 5 (.inl rfl) hli] at q0
      have y14 : u.cell? ⟨B, 14, none⟩ = some (.int .i64 L.nx) := q0.cell 14 rfl
      have hr : (Instr.loadAt 3 (.pointer (some ⟨B, 14, none⟩))).run Tryz.prog u = .ok (.int .i64 L.nx) u := by go_simp
      exact .inl ⟨rfl, .inl ⟨_, u, run_load_op rfl h4 hr, rfl, ⟨hR.1, by rw [st2_ne (by decide) (by decide)]; exact hR.2⟩, trivial⟩⟩
    · have s0 : ρ (.tmp 0) = .pointer (some ⟨B, 0, none⟩) := (hρ 0 (by kernel_rfl)).trans rfl
      exact .inl ⟨rfl, .inl ⟨_, u, rfl, s0, ⟨hR.1, by rw [st2_ne (by decide) (by decide)]; exact hR.2⟩, trivial⟩⟩
    · have h6 : ρ (.tmp 31) = .pointer (some ⟨B, 0, none⟩) := hv 6 31 rfl (hdep ⟨6, .data⟩ (by simp) rfl)
      exact .inl ⟨rfl, .inl ⟨_, u, run_nil_op rfl h6, rfl, ⟨hR.1, by rw [st2_ne (by decide) (by decide)]; exact hR.2⟩, trivial⟩⟩
    · have h7 : ρ (.tmp 32) = .pointer (some ⟨B, 0, none⟩) := hv 7 32 rfl (hdep ⟨7, .data⟩ (by simp) rfl)
      exact .inl ⟨rfl, .inl ⟨.pointer (some ⟨B, 14, none⟩), u, run_field_op rfl h7 (by go_simp), rfl, ⟨hR.1, by rw [st2_ne (by decide) (by decide)]; exact hR.2⟩, trivial⟩⟩
    · have h8 : ρ (.tmp 33) = .pointer (some ⟨B, 14, none⟩) := hv 8 33 rfl (hdep ⟨8, .data⟩ (by simp) rfl)
      have q0 := hR.2
      rw [c0 9 (.inr rfl) hli] at q0
      have y14 : u.cell? ⟨B, 14, none⟩ = some (.int .i64 L.nx) := q0.cell 14 rfl
      have hr : (Instr.loadAt 3 (.pointer (some ⟨B, 14, none⟩))).run Tryz.prog u = .ok (.int .i64 L.nx) u := by go_simp
      exact .inl ⟨rfl, .inl ⟨_, u, run_load_op rfl h8 hr, rfl, ⟨hR.1, by rw [st2_ne (by decide) (by decide)]; exact hR.2⟩, trivial⟩⟩
    · have h9 : ρ (.tmp 34) = .int .i64 L.nx := hv 9 34 rfl (hdep ⟨9, .data⟩ (by simp) rfl)
      exact .inl ⟨rfl, .inl ⟨.int .i64 (L.nx + 1), u, run_bin_op rfl h9 (hc _) (by go_simp), rfl, ⟨hR.1, by rw [st2_ne (by decide) (by decide)]; exact hR.2⟩, trivial⟩⟩
    · have h10 : ρ (.tmp 35) = .int .i64 (L.nx + 1) := hv 10 35 rfl (hdep ⟨10, .data⟩ (by simp) rfl)
      exact .inl ⟨rfl, .inl ⟨.int .i64 nx1, u, run_bin_op rfl h10 (hc _) (by go_simp), rfl, ⟨hR.1, by rw [st2_ne (by decide) (by decide)]; exact hR.2⟩, trivial⟩⟩
    · have h0 : ρ (.tmp 25) = .pointer (some ⟨B, 0, none⟩) := hv 0 25 rfl (hdep ⟨0, .data⟩ (by simp) rfl)
      exact .inl ⟨rfl, .inl ⟨_, u, run_nil_op rfl h0, rfl, ⟨hR.1, by rw [st2_ne (by decide) (by decide)]; exact hR.2⟩, trivial⟩⟩
    · have h12 : ρ (.tmp 37) = .pointer (some ⟨B, 0, none⟩) := hv 12 37 rfl (hdep ⟨12, .data⟩ (by simp) rfl)
      exact .inl ⟨rfl, .inl ⟨.pointer (some ⟨B, 11, none⟩), u, run_field_op rfl h12 (by go_simp), rfl, ⟨hR.1, by rw [st2_ne (by decide) (by decide)]; exact hR.2⟩, trivial⟩⟩
    · have h13 : ρ (.tmp 38) = .pointer (some ⟨B, 11, none⟩) := hv 13 38 rfl (hdep ⟨13, .data⟩ (by simp) rfl)
      have h5 : ρ (.tmp 30) = .int .i64 L.nx := hv 5 30 rfl (hdep ⟨5, .data⟩ (by simp) rfl)
      have q0 := hR.2
      have hf17 : l 17 = false := by
        cases h : l 17 with
        | false => rfl
        | true => have := c14 h; rw [hli] at this; cases this
      have hst : st2 14 17 l = 0 := by simp [st2, hf17, hli]
      rw [hst] at q0
      have q9 : Blk u B 32 (lac { L with bz := true, c := C } xa (n - 1) (cp - 1) b1 b2 m1 m2 k1 k2) := q0
      have yc := q9.cell 11 rfl
      have yfr := q9.fro 11
      have hr : (Instr.storeAt 3 (.pointer (some ⟨B, 11, none⟩)) (.int .i64 L.nx)).run Tryz.prog u = .ok () (setL u B 11 [.int .i64 L.nx]) := by go_simp; rfl
      refine .inl ⟨rfl, .inr (.inr ⟨rfl, _, run_store_op rfl h13 h5 hr, ⟨gr_tr hR.1 (setL_gw _ _ _) (.inl rfl), ?_⟩, trivial⟩)⟩
      have hs2 : st2 14 17 (updB l 14) = 1 := by
        have h9 : updB l 14 14 = true := rfl
        simp [st2, h9, updB_ne (show 14 ≠ 17 by decide), hf17]
      rw [hs2]
      show Blk _ _ _ (lac { L with bz := true, c := C, nu := L.nx } xa (n - 1) (cp - 1) b1 b2 m1 m2 k1 k2)
      rw [show lac { L with bz := true, c := C, nu := L.nx } xa (n - 1) (cp - 1) b1 b2 m1 m2 k1 k2 = wrA (lac { L with bz := true, c := C } xa (n - 1) (cp - 1) b1 b2 m1 m2 k1 k2) 11 [.int .i64 L.nx] from (lwr11_1 _ _ _ _ _ _ _ _ _ _ _ _ _ _ _ _ _ _).symm]; exact Blk.stL _ _ q9
    · have h1 : ρ (.tmp 26) = .pointer (some ⟨B, 0, none⟩) := hv 1 26 rfl (hdep ⟨1, .data⟩ (by simp) rfl)
      exact .inl ⟨rfl, .inl ⟨_, u, run_nil_op rfl h1, rfl, ⟨hR.1, by rw [st2_ne (by decide) (by decide)]; exact hR.2⟩, trivial⟩⟩
    · have h15 : ρ (.tmp 39) = .pointer (some ⟨B, 0, none⟩) := hv 15 39 rfl (hdep ⟨15, .data⟩ (by simp) rfl)
      exact .inl ⟨rfl, .inl ⟨.pointer (some ⟨B, 14, none⟩), u, run_field_op rfl h15 (by go_simp), rfl, ⟨hR.1, by rw [st2_ne (by decide) (by decide)]; exact hR.2⟩, trivial⟩⟩
    · have h16 : ρ (.tmp 40) = .pointer (some ⟨B, 14, none⟩) := hv 16 40 rfl (hdep ⟨16, .data⟩ (by simp) rfl)
      have h11 : ρ (.tmp 36) = .int .i64 nx1 := hv 11 36 rfl (hdep ⟨11, .data⟩ (by simp) rfl)
      have h14 := hdep ⟨14, .chain⟩ (by simp) rfl
      have q0 := hR.2
      have hst : st2 14 17 l = 1 := by simp [st2, hli, h14]
      rw [hst] at q0
      have q9 : Blk u B 32 (lac { L with bz := true, c := C, nu := L.nx } xa (n - 1) (cp - 1) b1 b2 m1 m2 k1 k2) := q0
      have yc := q9.cell 14 rfl
      have yfr := q9.fro 14
      have hr : (Instr.storeAt 3 (.pointer (some ⟨B, 14, none⟩)) (.int .i64 nx1)).run Tryz.prog u = .ok () (setL u B 14 [.int .i64 nx1]) := by go_simp; rfl
      refine .inl ⟨rfl, .inr (.inr ⟨rfl, _, run_store_op rfl h16 h11 hr, ⟨gr_tr hR.1 (setL_gw _ _ _) (.inl rfl), ?_⟩, trivial⟩)⟩
      have hs2 : st2 14 17 (updB l 17) = 2 := by
        have h9 : updB l 17 17 = true := rfl
        simp [st2, h9]
      rw [hs2]
      show Blk _ _ _ (lac { L with bz := true, c := C, nu := L.nx, nx := nx1 } xa (n - 1) (cp - 1) b1 b2 m1 m2 k1 k2)
      rw [show lac { L with bz := true, c := C, nu := L.nx, nx := nx1 } xa (n - 1) (cp - 1) b1 b2 m1 m2 k1 k2 = wrA (lac { L with bz := true, c := C, nu := L.nx } xa (n - 1) (cp - 1) b1 b2 m1 m2 k1 k2) 14 [.int .i64 nx1] from (lwr14_1 _ _ _ _ _ _ _ _ _ _ _ _ _ _ _ _ _ _).symm]; exact Blk.stL _ _ q9
  intro vs σ u2 hR hσ hall
  have H2 : Hid (W.grownBy u2 (some B) ∧ Blk u2 B 32 (lac { L with bz := true, c := C, nu := L.nx, nx := nx1 } xa (n - 1) (cp - 1) b1 b2 m1 m2 k1 k2)) := ⟨gr_tr H1.out.1 hR.1 (.inl rfl), hR.2⟩
  simp only [putsL]
  clear hall hσ hR H1
  obtain ⟨W3, hW3⟩ : ∃ W3, W3 = setL u2 B 13 [.int .i64 L.tr] := ⟨_, rfl⟩
  have H3 : Hid (w.grownBy W3 (some B) ∧ Blk W3 B 32 (lac { L with bz := true, c := C, nu := L.nx, nx := nx1, le := L.tr } xa (n - 1) (cp - 1) b1 b2 m1 m2 k1 k2) ∧ Blk W3 Br 83 od0 ∧ OwnI W3 b (.slice b1 m1 k1) C.ws ∧ OwnB W3 b (.slice b2 m2 k2) C.bs) := by
    have h0 := HB.out
    have g1 : u2.grownBy W3 (some B) := by rw [hW3]; exact setL_gw _ _ _
    have g2 := gr_tr (gr_tr (grown_below h0.2.2.1 (some B)) H2.out.1 (.inl rfl)) g1 (.inl rfl)
    refine ⟨g2, ?_, (h0.2.1.grown H2.out.1 (by intro e9; have := Option.some.inj e9; omega)).grown g1 (by intro e9; have := Option.some.inj e9; omega), row_noT HC.out.2.2.2.2.1 g2 h0.2.2.2.2.2.1 (by decide), row_noT HC.out.2.2.2.2.2.1 g2 h0.2.2.2.2.2.1 (by decide)⟩
    rw [hW3, show lac { L with bz := true, c := C, nu := L.nx, nx := nx1, le := L.tr } xa (n - 1) (cp - 1) b1 b2 m1 m2 k1 k2 = wrA (lac { L with bz := true, c := C, nu := L.nx, nx := nx1 } xa (n - 1) (cp - 1) b1 b2 m1 m2 k1 k2) 13 [.int .i64 L.tr] from (lwr13_1 _ _ _ _ _ _ _ _ _ _ _ _ _ _ _ _ _ _).symm]; exact Blk.stL _ _ H2.out.2
  have y16 : u2.cell? ⟨B, 16, none⟩ = some (.int .i64 L.tr) := H2.out.2.cell 16 rfl
  have y13 : u2.cell? ⟨B, 13, none⟩ = some (.int .i64 L.le) := H2.out.2.cell 13 rfl
  have yf := H2.out.2.fro 13
  have hW3' : W3 = u2.setCell ⟨B, 13, none⟩ (.int .i64 L.tr) := hW3
  clear hW3 H2
  go_upto_region 3 with fail
  try go_simp
  go_upto_region 4 with fail
  rw [← hW3']
  clear hW3' y16 y13 yf
  go_wp2_with fail
  refine (order_any { L with bz := true, c := C, nu := L.nx, nx := nx1, le := L.tr } xa b1 b2 (n - 1) (cp - 1) m1 m2 k1 k2 B b now _ H3.out.2.1 HC.out.1 HC.out.2.1 H3.out.2.2.2.1 H3.out.2.2.2.2 hl1 hl2 HC.out.2.2.1 HC.out.2.2.2.1).mono ?_
  rintro e w2 ⟨v1, v2, t1, t2, rfl, i1, i2, X2, g2⟩
  have HD : Hid (Blk w2 Br 83 od0 ∧ OwnI w2 w.heap.size (.slice v1 m1 t1) C.ws ∧ OwnB w2 w.heap.size (.slice v2 m2 t2) C.bs ∧ Blk w2 B 32 (lac (nxL C now L) xa (n - 1) (cp - 1) b1 b2 m1 m2 k1 k2) ∧ w.grownBy w2 (some B) ∧ w.heap.size = Br ∧ B < Br) := by
    have h9 := H3.out
    have h0 := HB.out
    refine ⟨h9.2.2.1.grown g2 (by intro e9; have := Option.some.inj e9; omega), OwnI.mono (show OwnI _ _ _ _ from i1) h9.1.size, OwnB.mono (show OwnB _ _ _ _ from i2) h9.1.size, ?_, gr_tr h9.1 g2 (.inl rfl), h0.2.2.2.1, h0.2.2.2.2.1⟩
    rw [show nxL C now L = { { L with bz := true, c := C, nu := L.nx, nx := nx1, le := L.tr } with du := tkO now L.wt } by unfold nxL; rw [HN.out]]
    exact X2
  clear i1 i2 X2 g2 HB H3
  rename_i hK
  refine hK _ _ ?_
  clear hK
  have HO : odL { L with bz := true, c := C, nu := L.nx, nx := nx1, le := L.tr } = odL (nxL C now L) := rfl
  rw [HO]
  refine wpList_store_mid rfl 83 (.tmp 4) (.tmp 50) rfl Br 0 (odc (odL (nxL C now L)) v1 v2 m1 m2 t1 t2) rfl rfl (HD.out.1.there 0 8 (by simp)) (by kernel_rfl) (by simp [Value.oneCell']) ?_
  rw [setCells_L]
  refine wpList_nil ?_
  have H9 : Hid (Blk (setL w2 Br 0 (odcL (odL (nxL C now L)) v1 v2 m1 m2 t1 t2)) Br 83 (odc (odL (nxL C now L)) v1 v2 m1 m2 t1 t2) ∧ OrdP w (setL w2 Br 0 (odcL (odL (nxL C now L)) v1 v2 m1 m2 t1 t2)) (.returned (.agg (odc (odL (nxL C now L)) v1 v2 m1 m2 t1 t2))) B (odL (nxL C now L)) m1 m2 (lac (nxL C now L) xa (n - 1) (cp - 1) b1 b2 m1 m2 k1 k2)) := by
    have h9 := HD.out
    have gg : w2.grownBy (setL w2 Br 0 (odcL (odL (nxL C now L)) v1 v2 m1 m2 t1 t2)) (some Br) := setL_gw _ _ _
    have hx9 : ExB w2 Br 83 := ⟨_, h9.1⟩
    refine ⟨?_, v1, v2, t1, t2, rfl, row_noT h9.2.1 gg hx9 (by decide), row_noT h9.2.2.1 gg hx9 (by decide), Blk.stNe (by omega) _ _ h9.2.2.2.1, gr_tr h9.2.2.2.2.1 gg (.inr (by omega))⟩
    rw [show odc (odL (nxL C now L)) v1 v2 m1 m2 t1 t2 = wrA od0 0 (odcL (odL (nxL C now L)) v1 v2 m1 m2 t1 t2) from (wr08b _ _ _ _ _ _ _ _ _ _ _ _ _ _ _ _).symm]; exact Blk.stL _ _ h9.1
  have HX := HC.out.2.2.2.2.2.2
  clear HD HC HO
  go_wp2
  refine bodyPost_ret (v := .agg (odc (odL (nxL C now L)) v1 v2 m1 m2 t1 t2)) (results_cell Tryz.results45 rfl (run_loadVar_mid _ _ _ 83 (odcL (odL (nxL C now L)) v1 v2 m1 m2 t1 t2) _ H9.out.1.all Tryz.underlying83 rfl (by kernel_rfl))) rfl ?_
  exact ⟨xa, H9.out.2, HX⟩
end Go.Proofs.YtmhdneenjoelfaaGreat
namespace Go.Proofs.YtmhdneenjoelfaaGreat
open Go.RowKit Go.Joins
set_option linter.unusedVariables false
set_option linter.unusedSimpArgs false
theorem wpList_run_w {P : Program} {ops : Array Oper} {rest : List Oper} {op : Oper} {a : Act} {w w' : World} {Q : Exit → Act → World → Prop} (hgd : op.guard = none) (v : Value) (hr : (execOp a.eval op).run P w = .ok (.value v) w') (h : wpList P ops Q rest (a.put op.dst v) w') : wpList P ops Q (op :: rest) a w :=
  wpList_plain hgd fun K hK => by
    unfold Oper.wp
    rw [hr]
    exact hK _ _ h
theorem run_app_op {P : Program} {ρ : Operand → Value} {o : Oper} {w w' : World} {s x : Operand} {t : TypeId} {v1 v2 v : Value} (ho : o.op = .call { callee := .builtin .append, args := #[s, x], argTypes := #[t, t] }) (hs : ρ s = v1) (hx : ρ x = v2) (hr : (Builtin.append_ #[t, t] o.type #[v1, v2]).run P w = .ok v w') : (execOp ρ o).run P w = .ok (.value v) w' := by
  unfold execOp
  simp only [ho, resolve, invoke, builtin, Sem.run_bind, Sem.run_pure, Result.andThen_ok, List.map_toArray, List.map_cons, List.map_nil, hs, hx, hr]
theorem run_appD (ty : TypeId) (ad : Addr) (g lo : Nat) (D : Dn) (u1 u2 : Option Addr) (m1 m2 t1 t2 : Nat) (w : World) (hb : Blk w g 43 (dnd D u1 u2 m1 m2 t1 t2)) (e1 : m1 = D.ws.length) (e2 : m2 = D.bs.length) (hlo : lo ≤ w.heap.size) (O1 : OwnI w lo (.slice u1 m1 t1) D.ws) (O2 : OwnB w lo (.slice u2 m2 t2) D.bs) :
    ∃ va vc w', (Builtin.append_ #[39, 39] ty #[.slice (some ad) 0 0, .slice (some ⟨g, 0, none⟩) 1 1]).run Tryz.prog w = .ok (.slice va 1 vc) w' ∧ TopL w' lo w'.heap.size 43 8 (.slice va 1 vc) 1 (fun _ => dnE D) ∧ Below w.heap.size w w' := by
  obtain ⟨i0, hi0, hzz⟩ := Option.map_eq_some_iff.1 Tryz.infoD43
  simp only [Prod.mk.injEq] at hzz
  obtain ⟨hz0, hz1, hz2⟩ := hzz
  obtain ⟨v', w', hrun, r1, r2⟩ := run_append_arg_grows (P := Tryz.prog) w 39 ty 43 i0 _ 8 96 Tryz.underlying39 hi0 hz0 hz1 hz2 rfl (by decide) ad 0 0 [] rfl (fun j u hj => by simp at hj) ⟨g, 0, none⟩ 1 1 (dndL D u1 u2 m1 m2 t1 t2) rfl (fun j u hu => by
    have e1 : (⟨g, 0, none⟩ : Addr).add j = ⟨g, j, none⟩ := by unfold Addr.add; split <;> simp_all
    rw [e1]
    exact hb.cell j (by simpa using hu)) (by omega) (by unfold maxLen; omega) (by omega)
  have hbl := grown_no r2
  have P1 := row_bel O1 hbl
  have P2 := row_bel O2 hbl
  have hr8 : w'.ownsRow lo 43 8 v' 1 (dndL D u1 u2 m1 m2 t1 t2) := by
    refine ⟨r1.1, ?_⟩
    rcases r1.2 with q | ⟨g', cap, cur, hv, hg, r⟩
    · exact .inl q
    · exact .inr ⟨g', cap, cur, hv, by omega, r⟩
  obtain ⟨va, vc, hv, T8⟩ := topL_one (lo := lo) (E := dnE D) hr8 rfl ⟨u1, u2, t1, t2, by simp [els, dnE, e1, e2], by show OwnI _ _ (.slice _ D.ws.length _) D.ws; rw [← e1]; exact P1, by show OwnB _ _ (.slice _ D.bs.length _) D.bs; rw [← e2]; exact P2, fun x hx => by have hx' : (Value.slice u1 D.ws.length t1).ownBlock = some x := hx; rw [← e1] at hx'; exact (World.ownsRow.lt P1 x hx').2, fun x hx => by have hx' : (Value.slice u2 D.bs.length t2).ownBlock = some x := hx; rw [← e2] at hx'; exact (World.ownsRow.lt P2 x hx').2⟩ (Nat.le_refl _) (Nat.le_trans hlo hbl.size)
  subst hv
  exact ⟨va, vc, w', hrun, T8, hbl⟩
theorem run_appO (ty : TypeId) (ad : Addr) (g lo : Nat) (D : Od) (u1 u2 : Option Addr) (m1 m2 t1 t2 : Nat) (w : World) (hb : Blk w g 83 (odc D u1 u2 m1 m2 t1 t2)) (e1 : m1 = D.ws.length) (e2 : m2 = D.bs.length) (hlo : lo ≤ w.heap.size) (O1 : OwnI w lo (.slice u1 m1 t1) D.ws) (O2 : OwnB w lo (.slice u2 m2 t2) D.bs) :
    ∃ va vc w', (Builtin.append_ #[45, 45] ty #[.slice (some ad) 0 0, .slice (some ⟨g, 0, none⟩) 1 1]).run Tryz.prog w = .ok (.slice va 1 vc) w' ∧ TopL w' lo w'.heap.size 83 8 (.slice va 1 vc) 1 (fun _ => odE D) ∧ Below w.heap.size w w' := by
  obtain ⟨i0, hi0, hzz⟩ := Option.map_eq_some_iff.1 Tryz.infoD283
  simp only [Prod.mk.injEq] at hzz
  obtain ⟨hz0, hz1, hz2⟩ := hzz
  obtain ⟨v', w', hrun, r1, r2⟩ := run_append_arg_grows (P := Tryz.prog) w 45 ty 83 i0 _ 8 96 Tryz.underlying45 hi0 hz0 hz1 hz2 rfl (by decide) ad 0 0 [] rfl (fun j u hj => by simp at hj) ⟨g, 0, none⟩ 1 1 (odcL D u1 u2 m1 m2 t1 t2) rfl (fun j u hu => by
    have e1 : (⟨g, 0, none⟩ : Addr).add j = ⟨g, j, none⟩ := by unfold Addr.add; split <;> simp_all
    rw [e1]
    exact hb.cell j (by simpa using hu)) (by omega) (by unfold maxLen; omega) (by omega)
  have hbl := grown_no r2
  have P1 := row_bel O1 hbl
  have P2 := row_bel O2 hbl
  have hr8 : w'.ownsRow lo 83 8 v' 1 (odcL D u1 u2 m1 m2 t1 t2) := by
    refine ⟨r1.1, ?_⟩
    rcases r1.2 with q | ⟨g', cap, cur, hv, hg, r⟩
    · exact .inl q
    · exact .inr ⟨g', cap, cur, hv, by omega, r⟩
  obtain ⟨va, vc, hv, T8⟩ := topL_one (lo := lo) (E := odE D) hr8 rfl ⟨u1, u2, t1, t2, by simp [els, odE, e1, e2], by show OwnI _ _ (.slice _ D.ws.length _) D.ws; rw [← e1]; exact P1, by show OwnB _ _ (.slice _ D.bs.length _) D.bs; rw [← e2]; exact P2, fun x hx => by have hx' : (Value.slice u1 D.ws.length t1).ownBlock = some x := hx; rw [← e1] at hx'; exact (World.ownsRow.lt P1 x hx').2, fun x hx => by have hx' : (Value.slice u2 D.bs.length t2).ownBlock = some x := hx; rw [← e2] at hx'; exact (World.ownsRow.lt P2 x hx').2⟩ (Nat.le_refl _) (Nat.le_trans hlo hbl.size)
  subst hv
  exact ⟨va, vc, w', hrun, T8, hbl⟩
end Go.Proofs.YtmhdneenjoelfaaGreat
namespace Go.Proofs.YtmhdneenjoelfaaGreat
open Go.RowKit
set_option linter.unusedVariables false
set_option linter.unusedSimpArgs false
abbrev foV (b : Bool) (kd x : Int) : Value := rp (bif b then kd else 0) (bif b then x else 0) 0 0 none none 0 0 0 0
set_option maxRecDepth 20000 in
set_option maxHeartbeats 4000000 in
theorem specFaultOf_q (kd pl nn wa : Int) (a1 a2 : Option Addr) (l1 l2 c1 c2 : Nat) (ws : List Int) (bs : List Bool) (x : Int) (w : World) (h1 : l1 = ws.length) (h2 : l2 = bs.length) (s1 : SlI w a1 ws) (s2 : SlB w a2 bs) (hl1 : ws.length ≤ 2000000) (hl2 : bs.length ≤ 2000000) :
    Calls Tryz.prog 9 #[rq kd pl nn wa a1 a2 l1 l2 c1 c2, .int .i64 x] w fun e w' => e = .returned (foV (okR kd pl nn wa ws l1 l2 && inB x 1 255) kd x) ∧ Below w.heap.size w w' := by
  obtain ⟨W0, hW0⟩ : ∃ W0, W0 = (w.alloc (.cells #[.int .i64 kd, .int .i64 pl, .int .i64 nn, .slice a1 l1 c1, .slice a2 l2 c2, .int .i64 wa] 28)).alloc (.cells #[.int .i64 0, .int .i64 0, .int .i64 0, .int .i64 0, .slice none 0 0, .slice none 0 0] 37) := ⟨_, rfl⟩
  have HW : Hid (W0 = _) := hW0
  have B0 : Below w.heap.size w W0 := by rw [hW0]; exact bel_next (bel_alloc w _) (bel_alloc _ _)
  have X0 : Blk W0 w.heap.size 28 #[.int .i64 kd, .int .i64 pl, .int .i64 nn, .slice a1 l1 c1, .slice a2 l2 c2, .int .i64 wa] := by rw [hW0]; exact (Blk.new w _ _).below (bel_alloc _ _)
  have R0 : Blk W0 (w.heap.size + 1) 37 #[.int .i64 0, .int .i64 0, .int .i64 0, .int .i64 0, .slice none 0 0, .slice none 0 0] := by
    rw [hW0]; have := Blk.new (w.alloc (.cells #[.int .i64 kd, .int .i64 pl, .int .i64 nn, .slice a1 l1 c1, .slice a2 l2 c2, .int .i64 wa] 28)) #[.int .i64 0, .int .i64 0, .int .i64 0, .int .i64 0, .slice none 0 0, .slice none 0 0] 37; simpa using this
  have HS : Hid (SlI W0 a1 ws ∧ SlB W0 a2 bs) := ⟨s1.below B0, s2.below B0⟩
  have HL : Hid (l1 = ws.length ∧ l2 = bs.length) := ⟨h1, h2⟩
  obtain ⟨x0, x1, x2, x3, x4, x5⟩ := X0.six
  clear hW0 h1 h2 s1 s2
  go_enter Tryz.func9, Tryz.ntmps9
  go_upto_region 1 with fail
  rw [← HW.out]
  go_wp2_with fail
  refine (specReqOk_q kd pl nn wa a1 a2 l1 l2 c1 c2 ws bs _ HL.out.1 HL.out.2 HS.out.1 HS.out.2 hl1 hl2).mono ?_
  rintro e w1 ⟨rfl, b'⟩
  have B1 := bel_next B0 b'
  have R1 := R0.below b'
  obtain ⟨z0, z1, z2, z3, z4, z5⟩ := (X0.below b').six
  obtain ⟨y0, y1, y2, y3, y4, y5⟩ := R1.six
  have fy := R1.fro
  clear b' B0 X0 R0 x0 x1 x2 x3 x4 x5 R1
  cases hok : okR kd pl nn wa ws l1 l2
  · skip
    go_wp2
    refine bodyPost_ret (v := foV false kd x) (by simp [results, Tryz.results9, go_sem, y0, y1, y2, y3, y4, y5]) rfl ?_
    exact ⟨by rw [hok]; rfl, belp_set6 B1 (Nat.le_succ _)⟩
  · cases hx : inB x 1 255
    · skip
      go_wp2_with (go_at_call 35; refine (l1In_any _ _ _ _ _ hx).mono ?_; rintro e wx ⟨rfl, rfl⟩)
      refine bodyPost_ret (v := foV false kd x) (by simp [results, Tryz.results9, go_sem, y0, y1, y2, y3, y4, y5]) rfl ?_
      exact ⟨by rw [hok, hx]; rfl, belp_set6 B1 (Nat.le_succ _)⟩
    · skip
      go_wp2_with (go_at_call 35; refine (l1In_any _ _ _ _ _ hx).mono ?_; rintro e wx ⟨rfl, rfl⟩)
      refine bodyPost_ret (v := foV true kd x) (by simp [results, Tryz.results9, go_sem, y0, y1, y2, y3, y4, y5]) rfl ?_
      exact ⟨by rw [hok, hx]; rfl, belp_set6 B1 (Nat.le_succ _)⟩
set_option maxRecDepth 20000 in
set_option maxHeartbeats 4000000 in
theorem implFaultOf_q (kd pl nn wa : Int) (a1 a2 : Option Addr) (l1 l2 c1 c2 : Nat) (ws : List Int) (bs : List Bool) (x : Int) (w : World) (h1 : l1 = ws.length) (h2 : l2 = bs.length) (s1 : SlI w a1 ws) (s2 : SlB w a2 bs) (hl1 : ws.length ≤ 2000000) (hl2 : bs.length ≤ 2000000) :
    Calls Tryz.prog 44 #[rq kd pl nn wa a1 a2 l1 l2 c1 c2, .int .i64 x] w fun e w' => e = .returned (foV (okR kd pl nn wa ws l1 l2 && inB x 1 255) kd x) ∧ Below w.heap.size w w' := by
  obtain ⟨W0, hW0⟩ : ∃ W0, W0 = (w.alloc (.cells #[.int .i64 kd, .int .i64 pl, .int .i64 nn, .slice a1 l1 c1, .slice a2 l2 c2, .int .i64 wa] 28)).alloc (.cells #[.int .i64 0, .int .i64 0, .int .i64 0, .int .i64 0, .slice none 0 0, .slice none 0 0] 37) := ⟨_, rfl⟩
  have HW : Hid (W0 = _) := hW0
  have B0 : Below w.heap.size w W0 := by rw [hW0]; exact bel_next (bel_alloc w _) (bel_alloc _ _)
  have X0 : Blk W0 w.heap.size 28 #[.int .i64 kd, .int .i64 pl, .int .i64 nn, .slice a1 l1 c1, .slice a2 l2 c2, .int .i64 wa] := by rw [hW0]; exact (Blk.new w _ _).below (bel_alloc _ _)
  have R0 : Blk W0 (w.heap.size + 1) 37 #[.int .i64 0, .int .i64 0, .int .i64 0, .int .i64 0, .slice none 0 0, .slice none 0 0] := by
    rw [hW0]; have := Blk.new (w.alloc (.cells #[.int .i64 kd, .int .i64 pl, .int .i64 nn, .slice a1 l1 c1, .slice a2 l2 c2, .int .i64 wa] 28)) #[.int .i64 0, .int .i64 0, .int .i64 0, .int .i64 0, .slice none 0 0, .slice none 0 0] 37; simpa using this
  have HS : Hid (SlI W0 a1 ws ∧ SlB W0 a2 bs) := ⟨s1.below B0, s2.below B0⟩
  have HL : Hid (l1 = ws.length ∧ l2 = bs.length) := ⟨h1, h2⟩
  obtain ⟨x0, x1, x2, x3, x4, x5⟩ := X0.six
  clear hW0 h1 h2 s1 s2
  go_enter Tryz.func44, Tryz.ntmps44
  go_upto_region 1 with fail
  rw [← HW.out]
  go_wp2_with fail
  refine (implReqOk_q kd pl nn wa a1 a2 l1 l2 c1 c2 ws bs _ HL.out.1 HL.out.2 HS.out.1 HS.out.2 hl1 hl2).mono ?_
  rintro e w1 ⟨rfl, b'⟩
  have B1 := bel_next B0 b'
  have R1 := R0.below b'
  obtain ⟨z0, z1, z2, z3, z4, z5⟩ := (X0.below b').six
  obtain ⟨y0, y1, y2, y3, y4, y5⟩ := R1.six
  have fy := R1.fro
  clear b' B0 X0 R0 x0 x1 x2 x3 x4 x5 R1
  cases hok : okR kd pl nn wa ws l1 l2
  · skip
    go_wp2
    refine bodyPost_ret (v := foV false kd x) (by simp [results, Tryz.results44, go_sem, y0, y1, y2, y3, y4, y5]) rfl ?_
    exact ⟨by rw [hok]; rfl, belp_set6 B1 (Nat.le_succ _)⟩
  · cases hx : inB x 1 255
    · skip
      go_wp2_with (go_at_call 100; refine (isFault_any _ _ _ hx).mono ?_; rintro e wx ⟨rfl, rfl⟩)
      refine bodyPost_ret (v := foV false kd x) (by simp [results, Tryz.results44, go_sem, y0, y1, y2, y3, y4, y5]) rfl ?_
      exact ⟨by rw [hok, hx]; rfl, belp_set6 B1 (Nat.le_succ _)⟩
    · skip
      go_wp2_with (go_at_call 100; refine (isFault_any _ _ _ hx).mono ?_; rintro e wx ⟨rfl, rfl⟩)
      refine bodyPost_ret (v := foV true kd x) (by simp [results, Tryz.results44, go_sem, y0, y1, y2, y3, y4, y5]) rfl ?_
      exact ⟨by rw [hok, hx]; rfl, belp_set6 B1 (Nat.le_succ _)⟩
end Go.Proofs.YtmhdneenjoelfaaGreat

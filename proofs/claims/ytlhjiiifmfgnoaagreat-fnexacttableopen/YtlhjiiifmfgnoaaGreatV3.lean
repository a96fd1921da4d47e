/- Texts that the proof needs, joined: Mk0 Mk1 Mk4 Tr5 Mk5. -/
import Derived.Test.YtlhjiiifmfgnoaaGreatV2
set_option linter.unusedVariables false
set_option linter.unusedSimpArgs false
set_option maxHeartbeats 4000000
set_option maxRecDepth 20000
namespace Go.Proofs.YtlhjiiifmfgnoaaGreat
open Go.RowKit Go.Joins
inductive Sk where
 | leaf
 | row (g off s n : Nat) (K : Nat -> Nat -> Sk)
def Sk.bl : Sk -> Nat -> Prop
 | .leaf, _ => False
 | .row g _ s n K, b => b = g \/ ∃ k j, k < n /\ j < s /\ (K k j).bl b
def Sk.ok : Sk -> Prop
 | .leaf => True
 | .row g _ s n K => (∀ k j, k < n -> j < s -> (K k j).ok /\ ¬ (K k j).bl g) /\ ∀ k j k' j', k < n -> j < s -> k' < n -> j' < s -> (k ≠ k' \/ j ≠ j') -> ∀ b, (K k j).bl b -> ¬ (K k' j').bl b
def Fit (w : World) : Tr -> Sk -> Value -> Prop
 | .leaf u, K, v => K = .leaf /\ v = u
 | .list s n f, .leaf, v => n = 0 /\ ∃ a c, v = .slice a 0 c
 | .list s n f, .row g off s' n' K, v => s' = s /\ n' = n /\ ∃ c, v = .slice (some ⟨g, off, none⟩) n c /\ n <= c /\ n <= maxLen /\ g < w.heap.size /\ (∀ j, w.frozen? ⟨g, j, none⟩ = false) /\
  ∀ k j, k < n -> j < s -> ∃ u, w.cell? ⟨g, off + k * s + j, none⟩ = some u /\ Fit w (f k j) (K k j) u
theorem Fit.lt {w : World} {b : Nat} : ∀ {t : Tr} {K : Sk} {v : Value}, Fit w t K v -> K.bl b -> b < w.heap.size := by
 intro t
 induction t with
 | leaf u => intro K v h hb; obtain ⟨rfl, _⟩ := h; exact hb.elim
 | list s n f ih =>
  intro K v h hb
  cases K with
  | leaf => exact hb.elim
  | row g off s' n' K =>
   obtain ⟨rfl, rfl, c, _, _, _, hg, _, hc⟩ := h
   rcases hb with rfl | ⟨k, j, hk, hj, hb⟩
   ·exact hg
   obtain ⟨u, _, hf⟩ := hc k j hk hj
   exact ih k j hf hb
theorem Fit.same {w w' : World} (hs : w.heap.size <= w'.heap.size) : ∀ {t : Tr} {K : Sk} {v : Value}, Fit w t K v -> (∀ b, K.bl b -> w'.heap[b]? = w.heap[b]?) -> Fit w' t K v := by
 intro t
 induction t with
 | leaf u => intro K v h _; exact h
 | list s n f ih =>
  intro K v h hb
  cases K with
  | leaf => exact h
  | row g off s' n' K =>
   obtain ⟨rfl, rfl, c, h1, h2, h3, hg, hz, hc⟩ := h
   have e := hb g (.inl rfl)
   refine ⟨rfl, rfl, c, h1, h2, h3, Nat.lt_of_lt_of_le hg hs, fun j => (World.frozen?_of_block (a := ⟨g, j, none⟩) e).trans (hz j), fun k j hk hj => ?_⟩
   obtain ⟨u, hu, hf⟩ := hc k j hk hj
   exact ⟨u, (World.cell?_of_block (a := ⟨g, off + k * s' + j, none⟩) e).trans hu, ih k j hf (fun b hb' => hb b (.inr ⟨k, j, hk, hj, hb'⟩))⟩
theorem Fit.below {w w' : World} {t : Tr} {K : Sk} {v : Value} (h : Fit w t K v) (hb : Below w.heap.size w w') : Fit w' t K v := h.same hb.size (fun b hb' => hb.block b (h.lt hb'))
theorem Fit.rd {w : World} {lo : Nat} : ∀ {t : Tr} {K : Sk} {v : Value}, Fit w t K v -> (∀ b, K.bl b -> lo <= b) -> Rd w lo t v := by
 intro t
 induction t with
 | leaf u => intro K v h _; exact h.2
 | list s n f ih =>
  intro K v h hb
  cases K with
  | leaf =>
   obtain ⟨rfl, a, c, rfl⟩ := h
   exact ⟨a, c, rfl, Nat.zero_le _, Nat.zero_le _, .inl rfl⟩
  | row g off s' n' K =>
   obtain ⟨rfl, rfl, c, rfl, h2, h3, hg, hz, hc⟩ := h
   refine ⟨_, c, rfl, h2, h3, .inr ⟨g, off, fun k => (List.range s').map (fun j => (w.cell? ⟨g, off + k * s' + j, none⟩).getD undef), rfl, hb g (.inl rfl), hg, fun k hk => ⟨by simp, fun j v hv => ?_⟩⟩⟩
   have hj : j < s' := by have := (List.getElem?_eq_some_iff.1 hv).1; simpa using this
   obtain ⟨u, hu, hf⟩ := hc k j hk hj
   have e : v = u := by
    rw [List.getElem?_map, List.getElem?_range hj] at hv
    simp only [Option.map_some, Option.some.injEq] at hv
    rw [<- hv, hu]
    rfl
   subst e
   exact ⟨hu, ih k j hf (fun b hb' => hb b (.inr ⟨k, j, hk, hj, hb'⟩))⟩
structure Cg (w w' : World) (S : Nat -> Prop) : Prop where
 os : w'.os = w.os
 tape : w'.tape = w.tape
 output : w'.output = w.output
 size : w.heap.size <= w'.heap.size
 block : ∀ g, g < w.heap.size -> ¬ S g -> w'.heap[g]? = w.heap[g]?
theorem Cg.refl (w : World) (S : Nat -> Prop) : Cg w w S := ⟨rfl, rfl, rfl, Nat.le_refl _, fun _ _ _ => rfl⟩
theorem Cg.trans {a b c : World} {S : Nat -> Prop} (h : Cg a b S) (k : Cg b c S) : Cg a c S :=
 ⟨k.os.trans h.os, k.tape.trans h.tape, k.output.trans h.output, Nat.le_trans h.size k.size, fun g hg hn => (k.block g (Nat.lt_of_lt_of_le hg h.size) hn).trans (h.block g hg hn)⟩
theorem Cg.mono {w w' : World} {S S' : Nat -> Prop} (h : Cg w w' S) (hs : ∀ g, S g -> S' g) : Cg w w' S' := ⟨h.os, h.tape, h.output, h.size, fun g hg hn => h.block g hg (fun q => hn (hs g q))⟩
theorem Cg.ofBelow {w w' : World} {S : Nat -> Prop} (h : Below w.heap.size w w') : Cg w w' S := ⟨h.os, h.tape, h.output, h.size, fun g hg _ => h.block g hg⟩
theorem Cg.set {w w' : World} {S : Nat -> Prop} (h : Cg w w' S) {p : Addr} (hp : S p.block) (u : Value) : Cg w (w'.setCell p u) S :=
 h.trans ⟨rfl, rfl, rfl, by simp [World.setCell], fun g hg hn => Below.heap_setCell _ _ _ _ (fun e => hn (by rw [e]; exact hp))⟩
theorem Cg.below {B : Nat} {W w w' : World} {S : Nat -> Prop} (hb : Below B W w) (hc : Cg w w' S) (hs : ∀ g, S g -> B <= g) (hB : B <= w.heap.size) : Below B W w' :=
 hb.trans ⟨hc.os, hc.tape, hc.output, hc.size, fun k hk => hc.block k (by omega) (fun q => by have := hs k q; omega)⟩
theorem Fit.cg {w w' : World} {S : Nat -> Prop} {t : Tr} {K : Sk} {v : Value} (h : Fit w t K v) (hc : Cg w w' S) (hd : ∀ b, K.bl b -> ¬ S b) : Fit w' t K v := h.same hc.size (fun b hb => hc.block b (h.lt hb) (hd b hb))
theorem Fit.congr {w : World} {s n : Nat} {f f' : Nat -> Nat -> Tr} {K : Sk} {v : Value} (h : Fit w (.list s n f) K v) (he : ∀ k j, k < n -> j < s -> f k j = f' k j) : Fit w (.list s n f') K v := by
 cases K with
 | leaf => exact h
 | row g off s' n' K =>
  obtain ⟨rfl, rfl, c, h1, h2, h3, hg, hz, hc⟩ := h
  exact ⟨rfl, rfl, c, h1, h2, h3, hg, hz, fun k j hk hj => by rw [<- he k j hk hj]; exact hc k j hk hj⟩
theorem Fit.row {w : World} {s n m c : Nat} {a : Option Addr} {f : Nat -> Nat -> Tr} {K : Sk} (h : Fit w (.list s n f) K (.slice a m c)) (h0 : 0 < n) : ∃ g off K', K = .row g off s n K' /\ a = some ⟨g, off, none⟩ /\ m = n /\ n <= c /\ n <= maxLen /\ g < w.heap.size /\ ∀ j, w.frozen? ⟨g, j, none⟩ = false := by
 cases K with
 | leaf => obtain ⟨e, _⟩ := h; omega
 | row g off s' n' K =>
  obtain ⟨rfl, rfl, c', h1, h2, h3, hg, hz, hc⟩ := h
  simp only [Value.slice.injEq] at h1
  obtain ⟨rfl, rfl, rfl⟩ := h1
  exact ⟨g, off, K, rfl, rfl, rfl, h2, h3, hg, hz⟩
theorem Fit.len {w : World} {s n m c : Nat} {a : Option Addr} {f : Nat -> Nat -> Tr} {K : Sk} (h : Fit w (.list s n f) K (.slice a m c)) : m = n /\ n <= c /\ n <= maxLen := by
 cases K with
 | leaf =>
  obtain ⟨rfl, a', c', h1⟩ := h
  simp only [Value.slice.injEq] at h1
  exact ⟨h1.2.1, Nat.zero_le _, Nat.zero_le _⟩
 | row g off s' n' K =>
  obtain ⟨rfl, rfl, c', h1, h2, h3, _⟩ := h
  simp only [Value.slice.injEq] at h1
  obtain ⟨-, rfl, rfl⟩ := h1
  exact ⟨rfl, h2, h3⟩
theorem cell_neT {s k j k' j' : Nat} (hj : j < s) (hj' : j' < s) (h : k ≠ k' \/ j ≠ j') (off : Nat) : off + k * s + j ≠ off + k' * s + j' := by
 intro e
 have e' : k * s + j = k' * s + j' := by omega
 have h1 : (k * s + j) / s = k := by rw [Nat.mul_comm, Nat.mul_add_div (by omega), Nat.div_eq_of_lt hj, Nat.add_zero]
 have h2 : (k' * s + j') / s = k' := by rw [Nat.mul_comm, Nat.mul_add_div (by omega), Nat.div_eq_of_lt hj', Nat.add_zero]
 have e1 : k = k' := by rw [<- h1, <- h2, e']
 subst e1
 rcases h with h | h
 ·exact h rfl
 omega
def atZ (z : Nat) (L : List Tr) (T0 : Nat -> Nat -> Tr) : Nat -> Nat -> Tr := fun i => if i = z then trs L else T0 i
theorem atZ_eq (z : Nat) (L : List Tr) (T0 : Nat -> Nat -> Tr) : atZ z L T0 z = trs L := by simp [atZ]
theorem atZ_ne {z i : Nat} (L : List Tr) (T0 : Nat -> Nat -> Tr) (h : i ≠ z) : atZ z L T0 i = T0 i := by simp [atZ, h]
theorem trs_set {L : List Tr} {j j' : Nat} {t : Tr} (h : j < L.length) : trs (L.set j t) j' = if j' = j then t else trs L j' := by
 unfold trs
 rw [List.getD_eq_getElem?_getD, List.getElem?_set]
 by_cases e : j = j'
 ·subst e; simp [h]
 rw [if_neg e, if_neg (fun x => e x.symm), List.getD_eq_getElem?_getD]
theorem Fit.cellZ {w : World} {s n z g off : Nat} {L : List Tr} {T0 : Nat -> Nat -> Tr} {K : Nat -> Nat -> Sk} {v : Value} (h : Fit w (.list s n (atZ z L T0)) (.row g off s n K) v) (hz : z < n) (j : Nat) (hj : j < s) : ∃ u, w.cell? ⟨g, off + z * s + j, none⟩ = some u /\ Fit w (trs L j) (K z j) u := by
 obtain ⟨_, _, c, _, _, _, _, _, hc⟩ := h
 have := hc z j hz hj
 rw [atZ_eq] at this
 exact this
theorem Fit.setZ {w : World} {s n z g off : Nat} {L L' : List Tr} {T0 : Nat -> Nat -> Tr} {K : Nat -> Nat -> Sk} {v : Value} (h : Fit w (.list s n (atZ z L T0)) (.row g off s n K) v) (hok : (Sk.row g off s n K).ok) (hz : z < n) (j : Nat) (hj : j < s) (hl : j < L.length) (u0 u u' : Value) (hu0 : trs L j = .leaf u0) (hu : u = u') (hL : L' = L.set j (.leaf u')) :
 Fit (w.setCell ⟨g, off + z * s + j, none⟩ u) (.list s n (atZ z L' T0)) (.row g off s n K) v := by
 subst hu hL
 obtain ⟨_, _, c, h1, h2, h3, hg, hf, hc⟩ := h
 refine ⟨rfl, rfl, c, h1, h2, h3, by simpa using hg, fun i => by simpa using hf i, fun k i hk hi => ?_⟩
 obtain ⟨x, hx, hfx⟩ := hc k i hk hi
 have hblk : ∀ b, (K k i).bl b -> (w.setCell ⟨g, off + z * s + j, none⟩ u).heap[b]? = w.heap[b]? := fun b hb => Below.heap_setCell _ _ _ _ (fun e => (hok.1 k i hk hi).2 (by have e' : b = g := e; rw [<- e']; exact hb))
 have hsz : w.heap.size <= (w.setCell ⟨g, off + z * s + j, none⟩ u).heap.size := by simp [World.setCell]
 by_cases e : k = z /\ i = j
 ·obtain ⟨rfl, rfl⟩ := e
  refine ⟨u, World.cell?_setCell_same _ _ u hx, ?_⟩
  rw [atZ_eq, hu0] at hfx
  rw [atZ_eq, trs_set hl, if_pos rfl]
  exact ⟨hfx.1, rfl⟩
 refine ⟨x, ?_, ?_⟩
 ·rw [World.cell?_setCell_other (h := fun e' => cell_neT hj hi (show z ≠ k \/ j ≠ i by omega) off (congrArg Addr.off e'))]
  exact hx
 have hfx' : Fit w (atZ z (L.set j (.leaf u)) T0 k i) (K k i) x := by
  by_cases ek : k = z
  ·subst ek
   rw [atZ_eq] at hfx ⊢
   rw [trs_set hl, if_neg (by omega)]
   exact hfx
  rw [atZ_ne _ _ ek] at hfx ⊢
  exact hfx
 exact hfx'.same hsz hblk
theorem Fit.subZ {w w' : World} {s n z g off : Nat} {L L' : List Tr} {T0 : Nat -> Nat -> Tr} {K : Nat -> Nat -> Sk} {v : Value} (h : Fit w (.list s n (atZ z L T0)) (.row g off s n K) v) (hok : (Sk.row g off s n K).ok) (hz : z < n) (j : Nat) (hj : j < s) (hl : j < L.length) (u : Value) (hu : w.cell? ⟨g, off + z * s + j, none⟩ = some u) (t' : Tr) (hcg : Cg w w' (K z j).bl) (hf' : Fit w' t' (K z j) u) (hL : L' = L.set j t') :
 Fit w' (.list s n (atZ z L' T0)) (.row g off s n K) v := by
 subst hL
 obtain ⟨_, _, c, h1, h2, h3, hg, hf, hc⟩ := h
 have hgb := hcg.block g hg (hok.1 z j hz hj).2
 refine ⟨rfl, rfl, c, h1, h2, h3, Nat.lt_of_lt_of_le hg hcg.size, fun i => (World.frozen?_of_block (a := ⟨g, i, none⟩) hgb).trans (hf i), fun k i hk hi => ?_⟩
 obtain ⟨x, hx, hfx⟩ := hc k i hk hi
 have hcx : w'.cell? ⟨g, off + k * s + i, none⟩ = some x := (World.cell?_of_block (a := ⟨g, off + k * s + i, none⟩) hgb).trans hx
 refine ⟨x, hcx, ?_⟩
 by_cases e : k = z /\ i = j
 ·obtain ⟨rfl, rfl⟩ := e
  rw [atZ_eq, trs_set hl, if_pos rfl]
  have : x = u := by rw [hx] at hu; exact Option.some.inj hu
  rw [this]
  exact hf'
 have hfx' : Fit w (atZ z (L.set j t') T0 k i) (K k i) x := by
  by_cases ek : k = z
  ·subst ek
   rw [atZ_eq] at hfx ⊢
   rw [trs_set hl, if_neg (by omega)]
   exact hfx
  rw [atZ_ne _ _ ek] at hfx ⊢
  exact hfx
 exact hfx'.cg hcg (fun b hb => hok.2 k i z j hk hi hz hj (by omega) b hb)
theorem Sk.bl_in {g off s n : Nat} {K : Nat -> Nat -> Sk} {k j b : Nat} (hk : k < n) (hj : j < s) (h : (K k j).bl b) : (Sk.row g off s n K).bl b := .inr ⟨k, j, hk, hj, h⟩
theorem Fit.toZ {w : World} {s n z : Nat} {f : Nat -> Nat -> Tr} {L : List Tr} {K : Sk} {v : Value} (h : Fit w (.list s n f) K v) (hL : ∀ j, j < s -> f z j = trs L j) : Fit w (.list s n (atZ z L f)) K v :=
 h.congr (fun k j hk hj => by
  by_cases e : k = z
  ·subst e; rw [atZ_eq]; exact hL j hj
  rw [atZ_ne _ _ e])
theorem Fit.fro {w : World} {s n g off s' n' : Nat} {f : Nat -> Nat -> Tr} {K : Nat -> Nat -> Sk} {v : Value} (h : Fit w (.list s n f) (.row g off s' n' K) v) (j : Nat) : w.frozen? ⟨g, j, none⟩ = false := by
 obtain ⟨_, _, _, _, _, _, _, hz, _⟩ := h
 exact hz j
theorem Fit.shape {w : World} {s n : Nat} {f : Nat -> Nat -> Tr} {K : Sk} {v : Value} (h : Fit w (.list s n f) K v) : ∃ a c, v = .slice a n c := by
 cases K with
 | leaf => obtain ⟨rfl, a, c, rfl⟩ := h; exact ⟨a, c, rfl⟩
 | row g off s' n' K => obtain ⟨_, _, c, rfl, _⟩ := h; exact ⟨_, c, rfl⟩
theorem if_lt_succ {α : Type} {i z : Nat} (h : i ≠ z) (x y : α) : (if i < z then x else y) = (if i < z + 1 then x else y) := by
 by_cases e : i < z
 ·rw [if_pos e, if_pos (by omega)]
 rw [if_neg e, if_neg (by omega)]
theorem Fit.doneZ {w : World} {s n z : Nat} {L : List Tr} {T0 T1 : Nat -> Nat -> Tr} {K : Sk} {v : Value} (h : Fit w (.list s n (atZ z L T0)) K v) (hT : ∀ i, i ≠ z -> T0 i = T1 i) (hz : ∀ j, j < s -> trs L j = T1 z j) : Fit w (.list s n T1) K v :=
 h.congr (fun k j hk hj => by
  by_cases e : k = z
  ·subst e; rw [atZ_eq, hz j hj]
  rw [atZ_ne _ _ e, hT k e])
end Go.Proofs.YtlhjiiifmfgnoaaGreat
namespace Go.Proofs.YtlhjiiifmfgnoaaGreat
open Go.RowKit Go.Joins
theorem sumN_le {g : Nat -> Nat} {z n : Nat} (hz : z < n) : sumN z g + g z <= sumN n g := by
 have := sumN_mono g (show z + 1 <= n by omega)
 simpa [sumN] using this
theorem markIntS_f (ws : List Int) (a : Option Addr) (n c s : Nat) (x : Int) (K : Sk) (w : World) (hx : x = ((s : Nat) : Int)) (h : Fit w (intsT ws) K (.slice a n c)) (hok : K.ok) (hB : s + ws.length <= 1125899906842624) :
 Calls Tryz.prog 42 #[.slice a n c, .int .i64 x] w fun e w' => e = .returned (.int .i64 ((s + ws.length : Nat) : Int)) /\ Fit w' (intsT (marksI s ws.length)) K (.slice a n c) /\ Cg w w' K.bl := by
 subst hx
 obtain ⟨hn, hc1, hm⟩ := h.len
 unfold maxLen at hm
 have HN : Hid (n = ws.length) := hn
 rw [<- hn] at hB hm ⊢
 have h1 : Fit w (.list 1 n (fun i _ => if i < 0 then .leaf (.int .i64 ((s : Int) + (i : Int))) else .leaf (.int .i64 (ws.getD i 0)))) K (.slice a n c) := by
  have h9 : Fit w (.list 1 n (fun i _ => .leaf (.int .i64 (ws.getD i 0)))) K (.slice a n c) := by
   unfold intsT at h
   rw [<- hn] at h
   exact h
  exact h9.congr (fun k j hk hj => by simp)
 have HE : Hid (∀ w', Fit w' (.list 1 n (fun i _ => if i < n then .leaf (.int .i64 ((s : Int) + (i : Int))) else .leaf (.int .i64 (ws.getD i 0)))) K (.slice a n c) -> Fit w' (intsT (marksI s n)) K (.slice a n c)) := by
  show ∀ w', _
  intro w' h9
  have h8 : Fit w' (.list 1 n (fun k _ => .leaf (.int .i64 ((marksI s n).getD k 0)))) K (.slice a n c) := h9.congr (fun k j hk hj => by simp only [if_pos hk]; rw [marksI_get s n k hk])
  unfold intsT
  rw [marksI_length]
  exact h8
 clear h hn
 by_cases h0 : n = 0
 ·subst h0
  have h2 := HE.out w h1
  clear h1
  go_enter Tryz.func42, Tryz.ntmps42
  go_wp2
  refine wp_loop_rounds 1 ?_
  rw [rounds_succ]
  go_wp2
  go_ret
  exact ⟨rfl, h2, Cg.refl _ _⟩
 obtain ⟨g, off, K', rfl, rfl, -, -, -, hg, -⟩ := h1.row (by omega)
 have HH : Hid (Fit w (.list 1 n (fun i _ => if i < 0 then .leaf (.int .i64 ((s : Int) + (i : Int))) else .leaf (.int .i64 (ws.getD i 0)))) (.row g off 1 n K') (.slice (some ⟨g, off, none⟩) n c) /\ (Sk.row g off 1 n K').ok) := ⟨h1, hok⟩
 clear h1 hok
 go_enter Tryz.func42, Tryz.ntmps42
 go_wp2
 go_loopw [1, 5] (fun kv i wr => ∃ z : Nat, z <= n /\ i = .int .i64 z /\ kv = .int .i64 ((s : Int) + (z : Int)) /\ Fit wr (.list 1 n (fun i _ => if i < z then .leaf (.int .i64 ((s : Int) + (i : Int))) else .leaf (.int .i64 (ws.getD i 0)))) (.row g off 1 n K') (.slice (some ⟨g, off, none⟩) n c) /\ Cg w wr (Sk.row g off 1 n K').bl) (fun _ i _ => n - (intOf i).toNat)
 case atStart => exact ⟨0, Nat.zero_le _, rfl, by simp, HH.out.1, Cg.refl _ _⟩
 case round =>
  obtain ⟨z, hz, rfl, rfl, hF, hC⟩ := hrel
  by_cases hlt : z < n
  ·have hi : (z : Int) < (n : Int) := by omega
   have F0 := hF.toZ (z := z) (L := [.leaf (.int .i64 (ws.getD z 0))]) (fun j hj => by
    have e0 : j = 0 := by omega
    subst e0
    simp only [if_neg (Nat.lt_irrefl z)]
    rfl)
   obtain ⟨u, e0', t0⟩ := F0.cellZ hlt 0 (by decide)
   have eo : off + z * 1 + 0 = off + z := by omega
   rw [eo] at e0'
   have f0 := F0.fro (off + z)
   have F1 := F0.setZ HH.out.2 hlt 0 (by decide) (by simp) _ (.int .i64 ((s : Int) + (z : Int))) (.int .i64 ((s : Int) + (z : Int))) rfl rfl rfl
   rw [eo] at F1
   have F2 := F1.doneZ (T1 := fun i _ => if i < z + 1 then .leaf (.int .i64 ((s : Int) + (i : Int))) else .leaf (.int .i64 (ws.getD i 0))) (fun i hi => by funext j; exact if_lt_succ hi _ _) (fun j hj => by
    have e0 : j = 0 := by omega
    subst e0
    simp only [if_pos (Nat.lt_succ_self z)]
    rfl)
   have C1 := hC.set (p := ⟨g, off + z, none⟩) (.inl rfl) (.int .i64 ((s : Int) + (z : Int)))
   have H1 : Hid (_ /\ _) := ⟨F2, C1⟩
   clear hF hC F0 F1 F2 C1 t0 eo
   go_wp2
   go_roundw
   case rel => exact ⟨z + 1, by omega, by go_num, by go_num, H1.out.1, H1.out.2⟩
   case measure => simp [intOf]; omega
  have hi : ¬ (z : Int) < (n : Int) := by omega
  have e9 : z = n := by omega
  subst e9
  have H1 : Hid (_ /\ _) := ⟨HE.out _ hF, hC⟩
  clear hF hC
  go_wp2
  go_ret
  exact ⟨rfl, H1.out.1, H1.out.2⟩
theorem markBoolS_f (ws : List Bool) (a : Option Addr) (n c s : Nat) (x : Int) (K : Sk) (w : World) (hx : x = ((s : Nat) : Int)) (h : Fit w (boolsT ws) K (.slice a n c)) (hok : K.ok) (hB : s + ws.length <= 1125899906842624) :
 Calls Tryz.prog 43 #[.slice a n c, .int .i64 x] w fun e w' => e = .returned (.int .i64 ((s + ws.length : Nat) : Int)) /\ Fit w' (boolsT (marksB s ws.length)) K (.slice a n c) /\ Cg w w' K.bl := by
 subst hx
 obtain ⟨hn, hc1, hm⟩ := h.len
 unfold maxLen at hm
 have HN : Hid (n = ws.length) := hn
 rw [<- hn] at hB hm ⊢
 have h1 : Fit w (.list 1 n (fun i _ => if i < 0 then .leaf (.bool (((s : Int) + (i : Int)) % 3 == 0)) else .leaf (.bool (ws.getD i false)))) K (.slice a n c) := by
  have h9 : Fit w (.list 1 n (fun i _ => .leaf (.bool (ws.getD i false)))) K (.slice a n c) := by
   unfold boolsT at h
   rw [<- hn] at h
   exact h
  exact h9.congr (fun k j hk hj => by simp)
 have HE : Hid (∀ w', Fit w' (.list 1 n (fun i _ => if i < n then .leaf (.bool (((s : Int) + (i : Int)) % 3 == 0)) else .leaf (.bool (ws.getD i false)))) K (.slice a n c) -> Fit w' (boolsT (marksB s n)) K (.slice a n c)) := by
  show ∀ w', _
  intro w' h9
  have h8 : Fit w' (.list 1 n (fun k _ => .leaf (.bool ((marksB s n).getD k false)))) K (.slice a n c) := h9.congr (fun k j hk hj => by simp only [if_pos hk]; rw [marksB_get s n k hk])
  unfold boolsT
  rw [marksB_length]
  exact h8
 clear h hn
 by_cases h0 : n = 0
 ·subst h0
  have h2 := HE.out w h1
  clear h1
  go_enter Tryz.func43, Tryz.ntmps43
  go_wp2
  refine wp_loop_rounds 1 ?_
  rw [rounds_succ]
  go_wp2
  go_ret
  exact ⟨rfl, h2, Cg.refl _ _⟩
 obtain ⟨g, off, K', rfl, rfl, -, -, -, hg, -⟩ := h1.row (by omega)
 have HH : Hid (Fit w (.list 1 n (fun i _ => if i < 0 then .leaf (.bool (((s : Int) + (i : Int)) % 3 == 0)) else .leaf (.bool (ws.getD i false)))) (.row g off 1 n K') (.slice (some ⟨g, off, none⟩) n c) /\ (Sk.row g off 1 n K').ok) := ⟨h1, hok⟩
 clear h1 hok
 go_enter Tryz.func43, Tryz.ntmps43
 go_wp2
 go_loopw [1, 5] (fun kv i wr => ∃ z : Nat, z <= n /\ i = .int .i64 z /\ kv = .int .i64 ((s : Int) + (z : Int)) /\ Fit wr (.list 1 n (fun i _ => if i < z then .leaf (.bool (((s : Int) + (i : Int)) % 3 == 0)) else .leaf (.bool (ws.getD i false)))) (.row g off 1 n K') (.slice (some ⟨g, off, none⟩) n c) /\ Cg w wr (Sk.row g off 1 n K').bl) (fun _ i _ => n - (intOf i).toNat)
 case atStart => exact ⟨0, Nat.zero_le _, rfl, by simp, HH.out.1, Cg.refl _ _⟩
 case round =>
  obtain ⟨z, hz, rfl, rfl, hF, hC⟩ := hrel
  by_cases hlt : z < n
  ·have hi : (z : Int) < (n : Int) := by omega
   have F0 := hF.toZ (z := z) (L := [.leaf (.bool (ws.getD z false))]) (fun j hj => by
    have e0 : j = 0 := by omega
    subst e0
    simp only [if_neg (Nat.lt_irrefl z)]
    rfl)
   obtain ⟨u, e0', t0⟩ := F0.cellZ hlt 0 (by decide)
   have eo : off + z * 1 + 0 = off + z := by omega
   rw [eo] at e0'
   have f0 := F0.fro (off + z)
   have F1 := F0.setZ HH.out.2 hlt 0 (by decide) (by simp) _ (.bool (((s : Int) + (z : Int)) % 3 == 0)) (.bool (((s : Int) + (z : Int)) % 3 == 0)) rfl rfl rfl
   rw [eo] at F1
   have F2 := F1.doneZ (T1 := fun i _ => if i < z + 1 then .leaf (.bool (((s : Int) + (i : Int)) % 3 == 0)) else .leaf (.bool (ws.getD i false))) (fun i hi => by funext j; exact if_lt_succ hi _ _) (fun j hj => by
    have e0 : j = 0 := by omega
    subst e0
    simp only [if_pos (Nat.lt_succ_self z)]
    rfl)
   have C1 := hC.set (p := ⟨g, off + z, none⟩) (.inl rfl) (.bool (((s : Int) + (z : Int)) % 3 == 0))
   have H1 : Hid (_ /\ _) := ⟨F2, C1⟩
   clear hF hC F0 F1 F2 C1 t0 eo
   go_wp2
   go_roundw
   case rel => exact ⟨z + 1, by omega, by go_num, by go_num, H1.out.1, H1.out.2⟩
   case measure => simp [intOf]; omega
  have hi : ¬ (z : Int) < (n : Int) := by omega
  have e9 : z = n := by omega
  subst e9
  have H1 : Hid (_ /\ _) := ⟨HE.out _ hF, hC⟩
  clear hF hC
  go_wp2
  go_ret
  exact ⟨rfl, H1.out.1, H1.out.2⟩
theorem heldIntS_f (m : Nat) (a : Option Addr) (n c s : Nat) (x : Int) (w : World) (hx : x = ((s : Nat) : Int)) (h : Rd w 0 (intsT (marksI s m)) (.slice a n c)) (hB : s + m <= 1125899906842624) :
 Calls Tryz.prog 66 #[.slice a n c, .int .i64 x] w fun e w' => e = .returned (.int .i64 ((s + m : Nat) : Int)) /\ w' = w := by
 subst hx
 obtain ⟨a', c', h1, -, hm, hs⟩ := h.ints
 simp only [Value.slice.injEq] at h1
 obtain ⟨rfl, h2, rfl⟩ := h1
 rw [marksI_length] at h2 hm
 subst h2
 unfold maxLen at hm
 have HS : Hid (SlI w a (marksI s n)) := hs
 clear hs h
 go_enter Tryz.func66, Tryz.ntmps66
 go_wp2
 go_loopw [1, 5] (fun kv i wr => ∃ z : Nat, z <= n /\ i = .int .i64 z /\ kv = .int .i64 ((s : Int) + (z : Int)) /\ wr = w) (fun _ i _ => n - (intOf i).toNat)
 case atStart => exact ⟨0, Nat.zero_le _, rfl, by simp, rfl⟩
 case round =>
  obtain ⟨z, hz, rfl, rfl, hw⟩ := hrel
  subst hw
  by_cases hlt : z < n
  ·have hi : (z : Int) < (n : Int) := by omega
   rcases HS.out with h0 | ⟨b, off, rfl, hb, hc⟩
   ·have := congrArg List.length h0
    rw [marksI_length] at this
    simp at this
    omega
   have e0 : wr.cell? ⟨b, off + z, none⟩ = some (.int .i64 ((s : Int) + (z : Int))) := by
    have h9 := hc z (by rw [marksI_length]; exact hlt)
    rw [marksI_get s n z hlt] at h9
    exact h9
   clear hc
   go_wp2
   go_roundw
   case rel => exact ⟨z + 1, by omega, by go_num, by go_num, trivial⟩
   case measure => simp [intOf]; omega
  have hi : ¬ (z : Int) < (n : Int) := by omega
  have e9 : z = n := by omega
  subst e9
  go_wp2
  go_ret
  exact ⟨rfl, rfl⟩
theorem heldBoolS_f (m : Nat) (a : Option Addr) (n c s : Nat) (x : Int) (w : World) (hx : x = ((s : Nat) : Int)) (h : Rd w 0 (boolsT (marksB s m)) (.slice a n c)) (hB : s + m <= 1125899906842624) :
 Calls Tryz.prog 67 #[.slice a n c, .int .i64 x] w fun e w' => e = .returned (.int .i64 ((s + m : Nat) : Int)) /\ w' = w := by
 subst hx
 obtain ⟨a', c', h1, -, hm, hs⟩ := h.bools
 simp only [Value.slice.injEq] at h1
 obtain ⟨rfl, h2, rfl⟩ := h1
 rw [marksB_length] at h2 hm
 subst h2
 unfold maxLen at hm
 have HS : Hid (SlB w a (marksB s n)) := hs
 clear hs h
 go_enter Tryz.func67, Tryz.ntmps67
 go_wp2
 go_loopw [1, 5] (fun kv i wr => ∃ z : Nat, z <= n /\ i = .int .i64 z /\ kv = .int .i64 ((s : Int) + (z : Int)) /\ wr = w) (fun _ i _ => n - (intOf i).toNat)
 case atStart => exact ⟨0, Nat.zero_le _, rfl, by simp, rfl⟩
 case round =>
  obtain ⟨z, hz, rfl, rfl, hw⟩ := hrel
  subst hw
  by_cases hlt : z < n
  ·have hi : (z : Int) < (n : Int) := by omega
   rcases HS.out with h0 | ⟨b, off, rfl, hb, hc⟩
   ·have := congrArg List.length h0
    rw [marksB_length] at this
    simp at this
    omega
   have e0 : wr.cell? ⟨b, off + z, none⟩ = some (.bool (((s : Int) + (z : Int)) % 3 == 0)) := by
    have h9 := hc z (by rw [marksB_length]; exact hlt)
    rw [marksB_get s n z hlt] at h9
    exact h9
   clear hc
   go_wp2
   go_roundw
   case rel => exact ⟨z + 1, by omega, by go_num, by go_num, trivial⟩
   case measure => simp [intOf]; omega
  have hi : ¬ (z : Int) < (n : Int) := by omega
  have e9 : z = n := by omega
  subst e9
  go_wp2
  go_ret
  exact ⟨rfl, rfl⟩
def ctVQ (X : VQ) : Nat := 1 + 1 + 1 + X.ws.length + X.bs.length + 1
def nmVQ (k : Nat) (X : VQ) : VQ := ⟨((k : Nat) : Int), ((k + 1 : Nat) : Int), ((k + 1 + 1 : Nat) : Int), marksI (k + 1 + 1 + 1) X.ws.length, marksB (k + 1 + 1 + 1 + X.ws.length) X.bs.length, ((k + 1 + 1 + 1 + X.ws.length + X.bs.length : Nat) : Int)⟩
def ctVA (X : VA) : Nat := 1 + 1 + 1 + 1 + X.ws.length + X.bs.length
def nmVA (k : Nat) (X : VA) : VA := ⟨((k : Nat) : Int), ((k + 1 : Nat) : Int), ((k + 1 + 1 : Nat) : Int), ((k + 1 + 1 + 1 : Nat) : Int), marksI (k + 1 + 1 + 1 + 1) X.ws.length, marksB (k + 1 + 1 + 1 + 1 + X.ws.length) X.bs.length⟩
def ctVP (X : VP) : Nat := 1 + 1 + ctVQ X.q
def nmVP (k : Nat) (X : VP) : VP := ⟨((k : Nat) : Int), ((k + 1 : Nat) : Int), nmVQ (k + 1 + 1) X.q⟩
def ctVD (X : VD) : Nat := 1 + 1 + 1 + 1 + ctVQ X.q + sumN X.np (fun i => ctVP (X.pt i)) + X.hs.length + sumN X.nt (fun i => ctVA (X.tl i))
def nmVD (k : Nat) (X : VD) : VD := ⟨((k : Nat) : Int), ((k + 1 : Nat) : Int), ((k + 1 + 1 : Nat) : Int), ((k + 1 + 1 + 1 : Nat) : Int), nmVQ (k + 1 + 1 + 1 + 1) X.q, X.np, fun i => nmVP (k + 1 + 1 + 1 + 1 + ctVQ X.q + sumN i (fun i => ctVP (X.pt i))) (X.pt i), marksB (k + 1 + 1 + 1 + 1 + ctVQ X.q + sumN X.np (fun i => ctVP (X.pt i))) X.hs.length, X.nt, fun i => nmVA (k + 1 + 1 + 1 + 1 + ctVQ X.q + sumN X.np (fun i => ctVP (X.pt i)) + X.hs.length + sumN i (fun i => ctVA (X.tl i))) (X.tl i)⟩
def ctVT (X : VT) : Nat := 1 + sumN X.m (fun i => ctVD (X.f i))
def nmVT (k : Nat) (X : VT) : VT := ⟨((k : Nat) : Int), X.m, fun i => nmVD (k + 1 + sumN i (fun i => ctVD (X.f i))) (X.f i)⟩
end Go.Proofs.YtlhjiiifmfgnoaaGreat
namespace Go.Proofs.YtlhjiiifmfgnoaaGreat
open Go.RowKit Go.Joins
def OwnS (w : World) (lo : Nat) (t : Tr) (v : Value) : Prop := ∃ K, Fit w t K v /\ K.ok /\ ∀ b, K.bl b -> lo <= b
def Own1 (w : World) (lo hi : Nat) (ts : List Tr) (vs : List Value) : Prop :=
 ∃ K : Nat -> Sk, vs.length = ts.length /\ (∀ i v, vs[i]? = some v -> Fit w (trs ts i) (K i) v) /\ (∀ i, i < ts.length -> (K i).ok /\ ∀ b, (K i).bl b -> lo <= b /\ b < hi) /\ ∀ i i', i < ts.length -> i' < ts.length -> i ≠ i' -> ∀ b, (K i).bl b -> ¬ (K i').bl b
theorem Own1.same {w w' : World} {lo hi : Nat} {ts : List Tr} {vs : List Value} (h : Own1 w lo hi ts vs) (hs : w.heap.size <= w'.heap.size) (hb : ∀ b, lo <= b -> b < hi -> w'.heap[b]? = w.heap[b]?) : Own1 w' lo hi ts vs := by
 obtain ⟨K, h1, h2, h3, h4⟩ := h
 refine ⟨K, h1, fun i v hv => (h2 i v hv).same hs (fun b hb' => ?_), h3, h4⟩
 have hi' : i < ts.length := by rw [<- h1]; exact (List.getElem?_eq_some_iff.1 hv).1
 have := (h3 i hi').2 b hb'
 exact hb b this.1 this.2
theorem Own1.mono {w : World} {lo hi lo' hi' : Nat} {ts : List Tr} {vs : List Value} (h : Own1 w lo hi ts vs) (h1 : lo' <= lo) (h2 : hi <= hi') : Own1 w lo' hi' ts vs := by
 obtain ⟨K, g1, g2, g3, g4⟩ := h
 exact ⟨K, g1, g2, fun i hi => ⟨(g3 i hi).1, fun b hb => by have := (g3 i hi).2 b hb; omega⟩, g4⟩
theorem OwnS.below {w w' : World} {lo : Nat} {t : Tr} {v : Value} (h : OwnS w lo t v) (hb : Below w.heap.size w w') : OwnS w' lo t v := by
 obtain ⟨K, h1, h2, h3⟩ := h
 exact ⟨K, h1.below hb, h2, h3⟩
theorem OwnS.rd {w : World} {lo : Nat} {t : Tr} {v : Value} (h : OwnS w lo t v) : Rd w lo t v := by
 obtain ⟨K, h1, h2, h3⟩ := h
 exact h1.rd h3
theorem frozen0 {w : World} {g : Nat} {cs : Array Value} {e : TypeId} (h : w.heap[g]? = some (.cells cs e (0, 0))) (j : Nat) : w.frozen? ⟨g, j, none⟩ = false := by
 unfold World.frozen?
 show (match w.heap[g]? with | some (.cells _ _ (lo, hi)) => lo <= j && j < hi | _ => false) = false
 rw [h]
 simp
theorem OwnI.fit {w : World} {lo n c : Nat} {a : Option Addr} {ws : List Int} (h : OwnI w lo (.slice a n c) ws) : ∃ K, Fit w (intsT ws) K (.slice a n c) /\ K.ok /\ ∀ b, K.bl b -> lo <= b /\ (Value.slice a n c).ownBlock = some b := by
 have hsl := h.sl
 obtain ⟨h0, h⟩ := h
 rcases h with ⟨hv, hn⟩ | ⟨g, cap, cur, hv, hg, hh, h1, h2, h3, h4⟩
 ·simp only [Value.slice.injEq] at hv
  obtain ⟨rfl, rfl, rfl⟩ := hv
  exact ⟨.leaf, ⟨hsl.1.symm, none, 0, rfl⟩, trivial, fun b hb => hb.elim⟩
 simp only [Value.slice.injEq] at hv
 obtain ⟨rfl, rfl, rfl⟩ := hv
 refine ⟨.row g 0 1 ws.length (fun _ _ => .leaf), ?_, ⟨fun _ _ _ _ => ⟨trivial, fun x => x⟩, fun _ _ _ _ _ _ _ _ _ _ x => x.elim⟩, fun b hb => ?_⟩
 ·unfold intsT
  have hlt : g < w.heap.size := (Array.getElem?_eq_some_iff.1 hh).1
  refine ⟨rfl, rfl, c, rfl, h1, by omega, hlt, frozen0 hh, fun k j hk hj => ?_⟩
  rcases hsl.2 with e | ⟨b, off, e, _, hc⟩
  ·rw [e] at hk; simp at hk
  simp only [Option.some.injEq, Addr.mk.injEq, and_true] at e
  obtain ⟨rfl, rfl⟩ := e
  refine ⟨_, ?_, rfl, rfl⟩
  have := hc k hk
  rw [show 0 + k * 1 + j = 0 + k by omega]
  exact this
 rcases hb with rfl | ⟨_, _, _, _, hb⟩
 ·exact ⟨hg, rfl⟩
 exact hb.elim
theorem OwnB.fit {w : World} {lo n c : Nat} {a : Option Addr} {ws : List Bool} (h : OwnB w lo (.slice a n c) ws) : ∃ K, Fit w (boolsT ws) K (.slice a n c) /\ K.ok /\ ∀ b, K.bl b -> lo <= b /\ (Value.slice a n c).ownBlock = some b := by
 have hsl := h.sl
 obtain ⟨h0, h⟩ := h
 rcases h with ⟨hv, hn⟩ | ⟨g, cap, cur, hv, hg, hh, h1, h2, h3, h4⟩
 ·simp only [Value.slice.injEq] at hv
  obtain ⟨rfl, rfl, rfl⟩ := hv
  exact ⟨.leaf, ⟨hsl.1.symm, none, 0, rfl⟩, trivial, fun b hb => hb.elim⟩
 simp only [Value.slice.injEq] at hv
 obtain ⟨rfl, rfl, rfl⟩ := hv
 refine ⟨.row g 0 1 ws.length (fun _ _ => .leaf), ?_, ⟨fun _ _ _ _ => ⟨trivial, fun x => x⟩, fun _ _ _ _ _ _ _ _ _ _ x => x.elim⟩, fun b hb => ?_⟩
 ·unfold boolsT
  have hlt : g < w.heap.size := (Array.getElem?_eq_some_iff.1 hh).1
  refine ⟨rfl, rfl, c, rfl, h1, by omega, hlt, frozen0 hh, fun k j hk hj => ?_⟩
  rcases hsl.2 with e | ⟨b, off, e, _, hc⟩
  ·rw [e] at hk; simp at hk
  simp only [Option.some.injEq, Addr.mk.injEq, and_true] at e
  obtain ⟨rfl, rfl⟩ := e
  refine ⟨_, ?_, rfl, rfl⟩
  have := hc k hk
  rw [show 0 + k * 1 + j = 0 + k by omega]
  exact this
 rcases hb with rfl | ⟨_, _, _, _, hb⟩
 ·exact ⟨hg, rfl⟩
 exact hb.elim
def LsI (w : World) (g : Nat) (t : TypeId) (s n : Nat) (f : Nat -> List Tr) (k : Nat) : Prop :=
 ∃ (F : Nat -> List Value) (β : Nat -> Nat), RowS w g t s n F /\ g < β 0 /\ (∀ j, β j <= β (j + 1)) /\ β k <= w.heap.size /\ ∀ j, j < k -> (F j).length = s /\ Own1 w (β j) (β (j + 1)) (f j) (F j)
theorem LsI.start {w : World} {g : Nat} {t : TypeId} {s n : Nat} {f : Nat -> List Tr} {F : Nat -> List Value} (h : RowS w g t s n F) : LsI w g t s n f 0 :=
 ⟨F, fun _ => w.heap.size, h, h.lt, fun _ => Nat.le_refl _, Nat.le_refl _, fun j hj => absurd hj (Nat.not_lt_zero _)⟩
theorem LsI.row {w : World} {g : Nat} {t : TypeId} {s n k : Nat} {f : Nat -> List Tr} (h : LsI w g t s n f k) : ∃ F, RowS w g t s n F := by
 obtain ⟨F, _, h, _⟩ := h
 exact ⟨F, h⟩
theorem bt_le {β : Nat -> Nat} (h : ∀ j, β j <= β (j + 1)) : ∀ {i j : Nat}, i <= j -> β i <= β j := by
 intro i j hij
 induction hij with
 | refl => exact Nat.le_refl _
 | step _ ih => exact Nat.le_trans ih (h _)
theorem LsI.cg {w w' : World} {S : Nat -> Prop} {g : Nat} {t : TypeId} {s n k : Nat} {f : Nat -> List Tr} (h : LsI w g t s n f k) (hc : Cg w w' S) (hS : ∀ b, S b -> b < g) : LsI w' g t s n f k := by
 obtain ⟨F, β, h1, h2, h3, h4, h5⟩ := h
 have hlt := h1.lt
 have hsame : ∀ b, g <= b -> b < w.heap.size -> w'.heap[b]? = w.heap[b]? := fun b hb hb' => hc.block b hb' (fun q => by have := hS b q; omega)
 refine ⟨F, β, ?_, h2, h3, Nat.le_trans h4 hc.size, fun j hj => ⟨(h5 j hj).1, (h5 j hj).2.same hc.size (fun b q1 q2 => ?_)⟩⟩
 ·obtain ⟨cs, e1, e2, e3⟩ := h1
  exact ⟨cs, (hsame g (Nat.le_refl _) hlt).trans e1, e2, e3⟩
 have b0 := bt_le h3 (Nat.zero_le j)
 have b1 := bt_le h3 (show j + 1 <= k by omega)
 exact hsame b (by omega) (by omega)
theorem LsI.step {w w1 : World} {S : Nat -> Prop} {g : Nat} {t : TypeId} {s n k : Nat} {f : Nat -> List Tr} {vs : List Value} (h : LsI w g t s n f k) (hk : k < n) (hc : Cg w w1 S) (hS : ∀ b, S b -> b < g) (ho : Own1 w1 w.heap.size w1.heap.size (f k) vs) (hv : vs.length = s) : LsI (setL w1 g (k * s) vs) g t s n f (k + 1) := by
 have hz := h
 obtain ⟨F0, β0, _, _, _, hz4, _⟩ := hz
 obtain ⟨F, β, h1, h2, h3, h4, h5⟩ := h.cg hc hS
 have hg : w1.grownBy (setL w1 g (k * s) vs) (some g) := setL_gw _ _ _
 have hgs := hg.size
 have hw := hc.size
 obtain ⟨F', β', g1, g2, g3, g4, g5⟩ := h
 have hlt := g1.lt
 have hsame : ∀ b, g <= b -> b < w.heap.size -> w1.heap[b]? = w.heap[b]? := fun b hb hb' => hc.block b hb' (fun q => by have := hS b q; omega)
 have r1 : RowS w1 g t s n F' := by
  obtain ⟨cs, e1, e2, e3⟩ := g1
  exact ⟨cs, (hsame g (Nat.le_refl _) hlt).trans e1, e2, e3⟩
 refine ⟨fun i => if i = k then vs else F' i, fun j => if j <= k then β' j else w1.heap.size, r1.set hk vs hv, by simpa using g2, fun j => ?_, ?_, fun j hj => ?_⟩
 ·show (if j <= k then β' j else w1.heap.size) <= (if j + 1 <= k then β' (j + 1) else w1.heap.size)
  by_cases e : j + 1 <= k
  ·rw [if_pos (by omega), if_pos e]; exact g3 j
  rw [if_neg e]
  by_cases e' : j <= k
  ·rw [if_pos e']
   have := bt_le g3 e'
   omega
  rw [if_neg e']; exact Nat.le_refl _
 ·show (if k + 1 <= k then β' (k + 1) else w1.heap.size) <= _
  rw [if_neg (by omega)]; exact hgs
 have hkeep : ∀ {lo hi : Nat} {ts : List Tr} {us : List Value}, Own1 w1 lo hi ts us -> g < lo -> hi <= w1.heap.size -> Own1 (setL w1 g (k * s) vs) lo hi ts us := fun h9 q1 q2 => h9.same hgs (fun b b1 b2 => hg.block b (by omega) (fun e => by have := Option.some.inj e; omega))
 by_cases e : j = k
 ·subst e
  simp only [if_true]
  refine ⟨hv, ?_⟩
  show Own1 _ (if j <= j then β' j else w1.heap.size) (if j + 1 <= j then β' (j + 1) else w1.heap.size) _ _
  rw [if_pos (Nat.le_refl _), if_neg (by omega)]
  exact (hkeep ho (by omega) (Nat.le_refl _)).mono g4 (Nat.le_refl _)
 simp only [if_neg e]
 show _ /\ Own1 _ (if j <= k then β' j else w1.heap.size) (if j + 1 <= k then β' (j + 1) else w1.heap.size) _ _
 rw [if_pos (show j <= k by omega), if_pos (show j + 1 <= k by omega)]
 have h9 := g5 j (by omega)
 have b0 := bt_le g3 (Nat.zero_le j)
 have b1 := bt_le g3 (show j + 1 <= k by omega)
 exact ⟨h9.1, hkeep (h9.2.same hw (fun b q1 q2 => hsame b (by omega) (by omega))) (by omega) (by omega)⟩
theorem LsI.done {w : World} {lo g : Nat} {t : TypeId} {s n : Nat} {f : Nat -> List Tr} (h : LsI w g t s n f n) (hlo : lo <= g) (hn : n <= maxLen) (hf : ∀ k, k < n -> (f k).length = s) : OwnS w lo (.list s n (fun i => trs (f i))) (.slice (some ⟨g, 0, none⟩) n n) := by
 obtain ⟨F, β, h1, h2, h3, h4, h5⟩ := h
 have hex : ∀ k, ∃ K : Nat -> Sk, k < n -> ((∀ i v, (F k)[i]? = some v -> Fit w (trs (f k) i) (K i) v) /\ (∀ i, i < s -> (K i).ok /\ ∀ b, (K i).bl b -> β k <= b /\ b < β (k + 1)) /\ ∀ i i', i < s -> i' < s -> i ≠ i' -> ∀ b, (K i).bl b -> ¬ (K i').bl b) := by
  intro k
  by_cases hk : k < n
  ·obtain ⟨hl, K, q1, q2, q3, q4⟩ := h5 k hk
   exact ⟨K, fun _ => ⟨q2, fun i hi => q3 i (by rw [hf k hk]; exact hi), fun i i' hi hi' => q4 i i' (by rw [hf k hk]; exact hi) (by rw [hf k hk]; exact hi')⟩⟩
  exact ⟨fun _ => .leaf, fun h => absurd h hk⟩
 obtain ⟨K, hK⟩ := Classical.axiomOfChoice hex
 refine ⟨.row g 0 s n K, ⟨rfl, rfl, n, rfl, Nat.le_refl _, hn, h1.lt, h1.fro, fun k j hk hj => ?_⟩, ⟨fun k j hk hj => ?_, fun k j k' j' hk hj hk' hj' hne b hb hb' => ?_⟩, fun b hb => ?_⟩
 ·have hl := (h5 k hk).1
  obtain ⟨v, hv⟩ : ∃ v, (F k)[j]? = some v := ⟨(F k)[j]'(by omega), by simp⟩
  refine ⟨v, ?_, (hK k hk).1 j v hv⟩
  rw [Nat.zero_add, h1.cell hk hj, hv]
 ·have q := (hK k hk).2.1 j hj
  refine ⟨q.1, fun hb => ?_⟩
  have b0 := bt_le h3 (Nat.zero_le k)
  have := q.2 g hb
  omega
 ·have q := (hK k hk).2.1 j hj
  have q' := (hK k' hk').2.1 j' hj'
  by_cases e : k = k'
  ·subst e
   exact (hK k hk).2.2 j j' hj hj' (by omega) b hb hb'
  have r := q.2 b hb
  have r' := q'.2 b hb'
  rcases Nat.lt_or_ge k k' with x | x
  ·have := bt_le h3 (show k + 1 <= k' by omega); omega
  have := bt_le h3 (show k' + 1 <= k by omega); omega
 rcases hb with rfl | ⟨k, j, hk, hj, hb⟩
 ·exact hlo
 have q := ((hK k hk).2.1 j hj).2 b hb
 have b0 := bt_le h3 (Nat.zero_le k)
 omega
end Go.Proofs.YtlhjiiifmfgnoaaGreat
namespace Go.Proofs.YtlhjiiifmfgnoaaGreat
open Go.RowKit Go.Joins
theorem Own1.two {w : World} {lo hi : Nat} {ts : List Tr} {vs : List Value} (p q : Nat) (K1 K2 : Sk) (hpq : p ≠ q) (hl : vs.length = ts.length) (hleaf : ∀ i v, i ≠ p -> i ≠ q -> vs[i]? = some v -> trs ts i = .leaf v) (h1 : ∀ v, vs[p]? = some v -> Fit w (trs ts p) K1 v) (h2 : ∀ v, vs[q]? = some v -> Fit w (trs ts q) K2 v) (o1 : K1.ok /\ ∀ b, K1.bl b -> lo <= b /\ b < hi) (o2 : K2.ok /\ ∀ b, K2.bl b -> lo <= b /\ b < hi) (hd : ∀ b, K1.bl b -> ¬ K2.bl b) : Own1 w lo hi ts vs := by
 refine ⟨fun i => if i = p then K1 else if i = q then K2 else .leaf, hl, fun i v hv => ?_, fun i hi => ?_, fun i i' hi hi' hne b hb => ?_⟩
 ·by_cases e : i = p
  ·subst e; simp only [if_true]; exact h1 v hv
  by_cases e' : i = q
  ·subst e'; simp only [if_neg e, if_true]; exact h2 v hv
  simp only [if_neg e, if_neg e']
  rw [hleaf i v e e' hv]
  exact ⟨rfl, rfl⟩
 ·by_cases e : i = p
  ·subst e; simp only [if_true]; exact o1
  by_cases e' : i = q
  ·subst e'; simp only [if_neg e, if_true]; exact o2
  simp only [if_neg e, if_neg e']
  exact ⟨trivial, fun b hb => hb.elim⟩
 by_cases e : i = p
 ·subst e
  simp only [if_true] at hb
  by_cases e2 : i' = q
  ·subst e2
   simp only [if_neg (fun x : i' = i => hne x.symm), if_true]
   exact hd b hb
  simp only [if_neg (fun x : i' = i => hne x.symm), if_neg e2]
  exact fun x => x
 by_cases e' : i = q
 ·subst e'
  simp only [if_neg e, if_true] at hb
  by_cases e2 : i' = p
  ·subst e2
   simp only [if_true]
   exact fun x => hd b x hb
  simp only [if_neg e2, if_neg (fun x : i' = i => hne x.symm)]
  exact fun x => x
 simp only [if_neg e, if_neg e'] at hb
 exact hb.elim
theorem dis_IB {w : World} {lo lo' : Nat} {v1 v2 : Value} {ws : List Int} {bs : List Bool} (h1 : OwnI w lo v1 ws) (h2 : OwnB w lo' v2 bs) {b : Nat} (e1 : v1.ownBlock = some b) (e2 : v2.ownBlock = some b) : False := by
 obtain ⟨_, h1⟩ := h1
 obtain ⟨_, h2⟩ := h2
 rcases h1 with ⟨rfl, _⟩ | ⟨g, _, _, rfl, _, hg, _⟩
 ·simp [Value.ownBlock] at e1
 rcases h2 with ⟨rfl, _⟩ | ⟨g', _, _, rfl, _, hg', _⟩
 ·simp [Value.ownBlock] at e2
 simp only [Value.ownBlock, Option.some.injEq] at e1 e2
 subst e1 e2
 rw [hg] at hg'
 simp at hg'
theorem VQ.own {w : World} {lo : Nat} {X : VQ} {a1 : Option Addr} {l1 c1 : Nat} {a2 : Option Addr} {l2 c2 : Nat} (h1 : OwnI w lo (.slice a1 l1 c1) X.ws) (h2 : OwnB w lo (.slice a2 l2 c2) X.bs) : Own1 w lo w.heap.size (qT X) (qL X a1 l1 c1 a2 l2 c2) := by
 obtain ⟨K1, f1, o1, b1⟩ := h1.fit
 obtain ⟨K2, f2, o2, b2⟩ := h2.fit
 refine Own1.two 3 4 K1 K2 (by decide) rfl (fun i v hp hq hv => ?_) (fun v hv => ?_) (fun v hv => ?_) ⟨o1, fun b hb => ⟨(b1 b hb).1, f1.lt hb⟩⟩ ⟨o2, fun b hb => ⟨(b2 b hb).1, f2.lt hb⟩⟩ (fun b hb hb' => dis_IB h1 h2 (b1 b hb).2 (b2 b hb').2)
 ·match i, hv with
  | 0, hv => obtain rfl := Option.some.inj (show some _ = some v from hv); rfl
  | 1, hv => obtain rfl := Option.some.inj (show some _ = some v from hv); rfl
  | 2, hv => obtain rfl := Option.some.inj (show some _ = some v from hv); rfl
  | 3, hv => exact absurd rfl hp
  | 4, hv => exact absurd rfl hq
  | 5, hv => obtain rfl := Option.some.inj (show some _ = some v from hv); rfl
  | i + 6, hv => simp at hv
 ·obtain rfl := Option.some.inj (show some _ = some v from hv)
  exact f1
 obtain rfl := Option.some.inj (show some _ = some v from hv)
 exact f2
theorem toReq_m (X : VQ) (a1 : Option Addr) (l1 c1 : Nat) (a2 : Option Addr) (l2 c2 : Nat) (w : World) (r1 : Rd w 0 (intsT X.ws) (.slice a1 l1 c1)) (r2 : Rd w 0 (boolsT X.bs) (.slice a2 l2 c2)) (hz : szT 6 (trs (qT X)) <= 1048576) :
 Calls Tryz.prog 9 #[.agg (qL X a1 l1 c1 a2 l2 c2).toArray] w fun e w' => ∃ b1 d1 b2 d2, e = .returned (.agg (qL X b1 l1 d1 b2 l2 d2).toArray) /\ Own1 w' w.heap.size w'.heap.size (qT X) (qL X b1 l1 d1 b2 l2 d2) /\ Below w.heap.size w w' := by
 rw [szT_q] at hz
 obtain ⟨a9, c9, h9, -, hm1, hs1⟩ := r1.ints
 simp only [Value.slice.injEq] at h9
 obtain ⟨rfl, rfl, rfl⟩ := h9
 obtain ⟨a9, c9, h9, -, hm2, hs2⟩ := r2.bools
 simp only [Value.slice.injEq] at h9
 obtain ⟨rfl, rfl, rfl⟩ := h9
 refine (toReq_any X.kd X.pl X.n X.wa _ _ _ _ _ _ X.ws X.bs w rfl rfl hs1 hs2 (by omega) (by omega)).mono ?_
 rintro e w' ⟨g1, g2, rfl, h1, h2, h3⟩
 exact ⟨_, _, _, _, rfl, VQ.own h1 h2, h3⟩
theorem VA.own {w : World} {lo : Nat} {X : VA} {a1 : Option Addr} {l1 c1 : Nat} {a2 : Option Addr} {l2 c2 : Nat} (h1 : OwnI w lo (.slice a1 l1 c1) X.ws) (h2 : OwnB w lo (.slice a2 l2 c2) X.bs) : Own1 w lo w.heap.size (aT X) (aL X a1 l1 c1 a2 l2 c2) := by
 obtain ⟨K1, f1, o1, b1⟩ := h1.fit
 obtain ⟨K2, f2, o2, b2⟩ := h2.fit
 refine Own1.two 4 5 K1 K2 (by decide) rfl (fun i v hp hq hv => ?_) (fun v hv => ?_) (fun v hv => ?_) ⟨o1, fun b hb => ⟨(b1 b hb).1, f1.lt hb⟩⟩ ⟨o2, fun b hb => ⟨(b2 b hb).1, f2.lt hb⟩⟩ (fun b hb hb' => dis_IB h1 h2 (b1 b hb).2 (b2 b hb').2)
 ·match i, hv with
  | 0, hv => obtain rfl := Option.some.inj (show some _ = some v from hv); rfl
  | 1, hv => obtain rfl := Option.some.inj (show some _ = some v from hv); rfl
  | 2, hv => obtain rfl := Option.some.inj (show some _ = some v from hv); rfl
  | 3, hv => obtain rfl := Option.some.inj (show some _ = some v from hv); rfl
  | 4, hv => exact absurd rfl hp
  | 5, hv => exact absurd rfl hq
  | i + 6, hv => simp at hv
 ·obtain rfl := Option.some.inj (show some _ = some v from hv)
  exact f1
 obtain rfl := Option.some.inj (show some _ = some v from hv)
 exact f2
theorem toResp_m (X : VA) (a1 : Option Addr) (l1 c1 : Nat) (a2 : Option Addr) (l2 c2 : Nat) (w : World) (r1 : Rd w 0 (intsT X.ws) (.slice a1 l1 c1)) (r2 : Rd w 0 (boolsT X.bs) (.slice a2 l2 c2)) (hz : szT 6 (trs (aT X)) <= 1048576) :
 Calls Tryz.prog 91 #[.agg (aL X a1 l1 c1 a2 l2 c2).toArray] w fun e w' => ∃ b1 d1 b2 d2, e = .returned (.agg (aL X b1 l1 d1 b2 l2 d2).toArray) /\ Own1 w' w.heap.size w'.heap.size (aT X) (aL X b1 l1 d1 b2 l2 d2) /\ Below w.heap.size w w' := by
 rw [szT_a] at hz
 obtain ⟨a9, c9, h9, -, hm1, hs1⟩ := r1.ints
 simp only [Value.slice.injEq] at h9
 obtain ⟨rfl, rfl, rfl⟩ := h9
 obtain ⟨a9, c9, h9, -, hm2, hs2⟩ := r2.bools
 simp only [Value.slice.injEq] at h9
 obtain ⟨rfl, rfl, rfl⟩ := h9
 refine (toResp_any X.kd X.fl X.pl X.n _ _ _ _ _ _ X.ws X.bs w rfl rfl hs1 hs2 (by omega) (by omega)).mono ?_
 rintro e w' ⟨g1, g2, rfl, h1, h2, h3⟩
 exact ⟨_, _, _, _, rfl, VA.own h1 h2, h3⟩
theorem toRespS_m (n : Nat) (f : Nat -> VA) (a : Option Addr) (n' cap : Nat) (w : World) (hs : Rd w 0 (.list 6 n (fun k => trs (aT (f k)))) (.slice a n' cap)) (hz : (Tr.list 6 n (fun k => trs (aT (f k)))).sz <= 1048576) :
 Calls Tryz.prog 77 #[.slice a n' cap] w fun e w' => ∃ b d, e = .returned (.slice b n' d) /\ OwnS w' w.heap.size (.list 6 n (fun k => trs (aT (f k)))) (.slice b n' d) /\ Below w.heap.size w w' := by
 obtain ⟨a9, c9, h9, -, hn⟩ := hs.shape
 simp only [Value.slice.injEq] at h9
 obtain ⟨-, rfl, -⟩ := h9
 clear a9 c9
 have hn1 : n' <= 1048576 := by rw [Tr.sz_list] at hz; omega
 have HZ : Hid (∀ k, k < n' -> szT 6 (trs (aT (f k))) <= 1048576) := by
  show ∀ k, k < n' -> szT 6 (trs (aT (f k))) <= 1048576
  intro k hk
  rw [Tr.sz_list] at hz
  have := sumN_at (fun k => szT 6 (trs (aT (f k)))) hk
  omega
 have hmk := run_make_st (P := Tryz.prog) 59 89 (.agg #[.int .i64 0, .int .i64 0, .int .i64 0, .int .i64 0, .slice none 0 0, .slice none 0 0]) 6 80 Tryz.underlying59 (by kernel_rfl) .i64 .i64 n' (by omega) (by omega)
 have HS : Hid (Rd w 0 (.list 6 n' (fun k => trs (aT (f k)))) (.slice a n' cap) /\ n' <= maxLen) := ⟨hs, hn⟩
 clear hs hz hn
 go_enter Tryz.func77, Tryz.ntmps77
 go_wp2
 clear hmk
 go_loopw [4] (fun i wr => ∃ (k : Nat), k <= n' /\ i = .int .i64 k /\ LsI wr w.heap.size 89 6 n' (fun i => aT (f i)) k /\ Below w.heap.size w wr) (fun i _ => n' - (intOf i).toNat)
 case atStart => exact ⟨0, Nat.zero_le _, rfl, LsI.start (RowS.made w (#[.int .i64 0, .int .i64 0, .int .i64 0, .int .i64 0, .slice none 0 0, .slice none 0 0]).toList n' _ (by simp)), (Below.refl _ _).alloc (Nat.le_refl _) _⟩
 case round =>
  obtain ⟨k, hk, rfl, hrow, hb⟩ := hrel
  by_cases hlt : k < n'
  ·have hi : (k : Int) < (n' : Int) := by omega
   obtain ⟨b, off, vs, rfl, _, hb0, hlen, hr, hrd⟩ := (HS.out.1.below hb).at hlt
   obtain ⟨a1, c1, a2, c2, rfl, r1, r2⟩ := VA.cells hrd hlen
   clear hlen hrd
   have d09 : wr.cell? ⟨b, off + k * 6, none⟩ = _ := hr 0 _ rfl
   have d19 : wr.cell? ⟨b, off + k * 6 + 1, none⟩ = _ := hr 1 _ rfl
   have d29 : wr.cell? ⟨b, off + k * 6 + 2, none⟩ = _ := hr 2 _ rfl
   have d39 : wr.cell? ⟨b, off + k * 6 + 3, none⟩ = _ := hr 3 _ rfl
   have d49 : wr.cell? ⟨b, off + k * 6 + 4, none⟩ = _ := hr 4 _ rfl
   have d59 : wr.cell? ⟨b, off + k * 6 + 5, none⟩ = _ := hr 5 _ rfl
   have HK : Hid (LsI wr w.heap.size 89 6 n' (fun i => aT (f i)) k /\ True /\ Below w.heap.size w wr /\ Rd wr 0 (intsT (f k).ws) (.slice a1 ((f k).ws.length) c1) /\ Rd wr 0 (boolsT (f k).bs) (.slice a2 ((f k).bs.length) c2)) := ⟨hrow, trivial, hb, r1, r2⟩
   clear hrow hb hr hb0 r1 r2
   go_wp2_with fail
   refine (toResp_m (f k) a1 ((f k).ws.length) c1 a2 ((f k).bs.length) c2 _ HK.out.2.2.2.1 HK.out.2.2.2.2 (HZ.out k hlt)).mono ?_
   rintro e w1 ⟨b1, d1, b2, d2, rfl, q1, hb1⟩
   obtain ⟨F1, R1⟩ := (HK.out.1.cg (Cg.ofBelow (S := fun _ => False) hb1) (fun b h => h.elim)).row
   obtain ⟨rx0, ry0⟩ : ∃ v, w1.cell? ⟨w.heap.size, k * 6, none⟩ = some v := R1.ex hlt (j := 0) (by decide)
   obtain ⟨rx1, ry1⟩ : ∃ v, w1.cell? ⟨w.heap.size, k * 6 + 1, none⟩ = some v := R1.ex hlt (j := 1) (by decide)
   obtain ⟨rx2, ry2⟩ : ∃ v, w1.cell? ⟨w.heap.size, k * 6 + 2, none⟩ = some v := R1.ex hlt (j := 2) (by decide)
   obtain ⟨rx3, ry3⟩ : ∃ v, w1.cell? ⟨w.heap.size, k * 6 + 3, none⟩ = some v := R1.ex hlt (j := 3) (by decide)
   obtain ⟨rx4, ry4⟩ : ∃ v, w1.cell? ⟨w.heap.size, k * 6 + 4, none⟩ = some v := R1.ex hlt (j := 4) (by decide)
   obtain ⟨rx5, ry5⟩ : ∃ v, w1.cell? ⟨w.heap.size, k * 6 + 5, none⟩ = some v := R1.ex hlt (j := 5) (by decide)
   obtain ⟨W2, hW2⟩ : ∃ W2, W2 = setL w1 w.heap.size (k * 6) (aL (f k) b1 ((f k).ws.length) d1 b2 ((f k).bs.length) d2) := ⟨_, rfl⟩
   have H2 : Hid (LsI W2 w.heap.size 89 6 n' (fun i => aT (f i)) (k + 1) /\ Below w.heap.size w W2) := ⟨by rw [hW2]; exact HK.out.1.step (S := fun _ => False) hlt (Cg.ofBelow hb1) (fun b h => h.elim) q1 rfl, by rw [hW2]; exact setL_below (Nat.le_refl _) _ _ _ (bel_nx HK.out.2.2.1 hb1)⟩
   have hW2' : W2 = ((((((w1.setCell ⟨w.heap.size, k * 6, none⟩ (.int .i64 (f k).kd)).setCell ⟨w.heap.size, k * 6 + 1, none⟩ (.int .i64 (f k).fl)).setCell ⟨w.heap.size, k * 6 + 2, none⟩ (.int .i64 (f k).pl)).setCell ⟨w.heap.size, k * 6 + 3, none⟩ (.int .i64 (f k).n)).setCell ⟨w.heap.size, k * 6 + 4, none⟩ (.slice b1 ((f k).ws.length) d1)).setCell ⟨w.heap.size, k * 6 + 5, none⟩ (.slice b2 ((f k).bs.length) d2)) := by rw [hW2]; simp only [setL, Nat.reduceAdd, Nat.zero_add, Nat.add_zero, Nat.add_assoc]
   have HE : Hid (∀ j, w1.frozen? ⟨w.heap.size, j, none⟩ = false) := R1.fro
   have qf0 := HE.out (k * 6)
   have qf1 := HE.out (k * 6 + 1)
   have qf2 := HE.out (k * 6 + 2)
   have qf3 := HE.out (k * 6 + 3)
   have qf4 := HE.out (k * 6 + 4)
   have qf5 := HE.out (k * 6 + 5)
   clear R1 hb1 HK d09 d19 d29 d39 d49 d59 hW2 HE q1
   go_wp2
   rw [<- hW2']
   clear hW2'
   go_roundw
   case rel =>
    exact ⟨k + 1, by omega, by go_num, H2.out.1, H2.out.2⟩
   case measure => simp [intOf]; omega
  have hi : ¬ (k : Int) < (n' : Int) := by omega
  have e9 : k = n' := by omega
  subst e9
  have HR : Hid (LsI wr w.heap.size 89 6 k (fun i => aT (f i)) k /\ Below w.heap.size w wr) := ⟨hrow, hb⟩
  clear hrow hb
  go_wp2
  go_ret
  exact ⟨_, _, rfl, HR.out.1.done (Nat.le_refl _) HS.out.2 (fun _ _ => rfl), HR.out.2⟩
end Go.Proofs.YtlhjiiifmfgnoaaGreat
namespace Go.Proofs.YtlhjiiifmfgnoaaGreat
open Go.RowKit Go.Joins
theorem Own1.nil (w : World) (lo hi : Nat) : Own1 w lo hi [] [] :=
 ⟨fun _ => .leaf, rfl, fun i v hv => by simp at hv, fun i hi => by simp at hi, fun i i' hi => by simp at hi⟩
theorem Own1.one {w : World} {lo : Nat} {t : Tr} {v : Value} (h : OwnS w lo t v) : Own1 w lo w.heap.size [t] [v] := by
 obtain ⟨K, h1, h2, h3⟩ := h
 refine ⟨fun _ => K, rfl, fun i u hv => ?_, fun i hi => ⟨h2, fun b hb => ⟨h3 b hb, h1.lt hb⟩⟩, fun i i' hi hi' hne => ?_⟩
 ·match i, hv with
  | 0, hv => obtain rfl := Option.some.inj (show some v = some u from hv); exact h1
  | i + 1, hv => simp at hv
 simp only [List.length_cons, List.length_nil] at hi hi'
 omega
theorem Own1.app {w : World} {lo mid hi : Nat} {ts us : List Tr} {vs xs : List Value} (h1 : Own1 w lo mid ts vs) (h2 : Own1 w mid hi us xs) (hl : lo <= mid) (hm : mid <= hi) : Own1 w lo hi (ts ++ us) (vs ++ xs) := by
 obtain ⟨K, a1, a2, a3, a4⟩ := h1
 obtain ⟨L, b1, b2, b3, b4⟩ := h2
 have hlt : ∀ i, i < ts.length -> (K i).ok /\ ∀ b, (K i).bl b -> lo <= b /\ b < mid := a3
 refine ⟨fun i => if i < ts.length then K i else L (i - ts.length), by simp [a1, b1], fun i v hv => ?_, fun i hi' => ?_, fun i i' hi' hj' hne b hb => ?_⟩
 ·by_cases e : i < ts.length
  ·have e' : i < vs.length := by omega
   rw [List.getElem?_append_left e'] at hv
   simp only [if_pos e]
   have : trs (ts ++ us) i = trs ts i := by
    unfold trs
    simp [List.getD_eq_getElem?_getD, List.getElem?_append_left e]
   rw [this]
   exact a2 i v hv
  have e' : vs.length <= i := by omega
  rw [List.getElem?_append_right e', a1] at hv
  simp only [if_neg e]
  have : trs (ts ++ us) i = trs us (i - ts.length) := by
   unfold trs
   simp [List.getD_eq_getElem?_getD, List.getElem?_append_right (Nat.le_of_not_lt e)]
  rw [this]
  exact b2 _ v hv
 ·rw [List.length_append] at hi'
  by_cases e : i < ts.length
  ·simp only [if_pos e]
   exact ⟨(a3 i e).1, fun b hb => by have := (a3 i e).2 b hb; omega⟩
  simp only [if_neg e]
  have e' : i - ts.length < us.length := by omega
  exact ⟨(b3 _ e').1, fun b hb => by have := (b3 _ e').2 b hb; omega⟩
 rw [List.length_append] at hi' hj'
 by_cases e : i < ts.length
 ·simp only [if_pos e] at hb
  by_cases e2 : i' < ts.length
  ·simp only [if_pos e2]
   exact a4 i i' e e2 hne b hb
  simp only [if_neg e2]
  intro hb'
  have r1 := (a3 i e).2 b hb
  have r2 := (b3 _ (show i' - ts.length < us.length by omega)).2 b hb'
  omega
 simp only [if_neg e] at hb
 by_cases e2 : i' < ts.length
 ·simp only [if_pos e2]
  intro hb'
  have r1 := (a3 i' e2).2 b hb'
  have r2 := (b3 _ (show i - ts.length < us.length by omega)).2 b hb
  omega
 simp only [if_neg e2]
 exact b4 _ _ (by omega) (by omega) (by omega) b hb
theorem Own1.leaf {w : World} {lo hi : Nat} {ts : List Tr} {vs : List Value} (v : Value) (h : Own1 w lo hi ts vs) (hl : lo <= hi) : Own1 w lo hi (.leaf v :: ts) (v :: vs) := by
 have h0 : Own1 w lo lo [.leaf v] [v] := by
  refine ⟨fun _ => .leaf, rfl, fun i u hv => ?_, fun i hi => ⟨trivial, fun b hb => hb.elim⟩, fun i i' hi hi' hne => ?_⟩
  ·match i, hv with
   | 0, hv => obtain rfl := Option.some.inj (show some v = some u from hv); exact ⟨rfl, rfl⟩
   | i + 1, hv => simp at hv
  simp only [List.length_cons, List.length_nil] at hi hi'
  omega
 exact h0.app h (Nat.le_refl _) hl
theorem Own1.below {w w' : World} {lo hi : Nat} {ts : List Tr} {vs : List Value} (h : Own1 w lo hi ts vs) (hb : Below w.heap.size w w') (hh : hi <= w.heap.size) : Own1 w' lo hi ts vs :=
 h.same hb.size (fun b _ q => hb.block b (by omega))
theorem Own1.kept {w w' : World} {lo hi g : Nat} {ts : List Tr} {vs : List Value} (h : Own1 w lo hi ts vs) (hg : w.grownBy w' (some g)) (hl : g < lo) (hh : hi <= w.heap.size) : Own1 w' lo hi ts vs :=
 h.same hg.size (fun b q1 q2 => hg.block b (by omega) (fun e => by have := Option.some.inj e; omega))
theorem Own1.next {w w1 w2 : World} {lo g : Nat} {ts us : List Tr} {vs xs : List Value} (h : Own1 w lo w.heap.size ts vs) (hb : Below w.heap.size w w1) (h2 : Own1 w1 w.heap.size w1.heap.size us xs) (hg : w1.grownBy w2 (some g)) (hl : g < lo) (hs : lo <= w.heap.size) : Own1 w2 lo w2.heap.size (ts ++ us) (vs ++ xs) := by
 have s1 := hb.size
 have s2 := hg.size
 exact (((h.below hb (Nat.le_refl _)).app h2 hs s1).kept hg hl (Nat.le_refl _)).mono (Nat.le_refl _) s2
end Go.Proofs.YtlhjiiifmfgnoaaGreat

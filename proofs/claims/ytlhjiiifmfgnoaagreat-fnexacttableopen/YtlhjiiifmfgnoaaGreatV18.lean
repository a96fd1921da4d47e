/- Texts that the proof needs, joined: Mt5 RgB. -/
import Derived.Test.YtlhjiiifmfgnoaaGreatV8
import Derived.Test.YtlhjiiifmfgnoaaGreatV17
import Derived.Test.YtlhjiiifmfgnoaaGreatV6
set_option linter.unusedVariables false
set_option linter.unusedSimpArgs false
set_option maxHeartbeats 8000000
set_option maxRecDepth 20000
namespace Go.Proofs.YtlhjiiifmfgnoaaGreat
open Go.RowKit Go.Joins Go.ChangeMaps
def rz : VA := ⟨0, 0, 0, 0, [], []⟩
abbrev rzc : Array Value := #[.int .i64 0, .int .i64 0, .int .i64 0, .int .i64 0, .slice none 0 0, .slice none 0 0]
def nwD (X : VT) (so ta un : Int) (Q : VQ) (np : Nat) (g : Nat -> VP) : VD := ⟨X.nx, so, ta, un, Q, np, g, List.replicate np false, np, fun _ => rz⟩
def nwT (X : VT) (D : VD) : VT := ⟨X.nx + 1, X.m + 1, fun j => if j = X.m then D else X.f j⟩
def okO (X : VT) (D : VD) : Bool := okTb X && (decide (X.nx ≠ 1000000000) && (decide (X.m ≠ 16) && okPd D))
def opT (ok : Bool) (X : VT) (D : VD) : VT := if ok then nwT X D else X
def opI (ok : Bool) (X : VT) : Int := if ok then X.nx else 0
theorem inB_iffX {x a b : Int} : inB x a b = true ↔ a <= x /\ x <= b := by unfold inB; simp
theorem okTb_ids {X : VT} (h : okTb X = true) : 0 <= X.nx /\ X.nx <= 1000000000 /\ X.m <= 16 /\ (∀ i, i < X.m -> okPd (X.f i) = true /\ 0 <= (X.f i).id /\ (X.f i).id <= X.nx - 1) /\ ∀ i j, i < j -> j < X.m -> (X.f i).id < (X.f j).id := by
 unfold okTb at h
 simp only [Bool.and_eq_true, inB_iffX, decide_eq_true_eq, allN_iff] at h
 obtain ⟨⟨h1, h2⟩, h3, h4⟩ := h
 have hr : ∀ i, i < X.m -> okPd (X.f i) = true /\ (0 <= (X.f i).id /\ (X.f i).id <= X.nx - 1) /\ (i = 0 \/ (X.f (i - 1)).id < (X.f i).id) := fun i hi => by
  have := h4 i hi
  unfold rowB at this
  simpa only [Bool.and_eq_true, inB_iffX, Bool.or_eq_true, decide_eq_true_eq] using this
 refine ⟨h1, h2, h3, fun i hi => ⟨(hr i hi).1, (hr i hi).2.1.1, (hr i hi).2.1.2⟩, fun i j hij => ?_⟩
 induction hij with
 | refl => intro hj; have := (hr (i + 1) hj).2.2; simpa using this
 | @step j' hle ih =>
  intro hj
  have h8 := ih (by omega)
  have h9 : (X.f j').id < (X.f (j' + 1)).id := by
   have := (hr (j' + 1) hj).2.2
   simpa using this
  exact Int.lt_trans h8 h9
theorem okO_nw {X : VT} {D : VD} (h : okTb X = true) (hD : D.id = X.nx) : okTb (nwT X D) = okO X D := by
 obtain ⟨h1, h2, h3, h4, h5⟩ := okTb_ids h
 rw [Bool.eq_iff_iff]
 unfold okO
 rw [h]
 constructor
 ·intro h9
  obtain ⟨q1, q2, q3, q4, q5⟩ := okTb_ids h9
  have q2' : X.nx + 1 <= 1000000000 := q2
  have q3' : X.m + 1 <= 16 := q3
  have q4' := (q4 X.m (Nat.lt_succ_self _)).1
  have e : (nwT X D).f X.m = D := by show (if X.m = X.m then D else _) = D; rw [if_pos rfl]
  rw [e] at q4'
  simp only [Bool.and_eq_true, decide_eq_true_eq, q4', and_true, true_and, ne_eq]
  exact ⟨by omega, by omega⟩
 intro h9
 simp only [Bool.and_eq_true, decide_eq_true_eq, true_and, ne_eq] at h9
 obtain ⟨q1, q2, q3⟩ := h9
 unfold okTb
 simp only [Bool.and_eq_true, inB_iffX, decide_eq_true_eq, allN_iff]
 refine ⟨⟨by show 0 <= X.nx + 1; omega, by show X.nx + 1 <= _; omega⟩, by show X.m + 1 <= 16; omega, fun i hi => ?_⟩
 have hi' : i < X.m + 1 := hi
 unfold rowB
 simp only [Bool.and_eq_true, inB_iffX, Bool.or_eq_true, decide_eq_true_eq]
 show okPd (if i = X.m then D else X.f i) = true /\ (0 <= (if i = X.m then D else X.f i).id /\ (if i = X.m then D else X.f i).id <= X.nx + 1 - 1) /\ (i = 0 \/ (if i - 1 = X.m then D else X.f (i - 1)).id < (if i = X.m then D else X.f i).id)
 by_cases e : i = X.m
 ·rw [if_pos e]
  refine ⟨q3, ⟨by rw [hD]; exact h1, by rw [hD]; omega⟩, ?_⟩
  by_cases e0 : i = 0
  ·exact .inl e0
  refine .inr ?_
  rw [if_neg (by omega), hD]
  have := (h4 (i - 1) (by omega)).2.2
  omega
 rw [if_neg e]
 have h8 := h4 i (by omega)
 refine ⟨h8.1, ⟨h8.2.1, by omega⟩, ?_⟩
 by_cases e0 : i = 0
 ·exact .inl e0
 refine .inr ?_
 rw [if_neg (by omega)]
 exact h5 (i - 1) i (by omega) (by omega)
theorem rdB_new (u : World) (n : Nat) (hn : n <= 2000000) : Rd (u.alloc (.cells (madeCells (Value.bool false).cells (n * 1)) 4)) 0 (boolsT (List.replicate n false)) (.slice (some ⟨u.heap.size, 0, none⟩) n n) := by
 have h := RowS.made u [.bool false] n 4 (by simp)
 have h' : RowS (u.alloc (.cells (madeCells (Value.bool false).cells (n * 1)) 4)) u.heap.size 4 1 n (fun _ => [.bool false]) := h
 unfold boolsT
 rw [List.length_replicate]
 refine ⟨_, n, rfl, Nat.le_refl _, by unfold maxLen; omega, .inr ⟨u.heap.size, 0, fun _ => [.bool false], rfl, Nat.zero_le _, h'.lt, fun k hk => ⟨rfl, fun j v hv => ?_⟩⟩⟩
 match j, hv with
 | 0, hv =>
  obtain rfl := Option.some.inj (show some _ = some v from hv)
  refine ⟨by rw [Nat.zero_add]; exact h'.cell hk (by decide), ?_⟩
  show Value.bool false = .bool ((List.replicate n false).getD k false)
  congr 1
  simp [List.getD_eq_getElem?_getD, hk]
 | j + 1, hv => simp at hv
theorem rdR_new (u : World) (n : Nat) (hn : n <= 2000000) : Rd (u.alloc (.cells (madeCells (Value.agg rzc).cells (n * 6)) 89)) 0 (.list 6 n (fun _ => trs (aT rz))) (.slice (some ⟨u.heap.size, 0, none⟩) n n) := by
 have h := RowS.made u rzc.toList n 89 (by simp)
 have h' : RowS (u.alloc (.cells (madeCells (Value.agg rzc).cells (n * 6)) 89)) u.heap.size 89 6 n (fun _ => rzc.toList) := h
 refine ⟨_, n, rfl, Nat.le_refl _, by unfold maxLen; omega, .inr ⟨u.heap.size, 0, fun _ => rzc.toList, rfl, Nat.zero_le _, h'.lt, fun k hk => ⟨rfl, fun j v hv => ?_⟩⟩⟩
 have hj : j < 6 := by have := (List.getElem?_eq_some_iff.1 hv).1; simpa using this
 refine ⟨by rw [Nat.zero_add, h'.cell hk hj]; exact hv, ?_⟩
 match j, hv with
 | 0, hv => obtain rfl := Option.some.inj (show some _ = some v from hv); rfl
 | 1, hv => obtain rfl := Option.some.inj (show some _ = some v from hv); rfl
 | 2, hv => obtain rfl := Option.some.inj (show some _ = some v from hv); rfl
 | 3, hv => obtain rfl := Option.some.inj (show some _ = some v from hv); rfl
 | 4, hv => obtain rfl := Option.some.inj (show some _ = some v from hv); exact ⟨none, 0, rfl, Nat.zero_le _, Nat.zero_le _, .inl rfl⟩
 | 5, hv => obtain rfl := Option.some.inj (show some _ = some v from hv); exact ⟨none, 0, rfl, Nat.zero_le _, Nat.zero_le _, .inl rfl⟩
 | j + 6, hv => simp at hv
theorem MapD.lo {w : World} {lo lo' b n : Nat} {f : Nat -> VD} {V : Nat -> List Value} (h : MapD w lo b n f V) (hl : lo' <= lo) : MapD w lo' b n f V := ⟨h.1, Nat.le_trans hl h.2.1, h.2.2⟩
theorem OwnS.rd0S {w : World} {lo : Nat} {t : Tr} {v : Value} (h : OwnS w lo t v) : Rd w 0 t v := by
 obtain ⟨K, h1, h2, h3⟩ := h
 exact h1.rd (fun b _ => Nat.zero_le b)
theorem OwnS.keptS {w w' : World} {lo g : Nat} {t : Tr} {v : Value} (h : OwnS w lo t v) (hg : w.grownBy w' (some g)) (hl : g < lo) : OwnS w' lo t v := by
 obtain ⟨K, h1, h2, h3⟩ := h
 exact ⟨K, h1.same hg.size (fun b hb => hg.block b (h1.lt hb) (fun q => by have := h3 b hb; have := Option.some.inj q; omega)), h2, h3⟩
theorem bdT_nw {X : VT} {D : VD} (h : BdT X) (hD : BdD D) (hm : X.m <= 16) : BdT (nwT X D) :=
 ⟨by show X.m + 1 <= 2000000; omega, fun i hi => by
  have hi' : i < X.m + 1 := hi
  show BdD (if i = X.m then D else X.f i)
  by_cases e : i = X.m
  ·rw [if_pos e]; exact hD
  rw [if_neg e]; exact h.2 i (by omega)⟩
theorem MapD.congrF {w : World} {lo b n : Nat} {f f' : Nat -> VD} {V : Nat -> List Value} (h : MapD w lo b n f V) (he : ∀ j, j < n -> f' j = f j) : MapD w lo b n f' V := by
 obtain ⟨h1, h2, β, h3, h4, h5, h6⟩ := h
 exact ⟨h1.congr (fun j hj => by rw [he j hj]) (fun _ _ => rfl), h2, β, h3, h4, h5, fun j hj => by rw [he j hj]; exact h6 j hj⟩
theorem nwD_sz (X : VT) (so ta un : Int) (Q : VQ) (np : Nat) (g : Nat -> VP) (h : szT 6 (trs (qT Q)) <= 1048576 /\ (Tr.list 8 np (fun i => trs (pT (g i)))).sz <= 1048576) (hn : np <= 1048576) : szT 6 (trs (qT (nwD X so ta un Q np g).q)) <= 1048576 /\ (ptsT (nwD X so ta un Q np g)).sz <= 1048576 /\ (nwD X so ta un Q np g).hs.length <= 1048576 /\ (tlsT (nwD X so ta un Q np g)).sz <= 1048576 := by
 refine ⟨h.1, h.2, by simpa [nwD] using hn, ?_⟩
 show (Tr.list 6 np (fun _ => trs (aT rz))).sz <= 1048576
 have hr : szT 6 (trs (aT rz)) = 0 := by rw [szT_a]; rfl
 rw [Tr.sz_list]
 have : ∀ n, sumN n (fun _ => szT 6 (trs (aT rz))) = 0 := fun n => by
  induction n with
  | zero => rfl
  | succ n ih => show sumN n (fun _ => szT 6 (trs (aT rz))) + szT 6 (trs (aT rz)) = 0; rw [ih, hr]
 rw [this]
 omega
theorem nwD_bd (X : VT) (so ta un : Int) (Q : VQ) (np : Nat) (g : Nat -> VP) (h : szT 6 (trs (qT Q)) <= 1048576 /\ (Tr.list 8 np (fun i => trs (pT (g i)))).sz <= 1048576) (hn : np <= 1048576) : BdD (nwD X so ta un Q np g) := by
 have h1 := h.1
 rw [szT_q] at h1
 have h2 := list_bd (s := 8) (n := np) (f := fun i => trs (pT (g i))) (N := 1048576) h.2
 refine ⟨⟨by show Q.ws.length <= _; omega, by show Q.bs.length <= _; omega⟩, by show np <= _; omega, by show (List.replicate np false).length <= _; rw [List.length_replicate]; omega, by show np <= _; omega, fun i hi => ?_, fun i hi => ⟨Nat.zero_le _, Nat.zero_le _⟩⟩
 have := h2.2 i hi
 rw [szT_p] at this
 exact ⟨by show (g i).q.ws.length <= _; omega, by show (g i).q.bs.length <= _; omega⟩
def OpQ (w w' : World) (e : Ending) (ok : Bool) (X : VT) (D : VD) : Prop :=
 ∃ a c, e = .returned (.tuple #[.agg (tL (opT ok X D) a (opT ok X D).m c).toArray, .int .i64 (opI ok X), .bool ok]) /\ Own1 w' w.heap.size w'.heap.size (tT (opT ok X D)) (tL (opT ok X D) a (opT ok X D).m c) /\ Below w.heap.size w w'
theorem implTableOpen_any (X : VT) (a : Option Addr) (c : Nat) (so ta un : Int) (Q : VQ) (q1 : Option Addr) (k1 : Nat) (q2 : Option Addr) (k2 : Nat) (np : Nat) (g : Nat -> VP) (p3 : Option Addr) (k3 : Nat) (w : World)
 (hT : Rd w 0 (.list 13 X.m (fun i => trs (dT (X.f i)))) (.slice a X.m c)) (hzT : szT 2 (trs (tT X)) <= 1048576) (r1 : Rd w 0 (intsT Q.ws) (.slice q1 Q.ws.length k1)) (r2 : Rd w 0 (boolsT Q.bs) (.slice q2 Q.bs.length k2)) (r3 : Rd w 0 (.list 8 np (fun i => trs (pT (g i)))) (.slice p3 np k3)) (hzD : szT 6 (trs (qT Q)) <= 1048576 /\ (Tr.list 8 np (fun i => trs (pT (g i)))).sz <= 1048576) :
 Calls Tryz.prog 11 #[.agg (tL X a X.m c).toArray, .int .i64 so, .int .i64 ta, .int .i64 un, .agg (qL Q q1 Q.ws.length k1 q2 Q.bs.length k2).toArray, .slice p3 np k3] w fun e w' => OpQ w w' e (okO X (nwD X so ta un Q np g)) X (nwD X so ta un Q np g) := by
 obtain ⟨B, hB⟩ : ∃ B, B = w.heap.size := ⟨_, rfl⟩
 obtain ⟨W, hW⟩ : ∃ W, W = ((w.alloc (.cells (tL X a X.m c).toArray 35)).alloc (.cells (qL Q q1 Q.ws.length k1 q2 Q.bs.length k2).toArray 39)).alloc (.cells tz 35) := ⟨_, rfl⟩
 have HN : Hid (np <= 1048576) := by
  show np <= 1048576
  have h9 := hzD.2
  rw [Tr.sz_list] at h9
  omega
 have HD : Hid (szT 6 (trs (qT (nwD X so ta un Q np g).q)) <= 1048576 /\ (ptsT (nwD X so ta un Q np g)).sz <= 1048576 /\ (nwD X so ta un Q np g).hs.length <= 1048576 /\ (tlsT (nwD X so ta un Q np g)).sz <= 1048576) := nwD_sz X so ta un Q np g hzD HN.out
 have HR : Hid (Rd w 0 (.list 13 X.m (fun i => trs (dT (X.f i)))) (.slice a X.m c) /\ Rd w 0 (intsT Q.ws) (.slice q1 Q.ws.length k1) /\ Rd w 0 (boolsT Q.bs) (.slice q2 Q.bs.length k2) /\ Rd w 0 (.list 8 np (fun i => trs (pT (g i)))) (.slice p3 np k3) /\ szT 2 (trs (tT X)) <= 1048576 /\ BdT X /\ BdD (nwD X so ta un Q np g) /\ w.heap.size = B) := ⟨hT, r1, r2, r3, hzT, VT.bd (by omega), nwD_bd X so ta un Q np g hzD HN.out, hB.symm⟩
 have H0 : Hid (Below w.heap.size w W /\ Blk W B 35 (tL X a X.m c).toArray /\ Blk W (B + 1) 39 (qL Q q1 Q.ws.length k1 q2 Q.bs.length k2).toArray /\ Blk W (B + 2) 35 tz) := by
  refine ⟨?_, ?_, ?_, ?_⟩
  ·rw [hW]; exact bel_nx (bel_nx (bel_alloc w _) (bel_alloc _ _)) (bel_alloc _ _)
  ·rw [hW, hB]; exact ((Blk.new w _ _).below (bel_alloc _ _)).below (bel_alloc _ _)
  ·rw [hW, hB]; have := (Blk.new (w.alloc (.cells (tL X a X.m c).toArray 35)) (qL Q q1 Q.ws.length k1 q2 Q.bs.length k2).toArray 39).below (bel_alloc _ (.cells tz 35)); simpa using this
  rw [hW, hB]; have := Blk.new ((w.alloc (.cells (tL X a X.m c).toArray 35)).alloc (.cells (qL Q q1 Q.ws.length k1 q2 Q.bs.length k2).toArray 39)) tz 35; simpa using this
 obtain ⟨ok, hok⟩ : ∃ ok, ok = okTb X := ⟨_, rfl⟩
 obtain ⟨ok2, hok2⟩ : ∃ ok, ok = okO X (nwD X so ta un Q np g) := ⟨_, rfl⟩
 have HO : Hid (ok = okTb X /\ ok2 = okO X (nwD X so ta un Q np g) /\ (ok = false -> ok2 = false)) := ⟨hok, hok2, fun h => by rw [hok2]; unfold okO; rw [<- hok, h]; rfl⟩
 rw [<- hok2]
 clear hT r1 r2 r3 hzT hzD hok hok2
 go_enter Tryz.func11, Tryz.ntmps11
 go_upto_region 1 with fail
 have hB1 : w.heap.size + 1 = B + 1 := by omega
 have hB2 : w.heap.size + 1 + 1 = B + 2 := by omega
 rw [<- hW, hB2, hB1, <- hB]
 clear hW hB hB1 hB2
 obtain ⟨⟨y0, y1⟩, yf⟩ := H0.out.2.1.tc2
 clear yf
 go_wp2_with fail
 refine (implTableOk_any X a c _ ⟨HR.out.1.below H0.out.1, HR.out.2.2.2.2.2.1⟩).mono ?_
 rintro e w1 ⟨rfl, b1⟩
 rw [<- HO.out.1]
 have H1 : Hid (Below w.heap.size w w1 /\ Blk w1 B 35 (tL X a X.m c).toArray /\ Blk w1 (B + 1) 39 (qL Q q1 Q.ws.length k1 q2 Q.bs.length k2).toArray /\ Blk w1 (B + 2) 35 tz) := ⟨bel_nx H0.out.1 b1, H0.out.2.1.below b1, H0.out.2.2.1.below b1, H0.out.2.2.2.below b1⟩
 clear b1 y0 y1 H0
 cases ok
 case false =>
  have e2 := HO.out.2.2 rfl
  subst e2
  obtain ⟨⟨y0, y1⟩, yf⟩ := H1.out.2.1.tc2
  clear yf
  go_wp2_with fail
  refine (copyTable_m X a X.m c _ (HR.out.1.below H1.out.1) HR.out.2.2.2.2.1).mono ?_
  rintro e w2 ⟨b9, d9, rfl, o9, bb⟩
  clear y0 y1
  have kR := H1.out.2.2.2.below bb
  obtain ⟨W9, hW9⟩ : ∃ W9, W9 = setL w2 (B + 2) 0 (tL X b9 X.m d9) := ⟨_, rfl⟩
  have gs : w2.grownBy W9 (some (B + 2)) := by rw [hW9]; exact setL_gw _ _ _
  have H9 : Hid (Own1 W9 w.heap.size W9.heap.size (tT X) (tL X b9 X.m d9) /\ Below w.heap.size w W9 /\ Blk W9 (B + 2) 35 (tL X b9 X.m d9).toArray) := ⟨(o9.kept gs H1.out.2.2.2.lt (Nat.le_refl _)).mono H1.out.1.size gs.size, by rw [hW9]; exact setL_below (by have := HR.out.2.2.2.2.2.2.2; omega) _ _ _ (bel_nx H1.out.1 bb), by rw [hW9]; exact Blk.wr kR (by simp [wrA])⟩
  obtain ⟨⟨x0, x1⟩, xf⟩ := kR.tc2
  have xf0 := xf 0
  have xf1 := xf 1
  have hV : W9 = ((w2.setCell ⟨B + 2, 0, none⟩ (.int .i64 X.nx)).setCell ⟨B + 2, 1, none⟩ (.slice b9 X.m d9)) := hW9
  clear hW9 gs kR xf o9 bb
  go_wp2
  rw [<- hV]
  refine bodyPost_ret (v := .tuple #[.agg (tL X b9 X.m d9).toArray, .int .i64 0, .bool false]) (results_cell2 Tryz.results11 rfl rfl rfl (run_loadVar_mid _ _ _ 35 (tL X b9 X.m d9) _ H9.out.2.2.all Tryz.underlying35 rfl (by kernel_rfl))) rfl ⟨b9, d9, rfl, H9.out.1, H9.out.2.1⟩
 obtain ⟨i1, i2, i3, i4, i5⟩ := okTb_ids HO.out.1.symm
 have HI : Hid (0 <= X.nx /\ X.nx <= 1000000000 /\ X.m <= 16 /\ (∀ i, i < X.m -> (X.f i).id <= X.nx - 1) /\ ∀ i j, i < j -> j < X.m -> (X.f i).id < (X.f j).id) := ⟨i1, i2, i3, fun i hi => (i4 i hi).2.2, i5⟩
 have v1 : IntKind.i64.wrap (X.nx + 1) = X.nx + 1 := by rw [IntKind.wrap_i64]; omega
 clear i1 i2 i3 i4 i5
 go_upto_region 3 with fail
 try go_simp
 refine wp_region_any (by kernel_rfl) ?_
 refine wpAny_tl 4 (fun u => Below w1.heap.size w1 u) (fun j σ u => match j with
  | 4 => σ 15 = .int .i64 X.nx /\ ∃ M V, σ 26 = .map (some M) /\ MapD u (B + 3) M X.m X.f V /\ Below w1.heap.size w1 u
  | _ => σ 15 = .int .i64 X.nx /\ ∃ M V, σ 16 = .map (some M) /\ MapD u (B + 3) M X.m X.f V /\ Below w1.heap.size w1 u) (fun i v u => match i with
  | 0 => v = .pointer (some ⟨B, 0, none⟩)
  | 1 => v = .int .i64 X.nx
  | 2 => v = .agg ((tL X a X.m c)).toArray
  | 3 => ∃ M V, v = .map (some M) /\ MapD u (B + 3) M X.m X.f V
  | _ => True) (by kernel_rfl) (by kernel_rfl) (by decide) (by kernel_rfl) (fun u u' h hb => bel_nx h hb) ?_ (by first | exact Below.refl _ _ | exact (Below.refl _ _).drew) ?_ ?_ ?_ ?_ _ _ rfl (by decide) (fun i => by simp [Array.getD]; try (split <;> rfl))
 ·intro i v u u' h hb
  match i, h with
  | 0, h => exact h
  | 1, h => exact h
  | 2, h => exact h
  | 3, ⟨M, V, e, r⟩ => exact ⟨M, V, e, r.below hb⟩
  | _ + 4, _ => trivial
 rotate_left
 ·intro u i o ρ hi hR ho hρ hc hf hd
  obtain rfl | rfl | rfl | rfl : i = 0 \/ i = 1 \/ i = 2 \/ i = 3 := by omega
  all_goals (simp only [List.getElem?_toArray, List.getElem?_cons_zero, List.getElem?_cons_succ, Option.some.injEq] at ho; subst ho)
  ·have s6 : ρ (.tmp 6) = .pointer (some ⟨B, 0, none⟩) := (hρ 6 (by kernel_rfl)).trans rfl
   exact .inl ⟨rfl, .inl ⟨.pointer (some ⟨B, 0, none⟩), u, run_field_op rfl s6 (by go_simp), rfl, Below.refl _ _⟩⟩
  ·have h0 : ρ (.tmp 23) = .pointer (some ⟨B, 0, none⟩) := hd ⟨0, .data⟩ (by simp) rfl 23 rfl
   have y9 : u.cell? ⟨B, 0, none⟩ = some (.int .i64 X.nx) := (H1.out.2.1.below hR).rng 0 _ rfl
   have hr : (Instr.loadAt 3 (.pointer (some ⟨B, 0, none⟩))).run Tryz.prog u = .ok (.int .i64 X.nx) u := by go_simp
   exact .inl ⟨rfl, .inl ⟨.int .i64 X.nx, u, run_load_op rfl h0 hr, rfl, Below.refl _ _⟩⟩
  ·have s6 : ρ (.tmp 6) = .pointer (some ⟨B, 0, none⟩) := (hρ 6 (by kernel_rfl)).trans rfl
   have hr : (Instr.loadAt 35 (.pointer (some ⟨B, 0, none⟩))).run Tryz.prog u = .ok (.agg ((tL X a X.m c)).toArray) u := run_loadAt_mid u B (0) 35 ((tL X a X.m c)) _ (H1.out.2.1.below hR).rng Tryz.underlying35 rfl (by kernel_rfl)
   exact .inl ⟨rfl, .inl ⟨.agg ((tL X a X.m c)).toArray, u, run_load_op rfl s6 hr, rfl, Below.refl _ _⟩⟩
  have h2 : ρ (.tmp 25) = .agg (tL X a X.m c).toArray := hd ⟨2, .data⟩ (by simp) rfl 25 rfl
  refine .inl ⟨rfl, .inr ⟨_, _, run_call_op rfl (hf _) (args := #[.agg (tL X a X.m c).toArray]) (by simp [h2]) (by kernel_rfl), ?_⟩⟩
  refine (mattersOf_m X.nx X.m X.f a X.m c _ (HR.out.1.below (bel_nx H1.out.1 hR)) (by have := HR.out.2.2.2.2.1; rw [szT_t] at this; exact this) (fun i j hij hj => by have := HI.out.2.2.2.2 i j hij hj; omega)).mono ?_
  rintro e u' ⟨M, V, he, hm, b'⟩
  exact ⟨_, he, ⟨M, V, rfl, hm.lo (by have := H1.out.2.2.2.lt; have := hR.size; omega)⟩, b'⟩
 ·intro u o ρ hR ho hρ hc hf hv
  simp only [List.getElem?_toArray, List.getElem?_cons_zero, List.getElem?_cons_succ, Option.some.injEq] at ho
  subst ho
  have h1 : ρ (.tmp 24) = .int .i64 X.nx := hv 1 24 (by decide) rfl
  obtain ⟨M, V, h3, hm⟩ : ∃ M V, ρ (.tmp 26) = .map (some M) /\ MapD u (B + 3) M X.m X.f V := hv 3 26 (by decide) rfl
  exact ⟨rfl, .inl ⟨_, u, run_asg_x rfl h1, updS_eqX, M, V, (updS_neX (by decide)).trans h3, hm, hR⟩⟩
 ·intro u i o ρ hi ho hE hρ hc hf
  have hi2 : i + 1 < 6 := by
   have := (Array.getElem?_eq_some_iff.1 ho).1
   simpa using this
  obtain rfl : i = 4 := by omega
  all_goals (simp only [List.getElem?_toArray, List.getElem?_cons_zero, List.getElem?_cons_succ, Option.some.injEq] at ho; subst ho)
  obtain ⟨e15, M, V, e26, hm, hb⟩ := hE
  have e26' : ρ (.tmp 26) = .map (some M) := e26
  exact ⟨rfl, .inl ⟨_, u, run_asg_x rfl e26', (updS_neX (by decide)).trans e15, M, V, updS_eqX, hm, hb⟩⟩
 intro vs σ u hE hvs
 obtain ⟨e15, M, V, e16, hm, hb⟩ : σ 15 = .int .i64 X.nx /\ ∃ M V, σ 16 = .map (some M) /\ MapD u (B + 3) M X.m X.f V /\ Below w1.heap.size w1 u := hE
 have f4 : vs 4 = .int .i64 X.nx := (hvs 4 15 rfl).trans e15
 have f5 : vs 5 = .map (some M) := (hvs 5 16 rfl).trans e16
 simp only [putsL]
 rw [f4, f5]
 obtain ⟨wr, hwr⟩ : ∃ wr, wr = u := ⟨u, rfl⟩
 subst hwr
 have HK : Hid (MapD wr (B + 3) M X.m X.f V /\ Blk wr (B + 1) 39 (qL Q q1 Q.ws.length k1 q2 Q.bs.length k2).toArray /\ Rd wr 0 (intsT Q.ws) (.slice q1 Q.ws.length k1) /\ Rd wr 0 (boolsT Q.bs) (.slice q2 Q.bs.length k2) /\ Rd wr 0 (.list 8 np (fun i => trs (pT (g i)))) (.slice p3 np k3) /\ Below w.heap.size w wr /\ Blk wr B 35 (tL X a X.m c).toArray /\ Blk wr (B + 2) 35 tz) := ⟨hm, H1.out.2.2.1.below hb, HR.out.2.1.below (bel_nx H1.out.1 hb), HR.out.2.2.1.below (bel_nx H1.out.1 hb), HR.out.2.2.2.1.below (bel_nx H1.out.1 hb), bel_nx H1.out.1 hb, H1.out.2.1.below hb, H1.out.2.2.2.below hb⟩
 have HX : Hid (∀ j, j < X.m -> (((fun j => if j = X.m then (nwD X so ta un Q np g) else X.f j) j).id ≠ ((fun j => if j = X.m then (nwD X so ta un Q np g) else X.f j) X.m).id)) := fun j hj => by
  have h9 := HI.out.2.2.2.1 j hj
  simp only [if_neg (show j ≠ X.m by omega), if_true, nwD]
  omega
 have HY : Hid (∀ i j, i < j -> j < X.m + 1 -> ((fun j => if j = X.m then (nwD X so ta un Q np g) else X.f j) i).id < ((fun j => if j = X.m then (nwD X so ta un Q np g) else X.f j) j).id) := fun i j hij hj => by
  by_cases e9 : j = X.m
  ·have h9 := HI.out.2.2.2.1 i (by omega)
   simp only [if_neg (show i ≠ X.m by omega), if_pos e9, nwD]
   omega
  simp only [if_neg (show i ≠ X.m by omega), if_neg e9]
  exact HI.out.2.2.2.2 i j hij (by omega)
 clear f4 f5 e15 e16 hvs hm hb H1
 try go_simp
 go_upto_region 4 with fail
 try go_simp
 refine wp_region_any (by kernel_rfl) ?_
 refine wpAny_tl 16 (fun u => Below wr.heap.size wr u) (fun j σ u => ∃ V', MapD u (B + 3) M (X.m + 1) (fun j => if j = X.m then (nwD X so ta un Q np g) else X.f j) V' /\ wr.grownBy u (some M)) (fun i v u => match i with
  | 0 => v = .map (some M)
  | 1 => v = .int .i64 X.nx
  | 2 => v = .int .i64 X.nx
  | 3 => v = .int .i64 so
  | 4 => v = .int .i64 ta
  | 5 => v = .int .i64 un
  | 6 => v = .agg ((qL Q q1 Q.ws.length k1 q2 Q.bs.length k2)).toArray
  | 7 => v = .slice p3 np k3
  | 8 => v = .slice p3 np k3
  | 9 => v = .int .i64 (np : Int)
  | 10 => ∃ h1, v = .slice (some ⟨h1, 0, none⟩) np np /\ Rd u 0 (boolsT (List.replicate np false)) (.slice (some ⟨h1, 0, none⟩) np np)
  | 11 => v = .slice p3 np k3
  | 12 => v = .int .i64 (np : Int)
  | 13 => ∃ h2, v = .slice (some ⟨h2, 0, none⟩) np np /\ Rd u 0 (.list 6 np (fun _ => trs (aT rz))) (.slice (some ⟨h2, 0, none⟩) np np)
  | 14 => ∃ h1 h2, v = .agg (dL (nwD X so ta un Q np g) q1 Q.ws.length k1 q2 Q.bs.length k2 p3 np k3 (some ⟨h1, 0, none⟩) np np (some ⟨h2, 0, none⟩) np np).toArray /\ Rd u 0 (boolsT (List.replicate np false)) (.slice (some ⟨h1, 0, none⟩) np np) /\ Rd u 0 (.list 6 np (fun _ => trs (aT rz))) (.slice (some ⟨h2, 0, none⟩) np np)
  | 15 => ∃ b1 d1 b2 d2 b3 d3 b4 d4 b5 d5, v = .agg (dL (nwD X so ta un Q np g) b1 Q.ws.length d1 b2 Q.bs.length d2 b3 np d3 b4 np d4 b5 np d5).toArray /\ ∃ hi, hi <= u.heap.size /\ wr.heap.size <= hi /\ Own1 u wr.heap.size hi (dT (nwD X so ta un Q np g)) (dL (nwD X so ta un Q np g) b1 Q.ws.length d1 b2 Q.bs.length d2 b3 np d3 b4 np d4 b5 np d5)
  | _ => True) (by kernel_rfl) (by kernel_rfl) (by decide) (by kernel_rfl) (fun u u' h hb => bel_nx h hb) ?_ (by first | exact Below.refl _ _ | exact (Below.refl _ _).drew) ?_ ?_ ?_ ?_ _ _ rfl (by decide) (fun i => by simp [Array.getD]; try (split <;> rfl))
 ·intro i v u u' h hb
  match i, h with
  | 0, h => exact h
  | 1, h => exact h
  | 2, h => exact h
  | 3, h => exact h
  | 4, h => exact h
  | 5, h => exact h
  | 6, h => exact h
  | 7, h => exact h
  | 8, h => exact h
  | 9, h => exact h
  | 10, ⟨h1, e, r⟩ => exact ⟨h1, e, r.below hb⟩
  | 11, h => exact h
  | 12, h => exact h
  | 13, ⟨h2, e, r⟩ => exact ⟨h2, e, r.below hb⟩
  | 14, ⟨h1, h2, e, r1, r2⟩ => exact ⟨h1, h2, e, r1.below hb, r2.below hb⟩
  | 15, ⟨b1, d1, b2, d2, b3, d3, b4, d4, b5, d5, e, hi, h1, h2, h3⟩ => exact ⟨b1, d1, b2, d2, b3, d3, b4, d4, b5, d5, e, hi, Nat.le_trans h1 hb.size, h2, h3.below hb h1⟩
  | _ + 16, _ => trivial
 rotate_left
 ·intro u i o ρ hi hR ho hρ hc hf hd
  obtain rfl | rfl | rfl | rfl | rfl | rfl | rfl | rfl | rfl | rfl | rfl | rfl | rfl | rfl | rfl | rfl : i = 0 \/ i = 1 \/ i = 2 \/ i = 3 \/ i = 4 \/ i = 5 \/ i = 6 \/ i = 7 \/ i = 8 \/ i = 9 \/ i = 10 \/ i = 11 \/ i = 12 \/ i = 13 \/ i = 14 \/ i = 15 := by omega
  all_goals (simp only [List.getElem?_toArray, List.getElem?_cons_zero, List.getElem?_cons_succ, Option.some.injEq] at ho; subst ho)
  ·have s16 : ρ (.tmp 16) = .map (some M) := (hρ 16 (by kernel_rfl)).trans rfl
   exact .inl ⟨rfl, .inl ⟨_, u, rfl, s16, Below.refl _ _⟩⟩
  ·have s15 : ρ (.tmp 15) = .int .i64 X.nx := (hρ 15 (by kernel_rfl)).trans rfl
   exact .inl ⟨rfl, .inl ⟨_, u, rfl, s15, Below.refl _ _⟩⟩
  ·have s15 : ρ (.tmp 15) = .int .i64 X.nx := (hρ 15 (by kernel_rfl)).trans rfl
   exact .inl ⟨rfl, .inl ⟨_, u, rfl, s15, Below.refl _ _⟩⟩
  ·have s1 : ρ (.tmp 1) = .int .i64 so := (hρ 1 (by kernel_rfl)).trans rfl
   exact .inl ⟨rfl, .inl ⟨_, u, rfl, s1, Below.refl _ _⟩⟩
  ·have s2 : ρ (.tmp 2) = .int .i64 ta := (hρ 2 (by kernel_rfl)).trans rfl
   exact .inl ⟨rfl, .inl ⟨_, u, rfl, s2, Below.refl _ _⟩⟩
  ·have s3 : ρ (.tmp 3) = .int .i64 un := (hρ 3 (by kernel_rfl)).trans rfl
   exact .inl ⟨rfl, .inl ⟨_, u, rfl, s3, Below.refl _ _⟩⟩
  ·have s10 : ρ (.tmp 10) = .pointer (some ⟨(B + 1), 0, none⟩) := (hρ 10 (by kernel_rfl)).trans rfl
   have hr : (Instr.loadAt 39 (.pointer (some ⟨(B + 1), 0, none⟩))).run Tryz.prog u = .ok (.agg ((qL Q q1 Q.ws.length k1 q2 Q.bs.length k2)).toArray) u := run_loadAt_mid u (B + 1) (0) 39 ((qL Q q1 Q.ws.length k1 q2 Q.bs.length k2)) _ (HK.out.2.1.below hR).rng Tryz.underlying39 rfl (by kernel_rfl)
   exact .inl ⟨rfl, .inl ⟨.agg ((qL Q q1 Q.ws.length k1 q2 Q.bs.length k2)).toArray, u, run_load_op rfl s10 hr, rfl, Below.refl _ _⟩⟩
  ·have s5 : ρ (.tmp 5) = .slice p3 np k3 := (hρ 5 (by kernel_rfl)).trans rfl
   exact .inl ⟨rfl, .inl ⟨_, u, rfl, s5, Below.refl _ _⟩⟩
  ·have s5 : ρ (.tmp 5) = .slice p3 np k3 := (hρ 5 (by kernel_rfl)).trans rfl
   exact .inl ⟨rfl, .inl ⟨_, u, rfl, s5, Below.refl _ _⟩⟩
  ·have h8 : ρ (.tmp 35) = .slice p3 np k3 := hd ⟨8, .data⟩ (by simp) rfl 35 rfl
   exact .inl ⟨rfl, .inl ⟨.int .i64 (np : Int), u, run_lenz Tryz.underlying41 rfl h8, rfl, Below.refl _ _⟩⟩
  ·have h9 : ρ (.tmp 36) = .int .i64 (np : Int) := hd ⟨9, .data⟩ (by simp) rfl 36 rfl
   have hmk := run_make_st (P := Tryz.prog) 26 4 (.bool false) 1 1 Tryz.underlying26 (by kernel_rfl) .i64 .i64 np (by have := HN.out; omega) (by have := HN.out; omega) u
   exact .inl ⟨rfl, .inl ⟨_, _, run_mk_y rfl h9 h9 hmk, ⟨_, rfl, rdB_new u np (by have := HN.out; omega)⟩, (Below.refl _ _).alloc (Nat.le_refl _) _⟩⟩
  ·have s5 : ρ (.tmp 5) = .slice p3 np k3 := (hρ 5 (by kernel_rfl)).trans rfl
   exact .inl ⟨rfl, .inl ⟨_, u, rfl, s5, Below.refl _ _⟩⟩
  ·have h11 : ρ (.tmp 38) = .slice p3 np k3 := hd ⟨11, .data⟩ (by simp) rfl 38 rfl
   exact .inl ⟨rfl, .inl ⟨.int .i64 (np : Int), u, run_lenz Tryz.underlying41 rfl h11, rfl, Below.refl _ _⟩⟩
  ·have h9 : ρ (.tmp 39) = .int .i64 (np : Int) := hd ⟨12, .data⟩ (by simp) rfl 39 rfl
   have hmk := run_make_st (P := Tryz.prog) 59 89 (.agg rzc) 6 80 Tryz.underlying59 (by kernel_rfl) .i64 .i64 np (by have := HN.out; omega) (by have := HN.out; omega) u
   exact .inl ⟨rfl, .inl ⟨_, _, run_mk_y rfl h9 h9 hmk, ⟨_, rfl, rdR_new u np (by have := HN.out; omega)⟩, (Below.refl _ _).alloc (Nat.le_refl _) _⟩⟩
  ·have e2 : ρ (.tmp 29) = .int .i64 X.nx := hd ⟨2, .data⟩ (by simp) rfl 29 rfl
   have e3 : ρ (.tmp 30) = .int .i64 so := hd ⟨3, .data⟩ (by simp) rfl 30 rfl
   have e4 : ρ (.tmp 31) = .int .i64 ta := hd ⟨4, .data⟩ (by simp) rfl 31 rfl
   have e5 : ρ (.tmp 32) = .int .i64 un := hd ⟨5, .data⟩ (by simp) rfl 32 rfl
   have e6 : ρ (.tmp 33) = .agg (qL Q q1 Q.ws.length k1 q2 Q.bs.length k2).toArray := hd ⟨6, .data⟩ (by simp) rfl 33 rfl
   have e7 : ρ (.tmp 34) = .slice p3 np k3 := hd ⟨7, .data⟩ (by simp) rfl 34 rfl
   obtain ⟨h1, e10, r1⟩ : ∃ h1, ρ (.tmp 37) = .slice (some ⟨h1, 0, none⟩) np np /\ Rd u 0 (boolsT (List.replicate np false)) (.slice (some ⟨h1, 0, none⟩) np np) := hd ⟨10, .data⟩ (by simp) rfl 37 rfl
   obtain ⟨h2, e13, r2⟩ : ∃ h2, ρ (.tmp 40) = .slice (some ⟨h2, 0, none⟩) np np /\ Rd u 0 (.list 6 np (fun _ => trs (aT rz))) (.slice (some ⟨h2, 0, none⟩) np np) := hd ⟨13, .data⟩ (by simp) rfl 40 rfl
   exact .inl ⟨rfl, .inl ⟨.agg (dL (nwD X so ta un Q np g) q1 Q.ws.length k1 q2 Q.bs.length k2 p3 np k3 (some ⟨h1, 0, none⟩) np np (some ⟨h2, 0, none⟩) np np).toArray, u, run_bldz rfl (qs := #[(0, .int .i64 X.nx), (1, .int .i64 so), (2, .int .i64 ta), (3, .int .i64 un), (4, .agg (qL Q q1 Q.ws.length k1 q2 Q.bs.length k2).toArray), (5, .slice p3 np k3), (6, .slice (some ⟨h1, 0, none⟩) np np), (7, .slice (some ⟨h2, 0, none⟩) np np)]) (by simp [e2, e3, e4, e5, e6, e7, e10, e13]) (by kernel_rfl), ⟨h1, h2, rfl, r1, r2⟩, Below.refl _ _⟩⟩
  obtain ⟨h1, h2, e14, r1, r2⟩ : ∃ h1 h2, ρ (.tmp 41) = .agg (dL (nwD X so ta un Q np g) q1 Q.ws.length k1 q2 Q.bs.length k2 p3 np k3 (some ⟨h1, 0, none⟩) np np (some ⟨h2, 0, none⟩) np np).toArray /\ Rd u 0 (boolsT (List.replicate np false)) (.slice (some ⟨h1, 0, none⟩) np np) /\ Rd u 0 (.list 6 np (fun _ => trs (aT rz))) (.slice (some ⟨h2, 0, none⟩) np np) := hd ⟨14, .data⟩ (by simp) rfl 41 rfl
  refine .inl ⟨rfl, .inr ⟨_, _, run_call_op rfl (hf _) (args := #[.agg (dL (nwD X so ta un Q np g) q1 Q.ws.length k1 q2 Q.bs.length k2 p3 np k3 (some ⟨h1, 0, none⟩) np np (some ⟨h2, 0, none⟩) np np).toArray]) (by simp [e14]) (by kernel_rfl), ?_⟩⟩
  have hlr : (List.replicate np false).length = np := by simp
  refine (copyPend_h (nwD X so ta un Q np g) q1 _ k1 q2 _ k2 p3 _ k3 (some ⟨h1, 0, none⟩) np np (some ⟨h2, 0, none⟩) np np _ (HK.out.2.2.1.below hR) (HK.out.2.2.2.1.below hR) (HK.out.2.2.2.2.1.below hR) r1 r2 HD.out).mono ?_
  rintro e u' ⟨b1, d1, b2, d2, b3, d3, b4, d4, b5, d5, he, o1, b'⟩
  exact ⟨_, he, ⟨b1, d1, b2, d2, b3, d3, b4, d4, b5, d5, rfl, u'.heap.size, Nat.le_refl _, Nat.le_trans hR.size b'.size, o1.mono hR.size (Nat.le_refl _)⟩, b'⟩
 ·intro u o ρ hR ho hρ hc hf hv
  simp only [List.getElem?_toArray, List.getElem?_cons_zero, List.getElem?_cons_succ, Option.some.injEq] at ho
  subst ho
  have h0 : ρ (.tmp 27) = .map (some M) := hv 0 27 (by decide) rfl
  have h1 : ρ (.tmp 28) = .int .i64 X.nx := hv 1 28 (by decide) rfl
  obtain ⟨b1, d1, b2, d2, b3, d3, b4, d4, b5, d5, h4, hi, o1, o2, o3⟩ : ∃ b1 d1 b2 d2 b3 d3 b4 d4 b5 d5, ρ (.tmp 42) = .agg (dL (nwD X so ta un Q np g) b1 Q.ws.length d1 b2 Q.bs.length d2 b3 np d3 b4 np d4 b5 np d5).toArray /\ ∃ hi, hi <= u.heap.size /\ wr.heap.size <= hi /\ Own1 u wr.heap.size hi (dT (nwD X so ta un Q np g)) (dL (nwD X so ta un Q np g) b1 Q.ws.length d1 b2 Q.bs.length d2 b3 np d3 b4 np d4 b5 np d5) := hv 15 42 (by decide) rfl
  have hm9 : MapD wr (B + 3) M X.m (fun j => if j = X.m then (nwD X so ta un Q np g) else X.f j) V := HK.out.1.congrF (fun j hj => by simp [show j ≠ X.m by omega])
  obtain ⟨w', hrun, hM, hg⟩ := hm9.put (vs := (dL (nwD X so ta un Q np g) b1 Q.ws.length d1 b2 Q.bs.length d2 b3 np d3 b4 np d4 b5 np d5)) hR Tryz.underlying71 Tryz.underlying3 rfl HX.out (by simpa using o3) o1 o2
  have hrun' : (Instr.mapUpdate 71 (.map (some M)) (.int .i64 X.nx) (.agg (dL (nwD X so ta un Q np g) b1 Q.ws.length d1 b2 Q.bs.length d2 b3 np d3 b4 np d4 b5 np d5).toArray)).run Tryz.prog u = .ok () w' := by simpa [nwD] using hrun
  exact ⟨rfl, .inr (.inr ⟨rfl, w', run_mu_x rfl h0 h1 h4 hrun', _, hM, (grown_below hR (some M)).trans hg⟩)⟩
 ·intro u i o ρ hi ho hE hρ hc hf
  have hi2 : i + 1 < 17 := by
   have := (Array.getElem?_eq_some_iff.1 ho).1
   simpa using this
  omega
 intro vs σ u hE hvs
 obtain ⟨V', m9, g9⟩ := hE
 have b9 : Below w.heap.size w u := HK.out.2.2.2.2.2.1.grown g9 HK.out.2.2.2.2.2.1.size (fun j hj => by obtain rfl := Option.some.inj hj; have := HK.out.1.2.1; have := HR.out.2.2.2.2.2.2.2; omega)
 have hMB : ∀ b t cs, Blk wr b t cs -> Blk u b t cs := fun b t cs h => by
  have hlt9 := h.lt
  have hne : M ≠ b := fun q => by have h8 := HK.out.1.1; unfold MapI at h8; unfold Blk at h; rw [q, h] at h8; cases h8
  unfold Blk at h ⊢
  rw [g9.block b hlt9 (fun q => hne (Option.some.inj q).symm)]
  exact h
 have H5 : Hid (MapD u (B + 3) M (X.m + 1) (fun j => if j = X.m then (nwD X so ta un Q np g) else X.f j) V' /\ Below w.heap.size w u /\ Blk u B 35 (tL X a X.m c).toArray /\ Blk u (B + 2) 35 tz) := ⟨m9, b9, hMB _ _ _ HK.out.2.2.2.2.2.2.1, hMB _ _ _ HK.out.2.2.2.2.2.2.2⟩
 simp only [putsL]
 clear hvs m9 g9 b9 hMB HK HX HD
 try go_simp
 go_wp2_with fail
 refine (table_m sortD_holds (X.nx + 1) (B + 3) M (X.m + 1) (fun j => if j = X.m then (nwD X so ta un Q np g) else X.f j) V' _ H5.out.1 HY.out (by have := HI.out.2.2.1; omega)).mono ?_
 rintro e w6 ⟨R, rfl, o6, b6⟩
 obtain ⟨W6, hW6⟩ : ∃ W6, W6 = w6.alloc (.cells (tL (nwT X (nwD X so ta un Q np g)) (some ⟨R, 0, none⟩) (X.m + 1) (X.m + 1)).toArray 35) := ⟨_, rfl⟩
 obtain ⟨G, hG⟩ : ∃ G, G = w6.heap.size := ⟨_, rfl⟩
 have b7 : Below w6.heap.size w6 W6 := by rw [hW6]; exact bel_alloc _ _
 have H6 : Hid (OwnS W6 (B + 3) (.list 13 (X.m + 1) (fun i => trs (dT ((fun j => if j = X.m then (nwD X so ta un Q np g) else X.f j) i)))) (.slice (some ⟨R, 0, none⟩) (X.m + 1) (X.m + 1)) /\ Below w.heap.size w W6 /\ Blk W6 B 35 (tL X a X.m c).toArray /\ Blk W6 (B + 2) 35 tz /\ Blk W6 G 35 (tL (nwT X (nwD X so ta un Q np g)) (some ⟨R, 0, none⟩) (X.m + 1) (X.m + 1)).toArray /\ B + 2 < G) := ⟨o6.below b7, bel_nx (bel_nx H5.out.2.1 b6) b7, (H5.out.2.2.1.below b6).below b7, (H5.out.2.2.2.below b6).below b7, by rw [hW6, hG]; exact Blk.new _ _ _, by rw [hG]; exact (H5.out.2.2.2.below b6).lt⟩
 go_upto_region 6 with fail
 rw [<- hG]
 have hW6' : W6 = w6.alloc (.cells #[.int .i64 (X.nx + 1), .slice (some ⟨R, 0, none⟩) (X.m + 1) (X.m + 1)] 35) := hW6
 rw [<- hW6']
 clear hW6'
 clear hW6 hG o6 b6 b7 H5
 obtain ⟨⟨y0, y1⟩, yf⟩ := H6.out.2.2.2.2.1.tc2
 clear yf
 go_wp2_with fail
 refine (implTableOk_any (nwT X (nwD X so ta un Q np g)) (some ⟨R, 0, none⟩) (X.m + 1) _ ⟨H6.out.1.rd0S, bdT_nw HR.out.2.2.2.2.2.1 HR.out.2.2.2.2.2.2.1 HI.out.2.2.1⟩).mono ?_
 rintro e w7 ⟨rfl, b8⟩
 rw [okO_nw HO.out.1.symm rfl, <- HO.out.2.1]
 have H7 : Hid (OwnS w7 (B + 3) (.list 13 (X.m + 1) (fun i => trs (dT ((fun j => if j = X.m then (nwD X so ta un Q np g) else X.f j) i)))) (.slice (some ⟨R, 0, none⟩) (X.m + 1) (X.m + 1)) /\ Below w.heap.size w w7 /\ Blk w7 B 35 (tL X a X.m c).toArray /\ Blk w7 (B + 2) 35 tz /\ Blk w7 G 35 (tL (nwT X (nwD X so ta un Q np g)) (some ⟨R, 0, none⟩) (X.m + 1) (X.m + 1)).toArray) := ⟨H6.out.1.below b8, bel_nx H6.out.2.1 b8, H6.out.2.2.1.below b8, H6.out.2.2.2.1.below b8, H6.out.2.2.2.2.1.below b8⟩
 clear b8 y0 y1 H6
 cases ok2
 case false =>
  obtain ⟨⟨y0, y1⟩, yf⟩ := H7.out.2.2.1.tc2
  clear yf
  go_wp2_with fail
  refine (copyTable_m X a X.m c _ (HR.out.1.below H7.out.2.1) HR.out.2.2.2.2.1).mono ?_
  rintro e w2 ⟨b9, d9, rfl, o9, bb⟩
  clear y0 y1
  have kR := H7.out.2.2.2.1.below bb
  obtain ⟨W9, hW9⟩ : ∃ W9, W9 = setL w2 (B + 2) 0 (tL X b9 X.m d9) := ⟨_, rfl⟩
  have gs : w2.grownBy W9 (some (B + 2)) := by rw [hW9]; exact setL_gw _ _ _
  have H9 : Hid (Own1 W9 w.heap.size W9.heap.size (tT X) (tL X b9 X.m d9) /\ Below w.heap.size w W9 /\ Blk W9 (B + 2) 35 (tL X b9 X.m d9).toArray) := ⟨(o9.kept gs H7.out.2.2.2.1.lt (Nat.le_refl _)).mono H7.out.2.1.size gs.size, by rw [hW9]; exact setL_below (by have := HR.out.2.2.2.2.2.2.2; omega) _ _ _ (bel_nx H7.out.2.1 bb), by rw [hW9]; exact Blk.wr kR (by simp [wrA])⟩
  obtain ⟨⟨x0, x1⟩, xf⟩ := kR.tc2
  have xf0 := xf 0
  have xf1 := xf 1
  have hV : W9 = ((w2.setCell ⟨B + 2, 0, none⟩ (.int .i64 X.nx)).setCell ⟨B + 2, 1, none⟩ (.slice b9 X.m d9)) := hW9
  clear hW9 gs kR xf o9 bb
  go_wp2
  rw [<- hV]
  refine bodyPost_ret (v := .tuple #[.agg (tL X b9 X.m d9).toArray, .int .i64 0, .bool false]) (results_cell2 Tryz.results11 rfl rfl rfl (run_loadVar_mid _ _ _ 35 (tL X b9 X.m d9) _ H9.out.2.2.all Tryz.underlying35 rfl (by kernel_rfl))) rfl ⟨b9, d9, rfl, H9.out.1, H9.out.2.1⟩
 obtain ⟨⟨y0, y1⟩, yf⟩ := H7.out.2.2.2.2.tc2
 clear yf
 have kR := H7.out.2.2.2.1
 obtain ⟨W9, hW9⟩ : ∃ W9, W9 = setL w7 (B + 2) 0 (tL (nwT X (nwD X so ta un Q np g)) (some ⟨R, 0, none⟩) (X.m + 1) (X.m + 1)) := ⟨_, rfl⟩
 have gs : w7.grownBy W9 (some (B + 2)) := by rw [hW9]; exact setL_gw _ _ _
 have H9 : Hid (Own1 W9 w.heap.size W9.heap.size (tT (nwT X (nwD X so ta un Q np g))) (tL (nwT X (nwD X so ta un Q np g)) (some ⟨R, 0, none⟩) (X.m + 1) (X.m + 1)) /\ Below w.heap.size w W9 /\ Blk W9 (B + 2) 35 (tL (nwT X (nwD X so ta un Q np g)) (some ⟨R, 0, none⟩) (X.m + 1) (X.m + 1)).toArray) := ⟨((Own1.one (H7.out.1.keptS gs (by omega))).leaf (.int .i64 (X.nx + 1)) (by have := H7.out.2.2.2.1.lt; have := gs.size; omega)).mono (by have := HR.out.2.2.2.2.2.2.2; omega) (Nat.le_refl _), by rw [hW9]; exact setL_below (by have := HR.out.2.2.2.2.2.2.2; omega) _ _ _ H7.out.2.1, by rw [hW9]; exact Blk.wr kR (by simp [wrA])⟩
 obtain ⟨⟨x0, x1⟩, xf⟩ := kR.tc2
 have xf0 := xf 0
 have xf1 := xf 1
 have hV : W9 = ((w7.setCell ⟨B + 2, 0, none⟩ (.int .i64 (nwT X (nwD X so ta un Q np g)).nx)).setCell ⟨B + 2, 1, none⟩ (.slice (some ⟨R, 0, none⟩) (X.m + 1) (X.m + 1))) := hW9
 clear hW9 gs kR xf
 go_wp2
 rw [<- hV]
 refine bodyPost_ret (v := .tuple #[.agg (tL (nwT X (nwD X so ta un Q np g)) (some ⟨R, 0, none⟩) (X.m + 1) (X.m + 1)).toArray, .int .i64 X.nx, .bool true]) (results_cell2 Tryz.results11 rfl rfl rfl (run_loadVar_mid _ _ _ 35 (tL (nwT X (nwD X so ta un Q np g)) (some ⟨R, 0, none⟩) (X.m + 1) (X.m + 1)) _ H9.out.2.2.all Tryz.underlying35 rfl (by kernel_rfl))) rfl ⟨(some ⟨R, 0, none⟩), (X.m + 1), rfl, H9.out.1, H9.out.2.1⟩
end Go.Proofs.YtlhjiiifmfgnoaaGreat
namespace Go.Proofs.YtlhjiiifmfgnoaaGreat
open Go.RowKit
theorem wpAny_tb {P : Program} {ops : Array Oper} {Q : Exit -> Act -> World -> Prop} {md : Region.Mode} {a0 : Act} {w0 : World} (N A dA : Nat) (Rb : World -> Prop) (Bx : Nat -> World -> Prop) (E : Nat -> (Nat -> Value) -> World -> Prop) (Φ : Nat -> Value -> Option Nat -> World -> Prop)
 (hordB : ordB md ops = true) (hB : dstC ops a0.tmps.size = true) (hN : N < ops.size) (hL : tailB md ops N = true) (hA : A < N) (hdA : dstOf ops A = some dA)
 (hRb : ∀ u u', Rb u -> Below u.heap.size u u' -> Rb u') (hBx : ∀ b u u', Bx b u -> Below u.heap.size u u' -> Bx b u') (hmono : ∀ i v ob u u', Φ i v ob u -> Below u.heap.size u u' -> Φ i v ob u') (hnew : ∀ i v u u' b, Φ i v none u -> u.heap.size <= b -> Below u.heap.size u u' -> Φ i v (some b) u') (h0 : Rb w0)
 (hend : ∀ (vs : Nat -> Value) (σ : Nat -> Value) u, E (ops.size - 1) σ u -> (∀ i d, dstOf ops i = some d -> vs i = σ d) -> Q .normal (putsL a0 0 ops.toList vs) u)
 (hbox : ∀ u o (ρ : Operand -> Value), Rb u -> ops[A]? = some o -> wantV ops o ρ = true /\ ∃ u', (execOp ρ o).run P u = .ok (.value (.pointer (some ⟨u.heap.size, 0, none⟩))) u' /\ Bx u.heap.size u' /\ u.heap.size < u'.heap.size /\ Below u.heap.size u u')
 (hstep : ∀ u i o (ρ : Operand -> Value) ob, i < N -> i ≠ A -> Rb u -> (∀ b, ob = some b -> b < u.heap.size) -> ops[i]? = some o -> (∀ s, noDst ops N s = true -> ρ (.tmp s) = a0.eval (.tmp s)) -> (∀ v, ρ (.const v) = v) -> (∀ f, ρ (.func f) = .func (.func f) #[] #[]) ->
  (∀ e ∈ o.after, Region.binds md e = true -> e.on ≠ A -> ∀ d, dstOf ops e.on = some d -> Φ e.on (ρ (.tmp d)) ob u) -> StpB P ops (fun i v u => Φ i v ob u) i o ρ u)
 (hfirst : ∀ u o (ρ : Operand -> Value) b, Rb u -> ops[N]? = some o -> (∀ s, noDst ops N s = true -> ρ (.tmp s) = a0.eval (.tmp s)) -> (∀ v, ρ (.const v) = v) -> (∀ f, ρ (.func f) = .func (.func f) #[] #[]) -> ρ (.tmp dA) = .pointer (some ⟨b, 0, none⟩) -> Bx b u ->
  (∀ j d, j < N -> j ≠ A -> dstOf ops j = some d -> Φ j (ρ (.tmp d)) (some b) u) -> StpT P ops (E N) o ρ u)
 (htail : ∀ u i o (ρ : Operand -> Value), N <= i -> ops[i + 1]? = some o -> E i (fun s => ρ (.tmp s)) u -> (∀ s, isDst ops s = false -> ρ (.tmp s) = a0.eval (.tmp s)) -> (∀ v, ρ (.const v) = v) -> (∀ f, ρ (.func f) = .func (.func f) #[] #[]) -> StpT P ops (E (i + 1)) o ρ u)
 (fuel : Nat) (l : Array Bool) (hs : l.size = ops.size) (hc : l.toList.count false <= fuel) (hl : ∀ i, l.getD i false = false) : wpAny P md ops Q fuel l a0 w0 := by
 obtain ⟨hds, hre⟩ : (∀ i, i < N -> (dstOf ops i).isSome = true) /\ ∀ i, N <= i -> i < ops.size -> ∀ j, j < i -> reachB md ops ops.size i j = true := by
  unfold tailB at hL
  simp only [Bool.and_eq_true, List.all_eq_true, List.mem_range, Bool.or_eq_true, decide_eq_true_eq] at hL
  exact ⟨hL.1, fun i h1 h2 j hj => (hL.2 i h2).elim (fun h => absurd h (by omega)) (fun h => h j hj)⟩
 refine wpAny_valy (fun l σ u => (∀ i, N <= i -> i < ops.size -> l i = true -> (i + 1 = ops.size \/ l (i + 1) = false) -> E i σ u) /\ (l N = false -> Rb u /\ (∀ s, noDst ops N s = true -> σ s = a0.eval (.tmp s)) /\ ∃ ob : Option Nat, (∀ b, ob = some b -> b < u.heap.size /\ Bx b u /\ σ dA = .pointer (some ⟨b, 0, none⟩)) /\ (l A = true -> ob ≠ none) /\ (l A = false -> ob = none) /\ ∀ j d, j < N -> j ≠ A -> dstOf ops j = some d -> l j = true -> Φ j (σ d) ob u)) (fun _ _ => True) (fun _ _ _ => True) hordB hB (fun _ _ _ _ h _ => h) (fun _ => trivial) ⟨fun _ _ _ h _ => (by cases h), fun _ => ⟨h0, fun _ _ => rfl, none, fun _ h => (by cases h), fun h => (by cases h), fun _ => rfl, fun _ _ _ _ _ h => (by cases h)⟩⟩ (fun vs σ u hR hvs _ => hend vs σ u (hR.1 (ops.size - 1) (by omega) (by omega) (by simp; omega) (.inl (by omega))) hvs) ?_ fuel l hs hc hl
 intro u i o ρ l hR ho hli hcl hρ hcn hf hdep hv
 have hi : i < ops.size := (Array.getElem?_eq_some_iff.1 ho).1
 by_cases e : i < N
 ·have hlt : ∀ t, N <= t -> t < ops.size -> l t = false := by
   intro t h1 h2
   cases h9 : l t with
   | false => rfl
   | true => have := reachB_l hcl _ t i (hre t h1 h2 i (by omega)) h9; rw [hli] at this; cases this
  obtain ⟨hb, hσ, ob, hob, hob1, hob2, hΦ⟩ := hR.2 (hlt N (Nat.le_refl _) hN)
  have hup : ∀ t, N <= t -> updB l i t = l t := fun t h1 => by unfold updB; rw [if_neg (by omega)]
  obtain ⟨d, hd⟩ := Option.isSome_iff_exists.1 (hds i e)
  have hod : o.dst = some d := by simpa [dstOf, ho] using hd
  have hnd : ∀ v s, noDst ops N s = true -> updS (fun s => ρ (.tmp s)) o.dst v s = a0.eval (.tmp s) := by
   intro v s hs9
   have hne : s ≠ d := by
    rintro rfl
    unfold noDst at hs9
    rw [List.all_eq_true] at hs9
    have := hs9 i (List.mem_range.2 e)
    rw [hd] at this
    simp at this
   rw [hod]
   show (if s = d then v else ρ (.tmp s)) = _
   rw [if_neg hne]
   exact hσ s hs9
  have hone : ∀ j d', j ≠ i -> dstOf ops j = some d' -> ∀ v, updS (fun s => ρ (.tmp s)) o.dst v d' = ρ (.tmp d') := by
   intro j d' ej hj v
   have hne : d' ≠ d := fun q => ej ((dstC_of hB hi hd).2 j (dstOf_lt hj) (by rw [<- q]; exact hj))
   rw [hod]
   show (if d' = d then v else ρ (.tmp d')) = _
   rw [if_neg hne]
  have hself : ∀ v, updS (fun s => ρ (.tmp s)) o.dst v d = v := fun v => by
   rw [hod]; show (if d = d then v else _) = v; rw [if_pos rfl]
  have hold : ∀ j, j ≠ i -> updB l i j = l j := fun j hj => by unfold updB; rw [if_neg hj]
  have htl : ∀ (σ : Nat -> Value) (u' : World), ∀ t, N <= t -> t < ops.size -> updB l i t = true -> (t + 1 = ops.size \/ updB l i (t + 1) = false) -> E t σ u' := fun σ u' t q1 q2 q3 _ => (by rw [hup t q1, hlt t q1 q2] at q3; cases q3)
  by_cases eA : i = A
  ·subst eA
   rw [hdA] at hd
   cases hd
   have hn : ob = none := hob2 hli
   subst hn
   obtain ⟨hw, u', hrun, hbx, hsz, hbl⟩ := hbox u o ρ hb ho
   refine .inl ⟨hw, .inl ⟨_, u', hrun, trivial, ⟨htl _ _, fun _ => ⟨hRb u u' hb hbl, hnd _, some u.heap.size, fun b hb9 => ?_, fun _ q => (by cases q), fun q => ?_, fun j d' hjN hjA hj hl' => ?_⟩⟩, trivial⟩⟩
   ·obtain rfl := Option.some.inj hb9
    exact ⟨hsz, hbx, hself _⟩
   ·have : updB l i i = true := by unfold updB; rw [if_pos rfl]
    rw [this] at q; cases q
   rw [hold j hjA] at hl'
   rw [hone j d' hjA hj]
   exact hnew _ _ _ _ _ (hΦ j d' hjN hjA hj hl') (Nat.le_refl _) hbl
  have key : ∀ v u', Φ i v ob u' -> Below u.heap.size u u' -> (∀ t, N <= t -> t < ops.size -> updB l i t = true -> (t + 1 = ops.size \/ updB l i (t + 1) = false) -> E t (updS (fun s => ρ (.tmp s)) o.dst v) u') /\ (updB l i N = false -> Rb u' /\ (∀ s, noDst ops N s = true -> updS (fun s => ρ (.tmp s)) o.dst v s = a0.eval (.tmp s)) /\ ∃ ob : Option Nat, (∀ b, ob = some b -> b < u'.heap.size /\ Bx b u' /\ updS (fun s => ρ (.tmp s)) o.dst v dA = .pointer (some ⟨b, 0, none⟩)) /\ (updB l i A = true -> ob ≠ none) /\ (updB l i A = false -> ob = none) /\ ∀ j d, j < N -> j ≠ A -> dstOf ops j = some d -> updB l i j = true -> Φ j (updS (fun s => ρ (.tmp s)) o.dst v d) ob u') := by
   intro v u' h1 h2
   refine ⟨htl _ _, fun _ => ⟨hRb u u' hb h2, hnd v, ob, fun b hb9 => ?_, by rw [hold A (fun q => eA q.symm)]; exact hob1, by rw [hold A (fun q => eA q.symm)]; exact hob2, fun j d' hjN hjA hj hl' => ?_⟩⟩
   ·obtain ⟨q1, q2, q3⟩ := hob b hb9
    exact ⟨Nat.lt_of_lt_of_le q1 h2.size, hBx b u u' q2 h2, by rw [hone A dA (fun q => eA q.symm) hdA]; exact q3⟩
   by_cases ej : j = i
   ·subst ej
    rw [hd] at hj
    cases hj
    rw [hself]
    exact h1
   rw [hold j ej] at hl'
   rw [hone j d' ej hj]
   exact hmono _ _ _ _ _ (hΦ j d' hjN hjA hj hl') h2
  rcases hstep u i o ρ ob e eA hb (fun b hb9 => (hob b hb9).1) ho hσ hcn hf (fun e9 he hbd hA9 d9 hd9 => by
   have hl9 := hdep e9 he hbd
   by_cases q : e9.on < N
   ·exact hΦ e9.on d9 q hA9 hd9 hl9
   rw [hlt e9.on (by omega) (dstOf_lt hd9)] at hl9; cases hl9) with ⟨hw, h9⟩ | ⟨hw, h9⟩
  ·refine .inl ⟨hw, ?_⟩
   rcases h9 with ⟨v, u', hr, h1, h2⟩ | ⟨f, args, hr, hcall⟩
   ·exact .inl ⟨v, u', hr, trivial, key v u' h1 h2, trivial⟩
   refine .inr (.inl ⟨f, args, hr, hcall.mono ?_⟩)
   rintro e9 u' ⟨v, he, h1, h2⟩
   exact ⟨v, he, trivial, key v u' h1 h2, trivial⟩
  exact .inr ⟨hw, trivial, key undef u h9 (Below.refl _ _)⟩
 have hbef : ∀ j, j < i -> l j = true := fun j hj => reachB_d hcl ho hdep (by omega) (hre i (by omega) hi j hj)
 have haft : ∀ t, i < t -> t < ops.size -> l t = false := by
  intro t h1 h2
  cases h9 : l t with
  | false => rfl
  | true => have := reachB_l hcl _ t i (hre t (by omega) h2 i h1) h9; rw [hli] at this; cases this
 have hst : StpT P ops (E i) o ρ u := by
  by_cases eN : i = N
  ·subst eN
   obtain ⟨hb, hσ, ob, hob, hob1, hob2, hΦ⟩ := hR.2 hli
   cases ob with
   | none => exact absurd rfl (hob1 (hbef A hA))
   | some b =>
    obtain ⟨q1, q2, q3⟩ := hob b rfl
    exact hfirst u o ρ b hb ho hσ hcn hf q3 q2 (fun j d hj hjA hd => hΦ j d hj hjA hd (hbef j hj))
  obtain ⟨i', rfl⟩ : ∃ i', i = i' + 1 := ⟨i - 1, by omega⟩
  exact htail u i' o ρ (by omega) ho (hR.1 i' (by omega) (by omega) (hbef i' (by omega)) (.inr hli)) hρ hcn hf
 have key : ∀ σ u', E i σ u' -> (∀ t, N <= t -> t < ops.size -> updB l i t = true -> (t + 1 = ops.size \/ updB l i (t + 1) = false) -> E t σ u') /\ (updB l i N = false -> False) := by
  intro σ u' hE
  have hii : updB l i i = true := by unfold updB; rw [if_pos rfl]
  have hup : ∀ t, t ≠ i -> updB l i t = l t := fun t h1 => by unfold updB; rw [if_neg h1]
  refine ⟨fun t q1 q2 q3 q4 => ?_, fun q => ?_⟩
  ·rcases Nat.lt_trichotomy t i with q | q | q
   ·rcases q4 with q4 | q4
    ·omega
    by_cases q5 : t + 1 = i
    ·rw [q5, hii] at q4; cases q4
    rw [hup _ q5, hbef (t + 1) (by omega)] at q4; cases q4
   ·subst q; exact hE
   rw [hup t (by omega), haft t q q2] at q3; cases q3
  by_cases eN : N = i
  ·rw [eN, hii] at q; cases q
  rw [hup N eN, hbef N (by omega)] at q; cases q
 obtain ⟨hw, h9⟩ := hst
 refine .inl ⟨hw, ?_⟩
 rcases h9 with ⟨v, u', hr, hE⟩ | ⟨f, args, hr, hcall⟩ | ⟨hd, u', hr, hE⟩
 ·exact .inl ⟨v, u', hr, trivial, ⟨(key _ u' hE).1, fun q => ((key _ u' hE).2 q).elim⟩, trivial⟩
 ·refine .inr (.inl ⟨f, args, hr, hcall.mono ?_⟩)
  rintro e9 u' ⟨v, he, hE⟩
  exact ⟨v, he, trivial, ⟨(key _ u' hE).1, fun q => ((key _ u' hE).2 q).elim⟩, trivial⟩
 refine .inr (.inr ⟨hd, u', hr, ?_, trivial⟩)
 rw [hd]
 exact ⟨(key _ u' hE).1, fun q => ((key _ u' hE).2 q).elim⟩
end Go.Proofs.YtlhjiiifmfgnoaaGreat

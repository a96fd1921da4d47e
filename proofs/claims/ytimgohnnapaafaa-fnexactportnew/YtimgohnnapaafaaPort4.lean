/- Ports of the program: right ones; new ones. -/
import Derived.Test.YtimgohnnapaafaaPort2
import Derived.Test.YtimgohnnapaafaaPort3
namespace Go.Proofs.Ytimgohnnapaafaa
open Go.RowKit

set_option linter.unusedVariables false

set_option linter.unusedSimpArgs false

set_option maxHeartbeats 2000000 in
theorem streamRight_any (er : Int) (a : Option Addr) (l c : Nat) (sh : Bool) (zs : List Int) (w : World) (hn : l = zs.length) (hlc : l ≤ c) (hs : Sl w a zs) (hr : ∀ z ∈ zs, 0 ≤ z ∧ z ≤ 255) (hl : l ≤ 2000000) (b b2 : Bool) (hb : ctd er = b) (hb2 : okSt zs sh = b2) :
    Calls Try.prog 107 #[.agg #[.int .i64 er, .slice a l c, .bool sh]] w fun e w' => e = .returned (.bool (b && b2)) ∧ Below w.heap.size w w' := by
  have B0 := bel_alloc w (.cells #[.int .i64 er, .slice a l c, .bool sh] 96)
  have X0 := Blk.new w #[.int .i64 er, .slice a l c, .bool sh] 96
  have x0 := X0.cell 0 rfl
  have x1 := X0.cell 1 rfl
  have x2 := X0.cell 2 rfl
  have HN : Hid (l = zs.length) := hn
  have HS0 := hs.below B0
  clear hn hs
  go_enter Try.func107, Try.ntmps107
  go_wp2_with fail
  refine (isCounted_any er _ b hb).mono ?_
  rintro e w1 ⟨rfl, b'⟩
  have B1 := bel_next B0 b'
  have X1 := X0.below b'
  have HS1 := HS0.below b'
  clear b' B0 X0 x0 x1 x2 HS0
  have x0 := X1.cell 0 rfl
  have x1 := X1.cell 1 rfl
  have x2 := X1.cell 2 rfl
  cases b
  · go_wp2
    go_ret
    exact ⟨rfl, B1⟩
  · go_wp2_with fail
    refine (implStreamOk_any a l c sh zs _ HN.out hlc HS1 hr hl b2 hb2).mono ?_
    rintro e w2 ⟨rfl, b'⟩
    have B2 := bel_next B1 b'
    clear b' B1 X1 x0 x1 x2 HS1
    go_wp2
    go_ret
    exact ⟨by simp [Act.eval], B2⟩

/-- A port is right, by the program. -/
def okPi (P : PtV) (rl al sl : Nat) (za zb : List Int) : Bool :=
  if P.kd = 1 ∧ noA al P.op P.lt P.wt = true ∧ noS sl P.sh = true then ctd P.er && okT rl P.ls P.bd P.hf P.wh
  else if P.kd = 2 ∧ noR rl P.ls P.bd P.hf P.wh = true ∧ noS sl P.sh = true then ctd P.er && okAk za P.op P.lt P.wt
  else if P.kd = 3 ∧ noR rl P.ls P.bd P.hf P.wh = true ∧ noA al P.op P.lt P.wt = true then ctd P.er && okSt zb P.sh
  else false

theorem methR_r (v : Value) (w : World) : (method 230 92 v "loop.example/g00129/impl.isRight").run Try.prog w = .ok (89, v) w := by kernel_rfl

theorem callfR_r (v : Value) (w : World) : (callFunc 89 #[v]).run Try.prog w = .ok (.enter 89 #[v]) w := by kernel_rfl

theorem methR_a (v : Value) (w : World) : (method 230 94 v "loop.example/g00129/impl.isRight").run Try.prog w = .ok (99, v) w := by kernel_rfl

theorem callfR_a (v : Value) (w : World) : (callFunc 99 #[v]).run Try.prog w = .ok (.enter 99 #[v]) w := by kernel_rfl

theorem methR_s (v : Value) (w : World) : (method 230 96 v "loop.example/g00129/impl.isRight").run Try.prog w = .ok (107, v) w := by kernel_rfl

theorem callfR_s (v : Value) (w : World) : (callFunc 107 #[v]).run Try.prog w = .ok (.enter 107 #[v]) w := by kernel_rfl

set_option maxRecDepth 20000 in
set_option maxHeartbeats 1000000 in
theorem rightPort_some (P : PtV) (ra aa sa : Option Addr) (rl al sl rc ac sc : Nat) (w : World) (T : TypeId) (v : Value) (F : Nat) (bsm : Bool)
    (hq : ∀ u, Below w.heap.size w u → Calls Try.prog 59 #[pt P ra rl rc aa al ac sa sl sc] u fun e u' => e = .returned (.iface T v) ∧ Below u.heap.size u u')
    (hc : ∀ u, (callFunc F #[v]).run Try.prog u = .ok (.enter F #[v]) u)
    (hm : ∀ u, (method 230 T v "loop.example/g00129/impl.isRight").run Try.prog u = .ok (F, v) u)
    (hr : ∀ u, Below w.heap.size w u → Calls Try.prog F #[v] u fun e u' => e = .returned (.bool bsm) ∧ Below u.heap.size u u') :
    Calls Try.prog 50 #[pt P ra rl rc aa al ac sa sl sc] w fun e w' => e = .returned (.tuple #[.iface T v, .bool bsm]) ∧ Below w.heap.size w w' := by
  have B0 := bel_alloc w (.cells #[.int .i64 P.kd, .slice ra rl rc, .int .i64 P.ls, .bool P.bd, .int .i64 P.hf, .int .i64 P.wh, .slice aa al ac, .bool P.op, .int .i64 P.lt, .int .i64 P.wt, .slice sa sl sc, .bool P.sh, .int .i64 P.er] 30)
  have X0 := Blk.new w #[.int .i64 P.kd, .slice ra rl rc, .int .i64 P.ls, .bool P.bd, .int .i64 P.hf, .int .i64 P.wh, .slice aa al ac, .bool P.op, .int .i64 P.lt, .int .i64 P.wt, .slice sa sl sc, .bool P.sh, .int .i64 P.er] 30
  obtain ⟨x0, x1, x2, x3, x4, x5, x6, x7, x8, x9, x10, x11, x12⟩ := X0.n13
  go_enter Try.func50, Try.ntmps50
  go_wp2_with fail
  refine (hq _ B0).mono ?_
  rintro e w1 ⟨rfl, b'⟩
  have B1 := bel_next B0 b'
  clear b' B0 X0 x0 x1 x2 x3 x4 x5 x6 x7 x8 x9 x10 x11 x12 hq
  go_wp2_with fail
  refine (hr _ B1).mono ?_
  rintro e w2 ⟨rfl, b'⟩
  have B2 := bel_next B1 b'
  clear b' B1 hr
  go_wp2
  refine bodyPost_ret (v := .tuple #[.iface T v, .bool bsm]) (by simp [results, Try.results50, go_sem]) rfl ?_
  exact ⟨rfl, B2⟩

set_option maxRecDepth 20000 in
set_option maxHeartbeats 1000000 in
theorem rightPort_nil (P : PtV) (ra aa sa : Option Addr) (rl al sl rc ac sc : Nat) (w : World)
    (hq : ∀ u, Below w.heap.size w u → Calls Try.prog 59 #[pt P ra rl rc aa al ac sa sl sc] u fun e u' => e = .returned .nilIface ∧ Below u.heap.size u u') :
    Calls Try.prog 50 #[pt P ra rl rc aa al ac sa sl sc] w fun e w' => e = .returned (.tuple #[.nilIface, .bool false]) ∧ Below w.heap.size w w' := by
  have B0 := bel_alloc w (.cells #[.int .i64 P.kd, .slice ra rl rc, .int .i64 P.ls, .bool P.bd, .int .i64 P.hf, .int .i64 P.wh, .slice aa al ac, .bool P.op, .int .i64 P.lt, .int .i64 P.wt, .slice sa sl sc, .bool P.sh, .int .i64 P.er] 30)
  have X0 := Blk.new w #[.int .i64 P.kd, .slice ra rl rc, .int .i64 P.ls, .bool P.bd, .int .i64 P.hf, .int .i64 P.wh, .slice aa al ac, .bool P.op, .int .i64 P.lt, .int .i64 P.wt, .slice sa sl sc, .bool P.sh, .int .i64 P.er] 30
  obtain ⟨x0, x1, x2, x3, x4, x5, x6, x7, x8, x9, x10, x11, x12⟩ := X0.n13
  go_enter Try.func50, Try.ntmps50
  go_wp2_with fail
  refine (hq _ B0).mono ?_
  rintro e w1 ⟨rfl, b'⟩
  have B1 := bel_next B0 b'
  clear b' B0 X0 x0 x1 x2 x3 x4 x5 x6 x7 x8 x9 x10 x11 x12 hq
  go_wp2
  refine bodyPost_ret (v := .tuple #[.nilIface, .bool false]) (by simp [results, Try.results50, go_sem]) rfl ?_
  exact ⟨rfl, B1⟩

/-- Its lists, read, with what the streams want besides. -/
def PS2 (w : World) (ra aa sa : Option Addr) (rl al sl sc : Nat) (zr za zb : List Int) : Prop := PS w ra aa sa rl al sl zr za zb ∧ sl ≤ sc ∧ ∀ z ∈ zb, 0 ≤ z ∧ z ≤ 255

theorem PS2.below {w w' : World} {ra aa sa : Option Addr} {rl al sl sc : Nat} {zr za zb : List Int} (h : PS2 w ra aa sa rl al sl sc zr za zb) (b : Below w.heap.size w w') : PS2 w' ra aa sa rl al sl sc zr za zb := ⟨h.1.below b, h.2⟩

theorem rightPort_any (P : PtV) (ra aa sa : Option Addr) (rl al sl rc ac sc : Nat) (zr za zb : List Int) (w : World) (h : PS2 w ra aa sa rl al sl sc zr za zb) :
    Calls Try.prog 50 #[pt P ra rl rc aa al ac sa sl sc] w fun e w' => e = .returned (.tuple #[wiV P ra aa sa rl al sl rc ac sc (noR rl P.ls P.bd P.hf P.wh) (noA al P.op P.lt P.wt) (noS sl P.sh), .bool (okPi P rl al sl za zb)]) ∧ Below w.heap.size w w' := by
  have hl1 := h.1.1.1
  have hl2 := h.1.2.1.1
  have hl3 := h.1.2.2.1
  by_cases k1 : P.kd = 1 ∧ noA al P.op P.lt P.wt = true ∧ noS sl P.sh = true
  · have e1 : wiV P ra aa sa rl al sl rc ac sc (noR rl P.ls P.bd P.hf P.wh) (noA al P.op P.lt P.wt) (noS sl P.sh) = .iface 92 (.agg #[.int .i64 P.er, .slice ra rl rc, .int .i64 P.ls, .bool P.bd, .int .i64 P.hf, .int .i64 P.wh]) := by unfold wiV; rw [if_pos k1]
    have e2 : okPi P rl al sl za zb = (ctd P.er && okT rl P.ls P.bd P.hf P.wh) := by unfold okPi; rw [if_pos k1]
    rw [e2, e1]
    exact rightPort_some P ra aa sa rl al sl rc ac sc w _ _ _ _ (fun u _ => e1 ▸ portOf_any P ra aa sa rl al sl rc ac sc u _ _ _ rfl rfl rfl) (callfR_r _) (methR_r _) (fun u _ => rtuRight_any P.er ra rl rc P.ls P.bd P.hf P.wh u (by have := h.1.1.2.2; omega) _ _ rfl rfl)
  by_cases k2 : P.kd = 2 ∧ noR rl P.ls P.bd P.hf P.wh = true ∧ noS sl P.sh = true
  · have e1 : wiV P ra aa sa rl al sl rc ac sc (noR rl P.ls P.bd P.hf P.wh) (noA al P.op P.lt P.wt) (noS sl P.sh) = .iface 94 (.agg #[.int .i64 P.er, .slice aa al ac, .bool P.op, .int .i64 P.lt, .int .i64 P.wt]) := by unfold wiV; rw [if_neg k1, if_pos k2]
    have e2 : okPi P rl al sl za zb = (ctd P.er && okAk za P.op P.lt P.wt) := by unfold okPi; rw [if_neg k1, if_pos k2]
    rw [e2, e1]
    exact rightPort_some P ra aa sa rl al sl rc ac sc w _ _ _ _ (fun u _ => e1 ▸ portOf_any P ra aa sa rl al sl rc ac sc u _ _ _ rfl rfl rfl) (callfR_a _) (methR_a _) (fun u hu => asciiRight_any P.er aa al ac P.op P.lt P.wt za u hl2 (h.1.2.1.2.1.below hu) (by have := h.1.2.1.2.2; omega) _ _ rfl rfl)
  by_cases k3 : P.kd = 3 ∧ noR rl P.ls P.bd P.hf P.wh = true ∧ noA al P.op P.lt P.wt = true
  · have e1 : wiV P ra aa sa rl al sl rc ac sc (noR rl P.ls P.bd P.hf P.wh) (noA al P.op P.lt P.wt) (noS sl P.sh) = .iface 96 (.agg #[.int .i64 P.er, .slice sa sl sc, .bool P.sh]) := by unfold wiV; rw [if_neg k1, if_neg k2, if_pos k3]
    have e2 : okPi P rl al sl za zb = (ctd P.er && okSt zb P.sh) := by unfold okPi; rw [if_neg k1, if_neg k2, if_pos k3]
    rw [e2, e1]
    exact rightPort_some P ra aa sa rl al sl rc ac sc w _ _ _ _ (fun u _ => e1 ▸ portOf_any P ra aa sa rl al sl rc ac sc u _ _ _ rfl rfl rfl) (callfR_s _) (methR_s _) (fun u hu => streamRight_any P.er sa sl sc P.sh zb u hl3 h.2.1 (h.1.2.2.2.1.below hu) h.2.2 (by have := h.1.2.2.2.2; omega) _ _ rfl rfl)
  have e1 : wiV P ra aa sa rl al sl rc ac sc (noR rl P.ls P.bd P.hf P.wh) (noA al P.op P.lt P.wt) (noS sl P.sh) = .nilIface := by unfold wiV; rw [if_neg k1, if_neg k2, if_neg k3]
  have e2 : okPi P rl al sl za zb = false := by unfold okPi; rw [if_neg k1, if_neg k2, if_neg k3]
  rw [e2, e1]
  exact rightPort_nil P ra aa sa rl al sl rc ac sc w (fun u _ => e1 ▸ portOf_any P ra aa sa rl al sl rc ac sc u _ _ _ rfl rfl rfl)

set_option maxRecDepth 20000 in
set_option maxHeartbeats 1000000 in
theorem implPortOk_any (P : PtV) (ra aa sa : Option Addr) (rl al sl rc ac sc : Nat) (zr za zb : List Int) (w : World) (h : PS2 w ra aa sa rl al sl sc zr za zb) (b : Bool) (hb : okPi P rl al sl za zb = b) :
    Calls Try.prog 14 #[pt P ra rl rc aa al ac sa sl sc] w fun e w' => e = .returned (.bool b) ∧ Below w.heap.size w w' := by
  subst hb
  have B0 := bel_alloc w (.cells #[.int .i64 P.kd, .slice ra rl rc, .int .i64 P.ls, .bool P.bd, .int .i64 P.hf, .int .i64 P.wh, .slice aa al ac, .bool P.op, .int .i64 P.lt, .int .i64 P.wt, .slice sa sl sc, .bool P.sh, .int .i64 P.er] 30)
  have X0 := Blk.new w #[.int .i64 P.kd, .slice ra rl rc, .int .i64 P.ls, .bool P.bd, .int .i64 P.hf, .int .i64 P.wh, .slice aa al ac, .bool P.op, .int .i64 P.lt, .int .i64 P.wt, .slice sa sl sc, .bool P.sh, .int .i64 P.er] 30
  obtain ⟨x0, x1, x2, x3, x4, x5, x6, x7, x8, x9, x10, x11, x12⟩ := X0.n13
  have h0 := h.below B0
  go_enter Try.func14, Try.ntmps14
  go_wp2_with fail
  refine (rightPort_any P ra aa sa rl al sl rc ac sc zr za zb _ h0).mono ?_
  rintro e w1 ⟨rfl, b'⟩
  have B1 := bel_next B0 b'
  clear b' B0 X0 x0 x1 x2 x3 x4 x5 x6 x7 x8 x9 x10 x11 x12 h0 h
  go_wp2
  go_ret
  exact ⟨rfl, B1⟩

end Go.Proofs.Ytimgohnnapaafaa

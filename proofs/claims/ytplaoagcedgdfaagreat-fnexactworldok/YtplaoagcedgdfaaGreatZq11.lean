/- Parts of the proof. -/
import Derived.Test.YtplaoagcedgdfaaGreatZq9
import Derived.Test.YtplaoagcedgdfaaGreatZq10
import Derived.Laws.StructEq
import Derived.Test.YtplaoagcedgdfaaGreatZq1
set_option linter.unusedSectionVars false
set_option linter.unusedVariables false
set_option linter.unusedSimpArgs false
set_option maxHeartbeats 8000000
set_option maxRecDepth 20000
namespace Go.Proofs.YtplaoagcedgdfaaGreat
open Go.RowKit Go.Joins Go.Proofs.Tryz
def bO (g : Nat -> Bool) : Nat -> Bool
 | 0 => true
 | n + 1 => bO g n && g n
theorem dY {g : Nat -> Bool} : ∀ {n : Nat}, bO g n = true ↔ ∀ k, k < n -> g k = true
 | 0 => by simp [bO]
 | n + 1 => by
  simp only [bO, Bool.and_eq_true, dY (n := n)]
  constructor
  ·rintro ⟨h1, h2⟩ k hk
   by_cases e : k = n
   ·subst e; exact h2
   exact h1 k (by omega)
  intro h
  exact ⟨fun k hk => h k (by omega), h n (by omega)⟩
theorem er {g : Nat -> Bool} {n k : Nat} (hk : k < n) (h : g k = false) : bO g n = false := by
 cases e : bO g n with
 | false => rfl
 | true => rw [dY.1 e k hk] at h; cases h
theorem dO {g : Nat -> Bool} {n : Nat} (h : bO g n = true) (hk : g n = true) : bO g (n + 1) = true := by
 simp [bO, h, hk]
def fB (X Y : VS) : Bool := decide (X.po = Y.po /\ X.un = Y.un)
def tC (X : VS) : Bool := aw X.po 0 5 && aw X.un 1 247
def cU (f : Nat -> VS) (k : Nat) : Bool := tC (f k) && (gT (f k).d && bO (fun j => !fB (f j) (f k)) k)
def eB (n : Nat) (f : Nat -> VS) : Bool := decide (n <= 8) && bO (cU f) n
theorem gj (X : VS) (a1 : Option Addr) (l1 c1 : Nat) (a2 : Option Addr) (l2 c2 : Nat) (a3 : Option Addr) (l3 c3 : Nat) (a4 : Option Addr) (l4 c4 : Nat) (w : World) :
 Calls prog 185 #[.agg (cz X a1 l1 c1 a2 l2 c2 a3 l3 c3 a4 l4 c4).toArray] w fun e w' => e = .returned (.agg #[.int .i64 X.po, .int .i64 X.un]) /\ Below w.heap.size w w' := by
 obtain ⟨W, hW⟩ : ∃ W, W = (w.alloc (.cells (cz X a1 l1 c1 a2 l2 c2 a3 l3 c3 a4 l4 c4).toArray 180)).alloc (.cells #[.int .i64 0, .int .i64 0] 245) := ⟨_, rfl⟩
 have bW : Below w.heap.size w W := by rw [hW]; exact ae (ac w _) (ac _ _)
 have A0 : ag W w.heap.size 180 (cz X a1 l1 c1 a2 l2 c2 a3 l3 c3 a4 l4 c4).toArray := by rw [hW]; exact (ag.new w _ _).below (ac _ _)
 have R0 : ag W (w.heap.size + 1) 245 #[.int .i64 0, .int .i64 0] := by
  rw [hW]; have := ag.new (w.alloc (.cells (cz X a1 l1 c1 a2 l2 c2 a3 l3 c3 a4 l4 c4).toArray 180)) #[.int .i64 0, .int .i64 0] 245; simpa using this
 obtain ⟨⟨y0, y1, y2, y3, y4, y5⟩, yf⟩ := A0.tc6
 obtain ⟨⟨z0, z1⟩, zf⟩ := R0.tc2
 have z00 := zf 0
 have z01 := zf 1
 clear A0 R0 yf zf
 go_enter func185, ntmps185
 go_upto_region 1 with fail
 rw [<- hW]
 clear hW
 go_wp2
 refine bodyPost_ret (v := .agg #[.int .i64 X.po, .int .i64 X.un]) (by simp [results, results185, go_sem, z0, z1]) rfl ⟨rfl, ?_⟩
 exact (bW.setCell (p := ⟨w.heap.size + 1, 0, none⟩) (by show w.heap.size <= w.heap.size + 1; omega) _).setCell (p := ⟨w.heap.size + 1, 1, none⟩) (by show w.heap.size <= w.heap.size + 1; omega) _
theorem gU (p u : Int) (w : World) (x : Bool) (hx : (aw p 0 5 && aw u 1 247) = x) :
 Calls prog 186 #[.agg #[.int .i64 p, .int .i64 u]] w fun e w' => e = .returned (.bool x) /\ Below w.heap.size w w' := by
 obtain ⟨x0, hx0⟩ : ∃ t, aw p 0 5 = t := ⟨_, rfl⟩
 obtain ⟨x1, hx1⟩ : ∃ t, aw u 1 247 = t := ⟨_, rfl⟩
 rw [hx0, hx1] at hx
 subst hx
 obtain ⟨W, hW⟩ : ∃ W, W = w.alloc (.cells #[.int .i64 p, .int .i64 u] 245) := ⟨_, rfl⟩
 have HE : Hid (aw p 0 5 = x0 /\ aw u 1 247 = x1 /\ Below w.heap.size w W) := ⟨hx0, hx1, by rw [hW]; exact ac _ _⟩
 have A0 : ag W w.heap.size 245 #[.int .i64 p, .int .i64 u] := by rw [hW]; exact ag.new _ _ _
 obtain ⟨⟨y0, y1⟩, yf⟩ := A0.tc2
 clear hx0 hx1 yf A0
 go_enter func186, ntmps186
 go_upto_region 1 with fail
 rw [<- hW]
 clear hW
 go_wp2_with fail
 refine (cB _ _ _ HE.out.1).mono ?_
 rintro e w1 ⟨rfl, hw⟩
 have hw := hw.symm
 subst hw
 cases x0
 case false =>
  go_wp2
  go_ret
  exact ⟨rfl, HE.out.2.2⟩
 go_wp2_with fail
 refine (bX _ _ _ HE.out.2.1).mono ?_
 rintro e w1 ⟨rfl, hw⟩
 have hw := hw.symm
 subst hw
 go_wp2
 go_ret
 exact ⟨rfl, HE.out.2.2⟩
theorem nY (X : VS) (p u9 : Int) (g : Nat) (a1 : Option Addr) (l1 c1 : Nat) (a2 : Option Addr) (l2 c2 : Nat) (a3 : Option Addr) (l3 c3 : Nat) (a4 : Option Addr) (l4 c4 : Nat) (w : World) (hg : ag w g 245 #[.int .i64 p, .int .i64 u9]) (x : Bool) (hx : decide (X.po = p /\ X.un = u9) = x) :
 Calls prog 227 #[.agg (cz X a1 l1 c1 a2 l2 c2 a3 l3 c3 a4 l4 c4).toArray, .pointer (some ⟨g, 0, none⟩)] w fun e w' => e = .returned (.bool x) /\ Below w.heap.size w w' := by
 obtain ⟨W, hW⟩ : ∃ W, W = w.alloc (.cells (cz X a1 l1 c1 a2 l2 c2 a3 l3 c3 a4 l4 c4).toArray 180) := ⟨_, rfl⟩
 have bW : Below w.heap.size w W := by rw [hW]; exact ac _ _
 have A0 : ag W w.heap.size 180 (cz X a1 l1 c1 a2 l2 c2 a3 l3 c3 a4 l4 c4).toArray := by rw [hW]; exact ag.new _ _ _
 have HE : Hid (Below w.heap.size w W /\ ag W g 245 #[.int .i64 p, .int .i64 u9] /\ ag W w.heap.size 180 (cz X a1 l1 c1 a2 l2 c2 a3 l3 c3 a4 l4 c4).toArray /\ decide (X.po = p /\ X.un = u9) = x) := ⟨bW, hg.below bW, A0, hx⟩
 clear bW A0 hg hx
 go_enter func227, ntmps227
 go_upto_region 1 with fail
 rw [<- hW]
 clear hW
 refine wp_region_any (by kernel_rfl) ?_
 refine aX (fun u => Below W.heap.size W u) (fun i v u => match i with
  | 0 => v = .agg (cz X a1 l1 c1 a2 l2 c2 a3 l3 c3 a4 l4 c4).toArray
  | 1 => v = .agg #[.int .i64 X.po, .int .i64 X.un]
  | 2 => v = .agg ([.int .i64 p, .int .i64 u9]).toArray
  | 3 => v = .bool x
  | 4 => v = .bool x
  | _ => True) (by kernel_rfl) (by kernel_rfl) (fun _ _ _ _ h _ => h) (by first | exact Below.refl _ _ | exact (Below.refl _ _).drew) ?_ ?_ _ _ rfl (by decide) (fun i => by simp [Array.getD]; try (split <;> rfl))
 ·intro vs u hR hall
  have e4 : vs 4 = .bool x := hall 4 (by simp)
  simp only [bm]
  rw [e4]
  clear hall e4
  have B9 := ae HE.out.1 hR
  clear HE hR
  go_simp
  go_wp2
  go_ret
  exact ⟨rfl, B9⟩
 intro u i o ρ hR ho hρ hc hf hd
 have hi : i < 5 := by
  have := (Array.getElem?_eq_some_iff.1 ho).1
  simpa using this
 obtain rfl | rfl | rfl | rfl | rfl : i = 0 \/ i = 1 \/ i = 2 \/ i = 3 \/ i = 4 := by omega
 all_goals (simp only [List.getElem?_toArray, List.getElem?_cons_zero, List.getElem?_cons_succ, Option.some.injEq] at ho; subst ho)
 ·have s2 : ρ (.tmp 2) = .pointer (some ⟨w.heap.size, 0, none⟩) := (hρ 2 (by kernel_rfl)).trans rfl
  have hr : (Instr.loadAt 180 (.pointer (some ⟨w.heap.size, 0, none⟩))).run prog u = .ok (.agg (cz X a1 l1 c1 a2 l2 c2 a3 l3 c3 a4 l4 c4).toArray) u := run_loadAt_mid u w.heap.size (0) 180 (cz X a1 l1 c1 a2 l2 c2 a3 l3 c3 a4 l4 c4) _ (HE.out.2.2.1.below hR).rng underlying180 rfl (by kernel_rfl)
  exact yr (ai rfl s2 hr) rfl hR
 ·have h0 : ρ (.tmp 4) = .agg (cz X a1 l1 c1 a2 l2 c2 a3 l3 c3 a4 l4 c4).toArray := dq hd 0 4
  refine .inl ⟨rfl, .inr ⟨_, _, bj rfl (hf _) (args := #[.agg (cz X a1 l1 c1 a2 l2 c2 a3 l3 c3 a4 l4 c4).toArray]) (by simp [h0]) (by kernel_rfl), ?_⟩⟩
  refine (gj X a1 l1 c1 a2 l2 c2 a3 l3 c3 a4 l4 c4 _).mono ?_
  rintro e u' ⟨he, b'⟩
  exact ⟨_, he, rfl, ae hR b', b'⟩
 ·have s1 : ρ (.tmp 1) = .pointer (some ⟨g, 0, none⟩) := (hρ 1 (by kernel_rfl)).trans rfl
  have hr : (Instr.loadAt 245 (.pointer (some ⟨g, 0, none⟩))).run prog u = .ok (.agg ([.int .i64 p, .int .i64 u9]).toArray) u := run_loadAt_mid u g (0) 245 ([.int .i64 p, .int .i64 u9]) _ (HE.out.2.1.below hR).rng underlying245 rfl (by kernel_rfl)
  exact yr (ai rfl s1 hr) rfl hR
 ·have h1 : ρ (.tmp 5) = .agg #[.int .i64 X.po, .int .i64 X.un] := dq hd 1 5
  have h2 : ρ (.tmp 6) = .agg ([.int .i64 p, .int .i64 u9]).toArray := dq hd 2 6
  exact yr (aD rfl h1 h2 (by go_simp; rw [<- HE.out.2.2.2]; by_cases h0 : X.po = p <;> by_cases h1 : X.un = u9 <;> simp [h0, h1])) rfl hR
 have h3 : ρ (.tmp 7) = .bool x := dq hd 3 7
 exact yr rfl h3 hR
def gy (p u : Int) (Y : VS) : Bool := decide (Y.po = p /\ Y.un = u)
def gV (n : Nat) (f : Nat -> VS) (p u : Int) (r : Int) : Prop := (r = -1 /\ bO (fun j => !gy p u (f j)) n = true) \/ ∃ m : Nat, r = (m : Int) /\ m < n /\ gy p u (f m) = true /\ bO (fun j => !gy p u (f j)) m = true
theorem lj (n : Nat) (f : Nat -> VS) (a : Option Addr) (c g : Nat) (p u : Int) (w : World) (hs : Rd w 0 (.list 6 n (fun i => aa (bn (f i)))) (.slice a n c)) (hn : n <= 2000000) (hg : ag w g 245 #[.int .i64 p, .int .i64 u]) :
 Calls prog 226 #[.slice a n c, .func (.func 227) #[] #[.pointer (some ⟨g, 0, none⟩)]] w fun e w' => ∃ r, e = .returned (.int .i64 r) /\ gV n f p u r /\ Below w.heap.size w w' := by
 have HS : Hid (Rd w 0 (.list 6 n (fun i => aa (bn (f i)))) (.slice a n c) /\ ag w g 245 #[.int .i64 p, .int .i64 u]) := ⟨hs, hg⟩
 clear hs hg
 go_enter func226, ntmps226
 go_wp2
 go_loopw [8] (fun i wr => ∃ k : Nat, k <= n /\ i = .int .i64 k /\ bO (fun j => !gy p u (f j)) k = true /\ Below w.heap.size w wr) (fun i _ => n - (intOf i).toNat)
 case atStart => exact ⟨0, Nat.zero_le _, rfl, rfl, Below.refl _ _⟩
 case round =>
  obtain ⟨k, hk, rfl, hall, hbl⟩ := hrel
  by_cases hlt : k < n
  ·have hi : (k : Int) < (n : Int) := by omega
   obtain ⟨b, off, vs, rfl, _, hb0, hlen, hr, hrd⟩ := (HS.out.1.below hbl).at hlt
   obtain ⟨a1, c1, a2, c2, a3, c3, a4, c4, rfl, r1, r2, r3, r4⟩ := VS.cells hrd hlen
   clear hlen hrd hb0 r1 r2 r3 r4
   have d0 : wr.cell? ⟨b, off + k * 6, none⟩ = _ := hr 0 _ rfl
   have d1 := hr 1 _ rfl
   have d2 := hr 2 _ rfl
   have d3 := hr 3 _ rfl
   have d4 := hr 4 _ rfl
   have d5 := hr 5 _ rfl
   obtain ⟨x, hx⟩ : ∃ x, gy p u (f k) = x := ⟨_, rfl⟩
   have HK : Hid (gy p u (f k) = x /\ bO (fun j => !gy p u (f j)) k = true /\ Below w.heap.size w wr) := ⟨hx, hall, hbl⟩
   clear hx hall hbl hr
   go_wp2_with fail
   refine (nY (f k) p u g a1 _ c1 a2 _ c2 a3 _ c3 a4 _ c4 _ (HS.out.2.below HK.out.2.2) x HK.out.1).mono ?_
   rintro e w1 ⟨rfl, b1⟩
   have B1 := ae HK.out.2.2 b1
   clear b1 d0 d1 d2 d3 d4 d5
   cases x
   case false =>
    have HF : Hid (bO (fun j => !gy p u (f j)) (k + 1) = true) := dO HK.out.2.1 (by rw [HK.out.1]; rfl)
    clear HK
    go_wp2
    go_roundw
    case rel => exact ⟨k + 1, by omega, by go_num, HF.out, B1⟩
    case measure => simp [intOf]; omega
   have HF : Hid (gy p u (f k) = true /\ bO (fun j => !gy p u (f j)) k = true) := ⟨HK.out.1, HK.out.2.1⟩
   clear HK
   go_wp2
   go_ret
   exact ⟨_, rfl, .inr ⟨k, rfl, hlt, HF.out.1, HF.out.2⟩, B1⟩
  have hi : ¬ (k : Int) < (n : Int) := by omega
  have e9 : k = n := by omega
  subst e9
  have HF : Hid (bO (fun j => !gy p u (f j)) k = true) := hall
  clear hall
  go_wp2
  go_ret
  exact ⟨_, rfl, .inl ⟨rfl, HF.out⟩, hbl⟩
theorem nZ (n : Nat) (f : Nat -> VS) (a : Option Addr) (c : Nat) (p u : Int) (w : World) (hs : Rd w 0 (.list 6 n (fun i => aa (bn (f i)))) (.slice a n c)) (hn : n <= 2000000) :
 Calls prog 188 #[.slice a n c, .agg #[.int .i64 p, .int .i64 u]] w fun e w' => ∃ r, e = .returned (.int .i64 r) /\ gV n f p u r /\ Below w.heap.size w w' := by
 obtain ⟨W, hW⟩ : ∃ W, W = w.alloc (.cells #[.int .i64 p, .int .i64 u] 245) := ⟨_, rfl⟩
 have bW : Below w.heap.size w W := by rw [hW]; exact ac _ _
 have HE : Hid (Below w.heap.size w W /\ ag W w.heap.size 245 #[.int .i64 p, .int .i64 u] /\ Rd W 0 (.list 6 n (fun i => aa (bn (f i)))) (.slice a n c)) := ⟨bW, by rw [hW]; exact ag.new _ _ _, hs.below bW⟩
 clear bW hs
 go_enter func188, ntmps188
 go_upto_region 1 with fail
 rw [<- hW]
 clear hW
 go_wp2_with fail
 refine (lj n f a c w.heap.size p u _ HE.out.2.2 hn HE.out.2.1).mono ?_
 rintro e w1 ⟨r, rfl, hr, b1⟩
 have HF : Hid (gV n f p u r /\ Below w.heap.size w w1) := ⟨hr, ae HE.out.1 b1⟩
 clear hr b1 HE
 go_wp2
 go_ret
 exact ⟨r, rfl, HF.out.1, HF.out.2⟩
theorem gV.first {n k : Nat} {f : Nat -> VS} {r : Int} (h : gV n f (f k).po (f k).un r) (hk : k < n) : bO (fun j => !fB (f j) (f k)) k = decide (r = (k : Int)) := by
 have hs : ∀ j, gy (f k).po (f k).un (f j) = fB (f j) (f k) := fun j => rfl
 have hkk : fB (f k) (f k) = true := by simp [fB]
 rw [Bool.eq_iff_iff]
 simp only [dY, decide_eq_true_eq]
 rcases h with ⟨h1, h2⟩ | ⟨m, h1, h2, h3, h4⟩
 ·have := dY.1 h2 k hk
  simp only [hs, hkk] at this
  cases this
 have h4' := dY.1 h4
 constructor
 ·intro h
  rcases Nat.lt_trichotomy m k with hm | hm | hm
  ·have := h m hm
   rw [hs] at h3
   simp [h3] at this
  ·omega
  have := h4' k hm
  simp only [hs, hkk] at this
  cases this
 intro h j hj
 have hm : m = k := by omega
 subst hm
 exact h4' j hj
theorem gV.ex (n : Nat) (f : Nat -> VS) (p u : Int) : ∃ r, gV n f p u r := by
 induction n with
 | zero => exact ⟨-1, .inl ⟨rfl, rfl⟩⟩
 | succ n ih =>
  obtain ⟨r, h⟩ := ih
  rcases h with ⟨h1, h2⟩ | ⟨m, h1, h2, h3, h4⟩
  ·cases hx : gy p u (f n) with
   | true => exact ⟨(n : Int), .inr ⟨n, rfl, by omega, hx, h2⟩⟩
   | false => exact ⟨-1, .inl ⟨rfl, dO h2 (by rw [hx]; rfl)⟩⟩
  exact ⟨r, .inr ⟨m, h1, by omega, h3, h4⟩⟩
theorem gV.uniq {n : Nat} {f : Nat -> VS} {p u r r' : Int} (h : gV n f p u r) (h' : gV n f p u r') : r = r' := by
 rcases h with ⟨h1, h2⟩ | ⟨m, h1, h2, h3, h4⟩
 ·rcases h' with ⟨g1, g2⟩ | ⟨m', g1, g2, g3, g4⟩
  ·omega
  have := dY.1 h2 m' g2
  simp [g3] at this
 rcases h' with ⟨g1, g2⟩ | ⟨m', g1, g2, g3, g4⟩
 ·have := dY.1 g2 m h2
  simp [h3] at this
 have h5 := dY.1 h4
 have g5 := dY.1 g4
 rcases Nat.lt_trichotomy m m' with hm | hm | hm
 ·have := g5 m hm
  simp [h3] at this
 ·omega
 have := h5 m' hm
 simp [g3] at this
theorem ik (n : Nat) (f : Nat -> VS) (a : Option Addr) (c : Nat) (w : World) (hs : Rd w 0 (.list 6 n (fun i => aa (bn (f i)))) (.slice a n c)) (hn : n <= 2000000) (hz : ∀ k, k < n -> ao 4 (aa (eu (f k).d)) <= 1048576) :
 Calls prog 125 #[.slice a n c] w fun e w' => e = .returned (.bool (eB n f)) /\ Below w.heap.size w w' := by
 obtain ⟨x0, hx0⟩ : ∃ x, decide (n <= 8) = x := ⟨_, rfl⟩
 have HE : Hid (eB n f = (x0 && bO (cU f) n) /\ decide (n <= 8) = x0 /\ Rd w 0 (.list 6 n (fun i => aa (bn (f i)))) (.slice a n c) /\ ∀ k, k < n -> ao 4 (aa (eu (f k).d)) <= 1048576) := ⟨by unfold eB; rw [hx0], hx0, hs, hz⟩
 rw [HE.out.1]
 clear hx0 hs hz
 cases x0
 case false =>
  have h8 : (8 : Int) < (n : Int) := by have := of_decide_eq_false HE.out.2.1; omega
  go_enter func125, ntmps125
  go_wp2
  go_ret
  exact ⟨rfl, Below.refl _ _⟩
 have h8 : ¬ (8 : Int) < (n : Int) := by have := of_decide_eq_true HE.out.2.1; omega
 go_enter func125, ntmps125
 go_wp2
 go_loopw [10] (fun i wr => ∃ k : Nat, k <= n /\ i = .int .i64 k /\ bO (cU f) k = true /\ Below w.heap.size w wr) (fun i _ => n - (intOf i).toNat)
 case atStart => exact ⟨0, Nat.zero_le _, rfl, rfl, Below.refl _ _⟩
 case round =>
  obtain ⟨k, hk, rfl, hall, hbl⟩ := hrel
  by_cases hlt : k < n
  ·have hi : (k : Int) < (n : Int) := by omega
   obtain ⟨b, off, vs, ha, _, hb0, hlen, hr, hrd⟩ := (HE.out.2.2.1.below hbl).at hlt
   obtain ⟨a1, c1, a2, c2, a3, c3, a4, c4, rfl, r1, r2, r3, r4⟩ := VS.cells hrd hlen
   have d0 : wr.cell? ⟨b, off + k * 6, none⟩ = _ := hr 0 _ rfl
   have d1 := hr 1 _ rfl
   have d2 := hr 2 _ rfl
   have d3 := hr 3 _ rfl
   have d4 := hr 4 _ rfl
   have d5 := hr 5 _ rfl
   obtain ⟨G, hG⟩ : ∃ G, G = wr.heap.size := ⟨_, rfl⟩
   obtain ⟨W1, hW1⟩ : ∃ W9, W9 = wr.alloc (.cells (cz (f k) a1 (f k).d.co.length c1 a2 (f k).d.ip.length c2 a3 (f k).d.ho.length c3 a4 (f k).d.wd.length c4).toArray 180) := ⟨_, rfl⟩
   have bW : Below wr.heap.size wr W1 := by rw [hW1]; exact ac _ _
   have K1 : ag W1 G 180 (cz (f k) a1 (f k).d.co.length c1 a2 (f k).d.ip.length c2 a3 (f k).d.ho.length c3 a4 (f k).d.wd.length c4).toArray := by rw [hW1, hG]; exact ag.new _ _ _
   obtain ⟨r0, hr0⟩ := gV.ex n f (f k).po (f k).un
   obtain ⟨ra, hra⟩ : ∃ x, (aw (f k).po 0 5 && aw (f k).un 1 247) = x := ⟨_, rfl⟩
   obtain ⟨ok, hok⟩ : ∃ x, gT (f k).d = x := ⟨_, rfl⟩
   obtain ⟨eq, heq⟩ : ∃ x, decide (r0 = (k : Int)) = x := ⟨_, rfl⟩
   have HX : Hid ((aw (f k).po 0 5 && aw (f k).un 1 247) = ra /\ gT (f k).d = ok /\ decide (r0 = (k : Int)) = eq /\ gV n f (f k).po (f k).un r0) := ⟨hra, hok, heq, hr0⟩
   have HA : Hid (bO (cU f) k = true /\ Below w.heap.size w W1 /\ cU f k = (ra && (ok && eq))) := ⟨hall, ae hbl bW, by unfold cU tC; rw [hra, hok, hr0.first hlt, heq]⟩
   have HK : Hid (ag W1 G 180 (cz (f k) a1 (f k).d.co.length c1 a2 (f k).d.ip.length c2 a3 (f k).d.ho.length c3 a4 (f k).d.wd.length c4).toArray /\ Rd W1 0 (af (f k).d.co) (.slice a1 (f k).d.co.length c1) /\ Rd W1 0 (af (f k).d.ip) (.slice a2 (f k).d.ip.length c2) /\ Rd W1 0 (ah (f k).d.ho) (.slice a3 (f k).d.ho.length c3) /\ Rd W1 0 (ah (f k).d.wd) (.slice a4 (f k).d.wd.length c4) /\ ao 4 (aa (eu (f k).d)) <= 1048576 /\ Rd W1 0 (.list 6 n (fun i => aa (bn (f i)))) (.slice a n c) /\ n <= 2000000) := ⟨K1, r1.below bW, r2.below bW, r3.below bW, r4.below bW, HE.out.2.2.2 k hlt, (HE.out.2.2.1.below hbl).below bW, hn⟩
   have hX : W1 = wr.alloc (.cells #[.int .i64 (f k).po, .int .i64 (f k).un, .slice a1 (f k).d.co.length c1, .slice a2 (f k).d.ip.length c2, .slice a3 (f k).d.ho.length c3, .slice a4 (f k).d.wd.length c4] 180) := hW1
   clear hW1 bW K1 hr0 hra hok heq hall hr r1 r2 r3 r4 hlen hrd
   subst ha
   go_upto_region 6 with fail
   rw [<- hX, <- hG]
   clear hX hG d0 d1 d2 d3 d4 d5 hb0 hbl
   obtain ⟨⟨y0, y1, y2, y3, y4, y5⟩, yf⟩ := HK.out.1.tc6
   clear yf
   go_wp2_with fail
   refine (gj (f k) a1 _ c1 a2 _ c2 a3 _ c3 a4 _ c4 _).mono ?_
   rintro e w1 ⟨rfl, b1⟩
   go_wp2_with fail
   refine (gU _ _ _ ra HX.out.1).mono ?_
   rintro e w2 ⟨rfl, b2⟩
   have B2 : Hid (Below W1.heap.size W1 w2) := ae b1 b2
   clear b1 b2 y0 y1 y2 y3 y4 y5
   cases ra
   case false =>
    have B9 : Hid (bO (cU f) n = false /\ Below w.heap.size w w2) := ⟨er hlt (by rw [HA.out.2.2]; rfl), ae HA.out.2.1 B2.out⟩
    clear HK HX HA
    go_wp2
    go_ret
    exact ⟨by rw [B9.out.1]; rfl, B9.out.2⟩
   obtain ⟨⟨y0, y1, y2, y3, y4, y5⟩, yf⟩ := (HK.out.1.below B2.out).tc6
   clear yf
   go_wp2_with fail
   refine (rE (f k).d a1 _ c1 a2 _ c2 a3 _ c3 a4 _ c4 _ (HK.out.2.1.below B2.out) (HK.out.2.2.1.below B2.out) (HK.out.2.2.2.1.below B2.out) (HK.out.2.2.2.2.1.below B2.out) HK.out.2.2.2.2.2.1).mono ?_
   rintro e w3 ⟨rfl, b3⟩
   rw [HX.out.2.1]
   have B3 : Hid (Below W1.heap.size W1 w3) := ae B2.out b3
   clear b3 y0 y1 y2 y3 y4 y5
   cases ok
   case false =>
    have B9 : Hid (bO (cU f) n = false /\ Below w.heap.size w w3) := ⟨er hlt (by rw [HA.out.2.2]; rfl), ae HA.out.2.1 B3.out⟩
    clear HK HX HA
    go_wp2
    go_ret
    exact ⟨by rw [B9.out.1]; rfl, B9.out.2⟩
   obtain ⟨⟨y0, y1, y2, y3, y4, y5⟩, yf⟩ := (HK.out.1.below B3.out).tc6
   clear yf
   go_wp2_with fail
   refine (gj (f k) a1 _ c1 a2 _ c2 a3 _ c3 a4 _ c4 _).mono ?_
   rintro e w4 ⟨rfl, b4⟩
   have B4 : Hid (Below W1.heap.size W1 w4) := ae B3.out b4
   clear b4 y0 y1 y2 y3 y4 y5
   go_wp2_with fail
   refine (nZ n f _ c _ _ _ (HK.out.2.2.2.2.2.2.1.below B4.out) HK.out.2.2.2.2.2.2.2).mono ?_
   rintro e w5 ⟨r, rfl, hr, b5⟩
   rw [hr.uniq HX.out.2.2.2]
   have B5 : Hid (Below W1.heap.size W1 w5) := ae B4.out b5
   clear b5 hr
   cases eq
   case false =>
    have e1 : (r0 != (k : Int)) = true := by have := of_decide_eq_false HX.out.2.2.1; simpa using this
    have B9 : Hid (bO (cU f) n = false /\ Below w.heap.size w w5) := ⟨er hlt (by rw [HA.out.2.2]; rfl), ae HA.out.2.1 B5.out⟩
    clear HK HX HA
    go_wp2
    go_ret
    exact ⟨by rw [B9.out.1]; rfl, B9.out.2⟩
   have e1 : (r0 != (k : Int)) = false := by have := of_decide_eq_true HX.out.2.2.1; simpa using this
   have HF : Hid (bO (cU f) (k + 1) = true /\ Below w.heap.size w w5) := ⟨dO HA.out.1 (by rw [HA.out.2.2]; rfl), ae HA.out.2.1 B5.out⟩
   clear HK HX HA
   go_wp2
   go_roundw
   case rel => exact ⟨k + 1, by omega, by go_num, HF.out.1, HF.out.2⟩
   case measure => simp [intOf]; omega
  have hi : ¬ (k : Int) < (n : Int) := by omega
  have e9 : k = n := by omega
  have HF : Hid (bO (cU f) n = true /\ Below w.heap.size w wr) := ⟨by rw [<- e9]; exact hall, hbl⟩
  clear hall hbl e9
  go_wp2
  go_ret
  exact ⟨by rw [HF.out.1]; rfl, HF.out.2⟩
end Go.Proofs.YtplaoagcedgdfaaGreat
namespace Go.Proofs.YtplaoagcedgdfaaGreat
open Go.RowKit Go.Proofs.Tryz
def word2 (x y : Int) : Int := bits BinOp.or IntKind.i64 (x * 256) y
def dw (kd pl nn wa : Int) (l1 l2 : Nat) : Bool :=
 if kd = 1 \/ kd = 2 then bG true false false false nn l1 l2 wa && (aw nn 1 2000 && dg pl nn)
 else if kd = 3 \/ kd = 4 then bG true false false false nn l1 l2 wa && (aw nn 1 125 && dg pl nn)
 else if kd = 5 then bG false false true false nn l1 l2 wa && decide (l2 = 1)
 else if kd = 6 then bG false true false false nn l1 l2 wa && decide (l1 = 1)
 else if kd = 15 then bG false false true false nn l1 l2 wa && (aw l2 1 1968 && dg pl l2)
 else if kd = 16 then bG false true false false nn l1 l2 wa && (aw l1 1 123 && dg pl l1)
 else if kd = 22 then bG false true false false nn l1 l2 wa && decide (l1 = 2)
 else if kd = 23 then bG true true false true nn l1 l2 wa && (aw nn 1 125 && (dg pl nn && (aw l1 1 121 && dg wa l1)))
 else false
def bv (kd pl nn wa : Int) (ws : List Int) (l1 l2 : Nat) : Bool := bN ws && (aw pl 0 65535 && dw kd pl nn wa l1 l2)
theorem ke {x lo hi : Int} (h : aw x lo hi = true) : lo <= x /\ x <= hi := by unfold aw at h; exact of_decide_eq_true h
theorem kg (x lo hi : Int) (w : World) : Calls prog 36 #[.int .i64 x, .int .i64 lo, .int .i64 hi] w fun e w' => w' = w /\ ((aw x lo hi = true /\ (lo <= x /\ x <= hi) /\ e = .returned (.bool true)) \/ (aw x lo hi = false /\ e = .returned (.bool false))) :=
 (aE x lo hi w _ rfl).mono (by rintro e w' ⟨rfl, rfl⟩; cases h : aw x lo hi <;> simp; exact ke h)
theorem bo {n : Nat} {ar : Array Value} {w : World} {b : Bool} {Q : World -> Prop} (h : Calls prog n ar w fun e w' => e = .returned (.bool b) /\ Q w') : Calls prog n ar w fun e w' => Q w' /\ ((b = true /\ e = .returned (.bool true)) \/ (b = false /\ e = .returned (.bool false))) :=
 h.mono (by rintro e w' ⟨rfl, q⟩; cases b <;> simp [q])
theorem pc (n v b a : Bool) (kd pl nn wa : Int) (a1 a2 : Option Addr) (l1 l2 c1 c2 : Nat) (w : World) (h : n = true /\ v = false /\ b = false /\ a = false \/ n = false /\ v = false /\ b = true /\ a = false \/ n = false /\ v = true /\ b = false /\ a = false \/ n = true /\ v = true /\ b = false /\ a = true) (hm1 : l1 <= 2000000) (hm2 : l2 <= 20000000) :
 Calls prog 178 #[rq kd pl nn wa a1 a2 l1 l2 c1 c2, .bool n, .bool v, .bool b, .bool a] w fun e w' => Below w.heap.size w w' /\ ((bG n v b a nn l1 l2 wa = true /\ e = .returned (.bool true)) \/ (bG n v b a nn l1 l2 wa = false /\ e = .returned (.bool false))) := by
 obtain ⟨rfl, rfl, rfl, rfl⟩ | ⟨rfl, rfl, rfl, rfl⟩ | ⟨rfl, rfl, rfl, rfl⟩ | ⟨rfl, rfl, rfl, rfl⟩ := h
 ·exact bo (nB _ _ _ _ _ _ _ _ _ _ _ hm1 hm2 _ rfl)
 ·exact bo (nC _ _ _ _ _ _ _ _ _ _ _ hm1 hm2 _ rfl)
 ·exact bo (nD _ _ _ _ _ _ _ _ _ _ _ hm1 hm2 _ rfl)
 exact bo (nE _ _ _ _ _ _ _ _ _ _ _ hm1 hm2 _ rfl)
theorem lk (kd : Int) (pl nn wa : Int) (a1 a2 : Option Addr) (l1 l2 c1 c2 : Nat) (ws : List Int) (w : World) (h1 : l1 = ws.length) (s1 : aQ w a1 ws) (hl1 : ws.length <= 2000000) (hl2 : l2 <= 20000000) (b : Bool) (hb : bv kd pl nn wa ws l1 l2 = b) :
 Calls prog 119 #[rq kd pl nn wa a1 a2 l1 l2 c1 c2] w fun e w' => e = .returned (.bool b) /\ Below w.heap.size w w' := by
 obtain ⟨B0, X0⟩ := bx w #[.int .i64 kd, .int .i64 pl, .int .i64 nn, .slice a1 l1 c1, .slice a2 l2 c2, .int .i64 wa] 84
 have S1 := bg (s1.below B0)
 have H1 : Hid (l1 = ws.length) := h1
 clear h1 s1
 subst hb
 rcases Decidable.em (kd = 1 \/ kd = 2 \/ kd = 3 \/ kd = 4 \/ kd = 5 \/ kd = 6 \/ kd = 15 \/ kd = 16 \/ kd = 22 \/ kd = 23) with (rfl | rfl | rfl | rfl | rfl | rfl | rfl | rfl | rfl | rfl) | hk
 rotate_right
 ·simp only [not_or] at hk
  obtain ⟨k1, k2, k3, k4, k5, k6, k7, k8, k9, k10⟩ := hk
  go_enter func119, ntmps119
  go_wp2_with (first
   | (go_at_call 175; refine (bo (da _ _ _ ws _ H1.out S1.out hl1 _ rfl)).mono ?_; rintro e wx ⟨rfl, ⟨hW, rfl⟩ | ⟨hW, rfl⟩⟩)
   | (go_at_call 36; refine (kg _ _ _ _).mono ?_; rintro e wx ⟨rfl, ⟨hN, hm, rfl⟩ | ⟨hN, rfl⟩⟩))
  all_goals
   go_ret
   exact ⟨by simp [bv, dw, *], B0⟩
 all_goals
  go_enter func119, ntmps119
  go_wp2_with (first
   | (go_at_call 175; refine (bo (da _ _ _ ws _ H1.out S1.out hl1 _ rfl)).mono ?_; rintro e wx ⟨rfl, ⟨hW, rfl⟩ | ⟨hW, rfl⟩⟩)
   | (go_at_call 36; refine (kg _ _ _ _).mono ?_; rintro e wx ⟨rfl, ⟨hN, hm, rfl⟩ | ⟨hN, rfl⟩⟩)
   | (go_at_call 178; refine (pc _ _ _ _ _ _ _ _ _ _ _ _ _ _ _ (by simp) (by have := H1.out; omega) hl2).mono ?_; rintro e w1 ⟨b', ⟨hZ, rfl⟩ | ⟨hZ, rfl⟩⟩ <;> (have B1 := ak B0 b'; obtain ⟨y0, y1, y2, y3, y4, y5⟩ := (X0.below b').six; clear B0 X0))
   | (go_at_call 179; refine (bo (oX _ _ _ (by omega) (by omega) _ rfl)).mono ?_; rintro e wx ⟨rfl, ⟨hF, rfl⟩ | ⟨hF, rfl⟩⟩))
  all_goals
   go_ret
   refine ⟨?_, by assumption⟩
   simp [bv, dw, *]
   try (rw [Bool.eq_iff_iff]; simp; omega)
theorem tD (w : World) (v : Value) : (Instr.typeAssert (.iface 291 v) 278 291 true).run prog w = .ok (.tuple #[v, .bool true]) w := by kernel_rfl
theorem tE (w : World) (v : Value) : (Instr.typeAssert (.iface 292 v) 278 291 true).run prog w = .ok (.tuple #[.agg #[.int .i64 0, .int .i64 0], .bool false]) w := by kernel_rfl
theorem tF (w : World) (v : Value) : (Instr.typeAssert (.iface 292 v) 278 292 true).run prog w = .ok (.tuple #[v, .bool true]) w := by kernel_rfl
theorem tG (w : World) (v : Value) : (Instr.typeAssert (.iface 293 v) 278 291 true).run prog w = .ok (.tuple #[.agg #[.int .i64 0, .int .i64 0], .bool false]) w := by kernel_rfl
theorem tH (w : World) (v : Value) : (Instr.typeAssert (.iface 293 v) 278 292 true).run prog w = .ok (.tuple #[.agg #[.int .i64 0, .int .i64 0], .bool false]) w := by kernel_rfl
theorem tI (w : World) (v : Value) : (Instr.typeAssert (.iface 293 v) 278 293 true).run prog w = .ok (.tuple #[v, .bool true]) w := by kernel_rfl
theorem tJ (w : World) (v : Value) : (Instr.typeAssert (.iface 294 v) 278 291 true).run prog w = .ok (.tuple #[.agg #[.int .i64 0, .int .i64 0], .bool false]) w := by kernel_rfl
theorem tK (w : World) (v : Value) : (Instr.typeAssert (.iface 294 v) 278 292 true).run prog w = .ok (.tuple #[.agg #[.int .i64 0, .int .i64 0], .bool false]) w := by kernel_rfl
theorem tM (w : World) (v : Value) : (Instr.typeAssert (.iface 294 v) 278 293 true).run prog w = .ok (.tuple #[.agg #[.int .i64 0, .int .i64 0], .bool false]) w := by kernel_rfl
theorem tN (w : World) (v : Value) : (Instr.typeAssert (.iface 294 v) 278 294 true).run prog w = .ok (.tuple #[v, .bool true]) w := by kernel_rfl
theorem tO (w : World) (v : Value) : (Instr.typeAssert (.iface 296 v) 278 291 true).run prog w = .ok (.tuple #[.agg #[.int .i64 0, .int .i64 0], .bool false]) w := by kernel_rfl
theorem tP (w : World) (v : Value) : (Instr.typeAssert (.iface 296 v) 278 292 true).run prog w = .ok (.tuple #[.agg #[.int .i64 0, .int .i64 0], .bool false]) w := by kernel_rfl
theorem tQ (w : World) (v : Value) : (Instr.typeAssert (.iface 296 v) 278 293 true).run prog w = .ok (.tuple #[.agg #[.int .i64 0, .int .i64 0], .bool false]) w := by kernel_rfl
theorem tR (w : World) (v : Value) : (Instr.typeAssert (.iface 296 v) 278 294 true).run prog w = .ok (.tuple #[.agg #[.int .i64 0, .int .i64 0], .bool false]) w := by kernel_rfl
theorem tS (w : World) (v : Value) : (Instr.typeAssert (.iface 296 v) 278 296 true).run prog w = .ok (.tuple #[v, .bool true]) w := by kernel_rfl
theorem tU (w : World) (v : Value) : (Instr.typeAssert (.iface 298 v) 278 291 true).run prog w = .ok (.tuple #[.agg #[.int .i64 0, .int .i64 0], .bool false]) w := by kernel_rfl
theorem tV (w : World) (v : Value) : (Instr.typeAssert (.iface 298 v) 278 292 true).run prog w = .ok (.tuple #[.agg #[.int .i64 0, .int .i64 0], .bool false]) w := by kernel_rfl
theorem tW (w : World) (v : Value) : (Instr.typeAssert (.iface 298 v) 278 293 true).run prog w = .ok (.tuple #[.agg #[.int .i64 0, .int .i64 0], .bool false]) w := by kernel_rfl
theorem tX (w : World) (v : Value) : (Instr.typeAssert (.iface 298 v) 278 294 true).run prog w = .ok (.tuple #[.agg #[.int .i64 0, .int .i64 0], .bool false]) w := by kernel_rfl
theorem tY (w : World) (v : Value) : (Instr.typeAssert (.iface 298 v) 278 296 true).run prog w = .ok (.tuple #[.agg #[.int .i64 0, .bool false], .bool false]) w := by kernel_rfl
theorem tZ (w : World) (v : Value) : (Instr.typeAssert (.iface 298 v) 278 298 true).run prog w = .ok (.tuple #[v, .bool true]) w := by kernel_rfl
theorem rW (w : World) (v : Value) : (Instr.typeAssert (.iface 300 v) 278 291 true).run prog w = .ok (.tuple #[.agg #[.int .i64 0, .int .i64 0], .bool false]) w := by kernel_rfl
theorem rX (w : World) (v : Value) : (Instr.typeAssert (.iface 300 v) 278 292 true).run prog w = .ok (.tuple #[.agg #[.int .i64 0, .int .i64 0], .bool false]) w := by kernel_rfl
theorem rY (w : World) (v : Value) : (Instr.typeAssert (.iface 300 v) 278 293 true).run prog w = .ok (.tuple #[.agg #[.int .i64 0, .int .i64 0], .bool false]) w := by kernel_rfl
theorem rZ (w : World) (v : Value) : (Instr.typeAssert (.iface 300 v) 278 294 true).run prog w = .ok (.tuple #[.agg #[.int .i64 0, .int .i64 0], .bool false]) w := by kernel_rfl
theorem sa (w : World) (v : Value) : (Instr.typeAssert (.iface 300 v) 278 296 true).run prog w = .ok (.tuple #[.agg #[.int .i64 0, .bool false], .bool false]) w := by kernel_rfl
theorem sb (w : World) (v : Value) : (Instr.typeAssert (.iface 300 v) 278 298 true).run prog w = .ok (.tuple #[.agg #[.int .i64 0, .int .i64 0], .bool false]) w := by kernel_rfl
theorem qt (w : World) (v : Value) : (Instr.typeAssert (.iface 300 v) 278 300 true).run prog w = .ok (.tuple #[v, .bool true]) w := by kernel_rfl
theorem sc (w : World) (v : Value) : (Instr.typeAssert (.iface 302 v) 278 291 true).run prog w = .ok (.tuple #[.agg #[.int .i64 0, .int .i64 0], .bool false]) w := by kernel_rfl
theorem sd (w : World) (v : Value) : (Instr.typeAssert (.iface 302 v) 278 292 true).run prog w = .ok (.tuple #[.agg #[.int .i64 0, .int .i64 0], .bool false]) w := by kernel_rfl
theorem sg (w : World) (v : Value) : (Instr.typeAssert (.iface 302 v) 278 293 true).run prog w = .ok (.tuple #[.agg #[.int .i64 0, .int .i64 0], .bool false]) w := by kernel_rfl
theorem si (w : World) (v : Value) : (Instr.typeAssert (.iface 302 v) 278 294 true).run prog w = .ok (.tuple #[.agg #[.int .i64 0, .int .i64 0], .bool false]) w := by kernel_rfl
theorem sm (w : World) (v : Value) : (Instr.typeAssert (.iface 302 v) 278 296 true).run prog w = .ok (.tuple #[.agg #[.int .i64 0, .bool false], .bool false]) w := by kernel_rfl
theorem sn (w : World) (v : Value) : (Instr.typeAssert (.iface 302 v) 278 298 true).run prog w = .ok (.tuple #[.agg #[.int .i64 0, .int .i64 0], .bool false]) w := by kernel_rfl
theorem qu (w : World) (v : Value) : (Instr.typeAssert (.iface 302 v) 278 300 true).run prog w = .ok (.tuple #[.agg #[.int .i64 0, .slice none 0 0], .bool false]) w := by kernel_rfl
theorem qv (w : World) (v : Value) : (Instr.typeAssert (.iface 302 v) 278 302 true).run prog w = .ok (.tuple #[v, .bool true]) w := by kernel_rfl
theorem sq (w : World) (v : Value) : (Instr.typeAssert (.iface 304 v) 278 291 true).run prog w = .ok (.tuple #[.agg #[.int .i64 0, .int .i64 0], .bool false]) w := by kernel_rfl
theorem su (w : World) (v : Value) : (Instr.typeAssert (.iface 304 v) 278 292 true).run prog w = .ok (.tuple #[.agg #[.int .i64 0, .int .i64 0], .bool false]) w := by kernel_rfl
theorem sw (w : World) (v : Value) : (Instr.typeAssert (.iface 304 v) 278 293 true).run prog w = .ok (.tuple #[.agg #[.int .i64 0, .int .i64 0], .bool false]) w := by kernel_rfl
theorem sx (w : World) (v : Value) : (Instr.typeAssert (.iface 304 v) 278 294 true).run prog w = .ok (.tuple #[.agg #[.int .i64 0, .int .i64 0], .bool false]) w := by kernel_rfl
theorem sy (w : World) (v : Value) : (Instr.typeAssert (.iface 304 v) 278 296 true).run prog w = .ok (.tuple #[.agg #[.int .i64 0, .bool false], .bool false]) w := by kernel_rfl
theorem sA (w : World) (v : Value) : (Instr.typeAssert (.iface 304 v) 278 298 true).run prog w = .ok (.tuple #[.agg #[.int .i64 0, .int .i64 0], .bool false]) w := by kernel_rfl
theorem qw (w : World) (v : Value) : (Instr.typeAssert (.iface 304 v) 278 300 true).run prog w = .ok (.tuple #[.agg #[.int .i64 0, .slice none 0 0], .bool false]) w := by kernel_rfl
theorem qx (w : World) (v : Value) : (Instr.typeAssert (.iface 304 v) 278 302 true).run prog w = .ok (.tuple #[.agg #[.int .i64 0, .slice none 0 0], .bool false]) w := by kernel_rfl
theorem qy (w : World) (v : Value) : (Instr.typeAssert (.iface 304 v) 278 304 true).run prog w = .ok (.tuple #[v, .bool true]) w := by kernel_rfl
theorem sB (w : World) (v : Value) : (Instr.typeAssert (.iface 306 v) 278 291 true).run prog w = .ok (.tuple #[.agg #[.int .i64 0, .int .i64 0], .bool false]) w := by kernel_rfl
theorem sC (w : World) (v : Value) : (Instr.typeAssert (.iface 306 v) 278 292 true).run prog w = .ok (.tuple #[.agg #[.int .i64 0, .int .i64 0], .bool false]) w := by kernel_rfl
theorem sD (w : World) (v : Value) : (Instr.typeAssert (.iface 306 v) 278 293 true).run prog w = .ok (.tuple #[.agg #[.int .i64 0, .int .i64 0], .bool false]) w := by kernel_rfl
theorem sE (w : World) (v : Value) : (Instr.typeAssert (.iface 306 v) 278 294 true).run prog w = .ok (.tuple #[.agg #[.int .i64 0, .int .i64 0], .bool false]) w := by kernel_rfl
theorem sF (w : World) (v : Value) : (Instr.typeAssert (.iface 306 v) 278 296 true).run prog w = .ok (.tuple #[.agg #[.int .i64 0, .bool false], .bool false]) w := by kernel_rfl
theorem sG (w : World) (v : Value) : (Instr.typeAssert (.iface 306 v) 278 298 true).run prog w = .ok (.tuple #[.agg #[.int .i64 0, .int .i64 0], .bool false]) w := by kernel_rfl
theorem qz (w : World) (v : Value) : (Instr.typeAssert (.iface 306 v) 278 300 true).run prog w = .ok (.tuple #[.agg #[.int .i64 0, .slice none 0 0], .bool false]) w := by kernel_rfl
theorem qA (w : World) (v : Value) : (Instr.typeAssert (.iface 306 v) 278 302 true).run prog w = .ok (.tuple #[.agg #[.int .i64 0, .slice none 0 0], .bool false]) w := by kernel_rfl
theorem qB (w : World) (v : Value) : (Instr.typeAssert (.iface 306 v) 278 304 true).run prog w = .ok (.tuple #[.agg #[.int .i64 0, .int .i64 0, .int .i64 0], .bool false]) w := by kernel_rfl
theorem qC (w : World) (v : Value) : (Instr.typeAssert (.iface 306 v) 278 306 true).run prog w = .ok (.tuple #[v, .bool true]) w := by kernel_rfl
theorem ua (w : World) : (Instr.typeAssert .nilIface 278 291 true).run prog w = .ok (.tuple #[.agg #[.int .i64 0, .int .i64 0], .bool false]) w := by kernel_rfl
theorem ub (w : World) : (Instr.typeAssert .nilIface 278 292 true).run prog w = .ok (.tuple #[.agg #[.int .i64 0, .int .i64 0], .bool false]) w := by kernel_rfl
theorem uc (w : World) : (Instr.typeAssert .nilIface 278 293 true).run prog w = .ok (.tuple #[.agg #[.int .i64 0, .int .i64 0], .bool false]) w := by kernel_rfl
theorem ud (w : World) : (Instr.typeAssert .nilIface 278 294 true).run prog w = .ok (.tuple #[.agg #[.int .i64 0, .int .i64 0], .bool false]) w := by kernel_rfl
theorem ue (w : World) : (Instr.typeAssert .nilIface 278 296 true).run prog w = .ok (.tuple #[.agg #[.int .i64 0, .bool false], .bool false]) w := by kernel_rfl
theorem uf (w : World) : (Instr.typeAssert .nilIface 278 298 true).run prog w = .ok (.tuple #[.agg #[.int .i64 0, .int .i64 0], .bool false]) w := by kernel_rfl
theorem sH (w : World) : (Instr.typeAssert .nilIface 278 300 true).run prog w = .ok (.tuple #[.agg #[.int .i64 0, .slice none 0 0], .bool false]) w := by kernel_rfl
theorem sI (w : World) : (Instr.typeAssert .nilIface 278 302 true).run prog w = .ok (.tuple #[.agg #[.int .i64 0, .slice none 0 0], .bool false]) w := by kernel_rfl
theorem sJ (w : World) : (Instr.typeAssert .nilIface 278 304 true).run prog w = .ok (.tuple #[.agg #[.int .i64 0, .int .i64 0, .int .i64 0], .bool false]) w := by kernel_rfl
theorem sK (w : World) : (Instr.typeAssert .nilIface 278 306 true).run prog w = .ok (.tuple #[.agg #[.int .i64 0, .int .i64 0, .int .i64 0, .slice none 0 0], .bool false]) w := by kernel_rfl
section
variable (pl nn wa : Int) (a1 a2 : Option Addr) (l1 l2 c1 c2 : Nat) (w : World)
include pl nn wa a1 a2 l1 l2 c1 c2 w
theorem il :
 Calls prog 248 #[rq 1 pl nn wa a1 a2 l1 l2 c1 c2] w fun e w' => e = .returned (.iface 291 (.agg #[.int .i64 pl, .int .i64 nn])) /\ Below w.heap.size w w' := by
 have B0 := ac w (.cells #[.int .i64 1, .int .i64 pl, .int .i64 nn, .slice a1 l1 c1, .slice a2 l2 c2, .int .i64 wa] 84)
 go_enter func248, ntmps248
 go_wp2
 go_ret
 exact ⟨rfl, B0⟩
theorem im :
 Calls prog 248 #[rq 2 pl nn wa a1 a2 l1 l2 c1 c2] w fun e w' => e = .returned (.iface 292 (.agg #[.int .i64 pl, .int .i64 nn])) /\ Below w.heap.size w w' := by
 have B0 := ac w (.cells #[.int .i64 2, .int .i64 pl, .int .i64 nn, .slice a1 l1 c1, .slice a2 l2 c2, .int .i64 wa] 84)
 go_enter func248, ntmps248
 go_wp2
 go_ret
 exact ⟨rfl, B0⟩
theorem io :
 Calls prog 248 #[rq 3 pl nn wa a1 a2 l1 l2 c1 c2] w fun e w' => e = .returned (.iface 293 (.agg #[.int .i64 pl, .int .i64 nn])) /\ Below w.heap.size w w' := by
 have B0 := ac w (.cells #[.int .i64 3, .int .i64 pl, .int .i64 nn, .slice a1 l1 c1, .slice a2 l2 c2, .int .i64 wa] 84)
 go_enter func248, ntmps248
 go_wp2
 go_ret
 exact ⟨rfl, B0⟩
theorem iq :
 Calls prog 248 #[rq 4 pl nn wa a1 a2 l1 l2 c1 c2] w fun e w' => e = .returned (.iface 294 (.agg #[.int .i64 pl, .int .i64 nn])) /\ Below w.heap.size w w' := by
 have B0 := ac w (.cells #[.int .i64 4, .int .i64 pl, .int .i64 nn, .slice a1 l1 c1, .slice a2 l2 c2, .int .i64 wa] 84)
 go_enter func248, ntmps248
 go_wp2
 go_ret
 exact ⟨rfl, B0⟩
theorem gW :
 Calls prog 248 #[rq 15 pl nn wa a1 a2 l1 l2 c1 c2] w fun e w' => e = .returned (.iface 300 (.agg #[.int .i64 pl, .slice a2 l2 c2])) /\ Below w.heap.size w w' := by
 have B0 := ac w (.cells #[.int .i64 15, .int .i64 pl, .int .i64 nn, .slice a1 l1 c1, .slice a2 l2 c2, .int .i64 wa] 84)
 go_enter func248, ntmps248
 go_wp2
 go_ret
 exact ⟨rfl, B0⟩
theorem gX :
 Calls prog 248 #[rq 16 pl nn wa a1 a2 l1 l2 c1 c2] w fun e w' => e = .returned (.iface 302 (.agg #[.int .i64 pl, .slice a1 l1 c1])) /\ Below w.heap.size w w' := by
 have B0 := ac w (.cells #[.int .i64 16, .int .i64 pl, .int .i64 nn, .slice a1 l1 c1, .slice a2 l2 c2, .int .i64 wa] 84)
 go_enter func248, ntmps248
 go_wp2
 go_ret
 exact ⟨rfl, B0⟩
theorem gY :
 Calls prog 248 #[rq 23 pl nn wa a1 a2 l1 l2 c1 c2] w fun e w' => e = .returned (.iface 306 (.agg #[.int .i64 pl, .int .i64 nn, .int .i64 wa, .slice a1 l1 c1])) /\ Below w.heap.size w w' := by
 have B0 := ac w (.cells #[.int .i64 23, .int .i64 pl, .int .i64 nn, .slice a1 l1 c1, .slice a2 l2 c2, .int .i64 wa] 84)
 go_enter func248, ntmps248
 go_wp2
 go_ret
 exact ⟨rfl, B0⟩
theorem ir (bs : List Bool) (h2 : l2 = bs.length) (hL : (l2 : Int) = 1) (s2 : aW w a2 bs) :
 Calls prog 248 #[rq 5 pl nn wa a1 a2 l1 l2 c1 c2] w fun e w' => e = .returned (.iface 296 (.agg #[.int .i64 pl, .bool (bs.getD 0 false)])) /\ Below w.heap.size w w' := by
 have B0 := ac w (.cells #[.int .i64 5, .int .i64 pl, .int .i64 nn, .slice a1 l1 c1, .slice a2 l2 c2, .int .i64 wa] 84)
 obtain ⟨b, off, rfl, hb, hc⟩ := bY (s2.below B0) (show 0 < bs.length by omega)
 have hc0 : (w.alloc (.cells #[.int .i64 5, .int .i64 pl, .int .i64 nn, .slice a1 l1 c1, .slice (some ⟨b, off, none⟩) l2 c2, .int .i64 wa] 84)).cell? ⟨b, off, none⟩ = some (.bool (bs.getD 0 false)) := by simpa using hc
 clear hc h2 s2
 go_enter func248, ntmps248
 go_wp2
 go_quiet (fail)
 go_wp2
 go_ret
 exact ⟨rfl, ak B0 (cy _ _)⟩
theorem it (ws : List Int) (h1 : l1 = ws.length) (hL : (l1 : Int) = 1) (s1 : aQ w a1 ws) :
 Calls prog 248 #[rq 6 pl nn wa a1 a2 l1 l2 c1 c2] w fun e w' => e = .returned (.iface 298 (.agg #[.int .i64 pl, .int .i64 (ws.getD 0 0)])) /\ Below w.heap.size w w' := by
 have B0 := ac w (.cells #[.int .i64 6, .int .i64 pl, .int .i64 nn, .slice a1 l1 c1, .slice a2 l2 c2, .int .i64 wa] 84)
 obtain ⟨b, off, rfl, hb, hc⟩ := ci (s1.below B0) (show 0 < ws.length by omega)
 have hc0 : (w.alloc (.cells #[.int .i64 6, .int .i64 pl, .int .i64 nn, .slice (some ⟨b, off, none⟩) l1 c1, .slice a2 l2 c2, .int .i64 wa] 84)).cell? ⟨b, off, none⟩ = some (.int .i64 (ws.getD 0 0)) := by simpa using hc
 clear hc h1 s1
 go_enter func248, ntmps248
 go_wp2
 go_quiet (fail)
 go_wp2
 go_ret
 exact ⟨rfl, ak B0 (cy _ _)⟩
theorem gZ (ws : List Int) (h1 : l1 = ws.length) (hL : (l1 : Int) = 2) (s1 : aQ w a1 ws) :
 Calls prog 248 #[rq 22 pl nn wa a1 a2 l1 l2 c1 c2] w fun e w' => e = .returned (.iface 304 (.agg #[.int .i64 pl, .int .i64 (ws.getD 0 0), .int .i64 (ws.getD 1 0)])) /\ Below w.heap.size w w' := by
 have B0 := ac w (.cells #[.int .i64 22, .int .i64 pl, .int .i64 nn, .slice a1 l1 c1, .slice a2 l2 c2, .int .i64 wa] 84)
 obtain ⟨b, off, rfl, hb, hc⟩ := ci (s1.below B0) (show 0 < ws.length by omega)
 obtain ⟨b2, off2, e2, hb2, hc2⟩ := ci (s1.below B0) (show 1 < ws.length by omega)
 simp at e2
 obtain ⟨rfl, rfl⟩ := e2
 have hc0 : (w.alloc (.cells #[.int .i64 22, .int .i64 pl, .int .i64 nn, .slice (some ⟨b, off, none⟩) l1 c1, .slice a2 l2 c2, .int .i64 wa] 84)).cell? ⟨b, off, none⟩ = some (.int .i64 (ws.getD 0 0)) := by simpa using hc
 clear hc h1 s1
 go_enter func248, ntmps248
 go_wp2
 go_quiet (fail)
 go_wp2
 go_ret
 exact ⟨rfl, ak B0 (cy _ _)⟩
end
theorem ll (pl nn wa : Int) (a1 a2 : Option Addr) (l1 l2 c1 c2 : Nat) (w : World) (hL : ((l2 : Int) == 1) = false) :
 Calls prog 248 #[rq 5 pl nn wa a1 a2 l1 l2 c1 c2] w fun e w' => e = .returned (.nilIface) /\ Below w.heap.size w w' := by
 have B0 := ac w (.cells #[.int .i64 5, .int .i64 pl, .int .i64 nn, .slice a1 l1 c1, .slice a2 l2 c2, .int .i64 wa] 84)
 go_enter func248, ntmps248
 go_wp2
 go_ret
 exact ⟨rfl, B0⟩
theorem lm (pl nn wa : Int) (a1 a2 : Option Addr) (l1 l2 c1 c2 : Nat) (w : World) (hL : ((l1 : Int) == 1) = false) :
 Calls prog 248 #[rq 6 pl nn wa a1 a2 l1 l2 c1 c2] w fun e w' => e = .returned (.nilIface) /\ Below w.heap.size w w' := by
 have B0 := ac w (.cells #[.int .i64 6, .int .i64 pl, .int .i64 nn, .slice a1 l1 c1, .slice a2 l2 c2, .int .i64 wa] 84)
 go_enter func248, ntmps248
 go_wp2
 go_ret
 exact ⟨rfl, B0⟩
theorem kh (pl nn wa : Int) (a1 a2 : Option Addr) (l1 l2 c1 c2 : Nat) (w : World) (hL : ((l1 : Int) == 2) = false) :
 Calls prog 248 #[rq 22 pl nn wa a1 a2 l1 l2 c1 c2] w fun e w' => e = .returned (.nilIface) /\ Below w.heap.size w w' := by
 have B0 := ac w (.cells #[.int .i64 22, .int .i64 pl, .int .i64 nn, .slice a1 l1 c1, .slice a2 l2 c2, .int .i64 wa] 84)
 go_enter func248, ntmps248
 go_wp2
 go_ret
 exact ⟨rfl, B0⟩
theorem js (kd : Int) (pl nn wa : Int) (a1 a2 : Option Addr) (l1 l2 c1 c2 : Nat) (w : World) (k1 : ¬ kd = 1) (k2 : ¬ kd = 2) (k3 : ¬ kd = 3) (k4 : ¬ kd = 4) (k5 : ¬ kd = 5) (k6 : ¬ kd = 6) (k15 : ¬ kd = 15) (k16 : ¬ kd = 16) (k22 : ¬ kd = 22) (k23 : ¬ kd = 23) :
 Calls prog 248 #[rq kd pl nn wa a1 a2 l1 l2 c1 c2] w fun e w' => e = .returned (.nilIface) /\ Below w.heap.size w w' := by
 have B0 := ac w (.cells #[.int .i64 kd, .int .i64 pl, .int .i64 nn, .slice a1 l1 c1, .slice a2 l2 c2, .int .i64 wa] 84)
 go_enter func248, ntmps248
 go_wp2
 go_ret
 exact ⟨rfl, B0⟩
theorem kC (pl nn : Int) (w : World) (b : Bool) (hb : (bM pl nn 2000) = b) :
 Calls prog 249 #[.iface 291 (.agg #[.int .i64 pl, .int .i64 nn])] w fun e w' => e = .returned (.bool b) /\ Below w.heap.size w w' := by
 have t1 := tD
 cases hR : bM pl nn 2000
 ·skip
  obtain rfl := dy false hb (by simp [hR]); clear hb
  go_enter func249, ntmps249
  go_wp2_with (first | (go_at_call 256; refine (bS _ _ _ _ (by decide) _ (by first | exact hR)).mono ?_; rintro e wx ⟨rfl, rfl⟩))
  go_ret
  exact ⟨rfl, ac _ _⟩
 skip
 obtain rfl := dy true hb (by simp [hR]); clear hb
 go_enter func249, ntmps249
 go_wp2_with (first | (go_at_call 256; refine (bS _ _ _ _ (by decide) _ (by first | exact hR)).mono ?_; rintro e wx ⟨rfl, rfl⟩))
 go_ret
 exact ⟨rfl, ac _ _⟩
theorem kD (pl nn : Int) (w : World) (b : Bool) (hb : (bM pl nn 2000) = b) :
 Calls prog 249 #[.iface 292 (.agg #[.int .i64 pl, .int .i64 nn])] w fun e w' => e = .returned (.bool b) /\ Below w.heap.size w w' := by
 have t1 := tE
 have t2 := tF
 cases hR : bM pl nn 2000
 ·skip
  obtain rfl := dy false hb (by simp [hR]); clear hb
  go_enter func249, ntmps249
  go_wp2_with (first | (go_at_call 256; refine (bS _ _ _ _ (by decide) _ (by first | exact hR)).mono ?_; rintro e wx ⟨rfl, rfl⟩))
  go_ret
  exact ⟨rfl, ac _ _⟩
 skip
 obtain rfl := dy true hb (by simp [hR]); clear hb
 go_enter func249, ntmps249
 go_wp2_with (first | (go_at_call 256; refine (bS _ _ _ _ (by decide) _ (by first | exact hR)).mono ?_; rintro e wx ⟨rfl, rfl⟩))
 go_ret
 exact ⟨rfl, ac _ _⟩
theorem kE (pl nn : Int) (w : World) (b : Bool) (hb : (bM pl nn 125) = b) :
 Calls prog 249 #[.iface 293 (.agg #[.int .i64 pl, .int .i64 nn])] w fun e w' => e = .returned (.bool b) /\ Below w.heap.size w w' := by
 have t1 := tG
 have t2 := tH
 have t3 := tI
 cases hR : bM pl nn 125
 ·skip
  obtain rfl := dy false hb (by simp [hR]); clear hb
  go_enter func249, ntmps249
  go_wp2_with (first | (go_at_call 256; refine (bS _ _ _ _ (by decide) _ (by first | exact hR)).mono ?_; rintro e wx ⟨rfl, rfl⟩))
  go_ret
  exact ⟨rfl, ac _ _⟩
 skip
 obtain rfl := dy true hb (by simp [hR]); clear hb
 go_enter func249, ntmps249
 go_wp2_with (first | (go_at_call 256; refine (bS _ _ _ _ (by decide) _ (by first | exact hR)).mono ?_; rintro e wx ⟨rfl, rfl⟩))
 go_ret
 exact ⟨rfl, ac _ _⟩
theorem kF (pl nn : Int) (w : World) (b : Bool) (hb : (bM pl nn 125) = b) :
 Calls prog 249 #[.iface 294 (.agg #[.int .i64 pl, .int .i64 nn])] w fun e w' => e = .returned (.bool b) /\ Below w.heap.size w w' := by
 have t1 := tJ
 have t2 := tK
 have t3 := tM
 have t4 := tN
 cases hR : bM pl nn 125
 ·skip
  obtain rfl := dy false hb (by simp [hR]); clear hb
  go_enter func249, ntmps249
  go_wp2_with (first | (go_at_call 256; refine (bS _ _ _ _ (by decide) _ (by first | exact hR)).mono ?_; rintro e wx ⟨rfl, rfl⟩))
  go_ret
  exact ⟨rfl, ac _ _⟩
 skip
 obtain rfl := dy true hb (by simp [hR]); clear hb
 go_enter func249, ntmps249
 go_wp2_with (first | (go_at_call 256; refine (bS _ _ _ _ (by decide) _ (by first | exact hR)).mono ?_; rintro e wx ⟨rfl, rfl⟩))
 go_ret
 exact ⟨rfl, ac _ _⟩
theorem kG (pl : Int) (x : Bool) (w : World) (b : Bool) (hb : (aw pl 0 65535) = b) :
 Calls prog 249 #[.iface 296 (.agg #[.int .i64 pl, .bool x])] w fun e w' => e = .returned (.bool b) /\ Below w.heap.size w w' := by
 have t1 := tO
 have t2 := tP
 have t3 := tQ
 have t4 := tR
 have t5 := tS
 cases hP : aw pl 0 65535
 ·skip
  obtain rfl := dy false hb (by simp [hP]); clear hb
  go_enter func249, ntmps249
  go_wp2_with (first | (go_at_call 161; refine (be _ _ _ (by first | exact hP)).mono ?_; rintro e wx ⟨rfl, rfl⟩))
  go_ret
  exact ⟨rfl, ac _ _⟩
 skip
 obtain rfl := dy true hb (by simp [hP]); clear hb
 go_enter func249, ntmps249
 go_wp2_with (first | (go_at_call 161; refine (be _ _ _ (by first | exact hP)).mono ?_; rintro e wx ⟨rfl, rfl⟩))
 go_ret
 exact ⟨rfl, ac _ _⟩
theorem kH (pl x : Int) (w : World) (b : Bool) (hb : (aw pl 0 65535 && aw x 0 65535) = b) :
 Calls prog 249 #[.iface 298 (.agg #[.int .i64 pl, .int .i64 x])] w fun e w' => e = .returned (.bool b) /\ Below w.heap.size w w' := by
 have t1 := tU
 have t2 := tV
 have t3 := tW
 have t4 := tX
 have t5 := tY
 have t6 := tZ
 cases hP : aw pl 0 65535
 ·skip
  obtain rfl := dy false hb (by simp [hP]); clear hb
  go_enter func249, ntmps249
  go_wp2_with (first | (go_at_call 161; refine (be _ _ _ (by first | exact hP)).mono ?_; rintro e wx ⟨rfl, rfl⟩))
  go_ret
  exact ⟨rfl, ac _ _⟩
 skip
 cases hX : aw x 0 65535
 ·skip
  obtain rfl := dy false hb (by simp [hP, hX]); clear hb
  go_enter func249, ntmps249
  go_wp2_with (first | (go_at_call 161; refine (be _ _ _ (by first | exact hP | exact hX)).mono ?_; rintro e wx ⟨rfl, rfl⟩))
  go_ret
  exact ⟨rfl, ac _ _⟩
 skip
 obtain rfl := dy true hb (by simp [hP, hX]); clear hb
 go_enter func249, ntmps249
 go_wp2_with (first | (go_at_call 161; refine (be _ _ _ (by first | exact hP | exact hX)).mono ?_; rintro e wx ⟨rfl, rfl⟩))
 go_ret
 exact ⟨rfl, ac _ _⟩
theorem jt (pl : Int) (a2 : Option Addr) (l2 c2 : Nat) (w : World) (b : Bool) (hb : (bM pl (l2 : Int) 1968) = b) :
 Calls prog 249 #[.iface 300 (.agg #[.int .i64 pl, .slice a2 l2 c2])] w fun e w' => e = .returned (.bool b) /\ Below w.heap.size w w' := by
 have t1 := rW
 have t2 := rX
 have t3 := rY
 have t4 := rZ
 have t5 := sa
 have t6 := sb
 have t15 := qt
 cases hR : bM pl (l2 : Int) 1968
 ·skip
  obtain rfl := dy false hb (by simp [hR]); clear hb
  go_enter func249, ntmps249
  go_wp2_with (first | (go_at_call 256; refine (bS _ _ _ _ (by decide) _ (by first | exact hR)).mono ?_; rintro e wx ⟨rfl, rfl⟩))
  go_ret
  exact ⟨rfl, ac _ _⟩
 skip
 obtain rfl := dy true hb (by simp [hR]); clear hb
 go_enter func249, ntmps249
 go_wp2_with (first | (go_at_call 256; refine (bS _ _ _ _ (by decide) _ (by first | exact hR)).mono ?_; rintro e wx ⟨rfl, rfl⟩))
 go_ret
 exact ⟨rfl, ac _ _⟩
theorem ju (pl : Int) (a1 : Option Addr) (l1 c1 : Nat) (ws : List Int) (w : World) (h1 : l1 = ws.length) (s1 : aQ w a1 ws) (hl1 : ws.length <= 2000000) (b : Bool) (hb : (bM pl (l1 : Int) 123 && bN ws) = b) :
 Calls prog 249 #[.iface 302 (.agg #[.int .i64 pl, .slice a1 l1 c1])] w fun e w' => e = .returned (.bool b) /\ Below w.heap.size w w' := by
 have t1 := sc
 have t2 := sd
 have t3 := sg
 have t4 := si
 have t5 := sm
 have t6 := sn
 have t15 := qu
 have t16 := qv
 have H1 : Hid (l1 = ws.length) := h1
 have S1 : Hid (aQ (w.alloc (.cells #[.int .i64 pl, .slice a1 l1 c1] 302)) a1 ws) := s1.below (ac _ _)
 clear h1 s1
 cases hR : bM pl (l1 : Int) 123
 ·skip
  obtain rfl := dy false hb (by simp [hR]); clear hb
  go_enter func249, ntmps249
  go_wp2_with (first | (go_at_call 256; refine (bS _ _ _ _ (by decide) _ (by first | exact hR)).mono ?_; rintro e wx ⟨rfl, rfl⟩))
  go_ret
  exact ⟨rfl, ac _ _⟩
 skip
 cases hW : bN ws
 ·skip
  obtain rfl := dy false hb (by simp [hR, hW]); clear hb
  go_enter func249, ntmps249
  go_wp2_with (first | (go_at_call 256; refine (bS _ _ _ _ (by decide) _ (by first | exact hR)).mono ?_; rintro e wx ⟨rfl, rfl⟩) | (go_at_call 225; refine (ct _ _ _ ws _ H1.out S1.out hl1 _ hW).mono ?_; rintro e wx ⟨rfl, rfl⟩))
  go_ret
  exact ⟨rfl, ac _ _⟩
 skip
 obtain rfl := dy true hb (by simp [hR, hW]); clear hb
 go_enter func249, ntmps249
 go_wp2_with (first | (go_at_call 256; refine (bS _ _ _ _ (by decide) _ (by first | exact hR)).mono ?_; rintro e wx ⟨rfl, rfl⟩) | (go_at_call 225; refine (ct _ _ _ ws _ H1.out S1.out hl1 _ hW).mono ?_; rintro e wx ⟨rfl, rfl⟩))
 go_ret
 exact ⟨rfl, ac _ _⟩
theorem jv (pl x y : Int) (w : World) (b : Bool) (hb : (aw pl 0 65535 && (aw x 0 65535 && aw y 0 65535)) = b) :
 Calls prog 249 #[.iface 304 (.agg #[.int .i64 pl, .int .i64 x, .int .i64 y])] w fun e w' => e = .returned (.bool b) /\ Below w.heap.size w w' := by
 have t1 := sq
 have t2 := su
 have t3 := sw
 have t4 := sx
 have t5 := sy
 have t6 := sA
 have t15 := qw
 have t16 := qx
 have t22 := qy
 cases hP : aw pl 0 65535
 ·skip
  obtain rfl := dy false hb (by simp [hP]); clear hb
  go_enter func249, ntmps249
  go_wp2_with (first | (go_at_call 161; refine (be _ _ _ (by first | exact hP)).mono ?_; rintro e wx ⟨rfl, rfl⟩))
  go_ret
  exact ⟨rfl, ac _ _⟩
 skip
 cases hX : aw x 0 65535
 ·skip
  obtain rfl := dy false hb (by simp [hP, hX]); clear hb
  go_enter func249, ntmps249
  go_wp2_with (first | (go_at_call 161; refine (be _ _ _ (by first | exact hP | exact hX)).mono ?_; rintro e wx ⟨rfl, rfl⟩))
  go_ret
  exact ⟨rfl, ac _ _⟩
 skip
 cases hY : aw y 0 65535
 ·skip
  obtain rfl := dy false hb (by simp [hP, hX, hY]); clear hb
  go_enter func249, ntmps249
  go_wp2_with (first | (go_at_call 161; refine (be _ _ _ (by first | exact hP | exact hX | exact hY)).mono ?_; rintro e wx ⟨rfl, rfl⟩))
  go_ret
  exact ⟨rfl, ac _ _⟩
 skip
 obtain rfl := dy true hb (by simp [hP, hX, hY]); clear hb
 go_enter func249, ntmps249
 go_wp2_with (first | (go_at_call 161; refine (be _ _ _ (by first | exact hP | exact hX | exact hY)).mono ?_; rintro e wx ⟨rfl, rfl⟩))
 go_ret
 exact ⟨rfl, ac _ _⟩
theorem jw (pl nn wa : Int) (a1 : Option Addr) (l1 c1 : Nat) (ws : List Int) (w : World) (h1 : l1 = ws.length) (s1 : aQ w a1 ws) (hl1 : ws.length <= 2000000) (b : Bool) (hb : (bM pl nn 125 && (bM wa (l1 : Int) 121 && bN ws)) = b) :
 Calls prog 249 #[.iface 306 (.agg #[.int .i64 pl, .int .i64 nn, .int .i64 wa, .slice a1 l1 c1])] w fun e w' => e = .returned (.bool b) /\ Below w.heap.size w w' := by
 have t1 := sB
 have t2 := sC
 have t3 := sD
 have t4 := sE
 have t5 := sF
 have t6 := sG
 have t15 := qz
 have t16 := qA
 have t22 := qB
 have t23 := qC
 have H1 : Hid (l1 = ws.length) := h1
 have S1 : Hid (aQ (w.alloc (.cells #[.int .i64 pl, .int .i64 nn, .int .i64 wa, .slice a1 l1 c1] 306)) a1 ws) := s1.below (ac _ _)
 clear h1 s1
 cases hR : bM pl nn 125
 ·skip
  obtain rfl := dy false hb (by simp [hR]); clear hb
  go_enter func249, ntmps249
  go_wp2_with (first | (go_at_call 256; refine (bS _ _ _ _ (by decide) _ (by first | exact hR)).mono ?_; rintro e wx ⟨rfl, rfl⟩))
  go_ret
  exact ⟨rfl, ac _ _⟩
 skip
 cases hQ : bM wa (l1 : Int) 121
 ·skip
  obtain rfl := dy false hb (by simp [hR, hQ]); clear hb
  go_enter func249, ntmps249
  go_wp2_with (first | (go_at_call 256; refine (bS _ _ _ _ (by decide) _ (by first | exact hR | exact hQ)).mono ?_; rintro e wx ⟨rfl, rfl⟩))
  go_ret
  exact ⟨rfl, ac _ _⟩
 skip
 cases hW : bN ws
 ·skip
  obtain rfl := dy false hb (by simp [hR, hQ, hW]); clear hb
  go_enter func249, ntmps249
  go_wp2_with (first | (go_at_call 256; refine (bS _ _ _ _ (by decide) _ (by first | exact hR | exact hQ)).mono ?_; rintro e wx ⟨rfl, rfl⟩) | (go_at_call 225; refine (ct _ _ _ ws _ H1.out S1.out hl1 _ hW).mono ?_; rintro e wx ⟨rfl, rfl⟩))
  go_ret
  exact ⟨rfl, ac _ _⟩
 skip
 obtain rfl := dy true hb (by simp [hR, hQ, hW]); clear hb
 go_enter func249, ntmps249
 go_wp2_with (first | (go_at_call 256; refine (bS _ _ _ _ (by decide) _ (by first | exact hR | exact hQ)).mono ?_; rintro e wx ⟨rfl, rfl⟩) | (go_at_call 225; refine (ct _ _ _ ws _ H1.out S1.out hl1 _ hW).mono ?_; rintro e wx ⟨rfl, rfl⟩))
 go_ret
 exact ⟨rfl, ac _ _⟩
theorem fT (w : World) : Calls prog 249 #[.nilIface] w fun e w' => e = .returned (.bool false) /\ Below w.heap.size w w' := by
 have t1 := ua
 have t2 := ub
 have t3 := uc
 have t4 := ud
 have t5 := ue
 have t6 := uf
 have t15 := sH
 have t16 := sI
 have t22 := sJ
 have t23 := sK
 go_enter func249, ntmps249
 go_wp2
 go_ret
 exact ⟨rfl, Below.refl _ _⟩
end Go.Proofs.YtplaoagcedgdfaaGreat

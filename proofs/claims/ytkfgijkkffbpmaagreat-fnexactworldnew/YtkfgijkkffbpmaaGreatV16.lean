/- Texts that the proof needs, joined: Wp2 Nog Wp3 Wp4. -/
import Derived.Test.YtkfgijkkffbpmaaGreatV15
import Derived.Test.YtkfgijkkffbpmaaGreatV4
import Derived.Test.YtkfgijkkffbpmaaGreatV8
import Derived.Test.YtkfgijkkffbpmaaGreatV10
import Derived.Laws.StructEq
set_option linter.unusedVariables false
set_option linter.unusedSimpArgs false
set_option maxHeartbeats 8000000
set_option maxRecDepth 20000
namespace Go.Proofs.YtkfgijkkffbpmaaGreat
open Go.RowKit Go.Joins
theorem run_bs1S (X : VS) (b1 : Option Addr) (l1 d1 : Nat) (b2 : Option Addr) (l2 d2 : Nat) (b3 : Option Addr) (l3 d3 : Nat) (b4 : Option Addr) (l4 d4 : Nat) (w : World) : (Instr.buildSlice 57 1 #[(0, .agg (xsL X b1 l1 d1 b2 l2 d2 b3 l3 d3 b4 l4 d4).toArray)]).run Tryz.prog w = .ok (.slice (some ⟨w.heap.size, 0, none⟩) 1 1) (w.alloc (.cells (xsL X b1 l1 d1 b2 l2 d2 b3 l3 d3 b4 l4 d4).toArray 128)) := by kernel_rfl
theorem l15CopyPosts_m (n : Nat) (f : Nat -> VS) (a : Option Addr) (n' cap : Nat) (w : World) (hs : Rd w 0 (.list 6 n (fun k => trs (xsT (f k)))) (.slice a n' cap)) (hz : (Tr.list 6 n (fun k => trs (xsT (f k)))).sz <= 1048576) :
 Calls Tryz.prog 71 #[.slice a n' cap] w fun e w' => ∃ v, e = .returned v /\ LsG w' w.heap.size 128 6 v n (fun k => xsT (f k)) /\ Below w.heap.size w w' := by
 obtain ⟨a9, c9, h9, -, hn⟩ := hs.shape
 simp only [Value.slice.injEq] at h9
 obtain ⟨-, rfl, -⟩ := h9
 clear a9 c9
 have HN : Hid (n' <= 1048576) := by show n' <= 1048576; rw [Tr.sz_list] at hz; omega
 have hn1 : n' <= 1048576 := HN.out
 have HZ : Hid (∀ k, k < n' -> szT 4 (trs (xdT (f k).d)) <= 1048576) := by
  show ∀ k, k < n' -> szT 4 (trs (xdT (f k).d)) <= 1048576
  intro k hk
  rw [Tr.sz_list] at hz
  have h8 := sumN_at (fun k => szT 6 (trs (xsT (f k)))) hk
  have h7 : szT 6 (trs (xsT (f k))) = szT 4 (trs (xdT (f k).d)) := by rw [szT_xs, szT_xd]
  omega
 have HS : Hid (Rd w 0 (.list 6 n' (fun k => trs (xsT (f k)))) (.slice a n' cap) /\ n' <= maxLen) := ⟨hs, hn⟩
 clear hs hz hn
 go_enter Tryz.func71, Tryz.ntmps71
 go_wp2
 go_loopw [3, 4] (fun s i wr => ∃ (k : Nat), k <= n' /\ i = .int .i64 k /\ LsG wr w.heap.size 128 6 s k (fun i => xsT (f i)) /\ Below w.heap.size w wr) (fun _ i _ => n' - (intOf i).toNat)
 case atStart => exact ⟨0, Nat.zero_le _, rfl, LsG.new _ _ _ _ _ (Nat.le_refl _), (Below.refl _ _).alloc (Nat.le_refl _) _⟩
 case round =>
  obtain ⟨k, hk, rfl, hl, hb⟩ := hrel
  by_cases hlt : k < n'
  ·have hi : (k : Int) < (n' : Int) := by omega
   obtain ⟨b, off, vs, rfl, _, hb0, hlen, hr, hrd⟩ := (HS.out.1.below hb).at hlt
   obtain ⟨a1, c1, a2, c2, a3, c3, a4, c4, rfl, r1, r2, r3, r4⟩ := VS.cells hrd hlen
   have HR : Hid (wr.rangeAt b (off + k * 6) (xsL (f k) a1 (f k).d.co.length c1 a2 (f k).d.ip.length c2 a3 (f k).d.ho.length c3 a4 (f k).d.wd.length c4) /\ b < wr.heap.size) := ⟨hr, hb0⟩
   have HK : Hid (LsG wr w.heap.size 128 6 u3 k (fun i => xsT (f i)) /\ Below w.heap.size w wr /\ Rd wr 0 (boolsT (f k).d.co) (.slice a1 (f k).d.co.length c1) /\ Rd wr 0 (boolsT (f k).d.ip) (.slice a2 (f k).d.ip.length c2) /\ Rd wr 0 (intsT (f k).d.ho) (.slice a3 (f k).d.ho.length c3) /\ Rd wr 0 (intsT (f k).d.wd) (.slice a4 (f k).d.wd.length c4) /\ szT 4 (trs (xdT (f k).d)) <= 1048576) := ⟨hl, hb, r1, r2, r3, r4, HZ.out k hlt⟩
   clear hl hb hr hb0 r1 r2 r3 r4 hlen hrd
   go_upto_region 5 with fail
   try go_simp
   refine wp_region_any (by kernel_rfl) ?_
   refine wpAny_tl 19 (fun u => Below wr.heap.size wr u) (fun j σ u => match j with
    | 19 => ∃ v', σ 31 = v' /\ LsG u w.heap.size 128 6 v' (k + 1) (fun i => xsT (f i)) /\ Below w.heap.size w u
    | _ => ∃ v', σ 3 = v' /\ LsG u w.heap.size 128 6 v' (k + 1) (fun i => xsT (f i)) /\ Below w.heap.size w u) (fun i v u => match i with
    | 0 => v = u3
    | 1 => v = .slice (some ⟨b, off, none⟩) n' cap
    | 2 => v = .int .i64 (k : Int)
    | 3 => v = .pointer (some ⟨b, off + k * 6, none⟩)
    | 4 => v = .pointer (some ⟨b, off + k * 6, none⟩)
    | 5 => v = .int .i64 (f k).po
    | 6 => v = .slice (some ⟨b, off, none⟩) n' cap
    | 7 => v = .int .i64 (k : Int)
    | 8 => v = .pointer (some ⟨b, off + k * 6, none⟩)
    | 9 => v = .pointer (some ⟨b, off + k * 6 + 1, none⟩)
    | 10 => v = .int .i64 (f k).un
    | 11 => v = .slice (some ⟨b, off, none⟩) n' cap
    | 12 => v = .int .i64 (k : Int)
    | 13 => v = .pointer (some ⟨b, off + k * 6, none⟩)
    | 14 => v = .pointer (some ⟨b, off + k * 6 + 2, none⟩)
    | 15 => v = .agg ([.slice a1 ((f k).d.co.length) c1, .slice a2 ((f k).d.ip.length) c2, .slice a3 ((f k).d.ho.length) c3, .slice a4 ((f k).d.wd.length) c4]).toArray
    | 16 => ∃ b1 d1 b2 d2 b3 d3 b4 d4, v = .agg (xdL (f k).d b1 (f k).d.co.length d1 b2 (f k).d.ip.length d2 b3 (f k).d.ho.length d3 b4 (f k).d.wd.length d4).toArray /\ Fl u wr.heap.size (xdT (f k).d) (xdL (f k).d b1 (f k).d.co.length d1 b2 (f k).d.ip.length d2 b3 (f k).d.ho.length d3 b4 (f k).d.wd.length d4)
    | 17 => ∃ b1 d1 b2 d2 b3 d3 b4 d4, v = .agg (xsL (f k) b1 (f k).d.co.length d1 b2 (f k).d.ip.length d2 b3 (f k).d.ho.length d3 b4 (f k).d.wd.length d4).toArray /\ Fl u wr.heap.size (xdT (f k).d) (xdL (f k).d b1 (f k).d.co.length d1 b2 (f k).d.ip.length d2 b3 (f k).d.ho.length d3 b4 (f k).d.wd.length d4)
    | 18 => ∃ c b1 d1 b2 d2 b3 d3 b4 d4, v = .slice (some ⟨c, 0, none⟩) 1 1 /\ Blk u c 128 (xsL (f k) b1 (f k).d.co.length d1 b2 (f k).d.ip.length d2 b3 (f k).d.ho.length d3 b4 (f k).d.wd.length d4).toArray /\ Fl u wr.heap.size (xdT (f k).d) (xdL (f k).d b1 (f k).d.co.length d1 b2 (f k).d.ip.length d2 b3 (f k).d.ho.length d3 b4 (f k).d.wd.length d4)
    | _ => True) (by kernel_rfl) (by kernel_rfl) (by decide) (by kernel_rfl) (fun u u' h hb => bel_nx h hb) ?_ (by first | exact Below.refl _ _ | exact (Below.refl _ _).drew) ?_ ?_ ?_ ?_ _ _ rfl (by decide) (fun i => by simp [Array.getD]; try (split <;> rfl))
   ·intro i v u u' h hb
    match i, h with
    | 0, h => exact h
    | 1, h => exact h
    | 2, h => exact h
    | 3, h => exact h
    | 4, h => exact h
    | 5, h => exact h
    | 6, h => exact h
    | 7, h => exact h
    | 8, h => exact h
    | 9, h => exact h
    | 10, h => exact h
    | 11, h => exact h
    | 12, h => exact h
    | 13, h => exact h
    | 14, h => exact h
    | 15, h => exact h
    | 16, ⟨b1, d1, b2, d2, b3, d3, b4, d4, e, h2⟩ => exact ⟨b1, d1, b2, d2, b3, d3, b4, d4, e, h2.below hb⟩
    | 17, ⟨b1, d1, b2, d2, b3, d3, b4, d4, e, h2⟩ => exact ⟨b1, d1, b2, d2, b3, d3, b4, d4, e, h2.below hb⟩
    | 18, ⟨c, b1, d1, b2, d2, b3, d3, b4, d4, e, kb, h2⟩ => exact ⟨c, b1, d1, b2, d2, b3, d3, b4, d4, e, kb.below hb, h2.below hb⟩
    | _ + 19, _ => trivial
   rotate_left
   ·intro u i o ρ hi hR ho hρ hc hf hd
    obtain rfl | rfl | rfl | rfl | rfl | rfl | rfl | rfl | rfl | rfl | rfl | rfl | rfl | rfl | rfl | rfl | rfl | rfl | rfl : i = 0 \/ i = 1 \/ i = 2 \/ i = 3 \/ i = 4 \/ i = 5 \/ i = 6 \/ i = 7 \/ i = 8 \/ i = 9 \/ i = 10 \/ i = 11 \/ i = 12 \/ i = 13 \/ i = 14 \/ i = 15 \/ i = 16 \/ i = 17 \/ i = 18 := by omega
    all_goals (simp only [List.getElem?_toArray, List.getElem?_cons_zero, List.getElem?_cons_succ, Option.some.injEq] at ho; subst ho)
    ·have s3 : ρ (.tmp 3) = u3 := (hρ 3 (by kernel_rfl)).trans rfl
     exact .inl ⟨rfl, .inl ⟨_, u, rfl, s3, Below.refl _ _⟩⟩
    ·have s0 : ρ (.tmp 0) = .slice (some ⟨b, off, none⟩) n' cap := (hρ 0 (by kernel_rfl)).trans rfl
     exact .inl ⟨rfl, .inl ⟨_, u, rfl, s0, Below.refl _ _⟩⟩
    ·have s4 : ρ (.tmp 4) = .int .i64 (k : Int) := (hρ 4 (by kernel_rfl)).trans rfl
     exact .inl ⟨rfl, .inl ⟨_, u, rfl, s4, Below.refl _ _⟩⟩
    ·have h1 : ρ (.tmp 13) = .slice (some ⟨b, off, none⟩) n' cap := hd ⟨1, .data⟩ (by simp) rfl 13 rfl
     have h2 : ρ (.tmp 14) = .int .i64 (k : Int) := hd ⟨2, .data⟩ (by simp) rfl 14 rfl
     exact .inl ⟨rfl, .inl ⟨.pointer (some ⟨b, off + k * 6, none⟩), u, run_index_op rfl h1 h2 (by go_simp), rfl, Below.refl _ _⟩⟩
    ·have h3 : ρ (.tmp 15) = .pointer (some ⟨b, off + k * 6, none⟩) := hd ⟨3, .data⟩ (by simp) rfl 15 rfl
     exact .inl ⟨rfl, .inl ⟨.pointer (some ⟨b, off + k * 6, none⟩), u, run_field_op rfl h3 (by go_simp), rfl, Below.refl _ _⟩⟩
    ·have h4 : ρ (.tmp 16) = .pointer (some ⟨b, off + k * 6, none⟩) := hd ⟨4, .data⟩ (by simp) rfl 16 rfl
     have y9 : u.cell? ⟨b, off + k * 6, none⟩ = some (.int .i64 (f k).po) := (rangeAt_below HR.out.1 HR.out.2 hR) 0 _ rfl
     have hr : (Instr.loadAt 3 (.pointer (some ⟨b, off + k * 6, none⟩))).run Tryz.prog u = .ok (.int .i64 (f k).po) u := by go_simp
     exact .inl ⟨rfl, .inl ⟨.int .i64 (f k).po, u, run_load_op rfl h4 hr, rfl, Below.refl _ _⟩⟩
    ·have s0 : ρ (.tmp 0) = .slice (some ⟨b, off, none⟩) n' cap := (hρ 0 (by kernel_rfl)).trans rfl
     exact .inl ⟨rfl, .inl ⟨_, u, rfl, s0, Below.refl _ _⟩⟩
    ·have s4 : ρ (.tmp 4) = .int .i64 (k : Int) := (hρ 4 (by kernel_rfl)).trans rfl
     exact .inl ⟨rfl, .inl ⟨_, u, rfl, s4, Below.refl _ _⟩⟩
    ·have h6 : ρ (.tmp 18) = .slice (some ⟨b, off, none⟩) n' cap := hd ⟨6, .data⟩ (by simp) rfl 18 rfl
     have h7 : ρ (.tmp 19) = .int .i64 (k : Int) := hd ⟨7, .data⟩ (by simp) rfl 19 rfl
     exact .inl ⟨rfl, .inl ⟨.pointer (some ⟨b, off + k * 6, none⟩), u, run_index_op rfl h6 h7 (by go_simp), rfl, Below.refl _ _⟩⟩
    ·have h8 : ρ (.tmp 20) = .pointer (some ⟨b, off + k * 6, none⟩) := hd ⟨8, .data⟩ (by simp) rfl 20 rfl
     exact .inl ⟨rfl, .inl ⟨.pointer (some ⟨b, off + k * 6 + 1, none⟩), u, run_field_op rfl h8 (by go_simp), rfl, Below.refl _ _⟩⟩
    ·have h9 : ρ (.tmp 21) = .pointer (some ⟨b, off + k * 6 + 1, none⟩) := hd ⟨9, .data⟩ (by simp) rfl 21 rfl
     have y9 : u.cell? ⟨b, off + k * 6 + 1, none⟩ = some (.int .i64 (f k).un) := (rangeAt_below HR.out.1 HR.out.2 hR) 1 _ rfl
     have hr : (Instr.loadAt 3 (.pointer (some ⟨b, off + k * 6 + 1, none⟩))).run Tryz.prog u = .ok (.int .i64 (f k).un) u := by go_simp
     exact .inl ⟨rfl, .inl ⟨.int .i64 (f k).un, u, run_load_op rfl h9 hr, rfl, Below.refl _ _⟩⟩
    ·have s0 : ρ (.tmp 0) = .slice (some ⟨b, off, none⟩) n' cap := (hρ 0 (by kernel_rfl)).trans rfl
     exact .inl ⟨rfl, .inl ⟨_, u, rfl, s0, Below.refl _ _⟩⟩
    ·have s4 : ρ (.tmp 4) = .int .i64 (k : Int) := (hρ 4 (by kernel_rfl)).trans rfl
     exact .inl ⟨rfl, .inl ⟨_, u, rfl, s4, Below.refl _ _⟩⟩
    ·have h11 : ρ (.tmp 23) = .slice (some ⟨b, off, none⟩) n' cap := hd ⟨11, .data⟩ (by simp) rfl 23 rfl
     have h12 : ρ (.tmp 24) = .int .i64 (k : Int) := hd ⟨12, .data⟩ (by simp) rfl 24 rfl
     exact .inl ⟨rfl, .inl ⟨.pointer (some ⟨b, off + k * 6, none⟩), u, run_index_op rfl h11 h12 (by go_simp), rfl, Below.refl _ _⟩⟩
    ·have h13 : ρ (.tmp 25) = .pointer (some ⟨b, off + k * 6, none⟩) := hd ⟨13, .data⟩ (by simp) rfl 25 rfl
     exact .inl ⟨rfl, .inl ⟨.pointer (some ⟨b, off + k * 6 + 2, none⟩), u, run_field_op rfl h13 (by go_simp), rfl, Below.refl _ _⟩⟩
    ·have h14 : ρ (.tmp 26) = .pointer (some ⟨b, off + k * 6 + 2, none⟩) := hd ⟨14, .data⟩ (by simp) rfl 26 rfl
     have hr : (Instr.loadAt 126 (.pointer (some ⟨b, off + k * 6 + 2, none⟩))).run Tryz.prog u = .ok (.agg ([.slice a1 ((f k).d.co.length) c1, .slice a2 ((f k).d.ip.length) c2, .slice a3 ((f k).d.ho.length) c3, .slice a4 ((f k).d.wd.length) c4]).toArray) u := run_loadAt_mid u b (off + k * 6 + 2) 126 ([.slice a1 ((f k).d.co.length) c1, .slice a2 ((f k).d.ip.length) c2, .slice a3 ((f k).d.ho.length) c3, .slice a4 ((f k).d.wd.length) c4]) _ (rangeAt_mid [.int .i64 (f k).po, .int .i64 (f k).un] [.slice a1 ((f k).d.co.length) c1, .slice a2 ((f k).d.ip.length) c2, .slice a3 ((f k).d.ho.length) c3, .slice a4 ((f k).d.wd.length) c4] [] (rangeAt_below HR.out.1 HR.out.2 hR) rfl) Tryz.underlying126 rfl (by kernel_rfl)
     exact .inl ⟨rfl, .inl ⟨.agg ([.slice a1 ((f k).d.co.length) c1, .slice a2 ((f k).d.ip.length) c2, .slice a3 ((f k).d.ho.length) c3, .slice a4 ((f k).d.wd.length) c4]).toArray, u, run_load_op rfl h14 hr, rfl, Below.refl _ _⟩⟩
    ·have h15 : ρ (.tmp 27) = .agg (xdL (f k).d a1 (f k).d.co.length c1 a2 (f k).d.ip.length c2 a3 (f k).d.ho.length c3 a4 (f k).d.wd.length c4).toArray := hd ⟨15, .data⟩ (by simp) rfl 27 rfl
     refine .inl ⟨rfl, .inr ⟨_, _, run_call_op rfl (hf _) (args := #[.agg (xdL (f k).d a1 (f k).d.co.length c1 a2 (f k).d.ip.length c2 a3 (f k).d.ho.length c3 a4 (f k).d.wd.length c4).toArray]) (by simp [h15]) (by kernel_rfl), ?_⟩⟩
     refine (l5Copy_m (f k).d a1 _ c1 a2 _ c2 a3 _ c3 a4 _ c4 _ (HK.out.2.2.1.below hR) (HK.out.2.2.2.1.below hR) (HK.out.2.2.2.2.1.below hR) (HK.out.2.2.2.2.2.1.below hR) HK.out.2.2.2.2.2.2).mono ?_
     rintro e u' ⟨b1, d1, b2, d2, b3, d3, b4, d4, he, o1, b'⟩
     exact ⟨_, he, ⟨b1, d1, b2, d2, b3, d3, b4, d4, rfl, o1.fl.mono hR.size⟩, b'⟩
    ·obtain ⟨b1, d1, b2, d2, b3, d3, b4, d4, h16, ho⟩ : ∃ b1 d1 b2 d2 b3 d3 b4 d4, ρ (.tmp 28) = .agg (xdL (f k).d b1 (f k).d.co.length d1 b2 (f k).d.ip.length d2 b3 (f k).d.ho.length d3 b4 (f k).d.wd.length d4).toArray /\ Fl u wr.heap.size (xdT (f k).d) (xdL (f k).d b1 (f k).d.co.length d1 b2 (f k).d.ip.length d2 b3 (f k).d.ho.length d3 b4 (f k).d.wd.length d4) := hd ⟨16, .data⟩ (by simp) rfl 28 rfl
     have h5 : ρ (.tmp 17) = .int .i64 (f k).po := hd ⟨5, .data⟩ (by simp) rfl 17 rfl
     have h10 : ρ (.tmp 22) = .int .i64 (f k).un := hd ⟨10, .data⟩ (by simp) rfl 22 rfl
     exact .inl ⟨rfl, .inl ⟨.agg (xsL (f k) b1 (f k).d.co.length d1 b2 (f k).d.ip.length d2 b3 (f k).d.ho.length d3 b4 (f k).d.wd.length d4).toArray, u, run_bldz rfl (qs := #[(0, .int .i64 (f k).po), (1, .int .i64 (f k).un), (2, .agg (xdL (f k).d b1 (f k).d.co.length d1 b2 (f k).d.ip.length d2 b3 (f k).d.ho.length d3 b4 (f k).d.wd.length d4).toArray)]) (by simp [h5, h10, h16]) (by kernel_rfl), ⟨b1, d1, b2, d2, b3, d3, b4, d4, rfl, ho⟩, Below.refl _ _⟩⟩
    obtain ⟨b1, d1, b2, d2, b3, d3, b4, d4, h17, ho2⟩ : ∃ b1 d1 b2 d2 b3 d3 b4 d4, ρ (.tmp 29) = .agg (xsL (f k) b1 (f k).d.co.length d1 b2 (f k).d.ip.length d2 b3 (f k).d.ho.length d3 b4 (f k).d.wd.length d4).toArray /\ Fl u wr.heap.size (xdT (f k).d) (xdL (f k).d b1 (f k).d.co.length d1 b2 (f k).d.ip.length d2 b3 (f k).d.ho.length d3 b4 (f k).d.wd.length d4) := hd ⟨17, .data⟩ (by simp) rfl 29 rfl
    exact .inl ⟨rfl, .inl ⟨_, _, run_build_op rfl (qs := #[(0, .agg (xsL (f k) b1 (f k).d.co.length d1 b2 (f k).d.ip.length d2 b3 (f k).d.ho.length d3 b4 (f k).d.wd.length d4).toArray)]) (by simp [h17]) (run_bs1S (f k) b1 _ d1 b2 _ d2 b3 _ d3 b4 _ d4 u), ⟨_, b1, d1, b2, d2, b3, d3, b4, d4, rfl, Blk.new _ _ _, ho2.below (bel_alloc _ _)⟩, (Below.refl _ _).alloc (Nat.le_refl _) _⟩⟩
   ·intro u o ρ hR ho hρ hc hf hv
    simp only [List.getElem?_toArray, List.getElem?_cons_zero, List.getElem?_cons_succ, Option.some.injEq] at ho
    subst ho
    have h0 : ρ (.tmp 12) = u3 := hv 0 12 (by decide) rfl
    obtain ⟨c, b1, d1, b2, d2, b3, d3, b4, d4, h18, kb, ho2⟩ : ∃ c b1 d1 b2 d2 b3 d3 b4 d4, ρ (.tmp 30) = .slice (some ⟨c, 0, none⟩) 1 1 /\ Blk u c 128 (xsL (f k) b1 (f k).d.co.length d1 b2 (f k).d.ip.length d2 b3 (f k).d.ho.length d3 b4 (f k).d.wd.length d4).toArray /\ Fl u wr.heap.size (xdT (f k).d) (xdL (f k).d b1 (f k).d.co.length d1 b2 (f k).d.ip.length d2 b3 (f k).d.ho.length d3 b4 (f k).d.wd.length d4) := hv 18 30 (by decide) rfl
    have op : Fl u wr.heap.size (xsT (f k)) (xsL (f k) b1 (f k).d.co.length d1 b2 (f k).d.ip.length d2 b3 (f k).d.ho.length d3 b4 (f k).d.wd.length d4) := (ho2.leaf (.int .i64 (f k).un)).leaf (.int .i64 (f k).po)
    have hL := HK.out.1.below hR
    obtain ⟨v', w', hrun, L', g', k'⟩ := run_appG 57 57 128 6 112 (.agg #[.int .i64 0, .int .i64 0, .slice none 0 0, .slice none 0 0, .slice none 0 0, .slice none 0 0]) Tryz.underlying57 (by kernel_rfl) rfl (by decide) (by decide) w.heap.size u3 k (fun i => xsT (f i)) hL c 1 (xsL (f k) b1 (f k).d.co.length d1 b2 (f k).d.ip.length d2 b3 (f k).d.ho.length d3 b4 (f k).d.wd.length d4) rfl (fun j x hx => kb.cell j (by simpa using hx)) (fun x hx => by simp at hx; rcases hx with rfl | rfl | rfl | rfl | rfl | rfl <;> rfl) (op.elG HK.out.2.1.size (fun j hj => (HK.out.1.lt j hj).2)) (by have := HN.out; omega) (Nat.le_trans HK.out.2.1.size hR.size)
    exact ⟨rfl, .inl ⟨_, w', run_app_x rfl h0 h18 hrun, v', updS_eqX, L', (bel_nx HK.out.2.1 hR).grown g' (Nat.le_trans HK.out.2.1.size hR.size) k'⟩⟩
   ·intro u i o ρ hi ho hE hρ hc hf
    have hi2 : i + 1 < 21 := by
     have := (Array.getElem?_eq_some_iff.1 ho).1
     simpa using this
    obtain rfl : i = 19 := by omega
    all_goals (simp only [List.getElem?_toArray, List.getElem?_cons_zero, List.getElem?_cons_succ, Option.some.injEq] at ho; subst ho)
    obtain ⟨v', e1, L', b'⟩ := hE
    have e1' : ρ (.tmp 31) = v' := e1
    exact ⟨rfl, .inl ⟨_, u, run_asg_x rfl e1', v', updS_eqX, L', b'⟩⟩
   intro vs σ u hE hvs
   obtain ⟨v', e3, L', b'⟩ : ∃ v', σ 3 = v' /\ LsG u w.heap.size 128 6 v' (k + 1) (fun i => xsT (f i)) /\ Below w.heap.size w u := hE
   have e9 : vs 20 = v' := (hvs 20 3 rfl).trans e3
   simp only [putsL]
   rw [e9]
   have H2 : Hid (LsG u w.heap.size 128 6 v' (k + 1) (fun i => xsT (f i)) /\ Below w.heap.size w u) := ⟨L', b'⟩
   clear e9 e3 hvs L' b' HK HR
   try go_simp
   go_wp2
   go_roundw
   case rel => exact ⟨k + 1, by omega, by go_num, H2.out.1, H2.out.2⟩
   case measure => simp [intOf]; omega
  have hi : ¬ (k : Int) < (n' : Int) := by omega
  have e9 : k = n' := by omega
  subst e9
  have HR : Hid (LsG wr w.heap.size 128 6 u3 k (fun i => xsT (f i)) /\ Below w.heap.size w wr) := ⟨hl, hb⟩
  clear hl hb
  go_wp2
  go_ret
  exact ⟨_, rfl, HR.out.1, HR.out.2⟩
end Go.Proofs.YtkfgijkkffbpmaaGreat
namespace Go.Proofs.YtkfgijkkffbpmaaGreat
open Go.RowKit
theorem nog {ops : Array Oper} {o : Oper} {ρ : Operand -> Value} {j : Nat} {want : Bool} {d : Tmp} {x : Value} (hg : o.guard = some (j, want)) (hd : dstOf ops j = some d) (h : ρ (.tmp d) = x) (hx : (match (generalizing := false) x with | .bool b => b == want | _ => false) = false) : wantV ops o ρ = false := by
 unfold wantV
 rw [hg]
 simp only [hd, h]
 exact hx
end Go.Proofs.YtkfgijkkffbpmaaGreat
namespace Go.Proofs.YtkfgijkkffbpmaaGreat
open Go.RowKit Go.Joins
def alP (g : Nat -> Bool) : Nat -> Bool
 | 0 => true
 | n + 1 => alP g n && g n
theorem alP_iff {g : Nat -> Bool} : ∀ {n : Nat}, alP g n = true ↔ ∀ k, k < n -> g k = true
 | 0 => by simp [alP]
 | n + 1 => by
  simp only [alP, Bool.and_eq_true, alP_iff (n := n)]
  constructor
  ·rintro ⟨h1, h2⟩ k hk
   by_cases e : k = n
   ·subst e; exact h2
   exact h1 k (by omega)
  intro h
  exact ⟨fun k hk => h k (by omega), h n (by omega)⟩
theorem alP_no {g : Nat -> Bool} {n k : Nat} (hk : k < n) (h : g k = false) : alP g n = false := by
 cases e : alP g n with
 | false => rfl
 | true => rw [alP_iff.1 e k hk] at h; cases h
theorem alP_succ {g : Nat -> Bool} {n : Nat} (h : alP g n = true) (hk : g n = true) : alP g (n + 1) = true := by
 simp [alP, h, hk]
def saP (X Y : VS) : Bool := decide (X.po = Y.po /\ X.un = Y.un)
def adP (X : VS) : Bool := inB X.po 0 5 && inB X.un 1 247
def rowP (f : Nat -> VS) (k : Nat) : Bool := adP (f k) && (okDv (f k).d && alP (fun j => !saP (f j) (f k)) k)
def okPs (n : Nat) (f : Nat -> VS) : Bool := decide (n <= 8) && alP (rowP f) n
theorem address_any (X : VS) (a1 : Option Addr) (l1 c1 : Nat) (a2 : Option Addr) (l2 c2 : Nat) (a3 : Option Addr) (l3 c3 : Nat) (a4 : Option Addr) (l4 c4 : Nat) (w : World) :
 Calls Tryz.prog 138 #[.agg (xsL X a1 l1 c1 a2 l2 c2 a3 l3 c3 a4 l4 c4).toArray] w fun e w' => e = .returned (.agg #[.int .i64 X.po, .int .i64 X.un]) /\ Below w.heap.size w w' := by
 obtain ⟨W, hW⟩ : ∃ W, W = (w.alloc (.cells (xsL X a1 l1 c1 a2 l2 c2 a3 l3 c3 a4 l4 c4).toArray 128)).alloc (.cells #[.int .i64 0, .int .i64 0] 188) := ⟨_, rfl⟩
 have bW : Below w.heap.size w W := by rw [hW]; exact bel_nx (bel_alloc w _) (bel_alloc _ _)
 have A0 : Blk W w.heap.size 128 (xsL X a1 l1 c1 a2 l2 c2 a3 l3 c3 a4 l4 c4).toArray := by rw [hW]; exact (Blk.new w _ _).below (bel_alloc _ _)
 have R0 : Blk W (w.heap.size + 1) 188 #[.int .i64 0, .int .i64 0] := by
  rw [hW]; have := Blk.new (w.alloc (.cells (xsL X a1 l1 c1 a2 l2 c2 a3 l3 c3 a4 l4 c4).toArray 128)) #[.int .i64 0, .int .i64 0] 188; simpa using this
 obtain ⟨⟨y0, y1, y2, y3, y4, y5⟩, yf⟩ := A0.tc6
 obtain ⟨⟨z0, z1⟩, zf⟩ := R0.tc2
 have z00 := zf 0
 have z01 := zf 1
 clear A0 R0 yf zf
 go_enter Tryz.func138, Tryz.ntmps138
 go_upto_region 1 with fail
 rw [<- hW]
 clear hW
 go_wp2
 refine bodyPost_ret (v := .agg #[.int .i64 X.po, .int .i64 X.un]) (by simp [results, Tryz.results138, go_sem, z0, z1]) rfl ⟨rfl, ?_⟩
 exact (bW.setCell (p := ⟨w.heap.size + 1, 0, none⟩) (by show w.heap.size <= w.heap.size + 1; omega) _).setCell (p := ⟨w.heap.size + 1, 1, none⟩) (by show w.heap.size <= w.heap.size + 1; omega) _
theorem addrRight_any (p u : Int) (w : World) (x : Bool) (hx : (inB p 0 5 && inB u 1 247) = x) :
 Calls Tryz.prog 139 #[.agg #[.int .i64 p, .int .i64 u]] w fun e w' => e = .returned (.bool x) /\ Below w.heap.size w w' := by
 obtain ⟨x0, hx0⟩ : ∃ t, inB p 0 5 = t := ⟨_, rfl⟩
 obtain ⟨x1, hx1⟩ : ∃ t, inB u 1 247 = t := ⟨_, rfl⟩
 rw [hx0, hx1] at hx
 subst hx
 obtain ⟨W, hW⟩ : ∃ W, W = w.alloc (.cells #[.int .i64 p, .int .i64 u] 188) := ⟨_, rfl⟩
 have HE : Hid (inB p 0 5 = x0 /\ inB u 1 247 = x1 /\ Below w.heap.size w W) := ⟨hx0, hx1, by rw [hW]; exact bel_alloc _ _⟩
 have A0 : Blk W w.heap.size 188 #[.int .i64 p, .int .i64 u] := by rw [hW]; exact Blk.new _ _ _
 obtain ⟨⟨y0, y1⟩, yf⟩ := A0.tc2
 clear hx0 hx1 yf A0
 go_enter Tryz.func139, Tryz.ntmps139
 go_upto_region 1 with fail
 rw [<- hW]
 clear hW
 go_wp2_with fail
 refine (isPortPlace_any _ _ _ HE.out.1).mono ?_
 rintro e w1 ⟨rfl, hw⟩
 have hw := hw.symm
 subst hw
 cases x0
 case false =>
  go_wp2
  go_ret
  exact ⟨rfl, HE.out.2.2⟩
 go_wp2_with fail
 refine (isUnit_any _ _ _ HE.out.2.1).mono ?_
 rintro e w1 ⟨rfl, hw⟩
 have hw := hw.symm
 subst hw
 go_wp2
 go_ret
 exact ⟨rfl, HE.out.2.2⟩
theorem atAddr_any (X : VS) (p u9 : Int) (g : Nat) (a1 : Option Addr) (l1 c1 : Nat) (a2 : Option Addr) (l2 c2 : Nat) (a3 : Option Addr) (l3 c3 : Nat) (a4 : Option Addr) (l4 c4 : Nat) (w : World) (hg : Blk w g 188 #[.int .i64 p, .int .i64 u9]) (x : Bool) (hx : decide (X.po = p /\ X.un = u9) = x) :
 Calls Tryz.prog 205 #[.agg (xsL X a1 l1 c1 a2 l2 c2 a3 l3 c3 a4 l4 c4).toArray, .pointer (some ⟨g, 0, none⟩)] w fun e w' => e = .returned (.bool x) /\ Below w.heap.size w w' := by
 obtain ⟨W, hW⟩ : ∃ W, W = w.alloc (.cells (xsL X a1 l1 c1 a2 l2 c2 a3 l3 c3 a4 l4 c4).toArray 128) := ⟨_, rfl⟩
 have bW : Below w.heap.size w W := by rw [hW]; exact bel_alloc _ _
 have A0 : Blk W w.heap.size 128 (xsL X a1 l1 c1 a2 l2 c2 a3 l3 c3 a4 l4 c4).toArray := by rw [hW]; exact Blk.new _ _ _
 have HE : Hid (Below w.heap.size w W /\ Blk W g 188 #[.int .i64 p, .int .i64 u9] /\ Blk W w.heap.size 128 (xsL X a1 l1 c1 a2 l2 c2 a3 l3 c3 a4 l4 c4).toArray /\ decide (X.po = p /\ X.un = u9) = x) := ⟨bW, hg.below bW, A0, hx⟩
 clear bW A0 hg hx
 go_enter Tryz.func205, Tryz.ntmps205
 go_upto_region 1 with fail
 rw [<- hW]
 clear hW
 refine wp_region_any (by kernel_rfl) ?_
 refine wpAny_vals (fun u => Below W.heap.size W u) (fun i v u => match i with
  | 0 => v = .agg (xsL X a1 l1 c1 a2 l2 c2 a3 l3 c3 a4 l4 c4).toArray
  | 1 => v = .agg #[.int .i64 X.po, .int .i64 X.un]
  | 2 => v = .agg ([.int .i64 p, .int .i64 u9]).toArray
  | 3 => v = .bool x
  | 4 => v = .bool x
  | _ => True) (by kernel_rfl) (by kernel_rfl) (fun _ _ _ _ h _ => h) (by first | exact Below.refl _ _ | exact (Below.refl _ _).drew) ?_ ?_ _ _ rfl (by decide) (fun i => by simp [Array.getD]; try (split <;> rfl))
 ·intro vs u hR hall
  have e4 : vs 4 = .bool x := hall 4 (by simp)
  simp only [putsL]
  rw [e4]
  clear hall e4
  have B9 := bel_nx HE.out.1 hR
  clear HE hR
  go_simp
  go_wp2
  go_ret
  exact ⟨rfl, B9⟩
 intro u i o ρ hR ho hρ hc hf hd
 have hi : i < 5 := by
  have := (Array.getElem?_eq_some_iff.1 ho).1
  simpa using this
 obtain rfl | rfl | rfl | rfl | rfl : i = 0 \/ i = 1 \/ i = 2 \/ i = 3 \/ i = 4 := by omega
 all_goals (simp only [List.getElem?_toArray, List.getElem?_cons_zero, List.getElem?_cons_succ, Option.some.injEq] at ho; subst ho)
 ·have s2 : ρ (.tmp 2) = .pointer (some ⟨w.heap.size, 0, none⟩) := (hρ 2 (by kernel_rfl)).trans rfl
  have hr : (Instr.loadAt 128 (.pointer (some ⟨w.heap.size, 0, none⟩))).run Tryz.prog u = .ok (.agg (xsL X a1 l1 c1 a2 l2 c2 a3 l3 c3 a4 l4 c4).toArray) u := run_loadAt_mid u w.heap.size (0) 128 (xsL X a1 l1 c1 a2 l2 c2 a3 l3 c3 a4 l4 c4) _ (HE.out.2.2.1.below hR).rng Tryz.underlying128 rfl (by kernel_rfl)
  exact .inl ⟨rfl, .inl ⟨.agg (xsL X a1 l1 c1 a2 l2 c2 a3 l3 c3 a4 l4 c4).toArray, u, run_load_op rfl s2 hr, rfl, hR, Below.refl _ _⟩⟩
 ·have h0 : ρ (.tmp 4) = .agg (xsL X a1 l1 c1 a2 l2 c2 a3 l3 c3 a4 l4 c4).toArray := hd ⟨0, .data⟩ (by simp) rfl 4 rfl
  refine .inl ⟨rfl, .inr ⟨_, _, run_call_op rfl (hf _) (args := #[.agg (xsL X a1 l1 c1 a2 l2 c2 a3 l3 c3 a4 l4 c4).toArray]) (by simp [h0]) (by kernel_rfl), ?_⟩⟩
  refine (address_any X a1 l1 c1 a2 l2 c2 a3 l3 c3 a4 l4 c4 _).mono ?_
  rintro e u' ⟨he, b'⟩
  exact ⟨_, he, rfl, bel_nx hR b', b'⟩
 ·have s1 : ρ (.tmp 1) = .pointer (some ⟨g, 0, none⟩) := (hρ 1 (by kernel_rfl)).trans rfl
  have hr : (Instr.loadAt 188 (.pointer (some ⟨g, 0, none⟩))).run Tryz.prog u = .ok (.agg ([.int .i64 p, .int .i64 u9]).toArray) u := run_loadAt_mid u g (0) 188 ([.int .i64 p, .int .i64 u9]) _ (HE.out.2.1.below hR).rng Tryz.underlying188 rfl (by kernel_rfl)
  exact .inl ⟨rfl, .inl ⟨.agg ([.int .i64 p, .int .i64 u9]).toArray, u, run_load_op rfl s1 hr, rfl, hR, Below.refl _ _⟩⟩
 ·have h1 : ρ (.tmp 5) = .agg #[.int .i64 X.po, .int .i64 X.un] := hd ⟨1, .data⟩ (by simp) rfl 5 rfl
  have h2 : ρ (.tmp 6) = .agg ([.int .i64 p, .int .i64 u9]).toArray := hd ⟨2, .data⟩ (by simp) rfl 6 rfl
  exact .inl ⟨rfl, .inl ⟨.bool x, u, run_bin_op rfl h1 h2 (by go_simp; rw [<- HE.out.2.2.2]; by_cases h0 : X.po = p <;> by_cases h1 : X.un = u9 <;> simp [h0, h1]), rfl, hR, Below.refl _ _⟩⟩
 have h3 : ρ (.tmp 7) = .bool x := hd ⟨3, .data⟩ (by simp) rfl 7 rfl
 exact .inl ⟨rfl, .inl ⟨_, u, rfl, h3, hR, Below.refl _ _⟩⟩
def atB (p u : Int) (Y : VS) : Bool := decide (Y.po = p /\ Y.un = u)
def IxQ (n : Nat) (f : Nat -> VS) (p u : Int) (r : Int) : Prop := (r = -1 /\ alP (fun j => !atB p u (f j)) n = true) \/ ∃ m : Nat, r = (m : Int) /\ m < n /\ atB p u (f m) = true /\ alP (fun j => !atB p u (f j)) m = true
theorem indexPost_any (n : Nat) (f : Nat -> VS) (a : Option Addr) (c g : Nat) (p u : Int) (w : World) (hs : Rd w 0 (.list 6 n (fun i => trs (xsT (f i)))) (.slice a n c)) (hn : n <= 2000000) (hg : Blk w g 188 #[.int .i64 p, .int .i64 u]) :
 Calls Tryz.prog 204 #[.slice a n c, .func (.func 205) #[] #[.pointer (some ⟨g, 0, none⟩)]] w fun e w' => ∃ r, e = .returned (.int .i64 r) /\ IxQ n f p u r /\ Below w.heap.size w w' := by
 have HS : Hid (Rd w 0 (.list 6 n (fun i => trs (xsT (f i)))) (.slice a n c) /\ Blk w g 188 #[.int .i64 p, .int .i64 u]) := ⟨hs, hg⟩
 clear hs hg
 go_enter Tryz.func204, Tryz.ntmps204
 go_wp2
 go_loopw [8] (fun i wr => ∃ k : Nat, k <= n /\ i = .int .i64 k /\ alP (fun j => !atB p u (f j)) k = true /\ Below w.heap.size w wr) (fun i _ => n - (intOf i).toNat)
 case atStart => exact ⟨0, Nat.zero_le _, rfl, rfl, Below.refl _ _⟩
 case round =>
  obtain ⟨k, hk, rfl, hall, hbl⟩ := hrel
  by_cases hlt : k < n
  ·have hi : (k : Int) < (n : Int) := by omega
   obtain ⟨b, off, vs, rfl, _, hb0, hlen, hr, hrd⟩ := (HS.out.1.below hbl).at hlt
   obtain ⟨a1, c1, a2, c2, a3, c3, a4, c4, rfl, r1, r2, r3, r4⟩ := VS.cells hrd hlen
   clear hlen hrd hb0 r1 r2 r3 r4
   have d0 : wr.cell? ⟨b, off + k * 6, none⟩ = _ := hr 0 _ rfl
   have d1 : wr.cell? ⟨b, off + k * 6 + 1, none⟩ = _ := hr 1 _ rfl
   have d2 : wr.cell? ⟨b, off + k * 6 + 2, none⟩ = _ := hr 2 _ rfl
   have d3 : wr.cell? ⟨b, off + k * 6 + 3, none⟩ = _ := hr 3 _ rfl
   have d4 : wr.cell? ⟨b, off + k * 6 + 4, none⟩ = _ := hr 4 _ rfl
   have d5 : wr.cell? ⟨b, off + k * 6 + 5, none⟩ = _ := hr 5 _ rfl
   obtain ⟨x, hx⟩ : ∃ x, atB p u (f k) = x := ⟨_, rfl⟩
   have HK : Hid (atB p u (f k) = x /\ alP (fun j => !atB p u (f j)) k = true /\ Below w.heap.size w wr) := ⟨hx, hall, hbl⟩
   clear hx hall hbl hr
   go_wp2_with fail
   refine (atAddr_any (f k) p u g a1 _ c1 a2 _ c2 a3 _ c3 a4 _ c4 _ (HS.out.2.below HK.out.2.2) x HK.out.1).mono ?_
   rintro e w1 ⟨rfl, b1⟩
   have B1 := bel_nx HK.out.2.2 b1
   clear b1 d0 d1 d2 d3 d4 d5
   cases x
   case false =>
    have HF : Hid (alP (fun j => !atB p u (f j)) (k + 1) = true) := alP_succ HK.out.2.1 (by rw [HK.out.1]; rfl)
    clear HK
    go_wp2
    go_roundw
    case rel => exact ⟨k + 1, by omega, by go_num, HF.out, B1⟩
    case measure => simp [intOf]; omega
   have HF : Hid (atB p u (f k) = true /\ alP (fun j => !atB p u (f j)) k = true) := ⟨HK.out.1, HK.out.2.1⟩
   clear HK
   go_wp2
   go_ret
   exact ⟨_, rfl, .inr ⟨k, rfl, hlt, HF.out.1, HF.out.2⟩, B1⟩
  have hi : ¬ (k : Int) < (n : Int) := by omega
  have e9 : k = n := by omega
  subst e9
  have HF : Hid (alP (fun j => !atB p u (f j)) k = true) := hall
  clear hall
  go_wp2
  go_ret
  exact ⟨_, rfl, .inl ⟨rfl, HF.out⟩, hbl⟩
theorem postAt_any (n : Nat) (f : Nat -> VS) (a : Option Addr) (c : Nat) (p u : Int) (w : World) (hs : Rd w 0 (.list 6 n (fun i => trs (xsT (f i)))) (.slice a n c)) (hn : n <= 2000000) :
 Calls Tryz.prog 141 #[.slice a n c, .agg #[.int .i64 p, .int .i64 u]] w fun e w' => ∃ r, e = .returned (.int .i64 r) /\ IxQ n f p u r /\ Below w.heap.size w w' := by
 obtain ⟨W, hW⟩ : ∃ W, W = w.alloc (.cells #[.int .i64 p, .int .i64 u] 188) := ⟨_, rfl⟩
 have bW : Below w.heap.size w W := by rw [hW]; exact bel_alloc _ _
 have HE : Hid (Below w.heap.size w W /\ Blk W w.heap.size 188 #[.int .i64 p, .int .i64 u] /\ Rd W 0 (.list 6 n (fun i => trs (xsT (f i)))) (.slice a n c)) := ⟨bW, by rw [hW]; exact Blk.new _ _ _, hs.below bW⟩
 clear bW hs
 go_enter Tryz.func141, Tryz.ntmps141
 go_upto_region 1 with fail
 rw [<- hW]
 clear hW
 go_wp2_with fail
 refine (indexPost_any n f a c w.heap.size p u _ HE.out.2.2 hn HE.out.2.1).mono ?_
 rintro e w1 ⟨r, rfl, hr, b1⟩
 have HF : Hid (IxQ n f p u r /\ Below w.heap.size w w1) := ⟨hr, bel_nx HE.out.1 b1⟩
 clear hr b1 HE
 go_wp2
 go_ret
 exact ⟨r, rfl, HF.out.1, HF.out.2⟩
theorem IxQ.first {n k : Nat} {f : Nat -> VS} {r : Int} (h : IxQ n f (f k).po (f k).un r) (hk : k < n) : alP (fun j => !saP (f j) (f k)) k = decide (r = (k : Int)) := by
 have hs : ∀ j, atB (f k).po (f k).un (f j) = saP (f j) (f k) := fun j => rfl
 have hkk : saP (f k) (f k) = true := by simp [saP]
 rw [Bool.eq_iff_iff]
 simp only [alP_iff, decide_eq_true_eq]
 rcases h with ⟨h1, h2⟩ | ⟨m, h1, h2, h3, h4⟩
 ·have := alP_iff.1 h2 k hk
  simp only [hs, hkk] at this
  cases this
 have h4' := alP_iff.1 h4
 constructor
 ·intro h
  rcases Nat.lt_trichotomy m k with hm | hm | hm
  ·have := h m hm
   rw [hs] at h3
   simp [h3] at this
  ·omega
  have := h4' k hm
  simp only [hs, hkk] at this
  cases this
 intro h j hj
 have hm : m = k := by omega
 subst hm
 exact h4' j hj
theorem IxQ.ex (n : Nat) (f : Nat -> VS) (p u : Int) : ∃ r, IxQ n f p u r := by
 induction n with
 | zero => exact ⟨-1, .inl ⟨rfl, rfl⟩⟩
 | succ n ih =>
  obtain ⟨r, h⟩ := ih
  rcases h with ⟨h1, h2⟩ | ⟨m, h1, h2, h3, h4⟩
  ·cases hx : atB p u (f n) with
   | true => exact ⟨(n : Int), .inr ⟨n, rfl, by omega, hx, h2⟩⟩
   | false => exact ⟨-1, .inl ⟨rfl, alP_succ h2 (by rw [hx]; rfl)⟩⟩
  exact ⟨r, .inr ⟨m, h1, by omega, h3, h4⟩⟩
theorem IxQ.uniq {n : Nat} {f : Nat -> VS} {p u r r' : Int} (h : IxQ n f p u r) (h' : IxQ n f p u r') : r = r' := by
 rcases h with ⟨h1, h2⟩ | ⟨m, h1, h2, h3, h4⟩
 ·rcases h' with ⟨g1, g2⟩ | ⟨m', g1, g2, g3, g4⟩
  ·omega
  have := alP_iff.1 h2 m' g2
  simp [g3] at this
 rcases h' with ⟨g1, g2⟩ | ⟨m', g1, g2, g3, g4⟩
 ·have := alP_iff.1 g2 m h2
  simp [h3] at this
 have h5 := alP_iff.1 h4
 have g5 := alP_iff.1 g4
 rcases Nat.lt_trichotomy m m' with hm | hm | hm
 ·have := g5 m hm
  simp [h3] at this
 ·omega
 have := h5 m' hm
 simp [g3] at this
theorem implPostsRight_any (n : Nat) (f : Nat -> VS) (a : Option Addr) (c : Nat) (w : World) (hs : Rd w 0 (.list 6 n (fun i => trs (xsT (f i)))) (.slice a n c)) (hn : n <= 2000000) (hz : ∀ k, k < n -> szT 4 (trs (xdT (f k).d)) <= 1048576) :
 Calls Tryz.prog 74 #[.slice a n c] w fun e w' => e = .returned (.bool (okPs n f)) /\ Below w.heap.size w w' := by
 obtain ⟨x0, hx0⟩ : ∃ x, decide (n <= 8) = x := ⟨_, rfl⟩
 have HE : Hid (okPs n f = (x0 && alP (rowP f) n) /\ decide (n <= 8) = x0 /\ Rd w 0 (.list 6 n (fun i => trs (xsT (f i)))) (.slice a n c) /\ ∀ k, k < n -> szT 4 (trs (xdT (f k).d)) <= 1048576) := ⟨by unfold okPs; rw [hx0], hx0, hs, hz⟩
 rw [HE.out.1]
 clear hx0 hs hz
 cases x0
 case false =>
  have h8 : (8 : Int) < (n : Int) := by have := of_decide_eq_false HE.out.2.1; omega
  go_enter Tryz.func74, Tryz.ntmps74
  go_wp2
  go_ret
  exact ⟨rfl, Below.refl _ _⟩
 have h8 : ¬ (8 : Int) < (n : Int) := by have := of_decide_eq_true HE.out.2.1; omega
 go_enter Tryz.func74, Tryz.ntmps74
 go_wp2
 go_loopw [10] (fun i wr => ∃ k : Nat, k <= n /\ i = .int .i64 k /\ alP (rowP f) k = true /\ Below w.heap.size w wr) (fun i _ => n - (intOf i).toNat)
 case atStart => exact ⟨0, Nat.zero_le _, rfl, rfl, Below.refl _ _⟩
 case round =>
  obtain ⟨k, hk, rfl, hall, hbl⟩ := hrel
  by_cases hlt : k < n
  ·have hi : (k : Int) < (n : Int) := by omega
   obtain ⟨b, off, vs, ha, _, hb0, hlen, hr, hrd⟩ := (HE.out.2.2.1.below hbl).at hlt
   obtain ⟨a1, c1, a2, c2, a3, c3, a4, c4, rfl, r1, r2, r3, r4⟩ := VS.cells hrd hlen
   have d0 : wr.cell? ⟨b, off + k * 6, none⟩ = _ := hr 0 _ rfl
   have d1 : wr.cell? ⟨b, off + k * 6 + 1, none⟩ = _ := hr 1 _ rfl
   have d2 : wr.cell? ⟨b, off + k * 6 + 2, none⟩ = _ := hr 2 _ rfl
   have d3 : wr.cell? ⟨b, off + k * 6 + 3, none⟩ = _ := hr 3 _ rfl
   have d4 : wr.cell? ⟨b, off + k * 6 + 4, none⟩ = _ := hr 4 _ rfl
   have d5 : wr.cell? ⟨b, off + k * 6 + 5, none⟩ = _ := hr 5 _ rfl
   obtain ⟨G, hG⟩ : ∃ G, G = wr.heap.size := ⟨_, rfl⟩
   obtain ⟨W1, hW1⟩ : ∃ W9, W9 = wr.alloc (.cells (xsL (f k) a1 (f k).d.co.length c1 a2 (f k).d.ip.length c2 a3 (f k).d.ho.length c3 a4 (f k).d.wd.length c4).toArray 128) := ⟨_, rfl⟩
   have bW : Below wr.heap.size wr W1 := by rw [hW1]; exact bel_alloc _ _
   have K1 : Blk W1 G 128 (xsL (f k) a1 (f k).d.co.length c1 a2 (f k).d.ip.length c2 a3 (f k).d.ho.length c3 a4 (f k).d.wd.length c4).toArray := by rw [hW1, hG]; exact Blk.new _ _ _
   obtain ⟨r0, hr0⟩ := IxQ.ex n f (f k).po (f k).un
   obtain ⟨ra, hra⟩ : ∃ x, (inB (f k).po 0 5 && inB (f k).un 1 247) = x := ⟨_, rfl⟩
   obtain ⟨ok, hok⟩ : ∃ x, okDv (f k).d = x := ⟨_, rfl⟩
   obtain ⟨eq, heq⟩ : ∃ x, decide (r0 = (k : Int)) = x := ⟨_, rfl⟩
   have HX : Hid ((inB (f k).po 0 5 && inB (f k).un 1 247) = ra /\ okDv (f k).d = ok /\ decide (r0 = (k : Int)) = eq /\ IxQ n f (f k).po (f k).un r0) := ⟨hra, hok, heq, hr0⟩
   have HA : Hid (alP (rowP f) k = true /\ Below w.heap.size w W1 /\ rowP f k = (ra && (ok && eq))) := ⟨hall, bel_nx hbl bW, by unfold rowP adP; rw [hra, hok, hr0.first hlt, heq]⟩
   have HK : Hid (Blk W1 G 128 (xsL (f k) a1 (f k).d.co.length c1 a2 (f k).d.ip.length c2 a3 (f k).d.ho.length c3 a4 (f k).d.wd.length c4).toArray /\ Rd W1 0 (boolsT (f k).d.co) (.slice a1 (f k).d.co.length c1) /\ Rd W1 0 (boolsT (f k).d.ip) (.slice a2 (f k).d.ip.length c2) /\ Rd W1 0 (intsT (f k).d.ho) (.slice a3 (f k).d.ho.length c3) /\ Rd W1 0 (intsT (f k).d.wd) (.slice a4 (f k).d.wd.length c4) /\ szT 4 (trs (xdT (f k).d)) <= 1048576 /\ Rd W1 0 (.list 6 n (fun i => trs (xsT (f i)))) (.slice a n c) /\ n <= 2000000) := ⟨K1, r1.below bW, r2.below bW, r3.below bW, r4.below bW, HE.out.2.2.2 k hlt, (HE.out.2.2.1.below hbl).below bW, hn⟩
   have hX : W1 = wr.alloc (.cells #[.int .i64 (f k).po, .int .i64 (f k).un, .slice a1 (f k).d.co.length c1, .slice a2 (f k).d.ip.length c2, .slice a3 (f k).d.ho.length c3, .slice a4 (f k).d.wd.length c4] 128) := hW1
   clear hW1 bW K1 hr0 hra hok heq hall hr r1 r2 r3 r4 hlen hrd
   subst ha
   go_upto_region 6 with fail
   rw [<- hX, <- hG]
   clear hX hG d0 d1 d2 d3 d4 d5 hb0 hbl
   obtain ⟨⟨y0, y1, y2, y3, y4, y5⟩, yf⟩ := HK.out.1.tc6
   clear yf
   go_wp2_with fail
   refine (address_any (f k) a1 _ c1 a2 _ c2 a3 _ c3 a4 _ c4 _).mono ?_
   rintro e w1 ⟨rfl, b1⟩
   go_wp2_with fail
   refine (addrRight_any _ _ _ ra HX.out.1).mono ?_
   rintro e w2 ⟨rfl, b2⟩
   have B2 : Hid (Below W1.heap.size W1 w2) := bel_nx b1 b2
   clear b1 b2 y0 y1 y2 y3 y4 y5
   cases ra
   case false =>
    have B9 : Hid (alP (rowP f) n = false /\ Below w.heap.size w w2) := ⟨alP_no hlt (by rw [HA.out.2.2]; rfl), bel_nx HA.out.2.1 B2.out⟩
    clear HK HX HA
    go_wp2
    go_ret
    exact ⟨by rw [B9.out.1]; rfl, B9.out.2⟩
   obtain ⟨⟨y0, y1, y2, y3, y4, y5⟩, yf⟩ := (HK.out.1.below B2.out).tc6
   clear yf
   go_wp2_with fail
   refine (implDvOk (f k).d a1 _ c1 a2 _ c2 a3 _ c3 a4 _ c4 _ (HK.out.2.1.below B2.out) (HK.out.2.2.1.below B2.out) (HK.out.2.2.2.1.below B2.out) (HK.out.2.2.2.2.1.below B2.out) HK.out.2.2.2.2.2.1).mono ?_
   rintro e w3 ⟨rfl, b3⟩
   rw [HX.out.2.1]
   have B3 : Hid (Below W1.heap.size W1 w3) := bel_nx B2.out b3
   clear b3 y0 y1 y2 y3 y4 y5
   cases ok
   case false =>
    have B9 : Hid (alP (rowP f) n = false /\ Below w.heap.size w w3) := ⟨alP_no hlt (by rw [HA.out.2.2]; rfl), bel_nx HA.out.2.1 B3.out⟩
    clear HK HX HA
    go_wp2
    go_ret
    exact ⟨by rw [B9.out.1]; rfl, B9.out.2⟩
   obtain ⟨⟨y0, y1, y2, y3, y4, y5⟩, yf⟩ := (HK.out.1.below B3.out).tc6
   clear yf
   go_wp2_with fail
   refine (address_any (f k) a1 _ c1 a2 _ c2 a3 _ c3 a4 _ c4 _).mono ?_
   rintro e w4 ⟨rfl, b4⟩
   have B4 : Hid (Below W1.heap.size W1 w4) := bel_nx B3.out b4
   clear b4 y0 y1 y2 y3 y4 y5
   go_wp2_with fail
   refine (postAt_any n f _ c _ _ _ (HK.out.2.2.2.2.2.2.1.below B4.out) HK.out.2.2.2.2.2.2.2).mono ?_
   rintro e w5 ⟨r, rfl, hr, b5⟩
   rw [hr.uniq HX.out.2.2.2]
   have B5 : Hid (Below W1.heap.size W1 w5) := bel_nx B4.out b5
   clear b5 hr
   cases eq
   case false =>
    have e1 : (r0 != (k : Int)) = true := by have := of_decide_eq_false HX.out.2.2.1; simpa using this
    have B9 : Hid (alP (rowP f) n = false /\ Below w.heap.size w w5) := ⟨alP_no hlt (by rw [HA.out.2.2]; rfl), bel_nx HA.out.2.1 B5.out⟩
    clear HK HX HA
    go_wp2
    go_ret
    exact ⟨by rw [B9.out.1]; rfl, B9.out.2⟩
   have e1 : (r0 != (k : Int)) = false := by have := of_decide_eq_true HX.out.2.2.1; simpa using this
   have HF : Hid (alP (rowP f) (k + 1) = true /\ Below w.heap.size w w5) := ⟨alP_succ HA.out.1 (by rw [HA.out.2.2]; rfl), bel_nx HA.out.2.1 B5.out⟩
   clear HK HX HA
   go_wp2
   go_roundw
   case rel => exact ⟨k + 1, by omega, by go_num, HF.out.1, HF.out.2⟩
   case measure => simp [intOf]; omega
  have hi : ¬ (k : Int) < (n : Int) := by omega
  have e9 : k = n := by omega
  have HF : Hid (alP (rowP f) n = true /\ Below w.heap.size w wr) := ⟨by rw [<- e9]; exact hall, hbl⟩
  clear hall hbl e9
  go_wp2
  go_ret
  exact ⟨by rw [HF.out.1]; rfl, HF.out.2⟩
end Go.Proofs.YtkfgijkkffbpmaaGreat
namespace Go.Proofs.YtkfgijkkffbpmaaGreat
open Go.RowKit Go.Joins
theorem specPosts_any (n : Nat) (f : Nat -> VS) (a : Option Addr) (c : Nat) (w : World) (hs : Rd w 0 (.list 6 n (fun i => trs (xsT (f i)))) (.slice a n c)) (hn : n <= 2000000) (hz : ∀ k, k < n -> szT 4 (trs (xdT (f k).d)) <= 1048576) :
 Calls Tryz.prog 69 #[.slice a n c] w fun e w' => e = .returned (.bool (okPs n f)) /\ Below w.heap.size w w' := by
 have HE : Hid (Rd w 0 (.list 6 n (fun i => trs (xsT (f i)))) (.slice a n c) /\ ∀ k, k < n -> szT 4 (trs (xdT (f k).d)) <= 1048576) := ⟨hs, hz⟩
 clear hs hz
 go_enter Tryz.func69, Tryz.ntmps69
 go_wp2
 go_loopw [3] (fun i wr => ∃ k : Nat, k <= n /\ i = .int .i64 k /\ alP (rowP f) k = true /\ Below w.heap.size w wr) (fun i _ => n - (intOf i).toNat)
 case atStart => exact ⟨0, Nat.zero_le _, rfl, rfl, Below.refl _ _⟩
 case round =>
  obtain ⟨k, hk, rfl, hall, hbl⟩ := hrel
  by_cases hlt : k < n
  ·have hi : (k : Int) < (n : Int) := by omega
   obtain ⟨b, off, vs, rfl, _, hb0, hlen, hr, hrd⟩ := (HE.out.1.below hbl).at hlt
   obtain ⟨a1, c1, a2, c2, a3, c3, a4, c4, rfl, r1, r2, r3, r4⟩ := VS.cells hrd hlen
   have d0 : wr.cell? ⟨b, off + k * 6, none⟩ = _ := hr 0 _ rfl
   have d1 : wr.cell? ⟨b, off + k * 6 + 1, none⟩ = _ := hr 1 _ rfl
   have d2 : wr.cell? ⟨b, off + k * 6 + 2, none⟩ = _ := hr 2 _ rfl
   have d3 : wr.cell? ⟨b, off + k * 6 + 3, none⟩ = _ := hr 3 _ rfl
   have d4 : wr.cell? ⟨b, off + k * 6 + 4, none⟩ = _ := hr 4 _ rfl
   have d5 : wr.cell? ⟨b, off + k * 6 + 5, none⟩ = _ := hr 5 _ rfl
   obtain ⟨x0, hx0⟩ : ∃ x, inB (f k).po 0 5 = x := ⟨_, rfl⟩
   obtain ⟨x1, hx1⟩ : ∃ x, inB (f k).un 1 247 = x := ⟨_, rfl⟩
   obtain ⟨x2, hx2⟩ : ∃ x, okDv (f k).d = x := ⟨_, rfl⟩
   have HX : Hid (inB (f k).po 0 5 = x0 /\ inB (f k).un 1 247 = x1 /\ okDv (f k).d = x2) := ⟨hx0, hx1, hx2⟩
   have HA : Hid (alP (rowP f) k = true /\ Below w.heap.size w wr /\ rowP f k = ((x0 && x1) && (x2 && alP (fun j => !saP (f j) (f k)) k))) := ⟨hall, hbl, by unfold rowP adP; rw [hx0, hx1, hx2]⟩
   have HR : Hid (Rd wr 0 (boolsT (f k).d.co) (.slice a1 (f k).d.co.length c1) /\ Rd wr 0 (boolsT (f k).d.ip) (.slice a2 (f k).d.ip.length c2) /\ Rd wr 0 (intsT (f k).d.ho) (.slice a3 (f k).d.ho.length c3) /\ Rd wr 0 (intsT (f k).d.wd) (.slice a4 (f k).d.wd.length c4) /\ szT 4 (trs (xdT (f k).d)) <= 1048576) := ⟨r1, r2, r3, r4, HE.out.2 k hlt⟩
   clear hall hbl r1 r2 r3 r4 hlen hrd hr hx0 hx1 hx2 hb0
   go_wp2_with fail
   refine (l1In_any _ _ _ _ _ HX.out.1).mono ?_
   rintro e w1 ⟨rfl, hw⟩
   have hw := hw.symm
   subst hw
   cases x0
   case false =>
    have B9 : Hid (alP (rowP f) n = false /\ Below w.heap.size w wr) := ⟨alP_no hlt (by rw [HA.out.2.2]; rfl), HA.out.2.1⟩
    go_wp2
    go_ret
    exact ⟨by unfold okPs; rw [B9.out.1, Bool.and_false]; rfl, B9.out.2⟩
   go_wp2_with fail
   refine (l1In_any _ _ _ _ _ HX.out.2.1).mono ?_
   rintro e w1 ⟨rfl, hw⟩
   have hw := hw.symm
   subst hw
   cases x1
   case false =>
    have B9 : Hid (alP (rowP f) n = false /\ Below w.heap.size w wr) := ⟨alP_no hlt (by rw [HA.out.2.2]; rfl), HA.out.2.1⟩
    go_wp2
    go_ret
    exact ⟨by unfold okPs; rw [B9.out.1, Bool.and_false]; rfl, B9.out.2⟩
   go_wp2_with fail
   refine (specDvOk (f k).d a1 _ c1 a2 _ c2 a3 _ c3 a4 _ c4 _ HR.out.1 HR.out.2.1 HR.out.2.2.1 HR.out.2.2.2.1 HR.out.2.2.2.2).mono ?_
   rintro e w1 ⟨rfl, b1⟩
   rw [HX.out.2.2]
   have B1 : Hid (Below w.heap.size w w1) := bel_nx HA.out.2.1 b1
   clear b1 d0 d1 d2 d3 d4 d5
   cases x2
   case false =>
    have B9 : Hid (alP (rowP f) n = false /\ Below w.heap.size w w1) := ⟨alP_no hlt (by rw [HA.out.2.2]; rfl), B1.out⟩
    go_wp2
    go_ret
    exact ⟨by unfold okPs; rw [B9.out.1, Bool.and_false]; rfl, B9.out.2⟩
   go_wp2
   go_loopw [4] (fun i wr => ∃ j : Nat, j <= k /\ i = .int .i64 j /\ alP (fun j => !saP (f j) (f k)) j = true /\ Below w.heap.size w wr) (fun i _ => k - (intOf i).toNat)
   case atStart => exact ⟨0, Nat.zero_le _, rfl, rfl, B1.out⟩
   case round =>
    obtain ⟨j, hj, rfl, hjall, hjb⟩ := hrel
    by_cases hjk : j < k
    ·have hji : (j : Int) < (k : Int) := by omega
     have hjn : (j : Int) < (n : Int) := by omega
     obtain ⟨b', off', vs', he', _, hb0, hlen, hr, hrd⟩ := (HE.out.1.below hjb).at hlt
     obtain ⟨_, _, _, _, _, _, _, _, rfl, _⟩ := VS.cells hrd hlen
     obtain ⟨b2, off2, vs2, he2, _, hb2, hlen2, hr2, hrd2⟩ := (HE.out.1.below hjb).at (k := j) (by omega)
     obtain ⟨_, _, _, _, _, _, _, _, rfl, _⟩ := VS.cells hrd2 hlen2
     simp only [Option.some.injEq, Addr.mk.injEq, and_true] at he' he2
     obtain ⟨rfl, rfl⟩ := he'
     obtain ⟨rfl, rfl⟩ := he2
     obtain ⟨e0, he0⟩ : ∃ x, ((f j).po == (f k).po) = x := ⟨_, rfl⟩
     obtain ⟨e1, he1⟩ : ∃ x, ((f j).un == (f k).un) = x := ⟨_, rfl⟩
     have HD : Hid (((f j).po == (f k).po) = e0 /\ ((f j).un == (f k).un) = e1) := ⟨he0, he1⟩
     have HJ : Hid (alP (fun j => !saP (f j) (f k)) j = true /\ Below w.heap.size w wr) := ⟨hjall, hjb⟩
     have HK : Hid (b < wr.heap.size /\ wr.rangeAt b (off + k * 6) [.int .i64 (f k).po, .int .i64 (f k).un] /\ wr.rangeAt b (off + j * 6) [.int .i64 (f j).po, .int .i64 (f j).un]) := by
      refine ⟨hb0, fun i v hv => ?_, fun i v hv => ?_⟩
      ·match i, hv with
       | 0, hv => obtain rfl := Option.some.inj (show some _ = some v from hv); exact hr 0 _ rfl
       | 1, hv => obtain rfl := Option.some.inj (show some _ = some v from hv); exact hr 1 _ rfl
       | i + 2, hv => simp at hv
      match i, hv with
      | 0, hv => obtain rfl := Option.some.inj (show some _ = some v from hv); exact hr2 0 _ rfl
      | 1, hv => obtain rfl := Option.some.inj (show some _ = some v from hv); exact hr2 1 _ rfl
      | i + 2, hv => simp at hv
     clear he0 he1 hjall hjb hb0 hlen hr hrd hb2 hlen2 hr2 hrd2 HA HR HX B1
     go_upto_region 9 with fail
     refine wp_region_any (by kernel_rfl) ?_
     refine wpAny_vals (fun u => Below wr.heap.size wr u) (fun i v u => match i with
      | 0 => v = .slice (some ⟨b, off, none⟩) n c
      | 1 => v = .int .i64 (j : Int)
      | 2 => v = .pointer (some ⟨b, off + j * 6, none⟩)
      | 3 => v = .pointer (some ⟨b, off + j * 6, none⟩)
      | 4 => v = .int .i64 (f j).po
      | 5 => v = .slice (some ⟨b, off, none⟩) n c
      | 6 => v = .int .i64 (k : Int)
      | 7 => v = .pointer (some ⟨b, off + k * 6, none⟩)
      | 8 => v = .pointer (some ⟨b, off + k * 6, none⟩)
      | 9 => v = .int .i64 (f k).po
      | 10 => v = .bool e0
      | 11 => v = .bool e0
      | 12 => v = cond e0 (.slice (some ⟨b, off, none⟩) n c) undef
      | 13 => v = cond e0 (.int .i64 (j : Int)) undef
      | 14 => v = cond e0 (.pointer (some ⟨b, off + j * 6, none⟩)) undef
      | 15 => v = cond e0 (.pointer (some ⟨b, off + j * 6 + 1, none⟩)) undef
      | 16 => v = cond e0 (.int .i64 (f j).un) undef
      | 17 => v = cond e0 (.slice (some ⟨b, off, none⟩) n c) undef
      | 18 => v = cond e0 (.int .i64 (k : Int)) undef
      | 19 => v = cond e0 (.pointer (some ⟨b, off + k * 6, none⟩)) undef
      | 20 => v = cond e0 (.pointer (some ⟨b, off + k * 6 + 1, none⟩)) undef
      | 21 => v = cond e0 (.int .i64 (f k).un) undef
      | 22 => v = cond e0 (.bool e1) undef
      | 23 => v = cond e0 (.bool e1) (.bool false)
      | _ => v = undef) (by kernel_rfl) (by kernel_rfl) (fun _ _ _ _ h _ => h) (by first | exact Below.refl _ _ | exact (Below.refl _ _).drew) ?_ ?_ _ _ rfl (by decide) (fun i => by simp [Array.getD]; try (split <;> rfl))
     ·intro vs u hR hall
      simp only [putsL]
      cases e0
      ·have e23 : vs 23 = .bool false := hall 23 (by simp)
       rw [e23]
       clear hall e23
       have HF : Hid (alP (fun j => !saP (f j) (f k)) (j + 1) = true /\ Below w.heap.size w u) := ⟨alP_succ HJ.out.1 (by have := HD.out; simp [saP] at this ⊢; exact .inl this.1), bel_nx HJ.out.2 hR⟩
       clear HK HD HJ hR
       go_simp
       go_wp2
       go_roundw
       case rel => exact ⟨j + 1, by omega, by go_num, HF.out.1, HF.out.2⟩
       case measure => simp [intOf]; omega
      cases e1
      ·have e23 : vs 23 = .bool false := hall 23 (by simp)
       rw [e23]
       clear hall e23
       have HF : Hid (alP (fun j => !saP (f j) (f k)) (j + 1) = true /\ Below w.heap.size w u) := ⟨alP_succ HJ.out.1 (by have := HD.out; simp [saP] at this ⊢; exact .inr this.2), bel_nx HJ.out.2 hR⟩
       clear HK HD HJ hR
       go_simp
       go_wp2
       go_roundw
       case rel => exact ⟨j + 1, by omega, by go_num, HF.out.1, HF.out.2⟩
       case measure => simp [intOf]; omega
      have e23 : vs 23 = .bool true := hall 23 (by simp)
      rw [e23]
      clear hall e23
      have HF : Hid (rowP f k = false) := by
       show rowP f k = false
       have h9 : saP (f j) (f k) = true := by have := HD.out; simp [saP] at this ⊢; exact this
       have h8 := alP_no (g := fun j => !saP (f j) (f k)) hjk (by simp [h9])
       unfold rowP
       rw [h8]; simp
      have B9 : Hid (alP (rowP f) n = false /\ Below w.heap.size w u) := ⟨alP_no hlt HF.out, bel_nx HJ.out.2 hR⟩
      clear HK HD HJ HF hR
      go_simp
      go_wp2
      go_ret
      exact ⟨by unfold okPs; rw [B9.out.1, Bool.and_false]; rfl, B9.out.2⟩
     intro u i o ρ hR ho hρ hc hf hd
     have hi : i < 24 := by
      have := (Array.getElem?_eq_some_iff.1 ho).1
      simpa using this
     obtain rfl | rfl | rfl | rfl | rfl | rfl | rfl | rfl | rfl | rfl | rfl | rfl | rfl | rfl | rfl | rfl | rfl | rfl | rfl | rfl | rfl | rfl | rfl | rfl : i = 0 \/ i = 1 \/ i = 2 \/ i = 3 \/ i = 4 \/ i = 5 \/ i = 6 \/ i = 7 \/ i = 8 \/ i = 9 \/ i = 10 \/ i = 11 \/ i = 12 \/ i = 13 \/ i = 14 \/ i = 15 \/ i = 16 \/ i = 17 \/ i = 18 \/ i = 19 \/ i = 20 \/ i = 21 \/ i = 22 \/ i = 23 := by omega
     all_goals (simp only [List.getElem?_toArray, List.getElem?_cons_zero, List.getElem?_cons_succ, Option.some.injEq] at ho; subst ho)
     ·have s0 : ρ (.tmp 0) = .slice (some ⟨b, off, none⟩) n c := (hρ 0 (by kernel_rfl)).trans rfl
      exact .inl ⟨rfl, .inl ⟨_, u, rfl, s0, hR, Below.refl _ _⟩⟩
     ·have s4 : ρ (.tmp 4) = .int .i64 (j : Int) := (hρ 4 (by kernel_rfl)).trans rfl
      exact .inl ⟨rfl, .inl ⟨_, u, rfl, s4, hR, Below.refl _ _⟩⟩
     ·have h0 : _ = _ := hd ⟨0, .data⟩ (by simp) rfl 41 rfl
      have h1 : _ = _ := hd ⟨1, .data⟩ (by simp) rfl 42 rfl
      exact .inl ⟨rfl, .inl ⟨_, u, run_index_op rfl h0 h1 (by go_simp), rfl, hR, Below.refl _ _⟩⟩
     ·have h2 : _ = _ := hd ⟨2, .data⟩ (by simp) rfl 43 rfl
      exact .inl ⟨rfl, .inl ⟨_, u, run_field_op rfl h2 (by go_simp), rfl, hR, Below.refl _ _⟩⟩
     ·have h3 : _ = _ := hd ⟨3, .data⟩ (by simp) rfl 44 rfl
      have y9 : u.cell? ⟨b, off + j * 6, none⟩ = some (.int .i64 (f j).po) := (rangeAt_below HK.out.2.2 HK.out.1 hR) 0 _ rfl
      have hr : (Instr.loadAt 3 (.pointer (some ⟨b, off + j * 6, none⟩))).run Tryz.prog u = .ok (.int .i64 (f j).po) u := by go_simp
      exact .inl ⟨rfl, .inl ⟨_, u, run_load_op rfl h3 hr, rfl, hR, Below.refl _ _⟩⟩
     ·have s0 : ρ (.tmp 0) = .slice (some ⟨b, off, none⟩) n c := (hρ 0 (by kernel_rfl)).trans rfl
      exact .inl ⟨rfl, .inl ⟨_, u, rfl, s0, hR, Below.refl _ _⟩⟩
     ·have s3 : ρ (.tmp 3) = .int .i64 (k : Int) := (hρ 3 (by kernel_rfl)).trans rfl
      exact .inl ⟨rfl, .inl ⟨_, u, rfl, s3, hR, Below.refl _ _⟩⟩
     ·have h5 : _ = _ := hd ⟨5, .data⟩ (by simp) rfl 46 rfl
      have h6 : _ = _ := hd ⟨6, .data⟩ (by simp) rfl 47 rfl
      exact .inl ⟨rfl, .inl ⟨_, u, run_index_op rfl h5 h6 (by go_simp), rfl, hR, Below.refl _ _⟩⟩
     ·have h7 : _ = _ := hd ⟨7, .data⟩ (by simp) rfl 48 rfl
      exact .inl ⟨rfl, .inl ⟨_, u, run_field_op rfl h7 (by go_simp), rfl, hR, Below.refl _ _⟩⟩
     ·have h8 : _ = _ := hd ⟨8, .data⟩ (by simp) rfl 49 rfl
      have y9 : u.cell? ⟨b, off + k * 6, none⟩ = some (.int .i64 (f k).po) := (rangeAt_below HK.out.2.1 HK.out.1 hR) 0 _ rfl
      have hr : (Instr.loadAt 3 (.pointer (some ⟨b, off + k * 6, none⟩))).run Tryz.prog u = .ok (.int .i64 (f k).po) u := by go_simp
      exact .inl ⟨rfl, .inl ⟨_, u, run_load_op rfl h8 hr, rfl, hR, Below.refl _ _⟩⟩
     ·cases e0
      ·have t0 : ((f j).po == (f k).po) = false := HD.out.1
       have h4 : _ = _ := hd ⟨4, .data⟩ (by simp) rfl 45 rfl
       have h9 : _ = _ := hd ⟨9, .data⟩ (by simp) rfl 50 rfl
       exact .inl ⟨rfl, .inl ⟨_, u, run_bin_op rfl h4 h9 (by go_simp), rfl, hR, Below.refl _ _⟩⟩
      have t0 : ((f j).po == (f k).po) = true := HD.out.1
      have h4 : _ = _ := hd ⟨4, .data⟩ (by simp) rfl 45 rfl
      have h9 : _ = _ := hd ⟨9, .data⟩ (by simp) rfl 50 rfl
      exact .inl ⟨rfl, .inl ⟨_, u, run_bin_op rfl h4 h9 (by go_simp), rfl, hR, Below.refl _ _⟩⟩
     ·have h10 : _ = _ := hd ⟨10, .data⟩ (by simp) rfl 51 rfl
      exact .inl ⟨rfl, .inl ⟨_, u, rfl, h10, hR, Below.refl _ _⟩⟩
     ·cases e0
      ·exact .inr ⟨nog (x := .bool false) rfl rfl (hd ⟨11, .guard⟩ (by simp) rfl 52 rfl) rfl, rfl⟩
      have g11 : ρ (.tmp 52) = .bool true := hd ⟨11, .guard⟩ (by simp) rfl 52 rfl
      have s0 : ρ (.tmp 0) = .slice (some ⟨b, off, none⟩) n c := (hρ 0 (by kernel_rfl)).trans rfl
      exact .inl ⟨(by show (match ρ (.tmp 52) with | .bool b => b == true | _ => false) = true; rw [g11]; rfl), .inl ⟨_, u, rfl, s0, hR, Below.refl _ _⟩⟩
     ·cases e0
      ·exact .inr ⟨nog (x := .bool false) rfl rfl (hd ⟨11, .guard⟩ (by simp) rfl 52 rfl) rfl, rfl⟩
      have g11 : ρ (.tmp 52) = .bool true := hd ⟨11, .guard⟩ (by simp) rfl 52 rfl
      have s4 : ρ (.tmp 4) = .int .i64 (j : Int) := (hρ 4 (by kernel_rfl)).trans rfl
      exact .inl ⟨(by show (match ρ (.tmp 52) with | .bool b => b == true | _ => false) = true; rw [g11]; rfl), .inl ⟨_, u, rfl, s4, hR, Below.refl _ _⟩⟩
     ·cases e0
      ·exact .inr ⟨nog (x := .bool false) rfl rfl (hd ⟨11, .guard⟩ (by simp) rfl 52 rfl) rfl, rfl⟩
      have g11 : ρ (.tmp 52) = .bool true := hd ⟨11, .guard⟩ (by simp) rfl 52 rfl
      have h12 : _ = _ := hd ⟨12, .data⟩ (by simp) rfl 53 rfl
      have h13 : _ = _ := hd ⟨13, .data⟩ (by simp) rfl 54 rfl
      exact .inl ⟨(by show (match ρ (.tmp 52) with | .bool b => b == true | _ => false) = true; rw [g11]; rfl), .inl ⟨_, u, run_index_op rfl h12 h13 (by go_simp), rfl, hR, Below.refl _ _⟩⟩
     ·cases e0
      ·exact .inr ⟨nog (x := .bool false) rfl rfl (hd ⟨11, .guard⟩ (by simp) rfl 52 rfl) rfl, rfl⟩
      have g11 : ρ (.tmp 52) = .bool true := hd ⟨11, .guard⟩ (by simp) rfl 52 rfl
      have h14 : _ = _ := hd ⟨14, .data⟩ (by simp) rfl 55 rfl
      exact .inl ⟨(by show (match ρ (.tmp 52) with | .bool b => b == true | _ => false) = true; rw [g11]; rfl), .inl ⟨_, u, run_field_op rfl h14 (by go_simp), rfl, hR, Below.refl _ _⟩⟩
     ·cases e0
      ·exact .inr ⟨nog (x := .bool false) rfl rfl (hd ⟨11, .guard⟩ (by simp) rfl 52 rfl) rfl, rfl⟩
      have g11 : ρ (.tmp 52) = .bool true := hd ⟨11, .guard⟩ (by simp) rfl 52 rfl
      have h15 : _ = _ := hd ⟨15, .data⟩ (by simp) rfl 56 rfl
      have y9 : u.cell? ⟨b, off + j * 6 + 1, none⟩ = some (.int .i64 (f j).un) := (rangeAt_below HK.out.2.2 HK.out.1 hR) 1 _ rfl
      have hr : (Instr.loadAt 3 (.pointer (some ⟨b, off + j * 6 + 1, none⟩))).run Tryz.prog u = .ok (.int .i64 (f j).un) u := by go_simp
      exact .inl ⟨(by show (match ρ (.tmp 52) with | .bool b => b == true | _ => false) = true; rw [g11]; rfl), .inl ⟨_, u, run_load_op rfl h15 hr, rfl, hR, Below.refl _ _⟩⟩
     ·cases e0
      ·exact .inr ⟨nog (x := .bool false) rfl rfl (hd ⟨11, .guard⟩ (by simp) rfl 52 rfl) rfl, rfl⟩
      have g11 : ρ (.tmp 52) = .bool true := hd ⟨11, .guard⟩ (by simp) rfl 52 rfl
      have s0 : ρ (.tmp 0) = .slice (some ⟨b, off, none⟩) n c := (hρ 0 (by kernel_rfl)).trans rfl
      exact .inl ⟨(by show (match ρ (.tmp 52) with | .bool b => b == true | _ => false) = true; rw [g11]; rfl), .inl ⟨_, u, rfl, s0, hR, Below.refl _ _⟩⟩
     ·cases e0
      ·exact .inr ⟨nog (x := .bool false) rfl rfl (hd ⟨11, .guard⟩ (by simp) rfl 52 rfl) rfl, rfl⟩
      have g11 : ρ (.tmp 52) = .bool true := hd ⟨11, .guard⟩ (by simp) rfl 52 rfl
      have s3 : ρ (.tmp 3) = .int .i64 (k : Int) := (hρ 3 (by kernel_rfl)).trans rfl
      exact .inl ⟨(by show (match ρ (.tmp 52) with | .bool b => b == true | _ => false) = true; rw [g11]; rfl), .inl ⟨_, u, rfl, s3, hR, Below.refl _ _⟩⟩
     ·cases e0
      ·exact .inr ⟨nog (x := .bool false) rfl rfl (hd ⟨11, .guard⟩ (by simp) rfl 52 rfl) rfl, rfl⟩
      have g11 : ρ (.tmp 52) = .bool true := hd ⟨11, .guard⟩ (by simp) rfl 52 rfl
      have h17 : _ = _ := hd ⟨17, .data⟩ (by simp) rfl 58 rfl
      have h18 : _ = _ := hd ⟨18, .data⟩ (by simp) rfl 59 rfl
      exact .inl ⟨(by show (match ρ (.tmp 52) with | .bool b => b == true | _ => false) = true; rw [g11]; rfl), .inl ⟨_, u, run_index_op rfl h17 h18 (by go_simp), rfl, hR, Below.refl _ _⟩⟩
     ·cases e0
      ·exact .inr ⟨nog (x := .bool false) rfl rfl (hd ⟨11, .guard⟩ (by simp) rfl 52 rfl) rfl, rfl⟩
      have g11 : ρ (.tmp 52) = .bool true := hd ⟨11, .guard⟩ (by simp) rfl 52 rfl
      have h19 : _ = _ := hd ⟨19, .data⟩ (by simp) rfl 60 rfl
      exact .inl ⟨(by show (match ρ (.tmp 52) with | .bool b => b == true | _ => false) = true; rw [g11]; rfl), .inl ⟨_, u, run_field_op rfl h19 (by go_simp), rfl, hR, Below.refl _ _⟩⟩
     ·cases e0
      ·exact .inr ⟨nog (x := .bool false) rfl rfl (hd ⟨11, .guard⟩ (by simp) rfl 52 rfl) rfl, rfl⟩
      have g11 : ρ (.tmp 52) = .bool true := hd ⟨11, .guard⟩ (by simp) rfl 52 rfl
      have h20 : _ = _ := hd ⟨20, .data⟩ (by simp) rfl 61 rfl
      have y9 : u.cell? ⟨b, off + k * 6 + 1, none⟩ = some (.int .i64 (f k).un) := (rangeAt_below HK.out.2.1 HK.out.1 hR) 1 _ rfl
      have hr : (Instr.loadAt 3 (.pointer (some ⟨b, off + k * 6 + 1, none⟩))).run Tryz.prog u = .ok (.int .i64 (f k).un) u := by go_simp
      exact .inl ⟨(by show (match ρ (.tmp 52) with | .bool b => b == true | _ => false) = true; rw [g11]; rfl), .inl ⟨_, u, run_load_op rfl h20 hr, rfl, hR, Below.refl _ _⟩⟩
     ·cases e0
      ·exact .inr ⟨nog (x := .bool false) rfl rfl (hd ⟨11, .guard⟩ (by simp) rfl 52 rfl) rfl, rfl⟩
      cases e1
      ·have t1 : ((f j).un == (f k).un) = false := HD.out.2
       have g11 : ρ (.tmp 52) = .bool true := hd ⟨11, .guard⟩ (by simp) rfl 52 rfl
       have h16 : _ = _ := hd ⟨16, .data⟩ (by simp) rfl 57 rfl
       have h21 : _ = _ := hd ⟨21, .data⟩ (by simp) rfl 62 rfl
       exact .inl ⟨(by show (match ρ (.tmp 52) with | .bool b => b == true | _ => false) = true; rw [g11]; rfl), .inl ⟨_, u, run_bin_op rfl h16 h21 (by go_simp), rfl, hR, Below.refl _ _⟩⟩
      have t1 : ((f j).un == (f k).un) = true := HD.out.2
      have g11 : ρ (.tmp 52) = .bool true := hd ⟨11, .guard⟩ (by simp) rfl 52 rfl
      have h16 : _ = _ := hd ⟨16, .data⟩ (by simp) rfl 57 rfl
      have h21 : _ = _ := hd ⟨21, .data⟩ (by simp) rfl 62 rfl
      exact .inl ⟨(by show (match ρ (.tmp 52) with | .bool b => b == true | _ => false) = true; rw [g11]; rfl), .inl ⟨_, u, run_bin_op rfl h16 h21 (by go_simp), rfl, hR, Below.refl _ _⟩⟩
     cases e0
     ·have h11 : _ = _ := hd ⟨11, .data⟩ (by simp) rfl 52 rfl
      exact .inl ⟨rfl, .inl ⟨_, u, run_pick_op rfl h11, (by simpa using hc _), hR, Below.refl _ _⟩⟩
     have h11 : _ = _ := hd ⟨11, .data⟩ (by simp) rfl 52 rfl
     have h22 : _ = _ := hd ⟨22, .data⟩ (by simp) rfl 63 rfl
     exact .inl ⟨rfl, .inl ⟨_, u, run_pick_op rfl h11, (by simpa using h22), hR, Below.refl _ _⟩⟩
    have hji : ¬ (j : Int) < (k : Int) := by omega
    have e9 : j = k := by omega
    have hk9 : alP (fun j => !saP (f j) (f k)) k = true := by have h8 := hjall; rw [e9] at h8; exact h8
    have HF : Hid (alP (rowP f) (k + 1) = true /\ Below w.heap.size w wr) := ⟨alP_succ HA.out.1 (by rw [HA.out.2.2, hk9]; rfl), hjb⟩
    clear e9 hk9 hjall hjb HA HR HX B1
    go_wp2
    go_roundw
    case rel => exact ⟨k + 1, by omega, by go_num, HF.out.1, HF.out.2⟩
    case measure => simp [intOf]; omega
  have hi : ¬ (k : Int) < (n : Int) := by omega
  have e9 : k = n := by omega
  have HF : Hid (alP (rowP f) n = true /\ Below w.heap.size w wr) := ⟨by rw [<- e9]; exact hall, hbl⟩
  clear hall hbl e9
  obtain ⟨x, hx⟩ : ∃ x, decide (n <= 8) = x := ⟨_, rfl⟩
  have HN : Hid (okPs n f = x) := by show _ = x; unfold okPs; rw [HF.out.1, hx, Bool.and_true]
  cases x
  case false =>
   have h8 : ¬ (n : Int) <= 8 := by have := of_decide_eq_false hx; omega
   clear hx
   go_wp2
   go_ret
   exact ⟨by rw [HN.out]; rfl, HF.out.2⟩
  have h8 : (n : Int) <= 8 := by have := of_decide_eq_true hx; omega
  clear hx
  go_wp2
  go_ret
  exact ⟨by rw [HN.out]; rfl, HF.out.2⟩
end Go.Proofs.YtkfgijkkffbpmaaGreat

/- Texts that the proof needs, joined: Bx4 Bx5 Bx6. -/
import Derived.Test.YtohikbpolofklaaGreatDoorV11
import Derived.Deep.RegionWith
namespace Go.Proofs.YtohikbpolofklaaGreatDoor
open Go.RowKit
set_option linter.unusedVariables false
set_option linter.unusedSimpArgs false
abbrev zq : Array Value := #[.int .i64 0, .int .i64 0, .int .i64 0, .slice none 0 0, .slice none 0 0, .int .i64 0]
theorem run_mkN (x : Int) (p : Value) (u : World) : (Instr.makeInterface 75 (.agg #[.int .u8 x, p])).run Tryz.prog u = .ok (.iface 75 (.agg #[.int .u8 x, p])) u := by kernel_rfl
theorem run_mki_op {P : Program} {ρ : Operand → Value} {o : Oper} {u : World} {t : TypeId} {x : Operand} {a v : Value} (ho : o.op = .makeInterface t x) (ha : ρ x = a) (hr : (Instr.makeInterface t a).run P u = .ok v u) : (execOp ρ o).run P u = .ok (.value v) u := by
  unfold execOp
  simp only [ho, ha]
  rw [Sem.run_bind, hr]
  rfl
theorem zq_st {u : World} {g : Nat} {t : TypeId} (h : Blk u g t zq) : Blk (setL u g 0 zq.toList) g t zq := by
  have := Blk.stL zq.toList 0 h
  simpa [wrA] using this
set_option maxRecDepth 20000 in
set_option maxHeartbeats 4000000 in
theorem askedBy_any (a : Option Addr) (n cap : Nat) (zs : List Int) (a0 a1 : Addr) (kd pl nn wa : Int) (ws : List Int) (bs : List Bool) (code : Int) (w : World) (hn : n = zs.length) (hs : Sl w a zs) (hr : ∀ z ∈ zs, 0 ≤ z ∧ z ≤ 255) (hl : n ≤ 1048576) (hcap : n ≤ cap) (hE : EnB a0 a1 w)
    (hform : ∀ w w' e, GPz zs w w' e → GP w w' e kd pl nn wa ws bs code) (hco : CoB kd pl nn wa ws bs code) :
    Calls Tryz.prog 15 #[.slice a n cap] w fun e w' => ∃ b1 b2 l1 l2 c1 c2, e = .returned (.tuple #[rq kd pl nn wa b1 b2 l1 l2 c1 c2, erV (zs.getD 0 0) a0 a1 code]) ∧ l1 = ws.length ∧ l2 = bs.length ∧ OwnI w' w.heap.size (.slice b1 l1 c1) ws ∧ OwnB w' w.heap.size (.slice b2 l2 c2) bs ∧ Below w.heap.size w w' := by
  obtain ⟨W, hW⟩ : ∃ W, W = w.alloc (.cells zq 30) := ⟨_, rfl⟩
  have B0 : Below w.heap.size w W := by rw [hW]; exact bel_alloc w _
  have X0 : Blk W w.heap.size 30 zq := by rw [hW]; exact Blk.new w _ _
  have HH : Hid (n = zs.length ∧ Sl W a zs ∧ EnB a0 a1 W ∧ n ≤ 2000000) := ⟨hn, hs.below B0, hE.below B0, by omega⟩
  have HB : Hid (Below w.heap.size w W ∧ Blk W w.heap.size 30 zq) := ⟨B0, X0⟩
  have HZ : Hid (n = zs.length ∧ EnB a0 a1 w ∧ Sl w a zs ∧ n ≤ 1048576) := ⟨hn, hE, hs, hl⟩
  clear hn hs hE B0 X0
  go_enter Tryz.func15, Tryz.ntmps15
  go_upto_region 1 with fail
  rw [← hW]
  clear hW
  go_wp2_with fail
  refine (implGet_q a n cap zs _ HH.out.1 HH.out.2.1 hr HH.out.2.2.2 hcap).mono ?_
  rintro e w1 h'
  obtain ⟨b1, b2, l1, l2, c1, c2, rfl, e1, e2, i', j', b'⟩ := hform _ _ _ h'
  obtain ⟨W2, hW2⟩ : ∃ u, u = w1.alloc (.cells #[.int .i64 kd, .int .i64 pl, .int .i64 nn, .slice b1 l1 c1, .slice b2 l2 c2, .int .i64 wa] 30) := ⟨_, rfl⟩
  have B2 : Below w1.heap.size w1 W2 := by rw [hW2]; exact bel_alloc _ _
  have HG : Hid (l1 = ws.length ∧ l2 = bs.length ∧ OwnI W2 W.heap.size (.slice b1 l1 c1) ws ∧ OwnB W2 W.heap.size (.slice b2 l2 c2) bs ∧ Below w.heap.size w W2 ∧ Blk W2 w.heap.size 30 zq ∧ EnB a0 a1 W2 ∧ Sl W2 a zs ∧ w.heap.size ≤ W.heap.size) := ⟨e1, e2, i'.below B2, j'.below B2, bel_next (bel_next HB.out.1 b') B2, (HB.out.2.below b').below B2, (HH.out.2.2.1.below b').below B2, (HH.out.2.1.below b').below B2, HB.out.1.size⟩
  have Y2 : Blk W2 w1.heap.size 30 #[.int .i64 kd, .int .i64 pl, .int .i64 nn, .slice b1 l1 c1, .slice b2 l2 c2, .int .i64 wa] := by rw [hW2]; exact Blk.new _ _ _
  clear h' e1 e2 i' j' b' B2
  obtain rfl | ⟨hc, rfl, rfl, rfl, rfl, rfl, rfl⟩ := hco
  · go_upto_region 7 with fail
    rw [← hW2]
    clear hW2
    obtain ⟨y0, y1, y2, y3, y4, y5⟩ := Y2.six
    obtain ⟨x0, x1, x2, x3, x4, x5⟩ := HG.out.2.2.2.2.2.1.six
    have fx := HG.out.2.2.2.2.2.1.fro
    go_wp2
    refine bodyPost_ret (v := .tuple #[rq kd pl nn wa b1 b2 l1 l2 c1 c2, erV (zs.getD 0 0) a0 a1 0]) (by simp [results, Tryz.results15, go_sem, x0, x1, x2, x3, x4, x5, erV]) rfl ?_
    obtain ⟨q1, q2, q3, q4, q5, q6, _, _, q9⟩ := HG.out
    exact ⟨b1, b2, l1, l2, c1, c2, rfl, q1, q2, OwnI.mono (show OwnI _ _ _ _ from row_set6 q3 ⟨_, q6⟩ (by decide)) q9, OwnB.mono (show OwnB _ _ _ _ from row_set6 q4 ⟨_, q6⟩ (by decide)) q9, bel_set6 q5 (Nat.le_refl _)⟩
  · have k0 := HG.out.2.2.2.2.2.2.1.1.1
    have k1 := HG.out.2.2.2.2.2.2.1.1.2
    obtain ⟨x0, x1, x2, x3, x4, x5⟩ := HG.out.2.2.2.2.2.1.six
    have fx := HG.out.2.2.2.2.2.1.fro
    obtain rfl | rfl := hc
    · go_upto_region 4 with fail
      rw [← hW2]
      clear hW2
      refine wp_region_any (by kernel_rfl) ?_
      refine wpAny_valg (fun _ u => Below w.heap.size w u ∧ Blk u w.heap.size 30 zq) (fun _ _ => True) (fun i v _ => match i with
        | 0 => v = .agg zq
        | 1 => v = .slice a n cap
        | 2 => v = .int .u8 (zs.getD 0 0)
        | 3 => v = .iface 142 (.pointer (some a0))
        | 4 => v = .agg #[.int .u8 (zs.getD 0 0), .iface 142 (.pointer (some a0))]
        | 5 => v = .iface 75 (.agg #[.int .u8 (zs.getD 0 0), .iface 142 (.pointer (some a0))])
        | 7 => v = .iface 75 (.agg #[.int .u8 (zs.getD 0 0), .iface 142 (.pointer (some a0))])
        | _ => True) (by kernel_rfl) (by kernel_rfl) (fun _ _ _ _ h _ => h) (fun _ => trivial) (by first | exact ⟨HG.out.2.2.2.2.1, HG.out.2.2.2.2.2.1⟩ | exact ⟨HG.out.2.2.2.2.1.drew, HG.out.2.2.2.2.2.1⟩) ?_ ?_ _ _ rfl (by decide) (fun i => by simp [Array.getD]; try (split <;> rfl))
      rotate_left
      · intro u i o ρ l hR ho hli hcl hρ hc hf hg hdep hv
        have hi : i < 8 := by
          have := (Array.getElem?_eq_some_iff.1 ho).1
          simpa using this
        obtain rfl | rfl | rfl | rfl | rfl | rfl | rfl | rfl : i = 0 ∨ i = 1 ∨ i = 2 ∨ i = 3 ∨ i = 4 ∨ i = 5 ∨ i = 6 ∨ i = 7 := by omega
        all_goals (simp only [List.getElem?_toArray, List.getElem?_cons_zero, List.getElem?_cons_succ, Option.some.injEq] at ho; subst ho)
        · exact .inl ⟨rfl, .inl ⟨.agg zq, u, run_bldz rfl (qs := #[]) (by simp) (by kernel_rfl), rfl, hR, trivial⟩⟩
        · have s0 : ρ (.tmp 0) = .slice a n cap := (hρ 0 (by kernel_rfl)).trans rfl
          exact .inl ⟨rfl, .inl ⟨_, u, rfl, s0, hR, trivial⟩⟩
        · have h1 : ρ (.tmp 15) = .slice a n cap := hv 1 15 rfl (hdep ⟨1, .data⟩ (by simp) rfl)
          refine .inl ⟨rfl, .inr (.inl ⟨_, _, run_call_op rfl (hf _) (args := #[.slice a n cap]) (by simp [h1]) (by kernel_rfl), ?_⟩)⟩
          refine (firstOf_any a n cap zs _ HZ.out.1 (HZ.out.2.2.1.below hR.1) HZ.out.2.2.2).mono ?_
          rintro e u' ⟨he, rfl⟩
          exact ⟨_, he, rfl, hR, trivial⟩
        · have k := (HZ.out.2.1.below hR.1).1.1
          exact .inl ⟨rfl, .inl ⟨_, u, run_load_op rfl (hg 0) (by go_simp), rfl, hR, trivial⟩⟩
        · have h2 : ρ (.tmp 16) = .int .u8 (zs.getD 0 0) := hv 2 16 rfl (hdep ⟨2, .data⟩ (by simp) rfl)
          have h3 : ρ (.tmp 17) = .iface 142 (.pointer (some a0)) := hv 3 17 rfl (hdep ⟨3, .data⟩ (by simp) rfl)
          exact .inl ⟨rfl, .inl ⟨.agg #[.int .u8 (zs.getD 0 0), .iface 142 (.pointer (some a0))], u, run_bldz rfl (qs := #[(0, .int .u8 (zs.getD 0 0)), (1, .iface 142 (.pointer (some a0)))]) (by simp [h2, h3]) (by kernel_rfl), rfl, hR, trivial⟩⟩
        · have h4 : ρ (.tmp 18) = .agg #[.int .u8 (zs.getD 0 0), .iface 142 (.pointer (some a0))] := hv 4 18 rfl (hdep ⟨4, .data⟩ (by simp) rfl)
          exact .inl ⟨rfl, .inl ⟨.iface 75 (.agg #[.int .u8 (zs.getD 0 0), .iface 142 (.pointer (some a0))]), u, run_mki_op rfl h4 (run_mkN _ _ u), rfl, hR, trivial⟩⟩
        · have h0 : ρ (.tmp 14) = .agg zq := hv 0 14 rfl (hdep ⟨0, .data⟩ (by simp) rfl)
          have s2 : ρ (.tmp 2) = .pointer (some ⟨w.heap.size, 0, none⟩) := (hρ 2 (by kernel_rfl)).trans rfl
          exact .inl ⟨rfl, .inr (.inr ⟨rfl, setL u w.heap.size 0 zq.toList, run_store_op rfl s2 h0 ((run_storeAt_mid u w.heap.size 0 30 zq (hR.2.there 0 6 (by simp)) (by kernel_rfl) (by simp [Value.oneCell'])).trans (by rw [setCells_L])), ⟨setL_below (Nat.le_refl _) _ _ _ hR.1, zq_st hR.2⟩, trivial⟩)⟩
        · have h5 : ρ (.tmp 19) = .iface 75 (.agg #[.int .u8 (zs.getD 0 0), .iface 142 (.pointer (some a0))]) := hv 5 19 rfl (hdep ⟨5, .data⟩ (by simp) rfl)
          exact .inl ⟨rfl, .inl ⟨_, u, rfl, h5, hR, trivial⟩⟩
      intro vs u hR hvs
      have f7 : vs 7 = .iface 75 (.agg #[.int .u8 (zs.getD 0 0), .iface 142 (.pointer (some a0))]) := hvs 7 3 rfl
      have HR : Hid (Below w.heap.size w u ∧ Blk u w.heap.size 30 zq) := hR
      clear hvs hR x0 x1 x2 x3 x4 x5 fx k0 k1
      simp only [putsL]
      rw [f7]
      clear f7
      obtain ⟨x0, x1, x2, x3, x4, x5⟩ := HR.out.2.six
      go_wp2
      refine bodyPost_ret (v := .tuple #[rq 0 0 0 0 none none 0 0 0 0, erV (zs.getD 0 0) a0 a1 1]) (by simp [results, Tryz.results15, go_sem, x0, x1, x2, x3, x4, x5, erV]) rfl ?_
      exact ⟨none, none, 0, 0, 0, 0, rfl, rfl, rfl, ownI_nil _ _, ownB_nil _ _, HR.out.1⟩
    · go_upto_region 6 with fail
      rw [← hW2]
      clear hW2
      refine wp_region_any (by kernel_rfl) ?_
      refine wpAny_valg (fun _ u => Below w.heap.size w u ∧ Blk u w.heap.size 30 zq) (fun _ _ => True) (fun i v _ => match i with
        | 0 => v = .agg zq
        | 1 => v = .slice a n cap
        | 2 => v = .int .u8 (zs.getD 0 0)
        | 3 => v = .iface 142 (.pointer (some a1))
        | 4 => v = .agg #[.int .u8 (zs.getD 0 0), .iface 142 (.pointer (some a1))]
        | 5 => v = .iface 75 (.agg #[.int .u8 (zs.getD 0 0), .iface 142 (.pointer (some a1))])
        | 7 => v = .iface 75 (.agg #[.int .u8 (zs.getD 0 0), .iface 142 (.pointer (some a1))])
        | _ => True) (by kernel_rfl) (by kernel_rfl) (fun _ _ _ _ h _ => h) (fun _ => trivial) (by first | exact ⟨HG.out.2.2.2.2.1, HG.out.2.2.2.2.2.1⟩ | exact ⟨HG.out.2.2.2.2.1.drew, HG.out.2.2.2.2.2.1⟩) ?_ ?_ _ _ rfl (by decide) (fun i => by simp [Array.getD]; try (split <;> rfl))
      rotate_left
      · intro u i o ρ l hR ho hli hcl hρ hc hf hg hdep hv
        have hi : i < 8 := by
          have := (Array.getElem?_eq_some_iff.1 ho).1
          simpa using this
        obtain rfl | rfl | rfl | rfl | rfl | rfl | rfl | rfl : i = 0 ∨ i = 1 ∨ i = 2 ∨ i = 3 ∨ i = 4 ∨ i = 5 ∨ i = 6 ∨ i = 7 := by omega
        all_goals (simp only [List.getElem?_toArray, List.getElem?_cons_zero, List.getElem?_cons_succ, Option.some.injEq] at ho; subst ho)
        · exact .inl ⟨rfl, .inl ⟨.agg zq, u, run_bldz rfl (qs := #[]) (by simp) (by kernel_rfl), rfl, hR, trivial⟩⟩
        · have s0 : ρ (.tmp 0) = .slice a n cap := (hρ 0 (by kernel_rfl)).trans rfl
          exact .inl ⟨rfl, .inl ⟨_, u, rfl, s0, hR, trivial⟩⟩
        · have h1 : ρ (.tmp 23) = .slice a n cap := hv 1 23 rfl (hdep ⟨1, .data⟩ (by simp) rfl)
          refine .inl ⟨rfl, .inr (.inl ⟨_, _, run_call_op rfl (hf _) (args := #[.slice a n cap]) (by simp [h1]) (by kernel_rfl), ?_⟩)⟩
          refine (firstOf_any a n cap zs _ HZ.out.1 (HZ.out.2.2.1.below hR.1) HZ.out.2.2.2).mono ?_
          rintro e u' ⟨he, rfl⟩
          exact ⟨_, he, rfl, hR, trivial⟩
        · have k := (HZ.out.2.1.below hR.1).1.2
          exact .inl ⟨rfl, .inl ⟨_, u, run_load_op rfl (hg 1) (by go_simp), rfl, hR, trivial⟩⟩
        · have h2 : ρ (.tmp 24) = .int .u8 (zs.getD 0 0) := hv 2 24 rfl (hdep ⟨2, .data⟩ (by simp) rfl)
          have h3 : ρ (.tmp 25) = .iface 142 (.pointer (some a1)) := hv 3 25 rfl (hdep ⟨3, .data⟩ (by simp) rfl)
          exact .inl ⟨rfl, .inl ⟨.agg #[.int .u8 (zs.getD 0 0), .iface 142 (.pointer (some a1))], u, run_bldz rfl (qs := #[(0, .int .u8 (zs.getD 0 0)), (1, .iface 142 (.pointer (some a1)))]) (by simp [h2, h3]) (by kernel_rfl), rfl, hR, trivial⟩⟩
        · have h4 : ρ (.tmp 26) = .agg #[.int .u8 (zs.getD 0 0), .iface 142 (.pointer (some a1))] := hv 4 26 rfl (hdep ⟨4, .data⟩ (by simp) rfl)
          exact .inl ⟨rfl, .inl ⟨.iface 75 (.agg #[.int .u8 (zs.getD 0 0), .iface 142 (.pointer (some a1))]), u, run_mki_op rfl h4 (run_mkN _ _ u), rfl, hR, trivial⟩⟩
        · have h0 : ρ (.tmp 22) = .agg zq := hv 0 22 rfl (hdep ⟨0, .data⟩ (by simp) rfl)
          have s2 : ρ (.tmp 2) = .pointer (some ⟨w.heap.size, 0, none⟩) := (hρ 2 (by kernel_rfl)).trans rfl
          exact .inl ⟨rfl, .inr (.inr ⟨rfl, setL u w.heap.size 0 zq.toList, run_store_op rfl s2 h0 ((run_storeAt_mid u w.heap.size 0 30 zq (hR.2.there 0 6 (by simp)) (by kernel_rfl) (by simp [Value.oneCell'])).trans (by rw [setCells_L])), ⟨setL_below (Nat.le_refl _) _ _ _ hR.1, zq_st hR.2⟩, trivial⟩)⟩
        · have h5 : ρ (.tmp 27) = .iface 75 (.agg #[.int .u8 (zs.getD 0 0), .iface 142 (.pointer (some a1))]) := hv 5 27 rfl (hdep ⟨5, .data⟩ (by simp) rfl)
          exact .inl ⟨rfl, .inl ⟨_, u, rfl, h5, hR, trivial⟩⟩
      intro vs u hR hvs
      have f7 : vs 7 = .iface 75 (.agg #[.int .u8 (zs.getD 0 0), .iface 142 (.pointer (some a1))]) := hvs 7 3 rfl
      have HR : Hid (Below w.heap.size w u ∧ Blk u w.heap.size 30 zq) := hR
      clear hvs hR x0 x1 x2 x3 x4 x5 fx k0 k1
      simp only [putsL]
      rw [f7]
      clear f7
      obtain ⟨x0, x1, x2, x3, x4, x5⟩ := HR.out.2.six
      go_wp2
      refine bodyPost_ret (v := .tuple #[rq 0 0 0 0 none none 0 0 0 0, erV (zs.getD 0 0) a0 a1 3]) (by simp [results, Tryz.results15, go_sem, x0, x1, x2, x3, x4, x5, erV]) rfl ?_
      exact ⟨none, none, 0, 0, 0, 0, rfl, rfl, rfl, ownI_nil _ _, ownB_nil _ _, HR.out.1⟩
end Go.Proofs.YtohikbpolofklaaGreatDoor
namespace Go.Proofs.YtohikbpolofklaaGreatDoor
open Go.RowKit
set_option linter.unusedVariables false
set_option linter.unusedSimpArgs false
theorem CoB.three {kd pl nn wa : Int} {ws : List Int} {bs : List Bool} {code : Int} (h : CoB kd pl nn wa ws bs code) : code = 0 ∨ code = 1 ∨ code = 3 := by
  rcases h with h | ⟨h, _⟩
  · exact .inl h
  · exact .inr h
set_option maxRecDepth 20000 in
set_option maxHeartbeats 1000000 in
theorem implBoxAsk_q (nm un : Int) (a : Option Addr) (n cap : Nat) (zs : List Int) (a0 a1 : Addr) (kd pl nn wa : Int) (ws : List Int) (bs : List Bool) (code : Int) (w : World) (hn : n = zs.length) (hs : Sl w a zs) (hr : ∀ z ∈ zs, 0 ≤ z ∧ z ≤ 255) (hl : n ≤ 1048576) (hcap : n ≤ cap) (hE : EnB a0 a1 w)
    (hform : ∀ w w' e, GPz zs w w' e → GP w w' e kd pl nn wa ws bs code) (hco : CoB kd pl nn wa ws bs code) :
    Calls Tryz.prog 6 #[.agg (bxc nm un a n cap)] w fun e w' => BaP (unB un code) kd pl nn wa ws bs (faL zs code) w w' e := by
  obtain ⟨W, hW⟩ : ∃ W, W = (w.alloc (.cells (bxc nm un a n cap) 25)).alloc (.cells zq 30) := ⟨_, rfl⟩
  have B0 : Below w.heap.size w W := by rw [hW]; exact bel_next (bel_alloc w _) (bel_alloc _ _)
  have X0 : Blk W w.heap.size 25 (bxc nm un a n cap) := by rw [hW]; exact (Blk.new w _ _).below (bel_alloc _ _)
  have Z0 : Blk W (w.heap.size + 1) 30 zq := by
    rw [hW]; have := Blk.new (w.alloc (.cells (bxc nm un a n cap) 25)) zq 30; simpa using this
  have HW : Hid (Below w.heap.size w W ∧ Blk W w.heap.size 25 (bxc nm un a n cap) ∧ Blk W (w.heap.size + 1) 30 zq ∧ W.heap.size = w.heap.size + 1 + 1) := ⟨B0, X0, Z0, by rw [hW]; simp⟩
  have HH : Hid (n = zs.length ∧ EnB a0 a1 w ∧ Sl w a zs ∧ n ≤ 1048576) := ⟨hn, hE, hs, hl⟩
  obtain ⟨x0, x1, x2⟩ := X0.tri
  clear hn hs hE B0 X0 Z0
  go_enter Tryz.func6, Tryz.ntmps6
  go_upto_region 1 with fail
  rw [← hW]
  clear hW
  go_wp2_with fail
  refine (askedBy_any a n cap zs a0 a1 kd pl nn wa ws bs code _ HH.out.1 (HH.out.2.2.1.below HW.out.1) hr hl hcap (HH.out.2.1.below HW.out.1) hform hco).mono ?_
  rintro e w1 ⟨b1, b2, l1, l2, c1, c2, rfl, e1, e2, i', j', b'⟩
  obtain ⟨f, hf⟩ : ∃ f, f = zs.getD 0 0 := ⟨_, rfl⟩
  rw [← hf]
  have HF : Hid (f = zs.getD 0 0) := hf
  clear hf
  obtain ⟨W2, hW2⟩ : ∃ u, u = w1.alloc (.cells #[.int .i64 kd, .int .i64 pl, .int .i64 nn, .slice b1 l1 c1, .slice b2 l2 c2, .int .i64 wa] 30) := ⟨_, rfl⟩
  have B2 : Below w1.heap.size w1 W2 := by rw [hW2]; exact bel_alloc _ _
  have HG : Hid (l1 = ws.length ∧ l2 = bs.length ∧ OwnI W2 W.heap.size (.slice b1 l1 c1) ws ∧ OwnB W2 W.heap.size (.slice b2 l2 c2) bs ∧ Below w.heap.size w W2 ∧ Blk W2 w.heap.size 25 (bxc nm un a n cap) ∧ Blk W2 (w.heap.size + 1) 30 zq ∧ Blk W2 w1.heap.size 30 #[.int .i64 kd, .int .i64 pl, .int .i64 nn, .slice b1 l1 c1, .slice b2 l2 c2, .int .i64 wa]) := ⟨e1, e2, i'.below B2, j'.below B2, bel_next (bel_next HW.out.1 b') B2, (HW.out.2.1.below b').below B2, (HW.out.2.2.1.below b').below B2, by rw [hW2]; exact Blk.new _ _ _⟩
  clear e1 e2 i' j' b' B2 x0 x1 x2
  obtain ⟨Y, hY⟩ : ∃ Y, Y = w1.heap.size := ⟨_, rfl⟩
  go_upto_region 2 with fail
  rw [← hW2, ← hY]
  rw [← hY] at HG
  clear hW2 hY
  go_wp2_with fail
  refine (faultFor_any f a0 a1 code _ (HH.out.2.1.below HG.out.2.2.2.2.1) hco.three).mono ?_
  rintro e w3 ⟨rfl, b'⟩
  have HK : Hid (OwnI w3 W.heap.size (.slice b1 l1 c1) ws ∧ OwnB w3 W.heap.size (.slice b2 l2 c2) bs ∧ Below w.heap.size w w3 ∧ Blk w3 w.heap.size 25 (bxc nm un a n cap) ∧ Blk w3 (w.heap.size + 1) 30 zq ∧ Blk w3 Y 30 #[.int .i64 kd, .int .i64 pl, .int .i64 nn, .slice b1 l1 c1, .slice b2 l2 c2, .int .i64 wa]) := ⟨HG.out.2.2.1.below b', HG.out.2.2.2.1.below b', bel_next HG.out.2.2.2.2.1 b', HG.out.2.2.2.2.2.1.below b', HG.out.2.2.2.2.2.2.1.below b', HG.out.2.2.2.2.2.2.2.below b'⟩
  clear b'
  obtain ⟨x0, x1, x2⟩ := HK.out.2.2.2.1.tri
  obtain ⟨z0, z1, z2, z3, z4, z5⟩ := HK.out.2.2.2.2.1.six
  have fz := HK.out.2.2.2.2.1.fro
  obtain rfl | ⟨hc, rfl, rfl, rfl, rfl, rfl, rfl⟩ := hco
  · obtain ⟨y0, y1, y2, y3, y4, y5⟩ := HK.out.2.2.2.2.2.six
    go_upto_region 5 with fail
    go_region
    all_goals (try go_wp2)
    all_goals (
      refine bodyPost_ret (v := .tuple #[.int .i64 un, rq kd pl nn wa b1 b2 l1 l2 c1 c2, .slice none 0 0]) (by simp [results, Tryz.results6, go_sem, z0, z1, z2, z3, z4, z5]) rfl ?_
      have hs9 := HW.out.1.size
      have d9 : ∀ X : World, Below X.heap.size X X.drew := fun X => (Below.refl _ X).drew
      have q1 : OwnI _ _ _ _ := row_set6 (v0 := .int .i64 kd) (v1 := .int .i64 pl) (v2 := .int .i64 nn) (v3 := .slice b1 l1 c1) (v4 := .slice b2 l2 c2) (v5 := .int .i64 wa) HK.out.1 ⟨_, HK.out.2.2.2.2.1⟩ (by decide)
      have q2 : OwnB _ _ _ _ := row_set6 (v0 := .int .i64 kd) (v1 := .int .i64 pl) (v2 := .int .i64 nn) (v3 := .slice b1 l1 c1) (v4 := .slice b2 l2 c2) (v5 := .int .i64 wa) HK.out.2.1 ⟨_, HK.out.2.2.2.2.1⟩ (by decide)
      exact ⟨b1, b2, l1, l2, c1, c2, none, 0, 0, rfl, HG.out.1, HG.out.2.1, rfl, (q1.mono hs9).below (d9 _), (q2.mono hs9).below (d9 _), own_bn _ _, (bel_set6 HK.out.2.2.1 (Nat.le_succ _)).drew⟩)
  · have HZ := HK.out.2.2.2.2.1
    have u0 : ∀ o, (w3.alloc o).cell? ⟨w.heap.size + 1, 0, none⟩ = some (.int .i64 0) := fun o => (HZ.below (bel_alloc _ o)).cell 0 rfl
    have u1 : ∀ o, (w3.alloc o).cell? ⟨w.heap.size + 1, 1, none⟩ = some (.int .i64 0) := fun o => (HZ.below (bel_alloc _ o)).cell 1 rfl
    have u2 : ∀ o, (w3.alloc o).cell? ⟨w.heap.size + 1, 2, none⟩ = some (.int .i64 0) := fun o => (HZ.below (bel_alloc _ o)).cell 2 rfl
    have u3 : ∀ o, (w3.alloc o).cell? ⟨w.heap.size + 1, 3, none⟩ = some (.slice none 0 0) := fun o => (HZ.below (bel_alloc _ o)).cell 3 rfl
    have u4 : ∀ o, (w3.alloc o).cell? ⟨w.heap.size + 1, 4, none⟩ = some (.slice none 0 0) := fun o => (HZ.below (bel_alloc _ o)).cell 4 rfl
    have u5 : ∀ o, (w3.alloc o).cell? ⟨w.heap.size + 1, 5, none⟩ = some (.int .i64 0) := fun o => (HZ.below (bel_alloc _ o)).cell 5 rfl
    have fu : ∀ o j, (w3.alloc o).frozen? ⟨w.heap.size + 1, j, none⟩ = false := fun o j => (HZ.below (bel_alloc _ o)).fro j
    clear HZ z0 z1 z2 z3 z4 z5 fz
    obtain rfl | rfl := hc
    · go_wp2_with (go_at_call 17; refine (firstOf_any a n cap zs _ HH.out.1 (HH.out.2.2.1.below HK.out.2.2.1) hl).mono ?_; rintro e wf ⟨he, hw⟩; have hw := hw.symm; subst hw; rw [← HF.out] at he; subst he)
      have hh := HK.out.2.2.1.size
      refine bodyPost_ret (v := .tuple #[.int .i64 0, rq 0 0 0 0 none none 0 0 0 0, .slice (some ⟨w3.heap.size, 0, none⟩) 2 2]) (by simp [results, Tryz.results6, go_sem, u0, u1, u2, u3, u4, u5, fu]) rfl ?_
      have o2 : Own (w3.alloc (.cells #[.int .u8 (bits .or .u8 f 128), .int .u8 1] 5)) w.heap.size (.slice (some ⟨w3.heap.size, 0, none⟩) 2 2) [bits .or .u8 f 128, 1] := own_b2 w3 _ _ _ hh
      have k2 := HK.out.2.2.2.2.1.below (bel_alloc w3 (.cells #[.int .u8 (bits .or .u8 f 128), .int .u8 1] 5))
      rw [HF.out] at o2 k2 ⊢
      exact ⟨none, none, 0, 0, 0, 0, _, 2, 2, rfl, rfl, rfl, rfl, ownI_nil _ _, ownB_nil _ _, (show Own _ _ _ _ from row_set6 o2 ⟨_, k2⟩ (by decide)), bel_set6 (bel_next HK.out.2.2.1 (bel_alloc _ _)) (Nat.le_succ _)⟩
    · go_wp2_with (go_at_call 17; refine (firstOf_any a n cap zs _ HH.out.1 (HH.out.2.2.1.below HK.out.2.2.1) hl).mono ?_; rintro e wf ⟨he, hw⟩; have hw := hw.symm; subst hw; rw [← HF.out] at he; subst he)
      have hh := HK.out.2.2.1.size
      refine bodyPost_ret (v := .tuple #[.int .i64 0, rq 0 0 0 0 none none 0 0 0 0, .slice (some ⟨w3.heap.size, 0, none⟩) 2 2]) (by simp [results, Tryz.results6, go_sem, u0, u1, u2, u3, u4, u5, fu]) rfl ?_
      have o2 : Own (w3.alloc (.cells #[.int .u8 (bits .or .u8 f 128), .int .u8 3] 5)) w.heap.size (.slice (some ⟨w3.heap.size, 0, none⟩) 2 2) [bits .or .u8 f 128, 3] := own_b2 w3 _ _ _ hh
      have k2 := HK.out.2.2.2.2.1.below (bel_alloc w3 (.cells #[.int .u8 (bits .or .u8 f 128), .int .u8 3] 5))
      rw [HF.out] at o2 k2 ⊢
      exact ⟨none, none, 0, 0, 0, 0, _, 2, 2, rfl, rfl, rfl, rfl, ownI_nil _ _, ownB_nil _ _, (show Own _ _ _ _ from row_set6 o2 ⟨_, k2⟩ (by decide)), bel_set6 (bel_next HK.out.2.2.1 (bel_alloc _ _)) (Nat.le_succ _)⟩
end Go.Proofs.YtohikbpolofklaaGreatDoor
namespace Go.Proofs.YtohikbpolofklaaGreatDoor
open Go.RowKit
set_option linter.unusedVariables false
set_option linter.unusedSimpArgs false
end Go.Proofs.YtohikbpolofklaaGreatDoor

/- Texts that the proof needs, joined: Bx4 Bx5 Bx6 BoxAskL. -/
import Derived.Test.YtohikbpolofklaaDoorV9
import Derived.Deep.RegionWith
import Derived.Test.YtohikbpolofklaaDoorV1
import Derived.Test.YtohikbpolofklaaDoorV2
namespace Go.Proofs.YtohikbpolofklaaDoor
open Go.RowKit
set_option linter.unusedVariables false
set_option linter.unusedSimpArgs false
abbrev zq : Array Value := #[.int .i64 0, .int .i64 0, .int .i64 0, .slice none 0 0, .slice none 0 0, .int .i64 0]
theorem run_mkN (x : Int) (p : Value) (u : World) : (Instr.makeInterface 63 (.agg #[.int .u8 x, p])).run Tryd.prog u = .ok (.iface 63 (.agg #[.int .u8 x, p])) u := by kernel_rfl
theorem run_mki_op {P : Program} {ρ : Operand → Value} {o : Oper} {u : World} {t : TypeId} {x : Operand} {a v : Value} (ho : o.op = .makeInterface t x) (ha : ρ x = a) (hr : (Instr.makeInterface t a).run P u = .ok v u) : (execOp ρ o).run P u = .ok (.value v) u := by
  unfold execOp
  simp only [ho, ha]
  rw [Sem.run_bind, hr]
  rfl
theorem zq_st {u : World} {g : Nat} {t : TypeId} (h : Blk u g t zq) : Blk (setL u g 0 zq.toList) g t zq := by
  have := Blk.stL zq.toList 0 h
  simpa [wrA] using this
set_option maxRecDepth 20000 in
set_option maxHeartbeats 4000000 in
theorem askedBy_any (a : Option Addr) (n cap : Nat) (zs : List Int) (a0 a1 : Addr) (kd pl nn wa : Int) (ws : List Int) (bs : List Bool) (code : Int) (w : World) (hn : n = zs.length) (hs : Sl w a zs) (hr : ∀ z ∈ zs, 0 ≤ z ∧ z ≤ 255) (hl : n ≤ 1048576) (hcap : n ≤ cap) (hE : EnB a0 a1 w)
    (hform : ∀ w w' e, GPz zs w w' e → GP w w' e kd pl nn wa ws bs code) (hco : CoB kd pl nn wa ws bs code) :
    Calls Tryd.prog 19 #[.slice a n cap] w fun e w' => ∃ b1 b2 l1 l2 c1 c2, e = .returned (.tuple #[rq kd pl nn wa b1 b2 l1 l2 c1 c2, erV (zs.getD 0 0) a0 a1 code]) ∧ l1 = ws.length ∧ l2 = bs.length ∧ OwnI w' w.heap.size (.slice b1 l1 c1) ws ∧ OwnB w' w.heap.size (.slice b2 l2 c2) bs ∧ Below w.heap.size w w' := by
  obtain ⟨W, hW⟩ : ∃ W, W = w.alloc (.cells zq 29) := ⟨_, rfl⟩
  have B0 : Below w.heap.size w W := by rw [hW]; exact bel_alloc w _
  have X0 : Blk W w.heap.size 29 zq := by rw [hW]; exact Blk.new w _ _
  have HH : Hid (n = zs.length ∧ Sl W a zs ∧ EnB a0 a1 W ∧ n ≤ 2000000) := ⟨hn, hs.below B0, hE.below B0, by omega⟩
  have HB : Hid (Below w.heap.size w W ∧ Blk W w.heap.size 29 zq) := ⟨B0, X0⟩
  have HZ : Hid (n = zs.length ∧ EnB a0 a1 w ∧ Sl w a zs ∧ n ≤ 1048576) := ⟨hn, hE, hs, hl⟩
  clear hn hs hE B0 X0
  go_enter Tryd.func19, Tryd.ntmps19
  go_upto_region 1 with fail
  rw [← hW]
  clear hW
  go_wp2_with fail
  refine (implGet_q a n cap zs _ HH.out.1 HH.out.2.1 hr HH.out.2.2.2 hcap).mono ?_
  rintro e w1 h'
  obtain ⟨b1, b2, l1, l2, c1, c2, rfl, e1, e2, i', j', b'⟩ := hform _ _ _ h'
  obtain ⟨W2, hW2⟩ : ∃ u, u = w1.alloc (.cells #[.int .i64 kd, .int .i64 pl, .int .i64 nn, .slice b1 l1 c1, .slice b2 l2 c2, .int .i64 wa] 29) := ⟨_, rfl⟩
  have B2 : Below w1.heap.size w1 W2 := by rw [hW2]; exact bel_alloc _ _
  have HG : Hid (l1 = ws.length ∧ l2 = bs.length ∧ OwnI W2 W.heap.size (.slice b1 l1 c1) ws ∧ OwnB W2 W.heap.size (.slice b2 l2 c2) bs ∧ Below w.heap.size w W2 ∧ Blk W2 w.heap.size 29 zq ∧ EnB a0 a1 W2 ∧ Sl W2 a zs ∧ w.heap.size ≤ W.heap.size) := ⟨e1, e2, i'.below B2, j'.below B2, bel_next (bel_next HB.out.1 b') B2, (HB.out.2.below b').below B2, (HH.out.2.2.1.below b').below B2, (HH.out.2.1.below b').below B2, HB.out.1.size⟩
  have Y2 : Blk W2 w1.heap.size 29 #[.int .i64 kd, .int .i64 pl, .int .i64 nn, .slice b1 l1 c1, .slice b2 l2 c2, .int .i64 wa] := by rw [hW2]; exact Blk.new _ _ _
  clear h' e1 e2 i' j' b' B2
  obtain rfl | ⟨hc, rfl, rfl, rfl, rfl, rfl, rfl⟩ := hco
  · go_upto_region 7 with fail
    rw [← hW2]
    clear hW2
    obtain ⟨y0, y1, y2, y3, y4, y5⟩ := Y2.six
    obtain ⟨x0, x1, x2, x3, x4, x5⟩ := HG.out.2.2.2.2.2.1.six
    have fx := HG.out.2.2.2.2.2.1.fro
    go_wp2
    refine bodyPost_ret (v := .tuple #[rq kd pl nn wa b1 b2 l1 l2 c1 c2, erV (zs.getD 0 0) a0 a1 0]) (by simp [results, Tryd.results19, go_sem, x0, x1, x2, x3, x4, x5, erV]) rfl ?_
    obtain ⟨q1, q2, q3, q4, q5, q6, _, _, q9⟩ := HG.out
    exact ⟨b1, b2, l1, l2, c1, c2, rfl, q1, q2, OwnI.mono (show OwnI _ _ _ _ from row_set6 q3 ⟨_, q6⟩ (by decide)) q9, OwnB.mono (show OwnB _ _ _ _ from row_set6 q4 ⟨_, q6⟩ (by decide)) q9, bel_set6 q5 (Nat.le_refl _)⟩
  · have k0 := HG.out.2.2.2.2.2.2.1.1.1
    have k1 := HG.out.2.2.2.2.2.2.1.1.2
    obtain ⟨x0, x1, x2, x3, x4, x5⟩ := HG.out.2.2.2.2.2.1.six
    have fx := HG.out.2.2.2.2.2.1.fro
    obtain rfl | rfl := hc
    · go_upto_region 4 with fail
      rw [← hW2]
      clear hW2
      refine wp_region_any (by kernel_rfl) ?_
      refine wpAny_valg (fun _ u => Below w.heap.size w u ∧ Blk u w.heap.size 29 zq) (fun _ _ => True) (fun i v _ => match i with
        | 0 => v = .agg zq
        | 1 => v = .slice a n cap
        | 2 => v = .int .u8 (zs.getD 0 0)
        | 3 => v = .iface 121 (.pointer (some a0))
        | 4 => v = .agg #[.int .u8 (zs.getD 0 0), .iface 121 (.pointer (some a0))]
        | 5 => v = .iface 63 (.agg #[.int .u8 (zs.getD 0 0), .iface 121 (.pointer (some a0))])
        | 7 => v = .iface 63 (.agg #[.int .u8 (zs.getD 0 0), .iface 121 (.pointer (some a0))])
        | _ => True) (by kernel_rfl) (by kernel_rfl) (fun _ _ _ _ h _ => h) (fun _ => trivial) (by first | exact ⟨HG.out.2.2.2.2.1, HG.out.2.2.2.2.2.1⟩ | exact ⟨HG.out.2.2.2.2.1.drew, HG.out.2.2.2.2.2.1⟩) ?_ ?_ _ _ rfl (by decide) (fun i => by simp [Array.getD]; try (split <;> rfl))
      rotate_left
      · intro u i o ρ l hR ho hli hcl hρ hc hf hg hdep hv
        have hi : i < 8 := by
          have := (Array.getElem?_eq_some_iff.1 ho).1
          simpa using this
        obtain rfl | rfl | rfl | rfl | rfl | rfl | rfl | rfl : i = 0 ∨ i = 1 ∨ i = 2 ∨ i = 3 ∨ i = 4 ∨ i = 5 ∨ i = 6 ∨ i = 7 := by omega
        all_goals (simp only [List.getElem?_toArray, List.getElem?_cons_zero, List.getElem?_cons_succ, Option.some.injEq] at ho; subst ho)
        · exact .inl ⟨rfl, .inl ⟨.agg zq, u, run_bldz rfl (qs := #[]) (by simp) (by kernel_rfl), rfl, hR, trivial⟩⟩
        · have s0 : ρ (.tmp 0) = .slice a n cap := (hρ 0 (by kernel_rfl)).trans rfl
          exact .inl ⟨rfl, .inl ⟨_, u, rfl, s0, hR, trivial⟩⟩
        · have h1 : ρ (.tmp 15) = .slice a n cap := hv 1 15 rfl (hdep ⟨1, .data⟩ (by simp) rfl)
          refine .inl ⟨rfl, .inr (.inl ⟨_, _, run_call_op rfl (hf _) (args := #[.slice a n cap]) (by simp [h1]) (by kernel_rfl), ?_⟩)⟩
          refine (firstOf_any a n cap zs _ HZ.out.1 (HZ.out.2.2.1.below hR.1) HZ.out.2.2.2).mono ?_
          rintro e u' ⟨he, rfl⟩
          exact ⟨_, he, rfl, hR, trivial⟩
        · have k := (HZ.out.2.1.below hR.1).1.1
          exact .inl ⟨rfl, .inl ⟨_, u, run_load_op rfl (hg 0) (by go_simp), rfl, hR, trivial⟩⟩
        · have h2 : ρ (.tmp 16) = .int .u8 (zs.getD 0 0) := hv 2 16 rfl (hdep ⟨2, .data⟩ (by simp) rfl)
          have h3 : ρ (.tmp 17) = .iface 121 (.pointer (some a0)) := hv 3 17 rfl (hdep ⟨3, .data⟩ (by simp) rfl)
          exact .inl ⟨rfl, .inl ⟨.agg #[.int .u8 (zs.getD 0 0), .iface 121 (.pointer (some a0))], u, run_bldz rfl (qs := #[(0, .int .u8 (zs.getD 0 0)), (1, .iface 121 (.pointer (some a0)))]) (by simp [h2, h3]) (by kernel_rfl), rfl, hR, trivial⟩⟩
        · have h4 : ρ (.tmp 18) = .agg #[.int .u8 (zs.getD 0 0), .iface 121 (.pointer (some a0))] := hv 4 18 rfl (hdep ⟨4, .data⟩ (by simp) rfl)
          exact .inl ⟨rfl, .inl ⟨.iface 63 (.agg #[.int .u8 (zs.getD 0 0), .iface 121 (.pointer (some a0))]), u, run_mki_op rfl h4 (run_mkN _ _ u), rfl, hR, trivial⟩⟩
        · have h0 : ρ (.tmp 14) = .agg zq := hv 0 14 rfl (hdep ⟨0, .data⟩ (by simp) rfl)
          have s2 : ρ (.tmp 2) = .pointer (some ⟨w.heap.size, 0, none⟩) := (hρ 2 (by kernel_rfl)).trans rfl
          exact .inl ⟨rfl, .inr (.inr ⟨rfl, setL u w.heap.size 0 zq.toList, run_store_op rfl s2 h0 ((run_storeAt_mid u w.heap.size 0 29 zq (hR.2.there 0 6 (by simp)) (by kernel_rfl) (by simp [Value.oneCell'])).trans (by rw [setCells_L])), ⟨setL_below (Nat.le_refl _) _ _ _ hR.1, zq_st hR.2⟩, trivial⟩)⟩
        · have h5 : ρ (.tmp 19) = .iface 63 (.agg #[.int .u8 (zs.getD 0 0), .iface 121 (.pointer (some a0))]) := hv 5 19 rfl (hdep ⟨5, .data⟩ (by simp) rfl)
          exact .inl ⟨rfl, .inl ⟨_, u, rfl, h5, hR, trivial⟩⟩
      intro vs u hR hvs
      have f7 : vs 7 = .iface 63 (.agg #[.int .u8 (zs.getD 0 0), .iface 121 (.pointer (some a0))]) := hvs 7 3 rfl
      have HR : Hid (Below w.heap.size w u ∧ Blk u w.heap.size 29 zq) := hR
      clear hvs hR x0 x1 x2 x3 x4 x5 fx k0 k1
      simp only [putsL]
      rw [f7]
      clear f7
      obtain ⟨x0, x1, x2, x3, x4, x5⟩ := HR.out.2.six
      go_wp2
      refine bodyPost_ret (v := .tuple #[rq 0 0 0 0 none none 0 0 0 0, erV (zs.getD 0 0) a0 a1 1]) (by simp [results, Tryd.results19, go_sem, x0, x1, x2, x3, x4, x5, erV]) rfl ?_
      exact ⟨none, none, 0, 0, 0, 0, rfl, rfl, rfl, ownI_nil _ _, ownB_nil _ _, HR.out.1⟩
    · go_upto_region 6 with fail
      rw [← hW2]
      clear hW2
      refine wp_region_any (by kernel_rfl) ?_
      refine wpAny_valg (fun _ u => Below w.heap.size w u ∧ Blk u w.heap.size 29 zq) (fun _ _ => True) (fun i v _ => match i with
        | 0 => v = .agg zq
        | 1 => v = .slice a n cap
        | 2 => v = .int .u8 (zs.getD 0 0)
        | 3 => v = .iface 121 (.pointer (some a1))
        | 4 => v = .agg #[.int .u8 (zs.getD 0 0), .iface 121 (.pointer (some a1))]
        | 5 => v = .iface 63 (.agg #[.int .u8 (zs.getD 0 0), .iface 121 (.pointer (some a1))])
        | 7 => v = .iface 63 (.agg #[.int .u8 (zs.getD 0 0), .iface 121 (.pointer (some a1))])
        | _ => True) (by kernel_rfl) (by kernel_rfl) (fun _ _ _ _ h _ => h) (fun _ => trivial) (by first | exact ⟨HG.out.2.2.2.2.1, HG.out.2.2.2.2.2.1⟩ | exact ⟨HG.out.2.2.2.2.1.drew, HG.out.2.2.2.2.2.1⟩) ?_ ?_ _ _ rfl (by decide) (fun i => by simp [Array.getD]; try (split <;> rfl))
      rotate_left
      · intro u i o ρ l hR ho hli hcl hρ hc hf hg hdep hv
        have hi : i < 8 := by
          have := (Array.getElem?_eq_some_iff.1 ho).1
          simpa using this
        obtain rfl | rfl | rfl | rfl | rfl | rfl | rfl | rfl : i = 0 ∨ i = 1 ∨ i = 2 ∨ i = 3 ∨ i = 4 ∨ i = 5 ∨ i = 6 ∨ i = 7 := by omega
        all_goals (simp only [List.getElem?_toArray, List.getElem?_cons_zero, List.getElem?_cons_succ, Option.some.injEq] at ho; subst ho)
        · exact .inl ⟨rfl, .inl ⟨.agg zq, u, run_bldz rfl (qs := #[]) (by simp) (by kernel_rfl), rfl, hR, trivial⟩⟩
        · have s0 : ρ (.tmp 0) = .slice a n cap := (hρ 0 (by kernel_rfl)).trans rfl
          exact .inl ⟨rfl, .inl ⟨_, u, rfl, s0, hR, trivial⟩⟩
        · have h1 : ρ (.tmp 23) = .slice a n cap := hv 1 23 rfl (hdep ⟨1, .data⟩ (by simp) rfl)
          refine .inl ⟨rfl, .inr (.inl ⟨_, _, run_call_op rfl (hf _) (args := #[.slice a n cap]) (by simp [h1]) (by kernel_rfl), ?_⟩)⟩
          refine (firstOf_any a n cap zs _ HZ.out.1 (HZ.out.2.2.1.below hR.1) HZ.out.2.2.2).mono ?_
          rintro e u' ⟨he, rfl⟩
          exact ⟨_, he, rfl, hR, trivial⟩
        · have k := (HZ.out.2.1.below hR.1).1.2
          exact .inl ⟨rfl, .inl ⟨_, u, run_load_op rfl (hg 1) (by go_simp), rfl, hR, trivial⟩⟩
        · have h2 : ρ (.tmp 24) = .int .u8 (zs.getD 0 0) := hv 2 24 rfl (hdep ⟨2, .data⟩ (by simp) rfl)
          have h3 : ρ (.tmp 25) = .iface 121 (.pointer (some a1)) := hv 3 25 rfl (hdep ⟨3, .data⟩ (by simp) rfl)
          exact .inl ⟨rfl, .inl ⟨.agg #[.int .u8 (zs.getD 0 0), .iface 121 (.pointer (some a1))], u, run_bldz rfl (qs := #[(0, .int .u8 (zs.getD 0 0)), (1, .iface 121 (.pointer (some a1)))]) (by simp [h2, h3]) (by kernel_rfl), rfl, hR, trivial⟩⟩
        · have h4 : ρ (.tmp 26) = .agg #[.int .u8 (zs.getD 0 0), .iface 121 (.pointer (some a1))] := hv 4 26 rfl (hdep ⟨4, .data⟩ (by simp) rfl)
          exact .inl ⟨rfl, .inl ⟨.iface 63 (.agg #[.int .u8 (zs.getD 0 0), .iface 121 (.pointer (some a1))]), u, run_mki_op rfl h4 (run_mkN _ _ u), rfl, hR, trivial⟩⟩
        · have h0 : ρ (.tmp 22) = .agg zq := hv 0 22 rfl (hdep ⟨0, .data⟩ (by simp) rfl)
          have s2 : ρ (.tmp 2) = .pointer (some ⟨w.heap.size, 0, none⟩) := (hρ 2 (by kernel_rfl)).trans rfl
          exact .inl ⟨rfl, .inr (.inr ⟨rfl, setL u w.heap.size 0 zq.toList, run_store_op rfl s2 h0 ((run_storeAt_mid u w.heap.size 0 29 zq (hR.2.there 0 6 (by simp)) (by kernel_rfl) (by simp [Value.oneCell'])).trans (by rw [setCells_L])), ⟨setL_below (Nat.le_refl _) _ _ _ hR.1, zq_st hR.2⟩, trivial⟩)⟩
        · have h5 : ρ (.tmp 27) = .iface 63 (.agg #[.int .u8 (zs.getD 0 0), .iface 121 (.pointer (some a1))]) := hv 5 27 rfl (hdep ⟨5, .data⟩ (by simp) rfl)
          exact .inl ⟨rfl, .inl ⟨_, u, rfl, h5, hR, trivial⟩⟩
      intro vs u hR hvs
      have f7 : vs 7 = .iface 63 (.agg #[.int .u8 (zs.getD 0 0), .iface 121 (.pointer (some a1))]) := hvs 7 3 rfl
      have HR : Hid (Below w.heap.size w u ∧ Blk u w.heap.size 29 zq) := hR
      clear hvs hR x0 x1 x2 x3 x4 x5 fx k0 k1
      simp only [putsL]
      rw [f7]
      clear f7
      obtain ⟨x0, x1, x2, x3, x4, x5⟩ := HR.out.2.six
      go_wp2
      refine bodyPost_ret (v := .tuple #[rq 0 0 0 0 none none 0 0 0 0, erV (zs.getD 0 0) a0 a1 3]) (by simp [results, Tryd.results19, go_sem, x0, x1, x2, x3, x4, x5, erV]) rfl ?_
      exact ⟨none, none, 0, 0, 0, 0, rfl, rfl, rfl, ownI_nil _ _, ownB_nil _ _, HR.out.1⟩
end Go.Proofs.YtohikbpolofklaaDoor
namespace Go.Proofs.YtohikbpolofklaaDoor
open Go.RowKit
set_option linter.unusedVariables false
set_option linter.unusedSimpArgs false
theorem CoB.three {kd pl nn wa : Int} {ws : List Int} {bs : List Bool} {code : Int} (h : CoB kd pl nn wa ws bs code) : code = 0 ∨ code = 1 ∨ code = 3 := by
  rcases h with h | ⟨h, _⟩
  · exact .inl h
  · exact .inr h
set_option maxRecDepth 20000 in
set_option maxHeartbeats 1000000 in
theorem implBoxAsk_q (nm un : Int) (a : Option Addr) (n cap : Nat) (zs : List Int) (a0 a1 : Addr) (kd pl nn wa : Int) (ws : List Int) (bs : List Bool) (code : Int) (w : World) (hn : n = zs.length) (hs : Sl w a zs) (hr : ∀ z ∈ zs, 0 ≤ z ∧ z ≤ 255) (hl : n ≤ 1048576) (hcap : n ≤ cap) (hE : EnB a0 a1 w)
    (hform : ∀ w w' e, GPz zs w w' e → GP w w' e kd pl nn wa ws bs code) (hco : CoB kd pl nn wa ws bs code) :
    Calls Tryd.prog 7 #[.agg (bxc nm un a n cap)] w fun e w' => BaP (unB un code) kd pl nn wa ws bs (faL zs code) w w' e := by
  obtain ⟨W, hW⟩ : ∃ W, W = (w.alloc (.cells (bxc nm un a n cap) 32)).alloc (.cells zq 29) := ⟨_, rfl⟩
  have B0 : Below w.heap.size w W := by rw [hW]; exact bel_next (bel_alloc w _) (bel_alloc _ _)
  have X0 : Blk W w.heap.size 32 (bxc nm un a n cap) := by rw [hW]; exact (Blk.new w _ _).below (bel_alloc _ _)
  have Z0 : Blk W (w.heap.size + 1) 29 zq := by
    rw [hW]; have := Blk.new (w.alloc (.cells (bxc nm un a n cap) 32)) zq 29; simpa using this
  have HW : Hid (Below w.heap.size w W ∧ Blk W w.heap.size 32 (bxc nm un a n cap) ∧ Blk W (w.heap.size + 1) 29 zq ∧ W.heap.size = w.heap.size + 1 + 1) := ⟨B0, X0, Z0, by rw [hW]; simp⟩
  have HH : Hid (n = zs.length ∧ EnB a0 a1 w ∧ Sl w a zs ∧ n ≤ 1048576) := ⟨hn, hE, hs, hl⟩
  obtain ⟨x0, x1, x2⟩ := X0.tri
  clear hn hs hE B0 X0 Z0
  go_enter Tryd.func7, Tryd.ntmps7
  go_upto_region 1 with fail
  rw [← hW]
  clear hW
  go_wp2_with fail
  refine (askedBy_any a n cap zs a0 a1 kd pl nn wa ws bs code _ HH.out.1 (HH.out.2.2.1.below HW.out.1) hr hl hcap (HH.out.2.1.below HW.out.1) hform hco).mono ?_
  rintro e w1 ⟨b1, b2, l1, l2, c1, c2, rfl, e1, e2, i', j', b'⟩
  obtain ⟨f, hf⟩ : ∃ f, f = zs.getD 0 0 := ⟨_, rfl⟩
  rw [← hf]
  have HF : Hid (f = zs.getD 0 0) := hf
  clear hf
  obtain ⟨W2, hW2⟩ : ∃ u, u = w1.alloc (.cells #[.int .i64 kd, .int .i64 pl, .int .i64 nn, .slice b1 l1 c1, .slice b2 l2 c2, .int .i64 wa] 29) := ⟨_, rfl⟩
  have B2 : Below w1.heap.size w1 W2 := by rw [hW2]; exact bel_alloc _ _
  have HG : Hid (l1 = ws.length ∧ l2 = bs.length ∧ OwnI W2 W.heap.size (.slice b1 l1 c1) ws ∧ OwnB W2 W.heap.size (.slice b2 l2 c2) bs ∧ Below w.heap.size w W2 ∧ Blk W2 w.heap.size 32 (bxc nm un a n cap) ∧ Blk W2 (w.heap.size + 1) 29 zq ∧ Blk W2 w1.heap.size 29 #[.int .i64 kd, .int .i64 pl, .int .i64 nn, .slice b1 l1 c1, .slice b2 l2 c2, .int .i64 wa]) := ⟨e1, e2, i'.below B2, j'.below B2, bel_next (bel_next HW.out.1 b') B2, (HW.out.2.1.below b').below B2, (HW.out.2.2.1.below b').below B2, by rw [hW2]; exact Blk.new _ _ _⟩
  clear e1 e2 i' j' b' B2 x0 x1 x2
  obtain ⟨Y, hY⟩ : ∃ Y, Y = w1.heap.size := ⟨_, rfl⟩
  go_upto_region 2 with fail
  rw [← hW2, ← hY]
  rw [← hY] at HG
  clear hW2 hY
  go_wp2_with fail
  refine (faultFor_any f a0 a1 code _ (HH.out.2.1.below HG.out.2.2.2.2.1) hco.three).mono ?_
  rintro e w3 ⟨rfl, b'⟩
  have HK : Hid (OwnI w3 W.heap.size (.slice b1 l1 c1) ws ∧ OwnB w3 W.heap.size (.slice b2 l2 c2) bs ∧ Below w.heap.size w w3 ∧ Blk w3 w.heap.size 32 (bxc nm un a n cap) ∧ Blk w3 (w.heap.size + 1) 29 zq ∧ Blk w3 Y 29 #[.int .i64 kd, .int .i64 pl, .int .i64 nn, .slice b1 l1 c1, .slice b2 l2 c2, .int .i64 wa]) := ⟨HG.out.2.2.1.below b', HG.out.2.2.2.1.below b', bel_next HG.out.2.2.2.2.1 b', HG.out.2.2.2.2.2.1.below b', HG.out.2.2.2.2.2.2.1.below b', HG.out.2.2.2.2.2.2.2.below b'⟩
  clear b'
  obtain ⟨x0, x1, x2⟩ := HK.out.2.2.2.1.tri
  obtain ⟨z0, z1, z2, z3, z4, z5⟩ := HK.out.2.2.2.2.1.six
  have fz := HK.out.2.2.2.2.1.fro
  obtain rfl | ⟨hc, rfl, rfl, rfl, rfl, rfl, rfl⟩ := hco
  · obtain ⟨y0, y1, y2, y3, y4, y5⟩ := HK.out.2.2.2.2.2.six
    go_upto_region 5 with fail
    go_region
    all_goals (try go_wp2)
    all_goals (
      refine bodyPost_ret (v := .tuple #[.int .i64 un, rq kd pl nn wa b1 b2 l1 l2 c1 c2, .slice none 0 0]) (by simp [results, Tryd.results7, go_sem, z0, z1, z2, z3, z4, z5]) rfl ?_
      have hs9 := HW.out.1.size
      have d9 : ∀ X : World, Below X.heap.size X X.drew := fun X => (Below.refl _ X).drew
      have q1 : OwnI _ _ _ _ := row_set6 (v0 := .int .i64 kd) (v1 := .int .i64 pl) (v2 := .int .i64 nn) (v3 := .slice b1 l1 c1) (v4 := .slice b2 l2 c2) (v5 := .int .i64 wa) HK.out.1 ⟨_, HK.out.2.2.2.2.1⟩ (by decide)
      have q2 : OwnB _ _ _ _ := row_set6 (v0 := .int .i64 kd) (v1 := .int .i64 pl) (v2 := .int .i64 nn) (v3 := .slice b1 l1 c1) (v4 := .slice b2 l2 c2) (v5 := .int .i64 wa) HK.out.2.1 ⟨_, HK.out.2.2.2.2.1⟩ (by decide)
      exact ⟨b1, b2, l1, l2, c1, c2, none, 0, 0, rfl, HG.out.1, HG.out.2.1, rfl, (q1.mono hs9).below (d9 _), (q2.mono hs9).below (d9 _), own_bn _ _, (bel_set6 HK.out.2.2.1 (Nat.le_succ _)).drew⟩)
  · have HZ := HK.out.2.2.2.2.1
    have u0 : ∀ o, (w3.alloc o).cell? ⟨w.heap.size + 1, 0, none⟩ = some (.int .i64 0) := fun o => (HZ.below (bel_alloc _ o)).cell 0 rfl
    have u1 : ∀ o, (w3.alloc o).cell? ⟨w.heap.size + 1, 1, none⟩ = some (.int .i64 0) := fun o => (HZ.below (bel_alloc _ o)).cell 1 rfl
    have u2 : ∀ o, (w3.alloc o).cell? ⟨w.heap.size + 1, 2, none⟩ = some (.int .i64 0) := fun o => (HZ.below (bel_alloc _ o)).cell 2 rfl
    have u3 : ∀ o, (w3.alloc o).cell? ⟨w.heap.size + 1, 3, none⟩ = some (.slice none 0 0) := fun o => (HZ.below (bel_alloc _ o)).cell 3 rfl
    have u4 : ∀ o, (w3.alloc o).cell? ⟨w.heap.size + 1, 4, none⟩ = some (.slice none 0 0) := fun o => (HZ.below (bel_alloc _ o)).cell 4 rfl
    have u5 : ∀ o, (w3.alloc o).cell? ⟨w.heap.size + 1, 5, none⟩ = some (.int .i64 0) := fun o => (HZ.below (bel_alloc _ o)).cell 5 rfl
    have fu : ∀ o j, (w3.alloc o).frozen? ⟨w.heap.size + 1, j, none⟩ = false := fun o j => (HZ.below (bel_alloc _ o)).fro j
    clear HZ z0 z1 z2 z3 z4 z5 fz
    obtain rfl | rfl := hc
    · go_wp2_with (go_at_call 21; refine (firstOf_any a n cap zs _ HH.out.1 (HH.out.2.2.1.below HK.out.2.2.1) hl).mono ?_; rintro e wf ⟨he, hw⟩; have hw := hw.symm; subst hw; rw [← HF.out] at he; subst he)
      have hh := HK.out.2.2.1.size
      refine bodyPost_ret (v := .tuple #[.int .i64 0, rq 0 0 0 0 none none 0 0 0 0, .slice (some ⟨w3.heap.size, 0, none⟩) 2 2]) (by simp [results, Tryd.results7, go_sem, u0, u1, u2, u3, u4, u5, fu]) rfl ?_
      have o2 : Own (w3.alloc (.cells #[.int .u8 (bits .or .u8 f 128), .int .u8 1] 5)) w.heap.size (.slice (some ⟨w3.heap.size, 0, none⟩) 2 2) [bits .or .u8 f 128, 1] := own_b2 w3 _ _ _ hh
      have k2 := HK.out.2.2.2.2.1.below (bel_alloc w3 (.cells #[.int .u8 (bits .or .u8 f 128), .int .u8 1] 5))
      rw [HF.out] at o2 k2 ⊢
      exact ⟨none, none, 0, 0, 0, 0, _, 2, 2, rfl, rfl, rfl, rfl, ownI_nil _ _, ownB_nil _ _, (show Own _ _ _ _ from row_set6 o2 ⟨_, k2⟩ (by decide)), bel_set6 (bel_next HK.out.2.2.1 (bel_alloc _ _)) (Nat.le_succ _)⟩
    · go_wp2_with (go_at_call 21; refine (firstOf_any a n cap zs _ HH.out.1 (HH.out.2.2.1.below HK.out.2.2.1) hl).mono ?_; rintro e wf ⟨he, hw⟩; have hw := hw.symm; subst hw; rw [← HF.out] at he; subst he)
      have hh := HK.out.2.2.1.size
      refine bodyPost_ret (v := .tuple #[.int .i64 0, rq 0 0 0 0 none none 0 0 0 0, .slice (some ⟨w3.heap.size, 0, none⟩) 2 2]) (by simp [results, Tryd.results7, go_sem, u0, u1, u2, u3, u4, u5, fu]) rfl ?_
      have o2 : Own (w3.alloc (.cells #[.int .u8 (bits .or .u8 f 128), .int .u8 3] 5)) w.heap.size (.slice (some ⟨w3.heap.size, 0, none⟩) 2 2) [bits .or .u8 f 128, 3] := own_b2 w3 _ _ _ hh
      have k2 := HK.out.2.2.2.2.1.below (bel_alloc w3 (.cells #[.int .u8 (bits .or .u8 f 128), .int .u8 3] 5))
      rw [HF.out] at o2 k2 ⊢
      exact ⟨none, none, 0, 0, 0, 0, _, 2, 2, rfl, rfl, rfl, rfl, ownI_nil _ _, ownB_nil _ _, (show Own _ _ _ _ from row_set6 o2 ⟨_, k2⟩ (by decide)), bel_set6 (bel_next HK.out.2.2.1 (bel_alloc _ _)) (Nat.le_succ _)⟩
end Go.Proofs.YtohikbpolofklaaDoor
namespace Go.Proofs.YtohikbpolofklaaDoor
open Go.RowKit
set_option linter.unusedVariables false
set_option linter.unusedSimpArgs false
theorem sz6b {w : World} {g : Nat} {v0 v1 v2 v3 v4 v5 : Value} : ((((((w.setCell ⟨g, 0, none⟩ v0).setCell ⟨g, 1, none⟩ v1).setCell ⟨g, 2, none⟩ v2).setCell ⟨g, 3, none⟩ v3).setCell ⟨g, 4, none⟩ v4).setCell ⟨g, 5, none⟩ v5).heap.size = w.heap.size := by simp
set_option maxRecDepth 20000 in
set_option maxHeartbeats 1000000 in
theorem specBoxAsk_q (nm un : Int) (a : Option Addr) (n cap : Nat) (zs : List Int) (kd pl nn wa : Int) (ws : List Int) (bs : List Bool) (code : Int) (w : World) (hn : n = zs.length) (hs : Sl w a zs) (hr : ∀ z ∈ zs, 0 ≤ z ∧ z ≤ 255) (hl : n ≤ 1048576) (hcap : n ≤ cap)
    (hform : ∀ w w' e, GPz zs w w' e → GP w w' e kd pl nn wa ws bs code) (hco : CoB kd pl nn wa ws bs code) :
    Calls Tryd.prog 5 #[.agg (bxc nm un a n cap)] w fun e w' => BaP (unB un code) kd pl nn wa ws bs (faL zs code) w w' e := by
  obtain ⟨W, hW⟩ : ∃ W, W = (w.alloc (.cells (bxc nm un a n cap) 32)).alloc (.cells zq 29) := ⟨_, rfl⟩
  have B0 : Below w.heap.size w W := by rw [hW]; exact bel_next (bel_alloc w _) (bel_alloc _ _)
  have X0 : Blk W w.heap.size 32 (bxc nm un a n cap) := by rw [hW]; exact (Blk.new w _ _).below (bel_alloc _ _)
  have Z0 : Blk W (w.heap.size + 1) 29 zq := by
    rw [hW]; have := Blk.new (w.alloc (.cells (bxc nm un a n cap) 32)) zq 29; simpa using this
  have HW : Hid (Below w.heap.size w W ∧ Blk W w.heap.size 32 (bxc nm un a n cap) ∧ Blk W (w.heap.size + 1) 29 zq ∧ W.heap.size = w.heap.size + 1 + 1) := ⟨B0, X0, Z0, by rw [hW]; simp⟩
  have HH : Hid (n = zs.length ∧ n ≤ 2000000 ∧ Sl w a zs ∧ n ≤ 1048576) := ⟨hn, by omega, hs, hl⟩
  obtain ⟨x0, x1, x2⟩ := X0.tri
  clear hn hs B0 X0 Z0
  go_enter Tryd.func5, Tryd.ntmps5
  go_upto_region 1 with fail
  rw [← hW]
  clear hW
  go_wp2_with fail
  refine (specGet_q a n cap zs _ HH.out.1 (HH.out.2.2.1.below HW.out.1) hr HH.out.2.1 hcap).mono ?_
  rintro e w1 h'
  obtain ⟨b1, b2, l1, l2, c1, c2, rfl, e1, e2, i', j', b'⟩ := hform _ _ _ h'
  clear h'
  obtain ⟨f, hf⟩ : ∃ f, f = zs.getD 0 0 := ⟨_, rfl⟩
  have HF : Hid (f = zs.getD 0 0) := hf
  clear hf
  obtain ⟨W2, hW2⟩ : ∃ u, u = w1.alloc (.cells #[.int .i64 kd, .int .i64 pl, .int .i64 nn, .slice b1 l1 c1, .slice b2 l2 c2, .int .i64 wa] 29) := ⟨_, rfl⟩
  have B2 : Below w1.heap.size w1 W2 := by rw [hW2]; exact bel_alloc _ _
  have HG : Hid (l1 = ws.length ∧ l2 = bs.length ∧ OwnI W2 W.heap.size (.slice b1 l1 c1) ws ∧ OwnB W2 W.heap.size (.slice b2 l2 c2) bs ∧ Below w.heap.size w W2 ∧ Blk W2 w.heap.size 32 (bxc nm un a n cap) ∧ Blk W2 (w.heap.size + 1) 29 zq ∧ Blk W2 w1.heap.size 29 #[.int .i64 kd, .int .i64 pl, .int .i64 nn, .slice b1 l1 c1, .slice b2 l2 c2, .int .i64 wa]) := ⟨e1, e2, i'.below B2, j'.below B2, bel_next (bel_next HW.out.1 b') B2, (HW.out.2.1.below b').below B2, (HW.out.2.2.1.below b').below B2, by rw [hW2]; exact Blk.new _ _ _⟩
  clear e1 e2 i' j' b' B2 x0 x1 x2
  obtain ⟨Y, hY⟩ : ∃ Y, Y = w1.heap.size := ⟨_, rfl⟩
  go_upto_region 2 with fail
  rw [← hW2, ← hY]
  rw [← hY] at HG
  clear hW2 hY
  have HK : Hid (OwnI W2 W.heap.size (.slice b1 l1 c1) ws ∧ OwnB W2 W.heap.size (.slice b2 l2 c2) bs ∧ Below w.heap.size w W2 ∧ Blk W2 w.heap.size 32 (bxc nm un a n cap) ∧ Blk W2 (w.heap.size + 1) 29 zq ∧ Blk W2 Y 29 #[.int .i64 kd, .int .i64 pl, .int .i64 nn, .slice b1 l1 c1, .slice b2 l2 c2, .int .i64 wa]) := ⟨HG.out.2.2.1, HG.out.2.2.2.1, HG.out.2.2.2.2.1, HG.out.2.2.2.2.2.1, HG.out.2.2.2.2.2.2.1, HG.out.2.2.2.2.2.2.2⟩
  obtain ⟨x0, x1, x2⟩ := HK.out.2.2.2.1.tri
  obtain ⟨z0, z1, z2, z3, z4, z5⟩ := HK.out.2.2.2.2.1.six
  have fz := HK.out.2.2.2.2.1.fro
  obtain rfl | ⟨hc, rfl, rfl, rfl, rfl, rfl, rfl⟩ := hco
  · obtain ⟨y0, y1, y2, y3, y4, y5⟩ := HK.out.2.2.2.2.2.six
    have HZ := HK.out.2.2.2.2.1
    have HY := HK.out.2.2.2.2.2
    have HX := HK.out.2.2.2.1
    have u0 : ∀ o, (W2.alloc o).cell? ⟨w.heap.size + 1, 0, none⟩ = some (.int .i64 0) := fun o => (HZ.below (bel_alloc _ o)).cell 0 rfl
    have u1 : ∀ o, (W2.alloc o).cell? ⟨w.heap.size + 1, 1, none⟩ = some (.int .i64 0) := fun o => (HZ.below (bel_alloc _ o)).cell 1 rfl
    have u2 : ∀ o, (W2.alloc o).cell? ⟨w.heap.size + 1, 2, none⟩ = some (.int .i64 0) := fun o => (HZ.below (bel_alloc _ o)).cell 2 rfl
    have u3 : ∀ o, (W2.alloc o).cell? ⟨w.heap.size + 1, 3, none⟩ = some (.slice none 0 0) := fun o => (HZ.below (bel_alloc _ o)).cell 3 rfl
    have u4 : ∀ o, (W2.alloc o).cell? ⟨w.heap.size + 1, 4, none⟩ = some (.slice none 0 0) := fun o => (HZ.below (bel_alloc _ o)).cell 4 rfl
    have u5 : ∀ o, (W2.alloc o).cell? ⟨w.heap.size + 1, 5, none⟩ = some (.int .i64 0) := fun o => (HZ.below (bel_alloc _ o)).cell 5 rfl
    have v0 : ∀ o, (W2.alloc o).cell? ⟨Y, 0, none⟩ = some (.int .i64 kd) := fun o => (HY.below (bel_alloc _ o)).cell 0 rfl
    have v1 : ∀ o, (W2.alloc o).cell? ⟨Y, 1, none⟩ = some (.int .i64 pl) := fun o => (HY.below (bel_alloc _ o)).cell 1 rfl
    have v2 : ∀ o, (W2.alloc o).cell? ⟨Y, 2, none⟩ = some (.int .i64 nn) := fun o => (HY.below (bel_alloc _ o)).cell 2 rfl
    have v3 : ∀ o, (W2.alloc o).cell? ⟨Y, 3, none⟩ = some (.slice b1 l1 c1) := fun o => (HY.below (bel_alloc _ o)).cell 3 rfl
    have v4 : ∀ o, (W2.alloc o).cell? ⟨Y, 4, none⟩ = some (.slice b2 l2 c2) := fun o => (HY.below (bel_alloc _ o)).cell 4 rfl
    have v5 : ∀ o, (W2.alloc o).cell? ⟨Y, 5, none⟩ = some (.int .i64 wa) := fun o => (HY.below (bel_alloc _ o)).cell 5 rfl
    have p1 : ∀ o, (W2.alloc o).cell? ⟨w.heap.size, 1, none⟩ = some (.int .i64 un) := fun o => (HX.below (bel_alloc _ o)).cell 1 rfl
    have fu : ∀ o j, (W2.alloc o).frozen? ⟨w.heap.size + 1, j, none⟩ = false := fun o j => (HZ.below (bel_alloc _ o)).fro j
    clear HZ HY HX
    go_upto_region 3 with fail
    go_region
    all_goals (try go_wp2)
    · have hs9 := HW.out.1.size
      have d9 : ∀ X : World, Below X.heap.size X X.drew := fun X => (Below.refl _ X).drew
      have kA := (Blk.s6b (v0 := .int .i64 kd) (v1 := .int .i64 pl) (v2 := .int .i64 nn) (v3 := .slice b1 l1 c1) (v4 := .slice b2 l2 c2) (v5 := .int .i64 wa) HK.out.2.2.2.2.1).below (bel_alloc _ (.cells #[] 5))
      obtain ⟨t0, t1, t2, t3, t4, t5⟩ := kA.six
      have q1 : OwnI _ _ _ _ := row_set6 (v0 := .int .i64 kd) (v1 := .int .i64 pl) (v2 := .int .i64 nn) (v3 := .slice b1 l1 c1) (v4 := .slice b2 l2 c2) (v5 := .int .i64 wa) HK.out.1 ⟨_, HK.out.2.2.2.2.1⟩ (by decide)
      have q2 : OwnB _ _ _ _ := row_set6 (v0 := .int .i64 kd) (v1 := .int .i64 pl) (v2 := .int .i64 nn) (v3 := .slice b1 l1 c1) (v4 := .slice b2 l2 c2) (v5 := .int .i64 wa) HK.out.2.1 ⟨_, HK.out.2.2.2.2.1⟩ (by decide)
      have q3 := bel_set6 (v0 := .int .i64 kd) (v1 := .int .i64 pl) (v2 := .int .i64 nn) (v3 := .slice b1 l1 c1) (v4 := .slice b2 l2 c2) (v5 := .int .i64 wa) HK.out.2.2.1 (Nat.le_succ w.heap.size)
      have q4 := own_b0 _ _ q3.size
      rw [sz6b] at q4
      refine bodyPost_ret (v := .tuple #[.int .i64 un, rq kd pl nn wa b1 b2 l1 l2 c1 c2, .slice (some ⟨W2.heap.size, 0, none⟩) 0 0]) (by simp [results, Tryd.results5, go_sem, t0, t1, t2, t3, t4, t5]) rfl ?_
      exact ⟨b1, b2, l1, l2, c1, c2, some ⟨W2.heap.size, 0, none⟩, 0, 0, rfl, HG.out.1, HG.out.2.1, rfl, ((q1.mono hs9).below (bel_alloc _ _)).below (d9 _), ((q2.mono hs9).below (bel_alloc _ _)).below (d9 _), q4.below (d9 _), (bel_next q3 (bel_alloc _ _)).drew⟩
    · have hs9 := HW.out.1.size
      have d9 : ∀ X : World, Below X.heap.size X X.drew := fun X => (Below.refl _ X).drew
      have kA := HK.out.2.2.2.2.1.below (bel_alloc W2 (.cells #[] 5))
      have q1 : OwnI _ _ _ _ := row_set6 (v0 := .int .i64 kd) (v1 := .int .i64 pl) (v2 := .int .i64 nn) (v3 := .slice b1 l1 c1) (v4 := .slice b2 l2 c2) (v5 := .int .i64 wa) (HK.out.1.below (bel_alloc W2 (.cells #[] 5))) ⟨_, kA⟩ (by decide)
      have q2 : OwnB _ _ _ _ := row_set6 (v0 := .int .i64 kd) (v1 := .int .i64 pl) (v2 := .int .i64 nn) (v3 := .slice b1 l1 c1) (v4 := .slice b2 l2 c2) (v5 := .int .i64 wa) (HK.out.2.1.below (bel_alloc W2 (.cells #[] 5))) ⟨_, kA⟩ (by decide)
      have q3 := bel_set6 (v0 := .int .i64 kd) (v1 := .int .i64 pl) (v2 := .int .i64 nn) (v3 := .slice b1 l1 c1) (v4 := .slice b2 l2 c2) (v5 := .int .i64 wa) (bel_next HK.out.2.2.1 (bel_alloc W2 (.cells #[] 5))) (Nat.le_succ w.heap.size)
      have q4 : Own _ _ _ _ := row_set6 (v0 := .int .i64 kd) (v1 := .int .i64 pl) (v2 := .int .i64 nn) (v3 := .slice b1 l1 c1) (v4 := .slice b2 l2 c2) (v5 := .int .i64 wa) (own_b0 W2 w.heap.size HK.out.2.2.1.size) ⟨_, kA⟩ (by decide)
      refine bodyPost_ret (v := .tuple #[.int .i64 un, rq kd pl nn wa b1 b2 l1 l2 c1 c2, .slice (some ⟨W2.heap.size, 0, none⟩) 0 0]) (by simp [results, Tryd.results5, go_sem, u0, u1, u2, u3, u4, u5, fu]) rfl ?_
      exact ⟨b1, b2, l1, l2, c1, c2, some ⟨W2.heap.size, 0, none⟩, 0, 0, rfl, HG.out.1, HG.out.2.1, rfl, (q1.mono hs9).below (d9 _), (q2.mono hs9).below (d9 _), q4.below (d9 _), q3.drew⟩
  · have HZ := HK.out.2.2.2.2.1
    have u0 : ∀ o, (W2.alloc o).cell? ⟨w.heap.size + 1, 0, none⟩ = some (.int .i64 0) := fun o => (HZ.below (bel_alloc _ o)).cell 0 rfl
    have u1 : ∀ o, (W2.alloc o).cell? ⟨w.heap.size + 1, 1, none⟩ = some (.int .i64 0) := fun o => (HZ.below (bel_alloc _ o)).cell 1 rfl
    have u2 : ∀ o, (W2.alloc o).cell? ⟨w.heap.size + 1, 2, none⟩ = some (.int .i64 0) := fun o => (HZ.below (bel_alloc _ o)).cell 2 rfl
    have u3 : ∀ o, (W2.alloc o).cell? ⟨w.heap.size + 1, 3, none⟩ = some (.slice none 0 0) := fun o => (HZ.below (bel_alloc _ o)).cell 3 rfl
    have u4 : ∀ o, (W2.alloc o).cell? ⟨w.heap.size + 1, 4, none⟩ = some (.slice none 0 0) := fun o => (HZ.below (bel_alloc _ o)).cell 4 rfl
    have u5 : ∀ o, (W2.alloc o).cell? ⟨w.heap.size + 1, 5, none⟩ = some (.int .i64 0) := fun o => (HZ.below (bel_alloc _ o)).cell 5 rfl
    have fu : ∀ o j, (W2.alloc o).frozen? ⟨w.heap.size + 1, j, none⟩ = false := fun o j => (HZ.below (bel_alloc _ o)).fro j
    clear HZ z0 z1 z2 z3 z4 z5 fz
    have hh := HK.out.2.2.1.size
    obtain rfl | rfl := hc
    · by_cases h0 : zs.length = 0
      · have e : zs = [] := List.eq_nil_of_length_eq_zero h0
        have f0 : f = 0 := by rw [HF.out, e]; rfl
        have n0 : ¬ (0 : Int) < (n : Int) := by have := HH.out.1; omega
        clear e h0
        go_wp2
        have hF : bits .or .u8 0 128 = bits .or .u8 (zs.getD 0 0) 128 := by rw [← HF.out, f0]
        refine bodyPost_ret (v := .tuple #[.int .i64 0, rq 0 0 0 0 none none 0 0 0 0, .slice (some ⟨W2.heap.size, 0, none⟩) 2 2]) (by simp [results, Tryd.results5, go_sem, u0, u1, u2, u3, u4, u5, fu]) rfl ?_
        have o2 : Own (W2.alloc (.cells #[.int .u8 (bits .or .u8 0 128), .int .u8 1] 5)) w.heap.size (.slice (some ⟨W2.heap.size, 0, none⟩) 2 2) [bits .or .u8 0 128, 1] := own_b2 W2 _ _ _ hh
        have k2 := HK.out.2.2.2.2.1.below (bel_alloc W2 (.cells #[.int .u8 (bits .or .u8 0 128), .int .u8 1] 5))
        rw [hF] at o2 k2 ⊢
        exact ⟨none, none, 0, 0, 0, 0, _, 2, 2, rfl, rfl, rfl, rfl, ownI_nil _ _, ownB_nil _ _, (show Own _ _ _ _ from row_set6 o2 ⟨_, k2⟩ (by decide)), bel_set6 (bel_next HK.out.2.2.1 (bel_alloc _ _)) (Nat.le_succ _)⟩
      · obtain ⟨b, off, ha, _, hc⟩ := cell_at (HH.out.2.2.1.below HK.out.2.2.1) (show 0 < zs.length by omega)
        subst ha
        have hc' : W2.cell? ⟨b, off, none⟩ = some (.int .u8 f) := by rw [HF.out]; exact hc
        have n0 : (0 : Int) < (n : Int) := by have := HH.out.1; omega
        clear hc h0
        go_wp2
        refine bodyPost_ret (v := .tuple #[.int .i64 0, rq 0 0 0 0 none none 0 0 0 0, .slice (some ⟨W2.heap.size, 0, none⟩) 2 2]) (by simp [results, Tryd.results5, go_sem, u0, u1, u2, u3, u4, u5, fu]) rfl ?_
        have o2 : Own (W2.alloc (.cells #[.int .u8 (bits .or .u8 f 128), .int .u8 1] 5)) w.heap.size (.slice (some ⟨W2.heap.size, 0, none⟩) 2 2) [bits .or .u8 f 128, 1] := own_b2 W2 _ _ _ hh
        have k2 := HK.out.2.2.2.2.1.below (bel_alloc W2 (.cells #[.int .u8 (bits .or .u8 f 128), .int .u8 1] 5))
        rw [HF.out] at o2 k2 ⊢
        exact ⟨none, none, 0, 0, 0, 0, _, 2, 2, rfl, rfl, rfl, rfl, ownI_nil _ _, ownB_nil _ _, (show Own _ _ _ _ from row_set6 o2 ⟨_, k2⟩ (by decide)), bel_set6 (bel_next HK.out.2.2.1 (bel_alloc _ _)) (Nat.le_succ _)⟩
    · by_cases h0 : zs.length = 0
      · have e : zs = [] := List.eq_nil_of_length_eq_zero h0
        have f0 : f = 0 := by rw [HF.out, e]; rfl
        have n0 : ¬ (0 : Int) < (n : Int) := by have := HH.out.1; omega
        clear e h0
        go_wp2
        have hF : bits .or .u8 0 128 = bits .or .u8 (zs.getD 0 0) 128 := by rw [← HF.out, f0]
        refine bodyPost_ret (v := .tuple #[.int .i64 0, rq 0 0 0 0 none none 0 0 0 0, .slice (some ⟨W2.heap.size, 0, none⟩) 2 2]) (by simp [results, Tryd.results5, go_sem, u0, u1, u2, u3, u4, u5, fu]) rfl ?_
        have o2 : Own (W2.alloc (.cells #[.int .u8 (bits .or .u8 0 128), .int .u8 3] 5)) w.heap.size (.slice (some ⟨W2.heap.size, 0, none⟩) 2 2) [bits .or .u8 0 128, 3] := own_b2 W2 _ _ _ hh
        have k2 := HK.out.2.2.2.2.1.below (bel_alloc W2 (.cells #[.int .u8 (bits .or .u8 0 128), .int .u8 3] 5))
        rw [hF] at o2 k2 ⊢
        exact ⟨none, none, 0, 0, 0, 0, _, 2, 2, rfl, rfl, rfl, rfl, ownI_nil _ _, ownB_nil _ _, (show Own _ _ _ _ from row_set6 o2 ⟨_, k2⟩ (by decide)), bel_set6 (bel_next HK.out.2.2.1 (bel_alloc _ _)) (Nat.le_succ _)⟩
      · obtain ⟨b, off, ha, _, hc⟩ := cell_at (HH.out.2.2.1.below HK.out.2.2.1) (show 0 < zs.length by omega)
        subst ha
        have hc' : W2.cell? ⟨b, off, none⟩ = some (.int .u8 f) := by rw [HF.out]; exact hc
        have n0 : (0 : Int) < (n : Int) := by have := HH.out.1; omega
        clear hc h0
        go_wp2
        refine bodyPost_ret (v := .tuple #[.int .i64 0, rq 0 0 0 0 none none 0 0 0 0, .slice (some ⟨W2.heap.size, 0, none⟩) 2 2]) (by simp [results, Tryd.results5, go_sem, u0, u1, u2, u3, u4, u5, fu]) rfl ?_
        have o2 : Own (W2.alloc (.cells #[.int .u8 (bits .or .u8 f 128), .int .u8 3] 5)) w.heap.size (.slice (some ⟨W2.heap.size, 0, none⟩) 2 2) [bits .or .u8 f 128, 3] := own_b2 W2 _ _ _ hh
        have k2 := HK.out.2.2.2.2.1.below (bel_alloc W2 (.cells #[.int .u8 (bits .or .u8 f 128), .int .u8 3] 5))
        rw [HF.out] at o2 k2 ⊢
        exact ⟨none, none, 0, 0, 0, 0, _, 2, 2, rfl, rfl, rfl, rfl, ownI_nil _ _, ownB_nil _ _, (show Own _ _ _ _ from row_set6 o2 ⟨_, k2⟩ (by decide)), bel_set6 (bel_next HK.out.2.2.1 (bel_alloc _ _)) (Nat.le_succ _)⟩
end Go.Proofs.YtohikbpolofklaaDoor
namespace Go.Proofs.YtohikbpolofklaaDoor
open Go.RowKit
set_option linter.unusedVariables false
set_option linter.unusedSimpArgs false
theorem markByteS_x (a : Option Addr) (n cap base s : Nat) (x : Int) (zs : List Int) (w : World) (hx : x = ((s : Nat) : Int)) (h : Own w base (.slice a n cap) zs) (hl : n ≤ 3000000) (hs' : s ≤ 9000000) :
    Calls Tryd.prog 13 #[.slice a n cap, .int .i64 x] w fun e w' => e = .returned (.int .i64 (x + (n : Int))) ∧ Own w' base (.slice a n cap) (marksF s n) ∧ w.grownBy w' (Value.slice a n cap).ownBlock := by
  subst hx
  exact markByteS_from a n cap base s zs w h hl hs'
theorem heldByteS_x (a : Option Addr) (n cap s : Nat) (x : Int) (w : World) (hx : x = ((s : Nat) : Int)) (hs : Sl w a (marksF s n)) (hl : n ≤ 3000000) (hs' : s ≤ 9000000) :
    Calls Tryd.prog 15 #[.slice a n cap, .int .i64 x] w fun e w' => e = .returned (.int .i64 (x + (n : Int))) ∧ w' = w := by
  subst hx
  exact heldByteS_from a n cap s w hs hl hs'
theorem faL_len (zs : List Int) (code : Int) : (faL zs code).length ≤ 2 := by
  unfold faL
  split <;> simp
set_option maxRecDepth 20000 in
set_option maxHeartbeats 8000000 in
theorem boxAsk_law (nm un : Int) (a : Option Addr) (l c : Nat) (zs : List Int) (a0 a1 : Addr) (w : World) (hE : EnB a0 a1 w) (hx : InBox w nm un a l zs) (hl : l ≤ 1048576) :
    Calls Tryd.prog 3 #[.agg (bxc nm un a l c)] w fun e w' => e = .returned (.bool true) ∧ Below w.heap.size w w' := by
  obtain ⟨⟨h0, _, s0, hr⟩, _, _⟩ := hx
  obtain ⟨kd, pl, nn, wa, ws, bs, code, hform, hco, hlw, hlb⟩ := gpz_code zs (by omega) hr
  have HF : Hid ((∀ w w' e, GPz zs w w' e → GP w w' e kd pl nn wa ws bs code) ∧ CoB kd pl nn wa ws bs code) := ⟨hform, hco⟩
  obtain ⟨F, hF⟩ : ∃ F, F = faL zs code := ⟨_, rfl⟩
  obtain ⟨U, hU⟩ : ∃ U, U = unB un code := ⟨_, rfl⟩
  have HV : Hid (faL zs code = F ∧ unB un code = U ∧ F.length ≤ 2) := ⟨hF.symm, hU.symm, by rw [hF]; exact faL_len _ _⟩
  have HN : Hid (l = zs.length ∧ zs.length ≤ 2000000 ∧ l ≤ 3000000 ∧ l ≤ 1048576 ∧ ws.length ≤ 2000000 ∧ bs.length ≤ 2000000) := ⟨h0.symm, by omega, by omega, hl, hlw, hlb⟩
  have HR : Hid (∀ z ∈ zs, 0 ≤ z ∧ z ≤ 255) := hr
  have HS : Hid (Sl w a zs ∧ EnB a0 a1 w) := ⟨s0, hE⟩
  have f0 : ¬ (1048576 - (l : Int) < 0) := by omega
  clear h0 s0 hr hl hform hco hlw hlb hF hU hE
  obtain ⟨BX, hBX⟩ : ∃ B, B = w.heap.size := ⟨_, rfl⟩
  obtain ⟨W, hW⟩ : ∃ W, W = w.alloc (.cells (bxc nm un a l c) 24) := ⟨_, rfl⟩
  have b0 : Below w.heap.size w W := by rw [hW]; exact bel_alloc w _
  have X0 : Blk W BX 24 (bxc nm un a l c) := by rw [hW, hBX]; exact Blk.new w _ _
  go_enter Tryd.func3, Tryd.ntmps3
  go_upto_region 1 with fail
  rw [← hW, ← hBX]
  clear hW hBX
  obtain ⟨x0, x1, x2⟩ := X0.tri
  go_wp2_with fail
  refine (szBox_fits nm un a l c _ HN.out.2.2.2.1).mono ?_
  rintro e w1 ⟨rfl, b'⟩
  have b1 := bel_next b0 b'
  have X1 := X0.below b'
  clear b0 X0 x0 x1 x2 b'
  obtain ⟨x0, x1, x2⟩ := X1.tri
  go_wp2_with fail
  refine (toBox_any nm un a l c zs _ HN.out.1 (HS.out.1.below b1) HN.out.2.1).mono ?_
  rintro e w2 ⟨g0, rfl, oT, b'⟩
  have b2 := bel_next b1 b'
  have X2 := X1.below b'
  clear b1 X1 x0 x1 x2 b'
  obtain ⟨x0, x1, x2⟩ := X2.tri
  go_wp2_with fail
  refine (specBoxAsk_q nm un (some ⟨g0, 0, none⟩) l l zs kd pl nn wa ws bs code _ HN.out.1 oT.sl.2 HR.out HN.out.2.2.2.1 (Nat.le_refl _) HF.out.1 HF.out.2).mono ?_
  rintro e w3 h'
  rw [HV.out.1, HV.out.2.1] at h'
  obtain ⟨ps, qs, lps, lqs, cps, cqs, fs, nfs, cfs, rfl, e1', e2', e3', i', j', o', b'⟩ := h'
  have HAs : Hid (lps = ws.length ∧ lqs = bs.length ∧ nfs = F.length ∧ lps ≤ 2000000 ∧ lqs ≤ 2000000 ∧ nfs ≤ 2) := by have := HN.out; have := HV.out; refine ⟨e1', e2', e3', ?_, ?_, ?_⟩ <;> omega
  have HBs := hide b2.size
  clear e1' e2' e3'
  clear oT
  have b3 := bel_next b2 b'
  have X3 := X2.below b'
  clear b2 X2 x0 x1 x2 b'
  obtain ⟨x0, x1, x2⟩ := X3.tri
  have I3 := i'
  have J3 := j'
  have O3 := o'
  clear i' j' o'
  have b' := bel_alloc w3 (.cells #[.int .i64 kd, .int .i64 pl, .int .i64 nn, .slice ps lps cps, .slice qs lqs cqs, .int .i64 wa] 29)
  have N' := Blk.new w3 #[.int .i64 kd, .int .i64 pl, .int .i64 nn, .slice ps lps cps, .slice qs lqs cqs, .int .i64 wa] 29
  have b4 := bel_next b3 b'
  have I4 := I3.below b'
  have J4 := J3.below b'
  have O4 := O3.below b'
  have X4 := X3.below b'
  clear b3 I3 J3 O3 X3 x0 x1 x2 b'
  obtain ⟨x0, x1, x2⟩ := X4.tri
  have S4 := N'
  clear N'
  obtain ⟨s0, s1, s2, s3, s4, s5⟩ := S4.six
  go_wp2_with fail
  refine (toBox_any nm un a l c zs _ HN.out.1 (HS.out.1.below b4) HN.out.2.1).mono ?_
  rintro e w5 ⟨g1, rfl, oP, b'⟩
  have neOP := own_ne O4 oP (Nat.le_refl _)
  have sP := b4.size
  have b5 := bel_next b4 b'
  have I5 := I4.below b'
  have J5 := J4.below b'
  have O5 := O4.below b'
  have X5 := X4.below b'
  have S5 := S4.below b'
  clear b4 I4 J4 O4 X4 S4 x0 x1 x2 s0 s1 s2 s3 s4 s5 b'
  obtain ⟨x0, x1, x2⟩ := X5.tri
  obtain ⟨s0, s1, s2, s3, s4, s5⟩ := S5.six
  have P5 := own_mono oP sP
  clear oP sP
  have b' := bel_alloc w5 (.cells (bxc nm un (some ⟨g1, 0, none⟩) l l) 32)
  have N' := Blk.new w5 (bxc nm un (some ⟨g1, 0, none⟩) l l) 32
  have b6 := bel_next b5 b'
  have I6 := I5.below b'
  have J6 := J5.below b'
  have O6 := O5.below b'
  have P6 := P5.below b'
  have X6 := X5.below b'
  have S6 := S5.below b'
  clear b5 I5 J5 O5 P5 X5 S5 x0 x1 x2 s0 s1 s2 s3 s4 s5 b'
  obtain ⟨x0, x1, x2⟩ := X6.tri
  obtain ⟨s0, s1, s2, s3, s4, s5⟩ := S6.six
  have Q6 := N'
  clear N'
  obtain ⟨q0, q1, q2⟩ := Q6.tri
  go_wp2_with fail
  refine (implBoxAsk_q nm un (some ⟨g1, 0, none⟩) l l zs a0 a1 kd pl nn wa ws bs code _ HN.out.1 P6.sl.2 HR.out HN.out.2.2.2.1 (Nat.le_refl _) (HS.out.2.below b6) HF.out.1 HF.out.2).mono ?_
  rintro e w7 h'
  rw [HV.out.1, HV.out.2.1] at h'
  obtain ⟨pg, qg, lpg, lqg, cpg, cqg, fg, nfg, cfg, rfl, e1', e2', e3', i', j', o', b'⟩ := h'
  have HAg : Hid (lpg = ws.length ∧ lqg = bs.length ∧ nfg = F.length ∧ lpg ≤ 2000000 ∧ lqg ≤ 2000000 ∧ nfg ≤ 2) := by have := HN.out; have := HV.out; refine ⟨e1', e2', e3', ?_, ?_, ?_⟩ <;> omega
  have HBg := hide b6.size
  clear e1' e2' e3'
  have neI := neq_lt (fun k e => (World.ownsRow.lt I6 k e).2) (fun k e => (World.ownsRow.lt i' k e).1)
  have neJ := neq_lt (fun k e => (World.ownsRow.lt J6 k e).2) (fun k e => (World.ownsRow.lt j' k e).1)
  have neOG := own_ne O6 o' (Nat.le_refl _)
  have nePG := own_ne P6 o' (Nat.le_refl _)
  have b7 := bel_next b6 b'
  have I7 := I6.below b'
  have J7 := J6.below b'
  have O7 := O6.below b'
  have P7 := P6.below b'
  have X7 := X6.below b'
  have S7 := S6.below b'
  have Q7 := Q6.below b'
  clear b6 I6 J6 O6 P6 X6 S6 Q6 x0 x1 x2 s0 s1 s2 s3 s4 s5 q0 q1 q2 b'
  obtain ⟨x0, x1, x2⟩ := X7.tri
  obtain ⟨s0, s1, s2, s3, s4, s5⟩ := S7.six
  obtain ⟨q0, q1, q2⟩ := Q7.tri
  have M7 := i'
  have N7 := j'
  have G7 := o'
  clear i' j' o'
  have b' := bel_alloc w7 (.cells #[.int .i64 kd, .int .i64 pl, .int .i64 nn, .slice pg lpg cpg, .slice qg lqg cqg, .int .i64 wa] 29)
  have N' := Blk.new w7 #[.int .i64 kd, .int .i64 pl, .int .i64 nn, .slice pg lpg cpg, .slice qg lqg cqg, .int .i64 wa] 29
  have b8 := bel_next b7 b'
  have I8 := I7.below b'
  have J8 := J7.below b'
  have O8 := O7.below b'
  have P8 := P7.below b'
  have M8 := M7.below b'
  have N8 := N7.below b'
  have G8 := G7.below b'
  have X8 := X7.below b'
  have S8 := S7.below b'
  have Q8 := Q7.below b'
  clear b7 I7 J7 O7 P7 M7 N7 G7 X7 S7 Q7 x0 x1 x2 s0 s1 s2 s3 s4 s5 q0 q1 q2 b'
  obtain ⟨x0, x1, x2⟩ := X8.tri
  obtain ⟨s0, s1, s2, s3, s4, s5⟩ := S8.six
  obtain ⟨q0, q1, q2⟩ := Q8.tri
  have V8 := N'
  clear N'
  obtain ⟨v0, v1, v2, v3, v4, v5⟩ := V8.six
  go_wp2_with fail
  refine (eqR_ok kd pl nn wa _ _ _ _ _ _ _ _ _ _ _ _ ws bs _ _ _ HAg.out.1 HAg.out.2.1 HAs.out.1 HAs.out.2.1 M8 N8 I8 J8 HN.out.2.2.2.2.1 HN.out.2.2.2.2.2).mono ?_
  rintro e w9 ⟨rfl, b'⟩
  have b9 := bel_next b8 b'
  have I9 := I8.below b'
  have J9 := J8.below b'
  have O9 := O8.below b'
  have P9 := P8.below b'
  have M9 := M8.below b'
  have N9 := N8.below b'
  have G9 := G8.below b'
  have X9 := X8.below b'
  have S9 := S8.below b'
  have Q9 := Q8.below b'
  have V9 := V8.below b'
  clear b8 I8 J8 O8 P8 M8 N8 G8 X8 S8 Q8 V8 x0 x1 x2 s0 s1 s2 s3 s4 s5 q0 q1 q2 v0 v1 v2 v3 v4 v5 b'
  obtain ⟨x0, x1, x2⟩ := X9.tri
  obtain ⟨s0, s1, s2, s3, s4, s5⟩ := S9.six
  obtain ⟨q0, q1, q2⟩ := Q9.tri
  obtain ⟨v0, v1, v2, v3, v4, v5⟩ := V9.six
  go_wp2_with fail
  refine (eqB_any _ _ _ _ _ _ F _ HAg.out.2.2.1 HAs.out.2.2.1 G9.sl.2 O9.sl.2 (by have := HV.out; omega)).mono ?_
  rintro e w10 ⟨rfl, b'⟩
  have b10 := bel_next b9 b'
  have I10 := I9.below b'
  have J10 := J9.below b'
  have O10 := O9.below b'
  have P10 := P9.below b'
  have M10 := M9.below b'
  have N10 := N9.below b'
  have G10 := G9.below b'
  have X10 := X9.below b'
  have S10 := S9.below b'
  have Q10 := Q9.below b'
  have V10 := V9.below b'
  clear b9 I9 J9 O9 P9 M9 N9 G9 X9 S9 Q9 V9 x0 x1 x2 s0 s1 s2 s3 s4 s5 q0 q1 q2 v0 v1 v2 v3 v4 v5 b'
  obtain ⟨x0, x1, x2⟩ := X10.tri
  obtain ⟨s0, s1, s2, s3, s4, s5⟩ := S10.six
  obtain ⟨q0, q1, q2⟩ := Q10.tri
  obtain ⟨v0, v1, v2, v3, v4, v5⟩ := V10.six
  go_upto_region 10 with fail
  go_cut [56] (fun sX wx => sX = .bool false ∧ Below w10.heap.size w10 wx)
  case first =>
    go_region_with (first
      | (go_at_call 6; refine (toBox_any nm un a l c zs _ HN.out.1 (HS.out.1.below ?_) HN.out.2.1).mono ?_; (first | exact b10 | exact b10.drew | exact b10.drew.drew | exact b10.drew.drew.drew); rintro e wa' ⟨g5, rfl, oa, ba'⟩; have ba := bel_next (Below.refl _ w10).drew ba'; have Qa := Q10.below ba; have Pa := P10.below ba; obtain ⟨u0, u1, u2⟩ := Qa.tri; clear ba' Qa)
      | (go_at_call 10; refine (eqBox_true nm un _ _ _ _ _ _ zs _ HN.out.1 HN.out.1 ?_ ?_ HN.out.2.1).mono ?_; (first | exact Pa.sl.2 | exact (Pa.below (Below.refl _ _).drew).sl.2 | exact (Pa.below (Below.refl _ _).drew.drew).sl.2); (first | exact oa.sl.2 | exact (oa.below (Below.refl _ _).drew).sl.2 | exact (oa.below (Below.refl _ _).drew.drew).sl.2); rintro e wb' ⟨rfl, bb'⟩; have bb := bel_next (by first | exact ba | exact ba.drew | exact ba.drew.drew) bb'; clear bb'))
    all_goals (go_wp2_with fail; go_meet; exact ⟨rfl, bb⟩)
  case rest =>
  obtain ⟨rfl, b'⟩ := hcut
  obtain ⟨w11, hw'⟩ : ∃ w11, w11 = wc := ⟨_, rfl⟩
  rw [← hw'] at b' ⊢
  clear hw'
  have b11 := bel_next b10 b'
  have I11 := I10.below b'
  have J11 := J10.below b'
  have O11 := O10.below b'
  have P11 := P10.below b'
  have M11 := M10.below b'
  have N11 := N10.below b'
  have G11 := G10.below b'
  have X11 := X10.below b'
  have S11 := S10.below b'
  have Q11 := Q10.below b'
  have V11 := V10.below b'
  clear b10 I10 J10 O10 P10 M10 N10 G10 X10 S10 Q10 V10 x0 x1 x2 s0 s1 s2 s3 s4 s5 q0 q1 q2 v0 v1 v2 v3 v4 v5 b'
  obtain ⟨x0, x1, x2⟩ := X11.tri
  obtain ⟨s0, s1, s2, s3, s4, s5⟩ := S11.six
  obtain ⟨q0, q1, q2⟩ := Q11.tri
  obtain ⟨v0, v1, v2, v3, v4, v5⟩ := V11.six
  go_wp2_with fail
  refine (markBox_1 nm un _ l l _ zs _ P11 HN.out.2.2.1).mono ?_
  rintro e w12 ⟨rfl, rP, gr⟩
  have b12 := bel_grown b11 P11 gr (Nat.le_refl _) b11.size
  have O12 := O11.kept gr neOP.1
  have G12 := G11.kept gr nePG.2
  have I12 : OwnI _ _ _ _ := World.ownsRow.kept I11 gr (ne_types I11 P11 (by decide))
  have J12 : OwnB _ _ _ _ := World.ownsRow.kept J11 gr (ne_types J11 P11 (by decide))
  have M12 : OwnI _ _ _ _ := World.ownsRow.kept M11 gr (ne_types M11 P11 (by decide))
  have N12 : OwnB _ _ _ _ := World.ownsRow.kept N11 gr (ne_types N11 P11 (by decide))
  have X12 := X11.row P11 gr (by decide)
  have S12 := S11.row P11 gr (by decide)
  have Q12 := Q11.row P11 gr (by decide)
  have V12 := V11.row P11 gr (by decide)
  have f1 : ¬ ((l : Int) + 1 < 0) := by omega
  clear b11 I11 J11 O11 P11 M11 N11 G11 X11 S11 Q11 V11 rP gr x0 x1 x2 s0 s1 s2 s3 s4 s5 q0 q1 q2 v0 v1 v2 v3 v4 v5
  obtain ⟨x0, x1, x2⟩ := X12.tri
  obtain ⟨s0, s1, s2, s3, s4, s5⟩ := S12.six
  obtain ⟨q0, q1, q2⟩ := Q12.tri
  obtain ⟨v0, v1, v2, v3, v4, v5⟩ := V12.six
  go_wp2_with fail
  refine (eqR_ok kd pl nn wa _ _ _ _ _ _ _ _ _ _ _ _ ws bs _ _ _ HAg.out.1 HAg.out.2.1 HAs.out.1 HAs.out.2.1 M12 N12 I12 J12 HN.out.2.2.2.2.1 HN.out.2.2.2.2.2).mono ?_
  rintro e w13 ⟨rfl, b'⟩
  have b13 := bel_next b12 b'
  have I13 := I12.below b'
  have J13 := J12.below b'
  have O13 := O12.below b'
  have M13 := M12.below b'
  have N13 := N12.below b'
  have G13 := G12.below b'
  have X13 := X12.below b'
  have S13 := S12.below b'
  have Q13 := Q12.below b'
  have V13 := V12.below b'
  clear b12 I12 J12 O12 M12 N12 G12 X12 S12 Q12 V12 x0 x1 x2 s0 s1 s2 s3 s4 s5 q0 q1 q2 v0 v1 v2 v3 v4 v5 b'
  obtain ⟨x0, x1, x2⟩ := X13.tri
  obtain ⟨s0, s1, s2, s3, s4, s5⟩ := S13.six
  obtain ⟨q0, q1, q2⟩ := Q13.tri
  obtain ⟨v0, v1, v2, v3, v4, v5⟩ := V13.six
  go_wp2_with fail
  refine (eqB_any _ _ _ _ _ _ F _ HAg.out.2.2.1 HAs.out.2.2.1 G13.sl.2 O13.sl.2 (by have := HV.out; omega)).mono ?_
  rintro e w14 ⟨rfl, b'⟩
  have b14 := bel_next b13 b'
  have I14 := I13.below b'
  have J14 := J13.below b'
  have O14 := O13.below b'
  have M14 := M13.below b'
  have N14 := N13.below b'
  have G14 := G13.below b'
  have X14 := X13.below b'
  have S14 := S13.below b'
  have Q14 := Q13.below b'
  have V14 := V13.below b'
  clear b13 I13 J13 O13 M13 N13 G13 X13 S13 Q13 V13 x0 x1 x2 s0 s1 s2 s3 s4 s5 q0 q1 q2 v0 v1 v2 v3 v4 v5 b'
  obtain ⟨x0, x1, x2⟩ := X14.tri
  obtain ⟨s0, s1, s2, s3, s4, s5⟩ := S14.six
  obtain ⟨q0, q1, q2⟩ := Q14.tri
  obtain ⟨v0, v1, v2, v3, v4, v5⟩ := V14.six
  go_wp2_with fail
  refine (markReq_2 kd pl nn wa _ _ _ _ _ _ _ _ ws bs _ M14 N14 HAg.out.2.2.2.1 HAg.out.2.2.2.2.1).mono ?_
  rintro e w15 ⟨rfl, mI, mB, kI, kJ, kO, kB, kL⟩
  have b15 := kL _ _ b14 HBg.out HBg.out b14.size
  have I15 := kI _ _ _ I14 neI
  have J15 := kJ _ _ _ J14 neJ
  have O15 := kO _ _ _ O14
  have G15 := kO _ _ _ G14
  have X15 := kB _ _ _ X14 (by decide) (by decide)
  have S15 := kB _ _ _ S14 (by decide) (by decide)
  have Q15 := kB _ _ _ Q14 (by decide) (by decide)
  have V15 := kB _ _ _ V14 (by decide) (by decide)
  clear b14 I14 J14 O14 M14 N14 G14 X14 S14 Q14 V14 kI kJ kO kB kL x0 x1 x2 s0 s1 s2 s3 s4 s5 q0 q1 q2 v0 v1 v2 v3 v4 v5
  have M15 := mI
  have N15 := mB
  clear mI mB
  obtain ⟨x0, x1, x2⟩ := X15.tri
  obtain ⟨s0, s1, s2, s3, s4, s5⟩ := S15.six
  obtain ⟨q0, q1, q2⟩ := Q15.tri
  obtain ⟨v0, v1, v2, v3, v4, v5⟩ := V15.six
  go_wp2_with fail
  refine (markByteS_x _ _ _ _ (1 + lpg + lqg) _ F _ (by omega) G15 (by have := HAg.out; omega) (by have := HAg.out; omega)).mono ?_
  rintro e w16 ⟨rfl, rG, gr⟩
  have b16 := bel_grown b15 G15 gr HBg.out b15.size
  have O16 := O15.kept gr neOG.1
  have I16 : OwnI _ _ _ _ := World.ownsRow.kept I15 gr (ne_types I15 G15 (by decide))
  have J16 : OwnB _ _ _ _ := World.ownsRow.kept J15 gr (ne_types J15 G15 (by decide))
  have M16 : OwnI _ _ _ _ := World.ownsRow.kept M15 gr (ne_types M15 G15 (by decide))
  have N16 : OwnB _ _ _ _ := World.ownsRow.kept N15 gr (ne_types N15 G15 (by decide))
  have X16 := X15.row G15 gr (by decide)
  have S16 := S15.row G15 gr (by decide)
  have Q16 := Q15.row G15 gr (by decide)
  have V16 := V15.row G15 gr (by decide)
  clear b15 I15 J15 O15 M15 N15 G15 X15 S15 Q15 V15 gr x0 x1 x2 s0 s1 s2 s3 s4 s5 q0 q1 q2 v0 v1 v2 v3 v4 v5
  have G16 := rG
  clear rG
  obtain ⟨x0, x1, x2⟩ := X16.tri
  obtain ⟨s0, s1, s2, s3, s4, s5⟩ := S16.six
  obtain ⟨q0, q1, q2⟩ := Q16.tri
  obtain ⟨v0, v1, v2, v3, v4, v5⟩ := V16.six
  have f2 : ¬ ((1 : Int) + (lpg : Int) + (lqg : Int) < 0) := by omega
  have f3 : ¬ ((1 : Int) + (lpg : Int) + (lqg : Int) + (nfg : Int) < 0) := by omega
  go_wp2_with fail
  refine (heldReq_any kd pl nn wa _ _ _ _ _ _ _ M16.sl.2 N16.sl.2 HAg.out.2.2.2.1 HAg.out.2.2.2.2.1).mono ?_
  rintro e w17 ⟨rfl, b'⟩
  have b17 := bel_next b16 b'
  have I17 := I16.below b'
  have J17 := J16.below b'
  have O17 := O16.below b'
  have M17 := M16.below b'
  have N17 := N16.below b'
  have G17 := G16.below b'
  have X17 := X16.below b'
  have S17 := S16.below b'
  have Q17 := Q16.below b'
  have V17 := V16.below b'
  clear b16 I16 J16 O16 M16 N16 G16 X16 S16 Q16 V16 x0 x1 x2 s0 s1 s2 s3 s4 s5 q0 q1 q2 v0 v1 v2 v3 v4 v5 b'
  obtain ⟨x0, x1, x2⟩ := X17.tri
  obtain ⟨s0, s1, s2, s3, s4, s5⟩ := S17.six
  obtain ⟨q0, q1, q2⟩ := Q17.tri
  obtain ⟨v0, v1, v2, v3, v4, v5⟩ := V17.six
  go_wp2_with fail
  refine (heldByteS_x _ _ _ (1 + lpg + lqg) _ _ (by omega) G17.sl.2 (by have := HAg.out; omega) (by have := HAg.out; omega)).mono ?_
  rintro e wh17 ⟨rfl, rfl⟩
  go_wp2_with fail
  refine (toBox_any nm un a l c zs _ HN.out.1 (HS.out.1.below b17) HN.out.2.1).mono ?_
  rintro e w18 ⟨g2, rfl, oT, b'⟩
  have b18 := bel_next b17 b'
  have I18 := I17.below b'
  have J18 := J17.below b'
  have O18 := O17.below b'
  have M18 := M17.below b'
  have N18 := N17.below b'
  have G18 := G17.below b'
  have X18 := X17.below b'
  have S18 := S17.below b'
  have Q18 := Q17.below b'
  have V18 := V17.below b'
  clear b17 I17 J17 O17 M17 N17 G17 X17 S17 Q17 V17 x0 x1 x2 s0 s1 s2 s3 s4 s5 q0 q1 q2 v0 v1 v2 v3 v4 v5 b'
  obtain ⟨x0, x1, x2⟩ := X18.tri
  obtain ⟨s0, s1, s2, s3, s4, s5⟩ := S18.six
  obtain ⟨q0, q1, q2⟩ := Q18.tri
  obtain ⟨v0, v1, v2, v3, v4, v5⟩ := V18.six
  go_wp2_with fail
  refine (implBoxAsk_q nm un (some ⟨g2, 0, none⟩) l l zs a0 a1 kd pl nn wa ws bs code _ HN.out.1 oT.sl.2 HR.out HN.out.2.2.2.1 (Nat.le_refl _) (HS.out.2.below b18) HF.out.1 HF.out.2).mono ?_
  rintro e w19 h'
  rw [HV.out.1, HV.out.2.1] at h'
  obtain ⟨ph, qh, lph, lqh, cph, cqh, fh, nfh, cfh, rfl, e1', e2', e3', i', j', o', b'⟩ := h'
  have HAh : Hid (lph = ws.length ∧ lqh = bs.length ∧ nfh = F.length ∧ lph ≤ 2000000 ∧ lqh ≤ 2000000 ∧ nfh ≤ 2) := by have := HN.out; have := HV.out; refine ⟨e1', e2', e3', ?_, ?_, ?_⟩ <;> omega
  have HBh := hide b18.size
  clear e1' e2' e3'
  clear oT
  have b19 := bel_next b18 b'
  have I19 := I18.below b'
  have J19 := J18.below b'
  have O19 := O18.below b'
  have M19 := M18.below b'
  have N19 := N18.below b'
  have G19 := G18.below b'
  have X19 := X18.below b'
  have S19 := S18.below b'
  have Q19 := Q18.below b'
  have V19 := V18.below b'
  clear b18 I18 J18 O18 M18 N18 G18 X18 S18 Q18 V18 x0 x1 x2 s0 s1 s2 s3 s4 s5 q0 q1 q2 v0 v1 v2 v3 v4 v5 b'
  obtain ⟨x0, x1, x2⟩ := X19.tri
  obtain ⟨s0, s1, s2, s3, s4, s5⟩ := S19.six
  obtain ⟨q0, q1, q2⟩ := Q19.tri
  obtain ⟨v0, v1, v2, v3, v4, v5⟩ := V19.six
  have A19 := i'
  have D19 := j'
  have Z19 := o'
  clear i' j' o'
  have b' := bel_alloc w19 (.cells #[.int .i64 kd, .int .i64 pl, .int .i64 nn, .slice ph lph cph, .slice qh lqh cqh, .int .i64 wa] 29)
  have N' := Blk.new w19 #[.int .i64 kd, .int .i64 pl, .int .i64 nn, .slice ph lph cph, .slice qh lqh cqh, .int .i64 wa] 29
  have b20 := bel_next b19 b'
  have I20 := I19.below b'
  have J20 := J19.below b'
  have O20 := O19.below b'
  have M20 := M19.below b'
  have N20 := N19.below b'
  have G20 := G19.below b'
  have A20 := A19.below b'
  have D20 := D19.below b'
  have Z20 := Z19.below b'
  have X20 := X19.below b'
  have S20 := S19.below b'
  have Q20 := Q19.below b'
  have V20 := V19.below b'
  clear b19 I19 J19 O19 M19 N19 G19 A19 D19 Z19 X19 S19 Q19 V19 x0 x1 x2 s0 s1 s2 s3 s4 s5 q0 q1 q2 v0 v1 v2 v3 v4 v5 b'
  obtain ⟨x0, x1, x2⟩ := X20.tri
  obtain ⟨s0, s1, s2, s3, s4, s5⟩ := S20.six
  obtain ⟨q0, q1, q2⟩ := Q20.tri
  obtain ⟨v0, v1, v2, v3, v4, v5⟩ := V20.six
  have T20 := N'
  clear N'
  obtain ⟨t0, t1, t2, t3, t4, t5⟩ := T20.six
  go_wp2_with fail
  refine (eqR_ok kd pl nn wa _ _ _ _ _ _ _ _ _ _ _ _ ws bs _ _ _ HAh.out.1 HAh.out.2.1 HAs.out.1 HAs.out.2.1 A20 D20 I20 J20 HN.out.2.2.2.2.1 HN.out.2.2.2.2.2).mono ?_
  rintro e w21 ⟨rfl, b'⟩
  have b21 := bel_next b20 b'
  have I21 := I20.below b'
  have J21 := J20.below b'
  have O21 := O20.below b'
  have M21 := M20.below b'
  have N21 := N20.below b'
  have G21 := G20.below b'
  have A21 := A20.below b'
  have D21 := D20.below b'
  have Z21 := Z20.below b'
  have X21 := X20.below b'
  have S21 := S20.below b'
  have Q21 := Q20.below b'
  have V21 := V20.below b'
  have T21 := T20.below b'
  clear b20 I20 J20 O20 M20 N20 G20 A20 D20 Z20 X20 S20 Q20 V20 T20 x0 x1 x2 s0 s1 s2 s3 s4 s5 q0 q1 q2 v0 v1 v2 v3 v4 v5 t0 t1 t2 t3 t4 t5 b'
  obtain ⟨x0, x1, x2⟩ := X21.tri
  obtain ⟨s0, s1, s2, s3, s4, s5⟩ := S21.six
  obtain ⟨q0, q1, q2⟩ := Q21.tri
  obtain ⟨v0, v1, v2, v3, v4, v5⟩ := V21.six
  obtain ⟨t0, t1, t2, t3, t4, t5⟩ := T21.six
  go_wp2_with fail
  refine (eqB_any _ _ _ _ _ _ F _ HAh.out.2.2.1 HAs.out.2.2.1 Z21.sl.2 O21.sl.2 (by have := HV.out; omega)).mono ?_
  rintro e w22 ⟨rfl, b'⟩
  have b22 := bel_next b21 b'
  have I22 := I21.below b'
  have J22 := J21.below b'
  have O22 := O21.below b'
  have M22 := M21.below b'
  have N22 := N21.below b'
  have G22 := G21.below b'
  have A22 := A21.below b'
  have D22 := D21.below b'
  have Z22 := Z21.below b'
  have X22 := X21.below b'
  have S22 := S21.below b'
  have Q22 := Q21.below b'
  have V22 := V21.below b'
  have T22 := T21.below b'
  clear b21 I21 J21 O21 M21 N21 G21 A21 D21 Z21 X21 S21 Q21 V21 T21 x0 x1 x2 s0 s1 s2 s3 s4 s5 q0 q1 q2 v0 v1 v2 v3 v4 v5 t0 t1 t2 t3 t4 t5 b'
  obtain ⟨x0, x1, x2⟩ := X22.tri
  obtain ⟨s0, s1, s2, s3, s4, s5⟩ := S22.six
  obtain ⟨q0, q1, q2⟩ := Q22.tri
  obtain ⟨v0, v1, v2, v3, v4, v5⟩ := V22.six
  obtain ⟨t0, t1, t2, t3, t4, t5⟩ := T22.six
  go_wp2_with fail
  refine (heldReq_any kd pl nn wa _ _ _ _ _ _ _ M22.sl.2 N22.sl.2 HAg.out.2.2.2.1 HAg.out.2.2.2.2.1).mono ?_
  rintro e w23 ⟨rfl, b'⟩
  have b23 := bel_next b22 b'
  have I23 := I22.below b'
  have J23 := J22.below b'
  have O23 := O22.below b'
  have M23 := M22.below b'
  have N23 := N22.below b'
  have G23 := G22.below b'
  have A23 := A22.below b'
  have D23 := D22.below b'
  have Z23 := Z22.below b'
  have X23 := X22.below b'
  have S23 := S22.below b'
  have Q23 := Q22.below b'
  have V23 := V22.below b'
  have T23 := T22.below b'
  clear b22 I22 J22 O22 M22 N22 G22 A22 D22 Z22 X22 S22 Q22 V22 T22 x0 x1 x2 s0 s1 s2 s3 s4 s5 q0 q1 q2 v0 v1 v2 v3 v4 v5 t0 t1 t2 t3 t4 t5 b'
  obtain ⟨x0, x1, x2⟩ := X23.tri
  obtain ⟨s0, s1, s2, s3, s4, s5⟩ := S23.six
  obtain ⟨q0, q1, q2⟩ := Q23.tri
  obtain ⟨v0, v1, v2, v3, v4, v5⟩ := V23.six
  obtain ⟨t0, t1, t2, t3, t4, t5⟩ := T23.six
  go_wp2_with fail
  refine (heldByteS_x _ _ _ (1 + lpg + lqg) _ _ (by omega) G23.sl.2 (by have := HAg.out; omega) (by have := HAg.out; omega)).mono ?_
  rintro e wh23 ⟨rfl, rfl⟩
  go_wp2
  go_ret
  exact ⟨rfl, b23⟩
set_option maxRecDepth 20000 in
set_option maxHeartbeats 2000000 in
theorem boxAsk_over (nm un : Int) (a : Option Addr) (l c : Nat) (w : World) (m0 : l ≤ maxLen) (hl : ¬ l ≤ 1048576) :
    Calls Tryd.prog 3 #[.agg (bxc nm un a l c)] w fun e w' => e = .returned (.bool true) ∧ Below w.heap.size w w' := by
  have b0 := bel_alloc w (.cells (bxc nm un a l c) 24)
  obtain ⟨x0, x1, x2⟩ := (Blk.new w (bxc nm un a l c) 24).tri
  go_enter Tryd.func3, Tryd.ntmps3
  go_wp2_with fail
  refine (szBox_big nm un a l c _ m0 hl).mono ?_
  rintro e w1 ⟨rfl, b'⟩
  have b1 := bel_next b0 b'
  clear x0 x1 x2 b0 b'
  go_wp2
  go_ret
  exact ⟨rfl, b1⟩
end Go.Proofs.YtohikbpolofklaaDoor

/- A drawn frame: a unit, and one to 253 bytes. -/
import Derived.Test.YtbdlppihiffjgaaAskR
import Derived.Test.YtbdlppihiffjgaaCurY
import Derived.Test.YtbdlppihiffjgaaAskE
import Derived.Test.YtbdlppihiffjgaaRtu1
namespace Go.Proofs.Ytbdlppihiffjgaa
open Go.RowKit

set_option linter.unusedVariables false

set_option linter.unusedSimpArgs false

theorem putL_few (kd pl nn wa : Int) (ws : List Int) (bs : List Bool) (h1 : ws.length ≤ 6) (h2 : bs.length ≤ 20) : 1 ≤ (putL kd pl nn wa ws bs).length ∧ (putL kd pl nn wa ws bs).length ≤ 253 := by
  unfold putL
  split
  · simp [wbs]
  · split
    · simp [wbs, wbs_length]; omega
    · split
      · simp [wbs, packL_length]; omega
      · split
        · simp [wbs, wbs_length]; omega
        · split
          · simp [wbs, wbs_length]; omega
          · simp [wbs]

/-- What drawing bytes of a frame ends with. -/
def DrawnF (w0 : World) (a : Option Addr) (cap : Nat) (zs : List Int) (w : World) (g : Nat) (e : Ending) (w' : World) : Prop :=
  ∃ (ad : Option Addr) (n c : Nat) (bs : List Int), e = .returned (.slice ad n c) ∧ n = bs.length ∧ 1 ≤ n ∧ n ≤ 253 ∧ Own w' w.heap.size (.slice ad n c) bs ∧ (∀ z ∈ bs, 0 ≤ z ∧ z ≤ 255) ∧ Cur w0 a cap zs w' g ∧ w.grownBy w' (some g)

theorem Cur.belowU {w0 u u' : World} {a : Option Addr} {cap g : Nat} {zs : List Int} (h : Cur w0 a cap zs u g) (hb : Below u.heap.size u u') : Cur w0 a cap zs u' g :=
  h.grown (grown_below hb (some u.heap.size)) (by have := h.hi; simp; omega) (fun k hk => by simp at hk; subst hk; have := h.hi; have := h.lo; omega)

set_option maxRecDepth 20000 in
set_option maxHeartbeats 4000000 in
theorem l6Some_any (w0 : World) (a : Option Addr) (cap : Nat) (zs : List Int) (w : World) (g : Nat) (hC : Cur w0 a cap zs w g) :
    Calls Try.prog 55 #[.pointer (some ⟨g, 0, none⟩)] w fun e w' => DrawnF w0 a cap zs w g e w' := by
  have HG : Hid (g < w.heap.size ∧ w0.heap.size ≤ g) := ⟨hC.hi, hC.lo⟩
  go_enter Try.func55, Try.ntmps55
  go_wp2_with fail
  refine (l1Once_any w0 a cap zs _ g _ (by decide) hC).mono ?_
  rintro e w1 ⟨t, rfl, C1, g1⟩
  cases t
  · go_wp2_with fail
    refine (l1Below_any w0 a cap zs _ g _ (by decide) C1).mono ?_
    rintro e w2 ⟨x, rfl, hx, C2, g2⟩
    obtain ⟨m, hm⟩ : ∃ m : Nat, 1 + x = (m : Int) := ⟨(1 + x).toNat, by omega⟩
    have HM : Hid (1 + x = (m : Int) ∧ 1 ≤ m ∧ m ≤ 9) := ⟨hm, by omega, by omega⟩
    have G2 := grown_trans g1 g2
    clear hm C1 g1 g2 hC
    go_wp2_with fail
    rw [HM.out.1]
    refine (l1BytesY_any w0 a cap zs _ g m (by have := HM.out; omega) C2).mono ?_
    rintro e w3 ⟨ad, n, c, bs, rfl, hn, hP, o3, hr, C3, g3⟩
    have R : DrawnF w0 a cap zs w g (.returned (.slice (some ad) n c)) w3 := ⟨_, n, c, bs, rfl, hn, by have := HM.out; omega, by have := HM.out; omega, o3.monoT G2.size, hr, C3, grown_trans G2 g3⟩
    clear hn hP o3 hr C3 g3 G2 C2
    go_wp2
    go_ret
    exact R
  · go_wp2_with fail
    refine (l3DrawR_any w0 a cap zs _ g C1).mono ?_
    rintro e w2 ⟨kd, pl, nn, wa, a1, a2, l1, l2, c1, c2, ws, bs, rfl, h1, h2, hl1, hl2, hok, i2, j2, C2, g2⟩
    have G2 := grown_trans g1 g2
    have HE : Hid (l1 = ws.length ∧ l2 = bs.length ∧ l1 ≤ 6 ∧ l2 ≤ 20 ∧ okR kd pl nn wa ws l1 l2 = true) := ⟨h1, h2, hl1, hl2, hok⟩
    clear h1 h2 hl1 hl2 hok g1 g2 C1 hC
    go_wp2_with fail
    refine (specPut_q kd pl nn wa a1 a2 l1 l2 c1 c2 ws bs _ HE.out.1 HE.out.2.1 i2.sl.2 j2.sl.2 (by have := HE.out; omega) (by have := HE.out; omega)).mono ?_
    rintro e w3 ⟨ao, co, no, rfl, hno, o3, b'⟩
    have hok' : okR kd pl nn wa ws ws.length bs.length = true := by rw [← HE.out.1, ← HE.out.2.1]; exact HE.out.2.2.2.2
    have hV : putV (okR kd pl nn wa ws l1 l2) kd pl nn wa ws bs = putL kd pl nn wa ws bs := by rw [HE.out.2.2.2.2]; rfl
    rw [hV] at hno o3
    have hf := putL_few kd pl nn wa ws bs (by have := HE.out; omega) (by have := HE.out; omega)
    have R : DrawnF w0 a cap zs w g (.returned (.slice ao no co)) w3 := ⟨_, no, co, _, rfl, hno, by omega, by omega, o3.monoT G2.size, putL_rg kd pl nn wa ws bs hok', C2.belowU b', grown_trans G2 (grown_below b' (some g))⟩
    clear hno o3 b' hok' hV hf G2 C2 i2 j2
    go_wp2
    go_ret
    exact R

end Go.Proofs.Ytbdlppihiffjgaa

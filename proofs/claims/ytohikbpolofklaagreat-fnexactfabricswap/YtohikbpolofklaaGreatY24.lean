/- Texts that the proof needs, joined: Q3. -/
import Derived.Test.YtohikbpolofklaaGreatY16
set_option linter.unusedSectionVars false
set_option linter.unusedVariables false
set_option maxHeartbeats 4000000
set_option maxRecDepth 20000
namespace Go.Proofs.YtohikbpolofklaaGreat
open Go.RowKit Go.Proofs.Tryz
theorem vz(w:World)(v:Value):(Instr.typeAssert (.iface 207 v) 194 207 true).run prog w=.ok (.tuple #[v,.bool true]) w:=by kernel_rfl
theorem vA(w:World)(v:Value):(Instr.typeAssert (.iface 208 v) 194 207 true).run prog w=.ok (.tuple #[.agg #[Vi 0,Vi 0],.bool false]) w:=by kernel_rfl
theorem vB(w:World)(v:Value):(Instr.typeAssert (.iface 208 v) 194 208 true).run prog w=.ok (.tuple #[v,.bool true]) w:=by kernel_rfl
theorem vC(w:World)(v:Value):(Instr.typeAssert (.iface 209 v) 194 207 true).run prog w=.ok (.tuple #[.agg #[Vi 0,Vi 0],.bool false]) w:=by kernel_rfl
theorem vD(w:World)(v:Value):(Instr.typeAssert (.iface 209 v) 194 208 true).run prog w=.ok (.tuple #[.agg #[Vi 0,Vi 0],.bool false]) w:=by kernel_rfl
theorem vE(w:World)(v:Value):(Instr.typeAssert (.iface 209 v) 194 209 true).run prog w=.ok (.tuple #[v,.bool true]) w:=by kernel_rfl
theorem vF(w:World)(v:Value):(Instr.typeAssert (.iface 210 v) 194 207 true).run prog w=.ok (.tuple #[.agg #[Vi 0,Vi 0],.bool false]) w:=by kernel_rfl
theorem vG(w:World)(v:Value):(Instr.typeAssert (.iface 210 v) 194 208 true).run prog w=.ok (.tuple #[.agg #[Vi 0,Vi 0],.bool false]) w:=by kernel_rfl
theorem vH(w:World)(v:Value):(Instr.typeAssert (.iface 210 v) 194 209 true).run prog w=.ok (.tuple #[.agg #[Vi 0,Vi 0],.bool false]) w:=by kernel_rfl
theorem vI(w:World)(v:Value):(Instr.typeAssert (.iface 210 v) 194 210 true).run prog w=.ok (.tuple #[v,.bool true]) w:=by kernel_rfl
theorem vJ(w:World)(v:Value):(Instr.typeAssert (.iface 212 v) 194 207 true).run prog w=.ok (.tuple #[.agg #[Vi 0,Vi 0],.bool false]) w:=by kernel_rfl
theorem vK(w:World)(v:Value):(Instr.typeAssert (.iface 212 v) 194 208 true).run prog w=.ok (.tuple #[.agg #[Vi 0,Vi 0],.bool false]) w:=by kernel_rfl
theorem vL(w:World)(v:Value):(Instr.typeAssert (.iface 212 v) 194 209 true).run prog w=.ok (.tuple #[.agg #[Vi 0,Vi 0],.bool false]) w:=by kernel_rfl
theorem vM(w:World)(v:Value):(Instr.typeAssert (.iface 212 v) 194 210 true).run prog w=.ok (.tuple #[.agg #[Vi 0,Vi 0],.bool false]) w:=by kernel_rfl
theorem vN(w:World)(v:Value):(Instr.typeAssert (.iface 212 v) 194 212 true).run prog w=.ok (.tuple #[v,.bool true]) w:=by kernel_rfl
theorem vO(w:World)(v:Value):(Instr.typeAssert (.iface 214 v) 194 207 true).run prog w=.ok (.tuple #[.agg #[Vi 0,Vi 0],.bool false]) w:=by kernel_rfl
theorem vP(w:World)(v:Value):(Instr.typeAssert (.iface 214 v) 194 208 true).run prog w=.ok (.tuple #[.agg #[Vi 0,Vi 0],.bool false]) w:=by kernel_rfl
theorem vQ(w:World)(v:Value):(Instr.typeAssert (.iface 214 v) 194 209 true).run prog w=.ok (.tuple #[.agg #[Vi 0,Vi 0],.bool false]) w:=by kernel_rfl
theorem vR(w:World)(v:Value):(Instr.typeAssert (.iface 214 v) 194 210 true).run prog w=.ok (.tuple #[.agg #[Vi 0,Vi 0],.bool false]) w:=by kernel_rfl
theorem vS(w:World)(v:Value):(Instr.typeAssert (.iface 214 v) 194 212 true).run prog w=.ok (.tuple #[.agg #[Vi 0,.bool false],.bool false]) w:=by kernel_rfl
theorem vT(w:World)(v:Value):(Instr.typeAssert (.iface 214 v) 194 214 true).run prog w=.ok (.tuple #[v,.bool true]) w:=by kernel_rfl
theorem tX(w:World)(v:Value):(Instr.typeAssert (.iface 216 v) 194 207 true).run prog w=.ok (.tuple #[.agg #[Vi 0,Vi 0],.bool false]) w:=by kernel_rfl
theorem tY(w:World)(v:Value):(Instr.typeAssert (.iface 216 v) 194 208 true).run prog w=.ok (.tuple #[.agg #[Vi 0,Vi 0],.bool false]) w:=by kernel_rfl
theorem tZ(w:World)(v:Value):(Instr.typeAssert (.iface 216 v) 194 209 true).run prog w=.ok (.tuple #[.agg #[Vi 0,Vi 0],.bool false]) w:=by kernel_rfl
theorem ua(w:World)(v:Value):(Instr.typeAssert (.iface 216 v) 194 210 true).run prog w=.ok (.tuple #[.agg #[Vi 0,Vi 0],.bool false]) w:=by kernel_rfl
theorem ub(w:World)(v:Value):(Instr.typeAssert (.iface 216 v) 194 212 true).run prog w=.ok (.tuple #[.agg #[Vi 0,.bool false],.bool false]) w:=by kernel_rfl
theorem uc(w:World)(v:Value):(Instr.typeAssert (.iface 216 v) 194 214 true).run prog w=.ok (.tuple #[.agg #[Vi 0,Vi 0],.bool false]) w:=by kernel_rfl
theorem sm(w:World)(v:Value):(Instr.typeAssert (.iface 216 v) 194 216 true).run prog w=.ok (.tuple #[v,.bool true]) w:=by kernel_rfl
theorem ud(w:World)(v:Value):(Instr.typeAssert (.iface 218 v) 194 207 true).run prog w=.ok (.tuple #[.agg #[Vi 0,Vi 0],.bool false]) w:=by kernel_rfl
theorem ue(w:World)(v:Value):(Instr.typeAssert (.iface 218 v) 194 208 true).run prog w=.ok (.tuple #[.agg #[Vi 0,Vi 0],.bool false]) w:=by kernel_rfl
theorem ug(w:World)(v:Value):(Instr.typeAssert (.iface 218 v) 194 209 true).run prog w=.ok (.tuple #[.agg #[Vi 0,Vi 0],.bool false]) w:=by kernel_rfl
theorem uh(w:World)(v:Value):(Instr.typeAssert (.iface 218 v) 194 210 true).run prog w=.ok (.tuple #[.agg #[Vi 0,Vi 0],.bool false]) w:=by kernel_rfl
theorem ui(w:World)(v:Value):(Instr.typeAssert (.iface 218 v) 194 212 true).run prog w=.ok (.tuple #[.agg #[Vi 0,.bool false],.bool false]) w:=by kernel_rfl
theorem uj(w:World)(v:Value):(Instr.typeAssert (.iface 218 v) 194 214 true).run prog w=.ok (.tuple #[.agg #[Vi 0,Vi 0],.bool false]) w:=by kernel_rfl
theorem sq(w:World)(v:Value):(Instr.typeAssert (.iface 218 v) 194 216 true).run prog w=.ok (.tuple #[.agg #[Vi 0,Zs],.bool false]) w:=by kernel_rfl
theorem su(w:World)(v:Value):(Instr.typeAssert (.iface 218 v) 194 218 true).run prog w=.ok (.tuple #[v,.bool true]) w:=by kernel_rfl
theorem uk(w:World)(v:Value):(Instr.typeAssert (.iface 220 v) 194 207 true).run prog w=.ok (.tuple #[.agg #[Vi 0,Vi 0],.bool false]) w:=by kernel_rfl
theorem ul(w:World)(v:Value):(Instr.typeAssert (.iface 220 v) 194 208 true).run prog w=.ok (.tuple #[.agg #[Vi 0,Vi 0],.bool false]) w:=by kernel_rfl
theorem um(w:World)(v:Value):(Instr.typeAssert (.iface 220 v) 194 209 true).run prog w=.ok (.tuple #[.agg #[Vi 0,Vi 0],.bool false]) w:=by kernel_rfl
theorem uo(w:World)(v:Value):(Instr.typeAssert (.iface 220 v) 194 210 true).run prog w=.ok (.tuple #[.agg #[Vi 0,Vi 0],.bool false]) w:=by kernel_rfl
theorem uq(w:World)(v:Value):(Instr.typeAssert (.iface 220 v) 194 212 true).run prog w=.ok (.tuple #[.agg #[Vi 0,.bool false],.bool false]) w:=by kernel_rfl
theorem ur(w:World)(v:Value):(Instr.typeAssert (.iface 220 v) 194 214 true).run prog w=.ok (.tuple #[.agg #[Vi 0,Vi 0],.bool false]) w:=by kernel_rfl
theorem sw(w:World)(v:Value):(Instr.typeAssert (.iface 220 v) 194 216 true).run prog w=.ok (.tuple #[.agg #[Vi 0,Zs],.bool false]) w:=by kernel_rfl
theorem sx(w:World)(v:Value):(Instr.typeAssert (.iface 220 v) 194 218 true).run prog w=.ok (.tuple #[.agg #[Vi 0,Zs],.bool false]) w:=by kernel_rfl
theorem sy(w:World)(v:Value):(Instr.typeAssert (.iface 220 v) 194 220 true).run prog w=.ok (.tuple #[v,.bool true]) w:=by kernel_rfl
theorem ut(w:World)(v:Value):(Instr.typeAssert (.iface 222 v) 194 207 true).run prog w=.ok (.tuple #[.agg #[Vi 0,Vi 0],.bool false]) w:=by kernel_rfl
theorem uv(w:World)(v:Value):(Instr.typeAssert (.iface 222 v) 194 208 true).run prog w=.ok (.tuple #[.agg #[Vi 0,Vi 0],.bool false]) w:=by kernel_rfl
theorem uw(w:World)(v:Value):(Instr.typeAssert (.iface 222 v) 194 209 true).run prog w=.ok (.tuple #[.agg #[Vi 0,Vi 0],.bool false]) w:=by kernel_rfl
theorem ux(w:World)(v:Value):(Instr.typeAssert (.iface 222 v) 194 210 true).run prog w=.ok (.tuple #[.agg #[Vi 0,Vi 0],.bool false]) w:=by kernel_rfl
theorem uy(w:World)(v:Value):(Instr.typeAssert (.iface 222 v) 194 212 true).run prog w=.ok (.tuple #[.agg #[Vi 0,.bool false],.bool false]) w:=by kernel_rfl
theorem uz(w:World)(v:Value):(Instr.typeAssert (.iface 222 v) 194 214 true).run prog w=.ok (.tuple #[.agg #[Vi 0,Vi 0],.bool false]) w:=by kernel_rfl
theorem sA(w:World)(v:Value):(Instr.typeAssert (.iface 222 v) 194 216 true).run prog w=.ok (.tuple #[.agg #[Vi 0,Zs],.bool false]) w:=by kernel_rfl
theorem sB(w:World)(v:Value):(Instr.typeAssert (.iface 222 v) 194 218 true).run prog w=.ok (.tuple #[.agg #[Vi 0,Zs],.bool false]) w:=by kernel_rfl
theorem sC(w:World)(v:Value):(Instr.typeAssert (.iface 222 v) 194 220 true).run prog w=.ok (.tuple #[.agg #[Vi 0,Vi 0,Vi 0],.bool false]) w:=by kernel_rfl
theorem sD(w:World)(v:Value):(Instr.typeAssert (.iface 222 v) 194 222 true).run prog w=.ok (.tuple #[v,.bool true]) w:=by kernel_rfl
theorem vU(w:World):(Instr.typeAssert .nilIface 194 207 true).run prog w=.ok (.tuple #[.agg #[Vi 0,Vi 0],.bool false]) w:=by kernel_rfl
theorem vV(w:World):(Instr.typeAssert .nilIface 194 208 true).run prog w=.ok (.tuple #[.agg #[Vi 0,Vi 0],.bool false]) w:=by kernel_rfl
theorem vW(w:World):(Instr.typeAssert .nilIface 194 209 true).run prog w=.ok (.tuple #[.agg #[Vi 0,Vi 0],.bool false]) w:=by kernel_rfl
theorem vX(w:World):(Instr.typeAssert .nilIface 194 210 true).run prog w=.ok (.tuple #[.agg #[Vi 0,Vi 0],.bool false]) w:=by kernel_rfl
theorem vY(w:World):(Instr.typeAssert .nilIface 194 212 true).run prog w=.ok (.tuple #[.agg #[Vi 0,.bool false],.bool false]) w:=by kernel_rfl
theorem vZ(w:World):(Instr.typeAssert .nilIface 194 214 true).run prog w=.ok (.tuple #[.agg #[Vi 0,Vi 0],.bool false]) w:=by kernel_rfl
theorem uA(w:World):(Instr.typeAssert .nilIface 194 216 true).run prog w=.ok (.tuple #[.agg #[Vi 0,Zs],.bool false]) w:=by kernel_rfl
theorem uB(w:World):(Instr.typeAssert .nilIface 194 218 true).run prog w=.ok (.tuple #[.agg #[Vi 0,Zs],.bool false]) w:=by kernel_rfl
theorem uC(w:World):(Instr.typeAssert .nilIface 194 220 true).run prog w=.ok (.tuple #[.agg #[Vi 0,Vi 0,Vi 0],.bool false]) w:=by kernel_rfl
theorem uD(w:World):(Instr.typeAssert .nilIface 194 222 true).run prog w=.ok (.tuple #[.agg #[Vi 0,Vi 0,Vi 0,Zs],.bool false]) w:=by kernel_rfl
section
variable (pl nn wa:Int) (a1 a2:OA) (l1 l2 c1 c2:Nat) (w:World)
include pl nn wa a1 a2 l1 l2 c1 c2 w
theorem jg:
 Calls prog 186 #[rq 1 pl nn wa a1 a2 l1 l2 c1 c2] w fun e w'=>e=.returned (.iface 207 (.agg #[Vi pl,Vi nn]))/\Below w.heap.size w w':=by
 have B0:=aa w (.cells #[Vi 1,Vi pl,Vi nn,.slice a1 l1 c1,.slice a2 l2 c2,Vi wa] 86);go_enter func186,ntmps186
 go_wp2;go_ret;exact ⟨rfl,B0⟩
theorem jh:
 Calls prog 186 #[rq 2 pl nn wa a1 a2 l1 l2 c1 c2] w fun e w'=>e=.returned (.iface 208 (.agg #[Vi pl,Vi nn]))/\Below w.heap.size w w':=by
 have B0:=aa w (.cells #[Vi 2,Vi pl,Vi nn,.slice a1 l1 c1,.slice a2 l2 c2,Vi wa] 86);go_enter func186,ntmps186
 go_wp2;go_ret;exact ⟨rfl,B0⟩
theorem ji:
 Calls prog 186 #[rq 3 pl nn wa a1 a2 l1 l2 c1 c2] w fun e w'=>e=.returned (.iface 209 (.agg #[Vi pl,Vi nn]))/\Below w.heap.size w w':=by
 have B0:=aa w (.cells #[Vi 3,Vi pl,Vi nn,.slice a1 l1 c1,.slice a2 l2 c2,Vi wa] 86);go_enter func186,ntmps186
 go_wp2;go_ret;exact ⟨rfl,B0⟩
theorem jj:
 Calls prog 186 #[rq 4 pl nn wa a1 a2 l1 l2 c1 c2] w fun e w'=>e=.returned (.iface 210 (.agg #[Vi pl,Vi nn]))/\Below w.heap.size w w':=by
 have B0:=aa w (.cells #[Vi 4,Vi pl,Vi nn,.slice a1 l1 c1,.slice a2 l2 c2,Vi wa] 86);go_enter func186,ntmps186
 go_wp2;go_ret;exact ⟨rfl,B0⟩
theorem iR:
 Calls prog 186 #[rq 15 pl nn wa a1 a2 l1 l2 c1 c2] w fun e w'=>e=.returned (.iface 216 (.agg #[Vi pl,.slice a2 l2 c2]))/\Below w.heap.size w w':=by
 have B0:=aa w (.cells #[Vi 15,Vi pl,Vi nn,.slice a1 l1 c1,.slice a2 l2 c2,Vi wa] 86);go_enter func186,ntmps186
 go_wp2;go_ret;exact ⟨rfl,B0⟩
theorem iS:
 Calls prog 186 #[rq 16 pl nn wa a1 a2 l1 l2 c1 c2] w fun e w'=>e=.returned (.iface 218 (.agg #[Vi pl,.slice a1 l1 c1]))/\Below w.heap.size w w':=by
 have B0:=aa w (.cells #[Vi 16,Vi pl,Vi nn,.slice a1 l1 c1,.slice a2 l2 c2,Vi wa] 86);go_enter func186,ntmps186
 go_wp2;go_ret;exact ⟨rfl,B0⟩
theorem iT:
 Calls prog 186 #[rq 23 pl nn wa a1 a2 l1 l2 c1 c2] w fun e w'=>e=.returned (.iface 222 (.agg #[Vi pl,Vi nn,Vi wa,.slice a1 l1 c1]))/\Below w.heap.size w w':=by
 have B0:=aa w (.cells #[Vi 23,Vi pl,Vi nn,.slice a1 l1 c1,.slice a2 l2 c2,Vi wa] 86);go_enter func186,ntmps186
 go_wp2;go_ret;exact ⟨rfl,B0⟩
theorem jk(bs:List Bool)(h2:l2=bs.length)(hL:(l2:Int)=1)(s2:be w a2 bs):
 Calls prog 186 #[rq 5 pl nn wa a1 a2 l1 l2 c1 c2] w fun e w'=>e=.returned (.iface 212 (.agg #[Vi pl,.bool (bs.getD 0 false)]))/\Below w.heap.size w w':=by
 have B0:=aa w (.cells #[Vi 5,Vi pl,Vi nn,.slice a1 l1 c1,.slice a2 l2 c2,Vi wa] 86);obtain ⟨b,off,rfl,hb,hc⟩:=b7 (s2.below B0) (show 0<bs.length by omega);have hc0:(w.alloc (.cells #[Vi 5,Vi pl,Vi nn,.slice a1 l1 c1,.slice (some ⟨b,off,none⟩) l2 c2,Vi wa] 86)).cell? ⟨b,off,none⟩=some (.bool (bs.getD 0 false)):=by simpa using hc
 clear hc h2 s2;go_enter func186,ntmps186
 go_wp2;go_quiet (fail)
 go_wp2;go_ret;exact ⟨rfl,ak B0 (cF _ _)⟩
theorem jl(ws:List Int)(h1:l1=ws.length)(hL:(l1:Int)=1)(s1:aZ w a1 ws):
 Calls prog 186 #[rq 6 pl nn wa a1 a2 l1 l2 c1 c2] w fun e w'=>e=.returned (.iface 214 (.agg #[Vi pl,Vi (ws.getD 0 0)]))/\Below w.heap.size w w':=by
 have B0:=aa w (.cells #[Vi 6,Vi pl,Vi nn,.slice a1 l1 c1,.slice a2 l2 c2,Vi wa] 86);obtain ⟨b,off,rfl,hb,hc⟩:=cj (s1.below B0) (show 0<ws.length by omega);have hc0:(w.alloc (.cells #[Vi 6,Vi pl,Vi nn,.slice (some ⟨b,off,none⟩) l1 c1,.slice a2 l2 c2,Vi wa] 86)).cell? ⟨b,off,none⟩=some (Vi (ws.getD 0 0)):=by simpa using hc
 clear hc h1 s1;go_enter func186,ntmps186
 go_wp2;go_quiet (fail)
 go_wp2;go_ret;exact ⟨rfl,ak B0 (cF _ _)⟩
theorem iU(ws:List Int)(h1:l1=ws.length)(hL:(l1:Int)=2)(s1:aZ w a1 ws):
 Calls prog 186 #[rq 22 pl nn wa a1 a2 l1 l2 c1 c2] w fun e w'=>e=.returned (.iface 220 (.agg #[Vi pl,Vi (ws.getD 0 0),Vi (ws.getD 1 0)]))/\Below w.heap.size w w':=by
 have B0:=aa w (.cells #[Vi 22,Vi pl,Vi nn,.slice a1 l1 c1,.slice a2 l2 c2,Vi wa] 86);obtain ⟨b,off,rfl,hb,hc⟩:=cj (s1.below B0) (show 0<ws.length by omega);obtain ⟨b2,off2,e2,hb2,hc2⟩:=cj (s1.below B0) (show 1<ws.length by omega);simp at e2;obtain ⟨rfl,rfl⟩:=e2;have hc0:(w.alloc (.cells #[Vi 22,Vi pl,Vi nn,.slice (some ⟨b,off,none⟩) l1 c1,.slice a2 l2 c2,Vi wa] 86)).cell? ⟨b,off,none⟩=some (Vi (ws.getD 0 0)):=by simpa using hc
 clear hc h1 s1;go_enter func186,ntmps186
 go_wp2;go_quiet (fail)
 go_wp2;go_ret;exact ⟨rfl,ak B0 (cF _ _)⟩
end
theorem mx(pl nn wa:Int)(a1 a2:OA)(l1 l2 c1 c2:Nat)(w:World)(hL:((l2:Int) == 1)=false):
 Calls prog 186 #[rq 5 pl nn wa a1 a2 l1 l2 c1 c2] w fun e w'=>e=.returned (.nilIface)/\Below w.heap.size w w':=by
 have B0:=aa w (.cells #[Vi 5,Vi pl,Vi nn,.slice a1 l1 c1,.slice a2 l2 c2,Vi wa] 86);go_enter func186,ntmps186
 go_wp2;go_ret;exact ⟨rfl,B0⟩
theorem my(pl nn wa:Int)(a1 a2:OA)(l1 l2 c1 c2:Nat)(w:World)(hL:((l1:Int) == 1)=false):
 Calls prog 186 #[rq 6 pl nn wa a1 a2 l1 l2 c1 c2] w fun e w'=>e=.returned (.nilIface)/\Below w.heap.size w w':=by
 have B0:=aa w (.cells #[Vi 6,Vi pl,Vi nn,.slice a1 l1 c1,.slice a2 l2 c2,Vi wa] 86);go_enter func186,ntmps186
 go_wp2;go_ret;exact ⟨rfl,B0⟩
theorem lm(pl nn wa:Int)(a1 a2:OA)(l1 l2 c1 c2:Nat)(w:World)(hL:((l1:Int) == 2)=false):
 Calls prog 186 #[rq 22 pl nn wa a1 a2 l1 l2 c1 c2] w fun e w'=>e=.returned (.nilIface)/\Below w.heap.size w w':=by
 have B0:=aa w (.cells #[Vi 22,Vi pl,Vi nn,.slice a1 l1 c1,.slice a2 l2 c2,Vi wa] 86);go_enter func186,ntmps186
 go_wp2;go_ret;exact ⟨rfl,B0⟩
theorem kr(kd:Int)(pl nn wa:Int)(a1 a2:OA)(l1 l2 c1 c2:Nat)(w:World)(k1:¬ kd=1)(k2:¬ kd=2)(k3:¬ kd=3)(k4:¬ kd=4)(k5:¬ kd=5)(k6:¬ kd=6)(k15:¬ kd=15)(k16:¬ kd=16)(k22:¬ kd=22)(k23:¬ kd=23):
 Calls prog 186 #[rq kd pl nn wa a1 a2 l1 l2 c1 c2] w fun e w'=>e=.returned (.nilIface)/\Below w.heap.size w w':=by
 have B0:=aa w (.cells #[Vi kd,Vi pl,Vi nn,.slice a1 l1 c1,.slice a2 l2 c2,Vi wa] 86);go_enter func186,ntmps186
 go_wp2;go_ret;exact ⟨rfl,B0⟩
theorem l8(pl nn:Int)(w:World)(b:Bool)(hb:(bX pl nn 2000)=b):
 Calls prog 187 #[.iface 207 (.agg #[Vi pl,Vi nn])] w fun e w'=>e=.returned (.bool b)/\Below w.heap.size w w':=by
 have t1:=vz;cases hR:bX pl nn 2000
 ·skip
  obtain rfl:=dQ false hb (by simp [hR]);clear hb;go_enter func187,ntmps187
  go_wp2_with (first|(go_at_call 194;refine (cf _ _ _ _ (by decide) _ (by first|exact hR)).mono ?_;rintro e wx ⟨rfl,rfl⟩))
  go_ret;exact ⟨rfl,aa _ _⟩
 skip
 obtain rfl:=dQ true hb (by simp [hR]);clear hb;go_enter func187,ntmps187
 go_wp2_with (first|(go_at_call 194;refine (cf _ _ _ _ (by decide) _ (by first|exact hR)).mono ?_;rintro e wx ⟨rfl,rfl⟩))
 go_ret;exact ⟨rfl,aa _ _⟩
theorem ma(pl nn:Int)(w:World)(b:Bool)(hb:(bX pl nn 2000)=b):
 Calls prog 187 #[.iface 208 (.agg #[Vi pl,Vi nn])] w fun e w'=>e=.returned (.bool b)/\Below w.heap.size w w':=by
 have t1:=vA;have t2:=vB;cases hR:bX pl nn 2000
 ·skip
  obtain rfl:=dQ false hb (by simp [hR]);clear hb;go_enter func187,ntmps187
  go_wp2_with (first|(go_at_call 194;refine (cf _ _ _ _ (by decide) _ (by first|exact hR)).mono ?_;rintro e wx ⟨rfl,rfl⟩))
  go_ret;exact ⟨rfl,aa _ _⟩
 skip
 obtain rfl:=dQ true hb (by simp [hR]);clear hb;go_enter func187,ntmps187
 go_wp2_with (first|(go_at_call 194;refine (cf _ _ _ _ (by decide) _ (by first|exact hR)).mono ?_;rintro e wx ⟨rfl,rfl⟩))
 go_ret;exact ⟨rfl,aa _ _⟩
theorem mc(pl nn:Int)(w:World)(b:Bool)(hb:(bX pl nn 125)=b):
 Calls prog 187 #[.iface 209 (.agg #[Vi pl,Vi nn])] w fun e w'=>e=.returned (.bool b)/\Below w.heap.size w w':=by
 have t1:=vC;have t2:=vD;have t3:=vE;cases hR:bX pl nn 125
 ·skip
  obtain rfl:=dQ false hb (by simp [hR]);clear hb;go_enter func187,ntmps187
  go_wp2_with (first|(go_at_call 194;refine (cf _ _ _ _ (by decide) _ (by first|exact hR)).mono ?_;rintro e wx ⟨rfl,rfl⟩))
  go_ret;exact ⟨rfl,aa _ _⟩
 skip
 obtain rfl:=dQ true hb (by simp [hR]);clear hb;go_enter func187,ntmps187
 go_wp2_with (first|(go_at_call 194;refine (cf _ _ _ _ (by decide) _ (by first|exact hR)).mono ?_;rintro e wx ⟨rfl,rfl⟩))
 go_ret;exact ⟨rfl,aa _ _⟩
theorem me(pl nn:Int)(w:World)(b:Bool)(hb:(bX pl nn 125)=b):
 Calls prog 187 #[.iface 210 (.agg #[Vi pl,Vi nn])] w fun e w'=>e=.returned (.bool b)/\Below w.heap.size w w':=by
 have t1:=vF;have t2:=vG;have t3:=vH;have t4:=vI;cases hR:bX pl nn 125
 ·skip
  obtain rfl:=dQ false hb (by simp [hR]);clear hb;go_enter func187,ntmps187
  go_wp2_with (first|(go_at_call 194;refine (cf _ _ _ _ (by decide) _ (by first|exact hR)).mono ?_;rintro e wx ⟨rfl,rfl⟩))
  go_ret;exact ⟨rfl,aa _ _⟩
 skip
 obtain rfl:=dQ true hb (by simp [hR]);clear hb;go_enter func187,ntmps187
 go_wp2_with (first|(go_at_call 194;refine (cf _ _ _ _ (by decide) _ (by first|exact hR)).mono ?_;rintro e wx ⟨rfl,rfl⟩))
 go_ret;exact ⟨rfl,aa _ _⟩
theorem mf(pl:Int)(x:Bool)(w:World)(b:Bool)(hb:(aB pl 0 65535)=b):
 Calls prog 187 #[.iface 212 (.agg #[Vi pl,.bool x])] w fun e w'=>e=.returned (.bool b)/\Below w.heap.size w w':=by
 have t1:=vJ;have t2:=vK;have t3:=vL;have t4:=vM;have t5:=vN;cases hP:aB pl 0 65535
 ·skip
  obtain rfl:=dQ false hb (by simp [hP]);clear hb;go_enter func187,ntmps187
  go_wp2_with (first|(go_at_call 106;refine (bH _ _ _ (by first|exact hP)).mono ?_;rintro e wx ⟨rfl,rfl⟩))
  go_ret;exact ⟨rfl,aa _ _⟩
 skip
 obtain rfl:=dQ true hb (by simp [hP]);clear hb;go_enter func187,ntmps187
 go_wp2_with (first|(go_at_call 106;refine (bH _ _ _ (by first|exact hP)).mono ?_;rintro e wx ⟨rfl,rfl⟩))
 go_ret;exact ⟨rfl,aa _ _⟩
theorem mg(pl x:Int)(w:World)(b:Bool)(hb:(aB pl 0 65535 && aB x 0 65535)=b):
 Calls prog 187 #[.iface 214 (.agg #[Vi pl,Vi x])] w fun e w'=>e=.returned (.bool b)/\Below w.heap.size w w':=by
 have t1:=vO;have t2:=vP;have t3:=vQ;have t4:=vR;have t5:=vS;have t6:=vT;cases hP:aB pl 0 65535
 ·skip
  obtain rfl:=dQ false hb (by simp [hP]);clear hb;go_enter func187,ntmps187
  go_wp2_with (first|(go_at_call 106;refine (bH _ _ _ (by first|exact hP)).mono ?_;rintro e wx ⟨rfl,rfl⟩))
  go_ret;exact ⟨rfl,aa _ _⟩
 skip
 cases hX:aB x 0 65535
 ·skip
  obtain rfl:=dQ false hb (by simp [hP,hX]);clear hb;go_enter func187,ntmps187
  go_wp2_with (first|(go_at_call 106;refine (bH _ _ _ (by first|exact hP|exact hX)).mono ?_;rintro e wx ⟨rfl,rfl⟩))
  go_ret;exact ⟨rfl,aa _ _⟩
 skip
 obtain rfl:=dQ true hb (by simp [hP,hX]);clear hb;go_enter func187,ntmps187
 go_wp2_with (first|(go_at_call 106;refine (bH _ _ _ (by first|exact hP|exact hX)).mono ?_;rintro e wx ⟨rfl,rfl⟩))
 go_ret;exact ⟨rfl,aa _ _⟩
theorem kt(pl:Int)(a2:OA)(l2 c2:Nat)(w:World)(b:Bool)(hb:(bX pl (l2:Int) 1968)=b):
 Calls prog 187 #[.iface 216 (.agg #[Vi pl,.slice a2 l2 c2])] w fun e w'=>e=.returned (.bool b)/\Below w.heap.size w w':=by
 have t1:=tX;have t2:=tY;have t3:=tZ;have t4:=ua;have t5:=ub;have t6:=uc;have t15:=sm;cases hR:bX pl (l2:Int) 1968
 ·skip
  obtain rfl:=dQ false hb (by simp [hR]);clear hb;go_enter func187,ntmps187
  go_wp2_with (first|(go_at_call 194;refine (cf _ _ _ _ (by decide) _ (by first|exact hR)).mono ?_;rintro e wx ⟨rfl,rfl⟩))
  go_ret;exact ⟨rfl,aa _ _⟩
 skip
 obtain rfl:=dQ true hb (by simp [hR]);clear hb;go_enter func187,ntmps187
 go_wp2_with (first|(go_at_call 194;refine (cf _ _ _ _ (by decide) _ (by first|exact hR)).mono ?_;rintro e wx ⟨rfl,rfl⟩))
 go_ret;exact ⟨rfl,aa _ _⟩
theorem ku(pl:Int)(a1:OA)(l1 c1:Nat)(ws:List Int)(w:World)(h1:l1=ws.length)(s1:aZ w a1 ws)(hl1:ws.length<= 2000000)(b:Bool)(hb:(bX pl (l1:Int) 123 && ce ws)=b):
 Calls prog 187 #[.iface 218 (.agg #[Vi pl,.slice a1 l1 c1])] w fun e w'=>e=.returned (.bool b)/\Below w.heap.size w w':=by
 have t1:=ud;have t2:=ue;have t3:=ug;have t4:=uh;have t5:=ui;have t6:=uj;have t15:=sq;have t16:=su;have H1:Hid (l1=ws.length):=h1;have S1:Hid (aZ (w.alloc (.cells #[Vi pl,.slice a1 l1 c1] 218)) a1 ws):=s1.below (aa _ _);clear h1 s1;cases hR:bX pl (l1:Int) 123
 ·skip
  obtain rfl:=dQ false hb (by simp [hR]);clear hb;go_enter func187,ntmps187
  go_wp2_with (first|(go_at_call 194;refine (cf _ _ _ _ (by decide) _ (by first|exact hR)).mono ?_;rintro e wx ⟨rfl,rfl⟩))
  go_ret;exact ⟨rfl,aa _ _⟩
 skip
 cases hW:ce ws
 ·skip
  obtain rfl:=dQ false hb (by simp [hR,hW]);clear hb;go_enter func187,ntmps187
  go_wp2_with (first|(go_at_call 194;refine (cf _ _ _ _ (by decide) _ (by first|exact hR)).mono ?_;rintro e wx ⟨rfl,rfl⟩)|(go_at_call 195;refine (eI _ _ _ ws _ H1.out S1.out hl1 _ hW).mono ?_;rintro e wx ⟨rfl,rfl⟩))
  go_ret;exact ⟨rfl,aa _ _⟩
 skip
 obtain rfl:=dQ true hb (by simp [hR,hW]);clear hb;go_enter func187,ntmps187
 go_wp2_with (first|(go_at_call 194;refine (cf _ _ _ _ (by decide) _ (by first|exact hR)).mono ?_;rintro e wx ⟨rfl,rfl⟩)|(go_at_call 195;refine (eI _ _ _ ws _ H1.out S1.out hl1 _ hW).mono ?_;rintro e wx ⟨rfl,rfl⟩))
 go_ret;exact ⟨rfl,aa _ _⟩
theorem kw(pl x y:Int)(w:World)(b:Bool)(hb:(aB pl 0 65535 && (aB x 0 65535 && aB y 0 65535))=b):
 Calls prog 187 #[.iface 220 (.agg #[Vi pl,Vi x,Vi y])] w fun e w'=>e=.returned (.bool b)/\Below w.heap.size w w':=by
 have t1:=uk;have t2:=ul;have t3:=um;have t4:=uo;have t5:=uq;have t6:=ur;have t15:=sw;have t16:=sx;have t22:=sy;cases hP:aB pl 0 65535
 ·skip
  obtain rfl:=dQ false hb (by simp [hP]);clear hb;go_enter func187,ntmps187
  go_wp2_with (first|(go_at_call 106;refine (bH _ _ _ (by first|exact hP)).mono ?_;rintro e wx ⟨rfl,rfl⟩))
  go_ret;exact ⟨rfl,aa _ _⟩
 skip
 cases hX:aB x 0 65535
 ·skip
  obtain rfl:=dQ false hb (by simp [hP,hX]);clear hb;go_enter func187,ntmps187
  go_wp2_with (first|(go_at_call 106;refine (bH _ _ _ (by first|exact hP|exact hX)).mono ?_;rintro e wx ⟨rfl,rfl⟩))
  go_ret;exact ⟨rfl,aa _ _⟩
 skip
 cases hY:aB y 0 65535
 ·skip
  obtain rfl:=dQ false hb (by simp [hP,hX,hY]);clear hb;go_enter func187,ntmps187
  go_wp2_with (first|(go_at_call 106;refine (bH _ _ _ (by first|exact hP|exact hX|exact hY)).mono ?_;rintro e wx ⟨rfl,rfl⟩))
  go_ret;exact ⟨rfl,aa _ _⟩
 skip
 obtain rfl:=dQ true hb (by simp [hP,hX,hY]);clear hb;go_enter func187,ntmps187
 go_wp2_with (first|(go_at_call 106;refine (bH _ _ _ (by first|exact hP|exact hX|exact hY)).mono ?_;rintro e wx ⟨rfl,rfl⟩))
 go_ret;exact ⟨rfl,aa _ _⟩
theorem kx(pl nn wa:Int)(a1:OA)(l1 c1:Nat)(ws:List Int)(w:World)(h1:l1=ws.length)(s1:aZ w a1 ws)(hl1:ws.length<= 2000000)(b:Bool)(hb:(bX pl nn 125 && (bX wa (l1:Int) 121 && ce ws))=b):
 Calls prog 187 #[.iface 222 (.agg #[Vi pl,Vi nn,Vi wa,.slice a1 l1 c1])] w fun e w'=>e=.returned (.bool b)/\Below w.heap.size w w':=by
 have t1:=ut;have t2:=uv;have t3:=uw;have t4:=ux;have t5:=uy;have t6:=uz;have t15:=sA;have t16:=sB;have t22:=sC;have t23:=sD;have H1:Hid (l1=ws.length):=h1;have S1:Hid (aZ (w.alloc (.cells #[Vi pl,Vi nn,Vi wa,.slice a1 l1 c1] 222)) a1 ws):=s1.below (aa _ _);clear h1 s1;cases hR:bX pl nn 125
 ·skip
  obtain rfl:=dQ false hb (by simp [hR]);clear hb;go_enter func187,ntmps187
  go_wp2_with (first|(go_at_call 194;refine (cf _ _ _ _ (by decide) _ (by first|exact hR)).mono ?_;rintro e wx ⟨rfl,rfl⟩))
  go_ret;exact ⟨rfl,aa _ _⟩
 skip
 cases hQ:bX wa (l1:Int) 121
 ·skip
  obtain rfl:=dQ false hb (by simp [hR,hQ]);clear hb;go_enter func187,ntmps187
  go_wp2_with (first|(go_at_call 194;refine (cf _ _ _ _ (by decide) _ (by first|exact hR|exact hQ)).mono ?_;rintro e wx ⟨rfl,rfl⟩))
  go_ret;exact ⟨rfl,aa _ _⟩
 skip
 cases hW:ce ws
 ·skip
  obtain rfl:=dQ false hb (by simp [hR,hQ,hW]);clear hb;go_enter func187,ntmps187
  go_wp2_with (first|(go_at_call 194;refine (cf _ _ _ _ (by decide) _ (by first|exact hR|exact hQ)).mono ?_;rintro e wx ⟨rfl,rfl⟩)|(go_at_call 195;refine (eI _ _ _ ws _ H1.out S1.out hl1 _ hW).mono ?_;rintro e wx ⟨rfl,rfl⟩))
  go_ret;exact ⟨rfl,aa _ _⟩
 skip
 obtain rfl:=dQ true hb (by simp [hR,hQ,hW]);clear hb;go_enter func187,ntmps187
 go_wp2_with (first|(go_at_call 194;refine (cf _ _ _ _ (by decide) _ (by first|exact hR|exact hQ)).mono ?_;rintro e wx ⟨rfl,rfl⟩)|(go_at_call 195;refine (eI _ _ _ ws _ H1.out S1.out hl1 _ hW).mono ?_;rintro e wx ⟨rfl,rfl⟩))
 go_ret;exact ⟨rfl,aa _ _⟩
theorem gN(w:World):Calls prog 187 #[.nilIface] w fun e w'=>e=.returned (.bool false)/\Below w.heap.size w w':=by
 have t1:=vU;have t2:=vV;have t3:=vW;have t4:=vX;have t5:=vY;have t6:=vZ;have t15:=uA;have t16:=uB;have t22:=uC;have t23:=uD;go_enter func187,ntmps187
 go_wp2;go_ret;exact ⟨rfl,Br⟩
end Go.Proofs.YtohikbpolofklaaGreat

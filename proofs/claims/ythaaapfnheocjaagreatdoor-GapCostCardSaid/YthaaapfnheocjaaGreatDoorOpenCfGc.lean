/- A config that came in by value, an array of two numbers: opened. No program is named here. -/
import Derived.Test.YthaaapfnheocjaaGreatDoorP05Gc
import Derived.Test.YthaaapfnheocjaaGreatDoorM08Gc
import Derived.Test.YthaaapfnheocjaaGreatDoorTkGc
set_option linter.unusedVariables false
set_option linter.unusedSimpArgs false
namespace Go.Proofs.YthaaapfnheocjaaGreatDoor
open Go.ChangeShapes Go.WideShapes Go.ChangeAt Go.RowKit Go.Deep
section
variable {H:Type} {enc:TypeId×Value->H} {P:Program} {w:World} {base:Nat} {spare:Nat->Bool} {held:Bool}
theorem bounds_u8 {n:Int} (h:(Lit.int .u8 n).wf=true):0<=n/\n<=255:=by
 simp [Lit.wf,IntKind.min,IntKind.max,IntKind.signed,IntKind.bits] at h
 omega
theorem open_conf {r:Reach} {b0:Nat} {t:TypeId} {f0 f1 f2 f3 f4 f5 f6 f7 f8:Field} {v:Value} {d:DataW H} {p:List MemPlace} (hs:P.underlying t=some (.struct #[f0,f1,f2,f3,f4,f5,f6,f7,f8])) (hone:oneCellFields P #[f0,f1,f2,f3,f4,f5,f6,f7,f8]=true) (hC:P.cellsOf t=9)
  (t0:P.underlying f0.type=some (.int .u8)) (t1:P.underlying f1.type=some (.int .i64)) (t2:P.underlying f2.type=some (.int .i64)) (t3:P.underlying f3.type=some (.int .i64)) (t4:P.underlying f4.type=some (.int .i64)) (t5:P.underlying f5.type=some (.int .i64)) (t6:P.underlying f6.type=some (.int .i64)) (t7:P.underlying f7.type=some (.int .i64)) (t8:P.underlying f8.type=some (.int .i64))
  (hv:Value.okWide P w r b0 t v) (h:DataW.Trod enc P w base spare held t v d p) :
  ∃ c:Cf,v=cfv c/\c.In:=by
 obtain⟨cs,rfl,hsz,hf⟩:=open_fields hs hone hC hv h;obtain⟨u0,y0,n0,g0,r0⟩:=hf 0 f0 rfl;obtain⟨u1,y1,n1,g1,r1⟩:=hf 1 f1 rfl;obtain⟨u2,y2,n2,g2,r2⟩:=hf 2 f2 rfl;obtain⟨u3,y3,n3,g3,r3⟩:=hf 3 f3 rfl;obtain⟨u4,y4,n4,g4,r4⟩:=hf 4 f4 rfl;obtain⟨u5,y5,n5,g5,r5⟩:=hf 5 f5 rfl;obtain⟨u6,y6,n6,g6,r6⟩:=hf 6 f6 rfl;obtain⟨u7,y7,n7,g7,r7⟩:=hf 7 f7 rfl;obtain⟨u8,y8,n8,g8,r8⟩:=hf 8 f8 rfl
 have hcs:cs=#[u0,u1,u2,u3,u4,u5,u6,u7,u8]:=by
  obtain⟨l⟩:=cs
  match l,hsz with
  | [c0,c1,c2,c3,c4,c5,c6,c7,c8],_ =>
   simp at g0 g1 g2 g3 g4 g5 g6 g7 g8
   subst g0 g1 g2 g3 g4 g5 g6 g7 g8
   rfl
 subst hcs;obtain⟨z0,e0,_,w0⟩:=DataW.trod_int t0 r0
 injection e0 with e0 _
 obtain⟨z1,e1,_,w1⟩:=DataW.trod_int t1 r1
 injection e1 with e1 _
 obtain⟨z2,e2,_,w2⟩:=DataW.trod_int t2 r2
 injection e2 with e2 _
 obtain⟨z3,e3,_,w3⟩:=DataW.trod_int t3 r3
 injection e3 with e3 _
 obtain⟨z4,e4,_,w4⟩:=DataW.trod_int t4 r4
 injection e4 with e4 _
 obtain⟨z5,e5,_,w5⟩:=DataW.trod_int t5 r5
 injection e5 with e5 _
 obtain⟨z6,e6,_,w6⟩:=DataW.trod_int t6 r6
 injection e6 with e6 _
 obtain⟨z7,e7,_,w7⟩:=DataW.trod_int t7 r7
 injection e7 with e7 _
 obtain⟨z8,e8,_,w8⟩:=DataW.trod_int t8 r8
 injection e8 with e8 _
 subst e0 e1 e2 e3 e4 e5 e6 e7 e8;exact⟨⟨z0,z1,z2,z3,z4,z5,z6,z7,z8⟩,rfl,⟨(bounds_u8 w0).1,(bounds_u8 w0).2,bounds_i64 w1,bounds_i64 w2,bounds_i64 w3,bounds_i64 w4,bounds_i64 w5,bounds_i64 w6,bounds_i64 w7,bounds_i64 w8⟩⟩
end
end Go.Proofs.YthaaapfnheocjaaGreatDoor

/- Lists of keys that came in, opened. -/
import Derived.Test.YtpeckljoannolaaGreatDoorRows
import Derived.Test.YtpeckljoannolaaGreatDoorM09Ot
import Derived.ProofKit
import Derived.LaidMore
import Derived.OpenShut
import Derived.Stop.Joined
import Derived.Test.YtpeckljoannolaaGreatDoorP05Ot
import Derived.Test.YtpeckljoannolaaGreatDoorM08Ot
import Derived.Test.YtpeckljoannolaaGreatDoorS15Ot
import Derived.Test.YtpeckljoannolaaGreatDoorTkOt
set_option linter.unusedVariables false
set_option linter.unusedSimpArgs false
namespace Go.Proofs.YtpeckljoannolaaGreatDoor
open Go.ChangeShapes Go.WideShapes Go.ChangeAt Go.WideMaps Go.WideElems Go.RowKit
def laidTab:List (String×DataW Unit):=[(Rows.omComparesRow.named.headD default,Rows.laid_math_bits_deBruijn64tab)]
theorem gTab:Tryz.prog.globalNamed (Rows.omComparesRow.named.headD default)=some 0:=by kernel_rfl
theorem tTab:(Tryz.prog.globals[0]?).map (·.type)=some 229:=by kernel_rfl
theorem c5:Tryz.prog.cellsOf 5=1:=by kernel_rfl
theorem door_met (os:Os) (args:Array Value):laidMetH Tryz.prog laidTab ((World.doorLaid Tryz.prog 400 os).forCall (fun _ _=>0) ⟨#[],args,[]⟩).memory :=
 laidMetH_of_parts3 (fuel:=8) (laidMet_of_run' 8 (by kernel_rfl) (by kernel_rfl)) (by kernel_rfl) (by kernel_rfl)
theorem datum_at:∀ j,j < 64->(Rows.laid_math_bits_deBruijn64tab:DataW Unit)=.agg (Lib.deBruijn64tab.map fun x:Nat=>.lit (.int .u8 (x:Int))):=by intro j _;rfl
theorem tab_of_laid {W:World} (h:laidMetH Tryz.prog laidTab W):Tab W:=by
 rw [MakeChecks.laidMetH_plain _ _ _ (by kernel_rfl)] at h;obtain⟨ps,⟨g0,t0,cs0,f0,p0,q0,hg0,ht0,hv0,hd0,_,_⟩,_,_⟩:=h;obtain rfl:=Option.some.inj (gTab.symm.trans hg0);obtain rfl:=Option.some.inj (tTab.symm.trans ht0);obtain⟨xs,m1,_,hx1,hlen,hn,hel⟩:=DataW.trod_array Tryz.underlying229 hd0
 simp only [Prod.mk.injEq] at hx1
 have hcell:∀ j,j < 64->W.cell? ⟨0,j,none⟩=some (.int .u8 (Lib.deBruijn64tab.getD j 0)):=by
  intro j hj;have h1:=hel j hj;rw [List.getElem?_eq_getElem (by omega)] at h1;obtain⟨z,hz,hxz,_⟩:=DataW.trod_int Tryz.underlying5 h1;rw [c5,Nat.mul_one] at hz
  have hcj:cs0[j]?=some (.int .u8 z):=by
   have h2:(cs0.toList.drop j)[0]?=some (.int .u8 z):=by
    have h3:=congrArg (fun l=>l[0]?) hz
    simpa [List.getElem?_take] using h3
   simpa using h2
  rw [World.var?_cell hg0 hv0 j,hcj];have hd:=hx1.1;rw [datum_at 0 (by decide)] at hd
  injection hd with hd
  have h4:=congrArg (fun l=>l[j]?) hd
  simp only [List.getElem?_map] at h4
  rw [List.getElem?_eq_getElem (show j < xs.length by omega)] at h4
  have hjt:j < Lib.deBruijn64tab.length:=by simpa [Lib.deBruijn64tab] using hj
  rw [List.getElem?_eq_getElem hjt,hxz] at h4
  simp only [Option.map_some,Option.some.injEq,DataW.lit.injEq,Lit.int.injEq,true_and] at h4
  rw [List.getD_eq_getElem?_getD,List.getElem?_eq_getElem hjt,Option.getD_some,h4]
 refine⟨?_,fun j hj=>hcell j (by simpa [Lib.deBruijn64tab] using hj)⟩;have:=hcell 0 (by decide)
 apply Nat.lt_of_not_le
 intro hle
 simp only [World.cell?] at this
 rw [Array.getElem?_eq_none hle] at this
 simp at this
end Go.Proofs.YtpeckljoannolaaGreatDoor
namespace Go.Proofs.YtpeckljoannolaaGreatDoor
open Go.ChangeShapes Go.WideShapes Go.ChangeAt Go.RowKit Go.Deep
section
variable {H:Type} {enc:TypeId×Value->H} {P:Program} {w:World} {base:Nat} {spare:Nat->Bool} {held:Bool}
theorem bounds_u8 {n:Int} (h:(Lit.int .u8 n).wf=true):0<=n/\n<=255:=by
 simp [Lit.wf,IntKind.min,IntKind.max,IntKind.signed,IntKind.bits] at h
 omega
end
end Go.Proofs.YtpeckljoannolaaGreatDoor
namespace Go.Proofs.YtpeckljoannolaaGreatDoor
open Go.ChangeShapes Go.WideShapes Go.ChangeAt Go.RowKit Go.Deep
section
variable {H:Type} {enc:TypeId×Value->H} {P:Program} {w:World} {base:Nat} {spare:Nat->Bool} {held:Bool}
theorem open_fieldsL {t:TypeId} {fs:Array Field} {l:List Value} {m:Nat} {y:DataW H×List MemPlace} (hs:P.underlying t=some (.struct fs)) (hone:oneCellFields P fs=true) (hC:P.cellsOf t=fs.size)
  (h:DataW.trod enc P w base spare held m t l=some y) :
  l.length=fs.size/\∀ (j:Nat) (f:Field),fs[j]?=some f->∃ (u:Value) (y:DataW H×List MemPlace) (n:Nat),l[j]?=some u/\DataW.trod enc P w base spare held n f.type [u]=some y:=by
 obtain⟨xs,n,_,hx,hsz,hlen,hg⟩:=DataW.trod_struct hs h;have hsz':l.length=fs.size:=hsz.trans hC;refine⟨hsz',fun j f hj=>?_⟩;obtain⟨ho,hk⟩:=hone_of hone j f hj
 have hjl:j < l.length:=by rw [hsz'];exact (Array.getElem?_eq_some_iff.1 hj).1
 have h1:=hg j f hj;rw [ho,hk] at h1
 have e:(l.drop j).take 1=[l[j]]:=by
  rw [List.drop_eq_getElem_cons hjl]
  rfl
 rw [e] at h1
 have hjx:j < xs.length:=by rw [hlen];exact (Array.getElem?_eq_some_iff.1 hj).1
 rw [List.getElem?_eq_getElem hjx] at h1;exact⟨l[j],xs[j],n,List.getElem?_eq_getElem hjl,h1⟩
theorem open_confL {t:TypeId} {f0 f1 f2 f3 f4 f5 f6 f7 f8:Field} {l:List Value} {m:Nat} {y:DataW H×List MemPlace} (hs:P.underlying t=some (.struct #[f0,f1,f2,f3,f4,f5,f6,f7,f8])) (hone:oneCellFields P #[f0,f1,f2,f3,f4,f5,f6,f7,f8]=true) (hC:P.cellsOf t=9)
  (t0:P.underlying f0.type=some (.int .u8)) (t1:P.underlying f1.type=some (.int .i64)) (t2:P.underlying f2.type=some (.int .i64)) (t3:P.underlying f3.type=some (.int .i64)) (t4:P.underlying f4.type=some (.int .i64)) (t5:P.underlying f5.type=some (.int .i64)) (t6:P.underlying f6.type=some (.int .i64)) (t7:P.underlying f7.type=some (.int .i64)) (t8:P.underlying f8.type=some (.int .i64))
  (h:DataW.trod enc P w base spare held m t l=some y) :
  ∃ c:Cf,l=[.int .u8 c.tag,.int .i64 c.most,.int .i64 c.seg,.int .i64 c.least,.int .i64 c.den,.int .i64 c.ll,.int .i64 c.rl,.int .i64 c.rh,.int .i64 c.lh]/\c.In:=by
 obtain⟨hsz,hf⟩:=open_fieldsL hs hone hC h;obtain⟨u0,y0,n0,g0,r0⟩:=hf 0 f0 rfl;obtain⟨u1,y1,n1,g1,r1⟩:=hf 1 f1 rfl;obtain⟨u2,y2,n2,g2,r2⟩:=hf 2 f2 rfl;obtain⟨u3,y3,n3,g3,r3⟩:=hf 3 f3 rfl;obtain⟨u4,y4,n4,g4,r4⟩:=hf 4 f4 rfl;obtain⟨u5,y5,n5,g5,r5⟩:=hf 5 f5 rfl;obtain⟨u6,y6,n6,g6,r6⟩:=hf 6 f6 rfl;obtain⟨u7,y7,n7,g7,r7⟩:=hf 7 f7 rfl;obtain⟨u8,y8,n8,g8,r8⟩:=hf 8 f8 rfl
 have hcs:l=[u0,u1,u2,u3,u4,u5,u6,u7,u8]:=by
  match l,hsz with
  | [c0,c1,c2,c3,c4,c5,c6,c7,c8],_ =>
   simp at g0 g1 g2 g3 g4 g5 g6 g7 g8
   subst g0 g1 g2 g3 g4 g5 g6 g7 g8
   rfl
 subst hcs;obtain⟨z0,e0,_,w0⟩:=DataW.trod_int t0 r0
 injection e0 with e0 _
 obtain⟨z1,e1,_,w1⟩:=DataW.trod_int t1 r1
 injection e1 with e1 _
 obtain⟨z2,e2,_,w2⟩:=DataW.trod_int t2 r2
 injection e2 with e2 _
 obtain⟨z3,e3,_,w3⟩:=DataW.trod_int t3 r3
 injection e3 with e3 _
 obtain⟨z4,e4,_,w4⟩:=DataW.trod_int t4 r4
 injection e4 with e4 _
 obtain⟨z5,e5,_,w5⟩:=DataW.trod_int t5 r5
 injection e5 with e5 _
 obtain⟨z6,e6,_,w6⟩:=DataW.trod_int t6 r6
 injection e6 with e6 _
 obtain⟨z7,e7,_,w7⟩:=DataW.trod_int t7 r7
 injection e7 with e7 _
 obtain⟨z8,e8,_,w8⟩:=DataW.trod_int t8 r8
 injection e8 with e8 _
 subst e0 e1 e2 e3 e4 e5 e6 e7 e8;exact⟨⟨z0,z1,z2,z3,z4,z5,z6,z7,z8⟩,rfl,⟨(bounds_u8 w0).1,(bounds_u8 w0).2,bounds_i64 w1,bounds_i64 w2,bounds_i64 w3,bounds_i64 w4,bounds_i64 w5,bounds_i64 w6,bounds_i64 w7,bounds_i64 w8⟩⟩
theorem open_slotsL {t tw tk tc:TypeId} {f0 f1 f2 f3 f4 f5:Field} {l:List Value} {m:Nat} {y:DataW H×List MemPlace} (hs:P.underlying t=some (.struct #[f0,f1,f2,f3,f4,f5])) (hone:oneCellFields P #[f0,f1,f2,f3,f4,f5]=true) (hC:P.cellsOf t=6)
  (t0:P.underlying f0.type=some (.int .i64)) (t1:P.underlying f1.type=some (.slice tw)) (t2:P.underlying f2.type=some (.slice tk)) (t3:P.underlying f3.type=some (.slice tk)) (t4:P.underlying f4.type=some (.slice tc)) (t5:P.underlying f5.type=some (.int .u64))
  (ew:P.underlying tw=some (.int .u64)) (cw:P.cellsOf tw=1) (ek:P.underlying tk=some (.int .i64)) (ck:P.cellsOf tk=1) (ec:P.underlying tc=some (.int .i64)) (cc:P.cellsOf tc=1)
  (h:DataW.trod enc P w base spare held m t l=some y) :
  ∃ (s:Sl) (a:Ads),l=[.int .i64 s.seg,.slice a.w s.words.length a.cw,.slice a.k s.keys.length a.ck,.slice a.v s.vals.length a.cv,.slice a.c s.counts.length a.cc,.int .u64 (s.laid:Int)]/\Held w s a/\s.Ok:=by
 obtain⟨hsz,hf⟩:=open_fieldsL hs hone hC h;obtain⟨u0,y0,n0,g0,r0⟩:=hf 0 f0 rfl;obtain⟨u1,y1,n1,g1,r1⟩:=hf 1 f1 rfl;obtain⟨u2,y2,n2,g2,r2⟩:=hf 2 f2 rfl;obtain⟨u3,y3,n3,g3,r3⟩:=hf 3 f3 rfl;obtain⟨u4,y4,n4,g4,r4⟩:=hf 4 f4 rfl;obtain⟨u5,y5,n5,g5,r5⟩:=hf 5 f5 rfl
 have hcs:l=[u0,u1,u2,u3,u4,u5]:=by
  match l,hsz with
  | [c0,c1,c2,c3,c4,c5],_ =>
   simp at g0 g1 g2 g3 g4 g5
   subst g0 g1 g2 g3 g4 g5
   rfl
 subst hcs;obtain⟨z0,e0,_,w0⟩:=DataW.trod_int t0 r0;obtain⟨z5,e5,_,w5⟩:=DataW.trod_int t5 r5
 injection e0 with e0 _
 injection e5 with e5 _
 subst e0 e5;obtain⟨a1,c1,q1,rfl,l1,k1,m1,v1,x1⟩:=open_row t1 ew cw r1;obtain⟨a2,c2,q2,rfl,l2,k2,m2,v2,x2⟩:=open_row t2 ek ck r2;obtain⟨a3,c3,q3,rfl,l3,k3,m3,v3,x3⟩:=open_row t3 ek ck r3;obtain⟨a4,c4,q4,rfl,l4,k4,m4,v4,x4⟩:=open_row t4 ec cc r4;obtain⟨ws,rfl,hw⟩:=nats_of k1;rw [ints_length] at m1 v1;obtain⟨hu0,hu1⟩:=bounds_u64 w5;refine⟨⟨z0,ws,q2,q3,q4,z5.toNat⟩,⟨a1,a2,a3,a4,c1,c2,c3,c4⟩,?_,⟨l1,l2,l3,l4,⟨m1,m2,m3,m4,v1,v2,v3,v4⟩⟩,⟨bounds_i64 w0,hw,all64_of k2,all64_of k3,all64_of k4,by show z5.toNat < _;omega⟩⟩;rw [ints_length,show ((z5.toNat:Nat):Int)=z5 from by omega]
theorem open_handlesL {t te:TypeId} {f0 f1:Field} {l:List Value} {m:Nat} {y:DataW H×List MemPlace} (hs:P.underlying t=some (.struct #[f0,f1])) (hone:oneCellFields P #[f0,f1]=true) (hC:P.cellsOf t=2)
  (t0:P.underlying f0.type=some (.slice te)) (t1:P.underlying f1.type=some (.slice te)) (ee:P.underlying te=some (.int .i64)) (ce:P.cellsOf te=1)
  (h:DataW.trod enc P w base spare held m t l=some y) :
  ∃ (x:Ht) (A:HAds),l=[.slice A.g x.gens.length A.cg,.slice A.a x.ats.length A.ca]/\HHeld w x A/\x.Ok:=by
 obtain⟨hsz,hf⟩:=open_fieldsL hs hone hC h;obtain⟨u0,y0,n0,g0,r0⟩:=hf 0 f0 rfl;obtain⟨u1,y1,n1,g1,r1⟩:=hf 1 f1 rfl
 have hcs:l=[u0,u1]:=by
  match l,hsz with
  | [c0,c1],_ =>
   simp at g0 g1
   subst g0 g1
   rfl
 subst hcs;obtain⟨a0,c0,q0,rfl,l0,k0,m0,v0,x0⟩:=open_row t0 ee ce r0;obtain⟨a1,c1,q1,rfl,l1,k1,m1,v1,x1⟩:=open_row t1 ee ce r1;exact⟨⟨q0,q1⟩,⟨a0,a1,c0,c1⟩,rfl,⟨l0,l1,⟨m0,m1,v0,v1⟩⟩,⟨all64_of k0,all64_of k1⟩⟩
theorem open_order {r:Reach} {b0:Nat} {t tw tk tc te:TypeId} {f0 f1 f2 f3 c0 c1 c2 c3 c4 c5 c6 c7 c8 s0 s1 s2 s3 s4 s5 h0 h1:Field} {v:Value} {d:DataW H} {p:List MemPlace} (hs:P.underlying t=some (.struct #[f0,f1,f2,f3])) (hC:P.cellsOf t=18)
  (o0:f0.offset=0/\P.cellsOf f0.type=9) (o1:f1.offset=9/\P.cellsOf f1.type=6) (o2:f2.offset=15/\P.cellsOf f2.type=2) (o3:f3.offset=17/\P.cellsOf f3.type=1)
  (hs0:P.underlying f0.type=some (.struct #[c0,c1,c2,c3,c4,c5,c6,c7,c8])) (hone0:oneCellFields P #[c0,c1,c2,c3,c4,c5,c6,c7,c8]=true)
  (ct0:P.underlying c0.type=some (.int .u8)) (ct1:P.underlying c1.type=some (.int .i64)) (ct2:P.underlying c2.type=some (.int .i64)) (ct3:P.underlying c3.type=some (.int .i64)) (ct4:P.underlying c4.type=some (.int .i64)) (ct5:P.underlying c5.type=some (.int .i64)) (ct6:P.underlying c6.type=some (.int .i64)) (ct7:P.underlying c7.type=some (.int .i64)) (ct8:P.underlying c8.type=some (.int .i64))
  (hs1:P.underlying f1.type=some (.struct #[s0,s1,s2,s3,s4,s5])) (hone1:oneCellFields P #[s0,s1,s2,s3,s4,s5]=true)
  (st0:P.underlying s0.type=some (.int .i64)) (st1:P.underlying s1.type=some (.slice tw)) (st2:P.underlying s2.type=some (.slice tk)) (st3:P.underlying s3.type=some (.slice tk)) (st4:P.underlying s4.type=some (.slice tc)) (st5:P.underlying s5.type=some (.int .u64))
  (ew:P.underlying tw=some (.int .u64)) (cw:P.cellsOf tw=1) (ek:P.underlying tk=some (.int .i64)) (ck:P.cellsOf tk=1) (ec:P.underlying tc=some (.int .i64)) (cc:P.cellsOf tc=1)
  (hs2:P.underlying f2.type=some (.struct #[h0,h1])) (hone2:oneCellFields P #[h0,h1]=true) (ht0:P.underlying h0.type=some (.slice te)) (ht1:P.underlying h1.type=some (.slice te)) (ee:P.underlying te=some (.int .i64)) (ce:P.cellsOf te=1)
  (t3:P.underlying f3.type=some (.int .u64))
  (hv:Value.okWide P w r b0 t v) (h:DataW.Trod enc P w base spare held t v d p) :
  ∃ (o:Od) (a:Ads) (A:HAds),v=odv o a A/\OHeld w o a A/\o.cf.In/\o.Ok:=by
 obtain⟨cs,rfl,hsz⟩:=okWide_struct hs hv;obtain⟨fuel,hf⟩:=h;obtain⟨xs,n,_,hx,_,hlen,hg⟩:=DataW.trod_struct hs hf;have hlx:xs.length=4:=hlen;have g0:=hg 0 f0 rfl;have g1:=hg 1 f1 rfl;have g2:=hg 2 f2 rfl;have g3:=hg 3 f3 rfl;rw [o0.1,o0.2,List.getElem?_eq_getElem (by omega)] at g0;rw [o1.1,o1.2,List.getElem?_eq_getElem (by omega)] at g1;rw [o2.1,o2.2,List.getElem?_eq_getElem (by omega)] at g2;rw [o3.1,o3.2,List.getElem?_eq_getElem (by omega)] at g3;obtain⟨l,hl⟩:∃ l,l=cs.toList:=⟨_,rfl⟩
 have hll:l.length=18:=by rw [hl];simpa using hsz.trans hC
 have ecs:(Value.agg cs).cells.toList=l:=hl.symm;rw [ecs] at g0 g1 g2 g3;obtain⟨c,e0,hc⟩:=open_confL hs0 hone0 (o0.2) ct0 ct1 ct2 ct3 ct4 ct5 ct6 ct7 ct8 g0;obtain⟨s,a,e1,hh,hok⟩:=open_slotsL hs1 hone1 (o1.2) st0 st1 st2 st3 st4 st5 ew cw ek ck ec cc g1;obtain⟨x,A,e2,hH,hxok⟩:=open_handlesL hs2 hone2 (o2.2) ht0 ht1 ee ce g2
 have e3:(l.drop 17).take 1=[l[17]]:=by
  rw [List.drop_eq_getElem_cons (by omega)]
  rfl
 rw [e3] at g3;obtain⟨z,ez,_,wz⟩:=DataW.trod_int t3 g3
 injection ez with ez _
 obtain⟨hu0,hu1⟩:=bounds_u64 wz;refine⟨⟨c,s,x,z.toNat⟩,a,A,?_,⟨hh,hH⟩,hc,⟨hok,hxok,by show z.toNat < _;omega⟩⟩
 have el:l=(l.drop 0).take 9++((l.drop 9).take 6++((l.drop 15).take 2++(l.drop 17).take 1)):=by
  have a1:(l.drop 17).take 1=l.drop 17:=List.take_of_length_le (by rw [List.length_drop];omega)
  have a2:(l.drop 15).take 2++l.drop 17=l.drop 15:=by
   have:=List.take_append_drop 2 (l.drop 15)
   rwa [List.drop_drop] at this
  have a3:(l.drop 9).take 6++l.drop 15=l.drop 9:=by
   have:=List.take_append_drop 6 (l.drop 9)
   rwa [List.drop_drop] at this
  rw [a1,a2,a3,List.drop_zero,List.take_append_drop]
 rw [e0,e1,e2,e3,ez] at el
 have:cs=l.toArray:=by rw [hl]
 rw [this,el];unfold odv odCells;rw [show (((z.toNat:Nat):Int))=z from by omega]
 rfl
end
end Go.Proofs.YtpeckljoannolaaGreatDoor

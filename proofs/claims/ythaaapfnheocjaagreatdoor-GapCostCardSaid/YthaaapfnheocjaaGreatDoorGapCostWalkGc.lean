/- The walk of the law GapCost: what one put, and one take, lays. -/
import Derived.Test.YthaaapfnheocjaaGreatDoorLaw09Gc
import Derived.Test.YthaaapfnheocjaaGreatDoorPlain9hGc
import Derived.Test.YthaaapfnheocjaaGreatDoorM17Gc
import Derived.Test.YthaaapfnheocjaaGreatDoorOccT4Gc
import Derived.Test.YthaaapfnheocjaaGreatDoorTkGc
set_option linter.unusedVariables false
set_option linter.unusedSimpArgs false
set_option maxHeartbeats 8000000
set_option maxRecDepth 100000
namespace Go.Proofs.YthaaapfnheocjaaGreatDoor.gapCost
open Go.RowKit
theorem laid_sub {x y:Nat} {n:Int} (h:(x:Int)=((y:Int)+n) % 18446744073709551616) (n0:0<=n) (n1:n<=65536):IntKind.u64.wrap ((x:Int)-(y:Int))=n:=by
 rw [IntKind.wrap_u64];omega
def Tells (v e:Int) (V:World) (x:Ending) (w':World):Prop:=x=.returned (.tuple #[.int .i64 v,.int .i64 e])/\Below V.heap.size V w'
def Parts (f t:Int) (b:Bool) (V:World) (x:Ending) (w':World):Prop:=x=.returned (.tuple #[.int .i64 f,.int .i64 t,.bool b])/\Below V.heap.size V w'
theorem full00 (s:Sl) (a:Ads) (c:Cf) (k x1 x2:Int) (W:World) (h:Held W s a) (hg:s.greatB 600=false) (hT:Tab W) (X Y:Sl) (EP ET:Int) (l2:s.keys.length<=65536) (lx:X.keys.length<=65536) (ly:Y.keys.length<=65536)
  (CPu:Hid (∀ V,Held V s a->Tab V->Calls Tryz.prog 9 #[cfv c,slv s a,.int .i64 k,.agg #[.int .i64 x1,.int .i64 x2]] V (Ans X EP V)))
  (CTa:Hid (∀ V,Held V s a->Tab V->Calls Tryz.prog 10 #[cfv c,slv s a,.int .i64 k] V (Ans Y ET V)))
  (hEP:EP≠0) (hET:ET≠0) :
  Calls Tryz.prog 5 #[cfv c,slv s a,.int .i64 k,pv (x1,x2)] W fun e w'=>e=.returned (.bool true)/\Below W.heap.size W w':=by
 have HGr:=aq hg;obtain⟨W0,hW0⟩:∃ W0,W0=((W.alloc (.cells (cfCells c) 32)).alloc (.cells #[.int .i64 s.seg,.slice a.w s.words.length a.cw,.slice a.k s.keys.length a.ck,.slice a.v s.vals.length a.cv,.slice a.c s.counts.length a.cc,.int .u64 (s.laid:Int)] 27)).alloc (.cells #[.int .i64 x1,.int .i64 x2] 36):=⟨_,rfl⟩;have BC:=aq (show CBox W0 W.heap.size c by rw [hW0];exact ((CBox.new W c 32).below ((Below.refl _ _).alloc (Nat.le_refl _) _)).below ((Below.refl _ _).alloc (Nat.le_refl _) _));have BS:=aq (show Box W0 (W.heap.size+1) s a by rw [hW0];exact (Box.second W _ s a 27).below ((Below.refl _ _).alloc (Nat.le_refl _) _))
 have PQ:=aq (show PBox W0 (W.heap.size+1+1) (x1,x2) by
  rw [hW0];have q:=PBox.new ((W.alloc (.cells (cfCells c) 32)).alloc (.cells #[.int .i64 s.seg,.slice a.w s.words.length a.cw,.slice a.k s.keys.length a.ck,.slice a.v s.vals.length a.cv,.slice a.c s.counts.length a.cc,.int .u64 (s.laid:Int)] 27)) (x1,x2) 36
  simp only [World.size_alloc] at q
  exact q)
 have BB:=aq (show Below W.heap.size W W0 by rw [hW0];exact (((Below.refl W.heap.size W).alloc (Nat.le_refl _) _).alloc (by simp) _).alloc (by simp;omega) _);have HA:=aq (h.below BB.out);have TB:=aq (hT.below BB.out)
 have kP:(EP==0)=false:=by simp [hEP]
 have kT:(ET != 0)=true:=by simp [hET]
 unfold slv cfv at CPu CTa;clear h hg hT hEP hET;unfold slv pv cfv
 go_enter Tryz.func5,Tryz.ntmps5
 unfold cfCells at hW0
 go_upto_region 1 with (fail)
 rw [<-hW0];clear hW0
 go_wp2_with fail
 refine (l9Alive _ TB.out).mono ?_;rintro e w0 ⟨rfl,hb⟩;replace BC:=aq (BC.out.below hb);replace BS:=aq (BS.out.below hb);replace PQ:=aq (PQ.out.below hb);replace HA:=aq (HA.out.below hb);replace TB:=aq (TB.out.below hb);replace BB:=aq (BB.out.trans (hb.mono BB.out.size));clear hb;obtain⟨_,p0,p1,p2,p3,p4,p5,_⟩:=BS.out
 go_wp2_with fail
 refine (r4Great s a 600 _).mono ?_;rintro e w1 ⟨rfl,hb⟩;rw [HGr.out];replace BC:=aq (BC.out.below hb);replace BS:=aq (BS.out.below hb);replace PQ:=aq (PQ.out.below hb);replace HA:=aq (HA.out.below hb);replace TB:=aq (TB.out.below hb);replace BB:=aq (BB.out.trans (hb.mono BB.out.size));clear hb p0 p1 p2 p3 p4 p5;obtain⟨_,p0,p1,p2,p3,p4,p5,_⟩:=BS.out;have e0:=PQ.out.c0;have e1:=PQ.out.c1
 try dsimp only at e0 e1
 obtain⟨_,c0,c1,c2,c3,c4,c5,c6,c7,c8,_⟩:=BC.out
 go_wp2_with fail
 refine (CPu.out _ HA.out TB.out).mono ?_;rintro e w2 ⟨A2,rfl,own,hb⟩;have O2:=aq own.held;clear own;replace BC:=aq (BC.out.below hb);replace BS:=aq (BS.out.below hb);replace PQ:=aq (PQ.out.below hb);replace HA:=aq (HA.out.below hb);replace TB:=aq (TB.out.below hb);replace BB:=aq (BB.out.trans (hb.mono BB.out.size));clear hb e0 e1 c0 c1 c2 c3 c4 c5 c6 c7 c8 p0 p1 p2 p3 p4 p5;unfold slv
 go_upto_region 6 with (fail)
 obtain⟨V2,hV⟩:∃ V,V=w2.alloc (.cells #[.int .i64 X.seg,.slice A2.w X.words.length A2.cw,.slice A2.k X.keys.length A2.ck,.slice A2.v X.vals.length A2.cv,.slice A2.c X.counts.length A2.cc,.int .u64 (X.laid:Int)] 27):=⟨_,rfl⟩
 have hba:Below w2.heap.size w2 V2:=by rw [hV];exact (Below.refl _ _).alloc (Nat.le_refl _) _
 have B2:=aq (show Box V2 w2.heap.size X A2 by rw [hV];exact Box.new w2 X A2 27);rw [<-hV];clear hV;replace BC:=aq (BC.out.below hba);replace BS:=aq (BS.out.below hba);replace PQ:=aq (PQ.out.below hba);replace HA:=aq (HA.out.below hba);replace TB:=aq (TB.out.below hba);replace O2:=aq (O2.out.below hba);replace BB:=aq (BB.out.trans (hba.mono BB.out.size));clear hba;obtain⟨_,p0,p1,p2,p3,p4,p5,_⟩:=BS.out;obtain⟨_,q0,q1,q2,q3,q4,q5,_⟩:=B2.out;have e0:=PQ.out.c0;have e1:=PQ.out.c1
 try dsimp only at e0 e1
 obtain⟨_,c0,c1,c2,c3,c4,c5,c6,c7,c8,_⟩:=BC.out
 go_wp2_with fail
 refine (CTa.out _ HA.out TB.out).mono ?_;rintro e w3 ⟨A3,rfl,own,hb⟩;have O3:=aq own.held;clear own;replace BC:=aq (BC.out.below hb);replace BS:=aq (BS.out.below hb);replace PQ:=aq (PQ.out.below hb);replace HA:=aq (HA.out.below hb);replace TB:=aq (TB.out.below hb);replace O2:=aq (O2.out.below hb);replace B2:=aq (B2.out.below hb);replace BB:=aq (BB.out.trans (hb.mono BB.out.size));clear hb e0 e1 c0 c1 c2 c3 c4 c5 c6 c7 c8 p0 p1 p2 p3 p4 p5 q0 q1 q2 q3 q4 q5;unfold slv
 go_upto_region 15 with (fail)
 obtain⟨V3,hV⟩:∃ V,V=w3.alloc (.cells #[.int .i64 Y.seg,.slice A3.w Y.words.length A3.cw,.slice A3.k Y.keys.length A3.ck,.slice A3.v Y.vals.length A3.cv,.slice A3.c Y.counts.length A3.cc,.int .u64 (Y.laid:Int)] 27):=⟨_,rfl⟩
 have hba:Below w3.heap.size w3 V3:=by rw [hV];exact (Below.refl _ _).alloc (Nat.le_refl _) _
 have B3:=aq (show Box V3 w3.heap.size Y A3 by rw [hV];exact Box.new w3 Y A3 27);rw [<-hV];clear hV;replace BC:=aq (BC.out.below hba);replace BS:=aq (BS.out.below hba);replace PQ:=aq (PQ.out.below hba);replace HA:=aq (HA.out.below hba);replace TB:=aq (TB.out.below hba);replace O2:=aq (O2.out.below hba);replace B2:=aq (B2.out.below hba);replace O3:=aq (O3.out.below hba);replace BB:=aq (BB.out.trans (hba.mono BB.out.size));clear hba;go_wp2;go_ret;exact⟨rfl,BB.out⟩
theorem full01 (s:Sl) (a:Ads) (c:Cf) (k x1 x2:Int) (W:World) (h:Held W s a) (hg:s.greatB 600=false) (hT:Tab W) (X Y:Sl) (EP ET:Int) (l2:s.keys.length<=65536) (lx:X.keys.length<=65536) (ly:Y.keys.length<=65536)
  (CPu:Hid (∀ V,Held V s a->Tab V->Calls Tryz.prog 9 #[cfv c,slv s a,.int .i64 k,.agg #[.int .i64 x1,.int .i64 x2]] V (Ans X EP V)))
  (CTa:Hid (∀ V,Held V s a->Tab V->Calls Tryz.prog 10 #[cfv c,slv s a,.int .i64 k] V (Ans Y ET V)))
  (hEP:EP≠0) (hET:ET=0) (xb:Nat) (f2 t2:Int) (n2:Int) (hxb:xb<=65536) (n20:0<=n2) (n21:n2<=65536) (hl2:IntKind.u64.wrap ((Y.laid:Int)-(s.laid:Int))=n2) (hz2:Y.keys.length=s.keys.length) (B:Sl)
  (CN2:Hid (∀ V,Held V s a->Tab V->Calls Tryz.prog 21 #[.slice a.w s.words.length a.cw,.int .i64 s.keys.length,.int .i64 k] V (Tells xb 0 V)))
  (CL2:Hid (∀ V,Held V s a->Tab V->Calls Tryz.prog 24 #[slv s a,.int .i64 (xb:Int)] V (Ans B 0 V)))
  (CP2:Hid (∀ A V,Held V B A->Tab V->Calls Tryz.prog 22 #[cfv c,slv B A,.int .i64 (xb:Int),.int .i64 0] V (Parts f2 t2 true V)))
  (CC2:Hid (∀ A V,Held V Y A->Calls Tryz.prog 23 #[.slice A.w Y.words.length A.cw,.int .i64 Y.keys.length,.int .i64 f2,.int .i64 t2] V (Tells n2 0 V))) :
  Calls Tryz.prog 5 #[cfv c,slv s a,.int .i64 k,pv (x1,x2)] W fun e w'=>e=.returned (.bool true)/\Below W.heap.size W w':=by
 have HGr:=aq hg;obtain⟨W0,hW0⟩:∃ W0,W0=((W.alloc (.cells (cfCells c) 32)).alloc (.cells #[.int .i64 s.seg,.slice a.w s.words.length a.cw,.slice a.k s.keys.length a.ck,.slice a.v s.vals.length a.cv,.slice a.c s.counts.length a.cc,.int .u64 (s.laid:Int)] 27)).alloc (.cells #[.int .i64 x1,.int .i64 x2] 36):=⟨_,rfl⟩;have BC:=aq (show CBox W0 W.heap.size c by rw [hW0];exact ((CBox.new W c 32).below ((Below.refl _ _).alloc (Nat.le_refl _) _)).below ((Below.refl _ _).alloc (Nat.le_refl _) _));have BS:=aq (show Box W0 (W.heap.size+1) s a by rw [hW0];exact (Box.second W _ s a 27).below ((Below.refl _ _).alloc (Nat.le_refl _) _))
 have PQ:=aq (show PBox W0 (W.heap.size+1+1) (x1,x2) by
  rw [hW0];have q:=PBox.new ((W.alloc (.cells (cfCells c) 32)).alloc (.cells #[.int .i64 s.seg,.slice a.w s.words.length a.cw,.slice a.k s.keys.length a.ck,.slice a.v s.vals.length a.cv,.slice a.c s.counts.length a.cc,.int .u64 (s.laid:Int)] 27)) (x1,x2) 36
  simp only [World.size_alloc] at q
  exact q)
 have BB:=aq (show Below W.heap.size W W0 by rw [hW0];exact (((Below.refl W.heap.size W).alloc (Nat.le_refl _) _).alloc (by simp) _).alloc (by simp;omega) _);have HA:=aq (h.below BB.out);have TB:=aq (hT.below BB.out)
 have kP:(EP==0)=false:=by simp [hEP]
 subst hET;have hu2:IntKind.u64.wrap n2=n2:=IntWalk.u64_in _ (by omega)
 have hz3:((Y.keys.length:Int)==(s.keys.length:Int))=true:=by simp;omega
 unfold slv cfv at CPu CTa  CP2;unfold slv at CL2;unfold Tells at CN2 CC2;unfold Parts at CP2;clear h hg hT hEP hz2;unfold slv pv cfv
 go_enter Tryz.func5,Tryz.ntmps5
 unfold cfCells at hW0
 go_upto_region 1 with (fail)
 rw [<-hW0];clear hW0
 go_wp2_with fail
 refine (l9Alive _ TB.out).mono ?_;rintro e w0 ⟨rfl,hb⟩;replace BC:=aq (BC.out.below hb);replace BS:=aq (BS.out.below hb);replace PQ:=aq (PQ.out.below hb);replace HA:=aq (HA.out.below hb);replace TB:=aq (TB.out.below hb);replace BB:=aq (BB.out.trans (hb.mono BB.out.size));clear hb;obtain⟨_,p0,p1,p2,p3,p4,p5,_⟩:=BS.out
 go_wp2_with fail
 refine (r4Great s a 600 _).mono ?_;rintro e w1 ⟨rfl,hb⟩;rw [HGr.out];replace BC:=aq (BC.out.below hb);replace BS:=aq (BS.out.below hb);replace PQ:=aq (PQ.out.below hb);replace HA:=aq (HA.out.below hb);replace TB:=aq (TB.out.below hb);replace BB:=aq (BB.out.trans (hb.mono BB.out.size));clear hb p0 p1 p2 p3 p4 p5;obtain⟨_,p0,p1,p2,p3,p4,p5,_⟩:=BS.out;have e0:=PQ.out.c0;have e1:=PQ.out.c1
 try dsimp only at e0 e1
 obtain⟨_,c0,c1,c2,c3,c4,c5,c6,c7,c8,_⟩:=BC.out
 go_wp2_with fail
 refine (CPu.out _ HA.out TB.out).mono ?_;rintro e w2 ⟨A2,rfl,own,hb⟩;have O2:=aq own.held;clear own;replace BC:=aq (BC.out.below hb);replace BS:=aq (BS.out.below hb);replace PQ:=aq (PQ.out.below hb);replace HA:=aq (HA.out.below hb);replace TB:=aq (TB.out.below hb);replace BB:=aq (BB.out.trans (hb.mono BB.out.size));clear hb e0 e1 c0 c1 c2 c3 c4 c5 c6 c7 c8 p0 p1 p2 p3 p4 p5;unfold slv
 go_upto_region 6 with (fail)
 obtain⟨V2,hV⟩:∃ V,V=w2.alloc (.cells #[.int .i64 X.seg,.slice A2.w X.words.length A2.cw,.slice A2.k X.keys.length A2.ck,.slice A2.v X.vals.length A2.cv,.slice A2.c X.counts.length A2.cc,.int .u64 (X.laid:Int)] 27):=⟨_,rfl⟩
 have hba:Below w2.heap.size w2 V2:=by rw [hV];exact (Below.refl _ _).alloc (Nat.le_refl _) _
 have B2:=aq (show Box V2 w2.heap.size X A2 by rw [hV];exact Box.new w2 X A2 27);rw [<-hV];clear hV;replace BC:=aq (BC.out.below hba);replace BS:=aq (BS.out.below hba);replace PQ:=aq (PQ.out.below hba);replace HA:=aq (HA.out.below hba);replace TB:=aq (TB.out.below hba);replace O2:=aq (O2.out.below hba);replace BB:=aq (BB.out.trans (hba.mono BB.out.size));clear hba;obtain⟨_,p0,p1,p2,p3,p4,p5,_⟩:=BS.out;obtain⟨_,q0,q1,q2,q3,q4,q5,_⟩:=B2.out;have e0:=PQ.out.c0;have e1:=PQ.out.c1
 try dsimp only at e0 e1
 obtain⟨_,c0,c1,c2,c3,c4,c5,c6,c7,c8,_⟩:=BC.out
 go_wp2_with fail
 refine (CTa.out _ HA.out TB.out).mono ?_;rintro e w3 ⟨A3,rfl,own,hb⟩;have O3:=aq own.held;clear own;replace BC:=aq (BC.out.below hb);replace BS:=aq (BS.out.below hb);replace PQ:=aq (PQ.out.below hb);replace HA:=aq (HA.out.below hb);replace TB:=aq (TB.out.below hb);replace O2:=aq (O2.out.below hb);replace B2:=aq (B2.out.below hb);replace BB:=aq (BB.out.trans (hb.mono BB.out.size));clear hb e0 e1 c0 c1 c2 c3 c4 c5 c6 c7 c8 p0 p1 p2 p3 p4 p5 q0 q1 q2 q3 q4 q5;unfold slv
 go_upto_region 15 with (fail)
 obtain⟨V3,hV⟩:∃ V,V=w3.alloc (.cells #[.int .i64 Y.seg,.slice A3.w Y.words.length A3.cw,.slice A3.k Y.keys.length A3.ck,.slice A3.v Y.vals.length A3.cv,.slice A3.c Y.counts.length A3.cc,.int .u64 (Y.laid:Int)] 27):=⟨_,rfl⟩
 have hba:Below w3.heap.size w3 V3:=by rw [hV];exact (Below.refl _ _).alloc (Nat.le_refl _) _
 have B3:=aq (show Box V3 w3.heap.size Y A3 by rw [hV];exact Box.new w3 Y A3 27);rw [<-hV];clear hV;replace BC:=aq (BC.out.below hba);replace BS:=aq (BS.out.below hba);replace PQ:=aq (PQ.out.below hba);replace HA:=aq (HA.out.below hba);replace TB:=aq (TB.out.below hba);replace O2:=aq (O2.out.below hba);replace B2:=aq (B2.out.below hba);replace O3:=aq (O3.out.below hba);replace BB:=aq (BB.out.trans (hba.mono BB.out.size));clear hba;obtain⟨_,p0,p1,p2,p3,p4,p5,_⟩:=BS.out;obtain⟨_,q0,q1,q2,q3,q4,q5,_⟩:=B2.out;obtain⟨_,r0,r1,r2,r3,r4,r5,_⟩:=B3.out;have e0:=PQ.out.c0;have e1:=PQ.out.c1
 try dsimp only at e0 e1
 obtain⟨_,c0,c1,c2,c3,c4,c5,c6,c7,c8,_⟩:=BC.out
 go_wp2_with fail
 refine (CN2.out _ HA.out TB.out).mono ?_;rintro e w4 ⟨rfl,hb⟩;replace BC:=aq (BC.out.below hb);replace BS:=aq (BS.out.below hb);replace PQ:=aq (PQ.out.below hb);replace HA:=aq (HA.out.below hb);replace TB:=aq (TB.out.below hb);replace O2:=aq (O2.out.below hb);replace B2:=aq (B2.out.below hb);replace O3:=aq (O3.out.below hb);replace B3:=aq (B3.out.below hb);replace BB:=aq (BB.out.trans (hb.mono BB.out.size));clear hb e0 e1 c0 c1 c2 c3 c4 c5 c6 c7 c8 p0 p1 p2 p3 p4 p5 q0 q1 q2 q3 q4 q5 r0 r1 r2 r3 r4 r5;obtain⟨_,p0,p1,p2,p3,p4,p5,_⟩:=BS.out;obtain⟨_,q0,q1,q2,q3,q4,q5,_⟩:=B2.out;obtain⟨_,r0,r1,r2,r3,r4,r5,_⟩:=B3.out;have e0:=PQ.out.c0;have e1:=PQ.out.c1
 try dsimp only at e0 e1
 obtain⟨_,c0,c1,c2,c3,c4,c5,c6,c7,c8,_⟩:=BC.out
 go_wp2_with fail
 refine (CL2.out _ HA.out TB.out).mono ?_;rintro e w5 ⟨A4,rfl,own,hb⟩;have O4:=aq own.held;clear own;replace BC:=aq (BC.out.below hb);replace BS:=aq (BS.out.below hb);replace PQ:=aq (PQ.out.below hb);replace HA:=aq (HA.out.below hb);replace TB:=aq (TB.out.below hb);replace O2:=aq (O2.out.below hb);replace B2:=aq (B2.out.below hb);replace O3:=aq (O3.out.below hb);replace B3:=aq (B3.out.below hb);replace BB:=aq (BB.out.trans (hb.mono BB.out.size));clear hb e0 e1 c0 c1 c2 c3 c4 c5 c6 c7 c8 p0 p1 p2 p3 p4 p5 q0 q1 q2 q3 q4 q5 r0 r1 r2 r3 r4 r5;unfold slv
 go_upto_region 19 with (fail)
 obtain⟨V4,hV⟩:∃ V,V=w5.alloc (.cells #[.int .i64 B.seg,.slice A4.w B.words.length A4.cw,.slice A4.k B.keys.length A4.ck,.slice A4.v B.vals.length A4.cv,.slice A4.c B.counts.length A4.cc,.int .u64 (B.laid:Int)] 27):=⟨_,rfl⟩
 have hba:Below w5.heap.size w5 V4:=by rw [hV];exact (Below.refl _ _).alloc (Nat.le_refl _) _
 have B4:=aq (show Box V4 w5.heap.size B A4 by rw [hV];exact Box.new w5 B A4 27);rw [<-hV];clear hV;replace BC:=aq (BC.out.below hba);replace BS:=aq (BS.out.below hba);replace PQ:=aq (PQ.out.below hba);replace HA:=aq (HA.out.below hba);replace TB:=aq (TB.out.below hba);replace O2:=aq (O2.out.below hba);replace B2:=aq (B2.out.below hba);replace O3:=aq (O3.out.below hba);replace B3:=aq (B3.out.below hba);replace O4:=aq (O4.out.below hba);replace BB:=aq (BB.out.trans (hba.mono BB.out.size));clear hba;obtain⟨_,p0,p1,p2,p3,p4,p5,_⟩:=BS.out;obtain⟨_,q0,q1,q2,q3,q4,q5,_⟩:=B2.out;obtain⟨_,r0,r1,r2,r3,r4,r5,_⟩:=B3.out;obtain⟨_,s0,s1,s2,s3,s4,s5,_⟩:=B4.out;have e0:=PQ.out.c0;have e1:=PQ.out.c1
 try dsimp only at e0 e1
 obtain⟨_,c0,c1,c2,c3,c4,c5,c6,c7,c8,_⟩:=BC.out
 go_wp2_with fail
 refine (CP2.out A4 _ O4.out TB.out).mono ?_;rintro e w6 ⟨rfl,hb⟩;replace BC:=aq (BC.out.below hb);replace BS:=aq (BS.out.below hb);replace PQ:=aq (PQ.out.below hb);replace HA:=aq (HA.out.below hb);replace TB:=aq (TB.out.below hb);replace O2:=aq (O2.out.below hb);replace B2:=aq (B2.out.below hb);replace O3:=aq (O3.out.below hb);replace B3:=aq (B3.out.below hb);replace O4:=aq (O4.out.below hb);replace B4:=aq (B4.out.below hb);replace BB:=aq (BB.out.trans (hb.mono BB.out.size));clear hb e0 e1 c0 c1 c2 c3 c4 c5 c6 c7 c8 p0 p1 p2 p3 p4 p5 q0 q1 q2 q3 q4 q5 r0 r1 r2 r3 r4 r5 s0 s1 s2 s3 s4 s5;obtain⟨_,p0,p1,p2,p3,p4,p5,_⟩:=BS.out;obtain⟨_,q0,q1,q2,q3,q4,q5,_⟩:=B2.out;obtain⟨_,r0,r1,r2,r3,r4,r5,_⟩:=B3.out;obtain⟨_,s0,s1,s2,s3,s4,s5,_⟩:=B4.out;have e0:=PQ.out.c0;have e1:=PQ.out.c1
 try dsimp only at e0 e1
 obtain⟨_,c0,c1,c2,c3,c4,c5,c6,c7,c8,_⟩:=BC.out
 go_wp2_with fail
 refine (CC2.out A3 _ O3.out).mono ?_;rintro e w7 ⟨rfl,hb⟩;replace BC:=aq (BC.out.below hb);replace BS:=aq (BS.out.below hb);replace PQ:=aq (PQ.out.below hb);replace HA:=aq (HA.out.below hb);replace TB:=aq (TB.out.below hb);replace O2:=aq (O2.out.below hb);replace B2:=aq (B2.out.below hb);replace O3:=aq (O3.out.below hb);replace B3:=aq (B3.out.below hb);replace O4:=aq (O4.out.below hb);replace B4:=aq (B4.out.below hb);replace BB:=aq (BB.out.trans (hb.mono BB.out.size));clear hb e0 e1 c0 c1 c2 c3 c4 c5 c6 c7 c8 p0 p1 p2 p3 p4 p5 q0 q1 q2 q3 q4 q5 r0 r1 r2 r3 r4 r5 s0 s1 s2 s3 s4 s5;obtain⟨_,p0,p1,p2,p3,p4,p5,_⟩:=BS.out;obtain⟨_,r0,r1,r2,r3,r4,r5,_⟩:=B3.out;go_wp2;go_ret;exact⟨rfl,BB.out⟩
theorem full02 (s:Sl) (a:Ads) (c:Cf) (k x1 x2:Int) (W:World) (h:Held W s a) (hg:s.greatB 600=false) (hT:Tab W) (X Y:Sl) (EP ET:Int) (l2:s.keys.length<=65536) (lx:X.keys.length<=65536) (ly:Y.keys.length<=65536)
  (CPu:Hid (∀ V,Held V s a->Tab V->Calls Tryz.prog 9 #[cfv c,slv s a,.int .i64 k,.agg #[.int .i64 x1,.int .i64 x2]] V (Ans X EP V)))
  (CTa:Hid (∀ V,Held V s a->Tab V->Calls Tryz.prog 10 #[cfv c,slv s a,.int .i64 k] V (Ans Y ET V)))
  (hEP:EP≠0) (hET:ET=0) (xb:Nat) (f2 t2:Int) (n2:Int) (hxb:xb<=65536) (n20:0<=n2) (n21:n2<=65536) (hl2:IntKind.u64.wrap ((Y.laid:Int)-(s.laid:Int))=n2) (hz2:Y.keys.length≠s.keys.length) (B:Sl)
  (CN2:Hid (∀ V,Held V s a->Tab V->Calls Tryz.prog 21 #[.slice a.w s.words.length a.cw,.int .i64 s.keys.length,.int .i64 k] V (Tells xb 0 V)))
  (CL2:Hid (∀ V,Held V s a->Tab V->Calls Tryz.prog 24 #[slv s a,.int .i64 (xb:Int)] V (Ans B 0 V)))
  (CP2:Hid (∀ A V,Held V B A->Tab V->Calls Tryz.prog 22 #[cfv c,slv B A,.int .i64 (xb:Int),.int .i64 0] V (Parts f2 t2 false V)))
  (CC2:Hid (∀ A V,Held V Y A->Calls Tryz.prog 23 #[.slice A.w Y.words.length A.cw,.int .i64 Y.keys.length,.int .i64 0,.int .i64 (Y.keys.length:Int)] V (Tells n2 0 V))) :
  Calls Tryz.prog 5 #[cfv c,slv s a,.int .i64 k,pv (x1,x2)] W fun e w'=>e=.returned (.bool true)/\Below W.heap.size W w':=by
 have HGr:=aq hg;obtain⟨W0,hW0⟩:∃ W0,W0=((W.alloc (.cells (cfCells c) 32)).alloc (.cells #[.int .i64 s.seg,.slice a.w s.words.length a.cw,.slice a.k s.keys.length a.ck,.slice a.v s.vals.length a.cv,.slice a.c s.counts.length a.cc,.int .u64 (s.laid:Int)] 27)).alloc (.cells #[.int .i64 x1,.int .i64 x2] 36):=⟨_,rfl⟩;have BC:=aq (show CBox W0 W.heap.size c by rw [hW0];exact ((CBox.new W c 32).below ((Below.refl _ _).alloc (Nat.le_refl _) _)).below ((Below.refl _ _).alloc (Nat.le_refl _) _));have BS:=aq (show Box W0 (W.heap.size+1) s a by rw [hW0];exact (Box.second W _ s a 27).below ((Below.refl _ _).alloc (Nat.le_refl _) _))
 have PQ:=aq (show PBox W0 (W.heap.size+1+1) (x1,x2) by
  rw [hW0];have q:=PBox.new ((W.alloc (.cells (cfCells c) 32)).alloc (.cells #[.int .i64 s.seg,.slice a.w s.words.length a.cw,.slice a.k s.keys.length a.ck,.slice a.v s.vals.length a.cv,.slice a.c s.counts.length a.cc,.int .u64 (s.laid:Int)] 27)) (x1,x2) 36
  simp only [World.size_alloc] at q
  exact q)
 have BB:=aq (show Below W.heap.size W W0 by rw [hW0];exact (((Below.refl W.heap.size W).alloc (Nat.le_refl _) _).alloc (by simp) _).alloc (by simp;omega) _);have HA:=aq (h.below BB.out);have TB:=aq (hT.below BB.out)
 have kP:(EP==0)=false:=by simp [hEP]
 subst hET;have hu2:IntKind.u64.wrap n2=n2:=IntWalk.u64_in _ (by omega)
 have hz3:((Y.keys.length:Int)==(s.keys.length:Int))=false:=by simp;omega
 unfold slv cfv at CPu CTa  CP2;unfold slv at CL2;unfold Tells at CN2 CC2;unfold Parts at CP2;clear h hg hT hEP hz2;unfold slv pv cfv
 go_enter Tryz.func5,Tryz.ntmps5
 unfold cfCells at hW0
 go_upto_region 1 with (fail)
 rw [<-hW0];clear hW0
 go_wp2_with fail
 refine (l9Alive _ TB.out).mono ?_;rintro e w0 ⟨rfl,hb⟩;replace BC:=aq (BC.out.below hb);replace BS:=aq (BS.out.below hb);replace PQ:=aq (PQ.out.below hb);replace HA:=aq (HA.out.below hb);replace TB:=aq (TB.out.below hb);replace BB:=aq (BB.out.trans (hb.mono BB.out.size));clear hb;obtain⟨_,p0,p1,p2,p3,p4,p5,_⟩:=BS.out
 go_wp2_with fail
 refine (r4Great s a 600 _).mono ?_;rintro e w1 ⟨rfl,hb⟩;rw [HGr.out];replace BC:=aq (BC.out.below hb);replace BS:=aq (BS.out.below hb);replace PQ:=aq (PQ.out.below hb);replace HA:=aq (HA.out.below hb);replace TB:=aq (TB.out.below hb);replace BB:=aq (BB.out.trans (hb.mono BB.out.size));clear hb p0 p1 p2 p3 p4 p5;obtain⟨_,p0,p1,p2,p3,p4,p5,_⟩:=BS.out;have e0:=PQ.out.c0;have e1:=PQ.out.c1
 try dsimp only at e0 e1
 obtain⟨_,c0,c1,c2,c3,c4,c5,c6,c7,c8,_⟩:=BC.out
 go_wp2_with fail
 refine (CPu.out _ HA.out TB.out).mono ?_;rintro e w2 ⟨A2,rfl,own,hb⟩;have O2:=aq own.held;clear own;replace BC:=aq (BC.out.below hb);replace BS:=aq (BS.out.below hb);replace PQ:=aq (PQ.out.below hb);replace HA:=aq (HA.out.below hb);replace TB:=aq (TB.out.below hb);replace BB:=aq (BB.out.trans (hb.mono BB.out.size));clear hb e0 e1 c0 c1 c2 c3 c4 c5 c6 c7 c8 p0 p1 p2 p3 p4 p5;unfold slv
 go_upto_region 6 with (fail)
 obtain⟨V2,hV⟩:∃ V,V=w2.alloc (.cells #[.int .i64 X.seg,.slice A2.w X.words.length A2.cw,.slice A2.k X.keys.length A2.ck,.slice A2.v X.vals.length A2.cv,.slice A2.c X.counts.length A2.cc,.int .u64 (X.laid:Int)] 27):=⟨_,rfl⟩
 have hba:Below w2.heap.size w2 V2:=by rw [hV];exact (Below.refl _ _).alloc (Nat.le_refl _) _
 have B2:=aq (show Box V2 w2.heap.size X A2 by rw [hV];exact Box.new w2 X A2 27);rw [<-hV];clear hV;replace BC:=aq (BC.out.below hba);replace BS:=aq (BS.out.below hba);replace PQ:=aq (PQ.out.below hba);replace HA:=aq (HA.out.below hba);replace TB:=aq (TB.out.below hba);replace O2:=aq (O2.out.below hba);replace BB:=aq (BB.out.trans (hba.mono BB.out.size));clear hba;obtain⟨_,p0,p1,p2,p3,p4,p5,_⟩:=BS.out;obtain⟨_,q0,q1,q2,q3,q4,q5,_⟩:=B2.out;have e0:=PQ.out.c0;have e1:=PQ.out.c1
 try dsimp only at e0 e1
 obtain⟨_,c0,c1,c2,c3,c4,c5,c6,c7,c8,_⟩:=BC.out
 go_wp2_with fail
 refine (CTa.out _ HA.out TB.out).mono ?_;rintro e w3 ⟨A3,rfl,own,hb⟩;have O3:=aq own.held;clear own;replace BC:=aq (BC.out.below hb);replace BS:=aq (BS.out.below hb);replace PQ:=aq (PQ.out.below hb);replace HA:=aq (HA.out.below hb);replace TB:=aq (TB.out.below hb);replace O2:=aq (O2.out.below hb);replace B2:=aq (B2.out.below hb);replace BB:=aq (BB.out.trans (hb.mono BB.out.size));clear hb e0 e1 c0 c1 c2 c3 c4 c5 c6 c7 c8 p0 p1 p2 p3 p4 p5 q0 q1 q2 q3 q4 q5;unfold slv
 go_upto_region 15 with (fail)
 obtain⟨V3,hV⟩:∃ V,V=w3.alloc (.cells #[.int .i64 Y.seg,.slice A3.w Y.words.length A3.cw,.slice A3.k Y.keys.length A3.ck,.slice A3.v Y.vals.length A3.cv,.slice A3.c Y.counts.length A3.cc,.int .u64 (Y.laid:Int)] 27):=⟨_,rfl⟩
 have hba:Below w3.heap.size w3 V3:=by rw [hV];exact (Below.refl _ _).alloc (Nat.le_refl _) _
 have B3:=aq (show Box V3 w3.heap.size Y A3 by rw [hV];exact Box.new w3 Y A3 27);rw [<-hV];clear hV;replace BC:=aq (BC.out.below hba);replace BS:=aq (BS.out.below hba);replace PQ:=aq (PQ.out.below hba);replace HA:=aq (HA.out.below hba);replace TB:=aq (TB.out.below hba);replace O2:=aq (O2.out.below hba);replace B2:=aq (B2.out.below hba);replace O3:=aq (O3.out.below hba);replace BB:=aq (BB.out.trans (hba.mono BB.out.size));clear hba;obtain⟨_,p0,p1,p2,p3,p4,p5,_⟩:=BS.out;obtain⟨_,q0,q1,q2,q3,q4,q5,_⟩:=B2.out;obtain⟨_,r0,r1,r2,r3,r4,r5,_⟩:=B3.out;have e0:=PQ.out.c0;have e1:=PQ.out.c1
 try dsimp only at e0 e1
 obtain⟨_,c0,c1,c2,c3,c4,c5,c6,c7,c8,_⟩:=BC.out
 go_wp2_with fail
 refine (CN2.out _ HA.out TB.out).mono ?_;rintro e w4 ⟨rfl,hb⟩;replace BC:=aq (BC.out.below hb);replace BS:=aq (BS.out.below hb);replace PQ:=aq (PQ.out.below hb);replace HA:=aq (HA.out.below hb);replace TB:=aq (TB.out.below hb);replace O2:=aq (O2.out.below hb);replace B2:=aq (B2.out.below hb);replace O3:=aq (O3.out.below hb);replace B3:=aq (B3.out.below hb);replace BB:=aq (BB.out.trans (hb.mono BB.out.size));clear hb e0 e1 c0 c1 c2 c3 c4 c5 c6 c7 c8 p0 p1 p2 p3 p4 p5 q0 q1 q2 q3 q4 q5 r0 r1 r2 r3 r4 r5;obtain⟨_,p0,p1,p2,p3,p4,p5,_⟩:=BS.out;obtain⟨_,q0,q1,q2,q3,q4,q5,_⟩:=B2.out;obtain⟨_,r0,r1,r2,r3,r4,r5,_⟩:=B3.out;have e0:=PQ.out.c0;have e1:=PQ.out.c1
 try dsimp only at e0 e1
 obtain⟨_,c0,c1,c2,c3,c4,c5,c6,c7,c8,_⟩:=BC.out
 go_wp2_with fail
 refine (CL2.out _ HA.out TB.out).mono ?_;rintro e w5 ⟨A4,rfl,own,hb⟩;have O4:=aq own.held;clear own;replace BC:=aq (BC.out.below hb);replace BS:=aq (BS.out.below hb);replace PQ:=aq (PQ.out.below hb);replace HA:=aq (HA.out.below hb);replace TB:=aq (TB.out.below hb);replace O2:=aq (O2.out.below hb);replace B2:=aq (B2.out.below hb);replace O3:=aq (O3.out.below hb);replace B3:=aq (B3.out.below hb);replace BB:=aq (BB.out.trans (hb.mono BB.out.size));clear hb e0 e1 c0 c1 c2 c3 c4 c5 c6 c7 c8 p0 p1 p2 p3 p4 p5 q0 q1 q2 q3 q4 q5 r0 r1 r2 r3 r4 r5;unfold slv
 go_upto_region 19 with (fail)
 obtain⟨V4,hV⟩:∃ V,V=w5.alloc (.cells #[.int .i64 B.seg,.slice A4.w B.words.length A4.cw,.slice A4.k B.keys.length A4.ck,.slice A4.v B.vals.length A4.cv,.slice A4.c B.counts.length A4.cc,.int .u64 (B.laid:Int)] 27):=⟨_,rfl⟩
 have hba:Below w5.heap.size w5 V4:=by rw [hV];exact (Below.refl _ _).alloc (Nat.le_refl _) _
 have B4:=aq (show Box V4 w5.heap.size B A4 by rw [hV];exact Box.new w5 B A4 27);rw [<-hV];clear hV;replace BC:=aq (BC.out.below hba);replace BS:=aq (BS.out.below hba);replace PQ:=aq (PQ.out.below hba);replace HA:=aq (HA.out.below hba);replace TB:=aq (TB.out.below hba);replace O2:=aq (O2.out.below hba);replace B2:=aq (B2.out.below hba);replace O3:=aq (O3.out.below hba);replace B3:=aq (B3.out.below hba);replace O4:=aq (O4.out.below hba);replace BB:=aq (BB.out.trans (hba.mono BB.out.size));clear hba;obtain⟨_,p0,p1,p2,p3,p4,p5,_⟩:=BS.out;obtain⟨_,q0,q1,q2,q3,q4,q5,_⟩:=B2.out;obtain⟨_,r0,r1,r2,r3,r4,r5,_⟩:=B3.out;obtain⟨_,s0,s1,s2,s3,s4,s5,_⟩:=B4.out;have e0:=PQ.out.c0;have e1:=PQ.out.c1
 try dsimp only at e0 e1
 obtain⟨_,c0,c1,c2,c3,c4,c5,c6,c7,c8,_⟩:=BC.out
 go_wp2_with fail
 refine (CP2.out A4 _ O4.out TB.out).mono ?_;rintro e w6 ⟨rfl,hb⟩;replace BC:=aq (BC.out.below hb);replace BS:=aq (BS.out.below hb);replace PQ:=aq (PQ.out.below hb);replace HA:=aq (HA.out.below hb);replace TB:=aq (TB.out.below hb);replace O2:=aq (O2.out.below hb);replace B2:=aq (B2.out.below hb);replace O3:=aq (O3.out.below hb);replace B3:=aq (B3.out.below hb);replace O4:=aq (O4.out.below hb);replace B4:=aq (B4.out.below hb);replace BB:=aq (BB.out.trans (hb.mono BB.out.size));clear hb e0 e1 c0 c1 c2 c3 c4 c5 c6 c7 c8 p0 p1 p2 p3 p4 p5 q0 q1 q2 q3 q4 q5 r0 r1 r2 r3 r4 r5 s0 s1 s2 s3 s4 s5;obtain⟨_,p0,p1,p2,p3,p4,p5,_⟩:=BS.out;obtain⟨_,q0,q1,q2,q3,q4,q5,_⟩:=B2.out;obtain⟨_,r0,r1,r2,r3,r4,r5,_⟩:=B3.out;obtain⟨_,s0,s1,s2,s3,s4,s5,_⟩:=B4.out;have e0:=PQ.out.c0;have e1:=PQ.out.c1
 try dsimp only at e0 e1
 obtain⟨_,c0,c1,c2,c3,c4,c5,c6,c7,c8,_⟩:=BC.out
 go_wp2_with fail
 go_quiet (fail)
 have hb:=below_drewN (Below.refl w6.heap.size w6) nq;replace BC:=aq (BC.out.below hb);replace BS:=aq (BS.out.below hb);replace PQ:=aq (PQ.out.below hb);replace HA:=aq (HA.out.below hb);replace TB:=aq (TB.out.below hb);replace O2:=aq (O2.out.below hb);replace B2:=aq (B2.out.below hb);replace O3:=aq (O3.out.below hb);replace B3:=aq (B3.out.below hb);replace O4:=aq (O4.out.below hb);replace B4:=aq (B4.out.below hb);replace BB:=aq (BB.out.trans (hb.mono BB.out.size));clear hb e0 e1 c0 c1 c2 c3 c4 c5 c6 c7 c8 p0 p1 p2 p3 p4 p5 q0 q1 q2 q3 q4 q5 r0 r1 r2 r3 r4 r5 s0 s1 s2 s3 s4 s5;obtain⟨_,p0,p1,p2,p3,p4,p5,_⟩:=BS.out;obtain⟨_,q0,q1,q2,q3,q4,q5,_⟩:=B2.out;obtain⟨_,r0,r1,r2,r3,r4,r5,_⟩:=B3.out;obtain⟨_,s0,s1,s2,s3,s4,s5,_⟩:=B4.out;have e0:=PQ.out.c0;have e1:=PQ.out.c1
 try dsimp only at e0 e1
 obtain⟨_,c0,c1,c2,c3,c4,c5,c6,c7,c8,_⟩:=BC.out
 go_wp2_with fail
 refine (CC2.out A3 _ O3.out).mono ?_;rintro e w7 ⟨rfl,hb⟩;replace BC:=aq (BC.out.below hb);replace BS:=aq (BS.out.below hb);replace PQ:=aq (PQ.out.below hb);replace HA:=aq (HA.out.below hb);replace TB:=aq (TB.out.below hb);replace O2:=aq (O2.out.below hb);replace B2:=aq (B2.out.below hb);replace O3:=aq (O3.out.below hb);replace B3:=aq (B3.out.below hb);replace O4:=aq (O4.out.below hb);replace B4:=aq (B4.out.below hb);replace BB:=aq (BB.out.trans (hb.mono BB.out.size));clear hb e0 e1 c0 c1 c2 c3 c4 c5 c6 c7 c8 p0 p1 p2 p3 p4 p5 q0 q1 q2 q3 q4 q5 r0 r1 r2 r3 r4 r5 s0 s1 s2 s3 s4 s5;obtain⟨_,p0,p1,p2,p3,p4,p5,_⟩:=BS.out;obtain⟨_,r0,r1,r2,r3,r4,r5,_⟩:=B3.out;go_wp2;go_ret;exact⟨rfl,BB.out⟩
theorem full10 (s:Sl) (a:Ads) (c:Cf) (k x1 x2:Int) (W:World) (h:Held W s a) (hg:s.greatB 600=false) (hT:Tab W) (X Y:Sl) (EP ET:Int) (l2:s.keys.length<=65536) (lx:X.keys.length<=65536) (ly:Y.keys.length<=65536)
  (CPu:Hid (∀ V,Held V s a->Tab V->Calls Tryz.prog 9 #[cfv c,slv s a,.int .i64 k,.agg #[.int .i64 x1,.int .i64 x2]] V (Ans X EP V)))
  (CTa:Hid (∀ V,Held V s a->Tab V->Calls Tryz.prog 10 #[cfv c,slv s a,.int .i64 k] V (Ans Y ET V)))
  (hEP:EP=0) (hET:ET≠0) (xa:Nat) (f t:Int) (n:Int) (eN:Int) (m1:Int) (hm:max (k-1) 0=m1) (hk0:0<=k) (hk1:k<=65536) (hxa:xa<=65536) (n0:0<=n) (n1:n<=65536) (hl:IntKind.u64.wrap ((X.laid:Int)-(s.laid:Int))=n) (hz:X.keys.length=s.keys.length)
  (CN1:Hid (∀ V,Held V s a->Tab V->Calls Tryz.prog 21 #[.slice a.w s.words.length a.cw,.int .i64 s.keys.length,.int .i64 m1] V (Tells xa eN V)))
  (CP1:Hid (∀ V,Held V s a->Tab V->Calls Tryz.prog 22 #[cfv c,slv s a,.int .i64 (xa:Int),.int .i64 1] V (Parts f t true V)))
  (CC1:Hid (∀ A V,Held V X A->Calls Tryz.prog 23 #[.slice A.w X.words.length A.cw,.int .i64 X.keys.length,.int .i64 f,.int .i64 t] V (Tells n 0 V))) :
  Calls Tryz.prog 5 #[cfv c,slv s a,.int .i64 k,pv (x1,x2)] W fun e w'=>e=.returned (.bool true)/\Below W.heap.size W w':=by
 have HGr:=aq hg;obtain⟨W0,hW0⟩:∃ W0,W0=((W.alloc (.cells (cfCells c) 32)).alloc (.cells #[.int .i64 s.seg,.slice a.w s.words.length a.cw,.slice a.k s.keys.length a.ck,.slice a.v s.vals.length a.cv,.slice a.c s.counts.length a.cc,.int .u64 (s.laid:Int)] 27)).alloc (.cells #[.int .i64 x1,.int .i64 x2] 36):=⟨_,rfl⟩;have BC:=aq (show CBox W0 W.heap.size c by rw [hW0];exact ((CBox.new W c 32).below ((Below.refl _ _).alloc (Nat.le_refl _) _)).below ((Below.refl _ _).alloc (Nat.le_refl _) _));have BS:=aq (show Box W0 (W.heap.size+1) s a by rw [hW0];exact (Box.second W _ s a 27).below ((Below.refl _ _).alloc (Nat.le_refl _) _))
 have PQ:=aq (show PBox W0 (W.heap.size+1+1) (x1,x2) by
  rw [hW0];have q:=PBox.new ((W.alloc (.cells (cfCells c) 32)).alloc (.cells #[.int .i64 s.seg,.slice a.w s.words.length a.cw,.slice a.k s.keys.length a.ck,.slice a.v s.vals.length a.cv,.slice a.c s.counts.length a.cc,.int .u64 (s.laid:Int)] 27)) (x1,x2) 36
  simp only [World.size_alloc] at q
  exact q)
 have BB:=aq (show Below W.heap.size W W0 by rw [hW0];exact (((Below.refl W.heap.size W).alloc (Nat.le_refl _) _).alloc (by simp) _).alloc (by simp;omega) _);have HA:=aq (h.below BB.out);have TB:=aq (hT.below BB.out);subst hEP;have hw:IntKind.i64.wrap (k-1)=k-1:=IntWalk.i64_in _ (by omega);have hu:IntKind.u64.wrap n=n:=IntWalk.u64_in _ (by omega)
 have hz1:((X.keys.length:Int)==(s.keys.length:Int))=true:=by simp;omega
 have kT:(ET != 0)=true:=by simp [hET]
 unfold slv cfv at CPu CTa CP1;unfold Tells at CN1 CC1;unfold Parts at CP1;clear h hg hT hz hET;unfold slv pv cfv
 go_enter Tryz.func5,Tryz.ntmps5
 unfold cfCells at hW0
 go_upto_region 1 with (fail)
 rw [<-hW0];clear hW0
 go_wp2_with fail
 refine (l9Alive _ TB.out).mono ?_;rintro e w0 ⟨rfl,hb⟩;replace BC:=aq (BC.out.below hb);replace BS:=aq (BS.out.below hb);replace PQ:=aq (PQ.out.below hb);replace HA:=aq (HA.out.below hb);replace TB:=aq (TB.out.below hb);replace BB:=aq (BB.out.trans (hb.mono BB.out.size));clear hb;obtain⟨_,p0,p1,p2,p3,p4,p5,_⟩:=BS.out
 go_wp2_with fail
 refine (r4Great s a 600 _).mono ?_;rintro e w1 ⟨rfl,hb⟩;rw [HGr.out];replace BC:=aq (BC.out.below hb);replace BS:=aq (BS.out.below hb);replace PQ:=aq (PQ.out.below hb);replace HA:=aq (HA.out.below hb);replace TB:=aq (TB.out.below hb);replace BB:=aq (BB.out.trans (hb.mono BB.out.size));clear hb p0 p1 p2 p3 p4 p5;obtain⟨_,p0,p1,p2,p3,p4,p5,_⟩:=BS.out;have e0:=PQ.out.c0;have e1:=PQ.out.c1
 try dsimp only at e0 e1
 obtain⟨_,c0,c1,c2,c3,c4,c5,c6,c7,c8,_⟩:=BC.out
 go_wp2_with fail
 refine (CPu.out _ HA.out TB.out).mono ?_;rintro e w2 ⟨A2,rfl,own,hb⟩;have O2:=aq own.held;clear own;replace BC:=aq (BC.out.below hb);replace BS:=aq (BS.out.below hb);replace PQ:=aq (PQ.out.below hb);replace HA:=aq (HA.out.below hb);replace TB:=aq (TB.out.below hb);replace BB:=aq (BB.out.trans (hb.mono BB.out.size));clear hb e0 e1 c0 c1 c2 c3 c4 c5 c6 c7 c8 p0 p1 p2 p3 p4 p5;unfold slv
 go_upto_region 6 with (fail)
 obtain⟨V2,hV⟩:∃ V,V=w2.alloc (.cells #[.int .i64 X.seg,.slice A2.w X.words.length A2.cw,.slice A2.k X.keys.length A2.ck,.slice A2.v X.vals.length A2.cv,.slice A2.c X.counts.length A2.cc,.int .u64 (X.laid:Int)] 27):=⟨_,rfl⟩
 have hba:Below w2.heap.size w2 V2:=by rw [hV];exact (Below.refl _ _).alloc (Nat.le_refl _) _
 have B2:=aq (show Box V2 w2.heap.size X A2 by rw [hV];exact Box.new w2 X A2 27);rw [<-hV];clear hV;replace BC:=aq (BC.out.below hba);replace BS:=aq (BS.out.below hba);replace PQ:=aq (PQ.out.below hba);replace HA:=aq (HA.out.below hba);replace TB:=aq (TB.out.below hba);replace O2:=aq (O2.out.below hba);replace BB:=aq (BB.out.trans (hba.mono BB.out.size));clear hba;obtain⟨_,p0,p1,p2,p3,p4,p5,_⟩:=BS.out;obtain⟨_,q0,q1,q2,q3,q4,q5,_⟩:=B2.out;have e0:=PQ.out.c0;have e1:=PQ.out.c1
 try dsimp only at e0 e1
 obtain⟨_,c0,c1,c2,c3,c4,c5,c6,c7,c8,_⟩:=BC.out
 go_wp2_with fail
 refine (CN1.out _ HA.out TB.out).mono ?_;rintro e w3 ⟨rfl,hb⟩;replace BC:=aq (BC.out.below hb);replace BS:=aq (BS.out.below hb);replace PQ:=aq (PQ.out.below hb);replace HA:=aq (HA.out.below hb);replace TB:=aq (TB.out.below hb);replace O2:=aq (O2.out.below hb);replace B2:=aq (B2.out.below hb);replace BB:=aq (BB.out.trans (hb.mono BB.out.size));clear hb e0 e1 c0 c1 c2 c3 c4 c5 c6 c7 c8 p0 p1 p2 p3 p4 p5 q0 q1 q2 q3 q4 q5;obtain⟨_,p0,p1,p2,p3,p4,p5,_⟩:=BS.out;obtain⟨_,q0,q1,q2,q3,q4,q5,_⟩:=B2.out;have e0:=PQ.out.c0;have e1:=PQ.out.c1
 try dsimp only at e0 e1
 obtain⟨_,c0,c1,c2,c3,c4,c5,c6,c7,c8,_⟩:=BC.out
 go_wp2_with fail
 refine (CP1.out _ HA.out TB.out).mono ?_;rintro e w4 ⟨rfl,hb⟩;replace BC:=aq (BC.out.below hb);replace BS:=aq (BS.out.below hb);replace PQ:=aq (PQ.out.below hb);replace HA:=aq (HA.out.below hb);replace TB:=aq (TB.out.below hb);replace O2:=aq (O2.out.below hb);replace B2:=aq (B2.out.below hb);replace BB:=aq (BB.out.trans (hb.mono BB.out.size));clear hb e0 e1 c0 c1 c2 c3 c4 c5 c6 c7 c8 p0 p1 p2 p3 p4 p5 q0 q1 q2 q3 q4 q5;obtain⟨_,p0,p1,p2,p3,p4,p5,_⟩:=BS.out;obtain⟨_,q0,q1,q2,q3,q4,q5,_⟩:=B2.out;have e0:=PQ.out.c0;have e1:=PQ.out.c1
 try dsimp only at e0 e1
 obtain⟨_,c0,c1,c2,c3,c4,c5,c6,c7,c8,_⟩:=BC.out
 go_wp2_with fail
 refine (CC1.out A2 _ O2.out).mono ?_;rintro e w5 ⟨rfl,hb⟩;replace BC:=aq (BC.out.below hb);replace BS:=aq (BS.out.below hb);replace PQ:=aq (PQ.out.below hb);replace HA:=aq (HA.out.below hb);replace TB:=aq (TB.out.below hb);replace O2:=aq (O2.out.below hb);replace B2:=aq (B2.out.below hb);replace BB:=aq (BB.out.trans (hb.mono BB.out.size));clear hb e0 e1 c0 c1 c2 c3 c4 c5 c6 c7 c8 p0 p1 p2 p3 p4 p5 q0 q1 q2 q3 q4 q5;obtain⟨_,p0,p1,p2,p3,p4,p5,_⟩:=BS.out;obtain⟨_,q0,q1,q2,q3,q4,q5,_⟩:=B2.out;have e0:=PQ.out.c0;have e1:=PQ.out.c1
 try dsimp only at e0 e1
 obtain⟨_,c0,c1,c2,c3,c4,c5,c6,c7,c8,_⟩:=BC.out
 go_wp2_with fail
 refine (CTa.out _ HA.out TB.out).mono ?_;rintro e w6 ⟨A3,rfl,own,hb⟩;have O3:=aq own.held;clear own;replace BC:=aq (BC.out.below hb);replace BS:=aq (BS.out.below hb);replace PQ:=aq (PQ.out.below hb);replace HA:=aq (HA.out.below hb);replace TB:=aq (TB.out.below hb);replace O2:=aq (O2.out.below hb);replace B2:=aq (B2.out.below hb);replace BB:=aq (BB.out.trans (hb.mono BB.out.size));clear hb e0 e1 c0 c1 c2 c3 c4 c5 c6 c7 c8 p0 p1 p2 p3 p4 p5 q0 q1 q2 q3 q4 q5;unfold slv
 go_upto_region 15 with (fail)
 obtain⟨V3,hV⟩:∃ V,V=w6.alloc (.cells #[.int .i64 Y.seg,.slice A3.w Y.words.length A3.cw,.slice A3.k Y.keys.length A3.ck,.slice A3.v Y.vals.length A3.cv,.slice A3.c Y.counts.length A3.cc,.int .u64 (Y.laid:Int)] 27):=⟨_,rfl⟩
 have hba:Below w6.heap.size w6 V3:=by rw [hV];exact (Below.refl _ _).alloc (Nat.le_refl _) _
 have B3:=aq (show Box V3 w6.heap.size Y A3 by rw [hV];exact Box.new w6 Y A3 27);rw [<-hV];clear hV;replace BC:=aq (BC.out.below hba);replace BS:=aq (BS.out.below hba);replace PQ:=aq (PQ.out.below hba);replace HA:=aq (HA.out.below hba);replace TB:=aq (TB.out.below hba);replace O2:=aq (O2.out.below hba);replace B2:=aq (B2.out.below hba);replace O3:=aq (O3.out.below hba);replace BB:=aq (BB.out.trans (hba.mono BB.out.size));clear hba;go_wp2;go_ret;exact⟨rfl,BB.out⟩
theorem full11 (s:Sl) (a:Ads) (c:Cf) (k x1 x2:Int) (W:World) (h:Held W s a) (hg:s.greatB 600=false) (hT:Tab W) (X Y:Sl) (EP ET:Int) (l2:s.keys.length<=65536) (lx:X.keys.length<=65536) (ly:Y.keys.length<=65536)
  (CPu:Hid (∀ V,Held V s a->Tab V->Calls Tryz.prog 9 #[cfv c,slv s a,.int .i64 k,.agg #[.int .i64 x1,.int .i64 x2]] V (Ans X EP V)))
  (CTa:Hid (∀ V,Held V s a->Tab V->Calls Tryz.prog 10 #[cfv c,slv s a,.int .i64 k] V (Ans Y ET V)))
  (hEP:EP=0) (hET:ET=0) (xa:Nat) (f t:Int) (n:Int) (eN:Int) (m1:Int) (hm:max (k-1) 0=m1) (hk0:0<=k) (hk1:k<=65536) (hxa:xa<=65536) (n0:0<=n) (n1:n<=65536) (hl:IntKind.u64.wrap ((X.laid:Int)-(s.laid:Int))=n) (hz:X.keys.length=s.keys.length)
  (CN1:Hid (∀ V,Held V s a->Tab V->Calls Tryz.prog 21 #[.slice a.w s.words.length a.cw,.int .i64 s.keys.length,.int .i64 m1] V (Tells xa eN V)))
  (CP1:Hid (∀ V,Held V s a->Tab V->Calls Tryz.prog 22 #[cfv c,slv s a,.int .i64 (xa:Int),.int .i64 1] V (Parts f t true V)))
  (CC1:Hid (∀ A V,Held V X A->Calls Tryz.prog 23 #[.slice A.w X.words.length A.cw,.int .i64 X.keys.length,.int .i64 f,.int .i64 t] V (Tells n 0 V))) (xb:Nat) (f2 t2:Int) (n2:Int) (hxb:xb<=65536) (n20:0<=n2) (n21:n2<=65536) (hl2:IntKind.u64.wrap ((Y.laid:Int)-(s.laid:Int))=n2) (hz2:Y.keys.length=s.keys.length) (B:Sl)
  (CN2:Hid (∀ V,Held V s a->Tab V->Calls Tryz.prog 21 #[.slice a.w s.words.length a.cw,.int .i64 s.keys.length,.int .i64 k] V (Tells xb 0 V)))
  (CL2:Hid (∀ V,Held V s a->Tab V->Calls Tryz.prog 24 #[slv s a,.int .i64 (xb:Int)] V (Ans B 0 V)))
  (CP2:Hid (∀ A V,Held V B A->Tab V->Calls Tryz.prog 22 #[cfv c,slv B A,.int .i64 (xb:Int),.int .i64 0] V (Parts f2 t2 true V)))
  (CC2:Hid (∀ A V,Held V Y A->Calls Tryz.prog 23 #[.slice A.w Y.words.length A.cw,.int .i64 Y.keys.length,.int .i64 f2,.int .i64 t2] V (Tells n2 0 V))) :
  Calls Tryz.prog 5 #[cfv c,slv s a,.int .i64 k,pv (x1,x2)] W fun e w'=>e=.returned (.bool true)/\Below W.heap.size W w':=by
 have HGr:=aq hg;obtain⟨W0,hW0⟩:∃ W0,W0=((W.alloc (.cells (cfCells c) 32)).alloc (.cells #[.int .i64 s.seg,.slice a.w s.words.length a.cw,.slice a.k s.keys.length a.ck,.slice a.v s.vals.length a.cv,.slice a.c s.counts.length a.cc,.int .u64 (s.laid:Int)] 27)).alloc (.cells #[.int .i64 x1,.int .i64 x2] 36):=⟨_,rfl⟩;have BC:=aq (show CBox W0 W.heap.size c by rw [hW0];exact ((CBox.new W c 32).below ((Below.refl _ _).alloc (Nat.le_refl _) _)).below ((Below.refl _ _).alloc (Nat.le_refl _) _));have BS:=aq (show Box W0 (W.heap.size+1) s a by rw [hW0];exact (Box.second W _ s a 27).below ((Below.refl _ _).alloc (Nat.le_refl _) _))
 have PQ:=aq (show PBox W0 (W.heap.size+1+1) (x1,x2) by
  rw [hW0];have q:=PBox.new ((W.alloc (.cells (cfCells c) 32)).alloc (.cells #[.int .i64 s.seg,.slice a.w s.words.length a.cw,.slice a.k s.keys.length a.ck,.slice a.v s.vals.length a.cv,.slice a.c s.counts.length a.cc,.int .u64 (s.laid:Int)] 27)) (x1,x2) 36
  simp only [World.size_alloc] at q
  exact q)
 have BB:=aq (show Below W.heap.size W W0 by rw [hW0];exact (((Below.refl W.heap.size W).alloc (Nat.le_refl _) _).alloc (by simp) _).alloc (by simp;omega) _);have HA:=aq (h.below BB.out);have TB:=aq (hT.below BB.out);subst hEP;have hw:IntKind.i64.wrap (k-1)=k-1:=IntWalk.i64_in _ (by omega);have hu:IntKind.u64.wrap n=n:=IntWalk.u64_in _ (by omega)
 have hz1:((X.keys.length:Int)==(s.keys.length:Int))=true:=by simp;omega
 subst hET;have hu2:IntKind.u64.wrap n2=n2:=IntWalk.u64_in _ (by omega)
 have hz3:((Y.keys.length:Int)==(s.keys.length:Int))=true:=by simp;omega
 unfold slv cfv at CPu CTa CP1  CP2;unfold slv at CL2;unfold Tells at CN1 CC1 CN2 CC2;unfold Parts at CP1 CP2;clear h hg hT hz hz2;unfold slv pv cfv
 go_enter Tryz.func5,Tryz.ntmps5
 unfold cfCells at hW0
 go_upto_region 1 with (fail)
 rw [<-hW0];clear hW0
 go_wp2_with fail
 refine (l9Alive _ TB.out).mono ?_;rintro e w0 ⟨rfl,hb⟩;replace BC:=aq (BC.out.below hb);replace BS:=aq (BS.out.below hb);replace PQ:=aq (PQ.out.below hb);replace HA:=aq (HA.out.below hb);replace TB:=aq (TB.out.below hb);replace BB:=aq (BB.out.trans (hb.mono BB.out.size));clear hb;obtain⟨_,p0,p1,p2,p3,p4,p5,_⟩:=BS.out
 go_wp2_with fail
 refine (r4Great s a 600 _).mono ?_;rintro e w1 ⟨rfl,hb⟩;rw [HGr.out];replace BC:=aq (BC.out.below hb);replace BS:=aq (BS.out.below hb);replace PQ:=aq (PQ.out.below hb);replace HA:=aq (HA.out.below hb);replace TB:=aq (TB.out.below hb);replace BB:=aq (BB.out.trans (hb.mono BB.out.size));clear hb p0 p1 p2 p3 p4 p5;obtain⟨_,p0,p1,p2,p3,p4,p5,_⟩:=BS.out;have e0:=PQ.out.c0;have e1:=PQ.out.c1
 try dsimp only at e0 e1
 obtain⟨_,c0,c1,c2,c3,c4,c5,c6,c7,c8,_⟩:=BC.out
 go_wp2_with fail
 refine (CPu.out _ HA.out TB.out).mono ?_;rintro e w2 ⟨A2,rfl,own,hb⟩;have O2:=aq own.held;clear own;replace BC:=aq (BC.out.below hb);replace BS:=aq (BS.out.below hb);replace PQ:=aq (PQ.out.below hb);replace HA:=aq (HA.out.below hb);replace TB:=aq (TB.out.below hb);replace BB:=aq (BB.out.trans (hb.mono BB.out.size));clear hb e0 e1 c0 c1 c2 c3 c4 c5 c6 c7 c8 p0 p1 p2 p3 p4 p5;unfold slv
 go_upto_region 6 with (fail)
 obtain⟨V2,hV⟩:∃ V,V=w2.alloc (.cells #[.int .i64 X.seg,.slice A2.w X.words.length A2.cw,.slice A2.k X.keys.length A2.ck,.slice A2.v X.vals.length A2.cv,.slice A2.c X.counts.length A2.cc,.int .u64 (X.laid:Int)] 27):=⟨_,rfl⟩
 have hba:Below w2.heap.size w2 V2:=by rw [hV];exact (Below.refl _ _).alloc (Nat.le_refl _) _
 have B2:=aq (show Box V2 w2.heap.size X A2 by rw [hV];exact Box.new w2 X A2 27);rw [<-hV];clear hV;replace BC:=aq (BC.out.below hba);replace BS:=aq (BS.out.below hba);replace PQ:=aq (PQ.out.below hba);replace HA:=aq (HA.out.below hba);replace TB:=aq (TB.out.below hba);replace O2:=aq (O2.out.below hba);replace BB:=aq (BB.out.trans (hba.mono BB.out.size));clear hba;obtain⟨_,p0,p1,p2,p3,p4,p5,_⟩:=BS.out;obtain⟨_,q0,q1,q2,q3,q4,q5,_⟩:=B2.out;have e0:=PQ.out.c0;have e1:=PQ.out.c1
 try dsimp only at e0 e1
 obtain⟨_,c0,c1,c2,c3,c4,c5,c6,c7,c8,_⟩:=BC.out
 go_wp2_with fail
 refine (CN1.out _ HA.out TB.out).mono ?_;rintro e w3 ⟨rfl,hb⟩;replace BC:=aq (BC.out.below hb);replace BS:=aq (BS.out.below hb);replace PQ:=aq (PQ.out.below hb);replace HA:=aq (HA.out.below hb);replace TB:=aq (TB.out.below hb);replace O2:=aq (O2.out.below hb);replace B2:=aq (B2.out.below hb);replace BB:=aq (BB.out.trans (hb.mono BB.out.size));clear hb e0 e1 c0 c1 c2 c3 c4 c5 c6 c7 c8 p0 p1 p2 p3 p4 p5 q0 q1 q2 q3 q4 q5;obtain⟨_,p0,p1,p2,p3,p4,p5,_⟩:=BS.out;obtain⟨_,q0,q1,q2,q3,q4,q5,_⟩:=B2.out;have e0:=PQ.out.c0;have e1:=PQ.out.c1
 try dsimp only at e0 e1
 obtain⟨_,c0,c1,c2,c3,c4,c5,c6,c7,c8,_⟩:=BC.out
 go_wp2_with fail
 refine (CP1.out _ HA.out TB.out).mono ?_;rintro e w4 ⟨rfl,hb⟩;replace BC:=aq (BC.out.below hb);replace BS:=aq (BS.out.below hb);replace PQ:=aq (PQ.out.below hb);replace HA:=aq (HA.out.below hb);replace TB:=aq (TB.out.below hb);replace O2:=aq (O2.out.below hb);replace B2:=aq (B2.out.below hb);replace BB:=aq (BB.out.trans (hb.mono BB.out.size));clear hb e0 e1 c0 c1 c2 c3 c4 c5 c6 c7 c8 p0 p1 p2 p3 p4 p5 q0 q1 q2 q3 q4 q5;obtain⟨_,p0,p1,p2,p3,p4,p5,_⟩:=BS.out;obtain⟨_,q0,q1,q2,q3,q4,q5,_⟩:=B2.out;have e0:=PQ.out.c0;have e1:=PQ.out.c1
 try dsimp only at e0 e1
 obtain⟨_,c0,c1,c2,c3,c4,c5,c6,c7,c8,_⟩:=BC.out
 go_wp2_with fail
 refine (CC1.out A2 _ O2.out).mono ?_;rintro e w5 ⟨rfl,hb⟩;replace BC:=aq (BC.out.below hb);replace BS:=aq (BS.out.below hb);replace PQ:=aq (PQ.out.below hb);replace HA:=aq (HA.out.below hb);replace TB:=aq (TB.out.below hb);replace O2:=aq (O2.out.below hb);replace B2:=aq (B2.out.below hb);replace BB:=aq (BB.out.trans (hb.mono BB.out.size));clear hb e0 e1 c0 c1 c2 c3 c4 c5 c6 c7 c8 p0 p1 p2 p3 p4 p5 q0 q1 q2 q3 q4 q5;obtain⟨_,p0,p1,p2,p3,p4,p5,_⟩:=BS.out;obtain⟨_,q0,q1,q2,q3,q4,q5,_⟩:=B2.out;have e0:=PQ.out.c0;have e1:=PQ.out.c1
 try dsimp only at e0 e1
 obtain⟨_,c0,c1,c2,c3,c4,c5,c6,c7,c8,_⟩:=BC.out
 go_wp2_with fail
 refine (CTa.out _ HA.out TB.out).mono ?_;rintro e w6 ⟨A3,rfl,own,hb⟩;have O3:=aq own.held;clear own;replace BC:=aq (BC.out.below hb);replace BS:=aq (BS.out.below hb);replace PQ:=aq (PQ.out.below hb);replace HA:=aq (HA.out.below hb);replace TB:=aq (TB.out.below hb);replace O2:=aq (O2.out.below hb);replace B2:=aq (B2.out.below hb);replace BB:=aq (BB.out.trans (hb.mono BB.out.size));clear hb e0 e1 c0 c1 c2 c3 c4 c5 c6 c7 c8 p0 p1 p2 p3 p4 p5 q0 q1 q2 q3 q4 q5;unfold slv
 go_upto_region 15 with (fail)
 obtain⟨V3,hV⟩:∃ V,V=w6.alloc (.cells #[.int .i64 Y.seg,.slice A3.w Y.words.length A3.cw,.slice A3.k Y.keys.length A3.ck,.slice A3.v Y.vals.length A3.cv,.slice A3.c Y.counts.length A3.cc,.int .u64 (Y.laid:Int)] 27):=⟨_,rfl⟩
 have hba:Below w6.heap.size w6 V3:=by rw [hV];exact (Below.refl _ _).alloc (Nat.le_refl _) _
 have B3:=aq (show Box V3 w6.heap.size Y A3 by rw [hV];exact Box.new w6 Y A3 27);rw [<-hV];clear hV;replace BC:=aq (BC.out.below hba);replace BS:=aq (BS.out.below hba);replace PQ:=aq (PQ.out.below hba);replace HA:=aq (HA.out.below hba);replace TB:=aq (TB.out.below hba);replace O2:=aq (O2.out.below hba);replace B2:=aq (B2.out.below hba);replace O3:=aq (O3.out.below hba);replace BB:=aq (BB.out.trans (hba.mono BB.out.size));clear hba;obtain⟨_,p0,p1,p2,p3,p4,p5,_⟩:=BS.out;obtain⟨_,q0,q1,q2,q3,q4,q5,_⟩:=B2.out;obtain⟨_,r0,r1,r2,r3,r4,r5,_⟩:=B3.out;have e0:=PQ.out.c0;have e1:=PQ.out.c1
 try dsimp only at e0 e1
 obtain⟨_,c0,c1,c2,c3,c4,c5,c6,c7,c8,_⟩:=BC.out
 go_wp2_with fail
 refine (CN2.out _ HA.out TB.out).mono ?_;rintro e w7 ⟨rfl,hb⟩;replace BC:=aq (BC.out.below hb);replace BS:=aq (BS.out.below hb);replace PQ:=aq (PQ.out.below hb);replace HA:=aq (HA.out.below hb);replace TB:=aq (TB.out.below hb);replace O2:=aq (O2.out.below hb);replace B2:=aq (B2.out.below hb);replace O3:=aq (O3.out.below hb);replace B3:=aq (B3.out.below hb);replace BB:=aq (BB.out.trans (hb.mono BB.out.size));clear hb e0 e1 c0 c1 c2 c3 c4 c5 c6 c7 c8 p0 p1 p2 p3 p4 p5 q0 q1 q2 q3 q4 q5 r0 r1 r2 r3 r4 r5;obtain⟨_,p0,p1,p2,p3,p4,p5,_⟩:=BS.out;obtain⟨_,q0,q1,q2,q3,q4,q5,_⟩:=B2.out;obtain⟨_,r0,r1,r2,r3,r4,r5,_⟩:=B3.out;have e0:=PQ.out.c0;have e1:=PQ.out.c1
 try dsimp only at e0 e1
 obtain⟨_,c0,c1,c2,c3,c4,c5,c6,c7,c8,_⟩:=BC.out
 go_wp2_with fail
 refine (CL2.out _ HA.out TB.out).mono ?_;rintro e w8 ⟨A4,rfl,own,hb⟩;have O4:=aq own.held;clear own;replace BC:=aq (BC.out.below hb);replace BS:=aq (BS.out.below hb);replace PQ:=aq (PQ.out.below hb);replace HA:=aq (HA.out.below hb);replace TB:=aq (TB.out.below hb);replace O2:=aq (O2.out.below hb);replace B2:=aq (B2.out.below hb);replace O3:=aq (O3.out.below hb);replace B3:=aq (B3.out.below hb);replace BB:=aq (BB.out.trans (hb.mono BB.out.size));clear hb e0 e1 c0 c1 c2 c3 c4 c5 c6 c7 c8 p0 p1 p2 p3 p4 p5 q0 q1 q2 q3 q4 q5 r0 r1 r2 r3 r4 r5;unfold slv
 go_upto_region 19 with (fail)
 obtain⟨V4,hV⟩:∃ V,V=w8.alloc (.cells #[.int .i64 B.seg,.slice A4.w B.words.length A4.cw,.slice A4.k B.keys.length A4.ck,.slice A4.v B.vals.length A4.cv,.slice A4.c B.counts.length A4.cc,.int .u64 (B.laid:Int)] 27):=⟨_,rfl⟩
 have hba:Below w8.heap.size w8 V4:=by rw [hV];exact (Below.refl _ _).alloc (Nat.le_refl _) _
 have B4:=aq (show Box V4 w8.heap.size B A4 by rw [hV];exact Box.new w8 B A4 27);rw [<-hV];clear hV;replace BC:=aq (BC.out.below hba);replace BS:=aq (BS.out.below hba);replace PQ:=aq (PQ.out.below hba);replace HA:=aq (HA.out.below hba);replace TB:=aq (TB.out.below hba);replace O2:=aq (O2.out.below hba);replace B2:=aq (B2.out.below hba);replace O3:=aq (O3.out.below hba);replace B3:=aq (B3.out.below hba);replace O4:=aq (O4.out.below hba);replace BB:=aq (BB.out.trans (hba.mono BB.out.size));clear hba;obtain⟨_,p0,p1,p2,p3,p4,p5,_⟩:=BS.out;obtain⟨_,q0,q1,q2,q3,q4,q5,_⟩:=B2.out;obtain⟨_,r0,r1,r2,r3,r4,r5,_⟩:=B3.out;obtain⟨_,s0,s1,s2,s3,s4,s5,_⟩:=B4.out;have e0:=PQ.out.c0;have e1:=PQ.out.c1
 try dsimp only at e0 e1
 obtain⟨_,c0,c1,c2,c3,c4,c5,c6,c7,c8,_⟩:=BC.out
 go_wp2_with fail
 refine (CP2.out A4 _ O4.out TB.out).mono ?_;rintro e w9 ⟨rfl,hb⟩;replace BC:=aq (BC.out.below hb);replace BS:=aq (BS.out.below hb);replace PQ:=aq (PQ.out.below hb);replace HA:=aq (HA.out.below hb);replace TB:=aq (TB.out.below hb);replace O2:=aq (O2.out.below hb);replace B2:=aq (B2.out.below hb);replace O3:=aq (O3.out.below hb);replace B3:=aq (B3.out.below hb);replace O4:=aq (O4.out.below hb);replace B4:=aq (B4.out.below hb);replace BB:=aq (BB.out.trans (hb.mono BB.out.size));clear hb e0 e1 c0 c1 c2 c3 c4 c5 c6 c7 c8 p0 p1 p2 p3 p4 p5 q0 q1 q2 q3 q4 q5 r0 r1 r2 r3 r4 r5 s0 s1 s2 s3 s4 s5;obtain⟨_,p0,p1,p2,p3,p4,p5,_⟩:=BS.out;obtain⟨_,q0,q1,q2,q3,q4,q5,_⟩:=B2.out;obtain⟨_,r0,r1,r2,r3,r4,r5,_⟩:=B3.out;obtain⟨_,s0,s1,s2,s3,s4,s5,_⟩:=B4.out;have e0:=PQ.out.c0;have e1:=PQ.out.c1
 try dsimp only at e0 e1
 obtain⟨_,c0,c1,c2,c3,c4,c5,c6,c7,c8,_⟩:=BC.out
 go_wp2_with fail
 refine (CC2.out A3 _ O3.out).mono ?_;rintro e w10 ⟨rfl,hb⟩;replace BC:=aq (BC.out.below hb);replace BS:=aq (BS.out.below hb);replace PQ:=aq (PQ.out.below hb);replace HA:=aq (HA.out.below hb);replace TB:=aq (TB.out.below hb);replace O2:=aq (O2.out.below hb);replace B2:=aq (B2.out.below hb);replace O3:=aq (O3.out.below hb);replace B3:=aq (B3.out.below hb);replace O4:=aq (O4.out.below hb);replace B4:=aq (B4.out.below hb);replace BB:=aq (BB.out.trans (hb.mono BB.out.size));clear hb e0 e1 c0 c1 c2 c3 c4 c5 c6 c7 c8 p0 p1 p2 p3 p4 p5 q0 q1 q2 q3 q4 q5 r0 r1 r2 r3 r4 r5 s0 s1 s2 s3 s4 s5;obtain⟨_,p0,p1,p2,p3,p4,p5,_⟩:=BS.out;obtain⟨_,r0,r1,r2,r3,r4,r5,_⟩:=B3.out;go_wp2;go_ret;exact⟨rfl,BB.out⟩
theorem full12 (s:Sl) (a:Ads) (c:Cf) (k x1 x2:Int) (W:World) (h:Held W s a) (hg:s.greatB 600=false) (hT:Tab W) (X Y:Sl) (EP ET:Int) (l2:s.keys.length<=65536) (lx:X.keys.length<=65536) (ly:Y.keys.length<=65536)
  (CPu:Hid (∀ V,Held V s a->Tab V->Calls Tryz.prog 9 #[cfv c,slv s a,.int .i64 k,.agg #[.int .i64 x1,.int .i64 x2]] V (Ans X EP V)))
  (CTa:Hid (∀ V,Held V s a->Tab V->Calls Tryz.prog 10 #[cfv c,slv s a,.int .i64 k] V (Ans Y ET V)))
  (hEP:EP=0) (hET:ET=0) (xa:Nat) (f t:Int) (n:Int) (eN:Int) (m1:Int) (hm:max (k-1) 0=m1) (hk0:0<=k) (hk1:k<=65536) (hxa:xa<=65536) (n0:0<=n) (n1:n<=65536) (hl:IntKind.u64.wrap ((X.laid:Int)-(s.laid:Int))=n) (hz:X.keys.length=s.keys.length)
  (CN1:Hid (∀ V,Held V s a->Tab V->Calls Tryz.prog 21 #[.slice a.w s.words.length a.cw,.int .i64 s.keys.length,.int .i64 m1] V (Tells xa eN V)))
  (CP1:Hid (∀ V,Held V s a->Tab V->Calls Tryz.prog 22 #[cfv c,slv s a,.int .i64 (xa:Int),.int .i64 1] V (Parts f t true V)))
  (CC1:Hid (∀ A V,Held V X A->Calls Tryz.prog 23 #[.slice A.w X.words.length A.cw,.int .i64 X.keys.length,.int .i64 f,.int .i64 t] V (Tells n 0 V))) (xb:Nat) (f2 t2:Int) (n2:Int) (hxb:xb<=65536) (n20:0<=n2) (n21:n2<=65536) (hl2:IntKind.u64.wrap ((Y.laid:Int)-(s.laid:Int))=n2) (hz2:Y.keys.length≠s.keys.length) (B:Sl)
  (CN2:Hid (∀ V,Held V s a->Tab V->Calls Tryz.prog 21 #[.slice a.w s.words.length a.cw,.int .i64 s.keys.length,.int .i64 k] V (Tells xb 0 V)))
  (CL2:Hid (∀ V,Held V s a->Tab V->Calls Tryz.prog 24 #[slv s a,.int .i64 (xb:Int)] V (Ans B 0 V)))
  (CP2:Hid (∀ A V,Held V B A->Tab V->Calls Tryz.prog 22 #[cfv c,slv B A,.int .i64 (xb:Int),.int .i64 0] V (Parts f2 t2 false V)))
  (CC2:Hid (∀ A V,Held V Y A->Calls Tryz.prog 23 #[.slice A.w Y.words.length A.cw,.int .i64 Y.keys.length,.int .i64 0,.int .i64 (Y.keys.length:Int)] V (Tells n2 0 V))) :
  Calls Tryz.prog 5 #[cfv c,slv s a,.int .i64 k,pv (x1,x2)] W fun e w'=>e=.returned (.bool true)/\Below W.heap.size W w':=by
 have HGr:=aq hg;obtain⟨W0,hW0⟩:∃ W0,W0=((W.alloc (.cells (cfCells c) 32)).alloc (.cells #[.int .i64 s.seg,.slice a.w s.words.length a.cw,.slice a.k s.keys.length a.ck,.slice a.v s.vals.length a.cv,.slice a.c s.counts.length a.cc,.int .u64 (s.laid:Int)] 27)).alloc (.cells #[.int .i64 x1,.int .i64 x2] 36):=⟨_,rfl⟩;have BC:=aq (show CBox W0 W.heap.size c by rw [hW0];exact ((CBox.new W c 32).below ((Below.refl _ _).alloc (Nat.le_refl _) _)).below ((Below.refl _ _).alloc (Nat.le_refl _) _));have BS:=aq (show Box W0 (W.heap.size+1) s a by rw [hW0];exact (Box.second W _ s a 27).below ((Below.refl _ _).alloc (Nat.le_refl _) _))
 have PQ:=aq (show PBox W0 (W.heap.size+1+1) (x1,x2) by
  rw [hW0];have q:=PBox.new ((W.alloc (.cells (cfCells c) 32)).alloc (.cells #[.int .i64 s.seg,.slice a.w s.words.length a.cw,.slice a.k s.keys.length a.ck,.slice a.v s.vals.length a.cv,.slice a.c s.counts.length a.cc,.int .u64 (s.laid:Int)] 27)) (x1,x2) 36
  simp only [World.size_alloc] at q
  exact q)
 have BB:=aq (show Below W.heap.size W W0 by rw [hW0];exact (((Below.refl W.heap.size W).alloc (Nat.le_refl _) _).alloc (by simp) _).alloc (by simp;omega) _);have HA:=aq (h.below BB.out);have TB:=aq (hT.below BB.out);subst hEP;have hw:IntKind.i64.wrap (k-1)=k-1:=IntWalk.i64_in _ (by omega);have hu:IntKind.u64.wrap n=n:=IntWalk.u64_in _ (by omega)
 have hz1:((X.keys.length:Int)==(s.keys.length:Int))=true:=by simp;omega
 subst hET;have hu2:IntKind.u64.wrap n2=n2:=IntWalk.u64_in _ (by omega)
 have hz3:((Y.keys.length:Int)==(s.keys.length:Int))=false:=by simp;omega
 unfold slv cfv at CPu CTa CP1  CP2;unfold slv at CL2;unfold Tells at CN1 CC1 CN2 CC2;unfold Parts at CP1 CP2;clear h hg hT hz hz2;unfold slv pv cfv
 go_enter Tryz.func5,Tryz.ntmps5
 unfold cfCells at hW0
 go_upto_region 1 with (fail)
 rw [<-hW0];clear hW0
 go_wp2_with fail
 refine (l9Alive _ TB.out).mono ?_;rintro e w0 ⟨rfl,hb⟩;replace BC:=aq (BC.out.below hb);replace BS:=aq (BS.out.below hb);replace PQ:=aq (PQ.out.below hb);replace HA:=aq (HA.out.below hb);replace TB:=aq (TB.out.below hb);replace BB:=aq (BB.out.trans (hb.mono BB.out.size));clear hb;obtain⟨_,p0,p1,p2,p3,p4,p5,_⟩:=BS.out
 go_wp2_with fail
 refine (r4Great s a 600 _).mono ?_;rintro e w1 ⟨rfl,hb⟩;rw [HGr.out];replace BC:=aq (BC.out.below hb);replace BS:=aq (BS.out.below hb);replace PQ:=aq (PQ.out.below hb);replace HA:=aq (HA.out.below hb);replace TB:=aq (TB.out.below hb);replace BB:=aq (BB.out.trans (hb.mono BB.out.size));clear hb p0 p1 p2 p3 p4 p5;obtain⟨_,p0,p1,p2,p3,p4,p5,_⟩:=BS.out;have e0:=PQ.out.c0;have e1:=PQ.out.c1
 try dsimp only at e0 e1
 obtain⟨_,c0,c1,c2,c3,c4,c5,c6,c7,c8,_⟩:=BC.out
 go_wp2_with fail
 refine (CPu.out _ HA.out TB.out).mono ?_;rintro e w2 ⟨A2,rfl,own,hb⟩;have O2:=aq own.held;clear own;replace BC:=aq (BC.out.below hb);replace BS:=aq (BS.out.below hb);replace PQ:=aq (PQ.out.below hb);replace HA:=aq (HA.out.below hb);replace TB:=aq (TB.out.below hb);replace BB:=aq (BB.out.trans (hb.mono BB.out.size));clear hb e0 e1 c0 c1 c2 c3 c4 c5 c6 c7 c8 p0 p1 p2 p3 p4 p5;unfold slv
 go_upto_region 6 with (fail)
 obtain⟨V2,hV⟩:∃ V,V=w2.alloc (.cells #[.int .i64 X.seg,.slice A2.w X.words.length A2.cw,.slice A2.k X.keys.length A2.ck,.slice A2.v X.vals.length A2.cv,.slice A2.c X.counts.length A2.cc,.int .u64 (X.laid:Int)] 27):=⟨_,rfl⟩
 have hba:Below w2.heap.size w2 V2:=by rw [hV];exact (Below.refl _ _).alloc (Nat.le_refl _) _
 have B2:=aq (show Box V2 w2.heap.size X A2 by rw [hV];exact Box.new w2 X A2 27);rw [<-hV];clear hV;replace BC:=aq (BC.out.below hba);replace BS:=aq (BS.out.below hba);replace PQ:=aq (PQ.out.below hba);replace HA:=aq (HA.out.below hba);replace TB:=aq (TB.out.below hba);replace O2:=aq (O2.out.below hba);replace BB:=aq (BB.out.trans (hba.mono BB.out.size));clear hba;obtain⟨_,p0,p1,p2,p3,p4,p5,_⟩:=BS.out;obtain⟨_,q0,q1,q2,q3,q4,q5,_⟩:=B2.out;have e0:=PQ.out.c0;have e1:=PQ.out.c1
 try dsimp only at e0 e1
 obtain⟨_,c0,c1,c2,c3,c4,c5,c6,c7,c8,_⟩:=BC.out
 go_wp2_with fail
 refine (CN1.out _ HA.out TB.out).mono ?_;rintro e w3 ⟨rfl,hb⟩;replace BC:=aq (BC.out.below hb);replace BS:=aq (BS.out.below hb);replace PQ:=aq (PQ.out.below hb);replace HA:=aq (HA.out.below hb);replace TB:=aq (TB.out.below hb);replace O2:=aq (O2.out.below hb);replace B2:=aq (B2.out.below hb);replace BB:=aq (BB.out.trans (hb.mono BB.out.size));clear hb e0 e1 c0 c1 c2 c3 c4 c5 c6 c7 c8 p0 p1 p2 p3 p4 p5 q0 q1 q2 q3 q4 q5;obtain⟨_,p0,p1,p2,p3,p4,p5,_⟩:=BS.out;obtain⟨_,q0,q1,q2,q3,q4,q5,_⟩:=B2.out;have e0:=PQ.out.c0;have e1:=PQ.out.c1
 try dsimp only at e0 e1
 obtain⟨_,c0,c1,c2,c3,c4,c5,c6,c7,c8,_⟩:=BC.out
 go_wp2_with fail
 refine (CP1.out _ HA.out TB.out).mono ?_;rintro e w4 ⟨rfl,hb⟩;replace BC:=aq (BC.out.below hb);replace BS:=aq (BS.out.below hb);replace PQ:=aq (PQ.out.below hb);replace HA:=aq (HA.out.below hb);replace TB:=aq (TB.out.below hb);replace O2:=aq (O2.out.below hb);replace B2:=aq (B2.out.below hb);replace BB:=aq (BB.out.trans (hb.mono BB.out.size));clear hb e0 e1 c0 c1 c2 c3 c4 c5 c6 c7 c8 p0 p1 p2 p3 p4 p5 q0 q1 q2 q3 q4 q5;obtain⟨_,p0,p1,p2,p3,p4,p5,_⟩:=BS.out;obtain⟨_,q0,q1,q2,q3,q4,q5,_⟩:=B2.out;have e0:=PQ.out.c0;have e1:=PQ.out.c1
 try dsimp only at e0 e1
 obtain⟨_,c0,c1,c2,c3,c4,c5,c6,c7,c8,_⟩:=BC.out
 go_wp2_with fail
 refine (CC1.out A2 _ O2.out).mono ?_;rintro e w5 ⟨rfl,hb⟩;replace BC:=aq (BC.out.below hb);replace BS:=aq (BS.out.below hb);replace PQ:=aq (PQ.out.below hb);replace HA:=aq (HA.out.below hb);replace TB:=aq (TB.out.below hb);replace O2:=aq (O2.out.below hb);replace B2:=aq (B2.out.below hb);replace BB:=aq (BB.out.trans (hb.mono BB.out.size));clear hb e0 e1 c0 c1 c2 c3 c4 c5 c6 c7 c8 p0 p1 p2 p3 p4 p5 q0 q1 q2 q3 q4 q5;obtain⟨_,p0,p1,p2,p3,p4,p5,_⟩:=BS.out;obtain⟨_,q0,q1,q2,q3,q4,q5,_⟩:=B2.out;have e0:=PQ.out.c0;have e1:=PQ.out.c1
 try dsimp only at e0 e1
 obtain⟨_,c0,c1,c2,c3,c4,c5,c6,c7,c8,_⟩:=BC.out
 go_wp2_with fail
 refine (CTa.out _ HA.out TB.out).mono ?_;rintro e w6 ⟨A3,rfl,own,hb⟩;have O3:=aq own.held;clear own;replace BC:=aq (BC.out.below hb);replace BS:=aq (BS.out.below hb);replace PQ:=aq (PQ.out.below hb);replace HA:=aq (HA.out.below hb);replace TB:=aq (TB.out.below hb);replace O2:=aq (O2.out.below hb);replace B2:=aq (B2.out.below hb);replace BB:=aq (BB.out.trans (hb.mono BB.out.size));clear hb e0 e1 c0 c1 c2 c3 c4 c5 c6 c7 c8 p0 p1 p2 p3 p4 p5 q0 q1 q2 q3 q4 q5;unfold slv
 go_upto_region 15 with (fail)
 obtain⟨V3,hV⟩:∃ V,V=w6.alloc (.cells #[.int .i64 Y.seg,.slice A3.w Y.words.length A3.cw,.slice A3.k Y.keys.length A3.ck,.slice A3.v Y.vals.length A3.cv,.slice A3.c Y.counts.length A3.cc,.int .u64 (Y.laid:Int)] 27):=⟨_,rfl⟩
 have hba:Below w6.heap.size w6 V3:=by rw [hV];exact (Below.refl _ _).alloc (Nat.le_refl _) _
 have B3:=aq (show Box V3 w6.heap.size Y A3 by rw [hV];exact Box.new w6 Y A3 27);rw [<-hV];clear hV;replace BC:=aq (BC.out.below hba);replace BS:=aq (BS.out.below hba);replace PQ:=aq (PQ.out.below hba);replace HA:=aq (HA.out.below hba);replace TB:=aq (TB.out.below hba);replace O2:=aq (O2.out.below hba);replace B2:=aq (B2.out.below hba);replace O3:=aq (O3.out.below hba);replace BB:=aq (BB.out.trans (hba.mono BB.out.size));clear hba;obtain⟨_,p0,p1,p2,p3,p4,p5,_⟩:=BS.out;obtain⟨_,q0,q1,q2,q3,q4,q5,_⟩:=B2.out;obtain⟨_,r0,r1,r2,r3,r4,r5,_⟩:=B3.out;have e0:=PQ.out.c0;have e1:=PQ.out.c1
 try dsimp only at e0 e1
 obtain⟨_,c0,c1,c2,c3,c4,c5,c6,c7,c8,_⟩:=BC.out
 go_wp2_with fail
 refine (CN2.out _ HA.out TB.out).mono ?_;rintro e w7 ⟨rfl,hb⟩;replace BC:=aq (BC.out.below hb);replace BS:=aq (BS.out.below hb);replace PQ:=aq (PQ.out.below hb);replace HA:=aq (HA.out.below hb);replace TB:=aq (TB.out.below hb);replace O2:=aq (O2.out.below hb);replace B2:=aq (B2.out.below hb);replace O3:=aq (O3.out.below hb);replace B3:=aq (B3.out.below hb);replace BB:=aq (BB.out.trans (hb.mono BB.out.size));clear hb e0 e1 c0 c1 c2 c3 c4 c5 c6 c7 c8 p0 p1 p2 p3 p4 p5 q0 q1 q2 q3 q4 q5 r0 r1 r2 r3 r4 r5;obtain⟨_,p0,p1,p2,p3,p4,p5,_⟩:=BS.out;obtain⟨_,q0,q1,q2,q3,q4,q5,_⟩:=B2.out;obtain⟨_,r0,r1,r2,r3,r4,r5,_⟩:=B3.out;have e0:=PQ.out.c0;have e1:=PQ.out.c1
 try dsimp only at e0 e1
 obtain⟨_,c0,c1,c2,c3,c4,c5,c6,c7,c8,_⟩:=BC.out
 go_wp2_with fail
 refine (CL2.out _ HA.out TB.out).mono ?_;rintro e w8 ⟨A4,rfl,own,hb⟩;have O4:=aq own.held;clear own;replace BC:=aq (BC.out.below hb);replace BS:=aq (BS.out.below hb);replace PQ:=aq (PQ.out.below hb);replace HA:=aq (HA.out.below hb);replace TB:=aq (TB.out.below hb);replace O2:=aq (O2.out.below hb);replace B2:=aq (B2.out.below hb);replace O3:=aq (O3.out.below hb);replace B3:=aq (B3.out.below hb);replace BB:=aq (BB.out.trans (hb.mono BB.out.size));clear hb e0 e1 c0 c1 c2 c3 c4 c5 c6 c7 c8 p0 p1 p2 p3 p4 p5 q0 q1 q2 q3 q4 q5 r0 r1 r2 r3 r4 r5;unfold slv
 go_upto_region 19 with (fail)
 obtain⟨V4,hV⟩:∃ V,V=w8.alloc (.cells #[.int .i64 B.seg,.slice A4.w B.words.length A4.cw,.slice A4.k B.keys.length A4.ck,.slice A4.v B.vals.length A4.cv,.slice A4.c B.counts.length A4.cc,.int .u64 (B.laid:Int)] 27):=⟨_,rfl⟩
 have hba:Below w8.heap.size w8 V4:=by rw [hV];exact (Below.refl _ _).alloc (Nat.le_refl _) _
 have B4:=aq (show Box V4 w8.heap.size B A4 by rw [hV];exact Box.new w8 B A4 27);rw [<-hV];clear hV;replace BC:=aq (BC.out.below hba);replace BS:=aq (BS.out.below hba);replace PQ:=aq (PQ.out.below hba);replace HA:=aq (HA.out.below hba);replace TB:=aq (TB.out.below hba);replace O2:=aq (O2.out.below hba);replace B2:=aq (B2.out.below hba);replace O3:=aq (O3.out.below hba);replace B3:=aq (B3.out.below hba);replace O4:=aq (O4.out.below hba);replace BB:=aq (BB.out.trans (hba.mono BB.out.size));clear hba;obtain⟨_,p0,p1,p2,p3,p4,p5,_⟩:=BS.out;obtain⟨_,q0,q1,q2,q3,q4,q5,_⟩:=B2.out;obtain⟨_,r0,r1,r2,r3,r4,r5,_⟩:=B3.out;obtain⟨_,s0,s1,s2,s3,s4,s5,_⟩:=B4.out;have e0:=PQ.out.c0;have e1:=PQ.out.c1
 try dsimp only at e0 e1
 obtain⟨_,c0,c1,c2,c3,c4,c5,c6,c7,c8,_⟩:=BC.out
 go_wp2_with fail
 refine (CP2.out A4 _ O4.out TB.out).mono ?_;rintro e w9 ⟨rfl,hb⟩;replace BC:=aq (BC.out.below hb);replace BS:=aq (BS.out.below hb);replace PQ:=aq (PQ.out.below hb);replace HA:=aq (HA.out.below hb);replace TB:=aq (TB.out.below hb);replace O2:=aq (O2.out.below hb);replace B2:=aq (B2.out.below hb);replace O3:=aq (O3.out.below hb);replace B3:=aq (B3.out.below hb);replace O4:=aq (O4.out.below hb);replace B4:=aq (B4.out.below hb);replace BB:=aq (BB.out.trans (hb.mono BB.out.size));clear hb e0 e1 c0 c1 c2 c3 c4 c5 c6 c7 c8 p0 p1 p2 p3 p4 p5 q0 q1 q2 q3 q4 q5 r0 r1 r2 r3 r4 r5 s0 s1 s2 s3 s4 s5;obtain⟨_,p0,p1,p2,p3,p4,p5,_⟩:=BS.out;obtain⟨_,q0,q1,q2,q3,q4,q5,_⟩:=B2.out;obtain⟨_,r0,r1,r2,r3,r4,r5,_⟩:=B3.out;obtain⟨_,s0,s1,s2,s3,s4,s5,_⟩:=B4.out;have e0:=PQ.out.c0;have e1:=PQ.out.c1
 try dsimp only at e0 e1
 obtain⟨_,c0,c1,c2,c3,c4,c5,c6,c7,c8,_⟩:=BC.out
 go_wp2_with fail
 go_quiet (fail)
 have hb:=below_drewN (Below.refl w9.heap.size w9) nq;replace BC:=aq (BC.out.below hb);replace BS:=aq (BS.out.below hb);replace PQ:=aq (PQ.out.below hb);replace HA:=aq (HA.out.below hb);replace TB:=aq (TB.out.below hb);replace O2:=aq (O2.out.below hb);replace B2:=aq (B2.out.below hb);replace O3:=aq (O3.out.below hb);replace B3:=aq (B3.out.below hb);replace O4:=aq (O4.out.below hb);replace B4:=aq (B4.out.below hb);replace BB:=aq (BB.out.trans (hb.mono BB.out.size));clear hb e0 e1 c0 c1 c2 c3 c4 c5 c6 c7 c8 p0 p1 p2 p3 p4 p5 q0 q1 q2 q3 q4 q5 r0 r1 r2 r3 r4 r5 s0 s1 s2 s3 s4 s5;obtain⟨_,p0,p1,p2,p3,p4,p5,_⟩:=BS.out;obtain⟨_,q0,q1,q2,q3,q4,q5,_⟩:=B2.out;obtain⟨_,r0,r1,r2,r3,r4,r5,_⟩:=B3.out;obtain⟨_,s0,s1,s2,s3,s4,s5,_⟩:=B4.out;have e0:=PQ.out.c0;have e1:=PQ.out.c1
 try dsimp only at e0 e1
 obtain⟨_,c0,c1,c2,c3,c4,c5,c6,c7,c8,_⟩:=BC.out
 go_wp2_with fail
 refine (CC2.out A3 _ O3.out).mono ?_;rintro e w10 ⟨rfl,hb⟩;replace BC:=aq (BC.out.below hb);replace BS:=aq (BS.out.below hb);replace PQ:=aq (PQ.out.below hb);replace HA:=aq (HA.out.below hb);replace TB:=aq (TB.out.below hb);replace O2:=aq (O2.out.below hb);replace B2:=aq (B2.out.below hb);replace O3:=aq (O3.out.below hb);replace B3:=aq (B3.out.below hb);replace O4:=aq (O4.out.below hb);replace B4:=aq (B4.out.below hb);replace BB:=aq (BB.out.trans (hb.mono BB.out.size));clear hb e0 e1 c0 c1 c2 c3 c4 c5 c6 c7 c8 p0 p1 p2 p3 p4 p5 q0 q1 q2 q3 q4 q5 r0 r1 r2 r3 r4 r5 s0 s1 s2 s3 s4 s5;obtain⟨_,p0,p1,p2,p3,p4,p5,_⟩:=BS.out;obtain⟨_,r0,r1,r2,r3,r4,r5,_⟩:=B3.out;go_wp2;go_ret;exact⟨rfl,BB.out⟩
theorem full20 (s:Sl) (a:Ads) (c:Cf) (k x1 x2:Int) (W:World) (h:Held W s a) (hg:s.greatB 600=false) (hT:Tab W) (X Y:Sl) (EP ET:Int) (l2:s.keys.length<=65536) (lx:X.keys.length<=65536) (ly:Y.keys.length<=65536)
  (CPu:Hid (∀ V,Held V s a->Tab V->Calls Tryz.prog 9 #[cfv c,slv s a,.int .i64 k,.agg #[.int .i64 x1,.int .i64 x2]] V (Ans X EP V)))
  (CTa:Hid (∀ V,Held V s a->Tab V->Calls Tryz.prog 10 #[cfv c,slv s a,.int .i64 k] V (Ans Y ET V)))
  (hEP:EP=0) (hET:ET≠0) (xa:Nat) (f t:Int) (n:Int) (eN:Int) (m1:Int) (hm:max (k-1) 0=m1) (hk0:0<=k) (hk1:k<=65536) (hxa:xa<=65536) (n0:0<=n) (n1:n<=65536) (hl:IntKind.u64.wrap ((X.laid:Int)-(s.laid:Int))=n) (hz:X.keys.length≠s.keys.length)
  (CN1:Hid (∀ V,Held V s a->Tab V->Calls Tryz.prog 21 #[.slice a.w s.words.length a.cw,.int .i64 s.keys.length,.int .i64 m1] V (Tells xa eN V)))
  (CP1:Hid (∀ V,Held V s a->Tab V->Calls Tryz.prog 22 #[cfv c,slv s a,.int .i64 (xa:Int),.int .i64 1] V (Parts f t false V)))
  (CC1:Hid (∀ A V,Held V X A->Calls Tryz.prog 23 #[.slice A.w X.words.length A.cw,.int .i64 X.keys.length,.int .i64 0,.int .i64 (X.keys.length:Int)] V (Tells n 0 V))) :
  Calls Tryz.prog 5 #[cfv c,slv s a,.int .i64 k,pv (x1,x2)] W fun e w'=>e=.returned (.bool true)/\Below W.heap.size W w':=by
 have HGr:=aq hg;obtain⟨W0,hW0⟩:∃ W0,W0=((W.alloc (.cells (cfCells c) 32)).alloc (.cells #[.int .i64 s.seg,.slice a.w s.words.length a.cw,.slice a.k s.keys.length a.ck,.slice a.v s.vals.length a.cv,.slice a.c s.counts.length a.cc,.int .u64 (s.laid:Int)] 27)).alloc (.cells #[.int .i64 x1,.int .i64 x2] 36):=⟨_,rfl⟩;have BC:=aq (show CBox W0 W.heap.size c by rw [hW0];exact ((CBox.new W c 32).below ((Below.refl _ _).alloc (Nat.le_refl _) _)).below ((Below.refl _ _).alloc (Nat.le_refl _) _));have BS:=aq (show Box W0 (W.heap.size+1) s a by rw [hW0];exact (Box.second W _ s a 27).below ((Below.refl _ _).alloc (Nat.le_refl _) _))
 have PQ:=aq (show PBox W0 (W.heap.size+1+1) (x1,x2) by
  rw [hW0];have q:=PBox.new ((W.alloc (.cells (cfCells c) 32)).alloc (.cells #[.int .i64 s.seg,.slice a.w s.words.length a.cw,.slice a.k s.keys.length a.ck,.slice a.v s.vals.length a.cv,.slice a.c s.counts.length a.cc,.int .u64 (s.laid:Int)] 27)) (x1,x2) 36
  simp only [World.size_alloc] at q
  exact q)
 have BB:=aq (show Below W.heap.size W W0 by rw [hW0];exact (((Below.refl W.heap.size W).alloc (Nat.le_refl _) _).alloc (by simp) _).alloc (by simp;omega) _);have HA:=aq (h.below BB.out);have TB:=aq (hT.below BB.out);subst hEP;have hw:IntKind.i64.wrap (k-1)=k-1:=IntWalk.i64_in _ (by omega);have hu:IntKind.u64.wrap n=n:=IntWalk.u64_in _ (by omega)
 have hz1:((X.keys.length:Int)==(s.keys.length:Int))=false:=by simp;omega
 have kT:(ET != 0)=true:=by simp [hET]
 unfold slv cfv at CPu CTa CP1;unfold Tells at CN1 CC1;unfold Parts at CP1;clear h hg hT hz hET;unfold slv pv cfv
 go_enter Tryz.func5,Tryz.ntmps5
 unfold cfCells at hW0
 go_upto_region 1 with (fail)
 rw [<-hW0];clear hW0
 go_wp2_with fail
 refine (l9Alive _ TB.out).mono ?_;rintro e w0 ⟨rfl,hb⟩;replace BC:=aq (BC.out.below hb);replace BS:=aq (BS.out.below hb);replace PQ:=aq (PQ.out.below hb);replace HA:=aq (HA.out.below hb);replace TB:=aq (TB.out.below hb);replace BB:=aq (BB.out.trans (hb.mono BB.out.size));clear hb;obtain⟨_,p0,p1,p2,p3,p4,p5,_⟩:=BS.out
 go_wp2_with fail
 refine (r4Great s a 600 _).mono ?_;rintro e w1 ⟨rfl,hb⟩;rw [HGr.out];replace BC:=aq (BC.out.below hb);replace BS:=aq (BS.out.below hb);replace PQ:=aq (PQ.out.below hb);replace HA:=aq (HA.out.below hb);replace TB:=aq (TB.out.below hb);replace BB:=aq (BB.out.trans (hb.mono BB.out.size));clear hb p0 p1 p2 p3 p4 p5;obtain⟨_,p0,p1,p2,p3,p4,p5,_⟩:=BS.out;have e0:=PQ.out.c0;have e1:=PQ.out.c1
 try dsimp only at e0 e1
 obtain⟨_,c0,c1,c2,c3,c4,c5,c6,c7,c8,_⟩:=BC.out
 go_wp2_with fail
 refine (CPu.out _ HA.out TB.out).mono ?_;rintro e w2 ⟨A2,rfl,own,hb⟩;have O2:=aq own.held;clear own;replace BC:=aq (BC.out.below hb);replace BS:=aq (BS.out.below hb);replace PQ:=aq (PQ.out.below hb);replace HA:=aq (HA.out.below hb);replace TB:=aq (TB.out.below hb);replace BB:=aq (BB.out.trans (hb.mono BB.out.size));clear hb e0 e1 c0 c1 c2 c3 c4 c5 c6 c7 c8 p0 p1 p2 p3 p4 p5;unfold slv
 go_upto_region 6 with (fail)
 obtain⟨V2,hV⟩:∃ V,V=w2.alloc (.cells #[.int .i64 X.seg,.slice A2.w X.words.length A2.cw,.slice A2.k X.keys.length A2.ck,.slice A2.v X.vals.length A2.cv,.slice A2.c X.counts.length A2.cc,.int .u64 (X.laid:Int)] 27):=⟨_,rfl⟩
 have hba:Below w2.heap.size w2 V2:=by rw [hV];exact (Below.refl _ _).alloc (Nat.le_refl _) _
 have B2:=aq (show Box V2 w2.heap.size X A2 by rw [hV];exact Box.new w2 X A2 27);rw [<-hV];clear hV;replace BC:=aq (BC.out.below hba);replace BS:=aq (BS.out.below hba);replace PQ:=aq (PQ.out.below hba);replace HA:=aq (HA.out.below hba);replace TB:=aq (TB.out.below hba);replace O2:=aq (O2.out.below hba);replace BB:=aq (BB.out.trans (hba.mono BB.out.size));clear hba;obtain⟨_,p0,p1,p2,p3,p4,p5,_⟩:=BS.out;obtain⟨_,q0,q1,q2,q3,q4,q5,_⟩:=B2.out;have e0:=PQ.out.c0;have e1:=PQ.out.c1
 try dsimp only at e0 e1
 obtain⟨_,c0,c1,c2,c3,c4,c5,c6,c7,c8,_⟩:=BC.out
 go_wp2_with fail
 refine (CN1.out _ HA.out TB.out).mono ?_;rintro e w3 ⟨rfl,hb⟩;replace BC:=aq (BC.out.below hb);replace BS:=aq (BS.out.below hb);replace PQ:=aq (PQ.out.below hb);replace HA:=aq (HA.out.below hb);replace TB:=aq (TB.out.below hb);replace O2:=aq (O2.out.below hb);replace B2:=aq (B2.out.below hb);replace BB:=aq (BB.out.trans (hb.mono BB.out.size));clear hb e0 e1 c0 c1 c2 c3 c4 c5 c6 c7 c8 p0 p1 p2 p3 p4 p5 q0 q1 q2 q3 q4 q5;obtain⟨_,p0,p1,p2,p3,p4,p5,_⟩:=BS.out;obtain⟨_,q0,q1,q2,q3,q4,q5,_⟩:=B2.out;have e0:=PQ.out.c0;have e1:=PQ.out.c1
 try dsimp only at e0 e1
 obtain⟨_,c0,c1,c2,c3,c4,c5,c6,c7,c8,_⟩:=BC.out
 go_wp2_with fail
 refine (CP1.out _ HA.out TB.out).mono ?_;rintro e w4 ⟨rfl,hb⟩;replace BC:=aq (BC.out.below hb);replace BS:=aq (BS.out.below hb);replace PQ:=aq (PQ.out.below hb);replace HA:=aq (HA.out.below hb);replace TB:=aq (TB.out.below hb);replace O2:=aq (O2.out.below hb);replace B2:=aq (B2.out.below hb);replace BB:=aq (BB.out.trans (hb.mono BB.out.size));clear hb e0 e1 c0 c1 c2 c3 c4 c5 c6 c7 c8 p0 p1 p2 p3 p4 p5 q0 q1 q2 q3 q4 q5;obtain⟨_,p0,p1,p2,p3,p4,p5,_⟩:=BS.out;obtain⟨_,q0,q1,q2,q3,q4,q5,_⟩:=B2.out;have e0:=PQ.out.c0;have e1:=PQ.out.c1
 try dsimp only at e0 e1
 obtain⟨_,c0,c1,c2,c3,c4,c5,c6,c7,c8,_⟩:=BC.out
 go_wp2_with fail
 go_quiet (fail)
 have hb:=below_drewN (Below.refl w4.heap.size w4) nq;replace BC:=aq (BC.out.below hb);replace BS:=aq (BS.out.below hb);replace PQ:=aq (PQ.out.below hb);replace HA:=aq (HA.out.below hb);replace TB:=aq (TB.out.below hb);replace O2:=aq (O2.out.below hb);replace B2:=aq (B2.out.below hb);replace BB:=aq (BB.out.trans (hb.mono BB.out.size));clear hb e0 e1 c0 c1 c2 c3 c4 c5 c6 c7 c8 p0 p1 p2 p3 p4 p5 q0 q1 q2 q3 q4 q5;obtain⟨_,p0,p1,p2,p3,p4,p5,_⟩:=BS.out;obtain⟨_,q0,q1,q2,q3,q4,q5,_⟩:=B2.out;have e0:=PQ.out.c0;have e1:=PQ.out.c1
 try dsimp only at e0 e1
 obtain⟨_,c0,c1,c2,c3,c4,c5,c6,c7,c8,_⟩:=BC.out
 go_wp2_with fail
 refine (CC1.out A2 _ O2.out).mono ?_;rintro e w5 ⟨rfl,hb⟩;replace BC:=aq (BC.out.below hb);replace BS:=aq (BS.out.below hb);replace PQ:=aq (PQ.out.below hb);replace HA:=aq (HA.out.below hb);replace TB:=aq (TB.out.below hb);replace O2:=aq (O2.out.below hb);replace B2:=aq (B2.out.below hb);replace BB:=aq (BB.out.trans (hb.mono BB.out.size));clear hb e0 e1 c0 c1 c2 c3 c4 c5 c6 c7 c8 p0 p1 p2 p3 p4 p5 q0 q1 q2 q3 q4 q5;obtain⟨_,p0,p1,p2,p3,p4,p5,_⟩:=BS.out;obtain⟨_,q0,q1,q2,q3,q4,q5,_⟩:=B2.out;have e0:=PQ.out.c0;have e1:=PQ.out.c1
 try dsimp only at e0 e1
 obtain⟨_,c0,c1,c2,c3,c4,c5,c6,c7,c8,_⟩:=BC.out
 go_wp2_with fail
 refine (CTa.out _ HA.out TB.out).mono ?_;rintro e w6 ⟨A3,rfl,own,hb⟩;have O3:=aq own.held;clear own;replace BC:=aq (BC.out.below hb);replace BS:=aq (BS.out.below hb);replace PQ:=aq (PQ.out.below hb);replace HA:=aq (HA.out.below hb);replace TB:=aq (TB.out.below hb);replace O2:=aq (O2.out.below hb);replace B2:=aq (B2.out.below hb);replace BB:=aq (BB.out.trans (hb.mono BB.out.size));clear hb e0 e1 c0 c1 c2 c3 c4 c5 c6 c7 c8 p0 p1 p2 p3 p4 p5 q0 q1 q2 q3 q4 q5;unfold slv
 go_upto_region 15 with (fail)
 obtain⟨V3,hV⟩:∃ V,V=w6.alloc (.cells #[.int .i64 Y.seg,.slice A3.w Y.words.length A3.cw,.slice A3.k Y.keys.length A3.ck,.slice A3.v Y.vals.length A3.cv,.slice A3.c Y.counts.length A3.cc,.int .u64 (Y.laid:Int)] 27):=⟨_,rfl⟩
 have hba:Below w6.heap.size w6 V3:=by rw [hV];exact (Below.refl _ _).alloc (Nat.le_refl _) _
 have B3:=aq (show Box V3 w6.heap.size Y A3 by rw [hV];exact Box.new w6 Y A3 27);rw [<-hV];clear hV;replace BC:=aq (BC.out.below hba);replace BS:=aq (BS.out.below hba);replace PQ:=aq (PQ.out.below hba);replace HA:=aq (HA.out.below hba);replace TB:=aq (TB.out.below hba);replace O2:=aq (O2.out.below hba);replace B2:=aq (B2.out.below hba);replace O3:=aq (O3.out.below hba);replace BB:=aq (BB.out.trans (hba.mono BB.out.size));clear hba;go_wp2;go_ret;exact⟨rfl,BB.out⟩
theorem full21 (s:Sl) (a:Ads) (c:Cf) (k x1 x2:Int) (W:World) (h:Held W s a) (hg:s.greatB 600=false) (hT:Tab W) (X Y:Sl) (EP ET:Int) (l2:s.keys.length<=65536) (lx:X.keys.length<=65536) (ly:Y.keys.length<=65536)
  (CPu:Hid (∀ V,Held V s a->Tab V->Calls Tryz.prog 9 #[cfv c,slv s a,.int .i64 k,.agg #[.int .i64 x1,.int .i64 x2]] V (Ans X EP V)))
  (CTa:Hid (∀ V,Held V s a->Tab V->Calls Tryz.prog 10 #[cfv c,slv s a,.int .i64 k] V (Ans Y ET V)))
  (hEP:EP=0) (hET:ET=0) (xa:Nat) (f t:Int) (n:Int) (eN:Int) (m1:Int) (hm:max (k-1) 0=m1) (hk0:0<=k) (hk1:k<=65536) (hxa:xa<=65536) (n0:0<=n) (n1:n<=65536) (hl:IntKind.u64.wrap ((X.laid:Int)-(s.laid:Int))=n) (hz:X.keys.length≠s.keys.length)
  (CN1:Hid (∀ V,Held V s a->Tab V->Calls Tryz.prog 21 #[.slice a.w s.words.length a.cw,.int .i64 s.keys.length,.int .i64 m1] V (Tells xa eN V)))
  (CP1:Hid (∀ V,Held V s a->Tab V->Calls Tryz.prog 22 #[cfv c,slv s a,.int .i64 (xa:Int),.int .i64 1] V (Parts f t false V)))
  (CC1:Hid (∀ A V,Held V X A->Calls Tryz.prog 23 #[.slice A.w X.words.length A.cw,.int .i64 X.keys.length,.int .i64 0,.int .i64 (X.keys.length:Int)] V (Tells n 0 V))) (xb:Nat) (f2 t2:Int) (n2:Int) (hxb:xb<=65536) (n20:0<=n2) (n21:n2<=65536) (hl2:IntKind.u64.wrap ((Y.laid:Int)-(s.laid:Int))=n2) (hz2:Y.keys.length=s.keys.length) (B:Sl)
  (CN2:Hid (∀ V,Held V s a->Tab V->Calls Tryz.prog 21 #[.slice a.w s.words.length a.cw,.int .i64 s.keys.length,.int .i64 k] V (Tells xb 0 V)))
  (CL2:Hid (∀ V,Held V s a->Tab V->Calls Tryz.prog 24 #[slv s a,.int .i64 (xb:Int)] V (Ans B 0 V)))
  (CP2:Hid (∀ A V,Held V B A->Tab V->Calls Tryz.prog 22 #[cfv c,slv B A,.int .i64 (xb:Int),.int .i64 0] V (Parts f2 t2 true V)))
  (CC2:Hid (∀ A V,Held V Y A->Calls Tryz.prog 23 #[.slice A.w Y.words.length A.cw,.int .i64 Y.keys.length,.int .i64 f2,.int .i64 t2] V (Tells n2 0 V))) :
  Calls Tryz.prog 5 #[cfv c,slv s a,.int .i64 k,pv (x1,x2)] W fun e w'=>e=.returned (.bool true)/\Below W.heap.size W w':=by
 have HGr:=aq hg;obtain⟨W0,hW0⟩:∃ W0,W0=((W.alloc (.cells (cfCells c) 32)).alloc (.cells #[.int .i64 s.seg,.slice a.w s.words.length a.cw,.slice a.k s.keys.length a.ck,.slice a.v s.vals.length a.cv,.slice a.c s.counts.length a.cc,.int .u64 (s.laid:Int)] 27)).alloc (.cells #[.int .i64 x1,.int .i64 x2] 36):=⟨_,rfl⟩;have BC:=aq (show CBox W0 W.heap.size c by rw [hW0];exact ((CBox.new W c 32).below ((Below.refl _ _).alloc (Nat.le_refl _) _)).below ((Below.refl _ _).alloc (Nat.le_refl _) _));have BS:=aq (show Box W0 (W.heap.size+1) s a by rw [hW0];exact (Box.second W _ s a 27).below ((Below.refl _ _).alloc (Nat.le_refl _) _))
 have PQ:=aq (show PBox W0 (W.heap.size+1+1) (x1,x2) by
  rw [hW0];have q:=PBox.new ((W.alloc (.cells (cfCells c) 32)).alloc (.cells #[.int .i64 s.seg,.slice a.w s.words.length a.cw,.slice a.k s.keys.length a.ck,.slice a.v s.vals.length a.cv,.slice a.c s.counts.length a.cc,.int .u64 (s.laid:Int)] 27)) (x1,x2) 36
  simp only [World.size_alloc] at q
  exact q)
 have BB:=aq (show Below W.heap.size W W0 by rw [hW0];exact (((Below.refl W.heap.size W).alloc (Nat.le_refl _) _).alloc (by simp) _).alloc (by simp;omega) _);have HA:=aq (h.below BB.out);have TB:=aq (hT.below BB.out);subst hEP;have hw:IntKind.i64.wrap (k-1)=k-1:=IntWalk.i64_in _ (by omega);have hu:IntKind.u64.wrap n=n:=IntWalk.u64_in _ (by omega)
 have hz1:((X.keys.length:Int)==(s.keys.length:Int))=false:=by simp;omega
 subst hET;have hu2:IntKind.u64.wrap n2=n2:=IntWalk.u64_in _ (by omega)
 have hz3:((Y.keys.length:Int)==(s.keys.length:Int))=true:=by simp;omega
 unfold slv cfv at CPu CTa CP1  CP2;unfold slv at CL2;unfold Tells at CN1 CC1 CN2 CC2;unfold Parts at CP1 CP2;clear h hg hT hz hz2;unfold slv pv cfv
 go_enter Tryz.func5,Tryz.ntmps5
 unfold cfCells at hW0
 go_upto_region 1 with (fail)
 rw [<-hW0];clear hW0
 go_wp2_with fail
 refine (l9Alive _ TB.out).mono ?_;rintro e w0 ⟨rfl,hb⟩;replace BC:=aq (BC.out.below hb);replace BS:=aq (BS.out.below hb);replace PQ:=aq (PQ.out.below hb);replace HA:=aq (HA.out.below hb);replace TB:=aq (TB.out.below hb);replace BB:=aq (BB.out.trans (hb.mono BB.out.size));clear hb;obtain⟨_,p0,p1,p2,p3,p4,p5,_⟩:=BS.out
 go_wp2_with fail
 refine (r4Great s a 600 _).mono ?_;rintro e w1 ⟨rfl,hb⟩;rw [HGr.out];replace BC:=aq (BC.out.below hb);replace BS:=aq (BS.out.below hb);replace PQ:=aq (PQ.out.below hb);replace HA:=aq (HA.out.below hb);replace TB:=aq (TB.out.below hb);replace BB:=aq (BB.out.trans (hb.mono BB.out.size));clear hb p0 p1 p2 p3 p4 p5;obtain⟨_,p0,p1,p2,p3,p4,p5,_⟩:=BS.out;have e0:=PQ.out.c0;have e1:=PQ.out.c1
 try dsimp only at e0 e1
 obtain⟨_,c0,c1,c2,c3,c4,c5,c6,c7,c8,_⟩:=BC.out
 go_wp2_with fail
 refine (CPu.out _ HA.out TB.out).mono ?_;rintro e w2 ⟨A2,rfl,own,hb⟩;have O2:=aq own.held;clear own;replace BC:=aq (BC.out.below hb);replace BS:=aq (BS.out.below hb);replace PQ:=aq (PQ.out.below hb);replace HA:=aq (HA.out.below hb);replace TB:=aq (TB.out.below hb);replace BB:=aq (BB.out.trans (hb.mono BB.out.size));clear hb e0 e1 c0 c1 c2 c3 c4 c5 c6 c7 c8 p0 p1 p2 p3 p4 p5;unfold slv
 go_upto_region 6 with (fail)
 obtain⟨V2,hV⟩:∃ V,V=w2.alloc (.cells #[.int .i64 X.seg,.slice A2.w X.words.length A2.cw,.slice A2.k X.keys.length A2.ck,.slice A2.v X.vals.length A2.cv,.slice A2.c X.counts.length A2.cc,.int .u64 (X.laid:Int)] 27):=⟨_,rfl⟩
 have hba:Below w2.heap.size w2 V2:=by rw [hV];exact (Below.refl _ _).alloc (Nat.le_refl _) _
 have B2:=aq (show Box V2 w2.heap.size X A2 by rw [hV];exact Box.new w2 X A2 27);rw [<-hV];clear hV;replace BC:=aq (BC.out.below hba);replace BS:=aq (BS.out.below hba);replace PQ:=aq (PQ.out.below hba);replace HA:=aq (HA.out.below hba);replace TB:=aq (TB.out.below hba);replace O2:=aq (O2.out.below hba);replace BB:=aq (BB.out.trans (hba.mono BB.out.size));clear hba;obtain⟨_,p0,p1,p2,p3,p4,p5,_⟩:=BS.out;obtain⟨_,q0,q1,q2,q3,q4,q5,_⟩:=B2.out;have e0:=PQ.out.c0;have e1:=PQ.out.c1
 try dsimp only at e0 e1
 obtain⟨_,c0,c1,c2,c3,c4,c5,c6,c7,c8,_⟩:=BC.out
 go_wp2_with fail
 refine (CN1.out _ HA.out TB.out).mono ?_;rintro e w3 ⟨rfl,hb⟩;replace BC:=aq (BC.out.below hb);replace BS:=aq (BS.out.below hb);replace PQ:=aq (PQ.out.below hb);replace HA:=aq (HA.out.below hb);replace TB:=aq (TB.out.below hb);replace O2:=aq (O2.out.below hb);replace B2:=aq (B2.out.below hb);replace BB:=aq (BB.out.trans (hb.mono BB.out.size));clear hb e0 e1 c0 c1 c2 c3 c4 c5 c6 c7 c8 p0 p1 p2 p3 p4 p5 q0 q1 q2 q3 q4 q5;obtain⟨_,p0,p1,p2,p3,p4,p5,_⟩:=BS.out;obtain⟨_,q0,q1,q2,q3,q4,q5,_⟩:=B2.out;have e0:=PQ.out.c0;have e1:=PQ.out.c1
 try dsimp only at e0 e1
 obtain⟨_,c0,c1,c2,c3,c4,c5,c6,c7,c8,_⟩:=BC.out
 go_wp2_with fail
 refine (CP1.out _ HA.out TB.out).mono ?_;rintro e w4 ⟨rfl,hb⟩;replace BC:=aq (BC.out.below hb);replace BS:=aq (BS.out.below hb);replace PQ:=aq (PQ.out.below hb);replace HA:=aq (HA.out.below hb);replace TB:=aq (TB.out.below hb);replace O2:=aq (O2.out.below hb);replace B2:=aq (B2.out.below hb);replace BB:=aq (BB.out.trans (hb.mono BB.out.size));clear hb e0 e1 c0 c1 c2 c3 c4 c5 c6 c7 c8 p0 p1 p2 p3 p4 p5 q0 q1 q2 q3 q4 q5;obtain⟨_,p0,p1,p2,p3,p4,p5,_⟩:=BS.out;obtain⟨_,q0,q1,q2,q3,q4,q5,_⟩:=B2.out;have e0:=PQ.out.c0;have e1:=PQ.out.c1
 try dsimp only at e0 e1
 obtain⟨_,c0,c1,c2,c3,c4,c5,c6,c7,c8,_⟩:=BC.out
 go_wp2_with fail
 go_quiet (fail)
 have hb:=below_drewN (Below.refl w4.heap.size w4) nq;replace BC:=aq (BC.out.below hb);replace BS:=aq (BS.out.below hb);replace PQ:=aq (PQ.out.below hb);replace HA:=aq (HA.out.below hb);replace TB:=aq (TB.out.below hb);replace O2:=aq (O2.out.below hb);replace B2:=aq (B2.out.below hb);replace BB:=aq (BB.out.trans (hb.mono BB.out.size));clear hb e0 e1 c0 c1 c2 c3 c4 c5 c6 c7 c8 p0 p1 p2 p3 p4 p5 q0 q1 q2 q3 q4 q5;obtain⟨_,p0,p1,p2,p3,p4,p5,_⟩:=BS.out;obtain⟨_,q0,q1,q2,q3,q4,q5,_⟩:=B2.out;have e0:=PQ.out.c0;have e1:=PQ.out.c1
 try dsimp only at e0 e1
 obtain⟨_,c0,c1,c2,c3,c4,c5,c6,c7,c8,_⟩:=BC.out
 go_wp2_with fail
 refine (CC1.out A2 _ O2.out).mono ?_;rintro e w5 ⟨rfl,hb⟩;replace BC:=aq (BC.out.below hb);replace BS:=aq (BS.out.below hb);replace PQ:=aq (PQ.out.below hb);replace HA:=aq (HA.out.below hb);replace TB:=aq (TB.out.below hb);replace O2:=aq (O2.out.below hb);replace B2:=aq (B2.out.below hb);replace BB:=aq (BB.out.trans (hb.mono BB.out.size));clear hb e0 e1 c0 c1 c2 c3 c4 c5 c6 c7 c8 p0 p1 p2 p3 p4 p5 q0 q1 q2 q3 q4 q5;obtain⟨_,p0,p1,p2,p3,p4,p5,_⟩:=BS.out;obtain⟨_,q0,q1,q2,q3,q4,q5,_⟩:=B2.out;have e0:=PQ.out.c0;have e1:=PQ.out.c1
 try dsimp only at e0 e1
 obtain⟨_,c0,c1,c2,c3,c4,c5,c6,c7,c8,_⟩:=BC.out
 go_wp2_with fail
 refine (CTa.out _ HA.out TB.out).mono ?_;rintro e w6 ⟨A3,rfl,own,hb⟩;have O3:=aq own.held;clear own;replace BC:=aq (BC.out.below hb);replace BS:=aq (BS.out.below hb);replace PQ:=aq (PQ.out.below hb);replace HA:=aq (HA.out.below hb);replace TB:=aq (TB.out.below hb);replace O2:=aq (O2.out.below hb);replace B2:=aq (B2.out.below hb);replace BB:=aq (BB.out.trans (hb.mono BB.out.size));clear hb e0 e1 c0 c1 c2 c3 c4 c5 c6 c7 c8 p0 p1 p2 p3 p4 p5 q0 q1 q2 q3 q4 q5;unfold slv
 go_upto_region 15 with (fail)
 obtain⟨V3,hV⟩:∃ V,V=w6.alloc (.cells #[.int .i64 Y.seg,.slice A3.w Y.words.length A3.cw,.slice A3.k Y.keys.length A3.ck,.slice A3.v Y.vals.length A3.cv,.slice A3.c Y.counts.length A3.cc,.int .u64 (Y.laid:Int)] 27):=⟨_,rfl⟩
 have hba:Below w6.heap.size w6 V3:=by rw [hV];exact (Below.refl _ _).alloc (Nat.le_refl _) _
 have B3:=aq (show Box V3 w6.heap.size Y A3 by rw [hV];exact Box.new w6 Y A3 27);rw [<-hV];clear hV;replace BC:=aq (BC.out.below hba);replace BS:=aq (BS.out.below hba);replace PQ:=aq (PQ.out.below hba);replace HA:=aq (HA.out.below hba);replace TB:=aq (TB.out.below hba);replace O2:=aq (O2.out.below hba);replace B2:=aq (B2.out.below hba);replace O3:=aq (O3.out.below hba);replace BB:=aq (BB.out.trans (hba.mono BB.out.size));clear hba;obtain⟨_,p0,p1,p2,p3,p4,p5,_⟩:=BS.out;obtain⟨_,q0,q1,q2,q3,q4,q5,_⟩:=B2.out;obtain⟨_,r0,r1,r2,r3,r4,r5,_⟩:=B3.out;have e0:=PQ.out.c0;have e1:=PQ.out.c1
 try dsimp only at e0 e1
 obtain⟨_,c0,c1,c2,c3,c4,c5,c6,c7,c8,_⟩:=BC.out
 go_wp2_with fail
 refine (CN2.out _ HA.out TB.out).mono ?_;rintro e w7 ⟨rfl,hb⟩;replace BC:=aq (BC.out.below hb);replace BS:=aq (BS.out.below hb);replace PQ:=aq (PQ.out.below hb);replace HA:=aq (HA.out.below hb);replace TB:=aq (TB.out.below hb);replace O2:=aq (O2.out.below hb);replace B2:=aq (B2.out.below hb);replace O3:=aq (O3.out.below hb);replace B3:=aq (B3.out.below hb);replace BB:=aq (BB.out.trans (hb.mono BB.out.size));clear hb e0 e1 c0 c1 c2 c3 c4 c5 c6 c7 c8 p0 p1 p2 p3 p4 p5 q0 q1 q2 q3 q4 q5 r0 r1 r2 r3 r4 r5;obtain⟨_,p0,p1,p2,p3,p4,p5,_⟩:=BS.out;obtain⟨_,q0,q1,q2,q3,q4,q5,_⟩:=B2.out;obtain⟨_,r0,r1,r2,r3,r4,r5,_⟩:=B3.out;have e0:=PQ.out.c0;have e1:=PQ.out.c1
 try dsimp only at e0 e1
 obtain⟨_,c0,c1,c2,c3,c4,c5,c6,c7,c8,_⟩:=BC.out
 go_wp2_with fail
 refine (CL2.out _ HA.out TB.out).mono ?_;rintro e w8 ⟨A4,rfl,own,hb⟩;have O4:=aq own.held;clear own;replace BC:=aq (BC.out.below hb);replace BS:=aq (BS.out.below hb);replace PQ:=aq (PQ.out.below hb);replace HA:=aq (HA.out.below hb);replace TB:=aq (TB.out.below hb);replace O2:=aq (O2.out.below hb);replace B2:=aq (B2.out.below hb);replace O3:=aq (O3.out.below hb);replace B3:=aq (B3.out.below hb);replace BB:=aq (BB.out.trans (hb.mono BB.out.size));clear hb e0 e1 c0 c1 c2 c3 c4 c5 c6 c7 c8 p0 p1 p2 p3 p4 p5 q0 q1 q2 q3 q4 q5 r0 r1 r2 r3 r4 r5;unfold slv
 go_upto_region 19 with (fail)
 obtain⟨V4,hV⟩:∃ V,V=w8.alloc (.cells #[.int .i64 B.seg,.slice A4.w B.words.length A4.cw,.slice A4.k B.keys.length A4.ck,.slice A4.v B.vals.length A4.cv,.slice A4.c B.counts.length A4.cc,.int .u64 (B.laid:Int)] 27):=⟨_,rfl⟩
 have hba:Below w8.heap.size w8 V4:=by rw [hV];exact (Below.refl _ _).alloc (Nat.le_refl _) _
 have B4:=aq (show Box V4 w8.heap.size B A4 by rw [hV];exact Box.new w8 B A4 27);rw [<-hV];clear hV;replace BC:=aq (BC.out.below hba);replace BS:=aq (BS.out.below hba);replace PQ:=aq (PQ.out.below hba);replace HA:=aq (HA.out.below hba);replace TB:=aq (TB.out.below hba);replace O2:=aq (O2.out.below hba);replace B2:=aq (B2.out.below hba);replace O3:=aq (O3.out.below hba);replace B3:=aq (B3.out.below hba);replace O4:=aq (O4.out.below hba);replace BB:=aq (BB.out.trans (hba.mono BB.out.size));clear hba;obtain⟨_,p0,p1,p2,p3,p4,p5,_⟩:=BS.out;obtain⟨_,q0,q1,q2,q3,q4,q5,_⟩:=B2.out;obtain⟨_,r0,r1,r2,r3,r4,r5,_⟩:=B3.out;obtain⟨_,s0,s1,s2,s3,s4,s5,_⟩:=B4.out;have e0:=PQ.out.c0;have e1:=PQ.out.c1
 try dsimp only at e0 e1
 obtain⟨_,c0,c1,c2,c3,c4,c5,c6,c7,c8,_⟩:=BC.out
 go_wp2_with fail
 refine (CP2.out A4 _ O4.out TB.out).mono ?_;rintro e w9 ⟨rfl,hb⟩;replace BC:=aq (BC.out.below hb);replace BS:=aq (BS.out.below hb);replace PQ:=aq (PQ.out.below hb);replace HA:=aq (HA.out.below hb);replace TB:=aq (TB.out.below hb);replace O2:=aq (O2.out.below hb);replace B2:=aq (B2.out.below hb);replace O3:=aq (O3.out.below hb);replace B3:=aq (B3.out.below hb);replace O4:=aq (O4.out.below hb);replace B4:=aq (B4.out.below hb);replace BB:=aq (BB.out.trans (hb.mono BB.out.size));clear hb e0 e1 c0 c1 c2 c3 c4 c5 c6 c7 c8 p0 p1 p2 p3 p4 p5 q0 q1 q2 q3 q4 q5 r0 r1 r2 r3 r4 r5 s0 s1 s2 s3 s4 s5;obtain⟨_,p0,p1,p2,p3,p4,p5,_⟩:=BS.out;obtain⟨_,q0,q1,q2,q3,q4,q5,_⟩:=B2.out;obtain⟨_,r0,r1,r2,r3,r4,r5,_⟩:=B3.out;obtain⟨_,s0,s1,s2,s3,s4,s5,_⟩:=B4.out;have e0:=PQ.out.c0;have e1:=PQ.out.c1
 try dsimp only at e0 e1
 obtain⟨_,c0,c1,c2,c3,c4,c5,c6,c7,c8,_⟩:=BC.out
 go_wp2_with fail
 refine (CC2.out A3 _ O3.out).mono ?_;rintro e w10 ⟨rfl,hb⟩;replace BC:=aq (BC.out.below hb);replace BS:=aq (BS.out.below hb);replace PQ:=aq (PQ.out.below hb);replace HA:=aq (HA.out.below hb);replace TB:=aq (TB.out.below hb);replace O2:=aq (O2.out.below hb);replace B2:=aq (B2.out.below hb);replace O3:=aq (O3.out.below hb);replace B3:=aq (B3.out.below hb);replace O4:=aq (O4.out.below hb);replace B4:=aq (B4.out.below hb);replace BB:=aq (BB.out.trans (hb.mono BB.out.size));clear hb e0 e1 c0 c1 c2 c3 c4 c5 c6 c7 c8 p0 p1 p2 p3 p4 p5 q0 q1 q2 q3 q4 q5 r0 r1 r2 r3 r4 r5 s0 s1 s2 s3 s4 s5;obtain⟨_,p0,p1,p2,p3,p4,p5,_⟩:=BS.out;obtain⟨_,r0,r1,r2,r3,r4,r5,_⟩:=B3.out;go_wp2;go_ret;exact⟨rfl,BB.out⟩
theorem full22 (s:Sl) (a:Ads) (c:Cf) (k x1 x2:Int) (W:World) (h:Held W s a) (hg:s.greatB 600=false) (hT:Tab W) (X Y:Sl) (EP ET:Int) (l2:s.keys.length<=65536) (lx:X.keys.length<=65536) (ly:Y.keys.length<=65536)
  (CPu:Hid (∀ V,Held V s a->Tab V->Calls Tryz.prog 9 #[cfv c,slv s a,.int .i64 k,.agg #[.int .i64 x1,.int .i64 x2]] V (Ans X EP V)))
  (CTa:Hid (∀ V,Held V s a->Tab V->Calls Tryz.prog 10 #[cfv c,slv s a,.int .i64 k] V (Ans Y ET V)))
  (hEP:EP=0) (hET:ET=0) (xa:Nat) (f t:Int) (n:Int) (eN:Int) (m1:Int) (hm:max (k-1) 0=m1) (hk0:0<=k) (hk1:k<=65536) (hxa:xa<=65536) (n0:0<=n) (n1:n<=65536) (hl:IntKind.u64.wrap ((X.laid:Int)-(s.laid:Int))=n) (hz:X.keys.length≠s.keys.length)
  (CN1:Hid (∀ V,Held V s a->Tab V->Calls Tryz.prog 21 #[.slice a.w s.words.length a.cw,.int .i64 s.keys.length,.int .i64 m1] V (Tells xa eN V)))
  (CP1:Hid (∀ V,Held V s a->Tab V->Calls Tryz.prog 22 #[cfv c,slv s a,.int .i64 (xa:Int),.int .i64 1] V (Parts f t false V)))
  (CC1:Hid (∀ A V,Held V X A->Calls Tryz.prog 23 #[.slice A.w X.words.length A.cw,.int .i64 X.keys.length,.int .i64 0,.int .i64 (X.keys.length:Int)] V (Tells n 0 V))) (xb:Nat) (f2 t2:Int) (n2:Int) (hxb:xb<=65536) (n20:0<=n2) (n21:n2<=65536) (hl2:IntKind.u64.wrap ((Y.laid:Int)-(s.laid:Int))=n2) (hz2:Y.keys.length≠s.keys.length) (B:Sl)
  (CN2:Hid (∀ V,Held V s a->Tab V->Calls Tryz.prog 21 #[.slice a.w s.words.length a.cw,.int .i64 s.keys.length,.int .i64 k] V (Tells xb 0 V)))
  (CL2:Hid (∀ V,Held V s a->Tab V->Calls Tryz.prog 24 #[slv s a,.int .i64 (xb:Int)] V (Ans B 0 V)))
  (CP2:Hid (∀ A V,Held V B A->Tab V->Calls Tryz.prog 22 #[cfv c,slv B A,.int .i64 (xb:Int),.int .i64 0] V (Parts f2 t2 false V)))
  (CC2:Hid (∀ A V,Held V Y A->Calls Tryz.prog 23 #[.slice A.w Y.words.length A.cw,.int .i64 Y.keys.length,.int .i64 0,.int .i64 (Y.keys.length:Int)] V (Tells n2 0 V))) :
  Calls Tryz.prog 5 #[cfv c,slv s a,.int .i64 k,pv (x1,x2)] W fun e w'=>e=.returned (.bool true)/\Below W.heap.size W w':=by
 have HGr:=aq hg;obtain⟨W0,hW0⟩:∃ W0,W0=((W.alloc (.cells (cfCells c) 32)).alloc (.cells #[.int .i64 s.seg,.slice a.w s.words.length a.cw,.slice a.k s.keys.length a.ck,.slice a.v s.vals.length a.cv,.slice a.c s.counts.length a.cc,.int .u64 (s.laid:Int)] 27)).alloc (.cells #[.int .i64 x1,.int .i64 x2] 36):=⟨_,rfl⟩;have BC:=aq (show CBox W0 W.heap.size c by rw [hW0];exact ((CBox.new W c 32).below ((Below.refl _ _).alloc (Nat.le_refl _) _)).below ((Below.refl _ _).alloc (Nat.le_refl _) _));have BS:=aq (show Box W0 (W.heap.size+1) s a by rw [hW0];exact (Box.second W _ s a 27).below ((Below.refl _ _).alloc (Nat.le_refl _) _))
 have PQ:=aq (show PBox W0 (W.heap.size+1+1) (x1,x2) by
  rw [hW0];have q:=PBox.new ((W.alloc (.cells (cfCells c) 32)).alloc (.cells #[.int .i64 s.seg,.slice a.w s.words.length a.cw,.slice a.k s.keys.length a.ck,.slice a.v s.vals.length a.cv,.slice a.c s.counts.length a.cc,.int .u64 (s.laid:Int)] 27)) (x1,x2) 36
  simp only [World.size_alloc] at q
  exact q)
 have BB:=aq (show Below W.heap.size W W0 by rw [hW0];exact (((Below.refl W.heap.size W).alloc (Nat.le_refl _) _).alloc (by simp) _).alloc (by simp;omega) _);have HA:=aq (h.below BB.out);have TB:=aq (hT.below BB.out);subst hEP;have hw:IntKind.i64.wrap (k-1)=k-1:=IntWalk.i64_in _ (by omega);have hu:IntKind.u64.wrap n=n:=IntWalk.u64_in _ (by omega)
 have hz1:((X.keys.length:Int)==(s.keys.length:Int))=false:=by simp;omega
 subst hET;have hu2:IntKind.u64.wrap n2=n2:=IntWalk.u64_in _ (by omega)
 have hz3:((Y.keys.length:Int)==(s.keys.length:Int))=false:=by simp;omega
 unfold slv cfv at CPu CTa CP1  CP2;unfold slv at CL2;unfold Tells at CN1 CC1 CN2 CC2;unfold Parts at CP1 CP2;clear h hg hT hz hz2;unfold slv pv cfv
 go_enter Tryz.func5,Tryz.ntmps5
 unfold cfCells at hW0
 go_upto_region 1 with (fail)
 rw [<-hW0];clear hW0
 go_wp2_with fail
 refine (l9Alive _ TB.out).mono ?_;rintro e w0 ⟨rfl,hb⟩;replace BC:=aq (BC.out.below hb);replace BS:=aq (BS.out.below hb);replace PQ:=aq (PQ.out.below hb);replace HA:=aq (HA.out.below hb);replace TB:=aq (TB.out.below hb);replace BB:=aq (BB.out.trans (hb.mono BB.out.size));clear hb;obtain⟨_,p0,p1,p2,p3,p4,p5,_⟩:=BS.out
 go_wp2_with fail
 refine (r4Great s a 600 _).mono ?_;rintro e w1 ⟨rfl,hb⟩;rw [HGr.out];replace BC:=aq (BC.out.below hb);replace BS:=aq (BS.out.below hb);replace PQ:=aq (PQ.out.below hb);replace HA:=aq (HA.out.below hb);replace TB:=aq (TB.out.below hb);replace BB:=aq (BB.out.trans (hb.mono BB.out.size));clear hb p0 p1 p2 p3 p4 p5;obtain⟨_,p0,p1,p2,p3,p4,p5,_⟩:=BS.out;have e0:=PQ.out.c0;have e1:=PQ.out.c1
 try dsimp only at e0 e1
 obtain⟨_,c0,c1,c2,c3,c4,c5,c6,c7,c8,_⟩:=BC.out
 go_wp2_with fail
 refine (CPu.out _ HA.out TB.out).mono ?_;rintro e w2 ⟨A2,rfl,own,hb⟩;have O2:=aq own.held;clear own;replace BC:=aq (BC.out.below hb);replace BS:=aq (BS.out.below hb);replace PQ:=aq (PQ.out.below hb);replace HA:=aq (HA.out.below hb);replace TB:=aq (TB.out.below hb);replace BB:=aq (BB.out.trans (hb.mono BB.out.size));clear hb e0 e1 c0 c1 c2 c3 c4 c5 c6 c7 c8 p0 p1 p2 p3 p4 p5;unfold slv
 go_upto_region 6 with (fail)
 obtain⟨V2,hV⟩:∃ V,V=w2.alloc (.cells #[.int .i64 X.seg,.slice A2.w X.words.length A2.cw,.slice A2.k X.keys.length A2.ck,.slice A2.v X.vals.length A2.cv,.slice A2.c X.counts.length A2.cc,.int .u64 (X.laid:Int)] 27):=⟨_,rfl⟩
 have hba:Below w2.heap.size w2 V2:=by rw [hV];exact (Below.refl _ _).alloc (Nat.le_refl _) _
 have B2:=aq (show Box V2 w2.heap.size X A2 by rw [hV];exact Box.new w2 X A2 27);rw [<-hV];clear hV;replace BC:=aq (BC.out.below hba);replace BS:=aq (BS.out.below hba);replace PQ:=aq (PQ.out.below hba);replace HA:=aq (HA.out.below hba);replace TB:=aq (TB.out.below hba);replace O2:=aq (O2.out.below hba);replace BB:=aq (BB.out.trans (hba.mono BB.out.size));clear hba;obtain⟨_,p0,p1,p2,p3,p4,p5,_⟩:=BS.out;obtain⟨_,q0,q1,q2,q3,q4,q5,_⟩:=B2.out;have e0:=PQ.out.c0;have e1:=PQ.out.c1
 try dsimp only at e0 e1
 obtain⟨_,c0,c1,c2,c3,c4,c5,c6,c7,c8,_⟩:=BC.out
 go_wp2_with fail
 refine (CN1.out _ HA.out TB.out).mono ?_;rintro e w3 ⟨rfl,hb⟩;replace BC:=aq (BC.out.below hb);replace BS:=aq (BS.out.below hb);replace PQ:=aq (PQ.out.below hb);replace HA:=aq (HA.out.below hb);replace TB:=aq (TB.out.below hb);replace O2:=aq (O2.out.below hb);replace B2:=aq (B2.out.below hb);replace BB:=aq (BB.out.trans (hb.mono BB.out.size));clear hb e0 e1 c0 c1 c2 c3 c4 c5 c6 c7 c8 p0 p1 p2 p3 p4 p5 q0 q1 q2 q3 q4 q5;obtain⟨_,p0,p1,p2,p3,p4,p5,_⟩:=BS.out;obtain⟨_,q0,q1,q2,q3,q4,q5,_⟩:=B2.out;have e0:=PQ.out.c0;have e1:=PQ.out.c1
 try dsimp only at e0 e1
 obtain⟨_,c0,c1,c2,c3,c4,c5,c6,c7,c8,_⟩:=BC.out
 go_wp2_with fail
 refine (CP1.out _ HA.out TB.out).mono ?_;rintro e w4 ⟨rfl,hb⟩;replace BC:=aq (BC.out.below hb);replace BS:=aq (BS.out.below hb);replace PQ:=aq (PQ.out.below hb);replace HA:=aq (HA.out.below hb);replace TB:=aq (TB.out.below hb);replace O2:=aq (O2.out.below hb);replace B2:=aq (B2.out.below hb);replace BB:=aq (BB.out.trans (hb.mono BB.out.size));clear hb e0 e1 c0 c1 c2 c3 c4 c5 c6 c7 c8 p0 p1 p2 p3 p4 p5 q0 q1 q2 q3 q4 q5;obtain⟨_,p0,p1,p2,p3,p4,p5,_⟩:=BS.out;obtain⟨_,q0,q1,q2,q3,q4,q5,_⟩:=B2.out;have e0:=PQ.out.c0;have e1:=PQ.out.c1
 try dsimp only at e0 e1
 obtain⟨_,c0,c1,c2,c3,c4,c5,c6,c7,c8,_⟩:=BC.out
 go_wp2_with fail
 go_quiet (fail)
 have hb:=below_drewN (Below.refl w4.heap.size w4) nq;replace BC:=aq (BC.out.below hb);replace BS:=aq (BS.out.below hb);replace PQ:=aq (PQ.out.below hb);replace HA:=aq (HA.out.below hb);replace TB:=aq (TB.out.below hb);replace O2:=aq (O2.out.below hb);replace B2:=aq (B2.out.below hb);replace BB:=aq (BB.out.trans (hb.mono BB.out.size));clear hb e0 e1 c0 c1 c2 c3 c4 c5 c6 c7 c8 p0 p1 p2 p3 p4 p5 q0 q1 q2 q3 q4 q5;obtain⟨_,p0,p1,p2,p3,p4,p5,_⟩:=BS.out;obtain⟨_,q0,q1,q2,q3,q4,q5,_⟩:=B2.out;have e0:=PQ.out.c0;have e1:=PQ.out.c1
 try dsimp only at e0 e1
 obtain⟨_,c0,c1,c2,c3,c4,c5,c6,c7,c8,_⟩:=BC.out
 go_wp2_with fail
 refine (CC1.out A2 _ O2.out).mono ?_;rintro e w5 ⟨rfl,hb⟩;replace BC:=aq (BC.out.below hb);replace BS:=aq (BS.out.below hb);replace PQ:=aq (PQ.out.below hb);replace HA:=aq (HA.out.below hb);replace TB:=aq (TB.out.below hb);replace O2:=aq (O2.out.below hb);replace B2:=aq (B2.out.below hb);replace BB:=aq (BB.out.trans (hb.mono BB.out.size));clear hb e0 e1 c0 c1 c2 c3 c4 c5 c6 c7 c8 p0 p1 p2 p3 p4 p5 q0 q1 q2 q3 q4 q5;obtain⟨_,p0,p1,p2,p3,p4,p5,_⟩:=BS.out;obtain⟨_,q0,q1,q2,q3,q4,q5,_⟩:=B2.out;have e0:=PQ.out.c0;have e1:=PQ.out.c1
 try dsimp only at e0 e1
 obtain⟨_,c0,c1,c2,c3,c4,c5,c6,c7,c8,_⟩:=BC.out
 go_wp2_with fail
 refine (CTa.out _ HA.out TB.out).mono ?_;rintro e w6 ⟨A3,rfl,own,hb⟩;have O3:=aq own.held;clear own;replace BC:=aq (BC.out.below hb);replace BS:=aq (BS.out.below hb);replace PQ:=aq (PQ.out.below hb);replace HA:=aq (HA.out.below hb);replace TB:=aq (TB.out.below hb);replace O2:=aq (O2.out.below hb);replace B2:=aq (B2.out.below hb);replace BB:=aq (BB.out.trans (hb.mono BB.out.size));clear hb e0 e1 c0 c1 c2 c3 c4 c5 c6 c7 c8 p0 p1 p2 p3 p4 p5 q0 q1 q2 q3 q4 q5;unfold slv
 go_upto_region 15 with (fail)
 obtain⟨V3,hV⟩:∃ V,V=w6.alloc (.cells #[.int .i64 Y.seg,.slice A3.w Y.words.length A3.cw,.slice A3.k Y.keys.length A3.ck,.slice A3.v Y.vals.length A3.cv,.slice A3.c Y.counts.length A3.cc,.int .u64 (Y.laid:Int)] 27):=⟨_,rfl⟩
 have hba:Below w6.heap.size w6 V3:=by rw [hV];exact (Below.refl _ _).alloc (Nat.le_refl _) _
 have B3:=aq (show Box V3 w6.heap.size Y A3 by rw [hV];exact Box.new w6 Y A3 27);rw [<-hV];clear hV;replace BC:=aq (BC.out.below hba);replace BS:=aq (BS.out.below hba);replace PQ:=aq (PQ.out.below hba);replace HA:=aq (HA.out.below hba);replace TB:=aq (TB.out.below hba);replace O2:=aq (O2.out.below hba);replace B2:=aq (B2.out.below hba);replace O3:=aq (O3.out.below hba);replace BB:=aq (BB.out.trans (hba.mono BB.out.size));clear hba;obtain⟨_,p0,p1,p2,p3,p4,p5,_⟩:=BS.out;obtain⟨_,q0,q1,q2,q3,q4,q5,_⟩:=B2.out;obtain⟨_,r0,r1,r2,r3,r4,r5,_⟩:=B3.out;have e0:=PQ.out.c0;have e1:=PQ.out.c1
 try dsimp only at e0 e1
 obtain⟨_,c0,c1,c2,c3,c4,c5,c6,c7,c8,_⟩:=BC.out
 go_wp2_with fail
 refine (CN2.out _ HA.out TB.out).mono ?_;rintro e w7 ⟨rfl,hb⟩;replace BC:=aq (BC.out.below hb);replace BS:=aq (BS.out.below hb);replace PQ:=aq (PQ.out.below hb);replace HA:=aq (HA.out.below hb);replace TB:=aq (TB.out.below hb);replace O2:=aq (O2.out.below hb);replace B2:=aq (B2.out.below hb);replace O3:=aq (O3.out.below hb);replace B3:=aq (B3.out.below hb);replace BB:=aq (BB.out.trans (hb.mono BB.out.size));clear hb e0 e1 c0 c1 c2 c3 c4 c5 c6 c7 c8 p0 p1 p2 p3 p4 p5 q0 q1 q2 q3 q4 q5 r0 r1 r2 r3 r4 r5;obtain⟨_,p0,p1,p2,p3,p4,p5,_⟩:=BS.out;obtain⟨_,q0,q1,q2,q3,q4,q5,_⟩:=B2.out;obtain⟨_,r0,r1,r2,r3,r4,r5,_⟩:=B3.out;have e0:=PQ.out.c0;have e1:=PQ.out.c1
 try dsimp only at e0 e1
 obtain⟨_,c0,c1,c2,c3,c4,c5,c6,c7,c8,_⟩:=BC.out
 go_wp2_with fail
 refine (CL2.out _ HA.out TB.out).mono ?_;rintro e w8 ⟨A4,rfl,own,hb⟩;have O4:=aq own.held;clear own;replace BC:=aq (BC.out.below hb);replace BS:=aq (BS.out.below hb);replace PQ:=aq (PQ.out.below hb);replace HA:=aq (HA.out.below hb);replace TB:=aq (TB.out.below hb);replace O2:=aq (O2.out.below hb);replace B2:=aq (B2.out.below hb);replace O3:=aq (O3.out.below hb);replace B3:=aq (B3.out.below hb);replace BB:=aq (BB.out.trans (hb.mono BB.out.size));clear hb e0 e1 c0 c1 c2 c3 c4 c5 c6 c7 c8 p0 p1 p2 p3 p4 p5 q0 q1 q2 q3 q4 q5 r0 r1 r2 r3 r4 r5;unfold slv
 go_upto_region 19 with (fail)
 obtain⟨V4,hV⟩:∃ V,V=w8.alloc (.cells #[.int .i64 B.seg,.slice A4.w B.words.length A4.cw,.slice A4.k B.keys.length A4.ck,.slice A4.v B.vals.length A4.cv,.slice A4.c B.counts.length A4.cc,.int .u64 (B.laid:Int)] 27):=⟨_,rfl⟩
 have hba:Below w8.heap.size w8 V4:=by rw [hV];exact (Below.refl _ _).alloc (Nat.le_refl _) _
 have B4:=aq (show Box V4 w8.heap.size B A4 by rw [hV];exact Box.new w8 B A4 27);rw [<-hV];clear hV;replace BC:=aq (BC.out.below hba);replace BS:=aq (BS.out.below hba);replace PQ:=aq (PQ.out.below hba);replace HA:=aq (HA.out.below hba);replace TB:=aq (TB.out.below hba);replace O2:=aq (O2.out.below hba);replace B2:=aq (B2.out.below hba);replace O3:=aq (O3.out.below hba);replace B3:=aq (B3.out.below hba);replace O4:=aq (O4.out.below hba);replace BB:=aq (BB.out.trans (hba.mono BB.out.size));clear hba;obtain⟨_,p0,p1,p2,p3,p4,p5,_⟩:=BS.out;obtain⟨_,q0,q1,q2,q3,q4,q5,_⟩:=B2.out;obtain⟨_,r0,r1,r2,r3,r4,r5,_⟩:=B3.out;obtain⟨_,s0,s1,s2,s3,s4,s5,_⟩:=B4.out;have e0:=PQ.out.c0;have e1:=PQ.out.c1
 try dsimp only at e0 e1
 obtain⟨_,c0,c1,c2,c3,c4,c5,c6,c7,c8,_⟩:=BC.out
 go_wp2_with fail
 refine (CP2.out A4 _ O4.out TB.out).mono ?_;rintro e w9 ⟨rfl,hb⟩;replace BC:=aq (BC.out.below hb);replace BS:=aq (BS.out.below hb);replace PQ:=aq (PQ.out.below hb);replace HA:=aq (HA.out.below hb);replace TB:=aq (TB.out.below hb);replace O2:=aq (O2.out.below hb);replace B2:=aq (B2.out.below hb);replace O3:=aq (O3.out.below hb);replace B3:=aq (B3.out.below hb);replace O4:=aq (O4.out.below hb);replace B4:=aq (B4.out.below hb);replace BB:=aq (BB.out.trans (hb.mono BB.out.size));clear hb e0 e1 c0 c1 c2 c3 c4 c5 c6 c7 c8 p0 p1 p2 p3 p4 p5 q0 q1 q2 q3 q4 q5 r0 r1 r2 r3 r4 r5 s0 s1 s2 s3 s4 s5;obtain⟨_,p0,p1,p2,p3,p4,p5,_⟩:=BS.out;obtain⟨_,q0,q1,q2,q3,q4,q5,_⟩:=B2.out;obtain⟨_,r0,r1,r2,r3,r4,r5,_⟩:=B3.out;obtain⟨_,s0,s1,s2,s3,s4,s5,_⟩:=B4.out;have e0:=PQ.out.c0;have e1:=PQ.out.c1
 try dsimp only at e0 e1
 obtain⟨_,c0,c1,c2,c3,c4,c5,c6,c7,c8,_⟩:=BC.out
 go_wp2_with fail
 go_quiet (fail)
 have hb:=below_drewN (Below.refl w9.heap.size w9) nq;replace BC:=aq (BC.out.below hb);replace BS:=aq (BS.out.below hb);replace PQ:=aq (PQ.out.below hb);replace HA:=aq (HA.out.below hb);replace TB:=aq (TB.out.below hb);replace O2:=aq (O2.out.below hb);replace B2:=aq (B2.out.below hb);replace O3:=aq (O3.out.below hb);replace B3:=aq (B3.out.below hb);replace O4:=aq (O4.out.below hb);replace B4:=aq (B4.out.below hb);replace BB:=aq (BB.out.trans (hb.mono BB.out.size));clear hb e0 e1 c0 c1 c2 c3 c4 c5 c6 c7 c8 p0 p1 p2 p3 p4 p5 q0 q1 q2 q3 q4 q5 r0 r1 r2 r3 r4 r5 s0 s1 s2 s3 s4 s5;obtain⟨_,p0,p1,p2,p3,p4,p5,_⟩:=BS.out;obtain⟨_,q0,q1,q2,q3,q4,q5,_⟩:=B2.out;obtain⟨_,r0,r1,r2,r3,r4,r5,_⟩:=B3.out;obtain⟨_,s0,s1,s2,s3,s4,s5,_⟩:=B4.out;have e0:=PQ.out.c0;have e1:=PQ.out.c1
 try dsimp only at e0 e1
 obtain⟨_,c0,c1,c2,c3,c4,c5,c6,c7,c8,_⟩:=BC.out
 go_wp2_with fail
 refine (CC2.out A3 _ O3.out).mono ?_;rintro e w10 ⟨rfl,hb⟩;replace BC:=aq (BC.out.below hb);replace BS:=aq (BS.out.below hb);replace PQ:=aq (PQ.out.below hb);replace HA:=aq (HA.out.below hb);replace TB:=aq (TB.out.below hb);replace O2:=aq (O2.out.below hb);replace B2:=aq (B2.out.below hb);replace O3:=aq (O3.out.below hb);replace B3:=aq (B3.out.below hb);replace O4:=aq (O4.out.below hb);replace B4:=aq (B4.out.below hb);replace BB:=aq (BB.out.trans (hb.mono BB.out.size));clear hb e0 e1 c0 c1 c2 c3 c4 c5 c6 c7 c8 p0 p1 p2 p3 p4 p5 q0 q1 q2 q3 q4 q5 r0 r1 r2 r3 r4 r5 s0 s1 s2 s3 s4 s5;obtain⟨_,p0,p1,p2,p3,p4,p5,_⟩:=BS.out;obtain⟨_,r0,r1,r2,r3,r4,r5,_⟩:=B3.out;go_wp2;go_ret;exact⟨rfl,BB.out⟩
theorem great (s:Sl) (a:Ads) (c:Cf) (k x1 x2:Int) (W:World) (hg:s.greatB 600=true) (hT:Tab W) :
  Calls Tryz.prog 5 #[cfv c,slv s a,.int .i64 k,pv (x1,x2)] W fun e w'=>e=.returned (.bool true)/\Below W.heap.size W w':=by
 have HG:=aq hg;have TB:=aq hT;have BB0:=aq (fun o o' o''=>(((Below.refl W.heap.size W).alloc (Nat.le_refl _) o).alloc (by simp) o').alloc (by simp;omega) o'');have BX:=aq (fun o''=>(Box.second W (.cells (cfCells c) 32) s a 27).below ((Below.refl _ _).alloc (Nat.le_refl _) o''));clear hg hT;unfold slCells cfCells at BX;unfold slv pv cfv
 go_enter Tryz.func5,Tryz.ntmps5
 go_wp2_with fail
 refine (l9Alive _ (TB.out.below (BB0.out _ _ _))).mono ?_;rintro e w0 ⟨rfl,hb⟩;have B1:=aq ((BB0.out _ _ _).trans (hb.mono (by simp;omega)));obtain⟨_,p0,p1,p2,p3,p4,p5,_⟩:=(BX.out _).below hb;clear hb
 go_wp2_with fail
 refine (r4Great s a 600 _).mono ?_;rintro e w1 ⟨rfl,hb⟩;rw [HG.out];go_wp2;go_ret;exact⟨rfl,B1.out.trans (hb.mono B1.out.size)⟩
theorem walk (s:Sl) (a:Ads) (c:Cf) (k x1 x2:Int) (W:World) (hc:c.In) (h:Held W s a) (hok:s.Ok) (hT:Tab W) (ik:In64 k) (ix:In64 x1) (iy:In64 x2) :
  Calls Tryz.prog 5 #[cfv c,slv s a,.int .i64 k,pv (x1,x2)] W fun e w'=>e=.returned (.bool true)/\Below W.heap.size W w':=by
 cases hg:s.greatB 600
 ·have hs:s.Short:=by
   unfold Sl.greatB at hg
   simp only [Bool.or_eq_false_iff,decide_eq_false_iff_not] at hg
   exact⟨by omega,by omega,by omega,by omega⟩
  have l2:=hs.keys;have fx:=Gp.put_fine (c:=c) hok hs k (p:=(x1,x2)) ix iy;have fy:=Gp.take_fine (c:=c) hok hs k;have CPu:=aq (fun V (hv:Held V s a) tv=>gPut c s a k x1 x2 V hc hv hok hs tv ik ix iy);have CTa:=aq (fun V (hv:Held V s a) tv=>gTake c s a k V hc hv hok hs tv ik)
  by_cases hp:Gp.putE c s k=0
  ·obtain⟨H,xa,f,t,b,n,K,hM,hx,hN,hP,C⟩:=Gp.put_cost hok hs (p:=(x1,x2)) hp
   obtain⟨_,h0,h1,_⟩:=Gp.put_ok hp;have ml:=Gp.many_le (s:=s)
   have CN1:=aq (show ∀ V,Held V s a->Tab V->Calls Tryz.prog 21 #[.slice a.w s.words.length a.cw,.int .i64 s.keys.length,.int .i64 (max (k-1) 0)] V (Tells xa (Oc.nthE s.words s.keys.length (max (k-1) 0)) V) from fun V hv tv=>by
    have q:=oNth a.w a.cw s.words s.keys.length (max (k-1) 0) V hv.words hok.words hs.words tv (by omega);rw [hN] at q
    exact q)
   have CP1:=aq (show ∀ V,Held V s a->Tab V->Calls Tryz.prog 22 #[cfv c,slv s a,.int .i64 (xa:Int),.int .i64 1] V (Parts f t b V) from fun V hv tv=>by
    have q:=l9PartPut c s a H xa V hc hv hok hs tv hM K hx;rw [hP] at q
    exact q)
   have CC1:=aq (show ∀ A V,Held V (Gp.putS c s k (x1,x2)) A->Calls Tryz.prog 23 #[.slice A.w (Gp.putS c s k (x1,x2)).words.length A.cw,.int .i64 (Gp.putS c s k (x1,x2)).keys.length,.int .i64 (if b then f else 0),.int .i64 (if b then t else ((Gp.putS c s k (x1,x2)).keys.length:Int))] V (Tells n 0 V) from fun A V hv=>by
    have q:=oCount A.w A.cw (Gp.putS c s k (x1,x2)).words (Gp.putS c s k (x1,x2)).keys.length (if b then f else 0) (if b then t else ((Gp.putS c s k (x1,x2)).keys.length:Int)) V hv.words fx.ok.words fx.short.words;rw [C.v,C.e] at q
    exact q)
   have hl:=laid_sub C.laid C.n0 C.n1
   have hxa:xa<=65536:=by omega
   have hz:=C.size
   by_cases hq:Gp.takeE c s k=0
   ·obtain⟨H',xb,f2,t2,b2,n2,K',hM',hx',hK',hmb,hN',hE',hA',hC',hP',C'⟩:=Gp.take_cost hok hs hq
    obtain⟨_,h0',h1'⟩:=Gp.take_ok hq;have ml':=Gp.many_le (s:=s)
    have CN2:=aq (show ∀ V,Held V s a->Tab V->Calls Tryz.prog 21 #[.slice a.w s.words.length a.cw,.int .i64 s.keys.length,.int .i64 k] V (Tells xb 0 V) from fun V hv tv=>by
     have q:=oNth a.w a.cw s.words s.keys.length k V hv.words hok.words hs.words tv (by omega);rw [hN',hE'] at q
     exact q)
    have CL2:=aq (show ∀ V,Held V s a->Tab V->Calls Tryz.prog 24 #[slv s a,.int .i64 (xb:Int)] V (Ans (s.emptied xb) 0 V) from fun V hv tv=>by
     have q:=cClear s a xb V hv hok hs tv;rw [hA',hC'] at q
     exact q)
    have CP2:=aq (show ∀ A V,Held V (s.emptied xb) A->Tab V->Calls Tryz.prog 22 #[cfv c,slv (s.emptied xb) A,.int .i64 (xb:Int),.int .i64 0] V (Parts f2 t2 b2 V) from fun A V hv tv=>by
     have fe:=emptied_fine hmb hok hs xb;have q:=l9PartTake c (s.emptied xb) A H' xb V hc hv fe.ok fe.short tv hM' K' hx';rw [hP'] at q
     exact q)
    have CC2:=aq (show ∀ A V,Held V (Gp.takeS c s k) A->Calls Tryz.prog 23 #[.slice A.w (Gp.takeS c s k).words.length A.cw,.int .i64 (Gp.takeS c s k).keys.length,.int .i64 (if b2 then f2 else 0),.int .i64 (if b2 then t2 else ((Gp.takeS c s k).keys.length:Int))] V (Tells n2 0 V) from fun A V hv=>by
     have q:=oCount A.w A.cw (Gp.takeS c s k).words (Gp.takeS c s k).keys.length (if b2 then f2 else 0) (if b2 then t2 else ((Gp.takeS c s k).keys.length:Int)) V hv.words fy.ok.words fy.short.words;rw [C'.v,C'.e] at q
     exact q)
    have hl2:=laid_sub C'.laid C'.n0 C'.n1
    have hxb:xb<=65536:=by omega
    have hz2:=C'.size
    cases b<;>cases b2
    ·exact full22 s a c k x1 x2 W h hg hT _ _ _ _ l2 fx.short.keys fy.short.keys CPu CTa hp hq xa f t n _ _ rfl h0 (by omega) hxa C.n0 C.n1 hl (fun e=>by have:=hz.2 e;cases this) CN1 CP1 CC1 xb f2 t2 n2 hxb C'.n0 C'.n1 hl2 (fun e=>by have:=hz2.2 e;cases this) (s.emptied xb) CN2 CL2 CP2 CC2
    ·exact full21 s a c k x1 x2 W h hg hT _ _ _ _ l2 fx.short.keys fy.short.keys CPu CTa hp hq xa f t n _ _ rfl h0 (by omega) hxa C.n0 C.n1 hl (fun e=>by have:=hz.2 e;cases this) CN1 CP1 CC1 xb f2 t2 n2 hxb C'.n0 C'.n1 hl2 (hz2.1 rfl) (s.emptied xb) CN2 CL2 CP2 CC2
    ·exact full12 s a c k x1 x2 W h hg hT _ _ _ _ l2 fx.short.keys fy.short.keys CPu CTa hp hq xa f t n _ _ rfl h0 (by omega) hxa C.n0 C.n1 hl (hz.1 rfl) CN1 CP1 CC1 xb f2 t2 n2 hxb C'.n0 C'.n1 hl2 (fun e=>by have:=hz2.2 e;cases this) (s.emptied xb) CN2 CL2 CP2 CC2
    ·exact full11 s a c k x1 x2 W h hg hT _ _ _ _ l2 fx.short.keys fy.short.keys CPu CTa hp hq xa f t n _ _ rfl h0 (by omega) hxa C.n0 C.n1 hl (hz.1 rfl) CN1 CP1 CC1 xb f2 t2 n2 hxb C'.n0 C'.n1 hl2 (hz2.1 rfl) (s.emptied xb) CN2 CL2 CP2 CC2
   ·cases b
    ·exact full20 s a c k x1 x2 W h hg hT _ _ _ _ l2 fx.short.keys fy.short.keys CPu CTa hp hq xa f t n _ _ rfl h0 (by omega) hxa C.n0 C.n1 hl (fun e=>by have:=hz.2 e;cases this) CN1 CP1 CC1
    ·exact full10 s a c k x1 x2 W h hg hT _ _ _ _ l2 fx.short.keys fy.short.keys CPu CTa hp hq xa f t n _ _ rfl h0 (by omega) hxa C.n0 C.n1 hl (hz.1 rfl) CN1 CP1 CC1
  ·by_cases hq:Gp.takeE c s k=0
   ·obtain⟨H',xb,f2,t2,b2,n2,K',hM',hx',hK',hmb,hN',hE',hA',hC',hP',C'⟩:=Gp.take_cost hok hs hq
    obtain⟨_,h0',h1'⟩:=Gp.take_ok hq;have ml':=Gp.many_le (s:=s)
    have CN2:=aq (show ∀ V,Held V s a->Tab V->Calls Tryz.prog 21 #[.slice a.w s.words.length a.cw,.int .i64 s.keys.length,.int .i64 k] V (Tells xb 0 V) from fun V hv tv=>by
     have q:=oNth a.w a.cw s.words s.keys.length k V hv.words hok.words hs.words tv (by omega);rw [hN',hE'] at q
     exact q)
    have CL2:=aq (show ∀ V,Held V s a->Tab V->Calls Tryz.prog 24 #[slv s a,.int .i64 (xb:Int)] V (Ans (s.emptied xb) 0 V) from fun V hv tv=>by
     have q:=cClear s a xb V hv hok hs tv;rw [hA',hC'] at q
     exact q)
    have CP2:=aq (show ∀ A V,Held V (s.emptied xb) A->Tab V->Calls Tryz.prog 22 #[cfv c,slv (s.emptied xb) A,.int .i64 (xb:Int),.int .i64 0] V (Parts f2 t2 b2 V) from fun A V hv tv=>by
     have fe:=emptied_fine hmb hok hs xb;have q:=l9PartTake c (s.emptied xb) A H' xb V hc hv fe.ok fe.short tv hM' K' hx';rw [hP'] at q
     exact q)
    have CC2:=aq (show ∀ A V,Held V (Gp.takeS c s k) A->Calls Tryz.prog 23 #[.slice A.w (Gp.takeS c s k).words.length A.cw,.int .i64 (Gp.takeS c s k).keys.length,.int .i64 (if b2 then f2 else 0),.int .i64 (if b2 then t2 else ((Gp.takeS c s k).keys.length:Int))] V (Tells n2 0 V) from fun A V hv=>by
     have q:=oCount A.w A.cw (Gp.takeS c s k).words (Gp.takeS c s k).keys.length (if b2 then f2 else 0) (if b2 then t2 else ((Gp.takeS c s k).keys.length:Int)) V hv.words fy.ok.words fy.short.words;rw [C'.v,C'.e] at q
     exact q)
    have hl2:=laid_sub C'.laid C'.n0 C'.n1
    have hxb:xb<=65536:=by omega
    have hz2:=C'.size
    cases b2
    ·exact full02 s a c k x1 x2 W h hg hT _ _ _ _ l2 fx.short.keys fy.short.keys CPu CTa hp hq xb f2 t2 n2 hxb C'.n0 C'.n1 hl2 (fun e=>by have:=hz2.2 e;cases this) (s.emptied xb) CN2 CL2 CP2 CC2
    ·exact full01 s a c k x1 x2 W h hg hT _ _ _ _ l2 fx.short.keys fy.short.keys CPu CTa hp hq xb f2 t2 n2 hxb C'.n0 C'.n1 hl2 (hz2.1 rfl) (s.emptied xb) CN2 CL2 CP2 CC2
   ·exact full00 s a c k x1 x2 W h hg hT _ _ _ _ l2 fx.short.keys fy.short.keys CPu CTa hp hq
 ·exact great s a c k x1 x2 W hg hT
end Go.Proofs.YthaaapfnheocjaaGreatDoor.gapCost

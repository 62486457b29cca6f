/- The walk of the law SpanNames: the limit's and the errors' numbers, and more examples. -/
import Derived.Test.YtfdpkmafemidjaaDoorLaw12Sp
import Derived.Test.YtfdpkmafemidjaaDoorTkSp
set_option linter.unusedVariables false
set_option linter.unusedSimpArgs false
set_option maxHeartbeats 8000000
set_option maxRecDepth 100000
namespace Go.Proofs.YtfdpkmafemidjaaDoor.spanNames
open Go.RowKit
theorem f0:Sn.floorV Sn.ch 4=(0,0):=by decide +kernel
theorem f1:Sn.floorE Sn.ch 4=6:=by decide +kernel
theorem f2:Sn.ceilV Sn.ch 13=(0,0):=by decide +kernel
theorem f3:Sk.nextE Sn.ch 13=6:=by decide +kernel
theorem f4:Sn.minV (Sl.newS 4 4)=(0,0):=by decide +kernel
theorem f5:Sn.endE (Sl.newS 4 4)=6:=by decide +kernel
theorem f6:Sn.maxV (Sl.newS 4 4)=(0,0):=by decide +kernel
theorem f7:Sn.endE (Sl.newS 4 4)=6:=by decide +kernel
theorem f8:Sn.minV Sn.ch=(5,50):=by decide +kernel
theorem f9:Sn.endE Sn.ch=0:=by decide +kernel
theorem f10:Sn.maxV Sn.ch=(12,120):=by decide +kernel
theorem f11:Sn.endE Sn.ch=0:=by decide +kernel
theorem f12:Sn.selV Sn.ch 3=(0,0):=by decide +kernel
theorem f13:Sn.selE Sn.ch 3=290:=by decide +kernel
theorem f14:Sn.selV Sn.ch (-1)=(0,0):=by decide +kernel
theorem f15:Sn.selE Sn.ch (-1)=290:=by decide +kernel
theorem f16:Sn.scanV Sn.ch 5 12 1000=[(5,50),(9,90),(12,120)]:=by decide +kernel
theorem f17:Sn.scanE Sn.ch 1000=0:=by decide +kernel
theorem f18:Sn.scanV Sn.ch 12 5 3=[]:=by decide +kernel
theorem f19:Sn.scanE Sn.ch 3=0:=by decide +kernel
theorem f20:Sn.scanV Sn.ch 5 12 1001=[]:=by decide +kernel
theorem f21:Sn.scanE Sn.ch 1001=2:=by decide +kernel
theorem f22:Sn.scanV Sn.ch 5 12 (-1)=[]:=by decide +kernel
theorem f23:Sn.scanE Sn.ch (-1)=2:=by decide +kernel
theorem f24:Sn.scanV Sn.ch (-9223372036854775808) 9223372036854775807 0=[]:=by decide +kernel
theorem f25:Sn.scanE Sn.ch 0=0:=by decide +kernel
theorem f26:Sl.newE 4 4=0:=by decide +kernel
theorem walk (W:World) (hT:Tab W) :
  Calls Tryd.prog 3 #[] W fun e w'=>e=.returned (.bool true)/\Below W.heap.size W w':=by
 have CF:=aq snch_fine;have EF:=aq (And.intro (ok_new (seg:=4) (many:=4) (small12 (by omega) (by omega))) (short_new (seg:=4) (many:=4)));have CC:=aq (fun V tv=>l12Chapter V tv);have CN:=aq (fun V=>sNew 4 4 V (small12 (by omega) (by omega)) (small12 (by omega) (by omega)));have CA:=aq (fun V tv=>l12Alive V tv);have c1:=aq (fun A V (hv:Held V Sn.ch A) tv=>nFloorOf Sn.ch A 4 V hv CF.out.1 CF.out.2 tv);rw [f0,f1] at c1;have c2:=aq (fun A V (hv:Held V Sn.ch A) tv=>nCeilOf Sn.ch A 13 V hv CF.out.1 CF.out.2 tv);rw [f2,f3] at c2;have c3:=aq (fun A V (hv:Held V (Sl.newS 4 4) A) tv=>nMin (Sl.newS 4 4) A V hv EF.out.1 EF.out.2 tv);rw [f4,f5] at c3;have c4:=aq (fun A V (hv:Held V (Sl.newS 4 4) A) tv=>nMax (Sl.newS 4 4) A V hv EF.out.1 EF.out.2 tv);rw [f6,f7] at c4;have c5:=aq (fun A V (hv:Held V Sn.ch A) tv=>nMin Sn.ch A V hv CF.out.1 CF.out.2 tv);rw [f8,f9] at c5;have c6:=aq (fun A V (hv:Held V Sn.ch A) tv=>nMax Sn.ch A V hv CF.out.1 CF.out.2 tv);rw [f10,f11] at c6;have c7:=aq (fun A V (hv:Held V Sn.ch A) tv=>nSelect Sn.ch A 3 V hv CF.out.1 CF.out.2 tv (small12 (by decide) (by decide)));rw [f12,f13] at c7;have c8:=aq (fun A V (hv:Held V Sn.ch A) tv=>nSelect Sn.ch A (-1) V hv CF.out.1 CF.out.2 tv (small12 (by decide) (by decide)));rw [f14,f15] at c8;have c9:=aq (fun A V (hv:Held V Sn.ch A) tv=>nScan Sn.ch A 5 12 1000 V hv CF.out.1 CF.out.2 tv)
 unfold ScanPost at c9;rw [f16,f17] at c9
 simp only [List.length_cons,List.length_nil,Nat.zero_add,Nat.reduceAdd] at c9
 have c10:=aq (fun A V (hv:Held V Sn.ch A) tv=>nScan Sn.ch A 12 5 3 V hv CF.out.1 CF.out.2 tv);unfold ScanPost at c10;rw [f18,f19] at c10
 simp only [List.length_cons,List.length_nil,Nat.zero_add,Nat.reduceAdd] at c10
 have c11:=aq (fun A V (hv:Held V Sn.ch A) tv=>nScan Sn.ch A 5 12 1001 V hv CF.out.1 CF.out.2 tv);unfold ScanPost at c11;rw [f20,f21] at c11
 simp only [List.length_cons,List.length_nil,Nat.zero_add,Nat.reduceAdd] at c11
 have c12:=aq (fun A V (hv:Held V Sn.ch A) tv=>nScan Sn.ch A 5 12 (-1) V hv CF.out.1 CF.out.2 tv);unfold ScanPost at c12;rw [f22,f23] at c12
 simp only [List.length_cons,List.length_nil,Nat.zero_add,Nat.reduceAdd] at c12
 have c13:=aq (fun A V (hv:Held V Sn.ch A) tv=>nScan Sn.ch A (-9223372036854775808) 9223372036854775807 0 V hv CF.out.1 CF.out.2 tv);unfold ScanPost at c13;rw [f24,f25] at c13
 simp only [List.length_cons,List.length_nil,Nat.zero_add,Nat.reduceAdd] at c13
 rw [f26] at CN;obtain⟨S0,hS0⟩:∃ S,S=Sn.ch:=⟨_,rfl⟩;rw [<-hS0] at CC c1 c2 c5 c6 c7 c8 c9 c10 c11 c12 c13;obtain⟨S4,hS4⟩:∃ S,S=Sl.newS 4 4:=⟨_,rfl⟩;rw [<-hS4] at CN c3 c4;have TB:=aq hT;have BB:=aq (Below.refl W.heap.size W);clear hS0 hS4 hT CF EF;unfold slv at c1 c2 c3 c4 c5 c6 c7 c8 c9 c10 c11 c12 c13;unfold pv at c1 c2 c3 c4 c5 c6 c7 c8
 go_enter Tryd.func3,Tryd.ntmps3
 go_wp2_with fail
 refine (CN.out _).mono ?_;rintro e w1 ⟨AE,rfl,own,hb⟩;have OE:=aq own.held;clear own;replace TB:=aq (TB.out.below hb);replace BB:=aq (BB.out.trans (hb.mono BB.out.size));clear hb;unfold slv
 go_upto_region 2 with (fail)
 obtain⟨V0,hV⟩:∃ V,V=w1.alloc (.cells #[.int .i64 S4.seg,.slice AE.w S4.words.length AE.cw,.slice AE.k S4.keys.length AE.ck,.slice AE.v S4.vals.length AE.cv,.slice AE.c S4.counts.length AE.cc,.int .u64 (S4.laid:Int)] 27):=⟨_,rfl⟩
 have hba:Below w1.heap.size w1 V0:=by rw [hV];exact (Below.refl _ _).alloc (Nat.le_refl _) _
 have BE:=aq (show Box V0 w1.heap.size S4 AE by rw [hV];exact Box.new w1 S4 AE 27);rw [<-hV];clear hV;replace TB:=aq (TB.out.below hba);replace OE:=aq (OE.out.below hba);replace BB:=aq (BB.out.trans (hba.mono BB.out.size));clear hba
 go_wp2_with fail
 refine (CC.out _ TB.out).mono ?_;rintro e x1 ⟨A,rfl,own,hb⟩;replace TB:=aq (TB.out.below hb);replace OE:=aq (OE.out.below hb);replace BE:=aq (BE.out.below hb);replace BB:=aq (BB.out.trans (hb.mono BB.out.size));clear hb;have O1:=aq own.held;clear own;unfold slv
 go_wp2_with fail
 refine (c1.out A _ O1.out TB.out).mono ?_;rintro e x2 ⟨rfl,hb⟩;replace TB:=aq (TB.out.below hb);replace OE:=aq (OE.out.below hb);replace BE:=aq (BE.out.below hb);replace BB:=aq (BB.out.trans (hb.mono BB.out.size));clear hb;clear O1
 go_upto_region 3 with (fail)
 obtain⟨V3,hV⟩:∃ V,V=x2.alloc (.cells #[.int .i64 (0,0).1,.int .i64 (0,0).2] 32):=⟨_,rfl⟩
 have hba:Below x2.heap.size x2 V3:=by rw [hV];exact (Below.refl _ _).alloc (Nat.le_refl _) _
 have P1:=aq (show PBox V3 x2.heap.size (0,0) by rw [hV];exact PBox.new x2 (0,0) 32);rw [<-hV];replace TB:=aq (TB.out.below hba);replace OE:=aq (OE.out.below hba);replace BE:=aq (BE.out.below hba);replace BB:=aq (BB.out.trans (hba.mono BB.out.size));clear hV hba;clear P1
 go_wp2_with fail
 refine (CC.out _ TB.out).mono ?_;rintro e x4 ⟨A,rfl,own,hb⟩;replace TB:=aq (TB.out.below hb);replace OE:=aq (OE.out.below hb);replace BE:=aq (BE.out.below hb);replace BB:=aq (BB.out.trans (hb.mono BB.out.size));clear hb;have O1:=aq own.held;clear own;unfold slv
 go_wp2_with fail
 refine (c2.out A _ O1.out TB.out).mono ?_;rintro e x5 ⟨rfl,hb⟩;replace TB:=aq (TB.out.below hb);replace OE:=aq (OE.out.below hb);replace BE:=aq (BE.out.below hb);replace BB:=aq (BB.out.trans (hb.mono BB.out.size));clear hb;clear O1
 go_upto_region 4 with (fail)
 obtain⟨V6,hV⟩:∃ V,V=x5.alloc (.cells #[.int .i64 (0,0).1,.int .i64 (0,0).2] 32):=⟨_,rfl⟩
 have hba:Below x5.heap.size x5 V6:=by rw [hV];exact (Below.refl _ _).alloc (Nat.le_refl _) _
 have P2:=aq (show PBox V6 x5.heap.size (0,0) by rw [hV];exact PBox.new x5 (0,0) 32);rw [<-hV];replace TB:=aq (TB.out.below hba);replace OE:=aq (OE.out.below hba);replace BE:=aq (BE.out.below hba);replace BB:=aq (BB.out.trans (hba.mono BB.out.size));clear hV hba;clear P2;obtain⟨_,p0,p1,p2,p3,p4,p5,_⟩:=BE.out
 go_wp2_with fail
 refine (c3.out AE _ OE.out TB.out).mono ?_;rintro e x7 ⟨rfl,hb⟩;replace TB:=aq (TB.out.below hb);replace OE:=aq (OE.out.below hb);replace BE:=aq (BE.out.below hb);replace BB:=aq (BB.out.trans (hb.mono BB.out.size));clear hb p0 p1 p2 p3 p4 p5
 go_upto_region 5 with (fail)
 obtain⟨V8,hV⟩:∃ V,V=x7.alloc (.cells #[.int .i64 (0,0).1,.int .i64 (0,0).2] 32):=⟨_,rfl⟩
 have hba:Below x7.heap.size x7 V8:=by rw [hV];exact (Below.refl _ _).alloc (Nat.le_refl _) _
 have P3:=aq (show PBox V8 x7.heap.size (0,0) by rw [hV];exact PBox.new x7 (0,0) 32);rw [<-hV];replace TB:=aq (TB.out.below hba);replace OE:=aq (OE.out.below hba);replace BE:=aq (BE.out.below hba);replace BB:=aq (BB.out.trans (hba.mono BB.out.size));clear hV hba;clear P3;obtain⟨_,p0,p1,p2,p3,p4,p5,_⟩:=BE.out
 go_wp2_with fail
 refine (c4.out AE _ OE.out TB.out).mono ?_;rintro e x9 ⟨rfl,hb⟩;replace TB:=aq (TB.out.below hb);replace OE:=aq (OE.out.below hb);replace BE:=aq (BE.out.below hb);replace BB:=aq (BB.out.trans (hb.mono BB.out.size));clear hb p0 p1 p2 p3 p4 p5
 go_upto_region 6 with (fail)
 obtain⟨V10,hV⟩:∃ V,V=x9.alloc (.cells #[.int .i64 (0,0).1,.int .i64 (0,0).2] 32):=⟨_,rfl⟩
 have hba:Below x9.heap.size x9 V10:=by rw [hV];exact (Below.refl _ _).alloc (Nat.le_refl _) _
 have P4:=aq (show PBox V10 x9.heap.size (0,0) by rw [hV];exact PBox.new x9 (0,0) 32);rw [<-hV];replace TB:=aq (TB.out.below hba);replace OE:=aq (OE.out.below hba);replace BE:=aq (BE.out.below hba);replace BB:=aq (BB.out.trans (hba.mono BB.out.size));clear hV hba;clear P4
 go_wp2_with fail
 refine (CC.out _ TB.out).mono ?_;rintro e x11 ⟨A,rfl,own,hb⟩;replace TB:=aq (TB.out.below hb);replace OE:=aq (OE.out.below hb);replace BE:=aq (BE.out.below hb);replace BB:=aq (BB.out.trans (hb.mono BB.out.size));clear hb;have O1:=aq own.held;clear own;unfold slv
 go_wp2_with fail
 refine (c5.out A _ O1.out TB.out).mono ?_;rintro e x12 ⟨rfl,hb⟩;replace TB:=aq (TB.out.below hb);replace OE:=aq (OE.out.below hb);replace BE:=aq (BE.out.below hb);replace BB:=aq (BB.out.trans (hb.mono BB.out.size));clear hb;clear O1
 go_upto_region 7 with (fail)
 obtain⟨V13,hV⟩:∃ V,V=x12.alloc (.cells #[.int .i64 (5,50).1,.int .i64 (5,50).2] 32):=⟨_,rfl⟩
 have hba:Below x12.heap.size x12 V13:=by rw [hV];exact (Below.refl _ _).alloc (Nat.le_refl _) _
 have P5:=aq (show PBox V13 x12.heap.size (5,50) by rw [hV];exact PBox.new x12 (5,50) 32);rw [<-hV];replace TB:=aq (TB.out.below hba);replace OE:=aq (OE.out.below hba);replace BE:=aq (BE.out.below hba);replace BB:=aq (BB.out.trans (hba.mono BB.out.size));clear hV hba
 go_wp2_with fail
 refine (CC.out _ TB.out).mono ?_;rintro e x14 ⟨A,rfl,own,hb⟩;replace TB:=aq (TB.out.below hb);replace OE:=aq (OE.out.below hb);replace BE:=aq (BE.out.below hb);replace P5:=aq (P5.out.below hb);replace BB:=aq (BB.out.trans (hb.mono BB.out.size));clear hb;have O1:=aq own.held;clear own;unfold slv
 go_wp2_with fail
 refine (c6.out A _ O1.out TB.out).mono ?_;rintro e x15 ⟨rfl,hb⟩;replace TB:=aq (TB.out.below hb);replace OE:=aq (OE.out.below hb);replace BE:=aq (BE.out.below hb);replace P5:=aq (P5.out.below hb);replace BB:=aq (BB.out.trans (hb.mono BB.out.size));clear hb;clear O1
 go_upto_region 8 with (fail)
 obtain⟨V16,hV⟩:∃ V,V=x15.alloc (.cells #[.int .i64 (12,120).1,.int .i64 (12,120).2] 32):=⟨_,rfl⟩
 have hba:Below x15.heap.size x15 V16:=by rw [hV];exact (Below.refl _ _).alloc (Nat.le_refl _) _
 have P6:=aq (show PBox V16 x15.heap.size (12,120) by rw [hV];exact PBox.new x15 (12,120) 32);rw [<-hV];replace TB:=aq (TB.out.below hba);replace OE:=aq (OE.out.below hba);replace BE:=aq (BE.out.below hba);replace P5:=aq (P5.out.below hba);replace BB:=aq (BB.out.trans (hba.mono BB.out.size));clear hV hba
 go_wp2_with fail
 refine (CC.out _ TB.out).mono ?_;rintro e x17 ⟨A,rfl,own,hb⟩;replace TB:=aq (TB.out.below hb);replace OE:=aq (OE.out.below hb);replace BE:=aq (BE.out.below hb);replace P5:=aq (P5.out.below hb);replace P6:=aq (P6.out.below hb);replace BB:=aq (BB.out.trans (hb.mono BB.out.size));clear hb;have O1:=aq own.held;clear own;unfold slv
 go_wp2_with fail
 refine (c7.out A _ O1.out TB.out).mono ?_;rintro e x18 ⟨rfl,hb⟩;replace TB:=aq (TB.out.below hb);replace OE:=aq (OE.out.below hb);replace BE:=aq (BE.out.below hb);replace P5:=aq (P5.out.below hb);replace P6:=aq (P6.out.below hb);replace BB:=aq (BB.out.trans (hb.mono BB.out.size));clear hb;clear O1
 go_upto_region 9 with (fail)
 obtain⟨V19,hV⟩:∃ V,V=x18.alloc (.cells #[.int .i64 (0,0).1,.int .i64 (0,0).2] 32):=⟨_,rfl⟩
 have hba:Below x18.heap.size x18 V19:=by rw [hV];exact (Below.refl _ _).alloc (Nat.le_refl _) _
 have P7:=aq (show PBox V19 x18.heap.size (0,0) by rw [hV];exact PBox.new x18 (0,0) 32);rw [<-hV];replace TB:=aq (TB.out.below hba);replace OE:=aq (OE.out.below hba);replace BE:=aq (BE.out.below hba);replace P5:=aq (P5.out.below hba);replace P6:=aq (P6.out.below hba);replace BB:=aq (BB.out.trans (hba.mono BB.out.size));clear hV hba;clear P7
 go_wp2_with fail
 refine (CC.out _ TB.out).mono ?_;rintro e x20 ⟨A,rfl,own,hb⟩;replace TB:=aq (TB.out.below hb);replace OE:=aq (OE.out.below hb);replace BE:=aq (BE.out.below hb);replace P5:=aq (P5.out.below hb);replace P6:=aq (P6.out.below hb);replace BB:=aq (BB.out.trans (hb.mono BB.out.size));clear hb;have O1:=aq own.held;clear own;unfold slv
 go_wp2_with fail
 refine (c8.out A _ O1.out TB.out).mono ?_;rintro e x21 ⟨rfl,hb⟩;replace TB:=aq (TB.out.below hb);replace OE:=aq (OE.out.below hb);replace BE:=aq (BE.out.below hb);replace P5:=aq (P5.out.below hb);replace P6:=aq (P6.out.below hb);replace BB:=aq (BB.out.trans (hb.mono BB.out.size));clear hb;clear O1
 go_upto_region 10 with (fail)
 obtain⟨V22,hV⟩:∃ V,V=x21.alloc (.cells #[.int .i64 (0,0).1,.int .i64 (0,0).2] 32):=⟨_,rfl⟩
 have hba:Below x21.heap.size x21 V22:=by rw [hV];exact (Below.refl _ _).alloc (Nat.le_refl _) _
 have P8:=aq (show PBox V22 x21.heap.size (0,0) by rw [hV];exact PBox.new x21 (0,0) 32);rw [<-hV];replace TB:=aq (TB.out.below hba);replace OE:=aq (OE.out.below hba);replace BE:=aq (BE.out.below hba);replace P5:=aq (P5.out.below hba);replace P6:=aq (P6.out.below hba);replace BB:=aq (BB.out.trans (hba.mono BB.out.size));clear hV hba;clear P8
 go_wp2_with fail
 refine (CC.out _ TB.out).mono ?_;rintro e x23 ⟨A,rfl,own,hb⟩;replace TB:=aq (TB.out.below hb);replace OE:=aq (OE.out.below hb);replace BE:=aq (BE.out.below hb);replace P5:=aq (P5.out.below hb);replace P6:=aq (P6.out.below hb);replace BB:=aq (BB.out.trans (hb.mono BB.out.size));clear hb;have O1:=aq own.held;clear own;unfold slv
 go_wp2_with fail
 refine (c9.out A _ O1.out TB.out).mono ?_;rintro e x24 ⟨v,rfl,hown,hb⟩;replace TB:=aq (TB.out.below hb);replace OE:=aq (OE.out.below hb);replace BE:=aq (BE.out.below hb);replace P5:=aq (P5.out.below hb);replace P6:=aq (P6.out.below hb);replace BB:=aq (BB.out.trans (hb.mono BB.out.size));clear hb;clear O1;obtain⟨AX1,dX1,rfl,_⟩:=own_cells hown;clear hown
 go_wp2_with fail
 refine (CC.out _ TB.out).mono ?_;rintro e x25 ⟨A,rfl,own,hb⟩;replace TB:=aq (TB.out.below hb);replace OE:=aq (OE.out.below hb);replace BE:=aq (BE.out.below hb);replace P5:=aq (P5.out.below hb);replace P6:=aq (P6.out.below hb);replace BB:=aq (BB.out.trans (hb.mono BB.out.size));clear hb;have O1:=aq own.held;clear own;unfold slv
 go_wp2_with fail
 refine (c10.out A _ O1.out TB.out).mono ?_;rintro e x26 ⟨v,rfl,hown,hb⟩;replace TB:=aq (TB.out.below hb);replace OE:=aq (OE.out.below hb);replace BE:=aq (BE.out.below hb);replace P5:=aq (P5.out.below hb);replace P6:=aq (P6.out.below hb);replace BB:=aq (BB.out.trans (hb.mono BB.out.size));clear hb;clear O1;obtain⟨AX2,dX2,rfl,_⟩:=own_cells hown;clear hown
 go_wp2_with fail
 refine (CC.out _ TB.out).mono ?_;rintro e x27 ⟨A,rfl,own,hb⟩;replace TB:=aq (TB.out.below hb);replace OE:=aq (OE.out.below hb);replace BE:=aq (BE.out.below hb);replace P5:=aq (P5.out.below hb);replace P6:=aq (P6.out.below hb);replace BB:=aq (BB.out.trans (hb.mono BB.out.size));clear hb;have O1:=aq own.held;clear own;unfold slv
 go_wp2_with fail
 refine (c11.out A _ O1.out TB.out).mono ?_;rintro e x28 ⟨v,rfl,hown,hb⟩;replace TB:=aq (TB.out.below hb);replace OE:=aq (OE.out.below hb);replace BE:=aq (BE.out.below hb);replace P5:=aq (P5.out.below hb);replace P6:=aq (P6.out.below hb);replace BB:=aq (BB.out.trans (hb.mono BB.out.size));clear hb;clear O1;obtain⟨AX3,dX3,rfl,_⟩:=own_cells hown;clear hown
 go_wp2_with fail
 refine (CC.out _ TB.out).mono ?_;rintro e x29 ⟨A,rfl,own,hb⟩;replace TB:=aq (TB.out.below hb);replace OE:=aq (OE.out.below hb);replace BE:=aq (BE.out.below hb);replace P5:=aq (P5.out.below hb);replace P6:=aq (P6.out.below hb);replace BB:=aq (BB.out.trans (hb.mono BB.out.size));clear hb;have O1:=aq own.held;clear own;unfold slv
 go_wp2_with fail
 refine (c12.out A _ O1.out TB.out).mono ?_;rintro e x30 ⟨v,rfl,hown,hb⟩;replace TB:=aq (TB.out.below hb);replace OE:=aq (OE.out.below hb);replace BE:=aq (BE.out.below hb);replace P5:=aq (P5.out.below hb);replace P6:=aq (P6.out.below hb);replace BB:=aq (BB.out.trans (hb.mono BB.out.size));clear hb;clear O1;obtain⟨AX4,dX4,rfl,_⟩:=own_cells hown;clear hown
 go_wp2_with fail
 refine (CC.out _ TB.out).mono ?_;rintro e x31 ⟨A,rfl,own,hb⟩;replace TB:=aq (TB.out.below hb);replace OE:=aq (OE.out.below hb);replace BE:=aq (BE.out.below hb);replace P5:=aq (P5.out.below hb);replace P6:=aq (P6.out.below hb);replace BB:=aq (BB.out.trans (hb.mono BB.out.size));clear hb;have O1:=aq own.held;clear own;unfold slv
 go_wp2_with fail
 refine (c13.out A _ O1.out TB.out).mono ?_;rintro e x32 ⟨v,rfl,hown,hb⟩;replace TB:=aq (TB.out.below hb);replace OE:=aq (OE.out.below hb);replace BE:=aq (BE.out.below hb);replace P5:=aq (P5.out.below hb);replace P6:=aq (P6.out.below hb);replace BB:=aq (BB.out.trans (hb.mono BB.out.size));clear hb;clear O1;obtain⟨AX5,dX5,rfl,_⟩:=own_cells hown;clear hown;have a0:=P5.out.c0;have a1:=P5.out.c1
 dsimp only at a0 a1
 go_wp2_with fail
 refine (l12Yes 5 50 _ (by decide) (by decide) (by decide)).mono ?_;rintro e x33 ⟨rfl,hb⟩;replace TB:=aq (TB.out.below hb);replace OE:=aq (OE.out.below hb);replace BE:=aq (BE.out.below hb);replace P5:=aq (P5.out.below hb);replace P6:=aq (P6.out.below hb);replace BB:=aq (BB.out.trans (hb.mono BB.out.size));clear hb a0 a1;have a0:=P6.out.c0;have a1:=P6.out.c1
 dsimp only at a0 a1
 go_wp2_with fail
 refine (l12Yes 12 120 _ (by decide) (by decide) (by decide)).mono ?_;rintro e x34 ⟨rfl,hb⟩;replace TB:=aq (TB.out.below hb);replace OE:=aq (OE.out.below hb);replace BE:=aq (BE.out.below hb);replace P5:=aq (P5.out.below hb);replace P6:=aq (P6.out.below hb);replace BB:=aq (BB.out.trans (hb.mono BB.out.size));clear hb a0 a1
 go_wp2_with fail
 refine (CA.out _ TB.out).mono ?_;rintro e x35 ⟨rfl,hb⟩;replace TB:=aq (TB.out.below hb);replace OE:=aq (OE.out.below hb);replace BE:=aq (BE.out.below hb);replace P5:=aq (P5.out.below hb);replace P6:=aq (P6.out.below hb);replace BB:=aq (BB.out.trans (hb.mono BB.out.size));clear hb;go_wp2;go_ret;exact⟨rfl,BB.out⟩
end Go.Proofs.YtfdpkmafemidjaaDoor.spanNames

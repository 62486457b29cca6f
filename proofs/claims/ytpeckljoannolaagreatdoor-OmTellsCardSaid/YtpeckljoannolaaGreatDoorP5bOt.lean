/- Whether a config may be. -/
import Derived.Test.YtpeckljoannolaaGreatDoorP5aOt
import Derived.Deep.RegionHeld3
import Derived.Test.YtpeckljoannolaaGreatDoorTkOt
set_option linter.unusedVariables false
set_option linter.unusedSimpArgs false
set_option maxHeartbeats 2000000
set_option maxRecDepth 100000
namespace Go.Proofs.YtpeckljoannolaaGreatDoor
open Go.RowKit
theorem blst7 (w:World) (a b c d e f g:Bool) (t:TypeId):BLst (w.alloc (.cells #[.bool a,.bool b,.bool c,.bool d,.bool e,.bool f,.bool g] t)) w.heap.size 0 [a,b,c,d,e,f,g]:=by
 intro j hj
 match j,hj with
 | 0,_=>simp
 | 1,_=>simp
 | 2,_=>simp
 | 3,_=>simp
 | 4,_=>simp
 | 5,_=>simp
 | 6,_=>simp
theorem blst2 (w:World) (a b:Bool) (t:TypeId):BLst (w.alloc (.cells #[.bool a,.bool b] t)) w.heap.size 0 [a,b]:=by
 intro j hj
 match j,hj with
 | 0,_=>simp
 | 1,_=>simp
theorem still_of {P:Program} {f:FuncId} {args:Array Value} {w:World} {v:Value} (h:Calls P f args w fun e w'=>e=.returned v/\w=w'):Calls P f args w fun e w''=>e=.returned v/\w''=w :=
 h.mono fun _ _ ⟨he,hw⟩=>⟨he,hw.symm⟩
theorem kSizes (c:Cf) (w:World) (hc:c.In) :
  Calls Tryz.prog 110 #[cfv c] w fun e w'=>e=.returned (.bool c.sizesB)/\Below w.heap.size w w':=by
 have BX:=aq (CBox.new w c 23);have B0:=aq ((Below.refl w.heap.size w).alloc (Nat.le_refl _) (.cells (cfCells c) 23));have i1:=hc.seg.2;have i2:=hc.least.2
 have E:=aq (show c.sizesB=[(c.tag==1||c.tag==2||c.tag==3),withinB c.most 1 16384,withinB c.seg 4 64,Fr.powB c.seg,withinB c.least c.seg 256,Fr.powB c.least,withinB c.den 1 64].all id by
  simp only [Cf.sizesB,withinB,List.all_cons,List.all_nil,id,Bool.and_true,Bool.and_assoc])
 clear hc;unfold cfCells at BX B0;obtain⟨b,hb⟩:∃ b,b=(c.tag==1||c.tag==2||c.tag==3):=⟨_,rfl⟩;rw [<-hb] at E;unfold cfv;have K:∃ s1 s2 s3:Bool,(c.tag==1)=s1/\(c.tag==2)=s2/\(c.tag==3)=s3/\(s1||s2||s3)=b:=⟨_,_,_,rfl,rfl,rfl,hb.symm⟩;clear hb;obtain⟨s1,s2,s3,k1,k2,k3,rfl⟩:=K
 cases s1<;>cases s2<;>cases s3
 all_goals
  first | rw [show (false||false||false)=false from rfl] at E | rw [show (true||false||false)=true from rfl] at E | rw [show (false||true||false)=true from rfl] at E | rw [show (false||false||true)=true from rfl] at E | rw [show (true||true||false)=true from rfl] at E | rw [show (true||false||true)=true from rfl] at E | rw [show (false||true||true)=true from rfl] at E | rw [show (true||true||true)=true from rfl] at E
  go_enter Tryz.func110,Tryz.ntmps110
  go_upto_region 1 with (fail)
  obtain⟨W5,hW5⟩:∃ W5,W5=w.alloc (.cells #[.int .u8 c.tag,.int .i64 c.most,.int .i64 c.seg,.int .i64 c.least,.int .i64 c.den,.int .i64 c.ll,.int .i64 c.rl,.int .i64 c.rh,.int .i64 c.lh] 23):=⟨_,rfl⟩;rw [<-hW5] at BX B0 ⊢;clear hW5;have q0:W5.drew.cell? ⟨w.heap.size,0,none⟩=some (.int .u8 c.tag):=BX.out.c0;have q1:W5.drew.cell? ⟨w.heap.size,1,none⟩=some (.int .i64 c.most):=BX.out.c1;have q2:W5.drew.cell? ⟨w.heap.size,2,none⟩=some (.int .i64 c.seg):=BX.out.c2;have q3:W5.drew.cell? ⟨w.heap.size,3,none⟩=some (.int .i64 c.least):=BX.out.c3;have q4:W5.drew.cell? ⟨w.heap.size,4,none⟩=some (.int .i64 c.den):=BX.out.c4
  go_still_tail 33,(by kernel_rfl)
  still_call (still_of (kWithin _ _ _ _))
  repeat still_step
  still_call (still_of (kWithin _ _ _ _))
  repeat still_step
  still_call (still_of (fPower _ _ i1))
  repeat still_step
  still_call (still_of (kWithin _ _ _ _))
  repeat still_step
  still_call (still_of (fPower _ _ i2))
  repeat still_step
  still_call (still_of (kWithin _ _ _ _))
  repeat still_step
  refine wpStill_nil ?_
  change wpList _ _ _ _ _ W5.drew
  obtain⟨W6,hW6⟩:∃ W6,W6=W5.drew:=⟨_,rfl⟩;rw [<-hW6];have B1:=aq (show Below w.heap.size w W6 by rw [hW6];exact B0.out.drew);clear hW6 q0 q1 q2 q3 q4
  go_wp2_with fail
  refine (kAll W6.heap.size 0 7 [_,withinB c.most 1 16384,withinB c.seg 4 64,Fr.powB c.seg,withinB c.least c.seg 256,Fr.powB c.least,withinB c.den 1 64] _ (show 7<=1000 by decide) (blst7 W6 _ _ _ _ _ _ _ _)).mono ?_;rw [<-E.out];rintro e w1 ⟨rfl,rfl⟩;go_wp2;go_ret;exact⟨rfl,B1.out.alloc B1.out.size _⟩
def densL (c:Cf):List Bool:=[decide (0<=c.ll),decide (c.ll < c.rl),decide (c.rh < c.lh),decide (c.lh<=c.den),atMostB 1 2 c.rh c.den,atMostB c.rl c.den 1 8,atMostB 2 c.least c.rl c.den]
def densK (c:Cf):Bool:=(densL c).all id
theorem CBox.reads6 {w:World} {g:Nat} {c:Cf} (h:CBox w g c):w.cell? ⟨g,3,none⟩=some (.int .i64 c.least)/\w.cell? ⟨g,4,none⟩=some (.int .i64 c.den)/\w.cell? ⟨g,5,none⟩=some (.int .i64 c.ll)/\w.cell? ⟨g,6,none⟩=some (.int .i64 c.rl)/\w.cell? ⟨g,7,none⟩=some (.int .i64 c.rh)/\w.cell? ⟨g,8,none⟩=some (.int .i64 c.lh):=⟨h.c3,h.c4,h.c5,h.c6,h.c7,h.c8⟩
theorem kDens (c:Cf) (w:World) :
  Calls Tryz.prog 111 #[cfv c] w fun e w'=>e=.returned (.bool (densK c))/\Below w.heap.size w w':=by
 have BX:=aq (CBox.new w c 23);have B0:=aq ((Below.refl w.heap.size w).alloc (Nat.le_refl _) (.cells (cfCells c) 23));have E:=aq (show densK c=[decide (0<=c.ll),decide (c.ll < c.rl),decide (c.rh < c.lh),decide (c.lh<=c.den),atMostB 1 2 c.rh c.den,atMostB c.rl c.den 1 8,atMostB 2 c.least c.rl c.den].all id from rfl);unfold cfCells at BX B0;unfold cfv
 go_enter Tryz.func111,Tryz.ntmps111
 go_upto_region 1 with (fail)
 obtain⟨W5,hW5⟩:∃ W5,W5=w.alloc (.cells #[.int .u8 c.tag,.int .i64 c.most,.int .i64 c.seg,.int .i64 c.least,.int .i64 c.den,.int .i64 c.ll,.int .i64 c.rl,.int .i64 c.rh,.int .i64 c.lh] 23):=⟨_,rfl⟩;rw [<-hW5] at BX B0 ⊢;clear hW5;have q3:W5.drew.cell? ⟨w.heap.size,3,none⟩=some (.int .i64 c.least):=BX.out.c3;have q4:W5.drew.cell? ⟨w.heap.size,4,none⟩=some (.int .i64 c.den):=BX.out.c4;have q5:W5.drew.cell? ⟨w.heap.size,5,none⟩=some (.int .i64 c.ll):=BX.out.c5;have q6:W5.drew.cell? ⟨w.heap.size,6,none⟩=some (.int .i64 c.rl):=BX.out.c6;have q7:W5.drew.cell? ⟨w.heap.size,7,none⟩=some (.int .i64 c.rh):=BX.out.c7;have q8:W5.drew.cell? ⟨w.heap.size,8,none⟩=some (.int .i64 c.lh):=BX.out.c8;have BD:=aq (BX.out.below ((Below.refl _ _).drew));have B1:=aq B0.out.drew
 go_region_held3 (fun w'=>w'.cell? ⟨w.heap.size,3,none⟩=some (.int .i64 c.least)/\w'.cell? ⟨w.heap.size,4,none⟩=some (.int .i64 c.den)/\w'.cell? ⟨w.heap.size,5,none⟩=some (.int .i64 c.ll)/\w'.cell? ⟨w.heap.size,6,none⟩=some (.int .i64 c.rl)/\w'.cell? ⟨w.heap.size,7,none⟩=some (.int .i64 c.rh)/\w'.cell? ⟨w.heap.size,8,none⟩=some (.int .i64 c.lh))
  (first | (with_reducible exact⟨q3,q4,q5,q6,q7,q8⟩) | (with_reducible exact X1.out.reads6) | (with_reducible exact X2.out.reads6) | (with_reducible exact X3.out.reads6) | (with_reducible exact (X3.out.below ((Below.refl _ _).alloc (Nat.le_refl _) _)).reads6))
  (first | (go_at_call 163;(with_reducible refine (kAtMost 1 2 c.rh c.den _).mono ?_);rintro e w1 ⟨rfl,hb1⟩;have X1:=aq (BD.out.below hb1);have B2:=aq (B1.out.trans (hb1.mono B1.out.size));clear hb1) | (go_at_call 163;(with_reducible refine (kAtMost c.rl c.den 1 8 _).mono ?_);rintro e w2 ⟨rfl,hb2⟩;have X2:=aq (X1.out.below hb2);have B3:=aq (B2.out.trans (hb2.mono B2.out.size));clear hb2) | (go_at_call 163;(with_reducible refine (kAtMost 2 c.least c.rl c.den _).mono ?_);rintro e w3 ⟨rfl,hb3⟩;have X3:=aq (X2.out.below hb3);have B4:=aq (B3.out.trans (hb3.mono B3.out.size));clear hb3) | (go_at_call 109;refine (kAll _ 0 7 [decide (0<=c.ll),decide (c.ll < c.rl),decide (c.rh < c.lh),decide (c.lh<=c.den),atMostB 1 2 c.rh c.den,atMostB c.rl c.den 1 8,atMostB 2 c.least c.rl c.den] _ (show 7<=1000 by decide) (blst7 w3 _ _ _ _ _ _ _ _)).mono ?_;rw [<-E.out];rintro e w4 ⟨rfl,rfl⟩))
 go_wp2;go_ret;exact⟨rfl,B4.out.alloc B4.out.size _⟩
theorem dens_eq {c:Cf} (hs:c.Sizes):densK c=c.densB:=by
 have a1:=hs.den1;have a2:=hs.den2;have a3:=hs.seg1;have a4:=hs.least1;have a5:=hs.least2;rw [Bool.eq_iff_iff,Cf.dens_iff];unfold densK densL atMostB
 simp only [List.all_cons,List.all_nil,id,Bool.and_true,Bool.and_eq_true,decide_eq_true_eq]
 constructor
 ·rintro⟨h1,h2,h3,h4,⟨_,h5⟩,⟨_,h6⟩,⟨_,h7⟩⟩
  exact⟨h1,h2,h3,h4,by omega,by omega,by rw [Int.mul_comm c.rl];exact h7⟩
 ·rintro⟨h1,h2,h3,h4,h5,h6,h7⟩
  unfold Fr.small4;rw [Fr.small_mk (n:=1) (by omega) (by omega),Fr.small_mk (n:=2) (by omega) (by omega),Fr.small_mk (n:=c.rh) (by omega) (by omega),Fr.small_mk (n:=c.den) (by omega) (by omega),Fr.small_mk (n:=c.rl) (by omega) (by omega),Fr.small_mk (n:=8) (by omega) (by omega),Fr.small_mk (n:=c.least) (by omega) (by omega)];exact⟨h1,h2,h3,h4,⟨rfl,by omega⟩,⟨rfl,by omega⟩,⟨rfl,by rw [Int.mul_comm c.least];exact h7⟩⟩
theorem CBox.reads {w:World} {g:Nat} {c:Cf} (h:CBox w g c):w.cell? ⟨g,0,none⟩=some (.int .u8 c.tag)/\w.cell? ⟨g,1,none⟩=some (.int .i64 c.most)/\w.cell? ⟨g,2,none⟩=some (.int .i64 c.seg)/\w.cell? ⟨g,3,none⟩=some (.int .i64 c.least)/\w.cell? ⟨g,4,none⟩=some (.int .i64 c.den)/\w.cell? ⟨g,5,none⟩=some (.int .i64 c.ll)/\w.cell? ⟨g,6,none⟩=some (.int .i64 c.rl)/\w.cell? ⟨g,7,none⟩=some (.int .i64 c.rh)/\w.cell? ⟨g,8,none⟩=some (.int .i64 c.lh):=⟨h.c0,h.c1,h.c2,h.c3,h.c4,h.c5,h.c6,h.c7,h.c8⟩
namespace Cf
theorem top_bd {c:Cf} (hs:c.Sizes) (hd:c.Dens):c.seg<=c.top/\c.top<=65535:=by
 have h1:=hs.most1;have h2:=hs.most2;have h3:=takes_le hs hd (n:=c.most) (by omega) h2;have h4:=takes_ge c hs c.most;have h5:=hs.least1;unfold top
 omega
theorem high_bd (c:Cf) (size:Int) (h:c.seg<=size) (h1:4<=c.seg) (h2:size<=65535):0<=c.high size/\c.high size<=14:=by
 unfold high
 have q2:size/c.seg<=16383:=by
  have:size/c.seg < 16384:=Int.ediv_lt_of_lt_mul (by omega) (by omega)
  omega
 have q1:0<=size/c.seg:=Int.ediv_nonneg (by omega) (by omega);refine⟨Fr.lg_nonneg _,?_⟩;unfold Fr.lg
 by_cases h0:(size/c.seg).toNat=0
 ·rw [h0];decide
 ·have:(size/c.seg).toNat.log2 < 15:=(Nat.log2_lt h0).2 (by omega)
  omega
end Cf
theorem kHeights (c:Cf) (w:World) (hs:c.Sizes) (hd:c.Dens) :
  Calls Tryz.prog 112 #[cfv c] w fun e w'=>e=.returned (.bool c.fallsB)/\Below w.heap.size w w':=by
 have BX:=aq (CBox.new w c 23);have B0:=aq ((Below.refl w.heap.size w).alloc (Nat.le_refl _) (.cells (cfCells c) 23));have m1:=hs.most1;have m2:=hs.most2;have TB:=c.top_bd hs hd;obtain⟨g1,g2⟩:=TB;have HB:=c.high_bd c.top g1 hs.seg1 g2;obtain⟨g3,g4⟩:=HB;have d1:=hs.den1;have d2:=hs.den2;have r1:=hd.rh1 hs;have r2:=hd.rhlh;have r3:=hd.lhd;have s1:=hs.seg1;have s2:=hs.seg2
 have E:=aq (show atMostB (c.high c.top) c.seg (c.lh-c.rh) c.den=c.fallsB by
  rw [atMost_small (by omega) (by omega) (by omega) (by omega) (by omega) (by omega) (by omega) (by omega)];unfold Cf.fallsB
  rw [Int.mul_comm c.seg])
 have CC:=aq (fun W=>kCapacityFor c c.most W hs hd (by omega) m2);have CH:=aq (fun W=>kHeightOf c c.top W s1 g1 (by omega));have HT:=aq (show c.takes c.most=c.top from rfl);rw [HT.out] at CC;clear hs hd;unfold cfCells at BX B0;unfold cfv at CC CH ⊢
 go_enter Tryz.func112,Tryz.ntmps112
 go_upto_region 1 with (fail)
 obtain⟨W5,hW5⟩:∃ W5,W5=w.alloc (.cells #[.int .u8 c.tag,.int .i64 c.most,.int .i64 c.seg,.int .i64 c.least,.int .i64 c.den,.int .i64 c.ll,.int .i64 c.rl,.int .i64 c.rh,.int .i64 c.lh] 23):=⟨_,rfl⟩;rw [<-hW5] at BX B0 ⊢;clear hW5;have B1:=aq B0.out.drew;have X0:=aq (BX.out.below ((Below.refl _ _).drew))
 go_region_held3 (fun w'=>w'.cell? ⟨w.heap.size,0,none⟩=some (.int .u8 c.tag)/\w'.cell? ⟨w.heap.size,1,none⟩=some (.int .i64 c.most)/\w'.cell? ⟨w.heap.size,2,none⟩=some (.int .i64 c.seg)/\w'.cell? ⟨w.heap.size,3,none⟩=some (.int .i64 c.least)/\w'.cell? ⟨w.heap.size,4,none⟩=some (.int .i64 c.den)/\w'.cell? ⟨w.heap.size,5,none⟩=some (.int .i64 c.ll)/\w'.cell? ⟨w.heap.size,6,none⟩=some (.int .i64 c.rl)/\w'.cell? ⟨w.heap.size,7,none⟩=some (.int .i64 c.rh)/\w'.cell? ⟨w.heap.size,8,none⟩=some (.int .i64 c.lh))
  (first | (with_reducible exact X0.out.reads) | (with_reducible exact X1.out.reads) | (with_reducible exact X2.out.reads))
  (first | (go_at_call 165;(with_reducible refine (CC.out _).mono ?_);rintro e w1 ⟨rfl,hb1⟩;have X1:=aq (X0.out.below hb1);have B2:=aq (B1.out.trans (hb1.mono B1.out.size));clear hb1) | (go_at_call 164;(with_reducible refine (CH.out _).mono ?_);rintro e w2 ⟨rfl,hb2⟩;have X2:=aq (X1.out.below hb2);have B3:=aq (B2.out.trans (hb2.mono B2.out.size));clear hb2))
 obtain⟨_,_,_,c2,_,c4,_,_,c7,c8,_⟩:=X2.out
 go_wp2_with fail
 refine (kAtMost (c.high c.top) c.seg (c.lh-c.rh) c.den _).mono ?_;rw [E.out];rintro e w3 ⟨rfl,hb3⟩;go_wp2;go_ret;exact⟨rfl,B3.out.trans (hb3.mono B3.out.size)⟩
theorem chk_no {c:Cf} (h:(c.sizesB&&densK c)=false):c.chkE=50:=by
 unfold Cf.chkE Cf.mayB
 cases h1:c.sizesB
 ·rfl
 ·rw [h1,Bool.true_and,dens_eq ((Cf.sizes_iff c).1 h1)] at h
  rw [h];rfl
theorem cf_chk_yes {c:Cf} (h:(c.sizesB&&densK c)=true):c.Sizes/\c.Dens/\c.chkE=if c.fallsB then 0 else 50:=by
 rw [Bool.and_eq_true] at h;have hs:=(Cf.sizes_iff c).1 h.1;have hd:=h.2;rw [dens_eq hs] at hd;refine⟨hs,(Cf.dens_iff c).1 hd,?_⟩;unfold Cf.chkE Cf.mayB;rw [h.1,hd];rfl
theorem kCheck (c:Cf) (w:World) (hc:c.In) :
  Calls Tryz.prog 68 #[cfv c] w fun e w'=>e=.returned (.int .i64 c.chkE)/\Below w.heap.size w w':=by
 have BX:=aq (CBox.new w c 23);have B0:=aq ((Below.refl w.heap.size w).alloc (Nat.le_refl _) (.cells (cfCells c) 23));have CS:=aq (fun W=>kSizes c W hc);have CD:=aq (fun W=>kDens c W);have CA:=aq (fun (W:World) (x y:Bool)=>kAll W.heap.size 0 2 [x,y] (W.alloc (.cells #[.bool x,.bool y] 4)) (show 2<=1000 by decide) (blst2 W x y 4));have CH:=aq (fun W hs hd=>kHeights c W hs hd);clear hc;unfold cfCells at BX B0;unfold cfv at CS CD CH ⊢
 cases hk:(c.sizesB&&densK c)
 ·have E:=aq (chk_no hk)
  have HK:=aq (show [c.sizesB,densK c].all id=false by simpa using hk);clear hk
  go_enter Tryz.func68,Tryz.ntmps68
  go_upto_region 1 with (fail)
  obtain⟨W5,hW5⟩:∃ W5,W5=w.alloc (.cells #[.int .u8 c.tag,.int .i64 c.most,.int .i64 c.seg,.int .i64 c.least,.int .i64 c.den,.int .i64 c.ll,.int .i64 c.rl,.int .i64 c.rh,.int .i64 c.lh] 23):=⟨_,rfl⟩;rw [<-hW5] at BX B0 ⊢;clear hW5;have B1:=aq B0.out.drew;have X0:=aq (BX.out.below ((Below.refl _ _).drew));refine wp_region_held_drew (S:=fun w'=>w'.cell? ⟨w.heap.size,0,none⟩=some (.int .u8 c.tag)/\w'.cell? ⟨w.heap.size,1,none⟩=some (.int .i64 c.most)/\w'.cell? ⟨w.heap.size,2,none⟩=some (.int .i64 c.seg)/\w'.cell? ⟨w.heap.size,3,none⟩=some (.int .i64 c.least)/\w'.cell? ⟨w.heap.size,4,none⟩=some (.int .i64 c.den)/\w'.cell? ⟨w.heap.size,5,none⟩=some (.int .i64 c.ll)/\w'.cell? ⟨w.heap.size,6,none⟩=some (.int .i64 c.rl)/\w'.cell? ⟨w.heap.size,7,none⟩=some (.int .i64 c.rh)/\w'.cell? ⟨w.heap.size,8,none⟩=some (.int .i64 c.lh)) (by kernel_rfl) (X0.out.reads) (fun hHeld=>?_);refine tk 0 ?_;refine tk 2 ?_;refine rdH 1 fun K hK=>?_;go_simp
  (with_reducible refine (CS.out _).mono ?_)
  rintro e w1 ⟨rfl,hb1⟩;have X1:=aq (X0.out.below hb1);have B2:=aq (B1.out.trans (hb1.mono B1.out.size));clear hb1
  go_wp2_with fail
  refine hK.out _ _ (X1.out.reads) (fun hHeldc1=>?_);clear hK K hHeld
  try simp only [sZ]
  refine rdH 3 fun K hK=>?_;go_simp
  (with_reducible refine (CD.out _).mono ?_)
  rintro e w2 ⟨rfl,hb2⟩;have X2:=aq (X1.out.below hb2);have B3:=aq (B2.out.trans (hb2.mono B2.out.size));clear hb2
  go_wp2_with fail
  refine hK.out _ _ (X2.out.reads) (fun hHeldc2=>?_);clear hK K hHeldc1
  try simp only [sZ]
  refine rdH 4 fun K hK=>?_;go_simp;refine hK.out _ _ ((X2.out.below ((Below.refl _ _).alloc (Nat.le_refl _) _)).reads) (fun hHeldc3=>?_);clear hK K hHeldc2
  try simp only [sZ]
  refine rdH 5 fun K hK=>?_;go_simp
  (refine (CA.out w2 _ _).mono ?_)
  rw [HK.out];rintro e w3 ⟨rfl,rfl⟩
  go_wp2_with fail
  refine hK.out _ _ ((X2.out.below ((Below.refl _ _).alloc (Nat.le_refl _) _)).reads) (fun hHeldc4=>?_);clear hK K hHeldc3
  try simp only [sZ]
  refine tk 6 ?_;refine tk 7 ?_;refine tk0 8 ?_;refine tk0 9 ?_;refine tk0 10 ?_;refine tk 11 ?_;refine wpAnyH_done (by kernel_rfl) ?_ _;go_wp2;go_ret;rw [E.out];exact⟨rfl,B3.out.alloc B3.out.size _⟩
 ·obtain⟨hs,hd,he⟩:=cf_chk_yes hk
  have HS:=aq hs;have HD:=aq hd;have E:=aq he;have HK:=aq (show [c.sizesB,densK c].all id=true by simpa using hk);clear hk hs hd he;obtain⟨b,hb⟩:∃ b,b=c.fallsB:=⟨_,rfl⟩;rw [<-hb] at E CH;clear hb
  cases b
  all_goals
   go_enter Tryz.func68,Tryz.ntmps68
   go_upto_region 1 with (fail)
   obtain⟨W5,hW5⟩:∃ W5,W5=w.alloc (.cells #[.int .u8 c.tag,.int .i64 c.most,.int .i64 c.seg,.int .i64 c.least,.int .i64 c.den,.int .i64 c.ll,.int .i64 c.rl,.int .i64 c.rh,.int .i64 c.lh] 23):=⟨_,rfl⟩;rw [<-hW5] at BX B0 ⊢;clear hW5;have B1:=aq B0.out.drew;have X0:=aq (BX.out.below ((Below.refl _ _).drew))
   go_region_held3 (fun w'=>w'.cell? ⟨w.heap.size,0,none⟩=some (.int .u8 c.tag)/\w'.cell? ⟨w.heap.size,1,none⟩=some (.int .i64 c.most)/\w'.cell? ⟨w.heap.size,2,none⟩=some (.int .i64 c.seg)/\w'.cell? ⟨w.heap.size,3,none⟩=some (.int .i64 c.least)/\w'.cell? ⟨w.heap.size,4,none⟩=some (.int .i64 c.den)/\w'.cell? ⟨w.heap.size,5,none⟩=some (.int .i64 c.ll)/\w'.cell? ⟨w.heap.size,6,none⟩=some (.int .i64 c.rl)/\w'.cell? ⟨w.heap.size,7,none⟩=some (.int .i64 c.rh)/\w'.cell? ⟨w.heap.size,8,none⟩=some (.int .i64 c.lh))
    (first | (with_reducible exact X0.out.reads) | (with_reducible exact X1.out.reads) | (with_reducible exact X2.out.reads) | (with_reducible exact (X2.out.below ((Below.refl _ _).alloc (Nat.le_refl _) _)).reads) | (with_reducible exact X4.out.reads))
    (first | (go_at_call 110;(with_reducible refine (CS.out _).mono ?_);rintro e w1 ⟨rfl,hb1⟩;have X1:=aq (X0.out.below hb1);have B2:=aq (B1.out.trans (hb1.mono B1.out.size));clear hb1) | (go_at_call 111;(with_reducible refine (CD.out _).mono ?_);rintro e w2 ⟨rfl,hb2⟩;have X2:=aq (X1.out.below hb2);have B3:=aq (B2.out.trans (hb2.mono B2.out.size));clear hb2) | (go_at_call 109;(refine (CA.out w2 _ _).mono ?_);rw [HK.out];rintro e w3 ⟨rfl,rfl⟩) | (go_at_call 112;(with_reducible refine (CH.out _ HS.out HD.out).mono ?_);rintro e w4 ⟨rfl,hb4⟩;have X4:=aq ((X2.out.below ((Below.refl _ _).alloc (Nat.le_refl _) _)).below hb4);have B4:=aq ((B3.out.alloc B3.out.size _).trans (hb4.mono (by have:=B3.out.size;simp;omega)));clear hb4))
   go_wp2;go_ret;rw [E.out];exact⟨rfl,B4.out⟩
end Go.Proofs.YtpeckljoannolaaGreatDoor

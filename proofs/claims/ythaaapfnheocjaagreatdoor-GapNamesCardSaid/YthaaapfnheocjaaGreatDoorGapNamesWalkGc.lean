/- The walk of the law GapNames: the errors' numbers, and more examples. -/
import Derived.Test.YthaaapfnheocjaaGreatDoorTkGc
import Derived.Test.YthaaapfnheocjaaGreatDoorNames9bGc
set_option linter.unusedVariables false
set_option linter.unusedSimpArgs false
set_option maxHeartbeats 8000000
set_option maxRecDepth 100000
namespace Go.Proofs.YthaaapfnheocjaaGreatDoor.gapNames
open Go.RowKit
def MakeJ (g:Nat) (w3:World) (v:Value) (w':World):Prop:=∃ k:Nat,k<=8/\v=.int .i64 (k:Int)/\Made w' g k/\Below w3.heap.size w3 w'
def LookJ (W:World) (v:Value) (w':World):Prop:=w'=W/\(v=.int .i64 0∨v=.int .i64 1∨v=.int .i64 2∨v=.int .i64 3∨v=.int .i64 4∨v=.int .i64 5∨v=.int .i64 6∨v=.int .i64 7∨v=.int .i64 8)
theorem nine_len:(eight++[((0:Int),(0:Int))]).length=9:=by rw [List.length_append,eight_len];rfl
theorem keys_are:(∀ n < 8,X.keys.getD (2*n) 0=(n:Int))/\(∀ n < 7,Y.keys.getD (2*n) 0=(n:Int))/\X.seg=4/\Y.seg=4/\Y.counts.getD 0 0=2:=by decide +kernel
theorem walk (w:World) (hT:Tab w) :
  Calls Tryz.prog 3 #[] w fun e w'=>e=.returned (.bool true)/\Below w.heap.size w w':=by
 obtain⟨f0,f1,f2,f3,f4,f5,f6,f7⟩:=errs;obtain⟨v1,v2,v3,_,_,v4,_,_⟩:=vals;obtain⟨k1,k2,k3,k4,k5⟩:=keys_are;have z0:In64 0:=i64s (by omega) (by omega);have z1:In64 1:=i64s (by omega) (by omega);have z7:In64 7:=i64s (by omega) (by omega);have z8:In64 8:=i64s (by omega) (by omega);have G0:=Gp.new_fine (c:=ch9);have G1:=Gp.load_fine (c:=ch9) G0.ok G0.short eight eight_in;have CN:=aq (fun V=>gNew ch9 V ch9_in);have CM:=aq (fun V=>gNew noC V noC_in);have CL:=aq (fun g A V (hv:Held V S A) tv (hp:PLst V (some ⟨g,0,none⟩) eight)=>gLoad ch9 S A (some ⟨g,0,none⟩) 8 eight V ch9_in hv G0.ok G0.short tv (by rw [eight_len];omega) hp eight_in);have C9:=aq (fun al cal A V (hv:Held V S A) tv (hp:PLst V al (eight++[(0,0)]))=>gLoad ch9 S A al cal (eight++[(0,0)]) V ch9_in hv G0.ok G0.short tv (by rw [List.length_append,eight_len];decide) hp nine_in);have CP:=aq (fun A V (hv:Held V X A) tv=>gPut ch9 X A 8 0 0 V ch9_in hv G1.ok G1.short tv z8 z0 z0);have CQ:=aq (fun A V (hv:Held V S A) tv=>gPut ch9 S A 1 0 0 V ch9_in hv G0.ok G0.short tv z1 z0 z0);have CT:=aq (fun A V (hv:Held V S A) tv=>gTake ch9 S A 0 V ch9_in hv G0.ok G0.short tv z0);have CU:=aq (fun A V (hv:Held V X A) tv=>gTake ch9 X A 7 V ch9_in hv G1.ok G1.short tv z7);have CK:=aq check_spoilt;have CZ:=aq (fun V tv=>gCheck ch9 Sl.none adsNone V ch9_in (none_own V 0).1.held ok_none short_none tv)
 have CA:=aq (fun V tv=>l9Alive V tv);rw [show Gp.newS ch9=S from rfl,f0] at CN;rw [f7] at CM;rw [f1,eight_len,show Gp.loadS ch9 S eight=X from rfl] at CL;rw [nine_len,f2] at C9;rw [f3] at CP;rw [f4] at CQ;rw [f5] at CT;rw [show Gp.takeS ch9 X 7=Y from rfl,f6] at CU;rw [vals.2.2.2.2.2.2.2] at CZ;obtain⟨X9,hX9⟩:∃ S9,S9=Gp.loadS ch9 S (eight++[(0,0)]):=⟨_,rfl⟩;rw [<-hX9] at C9;obtain⟨XP,hXP⟩:∃ S9,S9=Gp.putS ch9 X 8 (0,0):=⟨_,rfl⟩;rw [<-hXP] at CP;obtain⟨XQ,hXQ⟩:∃ S9,S9=Gp.putS ch9 S 1 (0,0):=⟨_,rfl⟩;rw [<-hXQ] at CQ;obtain⟨XT,hXT⟩:∃ S9,S9=Gp.takeS ch9 S 0:=⟨_,rfl⟩;rw [<-hXT] at CT;obtain⟨XM,hXM⟩:∃ S9,S9=Gp.newS noC:=⟨_,rfl⟩;rw [<-hXM] at CM;clear hX9 hXP hXQ hXT hXM G0 G1;obtain⟨SY,hSY⟩:∃ S9,S9=Y:=⟨_,rfl⟩;rw [<-hSY] at CU CK v2 v4 k2 k4 k5;clear hSY;obtain⟨SX,hSX⟩:∃ S9,S9=X:=⟨_,rfl⟩;rw [<-hSX] at CL CP CU v1 v3 k1 k3;clear hSX;obtain⟨SS,hSS⟩:∃ S9,S9=S:=⟨_,rfl⟩;rw [<-hSS] at CN CL C9 CQ CT;clear hSS;have FX:=aq (show SX.keys.length=16/\(SX.laid:Int)=8 from⟨v1,by rw [v3];rfl⟩);have FY:=aq (show SY.keys.length=16/\SY.counts.length=4 from⟨v2,v4⟩);have KX:=aq k1;have KY:=aq k2;have SGX:=aq k3;have SGY:=aq k4;have CY:=aq k5;have TB0:=aq hT;clear f0 f1 f2 f3 f4 f5 f6 f7 v1 v2 v3 v4 k1 k2 k3 k4 k5 z0 z1 z7 z8 hT;unfold slv cfv at CL C9 CP CQ CT CU CK CZ
 dsimp only [Sl.none,adsNone,List.length_nil] at CZ
 go_enter Tryz.func3,Tryz.ntmps3
 go_wp2_with fail
 refine (l9Chapter _).mono ?_;rintro e w1 ⟨rfl,hb⟩;have BB:=aq hb;clear hb
 go_wp2_with fail
 refine (CN.out _).mono ?_;rintro e w2 ⟨A0,rfl,own,hb⟩;replace BB:=aq (BB.out.trans (hb.mono BB.out.size));have HS:=aq own.held;clear own hb CN;unfold slv
 go_upto_region 2 with (fail)
 obtain⟨w3,hV⟩:∃ V,V=w2.alloc (.cells #[.int .i64 SS.seg,.slice A0.w SS.words.length A0.cw,.slice A0.k SS.keys.length A0.ck,.slice A0.v SS.vals.length A0.cv,.slice A0.c SS.counts.length A0.cc,.int .u64 (SS.laid:Int)] 27):=⟨_,rfl⟩
 have hba:Below w2.heap.size w2 w3:=by rw [hV];exact (Below.refl _ _).alloc (Nat.le_refl _) _
 have BS:=aq (show Box w3 w2.heap.size SS A0 by rw [hV];exact Box.new w2 SS A0 27)
 first | rw [<-hV] | skip
 replace HS:=aq (HS.out.below hba);replace BB:=aq (BB.out.trans (hba.mono BB.out.size));clear hV hba;have TB:=aq (TB0.out.below BB.out)
 go_wp2_with (at_make;refine wpList_pairs8 elemP rfl _ _ rfl rfl rfl (by omega) ?_;intro w4 mk4 hb4)
 go_loopw [4] (MakeJ w3.heap.size w3) (fun i _=>8-(intOf i).toNat)
 case atStart=>exact⟨0,by omega,rfl,mk4,hb4⟩
 case round =>
  obtain⟨k,hk,rfl,hm,hbr⟩:=hrel
  by_cases hk8:k < 8
  ·have i0:(0:Int)<=(k:Int):=by omega
   have i1:(k:Int) < 8:=by omega
   have ck:=hm.key k hk8;have fr:=hm.free (k*2);have HM:=aq (hm.turn hk8);have HB:=aq (hbr.setCell (p:=⟨w3.heap.size,k*2,none⟩) (Nat.le_refl _) (.int .i64 (k:Int)));clear hm hbr;go_wp2
   go_roundw
   case rel=>exact⟨k+1,by omega,by go_num,HM.out,HB.out⟩
   case measure=>simp [intOf];omega
  ·obtain rfl:k=8:=by omega
   have PL:=aq hm.plst;replace BB:=aq (BB.out.trans (hbr.mono BB.out.size));replace BS:=aq (BS.out.below hbr);replace HS:=aq (HS.out.below hbr);replace TB:=aq (TB.out.below hbr);clear hm hbr;obtain⟨W0,hW0⟩:∃ V,V=wr:=⟨_,rfl⟩;rw [<-hW0] at BB BS HS TB PL ⊢;clear hW0
   go_upto_region 7 with (fail)
   go_cut [5,6] from 35 (fun s5 s6 wx=>∃ B A,s5=.pointer (some ⟨B,0,none⟩)/\s6=.int .i64 0/\Box wx B SX A/\Own wx W0.heap.size SX A/\Below W0.heap.size W0 wx)
   case first =>
    as_aux_lemma =>
    refine wp_region_held_drew (S:=fun w'=>w'.cell? ⟨w2.heap.size,0,none⟩=some (.int .i64 SS.seg)/\w'.cell? ⟨w2.heap.size,1,none⟩=some (.slice A0.w SS.words.length A0.cw)/\w'.cell? ⟨w2.heap.size,2,none⟩=some (.slice A0.k SS.keys.length A0.ck)/\w'.cell? ⟨w2.heap.size,3,none⟩=some (.slice A0.v SS.vals.length A0.cv)/\w'.cell? ⟨w2.heap.size,4,none⟩=some (.slice A0.c SS.counts.length A0.cc)/\w'.cell? ⟨w2.heap.size,5,none⟩=some (.int .u64 (SS.laid:Int))/\Hid (Below W0.heap.size W0 w')) (by kernel_rfl) (by obtain⟨_,q0,q1,q2,q3,q4,q5,_⟩:=BS.out.below ((Below.refl _ _).drew);exact⟨q0,q1,q2,q3,q4,q5,aq ((Below.refl _ _).drew)⟩) (fun hHeld=>?_);have BL0:=aq (show Below W0.heap.size W0 W0.drew from (Below.refl _ _).drew);obtain⟨V0,hV0⟩:∃ V,V=W0.drew:=⟨_,rfl⟩;rw [<-hV0] at BL0 hHeld ⊢;clear hV0;refine tk 1 ?_;refine tk 2 ?_;refine wpAnyH_ready (rs:=[0,7]) (by kernel_rfl) (by simp) ?_;refine cH (fun K hK=>?_) ?_
    ·skip
     go_simp;refine (l9Chapter _).mono ?_;rintro e U1 ⟨rfl,hb⟩
     try (go_simp)
     have BL1:=aq (BL0.out.trans (hb.mono BL0.out.size));clear hb
     try unfold cfv
     refine hK.out _ _ (by obtain⟨_,q0,q1,q2,q3,q4,q5,_⟩:=BS.out.below BL1.out;exact⟨q0,q1,q2,q3,q4,q5,BL1⟩) (fun hHelda2=>?_);clear hK K hHeld
     try simp only [sZ]
     refine wpAnyH_ready (rs:=[3,7]) (by kernel_rfl) (by simp) ?_;refine cH (fun K hK=>?_) ?_
     ·skip
      go_simp;refine (CL.out w3.heap.size A0 U1 (HS.out.below BL1.out) (TB.out.below BL1.out) (PL.out.below BL1.out)).mono ?_;rintro e U2 ⟨A2,rfl,own,hb⟩
      try (go_simp)
      have zO:W0.heap.size<=U1.heap.size:=BL1.out.size;have BL2:=aq (BL1.out.trans (hb.mono BL1.out.size));have OX:=aq own;clear own hb;unfold slv;refine hK.out _ _ (by obtain⟨_,q0,q1,q2,q3,q4,q5,_⟩:=BS.out.below BL2.out;exact⟨q0,q1,q2,q3,q4,q5,BL2⟩) (fun hHelda3=>?_);clear hK K hHelda2
      try simp only [sZ]
      refine tk 4 ?_;refine tk 5 ?_;refine tk 6 ?_;refine rdH 7 fun K hK=>?_;go_simp;obtain⟨U3,hU⟩:∃ U,U=U2.alloc (.cells #[.int .i64 0,.slice none 0 0,.slice none 0 0,.slice none 0 0,.slice none 0 0,.int .u64 0] 27):=⟨_,rfl⟩
      have hb:Below U2.heap.size U2 U3:=by rw [hU];exact (Below.refl _ _).alloc (Nat.le_refl _) _
      have BL3:=aq (BL2.out.trans (hb.mono BL2.out.size));have OXP:=aq OX.out;replace OX:=aq (OX.out.below hb);have BZ:=aq (show Box U3 U2.heap.size Sl.none adsNone by rw [hU];exact Box.new U2 Sl.none adsNone 27);rw [<-hU];have hbz:=aq hb;clear hU hb;have zB:W0.heap.size<=U2.heap.size:=BL2.out.size;refine hK.out _ _ (by obtain⟨_,q0,q1,q2,q3,q4,q5,_⟩:=BS.out.below BL3.out;exact⟨q0,q1,q2,q3,q4,q5,BL3⟩) (fun hHelda7=>?_);clear hK K hHelda3
      try simp only [sZ]
      refine rdH 8 fun K hK=>?_;obtain⟨_,z0,z1,z2,z3,z4,z5,zf⟩:=BZ.out;have zf0:=zf 0;have zf1:=zf 1;have zf2:=zf 2;have zf3:=zf 3;have zf4:=zf 4;have zf5:=zf 5;clear zf;go_simp;obtain⟨U4,hU⟩:∃ U,U=put6 U3 (U2.heap.size) (.int .i64 SX.seg) (.slice A2.w SX.words.length A2.cw) (.slice A2.k SX.keys.length A2.ck) (.slice A2.v SX.vals.length A2.cv) (.slice A2.c SX.counts.length A2.cc) (.int .u64 (SX.laid:Int)):=⟨_,rfl⟩;have BY:=aq (show Box U4 (U2.heap.size) SX A2 by rw [hU];exact BZ.out.put6 SX A2);have OY:=aq (show Own U4 W0.heap.size SX A2 by rw [hU];exact (OXP.out.below (below_put6 hbz.out (Nat.le_refl _) _ _ _ _ _ _)).lower zO);have BL4:=aq (show Below W0.heap.size W0 U4 by rw [hU];exact below_put6 BL3.out (by have:=BL3.out.size;omega) _ _ _ _ _ _);unfold put6 at hU
      first | rw [<-hU] | skip
      clear hU z0 z1 z2 z3 z4 z5 zf0 zf1 zf2 zf3 zf4 zf5 BZ OX;refine hK.out _ _ (by obtain⟨_,q0,q1,q2,q3,q4,q5,_⟩:=BS.out.below BL4.out;exact⟨q0,q1,q2,q3,q4,q5,BL4⟩) (fun hHelda8=>?_);clear hK K hHelda7
      try simp only [sZ]
      refine tk 9 ?_;refine wpAnyH_done (by kernel_rfl) ?_ _
      go_wp2_with fail
      go_meet
      exact⟨_,_,rfl,rfl,BY.out,OY.out,BL4.out⟩
     refine cH (fun K hK=>?_) AllReadyH.nil;go_simp;obtain⟨U2,hU⟩:∃ U,U=U1.alloc (.cells #[.int .i64 0,.slice none 0 0,.slice none 0 0,.slice none 0 0,.slice none 0 0,.int .u64 0] 27):=⟨_,rfl⟩
     have hb:Below U1.heap.size U1 U2:=by rw [hU];exact (Below.refl _ _).alloc (Nat.le_refl _) _
     have BL2:=aq (BL1.out.trans (hb.mono BL1.out.size));have BZ:=aq (show Box U2 U1.heap.size Sl.none adsNone by rw [hU];exact Box.new U1 Sl.none adsNone 27);rw [<-hU];skip;clear hU hb;have zB:W0.heap.size<=U1.heap.size:=BL1.out.size;refine hK.out _ _ (by obtain⟨_,q0,q1,q2,q3,q4,q5,_⟩:=BS.out.below BL2.out;exact⟨q0,q1,q2,q3,q4,q5,BL2⟩) (fun hHelda10=>?_);clear hK K hHelda2
     try simp only [sZ]
     refine rdH 3 fun K hK=>?_;have zc:=BZ.out.lt;go_simp;refine (CL.out w3.heap.size A0 U2 (HS.out.below BL2.out) (TB.out.below BL2.out) (PL.out.below BL2.out)).mono ?_;rintro e U3 ⟨A2,rfl,own,hb⟩
     try (go_simp)
     have zO:W0.heap.size<=U2.heap.size:=BL2.out.size;have BL3:=aq (BL2.out.trans (hb.mono BL2.out.size));replace BZ:=aq (BZ.out.below hb);have OX:=aq own;clear own hb;unfold slv;refine hK.out _ _ (by obtain⟨_,q0,q1,q2,q3,q4,q5,_⟩:=BS.out.below BL3.out;exact⟨q0,q1,q2,q3,q4,q5,BL3⟩) (fun hHelda11=>?_);clear hK K hHelda10
     try simp only [sZ]
     refine tk 4 ?_;refine tk 5 ?_;refine tk 6 ?_;refine rdH 8 fun K hK=>?_;obtain⟨_,z0,z1,z2,z3,z4,z5,zf⟩:=BZ.out;have zf0:=zf 0;have zf1:=zf 1;have zf2:=zf 2;have zf3:=zf 3;have zf4:=zf 4;have zf5:=zf 5;clear zf;go_simp;obtain⟨U4,hU⟩:∃ U,U=put6 U3 (U1.heap.size) (.int .i64 SX.seg) (.slice A2.w SX.words.length A2.cw) (.slice A2.k SX.keys.length A2.ck) (.slice A2.v SX.vals.length A2.cv) (.slice A2.c SX.counts.length A2.cc) (.int .u64 (SX.laid:Int)):=⟨_,rfl⟩;have BY:=aq (show Box U4 (U1.heap.size) SX A2 by rw [hU];exact BZ.out.put6 SX A2);have OY:=aq (show Own U4 W0.heap.size SX A2 by rw [hU];exact (show Own _ _ SX A2 from⟨OX.out.words.put6 (by omega) _ _ _ _ _ _,OX.out.keys.put6 (by omega) _ _ _ _ _ _,OX.out.vals.put6 (by omega) _ _ _ _ _ _,OX.out.counts.put6 (by omega) _ _ _ _ _ _,OX.out.caps⟩).lower zO);have BL4:=aq (show Below W0.heap.size W0 U4 by rw [hU];exact below_put6 BL3.out (by have:=BL3.out.size;omega) _ _ _ _ _ _);unfold put6 at hU
     first | rw [<-hU] | skip
     clear hU z0 z1 z2 z3 z4 z5 zf0 zf1 zf2 zf3 zf4 zf5 BZ OX;refine hK.out _ _ (by obtain⟨_,q0,q1,q2,q3,q4,q5,_⟩:=BS.out.below BL4.out;exact⟨q0,q1,q2,q3,q4,q5,BL4⟩) (fun hHelda15=>?_);clear hK K hHelda11
     try simp only [sZ]
     refine tk 9 ?_;refine wpAnyH_done (by kernel_rfl) ?_ _
     go_wp2_with fail
     go_meet
     exact⟨_,_,rfl,rfl,BY.out,OY.out,BL4.out⟩
    refine cH (fun K hK=>?_) AllReadyH.nil;go_simp;obtain⟨U1,hU⟩:∃ U,U=V0.alloc (.cells #[.int .i64 0,.slice none 0 0,.slice none 0 0,.slice none 0 0,.slice none 0 0,.int .u64 0] 27):=⟨_,rfl⟩
    have hb:Below V0.heap.size V0 U1:=by rw [hU];exact (Below.refl _ _).alloc (Nat.le_refl _) _
    have BL1:=aq (BL0.out.trans (hb.mono BL0.out.size));have BZ:=aq (show Box U1 V0.heap.size Sl.none adsNone by rw [hU];exact Box.new V0 Sl.none adsNone 27);rw [<-hU];skip;clear hU hb;have zB:W0.heap.size<=V0.heap.size:=BL0.out.size;refine hK.out _ _ (by obtain⟨_,q0,q1,q2,q3,q4,q5,_⟩:=BS.out.below BL1.out;exact⟨q0,q1,q2,q3,q4,q5,BL1⟩) (fun hHelda17=>?_);clear hK K hHeld
    try simp only [sZ]
    refine rdH 0 fun K hK=>?_;go_simp;refine (l9Chapter _).mono ?_;rintro e U2 ⟨rfl,hb⟩
    try (go_simp)
    have BL2:=aq (BL1.out.trans (hb.mono BL1.out.size));replace BZ:=aq (BZ.out.below hb);clear hb
    try unfold cfv
    refine hK.out _ _ (by obtain⟨_,q0,q1,q2,q3,q4,q5,_⟩:=BS.out.below BL2.out;exact⟨q0,q1,q2,q3,q4,q5,BL2⟩) (fun hHelda18=>?_);clear hK K hHelda17
    try simp only [sZ]
    refine rdH 3 fun K hK=>?_;have zc:=BZ.out.lt;go_simp;refine (CL.out w3.heap.size A0 U2 (HS.out.below BL2.out) (TB.out.below BL2.out) (PL.out.below BL2.out)).mono ?_;rintro e U3 ⟨A2,rfl,own,hb⟩
    try (go_simp)
    have zO:W0.heap.size<=U2.heap.size:=BL2.out.size;have BL3:=aq (BL2.out.trans (hb.mono BL2.out.size));replace BZ:=aq (BZ.out.below hb);have OX:=aq own;clear own hb;unfold slv;refine hK.out _ _ (by obtain⟨_,q0,q1,q2,q3,q4,q5,_⟩:=BS.out.below BL3.out;exact⟨q0,q1,q2,q3,q4,q5,BL3⟩) (fun hHelda19=>?_);clear hK K hHelda18
    try simp only [sZ]
    refine tk 4 ?_;refine tk 5 ?_;refine tk 6 ?_;refine rdH 8 fun K hK=>?_;obtain⟨_,z0,z1,z2,z3,z4,z5,zf⟩:=BZ.out;have zf0:=zf 0;have zf1:=zf 1;have zf2:=zf 2;have zf3:=zf 3;have zf4:=zf 4;have zf5:=zf 5;clear zf;go_simp;obtain⟨U4,hU⟩:∃ U,U=put6 U3 (V0.heap.size) (.int .i64 SX.seg) (.slice A2.w SX.words.length A2.cw) (.slice A2.k SX.keys.length A2.ck) (.slice A2.v SX.vals.length A2.cv) (.slice A2.c SX.counts.length A2.cc) (.int .u64 (SX.laid:Int)):=⟨_,rfl⟩;have BY:=aq (show Box U4 (V0.heap.size) SX A2 by rw [hU];exact BZ.out.put6 SX A2);have OY:=aq (show Own U4 W0.heap.size SX A2 by rw [hU];exact (show Own _ _ SX A2 from⟨OX.out.words.put6 (by omega) _ _ _ _ _ _,OX.out.keys.put6 (by omega) _ _ _ _ _ _,OX.out.vals.put6 (by omega) _ _ _ _ _ _,OX.out.counts.put6 (by omega) _ _ _ _ _ _,OX.out.caps⟩).lower zO);have BL4:=aq (show Below W0.heap.size W0 U4 by rw [hU];exact below_put6 BL3.out (by have:=BL3.out.size;omega) _ _ _ _ _ _);unfold put6 at hU
    first | rw [<-hU] | skip
    clear hU z0 z1 z2 z3 z4 z5 zf0 zf1 zf2 zf3 zf4 zf5 BZ OX;refine hK.out _ _ (by obtain⟨_,q0,q1,q2,q3,q4,q5,_⟩:=BS.out.below BL4.out;exact⟨q0,q1,q2,q3,q4,q5,BL4⟩) (fun hHelda23=>?_);clear hK K hHelda19
    try simp only [sZ]
    refine tk 9 ?_;refine wpAnyH_done (by kernel_rfl) ?_ _
    go_wp2_with fail
    go_meet
    exact⟨_,_,rfl,rfl,BY.out,OY.out,BL4.out⟩
   case rest =>
    as_aux_lemma =>
    obtain⟨Bx,Ax,rfl,rfl,hB,hO,hb⟩:=hcut;replace BB:=aq (BB.out.trans (hb.mono BB.out.size));replace BS:=aq (BS.out.below hb);replace HS:=aq (HS.out.below hb);replace TB:=aq (TB.out.below hb);replace PL:=aq (PL.out.below hb);have BX:=aq hB;have OX0:=aq hO;clear hb hB hO CL;obtain⟨W1,hW1⟩:∃ V,V=wc:=⟨_,rfl⟩;rw [<-hW1] at BB BS HS TB PL BX OX0 ⊢;clear hW1;have HX:=aq OX0.out.held;clear OX0
    go_upto_region 8 with (fail)
    go_cut [7,8] from 42 (fun s7 s8 wx=>s8=.int .i64 9/\Below W1.heap.size W1 wx)
    case first =>
     as_aux_lemma =>
     refine wp_region_held_drew (S:=fun w'=>w'.cell? ⟨w2.heap.size,0,none⟩=some (.int .i64 SS.seg)/\w'.cell? ⟨w2.heap.size,1,none⟩=some (.slice A0.w SS.words.length A0.cw)/\w'.cell? ⟨w2.heap.size,2,none⟩=some (.slice A0.k SS.keys.length A0.ck)/\w'.cell? ⟨w2.heap.size,3,none⟩=some (.slice A0.v SS.vals.length A0.cv)/\w'.cell? ⟨w2.heap.size,4,none⟩=some (.slice A0.c SS.counts.length A0.cc)/\w'.cell? ⟨w2.heap.size,5,none⟩=some (.int .u64 (SS.laid:Int))/\Hid (Below W1.heap.size W1 w')) (by kernel_rfl) (by obtain⟨_,q0,q1,q2,q3,q4,q5,_⟩:=BS.out.below ((Below.refl _ _).drew);exact⟨q0,q1,q2,q3,q4,q5,aq ((Below.refl _ _).drew)⟩) (fun hHeld=>?_);have BL0:=aq (show Below W1.heap.size W1 W1.drew from (Below.refl _ _).drew);obtain⟨V0,hV0⟩:∃ V,V=W1.drew:=⟨_,rfl⟩;rw [<-hV0] at BL0 hHeld ⊢;clear hV0;refine tk 1 ?_;refine tk 2 ?_;refine tk 3 ?_;refine wpAnyH_ready (rs:=[0,4,10]) (by kernel_rfl) (by simp) ?_;refine cH (fun K hK=>?_) ?_
     ·skip
      go_simp;refine (l9Chapter _).mono ?_;rintro e U1 ⟨rfl,hb⟩
      try (go_simp)
      have BL1:=aq (BL0.out.trans (hb.mono BL0.out.size));clear hb
      try unfold cfv
      refine hK.out _ _ (by obtain⟨_,q0,q1,q2,q3,q4,q5,_⟩:=BS.out.below BL1.out;exact⟨q0,q1,q2,q3,q4,q5,BL1⟩) (fun hHeldb3=>?_);clear hK K hHeld
      try simp only [sZ]
      refine wpAnyH_ready (rs:=[4,10]) (by kernel_rfl) (by simp) ?_;refine cH (fun K hK=>?_) ?_
      ·skip
       go_simp;obtain⟨U2,hU⟩:∃ U,U=U1.alloc (.cells #[.int .i64 0,.int .i64 0] 36):=⟨_,rfl⟩
       have hb:Below U1.heap.size U1 U2:=by rw [hU];exact (Below.refl _ _).alloc (Nat.le_refl _) _
       have BL2:=aq (BL1.out.trans (hb.mono BL1.out.size));have PN:=aq (show PLst U2 (some ⟨U1.heap.size,0,none⟩) [(0,0)] by rw [hU];exact plst_one U1 36);rw [<-hU];clear hU hb;refine hK.out _ _ (by obtain⟨_,q0,q1,q2,q3,q4,q5,_⟩:=BS.out.below BL2.out;exact⟨q0,q1,q2,q3,q4,q5,BL2⟩) (fun hHeldb4=>?_);clear hK K hHeldb3
       try simp only [sZ]
       refine wpAnyH_ready (rs:=[5,10]) (by kernel_rfl) (by simp) ?_;refine cH (fun K hK=>?_) ?_
       ·skip
        refine step_nine elemP rfl (.tmp 45) (.tmp 47) rfl _ (U1.heap.size) rfl rfl (PL.out.below BL2.out) PN.out (by omega) ?_;intro al cal U3 hP hb;have BL3:=aq (BL2.out.trans (hb.mono BL2.out.size));replace PN:=aq (PN.out.below hb);have P9:=aq hP;clear hP hb PN
        try (go_simp)
        refine hK.out _ _ (by obtain⟨_,q0,q1,q2,q3,q4,q5,_⟩:=BS.out.below BL3.out;exact⟨q0,q1,q2,q3,q4,q5,BL3⟩) (fun hHeldb5=>?_);clear hK K hHeldb4
        try simp only [sZ]
        refine wpAnyH_ready (rs:=[6,10]) (by kernel_rfl) (by simp) ?_;refine cH (fun K hK=>?_) ?_
        ·skip
         go_simp;refine (C9.out al cal A0 U3 (HS.out.below BL3.out) (TB.out.below BL3.out) P9.out).mono ?_;rintro e U4 ⟨A2,rfl,own,hb⟩
         try (go_simp)
         have zO:W1.heap.size<=U3.heap.size:=BL3.out.size;have BL4:=aq (BL3.out.trans (hb.mono BL3.out.size));replace P9:=aq (P9.out.below hb);have OX:=aq own;clear own hb;unfold slv;refine hK.out _ _ (by obtain⟨_,q0,q1,q2,q3,q4,q5,_⟩:=BS.out.below BL4.out;exact⟨q0,q1,q2,q3,q4,q5,BL4⟩) (fun hHeldb6=>?_);clear hK K hHeldb5
         try simp only [sZ]
         refine tk 7 ?_;refine tk 8 ?_;refine tk 9 ?_;refine rdH 10 fun K hK=>?_;go_simp;obtain⟨U5,hU⟩:∃ U,U=U4.alloc (.cells #[.int .i64 0,.slice none 0 0,.slice none 0 0,.slice none 0 0,.slice none 0 0,.int .u64 0] 27):=⟨_,rfl⟩
         have hb:Below U4.heap.size U4 U5:=by rw [hU];exact (Below.refl _ _).alloc (Nat.le_refl _) _
         have BL5:=aq (BL4.out.trans (hb.mono BL4.out.size));replace P9:=aq (P9.out.below hb);have OXP:=aq OX.out;replace OX:=aq (OX.out.below hb);have BZ:=aq (show Box U5 U4.heap.size Sl.none adsNone by rw [hU];exact Box.new U4 Sl.none adsNone 27);rw [<-hU];have hbz:=aq hb;clear hU hb;have zB:W1.heap.size<=U4.heap.size:=BL4.out.size;refine hK.out _ _ (by obtain⟨_,q0,q1,q2,q3,q4,q5,_⟩:=BS.out.below BL5.out;exact⟨q0,q1,q2,q3,q4,q5,BL5⟩) (fun hHeldb10=>?_);clear hK K hHeldb6
         try simp only [sZ]
         refine rdH 11 fun K hK=>?_;obtain⟨_,z0,z1,z2,z3,z4,z5,zf⟩:=BZ.out;have zf0:=zf 0;have zf1:=zf 1;have zf2:=zf 2;have zf3:=zf 3;have zf4:=zf 4;have zf5:=zf 5;clear zf;go_simp;obtain⟨U6,hU⟩:∃ U,U=put6 U5 (U4.heap.size) (.int .i64 X9.seg) (.slice A2.w X9.words.length A2.cw) (.slice A2.k X9.keys.length A2.ck) (.slice A2.v X9.vals.length A2.cv) (.slice A2.c X9.counts.length A2.cc) (.int .u64 (X9.laid:Int)):=⟨_,rfl⟩;have BY:=aq (show Box U6 (U4.heap.size) X9 A2 by rw [hU];exact BZ.out.put6 X9 A2);have OY:=aq (show Own U6 W1.heap.size X9 A2 by rw [hU];exact (OXP.out.below (below_put6 hbz.out (Nat.le_refl _) _ _ _ _ _ _)).lower zO);have BL6:=aq (show Below W1.heap.size W1 U6 by rw [hU];exact below_put6 BL5.out (by have:=BL5.out.size;omega) _ _ _ _ _ _);unfold put6 at hU
         first | rw [<-hU] | skip
         clear hU z0 z1 z2 z3 z4 z5 zf0 zf1 zf2 zf3 zf4 zf5 BZ OX;refine hK.out _ _ (by obtain⟨_,q0,q1,q2,q3,q4,q5,_⟩:=BS.out.below BL6.out;exact⟨q0,q1,q2,q3,q4,q5,BL6⟩) (fun hHeldb11=>?_);clear hK K hHeldb10
         try simp only [sZ]
         refine tk 12 ?_;refine wpAnyH_done (by kernel_rfl) ?_ _
         go_wp2_with fail
         go_meet
         exact⟨rfl,BL6.out⟩
        refine cH (fun K hK=>?_) AllReadyH.nil;go_simp;obtain⟨U4,hU⟩:∃ U,U=U3.alloc (.cells #[.int .i64 0,.slice none 0 0,.slice none 0 0,.slice none 0 0,.slice none 0 0,.int .u64 0] 27):=⟨_,rfl⟩
        have hb:Below U3.heap.size U3 U4:=by rw [hU];exact (Below.refl _ _).alloc (Nat.le_refl _) _
        have BL4:=aq (BL3.out.trans (hb.mono BL3.out.size));replace P9:=aq (P9.out.below hb);have BZ:=aq (show Box U4 U3.heap.size Sl.none adsNone by rw [hU];exact Box.new U3 Sl.none adsNone 27);rw [<-hU];skip;clear hU hb;have zB:W1.heap.size<=U3.heap.size:=BL3.out.size;refine hK.out _ _ (by obtain⟨_,q0,q1,q2,q3,q4,q5,_⟩:=BS.out.below BL4.out;exact⟨q0,q1,q2,q3,q4,q5,BL4⟩) (fun hHeldb13=>?_);clear hK K hHeldb5
        try simp only [sZ]
        refine rdH 6 fun K hK=>?_;have zc:=BZ.out.lt;go_simp;refine (C9.out al cal A0 U4 (HS.out.below BL4.out) (TB.out.below BL4.out) P9.out).mono ?_;rintro e U5 ⟨A2,rfl,own,hb⟩
        try (go_simp)
        have zO:W1.heap.size<=U4.heap.size:=BL4.out.size;have BL5:=aq (BL4.out.trans (hb.mono BL4.out.size));replace P9:=aq (P9.out.below hb);replace BZ:=aq (BZ.out.below hb);have OX:=aq own;clear own hb;unfold slv;refine hK.out _ _ (by obtain⟨_,q0,q1,q2,q3,q4,q5,_⟩:=BS.out.below BL5.out;exact⟨q0,q1,q2,q3,q4,q5,BL5⟩) (fun hHeldb14=>?_);clear hK K hHeldb13
        try simp only [sZ]
        refine tk 7 ?_;refine tk 8 ?_;refine tk 9 ?_;refine rdH 11 fun K hK=>?_;obtain⟨_,z0,z1,z2,z3,z4,z5,zf⟩:=BZ.out;have zf0:=zf 0;have zf1:=zf 1;have zf2:=zf 2;have zf3:=zf 3;have zf4:=zf 4;have zf5:=zf 5;clear zf;go_simp;obtain⟨U6,hU⟩:∃ U,U=put6 U5 (U3.heap.size) (.int .i64 X9.seg) (.slice A2.w X9.words.length A2.cw) (.slice A2.k X9.keys.length A2.ck) (.slice A2.v X9.vals.length A2.cv) (.slice A2.c X9.counts.length A2.cc) (.int .u64 (X9.laid:Int)):=⟨_,rfl⟩;have BY:=aq (show Box U6 (U3.heap.size) X9 A2 by rw [hU];exact BZ.out.put6 X9 A2);have OY:=aq (show Own U6 W1.heap.size X9 A2 by rw [hU];exact (show Own _ _ X9 A2 from⟨OX.out.words.put6 (by omega) _ _ _ _ _ _,OX.out.keys.put6 (by omega) _ _ _ _ _ _,OX.out.vals.put6 (by omega) _ _ _ _ _ _,OX.out.counts.put6 (by omega) _ _ _ _ _ _,OX.out.caps⟩).lower zO);have BL6:=aq (show Below W1.heap.size W1 U6 by rw [hU];exact below_put6 BL5.out (by have:=BL5.out.size;omega) _ _ _ _ _ _);unfold put6 at hU
        first | rw [<-hU] | skip
        clear hU z0 z1 z2 z3 z4 z5 zf0 zf1 zf2 zf3 zf4 zf5 BZ OX;refine hK.out _ _ (by obtain⟨_,q0,q1,q2,q3,q4,q5,_⟩:=BS.out.below BL6.out;exact⟨q0,q1,q2,q3,q4,q5,BL6⟩) (fun hHeldb18=>?_);clear hK K hHeldb14
        try simp only [sZ]
        refine tk 12 ?_;refine wpAnyH_done (by kernel_rfl) ?_ _
        go_wp2_with fail
        go_meet
        exact⟨rfl,BL6.out⟩
       refine cH (fun K hK=>?_) AllReadyH.nil;go_simp;obtain⟨U3,hU⟩:∃ U,U=U2.alloc (.cells #[.int .i64 0,.slice none 0 0,.slice none 0 0,.slice none 0 0,.slice none 0 0,.int .u64 0] 27):=⟨_,rfl⟩
       have hb:Below U2.heap.size U2 U3:=by rw [hU];exact (Below.refl _ _).alloc (Nat.le_refl _) _
       have BL3:=aq (BL2.out.trans (hb.mono BL2.out.size));replace PN:=aq (PN.out.below hb);have BZ:=aq (show Box U3 U2.heap.size Sl.none adsNone by rw [hU];exact Box.new U2 Sl.none adsNone 27);rw [<-hU];skip;clear hU hb;have zB:W1.heap.size<=U2.heap.size:=BL2.out.size;refine hK.out _ _ (by obtain⟨_,q0,q1,q2,q3,q4,q5,_⟩:=BS.out.below BL3.out;exact⟨q0,q1,q2,q3,q4,q5,BL3⟩) (fun hHeldb20=>?_);clear hK K hHeldb4
       try simp only [sZ]
       refine rdH 5 fun K hK=>?_;refine step_nine elemP rfl (.tmp 45) (.tmp 47) rfl _ (U1.heap.size) rfl rfl (PL.out.below BL3.out) PN.out (by omega) ?_;intro al cal U4 hP hb;have BL4:=aq (BL3.out.trans (hb.mono BL3.out.size));replace PN:=aq (PN.out.below hb);replace BZ:=aq (BZ.out.below hb);have P9:=aq hP;clear hP hb PN
       try (go_simp)
       refine hK.out _ _ (by obtain⟨_,q0,q1,q2,q3,q4,q5,_⟩:=BS.out.below BL4.out;exact⟨q0,q1,q2,q3,q4,q5,BL4⟩) (fun hHeldb21=>?_);clear hK K hHeldb20
       try simp only [sZ]
       refine rdH 6 fun K hK=>?_;have zc:=BZ.out.lt;go_simp;refine (C9.out al cal A0 U4 (HS.out.below BL4.out) (TB.out.below BL4.out) P9.out).mono ?_;rintro e U5 ⟨A2,rfl,own,hb⟩
       try (go_simp)
       have zO:W1.heap.size<=U4.heap.size:=BL4.out.size;have BL5:=aq (BL4.out.trans (hb.mono BL4.out.size));replace P9:=aq (P9.out.below hb);replace BZ:=aq (BZ.out.below hb);have OX:=aq own;clear own hb;unfold slv;refine hK.out _ _ (by obtain⟨_,q0,q1,q2,q3,q4,q5,_⟩:=BS.out.below BL5.out;exact⟨q0,q1,q2,q3,q4,q5,BL5⟩) (fun hHeldb22=>?_);clear hK K hHeldb21
       try simp only [sZ]
       refine tk 7 ?_;refine tk 8 ?_;refine tk 9 ?_;refine rdH 11 fun K hK=>?_;obtain⟨_,z0,z1,z2,z3,z4,z5,zf⟩:=BZ.out;have zf0:=zf 0;have zf1:=zf 1;have zf2:=zf 2;have zf3:=zf 3;have zf4:=zf 4;have zf5:=zf 5;clear zf;go_simp;obtain⟨U6,hU⟩:∃ U,U=put6 U5 (U2.heap.size) (.int .i64 X9.seg) (.slice A2.w X9.words.length A2.cw) (.slice A2.k X9.keys.length A2.ck) (.slice A2.v X9.vals.length A2.cv) (.slice A2.c X9.counts.length A2.cc) (.int .u64 (X9.laid:Int)):=⟨_,rfl⟩;have BY:=aq (show Box U6 (U2.heap.size) X9 A2 by rw [hU];exact BZ.out.put6 X9 A2);have OY:=aq (show Own U6 W1.heap.size X9 A2 by rw [hU];exact (show Own _ _ X9 A2 from⟨OX.out.words.put6 (by omega) _ _ _ _ _ _,OX.out.keys.put6 (by omega) _ _ _ _ _ _,OX.out.vals.put6 (by omega) _ _ _ _ _ _,OX.out.counts.put6 (by omega) _ _ _ _ _ _,OX.out.caps⟩).lower zO);have BL6:=aq (show Below W1.heap.size W1 U6 by rw [hU];exact below_put6 BL5.out (by have:=BL5.out.size;omega) _ _ _ _ _ _);unfold put6 at hU
       first | rw [<-hU] | skip
       clear hU z0 z1 z2 z3 z4 z5 zf0 zf1 zf2 zf3 zf4 zf5 BZ OX;refine hK.out _ _ (by obtain⟨_,q0,q1,q2,q3,q4,q5,_⟩:=BS.out.below BL6.out;exact⟨q0,q1,q2,q3,q4,q5,BL6⟩) (fun hHeldb26=>?_);clear hK K hHeldb22
       try simp only [sZ]
       refine tk 12 ?_;refine wpAnyH_done (by kernel_rfl) ?_ _
       go_wp2_with fail
       go_meet
       exact⟨rfl,BL6.out⟩
      refine cH (fun K hK=>?_) AllReadyH.nil;go_simp;obtain⟨U2,hU⟩:∃ U,U=U1.alloc (.cells #[.int .i64 0,.slice none 0 0,.slice none 0 0,.slice none 0 0,.slice none 0 0,.int .u64 0] 27):=⟨_,rfl⟩
      have hb:Below U1.heap.size U1 U2:=by rw [hU];exact (Below.refl _ _).alloc (Nat.le_refl _) _
      have BL2:=aq (BL1.out.trans (hb.mono BL1.out.size));have BZ:=aq (show Box U2 U1.heap.size Sl.none adsNone by rw [hU];exact Box.new U1 Sl.none adsNone 27);rw [<-hU];skip;clear hU hb;have zB:W1.heap.size<=U1.heap.size:=BL1.out.size;refine hK.out _ _ (by obtain⟨_,q0,q1,q2,q3,q4,q5,_⟩:=BS.out.below BL2.out;exact⟨q0,q1,q2,q3,q4,q5,BL2⟩) (fun hHeldb28=>?_);clear hK K hHeldb3
      try simp only [sZ]
      refine rdH 4 fun K hK=>?_;go_simp;obtain⟨U3,hU⟩:∃ U,U=U2.alloc (.cells #[.int .i64 0,.int .i64 0] 36):=⟨_,rfl⟩
      have hb:Below U2.heap.size U2 U3:=by rw [hU];exact (Below.refl _ _).alloc (Nat.le_refl _) _
      have BL3:=aq (BL2.out.trans (hb.mono BL2.out.size));replace BZ:=aq (BZ.out.below hb);have PN:=aq (show PLst U3 (some ⟨U2.heap.size,0,none⟩) [(0,0)] by rw [hU];exact plst_one U2 36);rw [<-hU];clear hU hb;refine hK.out _ _ (by obtain⟨_,q0,q1,q2,q3,q4,q5,_⟩:=BS.out.below BL3.out;exact⟨q0,q1,q2,q3,q4,q5,BL3⟩) (fun hHeldb29=>?_);clear hK K hHeldb28
      try simp only [sZ]
      refine rdH 5 fun K hK=>?_;refine step_nine elemP rfl (.tmp 45) (.tmp 47) rfl _ (U2.heap.size) rfl rfl (PL.out.below BL3.out) PN.out (by omega) ?_;intro al cal U4 hP hb;have BL4:=aq (BL3.out.trans (hb.mono BL3.out.size));replace PN:=aq (PN.out.below hb);replace BZ:=aq (BZ.out.below hb);have P9:=aq hP;clear hP hb PN
      try (go_simp)
      refine hK.out _ _ (by obtain⟨_,q0,q1,q2,q3,q4,q5,_⟩:=BS.out.below BL4.out;exact⟨q0,q1,q2,q3,q4,q5,BL4⟩) (fun hHeldb30=>?_);clear hK K hHeldb29
      try simp only [sZ]
      refine rdH 6 fun K hK=>?_;have zc:=BZ.out.lt;go_simp;refine (C9.out al cal A0 U4 (HS.out.below BL4.out) (TB.out.below BL4.out) P9.out).mono ?_;rintro e U5 ⟨A2,rfl,own,hb⟩
      try (go_simp)
      have zO:W1.heap.size<=U4.heap.size:=BL4.out.size;have BL5:=aq (BL4.out.trans (hb.mono BL4.out.size));replace P9:=aq (P9.out.below hb);replace BZ:=aq (BZ.out.below hb);have OX:=aq own;clear own hb;unfold slv;refine hK.out _ _ (by obtain⟨_,q0,q1,q2,q3,q4,q5,_⟩:=BS.out.below BL5.out;exact⟨q0,q1,q2,q3,q4,q5,BL5⟩) (fun hHeldb31=>?_);clear hK K hHeldb30
      try simp only [sZ]
      refine tk 7 ?_;refine tk 8 ?_;refine tk 9 ?_;refine rdH 11 fun K hK=>?_;obtain⟨_,z0,z1,z2,z3,z4,z5,zf⟩:=BZ.out;have zf0:=zf 0;have zf1:=zf 1;have zf2:=zf 2;have zf3:=zf 3;have zf4:=zf 4;have zf5:=zf 5;clear zf;go_simp;obtain⟨U6,hU⟩:∃ U,U=put6 U5 (U1.heap.size) (.int .i64 X9.seg) (.slice A2.w X9.words.length A2.cw) (.slice A2.k X9.keys.length A2.ck) (.slice A2.v X9.vals.length A2.cv) (.slice A2.c X9.counts.length A2.cc) (.int .u64 (X9.laid:Int)):=⟨_,rfl⟩;have BY:=aq (show Box U6 (U1.heap.size) X9 A2 by rw [hU];exact BZ.out.put6 X9 A2);have OY:=aq (show Own U6 W1.heap.size X9 A2 by rw [hU];exact (show Own _ _ X9 A2 from⟨OX.out.words.put6 (by omega) _ _ _ _ _ _,OX.out.keys.put6 (by omega) _ _ _ _ _ _,OX.out.vals.put6 (by omega) _ _ _ _ _ _,OX.out.counts.put6 (by omega) _ _ _ _ _ _,OX.out.caps⟩).lower zO);have BL6:=aq (show Below W1.heap.size W1 U6 by rw [hU];exact below_put6 BL5.out (by have:=BL5.out.size;omega) _ _ _ _ _ _);unfold put6 at hU
      first | rw [<-hU] | skip
      clear hU z0 z1 z2 z3 z4 z5 zf0 zf1 zf2 zf3 zf4 zf5 BZ OX;refine hK.out _ _ (by obtain⟨_,q0,q1,q2,q3,q4,q5,_⟩:=BS.out.below BL6.out;exact⟨q0,q1,q2,q3,q4,q5,BL6⟩) (fun hHeldb35=>?_);clear hK K hHeldb31
      try simp only [sZ]
      refine tk 12 ?_;refine wpAnyH_done (by kernel_rfl) ?_ _
      go_wp2_with fail
      go_meet
      exact⟨rfl,BL6.out⟩
     refine cH (fun K hK=>?_) ?_
     ·skip
      go_simp;obtain⟨U1,hU⟩:∃ U,U=V0.alloc (.cells #[.int .i64 0,.int .i64 0] 36):=⟨_,rfl⟩
      have hb:Below V0.heap.size V0 U1:=by rw [hU];exact (Below.refl _ _).alloc (Nat.le_refl _) _
      have BL1:=aq (BL0.out.trans (hb.mono BL0.out.size));have PN:=aq (show PLst U1 (some ⟨V0.heap.size,0,none⟩) [(0,0)] by rw [hU];exact plst_one V0 36);rw [<-hU];clear hU hb;refine hK.out _ _ (by obtain⟨_,q0,q1,q2,q3,q4,q5,_⟩:=BS.out.below BL1.out;exact⟨q0,q1,q2,q3,q4,q5,BL1⟩) (fun hHeldb37=>?_);clear hK K hHeld
      try simp only [sZ]
      refine wpAnyH_ready (rs:=[0,10]) (by kernel_rfl) (by simp) ?_;refine cH (fun K hK=>?_) ?_
      ·skip
       go_simp;refine (l9Chapter _).mono ?_;rintro e U2 ⟨rfl,hb⟩
       try (go_simp)
       have BL2:=aq (BL1.out.trans (hb.mono BL1.out.size));replace PN:=aq (PN.out.below hb);clear hb
       try unfold cfv
       refine hK.out _ _ (by obtain⟨_,q0,q1,q2,q3,q4,q5,_⟩:=BS.out.below BL2.out;exact⟨q0,q1,q2,q3,q4,q5,BL2⟩) (fun hHeldb38=>?_);clear hK K hHeldb37
       try simp only [sZ]
       refine wpAnyH_ready (rs:=[5,10]) (by kernel_rfl) (by simp) ?_;refine cH (fun K hK=>?_) ?_
       ·skip
        refine step_nine elemP rfl (.tmp 45) (.tmp 47) rfl _ (V0.heap.size) rfl rfl (PL.out.below BL2.out) PN.out (by omega) ?_;intro al cal U3 hP hb;have BL3:=aq (BL2.out.trans (hb.mono BL2.out.size));replace PN:=aq (PN.out.below hb);have P9:=aq hP;clear hP hb PN
        try (go_simp)
        refine hK.out _ _ (by obtain⟨_,q0,q1,q2,q3,q4,q5,_⟩:=BS.out.below BL3.out;exact⟨q0,q1,q2,q3,q4,q5,BL3⟩) (fun hHeldb39=>?_);clear hK K hHeldb38
        try simp only [sZ]
        refine wpAnyH_ready (rs:=[6,10]) (by kernel_rfl) (by simp) ?_;refine cH (fun K hK=>?_) ?_
        ·skip
         go_simp;refine (C9.out al cal A0 U3 (HS.out.below BL3.out) (TB.out.below BL3.out) P9.out).mono ?_;rintro e U4 ⟨A2,rfl,own,hb⟩
         try (go_simp)
         have zO:W1.heap.size<=U3.heap.size:=BL3.out.size;have BL4:=aq (BL3.out.trans (hb.mono BL3.out.size));replace P9:=aq (P9.out.below hb);have OX:=aq own;clear own hb;unfold slv;refine hK.out _ _ (by obtain⟨_,q0,q1,q2,q3,q4,q5,_⟩:=BS.out.below BL4.out;exact⟨q0,q1,q2,q3,q4,q5,BL4⟩) (fun hHeldb40=>?_);clear hK K hHeldb39
         try simp only [sZ]
         refine tk 7 ?_;refine tk 8 ?_;refine tk 9 ?_;refine rdH 10 fun K hK=>?_;go_simp;obtain⟨U5,hU⟩:∃ U,U=U4.alloc (.cells #[.int .i64 0,.slice none 0 0,.slice none 0 0,.slice none 0 0,.slice none 0 0,.int .u64 0] 27):=⟨_,rfl⟩
         have hb:Below U4.heap.size U4 U5:=by rw [hU];exact (Below.refl _ _).alloc (Nat.le_refl _) _
         have BL5:=aq (BL4.out.trans (hb.mono BL4.out.size));replace P9:=aq (P9.out.below hb);have OXP:=aq OX.out;replace OX:=aq (OX.out.below hb);have BZ:=aq (show Box U5 U4.heap.size Sl.none adsNone by rw [hU];exact Box.new U4 Sl.none adsNone 27);rw [<-hU];have hbz:=aq hb;clear hU hb;have zB:W1.heap.size<=U4.heap.size:=BL4.out.size;refine hK.out _ _ (by obtain⟨_,q0,q1,q2,q3,q4,q5,_⟩:=BS.out.below BL5.out;exact⟨q0,q1,q2,q3,q4,q5,BL5⟩) (fun hHeldb44=>?_);clear hK K hHeldb40
         try simp only [sZ]
         refine rdH 11 fun K hK=>?_;obtain⟨_,z0,z1,z2,z3,z4,z5,zf⟩:=BZ.out;have zf0:=zf 0;have zf1:=zf 1;have zf2:=zf 2;have zf3:=zf 3;have zf4:=zf 4;have zf5:=zf 5;clear zf;go_simp;obtain⟨U6,hU⟩:∃ U,U=put6 U5 (U4.heap.size) (.int .i64 X9.seg) (.slice A2.w X9.words.length A2.cw) (.slice A2.k X9.keys.length A2.ck) (.slice A2.v X9.vals.length A2.cv) (.slice A2.c X9.counts.length A2.cc) (.int .u64 (X9.laid:Int)):=⟨_,rfl⟩;have BY:=aq (show Box U6 (U4.heap.size) X9 A2 by rw [hU];exact BZ.out.put6 X9 A2);have OY:=aq (show Own U6 W1.heap.size X9 A2 by rw [hU];exact (OXP.out.below (below_put6 hbz.out (Nat.le_refl _) _ _ _ _ _ _)).lower zO);have BL6:=aq (show Below W1.heap.size W1 U6 by rw [hU];exact below_put6 BL5.out (by have:=BL5.out.size;omega) _ _ _ _ _ _);unfold put6 at hU
         first | rw [<-hU] | skip
         clear hU z0 z1 z2 z3 z4 z5 zf0 zf1 zf2 zf3 zf4 zf5 BZ OX;refine hK.out _ _ (by obtain⟨_,q0,q1,q2,q3,q4,q5,_⟩:=BS.out.below BL6.out;exact⟨q0,q1,q2,q3,q4,q5,BL6⟩) (fun hHeldb45=>?_);clear hK K hHeldb44
         try simp only [sZ]
         refine tk 12 ?_;refine wpAnyH_done (by kernel_rfl) ?_ _
         go_wp2_with fail
         go_meet
         exact⟨rfl,BL6.out⟩
        refine cH (fun K hK=>?_) AllReadyH.nil;go_simp;obtain⟨U4,hU⟩:∃ U,U=U3.alloc (.cells #[.int .i64 0,.slice none 0 0,.slice none 0 0,.slice none 0 0,.slice none 0 0,.int .u64 0] 27):=⟨_,rfl⟩
        have hb:Below U3.heap.size U3 U4:=by rw [hU];exact (Below.refl _ _).alloc (Nat.le_refl _) _
        have BL4:=aq (BL3.out.trans (hb.mono BL3.out.size));replace P9:=aq (P9.out.below hb);have BZ:=aq (show Box U4 U3.heap.size Sl.none adsNone by rw [hU];exact Box.new U3 Sl.none adsNone 27);rw [<-hU];skip;clear hU hb;have zB:W1.heap.size<=U3.heap.size:=BL3.out.size;refine hK.out _ _ (by obtain⟨_,q0,q1,q2,q3,q4,q5,_⟩:=BS.out.below BL4.out;exact⟨q0,q1,q2,q3,q4,q5,BL4⟩) (fun hHeldb47=>?_);clear hK K hHeldb39
        try simp only [sZ]
        refine rdH 6 fun K hK=>?_;have zc:=BZ.out.lt;go_simp;refine (C9.out al cal A0 U4 (HS.out.below BL4.out) (TB.out.below BL4.out) P9.out).mono ?_;rintro e U5 ⟨A2,rfl,own,hb⟩
        try (go_simp)
        have zO:W1.heap.size<=U4.heap.size:=BL4.out.size;have BL5:=aq (BL4.out.trans (hb.mono BL4.out.size));replace P9:=aq (P9.out.below hb);replace BZ:=aq (BZ.out.below hb);have OX:=aq own;clear own hb;unfold slv;refine hK.out _ _ (by obtain⟨_,q0,q1,q2,q3,q4,q5,_⟩:=BS.out.below BL5.out;exact⟨q0,q1,q2,q3,q4,q5,BL5⟩) (fun hHeldb48=>?_);clear hK K hHeldb47
        try simp only [sZ]
        refine tk 7 ?_;refine tk 8 ?_;refine tk 9 ?_;refine rdH 11 fun K hK=>?_;obtain⟨_,z0,z1,z2,z3,z4,z5,zf⟩:=BZ.out;have zf0:=zf 0;have zf1:=zf 1;have zf2:=zf 2;have zf3:=zf 3;have zf4:=zf 4;have zf5:=zf 5;clear zf;go_simp;obtain⟨U6,hU⟩:∃ U,U=put6 U5 (U3.heap.size) (.int .i64 X9.seg) (.slice A2.w X9.words.length A2.cw) (.slice A2.k X9.keys.length A2.ck) (.slice A2.v X9.vals.length A2.cv) (.slice A2.c X9.counts.length A2.cc) (.int .u64 (X9.laid:Int)):=⟨_,rfl⟩;have BY:=aq (show Box U6 (U3.heap.size) X9 A2 by rw [hU];exact BZ.out.put6 X9 A2);have OY:=aq (show Own U6 W1.heap.size X9 A2 by rw [hU];exact (show Own _ _ X9 A2 from⟨OX.out.words.put6 (by omega) _ _ _ _ _ _,OX.out.keys.put6 (by omega) _ _ _ _ _ _,OX.out.vals.put6 (by omega) _ _ _ _ _ _,OX.out.counts.put6 (by omega) _ _ _ _ _ _,OX.out.caps⟩).lower zO);have BL6:=aq (show Below W1.heap.size W1 U6 by rw [hU];exact below_put6 BL5.out (by have:=BL5.out.size;omega) _ _ _ _ _ _);unfold put6 at hU
        first | rw [<-hU] | skip
        clear hU z0 z1 z2 z3 z4 z5 zf0 zf1 zf2 zf3 zf4 zf5 BZ OX;refine hK.out _ _ (by obtain⟨_,q0,q1,q2,q3,q4,q5,_⟩:=BS.out.below BL6.out;exact⟨q0,q1,q2,q3,q4,q5,BL6⟩) (fun hHeldb52=>?_);clear hK K hHeldb48
        try simp only [sZ]
        refine tk 12 ?_;refine wpAnyH_done (by kernel_rfl) ?_ _
        go_wp2_with fail
        go_meet
        exact⟨rfl,BL6.out⟩
       refine cH (fun K hK=>?_) AllReadyH.nil;go_simp;obtain⟨U3,hU⟩:∃ U,U=U2.alloc (.cells #[.int .i64 0,.slice none 0 0,.slice none 0 0,.slice none 0 0,.slice none 0 0,.int .u64 0] 27):=⟨_,rfl⟩
       have hb:Below U2.heap.size U2 U3:=by rw [hU];exact (Below.refl _ _).alloc (Nat.le_refl _) _
       have BL3:=aq (BL2.out.trans (hb.mono BL2.out.size));replace PN:=aq (PN.out.below hb);have BZ:=aq (show Box U3 U2.heap.size Sl.none adsNone by rw [hU];exact Box.new U2 Sl.none adsNone 27);rw [<-hU];skip;clear hU hb;have zB:W1.heap.size<=U2.heap.size:=BL2.out.size;refine hK.out _ _ (by obtain⟨_,q0,q1,q2,q3,q4,q5,_⟩:=BS.out.below BL3.out;exact⟨q0,q1,q2,q3,q4,q5,BL3⟩) (fun hHeldb54=>?_);clear hK K hHeldb38
       try simp only [sZ]
       refine rdH 5 fun K hK=>?_;refine step_nine elemP rfl (.tmp 45) (.tmp 47) rfl _ (V0.heap.size) rfl rfl (PL.out.below BL3.out) PN.out (by omega) ?_;intro al cal U4 hP hb;have BL4:=aq (BL3.out.trans (hb.mono BL3.out.size));replace PN:=aq (PN.out.below hb);replace BZ:=aq (BZ.out.below hb);have P9:=aq hP;clear hP hb PN
       try (go_simp)
       refine hK.out _ _ (by obtain⟨_,q0,q1,q2,q3,q4,q5,_⟩:=BS.out.below BL4.out;exact⟨q0,q1,q2,q3,q4,q5,BL4⟩) (fun hHeldb55=>?_);clear hK K hHeldb54
       try simp only [sZ]
       refine rdH 6 fun K hK=>?_;have zc:=BZ.out.lt;go_simp;refine (C9.out al cal A0 U4 (HS.out.below BL4.out) (TB.out.below BL4.out) P9.out).mono ?_;rintro e U5 ⟨A2,rfl,own,hb⟩
       try (go_simp)
       have zO:W1.heap.size<=U4.heap.size:=BL4.out.size;have BL5:=aq (BL4.out.trans (hb.mono BL4.out.size));replace P9:=aq (P9.out.below hb);replace BZ:=aq (BZ.out.below hb);have OX:=aq own;clear own hb;unfold slv;refine hK.out _ _ (by obtain⟨_,q0,q1,q2,q3,q4,q5,_⟩:=BS.out.below BL5.out;exact⟨q0,q1,q2,q3,q4,q5,BL5⟩) (fun hHeldb56=>?_);clear hK K hHeldb55
       try simp only [sZ]
       refine tk 7 ?_;refine tk 8 ?_;refine tk 9 ?_;refine rdH 11 fun K hK=>?_;obtain⟨_,z0,z1,z2,z3,z4,z5,zf⟩:=BZ.out;have zf0:=zf 0;have zf1:=zf 1;have zf2:=zf 2;have zf3:=zf 3;have zf4:=zf 4;have zf5:=zf 5;clear zf;go_simp;obtain⟨U6,hU⟩:∃ U,U=put6 U5 (U2.heap.size) (.int .i64 X9.seg) (.slice A2.w X9.words.length A2.cw) (.slice A2.k X9.keys.length A2.ck) (.slice A2.v X9.vals.length A2.cv) (.slice A2.c X9.counts.length A2.cc) (.int .u64 (X9.laid:Int)):=⟨_,rfl⟩;have BY:=aq (show Box U6 (U2.heap.size) X9 A2 by rw [hU];exact BZ.out.put6 X9 A2);have OY:=aq (show Own U6 W1.heap.size X9 A2 by rw [hU];exact (show Own _ _ X9 A2 from⟨OX.out.words.put6 (by omega) _ _ _ _ _ _,OX.out.keys.put6 (by omega) _ _ _ _ _ _,OX.out.vals.put6 (by omega) _ _ _ _ _ _,OX.out.counts.put6 (by omega) _ _ _ _ _ _,OX.out.caps⟩).lower zO);have BL6:=aq (show Below W1.heap.size W1 U6 by rw [hU];exact below_put6 BL5.out (by have:=BL5.out.size;omega) _ _ _ _ _ _);unfold put6 at hU
       first | rw [<-hU] | skip
       clear hU z0 z1 z2 z3 z4 z5 zf0 zf1 zf2 zf3 zf4 zf5 BZ OX;refine hK.out _ _ (by obtain⟨_,q0,q1,q2,q3,q4,q5,_⟩:=BS.out.below BL6.out;exact⟨q0,q1,q2,q3,q4,q5,BL6⟩) (fun hHeldb60=>?_);clear hK K hHeldb56
       try simp only [sZ]
       refine tk 12 ?_;refine wpAnyH_done (by kernel_rfl) ?_ _
       go_wp2_with fail
       go_meet
       exact⟨rfl,BL6.out⟩
      refine cH (fun K hK=>?_) AllReadyH.nil;go_simp;obtain⟨U2,hU⟩:∃ U,U=U1.alloc (.cells #[.int .i64 0,.slice none 0 0,.slice none 0 0,.slice none 0 0,.slice none 0 0,.int .u64 0] 27):=⟨_,rfl⟩
      have hb:Below U1.heap.size U1 U2:=by rw [hU];exact (Below.refl _ _).alloc (Nat.le_refl _) _
      have BL2:=aq (BL1.out.trans (hb.mono BL1.out.size));replace PN:=aq (PN.out.below hb);have BZ:=aq (show Box U2 U1.heap.size Sl.none adsNone by rw [hU];exact Box.new U1 Sl.none adsNone 27);rw [<-hU];skip;clear hU hb;have zB:W1.heap.size<=U1.heap.size:=BL1.out.size;refine hK.out _ _ (by obtain⟨_,q0,q1,q2,q3,q4,q5,_⟩:=BS.out.below BL2.out;exact⟨q0,q1,q2,q3,q4,q5,BL2⟩) (fun hHeldb62=>?_);clear hK K hHeldb37
      try simp only [sZ]
      refine rdH 0 fun K hK=>?_;go_simp;refine (l9Chapter _).mono ?_;rintro e U3 ⟨rfl,hb⟩
      try (go_simp)
      have BL3:=aq (BL2.out.trans (hb.mono BL2.out.size));replace PN:=aq (PN.out.below hb);replace BZ:=aq (BZ.out.below hb);clear hb
      try unfold cfv
      refine hK.out _ _ (by obtain⟨_,q0,q1,q2,q3,q4,q5,_⟩:=BS.out.below BL3.out;exact⟨q0,q1,q2,q3,q4,q5,BL3⟩) (fun hHeldb63=>?_);clear hK K hHeldb62
      try simp only [sZ]
      refine rdH 5 fun K hK=>?_;refine step_nine elemP rfl (.tmp 45) (.tmp 47) rfl _ (V0.heap.size) rfl rfl (PL.out.below BL3.out) PN.out (by omega) ?_;intro al cal U4 hP hb;have BL4:=aq (BL3.out.trans (hb.mono BL3.out.size));replace PN:=aq (PN.out.below hb);replace BZ:=aq (BZ.out.below hb);have P9:=aq hP;clear hP hb PN
      try (go_simp)
      refine hK.out _ _ (by obtain⟨_,q0,q1,q2,q3,q4,q5,_⟩:=BS.out.below BL4.out;exact⟨q0,q1,q2,q3,q4,q5,BL4⟩) (fun hHeldb64=>?_);clear hK K hHeldb63
      try simp only [sZ]
      refine rdH 6 fun K hK=>?_;have zc:=BZ.out.lt;go_simp;refine (C9.out al cal A0 U4 (HS.out.below BL4.out) (TB.out.below BL4.out) P9.out).mono ?_;rintro e U5 ⟨A2,rfl,own,hb⟩
      try (go_simp)
      have zO:W1.heap.size<=U4.heap.size:=BL4.out.size;have BL5:=aq (BL4.out.trans (hb.mono BL4.out.size));replace P9:=aq (P9.out.below hb);replace BZ:=aq (BZ.out.below hb);have OX:=aq own;clear own hb;unfold slv;refine hK.out _ _ (by obtain⟨_,q0,q1,q2,q3,q4,q5,_⟩:=BS.out.below BL5.out;exact⟨q0,q1,q2,q3,q4,q5,BL5⟩) (fun hHeldb65=>?_);clear hK K hHeldb64
      try simp only [sZ]
      refine tk 7 ?_;refine tk 8 ?_;refine tk 9 ?_;refine rdH 11 fun K hK=>?_;obtain⟨_,z0,z1,z2,z3,z4,z5,zf⟩:=BZ.out;have zf0:=zf 0;have zf1:=zf 1;have zf2:=zf 2;have zf3:=zf 3;have zf4:=zf 4;have zf5:=zf 5;clear zf;go_simp;obtain⟨U6,hU⟩:∃ U,U=put6 U5 (U1.heap.size) (.int .i64 X9.seg) (.slice A2.w X9.words.length A2.cw) (.slice A2.k X9.keys.length A2.ck) (.slice A2.v X9.vals.length A2.cv) (.slice A2.c X9.counts.length A2.cc) (.int .u64 (X9.laid:Int)):=⟨_,rfl⟩;have BY:=aq (show Box U6 (U1.heap.size) X9 A2 by rw [hU];exact BZ.out.put6 X9 A2);have OY:=aq (show Own U6 W1.heap.size X9 A2 by rw [hU];exact (show Own _ _ X9 A2 from⟨OX.out.words.put6 (by omega) _ _ _ _ _ _,OX.out.keys.put6 (by omega) _ _ _ _ _ _,OX.out.vals.put6 (by omega) _ _ _ _ _ _,OX.out.counts.put6 (by omega) _ _ _ _ _ _,OX.out.caps⟩).lower zO);have BL6:=aq (show Below W1.heap.size W1 U6 by rw [hU];exact below_put6 BL5.out (by have:=BL5.out.size;omega) _ _ _ _ _ _);unfold put6 at hU
      first | rw [<-hU] | skip
      clear hU z0 z1 z2 z3 z4 z5 zf0 zf1 zf2 zf3 zf4 zf5 BZ OX;refine hK.out _ _ (by obtain⟨_,q0,q1,q2,q3,q4,q5,_⟩:=BS.out.below BL6.out;exact⟨q0,q1,q2,q3,q4,q5,BL6⟩) (fun hHeldb69=>?_);clear hK K hHeldb65
      try simp only [sZ]
      refine tk 12 ?_;refine wpAnyH_done (by kernel_rfl) ?_ _
      go_wp2_with fail
      go_meet
      exact⟨rfl,BL6.out⟩
     refine cH (fun K hK=>?_) AllReadyH.nil;go_simp;obtain⟨U1,hU⟩:∃ U,U=V0.alloc (.cells #[.int .i64 0,.slice none 0 0,.slice none 0 0,.slice none 0 0,.slice none 0 0,.int .u64 0] 27):=⟨_,rfl⟩
     have hb:Below V0.heap.size V0 U1:=by rw [hU];exact (Below.refl _ _).alloc (Nat.le_refl _) _
     have BL1:=aq (BL0.out.trans (hb.mono BL0.out.size));have BZ:=aq (show Box U1 V0.heap.size Sl.none adsNone by rw [hU];exact Box.new V0 Sl.none adsNone 27);rw [<-hU];skip;clear hU hb;have zB:W1.heap.size<=V0.heap.size:=BL0.out.size;refine hK.out _ _ (by obtain⟨_,q0,q1,q2,q3,q4,q5,_⟩:=BS.out.below BL1.out;exact⟨q0,q1,q2,q3,q4,q5,BL1⟩) (fun hHeldb71=>?_);clear hK K hHeld
     try simp only [sZ]
     refine wpAnyH_ready (rs:=[0,4]) (by kernel_rfl) (by simp) ?_;refine cH (fun K hK=>?_) ?_
     ·skip
      go_simp;refine (l9Chapter _).mono ?_;rintro e U2 ⟨rfl,hb⟩
      try (go_simp)
      have BL2:=aq (BL1.out.trans (hb.mono BL1.out.size));replace BZ:=aq (BZ.out.below hb);clear hb
      try unfold cfv
      refine hK.out _ _ (by obtain⟨_,q0,q1,q2,q3,q4,q5,_⟩:=BS.out.below BL2.out;exact⟨q0,q1,q2,q3,q4,q5,BL2⟩) (fun hHeldb72=>?_);clear hK K hHeldb71
      try simp only [sZ]
      refine rdH 4 fun K hK=>?_;go_simp;obtain⟨U3,hU⟩:∃ U,U=U2.alloc (.cells #[.int .i64 0,.int .i64 0] 36):=⟨_,rfl⟩
      have hb:Below U2.heap.size U2 U3:=by rw [hU];exact (Below.refl _ _).alloc (Nat.le_refl _) _
      have BL3:=aq (BL2.out.trans (hb.mono BL2.out.size));replace BZ:=aq (BZ.out.below hb);have PN:=aq (show PLst U3 (some ⟨U2.heap.size,0,none⟩) [(0,0)] by rw [hU];exact plst_one U2 36);rw [<-hU];clear hU hb;refine hK.out _ _ (by obtain⟨_,q0,q1,q2,q3,q4,q5,_⟩:=BS.out.below BL3.out;exact⟨q0,q1,q2,q3,q4,q5,BL3⟩) (fun hHeldb73=>?_);clear hK K hHeldb72
      try simp only [sZ]
      refine rdH 5 fun K hK=>?_;refine step_nine elemP rfl (.tmp 45) (.tmp 47) rfl _ (U2.heap.size) rfl rfl (PL.out.below BL3.out) PN.out (by omega) ?_;intro al cal U4 hP hb;have BL4:=aq (BL3.out.trans (hb.mono BL3.out.size));replace PN:=aq (PN.out.below hb);replace BZ:=aq (BZ.out.below hb);have P9:=aq hP;clear hP hb PN
      try (go_simp)
      refine hK.out _ _ (by obtain⟨_,q0,q1,q2,q3,q4,q5,_⟩:=BS.out.below BL4.out;exact⟨q0,q1,q2,q3,q4,q5,BL4⟩) (fun hHeldb74=>?_);clear hK K hHeldb73
      try simp only [sZ]
      refine rdH 6 fun K hK=>?_;have zc:=BZ.out.lt;go_simp;refine (C9.out al cal A0 U4 (HS.out.below BL4.out) (TB.out.below BL4.out) P9.out).mono ?_;rintro e U5 ⟨A2,rfl,own,hb⟩
      try (go_simp)
      have zO:W1.heap.size<=U4.heap.size:=BL4.out.size;have BL5:=aq (BL4.out.trans (hb.mono BL4.out.size));replace P9:=aq (P9.out.below hb);replace BZ:=aq (BZ.out.below hb);have OX:=aq own;clear own hb;unfold slv;refine hK.out _ _ (by obtain⟨_,q0,q1,q2,q3,q4,q5,_⟩:=BS.out.below BL5.out;exact⟨q0,q1,q2,q3,q4,q5,BL5⟩) (fun hHeldb75=>?_);clear hK K hHeldb74
      try simp only [sZ]
      refine tk 7 ?_;refine tk 8 ?_;refine tk 9 ?_;refine rdH 11 fun K hK=>?_;obtain⟨_,z0,z1,z2,z3,z4,z5,zf⟩:=BZ.out;have zf0:=zf 0;have zf1:=zf 1;have zf2:=zf 2;have zf3:=zf 3;have zf4:=zf 4;have zf5:=zf 5;clear zf;go_simp;obtain⟨U6,hU⟩:∃ U,U=put6 U5 (V0.heap.size) (.int .i64 X9.seg) (.slice A2.w X9.words.length A2.cw) (.slice A2.k X9.keys.length A2.ck) (.slice A2.v X9.vals.length A2.cv) (.slice A2.c X9.counts.length A2.cc) (.int .u64 (X9.laid:Int)):=⟨_,rfl⟩;have BY:=aq (show Box U6 (V0.heap.size) X9 A2 by rw [hU];exact BZ.out.put6 X9 A2);have OY:=aq (show Own U6 W1.heap.size X9 A2 by rw [hU];exact (show Own _ _ X9 A2 from⟨OX.out.words.put6 (by omega) _ _ _ _ _ _,OX.out.keys.put6 (by omega) _ _ _ _ _ _,OX.out.vals.put6 (by omega) _ _ _ _ _ _,OX.out.counts.put6 (by omega) _ _ _ _ _ _,OX.out.caps⟩).lower zO);have BL6:=aq (show Below W1.heap.size W1 U6 by rw [hU];exact below_put6 BL5.out (by have:=BL5.out.size;omega) _ _ _ _ _ _);unfold put6 at hU
      first | rw [<-hU] | skip
      clear hU z0 z1 z2 z3 z4 z5 zf0 zf1 zf2 zf3 zf4 zf5 BZ OX;refine hK.out _ _ (by obtain⟨_,q0,q1,q2,q3,q4,q5,_⟩:=BS.out.below BL6.out;exact⟨q0,q1,q2,q3,q4,q5,BL6⟩) (fun hHeldb79=>?_);clear hK K hHeldb75
      try simp only [sZ]
      refine tk 12 ?_;refine wpAnyH_done (by kernel_rfl) ?_ _
      go_wp2_with fail
      go_meet
      exact⟨rfl,BL6.out⟩
     refine cH (fun K hK=>?_) AllReadyH.nil;go_simp;obtain⟨U2,hU⟩:∃ U,U=U1.alloc (.cells #[.int .i64 0,.int .i64 0] 36):=⟨_,rfl⟩
     have hb:Below U1.heap.size U1 U2:=by rw [hU];exact (Below.refl _ _).alloc (Nat.le_refl _) _
     have BL2:=aq (BL1.out.trans (hb.mono BL1.out.size));replace BZ:=aq (BZ.out.below hb);have PN:=aq (show PLst U2 (some ⟨U1.heap.size,0,none⟩) [(0,0)] by rw [hU];exact plst_one U1 36);rw [<-hU];clear hU hb;refine hK.out _ _ (by obtain⟨_,q0,q1,q2,q3,q4,q5,_⟩:=BS.out.below BL2.out;exact⟨q0,q1,q2,q3,q4,q5,BL2⟩) (fun hHeldb81=>?_);clear hK K hHeldb71
     try simp only [sZ]
     refine rdH 0 fun K hK=>?_;go_simp;refine (l9Chapter _).mono ?_;rintro e U3 ⟨rfl,hb⟩
     try (go_simp)
     have BL3:=aq (BL2.out.trans (hb.mono BL2.out.size));replace PN:=aq (PN.out.below hb);replace BZ:=aq (BZ.out.below hb);clear hb
     try unfold cfv
     refine hK.out _ _ (by obtain⟨_,q0,q1,q2,q3,q4,q5,_⟩:=BS.out.below BL3.out;exact⟨q0,q1,q2,q3,q4,q5,BL3⟩) (fun hHeldb82=>?_);clear hK K hHeldb81
     try simp only [sZ]
     refine rdH 5 fun K hK=>?_;refine step_nine elemP rfl (.tmp 45) (.tmp 47) rfl _ (U1.heap.size) rfl rfl (PL.out.below BL3.out) PN.out (by omega) ?_;intro al cal U4 hP hb;have BL4:=aq (BL3.out.trans (hb.mono BL3.out.size));replace PN:=aq (PN.out.below hb);replace BZ:=aq (BZ.out.below hb);have P9:=aq hP;clear hP hb PN
     try (go_simp)
     refine hK.out _ _ (by obtain⟨_,q0,q1,q2,q3,q4,q5,_⟩:=BS.out.below BL4.out;exact⟨q0,q1,q2,q3,q4,q5,BL4⟩) (fun hHeldb83=>?_);clear hK K hHeldb82
     try simp only [sZ]
     refine rdH 6 fun K hK=>?_;have zc:=BZ.out.lt;go_simp;refine (C9.out al cal A0 U4 (HS.out.below BL4.out) (TB.out.below BL4.out) P9.out).mono ?_;rintro e U5 ⟨A2,rfl,own,hb⟩
     try (go_simp)
     have zO:W1.heap.size<=U4.heap.size:=BL4.out.size;have BL5:=aq (BL4.out.trans (hb.mono BL4.out.size));replace P9:=aq (P9.out.below hb);replace BZ:=aq (BZ.out.below hb);have OX:=aq own;clear own hb;unfold slv;refine hK.out _ _ (by obtain⟨_,q0,q1,q2,q3,q4,q5,_⟩:=BS.out.below BL5.out;exact⟨q0,q1,q2,q3,q4,q5,BL5⟩) (fun hHeldb84=>?_);clear hK K hHeldb83
     try simp only [sZ]
     refine tk 7 ?_;refine tk 8 ?_;refine tk 9 ?_;refine rdH 11 fun K hK=>?_;obtain⟨_,z0,z1,z2,z3,z4,z5,zf⟩:=BZ.out;have zf0:=zf 0;have zf1:=zf 1;have zf2:=zf 2;have zf3:=zf 3;have zf4:=zf 4;have zf5:=zf 5;clear zf;go_simp;obtain⟨U6,hU⟩:∃ U,U=put6 U5 (V0.heap.size) (.int .i64 X9.seg) (.slice A2.w X9.words.length A2.cw) (.slice A2.k X9.keys.length A2.ck) (.slice A2.v X9.vals.length A2.cv) (.slice A2.c X9.counts.length A2.cc) (.int .u64 (X9.laid:Int)):=⟨_,rfl⟩;have BY:=aq (show Box U6 (V0.heap.size) X9 A2 by rw [hU];exact BZ.out.put6 X9 A2);have OY:=aq (show Own U6 W1.heap.size X9 A2 by rw [hU];exact (show Own _ _ X9 A2 from⟨OX.out.words.put6 (by omega) _ _ _ _ _ _,OX.out.keys.put6 (by omega) _ _ _ _ _ _,OX.out.vals.put6 (by omega) _ _ _ _ _ _,OX.out.counts.put6 (by omega) _ _ _ _ _ _,OX.out.caps⟩).lower zO);have BL6:=aq (show Below W1.heap.size W1 U6 by rw [hU];exact below_put6 BL5.out (by have:=BL5.out.size;omega) _ _ _ _ _ _);unfold put6 at hU
     first | rw [<-hU] | skip
     clear hU z0 z1 z2 z3 z4 z5 zf0 zf1 zf2 zf3 zf4 zf5 BZ OX;refine hK.out _ _ (by obtain⟨_,q0,q1,q2,q3,q4,q5,_⟩:=BS.out.below BL6.out;exact⟨q0,q1,q2,q3,q4,q5,BL6⟩) (fun hHeldb88=>?_);clear hK K hHeldb84
     try simp only [sZ]
     refine tk 12 ?_;refine wpAnyH_done (by kernel_rfl) ?_ _
     go_wp2_with fail
     go_meet
     exact⟨rfl,BL6.out⟩
    case rest =>
     as_aux_lemma =>
     obtain⟨rfl,hb⟩:=hcut;replace BB:=aq (BB.out.trans (hb.mono BB.out.size));replace BS:=aq (BS.out.below hb);replace HS:=aq (HS.out.below hb);replace TB:=aq (TB.out.below hb);replace BX:=aq (BX.out.below hb);replace HX:=aq (HX.out.below hb);clear hb  C9 PL;obtain⟨W2,hW1⟩:∃ V,V=wc:=⟨_,rfl⟩;rw [<-hW1] at BB BS HS TB BX HX ⊢;clear hW1
     go_upto_region 9 with (fail)
     go_cut [9,10] from 52 (fun s9 s10 wx=>s10=.int .i64 9/\Below W2.heap.size W2 wx)
     case first =>
      as_aux_lemma =>
      refine wp_region_held_drew (S:=fun w'=>w'.cell? ⟨Bx,0,none⟩=some (.int .i64 SX.seg)/\w'.cell? ⟨Bx,1,none⟩=some (.slice Ax.w SX.words.length Ax.cw)/\w'.cell? ⟨Bx,2,none⟩=some (.slice Ax.k SX.keys.length Ax.ck)/\w'.cell? ⟨Bx,3,none⟩=some (.slice Ax.v SX.vals.length Ax.cv)/\w'.cell? ⟨Bx,4,none⟩=some (.slice Ax.c SX.counts.length Ax.cc)/\w'.cell? ⟨Bx,5,none⟩=some (.int .u64 (SX.laid:Int))/\Hid (Below W2.heap.size W2 w')) (by kernel_rfl) (by obtain⟨_,q0,q1,q2,q3,q4,q5,_⟩:=BX.out.below ((Below.refl _ _).drew);exact⟨q0,q1,q2,q3,q4,q5,aq ((Below.refl _ _).drew)⟩) (fun hHeld=>?_);have BL0:=aq (show Below W2.heap.size W2 W2.drew from (Below.refl _ _).drew);obtain⟨V0,hV0⟩:∃ V,V=W2.drew:=⟨_,rfl⟩;rw [<-hV0] at BL0 hHeld ⊢;clear hV0;refine tk 1 ?_;refine tk 2 ?_;refine wpAnyH_ready (rs:=[0,7]) (by kernel_rfl) (by simp) ?_;refine cH (fun K hK=>?_) ?_
      ·skip
       go_simp;refine (l9Chapter _).mono ?_;rintro e U1 ⟨rfl,hb⟩
       try (go_simp)
       have BL1:=aq (BL0.out.trans (hb.mono BL0.out.size));clear hb
       try unfold cfv
       refine hK.out _ _ (by obtain⟨_,q0,q1,q2,q3,q4,q5,_⟩:=BX.out.below BL1.out;exact⟨q0,q1,q2,q3,q4,q5,BL1⟩) (fun hHeldc2=>?_);clear hK K hHeld
       try simp only [sZ]
       refine wpAnyH_ready (rs:=[3,7]) (by kernel_rfl) (by simp) ?_;refine cH (fun K hK=>?_) ?_
       ·skip
        go_simp;refine (CP.out Ax U1 (HX.out.below BL1.out) (TB.out.below BL1.out)).mono ?_;rintro e U2 ⟨A2,rfl,own,hb⟩
        try (go_simp)
        have zO:W2.heap.size<=U1.heap.size:=BL1.out.size;have BL2:=aq (BL1.out.trans (hb.mono BL1.out.size));have OX:=aq own;clear own hb;unfold slv;refine hK.out _ _ (by obtain⟨_,q0,q1,q2,q3,q4,q5,_⟩:=BX.out.below BL2.out;exact⟨q0,q1,q2,q3,q4,q5,BL2⟩) (fun hHeldc3=>?_);clear hK K hHeldc2
        try simp only [sZ]
        refine tk 4 ?_;refine tk 5 ?_;refine tk 6 ?_;refine rdH 7 fun K hK=>?_;go_simp;obtain⟨U3,hU⟩:∃ U,U=U2.alloc (.cells #[.int .i64 0,.slice none 0 0,.slice none 0 0,.slice none 0 0,.slice none 0 0,.int .u64 0] 27):=⟨_,rfl⟩
        have hb:Below U2.heap.size U2 U3:=by rw [hU];exact (Below.refl _ _).alloc (Nat.le_refl _) _
        have BL3:=aq (BL2.out.trans (hb.mono BL2.out.size));have OXP:=aq OX.out;replace OX:=aq (OX.out.below hb);have BZ:=aq (show Box U3 U2.heap.size Sl.none adsNone by rw [hU];exact Box.new U2 Sl.none adsNone 27);rw [<-hU];have hbz:=aq hb;clear hU hb;have zB:W2.heap.size<=U2.heap.size:=BL2.out.size;refine hK.out _ _ (by obtain⟨_,q0,q1,q2,q3,q4,q5,_⟩:=BX.out.below BL3.out;exact⟨q0,q1,q2,q3,q4,q5,BL3⟩) (fun hHeldc7=>?_);clear hK K hHeldc3
        try simp only [sZ]
        refine rdH 8 fun K hK=>?_;obtain⟨_,z0,z1,z2,z3,z4,z5,zf⟩:=BZ.out;have zf0:=zf 0;have zf1:=zf 1;have zf2:=zf 2;have zf3:=zf 3;have zf4:=zf 4;have zf5:=zf 5;clear zf;go_simp;obtain⟨U4,hU⟩:∃ U,U=put6 U3 (U2.heap.size) (.int .i64 XP.seg) (.slice A2.w XP.words.length A2.cw) (.slice A2.k XP.keys.length A2.ck) (.slice A2.v XP.vals.length A2.cv) (.slice A2.c XP.counts.length A2.cc) (.int .u64 (XP.laid:Int)):=⟨_,rfl⟩;have BY:=aq (show Box U4 (U2.heap.size) XP A2 by rw [hU];exact BZ.out.put6 XP A2);have OY:=aq (show Own U4 W2.heap.size XP A2 by rw [hU];exact (OXP.out.below (below_put6 hbz.out (Nat.le_refl _) _ _ _ _ _ _)).lower zO);have BL4:=aq (show Below W2.heap.size W2 U4 by rw [hU];exact below_put6 BL3.out (by have:=BL3.out.size;omega) _ _ _ _ _ _);unfold put6 at hU
        first | rw [<-hU] | skip
        clear hU z0 z1 z2 z3 z4 z5 zf0 zf1 zf2 zf3 zf4 zf5 BZ OX;refine hK.out _ _ (by obtain⟨_,q0,q1,q2,q3,q4,q5,_⟩:=BX.out.below BL4.out;exact⟨q0,q1,q2,q3,q4,q5,BL4⟩) (fun hHeldc8=>?_);clear hK K hHeldc7
        try simp only [sZ]
        refine tk 9 ?_;refine wpAnyH_done (by kernel_rfl) ?_ _
        go_wp2_with fail
        go_meet
        exact⟨rfl,BL4.out⟩
       refine cH (fun K hK=>?_) AllReadyH.nil;go_simp;obtain⟨U2,hU⟩:∃ U,U=U1.alloc (.cells #[.int .i64 0,.slice none 0 0,.slice none 0 0,.slice none 0 0,.slice none 0 0,.int .u64 0] 27):=⟨_,rfl⟩
       have hb:Below U1.heap.size U1 U2:=by rw [hU];exact (Below.refl _ _).alloc (Nat.le_refl _) _
       have BL2:=aq (BL1.out.trans (hb.mono BL1.out.size));have BZ:=aq (show Box U2 U1.heap.size Sl.none adsNone by rw [hU];exact Box.new U1 Sl.none adsNone 27);rw [<-hU];skip;clear hU hb;have zB:W2.heap.size<=U1.heap.size:=BL1.out.size;refine hK.out _ _ (by obtain⟨_,q0,q1,q2,q3,q4,q5,_⟩:=BX.out.below BL2.out;exact⟨q0,q1,q2,q3,q4,q5,BL2⟩) (fun hHeldc10=>?_);clear hK K hHeldc2
       try simp only [sZ]
       refine rdH 3 fun K hK=>?_;have zc:=BZ.out.lt;go_simp;refine (CP.out Ax U2 (HX.out.below BL2.out) (TB.out.below BL2.out)).mono ?_;rintro e U3 ⟨A2,rfl,own,hb⟩
       try (go_simp)
       have zO:W2.heap.size<=U2.heap.size:=BL2.out.size;have BL3:=aq (BL2.out.trans (hb.mono BL2.out.size));replace BZ:=aq (BZ.out.below hb);have OX:=aq own;clear own hb;unfold slv;refine hK.out _ _ (by obtain⟨_,q0,q1,q2,q3,q4,q5,_⟩:=BX.out.below BL3.out;exact⟨q0,q1,q2,q3,q4,q5,BL3⟩) (fun hHeldc11=>?_);clear hK K hHeldc10
       try simp only [sZ]
       refine tk 4 ?_;refine tk 5 ?_;refine tk 6 ?_;refine rdH 8 fun K hK=>?_;obtain⟨_,z0,z1,z2,z3,z4,z5,zf⟩:=BZ.out;have zf0:=zf 0;have zf1:=zf 1;have zf2:=zf 2;have zf3:=zf 3;have zf4:=zf 4;have zf5:=zf 5;clear zf;go_simp;obtain⟨U4,hU⟩:∃ U,U=put6 U3 (U1.heap.size) (.int .i64 XP.seg) (.slice A2.w XP.words.length A2.cw) (.slice A2.k XP.keys.length A2.ck) (.slice A2.v XP.vals.length A2.cv) (.slice A2.c XP.counts.length A2.cc) (.int .u64 (XP.laid:Int)):=⟨_,rfl⟩;have BY:=aq (show Box U4 (U1.heap.size) XP A2 by rw [hU];exact BZ.out.put6 XP A2);have OY:=aq (show Own U4 W2.heap.size XP A2 by rw [hU];exact (show Own _ _ XP A2 from⟨OX.out.words.put6 (by omega) _ _ _ _ _ _,OX.out.keys.put6 (by omega) _ _ _ _ _ _,OX.out.vals.put6 (by omega) _ _ _ _ _ _,OX.out.counts.put6 (by omega) _ _ _ _ _ _,OX.out.caps⟩).lower zO);have BL4:=aq (show Below W2.heap.size W2 U4 by rw [hU];exact below_put6 BL3.out (by have:=BL3.out.size;omega) _ _ _ _ _ _);unfold put6 at hU
       first | rw [<-hU] | skip
       clear hU z0 z1 z2 z3 z4 z5 zf0 zf1 zf2 zf3 zf4 zf5 BZ OX;refine hK.out _ _ (by obtain⟨_,q0,q1,q2,q3,q4,q5,_⟩:=BX.out.below BL4.out;exact⟨q0,q1,q2,q3,q4,q5,BL4⟩) (fun hHeldc15=>?_);clear hK K hHeldc11
       try simp only [sZ]
       refine tk 9 ?_;refine wpAnyH_done (by kernel_rfl) ?_ _
       go_wp2_with fail
       go_meet
       exact⟨rfl,BL4.out⟩
      refine cH (fun K hK=>?_) AllReadyH.nil;go_simp;obtain⟨U1,hU⟩:∃ U,U=V0.alloc (.cells #[.int .i64 0,.slice none 0 0,.slice none 0 0,.slice none 0 0,.slice none 0 0,.int .u64 0] 27):=⟨_,rfl⟩
      have hb:Below V0.heap.size V0 U1:=by rw [hU];exact (Below.refl _ _).alloc (Nat.le_refl _) _
      have BL1:=aq (BL0.out.trans (hb.mono BL0.out.size));have BZ:=aq (show Box U1 V0.heap.size Sl.none adsNone by rw [hU];exact Box.new V0 Sl.none adsNone 27);rw [<-hU];skip;clear hU hb;have zB:W2.heap.size<=V0.heap.size:=BL0.out.size;refine hK.out _ _ (by obtain⟨_,q0,q1,q2,q3,q4,q5,_⟩:=BX.out.below BL1.out;exact⟨q0,q1,q2,q3,q4,q5,BL1⟩) (fun hHeldc17=>?_);clear hK K hHeld
      try simp only [sZ]
      refine rdH 0 fun K hK=>?_;go_simp;refine (l9Chapter _).mono ?_;rintro e U2 ⟨rfl,hb⟩
      try (go_simp)
      have BL2:=aq (BL1.out.trans (hb.mono BL1.out.size));replace BZ:=aq (BZ.out.below hb);clear hb
      try unfold cfv
      refine hK.out _ _ (by obtain⟨_,q0,q1,q2,q3,q4,q5,_⟩:=BX.out.below BL2.out;exact⟨q0,q1,q2,q3,q4,q5,BL2⟩) (fun hHeldc18=>?_);clear hK K hHeldc17
      try simp only [sZ]
      refine rdH 3 fun K hK=>?_;have zc:=BZ.out.lt;go_simp;refine (CP.out Ax U2 (HX.out.below BL2.out) (TB.out.below BL2.out)).mono ?_;rintro e U3 ⟨A2,rfl,own,hb⟩
      try (go_simp)
      have zO:W2.heap.size<=U2.heap.size:=BL2.out.size;have BL3:=aq (BL2.out.trans (hb.mono BL2.out.size));replace BZ:=aq (BZ.out.below hb);have OX:=aq own;clear own hb;unfold slv;refine hK.out _ _ (by obtain⟨_,q0,q1,q2,q3,q4,q5,_⟩:=BX.out.below BL3.out;exact⟨q0,q1,q2,q3,q4,q5,BL3⟩) (fun hHeldc19=>?_);clear hK K hHeldc18
      try simp only [sZ]
      refine tk 4 ?_;refine tk 5 ?_;refine tk 6 ?_;refine rdH 8 fun K hK=>?_;obtain⟨_,z0,z1,z2,z3,z4,z5,zf⟩:=BZ.out;have zf0:=zf 0;have zf1:=zf 1;have zf2:=zf 2;have zf3:=zf 3;have zf4:=zf 4;have zf5:=zf 5;clear zf;go_simp;obtain⟨U4,hU⟩:∃ U,U=put6 U3 (V0.heap.size) (.int .i64 XP.seg) (.slice A2.w XP.words.length A2.cw) (.slice A2.k XP.keys.length A2.ck) (.slice A2.v XP.vals.length A2.cv) (.slice A2.c XP.counts.length A2.cc) (.int .u64 (XP.laid:Int)):=⟨_,rfl⟩;have BY:=aq (show Box U4 (V0.heap.size) XP A2 by rw [hU];exact BZ.out.put6 XP A2);have OY:=aq (show Own U4 W2.heap.size XP A2 by rw [hU];exact (show Own _ _ XP A2 from⟨OX.out.words.put6 (by omega) _ _ _ _ _ _,OX.out.keys.put6 (by omega) _ _ _ _ _ _,OX.out.vals.put6 (by omega) _ _ _ _ _ _,OX.out.counts.put6 (by omega) _ _ _ _ _ _,OX.out.caps⟩).lower zO);have BL4:=aq (show Below W2.heap.size W2 U4 by rw [hU];exact below_put6 BL3.out (by have:=BL3.out.size;omega) _ _ _ _ _ _);unfold put6 at hU
      first | rw [<-hU] | skip
      clear hU z0 z1 z2 z3 z4 z5 zf0 zf1 zf2 zf3 zf4 zf5 BZ OX;refine hK.out _ _ (by obtain⟨_,q0,q1,q2,q3,q4,q5,_⟩:=BX.out.below BL4.out;exact⟨q0,q1,q2,q3,q4,q5,BL4⟩) (fun hHeldc23=>?_);clear hK K hHeldc19
      try simp only [sZ]
      refine tk 9 ?_;refine wpAnyH_done (by kernel_rfl) ?_ _
      go_wp2_with fail
      go_meet
      exact⟨rfl,BL4.out⟩
     case rest =>
      as_aux_lemma =>
      obtain⟨rfl,hb⟩:=hcut;replace BB:=aq (BB.out.trans (hb.mono BB.out.size));replace BS:=aq (BS.out.below hb);replace HS:=aq (HS.out.below hb);replace TB:=aq (TB.out.below hb);replace BX:=aq (BX.out.below hb);replace HX:=aq (HX.out.below hb);clear hb  CP;obtain⟨W3,hW1⟩:∃ V,V=wc:=⟨_,rfl⟩;rw [<-hW1] at BB BS HS TB BX HX ⊢;clear hW1
      go_upto_region 10 with (fail)
      go_cut [11,12] from 59 (fun s11 s12 wx=>s12=.int .i64 2/\Below W3.heap.size W3 wx)
      case first =>
       as_aux_lemma =>
       refine wp_region_held_drew (S:=fun w'=>w'.cell? ⟨w2.heap.size,0,none⟩=some (.int .i64 SS.seg)/\w'.cell? ⟨w2.heap.size,1,none⟩=some (.slice A0.w SS.words.length A0.cw)/\w'.cell? ⟨w2.heap.size,2,none⟩=some (.slice A0.k SS.keys.length A0.ck)/\w'.cell? ⟨w2.heap.size,3,none⟩=some (.slice A0.v SS.vals.length A0.cv)/\w'.cell? ⟨w2.heap.size,4,none⟩=some (.slice A0.c SS.counts.length A0.cc)/\w'.cell? ⟨w2.heap.size,5,none⟩=some (.int .u64 (SS.laid:Int))/\Hid (Below W3.heap.size W3 w')) (by kernel_rfl) (by obtain⟨_,q0,q1,q2,q3,q4,q5,_⟩:=BS.out.below ((Below.refl _ _).drew);exact⟨q0,q1,q2,q3,q4,q5,aq ((Below.refl _ _).drew)⟩) (fun hHeld=>?_);have BL0:=aq (show Below W3.heap.size W3 W3.drew from (Below.refl _ _).drew);obtain⟨V0,hV0⟩:∃ V,V=W3.drew:=⟨_,rfl⟩;rw [<-hV0] at BL0 hHeld ⊢;clear hV0;refine tk 1 ?_;refine tk 2 ?_;refine wpAnyH_ready (rs:=[0,7]) (by kernel_rfl) (by simp) ?_;refine cH (fun K hK=>?_) ?_
       ·skip
        go_simp;refine (l9Chapter _).mono ?_;rintro e U1 ⟨rfl,hb⟩
        try (go_simp)
        have BL1:=aq (BL0.out.trans (hb.mono BL0.out.size));clear hb
        try unfold cfv
        refine hK.out _ _ (by obtain⟨_,q0,q1,q2,q3,q4,q5,_⟩:=BS.out.below BL1.out;exact⟨q0,q1,q2,q3,q4,q5,BL1⟩) (fun hHeldd2=>?_);clear hK K hHeld
        try simp only [sZ]
        refine wpAnyH_ready (rs:=[3,7]) (by kernel_rfl) (by simp) ?_;refine cH (fun K hK=>?_) ?_
        ·skip
         go_simp;refine (CQ.out A0 U1 (HS.out.below BL1.out) (TB.out.below BL1.out)).mono ?_;rintro e U2 ⟨A2,rfl,own,hb⟩
         try (go_simp)
         have zO:W3.heap.size<=U1.heap.size:=BL1.out.size;have BL2:=aq (BL1.out.trans (hb.mono BL1.out.size));have OX:=aq own;clear own hb;unfold slv;refine hK.out _ _ (by obtain⟨_,q0,q1,q2,q3,q4,q5,_⟩:=BS.out.below BL2.out;exact⟨q0,q1,q2,q3,q4,q5,BL2⟩) (fun hHeldd3=>?_);clear hK K hHeldd2
         try simp only [sZ]
         refine tk 4 ?_;refine tk 5 ?_;refine tk 6 ?_;refine rdH 7 fun K hK=>?_;go_simp;obtain⟨U3,hU⟩:∃ U,U=U2.alloc (.cells #[.int .i64 0,.slice none 0 0,.slice none 0 0,.slice none 0 0,.slice none 0 0,.int .u64 0] 27):=⟨_,rfl⟩
         have hb:Below U2.heap.size U2 U3:=by rw [hU];exact (Below.refl _ _).alloc (Nat.le_refl _) _
         have BL3:=aq (BL2.out.trans (hb.mono BL2.out.size));have OXP:=aq OX.out;replace OX:=aq (OX.out.below hb);have BZ:=aq (show Box U3 U2.heap.size Sl.none adsNone by rw [hU];exact Box.new U2 Sl.none adsNone 27);rw [<-hU];have hbz:=aq hb;clear hU hb;have zB:W3.heap.size<=U2.heap.size:=BL2.out.size;refine hK.out _ _ (by obtain⟨_,q0,q1,q2,q3,q4,q5,_⟩:=BS.out.below BL3.out;exact⟨q0,q1,q2,q3,q4,q5,BL3⟩) (fun hHeldd7=>?_);clear hK K hHeldd3
         try simp only [sZ]
         refine rdH 8 fun K hK=>?_;obtain⟨_,z0,z1,z2,z3,z4,z5,zf⟩:=BZ.out;have zf0:=zf 0;have zf1:=zf 1;have zf2:=zf 2;have zf3:=zf 3;have zf4:=zf 4;have zf5:=zf 5;clear zf;go_simp;obtain⟨U4,hU⟩:∃ U,U=put6 U3 (U2.heap.size) (.int .i64 XQ.seg) (.slice A2.w XQ.words.length A2.cw) (.slice A2.k XQ.keys.length A2.ck) (.slice A2.v XQ.vals.length A2.cv) (.slice A2.c XQ.counts.length A2.cc) (.int .u64 (XQ.laid:Int)):=⟨_,rfl⟩;have BY:=aq (show Box U4 (U2.heap.size) XQ A2 by rw [hU];exact BZ.out.put6 XQ A2);have OY:=aq (show Own U4 W3.heap.size XQ A2 by rw [hU];exact (OXP.out.below (below_put6 hbz.out (Nat.le_refl _) _ _ _ _ _ _)).lower zO);have BL4:=aq (show Below W3.heap.size W3 U4 by rw [hU];exact below_put6 BL3.out (by have:=BL3.out.size;omega) _ _ _ _ _ _);unfold put6 at hU
         first | rw [<-hU] | skip
         clear hU z0 z1 z2 z3 z4 z5 zf0 zf1 zf2 zf3 zf4 zf5 BZ OX;refine hK.out _ _ (by obtain⟨_,q0,q1,q2,q3,q4,q5,_⟩:=BS.out.below BL4.out;exact⟨q0,q1,q2,q3,q4,q5,BL4⟩) (fun hHeldd8=>?_);clear hK K hHeldd7
         try simp only [sZ]
         refine tk 9 ?_;refine wpAnyH_done (by kernel_rfl) ?_ _
         go_wp2_with fail
         go_meet
         exact⟨rfl,BL4.out⟩
        refine cH (fun K hK=>?_) AllReadyH.nil;go_simp;obtain⟨U2,hU⟩:∃ U,U=U1.alloc (.cells #[.int .i64 0,.slice none 0 0,.slice none 0 0,.slice none 0 0,.slice none 0 0,.int .u64 0] 27):=⟨_,rfl⟩
        have hb:Below U1.heap.size U1 U2:=by rw [hU];exact (Below.refl _ _).alloc (Nat.le_refl _) _
        have BL2:=aq (BL1.out.trans (hb.mono BL1.out.size));have BZ:=aq (show Box U2 U1.heap.size Sl.none adsNone by rw [hU];exact Box.new U1 Sl.none adsNone 27);rw [<-hU];skip;clear hU hb;have zB:W3.heap.size<=U1.heap.size:=BL1.out.size;refine hK.out _ _ (by obtain⟨_,q0,q1,q2,q3,q4,q5,_⟩:=BS.out.below BL2.out;exact⟨q0,q1,q2,q3,q4,q5,BL2⟩) (fun hHeldd10=>?_);clear hK K hHeldd2
        try simp only [sZ]
        refine rdH 3 fun K hK=>?_;have zc:=BZ.out.lt;go_simp;refine (CQ.out A0 U2 (HS.out.below BL2.out) (TB.out.below BL2.out)).mono ?_;rintro e U3 ⟨A2,rfl,own,hb⟩
        try (go_simp)
        have zO:W3.heap.size<=U2.heap.size:=BL2.out.size;have BL3:=aq (BL2.out.trans (hb.mono BL2.out.size));replace BZ:=aq (BZ.out.below hb);have OX:=aq own;clear own hb;unfold slv;refine hK.out _ _ (by obtain⟨_,q0,q1,q2,q3,q4,q5,_⟩:=BS.out.below BL3.out;exact⟨q0,q1,q2,q3,q4,q5,BL3⟩) (fun hHeldd11=>?_);clear hK K hHeldd10
        try simp only [sZ]
        refine tk 4 ?_;refine tk 5 ?_;refine tk 6 ?_;refine rdH 8 fun K hK=>?_;obtain⟨_,z0,z1,z2,z3,z4,z5,zf⟩:=BZ.out;have zf0:=zf 0;have zf1:=zf 1;have zf2:=zf 2;have zf3:=zf 3;have zf4:=zf 4;have zf5:=zf 5;clear zf;go_simp;obtain⟨U4,hU⟩:∃ U,U=put6 U3 (U1.heap.size) (.int .i64 XQ.seg) (.slice A2.w XQ.words.length A2.cw) (.slice A2.k XQ.keys.length A2.ck) (.slice A2.v XQ.vals.length A2.cv) (.slice A2.c XQ.counts.length A2.cc) (.int .u64 (XQ.laid:Int)):=⟨_,rfl⟩;have BY:=aq (show Box U4 (U1.heap.size) XQ A2 by rw [hU];exact BZ.out.put6 XQ A2);have OY:=aq (show Own U4 W3.heap.size XQ A2 by rw [hU];exact (show Own _ _ XQ A2 from⟨OX.out.words.put6 (by omega) _ _ _ _ _ _,OX.out.keys.put6 (by omega) _ _ _ _ _ _,OX.out.vals.put6 (by omega) _ _ _ _ _ _,OX.out.counts.put6 (by omega) _ _ _ _ _ _,OX.out.caps⟩).lower zO);have BL4:=aq (show Below W3.heap.size W3 U4 by rw [hU];exact below_put6 BL3.out (by have:=BL3.out.size;omega) _ _ _ _ _ _);unfold put6 at hU
        first | rw [<-hU] | skip
        clear hU z0 z1 z2 z3 z4 z5 zf0 zf1 zf2 zf3 zf4 zf5 BZ OX;refine hK.out _ _ (by obtain⟨_,q0,q1,q2,q3,q4,q5,_⟩:=BS.out.below BL4.out;exact⟨q0,q1,q2,q3,q4,q5,BL4⟩) (fun hHeldd15=>?_);clear hK K hHeldd11
        try simp only [sZ]
        refine tk 9 ?_;refine wpAnyH_done (by kernel_rfl) ?_ _
        go_wp2_with fail
        go_meet
        exact⟨rfl,BL4.out⟩
       refine cH (fun K hK=>?_) AllReadyH.nil;go_simp;obtain⟨U1,hU⟩:∃ U,U=V0.alloc (.cells #[.int .i64 0,.slice none 0 0,.slice none 0 0,.slice none 0 0,.slice none 0 0,.int .u64 0] 27):=⟨_,rfl⟩
       have hb:Below V0.heap.size V0 U1:=by rw [hU];exact (Below.refl _ _).alloc (Nat.le_refl _) _
       have BL1:=aq (BL0.out.trans (hb.mono BL0.out.size));have BZ:=aq (show Box U1 V0.heap.size Sl.none adsNone by rw [hU];exact Box.new V0 Sl.none adsNone 27);rw [<-hU];skip;clear hU hb;have zB:W3.heap.size<=V0.heap.size:=BL0.out.size;refine hK.out _ _ (by obtain⟨_,q0,q1,q2,q3,q4,q5,_⟩:=BS.out.below BL1.out;exact⟨q0,q1,q2,q3,q4,q5,BL1⟩) (fun hHeldd17=>?_);clear hK K hHeld
       try simp only [sZ]
       refine rdH 0 fun K hK=>?_;go_simp;refine (l9Chapter _).mono ?_;rintro e U2 ⟨rfl,hb⟩
       try (go_simp)
       have BL2:=aq (BL1.out.trans (hb.mono BL1.out.size));replace BZ:=aq (BZ.out.below hb);clear hb
       try unfold cfv
       refine hK.out _ _ (by obtain⟨_,q0,q1,q2,q3,q4,q5,_⟩:=BS.out.below BL2.out;exact⟨q0,q1,q2,q3,q4,q5,BL2⟩) (fun hHeldd18=>?_);clear hK K hHeldd17
       try simp only [sZ]
       refine rdH 3 fun K hK=>?_;have zc:=BZ.out.lt;go_simp;refine (CQ.out A0 U2 (HS.out.below BL2.out) (TB.out.below BL2.out)).mono ?_;rintro e U3 ⟨A2,rfl,own,hb⟩
       try (go_simp)
       have zO:W3.heap.size<=U2.heap.size:=BL2.out.size;have BL3:=aq (BL2.out.trans (hb.mono BL2.out.size));replace BZ:=aq (BZ.out.below hb);have OX:=aq own;clear own hb;unfold slv;refine hK.out _ _ (by obtain⟨_,q0,q1,q2,q3,q4,q5,_⟩:=BS.out.below BL3.out;exact⟨q0,q1,q2,q3,q4,q5,BL3⟩) (fun hHeldd19=>?_);clear hK K hHeldd18
       try simp only [sZ]
       refine tk 4 ?_;refine tk 5 ?_;refine tk 6 ?_;refine rdH 8 fun K hK=>?_;obtain⟨_,z0,z1,z2,z3,z4,z5,zf⟩:=BZ.out;have zf0:=zf 0;have zf1:=zf 1;have zf2:=zf 2;have zf3:=zf 3;have zf4:=zf 4;have zf5:=zf 5;clear zf;go_simp;obtain⟨U4,hU⟩:∃ U,U=put6 U3 (V0.heap.size) (.int .i64 XQ.seg) (.slice A2.w XQ.words.length A2.cw) (.slice A2.k XQ.keys.length A2.ck) (.slice A2.v XQ.vals.length A2.cv) (.slice A2.c XQ.counts.length A2.cc) (.int .u64 (XQ.laid:Int)):=⟨_,rfl⟩;have BY:=aq (show Box U4 (V0.heap.size) XQ A2 by rw [hU];exact BZ.out.put6 XQ A2);have OY:=aq (show Own U4 W3.heap.size XQ A2 by rw [hU];exact (show Own _ _ XQ A2 from⟨OX.out.words.put6 (by omega) _ _ _ _ _ _,OX.out.keys.put6 (by omega) _ _ _ _ _ _,OX.out.vals.put6 (by omega) _ _ _ _ _ _,OX.out.counts.put6 (by omega) _ _ _ _ _ _,OX.out.caps⟩).lower zO);have BL4:=aq (show Below W3.heap.size W3 U4 by rw [hU];exact below_put6 BL3.out (by have:=BL3.out.size;omega) _ _ _ _ _ _);unfold put6 at hU
       first | rw [<-hU] | skip
       clear hU z0 z1 z2 z3 z4 z5 zf0 zf1 zf2 zf3 zf4 zf5 BZ OX;refine hK.out _ _ (by obtain⟨_,q0,q1,q2,q3,q4,q5,_⟩:=BS.out.below BL4.out;exact⟨q0,q1,q2,q3,q4,q5,BL4⟩) (fun hHeldd23=>?_);clear hK K hHeldd19
       try simp only [sZ]
       refine tk 9 ?_;refine wpAnyH_done (by kernel_rfl) ?_ _
       go_wp2_with fail
       go_meet
       exact⟨rfl,BL4.out⟩
      case rest =>
       as_aux_lemma =>
       obtain⟨rfl,hb⟩:=hcut;replace BB:=aq (BB.out.trans (hb.mono BB.out.size));replace BS:=aq (BS.out.below hb);replace HS:=aq (HS.out.below hb);replace TB:=aq (TB.out.below hb);replace BX:=aq (BX.out.below hb);replace HX:=aq (HX.out.below hb);clear hb  CQ;obtain⟨W4,hW1⟩:∃ V,V=wc:=⟨_,rfl⟩;rw [<-hW1] at BB BS HS TB BX HX ⊢;clear hW1
       go_upto_region 11 with (fail)
       go_cut [13,14] from 66 (fun s13 s14 wx=>s14=.int .i64 2/\Below W4.heap.size W4 wx)
       case first =>
        as_aux_lemma =>
        refine wp_region_held_drew (S:=fun w'=>w'.cell? ⟨w2.heap.size,0,none⟩=some (.int .i64 SS.seg)/\w'.cell? ⟨w2.heap.size,1,none⟩=some (.slice A0.w SS.words.length A0.cw)/\w'.cell? ⟨w2.heap.size,2,none⟩=some (.slice A0.k SS.keys.length A0.ck)/\w'.cell? ⟨w2.heap.size,3,none⟩=some (.slice A0.v SS.vals.length A0.cv)/\w'.cell? ⟨w2.heap.size,4,none⟩=some (.slice A0.c SS.counts.length A0.cc)/\w'.cell? ⟨w2.heap.size,5,none⟩=some (.int .u64 (SS.laid:Int))/\Hid (Below W4.heap.size W4 w')) (by kernel_rfl) (by obtain⟨_,q0,q1,q2,q3,q4,q5,_⟩:=BS.out.below ((Below.refl _ _).drew);exact⟨q0,q1,q2,q3,q4,q5,aq ((Below.refl _ _).drew)⟩) (fun hHeld=>?_);have BL0:=aq (show Below W4.heap.size W4 W4.drew from (Below.refl _ _).drew);obtain⟨V0,hV0⟩:∃ V,V=W4.drew:=⟨_,rfl⟩;rw [<-hV0] at BL0 hHeld ⊢;clear hV0;refine tk 1 ?_;refine wpAnyH_ready (rs:=[0,6]) (by kernel_rfl) (by simp) ?_;refine cH (fun K hK=>?_) ?_
        ·skip
         go_simp;refine (l9Chapter _).mono ?_;rintro e U1 ⟨rfl,hb⟩
         try (go_simp)
         have BL1:=aq (BL0.out.trans (hb.mono BL0.out.size));clear hb
         try unfold cfv
         refine hK.out _ _ (by obtain⟨_,q0,q1,q2,q3,q4,q5,_⟩:=BS.out.below BL1.out;exact⟨q0,q1,q2,q3,q4,q5,BL1⟩) (fun hHelde1=>?_);clear hK K hHeld
         try simp only [sZ]
         refine wpAnyH_ready (rs:=[2,6]) (by kernel_rfl) (by simp) ?_;refine cH (fun K hK=>?_) ?_
         ·skip
          go_simp;refine (CT.out A0 U1 (HS.out.below BL1.out) (TB.out.below BL1.out)).mono ?_;rintro e U2 ⟨A2,rfl,own,hb⟩
          try (go_simp)
          have zO:W4.heap.size<=U1.heap.size:=BL1.out.size;have BL2:=aq (BL1.out.trans (hb.mono BL1.out.size));have OX:=aq own;clear own hb;unfold slv;refine hK.out _ _ (by obtain⟨_,q0,q1,q2,q3,q4,q5,_⟩:=BS.out.below BL2.out;exact⟨q0,q1,q2,q3,q4,q5,BL2⟩) (fun hHelde2=>?_);clear hK K hHelde1
          try simp only [sZ]
          refine tk 3 ?_;refine tk 4 ?_;refine tk 5 ?_;refine rdH 6 fun K hK=>?_;go_simp;obtain⟨U3,hU⟩:∃ U,U=U2.alloc (.cells #[.int .i64 0,.slice none 0 0,.slice none 0 0,.slice none 0 0,.slice none 0 0,.int .u64 0] 27):=⟨_,rfl⟩
          have hb:Below U2.heap.size U2 U3:=by rw [hU];exact (Below.refl _ _).alloc (Nat.le_refl _) _
          have BL3:=aq (BL2.out.trans (hb.mono BL2.out.size));have OXP:=aq OX.out;replace OX:=aq (OX.out.below hb);have BZ:=aq (show Box U3 U2.heap.size Sl.none adsNone by rw [hU];exact Box.new U2 Sl.none adsNone 27);rw [<-hU];have hbz:=aq hb;clear hU hb;have zB:W4.heap.size<=U2.heap.size:=BL2.out.size;refine hK.out _ _ (by obtain⟨_,q0,q1,q2,q3,q4,q5,_⟩:=BS.out.below BL3.out;exact⟨q0,q1,q2,q3,q4,q5,BL3⟩) (fun hHelde6=>?_);clear hK K hHelde2
          try simp only [sZ]
          refine rdH 7 fun K hK=>?_;obtain⟨_,z0,z1,z2,z3,z4,z5,zf⟩:=BZ.out;have zf0:=zf 0;have zf1:=zf 1;have zf2:=zf 2;have zf3:=zf 3;have zf4:=zf 4;have zf5:=zf 5;clear zf;go_simp;obtain⟨U4,hU⟩:∃ U,U=put6 U3 (U2.heap.size) (.int .i64 XT.seg) (.slice A2.w XT.words.length A2.cw) (.slice A2.k XT.keys.length A2.ck) (.slice A2.v XT.vals.length A2.cv) (.slice A2.c XT.counts.length A2.cc) (.int .u64 (XT.laid:Int)):=⟨_,rfl⟩;have BY:=aq (show Box U4 (U2.heap.size) XT A2 by rw [hU];exact BZ.out.put6 XT A2);have OY:=aq (show Own U4 W4.heap.size XT A2 by rw [hU];exact (OXP.out.below (below_put6 hbz.out (Nat.le_refl _) _ _ _ _ _ _)).lower zO);have BL4:=aq (show Below W4.heap.size W4 U4 by rw [hU];exact below_put6 BL3.out (by have:=BL3.out.size;omega) _ _ _ _ _ _);unfold put6 at hU
          first | rw [<-hU] | skip
          clear hU z0 z1 z2 z3 z4 z5 zf0 zf1 zf2 zf3 zf4 zf5 BZ OX;refine hK.out _ _ (by obtain⟨_,q0,q1,q2,q3,q4,q5,_⟩:=BS.out.below BL4.out;exact⟨q0,q1,q2,q3,q4,q5,BL4⟩) (fun hHelde7=>?_);clear hK K hHelde6
          try simp only [sZ]
          refine tk 8 ?_;refine wpAnyH_done (by kernel_rfl) ?_ _
          go_wp2_with fail
          go_meet
          exact⟨rfl,BL4.out⟩
         refine cH (fun K hK=>?_) AllReadyH.nil;go_simp;obtain⟨U2,hU⟩:∃ U,U=U1.alloc (.cells #[.int .i64 0,.slice none 0 0,.slice none 0 0,.slice none 0 0,.slice none 0 0,.int .u64 0] 27):=⟨_,rfl⟩
         have hb:Below U1.heap.size U1 U2:=by rw [hU];exact (Below.refl _ _).alloc (Nat.le_refl _) _
         have BL2:=aq (BL1.out.trans (hb.mono BL1.out.size));have BZ:=aq (show Box U2 U1.heap.size Sl.none adsNone by rw [hU];exact Box.new U1 Sl.none adsNone 27);rw [<-hU];skip;clear hU hb;have zB:W4.heap.size<=U1.heap.size:=BL1.out.size;refine hK.out _ _ (by obtain⟨_,q0,q1,q2,q3,q4,q5,_⟩:=BS.out.below BL2.out;exact⟨q0,q1,q2,q3,q4,q5,BL2⟩) (fun hHelde9=>?_);clear hK K hHelde1
         try simp only [sZ]
         refine rdH 2 fun K hK=>?_;have zc:=BZ.out.lt;go_simp;refine (CT.out A0 U2 (HS.out.below BL2.out) (TB.out.below BL2.out)).mono ?_;rintro e U3 ⟨A2,rfl,own,hb⟩
         try (go_simp)
         have zO:W4.heap.size<=U2.heap.size:=BL2.out.size;have BL3:=aq (BL2.out.trans (hb.mono BL2.out.size));replace BZ:=aq (BZ.out.below hb);have OX:=aq own;clear own hb;unfold slv;refine hK.out _ _ (by obtain⟨_,q0,q1,q2,q3,q4,q5,_⟩:=BS.out.below BL3.out;exact⟨q0,q1,q2,q3,q4,q5,BL3⟩) (fun hHelde10=>?_);clear hK K hHelde9
         try simp only [sZ]
         refine tk 3 ?_;refine tk 4 ?_;refine tk 5 ?_;refine rdH 7 fun K hK=>?_;obtain⟨_,z0,z1,z2,z3,z4,z5,zf⟩:=BZ.out;have zf0:=zf 0;have zf1:=zf 1;have zf2:=zf 2;have zf3:=zf 3;have zf4:=zf 4;have zf5:=zf 5;clear zf;go_simp;obtain⟨U4,hU⟩:∃ U,U=put6 U3 (U1.heap.size) (.int .i64 XT.seg) (.slice A2.w XT.words.length A2.cw) (.slice A2.k XT.keys.length A2.ck) (.slice A2.v XT.vals.length A2.cv) (.slice A2.c XT.counts.length A2.cc) (.int .u64 (XT.laid:Int)):=⟨_,rfl⟩;have BY:=aq (show Box U4 (U1.heap.size) XT A2 by rw [hU];exact BZ.out.put6 XT A2);have OY:=aq (show Own U4 W4.heap.size XT A2 by rw [hU];exact (show Own _ _ XT A2 from⟨OX.out.words.put6 (by omega) _ _ _ _ _ _,OX.out.keys.put6 (by omega) _ _ _ _ _ _,OX.out.vals.put6 (by omega) _ _ _ _ _ _,OX.out.counts.put6 (by omega) _ _ _ _ _ _,OX.out.caps⟩).lower zO);have BL4:=aq (show Below W4.heap.size W4 U4 by rw [hU];exact below_put6 BL3.out (by have:=BL3.out.size;omega) _ _ _ _ _ _);unfold put6 at hU
         first | rw [<-hU] | skip
         clear hU z0 z1 z2 z3 z4 z5 zf0 zf1 zf2 zf3 zf4 zf5 BZ OX;refine hK.out _ _ (by obtain⟨_,q0,q1,q2,q3,q4,q5,_⟩:=BS.out.below BL4.out;exact⟨q0,q1,q2,q3,q4,q5,BL4⟩) (fun hHelde14=>?_);clear hK K hHelde10
         try simp only [sZ]
         refine tk 8 ?_;refine wpAnyH_done (by kernel_rfl) ?_ _
         go_wp2_with fail
         go_meet
         exact⟨rfl,BL4.out⟩
        refine cH (fun K hK=>?_) AllReadyH.nil;go_simp;obtain⟨U1,hU⟩:∃ U,U=V0.alloc (.cells #[.int .i64 0,.slice none 0 0,.slice none 0 0,.slice none 0 0,.slice none 0 0,.int .u64 0] 27):=⟨_,rfl⟩
        have hb:Below V0.heap.size V0 U1:=by rw [hU];exact (Below.refl _ _).alloc (Nat.le_refl _) _
        have BL1:=aq (BL0.out.trans (hb.mono BL0.out.size));have BZ:=aq (show Box U1 V0.heap.size Sl.none adsNone by rw [hU];exact Box.new V0 Sl.none adsNone 27);rw [<-hU];skip;clear hU hb;have zB:W4.heap.size<=V0.heap.size:=BL0.out.size;refine hK.out _ _ (by obtain⟨_,q0,q1,q2,q3,q4,q5,_⟩:=BS.out.below BL1.out;exact⟨q0,q1,q2,q3,q4,q5,BL1⟩) (fun hHelde16=>?_);clear hK K hHeld
        try simp only [sZ]
        refine rdH 0 fun K hK=>?_;go_simp;refine (l9Chapter _).mono ?_;rintro e U2 ⟨rfl,hb⟩
        try (go_simp)
        have BL2:=aq (BL1.out.trans (hb.mono BL1.out.size));replace BZ:=aq (BZ.out.below hb);clear hb
        try unfold cfv
        refine hK.out _ _ (by obtain⟨_,q0,q1,q2,q3,q4,q5,_⟩:=BS.out.below BL2.out;exact⟨q0,q1,q2,q3,q4,q5,BL2⟩) (fun hHelde17=>?_);clear hK K hHelde16
        try simp only [sZ]
        refine rdH 2 fun K hK=>?_;have zc:=BZ.out.lt;go_simp;refine (CT.out A0 U2 (HS.out.below BL2.out) (TB.out.below BL2.out)).mono ?_;rintro e U3 ⟨A2,rfl,own,hb⟩
        try (go_simp)
        have zO:W4.heap.size<=U2.heap.size:=BL2.out.size;have BL3:=aq (BL2.out.trans (hb.mono BL2.out.size));replace BZ:=aq (BZ.out.below hb);have OX:=aq own;clear own hb;unfold slv;refine hK.out _ _ (by obtain⟨_,q0,q1,q2,q3,q4,q5,_⟩:=BS.out.below BL3.out;exact⟨q0,q1,q2,q3,q4,q5,BL3⟩) (fun hHelde18=>?_);clear hK K hHelde17
        try simp only [sZ]
        refine tk 3 ?_;refine tk 4 ?_;refine tk 5 ?_;refine rdH 7 fun K hK=>?_;obtain⟨_,z0,z1,z2,z3,z4,z5,zf⟩:=BZ.out;have zf0:=zf 0;have zf1:=zf 1;have zf2:=zf 2;have zf3:=zf 3;have zf4:=zf 4;have zf5:=zf 5;clear zf;go_simp;obtain⟨U4,hU⟩:∃ U,U=put6 U3 (V0.heap.size) (.int .i64 XT.seg) (.slice A2.w XT.words.length A2.cw) (.slice A2.k XT.keys.length A2.ck) (.slice A2.v XT.vals.length A2.cv) (.slice A2.c XT.counts.length A2.cc) (.int .u64 (XT.laid:Int)):=⟨_,rfl⟩;have BY:=aq (show Box U4 (V0.heap.size) XT A2 by rw [hU];exact BZ.out.put6 XT A2);have OY:=aq (show Own U4 W4.heap.size XT A2 by rw [hU];exact (show Own _ _ XT A2 from⟨OX.out.words.put6 (by omega) _ _ _ _ _ _,OX.out.keys.put6 (by omega) _ _ _ _ _ _,OX.out.vals.put6 (by omega) _ _ _ _ _ _,OX.out.counts.put6 (by omega) _ _ _ _ _ _,OX.out.caps⟩).lower zO);have BL4:=aq (show Below W4.heap.size W4 U4 by rw [hU];exact below_put6 BL3.out (by have:=BL3.out.size;omega) _ _ _ _ _ _);unfold put6 at hU
        first | rw [<-hU] | skip
        clear hU z0 z1 z2 z3 z4 z5 zf0 zf1 zf2 zf3 zf4 zf5 BZ OX;refine hK.out _ _ (by obtain⟨_,q0,q1,q2,q3,q4,q5,_⟩:=BS.out.below BL4.out;exact⟨q0,q1,q2,q3,q4,q5,BL4⟩) (fun hHelde22=>?_);clear hK K hHelde18
        try simp only [sZ]
        refine tk 8 ?_;refine wpAnyH_done (by kernel_rfl) ?_ _
        go_wp2_with fail
        go_meet
        exact⟨rfl,BL4.out⟩
       case rest =>
        as_aux_lemma =>
        obtain⟨rfl,hb⟩:=hcut;replace BB:=aq (BB.out.trans (hb.mono BB.out.size));replace TB:=aq (TB.out.below hb);replace BX:=aq (BX.out.below hb);replace HX:=aq (HX.out.below hb);clear hb  CT BS HS;obtain⟨W5,hW1⟩:∃ V,V=wc:=⟨_,rfl⟩;rw [<-hW1] at BB TB BX HX ⊢;clear hW1
        go_upto_region 12 with (fail)
        have zW5:w.heap.size<=W5.heap.size:=BB.out.size
        go_cut [15,16] from 72 (fun s15 s16 wx=>∃ B A,s15=.pointer (some ⟨B,0,none⟩)/\s16=.int .i64 0/\Box wx B SY A/\Own wx W5.heap.size SY A/\Below W5.heap.size W5 wx)
        case first =>
         as_aux_lemma =>
         refine wp_region_held_drew (S:=fun w'=>w'.cell? ⟨Bx,0,none⟩=some (.int .i64 SX.seg)/\w'.cell? ⟨Bx,1,none⟩=some (.slice Ax.w SX.words.length Ax.cw)/\w'.cell? ⟨Bx,2,none⟩=some (.slice Ax.k SX.keys.length Ax.ck)/\w'.cell? ⟨Bx,3,none⟩=some (.slice Ax.v SX.vals.length Ax.cv)/\w'.cell? ⟨Bx,4,none⟩=some (.slice Ax.c SX.counts.length Ax.cc)/\w'.cell? ⟨Bx,5,none⟩=some (.int .u64 (SX.laid:Int))/\Hid (Below W5.heap.size W5 w')) (by kernel_rfl) (by obtain⟨_,q0,q1,q2,q3,q4,q5,_⟩:=BX.out.below ((Below.refl _ _).drew);exact⟨q0,q1,q2,q3,q4,q5,aq ((Below.refl _ _).drew)⟩) (fun hHeld=>?_);have BL0:=aq (show Below W5.heap.size W5 W5.drew from (Below.refl _ _).drew);obtain⟨V0,hV0⟩:∃ V,V=W5.drew:=⟨_,rfl⟩;rw [<-hV0] at BL0 hHeld ⊢;clear hV0;refine tk 1 ?_;refine wpAnyH_ready (rs:=[0,6]) (by kernel_rfl) (by simp) ?_;refine cH (fun K hK=>?_) ?_
         ·skip
          go_simp;refine (l9Chapter _).mono ?_;rintro e U1 ⟨rfl,hb⟩
          try (go_simp)
          have BL1:=aq (BL0.out.trans (hb.mono BL0.out.size));clear hb
          try unfold cfv
          refine hK.out _ _ (by obtain⟨_,q0,q1,q2,q3,q4,q5,_⟩:=BX.out.below BL1.out;exact⟨q0,q1,q2,q3,q4,q5,BL1⟩) (fun hHeldf1=>?_);clear hK K hHeld
          try simp only [sZ]
          refine wpAnyH_ready (rs:=[2,6]) (by kernel_rfl) (by simp) ?_;refine cH (fun K hK=>?_) ?_
          ·skip
           go_simp;refine (CU.out Ax U1 (HX.out.below BL1.out) (TB.out.below BL1.out)).mono ?_;rintro e U2 ⟨A2,rfl,own,hb⟩
           try (go_simp)
           have zO:W5.heap.size<=U1.heap.size:=BL1.out.size;have BL2:=aq (BL1.out.trans (hb.mono BL1.out.size));have OX:=aq own;clear own hb;unfold slv;refine hK.out _ _ (by obtain⟨_,q0,q1,q2,q3,q4,q5,_⟩:=BX.out.below BL2.out;exact⟨q0,q1,q2,q3,q4,q5,BL2⟩) (fun hHeldf2=>?_);clear hK K hHeldf1
           try simp only [sZ]
           refine tk 3 ?_;refine tk 4 ?_;refine tk 5 ?_;refine rdH 6 fun K hK=>?_;go_simp;obtain⟨U3,hU⟩:∃ U,U=U2.alloc (.cells #[.int .i64 0,.slice none 0 0,.slice none 0 0,.slice none 0 0,.slice none 0 0,.int .u64 0] 27):=⟨_,rfl⟩
           have hb:Below U2.heap.size U2 U3:=by rw [hU];exact (Below.refl _ _).alloc (Nat.le_refl _) _
           have BL3:=aq (BL2.out.trans (hb.mono BL2.out.size));have OXP:=aq OX.out;replace OX:=aq (OX.out.below hb);have BZ:=aq (show Box U3 U2.heap.size Sl.none adsNone by rw [hU];exact Box.new U2 Sl.none adsNone 27);rw [<-hU];have hbz:=aq hb;clear hU hb;have zB:W5.heap.size<=U2.heap.size:=BL2.out.size;refine hK.out _ _ (by obtain⟨_,q0,q1,q2,q3,q4,q5,_⟩:=BX.out.below BL3.out;exact⟨q0,q1,q2,q3,q4,q5,BL3⟩) (fun hHeldf6=>?_);clear hK K hHeldf2
           try simp only [sZ]
           refine rdH 7 fun K hK=>?_;obtain⟨_,z0,z1,z2,z3,z4,z5,zf⟩:=BZ.out;have zf0:=zf 0;have zf1:=zf 1;have zf2:=zf 2;have zf3:=zf 3;have zf4:=zf 4;have zf5:=zf 5;clear zf;go_simp;obtain⟨U4,hU⟩:∃ U,U=put6 U3 (U2.heap.size) (.int .i64 SY.seg) (.slice A2.w SY.words.length A2.cw) (.slice A2.k SY.keys.length A2.ck) (.slice A2.v SY.vals.length A2.cv) (.slice A2.c SY.counts.length A2.cc) (.int .u64 (SY.laid:Int)):=⟨_,rfl⟩;have BY:=aq (show Box U4 (U2.heap.size) SY A2 by rw [hU];exact BZ.out.put6 SY A2);have OY:=aq (show Own U4 W5.heap.size SY A2 by rw [hU];exact (OXP.out.below (below_put6 hbz.out (Nat.le_refl _) _ _ _ _ _ _)).lower zO);have BL4:=aq (show Below W5.heap.size W5 U4 by rw [hU];exact below_put6 BL3.out (by have:=BL3.out.size;omega) _ _ _ _ _ _);unfold put6 at hU
           first | rw [<-hU] | skip
           clear hU z0 z1 z2 z3 z4 z5 zf0 zf1 zf2 zf3 zf4 zf5 BZ OX;refine hK.out _ _ (by obtain⟨_,q0,q1,q2,q3,q4,q5,_⟩:=BX.out.below BL4.out;exact⟨q0,q1,q2,q3,q4,q5,BL4⟩) (fun hHeldf7=>?_);clear hK K hHeldf6
           try simp only [sZ]
           refine tk 8 ?_;refine wpAnyH_done (by kernel_rfl) ?_ _
           go_wp2_with fail
           go_meet
           exact⟨_,_,rfl,rfl,BY.out,OY.out,BL4.out⟩
          refine cH (fun K hK=>?_) AllReadyH.nil;go_simp;obtain⟨U2,hU⟩:∃ U,U=U1.alloc (.cells #[.int .i64 0,.slice none 0 0,.slice none 0 0,.slice none 0 0,.slice none 0 0,.int .u64 0] 27):=⟨_,rfl⟩
          have hb:Below U1.heap.size U1 U2:=by rw [hU];exact (Below.refl _ _).alloc (Nat.le_refl _) _
          have BL2:=aq (BL1.out.trans (hb.mono BL1.out.size));have BZ:=aq (show Box U2 U1.heap.size Sl.none adsNone by rw [hU];exact Box.new U1 Sl.none adsNone 27);rw [<-hU];skip;clear hU hb;have zB:W5.heap.size<=U1.heap.size:=BL1.out.size;refine hK.out _ _ (by obtain⟨_,q0,q1,q2,q3,q4,q5,_⟩:=BX.out.below BL2.out;exact⟨q0,q1,q2,q3,q4,q5,BL2⟩) (fun hHeldf9=>?_);clear hK K hHeldf1
          try simp only [sZ]
          refine rdH 2 fun K hK=>?_;have zc:=BZ.out.lt;go_simp;refine (CU.out Ax U2 (HX.out.below BL2.out) (TB.out.below BL2.out)).mono ?_;rintro e U3 ⟨A2,rfl,own,hb⟩
          try (go_simp)
          have zO:W5.heap.size<=U2.heap.size:=BL2.out.size;have BL3:=aq (BL2.out.trans (hb.mono BL2.out.size));replace BZ:=aq (BZ.out.below hb);have OX:=aq own;clear own hb;unfold slv;refine hK.out _ _ (by obtain⟨_,q0,q1,q2,q3,q4,q5,_⟩:=BX.out.below BL3.out;exact⟨q0,q1,q2,q3,q4,q5,BL3⟩) (fun hHeldf10=>?_);clear hK K hHeldf9
          try simp only [sZ]
          refine tk 3 ?_;refine tk 4 ?_;refine tk 5 ?_;refine rdH 7 fun K hK=>?_;obtain⟨_,z0,z1,z2,z3,z4,z5,zf⟩:=BZ.out;have zf0:=zf 0;have zf1:=zf 1;have zf2:=zf 2;have zf3:=zf 3;have zf4:=zf 4;have zf5:=zf 5;clear zf;go_simp;obtain⟨U4,hU⟩:∃ U,U=put6 U3 (U1.heap.size) (.int .i64 SY.seg) (.slice A2.w SY.words.length A2.cw) (.slice A2.k SY.keys.length A2.ck) (.slice A2.v SY.vals.length A2.cv) (.slice A2.c SY.counts.length A2.cc) (.int .u64 (SY.laid:Int)):=⟨_,rfl⟩;have BY:=aq (show Box U4 (U1.heap.size) SY A2 by rw [hU];exact BZ.out.put6 SY A2);have OY:=aq (show Own U4 W5.heap.size SY A2 by rw [hU];exact (show Own _ _ SY A2 from⟨OX.out.words.put6 (by omega) _ _ _ _ _ _,OX.out.keys.put6 (by omega) _ _ _ _ _ _,OX.out.vals.put6 (by omega) _ _ _ _ _ _,OX.out.counts.put6 (by omega) _ _ _ _ _ _,OX.out.caps⟩).lower zO);have BL4:=aq (show Below W5.heap.size W5 U4 by rw [hU];exact below_put6 BL3.out (by have:=BL3.out.size;omega) _ _ _ _ _ _);unfold put6 at hU
          first | rw [<-hU] | skip
          clear hU z0 z1 z2 z3 z4 z5 zf0 zf1 zf2 zf3 zf4 zf5 BZ OX;refine hK.out _ _ (by obtain⟨_,q0,q1,q2,q3,q4,q5,_⟩:=BX.out.below BL4.out;exact⟨q0,q1,q2,q3,q4,q5,BL4⟩) (fun hHeldf14=>?_);clear hK K hHeldf10
          try simp only [sZ]
          refine tk 8 ?_;refine wpAnyH_done (by kernel_rfl) ?_ _
          go_wp2_with fail
          go_meet
          exact⟨_,_,rfl,rfl,BY.out,OY.out,BL4.out⟩
         refine cH (fun K hK=>?_) AllReadyH.nil;go_simp;obtain⟨U1,hU⟩:∃ U,U=V0.alloc (.cells #[.int .i64 0,.slice none 0 0,.slice none 0 0,.slice none 0 0,.slice none 0 0,.int .u64 0] 27):=⟨_,rfl⟩
         have hb:Below V0.heap.size V0 U1:=by rw [hU];exact (Below.refl _ _).alloc (Nat.le_refl _) _
         have BL1:=aq (BL0.out.trans (hb.mono BL0.out.size));have BZ:=aq (show Box U1 V0.heap.size Sl.none adsNone by rw [hU];exact Box.new V0 Sl.none adsNone 27);rw [<-hU];skip;clear hU hb;have zB:W5.heap.size<=V0.heap.size:=BL0.out.size;refine hK.out _ _ (by obtain⟨_,q0,q1,q2,q3,q4,q5,_⟩:=BX.out.below BL1.out;exact⟨q0,q1,q2,q3,q4,q5,BL1⟩) (fun hHeldf16=>?_);clear hK K hHeld
         try simp only [sZ]
         refine rdH 0 fun K hK=>?_;go_simp;refine (l9Chapter _).mono ?_;rintro e U2 ⟨rfl,hb⟩
         try (go_simp)
         have BL2:=aq (BL1.out.trans (hb.mono BL1.out.size));replace BZ:=aq (BZ.out.below hb);clear hb
         try unfold cfv
         refine hK.out _ _ (by obtain⟨_,q0,q1,q2,q3,q4,q5,_⟩:=BX.out.below BL2.out;exact⟨q0,q1,q2,q3,q4,q5,BL2⟩) (fun hHeldf17=>?_);clear hK K hHeldf16
         try simp only [sZ]
         refine rdH 2 fun K hK=>?_;have zc:=BZ.out.lt;go_simp;refine (CU.out Ax U2 (HX.out.below BL2.out) (TB.out.below BL2.out)).mono ?_;rintro e U3 ⟨A2,rfl,own,hb⟩
         try (go_simp)
         have zO:W5.heap.size<=U2.heap.size:=BL2.out.size;have BL3:=aq (BL2.out.trans (hb.mono BL2.out.size));replace BZ:=aq (BZ.out.below hb);have OX:=aq own;clear own hb;unfold slv;refine hK.out _ _ (by obtain⟨_,q0,q1,q2,q3,q4,q5,_⟩:=BX.out.below BL3.out;exact⟨q0,q1,q2,q3,q4,q5,BL3⟩) (fun hHeldf18=>?_);clear hK K hHeldf17
         try simp only [sZ]
         refine tk 3 ?_;refine tk 4 ?_;refine tk 5 ?_;refine rdH 7 fun K hK=>?_;obtain⟨_,z0,z1,z2,z3,z4,z5,zf⟩:=BZ.out;have zf0:=zf 0;have zf1:=zf 1;have zf2:=zf 2;have zf3:=zf 3;have zf4:=zf 4;have zf5:=zf 5;clear zf;go_simp;obtain⟨U4,hU⟩:∃ U,U=put6 U3 (V0.heap.size) (.int .i64 SY.seg) (.slice A2.w SY.words.length A2.cw) (.slice A2.k SY.keys.length A2.ck) (.slice A2.v SY.vals.length A2.cv) (.slice A2.c SY.counts.length A2.cc) (.int .u64 (SY.laid:Int)):=⟨_,rfl⟩;have BY:=aq (show Box U4 (V0.heap.size) SY A2 by rw [hU];exact BZ.out.put6 SY A2);have OY:=aq (show Own U4 W5.heap.size SY A2 by rw [hU];exact (show Own _ _ SY A2 from⟨OX.out.words.put6 (by omega) _ _ _ _ _ _,OX.out.keys.put6 (by omega) _ _ _ _ _ _,OX.out.vals.put6 (by omega) _ _ _ _ _ _,OX.out.counts.put6 (by omega) _ _ _ _ _ _,OX.out.caps⟩).lower zO);have BL4:=aq (show Below W5.heap.size W5 U4 by rw [hU];exact below_put6 BL3.out (by have:=BL3.out.size;omega) _ _ _ _ _ _);unfold put6 at hU
         first | rw [<-hU] | skip
         clear hU z0 z1 z2 z3 z4 z5 zf0 zf1 zf2 zf3 zf4 zf5 BZ OX;refine hK.out _ _ (by obtain⟨_,q0,q1,q2,q3,q4,q5,_⟩:=BX.out.below BL4.out;exact⟨q0,q1,q2,q3,q4,q5,BL4⟩) (fun hHeldf22=>?_);clear hK K hHeldf18
         try simp only [sZ]
         refine tk 8 ?_;refine wpAnyH_done (by kernel_rfl) ?_ _
         go_wp2_with fail
         go_meet
         exact⟨_,_,rfl,rfl,BY.out,OY.out,BL4.out⟩
        case rest =>
         as_aux_lemma =>
         obtain⟨By,Ay,rfl,rfl,hB,hO,hb⟩:=hcut;replace BB:=aq (BB.out.trans (hb.mono BB.out.size));replace TB:=aq (TB.out.below hb);replace BX:=aq (BX.out.below hb);replace HX:=aq (HX.out.below hb);have BY:=aq hB;have OY:=aq hO;clear hb hB hO CU;obtain⟨W6,hW1⟩:∃ V,V=wc:=⟨_,rfl⟩;rw [<-hW1] at BB TB BX HX BY OY ⊢;clear hW1
         go_upto_region 13 with (fail)
         go_wp2_with fail
         refine (CM.out _).mono ?_;rintro e w13 ⟨Am,rfl,own,hb⟩;replace BB:=aq (BB.out.trans (hb.mono BB.out.size));replace BX:=aq (BX.out.below hb);replace HX:=aq (HX.out.below hb);replace BY:=aq (BY.out.below hb);replace OY:=aq (OY.out.below hb);clear own hb CM TB;unfold slv
         go_upto_region 14 with (fail)
         obtain⟨w14,hV⟩:∃ V,V=w13.alloc (.cells #[.int .i64 XM.seg,.slice Am.w XM.words.length Am.cw,.slice Am.k XM.keys.length Am.ck,.slice Am.v XM.vals.length Am.cv,.slice Am.c XM.counts.length Am.cc,.int .u64 (XM.laid:Int)] 27):=⟨_,rfl⟩
         have hba:Below w13.heap.size w13 w14:=by rw [hV];exact (Below.refl _ _).alloc (Nat.le_refl _) _
         first | rw [<-hV] | skip
         replace BB:=aq (BB.out.trans (hba.mono BB.out.size));replace BX:=aq (BX.out.below hba);replace HX:=aq (HX.out.below hba);replace BY:=aq (BY.out.below hba);replace OY:=aq (OY.out.below hba);clear hV hba;obtain⟨d1,o1,e1,cx⟩:=evens HX.out.keys FX.out.1;obtain⟨d2,o2,e2,cy⟩:=evens OY.out.held.keys FY.out.1;obtain⟨bc,oc,e4,hBc,cc,cf⟩:=own_count OY.out FY.out.2;obtain⟨_,p0,p1,p2,p3,p4,p5,_⟩:=BX.out;obtain⟨_,q0,q1,q2,q3,q4,q5,_⟩:=BY.out;rw [FX.out.1,e1] at p2;rw [FY.out.1,e2] at q2;rw [FY.out.2,e4] at q4;rw [CY.out] at cc;have x0:=cx 0 (by omega);rw [show SX.keys.getD 0 0=0 from KX.out 0 (by omega)] at x0;have x1:=cx 2 (by omega);rw [show SX.keys.getD 2 0=1 from KX.out 1 (by omega)] at x1;have x2:=cx 4 (by omega);rw [show SX.keys.getD 4 0=2 from KX.out 2 (by omega)] at x2;have x3:=cx 6 (by omega);rw [show SX.keys.getD 6 0=3 from KX.out 3 (by omega)] at x3;have x4:=cx 8 (by omega);rw [show SX.keys.getD 8 0=4 from KX.out 4 (by omega)] at x4;have x5:=cx 10 (by omega);rw [show SX.keys.getD 10 0=5 from KX.out 5 (by omega)] at x5;have x6:=cx 12 (by omega);rw [show SX.keys.getD 12 0=6 from KX.out 6 (by omega)] at x6;have x7:=cx 14 (by omega);rw [show SX.keys.getD 14 0=7 from KX.out 7 (by omega)] at x7;have y0:=cy 0 (by omega);rw [show SY.keys.getD 0 0=0 from KY.out 0 (by omega)] at y0;have y1:=cy 2 (by omega);rw [show SY.keys.getD 2 0=1 from KY.out 1 (by omega)] at y1
         have y2:=cy 4 (by omega);rw [show SY.keys.getD 4 0=2 from KY.out 2 (by omega)] at y2;have y3:=cy 6 (by omega);rw [show SY.keys.getD 6 0=3 from KY.out 3 (by omega)] at y3;have y4:=cy 8 (by omega);rw [show SY.keys.getD 8 0=4 from KY.out 4 (by omega)] at y4;have y5:=cy 10 (by omega);rw [show SY.keys.getD 10 0=5 from KY.out 5 (by omega)] at y5;have y6:=cy 12 (by omega);rw [show SY.keys.getD 12 0=6 from KY.out 6 (by omega)] at y6;rw [Nat.add_zero] at x0 y0;clear cx cy e1 e2 p0 p1 p3 p4 p5 q0 q1 q3 q5 HX KX KY
         go_wp2_with fail
         go_loopw [19] (LookJ w14) (fun i _=>8-(intOf i).toNat)
         case atStart=>exact⟨rfl,Or.inl rfl⟩
         case round =>
          obtain⟨hwr,hv⟩:=hrel;subst hwr
          rcases hv with rfl | rfl | rfl | rfl | rfl | rfl | rfl | rfl | rfl
          ·go_wp2
           go_roundw
           case rel=>exact⟨rfl,by first | (simp;done) | decide⟩
           case measure=>simp [intOf]
          ·go_wp2
           go_roundw
           case rel=>exact⟨rfl,by first | (simp;done) | decide⟩
           case measure=>simp [intOf]
          ·go_wp2
           go_roundw
           case rel=>exact⟨rfl,by first | (simp;done) | decide⟩
           case measure=>simp [intOf]
          ·go_wp2
           go_roundw
           case rel=>exact⟨rfl,by first | (simp;done) | decide⟩
           case measure=>simp [intOf]
          ·go_wp2
           go_roundw
           case rel=>exact⟨rfl,by first | (simp;done) | decide⟩
           case measure=>simp [intOf]
          ·go_wp2
           go_roundw
           case rel=>exact⟨rfl,by first | (simp;done) | decide⟩
           case measure=>simp [intOf]
          ·go_wp2
           go_roundw
           case rel=>exact⟨rfl,by first | (simp;done) | decide⟩
           case measure=>simp [intOf]
          ·go_wp2
           go_roundw
           case rel=>exact⟨rfl,by first | (simp;done) | decide⟩
           case measure=>simp [intOf]
          ·skip
           clear x0 x1 x2 x3 x4 x5 x6 x7 y0 y1 y2 y3 y4 y5 y6 p2 q2
           go_upto_region 22 with (fail)
           as_aux_lemma =>
           obtain⟨w22,hV⟩:∃ V,V=wr.setCell ⟨bc,oc,none⟩ (.int .i64 1):=⟨_,rfl⟩;have BX2:=aq (show Box w22 Bx SX Ax by rw [hV];exact box_keep BX.out cc (by rw [SGX.out];decide) _);have BY2:=aq (show Box w22 By SY Ay by rw [hV];exact box_keep BY.out cc (by rw [SGY.out];decide) _);have BB2:=aq (show Below w.heap.size w w22 by rw [hV];exact BB.out.setCell (p:=⟨bc,oc,none⟩) (Nat.le_trans zW5 hBc) _);have TB2:=aq (TB0.out.below BB2.out);have CKK:=aq (fun W hb tv=>CK.out Ay bc oc wr W OY.out.held e4 hb tv);rw [<-hV] at CKK ⊢;clear hV BX BY BB OY CK cc cf q4 e4;refine wp_region_held_drew (S:=fun w'=>w'.cell? ⟨By,0,none⟩=some (.int .i64 SY.seg)/\w'.cell? ⟨By,1,none⟩=some (.slice Ay.w SY.words.length Ay.cw)/\w'.cell? ⟨By,2,none⟩=some (.slice Ay.k SY.keys.length Ay.ck)/\w'.cell? ⟨By,3,none⟩=some (.slice Ay.v SY.vals.length Ay.cv)/\w'.cell? ⟨By,4,none⟩=some (.slice Ay.c SY.counts.length Ay.cc)/\w'.cell? ⟨By,5,none⟩=some (.int .u64 (SY.laid:Int))/\w'.cell? ⟨Bx,5,none⟩=some (.int .u64 8)/\Hid (Below w22.heap.size w22 w')) (by kernel_rfl) (by obtain⟨_,q0,q1,q2,q3,q4,q5,_⟩:=BY2.out.below ((Below.refl w22.heap.size w22).drew);obtain⟨_,_,_,_,_,_,r5,_⟩:=BX2.out.below ((Below.refl w22.heap.size w22).drew);rw [FX.out.2] at r5;exact⟨q0,q1,q2,q3,q4,q5,r5,(aq ((Below.refl w22.heap.size w22).drew))⟩) (fun hHeld=>?_);have BL0:=aq (show Below w22.heap.size w22 w22.drew from (Below.refl _ _).drew)
           obtain⟨V0,hV0⟩:∃ V,V=w22.drew:=⟨_,rfl⟩;rw [<-hV0] at BL0 hHeld ⊢;clear hV0;refine tk 0 ?_;refine rdH 1 fun K hK=>?_;go_simp;refine (CA.out V0 (TB2.out.below BL0.out)).mono ?_;rintro e U1 ⟨rfl,hb⟩
           try (go_simp)
           have BL1:=aq (BL0.out.trans (hb.mono BL0.out.size));clear hb;refine hK.out _ _ (by obtain⟨_,q0,q1,q2,q3,q4,q5,_⟩:=BY2.out.below BL1.out;obtain⟨_,_,_,_,_,_,r5,_⟩:=BX2.out.below BL1.out;rw [FX.out.2] at r5;exact⟨q0,q1,q2,q3,q4,q5,r5,BL1⟩) (fun hHeldz1=>?_);clear hK K hHeld
           try simp only [sZ]
           refine tk 2 ?_;refine tk 3 ?_;refine tk 4 ?_;refine tk 5 ?_;refine tk 6 ?_;refine tk 7 ?_;refine tk 8 ?_;refine tk 9 ?_;refine tk 10 ?_;refine tk 11 ?_;refine tk 12 ?_;refine tk 13 ?_;refine tk 14 ?_;refine tk 15 ?_;refine tk 16 ?_;refine tk 17 ?_;refine tk 18 ?_;refine tk 19 ?_;refine tk 20 ?_;refine tk 21 ?_;refine tk 22 ?_;refine tk 23 ?_;refine tk 24 ?_;refine tk 25 ?_;refine tk 26 ?_;refine tk 27 ?_;refine tk 28 ?_;refine tk 30 ?_;refine rdH 29 fun K hK=>?_;go_simp;refine (l9Chapter _).mono ?_;rintro e U2 ⟨rfl,hb⟩
           try (go_simp)
           have BL2:=aq (BL1.out.trans (hb.mono BL1.out.size));clear hb
           try unfold cfv
           refine hK.out _ _ (by obtain⟨_,q0,q1,q2,q3,q4,q5,_⟩:=BY2.out.below BL2.out;obtain⟨_,_,_,_,_,_,r5,_⟩:=BX2.out.below BL2.out;rw [FX.out.2] at r5;exact⟨q0,q1,q2,q3,q4,q5,r5,BL2⟩) (fun hHeldz30=>?_);clear hK K hHeldz1
           try simp only [sZ]
           refine rdH 31 fun K hK=>?_;go_simp;refine (CKK.out U2 BL2.out (TB2.out.below BL2.out)).mono ?_;rintro e U3 ⟨rfl,hb⟩
           try (go_simp)
           have BL3:=aq (BL2.out.trans (hb.mono BL2.out.size));clear hb;refine hK.out _ _ (by obtain⟨_,q0,q1,q2,q3,q4,q5,_⟩:=BY2.out.below BL3.out;obtain⟨_,_,_,_,_,_,r5,_⟩:=BX2.out.below BL3.out;rw [FX.out.2] at r5;exact⟨q0,q1,q2,q3,q4,q5,r5,BL3⟩) (fun hHeldz31=>?_);clear hK K hHeldz30
           try simp only [sZ]
           refine tk 32 ?_;refine tk 33 ?_;refine tk 34 ?_;refine tk 36 ?_;refine rdH 35 fun K hK=>?_;go_simp;refine (l9Chapter _).mono ?_;rintro e U4 ⟨rfl,hb⟩
           try (go_simp)
           have BL4:=aq (BL3.out.trans (hb.mono BL3.out.size));clear hb
           try unfold cfv
           refine hK.out _ _ (by obtain⟨_,q0,q1,q2,q3,q4,q5,_⟩:=BY2.out.below BL4.out;obtain⟨_,_,_,_,_,_,r5,_⟩:=BX2.out.below BL4.out;rw [FX.out.2] at r5;exact⟨q0,q1,q2,q3,q4,q5,r5,BL4⟩) (fun hHeldz36=>?_);clear hK K hHeldz31
           try simp only [sZ]
           refine rdH 37 fun K hK=>?_;go_simp;refine (CZ.out U4 (TB2.out.below BL4.out)).mono ?_;rintro e U5 ⟨rfl,hb⟩
           try (go_simp)
           have BL5:=aq (BL4.out.trans (hb.mono BL4.out.size));clear hb;refine hK.out _ _ (by obtain⟨_,q0,q1,q2,q3,q4,q5,_⟩:=BY2.out.below BL5.out;obtain⟨_,_,_,_,_,_,r5,_⟩:=BX2.out.below BL5.out;rw [FX.out.2] at r5;exact⟨q0,q1,q2,q3,q4,q5,r5,BL5⟩) (fun hHeldz37=>?_);clear hK K hHeldz36
           try simp only [sZ]
           refine tk 38 ?_;refine tk 39 ?_;refine tk 40 ?_;refine wpAnyH_done (by kernel_rfl) ?_ _;go_wp2;go_ret;exact⟨rfl,BB2.out.trans (BL5.out.mono BB2.out.size)⟩
end Go.Proofs.YthaaapfnheocjaaGreatDoor.gapNames

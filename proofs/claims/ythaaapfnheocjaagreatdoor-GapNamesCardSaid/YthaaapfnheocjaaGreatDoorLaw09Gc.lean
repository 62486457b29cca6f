/- What the law package of layer 9's own functions return: chapter, alive. -/
import Derived.Test.YthaaapfnheocjaaGreatDoorTkGc
import Derived.Test.YthaaapfnheocjaaGreatDoorGapGc
import Derived.Test.YthaaapfnheocjaaGreatDoorM20Gc
import Derived.Deep.DeepCutAuto
import Derived.Deep.RegionHeld3
set_option linter.unusedVariables false
set_option linter.unusedSimpArgs false
set_option maxHeartbeats 8000000
set_option maxRecDepth 100000
namespace Go.Proofs.YthaaapfnheocjaaGreatDoor
open Go.RowKit
def ch9:Cf:={ tag:=1,most:=8,seg:=4,least:=16,den:=8,ll:=0,rl:=1,rh:=4,lh:=8 }
theorem ch9_in:ch9.In :=
 ⟨by show (0:Int)<=1;omega,by show (1:Int)<=255;omega,by show I64 8;unfold I64;omega,by show I64 4;unfold I64;omega,by show I64 16;unfold I64;omega,by show I64 8;unfold I64;omega,by show I64 0;unfold I64;omega,by show I64 1;unfold I64;omega,by show I64 4;unfold I64;omega,by show I64 8;unfold I64;omega⟩
theorem l9Chapter (w:World) :
  Calls Tryz.prog 7 #[] w fun e w'=>e=.returned (cfv ch9)/\Below w.heap.size w w':=by
 go_enter Tryz.func7,Tryz.ntmps7
 go_wp2;refine bodyPost_ret (v:=.agg #[.int .u8 1,.int .i64 8,.int .i64 4,.int .i64 16,.int .i64 8,.int .i64 0,.int .i64 1,.int .i64 4,.int .i64 8]) (by simp [results,Tryz.results7,go_sem]) rfl ⟨rfl,?_⟩;exact (Below.refl _ _).alloc (Nat.le_refl _) _
def Gp.a1:Sl:=Gp.putS ch9 (Gp.newS ch9) 0 (5,0)
def Gp.a2:Sl:=Gp.putS ch9 Gp.a1 1 (9,0)
theorem alive9_facts:ch9.chkE=0/\(Gp.newS ch9).keys.length=16/\Gp.putE ch9 (Gp.newS ch9) 0=0/\Gp.a1.keys.length=16/\Gp.a1.keys.getD 0 0=5/\Gp.a1.laid=1/\Gp.putE ch9 Gp.a1 1=0/\Gp.a2.keys.length=16/\Gp.a2.keys.getD 0 0=5/\Gp.a2.keys.getD 2 0=9/\Gp.a2.laid=3:=by decide +kernel
theorem i64s {z:Int} (h1:-1000<=z) (h2:z<=1000):In64 z:=⟨by omega,by omega⟩
theorem l9Alive (w:World) (hT:Tab w) :
  Calls Tryz.prog 11 #[] w fun e w'=>e=.returned (.bool true)/\Below w.heap.size w w':=by
 obtain⟨f0,f1,f2,f3,f4,f5,f6,f7,f8,f9,f10⟩:=alive9_facts;have z0:In64 0:=i64s (by omega) (by omega);have z1:In64 1:=i64s (by omega) (by omega);have z5:In64 5:=i64s (by omega) (by omega);have z9:In64 9:=i64s (by omega) (by omega);have G0:=Gp.new_fine (c:=ch9);have G1:=Gp.put_fine (c:=ch9) G0.ok G0.short 0 (p:=(5,0)) z5 z0;have CN:=aq (fun V=>gNew ch9 V ch9_in);have C1:=aq (fun A V (hv:Held V (Gp.newS ch9) A) tv=>gPut ch9 (Gp.newS ch9) A 0 5 0 V ch9_in hv G0.ok G0.short tv z0 z5 z0);have C2:=aq (fun A V (hv:Held V Gp.a1 A) tv=>gPut ch9 Gp.a1 A 1 9 0 V ch9_in hv G1.ok G1.short tv z1 z9 z0);rw [f0] at CN;rw [f2,show Gp.putS ch9 (Gp.newS ch9) 0 (5,0)=Gp.a1 from rfl] at C1;rw [f6,show Gp.putS ch9 Gp.a1 1 (9,0)=Gp.a2 from rfl] at C2;obtain⟨S2,hS2⟩:∃ S,S=Gp.a2:=⟨_,rfl⟩;rw [<-hS2] at C2 f7 f8 f9 f10;clear hS2;obtain⟨S1,hS1⟩:∃ S,S=Gp.a1:=⟨_,rfl⟩;rw [<-hS1] at C1 C2 f3 f4 f5;clear hS1 G1 f6 f2;obtain⟨S0,hS0⟩:∃ S,S=Gp.newS ch9:=⟨_,rfl⟩;rw [<-hS0] at CN C1 f1;clear hS0 G0 z0 z1 z5 z9 f0;have F0:=aq f1;have F1:=aq (show S1.keys.length=16/\S1.keys.getD 0 0=5/\S1.laid=1 from⟨f3,f4,f5⟩);have F2:=aq (show S2.keys.length=16/\S2.keys.getD 0 0=5/\S2.keys.getD 2 0=9/\S2.laid=3 from⟨f7,f8,f9,f10⟩);have TB0:=aq hT;clear f1 f3 f4 f5 f7 f8 f9 f10 hT;unfold slv cfv at C1 C2
 go_enter Tryz.func11,Tryz.ntmps11
 go_wp2_with fail
 refine (l9Chapter _).mono ?_;rintro e w1 ⟨rfl,hb⟩;have BB:=aq hb;clear hb
 go_wp2_with fail
 refine (CN.out _).mono ?_;rintro e w2 ⟨A0,rfl,own,hb⟩;replace BB:=aq (BB.out.trans (hb.mono BB.out.size));have HX:=aq own.held;clear own hb;unfold slv
 go_upto_region 2 with (fail)
 obtain⟨w3,hV⟩:∃ V,V=w2.alloc (.cells #[.int .i64 S0.seg,.slice A0.w S0.words.length A0.cw,.slice A0.k S0.keys.length A0.ck,.slice A0.v S0.vals.length A0.cv,.slice A0.c S0.counts.length A0.cc,.int .u64 (S0.laid:Int)] 27):=⟨_,rfl⟩
 have hba:Below w2.heap.size w2 w3:=by rw [hV];exact (Below.refl _ _).alloc (Nat.le_refl _) _
 have BX:=aq (show Box w3 w2.heap.size S0 A0 by rw [hV];exact Box.new w2 S0 A0 27)
 first | rw [<-hV] | skip
 replace HX:=aq (HX.out.below hba);replace BB:=aq (BB.out.trans (hba.mono BB.out.size));clear hV hba
 go_cut [3,4] from 12 (fun s3 s4 wx=>∃ B A,s3=.pointer (some ⟨B,0,none⟩)/\s4=.int .i64 0/\Box wx B S1 A/\Held wx S1 A/\Below w3.heap.size w3 wx)
 case first =>
  refine wp_region_held_drew (S:=fun w'=>w'.cell? ⟨w2.heap.size,0,none⟩=some (.int .i64 S0.seg)/\w'.cell? ⟨w2.heap.size,1,none⟩=some (.slice A0.w S0.words.length A0.cw)/\w'.cell? ⟨w2.heap.size,2,none⟩=some (.slice A0.k S0.keys.length A0.ck)/\w'.cell? ⟨w2.heap.size,3,none⟩=some (.slice A0.v S0.vals.length A0.cv)/\w'.cell? ⟨w2.heap.size,4,none⟩=some (.slice A0.c S0.counts.length A0.cc)/\w'.cell? ⟨w2.heap.size,5,none⟩=some (.int .u64 (S0.laid:Int))/\Hid (Below w3.heap.size w3 w')) (by kernel_rfl) (by obtain⟨_,q0,q1,q2,q3,q4,q5,_⟩:=BX.out.below ((Below.refl _ _).drew);exact⟨q0,q1,q2,q3,q4,q5,aq ((Below.refl _ _).drew)⟩) (fun hHeld=>?_);have BL0:=aq (show Below w3.heap.size w3 w3.drew from (Below.refl _ _).drew);obtain⟨V0,hV0⟩:∃ V,V=w3.drew:=⟨_,rfl⟩;rw [<-hV0] at BL0 hHeld ⊢;clear hV0;refine tk 1 ?_;refine tk 2 ?_;refine wpAnyH_ready (rs:=[0,7]) (by kernel_rfl) (by simp) ?_;refine cH (fun K hK=>?_) ?_
  ·skip
   go_simp;refine (l9Chapter _).mono ?_;rintro e U1 ⟨rfl,hb⟩
   try (go_simp)
   have BL1:=aq (BL0.out.trans (hb.mono BL0.out.size));clear hb
   try unfold cfv
   refine hK.out _ _ (by obtain⟨_,q0,q1,q2,q3,q4,q5,_⟩:=BX.out.below BL1.out;exact⟨q0,q1,q2,q3,q4,q5,BL1⟩) (fun hHelda2=>?_);clear hK K hHeld
   try simp only [sZ]
   refine wpAnyH_ready (rs:=[3,7]) (by kernel_rfl) (by simp) ?_;refine cH (fun K hK=>?_) ?_
   ·skip
    go_simp;refine (C1.out A0 U1 (HX.out.below BL1.out) (TB0.out.below (BB.out.trans (BL1.out.mono BB.out.size)))).mono ?_;rintro e U2 ⟨A2,rfl,own,hb⟩
    try (go_simp)
    have BL2:=aq (BL1.out.trans (hb.mono BL1.out.size));have OX:=aq own;clear own hb;unfold slv;refine hK.out _ _ (by obtain⟨_,q0,q1,q2,q3,q4,q5,_⟩:=BX.out.below BL2.out;exact⟨q0,q1,q2,q3,q4,q5,BL2⟩) (fun hHelda3=>?_);clear hK K hHelda2
    try simp only [sZ]
    refine tk 4 ?_;refine tk 5 ?_;refine tk 6 ?_;refine rdH 7 fun K hK=>?_;go_simp;obtain⟨U3,hU⟩:∃ U,U=U2.alloc (.cells #[.int .i64 0,.slice none 0 0,.slice none 0 0,.slice none 0 0,.slice none 0 0,.int .u64 0] 27):=⟨_,rfl⟩
    have hb:Below U2.heap.size U2 U3:=by rw [hU];exact (Below.refl _ _).alloc (Nat.le_refl _) _
    have BL3:=aq (BL2.out.trans (hb.mono BL2.out.size));have OXP:=aq OX.out.held;replace OX:=aq (OX.out.below hb);have BZ:=aq (show Box U3 U2.heap.size Sl.none adsNone by rw [hU];exact Box.new U2 Sl.none adsNone 27);rw [<-hU];have hbz:=aq hb;clear hU hb;have zB:w3.heap.size<=U2.heap.size:=BL2.out.size;refine hK.out _ _ (by obtain⟨_,q0,q1,q2,q3,q4,q5,_⟩:=BX.out.below BL3.out;exact⟨q0,q1,q2,q3,q4,q5,BL3⟩) (fun hHelda7=>?_);clear hK K hHelda3
    try simp only [sZ]
    refine rdH 8 fun K hK=>?_;obtain⟨_,z0,z1,z2,z3,z4,z5,zf⟩:=BZ.out;have zf0:=zf 0;have zf1:=zf 1;have zf2:=zf 2;have zf3:=zf 3;have zf4:=zf 4;have zf5:=zf 5;clear zf;go_simp;obtain⟨U4,hU⟩:∃ U,U=put6 U3 (U2.heap.size) (.int .i64 S1.seg) (.slice A2.w S1.words.length A2.cw) (.slice A2.k S1.keys.length A2.ck) (.slice A2.v S1.vals.length A2.cv) (.slice A2.c S1.counts.length A2.cc) (.int .u64 (S1.laid:Int)):=⟨_,rfl⟩;have BY:=aq (show Box U4 (U2.heap.size) S1 A2 by rw [hU];exact BZ.out.put6 S1 A2);have OY:=aq (show Held U4 S1 A2 by rw [hU];exact OXP.out.below (below_put6 hbz.out (Nat.le_refl _) _ _ _ _ _ _));have BL4:=aq (show Below w3.heap.size w3 U4 by rw [hU];exact below_put6 BL3.out (by have:=BL3.out.size;omega) _ _ _ _ _ _);unfold put6 at hU
    first | rw [<-hU] | skip
    clear hU z0 z1 z2 z3 z4 z5 zf0 zf1 zf2 zf3 zf4 zf5 BZ OX;refine hK.out _ _ (by obtain⟨_,q0,q1,q2,q3,q4,q5,_⟩:=BX.out.below BL4.out;exact⟨q0,q1,q2,q3,q4,q5,BL4⟩) (fun hHelda8=>?_);clear hK K hHelda7
    try simp only [sZ]
    refine tk 9 ?_;refine wpAnyH_done (by kernel_rfl) ?_ _
    go_wp2_with fail
    go_meet
    exact⟨_,_,rfl,rfl,BY.out,OY.out,BL4.out⟩
   refine cH (fun K hK=>?_) AllReadyH.nil;go_simp;obtain⟨U2,hU⟩:∃ U,U=U1.alloc (.cells #[.int .i64 0,.slice none 0 0,.slice none 0 0,.slice none 0 0,.slice none 0 0,.int .u64 0] 27):=⟨_,rfl⟩
   have hb:Below U1.heap.size U1 U2:=by rw [hU];exact (Below.refl _ _).alloc (Nat.le_refl _) _
   have BL2:=aq (BL1.out.trans (hb.mono BL1.out.size));have BZ:=aq (show Box U2 U1.heap.size Sl.none adsNone by rw [hU];exact Box.new U1 Sl.none adsNone 27);rw [<-hU];skip;clear hU hb;have zB:w3.heap.size<=U1.heap.size:=BL1.out.size;refine hK.out _ _ (by obtain⟨_,q0,q1,q2,q3,q4,q5,_⟩:=BX.out.below BL2.out;exact⟨q0,q1,q2,q3,q4,q5,BL2⟩) (fun hHelda10=>?_);clear hK K hHelda2
   try simp only [sZ]
   refine rdH 3 fun K hK=>?_;have zc:=BZ.out.lt;go_simp;refine (C1.out A0 U2 (HX.out.below BL2.out) (TB0.out.below (BB.out.trans (BL2.out.mono BB.out.size)))).mono ?_;rintro e U3 ⟨A2,rfl,own,hb⟩
   try (go_simp)
   have BL3:=aq (BL2.out.trans (hb.mono BL2.out.size));replace BZ:=aq (BZ.out.below hb);have OX:=aq own;clear own hb;unfold slv;refine hK.out _ _ (by obtain⟨_,q0,q1,q2,q3,q4,q5,_⟩:=BX.out.below BL3.out;exact⟨q0,q1,q2,q3,q4,q5,BL3⟩) (fun hHelda11=>?_);clear hK K hHelda10
   try simp only [sZ]
   refine tk 4 ?_;refine tk 5 ?_;refine tk 6 ?_;refine rdH 8 fun K hK=>?_;obtain⟨_,z0,z1,z2,z3,z4,z5,zf⟩:=BZ.out;have zf0:=zf 0;have zf1:=zf 1;have zf2:=zf 2;have zf3:=zf 3;have zf4:=zf 4;have zf5:=zf 5;clear zf;go_simp;obtain⟨U4,hU⟩:∃ U,U=put6 U3 (U1.heap.size) (.int .i64 S1.seg) (.slice A2.w S1.words.length A2.cw) (.slice A2.k S1.keys.length A2.ck) (.slice A2.v S1.vals.length A2.cv) (.slice A2.c S1.counts.length A2.cc) (.int .u64 (S1.laid:Int)):=⟨_,rfl⟩;have BY:=aq (show Box U4 (U1.heap.size) S1 A2 by rw [hU];exact BZ.out.put6 S1 A2);have OY:=aq (show Held U4 S1 A2 by rw [hU];exact (show Own _ _ S1 A2 from⟨OX.out.words.put6 (by omega) _ _ _ _ _ _,OX.out.keys.put6 (by omega) _ _ _ _ _ _,OX.out.vals.put6 (by omega) _ _ _ _ _ _,OX.out.counts.put6 (by omega) _ _ _ _ _ _,OX.out.caps⟩).held);have BL4:=aq (show Below w3.heap.size w3 U4 by rw [hU];exact below_put6 BL3.out (by have:=BL3.out.size;omega) _ _ _ _ _ _);unfold put6 at hU
   first | rw [<-hU] | skip
   clear hU z0 z1 z2 z3 z4 z5 zf0 zf1 zf2 zf3 zf4 zf5 BZ OX;refine hK.out _ _ (by obtain⟨_,q0,q1,q2,q3,q4,q5,_⟩:=BX.out.below BL4.out;exact⟨q0,q1,q2,q3,q4,q5,BL4⟩) (fun hHelda15=>?_);clear hK K hHelda11
   try simp only [sZ]
   refine tk 9 ?_;refine wpAnyH_done (by kernel_rfl) ?_ _
   go_wp2_with fail
   go_meet
   exact⟨_,_,rfl,rfl,BY.out,OY.out,BL4.out⟩
  refine cH (fun K hK=>?_) AllReadyH.nil;go_simp;obtain⟨U1,hU⟩:∃ U,U=V0.alloc (.cells #[.int .i64 0,.slice none 0 0,.slice none 0 0,.slice none 0 0,.slice none 0 0,.int .u64 0] 27):=⟨_,rfl⟩
  have hb:Below V0.heap.size V0 U1:=by rw [hU];exact (Below.refl _ _).alloc (Nat.le_refl _) _
  have BL1:=aq (BL0.out.trans (hb.mono BL0.out.size));have BZ:=aq (show Box U1 V0.heap.size Sl.none adsNone by rw [hU];exact Box.new V0 Sl.none adsNone 27);rw [<-hU];skip;clear hU hb;have zB:w3.heap.size<=V0.heap.size:=BL0.out.size;refine hK.out _ _ (by obtain⟨_,q0,q1,q2,q3,q4,q5,_⟩:=BX.out.below BL1.out;exact⟨q0,q1,q2,q3,q4,q5,BL1⟩) (fun hHelda17=>?_);clear hK K hHeld
  try simp only [sZ]
  refine rdH 0 fun K hK=>?_;go_simp;refine (l9Chapter _).mono ?_;rintro e U2 ⟨rfl,hb⟩
  try (go_simp)
  have BL2:=aq (BL1.out.trans (hb.mono BL1.out.size));replace BZ:=aq (BZ.out.below hb);clear hb
  try unfold cfv
  refine hK.out _ _ (by obtain⟨_,q0,q1,q2,q3,q4,q5,_⟩:=BX.out.below BL2.out;exact⟨q0,q1,q2,q3,q4,q5,BL2⟩) (fun hHelda18=>?_);clear hK K hHelda17
  try simp only [sZ]
  refine rdH 3 fun K hK=>?_;have zc:=BZ.out.lt;go_simp;refine (C1.out A0 U2 (HX.out.below BL2.out) (TB0.out.below (BB.out.trans (BL2.out.mono BB.out.size)))).mono ?_;rintro e U3 ⟨A2,rfl,own,hb⟩
  try (go_simp)
  have BL3:=aq (BL2.out.trans (hb.mono BL2.out.size));replace BZ:=aq (BZ.out.below hb);have OX:=aq own;clear own hb;unfold slv;refine hK.out _ _ (by obtain⟨_,q0,q1,q2,q3,q4,q5,_⟩:=BX.out.below BL3.out;exact⟨q0,q1,q2,q3,q4,q5,BL3⟩) (fun hHelda19=>?_);clear hK K hHelda18
  try simp only [sZ]
  refine tk 4 ?_;refine tk 5 ?_;refine tk 6 ?_;refine rdH 8 fun K hK=>?_;obtain⟨_,z0,z1,z2,z3,z4,z5,zf⟩:=BZ.out;have zf0:=zf 0;have zf1:=zf 1;have zf2:=zf 2;have zf3:=zf 3;have zf4:=zf 4;have zf5:=zf 5;clear zf;go_simp;obtain⟨U4,hU⟩:∃ U,U=put6 U3 (V0.heap.size) (.int .i64 S1.seg) (.slice A2.w S1.words.length A2.cw) (.slice A2.k S1.keys.length A2.ck) (.slice A2.v S1.vals.length A2.cv) (.slice A2.c S1.counts.length A2.cc) (.int .u64 (S1.laid:Int)):=⟨_,rfl⟩;have BY:=aq (show Box U4 (V0.heap.size) S1 A2 by rw [hU];exact BZ.out.put6 S1 A2);have OY:=aq (show Held U4 S1 A2 by rw [hU];exact (show Own _ _ S1 A2 from⟨OX.out.words.put6 (by omega) _ _ _ _ _ _,OX.out.keys.put6 (by omega) _ _ _ _ _ _,OX.out.vals.put6 (by omega) _ _ _ _ _ _,OX.out.counts.put6 (by omega) _ _ _ _ _ _,OX.out.caps⟩).held);have BL4:=aq (show Below w3.heap.size w3 U4 by rw [hU];exact below_put6 BL3.out (by have:=BL3.out.size;omega) _ _ _ _ _ _);unfold put6 at hU
  first | rw [<-hU] | skip
  clear hU z0 z1 z2 z3 z4 z5 zf0 zf1 zf2 zf3 zf4 zf5 BZ OX;refine hK.out _ _ (by obtain⟨_,q0,q1,q2,q3,q4,q5,_⟩:=BX.out.below BL4.out;exact⟨q0,q1,q2,q3,q4,q5,BL4⟩) (fun hHelda23=>?_);clear hK K hHelda19
  try simp only [sZ]
  refine tk 9 ?_;refine wpAnyH_done (by kernel_rfl) ?_ _
  go_wp2_with fail
  go_meet
  exact⟨_,_,rfl,rfl,BY.out,OY.out,BL4.out⟩
 case rest =>
  obtain⟨B1,A1,rfl,rfl,hB,hH,hb⟩:=hcut;replace BB:=aq (BB.out.trans (hb.mono BB.out.size));have BX0:=aq (BX.out.below hb);clear BX HX hb CN C1;have BX:=aq hB;have HX:=aq hH;clear hB hH;obtain⟨w4,hw4⟩:∃ w4,w4=wc:=⟨_,rfl⟩;rw [<-hw4] at BX HX BB BX0 ⊢;clear hw4
  go_upto_region 3 with (fail)
  go_cut [5,6] from 19 (fun s3 s4 wx=>∃ B A,s3=.pointer (some ⟨B,0,none⟩)/\s4=.int .i64 0/\Box wx B S2 A/\Held wx S2 A/\Below w4.heap.size w4 wx)
  case first =>
   refine wp_region_held_drew (S:=fun w'=>w'.cell? ⟨B1,0,none⟩=some (.int .i64 S1.seg)/\w'.cell? ⟨B1,1,none⟩=some (.slice A1.w S1.words.length A1.cw)/\w'.cell? ⟨B1,2,none⟩=some (.slice A1.k S1.keys.length A1.ck)/\w'.cell? ⟨B1,3,none⟩=some (.slice A1.v S1.vals.length A1.cv)/\w'.cell? ⟨B1,4,none⟩=some (.slice A1.c S1.counts.length A1.cc)/\w'.cell? ⟨B1,5,none⟩=some (.int .u64 (S1.laid:Int))/\Hid (Below w4.heap.size w4 w')) (by kernel_rfl) (by obtain⟨_,q0,q1,q2,q3,q4,q5,_⟩:=BX.out.below ((Below.refl _ _).drew);exact⟨q0,q1,q2,q3,q4,q5,aq ((Below.refl _ _).drew)⟩) (fun hHeld=>?_);have BL0:=aq (show Below w4.heap.size w4 w4.drew from (Below.refl _ _).drew);obtain⟨V0,hV0⟩:∃ V,V=w4.drew:=⟨_,rfl⟩;rw [<-hV0] at BL0 hHeld ⊢;clear hV0;refine tk 1 ?_;refine tk 2 ?_;refine wpAnyH_ready (rs:=[0,7]) (by kernel_rfl) (by simp) ?_;refine cH (fun K hK=>?_) ?_
   ·skip
    go_simp;refine (l9Chapter _).mono ?_;rintro e U1 ⟨rfl,hb⟩
    try (go_simp)
    have BL1:=aq (BL0.out.trans (hb.mono BL0.out.size));clear hb
    try unfold cfv
    refine hK.out _ _ (by obtain⟨_,q0,q1,q2,q3,q4,q5,_⟩:=BX.out.below BL1.out;exact⟨q0,q1,q2,q3,q4,q5,BL1⟩) (fun hHeldb2=>?_);clear hK K hHeld
    try simp only [sZ]
    refine wpAnyH_ready (rs:=[3,7]) (by kernel_rfl) (by simp) ?_;refine cH (fun K hK=>?_) ?_
    ·skip
     go_simp;refine (C2.out A1 U1 (HX.out.below BL1.out) (TB0.out.below (BB.out.trans (BL1.out.mono BB.out.size)))).mono ?_;rintro e U2 ⟨A2,rfl,own,hb⟩
     try (go_simp)
     have BL2:=aq (BL1.out.trans (hb.mono BL1.out.size));have OX:=aq own;clear own hb;unfold slv;refine hK.out _ _ (by obtain⟨_,q0,q1,q2,q3,q4,q5,_⟩:=BX.out.below BL2.out;exact⟨q0,q1,q2,q3,q4,q5,BL2⟩) (fun hHeldb3=>?_);clear hK K hHeldb2
     try simp only [sZ]
     refine tk 4 ?_;refine tk 5 ?_;refine tk 6 ?_;refine rdH 7 fun K hK=>?_;go_simp;obtain⟨U3,hU⟩:∃ U,U=U2.alloc (.cells #[.int .i64 0,.slice none 0 0,.slice none 0 0,.slice none 0 0,.slice none 0 0,.int .u64 0] 27):=⟨_,rfl⟩
     have hb:Below U2.heap.size U2 U3:=by rw [hU];exact (Below.refl _ _).alloc (Nat.le_refl _) _
     have BL3:=aq (BL2.out.trans (hb.mono BL2.out.size));have OXP:=aq OX.out.held;replace OX:=aq (OX.out.below hb);have BZ:=aq (show Box U3 U2.heap.size Sl.none adsNone by rw [hU];exact Box.new U2 Sl.none adsNone 27);rw [<-hU];have hbz:=aq hb;clear hU hb;have zB:w4.heap.size<=U2.heap.size:=BL2.out.size;refine hK.out _ _ (by obtain⟨_,q0,q1,q2,q3,q4,q5,_⟩:=BX.out.below BL3.out;exact⟨q0,q1,q2,q3,q4,q5,BL3⟩) (fun hHeldb7=>?_);clear hK K hHeldb3
     try simp only [sZ]
     refine rdH 8 fun K hK=>?_;obtain⟨_,z0,z1,z2,z3,z4,z5,zf⟩:=BZ.out;have zf0:=zf 0;have zf1:=zf 1;have zf2:=zf 2;have zf3:=zf 3;have zf4:=zf 4;have zf5:=zf 5;clear zf;go_simp;obtain⟨U4,hU⟩:∃ U,U=put6 U3 (U2.heap.size) (.int .i64 S2.seg) (.slice A2.w S2.words.length A2.cw) (.slice A2.k S2.keys.length A2.ck) (.slice A2.v S2.vals.length A2.cv) (.slice A2.c S2.counts.length A2.cc) (.int .u64 (S2.laid:Int)):=⟨_,rfl⟩;have BY:=aq (show Box U4 (U2.heap.size) S2 A2 by rw [hU];exact BZ.out.put6 S2 A2);have OY:=aq (show Held U4 S2 A2 by rw [hU];exact OXP.out.below (below_put6 hbz.out (Nat.le_refl _) _ _ _ _ _ _));have BL4:=aq (show Below w4.heap.size w4 U4 by rw [hU];exact below_put6 BL3.out (by have:=BL3.out.size;omega) _ _ _ _ _ _);unfold put6 at hU
     first | rw [<-hU] | skip
     clear hU z0 z1 z2 z3 z4 z5 zf0 zf1 zf2 zf3 zf4 zf5 BZ OX;refine hK.out _ _ (by obtain⟨_,q0,q1,q2,q3,q4,q5,_⟩:=BX.out.below BL4.out;exact⟨q0,q1,q2,q3,q4,q5,BL4⟩) (fun hHeldb8=>?_);clear hK K hHeldb7
     try simp only [sZ]
     refine tk 9 ?_;refine wpAnyH_done (by kernel_rfl) ?_ _
     go_wp2_with fail
     go_meet
     exact⟨_,_,rfl,rfl,BY.out,OY.out,BL4.out⟩
    refine cH (fun K hK=>?_) AllReadyH.nil;go_simp;obtain⟨U2,hU⟩:∃ U,U=U1.alloc (.cells #[.int .i64 0,.slice none 0 0,.slice none 0 0,.slice none 0 0,.slice none 0 0,.int .u64 0] 27):=⟨_,rfl⟩
    have hb:Below U1.heap.size U1 U2:=by rw [hU];exact (Below.refl _ _).alloc (Nat.le_refl _) _
    have BL2:=aq (BL1.out.trans (hb.mono BL1.out.size));have BZ:=aq (show Box U2 U1.heap.size Sl.none adsNone by rw [hU];exact Box.new U1 Sl.none adsNone 27);rw [<-hU];skip;clear hU hb;have zB:w4.heap.size<=U1.heap.size:=BL1.out.size;refine hK.out _ _ (by obtain⟨_,q0,q1,q2,q3,q4,q5,_⟩:=BX.out.below BL2.out;exact⟨q0,q1,q2,q3,q4,q5,BL2⟩) (fun hHeldb10=>?_);clear hK K hHeldb2
    try simp only [sZ]
    refine rdH 3 fun K hK=>?_;have zc:=BZ.out.lt;go_simp;refine (C2.out A1 U2 (HX.out.below BL2.out) (TB0.out.below (BB.out.trans (BL2.out.mono BB.out.size)))).mono ?_;rintro e U3 ⟨A2,rfl,own,hb⟩
    try (go_simp)
    have BL3:=aq (BL2.out.trans (hb.mono BL2.out.size));replace BZ:=aq (BZ.out.below hb);have OX:=aq own;clear own hb;unfold slv;refine hK.out _ _ (by obtain⟨_,q0,q1,q2,q3,q4,q5,_⟩:=BX.out.below BL3.out;exact⟨q0,q1,q2,q3,q4,q5,BL3⟩) (fun hHeldb11=>?_);clear hK K hHeldb10
    try simp only [sZ]
    refine tk 4 ?_;refine tk 5 ?_;refine tk 6 ?_;refine rdH 8 fun K hK=>?_;obtain⟨_,z0,z1,z2,z3,z4,z5,zf⟩:=BZ.out;have zf0:=zf 0;have zf1:=zf 1;have zf2:=zf 2;have zf3:=zf 3;have zf4:=zf 4;have zf5:=zf 5;clear zf;go_simp;obtain⟨U4,hU⟩:∃ U,U=put6 U3 (U1.heap.size) (.int .i64 S2.seg) (.slice A2.w S2.words.length A2.cw) (.slice A2.k S2.keys.length A2.ck) (.slice A2.v S2.vals.length A2.cv) (.slice A2.c S2.counts.length A2.cc) (.int .u64 (S2.laid:Int)):=⟨_,rfl⟩;have BY:=aq (show Box U4 (U1.heap.size) S2 A2 by rw [hU];exact BZ.out.put6 S2 A2);have OY:=aq (show Held U4 S2 A2 by rw [hU];exact (show Own _ _ S2 A2 from⟨OX.out.words.put6 (by omega) _ _ _ _ _ _,OX.out.keys.put6 (by omega) _ _ _ _ _ _,OX.out.vals.put6 (by omega) _ _ _ _ _ _,OX.out.counts.put6 (by omega) _ _ _ _ _ _,OX.out.caps⟩).held);have BL4:=aq (show Below w4.heap.size w4 U4 by rw [hU];exact below_put6 BL3.out (by have:=BL3.out.size;omega) _ _ _ _ _ _);unfold put6 at hU
    first | rw [<-hU] | skip
    clear hU z0 z1 z2 z3 z4 z5 zf0 zf1 zf2 zf3 zf4 zf5 BZ OX;refine hK.out _ _ (by obtain⟨_,q0,q1,q2,q3,q4,q5,_⟩:=BX.out.below BL4.out;exact⟨q0,q1,q2,q3,q4,q5,BL4⟩) (fun hHeldb15=>?_);clear hK K hHeldb11
    try simp only [sZ]
    refine tk 9 ?_;refine wpAnyH_done (by kernel_rfl) ?_ _
    go_wp2_with fail
    go_meet
    exact⟨_,_,rfl,rfl,BY.out,OY.out,BL4.out⟩
   refine cH (fun K hK=>?_) AllReadyH.nil;go_simp;obtain⟨U1,hU⟩:∃ U,U=V0.alloc (.cells #[.int .i64 0,.slice none 0 0,.slice none 0 0,.slice none 0 0,.slice none 0 0,.int .u64 0] 27):=⟨_,rfl⟩
   have hb:Below V0.heap.size V0 U1:=by rw [hU];exact (Below.refl _ _).alloc (Nat.le_refl _) _
   have BL1:=aq (BL0.out.trans (hb.mono BL0.out.size));have BZ:=aq (show Box U1 V0.heap.size Sl.none adsNone by rw [hU];exact Box.new V0 Sl.none adsNone 27);rw [<-hU];skip;clear hU hb;have zB:w4.heap.size<=V0.heap.size:=BL0.out.size;refine hK.out _ _ (by obtain⟨_,q0,q1,q2,q3,q4,q5,_⟩:=BX.out.below BL1.out;exact⟨q0,q1,q2,q3,q4,q5,BL1⟩) (fun hHeldb17=>?_);clear hK K hHeld
   try simp only [sZ]
   refine rdH 0 fun K hK=>?_;go_simp;refine (l9Chapter _).mono ?_;rintro e U2 ⟨rfl,hb⟩
   try (go_simp)
   have BL2:=aq (BL1.out.trans (hb.mono BL1.out.size));replace BZ:=aq (BZ.out.below hb);clear hb
   try unfold cfv
   refine hK.out _ _ (by obtain⟨_,q0,q1,q2,q3,q4,q5,_⟩:=BX.out.below BL2.out;exact⟨q0,q1,q2,q3,q4,q5,BL2⟩) (fun hHeldb18=>?_);clear hK K hHeldb17
   try simp only [sZ]
   refine rdH 3 fun K hK=>?_;have zc:=BZ.out.lt;go_simp;refine (C2.out A1 U2 (HX.out.below BL2.out) (TB0.out.below (BB.out.trans (BL2.out.mono BB.out.size)))).mono ?_;rintro e U3 ⟨A2,rfl,own,hb⟩
   try (go_simp)
   have BL3:=aq (BL2.out.trans (hb.mono BL2.out.size));replace BZ:=aq (BZ.out.below hb);have OX:=aq own;clear own hb;unfold slv;refine hK.out _ _ (by obtain⟨_,q0,q1,q2,q3,q4,q5,_⟩:=BX.out.below BL3.out;exact⟨q0,q1,q2,q3,q4,q5,BL3⟩) (fun hHeldb19=>?_);clear hK K hHeldb18
   try simp only [sZ]
   refine tk 4 ?_;refine tk 5 ?_;refine tk 6 ?_;refine rdH 8 fun K hK=>?_;obtain⟨_,z0,z1,z2,z3,z4,z5,zf⟩:=BZ.out;have zf0:=zf 0;have zf1:=zf 1;have zf2:=zf 2;have zf3:=zf 3;have zf4:=zf 4;have zf5:=zf 5;clear zf;go_simp;obtain⟨U4,hU⟩:∃ U,U=put6 U3 (V0.heap.size) (.int .i64 S2.seg) (.slice A2.w S2.words.length A2.cw) (.slice A2.k S2.keys.length A2.ck) (.slice A2.v S2.vals.length A2.cv) (.slice A2.c S2.counts.length A2.cc) (.int .u64 (S2.laid:Int)):=⟨_,rfl⟩;have BY:=aq (show Box U4 (V0.heap.size) S2 A2 by rw [hU];exact BZ.out.put6 S2 A2);have OY:=aq (show Held U4 S2 A2 by rw [hU];exact (show Own _ _ S2 A2 from⟨OX.out.words.put6 (by omega) _ _ _ _ _ _,OX.out.keys.put6 (by omega) _ _ _ _ _ _,OX.out.vals.put6 (by omega) _ _ _ _ _ _,OX.out.counts.put6 (by omega) _ _ _ _ _ _,OX.out.caps⟩).held);have BL4:=aq (show Below w4.heap.size w4 U4 by rw [hU];exact below_put6 BL3.out (by have:=BL3.out.size;omega) _ _ _ _ _ _);unfold put6 at hU
   first | rw [<-hU] | skip
   clear hU z0 z1 z2 z3 z4 z5 zf0 zf1 zf2 zf3 zf4 zf5 BZ OX;refine hK.out _ _ (by obtain⟨_,q0,q1,q2,q3,q4,q5,_⟩:=BX.out.below BL4.out;exact⟨q0,q1,q2,q3,q4,q5,BL4⟩) (fun hHeldb23=>?_);clear hK K hHeldb19
   try simp only [sZ]
   refine tk 9 ?_;refine wpAnyH_done (by kernel_rfl) ?_ _
   go_wp2_with fail
   go_meet
   exact⟨_,_,rfl,rfl,BY.out,OY.out,BL4.out⟩
  case rest =>
   obtain⟨B2,A2,rfl,rfl,hB,hH,hb⟩:=hcut;replace BB:=aq (BB.out.trans (hb.mono BB.out.size));replace BX0:=aq (BX0.out.below hb);replace BX:=aq (BX.out.below hb);replace HX:=aq (HX.out.below hb);have BY:=aq hB;have HY:=aq hH;clear hB hH hb C2;obtain⟨w5,hw5⟩:∃ w5,w5=wc:=⟨_,rfl⟩;rw [<-hw5] at BX HX BB BX0 BY HY ⊢;clear hw5;obtain⟨d1,o1,e1,_,c1⟩:=HX.out.keys.cell (i:=0) (by have:=F1.out.1;omega);obtain⟨d2,o2,e2,_,c2⟩:=HY.out.keys.cell (i:=0) (by have:=F2.out.1;omega);obtain⟨d3,o3,e3,_,c3⟩:=HY.out.keys.cell (i:=2) (by have:=F2.out.1;omega)
   obtain⟨rfl,rfl⟩:d3=d2/\o3=o2:=by rw [e2] at e3;cases e3;exact⟨rfl,rfl⟩
   rw [F1.out.2.1,Nat.add_zero] at c1;rw [F2.out.2.1,Nat.add_zero] at c2;rw [F2.out.2.2.1] at c3;obtain⟨_,p0,p1,p2,p3,p4,p5,_⟩:=BX0.out;obtain⟨_,q0,q1,q2,q3,q4,q5,_⟩:=BX.out;obtain⟨_,r0,r1,r2,r3,r4,r5,_⟩:=BY.out;rw [F0.out] at p2;rw [F1.out.1,e1] at q2;rw [F2.out.1,e2] at r2;rw [F1.out.2.2] at q5;rw [F2.out.2.2.2] at r5;clear e1 e2 e3 BX0 BX BY HX HY p0 p1 p3 p4 p5 q0 q1 q3 q4 r0 r1 r3 r4 F0 F1 F2;go_wp2;go_ret;exact⟨rfl,BB.out⟩
end Go.Proofs.YthaaapfnheocjaaGreatDoor

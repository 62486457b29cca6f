/- What the document's own answers of layer 5 return. -/
import Derived.Test.YtpeckljoannolaaGreatDoorR01Ot
import Derived.Test.YtpeckljoannolaaGreatDoorRows
import Derived.Test.YtpeckljoannolaaGreatDoorM01Ot
import Derived.WalkKit
import Derived.WalkSpells
import Derived.WalkLawsBesides
import Derived.Lib.Hide
import Derived.Test.YtpeckljoannolaaGreatDoorS5bOt
import Derived.Test.YtpeckljoannolaaGreatDoorTkOt
set_option linter.unusedVariables false
set_option linter.unusedSimpArgs false
set_option maxHeartbeats 8000000
set_option maxRecDepth 100000
namespace Go.Proofs.YtpeckljoannolaaGreatDoor
open Go.RowKit
theorem r5Takes (c:Cf) (n:Int) (w:World) (hs:c.Sizes) (hd:c.Dens) (h0:0<=n) (hn:n<=16384) :
  Calls Tryz.prog 135 #[cfv c,.int .i64 n] w fun e w'=>e=.returned (.int .i64 (c.takes n))/\Below w.heap.size w w':=by
 have TL:=c.takes_le hs hd h0 hn;have RS:=aq (Cf.Run.start hs h0 hn);have r1:=hd.rh1 hs;have r2:=hd.rh2 hs
 have l1:4<=c.least:=by have:=hs.seg1;have:=hs.least1;omega
 have l2:=hs.least2;have ND:=Cf.nd_le hs h0 hn;obtain⟨p0,p1⟩:=ND;obtain⟨M,hM⟩:∃ M,M=n*c.den:=⟨_,rfl⟩;have HM:=aq hM;rw [<-hM] at p0 p1;have y1:=aq (show wrap64 (n*c.den)=M by rw [<-hM];unfold wrap64;omega);clear hM hs hd;unfold cfv
 go_enter Tryz.func135,Tryz.ntmps135
 go_wp2
 go_loop [5] (fun s=>∃ (size:Int) (k:Nat),s=.int .i64 size/\Hid (Cf.Run c n size k)) (fun s=>(65536-intOf s).toNat)
 case atStart=>exact⟨c.least,20,rfl,RS⟩
 case round =>
  obtain⟨size,k,rfl,RN⟩:=hrel;have s1:=RN.out.s1
  have s2:size<=65535:=by have:=RN.out.le;omega
  have q:=Cf.mul_bd (a:=c.rh) (b:=size) (A:=63) (B:=65535) (by omega) r2 (by omega) s2;obtain⟨q0,q1⟩:=q;have y2:=aq (show wrap64 (c.rh*size)=c.rh*size by unfold wrap64;omega);have z1:=y1.out;have z2:=y2.out
  by_cases ht:c.rh*size < M
  ·obtain⟨k',hk'⟩:=RN.out.step r1 (by rw [<-HM.out];exact ht)
   have s3:size*2<=65535:=by have:=hk'.le;omega
   have HK:=aq hk';clear hk';go_wp2
   go_round
   case rel=>exact⟨2*size,k',rfl,by have:=HK.out;rw [Int.mul_comm size 2] at this;exact aq this⟩
   case measure=>simp [intOf];omega
  ·have E:=aq (RN.out.done (by rw [<-HM.out];exact ht))
   go_wp2;go_ret;rw [E.out];exact⟨rfl,(Below.refl _ _).alloc (Nat.le_refl _) _⟩
theorem r5Height (c:Cf) (size:Int) (w:World) (h1:4<=c.seg) (h2:c.seg<=size) (h3:size<=9223372036854775807) :
  Calls Tryz.prog 134 #[cfv c,.int .i64 size] w fun e w'=>e=.returned (.int .i64 (c.high size))/\Below w.heap.size w w':=by
 have q1:1<=size/c.seg:=by have:=Int.ediv_le_ediv (c:=c.seg) (by omega) h2;rw [Int.ediv_self (by omega)] at this;exact this
 have q2:size/c.seg<=size:=Int.ediv_le_self (a:=size) c.seg (by omega);have HH:=aq (show c.high size=Fr.lg (size/c.seg) from rfl);unfold cfv
 go_enter Tryz.func134,Tryz.ntmps134
 have k0:¬ c.seg=0:=by omega
 go_wp2_with fail
 refine (rLog _ _ (by omega) (by omega)).mono ?_;rintro e w1 ⟨rfl,rfl⟩;go_wp2;go_ret;rw [HH.out];exact⟨rfl,(Below.refl _ _).alloc (Nat.le_refl _) _⟩
def powerB (n lo hi:Int):Bool:=decide (lo<=n)&&decide (n<=hi)&&Fr.powB n
theorem r5power (n lo hi:Int) (w:World) (h:n<=9223372036854775807) :
  Calls Tryz.prog 133 #[.int .i64 n,.int .i64 lo,.int .i64 hi] w fun e w'=>e=.returned (.bool (powerB n lo hi))/\w=w':=by
 have H:=aq (show powerB n lo hi=(decide (lo<=n)&&decide (n<=hi)&&Fr.powB n) from rfl);rw [H.out];clear H
 by_cases h1:lo<=n
 ·by_cases h2:n<=hi
  ·rw [decide_eq_true h1,decide_eq_true h2]
   go_enter Tryz.func133,Tryz.ntmps133
   go_wp2_with fail
   refine (rPower _ _ h).mono ?_;rintro e w1 ⟨rfl,rfl⟩;go_wp2;go_ret;exact⟨rfl,rfl⟩
  ·rw [decide_eq_true h1,decide_eq_false h2]
   go_enter Tryz.func133,Tryz.ntmps133
   go_wp2;go_ret;exact⟨rfl,rfl⟩
 ·rw [decide_eq_false h1]
  go_enter Tryz.func133,Tryz.ntmps133
  go_wp2;go_ret;exact⟨rfl,rfl⟩
theorem r5Wide (c:Cf) (h:Int) (w:World) (h1:4<=c.seg) (h2:c.seg<=64) (h3:0<=h) (h4:h<=20) :
  Calls Tryz.prog 188 #[cfv c,.int .i64 h] w fun e w'=>e=.returned (.int .i64 (c.wide h))/\Below w.heap.size w w':=by
 have HW:=aq (show IntKind.i64.wrap (c.seg*2^h.toNat)=c.wide h from IntWalk.i64_in _ (by have:=c.wide_bd h1 h2 h4;unfold Cf.wide at this;omega));have CP:=aq (fun W=>rPow h W h3 (by omega));unfold cfv
 go_enter Tryz.func188,Tryz.ntmps188
 go_upto_region 1 with (fail)
 have y:=HW.out
 go_quiet ((go_at_call 190;exact Calls.quiet_of_same (still_of (CP.out _))))
 go_wp2;go_ret;refine⟨?_,below_drewN ((Below.refl _ _).alloc (Nat.le_refl _) _) _⟩
 rfl
theorem may_not {c:Cf} (h:¬ c.May):c.mayB=false:=by
 cases hm:c.mayB
 ·rfl
 ·exact absurd ((Cf.may_iff c).1 hm) h
theorem power_iff (n lo hi:Int):powerB n lo hi=true↔lo<=n/\n<=hi/\Fr.powB n=true:=by
 unfold powerB
 simp only [Bool.and_eq_true,decide_eq_true_eq,and_assoc]
theorem r5May (c:Cf) (w:World) (hc:c.In) :
  Calls Tryz.prog 87 #[cfv c] w fun e w'=>e=.returned (.bool c.mayB)/\Below w.heap.size w w':=by
 have BX:=aq (CBox.new w c 23);have B0:=aq ((Below.refl w.heap.size w).alloc (Nat.le_refl _) (.cells (cfCells c) 23));have i0:=hc.tag0;have i1:=hc.tag1;obtain⟨m0,m1⟩:=hc.most;obtain⟨s0,s1⟩:=hc.seg;obtain⟨l0,l1⟩:=hc.least;obtain⟨d0,d1⟩:=hc.den;obtain⟨ll0,ll1⟩:=hc.ll;obtain⟨rl0,rl1⟩:=hc.rl;obtain⟨rh0,rh1⟩:=hc.rh;obtain⟨lh0,lh1⟩:=hc.lh;have CS:=aq (fun W=>r5power c.seg 4 64 W s1);have CL:=aq (fun W=>r5power c.least c.seg 256 W l1);clear hc;unfold cfCells at BX B0;unfold cfv
 by_cases h0:c.tag < 1
 ·have E:=aq (may_not (c:=c) fun h=>by have:=h.sizes.tag;omega)
  go_enter Tryz.func87,Tryz.ntmps87
  go_wp2;go_ret;rw [E.out];exact⟨rfl,B0.out⟩
 ·skip
  by_cases h1:3 < c.tag
  ·have E:=aq (may_not (c:=c) fun h=>by have:=h.sizes.tag;omega)
   go_enter Tryz.func87,Tryz.ntmps87
   go_wp2;go_ret;rw [E.out];exact⟨rfl,B0.out⟩
  ·skip
   by_cases h2:c.most < 1
   ·have E:=aq (may_not (c:=c) fun h=>by have:=h.sizes.most1;omega)
    go_enter Tryz.func87,Tryz.ntmps87
    go_wp2;go_ret;rw [E.out];exact⟨rfl,B0.out⟩
   ·skip
    by_cases h3:16384 < c.most
    ·have E:=aq (may_not (c:=c) fun h=>by have:=h.sizes.most2;omega)
     go_enter Tryz.func87,Tryz.ntmps87
     go_wp2;go_ret;rw [E.out];exact⟨rfl,B0.out⟩
    ·skip
     cases hp:powerB c.seg 4 64
     ·have E:=aq (may_not (c:=c) fun h=>by rw [show powerB c.seg 4 64=true from (power_iff _ _ _).2 ⟨h.sizes.seg1,h.sizes.seg2,h.sizes.segp⟩] at hp;cases hp)
      rw [hp] at CS;clear hp
      go_enter Tryz.func87,Tryz.ntmps87
      go_wp2_with fail
      refine (CS.out _).mono ?_;rintro e w1 ⟨rfl,rfl⟩;go_wp2;go_ret;rw [E.out];exact⟨rfl,B0.out⟩
     ·have P1:=aq ((power_iff _ _ _).1 hp)
      rw [hp] at CS;clear hp
      cases hp:powerB c.least c.seg 256
      ·have E:=aq (may_not (c:=c) fun h=>by rw [show powerB c.least c.seg 256=true from (power_iff _ _ _).2 ⟨h.sizes.least1,h.sizes.least2,h.sizes.leastp⟩] at hp;cases hp)
       rw [hp] at CL;clear hp
       go_enter Tryz.func87,Tryz.ntmps87
       go_wp2_with fail
       refine (CS.out _).mono ?_;rintro e w1 ⟨rfl,rfl⟩
       go_wp2_with fail
       refine (CL.out _).mono ?_;rintro e w1 ⟨rfl,rfl⟩;go_wp2;go_ret;rw [E.out];exact⟨rfl,B0.out⟩
      ·have P2:=aq ((power_iff _ _ _).1 hp)
       rw [hp] at CL;clear hp
       by_cases h6:c.den < 1
       ·have E:=aq (may_not (c:=c) fun h=>by have:=h.sizes.den1;omega)
        go_enter Tryz.func87,Tryz.ntmps87
        go_wp2_with fail
        refine (CS.out _).mono ?_;rintro e w1 ⟨rfl,rfl⟩
        go_wp2_with fail
        refine (CL.out _).mono ?_;rintro e w1 ⟨rfl,rfl⟩;go_wp2;go_ret;rw [E.out];exact⟨rfl,B0.out⟩
       ·skip
        by_cases h7:64 < c.den
        ·have E:=aq (may_not (c:=c) fun h=>by have:=h.sizes.den2;omega)
         go_enter Tryz.func87,Tryz.ntmps87
         go_wp2_with fail
         refine (CS.out _).mono ?_;rintro e w1 ⟨rfl,rfl⟩
         go_wp2_with fail
         refine (CL.out _).mono ?_;rintro e w1 ⟨rfl,rfl⟩;go_wp2;go_ret;rw [E.out];exact⟨rfl,B0.out⟩
        ·skip
         by_cases h8:c.ll < 0
         ·have E:=aq (may_not (c:=c) fun h=>by have:=h.dens.ll0;omega)
          go_enter Tryz.func87,Tryz.ntmps87
          go_wp2_with fail
          refine (CS.out _).mono ?_;rintro e w1 ⟨rfl,rfl⟩
          go_wp2_with fail
          refine (CL.out _).mono ?_;rintro e w1 ⟨rfl,rfl⟩;go_wp2;go_ret;rw [E.out];exact⟨rfl,B0.out⟩
         ·skip
          by_cases h9:c.rl<=c.ll
          ·have E:=aq (may_not (c:=c) fun h=>by have:=h.dens.llrl;omega)
           go_enter Tryz.func87,Tryz.ntmps87
           go_wp2_with fail
           refine (CS.out _).mono ?_;rintro e w1 ⟨rfl,rfl⟩
           go_wp2_with fail
           refine (CL.out _).mono ?_;rintro e w1 ⟨rfl,rfl⟩;go_wp2;go_ret;rw [E.out];exact⟨rfl,B0.out⟩
          ·skip
           by_cases h10:c.lh<=c.rh
           ·have E:=aq (may_not (c:=c) fun h=>by have:=h.dens.rhlh;omega)
            go_enter Tryz.func87,Tryz.ntmps87
            go_wp2_with fail
            refine (CS.out _).mono ?_;rintro e w1 ⟨rfl,rfl⟩
            go_wp2_with fail
            refine (CL.out _).mono ?_;rintro e w1 ⟨rfl,rfl⟩;go_wp2;go_ret;rw [E.out];exact⟨rfl,B0.out⟩
           ·skip
            by_cases h11:c.den < c.lh
            ·have E:=aq (may_not (c:=c) fun h=>by have:=h.dens.lhd;omega)
             go_enter Tryz.func87,Tryz.ntmps87
             go_wp2_with fail
             refine (CS.out _).mono ?_;rintro e w1 ⟨rfl,rfl⟩
             go_wp2_with fail
             refine (CL.out _).mono ?_;rintro e w1 ⟨rfl,rfl⟩;go_wp2;go_ret;rw [E.out];exact⟨rfl,B0.out⟩
            ·skip
             by_cases h12:c.den < c.rl
             ·have E:=aq (may_not (c:=c) fun h=>by have:=h.dens.rld;have:=h.dens.ll0;have:=h.dens.llrl;omega)
              go_enter Tryz.func87,Tryz.ntmps87
              go_wp2_with fail
              refine (CS.out _).mono ?_;rintro e w1 ⟨rfl,rfl⟩
              go_wp2_with fail
              refine (CL.out _).mono ?_;rintro e w1 ⟨rfl,rfl⟩;go_wp2;go_ret;rw [E.out];exact⟨rfl,B0.out⟩
             ·skip
              by_cases h13:c.rh < 0
              ·have E:=aq (may_not (c:=c) fun h=>by have:=h.dens.rhd;have:=h.sizes.den1;omega)
               go_enter Tryz.func87,Tryz.ntmps87
               go_wp2_with fail
               refine (CS.out _).mono ?_;rintro e w1 ⟨rfl,rfl⟩
               go_wp2_with fail
               refine (CL.out _).mono ?_;rintro e w1 ⟨rfl,rfl⟩;go_wp2;go_ret;rw [E.out];exact⟨rfl,B0.out⟩
              ·skip
               by_cases h14:2*c.rh < c.den
               ·have E:=aq (may_not (c:=c) fun h=>by have:=h.dens.rhd;omega)
                have sd:=P1.out.1;have sd2:=P2.out.1;have sd3:=P2.out.2.1;have qq:=Cf.mul_bd (a:=c.rl) (b:=c.least) (A:=64) (B:=256) (by omega) (by omega) (by omega) (by omega);obtain⟨qq0,qq1⟩:=qq
                go_enter Tryz.func87,Tryz.ntmps87
                go_wp2_with fail
                refine (CS.out _).mono ?_;rintro e w1 ⟨rfl,rfl⟩
                go_wp2_with fail
                refine (CL.out _).mono ?_;rintro e w1 ⟨rfl,rfl⟩;go_wp2;go_ret;rw [E.out];exact⟨rfl,B0.out⟩
               ·skip
                by_cases h15:c.den < 8*c.rl
                ·have E:=aq (may_not (c:=c) fun h=>by have:=h.dens.rld;omega)
                 have sd:=P1.out.1;have sd2:=P2.out.1;have sd3:=P2.out.2.1;have qq:=Cf.mul_bd (a:=c.rl) (b:=c.least) (A:=64) (B:=256) (by omega) (by omega) (by omega) (by omega);obtain⟨qq0,qq1⟩:=qq
                 go_enter Tryz.func87,Tryz.ntmps87
                 go_wp2_with fail
                 refine (CS.out _).mono ?_;rintro e w1 ⟨rfl,rfl⟩
                 go_wp2_with fail
                 refine (CL.out _).mono ?_;rintro e w1 ⟨rfl,rfl⟩;go_wp2;go_ret;rw [E.out];exact⟨rfl,B0.out⟩
                ·skip
                 have sd:=P1.out.1;have sd2:=P2.out.1;have sd3:=P2.out.2.1;have qq:=Cf.mul_bd (a:=c.rl) (b:=c.least) (A:=64) (B:=256) (by omega) (by omega) (by omega) (by omega);obtain⟨qq0,qq1⟩:=qq
                 by_cases h16:c.rl*c.least < 2*c.den
                 ·have E:=aq (may_not (c:=c) fun h=>by have:=h.dens.rll;omega)
                  go_enter Tryz.func87,Tryz.ntmps87
                  go_wp2_with fail
                  refine (CS.out _).mono ?_;rintro e w1 ⟨rfl,rfl⟩
                  go_wp2_with fail
                  refine (CL.out _).mono ?_;rintro e w1 ⟨rfl,rfl⟩;go_wp2;go_ret;rw [E.out];exact⟨rfl,B0.out⟩
                 ·skip
                  have hs:c.Sizes:=⟨by omega,by omega,by omega,P1.out.1,P1.out.2.1,P1.out.2.2,P2.out.1,P2.out.2.1,P2.out.2.2,by omega,by omega⟩;have hd:c.Dens:=⟨by omega,by omega,by omega,by omega,by omega,by omega,by omega⟩;have E:=aq (show c.mayB=c.fallsB by unfold Cf.mayB;rw [(Cf.sizes_iff c).2 hs,(Cf.dens_iff c).2 hd];rfl);have TB:=c.top_bd hs hd;have HB:=c.high_bd c.top TB.1 hs.seg1 TB.2;have CT:=aq (fun W=>r5Takes c c.most W hs hd (by omega) (by omega));have CH:=aq (fun W=>r5Height c c.top W hs.seg1 TB.1 (by omega));have HT:=aq (show c.takes c.most=c.top from rfl);rw [HT.out] at CT;have HF:=aq (show c.fallsB=decide (c.den*c.high c.top<=(c.lh-c.rh)*c.seg) by unfold Cf.fallsB;rw [Int.mul_comm (c.high c.top)]);have v1:=Cf.mul_bd (a:=c.den) (b:=c.high c.top) (A:=64) (B:=14) (by omega) (by omega) HB.1 HB.2;have v2:=Cf.mul_bd (a:=c.lh-c.rh) (b:=c.seg) (A:=64) (B:=64) (by omega) (by omega) (by omega) hs.seg2;obtain⟨H,hH⟩:∃ H,H=c.high c.top:=⟨_,rfl⟩;rw [<-hH] at HF v1 CH;clear hH;have y0:IntKind.i64.wrap (c.lh-c.rh)=c.lh-c.rh:=IntWalk.i64_in _ (by omega);have y1:IntKind.i64.wrap (c.den*H)=c.den*H:=IntWalk.i64_in _ (by omega);have y2:IntKind.i64.wrap ((c.lh-c.rh)*c.seg)=(c.lh-c.rh)*c.seg:=IntWalk.i64_in _ (by omega);clear hs hd TB HB v1 v2 HT;unfold cfv at CT CH
                  go_enter Tryz.func87,Tryz.ntmps87
                  go_wp2_with fail
                  refine (CS.out _).mono ?_;rintro e w1 ⟨rfl,rfl⟩
                  go_wp2_with fail
                  refine (CL.out _).mono ?_;rintro e w1 ⟨rfl,rfl⟩
                  go_upto_region 7 with (fail)
                  obtain⟨W5,hW5⟩:∃ W5,W5=w.alloc (.cells #[.int .u8 c.tag,.int .i64 c.most,.int .i64 c.seg,.int .i64 c.least,.int .i64 c.den,.int .i64 c.ll,.int .i64 c.rl,.int .i64 c.rh,.int .i64 c.lh] 23):=⟨_,rfl⟩;rw [<-hW5] at BX B0 ⊢;clear hW5;have B1:=aq B0.out.drew;have X0:=aq (BX.out.below ((Below.refl _ _).drew))
                  go_region_held3 (fun w'=>w'.cell? ⟨w.heap.size,0,none⟩=some (.int .u8 c.tag)/\w'.cell? ⟨w.heap.size,1,none⟩=some (.int .i64 c.most)/\w'.cell? ⟨w.heap.size,2,none⟩=some (.int .i64 c.seg)/\w'.cell? ⟨w.heap.size,3,none⟩=some (.int .i64 c.least)/\w'.cell? ⟨w.heap.size,4,none⟩=some (.int .i64 c.den)/\w'.cell? ⟨w.heap.size,5,none⟩=some (.int .i64 c.ll)/\w'.cell? ⟨w.heap.size,6,none⟩=some (.int .i64 c.rl)/\w'.cell? ⟨w.heap.size,7,none⟩=some (.int .i64 c.rh)/\w'.cell? ⟨w.heap.size,8,none⟩=some (.int .i64 c.lh))
                   (first | (with_reducible exact X0.out.reads) | (with_reducible exact X1.out.reads) | (with_reducible exact X2.out.reads))
                   (first | (go_at_call 135;(with_reducible refine (CT.out _).mono ?_);rintro e w1 ⟨rfl,hb1⟩;have X1:=aq (X0.out.below hb1);have B2:=aq (B1.out.trans (hb1.mono B1.out.size));clear hb1) | (go_at_call 134;(with_reducible refine (CH.out _).mono ?_);rintro e w2 ⟨rfl,hb2⟩;have X2:=aq (X1.out.below hb2);have B3:=aq (B2.out.trans (hb2.mono B2.out.size));clear hb2))
                  go_wp2;go_ret;rw [E.out,HF.out];exact⟨rfl,B3.out⟩
theorem is_power (c:Cf) (size:Int):powerB size c.least c.top=c.isB size:=by
 unfold powerB Cf.isB;rw [Bool.and_comm]
theorem r5Check (c:Cf) (w:World) (hc:c.In) :
  Calls Tryz.prog 52 #[cfv c] w fun e w'=>e=.returned (.int .i64 c.chkE)/\Below w.heap.size w w':=by
 have BX:=aq (CBox.new w c 23);have B0:=aq ((Below.refl w.heap.size w).alloc (Nat.le_refl _) (.cells (cfCells c) 23));have CK:=aq (fun W=>r5May c W hc);have E:=aq (show c.chkE=if c.mayB then 0 else 50 from rfl);clear hc;unfold cfCells at BX B0;obtain⟨b,hb⟩:∃ b,b=c.mayB:=⟨_,rfl⟩;rw [<-hb] at CK E;clear hb;unfold cfv at CK ⊢
 cases b
 all_goals
  go_enter Tryz.func52,Tryz.ntmps52
  go_wp2_with fail
  refine (CK.out _).mono ?_;rintro e w1 ⟨rfl,hb⟩;go_wp2;go_ret;rw [E.out];exact⟨rfl,B0.out.trans (hb.mono B0.out.size)⟩
theorem r5Is (c:Cf) (size:Int) (w:World) (hm:c.May) (hsz:size<=9223372036854775807) :
  Calls Tryz.prog 140 #[cfv c,.int .i64 size] w fun e w'=>e=.returned (.bool (c.isB size))/\Below w.heap.size w w':=by
 have BX:=aq (CBox.new w c 23);have B0:=aq ((Below.refl w.heap.size w).alloc (Nat.le_refl _) (.cells (cfCells c) 23));have CT:=aq (fun W=>r5Takes c c.most W hm.sizes hm.dens (by have:=hm.sizes.most1;omega) hm.sizes.most2);have HT:=aq (show c.takes c.most=c.top from rfl);rw [HT.out] at CT;have CP:=aq (fun W=>r5power size c.least c.top W hsz);have E:=aq (is_power c size);clear hm HT;unfold cfCells at BX B0;unfold cfv at CT ⊢
 go_enter Tryz.func140,Tryz.ntmps140
 go_upto_region 1 with (fail)
 obtain⟨W5,hW5⟩:∃ W5,W5=w.alloc (.cells #[.int .u8 c.tag,.int .i64 c.most,.int .i64 c.seg,.int .i64 c.least,.int .i64 c.den,.int .i64 c.ll,.int .i64 c.rl,.int .i64 c.rh,.int .i64 c.lh] 23):=⟨_,rfl⟩;rw [<-hW5] at BX B0 ⊢;clear hW5;have B1:=aq B0.out.drew;have X0:=aq (BX.out.below ((Below.refl _ _).drew))
 go_region_held3 (fun w'=>w'.cell? ⟨w.heap.size,0,none⟩=some (.int .u8 c.tag)/\w'.cell? ⟨w.heap.size,1,none⟩=some (.int .i64 c.most)/\w'.cell? ⟨w.heap.size,2,none⟩=some (.int .i64 c.seg)/\w'.cell? ⟨w.heap.size,3,none⟩=some (.int .i64 c.least)/\w'.cell? ⟨w.heap.size,4,none⟩=some (.int .i64 c.den)/\w'.cell? ⟨w.heap.size,5,none⟩=some (.int .i64 c.ll)/\w'.cell? ⟨w.heap.size,6,none⟩=some (.int .i64 c.rl)/\w'.cell? ⟨w.heap.size,7,none⟩=some (.int .i64 c.rh)/\w'.cell? ⟨w.heap.size,8,none⟩=some (.int .i64 c.lh))
  (first | (with_reducible exact X0.out.reads) | (with_reducible exact X1.out.reads))
  (first | (go_at_call 135;(with_reducible refine (CT.out _).mono ?_);rintro e w1 ⟨rfl,hb1⟩;have X1:=aq (X0.out.below hb1);have B2:=aq (B1.out.trans (hb1.mono B1.out.size));clear hb1) | (go_at_call 133;(with_reducible refine (CP.out _).mono ?_);rintro e w2 ⟨rfl,rfl⟩))
 go_wp2;go_ret;rw [E.out];exact⟨rfl,B2.out⟩
theorem r5NotMany (c:Cf) (size h n:Int) (w:World) (K:c.Ok size h n) :
  Calls Tryz.prog 189 #[cfv c,.int .i64 size,.int .i64 h,.int .i64 n] w fun e w'=>e=.returned (.bool (c.manyB size h n))/\Below w.heap.size w w':=by
 have BX:=aq (CBox.new w c 23);have B0:=aq ((Below.refl w.heap.size w).alloc (Nat.le_refl _) (.cells (cfCells c) 23));have bd:=K.bd;have SB:=K.may.size_bd K.is;have d1:=K.may.sizes.den1;have d2:=K.may.sizes.den2;have e1:=K.may.dens.ll0;have e2:=K.may.dens.llrl;have e3:=K.may.dens.rhlh;have e4:=K.may.dens.lhd;have e5:=K.may.dens.rld;have e6:=K.may.dens.rh1 K.may.sizes;have n0:=K.n0;have n1:=K.n1;have h0:=K.h0;have h1:=K.h1;obtain⟨i0,i1,w4,w1,s1,s0,p0,p1,u0,u1,v0,v1,l0,l1,m0,m1⟩:=bd;have g1:=K.may.sizes.seg1;have g2:=K.may.sizes.seg2;have CH:=aq (fun W=>r5Height c size W g1 SB.1 (by omega));have CS:=aq (fun W=>r5Wide c h W g1 g2 h0 (by omega));clear K SB;unfold cfCells at BX B0;have HM:=aq (show c.manyB size h n=if c.high size=0 then decide (n*c.den<=c.wide h*c.rh) else decide (n*c.high size*c.den<=c.wide h*(c.lh*(c.high size-h)+c.rh*h)) from rfl);obtain⟨H,hH⟩:∃ H,H=c.high size:=⟨_,rfl⟩;rw [<-hH] at CH HM p0 p1 i0 i1 h1 u0 u1;clear hH;obtain⟨X,hX⟩:∃ X,X=c.wide h:=⟨_,rfl⟩;rw [<-hX] at CS HM w4 w1 n1;clear hX
 by_cases hz:H=0
 ·have E:=aq (show c.manyB size h n=decide (n*c.den<=X*c.rh) by rw [HM.out,if_pos hz])
  have a1:=Cf.mul_bd (a:=n) (b:=c.den) (A:=65535) (B:=64) n0 (by omega) (by omega) d2;have a2:=Cf.mul_bd (a:=X) (b:=c.rh) (A:=65535) (B:=64) (by omega) (by omega) (by omega) (by omega);have y1:IntKind.i64.wrap (n*c.den)=n*c.den:=IntWalk.i64_in _ (by omega);have y2:IntKind.i64.wrap (X*c.rh)=X*c.rh:=IntWalk.i64_in _ (by omega);clear a1 a2 u0 u1 v0 v1 l0 l1 m0 m1 p0 p1;rw [hz] at CH;clear hz;unfold cfv at CH CS ⊢
  go_enter Tryz.func189,Tryz.ntmps189
  go_wp2_with fail
  refine (CH.out _).mono ?_;rintro e w1 ⟨rfl,hb⟩;have B1:=aq (B0.out.trans (hb.mono B0.out.size)).drew;have X1:=aq ((BX.out.below hb).below ((Below.refl _ _).drew));have c3:=X1.out.c3;clear hb
  go_upto_region 3 with (fail)
  go_region_held3 (fun w'=>w'.cell? ⟨w.heap.size,0,none⟩=some (.int .u8 c.tag)/\w'.cell? ⟨w.heap.size,1,none⟩=some (.int .i64 c.most)/\w'.cell? ⟨w.heap.size,2,none⟩=some (.int .i64 c.seg)/\w'.cell? ⟨w.heap.size,3,none⟩=some (.int .i64 c.least)/\w'.cell? ⟨w.heap.size,4,none⟩=some (.int .i64 c.den)/\w'.cell? ⟨w.heap.size,5,none⟩=some (.int .i64 c.ll)/\w'.cell? ⟨w.heap.size,6,none⟩=some (.int .i64 c.rl)/\w'.cell? ⟨w.heap.size,7,none⟩=some (.int .i64 c.rh)/\w'.cell? ⟨w.heap.size,8,none⟩=some (.int .i64 c.lh))
   (first | (with_reducible exact X1.out.reads) | (with_reducible exact X2.out.reads))
   (first | (go_at_call 188;(with_reducible refine (CS.out _).mono ?_);rintro e w2 ⟨rfl,hb2⟩;have X2:=aq (X1.out.below hb2);have B2:=aq (B1.out.trans (hb2.mono B1.out.size));clear hb2))
  go_wp2;go_ret;rw [E.out];exact⟨rfl,B2.out⟩
 ·have E:=aq (show c.manyB size h n=decide (n*H*c.den<=X*(c.lh*(H-h)+c.rh*h)) by rw [HM.out,if_neg hz])
  have hz':(H==0)=false:=by simpa using hz
  have a1:=Cf.mul_bd (a:=n) (b:=H) (A:=65535) (B:=14) n0 (by omega) (by omega) (by omega);have a2:=Cf.mul_bd (a:=n*H) (b:=c.den) (A:=65535*14) (B:=64) a1.1 a1.2 (by omega) d2;have a3:=Cf.mul_bd (a:=X) (b:=c.lh*(H-h)+c.rh*h) (A:=65535) (B:=1792) (by omega) (by omega) (by omega) (by omega);have y1:IntKind.i64.wrap (n*H)=n*H:=IntWalk.i64_in _ (by omega);have y2:IntKind.i64.wrap (n*H*c.den)=n*H*c.den:=IntWalk.i64_in _ (by omega);have y3:IntKind.i64.wrap (H-h)=H-h:=IntWalk.i64_in _ (by omega);have y4:IntKind.i64.wrap (c.lh*(H-h))=c.lh*(H-h):=IntWalk.i64_in _ (by omega);have y5:IntKind.i64.wrap (c.rh*h)=c.rh*h:=IntWalk.i64_in _ (by omega);have y6:IntKind.i64.wrap (c.lh*(H-h)+c.rh*h)=c.lh*(H-h)+c.rh*h:=IntWalk.i64_in _ (by omega);have y7:IntKind.i64.wrap (X*(c.lh*(H-h)+c.rh*h))=X*(c.lh*(H-h)+c.rh*h):=IntWalk.i64_in _ (by omega);clear a1 a2 a3 u0 u1 v0 v1 l0 l1 m0 m1 p0 p1 hz;unfold cfv at CH CS ⊢
  go_enter Tryz.func189,Tryz.ntmps189
  go_wp2_with fail
  refine (CH.out _).mono ?_;rintro e w1 ⟨rfl,hb⟩;have B1:=aq (B0.out.trans (hb.mono B0.out.size)).drew;have X1:=aq ((BX.out.below hb).below ((Below.refl _ _).drew));have c3:=X1.out.c3;clear hb
  go_upto_region 4 with (fail)
  go_region_held3 (fun w'=>w'.cell? ⟨w.heap.size,0,none⟩=some (.int .u8 c.tag)/\w'.cell? ⟨w.heap.size,1,none⟩=some (.int .i64 c.most)/\w'.cell? ⟨w.heap.size,2,none⟩=some (.int .i64 c.seg)/\w'.cell? ⟨w.heap.size,3,none⟩=some (.int .i64 c.least)/\w'.cell? ⟨w.heap.size,4,none⟩=some (.int .i64 c.den)/\w'.cell? ⟨w.heap.size,5,none⟩=some (.int .i64 c.ll)/\w'.cell? ⟨w.heap.size,6,none⟩=some (.int .i64 c.rl)/\w'.cell? ⟨w.heap.size,7,none⟩=some (.int .i64 c.rh)/\w'.cell? ⟨w.heap.size,8,none⟩=some (.int .i64 c.lh))
   (first | (with_reducible exact X1.out.reads) | (with_reducible exact X2.out.reads))
   (first | (go_at_call 188;(with_reducible refine (CS.out _).mono ?_);rintro e w2 ⟨rfl,hb2⟩;have X2:=aq (X1.out.below hb2);have B2:=aq (B1.out.trans (hb2.mono B1.out.size));clear hb2))
  go_wp2;go_ret;rw [E.out];exact⟨rfl,B2.out⟩
theorem r5NotFew (c:Cf) (size h n:Int) (w:World) (K:c.Ok size h n) :
  Calls Tryz.prog 158 #[cfv c,.int .i64 size,.int .i64 h,.int .i64 n] w fun e w'=>e=.returned (.bool (c.fewB size h n))/\Below w.heap.size w w':=by
 have BX:=aq (CBox.new w c 23);have B0:=aq ((Below.refl w.heap.size w).alloc (Nat.le_refl _) (.cells (cfCells c) 23));have bd:=K.bd;have SB:=K.may.size_bd K.is;have d1:=K.may.sizes.den1;have d2:=K.may.sizes.den2;have e1:=K.may.dens.ll0;have e2:=K.may.dens.llrl;have e3:=K.may.dens.rhlh;have e4:=K.may.dens.lhd;have e5:=K.may.dens.rld;have e6:=K.may.dens.rh1 K.may.sizes;have n0:=K.n0;have n1:=K.n1;have h0:=K.h0;have h1:=K.h1;obtain⟨i0,i1,w4,w1,s1,s0,p0,p1,u0,u1,v0,v1,l0,l1,m0,m1⟩:=bd;have g1:=K.may.sizes.seg1;have g2:=K.may.sizes.seg2;have CH:=aq (fun W=>r5Height c size W g1 SB.1 (by omega));have CS:=aq (fun W=>r5Wide c h W g1 g2 h0 (by omega));clear K SB;unfold cfCells at BX B0;have HM:=aq (show c.fewB size h n=(size==c.least||decide (c.wide h*(c.ll*(c.high size-h)+c.rl*h)<=(n+1)*c.high size*c.den)) from rfl);obtain⟨H,hH⟩:∃ H,H=c.high size:=⟨_,rfl⟩;rw [<-hH] at CH HM p0 p1 i0 i1 h1 l0 l1;clear hH;obtain⟨X,hX⟩:∃ X,X=c.wide h:=⟨_,rfl⟩;rw [<-hX] at CS HM w4 w1 n1;clear hX
 by_cases hz:size=c.least
 ·have hz':(size==c.least)=true:=by simpa using hz
  have E:=aq (show c.fewB size h n=true by rw [HM.out,hz',Bool.true_or]);clear hz u0 u1 v0 v1 l0 l1 m0 m1 p0 p1;unfold cfv at CH CS ⊢
  go_enter Tryz.func158,Tryz.ntmps158
  go_wp2_with fail
  refine (CH.out _).mono ?_;rintro e w1 ⟨rfl,hb⟩;have B1:=aq (B0.out.trans (hb.mono B0.out.size));have X1:=aq (BX.out.below hb);have c3:=X1.out.c3;clear hb
  go_upto_region 2 with (fail)
  go_quiet (fail)
  have B2:=aq (show Below w.heap.size w (w1.drewN nq) from below_drewN B1.out nq);go_wp2;go_ret;rw [E.out];exact⟨rfl,B2.out⟩
 ·have hz':(size==c.least)=false:=by simpa using hz
  have E:=aq (show c.fewB size h n=decide (X*(c.ll*(H-h)+c.rl*h)<=(n+1)*H*c.den) by rw [HM.out,hz',Bool.false_or]);have a1:=Cf.mul_bd (a:=n+1) (b:=H) (A:=65536) (B:=14) (by omega) (by omega) (by omega) (by omega);have a2:=Cf.mul_bd (a:=(n+1)*H) (b:=c.den) (A:=65536*14) (B:=64) a1.1 a1.2 (by omega) d2;have a3:=Cf.mul_bd (a:=X) (b:=c.ll*(H-h)+c.rl*h) (A:=65535) (B:=1792) (by omega) (by omega) (by omega) (by omega);have y0:IntKind.i64.wrap (n+1)=n+1:=IntWalk.i64_in _ (by omega);have y1:IntKind.i64.wrap ((n+1)*H)=(n+1)*H:=IntWalk.i64_in _ (by omega);have y2:IntKind.i64.wrap ((n+1)*H*c.den)=(n+1)*H*c.den:=IntWalk.i64_in _ (by omega);have y3:IntKind.i64.wrap (H-h)=H-h:=IntWalk.i64_in _ (by omega);have y4:IntKind.i64.wrap (c.ll*(H-h))=c.ll*(H-h):=IntWalk.i64_in _ (by omega);have y5:IntKind.i64.wrap (c.rl*h)=c.rl*h:=IntWalk.i64_in _ (by omega);have y6:IntKind.i64.wrap (c.ll*(H-h)+c.rl*h)=c.ll*(H-h)+c.rl*h:=IntWalk.i64_in _ (by omega);have y7:IntKind.i64.wrap (X*(c.ll*(H-h)+c.rl*h))=X*(c.ll*(H-h)+c.rl*h):=IntWalk.i64_in _ (by omega);clear a1 a2 a3 u0 u1 v0 v1 l0 l1 m0 m1 p0 p1 hz;unfold cfv at CH CS ⊢
  go_enter Tryz.func158,Tryz.ntmps158
  go_wp2_with fail
  refine (CH.out _).mono ?_;rintro e w1 ⟨rfl,hb⟩;have B1:=aq (B0.out.trans (hb.mono B0.out.size)).drew;have X1:=aq ((BX.out.below hb).below ((Below.refl _ _).drew));have c3:=X1.out.c3;clear hb
  go_upto_region 2 with (fail)
  go_region_held3 (fun w'=>w'.cell? ⟨w.heap.size,0,none⟩=some (.int .u8 c.tag)/\w'.cell? ⟨w.heap.size,1,none⟩=some (.int .i64 c.most)/\w'.cell? ⟨w.heap.size,2,none⟩=some (.int .i64 c.seg)/\w'.cell? ⟨w.heap.size,3,none⟩=some (.int .i64 c.least)/\w'.cell? ⟨w.heap.size,4,none⟩=some (.int .i64 c.den)/\w'.cell? ⟨w.heap.size,5,none⟩=some (.int .i64 c.ll)/\w'.cell? ⟨w.heap.size,6,none⟩=some (.int .i64 c.rl)/\w'.cell? ⟨w.heap.size,7,none⟩=some (.int .i64 c.rh)/\w'.cell? ⟨w.heap.size,8,none⟩=some (.int .i64 c.lh))
   (first | (with_reducible exact X1.out.reads) | (with_reducible exact X2.out.reads))
   (first | (go_at_call 188;(with_reducible refine (CS.out _).mono ?_);rintro e w2 ⟨rfl,hb2⟩;have X2:=aq (X1.out.below hb2);have B2:=aq (B1.out.trans (hb2.mono B1.out.size));clear hb2))
  go_wp2;go_ret;rw [E.out];exact⟨rfl,B2.out⟩
end Go.Proofs.YtpeckljoannolaaGreatDoor

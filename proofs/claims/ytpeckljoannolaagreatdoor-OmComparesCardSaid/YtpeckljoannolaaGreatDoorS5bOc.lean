/- Configs: capacities and all that may be asked of one. -/
import Derived.Test.YtpeckljoannolaaGreatDoorP5bOc
import Derived.BigQuiet
import Derived.Test.YtpeckljoannolaaGreatDoorTkOc
set_option linter.unusedVariables false
set_option linter.unusedSimpArgs false
set_option maxHeartbeats 4000000
set_option maxRecDepth 100000
namespace Go.Proofs.YtpeckljoannolaaGreatDoor
open Go.RowKit
namespace Cf
structure May (c:Cf):Prop where
 sizes:c.Sizes
 dens:c.Dens
 falls:c.high c.top*c.den<=(c.lh-c.rh)*c.seg
theorem may_iff (c:Cf):c.mayB=true↔c.May:=by
 unfold mayB;rw [Bool.and_eq_true,Bool.and_eq_true,sizes_iff,dens_iff];unfold fallsB;rw [decide_eq_true_eq];exact⟨fun ⟨⟨a,b⟩,d⟩=>⟨a,b,d⟩,fun ⟨a,b,d⟩=>⟨⟨a,b⟩,d⟩⟩
theorem chk_may {c:Cf} (h:c.mayB=true):c.chkE=0:=by unfold chkE;rw [h];rfl
theorem chk_mayn {c:Cf} (h:c.mayB=false):c.chkE=50:=by unfold chkE;rw [h];rfl
end Cf
theorem kCap (c:Cf) (n:Int) (w:World) (hc:c.In) :
  Calls Tryz.prog 233 #[cfv c,.int .i64 n] w fun e w'=>e=.returned (.tuple #[.int .i64 (c.capV n),.int .i64 (c.capE n)])/\Below w.heap.size w w':=by
 have BX:=aq (CBox.new w c 23);have B0:=aq ((Below.refl w.heap.size w).alloc (Nat.le_refl _) (.cells (cfCells c) 23));have CK:=aq (fun W=>kCheck c W hc);clear hc;unfold cfCells at BX B0
 cases hm:c.mayB
 ·have E:=aq (show c.capV n=0/\c.capE n=50 by unfold Cf.capV Cf.capE;rw [hm];exact⟨rfl,rfl⟩)
  rw [Cf.chk_mayn hm] at CK;clear hm;unfold cfv at CK ⊢
  go_enter Tryz.func233,Tryz.ntmps233
  go_wp2_with fail
  refine (CK.out _).mono ?_;rintro e w1 ⟨rfl,hb⟩;go_wp2;go_ret2;rw [E.out.1,E.out.2];exact⟨rfl,B0.out.trans (hb.mono B0.out.size)⟩
 ·have M:=(Cf.may_iff c).1 hm
  rw [Cf.chk_may hm] at CK
  by_cases h1:n < 0
  ·have E:=aq (show c.capV n=0/\c.capE n=2 by unfold Cf.capV Cf.capE;rw [hm,if_pos rfl,if_pos rfl,if_pos h1,if_pos h1];exact⟨rfl,rfl⟩)
   clear hm M;unfold cfv at CK ⊢
   go_enter Tryz.func233,Tryz.ntmps233
   go_wp2_with fail
   refine (CK.out _).mono ?_;rintro e w1 ⟨rfl,hb⟩;go_wp2;go_ret2;rw [E.out.1,E.out.2];exact⟨rfl,B0.out.trans (hb.mono B0.out.size)⟩
  ·by_cases h2:c.most < n
   ·have E:=aq (show c.capV n=0/\c.capE n=4 by unfold Cf.capV Cf.capE;rw [hm,if_pos rfl,if_pos rfl,if_neg h1,if_neg h1,if_pos h2,if_pos h2];exact⟨rfl,rfl⟩)
    clear hm M;unfold cfv at CK ⊢
    go_enter Tryz.func233,Tryz.ntmps233
    go_wp2_with fail
    refine (CK.out _).mono ?_;rintro e w1 ⟨rfl,hb⟩;have c1:=(BX.out.below hb).c1;go_wp2;go_ret2;rw [E.out.1,E.out.2];exact⟨rfl,B0.out.trans (hb.mono B0.out.size)⟩
   ·have E:=aq (show c.capV n=c.takes n/\c.capE n=0 by unfold Cf.capV Cf.capE;rw [hm,if_pos rfl,if_pos rfl,if_neg h1,if_neg h1,if_neg h2,if_neg h2];exact⟨rfl,rfl⟩)
    have CC:=aq (fun W=>kCapacityFor c n W M.sizes M.dens (by omega) (by have:=M.sizes.most2;omega));clear hm M;unfold cfv at CK CC ⊢
    go_enter Tryz.func233,Tryz.ntmps233
    go_wp2_with fail
    refine (CK.out _).mono ?_;rintro e w1 ⟨rfl,hb⟩;have B1:=aq (B0.out.trans (hb.mono B0.out.size));obtain⟨_,c0,c1,c2,c3,c4,c5,c6,c7,c8,_⟩:=BX.out.below hb;clear hb
    go_wp2_with fail
    refine (CC.out _).mono ?_;rintro e w2 ⟨rfl,hb⟩;go_wp2;go_ret2;rw [E.out.1,E.out.2];exact⟨rfl,B1.out.trans (hb.mono B1.out.size)⟩
namespace Cf
theorem high_no {c:Cf} {size:Int} (h:c.mayB=false):c.highV size=0/\c.highE size=50:=by
 unfold highV highE;rw [h];exact⟨rfl,rfl⟩
theorem high_not {c:Cf} {size:Int} (h:c.mayB=true) (hi:c.isB size=false):c.highV size=0/\c.highE size=2:=by
 unfold highV highE;rw [h,hi];exact⟨rfl,rfl⟩
theorem high_yes {c:Cf} {size:Int} (h:c.mayB=true) (hi:c.isB size=true):c.highV size=c.high size/\c.highE size=0:=by
 unfold highV highE;rw [h,hi];exact⟨rfl,rfl⟩
structure Is (c:Cf) (size:Int):Prop where
 pow:Fr.powB size=true
 lo:c.least<=size
 hi:size<=c.top
theorem is_iff (c:Cf) (size:Int):c.isB size=true↔c.Is size:=by
 unfold isB;rw [Bool.and_eq_true,Bool.and_eq_true,decide_eq_true_eq,decide_eq_true_eq];exact⟨fun ⟨a,b,d⟩=>⟨a,b,d⟩,fun ⟨a,b,d⟩=>⟨a,b,d⟩⟩
theorem May.size_bd {c:Cf} {size:Int} (h:c.May) (hi:c.Is size):c.seg<=size/\size<=65535:=by
 have h1:=h.sizes.least1;have h2:=(top_bd h.sizes h.dens).2;have h3:=hi.lo;have h4:=hi.hi
 omega
end Cf
theorem kHigh (c:Cf) (size:Int) (w:World) (hc:c.In) (hsz:size<=9223372036854775807) :
  Calls Tryz.prog 128 #[cfv c,.int .i64 size] w fun e w'=>e=.returned (.tuple #[.int .i64 (c.highV size),.int .i64 (c.highE size)])/\Below w.heap.size w w':=by
 have BX:=aq (CBox.new w c 23);have B0:=aq ((Below.refl w.heap.size w).alloc (Nat.le_refl _) (.cells (cfCells c) 23));have CK:=aq (fun W=>kCheck c W hc);have CP:=aq (fun W=>fPower size W hsz);clear hc;unfold cfCells at BX B0
 cases hm:c.mayB
 ·have E:=aq (Cf.high_no (size:=size) hm)
  rw [Cf.chk_mayn hm] at CK;clear hm;unfold cfv at CK ⊢
  go_enter Tryz.func128,Tryz.ntmps128
  go_wp2_with fail
  refine (CK.out _).mono ?_;rintro e w1 ⟨rfl,hb⟩;go_wp2;go_ret2;rw [E.out.1,E.out.2];exact⟨rfl,B0.out.trans (hb.mono B0.out.size)⟩
 ·have M:=(Cf.may_iff c).1 hm
  rw [Cf.chk_may hm] at CK
  cases hp:Fr.powB size
  ·have E:=aq (Cf.high_not (size:=size) hm (by unfold Cf.isB;rw [hp];rfl))
   rw [hp] at CP;clear hm M hp;unfold cfv at CK ⊢
   go_enter Tryz.func128,Tryz.ntmps128
   go_wp2_with fail
   refine (CK.out _).mono ?_;rintro e w1 ⟨rfl,hb⟩;have B1:=aq (B0.out.trans (hb.mono B0.out.size));clear hb;go_wp2
   go_quiet ((go_at_call 162;exact Calls.quiet_of_same (still_of (CP.out _))))
   have B2:=aq (show Below w.heap.size w (w1.drewN nq) from below_drewN B1.out nq);go_wp2;go_ret2;rw [E.out.1,E.out.2];exact⟨rfl,B2.out⟩
  ·have TB:=c.top_bd M.sizes M.dens
   have CC:=aq (fun W=>kCapacityFor c c.most W M.sizes M.dens (by have:=M.sizes.most1;omega) M.sizes.most2);have HT:=aq (show c.takes c.most=c.top from rfl);rw [HT.out] at CC;have CW:=aq (fun W=>kWithin size c.least c.top W);rw [hp] at CP
   cases hi:withinB size c.least c.top
   ·have E:=aq (Cf.high_not (size:=size) hm (by unfold Cf.isB;rw [hp,Bool.true_and];exact hi))
    rw [hi] at CW;clear hm M hp hi;unfold cfv at CK CC ⊢
    go_enter Tryz.func128,Tryz.ntmps128
    go_wp2_with fail
    refine (CK.out _).mono ?_;rintro e w1 ⟨rfl,hb⟩;have B1:=aq (B0.out.trans (hb.mono B0.out.size)).drew;have X0:=aq ((BX.out.below hb).below ((Below.refl _ _).drew));clear hb;go_wp2
    go_region_held3 (fun w'=>w'.cell? ⟨w.heap.size,0,none⟩=some (.int .u8 c.tag)/\w'.cell? ⟨w.heap.size,1,none⟩=some (.int .i64 c.most)/\w'.cell? ⟨w.heap.size,2,none⟩=some (.int .i64 c.seg)/\w'.cell? ⟨w.heap.size,3,none⟩=some (.int .i64 c.least)/\w'.cell? ⟨w.heap.size,4,none⟩=some (.int .i64 c.den)/\w'.cell? ⟨w.heap.size,5,none⟩=some (.int .i64 c.ll)/\w'.cell? ⟨w.heap.size,6,none⟩=some (.int .i64 c.rl)/\w'.cell? ⟨w.heap.size,7,none⟩=some (.int .i64 c.rh)/\w'.cell? ⟨w.heap.size,8,none⟩=some (.int .i64 c.lh))
     (first | (with_reducible exact X0.out.reads) | (with_reducible exact X2.out.reads))
     (first | (go_at_call 162;(with_reducible refine (CP.out _).mono ?_);rintro e w3 ⟨rfl,rfl⟩) | (go_at_call 165;(with_reducible refine (CC.out _).mono ?_);rintro e w2 ⟨rfl,hb2⟩;have X2:=aq (X0.out.below hb2);have B2:=aq (B1.out.trans (hb2.mono B1.out.size));clear hb2) | (go_at_call 161;(with_reducible refine (CW.out _).mono ?_);rintro e w3 ⟨rfl,rfl⟩))
    go_wp2;go_ret2;rw [E.out.1,E.out.2];exact⟨rfl,B2.out⟩
   ·have hI:c.isB size=true:=by unfold Cf.isB;rw [hp,Bool.true_and];exact hi
    have E:=aq (Cf.high_yes (size:=size) hm hI);have SB:=M.size_bd ((Cf.is_iff c size).1 hI);have CH:=aq (fun W=>kHeightOf c size W M.sizes.seg1 SB.1 (by omega));rw [hi] at CW;clear hm M hp hi hI SB;unfold cfv at CK CC CH ⊢
    go_enter Tryz.func128,Tryz.ntmps128
    go_wp2_with fail
    refine (CK.out _).mono ?_;rintro e w1 ⟨rfl,hb⟩;have B1:=aq (B0.out.trans (hb.mono B0.out.size)).drew;have X0:=aq ((BX.out.below hb).below ((Below.refl _ _).drew));clear hb;go_wp2
    go_region_held3 (fun w'=>w'.cell? ⟨w.heap.size,0,none⟩=some (.int .u8 c.tag)/\w'.cell? ⟨w.heap.size,1,none⟩=some (.int .i64 c.most)/\w'.cell? ⟨w.heap.size,2,none⟩=some (.int .i64 c.seg)/\w'.cell? ⟨w.heap.size,3,none⟩=some (.int .i64 c.least)/\w'.cell? ⟨w.heap.size,4,none⟩=some (.int .i64 c.den)/\w'.cell? ⟨w.heap.size,5,none⟩=some (.int .i64 c.ll)/\w'.cell? ⟨w.heap.size,6,none⟩=some (.int .i64 c.rl)/\w'.cell? ⟨w.heap.size,7,none⟩=some (.int .i64 c.rh)/\w'.cell? ⟨w.heap.size,8,none⟩=some (.int .i64 c.lh))
     (first | (with_reducible exact X0.out.reads) | (with_reducible exact X2.out.reads))
     (first | (go_at_call 162;(with_reducible refine (CP.out _).mono ?_);rintro e w3 ⟨rfl,rfl⟩) | (go_at_call 165;(with_reducible refine (CC.out _).mono ?_);rintro e w2 ⟨rfl,hb2⟩;have X2:=aq (X0.out.below hb2);have B2:=aq (B1.out.trans (hb2.mono B1.out.size));clear hb2) | (go_at_call 161;(with_reducible refine (CW.out _).mono ?_);rintro e w3 ⟨rfl,rfl⟩))
    obtain⟨_,c0,c1,c2,c3,c4,c5,c6,c7,c8,_⟩:=X2.out
    go_wp2_with fail
    refine (CH.out _).mono ?_;rintro e w4 ⟨rfl,hb⟩;go_wp2;go_ret2;rw [E.out.1,E.out.2];exact⟨rfl,B2.out.trans (hb.mono B2.out.size)⟩
namespace Cf
def cwV (c:Cf) (size h n:Int):Int:=if c.okB size h n then c.high size else 0
theorem ask_bad {c:Cf} {size:Int} (h:Int) (n:Int) (hh:c.mayB=false∨c.isB size=false):c.askE size h n=c.highE size/\c.cwV size h n=0/\(c.highE size != 0)=true/\c.highV size=0:=by
 unfold askE cwV okB highE highV
 cases hm:c.mayB
 ·exact⟨rfl,rfl,rfl,rfl⟩
 ·cases hi:c.isB size
  ·exact⟨rfl,rfl,rfl,rfl⟩
  ·rw [hm,hi] at hh;rcases hh with hh | hh<;>cases hh
theorem ask_in {c:Cf} {size h n:Int} (hm:c.mayB=true) (hi:c.isB size=true):c.askE size h n=(if c.inB size h n then 0 else 2)/\c.cwV size h n=if c.inB size h n then c.high size else 0:=by
 unfold askE cwV okB;rw [hm,hi];exact⟨rfl,rfl⟩
end Cf
theorem kCheckWindow (c:Cf) (size h n:Int) (w:World) (hc:c.In) (hsz:size<=9223372036854775807) :
  Calls Tryz.prog 216 #[cfv c,.int .i64 size,.int .i64 h,.int .i64 n] w fun e w'=>e=.returned (.tuple #[.int .i64 (c.cwV size h n),.int .i64 (c.askE size h n)])/\Below w.heap.size w w':=by
 have BX:=aq (CBox.new w c 23);have B0:=aq ((Below.refl w.heap.size w).alloc (Nat.le_refl _) (.cells (cfCells c) 23));have CK:=aq (fun W=>kHigh c size W hc hsz);clear hc;unfold cfCells at BX B0
 by_cases hbad:c.mayB=false∨c.isB size=false
 ·have E:=aq (Cf.ask_bad h n hbad)
  have k1:=E.out.2.2.1;rw [E.out.2.2.2] at CK;clear hbad;obtain⟨x,hx⟩:∃ x,x=c.highE size:=⟨_,rfl⟩;rw [<-hx] at k1 CK E;clear hx;unfold cfv at CK ⊢
  go_enter Tryz.func216,Tryz.ntmps216
  go_wp2_with fail
  refine (CK.out _).mono ?_;rintro e w1 ⟨rfl,hb⟩;go_wp2;go_ret2;rw [E.out.1,E.out.2.1];exact⟨rfl,B0.out.trans (hb.mono B0.out.size)⟩
 ·have hm:c.mayB=true:=by cases hq:c.mayB<;>simp [hq] at hbad ⊢
  have hi:c.isB size=true:=by cases hq:c.isB size<;>simp [hq] at hbad ⊢
  have M:=(Cf.may_iff c).1 hm;have SB:=M.size_bd ((Cf.is_iff c size).1 hi);have HB:=c.high_bd size SB.1 M.sizes.seg1 SB.2;rw [(Cf.high_yes hm hi).1,(Cf.high_yes hm hi).2] at CK;have E:=aq (Cf.ask_in (h:=h) (n:=n) hm hi);have CW:=aq (fun W=>kWithin h 0 (c.high size) W);have HIN:=aq (show c.inB size h n=(withinB h 0 (c.high size)&&withinB n 0 (c.wide h)) from rfl);have s1:=M.sizes.seg1;have s2:=M.sizes.seg2;clear hbad hm hi M SB
  cases hw:withinB h 0 (c.high size)
  ·rw [hw] at CW HIN
   rw [HIN.out] at E;clear hw HIN;unfold cfv at CK ⊢
   go_enter Tryz.func216,Tryz.ntmps216
   go_wp2_with fail
   refine (CK.out _).mono ?_;rintro e w1 ⟨rfl,hb⟩
   go_wp2_with fail
   refine (CW.out _).mono ?_;rintro e w2 ⟨rfl,rfl⟩;go_wp2;go_ret2;rw [E.out.1,E.out.2];exact⟨rfl,B0.out.trans (hb.mono B0.out.size)⟩
  ·have hh:0<=h/\h<=c.high size:=by simpa [withinB] using hw
   have CS:=aq (fun W=>kSlotsOf c h W s1 s2 hh.1 (by omega));have CN:=aq (fun W=>kWithin n 0 (c.wide h) W);rw [hw,Bool.true_and] at HIN;rw [hw] at CW;rw [HIN.out] at E;clear hw HIN hh;obtain⟨b,hb0⟩:∃ b,b=withinB n 0 (c.wide h):=⟨_,rfl⟩;rw [<-hb0] at E CN;clear hb0;unfold cfv at CK CS ⊢
   cases b
   all_goals
    go_enter Tryz.func216,Tryz.ntmps216
    go_wp2_with fail
    refine (CK.out _).mono ?_;rintro e w1 ⟨rfl,hb⟩;have B1:=aq (B0.out.trans (hb.mono B0.out.size));obtain⟨_,c0,c1,c2,c3,c4,c5,c6,c7,c8,_⟩:=BX.out.below hb;clear hb
    go_wp2_with fail
    refine (CW.out _).mono ?_;rintro e w2 ⟨rfl,rfl⟩
    go_wp2_with fail
    refine (CS.out _).mono ?_;rintro e w2 ⟨rfl,hb⟩;have B2:=aq (B1.out.trans (hb.mono B1.out.size));clear hb c0 c1 c2 c3 c4 c5 c6 c7 c8
    go_wp2_with fail
    refine (CN.out _).mono ?_;rintro e w3 ⟨rfl,rfl⟩;go_wp2;go_ret2;rw [E.out.1,E.out.2];exact⟨rfl,B2.out⟩
end Go.Proofs.YtpeckljoannolaaGreatDoor
namespace Go.Proofs.YtpeckljoannolaaGreatDoor
theorem pow_of {n:Int} (h:Fr.powB n=true):∃ a:Nat,n=2^a/\(a:Int)=Fr.lg n:=by
 have h1:=(Fr.powB_true h).1;have h2:=Fr.powB_pow n h1;rw [h] at h2
 have h3:(2:Int)^(Fr.lg n).toNat=n:=by simpa using h2.symm
 have h4:=Fr.lg_nonneg n;exact⟨(Fr.lg n).toNat,h3.symm,by omega⟩
theorem lg_two (a:Nat):Fr.lg (2^a)=a:=by
 unfold Fr.lg
 have e:((2:Int)^a).toNat=2^a:=by
  have:((2^a:Nat):Int)=(2:Int)^a:=by simp
  rw [<-this];exact Int.toNat_natCast _
 rw [e,Nat.log2_two_pow]
theorem powB_two (a:Nat):Fr.powB (2^a)=true:=by
 have h0:=Fr.pow_pos a;rw [Fr.powB_pow _ (by omega),lg_two]
 simp
theorem two_le {a b:Nat} (h:(2:Int)^a<=2^b):a<=b:=by
 have e1:((2^a:Nat):Int)=(2:Int)^a:=by simp
 have e2:((2^b:Nat):Int)=(2:Int)^b:=by simp
 have:2^a<=2^b:=by omega
 exact (Nat.pow_le_pow_iff_right (by decide)).1 this
theorem two_mono {a b:Nat} (h:a<=b):(2:Int)^a<=2^b:=by
 have e1:((2^a:Nat):Int)=(2:Int)^a:=by simp
 have e2:((2^b:Nat):Int)=(2:Int)^b:=by simp
 have:2^a<=2^b:=Nat.pow_le_pow_right (by decide) h
 omega
namespace Cf
theorem wide_of {c:Cf} {size:Int} (hs:Fr.powB c.seg=true) (hp:Fr.powB size=true) (hle:c.seg<=size):c.wide (c.high size)=size:=by
 obtain⟨b,hb,_⟩:=pow_of hs;obtain⟨a,ha,_⟩:=pow_of hp;have hab:b<=a:=two_le (by rw [<-hb,<-ha];exact hle);obtain⟨d,rfl⟩:∃ d,a=b+d:=⟨a-b,by omega⟩
 have e:size=c.seg*2^d:=by rw [ha,hb,Int.pow_add]
 have hb0:=Fr.pow_pos b;unfold wide high;rw [e,Int.mul_ediv_cancel_left _ (by omega),lg_two,Int.toNat_natCast]
theorem wide_le {c:Cf} {h k:Int} (h0:0<=c.seg) (hk:h<=k):c.wide h<=c.wide k:=by
 unfold wide;exact Int.mul_le_mul_of_nonneg_left (two_mono (by omega)) h0
structure Ok (c:Cf) (size h n:Int):Prop where
 may:c.May
 is:c.Is size
 h0:0<=h
 h1:h<=c.high size
 n0:0<=n
 n1:n<=c.wide h
theorem ok_iff (c:Cf) (size h n:Int):c.okB size h n=true↔c.Ok size h n:=by
 unfold okB inB
 simp only [Bool.and_eq_true,decide_eq_true_eq,may_iff,is_iff]
 exact⟨fun ⟨⟨a,b⟩,⟨d,e⟩,f,g⟩=>⟨a,b,d,e,f,g⟩,fun ⟨a,b,d,e,f,g⟩=>⟨⟨a,b⟩,⟨d,e⟩,f,g⟩⟩
theorem ok_ask {c:Cf} {size h n:Int} (hk:c.okB size h n=true):c.askE size h n=0/\c.cwV size h n=c.high size:=by
 unfold cwV;rw [hk];refine⟨?_,rfl⟩;unfold okB at hk
 simp only [Bool.and_eq_true] at hk
 unfold askE;rw [hk.1.1,hk.1.2,hk.2];rfl
theorem ok_no {c:Cf} {size h n:Int} (hk:c.okB size h n=false):(c.askE size h n != 0)=true/\c.cwV size h n=0/\c.fullV size h n=false/\c.sparseV size h n=false:=by
 unfold cwV fullV sparseV;rw [hk];refine⟨?_,rfl,rfl,rfl⟩;unfold okB at hk;unfold askE
 cases hm:c.mayB
 ·rfl
 ·cases hi:c.isB size
  ·rfl
  ·cases hn:c.inB size h n
   ·rfl
   ·rw [hm,hi,hn] at hk;cases hk
structure Bd (c:Cf) (size h n:Int):Prop where
 hi0:0<=c.high size
 hi1:c.high size<=14
 w4:4<=c.wide h
 w1:c.wide h<=size
 s1:size<=65535
 s0:4<=size
 p0:0<=c.high size*c.den
 p1:c.high size*c.den<=896
 u0:0<=c.lh*(c.high size-h)
 u1:c.lh*(c.high size-h)<=896
 v0:0<=c.rh*h
 v1:c.rh*h<=896
 l0:0<=c.ll*(c.high size-h)
 l1:c.ll*(c.high size-h)<=896
 m0:0<=c.rl*h
 m1:c.rl*h<=896
theorem mul_bd {a b A B:Int} (a0:0<=a) (a1:a<=A) (b0:0<=b) (b1:b<=B):0<=a*b/\a*b<=A*B :=
 ⟨Int.mul_nonneg a0 b0,Int.mul_le_mul a1 b1 b0 (by omega)⟩
theorem Ok.bd {c:Cf} {size h n:Int} (k:c.Ok size h n):c.Bd size h n:=by
 have SB:=k.may.size_bd k.is;have HB:=c.high_bd size SB.1 k.may.sizes.seg1 SB.2;have s1:=k.may.sizes.seg1;have s2:=k.may.sizes.seg2;have d1:=k.may.sizes.den1;have d2:=k.may.sizes.den2;have e1:=k.may.dens.ll0;have e2:=k.may.dens.llrl;have e3:=k.may.dens.rhlh;have e4:=k.may.dens.lhd;have e5:=k.may.dens.rld;have e6:=k.may.dens.rh1 k.may.sizes;have h0:=k.h0;have h1:=k.h1;have W:=c.wide_bd (h:=h) s1 s2 (by omega);have W1:=wide_of k.may.sizes.segp k.is.pow SB.1;have W2:=c.wide_le (h:=h) (k:=c.high size) (by omega) h1;have q1:=mul_bd (a:=c.high size) (b:=c.den) (A:=14) (B:=64) HB.1 HB.2 (by omega) d2;have q2:=mul_bd (a:=c.lh) (b:=c.high size-h) (A:=64) (B:=14) (by omega) (by omega) (by omega) (by omega);have q3:=mul_bd (a:=c.rh) (b:=h) (A:=64) (B:=14) (by omega) (by omega) (by omega) (by omega);have q4:=mul_bd (a:=c.ll) (b:=c.high size-h) (A:=64) (B:=14) (by omega) (by omega) (by omega) (by omega);have q5:=mul_bd (a:=c.rl) (b:=h) (A:=64) (B:=14) (by omega) (by omega) (by omega) (by omega);exact⟨HB.1,HB.2,W.1,by omega,SB.2,by omega,q1.1,by omega,q2.1,by omega,q3.1,by omega,q4.1,by omega,q5.1,by omega⟩
theorem full_flat {c:Cf} {size h n:Int} (k:c.Ok size h n) (h0:c.high size=0):c.fullV size h n=decide (n*c.den<=size*c.rh):=by
 have hk:=(ok_iff c size h n).2 k;have SB:=k.may.size_bd k.is;have W1:=wide_of k.may.sizes.segp k.is.pow SB.1
 have e:h=c.high size:=by have:=k.h0;have:=k.h1;omega
 unfold fullV manyB;rw [hk,if_pos h0,e,W1];rfl
theorem full_high {c:Cf} {size h n:Int} (k:c.Ok size h n) (h0:c.high size≠0):c.fullV size h n=decide (n*(c.high size*c.den)<=c.wide h*(c.lh*(c.high size-h)+c.rh*h)):=by
 have hk:=(ok_iff c size h n).2 k;unfold fullV manyB;rw [hk,if_neg h0,Int.mul_assoc];rfl
theorem sparse_least {c:Cf} {size h n:Int} (k:c.Ok size h n) (h0:size=c.least):c.sparseV size h n=true:=by
 have hk:=(ok_iff c size h n).2 k;unfold sparseV fewB;rw [hk,h0];simp
theorem sparse_high {c:Cf} {size h n:Int} (k:c.Ok size h n) (h0:¬ size=c.least):c.sparseV size h n=decide ((c.ll*(c.high size-h)+c.rl*h)*c.wide h<=c.high size*c.den*(n+1)):=by
 have hk:=(ok_iff c size h n).2 k;unfold sparseV fewB;rw [hk,show (size==c.least)=false from by simpa using h0,Int.mul_comm (c.wide h),Int.mul_assoc (n+1),Int.mul_comm (n+1)];rfl
theorem high_pos {c:Cf} {size h n:Int} (k:c.Ok size h n) (h0:¬ size=c.least):1<=c.high size:=by
 have b:=k.bd;have SB:=k.may.size_bd k.is;have W1:=wide_of k.may.sizes.segp k.is.pow SB.1;have h1:=k.is.lo;have h2:=k.may.sizes.least1
 by_cases e:c.high size=0
 ·rw [e] at W1
  unfold wide at W1
  simp at W1
  omega
 ·have:=b.hi0
  omega
end Cf
end Go.Proofs.YtpeckljoannolaaGreatDoor
namespace Go.Proofs.YtpeckljoannolaaGreatDoor
theorem pow_double {a b:Int} (ha:Fr.powB a=true) (hb:Fr.powB b=true) (h:a < b):2*a<=b:=by
 obtain⟨i,rfl,_⟩:=pow_of ha;obtain⟨j,rfl,_⟩:=pow_of hb
 have hij:i < j:=by
  rcases Nat.lt_or_ge i j with h1 | h1
  ·exact h1
  ·have:=two_mono h1;omega
 have:=two_mono (a:=i+1) (b:=j) hij;rw [Fr.pow_succ] at this;exact this
theorem pow_half {a:Int} (ha:Fr.powB a=true) (h:1 < a):Fr.powB (a/2)=true/\2*(a/2)=a:=by
 obtain⟨i,rfl,_⟩:=pow_of ha
 cases i with
 | zero=>simp at h
 | succ i =>
  rw [Fr.pow_succ,Int.mul_ediv_cancel_left _ (by decide)];exact⟨powB_two i,rfl⟩
theorem mul_le_mul_r {a b k:Int} (h:a<=b) (hk:0<=k):a*k<=b*k:=Int.mul_le_mul_of_nonneg_right h hk
theorem mul_le_mul_l {a b k:Int} (h:a<=b) (hk:0<=k):k*a<=k*b:=Int.mul_le_mul_of_nonneg_left h hk
namespace Cf
theorem takes_pow {c:Cf} (hs:c.Sizes) (n:Int):Fr.powB (c.takes n)=true:=by
 obtain⟨j,_,e⟩:=dbl_pow 20 (n*c.den) c.rh c.least;obtain⟨i,hi,_⟩:=pow_of hs.leastp;unfold takes;rw [e,hi,<-Int.pow_add];exact powB_two _
theorem high_twice {c:Cf} {size:Int} (hs:Fr.powB c.seg=true) (hp:Fr.powB size=true) (hle:c.seg<=size):c.high (2*size)=c.high size+1:=by
 obtain⟨b,hb,_⟩:=pow_of hs;obtain⟨a,ha,_⟩:=pow_of hp;have hab:b<=a:=two_le (by rw [<-hb,<-ha];exact hle);obtain⟨d,rfl⟩:∃ d,a=b+d:=⟨a-b,by omega⟩;have hb0:=Fr.pow_pos b
 have e:size=c.seg*2^d:=by rw [ha,hb,Int.pow_add]
 have e2:2*size=c.seg*2^(d+1):=by rw [e,Fr.pow_succ,Int.mul_left_comm]
 unfold high;rw [e2,e,Int.mul_ediv_cancel_left _ (by omega),Int.mul_ediv_cancel_left _ (by omega),lg_two,lg_two]
 omega
theorem takes_takes {c:Cf} (hs:c.Sizes) (hd:c.Dens) {n:Int} (h0:0<=n) (hn:n<=16384):n*c.den<=c.rh*c.takes n:=by
 have a:=nd_le hs h0 hn;have b:=hs.seg1;have d:=hs.least1;refine dbl_takes 20 (n*c.den) c.rh (hd.rh1 hs) c.least (by omega) ?_;rw [show (2:Int)^20=1048576 from by decide]
 omega
theorem takes_mono {c:Cf} (hs:c.Sizes) {m n:Int} (h:m<=n):c.takes m<=c.takes n:=by
 have a:=hs.den1;have b:=hs.seg1;have d:=hs.least1;exact dbl_mono 20 c.rh (mul_le_mul_r h (by omega)) c.least (by omega)
theorem full_all {c:Cf} {size n:Int} (k:c.Ok size (c.high size) n):c.fullV size (c.high size) n=decide (n*c.den<=size*c.rh):=by
 have SB:=k.may.size_bd k.is;have W1:=wide_of k.may.sizes.segp k.is.pow SB.1;have hb:=k.bd
 by_cases h0:c.high size=0
 ·rw [full_flat k h0]
 ·rw [full_high k h0,W1,Int.sub_self,Int.mul_zero,Int.zero_add]
  have hp:=hb.hi0
  have e1:n*(c.high size*c.den)=(n*c.den)*c.high size:=by rw [Int.mul_comm (c.high size),Int.mul_assoc]
  have e2:size*(c.rh*c.high size)=(size*c.rh)*c.high size:=by rw [Int.mul_assoc]
  rw [e1,e2];rw [decide_eq_decide];exact⟨fun h=>Int.le_of_mul_le_mul_right h (by omega),fun h=>mul_le_mul_r h hp⟩
theorem sparse_all {c:Cf} {size n:Int} (k:c.Ok size (c.high size) n) (h0:¬ size=c.least):c.sparseV size (c.high size) n=decide (size*c.rl<=(n+1)*c.den):=by
 have SB:=k.may.size_bd k.is;have W1:=wide_of k.may.sizes.segp k.is.pow SB.1;have hp:=high_pos k h0;rw [sparse_high k h0,W1,Int.sub_self,Int.mul_zero,Int.zero_add]
 have e1:c.rl*c.high size*size=(size*c.rl)*c.high size:=by rw [Int.mul_comm,Int.mul_assoc]
 have e2:c.high size*c.den*(n+1)=((n+1)*c.den)*c.high size:=by rw [Int.mul_comm (c.high size*c.den),Int.mul_comm (c.high size),Int.mul_assoc]
 rw [e1,e2,decide_eq_decide];exact⟨fun h=>Int.le_of_mul_le_mul_right h (by omega),fun h=>mul_le_mul_r h (by omega)⟩
theorem May.all_ok {c:Cf} {size n:Int} (hm:c.May) (hi:c.Is size) (h0:0<=n) (h1:n<=size):c.Ok size (c.high size) n:=by
 have SB:=hm.size_bd hi;have HB:=c.high_bd size SB.1 hm.sizes.seg1 SB.2;exact⟨hm,hi,HB.1,Int.le_refl _,h0,by rw [wide_of hm.sizes.segp hi.pow SB.1];exact h1⟩
theorem turns_down {c:Cf} {size n:Int} (k:c.Ok size (c.high size) n) (few:c.sparseV size (c.high size) n=false) :
  0 < c.high size/\c.askE (size/2) (c.high size-1) n=0/\c.fullV (size/2) (c.high size-1) n=true:=by
 have hm:=k.may;have hs:=hm.sizes;have hd:=hm.dens;have SB:=hm.size_bd k.is
 have hne:¬ size=c.least:=by
  intro e;rw [sparse_least k e] at few
  cases few
 rw [sparse_all k hne,decide_eq_false_iff_not] at few;have hp:=high_pos k hne;have lo:=k.is.lo;have g1:=hs.seg1;have g2:=hs.least1;obtain⟨q1,q2⟩:=pow_half k.is.pow (by omega);have hdb:=pow_double hs.leastp k.is.pow (by omega);have hi2:c.Is (size/2):=⟨q1,by omega,by have:=k.is.hi;omega⟩;have HT:=high_twice hs.segp q1 (by omega);rw [q2] at HT;have n0:=k.n0;have d1:=hs.den1;have rd:=hd.rhd;have rl:=hd.rld;have p6:size*(8*c.rl)<=size*c.den:=mul_le_mul_l rl (by omega);have p7:size*(8*c.rl)=8*(size*c.rl):=Int.mul_left_comm _ _ _
 have p9:(n+1)*c.den=n*c.den+c.den:=by rw [Int.add_mul,Int.one_mul]
 have nd:8*(n*c.den)<=size*c.den:=by omega
 have hn8:8*n<=size:=by
  have e:8*(n*c.den)=8*n*c.den:=(Int.mul_assoc _ _ _).symm;rw [e] at nd;exact Int.le_of_mul_le_mul_right nd (by omega)
 have K:=hm.all_ok hi2 (n:=n) n0 (by omega);have F:=full_all K
 have e1:c.high (size/2)=c.high size-1:=by omega
 rw [e1] at K F;have A:=(ok_ask ((ok_iff _ _ _ _).2 K)).1;refine⟨by omega,A,?_⟩;rw [F,decide_eq_true_eq];have p4:size/2*c.den<=size/2*(2*c.rh):=mul_le_mul_l rd (by omega);have p5:size/2*(2*c.rh)=2*(size/2*c.rh):=Int.mul_left_comm _ _ _
 have p10:size*c.den=2*(size/2*c.den):=by
  rw [<-Int.mul_assoc,q2]
 have p11:0<=size/2*c.rh:=Int.mul_nonneg (by omega) (by omega)
 omega
theorem cap_is {c:Cf} {n:Int} (hm:c.May) (h0:0<=n) (hn:n<=c.most):c.Is (c.takes n)/\c.Ok (c.takes n) (c.high (c.takes n)) n/\c.fullV (c.takes n) (c.high (c.takes n)) n=true:=by
 have hs:=hm.sizes;have hd:=hm.dens;have m2:=hs.most2;have hi:c.Is (c.takes n):=⟨takes_pow hs n,takes_ge c hs n,takes_mono hs hn⟩;have T:=takes_takes hs hd h0 (by omega);have rh:=hd.rhlh;have lh:=hd.lhd;have d1:=hs.den1;have g1:=hs.seg1;have g2:=hs.least1;have lo:=hi.lo
 have hx:n<=c.takes n:=by
  have a:c.rh*c.takes n<=c.den*c.takes n:=mul_le_mul_r (by omega) (by omega);have e:c.den*c.takes n=c.takes n*c.den:=Int.mul_comm _ _;exact Int.le_of_mul_le_mul_right (a:=c.den) (by omega) (by omega)
 have K:=hm.all_ok hi h0 hx;refine⟨hi,K,?_⟩;rw [full_all K,decide_eq_true_eq,Int.mul_comm (c.takes n)];exact T
theorem shares {c:Cf} {size g h n:Int} (k:c.Ok size g n) (h0:0<=h) (hg:h<=g) :
  c.Ok size h ((n+2^(g-h).toNat-1)/2^(g-h).toNat)/\c.Ok size h (n/2^(g-h).toNat) /\
  (c.fullV size g n=true->c.fullV size h ((n+2^(g-h).toNat-1)/2^(g-h).toNat)=true)/\(c.sparseV size g n=true->c.sparseV size h (n/2^(g-h).toNat)=true):=by
 have hm:=k.may;have hs:=hm.sizes;have hd:=hm.dens;have n0:=k.n0;have n1:=k.n1;have b:=k.bd;have g1:=k.h1
 have P1:=Fr.pow_pos (g-h).toNat
 have hW:c.wide g=c.wide h*2^(g-h).toNat:=by
  unfold wide;rw [Int.mul_assoc,<-Int.pow_add,show h.toNat+(g-h).toNat=g.toNat from by omega]
 obtain⟨P,hP⟩:∃ P:Int,P=2^(g-h).toNat:=⟨_,rfl⟩
 have hPg:g=h->P=1:=by intro e;rw [hP,show (g-h).toNat=0 from by omega];rfl
 rw [<-hP] at P1 hW ⊢;clear hP;have W4:=(c.wide_bd (h:=h) hs.seg1 hs.seg2 (by have:=b.hi1;omega)).1
 have hseg:c.seg<=c.wide h:=by
  unfold wide;have:=mul_le_mul_l (k:=c.seg) (Fr.pow_pos h.toNat) (by have:=hs.seg1;omega);rw [Int.mul_one] at this;exact this
 obtain⟨W,hWd⟩:∃ W,W=c.wide h:=⟨_,rfl⟩;rw [<-hWd] at hW W4 hseg;obtain⟨m,hmd⟩:∃ m,m=(n+P-1)/P:=⟨_,rfl⟩
 have hm1:m*P<=n+P-1:=by rw [hmd];exact Int.ediv_mul_le _ (by omega)
 have hm2:n<=m*P:=by
  have h1:n+P-1 < (m+1)*P:=by rw [hmd];exact Int.lt_ediv_add_one_mul_self _ (by omega)
  rw [Int.add_mul,Int.one_mul] at h1
  omega
 have hm0:0<=m:=by rw [hmd];exact Int.ediv_nonneg (by omega) (by omega)
 have hmW:m<=W:=by
  have:m*P < (W+1)*P:=by rw [Int.add_mul,Int.one_mul];omega
  have:=Int.lt_of_mul_lt_mul_right this (by omega)
  omega
 obtain⟨q,hqd⟩:∃ q,q=n/P:=⟨_,rfl⟩
 have hq0:0<=q:=by rw [hqd];exact Int.ediv_nonneg n0 (by omega)
 have hq1:n < (q+1)*P:=by rw [hqd];exact Int.lt_ediv_add_one_mul_self n (by omega)
 have hqW:q<=W:=by
  have h1:q*P<=n:=by rw [hqd];exact Int.ediv_mul_le _ (by omega)
  exact Int.le_of_mul_le_mul_right (a:=P) (by omega) (by omega)
 rw [<-hmd,<-hqd];clear hmd hqd;have K1:c.Ok size h m:=⟨hm,k.is,h0,by omega,hm0,by rw [<-hWd];exact hmW⟩;have K2:c.Ok size h q:=⟨hm,k.is,h0,by omega,hq0,by rw [<-hWd];exact hqW⟩;refine⟨K1,K2,?_,?_⟩
 ·intro hf
  by_cases hz:c.high size=0
  ·have e:g=h:=by omega
   have:=hPg e;subst this;rw [full_flat k hz,decide_eq_true_eq] at hf;rw [full_flat K1 hz,decide_eq_true_eq]
   have:m=n:=by omega
   rw [this];exact hf
  ·rw [full_high k hz,decide_eq_true_eq,hW] at hf
   rw [full_high K1 hz,decide_eq_true_eq,<-hWd]
   by_cases e:g=h
   ·have:=hPg e
    subst this;rw [e,Int.mul_one] at hf
    have:m=n:=by omega
    rw [this];exact hf
   ·have hH:=b.hi0
    have HT:c.high size<=c.high c.top:=by
     obtain⟨i,hi,_⟩:=pow_of hs.segp;have SB:=hm.size_bd k.is;have TB:=top_bd hs hd;have w1:=wide_of hs.segp k.is.pow SB.1;have w2:=wide_of hs.segp (takes_pow hs c.most) TB.1
     rcases Int.lt_or_le (c.high c.top) (c.high size) with h1 | h1
     ·exfalso
      have h2:c.wide (c.high c.top+1)<=c.wide (c.high size):=c.wide_le (by have:=hs.seg1;omega) (by omega)
      have h3:c.wide (c.high c.top+1)=2*c.wide (c.high c.top):=by
       have:=(c.high_bd c.top TB.1 hs.seg1 TB.2).1;unfold wide;rw [show (c.high c.top+1).toNat=(c.high c.top).toNat+1 from by omega,Fr.pow_succ,Int.mul_left_comm]
      have e3:c.wide (c.high c.top)=c.top:=w2;have h4:=k.is.hi;have h5:=hs.seg1
      omega
     ·exact h1
    have d1:=hs.den1;have fl:=hm.falls
    have hD:1<=c.lh-c.rh:=by have:=hd.rhlh;omega
    -- the numbers by name
    obtain⟨H,hHd⟩:∃ H,H=c.high size:=⟨_,rfl⟩;rw [<-hHd] at hf hH HT ⊢
    have a1:H*c.den<=(c.lh-c.rh)*W:=by
     have x1:=mul_le_mul_r (k:=c.den) HT (by omega);have x2:=mul_le_mul_l (k:=c.lh-c.rh) hseg (by omega)
     omega
    obtain⟨D,hDd⟩:∃ D,D=c.lh-c.rh:=⟨_,rfl⟩;rw [<-hDd] at a1 hD;obtain⟨E,hE⟩:∃ E,E=H*c.den:=⟨_,rfl⟩
    have hE0:0<=E:=by rw [hE];exact Int.mul_nonneg hH (by omega)
    rw [<-hE] at a1 hf ⊢
    have u:∀ x:Int,c.lh*(H-x)+c.rh*x=c.lh*H-D*x:=by
     intro x;rw [hDd,Int.mul_sub,Int.sub_mul];omega
    rw [u] at hf ⊢
    -- m E P ≤ n E + (P - 1) E ≤ W P U(g) + P W D ≤ W P U(h)
    have b1:m*P*E<=(n+P-1)*E:=mul_le_mul_r hm1 hE0
    have b2:(n+P-1)*E=n*E+(P-1)*E:=by rw [show n+P-1=n+(P-1) from by omega,Int.add_mul]
    have b3:(P-1)*E<=P*(D*W):=by
     have y1:=mul_le_mul_l (k:=P-1) a1 (by omega);have y2:(P-1)*(D*W)<=P*(D*W):=mul_le_mul_r (by omega) (Int.mul_nonneg (by omega) (by omega))
     omega
    have b4:W*P*(c.lh*H-D*g)+P*(D*W)<=W*P*(c.lh*H-D*h):=by
     have z1:P*(D*W)=W*P*D:=by rw [Int.mul_comm D W,<-Int.mul_assoc,Int.mul_comm P W]
     rw [z1,<-Int.mul_add];refine mul_le_mul_l ?_ (Int.mul_nonneg (by omega) (by omega));have z2:D*(h+1)<=D*g:=mul_le_mul_l (by omega) (by omega);rw [Int.mul_add,Int.mul_one] at z2
     omega
    have b5:m*E*P<=W*(c.lh*H-D*h)*P:=by
     have z1:m*E*P=m*P*E:=by rw [Int.mul_assoc,Int.mul_comm E P,<-Int.mul_assoc]
     have z2:W*(c.lh*H-D*h)*P=W*P*(c.lh*H-D*h):=by rw [Int.mul_assoc,Int.mul_comm _ P,<-Int.mul_assoc]
     omega
    exact Int.le_of_mul_le_mul_right b5 (by omega)
 ·intro hf
  by_cases hl:size=c.least
  ·exact sparse_least K2 hl
  ·rw [sparse_high k hl,decide_eq_true_eq,hW] at hf
   rw [sparse_high K2 hl,decide_eq_true_eq,<-hWd];have hH:=b.hi0;have d1:=hs.den1;obtain⟨H,hHd⟩:∃ H,H=c.high size:=⟨_,rfl⟩;rw [<-hHd] at hf hH ⊢;obtain⟨E,hE⟩:∃ E,E=H*c.den:=⟨_,rfl⟩
   have hE0:0<=E:=by rw [hE];exact Int.mul_nonneg hH (by omega)
   rw [<-hE] at hf ⊢
   have hD:1<=c.rl-c.ll:=by have:=hd.llrl;omega
   obtain⟨D,hDd⟩:∃ D,D=c.rl-c.ll:=⟨_,rfl⟩;rw [<-hDd] at hD
   have u:∀ x:Int,c.ll*(H-x)+c.rl*x=c.ll*H+D*x:=by
    intro x;rw [hDd,Int.mul_sub,Int.sub_mul];omega
   rw [u] at hf ⊢;have b1:D*h<=D*g:=mul_le_mul_l hg (by omega);have b2:(c.ll*H+D*h)*(W*P)<=(c.ll*H+D*g)*(W*P):=mul_le_mul_r (by omega) (Int.mul_nonneg (by omega) (by omega));have b3:E*(n+1)<=E*((q+1)*P):=mul_le_mul_l (by omega) hE0
   have b4:(c.ll*H+D*h)*W*P<=E*(q+1)*P:=by
    have z1:(c.ll*H+D*h)*W*P=(c.ll*H+D*h)*(W*P):=Int.mul_assoc _ _ _;have z2:E*(q+1)*P=E*((q+1)*P):=Int.mul_assoc _ _ _
    omega
   exact Int.le_of_mul_le_mul_right b4 (by omega)
end Cf
end Go.Proofs.YtpeckljoannolaaGreatDoor
namespace Go.Proofs.YtpeckljoannolaaGreatDoor
open Go.RowKit
theorem bet_of {a b k n:Int} (a1:-67108864 < a) (a2:a < 67108864) (b1:-67108864 < b) (b2:b < 67108864) (k0:0<=k) (kn:k<=n) (n1:1<=n) (n2:n < 67108864):Fr.betE a b k n=0/\Fr.betV a b k n=a*(n-k)+b*k:=by
 refine Fr.bet_yes (by unfold Fr.betBad;simp;omega) ?_;unfold Fr.small4;rw [Fr.small_mk a1 a2,Fr.small_mk b1 b2,Fr.small_mk (n:=k) (by omega) (by omega),Fr.small_mk (n:=n) (by omega) (by omega)]
 rfl
theorem kFull (c:Cf) (size h n:Int) (w:World) (hc:c.In) (hsz:size<=9223372036854775807) :
  Calls Tryz.prog 179 #[cfv c,.int .i64 size,.int .i64 h,.int .i64 n] w fun e w'=>e=.returned (.tuple #[.bool (c.fullV size h n),.int .i64 (c.askE size h n)])/\Below w.heap.size w w':=by
 have BX:=aq (CBox.new w c 23);have B0:=aq ((Below.refl w.heap.size w).alloc (Nat.le_refl _) (.cells (cfCells c) 23));have CK:=aq (fun W=>kCheckWindow c size h n W hc hsz);clear hc;unfold cfCells at BX B0
 cases hk:c.okB size h n
 ·have E:=aq (Cf.ok_no hk)
  have k1:=E.out.1;rw [E.out.2.1] at CK;clear hk;obtain⟨x,hx⟩:∃ x,x=c.askE size h n:=⟨_,rfl⟩;rw [<-hx] at k1 CK ⊢;clear hx;unfold cfv at CK ⊢
  go_enter Tryz.func179,Tryz.ntmps179
  go_wp2_with fail
  refine (CK.out _).mono ?_;rintro e w1 ⟨rfl,hb⟩;go_wp2;go_ret2;rw [E.out.2.2.1];exact⟨rfl,B0.out.trans (hb.mono B0.out.size)⟩
 ·have K:=(Cf.ok_iff c size h n).1 hk
  rw [(Cf.ok_ask hk).1,(Cf.ok_ask hk).2] at CK;rw [(Cf.ok_ask hk).1];have bd:=K.bd;have d1:=K.may.sizes.den1;have d2:=K.may.sizes.den2;have e1:=K.may.dens.ll0;have e2:=K.may.dens.llrl;have e3:=K.may.dens.rhlh;have e4:=K.may.dens.lhd;have e5:=K.may.dens.rld;have e6:=K.may.dens.rh1 K.may.sizes;have n0:=K.n0;have n1:=K.n1;have h0:=K.h0;have h1:=K.h1;obtain⟨i0,i1,w4,w1,s1,s0,p0,p1,u0,u1,v0,v1,l0,l1,m0,m1⟩:=bd;have g1:=K.may.sizes.seg1;have g2:=K.may.sizes.seg2
  by_cases hz:c.high size=0
  ·have V:=aq (Cf.full_flat K hz)
   have A:=aq (show atMostB n size c.rh c.den=decide (n*c.den<=size*c.rh) from atMost_small (by omega) (by omega) (by omega) (by omega) (by omega) (by omega) (by omega) (by omega));rw [hz] at CK;clear K hk hz;unfold cfv at CK ⊢
   go_enter Tryz.func179,Tryz.ntmps179
   go_wp2_with fail
   refine (CK.out _).mono ?_;rintro e w1 ⟨rfl,hb⟩;have B1:=aq (B0.out.trans (hb.mono B0.out.size));obtain⟨_,_,_,_,_,c4,_,_,c7,_,_⟩:=BX.out.below hb;clear hb
   go_wp2_with fail
   refine (kAtMost _ _ _ _ _).mono ?_;rintro e w2 ⟨rfl,hb⟩;go_wp2;go_ret2;rw [V.out,A.out];exact⟨rfl,B1.out.trans (hb.mono B1.out.size)⟩
  ·have hp:1<=c.high size:=by omega
   have hbt:=bet_of (a:=c.lh) (b:=c.rh) (k:=h) (n:=c.high size) (by omega) (by omega) (by omega) (by omega) h0 h1 (by omega) (by omega);have CB:=aq (fun W=>fBetween c.lh c.rh h (c.high size) W);rw [hbt.1,hbt.2] at CB;clear hbt;have CS:=aq (fun W=>kSlotsOf c h W g1 g2 h0 (by omega));have V:=aq (Cf.full_high K hz);have A:=aq (show atMostB n (c.wide h) (c.lh*(c.high size-h)+c.rh*h) (c.high size*c.den)=decide (n*(c.high size*c.den)<=c.wide h*(c.lh*(c.high size-h)+c.rh*h)) from atMost_small (by omega) (by omega) (by omega) (by omega) (by omega) (by omega) (by omega) (by omega))
   have HZ:(c.high size==0)=false:=by simpa using hz
   clear K hk hz;obtain⟨H,hH⟩:∃ H,H=c.high size:=⟨_,rfl⟩;rw [<-hH] at CK CB V A p0 p1 i0 i1 h1 hp HZ;clear u0 u1 l0 l1 v0 v1 m0 m1;clear hH;obtain⟨X,hX⟩:∃ X,X=c.wide h:=⟨_,rfl⟩;rw [<-hX] at CS V A w4 w1 n1;clear hX;obtain⟨U,hU⟩:∃ U,U=c.lh*(H-h)+c.rh*h:=⟨_,rfl⟩;rw [<-hU] at CB V A;clear hU;have y1:IntKind.i64.wrap (H*c.den)=H*c.den:=IntWalk.i64_in _ (by omega);have y2:IntKind.i64.wrap (n+1)=n+1:=IntWalk.i64_in _ (by omega);unfold cfv at CK CS ⊢
   go_enter Tryz.func179,Tryz.ntmps179
   go_wp2_with fail
   refine (CK.out _).mono ?_;rintro e w1 ⟨rfl,hb⟩;have B1:=aq (B0.out.trans (hb.mono B0.out.size));have X1:=aq (BX.out.below hb);obtain⟨_,_,_,_,c3,_,c5,c6,c7,c8,_⟩:=X1.out;clear hb
   go_wp2_with fail
   refine (CB.out _).mono ?_;rintro e w2 ⟨rfl,hb⟩;have B2:=aq (B1.out.trans (hb.mono B1.out.size)).drew;have X2:=aq ((X1.out.below hb).below ((Below.refl _ _).drew));clear hb c3 c5 c6 c7 c8
   go_upto_region 7 with (fail)
   go_region_held3 (fun w'=>w'.cell? ⟨w.heap.size,0,none⟩=some (.int .u8 c.tag)/\w'.cell? ⟨w.heap.size,1,none⟩=some (.int .i64 c.most)/\w'.cell? ⟨w.heap.size,2,none⟩=some (.int .i64 c.seg)/\w'.cell? ⟨w.heap.size,3,none⟩=some (.int .i64 c.least)/\w'.cell? ⟨w.heap.size,4,none⟩=some (.int .i64 c.den)/\w'.cell? ⟨w.heap.size,5,none⟩=some (.int .i64 c.ll)/\w'.cell? ⟨w.heap.size,6,none⟩=some (.int .i64 c.rl)/\w'.cell? ⟨w.heap.size,7,none⟩=some (.int .i64 c.rh)/\w'.cell? ⟨w.heap.size,8,none⟩=some (.int .i64 c.lh))
    (first | (with_reducible exact X2.out.reads) | (with_reducible exact X3.out.reads) | (with_reducible exact X4.out.reads))
    (first | (go_at_call 218;(with_reducible refine (CS.out _).mono ?_);rintro e w3 ⟨rfl,hb3⟩;have X3:=aq (X2.out.below hb3);have B3:=aq (B2.out.trans (hb3.mono B2.out.size));clear hb3) | (go_at_call 163;(refine (kAtMost _ _ _ _ _).mono ?_);rintro e w4 ⟨rfl,hb4⟩;have X4:=aq (X3.out.below hb4);have B4:=aq (B3.out.trans (hb4.mono B3.out.size));clear hb4))
   go_wp2;go_ret2;rw [V.out,A.out];exact⟨rfl,B4.out⟩
theorem kSparse (c:Cf) (size h n:Int) (w:World) (hc:c.In) (hsz:size<=9223372036854775807) :
  Calls Tryz.prog 180 #[cfv c,.int .i64 size,.int .i64 h,.int .i64 n] w fun e w'=>e=.returned (.tuple #[.bool (c.sparseV size h n),.int .i64 (c.askE size h n)])/\Below w.heap.size w w':=by
 have BX:=aq (CBox.new w c 23);have B0:=aq ((Below.refl w.heap.size w).alloc (Nat.le_refl _) (.cells (cfCells c) 23));have CK:=aq (fun W=>kCheckWindow c size h n W hc hsz);clear hc;unfold cfCells at BX B0
 cases hk:c.okB size h n
 ·have E:=aq (Cf.ok_no hk)
  have k1:=E.out.1;rw [E.out.2.1] at CK;clear hk;obtain⟨x,hx⟩:∃ x,x=c.askE size h n:=⟨_,rfl⟩;rw [<-hx] at k1 CK ⊢;clear hx;unfold cfv at CK ⊢
  go_enter Tryz.func180,Tryz.ntmps180
  go_wp2_with fail
  refine (CK.out _).mono ?_;rintro e w1 ⟨rfl,hb⟩;go_wp2;go_ret2;rw [E.out.2.2.2];exact⟨rfl,B0.out.trans (hb.mono B0.out.size)⟩
 ·have K:=(Cf.ok_iff c size h n).1 hk
  rw [(Cf.ok_ask hk).1,(Cf.ok_ask hk).2] at CK;rw [(Cf.ok_ask hk).1];have bd:=K.bd;have d1:=K.may.sizes.den1;have d2:=K.may.sizes.den2;have e1:=K.may.dens.ll0;have e2:=K.may.dens.llrl;have e3:=K.may.dens.rhlh;have e4:=K.may.dens.lhd;have e5:=K.may.dens.rld;have e6:=K.may.dens.rh1 K.may.sizes;have n0:=K.n0;have n1:=K.n1;have h0:=K.h0;have h1:=K.h1;obtain⟨i0,i1,w4,w1,s1,s0,p0,p1,u0,u1,v0,v1,l0,l1,m0,m1⟩:=bd;have g1:=K.may.sizes.seg1;have g2:=K.may.sizes.seg2
  by_cases hz:size=c.least
  ·have V:=aq (Cf.sparse_least K hz)
   have hz':(size==c.least)=true:=by simpa using hz
   clear K hk hz;unfold cfv at CK ⊢
   go_enter Tryz.func180,Tryz.ntmps180
   go_wp2_with fail
   refine (CK.out _).mono ?_;rintro e w1 ⟨rfl,hb⟩;have B1:=aq (B0.out.trans (hb.mono B0.out.size));have c3:=(BX.out.below hb).c3;clear hb;go_wp2;go_ret2;rw [V.out];exact⟨rfl,B1.out⟩
  ·have hp:=Cf.high_pos K hz
   have hbt:=bet_of (a:=c.ll) (b:=c.rl) (k:=h) (n:=c.high size) (by omega) (by omega) (by omega) (by omega) h0 h1 (by omega) (by omega);have CB:=aq (fun W=>fBetween c.ll c.rl h (c.high size) W);rw [hbt.1,hbt.2] at CB;clear hbt;have CS:=aq (fun W=>kSlotsOf c h W g1 g2 h0 (by omega));have V:=aq (Cf.sparse_high K hz);have A:=aq (show atMostB (c.ll*(c.high size-h)+c.rl*h) (c.high size*c.den) (n+1) (c.wide h)=decide ((c.ll*(c.high size-h)+c.rl*h)*c.wide h<=c.high size*c.den*(n+1)) from atMost_small (by omega) (by omega) (by omega) (by omega) (by omega) (by omega) (by omega) (by omega))
   have HZ:(size==c.least)=false:=by simpa using hz
   clear K hk hz;obtain⟨H,hH⟩:∃ H,H=c.high size:=⟨_,rfl⟩;rw [<-hH] at CK CB V A p0 p1 i0 i1 h1 hp;clear u0 u1 l0 l1 v0 v1 m0 m1;clear hH;obtain⟨X,hX⟩:∃ X,X=c.wide h:=⟨_,rfl⟩;rw [<-hX] at CS V A w4 w1 n1;clear hX;obtain⟨U,hU⟩:∃ U,U=c.ll*(H-h)+c.rl*h:=⟨_,rfl⟩;rw [<-hU] at CB V A;clear hU;have y1:IntKind.i64.wrap (H*c.den)=H*c.den:=IntWalk.i64_in _ (by omega);have y2:IntKind.i64.wrap (n+1)=n+1:=IntWalk.i64_in _ (by omega);unfold cfv at CK CS ⊢
   go_enter Tryz.func180,Tryz.ntmps180
   go_wp2_with fail
   refine (CK.out _).mono ?_;rintro e w1 ⟨rfl,hb⟩;have B1:=aq (B0.out.trans (hb.mono B0.out.size));have X1:=aq (BX.out.below hb);obtain⟨_,_,_,_,c3,_,c5,c6,c7,c8,_⟩:=X1.out;clear hb
   go_wp2_with fail
   refine (CB.out _).mono ?_;rintro e w2 ⟨rfl,hb⟩;have B2:=aq (B1.out.trans (hb.mono B1.out.size)).drew;have X2:=aq ((X1.out.below hb).below ((Below.refl _ _).drew));clear hb c3 c5 c6 c7 c8
   go_upto_region 7 with (fail)
   go_region_held3 (fun w'=>w'.cell? ⟨w.heap.size,0,none⟩=some (.int .u8 c.tag)/\w'.cell? ⟨w.heap.size,1,none⟩=some (.int .i64 c.most)/\w'.cell? ⟨w.heap.size,2,none⟩=some (.int .i64 c.seg)/\w'.cell? ⟨w.heap.size,3,none⟩=some (.int .i64 c.least)/\w'.cell? ⟨w.heap.size,4,none⟩=some (.int .i64 c.den)/\w'.cell? ⟨w.heap.size,5,none⟩=some (.int .i64 c.ll)/\w'.cell? ⟨w.heap.size,6,none⟩=some (.int .i64 c.rl)/\w'.cell? ⟨w.heap.size,7,none⟩=some (.int .i64 c.rh)/\w'.cell? ⟨w.heap.size,8,none⟩=some (.int .i64 c.lh))
    (first | (with_reducible exact X2.out.reads) | (with_reducible exact X3.out.reads) | (with_reducible exact X4.out.reads))
    (first | (go_at_call 218;(with_reducible refine (CS.out _).mono ?_);rintro e w3 ⟨rfl,hb3⟩;have X3:=aq (X2.out.below hb3);have B3:=aq (B2.out.trans (hb3.mono B2.out.size));clear hb3) | (go_at_call 163;(refine (kAtMost _ _ _ _ _).mono ?_);rintro e w4 ⟨rfl,hb4⟩;have X4:=aq (X3.out.below hb4);have B4:=aq (B3.out.trans (hb4.mono B3.out.size));clear hb4))
   go_wp2;go_ret2;rw [V.out,A.out];exact⟨rfl,B4.out⟩
end Go.Proofs.YtpeckljoannolaaGreatDoor

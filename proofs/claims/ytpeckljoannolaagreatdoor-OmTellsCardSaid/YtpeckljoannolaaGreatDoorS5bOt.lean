/- Configs: capacities and all that may be asked of one. -/
import Derived.Test.YtpeckljoannolaaGreatDoorP5bOt
import Derived.BigQuiet
import Derived.Test.YtpeckljoannolaaGreatDoorTkOt
set_option linter.unusedVariables false
set_option linter.unusedSimpArgs false
set_option maxHeartbeats 4000000
set_option maxRecDepth 100000
namespace Go.Proofs.YtpeckljoannolaaGreatDoor
open Go.RowKit
namespace Cf
structure May (c:Cf):Prop where
 sizes:c.Sizes
 dens:c.Dens
 falls:c.high c.top*c.den<=(c.lh-c.rh)*c.seg
theorem may_iff (c:Cf):c.mayB=true↔c.May:=by
 unfold mayB;rw [Bool.and_eq_true,Bool.and_eq_true,sizes_iff,dens_iff];unfold fallsB;rw [decide_eq_true_eq];exact⟨fun ⟨⟨a,b⟩,d⟩=>⟨a,b,d⟩,fun ⟨a,b,d⟩=>⟨⟨a,b⟩,d⟩⟩
theorem chk_may {c:Cf} (h:c.mayB=true):c.chkE=0:=by unfold chkE;rw [h];rfl
theorem chk_mayn {c:Cf} (h:c.mayB=false):c.chkE=50:=by unfold chkE;rw [h];rfl
end Cf
namespace Cf
theorem high_no {c:Cf} {size:Int} (h:c.mayB=false):c.highV size=0/\c.highE size=50:=by
 unfold highV highE;rw [h];exact⟨rfl,rfl⟩
theorem high_not {c:Cf} {size:Int} (h:c.mayB=true) (hi:c.isB size=false):c.highV size=0/\c.highE size=2:=by
 unfold highV highE;rw [h,hi];exact⟨rfl,rfl⟩
theorem high_yes {c:Cf} {size:Int} (h:c.mayB=true) (hi:c.isB size=true):c.highV size=c.high size/\c.highE size=0:=by
 unfold highV highE;rw [h,hi];exact⟨rfl,rfl⟩
structure Is (c:Cf) (size:Int):Prop where
 pow:Fr.powB size=true
 lo:c.least<=size
 hi:size<=c.top
theorem is_iff (c:Cf) (size:Int):c.isB size=true↔c.Is size:=by
 unfold isB;rw [Bool.and_eq_true,Bool.and_eq_true,decide_eq_true_eq,decide_eq_true_eq];exact⟨fun ⟨a,b,d⟩=>⟨a,b,d⟩,fun ⟨a,b,d⟩=>⟨a,b,d⟩⟩
theorem May.size_bd {c:Cf} {size:Int} (h:c.May) (hi:c.Is size):c.seg<=size/\size<=65535:=by
 have h1:=h.sizes.least1;have h2:=(top_bd h.sizes h.dens).2;have h3:=hi.lo;have h4:=hi.hi
 omega
end Cf
theorem kHigh (c:Cf) (size:Int) (w:World) (hc:c.In) (hsz:size<=9223372036854775807) :
  Calls Tryz.prog 128 #[cfv c,.int .i64 size] w fun e w'=>e=.returned (.tuple #[.int .i64 (c.highV size),.int .i64 (c.highE size)])/\Below w.heap.size w w':=by
 have BX:=aq (CBox.new w c 23);have B0:=aq ((Below.refl w.heap.size w).alloc (Nat.le_refl _) (.cells (cfCells c) 23));have CK:=aq (fun W=>kCheck c W hc);have CP:=aq (fun W=>fPower size W hsz);clear hc;unfold cfCells at BX B0
 cases hm:c.mayB
 ·have E:=aq (Cf.high_no (size:=size) hm)
  rw [Cf.chk_mayn hm] at CK;clear hm;unfold cfv at CK ⊢
  go_enter Tryz.func128,Tryz.ntmps128
  go_wp2_with fail
  refine (CK.out _).mono ?_;rintro e w1 ⟨rfl,hb⟩;go_wp2;go_ret2;rw [E.out.1,E.out.2];exact⟨rfl,B0.out.trans (hb.mono B0.out.size)⟩
 ·have M:=(Cf.may_iff c).1 hm
  rw [Cf.chk_may hm] at CK
  cases hp:Fr.powB size
  ·have E:=aq (Cf.high_not (size:=size) hm (by unfold Cf.isB;rw [hp];rfl))
   rw [hp] at CP;clear hm M hp;unfold cfv at CK ⊢
   go_enter Tryz.func128,Tryz.ntmps128
   go_wp2_with fail
   refine (CK.out _).mono ?_;rintro e w1 ⟨rfl,hb⟩;have B1:=aq (B0.out.trans (hb.mono B0.out.size));clear hb;go_wp2
   go_quiet ((go_at_call 162;exact Calls.quiet_of_same (still_of (CP.out _))))
   have B2:=aq (show Below w.heap.size w (w1.drewN nq) from below_drewN B1.out nq);go_wp2;go_ret2;rw [E.out.1,E.out.2];exact⟨rfl,B2.out⟩
  ·have TB:=c.top_bd M.sizes M.dens
   have CC:=aq (fun W=>kCapacityFor c c.most W M.sizes M.dens (by have:=M.sizes.most1;omega) M.sizes.most2);have HT:=aq (show c.takes c.most=c.top from rfl);rw [HT.out] at CC;have CW:=aq (fun W=>kWithin size c.least c.top W);rw [hp] at CP
   cases hi:withinB size c.least c.top
   ·have E:=aq (Cf.high_not (size:=size) hm (by unfold Cf.isB;rw [hp,Bool.true_and];exact hi))
    rw [hi] at CW;clear hm M hp hi;unfold cfv at CK CC ⊢
    go_enter Tryz.func128,Tryz.ntmps128
    go_wp2_with fail
    refine (CK.out _).mono ?_;rintro e w1 ⟨rfl,hb⟩;have B1:=aq (B0.out.trans (hb.mono B0.out.size)).drew;have X0:=aq ((BX.out.below hb).below ((Below.refl _ _).drew));clear hb;go_wp2
    go_region_held3 (fun w'=>w'.cell? ⟨w.heap.size,0,none⟩=some (.int .u8 c.tag)/\w'.cell? ⟨w.heap.size,1,none⟩=some (.int .i64 c.most)/\w'.cell? ⟨w.heap.size,2,none⟩=some (.int .i64 c.seg)/\w'.cell? ⟨w.heap.size,3,none⟩=some (.int .i64 c.least)/\w'.cell? ⟨w.heap.size,4,none⟩=some (.int .i64 c.den)/\w'.cell? ⟨w.heap.size,5,none⟩=some (.int .i64 c.ll)/\w'.cell? ⟨w.heap.size,6,none⟩=some (.int .i64 c.rl)/\w'.cell? ⟨w.heap.size,7,none⟩=some (.int .i64 c.rh)/\w'.cell? ⟨w.heap.size,8,none⟩=some (.int .i64 c.lh))
     (first | (with_reducible exact X0.out.reads) | (with_reducible exact X2.out.reads))
     (first | (go_at_call 162;(with_reducible refine (CP.out _).mono ?_);rintro e w3 ⟨rfl,rfl⟩) | (go_at_call 165;(with_reducible refine (CC.out _).mono ?_);rintro e w2 ⟨rfl,hb2⟩;have X2:=aq (X0.out.below hb2);have B2:=aq (B1.out.trans (hb2.mono B1.out.size));clear hb2) | (go_at_call 161;(with_reducible refine (CW.out _).mono ?_);rintro e w3 ⟨rfl,rfl⟩))
    go_wp2;go_ret2;rw [E.out.1,E.out.2];exact⟨rfl,B2.out⟩
   ·have hI:c.isB size=true:=by unfold Cf.isB;rw [hp,Bool.true_and];exact hi
    have E:=aq (Cf.high_yes (size:=size) hm hI);have SB:=M.size_bd ((Cf.is_iff c size).1 hI);have CH:=aq (fun W=>kHeightOf c size W M.sizes.seg1 SB.1 (by omega));rw [hi] at CW;clear hm M hp hi hI SB;unfold cfv at CK CC CH ⊢
    go_enter Tryz.func128,Tryz.ntmps128
    go_wp2_with fail
    refine (CK.out _).mono ?_;rintro e w1 ⟨rfl,hb⟩;have B1:=aq (B0.out.trans (hb.mono B0.out.size)).drew;have X0:=aq ((BX.out.below hb).below ((Below.refl _ _).drew));clear hb;go_wp2
    go_region_held3 (fun w'=>w'.cell? ⟨w.heap.size,0,none⟩=some (.int .u8 c.tag)/\w'.cell? ⟨w.heap.size,1,none⟩=some (.int .i64 c.most)/\w'.cell? ⟨w.heap.size,2,none⟩=some (.int .i64 c.seg)/\w'.cell? ⟨w.heap.size,3,none⟩=some (.int .i64 c.least)/\w'.cell? ⟨w.heap.size,4,none⟩=some (.int .i64 c.den)/\w'.cell? ⟨w.heap.size,5,none⟩=some (.int .i64 c.ll)/\w'.cell? ⟨w.heap.size,6,none⟩=some (.int .i64 c.rl)/\w'.cell? ⟨w.heap.size,7,none⟩=some (.int .i64 c.rh)/\w'.cell? ⟨w.heap.size,8,none⟩=some (.int .i64 c.lh))
     (first | (with_reducible exact X0.out.reads) | (with_reducible exact X2.out.reads))
     (first | (go_at_call 162;(with_reducible refine (CP.out _).mono ?_);rintro e w3 ⟨rfl,rfl⟩) | (go_at_call 165;(with_reducible refine (CC.out _).mono ?_);rintro e w2 ⟨rfl,hb2⟩;have X2:=aq (X0.out.below hb2);have B2:=aq (B1.out.trans (hb2.mono B1.out.size));clear hb2) | (go_at_call 161;(with_reducible refine (CW.out _).mono ?_);rintro e w3 ⟨rfl,rfl⟩))
    obtain⟨_,c0,c1,c2,c3,c4,c5,c6,c7,c8,_⟩:=X2.out
    go_wp2_with fail
    refine (CH.out _).mono ?_;rintro e w4 ⟨rfl,hb⟩;go_wp2;go_ret2;rw [E.out.1,E.out.2];exact⟨rfl,B2.out.trans (hb.mono B2.out.size)⟩
namespace Cf
def cwV (c:Cf) (size h n:Int):Int:=if c.okB size h n then c.high size else 0
theorem ask_bad {c:Cf} {size:Int} (h:Int) (n:Int) (hh:c.mayB=false∨c.isB size=false):c.askE size h n=c.highE size/\c.cwV size h n=0/\(c.highE size != 0)=true/\c.highV size=0:=by
 unfold askE cwV okB highE highV
 cases hm:c.mayB
 ·exact⟨rfl,rfl,rfl,rfl⟩
 ·cases hi:c.isB size
  ·exact⟨rfl,rfl,rfl,rfl⟩
  ·rw [hm,hi] at hh;rcases hh with hh | hh<;>cases hh
theorem ask_in {c:Cf} {size h n:Int} (hm:c.mayB=true) (hi:c.isB size=true):c.askE size h n=(if c.inB size h n then 0 else 2)/\c.cwV size h n=if c.inB size h n then c.high size else 0:=by
 unfold askE cwV okB;rw [hm,hi];exact⟨rfl,rfl⟩
end Cf
theorem kCheckWindow (c:Cf) (size h n:Int) (w:World) (hc:c.In) (hsz:size<=9223372036854775807) :
  Calls Tryz.prog 216 #[cfv c,.int .i64 size,.int .i64 h,.int .i64 n] w fun e w'=>e=.returned (.tuple #[.int .i64 (c.cwV size h n),.int .i64 (c.askE size h n)])/\Below w.heap.size w w':=by
 have BX:=aq (CBox.new w c 23);have B0:=aq ((Below.refl w.heap.size w).alloc (Nat.le_refl _) (.cells (cfCells c) 23));have CK:=aq (fun W=>kHigh c size W hc hsz);clear hc;unfold cfCells at BX B0
 by_cases hbad:c.mayB=false∨c.isB size=false
 ·have E:=aq (Cf.ask_bad h n hbad)
  have k1:=E.out.2.2.1;rw [E.out.2.2.2] at CK;clear hbad;obtain⟨x,hx⟩:∃ x,x=c.highE size:=⟨_,rfl⟩;rw [<-hx] at k1 CK E;clear hx;unfold cfv at CK ⊢
  go_enter Tryz.func216,Tryz.ntmps216
  go_wp2_with fail
  refine (CK.out _).mono ?_;rintro e w1 ⟨rfl,hb⟩;go_wp2;go_ret2;rw [E.out.1,E.out.2.1];exact⟨rfl,B0.out.trans (hb.mono B0.out.size)⟩
 ·have hm:c.mayB=true:=by cases hq:c.mayB<;>simp [hq] at hbad ⊢
  have hi:c.isB size=true:=by cases hq:c.isB size<;>simp [hq] at hbad ⊢
  have M:=(Cf.may_iff c).1 hm;have SB:=M.size_bd ((Cf.is_iff c size).1 hi);have HB:=c.high_bd size SB.1 M.sizes.seg1 SB.2;rw [(Cf.high_yes hm hi).1,(Cf.high_yes hm hi).2] at CK;have E:=aq (Cf.ask_in (h:=h) (n:=n) hm hi);have CW:=aq (fun W=>kWithin h 0 (c.high size) W);have HIN:=aq (show c.inB size h n=(withinB h 0 (c.high size)&&withinB n 0 (c.wide h)) from rfl);have s1:=M.sizes.seg1;have s2:=M.sizes.seg2;clear hbad hm hi M SB
  cases hw:withinB h 0 (c.high size)
  ·rw [hw] at CW HIN
   rw [HIN.out] at E;clear hw HIN;unfold cfv at CK ⊢
   go_enter Tryz.func216,Tryz.ntmps216
   go_wp2_with fail
   refine (CK.out _).mono ?_;rintro e w1 ⟨rfl,hb⟩
   go_wp2_with fail
   refine (CW.out _).mono ?_;rintro e w2 ⟨rfl,rfl⟩;go_wp2;go_ret2;rw [E.out.1,E.out.2];exact⟨rfl,B0.out.trans (hb.mono B0.out.size)⟩
  ·have hh:0<=h/\h<=c.high size:=by simpa [withinB] using hw
   have CS:=aq (fun W=>kSlotsOf c h W s1 s2 hh.1 (by omega));have CN:=aq (fun W=>kWithin n 0 (c.wide h) W);rw [hw,Bool.true_and] at HIN;rw [hw] at CW;rw [HIN.out] at E;clear hw HIN hh;obtain⟨b,hb0⟩:∃ b,b=withinB n 0 (c.wide h):=⟨_,rfl⟩;rw [<-hb0] at E CN;clear hb0;unfold cfv at CK CS ⊢
   cases b
   all_goals
    go_enter Tryz.func216,Tryz.ntmps216
    go_wp2_with fail
    refine (CK.out _).mono ?_;rintro e w1 ⟨rfl,hb⟩;have B1:=aq (B0.out.trans (hb.mono B0.out.size));obtain⟨_,c0,c1,c2,c3,c4,c5,c6,c7,c8,_⟩:=BX.out.below hb;clear hb
    go_wp2_with fail
    refine (CW.out _).mono ?_;rintro e w2 ⟨rfl,rfl⟩
    go_wp2_with fail
    refine (CS.out _).mono ?_;rintro e w2 ⟨rfl,hb⟩;have B2:=aq (B1.out.trans (hb.mono B1.out.size));clear hb c0 c1 c2 c3 c4 c5 c6 c7 c8
    go_wp2_with fail
    refine (CN.out _).mono ?_;rintro e w3 ⟨rfl,rfl⟩;go_wp2;go_ret2;rw [E.out.1,E.out.2];exact⟨rfl,B2.out⟩
end Go.Proofs.YtpeckljoannolaaGreatDoor
namespace Go.Proofs.YtpeckljoannolaaGreatDoor
theorem pow_of {n:Int} (h:Fr.powB n=true):∃ a:Nat,n=2^a/\(a:Int)=Fr.lg n:=by
 have h1:=(Fr.powB_true h).1;have h2:=Fr.powB_pow n h1;rw [h] at h2
 have h3:(2:Int)^(Fr.lg n).toNat=n:=by simpa using h2.symm
 have h4:=Fr.lg_nonneg n;exact⟨(Fr.lg n).toNat,h3.symm,by omega⟩
theorem lg_two (a:Nat):Fr.lg (2^a)=a:=by
 unfold Fr.lg
 have e:((2:Int)^a).toNat=2^a:=by
  have:((2^a:Nat):Int)=(2:Int)^a:=by simp
  rw [<-this];exact Int.toNat_natCast _
 rw [e,Nat.log2_two_pow]
theorem powB_two (a:Nat):Fr.powB (2^a)=true:=by
 have h0:=Fr.pow_pos a;rw [Fr.powB_pow _ (by omega),lg_two]
 simp
theorem two_le {a b:Nat} (h:(2:Int)^a<=2^b):a<=b:=by
 have e1:((2^a:Nat):Int)=(2:Int)^a:=by simp
 have e2:((2^b:Nat):Int)=(2:Int)^b:=by simp
 have:2^a<=2^b:=by omega
 exact (Nat.pow_le_pow_iff_right (by decide)).1 this
theorem two_mono {a b:Nat} (h:a<=b):(2:Int)^a<=2^b:=by
 have e1:((2^a:Nat):Int)=(2:Int)^a:=by simp
 have e2:((2^b:Nat):Int)=(2:Int)^b:=by simp
 have:2^a<=2^b:=Nat.pow_le_pow_right (by decide) h
 omega
namespace Cf
theorem wide_of {c:Cf} {size:Int} (hs:Fr.powB c.seg=true) (hp:Fr.powB size=true) (hle:c.seg<=size):c.wide (c.high size)=size:=by
 obtain⟨b,hb,_⟩:=pow_of hs;obtain⟨a,ha,_⟩:=pow_of hp;have hab:b<=a:=two_le (by rw [<-hb,<-ha];exact hle);obtain⟨d,rfl⟩:∃ d,a=b+d:=⟨a-b,by omega⟩
 have e:size=c.seg*2^d:=by rw [ha,hb,Int.pow_add]
 have hb0:=Fr.pow_pos b;unfold wide high;rw [e,Int.mul_ediv_cancel_left _ (by omega),lg_two,Int.toNat_natCast]
theorem wide_le {c:Cf} {h k:Int} (h0:0<=c.seg) (hk:h<=k):c.wide h<=c.wide k:=by
 unfold wide;exact Int.mul_le_mul_of_nonneg_left (two_mono (by omega)) h0
structure Ok (c:Cf) (size h n:Int):Prop where
 may:c.May
 is:c.Is size
 h0:0<=h
 h1:h<=c.high size
 n0:0<=n
 n1:n<=c.wide h
theorem ok_iff (c:Cf) (size h n:Int):c.okB size h n=true↔c.Ok size h n:=by
 unfold okB inB
 simp only [Bool.and_eq_true,decide_eq_true_eq,may_iff,is_iff]
 exact⟨fun ⟨⟨a,b⟩,⟨d,e⟩,f,g⟩=>⟨a,b,d,e,f,g⟩,fun ⟨a,b,d,e,f,g⟩=>⟨⟨a,b⟩,⟨d,e⟩,f,g⟩⟩
theorem ok_ask {c:Cf} {size h n:Int} (hk:c.okB size h n=true):c.askE size h n=0/\c.cwV size h n=c.high size:=by
 unfold cwV;rw [hk];refine⟨?_,rfl⟩;unfold okB at hk
 simp only [Bool.and_eq_true] at hk
 unfold askE;rw [hk.1.1,hk.1.2,hk.2];rfl
theorem ok_no {c:Cf} {size h n:Int} (hk:c.okB size h n=false):(c.askE size h n != 0)=true/\c.cwV size h n=0/\c.fullV size h n=false/\c.sparseV size h n=false:=by
 unfold cwV fullV sparseV;rw [hk];refine⟨?_,rfl,rfl,rfl⟩;unfold okB at hk;unfold askE
 cases hm:c.mayB
 ·rfl
 ·cases hi:c.isB size
  ·rfl
  ·cases hn:c.inB size h n
   ·rfl
   ·rw [hm,hi,hn] at hk;cases hk
structure Bd (c:Cf) (size h n:Int):Prop where
 hi0:0<=c.high size
 hi1:c.high size<=14
 w4:4<=c.wide h
 w1:c.wide h<=size
 s1:size<=65535
 s0:4<=size
 p0:0<=c.high size*c.den
 p1:c.high size*c.den<=896
 u0:0<=c.lh*(c.high size-h)
 u1:c.lh*(c.high size-h)<=896
 v0:0<=c.rh*h
 v1:c.rh*h<=896
 l0:0<=c.ll*(c.high size-h)
 l1:c.ll*(c.high size-h)<=896
 m0:0<=c.rl*h
 m1:c.rl*h<=896
theorem mul_bd {a b A B:Int} (a0:0<=a) (a1:a<=A) (b0:0<=b) (b1:b<=B):0<=a*b/\a*b<=A*B :=
 ⟨Int.mul_nonneg a0 b0,Int.mul_le_mul a1 b1 b0 (by omega)⟩
theorem Ok.bd {c:Cf} {size h n:Int} (k:c.Ok size h n):c.Bd size h n:=by
 have SB:=k.may.size_bd k.is;have HB:=c.high_bd size SB.1 k.may.sizes.seg1 SB.2;have s1:=k.may.sizes.seg1;have s2:=k.may.sizes.seg2;have d1:=k.may.sizes.den1;have d2:=k.may.sizes.den2;have e1:=k.may.dens.ll0;have e2:=k.may.dens.llrl;have e3:=k.may.dens.rhlh;have e4:=k.may.dens.lhd;have e5:=k.may.dens.rld;have e6:=k.may.dens.rh1 k.may.sizes;have h0:=k.h0;have h1:=k.h1;have W:=c.wide_bd (h:=h) s1 s2 (by omega);have W1:=wide_of k.may.sizes.segp k.is.pow SB.1;have W2:=c.wide_le (h:=h) (k:=c.high size) (by omega) h1;have q1:=mul_bd (a:=c.high size) (b:=c.den) (A:=14) (B:=64) HB.1 HB.2 (by omega) d2;have q2:=mul_bd (a:=c.lh) (b:=c.high size-h) (A:=64) (B:=14) (by omega) (by omega) (by omega) (by omega);have q3:=mul_bd (a:=c.rh) (b:=h) (A:=64) (B:=14) (by omega) (by omega) (by omega) (by omega);have q4:=mul_bd (a:=c.ll) (b:=c.high size-h) (A:=64) (B:=14) (by omega) (by omega) (by omega) (by omega);have q5:=mul_bd (a:=c.rl) (b:=h) (A:=64) (B:=14) (by omega) (by omega) (by omega) (by omega);exact⟨HB.1,HB.2,W.1,by omega,SB.2,by omega,q1.1,by omega,q2.1,by omega,q3.1,by omega,q4.1,by omega,q5.1,by omega⟩
theorem full_flat {c:Cf} {size h n:Int} (k:c.Ok size h n) (h0:c.high size=0):c.fullV size h n=decide (n*c.den<=size*c.rh):=by
 have hk:=(ok_iff c size h n).2 k;have SB:=k.may.size_bd k.is;have W1:=wide_of k.may.sizes.segp k.is.pow SB.1
 have e:h=c.high size:=by have:=k.h0;have:=k.h1;omega
 unfold fullV manyB;rw [hk,if_pos h0,e,W1];rfl
theorem full_high {c:Cf} {size h n:Int} (k:c.Ok size h n) (h0:c.high size≠0):c.fullV size h n=decide (n*(c.high size*c.den)<=c.wide h*(c.lh*(c.high size-h)+c.rh*h)):=by
 have hk:=(ok_iff c size h n).2 k;unfold fullV manyB;rw [hk,if_neg h0,Int.mul_assoc];rfl
theorem sparse_least {c:Cf} {size h n:Int} (k:c.Ok size h n) (h0:size=c.least):c.sparseV size h n=true:=by
 have hk:=(ok_iff c size h n).2 k;unfold sparseV fewB;rw [hk,h0];simp
theorem sparse_high {c:Cf} {size h n:Int} (k:c.Ok size h n) (h0:¬ size=c.least):c.sparseV size h n=decide ((c.ll*(c.high size-h)+c.rl*h)*c.wide h<=c.high size*c.den*(n+1)):=by
 have hk:=(ok_iff c size h n).2 k;unfold sparseV fewB;rw [hk,show (size==c.least)=false from by simpa using h0,Int.mul_comm (c.wide h),Int.mul_assoc (n+1),Int.mul_comm (n+1)];rfl
theorem high_pos {c:Cf} {size h n:Int} (k:c.Ok size h n) (h0:¬ size=c.least):1<=c.high size:=by
 have b:=k.bd;have SB:=k.may.size_bd k.is;have W1:=wide_of k.may.sizes.segp k.is.pow SB.1;have h1:=k.is.lo;have h2:=k.may.sizes.least1
 by_cases e:c.high size=0
 ·rw [e] at W1
  unfold wide at W1
  simp at W1
  omega
 ·have:=b.hi0
  omega
end Cf
end Go.Proofs.YtpeckljoannolaaGreatDoor
namespace Go.Proofs.YtpeckljoannolaaGreatDoor
open Go.RowKit
theorem bet_of {a b k n:Int} (a1:-67108864 < a) (a2:a < 67108864) (b1:-67108864 < b) (b2:b < 67108864) (k0:0<=k) (kn:k<=n) (n1:1<=n) (n2:n < 67108864):Fr.betE a b k n=0/\Fr.betV a b k n=a*(n-k)+b*k:=by
 refine Fr.bet_yes (by unfold Fr.betBad;simp;omega) ?_;unfold Fr.small4;rw [Fr.small_mk a1 a2,Fr.small_mk b1 b2,Fr.small_mk (n:=k) (by omega) (by omega),Fr.small_mk (n:=n) (by omega) (by omega)]
 rfl
theorem kFull (c:Cf) (size h n:Int) (w:World) (hc:c.In) (hsz:size<=9223372036854775807) :
  Calls Tryz.prog 179 #[cfv c,.int .i64 size,.int .i64 h,.int .i64 n] w fun e w'=>e=.returned (.tuple #[.bool (c.fullV size h n),.int .i64 (c.askE size h n)])/\Below w.heap.size w w':=by
 have BX:=aq (CBox.new w c 23);have B0:=aq ((Below.refl w.heap.size w).alloc (Nat.le_refl _) (.cells (cfCells c) 23));have CK:=aq (fun W=>kCheckWindow c size h n W hc hsz);clear hc;unfold cfCells at BX B0
 cases hk:c.okB size h n
 ·have E:=aq (Cf.ok_no hk)
  have k1:=E.out.1;rw [E.out.2.1] at CK;clear hk;obtain⟨x,hx⟩:∃ x,x=c.askE size h n:=⟨_,rfl⟩;rw [<-hx] at k1 CK ⊢;clear hx;unfold cfv at CK ⊢
  go_enter Tryz.func179,Tryz.ntmps179
  go_wp2_with fail
  refine (CK.out _).mono ?_;rintro e w1 ⟨rfl,hb⟩;go_wp2;go_ret2;rw [E.out.2.2.1];exact⟨rfl,B0.out.trans (hb.mono B0.out.size)⟩
 ·have K:=(Cf.ok_iff c size h n).1 hk
  rw [(Cf.ok_ask hk).1,(Cf.ok_ask hk).2] at CK;rw [(Cf.ok_ask hk).1];have bd:=K.bd;have d1:=K.may.sizes.den1;have d2:=K.may.sizes.den2;have e1:=K.may.dens.ll0;have e2:=K.may.dens.llrl;have e3:=K.may.dens.rhlh;have e4:=K.may.dens.lhd;have e5:=K.may.dens.rld;have e6:=K.may.dens.rh1 K.may.sizes;have n0:=K.n0;have n1:=K.n1;have h0:=K.h0;have h1:=K.h1;obtain⟨i0,i1,w4,w1,s1,s0,p0,p1,u0,u1,v0,v1,l0,l1,m0,m1⟩:=bd;have g1:=K.may.sizes.seg1;have g2:=K.may.sizes.seg2
  by_cases hz:c.high size=0
  ·have V:=aq (Cf.full_flat K hz)
   have A:=aq (show atMostB n size c.rh c.den=decide (n*c.den<=size*c.rh) from atMost_small (by omega) (by omega) (by omega) (by omega) (by omega) (by omega) (by omega) (by omega));rw [hz] at CK;clear K hk hz;unfold cfv at CK ⊢
   go_enter Tryz.func179,Tryz.ntmps179
   go_wp2_with fail
   refine (CK.out _).mono ?_;rintro e w1 ⟨rfl,hb⟩;have B1:=aq (B0.out.trans (hb.mono B0.out.size));obtain⟨_,_,_,_,_,c4,_,_,c7,_,_⟩:=BX.out.below hb;clear hb
   go_wp2_with fail
   refine (kAtMost _ _ _ _ _).mono ?_;rintro e w2 ⟨rfl,hb⟩;go_wp2;go_ret2;rw [V.out,A.out];exact⟨rfl,B1.out.trans (hb.mono B1.out.size)⟩
  ·have hp:1<=c.high size:=by omega
   have hbt:=bet_of (a:=c.lh) (b:=c.rh) (k:=h) (n:=c.high size) (by omega) (by omega) (by omega) (by omega) h0 h1 (by omega) (by omega);have CB:=aq (fun W=>fBetween c.lh c.rh h (c.high size) W);rw [hbt.1,hbt.2] at CB;clear hbt;have CS:=aq (fun W=>kSlotsOf c h W g1 g2 h0 (by omega));have V:=aq (Cf.full_high K hz);have A:=aq (show atMostB n (c.wide h) (c.lh*(c.high size-h)+c.rh*h) (c.high size*c.den)=decide (n*(c.high size*c.den)<=c.wide h*(c.lh*(c.high size-h)+c.rh*h)) from atMost_small (by omega) (by omega) (by omega) (by omega) (by omega) (by omega) (by omega) (by omega))
   have HZ:(c.high size==0)=false:=by simpa using hz
   clear K hk hz;obtain⟨H,hH⟩:∃ H,H=c.high size:=⟨_,rfl⟩;rw [<-hH] at CK CB V A p0 p1 i0 i1 h1 hp HZ;clear u0 u1 l0 l1 v0 v1 m0 m1;clear hH;obtain⟨X,hX⟩:∃ X,X=c.wide h:=⟨_,rfl⟩;rw [<-hX] at CS V A w4 w1 n1;clear hX;obtain⟨U,hU⟩:∃ U,U=c.lh*(H-h)+c.rh*h:=⟨_,rfl⟩;rw [<-hU] at CB V A;clear hU;have y1:IntKind.i64.wrap (H*c.den)=H*c.den:=IntWalk.i64_in _ (by omega);have y2:IntKind.i64.wrap (n+1)=n+1:=IntWalk.i64_in _ (by omega);unfold cfv at CK CS ⊢
   go_enter Tryz.func179,Tryz.ntmps179
   go_wp2_with fail
   refine (CK.out _).mono ?_;rintro e w1 ⟨rfl,hb⟩;have B1:=aq (B0.out.trans (hb.mono B0.out.size));have X1:=aq (BX.out.below hb);obtain⟨_,_,_,_,c3,_,c5,c6,c7,c8,_⟩:=X1.out;clear hb
   go_wp2_with fail
   refine (CB.out _).mono ?_;rintro e w2 ⟨rfl,hb⟩;have B2:=aq (B1.out.trans (hb.mono B1.out.size)).drew;have X2:=aq ((X1.out.below hb).below ((Below.refl _ _).drew));clear hb c3 c5 c6 c7 c8
   go_upto_region 7 with (fail)
   go_region_held3 (fun w'=>w'.cell? ⟨w.heap.size,0,none⟩=some (.int .u8 c.tag)/\w'.cell? ⟨w.heap.size,1,none⟩=some (.int .i64 c.most)/\w'.cell? ⟨w.heap.size,2,none⟩=some (.int .i64 c.seg)/\w'.cell? ⟨w.heap.size,3,none⟩=some (.int .i64 c.least)/\w'.cell? ⟨w.heap.size,4,none⟩=some (.int .i64 c.den)/\w'.cell? ⟨w.heap.size,5,none⟩=some (.int .i64 c.ll)/\w'.cell? ⟨w.heap.size,6,none⟩=some (.int .i64 c.rl)/\w'.cell? ⟨w.heap.size,7,none⟩=some (.int .i64 c.rh)/\w'.cell? ⟨w.heap.size,8,none⟩=some (.int .i64 c.lh))
    (first | (with_reducible exact X2.out.reads) | (with_reducible exact X3.out.reads) | (with_reducible exact X4.out.reads))
    (first | (go_at_call 218;(with_reducible refine (CS.out _).mono ?_);rintro e w3 ⟨rfl,hb3⟩;have X3:=aq (X2.out.below hb3);have B3:=aq (B2.out.trans (hb3.mono B2.out.size));clear hb3) | (go_at_call 163;(refine (kAtMost _ _ _ _ _).mono ?_);rintro e w4 ⟨rfl,hb4⟩;have X4:=aq (X3.out.below hb4);have B4:=aq (B3.out.trans (hb4.mono B3.out.size));clear hb4))
   go_wp2;go_ret2;rw [V.out,A.out];exact⟨rfl,B4.out⟩
theorem kSparse (c:Cf) (size h n:Int) (w:World) (hc:c.In) (hsz:size<=9223372036854775807) :
  Calls Tryz.prog 180 #[cfv c,.int .i64 size,.int .i64 h,.int .i64 n] w fun e w'=>e=.returned (.tuple #[.bool (c.sparseV size h n),.int .i64 (c.askE size h n)])/\Below w.heap.size w w':=by
 have BX:=aq (CBox.new w c 23);have B0:=aq ((Below.refl w.heap.size w).alloc (Nat.le_refl _) (.cells (cfCells c) 23));have CK:=aq (fun W=>kCheckWindow c size h n W hc hsz);clear hc;unfold cfCells at BX B0
 cases hk:c.okB size h n
 ·have E:=aq (Cf.ok_no hk)
  have k1:=E.out.1;rw [E.out.2.1] at CK;clear hk;obtain⟨x,hx⟩:∃ x,x=c.askE size h n:=⟨_,rfl⟩;rw [<-hx] at k1 CK ⊢;clear hx;unfold cfv at CK ⊢
  go_enter Tryz.func180,Tryz.ntmps180
  go_wp2_with fail
  refine (CK.out _).mono ?_;rintro e w1 ⟨rfl,hb⟩;go_wp2;go_ret2;rw [E.out.2.2.2];exact⟨rfl,B0.out.trans (hb.mono B0.out.size)⟩
 ·have K:=(Cf.ok_iff c size h n).1 hk
  rw [(Cf.ok_ask hk).1,(Cf.ok_ask hk).2] at CK;rw [(Cf.ok_ask hk).1];have bd:=K.bd;have d1:=K.may.sizes.den1;have d2:=K.may.sizes.den2;have e1:=K.may.dens.ll0;have e2:=K.may.dens.llrl;have e3:=K.may.dens.rhlh;have e4:=K.may.dens.lhd;have e5:=K.may.dens.rld;have e6:=K.may.dens.rh1 K.may.sizes;have n0:=K.n0;have n1:=K.n1;have h0:=K.h0;have h1:=K.h1;obtain⟨i0,i1,w4,w1,s1,s0,p0,p1,u0,u1,v0,v1,l0,l1,m0,m1⟩:=bd;have g1:=K.may.sizes.seg1;have g2:=K.may.sizes.seg2
  by_cases hz:size=c.least
  ·have V:=aq (Cf.sparse_least K hz)
   have hz':(size==c.least)=true:=by simpa using hz
   clear K hk hz;unfold cfv at CK ⊢
   go_enter Tryz.func180,Tryz.ntmps180
   go_wp2_with fail
   refine (CK.out _).mono ?_;rintro e w1 ⟨rfl,hb⟩;have B1:=aq (B0.out.trans (hb.mono B0.out.size));have c3:=(BX.out.below hb).c3;clear hb;go_wp2;go_ret2;rw [V.out];exact⟨rfl,B1.out⟩
  ·have hp:=Cf.high_pos K hz
   have hbt:=bet_of (a:=c.ll) (b:=c.rl) (k:=h) (n:=c.high size) (by omega) (by omega) (by omega) (by omega) h0 h1 (by omega) (by omega);have CB:=aq (fun W=>fBetween c.ll c.rl h (c.high size) W);rw [hbt.1,hbt.2] at CB;clear hbt;have CS:=aq (fun W=>kSlotsOf c h W g1 g2 h0 (by omega));have V:=aq (Cf.sparse_high K hz);have A:=aq (show atMostB (c.ll*(c.high size-h)+c.rl*h) (c.high size*c.den) (n+1) (c.wide h)=decide ((c.ll*(c.high size-h)+c.rl*h)*c.wide h<=c.high size*c.den*(n+1)) from atMost_small (by omega) (by omega) (by omega) (by omega) (by omega) (by omega) (by omega) (by omega))
   have HZ:(size==c.least)=false:=by simpa using hz
   clear K hk hz;obtain⟨H,hH⟩:∃ H,H=c.high size:=⟨_,rfl⟩;rw [<-hH] at CK CB V A p0 p1 i0 i1 h1 hp;clear u0 u1 l0 l1 v0 v1 m0 m1;clear hH;obtain⟨X,hX⟩:∃ X,X=c.wide h:=⟨_,rfl⟩;rw [<-hX] at CS V A w4 w1 n1;clear hX;obtain⟨U,hU⟩:∃ U,U=c.ll*(H-h)+c.rl*h:=⟨_,rfl⟩;rw [<-hU] at CB V A;clear hU;have y1:IntKind.i64.wrap (H*c.den)=H*c.den:=IntWalk.i64_in _ (by omega);have y2:IntKind.i64.wrap (n+1)=n+1:=IntWalk.i64_in _ (by omega);unfold cfv at CK CS ⊢
   go_enter Tryz.func180,Tryz.ntmps180
   go_wp2_with fail
   refine (CK.out _).mono ?_;rintro e w1 ⟨rfl,hb⟩;have B1:=aq (B0.out.trans (hb.mono B0.out.size));have X1:=aq (BX.out.below hb);obtain⟨_,_,_,_,c3,_,c5,c6,c7,c8,_⟩:=X1.out;clear hb
   go_wp2_with fail
   refine (CB.out _).mono ?_;rintro e w2 ⟨rfl,hb⟩;have B2:=aq (B1.out.trans (hb.mono B1.out.size)).drew;have X2:=aq ((X1.out.below hb).below ((Below.refl _ _).drew));clear hb c3 c5 c6 c7 c8
   go_upto_region 7 with (fail)
   go_region_held3 (fun w'=>w'.cell? ⟨w.heap.size,0,none⟩=some (.int .u8 c.tag)/\w'.cell? ⟨w.heap.size,1,none⟩=some (.int .i64 c.most)/\w'.cell? ⟨w.heap.size,2,none⟩=some (.int .i64 c.seg)/\w'.cell? ⟨w.heap.size,3,none⟩=some (.int .i64 c.least)/\w'.cell? ⟨w.heap.size,4,none⟩=some (.int .i64 c.den)/\w'.cell? ⟨w.heap.size,5,none⟩=some (.int .i64 c.ll)/\w'.cell? ⟨w.heap.size,6,none⟩=some (.int .i64 c.rl)/\w'.cell? ⟨w.heap.size,7,none⟩=some (.int .i64 c.rh)/\w'.cell? ⟨w.heap.size,8,none⟩=some (.int .i64 c.lh))
    (first | (with_reducible exact X2.out.reads) | (with_reducible exact X3.out.reads) | (with_reducible exact X4.out.reads))
    (first | (go_at_call 218;(with_reducible refine (CS.out _).mono ?_);rintro e w3 ⟨rfl,hb3⟩;have X3:=aq (X2.out.below hb3);have B3:=aq (B2.out.trans (hb3.mono B2.out.size));clear hb3) | (go_at_call 163;(refine (kAtMost _ _ _ _ _).mono ?_);rintro e w4 ⟨rfl,hb4⟩;have X4:=aq (X3.out.below hb4);have B4:=aq (B3.out.trans (hb4.mono B3.out.size));clear hb4))
   go_wp2;go_ret2;rw [V.out,A.out];exact⟨rfl,B4.out⟩
end Go.Proofs.YtpeckljoannolaaGreatDoor

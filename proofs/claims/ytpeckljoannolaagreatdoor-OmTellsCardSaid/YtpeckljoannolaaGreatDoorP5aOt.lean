/- What package conf's small functions return. -/
import Derived.Test.YtpeckljoannolaaGreatDoorP01Ot
import Derived.Test.YtpeckljoannolaaGreatDoorP05Ot
import Derived.StillTailTactics
import Derived.Deep.DeepCutAuto
import Derived.Test.YtpeckljoannolaaGreatDoorTkOt
set_option linter.unusedVariables false
set_option linter.unusedSimpArgs false
set_option maxHeartbeats 1000000
namespace Go.Proofs.YtpeckljoannolaaGreatDoor
open Go.RowKit
theorem kIndex (bk off cap:Nat) (bs:List Bool) (w:World) (hl:bs.length<=1000) (h:BLst w bk off bs) :
  Calls Tryz.prog 200 #[.slice (some ⟨bk,off,none⟩) bs.length cap,.bool false] w fun e w'=>e=.returned (.int .i64 (idxB bs))/\w=w':=by
 have HC:=aq h;clear h;obtain⟨n,hn⟩:∃ n,bs.length=n:=⟨_,rfl⟩;rw [hn] at hl ⊢;have HN:=aq hn;clear hn
 go_enter Tryz.func200,Tryz.ntmps200
 go_wp2
 go_loop [8] (fun i=>∃ k:Nat,k<=n/\i=.int .i64 k/\Hid ((bs.take k).all id=true)) (fun i=>n-(intOf i).toNat)
 case atStart=>exact⟨0,Nat.zero_le _,rfl,aq rfl⟩
 case round =>
  obtain⟨k,hk,rfl,HA⟩:=hrel
  by_cases hlt:k < n
  ·have hcell:=HC.out k (by rw [HN.out];exact hlt)
   cases hb:bs.getD k false
   ·rw [hb] at hcell
    have HI:=aq (idx_at bs k (by rw [HN.out];exact hlt) hb HA.out).1;clear hb;go_wp2;go_ret;rw [HI.out];exact⟨rfl,rfl⟩
   ·rw [hb] at hcell
    have HB:=aq hb;clear hb;go_wp2
    go_round
    case rel=>exact⟨k+1,by omega,by go_num,aq (all_take_b bs k (by rw [HN.out];exact hlt) HB.out HA.out)⟩
    case measure=>simp [intOf];omega
  ·go_wp2
   go_ret;have:=HA.out;rw [List.take_of_length_le (by rw [HN.out];omega)] at this;unfold idxB;rw [this];exact⟨rfl,rfl⟩
theorem kContains (bk off cap:Nat) (bs:List Bool) (w:World) (hl:bs.length<=1000) (h:BLst w bk off bs) :
  Calls Tryz.prog 160 #[.slice (some ⟨bk,off,none⟩) bs.length cap,.bool false] w fun e w'=>e=.returned (.bool (!bs.all id))/\w=w':=by
 have CI:=aq (kIndex bk off cap bs w hl h);have HG:=aq (idx_ge bs);clear h hl;obtain⟨x,hx⟩:∃ x,idxB bs=x:=⟨_,rfl⟩;obtain⟨n,hn⟩:∃ n,bs.length=n:=⟨_,rfl⟩;obtain⟨b,hb⟩:∃ b,(!bs.all id)=b:=⟨_,rfl⟩;rw [hx,hb] at HG;rw [hx,hn] at CI;rw [hn,hb];clear hx hn hb
 go_enter Tryz.func160,Tryz.ntmps160
 go_wp2_with fail
 refine CI.out.mono ?_;rintro e w1 ⟨rfl,rfl⟩;go_wp2;go_ret;rw [<-HG.out];exact⟨rfl,rfl⟩
theorem kAll (bk off cap:Nat) (bs:List Bool) (w:World) (hl:bs.length<=1000) (h:BLst w bk off bs) :
  Calls Tryz.prog 109 #[.slice (some ⟨bk,off,none⟩) bs.length cap] w fun e w'=>e=.returned (.bool (bs.all id))/\w=w':=by
 have CI:=aq (kContains bk off cap bs w hl h);clear h hl;obtain⟨n,hn⟩:∃ n,bs.length=n:=⟨_,rfl⟩;obtain⟨b,hb⟩:∃ b,bs.all id=b:=⟨_,rfl⟩;rw [hb,hn] at CI;rw [hn,hb];clear hn hb
 go_enter Tryz.func109,Tryz.ntmps109
 go_wp2_with fail
 refine CI.out.mono ?_;rintro e w1 ⟨rfl,rfl⟩;go_wp2;go_ret
 cases b<;>exact⟨rfl,rfl⟩
def withinB (n lo hi:Int):Bool:=decide (lo<=n)&&decide (n<=hi)
theorem kWithin (n lo hi:Int) (w:World) :
  Calls Tryz.prog 161 #[.int .i64 n,.int .i64 lo,.int .i64 hi] w fun e w'=>e=.returned (.bool (withinB n lo hi))/\w=w':=by
 have H:=aq (show withinB n lo hi=(decide (lo<=n)&&decide (n<=hi)) from rfl);rw [H.out]
 by_cases h1:lo<=n
 ·rw [decide_eq_true h1]
  go_enter Tryz.func161,Tryz.ntmps161
  go_wp2;go_ret;exact⟨rfl,rfl⟩
 ·rw [decide_eq_false h1]
  go_enter Tryz.func161,Tryz.ntmps161
  go_wp2;go_ret;exact⟨rfl,rfl⟩
def atMostB (a b c d:Int):Bool:=Fr.small4 a b c d&&decide (a*d<=b*c)
theorem atMost_eq (a b c d:Int):atMostB a b c d=(Fr.crossE a b c d==0&&decide (Fr.crossV a b c d<=0)):=by
 unfold atMostB Fr.crossE Fr.crossV
 cases Fr.small4 a b c d
 ·rfl
 ·simp only [if_true,Bool.true_and,Fr.sgn]
  rw [Bool.eq_iff_iff]
  simp only [Bool.and_eq_true,decide_eq_true_eq,beq_self_eq_true,true_and]
  split<;>first | omega | (split<;>omega)
theorem kAtMost (a b c d:Int) (w:World) :
  Calls Tryz.prog 163 #[.int .i64 a,.int .i64 b,.int .i64 c,.int .i64 d] w fun e w'=>e=.returned (.bool (atMostB a b c d))/\Below w.heap.size w w':=by
 have H:=aq (atMost_eq a b c d);have CC:=aq (fCross a b c d w);rw [H.out];obtain⟨x,hx⟩:∃ x,Fr.crossE a b c d=x:=⟨_,rfl⟩;obtain⟨y,hy⟩:∃ y,Fr.crossV a b c d=y:=⟨_,rfl⟩;rw [hx,hy] at CC;rw [hx,hy];clear hx hy H
 by_cases h1:x=0
 ·have k1:(x==0)=true:=by simp [h1]
  clear h1;rw [k1]
  go_enter Tryz.func163,Tryz.ntmps163
  go_wp2_with fail
  refine CC.out.mono ?_;rintro e w1 ⟨rfl,hb⟩;go_wp2;go_ret;exact⟨rfl,hb⟩
 ·have k1:(x==0)=false:=by simp [h1]
  clear h1;rw [k1]
  go_enter Tryz.func163,Tryz.ntmps163
  go_wp2_with fail
  refine CC.out.mono ?_;rintro e w1 ⟨rfl,hb⟩;go_wp2;go_ret;exact⟨rfl,hb⟩
theorem kHeightOf (c:Cf) (size:Int) (w:World) (h1:4<=c.seg) (h2:c.seg<=size) (h3:size<=9223372036854775807) :
  Calls Tryz.prog 164 #[cfv c,.int .i64 size] w fun e w'=>e=.returned (.int .i64 (c.high size))/\Below w.heap.size w w':=by
 have BX:=aq (CBox.new w c 23)
 have q1:1<=size/c.seg:=by have:=Int.ediv_le_ediv (c:=c.seg) (by omega) h2;rw [Int.ediv_self (by omega)] at this;exact this
 have q2:size/c.seg<=size:=Int.ediv_le_self (a:=size) c.seg (by omega);have HD:=aq (Fr.down_yes (n:=size/c.seg) q1);have HH:=aq (show c.high size=Fr.lg (size/c.seg) from rfl);unfold cfv
 go_enter Tryz.func164,Tryz.ntmps164
 have k0:¬ c.seg=0:=by omega
 go_wp2_with fail
 refine (fDown _ _ (by omega)).mono ?_;rintro e w1 ⟨rfl,rfl⟩;go_wp2;go_ret;rw [HD.out.2,HH.out];exact⟨rfl,(Below.refl _ _).alloc (Nat.le_refl _) _⟩
theorem kSlotsOf (c:Cf) (h:Int) (w:World) (h1:4<=c.seg) (h2:c.seg<=64) (h3:0<=h) (h4:h<=20) :
  Calls Tryz.prog 218 #[cfv c,.int .i64 h] w fun e w'=>e=.returned (.int .i64 (c.wide h))/\Below w.heap.size w w':=by
 have HW:=aq (show wrap64 (c.seg*2^h.toNat)=c.wide h by have:=c.wide_bd h1 h2 h4;unfold Cf.wide at this ⊢;unfold wrap64;omega);unfold cfv
 go_enter Tryz.func218,Tryz.ntmps218
 go_wp2;go_ret;rw [<-HW.out];exact⟨rfl,(Below.refl _ _).alloc (Nat.le_refl _) _⟩
theorem atMost_small {a b c d:Int} (a1:-67108864 < a) (a2:a < 67108864) (b1:-67108864 < b) (b2:b < 67108864) (c1:-67108864 < c) (c2:c < 67108864) (d1:-67108864 < d) (d2:d < 67108864) :
  atMostB a b c d=decide (a*d<=b*c):=by
 unfold atMostB Fr.small4;rw [Fr.small_mk a1 a2,Fr.small_mk b1 b2,Fr.small_mk c1 c2,Fr.small_mk d1 d2]
 rfl
def CapJ (c:Cf) (n:Int) (w:World) (a':Act) (w':World):Prop :=
 Below w.heap.size w w'/\CBox w' w.heap.size c/\∃ (size:Int) (k:Nat) (u3 u6 u7 u8 u9 u10 u11 u12 u13 u14 u15 u16 u17 u18:Value),a'={ tmps:=#[cfv c,.int .i64 n,.pointer (some ⟨w.heap.size,0,none⟩),u3,.int .i64 0,.int .i64 size,u6,u7,u8,u9,u10,u11,u12,u13,u14,u15,u16,u17,u18],defers:=[] }/\Cf.Run c n size k
def CapM (a':Act) (_:World):Nat:=(65536-intOf (a'.tmps.getD 5 undef)).toNat
theorem kCapacityFor (c:Cf) (n:Int) (w:World) (hs:c.Sizes) (hd:c.Dens) (h0:0<=n) (hn:n<=16384) :
  Calls Tryz.prog 165 #[cfv c,.int .i64 n] w fun e w'=>e=.returned (.int .i64 (c.takes n))/\Below w.heap.size w w':=by
 have BX:=aq (CBox.new w c 23);have HS:=aq hs;have HD:=aq hd;have TL:=c.takes_le hs hd h0 hn;have RS:=aq (Cf.Run.start hs h0 hn);have r1:=hd.rh1 hs;have r2:=hd.rh2 hs;have d1:=hs.den1;have d2:=hs.den2
 have l1:4<=c.least:=by have:=hs.seg1;have:=hs.least1;omega
 have l2:=hs.least2;have AT:=aq (fun size (s1:1<=size) (s2:size<=65535)=>show atMostB n size c.rh c.den=decide (n*c.den<=size*c.rh) from atMost_small (by omega) (by omega) (by omega) (by omega) (by omega) (by omega) (by omega) (by omega));clear hs hd;unfold cfv
 go_enter Tryz.func165,Tryz.ntmps165
 go_wp2;refine wp_scope_jumps 0 (CapJ c n w) CapM rfl ?_ ?_
 ·have AT1:=AT.out c.least (by omega) (by omega)
  by_cases ht:n*c.den<=c.least*c.rh
  ·rw [decide_eq_true ht] at AT1
   have E:=aq (RS.out.done (by rw [Int.mul_comm];omega));have HA:=aq AT1;clear AT1 ht
   go_wp2_with fail
   go_step3
   go_wp2_with fail
   refine (kAtMost _ _ _ _ _).mono ?_;rintro e w1 ⟨rfl,hb⟩;rw [HA.out];go_wp2
   simp only [Exit.jump]
   go_ret;rw [E.out];exact⟨rfl,((Below.refl _ _).alloc (Nat.le_refl _) _).trans (hb.mono (by simp))⟩
  ·rw [decide_eq_false ht] at AT1
   have E:=aq (RS.out.step r1 (by rw [Int.mul_comm];omega));have HA:=aq AT1;clear AT1 ht
   go_wp2_with fail
   go_step3
   go_wp2_with fail
   refine (kAtMost _ _ _ _ _).mono ?_;rintro e w1 ⟨rfl,hb⟩;rw [HA.out];go_wp2
   go_step3
   obtain⟨k',hk'⟩:=E.out;refine⟨rfl,((Below.refl _ _).alloc (Nat.le_refl _) _).trans (hb.mono (by simp)),BX.out.below hb,c.least*2,k',_,_,_,_,_,_,_,_,_,_,_,_,_,_,rfl,hk'⟩
 ·rintro a' w' ⟨hb0,bx,size,k,u3,u6,u7,u8,u9,u10,u11,u12,u13,u14,u15,u16,u17,u18,rfl,run⟩
  have s1:=run.s1
  have s2:size<=65535:=by have:=run.le;omega
  have AT1:=AT.out size (by omega) (by omega);have HB0:=aq hb0;have RN:=aq run;have BX1:=aq bx;obtain⟨_,_,_,_,_,c4,_,_,c7,_,_⟩:=bx;clear hb0 run;unfold cfv
  by_cases ht:n*c.den<=size*c.rh
  ·rw [decide_eq_true ht] at AT1
   have E:=aq (RN.out.done (by rw [Int.mul_comm];omega));have HA:=aq AT1;clear AT1 ht
   go_wp2_with fail
   refine (kAtMost _ _ _ _ _).mono ?_;rintro e w1 ⟨rfl,hb⟩;rw [HA.out];go_wp2
   simp only [Exit.jump]
   go_ret;rw [E.out];exact⟨rfl,HB0.out.trans (hb.mono HB0.out.size)⟩
  ·rw [decide_eq_false ht] at AT1
   obtain⟨k',hk'⟩:=RN.out.step r1 (by rw [Int.mul_comm];omega)
   have s3:size*2<=65535:=by have:=hk'.le;omega
   have HA:=aq AT1;have HK:=aq hk';clear AT1 ht hk'
   go_wp2_with fail
   refine (kAtMost _ _ _ _ _).mono ?_;rintro e w1 ⟨rfl,hb⟩;rw [HA.out];go_wp2
   go_step3
   refine⟨rfl,⟨HB0.out.trans (hb.mono HB0.out.size),BX1.out.below hb,size*2,k',_,_,_,_,_,_,_,_,_,_,_,_,_,_,rfl,HK.out⟩,?_⟩
   ·simp [CapM,intOf];omega
end Go.Proofs.YtpeckljoannolaaGreatDoor

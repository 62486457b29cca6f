/- Windows: what package win's small functions return. -/
import Derived.Test.YtpeckljoannolaaGreatDoorR01Ot
import Derived.Test.YtpeckljoannolaaGreatDoorP06Ot
import Derived.Test.YtpeckljoannolaaGreatDoorP01Ot
import Derived.Test.YtpeckljoannolaaGreatDoorM01Ot
import Derived.Deep.DeepCutAuto
import Derived.StillTailTactics
import Derived.LoopTactic
import Derived.BigQuiet
import Derived.Test.YtpeckljoannolaaGreatDoorTkOt
set_option linter.unusedVariables false
set_option linter.unusedSimpArgs false
set_option maxHeartbeats 2000000
set_option maxRecDepth 100000
namespace Go.Proofs.YtpeckljoannolaaGreatDoor
open Go.RowKit
namespace Wn
theorem high_no {g s:Int} (h:Sl.fitsB g s=false):highV g s=0/\highE g s=2:=by unfold highV highE;rw [h];exact⟨rfl,rfl⟩
theorem high_yes {g s:Int} (h:Sl.fitsB g s=true):highV g s=high g s/\highE g s=0:=by unfold highV highE;rw [h];exact⟨rfl,rfl⟩
theorem Fit.seg {g s:Int} {H:Nat} (f:Fit g s H):g<=s:=by
 have:=Int.mul_le_mul_of_nonneg_left (p2_pos H) (show 0<=g by have:=f.g1;omega);have e:=f.s0
 omega
theorem wd_le {g:Int} (h1:4<=g) (h2:g<=64) {h:Int} (hh:h<=14):wd g h<=1048576:=by
 unfold wd;have e:2^h.toNat<=2^14:=Nat.pow_le_pow_right (by decide) (by omega)
 have e1:((2^h.toNat:Nat):Int)=2^h.toNat:=by simp
 have e2:(2:Int)^h.toNat<=16384:=by omega
 have:=Int.mul_le_mul h2 e2 (by have:=p2_pos h.toNat;omega) (by omega)
 omega
theorem ask_in {g s h a:Int} (hf:Sl.fitsB g s=true):askB g s h a=(decide (0<=h)&&decide (h<=high g s)&&(decide (0<=a)&&decide (a < s))):=by unfold askB;rw [hf];rfl
theorem ask_fits {g s h a:Int} (hf:Sl.fitsB g s=false):askB g s h a=false:=by unfold askB;rw [hf];rfl
theorem ask_yes {g s h a:Int} (hk:askB g s h a=true):Sl.fitsB g s=true/\0<=h/\h<=high g s/\0<=a/\a < s:=by
 unfold askB inB at hk
 simp only [Bool.and_eq_true,decide_eq_true_eq] at hk
 exact⟨hk.1,hk.2.1.1,hk.2.1.2,hk.2.2.1,hk.2.2.2⟩
end Wn
namespace Wn
def inE (n last:Int):Bool:=decide (0<=n)&&decide (n<=last)
end Wn
theorem vWithin (n last:Int) (w:World) :
  Calls Tryz.prog 214 #[.int .i64 n,.int .i64 last] w fun e w'=>e=.returned (.bool (Wn.inE n last))/\w=w':=by
 have H:=aq (show Wn.inE n last=(decide (0<=n)&&decide (n<=last)) from rfl);rw [H.out]
 by_cases h1:0<=n
 ·rw [decide_eq_true h1]
  go_enter Tryz.func214,Tryz.ntmps214
  go_wp2;go_ret;exact⟨rfl,rfl⟩
 ·rw [decide_eq_false h1]
  go_enter Tryz.func214,Tryz.ntmps214
  go_wp2;go_ret;exact⟨rfl,rfl⟩
theorem vWidth (g h:Int) (w:World) (h1:4<=g) (h2:g<=64) (h3:0<=h) (h4:h<=14) :
  Calls Tryz.prog 215 #[.int .i64 g,.int .i64 h] w fun e w'=>e=.returned (.int .i64 (Wn.wd g h))/\w=w':=by
 have HW:=aq (show wrap64 (g*2^h.toNat)=Wn.wd g h by have:=Wn.wd_le h1 h2 h4;have:=Wn.wd_pos h1 h;unfold Wn.wd at *;unfold wrap64;omega)
 go_enter Tryz.func215,Tryz.ntmps215
 go_wp2;go_ret;rw [<-HW.out];exact⟨rfl,rfl⟩
theorem vWindow (g h a:Int) (w:World) (h1:4<=g) (h2:g<=64) (h3:0<=h) (h4:h<=14) (a0:0<=a) (a1:a<=65536) :
  Calls Tryz.prog 206 #[.int .i64 g,.int .i64 h,.int .i64 a] w fun e w'=>e=.returned (.agg #[.int .i64 (Wn.lo g h a),.int .i64 (Wn.hi g h a)])/\Below w.heap.size w w':=by
 have hw4:=Wn.wd_pos h1 h;have hw5:=Wn.wd_le h1 h2 h4;have CW:=aq (fun W=>vWidth g h W h1 h2 h3 h4);have m0:=Int.emod_nonneg a (show Wn.wd g h≠0 by omega);have m1:=Int.emod_lt_of_pos a (show 0 < Wn.wd g h by omega);have hm:=Int.mul_ediv_add_emod a (Wn.wd g h);have hl0:0<=a/Wn.wd g h*Wn.wd g h:=Int.mul_nonneg (Int.ediv_nonneg a0 (by omega)) (by omega);rw [Int.mul_comm] at hm;have E1:=aq (show a-a % Wn.wd g h=Wn.lo g h a by unfold Wn.lo;omega);have E2:=aq (show a-a % Wn.wd g h+Wn.wd g h=Wn.hi g h a by unfold Wn.hi Wn.lo;omega);obtain⟨W,hW⟩:∃ W,W=Wn.wd g h:=⟨_,rfl⟩;rw [<-hW] at hw4 hw5 CW m0 m1 E1 E2 hm hl0
 have k0:¬ W=0:=by omega
 have hle:a % W<=a:=by omega
 clear hW hm hl0
 go_enter Tryz.func206,Tryz.ntmps206
 go_wp2_with fail
 refine (CW.out _).mono ?_;rintro e w1 ⟨rfl,rfl⟩;go_wp2;refine bodyPost_ret (v:=.agg #[.int .i64 (a-a % W),.int .i64 (a-a % W+W)]) (by simp [results,Tryz.results206,go_sem]) rfl ⟨by rw [E2.out,E1.out],?_⟩;exact ((Below.refl _ _).alloc (Nat.le_refl _) _)
theorem tdiv_smallW {m s:Int} (h1:m < 1) (h2:4<=s):m.tdiv s<=0:=by
 obtain⟨k,rfl⟩:∃ k:Nat,m=-(k:Int):=⟨(-m).toNat,by omega⟩;rw [Int.neg_tdiv];have:0<=(k:Int).tdiv s:=Int.tdiv_nonneg (by omega) (by omega)
 omega
theorem tdiv_lowW {m s:Int} (h0:-9223372036854775808<=m) (h1:m < 1) (h2:4<=s):-9223372036854775808<=m.tdiv s:=by
 obtain⟨k,rfl⟩:∃ k:Nat,m=-(k:Int):=⟨(-m).toNat,by omega⟩;rw [Int.neg_tdiv,Int.tdiv_eq_ediv_of_nonneg (by omega)];have:=Int.ediv_le_self (a:=(k:Int)) s (by omega)
 omega
theorem vMayBe (seg many:Int) (w:World) (hs:seg<=9223372036854775807) (hm:-9223372036854775808<=many/\many<=9223372036854775807) :
  Calls Tryz.prog 229 #[.int .i64 seg,.int .i64 many] w fun e w'=>e=.returned (.bool (Sl.fitsB seg many))/\w=w':=by
 have HF:=aq (show Sl.fitsB seg many=(decide (4<=seg)&&decide (seg<=64)&&Fr.powB seg&&decide (1<=many)&&decide (many<=65536)&&decide (many % seg=0)&&Fr.powB (many/seg)) from rfl);obtain⟨hm1,hm2⟩:=hm
 by_cases c1:seg < 4
 ·have H:=aq (show Sl.fitsB seg many=false by rw [HF.out,show decide (4<=seg)=false from by simp;omega];rfl)
  go_enter Tryz.func229,Tryz.ntmps229
  go_wp2;go_ret;rw [H.out];exact⟨rfl,rfl⟩
 by_cases c2:64 < seg
 ·have H:=aq (show Sl.fitsB seg many=false by rw [HF.out,show decide (seg<=64)=false from by simp;omega,Bool.and_false];rfl)
  go_enter Tryz.func229,Tryz.ntmps229
  go_wp2;go_ret;rw [H.out];exact⟨rfl,rfl⟩
 clear hs;have HP:=aq (fPower seg w (by omega))
 cases hp:Fr.powB seg
 ·have H:=aq (show Sl.fitsB seg many=false by rw [HF.out,hp,Bool.and_false];rfl)
  have hp':=aq hp;clear hp
  go_enter Tryz.func229,Tryz.ntmps229
  go_wp2_with (go_at_call 162;refine HP.out.mono ?_;rintro e w' ⟨rfl,rfl⟩;rw [hp'.out])
  go_ret;rw [H.out];exact⟨rfl,rfl⟩
 have hp':=aq hp
 by_cases c4:65536 < many
 ·have H:=aq (show Sl.fitsB seg many=false by rw [HF.out,show decide (many<=65536)=false from by simp;omega,Bool.and_false];rfl)
  clear hp
  go_enter Tryz.func229,Tryz.ntmps229
  go_wp2_with (go_at_call 162;refine HP.out.mono ?_;rintro e w' ⟨rfl,rfl⟩;rw [hp'.out])
  go_ret;rw [H.out];exact⟨rfl,rfl⟩
 have k0:¬ seg=0:=by omega
 by_cases c3:many < 1
 ·have H:=aq (show Sl.fitsB seg many=false by rw [HF.out,show decide (1<=many)=false from by simp;omega,Bool.and_false];rfl)
  have q1:=tdiv_smallW c3 (show 4<=seg by omega);have q2:=tdiv_lowW hm1 c3 (show 4<=seg by omega);have q3:=aq (Fr.powB_not (n:=many.tdiv seg) (by omega));clear hp
  by_cases c5:many.tmod seg=0
  ·have k1:(many.tmod seg==0)=true:=by simp [c5]
   clear c5
   go_enter Tryz.func229,Tryz.ntmps229
   go_wp2_with (go_at_call 162;first | ((with_reducible refine HP.out.mono ?_);rintro e w' ⟨rfl,rfl⟩;rw [hp'.out]) | (refine (fPower (many.tdiv seg) _ (by omega)).mono ?_;rintro e w' ⟨rfl,rfl⟩;rw [q3.out]))
   go_ret;rw [H.out];exact⟨rfl,rfl⟩
  ·have k1:(many.tmod seg==0)=false:=by simp [c5]
   clear c5
   go_enter Tryz.func229,Tryz.ntmps229
   go_wp2_with (go_at_call 162;first | ((with_reducible refine HP.out.mono ?_);rintro e w' ⟨rfl,rfl⟩;rw [hp'.out]) | (refine (fPower (many.tdiv seg) _ (by omega)).mono ?_;rintro e w' ⟨rfl,rfl⟩;rw [q3.out]))
   go_ret;rw [H.out];exact⟨rfl,rfl⟩
 have HX:=aq (show Sl.fitsB seg many=(decide (many % seg=0)&&Fr.powB (many/seg)) by
  rw [HF.out,hp,show decide (4<=seg)=true from by simp;omega,show decide (seg<=64)=true from by simp;omega,show decide (1<=many)=true from by simp;omega,show decide (many<=65536)=true from by simp;omega];simp)
 have hq:many/seg<=65536:=by have:=Int.ediv_le_self (a:=many) seg (by omega);omega
 have hq0:0<=many/seg:=Int.ediv_nonneg (a:=many) (b:=seg) (by omega) (by omega)
 by_cases c5:many % seg=0
 ·have H:=aq (show Sl.fitsB seg many=Fr.powB (many/seg) by rw [HX.out,decide_eq_true c5,Bool.true_and])
  have k1:(many % seg==0)=true:=by simp [c5]
  clear hp c5
  go_enter Tryz.func229,Tryz.ntmps229
  go_wp2_with (go_at_call 162;first | ((with_reducible refine HP.out.mono ?_);rintro e w' ⟨rfl,rfl⟩;rw [hp'.out]) | (refine (fPower (many/seg) _ (by omega)).mono ?_;rintro e w' ⟨rfl,rfl⟩))
  go_ret;rw [H.out];exact⟨rfl,rfl⟩
 ·have H:=aq (show Sl.fitsB seg many=false by rw [HX.out,decide_eq_false c5,Bool.false_and])
  have k1:(many % seg==0)=false:=by simp [c5]
  clear hp c5
  go_enter Tryz.func229,Tryz.ntmps229
  go_wp2_with (go_at_call 162;first | ((with_reducible refine HP.out.mono ?_);rintro e w' ⟨rfl,rfl⟩;rw [hp'.out]) | (refine (fPower (many/seg) _ (by omega)).mono ?_;rintro e w' ⟨rfl,rfl⟩))
  go_ret;rw [H.out];exact⟨rfl,rfl⟩
theorem vHigh (g s:Int) (w:World) (hg:g<=9223372036854775807) (hs:-9223372036854775808<=s/\s<=9223372036854775807) :
  Calls Tryz.prog 203 #[.int .i64 g,.int .i64 s] w fun e w'=>e=.returned (.tuple #[.int .i64 (Wn.highV g s),.int .i64 (Wn.highE g s)])/\w=w':=by
 have CM:=aq (vMayBe g s w hg hs)
 cases hf:Sl.fitsB g s
 ·have E:=aq (Wn.high_no hf)
  rw [hf] at CM;clear hf
  go_enter Tryz.func203,Tryz.ntmps203
  go_wp2_with fail
  refine CM.out.mono ?_;rintro e w1 ⟨rfl,rfl⟩;go_wp2;go_ret2;rw [E.out.1,E.out.2];exact⟨rfl,rfl⟩
 ·have E:=aq (Wn.high_yes hf)
  obtain⟨H,f⟩:=Wn.fit_of hf;have g1:=f.g1;have h2:=f.seg;have h3:=f.s1
  have q1:1<=s/g:=by have:=Int.ediv_le_ediv (c:=g) (by omega) h2;rw [Int.ediv_self (by omega)] at this;exact this
  have q2:s/g<=s:=Int.ediv_le_self (a:=s) g (by omega);have CD:=aq (fun W=>fDown (s/g) W (by omega));rw [(Fr.down_yes q1).1,(Fr.down_yes q1).2,show Fr.lg (s/g)=Wn.high g s from rfl] at CD
  have k0:¬ g=0:=by omega
  rw [hf] at CM;clear f hf
  go_enter Tryz.func203,Tryz.ntmps203
  go_wp2_with fail
  refine CM.out.mono ?_;rintro e w1 ⟨rfl,rfl⟩
  go_wp2_with fail
  refine (CD.out _).mono ?_;rintro e w1 ⟨rfl,rfl⟩;go_wp2;go_ret2;rw [E.out.1,E.out.2];exact⟨rfl,rfl⟩
def Wn.areB (s:Int) (zs:List Int):Bool:=zs.all fun z=>Wn.inE z (s-1)
namespace Wn
theorem are_one (s a:Int):areB s [a]=(decide (0<=a)&&decide (a < s)):=by
 unfold areB inE
 simp only [List.all_cons,List.all_nil,Bool.and_true]
 rw [show decide (a<=s-1)=decide (a < s) from by simp;omega]
theorem ask_are {g s h a:Int} (hf:Sl.fitsB g s=true):askB g s h a=(inE h (high g s)&&areB s [a]):=by rw [ask_in hf,are_one];rfl
theorem ask_ok {g s h a:Int} (hk:askB g s h a=true):loV g s h a=lo g h a/\hiV g s h a=hi g h a/\askE g s h a=0:=by unfold loV hiV askE;rw [hk];exact⟨rfl,rfl,rfl⟩
end Wn
theorem elemA:Elem Tryz.prog 191 195 (.agg #[.int .i64 0,.int .i64 0]) 2 16 :=
 ⟨Tryz.underlying191,info_parts (show (Tryz.prog.info? 195).map (fun i=>(i.zero,i.size,i.bytes))=some (some (.agg #[.int .i64 0,.int .i64 0]),2,16) by kernel_rfl),rfl,by decide⟩
def WRow (ps:List (Int×Int)) (er:Int) (w:World) (e:Ending) (w':World):Prop :=
 ∃ v,e=.returned (.tuple #[v,.int .i64 er])/\w'.ownsRow w.heap.size 195 2 v ps.length (pcells ps)/\Below w.heap.size w w'
def WinJ (f:Nat->Int×Int) (n:Nat) (w:World) (v i:Value) (wr:World) (step:Int):Prop :=
 ∃ k:Nat,k<=n/\i=.int .i64 ((k:Int)*step)/\wr.ownsRow w.heap.size 195 2 v k (pcells ((List.range k).map f))/\Below w.heap.size w wr
theorem pcells_more (f:Nat->Int×Int) (k:Nat):pcells ((List.range (k+1)).map f)=pcells ((List.range k).map f)++[.int .i64 (f k).1,.int .i64 (f k).2]:=by
 rw [List.range_succ,List.map_append];unfold pcells;rw [List.flatMap_append]
 rfl
namespace Wn
theorem lo_mul {g h:Int} (hg:4<=g) (k:Int):lo g h (k*wd g h)=k*wd g h:=by
 have:=wd_pos hg h;unfold lo;rw [Int.mul_ediv_cancel _ (by omega)]
theorem hi_mul {g h:Int} (hg:4<=g) (k:Int):hi g h (k*wd g h)=k*wd g h+wd g h:=by
 unfold hi;rw [lo_mul hg]
theorem row_no {g s h:Int} (hk:askB g s h 0=false):row g s h=[]/\askE g s h 0=2:=by unfold row askE;rw [hk];exact⟨rfl,rfl⟩
theorem ask_zero {g s h:Int} {H:Nat} (hf:Sl.fitsB g s=true) (f:Fit g s H):askB g s h 0=inE h (high g s):=by
 rw [ask_are hf,are_one];have:=f.seg;have:=f.g1;rw [decide_eq_true (show (0:Int) < s by omega)]
 simp
end Wn
theorem vRow (g s h:Int) (w:World) (hg:g<=9223372036854775807) (hs:-9223372036854775808<=s/\s<=9223372036854775807) :
  Calls Tryz.prog 178 #[.int .i64 g,.int .i64 s,.int .i64 h] w (WRow (Wn.row g s h) (Wn.askE g s h 0) w):=by
 have CH:=aq (fun W=>vHigh g s W hg hs)
 cases hf:Sl.fitsB g s
 ·have E:=aq (Wn.row_no (Wn.ask_fits (h:=h) (a:=0) hf))
  rw [(Wn.high_no hf).1,(Wn.high_no hf).2] at CH;clear hf
  go_enter Tryz.func178,Tryz.ntmps178
  go_wp2_with fail
  refine (CH.out _).mono ?_;rintro e w1 ⟨rfl,rfl⟩;go_wp2;go_ret2;rw [E.out.1,E.out.2];exact⟨_,rfl,World.ownsRow_nil _ _ _ _,Below.refl _ _⟩
 ·rw [(Wn.high_yes hf).1,(Wn.high_yes hf).2] at CH
  obtain⟨H,f⟩:=Wn.fit_of hf;have AK:=aq (Wn.ask_zero (h:=h) hf f);have CI:=aq (fun W=>vWithin h (Wn.high g s) W)
  cases hi:Wn.inE h (Wn.high g s)
  ·have E:=aq (Wn.row_no (show Wn.askB g s h 0=false by rw [AK.out,hi]))
   rw [hi] at CI;clear hi hf f;obtain⟨top,htop⟩:∃ top,top=Wn.high g s:=⟨_,rfl⟩;rw [<-htop] at CH AK CI;clear htop
   go_enter Tryz.func178,Tryz.ntmps178
   go_wp2_with fail
   refine (CH.out _).mono ?_;rintro e w1 ⟨rfl,rfl⟩
   go_wp2_with fail
   refine (CI.out _).mono ?_;rintro e w1 ⟨rfl,rfl⟩;go_wp2;go_ret2;rw [E.out.1,E.out.2];exact⟨_,rfl,World.ownsRow_nil _ _ _ _,Below.refl _ _⟩
  ·have hk:Wn.askB g s h 0=true:=by rw [AK.out,hi]
   have EA:Wn.askE g s h 0=0:=by unfold Wn.askE;rw [hk];rfl
   obtain⟨_,h0,hH,a0,a1⟩:=Wn.ask_yes hk;have s1:=f.s1;have h14:=f.h14;have g1:=f.g1;have g2:=f.g2;rw [f.hH] at hH
   have hh14:h<=14:=by omega
   have hw4:=Wn.wd_pos g1 h
   obtain⟨n,hn1,hn,hrow⟩:∃ n:Nat,1<=n/\(n:Int)*Wn.wd g h=s/\Wn.row g s h=(List.range n).map fun k:Nat=>((k:Int)*Wn.wd g h,(k:Int)*Wn.wd g h+Wn.wd g h):=by
    have e:h=((h.toNat:Nat):Int):=by omega
    have q:=f.row_of (h:=h.toNat) (by omega) (by rw [<-e];exact hk);rw [<-e] at q;exact q
   have ER:=aq hrow;rw [EA];rw [hi] at CI;have CW:=aq (fun W=>vWidth g h W g1 g2 h0 hh14)
   have CV:=aq (show ∀ (k:Nat) (W:World),k < n->Calls Tryz.prog 206 #[.int .i64 g,.int .i64 h,.int .i64 ((k:Int)*Wn.wd g h)] W fun e w'=>e=.returned (.agg #[.int .i64 ((k:Int)*Wn.wd g h),.int .i64 ((k:Int)*Wn.wd g h+Wn.wd g h)])/\Below W.heap.size W w' from by
    intro k W hk;have hle:(k:Int)*Wn.wd g h<=(n:Int)*Wn.wd g h:=Int.mul_le_mul_of_nonneg_right (by omega) (by omega);have q:=vWindow g h ((k:Int)*Wn.wd g h) W g1 g2 h0 hh14 (Int.mul_nonneg (by omega) (by omega)) (by omega);rw [Wn.lo_mul g1,Wn.hi_mul g1] at q
    exact q)
   obtain⟨top,htop⟩:∃ top,top=Wn.high g s:=⟨_,rfl⟩;rw [<-htop] at CH AK CI;obtain⟨W,hW⟩:∃ W,W=Wn.wd g h:=⟨_,rfl⟩;rw [<-hW] at hw4 hn ER CW CV
   have IN:=aq (show ∀ k:Nat,k < n->(k:Int)*W+W<=s by
    intro k hk;have:=Int.mul_le_mul_of_nonneg_right (show ((k:Int)+1)<=n by omega) (show 0<=W by omega);rw [Int.add_mul,Int.one_mul] at this
    omega)
   have EQ:=aq (show s/W=(n:Int) by rw [<-hn];exact Int.mul_ediv_cancel _ (by omega))
   have hn4:(n:Int)*4<=s:=by rw [<-hn];exact Int.mul_le_mul_of_nonneg_left hw4 (by omega)
   have END:=aq hn
   have k0:¬ W=0:=by omega
   have hWs:W<=s:=by have:=IN.out 0 hn1;simpa using this
   have hs0:0<=s:=by omega
   clear hk hf f EA hn hW hH hi htop hrow hs
   go_enter Tryz.func178,Tryz.ntmps178
   go_wp2_with fail
   refine (CH.out _).mono ?_;rintro e w1 ⟨rfl,rfl⟩
   go_wp2_with fail
   refine (CI.out _).mono ?_;rintro e w1 ⟨rfl,rfl⟩
   go_wp2_with fail
   refine (CW.out _).mono ?_;rintro e w1 ⟨rfl,rfl⟩
   go_wp2_with (at_make;refine wpList_make0 elemA rfl _ _ rfl .i64 .i64 _ n w.heap.size rfl rfl EQ.out (by omega) (by unfold maxLen;omega) (Nat.le_refl _) ?_;intro w5 hown5 hb5;have HO5:=aq hown5;have HB5:=aq hb5;clear hown5 hb5)
   go_loopw [11,12] (fun v i wr=>WinJ (fun k:Nat=>((k:Int)*W,(k:Int)*W+W)) n w v i wr W) (fun _ i _=>(s-intOf i).toNat)
   case atStart=>exact⟨0,Nat.zero_le _,by simp,HO5.out,HB5.out⟩
   case round =>
    obtain⟨k,hk,hi,hown,hbr⟩:=hrel;subst hi;have HO:=aq hown;have HB:=aq hbr;have zz:=hbr.size;clear hown hbr
    by_cases hlt:k < n
    ·have hin:=IN.out k hlt
     have z0:0<=(k:Int)*W:=Int.mul_nonneg (by omega) (by omega);have HM:=aq (pcells_more (fun k:Nat=>((k:Int)*W,(k:Int)*W+W)) k);have EK:=aq (show (((k+1:Nat):Int))*W=(k:Int)*W+W by rw [Int.natCast_add,Int.add_mul];simp);have CV1:=aq (fun W'=>CV.out k W' hlt);obtain⟨x,hx⟩:∃ x,x=(k:Int)*W:=⟨_,rfl⟩
     dsimp only at HM
     rw [<-hx] at hin z0 HM EK CV1 ⊢;clear hx
     go_wp2_with fail
     refine (CV1.out _).mono ?_;rintro e w6 ⟨rfl,hb6⟩;have HO6:=aq (own_below HO.out hb6);have HB6:=aq (HB.out.trans (hb6.mono zz));have zz6:=HB6.out.size;clear hb6
     go_wp2_with (at_builtin;refine wpList_moreN elemA rfl (.tmp 40) (.tmp 45) rfl w6 195 [.int .i64 x,.int .i64 (x+W)] rfl rfl w.heap.size k _ _ rfl rfl HO6.out (by intro u hu;simp at hu;rcases hu with rfl | rfl<;>rfl) zz6 (by unfold maxLen;omega) (by omega) ?_;intro v5 w5 hown5 hb5;rw [<-HM.out] at hown5;have HO5:=aq hown5;have HB5:=aq (HB6.out.trans hb5);clear hown5 hb5)
     go_roundw
     case rel=>exact⟨k+1,by omega,by rw [EK.out],HO5.out,HB5.out⟩
     case measure=>simp [intOf];omega
    ·obtain rfl:k=n:=by omega
     have EE:=END.out;rw [EE];go_wp2;go_ret2;rw [ER.out];exact⟨_,rfl,by simpa using HO.out,HB.out⟩
end Go.Proofs.YtpeckljoannolaaGreatDoor

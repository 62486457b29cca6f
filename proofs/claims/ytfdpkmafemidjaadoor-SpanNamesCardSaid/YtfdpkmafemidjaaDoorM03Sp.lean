/- What the document's own answers of layer 4 return that only read. -/
import Derived.Test.YtfdpkmafemidjaaDoorM01Sp
import Derived.Test.YtfdpkmafemidjaaDoorM02Sp
import Derived.Test.YtfdpkmafemidjaaDoorRefW01Sp
import Derived.Deep.RegionHeld3
import Derived.StillTailTactics
import Derived.Test.YtfdpkmafemidjaaDoorTkSp
set_option linter.unusedVariables false
set_option linter.unusedSimpArgs false
set_option maxHeartbeats 2000000
set_option maxRecDepth 100000
namespace Go.Proofs.YtfdpkmafemidjaaDoor
open Go.RowKit
theorem fitsB_parts (seg many:Int):Sl.fitsB seg many=(decide (4<=seg)&&decide (seg<=64)&&Fr.powB seg&&decide (1<=many)&&decide (many<=65536)&&decide (many % seg=0)&&Fr.powB (many/seg)):=rfl
theorem r4Fits (seg many:Int) (w:World) (h2:many<=9223372036854775807) (h1:seg<=9223372036854775807) :
  Calls Tryd.prog 91 #[.int .i64 seg,.int .i64 many] w fun e w'=>e=.returned (.bool (Sl.fitsB seg many))/\w=w':=by
 have HF:=aq (fitsB_parts seg many)
 by_cases c1:seg < 4
 ·have H:=aq (show Sl.fitsB seg many=false by rw [HF.out,show decide (4<=seg)=false from by simp;omega];rfl)
  go_enter Tryd.func91,Tryd.ntmps91
  go_wp2;go_ret;rw [H.out];exact⟨rfl,rfl⟩
 by_cases c2:64 < seg
 ·have H:=aq (show Sl.fitsB seg many=false by rw [HF.out,show decide (seg<=64)=false from by simp;omega,Bool.and_false];rfl)
  go_enter Tryd.func91,Tryd.ntmps91
  go_wp2;go_ret;rw [H.out];exact⟨rfl,rfl⟩
 have HP:=aq (rPower seg w (by omega))
 cases hp:Fr.powB seg
 ·have H:=aq (show Sl.fitsB seg many=false by rw [HF.out,hp,Bool.and_false];rfl)
  have hp':=aq hp;clear hp
  go_enter Tryd.func91,Tryd.ntmps91
  go_wp2_with (go_at_call 98;refine HP.out.mono ?_;rintro e w' ⟨rfl,rfl⟩;rw [hp'.out])
  go_ret;rw [H.out];exact⟨rfl,rfl⟩
 by_cases c3:many < 1
 ·have H:=aq (show Sl.fitsB seg many=false by rw [HF.out,show decide (1<=many)=false from by simp;omega,Bool.and_false];rfl)
  have hp':=aq hp;clear hp
  go_enter Tryd.func91,Tryd.ntmps91
  go_wp2_with (go_at_call 98;refine HP.out.mono ?_;rintro e w' ⟨rfl,rfl⟩;rw [hp'.out])
  go_ret;rw [H.out];exact⟨rfl,rfl⟩
 by_cases c4:65536 < many
 ·have H:=aq (show Sl.fitsB seg many=false by rw [HF.out,show decide (many<=65536)=false from by simp;omega,Bool.and_false];rfl)
  have hp':=aq hp;clear hp
  go_enter Tryd.func91,Tryd.ntmps91
  go_wp2_with (go_at_call 98;refine HP.out.mono ?_;rintro e w' ⟨rfl,rfl⟩;rw [hp'.out])
  go_ret;rw [H.out];exact⟨rfl,rfl⟩
 have hp':=aq hp
 have HX:=aq (show Sl.fitsB seg many=(decide (many % seg=0)&&Fr.powB (many/seg)) by
  rw [HF.out,hp,show decide (4<=seg)=true from by simp;omega,show decide (seg<=64)=true from by simp;omega,show decide (1<=many)=true from by simp;omega,show decide (many<=65536)=true from by simp;omega];simp)
 have k0:¬ seg=0:=by omega
 have hq:many/seg<=65536:=by have:=Int.ediv_le_self (a:=many) seg (by omega);omega
 have hq0:0<=many/seg:=Int.ediv_nonneg (a:=many) (b:=seg) (by omega) (by omega)
 by_cases c5:many % seg=0
 ·have H:=aq (show Sl.fitsB seg many=Fr.powB (many/seg) by rw [HX.out,decide_eq_true c5,Bool.true_and])
  have k1:(many % seg==0)=true:=by simp [c5]
  clear hp c5
  go_enter Tryd.func91,Tryd.ntmps91
  go_wp2_with (go_at_call 98;first | ((with_reducible refine HP.out.mono ?_);rintro e w' ⟨rfl,rfl⟩;rw [hp'.out]) | (refine (rPower (many/seg) _ (by omega)).mono ?_;rintro e w' ⟨rfl,rfl⟩))
  go_ret;rw [H.out];exact⟨rfl,rfl⟩
 ·have H:=aq (show Sl.fitsB seg many=false by rw [HX.out,decide_eq_false c5,Bool.false_and])
  have k1:(many % seg==0)=false:=by simp [c5]
  clear hp c5
  go_enter Tryd.func91,Tryd.ntmps91
  go_wp2_with (go_at_call 98;first | ((with_reducible refine HP.out.mono ?_);rintro e w' ⟨rfl,rfl⟩;rw [hp'.out]) | (refine (rPower (many/seg) _ (by omega)).mono ?_;rintro e w' ⟨rfl,rfl⟩))
  go_ret;rw [H.out];exact⟨rfl,rfl⟩
theorem r4Great (s:Sl) (a:Ads) (n:Int) (w:World) :
  Calls Tryd.prog 19 #[slv s a,.int .i64 n] w fun e w'=>e=.returned (.bool (s.greatB n))/\Below w.heap.size w w':=by
 have H:=aq (show s.greatB n=(decide (n < (s.keys.length:Int))||decide (n < (s.vals.length:Int))||decide (n < (s.words.length:Int))||decide (n < (s.counts.length:Int))) from rfl);unfold slv
 by_cases h1:n < (s.keys.length:Int)
 all_goals by_cases h2:n < (s.vals.length:Int)
 all_goals by_cases h3:n < (s.words.length:Int)
 all_goals by_cases h4:n < (s.counts.length:Int)
 all_goals
  have H2:=aq (H.out.trans (by simp only [h1,h2,h3,h4,decide_true,decide_false,Bool.true_or,Bool.or_true,Bool.false_or,Bool.or_false];rfl))
  go_enter Tryd.func19,Tryd.ntmps19
  go_wp2;go_ret;rw [H2.out];exact⟨rfl,(Below.refl _ _).alloc (Nat.le_refl _) _⟩
theorem r4SameKeys (a b:Option Addr) (ca cb:Nat) (xs ys:List Int) (w:World) (ha:Lst .i64 w a xs) (hb:Lst .i64 w b ys) (hn:xs.length<=2147483647) (hm:ys.length<=2147483647) :
  Calls Tryd.prog 44 #[.slice a xs.length ca,.slice b ys.length cb] w fun e w'=>e=.returned (.bool (xs==ys))/\Below w.heap.size w w':=by
 have HA:=aq ha;have HB:=aq hb;clear ha hb
 by_cases hne:xs.length=ys.length
 ·have k1:((xs.length:Int) != ys.length)=false:=by simp;omega
  have HNE:=aq hne;clear hne
  go_enter Tryd.func44,Tryd.ntmps44
  go_wp2
  go_loopw [5] (SameIJ xs ys w) (fun i _=>xs.length-(intOf i).toNat)
  case atStart=>exact⟨0,0,Nat.zero_le _,rfl,rfl,rfl⟩
  case round =>
   obtain⟨k,q,hk,rfl,rfl,ht⟩:=hrel;have HT:=aq ht;clear ht
   by_cases hlt:k < xs.length
   ·have hltb:k < ys.length:=by have:=HNE.out;omega
    obtain⟨b1,o1,rfl,_,c1⟩:=HA.out.cell hlt;obtain⟨b2,o2,rfl,_,c2⟩:=HB.out.cell hltb;obtain⟨x,hx⟩:∃ x,xs.getD k 0=x:=⟨_,rfl⟩;obtain⟨y,hy⟩:∃ y,ys.getD k 0=y:=⟨_,rfl⟩;rw [hx] at c1;rw [hy] at c2;have HX:=aq hx;have HY:=aq hy;clear hx hy
    by_cases he:x=y
    ·have k2:(x != y)=false:=by simp [he]
     have HE:=aq he;clear he;go_wp2
     go_quiet (fail)
     go_wp2
     go_roundw
     case rel=>exact⟨k+1,_,by omega,by go_num,rfl,take_sameI xs ys k hlt hltb HT.out (by rw [HX.out,HY.out,HE.out])⟩
     case measure=>simp [intOf];omega
    ·have k2:(x != y)=true:=by simp;omega
     have HE:=aq he;clear he;go_wp2
     go_quiet (fail)
     go_wp2;go_ret;rw [not_sameI xs ys k (by rw [HX.out,HY.out];exact HE.out)];exact⟨rfl,below_drewN (below_drewN (Below.refl _ _) _) _⟩
   ·go_wp2
    go_ret
    have e:xs=ys:=by
     have:=HT.out
     rwa [List.take_of_length_le (by omega),List.take_of_length_le (by have:=HNE.out;omega)] at this
    rw [e];exact⟨by simp,below_drewN (Below.refl _ _) _⟩
 ·have k1:((xs.length:Int) != ys.length)=true:=by simp;omega
  have H:=aq (show (xs==ys)=false by rw [beq_eq_false_iff_ne];rintro rfl;exact hne rfl);clear hne
  go_enter Tryd.func44,Tryd.ntmps44
  go_wp2;go_ret;rw [H.out];exact⟨rfl,Below.refl _ _⟩
theorem beq_nat_int (x y:Nat):((x:Int)==(y:Int))=(x==y):=by
 rw [Bool.eq_iff_iff,beq_iff_eq,beq_iff_eq];omega
theorem same_of {s t:Sl} {b1 b2 b3 b4 b5 b6:Bool} (h1:(s.seg==t.seg)=b1) (h2:(s.laid==t.laid)=b2) (h3:(s.words==t.words)=b3) (h4:(s.keys==t.keys)=b4) (h5:(s.vals==t.vals)=b5) (h6:(s.counts==t.counts)=b6):s.sameB t=(b1&&b2&&b3&&b4&&b5&&b6):=by
 unfold Sl.sameB;rw [h1,h2,h3,h4,h5,h6]
theorem r4Same (s t:Sl) (a b:Ads) (w:World) (hs:Held w s a) (ht:Held w t b) (ls:s.Short) (lt:t.Short) :
  Calls Tryd.prog 26 #[slv s a,slv t b] w fun e w'=>e=.returned (.bool (s.sameB t))/\Below w.heap.size w w':=by
 have HS:=aq hs;have HT:=aq ht;have q1:=ls.words;have q2:=ls.keys;have q3:=ls.vals;have q4:=ls.counts;have q5:=lt.words;have q6:=lt.keys;have q7:=lt.vals;have q8:=lt.counts;clear hs ht ls lt;unfold slv;have HL:=aq (beq_nat_int s.laid t.laid);have HF:=aq (fun (b1 b2 b3 b4 b5 b6:Bool)=>@same_of s t b1 b2 b3 b4 b5 b6);have b0:∀ o o':Obj,Below w.heap.size w ((w.alloc o).alloc o'):=fun o o'=>((Below.refl _ _).alloc (Nat.le_refl _) o).alloc (by simp) o';have B0:=aq b0;clear b0
 cases h1:(s.seg==t.seg)
 ·go_enter Tryd.func26,Tryd.ntmps26
  go_wp2;go_ret;refine⟨?_,B0.out _ _⟩;rw [HF.out _ _ _ _ _ _ h1 rfl rfl rfl rfl rfl];rfl
 cases h2:((s.laid:Int)==(t.laid:Int))
 ·go_enter Tryd.func26,Tryd.ntmps26
  go_wp2;go_ret;refine⟨?_,B0.out _ _⟩;rw [HF.out _ _ _ _ _ _ h1 (HL.out.symm.trans h2) rfl rfl rfl rfl];rfl
 have g1:=aq h1;have g2:=aq (HL.out.symm.trans h2)
 go_enter Tryd.func26,Tryd.ntmps26
 go_wp2_with fail
 refine (r2Same _ _ _ _ _ _ _ (HS.out.below (B0.out _ _)).words (HT.out.below (B0.out _ _)).words q1 q5).mono ?_;rintro e w1 ⟨rfl,hb⟩;have B1:=aq ((B0.out _ _).trans (hb.mono (B0.out _ _).size));obtain⟨hc1,hf1⟩:=bcell hb
 have z1:w.heap.size+1 < w1.heap.size:=by have:=hb.size;simp at this;omega
 have y1:w.heap.size < w1.heap.size:=by omega
 clear hb
 cases h3:(s.words==t.words)
 ·go_wp2
  go_ret;refine⟨?_,B1.out⟩;rw [HF.out _ _ _ _ _ _ g1.out g2.out h3 rfl rfl rfl];rfl
 have g3:=aq h3;clear h3
 go_wp2_with fail
 refine (r4SameKeys _ _ _ _ _ _ _ (HS.out.below B1.out).keys (HT.out.below B1.out).keys (by omega) (by omega)).mono ?_;rintro e w2 ⟨rfl,hb⟩;have B2:=aq (B1.out.trans (hb.mono B1.out.size));obtain⟨hc2,hf2⟩:=bcell hb
 have z2:w.heap.size+1 < w2.heap.size:=by have:=hb.size;omega
 have y2:w.heap.size < w2.heap.size:=by omega
 clear hb
 cases h4:(s.keys==t.keys)
 ·go_wp2
  go_ret;refine⟨?_,B2.out⟩;rw [HF.out _ _ _ _ _ _ g1.out g2.out g3.out h4 rfl rfl];rfl
 have g4:=aq h4;clear h4
 go_wp2_with fail
 refine (r4SameKeys _ _ _ _ _ _ _ (HS.out.below B2.out).vals (HT.out.below B2.out).vals (by omega) (by omega)).mono ?_;rintro e w3 ⟨rfl,hb⟩;have B3:=aq (B2.out.trans (hb.mono B2.out.size));obtain⟨hc3,hf3⟩:=bcell hb
 have z3:w.heap.size+1 < w3.heap.size:=by have:=hb.size;omega
 have y3:w.heap.size < w3.heap.size:=by omega
 clear hb
 cases h5:(s.vals==t.vals)
 ·go_wp2
  go_ret;refine⟨?_,B3.out⟩;rw [HF.out _ _ _ _ _ _ g1.out g2.out g3.out g4.out h5 rfl];rfl
 have g5:=aq h5;clear h5
 go_wp2_with fail
 refine (rSameInts _ _ _ _ _ _ _ (HS.out.below B3.out).counts (HT.out.below B3.out).counts (by omega) (by omega)).mono ?_;rintro e w4 ⟨rfl,hb⟩;have B4:=aq (B3.out.trans (hb.mono B3.out.size));obtain⟨hc4,hf4⟩:=bcell hb
 have z4:w.heap.size+1 < w4.heap.size:=by have:=hb.size;omega
 have y4:w.heap.size < w4.heap.size:=by omega
 clear hb
 cases h6:(s.counts==t.counts)
 all_goals
  go_wp2;go_ret;refine⟨?_,B4.out⟩;rw [HF.out _ _ _ _ _ _ g1.out g2.out g3.out g4.out g5.out h6];rfl
theorem form_parts (s:Sl):s.formB=(Sl.fitsB s.seg s.keys.length&&s.vals.length==s.keys.length&&Oc.mayB s.words s.keys.length&&decide ((s.counts.length:Int)=(s.keys.length:Int)/s.seg)):=rfl
theorem may_form {s:Sl} (h:s.formB=false):s.mayB=false:=by unfold Sl.mayB;rw [h];rfl
theorem r4May_no (s:Sl) (a:Ads) (w:World) (h:Held w s a) (hok:s.Ok) (hs:s.Short) (hno:s.formB=false) :
  Calls Tryd.prog 84 #[slv s a] w fun e w'=>e=.returned (.bool s.mayB)/\Below w.heap.size w w':=by
 have HF:=aq (form_parts s);have HM:=aq (may_form hno);have HNo:=aq hno;have HH:=aq h.alloc;have HW:=aq hok.words;have l1:=hs.words;have l2:=hs.keys;have l3:=hs.vals;have l4:=hs.counts;have hseg:=hok.seg.2;have CF:=aq (fun W=>r4Fits s.seg (s.keys.length:Int) W (by omega) hseg);have CM:=aq (fun o n=>r2May a.w a.cw s.words s.keys.length ((w.alloc o).drewN n) ((HH.out o).words.drewN n) HW.out l1 l2);clear h hok hs hno hseg;unfold slv
 cases c1:Sl.fitsB s.seg s.keys.length
 ·have C1:=aq c1
  clear c1
  go_enter Tryd.func84,Tryd.ntmps84
  go_wp2
  go_quiet ((go_at_call 91;exact Calls.quiet_of_same ((CF.out _).mono fun _ _ x=>⟨x.1.trans (by rw [C1.out]),x.2.symm⟩)))
  go_wp2;go_ret;rw [HM.out];exact⟨rfl,below_drewN ((Below.refl _ _).alloc (Nat.le_refl _) _) _⟩
 ·have C1:=aq c1
  clear c1
  by_cases c2:s.vals.length=s.keys.length
  case neg =>
   have k2:((s.vals.length:Int) != (s.keys.length:Int))=true:=by simp;omega
   clear c2
   go_enter Tryd.func84,Tryd.ntmps84
   go_wp2
   go_quiet ((go_at_call 91;exact Calls.quiet_of_same ((CF.out _).mono fun _ _ x=>⟨x.1.trans (by rw [C1.out]),x.2.symm⟩)))
   go_wp2;go_ret;rw [HM.out];exact⟨rfl,below_drewN ((Below.refl _ _).alloc (Nat.le_refl _) _) _⟩
  case pos =>
   have k2:((s.vals.length:Int) != (s.keys.length:Int))=false:=by simp;omega
   have C2:=aq c2;clear c2
   cases c3:Oc.mayB s.words s.keys.length
   ·have C3:=aq c3
    clear c3
    go_enter Tryd.func84,Tryd.ntmps84
    go_wp2
    go_quiet ((first | (go_at_call 91;exact Calls.quiet_of_same ((CF.out _).mono fun _ _ x=>⟨x.1.trans (by rw [C1.out]),x.2.symm⟩)) | (go_at_call 92;exact Calls.quiet_of_same ((CM.out _ _).mono fun _ _ x=>⟨x.1.trans (by rw [C3.out]),x.2.symm⟩))))
    go_wp2;go_ret;rw [HM.out];exact⟨rfl,below_drewN ((Below.refl _ _).alloc (Nat.le_refl _) _) _⟩
   ·have C3:=aq c3
    clear c3
    have hseg4:4<=s.seg:=by
     have:=C1.out;rw [fitsB_parts] at this
     simp only [Bool.and_eq_true,decide_eq_true_eq] at this
     exact this.1.1.1.1.1.1
    have k0:¬ s.seg=0:=by omega
    have k1:(0:Int)<=s.seg:=by omega
    have k4:((s.counts.length:Int) != (s.keys.length:Int)/s.seg)=true:=by
     rw [bne_iff_ne];intro e;have h1:=HNo.out;rw [HF.out,C1.out,C3.out,C2.out,e] at h1
     simp at h1
    have g9:IntKind.i64.wrap ((s.keys.length:Int)/s.seg)=(s.keys.length:Int)/s.seg:=by
     have h1:=Int.ediv_le_self (a:=(s.keys.length:Int)) s.seg (by omega);have h2:=Int.ediv_nonneg (a:=(s.keys.length:Int)) (b:=s.seg) (by omega) (by omega);exact IntWalk.i64_in _ (by omega)
    have g8:(s.keys.length:Int).tdiv s.seg=(s.keys.length:Int)/s.seg:=Int.tdiv_eq_ediv_of_nonneg (by omega)
    go_enter Tryd.func84,Tryd.ntmps84
    go_wp2
    go_quiet ((first | (go_at_call 91;exact Calls.quiet_of_same ((CF.out _).mono fun _ _ x=>⟨x.1.trans (by rw [C1.out]),x.2.symm⟩)) | (go_at_call 92;exact Calls.quiet_of_same ((CM.out _ _).mono fun _ _ x=>⟨x.1.trans (by rw [C3.out]),x.2.symm⟩))))
    go_wp2;go_ret;rw [HM.out];exact⟨rfl,below_drewN ((Below.refl _ _).alloc (Nat.le_refl _) _) _⟩
theorem zeros_snoc (s:Sl) (k:Nat):s.zerosB (k+1)=(s.zerosB k&&s.zeroAt k):=by unfold Sl.zerosB;rw [List.range_succ,List.all_append];simp
theorem counts_snoc (s:Sl) (k:Nat):s.countsB (k+1)=(s.countsB k&&s.countAt k):=by unfold Sl.countsB;rw [List.range_succ,List.all_append];simp
theorem all_range_false {p:Nat->Bool} {n k:Nat} (hk:k < n) (h:p k=false):(List.range n).all p=false:=by
 rw [List.all_eq_false];exact⟨k,by simpa using hk,by simp [h]⟩
theorem form_yes {s:Sl} (h:s.formB=true):Sl.fitsB s.seg s.keys.length=true/\s.vals.length=s.keys.length/\Oc.mayB s.words s.keys.length=true/\(s.counts.length:Int)=(s.keys.length:Int)/s.seg:=by
 rw [form_parts] at h
 simp only [Bool.and_eq_true,decide_eq_true_eq,beq_iff_eq] at h
 exact⟨h.1.1.1,h.1.1.2,h.1.2,h.2⟩
theorem fits_yes {seg many:Int} (h:Sl.fitsB seg many=true):4<=seg/\seg<=64/\Fr.powB seg=true/\1<=many/\many<=65536/\many % seg=0/\Fr.powB (many/seg)=true:=by
 rw [fitsB_parts] at h
 simp only [Bool.and_eq_true,decide_eq_true_eq] at h
 exact⟨h.1.1.1.1.1.1,h.1.1.1.1.1.2,h.1.1.1.1.2,h.1.1.1.2,h.1.1.2,h.1.2,h.2⟩
theorem mayW_len {ws:List Nat} {n:Nat} (h:Oc.mayB ws n=true):ws.length=(n+63)/64:=by
 unfold Oc.mayB at h
 simp only [Bool.and_eq_true,beq_iff_eq] at h
 exact h.1
def MayJ1 (s:Sl) (a:Ads) (w:World) (i:Value) (wr:World):Prop:=∃ k:Nat,k<=s.keys.length/\i=.int .i64 k/\s.zerosB k=true/\Below w.heap.size w wr/\Box wr w.heap.size s a
def MayJ2 (s:Sl) (a:Ads) (w:World) (i:Value) (wr:World):Prop:=∃ k:Nat,k<=s.counts.length/\i=.int .i64 k/\s.countsB k=true/\Below w.heap.size w wr/\Box wr w.heap.size s a
theorem r4May_form (s:Sl) (a:Ads) (w:World) (h:Held w s a) (hok:s.Ok) (hs:s.Short) (hyes:s.formB=true) :
  Calls Tryd.prog 84 #[slv s a] w fun e w'=>e=.returned (.bool s.mayB)/\Below w.heap.size w w':=by
 obtain⟨f1,f2,f3,f4⟩:=form_yes hyes;obtain⟨g1,g2,_,g4,g5,g6,_⟩:=fits_yes f1;have HM:=aq (show s.mayB=(s.zerosB s.keys.length&&s.countsB s.counts.length) by unfold Sl.mayB;rw [hyes];rfl);have HH:=aq h;have HW:=aq hok.words;have l1:=hs.words;have l2:=hs.keys;have l3:=hs.vals;have l4:=hs.counts;have HB:=aq (Box.new w s a 27);have CF:=aq (fun W=>r4Fits s.seg (s.keys.length:Int) W (by omega) (by omega));have CM:=aq (fun o n=>r2May a.w a.cw s.words s.keys.length ((w.alloc o).drewN n) ((h.alloc o).words.drewN n) HW.out l1 l2);have C1:=aq f1
 have k2:((s.vals.length:Int) != (s.keys.length:Int))=false:=by simp;omega
 have C2:=aq f2;have C3:=aq f3;have C5:=aq (mayW_len f3)
 have k4:((s.counts.length:Int) != (s.keys.length:Int)/s.seg)=false:=by rw [bne_eq_false_iff_eq];exact f4
 have C4:=aq f4
 have k0:¬ s.seg=0:=by omega
 have k1:(0:Int)<=s.seg:=by omega
 have g9:IntKind.i64.wrap ((s.keys.length:Int)/s.seg)=(s.keys.length:Int)/s.seg:=by
  have h1:=Int.ediv_le_self (a:=(s.keys.length:Int)) s.seg (by omega);have h2:=Int.ediv_nonneg (a:=(s.keys.length:Int)) (b:=s.seg) (by omega) (by omega);exact IntWalk.i64_in _ (by omega)
 have g8:(s.keys.length:Int).tdiv s.seg=(s.keys.length:Int)/s.seg:=Int.tdiv_eq_ediv_of_nonneg (by omega);have G6:=aq g6;clear h hok hs hyes f1 f2 f3 f4 g6;unfold slv
 go_enter Tryd.func84,Tryd.ntmps84
 go_wp2
 go_quiet ((first | (go_at_call 91;exact Calls.quiet_of_same ((CF.out _).mono fun _ _ x=>⟨x.1.trans (by rw [C1.out]),x.2.symm⟩)) | (go_at_call 92;exact Calls.quiet_of_same ((CM.out _ _).mono fun _ _ x=>⟨x.1.trans (by rw [C3.out]),x.2.symm⟩))))
 clear k4 k2 g9 g8;go_wp2
 go_loopw [4] (MayJ1 s a w) (fun i _=>s.keys.length-(intOf i).toNat)
 case atStart=>exact⟨0,Nat.zero_le _,rfl,rfl,below_drewN ((Below.refl _ _).alloc (Nat.le_refl _) _) _,HB.out.below (below_drewN (Below.refl _ _) _)⟩
 case round =>
  obtain⟨k,hk,rfl,hz,hbr,hbx⟩:=hrel;have HZ:=aq hz;have HBr:=aq hbr;have HBx:=aq hbx;clear hz hbr hbx
  by_cases hlt:k < s.keys.length
  ·have c1:=HBx.out.c1
   have c2:=HBx.out.c2;have c3:=HBx.out.c3;obtain⟨bk,ok,hak,_,ck⟩:=(HH.out.below HBr.out).keys.cell hlt;obtain⟨bv,ov,hav,_,cv⟩:=(HH.out.below HBr.out).vals.cell (by have:=C2.out;omega:k < s.vals.length);obtain⟨x,hx⟩:∃ x,s.keys.getD k 0=x:=⟨_,rfl⟩;obtain⟨y,hy⟩:∃ y,s.vals.getD k 0=y:=⟨_,rfl⟩;rw [hx] at ck;rw [hy] at cv;rw [hak] at c2;rw [hav] at c3;have HZA:=aq (show s.zeroAt k=(Oc.isB s.words k||(x==0&&y==0)) by unfold Sl.zeroAt;rw [hx,hy])
   have i0:(0:Int)<=(k:Int):=by omega
   have i1:(k:Int) < (s.keys.length:Int):=by omega
   have i2:(k:Int) < (s.vals.length:Int):=by have:=C2.out;omega
   have j2:k < s.vals.length:=by omega
   have j3:k < 64*s.words.length:=by have:=C5.out;omega
   clear hx hy hak hav;have CI:=aq (r2Is a.w a.cw s.words (k:Int) wr (HH.out.below HBr.out).words HW.out l1 (by omega) (by omega))
   cases hi:Oc.isB s.words k
   ·by_cases hx0:x=0
    ·by_cases hy0:y=0
     ·have e1:(x != 0)=false:=by simp [hx0]
      have e2:(y != 0)=false:=by simp [hy0]
      have HZ2:=aq (show s.zerosB (k+1)=true by rw [zeros_snoc,HZ.out,HZA.out,hi,hx0,hy0];rfl);have Hi:=aq hi;clear hi hx0 hy0
      go_wp2_with fail
      refine CI.out.mono ?_;rintro e w' ⟨rfl,rfl⟩;rw [Int.toNat_natCast,Hi.out];go_wp2
      go_roundw
      case rel=>exact⟨k+1,by omega,by go_num,HZ2.out,HBr.out,HBx.out⟩
      case measure=>simp [intOf];omega
     ·have e1:(x != 0)=false:=by simp [hx0]
      have e2:(y != 0)=true:=by simp [hy0]
      have HZ2:=aq (show s.zerosB s.keys.length=false from all_range_false hlt (by rw [HZA.out,hi,hx0];simp [hy0]));have Hi:=aq hi;clear hi hx0 hy0
      go_wp2_with fail
      refine CI.out.mono ?_;rintro e w' ⟨rfl,rfl⟩;rw [Int.toNat_natCast,Hi.out];go_wp2;go_ret;rw [HM.out,HZ2.out];exact⟨rfl,HBr.out⟩
    ·have e1:(x != 0)=true:=by simp [hx0]
     have HZ2:=aq (show s.zerosB s.keys.length=false from all_range_false hlt (by rw [HZA.out,hi];simp [hx0]));have Hi:=aq hi;clear hi hx0
     go_wp2_with fail
     refine CI.out.mono ?_;rintro e w' ⟨rfl,rfl⟩;rw [Int.toNat_natCast,Hi.out];go_wp2;go_ret;rw [HM.out,HZ2.out];exact⟨rfl,HBr.out⟩
   ·have HZ2:=aq (show s.zerosB (k+1)=true by rw [zeros_snoc,HZ.out,HZA.out,hi];rfl)
    have Hi:=aq hi;clear hi
    go_wp2_with fail
    refine CI.out.mono ?_;rintro e w' ⟨rfl,rfl⟩;rw [Int.toNat_natCast,Hi.out];go_wp2
    go_roundw
    case rel=>exact⟨k+1,by omega,by go_num,HZ2.out,HBr.out,HBx.out⟩
    case measure=>simp [intOf];omega
  ·obtain rfl:k=s.keys.length:=by omega
   go_wp2
   go_loopw [5] (MayJ2 s a w) (fun i _=>s.counts.length-(intOf i).toNat)
   case atStart=>exact⟨0,Nat.zero_le _,rfl,rfl,HBr.out,HBx.out⟩
   case round =>
    obtain⟨j,hj,rfl,hz2,hbr2,hbx2⟩:=hrel;clear HBr HBx;have HZ2:=aq hz2;have HBr:=aq hbr2;have HBx:=aq hbx2;clear hz2 hbr2 hbx2;have c0:=HBx.out.c0;have c1:=HBx.out.c1;have c4:=HBx.out.c4
    by_cases hlt2:j < s.counts.length
    ·obtain⟨bc,oc,hac,hbc,cc⟩:=(HH.out.below HBr.out).counts.cell hlt2
     obtain⟨x,hx⟩:∃ x,s.counts.getD j 0=x:=⟨_,rfl⟩;rw [hx] at cc;rw [hac] at c4;obtain⟨g,hg⟩:∃ g:Nat,g=s.seg.toNat:=⟨_,rfl⟩
     have hsg:s.seg=(g:Int):=by omega
     have hCA:s.countAt j=(x==((Oc.places s.words (j*g) ((j+1)*g)).length:Int)):=by unfold Sl.countAt Sl.countOf;rw [hx,hg]
     have hle:(j+1)*g<=s.keys.length:=by
      have h6:=Int.ediv_mul_cancel (a:=(s.keys.length:Int)) (b:=s.seg) (Int.dvd_of_emod_eq_zero G6.out);rw [<-C4.out,hsg] at h6
      have h7:s.counts.length*g=s.keys.length:=by exact_mod_cast h6
      rw [<-h7];exact Nat.mul_le_mul_right _ hlt2
     obtain⟨lo,hlo⟩:∃ lo,lo=j*g:=⟨_,rfl⟩;obtain⟨hi,hhi⟩:∃ hi,hi=(j+1)*g:=⟨_,rfl⟩
     have hlh:lo<=hi:=by rw [hlo,hhi];exact Nat.mul_le_mul_right _ (by omega)
     have e1:IntKind.i64.wrap ((j:Int)*s.seg)=(lo:Int):=by
      rw [hsg,hlo,show (j:Int)*(g:Int)=((j*g:Nat):Int) from by simp];exact IntWalk.i64_in _ (by omega)
     have e2:IntKind.i64.wrap (((j:Int)+1)*s.seg)=(hi:Int):=by
      rw [hsg,hhi,show ((j:Int)+1)*(g:Int)=(((j+1)*g:Nat):Int) from by simp];exact IntWalk.i64_in _ (by omega)
     have e3:IntKind.i64.wrap ((j:Int)+1)=(j:Int)+1:=IntWalk.i64_in _ (by omega);rw [<-hlo,<-hhi] at hCA;rw [<-hhi] at hle
     have hw64:hi<=64*s.words.length:=by have:=C5.out;omega
     have HCA:=aq hCA;have HSg:=aq hsg;have HAC:=aq hac
     have i0:(0:Int)<=(j:Int):=by omega
     have i1:(j:Int) < (s.counts.length:Int):=by omega
     have HLw:=aq (HH.out.below HBr.out).words;have hwr:=HBx.out.lt;clear hx hCA hsg hlo hhi hg hac;have hb0:∀ w2,Below (wr.drewN 1).heap.size (wr.drewN 1) w2->Below wr.heap.size wr w2:=fun w2 hb=>(below_drewN (Below.refl _ _) 1).trans hb;have HB0:=aq hb0;clear hb0
     cases hq:(x==((Oc.places s.words lo hi).length:Int))
     ·have e5:(x != ((Oc.places s.words lo hi).length:Int))=true:=by rw [bne,hq];rfl
      have HQ:=aq (show s.countsB s.counts.length=false from all_range_false hlt2 (by rw [HCA.out,hq]));clear hq;go_wp2
      go_region_held3 (fun w'=>w'.cell? ⟨w.heap.size,4,none⟩=some (.slice (some ⟨bc,oc,none⟩) s.counts.length a.cc)/\w'.cell? ⟨w.heap.size,1,none⟩=some (.slice a.w s.words.length a.cw)/\w'.cell? ⟨w.heap.size,0,none⟩=some (.int .i64 s.seg)/\w'.cell? ⟨bc,oc+j,none⟩=some (.int .i64 x)) (first | exact⟨c4,c1,c0,cc⟩ | exact⟨(hb.cell (p:=⟨w.heap.size,4,none⟩) hwr).trans c4,(hb.cell (p:=⟨w.heap.size,1,none⟩) hwr).trans c1,(hb.cell (p:=⟨w.heap.size,0,none⟩) hwr).trans c0,(hb.cell (p:=⟨bc,oc+j,none⟩) hbc).trans cc⟩)
       (first | (go_at_call 86;refine (r2Places _ _ _ lo hi _ (HLw.out.drewN 1) HW.out l1 hw64 (by omega)).mono ?_;rintro e w2 ⟨v,rfl,hown,hb⟩;obtain⟨A,c,rfl,_⟩:=own_cells hown;clear hown))
      go_wp2;go_ret;rw [HM.out,HQ.out,Bool.and_false];have hz:=HBr.out.size;exact⟨rfl,HBr.out.trans ((HB0.out _ hb).mono hz)⟩
     ·have e5:(x != ((Oc.places s.words lo hi).length:Int))=false:=by rw [bne,hq];rfl
      have HQ:=aq (show s.countsB (j+1)=true by rw [counts_snoc,HZ2.out,HCA.out,hq];rfl);clear hq;go_wp2
      go_region_held3 (fun w'=>w'.cell? ⟨w.heap.size,4,none⟩=some (.slice (some ⟨bc,oc,none⟩) s.counts.length a.cc)/\w'.cell? ⟨w.heap.size,1,none⟩=some (.slice a.w s.words.length a.cw)/\w'.cell? ⟨w.heap.size,0,none⟩=some (.int .i64 s.seg)/\w'.cell? ⟨bc,oc+j,none⟩=some (.int .i64 x)) (first | exact⟨c4,c1,c0,cc⟩ | exact⟨(hb.cell (p:=⟨w.heap.size,4,none⟩) hwr).trans c4,(hb.cell (p:=⟨w.heap.size,1,none⟩) hwr).trans c1,(hb.cell (p:=⟨w.heap.size,0,none⟩) hwr).trans c0,(hb.cell (p:=⟨bc,oc+j,none⟩) hbc).trans cc⟩)
       (first | (go_at_call 86;refine (r2Places _ _ _ lo hi _ (HLw.out.drewN 1) HW.out l1 hw64 (by omega)).mono ?_;rintro e w2 ⟨v,rfl,hown,hb⟩;obtain⟨A,c,rfl,_⟩:=own_cells hown;clear hown))
      go_wp2
      go_roundw
      case rel=>exact⟨j+1,by omega,by go_num,HQ.out,HBr.out.trans ((HB0.out _ hb).mono HBr.out.size),HBx.out.below (HB0.out _ hb)⟩
      case measure=>simp [intOf];omega
    ·obtain rfl:j=s.counts.length:=by omega
     go_wp2;go_ret;rw [HM.out,HZ.out,HZ2.out];exact⟨rfl,HBr.out⟩
theorem r4May (s:Sl) (a:Ads) (w:World) (h:Held w s a) (hok:s.Ok) (hs:s.Short) :
  Calls Tryd.prog 84 #[slv s a] w fun e w'=>e=.returned (.bool s.mayB)/\Below w.heap.size w w':=by
 cases hf:s.formB
 ·exact r4May_no s a w h hok hs hf
 ·exact r4May_form s a w h hok hs hf
theorem slot_iff {s:Sl} {i:Int}:s.slotB i=true↔0<=i/\i < s.keys.length:=by unfold Sl.slotB;simp
theorem take_sameP (xs ys:List (Int×Int)) (k:Nat) (h1:k < xs.length) (h2:k < ys.length) (h:xs.take k=ys.take k) (he:xs.getD k (0,0)=ys.getD k (0,0)):xs.take (k+1)=ys.take (k+1):=by
 rw [List.take_succ_eq_append_getElem h1,List.take_succ_eq_append_getElem h2,h]
 simp only [List.getD,List.getElem?_eq_getElem h1,List.getElem?_eq_getElem h2,Option.getD_some] at he
 rw [he]
theorem not_sameP (xs ys:List (Int×Int)) (k:Nat) (he:¬ xs.getD k (0,0)=ys.getD k (0,0)):(xs==ys)=false:=by
 rw [beq_eq_false_iff_ne];rintro rfl;exact he rfl
def SamePJ (xs ys:List (Int×Int)) (w:World) (i:Value) (wr:World):Prop:=∃ k q:Nat,k<=xs.length/\i=.int .i64 k/\wr=w.drewN q/\xs.take k=ys.take k
theorem r4SamePairs (a b:Option Addr) (ca cb:Nat) (xs ys:List (Int×Int)) (w:World) (ha:PLst w a xs) (hb:PLst w b ys) (hn:xs.length<=2147483647) (hm:ys.length<=2147483647) :
  Calls Tryd.prog 28 #[.slice a xs.length ca,.slice b ys.length cb] w fun e w'=>e=.returned (.bool (xs==ys))/\Below w.heap.size w w':=by
 have HA:=aq ha;have HB:=aq hb;clear ha hb
 by_cases hne:xs.length=ys.length
 ·have k1:((xs.length:Int) != ys.length)=false:=by simp;omega
  have HNE:=aq hne;clear hne
  go_enter Tryd.func28,Tryd.ntmps28
  go_wp2
  go_loopw [5] (SamePJ xs ys w) (fun i _=>xs.length-(intOf i).toNat)
  case atStart=>exact⟨0,0,Nat.zero_le _,rfl,rfl,rfl⟩
  case round =>
   obtain⟨k,q,hk,rfl,rfl,ht⟩:=hrel;have HT:=aq ht;clear ht
   by_cases hlt:k < xs.length
   ·have hltb:k < ys.length:=by have:=HNE.out;omega
    obtain⟨b1,o1,rfl,_,c1,c2⟩:=HA.out.pair hlt;obtain⟨b2,o2,rfl,_,c3,c4⟩:=HB.out.pair hltb;obtain⟨x,hx⟩:∃ x,xs.getD k (0,0)=x:=⟨_,rfl⟩;obtain⟨y,hy⟩:∃ y,ys.getD k (0,0)=y:=⟨_,rfl⟩;rw [hx] at c1 c2;rw [hy] at c3 c4;have HX:=aq hx;have HY:=aq hy;clear hx hy;obtain⟨x1,x2⟩:=x;obtain⟨y1,y2⟩:=y
    dsimp only at c1 c2 c3 c4
    cases e1:(x1==y1)
    ·have HE:=aq (show ¬ (x1,x2)=(y1,y2) by intro h;injection h with h1 h2;rw [h1] at e1;simp at e1)
     go_wp2
     go_quiet (fail)
     go_wp2;go_ret;rw [not_sameP xs ys k (by rw [HX.out,HY.out];exact HE.out)];exact⟨rfl,below_drewN (below_drewN (Below.refl _ _) _) _⟩
    ·cases e2:(x2==y2)
     ·have HE:=aq (show ¬ (x1,x2)=(y1,y2) by intro h;injection h with h1 h2;rw [h2] at e2;simp at e2)
      go_wp2
      go_quiet (fail)
      go_wp2;go_ret;rw [not_sameP xs ys k (by rw [HX.out,HY.out];exact HE.out)];exact⟨rfl,below_drewN (below_drewN (Below.refl _ _) _) _⟩
     ·have HE:=aq (show (x1,x2)=(y1,y2) by rw [beq_iff_eq.1 e1,beq_iff_eq.1 e2])
      go_wp2
      go_quiet (fail)
      go_wp2
      go_roundw
      case rel=>exact⟨k+1,_,by omega,by go_num,rfl,take_sameP xs ys k hlt hltb HT.out (by rw [HX.out,HY.out,HE.out])⟩
      case measure=>simp [intOf];omega
   ·go_wp2
    go_ret
    have e:xs=ys:=by
     have:=HT.out
     rwa [List.take_of_length_le (by omega),List.take_of_length_le (by have:=HNE.out;omega)] at this
    rw [e];exact⟨by simp,below_drewN (Below.refl _ _) _⟩
 ·have k1:((xs.length:Int) != ys.length)=true:=by simp;omega
  have H:=aq (show (xs==ys)=false by rw [beq_eq_false_iff_ne];rintro rfl;exact hne rfl);clear hne
  go_enter Tryd.func28,Tryd.ntmps28
  go_wp2;go_ret;rw [H.out];exact⟨rfl,Below.refl _ _⟩
end Go.Proofs.YtfdpkmafemidjaaDoor

/- The law package's own calls. -/
import Derived.Test.YtpeckljoannolaaGreatDoorRefA15Ot
import Derived.Test.YtpeckljoannolaaGreatDoorP9rOt
import Derived.Test.YtpeckljoannolaaGreatDoorS15Ot
import Derived.Deep.Cut
import Derived.Test.YtpeckljoannolaaGreatDoorR01Ot
import Derived.Test.YtpeckljoannolaaGreatDoorM04Ot
import Derived.Test.YtpeckljoannolaaGreatDoorS1cOt
import Derived.Test.YtpeckljoannolaaGreatDoorS1bOt
import Derived.Test.YtpeckljoannolaaGreatDoorTkOt
set_option linter.unusedVariables false
set_option linter.unusedSimpArgs false
set_option maxHeartbeats 4000000
set_option maxRecDepth 100000
namespace Go.Proofs.YtpeckljoannolaaGreatDoor
open Go.RowKit
theorem gap_may {c:Cf} {s:Sl} (h:Gp.chkE c s=0):s.May:=by
 obtain⟨H,O⟩:=Gp.own_of h;exact O.may
theorem r15Check (o:Od) (a:Ads) (A:HAds) (w:World) (h:OHeld w o a A) (hin:o.In) :
  Calls Tryz.prog 26 #[odv o a A] w fun e w'=>e=.returned (.int .i64 (Om.chkE o))/\Below w.heap.size w w':=by
 have HX:=aq (OBox.new w o a A 33);have BB:=aq (fun o=>(Below.refl w.heap.size w).alloc (Nat.le_refl _) o);have CG:=aq (fun V (hb:Below w.heap.size w V)=>r9Check o.cf o.sl a V hin.cf (h.below hb).sl hin.ok.sl hin.short.sl);have CM:=aq (fun V (hb:Below w.heap.size w V)=>r14May o.tb A V (h.below hb).tb);have CL:=aq (fun V (hb:Below w.heap.size w V) (hg:Gp.chkE o.cf o.sl=0) hM=>r15linked o.sl o.tb a A V (h.below hb).sl hin.ok.sl hin.short.sl (gap_may hg) (h.below hb).tb hM);clear h hin;unfold odCells at HX;unfold odv odCells;unfold cfv slv at CG;unfold hv at CM;unfold slv hv at CL
 go_enter Tryz.func26,Tryz.ntmps26
 go_upto_region 1 with (fail)
 obtain⟨W0,hW0⟩:∃ W0,W0=w.alloc (.cells #[.int .u8 o.cf.tag,.int .i64 o.cf.most,.int .i64 o.cf.seg,.int .i64 o.cf.least,.int .i64 o.cf.den,.int .i64 o.cf.ll,.int .i64 o.cf.rl,.int .i64 o.cf.rh,.int .i64 o.cf.lh,.int .i64 o.sl.seg,.slice a.w o.sl.words.length a.cw,.slice a.k o.sl.keys.length a.ck,.slice a.v o.sl.vals.length a.cv,.slice a.c o.sl.counts.length a.cc,.int .u64 (o.sl.laid:Int),.slice A.g o.tb.gens.length A.cg,.slice A.a o.tb.ats.length A.ca,.int .u64 (o.moved:Int)] 33):=⟨_,rfl⟩;have BX:=aq (show OBox W0 w.heap.size o a A by rw [hW0];exact HX.out);have B0:=aq (show Below w.heap.size w W0 by rw [hW0];exact BB.out _);rw [<-hW0];clear hW0 HX BB;obtain⟨c0,c1,c2,c3,c4,c5,c6,c7,c8,c9,c10,c11,c12,c13,c14,c15,c16,c17⟩:=BX.out.cells
 go_wp2_with fail
 refine (CG.out W0 B0.out).mono ?_;rintro e w1 ⟨rfl,hb⟩;replace BX:=aq (BX.out.below hb);replace B0:=aq (B0.out.trans (hb.mono B0.out.size));clear hb c0 c1 c2 c3 c4 c5 c6 c7 c8 c9 c10 c11 c12 c13 c14 c15 c16 c17 CG;obtain⟨g,hg⟩:∃ g,Gp.chkE o.cf o.sl=g:=⟨_,rfl⟩;have HG:=aq hg;rw [hg]
 by_cases hc:g=0
 ·have k1:(g != 0)=false:=by simpa using hc
  have HC:=aq (show Gp.chkE o.cf o.sl=0 by rw [hg];exact hc);clear hg hc;obtain⟨c0,c1,c2,c3,c4,c5,c6,c7,c8,c9,c10,c11,c12,c13,c14,c15,c16,c17⟩:=BX.out.cells
  go_wp2_with fail
  refine (CM.out w1 B0.out).mono ?_;rintro e w2 ⟨rfl,hb⟩;replace BX:=aq (BX.out.below hb);replace B0:=aq (B0.out.trans (hb.mono B0.out.size));clear hb c0 c1 c2 c3 c4 c5 c6 c7 c8 c9 c10 c11 c12 c13 c14 c15 c16 c17 CM
  cases hm:Hn.mayB o.tb
  ·have E:=aq (show Om.chkE o=8 by unfold Om.chkE;rw [if_pos HC.out,hm,if_neg (by simp)])
   clear hm;go_wp2;go_ret;rw [E.out];exact⟨rfl,B0.out⟩
  ·obtain⟨c0,c1,c2,c3,c4,c5,c6,c7,c8,c9,c10,c11,c12,c13,c14,c15,c16,c17⟩:=BX.out.cells
   have HM:=aq hm;clear hm
   go_wp2_with fail
   refine (CL.out w2 B0.out HC.out ((Hn.may_iff _).1 HM.out)).mono ?_;rintro e w3 ⟨rfl,hb⟩;replace B0:=aq (B0.out.trans (hb.mono B0.out.size));clear hb c0 c1 c2 c3 c4 c5 c6 c7 c8 c9 c10 c11 c12 c13 c14 c15 c16 c17 CL
   cases hl:Om.linkB o.sl o.tb
   ·have E:=aq (show Om.chkE o=8 by unfold Om.chkE;rw [if_pos HC.out,hl,if_neg (by simp)])
    clear hl;go_wp2;go_ret;rw [E.out];exact⟨rfl,B0.out⟩
   ·have E:=aq (show Om.chkE o=0 by unfold Om.chkE;rw [if_pos HC.out,hl,HM.out,if_pos ⟨rfl,rfl⟩])
    clear hl;go_wp2;go_ret;rw [E.out];exact⟨rfl,B0.out⟩
 ·have k1:(g != 0)=true:=by simpa using hc
  have E:=aq (show Om.chkE o=g by unfold Om.chkE;rw [if_neg (by rw [hg];exact hc),hg]);clear hc hg;go_wp2;go_ret;rw [E.out];exact⟨rfl,B0.out⟩
theorem r15SameHandles (a b:Option Addr) (ca cb:Nat) (xs ys:List (Int×Int)) (w:World) (ha:PLst w a xs) (hb:PLst w b ys) (hn:xs.length<=2147483647) (hm:ys.length<=2147483647) :
  Calls Tryz.prog 30 #[.slice a xs.length ca,.slice b ys.length cb] w fun e w'=>e=.returned (.bool (xs==ys))/\Below w.heap.size w w':=by
 have HA:=aq ha;have HB:=aq hb;clear ha hb
 by_cases hne:xs.length=ys.length
 ·have k1:((xs.length:Int) != ys.length)=false:=by simp;omega
  have HNE:=aq hne;clear hne
  go_enter Tryz.func30,Tryz.ntmps30
  go_wp2
  go_loopw [5] (SamePJ xs ys w) (fun i _=>xs.length-(intOf i).toNat)
  case atStart=>exact⟨0,0,Nat.zero_le _,rfl,rfl,rfl⟩
  case round =>
   obtain⟨k,q,hk,rfl,rfl,ht⟩:=hrel;have HT:=aq ht;clear ht
   by_cases hlt:k < xs.length
   ·have hltb:k < ys.length:=by have:=HNE.out;omega
    obtain⟨b1,o1,rfl,_,c1,c2⟩:=HA.out.pair hlt;obtain⟨b2,o2,rfl,_,c3,c4⟩:=HB.out.pair hltb;obtain⟨x,hx⟩:∃ x,xs.getD k (0,0)=x:=⟨_,rfl⟩;obtain⟨y,hy⟩:∃ y,ys.getD k (0,0)=y:=⟨_,rfl⟩;rw [hx] at c1 c2;rw [hy] at c3 c4;have HX:=aq hx;have HY:=aq hy;clear hx hy;obtain⟨x1,x2⟩:=x;obtain⟨y1,y2⟩:=y
    dsimp only at c1 c2 c3 c4
    cases e1:(x1==y1)
    ·have HE:=aq (show ¬ (x1,x2)=(y1,y2) by intro h;injection h with h1 h2;rw [h1] at e1;simp at e1)
     go_wp2
     go_quiet (fail)
     go_wp2;go_ret;rw [not_sameP xs ys k (by rw [HX.out,HY.out];exact HE.out)];exact⟨rfl,below_drewN (below_drewN (Below.refl _ _) _) _⟩
    ·cases e2:(x2==y2)
     ·have HE:=aq (show ¬ (x1,x2)=(y1,y2) by intro h;injection h with h1 h2;rw [h2] at e2;simp at e2)
      go_wp2
      go_quiet (fail)
      go_wp2;go_ret;rw [not_sameP xs ys k (by rw [HX.out,HY.out];exact HE.out)];exact⟨rfl,below_drewN (below_drewN (Below.refl _ _) _) _⟩
     ·have HE:=aq (show (x1,x2)=(y1,y2) by rw [beq_iff_eq.1 e1,beq_iff_eq.1 e2])
      go_wp2
      go_quiet (fail)
      go_wp2
      go_roundw
      case rel=>exact⟨k+1,_,by omega,by go_num,rfl,take_sameP xs ys k hlt hltb HT.out (by rw [HX.out,HY.out,HE.out])⟩
      case measure=>simp [intOf];omega
   ·go_wp2
    go_ret
    have e:xs=ys:=by
     have:=HT.out
     rwa [List.take_of_length_le (by omega),List.take_of_length_le (by have:=HNE.out;omega)] at this
    rw [e];exact⟨by simp,below_drewN (Below.refl _ _) _⟩
 ·have k1:((xs.length:Int) != ys.length)=true:=by simp;omega
  have H:=aq (show (xs==ys)=false by rw [beq_eq_false_iff_ne];rintro rfl;exact hne rfl);clear hne
  go_enter Tryz.func30,Tryz.ntmps30
  go_wp2;go_ret;rw [H.out];exact⟨rfl,Below.refl _ _⟩
def Om.greatB (o:Od) (n:Int):Bool:=o.sl.greatB n||decide (n < (o.tb.gens.length:Int))||decide (n < (o.tb.ats.length:Int))
theorem r15Great (o:Od) (a:Ads) (A:HAds) (n:Int) (w:World) :
  Calls Tryz.prog 19 #[odv o a A,.int .i64 n] w fun e w'=>e=.returned (.bool (Om.greatB o n))/\Below w.heap.size w w':=by
 have HX:=aq (OBox.new w o a A 33);have BB:=aq (fun o=>(Below.refl w.heap.size w).alloc (Nat.le_refl _) o);have CG:=aq (fun V=>r4Great o.sl a n V);have HE:=aq (show Om.greatB o n=(o.sl.greatB n||decide (n < (o.tb.gens.length:Int))||decide (n < (o.tb.ats.length:Int))) from rfl);unfold odCells at HX;unfold odv odCells;unfold slv at CG
 go_enter Tryz.func19,Tryz.ntmps19
 go_upto_region 1 with (fail)
 obtain⟨W0,hW0⟩:∃ W0,W0=w.alloc (.cells #[.int .u8 o.cf.tag,.int .i64 o.cf.most,.int .i64 o.cf.seg,.int .i64 o.cf.least,.int .i64 o.cf.den,.int .i64 o.cf.ll,.int .i64 o.cf.rl,.int .i64 o.cf.rh,.int .i64 o.cf.lh,.int .i64 o.sl.seg,.slice a.w o.sl.words.length a.cw,.slice a.k o.sl.keys.length a.ck,.slice a.v o.sl.vals.length a.cv,.slice a.c o.sl.counts.length a.cc,.int .u64 (o.sl.laid:Int),.slice A.g o.tb.gens.length A.cg,.slice A.a o.tb.ats.length A.ca,.int .u64 (o.moved:Int)] 33):=⟨_,rfl⟩;have BX:=aq (show OBox W0 w.heap.size o a A by rw [hW0];exact HX.out);have B0:=aq (show Below w.heap.size w W0 by rw [hW0];exact BB.out _);rw [<-hW0];clear hW0 HX BB;obtain⟨c0,c1,c2,c3,c4,c5,c6,c7,c8,c9,c10,c11,c12,c13,c14,c15,c16,c17⟩:=BX.out.cells
 go_wp2_with fail
 refine (CG.out W0).mono ?_;rintro e w1 ⟨rfl,hb⟩;replace BX:=aq (BX.out.below hb);replace B0:=aq (B0.out.trans (hb.mono B0.out.size));clear hb c0 c1 c2 c3 c4 c5 c6 c7 c8 c9 c10 c11 c12 c13 c14 c15 c16 c17 CG;obtain⟨c0,c1,c2,c3,c4,c5,c6,c7,c8,c9,c10,c11,c12,c13,c14,c15,c16,c17⟩:=BX.out.cells
 cases h0:o.sl.greatB n
 ·rw [h0,Bool.false_or] at HE
  by_cases h1:n < (o.tb.gens.length:Int)
  ·have E:=aq (show Om.greatB o n=true by rw [HE.out,decide_eq_true h1];rfl)
   have k1:decide ((o.tb.gens.length:Int) > n)=true:=by simpa using h1
   go_wp2;go_ret;rw [E.out];exact⟨rfl,B0.out⟩
  ·have k1:decide ((o.tb.gens.length:Int) > n)=false:=by simpa using h1
   by_cases h2:n < (o.tb.ats.length:Int)
   ·have E:=aq (show Om.greatB o n=true by rw [HE.out,decide_eq_true h2,Bool.or_true])
    have k2:decide ((o.tb.ats.length:Int) > n)=true:=by simpa using h2
    go_wp2;go_ret;rw [E.out];exact⟨rfl,B0.out⟩
   ·have E:=aq (show Om.greatB o n=false by rw [HE.out,decide_eq_false h1,decide_eq_false h2];rfl)
    have k2:decide ((o.tb.ats.length:Int) > n)=false:=by simpa using h2
    go_wp2;go_ret;rw [E.out];exact⟨rfl,B0.out⟩
 ·have E:=aq (show Om.greatB o n=true by rw [HE.out,h0];rfl)
  go_wp2;go_ret;rw [E.out];exact⟨rfl,B0.out⟩
def HRow (l:List (Int×Int)) (w:World) (e:Ending) (w':World):Prop:=∃ v,e=.returned v/\w'.ownsRow w.heap.size 39 2 v l.length (pcells l)/\Below w.heap.size w w'
def AllJ (o:Od) (w:World) (v i:Value) (wr:World):Prop:=∃ k:Nat,k<=(Om.pl o.sl).length/\i=.int .i64 k/\wr.ownsRow w.heap.size 39 2 v k (pcells ((Om.hands o).take k))/\Below w.heap.size w wr
theorem hands_step (o:Od) {k:Nat} (hk:k < (Om.pl o.sl).length):(Om.hands o).take (k+1)=(Om.hands o).take k++[Om.hn o.tb (Om.key o.sl ((Om.pl o.sl).getD k 0))]:=by
 have hh:k < (Om.hands o).length:=by rw [Om.hands_len];exact hk
 rw [List.take_succ_eq_append_getElem hh]
 congr 2
 unfold Om.hands Om.ks
 simp [List.getD,List.getElem?_eq_getElem hk]
theorem r15All (o:Od) (a:Ads) (A:HAds) (w:World) (h:OHeld w o a A) (hin:o.In) (F:Om.Fit o) :
  Calls Tryz.prog 55 #[odv o a A] w (HRow (Om.hands o) w):=by
 have HX:=aq (OBox.new w o a A 33);have BB:=aq (fun o=>(Below.refl w.heap.size w).alloc (Nat.le_refl _) o);have CP:=aq (fun V (hb:Below w.heap.size w V)=>r15Places o.sl a V (h.below hb).sl hin.ok.sl hin.short.sl (gap_may F.gap));have HS:=aq h;have HF:=aq F;have PN:=aq (fun i (hi:i∈Om.pl o.sl)=>(Om.in_pl.1 hi).1);have k16:=hin.short.sl.keys;clear h hin F;unfold odCells at HX;unfold odv odCells;unfold slv at CP
 go_enter Tryz.func55,Tryz.ntmps55
 go_upto_region 2 with (fail)
 obtain⟨W0,hW0⟩:∃ W0,W0=w.alloc (.cells #[.int .u8 o.cf.tag,.int .i64 o.cf.most,.int .i64 o.cf.seg,.int .i64 o.cf.least,.int .i64 o.cf.den,.int .i64 o.cf.ll,.int .i64 o.cf.rl,.int .i64 o.cf.rh,.int .i64 o.cf.lh,.int .i64 o.sl.seg,.slice a.w o.sl.words.length a.cw,.slice a.k o.sl.keys.length a.ck,.slice a.v o.sl.vals.length a.cv,.slice a.c o.sl.counts.length a.cc,.int .u64 (o.sl.laid:Int),.slice A.g o.tb.gens.length A.cg,.slice A.a o.tb.ats.length A.ca,.int .u64 (o.moved:Int)] 33):=⟨_,rfl⟩;have BX:=aq (show OBox W0 w.heap.size o a A by rw [hW0];exact HX.out);have B0:=aq (show Below w.heap.size w W0 by rw [hW0];exact BB.out _);rw [<-hW0];clear hW0 HX BB;obtain⟨c0,c1,c2,c3,c4,c5,c6,c7,c8,c9,c10,c11,c12,c13,c14,c15,c16,c17⟩:=BX.out.cells
 go_wp2_with fail
 refine (CP.out W0 B0.out).mono ?_;rintro e w1 ⟨AP,cp,rfl,hl,hb⟩;replace BX:=aq (BX.out.below hb);replace B0:=aq (B0.out.trans (hb.mono B0.out.size));have HL:=aq hl;clear hl hb c0 c1 c2 c3 c4 c5 c6 c7 c8 c9 c10 c11 c12 c13 c14 c15 c16 c17 CP;obtain⟨P,hP⟩:∃ P,Om.pl o.sl=P:=⟨_,rfl⟩;have HP:=aq hP
 have P16:P.length<=65536:=by
  have h1:=Oc.places_length_le o.sl.words 0 o.sl.keys.length;have h2:(Om.pl o.sl).length=(Oc.places o.sl.words 0 o.sl.keys.length).length:=rfl;rw [hP] at h2
  omega
 rw [hP] at HL ⊢;clear hP;go_wp2
 go_loopw [3,5] (AllJ o w1) (fun _ i _=>P.length-(intOf i).toNat)
 case atStart=>exact⟨0,Nat.zero_le _,rfl,by rw [List.take_zero];exact World.ownsRow_nil _ _ _ _,Below.refl _ _⟩
 case round =>
  obtain⟨k,hk,rfl,hown,hbr⟩:=hrel;rw [HP.out] at hk;have HO:=aq hown;have HB:=aq hbr;obtain⟨A2,c2',rfl,_⟩:=own_cells hown;clear hown hbr
  by_cases hlt:k < P.length
  ·obtain⟨b1,o1,hA1,_,f1⟩:=(HL.out.below HB.out).numP hlt
   subst hA1;obtain⟨i,hi⟩:∃ i,P.getD k 0=i:=⟨_,rfl⟩;rw [hi] at f1
   have him:i∈Om.pl o.sl:=by rw [HP.out,<-hi];simp [List.getD,List.getElem?_eq_getElem hlt]
   have hil:=PN.out i him;obtain⟨_,n0,n1,_⟩:=HF.out.fine i him;have hst:=hands_step o (k:=k) (by rw [HP.out];exact hlt);rw [HP.out,hi] at hst;obtain⟨b2,o2,hA2,_,f2⟩:=((HS.out.below B0.out).below HB.out).sl.keys.cell hil;replace f2:wr.cell? ⟨b2,o2+i,none⟩=some (.int .i64 (Om.key o.sl i)):=f2;obtain⟨n,hn⟩:∃ n,Om.key o.sl i=n:=⟨_,rfl⟩;rw [hn] at f2 n0 n1 hst;clear hn;obtain⟨m,rfl⟩:∃ m:Nat,n=m:=⟨n.toNat,by omega⟩
   have hgl:m < o.tb.gens.length:=by have:=HF.out.may.len;omega
   obtain⟨b3,o3,hA3,_,f3⟩:=((HS.out.below B0.out).below HB.out).tb.gens.cell hgl;replace f3:wr.cell? ⟨b3,o3+m,none⟩=some (.int .i64 (Hn.g o.tb m)):=f3;obtain⟨x,hx⟩:∃ x,Hn.g o.tb m=x:=⟨_,rfl⟩;rw [hx] at f3;have ST:=aq (show (Om.hands o).take (k+1)=(Om.hands o).take k++[((m:Int),x)] by rw [hst];unfold Om.hn;rw [Int.toNat_natCast,hx]);have TKL:=aq (show ((Om.hands o).take k).length=k by rw [List.length_take,Om.hands_len,HP.out];omega);obtain⟨c0,c1,c2,c3,c4,c5,c6,c7,c8,c9,c10,c11,c12,c13,c14,c15,c16,c17⟩:=(BX.out.below HB.out).cells;rw [hA2] at c11;rw [hA3] at c15
   have i2:(i:Int) < (o.sl.keys.length:Int):=by omega
   have i3:(m:Int) < (o.tb.gens.length:Int):=by omega
   have z1:w1.heap.size<=wr.heap.size:=HB.out.size;clear hx hst hA2 hA3 him hi n0 n1 c0 c1 c2 c3 c4 c5 c6 c7 c8 c9 c10 c12 c13 c14 c16 c17;go_wp2
   go_quiet (fail)
   have HO2:=aq (show (wr.drewN nq).ownsRow w1.heap.size 39 2 (.slice A2 k c2') k (pcells ((Om.hands o).take k)) from own_below HO.out (below_drewN (Below.refl wr.heap.size wr) _))
   go_wp2_with (at_builtin;refine wpList_moreN elemH rfl (.tmp 25) (.tmp 34) rfl (wr.drewN nq) 39 [.int .i64 (m:Int),.int .i64 x] rfl rfl w1.heap.size k _ _ rfl rfl HO2.out (by intro u hu;simp at hu;rcases hu with rfl | rfl<;>rfl) z1 (by unfold maxLen;omega) (by omega) ?_;intro v6 w6 hown6 hb6;have HO6:=aq hown6;have HB6:=aq ((below_drewN HB.out _).trans hb6);clear hown6 hb6)
   go_roundw
   case rel=>exact⟨k+1,by rw [HP.out];omega,by go_num,by rw [ST.out,pcells_append];exact HO6.out,HB6.out⟩
   case measure=>first | (simp [intOf];done) | (simp [intOf];omega)
  ·obtain rfl:k=P.length:=by omega
   go_wp2;go_ret;refine⟨_,rfl,?_,B0.out.trans (HB.out.mono B0.out.size)⟩;have h9:=HO.out;rw [List.take_of_length_le (by rw [Om.hands_len,HP.out];exact Nat.le_refl _)] at h9;rw [Om.hands_len,HP.out];exact own_lower h9 B0.out.size
/-! A list and a handle that are answered, laid into boxes of their own. -/
theorem lay1o (w:World):OBox (w.alloc (.cells #[.int .u8 0,.int .i64 0,.int .i64 0,.int .i64 0,.int .i64 0,.int .i64 0,.int .i64 0,.int .i64 0,.int .i64 0,.int .i64 0,.slice none 0 0,.slice none 0 0,.slice none 0 0,.slice none 0 0,.int .u64 0,.slice none 0 0,.slice none 0 0,.int .u64 0] 33)) w.heap.size Od.zero adsNone hNone:=OBox.new w Od.zero adsNone hNone 33
theorem lay1b (w:World) (o:Obj):Below w.heap.size w (w.alloc o):=(Below.refl _ _).alloc (Nat.le_refl _) _
end Go.Proofs.YtpeckljoannolaaGreatDoor

/- The law package's own calls. -/
import Derived.Test.YtpeckljoannolaaGreatDoorP09Oc
import Derived.Test.YtpeckljoannolaaGreatDoorM11Oc
import Derived.Test.YtpeckljoannolaaGreatDoorM01Oc
import Derived.Test.YtpeckljoannolaaGreatDoorProg
import Derived.Deep.QuietTactic
import Derived.BigQuiet
import Derived.WalkSmall
import Derived.Test.YtpeckljoannolaaGreatDoorRefB14Oc
import Derived.Test.YtpeckljoannolaaGreatDoorS15Oc
import Derived.Test.YtpeckljoannolaaGreatDoorRows
import Derived.WalkKit
import Derived.WalkSpells
import Derived.WalkLawsBesides
import Derived.Lib.Hide
import Derived.Test.YtpeckljoannolaaGreatDoorS5bOc
import Derived.Test.YtpeckljoannolaaGreatDoorP05Oc
import Derived.Test.YtpeckljoannolaaGreatDoorR01Oc
import Derived.OrdersHeld
import Derived.Deep.RegionHeld
import Derived.Deep.Cut
import Derived.Test.YtpeckljoannolaaGreatDoorM04Oc
import Derived.Test.YtpeckljoannolaaGreatDoorS1cOc
import Derived.Test.YtpeckljoannolaaGreatDoorTkOc
set_option linter.unusedVariables false
set_option linter.unusedSimpArgs false
set_option maxHeartbeats 8000000
set_option maxRecDepth 100000
namespace Go.Proofs.YtpeckljoannolaaGreatDoor
open Go.RowKit
theorem gap_may {c:Cf} {s:Sl} (h:Gp.chkE c s=0):s.May:=by
 obtain⟨H,O⟩:=Gp.own_of h;exact O.may
theorem r15SameHandles (a b:Option Addr) (ca cb:Nat) (xs ys:List (Int×Int)) (w:World) (ha:PLst w a xs) (hb:PLst w b ys) (hn:xs.length<=2147483647) (hm:ys.length<=2147483647) :
  Calls Tryz.prog 30 #[.slice a xs.length ca,.slice b ys.length cb] w fun e w'=>e=.returned (.bool (xs==ys))/\Below w.heap.size w w':=by
 have HA:=aq ha;have HB:=aq hb;clear ha hb
 by_cases hne:xs.length=ys.length
 ·have k1:((xs.length:Int) != ys.length)=false:=by simp;omega
  have HNE:=aq hne;clear hne
  go_enter Tryz.func30,Tryz.ntmps30
  go_wp2
  go_loopw [5] (SamePJ xs ys w) (fun i _=>xs.length-(intOf i).toNat)
  case atStart=>exact⟨0,0,Nat.zero_le _,rfl,rfl,rfl⟩
  case round =>
   obtain⟨k,q,hk,rfl,rfl,ht⟩:=hrel;have HT:=aq ht;clear ht
   by_cases hlt:k < xs.length
   ·have hltb:k < ys.length:=by have:=HNE.out;omega
    obtain⟨b1,o1,rfl,_,c1,c2⟩:=HA.out.pair hlt;obtain⟨b2,o2,rfl,_,c3,c4⟩:=HB.out.pair hltb;obtain⟨x,hx⟩:∃ x,xs.getD k (0,0)=x:=⟨_,rfl⟩;obtain⟨y,hy⟩:∃ y,ys.getD k (0,0)=y:=⟨_,rfl⟩;rw [hx] at c1 c2;rw [hy] at c3 c4;have HX:=aq hx;have HY:=aq hy;clear hx hy;obtain⟨x1,x2⟩:=x;obtain⟨y1,y2⟩:=y
    dsimp only at c1 c2 c3 c4
    cases e1:(x1==y1)
    ·have HE:=aq (show ¬ (x1,x2)=(y1,y2) by intro h;injection h with h1 h2;rw [h1] at e1;simp at e1)
     go_wp2
     go_quiet (fail)
     go_wp2;go_ret;rw [not_sameP xs ys k (by rw [HX.out,HY.out];exact HE.out)];exact⟨rfl,below_drewN (below_drewN (Below.refl _ _) _) _⟩
    ·cases e2:(x2==y2)
     ·have HE:=aq (show ¬ (x1,x2)=(y1,y2) by intro h;injection h with h1 h2;rw [h2] at e2;simp at e2)
      go_wp2
      go_quiet (fail)
      go_wp2;go_ret;rw [not_sameP xs ys k (by rw [HX.out,HY.out];exact HE.out)];exact⟨rfl,below_drewN (below_drewN (Below.refl _ _) _) _⟩
     ·have HE:=aq (show (x1,x2)=(y1,y2) by rw [beq_iff_eq.1 e1,beq_iff_eq.1 e2])
      go_wp2
      go_quiet (fail)
      go_wp2
      go_roundw
      case rel=>exact⟨k+1,_,by omega,by go_num,rfl,take_sameP xs ys k hlt hltb HT.out (by rw [HX.out,HY.out,HE.out])⟩
      case measure=>simp [intOf];omega
   ·go_wp2
    go_ret
    have e:xs=ys:=by
     have:=HT.out
     rwa [List.take_of_length_le (by omega),List.take_of_length_le (by have:=HNE.out;omega)] at this
    rw [e];exact⟨by simp,below_drewN (Below.refl _ _) _⟩
 ·have k1:((xs.length:Int) != ys.length)=true:=by simp;omega
  have H:=aq (show (xs==ys)=false by rw [beq_eq_false_iff_ne];rintro rfl;exact hne rfl);clear hne
  go_enter Tryz.func30,Tryz.ntmps30
  go_wp2;go_ret;rw [H.out];exact⟨rfl,Below.refl _ _⟩
def Om.greatB (o:Od) (n:Int):Bool:=o.sl.greatB n||decide (n < (o.tb.gens.length:Int))||decide (n < (o.tb.ats.length:Int))
theorem r15Great (o:Od) (a:Ads) (A:HAds) (n:Int) (w:World) :
  Calls Tryz.prog 19 #[odv o a A,.int .i64 n] w fun e w'=>e=.returned (.bool (Om.greatB o n))/\Below w.heap.size w w':=by
 have HX:=aq (OBox.new w o a A 33);have BB:=aq (fun o=>(Below.refl w.heap.size w).alloc (Nat.le_refl _) o);have CG:=aq (fun V=>r4Great o.sl a n V);have HE:=aq (show Om.greatB o n=(o.sl.greatB n||decide (n < (o.tb.gens.length:Int))||decide (n < (o.tb.ats.length:Int))) from rfl);unfold odCells at HX;unfold odv odCells;unfold slv at CG
 go_enter Tryz.func19,Tryz.ntmps19
 go_upto_region 1 with (fail)
 obtain⟨W0,hW0⟩:∃ W0,W0=w.alloc (.cells #[.int .u8 o.cf.tag,.int .i64 o.cf.most,.int .i64 o.cf.seg,.int .i64 o.cf.least,.int .i64 o.cf.den,.int .i64 o.cf.ll,.int .i64 o.cf.rl,.int .i64 o.cf.rh,.int .i64 o.cf.lh,.int .i64 o.sl.seg,.slice a.w o.sl.words.length a.cw,.slice a.k o.sl.keys.length a.ck,.slice a.v o.sl.vals.length a.cv,.slice a.c o.sl.counts.length a.cc,.int .u64 (o.sl.laid:Int),.slice A.g o.tb.gens.length A.cg,.slice A.a o.tb.ats.length A.ca,.int .u64 (o.moved:Int)] 33):=⟨_,rfl⟩;have BX:=aq (show OBox W0 w.heap.size o a A by rw [hW0];exact HX.out);have B0:=aq (show Below w.heap.size w W0 by rw [hW0];exact BB.out _);rw [<-hW0];clear hW0 HX BB;obtain⟨c0,c1,c2,c3,c4,c5,c6,c7,c8,c9,c10,c11,c12,c13,c14,c15,c16,c17⟩:=BX.out.cells
 go_wp2_with fail
 refine (CG.out W0).mono ?_;rintro e w1 ⟨rfl,hb⟩;replace BX:=aq (BX.out.below hb);replace B0:=aq (B0.out.trans (hb.mono B0.out.size));clear hb c0 c1 c2 c3 c4 c5 c6 c7 c8 c9 c10 c11 c12 c13 c14 c15 c16 c17 CG;obtain⟨c0,c1,c2,c3,c4,c5,c6,c7,c8,c9,c10,c11,c12,c13,c14,c15,c16,c17⟩:=BX.out.cells
 cases h0:o.sl.greatB n
 ·rw [h0,Bool.false_or] at HE
  by_cases h1:n < (o.tb.gens.length:Int)
  ·have E:=aq (show Om.greatB o n=true by rw [HE.out,decide_eq_true h1];rfl)
   have k1:decide ((o.tb.gens.length:Int) > n)=true:=by simpa using h1
   go_wp2;go_ret;rw [E.out];exact⟨rfl,B0.out⟩
  ·have k1:decide ((o.tb.gens.length:Int) > n)=false:=by simpa using h1
   by_cases h2:n < (o.tb.ats.length:Int)
   ·have E:=aq (show Om.greatB o n=true by rw [HE.out,decide_eq_true h2,Bool.or_true])
    have k2:decide ((o.tb.ats.length:Int) > n)=true:=by simpa using h2
    go_wp2;go_ret;rw [E.out];exact⟨rfl,B0.out⟩
   ·have E:=aq (show Om.greatB o n=false by rw [HE.out,decide_eq_false h1,decide_eq_false h2];rfl)
    have k2:decide ((o.tb.ats.length:Int) > n)=false:=by simpa using h2
    go_wp2;go_ret;rw [E.out];exact⟨rfl,B0.out⟩
 ·have E:=aq (show Om.greatB o n=true by rw [HE.out,h0];rfl)
  go_wp2;go_ret;rw [E.out];exact⟨rfl,B0.out⟩
def ch15:Cf:={ tag:=1,most:=8,seg:=4,least:=16,den:=8,ll:=0,rl:=1,rh:=4,lh:=8 }
theorem ch15_in:ch15.In :=
 ⟨by show (0:Int)<=1;omega,by show (1:Int)<=255;omega,by show I64 8;unfold I64;omega,by show I64 4;unfold I64;omega,by show I64 16;unfold I64;omega,by show I64 8;unfold I64;omega,by show I64 0;unfold I64;omega,by show I64 1;unfold I64;omega,by show I64 4;unfold I64;omega,by show I64 8;unfold I64;omega⟩
theorem l15Chapter (w:World) :
  Calls Tryz.prog 10 #[] w fun e w'=>e=.returned (cfv ch15)/\Below w.heap.size w w':=by
 go_enter Tryz.func10,Tryz.ntmps10
 go_wp2;refine bodyPost_ret (v:=.agg #[.int .u8 1,.int .i64 8,.int .i64 4,.int .i64 16,.int .i64 8,.int .i64 0,.int .i64 1,.int .i64 4,.int .i64 8]) (by simp [results,Tryz.results10,go_sem]) rfl ⟨rfl,?_⟩;exact (Below.refl _ _).alloc (Nat.le_refl _) _
/-! A list and a handle that are answered, laid into boxes of their own. -/
theorem lay1o (w:World):OBox (w.alloc (.cells #[.int .u8 0,.int .i64 0,.int .i64 0,.int .i64 0,.int .i64 0,.int .i64 0,.int .i64 0,.int .i64 0,.int .i64 0,.int .i64 0,.slice none 0 0,.slice none 0 0,.slice none 0 0,.slice none 0 0,.int .u64 0,.slice none 0 0,.slice none 0 0,.int .u64 0] 33)) w.heap.size Od.zero adsNone hNone:=OBox.new w Od.zero adsNone hNone 33
theorem lay1b (w:World) (o:Obj):Below w.heap.size w (w.alloc o):=(Below.refl _ _).alloc (Nat.le_refl _) _
theorem laidH (w:World) (b:Nat) (x:Int×Int):Laid1 w b (wput2 w b (.int .i64 x.1) (.int .i64 x.2)):=(Laid1.cell _ ⟨b,0,none⟩ _).trans (Laid1.cell _ ⟨b,1,none⟩ _)
theorem only_relaid {w U V:World} {bx:Nat} {o:Obj} (hL:Laid1 (w.alloc o) bx U) (hH:Laid1 U w.heap.size V):Only (fun k=>k=bx) w V :=
 ⟨hH.os.trans (hL.os.trans rfl),hH.tape.trans (hL.tape.trans rfl),hH.output.trans (hL.output.trans rfl),by rw [hH.size,hL.size];simp,fun k hk hx=>(hH.off k (by omega)).trans ((hL.off k hx).trans (Below.heap_alloc w o k hk))⟩
theorem OOwn.only {X:Nat->Prop} {w W:World} {B:Nat} {o:Od} {a:Ads} {A:HAds} (h:OOwn w B o a A) (ho:Only X w W) (hX:∀ i,X i->i < B):OOwn W B o a A :=
 ⟨h.sl.only ho hX,⟨h.tb.gens.only ho hX,h.tb.ats.only ho hX,h.tb.caps,h.tb.sep⟩⟩
theorem Tab.only {X:Nat->Prop} {w W:World} (h:Tab w) (ho:Only X w W) (hX:¬ X 0):Tab W:=by
 refine⟨Nat.lt_of_lt_of_le h.1 ho.size,?_⟩;have:=h.2;unfold TabAt at this ⊢;intro j hj;exact (World.cell?_of_block (ho.block _ h.1 hX)).trans (this j hj)
theorem mrow_list {l:List (Int×Int)} {er:Int} {w:World} {e:Ending} {w':World} (h:MRowE l er w e w'):∃ A c,e=.returned (.tuple #[.slice A l.length c,.int .i64 er])/\PLst w' A l/\(A=none->l.length=0/\c=0)/\(∀ p,A=some p->p.off=0/\p.block < w'.heap.size)/\l.length<=c/\Below w.heap.size w w':=by
 obtain⟨v,h1,h2,h3⟩:=h;obtain⟨A,c,rfl,q1,q2,q3,q4⟩:=own_cells h2;exact⟨A,c,h1,q1,q2,fun p hp=>⟨(q3 p hp).2.1,(q3 p hp).2.2⟩,q4,h3⟩
def Om.isB' (o:Od) (l:List (Int×Int)):Bool:=decide (Om.chkE o=0)&&(Om.hands o==l)
theorem hands_16 {o:Od} (h:o.sl.Short):(Om.hands o).length<=65536:=by
 have q1:=Oc.places_length_le o.sl.words 0 o.sl.keys.length;have q2:(Om.pl o.sl).length=(Oc.places o.sl.words 0 o.sl.keys.length).length:=rfl;have q3:=h.keys;rw [Om.hands_len]
 omega
theorem l15Is (o:Od) (a:Ads) (A:HAds) (l:List (Int×Int)) (al:Option Addr) (cl:Nat) (w:World) (h:OHeld w o a A) (hin:o.In) (hT:Tab w) (hl:PLst w al l) (hn:l.length<=65536) :
  Calls Tryz.prog 45 #[odv o a A,.slice al l.length cl] w fun e w'=>e=.returned (.bool (Om.isB' o l))/\Below w.heap.size w w':=by
 have HX:=aq (OBox.new w o a A 33);have BB:=aq (fun o=>(Below.refl w.heap.size w).alloc (Nat.le_refl _) o);have CL:=aq (fun V (hb:Below w.heap.size w V)=>mList o a A V (h.below hb) hin (hT.below hb));have CS:=aq (fun (A2:Option Addr) (c2:Nat) (xs:List (Int×Int)) V (hb:Below w.heap.size w V) (hp:PLst V A2 xs) (hx:xs.length<=65536)=>r15SameHandles A2 al c2 cl xs l V hp (hl.below hb) (by omega) (by omega));have H16:=hands_16 hin.short.sl;clear h hin hT hl;unfold odv at CL ⊢
 go_enter Tryz.func45,Tryz.ntmps45
 go_upto_region 1 with (fail)
 obtain⟨W0,hW0⟩:∃ W0,W0=w.alloc (.cells (odCells o a A) 33):=⟨_,rfl⟩;have BX:=aq (show OBox W0 w.heap.size o a A by rw [hW0];exact HX.out);have B0:=aq (show Below w.heap.size w W0 by rw [hW0];exact BB.out _);rw [<-hW0];clear hW0 HX BB
 go_wp2_with (refine wpList_load_od rfl _ rfl _ rfl BX.out ?_)
 refine (CL.out W0 B0.out).mono ?_;rintro e w1 hq;obtain⟨A2,c2,rfl,hp,_,_,_,hb⟩:=mrow_list hq;have PL:=aq hp;replace B0:=aq (B0.out.trans (hb.mono B0.out.size));clear hq hp hb CL BX
 by_cases hc:Om.chkE o=0
 ·have k1:(Om.chkE o==0)=true:=by simpa using hc
  have EV:=aq (show Om.listV o=Om.hands o by unfold Om.listV;rw [if_pos hc]);have EI:=aq (show Om.isB' o l=(Om.hands o==l) by unfold Om.isB';rw [decide_eq_true hc];rfl);rw [EV.out] at PL ⊢;have CS2:=aq (CS.out A2 c2 (Om.hands o) w1 B0.out PL.out H16);clear hc CS
  go_wp2_with fail
  refine CS2.out.mono ?_;rintro e w2 ⟨rfl,hb⟩;replace B0:=aq (B0.out.trans (hb.mono B0.out.size));clear hb CS2;go_wp2;go_ret;rw [EI.out];exact⟨rfl,B0.out⟩
 ·have k1:(Om.chkE o==0)=false:=by simpa using hc
  have EI:=aq (show Om.isB' o l=false by unfold Om.isB';rw [decide_eq_false hc];rfl);clear hc CS;go_wp2;go_ret;rw [EI.out];exact⟨rfl,B0.out⟩
namespace Om
def b0:Od:=newV ch15
def b1:Od:=firV b0
def x1:Int×Int:=firH b0
def b2:Od:=besV b1 x1 1
def x2:Int×Int:=besH b1 x1
def b3:Od:=besV b2 x2 0
def x3:Int×Int:=besH b2 x2
def b4:Od:=delV b3 x3
theorem alive15:ch15.chkE=0/\firE b0=0/\besE b1 x1=0/\besE b2 x2=0/\isB' b3 [(0,0),(2,0),(1,0)]=true/\cmpE b3 x3 x2=0/\cmpV b3 x3 x2=-1/\delE b3 x3=0/\isB' b4 [x1,x2]=true/\labE b4 x3=140/\chkE b0=0/\chkE b1=0/\chkE b2=0:=by decide +kernel
end Om
theorem fir_64 {o:Od} (h:o.In):In64 (Om.firH o).1/\In64 (Om.firH o).2:=by
 unfold Om.firH
 split
 ·rename_i e;exact Om.hnd_in64 h (Om.fir_yes e).1
 ·exact⟨⟨by decide,by decide⟩,⟨by decide,by decide⟩⟩
theorem bes_64 {o:Od} (h:o.In) (x:Int×Int):In64 (Om.besH o x).1/\In64 (Om.besH o x).2:=by
 unfold Om.besH
 split
 ·rename_i e;exact Om.hnd_in64 h (Om.bes_yes e).1
 ·exact⟨⟨by decide,by decide⟩,⟨by decide,by decide⟩⟩
theorem plst_lit {w:World} (g:Nat) (l:List (Int×Int)) (T:TypeId) (h:w.heap[g]?=some (.cells (pcells l).toArray T (0,0))):PLst w (some ⟨g,0,none⟩) l:=by
 refine Or.inr ⟨g,0,rfl,(Array.getElem?_eq_some_iff.1 h).1,fun i hi=>?_⟩
 simp [World.cell?,h]
theorem l15Alive (W:World) (hT:Tab W) :
  Calls Tryz.prog 17 #[] W fun e w'=>e=.returned (.bool true)/\Below W.heap.size W w':=by
 obtain⟨f0,f1,f2,f3,f4,f5,f6,f7,f8,f9,_,_,_⟩:=Om.alive15;have i0:Om.b0.In:=Om.newV_in ch15_in;have i1:Om.b1.In:=Om.firV_in i0;have y1:=fir_64 i0;have i2:Om.b2.In:=Om.besV_in i1 _ _;have y2:=bes_64 i1 Om.x1;have i3:Om.b3.In:=Om.besV_in i2 _ _;have y3:=bes_64 i2 Om.x2;have i4:Om.b4.In:=Om.delV_in i3 _;have c0:=aq (fun V=>mNew ch15 V ch15_in);have c1:=aq (fun a A V (q:OHeld V Om.b0 a A) t=>mFirst Om.b0 a A V q i0 t);have c2:=aq (fun a A V (q:OHeld V Om.b1 a A) t=>mAfter Om.b1 a A Om.x1 V q i1 t y1.1 y1.2);have c3:=aq (fun a A V (q:OHeld V Om.b2 a A) t=>mBefore Om.b2 a A Om.x2 V q i2 t y2.1 y2.2);have c4:=aq (fun a A V (q:OHeld V Om.b3 a A) t=>mCompare Om.b3 a A Om.x3 Om.x2 V q i3 t y3.1 y3.2 y2.1 y2.2);have c5:=aq (fun a A V (q:OHeld V Om.b3 a A) t=>mDelete Om.b3 a A Om.x3 V q i3 t y3.1 y3.2);have c6:=aq (fun a A V (q:OHeld V Om.b4 a A) t=>mLabel Om.b4 a A Om.x3 V q i4 t y3.1 y3.2);have c7:=aq (fun a A al cl V (q:OHeld V Om.b3 a A) t p=>(show Calls _ _ #[odv Om.b3 a A,.slice al 3 cl] V _ from l15Is Om.b3 a A [(0,0),(2,0),(1,0)] al cl V q i3 t p (by decide)));have c8:=aq (fun a A al cl V (q:OHeld V Om.b4 a A) t p=>(show Calls _ _ #[odv Om.b4 a A,.slice al 2 cl] V _ from l15Is Om.b4 a A [Om.x1,Om.x2] al cl V q i4 t p (by show (2:Nat)<=65536;decide)));rw [f0,show Om.newV ch15=Om.b0 from rfl] at c0;rw [f1,show Om.firV Om.b0=Om.b1 from rfl,show Om.firH Om.b0=Om.x1 from rfl] at c1
 rw [f2,show Om.besV Om.b1 Om.x1 1=Om.b2 from rfl,show Om.besH Om.b1 Om.x1=Om.x2 from rfl] at c2;rw [f3,show Om.besV Om.b2 Om.x2 0=Om.b3 from rfl,show Om.besH Om.b2 Om.x2=Om.x3 from rfl] at c3;rw [f5,f6] at c4;rw [f7,show Om.delV Om.b3 Om.x3=Om.b4 from rfl] at c5;rw [f9] at c6;rw [f4] at c7;rw [f8] at c8;clear f0 f1 f2 f3 f4 f5 f6 f7 f8 f9 i0 i1 i2 i3 i4 y1 y2 y3;obtain⟨M0,h0⟩:∃ M,M=Om.b0:=⟨_,rfl⟩;obtain⟨M1,h1⟩:∃ M,M=Om.b1:=⟨_,rfl⟩;obtain⟨M2,h2⟩:∃ M,M=Om.b2:=⟨_,rfl⟩;obtain⟨M3,h3⟩:∃ M,M=Om.b3:=⟨_,rfl⟩;obtain⟨M4,h4⟩:∃ M,M=Om.b4:=⟨_,rfl⟩;obtain⟨X1,h5⟩:∃ M,M=Om.x1:=⟨_,rfl⟩;obtain⟨X2,h6⟩:∃ M,M=Om.x2:=⟨_,rfl⟩;obtain⟨X3,h7⟩:∃ M,M=Om.x3:=⟨_,rfl⟩;rw [<-h0] at c0 c1;rw [<-h1,<-h5] at c1 c2;rw [<-h2,<-h6] at c2 c3;rw [<-h3,<-h7] at c3 c5;rw [<-h3,<-h6,<-h7] at c4;rw [<-h3] at c7;rw [<-h4] at c5 c8;rw [<-h4,<-h7] at c6;rw [<-h5,<-h6] at c8;clear h0 h1 h2 h3 h4 h5 h6 h7;unfold odv at c1 c7 c8;unfold odv pv at c2 c3 c4 c5 c6;have BB:=aq (Below.refl W.heap.size W);have TT:=aq hT;have tg:=hT.1;clear hT
 go_enter Tryz.func17,Tryz.ntmps17
 go_wp2_with fail
 refine (l15Chapter _).mono ?_;rintro e x1 ⟨rfl,hb⟩;have zzx1:W.heap.size<=x1.heap.size:=hb.size;replace TT:=aq (TT.out.below hb);replace BB:=aq (BB.out.trans (hb.mono BB.out.size));clear hb
 go_wp2_with fail
 refine (c0.out x1).mono ?_;rintro e x2 ⟨a0,A0,rfl,own,hb⟩;have zzx2:x1.heap.size<=x2.heap.size:=hb.size;replace TT:=aq (TT.out.below hb);replace BB:=aq (BB.out.trans (hb.mono BB.out.size));have O0:=aq own;clear own;clear hb ;have H0:=aq O0.out.held;clear O0;unfold odv
 go_upto_region 2 with (refine wpList_store_od rfl _ _ rfl _ rfl M0 a0 A0 rfl (lay1o _) ?_;intro V3 hX hL;have BX:=aq hX;have hb:=hL.below (lay1b x2 _) (Nat.le_refl _);have LL:=aq hb;clear hX hL hb)
 have hb:=LL.out;clear LL;have zzV3:x2.heap.size < V3.heap.size:=BX.out.lt;replace TT:=aq (TT.out.below hb);replace H0:=aq (H0.out.below hb);replace BB:=aq (BB.out.trans (hb.mono BB.out.size));clear hb
 go_wp2_with (first | (refine wpList_load_od rfl _ rfl _ rfl BX.out ?_) | (refine wpList_load_odg (by rfl) _ rfl _ rfl BX.out ?_))
 refine (c1.out _ _ V3 H0.out TT.out).mono ?_;rintro e x4 ⟨a1,A1,rfl,own,hb⟩;have zzx4:V3.heap.size<=x4.heap.size:=hb.size;replace TT:=aq (TT.out.below hb);replace H0:=aq (H0.out.below hb);replace BX:=aq (BX.out.below hb);replace BB:=aq (BB.out.trans (hb.mono BB.out.size));have O1:=aq own;clear own;clear hb ;clear H0;have LT:=BX.out.lt;have BZ:=BB.out.size;unfold odv pv
 go_upto_region 3 with (refine wpList_store_od rfl _ _ rfl _ rfl M1 a1 A1 rfl (BX.out.below (lay1b x4 (.cells #[.int .i64 0,.int .i64 0] 39))) ?_;intro U5 hX hL;have BX9:=aq hX;have LL:=aq hL;have hq:=hL.pbox (PBox.new x4 (0,0) 39) (by omega);have B1:=aq hq;obtain⟨_,r0,r1,rf0,rf1⟩:=hq;dsimp only at r0 r1;clear hX hL)
 obtain⟨V6,hV⟩:∃ V,V=wput2 U5 x4.heap.size (.int .i64 X1.1) (.int .i64 X1.2):=⟨_,rfl⟩;have LH:=aq (show Laid1 U5 x4.heap.size V6 by rw [hV];exact laidH _ _ _);replace B1:=aq (show PBox V6 x4.heap.size X1 by rw [hV];exact B1.out.put2 X1);replace BX:=aq (LH.out.obox BX9.out (by omega));unfold wput2 at hV
 first | rw [<-hV] | skip
 clear hV r0 r1 rf0 rf1 BX9;have OV:=aq (only_relaid LL.out LH.out);clear LL LH;replace TT:=aq (TT.out.only OV.out (by show ¬ _=_;omega));replace O1:=aq (O1.out.only OV.out (fun i hi=>by show i < _;have:i=x2.heap.size:=hi;omega));replace BB:=aq (BB.out.trans (OV.out.below (B:=W.heap.size) BB.out.size (fun i hi=>by have:i=x2.heap.size:=hi;omega)));have zzV6:x4.heap.size < V6.heap.size:=B1.out.lt;clear OV LT BZ;have H1:=aq O1.out.held;clear O1;obtain⟨_,hB10,hB11,_,_⟩:=B1.out
 try dsimp only at hB10 hB11
 go_wp2_with (first | (refine wpList_load_od rfl _ rfl _ rfl BX.out ?_) | (refine wpList_load_odg (by rfl) _ rfl _ rfl BX.out ?_))
 refine (c2.out _ _ V6 H1.out TT.out).mono ?_;rintro e x7 ⟨a2,A2,rfl,own,hb⟩;have zzx7:V6.heap.size<=x7.heap.size:=hb.size;replace TT:=aq (TT.out.below hb);replace BX:=aq (BX.out.below hb);replace B1:=aq (B1.out.below hb);replace H1:=aq (H1.out.below hb);replace BB:=aq (BB.out.trans (hb.mono BB.out.size));have O2:=aq own;clear own;clear hb hB10 hB11;clear H1;have LT:=BX.out.lt;have BZ:=BB.out.size;unfold odv pv
 go_upto_region 4 with (refine wpList_store_od rfl _ _ rfl _ rfl M2 a2 A2 rfl (BX.out.below (lay1b x7 (.cells #[.int .i64 0,.int .i64 0] 39))) ?_;intro U8 hX hL;have BX9:=aq hX;have LL:=aq hL;have hq:=hL.pbox (PBox.new x7 (0,0) 39) (by omega);have B2:=aq hq;obtain⟨_,r0,r1,rf0,rf1⟩:=hq;dsimp only at r0 r1;clear hX hL)
 obtain⟨V9,hV⟩:∃ V,V=wput2 U8 x7.heap.size (.int .i64 X2.1) (.int .i64 X2.2):=⟨_,rfl⟩;have LH:=aq (show Laid1 U8 x7.heap.size V9 by rw [hV];exact laidH _ _ _);replace B2:=aq (show PBox V9 x7.heap.size X2 by rw [hV];exact B2.out.put2 X2);replace BX:=aq (LH.out.obox BX9.out (by omega));unfold wput2 at hV
 first | rw [<-hV] | skip
 clear hV r0 r1 rf0 rf1 BX9;have OV:=aq (only_relaid LL.out LH.out);clear LL LH;replace TT:=aq (TT.out.only OV.out (by show ¬ _=_;omega));replace B1:=aq (B1.out.only OV.out (by show ¬ _=_;omega));replace O2:=aq (O2.out.only OV.out (fun i hi=>by show i < _;have:i=x2.heap.size:=hi;omega));replace BB:=aq (BB.out.trans (OV.out.below (B:=W.heap.size) BB.out.size (fun i hi=>by have:i=x2.heap.size:=hi;omega)));have zzV9:x7.heap.size < V9.heap.size:=B2.out.lt;clear OV LT BZ;have H2:=aq O2.out.held;clear O2;obtain⟨_,hB20,hB21,_,_⟩:=B2.out
 try dsimp only at hB20 hB21
 go_wp2_with (first | (refine wpList_load_od rfl _ rfl _ rfl BX.out ?_) | (refine wpList_load_odg (by rfl) _ rfl _ rfl BX.out ?_))
 refine (c3.out _ _ V9 H2.out TT.out).mono ?_;rintro e x10 ⟨a3,A3,rfl,own,hb⟩;have zzx10:V9.heap.size<=x10.heap.size:=hb.size;replace TT:=aq (TT.out.below hb);replace BX:=aq (BX.out.below hb);replace B1:=aq (B1.out.below hb);replace B2:=aq (B2.out.below hb);replace H2:=aq (H2.out.below hb);replace BB:=aq (BB.out.trans (hb.mono BB.out.size));have O3:=aq own;clear own;clear hb hB20 hB21;clear H2;have LT:=BX.out.lt;have BZ:=BB.out.size;unfold odv pv
 go_upto_region 5 with (refine wpList_store_od rfl _ _ rfl _ rfl M3 a3 A3 rfl (BX.out.below (lay1b x10 (.cells #[.int .i64 0,.int .i64 0] 39))) ?_;intro U11 hX hL;have BX9:=aq hX;have LL:=aq hL;have hq:=hL.pbox (PBox.new x10 (0,0) 39) (by omega);have B3:=aq hq;obtain⟨_,r0,r1,rf0,rf1⟩:=hq;dsimp only at r0 r1;clear hX hL)
 obtain⟨V12,hV⟩:∃ V,V=wput2 U11 x10.heap.size (.int .i64 X3.1) (.int .i64 X3.2):=⟨_,rfl⟩;have LH:=aq (show Laid1 U11 x10.heap.size V12 by rw [hV];exact laidH _ _ _);replace B3:=aq (show PBox V12 x10.heap.size X3 by rw [hV];exact B3.out.put2 X3);replace BX:=aq (LH.out.obox BX9.out (by omega));unfold wput2 at hV
 first | rw [<-hV] | skip
 clear hV r0 r1 rf0 rf1 BX9;have OV:=aq (only_relaid LL.out LH.out);clear LL LH;replace TT:=aq (TT.out.only OV.out (by show ¬ _=_;omega));replace B1:=aq (B1.out.only OV.out (by show ¬ _=_;omega));replace B2:=aq (B2.out.only OV.out (by show ¬ _=_;omega));replace O3:=aq (O3.out.only OV.out (fun i hi=>by show i < _;have:i=x2.heap.size:=hi;omega));replace BB:=aq (BB.out.trans (OV.out.below (B:=W.heap.size) BB.out.size (fun i hi=>by have:i=x2.heap.size:=hi;omega)));have zzV12:x10.heap.size < V12.heap.size:=B3.out.lt;clear OV LT BZ;have H3:=aq O3.out.held;clear O3;obtain⟨_,hB30,hB31,_,_⟩:=B3.out;obtain⟨_,hB20,hB21,_,_⟩:=B2.out
 try dsimp only at hB30 hB31 hB20 hB21
 go_wp2_with (first | (refine wpList_load_od rfl _ rfl _ rfl BX.out ?_) | (refine wpList_load_odg (by rfl) _ rfl _ rfl BX.out ?_))
 refine (c4.out _ _ V12 H3.out TT.out).mono ?_;rintro e x13 ⟨rfl,hb⟩;have zzx13:V12.heap.size<=x13.heap.size:=hb.size;replace TT:=aq (TT.out.below hb);replace BX:=aq (BX.out.below hb);replace B1:=aq (B1.out.below hb);replace B2:=aq (B2.out.below hb);replace B3:=aq (B3.out.below hb);replace H3:=aq (H3.out.below hb);replace BB:=aq (BB.out.trans (hb.mono BB.out.size));clear hb hB30 hB31 hB20 hB21;obtain⟨_,hB30,hB31,_,_⟩:=B3.out
 try dsimp only at hB30 hB31
 go_wp2_with (first | (refine wpList_load_od rfl _ rfl _ rfl BX.out ?_) | (refine wpList_load_odg (by rfl) _ rfl _ rfl BX.out ?_))
 refine (c5.out _ _ x13 H3.out TT.out).mono ?_;rintro e x14 ⟨a4,A4,rfl,own,hb⟩;have zzx14:x13.heap.size<=x14.heap.size:=hb.size;replace TT:=aq (TT.out.below hb);replace BX:=aq (BX.out.below hb);replace B1:=aq (B1.out.below hb);replace B2:=aq (B2.out.below hb);replace B3:=aq (B3.out.below hb);replace H3:=aq (H3.out.below hb);replace BB:=aq (BB.out.trans (hb.mono BB.out.size));have O4:=aq own;clear own;clear hb hB30 hB31;have H4:=aq O4.out.held;clear O4;unfold odv
 go_upto_region 7 with (refine wpList_store_od rfl _ _ rfl _ rfl M4 a4 A4 rfl (lay1o _) ?_;intro V15 hX hL;have BY:=aq hX;have hb:=hL.below (lay1b x14 _) (Nat.le_refl _);have LL:=aq hb;clear hX hL hb)
 have hb:=LL.out;clear LL;have zzV15:x14.heap.size < V15.heap.size:=BY.out.lt;replace TT:=aq (TT.out.below hb);replace BX:=aq (BX.out.below hb);replace B1:=aq (B1.out.below hb);replace B2:=aq (B2.out.below hb);replace B3:=aq (B3.out.below hb);replace H3:=aq (H3.out.below hb);replace H4:=aq (H4.out.below hb);replace BB:=aq (BB.out.trans (hb.mono BB.out.size));clear hb;obtain⟨_,hB30,hB31,_,_⟩:=B3.out
 try dsimp only at hB30 hB31
 go_wp2_with (first | (refine wpList_load_od rfl _ rfl _ rfl BX.out ?_) | (refine wpList_load_od rfl _ rfl _ rfl BY.out ?_) | (refine wpList_load_odg (by rfl) _ rfl _ rfl BX.out ?_) | (refine wpList_load_odg (by rfl) _ rfl _ rfl BY.out ?_))
 refine (c6.out _ _ V15 H4.out TT.out).mono ?_;rintro e x16 ⟨rfl,hb⟩;have zzx16:V15.heap.size<=x16.heap.size:=hb.size;replace TT:=aq (TT.out.below hb);replace BX:=aq (BX.out.below hb);replace B1:=aq (B1.out.below hb);replace B2:=aq (B2.out.below hb);replace B3:=aq (B3.out.below hb);replace H3:=aq (H3.out.below hb);replace H4:=aq (H4.out.below hb);replace BY:=aq (BY.out.below hb);replace BB:=aq (BB.out.trans (hb.mono BB.out.size));clear hb hB30 hB31
 go_wp2_with (first | (refine wpList_load_od rfl _ rfl _ rfl BX.out ?_) | (refine wpList_load_od rfl _ rfl _ rfl BY.out ?_) | (refine wpList_load_odg (by rfl) _ rfl _ rfl BX.out ?_) | (refine wpList_load_odg (by rfl) _ rfl _ rfl BY.out ?_))
 obtain⟨V17,hV⟩:∃ V,V=x16.alloc (.cells #[.int .i64 0,.int .i64 0,.int .i64 2,.int .i64 0,.int .i64 1,.int .i64 0] 39):=⟨_,rfl⟩
 have hb:Below x16.heap.size x16 V17:=by rw [hV];exact lay1b _ _
 have P1:=aq (show PLst V17 (some ⟨x16.heap.size,0,none⟩) [(0,0),(2,0),(1,0)] from plst_lit _ _ 39 (by rw [hV];exact World.alloc_heap_new _ _));have zzV17:x16.heap.size<=V17.heap.size:=hb.size;rw [<-hV];clear hV ;replace TT:=aq (TT.out.below hb);replace BX:=aq (BX.out.below hb);replace B1:=aq (B1.out.below hb);replace B2:=aq (B2.out.below hb);replace B3:=aq (B3.out.below hb);replace H3:=aq (H3.out.below hb);replace H4:=aq (H4.out.below hb);replace BY:=aq (BY.out.below hb);replace BB:=aq (BB.out.trans (hb.mono BB.out.size));clear hb;refine (c7.out _ _ _ _ V17 H3.out TT.out P1.out).mono ?_;rintro e x18 ⟨rfl,hb⟩;have zzx18:V17.heap.size<=x18.heap.size:=hb.size;replace TT:=aq (TT.out.below hb);replace BX:=aq (BX.out.below hb);replace B1:=aq (B1.out.below hb);replace B2:=aq (B2.out.below hb);replace B3:=aq (B3.out.below hb);replace H3:=aq (H3.out.below hb);replace H4:=aq (H4.out.below hb);replace BY:=aq (BY.out.below hb);replace BB:=aq (BB.out.trans (hb.mono BB.out.size));clear hb;obtain⟨_,hB10,hB11,_,_⟩:=B1.out;obtain⟨_,hB20,hB21,_,_⟩:=B2.out
 try dsimp only at hB10 hB11 hB20 hB21
 go_wp2_with (first | (refine wpList_load_od rfl _ rfl _ rfl BX.out ?_) | (refine wpList_load_od rfl _ rfl _ rfl BY.out ?_) | (refine wpList_load_odg (by rfl) _ rfl _ rfl BX.out ?_) | (refine wpList_load_odg (by rfl) _ rfl _ rfl BY.out ?_))
 obtain⟨V19,hV⟩:∃ V,V=x18.alloc (.cells #[.int .i64 X1.1,.int .i64 X1.2,.int .i64 X2.1,.int .i64 X2.2] 39):=⟨_,rfl⟩
 have hb:Below x18.heap.size x18 V19:=by rw [hV];exact lay1b _ _
 have P2:=aq (show PLst V19 (some ⟨x18.heap.size,0,none⟩) [X1,X2] from plst_lit _ _ 39 (by rw [hV];exact World.alloc_heap_new _ _));have zzV19:x18.heap.size<=V19.heap.size:=hb.size;rw [<-hV];clear hV hB10 hB11 hB20 hB21;replace TT:=aq (TT.out.below hb);replace BX:=aq (BX.out.below hb);replace B1:=aq (B1.out.below hb);replace B2:=aq (B2.out.below hb);replace B3:=aq (B3.out.below hb);replace H3:=aq (H3.out.below hb);replace H4:=aq (H4.out.below hb);replace BY:=aq (BY.out.below hb);replace BB:=aq (BB.out.trans (hb.mono BB.out.size));clear hb;refine (c8.out _ _ _ _ V19 H4.out TT.out P2.out).mono ?_;rintro e x20 ⟨rfl,hb⟩;have zzx20:V19.heap.size<=x20.heap.size:=hb.size;replace TT:=aq (TT.out.below hb);replace BX:=aq (BX.out.below hb);replace B1:=aq (B1.out.below hb);replace B2:=aq (B2.out.below hb);replace B3:=aq (B3.out.below hb);replace H3:=aq (H3.out.below hb);replace H4:=aq (H4.out.below hb);replace BY:=aq (BY.out.below hb);replace BB:=aq (BB.out.trans (hb.mono BB.out.size));clear hb;go_wp2;go_ret;exact⟨rfl,BB.out⟩
end Go.Proofs.YtpeckljoannolaaGreatDoor

/- Package om's checks. -/
import Derived.Test.YtpeckljoannolaaGreatDoorTkOt
import Derived.Test.YtpeckljoannolaaGreatDoorS15Ot
import Derived.Test.YtpeckljoannolaaGreatDoorRangeQOt
import Derived.Test.YtpeckljoannolaaGreatDoorP07Ot
import Derived.Test.YtpeckljoannolaaGreatDoorM12Ot
import Derived.Test.YtpeckljoannolaaGreatDoorS14Ot
import Derived.Laws.Rows
import Derived.Test.YtpeckljoannolaaGreatDoorGapCOt
import Derived.Test.YtpeckljoannolaaGreatDoorS1fOt
import Derived.Test.YtpeckljoannolaaGreatDoorM10Ot
set_option linter.unusedVariables false
set_option linter.unusedSimpArgs false
set_option maxHeartbeats 8000000
set_option maxRecDepth 100000
namespace Go.Proofs.YtpeckljoannolaaGreatDoor
open Go.RowKit Go.Shelf
attribute [local go_sem] Oper.semAt_some
structure SeenM (w:World) (b:Nat) (s:Sl) (a:Ads):Prop where
 box:Box w b s a
 held:Held w s a
 tab:Tab w
structure ZokM (Z:Nat->Prop) (s:Sl) (a:Ads) (b:Nat):Prop where
 zb:Z b
 zw:ints s.words≠[]->∀ p,a.w=some p->Z p.block
 zk:s.keys≠[]->∀ p,a.k=some p->Z p.block
 zv:s.vals≠[]->∀ p,a.v=some p->Z p.block
 zc:s.counts≠[]->∀ p,a.c=some p->Z p.block
 zt:Z 0
theorem SeenM.kept {Z:Nat->Prop} {A B:World} {b:Nat} {s:Sl} {a:Ads} (h:SeenM A b s a) (hz:ZokM Z s a b) (hk:Kept Z A B):SeenM B b s a :=
 ⟨hk.box h.box hz.zb,⟨hk.lstH h.held.words hz.zw,hk.lstH h.held.keys hz.zk,hk.lstH h.held.vals hz.zv,hk.lstH h.held.counts hz.zc,h.held.caps⟩,⟨Nat.lt_of_lt_of_le h.tab.1 hk.size,by
  have:=h.tab.2;unfold TabAt at this ⊢;intro j hj
  exact ((hk.cell (p:=_) hz.zt).trans (this j hj))⟩⟩
def MPairs (s:Sl) (a:Ads) (w:World) (e:Ending) (w':World):Prop :=
 ∃ b,e=.returned (.func (.func 89) #[] #[.pointer (some ⟨b,0,none⟩)])/\Box w' b s a/\w.heap.size<=b/\Below w.heap.size w w'
theorem mPairs (s:Sl) (a:Ads) (w:World):Calls Tryz.prog 54 #[slv s a] w (MPairs s a w):=by
 have HB:=aq (Box.new w s a 29);unfold slv
 go_enter Tryz.func54,Tryz.ntmps54
 go_wp2;go_ret;exact⟨_,rfl,HB.out,Nat.le_refl _,(Below.refl _ _).alloc (Nat.le_refl _) _⟩
def MPairsJ (s:Sl) (a:Ads) (b:Nat) (J:List Nat->World->Prop) (p q:Value) (wr:World):Prop :=
 ∃ (pre:List Nat) (i:Nat),i<=s.keys.length/\p=.int .i64 (Oc.nextV s.words s.keys.length i)/\q=.int .i64 (Oc.nextE s.words s.keys.length i)/\Om.pl s=pre++Oc.places s.words i s.keys.length/\SeenM wr b s a/\J pre wr
def mEnc (s:Sl) (x:Nat):Array Value:=#[.int .i64 (x:Int),.agg #[.int .i64 (s.pairAt x).1,.int .i64 (s.pairAt x).2]]
theorem mPairs_seq (Z:Nat->Prop) (s:Sl) (a:Ads) (b:Nat) (w:World) (hs:SeenM w b s a) (hZ:ZokM Z s a b) (hZs:∀ k,Z k->k < w.heap.size)
  (hm:s.May) (hok:s.Ok) (hsh:s.Short) :
  SeqQ (mEnc s) Tryz.prog 89 #[.pointer (some ⟨b,0,none⟩)] Z (Om.pl s) w:=fun l J Jx W hW hJ hJx hY h0=>by
 have HS:=aq (hs.kept hZ (Kept.of_below hW hZs));have HZ:=aq hZ;have HZS:=aq (fun k (h:Z k)=>Nat.lt_of_lt_of_le (hZs k h) hW.size);have HY:=aq hY;have OK:=aq hok;have SH:=aq hsh;have HV:=aq hm.vals;have HJ:=aq (show ∀ pre A B,W.heap.size<=A.heap.size->J pre A->Below A.heap.size A B->J pre B from fun pre A B _ hs hb=>hJ pre A B none hs ⟨hb.os,hb.tape,hb.output,hb.size,fun k hk _=>hb.block k hk⟩ (fun r e=>by cases e));have NS:=aq (fun k (hk:k<=s.keys.length)=>next_split (hi:=s.keys.length) hm.chkW hk (Nat.le_refl _));have CO:=aq (fun (i:Int) W (h:Held W s a) tv=>oNext a.w a.cw s.words s.keys.length i W h.words OK.out.words SH.out.words tv);have hkl:=hsh.keys;clear hs hZ hZs hY hJ hJx hW hm hok hsh;obtain⟨_,c0,c1,c2,c3,c4,c5,_⟩:=HS.out.box;refine callsIn_of_wp Tryz.func89 rfl trivial ?_ rfl
 simp only [Tryz.ntmps89,List.size_toArray,List.length_cons,List.length_nil,Nat.reduceAdd,Nat.reduceSub,Array.replicate_succ,Array.replicate_zero,List.push_toArray,List.append_toArray,List.nil_append,List.cons_append]
 gi_wp2
 refine⟨trivial,?_⟩;refine (callsIn_wide.2 (CO.out _ _ HS.out.held HS.out.tab)).mono ?_;rintro e w1 ⟨rfl,hb⟩;have HS1:=aq (HS.out.kept HZ.out (Kept.of_below hb HZS.out));have j1:=HJ.out _ _ _ (Nat.le_refl _) h0 hb;have sz:=hb.size;clear hb h0 c0 c1 c2 c3 c4 c5
 gi_wp2
 gi_loopw [3,4] (MPairsJ s a b (fun pre wr=>W.heap.size<=wr.heap.size/\J pre wr)) (fun p q _=>OccM s.keys.length p q)
 case atStart=>exact⟨[],0,Nat.zero_le _,rfl,rfl,rfl,HS1.out,sz,j1⟩
 case round =>
  obtain⟨pre,i,hi,rfl,rfl,hpl,hsr,hszr,hJr⟩:=hrel;have HPL:=aq hpl;have HR:=aq hsr;have HRD:=aq (hsr.kept HZ.out (Kept.of_below ((Below.refl wr.heap.size wr).drew) (fun k h=>Nat.lt_of_lt_of_le (HZS.out k h) hszr)));have hJd:=HJ.out _ _ wr.drew hszr hJr ((Below.refl wr.heap.size wr).drew);clear hpl hsr hJr;obtain⟨_,c0,c1,c2,c3,c4,c5,_⟩:=HR.out.box
  rcases NS.out i hi with⟨he,x,hv,hx1,hx2,hx⟩ | ⟨he,hx⟩
  ·rw [if_pos hx2] at hx
   have HX:=aq hx;rw [hv,he];clear hx hv he;have HX2:=aq (show Om.pl s=(pre++[x])++Oc.places s.words (x+1) s.keys.length by rw [HPL.out,HX.out,List.append_assoc];rfl);obtain⟨b1,o1,hA1,_,e1⟩:=HR.out.held.keys.cell (i:=x) hx2;obtain⟨b2,o2,hA2,_,e2⟩:=HR.out.held.vals.cell (i:=x) (by rw [HV.out];exact hx2);rw [hA1] at c2;rw [hA2] at c3;replace e1:wr.cell? ⟨b1,o1+x,none⟩=some (.int .i64 (s.pairAt x).1):=e1;replace e2:wr.cell? ⟨b2,o2+x,none⟩=some (.int .i64 (s.pairAt x).2):=e2;obtain⟨fn,tmps,assign,body,hy,hR⟩:=HY.out pre x wr.drew hJd ⟨_,HX2.out.symm⟩;unfold mEnc at hy;obtain⟨z,hz⟩:∃ z,s.pairAt x=z:=⟨_,rfl⟩;rw [hz] at e1 e2 hy
   have i2:(x:Int) < (s.keys.length:Int):=by omega
   have i3:(x:Int) < (s.vals.length:Int):=by have:=HV.out;omega
   clear hz hA1 hA2 HY
   gi_wp2
   refine wpIn_region_any (by kernel_rfl) ?_
   change wpAnyIn _ _ _ _ _ _ _ _ _ (World.drew _)
   refine wpAnyIn_take (i:=0) (oi:=Oper.mk _ _ _ _ _ _) (v:=?vp0) rfl rfl (by kernel_rfl) (by kernel_rfl) (by kernel_rfl) (fun _ _ _ h=>h) ⟨Or.inl ⟨by rfl,?hyp0⟩,fun _=>rfl⟩ ?restp0
   case hyp0=>(intro w;go_simp);try with_reducible rfl
   try simp only [sZ]
   refine wpAnyIn_take (i:=1) (oi:=Oper.mk _ _ _ _ _ _) (v:=?vp1) rfl rfl (by kernel_rfl) (by kernel_rfl) (by kernel_rfl) (fun _ _ _ h=>h) ⟨Or.inl ⟨by rfl,?hyp1⟩,fun _=>rfl⟩ ?restp1
   case hyp1=>(intro w;go_simp);try with_reducible rfl
   try simp only [sZ]
   refine wpAnyIn_take (i:=2) (oi:=Oper.mk _ _ _ _ _ _) (v:=?vp2) rfl rfl (by kernel_rfl) (by kernel_rfl) (by kernel_rfl) (fun _ _ _ h=>h) ⟨Or.inl ⟨by rfl,?hyp2⟩,fun _=>rfl⟩ ?restp2
   case hyp2=>(intro w;go_simp);try with_reducible rfl
   try simp only [sZ]
   refine wpAnyIn_take (i:=3) (oi:=Oper.mk _ _ _ _ _ _) (v:=?vp3) rfl rfl (by kernel_rfl) (by kernel_rfl) (by kernel_rfl) (fun _ _ _ h=>h) ⟨Or.inl ⟨by rfl,?hyp3⟩,fun _=>rfl⟩ ?restp3
   case hyp3=>(intro w;go_simp);try with_reducible rfl
   try simp only [sZ]
   refine wpAnyIn_take (i:=4) (oi:=Oper.mk _ _ _ _ _ _) (v:=?vp4) rfl rfl (by kernel_rfl) (by kernel_rfl) (by kernel_rfl) (fun _ _ _ h=>h) ⟨Or.inl ⟨by rfl,?hyp4⟩,fun _=>rfl⟩ ?restp4
   case hyp4=>(intro w;go_simp);try with_reducible rfl
   try simp only [sZ]
   refine wpAnyIn_take (i:=5) (oi:=Oper.mk _ _ _ _ _ _) (v:=?vp5) rfl rfl (by kernel_rfl) (by kernel_rfl) (by kernel_rfl) (fun _ _ _ h=>h) ⟨Or.inl ⟨by rfl,?hyp5⟩,fun _=>rfl⟩ ?restp5
   case hyp5=>(intro w;go_simp);try with_reducible rfl
   try simp only [sZ]
   refine wpAnyIn_take (i:=7) (oi:=Oper.mk _ _ _ _ _ _) (v:=?vp6) rfl rfl (by kernel_rfl) (by kernel_rfl) (by kernel_rfl) (fun _ _ _ h=>h) ⟨Or.inl ⟨by rfl,?hyp6⟩,fun _=>rfl⟩ ?restp6
   case hyp6=>(intro w;go_simp);try with_reducible rfl
   try simp only [sZ]
   refine wpAnyIn_take (i:=10) (oi:=Oper.mk _ _ _ _ _ _) (v:=?vp7) rfl rfl (by kernel_rfl) (by kernel_rfl) (by kernel_rfl) (fun _ _ _ h=>h) ⟨Or.inl ⟨by rfl,?hyp7⟩,fun _=>rfl⟩ ?restp7
   case hyp7=>(intro w;go_simp);try with_reducible rfl
   try simp only [sZ]
   refine wpAnyIn_take (i:=12) (oi:=Oper.mk _ _ _ _ _ _) (v:=?vp8) rfl rfl (by kernel_rfl) (by kernel_rfl) (by kernel_rfl) (fun _ _ _ h=>h) ⟨Or.inl ⟨by rfl,?hyp8⟩,fun _=>rfl⟩ ?restp8
   case hyp8=>(intro w;go_simp);try with_reducible rfl
   try simp only [sZ]
   refine wpAnyIn_ready (rs:=[6,11]) (by kernel_rfl) (by simp) ?_;refine cI (fun K hK=>?_) ?_
   ·skip
    go_simp;refine hK _ _ ?_;clear hK K
    try simp only [sZ]
    refine wpAnyIn_take (i:=8) (oi:=Oper.mk _ _ _ _ _ _) (v:=?vp9) rfl rfl (by kernel_rfl) (by kernel_rfl) (by kernel_rfl) (fun _ _ _ h=>h) ⟨Or.inl ⟨by rfl,?hyp9⟩,fun _=>rfl⟩ ?restp9
    case hyp9=>(intro w;go_simp);try with_reducible rfl
    try simp only [sZ]
    refine wpAnyIn_ready (rs:=[9,11]) (by kernel_rfl) (by simp) ?_;refine cI (fun K hK=>?_) ?_
    ·skip
     go_simp;refine hK _ _ ?_;clear hK K
     try simp only [sZ]
     refine rdI 11 fun K hK=>?_;go_simp;refine hK _ _ ?_;clear hK K
     try simp only [sZ]
     refine wpAnyIn_take (i:=13) (oi:=Oper.mk _ _ _ _ _ _) (v:=?vp10) rfl rfl (by kernel_rfl) (by kernel_rfl) (by kernel_rfl) (fun _ _ _ h=>h) ⟨Or.inl ⟨by rfl,?hyp10⟩,fun _=>rfl⟩ ?restp10
     case hyp10=>(intro w;go_simp);try with_reducible rfl
     try simp only [sZ]
     refine rdI 14 fun K hK=>?_;go_simp;refine hK _ _ ?_;clear hK K
     try simp only [sZ]
     refine wpAnyIn_take (i:=15) (oi:=Oper.mk _ _ _ _ _ _) (v:=?vp11) rfl rfl (by kernel_rfl) (by kernel_rfl) (by kernel_rfl) (fun _ _ _ h=>h) ⟨Or.inl ⟨by rfl,?hyp11⟩,fun _=>rfl⟩ ?restp11
     case hyp11=>(intro w;go_simp);try with_reducible rfl
     try simp only [sZ]
     refine rdI 16 fun K hK=>?_;go_simp;refine hR.mono ?_;rintro e W3 (⟨rfl,hJ3,hk3⟩ | ⟨rfl,hJx3⟩)
     ·go_simp
      refine hK _ _ ?_;clear hK K
      try simp only [sZ]
      have HS3:=aq (HRD.out.kept HZ.out hk3);have sz3:=Nat.le_trans hszr hk3.size;have z3:=aq (fun k (h:Z k)=>Nat.lt_of_lt_of_le (HZS.out k h) sz3);have HJ3:=aq hJ3;clear hk3 hJ3 c0 c1 c2 c3 c4 c5 e1 e2 hy hR;obtain⟨_,c0,c1,c2,c3,c4,c5,_⟩:=HS3.out.box;refine wpAnyIn_take (i:=17) (oi:=Oper.mk _ _ _ _ _ _) (v:=?vp12) rfl rfl (by kernel_rfl) (by kernel_rfl) (by kernel_rfl) (fun _ _ _ h=>h) ⟨Or.inl ⟨by rfl,?hyp12⟩,fun _=>rfl⟩ ?restp12
      case hyp12=>(intro w;go_simp);try with_reducible rfl
      try simp only [sZ]
      refine wpAnyIn_done (by kernel_rfl) ?_ _
      gi_wp2
      refine⟨trivial,?_⟩;refine (callsIn_wide.2 (CO.out _ _ HS3.out.held HS3.out.tab)).mono ?_;rintro e w4 ⟨rfl,hb4⟩;have HS4:=aq (HS3.out.kept HZ.out (Kept.of_below hb4 z3.out));have j4:=HJ.out _ _ _ sz3 HJ3.out hb4;have sz4:=Nat.le_trans sz3 hb4.size;clear hb4
      gi_wp2
      go_roundw
      case rel=>exact⟨pre++[x],x+1,by omega,rfl,rfl,HX2.out,HS4.out,sz4,j4⟩
      case measure =>
       rw [occM_eq,occM_eq,if_pos rfl,Int.toNat_natCast]
       rcases NS.out (x+1) (by omega) with⟨e1,y,e2,e3,e4,_⟩ | ⟨e1,_⟩
       ·first | (rw [e1,e2,if_pos rfl,Int.toNat_natCast];omega) | (rw [show ((x:Int)+1)=((x+1:Nat):Int) from by omega,e1,e2,if_pos rfl,Int.toNat_natCast];omega)
       ·first | (rw [if_neg e1];omega) | (rw [show ((x:Int)+1)=((x+1:Nat):Int) from by omega,if_neg e1];omega)
     ·go_simp
      refine hK _ _ ?_;clear hK K
      try simp only [sZ]
      refine wpAnyIn_take (i:=17) (oi:=Oper.mk _ _ _ _ _ _) (v:=?vp13) rfl rfl (by kernel_rfl) (by kernel_rfl) (by kernel_rfl) (fun _ _ _ h=>h) ⟨Or.inl ⟨by rfl,?hyp13⟩,fun _=>rfl⟩ ?restp13
      case hyp13=>(intro w;go_simp);try with_reducible rfl
      try simp only [sZ]
      refine wpAnyIn_done (by kernel_rfl) ?_ _
      gi_wp2
      go_end0
      exact⟨⟨_,rfl⟩,.inr ⟨pre++[x],by rw [HX2.out];exact⟨_,rfl⟩,hJx3⟩⟩
    refine cI (fun K hK=>?_) AllReadyIn.nil;go_simp;refine hK _ _ ?_;clear hK K
    try simp only [sZ]
    refine wpAnyIn_take (i:=13) (oi:=Oper.mk _ _ _ _ _ _) (v:=?vp14) rfl rfl (by kernel_rfl) (by kernel_rfl) (by kernel_rfl) (fun _ _ _ h=>h) ⟨Or.inl ⟨by rfl,?hyp14⟩,fun _=>rfl⟩ ?restp14
    case hyp14=>(intro w;go_simp);try with_reducible rfl
    try simp only [sZ]
    refine wpAnyIn_ready (rs:=[9,14]) (by kernel_rfl) (by simp) ?_;refine cI (fun K hK=>?_) ?_
    ·skip
     go_simp;refine hK _ _ ?_;clear hK K
     try simp only [sZ]
     refine rdI 14 fun K hK=>?_;go_simp;refine hK _ _ ?_;clear hK K
     try simp only [sZ]
     refine wpAnyIn_take (i:=15) (oi:=Oper.mk _ _ _ _ _ _) (v:=?vp15) rfl rfl (by kernel_rfl) (by kernel_rfl) (by kernel_rfl) (fun _ _ _ h=>h) ⟨Or.inl ⟨by rfl,?hyp15⟩,fun _=>rfl⟩ ?restp15
     case hyp15=>(intro w;go_simp);try with_reducible rfl
     try simp only [sZ]
     refine rdI 16 fun K hK=>?_;go_simp;refine hR.mono ?_;rintro e W3 (⟨rfl,hJ3,hk3⟩ | ⟨rfl,hJx3⟩)
     ·go_simp
      refine hK _ _ ?_;clear hK K
      try simp only [sZ]
      have HS3:=aq (HRD.out.kept HZ.out hk3);have sz3:=Nat.le_trans hszr hk3.size;have z3:=aq (fun k (h:Z k)=>Nat.lt_of_lt_of_le (HZS.out k h) sz3);have HJ3:=aq hJ3;clear hk3 hJ3 c0 c1 c2 c3 c4 c5 e1 e2 hy hR;obtain⟨_,c0,c1,c2,c3,c4,c5,_⟩:=HS3.out.box;refine wpAnyIn_take (i:=17) (oi:=Oper.mk _ _ _ _ _ _) (v:=?vp16) rfl rfl (by kernel_rfl) (by kernel_rfl) (by kernel_rfl) (fun _ _ _ h=>h) ⟨Or.inl ⟨by rfl,?hyp16⟩,fun _=>rfl⟩ ?restp16
      case hyp16=>(intro w;go_simp);try with_reducible rfl
      try simp only [sZ]
      refine wpAnyIn_done (by kernel_rfl) ?_ _
      gi_wp2
      refine⟨trivial,?_⟩;refine (callsIn_wide.2 (CO.out _ _ HS3.out.held HS3.out.tab)).mono ?_;rintro e w4 ⟨rfl,hb4⟩;have HS4:=aq (HS3.out.kept HZ.out (Kept.of_below hb4 z3.out));have j4:=HJ.out _ _ _ sz3 HJ3.out hb4;have sz4:=Nat.le_trans sz3 hb4.size;clear hb4
      gi_wp2
      go_roundw
      case rel=>exact⟨pre++[x],x+1,by omega,rfl,rfl,HX2.out,HS4.out,sz4,j4⟩
      case measure =>
       rw [occM_eq,occM_eq,if_pos rfl,Int.toNat_natCast]
       rcases NS.out (x+1) (by omega) with⟨e1,y,e2,e3,e4,_⟩ | ⟨e1,_⟩
       ·first | (rw [e1,e2,if_pos rfl,Int.toNat_natCast];omega) | (rw [show ((x:Int)+1)=((x+1:Nat):Int) from by omega,e1,e2,if_pos rfl,Int.toNat_natCast];omega)
       ·first | (rw [if_neg e1];omega) | (rw [show ((x:Int)+1)=((x+1:Nat):Int) from by omega,if_neg e1];omega)
     ·go_simp
      refine hK _ _ ?_;clear hK K
      try simp only [sZ]
      refine wpAnyIn_take (i:=17) (oi:=Oper.mk _ _ _ _ _ _) (v:=?vp17) rfl rfl (by kernel_rfl) (by kernel_rfl) (by kernel_rfl) (fun _ _ _ h=>h) ⟨Or.inl ⟨by rfl,?hyp17⟩,fun _=>rfl⟩ ?restp17
      case hyp17=>(intro w;go_simp);try with_reducible rfl
      try simp only [sZ]
      refine wpAnyIn_done (by kernel_rfl) ?_ _
      gi_wp2
      go_end0
      exact⟨⟨_,rfl⟩,.inr ⟨pre++[x],by rw [HX2.out];exact⟨_,rfl⟩,hJx3⟩⟩
    refine cI (fun K hK=>?_) AllReadyIn.nil;go_simp;refine hK _ _ ?_;clear hK K
    try simp only [sZ]
    refine rdI 9 fun K hK=>?_;go_simp;refine hK _ _ ?_;clear hK K
    try simp only [sZ]
    refine wpAnyIn_take (i:=15) (oi:=Oper.mk _ _ _ _ _ _) (v:=?vp18) rfl rfl (by kernel_rfl) (by kernel_rfl) (by kernel_rfl) (fun _ _ _ h=>h) ⟨Or.inl ⟨by rfl,?hyp18⟩,fun _=>rfl⟩ ?restp18
    case hyp18=>(intro w;go_simp);try with_reducible rfl
    try simp only [sZ]
    refine rdI 16 fun K hK=>?_;go_simp;refine hR.mono ?_;rintro e W3 (⟨rfl,hJ3,hk3⟩ | ⟨rfl,hJx3⟩)
    ·go_simp
     refine hK _ _ ?_;clear hK K
     try simp only [sZ]
     have HS3:=aq (HRD.out.kept HZ.out hk3);have sz3:=Nat.le_trans hszr hk3.size;have z3:=aq (fun k (h:Z k)=>Nat.lt_of_lt_of_le (HZS.out k h) sz3);have HJ3:=aq hJ3;clear hk3 hJ3 c0 c1 c2 c3 c4 c5 e1 e2 hy hR;obtain⟨_,c0,c1,c2,c3,c4,c5,_⟩:=HS3.out.box;refine wpAnyIn_take (i:=17) (oi:=Oper.mk _ _ _ _ _ _) (v:=?vp19) rfl rfl (by kernel_rfl) (by kernel_rfl) (by kernel_rfl) (fun _ _ _ h=>h) ⟨Or.inl ⟨by rfl,?hyp19⟩,fun _=>rfl⟩ ?restp19
     case hyp19=>(intro w;go_simp);try with_reducible rfl
     try simp only [sZ]
     refine wpAnyIn_done (by kernel_rfl) ?_ _
     gi_wp2
     refine⟨trivial,?_⟩;refine (callsIn_wide.2 (CO.out _ _ HS3.out.held HS3.out.tab)).mono ?_;rintro e w4 ⟨rfl,hb4⟩;have HS4:=aq (HS3.out.kept HZ.out (Kept.of_below hb4 z3.out));have j4:=HJ.out _ _ _ sz3 HJ3.out hb4;have sz4:=Nat.le_trans sz3 hb4.size;clear hb4
     gi_wp2
     go_roundw
     case rel=>exact⟨pre++[x],x+1,by omega,rfl,rfl,HX2.out,HS4.out,sz4,j4⟩
     case measure =>
      rw [occM_eq,occM_eq,if_pos rfl,Int.toNat_natCast]
      rcases NS.out (x+1) (by omega) with⟨e1,y,e2,e3,e4,_⟩ | ⟨e1,_⟩
      ·first | (rw [e1,e2,if_pos rfl,Int.toNat_natCast];omega) | (rw [show ((x:Int)+1)=((x+1:Nat):Int) from by omega,e1,e2,if_pos rfl,Int.toNat_natCast];omega)
      ·first | (rw [if_neg e1];omega) | (rw [show ((x:Int)+1)=((x+1:Nat):Int) from by omega,if_neg e1];omega)
    ·go_simp
     refine hK _ _ ?_;clear hK K
     try simp only [sZ]
     refine wpAnyIn_take (i:=17) (oi:=Oper.mk _ _ _ _ _ _) (v:=?vp20) rfl rfl (by kernel_rfl) (by kernel_rfl) (by kernel_rfl) (fun _ _ _ h=>h) ⟨Or.inl ⟨by rfl,?hyp20⟩,fun _=>rfl⟩ ?restp20
     case hyp20=>(intro w;go_simp);try with_reducible rfl
     try simp only [sZ]
     refine wpAnyIn_done (by kernel_rfl) ?_ _
     gi_wp2
     go_end0
     exact⟨⟨_,rfl⟩,.inr ⟨pre++[x],by rw [HX2.out];exact⟨_,rfl⟩,hJx3⟩⟩
   refine cI (fun K hK=>?_) AllReadyIn.nil;go_simp;refine hK _ _ ?_;clear hK K
   try simp only [sZ]
   refine wpAnyIn_take (i:=13) (oi:=Oper.mk _ _ _ _ _ _) (v:=?vp21) rfl rfl (by kernel_rfl) (by kernel_rfl) (by kernel_rfl) (fun _ _ _ h=>h) ⟨Or.inl ⟨by rfl,?hyp21⟩,fun _=>rfl⟩ ?restp21
   case hyp21=>(intro w;go_simp);try with_reducible rfl
   try simp only [sZ]
   refine wpAnyIn_ready (rs:=[6,14]) (by kernel_rfl) (by simp) ?_;refine cI (fun K hK=>?_) ?_
   ·skip
    go_simp;refine hK _ _ ?_;clear hK K
    try simp only [sZ]
    refine wpAnyIn_take (i:=8) (oi:=Oper.mk _ _ _ _ _ _) (v:=?vp22) rfl rfl (by kernel_rfl) (by kernel_rfl) (by kernel_rfl) (fun _ _ _ h=>h) ⟨Or.inl ⟨by rfl,?hyp22⟩,fun _=>rfl⟩ ?restp22
    case hyp22=>(intro w;go_simp);try with_reducible rfl
    try simp only [sZ]
    refine wpAnyIn_ready (rs:=[9,14]) (by kernel_rfl) (by simp) ?_;refine cI (fun K hK=>?_) ?_
    ·skip
     go_simp;refine hK _ _ ?_;clear hK K
     try simp only [sZ]
     refine rdI 14 fun K hK=>?_;go_simp;refine hK _ _ ?_;clear hK K
     try simp only [sZ]
     refine wpAnyIn_take (i:=15) (oi:=Oper.mk _ _ _ _ _ _) (v:=?vp23) rfl rfl (by kernel_rfl) (by kernel_rfl) (by kernel_rfl) (fun _ _ _ h=>h) ⟨Or.inl ⟨by rfl,?hyp23⟩,fun _=>rfl⟩ ?restp23
     case hyp23=>(intro w;go_simp);try with_reducible rfl
     try simp only [sZ]
     refine rdI 16 fun K hK=>?_;go_simp;refine hR.mono ?_;rintro e W3 (⟨rfl,hJ3,hk3⟩ | ⟨rfl,hJx3⟩)
     ·go_simp
      refine hK _ _ ?_;clear hK K
      try simp only [sZ]
      have HS3:=aq (HRD.out.kept HZ.out hk3);have sz3:=Nat.le_trans hszr hk3.size;have z3:=aq (fun k (h:Z k)=>Nat.lt_of_lt_of_le (HZS.out k h) sz3);have HJ3:=aq hJ3;clear hk3 hJ3 c0 c1 c2 c3 c4 c5 e1 e2 hy hR;obtain⟨_,c0,c1,c2,c3,c4,c5,_⟩:=HS3.out.box;refine wpAnyIn_take (i:=17) (oi:=Oper.mk _ _ _ _ _ _) (v:=?vp24) rfl rfl (by kernel_rfl) (by kernel_rfl) (by kernel_rfl) (fun _ _ _ h=>h) ⟨Or.inl ⟨by rfl,?hyp24⟩,fun _=>rfl⟩ ?restp24
      case hyp24=>(intro w;go_simp);try with_reducible rfl
      try simp only [sZ]
      refine wpAnyIn_done (by kernel_rfl) ?_ _
      gi_wp2
      refine⟨trivial,?_⟩;refine (callsIn_wide.2 (CO.out _ _ HS3.out.held HS3.out.tab)).mono ?_;rintro e w4 ⟨rfl,hb4⟩;have HS4:=aq (HS3.out.kept HZ.out (Kept.of_below hb4 z3.out));have j4:=HJ.out _ _ _ sz3 HJ3.out hb4;have sz4:=Nat.le_trans sz3 hb4.size;clear hb4
      gi_wp2
      go_roundw
      case rel=>exact⟨pre++[x],x+1,by omega,rfl,rfl,HX2.out,HS4.out,sz4,j4⟩
      case measure =>
       rw [occM_eq,occM_eq,if_pos rfl,Int.toNat_natCast]
       rcases NS.out (x+1) (by omega) with⟨e1,y,e2,e3,e4,_⟩ | ⟨e1,_⟩
       ·first | (rw [e1,e2,if_pos rfl,Int.toNat_natCast];omega) | (rw [show ((x:Int)+1)=((x+1:Nat):Int) from by omega,e1,e2,if_pos rfl,Int.toNat_natCast];omega)
       ·first | (rw [if_neg e1];omega) | (rw [show ((x:Int)+1)=((x+1:Nat):Int) from by omega,if_neg e1];omega)
     ·go_simp
      refine hK _ _ ?_;clear hK K
      try simp only [sZ]
      refine wpAnyIn_take (i:=17) (oi:=Oper.mk _ _ _ _ _ _) (v:=?vp25) rfl rfl (by kernel_rfl) (by kernel_rfl) (by kernel_rfl) (fun _ _ _ h=>h) ⟨Or.inl ⟨by rfl,?hyp25⟩,fun _=>rfl⟩ ?restp25
      case hyp25=>(intro w;go_simp);try with_reducible rfl
      try simp only [sZ]
      refine wpAnyIn_done (by kernel_rfl) ?_ _
      gi_wp2
      go_end0
      exact⟨⟨_,rfl⟩,.inr ⟨pre++[x],by rw [HX2.out];exact⟨_,rfl⟩,hJx3⟩⟩
    refine cI (fun K hK=>?_) AllReadyIn.nil;go_simp;refine hK _ _ ?_;clear hK K
    try simp only [sZ]
    refine rdI 9 fun K hK=>?_;go_simp;refine hK _ _ ?_;clear hK K
    try simp only [sZ]
    refine wpAnyIn_take (i:=15) (oi:=Oper.mk _ _ _ _ _ _) (v:=?vp26) rfl rfl (by kernel_rfl) (by kernel_rfl) (by kernel_rfl) (fun _ _ _ h=>h) ⟨Or.inl ⟨by rfl,?hyp26⟩,fun _=>rfl⟩ ?restp26
    case hyp26=>(intro w;go_simp);try with_reducible rfl
    try simp only [sZ]
    refine rdI 16 fun K hK=>?_;go_simp;refine hR.mono ?_;rintro e W3 (⟨rfl,hJ3,hk3⟩ | ⟨rfl,hJx3⟩)
    ·go_simp
     refine hK _ _ ?_;clear hK K
     try simp only [sZ]
     have HS3:=aq (HRD.out.kept HZ.out hk3);have sz3:=Nat.le_trans hszr hk3.size;have z3:=aq (fun k (h:Z k)=>Nat.lt_of_lt_of_le (HZS.out k h) sz3);have HJ3:=aq hJ3;clear hk3 hJ3 c0 c1 c2 c3 c4 c5 e1 e2 hy hR;obtain⟨_,c0,c1,c2,c3,c4,c5,_⟩:=HS3.out.box;refine wpAnyIn_take (i:=17) (oi:=Oper.mk _ _ _ _ _ _) (v:=?vp27) rfl rfl (by kernel_rfl) (by kernel_rfl) (by kernel_rfl) (fun _ _ _ h=>h) ⟨Or.inl ⟨by rfl,?hyp27⟩,fun _=>rfl⟩ ?restp27
     case hyp27=>(intro w;go_simp);try with_reducible rfl
     try simp only [sZ]
     refine wpAnyIn_done (by kernel_rfl) ?_ _
     gi_wp2
     refine⟨trivial,?_⟩;refine (callsIn_wide.2 (CO.out _ _ HS3.out.held HS3.out.tab)).mono ?_;rintro e w4 ⟨rfl,hb4⟩;have HS4:=aq (HS3.out.kept HZ.out (Kept.of_below hb4 z3.out));have j4:=HJ.out _ _ _ sz3 HJ3.out hb4;have sz4:=Nat.le_trans sz3 hb4.size;clear hb4
     gi_wp2
     go_roundw
     case rel=>exact⟨pre++[x],x+1,by omega,rfl,rfl,HX2.out,HS4.out,sz4,j4⟩
     case measure =>
      rw [occM_eq,occM_eq,if_pos rfl,Int.toNat_natCast]
      rcases NS.out (x+1) (by omega) with⟨e1,y,e2,e3,e4,_⟩ | ⟨e1,_⟩
      ·first | (rw [e1,e2,if_pos rfl,Int.toNat_natCast];omega) | (rw [show ((x:Int)+1)=((x+1:Nat):Int) from by omega,e1,e2,if_pos rfl,Int.toNat_natCast];omega)
      ·first | (rw [if_neg e1];omega) | (rw [show ((x:Int)+1)=((x+1:Nat):Int) from by omega,if_neg e1];omega)
    ·go_simp
     refine hK _ _ ?_;clear hK K
     try simp only [sZ]
     refine wpAnyIn_take (i:=17) (oi:=Oper.mk _ _ _ _ _ _) (v:=?vp28) rfl rfl (by kernel_rfl) (by kernel_rfl) (by kernel_rfl) (fun _ _ _ h=>h) ⟨Or.inl ⟨by rfl,?hyp28⟩,fun _=>rfl⟩ ?restp28
     case hyp28=>(intro w;go_simp);try with_reducible rfl
     try simp only [sZ]
     refine wpAnyIn_done (by kernel_rfl) ?_ _
     gi_wp2
     go_end0
     exact⟨⟨_,rfl⟩,.inr ⟨pre++[x],by rw [HX2.out];exact⟨_,rfl⟩,hJx3⟩⟩
   refine cI (fun K hK=>?_) AllReadyIn.nil;go_simp;refine hK _ _ ?_;clear hK K
   try simp only [sZ]
   refine rdI 6 fun K hK=>?_;go_simp;refine hK _ _ ?_;clear hK K
   try simp only [sZ]
   refine wpAnyIn_take (i:=8) (oi:=Oper.mk _ _ _ _ _ _) (v:=?vp29) rfl rfl (by kernel_rfl) (by kernel_rfl) (by kernel_rfl) (fun _ _ _ h=>h) ⟨Or.inl ⟨by rfl,?hyp29⟩,fun _=>rfl⟩ ?restp29
   case hyp29=>(intro w;go_simp);try with_reducible rfl
   try simp only [sZ]
   refine rdI 9 fun K hK=>?_;go_simp;refine hK _ _ ?_;clear hK K
   try simp only [sZ]
   refine wpAnyIn_take (i:=15) (oi:=Oper.mk _ _ _ _ _ _) (v:=?vp30) rfl rfl (by kernel_rfl) (by kernel_rfl) (by kernel_rfl) (fun _ _ _ h=>h) ⟨Or.inl ⟨by rfl,?hyp30⟩,fun _=>rfl⟩ ?restp30
   case hyp30=>(intro w;go_simp);try with_reducible rfl
   try simp only [sZ]
   refine rdI 16 fun K hK=>?_;go_simp;refine hR.mono ?_;rintro e W3 (⟨rfl,hJ3,hk3⟩ | ⟨rfl,hJx3⟩)
   ·go_simp
    refine hK _ _ ?_;clear hK K
    try simp only [sZ]
    have HS3:=aq (HRD.out.kept HZ.out hk3);have sz3:=Nat.le_trans hszr hk3.size;have z3:=aq (fun k (h:Z k)=>Nat.lt_of_lt_of_le (HZS.out k h) sz3);have HJ3:=aq hJ3;clear hk3 hJ3 c0 c1 c2 c3 c4 c5 e1 e2 hy hR;obtain⟨_,c0,c1,c2,c3,c4,c5,_⟩:=HS3.out.box;refine wpAnyIn_take (i:=17) (oi:=Oper.mk _ _ _ _ _ _) (v:=?vp31) rfl rfl (by kernel_rfl) (by kernel_rfl) (by kernel_rfl) (fun _ _ _ h=>h) ⟨Or.inl ⟨by rfl,?hyp31⟩,fun _=>rfl⟩ ?restp31
    case hyp31=>(intro w;go_simp);try with_reducible rfl
    try simp only [sZ]
    refine wpAnyIn_done (by kernel_rfl) ?_ _
    gi_wp2
    refine⟨trivial,?_⟩;refine (callsIn_wide.2 (CO.out _ _ HS3.out.held HS3.out.tab)).mono ?_;rintro e w4 ⟨rfl,hb4⟩;have HS4:=aq (HS3.out.kept HZ.out (Kept.of_below hb4 z3.out));have j4:=HJ.out _ _ _ sz3 HJ3.out hb4;have sz4:=Nat.le_trans sz3 hb4.size;clear hb4
    gi_wp2
    go_roundw
    case rel=>exact⟨pre++[x],x+1,by omega,rfl,rfl,HX2.out,HS4.out,sz4,j4⟩
    case measure =>
     rw [occM_eq,occM_eq,if_pos rfl,Int.toNat_natCast]
     rcases NS.out (x+1) (by omega) with⟨e1,y,e2,e3,e4,_⟩ | ⟨e1,_⟩
     ·first | (rw [e1,e2,if_pos rfl,Int.toNat_natCast];omega) | (rw [show ((x:Int)+1)=((x+1:Nat):Int) from by omega,e1,e2,if_pos rfl,Int.toNat_natCast];omega)
     ·first | (rw [if_neg e1];omega) | (rw [show ((x:Int)+1)=((x+1:Nat):Int) from by omega,if_neg e1];omega)
   ·go_simp
    refine hK _ _ ?_;clear hK K
    try simp only [sZ]
    refine wpAnyIn_take (i:=17) (oi:=Oper.mk _ _ _ _ _ _) (v:=?vp32) rfl rfl (by kernel_rfl) (by kernel_rfl) (by kernel_rfl) (fun _ _ _ h=>h) ⟨Or.inl ⟨by rfl,?hyp32⟩,fun _=>rfl⟩ ?restp32
    case hyp32=>(intro w;go_simp);try with_reducible rfl
    try simp only [sZ]
    refine wpAnyIn_done (by kernel_rfl) ?_ _
    gi_wp2
    go_end0
    exact⟨⟨_,rfl⟩,.inr ⟨pre++[x],by rw [HX2.out];exact⟨_,rfl⟩,hJx3⟩⟩
  ·have HX2:=aq (show Om.pl s=pre by rw [HPL.out,hx,List.append_nil])
   have k1:(Oc.nextE s.words s.keys.length i==0)=false:=by simp [he]
   clear hx he
   gi_wp2
   refine wpIn_region_any (by kernel_rfl) ?_
   change wpAnyIn _ _ _ _ _ _ _ _ _ (World.drew _)
   refine wpAnyIn_take (i:=0) (oi:=Oper.mk _ _ _ _ _ _) (v:=?vq0) rfl rfl (by kernel_rfl) (by kernel_rfl) (by kernel_rfl) (fun _ _ _ h=>h) ⟨Or.inl ⟨by rfl,?hyq0⟩,fun _=>rfl⟩ ?restq0
   case hyq0=>(intro w;go_simp);try with_reducible rfl
   try simp only [sZ]
   refine wpAnyIn_take (i:=1) (oi:=Oper.mk _ _ _ _ _ _) (v:=?vq1) rfl rfl (by kernel_rfl) (by kernel_rfl) (by kernel_rfl) (fun _ _ _ h=>h) ⟨Or.inl ⟨by rfl,?hyq1⟩,fun _=>rfl⟩ ?restq1
   case hyq1=>(intro w;go_simp);try with_reducible rfl
   try simp only [sZ]
   refine wpAnyIn_take (i:=2) (oi:=Oper.mk _ _ _ _ _ _) (v:=?vq2) rfl rfl (by kernel_rfl) (by kernel_rfl) (by kernel_rfl) (fun _ _ _ h=>h) ⟨Or.inl ⟨by rfl,?hyq2⟩,fun _=>rfl⟩ ?restq2
   case hyq2=>(intro w;go_simp);try with_reducible rfl
   try simp only [sZ]
   refine wpAnyIn_take (i:=3) (oi:=Oper.mk _ _ _ _ _ _) (v:=undef) rfl rfl (by kernel_rfl) (by kernel_rfl) (by kernel_rfl) (fun _ _ _ h=>h) ⟨Or.inr ⟨by rfl,rfl⟩,fun _=>rfl⟩ ?_
   try simp only [sZ]
   refine wpAnyIn_take (i:=4) (oi:=Oper.mk _ _ _ _ _ _) (v:=undef) rfl rfl (by kernel_rfl) (by kernel_rfl) (by kernel_rfl) (fun _ _ _ h=>h) ⟨Or.inr ⟨by rfl,rfl⟩,fun _=>rfl⟩ ?_
   try simp only [sZ]
   refine wpAnyIn_take (i:=5) (oi:=Oper.mk _ _ _ _ _ _) (v:=undef) rfl rfl (by kernel_rfl) (by kernel_rfl) (by kernel_rfl) (fun _ _ _ h=>h) ⟨Or.inr ⟨by rfl,rfl⟩,fun _=>rfl⟩ ?_
   try simp only [sZ]
   refine wpAnyIn_take (i:=6) (oi:=Oper.mk _ _ _ _ _ _) (v:=undef) rfl rfl (by kernel_rfl) (by kernel_rfl) (by kernel_rfl) (fun _ _ _ h=>h) ⟨Or.inr ⟨by rfl,rfl⟩,fun _=>rfl⟩ ?_
   try simp only [sZ]
   refine wpAnyIn_take (i:=7) (oi:=Oper.mk _ _ _ _ _ _) (v:=undef) rfl rfl (by kernel_rfl) (by kernel_rfl) (by kernel_rfl) (fun _ _ _ h=>h) ⟨Or.inr ⟨by rfl,rfl⟩,fun _=>rfl⟩ ?_
   try simp only [sZ]
   refine wpAnyIn_take (i:=8) (oi:=Oper.mk _ _ _ _ _ _) (v:=undef) rfl rfl (by kernel_rfl) (by kernel_rfl) (by kernel_rfl) (fun _ _ _ h=>h) ⟨Or.inr ⟨by rfl,rfl⟩,fun _=>rfl⟩ ?_
   try simp only [sZ]
   refine wpAnyIn_take (i:=9) (oi:=Oper.mk _ _ _ _ _ _) (v:=undef) rfl rfl (by kernel_rfl) (by kernel_rfl) (by kernel_rfl) (fun _ _ _ h=>h) ⟨Or.inr ⟨by rfl,rfl⟩,fun _=>rfl⟩ ?_
   try simp only [sZ]
   refine wpAnyIn_take (i:=10) (oi:=Oper.mk _ _ _ _ _ _) (v:=undef) rfl rfl (by kernel_rfl) (by kernel_rfl) (by kernel_rfl) (fun _ _ _ h=>h) ⟨Or.inr ⟨by rfl,rfl⟩,fun _=>rfl⟩ ?_
   try simp only [sZ]
   refine wpAnyIn_take (i:=11) (oi:=Oper.mk _ _ _ _ _ _) (v:=undef) rfl rfl (by kernel_rfl) (by kernel_rfl) (by kernel_rfl) (fun _ _ _ h=>h) ⟨Or.inr ⟨by rfl,rfl⟩,fun _=>rfl⟩ ?_
   try simp only [sZ]
   refine wpAnyIn_take (i:=12) (oi:=Oper.mk _ _ _ _ _ _) (v:=undef) rfl rfl (by kernel_rfl) (by kernel_rfl) (by kernel_rfl) (fun _ _ _ h=>h) ⟨Or.inr ⟨by rfl,rfl⟩,fun _=>rfl⟩ ?_
   try simp only [sZ]
   refine wpAnyIn_take (i:=13) (oi:=Oper.mk _ _ _ _ _ _) (v:=undef) rfl rfl (by kernel_rfl) (by kernel_rfl) (by kernel_rfl) (fun _ _ _ h=>h) ⟨Or.inr ⟨by rfl,rfl⟩,fun _=>rfl⟩ ?_
   try simp only [sZ]
   refine wpAnyIn_take (i:=14) (oi:=Oper.mk _ _ _ _ _ _) (v:=undef) rfl rfl (by kernel_rfl) (by kernel_rfl) (by kernel_rfl) (fun _ _ _ h=>h) ⟨Or.inr ⟨by rfl,rfl⟩,fun _=>rfl⟩ ?_
   try simp only [sZ]
   refine wpAnyIn_take (i:=15) (oi:=Oper.mk _ _ _ _ _ _) (v:=undef) rfl rfl (by kernel_rfl) (by kernel_rfl) (by kernel_rfl) (fun _ _ _ h=>h) ⟨Or.inr ⟨by rfl,rfl⟩,fun _=>rfl⟩ ?_
   try simp only [sZ]
   refine wpAnyIn_take (i:=16) (oi:=Oper.mk _ _ _ _ _ _) (v:=undef) rfl rfl (by kernel_rfl) (by kernel_rfl) (by kernel_rfl) (fun _ _ _ h=>h) ⟨Or.inr ⟨by rfl,rfl⟩,fun _=>rfl⟩ ?_
   try simp only [sZ]
   refine wpAnyIn_take (i:=17) (oi:=Oper.mk _ _ _ _ _ _) (v:=?vq3) rfl rfl (by kernel_rfl) (by kernel_rfl) (by kernel_rfl) (fun _ _ _ h=>h) ⟨Or.inl ⟨by rfl,?hyq3⟩,fun _=>rfl⟩ ?restq3
   case hyq3=>(intro w;go_simp);try with_reducible rfl
   try simp only [sZ]
   refine wpAnyIn_done (by kernel_rfl) ?_ _
   gi_wp2
   go_end0
   exact⟨⟨_,rfl⟩,.inl (by rw [HX2.out];exact hJd)⟩
end Go.Proofs.YtpeckljoannolaaGreatDoor
namespace Go.Proofs.YtpeckljoannolaaGreatDoor
open Go.RowKit Go.Shelf
attribute [local go_sem] Oper.semAt_some
def Om.atB (t:Ht) (n:Int) (x:Int):Bool:=decide (0<=n)&&decide (n < t.ats.length)&&decide (Hn.a t n.toNat=x)
theorem mIsAt (t:Ht) (A:HAds) (n x:Int) (w:World) (h:HHeld w t A) :
  Calls Tryz.prog 86 #[hv t A,.int .i64 n,.int .i64 x] w fun e w'=>e=.returned (.bool (Om.atB t n x))/\Below w.heap.size w w':=by
 have BB:=aq (fun o=>(Below.refl w.heap.size w).alloc (Nat.le_refl _) o)
 by_cases h0:0<=n
 ·have k0:decide (n ≥ 0)=true:=by simpa using h0
  by_cases h1:n < (t.ats.length:Int)
  ·obtain⟨m,rfl⟩:∃ m:Nat,n=m:=⟨n.toNat,by omega⟩
   obtain⟨b1,o1,hA1,_,c1⟩:=(h.below (BB.out (.cells (hCells t A) 31))).ats.cell (i:=m) (by omega);replace c1:(w.alloc (.cells (hCells t A) 31)).cell? ⟨b1,o1+m,none⟩=some (.int .i64 (Hn.a t m)):=c1;have E:=aq (show Om.atB t m x=(Hn.a t m==x) by unfold Om.atB;rw [decide_eq_true h0,decide_eq_true h1,Int.toNat_natCast];rfl);obtain⟨y,hy⟩:∃ y,Hn.a t m=y:=⟨_,rfl⟩;rw [hy] at c1 E;have h3:=h1;clear hy h0 h;unfold hCells at c1;unfold hv;rw [hA1] at c1 ⊢;clear hA1
   cases hq:(y==x)
   all_goals
    have E2:=aq (E.out.trans hq)
    go_enter Tryz.func86,Tryz.ntmps86
    go_wp2;go_ret;rw [E2.out];exact⟨rfl,BB.out _⟩
  ·have E:=aq (show Om.atB t n x=false by unfold Om.atB;rw [decide_eq_false h1];simp)
   have k1:decide (n < (t.ats.length:Int))=false:=decide_eq_false h1;clear h0 h1 h;unfold hv
   go_enter Tryz.func86,Tryz.ntmps86
   go_wp2;go_ret;rw [E.out];exact⟨rfl,BB.out _⟩
 ·have E:=aq (show Om.atB t n x=false by unfold Om.atB;rw [decide_eq_false h0];simp)
  have k0:decide (n ≥ 0)=false:=by simpa using h0
  clear h0 h;unfold hv
  go_enter Tryz.func86,Tryz.ntmps86
  go_wp2;go_ret;rw [E.out];exact⟨rfl,BB.out _⟩
theorem Om.fine_at (s:Sl) (t:Ht) (i:Nat):Om.fineB s t i=(decide ((s.pairAt i).2=0)&&Om.atB t (s.pairAt i).1 i):=by
 unfold Om.fineB Om.atB Om.key Sl.pairAt
 simp only [Bool.and_assoc]
def Om.allB (o:Od) (live:Int):Bool:=(Om.pl o.sl).all (Om.fineB o.sl o.tb)&&decide (((Om.pl o.sl).length:Int)=live)
theorem OBox.over {A B:World} {b:Nat} {o:Od} {a:Ads} {H:HAds} (h:OBox A b o a H) (ho:Over A B):OBox B b o a H:=by
 obtain⟨T,h⟩:=h;exact⟨T,ho.cells _ _ h rfl⟩
structure AplI (o:Od) (a:Ads) (A:HAds) (w:World) (base b2 b3:Nat) (pre:List Nat) (W:World):Prop where
 below:Below w.heap.size w W
 size:base<=W.heap.size
 res:Boxed W b2 4 (.bool false)
 cnt:Boxed W b3 3 (.int .i64 pre.length)
 box:OBox W w.heap.size o a A
 fine:pre.all (Om.fineB o.sl o.tb)=true
theorem aplI_own (o:Od) (a:Ads) (AA:HAds) (w:World) (base b2 b3 m:Nat) (hn:w.heap.size<=m):OwnFrom m (AplI o a AA w base b2 b3):=fun pre A B row hs hg hr =>
 have ho:=Over.of_grown hg hr
 ⟨ownFrom_below (β:=Unit) (Nat.le_refl _) hn () A B row hs.below hg hr,Nat.le_trans hs.size ho.size,ho.boxed hs.res,ho.boxed hs.cnt,hs.box.over ho,hs.fine⟩
structure AplX (o:Od) (w:World) (base b2:Nat) (c:Code) (pre:List Nat) (W:World):Prop where
 code:c=.ret
 below:Below w.heap.size w W
 size:base<=W.heap.size
 res:Boxed W b2 4 (.bool false)
 bad:pre.all (Om.fineB o.sl o.tb)=false
theorem aplX_own (o:Od) (w:World) (base b2 m:Nat) (hn:w.heap.size<=m) (c:Code):OwnFrom m (AplX o w base b2 c):=fun pre A B row hs hg hr =>
 have ho:=Over.of_grown hg hr
 ⟨hs.code,ownFrom_below (β:=Unit) (Nat.le_refl _) hn () A B row hs.below hg hr,Nat.le_trans hs.size ho.size,ho.boxed hs.res,hs.bad⟩
theorem Om.all_some {o:Od} {pre:List Nat} (hp:pre <+: Om.pl o.sl) (h3:pre.all (Om.fineB o.sl o.tb)=false) (live:Int):Om.allB o live=false:=by
 have:(Om.pl o.sl).all (Om.fineB o.sl o.tb)=false:=by
  obtain⟨r,hr⟩:=hp;rw [<-hr,List.all_append,h3]
  rfl
 unfold Om.allB;rw [this]
 rfl
theorem zokM_of {w W:World} {s:Sl} {a:Ads} {b n:Nat} (h:Held w s a) (hT:Tab w) (h1:n<=b) (h2:b < W.heap.size):ZokM (fun k=>k < w.heap.size∨(n<=k/\k < W.heap.size)) s a b :=
 ⟨Or.inr ⟨h1,h2⟩,fun hz p hp=>Or.inl (lst_ltH h.words hz p hp),fun hz p hp=>Or.inl (lst_ltH h.keys hz p hp),fun hz p hp=>Or.inl (lst_ltH h.vals hz p hp),fun hz p hp=>Or.inl (lst_ltH h.counts hz p hp),Or.inl hT.1⟩
theorem pair_box {W W':World} {x y:Int} {T:TypeId} (hov:Over (W.alloc (.cells #[.int .i64 x,.int .i64 y] T)) W'):PBox W' W.heap.size (x,y) :=
 PBox.of_block (p:=(x,y)) (t:=T) (hov.cells _ _ (World.alloc_heap_new W _) rfl)
theorem keeps_of_belowM {w w':World} (h:Below w.heap.size w w'):KeepsOthers w w':=⟨h.size,fun k o hk _=>(h.block k (Array.getElem?_eq_some_iff.1 hk).1).trans hk⟩
theorem mAllPlaced (o:Od) (a:Ads) (A:HAds) (live:Int) (w:World) (h:OHeld w o a A) (hin:o.In) (hm:o.sl.May) (hT:Tab w) :
  Calls Tryz.prog 48 #[odv o a A,.int .i64 live] w fun e w'=>e=.returned (.bool (Om.allB o live))/\Below w.heap.size w w':=by
 have HH:=aq h;have HT:=aq hT;have HM:=aq hm;have OK:=aq hin.ok.sl;have SH:=aq hin.short.sl;have HX:=aq (fun x=>(OBox.new w o a A 33).below ((Below.refl _ _).alloc (Nat.le_refl _) x));have BB:=aq (fun x y=>((Below.refl w.heap.size w).alloc (Nat.le_refl _) x).alloc (by simp) y);have CP:=aq (fun V=>mPairs o.sl a V);have CI:=aq (fun n x V (hb:Below w.heap.size w V)=>mIsAt o.tb A n x V (h.tb.below hb))
 have P16:(Om.pl o.sl).length<=65536:=by
  have h1:=Oc.places_length_le o.sl.words 0 o.sl.keys.length;have h2:(Om.pl o.sl).length=(Oc.places o.sl.words 0 o.sl.keys.length).length:=rfl;have h3:=hin.short.sl.keys
  omega
 clear h hin hm hT;unfold slv at CP;unfold hv at CI;unfold odv;refine calls_marks Tryz.func48 rfl ?_
 simp only [Tryz.ntmps48,List.size_toArray,List.length_cons,List.length_nil,Nat.reduceAdd,Nat.reduceSub,Array.replicate_succ,Array.replicate_zero,List.push_toArray,List.append_toArray,List.nil_append,List.cons_append]
 go_upto_region 1 with (fail)
 obtain⟨W0,hW0⟩:∃ W0,W0=(w.alloc (.cells (odCells o a A) 33)).alloc (.cells #[.bool false] 4):=⟨_,rfl⟩;have BX:=aq (show OBox W0 w.heap.size o a A by rw [hW0];exact HX.out _)
 have r0:Boxed W0 (w.heap.size+1) 4 (.bool false):=by
  rw [hW0];have:=Boxed.new (w.alloc (.cells (odCells o a A) 33)) 4 (.bool false);rw [World.size_alloc] at this;exact this
 have B0:Below w.heap.size w W0:=by rw [hW0];exact BB.out _ _
 rw [<-hW0];clear hW0 HX BB
 go_upto_region 2 with (fail)
 obtain⟨W1,hW1⟩:∃ W1,W1=W0.alloc (.cells #[.int .i64 0] 3):=⟨_,rfl⟩
 have hb1:Below W0.heap.size W0 W1:=by rw [hW1];exact (Below.refl _ _).alloc (Nat.le_refl _) _
 have n1:Boxed W1 W0.heap.size 3 (.int .i64 0):=by rw [hW1];exact Boxed.new _ _ _
 rw [<-hW1];clear hW1;replace BX:=aq (BX.out.below hb1);have r1:=boxed_low r0 r0.lt hb1;have B1:=B0.trans (hb1.mono B0.size);have z1:=hb1.size;have rl:=r0.lt;clear hb1 r0 B0;obtain⟨c0,c1,c2,c3,c4,c5,c6,c7,c8,c9,c10,c11,c12,c13,c14,c15,c16,c17⟩:=BX.out.cells
 go_wp2_with fail
 refine (CP.out _).mono ?_;rintro e W5 ⟨b,rfl,hB,hb1,hb⟩;have B5:=aq (B1.trans (hb.mono B1.size));have R5:=aq (boxed_low r1 r1.lt hb);have N5:=aq (boxed_low n1 n1.lt hb);replace BX:=aq (BX.out.below hb);have HB:=aq hB;have H5:=aq (HH.out.below B5.out);have nl:=n1.lt;have z5:=hb.size;have zb:=hB.lt;have z8:=B1.size;clear hB hb r1 n1 B1 CP c0 c1 c2 c3 c4 c5 c6 c7 c8 c9 c10 c11 c12 c13 c14 c15 c16 c17
 go_wp2_with fail
 refine wp_rangeQ (enc:=mEnc o.sl) (fun _=>rfl) (gf:=89) (lb:=#[.pointer (some ⟨b,0,none⟩)]) rfl (enters_of Tryz.func89 (by kernel_rfl) rfl)
  (mPairs_seq _ o.sl a b W5 ⟨HB.out,H5.out.sl,HT.out.below B5.out⟩ (zokM_of HH.out.sl HT.out hb1 zb) (fun k hk=>by rcases hk with hk | hk<;>omega) HM.out OK.out SH.out) (fun k hk=>by rcases hk with hk | hk<;>omega)
  (AplI o a A w W5.heap.size (w.heap.size+1) W0.heap.size) (AplX o w W5.heap.size (w.heap.size+1)) (aplI_own _ _ _ _ _ _ _ _ (by have:=B5.out.size;omega)) (fun c=>aplX_own _ _ _ _ _ (by have:=B5.out.size;omega) c)
  ⟨B5.out,Nat.le_refl _,R5.out,N5.out,BX.out,rfl⟩
  (fun W x=>{ tmps:=#[.agg (odCells o a A),.int .i64 live,.pointer (some ⟨w.heap.size,0,none⟩),undef,.pointer (some ⟨w.heap.size+1,0,none⟩),.pointer (some ⟨W0.heap.size,0,none⟩),.int .i64 (x:Int),.pointer (some ⟨W.heap.size,0,none⟩),.pointer (some ⟨w.heap.size,9,none⟩),.agg #[.int .i64 o.sl.seg,.slice a.w o.sl.words.length a.cw,.slice a.k o.sl.keys.length a.ck,.slice a.v o.sl.vals.length a.cv,.slice a.c o.sl.counts.length a.cc,.int .u64 (o.sl.laid:Int)],.func (Fn.func 89) #[] #[.pointer (some ⟨b,0,none⟩)],.int .i64 (x:Int),.agg #[.int .i64 (o.sl.pairAt x).1,.int .i64 (o.sl.pairAt x).2],undef,undef,undef,undef,undef,undef,undef,undef,undef,undef,undef,undef,undef,undef,undef,undef,undef],defers:=[] }) (fun W x=>W.alloc (.cells #[.int .i64 (o.sl.pairAt x).1,.int .i64 (o.sl.pairAt x).2] 93)) (fun W x=>(Below.refl _ _).alloc (Nat.le_refl _) _) ?assign ?body ?done ?stop
 case assign =>
  intro l x W K hK;unfold mEnc
  gi_wp2
  exact hK
 case body =>
  rintro l pre x W W' hI hpre hov hsz;have HI:=aq hI;have PB:=aq (pair_box hov);have r0:=hI.res.cell;have r1:=hI.res.frozen;have q0:=PB.out.c0;have q1:=PB.out.c1;have n0:=hI.cnt.cell;have n1:=hI.cnt.frozen;have c15:=hI.box.cells.c15;have c16:=hI.box.cells.c16;have sz':W5.heap.size<=W'.heap.size:=hI.size
  have hp16:pre.length<=65535:=by
   have h9:=hpre.length_le
   simp only [List.length_append,List.length_cons,List.length_nil] at h9
   omega
  have HF:=aq (Om.fine_at o.sl o.tb x)
  dsimp only at q0 q1
  obtain⟨⟨y,v⟩,hz⟩:∃ z,o.sl.pairAt x=z:=⟨_,rfl⟩;rw [hz] at q0 q1 HF ⊢
  dsimp only at q0 q1 HF ⊢
  clear hI hpre hov hsz hz
  by_cases hv0:v=0
  ·have k0:(v != 0)=false:=by simpa using hv0
   have HV:=aq hv0;clear hv0
   gi_wp2
   refine⟨trivial,?_⟩;refine (callsIn_wide.2 (CI.out _ _ _ HI.out.below)).mono ?_;rintro e W2 ⟨rfl,hb⟩;have hb2:=aq hb;have HR2:=aq (boxed_low HI.out.res HI.out.res.lt hb);have HN2:=aq (boxed_low HI.out.cnt HI.out.cnt.lt hb);have HB2:=aq (HI.out.box.below hb);have sz2:=hb.size;clear hb r0 r1 q0 q1 n0 n1 c15 c16 PB CI;have r0:=HR2.out.cell;have r1:=HR2.out.frozen;have n0:=HN2.out.cell;have n1:=HN2.out.frozen
   cases hf:Om.atB o.tb y x
   ·have E:=aq (show Om.fineB o.sl o.tb x=false by rw [HF.out,hf,Bool.and_false])
    clear hf
    gi_wp2
    exact⟨(keeps_of_belowM hb2.out).trans (KeepsOthers.setCell _ _ _),rfl,(HI.out.below.trans (hb2.out.mono HI.out.below.size)).setCell (by simp) _,by rw [World.size_setCell];omega,HR2.out.set _,by rw [List.all_append];simp [E.out]⟩
   ·have E:=aq (show Om.fineB o.sl o.tb x=true by rw [HF.out,hf,HV.out];rfl)
    clear hf
    gi_wp2
    refine⟨(keeps_of_belowM hb2.out).trans (KeepsOthers.setCell _ _ _),(Kept.of_below hb2.out (fun k hk=>by rcases hk with hk | hk<;>omega)).setCell (by simp;omega) _,(HI.out.below.trans (hb2.out.mono HI.out.below.size)).setCell (by simp;omega) _,by rw [World.size_setCell];omega,HR2.out.other (by omega) _,?_,HB2.out.other (by simp;omega) _,by rw [List.all_append,HI.out.fine];simp [E.out]⟩
    rw [show (((pre++[x]).length:Nat):Int)=(pre.length:Int)+1 by simp];exact HN2.out.set _
  ·have k0:(v != 0)=true:=by simpa using hv0
   have E:=aq (show Om.fineB o.sl o.tb x=false by rw [HF.out,decide_eq_false hv0,Bool.false_and]);clear hv0
   gi_wp2
   refine⟨trivial,?_⟩
   gi_wp2
   exact⟨KeepsOthers.setCell _ _ _,rfl,HI.out.below.setCell (by simp) _,by rw [World.size_setCell];omega,HI.out.res.set _,by rw [List.all_append];simp [E.out]⟩
 case done =>
  rintro D W hD hI hKD;have HI:=aq hI.below;have HR:=aq hI.res;have HF:=aq (show Om.allB o live=(((Om.pl o.sl).length:Int)==live) by unfold Om.allB;rw [hI.fine];rfl);have zs:=hI.size;have hKD2:=aq hKD;have hDlt:D < W.heap.size:=(Array.getElem?_eq_some_iff.1 hKD).1;have d0:=hI.res.cell;have d1:=hI.res.frozen;have n0:=hI.cnt.cell;have z9:=B5.out.size;clear hI hKD;obtain⟨P,hP⟩:∃ P:Nat,(Om.pl o.sl).length=P:=⟨_,rfl⟩;rw [hP] at HF n0;clear hP P16
  cases hq:((P:Int)==live)
  all_goals
   have E:=aq (HF.out.trans hq);go_wp2;have hKD3:(W.setCell ⟨w.heap.size+1,0,none⟩ (.bool ((P:Int)==live))).heap[D]?=some (.deferred (some [])):=(Below.heap_setCell W ⟨w.heap.size+1,0,none⟩ _ D (by show D≠w.heap.size+1;omega)).trans hKD2.out;rw [hq] at hKD3;refine leaves_one hKD3 ?_;have ov:=Over.of_grown (n:=0) (grownBy_putObj' _ D (.deferred none)) (fun r e=>by cases e;exact⟨Nat.zero_le _,_,hKD3,rfl⟩);have c9:=(ov.boxed (HR.out.set _)).cell;refine⟨_,by simp [results,Tryz.results48,go_sem,c9];rfl,by rw [E.out],?_⟩;exact (HI.out.setCell (p:=⟨w.heap.size+1,0,none⟩) (by simp) _).trans ((Below.refl _ _).grown (grownBy_putObj' _ D _) (by rw [World.size_setCell];omega) (fun k e=>by cases e;omega))
 case stop =>
  rintro D c pre W hD hSp hF hKD;obtain⟨rfl,hbelow,hsize,hres,hbad⟩:=hF;have HI:=aq hbelow;have HR:=aq hres;have E:=aq (Om.all_some hSp hbad live);have hKD2:=aq hKD;have hDlt:D < W.heap.size:=(Array.getElem?_eq_some_iff.1 hKD).1;have z9:=B5.out.size;clear hbelow hres hbad hKD hSp;go_wp2;refine leaves_one hKD2.out ?_;have ov:=Over.of_grown (n:=0) (grownBy_putObj' W D (.deferred none)) (fun r e=>by cases e;exact⟨Nat.zero_le _,_,hKD2.out,rfl⟩);have c9:=(ov.boxed HR.out).cell;refine⟨.bool false,by simp [results,Tryz.results48,go_sem,c9],by rw [E.out],?_⟩;exact HI.out.trans ((Below.refl _ _).grown (grownBy_putObj' _ D _) (by omega) (fun k e=>by cases e;omega))
end Go.Proofs.YtpeckljoannolaaGreatDoor
namespace Go.Proofs.YtpeckljoannolaaGreatDoor
open Go.RowKit
theorem Om.gap_may {c:Cf} {s:Sl} (h:Gp.chkE c s=0):s.May:=by
 obtain⟨H,O⟩:=Gp.own_of h;exact O.may
theorem Om.chk_all {o:Od} (hg:Gp.chkE o.cf o.sl=0) (hm:Hn.May o.tb):Om.chkE o=if Om.allB o ((Hn.live o.tb.ats:Nat):Int)=true then 0 else 8:=by
 unfold Om.chkE;rw [if_pos hg]
 have e:Om.linkB o.sl o.tb=Om.allB o ((Hn.live o.tb.ats:Nat):Int):=by
  unfold Om.linkB Om.allB;rw [Bool.and_comm]
  congr 1
  exact decide_eq_decide.2 ⟨fun h=>by omega,fun h=>by omega⟩
 rw [e]
 by_cases h:Om.allB o ((Hn.live o.tb.ats:Nat):Int)=true
 ·rw [if_pos ⟨(Hn.may_iff _).2 hm,h⟩,if_pos h]
 ·rw [if_neg (fun q=>h q.2),if_neg h]
theorem Om.chk_notmay {o:Od} (hg:Gp.chkE o.cf o.sl=0) (hm:¬ Hn.chkE o.tb=0):Om.chkE o=8:=by
 unfold Om.chkE;rw [if_pos hg,if_neg (fun q=>hm (Hn.chk_may.2 ((Hn.may_iff _).1 q.1)))]
theorem mCheck (o:Od) (a:Ads) (A:HAds) (w:World) (h:OHeld w o a A) (hin:o.In) (hT:Tab w) :
  Calls Tryz.prog 18 #[odv o a A] w fun e w'=>e=.returned (.int .i64 (Om.chkE o))/\Below w.heap.size w w':=by
 have HX:=aq (OBox.new w o a A 33);have BB:=aq (fun o=>(Below.refl w.heap.size w).alloc (Nat.le_refl _) o);have CG:=aq (fun V (hb:Below w.heap.size w V)=>gCheck o.cf o.sl a V hin.cf (h.below hb).sl hin.ok.sl hin.short.sl (hT.below hb));have CL:=aq (fun V (hb:Below w.heap.size w V)=>hLive o.tb A V (h.below hb).tb hin.ok.tb hin.short.tb);have CA:=aq (fun V (hb:Below w.heap.size w V) hm=>mAllPlaced o a A ((Hn.live o.tb.ats:Nat):Int) V (h.below hb) hin hm (hT.below hb));clear h hin hT;unfold cfv slv at CG;unfold hv at CL;unfold odv at CA ⊢
 go_enter Tryz.func18,Tryz.ntmps18
 go_upto_region 1 with (fail)
 obtain⟨W0,hW0⟩:∃ W0,W0=w.alloc (.cells (odCells o a A) 33):=⟨_,rfl⟩;have BX:=aq (show OBox W0 w.heap.size o a A by rw [hW0];exact HX.out);have B0:=aq (show Below w.heap.size w W0 by rw [hW0];exact BB.out _);rw [<-hW0];clear hW0 HX BB;have c0:=BX.out.cells.c0;have c1:=BX.out.cells.c1;have c2:=BX.out.cells.c2;have c3:=BX.out.cells.c3;have c4:=BX.out.cells.c4;have c5:=BX.out.cells.c5;have c6:=BX.out.cells.c6;have c7:=BX.out.cells.c7;have c8:=BX.out.cells.c8;have c9:=BX.out.cells.c9;have c10:=BX.out.cells.c10;have c11:=BX.out.cells.c11;have c12:=BX.out.cells.c12;have c13:=BX.out.cells.c13;have c14:=BX.out.cells.c14
 go_wp2_with fail
 refine (CG.out W0 B0.out).mono ?_;rintro e w1 ⟨rfl,hb⟩;replace BX:=aq (BX.out.below hb);replace B0:=aq (B0.out.trans (hb.mono B0.out.size));clear hb CG;clear c0 c1 c2 c3 c4 c5 c6 c7 c8 c9 c10 c11 c12 c13 c14
 by_cases hg:Gp.chkE o.cf o.sl=0
 ·have k1:(Gp.chkE o.cf o.sl != 0)=false:=by simpa using hg
  have HG:=aq hg;clear hg;have c15:=BX.out.cells.c15;have c16:=BX.out.cells.c16
  go_wp2_with fail
  refine (CL.out w1 B0.out).mono ?_;rintro e w2 ⟨rfl,hb⟩;replace BX:=aq (BX.out.below hb);replace B0:=aq (B0.out.trans (hb.mono B0.out.size));clear hb CL c15 c16 k1
  by_cases hm:Hn.chkE o.tb=0
  ·have k2:(Hn.chkE o.tb != 0)=false:=by simpa using hm
   have HM:=aq (Hn.chk_may.1 hm);have LV:=aq (show Hn.liveV o.tb=((Hn.live o.tb.ats:Nat):Int) by unfold Hn.liveV;rw [if_pos hm]);have EC:=aq (Om.chk_all HG.out HM.out);have GM:=aq (Om.gap_may HG.out);rw [LV.out];clear hm LV;obtain⟨L,hL⟩:∃ L:Int,((Hn.live o.tb.ats:Nat):Int)=L:=⟨_,rfl⟩;rw [hL] at CA EC ⊢;clear hL
   go_wp2_with (refine wpList_load_odg (by rfl) _ rfl _ rfl BX.out ?_)
   refine (CA.out w2 B0.out GM.out).mono ?_;rintro e w3 ⟨rfl,hb⟩;replace BX:=aq (BX.out.below hb);replace B0:=aq (B0.out.trans (hb.mono B0.out.size));clear hb CA
   cases hq:Om.allB o L
   ·have E:=aq (show Om.chkE o=8 by rw [EC.out,hq,if_neg (by simp)])
    go_wp2;go_ret;rw [E.out];exact⟨rfl,B0.out⟩
   ·have E:=aq (show Om.chkE o=0 by rw [EC.out,hq,if_pos rfl])
    go_wp2;go_ret;rw [E.out];exact⟨rfl,B0.out⟩
  ·have k2:(Hn.chkE o.tb != 0)=true:=by simpa using hm
   have E:=aq (Om.chk_notmay HG.out hm);clear hm CA;go_wp2;go_ret;rw [E.out];exact⟨rfl,B0.out⟩
 ·have k1:(Gp.chkE o.cf o.sl != 0)=true:=by simpa using hg
  have E:=aq (show Om.chkE o=Gp.chkE o.cf o.sl by unfold Om.chkE;rw [if_neg hg]);clear hg CL CA;go_wp2;go_ret;rw [E.out];exact⟨rfl,B0.out⟩
theorem mLabel (o:Od) (a:Ads) (A:HAds) (h:Int×Int) (w:World) (hh:OHeld w o a A) (hin:o.In) (hT:Tab w) (h1:In64 h.1) (h2:In64 h.2) :
  Calls Tryz.prog 15 #[odv o a A,pv h] w fun e w'=>e=.returned (.tuple #[.int .i64 (Om.labV o h),.int .i64 (Om.labE o h)])/\Below w.heap.size w w':=by
 have HX:=aq (fun x=>(OBox.new w o a A 33).below ((Below.refl _ _).alloc (Nat.le_refl _) x));have HP:=aq (fun x=>PBox.new (w.alloc x) h 39);have BB:=aq (fun x y=>((Below.refl w.heap.size w).alloc (Nat.le_refl _) x).alloc (by simp) y);have CC:=aq (fun V (hb:Below w.heap.size w V)=>mCheck o a A V (hh.below hb) hin (hT.below hb));have CF:=aq (fun V (hb:Below w.heap.size w V)=>hFind o.tb A h V (hh.below hb).tb hin.ok.tb hin.short.tb h1 h2);clear hh hin hT h1 h2;unfold odv at CC;unfold hv pv at CF;unfold odv pv
 go_enter Tryz.func15,Tryz.ntmps15
 go_upto_region 1 with (fail)
 obtain⟨W0,hW0⟩:∃ W0,W0=(w.alloc (.cells (odCells o a A) 33)).alloc (.cells #[.int .i64 h.1,.int .i64 h.2] 39):=⟨_,rfl⟩;have BX:=aq (show OBox W0 w.heap.size o a A by rw [hW0];exact HX.out _);have BP:=aq (show PBox W0 (w.heap.size+1) h by rw [hW0];have:=HP.out (.cells (odCells o a A) 33);rw [World.size_alloc] at this;exact this);have B0:=aq (show Below w.heap.size w W0 by rw [hW0];exact BB.out _ _);rw [<-hW0];clear hW0 HX HP BB
 go_wp2_with (refine wpList_load_od rfl _ rfl _ rfl BX.out ?_)
 refine (CC.out W0 B0.out).mono ?_;rintro e w1 ⟨rfl,hb⟩;replace BX:=aq (BX.out.below hb);replace BP:=aq (BP.out.below hb);replace B0:=aq (B0.out.trans (hb.mono B0.out.size));clear hb CC
 by_cases hc:Om.chkE o=0
 ·have k1:(Om.chkE o != 0)=false:=by simpa using hc
  have LF:=aq (Om.lab_find (Om.chk_fit.1 hc) h);clear hc;have c15:=BX.out.cells.c15;have c16:=BX.out.cells.c16;obtain⟨_,r0,r1,_,_⟩:=BP.out
  go_wp2_with fail
  refine (CF.out w1 B0.out).mono ?_;rintro e w2 ⟨rfl,hb⟩;replace BX:=aq (BX.out.below hb);replace B0:=aq (B0.out.trans (hb.mono B0.out.size));clear hb CF c15 c16 r0 r1 k1;go_wp2;go_ret2;rw [LF.out.1,LF.out.2];exact⟨rfl,B0.out⟩
 ·have k1:(Om.chkE o != 0)=true:=by simpa using hc
  have LB:=aq (Om.lab_bad hc h);clear hc CF;go_wp2;go_ret2;rw [LB.out.1,LB.out.2];exact⟨rfl,B0.out⟩
theorem nIsNaN (x:Int) (w:World):Calls Tryz.prog 77 #[.int .i64 x] w fun e w'=>e=.returned (.bool false)/\Below w.heap.size w w':=by
 have k1:(x != x)=false:=by simp
 go_enter Tryz.func77,Tryz.ntmps77
 go_wp2;go_ret;exact⟨rfl,Below.refl _ _⟩
def cmpI (x y:Int):Int:=if x < y then -1 else if y < x then 1 else 0
theorem nCompare (x y:Int) (w:World):Calls Tryz.prog 42 #[.int .i64 x,.int .i64 y] w fun e w'=>e=.returned (.int .i64 (cmpI x y))/\Below w.heap.size w w':=by
 have CX:=aq (fun V=>nIsNaN x V);have CY:=aq (fun V=>nIsNaN y V)
 go_enter Tryz.func42,Tryz.ntmps42
 go_wp2_with fail
 refine (CX.out _).mono ?_;rintro e w1 ⟨rfl,hb⟩;have B1:=aq hb;clear hb
 go_wp2_with fail
 refine (CY.out _).mono ?_;rintro e w2 ⟨rfl,hb⟩;have B2:=aq (B1.out.trans (hb.mono B1.out.size));clear hb
 rcases Int.lt_trichotomy x y with h | h | h
 ·have k1:decide (x < y)=true:=decide_eq_true h
  have E:=aq (show cmpI x y=-1 by unfold cmpI;rw [if_pos h]);clear h;go_wp2;go_ret;rw [E.out];exact⟨rfl,B2.out⟩
 ·have k1:decide (x < y)=false:=decide_eq_false (by omega)
  have k2:decide (x > y)=false:=decide_eq_false (by omega);have E:=aq (show cmpI x y=0 by unfold cmpI;rw [if_neg (by omega),if_neg (by omega)]);clear h;go_wp2;go_ret;rw [E.out];exact⟨rfl,B2.out⟩
 ·have k1:decide (x < y)=false:=decide_eq_false (by omega)
  have k2:decide (x > y)=true:=decide_eq_true (by omega);have E:=aq (show cmpI x y=1 by unfold cmpI;rw [if_neg (by omega),if_pos h]);clear h;go_wp2;go_ret;rw [E.out];exact⟨rfl,B2.out⟩
theorem Om.cmp_first {o:Od} {h k:Int×Int} (e:¬ Om.labE o h=0):Om.cmpE o h k=Om.labE o h/\Om.cmpV o h k=0:=by
 by_cases hc:Om.chkE o=0
 ·obtain⟨e1,e2⟩:=Om.cmp_no (k:=k) hc (fun q=>e q.1)
  refine⟨?_,e2⟩;rw [e1];unfold Om.labE at e ⊢;rw [if_pos hc] at e ⊢
  cases h1:Om.inB o h
  ·rw [if_neg (by simp)]
  ·rw [h1,if_pos rfl] at e;exact absurd rfl e
 ·have ce:Om.cmpE o h k=Om.chkE o:=by unfold Om.cmpE;rw [if_neg hc]
  refine⟨by rw [ce];exact (Om.lab_bad hc h).1.symm,by unfold Om.cmpV;rw [ce,if_neg hc]⟩
theorem Om.cmp_second {o:Od} {h k:Int×Int} (e:Om.labE o h=0) (e2:¬ Om.labE o k=0):Om.cmpE o h k=Om.labE o k/\Om.cmpV o h k=0:=by
 have hc:=Om.chk_fit.2 (Om.lab_yes e).1;obtain⟨c1,c2⟩:=Om.cmp_no hc (fun q=>e2 q.2);refine⟨?_,c2⟩;rw [c1];unfold Om.labE at e2 ⊢;rw [if_pos hc] at e2 ⊢
 cases h1:Om.inB o k
 ·rw [if_neg (by simp)]
 ·rw [h1,if_pos rfl] at e2;exact absurd rfl e2
theorem mCompare (o:Od) (a:Ads) (A:HAds) (h k:Int×Int) (w:World) (hh:OHeld w o a A) (hin:o.In) (hT:Tab w) (h1:In64 h.1) (h2:In64 h.2) (g1:In64 k.1) (g2:In64 k.2) :
  Calls Tryz.prog 14 #[odv o a A,pv h,pv k] w fun e w'=>e=.returned (.tuple #[.int .i64 (Om.cmpV o h k),.int .i64 (Om.cmpE o h k)])/\Below w.heap.size w w':=by
 have HX:=aq (fun x y=>((OBox.new w o a A 33).below ((Below.refl _ _).alloc (Nat.le_refl _) x)).below ((Below.refl _ _).alloc (Nat.le_refl _) y));have HP:=aq (fun x y=>(PBox.new (w.alloc x) h 39).below ((Below.refl _ _).alloc (Nat.le_refl _) y));have HQ:=aq (fun x y=>PBox.new ((w.alloc x).alloc y) k 39);have BB:=aq (fun x y z=>(((Below.refl w.heap.size w).alloc (Nat.le_refl _) x).alloc (by simp) y).alloc (by simp;omega) z);have CL:=aq (fun V (hb:Below w.heap.size w V)=>mLabel o a A h V (hh.below hb) hin (hT.below hb) h1 h2);have CF:=aq (fun V (hb:Below w.heap.size w V)=>hFind o.tb A k V (hh.below hb).tb hin.ok.tb hin.short.tb g1 g2);have CM:=aq (fun x y V=>nCompare x y V);clear hh hin hT h1 h2 g1 g2;unfold odv pv at CL;unfold hv pv at CF;unfold odv pv
 go_enter Tryz.func14,Tryz.ntmps14
 go_upto_region 1 with (fail)
 obtain⟨W0,hW0⟩:∃ W0,W0=((w.alloc (.cells (odCells o a A) 33)).alloc (.cells #[.int .i64 h.1,.int .i64 h.2] 39)).alloc (.cells #[.int .i64 k.1,.int .i64 k.2] 39):=⟨_,rfl⟩;have BX:=aq (show OBox W0 w.heap.size o a A by rw [hW0];exact HX.out _ _);have BP:=aq (show PBox W0 (w.heap.size+1) h by rw [hW0];have:=HP.out (.cells (odCells o a A) 33) (.cells #[.int .i64 k.1,.int .i64 k.2] 39);rw [World.size_alloc] at this;exact this);have BQ:=aq (show PBox W0 (w.heap.size+1+1) k by rw [hW0];have:=HQ.out (.cells (odCells o a A) 33) (.cells #[.int .i64 h.1,.int .i64 h.2] 39);rw [World.size_alloc,World.size_alloc] at this;exact this);have B0:=aq (show Below w.heap.size w W0 by rw [hW0];exact BB.out _ _ _);rw [<-hW0];clear hW0 HX HP HQ BB;obtain⟨_,r0,r1,_,_⟩:=BP.out
 go_wp2_with (refine wpList_load_od rfl _ rfl _ rfl BX.out ?_)
 refine (CL.out W0 B0.out).mono ?_;rintro e w1 ⟨rfl,hb⟩;replace BX:=aq (BX.out.below hb);replace BQ:=aq (BQ.out.below hb);replace B0:=aq (B0.out.trans (hb.mono B0.out.size));clear hb CL r0 r1 BP
 by_cases hc:Om.labE o h=0
 ·have k1:(Om.labE o h != 0)=false:=by simpa using hc
  have LF:=aq (Om.lab_find (Om.lab_yes hc).1 k);have HC:=aq hc;rw [<-LF.out.1,<-LF.out.2] at CF;clear hc LF;have c15:=BX.out.cells.c15;have c16:=BX.out.cells.c16;obtain⟨_,r0,r1,_,_⟩:=BQ.out
  go_wp2_with fail
  refine (CF.out w1 B0.out).mono ?_;rintro e w2 ⟨rfl,hb⟩;replace BX:=aq (BX.out.below hb);replace B0:=aq (B0.out.trans (hb.mono B0.out.size));clear hb CF c15 c16 k1 r0 r1 BQ
  by_cases hd:Om.labE o k=0
  ·have k2:(Om.labE o k != 0)=false:=by simpa using hd
   have RC:=aq (show Om.cmpE o h k=0/\Om.cmpV o h k=cmpI (Om.labV o h) (Om.labV o k) from Om.cmp_lab HC.out hd);clear hd
   go_wp2_with fail
   refine (CM.out _ _ w2).mono ?_;rintro e w3 ⟨rfl,hb⟩;replace B0:=aq (B0.out.trans (hb.mono B0.out.size));clear hb CM;go_wp2;go_ret2;rw [RC.out.1,RC.out.2];exact⟨rfl,B0.out⟩
  ·have k2:(Om.labE o k != 0)=true:=by simpa using hd
   have RC:=aq (Om.cmp_second HC.out hd);clear hd CM;go_wp2;go_ret2;rw [RC.out.1,RC.out.2];exact⟨rfl,B0.out⟩
 ·have k1:(Om.labE o h != 0)=true:=by simpa using hc
  have RC:=aq (Om.cmp_first (k:=k) hc);clear hc CF CM;go_wp2;go_ret2;rw [RC.out.1,RC.out.2];exact⟨rfl,B0.out⟩
end Go.Proofs.YtpeckljoannolaaGreatDoor

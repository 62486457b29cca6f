/- What package slots' small functions, its range and countsRight return. -/
import Derived.Test.YtpeckljoannolaaGreatDoorM10Ot
import Derived.Test.YtpeckljoannolaaGreatDoorM01Ot
import Derived.Test.YtpeckljoannolaaGreatDoorM11Ot
import Derived.StillTailTactics
import Derived.Deep.DeepCutAuto
import Derived.Deep.QuietTactic
import Derived.BigQuiet
import Derived.Test.YtpeckljoannolaaGreatDoorTkOt
set_option linter.unusedVariables false
set_option linter.unusedSimpArgs false
set_option maxHeartbeats 2000000
set_option maxRecDepth 100000
namespace Go.Proofs.YtpeckljoannolaaGreatDoor
open Go.RowKit
theorem sPower (n:Int) (w:World) (h2:n<=9223372036854775807):Calls Tryz.prog 162 #[.int .i64 n] w fun e w'=>e=.returned (.bool (Fr.powB n))/\w=w':=by
 by_cases hn:n < 1
 ·have H:=aq (Fr.powB_not (n:=n) (by omega))
  go_enter Tryz.func162,Tryz.ntmps162
  go_wp2;go_ret;rw [H.out];exact⟨rfl,rfl⟩
 ·have H:=aq (Fr.powB_and n (by omega) h2)
  go_enter Tryz.func162,Tryz.ntmps162
  go_wp2;go_ret;rw [H.out];exact⟨rfl,rfl⟩
theorem tdiv_small {m s:Int} (h1:m < 1) (h2:4<=s):m.tdiv s<=0:=by
 obtain⟨k,rfl⟩:∃ k:Nat,m=-(k:Int):=⟨(-m).toNat,by omega⟩;rw [Int.neg_tdiv];have:0<=(k:Int).tdiv s:=Int.tdiv_nonneg (by omega) (by omega)
 omega
theorem tdiv_low {m s:Int} (h0:-9223372036854775808<=m) (h1:m < 1) (h2:4<=s):-9223372036854775808<=m.tdiv s:=by
 obtain⟨k,rfl⟩:∃ k:Nat,m=-(k:Int):=⟨(-m).toNat,by omega⟩;rw [Int.neg_tdiv,Int.tdiv_eq_ediv_of_nonneg (by omega)];have:=Int.ediv_le_self (a:=(k:Int)) s (by omega)
 omega
theorem sMayHave (seg many:Int) (w:World) (hs:In64 seg) (hm:In64 many) :
  Calls Tryz.prog 113 #[.int .i64 seg,.int .i64 many] w fun e w'=>e=.returned (.bool (Sl.fitsB seg many))/\w=w':=by
 have HF:=aq (show Sl.fitsB seg many=(decide (4<=seg)&&decide (seg<=64)&&Fr.powB seg&&decide (1<=many)&&decide (many<=65536)&&decide (many % seg=0)&&Fr.powB (many/seg)) from rfl);obtain⟨hm1,hm2⟩:=hm
 by_cases c1:seg < 4
 ·have H:=aq (show Sl.fitsB seg many=false by rw [HF.out,show decide (4<=seg)=false from by simp;omega];rfl)
  go_enter Tryz.func113,Tryz.ntmps113
  go_wp2;go_ret;rw [H.out];exact⟨rfl,rfl⟩
 by_cases c2:64 < seg
 ·have H:=aq (show Sl.fitsB seg many=false by rw [HF.out,show decide (seg<=64)=false from by simp;omega,Bool.and_false];rfl)
  go_enter Tryz.func113,Tryz.ntmps113
  go_wp2;go_ret;rw [H.out];exact⟨rfl,rfl⟩
 clear hs;have HP:=aq (sPower seg w (by omega))
 cases hp:Fr.powB seg
 ·have H:=aq (show Sl.fitsB seg many=false by rw [HF.out,hp,Bool.and_false];rfl)
  have hp':=aq hp;clear hp
  go_enter Tryz.func113,Tryz.ntmps113
  go_wp2_with (go_at_call 162;refine HP.out.mono ?_;rintro e w' ⟨rfl,rfl⟩;rw [hp'.out])
  go_ret;rw [H.out];exact⟨rfl,rfl⟩
 have hp':=aq hp
 by_cases c4:65536 < many
 ·have H:=aq (show Sl.fitsB seg many=false by rw [HF.out,show decide (many<=65536)=false from by simp;omega,Bool.and_false];rfl)
  clear hp
  go_enter Tryz.func113,Tryz.ntmps113
  go_wp2_with (go_at_call 162;refine HP.out.mono ?_;rintro e w' ⟨rfl,rfl⟩;rw [hp'.out])
  go_ret;rw [H.out];exact⟨rfl,rfl⟩
 have k0:¬ seg=0:=by omega
 by_cases c3:many < 1
 ·have H:=aq (show Sl.fitsB seg many=false by rw [HF.out,show decide (1<=many)=false from by simp;omega,Bool.and_false];rfl)
  have q1:=tdiv_small c3 (show 4<=seg by omega);have q2:=tdiv_low hm1 c3 (show 4<=seg by omega);have q3:=aq (Fr.powB_not (n:=many.tdiv seg) (by omega));clear hp
  by_cases c5:many.tmod seg=0
  ·have k1:(many.tmod seg==0)=true:=by simp [c5]
   clear c5
   go_enter Tryz.func113,Tryz.ntmps113
   go_wp2_with (go_at_call 162;first | ((with_reducible refine HP.out.mono ?_);rintro e w' ⟨rfl,rfl⟩;rw [hp'.out]) | (refine (sPower (many.tdiv seg) _ (by omega)).mono ?_;rintro e w' ⟨rfl,rfl⟩;rw [q3.out]))
   go_ret;rw [H.out];exact⟨rfl,rfl⟩
  ·have k1:(many.tmod seg==0)=false:=by simp [c5]
   clear c5
   go_enter Tryz.func113,Tryz.ntmps113
   go_wp2_with (go_at_call 162;first | ((with_reducible refine HP.out.mono ?_);rintro e w' ⟨rfl,rfl⟩;rw [hp'.out]) | (refine (sPower (many.tdiv seg) _ (by omega)).mono ?_;rintro e w' ⟨rfl,rfl⟩;rw [q3.out]))
   go_ret;rw [H.out];exact⟨rfl,rfl⟩
 have HX:=aq (show Sl.fitsB seg many=(decide (many % seg=0)&&Fr.powB (many/seg)) by
  rw [HF.out,hp,show decide (4<=seg)=true from by simp;omega,show decide (seg<=64)=true from by simp;omega,show decide (1<=many)=true from by simp;omega,show decide (many<=65536)=true from by simp;omega];simp)
 have hq:many/seg<=65536:=by have:=Int.ediv_le_self (a:=many) seg (by omega);omega
 have hq0:0<=many/seg:=Int.ediv_nonneg (a:=many) (b:=seg) (by omega) (by omega)
 by_cases c5:many % seg=0
 ·have H:=aq (show Sl.fitsB seg many=Fr.powB (many/seg) by rw [HX.out,decide_eq_true c5,Bool.true_and])
  have k1:(many % seg==0)=true:=by simp [c5]
  clear hp c5
  go_enter Tryz.func113,Tryz.ntmps113
  go_wp2_with (go_at_call 162;first | ((with_reducible refine HP.out.mono ?_);rintro e w' ⟨rfl,rfl⟩;rw [hp'.out]) | (refine (sPower (many/seg) _ (by omega)).mono ?_;rintro e w' ⟨rfl,rfl⟩))
  go_ret;rw [H.out];exact⟨rfl,rfl⟩
 ·have H:=aq (show Sl.fitsB seg many=false by rw [HX.out,decide_eq_false c5,Bool.false_and])
  have k1:(many % seg==0)=false:=by simp [c5]
  clear hp c5
  go_enter Tryz.func113,Tryz.ntmps113
  go_wp2_with (go_at_call 162;first | ((with_reducible refine HP.out.mono ?_);rintro e w' ⟨rfl,rfl⟩;rw [hp'.out]) | (refine (sPower (many/seg) _ (by omega)).mono ?_;rintro e w' ⟨rfl,rfl⟩))
  go_ret;rw [H.out];exact⟨rfl,rfl⟩
def zerosL (zs:List Int):Bool:=zs.all (fun z=>z==0)
theorem zeros_take {zs:List Int} {k:Nat} (h:k < zs.length):zerosL (zs.take (k+1))=(zerosL (zs.take k)&&zs.getD k 0==0):=by
 unfold zerosL;rw [List.take_add_one,List.getElem?_eq_getElem h,List.all_append]
 simp [List.getD,h]
theorem zeros_false {zs:List Int} {k:Nat} (h:k < zs.length) (h2:zs.getD k 0≠0):zerosL zs=false:=by
 unfold zerosL;rw [List.all_eq_false];exact⟨zs[k],by simp,by simpa [List.getD,h] using h2⟩
def SlZerosJ (zs:List Int) (w:World) (i:Value) (wr:World):Prop:=∃ k:Nat,k<=zs.length/\i=.int .i64 k/\w=wr/\zerosL (zs.take k)=true
theorem sZeros (a:Option Addr) (cap:Nat) (zs:List Int) (w:World) (hl:Lst .i64 w a zs) (hn:zs.length<=65536) :
  Calls Tryz.prog 176 #[.slice a zs.length cap] w fun e w'=>e=.returned (.bool (zerosL zs))/\w=w':=by
 have HL:=aq hl;clear hl
 go_enter Tryz.func176,Tryz.ntmps176
 go_wp2
 go_loopw [7] (SlZerosJ zs w) (fun i _=>zs.length-(intOf i).toNat)
 case atStart=>exact⟨0,Nat.zero_le _,rfl,rfl,rfl⟩
 case round =>
  obtain⟨k,hk,rfl,rfl,ht⟩:=hrel;have HT:=aq ht;clear ht
  by_cases hlt:k < zs.length
  ·obtain⟨b1,o1,rfl,_,c1⟩:=HL.out.cell hlt
   have HZ:=aq (zeros_take hlt);obtain⟨x,hx⟩:∃ x,zs.getD k 0=x:=⟨_,rfl⟩;have HF:=aq (fun h=>zeros_false hlt h);rw [hx] at c1;have HX:=aq hx;clear hx
   by_cases he:x=0
   ·have HE:=aq he
    have k2:(x != 0)=false:=by simp [he]
    clear he;go_wp2
    go_roundw
    case rel=>exact⟨k+1,by omega,by go_num,rfl,by rw [HZ.out,HT.out,HX.out,HE.out];rfl⟩
    case measure=>simp [intOf];omega
   ·have HE:=aq he
    have k2:(x != 0)=true:=by simp [he]
    clear he;go_wp2;go_ret;rw [HF.out (by rw [HX.out];exact HE.out)];exact⟨rfl,rfl⟩
  ·have e:k=zs.length:=by omega
   go_wp2;go_ret;have:=HT.out;rw [e,List.take_length] at this;rw [this];exact⟨rfl,rfl⟩
end Go.Proofs.YtpeckljoannolaaGreatDoor
namespace Go.Proofs.YtpeckljoannolaaGreatDoor
open Go.RowKit Go.Shelf
attribute [local go_sem] Oper.semAt_some
structure Seen (w:World) (b1 b2 b3:Nat) (s:Sl) (a:Ads) (lo hi:Int):Prop where
 box:Box w b1 s a
 lo:Boxed w b2 3 (.int .i64 lo)
 hi:Boxed w b3 3 (.int .i64 hi)
 words:Lst .u64 w a.w (ints s.words)
 tab:Tab w
structure Zok (Z:Nat->Prop) (a:Ads) (b1 b2 b3:Nat):Prop where
 z1:Z b1
 z2:Z b2
 z3:Z b3
 zw:∀ p,a.w=some p->Z p.block
 zt:Z 0
theorem Seen.kept {Z:Nat->Prop} {A B:World} {b1 b2 b3:Nat} {s:Sl} {a:Ads} {lo hi:Int} (h:Seen A b1 b2 b3 s a lo hi) (hz:Zok Z a b1 b2 b3) (hk:Kept Z A B):Seen B b1 b2 b3 s a lo hi :=
 ⟨hk.box h.box hz.z1,hk.boxed h.lo hz.z2,hk.boxed h.hi hz.z3,hk.lst h.words hz.zw,⟨Nat.lt_of_lt_of_le h.tab.1 hk.size,by
  have:=h.tab.2;unfold TabAt at this ⊢;intro j hj
  exact ((hk.cell (p:=_) hz.zt).trans (this j hj))⟩⟩
def OccPost (s:Sl) (a:Ads) (lo hi:Int) (w:World) (e:Ending) (w':World):Prop :=
 ∃ b1 b2 b3,e=.returned (.func (.func 213) #[] #[.pointer (some ⟨b1,0,none⟩),.pointer (some ⟨b2,0,none⟩),.pointer (some ⟨b3,0,none⟩)])/\Box w' b1 s a/\Boxed w' b2 3 (.int .i64 lo)/\Boxed w' b3 3 (.int .i64 hi)/\w.heap.size<=b1/\w.heap.size<=b2/\w.heap.size<=b3/\Below w.heap.size w w'
theorem sOccupied (s:Sl) (a:Ads) (lo hi:Int) (w:World):Calls Tryz.prog 175 #[slv s a,.int .i64 lo,.int .i64 hi] w (OccPost s a lo hi w):=by
 have HB:=aq (Box.new w s a 29);unfold slv
 go_enter Tryz.func175,Tryz.ntmps175
 go_wp2;go_ret;refine⟨_,_,_,rfl,?_,?_,?_,Nat.le_refl _,by omega,by omega,?_⟩
 ·exact (HB.out.below ((Below.refl _ _).alloc (Nat.le_refl _) _)).below ((Below.refl _ _).alloc (Nat.le_refl _) _)
 ·have:=(Boxed.new (w.alloc (.cells (slCells s a) 29)) 3 (.int .i64 lo)).alloc (.cells #[.int .i64 hi] 3)
  rw [World.size_alloc] at this;exact this
 ·have:=Boxed.new ((w.alloc (.cells (slCells s a) 29)).alloc (.cells #[.int .i64 lo] 3)) 3 (.int .i64 hi)
  rw [World.size_alloc,World.size_alloc] at this;exact this
 ·exact (((Below.refl _ _).alloc (Nat.le_refl _) _).alloc (by simp) _).alloc (by simp;omega) _
theorem next_split {ws:List Nat} {n k hi:Nat} (hc:Oc.chk ws n=0) (hk:k<=n) (hh:hi<=n) :
  (Oc.nextE ws n k=0/\∃ x:Nat,Oc.nextV ws n k=x/\k<=x/\x < n/\Oc.places ws k hi=(if x < hi then x::Oc.places ws (x+1) hi else []))∨(¬ Oc.nextE ws n k=0/\Oc.places ws k hi=[]):=by
 have hE:Oc.nextE ws n k=if (Oc.places ws k n).length=0 then 6 else 0:=by
  unfold Oc.nextE;rw [if_pos hc,if_neg (by omega),Int.toNat_natCast,Int.toNat_natCast]
 cases hp:Oc.places ws k n with
 | nil =>
  right
  refine⟨by rw [hE,hp];simp,?_⟩
  by_cases h:k<=hi
  ·have:=Oc.places_split ws k hi n h hh
   rw [hp] at this;exact (List.append_eq_nil_iff.1 this.symm).1
  ·exact Oc.places_ge _ _ _ (by omega)
 | cons x r =>
  left
  have hE0:Oc.nextE ws n k=0:=by rw [hE,hp];simp
  have hx:x∈Oc.places ws k n:=by rw [hp];simp
  obtain⟨⟨h1,h2⟩,h3⟩:=Oc.mem_places.1 hx
  have hlow:Oc.places ws k x=[]:=by
   rw [List.eq_nil_iff_forall_not_mem];intro y hy;have h4:=Oc.mem_places.1 hy;have h5:y∈Oc.places ws k n:=Oc.mem_places.2 ⟨⟨h4.1.1,by omega⟩,h4.2⟩;have h6:=places_sorted ws k n;rw [hp] at h5 h6
   rcases List.mem_cons.1 h5 with e | e
   ·omega
   ·have:=(List.pairwise_cons.1 h6).1 y e;omega
  refine⟨hE0,x,?_,h1,h2,?_⟩
  ·unfold Oc.nextV;rw [if_pos hE0,Int.toNat_natCast,Int.toNat_natCast,hp];rfl
  ·split
   ·rename_i hlt
    rw [places_at ws h1 hlt,hlow,h3];rfl
   ·rename_i hlt
    by_cases h:k<=hi
    ·have:=Oc.places_split ws k hi x h (by omega)
     rw [hlow] at this;exact (List.append_eq_nil_iff.1 this.symm).1
    ·exact Oc.places_ge _ _ _ (by omega)
def OccM (n:Nat) (p q:Value):Nat:=if intOf q=0 then n+1-(intOf p).toNat else 0
theorem occM_eq (n:Nat) (v e:Int):OccM n (.int .i64 v) (.int .i64 e)=if e=0 then n+1-v.toNat else 0:=rfl
def OccJ (s:Sl) (a:Ads) (lo hi:Nat) (b1 b2 b3:Nat) (J:List Nat->World->Prop) (p q:Value) (wr:World):Prop :=
 ∃ (pre:List Nat) (k:Nat),k<=s.keys.length/\p=.int .i64 (Oc.nextV s.words s.keys.length k)/\q=.int .i64 (Oc.nextE s.words s.keys.length k)/\Oc.places s.words lo hi=pre++Oc.places s.words k hi/\Seen wr b1 b2 b3 s a lo hi/\J pre wr
theorem occ_seq (Z:Nat->Prop) (s:Sl) (a:Ads) (lo hi b1 b2 b3:Nat) (w:World) (hs:Seen w b1 b2 b3 s a lo hi) (hZ:Zok Z a b1 b2 b3) (hZs:∀ k,Z k->k < w.heap.size)
  (hc:Oc.chk s.words s.keys.length=0) (hw:Wide s.words) (h1:lo<=hi) (h2:hi<=s.keys.length) (h3:s.keys.length<=65536) (h4:s.words.length<=65536) :
  SeqP Tryz.prog 213 #[.pointer (some ⟨b1,0,none⟩),.pointer (some ⟨b2,0,none⟩),.pointer (some ⟨b3,0,none⟩)] Z (Oc.places s.words lo hi) w:=fun l J Jx W hW hJ hJx hY h0=>by
 have HS:=aq (hs.kept hZ (Kept.of_below hW hZs));have HZ:=aq hZ;have HZS:=aq (fun k (h:Z k)=>Nat.lt_of_lt_of_le (hZs k h) hW.size);have HY:=aq hY;have HW:=aq hw;have HC:=aq hc;have HJ:=aq (show ∀ pre A B,W.heap.size<=A.heap.size->J pre A->Below A.heap.size A B->J pre B from fun pre A B _ hs hb=>hJ pre A B none hs ⟨hb.os,hb.tape,hb.output,hb.size,fun k hk _=>hb.block k hk⟩ (fun r e=>by cases e));have NS:=aq (fun k (hk:k<=s.keys.length)=>next_split (hi:=hi) hc hk h2);clear hs hZ hZs hY hw hc hJ hJx hW;obtain⟨_,c0,c1,c2,c3,c4,c5,_⟩:=HS.out.box;have c6:=HS.out.lo.cell;have c7:=HS.out.hi.cell;refine callsIn_of_wp Tryz.func213 rfl trivial ?_ rfl
 simp only [Tryz.ntmps213,List.size_toArray,List.length_cons,List.length_nil,Nat.reduceAdd,Nat.reduceSub,Array.replicate_succ,Array.replicate_zero,List.push_toArray,List.append_toArray,List.nil_append,List.cons_append]
 gi_wp2
 refine⟨trivial,?_⟩;refine (callsIn_wide.2 (oNext a.w a.cw s.words _ _ _ HS.out.words HW.out h4 HS.out.tab)).mono ?_;rintro e w1 ⟨rfl,hb⟩;have HS1:=aq (HS.out.kept HZ.out (Kept.of_below hb HZS.out));have j1:=HJ.out _ _ _ (Nat.le_refl _) h0 hb;have sz:=hb.size;clear hb h0 c0 c1 c2 c3 c4 c5 c6 c7
 gi_wp2
 gi_loopw [5,6] (OccJ s a lo hi b1 b2 b3 (fun pre wr=>W.heap.size<=wr.heap.size/\J pre wr)) (fun p q _=>OccM s.keys.length p q)
 case atStart=>exact⟨[],lo,by omega,rfl,rfl,rfl,HS1.out,sz,j1⟩
 case round =>
  obtain⟨pre,k,hk,rfl,rfl,hpl,hsr,hszr,hJr⟩:=hrel;have HP:=aq hpl;have HR:=aq hsr;have HQ:=aq hJr;clear hpl hsr hJr;obtain⟨_,c0,c1,c2,c3,c4,c5,_⟩:=HR.out.box;have c7:=HR.out.hi.cell
  rcases NS.out k hk with⟨he,x,hv,hx1,hx2,hx⟩ | ⟨he,hx⟩
  ·have HX:=aq hx
   have HV:=aq hv;have HE:=aq he;rw [hv,he];clear hx hv he
   by_cases hlt:x < hi
   ·have HX2:=aq (show Oc.places s.words lo hi=(pre++[x])++Oc.places s.words (x+1) hi by rw [HP.out,HX.out,if_pos hlt,List.append_assoc];rfl)
    obtain⟨fn,tmps,assign,body,hy,hR⟩:=HY.out pre x wr HQ.out ⟨_,HX2.out.symm⟩
    gi_wp2
    refine hR.mono ?_;rintro e W3 (⟨rfl,hJ3,hk3⟩ | ⟨rfl,hJx3⟩)
    ·have HS3:=aq (HR.out.kept HZ.out hk3)
     have sz3:=Nat.le_trans hszr hk3.size;have z3:=aq (fun k (h:Z k)=>Nat.lt_of_lt_of_le (HZS.out k h) sz3);have HJ3:=aq hJ3;clear hk3 hJ3 c0 c1 c2 c3 c4 c5 c7;obtain⟨_,c0,c1,c2,c3,c4,c5,_⟩:=HS3.out.box;have c7:=HS3.out.hi.cell
     gi_wp2
     refine⟨trivial,?_⟩;refine (callsIn_wide.2 (oNext a.w a.cw s.words _ _ _ HS3.out.words HW.out h4 HS3.out.tab)).mono ?_;rintro e w4 ⟨rfl,hb4⟩;have HS4:=aq (HS3.out.kept HZ.out (Kept.of_below hb4 z3.out));have j4:=HJ.out _ _ _ sz3 HJ3.out hb4;have sz4:=Nat.le_trans sz3 hb4.size;clear hb4
     gi_wp2
     go_roundw
     case rel=>exact⟨pre++[x],x+1,by omega,rfl,rfl,HX2.out,HS4.out,sz4,j4⟩
     case measure =>
      rw [occM_eq,occM_eq,if_pos rfl,Int.toNat_natCast]
      rcases NS.out (x+1) (by omega) with⟨e1,y,e2,e3,e4,_⟩ | ⟨e1,_⟩
      ·first | (rw [e1,e2,if_pos rfl,Int.toNat_natCast];omega) | (rw [show ((x:Int)+1)=((x+1:Nat):Int) from by omega,e1,e2,if_pos rfl,Int.toNat_natCast];omega)
      ·first | (rw [if_neg e1];omega) | (rw [show ((x:Int)+1)=((x+1:Nat):Int) from by omega,if_neg e1];omega)
    ·gi_wp2
     go_end0
     exact⟨⟨_,rfl⟩,.inr ⟨pre++[x],by rw [HX2.out];exact⟨_,rfl⟩,hJx3⟩⟩
   ·have HX2:=aq (show Oc.places s.words lo hi=pre by rw [HP.out,HX.out,if_neg hlt,List.append_nil])
    gi_wp2
    refine⟨fun f h=>(by cases h),?_⟩
    gi_wp2
    go_end0
    exact⟨⟨_,rfl⟩,.inl (by rw [HX2.out];exact HQ.out)⟩
  ·have HX2:=aq (show Oc.places s.words lo hi=pre by rw [HP.out,hx,List.append_nil])
   have k1:(Oc.nextE s.words s.keys.length k==0)=false:=by simp [he]
   clear hx he
   gi_wp2
   refine⟨fun f h=>(by cases h),?_⟩
   gi_wp2
   go_end0
   exact⟨⟨_,rfl⟩,.inl (by rw [HX2.out];exact HQ.out)⟩
end Go.Proofs.YtpeckljoannolaaGreatDoor
namespace Go.Proofs.YtpeckljoannolaaGreatDoor
open Go.RowKit Go.Shelf
attribute [local go_sem] Oper.semAt_some
theorem pow_one {x:Int} (h:Fr.powB x=true):1<=x:=by
 apply Classical.byContradiction
 intro hn;rw [Fr.powB_not (by omega)] at h
 cases h
def SlCountsJ (s:Sl) (a:Ads) (w:World) (i:Value) (wr:World):Prop:=∃ k:Nat,k<=s.counts.length/\i=.int .i64 k/\s.countsB k=true/\Below w.heap.size w wr/\Box wr w.heap.size s a
theorem sCounts (s:Sl) (a:Ads) (w:World) (h:Held w s a) (hok:s.Ok) (hs:s.Short) (hfit:Sl.fitsB s.seg s.keys.length=true) (hc:Oc.chk s.words s.keys.length=0) :
  Calls Tryz.prog 125 #[slv s a] w fun e w'=>e=.returned (.bool (decide ((s.counts.length:Int)=(s.keys.length:Int)/s.seg)&&s.countsB s.counts.length))/\Below w.heap.size w w':=by
 obtain⟨g1,g2,_,g4,g5,g6,g7⟩:=fits_yes hfit;have HH:=aq h;have HW:=aq hok.words;have l1:=hs.words;have l2:=hs.keys;have l4:=hs.counts;have HB:=aq (Box.new w s a 29);have HC:=aq hc
 have k0:¬ s.seg=0:=by omega
 have k1:(0:Int)<=s.seg:=by omega
 have g9:IntKind.i64.wrap ((s.keys.length:Int)/s.seg)=(s.keys.length:Int)/s.seg:=by
  have h1:=Int.ediv_le_self (a:=(s.keys.length:Int)) s.seg (by omega);have h2:=Int.ediv_nonneg (a:=(s.keys.length:Int)) (b:=s.seg) (by omega) (by omega);exact IntWalk.i64_in _ (by omega)
 have g8:(s.keys.length:Int).tdiv s.seg=(s.keys.length:Int)/s.seg:=Int.tdiv_eq_ediv_of_nonneg (by omega);have G6:=aq g6;clear h hok hs hfit hc g6;unfold slv
 by_cases c4:(s.counts.length:Int)=(s.keys.length:Int)/s.seg
 ·have k4:((s.counts.length:Int) != (s.keys.length:Int)/s.seg)=false:=by rw [bne_eq_false_iff_eq];exact c4
  have HD:=aq (show (decide ((s.counts.length:Int)=(s.keys.length:Int)/s.seg)&&s.countsB s.counts.length)=s.countsB s.counts.length by rw [decide_eq_true c4];rfl);have C4:=aq c4;obtain⟨bc,oc,hac,hbc,_⟩:=HH.out.counts.cell (i:=0) (by have:=(pow_one g7);omega);rw [hac];have HAC:=aq hac;have hb0:=HB.out;unfold slCells at hb0;rw [hac] at hb0;clear c4 hac HB;have HB:=aq hb0;clear hb0
  go_enter Tryz.func125,Tryz.ntmps125
  go_wp2
  go_quiet (fail)
  clear k4 g8 g9;go_wp2
  go_loopw [20] (SlCountsJ s a w) (fun i _=>s.counts.length-(intOf i).toNat)
  case atStart=>exact⟨0,Nat.zero_le _,rfl,rfl,below_drewN ((Below.refl _ _).alloc (Nat.le_refl _) _) _,HB.out.below (below_drewN (Below.refl _ _) _)⟩
  case round =>
   obtain⟨j,hj,rfl,hz2,hbr2,hbx2⟩:=hrel;have HZ2:=aq hz2;have HBr:=aq hbr2;have HBx:=aq hbx2;clear hz2 hbr2 hbx2
   by_cases hlt2:j < s.counts.length
   ·obtain⟨bc',oc',hac',hbc',cc⟩:=(HH.out.below HBr.out).counts.cell hlt2
    rw [HAC.out] at hac';injection hac' with hac';injection hac' with e8 e9;subst e8 e9
    obtain⟨x,hx⟩:∃ x,s.counts.getD j 0=x:=⟨_,rfl⟩;rw [hx] at cc;obtain⟨g,hg⟩:∃ g:Nat,g=s.seg.toNat:=⟨_,rfl⟩
    have hsg:s.seg=(g:Int):=by omega
    have hCA:s.countAt j=(x==((Oc.places s.words (j*g) ((j+1)*g)).length:Int)):=by unfold Sl.countAt Sl.countOf;rw [hx,hg]
    have hle:(j+1)*g<=s.keys.length:=by
     have h6:=Int.ediv_mul_cancel (a:=(s.keys.length:Int)) (b:=s.seg) (Int.dvd_of_emod_eq_zero G6.out);rw [<-C4.out,hsg] at h6
     have h7:s.counts.length*g=s.keys.length:=by exact_mod_cast h6
     rw [<-h7];exact Nat.mul_le_mul_right _ hlt2
    obtain⟨lo,hlo⟩:∃ lo,lo=j*g:=⟨_,rfl⟩;obtain⟨hi,hhi⟩:∃ hi,hi=(j+1)*g:=⟨_,rfl⟩
    have hlh:lo<=hi:=by rw [hlo,hhi];exact Nat.mul_le_mul_right _ (by omega)
    have e1:IntKind.i64.wrap ((j:Int)*s.seg)=(lo:Int):=by
     rw [hsg,hlo,show (j:Int)*(g:Int)=((j*g:Nat):Int) from by simp];exact IntWalk.i64_in _ (by omega)
    have e2:IntKind.i64.wrap (((j:Int)+1)*s.seg)=(hi:Int):=by
     rw [hsg,hhi,show ((j:Int)+1)*(g:Int)=(((j+1)*g:Nat):Int) from by simp];exact IntWalk.i64_in _ (by omega)
    have e3:IntKind.i64.wrap ((j:Int)+1)=(j:Int)+1:=IntWalk.i64_in _ (by omega);rw [<-hlo,<-hhi] at hCA;rw [<-hhi] at hle;have HCA:=aq hCA;have CO:=aq (oCount_ok a.w a.cw s.words s.keys.length lo hi wr (HH.out.below HBr.out).words HW.out l1 HC.out hlh hle);have c0:=HBx.out.c0;have c1:=HBx.out.c1;have c2:=HBx.out.c2;have c4:=HBx.out.c4;rw [HAC.out] at c4;clear hx hCA hsg hlo hhi hg;have HQ1:=aq (show ¬ x=((Oc.places s.words lo hi).length:Int)->s.countsB s.counts.length=false from fun h=>all_range_false hlt2 (by rw [HCA.out];simp [h]));have HQ2:=aq (show x=((Oc.places s.words lo hi).length:Int)->s.countsB (j+1)=true from fun h=>by rw [counts_snoc,HZ2.out,HCA.out,h];simp);obtain⟨m,hm⟩:∃ m,m=(Oc.places s.words lo hi).length:=⟨_,rfl⟩;rw [<-hm] at CO HQ1 HQ2;clear hm HCA
    go_wp2_with fail
    refine CO.out.mono ?_;rintro e w2 ⟨rfl,hb⟩;clear c0 c1 c2 c4
    by_cases hq:x=(m:Int)
    ·have e5:((m:Int) != x)=false:=by simp [hq]
     have HQ:=aq (HQ2.out hq);clear hq;go_wp2
     go_roundw
     case rel=>exact⟨j+1,by omega,by go_num,HQ.out,HBr.out.trans (hb.mono HBr.out.size),HBx.out.below hb⟩
     case measure=>simp [intOf];omega
    ·have e5:((m:Int) != x)=true:=by simp;omega
     have HQ:=aq (HQ1.out hq);clear hq;go_wp2;go_ret;rw [HD.out,HQ.out];exact⟨rfl,HBr.out.trans (hb.mono HBr.out.size)⟩
   ·obtain rfl:j=s.counts.length:=by omega
    go_wp2;go_ret;rw [HD.out,HZ2.out];exact⟨rfl,HBr.out⟩
 ·have k4:((s.counts.length:Int) != (s.keys.length:Int)/s.seg)=true:=by simp [c4]
  have HD:=aq (show (decide ((s.counts.length:Int)=(s.keys.length:Int)/s.seg)&&s.countsB s.counts.length)=false by rw [decide_eq_false c4];rfl);clear c4
  go_enter Tryz.func125,Tryz.ntmps125
  go_wp2
  go_quiet (fail)
  go_wp2;go_ret;rw [HD.out];exact⟨rfl,below_drewN ((Below.refl _ _).alloc (Nat.le_refl _) _) _⟩
end Go.Proofs.YtpeckljoannolaaGreatDoor

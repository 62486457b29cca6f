/- What package span's pairsFrom returns: a range over a function that yields the pairs of a sorted array from a key on, in order. -/
import Derived.Test.YtfdpkmafemidjaaDoorSpanASp
import Derived.Test.YtfdpkmafemidjaaDoorRangeQSp
import Derived.Test.YtfdpkmafemidjaaDoorM12Sp
import Derived.Test.YtfdpkmafemidjaaDoorTkSp
set_option linter.unusedVariables false
set_option linter.unusedSimpArgs false
set_option maxHeartbeats 2000000
set_option maxRecDepth 100000
namespace Go.Proofs.YtfdpkmafemidjaaDoor
open Go.RowKit Go.Shelf
attribute [local go_sem] Oper.semAt_some
structure SeenP (w:World) (b1 b2:Nat) (s:Sl) (a:Ads) (k:Int):Prop where
 box:Box w b1 s a
 key:Boxed w b2 2 (.int .i64 k)
 held:Held w s a
 tab:Tab w
theorem Kept.lst2 {Z:Nat->Prop} {A B:World} (h:Kept Z A B) {k:IntKind} {a:Option Addr} {zs:List Int} (hl:Lst k A a zs) (ha:zs≠[]->∀ p,a=some p->Z p.block):Lst k B a zs:=by
 by_cases hz:zs=[]
 ·exact Or.inl hz
 ·exact h.lst hl (ha hz)
theorem lst_lt {w:World} {k:IntKind} {a:Option Addr} {zs:List Int} (hl:Lst k w a zs) (hz:zs≠[]):∀ p,a=some p->p.block < w.heap.size:=fun p hp=>by
 rcases hl with h0 | ⟨b,off,h1,h2,_⟩
 ·exact absurd h0 hz
 ·rw [hp] at h1;cases h1;exact h2
structure ZokP (Z:Nat->Prop) (s:Sl) (a:Ads) (b1 b2:Nat):Prop where
 z1:Z b1
 z2:Z b2
 zw:ints s.words≠[]->∀ p,a.w=some p->Z p.block
 zk:s.keys≠[]->∀ p,a.k=some p->Z p.block
 zv:s.vals≠[]->∀ p,a.v=some p->Z p.block
 zc:s.counts≠[]->∀ p,a.c=some p->Z p.block
 zt:Z 0
theorem SeenP.kept {Z:Nat->Prop} {A B:World} {b1 b2:Nat} {s:Sl} {a:Ads} {k:Int} (h:SeenP A b1 b2 s a k) (hz:ZokP Z s a b1 b2) (hk:Kept Z A B):SeenP B b1 b2 s a k :=
 ⟨hk.box h.box hz.z1,hk.boxed h.key hz.z2,⟨hk.lst2 h.held.words hz.zw,hk.lst2 h.held.keys hz.zk,hk.lst2 h.held.vals hz.zv,hk.lst2 h.held.counts hz.zc,h.held.caps⟩,⟨Nat.lt_of_lt_of_le h.tab.1 hk.size,by
  have:=h.tab.2;unfold TabAt at this ⊢;intro j hj
  exact ((hk.cell (p:=_) hz.zt).trans (this j hj))⟩⟩
def PairsPost (s:Sl) (a:Ads) (k:Int) (w:World) (e:Ending) (w':World):Prop :=
 ∃ b1 b2,e=.returned (.func (.func 63) #[] #[.pointer (some ⟨b1,0,none⟩),.pointer (some ⟨b2,0,none⟩)])/\Box w' b1 s a/\Boxed w' b2 2 (.int .i64 k)/\w.heap.size<=b1/\w.heap.size<=b2/\Below w.heap.size w w'
theorem nPairsFrom (s:Sl) (a:Ads) (k:Int) (w:World):Calls Tryd.prog 38 #[slv s a,.int .i64 k] w (PairsPost s a k w):=by
 have HB:=aq (Box.new w s a 27);unfold slv
 go_enter Tryd.func38,Tryd.ntmps38
 go_wp2;go_ret;refine⟨_,_,rfl,?_,?_,Nat.le_refl _,by omega,?_⟩
 ·exact HB.out.below ((Below.refl _ _).alloc (Nat.le_refl _) _)
 ·have:=Boxed.new (w.alloc (.cells (slCells s a) 27)) 2 (.int .i64 k)
  rw [World.size_alloc] at this;exact this
 ·exact ((Below.refl _ _).alloc (Nat.le_refl _) _).alloc (by simp) _
def PairsJ (s:Sl) (a:Ads) (k:Int) (b1 b2:Nat) (J:List Nat->World->Prop) (p q:Value) (wr:World):Prop :=
 ∃ (pre:List Nat) (i:Nat),i<=s.keys.length/\p=.int .i64 (Oc.nextV s.words s.keys.length i)/\q=.int .i64 (Oc.nextE s.words s.keys.length i)/\Sk.high s k=pre++Oc.places s.words i s.keys.length/\SeenP wr b1 b2 s a k/\J pre wr
theorem pairs_seq (Z:Nat->Prop) (s:Sl) (a:Ads) (k:Int) (b1 b2:Nat) (w:World) (hs:SeenP w b1 b2 s a k) (hZ:ZokP Z s a b1 b2) (hZs:∀ k,Z k->k < w.heap.size)
  (hc:Sk.chkE s=0) (hok:s.Ok) (hsh:s.Short) :
  SeqQ (fun x=>#[pv (s.pairAt x)]) Tryd.prog 63 #[.pointer (some ⟨b1,0,none⟩),.pointer (some ⟨b2,0,none⟩)] Z (Sk.high s k) w:=fun l J Jx W hW hJ hJx hY h0=>by
 obtain⟨hM,hr⟩:=Sk.chk_zero.1 hc;obtain⟨r,P⟩:=Sk.part_of k hr;have HS:=aq (hs.kept hZ (Kept.of_below hW hZs));have HZ:=aq hZ;have HZS:=aq (fun k (h:Z k)=>Nat.lt_of_lt_of_le (hZs k h) hW.size);have HY:=aq hY;have OK:=aq hok;have SH:=aq hsh;have HV:=aq hM.vals;have HP:=aq P.highs;have HN:=aq (P.next hc);have hrl:=P.le;have HJ:=aq (show ∀ pre A B,W.heap.size<=A.heap.size->J pre A->Below A.heap.size A B->J pre B from fun pre A B _ hs hb=>hJ pre A B none hs ⟨hb.os,hb.tape,hb.output,hb.size,fun k hk _=>hb.block k hk⟩ (fun r e=>by cases e));have NS:=aq (fun k (hk:k<=s.keys.length)=>next_split (hi:=s.keys.length) hM.chkW hk (Nat.le_refl _));have CP:=aq (fun x W (h:Held W s a) (hx:x < s.keys.length)=>nPairAt s a x W h hx HV.out SH.out.keys);have CN:=aq (fun W (h:Held W s a) tv=>kNext s a k W h OK.out SH.out tv);rw [<-HN.out.1,<-HN.out.2] at CN;have CO:=aq (fun (i:Int) W (h:Held W s a) tv=>oNext a.w a.cw s.words s.keys.length i W h.words OK.out.words SH.out.words tv);have hkl:=hsh.keys;clear hs hZ hZs hY hc hJ hJx hW hM hr P hok hsh HN;unfold slv at CP CN;obtain⟨_,c0,c1,c2,c3,c4,c5,_⟩:=HS.out.box;have c6:=HS.out.key.cell;refine callsIn_of_wp Tryd.func63 rfl trivial ?_ rfl
 simp only [Tryd.ntmps63,List.size_toArray,List.length_cons,List.length_nil,Nat.reduceAdd,Nat.reduceSub,Array.replicate_succ,Array.replicate_zero,List.push_toArray,List.append_toArray,List.nil_append,List.cons_append]
 gi_wp2
 refine⟨trivial,?_⟩;refine (callsIn_wide.2 (CN.out _ HS.out.held HS.out.tab)).mono ?_;rintro e w1 ⟨rfl,hb⟩;have HS1:=aq (HS.out.kept HZ.out (Kept.of_below hb HZS.out));have j1:=HJ.out _ _ _ (Nat.le_refl _) h0 hb;have sz:=hb.size;clear hb h0 c0 c1 c2 c3 c4 c5 c6
 gi_wp2
 gi_loopw [4,5] (PairsJ s a k b1 b2 (fun pre wr=>W.heap.size<=wr.heap.size/\J pre wr)) (fun p q _=>OccM s.keys.length p q)
 case atStart=>exact⟨[],r,hrl,rfl,rfl,HP.out,HS1.out,sz,j1⟩
 case round =>
  obtain⟨pre,i,hi,rfl,rfl,hpl,hsr,hszr,hJr⟩:=hrel;have HPL:=aq hpl;have HR:=aq hsr;have HQ:=aq hJr;clear hpl hsr hJr;obtain⟨_,c0,c1,c2,c3,c4,c5,_⟩:=HR.out.box
  rcases NS.out i hi with⟨he,x,hv,hx1,hx2,hx⟩ | ⟨he,hx⟩
  ·rw [if_pos hx2] at hx
   have HX:=aq hx;rw [hv,he];clear hx hv he;have HX2:=aq (show Sk.high s k=(pre++[x])++Oc.places s.words (x+1) s.keys.length by rw [HPL.out,HX.out,List.append_assoc];rfl)
   gi_wp2
   refine⟨trivial,?_⟩;refine (callsIn_wide.2 (CP.out x _ HR.out.held hx2)).mono ?_;rintro e w2 ⟨rfl,hb⟩;have HS2:=aq (HR.out.kept HZ.out (Kept.of_below hb (fun k h=>Nat.lt_of_lt_of_le (HZS.out k h) hszr)));have hQ2:=HJ.out _ _ _ hszr HQ.out hb;have sz2:=Nat.le_trans hszr hb.size;clear hb c0 c1 c2 c3 c4 c5;obtain⟨_,c0,c1,c2,c3,c4,c5,_⟩:=HS2.out.box;obtain⟨fn,tmps,assign,body,hy,hR⟩:=HY.out pre x w2 hQ2 ⟨_,HX2.out.symm⟩
   gi_wp2
   refine hR.mono ?_;rintro e W3 (⟨rfl,hJ3,hk3⟩ | ⟨rfl,hJx3⟩)
   ·have HS3:=aq (HS2.out.kept HZ.out hk3)
    have sz3:=Nat.le_trans sz2 hk3.size;have z3:=aq (fun k (h:Z k)=>Nat.lt_of_lt_of_le (HZS.out k h) sz3);have HJ3:=aq hJ3;clear hk3 hJ3 c0 c1 c2 c3 c4 c5;obtain⟨_,c0,c1,c2,c3,c4,c5,_⟩:=HS3.out.box
    gi_wp2
    refine⟨trivial,?_⟩;refine (callsIn_wide.2 (CO.out _ _ HS3.out.held HS3.out.tab)).mono ?_;rintro e w4 ⟨rfl,hb4⟩;have HS4:=aq (HS3.out.kept HZ.out (Kept.of_below hb4 z3.out));have j4:=HJ.out _ _ _ sz3 HJ3.out hb4;have sz4:=Nat.le_trans sz3 hb4.size;clear hb4
    gi_wp2
    go_roundw
    case rel=>exact⟨pre++[x],x+1,by omega,rfl,rfl,HX2.out,HS4.out,sz4,j4⟩
    case measure =>
     rw [occM_eq,occM_eq,if_pos rfl,Int.toNat_natCast]
     rcases NS.out (x+1) (by omega) with⟨e1,y,e2,e3,e4,_⟩ | ⟨e1,_⟩
     ·first | (rw [e1,e2,if_pos rfl,Int.toNat_natCast];omega) | (rw [show ((x:Int)+1)=((x+1:Nat):Int) from by omega,e1,e2,if_pos rfl,Int.toNat_natCast];omega)
     ·first | (rw [if_neg e1];omega) | (rw [show ((x:Int)+1)=((x+1:Nat):Int) from by omega,if_neg e1];omega)
   ·gi_wp2
    refine bodyPost_ret (results_none rfl _ _ _) rfl ?_;exact⟨⟨_,rfl⟩,.inr ⟨pre++[x],by rw [HX2.out];exact⟨_,rfl⟩,hJx3⟩⟩
  ·have HX2:=aq (show Sk.high s k=pre by rw [HPL.out,hx,List.append_nil])
   have k1:(Oc.nextE s.words s.keys.length i==0)=false:=by simp [he]
   clear hx he
   gi_wp2
   go_end0
   exact⟨⟨_,rfl⟩,.inl (by rw [HX2.out];exact HQ.out)⟩
end Go.Proofs.YtfdpkmafemidjaaDoor

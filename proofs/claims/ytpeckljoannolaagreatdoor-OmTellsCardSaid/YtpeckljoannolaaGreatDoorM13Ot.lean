/- What gapsEmpty of package slots returns. -/
import Derived.Test.YtpeckljoannolaaGreatDoorM12Ot
import Derived.Test.YtpeckljoannolaaGreatDoorTkOt
set_option linter.unusedVariables false
set_option linter.unusedSimpArgs false
set_option maxHeartbeats 20000000
set_option maxRecDepth 100000
namespace Go.Proofs.YtpeckljoannolaaGreatDoor
open Go.RowKit Go.Shelf
attribute [local go_sem] Oper.semAt_some
def bnd (pre:List Nat):Nat:=match pre.getLast? with
 | none=>0
 | some x=>x+1
theorem bnd_snoc (pre:List Nat) (x:Nat):bnd (pre++[x])=x+1:=by unfold bnd;simp
theorem bnd_next {ws:List Nat} {n:Nat} {pre:List Nat} {x:Nat} (h:pre++[x] <+: Oc.places ws 0 n):x < n/\bnd pre<=x/\Oc.isB ws x=true/\∀ i,bnd pre<=i->i < x->Oc.isB ws i=false:=by
 obtain⟨t,ht⟩:=h;have hs:=places_sorted ws 0 n;rw [<-ht,List.append_assoc] at hs
 have hx:x∈Oc.places ws 0 n:=by rw [<-ht];simp
 obtain⟨⟨_,h1⟩,h2⟩:=Oc.mem_places.1 hx;obtain⟨hp,hq,hpq⟩:=List.pairwise_append.1 hs
 have hb:bnd pre<=x:=by
  unfold bnd
  cases hl:pre.getLast? with
  | none=>exact Nat.zero_le _
  | some y =>
   have hy:=List.mem_of_getLast? hl;have:=hpq y hy x (by simp)
   show y+1<=x
   omega
 refine⟨h1,hb,h2,fun i e1 e2=>?_⟩
 cases hi:Oc.isB ws i
 ·rfl
 ·exfalso
  have:i∈Oc.places ws 0 n:=Oc.mem_places.2 ⟨⟨Nat.zero_le _,by omega⟩,hi⟩;rw [<-ht,List.append_assoc] at this
  rcases List.mem_append.1 this with hm | hm
  ·-- i in pre: at most its last
   have:i < bnd pre:=by
    unfold bnd
    cases hl:pre.getLast? with
    | none=>rw [List.getLast?_eq_none_iff] at hl;subst hl;cases hm
    | some y =>
     show i < y+1
     obtain⟨r,hr⟩:=List.getLast?_eq_some_iff.1 hl;rw [hr] at hm hp
     rcases List.mem_append.1 hm with hm | hm
     ·have:=(List.pairwise_append.1 hp).2.2 i hm y (by simp)
      omega
     ·simp at hm;omega
   omega
  ·simp only [List.cons_append,List.nil_append,List.mem_cons] at hm
   rcases hm with hm | hm
   ·omega
   ·simp only [List.cons_append,List.nil_append,List.pairwise_cons] at hq
    have:=hq.1 i hm
    omega
theorem bnd_done {ws:List Nat} {n:Nat}:bnd (Oc.places ws 0 n)<=n/\∀ i,bnd (Oc.places ws 0 n)<=i->i < n->Oc.isB ws i=false:=by
 refine⟨?_,fun i h1 h2=>?_⟩
 ·unfold bnd
  cases hl:(Oc.places ws 0 n).getLast? with
  | none=>exact Nat.zero_le _
  | some y=>have:=(Oc.mem_places.1 (List.mem_of_getLast? hl)).1;show y+1<=n;omega
 ·cases hi:Oc.isB ws i
  ·rfl
  ·exfalso
   have hm:i∈Oc.places ws 0 n:=Oc.mem_places.2 ⟨⟨Nat.zero_le _,h2⟩,hi⟩;have hs:=places_sorted ws 0 n
   have:i < bnd (Oc.places ws 0 n):=by
    unfold bnd
    cases hl:(Oc.places ws 0 n).getLast? with
    | none=>rw [List.getLast?_eq_none_iff] at hl;rw [hl] at hm;cases hm
    | some y =>
     show i < y+1
     obtain⟨r,hr⟩:=List.getLast?_eq_some_iff.1 hl;rw [hr] at hm hs
     rcases List.mem_append.1 hm with hm | hm
     ·have:=(List.pairwise_append.1 hs).2.2 i hm y (by simp)
      omega
     ·simp at hm;omega
   omega
theorem boxed_keep {W w':World} {b n:Nat} {t:TypeId} {v:Value} (h:Boxed W b t v) (hb:Below n W w') (hn:b < n):Boxed w' b t v:=(hb.block b hn).trans h
def cutL (zs:List Int) (k m:Nat):List Int:=(zs.take m).drop k
theorem cutL_length {zs:List Int} {k m:Nat} (h:m<=zs.length):(cutL zs k m).length=m-k:=by unfold cutL;rw [List.length_drop,List.length_take,Nat.min_eq_left h]
theorem cutL_getD {zs:List Int} {k m i:Nat} (hm:m<=zs.length) (hi:i < m-k):(cutL zs k m).getD i 0=zs.getD (k+i) 0:=by
 unfold cutL
 simp only [List.getD,List.getElem?_drop]
 rw [List.getElem?_take_of_lt (by omega)]
theorem zerosL_iff {zs:List Int}:zerosL zs=true↔∀ i,i < zs.length->zs.getD i 0=0:=by
 unfold zerosL;rw [List.all_eq_true]
 constructor
 ·intro h i hi
  have:=h zs[i] (by simp)
  simpa [List.getD,hi] using this
 ·intro h x hx
  obtain⟨i,hi,rfl⟩:=List.getElem_of_mem hx;have:=h i hi
  simpa [List.getD,hi] using this
theorem zerosB_iff {s:Sl} {k:Nat}:s.zerosB k=true↔∀ i,i < k->Oc.isB s.words i=false->s.keys.getD i 0=0/\s.vals.getD i 0=0:=by
 unfold Sl.zerosB Sl.zeroAt;rw [List.all_eq_true]
 constructor
 ·intro h i hi hb
  have:=h i (by simpa using hi);rw [hb] at this
  simpa using this
 ·intro h i hi
  cases hb:Oc.isB s.words i
  ·have:=h i (by simpa using hi) hb
   rw [this.1,this.2];rfl
  ·rfl
theorem zeros_on {s:Sl} {k m:Nat} (hv:s.vals.length=s.keys.length) (hm:m<=s.keys.length) (hz:s.zerosB k=true) (hoff:∀ i,k<=i->i < m->Oc.isB s.words i=false)
  (h1:zerosL (cutL s.keys k m)=true) (h2:zerosL (cutL s.vals k m)=true):s.zerosB m=true:=by
 rw [zerosB_iff] at hz ⊢;intro i hi hb
 by_cases hk:i < k
 ·exact hz i hk hb
 ·rw [zerosL_iff,cutL_length (by omega)] at h1 h2
  have e1:=h1 (i-k) (by omega);have e2:=h2 (i-k) (by omega);rw [cutL_getD (by omega) (by omega),show k+(i-k)=i from by omega] at e1 e2;exact⟨e1,e2⟩
theorem zeros_off {s:Sl} {k m:Nat} (hv:s.vals.length=s.keys.length) (hm:m<=s.keys.length) (hoff:∀ i,k<=i->i < m->Oc.isB s.words i=false)
  (h:zerosL (cutL s.keys k m)=false∨zerosL (cutL s.vals k m)=false):s.zerosB s.keys.length=false:=by
 cases hz:s.zerosB s.keys.length
 ·rfl
 ·exfalso
  rw [zerosB_iff] at hz
  have:∀ zs:List Int,zs.length=s.keys.length->(∀ i,k<=i->i < m->zs.getD i 0=0)->zerosL (cutL zs k m)=true:=fun zs hl h0=>by
   rw [zerosL_iff,cutL_length (by omega)];intro i hi;rw [cutL_getD (by omega) hi];exact h0 _ (by omega) (by omega)
  rcases h with h | h
  ·rw [this s.keys rfl (fun i e1 e2=>(hz i (by omega) (hoff i e1 e2)).1)] at h;cases h
  ·rw [this s.vals hv (fun i e1 e2=>(hz i (by omega) (hoff i e1 e2)).2)] at h;cases h
theorem lst_cut {w:World} {b off:Nat} {zs:List Int} (h:Lst .i64 w (some ⟨b,off,none⟩) zs) (k m:Nat) (hm:m<=zs.length):Lst .i64 w (some ⟨b,off+k,none⟩) (cutL zs k m):=by
 by_cases hk:k < m
 ·rcases h with h0 | ⟨b',off',h1,h2,h3⟩
  ·rw [h0] at hm;simp at hm;omega
  ·injection h1 with h1;injection h1 with e1 e2;subst e1 e2
   refine Or.inr ⟨b,off+k,rfl,h2,fun i hi=>?_⟩;rw [cutL_length hm] at hi;rw [cutL_getD hm hi,Nat.add_assoc];exact h3 _ (by omega)
 ·left
  exact List.eq_nil_of_length_eq_zero (by rw [cutL_length hm];omega)
structure GapI (s:Sl) (a:Ads) (w:World) (b br bh:Nat) (pre:List Nat) (W:World):Prop where
 bh:Boxed W bh 3 (.int .i64 (bnd pre:Int))
 br:Boxed W br 4 (.bool false)
 box:Box W b s a
 below:Below w.heap.size w W
 zero:s.zerosB (bnd pre)=true
theorem gapI_own (s:Sl) (a:Ads) (w:World) (b br bh n:Nat) (hn:w.heap.size<=n):OwnFrom n (GapI s a w b br bh):=fun pre A B row hs hg hr =>
 have ho:=Over.of_grown hg hr
 ⟨ho.boxed hs.bh,ho.boxed hs.br,ho.box hs.box,ownFrom_below (β:=Unit) (Nat.le_refl _) hn () A B row hs.below hg hr,hs.zero⟩
def GapX (s:Sl) (a:Ads) (w:World) (br:Nat) (c:Code) (pre:List Nat) (W:World):Prop :=
 c=.ret/\Boxed W br 4 (.bool false)/\Below w.heap.size w W/\s.zerosB s.keys.length=false
theorem gapX_own (s:Sl) (a:Ads) (w:World) (br n:Nat) (hn:w.heap.size<=n) (c:Code):OwnFrom n (GapX s a w br c):=fun pre A B row hs hg hr =>
 have ho:=Over.of_grown hg hr
 ⟨hs.1,ho.boxed hs.2.1,ownFrom_below (β:=Unit) (Nat.le_refl _) hn () A B row hs.2.2.1 hg hr,hs.2.2.2⟩
theorem sGaps (s:Sl) (a:Ads) (w:World) (h:Held w s a) (hok:s.Ok) (hs:s.Short) (hv:s.vals.length=s.keys.length) (hn:0 < s.keys.length) (hc:Oc.chk s.words s.keys.length=0) (hT:Tab w) :
  Calls Tryz.prog 126 #[slv s a] w fun e w'=>e=.returned (.bool (s.zerosB s.keys.length))/\Below w.heap.size w w':=by
 obtain⟨bk,ok,hak,hbk,_⟩:=h.keys.cell hn;obtain⟨bv,ov,hav,hbv,_⟩:=h.vals.cell (i:=0) (by omega);obtain⟨m,e,_,hwl,_⟩:=Oc.chk_ok hc;obtain⟨bw,ow,haw,hbw,_⟩:=h.words.word (i:=0) (by omega);obtain⟨aw,ak,av,ac,cw,ck,cv,cc⟩:=a
 dsimp only at hak hav haw
 subst hak hav haw;have HH:=aq h;have HW:=aq hok.words;have HT:=aq hT;have HC:=aq hc;have HV:=aq hv;have l1:=hs.words;have l2:=hs.keys;have l3:=hs.vals;have CO:=aq (fun W=>sOccupied s ⟨some ⟨bw,ow,none⟩,some ⟨bk,ok,none⟩,some ⟨bv,ov,none⟩,ac,cw,ck,cv,cc⟩ 0 (s.keys.length:Int) W);have HB:=aq (Box.new w s ⟨some ⟨bw,ow,none⟩,some ⟨bk,ok,none⟩,some ⟨bv,ov,none⟩,ac,cw,ck,cv,cc⟩ 29);clear h hok hs hc hT e hwl hv;unfold slv at CO ⊢;refine calls_marks Tryz.func126 rfl ?_
 simp only [Tryz.ntmps126,List.size_toArray,List.length_cons,List.length_nil,Nat.reduceAdd,Nat.reduceSub,Array.replicate_succ,Array.replicate_zero,List.push_toArray,List.append_toArray,List.nil_append,List.cons_append]
 go_wp2_with fail
 obtain⟨W0,hW0⟩:∃ W0,W0=((w.alloc (.cells (slCells s ⟨some ⟨bw,ow,none⟩,some ⟨bk,ok,none⟩,some ⟨bv,ov,none⟩,ac,cw,ck,cv,cc⟩) 29)).alloc (.cells #[.bool false] 4)).alloc (.cells #[.int .i64 0] 3):=⟨_,rfl⟩;have bx0:=aq (show Box W0 w.heap.size s ⟨some ⟨bw,ow,none⟩,some ⟨bk,ok,none⟩,some ⟨bv,ov,none⟩,ac,cw,ck,cv,cc⟩ by rw [hW0];exact (HB.out.below ((Below.refl _ _).alloc (Nat.le_refl _) _)).below ((Below.refl _ _).alloc (Nat.le_refl _) _))
 have br0:Boxed W0 (w.heap.size+1) 4 (.bool false):=by rw [hW0];have:=(Boxed.new (w.alloc (.cells (slCells s ⟨some ⟨bw,ow,none⟩,some ⟨bk,ok,none⟩,some ⟨bv,ov,none⟩,ac,cw,ck,cv,cc⟩) 29)) 4 (.bool false)).alloc (.cells #[.int .i64 0] 3);rwa [World.size_alloc] at this
 have bh0:Boxed W0 (w.heap.size+1+1) 3 (.int .i64 0):=by rw [hW0];have:=Boxed.new ((w.alloc (.cells (slCells s ⟨some ⟨bw,ow,none⟩,some ⟨bk,ok,none⟩,some ⟨bv,ov,none⟩,ac,cw,ck,cv,cc⟩) 29)).alloc (.cells #[.bool false] 4)) 3 (.int .i64 0);rwa [World.size_alloc,World.size_alloc] at this
 have BB:=aq (show Below w.heap.size w W0 by rw [hW0];exact (((Below.refl _ _).alloc (Nat.le_refl _) _).alloc (by simp) _).alloc (by simp;omega) _)
 have z0:W0.heap.size=w.heap.size+3:=by rw [hW0];simp
 unfold slCells at hW0;rw [<-hW0];clear hW0 HB;refine (CO.out _).mono ?_;rintro e W5 ⟨b1,b2,b3,rfl,hB1,hB2,hB3,hb1,hb2,hb3,hb⟩;have ln1:=hB1.lt;have ln2:=hB2.lt;have ln3:=hB3.lt;have sz5:=hb.size;have bx5:=aq (bx0.out.below hb);have br5:=boxed_below br0 br0.lt hb;have bh5:=boxed_below bh0 bh0.lt hb;have B5:=aq (BB.out.trans (hb.mono BB.out.size));have SN:=aq (Seen.mk hB1 hB2 hB3 (HH.out.below B5.out).words (HT.out.below B5.out));have ZK:=aq (show Zok (fun k=>k < w.heap.size∨(w.heap.size+3<=k/\k < W5.heap.size)) ⟨some ⟨bw,ow,none⟩,some ⟨bk,ok,none⟩,some ⟨bv,ov,none⟩,ac,cw,ck,cv,cc⟩ b1 b2 b3 from⟨Or.inr ⟨by omega,ln1⟩,Or.inr ⟨by omega,ln2⟩,Or.inr ⟨by omega,ln3⟩,fun p hp=>(by cases hp;exact Or.inl hbw),Or.inl HT.out.1⟩);clear hB1 hB2 hB3 hb CO br0 bh0 bx0 BB
 go_wp2_with fail
 refine wp_rangeP (gf:=213) (lb:=#[.pointer (some ⟨b1,0,none⟩),.pointer (some ⟨b2,0,none⟩),.pointer (some ⟨b3,0,none⟩)]) rfl (enters_of Tryz.func213 (by kernel_rfl) rfl)
  (occ_seq _ s ⟨some ⟨bw,ow,none⟩,some ⟨bk,ok,none⟩,some ⟨bv,ov,none⟩,ac,cw,ck,cv,cc⟩ 0 s.keys.length b1 b2 b3 W5 SN.out ZK.out (fun k hk=>by rcases hk with hk | hk<;>omega) HC.out HW.out (Nat.zero_le _) (Nat.le_refl _) l2 l1) (fun k hk=>by rcases hk with hk | hk<;>omega)
  (GapI s ⟨some ⟨bw,ow,none⟩,some ⟨bk,ok,none⟩,some ⟨bv,ov,none⟩,ac,cw,ck,cv,cc⟩ w w.heap.size (w.heap.size+1) (w.heap.size+1+1)) (GapX s ⟨some ⟨bw,ow,none⟩,some ⟨bk,ok,none⟩,some ⟨bv,ov,none⟩,ac,cw,ck,cv,cc⟩ w (w.heap.size+1)) (gapI_own _ _ _ _ _ _ _ (by omega)) (gapX_own _ _ _ _ _ (by omega)) ⟨bh5,br5,bx5.out,B5.out,rfl⟩
  (fun k=>{ tmps:=#[.agg #[.int .i64 s.seg,.slice (some ⟨bw,ow,none⟩) s.words.length cw,.slice (some ⟨bk,ok,none⟩) s.keys.length ck,.slice (some ⟨bv,ov,none⟩) s.vals.length cv,.slice ac s.counts.length cc,.int .u64 (s.laid:Int)],.pointer (some ⟨w.heap.size,0,none⟩),.pointer (some ⟨w.heap.size+1,0,none⟩),.pointer (some ⟨w.heap.size+1+1,0,none⟩),.int .i64 (k:Int),.agg #[.int .i64 s.seg,.slice (some ⟨bw,ow,none⟩) s.words.length cw,.slice (some ⟨bk,ok,none⟩) s.keys.length ck,.slice (some ⟨bv,ov,none⟩) s.vals.length cv,.slice ac s.counts.length cc,.int .u64 (s.laid:Int)],.pointer (some ⟨w.heap.size,2,none⟩),.slice (some ⟨bk,ok,none⟩) s.keys.length ck,.int .i64 (s.keys.length:Int),.func (Fn.func 213) #[] #[.pointer (some ⟨b1,0,none⟩),.pointer (some ⟨b2,0,none⟩),.pointer (some ⟨b3,0,none⟩)],.int .i64 (k:Int),undef,undef,undef,undef,undef,undef,undef,undef,undef,undef,undef,undef,undef,undef,undef,undef,undef,undef,undef,undef,undef,undef,undef,undef,undef,undef,undef,undef,undef,undef],defers:=[] }) ?assign ?body ?done ?stop
 case assign =>
  intro l k W K hK
  gi_wp2
  exact hK
 case body =>
  rintro l pre x W hI hpre;obtain⟨hx1,hx2,hx3,hx4⟩:=bnd_next hpre;have HI:=aq hI;have HX4:=aq hx4;clear hI hx4;obtain⟨k,hk⟩:∃ k,k=bnd pre:=⟨_,rfl⟩;have q1:=HI.out.bh;have q2:=HI.out.br;rw [<-hk] at q1 hx2;have HKB:=aq hk;clear hk;have d0:=q1.cell;have d1:=q1.frozen;have d2:=q2.cell;have d3:=q2.frozen;have c2:=HI.out.box.c2;have c3:=HI.out.box.c3;have cpk:=aq HH.out.caps.k1;have cpv:=aq HH.out.caps.v1
  dsimp only at c2 c3 cpk cpv
  have g1:s.keys.length<=ck:=cpk.out;have g2:s.vals.length<=cv:=cpv.out
  have g3:x < s.vals.length:=by have:=HV.out;omega
  have CK:=sZeros (some ⟨bk,ok+k,none⟩) (ck-k) (cutL s.keys k x) W (lst_cut (HH.out.below HI.out.below).keys k x (by omega)) (by rw [cutL_length (by omega)];omega);have CV:=sZeros (some ⟨bv,ov+k,none⟩) (cv-k) (cutL s.vals k x) W (lst_cut (HH.out.below HI.out.below).vals k x (by omega)) (by rw [cutL_length (by omega)];omega);rw [cutL_length (by omega)] at CK CV;have HCK:=aq CK;have HCV:=aq CV;have HZ:=aq (fun h1 h2=>zeros_on (s:=s) (k:=k) (m:=x) HV.out (by omega) (by rw [HKB.out];exact HI.out.zero) (by rw [HKB.out];exact HX4.out) h1 h2);have HZ2:=aq (fun h=>zeros_off (s:=s) (k:=k) (m:=x) HV.out (by omega) (by rw [HKB.out];exact HX4.out) h);clear CK CV;obtain⟨r1,hr1⟩:∃ r,r=zerosL (cutL s.keys k x):=⟨_,rfl⟩;obtain⟨r2,hr2⟩:∃ r,r=zerosL (cutL s.vals k x):=⟨_,rfl⟩;rw [<-hr1] at HCK HZ HZ2;rw [<-hr2] at HCV HZ HZ2;clear hr1 hr2
  cases r1
  ·have hz:=HZ2.out (Or.inl rfl)
   gi_wp2
   refine⟨trivial,?_⟩;refine ((callsIn_wide.2 HCK.out).inRound l).mono ?_;rintro e w' ⟨rfl,rfl⟩
   gi_wp2
   refine⟨trivial,?_⟩
   gi_wp2
   exact⟨KeepsOthers.setCell _ _ _,rfl,q2.set _,HI.out.below.setCell (by simp) _,hz⟩
  ·cases r2
   ·have hz:=HZ2.out (Or.inr rfl)
    gi_wp2
    refine⟨trivial,?_⟩;refine ((callsIn_wide.2 HCK.out).inRound l).mono ?_;rintro e w' ⟨rfl,rfl⟩
    gi_wp2
    refine⟨trivial,?_⟩;refine ((callsIn_wide.2 HCV.out).inRound l).mono ?_;rintro e w' ⟨rfl,rfl⟩
    gi_wp2
    exact⟨KeepsOthers.setCell _ _ _,rfl,q2.set _,HI.out.below.setCell (by simp) _,hz⟩
   ·have hz:=HZ.out rfl rfl
    have hz2:s.zerosB (x+1)=true:=by rw [zeros_snoc,hz];unfold Sl.zeroAt;rw [hx3];rfl
    gi_wp2
    refine⟨trivial,?_⟩;refine ((callsIn_wide.2 HCK.out).inRound l).mono ?_;rintro e w' ⟨rfl,rfl⟩
    gi_wp2
    refine⟨trivial,?_⟩;refine ((callsIn_wide.2 HCV.out).inRound l).mono ?_;rintro e w' ⟨rfl,rfl⟩
    gi_wp2
    refine⟨KeepsOthers.setCell _ _ _,(Kept.refl _ _).setCell (by simp;omega) _,?_,?_,?_,?_,?_⟩
    ·rw [bnd_snoc]
     exact q1.set _
    ·exact q2.other (by omega) _
    ·exact HI.out.box.setOther (by omega) _ _
    ·exact HI.out.below.setCell (by simp;omega) _
    ·rw [bnd_snoc];exact hz2
 case done =>
  rintro D W hD hI hKD;have HI:=aq hI;have HKD:=aq hKD;obtain⟨hx1,hx4⟩:=bnd_done (ws:=s.words) (n:=s.keys.length);have HX4:=aq hx4;clear hI hKD hx4;obtain⟨k,hk⟩:∃ k,k=bnd (Oc.places s.words 0 s.keys.length):=⟨_,rfl⟩;have q1:=HI.out.bh;have q2:=HI.out.br;rw [<-hk] at q1 hx1;have HKB:=aq hk;clear hk;have d0:=q1.cell;have d1:=q1.frozen;have d2:=q2.cell;have d3:=q2.frozen;have c2:=HI.out.box.c2;have c3:=HI.out.box.c3;have cpk:=aq HH.out.caps.k1;have cpv:=aq HH.out.caps.v1
  dsimp only at c2 c3 cpk cpv
  have g1:s.keys.length<=ck:=cpk.out;have g2:s.vals.length<=cv:=cpv.out
  have g3:k<=s.vals.length:=by have:=HV.out;omega
  have CK:=sZeros (some ⟨bk,ok+(if ck=k then 0 else k),none⟩) (ck-k) (cutL s.keys k s.keys.length) W (by
   split
   ·exact Or.inl (List.eq_nil_of_length_eq_zero (by rw [cutL_length (Nat.le_refl _)];omega))
   ·exact lst_cut (HH.out.below HI.out.below).keys k _ (Nat.le_refl _)) (by rw [cutL_length (Nat.le_refl _)];omega)
  have CV:=sZeros (some ⟨bv,ov+(if cv=k then 0 else k),none⟩) (cv-k) (cutL s.vals k s.vals.length) W (by
   split
   ·exact Or.inl (List.eq_nil_of_length_eq_zero (by rw [cutL_length (Nat.le_refl _)];omega))
   ·exact lst_cut (HH.out.below HI.out.below).vals k _ (Nat.le_refl _)) (by rw [cutL_length (Nat.le_refl _)];omega)
  rw [cutL_length (Nat.le_refl _)] at CK CV;have HZ:=aq (fun h1 h2=>zeros_on (s:=s) (k:=k) (m:=s.keys.length) HV.out (Nat.le_refl _) (by rw [HKB.out];exact HI.out.zero) (by rw [HKB.out];exact HX4.out) h1 h2);have HZ2:=aq (fun h=>zeros_off (s:=s) (k:=k) (m:=s.keys.length) HV.out (Nat.le_refl _) (by rw [HKB.out];exact HX4.out) h);rw [show cutL s.vals k s.keys.length=cutL s.vals k s.vals.length by rw [HV.out]] at HZ HZ2;obtain⟨r1,hr1⟩:∃ r,r=zerosL (cutL s.keys k s.keys.length):=⟨_,rfl⟩;obtain⟨r2,hr2⟩:∃ r,r=zerosL (cutL s.vals k s.vals.length):=⟨_,rfl⟩;rw [<-hr1] at CK HZ HZ2;rw [<-hr2] at CV HZ HZ2;clear hr1 hr2;have hDlt:D < W.heap.size:=(Array.getElem?_eq_some_iff.1 HKD.out).1;have hM:=aq (fun v=>((Marked.nil W5.heap.size W5.heap.size W).cons hD hDlt hD HKD.out).setCell q2 v);have hR:=aq (fun (v:Value) (w':World) (hb:Below W5.heap.size (W.setCell ⟨w.heap.size+1,0,none⟩ v) w')=>(boxed_keep (q2.set v) hb (by omega)).cell);have hBB:=aq (fun (v:Value) (w':World) (hb:Below W5.heap.size (W.setCell ⟨w.heap.size+1,0,none⟩ v) w')=>(HI.out.below.setCell (p:=⟨w.heap.size+1,0,none⟩) (by simp) v).trans (hb.mono (by omega)));clear hDlt hD HX4
  by_cases e1:ck=k
  all_goals by_cases e2:cv=k
  all_goals
   simp only [e1,e2,if_true,if_false,Nat.sub_self,Nat.add_zero] at CK CV
   have HCK:=aq CK;have HCV:=aq CV;clear CK CV
   cases r1
   ·have hz:=aq (HZ2.out (Or.inl rfl))
    go_wp2_with fail
    refine HCK.out.mono ?_;rintro e w' ⟨rfl,rfl⟩;go_wp2;refine leaves_marked (lo:=W5.heap.size) _ _ _ (hM.out _) ?_;intro w' hb';refine⟨_,(by simp [results,Tryz.results126,go_sem,hR.out _ _ hb'];rfl),?_,hBB.out _ _ hb'⟩;rw [hz.out]
   ·cases r2
    ·have hz:=aq (HZ2.out (Or.inr rfl))
     go_wp2_with fail
     refine HCK.out.mono ?_;rintro e w' ⟨rfl,rfl⟩
     go_wp2_with fail
     refine HCV.out.mono ?_;rintro e w' ⟨rfl,rfl⟩;go_wp2;refine leaves_marked (lo:=W5.heap.size) _ _ _ (hM.out _) ?_;intro w' hb';refine⟨_,(by simp [results,Tryz.results126,go_sem,hR.out _ _ hb'];rfl),?_,hBB.out _ _ hb'⟩;rw [hz.out]
    ·have hz:=aq (HZ.out rfl rfl)
     go_wp2_with fail
     refine HCK.out.mono ?_;rintro e w' ⟨rfl,rfl⟩
     go_wp2_with fail
     refine HCV.out.mono ?_;rintro e w' ⟨rfl,rfl⟩;go_wp2;refine leaves_marked (lo:=W5.heap.size) _ _ _ (hM.out _) ?_;intro w' hb';refine⟨_,(by simp [results,Tryz.results126,go_sem,hR.out _ _ hb'];rfl),?_,hBB.out _ _ hb'⟩;rw [hz.out]
 case stop =>
  rintro D c pre W hD hSp ⟨rfl,hbr,hbW,hz⟩ hKD;have HZ:=aq hz;have HKD:=aq hKD;have hDlt:D < W.heap.size:=(Array.getElem?_eq_some_iff.1 hKD).1;have hM:=aq ((Marked.nil W5.heap.size W5.heap.size W).cons hD hDlt hD hKD);have hR:=aq (fun (w':World) (hb:Below W5.heap.size W w')=>(boxed_keep hbr hb (by omega)).cell);have hBB:=aq (fun (w':World) (hb:Below W5.heap.size W w')=>hbW.trans (hb.mono (by omega)));clear hz hKD hDlt hD;go_wp2;refine leaves_marked (lo:=W5.heap.size) _ _ _ hM.out ?_;intro w' hb';refine⟨_,(by simp [results,Tryz.results126,go_sem,hR.out _ hb'];rfl),?_,hBB.out _ hb'⟩;rw [HZ.out]
end Go.Proofs.YtpeckljoannolaaGreatDoor

/- What package gap's highest returns, of a closure that tells which windows are over. -/
import Derived.Test.YtpeckljoannolaaGreatDoorTkOc
import Derived.Test.YtpeckljoannolaaGreatDoorP9aOc
import Derived.Test.YtpeckljoannolaaGreatDoorP6bOc
import Derived.Test.YtpeckljoannolaaGreatDoorP07Oc
set_option linter.unusedVariables false
set_option linter.unusedSimpArgs false
set_option maxHeartbeats 4000000
set_option maxRecDepth 100000
namespace Go.Proofs.YtpeckljoannolaaGreatDoor
open Go.RowKit Go.Shelf
attribute [local go_sem] Oper.semAt_some
theorem wp_rangeH {P:Program} {α:Type} {g:Operand} {ps:Array Tmp} {assign body:Code} {Q:Exit->Act->World->Prop} {a:Act} {w:World}
  {gf:Nat} {lb:Array Value} (hg:a.eval g=.func (.func gf) #[] lb) (eg:∀ args w,(callFunc gf args).run P w=.ok (.enter gf args) w)
  {encs:α->Array Value} {S Sp:List α->Prop} {N:Nat} (hseq:SeqStopsK Fence.wide 8 P gf lb encs (Below w.heap.size) S Sp N w) (hps:∀ x,(encs x).size=ps.size)
  (I:List α->World->Prop) (Ix:Code->List α->World->Prop) (hI:OwnFrom w.heap.size I) (hIx:∀ c,OwnFrom w.heap.size (Ix c)) (h0:I [] w) (Ax:α->Act->World->Prop) (hAx:∀ x a',OwnFrom w.heap.size (fun (_:Unit) W=>Ax x a' W))
  (hassign:∀ (l:Nat) (pre:List α) (x:α) (W:World) (K:Act->World->Prop),I pre W->(∀ a' W',KeepsFrom w.heap.size W W'->Below w.heap.size W W'->I pre W'->Ax x a' W'->K a' W') ->
   assign.wpIn (Fence.wide.inRound l) 7 P (Exit.then K (fun _ _ _=>False)) { tmps:=(ps.zip (encs x)).foldl (fun t (p,v)=>t.setIfInBounds p v) a.tmps,defers:=[] } W)
  (hbody:∀ (l:Nat) (pre:List α) (x:α) (a':Act) (W:World),w.heap.size<=l->(∃ r,W.heap[l]?=some (.loop r))->I pre W->Ax x a' W->pre.length < N->body.wpIn (Fence.wide.inRound l) 7 P (ownPostG w.heap.size (Below w.heap.size) I Ix (pre++[x]) W) a' W)
  (hdone:∀ (D:Nat) (xs:List α) (W:World),w.heap.size<=D->S xs->I xs W->W.heap[D]?=some (.deferred (some []))->Q .normal { a with defers:={ target:=.collected D,args:=#[] }::a.defers } W)
  (hstop:∀ (D:Nat) (c:Code) (pre:List α) (W:World),w.heap.size<=D->Sp pre->Ix c pre W->W.heap[D]?=some (.deferred (some []))->c.wp P Q { a with defers:={ target:=.collected D,args:=#[] }::a.defers } W) :
  (Code.rangeFunc g ps assign body).wp P Q a w :=
 wpIn_wide.1 (wpIn_rangeFunc_ownH (F:=Fence.wide) (n:=9) rfl (by decide) hg trivial eg hseq belowK_t (belowK_b (Nat.le_refl _)) (Below.refl _ _) hps I Ix hI hIx h0 Ax hAx hassign hbody hdone (fun D c pre W h1 h2 h3 h4=>wpIn_wide.2 (hstop D c pre W h1 h2 h3 h4)))
def bk (ps:List (Int×Int)) (k:Nat):List (Nat×(Int×Int)):=(List.range k).map fun j=>(ps.length-1-j,ps.getD (ps.length-1-j) (0,0))
def bkE (x:Nat×(Int×Int)):Array Value:=#[.int .i64 (x.1:Int),.agg #[.int .i64 x.2.1,.int .i64 x.2.2]]
theorem bk_succ (ps:List (Int×Int)) (k:Nat):bk ps (k+1)=bk ps k++[(ps.length-1-k,ps.getD (ps.length-1-k) (0,0))]:=by
 unfold bk;rw [List.range_succ,List.map_append]
 rfl
theorem bk_length (ps:List (Int×Int)) (k:Nat):(bk ps k).length=k:=by unfold bk;simp
def BkPost (A:Option Addr) (n c:Nat) (w:World) (e:Ending) (w':World):Prop :=
 ∃ B,e=.returned (.func (.func 231) #[] #[.pointer (some ⟨B,0,none⟩)])/\Boxed w' B 191 (.slice A n c)/\w.heap.size<=B/\Below w.heap.size w w'
theorem nBackward (A:Option Addr) (n c:Nat) (w:World):Calls Tryz.prog 207 #[.slice A n c] w (BkPost A n c w):=by
 go_enter Tryz.func207,Tryz.ntmps207
 go_wp2;go_ret;exact⟨_,rfl,Boxed.new w _ _,Nat.le_refl _,(Below.refl _ _).alloc (Nat.le_refl _) _⟩
theorem bk_stops (b off n₀ B c:Nat) (ps:List (Int×Int)) (w:World) (hB:Boxed w B 191 (.slice (some ⟨b,off,none⟩) ps.length c)) (hBn:B < n₀) (hp:PLst w (some ⟨b,off,none⟩) ps) (hb:b < n₀) (hn:n₀<=w.heap.size) (hl:ps.length<=65536) :
  SeqStopsK Fence.wide 8 Tryz.prog 231 #[.pointer (some ⟨B,0,none⟩)] bkE (Below n₀) (fun ys=>ys=bk ps ps.length) (fun pre=>∃ k,k<=ps.length/\pre=bk ps k) ps.length w:=fun l J Jx W hW hJ hJx hY h0=>by
 have hc:=(boxed_low hB hB.lt hW).cell;have HP:=aq (hp.below hW);have HY:=aq hY;have HN:=aq (show n₀<=W.heap.size from Nat.le_trans hn hW.size);clear hY hJ hJx hB hp;obtain⟨n,hnn⟩:∃ n,n=ps.length:=⟨_,rfl⟩;have HL:=aq hnn;rw [<-hnn] at hc hl;clear hnn;refine callsIn_of_wp Tryz.func231 rfl trivial ?_ rfl
 simp only [Tryz.ntmps231,List.size_toArray,List.length_cons,List.length_nil,Nat.reduceAdd,Nat.reduceSub,Array.replicate_succ,Array.replicate_zero,List.push_toArray,List.append_toArray,List.nil_append,List.cons_append]
 gi_wp2
 gi_loopw [3] (fun p wr=>∃ k:Nat,k<=n/\p=.int .i64 ((n:Int)-1-k)/\J (bk ps k) wr/\Below n₀ W wr) (fun p _=>(intOf p+1).toNat)
 case atStart=>exact⟨0,Nat.zero_le _,by go_num,h0,Below.refl _ _⟩
 case round =>
  obtain⟨k,hk,rfl,hJs,hnx⟩:=hrel;have hc2:=(hnx.cell (p:=⟨B,0,none⟩) hBn).trans hc
  by_cases hlt:k < n
  ·obtain⟨m,hm⟩:∃ m:Nat,m=n-1-k:=⟨_,rfl⟩
   have hmi:(n:Int)-1-k=(m:Int):=by omega
   have hmn:m < n:=by omega
   rw [hmi];obtain⟨fn,tmps,assign,body,hy,hR⟩:=HY.out _ (m,ps.getD m (0,0)) wr hJs (by rw [bk_length,<-HL.out];exact hlt);have HS:=aq (show bk ps (k+1)=bk ps k++[(m,ps.getD m (0,0))] by rw [bk_succ,<-HL.out,<-hm]);obtain⟨b',off',hA,_,hx,hy2⟩:=HP.out.pair (i:=m) (by rw [<-HL.out];exact hmn)
   injection hA with hA
   injection hA with hA1 hA2
   subst hA1 hA2;replace hx:=(hnx.cell (p:=⟨b,off+m*2,none⟩) hb).trans hx;replace hy2:=(hnx.cell (p:=⟨b,off+m*2+1,none⟩) hb).trans hy2;unfold bkE at hy
   dsimp only at hy
   rw [<-HS.out] at hR;have HM:=aq hmi;clear HS hm hmi;obtain⟨z,hz⟩:∃ z,ps.getD m (0,0)=z:=⟨_,rfl⟩;rw [hz] at hx hy2 hy;clear hz;have HK:=aq hk;have HX:=aq hnx;clear hk hnx
   gi_wp2
   refine hR.mono ?_;rintro e W3 (⟨rfl,hJ3,hk3⟩ | ⟨rfl,hJx3⟩)
   ·gi_wp2
    have h9:=HM.out
    go_roundw
    case rel=>exact⟨k+1,by omega,by go_num,hJ3,HX.out.trans hk3⟩
    case measure=>simp [intOf]<;>omega
   ·gi_wp2
    refine bodyPost_ret (results_none rfl _ _ _) rfl ?_;exact⟨⟨_,rfl⟩,.inr ⟨_,⟨k+1,by rw [<-HL.out];omega,rfl⟩,hJx3⟩⟩
  ·obtain rfl:k=n:=by omega
   gi_wp2
   go_end0
   exact⟨⟨_,rfl⟩,.inl ⟨_,by rw [HL.out],hJs⟩⟩
namespace Gp
theorem in_bd {s:Sl} (hs:s.Short) (x y:Int):0<=inV s x y/\inV s x y<=65536:=by
 have:=hs.keys;unfold inV Oc.countV
 split
 ·rename_i h
  refine⟨by omega,?_⟩;unfold Oc.countE at h
  split at h
  ·split at h
   ·omega
   ·have:=Oc.places_length_le s.words x.toNat y.toNat
    omega
  ·omega
 ·omega
theorem top_none {p:Nat->Bool}:∀ n:Nat,(∀ k,k < n->p k=false)->topF p n=-1
 | 0,_=>rfl
 | n+1,h=>by
  unfold topF;rw [h n (by omega)];exact top_none n fun k hk=>h k (by omega)
theorem top_some {p:Nat->Bool}:∀ (n m:Nat),m < n->p m=true->(∀ k,m < k->k < n->p k=false)->topF p n=m
 | 0,m,h,_,_=>absurd h (Nat.not_lt_zero _)
 | n+1,m,h,hp,hk=>by
  unfold topF
  by_cases e:m=n
  ·subst e;rw [hp];rfl
  ·rw [hk n (by omega) (by omega)]
   exact top_some n m (by omega) hp fun k h1 h2=>hk k h1 (by omega)
end Gp
theorem bk_mem {ps:List (Int×Int)} {k:Nat} {z:Nat×(Int×Int)}:z∈bk ps k↔∃ j:Nat,j < k/\(ps.length-1-j,ps.getD (ps.length-1-j) (0,0))=z:=by
 unfold bk;rw [List.mem_map]
 simp only [List.mem_range]
theorem hi_none {q:Nat->Int->Bool} {s:Sl} {ps:List (Int×Int)} (xs:List (Nat×(Int×Int))) (hx:xs=bk ps ps.length) (hn:∀ z∈xs,(fun z:Nat×(Int×Int)=>q z.1 (Gp.inV s z.2.1 z.2.2)) z=false):Gp.topF (fun k=>q k (Gp.inV s (ps.getD k (0,0)).1 (ps.getD k (0,0)).2)) ps.length=-1:=by
 refine Gp.top_none _ fun k hk=>?_;have:=hn (k,ps.getD k (0,0)) (by rw [hx];exact bk_mem.2 ⟨ps.length-1-k,by omega,by rw [show ps.length-1-(ps.length-1-k)=k from by omega]⟩);exact this
theorem hi_some {q:Nat->Int->Bool} {s:Sl} {ps:List (Int×Int)} (k:Nat) (x:Nat×(Int×Int)) (r:List (Nat×(Int×Int))) (hk:k<=ps.length) (hx:bk ps k=r++[x]) (hp:(fun z:Nat×(Int×Int)=>q z.1 (Gp.inV s z.2.1 z.2.2)) x=true) (hn:∀ z∈r,(fun z:Nat×(Int×Int)=>q z.1 (Gp.inV s z.2.1 z.2.2)) z=false):Gp.topF (fun k=>q k (Gp.inV s (ps.getD k (0,0)).1 (ps.getD k (0,0)).2)) ps.length=(x.1:Int):=by
 cases k with
 | zero =>
  have h:=congrArg List.length hx;rw [bk_length,List.length_append,List.length_singleton] at h
  omega
 | succ k =>
  rw [bk_succ] at hx;obtain⟨e1,e2⟩:=List.append_inj' hx rfl
  injection e2 with e2
  subst e1 e2;refine Gp.top_some _ _ (by dsimp only;omega) hp fun j h1 h2=>?_
  dsimp only at h1
  have:=hn (j,ps.getD j (0,0)) (bk_mem.2 ⟨ps.length-1-j,by omega,by rw [show ps.length-1-(ps.length-1-j)=j from by omega]⟩);exact this
structure HiI (s:Sl) (a:Ads) (w1:World) (g1 g2 g3:Nat) (tf ti:TypeId) (f:Value) (q:Nat->Int->Bool) (pre:List (Nat×(Int×Int))) (W:World):Prop where
 box:Box W g1 s a
 over:Boxed W g2 tf f
 found:Boxed W g3 ti (.int .i64 (-1))
 below:Below w1.heap.size w1 W
 no:∀ z∈pre,(fun z:Nat×(Int×Int)=>q z.1 (Gp.inV s z.2.1 z.2.2)) z=false
theorem hiI_own (s:Sl) (a:Ads) (w1:World) (g1 g2 g3:Nat) (tf ti:TypeId) (f:Value) (q:Nat->Int->Bool) (n:Nat) (hn:w1.heap.size<=n):OwnFrom n (HiI s a w1 g1 g2 g3 tf ti f q):=fun pre A B row hs hg hr =>
 have ho:=Over.of_grown hg hr
 ⟨ho.box hs.box,ho.boxed hs.over,ho.boxed hs.found,ownFrom_below (β:=Unit) (Nat.le_refl _) hn () A B row hs.below hg hr,hs.no⟩
theorem hiI_alloc {s:Sl} {a:Ads} {w1:World} {g1 g2 g3:Nat} {tf ti:TypeId} {f:Value} {q:Nat->Int->Bool} {pre:List (Nat×(Int×Int))} {W:World} (h:HiI s a w1 g1 g2 g3 tf ti f q pre W) (o:Obj):HiI s a w1 g1 g2 g3 tf ti f q pre (W.alloc o) :=
 have hb:=(Below.refl W.heap.size W).alloc (Nat.le_refl _) o
 ⟨h.box.below hb,boxed_low h.over h.over.lt hb,boxed_low h.found h.found.lt hb,h.below.alloc h.below.size o,h.no⟩
def HiX (s:Sl) (w1:World) (n0 g3:Nat) (ti:TypeId) (q:Nat->Int->Bool) (c:Code) (pre:List (Nat×(Int×Int))) (W:World):Prop :=
 c=.exit 0/\∃ (x:Nat×(Int×Int)) (r:List (Nat×(Int×Int))),pre=r++[x]/\(fun z:Nat×(Int×Int)=>q z.1 (Gp.inV s z.2.1 z.2.2)) x=true/\(∀ z∈r,(fun z:Nat×(Int×Int)=>q z.1 (Gp.inV s z.2.1 z.2.2)) z=false)/\Boxed W g3 ti (.int .i64 (x.1:Int))/\Below n0 w1 W
theorem hiX_own (s:Sl) (w1:World) (n0 g3:Nat) (ti:TypeId) (q:Nat->Int->Bool) (n:Nat) (c:Code) (h0:n0<=w1.heap.size) (hn:w1.heap.size<=n):OwnFrom n (HiX s w1 n0 g3 ti q c):=by
 rintro pre A B row ⟨hc,x,r,h1,h2,h3,hb,hbel⟩ hg hr;have ho:=Over.of_grown hg hr;exact⟨hc,x,r,h1,h2,h3,ho.boxed hb,ownFrom_below (β:=Unit) h0 (by omega) () A B row hbel hg hr⟩
theorem hi_cells {W:World} {g1 g2 g4:Nat} {s:Sl} {a:Ads} {tf t4:TypeId} {f:Value} {x y:Int} (X:Box W g1 s a) (O:Boxed W g2 tf f) (Y:W.heap[g4]?=some (.cells #[.int .i64 x,.int .i64 y] t4)) :
  W.cell? ⟨g1,0,none⟩=some (.int .i64 s.seg)/\W.cell? ⟨g1,1,none⟩=some (.slice a.w s.words.length a.cw)/\W.cell? ⟨g1,2,none⟩=some (.slice a.k s.keys.length a.ck)/\W.cell? ⟨g1,3,none⟩=some (.slice a.v s.vals.length a.cv)/\W.cell? ⟨g1,4,none⟩=some (.slice a.c s.counts.length a.cc)/\W.cell? ⟨g1,5,none⟩=some (.int .u64 (s.laid:Int))/\W.cell? ⟨g2,0,none⟩=some f/\W.cell? ⟨g4,0,none⟩=some (.int .i64 x)/\W.cell? ⟨g4,1,none⟩=some (.int .i64 y):=by
 refine⟨X.c0,X.c1,X.c2,X.c3,X.c4,X.c5,O.cell,?_,?_⟩
 ·simp only [World.cell?,Y];rfl
 ·simp only [World.cell?,Y];rfl
theorem gHighPut (s:Sl) (a:Ads) (b cA:Nat) (ps:List (Int×Int)) (b1 b2:Nat) (q:Nat->Int->Bool) (w:World) (h:Held w s a) (hok:s.Ok) (hs:s.Short) (hp:PLst w (some ⟨b,0,none⟩) ps) (h0:0 < ps.length) (hl:ps.length<=65536)
  (HO:∀ (x:Nat) (n:Int) W,0<=n->n<=65536->Below w.heap.size w W->Calls Tryz.prog 170 #[.int .i64 (x:Int),.int .i64 n,.pointer (some ⟨b1,0,none⟩),.pointer (some ⟨b2,0,none⟩)] W fun e w'=>e=.returned (.bool (q x n))/\Below W.heap.size W w') :
  Calls Tryz.prog 169 #[slv s a,.slice (some ⟨b,0,none⟩) ps.length cA,.func (.func 170) #[] #[.pointer (some ⟨b1,0,none⟩),.pointer (some ⟨b2,0,none⟩)]] w fun e w'=>e=.returned (.int .i64 (Gp.topF (fun k=>q k (Gp.inV s (ps.getD k (0,0)).1 (ps.getD k (0,0)).2)) ps.length))/\Below w.heap.size w w':=by
 have hbw:b < w.heap.size:=by obtain⟨b',off',e,h1,_⟩:=hp.pair (i:=0) h0;injection e with e;injection e with e1 e2;omega
 have CP:=aq (fun (x y:Int) W (hb:Below w.heap.size w W)=>gPairsIn s a x y W (h.below hb) hok hs);have IB:=aq (fun (x y:Int)=>Gp.in_bd hs x y);have HO1:=aq HO;have NONE:=aq (fun xs hx hn=>hi_none (q:=q) (s:=s) (ps:=ps) xs hx hn);have SOME:=aq (fun k x r h1 h2 h3 h4=>hi_some (q:=q) (s:=s) (ps:=ps) k x r h1 h2 h3 h4);obtain⟨R,hR⟩:∃ R,R=Gp.topF (fun k=>q k (Gp.inV s (ps.getD k (0,0)).1 (ps.getD k (0,0)).2)) ps.length:=⟨_,rfl⟩;rw [<-hR] at NONE SOME ⊢;clear hR;obtain⟨W0,hW0⟩:∃ W0,W0=((w.alloc (.cells #[.int .i64 s.seg,.slice a.w s.words.length a.cw,.slice a.k s.keys.length a.ck,.slice a.v s.vals.length a.cv,.slice a.c s.counts.length a.cc,.int .u64 (s.laid:Int)] 29)).alloc (.cells #[.func (.func 170) #[] #[.pointer (some ⟨b1,0,none⟩),.pointer (some ⟨b2,0,none⟩)]] 147)).alloc (.cells #[.int .i64 (-1)] 3):=⟨_,rfl⟩;have BB:=aq (show Below w.heap.size w W0 by rw [hW0];exact (((Below.refl w.heap.size w).alloc (Nat.le_refl _) _).alloc (by simp) _).alloc (by simp;omega) _);have BX:=aq (show Box W0 w.heap.size s a by rw [hW0];exact ((Box.new w s a 29).below ((Below.refl _ _).alloc (Nat.le_refl _) _)).below ((Below.refl _ _).alloc (Nat.le_refl _) _));have BO:=aq (show Boxed W0 (w.heap.size+1) 147 (.func (.func 170) #[] #[.pointer (some ⟨b1,0,none⟩),.pointer (some ⟨b2,0,none⟩)]) by rw [hW0];have:=(Boxed.new (w.alloc (.cells #[.int .i64 s.seg,.slice a.w s.words.length a.cw,.slice a.k s.keys.length a.ck,.slice a.v s.vals.length a.cv,.slice a.c s.counts.length a.cc,.int .u64 (s.laid:Int)] 29)) 147 (.func (.func 170) #[] #[.pointer (some ⟨b1,0,none⟩),.pointer (some ⟨b2,0,none⟩)])).alloc (.cells #[.int .i64 (-1)] 3);rwa [World.size_alloc] at this)
 have BF:=aq (show Boxed W0 (w.heap.size+1+1) 3 (.int .i64 (-1)) by rw [hW0];have:=Boxed.new ((w.alloc (.cells #[.int .i64 s.seg,.slice a.w s.words.length a.cw,.slice a.k s.keys.length a.ck,.slice a.v s.vals.length a.cv,.slice a.c s.counts.length a.cc,.int .u64 (s.laid:Int)] 29)).alloc (.cells #[.func (.func 170) #[] #[.pointer (some ⟨b1,0,none⟩),.pointer (some ⟨b2,0,none⟩)]] 147)) 3 (.int .i64 (-1));rwa [World.size_alloc,World.size_alloc] at this);have HP:=aq hp
 have zz:w.heap.size+3<=W0.heap.size:=by rw [hW0];simp
 clear h hok hs hp HO h0;unfold slv;refine calls_marks Tryz.func169 rfl ?_
 simp only [Tryz.ntmps169,List.size_toArray,List.length_cons,List.length_nil,Nat.reduceAdd,Nat.reduceSub,Array.replicate_succ,Array.replicate_zero,List.push_toArray,List.append_toArray,List.nil_append,List.cons_append]
 go_wp2_with fail
 go_step3
 go_wp2_with fail
 rw [<-hW0];clear hW0
 go_step3
 go_wp2_with fail
 refine (nBackward _ _ _ _).mono ?_;rintro e w1 ⟨B,rfl,hBx,hBs,hb⟩;have B1:=aq (BB.out.trans (hb.mono BB.out.size));have X1:=aq (BX.out.below hb);have O1:=aq (boxed_low BO.out BO.out.lt hb);have F1:=aq (boxed_low BF.out BF.out.lt hb);have P1:=aq (HP.out.below B1.out);have HB:=aq hBx;have hBl:=hBx.lt;have zs:=hb.size;clear BB BX BO BF HP hb hBx
 go_wp2_with fail
 refine wp_rangeH (gf:=231) (lb:=#[.pointer (some ⟨B,0,none⟩)]) rfl (enters_of Tryz.func231 (by kernel_rfl) rfl)
  (bk_stops b 0 w1.heap.size B cA ps w1 HB.out hBl P1.out (Nat.lt_of_lt_of_le hbw B1.out.size) (Nat.le_refl _) hl) (fun _=>rfl)
  (HiI s a w1 w.heap.size (w.heap.size+1) (w.heap.size+1+1) 147 3 (.func (.func 170) #[] #[.pointer (some ⟨b1,0,none⟩),.pointer (some ⟨b2,0,none⟩)]) q) (HiX s w1 w.heap.size (w.heap.size+1+1) 3 q) (hiI_own _ _ _ _ _ _ _ _ _ _ _ (Nat.le_refl _)) (fun c=>hiX_own _ _ _ _ _ _ _ _ (by omega) (Nat.le_refl _)) ⟨X1.out,O1.out,F1.out,Below.refl _ _,fun x hx=>by cases hx⟩
  (fun z a' W=>∃ Bx,w1.heap.size<=Bx/\W.heap[Bx]?=some (.cells #[.int .i64 z.2.1,.int .i64 z.2.2] 195)/\a'={ tmps:=#[.agg #[.int .i64 s.seg,.slice a.w s.words.length a.cw,.slice a.k s.keys.length a.ck,.slice a.v s.vals.length a.cv,.slice a.c s.counts.length a.cc,.int .u64 (s.laid:Int)],.slice (some ⟨b,0,none⟩) ps.length cA,.func (.func 170) #[] #[.pointer (some ⟨b1,0,none⟩),.pointer (some ⟨b2,0,none⟩)],.pointer (some ⟨w.heap.size,0,none⟩),undef,.pointer (some ⟨w.heap.size+1,0,none⟩),.int .i64 0,.pointer (some ⟨w.heap.size+1+1,0,none⟩),.int .i64 (z.1:Int),.pointer (some ⟨Bx,0,none⟩),.slice (some ⟨b,0,none⟩) ps.length cA,.func (.func 231) #[] #[.pointer (some ⟨B,0,none⟩)],.int .i64 (z.1:Int),.agg #[.int .i64 z.2.1,.int .i64 z.2.2],undef,undef,undef,undef,undef,undef,undef,undef],defers:=[] }) (fun z a'=>ownFrom_over (fun _ A B' ho ⟨Bx,h1,h2,h3⟩=>⟨Bx,h1,ho.cells _ _ h2 rfl,h3⟩)) ?assign ?body ?done ?stop
 case assign =>
  rintro l pre ⟨h',x,y⟩ W K hI hK;have sz:=hI.below.size;have I2:=hiI_alloc hI (.cells #[.int .i64 x,.int .i64 y] 195);unfold bkE
  gi_wp2
  exact hK _ _ ((KeepsOthers.alloc _ _).from _) ((Below.refl _ W).alloc sz _) I2 ⟨W.heap.size,sz,World.alloc_heap_new _ _,rfl⟩
 case body =>
  rintro l pre ⟨h',x,y⟩ a' W hl1 ⟨r,hr⟩ hI ⟨Bx,hBx1,YX,rfl⟩ hlen;have dr:=(Below.refl W.heap.size W).drew;have YB:=hI.box;have YO:=hI.over;have YF:=hI.found;have YL:=aq hI.below;have YN:=aq hI.no;have lX:=(Array.getElem?_eq_some_iff.1 YX).1;have sz:=hI.below.size
  dsimp only at YX ⊢
  have CP1:=aq (fun W' (hb:Below W.heap.size W W')=>CP.out x y W' (B1.out.trans ((YL.out.trans (hb.mono sz)).mono B1.out.size)));have CO1:=aq (fun W' (hb:Below W.heap.size W W')=>HO1.out h' (Gp.inV s x y) W' (IB.out x y).1 (IB.out x y).2 (B1.out.trans ((YL.out.trans (hb.mono sz)).mono B1.out.size)));have HQ:=aq (show ∀ qq,q h' (Gp.inV s x y)=qq->(fun z:Nat×(Int×Int)=>q z.1 (Gp.inV s z.2.1 z.2.2)) (h',x,y)=qq from fun qq hq=>hq);unfold slv at CP1;clear hI
  cases hq:q h' (Gp.inV s x y)
  ·have HQ1:=aq (HQ.out _ hq)
   rw [hq] at CO1;generalize Gp.inV s x y=nv at CP1 CO1;clear hq HQ
   gi_wp2
   refine wpIn_round_held (S:=(fun w'=>(w'.cell? ⟨w.heap.size,0,none⟩=some (.int .i64 s.seg)/\w'.cell? ⟨w.heap.size,1,none⟩=some (.slice a.w s.words.length a.cw)/\w'.cell? ⟨w.heap.size,2,none⟩=some (.slice a.k s.keys.length a.ck)/\w'.cell? ⟨w.heap.size,3,none⟩=some (.slice a.v s.vals.length a.cv)/\w'.cell? ⟨w.heap.size,4,none⟩=some (.slice a.c s.counts.length a.cc)/\w'.cell? ⟨w.heap.size,5,none⟩=some (.int .u64 (s.laid:Int))/\w'.cell? ⟨w.heap.size+1,0,none⟩=some (.func (.func 170) #[] #[.pointer (some ⟨b1,0,none⟩),.pointer (some ⟨b2,0,none⟩)])/\w'.cell? ⟨Bx,0,none⟩=some (.int .i64 x)/\w'.cell? ⟨Bx,1,none⟩=some (.int .i64 y))/\Hid (Below W.heap.size W w'))) (by kernel_rfl) (by kernel_rfl) (fun ⟨_,_,h⟩=>h) (⟨hi_cells (YB.below dr) (boxed_low YO YO.lt dr) ((dr.block Bx lX).trans YX),aq dr⟩) (fun hHeld=>?_);refine tk 0 ?_;refine tk 1 ?_;refine tk 2 ?_;refine tk 3 ?_;refine rdH 4 fun K hK=>?_;go_simp;refine (CP1.out _ (hHeld.2.out)).mono ?_;rintro e W5 ⟨rfl,hb1⟩;go_simp;refine hK.out _ _ (by have q:=hHeld.2.out.trans (hb1.mono hHeld.2.out.size);exact⟨hi_cells (YB.below q) (boxed_low YO YO.lt q) ((q.block Bx lX).trans YX),aq q⟩) (fun hHeldp1=>?_);clear hK K hHeld
   try simp only [sZ]
   refine rdH 5 fun K hK=>?_;go_simp;refine (CO1.out _ (hHeldp1.2.out)).mono ?_;rintro e W6 ⟨rfl,hb2⟩;go_simp;refine hK.out _ _ (by have q:=hHeldp1.2.out.trans (hb2.mono hHeldp1.2.out.size);exact⟨hi_cells (YB.below q) (boxed_low YO YO.lt q) ((q.block Bx lX).trans YX),aq q⟩) (fun hHeldp2=>?_);clear hK K hHeldp1
   try simp only [sZ]
   refine wpAnyH_done (by kernel_rfl) ?_ _;have q9:=hHeldp2.2.out;clear hHeldp2;have KO:=keeps_of_belowW q9
   gi_wp2
   exact⟨KO.from _,q9.mono sz,YB.below q9,boxed_low YO YO.lt q9,boxed_low YF YF.lt q9,YL.out.trans (q9.mono sz),fun z hz=>by rcases List.mem_append.1 hz with hz | hz;exact YN.out z hz;rw [List.mem_singleton.1 hz];exact HQ1.out⟩
  ·have HQ1:=aq (HQ.out _ hq)
   rw [hq] at CO1;generalize Gp.inV s x y=nv at CP1 CO1;clear hq HQ
   gi_wp2
   refine wpIn_round_held (S:=(fun w'=>(w'.cell? ⟨w.heap.size,0,none⟩=some (.int .i64 s.seg)/\w'.cell? ⟨w.heap.size,1,none⟩=some (.slice a.w s.words.length a.cw)/\w'.cell? ⟨w.heap.size,2,none⟩=some (.slice a.k s.keys.length a.ck)/\w'.cell? ⟨w.heap.size,3,none⟩=some (.slice a.v s.vals.length a.cv)/\w'.cell? ⟨w.heap.size,4,none⟩=some (.slice a.c s.counts.length a.cc)/\w'.cell? ⟨w.heap.size,5,none⟩=some (.int .u64 (s.laid:Int))/\w'.cell? ⟨w.heap.size+1,0,none⟩=some (.func (.func 170) #[] #[.pointer (some ⟨b1,0,none⟩),.pointer (some ⟨b2,0,none⟩)])/\w'.cell? ⟨Bx,0,none⟩=some (.int .i64 x)/\w'.cell? ⟨Bx,1,none⟩=some (.int .i64 y))/\Hid (Below W.heap.size W w'))) (by kernel_rfl) (by kernel_rfl) (fun ⟨_,_,h⟩=>h) (⟨hi_cells (YB.below dr) (boxed_low YO YO.lt dr) ((dr.block Bx lX).trans YX),aq dr⟩) (fun hHeld=>?_);refine tk 0 ?_;refine tk 1 ?_;refine tk 2 ?_;refine tk 3 ?_;refine rdH 4 fun K hK=>?_;go_simp;refine (CP1.out _ (hHeld.2.out)).mono ?_;rintro e W5 ⟨rfl,hb1⟩;go_simp;refine hK.out _ _ (by have q:=hHeld.2.out.trans (hb1.mono hHeld.2.out.size);exact⟨hi_cells (YB.below q) (boxed_low YO YO.lt q) ((q.block Bx lX).trans YX),aq q⟩) (fun hHeldr1=>?_);clear hK K hHeld
   try simp only [sZ]
   refine rdH 5 fun K hK=>?_;go_simp;refine (CO1.out _ (hHeldr1.2.out)).mono ?_;rintro e W6 ⟨rfl,hb2⟩;go_simp;refine hK.out _ _ (by have q:=hHeldr1.2.out.trans (hb2.mono hHeldr1.2.out.size);exact⟨hi_cells (YB.below q) (boxed_low YO YO.lt q) ((q.block Bx lX).trans YX),aq q⟩) (fun hHeldr2=>?_);clear hK K hHeldr1
   try simp only [sZ]
   refine wpAnyH_done (by kernel_rfl) ?_ _;have q9:=hHeldr2.2.out;clear hHeldr2;have KO:=keeps_of_belowW q9;have YF2:=boxed_low YF YF.lt q9;have cF:=YF2.cell;have fF:=YF2.frozen;have zl:=q9.size
   gi_wp2
   exact⟨(KO.trans (KeepsOthers.setCell _ _ _)).from _,rfl,(h',x,y),pre,rfl,HQ1.out,YN.out,YF2.set _,((YL.out.trans (q9.mono sz)).mono (by omega)).setCell (by simp;omega) _⟩
 case done =>
  rintro D xs W hD hS hI hKD;have E:=aq (NONE.out xs hS hI.no);have d0:=hI.found.cell;have HBL:=aq (B1.out.trans (hI.below.mono B1.out.size));have hKD2:=aq hKD;have hD0:w.heap.size<=D:=Nat.le_trans B1.out.size hD;clear hI hKD hS;go_wp2;refine leaves_one hKD2.out ?_;refine⟨_,results_tmp rfl _ _ _,?_,?_⟩
  ·rw [E.out];rfl
  ·exact HBL.out.trans ((Below.refl w.heap.size W).grown (grownBy_putObj' W D _) (by have:=HBL.out.size;omega) (fun k e=>by cases e;omega))
 case stop =>
  rintro D c pre W hD ⟨k,hk,hpre⟩ ⟨rfl,x,r,hr,hx,hn,hbx,hbel⟩ hKD;have E:=aq (SOME.out k x r hk (hpre.symm.trans hr) hx hn);have d0:=hbx.cell;have HBL:=aq ((B1.out).trans hbel);have hKD2:=aq hKD;have hD0:w.heap.size<=D:=Nat.le_trans B1.out.size hD;clear hbx hbel hKD hr hx hn hpre;go_wp2;refine leaves_one hKD2.out ?_;refine⟨_,results_tmp rfl _ _ _,?_,?_⟩
  ·rw [E.out];rfl
  ·exact HBL.out.trans ((Below.refl w.heap.size W).grown (grownBy_putObj' W D _) (by have:=HBL.out.size;omega) (fun k e=>by cases e;omega))
theorem gHighTake (s:Sl) (a:Ads) (b cA:Nat) (ps:List (Int×Int)) (b1 b2:Nat) (q:Nat->Int->Bool) (w:World) (h:Held w s a) (hok:s.Ok) (hs:s.Short) (hp:PLst w (some ⟨b,0,none⟩) ps) (h0:0 < ps.length) (hl:ps.length<=65536)
  (HO:∀ (x:Nat) (n:Int) W,0<=n->n<=65536->Below w.heap.size w W->Calls Tryz.prog 195 #[.int .i64 (x:Int),.int .i64 n,.pointer (some ⟨b1,0,none⟩),.pointer (some ⟨b2,0,none⟩)] W fun e w'=>e=.returned (.bool (q x n))/\Below W.heap.size W w') :
  Calls Tryz.prog 169 #[slv s a,.slice (some ⟨b,0,none⟩) ps.length cA,.func (.func 195) #[] #[.pointer (some ⟨b1,0,none⟩),.pointer (some ⟨b2,0,none⟩)]] w fun e w'=>e=.returned (.int .i64 (Gp.topF (fun k=>q k (Gp.inV s (ps.getD k (0,0)).1 (ps.getD k (0,0)).2)) ps.length))/\Below w.heap.size w w':=by
 have hbw:b < w.heap.size:=by obtain⟨b',off',e,h1,_⟩:=hp.pair (i:=0) h0;injection e with e;injection e with e1 e2;omega
 have CP:=aq (fun (x y:Int) W (hb:Below w.heap.size w W)=>gPairsIn s a x y W (h.below hb) hok hs);have IB:=aq (fun (x y:Int)=>Gp.in_bd hs x y);have HO1:=aq HO;have NONE:=aq (fun xs hx hn=>hi_none (q:=q) (s:=s) (ps:=ps) xs hx hn);have SOME:=aq (fun k x r h1 h2 h3 h4=>hi_some (q:=q) (s:=s) (ps:=ps) k x r h1 h2 h3 h4);obtain⟨R,hR⟩:∃ R,R=Gp.topF (fun k=>q k (Gp.inV s (ps.getD k (0,0)).1 (ps.getD k (0,0)).2)) ps.length:=⟨_,rfl⟩;rw [<-hR] at NONE SOME ⊢;clear hR;obtain⟨W0,hW0⟩:∃ W0,W0=((w.alloc (.cells #[.int .i64 s.seg,.slice a.w s.words.length a.cw,.slice a.k s.keys.length a.ck,.slice a.v s.vals.length a.cv,.slice a.c s.counts.length a.cc,.int .u64 (s.laid:Int)] 29)).alloc (.cells #[.func (.func 195) #[] #[.pointer (some ⟨b1,0,none⟩),.pointer (some ⟨b2,0,none⟩)]] 147)).alloc (.cells #[.int .i64 (-1)] 3):=⟨_,rfl⟩;have BB:=aq (show Below w.heap.size w W0 by rw [hW0];exact (((Below.refl w.heap.size w).alloc (Nat.le_refl _) _).alloc (by simp) _).alloc (by simp;omega) _);have BX:=aq (show Box W0 w.heap.size s a by rw [hW0];exact ((Box.new w s a 29).below ((Below.refl _ _).alloc (Nat.le_refl _) _)).below ((Below.refl _ _).alloc (Nat.le_refl _) _));have BO:=aq (show Boxed W0 (w.heap.size+1) 147 (.func (.func 195) #[] #[.pointer (some ⟨b1,0,none⟩),.pointer (some ⟨b2,0,none⟩)]) by rw [hW0];have:=(Boxed.new (w.alloc (.cells #[.int .i64 s.seg,.slice a.w s.words.length a.cw,.slice a.k s.keys.length a.ck,.slice a.v s.vals.length a.cv,.slice a.c s.counts.length a.cc,.int .u64 (s.laid:Int)] 29)) 147 (.func (.func 195) #[] #[.pointer (some ⟨b1,0,none⟩),.pointer (some ⟨b2,0,none⟩)])).alloc (.cells #[.int .i64 (-1)] 3);rwa [World.size_alloc] at this)
 have BF:=aq (show Boxed W0 (w.heap.size+1+1) 3 (.int .i64 (-1)) by rw [hW0];have:=Boxed.new ((w.alloc (.cells #[.int .i64 s.seg,.slice a.w s.words.length a.cw,.slice a.k s.keys.length a.ck,.slice a.v s.vals.length a.cv,.slice a.c s.counts.length a.cc,.int .u64 (s.laid:Int)] 29)).alloc (.cells #[.func (.func 195) #[] #[.pointer (some ⟨b1,0,none⟩),.pointer (some ⟨b2,0,none⟩)]] 147)) 3 (.int .i64 (-1));rwa [World.size_alloc,World.size_alloc] at this);have HP:=aq hp
 have zz:w.heap.size+3<=W0.heap.size:=by rw [hW0];simp
 clear h hok hs hp HO h0;unfold slv;refine calls_marks Tryz.func169 rfl ?_
 simp only [Tryz.ntmps169,List.size_toArray,List.length_cons,List.length_nil,Nat.reduceAdd,Nat.reduceSub,Array.replicate_succ,Array.replicate_zero,List.push_toArray,List.append_toArray,List.nil_append,List.cons_append]
 go_wp2_with fail
 go_step3
 go_wp2_with fail
 rw [<-hW0];clear hW0
 go_step3
 go_wp2_with fail
 refine (nBackward _ _ _ _).mono ?_;rintro e w1 ⟨B,rfl,hBx,hBs,hb⟩;have B1:=aq (BB.out.trans (hb.mono BB.out.size));have X1:=aq (BX.out.below hb);have O1:=aq (boxed_low BO.out BO.out.lt hb);have F1:=aq (boxed_low BF.out BF.out.lt hb);have P1:=aq (HP.out.below B1.out);have HB:=aq hBx;have hBl:=hBx.lt;have zs:=hb.size;clear BB BX BO BF HP hb hBx
 go_wp2_with fail
 refine wp_rangeH (gf:=231) (lb:=#[.pointer (some ⟨B,0,none⟩)]) rfl (enters_of Tryz.func231 (by kernel_rfl) rfl)
  (bk_stops b 0 w1.heap.size B cA ps w1 HB.out hBl P1.out (Nat.lt_of_lt_of_le hbw B1.out.size) (Nat.le_refl _) hl) (fun _=>rfl)
  (HiI s a w1 w.heap.size (w.heap.size+1) (w.heap.size+1+1) 147 3 (.func (.func 195) #[] #[.pointer (some ⟨b1,0,none⟩),.pointer (some ⟨b2,0,none⟩)]) q) (HiX s w1 w.heap.size (w.heap.size+1+1) 3 q) (hiI_own _ _ _ _ _ _ _ _ _ _ _ (Nat.le_refl _)) (fun c=>hiX_own _ _ _ _ _ _ _ _ (by omega) (Nat.le_refl _)) ⟨X1.out,O1.out,F1.out,Below.refl _ _,fun x hx=>by cases hx⟩
  (fun z a' W=>∃ Bx,w1.heap.size<=Bx/\W.heap[Bx]?=some (.cells #[.int .i64 z.2.1,.int .i64 z.2.2] 195)/\a'={ tmps:=#[.agg #[.int .i64 s.seg,.slice a.w s.words.length a.cw,.slice a.k s.keys.length a.ck,.slice a.v s.vals.length a.cv,.slice a.c s.counts.length a.cc,.int .u64 (s.laid:Int)],.slice (some ⟨b,0,none⟩) ps.length cA,.func (.func 195) #[] #[.pointer (some ⟨b1,0,none⟩),.pointer (some ⟨b2,0,none⟩)],.pointer (some ⟨w.heap.size,0,none⟩),undef,.pointer (some ⟨w.heap.size+1,0,none⟩),.int .i64 0,.pointer (some ⟨w.heap.size+1+1,0,none⟩),.int .i64 (z.1:Int),.pointer (some ⟨Bx,0,none⟩),.slice (some ⟨b,0,none⟩) ps.length cA,.func (.func 231) #[] #[.pointer (some ⟨B,0,none⟩)],.int .i64 (z.1:Int),.agg #[.int .i64 z.2.1,.int .i64 z.2.2],undef,undef,undef,undef,undef,undef,undef,undef],defers:=[] }) (fun z a'=>ownFrom_over (fun _ A B' ho ⟨Bx,h1,h2,h3⟩=>⟨Bx,h1,ho.cells _ _ h2 rfl,h3⟩)) ?assign ?body ?done ?stop
 case assign =>
  rintro l pre ⟨h',x,y⟩ W K hI hK;have sz:=hI.below.size;have I2:=hiI_alloc hI (.cells #[.int .i64 x,.int .i64 y] 195);unfold bkE
  gi_wp2
  exact hK _ _ ((KeepsOthers.alloc _ _).from _) ((Below.refl _ W).alloc sz _) I2 ⟨W.heap.size,sz,World.alloc_heap_new _ _,rfl⟩
 case body =>
  rintro l pre ⟨h',x,y⟩ a' W hl1 ⟨r,hr⟩ hI ⟨Bx,hBx1,YX,rfl⟩ hlen;have dr:=(Below.refl W.heap.size W).drew;have YB:=hI.box;have YO:=hI.over;have YF:=hI.found;have YL:=aq hI.below;have YN:=aq hI.no;have lX:=(Array.getElem?_eq_some_iff.1 YX).1;have sz:=hI.below.size
  dsimp only at YX ⊢
  have CP1:=aq (fun W' (hb:Below W.heap.size W W')=>CP.out x y W' (B1.out.trans ((YL.out.trans (hb.mono sz)).mono B1.out.size)));have CO1:=aq (fun W' (hb:Below W.heap.size W W')=>HO1.out h' (Gp.inV s x y) W' (IB.out x y).1 (IB.out x y).2 (B1.out.trans ((YL.out.trans (hb.mono sz)).mono B1.out.size)));have HQ:=aq (show ∀ qq,q h' (Gp.inV s x y)=qq->(fun z:Nat×(Int×Int)=>q z.1 (Gp.inV s z.2.1 z.2.2)) (h',x,y)=qq from fun qq hq=>hq);unfold slv at CP1;clear hI
  cases hq:q h' (Gp.inV s x y)
  ·have HQ1:=aq (HQ.out _ hq)
   rw [hq] at CO1;generalize Gp.inV s x y=nv at CP1 CO1;clear hq HQ
   gi_wp2
   refine wpIn_round_held (S:=(fun w'=>(w'.cell? ⟨w.heap.size,0,none⟩=some (.int .i64 s.seg)/\w'.cell? ⟨w.heap.size,1,none⟩=some (.slice a.w s.words.length a.cw)/\w'.cell? ⟨w.heap.size,2,none⟩=some (.slice a.k s.keys.length a.ck)/\w'.cell? ⟨w.heap.size,3,none⟩=some (.slice a.v s.vals.length a.cv)/\w'.cell? ⟨w.heap.size,4,none⟩=some (.slice a.c s.counts.length a.cc)/\w'.cell? ⟨w.heap.size,5,none⟩=some (.int .u64 (s.laid:Int))/\w'.cell? ⟨w.heap.size+1,0,none⟩=some (.func (.func 195) #[] #[.pointer (some ⟨b1,0,none⟩),.pointer (some ⟨b2,0,none⟩)])/\w'.cell? ⟨Bx,0,none⟩=some (.int .i64 x)/\w'.cell? ⟨Bx,1,none⟩=some (.int .i64 y))/\Hid (Below W.heap.size W w'))) (by kernel_rfl) (by kernel_rfl) (fun ⟨_,_,h⟩=>h) (⟨hi_cells (YB.below dr) (boxed_low YO YO.lt dr) ((dr.block Bx lX).trans YX),aq dr⟩) (fun hHeld=>?_);refine tk 0 ?_;refine tk 1 ?_;refine tk 2 ?_;refine tk 3 ?_;refine rdH 4 fun K hK=>?_;go_simp;refine (CP1.out _ (hHeld.2.out)).mono ?_;rintro e W5 ⟨rfl,hb1⟩;go_simp;refine hK.out _ _ (by have q:=hHeld.2.out.trans (hb1.mono hHeld.2.out.size);exact⟨hi_cells (YB.below q) (boxed_low YO YO.lt q) ((q.block Bx lX).trans YX),aq q⟩) (fun hHeldp1=>?_);clear hK K hHeld
   try simp only [sZ]
   refine rdH 5 fun K hK=>?_;go_simp;refine (CO1.out _ (hHeldp1.2.out)).mono ?_;rintro e W6 ⟨rfl,hb2⟩;go_simp;refine hK.out _ _ (by have q:=hHeldp1.2.out.trans (hb2.mono hHeldp1.2.out.size);exact⟨hi_cells (YB.below q) (boxed_low YO YO.lt q) ((q.block Bx lX).trans YX),aq q⟩) (fun hHeldp2=>?_);clear hK K hHeldp1
   try simp only [sZ]
   refine wpAnyH_done (by kernel_rfl) ?_ _;have q9:=hHeldp2.2.out;clear hHeldp2;have KO:=keeps_of_belowW q9
   gi_wp2
   exact⟨KO.from _,q9.mono sz,YB.below q9,boxed_low YO YO.lt q9,boxed_low YF YF.lt q9,YL.out.trans (q9.mono sz),fun z hz=>by rcases List.mem_append.1 hz with hz | hz;exact YN.out z hz;rw [List.mem_singleton.1 hz];exact HQ1.out⟩
  ·have HQ1:=aq (HQ.out _ hq)
   rw [hq] at CO1;generalize Gp.inV s x y=nv at CP1 CO1;clear hq HQ
   gi_wp2
   refine wpIn_round_held (S:=(fun w'=>(w'.cell? ⟨w.heap.size,0,none⟩=some (.int .i64 s.seg)/\w'.cell? ⟨w.heap.size,1,none⟩=some (.slice a.w s.words.length a.cw)/\w'.cell? ⟨w.heap.size,2,none⟩=some (.slice a.k s.keys.length a.ck)/\w'.cell? ⟨w.heap.size,3,none⟩=some (.slice a.v s.vals.length a.cv)/\w'.cell? ⟨w.heap.size,4,none⟩=some (.slice a.c s.counts.length a.cc)/\w'.cell? ⟨w.heap.size,5,none⟩=some (.int .u64 (s.laid:Int))/\w'.cell? ⟨w.heap.size+1,0,none⟩=some (.func (.func 195) #[] #[.pointer (some ⟨b1,0,none⟩),.pointer (some ⟨b2,0,none⟩)])/\w'.cell? ⟨Bx,0,none⟩=some (.int .i64 x)/\w'.cell? ⟨Bx,1,none⟩=some (.int .i64 y))/\Hid (Below W.heap.size W w'))) (by kernel_rfl) (by kernel_rfl) (fun ⟨_,_,h⟩=>h) (⟨hi_cells (YB.below dr) (boxed_low YO YO.lt dr) ((dr.block Bx lX).trans YX),aq dr⟩) (fun hHeld=>?_);refine tk 0 ?_;refine tk 1 ?_;refine tk 2 ?_;refine tk 3 ?_;refine rdH 4 fun K hK=>?_;go_simp;refine (CP1.out _ (hHeld.2.out)).mono ?_;rintro e W5 ⟨rfl,hb1⟩;go_simp;refine hK.out _ _ (by have q:=hHeld.2.out.trans (hb1.mono hHeld.2.out.size);exact⟨hi_cells (YB.below q) (boxed_low YO YO.lt q) ((q.block Bx lX).trans YX),aq q⟩) (fun hHeldr1=>?_);clear hK K hHeld
   try simp only [sZ]
   refine rdH 5 fun K hK=>?_;go_simp;refine (CO1.out _ (hHeldr1.2.out)).mono ?_;rintro e W6 ⟨rfl,hb2⟩;go_simp;refine hK.out _ _ (by have q:=hHeldr1.2.out.trans (hb2.mono hHeldr1.2.out.size);exact⟨hi_cells (YB.below q) (boxed_low YO YO.lt q) ((q.block Bx lX).trans YX),aq q⟩) (fun hHeldr2=>?_);clear hK K hHeldr1
   try simp only [sZ]
   refine wpAnyH_done (by kernel_rfl) ?_ _;have q9:=hHeldr2.2.out;clear hHeldr2;have KO:=keeps_of_belowW q9;have YF2:=boxed_low YF YF.lt q9;have cF:=YF2.cell;have fF:=YF2.frozen;have zl:=q9.size
   gi_wp2
   exact⟨(KO.trans (KeepsOthers.setCell _ _ _)).from _,rfl,(h',x,y),pre,rfl,HQ1.out,YN.out,YF2.set _,((YL.out.trans (q9.mono sz)).mono (by omega)).setCell (by simp;omega) _⟩
 case done =>
  rintro D xs W hD hS hI hKD;have E:=aq (NONE.out xs hS hI.no);have d0:=hI.found.cell;have HBL:=aq (B1.out.trans (hI.below.mono B1.out.size));have hKD2:=aq hKD;have hD0:w.heap.size<=D:=Nat.le_trans B1.out.size hD;clear hI hKD hS;go_wp2;refine leaves_one hKD2.out ?_;refine⟨_,results_tmp rfl _ _ _,?_,?_⟩
  ·rw [E.out];rfl
  ·exact HBL.out.trans ((Below.refl w.heap.size W).grown (grownBy_putObj' W D _) (by have:=HBL.out.size;omega) (fun k e=>by cases e;omega))
 case stop =>
  rintro D c pre W hD ⟨k,hk,hpre⟩ ⟨rfl,x,r,hr,hx,hn,hbx,hbel⟩ hKD;have E:=aq (SOME.out k x r hk (hpre.symm.trans hr) hx hn);have d0:=hbx.cell;have HBL:=aq ((B1.out).trans hbel);have hKD2:=aq hKD;have hD0:w.heap.size<=D:=Nat.le_trans B1.out.size hD;clear hbx hbel hKD hr hx hn hpre;go_wp2;refine leaves_one hKD2.out ?_;refine⟨_,results_tmp rfl _ _ _,?_,?_⟩
  ·rw [E.out];rfl
  ·exact HBL.out.trans ((Below.refl w.heap.size W).grown (grownBy_putObj' W D _) (by have:=HBL.out.size;omega) (fun k e=>by cases e;omega))
end Go.Proofs.YtpeckljoannolaaGreatDoor

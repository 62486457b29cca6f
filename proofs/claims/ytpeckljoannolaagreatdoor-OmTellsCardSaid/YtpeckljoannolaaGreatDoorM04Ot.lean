/- What Of, Twin and Emptied of the document's own answers return. -/
import Derived.Test.YtpeckljoannolaaGreatDoorM01Ot
import Derived.Deep.RegionHeld3
import Derived.Test.YtpeckljoannolaaGreatDoorR01Ot
import Derived.Test.YtpeckljoannolaaGreatDoorTkOt
set_option linter.unusedVariables false
set_option linter.unusedSimpArgs false
set_option maxHeartbeats 2000000
set_option maxRecDepth 100000
namespace Go.Proofs.YtpeckljoannolaaGreatDoor
open Go.RowKit
theorem step_zeros {P:Program} {T E:TypeId} {k:IntKind} {bytes:Nat} (hE:Elem P T E (.int k 0) 1 bytes) {w:World} {ops:Array Oper} {o:Oper} {act:Act} {K:Act->World->Prop} {Q:Exit->Act->World->Prop} {F:Prop} (hg:o.guard=none) (l c:Operand)
  (hop:o.op=Op.makeSlice T l c) (kl kc:IntKind) (L C:Int) (n:Nat) (hl:act.eval l=.int kl L) (hc:act.eval c=.int kc C) (hL:L=(n:Int)) (hC:C=(n:Int)) (b2:bytes*n<=281474976710656) (b3:n<=maxLen)
  (h:∀ g w',g=w.heap.size->g < w'.heap.size->New k w' g (some ⟨g,0,none⟩) (List.replicate n 0)->Below g w w'->K (act.put o.dst (.slice (some ⟨g,0,none⟩) n n)) w'):if Region.wanted o (yielded ops act.tmps)=true then Oper.wp P o act w K Q else F:=by
 have hw:Region.wanted o (yielded ops act.tmps)=true:=by simp [Region.wanted,hg]
 rw [if_pos hw];obtain⟨i0,hi0,hz0,hz1,hz2⟩:=hE.info;obtain⟨w',hrun,r1,r2⟩:=run_make_full (P:=P) w w.heap.size T E i0 (.int k 0) 1 hE.und hi0 hz0 hz1 kl kc n (by rw [hz2];exact b2) b3 (Nat.le_refl _);subst hL;subst hC
 have e:(madeCells (Value.int k 0).cells (n*1)).toList=(List.replicate n (0:Int)).map (Value.int k):=by
  rw [show (Value.int k 0).cells=#[Value.int k 0] from rfl,made_one,List.map_replicate]
 rw [e] at r1;have hlt:=(World.ownsRow.lt r1 w.heap.size rfl).2;unfold Oper.wp
 simp [execOp,hop,hl,hc,hrun,Result.andThen]
 exact h _ w' rfl hlt (New.of_own r1) ((Below.refl _ _).grown r2 (Nat.le_refl _) (fun k e=>by cases e))
theorem wpList_copyG {P:Program} {T E:TypeId} {z:Value} {size bytes:Nat} (hE:Elem P T E z size bytes) {w:World} {ops:Array Oper} {rest:List Oper} {o:Oper} {act:Act} {Q:Exit->Act->World->Prop} (hgd:o.guard=none) (s x:Operand)
  (ho:o.op=.call { callee:=.builtin .append,args:=#[s,x],argTypes:=#[T,T] })
  (W:World) (hW:w=W.alloc (.cells #[] E)) (g:Nat) (hg:g=W.heap.size) (a:Option Addr) (n cap:Nat) (xs:List Value) (hs:act.eval s=.slice (some ⟨g,0,none⟩) 0 0) (hx:act.eval x=.slice a n cap)
  (hl:Cells W a xs) (hlen:xs.length=n*size) (h1:∀ u∈xs,u.oneCell'=true) (hnil:a=none->n=0/\cap=0) (h63:n<=maxLen) (hby:n*bytes<=140737488355328)
  (h:∀ A c w',w'.ownsRow W.heap.size E size (.slice A n c) n xs->Cells w' A xs->Below W.heap.size W w'->wpList P ops Q rest (act.put o.dst (.slice A n c)) w'):wpList P ops Q (o::rest) act w:=by
 subst hg;exact wpList_copy hE hgd s x ho W hW a n cap xs hs hx hl hlen h1 hnil h63 hby h
theorem New.setBox {k:IntKind} {w:World} {B:Nat} {a:Option Addr} {zs:List Int} (h:New k w B a zs) {g:Nat} (hg:g < B) (o:Nat) (u:Value):New k (w.setCell ⟨g,o,none⟩ u) B a zs:=by
 rcases h with h0 | ⟨b,off,h1,hB,h2⟩
 ·exact Or.inl h0
 ·refine New.other (Or.inr ⟨b,off,h1,hB,h2⟩) (p:=⟨g,o,none⟩) ?_ u
  intro q hq;rw [h1] at hq
  injection hq with hq
  subst hq
  show b≠g
  omega
theorem Box.setOther {w:World} {g:Nat} {s:Sl} {a:Ads} (h:Box w g s a) {g':Nat} (hne:g'≠g) (o:Nat) (u:Value):Box (w.setCell ⟨g',o,none⟩ u) g s a:=by
 have hc:∀ i,(w.setCell ⟨g',o,none⟩ u).cell? ⟨g,i,none⟩=w.cell? ⟨g,i,none⟩:=fun i=>World.cell?_setCell_other _ _ _ _ (by intro e;injection e with e1;exact hne e1);exact⟨by rw [World.size_setCell];exact h.lt,(hc 0).trans h.c0,(hc 1).trans h.c1,(hc 2).trans h.c2,(hc 3).trans h.c3,(hc 4).trans h.c4,(hc 5).trans h.c5,fun i=>by rw [World.frozen?_setCell];exact h.fz i⟩
theorem Box.cellAt {w:World} {g:Nat} {s:Sl} {a:Ads} (h:Box w g s a):w.cell? ⟨g,0,none⟩=some (.int .i64 s.seg)/\w.cell? ⟨g,1,none⟩=some (.slice a.w s.words.length a.cw)/\w.cell? ⟨g,2,none⟩=some (.slice a.k s.keys.length a.ck)/\w.cell? ⟨g,3,none⟩=some (.slice a.v s.vals.length a.cv)/\w.cell? ⟨g,4,none⟩=some (.slice a.c s.counts.length a.cc)/\w.cell? ⟨g,5,none⟩=some (.int .u64 (s.laid:Int)):=⟨h.c0,h.c1,h.c2,h.c3,h.c4,h.c5⟩
theorem Box.set {w:World} {g:Nat} {s s':Sl} {a a':Ads} (h:Box w g s a) (i:Nat) (u:Value) (hi:i < 6)
  (e0:if i=0 then u=.int .i64 s'.seg else s'.seg=s.seg)
  (e1:if i=1 then u=.slice a'.w s'.words.length a'.cw else (s'.words.length=s.words.length/\a'.w=a.w/\a'.cw=a.cw))
  (e2:if i=2 then u=.slice a'.k s'.keys.length a'.ck else (s'.keys.length=s.keys.length/\a'.k=a.k/\a'.ck=a.ck))
  (e3:if i=3 then u=.slice a'.v s'.vals.length a'.cv else (s'.vals.length=s.vals.length/\a'.v=a.v/\a'.cv=a.cv))
  (e4:if i=4 then u=.slice a'.c s'.counts.length a'.cc else (s'.counts.length=s.counts.length/\a'.c=a.c/\a'.cc=a.cc))
  (e5:if i=5 then u=.int .u64 (s'.laid:Int) else s'.laid=s.laid):Box (w.setCell ⟨g,i,none⟩ u) g s' a':=by
 have hs:∀ {x:Value},w.cell? ⟨g,i,none⟩=some x->(w.setCell ⟨g,i,none⟩ u).cell? ⟨g,i,none⟩=some u:=fun hx=>World.cell?_setCell_same _ _ _ hx;have ho:∀ j,j≠i->(w.setCell ⟨g,i,none⟩ u).cell? ⟨g,j,none⟩=w.cell? ⟨g,j,none⟩:=fun j hj=>World.cell?_setCell_other _ _ _ _ (by intro e;injection e with _ e1;exact hj e1.symm);refine⟨by rw [World.size_setCell];exact h.lt,?_,?_,?_,?_,?_,?_,fun j=>by rw [World.frozen?_setCell];exact h.fz j⟩
 ·by_cases hh:i=0
  ·subst hh;rw [hs h.c0];rw [if_pos rfl] at e0;rw [e0]
  ·rw [ho 0 (fun e=>hh e.symm),h.c0];rw [if_neg hh] at e0;rw [e0]
 ·by_cases hh:i=1
  ·subst hh;rw [hs h.c1];rw [if_pos rfl] at e1;rw [e1]
  ·rw [ho 1 (fun e=>hh e.symm),h.c1];rw [if_neg hh] at e1;rw [e1.1,e1.2.1,e1.2.2]
 ·by_cases hh:i=2
  ·subst hh;rw [hs h.c2];rw [if_pos rfl] at e2;rw [e2]
  ·rw [ho 2 (fun e=>hh e.symm),h.c2];rw [if_neg hh] at e2;rw [e2.1,e2.2.1,e2.2.2]
 ·by_cases hh:i=3
  ·subst hh;rw [hs h.c3];rw [if_pos rfl] at e3;rw [e3]
  ·rw [ho 3 (fun e=>hh e.symm),h.c3];rw [if_neg hh] at e3;rw [e3.1,e3.2.1,e3.2.2]
 ·by_cases hh:i=4
  ·subst hh;rw [hs h.c4];rw [if_pos rfl] at e4;rw [e4]
  ·rw [ho 4 (fun e=>hh e.symm),h.c4];rw [if_neg hh] at e4;rw [e4.1,e4.2.1,e4.2.2]
 ·by_cases hh:i=5
  ·subst hh;rw [hs h.c5];rw [if_pos rfl] at e5;rw [e5]
  ·rw [ho 5 (fun e=>hh e.symm),h.c5];rw [if_neg hh] at e5;rw [e5]
def adsNone:Ads:=⟨none,none,none,none,0,0,0,0⟩
theorem own_where {w:World} {B:Nat} {e:TypeId} {k:IntKind} {A:Option Addr} {n c:Nat} {zs:List Int} (h:w.ownsRow B e 1 (.slice A n c) n (zs.map (Value.int k))) :
  New k w B A zs/\(A=none->n=0/\c=0)/\n<=c/\(∀ p,A=some p->B<=p.block/\p.block < w.heap.size):=by
 obtain⟨A',c',hv,_,h1,h2,h3⟩:=own_cells h
 injection hv with e1 _ e3
 subst e1 e3;exact⟨New.of_own h,h1,h3,fun p hp=>⟨(h2 p hp).1,(h2 p hp).2.2⟩⟩
def put6 (w:World) (g:Nat) (u0 u1 u2 u3 u4 u5:Value):World:=(((((w.setCell ⟨g,0,none⟩ u0).setCell ⟨g,1,none⟩ u1).setCell ⟨g,2,none⟩ u2).setCell ⟨g,3,none⟩ u3).setCell ⟨g,4,none⟩ u4).setCell ⟨g,5,none⟩ u5
theorem New.put6 {k:IntKind} {w:World} {B:Nat} {a:Option Addr} {zs:List Int} (h:New k w B a zs) {g:Nat} (hg:g < B) (u0 u1 u2 u3 u4 u5:Value):New k (put6 w g u0 u1 u2 u3 u4 u5) B a zs :=
 (((((h.setBox hg 0 u0).setBox hg 1 u1).setBox hg 2 u2).setBox hg 3 u3).setBox hg 4 u4).setBox hg 5 u5
theorem below_put6 {B:Nat} {a w:World} (h:Below B a w) {g:Nat} (hg:B<=g) (u0 u1 u2 u3 u4 u5:Value):Below B a (put6 w g u0 u1 u2 u3 u4 u5) :=
 (((((h.setCell (p:=⟨g,0,none⟩) hg u0).setCell (p:=⟨g,1,none⟩) hg u1).setCell (p:=⟨g,2,none⟩) hg u2).setCell (p:=⟨g,3,none⟩) hg u3).setCell (p:=⟨g,4,none⟩) hg u4).setCell (p:=⟨g,5,none⟩) hg u5
theorem apart_of {A B:Option Addr} {m:Nat} (h1:∀ p,A=some p->p.block < m) (h2:∀ p,B=some p->m<=p.block):Apart A B:=fun p q hp hq e=>by
 have:=h1 p hp;have:=h2 q hq
 omega
def Lie (w:World) (B:Nat) (a:Option Addr):Prop:=∀ p,a=some p->B<=p.block/\p.block < w.heap.size
structure Lies (W:World) (B:Nat) (a:Ads):Prop where
 w:Lie W B a.w
 k:Lie W B a.k
 v:Lie W B a.v
 c:Lie W B a.c
theorem Lie.size {w w':World} {B:Nat} {a:Option Addr} (h:Lie w B a) (hs:w.heap.size<=w'.heap.size):Lie w' B a:=fun p hp=>⟨(h p hp).1,Nat.lt_of_lt_of_le (h p hp).2 hs⟩
theorem Lie.set {w:World} {B:Nat} {a:Option Addr} (h:Lie w B a) (p:Addr) (u:Value):Lie (w.setCell p u) B a:=h.size (by rw [World.size_setCell];exact Nat.le_refl _)
theorem Lie.lower {w:World} {B B':Nat} {a:Option Addr} (h:Lie w B a) (hB:B'<=B):Lie w B' a:=fun p hp=>⟨Nat.le_trans hB (h p hp).1,(h p hp).2⟩
theorem Lies.size {w w':World} {B:Nat} {a:Ads} (h:Lies w B a) (hs:w.heap.size<=w'.heap.size):Lies w' B a:=⟨h.w.size hs,h.k.size hs,h.v.size hs,h.c.size hs⟩
theorem Lies.set {w:World} {B:Nat} {a:Ads} (h:Lies w B a) (p:Addr) (u:Value):Lies (w.setCell p u) B a:=h.size (by rw [World.size_setCell];exact Nat.le_refl _)
theorem Lies.lower {w:World} {B B':Nat} {a:Ads} (h:Lies w B a) (hB:B'<=B):Lies w B' a:=⟨h.w.lower hB,h.k.lower hB,h.v.lower hB,h.c.lower hB⟩
structure St (w:World) (b g r:Nat) (W:World) (s:Sl) (a:Ads):Prop where
 box:Box W g s a
 res:Box W r Sl.none adsNone
 own:Own W b s a
 sep:Sep a
 lies:Lies W b a
 below:Below w.heap.size w W
 gb:g < b
 rb:r < b
 gr:r≠g
 wg:w.heap.size<=g
 wr:w.heap.size<=r
 sz:b<=W.heap.size
theorem St.step {w:World} {b g r:Nat} {W W':World} {s:Sl} {a:Ads} (h:St w b g r W s a) (hb:Below W.heap.size W W'):St w b g r W' s a :=
 ⟨h.box.below hb,h.res.below hb,h.own.below hb,h.sep,h.lies.size hb.size,h.below.trans (hb.mono h.below.size),h.gb,h.rb,h.gr,h.wg,h.wr,Nat.le_trans h.sz hb.size⟩
theorem St.drew {w:World} {b g r:Nat} {W:World} {s:Sl} {a:Ads} (h:St w b g r W s a):St w b g r W.drew s a:=h.step ((Below.refl _ _).drew)
theorem New.cellOther {k:IntKind} {w:World} {B:Nat} {a:Option Addr} {zs:List Int} (h:New k w B a zs) {p:Addr} (ha:Apart a (some p)) (u:Value):New k (w.setCell p u) B a zs:=h.other (fun q hq=>ha q p hq rfl) u
theorem Apart.moved {a:Option Addr} {b o o':Nat} (h:Apart a (some ⟨b,o,none⟩)):Apart a (some ⟨b,o',none⟩):=fun p q hp hq=>by
 injection hq with hq
 subst hq;exact h p ⟨b,o,none⟩ hp rfl
theorem St.count {w:World} {b g r:Nat} {W:World} {s:Sl} {a:Ads} (h:St w b g r W s a) {bc oc j:Nat} (hc:a.c=some ⟨bc,oc,none⟩) (hj:j < s.counts.length) (x:Int):St w b g r (W.setCell ⟨bc,oc+j,none⟩ (.int .i64 x)) { s with counts:=s.counts.set j x } a:=by
 have hbc:=(h.lies.c _ hc).1
 simp only at hbc
 have g1:=h.gb;have g2:=h.rb;have hq:=h.sep;refine⟨?_,h.res.setOther (by omega) _ _,⟨h.own.words.cellOther ((hc▸hq.wc).moved) _,h.own.keys.cellOther ((hc▸hq.kc).moved) _,h.own.vals.cellOther ((hc▸hq.vc).moved) _,?_,?_⟩,h.sep,h.lies.set _ _,h.below.setCell (p:=⟨bc,oc+j,none⟩) (by have:=h.wg;simp only;omega) _,h.gb,h.rb,h.gr,h.wg,h.wr,by rw [World.size_setCell];exact h.sz⟩
 ·have:=h.box.setOther (g':=bc) (by omega) (oc+j) (.int .i64 x)
  exact⟨this.lt,this.c0,this.c1,this.c2,this.c3,by rw [List.length_set];exact this.c4,this.c5,this.fz⟩
 ·have h1:=h.own.counts
  rw [hc] at h1 ⊢;exact h1.set hj x
 ·have c:=h.own.caps
  exact⟨c.w0,c.k0,c.v0,by rw [List.length_set];exact c.c0,c.w1,c.k1,c.v1,by rw [List.length_set];exact c.c1⟩
theorem St.key {w:World} {b g r:Nat} {W:World} {s:Sl} {a:Ads} (h:St w b g r W s a) {bc oc j:Nat} (hc:a.k=some ⟨bc,oc,none⟩) (hj:j < s.keys.length) (x:Int):St w b g r (W.setCell ⟨bc,oc+j,none⟩ (.int .i64 x)) { s with keys:=s.keys.set j x } a:=by
 have hbc:=(h.lies.k _ hc).1
 simp only at hbc
 have g1:=h.gb;have g2:=h.rb;have hq:=h.sep;refine⟨?_,h.res.setOther (by omega) _ _,⟨h.own.words.cellOther ((hc▸hq.wk).moved) _,?_,h.own.vals.cellOther ((hc▸hq.kv.symm).moved) _,h.own.counts.cellOther ((hc▸hq.kc.symm).moved) _,?_⟩,h.sep,h.lies.set _ _,h.below.setCell (p:=⟨bc,oc+j,none⟩) (by have:=h.wg;simp only;omega) _,h.gb,h.rb,h.gr,h.wg,h.wr,by rw [World.size_setCell];exact h.sz⟩
 ·have:=h.box.setOther (g':=bc) (by omega) (oc+j) (.int .i64 x)
  exact⟨this.lt,this.c0,this.c1,by rw [List.length_set];exact this.c2,this.c3,this.c4,this.c5,this.fz⟩
 ·have h1:=h.own.keys
  rw [hc] at h1 ⊢;exact h1.set hj x
 ·have c:=h.own.caps
  exact⟨c.w0,by rw [List.length_set];exact c.k0,c.v0,c.c0,c.w1,by rw [List.length_set];exact c.k1,c.v1,c.c1⟩
theorem St.val {w:World} {b g r:Nat} {W:World} {s:Sl} {a:Ads} (h:St w b g r W s a) {bc oc j:Nat} (hc:a.v=some ⟨bc,oc,none⟩) (hj:j < s.vals.length) (x:Int):St w b g r (W.setCell ⟨bc,oc+j,none⟩ (.int .i64 x)) { s with vals:=s.vals.set j x } a:=by
 have hbc:=(h.lies.v _ hc).1
 simp only at hbc
 have g1:=h.gb;have g2:=h.rb;have hq:=h.sep;refine⟨?_,h.res.setOther (by omega) _ _,⟨h.own.words.cellOther ((hc▸hq.wv).moved) _,h.own.keys.cellOther ((hc▸hq.kv).moved) _,?_,h.own.counts.cellOther ((hc▸hq.vc.symm).moved) _,?_⟩,h.sep,h.lies.set _ _,h.below.setCell (p:=⟨bc,oc+j,none⟩) (by have:=h.wg;simp only;omega) _,h.gb,h.rb,h.gr,h.wg,h.wr,by rw [World.size_setCell];exact h.sz⟩
 ·have:=h.box.setOther (g':=bc) (by omega) (oc+j) (.int .i64 x)
  exact⟨this.lt,this.c0,this.c1,this.c2,by rw [List.length_set];exact this.c3,this.c4,this.c5,this.fz⟩
 ·have h1:=h.own.vals
  rw [hc] at h1 ⊢;exact h1.set hj x
 ·have c:=h.own.caps
  exact⟨c.w0,c.k0,by rw [List.length_set];exact c.v0,c.c0,c.w1,c.k1,by rw [List.length_set];exact c.v1,c.c1⟩
theorem St.words {w:World} {b g r:Nat} {W W':World} {s:Sl} {a:Ads} (h:St w b g r W s a) (hb:Below W.heap.size W W') {A:Option Addr} {n:Nat} {ws:List Nat} (hl:ws.length=s.words.length) (hn:New .u64 W' W.heap.size A (ints ws)) (h0:A=none->ws.length=0/\n=0) (h1:ws.length<=n) (hL:Lie W' W.heap.size A) :
  St w b g r (W'.setCell ⟨g,1,none⟩ (.slice A ws.length n)) { s with words:=ws } { a with w:=A,cw:=n }:=by
 have h2:=h.step hb;have sz:=h.sz;have g1:=h.gb;refine⟨?_,h2.res.setOther (fun e=>h.gr e.symm) _ _,⟨(hn.lower sz).setBox g1 _ _,h2.own.keys.setBox g1 _ _,h2.own.vals.setBox g1 _ _,h2.own.counts.setBox g1 _ _,?_⟩,?_,⟨?_,?_,?_,?_⟩,h2.below.setCell (p:=⟨g,1,none⟩) h.wg _,h.gb,h.rb,h.gr,h.wg,h.wr,by rw [World.size_setCell];exact h2.sz⟩
 ·exact Box.set (s':={ s with words:=ws }) (a':={ a with w:=A,cw:=n }) h2.box 1 _ (by decide) rfl rfl ⟨rfl,rfl,rfl⟩ ⟨rfl,rfl,rfl⟩ ⟨rfl,rfl,rfl⟩ rfl
 ·have c:=h.own.caps
  exact⟨h0,c.k0,c.v0,c.c0,h1,c.k1,c.v1,c.c1⟩
 ·have ap:∀ x,Lie W b x->Apart A x:=fun x hx=>(apart_of (m:=W.heap.size) (fun p hp=>(hx p hp).2) (fun p hp=>(hL p hp).1)).symm
  exact⟨ap _ h.lies.k,ap _ h.lies.v,ap _ h.lies.c,h.sep.kv,h.sep.kc,h.sep.vc⟩
 ·exact (hL.lower sz).set _ _
 all_goals first | exact h2.lies.k.set _ _ | exact h2.lies.v.set _ _ | exact h2.lies.c.set _ _
theorem St.laid {w:World} {b g r:Nat} {W:World} {s:Sl} {a:Ads} (h:St w b g r W s a) (n:Nat):St w b g r (W.setCell ⟨g,5,none⟩ (.int .u64 (n:Int))) { s with laid:=n } a:=by
 have g1:=h.gb;refine⟨Box.set (s':={ s with laid:=n }) (a':=a) h.box 5 _ (by decide) rfl ⟨rfl,rfl,rfl⟩ ⟨rfl,rfl,rfl⟩ ⟨rfl,rfl,rfl⟩ ⟨rfl,rfl,rfl⟩ rfl,h.res.setOther (fun e=>h.gr e.symm) _ _,⟨h.own.words.setBox g1 _ _,h.own.keys.setBox g1 _ _,h.own.vals.setBox g1 _ _,h.own.counts.setBox g1 _ _,?_⟩,h.sep,h.lies.set _ _,h.below.setCell (p:=⟨g,5,none⟩) h.wg _,h.gb,h.rb,h.gr,h.wg,h.wr,by rw [World.size_setCell];exact h.sz⟩;have c:=h.own.caps;exact⟨c.w0,c.k0,c.v0,c.c0,c.w1,c.k1,c.v1,c.c1⟩
theorem Box.put6 {w:World} {g:Nat} {s0:Sl} {a0:Ads} (h:Box w g s0 a0) (s:Sl) (a:Ads):Box (put6 w g (.int .i64 s.seg) (.slice a.w s.words.length a.cw) (.slice a.k s.keys.length a.ck) (.slice a.v s.vals.length a.cv) (.slice a.c s.counts.length a.cc) (.int .u64 (s.laid:Int))) g s a:=by
 have h0:=h.set (s':={ s0 with seg:=s.seg }) (a':=a0) 0 (.int .i64 s.seg) (by decide) rfl ⟨rfl,rfl,rfl⟩ ⟨rfl,rfl,rfl⟩ ⟨rfl,rfl,rfl⟩ ⟨rfl,rfl,rfl⟩ rfl;have h1:=h0.set (s':={ s0 with seg:=s.seg,words:=s.words }) (a':={ a0 with w:=a.w,cw:=a.cw }) 1 (.slice a.w s.words.length a.cw) (by decide) rfl rfl ⟨rfl,rfl,rfl⟩ ⟨rfl,rfl,rfl⟩ ⟨rfl,rfl,rfl⟩ rfl;have h2:=h1.set (s':={ s0 with seg:=s.seg,words:=s.words,keys:=s.keys }) (a':={ a0 with w:=a.w,cw:=a.cw,k:=a.k,ck:=a.ck }) 2 (.slice a.k s.keys.length a.ck) (by decide) rfl ⟨rfl,rfl,rfl⟩ rfl ⟨rfl,rfl,rfl⟩ ⟨rfl,rfl,rfl⟩ rfl;have h3:=h2.set (s':={ s0 with seg:=s.seg,words:=s.words,keys:=s.keys,vals:=s.vals }) (a':={ a0 with w:=a.w,cw:=a.cw,k:=a.k,ck:=a.ck,v:=a.v,cv:=a.cv }) 3 (.slice a.v s.vals.length a.cv) (by decide) rfl ⟨rfl,rfl,rfl⟩ ⟨rfl,rfl,rfl⟩ rfl ⟨rfl,rfl,rfl⟩ rfl;have h4:=h3.set (s':={ s with laid:=s0.laid }) (a':=a) 4 (.slice a.c s.counts.length a.cc) (by decide) rfl ⟨rfl,rfl,rfl⟩ ⟨rfl,rfl,rfl⟩ ⟨rfl,rfl,rfl⟩ rfl rfl;exact h4.set (s':=s) (a':=a) 5 (.int .u64 (s.laid:Int)) (by decide) rfl ⟨rfl,rfl,rfl⟩ ⟨rfl,rfl,rfl⟩ ⟨rfl,rfl,rfl⟩ ⟨rfl,rfl,rfl⟩ rfl
theorem size_put6 (w:World) (g:Nat) (u0 u1 u2 u3 u4 u5:Value):(put6 w g u0 u1 u2 u3 u4 u5).heap.size=w.heap.size:=by simp [Go.Proofs.YtpeckljoannolaaGreatDoor.put6]
theorem St.done {w:World} {b g r:Nat} {W:World} {s:Sl} {a:Ads} (h:St w b g r W s a) (u0 u1 u2 u3 u4 u5:Value) :
  Own (put6 W r u0 u1 u2 u3 u4 u5) w.heap.size s a/\Sep a/\Lies (put6 W r u0 u1 u2 u3 u4 u5) w.heap.size a/\Below w.heap.size w (put6 W r u0 u1 u2 u3 u4 u5):=by
 have hb:w.heap.size<=b:=by have:=h.gb;have:=h.wg;omega
 exact⟨⟨(h.own.words.put6 h.rb _ _ _ _ _ _).lower hb,(h.own.keys.put6 h.rb _ _ _ _ _ _).lower hb,(h.own.vals.put6 h.rb _ _ _ _ _ _).lower hb,(h.own.counts.put6 h.rb _ _ _ _ _ _).lower hb,h.own.caps⟩,h.sep,
  (h.lies.lower hb).size (by rw [size_put6];exact Nat.le_refl _),below_put6 h.below h.wr _ _ _ _ _ _⟩
theorem PBox.setOther {w:World} {g:Nat} {p:Int×Int} (h:PBox w g p) {g':Nat} (hne:g'≠g) (o:Nat) (u:Value):PBox (w.setCell ⟨g',o,none⟩ u) g p:=by
 have hc:∀ i,(w.setCell ⟨g',o,none⟩ u).cell? ⟨g,i,none⟩=w.cell? ⟨g,i,none⟩:=fun i=>World.cell?_setCell_other _ _ _ _ (by intro e;injection e with e1;exact hne e1);exact⟨by rw [World.size_setCell];exact h.lt,(hc 0).trans h.c0,(hc 1).trans h.c1,by rw [World.frozen?_setCell];exact h.f0,by rw [World.frozen?_setCell];exact h.f1⟩
theorem PBox.put6 {w:World} {g:Nat} {p:Int×Int} (h:PBox w g p) {g':Nat} (hne:g'≠g) (u0 u1 u2 u3 u4 u5:Value):PBox (put6 w g' u0 u1 u2 u3 u4 u5) g p :=
 (((((h.setOther hne 0 u0).setOther hne 1 u1).setOther hne 2 u2).setOther hne 3 u3).setOther hne 4 u4).setOther hne 5 u5
theorem PBox.drew {w:World} {g:Nat} {p:Int×Int} (h:PBox w g p):PBox w.drew g p:=h.below ((Below.refl _ _).drew)
theorem Box.second (w:World) (o:Obj) (s:Sl) (a:Ads) (t:TypeId):Box ((w.alloc o).alloc (.cells (slCells s a) t)) (w.heap.size+1) s a :=
 Box.of_block (t:=t) (by have:=@Array.getElem?_push_size _ (w.heap.push o) (.cells (slCells s a) t);rw [Array.size_push] at this;exact this)
theorem none_own (w:World) (B:Nat):Own w B Sl.none adsNone/\Sep adsNone/\Lies w B adsNone:=by
 have l:Lie w B none:=fun p h=>by cases h
 have q:Apart none none:=fun p q h=>by cases h
 exact⟨⟨Or.inl rfl,Or.inl rfl,Or.inl rfl,Or.inl rfl,⟨fun _=>⟨rfl,rfl⟩,fun _=>⟨rfl,rfl⟩,fun _=>⟨rfl,rfl⟩,fun _=>⟨rfl,rfl⟩,Nat.le_refl _,Nat.le_refl _,Nat.le_refl _,Nat.le_refl _⟩⟩,⟨q,q,q,q,q,q⟩,⟨l,l,l,l⟩⟩
theorem apart_ne {p q:Addr} (h:p.block≠q.block):Apart (some p) (some q):=fun a b ha hb=>by
 injection ha with ha
 injection hb with hb
 subst ha hb;exact h
def adsMade (gW gK gV gC n1 m n4:Nat):Ads:=⟨some ⟨gW,0,none⟩,some ⟨gK,0,none⟩,some ⟨gV,0,none⟩,some ⟨gC,0,none⟩,n1,m,m,n4⟩
def slMade (sg n1 m n4:Nat):Sl:=⟨sg,List.replicate n1 0,List.replicate m 0,List.replicate m 0,List.replicate n4 0,0⟩
theorem made_fin {w W:World} {r gW gK gV gC n1 m n4 sg:Nat} (NW:New .u64 W gW (some ⟨gW,0,none⟩) (List.replicate n1 0)) (NK:New .i64 W gK (some ⟨gK,0,none⟩) (List.replicate m 0)) (NV:New .i64 W gV (some ⟨gV,0,none⟩) (List.replicate m 0)) (NC:New .i64 W gC (some ⟨gC,0,none⟩) (List.replicate n4 0))
  (q1:gW≠gK) (q2:gW≠gV) (q3:gW≠gC) (q4:gK≠gV) (q5:gK≠gC) (q6:gV≠gC) (r1:r < gW) (r2:r < gK) (r3:r < gV) (r4:r < gC) (z1:gW < W.heap.size) (z2:gK < W.heap.size) (z3:gV < W.heap.size) (z4:gC < W.heap.size)
  (below:Below w.heap.size w W) (hw:w.heap.size<=r) (u0 u1 u2 u3 u4 u5:Value) :
  Own (put6 W r u0 u1 u2 u3 u4 u5) w.heap.size (slMade sg n1 m n4) (adsMade gW gK gV gC n1 m n4)/\Sep (adsMade gW gK gV gC n1 m n4)/\Lies (put6 W r u0 u1 u2 u3 u4 u5) w.heap.size (adsMade gW gK gV gC n1 m n4)/\Below w.heap.size w (put6 W r u0 u1 u2 u3 u4 u5):=by
 have e:ints (List.replicate n1 0)=List.replicate n1 0:=by simp [ints]
 have lie:∀ g,r < g->g < W.heap.size->Lie (put6 W r u0 u1 u2 u3 u4 u5) w.heap.size (some ⟨g,0,none⟩):=fun g h1 h2 p hp=>by
  injection hp with hp
  subst hp;exact⟨by show w.heap.size<=g;omega,by rw [size_put6];exact h2⟩
 refine⟨⟨?_,(NK.put6 r2 _ _ _ _ _ _).lower (by omega),(NV.put6 r3 _ _ _ _ _ _).lower (by omega),(NC.put6 r4 _ _ _ _ _ _).lower (by omega),?_⟩,⟨apart_ne q1,apart_ne q2,apart_ne q3,apart_ne q4,apart_ne q5,apart_ne q6⟩,⟨lie _ r1 z1,lie _ r2 z2,lie _ r3 z3,lie _ r4 z4⟩,below_put6 below hw _ _ _ _ _ _⟩
 ·show New .u64 _ _ _ (ints (List.replicate n1 0))
  rw [e];exact (NW.put6 r1 _ _ _ _ _ _).lower (by omega)
 ·refine⟨fun h=>(by cases h),fun h=>(by cases h),fun h=>(by cases h),fun h=>(by cases h),?_,?_,?_,?_⟩
  all_goals simp [slMade,adsMade]
theorem elemW:Elem Tryz.prog 24 27 (.int .u64 0) 1 8 :=
 ⟨Tryz.underlying24,info_parts (show (Tryz.prog.info? 27).map (fun i=>(i.zero,i.size,i.bytes))=some (some (.int .u64 0),1,8) by kernel_rfl),rfl,by decide⟩
theorem elemK:Elem Tryz.prog 25 2 (.int .i64 0) 1 8 :=
 ⟨Tryz.underlying25,info_parts (show (Tryz.prog.info? 2).map (fun i=>(i.zero,i.size,i.bytes))=some (some (.int .i64 0),1,8) by kernel_rfl),rfl,by decide⟩
theorem one_of (k:IntKind) (zs:List Int):∀ u∈zs.map (Value.int k),u.oneCell'=true:=by
 intro u hu
 simp only [List.mem_map] at hu
 obtain⟨x,_,rfl⟩:=hu
 rfl
def SPost (s:Sl) (w:World) (e:Ending) (w':World):Prop:=∃ a,e=.returned (slv s a)/\Own w' w.heap.size s a/\Sep a/\Lies w' w.heap.size a/\Below w.heap.size w w'
def SPost2 (s:Sl) (er:Int) (w:World) (e:Ending) (w':World):Prop:=∃ a,e=.returned (.tuple #[slv s a,.int .i64 er])/\Own w' w.heap.size s a/\Sep a/\Lies w' w.heap.size a/\Below w.heap.size w w'
theorem r4Twin (s:Sl) (a:Ads) (w:World) (h:Held w s a) (hs:s.Short) :
  Calls Tryz.prog 50 #[slv s a] w (SPost s w):=by
 have HH:=aq h;have l1:=hs.words;have l2:=hs.keys;have l3:=hs.vals;have l4:=hs.counts;have HB:=aq (fun o=>(Box.new w s a 29).below ((Below.refl _ _).alloc (Nat.le_refl _) o));have HR:=aq (fun o=>Box.of_block (w:=((w.alloc o).alloc (.cells (slCells Sl.none adsNone) 29))) (g:=w.heap.size+1) (s:=Sl.none) (a:=adsNone) (t:=29) (by have:=@Array.getElem?_push_size _ (w.heap.push o) (.cells (slCells Sl.none adsNone) 29);rw [Array.size_push] at this;exact this));have B0:=aq (fun o o'=>((Below.refl w.heap.size w).alloc (Nat.le_refl _) o).alloc (by simp) o');clear h hs;unfold slv
 go_enter Tryz.func50,Tryz.ntmps50
 go_wp2_with (first | (at_builtin;refine wpList_copyG elemI rfl (.tmp 18) (.tmp 20) rfl _ rfl _ (by simp) a.c s.counts.length a.cc (s.counts.map (Value.int .i64)) rfl rfl (Cells.of_lst (HH.out.below B3.out).counts) (by simp [ints]) (one_of _ _) HH.out.caps.c0 (by unfold maxLen;omega) (by omega) ?_;intro A4 n4 w4 hown4 _ hb4;obtain⟨N40,q40,q41,r4⟩:=own_where hown4;have bx4:=BX3.out.below hb4;have br4:=BR3.out.below hb4;have BX4:=aq (Box.set (s':=s) (a':=⟨A1,A2,A3,A4,n1,n2,n3,n4⟩) bx4 4 (.slice A4 s.counts.length n4) (by decide) rfl ⟨rfl,rfl,rfl⟩ ⟨rfl,rfl,rfl⟩ ⟨rfl,rfl,rfl⟩ rfl rfl);have BR4:=aq (br4.setOther (g':=w.heap.size) (by omega) 4 (.slice A4 s.counts.length n4));have B4:=aq ((B3.out.trans (hb4.mono B3.out.size)).setCell (p:=⟨w.heap.size,4,none⟩) (Nat.le_refl _) (.slice A4 s.counts.length n4));replace N1:=aq ((N1.out.below hb4).setBox (g:=w.heap.size) (by omega) 4 (.slice A4 s.counts.length n4));replace N2:=aq ((N2.out.below hb4).setBox (g:=w.heap.size) (by omega) 4 (.slice A4 s.counts.length n4));replace N3:=aq ((N3.out.below hb4).setBox (g:=w.heap.size) (by omega) 4 (.slice A4 s.counts.length n4));have N4:=aq ((N40.lower (B':=w.heap.size+2) (by have:=z3;simp at this ⊢;omega)).setBox (g:=w.heap.size) (by omega) 4 (.slice A4 s.counts.length n4));have z4:=Nat.le_trans (show w.heap.size+2<=_ by have:=z3;simp at this ⊢;omega) hb4.size;have R4:=aq r4;have Q4:=aq (And.intro q40 q41);have Z4:=aq hb4.size;obtain⟨_,p40,p41,p42,p43,p44,p45,pf4⟩:=bx4;obtain⟨_,s40,s41,s42,s43,s44,s45,sf4⟩:=br4;have pf41:=pf4 4;clear r4 q40 q41 hown4 N40 hb4 pf4) | (at_builtin;refine wpList_copyG elemK rfl (.tmp 13) (.tmp 15) rfl _ rfl _ (by simp) a.v s.vals.length a.cv (s.vals.map (Value.int .i64)) rfl rfl (Cells.of_lst (HH.out.below B2.out).vals) (by simp [ints]) (one_of _ _) HH.out.caps.v0 (by unfold maxLen;omega) (by omega) ?_;intro A3 n3 w3 hown3 _ hb3;obtain⟨N30,q30,q31,r3⟩:=own_where hown3;have bx3:=BX2.out.below hb3;have br3:=BR2.out.below hb3;have BX3:=aq (Box.set (s':=s) (a':=⟨A1,A2,A3,a.c,n1,n2,n3,a.cc⟩) bx3 3 (.slice A3 s.vals.length n3) (by decide) rfl ⟨rfl,rfl,rfl⟩ ⟨rfl,rfl,rfl⟩ rfl ⟨rfl,rfl,rfl⟩ rfl);have BR3:=aq (br3.setOther (g':=w.heap.size) (by omega) 3 (.slice A3 s.vals.length n3));have B3:=aq ((B2.out.trans (hb3.mono B2.out.size)).setCell (p:=⟨w.heap.size,3,none⟩) (Nat.le_refl _) (.slice A3 s.vals.length n3));replace N1:=aq ((N1.out.below hb3).setBox (g:=w.heap.size) (by omega) 3 (.slice A3 s.vals.length n3));replace N2:=aq ((N2.out.below hb3).setBox (g:=w.heap.size) (by omega) 3 (.slice A3 s.vals.length n3));have N3:=aq ((N30.lower (B':=w.heap.size+2) (by have:=z2;simp at this ⊢;omega)).setBox (g:=w.heap.size) (by omega) 3 (.slice A3 s.vals.length n3));have z3:=Nat.le_trans (show w.heap.size+2<=_ by have:=z2;simp at this ⊢;omega) hb3.size;have R3:=aq r3;have Q3:=aq (And.intro q30 q31);have Z3:=aq hb3.size;obtain⟨_,p30,p31,p32,p33,p34,p35,pf3⟩:=bx3;obtain⟨_,s30,s31,s32,s33,s34,s35,sf3⟩:=br3;have pf31:=pf3 3;clear r3 q30 q31 hown3 N30 hb3 pf3) | (at_builtin;refine wpList_copyG elemK rfl (.tmp 8) (.tmp 10) rfl _ rfl _ (by simp) a.k s.keys.length a.ck (s.keys.map (Value.int .i64)) rfl rfl (Cells.of_lst (HH.out.below B1.out).keys) (by simp [ints]) (one_of _ _) HH.out.caps.k0 (by unfold maxLen;omega) (by omega) ?_;intro A2 n2 w2 hown2 _ hb2;obtain⟨N20,q20,q21,r2⟩:=own_where hown2;have bx2:=BX1.out.below hb2;have br2:=BR1.out.below hb2;have BX2:=aq (Box.set (s':=s) (a':=⟨A1,A2,a.v,a.c,n1,n2,a.cv,a.cc⟩) bx2 2 (.slice A2 s.keys.length n2) (by decide) rfl ⟨rfl,rfl,rfl⟩ rfl ⟨rfl,rfl,rfl⟩ ⟨rfl,rfl,rfl⟩ rfl);have BR2:=aq (br2.setOther (g':=w.heap.size) (by omega) 2 (.slice A2 s.keys.length n2));have B2:=aq ((B1.out.trans (hb2.mono B1.out.size)).setCell (p:=⟨w.heap.size,2,none⟩) (Nat.le_refl _) (.slice A2 s.keys.length n2));replace N1:=aq ((N1.out.below hb2).setBox (g:=w.heap.size) (by omega) 2 (.slice A2 s.keys.length n2));have N2:=aq ((N20.lower (B':=w.heap.size+2) (by have:=z1;simp at this ⊢;omega)).setBox (g:=w.heap.size) (by omega) 2 (.slice A2 s.keys.length n2));have z2:=Nat.le_trans (show w.heap.size+2<=_ by have:=z1;simp at this ⊢;omega) hb2.size;have R2:=aq r2;have Q2:=aq (And.intro q20 q21);have Z2:=aq hb2.size;obtain⟨_,p20,p21,p22,p23,p24,p25,pf2⟩:=bx2;obtain⟨_,s20,s21,s22,s23,s24,s25,sf2⟩:=br2;have pf21:=pf2 2;clear r2 q20 q21 hown2 N20 hb2 pf2) | (at_builtin;refine wpList_copyG elemW rfl (.tmp 3) (.tmp 5) rfl _ rfl _ (by simp) a.w s.words.length a.cw ((ints s.words).map (Value.int .u64)) rfl rfl (Cells.of_lst (HH.out.below (B0.out _ _)).words) (by simp [ints]) (one_of _ _) HH.out.caps.w0 (by unfold maxLen;omega) (by omega) ?_;intro A1 n1 w1 hown1 _ hb1;obtain⟨N10,q10,q11,r1⟩:=own_where hown1;have bx1:=(HB.out _).below hb1;have br1:=(HR.out _).below hb1;have BX1:=aq (Box.set (s':=s) (a':=⟨A1,a.k,a.v,a.c,n1,a.ck,a.cv,a.cc⟩) bx1 1 (.slice A1 s.words.length n1) (by decide) rfl rfl ⟨rfl,rfl,rfl⟩ ⟨rfl,rfl,rfl⟩ ⟨rfl,rfl,rfl⟩ rfl);have BR1:=aq (br1.setOther (g':=w.heap.size) (by omega) 1 (.slice A1 s.words.length n1));have B1:=aq (((B0.out _ _).trans (hb1.mono (B0.out _ _).size)).setCell (p:=⟨w.heap.size,1,none⟩) (Nat.le_refl _) (.slice A1 s.words.length n1));have N1:=aq ((N10.lower (B':=w.heap.size+2) (by simp)).setBox (g:=w.heap.size) (by omega) 1 (.slice A1 s.words.length n1));have z1:=Nat.le_trans (show w.heap.size+2<=_ by simp) hb1.size;have R1:=aq r1;have Q1:=aq (And.intro q10 q11);have Z1:=aq hb1.size;obtain⟨_,p10,p11,p12,p13,p14,p15,pf1⟩:=bx1;obtain⟨_,s10,s11,s12,s13,s14,s15,sf1⟩:=br1;have pf11:=pf1 1;clear r1 q10 q11 hown1 N10 hb1 pf1))
 have y1:w1.heap.size<=w2.heap.size:=by have:=Z2.out;simpa using this
 have y2:w2.heap.size<=w3.heap.size:=by have:=Z3.out;simpa using this
 have y3:w3.heap.size<=w4.heap.size:=by have:=Z4.out;simpa using this
 have r1:∀ p,A1=some p->p.block < w1.heap.size:=fun p hp=>(R1.out p hp).2
 have r2:∀ p,A2=some p->w1.heap.size<=p.block/\p.block < w2.heap.size:=fun p hp=>by have:=R2.out p hp;simpa using this
 have r3:∀ p,A3=some p->w2.heap.size<=p.block/\p.block < w3.heap.size:=fun p hp=>by have:=R3.out p hp;simpa using this
 have r4:∀ p,A4=some p->w3.heap.size<=p.block:=fun p hp=>by have:=(R4.out p hp).1;simpa using this
 refine bodyPost_ret (v:=slv s ⟨A1,A2,A3,A4,n1,n2,n3,n4⟩) (by simp [results,Tryz.results50,go_sem,slv,s40,s41,s42,s43,s44,s45]) rfl ⟨_,rfl,?_,?_,?_,?_⟩
 ·exact⟨(N1.out.put6 (by omega) _ _ _ _ _ _).lower (by omega),(N2.out.put6 (by omega) _ _ _ _ _ _).lower (by omega),(N3.out.put6 (by omega) _ _ _ _ _ _).lower (by omega),(N4.out.put6 (by omega) _ _ _ _ _ _).lower (by omega),
   ⟨Q1.out.1,Q2.out.1,Q3.out.1,Q4.out.1,Q1.out.2,Q2.out.2,Q3.out.2,Q4.out.2⟩⟩
 ·exact⟨apart_of r1 (fun p hp=>(r2 p hp).1),apart_of r1 (fun p hp=>Nat.le_trans y1 (r3 p hp).1),apart_of r1 (fun p hp=>Nat.le_trans y1 (Nat.le_trans y2 (r4 p hp))),
   apart_of (fun p hp=>(r2 p hp).2) (fun p hp=>(r3 p hp).1),apart_of (fun p hp=>(r2 p hp).2) (fun p hp=>Nat.le_trans y2 (r4 p hp)),apart_of (fun p hp=>(r3 p hp).2) r4⟩
 ·have e:w4.heap.size=(put6 (w4.setCell ⟨w.heap.size,4,none⟩ (.slice A4 s.counts.length n4)) (w.heap.size+1) (.int .i64 s.seg) (.slice A1 s.words.length n1) (.slice A2 s.keys.length n2) (.slice A3 s.vals.length n3) (.slice A4 s.counts.length n4) (.int .u64 (s.laid:Int))).heap.size:=by simp [put6]
  have r0:∀ p,A1=some p->w.heap.size<=p.block:=fun p hp=>by have:=(R1.out p hp).1;simp at this;omega
  have r5:∀ p,A4=some p->p.block < w4.heap.size:=fun p hp=>(R4.out p hp).2;exact⟨fun p hp=>⟨r0 p hp,e▸(by have:=r1 p hp;omega)⟩,fun p hp=>⟨by have:=(r2 p hp).1;omega,e▸(by have:=(r2 p hp).2;omega)⟩,fun p hp=>⟨by have:=(r3 p hp).1;omega,e▸(by have:=(r3 p hp).2;omega)⟩,fun p hp=>⟨by have:=r4 p hp;omega,e▸r5 p hp⟩⟩
 ·exact below_put6 B4.out (by omega) _ _ _ _ _ _
theorem wide_put {ws:List Nat} (h:Wide ws) (s:Nat) (is:Bool):Wide (Oc.putW ws s is):=by
 intro i;unfold Oc.putW
 simp only [List.getD,List.getElem?_set]
 split
 ·split
  ·simp only [Option.getD_some]
   exact Oc.putN_lt (B:=64) (h (s/64)) (by omega)
  ·simp
 ·exact h i
theorem putW_len (ws:List Nat) (s:Nat) (is:Bool):(Oc.putW ws s is).length=ws.length:=by simp [Oc.putW]
theorem getD_set (zs:List Int) (i j:Nat) (x:Int):(zs.set i x).getD j 0=x∨(zs.set i x).getD j 0=zs.getD j 0:=by
 simp only [List.getD,List.getElem?_set]
 split
 ·split
  ·left;simp
  ·rename_i h1 h2
   right
   subst h1;rw [List.getElem?_eq_none (by omega)]
 ·right;rfl
theorem all64_set {zs:List Int} (h:All64 zs) (i:Nat) {x:Int} (hx:In64 x):All64 (zs.set i x):=by
 intro j
 rcases getD_set zs i j x with e | e
 ·rw [e];exact hx
 ·rw [e];exact h j
structure Sl.Fit (s:Sl) (B:Int):Prop where
 seg1:4<=s.seg
 seg2:s.seg<=64
 vals:s.vals.length=s.keys.length
 words:s.keys.length<=64*s.words.length
 counts:(s.keys.length:Int)<=s.counts.length*s.seg
 cnt:∀ j,-B<=s.counts.getD j 0/\s.counts.getD j 0<=B
 ok:s.Ok
 short:s.Short
theorem Sl.Fit.pos {s:Sl} {B:Int} (h:s.Fit B):0<=B:=by have:=h.cnt 0;omega
theorem in64_small {x B:Int} (hB:B<=1000000000) (h1:-B-1<=x) (h2:x<=B+1):In64 x:=⟨by omega,by omega⟩
theorem cnt_set {zs:List Int} {B:Int} (h:∀ j,-B<=zs.getD j 0/\zs.getD j 0<=B) (i:Nat) {x:Int} (h1:-B-1<=x) (h2:x<=B+1):∀ j,-(B+1)<=(zs.set i x).getD j 0/\(zs.set i x).getD j 0<=B+1:=by
 intro j;have:=h j
 rcases getD_set zs i j x with e | e
 ·rw [e];omega
 ·rw [e];omega
theorem Sl.Fit.emptied {s:Sl} {B:Int} (h:s.Fit B) (hB:B<=1000000000) (i:Nat):(s.emptied i).Fit (B+1):=by
 have hc:=h.cnt (s.segOf i)
 have hcnt:∀ j,-(B+1)<=(s.emptied i).counts.getD j 0/\(s.emptied i).counts.getD j 0<=B+1:=by
  unfold Sl.emptied
  dsimp only
  split
  ·exact cnt_set h.cnt _ (by omega) (by omega)
  ·intro j;have:=h.cnt j;omega
 have hcl:(s.emptied i).counts.length=s.counts.length:=by unfold Sl.emptied;dsimp only;split<;>simp
 have hall:All64 (s.emptied i).counts:=by
  unfold Sl.emptied
  dsimp only
  split
  ·exact all64_set h.ok.counts _ (in64_small hB (by omega) (by omega))
  ·exact h.ok.counts
 refine⟨h.seg1,h.seg2,?_,?_,?_,hcnt,⟨h.ok.seg,?_,?_,?_,hall,h.ok.laid⟩,⟨?_,?_,?_,by rw [hcl];exact h.short.counts⟩⟩
 ·show (s.vals.set i 0).length=(s.keys.set i 0).length
  rw [List.length_set,List.length_set];exact h.vals
 ·show (s.keys.set i 0).length<=64*(Oc.putW s.words i false).length
  rw [List.length_set,putW_len];exact h.words
 ·rw [hcl]
  show ((s.keys.set i 0).length:Int)<=_
  rw [List.length_set];exact h.counts
 ·exact wide_put h.ok.words i false
 ·exact all64_set h.ok.keys i ⟨by omega,by omega⟩
 ·exact all64_set h.ok.vals i ⟨by omega,by omega⟩
 ·show (Oc.putW s.words i false).length<=65536
  rw [putW_len];exact h.short.words
 ·show (s.keys.set i 0).length<=65536
  rw [List.length_set];exact h.short.keys
 ·show (s.vals.set i 0).length<=65536
  rw [List.length_set];exact h.short.vals
theorem Sl.Fit.filledAt {s:Sl} {B:Int} (h:s.Fit B) (hB:B<=1000000000) (i:Nat) {p:Int×Int} (h1:In64 p.1) (h2:In64 p.2):(s.filledAt i p).Fit (B+1):=by
 have hc:=h.cnt (s.segOf i);refine⟨h.seg1,h.seg2,?_,?_,?_,cnt_set h.cnt _ (by omega) (by omega),⟨h.ok.seg,?_,?_,?_,?_,?_⟩,⟨?_,?_,?_,?_⟩⟩
 ·show (s.vals.set i p.2).length=(s.keys.set i p.1).length
  rw [List.length_set,List.length_set];exact h.vals
 ·show (s.keys.set i p.1).length<=64*(Oc.putW s.words i true).length
  rw [List.length_set,putW_len];exact h.words
 ·show ((s.keys.set i p.1).length:Int)<=((s.counts.set _ _).length:Int)*s.seg
  rw [List.length_set,List.length_set];exact h.counts
 ·exact wide_put h.ok.words i true
 ·exact all64_set h.ok.keys i h1
 ·exact all64_set h.ok.vals i h2
 ·exact all64_set h.ok.counts _ (in64_small hB (by omega) (by omega))
 ·show (s.laid+1) % 18446744073709551616 < 18446744073709551616
  omega
 ·show (Oc.putW s.words i true).length<=65536
  rw [putW_len];exact h.short.words
 ·show (s.keys.set i p.1).length<=65536
  rw [List.length_set];exact h.short.keys
 ·show (s.vals.set i p.2).length<=65536
  rw [List.length_set];exact h.short.vals
 ·show (s.counts.set _ _).length<=65536
  rw [List.length_set];exact h.short.counts
theorem emptied_keys (s:Sl) (i:Nat):(s.emptied i).keys.length=s.keys.length:=List.length_set ..
theorem filledAt_keys (s:Sl) (i:Nat) (p:Int×Int):(s.filledAt i p).keys.length=s.keys.length:=List.length_set ..
theorem may_parts {s:Sl} (h:s.mayB=true):s.formB=true/\s.zerosB s.keys.length=true/\s.countsB s.counts.length=true:=by
 unfold Sl.mayB at h
 simp only [Bool.and_eq_true] at h
 exact⟨h.1.1,h.1.2,h.2⟩
theorem may_fit {s:Sl} (h:s.mayB=true) (hok:s.Ok) (hs:s.Short):s.Fit 64:=by
 obtain⟨hf,_,hc⟩:=may_parts h;obtain⟨f1,f2,f3,f4⟩:=form_yes hf;obtain⟨g1,g2,_,g4,g5,g6,_⟩:=fits_yes f1;have hw:=mayW_len f3;refine⟨g1,g2,f2,by omega,?_,?_,hok,hs⟩
 ·have h6:=Int.ediv_mul_cancel (a:=(s.keys.length:Int)) (b:=s.seg) (Int.dvd_of_emod_eq_zero g6)
  rw [<-f4] at h6
  omega
 ·intro j
  by_cases hj:j < s.counts.length
  ·have h1:s.countAt j=true:=by
    unfold Sl.countsB at hc;rw [List.all_eq_true] at hc;exact hc j (by simpa using hj)
   unfold Sl.countAt at h1;rw [beq_iff_eq] at h1;rw [h1];unfold Sl.countOf;have:=Oc.places_length_le s.words (j*s.seg.toNat) ((j+1)*s.seg.toNat)
   have e:(j+1)*s.seg.toNat-j*s.seg.toNat=s.seg.toNat:=by rw [Nat.add_mul];omega
   omega
  ·rw [show s.counts.getD j 0=0 from by simp [List.getD,List.getElem?_eq_none (show s.counts.length<=j by omega)]]
   omega
end Go.Proofs.YtpeckljoannolaaGreatDoor

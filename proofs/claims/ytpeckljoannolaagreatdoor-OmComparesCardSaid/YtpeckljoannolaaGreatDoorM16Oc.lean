/- What package slots' method clear does. -/
import Derived.Test.YtpeckljoannolaaGreatDoorM14Oc
import Derived.Deep.RegionHeld3
import Derived.Test.YtpeckljoannolaaGreatDoorTkOc
set_option linter.unusedVariables false
set_option linter.unusedSimpArgs false
set_option maxHeartbeats 8000000
set_option maxRecDepth 100000
namespace Go.Proofs.YtpeckljoannolaaGreatDoor
open Go.RowKit
structure Turned (g:Nat) (a:Ads) (w w':World):Prop where
 os:w'.os=w.os
 tape:w'.tape=w.tape
 output:w'.output=w.output
 size:w.heap.size<=w'.heap.size
 block:∀ k,k < w.heap.size->k≠g->(∀ p,a.w=some p->p.block≠k)->(∀ p,a.k=some p->p.block≠k)->(∀ p,a.v=some p->p.block≠k)->(∀ p,a.c=some p->p.block≠k)->w'.heap[k]?=w.heap[k]?
 others:KeepsOthers w w'
theorem keeps_of_below {w w':World} (h:Below w.heap.size w w'):KeepsOthers w w':=⟨h.size,fun k o hk _=>(h.block k (Array.getElem?_eq_some_iff.1 hk).1).trans hk⟩
theorem Turned.of_below {g:Nat} {a:Ads} {w w':World} (h:Below w.heap.size w w'):Turned g a w w':=⟨h.os,h.tape,h.output,h.size,fun k hk _ _ _ _ _=>h.block k hk,keeps_of_below h⟩
theorem Turned.refl (g:Nat) (a:Ads) (w:World):Turned g a w w:=Turned.of_below (Below.refl _ _)
theorem Turned.trans {g:Nat} {a:Ads} {x y z:World} (h:Turned g a x y) (k:Turned g a y z):Turned g a x z :=
 ⟨k.os.trans h.os,k.tape.trans h.tape,k.output.trans h.output,Nat.le_trans h.size k.size,fun i hi h1 h2 h3 h4 h5=>(k.block i (Nat.lt_of_lt_of_le hi h.size) h1 h2 h3 h4 h5).trans (h.block i hi h1 h2 h3 h4 h5),h.others.trans k.others⟩
theorem Turned.cell {g:Nat} {a:Ads} {x y:World} (h:Turned g a x y) {p:Addr} (hp:p.block=g∨(∃ q,a.w=some q/\q.block=p.block)∨(∃ q,a.k=some q/\q.block=p.block)∨(∃ q,a.v=some q/\q.block=p.block)∨(∃ q,a.c=some q/\q.block=p.block)) (u:Value):Turned g a x (y.setCell p u):=by
 refine h.trans ⟨rfl,rfl,rfl,by rw [World.size_setCell];exact Nat.le_refl _,fun k hk h1 h2 h3 h4 h5=>Below.heap_setCell y p u k (fun e=>?_),KeepsOthers.setCell _ _ _⟩;subst e
 rcases hp with hp | ⟨q,e,hq⟩ | ⟨q,e,hq⟩ | ⟨q,e,hq⟩ | ⟨q,e,hq⟩
 ·exact h1 hp
 ·exact h2 q e hq
 ·exact h3 q e hq
 ·exact h4 q e hq
 ·exact h5 q e hq
structure Cop (n g:Nat) (W:World) (s:Sl) (a:Ads):Prop where
 box:Box W g s a
 own:Own W n s a
 sep:Sep a
 lies:Lies W n a
 fw:∀ p,a.w=some p->p.block≠g
 fk:∀ p,a.k=some p->p.block≠g
 fv:∀ p,a.v=some p->p.block≠g
 fc:∀ p,a.c=some p->p.block≠g
theorem Turned.below {n g:Nat} {W w':World} {s:Sl} {a:Ads} (h:Turned g a W w') (hc:Cop n g W s a) (hn:n<=g) (hs:n<=W.heap.size):Below n W w' :=
 ⟨h.os,h.tape,h.output,h.size,fun k hk=>h.block k (by omega) (by omega) (fun p hp=>by have:=(hc.lies.w p hp).1;omega) (fun p hp=>by have:=(hc.lies.k p hp).1;omega) (fun p hp=>by have:=(hc.lies.v p hp).1;omega) (fun p hp=>by have:=(hc.lies.c p hp).1;omega)⟩
theorem Cop.below {n g:Nat} {W W':World} {s:Sl} {a:Ads} (h:Cop n g W s a) (hb:Below W.heap.size W W'):Cop n g W' s a :=
 ⟨h.box.below hb,h.own.below hb,h.sep,h.lies.size hb.size,h.fw,h.fk,h.fv,h.fc⟩
theorem far_apart {A:Option Addr} {g o:Nat} (h:∀ p,A=some p->p.block≠g):Apart A (some ⟨g,o,none⟩):=fun p q hp hq e=>by
 injection hq with hq;subst hq;exact h p hp e
theorem Cop.word {n g:Nat} {W:World} {s:Sl} {a:Ads} (h:Cop n g W s a) {b o j:Nat} (hc:a.w=some ⟨b,o,none⟩) (hj:j < s.words.length) (x:Nat):Cop n g (W.setCell ⟨b,o+j,none⟩ (.int .u64 (x:Int))) { s with words:=s.words.set j x } a/\Turned g a W (W.setCell ⟨b,o+j,none⟩ (.int .u64 (x:Int))):=by
 have hb:=h.fw _ hc
 simp only at hb
 have hq:=h.sep;refine⟨⟨?_,⟨?_,h.own.keys.cellOther ((hc▸hq.wk.symm).moved) _,h.own.vals.cellOther ((hc▸hq.wv.symm).moved) _,h.own.counts.cellOther ((hc▸hq.wc.symm).moved) _,?_⟩,h.sep,h.lies.set _ _,h.fw,h.fk,h.fv,h.fc⟩,(Turned.refl _ _ _).cell (p:=⟨b,o+j,none⟩) (Or.inr (Or.inl ⟨_,hc,rfl⟩)) _⟩
 ·have:=h.box.setOther (g':=b) hb (o+j) (.int .u64 (x:Int))
  exact⟨this.lt,this.c0,by rw [List.length_set];exact this.c1,this.c2,this.c3,this.c4,this.c5,this.fz⟩
 ·have h1:=h.own.words
  rw [hc] at h1 ⊢;have:=h1.set (i:=j) (by rw [ints_length];exact hj) (x:Int);rw [show (ints s.words).set j (x:Int)=ints (s.words.set j x) from by simp [ints,List.map_set]] at this;exact this
 ·have c:=h.own.caps
  exact⟨by rw [List.length_set];exact c.w0,c.k0,c.v0,c.c0,by rw [List.length_set];exact c.w1,c.k1,c.v1,c.c1⟩
theorem Cop.count {n g:Nat} {W:World} {s:Sl} {a:Ads} (h:Cop n g W s a) {b o j:Nat} (hc:a.c=some ⟨b,o,none⟩) (hj:j < s.counts.length) (x:Int):Cop n g (W.setCell ⟨b,o+j,none⟩ (.int .i64 x)) { s with counts:=s.counts.set j x } a/\Turned g a W (W.setCell ⟨b,o+j,none⟩ (.int .i64 x)):=by
 have hb:=h.fc _ hc
 simp only at hb
 have hq:=h.sep;refine⟨⟨?_,⟨h.own.words.cellOther ((hc▸hq.wc).moved) _,h.own.keys.cellOther ((hc▸hq.kc).moved) _,h.own.vals.cellOther ((hc▸hq.vc).moved) _,?_,?_⟩,h.sep,h.lies.set _ _,h.fw,h.fk,h.fv,h.fc⟩,(Turned.refl _ _ _).cell (p:=⟨b,o+j,none⟩) (Or.inr (Or.inr (Or.inr (Or.inr ⟨_,hc,rfl⟩)))) _⟩
 ·have:=h.box.setOther (g':=b) hb (o+j) (.int .i64 x)
  exact⟨this.lt,this.c0,this.c1,this.c2,this.c3,by rw [List.length_set];exact this.c4,this.c5,this.fz⟩
 ·have h1:=h.own.counts
  rw [hc] at h1 ⊢;exact h1.set hj x
 ·have c:=h.own.caps
  exact⟨c.w0,c.k0,c.v0,by rw [List.length_set];exact c.c0,c.w1,c.k1,c.v1,by rw [List.length_set];exact c.c1⟩
theorem Cop.key {n g:Nat} {W:World} {s:Sl} {a:Ads} (h:Cop n g W s a) {b o j:Nat} (hc:a.k=some ⟨b,o,none⟩) (hj:j < s.keys.length) (x:Int):Cop n g (W.setCell ⟨b,o+j,none⟩ (.int .i64 x)) { s with keys:=s.keys.set j x } a/\Turned g a W (W.setCell ⟨b,o+j,none⟩ (.int .i64 x)):=by
 have hb:=h.fk _ hc
 simp only at hb
 have hq:=h.sep;refine⟨⟨?_,⟨h.own.words.cellOther ((hc▸hq.wk).moved) _,?_,h.own.vals.cellOther ((hc▸hq.kv.symm).moved) _,h.own.counts.cellOther ((hc▸hq.kc.symm).moved) _,?_⟩,h.sep,h.lies.set _ _,h.fw,h.fk,h.fv,h.fc⟩,(Turned.refl _ _ _).cell (p:=⟨b,o+j,none⟩) (Or.inr (Or.inr (Or.inl ⟨_,hc,rfl⟩))) _⟩
 ·have:=h.box.setOther (g':=b) hb (o+j) (.int .i64 x)
  exact⟨this.lt,this.c0,this.c1,by rw [List.length_set];exact this.c2,this.c3,this.c4,this.c5,this.fz⟩
 ·have h1:=h.own.keys
  rw [hc] at h1 ⊢;exact h1.set hj x
 ·have c:=h.own.caps
  exact⟨c.w0,by rw [List.length_set];exact c.k0,c.v0,c.c0,c.w1,by rw [List.length_set];exact c.k1,c.v1,c.c1⟩
theorem Cop.val {n g:Nat} {W:World} {s:Sl} {a:Ads} (h:Cop n g W s a) {b o j:Nat} (hc:a.v=some ⟨b,o,none⟩) (hj:j < s.vals.length) (x:Int):Cop n g (W.setCell ⟨b,o+j,none⟩ (.int .i64 x)) { s with vals:=s.vals.set j x } a/\Turned g a W (W.setCell ⟨b,o+j,none⟩ (.int .i64 x)):=by
 have hb:=h.fv _ hc
 simp only at hb
 have hq:=h.sep;refine⟨⟨?_,⟨h.own.words.cellOther ((hc▸hq.wv).moved) _,h.own.keys.cellOther ((hc▸hq.kv).moved) _,?_,h.own.counts.cellOther ((hc▸hq.vc.symm).moved) _,?_⟩,h.sep,h.lies.set _ _,h.fw,h.fk,h.fv,h.fc⟩,(Turned.refl _ _ _).cell (p:=⟨b,o+j,none⟩) (Or.inr (Or.inr (Or.inr (Or.inl ⟨_,hc,rfl⟩)))) _⟩
 ·have:=h.box.setOther (g':=b) hb (o+j) (.int .i64 x)
  exact⟨this.lt,this.c0,this.c1,this.c2,by rw [List.length_set];exact this.c3,this.c4,this.c5,this.fz⟩
 ·have h1:=h.own.vals
  rw [hc] at h1 ⊢;exact h1.set hj x
 ·have c:=h.own.caps
  exact⟨c.w0,c.k0,by rw [List.length_set];exact c.v0,c.c0,c.w1,c.k1,by rw [List.length_set];exact c.v1,c.c1⟩
theorem New.off {k:IntKind} {w:World} {B:Nat} {a:Option Addr} {zs:List Int} (h:New k w B a zs) {g:Nat} (hg:∀ p,a=some p->p.block≠g) (o:Nat) (u:Value):New k (w.setCell ⟨g,o,none⟩ u) B a zs :=
 h.cellOther (far_apart hg) u
theorem Cop.laid {n g:Nat} {W:World} {s:Sl} {a:Ads} (h:Cop n g W s a) (m:Nat):Cop n g (W.setCell ⟨g,5,none⟩ (.int .u64 (m:Int))) { s with laid:=m } a/\Turned g a W (W.setCell ⟨g,5,none⟩ (.int .u64 (m:Int))) :=
 ⟨⟨Box.set (s':={ s with laid:=m }) (a':=a) h.box 5 _ (by decide) rfl ⟨rfl,rfl,rfl⟩ ⟨rfl,rfl,rfl⟩ ⟨rfl,rfl,rfl⟩ ⟨rfl,rfl,rfl⟩ rfl,⟨h.own.words.off h.fw _ _,h.own.keys.off h.fk _ _,h.own.vals.off h.fv _ _,h.own.counts.off h.fc _ _,have c:=h.own.caps;⟨c.w0,c.k0,c.v0,c.c0,c.w1,c.k1,c.v1,c.c1⟩⟩,h.sep,h.lies.set _ _,h.fw,h.fk,h.fv,h.fc⟩,
  (Turned.refl _ _ _).cell (p:=⟨g,5,none⟩) (Or.inl rfl) _⟩
def ClearPost (n g:Nat) (s:Sl) (a:Ads) (w:World) (e:Ending) (w':World):Prop:=e=.returned (.tuple #[])/\Cop n g w' s a/\Turned g a w w'
theorem sClear (n g:Nat) (s:Sl) (a:Ads) (i:Nat) (w:World) (h:Cop n g w s a) (hM:s.May) (hok:s.Ok) (hs:s.Short) (hi:i < s.keys.length) (hn:n<=w.heap.size) :
  Calls Tryz.prog 194 #[.pointer (some ⟨g,0,none⟩),.int .i64 (i:Int)] w (ClearPost n g (s.emptied i) a w):=by
 have CH:=aq (show Calls Tryz.prog 221 #[slv s a,.int .i64 (i:Int)] w (fun e w'=>e=.returned (.bool (Oc.isB s.words i))/\Below w.heap.size w w') by rw [<-hasV_may hM hi];exact sHas s a i w h.own.held hok hs);have CB:=aq (fun W=>sBit i W (by have:=hs.keys;omega));have H0:=aq h;have HOK:=aq hok;have HM:=aq hM;obtain⟨_,c0,c1,c2,c3,c4,c5,_⟩:=h.box;have l2:=hs.keys;clear h hok hs hM;unfold slv at CH
 cases hb:Oc.isB s.words i
 ·have HE:=aq (show s.emptied i=s from emptied_id hb (HM.out.zero i hb))
  have HB:=aq hb;clear hb
  go_enter Tryz.func194,Tryz.ntmps194
  go_wp2_with fail
  refine CH.out.mono ?_;rintro e w1 ⟨rfl,hb⟩;rw [HB.out];go_wp2
  go_end0
  rw [HE.out];exact⟨rfl,H0.out.below hb,Turned.of_below hb⟩
 ·have HE:=aq (show s.emptied i={ s with words:=Oc.putW s.words i false,keys:=s.keys.set i 0,vals:=s.vals.set i 0,counts:=s.counts.set (s.segOf i) (s.counts.getD (s.segOf i) 0-1) } by unfold Sl.emptied;rw [hb];rfl)
  have HB:=aq hb;clear hb
  go_enter Tryz.func194,Tryz.ntmps194
  go_wp2_with fail
  refine CH.out.mono ?_;rintro e w1 ⟨rfl,hb⟩;rw [HB.out];have T1:=aq (Turned.of_below (g:=g) (a:=a) hb);have H1:=aq (H0.out.below hb);clear hb c0 c1 c2 c3 c4 c5 H0;obtain⟨_,c0,c1,c2,c3,c4,c5,_⟩:=H1.out.box;obtain⟨sg,hsg⟩:∃ sg:Nat,s.seg=sg:=⟨s.seg.toNat,by have:=HM.out.seg1;omega⟩
  have hsg4:4<=sg:=by have:=HM.out.seg1;omega
  have hsgo:s.segOf i=i/sg:=by unfold Sl.segOf;rw [hsg];simp
  have hq:=HM.out.slot_seg hi;rw [hsgo] at hq;obtain⟨q,hqe⟩:∃ q,q=i/sg:=⟨_,rfl⟩;rw [<-hqe] at hq
  have hqi:q<=i:=by rw [hqe];exact Nat.div_le_self _ _
  have HCO:=aq (HM.out.count q hq);obtain⟨y,hy⟩:∃ y,s.counts.getD q 0=y:=⟨_,rfl⟩
  have hy0:0<=y/\y<=65536:=by
   have h1:=HCO.out;rw [hy] at h1;have h2:=Oc.places_length_le s.words (q*s.seg.toNat) ((q+1)*s.seg.toNat)
   have e:(q+1)*s.seg.toNat-q*s.seg.toNat=s.seg.toNat:=by rw [Nat.add_mul];omega
   have h3:=HM.out.seg2;unfold Sl.countOf at h1
   omega
  have g3:IntKind.i64.wrap ((i:Int).tdiv s.seg)=(q:Int):=by
   rw [hsg,Int.tdiv_eq_ediv_of_nonneg (by omega),show (i:Int)/(sg:Int)=((i/sg:Nat):Int) from by simp,<-hqe];exact IntWalk.i64_in _ (by omega)
  have g7:IntKind.i64.wrap ((i:Int)/s.seg)=(q:Int):=by rw [<-g3,Int.tdiv_eq_ediv_of_nonneg (by omega)]
  have k0:¬ s.seg=0:=by omega
  have HSQ:=aq (show s.segOf i=q by rw [hsgo,hqe]);have HY:=aq hy
  have g5:(0:Int)<=(q:Int):=by omega
  have g6:(q:Int) < (s.counts.length:Int):=by omega
  clear hsg hsgo hqe hy HCO;have hwl:=HM.out.slot_word hi;obtain⟨bw,ow,haw,_,_,cw,fw⟩:=H1.out.own.words.item (i:=i/64) (by rw [ints_length];exact hwl);rw [ints_getD] at cw;have hbw:=H1.out.fw _ haw
  simp only at hbw
  obtain⟨x,hx⟩:∃ x,s.words.getD (i/64) 0=x:=⟨_,rfl⟩;rw [hx] at cw
  have hx64:x < 18446744073709551616:=by rw [<-hx];exact HOK.out.words _
  have KA:=aq (turn_off hx64 (show i % 64 < 64 by omega));have H2:=aq (H1.out.word haw hwl (Oc.putN x (i % 64) false));have HPW:=aq (show s.words.set (i/64) (Oc.putN x (i % 64) false)=Oc.putW s.words i false by unfold Oc.putW;rw [hx]);rw [HPW.out] at H2
  have j0:(0:Int)<=(i:Int)/64:=by omega
  have j1:(i:Int)/64 < (s.words.length:Int):=by omega
  have e64:((i:Int)/64).toNat=i/64:=by omega
  have e65:IntKind.i64.wrap ((i:Int)/64)=(i:Int)/64:=IntWalk.i64_in _ (by omega);have e66:(i:Int).tdiv 64=(i:Int)/64:=Int.tdiv_eq_ediv_of_nonneg (by omega)
  have HS1:=show w1.drew.cell? ⟨g,1,none⟩=some (.slice (some ⟨bw,ow,none⟩) s.words.length a.cw)/\True by rw [<-haw];exact⟨H1.out.box.c1,trivial⟩
  have keepS:=aq (show ∀ u:Value,w1.drew.cell? ⟨g,1,none⟩=some (.slice (some ⟨bw,ow,none⟩) s.words.length a.cw)/\True->(w1.drew.setCell ⟨bw,ow+i/64,none⟩ u).cell? ⟨g,1,none⟩=some (.slice (some ⟨bw,ow,none⟩) s.words.length a.cw)/\True from fun u h=>⟨(World.cell?_setCell_other _ _ _ _ (by intro e;injection e with e1;exact hbw e1)).trans h.1,trivial⟩);clear hx haw
  go_upto_region 1 with (fail)
  refine wp_region_held_drew (S:=fun w'=>w'.cell? ⟨g,1,none⟩=some (.slice (some ⟨bw,ow,none⟩) s.words.length a.cw)/\True) (by kernel_rfl) HS1 (fun hHeld=>?_);clear HS1 c0 c1 c2 c3 c4 c5;refine tk2 0 ?_;refine tk2 1 ?_;refine tk2 2 ?_;refine tk2 3 ?_;refine tk2 4 ?_;refine tk2 5 ?_;refine tk2 6 ?_;refine tk2 7 ?_;refine tk2 9 ?_;refine wpAnyH_ready (rs:=[8,10]) (by kernel_rfl) (by simp) ?_;refine cH (fun K hK=>?_) ?_
  ·skip
   go_simp;refine hK.out _ _ hHeld (fun hHeld=>?_);clear hK K
   try simp only [sZ]
   refine rdH 10 fun K hK=>?_;go_simp;refine (CB.out _).mono ?_;rintro e w' ⟨rfl,rfl⟩
   try go_wp2_with fail
   refine hK.out _ _ hHeld (fun hHeld=>?_);clear hK K
   try simp only [sZ]
   refine tk2 11 ?_;refine tk2 12 ?_;refine rdH 13 fun K hK=>?_;go_simp;refine hK.out _ _ (keepS.out _ hHeld) (fun _=>?_);clear hK K hHeld;refine wpAnyH_done (by kernel_rfl) ?_ _;rw [KA.out];obtain⟨W2,hW2⟩:∃ W2,W2=(w1.setCell ⟨bw,ow+i/64,none⟩ (.int .u64 (Oc.putN x (i % 64) false:Int))).drew:=⟨_,rfl⟩;have H3:=aq (show Cop n g W2 { s with words:=Oc.putW s.words i false } a/\Turned g a w W2 by rw [hW2];exact⟨H2.out.1.below ((Below.refl _ _).drew),(T1.out.trans H2.out.2).trans (Turned.of_below ((Below.refl _ _).drew))⟩);rw [<-hW2];clear hW2 H2 KA keepS cw fw hx64;obtain⟨_,c0,c1,c2,c3,c4,c5,_⟩:=H3.out.1.box;obtain⟨bc,oc,hac,_,_,cc,fc⟩:=H3.out.1.own.counts.item (i:=q) hq
   dsimp only at c0 c1 c2 c3 c4 c5 cc
   rw [HY.out] at cc;rw [hac] at c4;have H4:=aq (H3.out.1.count hac hq (y-1));have hyw:IntKind.i64.wrap (y-1)=y-1:=IntWalk.i64_in _ (by omega);clear hac
   go_upto_region 2 with (fail)
   go_still_tail 15,(by kernel_rfl)
   go_upto_region 3 with (fail)
   obtain⟨W3,hW3⟩:∃ W3,W3=(W2.setCell ⟨bc,oc+q,none⟩ (.int .i64 (y-1))).drew:=⟨_,rfl⟩;have H5:=aq (show Cop n g W3 { s with words:=Oc.putW s.words i false,counts:=s.counts.set q (y-1) } a/\Turned g a w W3 by rw [hW3];exact⟨H4.out.1.below ((Below.refl _ _).drew),(H3.out.2.trans H4.out.2).trans (Turned.of_below ((Below.refl _ _).drew))⟩)
   first | rw [<-hW3] | (trace_state;skip)
   clear hW3 H4 H3 c0 c1 c2 c3 c4 c5 cc fc g3 g7 k0 hyw;obtain⟨_,c0,c1,c2,c3,c4,c5,_⟩:=H5.out.1.box
   have hiv:i < s.vals.length:=by have:=HM.out.vals;omega
   obtain⟨bk,ok,hak,_,_,ck,fk⟩:=H5.out.1.own.keys.item (i:=i) hi;obtain⟨bv,ov,hav,_,_,cv,fv⟩:=H5.out.1.own.vals.item (i:=i) hiv
   dsimp only at c0 c1 c2 c3 c4 c5 ck cv
   have hkv:bk≠bv:=H5.out.1.sep.kv _ _ hak hav;have H6:=aq (H5.out.1.key hak hi 0);have H7:=aq (H6.out.1.val hav hiv 0);rw [hak] at c2;rw [hav] at c3
   have i0:(0:Int)<=(i:Int):=by omega
   have i1:(i:Int) < (s.keys.length:Int):=by omega
   have i2:(i:Int) < (s.vals.length:Int):=by omega
   have hbk:=H5.out.1.fk _ hak;have hbv:=H5.out.1.fv _ hav
   simp only at hbk hbv
   have keep3:=aq (show ∀ (V:World) (b o:Nat) (u:Value),b=bk∨b=bv->(V.cell? ⟨g,2,none⟩=some (.slice (some ⟨bk,ok,none⟩) s.keys.length a.ck)/\V.cell? ⟨g,3,none⟩=some (.slice (some ⟨bv,ov,none⟩) s.vals.length a.cv)/\True/\True)->((V.setCell ⟨b,o,none⟩ u).cell? ⟨g,2,none⟩=some (.slice (some ⟨bk,ok,none⟩) s.keys.length a.ck)/\(V.setCell ⟨b,o,none⟩ u).cell? ⟨g,3,none⟩=some (.slice (some ⟨bv,ov,none⟩) s.vals.length a.cv)/\True/\True) from fun V b o u hb h=>by
    have hne:b≠g:=by rcases hb with rfl | rfl<;>assumption
    exact⟨(World.cell?_setCell_other _ _ _ _ (by intro e;injection e with e1;exact hne e1)).trans h.1,(World.cell?_setCell_other _ _ _ _ (by intro e;injection e with e1;exact hne e1)).trans h.2.1,⟨trivial,trivial⟩⟩)
   clear hak hav
   have HS3:=show W3.drew.cell? ⟨g,2,none⟩=some (.slice (some ⟨bk,ok,none⟩) s.keys.length a.ck)/\W3.drew.cell? ⟨g,3,none⟩=some (.slice (some ⟨bv,ov,none⟩) s.vals.length a.cv)/\True/\True from⟨c2,c3,trivial,trivial⟩
   refine wp_region_held_drew (S:=fun w'=>w'.cell? ⟨g,2,none⟩=some (.slice (some ⟨bk,ok,none⟩) s.keys.length a.ck)/\w'.cell? ⟨g,3,none⟩=some (.slice (some ⟨bv,ov,none⟩) s.vals.length a.cv)/\True/\True) (by kernel_rfl) HS3 (fun hHeld=>?_);clear HS3 c0 c1 c2 c3 c4 c5;refine tk4 0 ?_;refine tk4 1 ?_;refine tk4 2 ?_;refine tk4 3 ?_;refine tk4 4 ?_;refine tk4 5 ?_;refine tk4 6 ?_;refine tk4 7 ?_;refine tk4 8 ?_;refine tk4 9 ?_;refine tk4 10 ?_;refine tk4 11 ?_;refine tk4 12 ?_;refine rdH 13 fun K hK=>?_;go_simp;refine hK.out _ _ (keep3.out _ _ _ _ (by first | exact Or.inl rfl | exact Or.inr rfl) hHeld) (fun hHeld=>?_);clear hK K
   try simp only [sZ]
   refine tk4 14 ?_;refine rdH 15 fun K hK=>?_;go_simp;refine hK.out _ _ (keep3.out _ _ _ _ (by first | exact Or.inl rfl | exact Or.inr rfl) hHeld) (fun hHeld=>?_);clear hK K
   try simp only [sZ]
   refine wpAnyH_done (by kernel_rfl) ?_ _;go_wp2
   go_end0
   rw [HE.out,HSQ.out,HY.out];exact⟨rfl,H7.out.1.below ((Below.refl _ _).drew),((H5.out.2.trans H6.out.2).trans H7.out.2).trans (Turned.of_below ((Below.refl _ _).drew))⟩
  refine cH (fun K hK=>?_) AllReadyH.nil;skip;go_simp;refine (CB.out _).mono ?_;rintro e w' ⟨rfl,rfl⟩
  try go_wp2_with fail
  refine hK.out _ _ hHeld (fun hHeld=>?_);clear hK K
  try simp only [sZ]
  refine rdH 8 fun K hK=>?_;go_simp;refine hK.out _ _ hHeld (fun hHeld=>?_);clear hK K
  try simp only [sZ]
  refine tk2 11 ?_;refine tk2 12 ?_;refine rdH 13 fun K hK=>?_;go_simp;refine hK.out _ _ (keepS.out _ hHeld) (fun _=>?_);clear hK K hHeld;refine wpAnyH_done (by kernel_rfl) ?_ _;rw [KA.out];obtain⟨W2,hW2⟩:∃ W2,W2=(w1.setCell ⟨bw,ow+i/64,none⟩ (.int .u64 (Oc.putN x (i % 64) false:Int))).drew:=⟨_,rfl⟩;have H3:=aq (show Cop n g W2 { s with words:=Oc.putW s.words i false } a/\Turned g a w W2 by rw [hW2];exact⟨H2.out.1.below ((Below.refl _ _).drew),(T1.out.trans H2.out.2).trans (Turned.of_below ((Below.refl _ _).drew))⟩);rw [<-hW2];clear hW2 H2 KA keepS cw fw hx64;obtain⟨_,c0,c1,c2,c3,c4,c5,_⟩:=H3.out.1.box;obtain⟨bc,oc,hac,_,_,cc,fc⟩:=H3.out.1.own.counts.item (i:=q) hq
  dsimp only at c0 c1 c2 c3 c4 c5 cc
  rw [HY.out] at cc;rw [hac] at c4;have H4:=aq (H3.out.1.count hac hq (y-1));have hyw:IntKind.i64.wrap (y-1)=y-1:=IntWalk.i64_in _ (by omega);clear hac
  go_upto_region 2 with (fail)
  go_still_tail 15,(by kernel_rfl)
  go_upto_region 3 with (fail)
  obtain⟨W3,hW3⟩:∃ W3,W3=(W2.setCell ⟨bc,oc+q,none⟩ (.int .i64 (y-1))).drew:=⟨_,rfl⟩;have H5:=aq (show Cop n g W3 { s with words:=Oc.putW s.words i false,counts:=s.counts.set q (y-1) } a/\Turned g a w W3 by rw [hW3];exact⟨H4.out.1.below ((Below.refl _ _).drew),(H3.out.2.trans H4.out.2).trans (Turned.of_below ((Below.refl _ _).drew))⟩)
  first | rw [<-hW3] | (trace_state;skip)
  clear hW3 H4 H3 c0 c1 c2 c3 c4 c5 cc fc g3 g7 k0 hyw;obtain⟨_,c0,c1,c2,c3,c4,c5,_⟩:=H5.out.1.box
  have hiv:i < s.vals.length:=by have:=HM.out.vals;omega
  obtain⟨bk,ok,hak,_,_,ck,fk⟩:=H5.out.1.own.keys.item (i:=i) hi;obtain⟨bv,ov,hav,_,_,cv,fv⟩:=H5.out.1.own.vals.item (i:=i) hiv
  dsimp only at c0 c1 c2 c3 c4 c5 ck cv
  have hkv:bk≠bv:=H5.out.1.sep.kv _ _ hak hav;have H6:=aq (H5.out.1.key hak hi 0);have H7:=aq (H6.out.1.val hav hiv 0);rw [hak] at c2;rw [hav] at c3
  have i0:(0:Int)<=(i:Int):=by omega
  have i1:(i:Int) < (s.keys.length:Int):=by omega
  have i2:(i:Int) < (s.vals.length:Int):=by omega
  have hbk:=H5.out.1.fk _ hak;have hbv:=H5.out.1.fv _ hav
  simp only at hbk hbv
  have keep3:=aq (show ∀ (V:World) (b o:Nat) (u:Value),b=bk∨b=bv->(V.cell? ⟨g,2,none⟩=some (.slice (some ⟨bk,ok,none⟩) s.keys.length a.ck)/\V.cell? ⟨g,3,none⟩=some (.slice (some ⟨bv,ov,none⟩) s.vals.length a.cv)/\True/\True)->((V.setCell ⟨b,o,none⟩ u).cell? ⟨g,2,none⟩=some (.slice (some ⟨bk,ok,none⟩) s.keys.length a.ck)/\(V.setCell ⟨b,o,none⟩ u).cell? ⟨g,3,none⟩=some (.slice (some ⟨bv,ov,none⟩) s.vals.length a.cv)/\True/\True) from fun V b o u hb h=>by
   have hne:b≠g:=by rcases hb with rfl | rfl<;>assumption
   exact⟨(World.cell?_setCell_other _ _ _ _ (by intro e;injection e with e1;exact hne e1)).trans h.1,(World.cell?_setCell_other _ _ _ _ (by intro e;injection e with e1;exact hne e1)).trans h.2.1,⟨trivial,trivial⟩⟩)
  clear hak hav
  have HS3:=show W3.drew.cell? ⟨g,2,none⟩=some (.slice (some ⟨bk,ok,none⟩) s.keys.length a.ck)/\W3.drew.cell? ⟨g,3,none⟩=some (.slice (some ⟨bv,ov,none⟩) s.vals.length a.cv)/\True/\True from⟨c2,c3,trivial,trivial⟩
  refine wp_region_held_drew (S:=fun w'=>w'.cell? ⟨g,2,none⟩=some (.slice (some ⟨bk,ok,none⟩) s.keys.length a.ck)/\w'.cell? ⟨g,3,none⟩=some (.slice (some ⟨bv,ov,none⟩) s.vals.length a.cv)/\True/\True) (by kernel_rfl) HS3 (fun hHeld=>?_);clear HS3 c0 c1 c2 c3 c4 c5;refine tk4 0 ?_;refine tk4 1 ?_;refine tk4 2 ?_;refine tk4 3 ?_;refine tk4 4 ?_;refine tk4 5 ?_;refine tk4 6 ?_;refine tk4 7 ?_;refine tk4 8 ?_;refine tk4 9 ?_;refine tk4 10 ?_;refine tk4 11 ?_;refine tk4 12 ?_;refine rdH 13 fun K hK=>?_;go_simp;refine hK.out _ _ (keep3.out _ _ _ _ (by first | exact Or.inl rfl | exact Or.inr rfl) hHeld) (fun hHeld=>?_);clear hK K
  try simp only [sZ]
  refine tk4 14 ?_;refine rdH 15 fun K hK=>?_;go_simp;refine hK.out _ _ (keep3.out _ _ _ _ (by first | exact Or.inl rfl | exact Or.inr rfl) hHeld) (fun hHeld=>?_);clear hK K
  try simp only [sZ]
  refine wpAnyH_done (by kernel_rfl) ?_ _;go_wp2
  go_end0
  rw [HE.out,HSQ.out,HY.out];exact⟨rfl,H7.out.1.below ((Below.refl _ _).drew),((H5.out.2.trans H6.out.2).trans H7.out.2).trans (Turned.of_below ((Below.refl _ _).drew))⟩
end Go.Proofs.YtpeckljoannolaaGreatDoor

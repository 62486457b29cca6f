/- What package slots' methods clear and lay do, and what Lay and Clear return. -/
import Derived.Test.YtpeckljoannolaaGreatDoorM14Ot
import Derived.Deep.RegionHeld3
import Derived.Test.YtpeckljoannolaaGreatDoorM15Ot
import Derived.Test.YtpeckljoannolaaGreatDoorTkOt
set_option linter.unusedVariables false
set_option linter.unusedSimpArgs false
namespace Go.Proofs.YtpeckljoannolaaGreatDoor
open Go.RowKit
structure Turned (g:Nat) (a:Ads) (w w':World):Prop where
 os:w'.os=w.os
 tape:w'.tape=w.tape
 output:w'.output=w.output
 size:w.heap.size<=w'.heap.size
 block:∀ k,k < w.heap.size->k≠g->(∀ p,a.w=some p->p.block≠k)->(∀ p,a.k=some p->p.block≠k)->(∀ p,a.v=some p->p.block≠k)->(∀ p,a.c=some p->p.block≠k)->w'.heap[k]?=w.heap[k]?
 others:KeepsOthers w w'
theorem keeps_of_below {w w':World} (h:Below w.heap.size w w'):KeepsOthers w w':=⟨h.size,fun k o hk _=>(h.block k (Array.getElem?_eq_some_iff.1 hk).1).trans hk⟩
theorem Turned.of_below {g:Nat} {a:Ads} {w w':World} (h:Below w.heap.size w w'):Turned g a w w':=⟨h.os,h.tape,h.output,h.size,fun k hk _ _ _ _ _=>h.block k hk,keeps_of_below h⟩
theorem Turned.refl (g:Nat) (a:Ads) (w:World):Turned g a w w:=Turned.of_below (Below.refl _ _)
theorem Turned.trans {g:Nat} {a:Ads} {x y z:World} (h:Turned g a x y) (k:Turned g a y z):Turned g a x z :=
 ⟨k.os.trans h.os,k.tape.trans h.tape,k.output.trans h.output,Nat.le_trans h.size k.size,fun i hi h1 h2 h3 h4 h5=>(k.block i (Nat.lt_of_lt_of_le hi h.size) h1 h2 h3 h4 h5).trans (h.block i hi h1 h2 h3 h4 h5),h.others.trans k.others⟩
theorem Turned.cell {g:Nat} {a:Ads} {x y:World} (h:Turned g a x y) {p:Addr} (hp:p.block=g∨(∃ q,a.w=some q/\q.block=p.block)∨(∃ q,a.k=some q/\q.block=p.block)∨(∃ q,a.v=some q/\q.block=p.block)∨(∃ q,a.c=some q/\q.block=p.block)) (u:Value):Turned g a x (y.setCell p u):=by
 refine h.trans ⟨rfl,rfl,rfl,by rw [World.size_setCell];exact Nat.le_refl _,fun k hk h1 h2 h3 h4 h5=>Below.heap_setCell y p u k (fun e=>?_),KeepsOthers.setCell _ _ _⟩;subst e
 rcases hp with hp | ⟨q,e,hq⟩ | ⟨q,e,hq⟩ | ⟨q,e,hq⟩ | ⟨q,e,hq⟩
 ·exact h1 hp
 ·exact h2 q e hq
 ·exact h3 q e hq
 ·exact h4 q e hq
 ·exact h5 q e hq
structure Cop (n g:Nat) (W:World) (s:Sl) (a:Ads):Prop where
 box:Box W g s a
 own:Own W n s a
 sep:Sep a
 lies:Lies W n a
 fw:∀ p,a.w=some p->p.block≠g
 fk:∀ p,a.k=some p->p.block≠g
 fv:∀ p,a.v=some p->p.block≠g
 fc:∀ p,a.c=some p->p.block≠g
theorem Turned.below {n g:Nat} {W w':World} {s:Sl} {a:Ads} (h:Turned g a W w') (hc:Cop n g W s a) (hn:n<=g) (hs:n<=W.heap.size):Below n W w' :=
 ⟨h.os,h.tape,h.output,h.size,fun k hk=>h.block k (by omega) (by omega) (fun p hp=>by have:=(hc.lies.w p hp).1;omega) (fun p hp=>by have:=(hc.lies.k p hp).1;omega) (fun p hp=>by have:=(hc.lies.v p hp).1;omega) (fun p hp=>by have:=(hc.lies.c p hp).1;omega)⟩
theorem Cop.below {n g:Nat} {W W':World} {s:Sl} {a:Ads} (h:Cop n g W s a) (hb:Below W.heap.size W W'):Cop n g W' s a :=
 ⟨h.box.below hb,h.own.below hb,h.sep,h.lies.size hb.size,h.fw,h.fk,h.fv,h.fc⟩
theorem far_apart {A:Option Addr} {g o:Nat} (h:∀ p,A=some p->p.block≠g):Apart A (some ⟨g,o,none⟩):=fun p q hp hq e=>by
 injection hq with hq;subst hq;exact h p hp e
theorem Cop.word {n g:Nat} {W:World} {s:Sl} {a:Ads} (h:Cop n g W s a) {b o j:Nat} (hc:a.w=some ⟨b,o,none⟩) (hj:j < s.words.length) (x:Nat):Cop n g (W.setCell ⟨b,o+j,none⟩ (.int .u64 (x:Int))) { s with words:=s.words.set j x } a/\Turned g a W (W.setCell ⟨b,o+j,none⟩ (.int .u64 (x:Int))):=by
 have hb:=h.fw _ hc
 simp only at hb
 have hq:=h.sep;refine⟨⟨?_,⟨?_,h.own.keys.cellOther ((hc▸hq.wk.symm).moved) _,h.own.vals.cellOther ((hc▸hq.wv.symm).moved) _,h.own.counts.cellOther ((hc▸hq.wc.symm).moved) _,?_⟩,h.sep,h.lies.set _ _,h.fw,h.fk,h.fv,h.fc⟩,(Turned.refl _ _ _).cell (p:=⟨b,o+j,none⟩) (Or.inr (Or.inl ⟨_,hc,rfl⟩)) _⟩
 ·have:=h.box.setOther (g':=b) hb (o+j) (.int .u64 (x:Int))
  exact⟨this.lt,this.c0,by rw [List.length_set];exact this.c1,this.c2,this.c3,this.c4,this.c5,this.fz⟩
 ·have h1:=h.own.words
  rw [hc] at h1 ⊢;have:=h1.set (i:=j) (by rw [ints_length];exact hj) (x:Int);rw [show (ints s.words).set j (x:Int)=ints (s.words.set j x) from by simp [ints,List.map_set]] at this;exact this
 ·have c:=h.own.caps
  exact⟨by rw [List.length_set];exact c.w0,c.k0,c.v0,c.c0,by rw [List.length_set];exact c.w1,c.k1,c.v1,c.c1⟩
theorem Cop.count {n g:Nat} {W:World} {s:Sl} {a:Ads} (h:Cop n g W s a) {b o j:Nat} (hc:a.c=some ⟨b,o,none⟩) (hj:j < s.counts.length) (x:Int):Cop n g (W.setCell ⟨b,o+j,none⟩ (.int .i64 x)) { s with counts:=s.counts.set j x } a/\Turned g a W (W.setCell ⟨b,o+j,none⟩ (.int .i64 x)):=by
 have hb:=h.fc _ hc
 simp only at hb
 have hq:=h.sep;refine⟨⟨?_,⟨h.own.words.cellOther ((hc▸hq.wc).moved) _,h.own.keys.cellOther ((hc▸hq.kc).moved) _,h.own.vals.cellOther ((hc▸hq.vc).moved) _,?_,?_⟩,h.sep,h.lies.set _ _,h.fw,h.fk,h.fv,h.fc⟩,(Turned.refl _ _ _).cell (p:=⟨b,o+j,none⟩) (Or.inr (Or.inr (Or.inr (Or.inr ⟨_,hc,rfl⟩)))) _⟩
 ·have:=h.box.setOther (g':=b) hb (o+j) (.int .i64 x)
  exact⟨this.lt,this.c0,this.c1,this.c2,this.c3,by rw [List.length_set];exact this.c4,this.c5,this.fz⟩
 ·have h1:=h.own.counts
  rw [hc] at h1 ⊢;exact h1.set hj x
 ·have c:=h.own.caps
  exact⟨c.w0,c.k0,c.v0,by rw [List.length_set];exact c.c0,c.w1,c.k1,c.v1,by rw [List.length_set];exact c.c1⟩
theorem Cop.key {n g:Nat} {W:World} {s:Sl} {a:Ads} (h:Cop n g W s a) {b o j:Nat} (hc:a.k=some ⟨b,o,none⟩) (hj:j < s.keys.length) (x:Int):Cop n g (W.setCell ⟨b,o+j,none⟩ (.int .i64 x)) { s with keys:=s.keys.set j x } a/\Turned g a W (W.setCell ⟨b,o+j,none⟩ (.int .i64 x)):=by
 have hb:=h.fk _ hc
 simp only at hb
 have hq:=h.sep;refine⟨⟨?_,⟨h.own.words.cellOther ((hc▸hq.wk).moved) _,?_,h.own.vals.cellOther ((hc▸hq.kv.symm).moved) _,h.own.counts.cellOther ((hc▸hq.kc.symm).moved) _,?_⟩,h.sep,h.lies.set _ _,h.fw,h.fk,h.fv,h.fc⟩,(Turned.refl _ _ _).cell (p:=⟨b,o+j,none⟩) (Or.inr (Or.inr (Or.inl ⟨_,hc,rfl⟩))) _⟩
 ·have:=h.box.setOther (g':=b) hb (o+j) (.int .i64 x)
  exact⟨this.lt,this.c0,this.c1,by rw [List.length_set];exact this.c2,this.c3,this.c4,this.c5,this.fz⟩
 ·have h1:=h.own.keys
  rw [hc] at h1 ⊢;exact h1.set hj x
 ·have c:=h.own.caps
  exact⟨c.w0,by rw [List.length_set];exact c.k0,c.v0,c.c0,c.w1,by rw [List.length_set];exact c.k1,c.v1,c.c1⟩
theorem Cop.val {n g:Nat} {W:World} {s:Sl} {a:Ads} (h:Cop n g W s a) {b o j:Nat} (hc:a.v=some ⟨b,o,none⟩) (hj:j < s.vals.length) (x:Int):Cop n g (W.setCell ⟨b,o+j,none⟩ (.int .i64 x)) { s with vals:=s.vals.set j x } a/\Turned g a W (W.setCell ⟨b,o+j,none⟩ (.int .i64 x)):=by
 have hb:=h.fv _ hc
 simp only at hb
 have hq:=h.sep;refine⟨⟨?_,⟨h.own.words.cellOther ((hc▸hq.wv).moved) _,h.own.keys.cellOther ((hc▸hq.kv).moved) _,?_,h.own.counts.cellOther ((hc▸hq.vc.symm).moved) _,?_⟩,h.sep,h.lies.set _ _,h.fw,h.fk,h.fv,h.fc⟩,(Turned.refl _ _ _).cell (p:=⟨b,o+j,none⟩) (Or.inr (Or.inr (Or.inr (Or.inl ⟨_,hc,rfl⟩)))) _⟩
 ·have:=h.box.setOther (g':=b) hb (o+j) (.int .i64 x)
  exact⟨this.lt,this.c0,this.c1,this.c2,by rw [List.length_set];exact this.c3,this.c4,this.c5,this.fz⟩
 ·have h1:=h.own.vals
  rw [hc] at h1 ⊢;exact h1.set hj x
 ·have c:=h.own.caps
  exact⟨c.w0,c.k0,by rw [List.length_set];exact c.v0,c.c0,c.w1,c.k1,by rw [List.length_set];exact c.v1,c.c1⟩
theorem New.off {k:IntKind} {w:World} {B:Nat} {a:Option Addr} {zs:List Int} (h:New k w B a zs) {g:Nat} (hg:∀ p,a=some p->p.block≠g) (o:Nat) (u:Value):New k (w.setCell ⟨g,o,none⟩ u) B a zs :=
 h.cellOther (far_apart hg) u
theorem Cop.laid {n g:Nat} {W:World} {s:Sl} {a:Ads} (h:Cop n g W s a) (m:Nat):Cop n g (W.setCell ⟨g,5,none⟩ (.int .u64 (m:Int))) { s with laid:=m } a/\Turned g a W (W.setCell ⟨g,5,none⟩ (.int .u64 (m:Int))) :=
 ⟨⟨Box.set (s':={ s with laid:=m }) (a':=a) h.box 5 _ (by decide) rfl ⟨rfl,rfl,rfl⟩ ⟨rfl,rfl,rfl⟩ ⟨rfl,rfl,rfl⟩ ⟨rfl,rfl,rfl⟩ rfl,⟨h.own.words.off h.fw _ _,h.own.keys.off h.fk _ _,h.own.vals.off h.fv _ _,h.own.counts.off h.fc _ _,have c:=h.own.caps;⟨c.w0,c.k0,c.v0,c.c0,c.w1,c.k1,c.v1,c.c1⟩⟩,h.sep,h.lies.set _ _,h.fw,h.fk,h.fv,h.fc⟩,
  (Turned.refl _ _ _).cell (p:=⟨g,5,none⟩) (Or.inl rfl) _⟩
theorem Box.keep {n g:Nat} {W W':World} {s:Sl} {a:Ads} (h:Box W g s a) (hb:Below n W W') (hg:g < n):Box W' g s a :=
 have hc:∀ o,W'.cell? ⟨g,o,none⟩=W.cell? ⟨g,o,none⟩:=fun o=>hb.cell (p:=⟨g,o,none⟩) hg
 ⟨Nat.lt_of_lt_of_le h.lt hb.size,(hc 0).trans h.c0,(hc 1).trans h.c1,(hc 2).trans h.c2,(hc 3).trans h.c3,(hc 4).trans h.c4,(hc 5).trans h.c5,fun o=>(hb.frozen (p:=⟨g,o,none⟩) hg).trans (h.fz o)⟩
theorem PBox.keep {n g:Nat} {W W':World} {p:Int×Int} (h:PBox W g p) (hb:Below n W W') (hg:g < n):PBox W' g p :=
 ⟨Nat.lt_of_lt_of_le h.lt hb.size,(hb.cell (p:=⟨g,0,none⟩) hg).trans h.c0,(hb.cell (p:=⟨g,1,none⟩) hg).trans h.c1,(hb.frozen (p:=⟨g,0,none⟩) hg).trans h.f0,(hb.frozen (p:=⟨g,1,none⟩) hg).trans h.f1⟩
end Go.Proofs.YtpeckljoannolaaGreatDoor

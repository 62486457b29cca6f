/- Tables of handles as plain data, and what the document's own checks and comparisons of them answer. -/
import Derived.Test.YtpeckljoannolaaGreatDoorM01Ot
import Derived.Test.YtpeckljoannolaaGreatDoorR01Ot
import Derived.Test.YtpeckljoannolaaGreatDoorTkOt
set_option linter.unusedVariables false
set_option linter.unusedSimpArgs false
set_option maxHeartbeats 2000000
set_option maxRecDepth 100000
namespace Go.Proofs.YtpeckljoannolaaGreatDoor
open Go.RowKit
structure Ht where
 gens:List Int
 ats:List Int
def Ht.zero:Ht:=⟨[],[]⟩
structure Ht.Ok (t:Ht):Prop where
 gens:All64 t.gens
 ats:All64 t.ats
structure Ht.Short (t:Ht):Prop where
 gens:t.gens.length<=65536
 ats:t.ats.length<=65536
namespace Hn
def g (t:Ht) (i:Nat):Int:=t.gens.getD i 0
def a (t:Ht) (i:Nat):Int:=t.ats.getD i 0
def fineB (t:Ht) (i:Nat):Bool:=decide (0<=g t i)&&decide (g t i<=2147483647)&&decide (-1<=a t i)&&(decide (a t i < 0)||decide (g t i≠2147483647))
def mayB (t:Ht):Bool:=decide (t.ats.length=t.gens.length)&&decide (t.gens.length<=65536)&&(List.range t.gens.length).all (fineB t)
def chkE (t:Ht):Int:=if mayB t=true then 0 else 8
def live (zs:List Int):Nat:=(zs.filter fun z=>decide (0<=z)).length
def liveV (t:Ht):Int:=if chkE t=0 then ((live t.ats:Nat):Int) else 0
def isB (t:Ht) (h:Int×Int):Bool:=decide (0<=h.1)&&decide (h.1 < t.gens.length)&&decide (0<=a t h.1.toNat)&&decide (g t h.1.toNat=h.2)
def findE (t:Ht) (h:Int×Int):Int:=if chkE t=0 then (if isB t h=true then 0 else 140) else chkE t
def findV (t:Ht) (h:Int×Int):Int:=if findE t h=0 then a t h.1.toNat else 0
def freeB (t:Ht) (i:Nat):Bool:=decide (a t i < 0)&&decide (g t i < 2147483647)
def first (f:Nat->Bool):Nat->Nat->Nat
 | i,0=>i
 | i,n+1=>if f i=true then i else first f (i+1) n
def free (t:Ht):Nat:=first (freeB t) 0 t.gens.length
def given (t:Ht) (at':Int):Ht:=if free t < t.gens.length then ⟨t.gens,t.ats.set (free t) at'⟩ else ⟨t.gens++[0],t.ats++[at']⟩
def hnd (t:Ht):Int×Int:=((free t:Nat),g t (free t))
def fullB (t:Ht):Bool:=decide (free t=t.gens.length)&&decide (t.gens.length=65536)
def moved (t:Ht) (n:Nat) (at':Int):Ht:=⟨t.gens,t.ats.set n at'⟩
def back (t:Ht) (n:Nat):Ht:=⟨t.gens.set n (g t n+1),t.ats.set n (-1)⟩
def sameB (t o:Ht):Bool:=(t.gens==o.gens)&&(t.ats==o.ats)
structure May (t:Ht):Prop where
 len:t.ats.length=t.gens.length
 most:t.gens.length<=65536
 fine:∀ i,i < t.gens.length->0<=g t i/\g t i<=2147483647/\-1<=a t i/\(a t i < 0∨g t i≠2147483647)
theorem fine_iff (t:Ht) (i:Nat):fineB t i=true↔0<=g t i/\g t i<=2147483647/\-1<=a t i/\(a t i < 0∨g t i≠2147483647):=by
 unfold fineB
 simp only [Bool.and_eq_true,Bool.or_eq_true,decide_eq_true_eq,and_assoc]
theorem may_iff (t:Ht):mayB t=true↔May t:=by
 unfold mayB
 simp only [Bool.and_eq_true,decide_eq_true_eq,List.all_eq_true,List.mem_range]
 constructor
 ·rintro⟨⟨h1,h2⟩,h3⟩
  exact⟨h1,h2,fun i hi=>(fine_iff t i).1 (h3 i hi)⟩
 ·rintro⟨h1,h2,h3⟩
  exact⟨⟨h1,h2⟩,fun i hi=>(fine_iff t i).2 (h3 i hi)⟩
theorem chk_may {t:Ht}:chkE t=0↔May t:=by
 unfold chkE;rw [<-may_iff]
 split
 ·rename_i h;simp [h]
 ·rename_i h;simp [h]
theorem is_iff (t:Ht) (h:Int×Int):isB t h=true↔0<=h.1/\h.1 < t.gens.length/\0<=a t h.1.toNat/\g t h.1.toNat=h.2:=by
 unfold isB
 simp only [Bool.and_eq_true,decide_eq_true_eq,and_assoc]
theorem free_iff (t:Ht) (i:Nat):freeB t i=true↔a t i < 0/\g t i < 2147483647:=by
 unfold freeB
 simp only [Bool.and_eq_true,decide_eq_true_eq]
theorem first_spec (f:Nat->Bool):∀ n i,i<=first f i n/\first f i n<=i+n/\(∀ j,i<=j->j < first f i n->f j=false)/\(first f i n < i+n->f (first f i n)=true)
 | 0,i=>⟨Nat.le_refl _,Nat.le_refl _,fun j h1 h2=>by simp only [first] at h2;omega,fun h=>by simp only [first] at h;omega⟩
 | n+1,i=>by
  cases h:f i
  ·have e:first f i (n+1)=first f (i+1) n:=by simp [first,h]
   obtain⟨h1,h2,h3,h4⟩:=first_spec f n (i+1);rw [e];refine⟨by omega,by omega,fun j h5 h6=>?_,fun h5=>h4 (by omega)⟩
   by_cases hj:j=i
   ·rw [hj];exact h
   ·exact h3 j (by omega) h6
  ·have e:first f i (n+1)=i:=by simp [first,h]
   rw [e];exact⟨Nat.le_refl _,by omega,fun j h5 h6=>by omega,fun _=>h⟩
theorem free_le (t:Ht):free t<=t.gens.length:=by have:=(first_spec (freeB t) t.gens.length 0).2.1;unfold free;omega
theorem free_at {t:Ht} (h:free t < t.gens.length):freeB t (free t)=true:=(first_spec (freeB t) t.gens.length 0).2.2.2 (by unfold free at h;omega)
theorem g_past {t:Ht} {i:Nat} (h:t.gens.length<=i):g t i=0:=by unfold g;simp [List.getD,List.getElem?_eq_none h]
theorem given_lens {t:Ht} (h:May t) (p:Int):(given t p).ats.length=(given t p).gens.length/\t.gens.length<=(given t p).gens.length/\(given t p).gens.length<=t.gens.length+1:=by
 have:=h.len;unfold given
 split<;>simp<;>omega
theorem given_g {t:Ht} (p:Int) (i:Nat):g (given t p) i=g t i:=by
 unfold given
 split
 ·rfl
 ·unfold g
  simp only [List.getD,List.getElem?_append]
  split
  ·rfl
  ·rename_i h
   rw [List.getElem?_eq_none (by omega:t.gens.length<=i)]
   cases hk:i-t.gens.length with
   | zero=>rfl
   | succ k=>rfl
theorem given_a {t:Ht} (h:May t) (p:Int) (i:Nat):a (given t p) i=if i=free t then p else a t i:=by
 have hl:=h.len;have hf:=free_le t;unfold given
 split
 ·unfold a
  simp only [List.getD,List.getElem?_set]
  split
  ·rename_i h1 h2
   rw [if_pos h2.symm,if_pos (by omega)]
   rfl
  ·rename_i h1 h2
   rw [if_neg (fun e=>h2 e.symm)]
 ·unfold a
  simp only [List.getD,List.getElem?_append]
  split
  ·rw [if_neg (by omega)]
  ·by_cases e:i=free t
   ·rw [if_pos e,show i-t.ats.length=0 by omega];rfl
   ·rw [if_neg e,List.getElem?_eq_none (by simp;omega),List.getElem?_eq_none (by omega)]
theorem full_no {t:Ht} (h:fullB t=false):free t < t.gens.length∨(free t=t.gens.length/\t.gens.length≠65536):=by
 have:=free_le t;unfold fullB at h
 simp only [Bool.and_eq_false_iff,decide_eq_false_iff_not] at h
 omega
theorem may_given {t:Ht} (h:May t) (hf:fullB t=false) {p:Int} (hp:0<=p):May (given t p):=by
 obtain⟨l1,l2,l3⟩:=given_lens h p;have hfl:=free_le t;refine⟨l1,?_,fun i hi=>?_⟩
 ·rcases full_no hf with h1 | ⟨_,h1⟩
  ·have:(given t p).gens=t.gens:=by unfold given;rw [if_pos h1]
   rw [this];exact h.most
  ·have:=h.most;omega
 ·rw [given_g,given_a h]
  by_cases e:i=free t
  ·rw [if_pos e]
   by_cases hl:free t < t.gens.length
   ·have h1:=h.fine i (by omega)
    have h2:=(free_iff t i).1 (by rw [e];exact free_at hl);refine⟨h1.1,h1.2.1,by omega,Or.inr (by omega)⟩
   ·rw [g_past (by omega)];exact⟨by omega,by omega,by omega,Or.inr (by omega)⟩
  ·rw [if_neg e]
   have:i < t.gens.length:=by
    by_cases hl:free t < t.gens.length
    ·have:(given t p).gens=t.gens:=by unfold given;rw [if_pos hl]
     rw [this] at hi;exact hi
    ·omega
   exact h.fine i this
end Hn
theorem Ht.Short.given {t:Ht} (h:t.Short) (hm:Hn.May t) (hf:Hn.fullB t=false) {p:Int} (hp:0<=p):(Hn.given t p).Short:=by
 have h1:=Hn.may_given hm hf hp;exact⟨h1.most,by rw [h1.len];exact h1.most⟩
theorem Ht.short_of {t:Ht} (h:Hn.May t):t.Short:=⟨h.most,by rw [h.len];exact h.most⟩
theorem all64_setH {zs:List Int} (h:All64 zs) (i:Nat) {x:Int} (hx:In64 x):All64 (zs.set i x):=by
 intro j
 simp only [List.getD,List.getElem?_set]
 split
 ·split
  ·exact hx
  ·exact⟨by simp,by simp⟩
 ·exact h j
theorem all64_snoc {zs:List Int} (h:All64 zs) {x:Int} (hx:In64 x):All64 (zs++[x]):=by
 intro j
 simp only [List.getD,List.getElem?_append]
 split
 ·exact h j
 ·cases j-zs.length with
  | zero=>exact hx
  | succ k=>exact⟨by simp,by simp⟩
theorem Ht.Ok.zero:Ht.zero.Ok:=⟨fun i=>⟨by simp [Ht.zero],by simp [Ht.zero]⟩,fun i=>⟨by simp [Ht.zero],by simp [Ht.zero]⟩⟩
theorem Ht.Short.zero:Ht.zero.Short:=⟨by simp [Ht.zero],by simp [Ht.zero]⟩
theorem Ht.Ok.given {t:Ht} (h:t.Ok) {p:Int} (hp:In64 p):(Hn.given t p).Ok:=by
 unfold Hn.given
 split
 ·exact⟨h.gens,all64_setH h.ats _ hp⟩
 ·exact⟨all64_snoc h.gens ⟨by omega,by omega⟩,all64_snoc h.ats hp⟩
theorem Ht.Ok.moved {t:Ht} (h:t.Ok) (n:Nat) {p:Int} (hp:In64 p):(Hn.moved t n p).Ok:=⟨h.gens,all64_setH h.ats _ hp⟩
structure HAds where
 g:Option Addr
 a:Option Addr
 cg:Nat
 ca:Nat
def hv (t:Ht) (A:HAds):Value:=.agg #[.slice A.g t.gens.length A.cg,.slice A.a t.ats.length A.ca]
structure HCaps (t:Ht) (A:HAds):Prop where
 g0:A.g=none->t.gens.length=0/\A.cg=0
 a0:A.a=none->t.ats.length=0/\A.ca=0
 g1:t.gens.length<=A.cg
 a1:t.ats.length<=A.ca
structure HHeld (w:World) (t:Ht) (A:HAds):Prop where
 gens:Lst .i64 w A.g t.gens
 ats:Lst .i64 w A.a t.ats
 caps:HCaps t A
theorem HHeld.below {w w':World} {t:Ht} {A:HAds} (h:HHeld w t A) (hb:Below w.heap.size w w'):HHeld w' t A:=⟨h.gens.below hb,h.ats.below hb,h.caps⟩
structure HOwn (w:World) (B:Nat) (t:Ht) (A:HAds):Prop where
 gens:New .i64 w B A.g t.gens
 ats:New .i64 w B A.a t.ats
 caps:HCaps t A
 sep:t.gens=[]∨t.ats=[]∨Apart A.g A.a
theorem HOwn.held {w:World} {B:Nat} {t:Ht} {A:HAds} (h:HOwn w B t A):HHeld w t A:=⟨h.gens.lst,h.ats.lst,h.caps⟩
theorem HOwn.below {w w':World} {B:Nat} {t:Ht} {A:HAds} (h:HOwn w B t A) (hb:Below w.heap.size w w'):HOwn w' B t A:=⟨h.gens.below hb,h.ats.below hb,h.caps,h.sep⟩
theorem HOwn.lower {w:World} {B B':Nat} {t:Ht} {A:HAds} (h:HOwn w B t A) (hB:B'<=B):HOwn w B' t A:=⟨h.gens.lower hB,h.ats.lower hB,h.caps,h.sep⟩
structure HBox (w:World) (b:Nat) (t:Ht) (A:HAds):Prop where
 lt:b < w.heap.size
 c0:w.cell? ⟨b,0,none⟩=some (.slice A.g t.gens.length A.cg)
 c1:w.cell? ⟨b,1,none⟩=some (.slice A.a t.ats.length A.ca)
 f0:w.frozen? ⟨b,0,none⟩=false
 f1:w.frozen? ⟨b,1,none⟩=false
theorem HBox.below {w w':World} {b:Nat} {t:Ht} {A:HAds} (h:HBox w b t A) (hb:Below w.heap.size w w'):HBox w' b t A :=
 ⟨Nat.lt_of_lt_of_le h.lt hb.size,(hb.cell (p:=⟨b,0,none⟩) h.lt).trans h.c0,(hb.cell (p:=⟨b,1,none⟩) h.lt).trans h.c1,(hb.frozen (p:=⟨b,0,none⟩) h.lt).trans h.f0,(hb.frozen (p:=⟨b,1,none⟩) h.lt).trans h.f1⟩
def hCells (t:Ht) (A:HAds):Array Value:=#[.slice A.g t.gens.length A.cg,.slice A.a t.ats.length A.ca]
theorem HBox.of_block {w:World} {b:Nat} {t:Ht} {A:HAds} {T:TypeId} (h:w.heap[b]?=some (.cells (hCells t A) T (0,0))):HBox w b t A:=by
 have hlt:b < w.heap.size:=(Array.getElem?_eq_some_iff.1 h).1;refine⟨hlt,?_,?_,?_,?_⟩
 all_goals first | (simp [World.cell?,h,hCells]) | (simp [World.frozen?,h])
theorem HBox.new (w:World) (t:Ht) (A:HAds) (T:TypeId):HBox (w.alloc (.cells (hCells t A) T)) w.heap.size t A:=HBox.of_block (T:=T) (by show (w.heap.push _)[w.heap.size]?=_;exact Array.getElem?_push_size)
def hNone:HAds:=⟨none,none,0,0⟩
def HPost (t:Ht) (w:World) (e:Ending) (w':World):Prop:=∃ A,e=.returned (hv t A)/\HOwn w' w.heap.size t A/\Below w.heap.size w w'
theorem own_zero (w:World) (B:Nat):HOwn w B Ht.zero hNone:=⟨Or.inl rfl,Or.inl rfl,⟨fun _=>⟨rfl,rfl⟩,fun _=>⟨rfl,rfl⟩,Nat.le_refl _,Nat.le_refl _⟩,Or.inl rfl⟩
theorem HBox.setOther {w:World} {b:Nat} {t:Ht} {A:HAds} (h:HBox w b t A) {p:Addr} (hne:p.block≠b) (u:Value):HBox (w.setCell p u) b t A:=by
 have hc:∀ i,(w.setCell p u).cell? ⟨b,i,none⟩=w.cell? ⟨b,i,none⟩:=fun i=>World.cell?_setCell_other _ _ _ _ (by rintro rfl;exact hne rfl);exact⟨by rw [World.size_setCell];exact h.lt,(hc 0).trans h.c0,(hc 1).trans h.c1,by rw [World.frozen?_setCell];exact h.f0,by rw [World.frozen?_setCell];exact h.f1⟩
def wput2 (w:World) (g:Nat) (u0 u1:Value):World:=(w.setCell ⟨g,0,none⟩ u0).setCell ⟨g,1,none⟩ u1
theorem size_put2 (w:World) (g:Nat) (u0 u1:Value):(wput2 w g u0 u1).heap.size=w.heap.size:=by simp [wput2]
theorem below_put2 {B:Nat} {a w:World} (h:Below B a w) {g:Nat} (hg:B<=g) (u0 u1:Value):Below B a (wput2 w g u0 u1):=(h.setCell (p:=⟨g,0,none⟩) hg u0).setCell (p:=⟨g,1,none⟩) hg u1
theorem HBox.put2 {w:World} {b:Nat} {t:Ht} {A:HAds} (h:HBox w b t A) (t':Ht) (A':HAds):HBox (wput2 w b (.slice A'.g t'.gens.length A'.cg) (.slice A'.a t'.ats.length A'.ca)) b t' A':=by
 refine⟨by rw [size_put2];exact h.lt,?_,?_,?_,?_⟩
 ·unfold wput2
  rw [World.cell?_setCell_other _ _ _ _ (by intro e;injection e with _ e1;cases e1),World.cell?_setCell_same _ _ _ h.c0]
 ·unfold wput2
  exact World.cell?_setCell_same _ _ _ ((World.cell?_setCell_other _ _ _ _ (by intro e;injection e with _ e1;cases e1)).trans h.c1)
 ·unfold wput2;rw [World.frozen?_setCell,World.frozen?_setCell];exact h.f0
 ·unfold wput2;rw [World.frozen?_setCell,World.frozen?_setCell];exact h.f1
theorem New.put2 {k:IntKind} {w:World} {B:Nat} {a:Option Addr} {zs:List Int} (h:New k w B a zs) {g:Nat} (hg:g < B) (u0 u1:Value):New k (wput2 w g u0 u1) B a zs:=by
 have hn:∀ (V:World) (o:Nat) (u:Value),New k V B a zs->New k (V.setCell ⟨g,o,none⟩ u) B a zs:=by
  intro V o u h
  rcases h with h0 | ⟨b,off,h1,hB,h2⟩
  ·exact Or.inl h0
  ·refine New.other (Or.inr ⟨b,off,h1,hB,h2⟩) (p:=⟨g,o,none⟩) ?_ u
   intro q hq;rw [h1] at hq
   injection hq with hq
   subst hq
   show b≠g
   omega
 exact hn _ _ _ (hn _ _ _ h)
theorem HOwn.put2 {w:World} {B:Nat} {t:Ht} {A:HAds} (h:HOwn w B t A) {g:Nat} (hg:g < B) (u0 u1:Value):HOwn (wput2 w g u0 u1) B t A:=⟨h.gens.put2 hg u0 u1,h.ats.put2 hg u0 u1,h.caps,h.sep⟩
structure Off (A:HAds) (t:Ht) (b:Nat):Prop where
 g:t.gens=[]∨∀ p,A.g=some p->p.block≠b
 a:t.ats=[]∨∀ p,A.a=some p->p.block≠b
theorem New.put2o {k:IntKind} {w:World} {B:Nat} {a:Option Addr} {zs:List Int} (h:New k w B a zs) {g:Nat} (hg:zs=[]∨∀ p,a=some p->p.block≠g) (u0 u1:Value):New k (wput2 w g u0 u1) B a zs:=by
 rcases hg with e | e
 ·exact Or.inl e
 ·exact (h.other (p:=⟨g,0,none⟩) e u0).other (p:=⟨g,1,none⟩) e u1
theorem HOwn.put2o {w:World} {B:Nat} {t:Ht} {A:HAds} (h:HOwn w B t A) {g:Nat} (hg:Off A t g) (u0 u1:Value):HOwn (wput2 w g u0 u1) B t A:=⟨h.gens.put2o hg.g u0 u1,h.ats.put2o hg.a u0 u1,h.caps,h.sep⟩
theorem HBox.put2o {w:World} {b:Nat} {t:Ht} {A:HAds} (h:HBox w b t A) {g:Nat} (hg:b≠g) (u0 u1:Value):HBox (wput2 w g u0 u1) b t A:=(h.setOther (p:=⟨g,0,none⟩) (fun e=>hg e.symm) u0).setOther (p:=⟨g,1,none⟩) (fun e=>hg e.symm) u1
theorem PBox.apart {w:World} {b:Nat} {x:Int×Int} (h:PBox w b x) {p:Addr} (hne:p.block≠b) (u:Value):PBox (w.setCell p u) b x:=by
 have hc:∀ i,(w.setCell p u).cell? ⟨b,i,none⟩=w.cell? ⟨b,i,none⟩:=fun i=>World.cell?_setCell_other _ _ _ _ (by rintro rfl;exact hne rfl);exact⟨by rw [World.size_setCell];exact h.lt,(hc 0).trans h.c0,(hc 1).trans h.c1,by rw [World.frozen?_setCell];exact h.f0,by rw [World.frozen?_setCell];exact h.f1⟩
theorem PBox.put2o {w:World} {b:Nat} {x:Int×Int} (h:PBox w b x) {g:Nat} (hg:b≠g) (u0 u1:Value):PBox (wput2 w g u0 u1) b x:=(h.apart (p:=⟨g,0,none⟩) (fun e=>hg e.symm) u0).apart (p:=⟨g,1,none⟩) (fun e=>hg e.symm) u1
theorem PBox.put2 {w:World} {b:Nat} {x:Int×Int} (h:PBox w b x) (y:Int×Int):PBox (wput2 w b (.int .i64 y.1) (.int .i64 y.2)) b y:=by
 refine⟨by rw [size_put2];exact h.lt,?_,?_,?_,?_⟩
 ·unfold wput2
  rw [World.cell?_setCell_other _ _ _ _ (by intro e;injection e with _ e1;cases e1),World.cell?_setCell_same _ _ _ h.c0]
 ·unfold wput2
  exact World.cell?_setCell_same _ _ _ ((World.cell?_setCell_other _ _ _ _ (by intro e;injection e with _ e1;cases e1)).trans h.c1)
 ·unfold wput2;rw [World.frozen?_setCell,World.frozen?_setCell];exact h.f0
 ·unfold wput2;rw [World.frozen?_setCell,World.frozen?_setCell];exact h.f1
structure HRows (E:TypeId) (w:World) (B:Nat) (t:Ht) (A:HAds):Prop where
 gens:w.ownsRow B E 1 (.slice A.g t.gens.length A.cg) t.gens.length (t.gens.map (Value.int .i64))
 ats:w.ownsRow B E 1 (.slice A.a t.ats.length A.ca) t.ats.length (t.ats.map (Value.int .i64))
 sep:∀ p q,A.g=some p->A.a=some q->p.block≠q.block
theorem row_caps {w:World} {B:Nat} {E:TypeId} {A:Option Addr} {n c:Nat} {xs:List Value} (h:w.ownsRow B E 1 (.slice A n c) n xs):(A=none->n=0/\c=0)/\n<=c:=by
 obtain⟨A',c',hv,_,h1,_,h3⟩:=own_cells h
 injection hv with e1 _ e3
 subst e1 e3;exact⟨h1,h3⟩
theorem HRows.own {E:TypeId} {w:World} {B:Nat} {t:Ht} {A:HAds} (h:HRows E w B t A):HOwn w B t A :=
 ⟨New.of_own h.gens,New.of_own h.ats,⟨(row_caps h.gens).1,(row_caps h.ats).1,(row_caps h.gens).2,(row_caps h.ats).2⟩,Or.inr (Or.inr h.sep)⟩
theorem HRows.below {E:TypeId} {w w':World} {B:Nat} {t:Ht} {A:HAds} (h:HRows E w B t A) (hb:Below w.heap.size w w'):HRows E w' B t A:=⟨own_below h.gens hb,own_below h.ats hb,h.sep⟩
theorem HRows.lower {E:TypeId} {w:World} {B B':Nat} {t:Ht} {A:HAds} (h:HRows E w B t A) (hB:B'<=B):HRows E w B' t A:=⟨own_lower h.gens hB,own_lower h.ats hB,h.sep⟩
theorem row_other {w:World} {B:Nat} {E:TypeId} {v:Value} {n:Nat} {xs:List Value} (h:w.ownsRow B E 1 v n xs) {p:Addr} (hp:∀ k,v.ownBlock=some k->k≠p.block) (u:Value):(w.setCell p u).ownsRow B E 1 v n xs:=by
 refine⟨h.1,?_⟩
 rcases h.2 with h2 | ⟨g,c,cur,hv,hg,hh,r⟩
 ·exact Or.inl h2
 ·refine Or.inr ⟨g,c,cur,hv,hg,?_,r⟩
  rw [Below.heap_setCell w p u g (hp g (by rw [hv];rfl))];exact hh
theorem HRows.put2 {E:TypeId} {w:World} {B:Nat} {t:Ht} {A:HAds} (h:HRows E w B t A) {g:Nat} (hg:g < B) (u0 u1:Value):HRows E (wput2 w g u0 u1) B t A:=by
 have h1:=fun k hk=>(World.ownsRow.lt h.gens k hk).1;have h2:=fun k hk=>(World.ownsRow.lt h.ats k hk).1
 have k1:∀ k,Value.ownBlock (.slice A.g t.gens.length A.cg)=some k->k≠g:=fun k hk=>by have:=h1 k hk;omega
 have k2:∀ k,Value.ownBlock (.slice A.a t.ats.length A.ca)=some k->k≠g:=fun k hk=>by have:=h2 k hk;omega
 exact⟨row_other (row_other h.gens (p:=⟨g,0,none⟩) k1 u0) (p:=⟨g,1,none⟩) k1 u1,row_other (row_other h.ats (p:=⟨g,0,none⟩) k2 u0) (p:=⟨g,1,none⟩) k2 u1,h.sep⟩
def HPostR (E:TypeId) (t:Ht) (w:World) (e:Ending) (w':World):Prop:=∃ A,e=.returned (hv t A)/\HRows E w' w.heap.size t A/\Below w.heap.size w w'
theorem HPostR.post {E:TypeId} {t:Ht} {w:World} {e:Ending} {w':World} (h:HPostR E t w e w'):HPost t w e w':=by
 obtain⟨A,h1,h2,h3⟩:=h;exact⟨A,h1,h2.own,h3⟩
theorem HBox.grown {w w':World} {b:Nat} {t:Ht} {A:HAds} {row:Option Nat} (h:HBox w b t A) (hg:w.grownBy w' row) (hne:some b≠row):HBox w' b t A:=by
 have e:=hg.block b h.lt hne;exact⟨Nat.lt_of_lt_of_le h.lt hg.size,(World.cell?_of_block (a:=⟨b,0,none⟩) e).trans h.c0,(World.cell?_of_block (a:=⟨b,1,none⟩) e).trans h.c1,(World.frozen?_of_block (a:=⟨b,0,none⟩) e).trans h.f0,(World.frozen?_of_block (a:=⟨b,1,none⟩) e).trans h.f1⟩
theorem PBox.grown {w w':World} {b:Nat} {x:Int×Int} {row:Option Nat} (h:PBox w b x) (hg:w.grownBy w' row) (hne:some b≠row):PBox w' b x:=by
 have e:=hg.block b h.lt hne;exact⟨Nat.lt_of_lt_of_le h.lt hg.size,(World.cell?_of_block (a:=⟨b,0,none⟩) e).trans h.c0,(World.cell?_of_block (a:=⟨b,1,none⟩) e).trans h.c1,(World.frozen?_of_block (a:=⟨b,0,none⟩) e).trans h.f0,(World.frozen?_of_block (a:=⟨b,1,none⟩) e).trans h.f1⟩
theorem HBox.low {w w':World} {n b:Nat} {t:Ht} {A:HAds} (h:HBox w b t A) (hn:b < n) (hb:Below n w w'):HBox w' b t A :=
 ⟨Nat.lt_of_lt_of_le h.lt hb.size,(hb.cell (p:=⟨b,0,none⟩) hn).trans h.c0,(hb.cell (p:=⟨b,1,none⟩) hn).trans h.c1,(hb.frozen (p:=⟨b,0,none⟩) hn).trans h.f0,(hb.frozen (p:=⟨b,1,none⟩) hn).trans h.f1⟩
theorem sameB_self (t:Ht):Hn.sameB t t=true:=by unfold Hn.sameB;simp
namespace Hn
end Hn
theorem hn_paths (x y:Int):x < 0∨(0<=x/\2147483647 < x)∨(0<=x/\x<=2147483647/\y < -1)∨(0<=x/\-1<=y/\0<=y/\x=2147483647)∨(0<=x/\0<=y/\x < 2147483647)∨(0<=x/\x<=2147483647/\y=-1):=by omega
theorem fine_not {t:Ht} {k:Nat} (hk:k < t.gens.length) (h:Hn.fineB t k=false):Hn.mayB t=false:=by
 cases e:Hn.mayB t
 ·rfl
 ·have:=(Hn.fine_iff t k).2 (((Hn.may_iff t).1 e).fine k hk)
  rw [h] at this
  cases this
theorem fine_no {t:Ht} {k:Nat} (h:¬ (0<=Hn.g t k/\Hn.g t k<=2147483647/\-1<=Hn.a t k/\(Hn.a t k < 0∨Hn.g t k≠2147483647))):Hn.fineB t k=false:=by
 cases e:Hn.fineB t k
 ·rfl
 ·exact absurd ((Hn.fine_iff t k).1 e) h
theorem may_fine {t:Ht} (h1:t.ats.length=t.gens.length) (h2:t.gens.length<=65536) (h3:∀ j,j < t.gens.length->Hn.fineB t j=true):Hn.mayB t=true:=by
 refine (Hn.may_iff t).2 ⟨h1,h2,fun i hi=>(Hn.fine_iff t i).1 (h3 i hi)⟩
def MayJ14 (t:Ht) (w:World) (i:Value) (wr:World):Prop:=∃ k:Nat,k<=t.gens.length/\i=.int .i64 k/\wr=w/\∀ j,j < k->Hn.fineB t j=true
theorem r14May (t:Ht) (A:HAds) (w:World) (h:HHeld w t A) :
  Calls Tryz.prog 58 #[hv t A] w fun e w'=>e=.returned (.bool (Hn.mayB t))/\Below w.heap.size w w':=by
 have HB:=aq (fun o=>(Below.refl w.heap.size w).alloc (Nat.le_refl _) o);have HX:=aq (HBox.new w t A 31);have HG:=aq (fun o=>h.below (HB.out o));clear h;obtain⟨ag,aa,cg,ca⟩:=A;unfold hCells at HX;unfold hv
 dsimp only at HX HG ⊢
 by_cases h1:¬ t.ats.length=t.gens.length
 ·have H:=aq (show Hn.mayB t=false by
   cases e:Hn.mayB t
   ·rfl
   ·exact absurd ((Hn.may_iff t).1 e).len h1)
  have k1:((t.ats.length:Int) != t.gens.length)=true:=by simp;omega
  clear h1;obtain⟨_,p0,p1,_,_⟩:=HX.out
  go_enter Tryz.func58,Tryz.ntmps58
  go_wp2;go_ret;rw [H.out];exact⟨rfl,HB.out _⟩
 replace h1:=Decidable.not_not.1 h1
 have k1:((t.ats.length:Int) != t.gens.length)=false:=by simp;omega
 by_cases h2:¬ t.gens.length<=65536
 ·have H:=aq (show Hn.mayB t=false by
   cases e:Hn.mayB t
   ·rfl
   ·exact absurd ((Hn.may_iff t).1 e).most h2)
  obtain⟨_,p0,p1,_,_⟩:=HX.out;have HH1:=aq h1;clear h1
  go_enter Tryz.func58,Tryz.ntmps58
  go_wp2;go_ret;rw [H.out];exact⟨rfl,HB.out _⟩
 replace h2:=Decidable.not_not.1 h2;have HH1:=aq h1;clear h1;obtain⟨_,p0,p1,_,_⟩:=HX.out
 go_enter Tryz.func58,Tryz.ntmps58
 go_wp2
 go_loopw [3] (MayJ14 t (w.alloc (.cells #[.slice ag t.gens.length cg,.slice aa t.ats.length ca] 31))) (fun i _=>t.gens.length-(intOf i).toNat)
 case atStart=>exact⟨0,Nat.zero_le _,rfl,rfl,fun j hj=>by omega⟩
 case round =>
  obtain⟨k,hk,rfl,rfl,ht⟩:=hrel;have HT:=aq ht;clear ht
  by_cases hlt:k < t.gens.length
  ·obtain⟨b1,o1,hA1,_,c1⟩:=(HG.out (.cells #[.slice ag t.gens.length cg,.slice aa t.ats.length ca] 31)).gens.cell hlt
   obtain⟨b2,o2,hA2,_,c2⟩:=(HG.out (.cells #[.slice ag t.gens.length cg,.slice aa t.ats.length ca] 31)).ats.cell (show k < t.ats.length by rw [HH1.out];exact hlt)
   have hl2:(k:Int) < (t.ats.length:Int):=by rw [HH1.out];omega
   dsimp only at hA1 hA2
   subst hA1 hA2;have HN:=aq (fun h=>fine_not (t:=t) hlt (fine_no h))
   have HY:=aq (show (0<=Hn.g t k/\Hn.g t k<=2147483647/\-1<=Hn.a t k/\(Hn.a t k < 0∨Hn.g t k≠2147483647))->∀ j,j < k+1->Hn.fineB t j=true from fun h j hj=>by
    rcases Nat.lt_or_ge j k with h1 | h1
    ·exact HT.out j h1
    ·obtain rfl:j=k:=by omega
     exact (Hn.fine_iff t j).2 h)
   obtain⟨x,hx⟩:∃ x,Hn.g t k=x:=⟨_,rfl⟩;obtain⟨y,hy⟩:∃ y,Hn.a t k=y:=⟨_,rfl⟩;rw [show t.gens.getD k 0=x from hx] at c1;rw [show t.ats.getD k 0=y from hy] at c2;rw [hx,hy] at HN HY;clear hx hy HT HG HX
   rcases hn_paths x y with h | ⟨h,h'⟩ | ⟨h,h',h''⟩ | ⟨h,h',h'',h3⟩ | ⟨h,h',h''⟩ | ⟨h,h',h''⟩
   ·have HE:=aq (HN.out (by omega))
    clear HN HY;go_wp2;go_ret;rw [HE.out];exact⟨rfl,HB.out _⟩
   ·have HE:=aq (HN.out (by omega))
    clear HN HY;go_wp2;go_ret;rw [HE.out];exact⟨rfl,HB.out _⟩
   ·have HE:=aq (HN.out (by omega))
    clear HN HY;go_wp2;go_ret;rw [HE.out];exact⟨rfl,HB.out _⟩
   ·have HE:=aq (HN.out (by omega))
    have k2:(x==2147483647)=true:=by simp [h3]
    have h7:x<=2147483647:=by omega
    clear HN HY h3;go_wp2;go_ret;rw [HE.out];exact⟨rfl,HB.out _⟩
   ·have HE:=aq (HY.out (by omega))
    have k2:(x==2147483647)=false:=by simp;omega
    clear HN HY;go_wp2
    go_roundw
    case rel=>exact⟨k+1,by omega,by go_num,rfl,HE.out⟩
    case measure=>simp [intOf];omega
   ·have HE:=aq (HY.out (by omega))
    have HE3:=aq h''
    have h9:y < 0:=by omega
    have h8:¬ y < -1:=by omega
    clear HN HY h'';go_wp2
    go_roundw
    case rel=>exact⟨k+1,by omega,by go_num,rfl,HE.out⟩
    case measure=>simp [intOf];omega
  ·have HE:=aq (may_fine HH1.out h2 (fun j hj=>HT.out j (by omega)))
   clear HT;go_wp2;go_ret;rw [HE.out];exact⟨rfl,HB.out _⟩
theorem r14Same (t o:Ht) (A B:HAds) (w:World) (h:HHeld w t A) (h':HHeld w o B) (hs:t.Short) (hs':o.Short) :
  Calls Tryz.prog 63 #[hv t A,hv o B] w fun e w'=>e=.returned (.bool (Hn.sameB t o))/\Below w.heap.size w w':=by
 have HB:=aq (fun x y=>((Below.refl w.heap.size w).alloc (Nat.le_refl _) x).alloc (by simp) y);have C1:=aq (fun V (hb:Below w.heap.size w V)=>rSameInts A.g B.g A.cg B.cg t.gens o.gens V (h.below hb).gens (h'.below hb).gens (by have:=hs.gens;omega) (by have:=hs'.gens;omega));have C2:=aq (fun V (hb:Below w.heap.size w V)=>rSameInts A.a B.a A.ca B.ca t.ats o.ats V (h.below hb).ats (h'.below hb).ats (by have:=hs.ats;omega) (by have:=hs'.ats;omega));have HX:=aq (fun x=>(HBox.new w t A 31).below ((Below.refl _ _).alloc (Nat.le_refl _) x));have HY:=aq (fun x=>HBox.new (w.alloc x) o B 31);have HS:=aq (show Hn.sameB t o=((t.gens==o.gens)&&(t.ats==o.ats)) from rfl);clear h h' hs hs';unfold hCells at HX HY;unfold hv
 go_enter Tryz.func63,Tryz.ntmps63
 go_wp2_with fail
 refine (C1.out _ (HB.out _ _)).mono ?_;rintro e w1 ⟨rfl,hb⟩;have B1:=aq ((HB.out _ _).trans (hb.mono (HB.out _ _).size));obtain⟨_,p0,p1,_,_⟩:=(HX.out _).below hb;obtain⟨_,p2,p3,_,_⟩:=(HY.out _).below hb
 simp only [World.size_alloc] at p2 p3
 clear hb HX HY HB C1
 cases e1:(t.gens==o.gens)
 ·rw [e1] at HS
  go_wp2;go_ret;rw [HS.out];exact⟨rfl,B1.out⟩
 ·rw [e1] at HS
  go_wp2_with fail
  refine (C2.out _ B1.out).mono ?_;rintro e w2 ⟨rfl,hb⟩;have B2:=aq (B1.out.trans (hb.mono B1.out.size));clear hb C2 B1 p0 p1 p2 p3;go_wp2;go_ret;rw [HS.out];exact⟨by simp,B2.out⟩
theorem live_take (zs:List Int) (k:Nat) (h:k < zs.length):Hn.live (zs.take (k+1))=Hn.live (zs.take k)+(if 0<=zs.getD k 0 then 1 else 0):=by
 rw [List.take_succ_eq_append_getElem h];unfold Hn.live;rw [List.filter_append,List.length_append]
 simp only [List.getD,List.getElem?_eq_getElem h,Option.getD_some]
 by_cases hz:0<=zs[k]<;>simp [hz]
theorem live_le (zs:List Int):Hn.live zs<=zs.length:=List.length_filter_le _ _
def LiveJ (zs:List Int) (w:World) (n i:Value) (wr:World):Prop:=∃ k:Nat,k<=zs.length/\i=.int .i64 k/\n=.int .i64 (Hn.live (zs.take k):Nat)/\wr=w
theorem r14Live (t:Ht) (A:HAds) (w:World) (h:HHeld w t A) :
  Calls Tryz.prog 93 #[hv t A] w fun e w'=>e=.returned (.tuple #[.int .i64 (Hn.liveV t),.int .i64 (Hn.chkE t)])/\Below w.heap.size w w':=by
 obtain⟨ag,aa,cg,ca⟩:=A;have HB:=aq (fun o=>(Below.refl w.heap.size w).alloc (Nat.le_refl _) o);have C:=aq (fun o=>r14May t ⟨ag,aa,cg,ca⟩ (w.alloc o) (h.below (HB.out o)));have HX:=aq (HBox.new w t ⟨ag,aa,cg,ca⟩ 31);have HA:=aq (fun V (hb:Below w.heap.size w V)=>(h.below hb).ats);clear h;unfold hCells at HX;unfold hv at C ⊢
 dsimp only at HX HA C ⊢
 go_enter Tryz.func93,Tryz.ntmps93
 go_wp2_with fail
 refine (C.out _).mono ?_;rintro e w1 ⟨rfl,hb⟩;have B1:=aq ((HB.out _).trans (hb.mono (HB.out _).size));obtain⟨_,p0,p1,_,_⟩:=HX.out.below hb;clear hb C HB HX
 cases hm:Hn.mayB t
 ·have H:=aq (show Hn.chkE t=8 by unfold Hn.chkE;rw [hm];rfl)
  have H2:=aq (show Hn.liveV t=0 by unfold Hn.liveV;rw [H.out];rfl);go_wp2;go_ret2;rw [H.out,H2.out];exact⟨rfl,B1.out⟩
 ·have H:=aq (show Hn.chkE t=0 by unfold Hn.chkE;rw [hm];rfl)
  have H2:=aq (show Hn.liveV t=((Hn.live t.ats:Nat):Int) by unfold Hn.liveV;rw [H.out];rfl);have hl:t.ats.length<=65536:=(Ht.short_of ((Hn.may_iff t).1 hm)).ats;go_wp2
  go_loopw [4,5] (LiveJ t.ats w1) (fun _ i _=>t.ats.length-(intOf i).toNat)
  case atStart=>exact⟨0,Nat.zero_le _,rfl,rfl,rfl⟩
  case round =>
   obtain⟨k,hk,rfl,rfl,rfl⟩:=hrel;have hlv:=live_le (t.ats.take k);rw [List.length_take] at hlv
   by_cases hlt:k < t.ats.length
   ·obtain⟨b1,o1,hA,_,c1⟩:=(HA.out _ B1.out).cell hlt
    subst hA;have HT:=aq (live_take t.ats k hlt);obtain⟨x,hx⟩:∃ x,t.ats.getD k 0=x:=⟨_,rfl⟩;rw [hx] at c1 HT;obtain⟨m,hm⟩:∃ m,Hn.live (t.ats.take k)=m:=⟨_,rfl⟩;rw [hm] at hlv HT ⊢;clear hx hm
    by_cases h0:0<=x
    ·rw [if_pos h0] at HT
     go_wp2
     go_roundw
     case rel=>exact⟨k+1,by omega,by go_num,by rw [HT.out];go_num,rfl⟩
     case measure=>simp [intOf];omega
    ·rw [if_neg h0] at HT
     go_wp2
     go_roundw
     case rel=>exact⟨k+1,by omega,by go_num,by rw [HT.out];go_num,rfl⟩
     case measure=>simp [intOf];omega
   ·have HT:=aq (show t.ats.take k=t.ats from List.take_of_length_le (by omega))
    rw [HT.out];clear HT;go_wp2;go_ret2;rw [H.out,H2.out];exact⟨rfl,B1.out⟩
end Go.Proofs.YtpeckljoannolaaGreatDoor

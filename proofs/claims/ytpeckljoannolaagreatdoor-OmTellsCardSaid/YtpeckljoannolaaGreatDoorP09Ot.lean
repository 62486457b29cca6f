/- Plain facts of packed arrays. -/
import Derived.Test.YtpeckljoannolaaGreatDoorP08Ot
import Derived.Test.YtpeckljoannolaaGreatDoorS5bOt
import Derived.Test.YtpeckljoannolaaGreatDoorP06Ot
import Derived.Test.YtpeckljoannolaaGreatDoorM08Ot
import Derived.Test.YtpeckljoannolaaGreatDoorTkOt
set_option linter.unusedVariables false
set_option linter.unusedSimpArgs false
namespace Go.Proofs.YtpeckljoannolaaGreatDoor
open Go.RowKit
namespace Gp
theorem cnt_nn (s:Sl) (a b:Int):0<=cnt s a b:=by unfold cnt;omega
theorem cnt_le (s:Sl) {a b:Int} (h0:0<=a) (h:a<=b):cnt s a b<=b-a:=by
 unfold cnt
 have:=Oc.places_length_le s.words a.toNat b.toNat
 omega
theorem cnt_add (s:Sl) {a b d:Int} (h0:0<=a) (h1:a<=b) (h2:b<=d):cnt s a d=cnt s a b+cnt s b d:=by
 unfold cnt;rw [Oc.places_split s.words a.toNat b.toNat d.toNat (by omega) (by omega),List.length_append]
 omega
def Off (s t:Sl) (a b:Int):Prop:=∀ j:Nat,(j:Int) < a∨b<=j->Oc.isB t.words j=Oc.isB s.words j
theorem Off.cnt {s t:Sl} {a b:Int} (h:Off s t a b) {x y:Int} (hxy:y<=a∨b<=x) (h0:0<=x):cnt t x y=cnt s x y:=by
 unfold Gp.cnt;rw [places_congr (ws:=t.words) (ws':=s.words) (fun i h1 h2=>h i (by omega))]
theorem Off.over {s t:Sl} {a b:Int} (h:Off s t a b) {x y:Int} (h0:0<=x) (h1:x<=a) (h2:a<=b) (h3:b<=y):Gp.cnt t x y=Gp.cnt s x y-Gp.cnt s a b+Gp.cnt t a b:=by
 rw [cnt_add t h0 h1 (by omega),cnt_add t (a:=a) (b:=b) (by omega) h2 h3,cnt_add s h0 h1 (by omega),cnt_add s (a:=a) (b:=b) (by omega) h2 h3,h.cnt (Or.inl (Int.le_refl a)) h0,h.cnt (Or.inr (Int.le_refl b)) (by omega)]
 omega
theorem many_mono {c:Cf} {size h m n:Int} (hd:0<=c.den) (hh:0<=c.high size) (hmn:m<=n) (hn:c.manyB size h n=true):c.manyB size h m=true:=by
 unfold Cf.manyB at hn ⊢
 split at hn
 ·rename_i h0
  rw [if_pos h0];rw [decide_eq_true_eq] at hn ⊢;have:=Int.mul_le_mul_of_nonneg_right hmn hd
  omega
 ·rename_i h0
  rw [if_neg h0];rw [decide_eq_true_eq] at hn ⊢;have h1:=Int.mul_le_mul_of_nonneg_right hmn hh;have h2:=Int.mul_le_mul_of_nonneg_right h1 hd
  omega
theorem few_mono {c:Cf} {size h m n:Int} (hd:0<=c.den) (hh:0<=c.high size) (hmn:m<=n) (hm:c.fewB size h m=true):c.fewB size h n=true:=by
 unfold Cf.fewB at hm ⊢;rw [Bool.or_eq_true,decide_eq_true_eq] at hm ⊢
 rcases hm with hm | hm
 ·exact Or.inl hm
 ·right
  have h1:=Int.mul_le_mul_of_nonneg_right (show m+1<=n+1 by omega) hh;have h2:=Int.mul_le_mul_of_nonneg_right h1 hd
  omega
structure Cap (c:Cf) (n:Nat) (H:Nat):Prop where
 may:c.May
 is:c.Is n
 fit:Wn.Fit c.seg n H
 high:c.high n=H
theorem fits_cap {c:Cf} {z:Int} (hm:c.May) (hi:c.Is z):Sl.fitsB c.seg z=true:=by
 have SB:=hm.size_bd hi;have hs:=hm.sizes;obtain⟨x,hx,_⟩:=pow_of hs.segp;obtain⟨y,hy,_⟩:=pow_of hi.pow;have hxy:x<=y:=two_le (by rw [<-hx,<-hy];exact SB.1)
 have e:z=c.seg*2^(y-x):=by rw [hy,hx,<-Int.pow_add,show x+(y-x)=y from by omega]
 have h4:=hs.seg1;unfold Sl.fitsB
 simp only [Bool.and_eq_true,decide_eq_true_eq]
 refine⟨⟨⟨⟨⟨⟨hs.seg1,hs.seg2⟩,hs.segp⟩,by omega⟩,by omega⟩,?_⟩,?_⟩
 ·rw [e];exact Int.mul_emod_right _ _
 ·rw [e,Int.mul_ediv_cancel_left _ (by omega)];exact powB_two _
theorem cap_of {c:Cf} {n:Nat} (hm:c.May) (hi:c.Is n):∃ H,Cap c n H:=by
 obtain⟨H,f⟩:=Wn.fit_of (fits_cap hm hi);exact⟨H,hm,hi,f,f.hH⟩
namespace Cap
variable {c:Cf} {n:Nat} {H:Nat}
theorem den (K:Cap c n H):0<=c.den:=by have:=K.may.sizes.den1;omega
theorem nn (K:Cap c n H):0<=c.high n:=by rw [K.high];omega
theorem tall (K:Cap c n H):(c.high n).toNat=H:=by rw [K.high];simp
theorem wpos (K:Cap c n H) (h:Int):4<=c.wide h:=Wn.wd_pos K.fit.g1 h
theorem top (K:Cap c n H):c.wide H=n:=K.fit.top
theorem wide_up (c:Cf) {h g:Nat} (hg:h<=g):c.wide g=c.wide h*2^(g-h):=by
 unfold Cf.wide;rw [Int.toNat_natCast,Int.toNat_natCast,Int.mul_assoc,<-Int.pow_add,show h+(g-h)=g from by omega]
theorem wide_le (K:Cap c n H) {h:Nat} (hh:h<=H):c.wide h<=n:=K.fit.wd_le hh
theorem ok (K:Cap c n H) {h:Nat} (hh:h<=H) {m:Int} (h0:0<=m) (h1:m<=c.wide h):c.Ok n h m:=⟨K.may,K.is,by omega,by rw [K.high];omega,h0,h1⟩
end Cap
def Right (c:Cf) (s:Sl) (h k:Nat):Prop:=rightB c s h k=true
def Dense (c:Cf) (s:Sl) (H:Nat):Prop:=∀ h k:Nat,h<=H->(k:Int)*c.wide h+c.wide h<=s.keys.length->Right c s h k
theorem dense_iff {c:Cf} {s:Sl} {H:Nat} (K:Cap c s.keys.length H):denseB c s (tall c s+1)=true↔Dense c s H:=by
 unfold denseB rowB tall;rw [K.tall]
 simp only [List.all_eq_true,List.mem_range]
 have e:∀ h k:Nat,h<=H->(k < rowN c s h↔(k:Int)*c.wide h+c.wide h<=s.keys.length):=fun h k hh=>by
  have hw:=K.wpos h;unfold rowN;have h1:0<=(s.keys.length:Int)/c.wide h:=Int.ediv_nonneg (by omega) (by omega);have h2:=Int.le_ediv_iff_mul_le (a:=(k:Int)+1) (b:=(s.keys.length:Int)) (c:=c.wide h) (by omega);rw [Int.add_mul,Int.one_mul] at h2
  omega
 constructor
 ·intro h9 h k hh hk
  exact h9 h (by omega) k ((e h k hh).2 hk)
 ·intro h9 h hh k hk
  exact h9 h k (by omega) ((e h k (by omega)).1 hk)
end Gp
namespace Gp
structure Own (c:Cf) (s:Sl) (H:Nat):Prop where
 cap:Cap c s.keys.length H
 may:s.May
 seg:s.seg=c.seg
 most:many s<=c.most
 dense:Dense c s H
theorem own_of {c:Cf} {s:Sl} (h:chkE c s=0):∃ H,Own c s H:=by
 unfold chkE at h
 split at h
 ·rename_i hm
  split at h
  ·rename_i ho
   unfold ownB at ho
   simp only [Bool.and_eq_true,decide_eq_true_eq,beq_iff_eq] at ho
   obtain⟨⟨⟨⟨h1,h2⟩,h3⟩,h4⟩,h5⟩:=ho;obtain⟨H,K⟩:=cap_of ((Cf.may_iff c).1 hm) ((Cf.is_iff c _).1 h3);exact⟨H,K,may_iff.1 h1,h2,h4,(dense_iff K).1 h5⟩
  ·omega
 ·omega
end Gp
namespace Gp
theorem new_fine {c:Cf}:Fine (newS c):=by
 unfold newS
 split
 ·rename_i hm
  have M:=(Cf.may_iff c).1 hm;have hs:=M.sizes;have hi:c.Is c.least:=⟨hs.leastp,Int.le_refl _,Cf.takes_ge c hs _⟩;have hf:=fits_cap M hi
  have e:Sl.newS c.seg c.least=Sl.empty c.seg c.least:=by unfold Sl.newS;rw [if_pos hf]
  rw [<-e];exact⟨ok_new ⟨by have:=hs.seg1;omega,by have:=hs.seg2;omega⟩,short_new⟩
 ·exact fine_none
end Gp
end Go.Proofs.YtpeckljoannolaaGreatDoor

/- What is laid, cleared, moved, or made new fits again. -/
import Derived.Test.YtpeckljoannolaaGreatDoorM11Oc
import Derived.Test.YtpeckljoannolaaGreatDoorM08Oc
import Derived.Test.YtpeckljoannolaaGreatDoorR04Oc
import Derived.Test.YtpeckljoannolaaGreatDoorTkOc
set_option linter.unusedVariables false
set_option linter.unusedSimpArgs false
namespace Go.Proofs.YtpeckljoannolaaGreatDoor
open Go.RowKit
theorem getD_zeros (n i:Nat):(List.replicate n (0:Int)).getD i 0=0:=by
 simp only [List.getD,List.getElem?_replicate]
 split<;>rfl
theorem getD_zerosN (n i:Nat):(List.replicate n (0:Nat)).getD i 0=0:=by
 simp only [List.getD,List.getElem?_replicate]
 split<;>rfl
theorem all64_zeros (n:Nat):All64 (List.replicate n 0):=fun i=>by rw [getD_zeros];exact⟨by omega,by omega⟩
theorem wide_zeros (n:Nat):Wide (List.replicate n 0):=fun i=>by rw [getD_zerosN];omega
theorem ok_none:Sl.none.Ok:=⟨⟨by show (-9223372036854775808:Int)<=0;omega,by show (0:Int)<=9223372036854775807;omega⟩,fun i=>by show ([]:List Nat).getD i 0 < _;simp,fun i=>by show In64 (([]:List Int).getD i 0);simp;exact⟨by omega,by omega⟩,fun i=>by show In64 (([]:List Int).getD i 0);simp;exact⟨by omega,by omega⟩,fun i=>by show In64 (([]:List Int).getD i 0);simp;exact⟨by omega,by omega⟩,by show (0:Nat) < _;omega⟩
theorem ok_new {seg many:Int} (hs:In64 seg):(Sl.newS seg many).Ok:=by
 unfold Sl.newS
 split
 ·exact⟨hs,wide_zeros _,all64_zeros _,all64_zeros _,all64_zeros _,by show (0:Nat) < _;omega⟩
 ·exact ok_none
theorem short_new {seg many:Int}:(Sl.newS seg many).Short:=by
 unfold Sl.newS
 split
 ·rename_i hf
  obtain⟨f1,f2,_,f4,f5,_,_⟩:=fits_yes hf
  have hq:many/seg<=65536:=by have:=Int.ediv_le_self (a:=many) seg (by omega);omega
  refine⟨?_,?_,?_,?_⟩
  ·show (List.replicate _ _).length<=_;rw [List.length_replicate];omega
  ·show (List.replicate _ _).length<=_;rw [List.length_replicate];omega
  ·show (List.replicate _ _).length<=_;rw [List.length_replicate];omega
  ·show (List.replicate _ _).length<=_;rw [List.length_replicate];omega
 ·exact short_none
theorem lay_parts {s:Sl} {i:Int} (h:s.layE i=0):s.mayB=true/\0<=i/\i < s.keys.length:=by
 unfold Sl.layE at h
 cases hm:s.mayB
 ·rw [hm] at h;simp at h
 ·cases hs:s.slotB i
  ·rw [hm,hs] at h;simp at h
  ·exact⟨rfl,(slot_iff.1 hs).1,(slot_iff.1 hs).2⟩
theorem move_parts {s:Sl} {i j:Int} (h:s.moveE i j=0):s.atE i=0/\s.slotB j=true/\(j=i∨Oc.isB s.words j.toNat=false):=by
 unfold Sl.moveE at h
 by_cases h1:s.atE i=0
 ·rw [if_pos h1] at h
  cases h2:s.slotB j
  ·rw [h2] at h;simp at h
  ·rw [h2,if_pos rfl] at h
   refine⟨h1,rfl,?_⟩
   by_cases h3:j=i
   ·exact Or.inl h3
   ·cases h4:Oc.isB s.words j.toNat
    ·exact Or.inr rfl
    ·rw [if_pos ⟨h3,h4⟩] at h;simp at h
 ·rw [if_neg h1] at h;exact absurd h h1
theorem chk_yes {s:Sl} (h:s.May):s.chk=0:=by unfold Sl.chk;rw [may_iff.2 h];rfl
theorem atE_may {s:Sl} (h:s.May) (i:Int):s.atE i=if 0<=i/\i < (s.keys.length:Int) then (if Oc.isB s.words i.toNat then 0 else 6) else 2:=by
 unfold Sl.atE;rw [may_iff.2 h,if_pos rfl]
 by_cases hs:s.slotB i=true
 ·rw [if_pos hs,if_pos (slot_iff.1 hs)]
 ·rw [if_neg hs,if_neg (fun e=>hs (slot_iff.2 e))]
structure There (s:Sl) (a b c:Int) (p:Int×Int):Prop where
 laid:(s.layS a p).atE a=0/\(s.layS a p).atV a=p
 chk1:(s.layS a p).chk=0
 led1:(s.layS a p).laid=(s.laid+1) % 18446744073709551616
 gone:((s.layS a p).clearS a).atE a=6
 chk2:((s.layS a p).clearS a).chk=0
 led2:((s.layS a p).clearS a).laid=(s.layS a p).laid
 stay1:c≠a->(s.layS a p).atE c=s.atE c/\(s.layS a p).atV c=s.atV c
 stay2:c≠a->((s.layS a p).clearS a).atE c=s.atE c/\((s.layS a p).clearS a).atV c=s.atV c
 moved:(s.layS a p).moveE a b=0->((s.layS a p).moveS a b).atE b=0/\((s.layS a p).moveS a b).atV b=p/\((s.layS a p).moveS a b).chk=0/\((s.layS a p).moveS a b).laid=((s.layS a p).laid+1) % 18446744073709551616/\(a≠b->((s.layS a p).moveS a b).atE a=6)/\(c≠a->c≠b->((s.layS a p).moveS a b).atE c=s.atE c/\((s.layS a p).moveS a b).atV c=s.atV c)
theorem at_same {s t:Sl} (hs:s.May) (ht:t.May) (hl:t.keys.length=s.keys.length) (c:Int) (h1:0<=c->Oc.isB t.words c.toNat=Oc.isB s.words c.toNat) (h2:0<=c->t.pairAt c.toNat=s.pairAt c.toNat):t.atE c=s.atE c/\t.atV c=s.atV c:=by
 have e:t.atE c=s.atE c:=by
  rw [atE_may ht,atE_may hs,hl]
  by_cases h:0<=c/\c < (s.keys.length:Int)
  ·rw [if_pos h,if_pos h,h1 h.1]
  ·rw [if_neg h,if_neg h]
 refine⟨e,?_⟩;unfold Sl.atV;rw [e]
 by_cases h:s.atE c=0
 ·rw [if_pos h,if_pos h]
  exact h2 (at_parts h).2.1
 ·rw [if_neg h,if_neg h]
theorem there {s:Sl} {a:Int} (b c:Int) (p:Int×Int) (hE:s.layE a=0):There s a b c p:=by
 obtain⟨hm,ha0,ha1⟩:=lay_parts hE;obtain⟨k,rfl⟩:∃ k:Nat,a=k:=⟨a.toNat,by omega⟩
 have hk:k < s.keys.length:=by omega
 have hM:=may_iff.1 hm
 have eL:s.layS k p=s.withP k p:=by unfold Sl.layS;rw [if_pos hE,Int.toNat_natCast]
 obtain⟨x,hx⟩:∃ x,x=s.withP k p:=⟨_,rfl⟩
 have xM:x.May:=by rw [hx];exact hM.withP p hk
 have xl:x.keys.length=s.keys.length:=by rw [hx];exact withP_keys s k p
 have xb:∀ j,Oc.isB x.words j=if j=k then true else Oc.isB s.words j:=fun j=>by rw [hx];exact withP_isB hM p hk j
 have xp:∀ j,j≠k->x.pairAt j=s.pairAt j:=fun j hj=>by rw [hx];exact withP_pair p hj
 have xs:x.pairAt k=p:=by rw [hx];exact withP_self hM p hk
 have xled:x.laid=(s.laid+1) % 18446744073709551616:=by rw [hx];rfl
 have xk:k < x.keys.length:=by omega
 have xe:x.atE k=0:=by rw [atE_may xM,if_pos ⟨by omega,by omega⟩,Int.toNat_natCast,xb,if_pos rfl];rfl
 have xv:x.atV k=p:=by unfold Sl.atV;rw [if_pos xe,Int.toNat_natCast,xs]
 have eC:x.clearS k=x.emptied k:=by unfold Sl.clearS;rw [if_pos xe,Int.toNat_natCast]
 have yM:=xM.emptied xk
 have yl:(x.emptied k).keys.length=s.keys.length:=by rw [emptied_keys,xl]
 rw [<-hx] at eL;refine⟨?_,?_,?_,?_,?_,?_,?_,?_,?_⟩
 ·rw [eL];exact⟨xe,xv⟩
 ·rw [eL];exact chk_yes xM
 ·rw [eL];exact xled
 ·rw [eL,eC,atE_may yM,if_pos ⟨by omega,by omega⟩,Int.toNat_natCast,emptied_off xM xk];rfl
 ·rw [eL,eC];exact chk_yes yM
 ·rw [eL,eC];rfl
 ·intro hc
  rw [eL];exact at_same hM xM xl c (fun h0=>by rw [xb,if_neg (by omega)]) (fun h0=>xp _ (by omega))
 ·intro hc
  rw [eL,eC];exact at_same hM yM yl c (fun h0=>by rw [emptied_isB xM xk,if_neg (by omega),xb,if_neg (by omega)]) (fun h0=>by rw [emptied_pair (by omega),xp _ (by omega)])
 ·intro hmv
  rw [eL] at hmv ⊢;obtain⟨_,hb,hor⟩:=move_parts hmv;obtain⟨hb0,hb1⟩:=slot_iff.1 hb;obtain⟨m,rfl⟩:∃ m:Nat,b=m:=⟨b.toNat,by omega⟩
  have eM:x.moveS k m=(x.emptied k).withP m p:=by unfold Sl.moveS;rw [if_pos hmv,Int.toNat_natCast,Int.toNat_natCast,xs]
  have hmk:m < (x.emptied k).keys.length:=by rw [emptied_keys];omega
  have zM:=yM.withP p hmk
  have zl:((x.emptied k).withP m p).keys.length=s.keys.length:=by rw [withP_keys,yl]
  have zb:=withP_isB yM p hmk
  have ze:((x.emptied k).withP m p).atE m=0:=by rw [atE_may zM,if_pos ⟨by omega,by omega⟩,Int.toNat_natCast,zb,if_pos rfl];rfl
  rw [eM];refine⟨ze,?_,chk_yes zM,rfl,?_,?_⟩
  ·unfold Sl.atV;rw [if_pos ze,Int.toNat_natCast,withP_self yM p hmk]
  ·intro hab
   have zk:Oc.isB ((x.emptied k).withP m p).words k=false:=by rw [zb,if_neg (show ¬ k=m by omega),emptied_off xM xk]
   rw [atE_may zM,if_pos ⟨by omega,by omega⟩,Int.toNat_natCast,zk];rfl
  ·intro hca hcb
   exact at_same hM zM zl c (fun h0=>by rw [zb,if_neg (by omega),emptied_isB xM xk,if_neg (by omega),xb,if_neg (by omega)]) (fun h0=>by rw [withP_pair p (by omega),emptied_pair (by omega),xp _ (by omega)])
end Go.Proofs.YtpeckljoannolaaGreatDoor

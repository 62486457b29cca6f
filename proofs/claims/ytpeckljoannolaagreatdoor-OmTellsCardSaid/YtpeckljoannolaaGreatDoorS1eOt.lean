/- Regions in which what is read is written over, and package handle's check. -/
import Derived.Test.YtpeckljoannolaaGreatDoorS14Ot
import Derived.Deep.CutRange
import Derived.Deep.RegionHeld
import Derived.Test.YtpeckljoannolaaGreatDoorM04Ot
import Derived.Test.YtpeckljoannolaaGreatDoorTkOt
set_option linter.unusedVariables false
set_option linter.unusedSimpArgs false
namespace Go.Proofs.YtpeckljoannolaaGreatDoor
open Go.RowKit
theorem HBox.same {w w':World} {b:Nat} {t:Ht} {A:HAds} (h:HBox w b t A) (e:w'.heap[b]?=w.heap[b]?) (hs:w.heap.size<=w'.heap.size):HBox w' b t A :=
 ⟨Nat.lt_of_lt_of_le h.lt hs,(World.cell?_of_block (a:=⟨b,0,none⟩) e).trans h.c0,(World.cell?_of_block (a:=⟨b,1,none⟩) e).trans h.c1,(World.frozen?_of_block (a:=⟨b,0,none⟩) e).trans h.f0,(World.frozen?_of_block (a:=⟨b,1,none⟩) e).trans h.f1⟩
theorem PBox.same {w w':World} {b:Nat} {x:Int×Int} (h:PBox w b x) (e:w'.heap[b]?=w.heap[b]?) (hs:w.heap.size<=w'.heap.size):PBox w' b x :=
 ⟨Nat.lt_of_lt_of_le h.lt hs,(World.cell?_of_block (a:=⟨b,0,none⟩) e).trans h.c0,(World.cell?_of_block (a:=⟨b,1,none⟩) e).trans h.c1,(World.frozen?_of_block (a:=⟨b,0,none⟩) e).trans h.f0,(World.frozen?_of_block (a:=⟨b,1,none⟩) e).trans h.f1⟩
end Go.Proofs.YtpeckljoannolaaGreatDoor
namespace Go
section
variable {P:Program} {ops:Array Oper} {Q:Exit->Act->World->Prop} {md:Region.Mode} {S:World->Prop}
def wpAnyUntil (P:Program) (md:Region.Mode) (ops:Array Oper) (Q:Exit->Act->World->Prop) (S:World->Prop) (q:Nat):Nat->Array Bool->Act->World->Prop
 | 0,listed,a,w=>Region.ready md ops listed=[]/\Q .normal a w
 | fuel+1,listed,a,w =>
  (Region.ready md ops listed=[]->Q .normal a w) /\
  ∀ i∈Region.ready md ops listed,wpOp P ops Q i (fun a' w'=>((listed.setIfInBounds i true).getD q true=true∨S w')/\wpAnyUntil P md ops Q S q fuel (listed.setIfInBounds i true) a' w') a w
def AllReadyUntil (P:Program) (md:Region.Mode) (ops:Array Oper) (Q:Exit->Act->World->Prop) (S:World->Prop) (q fuel:Nat) (listed:Array Bool) (a:Act) (w:World) (rs:List Nat):Prop :=
 ∀ i∈rs,wpOp P ops Q i (fun a' w'=>((listed.setIfInBounds i true).getD q true=true∨S w')/\wpAnyUntil P md ops Q S q fuel (listed.setIfInBounds i true) a' w') a w
theorem AllReadyUntil.nil {q fuel:Nat} {listed:Array Bool} {a:Act} {w:World}:AllReadyUntil P md ops Q S q fuel listed a w []:=fun _ h=>by cases h
theorem AllReadyUntil.cons {q fuel:Nat} {listed:Array Bool} {a:Act} {w:World} {i:Nat} {o:Oper} {rs:List Nat} (ho:ops[i]?=some o)
  (h:∀ K':Act->World->Prop,Shut (∀ a w,((listed.setIfInBounds i true).getD q true=true∨S w)->wpAnyUntil P md ops Q S q fuel (listed.setIfInBounds i true) a w->K' a w)->if Region.wanted o (yielded ops a.tmps)=true then Oper.wp P o a w K' Q else K' (a.put o.dst undef) w)
  (hs:AllReadyUntil P md ops Q S q fuel listed a w rs):AllReadyUntil P md ops Q S q fuel listed a w (i::rs):=fun j hj=>by
 rcases List.mem_cons.1 hj with rfl | hj
 ·exact wpOp_step ho (fun K' hK=>h K' (fun a w hS hW=>hK a w ⟨hS,hW⟩))
 ·exact hs j hj
end
end Go
namespace Go.Proofs.YtpeckljoannolaaGreatDoor
open Go.RowKit
theorem run_append_lit {P:Program} (w:World) {T ty E:TypeId} {k:IntKind} {bytes:Nat} (hE:Elem P T E (.int k 0) 1 bytes) (g:Nat) (hlit:w.heap[g]?=some (.cells #[] E (0,0))) (a:Option Addr) (zs:List Int) (c:Nat) (hl:Lst k w a zs) (hnil:a=none->zs.length=0/\c=0) (h63:zs.length<=maxLen) (hby:zs.length*bytes<=140737488355328) :
  ∃ A cap w',(Builtin.append_ #[T,T] ty #[.slice (some ⟨g,0,none⟩) 0 0,.slice a zs.length c]).run P w=.ok (.slice A zs.length cap) w'/\w'.ownsRow g E 1 (.slice A zs.length cap) zs.length (zs.map (Value.int k))/\New k w' w.heap.size A zs/\(∀ p,A=some p->(p.block=g∨w.heap.size<=p.block)/\p.block < w'.heap.size)/\Below w.heap.size w w':=by
 obtain⟨i0,hi0,hz0,hz1,hz2⟩:=hE.info;have hglt:g < w.heap.size:=(Array.getElem?_eq_some_iff.1 hlit).1;have hown:w.ownsRow g E 1 (.slice (some ⟨g,0,none⟩) 0 0) 0 []:=⟨by simp,.inr ⟨g,0,#[],rfl,Nat.le_refl _,hlit,Nat.le_refl _,Nat.zero_le _,rfl,by simp⟩⟩
 cases a with
 | none =>
  obtain⟨h0,rfl⟩:=hnil rfl;have hzs:zs=[]:=List.eq_nil_of_length_eq_zero h0;subst hzs;exact⟨some ⟨g,0,none⟩,0,w,run_append_owned_none (P:=P) (w:=w) g T ty E i0 1 hE.und hi0 _ 0 [] hown,hown,Or.inl rfl,fun p hp=>by cases hp;exact⟨Or.inl rfl,hglt⟩,Below.refl _ _⟩
 | some ad =>
  by_cases h0:zs=[]
  ·subst h0
   have hr:=run_append_room (P:=P) w T ty E i0 hE.und hi0 g 0 0 #[] hlit ad 0 c [] (by simp) (by simp) (by simp) (Nat.le_refl _) (by simp);refine⟨some ⟨g,0,none⟩,0,_,hr,⟨by simp,.inr ⟨g,0,_,rfl,Nat.le_refl _,setRow_heap w g #[] _ E _ hlit,Nat.le_refl _,Nat.zero_le _,by simp,by simp⟩⟩,Or.inl rfl,fun p hp=>by cases hp;exact⟨Or.inl rfl,by simpa using hglt⟩,⟨rfl,rfl,rfl,by simp,fun b hb=>?_⟩⟩
   by_cases e:b=g
   ·subst e
    rw [setRow_heap w b #[] _ E _ hlit,hlit]
    simp
   ·exact setRow_other w g b _ e
  ·have hpos:0 < zs.length:=by cases zs<;>simp_all
   have hcells:=Cells.of_lst hl
   have hnews:∀ j u,(zs.map (Value.int k))[j]?=some u->w.cell? (ad.add j)=some u:=by
    intro j u hu;have hj:j < (zs.map (Value.int k)).length:=(List.getElem?_eq_some_iff.1 hu).1
    rcases hcells with h1 | ⟨b,off,e,hb,hc⟩
    ·rw [h1] at hj;simp at hj
    ·injection e with e
     subst e;rw [add_at,hc j hj,hu]
   have hlen:(zs.map (Value.int k)).length=zs.length*i0.size:=by rw [List.length_map,hz1,Nat.mul_one]
   have hge:=grownCap_ge w (0+zs.length) 0 E;have hcm:grownCap w (0+zs.length) 0 E<=maxLen:=grownCap_le_maxLen w (0+zs.length) 0 E (by omega);have hr:=run_append_grow (P:=P) w T ty E i0 _ hE.und hi0 hz0 ⟨g,0,none⟩ 0 0 [] (by simp) (by simp) ad zs.length c (zs.map (Value.int k)) hlen hnews (by omega) (by unfold maxLen at h63;omega) (growslice_fits (by omega) (by rw [hz2,Nat.zero_add];exact hby))
   have hown':(w.drew.alloc (.cells (([]:List Value).toArray++(zs.map (Value.int k)).toArray++Builtin.zeroCells (Value.int k 0).cells (grownCap w (0+zs.length) 0 E-(0+zs.length))) E)).ownsRow w.heap.size E 1 (.slice (some ⟨w.heap.size,0,none⟩) (0+zs.length) (grownCap w (0+zs.length) 0 E)) (0+zs.length) (zs.map (Value.int k)):=by
    refine⟨by simp,.inr ⟨w.heap.size,_,_,rfl,Nat.le_refl _,heap_alloc_new w.drew _,hge,hcm,?_,?_⟩⟩
    ·have hz:(Value.int k 0).cells.size=1:=rfl
     simp only [Array.size_append,List.size_toArray,size_zeroCells,hz,List.length_map,List.length_nil]
     omega
    ·simp
   simp only [Nat.zero_add] at hr hown' hge
   refine⟨_,_,_,hr,own_lower hown' (Nat.le_of_lt hglt),New.of_own hown',fun p hp=>by cases hp;exact⟨Or.inr (Nat.le_refl _),by simp⟩,⟨rfl,rfl,rfl,by simp,fun b hb=>heap_alloc_old w.drew _ hb⟩⟩
theorem step_copy_lit {P:Program} {T E:TypeId} {k:IntKind} {bytes:Nat} (hE:Elem P T E (.int k 0) 1 bytes) {w:World} {ops:Array Oper} {o:Oper} {act:Act} {K:Act->World->Prop} {Q:Exit->Act->World->Prop} {F:Prop} (hgd:o.guard=none) (s x:Operand)
  (ho:o.op=.call { callee:=.builtin .append,args:=#[s,x],argTypes:=#[T,T] })
  (g:Nat) (hlit:w.heap[g]?=some (.cells #[] E (0,0))) (hs:act.eval s=.slice (some ⟨g,0,none⟩) 0 0) (a:Option Addr) (zs:List Int) (c:Nat) (hx:act.eval x=.slice a zs.length c) (hl:Lst k w a zs) (hnil:a=none->zs.length=0/\c=0) (h63:zs.length<=maxLen) (hby:zs.length*bytes<=140737488355328)
  (h:∀ A cap w',w'.ownsRow g E 1 (.slice A zs.length cap) zs.length (zs.map (Value.int k))->New k w' w.heap.size A zs->(∀ p,A=some p->(p.block=g∨w.heap.size<=p.block)/\p.block < w'.heap.size)->Below w.heap.size w w'->K (act.put o.dst (.slice A zs.length cap)) w'):if Region.wanted o (yielded ops act.tmps)=true then Oper.wp P o act w K Q else F:=by
 have hw:Region.wanted o (yielded ops act.tmps)=true:=by simp [Region.wanted,hgd]
 rw [if_pos hw]
 obtain⟨A,cap,w',hr,h1,h2,h3,h4⟩:=run_append_lit (P:=P) w (ty:=o.type) hE g hlit a zs c hl hnil h63 hby
 have hK:=h A cap w' h1 h2 h3 h4;unfold Oper.wp
 simp [execOp,ho,resolve,invoke,builtin,hs,hx,hr,Result.andThen]
 exact hK
end Go.Proofs.YtpeckljoannolaaGreatDoor

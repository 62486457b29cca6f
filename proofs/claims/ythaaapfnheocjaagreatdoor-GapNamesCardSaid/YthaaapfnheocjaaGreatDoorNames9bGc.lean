/- For the walk of the law GapNames: eight pairs in the making, nine of them, and an array whose first count is written over. -/
import Derived.Test.YthaaapfnheocjaaGreatDoorNames09Gc
import Derived.Test.YthaaapfnheocjaaGreatDoorGapGc
import Derived.Test.YthaaapfnheocjaaGreatDoorM04Gc
import Derived.Deep.RegionLawGrows
import Derived.Test.YthaaapfnheocjaaGreatDoorTkGc
set_option linter.unusedVariables false
set_option linter.unusedSimpArgs false
namespace Go.Proofs.YthaaapfnheocjaaGreatDoor.gapNames
open Go.RowKit
theorem noC_in:noC.In :=
 ⟨by show (0:Int)<=0;omega,by show (0:Int)<=255;omega,by show I64 0;unfold I64;omega,by show I64 0;unfold I64;omega,by show I64 0;unfold I64;omega,by show I64 0;unfold I64;omega,by show I64 0;unfold I64;omega,by show I64 0;unfold I64;omega,by show I64 0;unfold I64;omega,by show I64 0;unfold I64;omega⟩
theorem eight_len:eight.length=8:=by decide
theorem eight_at {k:Nat} (h:k < 8):eight.getD k (0,0)=((k:Int),0):=by
 unfold eight;rw [List.getD_eq_getElem?_getD,List.getElem?_map,List.getElem?_range h]
 rfl
theorem eight_in:In64P eight:=fun k=>by
 rcases Nat.lt_or_ge k 8 with h | h
 ·rw [eight_at h];exact⟨⟨by show (-9223372036854775808:Int)<=k;omega,by show (k:Int)<=9223372036854775807;omega⟩,i64s (by show (-1000:Int)<=0;omega) (by show (0:Int)<=1000;omega)⟩
 ·rw [List.getD_eq_getElem?_getD,List.getElem?_eq_none (by rw [eight_len];exact h)];exact⟨i64s (by decide) (by decide),i64s (by decide) (by decide)⟩
theorem nine_in:In64P (eight++[(0,0)]):=fun k=>by
 rcases Nat.lt_or_ge k 8 with h | h
 ·rw [List.getD_eq_getElem?_getD,List.getElem?_append_left (by rw [eight_len];exact h),<-List.getD_eq_getElem?_getD];exact eight_in k
 ·rw [List.getD_eq_getElem?_getD,List.getElem?_append_right (by rw [eight_len];exact h)]
  have:(([((0:Int),(0:Int))])[k-eight.length]?).getD (0,0)=(0,0):=by cases (k-eight.length)<;>simp
  rw [this];exact⟨i64s (by decide) (by decide),i64s (by decide) (by decide)⟩
structure Made (w:World) (g k:Nat):Prop where
 lt:g < w.heap.size
 key:∀ i:Nat,i < 8->w.cell? ⟨g,i*2,none⟩=some (.int .i64 (if i < k then (i:Int) else 0))
 val:∀ i:Nat,i < 8->w.cell? ⟨g,i*2+1,none⟩=some (.int .i64 0)
 free:∀ o,w.frozen? ⟨g,o,none⟩=false
theorem Made.turn {w:World} {g k:Nat} (h:Made w g k) (hk:k < 8):Made (w.setCell ⟨g,k*2,none⟩ (.int .i64 (k:Int))) g (k+1):=by
 refine⟨by rw [World.size_setCell];exact h.lt,fun i hi=>?_,fun i hi=>?_,fun o=>by rw [World.frozen?_setCell];exact h.free o⟩
 ·by_cases e:i=k
  ·subst e
   rw [World.cell?_setCell_same _ _ _ (h.key i hi),if_pos (by omega)]
  ·rw [World.cell?_setCell_other _ _ _ _ (by intro h9;simp only [Addr.mk.injEq] at h9;omega),h.key i hi]
   by_cases e2:i < k
   ·rw [if_pos e2,if_pos (by omega)]
   ·rw [if_neg e2,if_neg (by omega)]
 ·rw [World.cell?_setCell_other _ _ _ _ (by intro h9;simp only [Addr.mk.injEq] at h9;omega),h.val i hi]
theorem Made.plst {w:World} {g:Nat} (h:Made w g 8):PLst w (some ⟨g,0,none⟩) eight:=by
 refine Or.inr ⟨g,0,rfl,h.lt,fun i hi=>?_⟩;rw [pcells_length,eight_len] at hi;have q:=pcells_at eight (i/2) (by rw [eight_len];omega);rw [eight_at (by omega)] at q;rw [Nat.zero_add]
 rcases Nat.mod_two_eq_zero_or_one i with e | e
 ·have e2:i=i/2*2:=by omega
  have k:=h.key (i/2) (by omega);rw [if_pos (by omega),<-e2] at k;rw [<-e2] at q;rw [k,q.1]
 ·have e2:i=i/2*2+1:=by omega
  have k:=h.val (i/2) (by omega);rw [<-e2] at k q;rw [k,q.2]
theorem wpList_pairs8 {P:Program} {T E:TypeId} {bytes:Nat} (hE:Elem P T E (.agg #[.int .i64 0,.int .i64 0]) 2 bytes) {w:World} {ops:Array Oper} {rest:List Oper} {o:Oper} {act:Act} {Q:Exit->Act->World->Prop} (hg:o.guard=none) (l c:Operand)
  (hop:o.op=Op.makeSlice T l c) (hl:act.eval l=.int .i64 8) (hc:act.eval c=.int .i64 8) (b2:bytes*8<=281474976710656)
  (h:∀ w',Made w' w.heap.size 0->Below w.heap.size w w'->wpList P ops Q rest (act.put o.dst (.slice (some ⟨w.heap.size,0,none⟩) 8 8)) w'):wpList P ops Q (o::rest) act w:=by
 obtain⟨i0,hi0,hz0,hz1,hz2⟩:=hE.info;refine wpList_make_full w hg l c T hop w.heap.size E i0 (.agg #[.int .i64 0,.int .i64 0]) 2 hE.und hi0 hz0 hz1 .i64 .i64 8 8 8 hl hc rfl rfl (by rw [hz2];exact b2) (by unfold maxLen;omega) (Nat.le_refl _) ?_;intro w' hown hgrow
 have e:(madeCells (Value.agg #[.int .i64 0,.int .i64 0]).cells (8*2)).toList=List.replicate 16 (Value.int .i64 0):=by first | (simp [madeCells,Value.cells,List.replicate];done) | (simp [madeCells,Value.cells,List.range_succ,List.replicate];done) | (unfold madeCells;kernel_rfl) | (simp [madeCells,Value.cells,List.replicate];decide)
 rw [e] at hown;refine h w' ⟨(World.ownsRow.lt hown w.heap.size rfl).2,fun i hi=>?_,fun i hi=>?_,fun o=>hown.frozenAt o⟩ ((Below.refl _ _).grown hgrow (Nat.le_refl _) (fun k e=>by cases e))
 ·have:=hown.cellAt (i*2) (by omega)
  rw [this,List.getElem?_replicate,if_pos (by omega),if_neg (by omega)]
 ·have:=hown.cellAt (i*2+1) (by omega)
  rw [this,List.getElem?_replicate,if_pos (by omega)]
theorem step_nine {P:Program} {T E:TypeId} {bytes:Nat} (hE:Elem P T E (.agg #[.int .i64 0,.int .i64 0]) 2 bytes) {w:World} {ops:Array Oper} {o:Oper} {act:Act} {K:Act->World->Prop} {Q:Exit->Act->World->Prop} {F:Prop} (hgd:o.guard=none) (s x:Operand)
  (ho:o.op=.call { callee:=.builtin .append,args:=#[s,x],argTypes:=#[T,T] }) (g v:Nat) (hs:act.eval s=.slice (some ⟨g,0,none⟩) 8 8) (hx:act.eval x=.slice (some ⟨v,0,none⟩) 1 1)
  (hp:PLst w (some ⟨g,0,none⟩) eight) (hv:PLst w (some ⟨v,0,none⟩) [(0,0)]) (hby:9*bytes<=140737488355328)
  (h:∀ al cal w',PLst w' al (eight++[(0,0)])->Below w.heap.size w w'->K (act.put o.dst (.slice al 9 cal)) w'):if Region.wanted o (yielded ops act.tmps)=true then Oper.wp P o act w K Q else F:=by
 obtain⟨i0,hi0,hz0,hz1,hz2⟩:=hE.info
 have rd:∀ (d:Nat) (ps:List (Int×Int)),PLst w (some ⟨d,0,none⟩) ps->∀ j u,(pcells ps)[j]?=some u->w.cell? ((⟨d,0,none⟩:Addr).add j)=some u:=fun d ps hq j u hj=>by
  rcases hq with h0 | ⟨b,off,h1,_,h3⟩
  ·rw [h0] at hj;cases hj
  ·injection h1 with h1
   injection h1 with e1 e2
   subst e1 e2;rw [add_at,h3 j (List.getElem?_eq_some_iff.1 hj).1];exact hj
 refine step_append_grows hgd s x T ho E i0 _ 2 bytes hE.und hi0 hz0 hz1 hz2 hE.zero (by omega) (some ⟨g,0,none⟩) 8 8 (pcells eight) hs (fun e=>by cases e) (by rw [pcells_length,eight_len]) (fun b hb j u hj=>by injection hb with hb;subst hb;exact rd g eight hp j u hj)
  ⟨v,0,none⟩ 1 1 (pcells [(0,0)]) hx rfl (fun j u hj=>rd v _ hv j u hj) (pcells_one _) (by omega) (by unfold maxLen;omega) hby ?_
 intro v' w' hown hgrow;obtain⟨A,c,rfl,hC,_⟩:=own_cells hown;rw [<-pcells_append] at hC;exact h A c w' hC ((Below.refl _ _).grown hgrow (Nat.le_refl _) (fun k e=>by cases e))
theorem plst_one (w:World) (t:TypeId):PLst (w.alloc (.cells #[.int .i64 0,.int .i64 0] t)) (some ⟨w.heap.size,0,none⟩) [(0,0)] :=
 Or.inr ⟨w.heap.size,0,rfl,by simp,fun i hi=>by
  match i,hi with
  | 0,_=>simp [pcells]
  | 1,_=>simp [pcells]⟩
theorem poke {k:IntKind} {w:World} {a:Option Addr} {zs:List Int} (h:Lst k w a zs) (p:Addr) (x:Int) :
  ∃ ys:List Int,Lst k (w.setCell p (.int k x)) a ys/\ys.length=zs.length/\∀ i,ys.getD i 0=zs.getD i 0∨ys.getD i 0=x:=by
 rcases h with h0 | ⟨b,off,h1,h2,h3⟩
 ·exact⟨zs,Or.inl h0,rfl,fun i=>Or.inl rfl⟩
 ·by_cases e:∃ j,j < zs.length/\p=⟨b,off+j,none⟩
  ·obtain⟨j,hj,rfl⟩:=e
   refine⟨zs.set j x,Or.inr ⟨b,off,h1,by rw [World.size_setCell];exact h2,fun i hi=>?_⟩,List.length_set,fun i=>?_⟩
   ·rw [List.length_set] at hi
    by_cases e:j=i
    ·subst e
     rw [World.cell?_setCell_same _ _ _ (h3 j hi)]
     simp [List.getD,hj]
    ·rw [World.cell?_setCell_other _ _ _ _ (by intro h;simp only [Addr.mk.injEq] at h;omega),h3 i hi]
     simp [List.getD,e]
   ·by_cases e:j=i
    ·subst e
     exact Or.inr (by simp [List.getD,hj])
    ·exact Or.inl (by simp [List.getD,e])
  ·refine⟨zs,Or.inr ⟨b,off,h1,by rw [World.size_setCell];exact h2,fun i hi=>?_⟩,rfl,fun i=>Or.inl rfl⟩
   rw [World.cell?_setCell_other _ _ _ _ (by intro h;exact e ⟨i,hi,by first | exact h | exact h.symm⟩),h3 i hi]
theorem poke_other {k k':IntKind} (hk:k≠k') {w:World} {a:Option Addr} {zs:List Int} (h:Lst k w a zs) {p:Addr} {y:Int} (hp:w.cell? p=some (.int k' y)) (v:Value):Lst k (w.setCell p v) a zs:=by
 rcases h with h0 | ⟨b,off,h1,h2,h3⟩
 ·exact Or.inl h0
 ·refine Or.inr ⟨b,off,h1,by rw [World.size_setCell];exact h2,fun i hi=>?_⟩
  have q:=h3 i hi;rw [World.cell?_setCell_other _ _ _ _ (by intro e;first | (rw [<-e,hp] at q;injection q with q;injection q with q _;exact hk q.symm) | (rw [e,hp] at q;injection q with q;injection q with q _;exact hk q.symm)),q]
theorem box_keep {w:World} {B:Nat} {s:Sl} {a:Ads} (h:Box w B s a) {q:Addr} {c:Int} (hq:w.cell? q=some (.int .i64 c)) (hc:c≠s.seg) (v:Value):Box (w.setCell q v) B s a:=by
 obtain⟨h1,p0,p1,p2,p3,p4,p5,hf⟩:=h;refine⟨by rw [World.size_setCell];exact h1,?_,?_,?_,?_,?_,?_,fun o=>by rw [World.frozen?_setCell];exact hf o⟩
 ·rw [World.cell?_setCell_other _ _ _ _ (by intro e;first | (rw [<-e,p0] at hq;injection hq with hq;injection hq with _ hq;exact hc hq.symm) | (rw [e,p0] at hq;injection hq with hq;injection hq with _ hq;exact hc hq.symm))];exact p0
 ·rw [World.cell?_setCell_other _ _ _ _ (by intro e;first | (rw [<-e,p1] at hq;cases hq) | (rw [e,p1] at hq;cases hq))];exact p1
 ·rw [World.cell?_setCell_other _ _ _ _ (by intro e;first | (rw [<-e,p2] at hq;cases hq) | (rw [e,p2] at hq;cases hq))];exact p2
 ·rw [World.cell?_setCell_other _ _ _ _ (by intro e;first | (rw [<-e,p3] at hq;cases hq) | (rw [e,p3] at hq;cases hq))];exact p3
 ·rw [World.cell?_setCell_other _ _ _ _ (by intro e;first | (rw [<-e,p4] at hq;cases hq) | (rw [e,p4] at hq;cases hq))];exact p4
 ·rw [World.cell?_setCell_other _ _ _ _ (by intro e;first | (rw [<-e,p5] at hq;cases hq) | (rw [e,p5] at hq;cases hq))];exact p5
theorem evens {w:World} {a:Option Addr} {zs:List Int} (h:Lst .i64 w a zs) (hl:zs.length=16):∃ b o,a=some ⟨b,o,none⟩/\∀ i,i < 16->w.cell? ⟨b,o+i,none⟩=some (.int .i64 (zs.getD i 0)):=by
 rcases h with h0 | ⟨b,o,h1,_,h3⟩
 ·rw [h0] at hl;cases hl
 ·exact⟨b,o,h1,fun i hi=>h3 i (by omega)⟩
theorem own_count {w:World} {B:Nat} {s:Sl} {a:Ads} (h:Own w B s a) (hl:s.counts.length=4):∃ b o,a.c=some ⟨b,o,none⟩/\B<=b/\w.cell? ⟨b,o,none⟩=some (.int .i64 (s.counts.getD 0 0))/\w.frozen? ⟨b,o,none⟩=false:=by
 rcases h.counts with h0 | ⟨b,o,h1,hB,_,h3⟩
 ·rw [h0] at hl;cases hl
 ·have q:=h3 0 (by omega)
  rw [Nat.add_zero] at q;exact⟨b,o,h1,hB,q.1,q.2⟩
theorem y1_counts:({ Y with counts:=Y.counts.set 0 1 }:Sl).countsB (Y.counts.set 0 1).length=false/\ch9.mayB=true:=by decide +kernel
theorem chk_gen (S:Sl) (h1:({ S with counts:=S.counts.set 0 1 }:Sl).countsB (S.counts.set 0 1).length=false) (hm:ch9.mayB=true) (K V:List Int):Gp.chkE ch9 { S with counts:=S.counts.set 0 1,keys:=K,vals:=V }=8:=by
 have h:({ S with counts:=S.counts.set 0 1,keys:=K,vals:=V }:Sl).mayB=false:=by
  unfold Sl.mayB
  show (_&&({ S with counts:=S.counts.set 0 1 }:Sl).countsB (S.counts.set 0 1).length)=false
  rw [h1,Bool.and_false]
 unfold Gp.chkE Gp.ownB;rw [h,hm]
 rfl
theorem y_fine:Fine Y:=Gp.take_fine (Gp.load_fine Gp.new_fine.ok Gp.new_fine.short eight eight_in).ok (Gp.load_fine Gp.new_fine.ok Gp.new_fine.short eight eight_in).short 7
theorem all_poked {ys zs:List Int} {x:Int} (h:All64 zs) (hx:In64 x) (hy:∀ i,ys.getD i 0=zs.getD i 0∨ys.getD i 0=x):All64 ys:=fun i=>by
 rcases hy i with e | e
 ·rw [e];exact h i
 ·rw [e];exact hx
theorem check_any (Y:Sl) (F:Fine Y) (l4:Y.counts.length=4) (hchk:∀ K V,Gp.chkE ch9 { Y with counts:=Y.counts.set 0 1,keys:=K,vals:=V }=8) (a:Ads) (b o:Nat) (w W:World) (h:Held w Y a) (hc:a.c=some ⟨b,o,none⟩) (hb:Below (w.setCell ⟨b,o,none⟩ (.int .i64 1)).heap.size (w.setCell ⟨b,o,none⟩ (.int .i64 1)) W) (hT:Tab W) :
  Calls Tryz.prog 12 #[cfv ch9,slv Y a] W fun e w'=>e=.returned (.int .i64 8)/\Below W.heap.size W w':=by
 have one:In64 1:=i64s (by decide) (by decide);obtain⟨K,hK,nK,aK⟩:=poke h.keys ⟨b,o,none⟩ 1;obtain⟨V,hV,nV,aV⟩:=poke h.vals ⟨b,o,none⟩ 1;obtain⟨d,o2,e1,_,c1⟩:=h.counts.cell (i:=0) (by omega);rw [hc] at e1
 injection e1 with e1
 injection e1 with e1 e2
 subst e1 e2;rw [Nat.add_zero] at c1
 have hC:Lst .i64 (w.setCell ⟨b,o,none⟩ (.int .i64 1)) a.c (Y.counts.set 0 1):=by
  rcases h.counts with h0 | ⟨b',off,h1,h2,h3⟩
  ·rw [h0] at l4;cases l4
  ·rw [hc] at h1
   injection h1 with h1
   injection h1 with h1 h4
   subst h1 h4;refine Or.inr ⟨b,o,hc,by rw [World.size_setCell];exact h2,fun i hi=>?_⟩;rw [List.length_set] at hi
   by_cases e:i=0
   ·subst e
    rw [Nat.add_zero,World.cell?_setCell_same _ _ _ c1]
    simp [List.getD,l4]
   ·rw [World.cell?_setCell_other _ _ _ _ (by intro h;simp only [Addr.mk.injEq] at h;omega),h3 i hi]
    have:¬ 0=i:=by omega
    simp [List.getD,this]
 have hh:Held (w.setCell ⟨b,o,none⟩ (.int .i64 1)) { Y with counts:=Y.counts.set 0 1,keys:=K,vals:=V } a:=by
  refine⟨poke_other (by decide) h.words c1 _,hK,hV,hC,?_⟩;have cp:=h.caps;exact⟨cp.w0,fun e=>by have:=cp.k0 e;exact⟨by show K.length=0;rw [nK];exact this.1,this.2⟩,fun e=>by have:=cp.v0 e;exact⟨by show V.length=0;rw [nV];exact this.1,this.2⟩,fun e=>(by rw [hc] at e;cases e),cp.w1,by show K.length<=_;rw [nK];exact cp.k1,by show V.length<=_;rw [nV];exact cp.v1,by show (Y.counts.set 0 1).length<=_;rw [List.length_set];exact cp.c1⟩
 have ok:Sl.Ok { Y with counts:=Y.counts.set 0 1,keys:=K,vals:=V }:=⟨F.ok.seg,F.ok.words,all_poked F.ok.keys one aK,all_poked F.ok.vals one aV,fun i=>by
  show In64 ((Y.counts.set 0 1).getD i 0)
  by_cases e:0=i
  ·subst e;have:(Y.counts.set 0 1).getD 0 0=1:=by simp [List.getD,l4]
   rw [this];exact one
  ·have:(Y.counts.set 0 1).getD i 0=Y.counts.getD i 0:=by simp [List.getD,e]
   rw [this];exact F.ok.counts i,F.ok.laid⟩
 have sh:Sl.Short { Y with counts:=Y.counts.set 0 1,keys:=K,vals:=V }:=⟨F.short.words,by show K.length<=_;rw [nK];exact F.short.keys,by show V.length<=_;rw [nV];exact F.short.vals,by show (Y.counts.set 0 1).length<=_;rw [List.length_set];exact F.short.counts⟩;have:=gCheck ch9 { Y with counts:=Y.counts.set 0 1,keys:=K,vals:=V } a W ch9_in (hh.below hb) ok sh hT;rw [hchk] at this
 have e:slv { Y with counts:=Y.counts.set 0 1,keys:=K,vals:=V } a=slv Y a:=by
  show Value.agg #[.int .i64 Y.seg,.slice a.w Y.words.length a.cw,.slice a.k K.length a.ck,.slice a.v V.length a.cv,.slice a.c (Y.counts.set 0 1).length a.cc,.int .u64 (Y.laid:Int)]=_
  rw [nK,nV,List.length_set]
  rfl
 rw [e] at this;exact this
theorem check_spoilt (a:Ads) (b o:Nat) (w W:World) (h:Held w Y a) (hc:a.c=some ⟨b,o,none⟩) (hb:Below (w.setCell ⟨b,o,none⟩ (.int .i64 1)).heap.size (w.setCell ⟨b,o,none⟩ (.int .i64 1)) W) (hT:Tab W) :
  Calls Tryz.prog 12 #[cfv ch9,slv Y a] W fun e w'=>e=.returned (.int .i64 8)/\Below W.heap.size W w' :=
 check_any Y y_fine vals.2.2.2.2.2.1 (chk_gen Y y1_counts.1 y1_counts.2) a b o w W h hc hb hT
end Go.Proofs.YthaaapfnheocjaaGreatDoor.gapNames

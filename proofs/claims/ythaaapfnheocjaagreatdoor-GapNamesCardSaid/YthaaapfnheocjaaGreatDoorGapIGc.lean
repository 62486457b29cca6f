/- What slices.Insert returns at pairs, of one more pair: a row with it among them, in place or anew. -/
import Derived.Test.YthaaapfnheocjaaGreatDoorM04Gc
import Derived.Test.YthaaapfnheocjaaGreatDoorP08Gc
import Derived.Shelf.Spec.SlicesInsert
import Derived.Lib.AppendZerosOnto
import Derived.Laws.CopyOwn
import Derived.Test.YthaaapfnheocjaaGreatDoorTkGc
set_option linter.unusedVariables false
set_option linter.unusedSimpArgs false
set_option maxHeartbeats 4000000
set_option maxRecDepth 100000
namespace Go.Proofs.YthaaapfnheocjaaGreatDoor
open Go.RowKit Go.Lib Go.Shelf
theorem run_copy_rowN {P:Program} (w:World) (dT sT ty elem:TypeId) (g o dLen dCap:Nat) (a:Addr) (sLen sCap:Nat) (cur:Array Value) (t:TypeId) (cs:List Value) (size n:Nat)
  (hu:P.underlying dT=some (.slice elem)) (hs:(P.info? elem).map (·.size)=some size)
  (hg:w.heap[g]?=some (.cells cur t (0,0))) (hm:Nat.min sLen dLen=n) (hn:cs.length=n*size)
  (hsrc:∀ j v,cs[j]?=some v->w.cell? (a.add j)=some v) (hfit:o+cs.length<=cur.size) (h1:∀ v∈cs,v.oneCell'=true) :
  (Builtin.copy_ #[dT,sT] ty #[.slice (some ⟨g,o,none⟩) dLen dCap,.slice (some a) sLen sCap]).run P w =
   .ok (goInt n) (w.setRow g (cur.toList.take o++cs++cur.toList.drop (o+cs.length)).toArray):=by
 have hl:=run_loadCells_list (P:=P) w a cs hsrc;have hst:=run_storeCells_at P g o t cs 0 cur w hg (by simpa using hfit) h1
 cases hq:P.info? elem with
 | none=>simp [hq] at hs
 | some i =>
  have hi:i.size=size:=by simpa [hq] using hs
  simp [Builtin.copy_,run_underlying hu,Builtin.lenOf,Builtin.firstCells,sizeOf,typeInfo,hq,hi,hm,<-hn,hl,hst]
theorem row_cell {w:World} {g:Nat} {cur:Array Value} {t:TypeId} {fz:Nat×Nat} (h:w.heap[g]?=some (.cells cur t fz)) (j:Nat):w.cell? ⟨g,j,none⟩=cur[j]?:=by
 simp [World.cell?,h]
theorem heap_cell {A B:World} (h:A.heap=B.heap) (x:Addr):A.cell? x=B.cell? x:=by
 unfold World.cell?;rw [h]
abbrev InsPost (base:Nat) (ps:List (Int×Int)) (k:Nat) (p:Int×Int) (w:World) (e:Ending) (w':World):Prop :=
 ∃ v',e=.returned v'/\w'.ownsRow base 36 2 v' (ps.length+1) (pcells (Ly.among ps k p))/\Below base w w'
theorem one_cells {w:World} {vb:Nat} {p:Int×Int} {t:TypeId} (h:w.heap[vb]?=some (.cells #[.int .i64 p.1,.int .i64 p.2] t (0,0))):∀ (j:Nat) u,(pcells [p])[j]?=some u->w.cell? ((⟨vb,0,none⟩:Addr).add j)=some u:=by
 intro j u hj;rw [add_at,Nat.zero_add,row_cell h]
 simpa [pcells] using hj
theorem among_end (ps:List (Int×Int)) (p:Int×Int):Ly.among ps ps.length p=ps++[p]:=by unfold Ly.among;simp
theorem ins_append (base:Nat) (v:Value) (ps:List (Int×Int)) (p:Int×Int) (vb:Nat) (w:World) (hown:w.ownsRow base 36 2 v ps.length (pcells ps)) (hV:w.heap[vb]?=some (.cells #[.int .i64 p.1,.int .i64 p.2] 36 (0,0))) (hb:base<=w.heap.size) (hn:ps.length<=65536) (ty:TypeId) :
  ∃ v' w',(Builtin.append_ #[34,34] ty #[v,.slice (some ⟨vb,0,none⟩) 1 1]).run Tryz.prog w=.ok v' w'/\w'.ownsRow base 36 2 v' (ps.length+1) (pcells (Ly.among ps ps.length p))/\Below base w w':=by
 obtain⟨i0,hi0,hz0,hz1,hz2⟩:=elemP.info;obtain⟨v',w',hrun,r1,r2,_⟩:=run_append_own (P:=Tryz.prog) (w:=w) base 34 ty 36 i0 _ 2 16 elemP.und hi0 hz0 hz1 hz2 elemP.zero elemP.pos v ps.length (pcells ps) hown ⟨vb,0,none⟩ 1 1 (pcells [p]) rfl (one_cells hV) (pcells_one _) (by unfold maxLen;omega) (by omega) hb;refine⟨v',w',hrun,?_,(Below.refl _ _).grown r2 hb (fun g hg=>(World.ownsRow.lt hown g hg).1)⟩;rw [among_end,pcells_append];exact r1
theorem nIns_nil (base:Nat) (p:Int×Int) (vb:Nat) (w:World) (hV:w.heap[vb]?=some (.cells #[.int .i64 p.1,.int .i64 p.2] 36 (0,0))) (hb:base<=w.heap.size) :
  Calls Tryz.prog 121 #[.slice none 0 0,.int .i64 0,.slice (some ⟨vb,0,none⟩) 1 1] w (InsPost base [] 0 p w):=by
 have H:=aq (fun ty=>ins_append base (.slice none 0 0) [] p vb w (World.ownsRow_nil _ _ _ _) hV hb (Nat.zero_le _) ty);clear hV;obtain⟨v',w',hr,h1,h2⟩:=H.out 34;have P1:=aq (And.intro h1 h2);clear H h1 h2
 go_enter Tryz.func121,Tryz.ntmps121
 go_wp2_with (at_builtin;refine Lib.wpList_append_run _ rfl _ _ _ _ rfl _ _ rfl rfl _ _ hr ?_)
 go_ret;exact⟨_,rfl,P1.out.1,P1.out.2⟩
theorem nIns_end (base g c:Nat) (ps:List (Int×Int)) (p:Int×Int) (vb:Nat) (w:World) (hown:w.ownsRow base 36 2 (.slice (some ⟨g,0,none⟩) ps.length c) ps.length (pcells ps)) (hV:w.heap[vb]?=some (.cells #[.int .i64 p.1,.int .i64 p.2] 36 (0,0))) (hb:base<=w.heap.size) (hn:ps.length<=65536) (hnc:ps.length<=c) :
  Calls Tryz.prog 121 #[.slice (some ⟨g,0,none⟩) ps.length c,.int .i64 (ps.length:Int),.slice (some ⟨vb,0,none⟩) 1 1] w (InsPost base ps ps.length p w):=by
 have H:=aq (fun ty=>ins_append base _ ps p vb w hown hV hb hn ty);clear hV hown;obtain⟨v',w',hr,h1,h2⟩:=H.out 34;have P1:=aq (And.intro h1 h2);clear H h1 h2;obtain⟨n,hnn⟩:∃ n,n=ps.length:=⟨_,rfl⟩;rw [<-hnn] at hr hn hnc ⊢;have HN:=aq hnn;clear hnn
 go_enter Tryz.func121,Tryz.ntmps121
 go_wp2_with (at_builtin;refine Lib.wpList_append_run _ rfl _ _ _ _ rfl _ _ rfl rfl _ _ hr ?_)
 all_goals
  go_ret;exact⟨_,rfl,by rw [HN.out];exact P1.out.1,P1.out.2⟩
theorem shift_take (xs ds:List Value) (x y:Value) (k m:Nat) (hx:xs.length=m) (hk:k<=m) (hd:2<=ds.length) :
  let cur:=xs++ds
  let c1:=cur.take (k+2)++xs.drop k++cur.drop (k+2+(m-k))
  (c1.take k++[x,y]++c1.drop (k+2)).take (m+2)=xs.take k++[x,y]++xs.drop k:=by
 intro cur c1
 have hc:cur.length=m+ds.length:=by simp [cur,hx]
 have l1:(cur.take (k+2)).length=k+2:=by rw [List.length_take];omega
 have e1:c1.take k=xs.take k:=by
  have:c1=cur.take (k+2)++(xs.drop k++cur.drop (k+2+(m-k))):=by simp [c1]
  rw [this,List.take_append_of_le_length (by omega),List.take_take,Nat.min_eq_left (by omega)];exact List.take_append_of_le_length (by omega)
 have e2:c1.drop (k+2)=xs.drop k++cur.drop (k+2+(m-k)):=by
  have:c1=cur.take (k+2)++(xs.drop k++cur.drop (k+2+(m-k))):=by simp [c1]
  rw [this,List.drop_left' l1]
 rw [e1,e2]
 have l2:(xs.take k++[x,y]++xs.drop k).length=m+2:=by simp [hx];omega
 rw [<-List.append_assoc,List.take_left' l2]
theorem among_cells (ps:List (Int×Int)) (k:Nat) (p:Int×Int):pcells (Ly.among ps k p)=(pcells ps).take (k*2)++[.int .i64 p.1,.int .i64 p.2]++(pcells ps).drop (k*2):=by
 have e:pcells (p::ps.drop k)=[.int .i64 p.1,.int .i64 p.2]++pcells (ps.drop k):=rfl;unfold Ly.among;rw [pcells_append,pcells_take,<-pcells_drop,e,List.append_assoc]
theorem nIns_shift (base g c k:Nat) (ps:List (Int×Int)) (p:Int×Int) (vb:Nat) (w:World) (hown:w.ownsRow base 36 2 (.slice (some ⟨g,0,none⟩) ps.length c) ps.length (pcells ps)) (hV:w.heap[vb]?=some (.cells #[.int .i64 p.1,.int .i64 p.2] 36 (0,0))) (hvb:vb≠g) (hb:base<=w.heap.size) (hn:ps.length<=65536) (hk:k < ps.length) (hroom:ps.length+1<=c) :
  Calls Tryz.prog 121 #[.slice (some ⟨g,0,none⟩) ps.length c,.int .i64 (k:Int),.slice (some ⟨vb,0,none⟩) 1 1] w (InsPost base ps k p w):=by
 obtain⟨cur,ho1,ho2,ho3,ho4,ho5,ho6⟩:∃ cur,base<=g/\w.heap[g]?=some (.cells cur 36 (0,0))/\ps.length<=c/\c<=maxLen/\cur.size=c*2/\cur.toList.take (ps.length*2)=pcells ps:=by
  rcases hown.2 with⟨h,_⟩ | ⟨g',c',cur,hv,h1,h2,h3,h4,h5,h6⟩
  ·cases h
  ·injection hv with e1 e2 e3
   injection e1 with e1
   injection e1 with e1
   subst e1 e3;exact⟨cur,h1,h2,h3,h4,h5,h6⟩
 have hc63:c<=9223372036854775807:=by unfold maxLen at ho4;omega
 have hlen:=pcells_length ps;have hone:=pcells_one ps;have FIN:=aq (among_cells ps k p);obtain⟨n,hnn⟩:∃ n,n=ps.length:=⟨_,rfl⟩;obtain⟨xs,hxs⟩:∃ xs,xs=pcells ps:=⟨_,rfl⟩;rw [<-hnn] at hn hk hroom ho3 ho6 hlen ⊢;rw [<-hxs] at hlen hone ho6 FIN;obtain⟨ds,hds⟩:∃ ds,cur.toList=xs++ds:=⟨cur.toList.drop (n*2),by rw [<-ho6];exact (List.take_append_drop _ _).symm⟩
 have hdl:xs.length+ds.length=c*2:=by rw [<-ho5,<-Array.length_toList,hds,List.length_append]
 have hsz:(Tryz.prog.info? 36).map (·.size)=some 2:=by kernel_rfl
 have hsa:w.shape? vb=some (36,2):=by simp [World.shape?,hV]
 have hsb:w.shape? g=some (36,c*2):=by simp [World.shape?,ho2,ho5]
 have hfa:w.frozen? ⟨vb,0,none⟩=false:=by simp [World.frozen?,hV]
 have hfe:w.frozen? ⟨vb,2,none⟩=false:=by simp [World.frozen?,hV]
 have hov:∀ lb cb,(callFunc 154 #[.slice (some ⟨vb,0,none⟩) 1 1,.slice (some ⟨g,(k+1)*2,none⟩) lb cb]).run Tryz.prog w=.ok (.value (.bool false)) w:=fun lb cb=>by
  rw [run_callFunc_extern Tryz.func154 (by kernel_rfl) (by kernel_rfl) (by kernel_rfl) (e:=Extern.SlicesOverlaps.overlaps #[34,34] #[4]) (by kernel_rfl),
   Lib.run_overlaps_apart w 34 4 36 elemP.und 2 (fun w=>by kernel_rfl) ⟨vb,0,none⟩ ⟨g,(k+1)*2,none⟩ 1 1 lb cb hvb _ _ _ _ hsa hsb (by omega) hfa hfe]
  rfl
 have hdrop:(xs.drop (k*2)).length=(n-k)*2:=by rw [List.length_drop,hlen];omega
 have hxc:∀ j v,(xs.drop (k*2))[j]?=some v->w.cell? ⟨g,k*2+j,none⟩=some v:=fun j v hj=>by
  rw [List.getElem?_drop] at hj;have hl:k*2+j < xs.length:=(List.getElem?_eq_some_iff.1 hj).1;rw [row_cell ho2,<-Array.getElem?_toList,hds,List.getElem?_append_left hl];exact hj
 have hszc:cur.toList.length=c*2:=by rw [Array.length_toList];exact ho5
 obtain⟨c1,hc1⟩:∃ c1,c1=cur.toList.take ((k+1)*2)++xs.drop (k*2)++cur.toList.drop ((k+1)*2+(xs.drop (k*2)).length):=⟨_,rfl⟩
 have hl1:c1.length=c*2:=by
  rw [hc1]
  simp only [List.length_append,List.length_take,List.length_drop,hlen,hszc]
  omega
 have hcp1:∀ ty dc sc,(Builtin.copy_ #[34,34] ty #[.slice (some ⟨g,(k+1)*2,none⟩) (n-k) dc,.slice (some ⟨g,k*2,none⟩) (n+1-k) sc]).run Tryz.prog w.drew=.ok (goInt ((n-k:Nat):Int)) (w.drew.setRow g c1.toArray):=fun ty dc sc=>by
  rw [hc1]
  exact run_copy_rowN w.drew _ _ ty 36 g ((k+1)*2) (n-k) dc ⟨g,k*2,none⟩ (n+1-k) sc cur 36 (xs.drop (k*2)) 2 (n-k) elemP.und hsz ho2 (by simp only [Nat.min_def];split<;>omega) hdrop (fun j v hj=>by rw [add_at];exact hxc j v hj) (by omega) (fun v hv=>hone v (List.mem_of_mem_drop hv))
 obtain⟨W1,hW1⟩:∃ W1,W1=w.drew.setRow g c1.toArray:=⟨_,rfl⟩
 have hg1:W1.heap[g]?=some (.cells c1.toArray 36 (0,0)):=by rw [hW1];exact setRow_heap w.drew g cur _ _ _ ho2
 have hv1:W1.heap[vb]?=some (.cells #[.int .i64 p.1,.int .i64 p.2] 36 (0,0)):=by rw [hW1,setRow_other w.drew g vb _ hvb];exact hV
 have hB1:Below base w W1:=by rw [hW1];exact below_setRow (Below.refl _ _).drew ho1 _
 obtain⟨c2,hc2⟩:∃ c2,c2=c1.take (k*2)++[.int .i64 p.1,.int .i64 p.2]++c1.drop (k*2+2):=⟨_,rfl⟩
 have hcp2:∀ (W:World),W.heap=W1.heap->∀ ty dc,(Builtin.copy_ #[34,34] ty #[.slice (some ⟨g,k*2,none⟩) (n+1-k) dc,.slice (some ⟨vb,0,none⟩) 1 1]).run Tryz.prog W=.ok (goInt 1) (W.setRow g c2.toArray):=fun W hh ty dc=>by
  rw [hc2]
  exact run_copy_rowN W _ _ ty 36 g (k*2) (n+1-k) dc ⟨vb,0,none⟩ 1 1 c1.toArray 36 [.int .i64 p.1,.int .i64 p.2] 2 1 elemP.und hsz (by rw [hh];exact hg1) (by simp only [Nat.min_def];split<;>omega) rfl (fun j v hj=>by rw [heap_cell hh];exact one_cells hv1 j v hj) (by simp;omega) (by intro v hv;simp at hv;rcases hv with rfl | rfl<;>rfl)
 have hT:c2.take ((n+1)*2)=xs.take (k*2)++[.int .i64 p.1,.int .i64 p.2]++xs.drop (k*2):=by
  have:=shift_take xs ds (.int .i64 p.1) (.int .i64 p.2) (k*2) (n*2) hlen (by omega) (by omega);rw [<-hds] at this;rw [hc2,hc1,hdrop,show (k+1)*2=k*2+2 from by omega,show (n-k)*2=n*2-k*2 from by omega,show (n+1)*2=n*2+2 from by omega];exact this
 have hl2:c2.length=c*2:=by rw [hc2];simp [hl1];omega
 have END:=aq (show ∀ W:World,W.heap=W1.heap->Below base w W->InsPost base ps k p w (.returned (.slice (some ⟨g,0,none⟩) (n+1) c)) (W.setRow g c2.toArray) from fun W hh hb=>⟨_,rfl,⟨by rw [FIN.out];simp [hlen,<-hnn];omega,Or.inr ⟨g,c,c2.toArray,by rw [<-hnn],ho1,setRow_heap W g c1.toArray _ _ _ (by rw [hh];exact hg1),by rw [<-hnn];omega,ho4,by simpa using hl2,by rw [<-hnn,FIN.out];exact hT⟩⟩,below_setRow hb ho1 _⟩);have HB1:=aq hB1;rw [<-hW1] at hcp1
 have hw1:IntKind.i64.wrap ((k:Int)+1)=(k:Int)+1:=by rw [IntKind.wrap_i64];omega
 have hw2:IntKind.i64.wrap ((n:Int)+1)=(n:Int)+1:=by rw [IntKind.wrap_i64];omega
 have hz2:¬ ((k:Int)=(n:Int)):=by omega
 have hb1:(0:Int)<=(k:Int)+1:=by omega
 have hin:k<=n:=by omega
 have htn:((k:Int)+1).toNat=k+1:=by omega
 have htm:((n:Int)+1).toNat=n+1:=by omega
 have hb2:¬ (c=k+1):=by omega
 have hb3:(k:Int)<=(n:Int)+1:=by omega
 have hb4:¬ (c=k):=by omega
 have mixed:Tryz.prog.follows .mixedOrders=true:=by kernel_rfl
 subst hW1;clear hnn hown hV ho1 ho2 ho3 ho4 ho5 ho6 hds hdl hsz hsa hsb hfa hfe hdrop hxc hszc hc1 hl1 hg1 hv1 hB1 hc2 hT hl2 FIN hone hlen hxs
 go_enter Tryz.func121,Tryz.ntmps121
 go_wp2_with (simp only [hov])
 go_region_law_o (refine step_copy_runI rfl _ _ 34 34 rfl _ _ (by simp [Act.eval,Act.put]) (by simp [Act.eval,Act.put]) (hcp1 _ _ _) ?_)
 go_wp2_with (at_builtin;refine wpList_copy_runI _ rfl _ _ 34 34 rfl _ _ rfl rfl (hcp2 _ rfl _ _) ?_)
 all_goals
  go_ret;exact END.out _ rfl HB1.out
theorem nIns_grow (base g c k:Nat) (ps:List (Int×Int)) (p:Int×Int) (vb:Nat) (w:World) (hown:w.ownsRow base 36 2 (.slice (some ⟨g,0,none⟩) ps.length c) ps.length (pcells ps)) (hV:w.heap[vb]?=some (.cells #[.int .i64 p.1,.int .i64 p.2] 36 (0,0))) (hb:base<=w.heap.size) (hn:ps.length<=65536) (hk:k < ps.length) (hroom:c < ps.length+1) :
  Calls Tryz.prog 121 #[.slice (some ⟨g,0,none⟩) ps.length c,.int .i64 (k:Int),.slice (some ⟨vb,0,none⟩) 1 1] w (InsPost base ps k p w):=by
 obtain⟨cur,ho1,ho2,ho3,ho4,ho5,ho6⟩:∃ cur,base<=g/\w.heap[g]?=some (.cells cur 36 (0,0))/\ps.length<=c/\c<=maxLen/\cur.size=c*2/\cur.toList.take (ps.length*2)=pcells ps:=by
  rcases hown.2 with⟨h,_⟩ | ⟨g',c',cur,hv,h1,h2,h3,h4,h5,h6⟩
  ·cases h
  ·injection hv with e1 e2 e3
   injection e1 with e1
   injection e1 with e1
   subst e1 e3;exact⟨cur,h1,h2,h3,h4,h5,h6⟩
 have hcn:c=ps.length:=by omega
 subst hcn;have hlen:=pcells_length ps;have hone:=pcells_one ps;have FIN:=aq (among_cells ps k p);obtain⟨n,hnn⟩:∃ n,n=ps.length:=⟨_,rfl⟩;obtain⟨xs,hxs⟩:∃ xs,xs=pcells ps:=⟨_,rfl⟩;rw [<-hnn] at hn hk ho5 ho6 hlen ⊢;rw [<-hxs] at hlen hone ho6 FIN
 have hcx:cur.toList=xs:=by rw [<-ho6,List.take_of_length_le (by rw [Array.length_toList,ho5];omega)]
 obtain⟨i0,hi0,hz0,hz1,hz2⟩:=elemP.info
 have hsz:(Tryz.prog.info? 36).map (·.size)=some 2:=by kernel_rfl
 have hgw:g < w.heap.size:=(Array.getElem?_eq_some_iff.1 ho2).1;have hvw:vb < w.heap.size:=(Array.getElem?_eq_some_iff.1 hV).1
 have hcell:∀ j,w.cell? ⟨g,j,none⟩=xs[j]?:=fun j=>by rw [row_cell ho2,<-Array.getElem?_toList,hcx]
 have hold:(Builtin.firstCells i0.size k (.slice (some ⟨g,0,none⟩) k n)).run Tryz.prog w.drew=.ok (xs.take (k*2)).toArray w.drew:=by
  rw [hz1]
  exact run_firstCells_some w.drew 2 k ⟨g,0,none⟩ k n (xs.take (k*2)) (by rw [List.length_take];omega) (fun j v hj=>by
   rw [add_at,Nat.zero_add]
   show w.cell? _=_
   rw [hcell];rw [List.getElem?_take] at hj
   split at hj
   ·exact hj
   ·cases hj)
 have hkk:(n:Int)+1-(k:Int)=((n+1-k:Nat):Int):=by omega
 have hik:k+(n+1-k)=n+1:=by omega
 obtain⟨G,hG⟩:∃ G,G=grownCap w (n+1) n 36:=⟨_,rfl⟩;obtain⟨ROW,hROW⟩:∃ ROW:Array Value,ROW=(xs.take (k*2)).toArray++Builtin.zeroCells (Value.agg #[.int .i64 0,.int .i64 0]).cells (n+1-k)++Builtin.zeroCells (Value.agg #[.int .i64 0,.int .i64 0]).cells (G-(n+1)):=⟨_,rfl⟩
 have hGn:n+1<=G:=by rw [hG];exact grownCap_ge w _ _ _
 have hGm:G<=maxLen:=by rw [hG];exact grownCap_le_maxLen w (n+1) n _ (by unfold maxLen;omega)
 have hz2c:(Value.agg #[.int .i64 0,.int .i64 0]).cells.size=2:=rfl
 have hRs:ROW.size=G*2:=by
  rw [hROW]
  simp only [Builtin.zeroCells,Array.size_append,Array.size_map,Array.size_range,hz2c,List.size_toArray,List.length_take,hlen]
  omega
 have hRt:ROW.toList.take (k*2)=xs.take (k*2):=by
  have hl:(xs.take (k*2)).length=k*2:=by rw [List.length_take];omega
  rw [hROW]
  simp only [Array.toList_append,List.append_assoc]
  exact List.take_left' hl
 have hrz:∀ ty,(Builtin.append_ #[34,3] ty #[.slice (some ⟨g,0,none⟩) k n,.int .i64 ((n:Int)+1-(k:Int))]).run Tryz.prog w =
   .ok (.slice (some ⟨w.heap.size,0,none⟩) (n+1) G) (w.drew.alloc (.cells ROW 36)):=fun ty=>by
  have h:=Lib.run_append_grow_zeros w 34 3 ty 36 i0 _ .i64 .i64 elemP.und (by kernel_rfl) hi0 hz0 (some ⟨g,0,none⟩) k n (xs.take (k*2)) hold (n+1-k) (by omega) (by omega) (by omega) (by omega) (by rw [hz2];omega) (by rw [hz2,hik];exact growslice_fits (by omega) (by omega));rw [hik,<-hG,<-hROW] at h;rw [hkk];exact h
 obtain⟨W1,hW1⟩:∃ W1,W1=w.drew.alloc (.cells ROW 36):=⟨_,rfl⟩
 have hgN:W1.heap[w.heap.size]?=some (.cells ROW 36 (0,0)):=by rw [hW1];show (w.heap.push _)[w.heap.size]?=_;exact Array.getElem?_push_size
 have hvN:W1.heap[vb]?=some (.cells #[.int .i64 p.1,.int .i64 p.2] 36 (0,0)):=by rw [hW1];show (w.heap.push _)[vb]?=_;rw [Array.getElem?_push_lt hvw,<-Array.getElem?_eq_getElem hvw];exact hV
 have hoN:W1.heap[g]?=some (.cells cur 36 (0,0)):=by rw [hW1];show (w.heap.push _)[g]?=_;rw [Array.getElem?_push_lt hgw,<-Array.getElem?_eq_getElem hgw];exact ho2
 have hBN:Below base w W1:=by rw [hW1];exact ((Below.refl base w).drew).alloc (by show base<=w.heap.size;exact hb) _
 obtain⟨c1,hc1⟩:∃ c1,c1=ROW.toList.take (k*2)++[.int .i64 p.1,.int .i64 p.2]++ROW.toList.drop (k*2+2):=⟨_,rfl⟩
 have hRl:ROW.toList.length=G*2:=by rw [Array.length_toList];exact hRs
 have hl1:c1.length=G*2:=by
  rw [hc1]
  simp only [List.length_append,List.length_take,List.length_drop,List.length_cons,List.length_nil,hRl]
  omega
 have hcpA:∀ (W:World),W.heap=W1.heap->∀ ty dc,(Builtin.copy_ #[34,34] ty #[.slice (some ⟨w.heap.size,k*2,none⟩) (n+1-k) dc,.slice (some ⟨vb,0,none⟩) 1 1]).run Tryz.prog W=.ok (goInt 1) (W.setRow w.heap.size c1.toArray):=fun W hh ty dc=>by
  rw [hc1]
  exact run_copy_rowN W _ _ ty 36 w.heap.size (k*2) (n+1-k) dc ⟨vb,0,none⟩ 1 1 ROW 36 [.int .i64 p.1,.int .i64 p.2] 2 1 elemP.und hsz (by rw [hh];exact hgN) (by simp only [Nat.min_def];split<;>omega) rfl (fun j v hj=>by rw [heap_cell hh];exact one_cells hvN j v hj) (by simp only [List.length_cons,List.length_nil];omega) (by intro v hv;simp at hv;rcases hv with rfl | rfl<;>rfl)
 have hdrop:(xs.drop (k*2)).length=(n-k)*2:=by rw [List.length_drop,hlen];omega
 obtain⟨c2,hc2⟩:∃ c2,c2=c1.take ((k+1)*2)++xs.drop (k*2)++c1.drop ((k+1)*2+(xs.drop (k*2)).length):=⟨_,rfl⟩
 have hl2:c2.length=G*2:=by
  rw [hc2]
  simp only [List.length_append,List.length_take,List.length_drop,hl1,hlen]
  omega
 have hne:g≠w.heap.size:=by omega
 have hcpB:∀ (W:World),W.heap=(W1.setRow w.heap.size c1.toArray).heap->∀ ty dc sc,(Builtin.copy_ #[34,34] ty #[.slice (some ⟨w.heap.size,(k+1)*2,none⟩) (n-k) dc,.slice (some ⟨g,k*2,none⟩) (n-k) sc]).run Tryz.prog W=.ok (goInt ((n-k:Nat):Int)) (W.setRow w.heap.size c2.toArray):=fun W hh ty dc sc=>by
  rw [hc2]
  exact run_copy_rowN W _ _ ty 36 w.heap.size ((k+1)*2) (n-k) dc ⟨g,k*2,none⟩ (n-k) sc c1.toArray 36 (xs.drop (k*2)) 2 (n-k) elemP.und hsz (by rw [hh];exact setRow_heap W1 w.heap.size ROW _ _ _ hgN) (Nat.min_self _) hdrop (fun j v hj=>by
   rw [add_at,heap_cell hh];rw [List.getElem?_drop] at hj
   have:(W1.setRow w.heap.size c1.toArray).heap[g]?=some (.cells cur 36 (0,0)):=by rw [setRow_other W1 w.heap.size g _ hne];exact hoN
   rw [row_cell this,<-Array.getElem?_toList,hcx]
   exact hj) (by simp only [List.size_toArray];omega) (fun v hv=>hone v (List.mem_of_mem_drop hv))
 have hT:c2.take ((n+1)*2)=xs.take (k*2)++[.int .i64 p.1,.int .i64 p.2]++xs.drop (k*2):=by
  have l0:(xs.take (k*2)).length=k*2:=by rw [List.length_take];omega
  have e1:c1.take ((k+1)*2)=xs.take (k*2)++[.int .i64 p.1,.int .i64 p.2]:=by
   rw [hc1,hRt];exact List.take_left' (by simp only [List.length_append,l0,List.length_cons,List.length_nil];omega)
  rw [hc2,e1];exact List.take_left' (by simp only [List.length_append,l0,hdrop,List.length_cons,List.length_nil];omega)
 have END:=aq (show ∀ W:World,W.heap=(W1.setRow w.heap.size c1.toArray).heap->Below base w W->InsPost base ps k p w (.returned (.slice (some ⟨w.heap.size,0,none⟩) (n+1) G)) (W.setRow w.heap.size c2.toArray) from fun W hh hb9=>⟨_,rfl,⟨by rw [FIN.out];simp [hlen,<-hnn];omega,Or.inr ⟨w.heap.size,G,c2.toArray,by rw [<-hnn],hb,setRow_heap W w.heap.size c1.toArray _ _ _ (by rw [hh];exact setRow_heap W1 w.heap.size ROW _ _ _ hgN),by rw [<-hnn];omega,hGm,by simpa using hl2,by rw [<-hnn,FIN.out];exact hT⟩⟩,below_setRow hb9 hb _⟩);have HBN:=aq (show Below base w (W1.setRow w.heap.size c1.toArray) from below_setRow hBN hb _);rw [<-hW1] at hrz
 have hG63:G<=9223372036854775807:=by unfold maxLen at hGm;omega
 have hw1:IntKind.i64.wrap ((k:Int)+1)=(k:Int)+1:=by rw [IntKind.wrap_i64];omega
 have hw2:IntKind.i64.wrap ((n:Int)+1)=(n:Int)+1:=by rw [IntKind.wrap_i64];omega
 have hz22:¬ ((k:Int)=(n:Int)):=by omega
 have hz3:(n:Int) < (n:Int)+1:=by omega
 have hb1:(0:Int)<=(k:Int)+1:=by omega
 have hin:k<=n:=by omega
 have htn:((k:Int)+1).toNat=k+1:=by omega
 have hb3:(k:Int)<=(n:Int):=by omega
 have hGi:¬ (G=k):=by omega
 have hGim:¬ (G=k+1):=by omega
 have hci:¬ (n=k):=by omega
 have mixed:Tryz.prog.follows .mixedOrders=true:=by kernel_rfl
 subst hW1;have hE1:((w.alloc (.cells ROW 36)).drew).heap=(w.drew.alloc (.cells ROW 36)).heap:=rfl;have hF1:(((w.alloc (.cells ROW 36)).drew.setRow w.heap.size c1.toArray).drew).heap=((w.drew.alloc (.cells ROW 36)).setRow w.heap.size c1.toArray).heap:=rfl;clear hkk hik hold hROW hG hRl hRs hRt hnn hown hV ho1 ho2 ho4 ho5 ho6 hsz hdrop hc1 hl1 hc2 hT hl2 FIN hone hlen hxs hcell hcx hi0 hz0 hz1 hz2 hz2c hgN hvN hoN hBN hGm
 go_enter Tryz.func121,Tryz.ntmps121
 go_wp2_with (first
  | (at_builtin;refine Lib.wpList_append_run _ rfl _ _ _ _ rfl _ _ rfl rfl _ _ (hrz _) ?_)
  | (at_builtin;refine wpList_copy_runI _ rfl _ _ 34 34 rfl _ _ rfl rfl (hcpA _ hE1 _ _) ?_))
 go_region_law_o (refine step_copy_runI rfl _ _ 34 34 rfl (.slice (some ⟨w.heap.size,(k+1)*2,none⟩) (n-k) (G-(k+1))) (.slice (some ⟨g,k*2,none⟩) (n-k) (n-k)) (by simp [Act.eval,Act.put]) (by simp [Act.eval,Act.put]) (hcpB _ hF1 3 (G-(k+1)) (n-k)) ?_)
 go_wp2
 all_goals
  go_ret;exact END.out _ hF1 HBN.out.drew
theorem nInsert (base k:Nat) (v:Value) (ps:List (Int×Int)) (p:Int×Int) (vb:Nat) (w:World) (hown:w.ownsRow base 36 2 v ps.length (pcells ps)) (hV:w.heap[vb]?=some (.cells #[.int .i64 p.1,.int .i64 p.2] 36 (0,0))) (hvb:∀ g,v.ownBlock=some g->vb≠g) (hb:base<=w.heap.size) (hn:ps.length<=65536) (hk:k<=ps.length) :
  Calls Tryz.prog 121 #[v,.int .i64 (k:Int),.slice (some ⟨vb,0,none⟩) 1 1] w (InsPost base ps k p w):=by
 rcases hown.2 with⟨rfl,h0⟩ | ⟨g,c,cur,rfl,h1,h2,h3,h4,h5,h6⟩
 ·obtain rfl:=List.eq_nil_of_length_eq_zero h0
  obtain rfl:k=0:=by simpa using hk
  exact nIns_nil base p vb w hV hb
 ·rcases Nat.lt_or_ge k ps.length with hlt | hge
  ·rcases Nat.lt_or_ge c (ps.length+1) with hc | hc
   ·exact nIns_grow base g c k ps p vb w hown hV hb hn hlt hc
   ·exact nIns_shift base g c k ps p vb w hown hV (hvb g rfl) hb hn hlt hc
  ·obtain rfl:k=ps.length:=by omega
   exact nIns_end base g c ps p vb w hown hV hb hn h3
end Go.Proofs.YthaaapfnheocjaaGreatDoor

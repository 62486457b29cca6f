/- Package gap's returns, a cost and a refill. -/
import Derived.Test.YtpeckljoannolaaGreatDoorM04Oc
import Derived.Test.YtpeckljoannolaaGreatDoorP08Oc
import Derived.Shelf.Spec.SlicesInsert
import Derived.Lib.AppendZerosOnto
import Derived.Laws.CopyOwn
import Derived.Test.YtpeckljoannolaaGreatDoorTkOc
import Derived.Test.YtpeckljoannolaaGreatDoorGapCOc
import Derived.Test.YtpeckljoannolaaGreatDoorGapDOc
import Derived.Test.YtpeckljoannolaaGreatDoorP8bOc
import Derived.Test.YtpeckljoannolaaGreatDoorS5bOc
import Derived.Test.YtpeckljoannolaaGreatDoorP09Oc
set_option linter.unusedVariables false
set_option linter.unusedSimpArgs false
set_option maxHeartbeats 4000000
set_option maxRecDepth 100000
namespace Go.Proofs.YtpeckljoannolaaGreatDoor
open Go.RowKit Go.Lib Go.Shelf
theorem run_copy_rowN {P:Program} (w:World) (dT sT ty elem:TypeId) (g o dLen dCap:Nat) (a:Addr) (sLen sCap:Nat) (cur:Array Value) (t:TypeId) (cs:List Value) (size n:Nat)
  (hu:P.underlying dT=some (.slice elem)) (hs:(P.info? elem).map (·.size)=some size)
  (hg:w.heap[g]?=some (.cells cur t (0,0))) (hm:Nat.min sLen dLen=n) (hn:cs.length=n*size)
  (hsrc:∀ j v,cs[j]?=some v->w.cell? (a.add j)=some v) (hfit:o+cs.length<=cur.size) (h1:∀ v∈cs,v.oneCell'=true) :
  (Builtin.copy_ #[dT,sT] ty #[.slice (some ⟨g,o,none⟩) dLen dCap,.slice (some a) sLen sCap]).run P w =
   .ok (goInt n) (w.setRow g (cur.toList.take o++cs++cur.toList.drop (o+cs.length)).toArray):=by
 have hl:=run_loadCells_list (P:=P) w a cs hsrc;have hst:=run_storeCells_at P g o t cs 0 cur w hg (by simpa using hfit) h1
 cases hq:P.info? elem with
 | none=>simp [hq] at hs
 | some i =>
  have hi:i.size=size:=by simpa [hq] using hs
  simp [Builtin.copy_,run_underlying hu,Builtin.lenOf,Builtin.firstCells,sizeOf,typeInfo,hq,hi,hm,<-hn,hl,hst]
theorem row_cell {w:World} {g:Nat} {cur:Array Value} {t:TypeId} {fz:Nat×Nat} (h:w.heap[g]?=some (.cells cur t fz)) (j:Nat):w.cell? ⟨g,j,none⟩=cur[j]?:=by
 simp [World.cell?,h]
theorem heap_cell {A B:World} (h:A.heap=B.heap) (x:Addr):A.cell? x=B.cell? x:=by
 unfold World.cell?;rw [h]
abbrev InsPost (base:Nat) (ps:List (Int×Int)) (k:Nat) (p:Int×Int) (w:World) (e:Ending) (w':World):Prop :=
 ∃ v',e=.returned v'/\w'.ownsRow base 93 2 v' (ps.length+1) (pcells (Ly.among ps k p))/\Below base w w'
theorem one_cells {w:World} {vb:Nat} {p:Int×Int} {t:TypeId} (h:w.heap[vb]?=some (.cells #[.int .i64 p.1,.int .i64 p.2] t (0,0))):∀ (j:Nat) u,(pcells [p])[j]?=some u->w.cell? ((⟨vb,0,none⟩:Addr).add j)=some u:=by
 intro j u hj;rw [add_at,Nat.zero_add,row_cell h]
 simpa [pcells] using hj
theorem among_end (ps:List (Int×Int)) (p:Int×Int):Ly.among ps ps.length p=ps++[p]:=by unfold Ly.among;simp
theorem ins_append (base:Nat) (v:Value) (ps:List (Int×Int)) (p:Int×Int) (vb:Nat) (w:World) (hown:w.ownsRow base 93 2 v ps.length (pcells ps)) (hV:w.heap[vb]?=some (.cells #[.int .i64 p.1,.int .i64 p.2] 93 (0,0))) (hb:base<=w.heap.size) (hn:ps.length<=65536) (ty:TypeId) :
  ∃ v' w',(Builtin.append_ #[178,178] ty #[v,.slice (some ⟨vb,0,none⟩) 1 1]).run Tryz.prog w=.ok v' w'/\w'.ownsRow base 93 2 v' (ps.length+1) (pcells (Ly.among ps ps.length p))/\Below base w w':=by
 obtain⟨i0,hi0,hz0,hz1,hz2⟩:=elemP.info;obtain⟨v',w',hrun,r1,r2,_⟩:=run_append_own (P:=Tryz.prog) (w:=w) base 178 ty 93 i0 _ 2 16 elemP.und hi0 hz0 hz1 hz2 elemP.zero elemP.pos v ps.length (pcells ps) hown ⟨vb,0,none⟩ 1 1 (pcells [p]) rfl (one_cells hV) (pcells_one _) (by unfold maxLen;omega) (by omega) hb;refine⟨v',w',hrun,?_,(Below.refl _ _).grown r2 hb (fun g hg=>(World.ownsRow.lt hown g hg).1)⟩;rw [among_end,pcells_append];exact r1
theorem nIns_nil (base:Nat) (p:Int×Int) (vb:Nat) (w:World) (hV:w.heap[vb]?=some (.cells #[.int .i64 p.1,.int .i64 p.2] 93 (0,0))) (hb:base<=w.heap.size) :
  Calls Tryz.prog 210 #[.slice none 0 0,.int .i64 0,.slice (some ⟨vb,0,none⟩) 1 1] w (InsPost base [] 0 p w):=by
 have H:=aq (fun ty=>ins_append base (.slice none 0 0) [] p vb w (World.ownsRow_nil _ _ _ _) hV hb (Nat.zero_le _) ty);clear hV;obtain⟨v',w',hr,h1,h2⟩:=H.out 178;have P1:=aq (And.intro h1 h2);clear H h1 h2
 go_enter Tryz.func210,Tryz.ntmps210
 go_wp2_with (at_builtin;refine Lib.wpList_append_run _ rfl _ _ _ _ rfl _ _ rfl rfl _ _ hr ?_)
 go_ret;exact⟨_,rfl,P1.out.1,P1.out.2⟩
theorem nIns_end (base g c:Nat) (ps:List (Int×Int)) (p:Int×Int) (vb:Nat) (w:World) (hown:w.ownsRow base 93 2 (.slice (some ⟨g,0,none⟩) ps.length c) ps.length (pcells ps)) (hV:w.heap[vb]?=some (.cells #[.int .i64 p.1,.int .i64 p.2] 93 (0,0))) (hb:base<=w.heap.size) (hn:ps.length<=65536) (hnc:ps.length<=c) :
  Calls Tryz.prog 210 #[.slice (some ⟨g,0,none⟩) ps.length c,.int .i64 (ps.length:Int),.slice (some ⟨vb,0,none⟩) 1 1] w (InsPost base ps ps.length p w):=by
 have H:=aq (fun ty=>ins_append base _ ps p vb w hown hV hb hn ty);clear hV hown;obtain⟨v',w',hr,h1,h2⟩:=H.out 178;have P1:=aq (And.intro h1 h2);clear H h1 h2;obtain⟨n,hnn⟩:∃ n,n=ps.length:=⟨_,rfl⟩;rw [<-hnn] at hr hn hnc ⊢;have HN:=aq hnn;clear hnn
 go_enter Tryz.func210,Tryz.ntmps210
 go_wp2_with (at_builtin;refine Lib.wpList_append_run _ rfl _ _ _ _ rfl _ _ rfl rfl _ _ hr ?_)
 all_goals
  go_ret;exact⟨_,rfl,by rw [HN.out];exact P1.out.1,P1.out.2⟩
theorem shift_take (xs ds:List Value) (x y:Value) (k m:Nat) (hx:xs.length=m) (hk:k<=m) (hd:2<=ds.length) :
  let cur:=xs++ds
  let c1:=cur.take (k+2)++xs.drop k++cur.drop (k+2+(m-k))
  (c1.take k++[x,y]++c1.drop (k+2)).take (m+2)=xs.take k++[x,y]++xs.drop k:=by
 intro cur c1
 have hc:cur.length=m+ds.length:=by simp [cur,hx]
 have l1:(cur.take (k+2)).length=k+2:=by rw [List.length_take];omega
 have e1:c1.take k=xs.take k:=by
  have:c1=cur.take (k+2)++(xs.drop k++cur.drop (k+2+(m-k))):=by simp [c1]
  rw [this,List.take_append_of_le_length (by omega),List.take_take,Nat.min_eq_left (by omega)];exact List.take_append_of_le_length (by omega)
 have e2:c1.drop (k+2)=xs.drop k++cur.drop (k+2+(m-k)):=by
  have:c1=cur.take (k+2)++(xs.drop k++cur.drop (k+2+(m-k))):=by simp [c1]
  rw [this,List.drop_left' l1]
 rw [e1,e2]
 have l2:(xs.take k++[x,y]++xs.drop k).length=m+2:=by simp [hx];omega
 rw [<-List.append_assoc,List.take_left' l2]
theorem among_cells (ps:List (Int×Int)) (k:Nat) (p:Int×Int):pcells (Ly.among ps k p)=(pcells ps).take (k*2)++[.int .i64 p.1,.int .i64 p.2]++(pcells ps).drop (k*2):=by
 have e:pcells (p::ps.drop k)=[.int .i64 p.1,.int .i64 p.2]++pcells (ps.drop k):=rfl;unfold Ly.among;rw [pcells_append,pcells_take,<-pcells_drop,e,List.append_assoc]
theorem nIns_shift (base g c k:Nat) (ps:List (Int×Int)) (p:Int×Int) (vb:Nat) (w:World) (hown:w.ownsRow base 93 2 (.slice (some ⟨g,0,none⟩) ps.length c) ps.length (pcells ps)) (hV:w.heap[vb]?=some (.cells #[.int .i64 p.1,.int .i64 p.2] 93 (0,0))) (hvb:vb≠g) (hb:base<=w.heap.size) (hn:ps.length<=65536) (hk:k < ps.length) (hroom:ps.length+1<=c) :
  Calls Tryz.prog 210 #[.slice (some ⟨g,0,none⟩) ps.length c,.int .i64 (k:Int),.slice (some ⟨vb,0,none⟩) 1 1] w (InsPost base ps k p w):=by
 obtain⟨cur,ho1,ho2,ho3,ho4,ho5,ho6⟩:∃ cur,base<=g/\w.heap[g]?=some (.cells cur 93 (0,0))/\ps.length<=c/\c<=maxLen/\cur.size=c*2/\cur.toList.take (ps.length*2)=pcells ps:=by
  rcases hown.2 with⟨h,_⟩ | ⟨g',c',cur,hv,h1,h2,h3,h4,h5,h6⟩
  ·cases h
  ·injection hv with e1 e2 e3
   injection e1 with e1
   injection e1 with e1
   subst e1 e3;exact⟨cur,h1,h2,h3,h4,h5,h6⟩
 have hc63:c<=9223372036854775807:=by unfold maxLen at ho4;omega
 have hlen:=pcells_length ps;have hone:=pcells_one ps;have FIN:=aq (among_cells ps k p);obtain⟨n,hnn⟩:∃ n,n=ps.length:=⟨_,rfl⟩;obtain⟨xs,hxs⟩:∃ xs,xs=pcells ps:=⟨_,rfl⟩;rw [<-hnn] at hn hk hroom ho3 ho6 hlen ⊢;rw [<-hxs] at hlen hone ho6 FIN;obtain⟨ds,hds⟩:∃ ds,cur.toList=xs++ds:=⟨cur.toList.drop (n*2),by rw [<-ho6];exact (List.take_append_drop _ _).symm⟩
 have hdl:xs.length+ds.length=c*2:=by rw [<-ho5,<-Array.length_toList,hds,List.length_append]
 have hsz:(Tryz.prog.info? 93).map (·.size)=some 2:=by kernel_rfl
 have hsa:w.shape? vb=some (93,2):=by simp [World.shape?,hV]
 have hsb:w.shape? g=some (93,c*2):=by simp [World.shape?,ho2,ho5]
 have hfa:w.frozen? ⟨vb,0,none⟩=false:=by simp [World.frozen?,hV]
 have hfe:w.frozen? ⟨vb,2,none⟩=false:=by simp [World.frozen?,hV]
 have hov:∀ lb cb,(callFunc 234 #[.slice (some ⟨vb,0,none⟩) 1 1,.slice (some ⟨g,(k+1)*2,none⟩) lb cb]).run Tryz.prog w=.ok (.value (.bool false)) w:=fun lb cb=>by
  rw [run_callFunc_extern Tryz.func234 (by kernel_rfl) (by kernel_rfl) (by kernel_rfl) (e:=Extern.SlicesOverlaps.overlaps #[178,178] #[4]) (by kernel_rfl),
   Lib.run_overlaps_apart w 178 4 93 elemP.und 2 (fun w=>by kernel_rfl) ⟨vb,0,none⟩ ⟨g,(k+1)*2,none⟩ 1 1 lb cb hvb _ _ _ _ hsa hsb (by omega) hfa hfe]
  rfl
 have hdrop:(xs.drop (k*2)).length=(n-k)*2:=by rw [List.length_drop,hlen];omega
 have hxc:∀ j v,(xs.drop (k*2))[j]?=some v->w.cell? ⟨g,k*2+j,none⟩=some v:=fun j v hj=>by
  rw [List.getElem?_drop] at hj;have hl:k*2+j < xs.length:=(List.getElem?_eq_some_iff.1 hj).1;rw [row_cell ho2,<-Array.getElem?_toList,hds,List.getElem?_append_left hl];exact hj
 have hszc:cur.toList.length=c*2:=by rw [Array.length_toList];exact ho5
 obtain⟨c1,hc1⟩:∃ c1,c1=cur.toList.take ((k+1)*2)++xs.drop (k*2)++cur.toList.drop ((k+1)*2+(xs.drop (k*2)).length):=⟨_,rfl⟩
 have hl1:c1.length=c*2:=by
  rw [hc1]
  simp only [List.length_append,List.length_take,List.length_drop,hlen,hszc]
  omega
 have hcp1:∀ ty dc sc,(Builtin.copy_ #[178,178] ty #[.slice (some ⟨g,(k+1)*2,none⟩) (n-k) dc,.slice (some ⟨g,k*2,none⟩) (n+1-k) sc]).run Tryz.prog w.drew=.ok (goInt ((n-k:Nat):Int)) (w.drew.setRow g c1.toArray):=fun ty dc sc=>by
  rw [hc1]
  exact run_copy_rowN w.drew _ _ ty 93 g ((k+1)*2) (n-k) dc ⟨g,k*2,none⟩ (n+1-k) sc cur 93 (xs.drop (k*2)) 2 (n-k) elemP.und hsz ho2 (by simp only [Nat.min_def];split<;>omega) hdrop (fun j v hj=>by rw [add_at];exact hxc j v hj) (by omega) (fun v hv=>hone v (List.mem_of_mem_drop hv))
 obtain⟨W1,hW1⟩:∃ W1,W1=w.drew.setRow g c1.toArray:=⟨_,rfl⟩
 have hg1:W1.heap[g]?=some (.cells c1.toArray 93 (0,0)):=by rw [hW1];exact setRow_heap w.drew g cur _ _ _ ho2
 have hv1:W1.heap[vb]?=some (.cells #[.int .i64 p.1,.int .i64 p.2] 93 (0,0)):=by rw [hW1,setRow_other w.drew g vb _ hvb];exact hV
 have hB1:Below base w W1:=by rw [hW1];exact below_setRow (Below.refl _ _).drew ho1 _
 obtain⟨c2,hc2⟩:∃ c2,c2=c1.take (k*2)++[.int .i64 p.1,.int .i64 p.2]++c1.drop (k*2+2):=⟨_,rfl⟩
 have hcp2:∀ (W:World),W.heap=W1.heap->∀ ty dc,(Builtin.copy_ #[178,178] ty #[.slice (some ⟨g,k*2,none⟩) (n+1-k) dc,.slice (some ⟨vb,0,none⟩) 1 1]).run Tryz.prog W=.ok (goInt 1) (W.setRow g c2.toArray):=fun W hh ty dc=>by
  rw [hc2]
  exact run_copy_rowN W _ _ ty 93 g (k*2) (n+1-k) dc ⟨vb,0,none⟩ 1 1 c1.toArray 93 [.int .i64 p.1,.int .i64 p.2] 2 1 elemP.und hsz (by rw [hh];exact hg1) (by simp only [Nat.min_def];split<;>omega) rfl (fun j v hj=>by rw [heap_cell hh];exact one_cells hv1 j v hj) (by simp;omega) (by intro v hv;simp at hv;rcases hv with rfl | rfl<;>rfl)
 have hT:c2.take ((n+1)*2)=xs.take (k*2)++[.int .i64 p.1,.int .i64 p.2]++xs.drop (k*2):=by
  have:=shift_take xs ds (.int .i64 p.1) (.int .i64 p.2) (k*2) (n*2) hlen (by omega) (by omega);rw [<-hds] at this;rw [hc2,hc1,hdrop,show (k+1)*2=k*2+2 from by omega,show (n-k)*2=n*2-k*2 from by omega,show (n+1)*2=n*2+2 from by omega];exact this
 have hl2:c2.length=c*2:=by rw [hc2];simp [hl1];omega
 have END:=aq (show ∀ W:World,W.heap=W1.heap->Below base w W->InsPost base ps k p w (.returned (.slice (some ⟨g,0,none⟩) (n+1) c)) (W.setRow g c2.toArray) from fun W hh hb=>⟨_,rfl,⟨by rw [FIN.out];simp [hlen,<-hnn];omega,Or.inr ⟨g,c,c2.toArray,by rw [<-hnn],ho1,setRow_heap W g c1.toArray _ _ _ (by rw [hh];exact hg1),by rw [<-hnn];omega,ho4,by simpa using hl2,by rw [<-hnn,FIN.out];exact hT⟩⟩,below_setRow hb ho1 _⟩);have HB1:=aq hB1;rw [<-hW1] at hcp1
 have hw1:IntKind.i64.wrap ((k:Int)+1)=(k:Int)+1:=by rw [IntKind.wrap_i64];omega
 have hw2:IntKind.i64.wrap ((n:Int)+1)=(n:Int)+1:=by rw [IntKind.wrap_i64];omega
 have hz2:¬ ((k:Int)=(n:Int)):=by omega
 have hb1:(0:Int)<=(k:Int)+1:=by omega
 have hin:k<=n:=by omega
 have htn:((k:Int)+1).toNat=k+1:=by omega
 have htm:((n:Int)+1).toNat=n+1:=by omega
 have hb2:¬ (c=k+1):=by omega
 have hb3:(k:Int)<=(n:Int)+1:=by omega
 have hb4:¬ (c=k):=by omega
 have mixed:Tryz.prog.follows .mixedOrders=true:=by kernel_rfl
 subst hW1;clear hnn hown hV ho1 ho2 ho3 ho4 ho5 ho6 hds hdl hsz hsa hsb hfa hfe hdrop hxc hszc hc1 hl1 hg1 hv1 hB1 hc2 hT hl2 FIN hone hlen hxs
 go_enter Tryz.func210,Tryz.ntmps210
 go_wp2_with (simp only [hov])
 go_region_law_o (refine step_copy_runI rfl _ _ 178 178 rfl _ _ (by simp [Act.eval,Act.put]) (by simp [Act.eval,Act.put]) (hcp1 _ _ _) ?_)
 go_wp2_with (at_builtin;refine wpList_copy_runI _ rfl _ _ 178 178 rfl _ _ rfl rfl (hcp2 _ rfl _ _) ?_)
 all_goals
  go_ret;exact END.out _ rfl HB1.out
theorem nIns_grow (base g c k:Nat) (ps:List (Int×Int)) (p:Int×Int) (vb:Nat) (w:World) (hown:w.ownsRow base 93 2 (.slice (some ⟨g,0,none⟩) ps.length c) ps.length (pcells ps)) (hV:w.heap[vb]?=some (.cells #[.int .i64 p.1,.int .i64 p.2] 93 (0,0))) (hb:base<=w.heap.size) (hn:ps.length<=65536) (hk:k < ps.length) (hroom:c < ps.length+1) :
  Calls Tryz.prog 210 #[.slice (some ⟨g,0,none⟩) ps.length c,.int .i64 (k:Int),.slice (some ⟨vb,0,none⟩) 1 1] w (InsPost base ps k p w):=by
 obtain⟨cur,ho1,ho2,ho3,ho4,ho5,ho6⟩:∃ cur,base<=g/\w.heap[g]?=some (.cells cur 93 (0,0))/\ps.length<=c/\c<=maxLen/\cur.size=c*2/\cur.toList.take (ps.length*2)=pcells ps:=by
  rcases hown.2 with⟨h,_⟩ | ⟨g',c',cur,hv,h1,h2,h3,h4,h5,h6⟩
  ·cases h
  ·injection hv with e1 e2 e3
   injection e1 with e1
   injection e1 with e1
   subst e1 e3;exact⟨cur,h1,h2,h3,h4,h5,h6⟩
 have hcn:c=ps.length:=by omega
 subst hcn;have hlen:=pcells_length ps;have hone:=pcells_one ps;have FIN:=aq (among_cells ps k p);obtain⟨n,hnn⟩:∃ n,n=ps.length:=⟨_,rfl⟩;obtain⟨xs,hxs⟩:∃ xs,xs=pcells ps:=⟨_,rfl⟩;rw [<-hnn] at hn hk ho5 ho6 hlen ⊢;rw [<-hxs] at hlen hone ho6 FIN
 have hcx:cur.toList=xs:=by rw [<-ho6,List.take_of_length_le (by rw [Array.length_toList,ho5];omega)]
 obtain⟨i0,hi0,hz0,hz1,hz2⟩:=elemP.info
 have hsz:(Tryz.prog.info? 93).map (·.size)=some 2:=by kernel_rfl
 have hgw:g < w.heap.size:=(Array.getElem?_eq_some_iff.1 ho2).1;have hvw:vb < w.heap.size:=(Array.getElem?_eq_some_iff.1 hV).1
 have hcell:∀ j,w.cell? ⟨g,j,none⟩=xs[j]?:=fun j=>by rw [row_cell ho2,<-Array.getElem?_toList,hcx]
 have hold:(Builtin.firstCells i0.size k (.slice (some ⟨g,0,none⟩) k n)).run Tryz.prog w.drew=.ok (xs.take (k*2)).toArray w.drew:=by
  rw [hz1]
  exact run_firstCells_some w.drew 2 k ⟨g,0,none⟩ k n (xs.take (k*2)) (by rw [List.length_take];omega) (fun j v hj=>by
   rw [add_at,Nat.zero_add]
   show w.cell? _=_
   rw [hcell];rw [List.getElem?_take] at hj
   split at hj
   ·exact hj
   ·cases hj)
 have hkk:(n:Int)+1-(k:Int)=((n+1-k:Nat):Int):=by omega
 have hik:k+(n+1-k)=n+1:=by omega
 obtain⟨G,hG⟩:∃ G,G=grownCap w (n+1) n 93:=⟨_,rfl⟩;obtain⟨ROW,hROW⟩:∃ ROW:Array Value,ROW=(xs.take (k*2)).toArray++Builtin.zeroCells (Value.agg #[.int .i64 0,.int .i64 0]).cells (n+1-k)++Builtin.zeroCells (Value.agg #[.int .i64 0,.int .i64 0]).cells (G-(n+1)):=⟨_,rfl⟩
 have hGn:n+1<=G:=by rw [hG];exact grownCap_ge w _ _ _
 have hGm:G<=maxLen:=by rw [hG];exact grownCap_le_maxLen w (n+1) n _ (by unfold maxLen;omega)
 have hz2c:(Value.agg #[.int .i64 0,.int .i64 0]).cells.size=2:=rfl
 have hRs:ROW.size=G*2:=by
  rw [hROW]
  simp only [Builtin.zeroCells,Array.size_append,Array.size_map,Array.size_range,hz2c,List.size_toArray,List.length_take,hlen]
  omega
 have hRt:ROW.toList.take (k*2)=xs.take (k*2):=by
  have hl:(xs.take (k*2)).length=k*2:=by rw [List.length_take];omega
  rw [hROW]
  simp only [Array.toList_append,List.append_assoc]
  exact List.take_left' hl
 have hrz:∀ ty,(Builtin.append_ #[178,3] ty #[.slice (some ⟨g,0,none⟩) k n,.int .i64 ((n:Int)+1-(k:Int))]).run Tryz.prog w =
   .ok (.slice (some ⟨w.heap.size,0,none⟩) (n+1) G) (w.drew.alloc (.cells ROW 93)):=fun ty=>by
  have h:=Lib.run_append_grow_zeros w 178 3 ty 93 i0 _ .i64 .i64 elemP.und (by kernel_rfl) hi0 hz0 (some ⟨g,0,none⟩) k n (xs.take (k*2)) hold (n+1-k) (by omega) (by omega) (by omega) (by omega) (by rw [hz2];omega) (by rw [hz2,hik];exact growslice_fits (by omega) (by omega));rw [hik,<-hG,<-hROW] at h;rw [hkk];exact h
 obtain⟨W1,hW1⟩:∃ W1,W1=w.drew.alloc (.cells ROW 93):=⟨_,rfl⟩
 have hgN:W1.heap[w.heap.size]?=some (.cells ROW 93 (0,0)):=by rw [hW1];show (w.heap.push _)[w.heap.size]?=_;exact Array.getElem?_push_size
 have hvN:W1.heap[vb]?=some (.cells #[.int .i64 p.1,.int .i64 p.2] 93 (0,0)):=by rw [hW1];show (w.heap.push _)[vb]?=_;rw [Array.getElem?_push_lt hvw,<-Array.getElem?_eq_getElem hvw];exact hV
 have hoN:W1.heap[g]?=some (.cells cur 93 (0,0)):=by rw [hW1];show (w.heap.push _)[g]?=_;rw [Array.getElem?_push_lt hgw,<-Array.getElem?_eq_getElem hgw];exact ho2
 have hBN:Below base w W1:=by rw [hW1];exact ((Below.refl base w).drew).alloc (by show base<=w.heap.size;exact hb) _
 obtain⟨c1,hc1⟩:∃ c1,c1=ROW.toList.take (k*2)++[.int .i64 p.1,.int .i64 p.2]++ROW.toList.drop (k*2+2):=⟨_,rfl⟩
 have hRl:ROW.toList.length=G*2:=by rw [Array.length_toList];exact hRs
 have hl1:c1.length=G*2:=by
  rw [hc1]
  simp only [List.length_append,List.length_take,List.length_drop,List.length_cons,List.length_nil,hRl]
  omega
 have hcpA:∀ (W:World),W.heap=W1.heap->∀ ty dc,(Builtin.copy_ #[178,178] ty #[.slice (some ⟨w.heap.size,k*2,none⟩) (n+1-k) dc,.slice (some ⟨vb,0,none⟩) 1 1]).run Tryz.prog W=.ok (goInt 1) (W.setRow w.heap.size c1.toArray):=fun W hh ty dc=>by
  rw [hc1]
  exact run_copy_rowN W _ _ ty 93 w.heap.size (k*2) (n+1-k) dc ⟨vb,0,none⟩ 1 1 ROW 93 [.int .i64 p.1,.int .i64 p.2] 2 1 elemP.und hsz (by rw [hh];exact hgN) (by simp only [Nat.min_def];split<;>omega) rfl (fun j v hj=>by rw [heap_cell hh];exact one_cells hvN j v hj) (by simp only [List.length_cons,List.length_nil];omega) (by intro v hv;simp at hv;rcases hv with rfl | rfl<;>rfl)
 have hdrop:(xs.drop (k*2)).length=(n-k)*2:=by rw [List.length_drop,hlen];omega
 obtain⟨c2,hc2⟩:∃ c2,c2=c1.take ((k+1)*2)++xs.drop (k*2)++c1.drop ((k+1)*2+(xs.drop (k*2)).length):=⟨_,rfl⟩
 have hl2:c2.length=G*2:=by
  rw [hc2]
  simp only [List.length_append,List.length_take,List.length_drop,hl1,hlen]
  omega
 have hne:g≠w.heap.size:=by omega
 have hcpB:∀ (W:World),W.heap=(W1.setRow w.heap.size c1.toArray).heap->∀ ty dc sc,(Builtin.copy_ #[178,178] ty #[.slice (some ⟨w.heap.size,(k+1)*2,none⟩) (n-k) dc,.slice (some ⟨g,k*2,none⟩) (n-k) sc]).run Tryz.prog W=.ok (goInt ((n-k:Nat):Int)) (W.setRow w.heap.size c2.toArray):=fun W hh ty dc sc=>by
  rw [hc2]
  exact run_copy_rowN W _ _ ty 93 w.heap.size ((k+1)*2) (n-k) dc ⟨g,k*2,none⟩ (n-k) sc c1.toArray 93 (xs.drop (k*2)) 2 (n-k) elemP.und hsz (by rw [hh];exact setRow_heap W1 w.heap.size ROW _ _ _ hgN) (Nat.min_self _) hdrop (fun j v hj=>by
   rw [add_at,heap_cell hh];rw [List.getElem?_drop] at hj
   have:(W1.setRow w.heap.size c1.toArray).heap[g]?=some (.cells cur 93 (0,0)):=by rw [setRow_other W1 w.heap.size g _ hne];exact hoN
   rw [row_cell this,<-Array.getElem?_toList,hcx]
   exact hj) (by simp only [List.size_toArray];omega) (fun v hv=>hone v (List.mem_of_mem_drop hv))
 have hT:c2.take ((n+1)*2)=xs.take (k*2)++[.int .i64 p.1,.int .i64 p.2]++xs.drop (k*2):=by
  have l0:(xs.take (k*2)).length=k*2:=by rw [List.length_take];omega
  have e1:c1.take ((k+1)*2)=xs.take (k*2)++[.int .i64 p.1,.int .i64 p.2]:=by
   rw [hc1,hRt];exact List.take_left' (by simp only [List.length_append,l0,List.length_cons,List.length_nil];omega)
  rw [hc2,e1];exact List.take_left' (by simp only [List.length_append,l0,hdrop,List.length_cons,List.length_nil];omega)
 have END:=aq (show ∀ W:World,W.heap=(W1.setRow w.heap.size c1.toArray).heap->Below base w W->InsPost base ps k p w (.returned (.slice (some ⟨w.heap.size,0,none⟩) (n+1) G)) (W.setRow w.heap.size c2.toArray) from fun W hh hb9=>⟨_,rfl,⟨by rw [FIN.out];simp [hlen,<-hnn];omega,Or.inr ⟨w.heap.size,G,c2.toArray,by rw [<-hnn],hb,setRow_heap W w.heap.size c1.toArray _ _ _ (by rw [hh];exact setRow_heap W1 w.heap.size ROW _ _ _ hgN),by rw [<-hnn];omega,hGm,by simpa using hl2,by rw [<-hnn,FIN.out];exact hT⟩⟩,below_setRow hb9 hb _⟩);have HBN:=aq (show Below base w (W1.setRow w.heap.size c1.toArray) from below_setRow hBN hb _);rw [<-hW1] at hrz
 have hG63:G<=9223372036854775807:=by unfold maxLen at hGm;omega
 have hw1:IntKind.i64.wrap ((k:Int)+1)=(k:Int)+1:=by rw [IntKind.wrap_i64];omega
 have hw2:IntKind.i64.wrap ((n:Int)+1)=(n:Int)+1:=by rw [IntKind.wrap_i64];omega
 have hz22:¬ ((k:Int)=(n:Int)):=by omega
 have hz3:(n:Int) < (n:Int)+1:=by omega
 have hb1:(0:Int)<=(k:Int)+1:=by omega
 have hin:k<=n:=by omega
 have htn:((k:Int)+1).toNat=k+1:=by omega
 have hb3:(k:Int)<=(n:Int):=by omega
 have hGi:¬ (G=k):=by omega
 have hGim:¬ (G=k+1):=by omega
 have hci:¬ (n=k):=by omega
 have mixed:Tryz.prog.follows .mixedOrders=true:=by kernel_rfl
 subst hW1;have hE1:((w.alloc (.cells ROW 93)).drew).heap=(w.drew.alloc (.cells ROW 93)).heap:=rfl;have hF1:(((w.alloc (.cells ROW 93)).drew.setRow w.heap.size c1.toArray).drew).heap=((w.drew.alloc (.cells ROW 93)).setRow w.heap.size c1.toArray).heap:=rfl;clear hkk hik hold hROW hG hRl hRs hRt hnn hown hV ho1 ho2 ho4 ho5 ho6 hsz hdrop hc1 hl1 hc2 hT hl2 FIN hone hlen hxs hcell hcx hi0 hz0 hz1 hz2 hz2c hgN hvN hoN hBN hGm
 go_enter Tryz.func210,Tryz.ntmps210
 go_wp2_with (first
  | (at_builtin;refine Lib.wpList_append_run _ rfl _ _ _ _ rfl _ _ rfl rfl _ _ (hrz _) ?_)
  | (at_builtin;refine wpList_copy_runI _ rfl _ _ 178 178 rfl _ _ rfl rfl (hcpA _ hE1 _ _) ?_))
 go_region_law_o (refine step_copy_runI rfl _ _ 178 178 rfl (.slice (some ⟨w.heap.size,(k+1)*2,none⟩) (n-k) (G-(k+1))) (.slice (some ⟨g,k*2,none⟩) (n-k) (n-k)) (by simp [Act.eval,Act.put]) (by simp [Act.eval,Act.put]) (hcpB _ hF1 3 (G-(k+1)) (n-k)) ?_)
 go_wp2
 all_goals
  go_ret;exact END.out _ hF1 HBN.out.drew
theorem nInsert (base k:Nat) (v:Value) (ps:List (Int×Int)) (p:Int×Int) (vb:Nat) (w:World) (hown:w.ownsRow base 93 2 v ps.length (pcells ps)) (hV:w.heap[vb]?=some (.cells #[.int .i64 p.1,.int .i64 p.2] 93 (0,0))) (hvb:∀ g,v.ownBlock=some g->vb≠g) (hb:base<=w.heap.size) (hn:ps.length<=65536) (hk:k<=ps.length) :
  Calls Tryz.prog 210 #[v,.int .i64 (k:Int),.slice (some ⟨vb,0,none⟩) 1 1] w (InsPost base ps k p w):=by
 rcases hown.2 with⟨rfl,h0⟩ | ⟨g,c,cur,rfl,h1,h2,h3,h4,h5,h6⟩
 ·obtain rfl:=List.eq_nil_of_length_eq_zero h0
  obtain rfl:k=0:=by simpa using hk
  exact nIns_nil base p vb w hV hb
 ·rcases Nat.lt_or_ge k ps.length with hlt | hge
  ·rcases Nat.lt_or_ge c (ps.length+1) with hc | hc
   ·exact nIns_grow base g c k ps p vb w hown hV hb hn hlt hc
   ·exact nIns_shift base g c k ps p vb w hown hV (hvb g rfl) hb hn hlt hc
  ·obtain rfl:k=ps.length:=by omega
   exact nIns_end base g c ps p vb w hown hV hb hn h3
end Go.Proofs.YtpeckljoannolaaGreatDoor
namespace Go.Proofs.YtpeckljoannolaaGreatDoor
open Go.RowKit
theorem row_kept {w w':World} {base:Nat} {e:TypeId} {size:Nat} {v:Value} {n:Nat} {xs:List Value} (h:w.ownsRow base e size v n xs) (hb:Below w.heap.size w w'):w'.ownsRow base e size v n xs:=by
 refine⟨h.1,?_⟩
 rcases h.2 with h2 | ⟨g,c,cur,hv,hg,hh,r⟩
 ·exact Or.inl h2
 ·refine Or.inr ⟨g,c,cur,hv,hg,?_,r⟩
  rw [hb.block g ?_]
  ·exact hh
  ·rcases Nat.lt_or_ge g w.heap.size with h1 | h1
   ·exact h1
   ·rw [Array.getElem?_eq_none h1] at hh;cases hh
theorem Box.fourth (w:World) (o o' o'':Obj) (s:Sl) (a:Ads) (t:TypeId):Box ((((w.alloc o).alloc o').alloc o'').alloc (.cells (slCells s a) t)) (w.heap.size+3) s a:=by
 have:=Box.new (((w.alloc o).alloc o').alloc o'') s a t
 simpa using this
theorem boxes_csr (w:World) (c:Cf) (s:Sl) (a:Ads):∃ W0,W0=((w.alloc (.cells #[.int .u8 c.tag,.int .i64 c.most,.int .i64 c.seg,.int .i64 c.least,.int .i64 c.den,.int .i64 c.ll,.int .i64 c.rl,.int .i64 c.rh,.int .i64 c.lh] 23)).alloc (.cells #[.int .i64 s.seg,.slice a.w s.words.length a.cw,.slice a.k s.keys.length a.ck,.slice a.v s.vals.length a.cv,.slice a.c s.counts.length a.cc,.int .u64 (s.laid:Int)] 29)).alloc (.cells #[.int .i64 0,.slice none 0 0,.slice none 0 0,.slice none 0 0,.slice none 0 0,.int .u64 0] 29) /\
  Hid (CBox W0 w.heap.size c)/\Hid (Box W0 (w.heap.size+1) s a)/\Hid (Box W0 (w.heap.size+2) Sl.none adsNone)/\Hid (Below w.heap.size w W0)/\w.heap.size+3<=W0.heap.size:=by
 refine⟨_,rfl,aq ?_,aq ?_,aq ?_,aq ?_,by simp⟩
 ·exact ((CBox.new w c 23).below ((Below.refl _ _).alloc (Nat.le_refl _) _)).below ((Below.refl _ _).alloc (Nat.le_refl _) _)
 ·exact (Box.second w _ s a 29).below ((Below.refl _ _).alloc (Nat.le_refl _) _)
 ·exact Box.third w _ _ Sl.none adsNone 29
 ·exact (((Below.refl w.heap.size w).alloc (Nat.le_refl _) _).alloc (by simp) _).alloc (by simp;omega) _
theorem boxes_cspr (w:World) (c:Cf) (s:Sl) (a:Ads) (p1 p2:Int):∃ W0,W0=(((w.alloc (.cells #[.int .u8 c.tag,.int .i64 c.most,.int .i64 c.seg,.int .i64 c.least,.int .i64 c.den,.int .i64 c.ll,.int .i64 c.rl,.int .i64 c.rh,.int .i64 c.lh] 23)).alloc (.cells #[.int .i64 s.seg,.slice a.w s.words.length a.cw,.slice a.k s.keys.length a.ck,.slice a.v s.vals.length a.cv,.slice a.c s.counts.length a.cc,.int .u64 (s.laid:Int)] 29)).alloc (.cells #[.int .i64 p1,.int .i64 p2] 93)).alloc (.cells #[.int .i64 0,.slice none 0 0,.slice none 0 0,.slice none 0 0,.slice none 0 0,.int .u64 0] 29) /\
  Hid (CBox W0 w.heap.size c)/\Hid (Box W0 (w.heap.size+1) s a)/\Hid (PBox W0 (w.heap.size+2) (p1,p2))/\Hid (Box W0 (w.heap.size+3) Sl.none adsNone)/\Hid (Below w.heap.size w W0)/\w.heap.size+4<=W0.heap.size:=by
 refine⟨_,rfl,aq ?_,aq ?_,aq ?_,aq ?_,aq ?_,by simp⟩
 ·exact (((CBox.new w c 23).below ((Below.refl _ _).alloc (Nat.le_refl _) _)).below ((Below.refl _ _).alloc (Nat.le_refl _) _)).below ((Below.refl _ _).alloc (Nat.le_refl _) _)
 ·exact ((Box.second w _ s a 29).below ((Below.refl _ _).alloc (Nat.le_refl _) _)).below ((Below.refl _ _).alloc (Nat.le_refl _) _)
 ·have:=(PBox.new ((w.alloc (.cells #[.int .u8 c.tag,.int .i64 c.most,.int .i64 c.seg,.int .i64 c.least,.int .i64 c.den,.int .i64 c.ll,.int .i64 c.rl,.int .i64 c.rh,.int .i64 c.lh] 23)).alloc (.cells #[.int .i64 s.seg,.slice a.w s.words.length a.cw,.slice a.k s.keys.length a.ck,.slice a.v s.vals.length a.cv,.slice a.c s.counts.length a.cc,.int .u64 (s.laid:Int)] 29)) (p1,p2) 93).below ((Below.refl _ _).alloc (Nat.le_refl _) (.cells #[.int .i64 0,.slice none 0 0,.slice none 0 0,.slice none 0 0,.slice none 0 0,.int .u64 0] 29))
  simpa using this
 ·exact Box.fourth w _ _ _ Sl.none adsNone 29
 ·exact ((((Below.refl w.heap.size w).alloc (Nat.le_refl _) _).alloc (by simp) _).alloc (by simp;omega) _).alloc (by simp;omega) _
theorem gPut1 (c:Cf) (size:Int) (b1 b2:Nat) (x:Nat) (n:Int) (w:World) (hc:c.In) (hsz:size<=9223372036854775807) (h0:0<=n) (h1:n<=65536) (C:CBox w b1 c) (Z:Boxed w b2 3 (.int .i64 size)) :
  Calls Tryz.prog 170 #[.int .i64 (x:Int),.int .i64 n,.pointer (some ⟨b1,0,none⟩),.pointer (some ⟨b2,0,none⟩)] w fun e w'=>e=.returned (.bool (Gp.manyN c size x (n+1)))/\Below w.heap.size w w':=by
 have CM:=aq (fun W=>gTooMany c size x (n+1) W hc hsz)
 have hw:IntKind.i64.wrap (n+1)=n+1:=by rw [IntKind.wrap_i64];omega
 obtain⟨_,c0,c1,c2,c3,c4,c5,c6,c7,c8,_⟩:=C;have cz:=Z.cell;unfold cfv at CM
 go_enter Tryz.func170,Tryz.ntmps170
 go_wp2_with fail
 refine (CM.out _).mono ?_;rintro e w1 ⟨rfl,hb⟩;go_wp2;go_ret;exact⟨rfl,hb⟩
theorem gTake1 (c:Cf) (size:Int) (b1 b2:Nat) (x:Nat) (n:Int) (w:World) (hc:c.In) (hsz:size<=9223372036854775807) (C:CBox w b1 c) (Z:Boxed w b2 3 (.int .i64 size)) :
  Calls Tryz.prog 195 #[.int .i64 (x:Int),.int .i64 n,.pointer (some ⟨b1,0,none⟩),.pointer (some ⟨b2,0,none⟩)] w fun e w'=>e=.returned (.bool (Gp.fewN c size x n))/\Below w.heap.size w w':=by
 have CM:=aq (fun W=>gTooFew c size x n W hc hsz);obtain⟨_,c0,c1,c2,c3,c4,c5,c6,c7,c8,_⟩:=C;have cz:=Z.cell;unfold cfv at CM
 go_enter Tryz.func195,Tryz.ntmps195
 go_wp2_with fail
 refine (CM.out _).mono ?_;rintro e w1 ⟨rfl,hb⟩;go_wp2;go_ret;exact⟨rfl,hb⟩
theorem gLoaded (c:Cf) (s:Sl) (a:Ads) (al:Option Addr) (cal:Nat) (ps:List (Int×Int)) (w:World) (hc:c.In) (h:Held w s a) (hok:s.Ok) (hs:s.Short) (hT:Tab w) (hm:c.mayB=true) (hn:(ps.length:Int)<=c.most) (hp:PLst w al ps) (h64:In64P ps) :
  Calls Tryz.prog 209 #[cfv c,slv s a,.slice al ps.length cal] w (Ans (Ly.intoS s (c.takes ps.length) ps) (Ly.intoE s (c.takes ps.length) ps.length) w):=by
 obtain⟨W0,hW0,BC,BX,BR,BB,zz⟩:=boxes_csr w c s a;have M:=(Cf.may_iff c).1 hm
 have tb:c.takes ps.length<=65535:=by
  have t1:=(Gp.takes_right M (m:=ps.length) (by omega) hn).1;exact (M.size_bd t1).2
 have t0:0<=c.takes ps.length:=by
  have t1:=(Gp.takes_right M (m:=ps.length) (by omega) hn).1;have:=(M.size_bd t1).1;have:=M.sizes.seg1
  omega
 have hl:ps.length<=65536:=by have:=M.sizes.most2;omega
 have CC:=aq (fun W=>kCap c ps.length W hc);have CI:=aq (fun W (hb:Below w.heap.size w W)=>yInto s a (c.takes ps.length) al cal ps W (h.below hb) hok hs (hT.below hb) ⟨by omega,by omega⟩ hl (hp.below hb) h64)
 have E1:c.capV ps.length=c.takes ps.length/\c.capE ps.length=0:=by unfold Cf.capV Cf.capE;rw [if_pos hm,if_pos hm,if_neg (by omega),if_neg (by omega),if_neg (by omega),if_neg (by omega)];exact⟨rfl,rfl⟩
 rw [E1.1,E1.2] at CC;generalize Ly.intoS s (c.takes ps.length) ps=t at *;generalize Ly.intoE s (c.takes ps.length) ps.length=er at *;generalize c.takes ps.length=z at *;clear hc h hok hs hT hm hn hp h64 M E1;unfold cfv at CC;unfold slv at CI;unfold slv cfv
 go_enter Tryz.func209,Tryz.ntmps209
 go_upto_region 1 with (fail)
 rw [<-hW0];clear hW0;obtain⟨_,c0,c1,c2,c3,c4,c5,c6,c7,c8,_⟩:=BC.out
 go_wp2_with fail
 refine (CC.out _).mono ?_;rintro e w1 ⟨rfl,hb⟩;replace BR:=aq (BR.out.below hb);replace BX:=aq (BX.out.below hb);replace BB:=aq (BB.out.trans (hb.mono BB.out.size));have zz1:=hb.size;clear hb c0 c1 c2 c3 c4 c5 c6 c7 c8;obtain⟨_,q0,q1,q2,q3,q4,q5,_⟩:=BX.out
 go_wp2_with fail
 refine (CI.out _ BB.out).mono ?_;rintro e w2 ⟨a2,rfl,own,hb⟩;replace BR:=aq (BR.out.below hb);replace BB:=aq (BB.out.trans (hb.mono BB.out.size));have FIN:=aq (ans_put6 (r:=w.heap.size+2) own BB.out (by omega) (by omega));clear own hb q0 q1 q2 q3 q4 q5;obtain⟨_,s0,s1,s2,s3,s4,s5,sf⟩:=BR.out;have⟨sf0,sf1,sf2,sf3,sf4,sf5⟩:=sf6 sf;clear sf;unfold slv;go_wp2;refine bodyPost_ret (v:=.tuple #[slv t a2,.int .i64 er]) (by simp [results,Tryz.results209,go_sem,slv,s0,s1,s2,s3,s4,s5,sf0,sf1,sf2,sf3,sf4,sf5]) rfl ?_;exact⟨_,rfl,FIN.out _ _ _ _ _ _⟩
structure Bx3 (W:World) (n:Nat) (c:Cf) (s:Sl) (a:Ads) (p1 p2:Int):Prop where
 c:CBox W n c
 s:Box W (n+1) s a
 p:PBox W (n+2) (p1,p2)
theorem Box.low {w w':World} {n g:Nat} {s:Sl} {a:Ads} (h:Box w g s a) (hn:g < n) (hb:Below n w w'):Box w' g s a:=(Kept.of_below (Z:=fun k=>k < n) hb (fun k hk=>hk)).box h hn
theorem CBox.low {w w':World} {n g:Nat} {c:Cf} (h:CBox w g c) (hn:g < n) (hb:Below n w w'):CBox w' g c :=
 have hc:∀ o,w'.cell? ⟨g,o,none⟩=w.cell? ⟨g,o,none⟩:=fun o=>hb.cell (p:=⟨g,o,none⟩) hn
 ⟨Nat.lt_of_lt_of_le h.lt hb.size,(hc 0).trans h.c0,(hc 1).trans h.c1,(hc 2).trans h.c2,(hc 3).trans h.c3,(hc 4).trans h.c4,(hc 5).trans h.c5,(hc 6).trans h.c6,(hc 7).trans h.c7,(hc 8).trans h.c8,fun o=>(hb.frozen (p:=⟨g,o,none⟩) hn).trans (h.fz o)⟩
theorem PBox.low {w w':World} {n g:Nat} {p:Int×Int} (h:PBox w g p) (hn:g < n) (hb:Below n w w'):PBox w' g p :=
 have hc:∀ o,w'.cell? ⟨g,o,none⟩=w.cell? ⟨g,o,none⟩:=fun o=>hb.cell (p:=⟨g,o,none⟩) hn;have hf:∀ o,w'.frozen? ⟨g,o,none⟩=w.frozen? ⟨g,o,none⟩:=fun o=>hb.frozen (p:=⟨g,o,none⟩) hn
 ⟨Nat.lt_of_lt_of_le h.lt hb.size,(hc 0).trans h.c0,(hc 1).trans h.c1,(hf 0).trans h.f0,(hf 1).trans h.f1⟩
theorem Bx3.low {w w':World} {n:Nat} {c:Cf} {s:Sl} {a:Ads} {p1 p2:Int} (h:Bx3 w n c s a p1 p2) (hb:Below (n+3) w w'):Bx3 w' n c s a p1 p2:=⟨h.c.low (by omega) hb,h.s.low (by omega) hb,h.p.low (by omega) hb⟩
theorem Bx3.cells {w0 w:World} {c:Cf} {s:Sl} {a:Ads} {p1 p2:Int} (h:Bx3 w0 w.heap.size c s a p1 p2):w0.cell? ⟨w.heap.size,0,none⟩=some (.int .u8 c.tag)/\w0.cell? ⟨w.heap.size,1,none⟩=some (.int .i64 c.most)/\w0.cell? ⟨w.heap.size,2,none⟩=some (.int .i64 c.seg)/\w0.cell? ⟨w.heap.size,3,none⟩=some (.int .i64 c.least)/\w0.cell? ⟨w.heap.size,4,none⟩=some (.int .i64 c.den)/\w0.cell? ⟨w.heap.size,5,none⟩=some (.int .i64 c.ll)/\w0.cell? ⟨w.heap.size,6,none⟩=some (.int .i64 c.rl)/\w0.cell? ⟨w.heap.size,7,none⟩=some (.int .i64 c.rh)/\w0.cell? ⟨w.heap.size,8,none⟩=some (.int .i64 c.lh)/\w0.cell? ⟨w.heap.size+1,0,none⟩=some (.int .i64 s.seg)/\w0.cell? ⟨w.heap.size+1,1,none⟩=some (.slice a.w s.words.length a.cw)/\w0.cell? ⟨w.heap.size+1,2,none⟩=some (.slice a.k s.keys.length a.ck)/\w0.cell? ⟨w.heap.size+1,3,none⟩=some (.slice a.v s.vals.length a.cv)/\w0.cell? ⟨w.heap.size+1,4,none⟩=some (.slice a.c s.counts.length a.cc)/\w0.cell? ⟨w.heap.size+1,5,none⟩=some (.int .u64 (s.laid:Int))/\w0.cell? ⟨w.heap.size+2,0,none⟩=some (.int .i64 p1)/\w0.cell? ⟨w.heap.size+2,1,none⟩=some (.int .i64 p2) :=
 ⟨h.c.c0,h.c.c1,h.c.c2,h.c.c3,h.c.c4,h.c.c5,h.c.c6,h.c.c7,h.c.c8,h.s.c0,h.s.c1,h.s.c2,h.s.c3,h.s.c4,h.s.c5,h.p.c0,h.p.c1⟩
theorem gGrown (c:Cf) (s:Sl) (a:Ads) (k:Nat) (p1 p2:Int) (w:World) (hc:c.In) (h:Held w s a) (hok:s.Ok) (hs:s.Short) (hT:Tab w) (hm:c.mayB=true) (hM:s.mayB=true) (hk:k<=(Gp.all s).length) (hn:((Gp.all s).length:Int)+1<=c.most) (i1:In64 p1) (i2:In64 p2) :
  Calls Tryz.prog 171 #[cfv c,slv s a,.int .i64 (k:Int),.agg #[.int .i64 p1,.int .i64 p2]] w (Ans (Ly.intoS s (c.takes (Ly.among (Gp.all s) k (p1,p2)).length) (Ly.among (Gp.all s) k (p1,p2))) (Ly.intoE s (c.takes (Ly.among (Gp.all s) k (p1,p2)).length) (Ly.among (Gp.all s) k (p1,p2)).length) w):=by
 obtain⟨W0,hW0,BC,BX,BP,BR,BB,zz⟩:=boxes_cspr w c s a p1 p2;have B3:=aq (show Bx3 W0 w.heap.size c s a p1 p2 from⟨BC.out,BX.out,BP.out⟩);have l2:=hs.keys;have PM:=Ly.pairs_mk hM (Nat.zero_le s.keys.length) (Nat.le_refl _);have CP:=aq (fun W (hb:Below w.heap.size w W)=>cPairs s a 0 s.keys.length W (h.below hb) hok hs (hT.below hb));rw [show (0:Int)=((0:Nat):Int) from rfl,PM.1,PM.2,show s.of 0 s.keys.length=Gp.all s from rfl] at CP;have LA:=aq (Ly.among_length (Gp.all s) k (p1,p2));have H64:=Ly.among_in64 (p:=(p1,p2)) (of_in64 hok 0 s.keys.length) k i1 i2;have CL:=aq (fun W A cp (hb:Below w.heap.size w W) (hp:PLst W A (Ly.among (Gp.all s) k (p1,p2)))=>gLoaded c s a A cp (Ly.among (Gp.all s) k (p1,p2)) W hc (h.below hb) hok hs (hT.below hb) hm (by rw [LA.out];omega) hp H64)
 have hnn:(Gp.all s).length<=65536:=by have:=((Cf.may_iff c).1 hm).sizes.most2;omega
 clear hc h hok hs hT hm hM i1 i2 PM H64 hn BC BX BP;generalize Ly.intoS s (c.takes (Ly.among (Gp.all s) k (p1,p2)).length) (Ly.among (Gp.all s) k (p1,p2))=t at *;generalize Ly.intoE s (c.takes (Ly.among (Gp.all s) k (p1,p2)).length) (Ly.among (Gp.all s) k (p1,p2)).length=er at *;generalize Gp.all s=ps at *;unfold slv at CP;unfold slv cfv at CL;unfold slv cfv
 go_enter Tryz.func171,Tryz.ntmps171
 go_upto_region 1 with (fail)
 rw [<-hW0];clear hW0;obtain⟨_,q0,q1,q2,q3,q4,q5,_⟩:=B3.out.s
 go_wp2_with fail
 refine (CP.out W0 BB.out).mono ?_;rintro e w1 ⟨v,rfl,hr,hb⟩;have R1:=aq hr;have NE:=aq (show ∀ g,v.ownBlock=some g->w1.heap.size≠g from fun g hg=>by have:=(World.ownsRow.lt hr g hg).2;omega);have CN:=aq (fun W vb h1 h2 h3 h4=>nInsert W0.heap.size k v ps (p1,p2) vb W h1 h2 h3 h4 hnn hk);replace B3:=aq (B3.out.low (hb.mono (by omega)));replace BR:=aq (BR.out.below hb);replace BB:=aq (BB.out.trans (hb.mono BB.out.size));have z1:=hb.size;clear hr hb q0 q1 q2 q3 q4 q5 CP
 go_wp2_with fail
 refine wp_region_held_drew (S:=(fun w'=>w'.cell? ⟨w.heap.size,0,none⟩=some (.int .u8 c.tag)/\w'.cell? ⟨w.heap.size,1,none⟩=some (.int .i64 c.most)/\w'.cell? ⟨w.heap.size,2,none⟩=some (.int .i64 c.seg)/\w'.cell? ⟨w.heap.size,3,none⟩=some (.int .i64 c.least)/\w'.cell? ⟨w.heap.size,4,none⟩=some (.int .i64 c.den)/\w'.cell? ⟨w.heap.size,5,none⟩=some (.int .i64 c.ll)/\w'.cell? ⟨w.heap.size,6,none⟩=some (.int .i64 c.rl)/\w'.cell? ⟨w.heap.size,7,none⟩=some (.int .i64 c.rh)/\w'.cell? ⟨w.heap.size,8,none⟩=some (.int .i64 c.lh)/\w'.cell? ⟨w.heap.size+1,0,none⟩=some (.int .i64 s.seg)/\w'.cell? ⟨w.heap.size+1,1,none⟩=some (.slice a.w s.words.length a.cw)/\w'.cell? ⟨w.heap.size+1,2,none⟩=some (.slice a.k s.keys.length a.ck)/\w'.cell? ⟨w.heap.size+1,3,none⟩=some (.slice a.v s.vals.length a.cv)/\w'.cell? ⟨w.heap.size+1,4,none⟩=some (.slice a.c s.counts.length a.cc)/\w'.cell? ⟨w.heap.size+1,5,none⟩=some (.int .u64 (s.laid:Int))/\w'.cell? ⟨w.heap.size+2,0,none⟩=some (.int .i64 p1)/\w'.cell? ⟨w.heap.size+2,1,none⟩=some (.int .i64 p2))) (by kernel_rfl) ((B3.out.low ((Below.refl _ w1).drew)).cells) (fun hHeld=>?_);refine tk 0 ?_;refine tk 1 ?_;refine tk 2 ?_;refine tk 3 ?_;refine tk 4 ?_;refine rdH 5 fun K hK=>?_;go_simp;obtain⟨W5,hW5⟩:∃ W5,W5=(w1.alloc (.cells #[.int .i64 p1,.int .i64 p2] 93)).drew:=⟨_,rfl⟩
 have hb5:Below w1.heap.size w1 W5:=by rw [hW5];exact ((Below.refl w1.heap.size w1).alloc (Nat.le_refl _) _).drew
 have HV:=aq (show W5.heap[w1.heap.size]?=some (.cells #[.int .i64 p1,.int .i64 p2] 93 (0,0)) by rw [hW5];exact World.alloc_heap_new _ _);rw [<-hW5];clear hW5;replace B3:=aq (B3.out.low (hb5.mono (by omega)));replace BR:=aq (BR.out.below hb5);replace BB:=aq (BB.out.trans (hb5.mono BB.out.size));have R5:=aq (row_kept R1.out hb5);have z5:=hb5.size;clear hb5;refine hK.out _ _ (B3.out.cells) (fun hHelda1=>?_);clear hK K hHeld
 try simp only [sZ]
 refine rdH 6 fun K hK=>?_;go_simp;refine (CN.out W5 w1.heap.size R5.out HV.out NE.out (by omega)).mono ?_;rintro e W6 ⟨v6,rfl,hr6,hb6⟩;obtain⟨A6,d6,rfl,hP6⟩:=prow_list (by rw [LA.out];exact hr6);have P6:=aq hP6;replace B3:=aq (B3.out.low (hb6.mono (by omega)));replace BR:=aq (Box.low BR.out (by omega) hb6);replace BB:=aq (BB.out.trans (hb6.mono (by omega)));have z6:=hb6.size;clear hr6 hb6 hP6
 try (go_simp)
 refine hK.out _ _ (B3.out.cells) (fun hHelda2=>?_);clear hK K hHelda1
 try simp only [sZ]
 refine rdH 7 fun K hK=>?_;go_simp;refine (CL.out W6 A6 d6 BB.out P6.out).mono ?_;rintro e W7 ⟨a3,rfl,own,hb7⟩;replace B3:=aq (B3.out.low (hb7.mono (by omega)));replace BR:=aq (BR.out.below hb7);replace BB:=aq (BB.out.trans (hb7.mono BB.out.size));have FIN:=aq (ans_put6 (r:=w.heap.size+3) own BB.out (by omega) (by omega));clear own hb7;obtain⟨_,s0,s1,s2,s3,s4,s5,sf⟩:=BR.out;have⟨sf0,sf1,sf2,sf3,sf4,sf5⟩:=sf6 sf;clear sf;unfold slv
 try (go_simp)
 refine hK.out _ _ (B3.out.cells) (fun hHelda3=>?_);clear hK K hHelda2
 try simp only [sZ]
 refine tk 8 ?_;refine tk 9 ?_;refine rdH 10 fun K hK=>?_;go_simp;skip;refine hK.out _ _ ((B3.out.low (below_put6 (Below.refl (w.heap.size+3) _) (Nat.le_refl _) _ _ _ _ _ _)).cells) (fun hHelda4=>?_);clear hK K hHelda3
 try simp only [sZ]
 refine tk 11 ?_;refine wpAnyH_done (by kernel_rfl) ?_ _;go_wp2;refine bodyPost_ret (v:=.tuple #[slv t a3,.int .i64 er]) (by simp [results,Tryz.results171,go_sem,slv,s0,s1,s2,s3,s4,s5,sf0,sf1,sf2,sf3,sf4,sf5]) rfl ?_;exact⟨_,rfl,FIN.out _ _ _ _ _ _⟩
namespace Gp
theorem halve_step {c:Cf} (hm:c.May) {m z:Int} (h0:0<=m) (hi:c.Is z) (hz:m<=z) (hw:c.fewB z (c.high z) m=false):c.Is (z/2)/\m<=z/2/\c.manyB (z/2) (c.high (z/2)) m=true/\2*(z/2)=z:=by
 have K:=hm.all_ok hi h0 hz;have hok:=(Cf.ok_iff _ _ _ _).2 K
 have hsv:c.sparseV z (c.high z) m=false:=by unfold Cf.sparseV;rw [hok,hw];rfl
 obtain⟨t1,t2,t3⟩:=Cf.turns_down K hsv;have t3':=t3;unfold Cf.fullV at t3';rw [Bool.and_eq_true] at t3';have K2:=(Cf.ok_iff _ _ _ _).1 t3'.1;have SB:=hm.size_bd hi;have g4:=hm.sizes.seg1;have SB2:=hm.size_bd K2.is;have HT:=Cf.high_twice hm.sizes.segp K2.is.pow SB2.1;have e2:2*(z/2)=z:=(pow_half hi.pow (by omega)).2;rw [e2] at HT
 have e3:c.high (z/2)=c.high z-1:=by omega
 have hW:=Cf.wide_of hm.sizes.segp K2.is.pow SB2.1;have n1:=K2.n1;rw [<-e3,hW] at n1;exact⟨K2.is,n1,by rw [e3];exact t3'.2,e2⟩
theorem all_few {c:Cf} (hm:c.May) {m z:Int} (h0:0<=m) (hi:c.Is z) (hz:m<=z):allFewN c z m=!c.fewB z (c.high z) m:=by
 have hok:=(Cf.ok_iff _ _ _ _).2 (hm.all_ok hi h0 hz);unfold allFewN fewN;rw [(Cf.may_iff c).2 hm,(Cf.is_iff c z).2 hi,hok]
 rfl
end Gp
theorem gHalved (c:Cf) (s:Sl) (a:Ads) (w:World) (hc:c.In) (h:Held w s a) (hok:s.Ok) (hs:s.Short) (hT:Tab w) (M:c.May) (hM:s.mayB=true) (hi:c.Is s.keys.length) :
  Calls Tryz.prog 196 #[cfv c,slv s a] w (Ans (Ly.intoS s (Gp.halve c (Gp.all s).length 20 s.keys.length) (Gp.all s)) (Ly.intoE s (Gp.halve c (Gp.all s).length 20 s.keys.length) (Gp.all s).length) w):=by
 obtain⟨W0,hW0,BC,BX,BR,BB,zz⟩:=boxes_csr w c s a;have l2:=hs.keys;have PM:=Ly.pairs_mk hM (Nat.zero_le s.keys.length) (Nat.le_refl _);have CP:=aq (fun W (hb:Below w.heap.size w W)=>cPairs s a 0 s.keys.length W (h.below hb) hok hs (hT.below hb));rw [show (0:Int)=((0:Nat):Int) from rfl,PM.1,PM.2,show s.of 0 s.keys.length=Gp.all s from rfl] at CP;have al:=Gp.all_len s;have ml:=Gp.many_le (s:=s);have H64:=of_in64 hok 0 s.keys.length
 have hnn:(Gp.all s).length<=65536:=by omega
 have CI:=aq (fun z W A cp (hb:Below w.heap.size w W) (hz0:0<=z) (hz1:z<=65536) (hp:PLst W A (Gp.all s))=>yInto s a z A cp (Gp.all s) W (h.below hb) hok hs (hT.below hb) ⟨by omega,by omega⟩ hnn hp H64);have CA:=aq (fun z n W (hz:z<=65536)=>gAllTooFew c z n W hc (by omega));have SB:=M.size_bd hi;have g4:=M.sizes.seg1;have MM:=aq M
 have I0:=aq (show c.Is s.keys.length/\((Gp.all s).length:Int)<=s.keys.length/\(s.keys.length:Int)<=c.least*2^20 from⟨hi,by omega,by
  have:=M.sizes.least1;rw [show (2:Int)^20=1048576 from by decide]
  omega⟩)
 clear hc h hok hs hT M hM PM H64 hi al ml SB;generalize Gp.all s=ps at *;unfold slv at CP CI;unfold cfv at CA;unfold slv cfv
 go_enter Tryz.func196,Tryz.ntmps196
 go_upto_region 1 with (fail)
 rw [<-hW0];clear hW0;obtain⟨_,q0,q1,q2,q3,q4,q5,_⟩:=BX.out
 go_wp2_with fail
 refine (CP.out W0 BB.out).mono ?_;rintro e w1 ⟨v,rfl,hr,hb⟩;obtain⟨A1,d1,rfl,hp⟩:=prow_list hr;have P1:=aq hp;replace BR:=aq (BR.out.below hb);replace BC:=aq (BC.out.below hb);replace BX:=aq (BX.out.below hb);replace BB:=aq (BB.out.trans (hb.mono BB.out.size));have zz1:=hb.size;clear hb hr hp q0 q1 q2 q3 q4 q5;go_wp2
 go_loopw [6] (fun p wr=>∃ (f:Nat) (z:Int),p=.int .i64 z/\c.Is z/\(ps.length:Int)<=z/\z<=c.least*2^f/\Gp.halve c ps.length f z=Gp.halve c ps.length 20 s.keys.length/\Below w1.heap.size w1 wr) (fun p _=>(intOf p).toNat)
 case atStart=>exact⟨20,_,rfl,I0.out.1,I0.out.2.1,I0.out.2.2,rfl,Below.refl _ _⟩
 case round =>
  obtain⟨f,z,rfl,hi,hz,hle,he,hbr⟩:=hrel;have HB:=aq hbr;have HE:=aq he;have SB:=MM.out.size_bd hi;have AF:=aq (Gp.all_few MM.out (m:=ps.length) (by omega) hi hz);have HS:=aq (Gp.halve_step MM.out (m:=ps.length) (z:=z) (by omega) hi hz);have zr:=hbr.size;clear he hbr;obtain⟨_,c0,c1,c2,c3,c4,c5,c6,c7,c8,_⟩:=BC.out.below HB.out
  cases hf:c.fewB z (c.high z) ps.length
  ·have CA1:=aq (fun W=>CA.out z ps.length W (by omega))
   obtain⟨i2,j2,k2,l3⟩:=HS.out hf;have hq:z.tdiv 2=z/2:=Int.tdiv_eq_ediv_of_nonneg (by omega)
   obtain⟨f',rfl⟩:∃ f',f=f'+1:=by
    cases f with
    | zero =>
     exfalso
     rw [Int.pow_zero,Int.mul_one] at hle;have:=hi.lo
     have e9:z=c.least:=by omega
     unfold Cf.fewB at hf;rw [e9] at hf
     simp at hf
    | succ f'=>exact⟨f',rfl⟩
   have E2:=aq (show Gp.halve c ps.length f' (z/2)=Gp.halve c ps.length 20 s.keys.length by
    rw [<-HE.out]
    show _=if _ then _ else _
    rw [hf]
    rfl)
   have L2:=aq (show z/2<=c.least*2^f' by
    rw [Int.pow_succ,Int.mul_comm (2^f') 2,<-Int.mul_assoc,Int.mul_comm c.least 2,Int.mul_assoc] at hle
    omega)
   rw [AF.out,hf] at CA1;have HI:=aq i2
   have hzn:0 < z:=by omega
   clear hf i2 k2 hle hi AF HS HE
   go_wp2_with fail
   refine (CA1.out _).mono ?_;rintro e w3 ⟨rfl,hb3⟩;have B3:=aq (HB.out.trans (hb3.mono zr));clear hb3 c0 c1 c2 c3 c4 c5 c6 c7 c8
   have hw2:wrap64 (z/2)=z/2:=by unfold wrap64;omega
   go_wp2
   go_roundw
   case rel=>exact⟨f',z/2,by first | rfl | (congr 1) | (rw [hq]) | simp [hq],HI.out,j2,L2.out,E2.out,B3.out⟩
   case measure=>simp [intOf]<;>omega
  ·have CA1:=aq (fun W=>CA.out z ps.length W (by omega))
   rw [AF.out,hf] at CA1
   have EZ:=aq (show Gp.halve c ps.length 20 s.keys.length=z by
    rw [<-HE.out]
    cases f with
    | zero=>rfl
    | succ f' =>
     show (if _ then _ else _)=_
     rw [hf]
     rfl)
   clear hf HS AF HE hle hi
   go_wp2_with fail
   refine (CA1.out _).mono ?_;rintro e w3 ⟨rfl,hb3⟩;have B3:=aq (HB.out.trans (hb3.mono zr));clear hb3 c0 c1 c2 c3 c4 c5 c6 c7 c8;have CI1:=aq (CI.out z w3 A1 d1 (BB.out.trans (B3.out.mono BB.out.size)) (by omega) (by omega) (P1.out.below B3.out));obtain⟨t,ht⟩:∃ t,t=Ly.intoS s z ps:=⟨_,rfl⟩;obtain⟨er,her⟩:∃ er,er=Ly.intoE s z ps.length:=⟨_,rfl⟩;rw [<-ht,<-her] at CI1;have HT9:=aq ht;have HE9:=aq her;clear ht her;replace BR:=aq (BR.out.below B3.out);replace BX:=aq (BX.out.below B3.out);replace BB:=aq (BB.out.trans (B3.out.mono BB.out.size));have z3:=B3.out.size;obtain⟨_,q0,q1,q2,q3,q4,q5,_⟩:=BX.out
   go_wp2_with fail
   refine CI1.out.mono ?_;rintro e w4 ⟨a3,rfl,own,hb⟩;replace BR:=aq (BR.out.below hb);replace BB:=aq (BB.out.trans (hb.mono BB.out.size));have FIN:=aq (ans_put6 (r:=w.heap.size+2) own BB.out (by omega) (by omega));clear own hb q0 q1 q2 q3 q4 q5;obtain⟨_,s0,s1,s2,s3,s4,s5,sf⟩:=BR.out;have⟨sf0,sf1,sf2,sf3,sf4,sf5⟩:=sf6 sf;clear sf;unfold slv;go_wp2;refine bodyPost_ret (v:=.tuple #[slv t a3,.int .i64 er]) (by simp [results,Tryz.results196,go_sem,slv,s0,s1,s2,s3,s4,s5,sf0,sf1,sf2,sf3,sf4,sf5]) rfl ?_;rw [EZ.out,<-HT9.out,<-HE9.out];exact⟨_,rfl,FIN.out _ _ _ _ _ _⟩
end Go.Proofs.YtpeckljoannolaaGreatDoor

/- Package om's lists and places. -/
import Derived.Test.YtpeckljoannolaaGreatDoorS1aOt
import Derived.Test.YtpeckljoannolaaGreatDoorS15Ot
import Derived.Test.YtpeckljoannolaaGreatDoorTkOt
import Derived.Test.YtpeckljoannolaaGreatDoorP6bOt
import Derived.Test.YtpeckljoannolaaGreatDoorM14Ot
import Derived.Test.YtpeckljoannolaaGreatDoorS14Ot
set_option linter.unusedVariables false
set_option linter.unusedSimpArgs false
set_option maxHeartbeats 8000000
set_option maxRecDepth 100000
namespace Go.Proofs.YtpeckljoannolaaGreatDoor
open Go.RowKit Go.Shelf
attribute [local go_sem] Oper.semAt_some
structure Only (X:Nat->Prop) (w W:World):Prop where
 os:W.os=w.os
 tape:W.tape=w.tape
 output:W.output=w.output
 size:w.heap.size<=W.heap.size
 block:∀ k,k < w.heap.size->¬ X k->W.heap[k]?=w.heap[k]?
theorem Only.refl (X:Nat->Prop) (w:World):Only X w w:=⟨rfl,rfl,rfl,Nat.le_refl _,fun _ _ _=>rfl⟩
theorem Only.trans {X:Nat->Prop} {a b c:World} (h:Only X a b) (k:Only X b c):Only X a c:=⟨k.os.trans h.os,k.tape.trans h.tape,k.output.trans h.output,Nat.le_trans h.size k.size,fun i hi hx=>(k.block i (Nat.lt_of_lt_of_le hi h.size) hx).trans (h.block i hi hx)⟩
theorem Only.set {X:Nat->Prop} {w W:World} (h:Only X w W) {p:Addr} (hp:X p.block) (v:Value):Only X w (W.setCell p v):=⟨h.os,h.tape,h.output,by rw [World.size_setCell];exact h.size,fun k hk hx=>(Below.heap_setCell W p v k (fun e=>hx (e▸hp))).trans (h.block k hk hx)⟩
theorem Only.below {X:Nat->Prop} {w W:World} {B:Nat} (h:Only X w W) (hB:B<=w.heap.size) (hx:∀ k,X k->B<=k):Below B w W:=⟨h.os,h.tape,h.output,h.size,fun k hk=>h.block k (by omega) (fun e=>by have:=hx k e;omega)⟩
def ZS (s:Sl) (a:Ads) (k:Nat):Prop:=(ints s.words≠[]/\∃ p,a.w=some p/\k=p.block)∨(s.keys≠[]/\∃ p,a.k=some p/\k=p.block)∨(s.vals≠[]/\∃ p,a.v=some p/\k=p.block)∨(s.counts≠[]/\∃ p,a.c=some p/\k=p.block)∨k=0
theorem ZS.lt {w:World} {s:Sl} {a:Ads} (h:Held w s a) (hT:Tab w) {k:Nat} (hk:ZS s a k):k < w.heap.size:=by
 rcases hk with⟨hz,p,hp,rfl⟩ | ⟨hz,p,hp,rfl⟩ | ⟨hz,p,hp,rfl⟩ | ⟨hz,p,hp,rfl⟩ | rfl
 ·exact lst_ltH h.words hz p hp
 ·exact lst_ltH h.keys hz p hp
 ·exact lst_ltH h.vals hz p hp
 ·exact lst_ltH h.counts hz p hp
 ·exact hT.1
namespace Om
def part (o:Od) (own:Int) (pre:List Nat):Od:=⟨o.cf,o.sl,⟨o.tb.gens,(settle o.sl own pre (o.tb.ats,o.moved)).1⟩,(settle o.sl own pre (o.tb.ats,o.moved)).2⟩
end Om
theorem OBox.moved {w:World} {b:Nat} {o:Od} {a:Ads} {A:HAds} (h:OBox w b o a A) (x:Nat):OBox (w.setCell ⟨b,17,none⟩ (.int .u64 (x:Int))) b ⟨o.cf,o.sl,o.tb,x⟩ a A:=by
 obtain⟨T,h⟩:=h;exact⟨T,heap_set h _⟩
theorem New.over {A B:World} (h:Over A B) {k:IntKind} {n:Nat} {a:Option Addr} {zs:List Int} (hl:New k A n a zs):New k B n a zs:=h.new hl
end Go.Proofs.YtpeckljoannolaaGreatDoor
namespace Go.Proofs.YtpeckljoannolaaGreatDoor
open Go.RowKit Go.Shelf
attribute [local go_sem] Oper.semAt_some
def MRowE (l:List (Int×Int)) (er:Int) (w:World) (e:Ending) (w':World):Prop:=∃ v,e=.returned (.tuple #[v,.int .i64 er])/\w'.ownsRow w.heap.size 39 2 v l.length (pcells l)/\Below w.heap.size w w'
theorem cells_grown {W W':World} {base:Nat} {e t:TypeId} {size:Nat} {v:Value} {n b:Nat} {xs:List Value} {cs:Array Value} (h:W.ownsRow base e size v n xs) (hg:W.grownBy W' v.ownBlock) (hb:W.heap[b]?=some (.cells cs t (0,0))) (ht:t≠e):W'.heap[b]?=some (.cells cs t (0,0)):=by
 refine (hg.block b (Array.getElem?_eq_some_iff.1 hb).1 ?_).trans hb;intro hE
 rcases h.2 with⟨hv,_⟩ | ⟨g,c,cur,hv,_,hh,_⟩
 ·subst hv;simp [Value.ownBlock] at hE
 ·subst hv
  simp [Value.ownBlock] at hE
  subst hE;rw [hb] at hh
  cases hh
  exact ht rfl
theorem step_moreT {P:Program} {T E:TypeId} {z:Value} {size bytes:Nat} (hE:Elem P T E z size bytes) {w:World} {ops:Array Oper} {o:Oper} {act:Act} {K:Act->World->Prop} {Q:Exit->Act->World->Prop} {F:Prop} (hgd:o.guard=none) (s x:Operand)
  (ho:o.op=.call { callee:=.builtin .append,args:=#[s,x],argTypes:=#[T,T] })
  (W:World) (t:TypeId) (us:List Value) (hW:w=W.alloc (.cells us.toArray t)) (hus:us.length=size) (base n:Nat) (v:Value) (xs:List Value) (hs:act.eval s=v) (hx:act.eval x=.slice (some ⟨W.heap.size,0,none⟩) 1 1)
  (hown:W.ownsRow base E size v n xs) (h1:∀ u∈us,u.oneCell'=true) (hbase:base<=W.heap.size) (h63:n+1<=maxLen) (hby:(n+1)*bytes<=140737488355328)
  (h:∀ v' w',w'.ownsRow base E size v' (n+1) (xs++us)->Below base W w'->KeepsOthers W w'->(∀ (b:Nat) (t:TypeId) (cs:Array Value),t≠E->W.heap[b]?=some (Obj.cells cs t (0,0))->w'.heap[b]?=some (Obj.cells cs t (0,0)))->K (act.put o.dst v') w'):if Region.wanted o (yielded ops act.tmps)=true then Oper.wp P o act w K Q else F:=by
 have hw:Region.wanted o (yielded ops act.tmps)=true:=by simp [Region.wanted,hgd]
 rw [if_pos hw];subst hW;obtain⟨i0,hi0,hz0,hz1,hz2⟩:=hE.info;refine wp_append_own _ s x T ho base E i0 z size bytes hE.und hi0 hz0 hz1 hz2 hE.zero hE.pos v n xs hs (hown.alloc _) ⟨W.heap.size,0,none⟩ 1 1 us hx (by rw [hus,Nat.one_mul]) ?_ h1 h63 hby (by simp;omega) ?_
 ·intro j y hj
  have hjl:j < us.length:=(List.getElem?_eq_some_iff.1 hj).1
  have hh:(W.alloc (.cells us.toArray t)).heap[W.heap.size]?=some (.cells us.toArray t):=by show (W.heap.push _)[W.heap.size]?=_;exact Array.getElem?_push_size
  rw [add_at,Nat.zero_add]
  simp only [World.cell?,hh]
  simpa using hj
 ·intro v1 w1 hown1 hgrow1 _
  exact h v1 w1 hown1 (((Below.refl _ _).alloc hbase _).grown hgrow1 (by simp;omega) (fun g hg=>(World.ownsRow.lt hown g hg).1)) ((KeepsOthers.alloc _ _).trans (own_keeps (hown.alloc _) hgrow1)) (fun b t cs ht hb=>cells_grown (hown.alloc _) hgrow1 ((Below.heap_alloc W _ b (Array.getElem?_eq_some_iff.1 hb).1).trans hb) ht)
def Om.hd (o:Od) (i:Nat):Int×Int:=Om.hn o.tb (Om.key o.sl i)
theorem Om.hands_pl (o:Od):Om.hands o=(Om.pl o.sl).map (Om.hd o):=by
 unfold Om.hands Om.ks Om.hd;rw [List.map_map]
 rfl
structure LstI (o:Od) (a:Ads) (A:HAds) (w:World) (bl base:Nat) (pre:List Nat) (W:World):Prop where
 below:Below w.heap.size w W
 size:base<=W.heap.size
 box:OBox W w.heap.size o a A
 row:∃ v,Boxed W bl 52 v/\W.ownsRow base 39 2 v pre.length (pcells (pre.map (Om.hd o)))
theorem lstI_own (o:Od) (a:Ads) (AA:HAds) (w:World) (bl base m:Nat) (hn:w.heap.size<=m):OwnFrom m (LstI o a AA w bl base):=fun pre A B row hs hg hr =>
 have ho:=Over.of_grown hg hr
 ⟨ownFrom_below (β:=Unit) (Nat.le_refl _) hn () A B row hs.below hg hr,Nat.le_trans hs.size ho.size,hs.box.over ho,by
  obtain⟨v,h1,h2⟩:=hs.row
  exact⟨v,ho.boxed h1,ho.ownsRow h2⟩⟩
theorem noneQ_own {α:Type} (m:Nat):OwnFrom m (fun (_:List α) (_:World)=>False):=fun _ _ _ _ h _ _=>h
theorem keeps_drew (W:World):KeepsOthers W W.drew:=⟨Nat.le_refl _,fun k o h _=>h⟩
theorem mList (o:Od) (a:Ads) (A:HAds) (w:World) (h:OHeld w o a A) (hin:o.In) (hT:Tab w) :
  Calls Tryz.prog 22 #[odv o a A] w (MRowE (Om.listV o) (Om.chkE o) w):=by
 have HH:=aq h;have HT:=aq hT;have OK:=aq hin.ok.sl;have SH:=aq hin.short.sl;have HX:=aq (OBox.new w o a A 33);have BB:=aq (fun o=>(Below.refl w.heap.size w).alloc (Nat.le_refl _) o);have CC:=aq (fun V (hb:Below w.heap.size w V)=>mCheck o a A V (h.below hb) hin (hT.below hb));have CP:=aq (fun V=>mPairs o.sl a V)
 have P16:(Om.pl o.sl).length<=65536:=by
  have h1:=Oc.places_length_le o.sl.words 0 o.sl.keys.length;have h2:(Om.pl o.sl).length=(Oc.places o.sl.words 0 o.sl.keys.length).length:=rfl;have h3:=hin.short.sl.keys
  omega
 clear h hin hT;unfold slv at CP;unfold odv at CC ⊢
 by_cases hc:Om.chkE o=0
 ·have EV:=aq (show Om.listV o=Om.hands o by unfold Om.listV;rw [if_pos hc])
  have HF:=aq (Om.chk_fit.1 hc);rw [hc] at CC ⊢;clear hc;refine calls_marks Tryz.func22 rfl ?_
  simp only [Tryz.ntmps22,List.size_toArray,List.length_cons,List.length_nil,Nat.reduceAdd,Nat.reduceSub,Array.replicate_succ,Array.replicate_zero,List.push_toArray,List.append_toArray,List.nil_append,List.cons_append]
  go_upto_region 1 with (fail)
  obtain⟨W0,hW0⟩:∃ W0,W0=w.alloc (.cells (odCells o a A) 33):=⟨_,rfl⟩;have BX:=aq (show OBox W0 w.heap.size o a A by rw [hW0];exact HX.out);have B0:=aq (show Below w.heap.size w W0 by rw [hW0];exact BB.out _);rw [<-hW0];clear hW0 HX BB;have z0:=B0.out.size;have zx:=BX.out.lt
  go_wp2_with (refine wpList_load_od rfl _ rfl _ rfl BX.out ?_)
  refine (CC.out W0 B0.out).mono ?_;rintro e w1 ⟨rfl,hb⟩;replace BX:=aq (BX.out.below hb);replace B0:=aq (B0.out.trans (hb.mono B0.out.size));have z1:=hb.size;clear hb CC
  go_upto_region 5 with (fail)
  obtain⟨V,hV⟩:∃ V,V=w1.alloc (.cells #[.slice none 0 0] 52):=⟨_,rfl⟩
  have hb:Below w1.heap.size w1 V:=by rw [hV];exact (Below.refl _ _).alloc (Nat.le_refl _) _
  have bl2:Boxed V w1.heap.size 52 (.slice none 0 0):=by rw [hV];exact Boxed.new _ _ _
  have zV:V.heap.size=w1.heap.size+1:=by rw [hV];simp
  replace BX:=aq (BX.out.below hb);replace B0:=aq (B0.out.trans (hb.mono B0.out.size));rw [<-hV];clear hV hb;have c9:=BX.out.cells.c9;have c10:=BX.out.cells.c10;have c11:=BX.out.cells.c11;have c12:=BX.out.cells.c12;have c13:=BX.out.cells.c13;have c14:=BX.out.cells.c14
  go_wp2_with fail
  refine (CP.out _).mono ?_;rintro e W5 ⟨b,rfl,hB,hb1,hb⟩;have B5:=aq (B0.out.trans (hb.mono B0.out.size));have L5:=aq (boxed_low bl2 bl2.lt hb);replace BX:=aq (BX.out.below hb);have HB:=aq hB;have H5:=aq (HH.out.below B5.out);have z5:=hb.size;have zb:=hB.lt;clear hB hb bl2 CP B0 c9 c10 c11 c12 c13 c14
  go_wp2_with fail
  refine wp_rangeQ (enc:=mEnc o.sl) (fun _=>rfl) (gf:=89) (lb:=#[.pointer (some ⟨b,0,none⟩)]) rfl (enters_of Tryz.func89 (by kernel_rfl) rfl)
   (mPairs_seq _ o.sl a b W5 ⟨HB.out,H5.out.sl,HT.out.below B5.out⟩ (zokM_of HH.out.sl HT.out hb1 zb) (fun k hk=>by rcases hk with hk | hk<;>omega) (Om.gap_may HF.out.gap) OK.out SH.out) (fun k hk=>by rcases hk with hk | hk<;>omega)
   (LstI o a A w w1.heap.size W5.heap.size) (fun _ _ _=>False) (lstI_own _ _ _ _ _ _ _ (by omega)) (fun _=>noneQ_own _)
   ⟨B5.out,Nat.le_refl _,BX.out,_,L5.out,World.ownsRow_nil _ _ _ _⟩
   (fun W x=>{ tmps:=#[.agg (odCells o a A),.pointer (some ⟨w.heap.size,0,none⟩),.slice none 0 0,.int .i64 0,.int .i64 0,.pointer (some ⟨w1.heap.size,0,none⟩),undef,.pointer (some ⟨W.heap.size,0,none⟩),.agg (odCells o a A),.int .i64 0,.int .i64 0,.bool false,undef,.pointer (some ⟨w.heap.size,9,none⟩),.agg #[.int .i64 o.sl.seg,.slice a.w o.sl.words.length a.cw,.slice a.k o.sl.keys.length a.ck,.slice a.v o.sl.vals.length a.cv,.slice a.c o.sl.counts.length a.cc,.int .u64 (o.sl.laid:Int)],.func (Fn.func 89) #[] #[.pointer (some ⟨b,0,none⟩)],.int .i64 (x:Int),.agg #[.int .i64 (o.sl.pairAt x).1,.int .i64 (o.sl.pairAt x).2],undef,undef,undef,undef,undef,undef,undef,undef,undef,undef,undef,undef,undef,undef],defers:=[] }) (fun W x=>W.alloc (.cells #[.int .i64 (o.sl.pairAt x).1,.int .i64 (o.sl.pairAt x).2] 93)) (fun W x=>(Below.refl _ _).alloc (Nat.le_refl _) _) ?assign ?body ?done ?stop
  case assign =>
   intro l x W K hK;unfold mEnc
   gi_wp2
   exact hK
  case body =>
   rintro l pre x W W' hI hpre hov hsz;have HI:=aq hI;have PK:=aq (show W'.heap[W.heap.size]?=some (.cells #[.int .i64 (o.sl.pairAt x).1,.int .i64 (o.sl.pairAt x).2] 93 (0,0)) from hov.cells _ _ (World.alloc_heap_new W _) rfl);obtain⟨vv,hbl,hrow⟩:=hI.row;obtain⟨A3,c3',rfl,_⟩:=own_cells hrow;have ROW:=aq hrow;have BL:=aq hbl;have sz':W5.heap.size<=W'.heap.size:=hI.size
   have zW:W.heap.size < W'.heap.size:=by rw [hsz];simp
   have zW2:W'.heap.size<=W.heap.size+1:=by rw [hsz];simp
   have hp16:pre.length<=65535:=by
    have h9:=hpre.length_le
    simp only [List.length_append,List.length_cons,List.length_nil] at h9
    omega
   have hxm:x∈Om.pl o.sl:=by
    obtain⟨r,hr⟩:=hpre;rw [<-hr]
    simp
   obtain⟨_,n0,n1,_⟩:=HF.out.fine x hxm;obtain⟨m,hm⟩:∃ m:Nat,Om.key o.sl x=m:=⟨(Om.key o.sl x).toNat,by omega⟩
   have hgl:m < o.tb.gens.length:=by have:=HF.out.may.len;omega
   obtain⟨b3,o3,hA3,hb3,g3⟩:=(HH.out.below HI.out.below).tb.gens.cell hgl;have hb3w:b3 < w.heap.size:=lst_ltH HH.out.tb.gens (by intro h;rw [h] at hgl;simp at hgl) _ hA3;replace g3:W'.cell? ⟨b3,o3+m,none⟩=some (.int .i64 (Hn.g o.tb m)):=g3;have c15:=hI.box.cells.c15;rw [hA3] at c15;have HD:=aq (show Om.hd o x=((m:Int),Hn.g o.tb m) by unfold Om.hd Om.hn;rw [hm,Int.toNat_natCast]);have PK1:(o.sl.pairAt x).1=(m:Int):=hm;rw [PK1] at PK;obtain⟨y,hy⟩:∃ y,Hn.g o.tb m=y:=⟨_,rfl⟩;rw [hy] at g3 HD
   have i3:(m:Int) < (o.tb.gens.length:Int):=by omega
   have G3:=aq g3;have C15:=aq c15;have q0:W'.cell? ⟨W.heap.size,0,none⟩=some (.int .i64 (m:Int)):=cell_of_row W' _ 0 _ _ _ PK.out;have HQ:=aq q0;clear hI hpre hov hrow hbl hxm n0 n1 hm hgl hA3 hb3 PK1 hy g3 c15 q0 HF OK SH;rw [show (o.sl.pairAt x).1=(m:Int) by (have:=congrArg Prod.fst HD.out;exact this)]
   gi_wp2
   refine wpIn_round_held (S:=fun w'=>w'.cell? ⟨W.heap.size,0,none⟩=some (.int .i64 (m:Int))/\w'.cell? ⟨w.heap.size,15,none⟩=some (.slice (some ⟨b3,o3,none⟩) o.tb.gens.length A.cg)/\w'.cell? ⟨b3,o3+m,none⟩=some (.int .i64 y)) (by kernel_rfl) (by kernel_rfl) (fun ⟨_,_,h⟩=>h) (by exact⟨HQ.out,C15.out,G3.out⟩) (fun hHeld=>?_);obtain⟨V0,hV0⟩:∃ V,V=W'.drew:=⟨_,rfl⟩;replace ROW:=aq (show V0.ownsRow W5.heap.size 39 2 (.slice A3 pre.length c3') pre.length (pcells (pre.map (Om.hd o))) by rw [hV0];exact own_below ROW.out ((Below.refl _ _).drew));replace BL:=aq (show Boxed V0 w1.heap.size 52 (.slice A3 pre.length c3') by rw [hV0];exact boxed_low BL.out BL.out.lt ((Below.refl _ _).drew));replace PK:=aq (show V0.heap[W.heap.size]?=some (.cells #[.int .i64 (m:Int),.int .i64 (o.sl.pairAt x).2] 93 (0,0)) by rw [hV0];exact PK.out);have KO:=aq (show KeepsOthers W' V0 by rw [hV0];exact keeps_drew W')
   have hbv:Below W'.heap.size W' V0:=by rw [hV0];exact (Below.refl _ _).drew
   have zv0:W'.heap.size<=V0.heap.size:=by rw [hV0];exact Nat.le_refl _
   rw [<-hV0] at hHeld ⊢;clear hV0;refine tk 1 ?_;refine tk 2 ?_;refine tk 3 ?_;refine tk 4 ?_;refine tk 5 ?_;refine tk 6 ?_;refine tk 7 ?_;refine tk 8 ?_;refine tk 9 ?_;refine tk 10 ?_;refine wpAnyH_ready (rs:=[0,11]) (by kernel_rfl) (by simp) ?_;refine cH (fun K hK=>?_) ?_
   ·skip
    have d0:=BL.out.cell;go_simp;clear d0;refine hK.out _ _ (by exact hHeld) (fun hHeldls10=>?_);clear hK K hHeld
    try simp only [sZ]
    refine rdH 11 fun K hK=>?_;go_simp;obtain⟨V1,hV1⟩:∃ V,V=V0.alloc (.cells #[.int .i64 (m:Int),.int .i64 y] 39):=⟨_,rfl⟩
    have hbl1:Below V0.heap.size V0 V1:=by rw [hV1];exact (Below.refl _ _).alloc (Nat.le_refl _) _
    replace BL:=aq (boxed_low BL.out BL.out.lt hbl1);have HS1:=hHeldls10;have AL:=aq hV1;rw [<-hV1];clear hV1;refine hK.out _ _ (by exact⟨(hbl1.cell (p:=⟨W.heap.size,0,none⟩) (by show W.heap.size < _;omega)).trans HS1.1,(hbl1.cell (p:=⟨w.heap.size,15,none⟩) (by show w.heap.size < _;omega)).trans HS1.2.1,(hbl1.cell (p:=⟨b3,o3+m,none⟩) (by show b3 < _;omega)).trans HS1.2.2⟩) (fun hHeldls11=>?_);clear hK K hHeldls10
    try simp only [sZ]
    refine rdH 12 fun K hK=>?_
    refine step_moreT elemH rfl (.tmp 18) (.tmp 29) rfl V0 39 [.int .i64 (m:Int),.int .i64 y] AL.out rfl W5.heap.size pre.length _ _ rfl rfl ROW.out (by intro u hu;simp at hu;rcases hu with rfl | rfl<;>rfl) (by omega) (by unfold maxLen;omega) (by omega) ?_
    intro v6 V6 hown6 hb6 ko6 ty6;have R6:=aq hown6;have HB6:=aq hb6;have KO6:=aq ko6;have PK6:=aq (ty6 _ _ _ (by decide) PK.out);have HS2:=hHeldls11;have BL6:=aq (show Boxed V6 w1.heap.size 52 (.slice A3 pre.length c3') from ty6 _ _ _ (by decide) (show V0.heap[w1.heap.size]?=_ from (hbl1.block _ (by omega)).symm.trans BL.out));have q6:V6.cell? ⟨W.heap.size,0,none⟩=some (.int .i64 (m:Int)):=cell_of_row V6 _ 0 _ _ _ PK6.out;have u6:V6.cell? ⟨w.heap.size,15,none⟩=some (.slice (some ⟨b3,o3,none⟩) o.tb.gens.length A.cg):=(hb6.cell (p:=⟨w.heap.size,15,none⟩) (by show w.heap.size < _;omega)).trans ((hbv.cell (p:=⟨w.heap.size,15,none⟩) (by show w.heap.size < _;omega)).trans C15.out);have x6:V6.cell? ⟨b3,o3+m,none⟩=some (.int .i64 y):=(hb6.cell (p:=⟨b3,o3+m,none⟩) (by show b3 < _;omega)).trans ((hbv.cell (p:=⟨b3,o3+m,none⟩) (by show b3 < _;omega)).trans G3.out);have Q6:=aq q6;have U6:=aq u6;have X6:=aq x6;obtain⟨A4,c4',rfl,_⟩:=own_cells hown6;clear hown6 hb6 ko6 ty6 BL q6 u6 x6;refine hK.out _ _ (by exact⟨Q6.out,U6.out,X6.out⟩) (fun hHeldls12=>?_);clear hK K hHeldls11
    try simp only [sZ]
    refine rdH 13 fun K hK=>?_;have e0:=BL6.out.cell;have e1:=BL6.out.frozen;go_simp;clear e0 e1;refine hK.out _ _ (by exact⟨(World.cell?_setCell_other _ _ _ _ (by intro h;simp only [Addr.mk.injEq] at h;omega)).trans Q6.out,(World.cell?_setCell_other _ _ _ _ (by intro h;simp only [Addr.mk.injEq] at h;omega)).trans U6.out,(World.cell?_setCell_other _ _ _ _ (by intro h;simp only [Addr.mk.injEq] at h;omega)).trans X6.out⟩) (fun hHeldls13=>?_);clear hK K hHeldls12
    try simp only [sZ]
    refine wpAnyH_done (by kernel_rfl) ?_ _
    gi_wp2
    refine⟨((KO.out.trans KO6.out).trans (KeepsOthers.setCell _ _ _)),((Kept.of_below hbv (fun k hk=>by rcases hk with hk | hk<;>omega)).trans (Kept.of_below HB6.out (fun k hk=>by rcases hk with hk | hk<;>omega))).setCell (by simp;omega) _,?_⟩
    have e:(pre++[x]).length=pre.length+1:=by simp
    have e2:pcells ((pre++[x]).map (Om.hd o))=pcells (pre.map (Om.hd o))++[.int .i64 (m:Int),.int .i64 y]:=by rw [List.map_append,pcells_append];simp [HD.out,pcells]
    have zz6:=HB6.out.size;refine⟨((HI.out.below.trans (hbv.mono HI.out.below.size)).trans (HB6.out.mono (by omega))).setCell (by simp;omega) _,by rw [World.size_setCell];omega,((HI.out.box.below hbv).low (by omega) HB6.out).other (by simp;omega) _,_,BL6.out.set _,?_⟩;rw [e,e2];exact row_far R6.out (by omega) _
   refine cH (fun K hK=>?_) AllReadyH.nil;go_simp;obtain⟨V1,hV1⟩:∃ V,V=V0.alloc (.cells #[.int .i64 (m:Int),.int .i64 y] 39):=⟨_,rfl⟩
   have hbl1:Below V0.heap.size V0 V1:=by rw [hV1];exact (Below.refl _ _).alloc (Nat.le_refl _) _
   replace BL:=aq (boxed_low BL.out BL.out.lt hbl1);have HS1:=hHeld;have AL:=aq hV1;rw [<-hV1];clear hV1;refine hK.out _ _ (by exact⟨(hbl1.cell (p:=⟨W.heap.size,0,none⟩) (by show W.heap.size < _;omega)).trans HS1.1,(hbl1.cell (p:=⟨w.heap.size,15,none⟩) (by show w.heap.size < _;omega)).trans HS1.2.1,(hbl1.cell (p:=⟨b3,o3+m,none⟩) (by show b3 < _;omega)).trans HS1.2.2⟩) (fun hHeldls14=>?_);clear hK K hHeld
   try simp only [sZ]
   refine rdH 0 fun K hK=>?_;have d0:=BL.out.cell;go_simp;clear d0;refine hK.out _ _ (by exact hHeldls14) (fun hHeldls15=>?_);clear hK K hHeldls14
   try simp only [sZ]
   refine rdH 12 fun K hK=>?_
   refine step_moreT elemH rfl (.tmp 18) (.tmp 29) rfl V0 39 [.int .i64 (m:Int),.int .i64 y] AL.out rfl W5.heap.size pre.length _ _ rfl rfl ROW.out (by intro u hu;simp at hu;rcases hu with rfl | rfl<;>rfl) (by omega) (by unfold maxLen;omega) (by omega) ?_
   intro v6 V6 hown6 hb6 ko6 ty6;have R6:=aq hown6;have HB6:=aq hb6;have KO6:=aq ko6;have PK6:=aq (ty6 _ _ _ (by decide) PK.out);have HS2:=hHeldls15;have BL6:=aq (show Boxed V6 w1.heap.size 52 (.slice A3 pre.length c3') from ty6 _ _ _ (by decide) (show V0.heap[w1.heap.size]?=_ from (hbl1.block _ (by omega)).symm.trans BL.out));have q6:V6.cell? ⟨W.heap.size,0,none⟩=some (.int .i64 (m:Int)):=cell_of_row V6 _ 0 _ _ _ PK6.out;have u6:V6.cell? ⟨w.heap.size,15,none⟩=some (.slice (some ⟨b3,o3,none⟩) o.tb.gens.length A.cg):=(hb6.cell (p:=⟨w.heap.size,15,none⟩) (by show w.heap.size < _;omega)).trans ((hbv.cell (p:=⟨w.heap.size,15,none⟩) (by show w.heap.size < _;omega)).trans C15.out);have x6:V6.cell? ⟨b3,o3+m,none⟩=some (.int .i64 y):=(hb6.cell (p:=⟨b3,o3+m,none⟩) (by show b3 < _;omega)).trans ((hbv.cell (p:=⟨b3,o3+m,none⟩) (by show b3 < _;omega)).trans G3.out);have Q6:=aq q6;have U6:=aq u6;have X6:=aq x6;obtain⟨A4,c4',rfl,_⟩:=own_cells hown6;clear hown6 hb6 ko6 ty6 BL q6 u6 x6;refine hK.out _ _ (by exact⟨Q6.out,U6.out,X6.out⟩) (fun hHeldls16=>?_);clear hK K hHeldls15
   try simp only [sZ]
   refine rdH 13 fun K hK=>?_;have e0:=BL6.out.cell;have e1:=BL6.out.frozen;go_simp;clear e0 e1;refine hK.out _ _ (by exact⟨(World.cell?_setCell_other _ _ _ _ (by intro h;simp only [Addr.mk.injEq] at h;omega)).trans Q6.out,(World.cell?_setCell_other _ _ _ _ (by intro h;simp only [Addr.mk.injEq] at h;omega)).trans U6.out,(World.cell?_setCell_other _ _ _ _ (by intro h;simp only [Addr.mk.injEq] at h;omega)).trans X6.out⟩) (fun hHeldls17=>?_);clear hK K hHeldls16
   try simp only [sZ]
   refine wpAnyH_done (by kernel_rfl) ?_ _
   gi_wp2
   refine⟨((KO.out.trans KO6.out).trans (KeepsOthers.setCell _ _ _)),((Kept.of_below hbv (fun k hk=>by rcases hk with hk | hk<;>omega)).trans (Kept.of_below HB6.out (fun k hk=>by rcases hk with hk | hk<;>omega))).setCell (by simp;omega) _,?_⟩
   have e:(pre++[x]).length=pre.length+1:=by simp
   have e2:pcells ((pre++[x]).map (Om.hd o))=pcells (pre.map (Om.hd o))++[.int .i64 (m:Int),.int .i64 y]:=by rw [List.map_append,pcells_append];simp [HD.out,pcells]
   have zz6:=HB6.out.size;refine⟨((HI.out.below.trans (hbv.mono HI.out.below.size)).trans (HB6.out.mono (by omega))).setCell (by simp;omega) _,by rw [World.size_setCell];omega,((HI.out.box.below hbv).low (by omega) HB6.out).other (by simp;omega) _,_,BL6.out.set _,?_⟩;rw [e,e2];exact row_far R6.out (by omega) _
  case done =>
   rintro D W hD hI hKD;obtain⟨vv,hbl,hrow⟩:=hI.row;have HI:=aq hI.below;have RW:=aq hrow;have hDlt:D < W.heap.size:=(Array.getElem?_eq_some_iff.1 hKD).1;have hKD2:=aq hKD;obtain⟨A3,c3',rfl,_⟩:=own_cells hrow;have d0:=hbl.cell;have EH:=aq (Om.hands_pl o);have z9:=B5.out.size;clear hI hrow hKD hbl HF;go_wp2;refine leaves_one hKD2.out ?_;have ov:=Over.of_grown (n:=0) (grownBy_putObj' W D (.deferred none)) (fun r e=>by cases e;exact⟨Nat.zero_le _,_,hKD2.out,rfl⟩);refine⟨_,results_tmp2 rfl _ _ _,⟨_,rfl,?_,?_⟩⟩
   ·rw [EV.out,EH.out,List.length_map]
    exact own_lower (ov.ownsRow RW.out) (by omega)
   ·exact HI.out.trans ((Below.refl w.heap.size W).grown (grownBy_putObj' W D _) (by have:=HI.out.size;omega) (fun k e=>by cases e;omega))
  case stop =>
   rintro D c pre W hD hSp hF hKD;exact hF.elim
 ·have EV:=aq (show Om.listV o=[] by unfold Om.listV;rw [if_neg hc])
  have k1:(Om.chkE o != 0)=true:=by simpa using hc
  clear hc
  go_enter Tryz.func22,Tryz.ntmps22
  go_upto_region 1 with (fail)
  obtain⟨W0,hW0⟩:∃ W0,W0=w.alloc (.cells (odCells o a A) 33):=⟨_,rfl⟩;have BX:=aq (show OBox W0 w.heap.size o a A by rw [hW0];exact HX.out);have B0:=aq (show Below w.heap.size w W0 by rw [hW0];exact BB.out _);rw [<-hW0];clear hW0 HX BB
  go_wp2_with (refine wpList_load_od rfl _ rfl _ rfl BX.out ?_)
  refine (CC.out W0 B0.out).mono ?_;rintro e w1 ⟨rfl,hb⟩;replace BX:=aq (BX.out.below hb);replace B0:=aq (B0.out.trans (hb.mono B0.out.size));clear hb CC;go_wp2;go_ret2;rw [EV.out];exact⟨_,rfl,World.ownsRow_nil _ _ _ _,B0.out⟩
end Go.Proofs.YtpeckljoannolaaGreatDoor
namespace Go.Proofs.YtpeckljoannolaaGreatDoor
open Go.RowKit
theorem OBox.zero (w:World):OBox (w.alloc (.cells (odCells Od.zero adsNone hNone) 33)) w.heap.size Od.zero adsNone hNone:=OBox.new w _ _ _ _
theorem mNew (c:Cf) (w:World) (hc:c.In) :
  Calls Tryz.prog 9 #[cfv c] w (OAns (Om.newV c) c.chkE w):=by
 have HC:=aq (fun x=>(CBox.new w c 23).below ((Below.refl _ _).alloc (Nat.le_refl _) x));have HZ:=aq (fun x=>OBox.zero (w.alloc x));have BB:=aq (fun x y=>((Below.refl w.heap.size w).alloc (Nat.le_refl _) x).alloc (by simp) y);have CN:=aq (fun V=>gNew c V hc);have NV:=aq (show Om.newV c=if c.chkE=0 then (⟨c,Gp.newS c,Ht.zero,0⟩:Od) else Od.zero from rfl);clear hc;unfold cfv at CN ⊢
 go_enter Tryz.func9,Tryz.ntmps9
 go_upto_region 1 with (fail)
 obtain⟨W0,hW0⟩:∃ W0,W0=(w.alloc (.cells #[.int .u8 c.tag,.int .i64 c.most,.int .i64 c.seg,.int .i64 c.least,.int .i64 c.den,.int .i64 c.ll,.int .i64 c.rl,.int .i64 c.rh,.int .i64 c.lh] 23)).alloc (.cells #[.int .u8 0,.int .i64 0,.int .i64 0,.int .i64 0,.int .i64 0,.int .i64 0,.int .i64 0,.int .i64 0,.int .i64 0,.int .i64 0,.slice none 0 0,.slice none 0 0,.slice none 0 0,.slice none 0 0,.int .u64 0,.slice none 0 0,.slice none 0 0,.int .u64 0] 33):=⟨_,rfl⟩;have BC:=aq (show CBox W0 w.heap.size c by rw [hW0];exact HC.out _);have BR:=aq (show OBox W0 (w.heap.size+1) Od.zero adsNone hNone by rw [hW0];have:=HZ.out (.cells #[.int .u8 c.tag,.int .i64 c.most,.int .i64 c.seg,.int .i64 c.least,.int .i64 c.den,.int .i64 c.ll,.int .i64 c.rl,.int .i64 c.rh,.int .i64 c.lh] 23);rw [World.size_alloc] at this;exact this);have B0:=aq (show Below w.heap.size w W0 by rw [hW0];exact BB.out _ _)
 have z0:w.heap.size+2<=W0.heap.size:=by rw [hW0];simp
 rw [<-hW0];clear hW0 HC HZ BB;obtain⟨_,c0,c1,c2,c3,c4,c5,c6,c7,c8,_⟩:=BC.out
 go_wp2_with fail
 refine (CN.out W0).mono ?_;rintro e w1 ⟨a1,rfl,own,hb⟩;have z1:=hb.size;have OW:=aq (own.lower (show w.heap.size+2<=W0.heap.size from z0));replace BC:=aq (BC.out.below hb);replace BR:=aq (BR.out.below hb);replace B0:=aq (B0.out.trans (hb.mono B0.out.size));clear own hb CN c0 c1 c2 c3 c4 c5 c6 c7 c8;unfold slv
 go_upto_region 2 with (fail)
 obtain⟨W2,hW2⟩:∃ W2,W2=w1.alloc (.cells #[.int .i64 (Gp.newS c).seg,.slice a1.w (Gp.newS c).words.length a1.cw,.slice a1.k (Gp.newS c).keys.length a1.ck,.slice a1.v (Gp.newS c).vals.length a1.cv,.slice a1.c (Gp.newS c).counts.length a1.cc,.int .u64 ((Gp.newS c).laid:Int)] 29):=⟨_,rfl⟩
 have hb:Below w1.heap.size w1 W2:=by rw [hW2];exact (Below.refl _ _).alloc (Nat.le_refl _) _
 have BS:=aq (show Box W2 w1.heap.size (Gp.newS c) a1 by rw [hW2];exact Box.new _ _ _ _);rw [<-hW2];clear hW2;replace BC:=aq (BC.out.below hb);replace BR:=aq (BR.out.below hb);replace OW:=aq (OW.out.below hb);replace B0:=aq (B0.out.trans (hb.mono B0.out.size));have z2:=hb.size;clear hb
 by_cases hk:c.chkE=0
 ·have k1:(c.chkE != 0)=false:=by simpa using hk
  have EV:=aq (show Om.newV c=⟨c,Gp.newS c,Ht.zero,0⟩ by rw [NV.out,if_pos hk]);have EE:=aq hk;clear hk NV;obtain⟨_,c0,c1,c2,c3,c4,c5,c6,c7,c8,_⟩:=BC.out;obtain⟨_,s0,s1,s2,s3,s4,s5,_⟩:=BS.out;generalize Gp.newS c=s at *
  go_wp2_with (refine wpList_store_od rfl _ _ rfl _ rfl ⟨c,s,Ht.zero,0⟩ a1 hNone rfl BR.out ?_;intro W3 hX hL;have BX:=aq hX;have LD:=aq hL;clear hX hL)
  refine bodyPost_ret (results_ode (by first | rfl | kernel_rfl) _ _ _ _ rfl rfl BX.out) rfl ?_;rw [EV.out,EE.out];exact⟨_,_,rfl,OOwn.laid (B:=w.heap.size+2) ⟨OW.out,own_zero _ _⟩ LD.out (by omega) |>.lower (by omega),LD.out.below B0.out (by omega)⟩
 ·have k1:(c.chkE != 0)=true:=by simpa using hk
  have EV:=aq (show Om.newV c=Od.zero by rw [NV.out,if_neg hk]);clear hk NV
  go_wp2_with (refine wpList_store_od rfl _ _ rfl _ rfl Od.zero adsNone hNone rfl BR.out ?_;intro W3 hX hL;have BX:=aq hX;have LD:=aq hL;clear hX hL)
  refine bodyPost_ret (results_ode (by first | rfl | kernel_rfl) _ _ _ _ rfl rfl BX.out) rfl ?_;rw [EV.out];exact⟨_,_,rfl,oown_zero _ _,LD.out.below B0.out (by omega)⟩
theorem mSame (o p:Od) (a b:Ads) (A B:HAds) (w:World) (h:OHeld w o a A) (h':OHeld w p b B) (hin:o.In) (hp:p.Ok) (hps:p.Short) :
  Calls Tryz.prog 27 #[odv o a A,odv p b B] w fun e w'=>e=.returned (.bool (Om.sameB o p))/\Below w.heap.size w w':=by
 have HX:=aq (fun x=>(OBox.new w o a A 33).below ((Below.refl _ _).alloc (Nat.le_refl _) x));have HY:=aq (fun x=>OBox.new (w.alloc x) p b B 33);have BB:=aq (fun x y=>((Below.refl w.heap.size w).alloc (Nat.le_refl _) x).alloc (by simp) y);have CS:=aq (fun V (hb:Below w.heap.size w V)=>sSame o.sl p.sl a b V (h.below hb).sl (h'.below hb).sl hin.short.sl hps.sl);have CH:=aq (fun V (hb:Below w.heap.size w V)=>hSame o.tb p.tb A B V (h.below hb).tb (h'.below hb).tb hin.ok.tb hp.tb hin.short.tb hps.tb);have EQ:∀ V:World,Sem.run Tryz.prog (Op.equalIn 10000 23 (.agg #[.int .u8 o.cf.tag,.int .i64 o.cf.most,.int .i64 o.cf.seg,.int .i64 o.cf.least,.int .i64 o.cf.den,.int .i64 o.cf.ll,.int .i64 o.cf.rl,.int .i64 o.cf.rh,.int .i64 o.cf.lh]) (.agg #[.int .u8 p.cf.tag,.int .i64 p.cf.most,.int .i64 p.cf.seg,.int .i64 p.cf.least,.int .i64 p.cf.den,.int .i64 p.cf.ll,.int .i64 p.cf.rl,.int .i64 p.cf.rh,.int .i64 p.cf.lh])) V=.ok (Om.cfB o.cf p.cf) V:=fun V=>eq_conf 9998 o.cf p.cf V
 have hgd:Tryz.prog.eqGuardType Tryz.prog.depth 23=false:=by kernel_rfl
 have ES:=aq (show Om.sameB o p=(Om.cfB o.cf p.cf&&((o.moved:Int)==(p.moved:Int))&&o.sl.sameB p.sl&&Hn.sameB o.tb p.tb) by
  unfold Om.sameB
  congr 3
  rw [Bool.eq_iff_iff]
  simp only [beq_iff_eq]
  omega)
 clear h h' hin hp hps;unfold slv at CS;unfold hv at CH;unfold odv
 go_enter Tryz.func27,Tryz.ntmps27
 go_upto_region 1 with (fail)
 obtain⟨W0,hW0⟩:∃ W0,W0=(w.alloc (.cells (odCells o a A) 33)).alloc (.cells (odCells p b B) 33):=⟨_,rfl⟩;have BX:=aq (show OBox W0 w.heap.size o a A by rw [hW0];exact HX.out _);have BY:=aq (show OBox W0 (w.heap.size+1) p b B by rw [hW0];have:=HY.out (.cells (odCells o a A) 33);rw [World.size_alloc] at this;exact this);have B0:=aq (show Below w.heap.size w W0 by rw [hW0];exact BB.out _ _);rw [<-hW0];clear hW0 HX HY BB;obtain⟨c0,c1,c2,c3,c4,c5,c6,c7,c8,c9,c10,c11,c12,c13,c14,c15,c16,c17⟩:=BX.out.cells;obtain⟨d0,d1,d2,d3,d4,d5,d6,d7,d8,d9,d10,d11,d12,d13,d14,d15,d16,d17⟩:=BY.out.cells
 cases hc:Om.cfB o.cf p.cf
 ·have E:=aq (show Om.sameB o p=false by rw [ES.out,hc];rfl)
  rw [hc] at EQ;go_wp2;go_ret;rw [E.out];exact⟨rfl,B0.out⟩
 ·cases hm:((o.moved:Int)==(p.moved:Int))
  ·have E:=aq (show Om.sameB o p=false by rw [ES.out,hc,hm];rfl)
   rw [hc] at EQ;go_wp2;go_ret;rw [E.out];exact⟨rfl,B0.out⟩
  ·rw [hc] at EQ
   rw [hc,hm] at ES
   go_wp2_with fail
   refine (CS.out W0 B0.out).mono ?_;rintro e w1 ⟨rfl,hb⟩;replace BX:=aq (BX.out.below hb);replace BY:=aq (BY.out.below hb);replace B0:=aq (B0.out.trans (hb.mono B0.out.size));clear hb CS EQ c0 d0 c1 d1 c2 d2 c3 d3 c4 d4 c5 d5 c6 d6 c7 d7 c8 d8 c9 d9 c10 d10 c11 d11 c12 d12 c13 d13 c14 d14 c15 d15 c16 d16 c17 d17
   cases hs:o.sl.sameB p.sl
   ·have E:=aq (show Om.sameB o p=false by rw [ES.out,hs];rfl)
    go_wp2;go_ret;rw [E.out];exact⟨rfl,B0.out⟩
   ·have E:=aq (show Om.sameB o p=Hn.sameB o.tb p.tb by rw [ES.out,hs];rfl)
    have c15:=BX.out.cells.c15;have c16:=BX.out.cells.c16;have d15:=BY.out.cells.c15;have d16:=BY.out.cells.c16
    go_wp2_with fail
    refine (CH.out w1 B0.out).mono ?_;rintro e w2 ⟨rfl,hb⟩;replace B0:=aq (B0.out.trans (hb.mono B0.out.size));clear hb CH c15 c16 d15 d16;go_wp2;go_ret;rw [E.out];exact⟨rfl,B0.out⟩
theorem mTwin (o:Od) (a:Ads) (A:HAds) (w:World) (h:OHeld w o a A) (hok:o.tb.Ok) (hs:o.Short) :
  Calls Tryz.prog 16 #[odv o a A] w (OPost o w):=by
 have HX:=aq (fun x=>(OBox.new w o a A 33).below ((Below.refl _ _).alloc (Nat.le_refl _) x));have HZ:=aq (fun x=>OBox.zero (w.alloc x));have BB:=aq (fun x y=>((Below.refl w.heap.size w).alloc (Nat.le_refl _) x).alloc (by simp) y);have CS:=aq (fun V (hb:Below w.heap.size w V)=>sTwin o.sl a V (h.below hb).sl hs.sl);have CH:=aq (fun V (hb:Below w.heap.size w V)=>hTwin o.tb A V (h.below hb).tb hok hs.tb);clear h hok hs;unfold slv at CS;unfold hv at CH;unfold odv
 go_enter Tryz.func16,Tryz.ntmps16
 go_upto_region 1 with (fail)
 obtain⟨W0,hW0⟩:∃ W0,W0=(w.alloc (.cells (odCells o a A) 33)).alloc (.cells #[.int .u8 0,.int .i64 0,.int .i64 0,.int .i64 0,.int .i64 0,.int .i64 0,.int .i64 0,.int .i64 0,.int .i64 0,.int .i64 0,.slice none 0 0,.slice none 0 0,.slice none 0 0,.slice none 0 0,.int .u64 0,.slice none 0 0,.slice none 0 0,.int .u64 0] 33):=⟨_,rfl⟩;have BX:=aq (show OBox W0 w.heap.size o a A by rw [hW0];exact HX.out _);have BR:=aq (show OBox W0 (w.heap.size+1) Od.zero adsNone hNone by rw [hW0];have:=HZ.out (.cells (odCells o a A) 33);rw [World.size_alloc] at this;exact this);have B0:=aq (show Below w.heap.size w W0 by rw [hW0];exact BB.out _ _)
 have z0:w.heap.size+2<=W0.heap.size:=by rw [hW0];simp
 rw [<-hW0];clear hW0 HX HZ BB;refine wp_region_held_drew (S:=fun w'=>OBox w' w.heap.size o a A) (by kernel_rfl) (by exact BX.out.below ((Below.refl _ _).drew)) (fun hHeld=>?_);obtain⟨V0,hV⟩:∃ V,V=W0.drew:=⟨_,rfl⟩;replace BX:=aq (show OBox V0 w.heap.size o a A by rw [hV];exact BX.out.below ((Below.refl _ _).drew));replace BR:=aq (show OBox V0 (w.heap.size+1) Od.zero adsNone hNone by rw [hV];exact BR.out.below ((Below.refl _ _).drew));replace B0:=aq (show Below w.heap.size w V0 by rw [hV];exact B0.out.drew)
 have y0:w.heap.size+2<=V0.heap.size:=by rw [hV];exact z0
 rw [<-hV] at hHeld ⊢;clear hV;refine tk 0 ?_;refine wpAnyH_take (i:=1) (oi:=Oper.mk _ _ _ _ _ _) (v:=?vtw1) rfl (by kernel_rfl) (by kernel_rfl) (by kernel_rfl) (fun _ _ _ h=>h) (Or.inl ⟨by rfl,?hytw1⟩) (by assumption) ?resttw1
 case hytw1 =>
  intro w0 hSw;obtain⟨c0,c1,c2,c3,c4,c5,c6,c7,c8,c9,c10,c11,c12,c13,c14,c15,c16,c17⟩:=hSw.cells;clear hSw;go_simp
  all_goals with_reducible rfl
 try simp only [sZ]
 refine tk 2 ?_;refine wpAnyH_take (i:=3) (oi:=Oper.mk _ _ _ _ _ _) (v:=?vtw3) rfl (by kernel_rfl) (by kernel_rfl) (by kernel_rfl) (fun _ _ _ h=>h) (Or.inl ⟨by rfl,?hytw3⟩) (by assumption) ?resttw3
 case hytw3 =>
  intro w0 hSw;obtain⟨c0,c1,c2,c3,c4,c5,c6,c7,c8,c9,c10,c11,c12,c13,c14,c15,c16,c17⟩:=hSw.cells;clear hSw;go_simp
  all_goals with_reducible rfl
 try simp only [sZ]
 refine tk 5 ?_;refine wpAnyH_take (i:=6) (oi:=Oper.mk _ _ _ _ _ _) (v:=?vtw5) rfl (by kernel_rfl) (by kernel_rfl) (by kernel_rfl) (fun _ _ _ h=>h) (Or.inl ⟨by rfl,?hytw5⟩) (by assumption) ?resttw5
 case hytw5 =>
  intro w0 hSw;obtain⟨c0,c1,c2,c3,c4,c5,c6,c7,c8,c9,c10,c11,c12,c13,c14,c15,c16,c17⟩:=hSw.cells;clear hSw;go_simp
  all_goals with_reducible rfl
 try simp only [sZ]
 refine tk 8 ?_;refine wpAnyH_take (i:=9) (oi:=Oper.mk _ _ _ _ _ _) (v:=?vtw7) rfl (by kernel_rfl) (by kernel_rfl) (by kernel_rfl) (fun _ _ _ h=>h) (Or.inl ⟨by rfl,?hytw7⟩) (by assumption) ?resttw7
 case hytw7 =>
  intro w0 hSw;obtain⟨c0,c1,c2,c3,c4,c5,c6,c7,c8,c9,c10,c11,c12,c13,c14,c15,c16,c17⟩:=hSw.cells;clear hSw;go_simp
  all_goals with_reducible rfl
 try simp only [sZ]
 refine rdH 4 fun K hK=>?_;go_simp;refine (CS.out V0 B0.out).mono ?_;rintro e V1 ⟨a1,rfl,own,_,_,hb⟩
 try unfold slv
 try (go_simp)
 have y1:V0.heap.size<=V1.heap.size:=hb.size;have O1:=aq (own.lower y0);replace BX:=aq (BX.out.below hb);replace BR:=aq (BR.out.below hb);replace B0:=aq (B0.out.trans (hb.mono B0.out.size));clear own hb;refine hK.out _ _ (by exact BX.out) (fun hHeldtw8=>?_);clear hK K hHeld
 try simp only [sZ]
 refine rdH 7 fun K hK=>?_;go_simp;refine (CH.out V1 B0.out).mono ?_;rintro e V2 ⟨A1,rfl,own,hb⟩
 try unfold hv
 try (go_simp)
 have O2:=aq (own.lower (show w.heap.size+2<=V1.heap.size by omega));replace BX:=aq (BX.out.below hb);replace BR:=aq (BR.out.below hb);replace O1:=aq (O1.out.below hb);replace B0:=aq (B0.out.trans (hb.mono B0.out.size));clear own hb;refine hK.out _ _ (by exact BX.out) (fun hHeldtw9=>?_);clear hK K hHeldtw8
 try simp only [sZ]
 refine wpAnyH_take (i:=10) (oi:=Oper.mk _ _ _ _ _ _) (v:=?vtw10) rfl (by kernel_rfl) (by kernel_rfl) (by kernel_rfl) (fun _ _ _ h=>h) (Or.inl ⟨by rfl,?hytw10⟩) (by assumption) ?resttw10
 case hytw10 =>
  intro w0 hSw;clear hSw;go_simp
  all_goals rfl
 try simp only [sZ]
 refine rdH 11 fun K hK=>?_;refine step_store_od rfl _ _ rfl _ rfl o a1 A1 rfl BR.out ?_;intro V3 hX hL;have BY:=aq hX;have LD:=aq hL;replace BX:=aq (hL.obox BX.out (by omega));clear hX hL BR;refine hK.out _ _ (by exact BX.out) (fun hHeldtw11=>?_);clear hK K hHeldtw9
 try simp only [sZ]
 refine wpAnyH_done (by kernel_rfl) ?_ _;go_wp2;refine bodyPost_ret (results_od (by first | rfl | kernel_rfl) _ _ _ rfl BY.out) rfl ?_;exact⟨_,_,rfl,(OOwn.laid (B:=w.heap.size+2) ⟨O1.out,O2.out⟩ LD.out (by omega)).lower (by omega),LD.out.below B0.out (by omega)⟩
end Go.Proofs.YtpeckljoannolaaGreatDoor

/- What package span's Scan returns: the pairs of keys from one to another, the first most of them, in new memory. -/
import Derived.Test.YtfdpkmafemidjaaDoorSpanCSp
import Derived.Test.YtfdpkmafemidjaaDoorP07Sp
import Derived.Test.YtfdpkmafemidjaaDoorM04Sp
import Derived.Test.YtfdpkmafemidjaaDoorTkSp
set_option linter.unusedVariables false
set_option linter.unusedSimpArgs false
set_option maxHeartbeats 8000000
set_option maxRecDepth 100000
namespace Go.Proofs.YtfdpkmafemidjaaDoor
open Go.RowKit Go.Shelf
attribute [local go_sem] Oper.semAt_some
def ScanPost (ps:List (Int×Int)) (er:Int) (w:World) (e:Ending) (w':World):Prop :=
 ∃ v,e=.returned (.tuple #[v,.int .i64 er])/\w'.ownsRow w.heap.size 32 2 v ps.length (pcells ps)/\Below w.heap.size w w'
structure ScanI (s:Sl) (f t n:Int) (w:World) (bt bm bl base:Nat) (pre:List Nat) (W:World):Prop where
 to_:Boxed W bt 2 (.int .i64 t)
 most:Boxed W bm 3 (.int .i64 n)
 below:Below w.heap.size w W
 size:base<=W.heap.size
 row:∃ v,Boxed W bl 38 v/\W.ownsRow base 32 2 v pre.length (pcells (pre.map s.pairAt))
 way:Sn.Way s f t n.toNat pre
theorem scanI_own (s:Sl) (a b n:Int) (w:World) (bt bm bl base m:Nat) (hn:w.heap.size<=m):OwnFrom m (ScanI s a b n w bt bm bl base):=fun pre A B row hs hg hr =>
 have ho:=Over.of_grown hg hr
 ⟨ho.boxed hs.to_,ho.boxed hs.most,ownFrom_below (β:=Unit) (Nat.le_refl _) hn () A B row hs.below hg hr,Nat.le_trans hs.size ho.size,by
  obtain⟨v,h1,h2⟩:=hs.row
  exact⟨v,ho.boxed h1,ho.ownsRow h2⟩,hs.way⟩
structure ScanX (s:Sl) (f t n:Int) (w:World) (bl base:Nat) (c:Code) (pre:List Nat) (W:World):Prop where
 code:c=.exit 0
 below:Below w.heap.size w W
 size:base<=W.heap.size
 row:∃ v,Boxed W bl 38 v/\W.ownsRow base 32 2 v (Sn.scanV s f t n).length (pcells (Sn.scanV s f t n))
theorem scanX_own (s:Sl) (a b n:Int) (w:World) (bl base m:Nat) (hn:w.heap.size<=m) (c:Code):OwnFrom m (ScanX s a b n w bl base c):=fun pre A B row hs hg hr =>
 have ho:=Over.of_grown hg hr
 ⟨hs.code,ownFrom_below (β:=Unit) (Nat.le_refl _) hn () A B row hs.below hg hr,Nat.le_trans hs.size ho.size,by
  obtain⟨v,h1,h2⟩:=hs.row
  exact⟨v,ho.boxed h1,ho.ownsRow h2⟩⟩
theorem pair_laid (W:World) (p:Int×Int) (t:TypeId):(W.alloc (.cells #[.int .i64 p.1,.int .i64 p.2] t)).heap[W.heap.size]?=some (.cells #[.int .i64 p.1,.int .i64 p.2] t (0,0)):=by show (W.heap.push _)[W.heap.size]?=_;exact Array.getElem?_push_size
theorem wpListIn_moreIn {F:Fence} {m:Nat} {P:Program} {T E:TypeId} {z:Value} {size bytes:Nat} (hE:Elem P T E z size bytes) {w:World} {ops:Array Oper} {rest:List Oper} {o:Oper} {act:Act} {Q:Exit->Act->World->Prop} (hgd:o.guard=none) (s x:Operand)
  (ho:o.op=.call { callee:=.builtin .append,args:=#[s,x],argTypes:=#[T,T] })
  (W:World) (t:TypeId) (us:List Value) (hW:w=W.alloc (.cells us.toArray t)) (hus:us.length=size) (base n:Nat) (v:Value) (xs:List Value) (hs:act.eval s=v) (hx:act.eval x=.slice (some ⟨W.heap.size,0,none⟩) 1 1)
  (hown:W.ownsRow base E size v n xs) (h1:∀ u∈us,u.oneCell'=true) (hbase:base<=W.heap.size) (h63:n+1<=maxLen) (hby:(n+1)*bytes<=140737488355328)
  (h:∀ v' w',w'.ownsRow base E size v' (n+1) (xs++us)->Below base W w'->KeepsOthers W w'->wpListIn F m P ops Q rest (act.put o.dst v') w'):wpListIn F m P ops Q (o::rest) act w:=by
 refine wpListIn_plain hgd fun K hK=>?_;have q:=step_moreIn (F:=F) (m:=m) hE (ops:=ops) (K:=K) (Q:=Q) (FF:=True) hgd s x ho W t us hW hus base n v xs hs hx hown h1 hbase h63 hby (fun v' w' r1 r2 r3=>hK _ _ (h v' w' r1 r2 r3))
 rwa [if_pos (by simp [Region.wanted,hgd])] at q
theorem nScan_ok (s:Sl) (a:Ads) (f t n:Int) (w:World) (h:Held w s a) (hok:s.Ok) (hs:s.Short) (hT:Tab w) (hc:Sk.chkE s=0) (n0:0<=n) (n1:n<=1000) :
  Calls Tryd.prog 16 #[slv s a,.int .i64 f,.int .i64 t,.int .i64 n] w (ScanPost (Sn.scanV s f t n) 0 w):=by
 have hr:=(Sk.chk_zero.1 hc).2
 have hE:Sn.scanE s n=0:=by unfold Sn.scanE;rw [if_pos hc,if_pos ⟨n0,n1⟩]
 have HV:=aq (show Sn.scanV s f t n=(Sn.run s f t).take n.toNat by unfold Sn.scanV;rw [if_pos hE]);have HH:=aq h;have HT:=aq hT;have HR:=aq hr;have HC:=aq hc;have OK:=aq hok;have SH:=aq hs;have CC:=aq (fun W (hb:Below w.heap.size w W)=>kCheck s a W (h.below hb) hok hs (hT.below hb));rw [hc] at CC;have CO:=aq (fun W=>nPairsFrom s a f W);have HB:=aq (Box.new w s a 27);clear h hok hs hT hr hc hE;unfold slv at CC CO ⊢;refine calls_marks Tryd.func16 rfl ?_
 simp only [Tryd.ntmps16,List.size_toArray,List.length_cons,List.length_nil,Nat.reduceAdd,Nat.reduceSub,Array.replicate_succ,Array.replicate_zero,List.push_toArray,List.append_toArray,List.nil_append,List.cons_append]
 go_upto_region 1 with (fail)
 obtain⟨V0,hV0⟩:∃ V,V=((w.alloc (.cells #[.int .i64 s.seg,.slice a.w s.words.length a.cw,.slice a.k s.keys.length a.ck,.slice a.v s.vals.length a.cv,.slice a.c s.counts.length a.cc,.int .u64 (s.laid:Int)] 27)).alloc (.cells #[.int .i64 t] 2)).alloc (.cells #[.int .i64 n] 3):=⟨_,rfl⟩
 have z0:V0.heap.size=w.heap.size+3:=by rw [hV0];simp
 have b0:Below w.heap.size w V0:=by rw [hV0];exact (((Below.refl _ _).alloc (Nat.le_refl _) _).alloc (by simp) _).alloc (by simp;omega) _
 have x0:Box V0 w.heap.size s a:=by rw [hV0];exact (HB.out.below ((Below.refl _ _).alloc (Nat.le_refl _) _)).below ((Below.refl _ _).alloc (Nat.le_refl _) _)
 have t0:Boxed V0 (w.heap.size+1) 2 (.int .i64 t):=by
  rw [hV0];have:=(Boxed.new (w.alloc (.cells (slCells s a) 27)) 2 (.int .i64 t)).alloc (.cells #[.int .i64 n] 3);rw [World.size_alloc] at this;exact this
 have m0:Boxed V0 (w.heap.size+1+1) 3 (.int .i64 n):=by
  rw [hV0];have:=Boxed.new ((w.alloc (.cells (slCells s a) 27)).alloc (.cells #[.int .i64 t] 2)) 3 (.int .i64 n);rw [World.size_alloc,World.size_alloc] at this;exact this
 rw [<-hV0];clear hV0 HB;have X0:=aq x0;obtain⟨_,c0,c1,c2,c3,c4,c5,_⟩:=x0
 go_step3
 go_wp2_with fail
 refine (CC.out _ b0).mono ?_;rintro e w1 ⟨rfl,hb⟩;have hb1:=aq (b0.trans (hb.mono b0.size));have T1:=aq (boxed_below t0 t0.lt hb);have M1:=aq (boxed_below m0 m0.lt hb);have X1:=aq ((show Box V0 w.heap.size s a from X0.out).below hb)
 have z1:w.heap.size+3<=w1.heap.size:=by have:=hb.size;omega
 clear hb b0 t0 m0 X0 c0 c1 c2 c3 c4 c5 CC z0;have c0:=M1.out.cell
 have k1:decide (n < 0)=false:=by simpa using n0
 have k2:decide (n > 1000)=false:=by simpa using n1
 go_upto_region 6 with (fail)
 clear c0 k1 k2
 go_wp2_with fail
 go_step3
 obtain⟨V,hV⟩:∃ V,V=w1.alloc (.cells #[.slice none 0 0] 38):=⟨_,rfl⟩
 have hbv:Below w1.heap.size w1 V:=by rw [hV];exact (Below.refl _ _).alloc (Nat.le_refl _) _
 have bl2:Boxed V w1.heap.size 38 (.slice none 0 0):=by rw [hV];exact Boxed.new _ _ _
 have zV:V.heap.size=w1.heap.size+1:=by rw [hV];simp
 have B2:=aq (hb1.out.trans (hbv.mono hb1.out.size));have X2:=aq (X1.out.below hbv);have T2:=aq (boxed_below T1.out T1.out.lt hbv);have M2:=aq (boxed_below M1.out M1.out.lt hbv);rw [<-hV];clear hV hbv hb1 X1 T1 M1;obtain⟨_,c0,c1,c2,c3,c4,c5,_⟩:=X2.out
 go_wp2_with fail
 refine (CO.out _).mono ?_;rintro e W5 ⟨b1,b2,rfl,hB1,hB2,hb1,hb2,hb⟩;have sz5:=hb.size;have bl5:=boxed_below bl2 bl2.lt hb;have B5:=aq (B2.out.trans (hb.mono B2.out.size));have T5:=aq (boxed_below T2.out T2.out.lt hb);have M5:=aq (boxed_below M2.out M2.out.lt hb);have ln1:=hB1.lt;have ln2:=hB2.lt;have H5:=HH.out.below B5.out;have SN:=aq (SeenP.mk hB1 hB2 H5 (HT.out.below B5.out));have ZK:=aq (show ZokP (fun k=>k < w.heap.size∨(V.heap.size<=k/\k < W5.heap.size)) s a b1 b2 from⟨Or.inr ⟨by omega,ln1⟩,Or.inr ⟨by omega,ln2⟩,fun hz p hp=>Or.inl (lst_lt HH.out.words hz p hp),fun hz p hp=>Or.inl (lst_lt HH.out.keys hz p hp),fun hz p hp=>Or.inl (lst_lt HH.out.vals hz p hp),fun hz p hp=>Or.inl (lst_lt HH.out.counts hz p hp),Or.inl HT.out.1⟩)
 have HZs:=aq (show ∀ k,(k < w.heap.size∨(V.heap.size<=k/\k < W5.heap.size))->k < W5.heap.size from fun k hk=>by rcases hk with hk | hk<;>omega)
 clear hB1 hB2 hb CO bl2 X2 T2 M2 B2 c0 c1 c2 c3 c4 c5 H5;obtain⟨w5s,hw5s⟩:∃ n,n=W5.heap.size:=⟨_,rfl⟩
 go_wp2_with fail
 refine wp_rangeQ (enc:=fun x=>#[pv (s.pairAt x)]) (fun _=>rfl) (gf:=63) (lb:=#[.pointer (some ⟨b1,0,none⟩),.pointer (some ⟨b2,0,none⟩)]) rfl (enters_of Tryd.func63 (by kernel_rfl) rfl)
  (pairs_seq _ s a f b1 b2 W5 SN.out ZK.out HZs.out HC.out OK.out SH.out) HZs.out
  (ScanI s f t n w (w.heap.size+1) (w.heap.size+1+1) w1.heap.size w5s) (ScanX s f t n w w1.heap.size w5s) (scanI_own _ _ _ _ _ _ _ _ _ _ (by have:=B5.out.size;omega)) (fun c=>scanX_own _ _ _ _ _ _ _ _ (by have:=B5.out.size;omega) c)
  ⟨T5.out,M5.out,B5.out,by omega,⟨_,bl5,World.ownsRow_nil _ _ _ _⟩,Sn.Way.start s f t n.toNat⟩
  (fun W x=>{ tmps:=#[(.agg #[.int .i64 s.seg,.slice a.w s.words.length a.cw,.slice a.k s.keys.length a.ck,.slice a.v s.vals.length a.cv,.slice a.c s.counts.length a.cc,.int .u64 (s.laid:Int)]),.int .i64 f,.int .i64 t,.int .i64 n,.pointer (some ⟨w.heap.size,0,none⟩),undef,.pointer (some ⟨w.heap.size+1,0,none⟩),.pointer (some ⟨w.heap.size+1+1,0,none⟩),.slice none 0 0,.int .i64 0,.int .i64 0,.pointer (some ⟨w1.heap.size,0,none⟩),.pointer (some ⟨W.heap.size,0,none⟩),(.agg #[.int .i64 s.seg,.slice a.w s.words.length a.cw,.slice a.k s.keys.length a.ck,.slice a.v s.vals.length a.cv,.slice a.c s.counts.length a.cc,.int .u64 (s.laid:Int)]),.int .i64 0,.int .i64 0,.bool false,undef,.int .i64 n,.bool false,.bool false,.int .i64 n,.bool false,.bool false,(.agg #[.int .i64 s.seg,.slice a.w s.words.length a.cw,.slice a.k s.keys.length a.ck,.slice a.v s.vals.length a.cv,.slice a.c s.counts.length a.cc,.int .u64 (s.laid:Int)]),.int .i64 f,(.func (Fn.func 63) #[] #[.pointer (some ⟨b1,0,none⟩),.pointer (some ⟨b2,0,none⟩)]),.agg #[.int .i64 (s.pairAt x).1,.int .i64 (s.pairAt x).2],undef,undef,undef,undef,undef,undef,undef,undef,undef,undef,undef,undef,undef,undef],defers:=[] }) (fun W x=>W.alloc (.cells #[.int .i64 (s.pairAt x).1,.int .i64 (s.pairAt x).2] 32)) (fun W x=>(Below.refl _ _).alloc (Nat.le_refl _) _) ?assign ?body ?done ?stop
 case assign =>
  intro l x W K hK;unfold pv
  gi_wp2
  exact hK
 case body =>
  rintro l pre x W W' hI hpre hov hsz;have HI:=aq hI;obtain⟨v,hbl,hrow⟩:=hI.row;obtain⟨A3,c3',rfl,_⟩:=own_cells hrow;have ROW:=aq hrow;have BL:=aq hbl;have PB:=aq (PBox.of_block (p:=s.pairAt x) (t:=32) (hov.cells _ _ (pair_laid W (s.pairAt x) 32) rfl));have HPRE:=aq hpre;have d0:=hbl.cell;have d1:=hI.to_.cell;have d2:=hI.most.cell;have q0:=PB.out.c0;have q1:=PB.out.c1;obtain⟨⟨x1,x2⟩,hx⟩:∃ p,s.pairAt x=p:=⟨_,rfl⟩;have HX:=aq hx;rw [hx] at q0 q1 ⊢
  dsimp only at q0 q1
  dsimp only
  have HW:=aq hI.way;clear hI hrow hbl hpre hov hsz
  by_cases hn:(pre.length:Int)=n
  ·have k1:((pre.length:Int)==n)=true:=by simp [hn]
   have EQ:Sn.scanV s f t n=pre.map s.pairAt:=by rw [HV.out];exact Sn.Way.full HR.out HW.out (by omega)
   clear hn
   gi_wp2
   exact⟨KeepsOthers.refl _,rfl,HI.out.below,HI.out.size,_,BL.out,by rw [EQ,List.length_map];exact ROW.out⟩
  ·have k1:((pre.length:Int)==n)=false:=by simpa using hn
   by_cases ht:t < x1
   ·have k2:decide (t < x1)=true:=by simpa using ht
    have EQ:Sn.scanV s f t n=pre.map s.pairAt:=by rw [HV.out];exact Sn.Way.past HR.out HW.out HPRE.out (by have:=congrArg Prod.fst hx;rw [Sn.pair_key] at this;rw [this];exact ht)
    clear hn ht hx
    gi_wp2
    exact⟨KeepsOthers.refl _,rfl,HI.out.below,HI.out.size,_,BL.out,by rw [EQ,List.length_map];exact ROW.out⟩
   ·have k2:decide (t < x1)=false:=by simpa using ht
    have WN:=aq (Sn.Way.next HW.out HPRE.out (by omega) (by have:=congrArg Prod.fst hx;rw [Sn.pair_key] at this;rw [this];simpa using ht))
    have hfew:pre.length<=1000:=by have:=HW.out.few;omega
    have hbs:w5s<=W'.heap.size:=HI.out.size;have f0:=BL.out.frozen;clear hn ht hx
    gi_wp2_with (gi_at_builtin;refine wpListIn_moreIn elemP rfl (.tmp 37) (.tmp 39) rfl W' 32 [.int .i64 x1,.int .i64 x2] rfl rfl w5s pre.length _ _ rfl rfl ROW.out (by intro u hu;simp at hu;rcases hu with rfl | rfl<;>rfl) hbs (by unfold maxLen;omega) (by omega) ?_;intro v2 W3 row3 hb3 ko3;have R3:=aq row3;have HB3:=aq hb3;have KO3:=aq ko3;obtain⟨A4,c4',rfl,_⟩:=own_cells row3;have BL3:=aq (boxed_low BL.out (by omega) hb3);have e0:=BL3.out.cell;have e1:=BL3.out.frozen;clear row3 hb3 ko3)
    refine⟨KO3.out.trans (KeepsOthers.setCell _ _ _),(Kept.of_below HB3.out (fun k hk=>by have:=HZs.out k hk;omega)).setCell (by simp;omega) _,?_⟩;refine⟨(boxed_low HI.out.to_ (by omega) HB3.out).other (by omega) _,(boxed_low HI.out.most (by omega) HB3.out).other (by omega) _,(HI.out.below.trans (HB3.out.mono (by have:=B5.out.size;omega))).setCell (by simp;omega) _,by rw [World.size_setCell];exact Nat.le_trans hbs HB3.out.size,⟨_,BL3.out.set _,?_⟩,WN.out⟩
    have e:(pre++[x]).length=pre.length+1:=by simp
    have e2:pcells ((pre++[x]).map s.pairAt)=pcells (pre.map s.pairAt)++[.int .i64 x1,.int .i64 x2]:=by rw [List.map_append,pcells_append];simp [HX.out,pcells]
    rw [e,e2];exact row_far R3.out (by omega) _
 case done =>
  rintro D W hD hI hKD;obtain⟨v,hbl,hrow⟩:=hI.row
  have EQ:Sn.scanV s f t n=(Sk.high s f).map s.pairAt:=by rw [HV.out];exact hI.way.all
  have HI:=aq hI.below;have RW:=aq hrow;have hDlt:D < W.heap.size:=(Array.getElem?_eq_some_iff.1 hKD).1;have hKD2:=aq hKD;obtain⟨A3,c3',rfl,_⟩:=own_cells hrow;have d0:=hbl.cell;clear hI hrow hKD hbl;go_wp2;refine leaves_one hKD2.out ?_;have ov:=Over.of_grown (n:=0) (grownBy_putObj' W D (.deferred none)) (fun r e=>by cases e;exact⟨Nat.zero_le _,_,hKD2.out,rfl⟩);refine⟨_,results_tmp2 rfl _ _ _,⟨_,rfl,?_,?_⟩⟩
  ·rw [EQ,List.length_map]
   exact own_lower (ov.ownsRow RW.out) (by have:=B5.out.size;omega)
  ·exact HI.out.trans ((Below.refl w.heap.size W).grown (grownBy_putObj' W D _) (by have:=HI.out.size;omega) (fun k e=>by cases e;have:=B5.out.size;omega))
 case stop =>
  rintro D c pre W hD hSp hF hKD;obtain⟨rfl,hbelow,hsize,v,hbl,hrow⟩:=hF;have HI:=aq hbelow;have RW:=aq hrow;have hDlt:D < W.heap.size:=(Array.getElem?_eq_some_iff.1 hKD).1;have hKD2:=aq hKD;obtain⟨A3,c3',rfl,_⟩:=own_cells hrow;have d0:=hbl.cell;clear hbelow hrow hKD hbl;go_wp2;refine leaves_one hKD2.out ?_;have ov:=Over.of_grown (n:=0) (grownBy_putObj' W D (.deferred none)) (fun r e=>by cases e;exact⟨Nat.zero_le _,_,hKD2.out,rfl⟩);refine⟨_,results_tmp2 rfl _ _ _,⟨_,rfl,?_,?_⟩⟩
  ·exact own_lower (ov.ownsRow RW.out) (by have:=B5.out.size;omega)
  ·exact HI.out.trans ((Below.refl w.heap.size W).grown (grownBy_putObj' W D _) (by have:=HI.out.size;omega) (fun k e=>by cases e;have:=B5.out.size;omega))
end Go.Proofs.YtfdpkmafemidjaaDoor

/- What Pairs of package slots returns. -/
import Derived.Test.YtpeckljoannolaaGreatDoorTkOc
import Derived.Test.YtpeckljoannolaaGreatDoorM17Oc
import Derived.Test.YtpeckljoannolaaGreatDoorP07Oc
set_option linter.unusedVariables false
set_option linter.unusedSimpArgs false
set_option maxHeartbeats 16000000
set_option maxRecDepth 100000
namespace Go.Proofs.YtpeckljoannolaaGreatDoor
open Go.RowKit Go.Shelf
attribute [local go_sem] Oper.semAt_some
structure PairI (s:Sl) (a:Ads) (w:World) (b bl base:Nat) (pre:List Nat) (W:World):Prop where
 box:Box W b s a
 below:Below w.heap.size w W
 size:base<=W.heap.size
 row:∃ v,Boxed W bl 178 v/\W.ownsRow base 93 2 v pre.length (pcells (pre.map s.pairAt))
theorem pairI_own (s:Sl) (a:Ads) (w:World) (b bl base n:Nat) (hn:w.heap.size<=n):OwnFrom n (PairI s a w b bl base):=fun pre A B row hs hg hr =>
 have ho:=Over.of_grown hg hr
 ⟨ho.box hs.box,ownFrom_below (β:=Unit) (Nat.le_refl _) hn () A B row hs.below hg hr,Nat.le_trans hs.size ho.size,by
  obtain⟨v,h1,h2⟩:=hs.row
  exact⟨v,ho.boxed h1,ho.ownsRow h2⟩⟩
theorem cPairs_ok (s:Sl) (a:Ads) (lo hi:Nat) (w:World) (h:Held w s a) (hok:s.Ok) (hs:s.Short) (hT:Tab w) (hM:s.May) (h1:lo<=hi) (h2:hi<=s.keys.length) :
  Calls Tryz.prog 208 #[slv s a,.int .i64 lo,.int .i64 hi] w (POwn2 (s.of lo hi) 0 w):=by
 have hE:s.pairsE lo hi=0:=by
  unfold Sl.pairsE;rw [may_iff.2 hM,if_pos rfl,if_pos (part_iff.2 ⟨by omega,by omega,by omega⟩)]
 obtain⟨bw,ow,haw,hbw,_⟩:=h.words.word (i:=0) (by have:=hM.wlen;have:=hM.many;omega);obtain⟨aw,ak,av,ac,cw,ck,cv,cc⟩:=a
 dsimp only at haw
 subst haw;have HH:=aq h;have HW:=aq hok.words;have HT:=aq hT;have HC:=aq hM.chkW;have l1:=hs.words;have l2:=hs.keys;have CC:=aq (fun o=>sCheckPart s ⟨some ⟨bw,ow,none⟩,ak,av,ac,cw,ck,cv,cc⟩ lo hi (w.alloc o) (h.alloc o) hok hs (hT.below ((Below.refl _ _).alloc (Nat.le_refl _) o)));rw [hE] at CC;have CO:=aq (fun W=>sOccupied s ⟨some ⟨bw,ow,none⟩,ak,av,ac,cw,ck,cv,cc⟩ lo hi W);have CP:=aq (fun k W (hb:Below w.heap.size w W) (hk:k < s.keys.length)=>sPairIn s ⟨some ⟨bw,ow,none⟩,ak,av,ac,cw,ck,cv,cc⟩ k W (h.below hb) hk hM.vals hs.keys);have HB:=aq (Box.new w s ⟨some ⟨bw,ow,none⟩,ak,av,ac,cw,ck,cv,cc⟩ 29);have PLl:=aq (Oc.places_length_le s.words lo hi);have HMp:=aq (fun x (hx:x∈Oc.places s.words lo hi)=>(Oc.mem_places.1 hx).1);clear h hok hs hT hM hE;unfold slv at CC CO CP ⊢;refine calls_marks Tryz.func208 rfl ?_
 simp only [Tryz.ntmps208,List.size_toArray,List.length_cons,List.length_nil,Nat.reduceAdd,Nat.reduceSub,Array.replicate_succ,Array.replicate_zero,List.push_toArray,List.append_toArray,List.nil_append,List.cons_append]
 go_wp2_with fail
 refine (CC.out _).mono ?_;rintro e w1 ⟨rfl,hb⟩;have B1:=aq (((Below.refl w.heap.size w).alloc (Nat.le_refl _) _).trans (hb.mono (by simp)));have bx1:=aq (HB.out.below hb);have z1:w.heap.size < w1.heap.size:=bx1.out.lt;clear hb HB
 go_upto_region 5 with (fail)
 obtain⟨V,hV⟩:∃ V,V=w1.alloc (.cells #[.slice none 0 0] 178):=⟨_,rfl⟩
 have hbv:Below w1.heap.size w1 V:=by rw [hV];exact (Below.refl _ _).alloc (Nat.le_refl _) _
 have bl2:Boxed V w1.heap.size 178 (.slice none 0 0):=by rw [hV];exact Boxed.new _ _ _
 have zV:V.heap.size=w1.heap.size+1:=by rw [hV];simp
 have B2:=aq (B1.out.trans (hbv.mono B1.out.size));have bx2:=aq (bx1.out.below hbv);rw [<-hV];clear hV hbv B1 bx1;obtain⟨_,c0,c1,c2,c3,c4,c5,_⟩:=bx2.out
 go_wp2_with fail
 refine (CO.out _).mono ?_;rintro e W5 ⟨b1,b2,b3,rfl,hB1,hB2,hB3,hb1,hb2,hb3,hb⟩;have ln1:=hB1.lt;have ln2:=hB2.lt;have ln3:=hB3.lt;have sz5:=hb.size;have bx5:=aq (bx2.out.below hb);have bl5:=boxed_below bl2 bl2.lt hb;have B5:=aq (B2.out.trans (hb.mono B2.out.size));have SN:=aq (Seen.mk hB1 hB2 hB3 (HH.out.below B5.out).words (HT.out.below B5.out));have ZK:=aq (show Zok (fun k=>k < w.heap.size∨(V.heap.size<=k/\k < W5.heap.size)) ⟨some ⟨bw,ow,none⟩,ak,av,ac,cw,ck,cv,cc⟩ b1 b2 b3 from⟨Or.inr ⟨by omega,ln1⟩,Or.inr ⟨by omega,ln2⟩,Or.inr ⟨by omega,ln3⟩,fun p hp=>(by cases hp;exact Or.inl hbw),Or.inl HT.out.1⟩)
 have HZs:=aq (show ∀ k,(k < w.heap.size∨(V.heap.size<=k/\k < W5.heap.size))->k < W5.heap.size from fun k hk=>by rcases hk with hk | hk<;>omega)
 clear hB1 hB2 hB3 hb CO bl2 bx2 B2 c0 c1 c2 c3 c4 c5;obtain⟨w5s,hw5s⟩:∃ n,n=W5.heap.size:=⟨_,rfl⟩
 go_wp2_with fail
 refine wp_rangeP (gf:=213) (lb:=#[.pointer (some ⟨b1,0,none⟩),.pointer (some ⟨b2,0,none⟩),.pointer (some ⟨b3,0,none⟩)]) rfl (enters_of Tryz.func213 (by kernel_rfl) rfl)
  (occ_seq _ s ⟨some ⟨bw,ow,none⟩,ak,av,ac,cw,ck,cv,cc⟩ lo hi b1 b2 b3 W5 SN.out ZK.out HZs.out HC.out HW.out h1 h2 l2 l1) HZs.out
  (PairI s ⟨some ⟨bw,ow,none⟩,ak,av,ac,cw,ck,cv,cc⟩ w w.heap.size w1.heap.size w5s) (fun _ _ _=>False) (pairI_own _ _ _ _ _ _ _ (by omega)) (fun _=>none_ownFrom _) ⟨bx5.out,B5.out,by omega,_,bl5,World.ownsRow_nil _ _ _ _⟩
  (fun k=>{ tmps:=#[.agg #[.int .i64 s.seg,.slice (some ⟨bw,ow,none⟩) s.words.length cw,.slice ak s.keys.length ck,.slice av s.vals.length cv,.slice ac s.counts.length cc,.int .u64 (s.laid:Int)],.int .i64 (lo:Int),.int .i64 (hi:Int),.pointer (some ⟨w.heap.size,0,none⟩),undef,undef,.slice none 0 0,.int .i64 0,.int .i64 0,.pointer (some ⟨w1.heap.size,0,none⟩),.int .i64 (k:Int),.agg #[.int .i64 s.seg,.slice (some ⟨bw,ow,none⟩) s.words.length cw,.slice ak s.keys.length ck,.slice av s.vals.length cv,.slice ac s.counts.length cc,.int .u64 (s.laid:Int)],.int .i64 (lo:Int),.int .i64 (hi:Int),.int .i64 0,.int .i64 0,.bool false,undef,.agg #[.int .i64 s.seg,.slice (some ⟨bw,ow,none⟩) s.words.length cw,.slice ak s.keys.length ck,.slice av s.vals.length cv,.slice ac s.counts.length cc,.int .u64 (s.laid:Int)],.int .i64 (lo:Int),.int .i64 (hi:Int),(.func (Fn.func 213) #[] #[.pointer (some ⟨b1,0,none⟩),.pointer (some ⟨b2,0,none⟩),.pointer (some ⟨b3,0,none⟩)]),.int .i64 (k:Int),undef,undef,undef,undef,undef,undef,undef],defers:=[] }) ?assign ?body ?done ?stop
 case assign =>
  intro l k W K hK
  gi_wp2
  exact hK
 case body =>
  rintro l pre x W hI hpre;have hxm:x∈Oc.places s.words lo hi:=hpre.subset (by simp)
  have hxn:x < s.keys.length:=by have:=HMp.out x hxm;omega
  have hlen:pre.length+1<=65536:=by have h9:=hpre.length_le;have:=PLl.out;simp only [List.length_append,List.length_cons,List.length_nil] at h9;omega
  obtain⟨v,hbl,hrow⟩:=hI.row;have BXc:=hI.box.below ((Below.refl W.heap.size W).drew);have BWc:=hI.below.trans ((Below.refl w.heap.size W).drew);have SZc:w5s<=W.drew.heap.size:=hI.size;have BLc:=boxed_below hbl hbl.lt ((Below.refl W.heap.size W).drew);have ROW:=own_below hrow ((Below.refl W.heap.size W).drew);have KO:=keeps_of_below ((Below.refl W.heap.size W).drew);have KZ:=Kept.of_below (Z:=fun k=>k < w.heap.size∨(V.heap.size<=k/\k < W5.heap.size)) ((Below.refl W.heap.size W).drew) (fun k hk=>by have:=HZs.out k hk;have:=hI.size;omega);clear hI hpre hxm hbl hrow;have d0:=BLc.cell;have d1:=BLc.frozen;have bx':=BXc;obtain⟨_,c0,c1,c2,c3,c4,c5,_⟩:=bx'
  gi_wp2
  refine wpIn_region_any (by kernel_rfl) ?_
  try (change wpAnyIn _ _ _ _ _ _ _ _ _ (World.drew _))
  refine wpAnyIn_ready (rs:=[0,1,2]) (by kernel_rfl) (by simp) ?_;refine cI (fun K hK=>?_) ?_
  ·skip
   go_simp;refine hK _ _ ?_;clear hK K;refine wpAnyIn_ready (rs:=[1,2]) (by kernel_rfl) (by simp) ?_;refine cI (fun K hK=>?_) ?_
   ·skip
    go_simp;refine hK _ _ ?_;clear hK K;refine rdI 2 fun K hK=>?_;go_simp;refine hK _ _ ?_;clear hK K;refine rdI 3 fun K hK=>?_;go_simp;refine⟨trivial,?_⟩;refine ((callsIn_wide.2 (CP.out x _ BWc hxn)).inRound l).mono ?_;rintro e W2 ⟨rfl,hb⟩;unfold pv;replace KO:=KO.trans (keeps_of_below hb);replace KZ:=KZ.trans (Kept.of_below hb (fun k hk=>by have:=HZs.out k hk;omega));replace BXc:=BXc.below hb;replace BWc:=BWc.trans (hb.mono BWc.size);replace SZc:=Nat.le_trans SZc hb.size;replace BLc:=boxed_below BLc BLc.lt hb;replace ROW:=own_below ROW hb;clear hb;have d0:=BLc.cell;have d1:=BLc.frozen;have bx':=BXc;obtain⟨_,c0,c1,c2,c3,c4,c5,_⟩:=bx'
    try (go_simp)
    refine hK _ _ ?_;clear hK K;refine rdI 4 fun K hK=>?_;go_simp;refine hK _ _ ?_;clear hK K;have d0a:=fun o=>(boxed_below BLc BLc.lt ((Below.refl W2.heap.size W2).alloc (Nat.le_refl _) o)).cell;refine rdI 5 fun K hK=>?_
    refine step_moreIn elemP rfl (.tmp 23) (.tmp 27) rfl W2 93 [.int .i64 (s.pairAt x).1,.int .i64 (s.pairAt x).2] rfl rfl w5s pre.length v _ rfl rfl ROW (by intro u hu;simp at hu;rcases hu with rfl | rfl<;>rfl) (by omega) (by unfold maxLen;omega) (by omega) ?_
    clear ROW;intro v2 W3 ROW hb ko;obtain⟨A3,c3',rfl,_⟩:=own_cells ROW;replace KO:=KO.trans ko;replace KZ:=KZ.trans (Kept.of_below hb (fun k hk=>by have:=HZs.out k hk;omega));replace BXc:=BXc.keep hb (by omega);replace BWc:=BWc.trans (hb.mono (by omega));replace SZc:=Nat.le_trans SZc hb.size;replace BLc:=boxed_keep BLc hb (by omega);clear hb ko;have d0:=BLc.cell;have d1:=BLc.frozen;refine hK _ _ ?_;clear hK K;refine rdI 6 fun K hK=>?_;go_simp;refine hK _ _ ?_;clear hK K;refine wpAnyIn_done (by kernel_rfl) ?_ _;refine⟨KO.trans (KeepsOthers.setCell _ _ _),KZ.setCell (by simp;omega) _,?_,?_,?_,?_⟩
    ·exact BXc.setOther (by omega) _ _
    ·exact BWc.setCell (by simp;omega) _
    ·rw [World.size_setCell];exact SZc
    ·refine⟨_,BLc.set _,?_⟩
     have e:(pre++[x]).length=pre.length+1:=by simp
     have e2:pcells ((pre++[x]).map s.pairAt)=pcells (pre.map s.pairAt)++[.int .i64 (s.pairAt x).1,.int .i64 (s.pairAt x).2]:=by rw [List.map_append,pcells_append];rfl
     rw [e,e2];exact row_far ROW (by omega) _
   refine cI (fun K hK=>?_) AllReadyIn.nil;go_simp;refine hK _ _ ?_;clear hK K;refine rdI 1 fun K hK=>?_;go_simp;refine hK _ _ ?_;clear hK K;refine rdI 3 fun K hK=>?_;go_simp;refine⟨trivial,?_⟩;refine ((callsIn_wide.2 (CP.out x _ BWc hxn)).inRound l).mono ?_;rintro e W2 ⟨rfl,hb⟩;unfold pv;replace KO:=KO.trans (keeps_of_below hb);replace KZ:=KZ.trans (Kept.of_below hb (fun k hk=>by have:=HZs.out k hk;omega));replace BXc:=BXc.below hb;replace BWc:=BWc.trans (hb.mono BWc.size);replace SZc:=Nat.le_trans SZc hb.size;replace BLc:=boxed_below BLc BLc.lt hb;replace ROW:=own_below ROW hb;clear hb;have d0:=BLc.cell;have d1:=BLc.frozen;have bx':=BXc;obtain⟨_,c0,c1,c2,c3,c4,c5,_⟩:=bx'
   try (go_simp)
   refine hK _ _ ?_;clear hK K;refine rdI 4 fun K hK=>?_;go_simp;refine hK _ _ ?_;clear hK K;have d0a:=fun o=>(boxed_below BLc BLc.lt ((Below.refl W2.heap.size W2).alloc (Nat.le_refl _) o)).cell;refine rdI 5 fun K hK=>?_
   refine step_moreIn elemP rfl (.tmp 23) (.tmp 27) rfl W2 93 [.int .i64 (s.pairAt x).1,.int .i64 (s.pairAt x).2] rfl rfl w5s pre.length v _ rfl rfl ROW (by intro u hu;simp at hu;rcases hu with rfl | rfl<;>rfl) (by omega) (by unfold maxLen;omega) (by omega) ?_
   clear ROW;intro v2 W3 ROW hb ko;obtain⟨A3,c3',rfl,_⟩:=own_cells ROW;replace KO:=KO.trans ko;replace KZ:=KZ.trans (Kept.of_below hb (fun k hk=>by have:=HZs.out k hk;omega));replace BXc:=BXc.keep hb (by omega);replace BWc:=BWc.trans (hb.mono (by omega));replace SZc:=Nat.le_trans SZc hb.size;replace BLc:=boxed_keep BLc hb (by omega);clear hb ko;have d0:=BLc.cell;have d1:=BLc.frozen;refine hK _ _ ?_;clear hK K;refine rdI 6 fun K hK=>?_;go_simp;refine hK _ _ ?_;clear hK K;refine wpAnyIn_done (by kernel_rfl) ?_ _;refine⟨KO.trans (KeepsOthers.setCell _ _ _),KZ.setCell (by simp;omega) _,?_,?_,?_,?_⟩
   ·exact BXc.setOther (by omega) _ _
   ·exact BWc.setCell (by simp;omega) _
   ·rw [World.size_setCell];exact SZc
   ·refine⟨_,BLc.set _,?_⟩
    have e:(pre++[x]).length=pre.length+1:=by simp
    have e2:pcells ((pre++[x]).map s.pairAt)=pcells (pre.map s.pairAt)++[.int .i64 (s.pairAt x).1,.int .i64 (s.pairAt x).2]:=by rw [List.map_append,pcells_append];rfl
    rw [e,e2];exact row_far ROW (by omega) _
  refine cI (fun K hK=>?_) ?_
  ·skip
   go_simp;refine hK _ _ ?_;clear hK K;refine wpAnyIn_ready (rs:=[0,2]) (by kernel_rfl) (by simp) ?_;refine cI (fun K hK=>?_) ?_
   ·skip
    go_simp;refine hK _ _ ?_;clear hK K;refine rdI 2 fun K hK=>?_;go_simp;refine hK _ _ ?_;clear hK K;refine rdI 3 fun K hK=>?_;go_simp;refine⟨trivial,?_⟩;refine ((callsIn_wide.2 (CP.out x _ BWc hxn)).inRound l).mono ?_;rintro e W2 ⟨rfl,hb⟩;unfold pv;replace KO:=KO.trans (keeps_of_below hb);replace KZ:=KZ.trans (Kept.of_below hb (fun k hk=>by have:=HZs.out k hk;omega));replace BXc:=BXc.below hb;replace BWc:=BWc.trans (hb.mono BWc.size);replace SZc:=Nat.le_trans SZc hb.size;replace BLc:=boxed_below BLc BLc.lt hb;replace ROW:=own_below ROW hb;clear hb;have d0:=BLc.cell;have d1:=BLc.frozen;have bx':=BXc;obtain⟨_,c0,c1,c2,c3,c4,c5,_⟩:=bx'
    try (go_simp)
    refine hK _ _ ?_;clear hK K;refine rdI 4 fun K hK=>?_;go_simp;refine hK _ _ ?_;clear hK K;have d0a:=fun o=>(boxed_below BLc BLc.lt ((Below.refl W2.heap.size W2).alloc (Nat.le_refl _) o)).cell;refine rdI 5 fun K hK=>?_
    refine step_moreIn elemP rfl (.tmp 23) (.tmp 27) rfl W2 93 [.int .i64 (s.pairAt x).1,.int .i64 (s.pairAt x).2] rfl rfl w5s pre.length v _ rfl rfl ROW (by intro u hu;simp at hu;rcases hu with rfl | rfl<;>rfl) (by omega) (by unfold maxLen;omega) (by omega) ?_
    clear ROW;intro v2 W3 ROW hb ko;obtain⟨A3,c3',rfl,_⟩:=own_cells ROW;replace KO:=KO.trans ko;replace KZ:=KZ.trans (Kept.of_below hb (fun k hk=>by have:=HZs.out k hk;omega));replace BXc:=BXc.keep hb (by omega);replace BWc:=BWc.trans (hb.mono (by omega));replace SZc:=Nat.le_trans SZc hb.size;replace BLc:=boxed_keep BLc hb (by omega);clear hb ko;have d0:=BLc.cell;have d1:=BLc.frozen;refine hK _ _ ?_;clear hK K;refine rdI 6 fun K hK=>?_;go_simp;refine hK _ _ ?_;clear hK K;refine wpAnyIn_done (by kernel_rfl) ?_ _;refine⟨KO.trans (KeepsOthers.setCell _ _ _),KZ.setCell (by simp;omega) _,?_,?_,?_,?_⟩
    ·exact BXc.setOther (by omega) _ _
    ·exact BWc.setCell (by simp;omega) _
    ·rw [World.size_setCell];exact SZc
    ·refine⟨_,BLc.set _,?_⟩
     have e:(pre++[x]).length=pre.length+1:=by simp
     have e2:pcells ((pre++[x]).map s.pairAt)=pcells (pre.map s.pairAt)++[.int .i64 (s.pairAt x).1,.int .i64 (s.pairAt x).2]:=by rw [List.map_append,pcells_append];rfl
     rw [e,e2];exact row_far ROW (by omega) _
   refine cI (fun K hK=>?_) AllReadyIn.nil;go_simp;refine hK _ _ ?_;clear hK K;refine wpAnyIn_ready (rs:=[0,3]) (by kernel_rfl) (by simp) ?_;refine cI (fun K hK=>?_) ?_
   ·skip
    go_simp;refine hK _ _ ?_;clear hK K;refine rdI 3 fun K hK=>?_;go_simp;refine⟨trivial,?_⟩;refine ((callsIn_wide.2 (CP.out x _ BWc hxn)).inRound l).mono ?_;rintro e W2 ⟨rfl,hb⟩;unfold pv;replace KO:=KO.trans (keeps_of_below hb);replace KZ:=KZ.trans (Kept.of_below hb (fun k hk=>by have:=HZs.out k hk;omega));replace BXc:=BXc.below hb;replace BWc:=BWc.trans (hb.mono BWc.size);replace SZc:=Nat.le_trans SZc hb.size;replace BLc:=boxed_below BLc BLc.lt hb;replace ROW:=own_below ROW hb;clear hb;have d0:=BLc.cell;have d1:=BLc.frozen;have bx':=BXc;obtain⟨_,c0,c1,c2,c3,c4,c5,_⟩:=bx'
    try (go_simp)
    refine hK _ _ ?_;clear hK K;refine rdI 4 fun K hK=>?_;go_simp;refine hK _ _ ?_;clear hK K;have d0a:=fun o=>(boxed_below BLc BLc.lt ((Below.refl W2.heap.size W2).alloc (Nat.le_refl _) o)).cell;refine rdI 5 fun K hK=>?_
    refine step_moreIn elemP rfl (.tmp 23) (.tmp 27) rfl W2 93 [.int .i64 (s.pairAt x).1,.int .i64 (s.pairAt x).2] rfl rfl w5s pre.length v _ rfl rfl ROW (by intro u hu;simp at hu;rcases hu with rfl | rfl<;>rfl) (by omega) (by unfold maxLen;omega) (by omega) ?_
    clear ROW;intro v2 W3 ROW hb ko;obtain⟨A3,c3',rfl,_⟩:=own_cells ROW;replace KO:=KO.trans ko;replace KZ:=KZ.trans (Kept.of_below hb (fun k hk=>by have:=HZs.out k hk;omega));replace BXc:=BXc.keep hb (by omega);replace BWc:=BWc.trans (hb.mono (by omega));replace SZc:=Nat.le_trans SZc hb.size;replace BLc:=boxed_keep BLc hb (by omega);clear hb ko;have d0:=BLc.cell;have d1:=BLc.frozen;refine hK _ _ ?_;clear hK K;refine rdI 6 fun K hK=>?_;go_simp;refine hK _ _ ?_;clear hK K;refine wpAnyIn_done (by kernel_rfl) ?_ _;refine⟨KO.trans (KeepsOthers.setCell _ _ _),KZ.setCell (by simp;omega) _,?_,?_,?_,?_⟩
    ·exact BXc.setOther (by omega) _ _
    ·exact BWc.setCell (by simp;omega) _
    ·rw [World.size_setCell];exact SZc
    ·refine⟨_,BLc.set _,?_⟩
     have e:(pre++[x]).length=pre.length+1:=by simp
     have e2:pcells ((pre++[x]).map s.pairAt)=pcells (pre.map s.pairAt)++[.int .i64 (s.pairAt x).1,.int .i64 (s.pairAt x).2]:=by rw [List.map_append,pcells_append];rfl
     rw [e,e2];exact row_far ROW (by omega) _
   refine cI (fun K hK=>?_) AllReadyIn.nil;go_simp;refine⟨trivial,?_⟩;refine ((callsIn_wide.2 (CP.out x _ BWc hxn)).inRound l).mono ?_;rintro e W2 ⟨rfl,hb⟩;unfold pv;replace KO:=KO.trans (keeps_of_below hb);replace KZ:=KZ.trans (Kept.of_below hb (fun k hk=>by have:=HZs.out k hk;omega));replace BXc:=BXc.below hb;replace BWc:=BWc.trans (hb.mono BWc.size);replace SZc:=Nat.le_trans SZc hb.size;replace BLc:=boxed_below BLc BLc.lt hb;replace ROW:=own_below ROW hb;clear hb;have d0:=BLc.cell;have d1:=BLc.frozen;have bx':=BXc;obtain⟨_,c0,c1,c2,c3,c4,c5,_⟩:=bx'
   try (go_simp)
   refine hK _ _ ?_;clear hK K;refine wpAnyIn_ready (rs:=[0,4]) (by kernel_rfl) (by simp) ?_;refine cI (fun K hK=>?_) ?_
   ·skip
    go_simp;refine hK _ _ ?_;clear hK K;refine rdI 4 fun K hK=>?_;go_simp;refine hK _ _ ?_;clear hK K;have d0a:=fun o=>(boxed_below BLc BLc.lt ((Below.refl W2.heap.size W2).alloc (Nat.le_refl _) o)).cell;refine rdI 5 fun K hK=>?_
    refine step_moreIn elemP rfl (.tmp 23) (.tmp 27) rfl W2 93 [.int .i64 (s.pairAt x).1,.int .i64 (s.pairAt x).2] rfl rfl w5s pre.length v _ rfl rfl ROW (by intro u hu;simp at hu;rcases hu with rfl | rfl<;>rfl) (by omega) (by unfold maxLen;omega) (by omega) ?_
    clear ROW;intro v2 W3 ROW hb ko;obtain⟨A3,c3',rfl,_⟩:=own_cells ROW;replace KO:=KO.trans ko;replace KZ:=KZ.trans (Kept.of_below hb (fun k hk=>by have:=HZs.out k hk;omega));replace BXc:=BXc.keep hb (by omega);replace BWc:=BWc.trans (hb.mono (by omega));replace SZc:=Nat.le_trans SZc hb.size;replace BLc:=boxed_keep BLc hb (by omega);clear hb ko;have d0:=BLc.cell;have d1:=BLc.frozen;refine hK _ _ ?_;clear hK K;refine rdI 6 fun K hK=>?_;go_simp;refine hK _ _ ?_;clear hK K;refine wpAnyIn_done (by kernel_rfl) ?_ _;refine⟨KO.trans (KeepsOthers.setCell _ _ _),KZ.setCell (by simp;omega) _,?_,?_,?_,?_⟩
    ·exact BXc.setOther (by omega) _ _
    ·exact BWc.setCell (by simp;omega) _
    ·rw [World.size_setCell];exact SZc
    ·refine⟨_,BLc.set _,?_⟩
     have e:(pre++[x]).length=pre.length+1:=by simp
     have e2:pcells ((pre++[x]).map s.pairAt)=pcells (pre.map s.pairAt)++[.int .i64 (s.pairAt x).1,.int .i64 (s.pairAt x).2]:=by rw [List.map_append,pcells_append];rfl
     rw [e,e2];exact row_far ROW (by omega) _
   refine cI (fun K hK=>?_) AllReadyIn.nil;go_simp;refine hK _ _ ?_;clear hK K;have d0a:=fun o=>(boxed_below BLc BLc.lt ((Below.refl W2.heap.size W2).alloc (Nat.le_refl _) o)).cell;refine rdI 0 fun K hK=>?_;go_simp;refine hK _ _ ?_;clear hK K;refine rdI 5 fun K hK=>?_
   refine step_moreIn elemP rfl (.tmp 23) (.tmp 27) rfl W2 93 [.int .i64 (s.pairAt x).1,.int .i64 (s.pairAt x).2] rfl rfl w5s pre.length v _ rfl rfl ROW (by intro u hu;simp at hu;rcases hu with rfl | rfl<;>rfl) (by omega) (by unfold maxLen;omega) (by omega) ?_
   clear ROW;intro v2 W3 ROW hb ko;obtain⟨A3,c3',rfl,_⟩:=own_cells ROW;replace KO:=KO.trans ko;replace KZ:=KZ.trans (Kept.of_below hb (fun k hk=>by have:=HZs.out k hk;omega));replace BXc:=BXc.keep hb (by omega);replace BWc:=BWc.trans (hb.mono (by omega));replace SZc:=Nat.le_trans SZc hb.size;replace BLc:=boxed_keep BLc hb (by omega);clear hb ko;have d0:=BLc.cell;have d1:=BLc.frozen;refine hK _ _ ?_;clear hK K;refine rdI 6 fun K hK=>?_;go_simp;refine hK _ _ ?_;clear hK K;refine wpAnyIn_done (by kernel_rfl) ?_ _;refine⟨KO.trans (KeepsOthers.setCell _ _ _),KZ.setCell (by simp;omega) _,?_,?_,?_,?_⟩
   ·exact BXc.setOther (by omega) _ _
   ·exact BWc.setCell (by simp;omega) _
   ·rw [World.size_setCell];exact SZc
   ·refine⟨_,BLc.set _,?_⟩
    have e:(pre++[x]).length=pre.length+1:=by simp
    have e2:pcells ((pre++[x]).map s.pairAt)=pcells (pre.map s.pairAt)++[.int .i64 (s.pairAt x).1,.int .i64 (s.pairAt x).2]:=by rw [List.map_append,pcells_append];rfl
    rw [e,e2];exact row_far ROW (by omega) _
  refine cI (fun K hK=>?_) AllReadyIn.nil;go_simp;refine hK _ _ ?_;clear hK K;refine wpAnyIn_ready (rs:=[0,1]) (by kernel_rfl) (by simp) ?_;refine cI (fun K hK=>?_) ?_
  ·skip
   go_simp;refine hK _ _ ?_;clear hK K;refine rdI 1 fun K hK=>?_;go_simp;refine hK _ _ ?_;clear hK K;refine rdI 3 fun K hK=>?_;go_simp;refine⟨trivial,?_⟩;refine ((callsIn_wide.2 (CP.out x _ BWc hxn)).inRound l).mono ?_;rintro e W2 ⟨rfl,hb⟩;unfold pv;replace KO:=KO.trans (keeps_of_below hb);replace KZ:=KZ.trans (Kept.of_below hb (fun k hk=>by have:=HZs.out k hk;omega));replace BXc:=BXc.below hb;replace BWc:=BWc.trans (hb.mono BWc.size);replace SZc:=Nat.le_trans SZc hb.size;replace BLc:=boxed_below BLc BLc.lt hb;replace ROW:=own_below ROW hb;clear hb;have d0:=BLc.cell;have d1:=BLc.frozen;have bx':=BXc;obtain⟨_,c0,c1,c2,c3,c4,c5,_⟩:=bx'
   try (go_simp)
   refine hK _ _ ?_;clear hK K;refine rdI 4 fun K hK=>?_;go_simp;refine hK _ _ ?_;clear hK K;have d0a:=fun o=>(boxed_below BLc BLc.lt ((Below.refl W2.heap.size W2).alloc (Nat.le_refl _) o)).cell;refine rdI 5 fun K hK=>?_
   refine step_moreIn elemP rfl (.tmp 23) (.tmp 27) rfl W2 93 [.int .i64 (s.pairAt x).1,.int .i64 (s.pairAt x).2] rfl rfl w5s pre.length v _ rfl rfl ROW (by intro u hu;simp at hu;rcases hu with rfl | rfl<;>rfl) (by omega) (by unfold maxLen;omega) (by omega) ?_
   clear ROW;intro v2 W3 ROW hb ko;obtain⟨A3,c3',rfl,_⟩:=own_cells ROW;replace KO:=KO.trans ko;replace KZ:=KZ.trans (Kept.of_below hb (fun k hk=>by have:=HZs.out k hk;omega));replace BXc:=BXc.keep hb (by omega);replace BWc:=BWc.trans (hb.mono (by omega));replace SZc:=Nat.le_trans SZc hb.size;replace BLc:=boxed_keep BLc hb (by omega);clear hb ko;have d0:=BLc.cell;have d1:=BLc.frozen;refine hK _ _ ?_;clear hK K;refine rdI 6 fun K hK=>?_;go_simp;refine hK _ _ ?_;clear hK K;refine wpAnyIn_done (by kernel_rfl) ?_ _;refine⟨KO.trans (KeepsOthers.setCell _ _ _),KZ.setCell (by simp;omega) _,?_,?_,?_,?_⟩
   ·exact BXc.setOther (by omega) _ _
   ·exact BWc.setCell (by simp;omega) _
   ·rw [World.size_setCell];exact SZc
   ·refine⟨_,BLc.set _,?_⟩
    have e:(pre++[x]).length=pre.length+1:=by simp
    have e2:pcells ((pre++[x]).map s.pairAt)=pcells (pre.map s.pairAt)++[.int .i64 (s.pairAt x).1,.int .i64 (s.pairAt x).2]:=by rw [List.map_append,pcells_append];rfl
    rw [e,e2];exact row_far ROW (by omega) _
  refine cI (fun K hK=>?_) AllReadyIn.nil;go_simp;refine hK _ _ ?_;clear hK K;refine wpAnyIn_ready (rs:=[0,3]) (by kernel_rfl) (by simp) ?_;refine cI (fun K hK=>?_) ?_
  ·skip
   go_simp;refine hK _ _ ?_;clear hK K;refine rdI 3 fun K hK=>?_;go_simp;refine⟨trivial,?_⟩;refine ((callsIn_wide.2 (CP.out x _ BWc hxn)).inRound l).mono ?_;rintro e W2 ⟨rfl,hb⟩;unfold pv;replace KO:=KO.trans (keeps_of_below hb);replace KZ:=KZ.trans (Kept.of_below hb (fun k hk=>by have:=HZs.out k hk;omega));replace BXc:=BXc.below hb;replace BWc:=BWc.trans (hb.mono BWc.size);replace SZc:=Nat.le_trans SZc hb.size;replace BLc:=boxed_below BLc BLc.lt hb;replace ROW:=own_below ROW hb;clear hb;have d0:=BLc.cell;have d1:=BLc.frozen;have bx':=BXc;obtain⟨_,c0,c1,c2,c3,c4,c5,_⟩:=bx'
   try (go_simp)
   refine hK _ _ ?_;clear hK K;refine rdI 4 fun K hK=>?_;go_simp;refine hK _ _ ?_;clear hK K;have d0a:=fun o=>(boxed_below BLc BLc.lt ((Below.refl W2.heap.size W2).alloc (Nat.le_refl _) o)).cell;refine rdI 5 fun K hK=>?_
   refine step_moreIn elemP rfl (.tmp 23) (.tmp 27) rfl W2 93 [.int .i64 (s.pairAt x).1,.int .i64 (s.pairAt x).2] rfl rfl w5s pre.length v _ rfl rfl ROW (by intro u hu;simp at hu;rcases hu with rfl | rfl<;>rfl) (by omega) (by unfold maxLen;omega) (by omega) ?_
   clear ROW;intro v2 W3 ROW hb ko;obtain⟨A3,c3',rfl,_⟩:=own_cells ROW;replace KO:=KO.trans ko;replace KZ:=KZ.trans (Kept.of_below hb (fun k hk=>by have:=HZs.out k hk;omega));replace BXc:=BXc.keep hb (by omega);replace BWc:=BWc.trans (hb.mono (by omega));replace SZc:=Nat.le_trans SZc hb.size;replace BLc:=boxed_keep BLc hb (by omega);clear hb ko;have d0:=BLc.cell;have d1:=BLc.frozen;refine hK _ _ ?_;clear hK K;refine rdI 6 fun K hK=>?_;go_simp;refine hK _ _ ?_;clear hK K;refine wpAnyIn_done (by kernel_rfl) ?_ _;refine⟨KO.trans (KeepsOthers.setCell _ _ _),KZ.setCell (by simp;omega) _,?_,?_,?_,?_⟩
   ·exact BXc.setOther (by omega) _ _
   ·exact BWc.setCell (by simp;omega) _
   ·rw [World.size_setCell];exact SZc
   ·refine⟨_,BLc.set _,?_⟩
    have e:(pre++[x]).length=pre.length+1:=by simp
    have e2:pcells ((pre++[x]).map s.pairAt)=pcells (pre.map s.pairAt)++[.int .i64 (s.pairAt x).1,.int .i64 (s.pairAt x).2]:=by rw [List.map_append,pcells_append];rfl
    rw [e,e2];exact row_far ROW (by omega) _
  refine cI (fun K hK=>?_) AllReadyIn.nil;go_simp;refine⟨trivial,?_⟩;refine ((callsIn_wide.2 (CP.out x _ BWc hxn)).inRound l).mono ?_;rintro e W2 ⟨rfl,hb⟩;unfold pv;replace KO:=KO.trans (keeps_of_below hb);replace KZ:=KZ.trans (Kept.of_below hb (fun k hk=>by have:=HZs.out k hk;omega));replace BXc:=BXc.below hb;replace BWc:=BWc.trans (hb.mono BWc.size);replace SZc:=Nat.le_trans SZc hb.size;replace BLc:=boxed_below BLc BLc.lt hb;replace ROW:=own_below ROW hb;clear hb;have d0:=BLc.cell;have d1:=BLc.frozen;have bx':=BXc;obtain⟨_,c0,c1,c2,c3,c4,c5,_⟩:=bx'
  try (go_simp)
  refine hK _ _ ?_;clear hK K;refine wpAnyIn_ready (rs:=[0,4]) (by kernel_rfl) (by simp) ?_;refine cI (fun K hK=>?_) ?_
  ·skip
   go_simp;refine hK _ _ ?_;clear hK K;refine rdI 4 fun K hK=>?_;go_simp;refine hK _ _ ?_;clear hK K;have d0a:=fun o=>(boxed_below BLc BLc.lt ((Below.refl W2.heap.size W2).alloc (Nat.le_refl _) o)).cell;refine rdI 5 fun K hK=>?_
   refine step_moreIn elemP rfl (.tmp 23) (.tmp 27) rfl W2 93 [.int .i64 (s.pairAt x).1,.int .i64 (s.pairAt x).2] rfl rfl w5s pre.length v _ rfl rfl ROW (by intro u hu;simp at hu;rcases hu with rfl | rfl<;>rfl) (by omega) (by unfold maxLen;omega) (by omega) ?_
   clear ROW;intro v2 W3 ROW hb ko;obtain⟨A3,c3',rfl,_⟩:=own_cells ROW;replace KO:=KO.trans ko;replace KZ:=KZ.trans (Kept.of_below hb (fun k hk=>by have:=HZs.out k hk;omega));replace BXc:=BXc.keep hb (by omega);replace BWc:=BWc.trans (hb.mono (by omega));replace SZc:=Nat.le_trans SZc hb.size;replace BLc:=boxed_keep BLc hb (by omega);clear hb ko;have d0:=BLc.cell;have d1:=BLc.frozen;refine hK _ _ ?_;clear hK K;refine rdI 6 fun K hK=>?_;go_simp;refine hK _ _ ?_;clear hK K;refine wpAnyIn_done (by kernel_rfl) ?_ _;refine⟨KO.trans (KeepsOthers.setCell _ _ _),KZ.setCell (by simp;omega) _,?_,?_,?_,?_⟩
   ·exact BXc.setOther (by omega) _ _
   ·exact BWc.setCell (by simp;omega) _
   ·rw [World.size_setCell];exact SZc
   ·refine⟨_,BLc.set _,?_⟩
    have e:(pre++[x]).length=pre.length+1:=by simp
    have e2:pcells ((pre++[x]).map s.pairAt)=pcells (pre.map s.pairAt)++[.int .i64 (s.pairAt x).1,.int .i64 (s.pairAt x).2]:=by rw [List.map_append,pcells_append];rfl
    rw [e,e2];exact row_far ROW (by omega) _
  refine cI (fun K hK=>?_) AllReadyIn.nil;go_simp;refine hK _ _ ?_;clear hK K;have d0a:=fun o=>(boxed_below BLc BLc.lt ((Below.refl W2.heap.size W2).alloc (Nat.le_refl _) o)).cell;refine rdI 0 fun K hK=>?_;go_simp;refine hK _ _ ?_;clear hK K;refine rdI 5 fun K hK=>?_
  refine step_moreIn elemP rfl (.tmp 23) (.tmp 27) rfl W2 93 [.int .i64 (s.pairAt x).1,.int .i64 (s.pairAt x).2] rfl rfl w5s pre.length v _ rfl rfl ROW (by intro u hu;simp at hu;rcases hu with rfl | rfl<;>rfl) (by omega) (by unfold maxLen;omega) (by omega) ?_
  clear ROW;intro v2 W3 ROW hb ko;obtain⟨A3,c3',rfl,_⟩:=own_cells ROW;replace KO:=KO.trans ko;replace KZ:=KZ.trans (Kept.of_below hb (fun k hk=>by have:=HZs.out k hk;omega));replace BXc:=BXc.keep hb (by omega);replace BWc:=BWc.trans (hb.mono (by omega));replace SZc:=Nat.le_trans SZc hb.size;replace BLc:=boxed_keep BLc hb (by omega);clear hb ko;have d0:=BLc.cell;have d1:=BLc.frozen;refine hK _ _ ?_;clear hK K;refine rdI 6 fun K hK=>?_;go_simp;refine hK _ _ ?_;clear hK K;refine wpAnyIn_done (by kernel_rfl) ?_ _;refine⟨KO.trans (KeepsOthers.setCell _ _ _),KZ.setCell (by simp;omega) _,?_,?_,?_,?_⟩
  ·exact BXc.setOther (by omega) _ _
  ·exact BWc.setCell (by simp;omega) _
  ·rw [World.size_setCell];exact SZc
  ·refine⟨_,BLc.set _,?_⟩
   have e:(pre++[x]).length=pre.length+1:=by simp
   have e2:pcells ((pre++[x]).map s.pairAt)=pcells (pre.map s.pairAt)++[.int .i64 (s.pairAt x).1,.int .i64 (s.pairAt x).2]:=by rw [List.map_append,pcells_append];rfl
   rw [e,e2];exact row_far ROW (by omega) _
 case done =>
  rintro D W hD hI hKD;obtain⟨v,hbl,hrow⟩:=hI.row;have HI:=aq hI.below;have R:=aq hrow;have HKD:=aq hKD;have hDlt:D < W.heap.size:=(Array.getElem?_eq_some_iff.1 hKD).1;have hKD2:=aq hKD;obtain⟨A3,c3',rfl,_,_,hfar,_⟩:=own_cells hrow;have HFAR:=aq hfar;have d0:=hbl.cell;clear hI hrow hKD hfar;go_wp2;refine leaves_one hKD2.out ?_;have ov:=Over.of_grown (n:=0) (grownBy_putObj' W D (.deferred none)) (fun r e=>by cases e;exact⟨Nat.zero_le _,_,hKD2.out,rfl⟩);refine⟨_,results_tmp2 rfl _ _ _,⟨_,rfl,?_,?_⟩⟩
  ·have h9:=own_lower (ov.ownsRow R.out) (show w.heap.size<=w5s by omega)
   have e:(s.of lo hi).length=(Oc.places s.words lo hi).length:=by unfold Sl.of;simp
   rw [e];exact h9
  ·exact HI.out.trans ((Below.refl w.heap.size W).grown (grownBy_putObj' W D _) (by have:=HI.out.size;omega) (fun k e=>by cases e;omega))
 case stop =>
  rintro D c pre W hD hSp hF hK;exact hF.elim
theorem cPairs (s:Sl) (a:Ads) (lo hi:Int) (w:World) (h:Held w s a) (hok:s.Ok) (hs:s.Short) (hT:Tab w) :
  Calls Tryz.prog 208 #[slv s a,.int .i64 lo,.int .i64 hi] w (POwn2 (s.pairsV lo hi) (s.pairsE lo hi) w):=by
 by_cases hE:s.pairsE lo hi=0
 ·have hp:s.mayB=true/\Sl.partB s.keys.length lo hi=true:=by
   unfold Sl.pairsE at hE
   cases hm:s.mayB
   ·rw [hm] at hE;simp at hE
   ·cases hp:Sl.partB s.keys.length lo hi
    ·rw [hm,hp] at hE;simp at hE
    ·exact⟨rfl,rfl⟩
  obtain⟨g1,g2,g3⟩:=part_iff.1 hp.2;obtain⟨x,rfl⟩:∃ x:Nat,lo=x:=⟨lo.toNat,by omega⟩;obtain⟨y,rfl⟩:∃ y:Nat,hi=y:=⟨hi.toNat,by omega⟩
  have V:s.pairsV x y=s.of x y:=by unfold Sl.pairsV;rw [if_pos hE,Int.toNat_natCast,Int.toNat_natCast]
  rw [hE,V];exact cPairs_ok s a x y w h hok hs hT (may_iff.1 hp.1) (by omega) (by omega)
 ·have CC:=aq (fun o=>sCheckPart s a lo hi (w.alloc o) (h.alloc o) hok hs (hT.below ((Below.refl _ _).alloc (Nat.le_refl _) o)))
  have HB:=aq (fun o=>(Below.refl w.heap.size w).alloc (Nat.le_refl _) o);have V:=aq (show s.pairsV lo hi=[] by unfold Sl.pairsV;rw [if_neg hE]);obtain⟨E,hE2⟩:∃ E,E=s.pairsE lo hi:=⟨_,rfl⟩
  have k1:(E != 0)=true:=by rw [hE2];simp [hE]
  rw [<-hE2] at CC ⊢;clear h hok hs hT hE hE2;unfold slv at CC ⊢;refine calls_marks Tryz.func208 rfl ?_
  simp only [Tryz.ntmps208,List.size_toArray,List.length_cons,List.length_nil,Nat.reduceAdd,Nat.reduceSub,Array.replicate_succ,Array.replicate_zero,List.push_toArray,List.append_toArray,List.nil_append,List.cons_append]
  go_wp2_with fail
  refine (CC.out _).mono ?_;rintro e w1 ⟨rfl,hb⟩;have B1:=aq ((HB.out _).trans (hb.mono (by simp)));clear hb;go_wp2;refine⟨_,results_tmp2 rfl _ _ _,?_⟩;rw [V.out];exact⟨_,rfl,World.ownsRow_nil _ _ _ _,B1.out⟩
end Go.Proofs.YtpeckljoannolaaGreatDoor

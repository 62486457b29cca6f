/- What package lay returns. -/
import Derived.Test.YtpeckljoannolaaGreatDoorTkOc
import Derived.Test.YtpeckljoannolaaGreatDoorP08Oc
import Derived.Test.YtpeckljoannolaaGreatDoorM08Oc
import Derived.ArgAppend
import Derived.ScopeJumps
import Derived.Test.YtpeckljoannolaaGreatDoorM20Oc
import Derived.Test.YtpeckljoannolaaGreatDoorP07Oc
import Derived.Test.YtpeckljoannolaaGreatDoorM15Oc
set_option linter.unusedVariables false
set_option linter.unusedSimpArgs false
set_option maxHeartbeats 8000000
set_option maxRecDepth 100000
namespace Go.Proofs.YtpeckljoannolaaGreatDoor
open Go.RowKit
theorem wp_scope_on {P:Program} {a:Act} {w:World} {Q:Exit->Act->World->Prop} {c rest:Code} (l:Nat) (hf:findLabel c l=some rest)
  (first:c.wp P (Exit.jump l (fun a w=>rest.wp P (Exit.jump l (fun _ _=>False) Q) a w) Q) a w):(Code.scope c).wp P Q a w :=
 wp_scope_jumps l (fun a w=>rest.wp P (Exit.jump l (fun _ _=>False) Q) a w) (fun _ _=>0) hf first (fun a w h=>Go.wp_mono h (fun e a w hq=>by
  cases e<;>first | exact hq | exact hq.2.elim))
theorem ans_put6 {w W:World} {B r:Nat} {s:Sl} {a:Ads} (own:Own W B s a) (below:Below w.heap.size w W) (hr:r < B) (hw:w.heap.size<=r) (u0 u1 u2 u3 u4 u5:Value) :
  Own (put6 W r u0 u1 u2 u3 u4 u5) w.heap.size s a/\Below w.heap.size w (put6 W r u0 u1 u2 u3 u4 u5):=by
 have hb:w.heap.size<=B:=by omega
 exact⟨⟨(own.words.put6 hr _ _ _ _ _ _).lower hb,(own.keys.put6 hr _ _ _ _ _ _).lower hb,(own.vals.put6 hr _ _ _ _ _ _).lower hb,(own.counts.put6 hr _ _ _ _ _ _).lower hb,own.caps⟩,below_put6 below hw _ _ _ _ _ _⟩
theorem step_growN {P:Program} {T E:TypeId} {z:Value} {size bytes:Nat} (hE:Elem P T E z size bytes) {w:World} {ops:Array Oper} {o:Oper} {act:Act} {K:Act->World->Prop} {Q:Exit->Act->World->Prop} {F:Prop} (hgd:o.guard=none) (s x:Operand)
  (ho:o.op=.call { callee:=.builtin .append,args:=#[s,x],argTypes:=#[T,T] })
  (W:World) (t:TypeId) (us:List Value) (hW:w=W.alloc (.cells us.toArray t)) (hus:us.length=size) (b off n:Nat) (olds:List Value) (hs:act.eval s=.slice (some ⟨b,off,none⟩) n n) (hx:act.eval x=.slice (some ⟨W.heap.size,0,none⟩) 1 1)
  (hl:Cells W (some ⟨b,off,none⟩) olds) (hlo:olds.length=n*size) (h1:∀ u∈us,u.oneCell'=true) (h63:n+1<=maxLen) (hby:(n+1)*bytes<=140737488355328)
  (h:∀ v' w',w'.ownsRow W.heap.size E size v' (n+1) (olds++us)->Below W.heap.size W w'->K (act.put o.dst v') w'):if Region.wanted o (yielded ops act.tmps)=true then Oper.wp P o act w K Q else F:=by
 have hw:Region.wanted o (yielded ops act.tmps)=true:=by simp [Region.wanted,hgd]
 rw [if_pos hw];subst hW;obtain⟨i0,hi0,hz0,hz1,hz2⟩:=hE.info
 have hwords:∀ j u,us[j]?=some u->(W.alloc (.cells us.toArray t)).cell? ((⟨W.heap.size,0,none⟩:Addr).add j)=some u:=by
  intro j y hj;have hjl:j < us.length:=(List.getElem?_eq_some_iff.1 hj).1
  have hh:(W.alloc (.cells us.toArray t)).heap[W.heap.size]?=some (.cells us.toArray t):=by show (W.heap.push _)[W.heap.size]?=_;exact Array.getElem?_push_size
  rw [add_at,Nat.zero_add]
  simp only [World.cell?,hh]
  simpa using hj
 obtain⟨v',w',hrun,r1,r2⟩:=run_append_arg_grows (P:=P) (W.alloc (.cells us.toArray t)) T o.type E i0 z size bytes hE.und hi0 hz0 hz1 hz2 hE.zero hE.pos ⟨b,off,none⟩ n n olds hlo (fun j u hj=>hl.news j u hj _) ⟨W.heap.size,0,none⟩ 1 1 us (by rw [hus,Nat.one_mul]) hwords (by omega) h63 hby
 unfold Oper.wp
 simp [execOp,ho,resolve,invoke,builtin,hs,hx,hrun,Result.andThen]
 exact h _ _ (own_lower r1 (by simp)) (((Below.refl _ _).alloc (Nat.le_refl _) _).grown r2 (by simp) (fun k e=>by cases e))
theorem yAmong (b off c:Nat) (ps:List (Int×Int)) (k:Nat) (p:Int×Int) (w:World) (hp:PLst w (some ⟨b,off,none⟩) ps) (hk:k<=ps.length) (hn:ps.length<=65536) (hc:ps.length<=c) :
  Calls Tryz.prog 212 #[.slice (some ⟨b,off,none⟩) ps.length c,.int .i64 (k:Int),pv p] w fun e w'=>∃ v,e=.returned v/\w'.ownsRow w.heap.size 93 2 v (Ly.among ps k p).length (pcells (Ly.among ps k p))/\Below w.heap.size w w':=by
 have HP:=aq hp;have LA:=aq (Ly.among_length ps k p)
 have hk2:(k:Int)<=(ps.length:Int):=by omega
 have PX:=aq (PBox.new w p 93);have B0:=aq ((Below.refl w.heap.size w).alloc (Nat.le_refl _) (.cells #[.int .i64 p.1,.int .i64 p.2] 93));obtain⟨n,hnn⟩:∃ n,n=ps.length:=⟨_,rfl⟩;have HN:=aq hnn;rw [<-hnn] at hk hn hc hk2 ⊢;clear hp hnn
 have hkc:k<=c:=by omega
 unfold pv
 go_enter Tryz.func212,Tryz.ntmps212
 go_upto_region 1 with (fail)
 obtain⟨W0,hW0⟩:∃ W0,W0=w.alloc (.cells #[.int .i64 p.1,.int .i64 p.2] 93):=⟨_,rfl⟩;rw [<-hW0] at PX B0 ⊢;clear hW0;have P0:=aq (HP.out.below B0.out);have z0:=B0.out.size;obtain⟨p1,p2⟩:=p;refine wp_region_held_drew (S:=(fun w'=>w'.cell? ⟨w.heap.size,0,none⟩=some (.int .i64 p1)/\w'.cell? ⟨w.heap.size,1,none⟩=some (.int .i64 p2))) (by kernel_rfl) (⟨(PX.out.below ((Below.refl _ _).drew)).c0,(PX.out.below ((Below.refl _ _).drew)).c1⟩) (fun hHeld=>?_);refine tk 0 ?_;refine tk 1 ?_;refine tk 2 ?_;refine tk 3 ?_;refine tk 4 ?_;refine tk 7 ?_;refine tk 8 ?_;refine tk 9 ?_;refine rdH 5 fun K hK=>?_;go_simp;have BB5:=(Below.refl W0.heap.size W0).drew;have P5:=aq (P0.out.below BB5);have z5:=BB5.size;have BA:=fun o=>BB5.alloc z5 o;refine hK.out _ _ (⟨(PX.out.below (BA _)).c0,(PX.out.below (BA _)).c1⟩) (fun hHelda1=>?_);clear hK K hHeld
 try simp only [sZ]
 refine rdH 6 fun K hK=>?_
 refine step_growN elemP rfl (.tmp 10) (.tmp 12) rfl W0.drew 93 [.int .i64 p1,.int .i64 p2] rfl rfl b off k (pcells (ps.take k)) rfl rfl (plst_take P5.out k) (by rw [pcells_length,List.length_take,<-HN.out];omega) (by intro u hu;simp at hu;rcases hu with rfl | rfl<;>rfl) (by unfold maxLen;omega) (by omega) ?_
 intro v6 w6 hown6 hb6;have HO6:=aq hown6;have HB6:=aq (BB5.trans (hb6.mono z5));have P6:=aq (P0.out.below HB6.out);clear hown6 hb6;refine hK.out _ _ (⟨(PX.out.below HB6.out).c0,(PX.out.below HB6.out).c1⟩) (fun hHelda2=>?_);clear hK K hHelda1
 try simp only [sZ]
 refine rdH 10 fun K hK=>?_;have z6:=HB6.out.size
 have HD:=aq (show Cells w6 (if c=k then some ⟨b,off,none⟩ else some ⟨b,off+k*2,none⟩) (pcells (ps.drop k)) by
  split
  ·rw [List.drop_of_length_le (by rw [<-HN.out];omega)]
   exact Or.inl rfl
  ·exact plst_drop P6.out k)
 refine step_joinN elemP rfl (.tmp 13) (.tmp 16) rfl W0.heap.size (k+1) _ _ rfl (own_lower HO6.out z5) (if c=k then some ⟨b,off,none⟩ else some ⟨b,off+k*2,none⟩) (n-k) (c-k) (pcells (ps.drop k)) rfl HD.out (by rw [pcells_length,List.length_drop,<-HN.out]) (pcells_one _) (fun h=>by split at h<;>cases h) z6 (by unfold maxLen;omega) (by omega) ?_
 intro v7 w7 hown7 hb7;have HO7:=aq (own_lower hown7 z0);have HB7:=aq (B0.out.trans ((HB6.out.trans hb7).mono z0));have HK7:=aq (HB6.out.trans hb7);clear hown7 hb7;refine hK.out _ _ (⟨(PX.out.below HK7.out).c0,(PX.out.below HK7.out).c1⟩) (fun hHelda3=>?_);clear hK K hHelda2
 try simp only [sZ]
 refine tk 11 ?_;refine wpAnyH_done (by kernel_rfl) ?_ _;go_wp2
 all_goals
  go_ret;refine⟨_,rfl,?_,HB7.out⟩
  have e1:(Ly.among ps k (p1,p2)).length=k+1+(n-k):=by rw [LA.out,<-HN.out];omega
  have e2:pcells (Ly.among ps k (p1,p2))=pcells (ps.take k)++[.int .i64 p1,.int .i64 p2]++pcells (ps.drop k):=by
   unfold Ly.among;rw [pcells_append]
   simp [pcells]
  rw [e1,e2];exact HO7.out
theorem yAmongNil (p:Int×Int) (w:World) :
  Calls Tryz.prog 212 #[.slice none 0 0,.int .i64 0,pv p] w fun e w'=>∃ v,e=.returned v/\w'.ownsRow w.heap.size 93 2 v (Ly.among [] 0 p).length (pcells (Ly.among [] 0 p))/\Below w.heap.size w w':=by
 have PX:=aq (PBox.new w p 93);have B0:=aq ((Below.refl w.heap.size w).alloc (Nat.le_refl _) (.cells #[.int .i64 p.1,.int .i64 p.2] 93));unfold pv
 go_enter Tryz.func212,Tryz.ntmps212
 go_upto_region 1 with (fail)
 obtain⟨W0,hW0⟩:∃ W0,W0=w.alloc (.cells #[.int .i64 p.1,.int .i64 p.2] 93):=⟨_,rfl⟩;rw [<-hW0] at PX B0 ⊢;clear hW0;have z0:=B0.out.size;obtain⟨p1,p2⟩:=p;refine wp_region_held_drew (S:=(fun w'=>w'.cell? ⟨w.heap.size,0,none⟩=some (.int .i64 p1)/\w'.cell? ⟨w.heap.size,1,none⟩=some (.int .i64 p2))) (by kernel_rfl) (⟨(PX.out.below ((Below.refl _ _).drew)).c0,(PX.out.below ((Below.refl _ _).drew)).c1⟩) (fun hHeld=>?_);refine tk 0 ?_;refine tk 1 ?_;refine tk 2 ?_;refine tk 3 ?_;refine tk 4 ?_;refine tk 7 ?_;refine tk 8 ?_;refine tk 9 ?_;refine rdH 5 fun K hK=>?_;go_simp;have BB5:=(Below.refl W0.heap.size W0).drew;skip;have z5:=BB5.size;have BA:=fun o=>BB5.alloc z5 o;refine hK.out _ _ (⟨(PX.out.below (BA _)).c0,(PX.out.below (BA _)).c1⟩) (fun hHeldb1=>?_);clear hK K hHeld
 try simp only [sZ]
 refine rdH 6 fun K hK=>?_
 refine step_moreN elemP rfl (.tmp 10) (.tmp 12) rfl W0.drew 93 [.int .i64 p1,.int .i64 p2] rfl rfl W0.heap.size 0 (.slice none 0 0) [] rfl rfl (World.ownsRow_nil _ _ _ _) (by intro u hu;simp at hu;rcases hu with rfl | rfl<;>rfl) z5 (by unfold maxLen;omega) (by omega) ?_
 intro v6 w6 hown6 hb6;have HO6:=aq hown6;have HB6:=aq (BB5.trans hb6);clear hown6 hb6;refine hK.out _ _ (⟨(PX.out.below HB6.out).c0,(PX.out.below HB6.out).c1⟩) (fun hHeldb2=>?_);clear hK K hHeldb1
 try simp only [sZ]
 refine rdH 10 fun K hK=>?_;have z6:=HB6.out.size;refine step_joinN elemP rfl (.tmp 13) (.tmp 16) rfl W0.heap.size 1 _ _ rfl HO6.out none 0 0 [] rfl (Or.inl rfl) rfl (fun u hu=>by cases hu) (fun _=>⟨rfl,rfl⟩) z6 (by unfold maxLen;omega) (by omega) ?_;intro v7 w7 hown7 hb7;have HO7:=aq (own_lower hown7 z0);have HK7:=aq (HB6.out.trans hb7);have HB7:=aq (B0.out.trans (HK7.out.mono z0));clear hown7 hb7;refine hK.out _ _ (⟨(PX.out.below HK7.out).c0,(PX.out.below HK7.out).c1⟩) (fun hHeldb3=>?_);clear hK K hHeldb2
 try simp only [sZ]
 refine tk 11 ?_;refine wpAnyH_done (by kernel_rfl) ?_ _;go_wp2;go_ret;refine⟨_,rfl,?_,HB7.out⟩;exact HO7.out
theorem yOver_ok (s:Sl) (a:Ads) (x y:Nat) (al:Option Addr) (cal:Nat) (ps:List (Int×Int)) (w:World) (h:Held w s a) (hok:s.Ok) (hs:s.Short) (hT:Tab w) (hM:s.May) (hxy:x+ps.length<=y) (hy:y<=s.keys.length) (hp:PLst w al ps) (h64:In64P ps) :
  Calls Tryz.prog 211 #[slv s a,.int .i64 (x:Int),.int .i64 (y:Int),.slice al ps.length cal] w (Ans (Ly.spreadS s x y ps) 0 w):=by
 have l2:=hs.keys;have hm:=spread_may (n:=ps.length) hxy (by omega);have RI:=ofs_rising (n:=ps.length) hxy (by omega);have hu:upB (Sp.ofs ps.length x y) x y=true:=(up_iff _ _ _).2 ⟨RI.1.inn,RI.1.up⟩;have LN:=aq RI.2;have CP:=aq (fun W=>sPlaces_ok ps.length x y W hm)
 have CS:=aq (show ∀ W A c,Held W s a->Tab W->Lst .i64 W A (Sp.ofs ps.length x y)->PLst W al ps->Calls Tryz.prog 237 #[.agg #[.int .i64 s.seg,.slice a.w s.words.length a.cw,.slice a.k s.keys.length a.ck,.slice a.v s.vals.length a.cv,.slice a.c s.counts.length a.cc,.int .u64 (s.laid:Int)],.int .i64 (x:Int),.int .i64 (y:Int),.slice A ps.length c,.slice al ps.length cal] W (Ans (Ly.spreadS s x y ps) 0 W) from fun W A c h1 h2 h3 h4=>by
  have q:=cFill_ok s a x y A al c cal (Sp.ofs ps.length x y) ps W h1 hok hs h2 hM (by omega) hy h3 h4 (by rw [LN.out];omega) LN.out hu h64;rw [LN.out] at q
  exact q)
 have HH:=aq h;have HT:=aq hT;obtain⟨t,ht⟩:∃ t,t=Ly.spreadS s x y ps:=⟨_,rfl⟩;rw [<-ht] at CS ⊢;obtain⟨W0,hW0⟩:∃ W0,W0=(w.alloc (.cells #[.int .i64 s.seg,.slice a.w s.words.length a.cw,.slice a.k s.keys.length a.ck,.slice a.v s.vals.length a.cv,.slice a.c s.counts.length a.cc,.int .u64 (s.laid:Int)] 29)).alloc (.cells #[.int .i64 0,.slice none 0 0,.slice none 0 0,.slice none 0 0,.slice none 0 0,.int .u64 0] 29):=⟨_,rfl⟩;have HP:=aq (show PLst W0 al ps by rw [hW0];exact hp.below (((Below.refl w.heap.size w).alloc (Nat.le_refl _) _).alloc (by simp) _));have BX:=aq (show Box W0 w.heap.size s a by rw [hW0];exact (Box.new w s a 29).below ((Below.refl _ _).alloc (Nat.le_refl _) _));have BR:=aq (show Box W0 (w.heap.size+1) Sl.none adsNone by rw [hW0];exact Box.second w _ Sl.none adsNone 29);have BB:=aq (show Below w.heap.size w W0 by rw [hW0];exact ((Below.refl w.heap.size w).alloc (Nat.le_refl _) _).alloc (by simp) _)
 have zz:w.heap.size+2<=W0.heap.size:=by rw [hW0];simp
 clear h hp hok hs hT hM h64 hu RI ht hm;generalize hzs:Sp.ofs ps.length x y=zs at *;clear hzs;unfold slv
 go_enter Tryz.func211,Tryz.ntmps211
 go_upto_region 1 with (fail)
 rw [<-hW0];clear hW0
 go_wp2_with fail
 refine (CP.out _).mono ?_;rintro e w1 ⟨v,rfl,hr,hb⟩;obtain⟨A1,d1,rfl,hL⟩:=irow_list hr;rw [LN.out];have L1:=aq hL;replace BX:=aq (BX.out.below hb);replace BR:=aq (BR.out.below hb);replace BB:=aq (BB.out.trans (hb.mono BB.out.size));replace HP:=aq (HP.out.below hb);replace zz:=Nat.le_trans zz hb.size;clear hr hb hL;obtain⟨_,q0,q1,q2,q3,q4,q5,_⟩:=BX.out
 go_wp2_with fail
 refine (CS.out w1 A1 d1 (HH.out.below BB.out) (HT.out.below BB.out) L1.out HP.out).mono ?_;rintro e w2 ⟨a2,rfl,own,hb⟩;replace BR:=aq (BR.out.below hb);replace BB:=aq (BB.out.trans (hb.mono BB.out.size));have FIN:=aq (ans_put6 (r:=w.heap.size+1) own BB.out (by omega) (by omega));clear own hb q0 q1 q2 q3 q4 q5;obtain⟨_,s0,s1,s2,s3,s4,s5,sf⟩:=BR.out;have⟨sf0,sf1,sf2,sf3,sf4,sf5⟩:=sf6 sf;clear sf;unfold slv;go_wp2;refine bodyPost_ret (v:=.tuple #[slv t a2,.int .i64 0]) (by simp [results,Tryz.results211,go_sem,slv,s0,s1,s2,s3,s4,s5,sf0,sf1,sf2,sf3,sf4,sf5]) rfl ?_;exact⟨_,rfl,FIN.out _ _ _ _ _ _⟩
theorem yOver_no (s:Sl) (a:Ads) (lo hi:Int) (al:Option Addr) (cal n:Nat) (w:World) (h1:In64 lo) (h2:In64 hi) (hn:n<=65536) (hm:Sp.mayB n lo hi=false) :
  Calls Tryz.prog 211 #[slv s a,.int .i64 lo,.int .i64 hi,.slice al n cal] w (Ans Sl.none 2 w):=by
 have CP:=aq (fun W=>sPlaces n lo hi W ⟨by omega,by omega⟩ h1 h2);rw [(Sp.may_no hm).1,(Sp.may_no hm).2] at CP;obtain⟨W0,hW0⟩:∃ W0,W0=(w.alloc (.cells #[.int .i64 s.seg,.slice a.w s.words.length a.cw,.slice a.k s.keys.length a.ck,.slice a.v s.vals.length a.cv,.slice a.c s.counts.length a.cc,.int .u64 (s.laid:Int)] 29)).alloc (.cells #[.int .i64 0,.slice none 0 0,.slice none 0 0,.slice none 0 0,.slice none 0 0,.int .u64 0] 29):=⟨_,rfl⟩;have BR:=aq (show Box W0 (w.heap.size+1) Sl.none adsNone by rw [hW0];exact Box.second w _ Sl.none adsNone 29);have BB:=aq (show Below w.heap.size w W0 by rw [hW0];exact ((Below.refl w.heap.size w).alloc (Nat.le_refl _) _).alloc (by simp) _);clear hm h1 h2;unfold slv
 go_enter Tryz.func211,Tryz.ntmps211
 go_upto_region 1 with (fail)
 rw [<-hW0];clear hW0
 go_wp2_with fail
 refine (CP.out _).mono ?_;rintro e w1 ⟨v,rfl,hr,hb⟩;obtain⟨A1,d1,rfl,_⟩:=irow_list hr;replace BR:=aq (BR.out.below hb);replace BB:=aq (BB.out.trans (hb.mono BB.out.size));clear hr hb;obtain⟨_,s0,s1,s2,s3,s4,s5,sf⟩:=BR.out;have⟨sf0,sf1,sf2,sf3,sf4,sf5⟩:=sf6 sf;clear sf;go_wp2;refine bodyPost_ret (v:=.tuple #[slv Sl.none adsNone,.int .i64 2]) (by simp [results,Tryz.results211,go_sem,slv,Sl.none,adsNone,s0,s1,s2,s3,s4,s5,sf0,sf1,sf2,sf3,sf4,sf5]) rfl ?_;exact⟨_,rfl,(none_own _ _).1,below_put6 BB.out (by omega) _ _ _ _ _ _⟩
theorem yEven (s:Sl) (a:Ads) (lo hi:Int) (w:World) (h:Held w s a) (hok:s.Ok) (hs:s.Short) (hT:Tab w) (h1:In64 lo) (h2:In64 hi) :
  Calls Tryz.prog 197 #[slv s a,.int .i64 lo,.int .i64 hi] w (Ans (Ly.evenS s lo hi) (s.pairsE lo hi) w):=by
 have HH:=aq h;have HT:=aq hT;obtain⟨W0,hW0⟩:∃ W0,W0=(w.alloc (.cells #[.int .i64 s.seg,.slice a.w s.words.length a.cw,.slice a.k s.keys.length a.ck,.slice a.v s.vals.length a.cv,.slice a.c s.counts.length a.cc,.int .u64 (s.laid:Int)] 29)).alloc (.cells #[.int .i64 0,.slice none 0 0,.slice none 0 0,.slice none 0 0,.slice none 0 0,.int .u64 0] 29):=⟨_,rfl⟩;have BX:=aq (show Box W0 w.heap.size s a by rw [hW0];exact (Box.new w s a 29).below ((Below.refl _ _).alloc (Nat.le_refl _) _));have BR:=aq (show Box W0 (w.heap.size+1) Sl.none adsNone by rw [hW0];exact Box.second w _ Sl.none adsNone 29);have BB:=aq (show Below w.heap.size w W0 by rw [hW0];exact ((Below.refl w.heap.size w).alloc (Nat.le_refl _) _).alloc (by simp) _)
 have zz:w.heap.size+2<=W0.heap.size:=by rw [hW0];simp
 have CP:=aq (fun W (hb:Below w.heap.size w W)=>cPairs s a lo hi W (HH.out.below hb) hok hs (HT.out.below hb));obtain⟨er,her⟩:∃ er,er=s.pairsE lo hi:=⟨_,rfl⟩;have HE:=aq her
 by_cases h0:er=0
 case neg =>
  have V:=aq (Ly.even_no (s:=s) (a:=lo) (b:=hi) (by rw [<-her];exact h0));have V2:=aq (Ly.pairsV_no (s:=s) (a:=lo) (b:=hi) (by rw [<-her];exact h0));rw [V2.out,<-her] at CP
  have k1:(er != 0)=true:=by simp [h0]
  clear h hok hs hT her h0 h1 h2;unfold slv at CP ⊢
  go_enter Tryz.func197,Tryz.ntmps197
  go_upto_region 1 with (fail)
  rw [<-hW0];clear hW0;obtain⟨_,q0,q1,q2,q3,q4,q5,_⟩:=BX.out
  go_wp2_with fail
  refine (CP.out _ BB.out).mono ?_;rintro e w1 ⟨v,rfl,hr,hb⟩;obtain⟨A1,d1,rfl,_⟩:=prow_list hr;replace BR:=aq (BR.out.below hb);replace BB:=aq (BB.out.trans (hb.mono BB.out.size));clear hr hb q0 q1 q2 q3 q4 q5;obtain⟨_,s0,s1,s2,s3,s4,s5,sf⟩:=BR.out;have⟨sf0,sf1,sf2,sf3,sf4,sf5⟩:=sf6 sf;clear sf;go_wp2;refine bodyPost_ret (v:=.tuple #[slv Sl.none adsNone,.int .i64 er]) (by simp [results,Tryz.results197,go_sem,slv,Sl.none,adsNone,s0,s1,s2,s3,s4,s5,sf0,sf1,sf2,sf3,sf4,sf5]) rfl ?_;rw [V.out,HE.out];exact⟨_,rfl,(none_own _ _).1,below_put6 BB.out (by omega) _ _ _ _ _ _⟩
 case pos =>
  obtain⟨hm,x,y,rfl,rfl,hxy,hy⟩:=Ly.pairs_parts (s:=s) (by rw [<-her];exact h0);have V:=aq (Ly.even_ok (s:=s) (x:=x) (y:=y) (by rw [<-her];exact h0));have V2:=aq (Ly.pairsV_ok (s:=s) (x:=x) (y:=y) (by rw [<-her];exact h0));have LN:=Ly.of_len s x y;have H64:=of_in64 hok x y;rw [V2.out,<-her] at CP
  have CS:=aq (show ∀ W A c,Below w.heap.size w W->PLst W A (s.of x y)->Calls Tryz.prog 211 #[.agg #[.int .i64 s.seg,.slice a.w s.words.length a.cw,.slice a.k s.keys.length a.ck,.slice a.v s.vals.length a.cv,.slice a.c s.counts.length a.cc,.int .u64 (s.laid:Int)],.int .i64 (x:Int),.int .i64 (y:Int),.slice A (s.of x y).length c] W (Ans (Ly.evenS s x y) 0 W) from fun W A c hb h3=>by
   rw [V.out]
   exact yOver_ok s a x y A c (s.of x y) W (HH.out.below hb) hok hs (HT.out.below hb) (may_iff.1 hm) (by omega) hy h3 H64)
  have H0:=aq h0
  have k1:(er != 0)=false:=by simp [h0]
  clear h hok hs hT her h0 hm LN H64 V V2 h1 h2;generalize Ly.evenS s x y=t at *;generalize s.of x y=ps at *;unfold slv at CP ⊢
  go_enter Tryz.func197,Tryz.ntmps197
  go_upto_region 1 with (fail)
  rw [<-hW0];clear hW0;obtain⟨_,q0,q1,q2,q3,q4,q5,_⟩:=BX.out
  go_wp2_with fail
  refine (CP.out _ BB.out).mono ?_;rintro e w1 ⟨v,rfl,hr,hb⟩;obtain⟨A1,d1,rfl,hP⟩:=prow_list hr;have P1:=aq hP;replace BX:=aq (BX.out.below hb);replace BR:=aq (BR.out.below hb);replace BB:=aq (BB.out.trans (hb.mono BB.out.size));replace zz:=Nat.le_trans zz hb.size;clear hr hb hP q0 q1 q2 q3 q4 q5;obtain⟨_,q0,q1,q2,q3,q4,q5,_⟩:=BX.out
  go_wp2_with fail
  refine (CS.out w1 A1 d1 BB.out P1.out).mono ?_;rintro e w2 ⟨a2,rfl,own,hb⟩;replace BR:=aq (BR.out.below hb);replace BB:=aq (BB.out.trans (hb.mono BB.out.size));have FIN:=aq (ans_put6 (r:=w.heap.size+1) own BB.out (by omega) (by omega));clear own hb q0 q1 q2 q3 q4 q5;obtain⟨_,s0,s1,s2,s3,s4,s5,sf⟩:=BR.out;have⟨sf0,sf1,sf2,sf3,sf4,sf5⟩:=sf6 sf;clear sf;unfold slv;go_wp2;refine bodyPost_ret (v:=.tuple #[slv t a2,.int .i64 0]) (by simp [results,Tryz.results197,go_sem,slv,s0,s1,s2,s3,s4,s5,sf0,sf1,sf2,sf3,sf4,sf5]) rfl ?_;rw [<-HE.out,H0.out];exact⟨_,rfl,FIN.out _ _ _ _ _ _⟩
theorem yWith (s:Sl) (a:Ads) (lo hi k p1 p2:Int) (w:World) (h:Held w s a) (hok:s.Ok) (hs:s.Short) (hT:Tab w) (i1:In64 lo) (i2:In64 hi) (i3:In64 k) (h1:In64 p1) (h2:In64 p2) :
  Calls Tryz.prog 172 #[slv s a,.int .i64 lo,.int .i64 hi,.int .i64 k,.agg #[.int .i64 p1,.int .i64 p2]] w (Ans (Ly.withS s lo hi k (p1,p2)) (Ly.withE s lo hi k) w):=by
 have HH:=aq h;have HT:=aq hT;have CP:=aq (fun W (hb:Below w.heap.size w W)=>cPairs s a lo hi W (HH.out.below hb) hok hs (HT.out.below hb));obtain⟨W0,hW0⟩:∃ W0,W0=((w.alloc (.cells #[.int .i64 s.seg,.slice a.w s.words.length a.cw,.slice a.k s.keys.length a.ck,.slice a.v s.vals.length a.cv,.slice a.c s.counts.length a.cc,.int .u64 (s.laid:Int)] 29)).alloc (.cells #[.int .i64 p1,.int .i64 p2] 93)).alloc (.cells #[.int .i64 0,.slice none 0 0,.slice none 0 0,.slice none 0 0,.slice none 0 0,.int .u64 0] 29):=⟨_,rfl⟩;have BX:=aq (show Box W0 w.heap.size s a by rw [hW0];exact ((Box.new w s a 29).below ((Below.refl _ _).alloc (Nat.le_refl _) _)).below ((Below.refl _ _).alloc (Nat.le_refl _) _));have BP:=aq (show PBox W0 (w.heap.size+1) (p1,p2) by rw [hW0];exact (PBox.second w _ (p1,p2) 93).below ((Below.refl _ _).alloc (Nat.le_refl _) _));have BR:=aq (show Box W0 (w.heap.size+2) Sl.none adsNone by rw [hW0];exact Box.third w _ _ Sl.none adsNone 29);have BB:=aq (show Below w.heap.size w W0 by rw [hW0];exact (((Below.refl w.heap.size w).alloc (Nat.le_refl _) _).alloc (by simp) _).alloc (by simp;omega) _)
 have zz:w.heap.size+3<=W0.heap.size:=by rw [hW0];simp
 by_cases h0:s.pairsE lo hi=0
 case neg =>
  have E:=aq (Ly.with_bad h0 k);have V:=aq (Ly.with_no (s:=s) (a:=lo) (b:=hi) (k:=k) (p:=(p1,p2)) (by rw [E.out];exact h0));rw [E.out];rw [Ly.pairsV_no h0] at CP;obtain⟨er,her⟩:∃ er,er=s.pairsE lo hi:=⟨_,rfl⟩;rw [<-her] at CP h0 ⊢
  have k1:(er != 0)=true:=by simp [h0]
  clear h hok hs hT her h0 E i1 i2 i3;unfold slv at CP ⊢
  go_enter Tryz.func172,Tryz.ntmps172
  go_wp2_with fail
  rw [<-hW0];clear hW0;refine wp_scope_on 0 rfl ?_;obtain⟨_,q0,q1,q2,q3,q4,q5,_⟩:=BX.out
  go_wp2_with fail
  refine (CP.out W0 BB.out).mono ?_;rintro e w1 ⟨v,rfl,hr,hb⟩;clear q0 q1 q2 q3 q4 q5;replace BX:=aq (BX.out.below hb);replace BP:=aq (BP.out.below hb);replace BR:=aq (BR.out.below hb);replace BB:=aq (BB.out.trans (hb.mono BB.out.size));replace zz:=Nat.le_trans zz hb.size;obtain⟨A1,d1,rfl,_⟩:=prow_list hr;clear hr hb;obtain⟨_,s0,s1,s2,s3,s4,s5,sf⟩:=BR.out;have⟨sf0,sf1,sf2,sf3,sf4,sf5⟩:=sf6 sf;clear sf;go_wp2
  go_step3
  refine⟨rfl,?_⟩;go_wp2
  simp only [Exit.jump]
  refine bodyPost_ret (v:=.tuple #[slv Sl.none adsNone,.int .i64 er]) (by simp [results,Tryz.results172,go_sem,slv,Sl.none,adsNone,s0,s1,s2,s3,s4,s5,sf0,sf1,sf2,sf3,sf4,sf5]) rfl ?_;rw [V.out];exact⟨_,rfl,(none_own _ _).1,below_put6 BB.out (by omega) _ _ _ _ _ _⟩
 case pos =>
  obtain⟨hm,x,y,rfl,rfl,hxy,hy⟩:=Ly.pairs_parts h0;have E:=Ly.with_e h0 k;have LN:=Ly.of_len s x y;have l2:=hs.keys;rw [Ly.pairsV_ok h0,h0] at CP
  by_cases hfull:((s.of x y).length:Int)=(y:Int)-(x:Int)
  ·rw [if_pos hfull] at E
   have V:=aq (Ly.with_no (s:=s) (a:=x) (b:=y) (k:=k) (p:=(p1,p2)) (by rw [E];decide));rw [E]
   have k1:(((s.of x y).length:Int)==(y:Int)-(x:Int))=true:=by simp [hfull]
   clear h hok hs hT h0 hm E hfull i1 i2 i3;generalize s.of x y=ps at *;unfold slv at CP ⊢
   go_enter Tryz.func172,Tryz.ntmps172
   go_wp2_with fail
   rw [<-hW0];clear hW0;refine wp_scope_on 0 rfl ?_;obtain⟨_,q0,q1,q2,q3,q4,q5,_⟩:=BX.out
   go_wp2_with fail
   refine (CP.out W0 BB.out).mono ?_;rintro e w1 ⟨v,rfl,hr,hb⟩;clear q0 q1 q2 q3 q4 q5;replace BX:=aq (BX.out.below hb);replace BP:=aq (BP.out.below hb);replace BR:=aq (BR.out.below hb);replace BB:=aq (BB.out.trans (hb.mono BB.out.size));replace zz:=Nat.le_trans zz hb.size;obtain⟨A1,d1,rfl,_⟩:=prow_list hr;clear hr hb;obtain⟨_,s0,s1,s2,s3,s4,s5,sf⟩:=BR.out;have⟨sf0,sf1,sf2,sf3,sf4,sf5⟩:=sf6 sf;clear sf;go_wp2
   go_step3
   refine⟨rfl,?_⟩;go_wp2
   simp only [Exit.jump]
   refine bodyPost_ret (v:=.tuple #[slv Sl.none adsNone,.int .i64 9]) (by simp [results,Tryz.results172,go_sem,slv,Sl.none,adsNone,s0,s1,s2,s3,s4,s5,sf0,sf1,sf2,sf3,sf4,sf5]) rfl ?_;rw [V.out];exact⟨_,rfl,(none_own _ _).1,below_put6 BB.out (by omega) _ _ _ _ _ _⟩
  ·rw [if_neg hfull] at E
   have k1:(((s.of x y).length:Int)==(y:Int)-(x:Int))=false:=by simpa using hfull
   by_cases hk0:k < 0
   ·rw [if_neg (by omega)] at E
    have V:=aq (Ly.with_no (s:=s) (a:=x) (b:=y) (k:=k) (p:=(p1,p2)) (by rw [E];decide));rw [E];clear h hok hs hT h0 hm E hfull i1 i2 i3;generalize s.of x y=ps at *;unfold slv at CP ⊢
    go_enter Tryz.func172,Tryz.ntmps172
    go_wp2_with fail
    rw [<-hW0];clear hW0;refine wp_scope_on 0 rfl ?_;obtain⟨_,q0,q1,q2,q3,q4,q5,_⟩:=BX.out
    go_wp2_with fail
    refine (CP.out W0 BB.out).mono ?_;rintro e w1 ⟨v,rfl,hr,hb⟩;clear q0 q1 q2 q3 q4 q5;replace BX:=aq (BX.out.below hb);replace BP:=aq (BP.out.below hb);replace BR:=aq (BR.out.below hb);replace BB:=aq (BB.out.trans (hb.mono BB.out.size));replace zz:=Nat.le_trans zz hb.size;obtain⟨A1,d1,rfl,_⟩:=prow_list hr;clear hr hb;obtain⟨_,s0,s1,s2,s3,s4,s5,sf⟩:=BR.out;have⟨sf0,sf1,sf2,sf3,sf4,sf5⟩:=sf6 sf;clear sf;go_wp2
    go_step3
    refine⟨rfl,?_⟩;go_wp2
    simp only [Exit.jump]
    refine bodyPost_ret (v:=.tuple #[slv Sl.none adsNone,.int .i64 2]) (by simp [results,Tryz.results172,go_sem,slv,Sl.none,adsNone,s0,s1,s2,s3,s4,s5,sf0,sf1,sf2,sf3,sf4,sf5]) rfl ?_;rw [V.out];exact⟨_,rfl,(none_own _ _).1,below_put6 BB.out (by omega) _ _ _ _ _ _⟩
   ·by_cases hk1:((s.of x y).length:Int) < k
    ·rw [if_neg (by omega)] at E
     have V:=aq (Ly.with_no (s:=s) (a:=x) (b:=y) (k:=k) (p:=(p1,p2)) (by rw [E];decide));rw [E];clear h hok hs hT h0 hm E hfull i1 i2 i3;generalize s.of x y=ps at *;unfold slv at CP ⊢
     go_enter Tryz.func172,Tryz.ntmps172
     go_wp2_with fail
     rw [<-hW0];clear hW0;refine wp_scope_on 0 rfl ?_;obtain⟨_,q0,q1,q2,q3,q4,q5,_⟩:=BX.out
     go_wp2_with fail
     refine (CP.out W0 BB.out).mono ?_;rintro e w1 ⟨v,rfl,hr,hb⟩;clear q0 q1 q2 q3 q4 q5;replace BX:=aq (BX.out.below hb);replace BP:=aq (BP.out.below hb);replace BR:=aq (BR.out.below hb);replace BB:=aq (BB.out.trans (hb.mono BB.out.size));replace zz:=Nat.le_trans zz hb.size;obtain⟨A1,d1,rfl,_⟩:=prow_list hr;clear hr hb;obtain⟨_,s0,s1,s2,s3,s4,s5,sf⟩:=BR.out;have⟨sf0,sf1,sf2,sf3,sf4,sf5⟩:=sf6 sf;clear sf;go_wp2
     go_step3
     refine⟨rfl,?_⟩;go_wp2
     simp only [Exit.jump]
     refine bodyPost_ret (v:=.tuple #[slv Sl.none adsNone,.int .i64 2]) (by simp [results,Tryz.results172,go_sem,slv,Sl.none,adsNone,s0,s1,s2,s3,s4,s5,sf0,sf1,sf2,sf3,sf4,sf5]) rfl ?_;rw [V.out];exact⟨_,rfl,(none_own _ _).1,below_put6 BB.out (by omega) _ _ _ _ _ _⟩
    ·rw [if_pos (by omega)] at E
     obtain⟨m,rfl⟩:∃ m:Nat,k=m:=⟨k.toNat,by omega⟩
     have hkm:m<=(s.of x y).length:=by omega
     have hnn:(s.of x y).length<=65536:=by omega
     have V:=Ly.with_s (p:=(p1,p2)) E;have H64:=Ly.among_in64 (p:=(p1,p2)) (of_in64 hok x y) m h1 h2;have LA:=Ly.among_length (s.of x y) m (p1,p2)
     have CS:=aq (show ∀ W A c,Below w.heap.size w W->PLst W A (Ly.among (s.of x y) m (p1,p2))->Calls Tryz.prog 211 #[.agg #[.int .i64 s.seg,.slice a.w s.words.length a.cw,.slice a.k s.keys.length a.ck,.slice a.v s.vals.length a.cv,.slice a.c s.counts.length a.cc,.int .u64 (s.laid:Int)],.int .i64 (x:Int),.int .i64 (y:Int),.slice A (Ly.among (s.of x y) m (p1,p2)).length c] W (Ans (Ly.withS s x y m (p1,p2)) 0 W) from fun W A c hb h6=>by
      rw [V]
      exact yOver_ok s a x y A c _ W (HH.out.below hb) hok hs (HT.out.below hb) (may_iff.1 hm) (by omega) hy h6 H64)
     rw [E];clear h hok hs hT h0 hm E V H64 LA hfull i1 i2 i3;generalize Ly.withS s x y m (p1,p2)=t at *;generalize s.of x y=ps at *;unfold slv at CP ⊢
     go_enter Tryz.func172,Tryz.ntmps172
     go_wp2_with fail
     rw [<-hW0];clear hW0;refine wp_scope_on 0 rfl ?_;obtain⟨_,q0,q1,q2,q3,q4,q5,_⟩:=BX.out
     go_wp2_with fail
     refine (CP.out W0 BB.out).mono ?_;rintro e w1 ⟨v,rfl,hr,hb⟩;clear q0 q1 q2 q3 q4 q5;replace BX:=aq (BX.out.below hb);replace BP:=aq (BP.out.below hb);replace BR:=aq (BR.out.below hb);replace BB:=aq (BB.out.trans (hb.mono BB.out.size));replace zz:=Nat.le_trans zz hb.size
     rcases prow_cases hr with⟨rfl,rfl⟩ | ⟨g,d,rfl,hP,hd⟩
     ·obtain rfl:m=0:=by simpa using hkm
      have hP:PLst w1 none []:=Or.inl rfl;have CA:=aq (fun W=>yAmongNil (p1,p2) W);unfold pv at CA;have P1:=aq hP;clear hr hb hP
      go_upto_region 7 with (fail)
      refine wp_region_held_drew (S:=(fun w'=>(w'.cell? ⟨w.heap.size,0,none⟩=some (.int .i64 s.seg)/\w'.cell? ⟨w.heap.size,1,none⟩=some (.slice a.w s.words.length a.cw)/\w'.cell? ⟨w.heap.size,2,none⟩=some (.slice a.k s.keys.length a.ck)/\w'.cell? ⟨w.heap.size,3,none⟩=some (.slice a.v s.vals.length a.cv)/\w'.cell? ⟨w.heap.size,4,none⟩=some (.slice a.c s.counts.length a.cc)/\w'.cell? ⟨w.heap.size,5,none⟩=some (.int .u64 (s.laid:Int)))/\w'.cell? ⟨w.heap.size+1,0,none⟩=some (.int .i64 p1)/\w'.cell? ⟨w.heap.size+1,1,none⟩=some (.int .i64 p2))) (by kernel_rfl) (⟨(BX.out.below ((Below.refl _ _).drew)).cellAt,(BP.out.below ((Below.refl _ _).drew)).c0,(BP.out.below ((Below.refl _ _).drew)).c1⟩) (fun hHeld=>?_);refine tk 0 ?_;refine tk 1 ?_;refine tk 2 ?_;refine tk 3 ?_;refine tk 4 ?_;refine tk 5 ?_;refine rdH 6 fun K hK=>?_;go_simp;have dr:=(Below.refl w1.heap.size w1).drew;replace BX:=aq (BX.out.below dr);replace BP:=aq (BP.out.below dr);replace BR:=aq (BR.out.below dr);replace BB:=aq (BB.out.trans (dr.mono BB.out.size));replace P1:=aq (P1.out.below dr);replace zz:=Nat.le_trans zz dr.size;clear dr;refine (CA.out _).mono ?_;rintro e W5 ⟨v,rfl,hr,hb⟩;obtain⟨A5,d5,rfl,hP5⟩:=prow_list hr;have P5:=aq hP5;replace BX:=aq (BX.out.below hb);replace BP:=aq (BP.out.below hb);replace BR:=aq (BR.out.below hb);replace BB:=aq (BB.out.trans (hb.mono BB.out.size))
      replace zz:=Nat.le_trans zz hb.size;clear hr hb hP5
      try (go_simp)
      refine hK.out _ _ (⟨BX.out.cellAt,BP.out.c0,BP.out.c1⟩) (fun hHeldc1=>?_);clear hK K hHeld
      try simp only [sZ]
      refine rdH 7 fun K hK=>?_;go_simp;refine (CS.out W5 A5 d5 BB.out P5.out).mono ?_;rintro e W6 ⟨a3,rfl,own,hb⟩;replace BX:=aq (BX.out.below hb);replace BP:=aq (BP.out.below hb);replace BR:=aq (BR.out.below hb);replace BB:=aq (BB.out.trans (hb.mono BB.out.size));have FIN:=aq (ans_put6 (r:=w.heap.size+2) own BB.out (by omega) (by omega));replace zz:=Nat.le_trans zz hb.size;clear own hb;obtain⟨_,s0,s1,s2,s3,s4,s5,sf⟩:=BR.out;have⟨sf0,sf1,sf2,sf3,sf4,sf5⟩:=sf6 sf;clear sf;unfold slv
      try (go_simp)
      refine hK.out _ _ (⟨BX.out.cellAt,BP.out.c0,BP.out.c1⟩) (fun hHeldc2=>?_);clear hK K hHeldc1
      try simp only [sZ]
      refine tk 8 ?_;refine tk 9 ?_;refine rdH 10 fun K hK=>?_;go_simp;skip;refine hK.out _ _ (⟨(BX.out.put6o (g':=w.heap.size+2) (by omega) _ _ _ _ _ _).cellAt,(BP.out.put6 (g':=w.heap.size+2) (by omega) _ _ _ _ _ _).c0,(BP.out.put6 (g':=w.heap.size+2) (by omega) _ _ _ _ _ _).c1⟩) (fun hHeldc3=>?_);clear hK K hHeldc2
      try simp only [sZ]
      refine tk 11 ?_;refine wpAnyH_done (by kernel_rfl) ?_ _;go_wp2
      simp only [Exit.jump]
      refine bodyPost_ret (v:=.tuple #[slv t a3,.int .i64 0]) (by simp [results,Tryz.results172,go_sem,slv,s0,s1,s2,s3,s4,s5,sf0,sf1,sf2,sf3,sf4,sf5]) rfl ?_;exact⟨_,rfl,FIN.out _ _ _ _ _ _⟩
     ·have CA:=aq (fun W (hW:PLst W (some ⟨g,0,none⟩) ps)=>yAmong g 0 d ps m (p1,p2) W hW hkm hnn hd)
      unfold pv at CA;have P1:=aq hP;clear hr hb hP
      go_upto_region 7 with (fail)
      refine wp_region_held_drew (S:=(fun w'=>(w'.cell? ⟨w.heap.size,0,none⟩=some (.int .i64 s.seg)/\w'.cell? ⟨w.heap.size,1,none⟩=some (.slice a.w s.words.length a.cw)/\w'.cell? ⟨w.heap.size,2,none⟩=some (.slice a.k s.keys.length a.ck)/\w'.cell? ⟨w.heap.size,3,none⟩=some (.slice a.v s.vals.length a.cv)/\w'.cell? ⟨w.heap.size,4,none⟩=some (.slice a.c s.counts.length a.cc)/\w'.cell? ⟨w.heap.size,5,none⟩=some (.int .u64 (s.laid:Int)))/\w'.cell? ⟨w.heap.size+1,0,none⟩=some (.int .i64 p1)/\w'.cell? ⟨w.heap.size+1,1,none⟩=some (.int .i64 p2))) (by kernel_rfl) (⟨(BX.out.below ((Below.refl _ _).drew)).cellAt,(BP.out.below ((Below.refl _ _).drew)).c0,(BP.out.below ((Below.refl _ _).drew)).c1⟩) (fun hHeld=>?_);refine tk 0 ?_;refine tk 1 ?_;refine tk 2 ?_;refine tk 3 ?_;refine tk 4 ?_;refine tk 5 ?_;refine rdH 6 fun K hK=>?_;go_simp;have dr:=(Below.refl w1.heap.size w1).drew;replace BX:=aq (BX.out.below dr);replace BP:=aq (BP.out.below dr);replace BR:=aq (BR.out.below dr);replace BB:=aq (BB.out.trans (dr.mono BB.out.size));replace P1:=aq (P1.out.below dr);replace zz:=Nat.le_trans zz dr.size;clear dr;refine (CA.out _ P1.out).mono ?_;rintro e W5 ⟨v,rfl,hr,hb⟩;obtain⟨A5,d5,rfl,hP5⟩:=prow_list hr;have P5:=aq hP5;replace BX:=aq (BX.out.below hb);replace BP:=aq (BP.out.below hb);replace BR:=aq (BR.out.below hb);replace BB:=aq (BB.out.trans (hb.mono BB.out.size))
      replace zz:=Nat.le_trans zz hb.size;clear hr hb hP5
      try (go_simp)
      refine hK.out _ _ (⟨BX.out.cellAt,BP.out.c0,BP.out.c1⟩) (fun hHeldd1=>?_);clear hK K hHeld
      try simp only [sZ]
      refine rdH 7 fun K hK=>?_;go_simp;refine (CS.out W5 A5 d5 BB.out P5.out).mono ?_;rintro e W6 ⟨a3,rfl,own,hb⟩;replace BX:=aq (BX.out.below hb);replace BP:=aq (BP.out.below hb);replace BR:=aq (BR.out.below hb);replace BB:=aq (BB.out.trans (hb.mono BB.out.size));have FIN:=aq (ans_put6 (r:=w.heap.size+2) own BB.out (by omega) (by omega));replace zz:=Nat.le_trans zz hb.size;clear own hb;obtain⟨_,s0,s1,s2,s3,s4,s5,sf⟩:=BR.out;have⟨sf0,sf1,sf2,sf3,sf4,sf5⟩:=sf6 sf;clear sf;unfold slv
      try (go_simp)
      refine hK.out _ _ (⟨BX.out.cellAt,BP.out.c0,BP.out.c1⟩) (fun hHeldd2=>?_);clear hK K hHeldd1
      try simp only [sZ]
      refine tk 8 ?_;refine tk 9 ?_;refine rdH 10 fun K hK=>?_;go_simp;skip;refine hK.out _ _ (⟨(BX.out.put6o (g':=w.heap.size+2) (by omega) _ _ _ _ _ _).cellAt,(BP.out.put6 (g':=w.heap.size+2) (by omega) _ _ _ _ _ _).c0,(BP.out.put6 (g':=w.heap.size+2) (by omega) _ _ _ _ _ _).c1⟩) (fun hHeldd3=>?_);clear hK K hHeldd2
      try simp only [sZ]
      refine tk 11 ?_;refine wpAnyH_done (by kernel_rfl) ?_ _;go_wp2
      simp only [Exit.jump]
      refine bodyPost_ret (v:=.tuple #[slv t a3,.int .i64 0]) (by simp [results,Tryz.results172,go_sem,slv,s0,s1,s2,s3,s4,s5,sf0,sf1,sf2,sf3,sf4,sf5]) rfl ?_;exact⟨_,rfl,FIN.out _ _ _ _ _ _⟩
theorem yInto (s:Sl) (a:Ads) (size:Int) (al:Option Addr) (cal:Nat) (ps:List (Int×Int)) (w:World) (h:Held w s a) (hok:s.Ok) (hs:s.Short) (hT:Tab w) (hz:In64 size) (hn:ps.length<=65536) (hp:PLst w al ps) (h64:In64P ps) :
  Calls Tryz.prog 225 #[slv s a,.int .i64 size,.slice al ps.length cal] w (Ans (Ly.intoS s size ps) (Ly.intoE s size ps.length) w):=by
 have HH:=aq h;have HT:=aq hT;have HPP:=aq hp;have CM:=aq (fun W (hb:Below w.heap.size w W)=>sCheck s a W (HH.out.below hb) hok hs (HT.out.below hb));obtain⟨W0,hW0⟩:∃ W0,W0=((w.alloc (.cells #[.int .i64 s.seg,.slice a.w s.words.length a.cw,.slice a.k s.keys.length a.ck,.slice a.v s.vals.length a.cv,.slice a.c s.counts.length a.cc,.int .u64 (s.laid:Int)] 29)).alloc (.cells #[.int .i64 0,.slice none 0 0,.slice none 0 0,.slice none 0 0,.slice none 0 0,.int .u64 0] 29)).alloc (.cells #[.int .i64 0,.slice none 0 0,.slice none 0 0,.slice none 0 0,.slice none 0 0,.int .u64 0] 29):=⟨_,rfl⟩;have BX:=aq (show Box W0 w.heap.size s a by rw [hW0];exact ((Box.new w s a 29).below ((Below.refl _ _).alloc (Nat.le_refl _) _)).below ((Below.refl _ _).alloc (Nat.le_refl _) _));have BR:=aq (show Box W0 (w.heap.size+1) Sl.none adsNone by rw [hW0];exact (Box.second w _ Sl.none adsNone 29).below ((Below.refl _ _).alloc (Nat.le_refl _) _));have BZ:=aq (show Box W0 (w.heap.size+2) Sl.none adsNone by rw [hW0];exact Box.third w _ _ Sl.none adsNone 29);have BB:=aq (show Below w.heap.size w W0 by rw [hW0];exact (((Below.refl w.heap.size w).alloc (Nat.le_refl _) _).alloc (by simp) _).alloc (by simp;omega) _)
 have zz:w.heap.size+3<=W0.heap.size:=by rw [hW0];simp
 cases hm:s.mayB
 ·have E:=Ly.into_bad hm size ps.length
  have V:=Ly.into_no (s:=s) (size:=size) (l:=ps) (by rw [E];decide);rw [E,V];rw [show s.chk=8 by unfold Sl.chk;rw [hm];rfl] at CM;clear h hok hs hT hp h64 hm E V hz;unfold slv at CM ⊢
  go_enter Tryz.func225,Tryz.ntmps225
  go_wp2_with fail
  refine wp_scope_on 0 rfl ?_
  go_upto_region 2 with (fail)
  rw [<-hW0];clear hW0;obtain⟨_,q0,q1,q2,q3,q4,q5,_⟩:=BX.out
  go_wp2_with fail
  refine (CM.out W0 BB.out).mono ?_;rintro e w1 ⟨rfl,hb⟩;clear q0 q1 q2 q3 q4 q5;replace BX:=aq (BX.out.below hb);replace BR:=aq (BR.out.below hb);replace BZ:=aq (BZ.out.below hb);replace BB:=aq (BB.out.trans (hb.mono BB.out.size));replace zz:=Nat.le_trans zz hb.size;clear hb;obtain⟨_,s0,s1,s2,s3,s4,s5,sf⟩:=BR.out;have⟨sf0,sf1,sf2,sf3,sf4,sf5⟩:=sf6 sf;clear sf;go_wp2
  go_step3
  refine⟨rfl,?_⟩;go_wp2
  simp only [Exit.jump]
  refine bodyPost_ret (v:=.tuple #[slv Sl.none adsNone,.int .i64 8]) (by simp [results,Tryz.results225,go_sem,slv,Sl.none,adsNone,s0,s1,s2,s3,s4,s5,sf0,sf1,sf2,sf3,sf4,sf5]) rfl ?_;exact⟨_,rfl,(none_own _ _).1,below_put6 BB.out (by omega) _ _ _ _ _ _⟩
 ·have E:=Ly.into_may hm size ps.length
  rw [show s.chk=0 by unfold Sl.chk;rw [hm];rfl] at CM;have CN:=aq (fun W=>sNew s.seg size W hok.seg hz)
  cases hf:Sl.fitsB s.seg size
  ·rw [hf,Bool.false_and] at E
   have V:=Ly.into_no (s:=s) (size:=size) (l:=ps) (by rw [E];decide);rw [E,V,if_neg (by decide)];rw [show Sl.newS s.seg size=Sl.none by unfold Sl.newS;rw [hf];rfl,show Sl.newE s.seg size=2 by unfold Sl.newE;rw [hf];rfl] at CN;clear h hok hs hT hp h64 hm hf E V hz;unfold slv at CM ⊢
   go_enter Tryz.func225,Tryz.ntmps225
   go_wp2_with fail
   refine wp_scope_on 0 rfl ?_
   go_upto_region 2 with (fail)
   rw [<-hW0];clear hW0;obtain⟨_,q0,q1,q2,q3,q4,q5,_⟩:=BX.out
   go_wp2_with fail
   refine (CM.out W0 BB.out).mono ?_;rintro e w1 ⟨rfl,hb⟩;clear q0 q1 q2 q3 q4 q5;replace BX:=aq (BX.out.below hb);replace BR:=aq (BR.out.below hb);replace BZ:=aq (BZ.out.below hb);replace BB:=aq (BB.out.trans (hb.mono BB.out.size));replace zz:=Nat.le_trans zz hb.size;clear hb;obtain⟨_,q0,q1,q2,q3,q4,q5,_⟩:=BX.out
   go_wp2_with fail
   refine (CN.out w1).mono ?_;rintro e w2 ⟨a1,rfl,own,hb⟩;clear q0 q1 q2 q3 q4 q5;have zw:=zz;replace BX:=aq (BX.out.below hb);replace BR:=aq (BR.out.below hb);replace BZ:=aq (BZ.out.below hb);replace BB:=aq (BB.out.trans (hb.mono BB.out.size));replace zz:=Nat.le_trans zz hb.size;have OW:=aq own;clear own hb;obtain⟨_,t0,t1,t2,t3,t4,t5,tf⟩:=BZ.out;have tf0:=tf 0;have tf1:=tf 1;have tf2:=tf 2;have tf3:=tf 3;have tf4:=tf 4;have tf5:=tf 5;clear tf;unfold slv
   go_upto_region 5 with (fail)
   obtain⟨V1,hV⟩:∃ V,V=put6 w2 (w.heap.size+2) (.int .i64 Sl.none.seg) (.slice a1.w Sl.none.words.length a1.cw) (.slice a1.k Sl.none.keys.length a1.ck) (.slice a1.v Sl.none.vals.length a1.cv) (.slice a1.c Sl.none.counts.length a1.cc) (.int .u64 (Sl.none.laid:Int)):=⟨_,rfl⟩;replace BX:=aq (show Box V1 w.heap.size s a by rw [hV];exact BX.out.put6o (by omega) _ _ _ _ _ _);replace BR:=aq (show Box V1 (w.heap.size+1) Sl.none adsNone by rw [hV];exact BR.out.put6o (by omega) _ _ _ _ _ _);replace BZ:=aq (show Box V1 (w.heap.size+2) Sl.none a1 by rw [hV];exact BZ.out.put6 Sl.none a1);replace OW:=aq (show Own V1 w1.heap.size Sl.none a1 by rw [hV];exact⟨OW.out.words.put6 (by omega) _ _ _ _ _ _,OW.out.keys.put6 (by omega) _ _ _ _ _ _,OW.out.vals.put6 (by omega) _ _ _ _ _ _,OW.out.counts.put6 (by omega) _ _ _ _ _ _,OW.out.caps⟩);replace BB:=aq (show Below w.heap.size w V1 by rw [hV];exact below_put6 BB.out (by omega) _ _ _ _ _ _)
   have zv:w.heap.size+3<=V1.heap.size:=by rw [hV,size_put6];exact zz
   unfold put6 at hV;rw [<-hV];clear hV t0 t1 t2 t3 t4 t5 tf0 tf1 tf2 tf3 tf4 tf5;obtain⟨_,s0,s1,s2,s3,s4,s5,sf⟩:=BR.out;have⟨sf0,sf1,sf2,sf3,sf4,sf5⟩:=sf6 sf;clear sf;go_wp2
   go_step3
   refine⟨rfl,?_⟩;go_wp2
   simp only [Exit.jump]
   refine bodyPost_ret (v:=.tuple #[slv Sl.none adsNone,.int .i64 2]) (by simp [results,Tryz.results225,go_sem,slv,Sl.none,adsNone,s0,s1,s2,s3,s4,s5,sf0,sf1,sf2,sf3,sf4,sf5]) rfl ?_;exact⟨_,rfl,(none_own _ _).1,below_put6 BB.out (by omega) _ _ _ _ _ _⟩
  ·rw [hf,Bool.true_and] at E
   rw [show Sl.newS s.seg size=Sl.empty s.seg size by unfold Sl.newS;rw [hf];rfl,show Sl.newE s.seg size=0 by unfold Sl.newE;rw [hf];rfl] at CN;obtain⟨f1,f2,f3,f4,f5,f6,f7⟩:=fits_yes hf;obtain⟨m,rfl⟩:∃ m:Nat,size=m:=⟨size.toNat,by omega⟩;have BA:=base_bare hf hok.seg hok.laid
   have CS:=aq (show ∀ W a1,Below w.heap.size w W->Held W (Ly.base s m) a1->Calls Tryz.prog 211 #[slv (Ly.base s m) a1,.int .i64 0,.int .i64 (m:Int),.slice al ps.length cal] W (Ans (Ly.intoS s m ps) (Ly.intoE s m ps.length) W) from fun W a1 hb hh=>by
    by_cases hl:(ps.length:Int)<=m
    ·rw [decide_eq_true hl,if_pos rfl] at E
     have V:Ly.intoS s m ps=Ly.spreadS (Ly.base s m) (0:Nat) m ps:=by unfold Ly.intoS;rw [if_pos E];rfl
     rw [E,V];exact yOver_ok (Ly.base s m) a1 0 m al cal ps W hh BA.ok BA.short (HT.out.below hb) BA.may (by omega) (by rw [BA.keys];exact Nat.le_refl _) (HPP.out.below hb) h64
    ·rw [decide_eq_false hl,if_neg (by decide)] at E
     have V:=Ly.into_no (s:=s) (size:=m) (l:=ps) (by rw [E];decide);rw [E,V]
     exact yOver_no (Ly.base s m) a1 0 m al cal ps.length W (by constructor<;>omega) hz hn (by unfold Sp.mayB;rw [decide_eq_false (show ¬ (ps.length:Int)<=(m:Int)-0 by omega)];simp))
   obtain⟨u,hu⟩:∃ u,u=Sl.empty s.seg m:=⟨_,rfl⟩;have HB:=aq (show Ly.base s m={ u with laid:=s.laid } by rw [hu];rfl);rw [HB.out] at CS;rw [<-hu] at CN;obtain⟨er,her⟩:∃ er,er=Ly.intoE s m ps.length:=⟨_,rfl⟩;obtain⟨t,ht⟩:∃ t,t=Ly.intoS s m ps:=⟨_,rfl⟩;rw [<-her,<-ht] at CS ⊢;clear h hok hs hT hp h64 hm hf E hz BA f1 f2 f3 f4 f5 f6 f7 hu her ht;unfold slv at CM ⊢
   go_enter Tryz.func225,Tryz.ntmps225
   go_wp2_with fail
   refine wp_scope_on 0 rfl ?_
   go_upto_region 2 with (fail)
   rw [<-hW0];clear hW0;obtain⟨_,q0,q1,q2,q3,q4,q5,_⟩:=BX.out
   go_wp2_with fail
   refine (CM.out W0 BB.out).mono ?_;rintro e w1 ⟨rfl,hb⟩;clear q0 q1 q2 q3 q4 q5;replace BX:=aq (BX.out.below hb);replace BR:=aq (BR.out.below hb);replace BZ:=aq (BZ.out.below hb);replace BB:=aq (BB.out.trans (hb.mono BB.out.size));replace zz:=Nat.le_trans zz hb.size;clear hb;obtain⟨_,q0,q1,q2,q3,q4,q5,_⟩:=BX.out
   go_wp2_with fail
   refine (CN.out w1).mono ?_;rintro e w2 ⟨a1,rfl,own,hb⟩;clear q0 q1 q2 q3 q4 q5;have zw:=zz;replace BX:=aq (BX.out.below hb);replace BR:=aq (BR.out.below hb);replace BZ:=aq (BZ.out.below hb);replace BB:=aq (BB.out.trans (hb.mono BB.out.size));replace zz:=Nat.le_trans zz hb.size;have OW:=aq own;clear own hb;obtain⟨_,t0,t1,t2,t3,t4,t5,tf⟩:=BZ.out;have tf0:=tf 0;have tf1:=tf 1;have tf2:=tf 2;have tf3:=tf 3;have tf4:=tf 4;have tf5:=tf 5;clear tf;unfold slv
   go_upto_region 5 with (fail)
   obtain⟨V1,hV⟩:∃ V,V=put6 w2 (w.heap.size+2) (.int .i64 u.seg) (.slice a1.w u.words.length a1.cw) (.slice a1.k u.keys.length a1.ck) (.slice a1.v u.vals.length a1.cv) (.slice a1.c u.counts.length a1.cc) (.int .u64 (u.laid:Int)):=⟨_,rfl⟩;replace BX:=aq (show Box V1 w.heap.size s a by rw [hV];exact BX.out.put6o (by omega) _ _ _ _ _ _);replace BR:=aq (show Box V1 (w.heap.size+1) Sl.none adsNone by rw [hV];exact BR.out.put6o (by omega) _ _ _ _ _ _);replace BZ:=aq (show Box V1 (w.heap.size+2) u a1 by rw [hV];exact BZ.out.put6 u a1);replace OW:=aq (show Own V1 w1.heap.size u a1 by rw [hV];exact⟨OW.out.words.put6 (by omega) _ _ _ _ _ _,OW.out.keys.put6 (by omega) _ _ _ _ _ _,OW.out.vals.put6 (by omega) _ _ _ _ _ _,OW.out.counts.put6 (by omega) _ _ _ _ _ _,OW.out.caps⟩);replace BB:=aq (show Below w.heap.size w V1 by rw [hV];exact below_put6 BB.out (by omega) _ _ _ _ _ _)
   have zv:w.heap.size+3<=V1.heap.size:=by rw [hV,size_put6];exact zz
   unfold put6 at hV;rw [<-hV];clear hV t0 t1 t2 t3 t4 t5 tf0 tf1 tf2 tf3 tf4 tf5;obtain⟨_,q0,q1,q2,q3,q4,q5,_⟩:=BX.out;obtain⟨_,t0,t1,t2,t3,t4,t5,tf⟩:=BZ.out;have tf5:=tf 5;clear tf
   go_upto_region 7 with (fail)
   obtain⟨V2,hV⟩:∃ V,V=V1.setCell ⟨w.heap.size+2,5,none⟩ (.int .u64 (s.laid:Int)):=⟨_,rfl⟩;have BZ2:=aq (show Box V2 (w.heap.size+2) { u with laid:=s.laid } a1 by rw [hV];exact BZ.out.set (s':={ u with laid:=s.laid }) (a':=a1) 5 (.int .u64 (s.laid:Int)) (by decide) rfl ⟨rfl,rfl,rfl⟩ ⟨rfl,rfl,rfl⟩ ⟨rfl,rfl,rfl⟩ ⟨rfl,rfl,rfl⟩ rfl);replace BR:=aq (show Box V2 (w.heap.size+1) Sl.none adsNone by rw [hV];exact BR.out.setOther (by omega) _ _)
   replace OW:=aq (show Held V2 { u with laid:=s.laid } a1 by
    rw [hV];have o:=OW.out
    exact⟨(o.words.setBox (by omega) _ _).lst,(o.keys.setBox (by omega) _ _).lst,(o.vals.setBox (by omega) _ _).lst,(o.counts.setBox (by omega) _ _).lst,⟨o.caps.w0,o.caps.k0,o.caps.v0,o.caps.c0,o.caps.w1,o.caps.k1,o.caps.v1,o.caps.c1⟩⟩)
   replace BB:=aq (show Below w.heap.size w V2 by rw [hV];exact BB.out.setCell (p:=⟨w.heap.size+2,5,none⟩) (by show w.heap.size<=w.heap.size+2;omega) _);rw [<-hV]
   have zv2:w.heap.size+3<=V2.heap.size:=by rw [hV];simpa using zv
   clear hV q0 q1 q2 q3 q4 q5 t0 t1 t2 t3 t4 t5 tf5 BX BZ;have CS1:=aq (CS.out V2 a1 BB.out OW.out);unfold slv at CS1
   dsimp only at CS1
   obtain⟨_,q0,q1,q2,q3,q4,q5,_⟩:=BZ2.out
   dsimp only at q0 q1 q2 q3 q4 q5
   go_wp2_with fail
   refine CS1.out.mono ?_;rintro e w3 ⟨a3,rfl,own,hb⟩;replace BR:=aq (BR.out.below hb);replace BB:=aq (BB.out.trans (hb.mono BB.out.size));have FIN:=aq (ans_put6 (r:=w.heap.size+1) own BB.out (by omega) (by omega));clear own hb q0 q1 q2 q3 q4 q5 BZ2;obtain⟨_,s0,s1,s2,s3,s4,s5,sf⟩:=BR.out;have⟨sf0,sf1,sf2,sf3,sf4,sf5⟩:=sf6 sf;clear sf;unfold slv;go_wp2
   simp only [Exit.jump]
   refine bodyPost_ret (v:=.tuple #[slv t a3,.int .i64 er]) (by simp [results,Tryz.results225,go_sem,slv,s0,s1,s2,s3,s4,s5,sf0,sf1,sf2,sf3,sf4,sf5]) rfl ?_;exact⟨_,rfl,FIN.out _ _ _ _ _ _⟩
end Go.Proofs.YtpeckljoannolaaGreatDoor

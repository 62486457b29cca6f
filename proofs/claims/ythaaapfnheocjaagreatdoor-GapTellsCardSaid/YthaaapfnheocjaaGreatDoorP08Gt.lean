/- Plain facts of parts that are spread. -/
import Derived.Test.YthaaapfnheocjaaGreatDoorTkGt
import Derived.Test.YthaaapfnheocjaaGreatDoorM07Gt
import Derived.Test.YthaaapfnheocjaaGreatDoorP07Gt
import Derived.Test.YthaaapfnheocjaaGreatDoorP06Gt
import Derived.Deep.RegionHeld3
import Derived.Test.YthaaapfnheocjaaGreatDoorM11Gt
import Derived.Test.YthaaapfnheocjaaGreatDoorM23Gt
import Derived.Test.YthaaapfnheocjaaGreatDoorM08Gt
set_option linter.unusedVariables false
set_option linter.unusedSimpArgs false
set_option maxHeartbeats 4000000
set_option maxRecDepth 100000
namespace Go.Proofs.YthaaapfnheocjaaGreatDoor
open Go.RowKit
theorem prow_list {ps:List (Int×Int)} {base:Nat} {w:World} {v:Value} (h:w.ownsRow base 36 2 v ps.length (pcells ps)):∃ A c,v=.slice A ps.length c/\PLst w A ps:=by
 obtain⟨A,c,h1,h2,_⟩:=own_cells h;exact⟨A,c,h1,h2⟩
def In64P (ps:List (Int×Int)):Prop:=∀ k,In64 (ps.getD k (0,0)).1/\In64 (ps.getD k (0,0)).2
theorem of_in64 {s:Sl} (h:s.Ok) (a b:Nat):In64P (s.of a b):=by
 intro k;unfold Sl.of;rw [List.getD_eq_getElem?_getD,List.getElem?_map]
 cases (Oc.places s.words a b)[k]? with
 | none=>exact⟨⟨by show (-9223372036854775808:Int)<=0;omega,by show (0:Int)<=9223372036854775807;omega⟩,⟨by show (-9223372036854775808:Int)<=0;omega,by show (0:Int)<=9223372036854775807;omega⟩⟩
 | some j=>exact⟨h.keys j,h.vals j⟩
theorem spread_may {n lo hi:Nat} (h1:lo+n<=hi) (h2:hi<=65536):Sp.mayB n lo hi=true:=by
 unfold Sp.mayB;rw [decide_eq_true (show (0:Int)<=(lo:Int) by omega),decide_eq_true (show (lo:Int)<=(hi:Int) by omega),decide_eq_true (show (hi:Int)<=65536 by omega),decide_eq_true (show (0:Int)<=(n:Int) by omega),decide_eq_true (show (n:Int)<=(hi:Int)-(lo:Int) by omega)]
 rfl
theorem r8Spread (s:Sl) (a:Ads) (lo hi:Nat) (al:Option Addr) (cal:Nat) (ps:List (Int×Int)) (w:World) (h:Held w s a) (hf:s.Fit 64) (hhi:hi<=s.keys.length) (hlo:lo+ps.length<=hi) (hp:PLst w al ps) (h64:In64P ps) :
  Calls Tryz.prog 85 #[slv s a,.int .i64 (lo:Int),.int .i64 (hi:Int),.slice al ps.length cal] w (SPost (Ly.spreadS s lo hi ps) w):=by
 have l2:=hf.short.keys;have hm:=spread_may (n:=ps.length) hlo (by omega);have CO:=aq (fun W=>r7Of ps.length lo hi W hm);have LN:=aq (show (Sp.ofs ps.length lo hi).length=ps.length by rw [Sp.ofs_length,Int.toNat_natCast])
 have hin:∀ k,k < (Sp.ofs ps.length lo hi).length->0<=(Sp.ofs ps.length lo hi).getD k 0/\(Sp.ofs ps.length lo hi).getD k 0 < s.keys.length:=by
  intro k hk;rw [LN.out] at hk
  have hk2:k < (ps.length:Int).toNat:=by rw [Int.toNat_natCast];exact hk
  rw [Sp.ofs_at hk2];have:=Sp.plc_bd hm hk2
  omega
 obtain⟨t,ht⟩:∃ t,t=Ly.spreadS s lo hi ps:=⟨_,rfl⟩;rw [<-ht]
 have CF:=aq (show ∀ W A c,Held W s a->Lst .i64 W A (Sp.ofs ps.length lo hi)->PLst W al ps->Calls Tryz.prog 132 #[.agg #[.int .i64 s.seg,.slice a.w s.words.length a.cw,.slice a.k s.keys.length a.ck,.slice a.v s.vals.length a.cv,.slice a.c s.counts.length a.cc,.int .u64 (s.laid:Int)],.int .i64 (lo:Int),.int .i64 (hi:Int),.slice A ps.length c,.slice al ps.length cal] W (SPost t W) from fun W A c h1 h2 h3=>by
  have q:=r4Filled s a lo hi A al c cal (Sp.ofs ps.length lo hi) ps W h1 hf hhi (by omega) h2 h3 LN.out (by omega) hin h64;rw [LN.out] at q;rw [ht]
  exact q)
 have HH:=aq h;obtain⟨W0,hW0⟩:∃ W0,W0=(w.alloc (.cells #[.int .i64 s.seg,.slice a.w s.words.length a.cw,.slice a.k s.keys.length a.ck,.slice a.v s.vals.length a.cv,.slice a.c s.counts.length a.cc,.int .u64 (s.laid:Int)] 27)).alloc (.cells #[.int .i64 0,.slice none 0 0,.slice none 0 0,.slice none 0 0,.slice none 0 0,.int .u64 0] 27):=⟨_,rfl⟩;have HP:=aq (show PLst W0 al ps by rw [hW0];exact hp.below (((Below.refl w.heap.size w).alloc (Nat.le_refl _) _).alloc (by simp) _));have BX:=aq (show Box W0 w.heap.size s a by rw [hW0];exact (Box.new w s a 27).below ((Below.refl _ _).alloc (Nat.le_refl _) _));have BR:=aq (show Box W0 (w.heap.size+1) Sl.none adsNone by rw [hW0];exact Box.second w _ Sl.none adsNone 27);have BB:=aq (show Below w.heap.size w W0 by rw [hW0];exact ((Below.refl w.heap.size w).alloc (Nat.le_refl _) _).alloc (by simp) _)
 have zz:w.heap.size+2<=W0.heap.size:=by rw [hW0];simp
 clear h hf hp h64 hin ht;generalize hzs:Sp.ofs ps.length lo hi=zs at *;clear hzs;unfold slv
 go_enter Tryz.func85,Tryz.ntmps85
 go_upto_region 1 with (fail)
 rw [<-hW0];clear hW0
 refine wp_region_held_drew (S:=(fun w'=>w'.cell? ⟨w.heap.size,0,none⟩=some (.int .i64 s.seg)/\w'.cell? ⟨w.heap.size,1,none⟩=some (.slice a.w s.words.length a.cw)/\w'.cell? ⟨w.heap.size,2,none⟩=some (.slice a.k s.keys.length a.ck)/\w'.cell? ⟨w.heap.size,3,none⟩=some (.slice a.v s.vals.length a.cv)/\w'.cell? ⟨w.heap.size,4,none⟩=some (.slice a.c s.counts.length a.cc)/\w'.cell? ⟨w.heap.size,5,none⟩=some (.int .u64 (s.laid:Int)))) (by kernel_rfl) (((BX.out.below ((Below.refl _ _).drew)).cellAt)) (fun hHeld=>?_);refine tk 0 ?_;refine tk 1 ?_;refine tk 2 ?_;refine tk 3 ?_;refine tk 4 ?_;refine tk 5 ?_;refine tk 6 ?_;refine tk 8 ?_;refine rdH 7 fun K hK=>?_;go_simp;have dr:=(Below.refl W0.heap.size W0).drew;replace BX:=aq (BX.out.below dr);replace BR:=aq (BR.out.below dr);replace BB:=aq (BB.out.trans (dr.mono BB.out.size));replace HP:=aq (HP.out.below dr);replace zz:=Nat.le_trans zz dr.size;clear dr;refine (CO.out _).mono ?_;rintro e W5 ⟨v,rfl,hr,hb⟩;obtain⟨A1,d1,rfl,hL⟩:=irow_list hr;rw [LN.out];have L5:=aq hL;replace BX:=aq (BX.out.below hb);replace BR:=aq (BR.out.below hb);replace BB:=aq (BB.out.trans (hb.mono BB.out.size));replace HP:=aq (HP.out.below hb);replace zz:=Nat.le_trans zz hb.size;clear hr hb hL
 try (go_simp)
 refine hK.out _ _ (BX.out.cellAt) (fun hHelda1=>?_);clear hK K hHeld
 try simp only [sZ]
 refine rdH 9 fun K hK=>?_;go_simp;refine (CF.out W5 A1 d1 (HH.out.below BB.out) L5.out HP.out).mono ?_;rintro e W6 ⟨a3,rfl,own,sep,lies,hb⟩;replace BX:=aq (BX.out.below hb);replace BR:=aq (BR.out.below hb);replace BB:=aq (BB.out.trans (hb.mono BB.out.size));have FIN:=aq (put6_fin (r:=w.heap.size+1) own sep lies BB.out (by omega) (by omega));replace zz:=Nat.le_trans zz hb.size;clear own sep lies hb;obtain⟨_,s0,s1,s2,s3,s4,s5,sf⟩:=BR.out;have⟨sf0,sf1,sf2,sf3,sf4,sf5⟩:=sf6 sf;clear sf;unfold slv
 try (go_simp)
 refine hK.out _ _ (BX.out.cellAt) (fun hHelda2=>?_);clear hK K hHelda1
 try simp only [sZ]
 refine rdH 10 fun K hK=>?_;go_simp;skip;refine hK.out _ _ (((BX.out.put6o (g':=w.heap.size+1) (by omega) _ _ _ _ _ _).cellAt)) (fun hHelda3=>?_);clear hK K hHelda2
 try simp only [sZ]
 refine wpAnyH_done (by kernel_rfl) ?_ _;go_wp2;refine bodyPost_ret (v:=slv t a3) (by simp [results,Tryz.results85,go_sem,slv,s0,s1,s2,s3,s4,s5,sf0,sf1,sf2,sf3,sf4,sf5]) rfl ?_;exact⟨_,rfl,FIN.out _ _ _ _ _ _⟩
namespace Ly
theorem even_no {s:Sl} {a b:Int} (h:s.pairsE a b≠0):evenS s a b=Sl.none:=by unfold evenS;rw [if_neg h]
theorem pairs_parts {s:Sl} {a b:Int} (h:s.pairsE a b=0):s.mayB=true/\∃ x y:Nat,a=x/\b=y/\x<=y/\y<=s.keys.length:=by
 unfold Sl.pairsE at h
 cases hm:s.mayB
 ·rw [hm] at h;simp at h
 ·cases hp:Sl.partB s.keys.length a b
  ·rw [hm,hp] at h;simp at h
  ·obtain⟨p1,p2,p3⟩:=part_iff.1 hp
   exact⟨rfl,a.toNat,b.toNat,by omega,by omega,by omega,by omega⟩
theorem of_len (s:Sl) (x y:Nat):(s.of x y).length<=y-x:=by
 unfold Sl.of;rw [List.length_map];exact Oc.places_length_le s.words x y
theorem pairsV_ok {s:Sl} {x y:Nat} (h:s.pairsE x y=0):s.pairsV x y=s.of x y:=by unfold Sl.pairsV;rw [if_pos h,Int.toNat_natCast,Int.toNat_natCast]
theorem even_ok {s:Sl} {x y:Nat} (h:s.pairsE x y=0):evenS s x y=spreadS s x y (s.of x y):=by unfold evenS;rw [if_pos h,Int.toNat_natCast,Int.toNat_natCast]
theorem pairsV_no {s:Sl} {a b:Int} (h:s.pairsE a b≠0):s.pairsV a b=[]:=by unfold Sl.pairsV;rw [if_neg h]
end Ly
theorem pcells_take (ps:List (Int×Int)) (k:Nat):pcells (ps.take k)=(pcells ps).take (k*2):=by
 induction ps generalizing k with
 | nil=>simp [pcells]
 | cons p r ih =>
  cases k with
  | zero=>simp [pcells]
  | succ k =>
   have e:pcells (p::r)=Value.int .i64 p.1::Value.int .i64 p.2::pcells r:=rfl;have e2:pcells ((p::r).take (k+1))=Value.int .i64 p.1::Value.int .i64 p.2::pcells (r.take k):=rfl;rw [e2,ih,e,show (k+1)*2=k*2+1+1 from by omega,List.take_succ_cons,List.take_succ_cons]
theorem pcells_drop (ps:List (Int×Int)) (k:Nat):pcells (ps.drop k)=(pcells ps).drop (k*2):=by
 induction ps generalizing k with
 | nil=>simp [pcells]
 | cons p r ih =>
  cases k with
  | zero=>simp
  | succ k =>
   have e:pcells (p::r)=Value.int .i64 p.1::Value.int .i64 p.2::pcells r:=rfl;rw [List.drop_succ_cons,ih,e,show (k+1)*2=k*2+1+1 from by omega,List.drop_succ_cons,List.drop_succ_cons]
theorem cells_take {w:World} {a:Option Addr} {xs:List Value} (h:Cells w a xs) (k:Nat):Cells w a (xs.take k):=by
 rcases h with rfl | ⟨b,off,h1,h2,h3⟩
 ·exact Or.inl (by simp)
 ·exact Or.inr ⟨b,off,h1,h2,fun i hi=>by
   rw [List.length_take] at hi
   rw [h3 i (by omega),List.getElem?_take,if_pos (by omega)]⟩
theorem cells_drop {w:World} {b off:Nat} {xs:List Value} (h:Cells w (some ⟨b,off,none⟩) xs) (k:Nat):Cells w (some ⟨b,off+k,none⟩) (xs.drop k):=by
 rcases h with rfl | ⟨b2,off2,h1,h2,h3⟩
 ·exact Or.inl (by simp)
 ·injection h1 with h1
  injection h1 with e1 e2
  subst e1 e2
  exact Or.inr ⟨b,off+k,rfl,h2,fun i hi=>by
   rw [List.length_drop] at hi
   rw [show off+k+i=off+(k+i) from by omega,h3 (k+i) (by omega),List.getElem?_drop]⟩
theorem plst_take {w:World} {a:Option Addr} {ps:List (Int×Int)} (h:PLst w a ps) (k:Nat):PLst w a (ps.take k):=by
 unfold PLst;rw [pcells_take];exact cells_take h _
theorem plst_drop {w:World} {b off:Nat} {ps:List (Int×Int)} (h:PLst w (some ⟨b,off,none⟩) ps) (k:Nat):PLst w (some ⟨b,off+k*2,none⟩) (ps.drop k):=by
 unfold PLst;rw [pcells_drop];exact cells_drop h _
theorem r8Among (b off c:Nat) (ps:List (Int×Int)) (k:Nat) (p:Int×Int) (w:World) (hp:PLst w (some ⟨b,off,none⟩) ps) (hk:k<=ps.length) (hn:ps.length<=65536) (hc:ps.length<=c) :
  Calls Tryz.prog 81 #[.slice (some ⟨b,off,none⟩) ps.length c,.int .i64 (k:Int),pv p] w fun e w'=>∃ v,e=.returned v/\w'.ownsRow w.heap.size 36 2 v (Ly.among ps k p).length (pcells (Ly.among ps k p))/\Below w.heap.size w w':=by
 have HP:=aq hp;have LA:=aq (Ly.among_length ps k p)
 have hk2:(k:Int)<=(ps.length:Int):=by omega
 have PX:=aq (PBox.new w p 36);have B0:=aq ((Below.refl w.heap.size w).alloc (Nat.le_refl _) (.cells #[.int .i64 p.1,.int .i64 p.2] 36));obtain⟨n,hnn⟩:∃ n,n=ps.length:=⟨_,rfl⟩;have HN:=aq hnn;rw [<-hnn] at hk hn hc hk2 ⊢;clear hp hnn;unfold pv
 go_enter Tryz.func81,Tryz.ntmps81
 go_upto_region 1 with (fail)
 obtain⟨W0,hW0⟩:∃ W0,W0=w.alloc (.cells #[.int .i64 p.1,.int .i64 p.2] 36):=⟨_,rfl⟩;rw [<-hW0] at PX B0 ⊢;clear hW0;have P0:=aq (HP.out.below B0.out);have B1:=aq (fun o=>(Below.refl W0.heap.size W0).alloc (Nat.le_refl _) o);have z0:=B0.out.size
 go_upto_region 2 with (at_builtin;refine wpList_copy elemP rfl (.tmp 8) (.tmp 11) rfl W0 rfl (some ⟨b,off,none⟩) k c (pcells (ps.take k)) rfl rfl (plst_take P0.out k) (by rw [pcells_length,List.length_take,<-HN.out];omega) (pcells_one _) (fun h=>by cases h) (by unfold maxLen;omega) (by omega) ?_;intro A5 c5 w5 hown5 _ hb5;have HO5:=aq (own_lower hown5 z0);have PX5:=aq (PX.out.below hb5);have P5:=aq (P0.out.below hb5);have HB5:=aq (B0.out.trans (hb5.mono z0));clear hown5 hb5)
 obtain⟨_,q0,q1,_⟩:=PX5.out;have z5:=HB5.out.size;have PXa:=aq (fun o=>(Below.refl w5.heap.size w5).alloc (Nat.le_refl _) o);obtain⟨p1,p2⟩:=p
 dsimp only at q0 q1
 go_upto_region 3 with (at_builtin;refine wpList_moreN elemP rfl (.tmp 13) (.tmp 15) rfl w5 36 [.int .i64 p1,.int .i64 p2] rfl rfl w.heap.size k _ _ rfl rfl HO5.out (by intro u hu;simp at hu;rcases hu with rfl | rfl<;>rfl) z5 (by unfold maxLen;omega) (by omega) ?_;intro v6 w6 hown6 hb6;have HO6:=aq hown6;have HB6:=aq (HB5.out.trans hb6);clear hown6 hb6)
 have P6:=aq (HP.out.below HB6.out);have z6:=HB6.out.size;clear PX PX5 q0 q1 P0 P5 B0 B1 z0 HO5 PXa
 have HD:=aq (show Cells w6 (if c=k then some ⟨b,off,none⟩ else some ⟨b,off+k*2,none⟩) (pcells (ps.drop k)) by
  split
  ·rw [List.drop_of_length_le (by rw [<-HN.out];omega)]
   exact Or.inl rfl
  ·exact plst_drop P6.out k)
 go_wp2_with (at_builtin;(refine wpList_join elemP rfl (.tmp 17) (.tmp 20) rfl w.heap.size (k+1) _ _ rfl HO6.out (if c=k then some ⟨b,off,none⟩ else some ⟨b,off+k*2,none⟩) (n-k) (c-k) (pcells (ps.drop k)) rfl HD.out (by rw [pcells_length,List.length_drop,<-HN.out]) (pcells_one _) (fun h=>by split at h<;>cases h) z6 (by unfold maxLen;omega) (by omega) ?_);intro v7 w7 hown7 hb7;have HO7:=aq hown7;have HB7:=aq (HB6.out.trans hb7);clear hown7 hb7)
 all_goals
  go_ret;refine⟨_,rfl,?_,HB7.out⟩
  have e1:(Ly.among ps k (p1,p2)).length=k+1+(n-k):=by rw [LA.out,<-HN.out];omega
  have e2:pcells (Ly.among ps k (p1,p2))=pcells (ps.take k)++[.int .i64 p1,.int .i64 p2]++pcells (ps.drop k):=by
   unfold Ly.among;rw [pcells_append]
   simp [pcells]
  rw [e1,e2];exact HO7.out
theorem r8AmongNil (p:Int×Int) (w:World) :
  Calls Tryz.prog 81 #[.slice none 0 0,.int .i64 0,pv p] w fun e w'=>∃ v,e=.returned v/\w'.ownsRow w.heap.size 36 2 v (Ly.among [] 0 p).length (pcells (Ly.among [] 0 p))/\Below w.heap.size w w':=by
 have PX:=aq (PBox.new w p 36);have B0:=aq ((Below.refl w.heap.size w).alloc (Nat.le_refl _) (.cells #[.int .i64 p.1,.int .i64 p.2] 36));unfold pv
 go_enter Tryz.func81,Tryz.ntmps81
 go_upto_region 1 with (fail)
 obtain⟨W0,hW0⟩:∃ W0,W0=w.alloc (.cells #[.int .i64 p.1,.int .i64 p.2] 36):=⟨_,rfl⟩;rw [<-hW0] at PX B0 ⊢;clear hW0;have z0:=B0.out.size
 go_upto_region 2 with (at_builtin;refine wpList_copy elemP rfl (.tmp 8) (.tmp 11) rfl W0 rfl none 0 0 [] rfl rfl (Or.inl rfl) rfl (fun u hu=>by cases hu) (fun _=>⟨rfl,rfl⟩) (by unfold maxLen;omega) (by omega) ?_;intro A5 c5 w5 hown5 _ hb5;have HO5:=aq (own_lower hown5 z0);have PX5:=aq (PX.out.below hb5);have HB5:=aq (B0.out.trans (hb5.mono z0));clear hown5 hb5)
 obtain⟨_,q0,q1,_⟩:=PX5.out;have z5:=HB5.out.size;obtain⟨p1,p2⟩:=p
 dsimp only at q0 q1
 go_upto_region 3 with (at_builtin;refine wpList_moreN elemP rfl (.tmp 13) (.tmp 15) rfl w5 36 [.int .i64 p1,.int .i64 p2] rfl rfl w.heap.size 0 _ _ rfl rfl HO5.out (by intro u hu;simp at hu;rcases hu with rfl | rfl<;>rfl) z5 (by unfold maxLen;omega) (by omega) ?_;intro v6 w6 hown6 hb6;have HO6:=aq hown6;have HB6:=aq (HB5.out.trans hb6);clear hown6 hb6)
 have z6:=HB6.out.size;clear PX PX5 q0 q1 B0 z0 HO5
 go_wp2_with (at_builtin;refine wpList_join elemP rfl (.tmp 17) (.tmp 20) rfl w.heap.size 1 _ _ rfl HO6.out none 0 0 [] rfl (Or.inl rfl) rfl (fun u hu=>by cases hu) (fun _=>⟨rfl,rfl⟩) z6 (by unfold maxLen;omega) (by omega) ?_;intro v7 w7 hown7 hb7;have HO7:=aq hown7;have HB7:=aq (HB6.out.trans hb7);clear hown7 hb7)
 go_ret;exact⟨_,rfl,HO7.out,HB7.out⟩
namespace Ly
theorem with_no {s:Sl} {a b k:Int} {p:Int×Int} (h:withE s a b k≠0):withS s a b k p=Sl.none:=by unfold withS;rw [if_neg h]
theorem with_e {s:Sl} {x y:Nat} (h:s.pairsE x y=0) (k:Int):withE s x y k=if ((s.of x y).length:Int)=(y:Int)-(x:Int) then 9 else if 0<=k/\k<=((s.of x y).length:Int) then 0 else 2:=by
 unfold withE;rw [if_pos h,Int.toNat_natCast,Int.toNat_natCast]
theorem with_s {s:Sl} {x y k:Nat} {p:Int×Int} (h:withE s x y k=0):withS s x y k p=spreadS s x y (among (s.of x y) k p):=by
 unfold withS;rw [if_pos h,Int.toNat_natCast,Int.toNat_natCast,Int.toNat_natCast]
theorem with_bad {s:Sl} {a b:Int} (h:s.pairsE a b≠0) (k:Int):withE s a b k=s.pairsE a b:=by unfold withE;rw [if_neg h]
theorem among_in64 {l:List (Int×Int)} (h:In64P l) (k:Nat) {p:Int×Int} (h1:In64 p.1) (h2:In64 p.2):In64P (among l k p):=by
 have hm:∀ q∈l,In64 q.1/\In64 q.2:=by
  intro q hq;obtain⟨i,hi,rfl⟩:=List.getElem_of_mem hq;have:=h i
  simpa [List.getD,hi] using this
 intro j;rw [List.getD_eq_getElem?_getD]
 cases hj:(among l k p)[j]? with
 | none=>exact⟨⟨by show (-9223372036854775808:Int)<=0;omega,by show (0:Int)<=9223372036854775807;omega⟩,⟨by show (-9223372036854775808:Int)<=0;omega,by show (0:Int)<=9223372036854775807;omega⟩⟩
 | some q =>
  have hq:q∈among l k p:=List.mem_of_getElem? hj;unfold among at hq
  rcases List.mem_append.1 hq with h3 | h3
  ·exact hm q (List.mem_of_mem_take h3)
  ·rcases List.mem_cons.1 h3 with h4 | h4
   ·subst h4;exact⟨h1,h2⟩
   ·exact hm q (List.mem_of_mem_drop h4)
end Ly
theorem prow_cases {ps:List (Int×Int)} {base:Nat} {w:World} {v:Value} (h:w.ownsRow base 36 2 v ps.length (pcells ps)):(v=.slice none 0 0/\ps=[])∨∃ g c,v=.slice (some ⟨g,0,none⟩) ps.length c/\PLst w (some ⟨g,0,none⟩) ps/\ps.length<=c:=by
 obtain⟨A,c,h1,h2,_⟩:=own_cells h
 rcases h.2 with⟨hv,h0⟩ | ⟨g,c',cur,hv,hg,hh,hn,_⟩
 ·exact Or.inl ⟨hv,List.eq_nil_of_length_eq_zero h0⟩
 ·rw [hv] at h1
  injection h1 with e1 e2 e3
  subst e1;exact Or.inr ⟨g,c',hv,h2,hn⟩
theorem ofs_rising {n:Nat} {a b:Nat} (h1:a+n<=b) (h2:b<=65536):Rising (Sp.ofs n a b) a b/\(Sp.ofs n a b).length=n:=by
 have hm:Sp.mayB n a b=true:=by
  unfold Sp.mayB;rw [decide_eq_true (show (0:Int)<=(a:Int) by omega),decide_eq_true (show (a:Int)<=(b:Int) by omega),decide_eq_true (show (b:Int)<=65536 by omega),decide_eq_true (show (0:Int)<=(n:Int) by omega),decide_eq_true (show (n:Int)<=(b:Int)-(a:Int) by omega)]
  rfl
 have hl:(Sp.ofs n a b).length=n:=by rw [Sp.ofs_length,Int.toNat_natCast]
 refine⟨⟨fun k hk=>?_,fun i j hij hj=>?_⟩,hl⟩
 ·rw [hl] at hk
  have hk2:k < (n:Int).toNat:=by rw [Int.toNat_natCast];exact hk
  rw [Sp.ofs_at hk2];have:=Sp.plc_bd hm hk2
  omega
 ·rw [hl] at hj
  have up:∀ d:Nat,i+(d+1) < n->Sp.plc n a b i < Sp.plc n a b (i+(d+1)):=by
   intro d
   induction d with
   | zero =>
    intro h;have h3:=(Sp.plc_step (n:=(n:Int)) (f:=(a:Int)) (t:=(b:Int)) (by omega) (by omega) i).1;have h4:=Sp.one_le_step (n:=(n:Int)) (f:=(a:Int)) (t:=(b:Int)) (by omega) (by omega)
    show Sp.plc n a b i < Sp.plc n a b (i+1)
    omega
   | succ d ih =>
    intro h;have h0:=ih (by omega);have h3:=(Sp.plc_step (n:=(n:Int)) (f:=(a:Int)) (t:=(b:Int)) (by omega) (by omega) (i+(d+1))).1;have h4:=Sp.one_le_step (n:=(n:Int)) (f:=(a:Int)) (t:=(b:Int)) (by omega) (by omega)
    show Sp.plc n a b i < Sp.plc n a b (i+(d+1)+1)
    omega
  rw [Sp.ofs_at (by rw [Int.toNat_natCast];omega),Sp.ofs_at (by rw [Int.toNat_natCast];omega)];have:=up (j-i-1) (by omega)
  rwa [show i+(j-i-1+1)=j from by omega] at this
structure FilledBits (s:Sl) (a b:Nat) (l:List Int) (ps:List (Int×Int)):Prop where
 inn:∀ j,a<=j->j < b->(Oc.isB (s.filled a b l ps).words j=true↔∃ i,i < l.length/\l.getD i 0=(j:Int))
 out:∀ j,j < a∨b<=j->Oc.isB (s.filled a b l ps).words j=Oc.isB s.words j/\(s.filled a b l ps).pairAt j=s.pairAt j
 seg:(s.filled a b l ps).seg=s.seg
theorem filled_bits {s:Sl} (h:s.May) {a b:Nat} {l:List Int} {ps:List (Int×Int)} (hr:Rising l a b) (hab:a<=b) (hb:b<=s.keys.length) (hlen:l.length=ps.length):FilledBits s a b l ps:=by
 have ef:s.filled a b l ps=(s.wiped a (b-a)).laidIn l ps ps.length:=by unfold Sl.filled;rw [Int.toNat_natCast,show ((b:Int)-(a:Int)).toNat=b-a from by omega]
 obtain⟨h1,h2⟩:=wiped_may h a (b-a) (by omega);have hk1:(s.wiped a (b-a)).keys.length=s.keys.length:=wiped_keys _ _ _;have H:=laidIn_all h1 ps hr (by rw [hk1];exact hb) (fun j e1 e2=>by rw [h2,show (decide (a<=j)&&decide (j < a+(b-a)))=true from by simp;omega];simp) ps.length (by omega);refine⟨fun j e1 e2=>?_,fun j hj=>?_,?_⟩
 ·rw [ef,H.isB,h2,show (decide (a<=j)&&decide (j < a+(b-a)))=true from by simp;omega]
  simp only [Bool.not_true,Bool.and_false,Bool.false_eq_true,false_or]
  rw [hlen]
 ·have hn:∀ i,i < ps.length->l.getD i 0≠(j:Int):=fun i hi e=>by have:=hr.inn i (by omega);omega
  constructor
  ·rw [Bool.eq_iff_iff,ef,H.isB,h2,show (decide (a<=j)&&decide (j < a+(b-a)))=false from by simp;omega]
   simp only [Bool.not_false,Bool.and_true]
   exact⟨fun e=>e.resolve_right (fun ⟨i,hi,e⟩=>hn i hi e),Or.inl⟩
  ·rw [ef,H.other j hn,wiped_pair s a j (b-a) (by omega)]
 ·rw [ef,laidIn_seg,(wiped_seg s a _).1]
theorem filled_places {s:Sl} (h:s.May) {a b:Nat} {l:List Int} {ps:List (Int×Int)} (hr:Rising l a b) (hab:a<=b) (hb:b<=s.keys.length) (hlen:l.length=ps.length) {p q:Nat} (hp:a<=p) (hq:q<=b) :
  ((Oc.places (s.filled a b l ps).words p q).length:Int)=Sp.cnt l p q:=by
 have F:=filled_bits h hr hab hb hlen
 have e:Oc.places (s.filled a b l ps).words p q=(l.filter (Sp.inB p q)).map Int.toNat:=by
  refine sorted_ext (places_sorted _ _ _) ?_ fun x=>?_
  ·rw [List.pairwise_map]
   refine List.Pairwise.filter _ ?_ |>.imp_of_mem ?_ (R:=fun (x y:Int)=>x < y)
   ·rw [List.pairwise_iff_getElem]
    intro i j hi hj hij;have e1:=hr.up i j hij hj;rw [show l.getD i 0=l[i] from by simp [List.getD,hi],show l.getD j 0=l[j] from by simp [List.getD,hj]] at e1;exact e1
   ·intro x y hx _ hxy
    obtain⟨hx1,_⟩:=List.mem_filter.1 hx;obtain⟨i,hi,rfl⟩:=List.getElem_of_mem hx1;have e2:=hr.inn i hi;rw [show l.getD i 0=l[i] from by simp [List.getD,hi]] at e2
    omega
  ·rw [Oc.mem_places]
   constructor
   ·rintro⟨⟨e1,e2⟩,e3⟩
    obtain⟨i,hi,he⟩:=(F.inn x (by omega) (by omega)).1 e3
    have hm:l.getD i 0∈l:=by rw [show l.getD i 0=l[i] from by simp [List.getD,hi]];exact List.getElem_mem hi
    refine List.mem_map.2 ⟨l.getD i 0,List.mem_filter.2 ⟨hm,?_⟩,by rw [he];simp⟩;rw [he];unfold Sp.inB;rw [decide_eq_true (show (p:Int)<=(x:Int) by omega),decide_eq_true (show (x:Int) < (q:Int) by omega)]
    rfl
   ·intro hx
    obtain⟨z,hz,rfl⟩:=List.mem_map.1 hx;obtain⟨hz1,hz2⟩:=List.mem_filter.1 hz;obtain⟨i,hi,rfl⟩:=List.getElem_of_mem hz1;have e2:=hr.inn i hi;rw [show l.getD i 0=l[i] from by simp [List.getD,hi]] at e2;unfold Sp.inB at hz2
    simp only [Bool.and_eq_true,decide_eq_true_eq] at hz2
    refine⟨⟨by omega,by omega⟩,(F.inn _ (by omega) (by omega)).2 ⟨i,hi,?_⟩⟩;rw [show l.getD i 0=l[i] from by simp [List.getD,hi]]
    omega
 rw [e,List.length_map];unfold Sp.cnt;rw [List.countP_eq_length_filter]
theorem isB_zeros (n i:Nat):Oc.isB (List.replicate n 0) i=false:=by
 unfold Oc.isB;rw [getD_zerosN]
 simp
structure Bare (s:Sl) (t:Sl) (m:Nat):Prop where
 may:t.May
 keys:t.keys.length=m
 seg:t.seg=s.seg
 laid:t.laid=s.laid
 off:∀ i,Oc.isB t.words i=false
 ok:t.Ok
 short:t.Short
theorem base_bare {s:Sl} {m:Nat} (hf:Sl.fitsB s.seg m=true) (hs:In64 s.seg) (hl:s.laid < 18446744073709551616):Bare s (Ly.base s m) m:=by
 obtain⟨f1,f2,f3,f4,f5,f6,f7⟩:=fits_yes hf
 have hq:(m:Int)/s.seg<=65536:=by have:=Int.ediv_le_self (a:=(m:Int)) s.seg (by omega);omega
 have hq0:0<=(m:Int)/s.seg:=Int.ediv_nonneg (by omega) (by omega)
 have hk:(Ly.base s m).keys.length=m:=by show (List.replicate _ _).length=m;rw [List.length_replicate,Int.toNat_natCast]
 have hoff:∀ i,Oc.isB (Ly.base s m).words i=false:=fun i=>isB_zeros _ i;refine⟨⟨?_,?_,?_,fun i _=>hoff i,?_,fun i _=>⟨getD_zeros _ _,getD_zeros _ _⟩,fun j hj=>?_⟩,hk,rfl,rfl,hoff,?_,?_⟩
 ·rw [hk];exact hf
 ·show (List.replicate _ _).length=(List.replicate _ _).length
  simp only [List.length_replicate]
 ·rw [hk]
  show (List.replicate _ _).length=_
  rw [List.length_replicate]
  omega
 ·rw [hk]
  show ((List.replicate _ _).length:Int)=_
  rw [List.length_replicate];exact Int.toNat_of_nonneg hq0
 ·have e:Oc.places (Ly.base s m).words (j*(Ly.base s m).seg.toNat) ((j+1)*(Ly.base s m).seg.toNat)=[]:=by
   rw [List.eq_nil_iff_forall_not_mem];intro x hx;have:=(Oc.mem_places.1 hx).2;rw [hoff] at this
   cases this
  unfold Sl.countOf;rw [e];exact getD_zeros _ _
 ·exact⟨hs,wide_zeros _,all64_zeros _,all64_zeros _,all64_zeros _,hl⟩
 ·refine⟨?_,?_,?_,?_⟩
  ·show (List.replicate _ _).length<=_;rw [List.length_replicate];omega
  ·show (List.replicate _ _).length<=_;rw [List.length_replicate];omega
  ·show (List.replicate _ _).length<=_;rw [List.length_replicate];omega
  ·show (List.replicate _ _).length<=_;rw [List.length_replicate];omega
theorem r8Wide (s:Sl) (a:Ads) (m:Nat) (al:Option Addr) (cal:Nat) (ps:List (Int×Int)) (w:World) (hok:s.Ok) (hf:Sl.fitsB s.seg m=true) (hn:ps.length<=m) (hp:PLst w al ps) (h64:In64P ps) :
  Calls Tryz.prog 83 #[slv s a,.int .i64 (m:Int),.slice al ps.length cal] w (SPost (Ly.wide s m ps) w):=by
 obtain⟨f1,f2,f3,f4,f5,f6,f7⟩:=fits_yes hf;have BA:=base_bare hf hok.seg hok.laid;have FT:=may_fit (may_iff.2 BA.may) BA.ok BA.short;obtain⟨sg,hsg⟩:∃ sg:Nat,s.seg=sg:=⟨s.seg.toNat,by omega⟩;have EM:=aq (show Ly.base s m={ slMade sg ((m+63)/64) m (m/sg) with laid:=s.laid } by unfold Ly.base;rw [hsg,empty_made]);have CE:=aq (fun W=>r4Empty sg m _ _ W (by omega) (by omega) (by omega) (by omega) rfl rfl)
 have CS:=aq (show ∀ W (a1:Ads),Held W (Ly.base s m) a1->PLst W al ps->Calls Tryz.prog 85 #[slv (Ly.base s m) a1,.int .i64 0,.int .i64 (m:Int),.slice al ps.length cal] W (SPost (Ly.wide s m ps) W) from fun W a1 h1 h2=>by
  have q:=r8Spread (Ly.base s m) a1 0 m al cal ps W h1 FT (by rw [BA.keys];exact Nat.le_refl _) (by omega) h2 h64
  exact q)
 have HP:=aq hp;obtain⟨t,ht⟩:∃ t,t=Ly.wide s m ps:=⟨_,rfl⟩;rw [<-ht] at CS ⊢;rw [EM.out] at CS;obtain⟨u,hu⟩:∃ u,u=slMade sg ((m+63)/64) m (m/sg):=⟨_,rfl⟩;rw [<-hu] at CS CE
 have hu1:u.seg=(sg:Int):=by rw [hu];rfl
 obtain⟨W0,hW0⟩:∃ W0,W0=(w.alloc (.cells #[.int .i64 s.seg,.slice a.w s.words.length a.cw,.slice a.k s.keys.length a.ck,.slice a.v s.vals.length a.cv,.slice a.c s.counts.length a.cc,.int .u64 (s.laid:Int)] 27)).alloc (.cells #[.int .i64 0,.slice none 0 0,.slice none 0 0,.slice none 0 0,.slice none 0 0,.int .u64 0] 27):=⟨_,rfl⟩;have BX:=aq (show Box W0 w.heap.size s a by rw [hW0];exact (Box.new w s a 27).below ((Below.refl _ _).alloc (Nat.le_refl _) _));have BR:=aq (show Box W0 (w.heap.size+1) Sl.none adsNone by rw [hW0];exact Box.second w _ Sl.none adsNone 27);have BB:=aq (show Below w.heap.size w W0 by rw [hW0];exact ((Below.refl w.heap.size w).alloc (Nat.le_refl _) _).alloc (by simp) _)
 have zz:w.heap.size+2<=W0.heap.size:=by rw [hW0];simp
 have SG:=aq hsg;clear hok hf hp h64 BA FT f1 f2 f3 f4 f5 f6 f7 ht hu hsg;unfold slv
 go_enter Tryz.func83,Tryz.ntmps83
 go_upto_region 1 with (fail)
 rw [<-hW0];clear hW0;obtain⟨_,q0,q1,q2,q3,q4,q5,_⟩:=BX.out;rw [SG.out] at q0
 go_wp2_with fail
 refine (CE.out _).mono ?_;rintro e w1 ⟨a1,rfl,own,sep,lies,hb⟩;clear q0 q1 q2 q3 q4 q5;replace BX:=aq (BX.out.below hb);replace BR:=aq (BR.out.below hb);replace BB:=aq (BB.out.trans (hb.mono BB.out.size));have OW:=aq own;replace zz:=Nat.le_trans zz hb.size;clear own sep lies hb;obtain⟨_,q0,q1,q2,q3,q4,q5,_⟩:=BX.out;have q5a:=fun o=>((BX.out.below ((Below.refl _ _).alloc (Nat.le_refl _) o))).c5;unfold slv
 go_upto_region 3 with (fail)
 obtain⟨W2,hW2⟩:∃ W2,W2=w1.alloc (.cells #[.int .i64 (sg:Int),.slice a1.w u.words.length a1.cw,.slice a1.k u.keys.length a1.ck,.slice a1.v u.vals.length a1.cv,.slice a1.c u.counts.length a1.cc,.int .u64 (s.laid:Int)] 27):=⟨_,rfl⟩
 have B12:Below w1.heap.size w1 W2:=by rw [hW2];exact (Below.refl _ _).alloc (Nat.le_refl _) _
 have X2:=aq (show Box W2 w1.heap.size { u with laid:=s.laid } a1 by rw [hW2,<-hu1];exact Box.new w1 { u with laid:=s.laid } a1 27)
 have z2:W2.heap.size=w1.heap.size+1:=by rw [hW2];simp
 rw [<-hW2];clear hW2 q0 q1 q2 q3 q4 q5 q5a;replace BR:=aq (BR.out.below B12);replace BB:=aq (BB.out.trans (B12.mono BB.out.size))
 have HT:=aq (show Held W2 { u with laid:=s.laid } a1 from by
  have h:=OW.out.held.below B12
  exact⟨h.words,h.keys,h.vals,h.counts,⟨h.caps.w0,h.caps.k0,h.caps.v0,h.caps.c0,h.caps.w1,h.caps.k1,h.caps.v1,h.caps.c1⟩⟩)
 have CS1:=aq (CS.out W2 a1 HT.out (HP.out.below BB.out));unfold slv at CS1
 dsimp only at CS1
 rw [hu1] at CS1;have X2o:=X2.out;obtain⟨_,q0,q1,q2,q3,q4,q5,_⟩:=X2o
 dsimp only at q0 q1 q2 q3 q4 q5
 rw [hu1] at q0;have Z2:=aq z2;clear B12 z2 OW CS BX X2 HT hu1
 go_wp2_with fail
 refine CS1.out.mono ?_;rintro e w3 ⟨a3,rfl,own,sep,lies,hb⟩;replace BR:=aq (BR.out.below hb);obtain⟨_,s0,s1,s2,s3,s4,s5,sf⟩:=BR.out;have⟨sf0,sf1,sf2,sf3,sf4,sf5⟩:=sf6 sf;have FIN:=aq (put6_fin (r:=w.heap.size+1) own sep lies (BB.out.trans (hb.mono BB.out.size)) (by have:=Z2.out;omega) (by omega));clear own sep lies hb sf q0 q1 q2 q3 q4 q5;unfold slv;go_wp2;refine bodyPost_ret (v:=slv t a3) (by simp [results,Tryz.results83,go_sem,slv,s0,s1,s2,s3,s4,s5,sf0,sf1,sf2,sf3,sf4,sf5]) rfl ?_;exact⟨_,rfl,FIN.out _ _ _ _ _ _⟩
namespace Ly
theorem into_no {s:Sl} {size:Int} {l:List (Int×Int)} (h:intoE s size l.length≠0):intoS s size l=Sl.none:=by unfold intoS;rw [if_neg h]
theorem into_may {s:Sl} (h:s.mayB=true) (size:Int) (n:Nat):intoE s size n=if Sl.fitsB s.seg size&&decide ((n:Int)<=size) then 0 else 2:=by unfold intoE intoB;rw [if_pos h]
theorem into_bad {s:Sl} (h:s.mayB=false) (size:Int) (n:Nat):intoE s size n=8:=by unfold intoE;rw [h];rfl
end Ly
structure Fine (s:Sl):Prop where
 ok:s.Ok
 short:s.Short
theorem fine_none:Fine Sl.none:=⟨ok_none,short_none⟩
theorem spread_fine {s:Sl} (h:s.Fit 64) (a b:Nat) (hb:b<=65536) (ps:List (Int×Int)) (hn:ps.length<=65536) (h64:In64P ps):Fine (Ly.spreadS s a b ps):=by
 have e:Ly.spreadS s a b ps=(s.wiped a ((b:Int)-(a:Int)).toNat).laidIn (Sp.ofs ps.length a b) ps ps.length:=by
  unfold Ly.spreadS Sl.filled;rw [Int.toNat_natCast]
 have h1:=wiped_fit h a ((b:Int)-(a:Int)).toNat (by omega);have h2:=laidIn_fit h1 (Sp.ofs ps.length a b) ps ps.length (by omega) h64;rw [e];exact⟨h2.ok,h2.short⟩
namespace Ly
theorem pairs_mk {s:Sl} (hm:s.mayB=true) {x y:Nat} (h1:x<=y) (h2:y<=s.keys.length):s.pairsE x y=0/\s.pairsV x y=s.of x y:=by
 have h:s.pairsE x y=0:=by unfold Sl.pairsE;rw [if_pos hm,if_pos (part_iff.2 ⟨by omega,by omega,by omega⟩)]
 exact⟨h,pairsV_ok h⟩
structure Laid (s:Sl) (a b:Nat) (ps:List (Int×Int)):Prop where
 may:(spreadS s a b ps).mayB=true
 keys:(spreadS s a b ps).keys.length=s.keys.length
 inn:(spreadS s a b ps).of a b=ps
 low:(spreadS s a b ps).of 0 a=s.of 0 a
 high:(spreadS s a b ps).of b s.keys.length=s.of b s.keys.length
 laid:(spreadS s a b ps).laid=(s.laid+ps.length) % 18446744073709551616
 bits:FilledBits s a b (Sp.ofs ps.length a b) ps
 at_:∀ k,k < ps.length->(spreadS s a b ps).pairAt ((Sp.ofs ps.length a b).getD k 0).toNat=ps.getD k (0,0)
theorem laid {s:Sl} (hm:s.May) (hl:s.laid < 18446744073709551616) (hk:s.keys.length<=65536) {a b:Nat} (ps:List (Int×Int)) (hn:a+ps.length<=b) (hb:b<=s.keys.length):Laid s a b ps:=by
 obtain⟨r1,r2⟩:=ofs_rising (n:=ps.length) (a:=a) (b:=b) hn (by omega);have F:=filled_ok hm hl r1 (by omega) hb r2;exact⟨may_iff.2 F.may,F.keys,F.inn,F.low,F.high,F.laid,filled_bits hm r1 (by omega) hb r2,fun k hk2=>(F.at_ k (by omega)).2⟩
theorem of_room (s:Sl) {a b:Nat} (h:a<=b):a+(s.of a b).length<=b:=by have:=of_len s a b;omega
theorem even_laid {s:Sl} (hok:s.Ok) (hs:s.Short) {a b:Nat} (he:s.pairsE a b=0):a<=b/\b<=s.keys.length/\s.mayB=true/\evenS s a b=spreadS s a b (s.of a b)/\Laid s a b (s.of a b):=by
 obtain⟨hm,x,y,e1,e2,h1,h2⟩:=pairs_parts he
 obtain rfl:a=x:=by omega
 obtain rfl:b=y:=by omega
 exact⟨h1,h2,hm,even_ok he,laid (may_iff.1 hm) hok.laid hs.keys _ (of_room s h1) h2⟩
theorem of_whole {s:Sl} {a b:Nat} {ps:List (Int×Int)} (L:Laid s a b ps) (h1:a<=b) (h2:b<=s.keys.length):(spreadS s a b ps).of 0 s.keys.length=s.of 0 a++ps++s.of b s.keys.length:=by
 rw [of_split _ 0 a s.keys.length (by omega) (by omega),of_split _ a b s.keys.length (by omega) (by omega),L.low,L.inn,L.high,List.append_assoc]
theorem of_whole_self (s:Sl) {a b:Nat} (h1:a<=b) (h2:b<=s.keys.length):s.of 0 s.keys.length=s.of 0 a++s.of a b++s.of b s.keys.length:=by
 rw [of_split _ 0 a s.keys.length (by omega) (by omega),of_split _ a b s.keys.length (by omega) (by omega),List.append_assoc]
theorem shares {s:Sl} (hok:s.Ok) (hs:s.Short) {t0 t1 p k:Int} (he:s.pairsE t0 t1=0) (hp:Sp.partB (s.pairsV t0 t1).length t0 t1 p k=true) :
  Oc.countE (evenS s t0 t1).words (evenS s t0 t1).keys.length (t0+k*((t1-t0)/p)) (t0+(k+1)*((t1-t0)/p))=0 /\
  Oc.countV (evenS s t0 t1).words (evenS s t0 t1).keys.length (t0+k*((t1-t0)/p)) (t0+(k+1)*((t1-t0)/p))=Sp.shareV (s.pairsV t0 t1).length t0 t1 p k:=by
 obtain⟨hm,a,b,rfl,rfl,h1,h2⟩:=pairs_parts he;obtain⟨_,_,_,ex,L⟩:=even_laid hok hs he;rw [pairsV_ok he] at hp ⊢;rw [ex];obtain⟨sv,_⟩:=Sp.part_yes hp;obtain⟨_,p1,_,p3,p4⟩:=Sp.part_in hp;obtain⟨w1,w2⟩:=Sp.part_w hp;obtain⟨W,hW⟩:∃ W,W=((b:Int)-(a:Int))/p:=⟨_,rfl⟩;rw [<-hW] at w1 w2 sv ⊢;have b1:0<=k*W:=Int.mul_nonneg p3 w2
 have b2:(k+1)*W=k*W+W:=by rw [Int.add_mul,Int.one_mul]
 have b3:(k+1)*W<=p*W:=Int.mul_le_mul_of_nonneg_right (show k+1<=p by omega) w2;rw [w1] at b3;have hk:=hs.keys;obtain⟨P,hP⟩:∃ P:Nat,(a:Int)+k*W=P:=⟨((a:Int)+k*W).toNat,by omega⟩;obtain⟨Q,hQ⟩:∃ Q:Nat,(a:Int)+(k+1)*W=Q:=⟨((a:Int)+(k+1)*W).toNat,by omega⟩;rw [hP,hQ] at sv ⊢;have mX:=may_iff.1 L.may
 have hc:Oc.chk (spreadS s a b (s.of a b)).words (((spreadS s a b (s.of a b)).keys.length:Nat):Int)=0:=by
  unfold Oc.chk;rw [show Oc.badN (((spreadS s a b (s.of a b)).keys.length:Nat):Int)=false from by unfold Oc.badN;rw [L.keys,Bool.or_eq_false_iff,decide_eq_false_iff_not,decide_eq_false_iff_not];omega,Int.toNat_natCast,mayW_iff.2 ⟨mX.wlen,mX.over⟩]
  rfl
 have hE:Oc.countE (spreadS s a b (s.of a b)).words (((spreadS s a b (s.of a b)).keys.length:Nat):Int) P Q=0:=by
  unfold Oc.countE;rw [if_pos hc,if_neg];rw [L.keys]
  omega
 refine⟨hE,?_⟩;unfold Oc.countV;rw [if_pos hE,Int.toNat_natCast,Int.toNat_natCast,sv];obtain⟨r1,r2⟩:=ofs_rising (n:=(s.of a b).length) (a:=a) (b:=b) (of_room s h1) (by omega);exact filled_places (may_iff.1 hm) r1 h1 h2 r2 (p:=P) (q:=Q) (by omega) (by omega)
end Ly
end Go.Proofs.YthaaapfnheocjaaGreatDoor

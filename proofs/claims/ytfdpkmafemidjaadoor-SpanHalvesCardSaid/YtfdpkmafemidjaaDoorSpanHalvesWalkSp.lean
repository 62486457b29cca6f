/- The walk of the law SpanHalves, the stage's theorem: scans of two halves are the scan of all, whose keys rise, and are between. -/
import Derived.Test.YtfdpkmafemidjaaDoorLaw12Sp
import Derived.Test.YtfdpkmafemidjaaDoorM03Sp
import Derived.Test.YtfdpkmafemidjaaDoorPlain12bSp
import Derived.Test.YtfdpkmafemidjaaDoorTkSp
set_option linter.unusedVariables false
set_option linter.unusedSimpArgs false
set_option maxHeartbeats 16000000
set_option maxRecDepth 100000
namespace Go.Proofs.YtfdpkmafemidjaaDoor.spanHalves
open Go.RowKit
theorem wpList_joinG {P:Program} {T E:TypeId} {z:Value} {size bytes:Nat} (hE:Elem P T E z size bytes) {w:World} {ops:Array Oper} {rest:List Oper} {o:Oper} {act:Act} {Q:Exit->Act->World->Prop} (hw:Region.wanted o (yielded ops act.tmps)=true) (s x:Operand)
  (ho:o.op=.call { callee:=.builtin .append,args:=#[s,x],argTypes:=#[T,T] })
  (base n:Nat) (v:Value) (ys:List Value) (hs:act.eval s=v) (hown:w.ownsRow base E size v n ys) (a:Option Addr) (m cap:Nat) (xs:List Value) (hx:act.eval x=.slice a m cap)
  (hl:Cells w a xs) (hlen:xs.length=m*size) (h1:∀ u∈xs,u.oneCell'=true) (hnil:a=none->m=0/\cap=0) (hbase:base<=w.heap.size) (h63:n+m<=maxLen) (hby:(n+m)*bytes<=140737488355328)
  (h:∀ v' w',w'.ownsRow base E size v' (n+m) (ys++xs)->Below base w w'->wpList P ops Q rest (act.put o.dst v') w'):wpList P ops Q (o::rest) act w:=by
 refine wpList_step fun K hK=>?_;rw [if_pos hw];obtain⟨i0,hi0,hz0,hz1,hz2⟩:=hE.info
 cases a with
 | none =>
  obtain⟨rfl,rfl⟩:=hnil rfl;have hxs:xs=[]:=List.eq_nil_of_length_eq_zero (by rw [hlen,Nat.zero_mul]);subst hxs;have hrun:=run_append_owned_none (P:=P) (w:=w) base T o.type E i0 size hE.und hi0 v n ys hown;have hK2:=hK _ _ (h v w (by rw [Nat.add_zero,List.append_nil];exact hown) (Below.refl _ _));unfold Oper.wp
  simp [execOp,ho,resolve,invoke,builtin,hs,hx,hrun,Result.andThen]
  exact hK2
 | some ad =>
  have hnews:∀ j u,xs[j]?=some u->w.cell? (ad.add j)=some u:=by
   intro j u hu;have hj:j < xs.length:=(List.getElem?_eq_some_iff.1 hu).1
   rcases hl with h0 | ⟨b,off,e,hb,hc⟩
   ·subst h0;simp at hj
   ·injection e with e
    subst e;rw [add_at,hc j hj,hu]
  refine wp_append_own _ s x T ho base E i0 z size bytes hE.und hi0 hz0 hz1 hz2 hE.zero hE.pos v n ys hs hown ad m cap xs hx hlen hnews h1 h63 hby hbase ?_;intro v1 w1 hown1 hgrow1 _;exact hK _ _ (h v1 w1 hown1 ((Below.refl _ _).grown hgrow1 hbase (fun g hg=>(World.ownsRow.lt hown g hg).1)))
def HalvesJ (n:Nat) (W:World) (i:Value) (wr:World):Prop:=∃ k:Nat,k<=n/\i=.int .i64 k/\Below W.heap.size W wr
theorem bad (s:Sl) (a:Ads) (f t m:Int) (W:World) (h:Held W s a) (hok:s.Ok) (hs:s.Short) (hg:s.greatB 600=false) (hT:Tab W) (hm:In64 m) (ht:In64 t) (h1:f<=m) (h2:m < t) (hc:¬ Sk.chkE s=0) :
  Calls Tryd.prog 8 #[slv s a,.int .i64 f,.int .i64 t,.int .i64 m] W fun e w'=>e=.returned (.bool true)/\Below W.heap.size W w':=by
 have HGr:=aq hg
 have j1:decide (m < f)=false:=by simp;omega
 have j2:decide (m ≥ t)=false:=by simp;omega
 have hw1:IntKind.i64.wrap (m+1)=m+1:=IntWalk.i64_in _ (by have:=hm.1;have:=ht.2;omega);have HA:=aq h;have TB:=aq hT;have BS:=aq (Box.new W s a 27);have HB:=aq (fun o=>(Below.refl W.heap.size W).alloc (Nat.le_refl _) o);have CA:=aq (fun o=>l12Alive (W.alloc o) (hT.below (HB.out o)));have c1:=aq (fun A V (hv:Held V s A) tv=>nScan s A f m 1000 V hv hok hs tv);have c2:=aq (fun A V (hv:Held V s A) tv=>nScan s A (m+1) t 1000 V hv hok hs tv);have c3:=aq (fun A V (hv:Held V s A) tv=>nScan s A f t 1000 V hv hok hs tv);unfold ScanPost at c1 c2 c3
 have f1:Sn.scanE s 1000=Sk.chkE s:=by unfold Sn.scanE;rw [if_neg hc]
 have f2:∀ x y,Sn.scanV s x y 1000=[]:=fun x y=>by unfold Sn.scanV;rw [if_neg (by rw [f1];exact hc)]
 rw [f1,f2] at c1 c2 c3;obtain⟨E,hE⟩:∃ E,E=Sk.chkE s:=⟨_,rfl⟩;rw [<-hE] at c1 c2 c3 hc
 have k1:(E != 0)=true:=by simp [hc]
 clear h hok hs hg hT hm ht h1 h2 f1 f2 hE hc;unfold slv at c1 c2 c3;unfold slCells at BS;unfold slv
 go_enter Tryd.func8,Tryd.ntmps8
 go_wp2_with fail
 refine (CA.out _).mono ?_;rintro e w0 ⟨rfl,hb⟩;have BB:=aq ((HB.out _).trans (hb.mono (by simp)));replace BS:=aq (BS.out.below hb);replace HA:=aq (HA.out.below BB.out);replace TB:=aq (TB.out.below BB.out);clear hb HB CA;obtain⟨_,p0,p1,p2,p3,p4,p5,_⟩:=BS.out
 go_wp2_with fail
 refine (r4Great s a 600 _).mono ?_;rintro e w1 ⟨rfl,hb⟩;rw [HGr.out];replace BS:=aq (BS.out.below hb);replace HA:=aq (HA.out.below hb);replace TB:=aq (TB.out.below hb);replace BB:=aq (BB.out.trans (hb.mono BB.out.size));clear hb p0 p1 p2 p3 p4 p5;obtain⟨_,p0,p1,p2,p3,p4,p5,_⟩:=BS.out
 go_wp2_with fail
 refine (c1.out a _ HA.out TB.out).mono ?_;rintro e x1 ⟨v1,rfl,_,hb⟩;replace BS:=aq (BS.out.below hb);replace HA:=aq (HA.out.below hb);replace TB:=aq (TB.out.below hb);replace BB:=aq (BB.out.trans (hb.mono BB.out.size));clear hb p0 p1 p2 p3 p4 p5;obtain⟨_,p0,p1,p2,p3,p4,p5,_⟩:=BS.out
 go_wp2_with fail
 refine (c2.out a _ HA.out TB.out).mono ?_;rintro e x2 ⟨v2,rfl,_,hb⟩;replace BS:=aq (BS.out.below hb);replace HA:=aq (HA.out.below hb);replace TB:=aq (TB.out.below hb);replace BB:=aq (BB.out.trans (hb.mono BB.out.size));clear hb p0 p1 p2 p3 p4 p5;obtain⟨_,p0,p1,p2,p3,p4,p5,_⟩:=BS.out
 go_wp2_with fail
 refine (c3.out a _ HA.out TB.out).mono ?_;rintro e x3 ⟨v3,rfl,_,hb⟩;replace BS:=aq (BS.out.below hb);replace HA:=aq (HA.out.below hb);replace TB:=aq (TB.out.below hb);replace BB:=aq (BB.out.trans (hb.mono BB.out.size));clear hb p0 p1 p2 p3 p4 p5;go_wp2;go_ret;exact⟨rfl,BB.out⟩
theorem good (s:Sl) (a:Ads) (f t m:Int) (W:World) (h:Held W s a) (hok:s.Ok) (hs:s.Short) (hg:s.greatB 600=false) (hT:Tab W) (hm:In64 m) (ht:In64 t) (h1:f<=m) (h2:m < t) (hc:Sk.chkE s=0) :
  Calls Tryd.prog 8 #[slv s a,.int .i64 f,.int .i64 t,.int .i64 m] W fun e w'=>e=.returned (.bool true)/\Below W.heap.size W w':=by
 have HGr:=aq hg
 have j1:decide (m < f)=false:=by simp;omega
 have j2:decide (m ≥ t)=false:=by simp;omega
 have hw1:IntKind.i64.wrap (m+1)=m+1:=IntWalk.i64_in _ (by have:=hm.1;have:=ht.2;omega);have HA:=aq h;have TB:=aq hT;have BS:=aq (Box.new W s a 27);have HB:=aq (fun o=>(Below.refl W.heap.size W).alloc (Nat.le_refl _) o);have CA:=aq (fun o=>l12Alive (W.alloc o) (hT.below (HB.out o)));have c1:=aq (fun A V (hv:Held V s A) tv=>nScan s A f m 1000 V hv hok hs tv);have c2:=aq (fun A V (hv:Held V s A) tv=>nScan s A (m+1) t 1000 V hv hok hs tv);have c3:=aq (fun A V (hv:Held V s A) tv=>nScan s A f t 1000 V hv hok hs tv);unfold ScanPost at c1 c2 c3;have c4:=aq (fun A V (hv:Held V s A) tv=>kRank s A f V hv hok hs tv);have c5:=aq (fun z A V (hv:Held V s A) tv (hz:In64 z)=>nSelect s A z V hv hok hs tv hz)
 have g6:s.keys.length<=600:=by
  unfold Sl.greatB at hg
  simp only [Bool.or_eq_false_iff,decide_eq_false_iff_not] at hg
  omega
 have SC:=aq (Sn.scan hc f t);have AL:=Sn.all_le s;have SP:=aq (Sn.halves (Sk.chk_zero.1 hc).2 h1 h2);rw [(Sn.scan_all hc (by omega) f m).1,(Sn.scan_all hc (by omega) f m).2] at c1;rw [(Sn.scan_all hc (by omega) (m+1) t).1,(Sn.scan_all hc (by omega) (m+1) t).2] at c2;rw [(Sn.scan_all hc (by omega) f t).1,(Sn.scan_all hc (by omega) f t).2] at c3;rw [hc] at c4;have q0:=SC.out.few;have r0:=SC.out.pos;have r1:=SC.out.rank;have AT:=aq SC.out.at_;have PA:=aq SC.out.past;obtain⟨l1,hl1⟩:∃ l,l=Sn.run s f m:=⟨_,rfl⟩;obtain⟨l2,hl2⟩:∃ l,l=Sn.run s (m+1) t:=⟨_,rfl⟩;obtain⟨l0,hl0⟩:∃ l,l=Sn.run s f t:=⟨_,rfl⟩;obtain⟨r,hr⟩:∃ r,r=Sk.rankV s f:=⟨_,rfl⟩;rw [<-hl1] at c1 SP;rw [<-hl2] at c2 SP;rw [<-hl0] at c3 SP AT PA q0 r1;rw [<-hr] at c4 r0 r1 AT PA
 have LN:l0.length<=600:=by omega
 have r2:r<=600:=by omega
 clear h hok hs hg hT hm ht h1 h2 hc SC hl1 hl2 hl0 hr AL g6 q0 r1;unfold slv at c1 c2 c3 c4;unfold slv pv at c5;unfold slCells at BS;unfold slv
 go_enter Tryd.func8,Tryd.ntmps8
 go_wp2_with fail
 refine (CA.out _).mono ?_;rintro e w0 ⟨rfl,hb⟩;have BB:=aq ((HB.out _).trans (hb.mono (by simp)));replace BS:=aq (BS.out.below hb);replace HA:=aq (HA.out.below BB.out);replace TB:=aq (TB.out.below BB.out);clear hb HB CA;obtain⟨_,p0,p1,p2,p3,p4,p5,_⟩:=BS.out
 go_wp2_with fail
 refine (r4Great s a 600 _).mono ?_;rintro e w1 ⟨rfl,hb⟩;rw [HGr.out];replace BS:=aq (BS.out.below hb);replace HA:=aq (HA.out.below hb);replace TB:=aq (TB.out.below hb);replace BB:=aq (BB.out.trans (hb.mono BB.out.size));clear hb p0 p1 p2 p3 p4 p5;obtain⟨_,p0,p1,p2,p3,p4,p5,_⟩:=BS.out
 go_wp2_with fail
 refine (c1.out a _ HA.out TB.out).mono ?_;rintro e x1 ⟨v,rfl,hown,hb⟩;replace BS:=aq (BS.out.below hb);replace HA:=aq (HA.out.below hb);replace TB:=aq (TB.out.below hb);replace BB:=aq (BB.out.trans (hb.mono BB.out.size));clear hb p0 p1 p2 p3 p4 p5;obtain⟨A1,d1,rfl,hC,hnil,_⟩:=own_cells hown;have N1:=aq hnil;have L1:=aq (show PLst x1 A1 l1 from hC);clear hown hC hnil;obtain⟨_,p0,p1,p2,p3,p4,p5,_⟩:=BS.out
 go_wp2_with fail
 refine (c2.out a _ HA.out TB.out).mono ?_;rintro e x2 ⟨v,rfl,hown,hb⟩;replace BS:=aq (BS.out.below hb);replace HA:=aq (HA.out.below hb);replace TB:=aq (TB.out.below hb);replace L1:=aq (L1.out.below hb);replace BB:=aq (BB.out.trans (hb.mono BB.out.size));clear hb p0 p1 p2 p3 p4 p5;obtain⟨A2,d2,rfl,hC,hnil,_⟩:=own_cells hown;have N2:=aq hnil;have L2:=aq (show PLst x2 A2 l2 from hC);clear hown hC hnil;obtain⟨_,p0,p1,p2,p3,p4,p5,_⟩:=BS.out
 go_wp2_with fail
 refine (c3.out a _ HA.out TB.out).mono ?_;rintro e x3 ⟨v,rfl,hown,hb⟩;replace BS:=aq (BS.out.below hb);replace HA:=aq (HA.out.below hb);replace TB:=aq (TB.out.below hb);replace L1:=aq (L1.out.below hb);replace L2:=aq (L2.out.below hb);replace BB:=aq (BB.out.trans (hb.mono BB.out.size));clear hb p0 p1 p2 p3 p4 p5;obtain⟨A3,d3,rfl,hC,hnil,_⟩:=own_cells hown;have N3:=aq hnil;have L3:=aq (show PLst x3 A3 l0 from hC);clear hown hC hnil;obtain⟨_,p0,p1,p2,p3,p4,p5,_⟩:=BS.out
 go_wp2_with fail
 refine (c4.out a _ HA.out TB.out).mono ?_;rintro e x4 ⟨rfl,hb⟩;replace BS:=aq (BS.out.below hb);replace HA:=aq (HA.out.below hb);replace TB:=aq (TB.out.below hb);replace L1:=aq (L1.out.below hb);replace L2:=aq (L2.out.below hb);replace L3:=aq (L3.out.below hb);replace BB:=aq (BB.out.trans (hb.mono BB.out.size));clear hb p0 p1 p2 p3 p4 p5;go_wp2
 go_loopw [18] (HalvesJ l0.length x4) (fun i _=>l0.length-(intOf i).toNat)
 case atStart=>exact⟨0,Nat.zero_le _,rfl,Below.refl _ _⟩
 case round =>
  obtain⟨q,hq,rfl,hbr⟩:=hrel;have HBr:=aq hbr;clear hbr;replace BB:=aq (BB.out.trans (HBr.out.mono BB.out.size));replace BS:=aq (BS.out.below HBr.out);replace HA:=aq (HA.out.below HBr.out);replace TB:=aq (TB.out.below HBr.out);replace L1:=aq (L1.out.below HBr.out);replace L2:=aq (L2.out.below HBr.out);replace L3:=aq (L3.out.below HBr.out);have hw:IntKind.i64.wrap (r+(q:Int))=r+(q:Int):=IntWalk.i64_in _ (by omega);have hz:In64 (r+(q:Int)):=⟨by omega,by omega⟩;have c6:=aq (c5.out (r+(q:Int)))
  by_cases hlt:q < l0.length
  ·obtain⟨a1,a2,a3,a4⟩:=AT.out q hlt
   rw [a1,a2] at c6;rw [a2] at a3 a4;obtain⟨b1,o1,rfl,_,e1,e2⟩:=L3.out.pair hlt;obtain⟨⟨z1,z2⟩,hzz⟩:∃ z,l0.getD q (0,0)=z:=⟨_,rfl⟩;rw [hzz] at c6 e1 e2 a3 a4
   dsimp only at c6 e1 e2 a3 a4
   have k1:decide (z1 < f)=false:=by simpa using a3
   have k2:decide (z1 > t)=false:=by simpa using a4
   have HZZ:=aq hzz;clear a1 a2 a3 a4 hzz e1 e2;obtain⟨_,p0,p1,p2,p3,p4,p5,_⟩:=BS.out
   go_wp2_with fail
   refine (c6.out a _ HA.out TB.out hz).mono ?_;rintro e y1 ⟨rfl,hb⟩;have D:=aq (HBr.out.trans (hb.mono HBr.out.size));have L3b:=aq (L3.out.below hb);clear hb p0 p1 p2 p3 p4 p5
   go_upto_region 14 with (fail)
   obtain⟨V1,hV⟩:∃ V,V=y1.alloc (.cells #[.int .i64 z1,.int .i64 z2] 32):=⟨_,rfl⟩
   have hba:Below y1.heap.size y1 V1:=by rw [hV];exact (Below.refl _ _).alloc (Nat.le_refl _) _
   have P1:=aq (show PBox V1 y1.heap.size (z1,z2) by rw [hV];exact PBox.new y1 (z1,z2) 32);rw [<-hV];have L3c:=aq (L3b.out.below hba);replace D:=aq (D.out.trans (hba.mono D.out.size));clear hV hba L3b;obtain⟨b1',o1',hbb,_,e1,e2⟩:=L3c.out.pair hlt
   injection hbb with hbb
   injection hbb with g1 g2
   subst g1 g2;rw [HZZ.out] at e1 e2
   dsimp only at e1 e2
   obtain⟨_,u0,u1,_⟩:=P1.out
   dsimp only at u0 u1
   have i0:(0:Int)<=(q:Int):=by omega
   have i1:(q:Int) < (l0.length:Int):=by omega
   go_wp2
   go_quiet (fail)
   go_wp2
   go_roundw
   case rel=>exact⟨q+1,by omega,by go_num,by first | exact D.out | exact below_drewN D.out _⟩
   case measure=>simp [intOf];omega
  ·obtain rfl:q=l0.length:=by omega
   have P0:=aq PA.out;obtain⟨E,hE⟩:∃ E,E=Sn.selE s (r+(l0.length:Int)):=⟨_,rfl⟩;obtain⟨y,hy⟩:∃ E,E=Sn.selV s (r+(l0.length:Int)):=⟨_,rfl⟩;rw [<-hE,<-hy] at c6 P0;clear hE hy;obtain⟨_,p0,p1,p2,p3,p4,p5,_⟩:=BS.out
   go_wp2_with fail
   refine (c6.out a _ HA.out TB.out hz).mono ?_;rintro e y1 ⟨rfl,hb⟩;replace BB:=aq (BB.out.trans (hb.mono BB.out.size));replace L1:=aq (L1.out.below hb);replace L2:=aq (L2.out.below hb);replace L3:=aq (L3.out.below hb);clear hb p0 p1 p2 p3 p4 p5
   go_upto_region 17 with (fail)
   obtain⟨V1,hV⟩:∃ V,V=y1.alloc (.cells #[.int .i64 y.1,.int .i64 y.2] 32):=⟨_,rfl⟩
   have hba:Below y1.heap.size y1 V1:=by rw [hV];exact (Below.refl _ _).alloc (Nat.le_refl _) _
   have P1:=aq (show PBox V1 y1.heap.size y by rw [hV];exact PBox.new y1 y 32);rw [<-hV];replace BB:=aq (BB.out.trans (hba.mono BB.out.size));replace L1:=aq (L1.out.below hba);replace L2:=aq (L2.out.below hba);replace L3:=aq (L3.out.below hba);clear hV hba;have LP:=aq (show l1.length+l2.length=l0.length by have:=congrArg List.length SP.out;rw [List.length_append] at this;exact this)
   have e12:l1.length+l2.length<=65536:=by have:=LP.out;omega
   go_wp2_with (first | (at_builtin;refine wpList_joinG elemP (by rfl) (.tmp 141) (.tmp 142) rfl V1.heap.size 0 _ [] rfl (World.ownsRow_lit V1 #[] 0 (Nat.le_refl _) (Nat.zero_le _) (by simp)) A1 l1.length d1 (pcells l1) rfl (L1.out.below ((Below.refl _ _).alloc (Nat.le_refl _) _)) (pcells_length l1) (pcells_one l1) N1.out (by simp) (by unfold maxLen;omega) (by omega) ?_;intro v3 w5 hown5 hb5;have ROW:=aq hown5;have BB5:=aq (((Below.refl V1.heap.size V1).alloc (Nat.le_refl _) _).trans hb5);clear hown5 hb5) | (at_builtin;go_loud (refine wpList_joinG elemP (by rfl) (.tmp 143) (.tmp 144) rfl V1.heap.size (0+l1.length) v3 _ rfl ROW.out A2 l2.length d2 (pcells l2) rfl (L2.out.below BB5.out) (pcells_length l2) (pcells_one l2) N2.out BB5.out.size (by unfold maxLen;omega) (by omega) ?_;intro v4 w6 hown6 hb6;have ROW2:=aq hown6;have BB6:=aq hb6;clear hown6 hb6)))
   have BB7:=aq (BB5.out.trans BB6.out);obtain⟨A4,d4,rfl,hC4,_⟩:=own_cells ROW2.out;have PC4:=aq (show PLst w6 A4 l0 by unfold PLst;rw [<-SP.out];unfold pcells;rw [List.flatMap_append];exact hC4)
   have LL:0+l1.length+l2.length=l0.length:=by have:=LP.out;omega
   rw [LL];clear hC4 LL;refine (r4SamePairs A4 A3 d4 d3 l0 l0 w6 PC4.out (L3.out.below BB7.out) (by omega) (by omega)).mono ?_;rintro e W7 ⟨rfl,hb⟩;rw [show (l0==l0)=true from beq_self_eq_true l0];have hb':=BB7.out.trans (hb.mono (Nat.le_trans BB7.out.size (Nat.le_refl _)));replace BB:=aq (BB.out.trans (hb'.mono BB.out.size));have P2:=aq (P1.out.below hb');clear hb hb';obtain⟨_,u0,u1,_⟩:=P2.out
   by_cases hE:E=0
   ·have k1:decide (y.1 > t)=true:=by simpa using P0.out hE
    subst hE;clear P0;go_wp2;go_ret;exact⟨rfl,BB.out⟩
   ·have k1:(E != 0)=true:=by simp [hE]
    clear hE P0;go_wp2;go_ret;exact⟨rfl,BB.out⟩
theorem walk (s:Sl) (a:Ads) (f t m:Int) (W:World) (h:Held W s a) (hok:s.Ok) (hT:Tab W) (hm:In64 m) (ht:In64 t) :
  Calls Tryd.prog 8 #[slv s a,.int .i64 f,.int .i64 t,.int .i64 m] W fun e w'=>e=.returned (.bool true)/\Below W.heap.size W w':=by
 cases hg:s.greatB 600
 ·by_cases h1:m < f
  ·have HG:=aq hg
   have BS:=aq (Box.new W s a 27);have HB:=aq (fun o=>(Below.refl W.heap.size W).alloc (Nat.le_refl _) o);have CA:=aq (fun o=>l12Alive (W.alloc o) (hT.below (HB.out o)))
   have j1:decide (m < f)=true:=by simpa using h1
   clear h hok hg hT hm ht h1;unfold slCells at BS;unfold slv
   go_enter Tryd.func8,Tryd.ntmps8
   go_wp2_with fail
   refine (CA.out _).mono ?_;rintro e w0 ⟨rfl,hb⟩;have BB:=aq ((HB.out _).trans (hb.mono (by simp)));obtain⟨_,p0,p1,p2,p3,p4,p5,_⟩:=BS.out.below hb;clear hb
   go_wp2_with fail
   refine (r4Great s a 600 _).mono ?_;rintro e w1 ⟨rfl,hb⟩;rw [HG.out];have HZ:=aq (BB.out.trans (hb.mono BB.out.size));clear hb;go_wp2;go_ret;exact⟨rfl,HZ.out⟩
  ·have j1:decide (m < f)=false:=by simpa using h1
   by_cases h2:t<=m
   ·have HG:=aq hg
    have BS:=aq (Box.new W s a 27);have HB:=aq (fun o=>(Below.refl W.heap.size W).alloc (Nat.le_refl _) o);have CA:=aq (fun o=>l12Alive (W.alloc o) (hT.below (HB.out o)))
    have j2:decide (m ≥ t)=true:=by simpa using h2
    clear h hok hg hT hm ht h1 h2;unfold slCells at BS;unfold slv
    go_enter Tryd.func8,Tryd.ntmps8
    go_wp2_with fail
    refine (CA.out _).mono ?_;rintro e w0 ⟨rfl,hb⟩;have BB:=aq ((HB.out _).trans (hb.mono (by simp)));obtain⟨_,p0,p1,p2,p3,p4,p5,_⟩:=BS.out.below hb;clear hb
    go_wp2_with fail
    refine (r4Great s a 600 _).mono ?_;rintro e w1 ⟨rfl,hb⟩;rw [HG.out];have HZ:=aq (BB.out.trans (hb.mono BB.out.size));clear hb;go_wp2;go_ret;exact⟨rfl,HZ.out⟩
   ·clear j1
    have hs:s.Short:=by
     unfold Sl.greatB at hg
     simp only [Bool.or_eq_false_iff,decide_eq_false_iff_not] at hg
     exact⟨by omega,by omega,by omega,by omega⟩
    by_cases hc:Sk.chkE s=0
    ·exact good s a f t m W h hok hs hg hT hm ht (by omega) (by omega) hc
    ·exact bad s a f t m W h hok hs hg hT hm ht (by omega) (by omega) hc
 ·have HG:=aq hg
  have BS:=aq (Box.new W s a 27);have HB:=aq (fun o=>(Below.refl W.heap.size W).alloc (Nat.le_refl _) o);have CA:=aq (fun o=>l12Alive (W.alloc o) (hT.below (HB.out o)));clear h hok hg hT hm ht ;unfold slCells at BS;unfold slv
  go_enter Tryd.func8,Tryd.ntmps8
  go_wp2_with fail
  refine (CA.out _).mono ?_;rintro e w0 ⟨rfl,hb⟩;have BB:=aq ((HB.out _).trans (hb.mono (by simp)));obtain⟨_,p0,p1,p2,p3,p4,p5,_⟩:=BS.out.below hb;clear hb
  go_wp2_with fail
  refine (r4Great s a 600 _).mono ?_;rintro e w1 ⟨rfl,hb⟩;rw [HG.out];have HZ:=aq (BB.out.trans (hb.mono BB.out.size));clear hb;go_wp2;go_ret;exact⟨rfl,HZ.out⟩
end Go.Proofs.YtfdpkmafemidjaaDoor.spanHalves

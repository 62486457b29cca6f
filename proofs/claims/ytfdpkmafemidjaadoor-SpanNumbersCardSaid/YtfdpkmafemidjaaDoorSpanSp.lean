/- What package span's Scan returns, errors too. -/
import Derived.Test.YtfdpkmafemidjaaDoorSpanDSp
import Derived.Test.YtfdpkmafemidjaaDoorTkSp
set_option linter.unusedVariables false
set_option linter.unusedSimpArgs false
set_option maxHeartbeats 2000000
set_option maxRecDepth 100000
namespace Go.Proofs.YtfdpkmafemidjaaDoor
open Go.RowKit Go.Shelf
theorem nScan_bad (s:Sl) (a:Ads) (f t n:Int) (w:World) (h:Held w s a) (hok:s.Ok) (hs:s.Short) (hT:Tab w) (hc:¬ Sk.chkE s=0) :
  Calls Tryd.prog 16 #[slv s a,.int .i64 f,.int .i64 t,.int .i64 n] w (ScanPost [] (Sk.chkE s) w):=by
 have CC:=aq (fun W (hb:Below w.heap.size w W)=>kCheck s a W (h.below hb) hok hs (hT.below hb));have HB:=aq (Box.new w s a 27)
 have k1:(Sk.chkE s != 0)=true:=by simp [hc]
 clear h hok hs hT hc;unfold slv at CC ⊢;refine calls_marks Tryd.func16 rfl ?_
 simp only [Tryd.ntmps16,List.size_toArray,List.length_cons,List.length_nil,Nat.reduceAdd,Nat.reduceSub,Array.replicate_succ,Array.replicate_zero,List.push_toArray,List.append_toArray,List.nil_append,List.cons_append]
 go_upto_region 1 with (fail)
 obtain⟨V0,hV0⟩:∃ V,V=((w.alloc (.cells #[.int .i64 s.seg,.slice a.w s.words.length a.cw,.slice a.k s.keys.length a.ck,.slice a.v s.vals.length a.cv,.slice a.c s.counts.length a.cc,.int .u64 (s.laid:Int)] 27)).alloc (.cells #[.int .i64 t] 2)).alloc (.cells #[.int .i64 n] 3):=⟨_,rfl⟩
 have b0:Below w.heap.size w V0:=by rw [hV0];exact (((Below.refl _ _).alloc (Nat.le_refl _) _).alloc (by simp) _).alloc (by simp;omega) _
 have x0:Box V0 w.heap.size s a:=by rw [hV0];exact (HB.out.below ((Below.refl _ _).alloc (Nat.le_refl _) _)).below ((Below.refl _ _).alloc (Nat.le_refl _) _)
 have m0:Boxed V0 (w.heap.size+1+1) 3 (.int .i64 n):=by
  rw [hV0];have:=Boxed.new ((w.alloc (.cells (slCells s a) 27)).alloc (.cells #[.int .i64 t] 2)) 3 (.int .i64 n);rw [World.size_alloc,World.size_alloc] at this;exact this
 rw [<-hV0];clear hV0 HB;obtain⟨_,c0,c1,c2,c3,c4,c5,_⟩:=x0
 go_step3
 go_wp2_with fail
 refine (CC.out _ b0).mono ?_;rintro e w1 ⟨rfl,hb⟩;have hb1:=aq (b0.trans (hb.mono b0.size));have M1:=aq (boxed_below m0 m0.lt hb);clear hb b0 m0 c0 c1 c2 c3 c4 c5 CC;have d0:=M1.out.cell;go_wp2;refine⟨_,results_tmp2 rfl _ _ _,⟨_,rfl,World.ownsRow_nil _ _ _ _,?_⟩⟩
 first | exact hb1.out | exact below_drewN hb1.out _
theorem nScan_low (s:Sl) (a:Ads) (f t n:Int) (w:World) (h:Held w s a) (hok:s.Ok) (hs:s.Short) (hT:Tab w) (hc:Sk.chkE s=0) (hn:n < 0) :
  Calls Tryd.prog 16 #[slv s a,.int .i64 f,.int .i64 t,.int .i64 n] w (ScanPost [] 2 w):=by
 have CC:=aq (fun W (hb:Below w.heap.size w W)=>kCheck s a W (h.below hb) hok hs (hT.below hb));rw [hc] at CC;have HB:=aq (Box.new w s a 27)
 have k1:decide (n < 0)=true:=by simp [hn]
 clear h hok hs hT hc hn;unfold slv at CC ⊢;refine calls_marks Tryd.func16 rfl ?_
 simp only [Tryd.ntmps16,List.size_toArray,List.length_cons,List.length_nil,Nat.reduceAdd,Nat.reduceSub,Array.replicate_succ,Array.replicate_zero,List.push_toArray,List.append_toArray,List.nil_append,List.cons_append]
 go_upto_region 1 with (fail)
 obtain⟨V0,hV0⟩:∃ V,V=((w.alloc (.cells #[.int .i64 s.seg,.slice a.w s.words.length a.cw,.slice a.k s.keys.length a.ck,.slice a.v s.vals.length a.cv,.slice a.c s.counts.length a.cc,.int .u64 (s.laid:Int)] 27)).alloc (.cells #[.int .i64 t] 2)).alloc (.cells #[.int .i64 n] 3):=⟨_,rfl⟩
 have b0:Below w.heap.size w V0:=by rw [hV0];exact (((Below.refl _ _).alloc (Nat.le_refl _) _).alloc (by simp) _).alloc (by simp;omega) _
 have x0:Box V0 w.heap.size s a:=by rw [hV0];exact (HB.out.below ((Below.refl _ _).alloc (Nat.le_refl _) _)).below ((Below.refl _ _).alloc (Nat.le_refl _) _)
 have m0:Boxed V0 (w.heap.size+1+1) 3 (.int .i64 n):=by
  rw [hV0];have:=Boxed.new ((w.alloc (.cells (slCells s a) 27)).alloc (.cells #[.int .i64 t] 2)) 3 (.int .i64 n);rw [World.size_alloc,World.size_alloc] at this;exact this
 rw [<-hV0];clear hV0 HB;obtain⟨_,c0,c1,c2,c3,c4,c5,_⟩:=x0
 go_step3
 go_wp2_with fail
 refine (CC.out _ b0).mono ?_;rintro e w1 ⟨rfl,hb⟩;have hb1:=aq (b0.trans (hb.mono b0.size));have M1:=aq (boxed_below m0 m0.lt hb);clear hb b0 m0 c0 c1 c2 c3 c4 c5 CC;have d0:=M1.out.cell;go_wp2;refine⟨_,results_tmp2 rfl _ _ _,⟨_,rfl,World.ownsRow_nil _ _ _ _,?_⟩⟩
 first | exact hb1.out | exact below_drewN hb1.out _
theorem nScan_high (s:Sl) (a:Ads) (f t n:Int) (w:World) (h:Held w s a) (hok:s.Ok) (hs:s.Short) (hT:Tab w) (hc:Sk.chkE s=0) (hn:1000 < n) :
  Calls Tryd.prog 16 #[slv s a,.int .i64 f,.int .i64 t,.int .i64 n] w (ScanPost [] 2 w):=by
 have CC:=aq (fun W (hb:Below w.heap.size w W)=>kCheck s a W (h.below hb) hok hs (hT.below hb));rw [hc] at CC;have HB:=aq (Box.new w s a 27)
 have k1:decide (n < 0)=false:=by simp;omega
 have k2:decide (n > 1000)=true:=by simp;omega
 clear h hok hs hT hc hn;unfold slv at CC ⊢;refine calls_marks Tryd.func16 rfl ?_
 simp only [Tryd.ntmps16,List.size_toArray,List.length_cons,List.length_nil,Nat.reduceAdd,Nat.reduceSub,Array.replicate_succ,Array.replicate_zero,List.push_toArray,List.append_toArray,List.nil_append,List.cons_append]
 go_upto_region 1 with (fail)
 obtain⟨V0,hV0⟩:∃ V,V=((w.alloc (.cells #[.int .i64 s.seg,.slice a.w s.words.length a.cw,.slice a.k s.keys.length a.ck,.slice a.v s.vals.length a.cv,.slice a.c s.counts.length a.cc,.int .u64 (s.laid:Int)] 27)).alloc (.cells #[.int .i64 t] 2)).alloc (.cells #[.int .i64 n] 3):=⟨_,rfl⟩
 have b0:Below w.heap.size w V0:=by rw [hV0];exact (((Below.refl _ _).alloc (Nat.le_refl _) _).alloc (by simp) _).alloc (by simp;omega) _
 have x0:Box V0 w.heap.size s a:=by rw [hV0];exact (HB.out.below ((Below.refl _ _).alloc (Nat.le_refl _) _)).below ((Below.refl _ _).alloc (Nat.le_refl _) _)
 have m0:Boxed V0 (w.heap.size+1+1) 3 (.int .i64 n):=by
  rw [hV0];have:=Boxed.new ((w.alloc (.cells (slCells s a) 27)).alloc (.cells #[.int .i64 t] 2)) 3 (.int .i64 n);rw [World.size_alloc,World.size_alloc] at this;exact this
 rw [<-hV0];clear hV0 HB;obtain⟨_,c0,c1,c2,c3,c4,c5,_⟩:=x0
 go_step3
 go_wp2_with fail
 refine (CC.out _ b0).mono ?_;rintro e w1 ⟨rfl,hb⟩;have hb1:=aq (b0.trans (hb.mono b0.size));have M1:=aq (boxed_below m0 m0.lt hb);clear hb b0 m0 c0 c1 c2 c3 c4 c5 CC;have d0:=M1.out.cell;go_wp2;refine⟨_,results_tmp2 rfl _ _ _,⟨_,rfl,World.ownsRow_nil _ _ _ _,?_⟩⟩
 first | exact hb1.out | exact below_drewN hb1.out _
theorem nScan (s:Sl) (a:Ads) (f t n:Int) (w:World) (h:Held w s a) (hok:s.Ok) (hs:s.Short) (hT:Tab w) :
  Calls Tryd.prog 16 #[slv s a,.int .i64 f,.int .i64 t,.int .i64 n] w (ScanPost (Sn.scanV s f t n) (Sn.scanE s n) w):=by
 by_cases hc:Sk.chkE s=0
 ·by_cases h1:n < 0
  ·have e:Sn.scanE s n=2:=by unfold Sn.scanE;rw [if_pos hc,if_neg (by omega)]
   have v:Sn.scanV s f t n=[]:=by unfold Sn.scanV;rw [if_neg (by rw [e];decide)]
   rw [e,v];exact nScan_low s a f t n w h hok hs hT hc h1
  ·by_cases h2:1000 < n
   ·have e:Sn.scanE s n=2:=by unfold Sn.scanE;rw [if_pos hc,if_neg (by omega)]
    have v:Sn.scanV s f t n=[]:=by unfold Sn.scanV;rw [if_neg (by rw [e];decide)]
    rw [e,v];exact nScan_high s a f t n w h hok hs hT hc h2
   ·have e:Sn.scanE s n=0:=by unfold Sn.scanE;rw [if_pos hc,if_pos (by omega)]
    rw [e];exact nScan_ok s a f t n w h hok hs hT hc (by omega) (by omega)
 ·have e:Sn.scanE s n=Sk.chkE s:=by unfold Sn.scanE;rw [if_neg hc]
  have v:Sn.scanV s f t n=[]:=by unfold Sn.scanV;rw [if_neg (by rw [e];exact hc)]
  rw [e,v];exact nScan_bad s a f t n w h hok hs hT hc
end Go.Proofs.YtfdpkmafemidjaaDoor

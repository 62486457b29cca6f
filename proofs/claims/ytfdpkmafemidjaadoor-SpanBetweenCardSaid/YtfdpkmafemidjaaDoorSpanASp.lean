/- What package span's pairAt, and a place's floor and ceiling, return. They only read. -/
import Derived.Test.YtfdpkmafemidjaaDoorPlain12Sp
import Derived.Test.YtfdpkmafemidjaaDoorSeekSp
import Derived.Test.YtfdpkmafemidjaaDoorTkSp
set_option linter.unusedVariables false
set_option linter.unusedSimpArgs false
set_option maxHeartbeats 2000000
set_option maxRecDepth 100000
namespace Go.Proofs.YtfdpkmafemidjaaDoor
open Go.RowKit
theorem nPairAt (s:Sl) (a:Ads) (i:Nat) (w:World) (h:Held w s a) (hi:i < s.keys.length) (hv:s.vals.length=s.keys.length) (hn:s.keys.length<=65536) :
  Calls Tryd.prog 37 #[slv s a,.int .i64 (i:Int)] w fun e w'=>e=.returned (pv (s.pairAt i))/\Below w.heap.size w w':=by
 have HH:=aq h;obtain⟨bk,ok,hak,hbk,_⟩:=h.keys.cell hi;obtain⟨bv,ov,hav,hbv,_⟩:=h.vals.cell (i:=i) (by omega);have HB:=aq (fun o=>(Box.new w s a 27).below ((Below.refl _ _).alloc (Nat.le_refl _) o));have HP:=aq (show s.pairAt i=(s.keys.getD i 0,s.vals.getD i 0) from rfl);obtain⟨x,hx⟩:∃ x,s.keys.getD i 0=x:=⟨_,rfl⟩;obtain⟨y,hy⟩:∃ y,s.vals.getD i 0=y:=⟨_,rfl⟩;rw [hx,hy] at HP
 have j5:i < s.vals.length:=by omega
 have j4:(i:Int) < (s.vals.length:Int):=by omega
 have HX:=aq hx;have HY:=aq hy;have HAK:=aq hak;have HAV:=aq hav;clear h hx hy hv hak hav;unfold slv
 go_enter Tryd.func37,Tryd.ntmps37
 go_upto_region 1 with (fail)
 obtain⟨W1,hW1⟩:∃ W,W=(w.alloc (.cells #[.int .i64 s.seg,.slice a.w s.words.length a.cw,.slice a.k s.keys.length a.ck,.slice a.v s.vals.length a.cv,.slice a.c s.counts.length a.cc,.int .u64 (s.laid:Int)] 27)).alloc (.cells #[.int .i64 0,.int .i64 0] 32):=⟨_,rfl⟩;have bx:=aq (show Box W1 w.heap.size s a by rw [hW1];exact HB.out _);have px:=aq (show PBox W1 (w.heap.size+1) (0,0) by rw [hW1];have:=PBox.new (w.alloc (.cells #[.int .i64 s.seg,.slice a.w s.words.length a.cw,.slice a.k s.keys.length a.ck,.slice a.v s.vals.length a.cv,.slice a.c s.counts.length a.cc,.int .u64 (s.laid:Int)] 27)) (0,0) 32;rwa [World.size_alloc] at this);have BB:=aq (show Below w.heap.size w W1 by rw [hW1];exact ((Below.refl w.heap.size w).alloc (Nat.le_refl _) _).alloc (by simp) _);rw [<-hW1];clear hW1
 have ck:W1.cell? ⟨bk,ok+i,none⟩=some (.int .i64 x):=by
  obtain⟨b',o',e1,_,e2⟩:=(HH.out.below BB.out).keys.cell (i:=i) (by omega)
  rw [HAK.out] at e1;injection e1 with e1;injection e1 with e3 e4;subst e3 e4;rw [HX.out] at e2;exact e2
 have cv:W1.cell? ⟨bv,ov+i,none⟩=some (.int .i64 y):=by
  obtain⟨b',o',e1,_,e2⟩:=(HH.out.below BB.out).vals.cell (i:=i) (by omega)
  rw [HAV.out] at e1;injection e1 with e1;injection e1 with e3 e4;subst e3 e4;rw [HY.out] at e2;exact e2
 have c2:W1.cell? ⟨w.heap.size,2,none⟩=some (.slice (some ⟨bk,ok,none⟩) s.keys.length a.ck):=by rw [<-HAK.out];exact bx.out.c2
 have c3:W1.cell? ⟨w.heap.size,3,none⟩=some (.slice (some ⟨bv,ov,none⟩) s.vals.length a.cv):=by rw [<-HAV.out];exact bx.out.c3
 have d0:=px.out.c0;have d1:=px.out.c1;have fd0:=px.out.f0;have fd1:=px.out.f1
 try dsimp only at d0 d1
 go_still_tail 11,(by kernel_rfl)
 go_wp2;refine bodyPost_ret (v:=.agg #[.int .i64 x,.int .i64 y]) (by simp [results,Tryd.results37,go_sem,d0,d1]) rfl ⟨by rw [HP.out];rfl,?_⟩;exact below_drewN ((BB.out.setCell (by simp) _).setCell (by simp) _) 1
theorem place_of {w:World} {g:Nat} {s:Sl} {a:Ads} {k:Int} (h:w.heap[g]?=some (.cells #[.int .i64 s.seg,.slice a.w s.words.length a.cw,.slice a.k s.keys.length a.ck,.slice a.v s.vals.length a.cv,.slice a.c s.counts.length a.cc,.int .u64 (s.laid:Int),.int .i64 k] 64 (0,0))):Box w g s a/\w.cell? ⟨g,6,none⟩=some (.int .i64 k):=by
 have hlt:g < w.heap.size:=(Array.getElem?_eq_some_iff.1 h).1;refine⟨⟨hlt,?_,?_,?_,?_,?_,?_,?_⟩,?_⟩
 all_goals first | (intro o;simp only [World.frozen?,h];rfl) | (simp only [World.cell?,h];rfl)
theorem place_box (w:World) (s:Sl) (a:Ads) (k:Int):Box (w.alloc (.cells #[.int .i64 s.seg,.slice a.w s.words.length a.cw,.slice a.k s.keys.length a.ck,.slice a.v s.vals.length a.cv,.slice a.c s.counts.length a.cc,.int .u64 (s.laid:Int),.int .i64 k] 64)) w.heap.size s a/\(w.alloc (.cells #[.int .i64 s.seg,.slice a.w s.words.length a.cw,.slice a.k s.keys.length a.ck,.slice a.v s.vals.length a.cv,.slice a.c s.counts.length a.cc,.int .u64 (s.laid:Int),.int .i64 k] 64)).cell? ⟨w.heap.size,6,none⟩=some (.int .i64 k) :=
 place_of (by show (w.heap.push _)[w.heap.size]?=_;exact Array.getElem?_push_size)
theorem nCeil (s:Sl) (a:Ads) (k:Int) (w:World) (h:Held w s a) (hok:s.Ok) (hs:s.Short) (hT:Tab w) :
  Calls Tryd.prog 34 #[.agg #[.int .i64 s.seg,.slice a.w s.words.length a.cw,.slice a.k s.keys.length a.ck,.slice a.v s.vals.length a.cv,.slice a.c s.counts.length a.cc,.int .u64 (s.laid:Int),.int .i64 k]] w fun e w'=>e=.returned (.tuple #[.int .i64 (Sk.nextV s k),.int .i64 (Sk.nextE s k)])/\Below w.heap.size w w':=by
 have CN:=aq (fun o=>kNext s a k (w.alloc o) (h.alloc o) hok hs (hT.below ((Below.refl _ _).alloc (Nat.le_refl _) o)));have HB:=aq (fun o=>(Below.refl w.heap.size w).alloc (Nat.le_refl _) o);have BX:=aq (place_box w s a k);clear h hok hs hT;unfold slv at CN
 go_enter Tryd.func34,Tryd.ntmps34
 obtain⟨⟨_,c0,c1,c2,c3,c4,c5,_⟩,c6⟩:=BX.out
 go_wp2_with fail
 refine (CN.out _).mono ?_;rintro e w1 ⟨rfl,hb⟩;go_wp2;go_ret2;exact⟨rfl,(HB.out _).trans (hb.mono (by simp))⟩
theorem nFloor (s:Sl) (a:Ads) (k:Int) (w:World) (h:Held w s a) (hok:s.Ok) (hs:s.Short) (hT:Tab w) :
  Calls Tryd.prog 32 #[.agg #[.int .i64 s.seg,.slice a.w s.words.length a.cw,.slice a.k s.keys.length a.ck,.slice a.v s.vals.length a.cv,.slice a.c s.counts.length a.cc,.int .u64 (s.laid:Int),.int .i64 k]] w fun e w'=>e=.returned (.tuple #[.int .i64 (Sn.floorI s k),.int .i64 (Sn.floorE s k)])/\Below w.heap.size w w':=by
 have CF:=aq (fun o=>kFind s a k (w.alloc o) (h.alloc o) hok hs (hT.below ((Below.refl _ _).alloc (Nat.le_refl _) o)));have CL:=aq (fun W (hb:Below w.heap.size w W)=>kLast s a k W (h.below hb) hok hs (hT.below hb));have HB:=aq (fun o=>(Below.refl w.heap.size w).alloc (Nat.le_refl _) o);have BX:=aq (place_box w s a k);clear h hok hs hT;unfold slv at CF CL
 rcases Sn.find_is s k with⟨x,he,hv,hf,hi⟩ | ⟨he,hf,hi⟩ | ⟨he,h6,h0,hv,hf,hi⟩
 ·rw [he,hv] at CF
  rw [hf,hi];clear he hv hf hi CL
  go_enter Tryd.func32,Tryd.ntmps32
  obtain⟨⟨_,c0,c1,c2,c3,c4,c5,_⟩,c6⟩:=BX.out
  go_wp2_with fail
  refine (CF.out _).mono ?_;rintro e w1 ⟨rfl,hb⟩;go_wp2;go_ret2;exact⟨rfl,(HB.out _).trans (hb.mono (by simp))⟩
 ·rw [he] at CF
  rw [hf,hi];clear he hf hi
  go_enter Tryd.func32,Tryd.ntmps32
  obtain⟨⟨_,c0,c1,c2,c3,c4,c5,_⟩,c6⟩:=BX.out
  go_wp2_with fail
  refine (CF.out _).mono ?_;rintro e w1 ⟨rfl,hb⟩;have B1:=aq ((HB.out _).trans (hb.mono (by simp)));clear c0 c1 c2 c3 c4 c5 c6;obtain⟨_,c0,c1,c2,c3,c4,c5,_⟩:=BX.out.1.below hb;have c6:w1.cell? ⟨w.heap.size,6,none⟩=some (.int .i64 k):=(hb.cell (p:=⟨w.heap.size,6,none⟩) (by simp)).trans BX.out.2;clear hb
  go_wp2_with fail
  refine (CL.out _ B1.out).mono ?_;rintro e w2 ⟨rfl,hb⟩;go_wp2;go_ret2;exact⟨rfl,B1.out.trans (hb.mono B1.out.size)⟩
 ·rw [he,hv] at CF
  rw [hf,hi]
  have k6:(Sk.chkE s==6)=false:=by simp [h6]
  clear he hv hf hi h0 h6 CL
  go_enter Tryd.func32,Tryd.ntmps32
  obtain⟨⟨_,c0,c1,c2,c3,c4,c5,_⟩,c6⟩:=BX.out
  go_wp2_with fail
  refine (CF.out _).mono ?_;rintro e w1 ⟨rfl,hb⟩;go_wp2;go_ret2;exact⟨rfl,(HB.out _).trans (hb.mono (by simp))⟩
end Go.Proofs.YtfdpkmafemidjaaDoor

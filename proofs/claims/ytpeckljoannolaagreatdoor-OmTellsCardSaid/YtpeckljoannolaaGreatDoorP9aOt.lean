/- Package gap's small functions. -/
import Derived.Test.YtpeckljoannolaaGreatDoorM10Ot
import Derived.Test.YtpeckljoannolaaGreatDoorS5bOt
import Derived.Test.YtpeckljoannolaaGreatDoorM08Ot
import Derived.Test.YtpeckljoannolaaGreatDoorP06Ot
import Derived.Lib.MinMax
import Derived.Test.YtpeckljoannolaaGreatDoorP6aOt
import Derived.Test.YtpeckljoannolaaGreatDoorM14Ot
import Derived.Test.YtpeckljoannolaaGreatDoorP5bOt
import Derived.Test.YtpeckljoannolaaGreatDoorP09Ot
import Derived.Test.YtpeckljoannolaaGreatDoorR04Ot
import Derived.Test.YtpeckljoannolaaGreatDoorR01Ot
import Derived.Deep.RegionHeld3
import Derived.Test.YtpeckljoannolaaGreatDoorTkOt
set_option linter.unusedVariables false
set_option linter.unusedSimpArgs false
set_option maxHeartbeats 2000000
set_option maxRecDepth 100000
namespace Go.Proofs.YtpeckljoannolaaGreatDoor
open Go.RowKit
theorem arr_box (w:World) (x y:Int) (t:TypeId):(w.alloc (.cells #[.int .i64 x,.int .i64 y] t)).cell? ⟨w.heap.size,0,none⟩=some (.int .i64 x)/\(w.alloc (.cells #[.int .i64 x,.int .i64 y] t)).cell? ⟨w.heap.size,1,none⟩=some (.int .i64 y):=by
 have hh:(w.alloc (.cells #[.int .i64 x,.int .i64 y] t)).heap[w.heap.size]?=some (.cells #[.int .i64 x,.int .i64 y] t):=by show (w.heap.push _)[w.heap.size]?=_;exact Array.getElem?_push_size
 constructor<;>(simp only [World.cell?,hh];rfl)
namespace Gp
def inV (s:Sl) (x y:Int):Int:=Oc.countV s.words s.keys.length x y
def manyN (c:Cf) (size h n:Int):Bool:=!c.fullV size h n
def fewN (c:Cf) (size h n:Int):Bool:=c.okB size h n&&!c.fewB size h n
theorem in_cases (s:Sl) (x y:Int):Oc.countE s.words s.keys.length x y=0∨¬ Oc.countE s.words s.keys.length x y=0/\inV s x y=0:=by
 by_cases h:Oc.countE s.words s.keys.length x y=0
 ·exact Or.inl h
 ·exact Or.inr ⟨h,by unfold inV Oc.countV;rw [if_neg h]⟩
theorem ask_ok (c:Cf) (size h n:Int):(c.askE size h n=0/\c.okB size h n=true)∨(¬ c.askE size h n=0/\c.okB size h n=false):=by
 unfold Cf.askE Cf.okB
 cases c.mayB<;>cases c.isB size<;>cases c.inB size h n<;>simp
end Gp
theorem gPairsIn (s:Sl) (a:Ads) (x y:Int) (w:World) (h:Held w s a) (hok:s.Ok) (hs:s.Short) :
  Calls Tryz.prog 177 #[slv s a,.agg #[.int .i64 x,.int .i64 y]] w fun e w'=>e=.returned (.int .i64 (Gp.inV s x y))/\Below w.heap.size w w':=by
 obtain⟨W0,hW0⟩:∃ W0,W0=(w.alloc (.cells #[.int .i64 s.seg,.slice a.w s.words.length a.cw,.slice a.k s.keys.length a.ck,.slice a.v s.vals.length a.cv,.slice a.c s.counts.length a.cc,.int .u64 (s.laid:Int)] 29)).alloc (.cells #[.int .i64 x,.int .i64 y] 195):=⟨_,rfl⟩;have BX:=aq (show Box W0 w.heap.size s a by rw [hW0];exact (Box.new w s a 29).below ((Below.refl _ _).alloc (Nat.le_refl _) _));have BB:=aq (show Below w.heap.size w W0 by rw [hW0];exact ((Below.refl w.heap.size w).alloc (Nat.le_refl _) _).alloc (by simp) _);have AX:=aq (show W0.cell? ⟨w.heap.size+1,0,none⟩=some (.int .i64 x)/\W0.cell? ⟨w.heap.size+1,1,none⟩=some (.int .i64 y) by rw [hW0];have:=arr_box (w.alloc (.cells #[.int .i64 s.seg,.slice a.w s.words.length a.cw,.slice a.k s.keys.length a.ck,.slice a.v s.vals.length a.cv,.slice a.c s.counts.length a.cc,.int .u64 (s.laid:Int)] 29)) x y 195;rwa [World.size_alloc] at this);have CC:=aq (oCount a.w a.cw s.words s.keys.length x y W0 (h.below BB.out).words hok.words hs.words);have V:=aq (Gp.in_cases s x y);clear h hok hs;unfold slv;have U:=aq (show Gp.inV s x y=Oc.countV s.words s.keys.length x y from rfl);rw [<-U.out] at CC;clear U;obtain⟨er,her⟩:∃ er,er=Oc.countE s.words s.keys.length x y:=⟨_,rfl⟩;rw [<-her] at CC V;obtain⟨v,hv⟩:∃ v,v=Gp.inV s x y:=⟨_,rfl⟩;rw [<-hv] at CC V ⊢;clear her hv;obtain⟨_,q0,q1,q2,q3,q4,q5,_⟩:=BX.out;obtain⟨x0,x1⟩:=AX.out
 rcases V.out with h0 | ⟨h0,rfl⟩
 ·subst h0
  clear V
  go_enter Tryz.func177,Tryz.ntmps177
  go_upto_region 1 with (fail)
  rw [<-hW0];clear hW0
  go_wp2_with fail
  refine CC.out.mono ?_;rintro e w1 ⟨rfl,hb⟩;go_wp2;go_ret;exact⟨rfl,BB.out.trans (hb.mono BB.out.size)⟩
 ·clear V
  go_enter Tryz.func177,Tryz.ntmps177
  go_upto_region 1 with (fail)
  rw [<-hW0];clear hW0
  go_wp2_with fail
  refine CC.out.mono ?_;rintro e w1 ⟨rfl,hb⟩;go_wp2;go_ret;exact⟨rfl,BB.out.trans (hb.mono BB.out.size)⟩
theorem gAhead (s:Sl) (a:Ads) (y:Int) (w:World) (h:Held w s a) (hok:s.Ok) (hs:s.Short) :
  Calls Tryz.prog 127 #[slv s a,.int .i64 y] w fun e w'=>e=.returned (.int .i64 (Gp.inV s 0 y))/\Below w.heap.size w w':=by
 have BX:=aq (Box.new w s a 29);have BB:=aq (fun o=>(Below.refl w.heap.size w).alloc (Nat.le_refl _) o);have CC:=aq (fun o=>gPairsIn s a 0 y (w.alloc o) (h.below (BB.out o)) hok hs);clear h hok hs;unfold slv at CC;unfold slv
 go_enter Tryz.func127,Tryz.ntmps127
 obtain⟨_,q0,q1,q2,q3,q4,q5,_⟩:=BX.out;unfold slCells at q0 q1 q2 q3 q4 q5
 go_wp2_with fail
 refine (CC.out _).mono ?_;rintro e w1 ⟨rfl,hb⟩;go_wp2;go_ret;exact⟨rfl,(BB.out _).trans (hb.mono (BB.out _).size)⟩
theorem gMany (s:Sl) (a:Ads) (w:World) (h:Held w s a) (hok:s.Ok) (hs:s.Short) :
  Calls Tryz.prog 82 #[slv s a] w fun e w'=>e=.returned (.int .i64 (Gp.inV s 0 s.keys.length))/\Below w.heap.size w w':=by
 have BX:=aq (Box.new w s a 29);have BB:=aq (fun o=>(Below.refl w.heap.size w).alloc (Nat.le_refl _) o);have CC:=aq (fun o=>gAhead s a s.keys.length (w.alloc o) (h.below (BB.out o)) hok hs);clear h hok hs;unfold slv at CC;unfold slv
 go_enter Tryz.func82,Tryz.ntmps82
 obtain⟨_,q0,q1,q2,q3,q4,q5,_⟩:=BX.out;unfold slCells at q0 q1 q2 q3 q4 q5
 go_wp2_with fail
 refine (CC.out _).mono ?_;rintro e w1 ⟨rfl,hb⟩;go_wp2;go_ret;exact⟨rfl,(BB.out _).trans (hb.mono (BB.out _).size)⟩
theorem gTooMany (c:Cf) (size h n:Int) (w:World) (hc:c.In) (hsz:size<=9223372036854775807) :
  Calls Tryz.prog 130 #[cfv c,.int .i64 size,.int .i64 h,.int .i64 n] w fun e w'=>e=.returned (.bool (Gp.manyN c size h n))/\Below w.heap.size w w':=by
 have BX:=aq (CBox.new w c 23);have BB:=aq (fun o=>(Below.refl w.heap.size w).alloc (Nat.le_refl _) o);have CK:=aq (fun W=>kFull c size h n W hc hsz);have V:=aq (Gp.ask_ok c size h n);have U:=aq (show Gp.manyN c size h n=!c.fullV size h n from rfl);have U2:=aq (show c.fullV size h n=(c.okB size h n&&c.manyB size h n) from rfl);rw [U.out];clear U hc;obtain⟨er,her⟩:∃ er,er=c.askE size h n:=⟨_,rfl⟩;rw [<-her] at CK V;obtain⟨b,hb0⟩:∃ b,b=c.fullV size h n:=⟨_,rfl⟩;rw [<-hb0] at CK U2 ⊢;clear her hb0;unfold cfv at CK;unfold cfv;obtain⟨_,c0,c1,c2,c3,c4,c5,c6,c7,c8,_⟩:=BX.out;unfold cfCells at c0 c1 c2 c3 c4 c5 c6 c7 c8
 rcases V.out with⟨rfl,e2⟩ | ⟨e1,e2⟩
 ·clear V e2 U2
  cases b
  all_goals
   go_enter Tryz.func130,Tryz.ntmps130
   go_wp2_with fail
   refine (CK.out _).mono ?_;rintro e w1 ⟨rfl,hb⟩;go_wp2;go_ret;exact⟨rfl,(BB.out _).trans (hb.mono (BB.out _).size)⟩
 ·have k1:(er != 0)=true:=by simp [e1]
  have k2:b=false:=by rw [U2.out,e2];rfl
  subst k2;clear V e2 U2
  go_enter Tryz.func130,Tryz.ntmps130
  go_wp2_with fail
  refine (CK.out _).mono ?_;rintro e w1 ⟨rfl,hb⟩;go_wp2;go_ret;exact⟨rfl,(BB.out _).trans (hb.mono (BB.out _).size)⟩
theorem gTooFew (c:Cf) (size h n:Int) (w:World) (hc:c.In) (hsz:size<=9223372036854775807) :
  Calls Tryz.prog 131 #[cfv c,.int .i64 size,.int .i64 h,.int .i64 n] w fun e w'=>e=.returned (.bool (Gp.fewN c size h n))/\Below w.heap.size w w':=by
 have BX:=aq (CBox.new w c 23);have BB:=aq (fun o=>(Below.refl w.heap.size w).alloc (Nat.le_refl _) o);have CK:=aq (fun W=>kSparse c size h n W hc hsz);have V:=aq (Gp.ask_ok c size h n);have U:=aq (show Gp.fewN c size h n=(c.okB size h n&&!c.fewB size h n) from rfl);have U2:=aq (show c.sparseV size h n=(c.okB size h n&&c.fewB size h n) from rfl);rw [U.out];rw [U2.out] at CK;clear U hc U2;obtain⟨er,her⟩:∃ er,er=c.askE size h n:=⟨_,rfl⟩;rw [<-her] at CK V;obtain⟨b,hb0⟩:∃ b,b=c.fewB size h n:=⟨_,rfl⟩;rw [<-hb0] at CK ⊢;clear her hb0;unfold cfv at CK;unfold cfv;obtain⟨_,c0,c1,c2,c3,c4,c5,c6,c7,c8,_⟩:=BX.out;unfold cfCells at c0 c1 c2 c3 c4 c5 c6 c7 c8
 rcases V.out with⟨rfl,e2⟩ | ⟨e1,e2⟩
 ·rw [e2] at CK ⊢
  clear V e2
  cases b
  all_goals
   go_enter Tryz.func131,Tryz.ntmps131
   go_wp2_with fail
   refine (CK.out _).mono ?_;rintro e w1 ⟨rfl,hb⟩;go_wp2;go_ret;exact⟨rfl,(BB.out _).trans (hb.mono (BB.out _).size)⟩
 ·have k1:(er==0)=false:=by simp [e1]
  rw [e2] at CK ⊢;clear V e2
  go_enter Tryz.func131,Tryz.ntmps131
  go_wp2_with fail
  refine (CK.out _).mono ?_;rintro e w1 ⟨rfl,hb⟩;go_wp2;go_ret;exact⟨rfl,(BB.out _).trans (hb.mono (BB.out _).size)⟩
theorem arow_list {ps:List (Int×Int)} {base:Nat} {w:World} {v:Value} (h:w.ownsRow base 195 2 v ps.length (pcells ps)):∃ A c,v=.slice A ps.length c/\PLst w A ps:=by
 obtain⟨A,c,h1,h2,_⟩:=own_cells h;exact⟨A,c,h1,h2⟩
namespace Gp
def lowF (s:Sl) (ps:List (Int×Int)):Int:=ps.foldl (fun m q=>min m (inV s q.1 q.2)) s.keys.length
def mostF (s:Sl) (ps:List (Int×Int)):Int:=ps.foldl (fun m q=>max m (inV s q.1 q.2)) 0
theorem low_more (s:Sl) (ps:List (Int×Int)) {k:Nat} (h:k < ps.length):lowF s (ps.take (k+1))=min (lowF s (ps.take k)) (inV s (ps.getD k (0,0)).1 (ps.getD k (0,0)).2):=by
 unfold lowF;rw [List.take_succ_eq_append_getElem h,List.foldl_append]
 simp [List.getD,List.getElem?_eq_getElem h]
theorem most_more (s:Sl) (ps:List (Int×Int)) {k:Nat} (h:k < ps.length):mostF s (ps.take (k+1))=max (mostF s (ps.take k)) (inV s (ps.getD k (0,0)).1 (ps.getD k (0,0)).2):=by
 unfold mostF;rw [List.take_succ_eq_append_getElem h,List.foldl_append]
 simp [List.getD,List.getElem?_eq_getElem h]
def levelB (c:Cf) (s:Sl) (h:Nat):Bool:=!manyN c s.keys.length h (mostF s (Wn.row s.seg s.keys.length h))&&!fewN c s.keys.length h (lowF s (Wn.row s.seg s.keys.length h))
def holdsB (c:Cf) (s:Sl):Bool:=c.isB s.keys.length&&(List.range (tall c s+1)).all (levelB c s)
end Gp
theorem gFewest (s:Sl) (a:Ads) (h:Int) (w:World) (hh:Held w s a) (hok:s.Ok) (hs:s.Short) (hk:Wn.askB s.seg s.keys.length h 0=true) :
  Calls Tryz.prog 129 #[slv s a,.int .i64 h] w fun e w'=>e=.returned (.tuple #[.int .i64 (Gp.lowF s (Wn.row s.seg s.keys.length h)),.int .i64 (Gp.mostF s (Wn.row s.seg s.keys.length h))])/\Below w.heap.size w w':=by
 have l2:=hs.keys;have BX:=aq (Box.new w s a 29);have BB:=aq (fun o=>(Below.refl w.heap.size w).alloc (Nat.le_refl _) o);have CR:=aq (fun W=>vRow s.seg s.keys.length h W hok.seg.2 ⟨by omega,by omega⟩);have CI:=aq (fun (q:Int×Int) W (hb:Below w.heap.size w W)=>gPairsIn s a q.1 q.2 W (hh.below hb) hok hs)
 have EA:Wn.askE s.seg s.keys.length h 0=0:=by unfold Wn.askE;rw [hk];rfl
 obtain⟨ps,hps⟩:∃ ps,ps=Wn.row s.seg s.keys.length h:=⟨_,rfl⟩
 have LN:=aq (show ps.length<=65536 by
  obtain⟨hf,_,_,_,_⟩:=Wn.ask_yes hk;obtain⟨H,f⟩:=Wn.fit_of hf;have g4:=Wn.wd_pos f.g1 h;rw [hps];unfold Wn.row;rw [hk,if_pos rfl,List.length_map,List.length_range];have:=Int.ediv_le_self (a:=(s.keys.length:Int)) (Wn.wd s.seg h) (by omega)
  omega)
 rw [EA,<-hps] at CR;rw [<-hps];clear hh hok hs hk EA hps;unfold slv at CI;unfold slv
 go_enter Tryz.func129,Tryz.ntmps129
 obtain⟨_,q0,q1,q2,q3,q4,q5,_⟩:=BX.out;unfold slCells at q0 q1 q2 q3 q4 q5
 go_wp2_with fail
 refine (CR.out _).mono ?_;rintro e w1 ⟨v,rfl,hown,hb⟩;obtain⟨A,cA,rfl,hp⟩:=arow_list hown;have HP:=aq hp;have B1:=aq ((BB.out (.cells (slCells s a) 29)).trans (hb.mono (BB.out _).size));have X1:=aq (BX.out.below hb);clear q0 q1 q2 q3 q4 q5 hown hp hb BX BB CR;have l3:=LN.out;obtain⟨_,q0,q1,q2,q3,q4,q5,_⟩:=X1.out;go_wp2
 go_loopw [4,5,28] (fun f m i wr=>∃ k:Nat,k<=ps.length/\f=.int .i64 (Gp.lowF s (ps.take k))/\m=.int .i64 (Gp.mostF s (ps.take k))/\i=.int .i64 (k:Int)/\Below w1.heap.size w1 wr) (fun _ _ i _=>ps.length-(intOf i).toNat)
 case atStart=>exact⟨0,Nat.zero_le _,rfl,rfl,rfl,Below.refl _ _⟩
 case round =>
  obtain⟨k,hk,rfl,rfl,rfl,hbr⟩:=hrel;clear q0 q1 q2 q3 q4 q5
  by_cases hlt:k < ps.length
  ·have HB:=aq hbr
   have M1:=aq (Gp.low_more s ps hlt);have M2:=aq (Gp.most_more s ps hlt);obtain⟨b,off,hA,hbl,hx,hy⟩:=(HP.out.below hbr).pair hlt;subst hA;obtain⟨q,hq⟩:∃ q,ps.getD k (0,0)=q:=⟨_,rfl⟩;rw [hq] at M1 M2 hx hy;obtain⟨x,y⟩:=q;clear hq
   dsimp only at hx hy M1 M2
   obtain⟨f0,hf0⟩:∃ f0,Gp.lowF s (ps.take k)=f0:=⟨_,rfl⟩;obtain⟨m0,hm0⟩:∃ m0,Gp.mostF s (ps.take k)=m0:=⟨_,rfl⟩;rw [hf0] at M1 ⊢;rw [hm0] at M2 ⊢;clear hf0 hm0
   go_upto_region 8 with (fail)
   obtain⟨W2,hW2⟩:∃ W2,W2=wr.alloc (.cells #[.int .i64 x,.int .i64 y] 195):=⟨_,rfl⟩;have AX:=aq (show W2.cell? ⟨wr.heap.size,0,none⟩=some (.int .i64 x)/\W2.cell? ⟨wr.heap.size,1,none⟩=some (.int .i64 y) by rw [hW2];exact arr_box wr x y 195);have B2:=aq (show Below wr.heap.size wr W2 by rw [hW2];exact (Below.refl _ _).alloc (Nat.le_refl _) _);rw [<-hW2];clear hW2 hx hy hbr;obtain⟨_,q0,q1,q2,q3,q4,q5,_⟩:=(X1.out.below HB.out).below B2.out;obtain⟨x0,x1⟩:=AX.out;have zz:=HB.out.size
   go_wp2_with fail
   refine (CI.out (x,y) _ (B1.out.trans ((HB.out.trans (B2.out.mono zz)).mono B1.out.size))).mono ?_;rintro e w3 ⟨rfl,hb3⟩;have B3:=aq (HB.out.trans ((B2.out.trans (hb3.mono B2.out.size)).mono zz));clear hb3 q0 q1 q2 q3 q4 q5 x0 x1 AX B2 HB;go_wp2
   go_roundw
   case rel=>exact⟨k+1,by omega,by rw [M1.out],by rw [M2.out],by go_num,B3.out⟩
   case measure=>simp [intOf];omega
  ·have hkk:k=ps.length:=by omega
   subst hkk;rw [List.take_length];have HB:=aq hbr;clear hbr hlt hk;go_wp2;go_ret2;exact⟨rfl,B1.out.trans (HB.out.mono B1.out.size)⟩
namespace Gp
theorem level_yes {c:Cf} {s:Sl} {h:Nat} (hl:levelB c s h=true):manyN c s.keys.length h (mostF s (Wn.row s.seg s.keys.length h))=false/\fewN c s.keys.length h (lowF s (Wn.row s.seg s.keys.length h))=false:=by
 unfold levelB at hl;rw [Bool.and_eq_true,Bool.not_eq_true',Bool.not_eq_true'] at hl;exact hl
theorem level_no {c:Cf} {s:Sl} {h:Nat} (hl:levelB c s h=false):manyN c s.keys.length h (mostF s (Wn.row s.seg s.keys.length h))=true∨manyN c s.keys.length h (mostF s (Wn.row s.seg s.keys.length h))=false/\fewN c s.keys.length h (lowF s (Wn.row s.seg s.keys.length h))=true:=by
 unfold levelB at hl
 cases h1:manyN c s.keys.length h (mostF s (Wn.row s.seg s.keys.length h))
 ·right
  rw [h1] at hl
  cases h2:fewN c s.keys.length h (lowF s (Wn.row s.seg s.keys.length h))
  ·rw [h2] at hl;cases hl
  ·exact⟨rfl,rfl⟩
 ·exact Or.inl rfl
end Gp
theorem gHolds (c:Cf) (s:Sl) (a:Ads) (w:World) (hc:c.In) (hh:Held w s a) (hok:s.Ok) (hs:s.Short) (hm:c.mayB=true) (hf:Sl.fitsB s.seg s.keys.length=true) (hsg:s.seg=c.seg) :
  Calls Tryz.prog 83 #[cfv c,slv s a] w fun e w'=>e=.returned (.bool (Gp.holdsB c s))/\Below w.heap.size w w':=by
 have l2:=hs.keys;obtain⟨W0,hW0⟩:∃ W0,W0=(w.alloc (.cells (cfCells c) 23)).alloc (.cells #[.int .i64 s.seg,.slice a.w s.words.length a.cw,.slice a.k s.keys.length a.ck,.slice a.v s.vals.length a.cv,.slice a.c s.counts.length a.cc,.int .u64 (s.laid:Int)] 29):=⟨_,rfl⟩;have BB:=aq (show Below w.heap.size w W0 by rw [hW0];exact ((Below.refl w.heap.size w).alloc (Nat.le_refl _) _).alloc (by simp) _);have BC:=aq (show CBox W0 w.heap.size c by rw [hW0];exact (CBox.new w c 23).below ((Below.refl _ _).alloc (Nat.le_refl _) _));have BX:=aq (show Box W0 (w.heap.size+1) s a by rw [hW0];exact Box.second w _ s a 29);have CK:=aq (fun W=>kHigh c s.keys.length W hc (by omega));have CF:=aq (fun (h:Nat) W (hb:Below w.heap.size w W) (hk:Wn.askB s.seg s.keys.length h 0=true)=>gFewest s a h W (hh.below hb) hok hs hk);have CM:=aq (fun (h n:Int) W=>gTooMany c s.keys.length h n W hc (by omega));have CW:=aq (fun (h n:Int) W=>gTooFew c s.keys.length h n W hc (by omega));have HB:=aq (show Gp.holdsB c s=(c.isB s.keys.length&&(List.range (Gp.tall c s+1)).all (Gp.levelB c s)) from rfl)
 have AK:=aq (show ∀ h:Nat,h<=Gp.tall c s->c.isB s.keys.length=true->Wn.askB s.seg s.keys.length h 0=true from fun h h1 h2=>by
  obtain⟨H,f⟩:=Wn.fit_of hf
  have hH:Gp.tall c s=H:=by unfold Gp.tall Cf.high;rw [<-hsg];have:=f.hH;unfold Wn.high at this;rw [this];simp
  unfold Wn.askB Wn.inB;have s0:=f.s0;have g1:=f.g1;have p1:=Wn.p2_pos H
  have:0 < (s.keys.length:Int):=by
   rw [s0];exact Int.mul_pos (by omega) (by omega)
  rw [hf,f.hH]
  simp
  omega)
 have TH:=aq (show c.isB s.keys.length=true->c.high s.keys.length=(Gp.tall c s:Int)/\Gp.tall c s<=14 from fun h2=>by
  obtain⟨H,f⟩:=Wn.fit_of hf
  have e:c.high s.keys.length=H:=by unfold Cf.high;rw [<-hsg];exact f.hH
  unfold Gp.tall;rw [e];have:=f.h14
  exact⟨by simp,by simpa using this⟩)
 have HE:=aq (show c.highE s.keys.length=(if c.isB s.keys.length then 0 else 2)/\c.highV s.keys.length=(if c.isB s.keys.length then c.high s.keys.length else 0) by unfold Cf.highE Cf.highV;rw [hm];exact⟨rfl,rfl⟩);rw [HE.out.1,HE.out.2] at CK;rw [HB.out];clear hc hh hok hs hm hf hsg HE HB;obtain⟨T,hT⟩:∃ T,T=Gp.tall c s:=⟨_,rfl⟩;rw [<-hT] at AK TH ⊢;clear hT
 cases hi:c.isB s.keys.length
 ·rw [hi] at CK
  clear AK TH hi;unfold cfv at CK;unfold slv cfv
  go_enter Tryz.func83,Tryz.ntmps83
  unfold cfCells at hW0
  go_upto_region 1 with (fail)
  rw [<-hW0];clear hW0;obtain⟨_,c0,c1,c2,c3,c4,c5,c6,c7,c8,_⟩:=BC.out;obtain⟨_,q0,q1,q2,q3,q4,q5,_⟩:=BX.out
  go_wp2_with fail
  refine (CK.out _).mono ?_;rintro e w1 ⟨rfl,hb⟩;go_wp2;go_ret;exact⟨rfl,BB.out.trans (hb.mono BB.out.size)⟩
 ·obtain⟨e1,e2⟩:=TH.out hi
  have AK2:=aq (fun (h:Nat) (hh:h<=T)=>AK.out h hh hi);rw [hi,if_pos rfl,if_pos rfl,e1] at CK;rw [Bool.true_and];clear AK TH hi e1;unfold cfv at CK CM CW;unfold slv at CF;unfold slv cfv
  go_enter Tryz.func83,Tryz.ntmps83
  unfold cfCells at hW0
  go_upto_region 1 with (fail)
  rw [<-hW0];clear hW0;obtain⟨_,c0,c1,c2,c3,c4,c5,c6,c7,c8,_⟩:=BC.out;obtain⟨_,q0,q1,q2,q3,q4,q5,_⟩:=BX.out
  go_wp2_with fail
  refine (CK.out _).mono ?_;rintro e w1 ⟨rfl,hb⟩;have B1:=aq (BB.out.trans (hb.mono BB.out.size));have C1:=aq (BC.out.below hb);have X1:=aq (BX.out.below hb);clear c0 c1 c2 c3 c4 c5 c6 c7 c8 q0 q1 q2 q3 q4 q5 hb BB BC BX CK;go_wp2
  go_loopw [24] (fun i wr=>∃ k:Nat,k<=T+1/\i=.int .i64 (k:Int)/\(∀ h:Nat,h < k->Gp.levelB c s h=true)/\Below w1.heap.size w1 wr) (fun i _=>T+1-(intOf i).toNat)
  case atStart=>exact⟨0,Nat.zero_le _,rfl,fun h hh=>absurd hh (Nat.not_lt_zero _),Below.refl _ _⟩
  case round =>
   obtain⟨k,hk,rfl,hl,hbr⟩:=hrel;have HL:=aq hl;have HB:=aq hbr;clear hl hbr
   by_cases hlt:k<=T
   ·obtain⟨_,c0,c1,c2,c3,c4,c5,c6,c7,c8,_⟩:=C1.out.below HB.out
    obtain⟨_,q0,q1,q2,q3,q4,q5,_⟩:=X1.out.below HB.out;have CF1:=aq (CF.out k wr (B1.out.trans (HB.out.mono B1.out.size)) (AK2.out k hlt));have zz:=HB.out.size;obtain⟨m,hm⟩:∃ m,m=Gp.mostF s (Wn.row s.seg s.keys.length k):=⟨_,rfl⟩;obtain⟨f,hf⟩:∃ f,f=Gp.lowF s (Wn.row s.seg s.keys.length k):=⟨_,rfl⟩
    cases hlv:Gp.levelB c s k
    ·have HN:=aq (show (List.range (T+1)).all (Gp.levelB c s)=false by
      cases hq:(List.range (T+1)).all (Gp.levelB c s)
      ·rfl
      ·rw [List.all_eq_true] at hq
       rw [hq k (List.mem_range.2 (by omega))] at hlv
       cases hlv)
     have LV:=Gp.level_no hlv;rw [<-hm,<-hf] at CF1 LV;clear hm hf hlv
     rcases LV with v1 | ⟨v1,v2⟩
     ·have CM1:=aq (fun W=>CM.out k m W)
      rw [v1] at CM1;clear v1
      go_wp2_with fail
      refine CF1.out.mono ?_;rintro e w3 ⟨rfl,hb3⟩;have B3:=aq (HB.out.trans (hb3.mono zz));clear c0 c1 c2 c3 c4 c5 c6 c7 c8 q0 q1 q2 q3 q4 q5 hb3;obtain⟨_,c0,c1,c2,c3,c4,c5,c6,c7,c8,_⟩:=C1.out.below B3.out
      go_wp2_with fail
      refine (CM1.out _).mono ?_;rintro e w4 ⟨rfl,hb4⟩;have B4:=aq (B3.out.trans (hb4.mono B3.out.size));clear hb4 c0 c1 c2 c3 c4 c5 c6 c7 c8;go_wp2;go_ret;exact⟨by rw [HN.out];rfl,B1.out.trans (B4.out.mono B1.out.size)⟩
     ·have CM1:=aq (fun W=>CM.out k m W)
      have CW1:=aq (fun W=>CW.out k f W);rw [v1] at CM1;rw [v2] at CW1;clear v1 v2
      go_wp2_with fail
      refine CF1.out.mono ?_;rintro e w3 ⟨rfl,hb3⟩;have B3:=aq (HB.out.trans (hb3.mono zz));clear c0 c1 c2 c3 c4 c5 c6 c7 c8 q0 q1 q2 q3 q4 q5 hb3;obtain⟨_,c0,c1,c2,c3,c4,c5,c6,c7,c8,_⟩:=C1.out.below B3.out
      go_wp2_with fail
      refine (CM1.out _).mono ?_;rintro e w4 ⟨rfl,hb4⟩;have B4:=aq (B3.out.trans (hb4.mono B3.out.size));clear hb4 c0 c1 c2 c3 c4 c5 c6 c7 c8;obtain⟨_,c0,c1,c2,c3,c4,c5,c6,c7,c8,_⟩:=C1.out.below B4.out
      go_wp2_with fail
      refine (CW1.out _).mono ?_;rintro e w5 ⟨rfl,hb5⟩;have B5:=aq (B4.out.trans (hb5.mono B4.out.size));clear hb5 c0 c1 c2 c3 c4 c5 c6 c7 c8;go_wp2;go_ret;exact⟨by rw [HN.out];rfl,B1.out.trans (B5.out.mono B1.out.size)⟩
    ·obtain⟨v1,v2⟩:=Gp.level_yes hlv
     have HV:=aq hlv;rw [<-hm,<-hf] at CF1;have CM1:=aq (fun W=>CM.out k m W);have CW1:=aq (fun W=>CW.out k f W);rw [<-hm] at v1;rw [<-hf] at v2;rw [v1] at CM1;rw [v2] at CW1;clear v1 v2 hm hf hlv
     go_wp2_with fail
     refine CF1.out.mono ?_;rintro e w3 ⟨rfl,hb3⟩;have B3:=aq (HB.out.trans (hb3.mono zz));clear c0 c1 c2 c3 c4 c5 c6 c7 c8 q0 q1 q2 q3 q4 q5 hb3;obtain⟨_,c0,c1,c2,c3,c4,c5,c6,c7,c8,_⟩:=C1.out.below B3.out
     go_wp2_with fail
     refine (CM1.out _).mono ?_;rintro e w4 ⟨rfl,hb4⟩;have B4:=aq (B3.out.trans (hb4.mono B3.out.size));clear hb4 c0 c1 c2 c3 c4 c5 c6 c7 c8;obtain⟨_,c0,c1,c2,c3,c4,c5,c6,c7,c8,_⟩:=C1.out.below B4.out
     go_wp2_with fail
     refine (CW1.out _).mono ?_;rintro e w5 ⟨rfl,hb5⟩;have B5:=aq (B4.out.trans (hb5.mono B4.out.size));clear hb5 c0 c1 c2 c3 c4 c5 c6 c7 c8;go_wp2
     go_roundw
     case rel=>exact⟨k+1,by omega,by go_num,fun h hh=>by rcases Nat.lt_or_ge h k with h1 | h1;exact HL.out h h1;rw [show h=k from by omega];exact HV.out,B5.out⟩
     case measure=>simp [intOf];omega
   ·have hkk:k=T+1:=by omega
    have HA:=aq (show (List.range (T+1)).all (Gp.levelB c s)=true by rw [List.all_eq_true];exact fun h hh=>HL.out h (by have:=List.mem_range.1 hh;omega));subst hkk;clear hlt hk;go_wp2;go_ret;exact⟨by rw [HA.out];rfl,B1.out.trans (HB.out.mono B1.out.size)⟩
namespace Gp
theorem in_cnt {s:Sl} (hs:s.May) {x y:Int} (h0:0<=x) (h1:x<=y) (h2:y<=s.keys.length):inV s x y=cnt s x y:=by
 have hc:=hs.chkW;unfold inV Oc.countV Oc.countE cnt
 have h9:¬ (x < 0∨y < x∨(s.keys.length:Int) < y):=by omega
 simp only [if_pos hc,if_neg h9,if_true]
theorem fold_max {α:Type} (f:α->Int):∀ (ps:List α) (m:Int),m<=ps.foldl (fun m q=>max m (f q)) m/\(∀ q∈ps,f q<=ps.foldl (fun m q=>max m (f q)) m)/\(ps.foldl (fun m q=>max m (f q)) m=m∨∃ q∈ps,ps.foldl (fun m q=>max m (f q)) m=f q)
 | [],m=>⟨Int.le_refl _,fun q h=>(by cases h),Or.inl rfl⟩
 | p::ps,m=>by
  obtain⟨h1,h2,h3⟩:=fold_max f ps (max m (f p));rw [List.foldl_cons];refine⟨by omega,fun q hq=>?_,?_⟩
  ·rcases List.mem_cons.1 hq with rfl | hq
   ·omega
   ·exact h2 q hq
  ·rcases h3 with h3 | ⟨q,hq,h3⟩
   ·rcases Int.le_total (f p) m with h4 | h4
    ·left;omega
    ·right;exact⟨p,List.mem_cons_self,by omega⟩
   ·right;exact⟨q,List.mem_cons_of_mem _ hq,h3⟩
theorem fold_min {α:Type} (f:α->Int):∀ (ps:List α) (m:Int),ps.foldl (fun m q=>min m (f q)) m<=m/\(∀ q∈ps,ps.foldl (fun m q=>min m (f q)) m<=f q)/\(ps.foldl (fun m q=>min m (f q)) m=m∨∃ q∈ps,ps.foldl (fun m q=>min m (f q)) m=f q)
 | [],m=>⟨Int.le_refl _,fun q h=>(by cases h),Or.inl rfl⟩
 | p::ps,m=>by
  obtain⟨h1,h2,h3⟩:=fold_min f ps (min m (f p));rw [List.foldl_cons];refine⟨by omega,fun q hq=>?_,?_⟩
  ·rcases List.mem_cons.1 hq with rfl | hq
   ·omega
   ·exact h2 q hq
  ·rcases h3 with h3 | ⟨q,hq,h3⟩
   ·rcases Int.le_total m (f p) with h4 | h4
    ·left;omega
    ·right;exact⟨p,List.mem_cons_self,by omega⟩
   ·right;exact⟨q,List.mem_cons_of_mem _ hq,h3⟩
theorem Cap.ok_yes {c:Cf} {n H:Nat} (K:Cap c n H) {h:Nat} (hh:h<=H) {m:Int} (h0:0<=m) (h1:m<=c.wide h):c.okB n h m=true:=(Cf.ok_iff c n h m).2 (K.ok hh h0 h1)
theorem row_win {c:Cf} {s:Sl} {H:Nat} (K:Cap c s.keys.length H) (hs:s.May) {h k:Nat} (hh:h<=H) (hk:k < rowN c s h):inV s ((k:Int)*c.wide h) ((k:Int)*c.wide h+c.wide h)=cnt s ((k:Int)*c.wide h) ((k:Int)*c.wide h+c.wide h)/\0<=cnt s ((k:Int)*c.wide h) ((k:Int)*c.wide h+c.wide h)/\cnt s ((k:Int)*c.wide h) ((k:Int)*c.wide h+c.wide h)<=c.wide h:=by
 have hw:=K.wpos h;have h0:0<=(k:Int)*c.wide h:=Int.mul_nonneg (by omega) (by omega)
 have h2:(k:Int)*c.wide h+c.wide h<=s.keys.length:=by
  unfold rowN at hk;have h1:0<=(s.keys.length:Int)/c.wide h:=Int.ediv_nonneg (by omega) (by omega);have h2:=(Int.le_ediv_iff_mul_le (a:=(k:Int)+1) (b:=(s.keys.length:Int)) (c:=c.wide h) (by omega)).1 (by omega);rw [Int.add_mul,Int.one_mul] at h2;exact h2
 have h3:=cnt_le s h0 (show (k:Int)*c.wide h<=(k:Int)*c.wide h+c.wide h by omega);exact⟨in_cnt hs h0 (by omega) h2,cnt_nn _ _ _,by omega⟩
theorem level_row {c:Cf} {s:Sl} {H:Nat} (K:Cap c s.keys.length H) (hs:s.May) (hsg:s.seg=c.seg) {h:Nat} (hh:h<=H):levelB c s h=rowB c s h (rowN c s h):=by
 have hw:=K.wpos h;have hwl:=K.wide_le hh
 have hn:0 < rowN c s h:=by
  unfold rowN;have:=(Int.le_ediv_iff_mul_le (a:=1) (b:=(s.keys.length:Int)) (c:=c.wide h) (by omega)).2 (by omega)
  omega
 have hk:Wn.askB s.seg s.keys.length h 0=true:=by
  unfold Wn.askB Wn.inB;rw [hs.fits,hsg,K.fit.hH]
  simp
  omega
 have er:Wn.row s.seg s.keys.length h=(List.range (rowN c s h)).map fun k:Nat=>((k:Int)*c.wide h,(k:Int)*c.wide h+c.wide h):=by
  unfold Wn.row;rw [hk,if_pos rfl,hsg]
  rfl
 obtain⟨ps,hps⟩:∃ ps,ps=Wn.row s.seg s.keys.length h:=⟨_,rfl⟩
 have mem:∀ q,q∈ps↔∃ k:Nat,k < rowN c s h/\((k:Int)*c.wide h,(k:Int)*c.wide h+c.wide h)=q:=fun q=>by
  rw [hps,er,List.mem_map]
  simp only [List.mem_range]
 obtain⟨m1,m2,m3⟩:=fold_max (fun q:Int×Int=>inV s q.1 q.2) ps 0;obtain⟨l1,l2,l3⟩:=fold_min (fun q:Int×Int=>inV s q.1 q.2) ps s.keys.length;have M:mostF s ps=ps.foldl (fun m q=>max m (inV s q.1 q.2)) 0:=rfl;have L:lowF s ps=ps.foldl (fun m q=>min m (inV s q.1 q.2)) s.keys.length:=rfl;rw [<-M] at m1 m2 m3;rw [<-L] at l1 l2 l3;have q0:=(mem _).2 ⟨0,hn,rfl⟩;have w0:=row_win K hs hh hn
 have M1:mostF s ps<=c.wide h:=by
  rcases m3 with e | ⟨q,hq,e⟩
  ·omega
  ·obtain⟨k,hk,rfl⟩:=(mem q).1 hq
   have:=row_win K hs hh hk
   dsimp only at e
   omega
 have L0:0<=lowF s ps:=by
  rcases l3 with e | ⟨q,hq,e⟩
  ·omega
  ·obtain⟨k,hk,rfl⟩:=(mem q).1 hq
   have:=row_win K hs hh hk
   dsimp only at e
   omega
 have L1:lowF s ps<=c.wide h:=by
  have:=l2 _ q0
  dsimp only at this
  omega
 have lv:levelB c s h=true↔c.manyB s.keys.length h (mostF s ps)=true/\c.fewB s.keys.length h (lowF s ps)=true:=by
  unfold levelB manyN fewN Cf.fullV;rw [<-hps,K.ok_yes hh m1 M1,K.ok_yes hh L0 L1]
  simp
 rw [Bool.eq_iff_iff,lv];unfold rowB;rw [List.all_eq_true]
 simp only [List.mem_range]
 constructor
 ·rintro⟨h1,h2⟩ k hk
  have W:=row_win K hs hh hk;have a1:=m2 _ ((mem _).2 ⟨k,hk,rfl⟩);have a2:=l2 _ ((mem _).2 ⟨k,hk,rfl⟩)
  dsimp only at a1 a2
  unfold rightB;rw [Bool.and_eq_true];exact⟨many_mono K.den K.nn (by omega) h1,few_mono K.den K.nn (by omega) h2⟩
 ·intro h9
  have r:∀ k:Nat,k < rowN c s h->c.manyB s.keys.length h (cnt s ((k:Int)*c.wide h) ((k:Int)*c.wide h+c.wide h))=true/\c.fewB s.keys.length h (cnt s ((k:Int)*c.wide h) ((k:Int)*c.wide h+c.wide h))=true:=fun k hk=>by
   have:=h9 k hk;unfold rightB at this
   rwa [Bool.and_eq_true] at this
  constructor
  ·rcases m3 with e | ⟨q,hq,e⟩
   ·exact many_mono K.den K.nn (by omega) (r 0 hn).1
   ·obtain⟨k,hk,rfl⟩:=(mem q).1 hq
    have:=row_win K hs hh hk
    dsimp only at e
    rw [e,this.1];exact (r k hk).1
  ·rcases l3 with e | ⟨q,hq,e⟩
   ·exact few_mono K.den K.nn (by omega) (r 0 hn).2
   ·obtain⟨k,hk,rfl⟩:=(mem q).1 hq
    have:=row_win K hs hh hk
    dsimp only at e
    rw [e,this.1];exact (r k hk).2
theorem holds_dense {c:Cf} {s:Sl} (hm:c.mayB=true) (hs:s.May) (hsg:s.seg=c.seg):holdsB c s=(c.isB s.keys.length&&denseB c s (tall c s+1)):=by
 unfold holdsB
 cases hi:c.isB s.keys.length
 ·rfl
 ·obtain⟨H,K⟩:=cap_of ((Cf.may_iff c).1 hm) ((Cf.is_iff c _).1 hi)
  have ht:tall c s=H:=by unfold tall;exact K.tall
  rw [Bool.true_and,Bool.true_and,ht,Bool.eq_iff_iff];unfold denseB;rw [List.all_eq_true,List.all_eq_true]
  simp only [List.mem_range]
  exact⟨fun h9 h hh=>by rw [<-level_row K hs hsg (by omega)];exact h9 h hh,fun h9 h hh=>by rw [level_row K hs hsg (by omega)];exact h9 h hh⟩
theorem many_in {s:Sl} (hs:s.May):inV s 0 s.keys.length=many s:=in_cnt hs (by omega) (by omega) (by omega)
theorem chk_parts {c:Cf} {s:Sl} (hm:c.mayB=true):(¬ s.chk=0/\chkE c s=8)∨(s.chk=0/\s.May/\((¬ s.seg=c.seg/\chkE c s=8)∨(s.seg=c.seg/\((c.most < inV s 0 s.keys.length/\chkE c s=8)∨(inV s 0 s.keys.length<=c.most/\chkE c s=if holdsB c s then 0 else 8))))):=by
 unfold chkE ownB Sl.chk;rw [hm]
 cases hq:s.mayB
 ·left;simp
 ·right
  have hs:=may_iff.1 hq;refine⟨by simp,hs,?_⟩
  by_cases hg:s.seg=c.seg
  ·right
   refine⟨hg,?_⟩;rw [many_in hs]
   by_cases hl:many s<=c.most
   ·right
    refine⟨hl,?_⟩;rw [holds_dense hm hs hg]
    simp [hg,hl]
   ·left
    refine⟨by omega,?_⟩
    simp [hl]
  ·left
   refine⟨hg,?_⟩
   simp [hg]
end Gp
end Go.Proofs.YtpeckljoannolaaGreatDoor

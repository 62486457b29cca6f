/- What part of layer 9's law package returns: the window that is spread where a pair is put, or was taken. -/
import Derived.Test.YthaaapfnheocjaaGreatDoorTkGc
import Derived.Test.YthaaapfnheocjaaGreatDoorP9fGc
import Derived.Test.YthaaapfnheocjaaGreatDoorConfJGc
set_option linter.unusedVariables false
set_option linter.unusedSimpArgs false
set_option maxHeartbeats 8000000
set_option maxRecDepth 100000
namespace Go.Proofs.YthaaapfnheocjaaGreatDoor
open Go.RowKit
theorem plst_lt {W:World} {b:Nat} {ps:List (Int×Int)} (h:PLst W (some ⟨b,0,none⟩) ps) (h0:0 < ps.length):b < W.heap.size:=by
 obtain⟨b',off',hA,hb,_⟩:=h.pair (i:=0) h0
 injection hA with hA
 injection hA with h1 h2
 subst h1;exact hb
namespace Gp
def partR (c:Cf) (H x:Nat) (g more:Int):Int×Int×Bool :=
 if g=H then (0,0,false) else if g < 0/\more=0 then ((x:Int),(x:Int),true) else (lo c (g+1) x,hi c (g+1) x,true)
theorem part_top (c:Cf) (H x:Nat) (more:Int):partR c H x (H:Int) more=(0,0,false):=by unfold partR;rw [if_pos rfl]
theorem part_mid (c:Cf) (H x:Nat) (more:Int) {m:Nat} (h:m < H):partR c H x (m:Int) more=(lo c ((m+1:Nat):Int) x,hi c ((m+1:Nat):Int) x,true):=by
 unfold partR;rw [if_neg (by omega),if_neg (by omega)]
 rfl
theorem part_none_put (c:Cf) (H x:Nat):partR c H x (-1) 1=(lo c ((0:Nat):Int) x,hi c ((0:Nat):Int) x,true):=by
 unfold partR;rw [if_neg (by omega),if_neg (by omega)]
 rfl
theorem part_none_take (c:Cf) (H x:Nat):partR c H x (-1) 0=((x:Int),(x:Int),true):=by
 unfold partR;rw [if_neg (by omega),if_pos (by omega)]
theorem count_win {c:Cf} {s:Sl} {H:Nat} (K:Cap c s.keys.length H) (hM:s.May) {x:Nat} (hx:x < s.keys.length) {m:Nat} (hm:m<=H) :
  Oc.countV s.words s.keys.length (lo c m x) (hi c m x)=cnt s (lo c m x) (hi c m x)/\Oc.countE s.words s.keys.length (lo c m x) (hi c m x)=0:=by
 obtain⟨e1,_,_⟩:=win_in K hM hx hm;obtain⟨q,w1,w2,w3,w4,w5,w6⟩:=win_of K hm hx
 have e2:Oc.countE s.words s.keys.length (lo c m x) (hi c m x)=0:=by unfold Oc.countE;rw [if_pos hM.chkW,if_neg (by omega)]
 exact⟨e1,e2⟩
theorem ask_win {c:Cf} {s:Sl} {H:Nat} (K:Cap c s.keys.length H) (hM:s.May) {x:Nat} (hx:x < s.keys.length) {m:Nat} (hm:m<=H) :
  0<=cnt s (lo c m x) (hi c m x)/\cnt s (lo c m x) (hi c m x)<=65536/\c.sparseV s.keys.length m (cnt s (lo c m x) (hi c m x))=c.fewB s.keys.length m (cnt s (lo c m x) (hi c m x))/\c.askE s.keys.length m (cnt s (lo c m x) (hi c m x))=0 /\
  ((c.askE s.keys.length m (cnt s (lo c m x) (hi c m x)+1)=0/\c.fullV s.keys.length m (cnt s (lo c m x) (hi c m x)+1)=c.manyB s.keys.length m (cnt s (lo c m x) (hi c m x)+1))∨(¬ c.askE s.keys.length m (cnt s (lo c m x) (hi c m x)+1)=0/\c.fullV s.keys.length m (cnt s (lo c m x) (hi c m x)+1)=false/\c.manyB s.keys.length m (cnt s (lo c m x) (hi c m x)+1)=false)):=by
 obtain⟨e1,e2,e3⟩:=win_in K hM hx hm;have hw:=K.wide_le hm;have hmany:=hM.many;have ok:=K.ok_yes hm e2 e3;refine⟨e2,by omega,by unfold Cf.sparseV;rw [ok,Bool.true_and],?_,?_⟩
 ·rcases ask_ok c s.keys.length m (cnt s (lo c m x) (hi c m x)) with⟨h,_⟩ | ⟨_,h⟩
  ·exact h
  ·rw [ok] at h;cases h
 ·rcases ask_ok c s.keys.length m (cnt s (lo c m x) (hi c m x)+1) with⟨h,h2⟩ | ⟨h,h2⟩
  ·exact Or.inl ⟨h,by unfold Cf.fullV;rw [h2,Bool.true_and]⟩
  ·refine Or.inr ⟨h,by unfold Cf.fullV;rw [h2,Bool.false_and],?_⟩
   cases hb:c.manyB s.keys.length m (cnt s (lo c m x) (hi c m x)+1)
   ·rfl
   ·have:=K.ok_yes hm (by omega) (many_room K hm hb)
    rw [this] at h2
    cases h2
theorem over_some {c:Cf} {s:Sl} {H x k:Nat} (K:Cap c s.keys.length H) (hk:k<=H) (h1:overP c s x k=true) (h2:∀ j,k < j->j<=H->overP c s x j=false):over c s x=(k:Int):=by
 unfold over
 have ht:tall c s=H:=by unfold tall;exact K.tall
 rw [ht];exact top_some (H+1) k (by omega) h1 fun j h3 h4=>h2 j h3 (by omega)
theorem over_none {c:Cf} {s:Sl} {H x:Nat} (K:Cap c s.keys.length H) (h:∀ j,j<=H->overP c s x j=false):over c s x=-1:=by
 unfold over
 have ht:tall c s=H:=by unfold tall;exact K.tall
 rw [ht];exact top_none (H+1) fun j h3=>h j (by omega)
theorem under_some {c:Cf} {s:Sl} {H x k:Nat} (K:Cap c s.keys.length H) (hk:k<=H) (h1:underP c s x k=true) (h2:∀ j,k < j->j<=H->underP c s x j=false):under c s x=(k:Int):=by
 unfold under
 have ht:tall c s=H:=by unfold tall;exact K.tall
 rw [ht];exact top_some (H+1) k (by omega) h1 fun j h3 h4=>h2 j h3 (by omega)
theorem under_none {c:Cf} {s:Sl} {H x:Nat} (K:Cap c s.keys.length H) (h:∀ j,j<=H->underP c s x j=false):under c s x=-1:=by
 unfold under
 have ht:tall c s=H:=by unfold tall;exact K.tall
 rw [ht];exact top_none (H+1) fun j h3=>h j (by omega)
end Gp
def PartPutJ (c:Cf) (s:Sl) (H x:Nat) (W1:World) (r0 r1 r2 h:Value) (wr:World):Prop:=∃ k:Nat,k<=H+1/\h=.int .i64 ((k:Int)-1)/\(∀ j:Nat,k<=j->j<=H->Gp.overP c s x j=false)/\Below W1.heap.size W1 wr
theorem l9PartPut (c:Cf) (s:Sl) (a:Ads) (H x:Nat) (w:World) (hc:c.In) (h:Held w s a) (hok:s.Ok) (hs:s.Short) (hT:Tab w) (hM:s.May) (K:Gp.Cap c s.keys.length H) (hx:x < s.keys.length) :
  Calls Tryz.prog 22 #[cfv c,slv s a,.int .i64 (x:Int),.int .i64 1] w fun e w'=>e=.returned (.tuple #[.int .i64 (Gp.partR c H x (Gp.over c s x) 1).1,.int .i64 (Gp.partR c H x (Gp.over c s x) 1).2.1,.bool (Gp.partR c H x (Gp.over c s x) 1).2.2])/\Below w.heap.size w w':=by
 have l2:=hs.keys;have h14:=K.fit.h14;obtain⟨pe,P⟩:=pth_of K hx
 have CP:=aq (show ∀ W,Calls Tryz.prog 46 #[.int .i64 c.seg,.int .i64 (s.keys.length:Int),.int .i64 (x:Int)] W (WRow (Wn.path c.seg s.keys.length x) 0 W) from fun W=>by
  have q:=vPath c.seg s.keys.length x W hc.seg.2 ⟨by omega,by omega⟩;rw [pe] at q
  exact q)
 obtain⟨ps,hps⟩:∃ ps,ps=Wn.path c.seg s.keys.length x:=⟨_,rfl⟩;rw [<-hps] at CP P;clear hps pe;have hl:=P.len;have PP:=aq P
 have CC:=aq (show ∀ m:Nat,m<=H->∀ W,Below w.heap.size w W->Calls Tryz.prog 23 #[.slice a.w s.words.length a.cw,.int .i64 s.keys.length,.int .i64 (Gp.lo c m x),.int .i64 (Gp.hi c m x)] W fun e w'=>e=.returned (.tuple #[.int .i64 (Gp.cnt s (Gp.lo c m x) (Gp.hi c m x)),.int .i64 0])/\Below W.heap.size W w' from fun m hm W hb=>by
  have q:=oCount a.w a.cw s.words s.keys.length (Gp.lo c m x) (Gp.hi c m x) W (h.below hb).words hok.words hs.words;obtain⟨e1,e2⟩:=Gp.count_win K hM hx hm;rw [e1,e2] at q
  exact q)
 have CF:=aq (fun (m:Nat) (n:Int) W=>kFull c s.keys.length m n W hc (by omega));have CS:=aq (fun (m:Nat) (n:Int) W=>kSparse c s.keys.length m n W hc (by omega));have AY:=aq (fun (m:Nat) (hm:m<=H)=>Gp.ask_win (s:=s) K hM hx hm);have TS:=aq (fun (k:Nat) h1 h2=>Gp.over_some (s:=s) (x:=x) (k:=k) K h1 h2);have TN:=aq (Gp.over_none (s:=s) (x:=x) K);have BB0:=aq (fun o o'=>((Below.refl w.heap.size w).alloc (Nat.le_refl _) o).alloc (by simp) o');have BC0:=aq (fun o=>(CBox.new w c 32).below ((Below.refl _ _).alloc (Nat.le_refl _) o));have BX0:=aq (Box.second w (.cells (cfCells c) 32) s a 27);obtain⟨g,hg⟩:∃ g,g=Gp.over c s x:=⟨_,rfl⟩;rw [<-hg] at TS TN ⊢;clear h hok hs hT hc hg P;unfold cfCells at BC0 BX0;unfold slCells at BX0;unfold cfv at CF CS;unfold slv cfv
 go_enter Tryz.func22,Tryz.ntmps22
 go_upto_region 1 with (fail)
 obtain⟨W0,hW0⟩:∃ W0,W0=(w.alloc (.cells #[.int .u8 c.tag,.int .i64 c.most,.int .i64 c.seg,.int .i64 c.least,.int .i64 c.den,.int .i64 c.ll,.int .i64 c.rl,.int .i64 c.rh,.int .i64 c.lh] 32)).alloc (.cells #[.int .i64 s.seg,.slice a.w s.words.length a.cw,.slice a.k s.keys.length a.ck,.slice a.v s.vals.length a.cv,.slice a.c s.counts.length a.cc,.int .u64 (s.laid:Int)] 27):=⟨_,rfl⟩;have BB:=aq (show Below w.heap.size w W0 by rw [hW0];exact BB0.out _ _);have BC:=aq (show CBox W0 w.heap.size c by rw [hW0];exact BC0.out _);have BX:=aq (show Box W0 (w.heap.size+1) s a by rw [hW0];exact BX0.out);rw [<-hW0];clear hW0 BB0 BC0 BX0;obtain⟨_,c0,c1,c2,c3,c4,c5,c6,c7,c8,_⟩:=BC.out;obtain⟨_,q0,q1,q2,q3,q4,q5,_⟩:=BX.out
 go_wp2_with fail
 refine (CP.out _).mono ?_;rintro e w1 ⟨v,rfl,hr,hb⟩;obtain⟨b,d,rfl,hp⟩:=arow_some hr (by omega);obtain⟨n9,hn9⟩:∃ n9,n9=ps.length:=⟨_,rfl⟩;rw [<-hn9];have HN:=aq (hn9.trans hl)
 have n9b:n9<=65536:=by omega
 clear hn9 hl;have P1:=aq hp;have bw1:b < w1.heap.size:=plst_lt hp (by have:=PP.out.len;omega);replace BB:=aq (BB.out.trans (hb.mono BB.out.size));replace BC:=aq (BC.out.below hb);replace BX:=aq (BX.out.below hb);clear hb hr hp c0 c1 c2 c3 c4 c5 c6 c7 c8 q0 q1 q2 q3 q4 q5
 go_wp2_with fail
 go_loopw [8,9,10,13] (PartPutJ c s H x w1) (fun _ _ _ h _=>(intOf h+1).toNat)
 case atStart=>exact⟨H+1,Nat.le_refl _,by rw [HN.out];first | done | go_num,fun j h1 h2=>by omega,Below.refl _ _⟩
 case round =>
  obtain⟨k,hk,rfl,hno,hbr⟩:=hrel;have BR:=aq hbr;have NO:=aq hno;have bwr:b < wr.heap.size:=Nat.lt_of_lt_of_le bw1 hbr.size;clear hbr hno
  cases k with
  | zero =>
   have hz:=aq (TN.out (fun j hj=>NO.out j (Nat.zero_le _) hj));obtain⟨i0,i1⟩:=PP.out.item (P1.out.below BR.out) (Nat.zero_le H);rw [Nat.zero_mul] at i0 i1;have R:=aq (Gp.part_none_put c H x)
   have j1:(0:Int) < (n9:Int):=by have:=HN.out;omega
   go_wp2
   go_quiet (fail)
   go_wp2
   go_ret3
   rw [hz.out,R.out];exact⟨rfl,below_drewN (BB.out.trans (BR.out.mono BB.out.size)) _⟩
  | succ m =>
   have hm:m<=H:=by omega
   have e0:((m+1:Nat):Int)-1=(m:Int):=by omega
   rw [e0];obtain⟨i0,i1⟩:=PP.out.item (P1.out.below BR.out) hm;have CCm:=aq (CC.out m hm);obtain⟨n0,n1,a1,a2,a3⟩:=AY.out m hm;obtain⟨lo,hlo⟩:∃ z,z=Gp.lo c m x:=⟨_,rfl⟩;obtain⟨hi,hhi⟩:∃ z,z=Gp.hi c m x:=⟨_,rfl⟩;have OV:=aq (show Gp.overP c s x m=!c.manyB s.keys.length m (Gp.cnt s (Gp.lo c m x) (Gp.hi c m x)+1) from rfl);rw [<-hlo,<-hhi] at CCm n0 n1 a1 a2 a3 OV;rw [<-hlo] at i0;rw [<-hhi] at i1;obtain⟨n,hn⟩:∃ n,n=Gp.cnt s lo hi:=⟨_,rfl⟩;rw [<-hn] at CCm n0 n1 a1 a2 a3 OV;clear hlo hhi hn;have CFm:=aq (CF.out m (n+1));have CSm:=aq (CS.out m n);rw [a1,a2] at CSm
   have NX:=aq (show Gp.overP c s x m=false->∀ j:Nat,m<=j->j<=H->Gp.overP c s x j=false from fun h9 j h1 h2=>by
    by_cases e:j=m
    ·subst e;exact h9
    ·exact NO.out j (by omega) h2)
   have TSm:=aq (fun h1=>TS.out m hm h1 (fun j h2 h3=>NO.out j (by omega) h3));clear NO
   have hnm:(m:Int)<=65536:=by omega
   have hn2:n<=65536:=by omega
   obtain⟨fb,hfb⟩:∃ f,f=c.fullV s.keys.length m (n+1):=⟨_,rfl⟩;obtain⟨fe,hfe⟩:∃ f,f=c.askE s.keys.length m (n+1):=⟨_,rfl⟩;rw [<-hfb,<-hfe] at CFm;have MR:=aq (show (fe=0/\fb=c.manyB s.keys.length m (n+1))∨(¬ fe=0/\fb=false/\c.manyB s.keys.length m (n+1)=false) by rw [hfb,hfe];exact a3);clear hfb hfe
   rcases MR.out with⟨h1,h2⟩ | ⟨h1,h2,h3⟩
   ·subst h1
    obtain⟨mb,hmb⟩:∃ mb,mb=c.manyB s.keys.length m (n+1):=⟨_,rfl⟩;rw [<-hmb] at OV h2;subst h2;clear MR hmb a1 a2 a3
    cases fb
    ·have OVm:=aq (show Gp.overP c s x m=true from OV.out)
     clear OV;have TR:=TSm.out OVm.out
     by_cases hH:m=H
     ·have kH:((m:Int)==(n9:Int)-1)=true:=by have:=HN.out;simp;omega
      have kH2:((m:Int)==(H:Int))=true:=by simp;omega
      have G:=aq TR;have R:=aq (show Gp.partR c H x (m:Int) 1=(0,0,false) by rw [hH];exact Gp.part_top c H x 1);clear hH TR TSm NX OVm TS TN;obtain⟨_,c0,c1,c2,c3,c4,c5,c6,c7,c8,_⟩:=BC.out.below BR.out;obtain⟨_,q0,q1,q2,q3,q4,q5,_⟩:=BX.out.below BR.out
      have j8:(0:Int)<=(m:Int):=by omega
      have j9:(m:Int) < (n9:Int):=by have:=HN.out;omega
      have IIk:=aq (show ∀ V,Below wr.heap.size wr V->V.cell? ⟨b,m*2,none⟩=some (.int .i64 lo)/\V.cell? ⟨b,m*2+1,none⟩=some (.int .i64 hi) from fun V q=>⟨(q.cell (p:=⟨b,m*2,none⟩) bwr).trans i0,(q.cell (p:=⟨b,m*2+1,none⟩) bwr).trans i1⟩);clear c0 c1 c2 c3 c4 c5 c6 c7 c8 q0 q1 q2 q3 q4 q5 i0 i1
      go_upto_region 7 with (fail)
      have dr:=(Below.refl wr.heap.size wr).drew;refine wp_region_held_drew (S:=(fun w'=>(w'.cell? ⟨w.heap.size+1,0,none⟩=some (.int .i64 s.seg)/\w'.cell? ⟨w.heap.size+1,1,none⟩=some (.slice a.w s.words.length a.cw)/\w'.cell? ⟨w.heap.size+1,2,none⟩=some (.slice a.k s.keys.length a.ck)/\w'.cell? ⟨w.heap.size+1,3,none⟩=some (.slice a.v s.vals.length a.cv)/\w'.cell? ⟨w.heap.size+1,4,none⟩=some (.slice a.c s.counts.length a.cc)/\w'.cell? ⟨w.heap.size+1,5,none⟩=some (.int .u64 (s.laid:Int)))/\(w'.cell? ⟨b,m*2,none⟩=some (.int .i64 lo)/\w'.cell? ⟨b,m*2+1,none⟩=some (.int .i64 hi))/\Hid (Below wr.heap.size wr w'))) (by kernel_rfl) (⟨((BX.out.below BR.out).below (dr)).cellAt,IIk.out _ (dr),aq (dr)⟩) (fun hHeld=>?_);refine tk 0 ?_;refine tk 1 ?_;refine tk 2 ?_;refine tk 3 ?_;refine tk 4 ?_;refine tk 5 ?_;refine tk 6 ?_;refine tk 7 ?_;refine tk 8 ?_;refine tk 9 ?_;refine tk 10 ?_;refine tk 11 ?_;refine tk 12 ?_;refine tk 13 ?_;refine tk 14 ?_;refine rdH 15 fun K hK=>?_;go_simp;refine (CCm.out _ ((BB.out.trans (BR.out.mono BB.out.size)).trans (hHeld.2.2.out.mono (BB.out.trans (BR.out.mono BB.out.size)).size))).mono ?_;rintro e w2 ⟨rfl,hb2⟩;go_simp;refine hK.out _ _ (by have q:=hHeld.2.2.out.trans (hb2.mono hHeld.2.2.out.size);exact⟨((BX.out.below BR.out).below (q)).cellAt,IIk.out _ (q),aq (q)⟩) (fun hHeldb1=>?_);clear hK K hHeld
      try simp only [sZ]
      refine tk 16 ?_;refine tk 17 ?_;refine tk 18 ?_;refine tk 19 ?_;refine tk 20 ?_;refine wpAnyH_done (by kernel_rfl) ?_ _;have q0':=hHeldb1;have q:=q0'.2.2.out;clear q0' dr IIk;replace BR:=aq (BR.out.trans (q.mono BR.out.size));clear q;obtain⟨_,c0,c1,c2,c3,c4,c5,c6,c7,c8,_⟩:=BC.out.below BR.out;obtain⟨_,q0,q1,q2,q3,q4,q5,_⟩:=BX.out.below BR.out
      go_wp2_with fail
      refine (CFm.out _).mono ?_;rintro e w3 ⟨rfl,hb⟩;replace BR:=aq (BR.out.trans (hb.mono BR.out.size));clear hb c0 c1 c2 c3 c4 c5 c6 c7 c8 q0 q1 q2 q3 q4 q5;obtain⟨_,c0,c1,c2,c3,c4,c5,c6,c7,c8,_⟩:=BC.out.below BR.out;obtain⟨_,q0,q1,q2,q3,q4,q5,_⟩:=BX.out.below BR.out
      go_wp2_with fail
      refine (CSm.out _).mono ?_;rintro e w4 ⟨rfl,hb⟩;replace BR:=aq (BR.out.trans (hb.mono BR.out.size));clear hb c0 c1 c2 c3 c4 c5 c6 c7 c8 q0 q1 q2 q3 q4 q5;go_wp2
      go_ret3
      rw [G.out,R.out];exact⟨rfl,BB.out.trans (BR.out.mono BB.out.size)⟩
     ·have kH:((m:Int)==(n9:Int)-1)=false:=by have:=HN.out;simp;omega
      have kH2:((m:Int)==(H:Int))=false:=by simp;omega
      have G:=aq TR;have R:=aq (Gp.part_mid c H x 1 (m:=m) (by omega))
      have hmH:m+1<=H:=by omega
      clear hH TR TSm NX OVm TS TN;obtain⟨_,c0,c1,c2,c3,c4,c5,c6,c7,c8,_⟩:=BC.out.below BR.out;obtain⟨_,q0,q1,q2,q3,q4,q5,_⟩:=BX.out.below BR.out
      have j8:(0:Int)<=(m:Int):=by omega
      have j9:(m:Int) < (n9:Int):=by have:=HN.out;omega
      have IIk:=aq (show ∀ V,Below wr.heap.size wr V->V.cell? ⟨b,m*2,none⟩=some (.int .i64 lo)/\V.cell? ⟨b,m*2+1,none⟩=some (.int .i64 hi) from fun V q=>⟨(q.cell (p:=⟨b,m*2,none⟩) bwr).trans i0,(q.cell (p:=⟨b,m*2+1,none⟩) bwr).trans i1⟩);clear c0 c1 c2 c3 c4 c5 c6 c7 c8 q0 q1 q2 q3 q4 q5 i0 i1
      go_upto_region 7 with (fail)
      have dr:=(Below.refl wr.heap.size wr).drew;refine wp_region_held_drew (S:=(fun w'=>(w'.cell? ⟨w.heap.size+1,0,none⟩=some (.int .i64 s.seg)/\w'.cell? ⟨w.heap.size+1,1,none⟩=some (.slice a.w s.words.length a.cw)/\w'.cell? ⟨w.heap.size+1,2,none⟩=some (.slice a.k s.keys.length a.ck)/\w'.cell? ⟨w.heap.size+1,3,none⟩=some (.slice a.v s.vals.length a.cv)/\w'.cell? ⟨w.heap.size+1,4,none⟩=some (.slice a.c s.counts.length a.cc)/\w'.cell? ⟨w.heap.size+1,5,none⟩=some (.int .u64 (s.laid:Int)))/\(w'.cell? ⟨b,m*2,none⟩=some (.int .i64 lo)/\w'.cell? ⟨b,m*2+1,none⟩=some (.int .i64 hi))/\Hid (Below wr.heap.size wr w'))) (by kernel_rfl) (⟨((BX.out.below BR.out).below (dr)).cellAt,IIk.out _ (dr),aq (dr)⟩) (fun hHeld=>?_);refine tk 0 ?_;refine tk 1 ?_;refine tk 2 ?_;refine tk 3 ?_;refine tk 4 ?_;refine tk 5 ?_;refine tk 6 ?_;refine tk 7 ?_;refine tk 8 ?_;refine tk 9 ?_;refine tk 10 ?_;refine tk 11 ?_;refine tk 12 ?_;refine tk 13 ?_;refine tk 14 ?_;refine rdH 15 fun K hK=>?_;go_simp;refine (CCm.out _ ((BB.out.trans (BR.out.mono BB.out.size)).trans (hHeld.2.2.out.mono (BB.out.trans (BR.out.mono BB.out.size)).size))).mono ?_;rintro e w2 ⟨rfl,hb2⟩;go_simp;refine hK.out _ _ (by have q:=hHeld.2.2.out.trans (hb2.mono hHeld.2.2.out.size);exact⟨((BX.out.below BR.out).below (q)).cellAt,IIk.out _ (q),aq (q)⟩) (fun hHeldc1=>?_);clear hK K hHeld
      try simp only [sZ]
      refine tk 16 ?_;refine tk 17 ?_;refine tk 18 ?_;refine tk 19 ?_;refine tk 20 ?_;refine wpAnyH_done (by kernel_rfl) ?_ _;have q0':=hHeldc1;have q:=q0'.2.2.out;clear q0' dr IIk;replace BR:=aq (BR.out.trans (q.mono BR.out.size));clear q;obtain⟨_,c0,c1,c2,c3,c4,c5,c6,c7,c8,_⟩:=BC.out.below BR.out;obtain⟨_,q0,q1,q2,q3,q4,q5,_⟩:=BX.out.below BR.out
      go_wp2_with fail
      refine (CFm.out _).mono ?_;rintro e w3 ⟨rfl,hb⟩;replace BR:=aq (BR.out.trans (hb.mono BR.out.size));clear hb c0 c1 c2 c3 c4 c5 c6 c7 c8 q0 q1 q2 q3 q4 q5;obtain⟨_,c0,c1,c2,c3,c4,c5,c6,c7,c8,_⟩:=BC.out.below BR.out;obtain⟨_,q0,q1,q2,q3,q4,q5,_⟩:=BX.out.below BR.out
      go_wp2_with fail
      refine (CSm.out _).mono ?_;rintro e w4 ⟨rfl,hb⟩;replace BR:=aq (BR.out.trans (hb.mono BR.out.size));clear hb c0 c1 c2 c3 c4 c5 c6 c7 c8 q0 q1 q2 q3 q4 q5;obtain⟨i0,i1⟩:=PP.out.item (P1.out.below BR.out) (show m+1<=H by omega)
      have j0:(0:Int)<=(m:Int)+1:=by omega
      have j1:(m:Int)+1 < (n9:Int):=by have:=HN.out;omega
      go_wp2
      go_quiet (fail)
      go_wp2
      go_ret3
      rw [G.out,R.out];exact⟨rfl,below_drewN (BB.out.trans (BR.out.mono BB.out.size)) _⟩
    ·have OVm:=aq (show Gp.overP c s x m=false from OV.out)
     clear OV TSm TS TN;obtain⟨_,c0,c1,c2,c3,c4,c5,c6,c7,c8,_⟩:=BC.out.below BR.out;obtain⟨_,q0,q1,q2,q3,q4,q5,_⟩:=BX.out.below BR.out
     have j8:(0:Int)<=(m:Int):=by omega
     have j9:(m:Int) < (n9:Int):=by have:=HN.out;omega
     have IIk:=aq (show ∀ V,Below wr.heap.size wr V->V.cell? ⟨b,m*2,none⟩=some (.int .i64 lo)/\V.cell? ⟨b,m*2+1,none⟩=some (.int .i64 hi) from fun V q=>⟨(q.cell (p:=⟨b,m*2,none⟩) bwr).trans i0,(q.cell (p:=⟨b,m*2+1,none⟩) bwr).trans i1⟩);clear c0 c1 c2 c3 c4 c5 c6 c7 c8 q0 q1 q2 q3 q4 q5 i0 i1
     go_upto_region 7 with (fail)
     have dr:=(Below.refl wr.heap.size wr).drew;refine wp_region_held_drew (S:=(fun w'=>(w'.cell? ⟨w.heap.size+1,0,none⟩=some (.int .i64 s.seg)/\w'.cell? ⟨w.heap.size+1,1,none⟩=some (.slice a.w s.words.length a.cw)/\w'.cell? ⟨w.heap.size+1,2,none⟩=some (.slice a.k s.keys.length a.ck)/\w'.cell? ⟨w.heap.size+1,3,none⟩=some (.slice a.v s.vals.length a.cv)/\w'.cell? ⟨w.heap.size+1,4,none⟩=some (.slice a.c s.counts.length a.cc)/\w'.cell? ⟨w.heap.size+1,5,none⟩=some (.int .u64 (s.laid:Int)))/\(w'.cell? ⟨b,m*2,none⟩=some (.int .i64 lo)/\w'.cell? ⟨b,m*2+1,none⟩=some (.int .i64 hi))/\Hid (Below wr.heap.size wr w'))) (by kernel_rfl) (⟨((BX.out.below BR.out).below (dr)).cellAt,IIk.out _ (dr),aq (dr)⟩) (fun hHeld=>?_);refine tk 0 ?_;refine tk 1 ?_;refine tk 2 ?_;refine tk 3 ?_;refine tk 4 ?_;refine tk 5 ?_;refine tk 6 ?_;refine tk 7 ?_;refine tk 8 ?_;refine tk 9 ?_;refine tk 10 ?_;refine tk 11 ?_;refine tk 12 ?_;refine tk 13 ?_;refine tk 14 ?_;refine rdH 15 fun K hK=>?_;go_simp;refine (CCm.out _ ((BB.out.trans (BR.out.mono BB.out.size)).trans (hHeld.2.2.out.mono (BB.out.trans (BR.out.mono BB.out.size)).size))).mono ?_;rintro e w2 ⟨rfl,hb2⟩;go_simp;refine hK.out _ _ (by have q:=hHeld.2.2.out.trans (hb2.mono hHeld.2.2.out.size);exact⟨((BX.out.below BR.out).below (q)).cellAt,IIk.out _ (q),aq (q)⟩) (fun hHeldd1=>?_);clear hK K hHeld
     try simp only [sZ]
     refine tk 16 ?_;refine tk 17 ?_;refine tk 18 ?_;refine tk 19 ?_;refine tk 20 ?_;refine wpAnyH_done (by kernel_rfl) ?_ _;have q0':=hHeldd1;have q:=q0'.2.2.out;clear q0' dr IIk;replace BR:=aq (BR.out.trans (q.mono BR.out.size));clear q;obtain⟨_,c0,c1,c2,c3,c4,c5,c6,c7,c8,_⟩:=BC.out.below BR.out;obtain⟨_,q0,q1,q2,q3,q4,q5,_⟩:=BX.out.below BR.out
     go_wp2_with fail
     refine (CFm.out _).mono ?_;rintro e w3 ⟨rfl,hb⟩;replace BR:=aq (BR.out.trans (hb.mono BR.out.size));clear hb c0 c1 c2 c3 c4 c5 c6 c7 c8 q0 q1 q2 q3 q4 q5;obtain⟨_,c0,c1,c2,c3,c4,c5,c6,c7,c8,_⟩:=BC.out.below BR.out;obtain⟨_,q0,q1,q2,q3,q4,q5,_⟩:=BX.out.below BR.out
     go_wp2_with fail
     refine (CSm.out _).mono ?_;rintro e w4 ⟨rfl,hb⟩;replace BR:=aq (BR.out.trans (hb.mono BR.out.size));clear hb c0 c1 c2 c3 c4 c5 c6 c7 c8 q0 q1 q2 q3 q4 q5
     by_cases hH:m=H
     ·have kH:((m:Int)==(n9:Int)-1)=true:=by have:=HN.out;simp;omega
      clear hH;go_wp2;refine⟨⟨m,by omega,by first | rfl | (congr 1;have:=HN.out;simp at kH;omega),NX.out OVm.out,BR.out⟩,?_⟩
      simp [intOf]<;>omega
     ·have kH:((m:Int)==(n9:Int)-1)=false:=by have:=HN.out;simp;omega
      clear hH;go_wp2;refine⟨⟨m,by omega,rfl,NX.out OVm.out,BR.out⟩,?_⟩
      simp [intOf]
   ·subst h2
    have OVm:=aq (show Gp.overP c s x m=true by rw [OV.out,h3];rfl)
    have k9:(fe != 0)=true:=by simp [h1]
    clear MR OV h1 h3 a1 a2 a3;have TR:=TSm.out OVm.out
    by_cases hH:m=H
    ·have kH:((m:Int)==(n9:Int)-1)=true:=by have:=HN.out;simp;omega
     have kH2:((m:Int)==(H:Int))=true:=by simp;omega
     have G:=aq TR;have R:=aq (show Gp.partR c H x (m:Int) 1=(0,0,false) by rw [hH];exact Gp.part_top c H x 1);clear hH TR TSm NX OVm TS TN;obtain⟨_,c0,c1,c2,c3,c4,c5,c6,c7,c8,_⟩:=BC.out.below BR.out;obtain⟨_,q0,q1,q2,q3,q4,q5,_⟩:=BX.out.below BR.out
     have j8:(0:Int)<=(m:Int):=by omega
     have j9:(m:Int) < (n9:Int):=by have:=HN.out;omega
     have IIk:=aq (show ∀ V,Below wr.heap.size wr V->V.cell? ⟨b,m*2,none⟩=some (.int .i64 lo)/\V.cell? ⟨b,m*2+1,none⟩=some (.int .i64 hi) from fun V q=>⟨(q.cell (p:=⟨b,m*2,none⟩) bwr).trans i0,(q.cell (p:=⟨b,m*2+1,none⟩) bwr).trans i1⟩);clear c0 c1 c2 c3 c4 c5 c6 c7 c8 q0 q1 q2 q3 q4 q5 i0 i1
     go_upto_region 7 with (fail)
     have dr:=(Below.refl wr.heap.size wr).drew;refine wp_region_held_drew (S:=(fun w'=>(w'.cell? ⟨w.heap.size+1,0,none⟩=some (.int .i64 s.seg)/\w'.cell? ⟨w.heap.size+1,1,none⟩=some (.slice a.w s.words.length a.cw)/\w'.cell? ⟨w.heap.size+1,2,none⟩=some (.slice a.k s.keys.length a.ck)/\w'.cell? ⟨w.heap.size+1,3,none⟩=some (.slice a.v s.vals.length a.cv)/\w'.cell? ⟨w.heap.size+1,4,none⟩=some (.slice a.c s.counts.length a.cc)/\w'.cell? ⟨w.heap.size+1,5,none⟩=some (.int .u64 (s.laid:Int)))/\(w'.cell? ⟨b,m*2,none⟩=some (.int .i64 lo)/\w'.cell? ⟨b,m*2+1,none⟩=some (.int .i64 hi))/\Hid (Below wr.heap.size wr w'))) (by kernel_rfl) (⟨((BX.out.below BR.out).below (dr)).cellAt,IIk.out _ (dr),aq (dr)⟩) (fun hHeld=>?_);refine tk 0 ?_;refine tk 1 ?_;refine tk 2 ?_;refine tk 3 ?_;refine tk 4 ?_;refine tk 5 ?_;refine tk 6 ?_;refine tk 7 ?_;refine tk 8 ?_;refine tk 9 ?_;refine tk 10 ?_;refine tk 11 ?_;refine tk 12 ?_;refine tk 13 ?_;refine tk 14 ?_;refine rdH 15 fun K hK=>?_;go_simp;refine (CCm.out _ ((BB.out.trans (BR.out.mono BB.out.size)).trans (hHeld.2.2.out.mono (BB.out.trans (BR.out.mono BB.out.size)).size))).mono ?_;rintro e w2 ⟨rfl,hb2⟩;go_simp;refine hK.out _ _ (by have q:=hHeld.2.2.out.trans (hb2.mono hHeld.2.2.out.size);exact⟨((BX.out.below BR.out).below (q)).cellAt,IIk.out _ (q),aq (q)⟩) (fun hHelde1=>?_);clear hK K hHeld
     try simp only [sZ]
     refine tk 16 ?_;refine tk 17 ?_;refine tk 18 ?_;refine tk 19 ?_;refine tk 20 ?_;refine wpAnyH_done (by kernel_rfl) ?_ _;have q0':=hHelde1;have q:=q0'.2.2.out;clear q0' dr IIk;replace BR:=aq (BR.out.trans (q.mono BR.out.size));clear q;obtain⟨_,c0,c1,c2,c3,c4,c5,c6,c7,c8,_⟩:=BC.out.below BR.out;obtain⟨_,q0,q1,q2,q3,q4,q5,_⟩:=BX.out.below BR.out
     go_wp2_with fail
     refine (CFm.out _).mono ?_;rintro e w3 ⟨rfl,hb⟩;replace BR:=aq (BR.out.trans (hb.mono BR.out.size));clear hb c0 c1 c2 c3 c4 c5 c6 c7 c8 q0 q1 q2 q3 q4 q5;obtain⟨_,c0,c1,c2,c3,c4,c5,c6,c7,c8,_⟩:=BC.out.below BR.out;obtain⟨_,q0,q1,q2,q3,q4,q5,_⟩:=BX.out.below BR.out
     go_wp2_with fail
     refine (CSm.out _).mono ?_;rintro e w4 ⟨rfl,hb⟩;replace BR:=aq (BR.out.trans (hb.mono BR.out.size));clear hb c0 c1 c2 c3 c4 c5 c6 c7 c8 q0 q1 q2 q3 q4 q5;go_wp2
     go_ret3
     rw [G.out,R.out];exact⟨rfl,BB.out.trans (BR.out.mono BB.out.size)⟩
    ·have kH:((m:Int)==(n9:Int)-1)=false:=by have:=HN.out;simp;omega
     have kH2:((m:Int)==(H:Int))=false:=by simp;omega
     have G:=aq TR;have R:=aq (Gp.part_mid c H x 1 (m:=m) (by omega))
     have hmH:m+1<=H:=by omega
     clear hH TR TSm NX OVm TS TN;obtain⟨_,c0,c1,c2,c3,c4,c5,c6,c7,c8,_⟩:=BC.out.below BR.out;obtain⟨_,q0,q1,q2,q3,q4,q5,_⟩:=BX.out.below BR.out
     have j8:(0:Int)<=(m:Int):=by omega
     have j9:(m:Int) < (n9:Int):=by have:=HN.out;omega
     have IIk:=aq (show ∀ V,Below wr.heap.size wr V->V.cell? ⟨b,m*2,none⟩=some (.int .i64 lo)/\V.cell? ⟨b,m*2+1,none⟩=some (.int .i64 hi) from fun V q=>⟨(q.cell (p:=⟨b,m*2,none⟩) bwr).trans i0,(q.cell (p:=⟨b,m*2+1,none⟩) bwr).trans i1⟩);clear c0 c1 c2 c3 c4 c5 c6 c7 c8 q0 q1 q2 q3 q4 q5 i0 i1
     go_upto_region 7 with (fail)
     have dr:=(Below.refl wr.heap.size wr).drew;refine wp_region_held_drew (S:=(fun w'=>(w'.cell? ⟨w.heap.size+1,0,none⟩=some (.int .i64 s.seg)/\w'.cell? ⟨w.heap.size+1,1,none⟩=some (.slice a.w s.words.length a.cw)/\w'.cell? ⟨w.heap.size+1,2,none⟩=some (.slice a.k s.keys.length a.ck)/\w'.cell? ⟨w.heap.size+1,3,none⟩=some (.slice a.v s.vals.length a.cv)/\w'.cell? ⟨w.heap.size+1,4,none⟩=some (.slice a.c s.counts.length a.cc)/\w'.cell? ⟨w.heap.size+1,5,none⟩=some (.int .u64 (s.laid:Int)))/\(w'.cell? ⟨b,m*2,none⟩=some (.int .i64 lo)/\w'.cell? ⟨b,m*2+1,none⟩=some (.int .i64 hi))/\Hid (Below wr.heap.size wr w'))) (by kernel_rfl) (⟨((BX.out.below BR.out).below (dr)).cellAt,IIk.out _ (dr),aq (dr)⟩) (fun hHeld=>?_);refine tk 0 ?_;refine tk 1 ?_;refine tk 2 ?_;refine tk 3 ?_;refine tk 4 ?_;refine tk 5 ?_;refine tk 6 ?_;refine tk 7 ?_;refine tk 8 ?_;refine tk 9 ?_;refine tk 10 ?_;refine tk 11 ?_;refine tk 12 ?_;refine tk 13 ?_;refine tk 14 ?_;refine rdH 15 fun K hK=>?_;go_simp;refine (CCm.out _ ((BB.out.trans (BR.out.mono BB.out.size)).trans (hHeld.2.2.out.mono (BB.out.trans (BR.out.mono BB.out.size)).size))).mono ?_;rintro e w2 ⟨rfl,hb2⟩;go_simp;refine hK.out _ _ (by have q:=hHeld.2.2.out.trans (hb2.mono hHeld.2.2.out.size);exact⟨((BX.out.below BR.out).below (q)).cellAt,IIk.out _ (q),aq (q)⟩) (fun hHeldf1=>?_);clear hK K hHeld
     try simp only [sZ]
     refine tk 16 ?_;refine tk 17 ?_;refine tk 18 ?_;refine tk 19 ?_;refine tk 20 ?_;refine wpAnyH_done (by kernel_rfl) ?_ _;have q0':=hHeldf1;have q:=q0'.2.2.out;clear q0' dr IIk;replace BR:=aq (BR.out.trans (q.mono BR.out.size));clear q;obtain⟨_,c0,c1,c2,c3,c4,c5,c6,c7,c8,_⟩:=BC.out.below BR.out;obtain⟨_,q0,q1,q2,q3,q4,q5,_⟩:=BX.out.below BR.out
     go_wp2_with fail
     refine (CFm.out _).mono ?_;rintro e w3 ⟨rfl,hb⟩;replace BR:=aq (BR.out.trans (hb.mono BR.out.size));clear hb c0 c1 c2 c3 c4 c5 c6 c7 c8 q0 q1 q2 q3 q4 q5;obtain⟨_,c0,c1,c2,c3,c4,c5,c6,c7,c8,_⟩:=BC.out.below BR.out;obtain⟨_,q0,q1,q2,q3,q4,q5,_⟩:=BX.out.below BR.out
     go_wp2_with fail
     refine (CSm.out _).mono ?_;rintro e w4 ⟨rfl,hb⟩;replace BR:=aq (BR.out.trans (hb.mono BR.out.size));clear hb c0 c1 c2 c3 c4 c5 c6 c7 c8 q0 q1 q2 q3 q4 q5;obtain⟨i0,i1⟩:=PP.out.item (P1.out.below BR.out) (show m+1<=H by omega)
     have j0:(0:Int)<=(m:Int)+1:=by omega
     have j1:(m:Int)+1 < (n9:Int):=by have:=HN.out;omega
     go_wp2
     go_quiet (fail)
     go_wp2
     go_ret3
     rw [G.out,R.out];exact⟨rfl,below_drewN (BB.out.trans (BR.out.mono BB.out.size)) _⟩
def PartTakeJ (c:Cf) (s:Sl) (H x:Nat) (W1:World) (r0 r1 r2 h:Value) (wr:World):Prop:=∃ k:Nat,k<=H+1/\h=.int .i64 ((k:Int)-1)/\(∀ j:Nat,k<=j->j<=H->Gp.underP c s x j=false)/\Below W1.heap.size W1 wr
theorem l9PartTake (c:Cf) (s:Sl) (a:Ads) (H x:Nat) (w:World) (hc:c.In) (h:Held w s a) (hok:s.Ok) (hs:s.Short) (hT:Tab w) (hM:s.May) (K:Gp.Cap c s.keys.length H) (hx:x < s.keys.length) :
  Calls Tryz.prog 22 #[cfv c,slv s a,.int .i64 (x:Int),.int .i64 0] w fun e w'=>e=.returned (.tuple #[.int .i64 (Gp.partR c H x (Gp.under c s x) 0).1,.int .i64 (Gp.partR c H x (Gp.under c s x) 0).2.1,.bool (Gp.partR c H x (Gp.under c s x) 0).2.2])/\Below w.heap.size w w':=by
 have l2:=hs.keys;have h14:=K.fit.h14;obtain⟨pe,P⟩:=pth_of K hx
 have CP:=aq (show ∀ W,Calls Tryz.prog 46 #[.int .i64 c.seg,.int .i64 (s.keys.length:Int),.int .i64 (x:Int)] W (WRow (Wn.path c.seg s.keys.length x) 0 W) from fun W=>by
  have q:=vPath c.seg s.keys.length x W hc.seg.2 ⟨by omega,by omega⟩;rw [pe] at q
  exact q)
 obtain⟨ps,hps⟩:∃ ps,ps=Wn.path c.seg s.keys.length x:=⟨_,rfl⟩;rw [<-hps] at CP P;clear hps pe;have hl:=P.len;have PP:=aq P
 have CC:=aq (show ∀ m:Nat,m<=H->∀ W,Below w.heap.size w W->Calls Tryz.prog 23 #[.slice a.w s.words.length a.cw,.int .i64 s.keys.length,.int .i64 (Gp.lo c m x),.int .i64 (Gp.hi c m x)] W fun e w'=>e=.returned (.tuple #[.int .i64 (Gp.cnt s (Gp.lo c m x) (Gp.hi c m x)),.int .i64 0])/\Below W.heap.size W w' from fun m hm W hb=>by
  have q:=oCount a.w a.cw s.words s.keys.length (Gp.lo c m x) (Gp.hi c m x) W (h.below hb).words hok.words hs.words;obtain⟨e1,e2⟩:=Gp.count_win K hM hx hm;rw [e1,e2] at q
  exact q)
 have CF:=aq (fun (m:Nat) (n:Int) W=>kFull c s.keys.length m n W hc (by omega));have CS:=aq (fun (m:Nat) (n:Int) W=>kSparse c s.keys.length m n W hc (by omega));have AY:=aq (fun (m:Nat) (hm:m<=H)=>Gp.ask_win (s:=s) K hM hx hm);have TS:=aq (fun (k:Nat) h1 h2=>Gp.under_some (s:=s) (x:=x) (k:=k) K h1 h2);have TN:=aq (Gp.under_none (s:=s) (x:=x) K);have BB0:=aq (fun o o'=>((Below.refl w.heap.size w).alloc (Nat.le_refl _) o).alloc (by simp) o');have BC0:=aq (fun o=>(CBox.new w c 32).below ((Below.refl _ _).alloc (Nat.le_refl _) o));have BX0:=aq (Box.second w (.cells (cfCells c) 32) s a 27);obtain⟨g,hg⟩:∃ g,g=Gp.under c s x:=⟨_,rfl⟩;rw [<-hg] at TS TN ⊢;clear h hok hs hT hc hg P;unfold cfCells at BC0 BX0;unfold slCells at BX0;unfold cfv at CF CS;unfold slv cfv
 go_enter Tryz.func22,Tryz.ntmps22
 go_upto_region 1 with (fail)
 obtain⟨W0,hW0⟩:∃ W0,W0=(w.alloc (.cells #[.int .u8 c.tag,.int .i64 c.most,.int .i64 c.seg,.int .i64 c.least,.int .i64 c.den,.int .i64 c.ll,.int .i64 c.rl,.int .i64 c.rh,.int .i64 c.lh] 32)).alloc (.cells #[.int .i64 s.seg,.slice a.w s.words.length a.cw,.slice a.k s.keys.length a.ck,.slice a.v s.vals.length a.cv,.slice a.c s.counts.length a.cc,.int .u64 (s.laid:Int)] 27):=⟨_,rfl⟩;have BB:=aq (show Below w.heap.size w W0 by rw [hW0];exact BB0.out _ _);have BC:=aq (show CBox W0 w.heap.size c by rw [hW0];exact BC0.out _);have BX:=aq (show Box W0 (w.heap.size+1) s a by rw [hW0];exact BX0.out);rw [<-hW0];clear hW0 BB0 BC0 BX0;obtain⟨_,c0,c1,c2,c3,c4,c5,c6,c7,c8,_⟩:=BC.out;obtain⟨_,q0,q1,q2,q3,q4,q5,_⟩:=BX.out
 go_wp2_with fail
 refine (CP.out _).mono ?_;rintro e w1 ⟨v,rfl,hr,hb⟩;obtain⟨b,d,rfl,hp⟩:=arow_some hr (by omega);obtain⟨n9,hn9⟩:∃ n9,n9=ps.length:=⟨_,rfl⟩;rw [<-hn9];have HN:=aq (hn9.trans hl)
 have n9b:n9<=65536:=by omega
 clear hn9 hl;have P1:=aq hp;have bw1:b < w1.heap.size:=plst_lt hp (by have:=PP.out.len;omega);replace BB:=aq (BB.out.trans (hb.mono BB.out.size));replace BC:=aq (BC.out.below hb);replace BX:=aq (BX.out.below hb);clear hb hr hp c0 c1 c2 c3 c4 c5 c6 c7 c8 q0 q1 q2 q3 q4 q5
 go_wp2_with fail
 go_loopw [8,9,10,13] (PartTakeJ c s H x w1) (fun _ _ _ h _=>(intOf h+1).toNat)
 case atStart=>exact⟨H+1,Nat.le_refl _,by rw [HN.out];first | done | go_num,fun j h1 h2=>by omega,Below.refl _ _⟩
 case round =>
  obtain⟨k,hk,rfl,hno,hbr⟩:=hrel;have BR:=aq hbr;have NO:=aq hno;have bwr:b < wr.heap.size:=Nat.lt_of_lt_of_le bw1 hbr.size;clear hbr hno
  cases k with
  | zero =>
   have hz:=aq (TN.out (fun j hj=>NO.out j (Nat.zero_le _) hj));have R:=aq (Gp.part_none_take c H x);go_wp2
   go_ret3
   rw [hz.out,R.out];exact⟨rfl,BB.out.trans (BR.out.mono BB.out.size)⟩
  | succ m =>
   have hm:m<=H:=by omega
   have e0:((m+1:Nat):Int)-1=(m:Int):=by omega
   rw [e0];obtain⟨i0,i1⟩:=PP.out.item (P1.out.below BR.out) hm;have CCm:=aq (CC.out m hm);obtain⟨n0,n1,a1,a2,a3⟩:=AY.out m hm;obtain⟨lo,hlo⟩:∃ z,z=Gp.lo c m x:=⟨_,rfl⟩;obtain⟨hi,hhi⟩:∃ z,z=Gp.hi c m x:=⟨_,rfl⟩;have OV:=aq (show Gp.underP c s x m=!c.fewB s.keys.length m (Gp.cnt s (Gp.lo c m x) (Gp.hi c m x)) from rfl);rw [<-hlo,<-hhi] at CCm n0 n1 a1 a2 a3 OV;rw [<-hlo] at i0;rw [<-hhi] at i1;obtain⟨n,hn⟩:∃ n,n=Gp.cnt s lo hi:=⟨_,rfl⟩;rw [<-hn] at CCm n0 n1 a1 a2 a3 OV;clear hlo hhi hn;have CFm:=aq (CF.out m (n));have CSm:=aq (CS.out m n);rw [a1,a2] at CSm
   have NX:=aq (show Gp.underP c s x m=false->∀ j:Nat,m<=j->j<=H->Gp.underP c s x j=false from fun h9 j h1 h2=>by
    by_cases e:j=m
    ·subst e;exact h9
    ·exact NO.out j (by omega) h2)
   have TSm:=aq (fun h1=>TS.out m hm h1 (fun j h2 h3=>NO.out j (by omega) h3));clear NO
   have hnm:(m:Int)<=65536:=by omega
   have hn2:n<=65536:=by omega
   obtain⟨fb,hfb⟩:∃ f,f=c.fullV s.keys.length m n:=⟨_,rfl⟩;obtain⟨fe,hfe⟩:∃ f,f=c.askE s.keys.length m n:=⟨_,rfl⟩;rw [<-hfb,<-hfe] at CFm;clear hfb hfe;obtain⟨mb,hmb⟩:∃ mb,mb=c.fewB s.keys.length m n:=⟨_,rfl⟩;rw [<-hmb] at OV CSm;clear hmb a1 a2 a3
   cases mb
   ·have OVm:=aq (show Gp.underP c s x m=true from OV.out)
    clear OV;have TR:=TSm.out OVm.out
    by_cases hH:m=H
    ·have kH:((m:Int)==(n9:Int)-1)=true:=by have:=HN.out;simp;omega
     have kH2:((m:Int)==(H:Int))=true:=by simp;omega
     have G:=aq TR;have R:=aq (show Gp.partR c H x (m:Int) 0=(0,0,false) by rw [hH];exact Gp.part_top c H x 0);clear hH TR TSm NX OVm TS TN;obtain⟨_,c0,c1,c2,c3,c4,c5,c6,c7,c8,_⟩:=BC.out.below BR.out;obtain⟨_,q0,q1,q2,q3,q4,q5,_⟩:=BX.out.below BR.out
     have j8:(0:Int)<=(m:Int):=by omega
     have j9:(m:Int) < (n9:Int):=by have:=HN.out;omega
     have IIk:=aq (show ∀ V,Below wr.heap.size wr V->V.cell? ⟨b,m*2,none⟩=some (.int .i64 lo)/\V.cell? ⟨b,m*2+1,none⟩=some (.int .i64 hi) from fun V q=>⟨(q.cell (p:=⟨b,m*2,none⟩) bwr).trans i0,(q.cell (p:=⟨b,m*2+1,none⟩) bwr).trans i1⟩);clear c0 c1 c2 c3 c4 c5 c6 c7 c8 q0 q1 q2 q3 q4 q5 i0 i1
     go_upto_region 7 with (fail)
     have dr:=(Below.refl wr.heap.size wr).drew;refine wp_region_held_drew (S:=(fun w'=>(w'.cell? ⟨w.heap.size+1,0,none⟩=some (.int .i64 s.seg)/\w'.cell? ⟨w.heap.size+1,1,none⟩=some (.slice a.w s.words.length a.cw)/\w'.cell? ⟨w.heap.size+1,2,none⟩=some (.slice a.k s.keys.length a.ck)/\w'.cell? ⟨w.heap.size+1,3,none⟩=some (.slice a.v s.vals.length a.cv)/\w'.cell? ⟨w.heap.size+1,4,none⟩=some (.slice a.c s.counts.length a.cc)/\w'.cell? ⟨w.heap.size+1,5,none⟩=some (.int .u64 (s.laid:Int)))/\(w'.cell? ⟨b,m*2,none⟩=some (.int .i64 lo)/\w'.cell? ⟨b,m*2+1,none⟩=some (.int .i64 hi))/\Hid (Below wr.heap.size wr w'))) (by kernel_rfl) (⟨((BX.out.below BR.out).below (dr)).cellAt,IIk.out _ (dr),aq (dr)⟩) (fun hHeld=>?_);refine tk 0 ?_;refine tk 1 ?_;refine tk 2 ?_;refine tk 3 ?_;refine tk 4 ?_;refine tk 5 ?_;refine tk 6 ?_;refine tk 7 ?_;refine tk 8 ?_;refine tk 9 ?_;refine tk 10 ?_;refine tk 11 ?_;refine tk 12 ?_;refine tk 13 ?_;refine tk 14 ?_;refine rdH 15 fun K hK=>?_;go_simp;refine (CCm.out _ ((BB.out.trans (BR.out.mono BB.out.size)).trans (hHeld.2.2.out.mono (BB.out.trans (BR.out.mono BB.out.size)).size))).mono ?_;rintro e w2 ⟨rfl,hb2⟩;go_simp;refine hK.out _ _ (by have q:=hHeld.2.2.out.trans (hb2.mono hHeld.2.2.out.size);exact⟨((BX.out.below BR.out).below (q)).cellAt,IIk.out _ (q),aq (q)⟩) (fun hHeldg1=>?_);clear hK K hHeld
     try simp only [sZ]
     refine tk 16 ?_;refine tk 17 ?_;refine tk 18 ?_;refine tk 19 ?_;refine tk 20 ?_;refine wpAnyH_done (by kernel_rfl) ?_ _;have q0':=hHeldg1;have q:=q0'.2.2.out;clear q0' dr IIk;replace BR:=aq (BR.out.trans (q.mono BR.out.size));clear q;obtain⟨_,c0,c1,c2,c3,c4,c5,c6,c7,c8,_⟩:=BC.out.below BR.out;obtain⟨_,q0,q1,q2,q3,q4,q5,_⟩:=BX.out.below BR.out
     go_wp2_with fail
     refine (CFm.out _).mono ?_;rintro e w3 ⟨rfl,hb⟩;replace BR:=aq (BR.out.trans (hb.mono BR.out.size));clear hb c0 c1 c2 c3 c4 c5 c6 c7 c8 q0 q1 q2 q3 q4 q5;obtain⟨_,c0,c1,c2,c3,c4,c5,c6,c7,c8,_⟩:=BC.out.below BR.out;obtain⟨_,q0,q1,q2,q3,q4,q5,_⟩:=BX.out.below BR.out
     go_wp2_with fail
     refine (CSm.out _).mono ?_;rintro e w4 ⟨rfl,hb⟩;replace BR:=aq (BR.out.trans (hb.mono BR.out.size));clear hb c0 c1 c2 c3 c4 c5 c6 c7 c8 q0 q1 q2 q3 q4 q5;go_wp2
     go_ret3
     rw [G.out,R.out];exact⟨rfl,BB.out.trans (BR.out.mono BB.out.size)⟩
    ·have kH:((m:Int)==(n9:Int)-1)=false:=by have:=HN.out;simp;omega
     have kH2:((m:Int)==(H:Int))=false:=by simp;omega
     have G:=aq TR;have R:=aq (Gp.part_mid c H x 0 (m:=m) (by omega))
     have hmH:m+1<=H:=by omega
     clear hH TR TSm NX OVm TS TN;obtain⟨_,c0,c1,c2,c3,c4,c5,c6,c7,c8,_⟩:=BC.out.below BR.out;obtain⟨_,q0,q1,q2,q3,q4,q5,_⟩:=BX.out.below BR.out
     have j8:(0:Int)<=(m:Int):=by omega
     have j9:(m:Int) < (n9:Int):=by have:=HN.out;omega
     have IIk:=aq (show ∀ V,Below wr.heap.size wr V->V.cell? ⟨b,m*2,none⟩=some (.int .i64 lo)/\V.cell? ⟨b,m*2+1,none⟩=some (.int .i64 hi) from fun V q=>⟨(q.cell (p:=⟨b,m*2,none⟩) bwr).trans i0,(q.cell (p:=⟨b,m*2+1,none⟩) bwr).trans i1⟩);clear c0 c1 c2 c3 c4 c5 c6 c7 c8 q0 q1 q2 q3 q4 q5 i0 i1
     go_upto_region 7 with (fail)
     have dr:=(Below.refl wr.heap.size wr).drew;refine wp_region_held_drew (S:=(fun w'=>(w'.cell? ⟨w.heap.size+1,0,none⟩=some (.int .i64 s.seg)/\w'.cell? ⟨w.heap.size+1,1,none⟩=some (.slice a.w s.words.length a.cw)/\w'.cell? ⟨w.heap.size+1,2,none⟩=some (.slice a.k s.keys.length a.ck)/\w'.cell? ⟨w.heap.size+1,3,none⟩=some (.slice a.v s.vals.length a.cv)/\w'.cell? ⟨w.heap.size+1,4,none⟩=some (.slice a.c s.counts.length a.cc)/\w'.cell? ⟨w.heap.size+1,5,none⟩=some (.int .u64 (s.laid:Int)))/\(w'.cell? ⟨b,m*2,none⟩=some (.int .i64 lo)/\w'.cell? ⟨b,m*2+1,none⟩=some (.int .i64 hi))/\Hid (Below wr.heap.size wr w'))) (by kernel_rfl) (⟨((BX.out.below BR.out).below (dr)).cellAt,IIk.out _ (dr),aq (dr)⟩) (fun hHeld=>?_);refine tk 0 ?_;refine tk 1 ?_;refine tk 2 ?_;refine tk 3 ?_;refine tk 4 ?_;refine tk 5 ?_;refine tk 6 ?_;refine tk 7 ?_;refine tk 8 ?_;refine tk 9 ?_;refine tk 10 ?_;refine tk 11 ?_;refine tk 12 ?_;refine tk 13 ?_;refine tk 14 ?_;refine rdH 15 fun K hK=>?_;go_simp;refine (CCm.out _ ((BB.out.trans (BR.out.mono BB.out.size)).trans (hHeld.2.2.out.mono (BB.out.trans (BR.out.mono BB.out.size)).size))).mono ?_;rintro e w2 ⟨rfl,hb2⟩;go_simp;refine hK.out _ _ (by have q:=hHeld.2.2.out.trans (hb2.mono hHeld.2.2.out.size);exact⟨((BX.out.below BR.out).below (q)).cellAt,IIk.out _ (q),aq (q)⟩) (fun hHeldh1=>?_);clear hK K hHeld
     try simp only [sZ]
     refine tk 16 ?_;refine tk 17 ?_;refine tk 18 ?_;refine tk 19 ?_;refine tk 20 ?_;refine wpAnyH_done (by kernel_rfl) ?_ _;have q0':=hHeldh1;have q:=q0'.2.2.out;clear q0' dr IIk;replace BR:=aq (BR.out.trans (q.mono BR.out.size));clear q;obtain⟨_,c0,c1,c2,c3,c4,c5,c6,c7,c8,_⟩:=BC.out.below BR.out;obtain⟨_,q0,q1,q2,q3,q4,q5,_⟩:=BX.out.below BR.out
     go_wp2_with fail
     refine (CFm.out _).mono ?_;rintro e w3 ⟨rfl,hb⟩;replace BR:=aq (BR.out.trans (hb.mono BR.out.size));clear hb c0 c1 c2 c3 c4 c5 c6 c7 c8 q0 q1 q2 q3 q4 q5;obtain⟨_,c0,c1,c2,c3,c4,c5,c6,c7,c8,_⟩:=BC.out.below BR.out;obtain⟨_,q0,q1,q2,q3,q4,q5,_⟩:=BX.out.below BR.out
     go_wp2_with fail
     refine (CSm.out _).mono ?_;rintro e w4 ⟨rfl,hb⟩;replace BR:=aq (BR.out.trans (hb.mono BR.out.size));clear hb c0 c1 c2 c3 c4 c5 c6 c7 c8 q0 q1 q2 q3 q4 q5;obtain⟨i0,i1⟩:=PP.out.item (P1.out.below BR.out) (show m+1<=H by omega)
     have j0:(0:Int)<=(m:Int)+1:=by omega
     have j1:(m:Int)+1 < (n9:Int):=by have:=HN.out;omega
     go_wp2
     go_quiet (fail)
     go_wp2
     go_ret3
     rw [G.out,R.out];exact⟨rfl,below_drewN (BB.out.trans (BR.out.mono BB.out.size)) _⟩
   ·have OVm:=aq (show Gp.underP c s x m=false from OV.out)
    clear OV TSm TS TN;obtain⟨_,c0,c1,c2,c3,c4,c5,c6,c7,c8,_⟩:=BC.out.below BR.out;obtain⟨_,q0,q1,q2,q3,q4,q5,_⟩:=BX.out.below BR.out
    have j8:(0:Int)<=(m:Int):=by omega
    have j9:(m:Int) < (n9:Int):=by have:=HN.out;omega
    have IIk:=aq (show ∀ V,Below wr.heap.size wr V->V.cell? ⟨b,m*2,none⟩=some (.int .i64 lo)/\V.cell? ⟨b,m*2+1,none⟩=some (.int .i64 hi) from fun V q=>⟨(q.cell (p:=⟨b,m*2,none⟩) bwr).trans i0,(q.cell (p:=⟨b,m*2+1,none⟩) bwr).trans i1⟩);clear c0 c1 c2 c3 c4 c5 c6 c7 c8 q0 q1 q2 q3 q4 q5 i0 i1
    go_upto_region 7 with (fail)
    have dr:=(Below.refl wr.heap.size wr).drew;refine wp_region_held_drew (S:=(fun w'=>(w'.cell? ⟨w.heap.size+1,0,none⟩=some (.int .i64 s.seg)/\w'.cell? ⟨w.heap.size+1,1,none⟩=some (.slice a.w s.words.length a.cw)/\w'.cell? ⟨w.heap.size+1,2,none⟩=some (.slice a.k s.keys.length a.ck)/\w'.cell? ⟨w.heap.size+1,3,none⟩=some (.slice a.v s.vals.length a.cv)/\w'.cell? ⟨w.heap.size+1,4,none⟩=some (.slice a.c s.counts.length a.cc)/\w'.cell? ⟨w.heap.size+1,5,none⟩=some (.int .u64 (s.laid:Int)))/\(w'.cell? ⟨b,m*2,none⟩=some (.int .i64 lo)/\w'.cell? ⟨b,m*2+1,none⟩=some (.int .i64 hi))/\Hid (Below wr.heap.size wr w'))) (by kernel_rfl) (⟨((BX.out.below BR.out).below (dr)).cellAt,IIk.out _ (dr),aq (dr)⟩) (fun hHeld=>?_);refine tk 0 ?_;refine tk 1 ?_;refine tk 2 ?_;refine tk 3 ?_;refine tk 4 ?_;refine tk 5 ?_;refine tk 6 ?_;refine tk 7 ?_;refine tk 8 ?_;refine tk 9 ?_;refine tk 10 ?_;refine tk 11 ?_;refine tk 12 ?_;refine tk 13 ?_;refine tk 14 ?_;refine rdH 15 fun K hK=>?_;go_simp;refine (CCm.out _ ((BB.out.trans (BR.out.mono BB.out.size)).trans (hHeld.2.2.out.mono (BB.out.trans (BR.out.mono BB.out.size)).size))).mono ?_;rintro e w2 ⟨rfl,hb2⟩;go_simp;refine hK.out _ _ (by have q:=hHeld.2.2.out.trans (hb2.mono hHeld.2.2.out.size);exact⟨((BX.out.below BR.out).below (q)).cellAt,IIk.out _ (q),aq (q)⟩) (fun hHeldi1=>?_);clear hK K hHeld
    try simp only [sZ]
    refine tk 16 ?_;refine tk 17 ?_;refine tk 18 ?_;refine tk 19 ?_;refine tk 20 ?_;refine wpAnyH_done (by kernel_rfl) ?_ _;have q0':=hHeldi1;have q:=q0'.2.2.out;clear q0' dr IIk;replace BR:=aq (BR.out.trans (q.mono BR.out.size));clear q;obtain⟨_,c0,c1,c2,c3,c4,c5,c6,c7,c8,_⟩:=BC.out.below BR.out;obtain⟨_,q0,q1,q2,q3,q4,q5,_⟩:=BX.out.below BR.out
    go_wp2_with fail
    refine (CFm.out _).mono ?_;rintro e w3 ⟨rfl,hb⟩;replace BR:=aq (BR.out.trans (hb.mono BR.out.size));clear hb c0 c1 c2 c3 c4 c5 c6 c7 c8 q0 q1 q2 q3 q4 q5;obtain⟨_,c0,c1,c2,c3,c4,c5,c6,c7,c8,_⟩:=BC.out.below BR.out;obtain⟨_,q0,q1,q2,q3,q4,q5,_⟩:=BX.out.below BR.out
    go_wp2_with fail
    refine (CSm.out _).mono ?_;rintro e w4 ⟨rfl,hb⟩;replace BR:=aq (BR.out.trans (hb.mono BR.out.size));clear hb c0 c1 c2 c3 c4 c5 c6 c7 c8 q0 q1 q2 q3 q4 q5
    by_cases hH:m=H
    ·have kH:((m:Int)==(n9:Int)-1)=true:=by have:=HN.out;simp;omega
     clear hH;go_wp2;refine⟨⟨m,by omega,by first | rfl | (congr 1;have:=HN.out;simp at kH;omega),NX.out OVm.out,BR.out⟩,?_⟩
     simp [intOf]<;>omega
    ·have kH:((m:Int)==(n9:Int)-1)=false:=by have:=HN.out;simp;omega
     clear hH;go_wp2;refine⟨⟨m,by omega,rfl,NX.out OVm.out,BR.out⟩,?_⟩
     simp [intOf]
end Go.Proofs.YthaaapfnheocjaaGreatDoor

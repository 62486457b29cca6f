/- Package om's closures, and what it lets in and takes out. -/
import Derived.Test.YtpeckljoannolaaGreatDoorS1bOc
import Derived.Test.YtpeckljoannolaaGreatDoorS1aOc
import Derived.Test.YtpeckljoannolaaGreatDoorGapOc
import Derived.Test.YtpeckljoannolaaGreatDoorTkOc
import Derived.Test.YtpeckljoannolaaGreatDoorS1fOc
set_option linter.unusedVariables false
set_option linter.unusedSimpArgs false
set_option maxHeartbeats 8000000
set_option maxRecDepth 100000
namespace Go.Proofs.YtpeckljoannolaaGreatDoor
open Go.RowKit
theorem New.only {X:Nat->Prop} {w W:World} (ho:Only X w W) {k:IntKind} {B:Nat} {a:Option Addr} {zs:List Int} (h:New k w B a zs) (hX:∀ i,X i->i < B):New k W B a zs:=by
 rcases h with h0 | ⟨b,off,h1,hB,h2,h3⟩
 ·exact Or.inl h0
 ·have hb:W.heap[b]?=w.heap[b]?:=ho.block b h2 (fun q=>by have:=hX b q;omega)
  exact Or.inr ⟨b,off,h1,hB,Nat.lt_of_lt_of_le h2 ho.size,fun i hi=>⟨(World.cell?_of_block (a:=⟨b,off+i,none⟩) hb).trans (h3 i hi).1,(World.frozen?_of_block (a:=⟨b,off+i,none⟩) hb).trans (h3 i hi).2⟩⟩
theorem Own.only {X:Nat->Prop} {w W:World} (ho:Only X w W) {B:Nat} {s:Sl} {a:Ads} (h:Own w B s a) (hX:∀ i,X i->i < B):Own W B s a:=⟨h.words.only ho hX,h.keys.only ho hX,h.vals.only ho hX,h.counts.only ho hX,h.caps⟩
theorem OBox.slots {w:World} {b:Nat} {o:Od} {a:Ads} {A:HAds} (h:OBox w b o a A) (s:Sl) (a':Ads):OBox ((((((w.setCell ⟨b,9,none⟩ (.int .i64 s.seg)).setCell ⟨b,10,none⟩ (.slice a'.w s.words.length a'.cw)).setCell ⟨b,11,none⟩ (.slice a'.k s.keys.length a'.ck)).setCell ⟨b,12,none⟩ (.slice a'.v s.vals.length a'.cv)).setCell ⟨b,13,none⟩ (.slice a'.c s.counts.length a'.cc)).setCell ⟨b,14,none⟩ (.int .u64 (s.laid:Int))) b ⟨o.cf,s,o.tb,o.moved⟩ a' A:=by
 obtain⟨T,h⟩:=h;exact⟨T,heap_set (heap_set (heap_set (heap_set (heap_set (heap_set h _) _) _) _) _) _⟩
theorem laid6 (w:World) (b:Nat) (u0 u1 u2 u3 u4 u5:Value):Laid1 w b ((((((w.setCell ⟨b,9,none⟩ u0).setCell ⟨b,10,none⟩ u1).setCell ⟨b,11,none⟩ u2).setCell ⟨b,12,none⟩ u3).setCell ⟨b,13,none⟩ u4).setCell ⟨b,14,none⟩ u5) :=
 (((((Laid1.cell w ⟨b,9,none⟩ u0).trans (Laid1.cell _ ⟨b,10,none⟩ u1)).trans (Laid1.cell _ ⟨b,11,none⟩ u2)).trans (Laid1.cell _ ⟨b,12,none⟩ u3)).trans (Laid1.cell _ ⟨b,13,none⟩ u4)).trans (Laid1.cell _ ⟨b,14,none⟩ u5)
theorem OBox.tab {w:World} {b:Nat} {o:Od} {a:Ads} {A:HAds} (h:OBox w b o a A) (t:Ht) (A':HAds):OBox ((w.setCell ⟨b,15,none⟩ (.slice A'.g t.gens.length A'.cg)).setCell ⟨b,16,none⟩ (.slice A'.a t.ats.length A'.ca)) b ⟨o.cf,o.sl,t,o.moved⟩ a A':=by
 obtain⟨T,h⟩:=h;exact⟨T,heap_set (heap_set h _) _⟩
theorem laid2 (w:World) (b:Nat) (u0 u1:Value):Laid1 w b ((w.setCell ⟨b,15,none⟩ u0).setCell ⟨b,16,none⟩ u1):=(Laid1.cell w ⟨b,15,none⟩ u0).trans (Laid1.cell _ ⟨b,16,none⟩ u1)
theorem Laid1.only {X:Nat->Prop} {w w':World} {g:Nat} (h:Laid1 w g w') (hg:X g):Only X w w':=⟨h.os,h.tape,h.output,by rw [h.size];exact Nat.le_refl _,fun k _ hx=>h.off k (fun e=>hx (e▸hg))⟩
theorem Laid1.held {w w':World} {g B:Nat} {s:Sl} {a:Ads} (h:Laid1 w g w') (hs:Own w B s a) (hg:g < B):Own w' B s a:=⟨h.newB hs.words hg,h.newB hs.keys hg,h.newB hs.vals hg,h.newB hs.counts hg,hs.caps⟩
theorem zs_ge {w:World} {B:Nat} {s:Sl} {a:Ads} (h:Own w B s a) {k:Nat} (hk:ZS s a k):B<=k∨k=0:=by
 have f:∀ {kd:IntKind} {ad:Option Addr} {zs:List Int},New kd w B ad zs->zs≠[]->∀ p,ad=some p->B<=p.block:=fun hn hz p hp=>by
  rcases hn with h0 | ⟨b,off,h1,hB,_⟩
  ·exact absurd h0 hz
  ·rw [hp] at h1;cases h1;exact hB
 rcases hk with⟨hz,p,hp,rfl⟩ | ⟨hz,p,hp,rfl⟩ | ⟨hz,p,hp,rfl⟩ | ⟨hz,p,hp,rfl⟩ | rfl
 ·exact Or.inl (f h.words hz p hp)
 ·exact Or.inl (f h.keys hz p hp)
 ·exact Or.inl (f h.vals hz p hp)
 ·exact Or.inl (f h.counts hz p hp)
 ·exact Or.inr rfl
theorem mLet1 (o:Od) (a:Ads) (A:HAds) (bu bk bh:Nat) (k:Int) (hx:Int×Int) (s:Sl) (sa:Ads) (w:World) (hb:OBox w bu o a A) (hk:Boxed w bk 3 (.int .i64 k)) (hh:PBox w bh hx) (hs:Held w s sa) (hok:s.Ok) (hsh:s.Short) (hT:Tab w) (hc:o.cf.In) (k64:In64 k) (h64:In64 hx.1) :
  Calls Tryz.prog 72 #[slv s sa,.pointer (some ⟨bu,0,none⟩),.pointer (some ⟨bk,0,none⟩),.pointer (some ⟨bh,0,none⟩)] w (Ans (Gp.putS o.cf s k (hx.1,0)) (Gp.putE o.cf s k) w):=by
 have HX:=aq (fun x=>(Box.new w s sa 29).below ((Below.refl _ _).alloc (Nat.le_refl _) x));have HZ:=aq (fun x=>Box.new (w.alloc x) Sl.none adsNone 29);have BB:=aq (fun x y=>((Below.refl w.heap.size w).alloc (Nat.le_refl _) x).alloc (by simp) y);have CP:=aq (fun V (hb:Below w.heap.size w V)=>gPut o.cf s sa k hx.1 0 V hc (hs.below hb) hok hsh (hT.below hb) k64 h64 ⟨by omega,by omega⟩);have bl:=hb.lt;have kl:=hk.lt;have hl:=hh.lt;generalize Gp.putS o.cf s k (hx.1,0)=t at *;generalize Gp.putE o.cf s k=er at *;clear hs hok hsh hT hc k64 h64;unfold slv cfv at CP;unfold slv
 go_enter Tryz.func72,Tryz.ntmps72
 go_upto_region 1 with (fail)
 obtain⟨W0,hW0⟩:∃ W0,W0=(w.alloc (.cells #[.int .i64 s.seg,.slice sa.w s.words.length sa.cw,.slice sa.k s.keys.length sa.ck,.slice sa.v s.vals.length sa.cv,.slice sa.c s.counts.length sa.cc,.int .u64 (s.laid:Int)] 29)).alloc (.cells #[.int .i64 0,.slice none 0 0,.slice none 0 0,.slice none 0 0,.slice none 0 0,.int .u64 0] 29):=⟨_,rfl⟩;have BX:=aq (show Box W0 w.heap.size s sa by rw [hW0];exact HX.out _);have BR:=aq (show Box W0 (w.heap.size+1) Sl.none adsNone by rw [hW0];have:=HZ.out (.cells #[.int .i64 s.seg,.slice sa.w s.words.length sa.cw,.slice sa.k s.keys.length sa.ck,.slice sa.v s.vals.length sa.cv,.slice sa.c s.counts.length sa.cc,.int .u64 (s.laid:Int)] 29);rw [World.size_alloc] at this;exact this);have B0:=aq (show Below w.heap.size w W0 by rw [hW0];exact BB.out _ _)
 have z0:w.heap.size+2<=W0.heap.size:=by rw [hW0];simp
 rw [<-hW0];clear hW0 HX HZ BB;have BU:=aq (hb.below B0.out);have k0:=(boxed_low hk hk.lt B0.out).cell;obtain⟨_,r0,r1,_,_⟩:=hh.below B0.out;obtain⟨_,q0,q1,q2,q3,q4,q5,_⟩:=BX.out;have c0:=BU.out.cells.c0;have c1:=BU.out.cells.c1;have c2:=BU.out.cells.c2;have c3:=BU.out.cells.c3;have c4:=BU.out.cells.c4;have c5:=BU.out.cells.c5;have c6:=BU.out.cells.c6;have c7:=BU.out.cells.c7;have c8:=BU.out.cells.c8;clear hb hk hh
 go_wp2_with fail
 refine (CP.out W0 B0.out).mono ?_;rintro e w1 ⟨a2,rfl,own,hb⟩;replace BR:=aq (BR.out.below hb);replace B0:=aq (B0.out.trans (hb.mono B0.out.size));have FIN:=aq (ans_put6 (r:=w.heap.size+1) own B0.out (by omega) (by omega));clear own hb CP BX BU q0 q1 q2 q3 q4 q5 k0 r0 r1 c0 c1 c2 c3 c4 c5 c6 c7 c8;obtain⟨_,s0,s1,s2,s3,s4,s5,sf⟩:=BR.out;have⟨sf0,sf1,sf2,sf3,sf4,sf5⟩:=sf6 sf;clear sf;unfold slv;go_wp2;refine bodyPost_ret (v:=.tuple #[slv t a2,.int .i64 er]) (by simp [results,Tryz.results72,go_sem,slv,s0,s1,s2,s3,s4,s5,sf0,sf1,sf2,sf3,sf4,sf5]) rfl ?_;exact⟨_,rfl,FIN.out _ _ _ _ _ _⟩
theorem mOut1 (o:Od) (a:Ads) (A:HAds) (bu bk:Nat) (k:Int) (s:Sl) (sa:Ads) (w:World) (hb:OBox w bu o a A) (hk:Boxed w bk 3 (.int .i64 k)) (hs:Held w s sa) (hok:s.Ok) (hsh:s.Short) (hT:Tab w) (hc:o.cf.In) (k64:In64 k) :
  Calls Tryz.prog 105 #[slv s sa,.pointer (some ⟨bu,0,none⟩),.pointer (some ⟨bk,0,none⟩)] w (Ans (Gp.takeS o.cf s k) (Gp.takeE o.cf s k) w):=by
 have HX:=aq (fun x=>(Box.new w s sa 29).below ((Below.refl _ _).alloc (Nat.le_refl _) x));have HZ:=aq (fun x=>Box.new (w.alloc x) Sl.none adsNone 29);have BB:=aq (fun x y=>((Below.refl w.heap.size w).alloc (Nat.le_refl _) x).alloc (by simp) y);have CP:=aq (fun V (hb:Below w.heap.size w V)=>gTake o.cf s sa k V hc (hs.below hb) hok hsh (hT.below hb) k64);have bl:=hb.lt;have kl:=hk.lt
 generalize Gp.takeS o.cf s k=t at *;generalize Gp.takeE o.cf s k=er at *;clear hs hok hsh hT hc k64;unfold slv cfv at CP;unfold slv
 go_enter Tryz.func105,Tryz.ntmps105
 go_upto_region 1 with (fail)
 obtain⟨W0,hW0⟩:∃ W0,W0=(w.alloc (.cells #[.int .i64 s.seg,.slice sa.w s.words.length sa.cw,.slice sa.k s.keys.length sa.ck,.slice sa.v s.vals.length sa.cv,.slice sa.c s.counts.length sa.cc,.int .u64 (s.laid:Int)] 29)).alloc (.cells #[.int .i64 0,.slice none 0 0,.slice none 0 0,.slice none 0 0,.slice none 0 0,.int .u64 0] 29):=⟨_,rfl⟩;have BX:=aq (show Box W0 w.heap.size s sa by rw [hW0];exact HX.out _);have BR:=aq (show Box W0 (w.heap.size+1) Sl.none adsNone by rw [hW0];have:=HZ.out (.cells #[.int .i64 s.seg,.slice sa.w s.words.length sa.cw,.slice sa.k s.keys.length sa.ck,.slice sa.v s.vals.length sa.cv,.slice sa.c s.counts.length sa.cc,.int .u64 (s.laid:Int)] 29);rw [World.size_alloc] at this;exact this);have B0:=aq (show Below w.heap.size w W0 by rw [hW0];exact BB.out _ _)
 have z0:w.heap.size+2<=W0.heap.size:=by rw [hW0];simp
 rw [<-hW0];clear hW0 HX HZ BB;have BU:=aq (hb.below B0.out);have k0:=(boxed_low hk hk.lt B0.out).cell
 obtain⟨_,q0,q1,q2,q3,q4,q5,_⟩:=BX.out;have c0:=BU.out.cells.c0;have c1:=BU.out.cells.c1;have c2:=BU.out.cells.c2;have c3:=BU.out.cells.c3;have c4:=BU.out.cells.c4;have c5:=BU.out.cells.c5;have c6:=BU.out.cells.c6;have c7:=BU.out.cells.c7;have c8:=BU.out.cells.c8;clear hb hk
 go_wp2_with fail
 refine (CP.out W0 B0.out).mono ?_;rintro e w1 ⟨a2,rfl,own,hb⟩;replace BR:=aq (BR.out.below hb);replace B0:=aq (B0.out.trans (hb.mono B0.out.size));have FIN:=aq (ans_put6 (r:=w.heap.size+1) own B0.out (by omega) (by omega));clear own hb CP BX BU q0 q1 q2 q3 q4 q5 k0 c0 c1 c2 c3 c4 c5 c6 c7 c8;obtain⟨_,s0,s1,s2,s3,s4,s5,sf⟩:=BR.out;have⟨sf0,sf1,sf2,sf3,sf4,sf5⟩:=sf6 sf;clear sf;unfold slv;go_wp2;refine bodyPost_ret (v:=.tuple #[slv t a2,.int .i64 er]) (by simp [results,Tryz.results105,go_sem,slv,s0,s1,s2,s3,s4,s5,sf0,sf1,sf2,sf3,sf4,sf5]) rfl ?_;exact⟨_,rfl,FIN.out _ _ _ _ _ _⟩
theorem mTurnLet (o:Od) (a:Ads) (A:HAds) (bu bk bh:Nat) (hx:Int×Int) (X:Sl) (er:Int) (B:Nat) (w:World) (hb:OBox w bu o a A) (ha:New .i64 w B A.a o.tb.ats) (hT:Tab w)
  (hC:∀ V,Below w.heap.size w V->Calls Tryz.prog 72 #[slv o.sl a,.pointer (some ⟨bu,0,none⟩),.pointer (some ⟨bk,0,none⟩),.pointer (some ⟨bh,0,none⟩)] V (Ans X er V))
  (hy:er=0->X.May/\X.Ok/\X.Short/\∀ i,i∈Om.pl X->0<=Om.key X i/\Om.key X i < o.tb.ats.length) (hmv:o.moved < 18446744073709551616)
  (hg:∀ k,MX bu A k->k≠0) (hne:∀ p,A.a=some p->p.block≠bu) (hl:∀ p,A.a=some p->p.block < w.heap.size) :
  Calls Tryz.prog 71 #[.pointer (some ⟨bu,0,none⟩),pv hx,.func (.func 72) #[] #[.pointer (some ⟨bu,0,none⟩),.pointer (some ⟨bk,0,none⟩),.pointer (some ⟨bh,0,none⟩)]] w fun e w'=>e=.returned (.int .i64 er)/\(¬ er=0->Below w.heap.size w w')/\(er=0->∃ a',OBox w' bu (Om.settled o.cf X o.tb o.moved hx.1) a' A/\Own w' w.heap.size X a'/\New .i64 w' B A.a (Om.settled o.cf X o.tb o.moved hx.1).tb.ats/\Only (MX bu A) w w'):=by
 have BU:=aq hb;have AT:=aq ha;have HT:=aq hT;have CC:=aq hC;have HY:=aq hy;have HMV:=aq hmv;have HG:=aq hg;have HNE:=aq hne;have HL:=aq hl;have bl:=hb.lt;have MXL:=aq (show ∀ k,MX bu A k->k < w.heap.size from fun k hk=>by rcases hk with rfl | ⟨p,hp,rfl⟩;exact bl;exact hl p hp);have HP:=aq (PBox.new w hx 39);have BB:=aq (fun x=>(Below.refl w.heap.size w).alloc (Nat.le_refl _) x);clear hb ha hT hC hy hmv hg hne hl;unfold slv at CC;unfold pv
 go_enter Tryz.func71,Tryz.ntmps71
 go_upto_region 1 with (fail)
 obtain⟨W0,hW0⟩:∃ W0,W0=w.alloc (.cells #[.int .i64 hx.1,.int .i64 hx.2] 39):=⟨_,rfl⟩;have B0:=aq (show Below w.heap.size w W0 by rw [hW0];exact BB.out _);have BH:=aq (show PBox W0 w.heap.size hx by rw [hW0];exact HP.out);rw [<-hW0];clear hW0 HP BB;replace BU:=aq (BU.out.below B0.out);replace AT:=aq (AT.out.below B0.out);have c9:=BU.out.cells.c9;have c10:=BU.out.cells.c10;have c11:=BU.out.cells.c11;have c12:=BU.out.cells.c12;have c13:=BU.out.cells.c13;have c14:=BU.out.cells.c14;have z0:=B0.out.size;have zh:=BH.out.lt
 go_wp2_with fail
 refine (CC.out W0 B0.out).mono ?_;rintro e w1 ⟨a1,rfl,own,hb⟩;have z1:=hb.size;have OW:=aq own;replace BU:=aq (BU.out.below hb);replace AT:=aq (AT.out.below hb);replace BH:=aq (BH.out.below hb);replace B0:=aq (B0.out.trans (hb.mono B0.out.size));clear own hb CC c9 c10 c11 c12 c13 c14;unfold slv
 go_upto_region 2 with (fail)
 obtain⟨W2,hW2⟩:∃ W2,W2=w1.alloc (.cells #[.int .i64 X.seg,.slice a1.w X.words.length a1.cw,.slice a1.k X.keys.length a1.ck,.slice a1.v X.vals.length a1.cv,.slice a1.c X.counts.length a1.cc,.int .u64 (X.laid:Int)] 29):=⟨_,rfl⟩
 have hb:Below w1.heap.size w1 W2:=by rw [hW2];exact (Below.refl _ _).alloc (Nat.le_refl _) _
 have BS:=aq (show Box W2 w1.heap.size X a1 by rw [hW2];exact Box.new _ _ _ _);rw [<-hW2];clear hW2;replace BU:=aq (BU.out.below hb);replace AT:=aq (AT.out.below hb);replace BH:=aq (BH.out.below hb);replace OW:=aq (OW.out.below hb);replace B0:=aq (B0.out.trans (hb.mono B0.out.size));have z2:=hb.size;clear hb
 by_cases hk:er=0
 ·have k1:(er != 0)=false:=by simpa using hk
  obtain⟨y1,y2,y3,y4⟩:=HY.out hk;have HK:=aq hk
  have CR:=aq (fun V (h1:OBox V bu ⟨o.cf,X,o.tb,o.moved⟩ a1 A) (h2:Own V W0.heap.size X a1) (h3:New .i64 V B A.a o.tb.ats) (h4:Tab V) (h5:w.heap.size<=V.heap.size)=>mRelabel ⟨o.cf,X,o.tb,o.moved⟩ a1 A bu hx.1 B V h1 h2.held h3 h4 y1 y2 y3 HMV.out y4 (fun k hk h=>by
   have h8:=MXL.out k hk
   rcases zs_ge h2 h with h9 | h9
   ·omega
   ·exact HG.out k hk h9) HNE.out (fun _ p hp=>Nat.lt_of_lt_of_le (HL.out p hp) h5))
  clear hk y1 y2 y3 y4 HY HMV;obtain⟨_,s0,s1,s2,s3,s4,s5,_⟩:=BS.out;have c9:=BU.out.cells.c9;have c10:=BU.out.cells.c10;have c11:=BU.out.cells.c11;have c12:=BU.out.cells.c12;have c13:=BU.out.cells.c13;have c14:=BU.out.cells.c14;have f9:=BU.out.free 9;have f10:=BU.out.free 10;have f11:=BU.out.free 11;have f12:=BU.out.free 12;have f13:=BU.out.free 13;have f14:=BU.out.free 14
  go_upto_region 5 with (fail)
  obtain⟨W3,hW3⟩:∃ W3,W3=((((((W2.setCell ⟨bu,9,none⟩ (.int .i64 X.seg)).setCell ⟨bu,10,none⟩ (.slice a1.w X.words.length a1.cw)).setCell ⟨bu,11,none⟩ (.slice a1.k X.keys.length a1.ck)).setCell ⟨bu,12,none⟩ (.slice a1.v X.vals.length a1.cv)).setCell ⟨bu,13,none⟩ (.slice a1.c X.counts.length a1.cc)).setCell ⟨bu,14,none⟩ (.int .u64 (X.laid:Int))):=⟨_,rfl⟩;have L3:=aq (show Laid1 W2 bu W3 by rw [hW3];exact laid6 _ _ _ _ _ _ _ _);have BU3:=aq (show OBox W3 bu ⟨o.cf,X,o.tb,o.moved⟩ a1 A by rw [hW3];exact BU.out.slots X a1);rw [<-hW3];clear hW3 s0 s1 s2 s3 s4 s5 f9 f10 f11 f12 f13 f14 BU BS c9 c10 c11 c12 c13 c14;have AT3:=aq (L3.out.new AT.out HNE.out);have OW3:=aq (L3.out.held OW.out (by omega));have BH3:=aq (L3.out.pbox BH.out (by omega));have ON3:=aq ((Only.of_below (X:=MX bu A) B0.out).trans (L3.out.only (Or.inl rfl)));have z3:W2.heap.size=W3.heap.size:=L3.out.size.symm;have Z3:=aq z3;clear z3;obtain⟨_,r0,r1,_,_⟩:=BH3.out
  have HT3:=aq (show Tab W3 from by
   have t1:=HT.out.below B0.out;refine⟨by rw [<-Z3.out];exact t1.1,?_⟩;have:=t1.2;unfold TabAt at this ⊢;intro j hj
   exact (L3.out.cells (p:=_) (by exact fun e=>HG.out bu (Or.inl rfl) e.symm)).trans (this j hj))
  go_wp2_with fail
  refine (CR.out W3 BU3.out OW3.out AT3.out HT3.out (by rw [<-Z3.out];omega)).mono ?_;rintro e w4 ⟨rfl,h1,h2,h3⟩;have R1:=aq h1;have R2:=aq h2;have R3:=aq h3;clear h1 h2 h3 CR r0 r1;go_wp2;go_ret;refine⟨by rw [HK.out];rfl,fun h=>absurd HK.out h,fun _=>⟨a1,R1.out,(OW3.out.only R3.out (fun i hi=>by have:=MXL.out i hi;omega)).lower (by omega),R2.out,ON3.out.trans R3.out⟩⟩
 ·have k1:(er != 0)=true:=by simpa using hk
  clear HY;go_wp2;go_ret;exact⟨rfl,fun _=>B0.out,fun h=>absurd h hk⟩
theorem mTurnOut (o:Od) (a:Ads) (A:HAds) (bu bk:Nat) (hx:Int×Int) (X:Sl) (er:Int) (B:Nat) (w:World) (hb:OBox w bu o a A) (ha:New .i64 w B A.a o.tb.ats) (hT:Tab w)
  (hC:∀ V,Below w.heap.size w V->Calls Tryz.prog 105 #[slv o.sl a,.pointer (some ⟨bu,0,none⟩),.pointer (some ⟨bk,0,none⟩)] V (Ans X er V))
  (hy:er=0->X.May/\X.Ok/\X.Short/\∀ i,i∈Om.pl X->0<=Om.key X i/\Om.key X i < o.tb.ats.length) (hmv:o.moved < 18446744073709551616)
  (hg:∀ k,MX bu A k->k≠0) (hne:∀ p,A.a=some p->p.block≠bu) (hl:∀ p,A.a=some p->p.block < w.heap.size) :
  Calls Tryz.prog 71 #[.pointer (some ⟨bu,0,none⟩),pv hx,.func (.func 105) #[] #[.pointer (some ⟨bu,0,none⟩),.pointer (some ⟨bk,0,none⟩)]] w fun e w'=>e=.returned (.int .i64 er)/\(¬ er=0->Below w.heap.size w w')/\(er=0->∃ a',OBox w' bu (Om.settled o.cf X o.tb o.moved hx.1) a' A/\Own w' w.heap.size X a'/\New .i64 w' B A.a (Om.settled o.cf X o.tb o.moved hx.1).tb.ats/\Only (MX bu A) w w'):=by
 have BU:=aq hb;have AT:=aq ha;have HT:=aq hT;have CC:=aq hC;have HY:=aq hy;have HMV:=aq hmv;have HG:=aq hg;have HNE:=aq hne;have HL:=aq hl;have bl:=hb.lt;have MXL:=aq (show ∀ k,MX bu A k->k < w.heap.size from fun k hk=>by rcases hk with rfl | ⟨p,hp,rfl⟩;exact bl;exact hl p hp);have HP:=aq (PBox.new w hx 39);have BB:=aq (fun x=>(Below.refl w.heap.size w).alloc (Nat.le_refl _) x);clear hb ha hT hC hy hmv hg hne hl;unfold slv at CC;unfold pv
 go_enter Tryz.func71,Tryz.ntmps71
 go_upto_region 1 with (fail)
 obtain⟨W0,hW0⟩:∃ W0,W0=w.alloc (.cells #[.int .i64 hx.1,.int .i64 hx.2] 39):=⟨_,rfl⟩;have B0:=aq (show Below w.heap.size w W0 by rw [hW0];exact BB.out _);have BH:=aq (show PBox W0 w.heap.size hx by rw [hW0];exact HP.out);rw [<-hW0];clear hW0 HP BB;replace BU:=aq (BU.out.below B0.out);replace AT:=aq (AT.out.below B0.out);have c9:=BU.out.cells.c9;have c10:=BU.out.cells.c10;have c11:=BU.out.cells.c11;have c12:=BU.out.cells.c12;have c13:=BU.out.cells.c13;have c14:=BU.out.cells.c14;have z0:=B0.out.size;have zh:=BH.out.lt
 go_wp2_with fail
 refine (CC.out W0 B0.out).mono ?_;rintro e w1 ⟨a1,rfl,own,hb⟩;have z1:=hb.size;have OW:=aq own;replace BU:=aq (BU.out.below hb);replace AT:=aq (AT.out.below hb);replace BH:=aq (BH.out.below hb);replace B0:=aq (B0.out.trans (hb.mono B0.out.size));clear own hb CC c9 c10 c11 c12 c13 c14;unfold slv
 go_upto_region 2 with (fail)
 obtain⟨W2,hW2⟩:∃ W2,W2=w1.alloc (.cells #[.int .i64 X.seg,.slice a1.w X.words.length a1.cw,.slice a1.k X.keys.length a1.ck,.slice a1.v X.vals.length a1.cv,.slice a1.c X.counts.length a1.cc,.int .u64 (X.laid:Int)] 29):=⟨_,rfl⟩
 have hb:Below w1.heap.size w1 W2:=by rw [hW2];exact (Below.refl _ _).alloc (Nat.le_refl _) _
 have BS:=aq (show Box W2 w1.heap.size X a1 by rw [hW2];exact Box.new _ _ _ _);rw [<-hW2];clear hW2;replace BU:=aq (BU.out.below hb);replace AT:=aq (AT.out.below hb);replace BH:=aq (BH.out.below hb);replace OW:=aq (OW.out.below hb);replace B0:=aq (B0.out.trans (hb.mono B0.out.size));have z2:=hb.size;clear hb
 by_cases hk:er=0
 ·have k1:(er != 0)=false:=by simpa using hk
  obtain⟨y1,y2,y3,y4⟩:=HY.out hk;have HK:=aq hk
  have CR:=aq (fun V (h1:OBox V bu ⟨o.cf,X,o.tb,o.moved⟩ a1 A) (h2:Own V W0.heap.size X a1) (h3:New .i64 V B A.a o.tb.ats) (h4:Tab V) (h5:w.heap.size<=V.heap.size)=>mRelabel ⟨o.cf,X,o.tb,o.moved⟩ a1 A bu hx.1 B V h1 h2.held h3 h4 y1 y2 y3 HMV.out y4 (fun k hk h=>by
   have h8:=MXL.out k hk
   rcases zs_ge h2 h with h9 | h9
   ·omega
   ·exact HG.out k hk h9) HNE.out (fun _ p hp=>Nat.lt_of_lt_of_le (HL.out p hp) h5))
  clear hk y1 y2 y3 y4 HY HMV;obtain⟨_,s0,s1,s2,s3,s4,s5,_⟩:=BS.out;have c9:=BU.out.cells.c9;have c10:=BU.out.cells.c10;have c11:=BU.out.cells.c11;have c12:=BU.out.cells.c12;have c13:=BU.out.cells.c13;have c14:=BU.out.cells.c14;have f9:=BU.out.free 9;have f10:=BU.out.free 10;have f11:=BU.out.free 11;have f12:=BU.out.free 12;have f13:=BU.out.free 13;have f14:=BU.out.free 14
  go_upto_region 5 with (fail)
  obtain⟨W3,hW3⟩:∃ W3,W3=((((((W2.setCell ⟨bu,9,none⟩ (.int .i64 X.seg)).setCell ⟨bu,10,none⟩ (.slice a1.w X.words.length a1.cw)).setCell ⟨bu,11,none⟩ (.slice a1.k X.keys.length a1.ck)).setCell ⟨bu,12,none⟩ (.slice a1.v X.vals.length a1.cv)).setCell ⟨bu,13,none⟩ (.slice a1.c X.counts.length a1.cc)).setCell ⟨bu,14,none⟩ (.int .u64 (X.laid:Int))):=⟨_,rfl⟩;have L3:=aq (show Laid1 W2 bu W3 by rw [hW3];exact laid6 _ _ _ _ _ _ _ _);have BU3:=aq (show OBox W3 bu ⟨o.cf,X,o.tb,o.moved⟩ a1 A by rw [hW3];exact BU.out.slots X a1);rw [<-hW3];clear hW3 s0 s1 s2 s3 s4 s5 f9 f10 f11 f12 f13 f14 BU BS c9 c10 c11 c12 c13 c14;have AT3:=aq (L3.out.new AT.out HNE.out);have OW3:=aq (L3.out.held OW.out (by omega));have BH3:=aq (L3.out.pbox BH.out (by omega));have ON3:=aq ((Only.of_below (X:=MX bu A) B0.out).trans (L3.out.only (Or.inl rfl)));have z3:W2.heap.size=W3.heap.size:=L3.out.size.symm;have Z3:=aq z3;clear z3;obtain⟨_,r0,r1,_,_⟩:=BH3.out
  have HT3:=aq (show Tab W3 from by
   have t1:=HT.out.below B0.out;refine⟨by rw [<-Z3.out];exact t1.1,?_⟩;have:=t1.2;unfold TabAt at this ⊢;intro j hj
   exact (L3.out.cells (p:=_) (by exact fun e=>HG.out bu (Or.inl rfl) e.symm)).trans (this j hj))
  go_wp2_with fail
  refine (CR.out W3 BU3.out OW3.out AT3.out HT3.out (by rw [<-Z3.out];omega)).mono ?_;rintro e w4 ⟨rfl,h1,h2,h3⟩;have R1:=aq h1;have R2:=aq h2;have R3:=aq h3;clear h1 h2 h3 CR r0 r1;go_wp2;go_ret;refine⟨by rw [HK.out];rfl,fun h=>absurd HK.out h,fun _=>⟨a1,R1.out,(OW3.out.only R3.out (fun i hi=>by have:=MXL.out i hi;omega)).lower (by omega),R2.out,ON3.out.trans R3.out⟩⟩
 ·have k1:(er != 0)=true:=by simpa using hk
  clear HY;go_wp2;go_ret;exact⟨rfl,fun _=>B0.out,fun h=>absurd h hk⟩
theorem OBox.only {X:Nat->Prop} {w W:World} (ho:Only X w W) {b:Nat} {o:Od} {a:Ads} {A:HAds} (h:OBox w b o a A) (hX:¬ X b):OBox W b o a A:=by
 have hl:=h.lt;obtain⟨T,h⟩:=h;exact⟨T,(ho.block b hl hX).trans h⟩
theorem PBox.only {X:Nat->Prop} {w W:World} (ho:Only X w W) {b:Nat} {p:Int×Int} (h:PBox w b p) (hX:¬ X b):PBox W b p:=by
 have hb:W.heap[b]?=w.heap[b]?:=ho.block b h.lt hX;exact⟨Nat.lt_of_lt_of_le h.lt ho.size,(World.cell?_of_block (a:=⟨b,0,none⟩) hb).trans h.c0,(World.cell?_of_block (a:=⟨b,1,none⟩) hb).trans h.c1,(World.frozen?_of_block (a:=⟨b,0,none⟩) hb).trans h.f0,(World.frozen?_of_block (a:=⟨b,1,none⟩) hb).trans h.f1⟩
theorem New.offX {X:Nat->Prop} {w W:World} (ho:Only X w W) {k:IntKind} {B:Nat} {a:Option Addr} {zs:List Int} (h:New k w B a zs) (hX:zs≠[]->∀ p,a=some p->B<=p.block->¬ X p.block):New k W B a zs:=by
 by_cases hz:zs=[]
 ·exact Or.inl hz
 ·rcases h with h0 | ⟨b,off,h1,hB,h2,h3⟩
  ·exact Or.inl h0
  ·have hb:W.heap[b]?=w.heap[b]?:=ho.block b h2 (hX hz _ h1 hB)
   exact Or.inr ⟨b,off,h1,hB,Nat.lt_of_lt_of_le h2 ho.size,fun i hi=>⟨(World.cell?_of_block (a:=⟨b,off+i,none⟩) hb).trans (h3 i hi).1,(World.frozen?_of_block (a:=⟨b,off+i,none⟩) hb).trans (h3 i hi).2⟩⟩
theorem HOwn.settled {w W:World} {B b:Nat} {t:Ht} {A:HAds} {zs:List Int} (h:HOwn w B t A) (ho:Only (MX b A) w W) (hb:b < B) (hne:t.ats≠[]) (hl:zs.length=t.ats.length) (ha:New .i64 W B A.a zs):HOwn W B ⟨t.gens,zs⟩ A:=by
 have hs:=h.sep;refine⟨h.gens.offX ho (fun hz p hp hB hx=>?_),ha,⟨h.caps.g0,fun e=>?_,h.caps.g1,?_⟩,?_⟩
 ·rcases hx with hx | ⟨q,hq,hx⟩
  ·omega
  ·rcases hs with hs | hs | hs
   ·exact hz hs
   ·exact hne hs
   ·exact hs p q hp hq hx
 ·have:=h.caps.a0 e
  exact⟨by show zs.length=0;rw [hl];exact this.1,this.2⟩
 ·show zs.length<=_
  rw [hl];exact h.caps.a1
 ·rcases hs with hs | hs | hs
  ·exact Or.inl hs
  ·exact absurd hs hne
  ·exact Or.inr (Or.inr hs)
theorem own_at {w:World} {B:Nat} {a:Option Addr} {zs:List Int} (h:New .i64 w B a zs) (hne:zs≠[]):∀ p,a=some p->B<=p.block/\p.block < w.heap.size:=fun p hp=>by
 rcases h with h0 | ⟨b,off,h1,hB,h2,_⟩
 ·exact absurd h0 hne
 ·rw [hp] at h1;cases h1;exact⟨hB,h2⟩
namespace Om
theorem put_in {o:Od} (F:Fit o) (hf:Hn.fullB o.tb=false) {k:Nat} (hk:k<=(hands o).length):Gp.putE o.cf o.sl k=inE o:=by
 have hm:(k:Int)<=Gp.many o.sl:=by rw [many_pl,<-hands_len o];omega
 unfold Gp.putE inE;rw [if_pos F.gap,if_pos ⟨by omega,hm⟩]
 by_cases h:Gp.many o.sl=o.cf.most
 ·rw [if_pos h,if_pos (Or.inl h)]
 ·rw [if_neg h,if_neg (fun q=>q.elim h (fun q=>by rw [hf] at q;cases q))]
theorem given_some {t:Ht} (hm:Hn.May t) (p:Int):(Hn.given t p).ats≠[]:=by
 intro h;have h1:=congrArg List.length h;unfold Hn.given at h1
 split at h1
 ·rename_i hl
  rw [List.length_set] at h1;have:=hm.len
  simp at h1
  rw [h1] at this
  simp at this
  omega
 ·simp at h1
theorem out_not {o:Od} (F:Fit o) (hok:o.Ok) {h:Int×Int} (hi:ix h (hands o) < (hands o).length):¬ h.1∈ks (Gp.takeS o.cf o.sl (ix h (hands o))):=by
 obtain⟨his,hkey,hat⟩:=hand_is F hi;obtain⟨k,hk⟩:∃ k,ix h (hands o)=k:=⟨_,rfl⟩
 have hkl:k < (ks o.sl).length:=by rw [ks_len,<-hands_len o];omega
 have ht:Gp.takeE o.cf o.sl k=0:=by
  unfold Gp.takeE;rw [if_pos F.gap,if_pos ⟨by omega,by rw [many_pl,<-ks_len];omega⟩]
 have ha:=take_pairs hok.sl ht
 have hks:ks (Gp.takeS o.cf o.sl k)=(ks o.sl).take k++(ks o.sl).drop (k+1):=by
  rw [ks_all,ha,ks_all,List.map_append,List.map_take,List.map_drop]
 have hkk:(ks o.sl)[k]=h.1:=by
  rw [hkey,hk]
  have hkp:k < (pl o.sl).length:=by rw [<-ks_len];exact hkl
  rw [show (pl o.sl).getD k 0=(pl o.sl)[k] by simp [List.getD,List.getElem?_eq_getElem hkp]];unfold ks;exact List.getElem_map _
 have hnd:(ks o.sl).Nodup:=ks_nodup F
 have e:ks o.sl=(ks o.sl).take k++h.1::(ks o.sl).drop (k+1):=by
  rw [<-hkk,<-drop_get hkl,List.take_append_drop]
 rw [hk,hks];rw [e] at hnd;obtain⟨_,b,c⟩:=List.nodup_append.1 hnd;obtain⟨b1,_⟩:=List.nodup_cons.1 b;intro hm
 rcases List.mem_append.1 hm with hm | hm
 ·exact c _ hm _ (List.mem_cons_self ..) rfl
 ·exact b1 hm
theorem settle_but (s:Sl) (b c:Int):∀ (l:List Nat) (r:List Int×Nat),(∀ i,i∈l->key s i≠b/\key s i≠c)->settle s b l r=settle s c l r
 | [],_,_=>rfl
 | i::l,r,h=>by
  obtain⟨h1,h2⟩:=h i (List.mem_cons_self ..)
  show settle s b l _=settle s c l _
  have e:(if r.1.getD (key s i).toNat 0≠i/\key s i≠b then (r.2+1) % 18446744073709551616 else r.2)=(if r.1.getD (key s i).toNat 0≠i/\key s i≠c then (r.2+1) % 18446744073709551616 else r.2):=by
   by_cases q:r.1.getD (key s i).toNat 0≠i
   ·rw [if_pos ⟨q,h1⟩,if_pos ⟨q,h2⟩]
   ·rw [if_neg (fun z=>q z.1),if_neg (fun z=>q z.1)]
  rw [e];exact settle_but s b c l _ (fun j hj=>h j (List.mem_cons_of_mem _ hj))
theorem out_is {o:Od} (F:Fit o) (hok:o.Ok) {h:Int×Int} (hi:ix h (hands o) < (hands o).length):outO o h=settled o.cf (Gp.takeS o.cf o.sl (ix h (hands o))) (Hn.back o.tb h.1.toNat) o.moved h.1:=by
 have hn:=out_not F hok hi;have I:=(out_ok F hok hi).fit;unfold outO settled;rw [settle_but _ (-1) h.1 _ _ (fun i hi'=>⟨by have:=(I.fine i hi').2.1;show Om.key _ i≠-1;intro e;have h2:(0:Int)<=key (Gp.takeS o.cf o.sl (ix h (hands o))) i:=this;omega,fun e=>hn (by rw [<-e];exact List.mem_map.2 ⟨i,hi',rfl⟩)⟩)]
def inV (o:Od) (k:Nat):Od:=if inE o=0 then inO o k else Od.zero
def inH (o:Od):Int×Int:=if inE o=0 then Hn.hnd o.tb else (0,0)
theorem put_says {o:Od} (F:Fit o) (hin:o.In) {k:Nat} (hk:k<=(hands o).length) (e:inE o=0) :
  let X:=Gp.putS o.cf o.sl k ((Hn.hnd o.tb).1,0)
  X.May/\X.Ok/\X.Short/\∀ i,i∈pl X->0<=key X i/\key X i < (Hn.given o.tb 0).ats.length:=by
 have hp:=in_put F e hk;have hfr:=Hn.free_le o.tb;have hmm:=F.may.most;have fi:=Gp.put_fine hin.ok.sl hin.short.sl k (c:=o.cf) (p:=((Hn.hnd o.tb).1,0)) ⟨by show (-9223372036854775808:Int)<=((Hn.free o.tb:Nat):Int);omega,by show ((Hn.free o.tb:Nat):Int)<=9223372036854775807;omega⟩ ⟨by show (-9223372036854775808:Int)<=0;omega,by show (0:Int)<=9223372036854775807;omega⟩;have I:=(in_ok F hin.ok e hk).fit;refine⟨gap_may (Gp.put_chk hin.ok.sl hp),fi.ok,fi.short,fun i hi=>?_⟩;obtain⟨_,h1,h2,_⟩:=I.fine i hi;have:(inO o k).tb.ats.length=(Hn.given o.tb 0).ats.length:=settle_len _ _ _ _;rw [this] at h2;exact⟨h1,h2⟩
theorem take_says {o:Od} (F:Fit o) (hin:o.In) {h:Int×Int} (hi:ix h (hands o) < (hands o).length) :
  let X:=Gp.takeS o.cf o.sl (ix h (hands o))
  Gp.takeE o.cf o.sl (ix h (hands o))=0/\X.May/\X.Ok/\X.Short/\∀ i,i∈pl X->0<=key X i/\key X i < (Hn.back o.tb h.1.toNat).ats.length:=by
 have ht:Gp.takeE o.cf o.sl (ix h (hands o))=0:=by
  unfold Gp.takeE;rw [if_pos F.gap,if_pos ⟨by omega,by rw [many_pl,<-hands_len o];omega⟩]
 have fi:=Gp.take_fine (c:=o.cf) hin.ok.sl hin.short.sl (ix h (hands o));have I:=(out_ok F hin.ok hi).fit;refine⟨ht,gap_may (Gp.take_chk hin.ok.sl ht),fi.ok,fi.short,fun i hi'=>?_⟩;obtain⟨_,h1,h2,_⟩:=I.fine i hi';have:(outO o h).tb.ats.length=(Hn.back o.tb h.1.toNat).ats.length:=settle_len _ _ _ _;rw [this] at h2;exact⟨h1,h2⟩
end Om
theorem mLetIn (o:Od) (a:Ads) (A:HAds) (k:Nat) (w:World) (h:OHeld w o a A) (hin:o.In) (hT:Tab w) (F:Om.Fit o) (hk:k<=(Om.hands o).length) :
  Calls Tryz.prog 39 #[odv o a A,.int .i64 (k:Int)] w (OAns3 (Om.inV o k) (Om.inH o) (Om.inE o) w):=by
 have k16:k<=65536:=by
  have h1:=Oc.places_length_le o.sl.words 0 o.sl.keys.length;have h2:(Om.pl o.sl).length=(Oc.places o.sl.words 0 o.sl.keys.length).length:=rfl;have h3:=hin.short.sl.keys;rw [Om.hands_len] at hk
  omega
 have HU:=aq (fun x y z=>(((OBox.new w o a A 77).below ((Below.refl _ _).alloc (Nat.le_refl _) x)).below ((Below.refl _ _).alloc (Nat.le_refl _) y)).below ((Below.refl _ _).alloc (Nat.le_refl _) z));have HK:=aq (fun x y z=>((Boxed.new (w.alloc x) 3 (.int .i64 (k:Int))).alloc y).alloc z);have HR:=aq (fun x y z=>(OBox.new ((w.alloc x).alloc y) Od.zero adsNone hNone 33).below ((Below.refl _ _).alloc (Nat.le_refl _) z));have HQ:=aq (fun x y z=>PBox.new (((w.alloc x).alloc y).alloc z) (0,0) 39);have BB:=aq (fun x y z u=>((((Below.refl w.heap.size w).alloc (Nat.le_refl _) x).alloc (by simp) y).alloc (by simp;omega) z).alloc (by simp;omega) u);have CM:=aq (fun V (hb:Below w.heap.size w V)=>hMake o.tb A 0 V (h.below hb).tb hin.ok.tb hin.short.tb ⟨by omega,by omega⟩);have HH:=aq h;have HIN:=aq hin;have HT:=aq hT;have HF:=aq F;have HKL:=aq hk;have tg:=hT.1;clear h hin hT F hk;unfold hv at CM;unfold odv
 go_enter Tryz.func39,Tryz.ntmps39
 go_wp2_with fail
 obtain⟨W0,hW0⟩:∃ W0,W0=(((w.alloc (.cells (odCells o a A) 77)).alloc (.cells #[.int .i64 (k:Int)] 3)).alloc (.cells #[.int .u8 0,.int .i64 0,.int .i64 0,.int .i64 0,.int .i64 0,.int .i64 0,.int .i64 0,.int .i64 0,.int .i64 0,.int .i64 0,.slice none 0 0,.slice none 0 0,.slice none 0 0,.slice none 0 0,.int .u64 0,.slice none 0 0,.slice none 0 0,.int .u64 0] 33)).alloc (.cells #[.int .i64 0,.int .i64 0] 39):=⟨_,rfl⟩;have BU:=aq (show OBox W0 w.heap.size o a A by rw [hW0];exact HU.out _ _ _);have BK:=aq (show Boxed W0 (w.heap.size+1) 3 (.int .i64 (k:Int)) by rw [hW0];have:=HK.out (.cells (odCells o a A) 77) (.cells #[.int .u8 0,.int .i64 0,.int .i64 0,.int .i64 0,.int .i64 0,.int .i64 0,.int .i64 0,.int .i64 0,.int .i64 0,.int .i64 0,.slice none 0 0,.slice none 0 0,.slice none 0 0,.slice none 0 0,.int .u64 0,.slice none 0 0,.slice none 0 0,.int .u64 0] 33) (.cells #[.int .i64 0,.int .i64 0] 39);rw [World.size_alloc] at this;exact this);have BR:=aq (show OBox W0 (w.heap.size+1+1) Od.zero adsNone hNone by rw [hW0];have:=HR.out (.cells (odCells o a A) 77) (.cells #[.int .i64 (k:Int)] 3) (.cells #[.int .i64 0,.int .i64 0] 39);rw [World.size_alloc,World.size_alloc] at this;exact this);have BQ:=aq (show PBox W0 (w.heap.size+1+1+1) (0,0) by rw [hW0];have:=HQ.out (.cells (odCells o a A) 77) (.cells #[.int .i64 (k:Int)] 3) (.cells #[.int .u8 0,.int .i64 0,.int .i64 0,.int .i64 0,.int .i64 0,.int .i64 0,.int .i64 0,.int .i64 0,.int .i64 0,.int .i64 0,.slice none 0 0,.slice none 0 0,.slice none 0 0,.slice none 0 0,.int .u64 0,.slice none 0 0,.slice none 0 0,.int .u64 0] 33);rw [World.size_alloc,World.size_alloc,World.size_alloc] at this;exact this)
 have B0:=aq (show Below w.heap.size w W0 by rw [hW0];exact BB.out _ _ _ _)
 have z0:w.heap.size+4<=W0.heap.size:=by rw [hW0];simp
 rw [<-hW0];clear hW0 HU HK HR HQ BB;refine wp_scope_on 0 rfl ?_
 go_upto_region 3 with (fail)
 obtain⟨W1,hW1⟩:∃ W1,W1=W0.alloc (.cells #[.int .i64 0,.int .i64 0] 39):=⟨_,rfl⟩
 have hb:Below W0.heap.size W0 W1:=by rw [hW1];exact (Below.refl _ _).alloc (Nat.le_refl _) _
 have BH:=aq (show PBox W1 W0.heap.size (0,0) by rw [hW1];exact PBox.new W0 (0,0) 39)
 have z1:W0.heap.size+1<=W1.heap.size:=by rw [hW1];simp
 rw [<-hW1];clear hW1;replace BU:=aq (BU.out.below hb);replace BR:=aq (BR.out.below hb);replace BQ:=aq (BQ.out.below hb);replace B0:=aq (B0.out.trans (hb.mono B0.out.size));replace BK:=aq (boxed_low BK.out BK.out.lt hb);clear hb;have c15:=BU.out.cells.c15;have c16:=BU.out.cells.c16;have f15:=BU.out.free 15;have f16:=BU.out.free 16;obtain⟨_,r0,r1,rf0,rf1⟩:=BH.out
 dsimp only at r0 r1
 go_wp2_with fail
 refine (CM.out W1 B0.out).mono ?_;rintro e w2 ⟨A1,rfl,own,hb⟩;have z2:=hb.size;have OW:=aq own;replace BU:=aq (BU.out.below hb);replace BR:=aq (BR.out.below hb);replace BQ:=aq (BQ.out.below hb);replace BH:=aq (BH.out.below hb);replace B0:=aq (B0.out.trans (hb.mono B0.out.size));replace BK:=aq (boxed_low BK.out BK.out.lt hb);clear own hb CM c15 c16 f15 f16 r0 r1 rf0 rf1;unfold hv pv;have f15:=BU.out.free 15;have f16:=BU.out.free 16;have c15:=BU.out.cells.c15;have c16:=BU.out.cells.c16;obtain⟨_,r0,r1,rf0,rf1⟩:=BH.out
 dsimp only at r0 r1
 go_upto_region 4 with (fail)
 obtain⟨t,ht⟩:∃ t,t=Hn.makeV o.tb 0:=⟨_,rfl⟩;obtain⟨hd,hhd⟩:∃ hd,hd=Hn.makeH o.tb 0:=⟨_,rfl⟩;rw [<-ht] at OW;rw [<-ht,<-hhd];have HTT:=aq ht;have HHD:=aq hhd;clear ht hhd;obtain⟨W3,hW3⟩:∃ W3,W3=wput2 ((w2.setCell ⟨w.heap.size,15,none⟩ (.slice A1.g t.gens.length A1.cg)).setCell ⟨w.heap.size,16,none⟩ (.slice A1.a t.ats.length A1.ca)) W0.heap.size (.int .i64 hd.1) (.int .i64 hd.2):=⟨_,rfl⟩;obtain⟨V3,hV3⟩:∃ V3,V3=(w2.setCell ⟨w.heap.size,15,none⟩ (.slice A1.g t.gens.length A1.cg)).setCell ⟨w.heap.size,16,none⟩ (.slice A1.a t.ats.length A1.ca):=⟨_,rfl⟩;have L3:=aq (show Laid1 w2 w.heap.size V3 by rw [hV3];exact laid2 _ _ _ _);have BUv:=aq (show OBox V3 w.heap.size ⟨o.cf,o.sl,t,o.moved⟩ a A1 by rw [hV3];exact BU.out.tab t A1);rw [<-hV3] at hW3;have BHv:=aq (L3.out.pbox BH.out (by omega));have L4:=aq (show Laid1 V3 W0.heap.size W3 by rw [hW3];exact (Laid1.cell _ ⟨W0.heap.size,0,none⟩ _).trans (Laid1.cell _ ⟨W0.heap.size,1,none⟩ _));have BH3:=aq (show PBox W3 W0.heap.size hd by rw [hW3];exact BHv.out.put2 hd);unfold wput2 at hW3;rw [hV3] at hW3;rw [<-hW3];clear hW3 hV3 r0 r1 rf0 rf1 f15 f16 c15 c16 BHv BH;have BU3:=aq (L4.out.obox BUv.out (by omega));have BR3:=aq (L4.out.obox (L3.out.obox BR.out (by omega)) (by omega));have BQ3:=aq (L4.out.pbox (L3.out.pbox BQ.out (by omega)) (by omega));have BK3:=aq (show Boxed W3 (w.heap.size+1) 3 (.int .i64 (k:Int)) from (L4.out.off _ (by omega)).trans ((L3.out.off _ (by omega)).trans BK.out))
 have OW3:=aq (show HOwn W3 W1.heap.size t A1 from⟨L4.out.newB (L3.out.newB OW.out.gens (by omega)) (by omega),L4.out.newB (L3.out.newB OW.out.ats (by omega)) (by omega),OW.out.caps,OW.out.sep⟩);have B3:=aq (L4.out.below (L3.out.below B0.out (by omega)) (by omega))
 have z3:w2.heap.size<=W3.heap.size:=by rw [L4.out.size,L3.out.size];exact Nat.le_refl _
 clear BU BR BQ BK OW B0 BUv L3 L4;have B0:=B3;have BR:=BR3;have BQ:=BQ3;clear B3 BR3 BQ3
 cases hf:Hn.fullB o.tb
 ·have ME:=aq (show Hn.makeE o.tb 0=0 by unfold Hn.makeE;rw [if_pos (Hn.chk_may.2 HF.out.may),if_neg (by omega),hf,if_neg (by simp)])
  have MV:=aq (show t=Hn.given o.tb 0 by rw [HTT.out];unfold Hn.makeV;rw [ME.out,if_pos rfl]);have MH:=aq (show hd=Hn.hnd o.tb by rw [HHD.out];unfold Hn.makeH;rw [ME.out,if_pos rfl]);have PI:=aq (Om.put_in HF.out hf HKL.out);have PS:=aq (fun e=>Om.put_says HF.out HIN.out HKL.out e);have GN:=aq (show t.ats≠[] by rw [MV.out];exact Om.given_some HF.out.may 0);have H64:=aq (show In64 hd.1 by rw [MH.out];exact (Om.hnd_in64 HIN.out HF.out).1);have AT:=aq (own_at OW3.out.ats GN.out)
  have k1:(Hn.makeE o.tb 0 != 0)=false:=by rw [ME.out];rfl
  obtain⟨E,hE⟩:∃ E,E=Om.inE o:=⟨_,rfl⟩;obtain⟨X,hX⟩:∃ X,X=Gp.putS o.cf o.sl k (hd.1,0):=⟨_,rfl⟩
  have CT:=aq (mTurnLet ⟨o.cf,o.sl,t,o.moved⟩ a A1 w.heap.size (w.heap.size+1) W0.heap.size hd X E W1.heap.size W3 BU3.out OW3.out.ats (HT.out.below B0.out)
   (fun V hb=>by
    have:=mLet1 ⟨o.cf,o.sl,t,o.moved⟩ a A1 w.heap.size (w.heap.size+1) W0.heap.size k hd o.sl a V (BU3.out.below hb) (boxed_low BK3.out BK3.out.lt hb) (BH3.out.below hb) (HH.out.below (B0.out.trans (hb.mono B0.out.size))).sl HIN.out.ok.sl HIN.out.short.sl (HT.out.below (B0.out.trans (hb.mono B0.out.size))) HIN.out.cf ⟨by omega,by omega⟩ H64.out
    dsimp only at this
    rw [PI.out,<-hE,<-hX] at this
    exact this)
   (fun e=>by
    have:=PS.out (by rw [<-hE];exact e)
    dsimp only at this ⊢
    rw [hX,MH.out,MV.out]
    exact this) HIN.out.ok.moved (fun i hi=>by
    rcases hi with rfl | ⟨p,hp,rfl⟩
    ·omega
    ·have:=(AT.out p hp).1;omega) (fun p hp=>by have:=(AT.out p hp).1;omega) (fun p hp=>(AT.out p hp).2))
  have EV:=aq (show Om.inV o k=if E=0 then Om.settled o.cf X t o.moved hd.1 else Od.zero by
   unfold Om.inV Om.inO;rw [<-hE,hX,MH.out,MV.out]
   rfl)
  have EH:=aq (show Om.inH o=if E=0 then hd else (0,0) by unfold Om.inH;rw [<-hE,MH.out]);clear hf PI PS MH MV HTT HHD H64;have EI:=aq hE.symm;clear hE hX;unfold slv pv at CT
  dsimp only at CT
  obtain⟨_,r0,r1,_,_⟩:=BH3.out
  go_wp2_with fail
  refine CT.out.mono ?_;rintro e w4 ⟨rfl,n1,n2⟩;clear CT k1 r0 r1
  by_cases he:E=0
  ·have k2:(E != 0)=false:=by simpa using he
   obtain⟨a2,h1,h2,h3,h4⟩:=n2 he;have R1:=aq h1;have R2:=aq h2;have R3:=aq h3;have R4:=aq h4;have HE:=aq he;rw [if_pos he] at EV EH
   have NX:=aq (show ∀ i,w.heap.size < i->i < W1.heap.size->¬ MX w.heap.size A1 i from fun i h5 h6 hx=>by
    rcases hx with hx | ⟨p,hp,hx⟩
    ·omega
    ·have:=(AT.out p hp).1;omega)
   have zb:=BR.out.lt;replace BR:=aq (BR.out.only h4 (NX.out _ (by omega) (by omega)));replace BQ:=aq (BQ.out.only h4 (NX.out _ (by omega) (by omega)));have BH4:=aq (BH3.out.only h4 (NX.out _ (by omega) (by omega)));have TB:=aq (OW3.out.settled h4 (by omega) GN.out (Om.settle_len X hd.1 (Om.pl X) (t.ats,o.moved)) h3)
   have B4:=aq (B0.out.trans ((h4.below (B:=w.heap.size) B0.out.size (fun i hx=>by
    rcases hx with rfl | ⟨p,hp,rfl⟩
    ·exact Nat.le_refl _
    ·have:=(AT.out p hp).1;omega))))
   have z4:=h4.size;clear h1 h2 h3 h4 n1 n2 he B0 BH3 BU3 BK3 OW3 R3;obtain⟨O,hO⟩:∃ O,O=Om.settled o.cf X t o.moved hd.1:=⟨_,rfl⟩;have HO:=aq (show O.sl=X/\O.tb=⟨t.gens,(Om.settle X hd.1 (Om.pl X) (t.ats,o.moved)).1⟩ by rw [hO];exact⟨rfl,rfl⟩);rw [<-hO] at R1 EV;clear hO;have OO:=aq (show OOwn w4 W1.heap.size O a2 A1 from⟨by rw [HO.out.1];exact R2.out.lower (by omega),by rw [HO.out.2];exact TB.out⟩);clear R2 TB HO
   go_upto_region 7 with (fail)
   refine wp_region_held_drew (S:=fun w'=>OBox w' w.heap.size O a2 A1/\w'.cell? ⟨W0.heap.size,0,none⟩=some (.int .i64 hd.1)/\w'.cell? ⟨W0.heap.size,1,none⟩=some (.int .i64 hd.2)) (by kernel_rfl) (by exact⟨R1.out.below ((Below.refl _ _).drew),(BH4.out.below ((Below.refl _ _).drew)).c0,(BH4.out.below ((Below.refl _ _).drew)).c1⟩) (fun hHeld=>?_);obtain⟨V5,hV⟩:∃ V,V=w4.drew:=⟨_,rfl⟩;replace R1:=aq (show OBox V5 w.heap.size O a2 A1 by rw [hV];exact R1.out.below ((Below.refl _ _).drew));replace BH4:=aq (show PBox V5 W0.heap.size hd by rw [hV];exact BH4.out.below ((Below.refl _ _).drew));replace BQ:=aq (show PBox V5 (w.heap.size+1+1+1) (0,0) by rw [hV];exact BQ.out.below ((Below.refl _ _).drew));replace BR:=aq (show OBox V5 (w.heap.size+1+1) Od.zero adsNone hNone by rw [hV];exact BR.out.below ((Below.refl _ _).drew));replace OO:=aq (show OOwn V5 W1.heap.size O a2 A1 by rw [hV];exact OO.out.below ((Below.refl _ _).drew));replace B4:=aq (show Below w.heap.size w V5 by rw [hV];exact B4.out.drew);rw [<-hV] at hHeld ⊢;clear hV;refine tk 0 ?_;refine wpAnyH_take (i:=1) (oi:=Oper.mk _ _ _ _ _ _) (v:=?vli1) rfl (by kernel_rfl) (by kernel_rfl) (by kernel_rfl) (fun _ _ _ h=>h) (Or.inl ⟨by rfl,?hyli1⟩) (by assumption) ?restli1
   case hyli1 =>
    intro w0 hSw;refine load_whole (x:=.tmp 26) ?_ ?_ hSw.1 _ Tryz.underlying33 rfl infoO
    all_goals rfl
   try simp only [sZ]
   refine wpAnyH_take (i:=2) (oi:=Oper.mk _ _ _ _ _ _) (v:=?vli2) rfl (by kernel_rfl) (by kernel_rfl) (by kernel_rfl) (fun _ _ _ h=>h) (Or.inl ⟨by rfl,?hyli2⟩) (by assumption) ?restli2
   case hyli2 =>
    intro w0 hSw;obtain⟨_,hs1,hs2⟩:=hSw;go_simp
    all_goals with_reducible rfl
   try simp only [sZ]
   refine rdH 3 fun K hK=>?_;refine step_store_od rfl _ _ rfl _ rfl O a2 A1 rfl BR.out ?_;intro V6 hX hL;have BY:=aq hX;replace R1:=aq (hL.obox R1.out (by omega));replace BH4:=aq (hL.pbox BH4.out (by omega));replace BQ:=aq (hL.pbox BQ.out (by omega));replace OO:=aq (OO.out.laid hL (by omega));replace B4:=aq (hL.below B4.out (by omega));clear hX hL BR;refine hK.out _ _ (by exact⟨R1.out,BH4.out.c0,BH4.out.c1⟩) (fun hHeldli3=>?_);clear hK K hHeld
   try simp only [sZ]
   refine rdH 4 fun K hK=>?_;obtain⟨_,q0,q1,qf0,qf1⟩:=BQ.out
   dsimp only at q0 q1
   go_simp;obtain⟨V7,hU⟩:∃ U,U=wput2 V6 (w.heap.size+1+1+1) (.int .i64 hd.1) (.int .i64 hd.2):=⟨_,rfl⟩
   have L7:Laid1 V6 (w.heap.size+1+1+1) V7:=by rw [hU];exact (Laid1.cell _ ⟨w.heap.size+1+1+1,0,none⟩ _).trans (Laid1.cell _ ⟨w.heap.size+1+1+1,1,none⟩ _)
   have BQ7:=aq (show PBox V7 (w.heap.size+1+1+1) hd by rw [hU];exact BQ.out.put2 hd);unfold wput2 at hU
   first | rw [<-hU] | skip
   replace R1:=aq (L7.obox R1.out (by omega));replace BH4:=aq (L7.pbox BH4.out (by omega));replace BY:=aq (L7.obox BY.out (by omega));replace OO:=aq (OO.out.laid L7 (by omega));replace B4:=aq (L7.below B4.out (by omega));clear hU q0 q1 qf0 qf1 BQ L7;refine hK.out _ _ (by exact⟨R1.out,BH4.out.c0,BH4.out.c1⟩) (fun hHeldli4=>?_);clear hK K hHeldli3
   try simp only [sZ]
   refine tk 5 ?_;refine wpAnyH_done (by kernel_rfl) ?_ _;go_wp2
   simp only [Exit.jump]
   refine bodyPost_ret (results_odh (by first | rfl | kernel_rfl) _ _ _ _ _ rfl rfl rfl BY.out BQ7.out) rfl ?_;rw [EV.out,EH.out,EI.out,HE.out];exact⟨_,_,rfl,OO.out.lower (by omega),B4.out⟩
  ·have k2:(E != 0)=true:=by simpa using he
   have hb:=n1 he;rw [if_neg he] at EV EH;have zb:=BR.out.lt;replace BR:=aq (BR.out.below hb);replace BQ:=aq (BQ.out.below hb);replace B0:=aq (B0.out.trans (hb.mono B0.out.size));clear n1 n2 he hb BU3 BK3 BH3 OW3
   go_wp2_with fail
   go_step3
   go_wp2_with fail
   simp only [Exit.jump,true_and]
   go_wp2_with (refine wpList_store_od rfl _ _ rfl _ rfl Od.zero adsNone hNone rfl BR.out ?_;intro W9 hX hL;have BX9:=aq hX;have LD:=aq hL;replace BQ:=aq (hL.pbox BQ.out (by omega));obtain⟨_,r0,r1,rf0,rf1⟩:=BQ.out;dsimp only at r0 r1;clear hX hL)
   obtain⟨U,hU⟩:∃ U,U=wput2 W9 (w.heap.size+1+1+1) (.int .i64 0) (.int .i64 0):=⟨_,rfl⟩;have BQ9:=aq (show PBox U (w.heap.size+1+1+1) (0,0) by rw [hU];exact BQ.out.put2 (0,0));have BY:=aq (show OBox U (w.heap.size+1+1) Od.zero adsNone hNone by rw [hU];unfold wput2;exact (BX9.out.other (by dsimp only;omega) _).other (by dsimp only;omega) _);have B9:=aq (show Below w.heap.size w U by rw [hU];exact below_put2 (LD.out.below B0.out (by omega)) (by omega) _ _);unfold wput2 at hU
   first | rw [<-hU] | skip
   clear hU
   try simp only [Exit.jump]
   refine bodyPost_ret (results_odh (by first | rfl | kernel_rfl) _ _ _ _ _ rfl rfl rfl BY.out BQ9.out) rfl ?_;rw [EV.out,EH.out,EI.out];exact⟨_,_,rfl,oown_zero _ _,B9.out⟩
 ·have ME:=aq (show Hn.makeE o.tb 0=9 by unfold Hn.makeE;rw [if_pos (Hn.chk_may.2 HF.out.may),if_neg (by omega),hf,if_pos rfl])
  have IE:=aq (show Om.inE o=9 by unfold Om.inE;rw [if_pos (Or.inr hf)]);have EV:=aq (show Om.inV o k=Od.zero by unfold Om.inV;rw [IE.out,if_neg (by omega)]);have EH:=aq (show Om.inH o=(0,0) by unfold Om.inH;rw [IE.out,if_neg (by omega)]);rw [ME.out];clear hf BU3 BK3 BH3 OW3 HTT HHD
  go_wp2_with fail
  go_step3
  go_wp2_with fail
  simp only [Exit.jump,true_and]
  go_wp2_with (refine wpList_store_od rfl _ _ rfl _ rfl Od.zero adsNone hNone rfl BR.out ?_;intro W9 hX hL;have BX9:=aq hX;have LD:=aq hL;replace BQ:=aq (hL.pbox BQ.out (by omega));obtain⟨_,r0,r1,rf0,rf1⟩:=BQ.out;dsimp only at r0 r1;clear hX hL)
  obtain⟨U,hU⟩:∃ U,U=wput2 W9 (w.heap.size+1+1+1) (.int .i64 0) (.int .i64 0):=⟨_,rfl⟩;have BQ9:=aq (show PBox U (w.heap.size+1+1+1) (0,0) by rw [hU];exact BQ.out.put2 (0,0));have BY:=aq (show OBox U (w.heap.size+1+1) Od.zero adsNone hNone by rw [hU];unfold wput2;exact (BX9.out.other (by dsimp only;omega) _).other (by dsimp only;omega) _);have B9:=aq (show Below w.heap.size w U by rw [hU];exact below_put2 (LD.out.below B0.out (by omega)) (by omega) _ _);unfold wput2 at hU
  first | rw [<-hU] | skip
  clear hU
  try simp only [Exit.jump]
  refine bodyPost_ret (results_odh (by first | rfl | kernel_rfl) _ _ _ _ _ rfl rfl rfl BY.out BQ9.out) rfl ?_;rw [EV.out,EH.out,IE.out];exact⟨_,_,rfl,oown_zero _ _,B9.out⟩
theorem mTakeOut (o:Od) (a:Ads) (A:HAds) (h:Int×Int) (k:Nat) (w:World) (hh:OHeld w o a A) (hin:o.In) (hT:Tab w) (F:Om.Fit o) (hi:Om.ix h (Om.hands o) < (Om.hands o).length) (hk:k=Om.ix h (Om.hands o)) (h1:In64 h.1) (h2:In64 h.2) :
  Calls Tryz.prog 66 #[odv o a A,pv h,.int .i64 (k:Int)] w (OAns (Om.outO o h) 0 w):=by
 have k16:k<=65536:=by
  have h1:=Oc.places_length_le o.sl.words 0 o.sl.keys.length;have h2:(Om.pl o.sl).length=(Oc.places o.sl.words 0 o.sl.keys.length).length:=rfl;have h3:=hin.short.sl.keys;rw [Om.hands_len] at hi
  omega
 have HU:=aq (fun x y z=>(((OBox.new w o a A 77).below ((Below.refl _ _).alloc (Nat.le_refl _) x)).below ((Below.refl _ _).alloc (Nat.le_refl _) y)).below ((Below.refl _ _).alloc (Nat.le_refl _) z));have HP:=aq (fun x y z=>((PBox.new (w.alloc x) h 39).below ((Below.refl _ _).alloc (Nat.le_refl _) y)).below ((Below.refl _ _).alloc (Nat.le_refl _) z));have HK:=aq (fun x y z=>(Boxed.new ((w.alloc x).alloc y) 3 (.int .i64 (k:Int))).alloc z);have HR:=aq (fun x y z=>OBox.new (((w.alloc x).alloc y).alloc z) Od.zero adsNone hNone 33);have BB:=aq (fun x y z u=>((((Below.refl w.heap.size w).alloc (Nat.le_refl _) x).alloc (by simp) y).alloc (by simp;omega) z).alloc (by simp;omega) u);have CM:=aq (fun V (hb:Below w.heap.size w V)=>hDrop o.tb A h V (hh.below hb).tb hin.ok.tb hin.short.tb h1 h2);have his:=(Om.hand_is F hi).1;have FE:=aq (show Hn.findE o.tb h=0 by unfold Hn.findE;rw [if_pos (Hn.chk_may.2 F.may),if_pos his]);have DV:=aq (show Hn.dropV o.tb h=Hn.back o.tb h.1.toNat by unfold Hn.dropV;rw [FE.out,if_pos rfl]);have TS:=aq (Om.take_says F hin hi);have OI:=aq (Om.out_is F hin.ok hi)
 have BN:=aq (show (Hn.back o.tb h.1.toNat).ats≠[] by
  obtain⟨i0,i1,_,_⟩:=(Hn.is_iff o.tb h).1 his;have:=F.may.len;intro e;have e2:=congrArg List.length e;unfold Hn.back at e2
  dsimp only at e2
  rw [List.length_set] at e2
  simp at e2
  rw [e2] at this
  simp at this
  omega)
 rw [<-hk] at TS OI;have HH:=aq hh;have HIN:=aq hin;have HT:=aq hT;have tg:=hT.1;clear hh hin hT F hi hk h1 h2 his;rw [FE.out,DV.out] at CM;unfold hv pv at CM;unfold odv pv
 go_enter Tryz.func66,Tryz.ntmps66
 go_wp2_with fail
 obtain⟨W0,hW0⟩:∃ W0,W0=(((w.alloc (.cells (odCells o a A) 77)).alloc (.cells #[.int .i64 h.1,.int .i64 h.2] 39)).alloc (.cells #[.int .i64 (k:Int)] 3)).alloc (.cells #[.int .u8 0,.int .i64 0,.int .i64 0,.int .i64 0,.int .i64 0,.int .i64 0,.int .i64 0,.int .i64 0,.int .i64 0,.int .i64 0,.slice none 0 0,.slice none 0 0,.slice none 0 0,.slice none 0 0,.int .u64 0,.slice none 0 0,.slice none 0 0,.int .u64 0] 33):=⟨_,rfl⟩;have BU:=aq (show OBox W0 w.heap.size o a A by rw [hW0];exact HU.out _ _ _);have BP:=aq (show PBox W0 (w.heap.size+1) h by rw [hW0];have:=HP.out (.cells (odCells o a A) 77) (.cells #[.int .i64 (k:Int)] 3) (.cells #[.int .u8 0,.int .i64 0,.int .i64 0,.int .i64 0,.int .i64 0,.int .i64 0,.int .i64 0,.int .i64 0,.int .i64 0,.int .i64 0,.slice none 0 0,.slice none 0 0,.slice none 0 0,.slice none 0 0,.int .u64 0,.slice none 0 0,.slice none 0 0,.int .u64 0] 33);rw [World.size_alloc] at this;exact this);have BK:=aq (show Boxed W0 (w.heap.size+1+1) 3 (.int .i64 (k:Int)) by rw [hW0];have:=HK.out (.cells (odCells o a A) 77) (.cells #[.int .i64 h.1,.int .i64 h.2] 39) (.cells #[.int .u8 0,.int .i64 0,.int .i64 0,.int .i64 0,.int .i64 0,.int .i64 0,.int .i64 0,.int .i64 0,.int .i64 0,.int .i64 0,.slice none 0 0,.slice none 0 0,.slice none 0 0,.slice none 0 0,.int .u64 0,.slice none 0 0,.slice none 0 0,.int .u64 0] 33);rw [World.size_alloc,World.size_alloc] at this;exact this)
 have BR:=aq (show OBox W0 (w.heap.size+1+1+1) Od.zero adsNone hNone by rw [hW0];have:=HR.out (.cells (odCells o a A) 77) (.cells #[.int .i64 h.1,.int .i64 h.2] 39) (.cells #[.int .i64 (k:Int)] 3);rw [World.size_alloc,World.size_alloc,World.size_alloc] at this;exact this);have B0:=aq (show Below w.heap.size w W0 by rw [hW0];exact BB.out _ _ _ _)
 have z0:w.heap.size+4<=W0.heap.size:=by rw [hW0];simp
 rw [<-hW0];clear hW0 HU HK HR HP BB;refine wp_scope_on 0 rfl ?_
 go_upto_region 2 with (fail)
 have c15:=BU.out.cells.c15;have c16:=BU.out.cells.c16;obtain⟨_,r0,r1,_,_⟩:=BP.out;have f15:=BU.out.free 15;have f16:=BU.out.free 16
 go_wp2_with fail
 refine (CM.out W0 B0.out).mono ?_;rintro e w2 ⟨A1,rfl,own,hb⟩;have z2:=hb.size;have OW:=aq own;replace BU:=aq (BU.out.below hb);replace BR:=aq (BR.out.below hb);replace BP:=aq (BP.out.below hb);replace B0:=aq (B0.out.trans (hb.mono B0.out.size));replace BK:=aq (boxed_low BK.out BK.out.lt hb);clear own hb CM c15 c16 f15 f16 r0 r1;unfold hv;have f15:=BU.out.free 15;have f16:=BU.out.free 16;have c15:=BU.out.cells.c15;have c16:=BU.out.cells.c16
 go_upto_region 3 with (fail)
 obtain⟨t,ht⟩:∃ t,t=Hn.back o.tb h.1.toNat:=⟨_,rfl⟩;rw [<-ht] at OW BN TS OI;rw [<-ht];clear ht;obtain⟨W3,hW3⟩:∃ W3,W3=(w2.setCell ⟨w.heap.size,15,none⟩ (.slice A1.g t.gens.length A1.cg)).setCell ⟨w.heap.size,16,none⟩ (.slice A1.a t.ats.length A1.ca):=⟨_,rfl⟩;have L3:=aq (show Laid1 w2 w.heap.size W3 by rw [hW3];exact laid2 _ _ _ _);have BU3:=aq (show OBox W3 w.heap.size ⟨o.cf,o.sl,t,o.moved⟩ a A1 by rw [hW3];exact BU.out.tab t A1);rw [<-hW3];clear hW3 f15 f16 c15 c16;have BR3:=aq (L3.out.obox BR.out (by omega));have BP3:=aq (L3.out.pbox BP.out (by omega));have BK3:=aq (show Boxed W3 (w.heap.size+1+1) 3 (.int .i64 (k:Int)) from (L3.out.off _ (by omega)).trans BK.out);have OW3:=aq (show HOwn W3 W0.heap.size t A1 from⟨L3.out.newB OW.out.gens (by omega),L3.out.newB OW.out.ats (by omega),OW.out.caps,OW.out.sep⟩);have B3:=aq (L3.out.below B0.out (by omega))
 have z3:w2.heap.size<=W3.heap.size:=by rw [L3.out.size];exact Nat.le_refl _
 clear BU BR BP BK OW B0 L3;have B0:=B3;have BR:=BR3;clear B3 BR3;have AT:=aq (own_at OW3.out.ats BN.out);obtain⟨X,hX⟩:∃ X,X=Gp.takeS o.cf o.sl k:=⟨_,rfl⟩;rw [<-hX] at TS OI
 have CT:=aq (mTurnOut ⟨o.cf,o.sl,t,o.moved⟩ a A1 w.heap.size (w.heap.size+1+1) h X 0 W0.heap.size W3 BU3.out OW3.out.ats (HT.out.below B0.out)
  (fun V hb=>by
   have:=mOut1 ⟨o.cf,o.sl,t,o.moved⟩ a A1 w.heap.size (w.heap.size+1+1) k o.sl a V (BU3.out.below hb) (boxed_low BK3.out BK3.out.lt hb) (HH.out.below (B0.out.trans (hb.mono B0.out.size))).sl HIN.out.ok.sl HIN.out.short.sl (HT.out.below (B0.out.trans (hb.mono B0.out.size))) HIN.out.cf ⟨by omega,by omega⟩
   dsimp only at this
   rw [<-hX,TS.out.1] at this
   exact this)
  (fun e=>TS.out.2) HIN.out.ok.moved (fun i hi=>by
   rcases hi with rfl | ⟨p,hp,rfl⟩
   ·omega
   ·have:=(AT.out p hp).1;omega) (fun p hp=>by have:=(AT.out p hp).1;omega) (fun p hp=>(AT.out p hp).2))
 clear hX;unfold slv pv at CT
 dsimp only at CT
 obtain⟨_,r0,r1,_,_⟩:=BP3.out
 go_wp2_with fail
 refine CT.out.mono ?_;rintro e w4 ⟨rfl,n1,n2⟩;clear CT r0 r1 n1;obtain⟨a2,h1,h2,h3,h4⟩:=n2 (by trivial);have R1:=aq h1;have R2:=aq h2
 have NX:=aq (show ∀ i,w.heap.size < i->i < W0.heap.size->¬ MX w.heap.size A1 i from fun i h5 h6 hx=>by
  rcases hx with hx | ⟨p,hp,hx⟩
  ·omega
  ·have:=(AT.out p hp).1;omega)
 replace BR:=aq (BR.out.only h4 (NX.out _ (by omega) (by omega)));have TB:=aq (OW3.out.settled h4 (by omega) BN.out (Om.settle_len X h.1 (Om.pl X) (t.ats,o.moved)) h3)
 have B4:=aq (B0.out.trans ((h4.below (B:=w.heap.size) B0.out.size (fun i hx=>by
  rcases hx with rfl | ⟨p,hp,rfl⟩
  ·exact Nat.le_refl _
  ·have:=(AT.out p hp).1;omega))))
 have z4:=h4.size;clear h1 h2 h3 h4 n2 B0 BP3 BU3 BK3 OW3;obtain⟨O,hO⟩:∃ O,O=Om.settled o.cf X t o.moved h.1:=⟨_,rfl⟩;have HO:=aq (show O.sl=X/\O.tb=⟨t.gens,(Om.settle X h.1 (Om.pl X) (t.ats,o.moved)).1⟩ by rw [hO];exact⟨rfl,rfl⟩);rw [<-hO] at R1 OI;clear hO;have OO:=aq (show OOwn w4 W0.heap.size O a2 A1 from⟨by rw [HO.out.1];exact R2.out.lower (by omega),by rw [HO.out.2];exact TB.out⟩);clear R2 TB HO
 go_wp2_with (first | (refine wpList_load_od rfl _ rfl _ rfl R1.out ?_) | (refine wpList_store_od rfl _ _ rfl _ rfl O a2 A1 rfl BR.out ?_;intro W9 hX hL;have BX9:=aq hX;have LD:=aq hL;clear hX hL))
 try simp only [Exit.jump]
 refine bodyPost_ret (results_ode (by first | rfl | kernel_rfl) _ _ _ _ rfl rfl BX9.out) rfl ?_;rw [OI.out];exact⟨_,_,rfl,(OO.out.laid LD.out (by omega)).lower (by omega),LD.out.below B4.out (by omega)⟩
namespace Om
theorem fir_in {o:Od} (h:chkE o=0):firE o=inE o/\firV o=inV o 0/\firH o=inH o:=by
 have e:firE o=inE o:=by unfold firE;rw [if_pos h]
 exact⟨e,by unfold firV inV;rw [e],by unfold firH inH;rw [e]⟩
theorem fir_no {o:Od} (h:¬ chkE o=0):firE o=chkE o/\firV o=Od.zero/\firH o=(0,0):=by
 have e:firE o=chkE o:=by unfold firE;rw [if_neg h]
 exact⟨e,by unfold firV;rw [e,if_neg h],by unfold firH;rw [e,if_neg h]⟩
theorem bes_in {o:Od} {h:Int×Int} (e:labE o h=0) (b:Nat):besE o h=inE o/\besV o h b=inV o (ix h (hands o)+b)/\besH o h=inH o:=by
 obtain⟨F,hi⟩:=lab_yes e
 have e1:besE o h=inE o:=by unfold besE inB;rw [if_pos (chk_fit.2 F),if_pos (decide_eq_true hi)]
 exact⟨e1,by unfold besV inV;rw [e1],by unfold besH inH;rw [e1]⟩
theorem bes_no {o:Od} {h:Int×Int} (e:¬ labE o h=0) (b:Nat):besE o h=labE o h/\besV o h b=Od.zero/\besH o h=(0,0):=by
 have e1:besE o h=labE o h:=by
  unfold besE;unfold labE at e ⊢
  by_cases hc:chkE o=0
  ·rw [if_pos hc] at e ⊢
   rw [if_pos hc]
   cases hi:inB o h
   ·rfl
   ·rw [hi,if_pos rfl] at e;exact absurd rfl e
  ·rw [if_neg hc,if_neg hc]
 exact⟨e1,by unfold besV;rw [e1,if_neg e],by unfold besH;rw [e1,if_neg e]⟩
end Om
theorem mFirst (o:Od) (a:Ads) (A:HAds) (w:World) (h:OHeld w o a A) (hin:o.In) (hT:Tab w) :
  Calls Tryz.prog 11 #[odv o a A] w (OAns3 (Om.firV o) (Om.firH o) (Om.firE o) w):=by
 have HX:=aq (fun x y=>((OBox.new w o a A 33).below ((Below.refl _ _).alloc (Nat.le_refl _) x)).below ((Below.refl _ _).alloc (Nat.le_refl _) y));have HR:=aq (fun x y=>(OBox.new (w.alloc x) Od.zero adsNone hNone 33).below ((Below.refl _ _).alloc (Nat.le_refl _) y));have HQ:=aq (fun x y=>PBox.new ((w.alloc x).alloc y) (0,0) 39);have BB:=aq (fun x y z=>(((Below.refl w.heap.size w).alloc (Nat.le_refl _) x).alloc (by simp) y).alloc (by simp;omega) z);have CC:=aq (fun V (hb:Below w.heap.size w V)=>mCheck o a A V (h.below hb) hin (hT.below hb));have CL:=aq (fun V (hb:Below w.heap.size w V) F=>(show Calls Tryz.prog 39 #[odv o a A,.int .i64 0] V (OAns3 (Om.inV o 0) (Om.inH o) (Om.inE o) V) from mLetIn o a A 0 V (h.below hb) hin (hT.below hb) F (Nat.zero_le _)));clear h hin hT;unfold odv at CC CL ⊢
 go_enter Tryz.func11,Tryz.ntmps11
 go_upto_region 1 with (fail)
 obtain⟨W0,hW0⟩:∃ W0,W0=((w.alloc (.cells (odCells o a A) 33)).alloc (.cells #[.int .u8 0,.int .i64 0,.int .i64 0,.int .i64 0,.int .i64 0,.int .i64 0,.int .i64 0,.int .i64 0,.int .i64 0,.int .i64 0,.slice none 0 0,.slice none 0 0,.slice none 0 0,.slice none 0 0,.int .u64 0,.slice none 0 0,.slice none 0 0,.int .u64 0] 33)).alloc (.cells #[.int .i64 0,.int .i64 0] 39):=⟨_,rfl⟩;have BX:=aq (show OBox W0 w.heap.size o a A by rw [hW0];exact HX.out _ _);have BR:=aq (show OBox W0 (w.heap.size+1) Od.zero adsNone hNone by rw [hW0];have:=HR.out (.cells (odCells o a A) 33) (.cells #[.int .i64 0,.int .i64 0] 39);rw [World.size_alloc] at this;exact this);have BQ:=aq (show PBox W0 (w.heap.size+1+1) (0,0) by rw [hW0];have:=HQ.out (.cells (odCells o a A) 33) (.cells #[.int .u8 0,.int .i64 0,.int .i64 0,.int .i64 0,.int .i64 0,.int .i64 0,.int .i64 0,.int .i64 0,.int .i64 0,.int .i64 0,.slice none 0 0,.slice none 0 0,.slice none 0 0,.slice none 0 0,.int .u64 0,.slice none 0 0,.slice none 0 0,.int .u64 0] 33);rw [World.size_alloc,World.size_alloc] at this;exact this);have B0:=aq (show Below w.heap.size w W0 by rw [hW0];exact BB.out _ _ _)
 have z0:w.heap.size+3<=W0.heap.size:=by rw [hW0];simp
 rw [<-hW0];clear hW0 HX HR HQ BB
 go_wp2_with (refine wpList_load_od rfl _ rfl _ rfl BX.out ?_)
 refine (CC.out W0 B0.out).mono ?_;rintro e w1 ⟨rfl,hb⟩;replace BX:=aq (BX.out.below hb);replace BR:=aq (BR.out.below hb);replace BQ:=aq (BQ.out.below hb);replace B0:=aq (B0.out.trans (hb.mono B0.out.size));have z1:=hb.size;clear hb CC
 by_cases hc:Om.chkE o=0
 ·have k1:(Om.chkE o != 0)=false:=by simpa using hc
  have EV:=aq (Om.fir_in hc);have HF:=aq (Om.chk_fit.1 hc);clear hc
  go_wp2_with (first | (refine wpList_load_od rfl _ rfl _ rfl BX.out ?_) | (refine wpList_build_under rfl _ rfl o a A rfl ?_))
  refine (CL.out w1 B0.out HF.out).mono ?_;rintro e w2 ⟨a1,A1,rfl,own,hb⟩;have OW:=aq own;have z2:=hb.size;replace BX:=aq (BX.out.below hb);replace BR:=aq (BR.out.below hb);replace BQ:=aq (BQ.out.below hb);replace B0:=aq (B0.out.trans (hb.mono B0.out.size));clear own hb CL k1;unfold odv pv;obtain⟨X,hX⟩:∃ X,X=Om.inV o 0:=⟨_,rfl⟩;obtain⟨x,hx⟩:∃ x,x=Om.inH o:=⟨_,rfl⟩;have HXX:=aq hX;have HXH:=aq hx;rw [<-hX] at OW;rw [<-hX,<-hx];clear hX hx
  go_wp2_with (refine wpList_store_od rfl _ _ rfl _ rfl X a1 A1 rfl BR.out ?_;intro W9 hX hL;have BX9:=aq hX;have LD:=aq hL;replace BQ:=aq (hL.pbox BQ.out (by omega));obtain⟨_,r0,r1,rf0,rf1⟩:=BQ.out;dsimp only at r0 r1;clear hX hL)
  obtain⟨U,hU⟩:∃ U,U=wput2 W9 (w.heap.size+1+1) (.int .i64 x.1) (.int .i64 x.2):=⟨_,rfl⟩;have LU:=aq (show Laid1 W9 (w.heap.size+1+1) U by rw [hU];exact (Laid1.cell _ ⟨w.heap.size+1+1,0,none⟩ _).trans (Laid1.cell _ ⟨w.heap.size+1+1,1,none⟩ _));have BQ9:=aq (show PBox U (w.heap.size+1+1) x by rw [hU];exact BQ.out.put2 x);have BY:=aq (LU.out.obox BX9.out (by omega));have B9:=aq (LU.out.below (LD.out.below B0.out (by omega)) (by omega));have OO:=aq ((OW.out.laid LD.out (by omega)).laid LU.out (by omega));unfold wput2 at hU
  first | rw [<-hU] | skip
  clear hU;refine bodyPost_ret (results_odh (by first | rfl | kernel_rfl) _ _ _ _ _ rfl rfl rfl BY.out BQ9.out) rfl ?_;rw [EV.out.1,EV.out.2.1,EV.out.2.2,<-HXX.out,<-HXH.out];exact⟨_,_,rfl,OO.out.lower (by omega),B9.out⟩
 ·have k1:(Om.chkE o != 0)=true:=by simpa using hc
  have EV:=aq (Om.fir_no hc);clear hc CL
  go_wp2_with (refine wpList_store_od rfl _ _ rfl _ rfl Od.zero adsNone hNone rfl BR.out ?_;intro W9 hX hL;have BX9:=aq hX;have LD:=aq hL;replace BQ:=aq (hL.pbox BQ.out (by omega));obtain⟨_,r0,r1,rf0,rf1⟩:=BQ.out;dsimp only at r0 r1;clear hX hL)
  obtain⟨U,hU⟩:∃ U,U=wput2 W9 (w.heap.size+1+1) (.int .i64 0) (.int .i64 0):=⟨_,rfl⟩;have LU:=aq (show Laid1 W9 (w.heap.size+1+1) U by rw [hU];exact (Laid1.cell _ ⟨w.heap.size+1+1,0,none⟩ _).trans (Laid1.cell _ ⟨w.heap.size+1+1,1,none⟩ _));have BQ9:=aq (show PBox U (w.heap.size+1+1) (0,0) by rw [hU];exact BQ.out.put2 (0,0));have BY:=aq (LU.out.obox BX9.out (by omega));have B9:=aq (LU.out.below (LD.out.below B0.out (by omega)) (by omega));unfold wput2 at hU
  first | rw [<-hU] | skip
  clear hU;refine bodyPost_ret (results_odh (by first | rfl | kernel_rfl) _ _ _ _ _ rfl rfl rfl BY.out BQ9.out) rfl ?_;rw [EV.out.1,EV.out.2.1,EV.out.2.2];exact⟨_,_,rfl,oown_zero _ _,B9.out⟩
theorem mAfter (o:Od) (a:Ads) (A:HAds) (h:Int×Int) (w:World) (hh:OHeld w o a A) (hin:o.In) (hT:Tab w) (h1:In64 h.1) (h2:In64 h.2) :
  Calls Tryz.prog 12 #[odv o a A,pv h] w (OAns3 (Om.besV o h 1) (Om.besH o h) (Om.besE o h) w):=by
 have HX:=aq (fun x y z=>(((OBox.new w o a A 33).below ((Below.refl _ _).alloc (Nat.le_refl _) x)).below ((Below.refl _ _).alloc (Nat.le_refl _) y)).below ((Below.refl _ _).alloc (Nat.le_refl _) z));have HP:=aq (fun x y z=>((PBox.new (w.alloc x) h 39).below ((Below.refl _ _).alloc (Nat.le_refl _) y)).below ((Below.refl _ _).alloc (Nat.le_refl _) z));have HR:=aq (fun x y z=>(OBox.new ((w.alloc x).alloc y) Od.zero adsNone hNone 33).below ((Below.refl _ _).alloc (Nat.le_refl _) z));have HQ:=aq (fun x y z=>PBox.new (((w.alloc x).alloc y).alloc z) (0,0) 39);have BB:=aq (fun x y z u=>((((Below.refl w.heap.size w).alloc (Nat.le_refl _) x).alloc (by simp) y).alloc (by simp;omega) z).alloc (by simp;omega) u);have CC:=aq (fun V (hb:Below w.heap.size w V)=>mRank o a A h V (hh.below hb) hin (hT.below hb) h1 h2);have CL:=aq (fun V (hb:Below w.heap.size w V) F (hi:Om.ix h (Om.hands o) < (Om.hands o).length)=>(show Calls Tryz.prog 39 #[odv o a A,.int .i64 (((Om.ix h (Om.hands o):Nat):Int)+1)] V (OAns3 (Om.inV o (Om.ix h (Om.hands o)+1)) (Om.inH o) (Om.inE o) V) from mLetIn o a A (Om.ix h (Om.hands o)+1) V (hh.below hb) hin (hT.below hb) F (by omega)))
 have I16:(Om.hands o).length<=65536:=by
  have q1:=Oc.places_length_le o.sl.words 0 o.sl.keys.length;have q2:(Om.pl o.sl).length=(Oc.places o.sl.words 0 o.sl.keys.length).length:=rfl;have q3:=hin.short.sl.keys;rw [Om.hands_len]
  omega
 clear hh hin hT h1 h2;unfold odv pv at CC;unfold odv at CL;unfold odv pv
 go_enter Tryz.func12,Tryz.ntmps12
 go_upto_region 1 with (fail)
 obtain⟨W0,hW0⟩:∃ W0,W0=(((w.alloc (.cells (odCells o a A) 33)).alloc (.cells #[.int .i64 h.1,.int .i64 h.2] 39)).alloc (.cells #[.int .u8 0,.int .i64 0,.int .i64 0,.int .i64 0,.int .i64 0,.int .i64 0,.int .i64 0,.int .i64 0,.int .i64 0,.int .i64 0,.slice none 0 0,.slice none 0 0,.slice none 0 0,.slice none 0 0,.int .u64 0,.slice none 0 0,.slice none 0 0,.int .u64 0] 33)).alloc (.cells #[.int .i64 0,.int .i64 0] 39):=⟨_,rfl⟩;have BX:=aq (show OBox W0 w.heap.size o a A by rw [hW0];exact HX.out _ _ _);have BP:=aq (show PBox W0 (w.heap.size+1) h by rw [hW0];have:=HP.out (.cells (odCells o a A) 33) (.cells #[.int .u8 0,.int .i64 0,.int .i64 0,.int .i64 0,.int .i64 0,.int .i64 0,.int .i64 0,.int .i64 0,.int .i64 0,.int .i64 0,.slice none 0 0,.slice none 0 0,.slice none 0 0,.slice none 0 0,.int .u64 0,.slice none 0 0,.slice none 0 0,.int .u64 0] 33) (.cells #[.int .i64 0,.int .i64 0] 39);rw [World.size_alloc] at this;exact this);have BR:=aq (show OBox W0 (w.heap.size+1+1) Od.zero adsNone hNone by rw [hW0];have:=HR.out (.cells (odCells o a A) 33) (.cells #[.int .i64 h.1,.int .i64 h.2] 39) (.cells #[.int .i64 0,.int .i64 0] 39);rw [World.size_alloc,World.size_alloc] at this;exact this);have BQ:=aq (show PBox W0 (w.heap.size+1+1+1) (0,0) by rw [hW0];have:=HQ.out (.cells (odCells o a A) 33) (.cells #[.int .i64 h.1,.int .i64 h.2] 39) (.cells #[.int .u8 0,.int .i64 0,.int .i64 0,.int .i64 0,.int .i64 0,.int .i64 0,.int .i64 0,.int .i64 0,.int .i64 0,.int .i64 0,.slice none 0 0,.slice none 0 0,.slice none 0 0,.slice none 0 0,.int .u64 0,.slice none 0 0,.slice none 0 0,.int .u64 0] 33);rw [World.size_alloc,World.size_alloc,World.size_alloc] at this;exact this)
 have B0:=aq (show Below w.heap.size w W0 by rw [hW0];exact BB.out _ _ _ _)
 have z0:w.heap.size+4<=W0.heap.size:=by rw [hW0];simp
 rw [<-hW0];clear hW0 HX HP HR HQ BB;obtain⟨_,p0,p1,_,_⟩:=BP.out
 go_wp2_with (refine wpList_load_od rfl _ rfl _ rfl BX.out ?_)
 refine (CC.out W0 B0.out).mono ?_;rintro e w1 ⟨rfl,hb⟩;replace BX:=aq (BX.out.below hb);replace BR:=aq (BR.out.below hb);replace BQ:=aq (BQ.out.below hb);replace B0:=aq (B0.out.trans (hb.mono B0.out.size));have z1:=hb.size;clear hb CC p0 p1 BP
 by_cases hc:Om.labE o h=0
 ·have k1:(Om.labE o h != 0)=false:=by simpa using hc
  have EV:=aq (Om.bes_in hc 1);have HF:=aq (Om.lab_yes hc);have RV:=aq (show Om.rankV o h=((Om.ix h (Om.hands o):Nat):Int) by unfold Om.rankV;rw [if_pos hc]);rw [RV.out];have hlt:=HF.out.2;have CL2:=aq (fun V hb=>CL.out V hb HF.out.1 HF.out.2);obtain⟨n,hn⟩:∃ n,Om.ix h (Om.hands o)=n:=⟨_,rfl⟩;rw [hn] at CL2 EV hlt ⊢
  have n16:n<=65536:=by omega
  clear hc CL RV hlt hn HF
  go_wp2_with (first | (refine wpList_load_od rfl _ rfl _ rfl BX.out ?_) | (refine wpList_build_under rfl _ rfl o a A rfl ?_))
  refine (CL2.out w1 B0.out).mono ?_;rintro e w2 ⟨a1,A1,rfl,own,hb⟩;have OW:=aq own;have z2:=hb.size;replace BX:=aq (BX.out.below hb);replace BR:=aq (BR.out.below hb);replace BQ:=aq (BQ.out.below hb);replace B0:=aq (B0.out.trans (hb.mono B0.out.size));clear own hb CL2 k1;unfold odv pv;obtain⟨X,hX⟩:∃ X,X=Om.inV o (n+1):=⟨_,rfl⟩;obtain⟨x,hx⟩:∃ x,x=Om.inH o:=⟨_,rfl⟩;have HXX:=aq hX;have HXH:=aq hx;rw [<-hX] at OW;rw [<-hX,<-hx];clear hX hx
  go_wp2_with (refine wpList_store_od rfl _ _ rfl _ rfl X a1 A1 rfl BR.out ?_;intro W9 hX hL;have BX9:=aq hX;have LD:=aq hL;replace BQ:=aq (hL.pbox BQ.out (by omega));obtain⟨_,r0,r1,rf0,rf1⟩:=BQ.out;dsimp only at r0 r1;clear hX hL)
  obtain⟨U,hU⟩:∃ U,U=wput2 W9 (w.heap.size+1+1+1) (.int .i64 x.1) (.int .i64 x.2):=⟨_,rfl⟩;have LU:=aq (show Laid1 W9 (w.heap.size+1+1+1) U by rw [hU];exact (Laid1.cell _ ⟨w.heap.size+1+1+1,0,none⟩ _).trans (Laid1.cell _ ⟨w.heap.size+1+1+1,1,none⟩ _));have BQ9:=aq (show PBox U (w.heap.size+1+1+1) x by rw [hU];exact BQ.out.put2 x);have BY:=aq (LU.out.obox BX9.out (by omega));have B9:=aq (LU.out.below (LD.out.below B0.out (by omega)) (by omega));have OO:=aq ((OW.out.laid LD.out (by omega)).laid LU.out (by omega));unfold wput2 at hU
  first | rw [<-hU] | skip
  clear hU;refine bodyPost_ret (results_odh (by first | rfl | kernel_rfl) _ _ _ _ _ rfl rfl rfl BY.out BQ9.out) rfl ?_;rw [EV.out.1,EV.out.2.1,EV.out.2.2,<-HXX.out,<-HXH.out];exact⟨_,_,rfl,OO.out.lower (by omega),B9.out⟩
 ·have k1:(Om.labE o h != 0)=true:=by simpa using hc
  have EV:=aq (Om.bes_no hc 1);clear hc CL
  go_wp2_with (refine wpList_store_od rfl _ _ rfl _ rfl Od.zero adsNone hNone rfl BR.out ?_;intro W9 hX hL;have BX9:=aq hX;have LD:=aq hL;replace BQ:=aq (hL.pbox BQ.out (by omega));obtain⟨_,r0,r1,rf0,rf1⟩:=BQ.out;dsimp only at r0 r1;clear hX hL)
  obtain⟨U,hU⟩:∃ U,U=wput2 W9 (w.heap.size+1+1+1) (.int .i64 0) (.int .i64 0):=⟨_,rfl⟩;have LU:=aq (show Laid1 W9 (w.heap.size+1+1+1) U by rw [hU];exact (Laid1.cell _ ⟨w.heap.size+1+1+1,0,none⟩ _).trans (Laid1.cell _ ⟨w.heap.size+1+1+1,1,none⟩ _));have BQ9:=aq (show PBox U (w.heap.size+1+1+1) (0,0) by rw [hU];exact BQ.out.put2 (0,0));have BY:=aq (LU.out.obox BX9.out (by omega));have B9:=aq (LU.out.below (LD.out.below B0.out (by omega)) (by omega));unfold wput2 at hU
  first | rw [<-hU] | skip
  clear hU;refine bodyPost_ret (results_odh (by first | rfl | kernel_rfl) _ _ _ _ _ rfl rfl rfl BY.out BQ9.out) rfl ?_;rw [EV.out.1,EV.out.2.1,EV.out.2.2];exact⟨_,_,rfl,oown_zero _ _,B9.out⟩
theorem mBefore (o:Od) (a:Ads) (A:HAds) (h:Int×Int) (w:World) (hh:OHeld w o a A) (hin:o.In) (hT:Tab w) (h1:In64 h.1) (h2:In64 h.2) :
  Calls Tryz.prog 13 #[odv o a A,pv h] w (OAns3 (Om.besV o h 0) (Om.besH o h) (Om.besE o h) w):=by
 have HX:=aq (fun x y z=>(((OBox.new w o a A 33).below ((Below.refl _ _).alloc (Nat.le_refl _) x)).below ((Below.refl _ _).alloc (Nat.le_refl _) y)).below ((Below.refl _ _).alloc (Nat.le_refl _) z));have HP:=aq (fun x y z=>((PBox.new (w.alloc x) h 39).below ((Below.refl _ _).alloc (Nat.le_refl _) y)).below ((Below.refl _ _).alloc (Nat.le_refl _) z));have HR:=aq (fun x y z=>(OBox.new ((w.alloc x).alloc y) Od.zero adsNone hNone 33).below ((Below.refl _ _).alloc (Nat.le_refl _) z));have HQ:=aq (fun x y z=>PBox.new (((w.alloc x).alloc y).alloc z) (0,0) 39);have BB:=aq (fun x y z u=>((((Below.refl w.heap.size w).alloc (Nat.le_refl _) x).alloc (by simp) y).alloc (by simp;omega) z).alloc (by simp;omega) u);have CC:=aq (fun V (hb:Below w.heap.size w V)=>mRank o a A h V (hh.below hb) hin (hT.below hb) h1 h2);have CL:=aq (fun V (hb:Below w.heap.size w V) F (hi:Om.ix h (Om.hands o) < (Om.hands o).length)=>(show Calls Tryz.prog 39 #[odv o a A,.int .i64 (((Om.ix h (Om.hands o):Nat):Int))] V (OAns3 (Om.inV o (Om.ix h (Om.hands o)+0)) (Om.inH o) (Om.inE o) V) from mLetIn o a A (Om.ix h (Om.hands o)+0) V (hh.below hb) hin (hT.below hb) F (by omega)))
 have I16:(Om.hands o).length<=65536:=by
  have q1:=Oc.places_length_le o.sl.words 0 o.sl.keys.length;have q2:(Om.pl o.sl).length=(Oc.places o.sl.words 0 o.sl.keys.length).length:=rfl;have q3:=hin.short.sl.keys;rw [Om.hands_len]
  omega
 clear hh hin hT h1 h2;unfold odv pv at CC;unfold odv at CL;unfold odv pv
 go_enter Tryz.func13,Tryz.ntmps13
 go_upto_region 1 with (fail)
 obtain⟨W0,hW0⟩:∃ W0,W0=(((w.alloc (.cells (odCells o a A) 33)).alloc (.cells #[.int .i64 h.1,.int .i64 h.2] 39)).alloc (.cells #[.int .u8 0,.int .i64 0,.int .i64 0,.int .i64 0,.int .i64 0,.int .i64 0,.int .i64 0,.int .i64 0,.int .i64 0,.int .i64 0,.slice none 0 0,.slice none 0 0,.slice none 0 0,.slice none 0 0,.int .u64 0,.slice none 0 0,.slice none 0 0,.int .u64 0] 33)).alloc (.cells #[.int .i64 0,.int .i64 0] 39):=⟨_,rfl⟩;have BX:=aq (show OBox W0 w.heap.size o a A by rw [hW0];exact HX.out _ _ _);have BP:=aq (show PBox W0 (w.heap.size+1) h by rw [hW0];have:=HP.out (.cells (odCells o a A) 33) (.cells #[.int .u8 0,.int .i64 0,.int .i64 0,.int .i64 0,.int .i64 0,.int .i64 0,.int .i64 0,.int .i64 0,.int .i64 0,.int .i64 0,.slice none 0 0,.slice none 0 0,.slice none 0 0,.slice none 0 0,.int .u64 0,.slice none 0 0,.slice none 0 0,.int .u64 0] 33) (.cells #[.int .i64 0,.int .i64 0] 39);rw [World.size_alloc] at this;exact this);have BR:=aq (show OBox W0 (w.heap.size+1+1) Od.zero adsNone hNone by rw [hW0];have:=HR.out (.cells (odCells o a A) 33) (.cells #[.int .i64 h.1,.int .i64 h.2] 39) (.cells #[.int .i64 0,.int .i64 0] 39);rw [World.size_alloc,World.size_alloc] at this;exact this);have BQ:=aq (show PBox W0 (w.heap.size+1+1+1) (0,0) by rw [hW0];have:=HQ.out (.cells (odCells o a A) 33) (.cells #[.int .i64 h.1,.int .i64 h.2] 39) (.cells #[.int .u8 0,.int .i64 0,.int .i64 0,.int .i64 0,.int .i64 0,.int .i64 0,.int .i64 0,.int .i64 0,.int .i64 0,.int .i64 0,.slice none 0 0,.slice none 0 0,.slice none 0 0,.slice none 0 0,.int .u64 0,.slice none 0 0,.slice none 0 0,.int .u64 0] 33);rw [World.size_alloc,World.size_alloc,World.size_alloc] at this;exact this)
 have B0:=aq (show Below w.heap.size w W0 by rw [hW0];exact BB.out _ _ _ _)
 have z0:w.heap.size+4<=W0.heap.size:=by rw [hW0];simp
 rw [<-hW0];clear hW0 HX HP HR HQ BB;obtain⟨_,p0,p1,_,_⟩:=BP.out
 go_wp2_with (refine wpList_load_od rfl _ rfl _ rfl BX.out ?_)
 refine (CC.out W0 B0.out).mono ?_;rintro e w1 ⟨rfl,hb⟩;replace BX:=aq (BX.out.below hb);replace BR:=aq (BR.out.below hb);replace BQ:=aq (BQ.out.below hb);replace B0:=aq (B0.out.trans (hb.mono B0.out.size));have z1:=hb.size;clear hb CC p0 p1 BP
 by_cases hc:Om.labE o h=0
 ·have k1:(Om.labE o h != 0)=false:=by simpa using hc
  have EV:=aq (Om.bes_in hc 0);have HF:=aq (Om.lab_yes hc);have RV:=aq (show Om.rankV o h=((Om.ix h (Om.hands o):Nat):Int) by unfold Om.rankV;rw [if_pos hc]);rw [RV.out];have hlt:=HF.out.2;have CL2:=aq (fun V hb=>CL.out V hb HF.out.1 HF.out.2);obtain⟨n,hn⟩:∃ n,Om.ix h (Om.hands o)=n:=⟨_,rfl⟩;rw [hn] at CL2 EV hlt ⊢
  have n16:n<=65536:=by omega
  clear hc CL RV hlt hn HF
  go_wp2_with (first | (refine wpList_load_od rfl _ rfl _ rfl BX.out ?_) | (refine wpList_build_under rfl _ rfl o a A rfl ?_))
  refine (CL2.out w1 B0.out).mono ?_;rintro e w2 ⟨a1,A1,rfl,own,hb⟩;have OW:=aq own;have z2:=hb.size;replace BX:=aq (BX.out.below hb);replace BR:=aq (BR.out.below hb);replace BQ:=aq (BQ.out.below hb);replace B0:=aq (B0.out.trans (hb.mono B0.out.size));clear own hb CL2 k1;unfold odv pv;obtain⟨X,hX⟩:∃ X,X=Om.inV o (n+0):=⟨_,rfl⟩;obtain⟨x,hx⟩:∃ x,x=Om.inH o:=⟨_,rfl⟩;have HXX:=aq hX;have HXH:=aq hx;rw [<-hX] at OW;rw [<-hX,<-hx];clear hX hx
  go_wp2_with (refine wpList_store_od rfl _ _ rfl _ rfl X a1 A1 rfl BR.out ?_;intro W9 hX hL;have BX9:=aq hX;have LD:=aq hL;replace BQ:=aq (hL.pbox BQ.out (by omega));obtain⟨_,r0,r1,rf0,rf1⟩:=BQ.out;dsimp only at r0 r1;clear hX hL)
  obtain⟨U,hU⟩:∃ U,U=wput2 W9 (w.heap.size+1+1+1) (.int .i64 x.1) (.int .i64 x.2):=⟨_,rfl⟩;have LU:=aq (show Laid1 W9 (w.heap.size+1+1+1) U by rw [hU];exact (Laid1.cell _ ⟨w.heap.size+1+1+1,0,none⟩ _).trans (Laid1.cell _ ⟨w.heap.size+1+1+1,1,none⟩ _));have BQ9:=aq (show PBox U (w.heap.size+1+1+1) x by rw [hU];exact BQ.out.put2 x);have BY:=aq (LU.out.obox BX9.out (by omega));have B9:=aq (LU.out.below (LD.out.below B0.out (by omega)) (by omega));have OO:=aq ((OW.out.laid LD.out (by omega)).laid LU.out (by omega));unfold wput2 at hU
  first | rw [<-hU] | skip
  clear hU;refine bodyPost_ret (results_odh (by first | rfl | kernel_rfl) _ _ _ _ _ rfl rfl rfl BY.out BQ9.out) rfl ?_;rw [EV.out.1,EV.out.2.1,EV.out.2.2,<-HXX.out,<-HXH.out];exact⟨_,_,rfl,OO.out.lower (by omega),B9.out⟩
 ·have k1:(Om.labE o h != 0)=true:=by simpa using hc
  have EV:=aq (Om.bes_no hc 0);clear hc CL
  go_wp2_with (refine wpList_store_od rfl _ _ rfl _ rfl Od.zero adsNone hNone rfl BR.out ?_;intro W9 hX hL;have BX9:=aq hX;have LD:=aq hL;replace BQ:=aq (hL.pbox BQ.out (by omega));obtain⟨_,r0,r1,rf0,rf1⟩:=BQ.out;dsimp only at r0 r1;clear hX hL)
  obtain⟨U,hU⟩:∃ U,U=wput2 W9 (w.heap.size+1+1+1) (.int .i64 0) (.int .i64 0):=⟨_,rfl⟩;have LU:=aq (show Laid1 W9 (w.heap.size+1+1+1) U by rw [hU];exact (Laid1.cell _ ⟨w.heap.size+1+1+1,0,none⟩ _).trans (Laid1.cell _ ⟨w.heap.size+1+1+1,1,none⟩ _));have BQ9:=aq (show PBox U (w.heap.size+1+1+1) (0,0) by rw [hU];exact BQ.out.put2 (0,0));have BY:=aq (LU.out.obox BX9.out (by omega));have B9:=aq (LU.out.below (LD.out.below B0.out (by omega)) (by omega));unfold wput2 at hU
  first | rw [<-hU] | skip
  clear hU;refine bodyPost_ret (results_odh (by first | rfl | kernel_rfl) _ _ _ _ _ rfl rfl rfl BY.out BQ9.out) rfl ?_;rw [EV.out.1,EV.out.2.1,EV.out.2.2];exact⟨_,_,rfl,oown_zero _ _,B9.out⟩
theorem mDelete (o:Od) (a:Ads) (A:HAds) (h:Int×Int) (w:World) (hh:OHeld w o a A) (hin:o.In) (hT:Tab w) (h1:In64 h.1) (h2:In64 h.2) :
  Calls Tryz.prog 34 #[odv o a A,pv h] w (OAns (Om.delV o h) (Om.delE o h) w):=by
 have HX:=aq (fun x y=>((OBox.new w o a A 33).below ((Below.refl _ _).alloc (Nat.le_refl _) x)).below ((Below.refl _ _).alloc (Nat.le_refl _) y));have HP:=aq (fun x y=>(PBox.new (w.alloc x) h 39).below ((Below.refl _ _).alloc (Nat.le_refl _) y));have HR:=aq (fun x y=>OBox.new ((w.alloc x).alloc y) Od.zero adsNone hNone 33);have BB:=aq (fun x y z=>(((Below.refl w.heap.size w).alloc (Nat.le_refl _) x).alloc (by simp) y).alloc (by simp;omega) z);have CC:=aq (fun V (hb:Below w.heap.size w V)=>mRank o a A h V (hh.below hb) hin (hT.below hb) h1 h2);have CL:=aq (fun V (hb:Below w.heap.size w V) F (hi:Om.ix h (Om.hands o) < (Om.hands o).length)=>mTakeOut o a A h (Om.ix h (Om.hands o)) V (hh.below hb) hin (hT.below hb) F hi rfl h1 h2);clear hh hin hT h1 h2;unfold odv pv at CC CL;unfold odv pv
 go_enter Tryz.func34,Tryz.ntmps34
 go_upto_region 1 with (fail)
 obtain⟨W0,hW0⟩:∃ W0,W0=((w.alloc (.cells (odCells o a A) 33)).alloc (.cells #[.int .i64 h.1,.int .i64 h.2] 39)).alloc (.cells #[.int .u8 0,.int .i64 0,.int .i64 0,.int .i64 0,.int .i64 0,.int .i64 0,.int .i64 0,.int .i64 0,.int .i64 0,.int .i64 0,.slice none 0 0,.slice none 0 0,.slice none 0 0,.slice none 0 0,.int .u64 0,.slice none 0 0,.slice none 0 0,.int .u64 0] 33):=⟨_,rfl⟩;have BX:=aq (show OBox W0 w.heap.size o a A by rw [hW0];exact HX.out _ _);have BP:=aq (show PBox W0 (w.heap.size+1) h by rw [hW0];have:=HP.out (.cells (odCells o a A) 33) (.cells #[.int .u8 0,.int .i64 0,.int .i64 0,.int .i64 0,.int .i64 0,.int .i64 0,.int .i64 0,.int .i64 0,.int .i64 0,.int .i64 0,.slice none 0 0,.slice none 0 0,.slice none 0 0,.slice none 0 0,.int .u64 0,.slice none 0 0,.slice none 0 0,.int .u64 0] 33);rw [World.size_alloc] at this;exact this);have BR:=aq (show OBox W0 (w.heap.size+1+1) Od.zero adsNone hNone by rw [hW0];have:=HR.out (.cells (odCells o a A) 33) (.cells #[.int .i64 h.1,.int .i64 h.2] 39);rw [World.size_alloc,World.size_alloc] at this;exact this);have B0:=aq (show Below w.heap.size w W0 by rw [hW0];exact BB.out _ _ _)
 have z0:w.heap.size+3<=W0.heap.size:=by rw [hW0];simp
 rw [<-hW0];clear hW0 HX HP HR BB;obtain⟨_,p0,p1,_,_⟩:=BP.out
 go_wp2_with (refine wpList_load_od rfl _ rfl _ rfl BX.out ?_)
 refine (CC.out W0 B0.out).mono ?_;rintro e w1 ⟨rfl,hb⟩;replace BX:=aq (BX.out.below hb);replace BR:=aq (BR.out.below hb);replace BP:=aq (BP.out.below hb);replace B0:=aq (B0.out.trans (hb.mono B0.out.size));have z1:=hb.size;clear hb CC p0 p1
 by_cases hc:Om.labE o h=0
 ·have k1:(Om.labE o h != 0)=false:=by simpa using hc
  have EV:=aq (show Om.delE o h=0/\Om.delV o h=Om.outO o h from⟨hc,by unfold Om.delV Om.delE;rw [if_pos hc]⟩);have HF:=aq (Om.lab_yes hc);have RV:=aq (show Om.rankV o h=((Om.ix h (Om.hands o):Nat):Int) by unfold Om.rankV;rw [if_pos hc]);rw [RV.out];have CL2:=aq (fun V hb=>CL.out V hb HF.out.1 HF.out.2);obtain⟨n,hn⟩:∃ n,Om.ix h (Om.hands o)=n:=⟨_,rfl⟩;rw [hn] at CL2 ⊢;clear hc CL RV hn HF;obtain⟨_,p0,p1,_,_⟩:=BP.out
  go_wp2_with (first | (refine wpList_load_od rfl _ rfl _ rfl BX.out ?_) | (refine wpList_build_under rfl _ rfl o a A rfl ?_))
  refine (CL2.out w1 B0.out).mono ?_;rintro e w2 ⟨a1,A1,rfl,own,hb⟩;have OW:=aq own;have z2:=hb.size;replace BX:=aq (BX.out.below hb);replace BR:=aq (BR.out.below hb);replace B0:=aq (B0.out.trans (hb.mono B0.out.size));clear own hb CL2 k1 p0 p1;unfold odv;obtain⟨X,hX⟩:∃ X,X=Om.outO o h:=⟨_,rfl⟩;have HXX:=aq hX;rw [<-hX] at OW;rw [<-hX];clear hX
  go_wp2_with (refine wpList_store_od rfl _ _ rfl _ rfl X a1 A1 rfl BR.out ?_;intro W9 hX hL;have BX9:=aq hX;have LD:=aq hL;clear hX hL)
  refine bodyPost_ret (results_ode (by first | rfl | kernel_rfl) _ _ _ _ rfl rfl BX9.out) rfl ?_;rw [EV.out.1,EV.out.2,<-HXX.out];exact⟨_,_,rfl,(OW.out.laid LD.out (by omega)).lower (by omega),LD.out.below B0.out (by omega)⟩
 ·have k1:(Om.labE o h != 0)=true:=by simpa using hc
  have EV:=aq (show Om.delE o h=Om.labE o h/\Om.delV o h=Od.zero from⟨rfl,by unfold Om.delV Om.delE;rw [if_neg hc]⟩);clear hc CL
  go_wp2_with (refine wpList_store_od rfl _ _ rfl _ rfl Od.zero adsNone hNone rfl BR.out ?_;intro W9 hX hL;have BX9:=aq hX;have LD:=aq hL;clear hX hL)
  refine bodyPost_ret (results_ode (by first | rfl | kernel_rfl) _ _ _ _ rfl rfl BX9.out) rfl ?_;rw [EV.out.1,EV.out.2];exact⟨_,_,rfl,oown_zero _ _,LD.out.below B0.out (by omega)⟩
end Go.Proofs.YtpeckljoannolaaGreatDoor

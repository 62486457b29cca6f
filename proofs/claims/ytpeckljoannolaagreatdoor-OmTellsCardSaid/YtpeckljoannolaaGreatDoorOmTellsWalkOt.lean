/- The walk of the law OmTells: checks, new lists, copies, handles, labels, and how two stand. -/
import Derived.Test.YtpeckljoannolaaGreatDoorTkOt
import Derived.Test.YtpeckljoannolaaGreatDoorS1dOt
import Derived.Test.YtpeckljoannolaaGreatDoorS1rOt
import Derived.Test.YtpeckljoannolaaGreatDoorSpoil15Ot
import Derived.Deep.Cut
set_option linter.unusedVariables false
set_option linter.unusedSimpArgs false
set_option maxHeartbeats 8000000
set_option maxRecDepth 100000
namespace Go.Proofs.YtpeckljoannolaaGreatDoor.omTells
open Go.RowKit
theorem short_of {o:Od} (h:Om.greatB o 600=false):o.Short:=by
 unfold Om.greatB Sl.greatB at h
 simp only [Bool.or_eq_false_iff,decide_eq_false_iff_not] at h
 exact⟨⟨by omega,by omega,by omega,by omega⟩,⟨by omega,by omega⟩⟩
theorem sameB_self (o:Od):Om.sameB o o=true:=by unfold Om.sameB Om.cfB Sl.sameB Hn.sameB;simp
theorem newV_short (c:Cf):(Om.newV c).Short:=by
 unfold Om.newV
 split
 ·exact⟨Gp.new_fine.short,⟨by simp [Ht.zero],by simp [Ht.zero]⟩⟩
 ·exact⟨short_none,⟨by simp [Od.zero,Ht.zero],by simp [Od.zero,Ht.zero]⟩⟩
theorem row_base {w:World} {B:Nat} {v:Value} {l:List (Int×Int)} (h:w.ownsRow B 39 2 v l.length (pcells l)):∃ A c,v=.slice A l.length c/\PLst w A l/\∀ p,A=some p->B<=p.block:=by
 obtain⟨A,c,hv,q1,_,q3,_⟩:=own_cells h;exact⟨A,c,hv,q1,fun p hp=>(q3 p hp).1⟩
theorem plst_off {w W:World} {U:Nat} {A:Option Addr} {l:List (Int×Int)} (h:PLst w A l) (hA:∀ p,A=some p->U<=p.block) (hs:∀ g,U<=g->g < w.heap.size->W.heap[g]?=w.heap[g]?) (hz:w.heap.size<=W.heap.size):PLst W A l:=by
 rcases h with h0 | ⟨b,off,h1,h2,h3⟩
 ·exact Or.inl h0
 ·exact Or.inr ⟨b,off,h1,Nat.lt_of_lt_of_le h2 hz,fun i hi=>(World.cell?_of_block (w:=w) (a:=⟨b,off+i,none⟩) (hs b (hA _ h1) h2)).trans (h3 i hi)⟩
/-! The arguments' boxes. -/
def args (o p:Od) (a b:Ads) (A B:HAds) (x y:Int×Int) (W:World):World:=(((W.alloc (.cells (odCells o a A) 33)).alloc (.cells (odCells p b B) 33)).alloc (.cells #[.int .i64 x.1,.int .i64 x.2] 39)).alloc (.cells #[.int .i64 y.1,.int .i64 y.2] 39)
theorem args_o (o p:Od) (a b:Ads) (A B:HAds) (x y:Int×Int) (W:World):OBox (args o p a b A B x y W) W.heap.size o a A:=(((OBox.new W o a A 33).below (lay1b _ _)).below (lay1b _ _)).below (lay1b _ _)
theorem args_p (o p:Od) (a b:Ads) (A B:HAds) (x y:Int×Int) (W:World):OBox (args o p a b A B x y W) (W.heap.size+1) p b B:=by
 have:=OBox.new (W.alloc (.cells (odCells o a A) 33)) p b B 33;rw [World.size_alloc] at this;exact (this.below (lay1b _ _)).below (lay1b _ _)
theorem args_x (o p:Od) (a b:Ads) (A B:HAds) (x y:Int×Int) (W:World):PBox (args o p a b A B x y W) (W.heap.size+1+1) x:=by
 have:=PBox.new ((W.alloc (.cells (odCells o a A) 33)).alloc (.cells (odCells p b B) 33)) x 39;rw [World.size_alloc,World.size_alloc] at this;exact this.below (lay1b _ _)
theorem args_y (o p:Od) (a b:Ads) (A B:HAds) (x y:Int×Int) (W:World):PBox (args o p a b A B x y W) (W.heap.size+1+1+1) y:=by
 have:=PBox.new (((W.alloc (.cells (odCells o a A) 33)).alloc (.cells (odCells p b B) 33)).alloc (.cells #[.int .i64 x.1,.int .i64 x.2] 39)) y 39;rw [World.size_alloc,World.size_alloc,World.size_alloc] at this;exact this
theorem args_b (o p:Od) (a b:Ads) (A B:HAds) (x y:Int×Int) (W:World):Below W.heap.size W (args o p a b A B x y W):=((lay1b W _).trans ((lay1b _ _).mono (by simp))).trans (((lay1b _ _).mono (by simp;omega)).trans ((lay1b _ _).mono (by simp;omega)))
theorem args_z (o p:Od) (a b:Ads) (A B:HAds) (x y:Int×Int) (W:World):W.heap.size+4<=(args o p a b A B x y W).heap.size:=by unfold args;simp
theorem great (o p:Od) (a b:Ads) (A B:HAds) (x y:Int×Int) (W:World) (h:OHeld W o a A) (hc:o.cf.In) (ok:o.Ok) (h':OHeld W p b B) (hc':p.cf.In) (ok':p.Ok) (x1:In64 x.1) (x2:In64 x.2) (y1:In64 y.1) (y2:In64 y.2) (hT:Tab W) (hg:Om.greatB o 600=true) :
  Calls Tryz.prog 4 #[odv o a A,odv p b B,pv x,pv y] W fun e w'=>e=.returned (.bool true)/\Below W.heap.size W w':=by
 have HA:=aq (And.intro (args_o o p a b A B x y W) (And.intro (args_p o p a b A B x y W) (And.intro (args_x o p a b A B x y W) (And.intro (args_y o p a b A B x y W) (And.intro (args_b o p a b A B x y W) (args_z o p a b A B x y W))))));have c0:=aq (fun V=>r15Great o a A 600 V);have c1:=aq (fun V=>r15Great p b B 600 V);rw [hg] at c0;clear h hc ok h' hc' ok' hT x1 x2 y1 y2;unfold odv at c0 c1;unfold odv pv
 go_enter Tryz.func4,Tryz.ntmps4
 go_upto_region 1 with (fail)
 obtain⟨W0,hW0⟩:∃ W0,W0=args o p a b A B x y W:=⟨_,rfl⟩;rw [<-hW0] at HA;obtain⟨q1,q2,q3,q4,q5,q6⟩:=HA.out;have BX:=aq q1;have BO:=aq q2;have BP:=aq q3;have BQ:=aq q4;have BB:=aq q5;have z0:=q6;unfold args at hW0;rw [<-hW0];clear hW0 HA q1 q2 q3 q4 q5 q6
 go_wp2_with (first | (refine wpList_load_od rfl _ rfl _ rfl BX.out ?_) | (refine wpList_load_od rfl _ rfl _ rfl BO.out ?_) | (refine wpList_load_odg (by rfl) _ rfl _ rfl BX.out ?_) | (refine wpList_load_odg (by rfl) _ rfl _ rfl BO.out ?_))
 refine (c0.out W0).mono ?_;rintro e x1 ⟨rfl,hb⟩;have zzx1:W0.heap.size<=x1.heap.size:=hb.size;replace BX:=aq (BX.out.below hb);replace BO:=aq (BO.out.below hb);replace BP:=aq (BP.out.below hb);replace BQ:=aq (BQ.out.below hb);replace BB:=aq (BB.out.trans (hb.mono BB.out.size));clear hb ;go_wp2;go_ret;exact⟨rfl,BB.out⟩
theorem great2 (o p:Od) (a b:Ads) (A B:HAds) (x y:Int×Int) (W:World) (h:OHeld W o a A) (hc:o.cf.In) (ok:o.Ok) (h':OHeld W p b B) (hc':p.cf.In) (ok':p.Ok) (x1:In64 x.1) (x2:In64 x.2) (y1:In64 y.1) (y2:In64 y.2) (hT:Tab W) (hg:Om.greatB o 600=false) (hg':Om.greatB p 600=true) :
  Calls Tryz.prog 4 #[odv o a A,odv p b B,pv x,pv y] W fun e w'=>e=.returned (.bool true)/\Below W.heap.size W w':=by
 have HA:=aq (And.intro (args_o o p a b A B x y W) (And.intro (args_p o p a b A B x y W) (And.intro (args_x o p a b A B x y W) (And.intro (args_y o p a b A B x y W) (And.intro (args_b o p a b A B x y W) (args_z o p a b A B x y W))))));have c0:=aq (fun V=>r15Great o a A 600 V);have c1:=aq (fun V=>r15Great p b B 600 V);rw [hg] at c0;rw [hg'] at c1;clear h hc ok h' hc' ok' hT x1 x2 y1 y2;unfold odv at c0 c1;unfold odv pv
 go_enter Tryz.func4,Tryz.ntmps4
 go_upto_region 1 with (fail)
 obtain⟨W0,hW0⟩:∃ W0,W0=args o p a b A B x y W:=⟨_,rfl⟩;rw [<-hW0] at HA;obtain⟨q1,q2,q3,q4,q5,q6⟩:=HA.out;have BX:=aq q1;have BO:=aq q2;have BP:=aq q3;have BQ:=aq q4;have BB:=aq q5;have z0:=q6;unfold args at hW0;rw [<-hW0];clear hW0 HA q1 q2 q3 q4 q5 q6
 go_wp2_with (first | (refine wpList_load_od rfl _ rfl _ rfl BX.out ?_) | (refine wpList_load_od rfl _ rfl _ rfl BO.out ?_) | (refine wpList_load_odg (by rfl) _ rfl _ rfl BX.out ?_) | (refine wpList_load_odg (by rfl) _ rfl _ rfl BO.out ?_))
 refine (c0.out W0).mono ?_;rintro e x1 ⟨rfl,hb⟩;have zzx1:W0.heap.size<=x1.heap.size:=hb.size;replace BX:=aq (BX.out.below hb);replace BO:=aq (BO.out.below hb);replace BP:=aq (BP.out.below hb);replace BQ:=aq (BQ.out.below hb);replace BB:=aq (BB.out.trans (hb.mono BB.out.size));clear hb
 go_wp2_with (first | (refine wpList_load_od rfl _ rfl _ rfl BX.out ?_) | (refine wpList_load_od rfl _ rfl _ rfl BO.out ?_) | (refine wpList_load_odg (by rfl) _ rfl _ rfl BX.out ?_) | (refine wpList_load_odg (by rfl) _ rfl _ rfl BO.out ?_))
 refine (c1.out x1).mono ?_;rintro e x2 ⟨rfl,hb⟩;have zzx2:x1.heap.size<=x2.heap.size:=hb.size;replace BX:=aq (BX.out.below hb);replace BO:=aq (BO.out.below hb);replace BP:=aq (BP.out.below hb);replace BQ:=aq (BQ.out.below hb);replace BB:=aq (BB.out.trans (hb.mono BB.out.size));clear hb ;go_wp2;go_ret;exact⟨rfl,BB.out⟩
theorem small (o p:Od) (a b:Ads) (A B:HAds) (x y:Int×Int) (W:World) (h:OHeld W o a A) (hc:o.cf.In) (ok:o.Ok) (h':OHeld W p b B) (hc':p.cf.In) (ok':p.Ok) (x1:In64 x.1) (x2:In64 x.2) (y1:In64 y.1) (y2:In64 y.2) (hT:Tab W) (hg:Om.greatB o 600=false) (hg':Om.greatB p 600=false) :
  Calls Tryz.prog 4 #[odv o a A,odv p b B,pv x,pv y] W fun e w'=>e=.returned (.bool true)/\Below W.heap.size W w':=by
 have HA:=aq (And.intro (args_o o p a b A B x y W) (And.intro (args_p o p a b A B x y W) (And.intro (args_x o p a b A B x y W) (And.intro (args_y o p a b A B x y W) (And.intro (args_b o p a b A B x y W) (args_z o p a b A B x y W))))));have c0:=aq (fun V=>r15Great o a A 600 V);have c1:=aq (fun V=>r15Great p b B 600 V);have hs:=short_of hg;have hs':=short_of hg';have hin:o.In:=⟨hc,ok,hs⟩
 have l16:(Om.listV o).length<=2147483647:=by
  have q:=Oc.places_length_le o.sl.words 0 o.sl.keys.length;have q2:(Om.pl o.sl).length=(Oc.places o.sl.words 0 o.sl.keys.length).length:=rfl;have q3:=hs.sl.keys;unfold Om.listV
  split
  ·rw [Om.hands_len];omega
  ·simp
 have c2:=aq (fun V (hb:Below W.heap.size W V)=>r15Twin o a A V (h.below hb) hs);have c3:=aq (fun a1 A1 V (q:OHeld V o a1 A1)=>mTwin o a1 A1 V q ok.tb hs);have c4:=aq (fun V=>mNew o.cf V hc);have c5:=aq (fun V=>r15New o.cf V hc);have c6:=aq (fun a1 A1 V (q:OHeld V o a1 A1) (hb:Below W.heap.size W V)=>mList o a1 A1 V q hin (hT.below hb));have c7:=aq (fun V (hb:Below W.heap.size W V)=>r15List o a A V (h.below hb) hin);have c8:=aq (fun a1 A1 V (q:OHeld V o a1 A1) (hb:Below W.heap.size W V)=>mCompare o a1 A1 x y V q hin (hT.below hb) x1 x2 y1 y2);have c9:=aq (fun V (hb:Below W.heap.size W V)=>r15Compare o a A x y V (h.below hb) hin);have c10:=aq (fun a1 A1 V (q:OHeld V o a1 A1) (hb:Below W.heap.size W V)=>mLabel o a1 A1 x V q hin (hT.below hb) x1 x2);have c11:=aq (fun V (hb:Below W.heap.size W V)=>r15Label o a A x V (h.below hb) hin);have c12:=aq (fun a1 A1 V (q:OHeld V o a1 A1) (hb:Below W.heap.size W V)=>mCheck o a1 A1 V q hin (hT.below hb));have c13:=aq (fun V (hb:Below W.heap.size W V)=>r15Check o a A V (h.below hb) hin);have c14:=aq (fun a1 A1 V (q:OHeld V o a1 A1) (hb:Below W.heap.size W V)=>mSame o p a1 b A1 B V q (h'.below hb) hin ok' hs');have c15:=aq (fun V (hb:Below W.heap.size W V)=>r15Same o p a b A B V (h.below hb) (h'.below hb) hs hs');have c16:=aq (fun a1 A1 V (q:OHeld V o a1 A1) (hb:Below W.heap.size W V)=>mSame o o a1 a A1 A V q (h.below hb) hin ok hs)
 have c17:=aq (fun a1 A1 V (q:OHeld V o a1 A1) (hb:Below W.heap.size W V)=>r15Same o o a1 a A1 A V q (h.below hb) hs hs);have c18:=aq (fun a3 a4 A3 A4 V (q:OHeld V (Om.newV o.cf) a3 A3) (q':OHeld V (Om.newV o.cf) a4 A4)=>r15Same (Om.newV o.cf) (Om.newV o.cf) a3 a4 A3 A4 V q q' (newV_short _) (newV_short _));have c19:=aq (fun a2 A2 B1 U1 V (q:SoftO V B1 U1 o a2 A2) (hB:B1<=V.heap.size)=>l15Spoil o a2 A2 B1 U1 V q hB hs);have c20:=aq (fun (AL AK:Option Addr) (cL cK:Nat) V (q:PLst V AL (Om.listV o)) (q':PLst V AK (Om.listV o))=>r15SameHandles AL AK cL cK (Om.listV o) (Om.listV o) V q q' l16 l16);rw [beq_self_eq_true] at c20;rw [sameB_self] at c16 c17 c18;rw [hg] at c0;rw [hg'] at c1;obtain⟨N,hN⟩:∃ N,N=Om.newV o.cf:=⟨_,rfl⟩;obtain⟨L,hL⟩:∃ L,L=Om.listV o:=⟨_,rfl⟩;obtain⟨E1,hE1⟩:∃ E,E=Om.chkE o:=⟨_,rfl⟩;obtain⟨E2,hE2⟩:∃ E,E=o.cf.chkE:=⟨_,rfl⟩;obtain⟨E3,hE3⟩:∃ E,E=Om.cmpV o x y:=⟨_,rfl⟩;obtain⟨E4,hE4⟩:∃ E,E=Om.cmpE o x y:=⟨_,rfl⟩;obtain⟨E5,hE5⟩:∃ E,E=Om.labV o x:=⟨_,rfl⟩;obtain⟨E6,hE6⟩:∃ E,E=Om.labE o x:=⟨_,rfl⟩;obtain⟨E7,hE7⟩:∃ E,E=Om.sameB o p:=⟨_,rfl⟩;rw [<-hN] at c4 c5 c18;rw [<-hE2] at c4 c5;rw [<-hL] at c6 c7 c20;rw [<-hE1] at c6 c7 c12 c13;rw [<-hE3,<-hE4] at c8 c9;rw [<-hE5,<-hE6] at c10 c11;rw [<-hE7] at c14 c15;clear hN hL hE1 hE2 hE3 hE4 hE5 hE6 hE7 hs hs' hin l16 hg hg';unfold odv at c2 c3 c6 c7 c8 c9 c10 c11 c12 c13 c14 c15 c16 c17 c18 c19
 unfold cfv at c4 c5;unfold pv at c8 c9 c10 c11;clear h hc ok h' hc' ok' hT x1 x2 y1 y2;unfold odv at c0 c1;unfold odv pv
 go_enter Tryz.func4,Tryz.ntmps4
 go_upto_region 1 with (fail)
 obtain⟨W0,hW0⟩:∃ W0,W0=args o p a b A B x y W:=⟨_,rfl⟩;rw [<-hW0] at HA;obtain⟨q1,q2,q3,q4,q5,q6⟩:=HA.out;have BX:=aq q1;have BO:=aq q2;have BP:=aq q3;have BQ:=aq q4;have BB:=aq q5;have z0:=q6;unfold args at hW0;rw [<-hW0];clear hW0 HA q1 q2 q3 q4 q5 q6
 go_wp2_with (first | (refine wpList_load_od rfl _ rfl _ rfl BX.out ?_) | (refine wpList_load_od rfl _ rfl _ rfl BO.out ?_) | (refine wpList_load_odg (by rfl) _ rfl _ rfl BX.out ?_) | (refine wpList_load_odg (by rfl) _ rfl _ rfl BO.out ?_))
 refine (c0.out W0).mono ?_;rintro e x1 ⟨rfl,hb⟩;have zzx1:W0.heap.size<=x1.heap.size:=hb.size;replace BX:=aq (BX.out.below hb);replace BO:=aq (BO.out.below hb);replace BP:=aq (BP.out.below hb);replace BQ:=aq (BQ.out.below hb);replace BB:=aq (BB.out.trans (hb.mono BB.out.size));clear hb
 go_wp2_with (first | (refine wpList_load_od rfl _ rfl _ rfl BX.out ?_) | (refine wpList_load_od rfl _ rfl _ rfl BO.out ?_) | (refine wpList_load_odg (by rfl) _ rfl _ rfl BX.out ?_) | (refine wpList_load_odg (by rfl) _ rfl _ rfl BO.out ?_))
 refine (c1.out x1).mono ?_;rintro e x2 ⟨rfl,hb⟩;have zzx2:x1.heap.size<=x2.heap.size:=hb.size;replace BX:=aq (BX.out.below hb);replace BO:=aq (BO.out.below hb);replace BP:=aq (BP.out.below hb);replace BQ:=aq (BQ.out.below hb);replace BB:=aq (BB.out.trans (hb.mono BB.out.size));clear hb
 go_wp2_with (first | (refine wpList_load_od rfl _ rfl _ rfl BX.out ?_) | (refine wpList_load_od rfl _ rfl _ rfl BO.out ?_) | (refine wpList_load_odg (by rfl) _ rfl _ rfl BX.out ?_) | (refine wpList_load_odg (by rfl) _ rfl _ rfl BO.out ?_))
 refine (c2.out x2 BB.out).mono ?_;rintro e x3 ⟨a1,A1,rfl,own,hb⟩;have zzx3:x2.heap.size<=x3.heap.size:=hb.size;replace BX:=aq (BX.out.below hb);replace BO:=aq (BO.out.below hb);replace BP:=aq (BP.out.below hb);replace BQ:=aq (BQ.out.below hb);replace BB:=aq (BB.out.trans (hb.mono BB.out.size));have O1:=aq own;clear own;clear hb ;unfold odv
 go_upto_region 4 with (refine wpList_store_od rfl _ _ rfl _ rfl o a1 A1 rfl (lay1o _) ?_;intro V4 hX hL;have BW:=aq hX;have hb:=hL.below (lay1b x3 _) (Nat.le_refl _);have LL:=aq hb;clear hX hL hb)
 have hb:=LL.out;clear LL;have zzV4:x3.heap.size < V4.heap.size:=BW.out.lt;replace BX:=aq (BX.out.below hb);replace BO:=aq (BO.out.below hb);replace BP:=aq (BP.out.below hb);replace BQ:=aq (BQ.out.below hb);replace O1:=aq (O1.out.below hb);replace BB:=aq (BB.out.trans (hb.mono BB.out.size));clear hb;have BY:=aq (Below.refl V4.heap.size V4);have OW:=aq O1.out.held;clear O1
 go_wp2_with (first | (refine wpList_load_od rfl _ rfl _ rfl BX.out ?_) | (refine wpList_load_od rfl _ rfl _ rfl BO.out ?_) | (refine wpList_load_od rfl _ rfl _ rfl BW.out ?_) | (refine wpList_load_odg (by rfl) _ rfl _ rfl BX.out ?_) | (refine wpList_load_odg (by rfl) _ rfl _ rfl BO.out ?_) | (refine wpList_load_odg (by rfl) _ rfl _ rfl BW.out ?_))
 refine (c3.out a1 A1 V4 (OW.out.below BY.out)).mono ?_;rintro e x5 ⟨a2,A2,rfl,own,hb⟩;have zzx5:V4.heap.size<=x5.heap.size:=hb.size;replace BX:=aq (BX.out.below hb);replace BO:=aq (BO.out.below hb);replace BP:=aq (BP.out.below hb);replace BQ:=aq (BQ.out.below hb);replace BW:=aq (BW.out.below hb);replace BB:=aq (BB.out.trans (hb.mono BB.out.size));replace BY:=aq (BY.out.trans (hb.mono BY.out.size));have O2:=aq own;clear own;clear hb ;have S2:=aq O2.out.soft;have X2:=aq O2.out.held;have Y2:=aq (Below.refl x5.heap.size x5);clear O2;unfold odv
 go_upto_region 5 with (refine wpList_store_od rfl _ _ rfl _ rfl o a2 A2 rfl (lay1o _) ?_;intro V6 hX hL;have BT:=aq hX;have hb:=hL.below (lay1b x5 _) (Nat.le_refl _);have LL:=aq hb;clear hX hL hb)
 have hb:=LL.out;clear LL;have zzV6:x5.heap.size < V6.heap.size:=BT.out.lt;replace BX:=aq (BX.out.below hb);replace BO:=aq (BO.out.below hb);replace BP:=aq (BP.out.below hb);replace BQ:=aq (BQ.out.below hb);replace BW:=aq (BW.out.below hb);replace S2:=aq (S2.out.below hb);replace BB:=aq (BB.out.trans (hb.mono BB.out.size));replace BY:=aq (BY.out.trans (hb.mono BY.out.size));replace Y2:=aq (Y2.out.trans (hb.mono Y2.out.size));clear hb;have d0:=BX.out.cells.c0;have d1:=BX.out.cells.c1;have d2:=BX.out.cells.c2;have d3:=BX.out.cells.c3;have d4:=BX.out.cells.c4;have d5:=BX.out.cells.c5;have d6:=BX.out.cells.c6;have d7:=BX.out.cells.c7;have d8:=BX.out.cells.c8
 go_wp2_with (first | (refine wpList_load_od rfl _ rfl _ rfl BX.out ?_) | (refine wpList_load_od rfl _ rfl _ rfl BO.out ?_) | (refine wpList_load_od rfl _ rfl _ rfl BW.out ?_) | (refine wpList_load_od rfl _ rfl _ rfl BT.out ?_) | (refine wpList_load_odg (by rfl) _ rfl _ rfl BX.out ?_) | (refine wpList_load_odg (by rfl) _ rfl _ rfl BO.out ?_) | (refine wpList_load_odg (by rfl) _ rfl _ rfl BW.out ?_) | (refine wpList_load_odg (by rfl) _ rfl _ rfl BT.out ?_))
 refine (c4.out V6).mono ?_;rintro e x7 ⟨a3,A3,rfl,own,hb⟩;have zzx7:V6.heap.size<=x7.heap.size:=hb.size;replace BX:=aq (BX.out.below hb);replace BO:=aq (BO.out.below hb);replace BP:=aq (BP.out.below hb);replace BQ:=aq (BQ.out.below hb);replace BW:=aq (BW.out.below hb);replace S2:=aq (S2.out.below hb);replace BT:=aq (BT.out.below hb);replace BB:=aq (BB.out.trans (hb.mono BB.out.size));replace BY:=aq (BY.out.trans (hb.mono BY.out.size));replace Y2:=aq (Y2.out.trans (hb.mono Y2.out.size));have O3:=aq own;clear own;clear hb ;clear d0 d1 d2 d3 d4 d5 d6 d7 d8;have H3:=aq O3.out.held;clear O3;unfold odv
 go_upto_region 6 with (refine wpList_store_od rfl _ _ rfl _ rfl N a3 A3 rfl (lay1o _) ?_;intro V8 hX hL;have BE:=aq hX;have hb:=hL.below (lay1b x7 _) (Nat.le_refl _);have LL:=aq hb;clear hX hL hb)
 have hb:=LL.out;clear LL;have zzV8:x7.heap.size < V8.heap.size:=BE.out.lt;replace BX:=aq (BX.out.below hb);replace BO:=aq (BO.out.below hb);replace BP:=aq (BP.out.below hb);replace BQ:=aq (BQ.out.below hb);replace BW:=aq (BW.out.below hb);replace S2:=aq (S2.out.below hb);replace BT:=aq (BT.out.below hb);replace H3:=aq (H3.out.below hb);replace BB:=aq (BB.out.trans (hb.mono BB.out.size));replace BY:=aq (BY.out.trans (hb.mono BY.out.size));replace Y2:=aq (Y2.out.trans (hb.mono Y2.out.size));clear hb;have d0:=BX.out.cells.c0;have d1:=BX.out.cells.c1;have d2:=BX.out.cells.c2;have d3:=BX.out.cells.c3;have d4:=BX.out.cells.c4;have d5:=BX.out.cells.c5;have d6:=BX.out.cells.c6;have d7:=BX.out.cells.c7;have d8:=BX.out.cells.c8
 go_wp2_with (first | (refine wpList_load_od rfl _ rfl _ rfl BX.out ?_) | (refine wpList_load_od rfl _ rfl _ rfl BO.out ?_) | (refine wpList_load_od rfl _ rfl _ rfl BW.out ?_) | (refine wpList_load_od rfl _ rfl _ rfl BT.out ?_) | (refine wpList_load_od rfl _ rfl _ rfl BE.out ?_) | (refine wpList_load_odg (by rfl) _ rfl _ rfl BX.out ?_) | (refine wpList_load_odg (by rfl) _ rfl _ rfl BO.out ?_) | (refine wpList_load_odg (by rfl) _ rfl _ rfl BW.out ?_) | (refine wpList_load_odg (by rfl) _ rfl _ rfl BT.out ?_) | (refine wpList_load_odg (by rfl) _ rfl _ rfl BE.out ?_))
 refine (c5.out V8).mono ?_;rintro e x9 ⟨a4,A4,rfl,own,hb⟩;have zzx9:V8.heap.size<=x9.heap.size:=hb.size;replace BX:=aq (BX.out.below hb);replace BO:=aq (BO.out.below hb);replace BP:=aq (BP.out.below hb);replace BQ:=aq (BQ.out.below hb);replace BW:=aq (BW.out.below hb);replace S2:=aq (S2.out.below hb);replace BT:=aq (BT.out.below hb);replace H3:=aq (H3.out.below hb);replace BE:=aq (BE.out.below hb);replace BB:=aq (BB.out.trans (hb.mono BB.out.size));replace BY:=aq (BY.out.trans (hb.mono BY.out.size));replace Y2:=aq (Y2.out.trans (hb.mono Y2.out.size));have O4:=aq own;clear own;clear hb ;clear d0 d1 d2 d3 d4 d5 d6 d7 d8;have H4:=aq O4.out.held;clear O4;unfold odv
 go_upto_region 7 with (refine wpList_store_od rfl _ _ rfl _ rfl N a4 A4 rfl (lay1o _) ?_;intro V10 hX hL;have BN:=aq hX;have hb:=hL.below (lay1b x9 _) (Nat.le_refl _);have LL:=aq hb;clear hX hL hb)
 have hb:=LL.out;clear LL;have zzV10:x9.heap.size < V10.heap.size:=BN.out.lt;replace BX:=aq (BX.out.below hb);replace BO:=aq (BO.out.below hb);replace BP:=aq (BP.out.below hb);replace BQ:=aq (BQ.out.below hb);replace BW:=aq (BW.out.below hb);replace S2:=aq (S2.out.below hb);replace BT:=aq (BT.out.below hb);replace H3:=aq (H3.out.below hb);replace BE:=aq (BE.out.below hb);replace H4:=aq (H4.out.below hb);replace BB:=aq (BB.out.trans (hb.mono BB.out.size));replace BY:=aq (BY.out.trans (hb.mono BY.out.size));replace Y2:=aq (Y2.out.trans (hb.mono Y2.out.size));clear hb
 go_wp2_with (first | (refine wpList_load_od rfl _ rfl _ rfl BX.out ?_) | (refine wpList_load_od rfl _ rfl _ rfl BO.out ?_) | (refine wpList_load_od rfl _ rfl _ rfl BW.out ?_) | (refine wpList_load_od rfl _ rfl _ rfl BT.out ?_) | (refine wpList_load_od rfl _ rfl _ rfl BE.out ?_) | (refine wpList_load_od rfl _ rfl _ rfl BN.out ?_) | (refine wpList_load_odg (by rfl) _ rfl _ rfl BX.out ?_) | (refine wpList_load_odg (by rfl) _ rfl _ rfl BO.out ?_) | (refine wpList_load_odg (by rfl) _ rfl _ rfl BW.out ?_) | (refine wpList_load_odg (by rfl) _ rfl _ rfl BT.out ?_) | (refine wpList_load_odg (by rfl) _ rfl _ rfl BE.out ?_) | (refine wpList_load_odg (by rfl) _ rfl _ rfl BN.out ?_))
 refine (c6.out a1 A1 V10 (OW.out.below BY.out) BB.out).mono ?_;rintro e x11 ⟨v9,rfl,hrow,hb⟩;have zzx11:V10.heap.size<=x11.heap.size:=hb.size;replace BX:=aq (BX.out.below hb);replace BO:=aq (BO.out.below hb);replace BP:=aq (BP.out.below hb);replace BQ:=aq (BQ.out.below hb);replace BW:=aq (BW.out.below hb);replace S2:=aq (S2.out.below hb);replace BT:=aq (BT.out.below hb);replace H3:=aq (H3.out.below hb);replace BE:=aq (BE.out.below hb);replace H4:=aq (H4.out.below hb);replace BN:=aq (BN.out.below hb);replace BB:=aq (BB.out.trans (hb.mono BB.out.size));replace BY:=aq (BY.out.trans (hb.mono BY.out.size));replace Y2:=aq (Y2.out.trans (hb.mono Y2.out.size));clear hb ;obtain⟨AL,cL,rfl,hp,hu⟩:=row_base hrow;have PL:=aq hp;have UL:=aq hu;clear hp hu hrow
 go_wp2_with (first | (refine wpList_load_od rfl _ rfl _ rfl BX.out ?_) | (refine wpList_load_od rfl _ rfl _ rfl BO.out ?_) | (refine wpList_load_od rfl _ rfl _ rfl BW.out ?_) | (refine wpList_load_od rfl _ rfl _ rfl BT.out ?_) | (refine wpList_load_od rfl _ rfl _ rfl BE.out ?_) | (refine wpList_load_od rfl _ rfl _ rfl BN.out ?_) | (refine wpList_load_odg (by rfl) _ rfl _ rfl BX.out ?_) | (refine wpList_load_odg (by rfl) _ rfl _ rfl BO.out ?_) | (refine wpList_load_odg (by rfl) _ rfl _ rfl BW.out ?_) | (refine wpList_load_odg (by rfl) _ rfl _ rfl BT.out ?_) | (refine wpList_load_odg (by rfl) _ rfl _ rfl BE.out ?_) | (refine wpList_load_odg (by rfl) _ rfl _ rfl BN.out ?_))
 refine (c7.out x11 BB.out).mono ?_;rintro e x12 ⟨v9,rfl,hrow,hb⟩;have zzx12:x11.heap.size<=x12.heap.size:=hb.size;replace BX:=aq (BX.out.below hb);replace BO:=aq (BO.out.below hb);replace BP:=aq (BP.out.below hb);replace BQ:=aq (BQ.out.below hb);replace BW:=aq (BW.out.below hb);replace S2:=aq (S2.out.below hb);replace BT:=aq (BT.out.below hb);replace H3:=aq (H3.out.below hb);replace BE:=aq (BE.out.below hb);replace H4:=aq (H4.out.below hb);replace BN:=aq (BN.out.below hb);replace PL:=aq (PL.out.below hb);replace BB:=aq (BB.out.trans (hb.mono BB.out.size));replace BY:=aq (BY.out.trans (hb.mono BY.out.size));replace Y2:=aq (Y2.out.trans (hb.mono Y2.out.size));clear hb ;obtain⟨AK,cK,rfl,hp,hu⟩:=row_base hrow;have PK:=aq hp;have UK:=aq hu;clear hp hu hrow;obtain⟨_,hBP0,hBP1,_,_⟩:=BP.out;obtain⟨_,hBQ0,hBQ1,_,_⟩:=BQ.out
 try dsimp only at hBP0 hBP1 hBQ0 hBQ1
 go_wp2_with (first | (refine wpList_load_od rfl _ rfl _ rfl BX.out ?_) | (refine wpList_load_od rfl _ rfl _ rfl BO.out ?_) | (refine wpList_load_od rfl _ rfl _ rfl BW.out ?_) | (refine wpList_load_od rfl _ rfl _ rfl BT.out ?_) | (refine wpList_load_od rfl _ rfl _ rfl BE.out ?_) | (refine wpList_load_od rfl _ rfl _ rfl BN.out ?_) | (refine wpList_load_odg (by rfl) _ rfl _ rfl BX.out ?_) | (refine wpList_load_odg (by rfl) _ rfl _ rfl BO.out ?_) | (refine wpList_load_odg (by rfl) _ rfl _ rfl BW.out ?_) | (refine wpList_load_odg (by rfl) _ rfl _ rfl BT.out ?_) | (refine wpList_load_odg (by rfl) _ rfl _ rfl BE.out ?_) | (refine wpList_load_odg (by rfl) _ rfl _ rfl BN.out ?_))
 refine (c8.out a1 A1 x12 (OW.out.below BY.out) BB.out).mono ?_;rintro e x13 ⟨rfl,hb⟩;have zzx13:x12.heap.size<=x13.heap.size:=hb.size;replace BX:=aq (BX.out.below hb);replace BO:=aq (BO.out.below hb);replace BP:=aq (BP.out.below hb);replace BQ:=aq (BQ.out.below hb);replace BW:=aq (BW.out.below hb);replace S2:=aq (S2.out.below hb);replace BT:=aq (BT.out.below hb);replace H3:=aq (H3.out.below hb);replace BE:=aq (BE.out.below hb);replace H4:=aq (H4.out.below hb);replace BN:=aq (BN.out.below hb);replace PL:=aq (PL.out.below hb);replace PK:=aq (PK.out.below hb);replace BB:=aq (BB.out.trans (hb.mono BB.out.size));replace BY:=aq (BY.out.trans (hb.mono BY.out.size));replace Y2:=aq (Y2.out.trans (hb.mono Y2.out.size));clear hb hBP0 hBP1 hBQ0 hBQ1;obtain⟨_,hBP0,hBP1,_,_⟩:=BP.out;obtain⟨_,hBQ0,hBQ1,_,_⟩:=BQ.out
 try dsimp only at hBP0 hBP1 hBQ0 hBQ1
 go_wp2_with (first | (refine wpList_load_od rfl _ rfl _ rfl BX.out ?_) | (refine wpList_load_od rfl _ rfl _ rfl BO.out ?_) | (refine wpList_load_od rfl _ rfl _ rfl BW.out ?_) | (refine wpList_load_od rfl _ rfl _ rfl BT.out ?_) | (refine wpList_load_od rfl _ rfl _ rfl BE.out ?_) | (refine wpList_load_od rfl _ rfl _ rfl BN.out ?_) | (refine wpList_load_odg (by rfl) _ rfl _ rfl BX.out ?_) | (refine wpList_load_odg (by rfl) _ rfl _ rfl BO.out ?_) | (refine wpList_load_odg (by rfl) _ rfl _ rfl BW.out ?_) | (refine wpList_load_odg (by rfl) _ rfl _ rfl BT.out ?_) | (refine wpList_load_odg (by rfl) _ rfl _ rfl BE.out ?_) | (refine wpList_load_odg (by rfl) _ rfl _ rfl BN.out ?_))
 refine (c9.out x13 BB.out).mono ?_;rintro e x14 ⟨rfl,hb⟩;have zzx14:x13.heap.size<=x14.heap.size:=hb.size;replace BX:=aq (BX.out.below hb);replace BO:=aq (BO.out.below hb);replace BP:=aq (BP.out.below hb);replace BQ:=aq (BQ.out.below hb);replace BW:=aq (BW.out.below hb);replace S2:=aq (S2.out.below hb);replace BT:=aq (BT.out.below hb);replace H3:=aq (H3.out.below hb);replace BE:=aq (BE.out.below hb);replace H4:=aq (H4.out.below hb);replace BN:=aq (BN.out.below hb);replace PL:=aq (PL.out.below hb);replace PK:=aq (PK.out.below hb);replace BB:=aq (BB.out.trans (hb.mono BB.out.size));replace BY:=aq (BY.out.trans (hb.mono BY.out.size));replace Y2:=aq (Y2.out.trans (hb.mono Y2.out.size));clear hb hBP0 hBP1 hBQ0 hBQ1;obtain⟨_,hBP0,hBP1,_,_⟩:=BP.out
 try dsimp only at hBP0 hBP1
 go_wp2_with (first | (refine wpList_load_od rfl _ rfl _ rfl BX.out ?_) | (refine wpList_load_od rfl _ rfl _ rfl BO.out ?_) | (refine wpList_load_od rfl _ rfl _ rfl BW.out ?_) | (refine wpList_load_od rfl _ rfl _ rfl BT.out ?_) | (refine wpList_load_od rfl _ rfl _ rfl BE.out ?_) | (refine wpList_load_od rfl _ rfl _ rfl BN.out ?_) | (refine wpList_load_odg (by rfl) _ rfl _ rfl BX.out ?_) | (refine wpList_load_odg (by rfl) _ rfl _ rfl BO.out ?_) | (refine wpList_load_odg (by rfl) _ rfl _ rfl BW.out ?_) | (refine wpList_load_odg (by rfl) _ rfl _ rfl BT.out ?_) | (refine wpList_load_odg (by rfl) _ rfl _ rfl BE.out ?_) | (refine wpList_load_odg (by rfl) _ rfl _ rfl BN.out ?_))
 refine (c10.out a1 A1 x14 (OW.out.below BY.out) BB.out).mono ?_;rintro e x15 ⟨rfl,hb⟩;have zzx15:x14.heap.size<=x15.heap.size:=hb.size;replace BX:=aq (BX.out.below hb);replace BO:=aq (BO.out.below hb);replace BP:=aq (BP.out.below hb);replace BQ:=aq (BQ.out.below hb);replace BW:=aq (BW.out.below hb);replace S2:=aq (S2.out.below hb);replace BT:=aq (BT.out.below hb);replace H3:=aq (H3.out.below hb);replace BE:=aq (BE.out.below hb);replace H4:=aq (H4.out.below hb);replace BN:=aq (BN.out.below hb);replace PL:=aq (PL.out.below hb);replace PK:=aq (PK.out.below hb);replace BB:=aq (BB.out.trans (hb.mono BB.out.size));replace BY:=aq (BY.out.trans (hb.mono BY.out.size));replace Y2:=aq (Y2.out.trans (hb.mono Y2.out.size));clear hb hBP0 hBP1;obtain⟨_,hBP0,hBP1,_,_⟩:=BP.out
 try dsimp only at hBP0 hBP1
 go_wp2_with (first | (refine wpList_load_od rfl _ rfl _ rfl BX.out ?_) | (refine wpList_load_od rfl _ rfl _ rfl BO.out ?_) | (refine wpList_load_od rfl _ rfl _ rfl BW.out ?_) | (refine wpList_load_od rfl _ rfl _ rfl BT.out ?_) | (refine wpList_load_od rfl _ rfl _ rfl BE.out ?_) | (refine wpList_load_od rfl _ rfl _ rfl BN.out ?_) | (refine wpList_load_odg (by rfl) _ rfl _ rfl BX.out ?_) | (refine wpList_load_odg (by rfl) _ rfl _ rfl BO.out ?_) | (refine wpList_load_odg (by rfl) _ rfl _ rfl BW.out ?_) | (refine wpList_load_odg (by rfl) _ rfl _ rfl BT.out ?_) | (refine wpList_load_odg (by rfl) _ rfl _ rfl BE.out ?_) | (refine wpList_load_odg (by rfl) _ rfl _ rfl BN.out ?_))
 refine (c11.out x15 BB.out).mono ?_;rintro e x16 ⟨rfl,hb⟩;have zzx16:x15.heap.size<=x16.heap.size:=hb.size;replace BX:=aq (BX.out.below hb);replace BO:=aq (BO.out.below hb);replace BP:=aq (BP.out.below hb);replace BQ:=aq (BQ.out.below hb);replace BW:=aq (BW.out.below hb);replace S2:=aq (S2.out.below hb);replace BT:=aq (BT.out.below hb);replace H3:=aq (H3.out.below hb);replace BE:=aq (BE.out.below hb);replace H4:=aq (H4.out.below hb);replace BN:=aq (BN.out.below hb);replace PL:=aq (PL.out.below hb);replace PK:=aq (PK.out.below hb);replace BB:=aq (BB.out.trans (hb.mono BB.out.size));replace BY:=aq (BY.out.trans (hb.mono BY.out.size));replace Y2:=aq (Y2.out.trans (hb.mono Y2.out.size));clear hb hBP0 hBP1;clear c0 c1 c2 c3 c4 c5 c6 c7 c8 c9 c10 c11
 go_upto_region 13 with (fail)
 go_cut [27] from 28 (fun s27 wx=>s27=.bool true/\Below x16.heap.size x16 wx)
 case first =>
  refine wp_region_held_drew (S:=fun w'=>OBox w' (x3.heap.size) o a1 A1/\OBox w' (W.heap.size) o a A/\OBox w' (W.heap.size+1) p b B/\OBox w' (x5.heap.size) o a2 A2/\OBox w' (x7.heap.size) N a3 A3/\OBox w' (x9.heap.size) N a4 A4/\Hid (Below x16.heap.size x16 w')) (by kernel_rfl) (by exact⟨BW.out.below ((Below.refl _ _).drew),BX.out.below ((Below.refl _ _).drew),BO.out.below ((Below.refl _ _).drew),BT.out.below ((Below.refl _ _).drew),BE.out.below ((Below.refl _ _).drew),BN.out.below ((Below.refl _ _).drew),aq ((Below.refl _ _).drew)⟩) (fun hHeld=>?_);have BLr0:=aq (show Below x16.heap.size x16 x16.drew from (Below.refl _ _).drew);obtain⟨Vr,hV0⟩:∃ V,V=x16.drew:=⟨_,rfl⟩;rw [<-hV0] at BLr0 hHeld ⊢;clear hV0;refine wpAnyH_take (i:=0) (oi:=Oper.mk _ _ _ _ _ _) (v:=?vr0) rfl (by kernel_rfl) (by kernel_rfl) (by kernel_rfl) (fun _ _ _ h=>h) (Or.inl ⟨by rfl,?hyr0⟩) (by assumption) ?restr0
  case hyr0 =>
   intro w0 hSw;refine load_whole (x:=.tmp 9) ?_ ?_ hSw.1 _ Tryz.underlying33 rfl infoO
   all_goals rfl
  try simp only [sZ]
  refine wpAnyH_take (i:=2) (oi:=Oper.mk _ _ _ _ _ _) (v:=?vr1) rfl (by kernel_rfl) (by kernel_rfl) (by kernel_rfl) (fun _ _ _ h=>h) (Or.inl ⟨by rfl,?hyr1⟩) (by assumption) ?restr1
  case hyr1 =>
   intro w0 hSw;refine load_whole (x:=.tmp 4) ?_ ?_ hSw.2.1 _ Tryz.underlying33 rfl infoO
   all_goals rfl
  try simp only [sZ]
  refine rdH 1 fun K hK=>?_;go_simp;refine (c12.out a1 A1 Vr (OW.out.below (BY.out.trans (BLr0.out.mono BY.out.size))) (BB.out.trans (BLr0.out.mono BB.out.size))).mono ?_;rintro e Ur1 ⟨rfl,hb⟩
  try (go_simp)
  have BLr1:=aq (BLr0.out.trans (hb.mono BLr0.out.size));clear hb;refine hK.out _ _ (by exact⟨BW.out.below BLr1.out,BX.out.below BLr1.out,BO.out.below BLr1.out,BT.out.below BLr1.out,BE.out.below BLr1.out,BN.out.below BLr1.out,BLr1⟩) (fun hHeldr2=>?_);clear hK K hHeld
  try simp only [sZ]
  refine rdH 3 fun K hK=>?_;go_simp;refine (c13.out Ur1 (BB.out.trans (BLr1.out.mono BB.out.size))).mono ?_;rintro e Ur2 ⟨rfl,hb⟩
  try (go_simp)
  have BLr2:=aq (BLr1.out.trans (hb.mono BLr1.out.size));clear hb;refine hK.out _ _ (by exact⟨BW.out.below BLr2.out,BX.out.below BLr2.out,BO.out.below BLr2.out,BT.out.below BLr2.out,BE.out.below BLr2.out,BN.out.below BLr2.out,BLr2⟩) (fun hHeldr3=>?_);clear hK K hHeldr2
  try simp only [sZ]
  refine tk 4 ?_;refine tk 5 ?_;refine wpAnyH_take (i:=6) (oi:=Oper.mk _ _ _ _ _ _) (v:=?vr6) rfl (by kernel_rfl) (by kernel_rfl) (by kernel_rfl) (fun _ _ _ h=>h) (Or.inl ⟨by rfl,?hyr6⟩) (by assumption) ?restr6
  case hyr6 =>
   intro w0 hSw;refine load_whole (x:=.tmp 9) ?_ ?_ hSw.1 _ Tryz.underlying33 rfl infoO
   all_goals rfl
  try simp only [sZ]
  refine wpAnyH_take (i:=7) (oi:=Oper.mk _ _ _ _ _ _) (v:=?vr7) rfl (by kernel_rfl) (by kernel_rfl) (by kernel_rfl) (fun _ _ _ h=>h) (Or.inl ⟨by rfl,?hyr7⟩) (by assumption) ?restr7
  case hyr7 =>
   intro w0 hSw;refine load_whole (x:=.tmp 5) ?_ ?_ hSw.2.2.1 _ Tryz.underlying33 rfl infoO
   all_goals rfl
  try simp only [sZ]
  refine wpAnyH_take (i:=9) (oi:=Oper.mk _ _ _ _ _ _) (v:=?vr8) rfl (by kernel_rfl) (by kernel_rfl) (by kernel_rfl) (fun _ _ _ h=>h) (Or.inl ⟨by rfl,?hyr8⟩) (by assumption) ?restr8
  case hyr8 =>
   intro w0 hSw;refine load_whole (x:=.tmp 4) ?_ ?_ hSw.2.1 _ Tryz.underlying33 rfl infoO
   all_goals rfl
  try simp only [sZ]
  refine wpAnyH_take (i:=10) (oi:=Oper.mk _ _ _ _ _ _) (v:=?vr9) rfl (by kernel_rfl) (by kernel_rfl) (by kernel_rfl) (fun _ _ _ h=>h) (Or.inl ⟨by rfl,?hyr9⟩) (by assumption) ?restr9
  case hyr9 =>
   intro w0 hSw;refine load_whole (x:=.tmp 5) ?_ ?_ hSw.2.2.1 _ Tryz.underlying33 rfl infoO
   all_goals rfl
  try simp only [sZ]
  refine rdH 8 fun K hK=>?_;go_simp;refine (c14.out a1 A1 Ur2 (OW.out.below (BY.out.trans (BLr2.out.mono BY.out.size))) (BB.out.trans (BLr2.out.mono BB.out.size))).mono ?_;rintro e Ur3 ⟨rfl,hb⟩
  try (go_simp)
  have BLr3:=aq (BLr2.out.trans (hb.mono BLr2.out.size));clear hb;refine hK.out _ _ (by exact⟨BW.out.below BLr3.out,BX.out.below BLr3.out,BO.out.below BLr3.out,BT.out.below BLr3.out,BE.out.below BLr3.out,BN.out.below BLr3.out,BLr3⟩) (fun hHeldr10=>?_);clear hK K hHeldr3
  try simp only [sZ]
  refine rdH 11 fun K hK=>?_;go_simp;refine (c15.out Ur3 (BB.out.trans (BLr3.out.mono BB.out.size))).mono ?_;rintro e Ur4 ⟨rfl,hb⟩
  try (go_simp)
  have BLr4:=aq (BLr3.out.trans (hb.mono BLr3.out.size));clear hb;refine hK.out _ _ (by exact⟨BW.out.below BLr4.out,BX.out.below BLr4.out,BO.out.below BLr4.out,BT.out.below BLr4.out,BE.out.below BLr4.out,BN.out.below BLr4.out,BLr4⟩) (fun hHeldr11=>?_);clear hK K hHeldr10
  try simp only [sZ]
  refine tk 12 ?_;refine tk 13 ?_;refine tk 14 ?_;refine wpAnyH_take (i:=15) (oi:=Oper.mk _ _ _ _ _ _) (v:=?vr15) rfl (by kernel_rfl) (by kernel_rfl) (by kernel_rfl) (fun _ _ _ h=>h) (Or.inl ⟨by rfl,?hyr15⟩) (by assumption) ?restr15
  case hyr15 =>
   intro w0 hSw;refine load_whole (x:=.tmp 9) ?_ ?_ hSw.1 _ Tryz.underlying33 rfl infoO
   all_goals rfl
  try simp only [sZ]
  refine wpAnyH_take (i:=16) (oi:=Oper.mk _ _ _ _ _ _) (v:=?vr16) rfl (by kernel_rfl) (by kernel_rfl) (by kernel_rfl) (fun _ _ _ h=>h) (Or.inl ⟨by rfl,?hyr16⟩) (by assumption) ?restr16
  case hyr16 =>
   intro w0 hSw;refine load_whole (x:=.tmp 4) ?_ ?_ hSw.2.1 _ Tryz.underlying33 rfl infoO
   all_goals rfl
  try simp only [sZ]
  refine rdH 17 fun K hK=>?_;go_simp;refine (c16.out a1 A1 Ur4 (OW.out.below (BY.out.trans (BLr4.out.mono BY.out.size))) (BB.out.trans (BLr4.out.mono BB.out.size))).mono ?_;rintro e Ur5 ⟨rfl,hb⟩
  try (go_simp)
  have BLr5:=aq (BLr4.out.trans (hb.mono BLr4.out.size));clear hb;refine hK.out _ _ (by exact⟨BW.out.below BLr5.out,BX.out.below BLr5.out,BO.out.below BLr5.out,BT.out.below BLr5.out,BE.out.below BLr5.out,BN.out.below BLr5.out,BLr5⟩) (fun hHeldr17=>?_);clear hK K hHeldr11
  try simp only [sZ]
  refine tk 18 ?_;refine tk 19 ?_;refine wpAnyH_take (i:=20) (oi:=Oper.mk _ _ _ _ _ _) (v:=?vr20) rfl (by kernel_rfl) (by kernel_rfl) (by kernel_rfl) (fun _ _ _ h=>h) (Or.inl ⟨by rfl,?hyr20⟩) (by assumption) ?restr20
  case hyr20 =>
   intro w0 hSw;refine load_whole (x:=.tmp 10) ?_ ?_ hSw.2.2.2.1 _ Tryz.underlying33 rfl infoO
   all_goals rfl
  try simp only [sZ]
  refine wpAnyH_take (i:=21) (oi:=Oper.mk _ _ _ _ _ _) (v:=?vr21) rfl (by kernel_rfl) (by kernel_rfl) (by kernel_rfl) (fun _ _ _ h=>h) (Or.inl ⟨by rfl,?hyr21⟩) (by assumption) ?restr21
  case hyr21 =>
   intro w0 hSw;refine load_whole (x:=.tmp 4) ?_ ?_ hSw.2.1 _ Tryz.underlying33 rfl infoO
   all_goals rfl
  try simp only [sZ]
  refine rdH 22 fun K hK=>?_;go_simp;refine (c17.out a2 A2 Ur5 (X2.out.below (Y2.out.trans (BLr5.out.mono Y2.out.size))) (BB.out.trans (BLr5.out.mono BB.out.size))).mono ?_;rintro e Ur6 ⟨rfl,hb⟩
  try (go_simp)
  have BLr6:=aq (BLr5.out.trans (hb.mono BLr5.out.size));clear hb;refine hK.out _ _ (by exact⟨BW.out.below BLr6.out,BX.out.below BLr6.out,BO.out.below BLr6.out,BT.out.below BLr6.out,BE.out.below BLr6.out,BN.out.below BLr6.out,BLr6⟩) (fun hHeldr22=>?_);clear hK K hHeldr17
  try simp only [sZ]
  refine tk 23 ?_;refine tk 24 ?_;refine wpAnyH_take (i:=25) (oi:=Oper.mk _ _ _ _ _ _) (v:=?vr25) rfl (by kernel_rfl) (by kernel_rfl) (by kernel_rfl) (fun _ _ _ h=>h) (Or.inl ⟨by rfl,?hyr25⟩) (by assumption) ?restr25
  case hyr25 =>
   intro w0 hSw;refine load_whole (x:=.tmp 11) ?_ ?_ hSw.2.2.2.2.1 _ Tryz.underlying33 rfl infoO
   all_goals rfl
  try simp only [sZ]
  refine wpAnyH_take (i:=26) (oi:=Oper.mk _ _ _ _ _ _) (v:=?vr26) rfl (by kernel_rfl) (by kernel_rfl) (by kernel_rfl) (fun _ _ _ h=>h) (Or.inl ⟨by rfl,?hyr26⟩) (by assumption) ?restr26
  case hyr26 =>
   intro w0 hSw;refine load_whole (x:=.tmp 13) ?_ ?_ hSw.2.2.2.2.2.1 _ Tryz.underlying33 rfl infoO
   all_goals rfl
  try simp only [sZ]
  refine rdH 27 fun K hK=>?_;go_simp;refine (c18.out a3 a4 A3 A4 Ur6 (H3.out.below BLr6.out) (H4.out.below BLr6.out)).mono ?_;rintro e Ur7 ⟨rfl,hb⟩
  try (go_simp)
  have BLr7:=aq (BLr6.out.trans (hb.mono BLr6.out.size));clear hb;refine hK.out _ _ (by exact⟨BW.out.below BLr7.out,BX.out.below BLr7.out,BO.out.below BLr7.out,BT.out.below BLr7.out,BE.out.below BLr7.out,BN.out.below BLr7.out,BLr7⟩) (fun hHeldr27=>?_);clear hK K hHeldr22
  try simp only [sZ]
  refine tk 28 ?_;refine tk 29 ?_;refine tk 30 ?_;refine tk 31 ?_;refine tk 32 ?_;refine tk 33 ?_;refine tk 34 ?_;refine wpAnyH_done (by kernel_rfl) ?_ _
  go_wp2_with fail
  go_meet
  exact⟨rfl,BLr7.out⟩
 case rest =>
  obtain⟨rfl,hb⟩:=hcut;obtain⟨W9,hW9⟩:∃ V,V=wc:=⟨_,rfl⟩;rw [<-hW9] at hb ⊢;clear hW9;have zz9:x16.heap.size<=W9.heap.size:=hb.size;replace BX:=aq (BX.out.below hb);replace BO:=aq (BO.out.below hb);replace BP:=aq (BP.out.below hb);replace BQ:=aq (BQ.out.below hb);replace BW:=aq (BW.out.below hb);replace S2:=aq (S2.out.below hb);replace BT:=aq (BT.out.below hb);replace H3:=aq (H3.out.below hb);replace BE:=aq (BE.out.below hb);replace H4:=aq (H4.out.below hb);replace BN:=aq (BN.out.below hb);replace PL:=aq (PL.out.below hb);replace PK:=aq (PK.out.below hb);replace BB:=aq (BB.out.trans (hb.mono BB.out.size));replace BY:=aq (BY.out.trans (hb.mono BY.out.size));replace Y2:=aq (Y2.out.trans (hb.mono Y2.out.size));clear hb c12 c13 c14 c15 c16 c18
  go_wp2_with (first | (refine wpList_load_od rfl _ rfl _ rfl BX.out ?_) | (refine wpList_load_od rfl _ rfl _ rfl BO.out ?_) | (refine wpList_load_od rfl _ rfl _ rfl BW.out ?_) | (refine wpList_load_od rfl _ rfl _ rfl BT.out ?_) | (refine wpList_load_od rfl _ rfl _ rfl BE.out ?_) | (refine wpList_load_od rfl _ rfl _ rfl BN.out ?_) | (refine wpList_load_odg (by rfl) _ rfl _ rfl BX.out ?_) | (refine wpList_load_odg (by rfl) _ rfl _ rfl BO.out ?_) | (refine wpList_load_odg (by rfl) _ rfl _ rfl BW.out ?_) | (refine wpList_load_odg (by rfl) _ rfl _ rfl BT.out ?_) | (refine wpList_load_odg (by rfl) _ rfl _ rfl BE.out ?_) | (refine wpList_load_odg (by rfl) _ rfl _ rfl BN.out ?_))
  refine (c19.out a2 A2 V4.heap.size x5.heap.size W9 S2.out (by omega)).mono ?_;rintro e W10 ⟨rfl,hsp⟩;have hl:=hsp.1;replace BX:=aq (BX.out.low (by omega) hl);replace BW:=aq (BW.out.low (by omega) hl);replace PL:=aq (plst_off (U:=x5.heap.size) PL.out (fun p hp=>by have:=UL.out p hp;omega) hsp.2.2 hl.size);replace PK:=aq (plst_off (U:=x5.heap.size) PK.out (fun p hp=>by have:=UK.out p hp;omega) hsp.2.2 hl.size);replace BB:=aq (BB.out.trans (hl.mono (by omega)));replace BY:=aq (BY.out.trans hl);clear hsp hl BO BP BQ BT BE BN S2 H3 H4 X2 Y2 UL UK c19
  go_wp2_with (first | (refine wpList_load_od rfl _ rfl _ rfl BX.out ?_) | (refine wpList_load_od rfl _ rfl _ rfl BW.out ?_) | (refine wpList_load_odg (by rfl) _ rfl _ rfl BX.out ?_) | (refine wpList_load_odg (by rfl) _ rfl _ rfl BW.out ?_))
  refine (c20.out AL AK cL cK W10 PL.out PK.out).mono ?_;rintro e x17 ⟨rfl,hb⟩;have zzx17:W10.heap.size<=x17.heap.size:=hb.size;replace BX:=aq (BX.out.below hb);replace BW:=aq (BW.out.below hb);replace PL:=aq (PL.out.below hb);replace PK:=aq (PK.out.below hb);replace BB:=aq (BB.out.trans (hb.mono BB.out.size));replace BY:=aq (BY.out.trans (hb.mono BY.out.size));clear hb
  go_wp2_with (first | (refine wpList_load_od rfl _ rfl _ rfl BX.out ?_) | (refine wpList_load_od rfl _ rfl _ rfl BW.out ?_) | (refine wpList_load_odg (by rfl) _ rfl _ rfl BX.out ?_) | (refine wpList_load_odg (by rfl) _ rfl _ rfl BW.out ?_))
  refine (c17.out a1 A1 x17 (OW.out.below BY.out) BB.out).mono ?_;rintro e x18 ⟨rfl,hb⟩;have zzx18:x17.heap.size<=x18.heap.size:=hb.size;replace BX:=aq (BX.out.below hb);replace BW:=aq (BW.out.below hb);replace PL:=aq (PL.out.below hb);replace PK:=aq (PK.out.below hb);replace BB:=aq (BB.out.trans (hb.mono BB.out.size));replace BY:=aq (BY.out.trans (hb.mono BY.out.size));clear hb ;go_wp2;go_ret;exact⟨rfl,BB.out⟩
theorem walk (o p:Od) (a b:Ads) (A B:HAds) (x y:Int×Int) (W:World) (h:OHeld W o a A) (hc:o.cf.In) (ok:o.Ok) (h':OHeld W p b B) (hc':p.cf.In) (ok':p.Ok) (x1:In64 x.1) (x2:In64 x.2) (y1:In64 y.1) (y2:In64 y.2) (hT:Tab W) :
  Calls Tryz.prog 4 #[odv o a A,odv p b B,pv x,pv y] W fun e w'=>e=.returned (.bool true)/\Below W.heap.size W w':=by
 cases hg:Om.greatB o 600
 ·cases hg':Om.greatB p 600
  ·exact small o p a b A B x y W h hc ok h' hc' ok' x1 x2 y1 y2 hT hg hg'
  ·exact great2 o p a b A B x y W h hc ok h' hc' ok' x1 x2 y1 y2 hT hg hg'
 ·exact great o p a b A B x y W h hc ok h' hc' ok' x1 x2 y1 y2 hT hg
end Go.Proofs.YtpeckljoannolaaGreatDoor.omTells

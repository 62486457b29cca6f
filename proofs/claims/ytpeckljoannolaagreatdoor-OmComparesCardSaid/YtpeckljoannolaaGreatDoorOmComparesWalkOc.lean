/- The walk of the law OmCompares: Compare tells the order, and labels rise along it. -/
import Derived.Test.YtpeckljoannolaaGreatDoorTkOc
import Derived.Test.YtpeckljoannolaaGreatDoorS1dOc
set_option linter.unusedVariables false
set_option linter.unusedSimpArgs false
set_option maxHeartbeats 8000000
set_option maxRecDepth 100000
namespace Go.Proofs.YtpeckljoannolaaGreatDoor.omCompares
open Go.RowKit
theorem short_of {o:Od} (h:Om.greatB o 600=false):o.Short:=by
 unfold Om.greatB Sl.greatB at h
 simp only [Bool.or_eq_false_iff,decide_eq_false_iff_not] at h
 exact⟨⟨by omega,by omega,by omega,by omega⟩,⟨by omega,by omega⟩⟩
theorem len_of {o:Od} (h:Om.greatB o 600=false):(Om.hands o).length<=600:=by
 have q1:=Oc.places_length_le o.sl.words 0 o.sl.keys.length;have q2:(Om.pl o.sl).length=(Oc.places o.sl.words 0 o.sl.keys.length).length:=rfl;unfold Om.greatB Sl.greatB at h
 simp only [Bool.or_eq_false_iff,decide_eq_false_iff_not] at h
 rw [Om.hands_len]
 omega
theorem hands_64 {o:Od} (h:o.In) {x:Int×Int} (hx:x∈Om.hands o):In64 x.1/\In64 x.2:=by
 unfold Om.hands Om.ks at hx;obtain⟨n,hn,rfl⟩:=List.mem_map.1 hx;obtain⟨i,_,rfl⟩:=List.mem_map.1 hn;exact⟨h.ok.sl.keys i,h.ok.tb.gens _⟩
theorem hand_mem {o:Od} {i:Nat} (h:i < (Om.hands o).length):(Om.hands o).getD i (0,0)∈Om.hands o:=by simp [List.getD,List.getElem?_eq_getElem h]
theorem great (o:Od) (a:Ads) (A:HAds) (x y:Int) (W:World) (h:OHeld W o a A) (hc:o.cf.In) (ok:o.Ok) (hT:Tab W) (hg:Om.greatB o 600=true) :
  Calls Tryz.prog 7 #[odv o a A,.int .i64 x,.int .i64 y] W fun e w'=>e=.returned (.bool true)/\Below W.heap.size W w':=by
 have HX:=aq (OBox.new W o a A 33);have HB:=aq (fun o=>(Below.refl W.heap.size W).alloc (Nat.le_refl _) o);have c0:=aq (fun V (hb:Below W.heap.size W V)=>l15Alive V (hT.below hb));have c1:=aq (fun V=>r15Great o a A 600 V);rw [hg] at c1;clear h hc ok hT;unfold odv at c1;unfold odv
 go_enter Tryz.func7,Tryz.ntmps7
 go_upto_region 1 with (fail)
 obtain⟨W0,hW0⟩:∃ W0,W0=W.alloc (.cells (odCells o a A) 33):=⟨_,rfl⟩;have BX:=aq (show OBox W0 W.heap.size o a A by rw [hW0];exact HX.out);have BB:=aq (show Below W.heap.size W W0 by rw [hW0];exact HB.out _);rw [<-hW0];clear hW0 HX HB
 go_wp2_with (first | (refine wpList_load_od rfl _ rfl _ rfl BX.out ?_) | (refine wpList_load_odg (by rfl) _ rfl _ rfl BX.out ?_))
 refine (c0.out W0 BB.out).mono ?_;rintro e x1 ⟨rfl,hb⟩;have zzx1:W0.heap.size<=x1.heap.size:=hb.size;replace BX:=aq (BX.out.below hb);replace BB:=aq (BB.out.trans (hb.mono BB.out.size));clear hb
 go_wp2_with (first | (refine wpList_load_od rfl _ rfl _ rfl BX.out ?_) | (refine wpList_load_odg (by rfl) _ rfl _ rfl BX.out ?_))
 refine (c1.out x1).mono ?_;rintro e x2 ⟨rfl,hb⟩;have zzx2:x1.heap.size<=x2.heap.size:=hb.size;replace BX:=aq (BX.out.below hb);replace BB:=aq (BB.out.trans (hb.mono BB.out.size));clear hb ;go_wp2;go_ret;exact⟨rfl,BB.out⟩
theorem bad (o:Od) (a:Ads) (A:HAds) (x y:Int) (W:World) (h:OHeld W o a A) (hc:o.cf.In) (ok:o.Ok) (hT:Tab W) (hg:Om.greatB o 600=false) (he:¬ Om.chkE o=0) :
  Calls Tryz.prog 7 #[odv o a A,.int .i64 x,.int .i64 y] W fun e w'=>e=.returned (.bool true)/\Below W.heap.size W w':=by
 have HX:=aq (OBox.new W o a A 33);have HB:=aq (fun o=>(Below.refl W.heap.size W).alloc (Nat.le_refl _) o);have c0:=aq (fun V (hb:Below W.heap.size W V)=>l15Alive V (hT.below hb));have c1:=aq (fun V=>r15Great o a A 600 V);have hin:o.In:=⟨hc,ok,short_of hg⟩;have c2:=aq (fun V (hb:Below W.heap.size W V)=>mList o a A V (h.below hb) hin (hT.below hb));rw [hg] at c1;have EL:=aq (show Om.listV o=[] by unfold Om.listV;rw [if_neg he]);rw [EL.out] at c2;obtain⟨E,hE⟩:∃ E,E=Om.chkE o:=⟨_,rfl⟩;rw [<-hE] at c2 he
 have k1:(E != 0)=true:=by simpa using he
 have k2:(E==0)=false:=by simpa using he
 clear hE he EL;unfold odv at c2;clear h hc ok hT;unfold odv at c1;unfold odv
 go_enter Tryz.func7,Tryz.ntmps7
 go_upto_region 1 with (fail)
 obtain⟨W0,hW0⟩:∃ W0,W0=W.alloc (.cells (odCells o a A) 33):=⟨_,rfl⟩;have BX:=aq (show OBox W0 W.heap.size o a A by rw [hW0];exact HX.out);have BB:=aq (show Below W.heap.size W W0 by rw [hW0];exact HB.out _);rw [<-hW0];clear hW0 HX HB
 go_wp2_with (first | (refine wpList_load_od rfl _ rfl _ rfl BX.out ?_) | (refine wpList_load_odg (by rfl) _ rfl _ rfl BX.out ?_))
 refine (c0.out W0 BB.out).mono ?_;rintro e x1 ⟨rfl,hb⟩;have zzx1:W0.heap.size<=x1.heap.size:=hb.size;replace BX:=aq (BX.out.below hb);replace BB:=aq (BB.out.trans (hb.mono BB.out.size));clear hb
 go_wp2_with (first | (refine wpList_load_od rfl _ rfl _ rfl BX.out ?_) | (refine wpList_load_odg (by rfl) _ rfl _ rfl BX.out ?_))
 refine (c1.out x1).mono ?_;rintro e x2 ⟨rfl,hb⟩;have zzx2:x1.heap.size<=x2.heap.size:=hb.size;replace BX:=aq (BX.out.below hb);replace BB:=aq (BB.out.trans (hb.mono BB.out.size));clear hb
 go_wp2_with (first | (refine wpList_load_od rfl _ rfl _ rfl BX.out ?_) | (refine wpList_load_odg (by rfl) _ rfl _ rfl BX.out ?_))
 refine (c2.out x2 BB.out).mono ?_;rintro e x3 hq;obtain⟨AL,cL,rfl,hp,hn0,ho0,hcl,hb⟩:=mrow_list hq;have zzx3:x2.heap.size<=x3.heap.size:=hb.size;replace BX:=aq (BX.out.below hb);replace BB:=aq (BB.out.trans (hb.mono BB.out.size));have PL:=aq hp;clear hq hp hb;clear hn0 ho0 hcl
 simp only [List.length_nil]
 go_wp2;go_ret;exact⟨rfl,BB.out⟩
theorem out (o:Od) (a:Ads) (A:HAds) (x y:Int) (W:World) (h:OHeld W o a A) (hc:o.cf.In) (ok:o.Ok) (hT:Tab W) (hg:Om.greatB o 600=false) (he:Om.chkE o=0) (hx:x < 0∨y < 0∨((Om.hands o).length:Int)<=x∨((Om.hands o).length:Int)<=y) :
  Calls Tryz.prog 7 #[odv o a A,.int .i64 x,.int .i64 y] W fun e w'=>e=.returned (.bool true)/\Below W.heap.size W w':=by
 have HX:=aq (OBox.new W o a A 33);have HB:=aq (fun o=>(Below.refl W.heap.size W).alloc (Nat.le_refl _) o);have c0:=aq (fun V (hb:Below W.heap.size W V)=>l15Alive V (hT.below hb));have c1:=aq (fun V=>r15Great o a A 600 V);have hin:o.In:=⟨hc,ok,short_of hg⟩;have c2:=aq (fun V (hb:Below W.heap.size W V)=>mList o a A V (h.below hb) hin (hT.below hb));rw [hg] at c1;have EL:=aq (show Om.listV o=Om.hands o by unfold Om.listV;rw [if_pos he]);rw [EL.out,he] at c2;have hl:=len_of hg;obtain⟨L,hL⟩:∃ L,L=Om.hands o:=⟨_,rfl⟩;rw [<-hL] at c2 hl hx;clear hL he EL;unfold odv at c2;clear h hc ok hT;unfold odv at c1;unfold odv
 go_enter Tryz.func7,Tryz.ntmps7
 go_upto_region 1 with (fail)
 obtain⟨W0,hW0⟩:∃ W0,W0=W.alloc (.cells (odCells o a A) 33):=⟨_,rfl⟩;have BX:=aq (show OBox W0 W.heap.size o a A by rw [hW0];exact HX.out);have BB:=aq (show Below W.heap.size W W0 by rw [hW0];exact HB.out _);rw [<-hW0];clear hW0 HX HB
 go_wp2_with (first | (refine wpList_load_od rfl _ rfl _ rfl BX.out ?_) | (refine wpList_load_odg (by rfl) _ rfl _ rfl BX.out ?_))
 refine (c0.out W0 BB.out).mono ?_;rintro e x1 ⟨rfl,hb⟩;have zzx1:W0.heap.size<=x1.heap.size:=hb.size;replace BX:=aq (BX.out.below hb);replace BB:=aq (BB.out.trans (hb.mono BB.out.size));clear hb
 go_wp2_with (first | (refine wpList_load_od rfl _ rfl _ rfl BX.out ?_) | (refine wpList_load_odg (by rfl) _ rfl _ rfl BX.out ?_))
 refine (c1.out x1).mono ?_;rintro e x2 ⟨rfl,hb⟩;have zzx2:x1.heap.size<=x2.heap.size:=hb.size;replace BX:=aq (BX.out.below hb);replace BB:=aq (BB.out.trans (hb.mono BB.out.size));clear hb
 go_wp2_with (first | (refine wpList_load_od rfl _ rfl _ rfl BX.out ?_) | (refine wpList_load_odg (by rfl) _ rfl _ rfl BX.out ?_))
 refine (c2.out x2 BB.out).mono ?_;rintro e x3 hq;obtain⟨AL,cL,rfl,hp,hn0,ho0,hcl,hb⟩:=mrow_list hq;have zzx3:x2.heap.size<=x3.heap.size:=hb.size;replace BX:=aq (BX.out.below hb);replace BB:=aq (BB.out.trans (hb.mono BB.out.size));have PL:=aq hp;clear hq hp hb;clear hn0 ho0 hcl;obtain⟨n,hn⟩:∃ n,n=L.length:=⟨_,rfl⟩;rw [<-hn] at hx hl ⊢;clear hn
 by_cases h1:x < 0
 ·have k1:decide (x < 0)=true:=decide_eq_true h1
  clear h1 hx;go_wp2;go_ret;exact⟨rfl,BB.out⟩
 ·have k1:decide (x < 0)=false:=decide_eq_false h1
  by_cases h2:y < 0
  ·have k2:decide (y < 0)=true:=decide_eq_true h2
   clear h1 h2 hx;go_wp2;go_ret;exact⟨rfl,BB.out⟩
  ·have k2:decide (y < 0)=false:=decide_eq_false h2
   by_cases h3:(n:Int)<=x
   ·have k3:decide (x ≥ (n:Int))=true:=decide_eq_true h3
    clear h1 h2 h3 hx;go_wp2;go_ret;exact⟨rfl,BB.out⟩
   ·have k3:decide (x ≥ (n:Int))=false:=decide_eq_false h3
    have k4:decide (y ≥ (n:Int))=true:=decide_eq_true (by omega);clear h1 h2 h3 hx;go_wp2;go_ret;exact⟨rfl,BB.out⟩
theorem two (o:Od) (a:Ads) (A:HAds) (i j:Nat) (W:World) (h:OHeld W o a A) (hc:o.cf.In) (ok:o.Ok) (hT:Tab W) (hg:Om.greatB o 600=false) (he:Om.chkE o=0) (hi:i < (Om.hands o).length) (hj:j < (Om.hands o).length) :
  Calls Tryz.prog 7 #[odv o a A,.int .i64 (i:Int),.int .i64 (j:Int)] W fun e w'=>e=.returned (.bool true)/\Below W.heap.size W w':=by
 have HX:=aq (OBox.new W o a A 33);have HB:=aq (fun o=>(Below.refl W.heap.size W).alloc (Nat.le_refl _) o);have c0:=aq (fun V (hb:Below W.heap.size W V)=>l15Alive V (hT.below hb));have c1:=aq (fun V=>r15Great o a A 600 V);have hin:o.In:=⟨hc,ok,short_of hg⟩;have c2:=aq (fun V (hb:Below W.heap.size W V)=>mList o a A V (h.below hb) hin (hT.below hb));rw [hg] at c1;have F:=Om.chk_fit.1 he;have EL:=aq (show Om.listV o=Om.hands o by unfold Om.listV;rw [if_pos he]);rw [EL.out,he] at c2;have hl:=len_of hg;have i6:=hands_64 hin (hand_mem hi);have j6:=hands_64 hin (hand_mem hj);have CM:=Om.cmp_nth F hi hj;have LI:=Om.lab_nth F hi;have LJ:=Om.lab_nth F hj;have PT1:=aq (show i < j->(Om.pl o.sl).getD i 0 < (Om.pl o.sl).getD j 0 from fun q=>Om.pl_lt (by rw [<-Om.hands_len o];exact hj) q);have PT2:=aq (show j < i->(Om.pl o.sl).getD j 0 < (Om.pl o.sl).getD i 0 from fun q=>Om.pl_lt (by rw [<-Om.hands_len o];exact hi) q);have c3:=aq (fun V (hb:Below W.heap.size W V)=>mCompare o a A ((Om.hands o).getD i (0,0)) ((Om.hands o).getD j (0,0)) V (h.below hb) hin (hT.below hb) i6.1 i6.2 j6.1 j6.2);have c4:=aq (fun V (hb:Below W.heap.size W V)=>mLabel o a A ((Om.hands o).getD i (0,0)) V (h.below hb) hin (hT.below hb) i6.1 i6.2);have c5:=aq (fun V (hb:Below W.heap.size W V)=>mLabel o a A ((Om.hands o).getD j (0,0)) V (h.below hb) hin (hT.below hb) j6.1 j6.2)
 rw [CM.1,CM.2] at c3;rw [LI.1,LI.2] at c4;rw [LJ.1,LJ.2] at c5;obtain⟨p,hp⟩:∃ p,p=(Om.pl o.sl).getD i 0:=⟨_,rfl⟩;obtain⟨q,hq⟩:∃ q,q=(Om.pl o.sl).getD j 0:=⟨_,rfl⟩;rw [<-hp] at c4 PT1 PT2;rw [<-hq] at c5 PT1 PT2;have PE:=aq (show i=j->p=q from fun e=>by rw [hp,hq,e]);obtain⟨L,hL⟩:∃ L,L=Om.hands o:=⟨_,rfl⟩;rw [<-hL] at c2 c3 c4 c5 hl hi hj;obtain⟨X,hX⟩:∃ X,X=L.getD i (0,0):=⟨_,rfl⟩;obtain⟨Y,hY⟩:∃ Y,Y=L.getD j (0,0):=⟨_,rfl⟩;rw [<-hX] at c3 c4;rw [<-hY] at c3 c5;have HXL:=aq hX;have HYL:=aq hY
 obtain⟨C,hC⟩:∃ C:Int,C=if i < j then -1 else if j < i then 1 else 0:=⟨_,rfl⟩
 rw [<-hC] at c3;have HC:=aq hC;clear hC hX hY hL hp hq he EL F i6 j6 CM LI LJ;unfold odv at c2;unfold odv pv at c3 c4 c5;clear h hc ok hT;unfold odv at c1;unfold odv
 go_enter Tryz.func7,Tryz.ntmps7
 go_upto_region 1 with (fail)
 obtain⟨W0,hW0⟩:∃ W0,W0=W.alloc (.cells (odCells o a A) 33):=⟨_,rfl⟩;have BX:=aq (show OBox W0 W.heap.size o a A by rw [hW0];exact HX.out);have BB:=aq (show Below W.heap.size W W0 by rw [hW0];exact HB.out _);rw [<-hW0];clear hW0 HX HB
 go_wp2_with (first | (refine wpList_load_od rfl _ rfl _ rfl BX.out ?_) | (refine wpList_load_odg (by rfl) _ rfl _ rfl BX.out ?_))
 refine (c0.out W0 BB.out).mono ?_;rintro e x1 ⟨rfl,hb⟩;have zzx1:W0.heap.size<=x1.heap.size:=hb.size;replace BX:=aq (BX.out.below hb);replace BB:=aq (BB.out.trans (hb.mono BB.out.size));clear hb
 go_wp2_with (first | (refine wpList_load_od rfl _ rfl _ rfl BX.out ?_) | (refine wpList_load_odg (by rfl) _ rfl _ rfl BX.out ?_))
 refine (c1.out x1).mono ?_;rintro e x2 ⟨rfl,hb⟩;have zzx2:x1.heap.size<=x2.heap.size:=hb.size;replace BX:=aq (BX.out.below hb);replace BB:=aq (BB.out.trans (hb.mono BB.out.size));clear hb
 go_wp2_with (first | (refine wpList_load_od rfl _ rfl _ rfl BX.out ?_) | (refine wpList_load_odg (by rfl) _ rfl _ rfl BX.out ?_))
 refine (c2.out x2 BB.out).mono ?_;rintro e x3 hq;obtain⟨AL,cL,rfl,hp,hn0,ho0,hcl,hb⟩:=mrow_list hq;have zzx3:x2.heap.size<=x3.heap.size:=hb.size;replace BX:=aq (BX.out.below hb);replace BB:=aq (BB.out.trans (hb.mono BB.out.size));have PL:=aq hp;clear hq hp hb;obtain⟨n,hn⟩:∃ n,n=L.length:=⟨_,rfl⟩;have HN:=aq hn;rw [<-hn] at hl hi hj hn0 hcl ⊢;clear hn
 obtain⟨bL,hbL⟩:∃ bL,AL=some ⟨bL,0,none⟩:=by
  cases AL with
  | none=>have:=(hn0 rfl).1;omega
  | some ad =>
   have q:=(ho0 ad rfl).1;obtain⟨b9,o9,p9,h9,_⟩:=PL.out.pair (i:=i) (by rw [<-HN.out];exact hi);obtain rfl:ad=⟨b9,o9,none⟩:=Option.some.inj p9;obtain rfl:o9=0:=q;exact⟨_,rfl⟩
 subst hbL;clear hn0 ho0
 have CI:=aq (fun V (q:PLst V (some ⟨bL,0,none⟩) L)=>(show V.cell? ⟨bL,0+i*2,none⟩=some (.int .i64 X.1)/\V.cell? ⟨bL,0+i*2+1,none⟩=some (.int .i64 X.2) by
  obtain⟨b9,o9,e9,_,g1,g2⟩:=q.pair (i:=i) (by rw [<-HN.out];exact hi)
  cases e9
  rw [<-HXL.out] at g1 g2
  exact⟨g1,g2⟩))
 have CJ:=aq (fun V (q:PLst V (some ⟨bL,0,none⟩) L)=>(show V.cell? ⟨bL,0+j*2,none⟩=some (.int .i64 Y.1)/\V.cell? ⟨bL,0+j*2+1,none⟩=some (.int .i64 Y.2) by
  obtain⟨b9,o9,e9,_,g1,g2⟩:=q.pair (i:=j) (by rw [<-HN.out];exact hj)
  cases e9
  rw [<-HYL.out] at g1 g2
  exact⟨g1,g2⟩))
 rw [Nat.zero_add] at CI CJ;have k1:decide ((i:Int) < 0)=false:=decide_eq_false (by omega);have k2:decide ((j:Int) < 0)=false:=decide_eq_false (by omega);have k3:decide ((i:Int) ≥ (n:Int))=false:=decide_eq_false (by omega);have k4:decide ((j:Int) ≥ (n:Int))=false:=decide_eq_false (by omega)
 have g1:(i:Int) < (n:Int):=by omega
 have g2:(j:Int) < (n:Int):=by omega
 go_upto_region 7 with (fail)
 refine wp_region_held_drew (S:=fun w'=>OBox w' (W.heap.size) o a A/\w'.cell? ⟨bL,i*2,none⟩=some (.int .i64 X.1)/\w'.cell? ⟨bL,i*2+1,none⟩=some (.int .i64 X.2)/\w'.cell? ⟨bL,j*2,none⟩=some (.int .i64 Y.1)/\w'.cell? ⟨bL,j*2+1,none⟩=some (.int .i64 Y.2)) (by kernel_rfl) (by exact⟨BX.out.below ((Below.refl _ _).drew),(CI.out _ PL.out).1,(CI.out _ PL.out).2,(CJ.out _ PL.out).1,(CJ.out _ PL.out).2⟩) (fun hHeld=>?_);obtain⟨V4,hV⟩:∃ V,V=x3.drew:=⟨_,rfl⟩
 have hb:Below x3.heap.size x3 V4:=by rw [hV];exact (Below.refl _ _).drew
 have zzV4:x3.heap.size<=V4.heap.size:=hb.size;replace BX:=aq (BX.out.below hb);replace PL:=aq (PL.out.below hb);replace BB:=aq (BB.out.trans (hb.mono BB.out.size));rw [<-hV] at hHeld ⊢;clear hV hb;refine wpAnyH_take (i:=0) (oi:=Oper.mk _ _ _ _ _ _) (v:=?vd60) rfl (by kernel_rfl) (by kernel_rfl) (by kernel_rfl) (fun _ _ _ h=>h) (Or.inl ⟨by rfl,?hyd60⟩) (by assumption) ?restd60
 case hyd60 =>
  intro w0 hSw;refine load_whole (x:=.tmp 3) ?_ ?_ hSw.1 _ Tryz.underlying33 rfl infoO
  all_goals rfl
 try simp only [sZ]
 refine tk 1 ?_;refine tk 2 ?_;refine tk 3 ?_;refine wpAnyH_take (i:=4) (oi:=Oper.mk _ _ _ _ _ _) (v:=?vd64) rfl (by kernel_rfl) (by kernel_rfl) (by kernel_rfl) (fun _ _ _ h=>h) (Or.inl ⟨by rfl,?hyd64⟩) (by assumption) ?restd64
 case hyd64 =>
  intro w0 hSw;obtain⟨_,hs0,hs1,hs2,hs3⟩:=hSw;go_simp
  all_goals with_reducible rfl
 try simp only [sZ]
 refine tk 5 ?_;refine tk 6 ?_;refine tk 7 ?_;refine wpAnyH_take (i:=8) (oi:=Oper.mk _ _ _ _ _ _) (v:=?vd68) rfl (by kernel_rfl) (by kernel_rfl) (by kernel_rfl) (fun _ _ _ h=>h) (Or.inl ⟨by rfl,?hyd68⟩) (by assumption) ?restd68
 case hyd68 =>
  intro w0 hSw;obtain⟨_,hs0,hs1,hs2,hs3⟩:=hSw;go_simp
  all_goals with_reducible rfl
 try simp only [sZ]
 refine rdH 9 fun K hK=>?_;go_simp;refine (c3.out V4 BB.out).mono ?_;rintro e x5 ⟨rfl,hb⟩
 try (go_simp)
 have zzx5:V4.heap.size<=x5.heap.size:=hb.size;replace BX:=aq (BX.out.below hb);replace PL:=aq (PL.out.below hb);replace BB:=aq (BB.out.trans (hb.mono BB.out.size));clear hb;refine hK.out _ _ (by exact⟨BX.out,(CI.out _ PL.out).1,(CI.out _ PL.out).2,(CJ.out _ PL.out).1,(CJ.out _ PL.out).2⟩) (fun hHeldd69=>?_);clear hK K hHeld
 try simp only [sZ]
 refine tk 10 ?_;refine tk 11 ?_;refine tk 12 ?_;refine tk 13 ?_;refine tk 14 ?_;refine wpAnyH_done (by kernel_rfl) ?_ _
 go_upto_region 8 with (fail)
 refine wp_region_held_drew (S:=fun w'=>OBox w' (W.heap.size) o a A/\w'.cell? ⟨bL,i*2,none⟩=some (.int .i64 X.1)/\w'.cell? ⟨bL,i*2+1,none⟩=some (.int .i64 X.2)) (by kernel_rfl) (by exact⟨BX.out.below ((Below.refl _ _).drew),(CI.out _ PL.out).1,(CI.out _ PL.out).2⟩) (fun hHeld=>?_);obtain⟨V7,hV⟩:∃ V,V=x5.drew:=⟨_,rfl⟩
 have hb:Below x5.heap.size x5 V7:=by rw [hV];exact (Below.refl _ _).drew
 have zzV7:x5.heap.size<=V7.heap.size:=hb.size;replace BX:=aq (BX.out.below hb);replace PL:=aq (PL.out.below hb);replace BB:=aq (BB.out.trans (hb.mono BB.out.size));rw [<-hV] at hHeld ⊢;clear hV hb;refine wpAnyH_take (i:=0) (oi:=Oper.mk _ _ _ _ _ _) (v:=?vd90) rfl (by kernel_rfl) (by kernel_rfl) (by kernel_rfl) (fun _ _ _ h=>h) (Or.inl ⟨by rfl,?hyd90⟩) (by assumption) ?restd90
 case hyd90 =>
  intro w0 hSw;refine load_whole (x:=.tmp 3) ?_ ?_ hSw.1 _ Tryz.underlying33 rfl infoO
  all_goals rfl
 try simp only [sZ]
 refine tk 1 ?_;refine tk 2 ?_;refine tk 3 ?_;refine wpAnyH_take (i:=4) (oi:=Oper.mk _ _ _ _ _ _) (v:=?vd94) rfl (by kernel_rfl) (by kernel_rfl) (by kernel_rfl) (fun _ _ _ h=>h) (Or.inl ⟨by rfl,?hyd94⟩) (by assumption) ?restd94
 case hyd94 =>
  intro w0 hSw;obtain⟨_,hs0,hs1⟩:=hSw;go_simp
  all_goals with_reducible rfl
 try simp only [sZ]
 refine rdH 5 fun K hK=>?_;go_simp;refine (c4.out V7 BB.out).mono ?_;rintro e x8 ⟨rfl,hb⟩
 try (go_simp)
 have zzx8:V7.heap.size<=x8.heap.size:=hb.size;replace BX:=aq (BX.out.below hb);replace PL:=aq (PL.out.below hb);replace BB:=aq (BB.out.trans (hb.mono BB.out.size));clear hb;refine hK.out _ _ (by exact⟨BX.out,(CI.out _ PL.out).1,(CI.out _ PL.out).2⟩) (fun hHeldd95=>?_);clear hK K hHeld
 try simp only [sZ]
 refine tk 6 ?_;refine tk 7 ?_;refine tk 8 ?_;refine tk 9 ?_;refine tk 10 ?_;refine wpAnyH_done (by kernel_rfl) ?_ _
 go_upto_region 9 with (fail)
 refine wp_region_held_drew (S:=fun w'=>OBox w' (W.heap.size) o a A/\w'.cell? ⟨bL,j*2,none⟩=some (.int .i64 Y.1)/\w'.cell? ⟨bL,j*2+1,none⟩=some (.int .i64 Y.2)) (by kernel_rfl) (by exact⟨BX.out.below ((Below.refl _ _).drew),(CJ.out _ PL.out).1,(CJ.out _ PL.out).2⟩) (fun hHeld=>?_);obtain⟨V10,hV⟩:∃ V,V=x8.drew:=⟨_,rfl⟩
 have hb:Below x8.heap.size x8 V10:=by rw [hV];exact (Below.refl _ _).drew
 have zzV10:x8.heap.size<=V10.heap.size:=hb.size;replace BX:=aq (BX.out.below hb);replace PL:=aq (PL.out.below hb);replace BB:=aq (BB.out.trans (hb.mono BB.out.size));rw [<-hV] at hHeld ⊢;clear hV hb;refine wpAnyH_take (i:=0) (oi:=Oper.mk _ _ _ _ _ _) (v:=?vd120) rfl (by kernel_rfl) (by kernel_rfl) (by kernel_rfl) (fun _ _ _ h=>h) (Or.inl ⟨by rfl,?hyd120⟩) (by assumption) ?restd120
 case hyd120 =>
  intro w0 hSw;refine load_whole (x:=.tmp 3) ?_ ?_ hSw.1 _ Tryz.underlying33 rfl infoO
  all_goals rfl
 try simp only [sZ]
 refine tk 1 ?_;refine tk 2 ?_;refine tk 3 ?_;refine wpAnyH_take (i:=4) (oi:=Oper.mk _ _ _ _ _ _) (v:=?vd124) rfl (by kernel_rfl) (by kernel_rfl) (by kernel_rfl) (fun _ _ _ h=>h) (Or.inl ⟨by rfl,?hyd124⟩) (by assumption) ?restd124
 case hyd124 =>
  intro w0 hSw;obtain⟨_,hs0,hs1⟩:=hSw;go_simp
  all_goals with_reducible rfl
 try simp only [sZ]
 refine rdH 5 fun K hK=>?_;go_simp;refine (c5.out V10 BB.out).mono ?_;rintro e x11 ⟨rfl,hb⟩
 try (go_simp)
 have zzx11:V10.heap.size<=x11.heap.size:=hb.size;replace BX:=aq (BX.out.below hb);replace PL:=aq (PL.out.below hb);replace BB:=aq (BB.out.trans (hb.mono BB.out.size));clear hb;refine hK.out _ _ (by exact⟨BX.out,(CJ.out _ PL.out).1,(CJ.out _ PL.out).2⟩) (fun hHeldd125=>?_);clear hK K hHeld
 try simp only [sZ]
 refine tk 6 ?_;refine tk 7 ?_;refine tk 8 ?_;refine tk 9 ?_;refine tk 10 ?_;refine wpAnyH_done (by kernel_rfl) ?_ _;clear k1 k2 k3 k4 CI CJ c0 c1 c2 c3 c4 c5 g1 g2 hcl
 rcases Nat.lt_trichotomy i j with hij | hij | hij
 ·have q1:=PT1.out hij
  obtain rfl:C=-1:=by rw [HC.out,if_pos hij]
  have e1:decide ((i:Int) < (j:Int))=true:=decide_eq_true (by omega);have e1n:decide (i < j)=true:=decide_eq_true (by omega)
  have e2:((i:Int)==(j:Int))=false:=by simp;omega
  have e2n:(i==j)=false:=by simp;omega
  have e2m:decide (i=j)=false:=by simp;omega
  have e3:decide ((p:Int) < (q:Int))=true:=decide_eq_true (by omega);have e3n:decide (p < q)=true:=decide_eq_true (by omega)
  have e4:((p:Int)==(q:Int))=false:=by simp;omega
  have e4n:(p==q)=false:=by simp;omega
  have e4m:decide (p=q)=false:=by simp;omega
  clear hij q1;go_wp2;go_ret;exact⟨rfl,BB.out⟩
 ·have q1:=PE.out hij
  obtain rfl:C=0:=by rw [HC.out,if_neg (by omega),if_neg (by omega)]
  have e1:decide ((i:Int) < (j:Int))=false:=decide_eq_false (by omega);have e1n:decide (i < j)=false:=decide_eq_false (by omega)
  have e2:((i:Int)==(j:Int))=true:=by simp;omega
  have e2n:(i==j)=true:=by simp;omega
  have e2m:decide (i=j)=true:=by simp;omega
  have e3:decide ((p:Int) < (q:Int))=false:=decide_eq_false (by omega);have e3n:decide (p < q)=false:=decide_eq_false (by omega)
  have e4:((p:Int)==(q:Int))=true:=by simp;omega
  have e4n:(p==q)=true:=by simp;omega
  have e4m:decide (p=q)=true:=by simp;omega
  clear hij q1;go_wp2;go_ret;exact⟨rfl,BB.out⟩
 ·have q1:=PT2.out hij
  obtain rfl:C=1:=by rw [HC.out,if_neg (by omega),if_pos hij]
  have e1:decide ((i:Int) < (j:Int))=false:=decide_eq_false (by omega);have e1n:decide (i < j)=false:=decide_eq_false (by omega)
  have e2:((i:Int)==(j:Int))=false:=by simp;omega
  have e2n:(i==j)=false:=by simp;omega
  have e2m:decide (i=j)=false:=by simp;omega
  have e3:decide ((p:Int) < (q:Int))=false:=decide_eq_false (by omega);have e3n:decide (p < q)=false:=decide_eq_false (by omega)
  have e4:((p:Int)==(q:Int))=false:=by simp;omega
  have e4n:(p==q)=false:=by simp;omega
  have e4m:decide (p=q)=false:=by simp;omega
  clear hij q1;go_wp2;go_ret;exact⟨rfl,BB.out⟩
theorem walk (o:Od) (a:Ads) (A:HAds) (x y:Int) (W:World) (h:OHeld W o a A) (hc:o.cf.In) (ok:o.Ok) (hT:Tab W) :
  Calls Tryz.prog 7 #[odv o a A,.int .i64 x,.int .i64 y] W fun e w'=>e=.returned (.bool true)/\Below W.heap.size W w':=by
 cases hg:Om.greatB o 600
 ·by_cases he:Om.chkE o=0
  ·by_cases hx:x < 0∨y < 0∨((Om.hands o).length:Int)<=x∨((Om.hands o).length:Int)<=y
   ·exact out o a A x y W h hc ok hT hg he hx
   ·obtain⟨i,rfl⟩:∃ i:Nat,x=i:=⟨x.toNat,by omega⟩
    obtain⟨j,rfl⟩:∃ j:Nat,y=j:=⟨y.toNat,by omega⟩;exact two o a A i j W h hc ok hT hg he (by omega) (by omega)
  ·exact bad o a A x y W h hc ok hT hg he
 ·exact great o a A x y W h hc ok hT hg
end Go.Proofs.YtpeckljoannolaaGreatDoor.omCompares

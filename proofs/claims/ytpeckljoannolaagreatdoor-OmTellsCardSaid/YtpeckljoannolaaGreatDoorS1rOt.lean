/- What the document's own answers of layer 15 return. -/
import Derived.Test.YtpeckljoannolaaGreatDoorTkOt
import Derived.Test.YtpeckljoannolaaGreatDoorS1dOt
import Derived.Test.YtpeckljoannolaaGreatDoorS15Ot
import Derived.Test.YtpeckljoannolaaGreatDoorR01Ot
import Derived.Test.YtpeckljoannolaaGreatDoorM04Ot
import Derived.Test.YtpeckljoannolaaGreatDoorR04Ot
import Derived.Test.YtpeckljoannolaaGreatDoorP5rOt
import Derived.Test.YtpeckljoannolaaGreatDoorS4aOt
import Derived.Test.YtpeckljoannolaaGreatDoorRefC14Ot
set_option linter.unusedVariables false
set_option linter.unusedSimpArgs false
set_option maxHeartbeats 8000000
set_option maxRecDepth 100000
namespace Go.Proofs.YtpeckljoannolaaGreatDoor
open Go.RowKit
def HRowE (l:List (Int×Int)) (er:Int) (w:World) (e:Ending) (w':World):Prop:=∃ v,e=.returned (.tuple #[v,.int .i64 er])/\w'.ownsRow w.heap.size 39 2 v l.length (pcells l)/\Below w.heap.size w w'
def Om.ixV (o:Od) (h:Int×Int):Int:=if Om.inB o h=true then (Om.ix h (Om.hands o):Nat) else -1
theorem ix_first {h:Int×Int}:∀ {l:List (Int×Int)} {k:Nat},k < l.length->(∀ j,j < k->¬ l.getD j (0,0)=h)->l.getD k (0,0)=h->Om.ix h l=k
 | [],k,hk,_,_=>by simp at hk
 | x::l,0,_,_,he=>by
  have:x=h:=he;unfold Om.ix;rw [if_pos this]
 | x::l,k+1,hk,hn,he=>by
  have h0:¬ x=h:=hn 0 (by omega);unfold Om.ix;rw [if_neg h0,ix_first (l:=l) (k:=k) (by simpa using hk) (fun j hj=>hn (j+1) (by omega)) he]
theorem ix_out {h:Int×Int} {l:List (Int×Int)} (hn:∀ j,j < l.length->¬ l.getD j (0,0)=h):¬ Om.ix h l < l.length:=fun q=>hn _ q (Om.ix_get q)
theorem own_plstH {w:World} {B:Nat} {v:Value} {ps:List (Int×Int)} (h:w.ownsRow B 39 2 v ps.length (pcells ps)):∃ A c,v=.slice A ps.length c/\PLst w A ps:=by
 obtain⟨A,c,hv,hC,_⟩:=own_cells h;exact⟨A,c,hv,hC⟩
theorem r15List (o:Od) (a:Ads) (A:HAds) (w:World) (h:OHeld w o a A) (hin:o.In) :
  Calls Tryz.prog 23 #[odv o a A] w (HRowE (Om.listV o) (Om.chkE o) w):=by
 have HX:=aq (OBox.new w o a A 33);have BB:=aq (fun o=>(Below.refl w.heap.size w).alloc (Nat.le_refl _) o);have CC:=aq (fun V (hb:Below w.heap.size w V)=>r15Check o a A V (h.below hb) hin);have CA:=aq (fun V (hb:Below w.heap.size w V) F=>r15All o a A V (h.below hb) hin F);clear h hin;unfold odv at CC CA;unfold odv
 go_enter Tryz.func23,Tryz.ntmps23
 go_upto_region 1 with (fail)
 obtain⟨W0,hW0⟩:∃ W0,W0=w.alloc (.cells (odCells o a A) 33):=⟨_,rfl⟩;have BX:=aq (show OBox W0 w.heap.size o a A by rw [hW0];exact HX.out);have B0:=aq (show Below w.heap.size w W0 by rw [hW0];exact BB.out _);rw [<-hW0];clear hW0 HX BB;refine wp_region_lit (l:=_) ?_;refine wpList_load_row rfl 33 (.tmp 1) rfl w.heap.size rfl _ (odCells o a A) (0,0) _ BX.out.choose_spec Tryz.underlying33 rfl infoO ?_
 go_wp2_with fail
 refine (CC.out W0 B0.out).mono ?_;rintro e w1 ⟨rfl,hb⟩;replace BX:=aq (BX.out.below hb);replace B0:=aq (B0.out.trans (hb.mono B0.out.size));clear hb CC
 by_cases hc:Om.chkE o=0
 ·have k1:(Om.chkE o != 0)=false:=by simpa using hc
  have HF:=aq (Om.chk_fit.1 hc);have EV:=aq (show Om.listV o=Om.hands o by unfold Om.listV;rw [if_pos hc]);have EC:=aq hc;clear hc
  go_upto_region 4 with (fail)
  refine wp_region_lit (l:=_) ?_;refine wpList_load_row rfl 33 (.tmp 1) rfl w.heap.size rfl _ (odCells o a A) (0,0) _ BX.out.choose_spec Tryz.underlying33 rfl infoO ?_
  go_wp2_with fail
  refine (CA.out w1 B0.out HF.out).mono ?_;rintro e w2 ⟨v,rfl,hown,hb⟩;have OW:=aq (own_lower hown B0.out.size);have B2:=aq (B0.out.trans (hb.mono B0.out.size));clear hown hb k1;go_wp2;go_ret2;rw [EV.out,EC.out];exact⟨_,rfl,OW.out,B2.out⟩
 ·have k1:(Om.chkE o != 0)=true:=by simpa using hc
  have EV:=aq (show Om.listV o=[] by unfold Om.listV;rw [if_neg hc]);clear hc;go_wp2;go_ret2;rw [EV.out];exact⟨_,rfl,World.ownsRow_nil _ _ _ _,B0.out⟩
def IxJ (l:List (Int×Int)) (h:Int×Int) (w:World) (i:Value) (wr:World):Prop:=∃ k q:Nat,k<=l.length/\i=.int .i64 k/\wr=w.drewN q/\∀ j,j < k->¬ l.getD j (0,0)=h
theorem r15Index (o:Od) (a:Ads) (A:HAds) (h:Int×Int) (w:World) (hh:OHeld w o a A) (hin:o.In) (F:Om.Fit o) :
  Calls Tryz.prog 56 #[odv o a A,pv h] w fun e w'=>e=.returned (.int .i64 (Om.ixV o h))/\Below w.heap.size w w':=by
 obtain⟨n,m⟩:=h;have HX:=aq (fun x=>(OBox.new w o a A 33).below ((Below.refl _ _).alloc (Nat.le_refl _) x));have HP:=aq (fun x=>PBox.new (w.alloc x) (n,m) 39);have BB:=aq (fun x y=>((Below.refl w.heap.size w).alloc (Nat.le_refl _) x).alloc (by simp) y);have CA:=aq (fun V (hb:Below w.heap.size w V)=>r15All o a A V (hh.below hb) hin F)
 have h16:(Om.hands o).length<=65536:=by
  have h1:=Oc.places_length_le o.sl.words 0 o.sl.keys.length;have h2:(Om.pl o.sl).length=(Oc.places o.sl.words 0 o.sl.keys.length).length:=rfl;have h3:=hin.short.sl.keys;rw [Om.hands_len]
  omega
 clear hh hin F;unfold odv at CA;unfold odv pv
 dsimp only
 go_enter Tryz.func56,Tryz.ntmps56
 go_upto_region 1 with (fail)
 obtain⟨W0,hW0⟩:∃ W0,W0=(w.alloc (.cells (odCells o a A) 33)).alloc (.cells #[.int .i64 n,.int .i64 m] 39):=⟨_,rfl⟩;have BX:=aq (show OBox W0 w.heap.size o a A by rw [hW0];exact HX.out _);have BP:=aq (show PBox W0 (w.heap.size+1) (n,m) by rw [hW0];have:=HP.out (.cells (odCells o a A) 33);rw [World.size_alloc] at this;exact this);have B0:=aq (show Below w.heap.size w W0 by rw [hW0];exact BB.out _ _);rw [<-hW0];clear hW0 HX HP BB;refine wp_region_lit (l:=_) ?_;refine wpList_load_row rfl 33 (.tmp 2) rfl w.heap.size rfl _ (odCells o a A) (0,0) _ BX.out.choose_spec Tryz.underlying33 rfl infoO ?_
 go_wp2_with fail
 refine (CA.out W0 B0.out).mono ?_;rintro e w1 ⟨v,rfl,hown,hb⟩;obtain⟨AL,cl,rfl,hpl⟩:=own_plstH hown;have HL:=aq hpl;replace BP:=aq (BP.out.below hb);replace B0:=aq (B0.out.trans (hb.mono B0.out.size));clear hown hpl hb CA BX;obtain⟨L,hL⟩:∃ L,Om.hands o=L:=⟨_,rfl⟩;have HLL:=aq hL;rw [hL] at HL h16 ⊢;clear hL;obtain⟨_,r0,r1,_,_⟩:=BP.out
 dsimp only at r0 r1
 go_wp2
 go_loopw [6] (IxJ L (n,m) w1) (fun i _=>L.length-(intOf i).toNat)
 case atStart=>exact⟨0,0,Nat.zero_le _,rfl,rfl,fun j hj=>absurd hj (Nat.not_lt_zero _)⟩
 case round =>
  obtain⟨k,q,hk,rfl,rfl,ht⟩:=hrel;have HT:=aq ht;clear ht
  by_cases hlt:k < L.length
  ·obtain⟨b1,o1,rfl,_,c1,c2⟩:=HL.out.pair hlt
   obtain⟨x,hx⟩:∃ x,L.getD k (0,0)=x:=⟨_,rfl⟩;rw [hx] at c1 c2;have HX:=aq hx;clear hx;obtain⟨x1,x2⟩:=x
   dsimp only at c1 c2
   have NX:=aq (show ¬ (x1,x2)=(n,m)->∀ j,j < k+1->¬ L.getD j (0,0)=(n,m) from fun hne j hj=>by
    by_cases e:j=k
    ·rw [e,HX.out];exact hne
    ·exact HT.out j (by omega))
   cases e1:(x1==n)
   ·have HE:=aq (NX.out (by intro h;injection h with h1 h2;rw [h1] at e1;simp at e1))
    go_wp2
    go_quiet (fail)
    go_wp2
    go_roundw
    case rel=>exact⟨k+1,_,by omega,by go_num,rfl,HE.out⟩
    case measure=>simp [intOf];omega
   ·cases e2:(x2==m)
    ·have HE:=aq (NX.out (by intro h;injection h with h1 h2;rw [h2] at e2;simp at e2))
     go_wp2
     go_quiet (fail)
     go_wp2
     go_roundw
     case rel=>exact⟨k+1,_,by omega,by go_num,rfl,HE.out⟩
     case measure=>simp [intOf];omega
    ·have E:=aq (show Om.ixV o (n,m)=(k:Int) by
      have h1:=ix_first hlt HT.out (by rw [HX.out,beq_iff_eq.1 e1,beq_iff_eq.1 e2]);unfold Om.ixV Om.inB
      rw [HLL.out,h1,decide_eq_true hlt,if_pos rfl])
     go_wp2
     go_quiet (fail)
     go_wp2;go_ret;rw [E.out];exact⟨rfl,below_drewN (below_drewN B0.out _) _⟩
  ·have E:=aq (show Om.ixV o (n,m)=-1 by
    have h1:=ix_out (h:=(n,m)) (l:=L) (fun j hj=>HT.out j (by omega));unfold Om.ixV Om.inB
    rw [HLL.out,decide_eq_false h1,if_neg (by simp)])
   go_wp2;go_ret;rw [E.out];exact⟨rfl,below_drewN B0.out _⟩
theorem r15Label (o:Od) (a:Ads) (A:HAds) (h:Int×Int) (w:World) (hh:OHeld w o a A) (hin:o.In) :
  Calls Tryz.prog 25 #[odv o a A,pv h] w fun e w'=>e=.returned (.tuple #[.int .i64 (Om.labV o h),.int .i64 (Om.labE o h)])/\Below w.heap.size w w':=by
 obtain⟨n,m⟩:=h;have HX:=aq (fun x=>(OBox.new w o a A 33).below ((Below.refl _ _).alloc (Nat.le_refl _) x));have HP:=aq (fun x=>PBox.new (w.alloc x) (n,m) 39);have BB:=aq (fun x y=>((Below.refl w.heap.size w).alloc (Nat.le_refl _) x).alloc (by simp) y);have CC:=aq (fun V (hb:Below w.heap.size w V)=>r15Check o a A V (hh.below hb) hin);have CI:=aq (fun V (hb:Below w.heap.size w V) F=>r15Index o a A (n,m) V (hh.below hb) hin F);have HH:=aq hh;clear hh hin;unfold odv at CC;unfold odv pv at CI;unfold odv pv
 dsimp only at CI ⊢
 go_enter Tryz.func25,Tryz.ntmps25
 go_upto_region 1 with (fail)
 obtain⟨W0,hW0⟩:∃ W0,W0=(w.alloc (.cells (odCells o a A) 33)).alloc (.cells #[.int .i64 n,.int .i64 m] 39):=⟨_,rfl⟩;have BX:=aq (show OBox W0 w.heap.size o a A by rw [hW0];exact HX.out _);have BP:=aq (show PBox W0 (w.heap.size+1) (n,m) by rw [hW0];have:=HP.out (.cells (odCells o a A) 33);rw [World.size_alloc] at this;exact this);have B0:=aq (show Below w.heap.size w W0 by rw [hW0];exact BB.out _ _);rw [<-hW0];clear hW0 HX HP BB;refine wp_region_lit (l:=_) ?_;refine wpList_load_row rfl 33 (.tmp 2) rfl w.heap.size rfl _ (odCells o a A) (0,0) _ BX.out.choose_spec Tryz.underlying33 rfl infoO ?_
 go_wp2_with fail
 refine (CC.out W0 B0.out).mono ?_;rintro e w1 ⟨rfl,hb⟩;replace BX:=aq (BX.out.below hb);replace BP:=aq (BP.out.below hb);replace B0:=aq (B0.out.trans (hb.mono B0.out.size));clear hb CC
 by_cases hc:Om.chkE o=0
 ·have k1:(Om.chkE o != 0)=false:=by simpa using hc
  have HF:=aq (Om.chk_fit.1 hc);have EC:=aq hc;clear hc;obtain⟨_,r0,r1,_,_⟩:=BP.out
  dsimp only at r0 r1
  go_upto_region 4 with (fail)
  refine wp_region_lit (l:=_) ?_;refine wpList_load_row rfl 33 (.tmp 2) rfl w.heap.size rfl _ (odCells o a A) (0,0) _ BX.out.choose_spec Tryz.underlying33 rfl infoO ?_
  go_wp2_with fail
  refine (CI.out w1 B0.out HF.out).mono ?_;rintro e w2 ⟨rfl,hb⟩;replace BX:=aq (BX.out.below hb);replace BP:=aq (BP.out.below hb);replace B0:=aq (B0.out.trans (hb.mono B0.out.size));clear hb CI k1 r0 r1
  cases hi:Om.inB o (n,m)
  ·have EV:=aq (show Om.ixV o (n,m)=-1 by unfold Om.ixV;rw [hi,if_neg (by simp)])
   have EE:=aq (show Om.labE o (n,m)=140 by unfold Om.labE;rw [EC.out,if_pos rfl,hi,if_neg (by simp)]);have VV:=aq (show Om.labV o (n,m)=0 by unfold Om.labV;rw [EE.out,if_neg (by omega)]);rw [EV.out];go_wp2;go_ret2;rw [EE.out,VV.out];exact⟨rfl,B0.out⟩
  ·have EV:=aq (show Om.ixV o (n,m)=(Om.ix (n,m) (Om.hands o):Nat) by unfold Om.ixV;rw [hi,if_pos rfl])
   have EE:=aq (show Om.labE o (n,m)=0 by unfold Om.labE;rw [EC.out,if_pos rfl,hi,if_pos rfl]);have VV:=aq (show Om.labV o (n,m)=Hn.a o.tb n.toNat by unfold Om.labV;rw [EE.out,if_pos rfl]);have HI:=aq hi;obtain⟨z,hz,z0⟩:∃ z:Int,((Om.ix (n,m) (Om.hands o):Nat):Int)=z/\0<=z:=⟨_,rfl,by omega⟩;rw [hz] at EV;rw [EV.out]
   have kz:decide (z < 0)=false:=by simpa using z0
   clear hi hz z0
   go_upto_region 6 with (fail)
   clear kz;have hi:=HI.out
   have hlt:Om.ix (n,m) (Om.hands o) < (Om.hands o).length:=by unfold Om.inB at hi;exact of_decide_eq_true hi
   have his:=(Om.hand_is HF.out hlt).1;have i0:0<=n:=((Hn.is_iff o.tb (n,m)).1 his).1;have i1:n < o.tb.gens.length:=((Hn.is_iff o.tb (n,m)).1 his).2.1;have hln:=HF.out.may.len;obtain⟨k,rfl⟩:∃ k:Nat,n=k:=⟨n.toNat,by omega⟩;rw [Int.toNat_natCast] at VV;obtain⟨b2,o2,hA2,_,c2⟩:=(HH.out.below B0.out).tb.ats.cell (i:=k) (by omega);replace c2:w2.cell? ⟨b2,o2+k,none⟩=some (.int .i64 (Hn.a o.tb k)):=c2;obtain⟨x,hx⟩:∃ x,Hn.a o.tb k=x:=⟨_,rfl⟩;rw [hx] at c2 VV
   have i2:(k:Int) < (o.tb.ats.length:Int):=by omega
   have c16:=BX.out.cells.c16;rw [hA2] at c16;obtain⟨_,r0,r1,_,_⟩:=BP.out
   dsimp only at r0 r1
   clear hx hlt his hln hi i0 i1 hA2;go_wp2;go_ret2;rw [EE.out,VV.out];exact⟨rfl,B0.out⟩
 ·have k1:(Om.chkE o != 0)=true:=by simpa using hc
  have EE:=aq (show Om.labE o (n,m)=Om.chkE o by unfold Om.labE;rw [if_neg hc]);have VV:=aq (show Om.labV o (n,m)=0 by unfold Om.labV;rw [EE.out,if_neg hc]);clear hc;go_wp2;go_ret2;rw [EE.out,VV.out];exact⟨rfl,B0.out⟩
theorem ix_sign {o:Od} {h:Int×Int} {z:Int} (e:Om.ixV o h=z):(Om.inB o h=true->0<=z)/\(Om.inB o h=false->z < 0):=by
 unfold Om.ixV at e
 constructor
 ·intro hi;rw [hi,if_pos rfl] at e;omega
 ·intro hi;rw [hi,if_neg (by simp)] at e;omega
theorem r15Compare (o:Od) (a:Ads) (A:HAds) (h k:Int×Int) (w:World) (hh:OHeld w o a A) (hin:o.In) :
  Calls Tryz.prog 24 #[odv o a A,pv h,pv k] w fun e w'=>e=.returned (.tuple #[.int .i64 (Om.cmpV o h k),.int .i64 (Om.cmpE o h k)])/\Below w.heap.size w w':=by
 obtain⟨n,m⟩:=h;obtain⟨p,q⟩:=k;have HX:=aq (fun x y=>((OBox.new w o a A 33).below ((Below.refl _ _).alloc (Nat.le_refl _) x)).below ((Below.refl _ _).alloc (Nat.le_refl _) y));have HP:=aq (fun x y=>(PBox.new (w.alloc x) (n,m) 39).below ((Below.refl _ _).alloc (Nat.le_refl _) y));have HQ:=aq (fun x y=>PBox.new ((w.alloc x).alloc y) (p,q) 39);have BB:=aq (fun x y z=>(((Below.refl w.heap.size w).alloc (Nat.le_refl _) x).alloc (by simp) y).alloc (by simp;omega) z);have CC:=aq (fun V (hb:Below w.heap.size w V)=>r15Check o a A V (hh.below hb) hin);have CI:=aq (fun V (hb:Below w.heap.size w V) F=>r15Index o a A (n,m) V (hh.below hb) hin F);have CJ:=aq (fun V (hb:Below w.heap.size w V) F=>r15Index o a A (p,q) V (hh.below hb) hin F);clear hh hin;unfold odv at CC;unfold odv pv at CI CJ;unfold odv pv
 dsimp only at CI CJ ⊢
 go_enter Tryz.func24,Tryz.ntmps24
 go_upto_region 1 with (fail)
 obtain⟨W0,hW0⟩:∃ W0,W0=((w.alloc (.cells (odCells o a A) 33)).alloc (.cells #[.int .i64 n,.int .i64 m] 39)).alloc (.cells #[.int .i64 p,.int .i64 q] 39):=⟨_,rfl⟩;have BX:=aq (show OBox W0 w.heap.size o a A by rw [hW0];exact HX.out _ _);have BP:=aq (show PBox W0 (w.heap.size+1) (n,m) by rw [hW0];have:=HP.out (.cells (odCells o a A) 33) (.cells #[.int .i64 p,.int .i64 q] 39);rw [World.size_alloc] at this;exact this);have BQ:=aq (show PBox W0 (w.heap.size+1+1) (p,q) by rw [hW0];have:=HQ.out (.cells (odCells o a A) 33) (.cells #[.int .i64 n,.int .i64 m] 39);rw [World.size_alloc,World.size_alloc] at this;exact this);have B0:=aq (show Below w.heap.size w W0 by rw [hW0];exact BB.out _ _ _);rw [<-hW0];clear hW0 HX HP HQ BB;refine wp_region_lit (l:=_) ?_;refine wpList_load_row rfl 33 (.tmp 3) rfl w.heap.size rfl _ (odCells o a A) (0,0) _ BX.out.choose_spec Tryz.underlying33 rfl infoO ?_
 go_wp2_with fail
 refine (CC.out W0 B0.out).mono ?_;rintro e w1 ⟨rfl,hb⟩;replace BX:=aq (BX.out.below hb);replace BP:=aq (BP.out.below hb);replace BQ:=aq (BQ.out.below hb);replace B0:=aq (B0.out.trans (hb.mono B0.out.size));clear hb CC
 by_cases hc:Om.chkE o=0
 ·have k1:(Om.chkE o != 0)=false:=by simpa using hc
  have HF:=aq (Om.chk_fit.1 hc);have EC:=aq hc;clear hc
  go_upto_region 4 with (fail)
  clear k1;refine wp_region_held_drew (S:=fun w'=>OBox w' w.heap.size o a A/\w'.cell? ⟨w.heap.size+1,0,none⟩=some (.int .i64 n)/\w'.cell? ⟨w.heap.size+1,1,none⟩=some (.int .i64 m)/\w'.cell? ⟨w.heap.size+1+1,0,none⟩=some (.int .i64 p)/\w'.cell? ⟨w.heap.size+1+1,1,none⟩=some (.int .i64 q)) (by kernel_rfl) (by exact⟨BX.out.below ((Below.refl _ _).drew),(BP.out.below ((Below.refl _ _).drew)).c0,(BP.out.below ((Below.refl _ _).drew)).c1,(BQ.out.below ((Below.refl _ _).drew)).c0,(BQ.out.below ((Below.refl _ _).drew)).c1⟩) (fun hHeld=>?_);obtain⟨V0,hV⟩:∃ V,V=w1.drew:=⟨_,rfl⟩;replace BX:=aq (show OBox V0 w.heap.size o a A by rw [hV];exact BX.out.below ((Below.refl _ _).drew));replace BP:=aq (show PBox V0 (w.heap.size+1) (n,m) by rw [hV];exact BP.out.below ((Below.refl _ _).drew));replace BQ:=aq (show PBox V0 (w.heap.size+1+1) (p,q) by rw [hV];exact BQ.out.below ((Below.refl _ _).drew));replace B0:=aq (show Below w.heap.size w V0 by rw [hV];exact B0.out.drew);rw [<-hV] at hHeld ⊢;clear hV;refine wpAnyH_take (i:=0) (oi:=Oper.mk _ _ _ _ _ _) (v:=?vcmp0) rfl (by kernel_rfl) (by kernel_rfl) (by kernel_rfl) (fun _ _ _ h=>h) (Or.inl ⟨by rfl,?hycmp0⟩) (by assumption) ?restcmp0
  case hycmp0 =>
   intro w0 hSw;refine load_whole (x:=.tmp 3) ?_ ?_ hSw.1 _ Tryz.underlying33 rfl infoO
   all_goals rfl
  try simp only [sZ]
  refine tk 1 ?_;refine wpAnyH_take (i:=3) (oi:=Oper.mk _ _ _ _ _ _) (v:=?vcmp2) rfl (by kernel_rfl) (by kernel_rfl) (by kernel_rfl) (fun _ _ _ h=>h) (Or.inl ⟨by rfl,?hycmp2⟩) (by assumption) ?restcmp2
  case hycmp2 =>
   intro w0 hSw;refine load_whole (x:=.tmp 3) ?_ ?_ hSw.1 _ Tryz.underlying33 rfl infoO
   all_goals rfl
  try simp only [sZ]
  refine tk 4 ?_;refine rdH 2 fun K hK=>?_;go_simp;refine (CI.out V0 B0.out HF.out).mono ?_;rintro e V1 ⟨rfl,hb⟩
  try (go_simp)
  replace BX:=aq (BX.out.below hb);replace BP:=aq (BP.out.below hb);replace BQ:=aq (BQ.out.below hb);replace B0:=aq (B0.out.trans (hb.mono B0.out.size));clear hb;refine hK.out _ _ (by exact⟨BX.out,BP.out.c0,BP.out.c1,BQ.out.c0,BQ.out.c1⟩) (fun hHeldcmp4=>?_);clear hK K hHeld
  try simp only [sZ]
  refine rdH 5 fun K hK=>?_;go_simp;refine (CJ.out V1 B0.out HF.out).mono ?_;rintro e V2 ⟨rfl,hb⟩
  try (go_simp)
  replace BX:=aq (BX.out.below hb);replace BP:=aq (BP.out.below hb);replace BQ:=aq (BQ.out.below hb);replace B0:=aq (B0.out.trans (hb.mono B0.out.size));clear hb;refine hK.out _ _ (by exact⟨BX.out,BP.out.c0,BP.out.c1,BQ.out.c0,BQ.out.c1⟩) (fun hHeldcmp5=>?_);clear hK K hHeldcmp4
  try simp only [sZ]
  refine tk 6 ?_;refine tk 7 ?_;refine wpAnyH_done (by kernel_rfl) ?_ _;obtain⟨x,hx⟩:∃ x,Om.ixV o (n,m)=x:=⟨_,rfl⟩;obtain⟨y,hy⟩:∃ y,Om.ixV o (p,q)=y:=⟨_,rfl⟩;have HXV:=aq hx;have HYV:=aq hy;rw [hx,hy];clear hx hy;have LOW:=aq (fun (h:Int×Int) (z:Int) (e:Om.ixV o h=z)=>(ix_sign e))
  cases hi:Om.inB o (n,m)
  ·have k2:decide (x < 0)=true:=decide_eq_true ((LOW.out (n,m) x HXV.out).2 hi)
   have EE:=aq (show Om.cmpE o (n,m) (p,q)=140 by unfold Om.cmpE;rw [EC.out,if_pos rfl,hi,if_neg (by simp)]);have VV:=aq (show Om.cmpV o (n,m) (p,q)=0 by unfold Om.cmpV;rw [EE.out,if_neg (by omega)]);clear hi;go_wp2;go_ret2;rw [EE.out,VV.out];exact⟨rfl,B0.out⟩
  ·have x0:=(LOW.out (n,m) x HXV.out).1 hi
   have k2:decide (x < 0)=false:=decide_eq_false (by omega)
   cases hj:Om.inB o (p,q)
   ·have k3:decide (y < 0)=true:=decide_eq_true ((LOW.out (p,q) y HYV.out).2 hj)
    have EE:=aq (show Om.cmpE o (n,m) (p,q)=140 by unfold Om.cmpE;rw [EC.out,if_pos rfl,hj,if_neg (by simp)]);have VV:=aq (show Om.cmpV o (n,m) (p,q)=0 by unfold Om.cmpV;rw [EE.out,if_neg (by omega)]);clear hi hj x0;go_wp2;go_ret2;rw [EE.out,VV.out];exact⟨rfl,B0.out⟩
   ·have y0:=(LOW.out (p,q) y HYV.out).1 hj
    have k3:decide (y < 0)=false:=decide_eq_false (by omega);have EE:=aq (show Om.cmpE o (n,m) (p,q)=0 by unfold Om.cmpE;rw [EC.out,if_pos rfl,hi,hj,if_pos ⟨rfl,rfl⟩]);have EX:=aq (show x=(Om.ix (n,m) (Om.hands o):Nat) by rw [<-HXV.out];unfold Om.ixV;rw [hi,if_pos rfl]);have EY:=aq (show y=(Om.ix (p,q) (Om.hands o):Nat) by rw [<-HYV.out];unfold Om.ixV;rw [hj,if_pos rfl])
    have VV:=aq (show Om.cmpV o (n,m) (p,q)=if x < y then -1 else if y < x then 1 else 0 by
     unfold Om.cmpV;rw [EE.out,if_pos rfl];have h1:=EX.out;have h2:=EY.out
     by_cases c1:x < y
     ·rw [if_pos c1,if_pos (by omega)]
     ·rw [if_neg c1,if_neg (by omega)]
      by_cases c2:y < x
      ·rw [if_pos c2,if_pos (by omega)]
      ·rw [if_neg c2,if_neg (by omega)])
    clear hi hj x0 y0
    by_cases c1:x < y
    ·have k4:decide (x < y)=true:=decide_eq_true c1
     have V2:=aq (VV.out.trans (if_pos c1));clear c1 VV;go_wp2;go_ret2;rw [EE.out,V2.out];exact⟨rfl,B0.out⟩
    ·have k4:decide (x < y)=false:=decide_eq_false c1
     by_cases c2:y < x
     ·have k5:decide (x > y)=true:=decide_eq_true c2
      have V2:=aq (VV.out.trans ((if_neg c1).trans (if_pos c2)));clear c1 c2 VV;go_wp2;go_ret2;rw [EE.out,V2.out];exact⟨rfl,B0.out⟩
     ·have k5:decide (x > y)=false:=decide_eq_false c2
      have V2:=aq (VV.out.trans ((if_neg c1).trans (if_neg c2)));clear c1 c2 VV;go_wp2;go_ret2;rw [EE.out,V2.out];exact⟨rfl,B0.out⟩
 ·have k1:(Om.chkE o != 0)=true:=by simpa using hc
  have EE:=aq (show Om.cmpE o (n,m) (p,q)=Om.chkE o by unfold Om.cmpE;rw [if_neg hc]);have VV:=aq (show Om.cmpV o (n,m) (p,q)=0 by unfold Om.cmpV;rw [EE.out,if_neg hc]);clear hc;go_wp2;go_ret2;rw [EE.out,VV.out];exact⟨rfl,B0.out⟩
theorem Laid1.cbox {w w':World} {g b:Nat} (h:Laid1 w g w') {c:Cf} (hb:CBox w b c) (hg:b≠g):CBox w' b c :=
 have hc:∀ o,w'.cell? ⟨b,o,none⟩=w.cell? ⟨b,o,none⟩:=fun o=>h.cells (p:=⟨b,o,none⟩) hg
 ⟨by rw [h.size];exact hb.lt,(hc 0).trans hb.c0,(hc 1).trans hb.c1,(hc 2).trans hb.c2,(hc 3).trans hb.c3,(hc 4).trans hb.c4,(hc 5).trans hb.c5,(hc 6).trans hb.c6,(hc 7).trans hb.c7,(hc 8).trans hb.c8,fun o=>(h.frozen (p:=⟨b,o,none⟩) hg).trans (hb.fz o)⟩
theorem obox_zero (w:World):OBox (w.alloc (.cells (odCells Od.zero adsNone hNone) 33)) w.heap.size Od.zero adsNone hNone:=OBox.new w _ _ _ _
theorem r15Empty (c:Cf) (w:World) (hm:c.mayB=true) :
  Calls Tryz.prog 53 #[cfv c] w (OPost (Om.newV c) w):=by
 have HC:=aq (fun x=>(CBox.new w c 23).below ((Below.refl _ _).alloc (Nat.le_refl _) x));have HZ:=aq (fun x=>obox_zero (w.alloc x));have BB:=aq (fun x y=>((Below.refl w.heap.size w).alloc (Nat.le_refl _) x).alloc (by simp) y);have M:=(Cf.may_iff c).1 hm;have g1:=M.sizes.seg1;have g2:=M.sizes.seg2;have l1:=M.sizes.least1;have l2:=M.sizes.least2;obtain⟨sg,hsg⟩:∃ sg:Nat,c.seg=sg:=⟨c.seg.toNat,by omega⟩;obtain⟨m,hmm⟩:∃ m:Nat,c.least=m:=⟨c.least.toNat,by omega⟩;obtain⟨t,ht⟩:∃ t,t=slMade sg ((m+63)/64) m (m/sg):=⟨_,rfl⟩
 have V:Sl.empty c.seg c.least=t:=by rw [hsg,hmm,empty_made,ht]
 have CE:=aq (show ∀ W,Calls Tryz.prog 88 #[.int .i64 c.seg,.int .i64 c.least] W (SPost t W) from fun W=>by rw [hsg,hmm,ht];exact r4Empty sg m _ _ W (by omega) (by omega) (by omega) (by omega) rfl rfl)
 have NV:=aq (show Om.newV c=⟨c,t,Ht.zero,0⟩ by
  have k:c.chkE=0:=by rw [show c.chkE=(if c.mayB then 0 else 50) from rfl,hm];rfl
  have q:Gp.newS c=t:=by rw [show Gp.newS c=(if c.mayB then Sl.empty c.seg c.least else Sl.none) from rfl,hm,if_pos rfl,V]
  unfold Om.newV
  rw [if_pos k,q])
 clear M ht hsg hmm V g1 g2 l1 l2 hm;unfold cfv
 go_enter Tryz.func53,Tryz.ntmps53
 go_upto_region 1 with (fail)
 obtain⟨W0,hW0⟩:∃ W0,W0=(w.alloc (.cells #[.int .u8 c.tag,.int .i64 c.most,.int .i64 c.seg,.int .i64 c.least,.int .i64 c.den,.int .i64 c.ll,.int .i64 c.rl,.int .i64 c.rh,.int .i64 c.lh] 23)).alloc (.cells #[.int .u8 0,.int .i64 0,.int .i64 0,.int .i64 0,.int .i64 0,.int .i64 0,.int .i64 0,.int .i64 0,.int .i64 0,.int .i64 0,.slice none 0 0,.slice none 0 0,.slice none 0 0,.slice none 0 0,.int .u64 0,.slice none 0 0,.slice none 0 0,.int .u64 0] 33):=⟨_,rfl⟩;have BC:=aq (show CBox W0 w.heap.size c by rw [hW0];exact HC.out _);have BR:=aq (show OBox W0 (w.heap.size+1) Od.zero adsNone hNone by rw [hW0];have:=HZ.out (.cells #[.int .u8 c.tag,.int .i64 c.most,.int .i64 c.seg,.int .i64 c.least,.int .i64 c.den,.int .i64 c.ll,.int .i64 c.rl,.int .i64 c.rh,.int .i64 c.lh] 23);rw [World.size_alloc] at this;exact this);have B0:=aq (show Below w.heap.size w W0 by rw [hW0];exact BB.out _ _)
 have z0:w.heap.size+2<=W0.heap.size:=by rw [hW0];simp
 rw [<-hW0];clear hW0 HC HZ BB;refine wp_region_held_drew (S:=fun w'=>CBox w' w.heap.size c) (by kernel_rfl) (by exact BC.out.below ((Below.refl _ _).drew)) (fun hHeld=>?_);obtain⟨V0,hV⟩:∃ V,V=W0.drew:=⟨_,rfl⟩;replace BC:=aq (show CBox V0 w.heap.size c by rw [hV];exact BC.out.below ((Below.refl _ _).drew));replace BR:=aq (show OBox V0 (w.heap.size+1) Od.zero adsNone hNone by rw [hV];exact BR.out.below ((Below.refl _ _).drew));replace B0:=aq (show Below w.heap.size w V0 by rw [hV];exact B0.out.drew)
 have y0:w.heap.size+2<=V0.heap.size:=by rw [hV];exact z0
 rw [<-hV] at hHeld ⊢;clear hV;refine wpAnyH_take (i:=0) (oi:=Oper.mk _ _ _ _ _ _) (v:=?vem0) rfl (by kernel_rfl) (by kernel_rfl) (by kernel_rfl) (fun _ _ _ h=>h) (Or.inl ⟨by rfl,?hyem0⟩) (by assumption) ?restem0
 case hyem0 =>
  intro w0 hSw;obtain⟨_,c0,c1,c2,c3,c4,c5,c6,c7,c8,_⟩:=hSw;go_simp
  all_goals with_reducible rfl
 try simp only [sZ]
 refine tk 1 ?_;refine wpAnyH_take (i:=2) (oi:=Oper.mk _ _ _ _ _ _) (v:=?vem2) rfl (by kernel_rfl) (by kernel_rfl) (by kernel_rfl) (fun _ _ _ h=>h) (Or.inl ⟨by rfl,?hyem2⟩) (by assumption) ?restem2
 case hyem2 =>
  intro w0 hSw;obtain⟨_,c0,c1,c2,c3,c4,c5,c6,c7,c8,_⟩:=hSw;go_simp
  all_goals with_reducible rfl
 try simp only [sZ]
 refine tk 3 ?_;refine wpAnyH_take (i:=4) (oi:=Oper.mk _ _ _ _ _ _) (v:=?vem4) rfl (by kernel_rfl) (by kernel_rfl) (by kernel_rfl) (fun _ _ _ h=>h) (Or.inl ⟨by rfl,?hyem4⟩) (by assumption) ?restem4
 case hyem4 =>
  intro w0 hSw;obtain⟨_,c0,c1,c2,c3,c4,c5,c6,c7,c8,_⟩:=hSw;go_simp
  all_goals with_reducible rfl
 try simp only [sZ]
 refine rdH 5 fun K hK=>?_;go_simp;refine (CE.out V0).mono ?_;rintro e V1 ⟨a1,rfl,own,_,_,hb⟩
 try unfold slv
 try (go_simp)
 have y1:V0.heap.size<=V1.heap.size:=hb.size;have O1:=aq (own.lower y0);replace BC:=aq (BC.out.below hb);replace BR:=aq (BR.out.below hb);replace B0:=aq (B0.out.trans (hb.mono B0.out.size));clear own hb;refine hK.out _ _ (by exact BC.out) (fun hHeldem5=>?_);clear hK K hHeld
 try simp only [sZ]
 refine wpAnyH_take (i:=6) (oi:=Oper.mk _ _ _ _ _ _) (v:=?vem6) rfl (by kernel_rfl) (by kernel_rfl) (by kernel_rfl) (fun _ _ _ h=>h) (Or.inl ⟨by rfl,?hyem6⟩) (by assumption) ?restem6
 case hyem6 =>
  intro w0 hSw;clear hSw;go_simp
  all_goals rfl
 try simp only [sZ]
 refine rdH 7 fun K hK=>?_;refine step_store_od rfl _ _ rfl _ rfl ⟨c,t,Ht.zero,0⟩ a1 hNone rfl BR.out ?_;intro V3 hX hL;have BY:=aq hX;have LD:=aq hL;replace BC:=aq (show CBox V3 w.heap.size c from hL.cbox BC.out (by omega));clear hX hL BR;refine hK.out _ _ (by exact BC.out) (fun hHeldem7=>?_);clear hK K hHeldem5
 try simp only [sZ]
 refine wpAnyH_done (by kernel_rfl) ?_ _;go_wp2;refine bodyPost_ret (results_od (by first | rfl | kernel_rfl) _ _ _ rfl BY.out) rfl ?_;rw [NV.out];exact⟨_,_,rfl,(OOwn.laid (B:=w.heap.size+2) ⟨O1.out,own_zero _ _⟩ LD.out (by omega)).lower (by omega),LD.out.below B0.out (by omega)⟩
theorem r15New (c:Cf) (w:World) (hc:c.In) :
  Calls Tryz.prog 21 #[cfv c] w (OAns (Om.newV c) c.chkE w):=by
 have HC:=aq (fun x=>(CBox.new w c 23).below ((Below.refl _ _).alloc (Nat.le_refl _) x));have HZ:=aq (fun x=>obox_zero (w.alloc x));have BB:=aq (fun x y=>((Below.refl w.heap.size w).alloc (Nat.le_refl _) x).alloc (by simp) y);have CN:=aq (fun V=>r5Check c V hc);have CE:=aq (fun V hm=>r15Empty c V hm);have MB:=aq (show c.chkE=(if c.mayB then 0 else 50) from rfl);have NV:=aq (show Om.newV c=if c.chkE=0 then (⟨c,Gp.newS c,Ht.zero,0⟩:Od) else Od.zero from rfl);clear hc;unfold cfv at CN CE ⊢
 go_enter Tryz.func21,Tryz.ntmps21
 go_upto_region 1 with (fail)
 obtain⟨W0,hW0⟩:∃ W0,W0=(w.alloc (.cells #[.int .u8 c.tag,.int .i64 c.most,.int .i64 c.seg,.int .i64 c.least,.int .i64 c.den,.int .i64 c.ll,.int .i64 c.rl,.int .i64 c.rh,.int .i64 c.lh] 23)).alloc (.cells #[.int .u8 0,.int .i64 0,.int .i64 0,.int .i64 0,.int .i64 0,.int .i64 0,.int .i64 0,.int .i64 0,.int .i64 0,.int .i64 0,.slice none 0 0,.slice none 0 0,.slice none 0 0,.slice none 0 0,.int .u64 0,.slice none 0 0,.slice none 0 0,.int .u64 0] 33):=⟨_,rfl⟩;have BC:=aq (show CBox W0 w.heap.size c by rw [hW0];exact HC.out _);have BR:=aq (show OBox W0 (w.heap.size+1) Od.zero adsNone hNone by rw [hW0];have:=HZ.out (.cells #[.int .u8 c.tag,.int .i64 c.most,.int .i64 c.seg,.int .i64 c.least,.int .i64 c.den,.int .i64 c.ll,.int .i64 c.rl,.int .i64 c.rh,.int .i64 c.lh] 23);rw [World.size_alloc] at this;exact this);have B0:=aq (show Below w.heap.size w W0 by rw [hW0];exact BB.out _ _)
 have z0:w.heap.size+2<=W0.heap.size:=by rw [hW0];simp
 rw [<-hW0];clear hW0 HC HZ BB;obtain⟨_,c0,c1,c2,c3,c4,c5,c6,c7,c8,_⟩:=BC.out
 go_wp2_with fail
 refine (CN.out W0).mono ?_;rintro e w1 ⟨rfl,hb⟩;have z1:=hb.size;replace BC:=aq (BC.out.below hb);replace BR:=aq (BR.out.below hb);replace B0:=aq (B0.out.trans (hb.mono B0.out.size));clear hb CN c0 c1 c2 c3 c4 c5 c6 c7 c8
 cases hm:c.mayB
 ·have hk:c.chkE=50:=by rw [MB.out,hm];rfl
  have EV:=aq (show Om.newV c=Od.zero by rw [NV.out,if_neg (by rw [hk];decide)]);have EE:=aq hk;rw [hk];clear hk NV hm CE
  go_wp2_with (refine wpList_store_od rfl _ _ rfl _ rfl Od.zero adsNone hNone rfl BR.out ?_;intro W3 hX hL;have BX:=aq hX;have LD:=aq hL;clear hX hL)
  refine bodyPost_ret (results_ode (by first | rfl | kernel_rfl) _ _ _ _ rfl rfl BX.out) rfl ?_;rw [EV.out,EE.out];exact⟨_,_,rfl,oown_zero _ _,LD.out.below B0.out (by omega)⟩
 ·have hk:c.chkE=0:=by rw [MB.out,hm];rfl
  have EE:=aq hk;rw [hk];have CE2:=aq (CE.out w1 hm);clear hk NV hm CE MB;obtain⟨_,c0,c1,c2,c3,c4,c5,c6,c7,c8,_⟩:=BC.out
  go_wp2_with fail
  refine CE2.out.mono ?_;rintro e w2 ⟨a1,A1,rfl,own,hb⟩;have z2:=hb.size;have OW:=aq (own.lower (show w.heap.size+2<=w1.heap.size by omega));replace BC:=aq (BC.out.below hb);replace BR:=aq (BR.out.below hb);replace B0:=aq (B0.out.trans (hb.mono B0.out.size));clear own hb CE2 c0 c1 c2 c3 c4 c5 c6 c7 c8;obtain⟨n,hn⟩:∃ n,n=Om.newV c:=⟨_,rfl⟩;have HN:=aq hn;rw [<-hn] at OW ⊢;clear hn;unfold odv
  go_wp2_with (refine wpList_store_od rfl _ _ rfl _ rfl n a1 A1 rfl BR.out ?_;intro W3 hX hL;have BX:=aq hX;have LD:=aq hL;clear hX hL)
  refine bodyPost_ret (results_ode (by first | rfl | kernel_rfl) _ _ _ _ rfl rfl BX.out) rfl ?_;rw [EE.out,<-HN.out];exact⟨_,_,rfl,(OOwn.laid (B:=w.heap.size+2) OW.out LD.out (by omega)).lower (by omega),LD.out.below B0.out (by omega)⟩
theorem r15Same (o p:Od) (a b:Ads) (A B:HAds) (w:World) (h:OHeld w o a A) (h':OHeld w p b B) (hs:o.Short) (hps:p.Short) :
  Calls Tryz.prog 28 #[odv o a A,odv p b B] w fun e w'=>e=.returned (.bool (Om.sameB o p))/\Below w.heap.size w w':=by
 have HX:=aq (fun x=>(OBox.new w o a A 33).below ((Below.refl _ _).alloc (Nat.le_refl _) x));have HY:=aq (fun x=>OBox.new (w.alloc x) p b B 33);have BB:=aq (fun x y=>((Below.refl w.heap.size w).alloc (Nat.le_refl _) x).alloc (by simp) y);have CS:=aq (fun V (hb:Below w.heap.size w V)=>r4Same o.sl p.sl a b V (h.below hb).sl (h'.below hb).sl hs.sl hps.sl);have CH:=aq (fun V (hb:Below w.heap.size w V)=>r14Same o.tb p.tb A B V (h.below hb).tb (h'.below hb).tb hs.tb hps.tb);have EQ:∀ V:World,Sem.run Tryz.prog (Op.equalIn 10000 23 (.agg #[.int .u8 o.cf.tag,.int .i64 o.cf.most,.int .i64 o.cf.seg,.int .i64 o.cf.least,.int .i64 o.cf.den,.int .i64 o.cf.ll,.int .i64 o.cf.rl,.int .i64 o.cf.rh,.int .i64 o.cf.lh]) (.agg #[.int .u8 p.cf.tag,.int .i64 p.cf.most,.int .i64 p.cf.seg,.int .i64 p.cf.least,.int .i64 p.cf.den,.int .i64 p.cf.ll,.int .i64 p.cf.rl,.int .i64 p.cf.rh,.int .i64 p.cf.lh])) V=.ok (Om.cfB o.cf p.cf) V:=fun V=>eq_conf 9998 o.cf p.cf V
 have hgd:Tryz.prog.eqGuardType Tryz.prog.depth 23=false:=by kernel_rfl
 have ES:=aq (show Om.sameB o p=(Om.cfB o.cf p.cf&&((o.moved:Int)==(p.moved:Int))&&o.sl.sameB p.sl&&Hn.sameB o.tb p.tb) by
  unfold Om.sameB
  congr 3
  rw [Bool.eq_iff_iff]
  simp only [beq_iff_eq]
  omega)
 clear h h' hs hps;unfold slv at CS;unfold hv at CH;unfold odv
 go_enter Tryz.func28,Tryz.ntmps28
 go_upto_region 1 with (fail)
 obtain⟨W0,hW0⟩:∃ W0,W0=(w.alloc (.cells (odCells o a A) 33)).alloc (.cells (odCells p b B) 33):=⟨_,rfl⟩;have BX:=aq (show OBox W0 w.heap.size o a A by rw [hW0];exact HX.out _);have BY:=aq (show OBox W0 (w.heap.size+1) p b B by rw [hW0];have:=HY.out (.cells (odCells o a A) 33);rw [World.size_alloc] at this;exact this);have B0:=aq (show Below w.heap.size w W0 by rw [hW0];exact BB.out _ _);rw [<-hW0];clear hW0 HX HY BB;obtain⟨c0,c1,c2,c3,c4,c5,c6,c7,c8,c9,c10,c11,c12,c13,c14,c15,c16,c17⟩:=BX.out.cells;obtain⟨d0,d1,d2,d3,d4,d5,d6,d7,d8,d9,d10,d11,d12,d13,d14,d15,d16,d17⟩:=BY.out.cells
 cases hc:Om.cfB o.cf p.cf
 ·have E:=aq (show Om.sameB o p=false by rw [ES.out,hc];rfl)
  rw [hc] at EQ;go_wp2;go_ret;rw [E.out];exact⟨rfl,B0.out⟩
 ·cases hm:((o.moved:Int)==(p.moved:Int))
  ·have E:=aq (show Om.sameB o p=false by rw [ES.out,hc,hm];rfl)
   rw [hc] at EQ;go_wp2;go_ret;rw [E.out];exact⟨rfl,B0.out⟩
  ·rw [hc] at EQ
   rw [hc,hm] at ES
   go_wp2_with fail
   refine (CS.out W0 B0.out).mono ?_;rintro e w1 ⟨rfl,hb⟩;replace BX:=aq (BX.out.below hb);replace BY:=aq (BY.out.below hb);replace B0:=aq (B0.out.trans (hb.mono B0.out.size));clear hb CS EQ c0 d0 c1 d1 c2 d2 c3 d3 c4 d4 c5 d5 c6 d6 c7 d7 c8 d8 c9 d9 c10 d10 c11 d11 c12 d12 c13 d13 c14 d14 c15 d15 c16 d16 c17 d17
   cases hq:o.sl.sameB p.sl
   ·have E:=aq (show Om.sameB o p=false by rw [ES.out,hq];rfl)
    go_wp2;go_ret;rw [E.out];exact⟨rfl,B0.out⟩
   ·have E:=aq (show Om.sameB o p=Hn.sameB o.tb p.tb by rw [ES.out,hq];rfl)
    have c15:=BX.out.cells.c15;have c16:=BX.out.cells.c16;have d15:=BY.out.cells.c15;have d16:=BY.out.cells.c16
    go_wp2_with fail
    refine (CH.out w1 B0.out).mono ?_;rintro e w2 ⟨rfl,hb⟩;replace B0:=aq (B0.out.trans (hb.mono B0.out.size));clear hb CH c15 c16 d15 d16;go_wp2;go_ret;rw [E.out];exact⟨rfl,B0.out⟩
theorem r15Twin (o:Od) (a:Ads) (A:HAds) (w:World) (h:OHeld w o a A) (hs:o.Short) :
  Calls Tryz.prog 20 #[odv o a A] w (OPost o w):=by
 have HX:=aq (fun x=>(OBox.new w o a A 33).below ((Below.refl _ _).alloc (Nat.le_refl _) x));have HZ:=aq (fun x=>obox_zero (w.alloc x));have BB:=aq (fun x y=>((Below.refl w.heap.size w).alloc (Nat.le_refl _) x).alloc (by simp) y);have CS:=aq (fun V (hb:Below w.heap.size w V)=>r4Twin o.sl a V (h.below hb).sl hs.sl);have CH:=aq (fun V (hb:Below w.heap.size w V)=>r14Twin o.tb A V (h.below hb).tb hs.tb);clear h hs;unfold slv at CS;unfold hv at CH;unfold odv
 go_enter Tryz.func20,Tryz.ntmps20
 go_upto_region 1 with (fail)
 obtain⟨W0,hW0⟩:∃ W0,W0=(w.alloc (.cells (odCells o a A) 33)).alloc (.cells #[.int .u8 0,.int .i64 0,.int .i64 0,.int .i64 0,.int .i64 0,.int .i64 0,.int .i64 0,.int .i64 0,.int .i64 0,.int .i64 0,.slice none 0 0,.slice none 0 0,.slice none 0 0,.slice none 0 0,.int .u64 0,.slice none 0 0,.slice none 0 0,.int .u64 0] 33):=⟨_,rfl⟩;have BX:=aq (show OBox W0 w.heap.size o a A by rw [hW0];exact HX.out _);have BR:=aq (show OBox W0 (w.heap.size+1) Od.zero adsNone hNone by rw [hW0];have:=HZ.out (.cells (odCells o a A) 33);rw [World.size_alloc] at this;exact this);have B0:=aq (show Below w.heap.size w W0 by rw [hW0];exact BB.out _ _)
 have z0:w.heap.size+2<=W0.heap.size:=by rw [hW0];simp
 rw [<-hW0];clear hW0 HX HZ BB;refine wp_region_held_drew (S:=fun w'=>OBox w' w.heap.size o a A) (by kernel_rfl) (by exact BX.out.below ((Below.refl _ _).drew)) (fun hHeld=>?_);obtain⟨V0,hV⟩:∃ V,V=W0.drew:=⟨_,rfl⟩;replace BX:=aq (show OBox V0 w.heap.size o a A by rw [hV];exact BX.out.below ((Below.refl _ _).drew));replace BR:=aq (show OBox V0 (w.heap.size+1) Od.zero adsNone hNone by rw [hV];exact BR.out.below ((Below.refl _ _).drew));replace B0:=aq (show Below w.heap.size w V0 by rw [hV];exact B0.out.drew)
 have y0:w.heap.size+2<=V0.heap.size:=by rw [hV];exact z0
 rw [<-hV] at hHeld ⊢;clear hV;refine tk 0 ?_;refine wpAnyH_take (i:=1) (oi:=Oper.mk _ _ _ _ _ _) (v:=?vtw1) rfl (by kernel_rfl) (by kernel_rfl) (by kernel_rfl) (fun _ _ _ h=>h) (Or.inl ⟨by rfl,?hytw1⟩) (by assumption) ?resttw1
 case hytw1 =>
  intro w0 hSw;obtain⟨c0,c1,c2,c3,c4,c5,c6,c7,c8,c9,c10,c11,c12,c13,c14,c15,c16,c17⟩:=hSw.cells;clear hSw;go_simp
  all_goals with_reducible rfl
 try simp only [sZ]
 refine tk 2 ?_;refine wpAnyH_take (i:=3) (oi:=Oper.mk _ _ _ _ _ _) (v:=?vtw3) rfl (by kernel_rfl) (by kernel_rfl) (by kernel_rfl) (fun _ _ _ h=>h) (Or.inl ⟨by rfl,?hytw3⟩) (by assumption) ?resttw3
 case hytw3 =>
  intro w0 hSw;obtain⟨c0,c1,c2,c3,c4,c5,c6,c7,c8,c9,c10,c11,c12,c13,c14,c15,c16,c17⟩:=hSw.cells;clear hSw;go_simp
  all_goals with_reducible rfl
 try simp only [sZ]
 refine tk 5 ?_;refine wpAnyH_take (i:=6) (oi:=Oper.mk _ _ _ _ _ _) (v:=?vtw5) rfl (by kernel_rfl) (by kernel_rfl) (by kernel_rfl) (fun _ _ _ h=>h) (Or.inl ⟨by rfl,?hytw5⟩) (by assumption) ?resttw5
 case hytw5 =>
  intro w0 hSw;obtain⟨c0,c1,c2,c3,c4,c5,c6,c7,c8,c9,c10,c11,c12,c13,c14,c15,c16,c17⟩:=hSw.cells;clear hSw;go_simp
  all_goals with_reducible rfl
 try simp only [sZ]
 refine tk 8 ?_;refine wpAnyH_take (i:=9) (oi:=Oper.mk _ _ _ _ _ _) (v:=?vtw7) rfl (by kernel_rfl) (by kernel_rfl) (by kernel_rfl) (fun _ _ _ h=>h) (Or.inl ⟨by rfl,?hytw7⟩) (by assumption) ?resttw7
 case hytw7 =>
  intro w0 hSw;obtain⟨c0,c1,c2,c3,c4,c5,c6,c7,c8,c9,c10,c11,c12,c13,c14,c15,c16,c17⟩:=hSw.cells;clear hSw;go_simp
  all_goals with_reducible rfl
 try simp only [sZ]
 refine rdH 4 fun K hK=>?_;go_simp;refine (CS.out V0 B0.out).mono ?_;rintro e V1 ⟨a1,rfl,own,_,_,hb⟩
 try unfold slv
 try (go_simp)
 have y1:V0.heap.size<=V1.heap.size:=hb.size;have O1:=aq (own.lower y0);replace BX:=aq (BX.out.below hb);replace BR:=aq (BR.out.below hb);replace B0:=aq (B0.out.trans (hb.mono B0.out.size));clear own hb;refine hK.out _ _ (by exact BX.out) (fun hHeldtw8=>?_);clear hK K hHeld
 try simp only [sZ]
 refine rdH 7 fun K hK=>?_;go_simp;refine (CH.out V1 B0.out).mono ?_;rintro e V2 ⟨A1,rfl,own,hb⟩
 try unfold hv
 try (go_simp)
 have O2:=aq (own.lower (show w.heap.size+2<=V1.heap.size by omega));replace BX:=aq (BX.out.below hb);replace BR:=aq (BR.out.below hb);replace O1:=aq (O1.out.below hb);replace B0:=aq (B0.out.trans (hb.mono B0.out.size));clear own hb;refine hK.out _ _ (by exact BX.out) (fun hHeldtw9=>?_);clear hK K hHeldtw8
 try simp only [sZ]
 refine wpAnyH_take (i:=10) (oi:=Oper.mk _ _ _ _ _ _) (v:=?vtw10) rfl (by kernel_rfl) (by kernel_rfl) (by kernel_rfl) (fun _ _ _ h=>h) (Or.inl ⟨by rfl,?hytw10⟩) (by assumption) ?resttw10
 case hytw10 =>
  intro w0 hSw;clear hSw;go_simp
  all_goals rfl
 try simp only [sZ]
 refine rdH 11 fun K hK=>?_;refine step_store_od rfl _ _ rfl _ rfl o a1 A1 rfl BR.out ?_;intro V3 hX hL;have BY:=aq hX;have LD:=aq hL;replace BX:=aq (hL.obox BX.out (by omega));clear hX hL BR;refine hK.out _ _ (by exact BX.out) (fun hHeldtw11=>?_);clear hK K hHeldtw9
 try simp only [sZ]
 refine wpAnyH_done (by kernel_rfl) ?_ _;go_wp2;refine bodyPost_ret (results_od (by first | rfl | kernel_rfl) _ _ _ rfl BY.out) rfl ?_;exact⟨_,_,rfl,(OOwn.laid (B:=w.heap.size+2) ⟨O1.out,O2.out⟩ LD.out (by omega)).lower (by omega),LD.out.below B0.out (by omega)⟩
end Go.Proofs.YtpeckljoannolaaGreatDoor

/- The walk of the law SpanScans: the pairs from one key to another are the document's; what came in stays; what is answered is new memory. -/
import Derived.Test.YtfdpkmafemidjaaDoorSpanSp
import Derived.Test.YtfdpkmafemidjaaDoorRefC12Sp
import Derived.Test.YtfdpkmafemidjaaDoorM03Sp
import Derived.Test.YtfdpkmafemidjaaDoorM04Sp
import Derived.Test.YtfdpkmafemidjaaDoorM08Sp
import Derived.Test.YtfdpkmafemidjaaDoorSoft12Sp
import Derived.Test.YtfdpkmafemidjaaDoorTkSp
set_option linter.unusedVariables false
set_option linter.unusedSimpArgs false
set_option maxHeartbeats 8000000
set_option maxRecDepth 100000
namespace Go.Proofs.YtfdpkmafemidjaaDoor.spanScans
open Go.RowKit
theorem scan_short (s:Sl) (f t n:Int) (hs:s.Short):(Sn.scanV s f t n).length<=2147483647:=by
 unfold Sn.scanV
 split
 ·rw [List.length_take]
  have h1:(Sn.run s f t).length<=(Sk.all s).length:=by unfold Sn.run Sn.mid;rw [List.length_map];exact List.length_filter_le _ _
  have:=Sn.all_le s;have:=hs.keys
  omega
 ·exact Nat.zero_le _
theorem full (s:Sl) (a:Ads) (f t n:Int) (W:World) (h:Held W s a) (hok:s.Ok) (hs:s.Short) (hg:s.greatB 600=false) (hT:Tab W) :
  Calls Tryd.prog 5 #[slv s a,.int .i64 f,.int .i64 t,.int .i64 n] W fun e w'=>e=.returned (.bool true)/\Below W.heap.size W w':=by
 have HSh:=aq hs;have HGr:=aq hg;have c1:=aq (fun A V (hv:Held V s A) tv=>nScan s A f t n V hv hok hs tv);have r1:=aq (fun A V (hv:Held V s A)=>r12Scan s A f t n V hv hok hs);have PL:=aq (scan_short s f t n hs);obtain⟨ps,hps⟩:∃ v,v=Sn.scanV s f t n:=⟨_,rfl⟩;obtain⟨e1,he1⟩:∃ v,v=Sn.scanE s n:=⟨_,rfl⟩;unfold ScanPost at c1;rw [<-hps,<-he1] at c1 r1;rw [<-hps] at PL;clear hps he1;have HA:=aq h;have TB:=aq hT;have BS:=aq (Box.new W s a 27);have HB:=aq (fun o=>(Below.refl W.heap.size W).alloc (Nat.le_refl _) o);clear h hok hs hg hT;unfold slCells at BS;unfold slv at c1 r1;unfold slv
 go_enter Tryd.func5,Tryd.ntmps5
 go_wp2_with fail
 refine (r4Great s a 600 _).mono ?_;rintro e w0 ⟨rfl,hb⟩;rw [HGr.out];have BB:=aq ((HB.out _).trans (hb.mono (by simp)));replace BS:=aq (BS.out.below hb);replace HA:=aq (HA.out.below BB.out);replace TB:=aq (TB.out.below BB.out);clear hb HB;obtain⟨_,p0,p1,p2,p3,p4,p5,_⟩:=BS.out
 go_wp2_with fail
 refine (r4Twin s a _ HA.out HSh.out).mono ?_;rintro e w1 ⟨A1,rfl,own,_,_,hb⟩;have O1:=aq own.held;clear own;replace BS:=aq (BS.out.below hb);replace HA:=aq (HA.out.below hb);replace TB:=aq (TB.out.below hb);replace BB:=aq (BB.out.trans (hb.mono BB.out.size));clear hb p0 p1 p2 p3 p4 p5;unfold slv
 go_upto_region 4 with (fail)
 obtain⟨V0,hV⟩:∃ V,V=w1.alloc (.cells #[.int .i64 s.seg,.slice A1.w s.words.length A1.cw,.slice A1.k s.keys.length A1.ck,.slice A1.v s.vals.length A1.cv,.slice A1.c s.counts.length A1.cc,.int .u64 (s.laid:Int)] 27):=⟨_,rfl⟩
 have hba:Below w1.heap.size w1 V0:=by rw [hV];exact (Below.refl _ _).alloc (Nat.le_refl _) _
 have B1:=aq (show Box V0 w1.heap.size s A1 by rw [hV];exact Box.new w1 s A1 27);rw [<-hV];clear hV;replace BS:=aq (BS.out.below hba);replace HA:=aq (HA.out.below hba);replace TB:=aq (TB.out.below hba);replace O1:=aq (O1.out.below hba);replace BB:=aq (BB.out.trans (hba.mono BB.out.size));clear hba;obtain⟨_,p0,p1,p2,p3,p4,p5,_⟩:=B1.out
 go_wp2_with fail
 refine (c1.out A1 _ O1.out TB.out).mono ?_;rintro e w2 ⟨v,rfl,hown,hb⟩;obtain⟨AX,cx,rfl,lx,sx,fx⟩:=soft_keys hown;have LX:=aq lx;have SX:=aq sx;have FX:=aq fx;have D:=aq hb;clear hown lx sx fx hb p0 p1 p2 p3 p4 p5;obtain⟨_,p0,p1,p2,p3,p4,p5,_⟩:=BS.out.below D.out
 go_wp2_with fail
 refine (r1.out a _ (HA.out.below D.out)).mono ?_;rintro e w3 ⟨v,rfl,hown,hb⟩;obtain⟨AY,cy,rfl,ly,_,_⟩:=soft_keys hown;have LY:=aq ly;replace D:=aq (D.out.trans (hb.mono D.out.size));replace LX:=aq (LX.out.below hb);replace SX:=aq (SX.out.below hb);clear hown ly hb p0 p1 p2 p3 p4 p5
 go_wp2_with fail
 refine (r4SamePairs AX AY cx cy ps ps _ LX.out LY.out PL.out PL.out).mono ?_;rintro e w4 ⟨rfl,hb⟩;rw [show (ps==ps)=true from beq_self_eq_true ps];replace D:=aq (D.out.trans (hb.mono D.out.size));replace SX:=aq (SX.out.below hb);clear hb LX LY c1 r1;have hps:ps.length<=2147483647:=PL.out;obtain⟨n,hn⟩:∃ n,n=ps.length:=⟨_,rfl⟩;rw [<-hn] at SX FX hps;rw [<-hn];clear hn PL;go_wp2
 go_loopw [15] (KeysJ V0.heap.size AX n V0) (fun i _=>n-(intOf i).toNat)
 case atStart=>exact⟨0,Nat.zero_le _,rfl,D.out,SX.out⟩
 case round =>
  obtain⟨k,hk,rfl,hB,hS⟩:=hrel;have HB:=aq hB;have HS:=aq hS;clear hB hS D SX
  by_cases hlt:k < n
  ·obtain⟨bb,off,z,hA,hc,hf,hst⟩:=keysJ_step HB.out HS.out (FX.out.elim (fun h0=>absurd h0 (by omega)) (fun h p hp=>(h p hp).1)) hlt
   have HST:=aq hst;subst hA
   have i0:(0:Int)<=(k:Int):=by omega
   have i1:(k:Int) < (n:Int):=by omega
   clear hst;go_wp2
   go_roundw
   case rel=>exact⟨k+1,by omega,by go_num,(HST.out _).1,(HST.out _).2⟩
   case measure=>simp [intOf];omega
  ·obtain rfl:k=n:=by omega
   clear HS;have X1:=aq (B1.out.below HB.out);have X2:=aq (BS.out.below HB.out);obtain⟨_,p0,p1,p2,p3,p4,p5,_⟩:=X2.out;obtain⟨_,q0,q1,q2,q3,q4,q5,_⟩:=X1.out
   go_wp2_with fail
   refine (r4Same s s A1 a _ (O1.out.below HB.out) (HA.out.below HB.out) HSh.out HSh.out).mono ?_;rintro e z ⟨rfl,hb⟩;rw [same_self];have HZ:=aq (BB.out.trans ((HB.out.trans (hb.mono HB.out.size)).mono BB.out.size));clear hb;go_wp2;go_ret;exact⟨rfl,HZ.out⟩
theorem walk (s:Sl) (a:Ads) (f t n:Int) (W:World) (h:Held W s a) (hok:s.Ok) (hT:Tab W) :
  Calls Tryd.prog 5 #[slv s a,.int .i64 f,.int .i64 t,.int .i64 n] W fun e w'=>e=.returned (.bool true)/\Below W.heap.size W w':=by
 cases hg:s.greatB 600
 ·refine full s a f t n W h hok ?_ hg hT
  unfold Sl.greatB at hg
  simp only [Bool.or_eq_false_iff,decide_eq_false_iff_not] at hg
  exact⟨by omega,by omega,by omega,by omega⟩
 ·have HG:=aq hg
  have HB:=aq (fun o=>(Below.refl W.heap.size W).alloc (Nat.le_refl _) o);clear h hok hg hT;unfold slv
  go_enter Tryd.func5,Tryd.ntmps5
  go_wp2_with fail
  refine (r4Great s a 600 _).mono ?_;rintro e w0 ⟨rfl,hb⟩;rw [HG.out];go_wp2;go_ret;exact⟨rfl,(HB.out _).trans (hb.mono (by simp))⟩
end Go.Proofs.YtfdpkmafemidjaaDoor.spanScans

/- What the document's own answers of layer 12 (package shelfmarkref12) return: Min, Max, Select, RunOf, Scan. -/
import Derived.Test.YtfdpkmafemidjaaDoorRefB12Sp
import Derived.Test.YtfdpkmafemidjaaDoorM04Sp
import Derived.Test.YtfdpkmafemidjaaDoorTkSp
set_option linter.unusedVariables false
set_option linter.unusedSimpArgs false
set_option maxHeartbeats 2000000
set_option maxRecDepth 100000
namespace Go.Proofs.YtfdpkmafemidjaaDoor
open Go.RowKit
theorem r12Min (s:Sl) (a:Ads) (w:World) (h:Held w s a) (hok:s.Ok) (hs:s.Short) :
  Calls Tryd.prog 23 #[slv s a] w fun e w'=>e=.returned (.tuple #[pv (Sn.minV s),.int .i64 (Sn.endE s)])/\Below w.heap.size w w':=by
 have l2:=hs.keys;have HB:=aq (fun o o'=>((Below.refl w.heap.size w).alloc (Nat.le_refl _) o).alloc (by simp) o');have BX:=aq (fun o=>(Box.new w s a 27).below ((Below.refl _ _).alloc (Nat.le_refl _) o));have PX:=aq (PBox.new (w.alloc (.cells (slCells s a) 27)) (0,0) 32)
 by_cases hc:Sk.chkE s=0
 ·have EL:=aq (show Sn.askL s=Sn.pairs s by unfold Sn.askL;rw [if_pos hc])
  have LL:=askL_len s;have CA:=aq (fun W (hb:Below w.heap.size w W)=>r12asked s a W (h.below hb) hok hs);unfold AskPost at CA;rw [hc] at CA;clear h hok hs;obtain⟨hE,hV1,hV2⟩:=Sn.end_by hc;rw [<-EL.out] at hE hV1 hV2
  by_cases h0:(Sn.askL s).length=0
  ·rw [if_pos h0] at hE hV1
   rw [hE,hV1];rw [h0] at CA;clear hE hV1 hV2 hc h0;unfold slv at CA;unfold slv;unfold slCells at PX
   go_enter Tryd.func23,Tryd.ntmps23
   obtain⟨_,c0,c1,c2,c3,c4,c5,_⟩:=(BX.out (.cells #[.int .i64 0,.int .i64 0] 32))
   go_wp2_with fail
   refine (CA.out _ (HB.out _ _)).mono ?_;rintro e w1 ⟨v,rfl,hown,hb⟩;have B1:=aq ((HB.out _ _).trans (hb.mono (by simp;omega)));have px1:=aq (PX.out.below hb);have OW:=aq hown;obtain⟨A,c,rfl,hP,_⟩:=own_cells hown;have HP:=aq (show PLst w1 A (Sn.askL s) from hP);clear hb hown hP c0 c1 c2 c3 c4 c5
   have d0:w1.cell? ⟨w.heap.size+1,0,none⟩=some (.int .i64 0):=by have:=px1.out.c0;simpa using this
   have d1:w1.cell? ⟨w.heap.size+1,1,none⟩=some (.int .i64 0):=by have:=px1.out.c1;simpa using this
   have fd0:w1.frozen? ⟨w.heap.size+1,0,none⟩=false:=by have:=px1.out.f0;simpa using this
   have fd1:w1.frozen? ⟨w.heap.size+1,1,none⟩=false:=by have:=px1.out.f1;simpa using this
   go_wp2;refine bodyPost_ret (v:=.tuple #[.agg #[.int .i64 0,.int .i64 0],.int .i64 6]) (by simp [results,Tryd.results23,go_sem,d0,d1]) rfl ⟨rfl,?_⟩;exact (B1.out.setCell (by simp) _).setCell (by simp) _
  ·rw [if_neg h0] at hE hV1
   have HV:=aq hV1;rw [hE];obtain⟨m,hm⟩:∃ m:Nat,(Sn.askL s).length=m+1:=⟨(Sn.askL s).length-1,by omega⟩;rw [hm] at CA;have HM:=aq hm
   have k1:(((m+1:Nat):Int)==0)=false:=by simp;omega
   have k2:((m+1:Nat):Int)-1=(m:Int):=by omega
   have k3:m < m+1:=by omega
   have l3:m<=65536:=by omega
   clear hE hV1 hV2 hc h0 hm LL l2;unfold slv at CA;unfold slv;unfold slCells at PX
   go_enter Tryd.func23,Tryd.ntmps23
   obtain⟨_,c0,c1,c2,c3,c4,c5,_⟩:=(BX.out (.cells #[.int .i64 0,.int .i64 0] 32))
   go_wp2_with fail
   refine (CA.out _ (HB.out _ _)).mono ?_;rintro e w1 ⟨v,rfl,hown,hb⟩;have B1:=aq ((HB.out _ _).trans (hb.mono (by simp;omega)));have px1:=aq (PX.out.below hb);have OW:=aq hown;obtain⟨A,c,rfl,hP,_⟩:=own_cells hown;have HP:=aq (show PLst w1 A (Sn.askL s) from hP);clear hb hown hP c0 c1 c2 c3 c4 c5
   have hlt:0 < (Sn.askL s).length:=by rw [HM.out];omega
   obtain⟨b1,o1,rfl,_,c1,c2⟩:=HP.out.pair (i:=0) hlt;obtain⟨⟨x1,x2⟩,hx⟩:∃ x,(Sn.askL s).getD 0 (0,0)=x:=⟨_,rfl⟩;rw [hx] at c1 c2;have HX:=aq hx;clear hx
   dsimp only at c1 c2
   try simp only [Nat.zero_mul,Nat.add_zero,Nat.zero_add] at c1 c2
   clear hlt;have RV:=aq (show Sn.minV s=(x1,x2) by rw [HV.out,HX.out])
   have d0:w1.cell? ⟨w.heap.size+1,0,none⟩=some (.int .i64 0):=by have:=px1.out.c0;simpa using this
   have d1:w1.cell? ⟨w.heap.size+1,1,none⟩=some (.int .i64 0):=by have:=px1.out.c1;simpa using this
   have fd0:w1.frozen? ⟨w.heap.size+1,0,none⟩=false:=by have:=px1.out.f0;simpa using this
   have fd1:w1.frozen? ⟨w.heap.size+1,1,none⟩=false:=by have:=px1.out.f1;simpa using this
   go_wp2;refine bodyPost_ret (v:=.tuple #[.agg #[.int .i64 x1,.int .i64 x2],.int .i64 0]) (by simp [results,Tryd.results23,go_sem,d0,d1]) rfl ⟨by rw [RV.out];rfl,?_⟩;exact (B1.out.setCell (by simp) _).setCell (by simp) _
 ·have hE:Sn.endE s=Sk.chkE s:=by unfold Sn.endE;rw [if_neg hc]
  have hV:Sn.minV s=(0,0):=by unfold Sn.minV;rw [if_neg (by rw [hE];exact hc)]
  rw [hE,hV]
  have k1:(Sk.chkE s != 0)=true:=by simp [hc]
  have CA:=aq (fun W (hb:Below w.heap.size w W)=>r12asked s a W (h.below hb) hok hs);clear h hok hs hc hE hV;unfold AskPost at CA;obtain⟨E,hE2⟩:∃ E,E=Sk.chkE s:=⟨_,rfl⟩;rw [<-hE2] at k1 CA ⊢;clear hE2;unfold slv at CA;unfold slv;unfold slCells at PX
  go_enter Tryd.func23,Tryd.ntmps23
  obtain⟨_,c0,c1,c2,c3,c4,c5,_⟩:=(BX.out (.cells #[.int .i64 0,.int .i64 0] 32))
  go_wp2_with fail
  refine (CA.out _ (HB.out _ _)).mono ?_;rintro e w1 ⟨v,rfl,hown,hb⟩;have B1:=aq ((HB.out _ _).trans (hb.mono (by simp;omega)));have px1:=aq (PX.out.below hb);have OW:=aq hown;obtain⟨A,c,rfl,hP,_⟩:=own_cells hown;have HP:=aq (show PLst w1 A (Sn.askL s) from hP);clear hb hown hP c0 c1 c2 c3 c4 c5
  have d0:w1.cell? ⟨w.heap.size+1,0,none⟩=some (.int .i64 0):=by have:=px1.out.c0;simpa using this
  have d1:w1.cell? ⟨w.heap.size+1,1,none⟩=some (.int .i64 0):=by have:=px1.out.c1;simpa using this
  have fd0:w1.frozen? ⟨w.heap.size+1,0,none⟩=false:=by have:=px1.out.f0;simpa using this
  have fd1:w1.frozen? ⟨w.heap.size+1,1,none⟩=false:=by have:=px1.out.f1;simpa using this
  go_wp2;refine bodyPost_ret (v:=.tuple #[.agg #[.int .i64 0,.int .i64 0],.int .i64 E]) (by simp [results,Tryd.results23,go_sem,d0,d1]) rfl ⟨rfl,?_⟩;exact (B1.out.setCell (by simp) _).setCell (by simp) _
theorem r12Max (s:Sl) (a:Ads) (w:World) (h:Held w s a) (hok:s.Ok) (hs:s.Short) :
  Calls Tryd.prog 24 #[slv s a] w fun e w'=>e=.returned (.tuple #[pv (Sn.maxV s),.int .i64 (Sn.endE s)])/\Below w.heap.size w w':=by
 have l2:=hs.keys;have HB:=aq (fun o o'=>((Below.refl w.heap.size w).alloc (Nat.le_refl _) o).alloc (by simp) o');have BX:=aq (fun o=>(Box.new w s a 27).below ((Below.refl _ _).alloc (Nat.le_refl _) o));have PX:=aq (PBox.new (w.alloc (.cells (slCells s a) 27)) (0,0) 32)
 by_cases hc:Sk.chkE s=0
 ·have EL:=aq (show Sn.askL s=Sn.pairs s by unfold Sn.askL;rw [if_pos hc])
  have LL:=askL_len s;have CA:=aq (fun W (hb:Below w.heap.size w W)=>r12asked s a W (h.below hb) hok hs);unfold AskPost at CA;rw [hc] at CA;clear h hok hs;obtain⟨hE,hV1,hV2⟩:=Sn.end_by hc;rw [<-EL.out] at hE hV1 hV2
  by_cases h0:(Sn.askL s).length=0
  ·rw [if_pos h0] at hE hV2
   rw [hE,hV2];rw [h0] at CA;clear hE hV1 hV2 hc h0;unfold slv at CA;unfold slv;unfold slCells at PX
   go_enter Tryd.func24,Tryd.ntmps24
   obtain⟨_,c0,c1,c2,c3,c4,c5,_⟩:=(BX.out (.cells #[.int .i64 0,.int .i64 0] 32))
   go_wp2_with fail
   refine (CA.out _ (HB.out _ _)).mono ?_;rintro e w1 ⟨v,rfl,hown,hb⟩;have B1:=aq ((HB.out _ _).trans (hb.mono (by simp;omega)));have px1:=aq (PX.out.below hb);have OW:=aq hown;obtain⟨A,c,rfl,hP,_⟩:=own_cells hown;have HP:=aq (show PLst w1 A (Sn.askL s) from hP);clear hb hown hP c0 c1 c2 c3 c4 c5
   have d0:w1.cell? ⟨w.heap.size+1,0,none⟩=some (.int .i64 0):=by have:=px1.out.c0;simpa using this
   have d1:w1.cell? ⟨w.heap.size+1,1,none⟩=some (.int .i64 0):=by have:=px1.out.c1;simpa using this
   have fd0:w1.frozen? ⟨w.heap.size+1,0,none⟩=false:=by have:=px1.out.f0;simpa using this
   have fd1:w1.frozen? ⟨w.heap.size+1,1,none⟩=false:=by have:=px1.out.f1;simpa using this
   go_wp2;refine bodyPost_ret (v:=.tuple #[.agg #[.int .i64 0,.int .i64 0],.int .i64 6]) (by simp [results,Tryd.results24,go_sem,d0,d1]) rfl ⟨rfl,?_⟩;exact (B1.out.setCell (by simp) _).setCell (by simp) _
  ·rw [if_neg h0] at hE hV2
   have HV:=aq hV2;rw [hE];obtain⟨m,hm⟩:∃ m:Nat,(Sn.askL s).length=m+1:=⟨(Sn.askL s).length-1,by omega⟩;rw [hm] at CA;have HM:=aq hm
   have k1:(((m+1:Nat):Int)==0)=false:=by simp;omega
   have k2:((m+1:Nat):Int)-1=(m:Int):=by omega
   have k3:m < m+1:=by omega
   have l3:m<=65536:=by omega
   clear hE hV1 hV2 hc h0 hm LL l2;unfold slv at CA;unfold slv;unfold slCells at PX
   go_enter Tryd.func24,Tryd.ntmps24
   obtain⟨_,c0,c1,c2,c3,c4,c5,_⟩:=(BX.out (.cells #[.int .i64 0,.int .i64 0] 32))
   go_wp2_with fail
   refine (CA.out _ (HB.out _ _)).mono ?_;rintro e w1 ⟨v,rfl,hown,hb⟩;have B1:=aq ((HB.out _ _).trans (hb.mono (by simp;omega)));have px1:=aq (PX.out.below hb);have OW:=aq hown;obtain⟨A,c,rfl,hP,_⟩:=own_cells hown;have HP:=aq (show PLst w1 A (Sn.askL s) from hP);clear hb hown hP c0 c1 c2 c3 c4 c5
   have hlt:m < (Sn.askL s).length:=by rw [HM.out];omega
   obtain⟨b1,o1,rfl,_,c1,c2⟩:=HP.out.pair (i:=m) hlt;obtain⟨⟨x1,x2⟩,hx⟩:∃ x,(Sn.askL s).getD m (0,0)=x:=⟨_,rfl⟩;rw [hx] at c1 c2;have HX:=aq hx;clear hx
   dsimp only at c1 c2
   try simp only [Nat.zero_mul,Nat.add_zero,Nat.zero_add] at c1 c2
   clear hlt;have RV:=aq (show Sn.maxV s=(x1,x2) by rw [HV.out,HM.out,Nat.add_sub_cancel,HX.out])
   have d0:w1.cell? ⟨w.heap.size+1,0,none⟩=some (.int .i64 0):=by have:=px1.out.c0;simpa using this
   have d1:w1.cell? ⟨w.heap.size+1,1,none⟩=some (.int .i64 0):=by have:=px1.out.c1;simpa using this
   have fd0:w1.frozen? ⟨w.heap.size+1,0,none⟩=false:=by have:=px1.out.f0;simpa using this
   have fd1:w1.frozen? ⟨w.heap.size+1,1,none⟩=false:=by have:=px1.out.f1;simpa using this
   go_wp2;refine bodyPost_ret (v:=.tuple #[.agg #[.int .i64 x1,.int .i64 x2],.int .i64 0]) (by simp [results,Tryd.results24,go_sem,d0,d1]) rfl ⟨by rw [RV.out];rfl,?_⟩;exact (B1.out.setCell (by simp) _).setCell (by simp) _
 ·have hE:Sn.endE s=Sk.chkE s:=by unfold Sn.endE;rw [if_neg hc]
  have hV:Sn.maxV s=(0,0):=by unfold Sn.maxV;rw [if_neg (by rw [hE];exact hc)]
  rw [hE,hV]
  have k1:(Sk.chkE s != 0)=true:=by simp [hc]
  have CA:=aq (fun W (hb:Below w.heap.size w W)=>r12asked s a W (h.below hb) hok hs);clear h hok hs hc hE hV;unfold AskPost at CA;obtain⟨E,hE2⟩:∃ E,E=Sk.chkE s:=⟨_,rfl⟩;rw [<-hE2] at k1 CA ⊢;clear hE2;unfold slv at CA;unfold slv;unfold slCells at PX
  go_enter Tryd.func24,Tryd.ntmps24
  obtain⟨_,c0,c1,c2,c3,c4,c5,_⟩:=(BX.out (.cells #[.int .i64 0,.int .i64 0] 32))
  go_wp2_with fail
  refine (CA.out _ (HB.out _ _)).mono ?_;rintro e w1 ⟨v,rfl,hown,hb⟩;have B1:=aq ((HB.out _ _).trans (hb.mono (by simp;omega)));have px1:=aq (PX.out.below hb);have OW:=aq hown;obtain⟨A,c,rfl,hP,_⟩:=own_cells hown;have HP:=aq (show PLst w1 A (Sn.askL s) from hP);clear hb hown hP c0 c1 c2 c3 c4 c5
  have d0:w1.cell? ⟨w.heap.size+1,0,none⟩=some (.int .i64 0):=by have:=px1.out.c0;simpa using this
  have d1:w1.cell? ⟨w.heap.size+1,1,none⟩=some (.int .i64 0):=by have:=px1.out.c1;simpa using this
  have fd0:w1.frozen? ⟨w.heap.size+1,0,none⟩=false:=by have:=px1.out.f0;simpa using this
  have fd1:w1.frozen? ⟨w.heap.size+1,1,none⟩=false:=by have:=px1.out.f1;simpa using this
  go_wp2;refine bodyPost_ret (v:=.tuple #[.agg #[.int .i64 0,.int .i64 0],.int .i64 E]) (by simp [results,Tryd.results24,go_sem,d0,d1]) rfl ⟨rfl,?_⟩;exact (B1.out.setCell (by simp) _).setCell (by simp) _
theorem r12Select (s:Sl) (a:Ads) (k:Int) (w:World) (h:Held w s a) (hok:s.Ok) (hs:s.Short) :
  Calls Tryd.prog 25 #[slv s a,.int .i64 k] w fun e w'=>e=.returned (.tuple #[pv (Sn.selV s k),.int .i64 (Sn.selE s k)])/\Below w.heap.size w w':=by
 have l2:=hs.keys;have HB:=aq (fun o o'=>((Below.refl w.heap.size w).alloc (Nat.le_refl _) o).alloc (by simp) o');have BX:=aq (fun o=>(Box.new w s a 27).below ((Below.refl _ _).alloc (Nat.le_refl _) o));have PX:=aq (PBox.new (w.alloc (.cells (slCells s a) 27)) (0,0) 32)
 by_cases hc:Sk.chkE s=0
 ·have EL:=aq (show Sn.askL s=Sn.pairs s by unfold Sn.askL;rw [if_pos hc])
  have LL:=askL_len s;have CA:=aq (fun W (hb:Below w.heap.size w W)=>r12asked s a W (h.below hb) hok hs);unfold AskPost at CA;rw [hc] at CA;clear h hok hs
  rcases Sn.sel_by hc k with⟨h1,hE,hV⟩ | ⟨h1,h2,hE,hV⟩ | ⟨n,rfl,h1,hE,hV⟩
  ·rw [hE,hV]
   have k1:decide (k < 0)=true:=by simpa using h1
   clear hE hV hc h1;unfold slv at CA;unfold slv;unfold slCells at PX
   go_enter Tryd.func25,Tryd.ntmps25
   obtain⟨_,c0,c1,c2,c3,c4,c5,_⟩:=(BX.out (.cells #[.int .i64 0,.int .i64 0] 32))
   go_wp2_with fail
   refine (CA.out _ (HB.out _ _)).mono ?_;rintro e w1 ⟨v,rfl,hown,hb⟩;have B1:=aq ((HB.out _ _).trans (hb.mono (by simp;omega)));have px1:=aq (PX.out.below hb);have OW:=aq hown;obtain⟨A,c,rfl,hP,_⟩:=own_cells hown;have HP:=aq (show PLst w1 A (Sn.askL s) from hP);clear hb hown hP c0 c1 c2 c3 c4 c5
   have d0:w1.cell? ⟨w.heap.size+1,0,none⟩=some (.int .i64 0):=by have:=px1.out.c0;simpa using this
   have d1:w1.cell? ⟨w.heap.size+1,1,none⟩=some (.int .i64 0):=by have:=px1.out.c1;simpa using this
   have fd0:w1.frozen? ⟨w.heap.size+1,0,none⟩=false:=by have:=px1.out.f0;simpa using this
   have fd1:w1.frozen? ⟨w.heap.size+1,1,none⟩=false:=by have:=px1.out.f1;simpa using this
   go_wp2;refine bodyPost_ret (v:=.tuple #[.agg #[.int .i64 0,.int .i64 0],.int .i64 290]) (by simp [results,Tryd.results25,go_sem,d0,d1]) rfl ⟨rfl,?_⟩;exact (B1.out.setCell (by simp) _).setCell (by simp) _
  ·rw [hE,hV]
   have k1:decide (k < 0)=false:=by simpa using h1
   have k2:decide (k ≥ ((Sn.askL s).length:Int))=true:=by rw [EL.out];simpa using h2
   clear hE hV hc h1 h2;unfold slv at CA;unfold slv;unfold slCells at PX
   go_enter Tryd.func25,Tryd.ntmps25
   obtain⟨_,c0,c1,c2,c3,c4,c5,_⟩:=(BX.out (.cells #[.int .i64 0,.int .i64 0] 32))
   go_wp2_with fail
   refine (CA.out _ (HB.out _ _)).mono ?_;rintro e w1 ⟨v,rfl,hown,hb⟩;have B1:=aq ((HB.out _ _).trans (hb.mono (by simp;omega)));have px1:=aq (PX.out.below hb);have OW:=aq hown;obtain⟨A,c,rfl,hP,_⟩:=own_cells hown;have HP:=aq (show PLst w1 A (Sn.askL s) from hP);clear hb hown hP c0 c1 c2 c3 c4 c5
   have d0:w1.cell? ⟨w.heap.size+1,0,none⟩=some (.int .i64 0):=by have:=px1.out.c0;simpa using this
   have d1:w1.cell? ⟨w.heap.size+1,1,none⟩=some (.int .i64 0):=by have:=px1.out.c1;simpa using this
   have fd0:w1.frozen? ⟨w.heap.size+1,0,none⟩=false:=by have:=px1.out.f0;simpa using this
   have fd1:w1.frozen? ⟨w.heap.size+1,1,none⟩=false:=by have:=px1.out.f1;simpa using this
   go_wp2;refine bodyPost_ret (v:=.tuple #[.agg #[.int .i64 0,.int .i64 0],.int .i64 290]) (by simp [results,Tryd.results25,go_sem,d0,d1]) rfl ⟨rfl,?_⟩;exact (B1.out.setCell (by simp) _).setCell (by simp) _
  ·rw [hE]
   rw [<-EL.out] at h1 hV;have HV:=aq hV
   have k1:decide ((n:Int) < 0)=false:=by simp
   have k2:decide ((n:Int) ≥ ((Sn.askL s).length:Int))=false:=by simp;omega
   clear hE hV hc;unfold slv at CA;unfold slv;unfold slCells at PX
   go_enter Tryd.func25,Tryd.ntmps25
   obtain⟨_,c0,c1,c2,c3,c4,c5,_⟩:=(BX.out (.cells #[.int .i64 0,.int .i64 0] 32))
   go_wp2_with fail
   refine (CA.out _ (HB.out _ _)).mono ?_;rintro e w1 ⟨v,rfl,hown,hb⟩;have B1:=aq ((HB.out _ _).trans (hb.mono (by simp;omega)));have px1:=aq (PX.out.below hb);have OW:=aq hown;obtain⟨A,c,rfl,hP,_⟩:=own_cells hown;have HP:=aq (show PLst w1 A (Sn.askL s) from hP);clear hb hown hP c0 c1 c2 c3 c4 c5;obtain⟨b1,o1,rfl,_,c1,c2⟩:=HP.out.pair (i:=n) h1;obtain⟨⟨x1,x2⟩,hx⟩:∃ x,(Sn.askL s).getD n (0,0)=x:=⟨_,rfl⟩;rw [hx] at c1 c2;have HX:=aq hx;clear hx
   dsimp only at c1 c2
   try simp only [Nat.zero_mul,Nat.add_zero,Nat.zero_add] at c1 c2
   have RV:=aq (show Sn.selV s n=(x1,x2) by rw [HV.out,HX.out])
   have d0:w1.cell? ⟨w.heap.size+1,0,none⟩=some (.int .i64 0):=by have:=px1.out.c0;simpa using this
   have d1:w1.cell? ⟨w.heap.size+1,1,none⟩=some (.int .i64 0):=by have:=px1.out.c1;simpa using this
   have fd0:w1.frozen? ⟨w.heap.size+1,0,none⟩=false:=by have:=px1.out.f0;simpa using this
   have fd1:w1.frozen? ⟨w.heap.size+1,1,none⟩=false:=by have:=px1.out.f1;simpa using this
   go_wp2;refine bodyPost_ret (v:=.tuple #[.agg #[.int .i64 x1,.int .i64 x2],.int .i64 0]) (by simp [results,Tryd.results25,go_sem,d0,d1]) rfl ⟨by rw [RV.out];rfl,?_⟩;exact (B1.out.setCell (by simp) _).setCell (by simp) _
 ·have hE:Sn.selE s k=Sk.chkE s:=by unfold Sn.selE;rw [if_neg hc]
  have hV:Sn.selV s k=(0,0):=by unfold Sn.selV;rw [if_neg (by rw [hE];exact hc)]
  rw [hE,hV]
  have k1:(Sk.chkE s != 0)=true:=by simp [hc]
  have CA:=aq (fun W (hb:Below w.heap.size w W)=>r12asked s a W (h.below hb) hok hs);clear h hok hs hc hE hV;unfold AskPost at CA;obtain⟨E,hE2⟩:∃ E,E=Sk.chkE s:=⟨_,rfl⟩;rw [<-hE2] at k1 CA ⊢;clear hE2;unfold slv at CA;unfold slv;unfold slCells at PX
  go_enter Tryd.func25,Tryd.ntmps25
  obtain⟨_,c0,c1,c2,c3,c4,c5,_⟩:=(BX.out (.cells #[.int .i64 0,.int .i64 0] 32))
  go_wp2_with fail
  refine (CA.out _ (HB.out _ _)).mono ?_;rintro e w1 ⟨v,rfl,hown,hb⟩;have B1:=aq ((HB.out _ _).trans (hb.mono (by simp;omega)));have px1:=aq (PX.out.below hb);have OW:=aq hown;obtain⟨A,c,rfl,hP,_⟩:=own_cells hown;have HP:=aq (show PLst w1 A (Sn.askL s) from hP);clear hb hown hP c0 c1 c2 c3 c4 c5
  have d0:w1.cell? ⟨w.heap.size+1,0,none⟩=some (.int .i64 0):=by have:=px1.out.c0;simpa using this
  have d1:w1.cell? ⟨w.heap.size+1,1,none⟩=some (.int .i64 0):=by have:=px1.out.c1;simpa using this
  have fd0:w1.frozen? ⟨w.heap.size+1,0,none⟩=false:=by have:=px1.out.f0;simpa using this
  have fd1:w1.frozen? ⟨w.heap.size+1,1,none⟩=false:=by have:=px1.out.f1;simpa using this
  go_wp2;refine bodyPost_ret (v:=.tuple #[.agg #[.int .i64 0,.int .i64 0],.int .i64 E]) (by simp [results,Tryd.results25,go_sem,d0,d1]) rfl ⟨rfl,?_⟩;exact (B1.out.setCell (by simp) _).setCell (by simp) _
def RunJ (ps:List (Int×Int)) (a b:Int) (n:Nat) (w:World) (v i:Value) (wr:World):Prop :=
 ∃ m:Nat,m<=ps.length/\i=.int .i64 m/\wr.ownsRow w.heap.size 32 2 v ((Sn.runP (ps.take m) a b).take n).length (pcells ((Sn.runP (ps.take m) a b).take n))/\Below w.heap.size w wr
theorem r12RunOf (A:Option Addr) (c:Nat) (ps:List (Int×Int)) (a b:Int) (n:Nat) (w:World) (hP:PLst w A ps) (hn:ps.length<=65536) (h1:n<=1000) :
  Calls Tryd.prog 47 #[.slice A ps.length c,.int .i64 a,.int .i64 b,.int .i64 (n:Int)] w (POwn ((Sn.runP ps a b).take n) w):=by
 have HP:=aq hP;clear hP
 go_enter Tryd.func47,Tryd.ntmps47
 go_wp2
 go_loopw [9,10] (RunJ ps a b n w) (fun _ i _=>ps.length-(intOf i).toNat)
 case atStart=>exact⟨0,Nat.zero_le _,rfl,by rw [List.take_zero,show (Sn.runP ([]:List (Int×Int)) a b).take n=[] from by simp [Sn.runP]];exact World.ownsRow_nil _ _ _ _,Below.refl _ _⟩
 case round =>
  obtain⟨m,hm,rfl,hown,hbr⟩:=hrel;have HO:=aq hown;have HB:=aq hbr;obtain⟨O,hO⟩:∃ O,O=(Sn.runP (ps.take m) a b).take n:=⟨_,rfl⟩;have OL:=aq hO
  have hol:O.length<=1000:=by rw [hO,List.length_take];omega
  rw [<-hO] at HO hown;obtain⟨A2,c2',rfl,_⟩:=own_cells hown;clear hown hbr hO
  by_cases hlt:m < ps.length
  ·have ST:=aq (Sn.run_step (a:=a) (b:=b) (n:=n) hlt)
   obtain⟨b1,o1,rfl,_,c1,c2⟩:=(show PLst wr A ps from HP.out.below HB.out).pair hlt;obtain⟨⟨x1,x2⟩,hx⟩:∃ x,ps.getD m (0,0)=x:=⟨_,rfl⟩;rw [hx] at c1 c2;rw [hx,<-OL.out] at ST;clear hx
   dsimp only at c1 c2
   have z1:=HB.out.size
   by_cases ha:a<=x1
   ·have k1:decide (x1 ≥ a)=true:=by simpa using ha
    by_cases hb:x1<=b
    ·have k2:decide (x1<=b)=true:=by simpa using hb
     by_cases hl:O.length < n
     ·have k3:decide ((O.length:Int) < (n:Int))=true:=by simp;omega
      have k4:decide (O.length < n)=true:=by simpa using hl
      have E:=aq (ST.out.2.1 ⟨ha,hb⟩ hl);clear ha hb hl
      go_wp2_with (at_builtin;refine wpList_moreN elemP rfl (.tmp 39) (.tmp 44) rfl wr 32 [.int .i64 x1,.int .i64 x2] rfl rfl w.heap.size O.length _ _ rfl rfl HO.out (by intro u hu;simp at hu;rcases hu with rfl | rfl<;>rfl) z1 (by unfold maxLen;omega) (by omega) ?_;intro v6 w6 hown6 hb6;have HO6:=aq hown6;have HB6:=aq hb6;clear hown6 hb6)
      go_roundw
      case rel=>exact⟨m+1,by omega,by go_num,by
       rw [E.out,List.length_append,List.length_singleton,pcells_append]
       exact HO6.out,HB.out.trans HB6.out⟩
      case measure=>first | (simp [intOf];done) | (simp [intOf];omega)
     ·have k3:decide ((O.length:Int) < (n:Int))=false:=by simp;omega
      have k4:decide (O.length < n)=false:=by simpa using hl
      have E:=aq (ST.out.2.2 hl);clear ha hb hl;go_wp2
      go_roundw
      case rel=>exact⟨m+1,by omega,by go_num,by rw [E.out];exact HO.out,HB.out⟩
      case measure=>first | (simp [intOf];done) | (simp [intOf];omega)
    ·have k2:decide (x1<=b)=false:=by simpa using hb
     have E:=aq (ST.out.1 (fun h=>hb h.2));clear ha hb;go_wp2
     go_roundw
     case rel=>exact⟨m+1,by omega,by go_num,by rw [E.out];exact HO.out,HB.out⟩
     case measure=>first | (simp [intOf];done) | (simp [intOf];omega)
   ·have k1:decide (x1 ≥ a)=false:=by simpa using ha
    have E:=aq (ST.out.1 (fun h=>ha h.1));clear ha;go_wp2
    go_roundw
    case rel=>exact⟨m+1,by omega,by go_num,by rw [E.out];exact HO.out,HB.out⟩
    case measure=>first | (simp [intOf];done) | (simp [intOf];omega)
  ·go_wp2
   go_ret
   have e:O=(Sn.runP ps a b).take n:=by rw [OL.out,List.take_of_length_le (l:=ps) (by omega)]
   rw [<-e];exact⟨_,rfl,HO.out,HB.out⟩
theorem r12Scan (s:Sl) (a:Ads) (f t n:Int) (w:World) (h:Held w s a) (hok:s.Ok) (hs:s.Short) :
  Calls Tryd.prog 27 #[slv s a,.int .i64 f,.int .i64 t,.int .i64 n] w (fun e w'=>∃ v,e=.returned (.tuple #[v,.int .i64 (Sn.scanE s n)])/\w'.ownsRow w.heap.size 32 2 v (Sn.scanV s f t n).length (pcells (Sn.scanV s f t n))/\Below w.heap.size w w'):=by
 have l2:=hs.keys;have HB:=aq (fun o=>(Below.refl w.heap.size w).alloc (Nat.le_refl _) o);have BX:=aq (Box.new w s a 27);have CA:=aq (fun W (hb:Below w.heap.size w W)=>r12asked s a W (h.below hb) hok hs);unfold AskPost at CA
 by_cases hc:Sk.chkE s=0
 ·have EL:=aq (show Sn.askL s=Sn.pairs s by unfold Sn.askL;rw [if_pos hc])
  have LL:=askL_len s;rw [hc] at CA;clear h hok hs;have CF:=aq (fun W=>r12Fits n W)
  by_cases hn:0<=n/\n<=1000
  ·have hE:Sn.scanE s n=0:=by unfold Sn.scanE;rw [if_pos hc,if_pos hn]
   have EV:=aq (show Sn.scanV s f t n=(Sn.runP (Sn.askL s) f t).take n.toNat by unfold Sn.scanV;rw [if_pos hE,EL.out,Sn.run_is]);obtain⟨m,rfl⟩:∃ m:Nat,n=m:=⟨n.toNat,by omega⟩;have CR:=aq (fun A c W (hp:PLst W A (Sn.askL s))=>r12RunOf A c (Sn.askL s) f t m W hp (by omega) (by omega));rw [show decide (0<=(m:Int)/\(m:Int)<=1000)=true from by simpa using hn] at CF;rw [hE];clear hn hE hc;unfold slv at CA;unfold slv
   go_enter Tryd.func27,Tryd.ntmps27
   obtain⟨_,c0,c1,c2,c3,c4,c5,_⟩:=BX.out
   go_wp2_with fail
   refine (CA.out _ (HB.out _)).mono ?_;rintro e w1 ⟨v,rfl,hown,hb⟩;have B1:=aq ((HB.out _).trans (hb.mono (by simp)));have OW:=aq hown;obtain⟨A,c,rfl,hP,_⟩:=own_cells hown;have HP:=aq (show PLst w1 A (Sn.askL s) from hP);clear hb hown hP c0 c1 c2 c3 c4 c5
   go_wp2_with fail
   refine (CF.out _).mono ?_;rintro e _ ⟨rfl,rfl⟩
   go_wp2_with fail
   refine (CR.out A c _ HP.out).mono ?_;rintro e w2 ⟨v2,rfl,hown2,hb2⟩;have HO2:=aq hown2;have HB2:=aq hb2;clear hown2 hb2;go_wp2;go_ret2;refine⟨v2,rfl,?_,B1.out.trans (HB2.out.mono B1.out.size)⟩;rw [EV.out,Int.toNat_natCast];exact own_lower HO2.out B1.out.size
  ·have hE:Sn.scanE s n=2:=by unfold Sn.scanE;rw [if_pos hc,if_neg hn]
   have EV:=aq (show Sn.scanV s f t n=[] by unfold Sn.scanV;rw [if_neg (by rw [hE];decide)]);rw [show decide (0<=n/\n<=1000)=false from by simpa using hn] at CF;rw [hE];clear hn hE hc;unfold slv at CA;unfold slv
   go_enter Tryd.func27,Tryd.ntmps27
   obtain⟨_,c0,c1,c2,c3,c4,c5,_⟩:=BX.out
   go_wp2_with fail
   refine (CA.out _ (HB.out _)).mono ?_;rintro e w1 ⟨v,rfl,hown,hb⟩;have B1:=aq ((HB.out _).trans (hb.mono (by simp)));have OW:=aq hown;obtain⟨A,c,rfl,hP,_⟩:=own_cells hown;have HP:=aq (show PLst w1 A (Sn.askL s) from hP);clear hb hown hP c0 c1 c2 c3 c4 c5
   go_wp2_with fail
   refine (CF.out _).mono ?_;rintro e _ ⟨rfl,rfl⟩;go_wp2;go_ret2;refine⟨_,rfl,?_,B1.out⟩;rw [EV.out];exact World.ownsRow_nil _ _ _ _
 ·have hE:Sn.scanE s n=Sk.chkE s:=by unfold Sn.scanE;rw [if_neg hc]
  have EV:=aq (show Sn.scanV s f t n=[] by unfold Sn.scanV;rw [if_neg (by rw [hE];exact hc)]);rw [hE];obtain⟨E,hE2⟩:∃ E,E=Sk.chkE s:=⟨_,rfl⟩;rw [<-hE2] at CA hc ⊢
  have k1:(E != 0)=true:=by simp [hc]
  clear h hok hs hE hE2 hc;unfold slv at CA;unfold slv
  go_enter Tryd.func27,Tryd.ntmps27
  obtain⟨_,c0,c1,c2,c3,c4,c5,_⟩:=BX.out
  go_wp2_with fail
  refine (CA.out _ (HB.out _)).mono ?_;rintro e w1 ⟨v,rfl,hown,hb⟩;have B1:=aq ((HB.out _).trans (hb.mono (by simp)));have OW:=aq hown;obtain⟨A,c,rfl,hP,_⟩:=own_cells hown;have HP:=aq (show PLst w1 A (Sn.askL s) from hP);clear hb hown hP c0 c1 c2 c3 c4 c5;go_wp2;go_ret2;refine⟨_,rfl,?_,B1.out⟩;rw [EV.out];exact World.ownsRow_nil _ _ _ _
end Go.Proofs.YtfdpkmafemidjaaDoor

/- What the document's own answers of layer 12 (package shelfmarkref12) return: asked, Floor, Ceiling. They only read. -/
import Derived.Test.YtfdpkmafemidjaaDoorRefA12Sp
import Derived.Test.YtfdpkmafemidjaaDoorRefB10Sp
import Derived.Test.YtfdpkmafemidjaaDoorTkSp
set_option linter.unusedVariables false
set_option linter.unusedSimpArgs false
set_option maxHeartbeats 2000000
set_option maxRecDepth 100000
namespace Go.Proofs.YtfdpkmafemidjaaDoor
open Go.RowKit
def Sn.askL (s:Sl):List (Int×Int):=if Sk.chkE s=0 then Sn.pairs s else []
def AskPost (s:Sl) (w:World) (e:Ending) (w':World):Prop :=
 ∃ v,e=.returned (.tuple #[v,.int .i64 (Sk.chkE s)])/\w'.ownsRow w.heap.size 32 2 v (Sn.askL s).length (pcells (Sn.askL s))/\Below w.heap.size w w'
theorem askL_len (s:Sl):(Sn.askL s).length<=s.keys.length:=by
 unfold Sn.askL
 by_cases h:Sk.chkE s=0
 ·rw [if_pos h,Sn.pairs_len];exact Sn.all_le s
 ·rw [if_neg h];exact Nat.zero_le _
theorem r12asked (s:Sl) (a:Ads) (w:World) (h:Held w s a) (hok:s.Ok) (hs:s.Short) :
  Calls Tryd.prog 39 #[slv s a] w (AskPost s w):=by
 have CC:=aq (fun o=>r10Check s a (w.alloc o) (h.alloc o) hok hs)
 have CF:=aq (show ∀ W,Below w.heap.size w W->s.May->Calls Tryd.prog 66 #[slv s a,.int .i64 0,.int .i64 (s.keys.length:Int)] W (POwn (s.of 0 s.keys.length) W) from fun W hb hM =>
  r4Of s a 0 s.keys.length W (h.below hb) hok hs hM.vals (Nat.le_refl _) (by have:=hM.wlen;have:=hM.many;omega) (by omega))
 have HB:=aq (fun o=>(Below.refl w.heap.size w).alloc (Nat.le_refl _) o);have BX:=aq (Box.new w s a 27);clear h hok hs;unfold slv at CC CF ⊢
 by_cases hc:Sk.chkE s=0
 ·have HM:=aq (Sk.chk_zero.1 hc).1
  have E:=aq (show Sn.askL s=s.of 0 s.keys.length by unfold Sn.askL;rw [if_pos hc];rfl);rw [hc] at CC;have C0:=aq hc;clear hc
  go_enter Tryd.func39,Tryd.ntmps39
  go_wp2_with fail
  refine (CC.out _).mono ?_;rintro e w1 ⟨rfl,hb⟩;have B1:=aq ((HB.out _).trans (hb.mono (by simp)));obtain⟨_,c0,c1,c2,c3,c4,c5,_⟩:=BX.out.below hb;clear hb
  go_wp2_with fail
  refine (CF.out _ B1.out HM.out).mono ?_;rintro e w2 ⟨v,rfl,hown,hb⟩;go_wp2;go_ret2;refine⟨v,by rw [C0.out];rfl,?_,?_⟩
  ·rw [E.out]
   exact own_lower hown B1.out.size
  ·exact B1.out.trans (hb.mono B1.out.size)
 ·have k1:(Sk.chkE s != 0)=true:=by simp [hc]
  have E:=aq (show Sn.askL s=[] by unfold Sn.askL;rw [if_neg hc]);clear hc CF
  go_enter Tryd.func39,Tryd.ntmps39
  go_wp2_with fail
  refine (CC.out _).mono ?_;rintro e w1 ⟨rfl,hb⟩;go_wp2;go_ret2;refine⟨_,rfl,?_,?_⟩
  ·rw [E.out]
   exact World.ownsRow_nil _ _ _ _
  ·exact (HB.out _).trans (hb.mono (by simp))
theorem r12Floor (s:Sl) (a:Ads) (k:Int) (w:World) (h:Held w s a) (hok:s.Ok) (hs:s.Short) :
  Calls Tryd.prog 21 #[slv s a,.int .i64 k] w fun e w'=>e=.returned (.tuple #[pv (Sn.floorV s k),.int .i64 (Sn.floorE s k)])/\Below w.heap.size w w':=by
 have l2:=hs.keys;have HB:=aq (fun o o'=>((Below.refl w.heap.size w).alloc (Nat.le_refl _) o).alloc (by simp) o');have BX:=aq (fun o=>(Box.new w s a 27).below ((Below.refl _ _).alloc (Nat.le_refl _) o));have PX:=aq (PBox.new (w.alloc (.cells (slCells s a) 27)) (0,0) 32)
 by_cases hc:Sk.chkE s=0
 ·obtain⟨hE,hV⟩:=Sn.floor_by hc k
  have EL:=aq (show Sn.askL s=Sn.pairs s by unfold Sn.askL;rw [if_pos hc]);have CA:=aq (fun W (hb:Below w.heap.size w W)=>r12asked s a W (h.below hb) hok hs);have CO:=aq (fun A c W (hp:PLst W A (Sn.askL s))=>r12FloorOf A c (Sn.askL s) k W hp (by have:=askL_len s;omega));have HE:=aq hE;have HV:=aq hV;have C0:=aq hc;clear h hok hs hE hV;unfold AskPost at CA;rw [hc] at CA;clear hc;unfold slv at CA;unfold slv;unfold slCells at PX
  go_enter Tryd.func21,Tryd.ntmps21
  obtain⟨_,c0,c1,c2,c3,c4,c5,_⟩:=(BX.out (.cells #[.int .i64 0,.int .i64 0] 32))
  go_wp2_with fail
  refine (CA.out _ (HB.out _ _)).mono ?_;rintro e w1 ⟨v,rfl,hown,hb⟩;have B1:=aq ((HB.out _ _).trans (hb.mono (by simp;omega)));have px1:=aq (PX.out.below hb);have OW:=aq hown;obtain⟨A,c,rfl,hP,_⟩:=own_cells hown;have HP:=aq (show PLst w1 A (Sn.askL s) from hP);clear hb hown hP c0 c1 c2 c3 c4 c5;obtain⟨V,hV⟩:∃ V,V=Sn.floR (Sn.askL s) k:=⟨_,rfl⟩;obtain⟨B,hB⟩:∃ B,B=decide ((Sn.floP (Sn.askL s) k).length≠0):=⟨_,rfl⟩;rw [<-hV,<-hB] at CO
  have RV:=aq (show Sn.floorV s k=(if B then V else (0,0)) by
   rw [HV.out,hV,hB,EL.out];unfold Sn.floR
   by_cases h0:(Sn.floP (Sn.pairs s) k).length=0<;>simp [h0])
  have RE:=aq (show Sn.floorE s k=(if B then 0 else 6) by
   rw [HE.out,hB,EL.out]
   by_cases h0:(Sn.floP (Sn.pairs s) k).length=0<;>simp [h0])
  clear hV hB;unfold pv at CO
  go_wp2_with fail
  refine (CO.out A c w1 HP.out).mono ?_;rintro e w2 ⟨rfl,hb⟩;have B2:=aq (B1.out.trans (hb.mono B1.out.size));have px2:=aq (px1.out.below hb);have BT:=aq (fun o=>r12told V B (w2.alloc o));have PV:=aq (PBox.new w2 V 32);have HB2:=aq (fun o=>(Below.refl w2.heap.size w2).alloc (Nat.le_refl _) o);clear hb;unfold pv at BT;obtain⟨_,q0,q1,_⟩:=PV.out
  go_wp2_with fail
  refine (BT.out _).mono ?_;rintro e w3 ⟨rfl,hb⟩;have B3:=aq (B2.out.trans ((HB2.out _).trans (hb.mono (by simp)) |>.mono B2.out.size));have px3:=aq ((px2.out.below (HB2.out _)).below hb);clear hb q0 q1;rw [<-RE.out,<-RV.out]
  have d0:w3.cell? ⟨w.heap.size+1,0,none⟩=some (.int .i64 0):=by have:=px3.out.c0;simpa using this
  have d1:w3.cell? ⟨w.heap.size+1,1,none⟩=some (.int .i64 0):=by have:=px3.out.c1;simpa using this
  have fd0:w3.frozen? ⟨w.heap.size+1,0,none⟩=false:=by have:=px3.out.f0;simpa using this
  have fd1:w3.frozen? ⟨w.heap.size+1,1,none⟩=false:=by have:=px3.out.f1;simpa using this
  go_wp2;refine bodyPost_ret (v:=.tuple #[.agg #[.int .i64 (Sn.floorV s k).1,.int .i64 (Sn.floorV s k).2],.int .i64 (Sn.floorE s k)]) (by simp [results,Tryd.results21,go_sem,d0,d1]) rfl ⟨rfl,?_⟩;exact (B3.out.setCell (by simp) _).setCell (by simp) _
 ·have hE:Sn.floorE s k=Sk.chkE s:=by unfold Sn.floorE;rw [if_neg hc]
  have hV:Sn.floorV s k=(0,0):=by unfold Sn.floorV;rw [if_neg (by rw [hE];exact hc)]
  rw [hE,hV]
  have k1:(Sk.chkE s != 0)=true:=by simp [hc]
  have CA:=aq (fun W (hb:Below w.heap.size w W)=>r12asked s a W (h.below hb) hok hs);clear h hok hs hc hE hV;unfold AskPost at CA;obtain⟨E,hE2⟩:∃ E,E=Sk.chkE s:=⟨_,rfl⟩;rw [<-hE2] at k1 CA ⊢;clear hE2;unfold slv at CA;unfold slv;unfold slCells at PX
  go_enter Tryd.func21,Tryd.ntmps21
  obtain⟨_,c0,c1,c2,c3,c4,c5,_⟩:=(BX.out (.cells #[.int .i64 0,.int .i64 0] 32))
  go_wp2_with fail
  refine (CA.out _ (HB.out _ _)).mono ?_;rintro e w1 ⟨v,rfl,hown,hb⟩;have B1:=aq ((HB.out _ _).trans (hb.mono (by simp;omega)));have px1:=aq (PX.out.below hb);have OW:=aq hown;obtain⟨A,c,rfl,hP,_⟩:=own_cells hown;have HP:=aq (show PLst w1 A (Sn.askL s) from hP);clear hb hown hP c0 c1 c2 c3 c4 c5
  have d0:w1.cell? ⟨w.heap.size+1,0,none⟩=some (.int .i64 0):=by have:=px1.out.c0;simpa using this
  have d1:w1.cell? ⟨w.heap.size+1,1,none⟩=some (.int .i64 0):=by have:=px1.out.c1;simpa using this
  have fd0:w1.frozen? ⟨w.heap.size+1,0,none⟩=false:=by have:=px1.out.f0;simpa using this
  have fd1:w1.frozen? ⟨w.heap.size+1,1,none⟩=false:=by have:=px1.out.f1;simpa using this
  go_wp2;refine bodyPost_ret (v:=.tuple #[.agg #[.int .i64 0,.int .i64 0],.int .i64 E]) (by simp [results,Tryd.results21,go_sem,d0,d1]) rfl ⟨rfl,?_⟩;exact (B1.out.setCell (by simp) _).setCell (by simp) _
theorem r12Ceiling (s:Sl) (a:Ads) (k:Int) (w:World) (h:Held w s a) (hok:s.Ok) (hs:s.Short) :
  Calls Tryd.prog 22 #[slv s a,.int .i64 k] w fun e w'=>e=.returned (.tuple #[pv (Sn.ceilV s k),.int .i64 (Sk.nextE s k)])/\Below w.heap.size w w':=by
 have l2:=hs.keys;have HB:=aq (fun o o'=>((Below.refl w.heap.size w).alloc (Nat.le_refl _) o).alloc (by simp) o');have BX:=aq (fun o=>(Box.new w s a 27).below ((Below.refl _ _).alloc (Nat.le_refl _) o));have PX:=aq (PBox.new (w.alloc (.cells (slCells s a) 27)) (0,0) 32)
 by_cases hc:Sk.chkE s=0
 ·obtain⟨hE,hV⟩:=Sn.ceil_by hc k
  have EL:=aq (show Sn.askL s=Sn.pairs s by unfold Sn.askL;rw [if_pos hc]);have CA:=aq (fun W (hb:Below w.heap.size w W)=>r12asked s a W (h.below hb) hok hs);have CO:=aq (fun A c W (hp:PLst W A (Sn.askL s))=>r12CeilingOf A c (Sn.askL s) k W hp (by have:=askL_len s;omega));have HE:=aq hE;have HV:=aq hV;have C0:=aq hc;clear h hok hs hE hV;unfold AskPost at CA;rw [hc] at CA;clear hc;unfold slv at CA;unfold slv;unfold slCells at PX
  go_enter Tryd.func22,Tryd.ntmps22
  obtain⟨_,c0,c1,c2,c3,c4,c5,_⟩:=(BX.out (.cells #[.int .i64 0,.int .i64 0] 32))
  go_wp2_with fail
  refine (CA.out _ (HB.out _ _)).mono ?_;rintro e w1 ⟨v,rfl,hown,hb⟩;have B1:=aq ((HB.out _ _).trans (hb.mono (by simp;omega)));have px1:=aq (PX.out.below hb);have OW:=aq hown;obtain⟨A,c,rfl,hP,_⟩:=own_cells hown;have HP:=aq (show PLst w1 A (Sn.askL s) from hP);clear hb hown hP c0 c1 c2 c3 c4 c5;obtain⟨V,hV⟩:∃ V,V=Sn.ceiR (Sn.askL s) k:=⟨_,rfl⟩;obtain⟨B,hB⟩:∃ B,B=decide ((Sn.ceiP (Sn.askL s) k).length≠0):=⟨_,rfl⟩;rw [<-hV,<-hB] at CO
  have RV:=aq (show Sn.ceilV s k=(if B then V else (0,0)) by
   rw [HV.out,hV,hB,EL.out];unfold Sn.ceiR
   by_cases h0:(Sn.ceiP (Sn.pairs s) k).length=0<;>simp [h0])
  have RE:=aq (show Sk.nextE s k=(if B then 0 else 6) by
   rw [HE.out,hB,EL.out]
   by_cases h0:(Sn.ceiP (Sn.pairs s) k).length=0<;>simp [h0])
  clear hV hB;unfold pv at CO
  go_wp2_with fail
  refine (CO.out A c w1 HP.out).mono ?_;rintro e w2 ⟨rfl,hb⟩;have B2:=aq (B1.out.trans (hb.mono B1.out.size));have px2:=aq (px1.out.below hb);have BT:=aq (fun o=>r12told V B (w2.alloc o));have PV:=aq (PBox.new w2 V 32);have HB2:=aq (fun o=>(Below.refl w2.heap.size w2).alloc (Nat.le_refl _) o);clear hb;unfold pv at BT;obtain⟨_,q0,q1,_⟩:=PV.out
  go_wp2_with fail
  refine (BT.out _).mono ?_;rintro e w3 ⟨rfl,hb⟩;have B3:=aq (B2.out.trans ((HB2.out _).trans (hb.mono (by simp)) |>.mono B2.out.size));have px3:=aq ((px2.out.below (HB2.out _)).below hb);clear hb q0 q1;rw [<-RE.out,<-RV.out]
  have d0:w3.cell? ⟨w.heap.size+1,0,none⟩=some (.int .i64 0):=by have:=px3.out.c0;simpa using this
  have d1:w3.cell? ⟨w.heap.size+1,1,none⟩=some (.int .i64 0):=by have:=px3.out.c1;simpa using this
  have fd0:w3.frozen? ⟨w.heap.size+1,0,none⟩=false:=by have:=px3.out.f0;simpa using this
  have fd1:w3.frozen? ⟨w.heap.size+1,1,none⟩=false:=by have:=px3.out.f1;simpa using this
  go_wp2;refine bodyPost_ret (v:=.tuple #[.agg #[.int .i64 (Sn.ceilV s k).1,.int .i64 (Sn.ceilV s k).2],.int .i64 (Sk.nextE s k)]) (by simp [results,Tryd.results22,go_sem,d0,d1]) rfl ⟨rfl,?_⟩;exact (B3.out.setCell (by simp) _).setCell (by simp) _
 ·have hE:Sk.nextE s k=Sk.chkE s:=by unfold Sk.nextE;rw [if_neg hc]
  have hV:Sn.ceilV s k=(0,0):=by unfold Sn.ceilV;rw [if_neg (by rw [hE];exact hc)]
  rw [hE,hV]
  have k1:(Sk.chkE s != 0)=true:=by simp [hc]
  have CA:=aq (fun W (hb:Below w.heap.size w W)=>r12asked s a W (h.below hb) hok hs);clear h hok hs hc hE hV;unfold AskPost at CA;obtain⟨E,hE2⟩:∃ E,E=Sk.chkE s:=⟨_,rfl⟩;rw [<-hE2] at k1 CA ⊢;clear hE2;unfold slv at CA;unfold slv;unfold slCells at PX
  go_enter Tryd.func22,Tryd.ntmps22
  obtain⟨_,c0,c1,c2,c3,c4,c5,_⟩:=(BX.out (.cells #[.int .i64 0,.int .i64 0] 32))
  go_wp2_with fail
  refine (CA.out _ (HB.out _ _)).mono ?_;rintro e w1 ⟨v,rfl,hown,hb⟩;have B1:=aq ((HB.out _ _).trans (hb.mono (by simp;omega)));have px1:=aq (PX.out.below hb);have OW:=aq hown;obtain⟨A,c,rfl,hP,_⟩:=own_cells hown;have HP:=aq (show PLst w1 A (Sn.askL s) from hP);clear hb hown hP c0 c1 c2 c3 c4 c5
  have d0:w1.cell? ⟨w.heap.size+1,0,none⟩=some (.int .i64 0):=by have:=px1.out.c0;simpa using this
  have d1:w1.cell? ⟨w.heap.size+1,1,none⟩=some (.int .i64 0):=by have:=px1.out.c1;simpa using this
  have fd0:w1.frozen? ⟨w.heap.size+1,0,none⟩=false:=by have:=px1.out.f0;simpa using this
  have fd1:w1.frozen? ⟨w.heap.size+1,1,none⟩=false:=by have:=px1.out.f1;simpa using this
  go_wp2;refine bodyPost_ret (v:=.tuple #[.agg #[.int .i64 0,.int .i64 0],.int .i64 E]) (by simp [results,Tryd.results22,go_sem,d0,d1]) rfl ⟨rfl,?_⟩;exact (B1.out.setCell (by simp) _).setCell (by simp) _
end Go.Proofs.YtfdpkmafemidjaaDoor

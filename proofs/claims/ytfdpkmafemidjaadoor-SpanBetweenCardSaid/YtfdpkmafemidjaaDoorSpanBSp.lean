/- What package span's Floor, Ceiling, Min, Max and Select return. They only read. -/
import Derived.Test.YtfdpkmafemidjaaDoorSpanASp
import Derived.Test.YtfdpkmafemidjaaDoorOccT4Sp
import Derived.Test.YtfdpkmafemidjaaDoorTkSp
set_option linter.unusedVariables false
set_option linter.unusedSimpArgs false
set_option maxHeartbeats 2000000
set_option maxRecDepth 100000
namespace Go.Proofs.YtfdpkmafemidjaaDoor
open Go.RowKit
theorem nNeighF (s:Sl) (a:Ads) (k:Int) (w:World) (h:Held w s a) (hok:s.Ok) (hs:s.Short) (hT:Tab w) :
  Calls Tryd.prog 31 #[slv s a,.int .i64 k,.func (.func 32) #[] #[]] w fun e w'=>e=.returned (.tuple #[pv (Sn.floorV s k),.int .i64 (Sn.floorE s k)])/\Below w.heap.size w w':=by
 have CC:=aq (fun W (hb:Below w.heap.size w W)=>nFloor s a k W (h.below hb) hok hs (hT.below hb));have CP:=aq (fun (x:Nat) W (hb:Below w.heap.size w W) (hx:x < s.keys.length) (hv:s.vals.length=s.keys.length)=>nPairAt s a x W (h.below hb) hx hv hs.keys);have HB:=aq (fun o o'=>((Below.refl w.heap.size w).alloc (Nat.le_refl _) o).alloc (by simp) o');have BX:=aq (fun o=>(Box.new w s a 27).below ((Below.refl _ _).alloc (Nat.le_refl _) o));have PX:=aq (PBox.new (w.alloc (.cells (slCells s a) 27)) (0,0) 32)
 by_cases hE:Sn.floorE s k=0
 ·obtain⟨x,hx,hlt,hv⟩:=Sn.floor_at hE
  have hM:=(Sk.chk_zero.1 (show Sk.chkE s=0 by
   by_cases hc:Sk.chkE s=0
   ·exact hc
   ·unfold Sn.floorE at hE;rw [if_neg hc] at hE;exact absurd hE hc)).1
  have HV:=aq hM.vals;rw [hE,hx] at CC;rw [hE,hv];clear h hok hs hT hE hx hv hM;unfold slv at CP ⊢;unfold slCells at PX
  ·go_enter Tryd.func31,Tryd.ntmps31
   obtain⟨_,c0,c1,c2,c3,c4,c5,_⟩:=(BX.out (.cells #[.int .i64 0,.int .i64 0] 32))
   go_wp2_with fail
   refine (CC.out _ (HB.out _ _)).mono ?_;rintro e w1 ⟨rfl,hb⟩;have B1:=aq ((HB.out _ _).trans (hb.mono (by simp;omega)));have px1:=aq (PX.out.below hb);clear c0 c1 c2 c3 c4 c5;obtain⟨_,c0,c1,c2,c3,c4,c5,_⟩:=(BX.out _).below hb;clear hb
   go_wp2_with fail
   refine (CP.out x _ B1.out hlt HV.out).mono ?_;rintro e w2 ⟨rfl,hb⟩;have B2:=aq (B1.out.trans (hb.mono B1.out.size));have px2:=aq (px1.out.below hb);clear hb c0 c1 c2 c3 c4 c5
   have d0:w2.cell? ⟨w.heap.size+1,0,none⟩=some (.int .i64 0):=by have:=px2.out.c0;simpa using this
   have d1:w2.cell? ⟨w.heap.size+1,1,none⟩=some (.int .i64 0):=by have:=px2.out.c1;simpa using this
   have fd0:w2.frozen? ⟨w.heap.size+1,0,none⟩=false:=by have:=px2.out.f0;simpa using this
   have fd1:w2.frozen? ⟨w.heap.size+1,1,none⟩=false:=by have:=px2.out.f1;simpa using this
   try unfold pv
   go_wp2;refine bodyPost_ret (v:=.tuple #[.agg #[.int .i64 (s.pairAt x).1,.int .i64 (s.pairAt x).2],.int .i64 0]) (by simp [results,Tryd.results31,go_sem,d0,d1]) rfl ⟨rfl,?_⟩;exact (B2.out.setCell (by simp) _).setCell (by simp) _
 ·have hv:Sn.floorV s k=(0,0):=by unfold Sn.floorV;rw [if_neg hE]
  have k1:(Sn.floorE s k != 0)=true:=by simp [hE]
  rw [hv];clear h hok hs hT hE hv CP;obtain⟨E,hE2⟩:∃ E,E=Sn.floorE s k:=⟨_,rfl⟩;rw [<-hE2] at CC k1 ⊢;clear hE2;unfold slv;unfold slCells at PX
  ·go_enter Tryd.func31,Tryd.ntmps31
   obtain⟨_,c0,c1,c2,c3,c4,c5,_⟩:=(BX.out (.cells #[.int .i64 0,.int .i64 0] 32))
   go_wp2_with fail
   refine (CC.out _ (HB.out _ _)).mono ?_;rintro e w1 ⟨rfl,hb⟩;have B1:=aq ((HB.out _ _).trans (hb.mono (by simp;omega)));have px1:=aq (PX.out.below hb);clear hb c0 c1 c2 c3 c4 c5
   have d0:w1.cell? ⟨w.heap.size+1,0,none⟩=some (.int .i64 0):=by have:=px1.out.c0;simpa using this
   have d1:w1.cell? ⟨w.heap.size+1,1,none⟩=some (.int .i64 0):=by have:=px1.out.c1;simpa using this
   have fd0:w1.frozen? ⟨w.heap.size+1,0,none⟩=false:=by have:=px1.out.f0;simpa using this
   have fd1:w1.frozen? ⟨w.heap.size+1,1,none⟩=false:=by have:=px1.out.f1;simpa using this
   try unfold pv
   go_wp2;refine bodyPost_ret (v:=.tuple #[.agg #[.int .i64 0,.int .i64 0],.int .i64 E]) (by simp [results,Tryd.results31,go_sem,d0,d1]) rfl ⟨rfl,?_⟩;exact (B1.out.setCell (by simp) _).setCell (by simp) _
theorem nNeighC (s:Sl) (a:Ads) (k:Int) (w:World) (h:Held w s a) (hok:s.Ok) (hs:s.Short) (hT:Tab w) :
  Calls Tryd.prog 31 #[slv s a,.int .i64 k,.func (.func 34) #[] #[]] w fun e w'=>e=.returned (.tuple #[pv (Sn.ceilV s k),.int .i64 (Sk.nextE s k)])/\Below w.heap.size w w':=by
 have CC:=aq (fun W (hb:Below w.heap.size w W)=>nCeil s a k W (h.below hb) hok hs (hT.below hb));have CP:=aq (fun (x:Nat) W (hb:Below w.heap.size w W) (hx:x < s.keys.length) (hv:s.vals.length=s.keys.length)=>nPairAt s a x W (h.below hb) hx hv hs.keys);have HB:=aq (fun o o'=>((Below.refl w.heap.size w).alloc (Nat.le_refl _) o).alloc (by simp) o');have BX:=aq (fun o=>(Box.new w s a 27).below ((Below.refl _ _).alloc (Nat.le_refl _) o));have PX:=aq (PBox.new (w.alloc (.cells (slCells s a) 27)) (0,0) 32)
 by_cases hE:Sk.nextE s k=0
 ·obtain⟨x,hx,hlt,hv⟩:=Sn.ceil_at hE
  have hM:=(Sk.chk_zero.1 (show Sk.chkE s=0 by
   by_cases hc:Sk.chkE s=0
   ·exact hc
   ·unfold Sk.nextE at hE;rw [if_neg hc] at hE;exact absurd hE hc)).1
  have HV:=aq hM.vals;rw [hE,hx] at CC;rw [hE,hv];clear h hok hs hT hE hx hv hM;unfold slv at CP ⊢;unfold slCells at PX
  ·go_enter Tryd.func31,Tryd.ntmps31
   obtain⟨_,c0,c1,c2,c3,c4,c5,_⟩:=(BX.out (.cells #[.int .i64 0,.int .i64 0] 32))
   go_wp2_with fail
   refine (CC.out _ (HB.out _ _)).mono ?_;rintro e w1 ⟨rfl,hb⟩;have B1:=aq ((HB.out _ _).trans (hb.mono (by simp;omega)));have px1:=aq (PX.out.below hb);clear c0 c1 c2 c3 c4 c5;obtain⟨_,c0,c1,c2,c3,c4,c5,_⟩:=(BX.out _).below hb;clear hb
   go_wp2_with fail
   refine (CP.out x _ B1.out hlt HV.out).mono ?_;rintro e w2 ⟨rfl,hb⟩;have B2:=aq (B1.out.trans (hb.mono B1.out.size));have px2:=aq (px1.out.below hb);clear hb c0 c1 c2 c3 c4 c5
   have d0:w2.cell? ⟨w.heap.size+1,0,none⟩=some (.int .i64 0):=by have:=px2.out.c0;simpa using this
   have d1:w2.cell? ⟨w.heap.size+1,1,none⟩=some (.int .i64 0):=by have:=px2.out.c1;simpa using this
   have fd0:w2.frozen? ⟨w.heap.size+1,0,none⟩=false:=by have:=px2.out.f0;simpa using this
   have fd1:w2.frozen? ⟨w.heap.size+1,1,none⟩=false:=by have:=px2.out.f1;simpa using this
   try unfold pv
   go_wp2;refine bodyPost_ret (v:=.tuple #[.agg #[.int .i64 (s.pairAt x).1,.int .i64 (s.pairAt x).2],.int .i64 0]) (by simp [results,Tryd.results31,go_sem,d0,d1]) rfl ⟨rfl,?_⟩;exact (B2.out.setCell (by simp) _).setCell (by simp) _
 ·have hv:Sn.ceilV s k=(0,0):=by unfold Sn.ceilV;rw [if_neg hE]
  have k1:(Sk.nextE s k != 0)=true:=by simp [hE]
  rw [hv];clear h hok hs hT hE hv CP;obtain⟨E,hE2⟩:∃ E,E=Sk.nextE s k:=⟨_,rfl⟩;rw [<-hE2] at CC k1 ⊢;clear hE2;unfold slv;unfold slCells at PX
  ·go_enter Tryd.func31,Tryd.ntmps31
   obtain⟨_,c0,c1,c2,c3,c4,c5,_⟩:=(BX.out (.cells #[.int .i64 0,.int .i64 0] 32))
   go_wp2_with fail
   refine (CC.out _ (HB.out _ _)).mono ?_;rintro e w1 ⟨rfl,hb⟩;have B1:=aq ((HB.out _ _).trans (hb.mono (by simp;omega)));have px1:=aq (PX.out.below hb);clear hb c0 c1 c2 c3 c4 c5
   have d0:w1.cell? ⟨w.heap.size+1,0,none⟩=some (.int .i64 0):=by have:=px1.out.c0;simpa using this
   have d1:w1.cell? ⟨w.heap.size+1,1,none⟩=some (.int .i64 0):=by have:=px1.out.c1;simpa using this
   have fd0:w1.frozen? ⟨w.heap.size+1,0,none⟩=false:=by have:=px1.out.f0;simpa using this
   have fd1:w1.frozen? ⟨w.heap.size+1,1,none⟩=false:=by have:=px1.out.f1;simpa using this
   try unfold pv
   go_wp2;refine bodyPost_ret (v:=.tuple #[.agg #[.int .i64 0,.int .i64 0],.int .i64 E]) (by simp [results,Tryd.results31,go_sem,d0,d1]) rfl ⟨rfl,?_⟩;exact (B1.out.setCell (by simp) _).setCell (by simp) _
theorem nFloorOf (s:Sl) (a:Ads) (k:Int) (w:World) (h:Held w s a) (hok:s.Ok) (hs:s.Short) (hT:Tab w) :
  Calls Tryd.prog 10 #[slv s a,.int .i64 k] w fun e w'=>e=.returned (.tuple #[pv (Sn.floorV s k),.int .i64 (Sn.floorE s k)])/\Below w.heap.size w w':=by
 have CC:=aq (fun W (hb:Below w.heap.size w W)=>nNeighF s a k W (h.below hb) hok hs (hT.below hb));have HB:=aq (fun o o'=>((Below.refl w.heap.size w).alloc (Nat.le_refl _) o).alloc (by simp) o');have BX:=aq (fun o=>(Box.new w s a 27).below ((Below.refl _ _).alloc (Nat.le_refl _) o));have PX:=aq (PBox.new (w.alloc (.cells (slCells s a) 27)) (0,0) 32);obtain⟨E,hE2⟩:∃ E,E=Sn.floorE s k:=⟨_,rfl⟩;obtain⟨V,hV2⟩:∃ V,V=Sn.floorV s k:=⟨_,rfl⟩;rw [<-hE2,<-hV2] at CC ⊢;clear h hok hs hT hE2 hV2;unfold slv pv at CC;unfold slv pv;unfold slCells at PX
 go_enter Tryd.func10,Tryd.ntmps10
 obtain⟨_,c0,c1,c2,c3,c4,c5,_⟩:=(BX.out (.cells #[.int .i64 0,.int .i64 0] 32))
 go_wp2_with fail
 refine (CC.out _ (HB.out _ _)).mono ?_;rintro e w1 ⟨rfl,hb⟩;have B1:=aq ((HB.out _ _).trans (hb.mono (by simp;omega)));have px1:=aq (PX.out.below hb);clear hb c0 c1 c2 c3 c4 c5
 have d0:w1.cell? ⟨w.heap.size+1,0,none⟩=some (.int .i64 0):=by have:=px1.out.c0;simpa using this
 have d1:w1.cell? ⟨w.heap.size+1,1,none⟩=some (.int .i64 0):=by have:=px1.out.c1;simpa using this
 have fd0:w1.frozen? ⟨w.heap.size+1,0,none⟩=false:=by have:=px1.out.f0;simpa using this
 have fd1:w1.frozen? ⟨w.heap.size+1,1,none⟩=false:=by have:=px1.out.f1;simpa using this
 go_wp2;refine bodyPost_ret (v:=.tuple #[.agg #[.int .i64 V.1,.int .i64 V.2],.int .i64 E]) (by simp [results,Tryd.results10,go_sem,d0,d1]) rfl ⟨rfl,?_⟩;exact (B1.out.setCell (by simp) _).setCell (by simp) _
theorem nCeilOf (s:Sl) (a:Ads) (k:Int) (w:World) (h:Held w s a) (hok:s.Ok) (hs:s.Short) (hT:Tab w) :
  Calls Tryd.prog 12 #[slv s a,.int .i64 k] w fun e w'=>e=.returned (.tuple #[pv (Sn.ceilV s k),.int .i64 (Sk.nextE s k)])/\Below w.heap.size w w':=by
 have CC:=aq (fun W (hb:Below w.heap.size w W)=>nNeighC s a k W (h.below hb) hok hs (hT.below hb));have HB:=aq (fun o o'=>((Below.refl w.heap.size w).alloc (Nat.le_refl _) o).alloc (by simp) o');have BX:=aq (fun o=>(Box.new w s a 27).below ((Below.refl _ _).alloc (Nat.le_refl _) o));have PX:=aq (PBox.new (w.alloc (.cells (slCells s a) 27)) (0,0) 32);obtain⟨E,hE2⟩:∃ E,E=Sk.nextE s k:=⟨_,rfl⟩;obtain⟨V,hV2⟩:∃ V,V=Sn.ceilV s k:=⟨_,rfl⟩;rw [<-hE2,<-hV2] at CC ⊢;clear h hok hs hT hE2 hV2;unfold slv pv at CC;unfold slv pv;unfold slCells at PX
 go_enter Tryd.func12,Tryd.ntmps12
 obtain⟨_,c0,c1,c2,c3,c4,c5,_⟩:=(BX.out (.cells #[.int .i64 0,.int .i64 0] 32))
 go_wp2_with fail
 refine (CC.out _ (HB.out _ _)).mono ?_;rintro e w1 ⟨rfl,hb⟩;have B1:=aq ((HB.out _ _).trans (hb.mono (by simp;omega)));have px1:=aq (PX.out.below hb);clear hb c0 c1 c2 c3 c4 c5
 have d0:w1.cell? ⟨w.heap.size+1,0,none⟩=some (.int .i64 0):=by have:=px1.out.c0;simpa using this
 have d1:w1.cell? ⟨w.heap.size+1,1,none⟩=some (.int .i64 0):=by have:=px1.out.c1;simpa using this
 have fd0:w1.frozen? ⟨w.heap.size+1,0,none⟩=false:=by have:=px1.out.f0;simpa using this
 have fd1:w1.frozen? ⟨w.heap.size+1,1,none⟩=false:=by have:=px1.out.f1;simpa using this
 go_wp2;refine bodyPost_ret (v:=.tuple #[.agg #[.int .i64 V.1,.int .i64 V.2],.int .i64 E]) (by simp [results,Tryd.results12,go_sem,d0,d1]) rfl ⟨rfl,?_⟩;exact (B1.out.setCell (by simp) _).setCell (by simp) _
theorem nMin (s:Sl) (a:Ads) (w:World) (h:Held w s a) (hok:s.Ok) (hs:s.Short) (hT:Tab w) :
  Calls Tryd.prog 13 #[slv s a] w fun e w'=>e=.returned (.tuple #[pv (Sn.minV s),.int .i64 (Sn.endE s)])/\Below w.heap.size w w':=by
 have CC:=aq (fun W (hb:Below w.heap.size w W)=>nNeighC s a (-9223372036854775808) W (h.below hb) hok hs (hT.below hb));have hk:∀ i,In64 (Sk.key s i):=hok.keys;rw [(Sn.min_is hk).1,(Sn.min_is hk).2] at CC;clear hk;have HB:=aq (fun o o'=>((Below.refl w.heap.size w).alloc (Nat.le_refl _) o).alloc (by simp) o');have BX:=aq (fun o=>(Box.new w s a 27).below ((Below.refl _ _).alloc (Nat.le_refl _) o));have PX:=aq (PBox.new (w.alloc (.cells (slCells s a) 27)) (0,0) 32);obtain⟨E,hE2⟩:∃ E,E=Sn.endE s:=⟨_,rfl⟩;obtain⟨V,hV2⟩:∃ V,V=Sn.minV s:=⟨_,rfl⟩;rw [<-hE2,<-hV2] at CC ⊢;clear h hok hs hT hE2 hV2;unfold slv pv at CC;unfold slv pv;unfold slCells at PX
 go_enter Tryd.func13,Tryd.ntmps13
 obtain⟨_,c0,c1,c2,c3,c4,c5,_⟩:=(BX.out (.cells #[.int .i64 0,.int .i64 0] 32))
 go_wp2_with fail
 refine (CC.out _ (HB.out _ _)).mono ?_;rintro e w1 ⟨rfl,hb⟩;have B1:=aq ((HB.out _ _).trans (hb.mono (by simp;omega)));have px1:=aq (PX.out.below hb);clear hb c0 c1 c2 c3 c4 c5
 have d0:w1.cell? ⟨w.heap.size+1,0,none⟩=some (.int .i64 0):=by have:=px1.out.c0;simpa using this
 have d1:w1.cell? ⟨w.heap.size+1,1,none⟩=some (.int .i64 0):=by have:=px1.out.c1;simpa using this
 have fd0:w1.frozen? ⟨w.heap.size+1,0,none⟩=false:=by have:=px1.out.f0;simpa using this
 have fd1:w1.frozen? ⟨w.heap.size+1,1,none⟩=false:=by have:=px1.out.f1;simpa using this
 go_wp2;refine bodyPost_ret (v:=.tuple #[.agg #[.int .i64 V.1,.int .i64 V.2],.int .i64 E]) (by simp [results,Tryd.results13,go_sem,d0,d1]) rfl ⟨rfl,?_⟩;exact (B1.out.setCell (by simp) _).setCell (by simp) _
theorem nMax (s:Sl) (a:Ads) (w:World) (h:Held w s a) (hok:s.Ok) (hs:s.Short) (hT:Tab w) :
  Calls Tryd.prog 14 #[slv s a] w fun e w'=>e=.returned (.tuple #[pv (Sn.maxV s),.int .i64 (Sn.endE s)])/\Below w.heap.size w w':=by
 have CC:=aq (fun W (hb:Below w.heap.size w W)=>nNeighF s a 9223372036854775807 W (h.below hb) hok hs (hT.below hb));have hk:∀ i,In64 (Sk.key s i):=hok.keys;rw [(Sn.max_is hk).1,(Sn.max_is hk).2] at CC;clear hk;have HB:=aq (fun o o'=>((Below.refl w.heap.size w).alloc (Nat.le_refl _) o).alloc (by simp) o');have BX:=aq (fun o=>(Box.new w s a 27).below ((Below.refl _ _).alloc (Nat.le_refl _) o));have PX:=aq (PBox.new (w.alloc (.cells (slCells s a) 27)) (0,0) 32);obtain⟨E,hE2⟩:∃ E,E=Sn.endE s:=⟨_,rfl⟩;obtain⟨V,hV2⟩:∃ V,V=Sn.maxV s:=⟨_,rfl⟩;rw [<-hE2,<-hV2] at CC ⊢;clear h hok hs hT hE2 hV2;unfold slv pv at CC;unfold slv pv;unfold slCells at PX
 go_enter Tryd.func14,Tryd.ntmps14
 obtain⟨_,c0,c1,c2,c3,c4,c5,_⟩:=(BX.out (.cells #[.int .i64 0,.int .i64 0] 32))
 go_wp2_with fail
 refine (CC.out _ (HB.out _ _)).mono ?_;rintro e w1 ⟨rfl,hb⟩;have B1:=aq ((HB.out _ _).trans (hb.mono (by simp;omega)));have px1:=aq (PX.out.below hb);clear hb c0 c1 c2 c3 c4 c5
 have d0:w1.cell? ⟨w.heap.size+1,0,none⟩=some (.int .i64 0):=by have:=px1.out.c0;simpa using this
 have d1:w1.cell? ⟨w.heap.size+1,1,none⟩=some (.int .i64 0):=by have:=px1.out.c1;simpa using this
 have fd0:w1.frozen? ⟨w.heap.size+1,0,none⟩=false:=by have:=px1.out.f0;simpa using this
 have fd1:w1.frozen? ⟨w.heap.size+1,1,none⟩=false:=by have:=px1.out.f1;simpa using this
 go_wp2;refine bodyPost_ret (v:=.tuple #[.agg #[.int .i64 V.1,.int .i64 V.2],.int .i64 E]) (by simp [results,Tryd.results14,go_sem,d0,d1]) rfl ⟨rfl,?_⟩;exact (B1.out.setCell (by simp) _).setCell (by simp) _
theorem nSelect (s:Sl) (a:Ads) (k:Int) (w:World) (h:Held w s a) (hok:s.Ok) (hs:s.Short) (hT:Tab w) (hk:In64 k) :
  Calls Tryd.prog 15 #[slv s a,.int .i64 k] w fun e w'=>e=.returned (.tuple #[pv (Sn.selV s k),.int .i64 (Sn.selE s k)])/\Below w.heap.size w w':=by
 have CC:=aq (fun W (hb:Below w.heap.size w W)=>kCheck s a W (h.below hb) hok hs (hT.below hb));have CN:=aq (fun W (hb:Below w.heap.size w W)=>oNth a.w a.cw s.words s.keys.length k W (h.below hb).words hok.words hs.words (hT.below hb) hk.2);have CP:=aq (fun (x:Nat) W (hb:Below w.heap.size w W) (hx:x < s.keys.length) (hv:s.vals.length=s.keys.length)=>nPairAt s a x W (h.below hb) hx hv hs.keys);have HB:=aq (fun o o'=>((Below.refl w.heap.size w).alloc (Nat.le_refl _) o).alloc (by simp) o');have BX:=aq (fun o=>(Box.new w s a 27).below ((Below.refl _ _).alloc (Nat.le_refl _) o));have PX:=aq (PBox.new (w.alloc (.cells (slCells s a) 27)) (0,0) 32)
 by_cases hc:Sk.chkE s=0
 ·have hM:=(Sk.chk_zero.1 hc).1
  have HV:=aq hM.vals;rw [hc] at CC
  rcases Sn.nth_is hc k with⟨h1,h2,x,h3,h4,h5⟩ | ⟨h1,h2,h5⟩
  ·rw [h1,h3] at CN
   rw [h2,h5];clear h hok hs hT hc hM h1 h2 h3 h5 hk;unfold slv at CC CP ⊢;unfold slCells at PX
   go_enter Tryd.func15,Tryd.ntmps15
   obtain⟨_,c0,c1,c2,c3,c4,c5,_⟩:=(BX.out (.cells #[.int .i64 0,.int .i64 0] 32))
   go_wp2_with fail
   refine (CC.out _ (HB.out _ _)).mono ?_;rintro e w1 ⟨rfl,hb⟩;have B1:=aq ((HB.out _ _).trans (hb.mono (by simp;omega)));have px1:=aq (PX.out.below hb);have bx1:=aq ((BX.out _).below hb);clear hb c0 c1 c2 c3 c4 c5;obtain⟨_,c0,c1,c2,c3,c4,c5,_⟩:=bx1.out
   go_wp2_with fail
   refine (CN.out _ B1.out).mono ?_;rintro e w2 ⟨rfl,hb⟩;have B2:=aq (B1.out.trans (hb.mono B1.out.size));have px2:=aq (px1.out.below hb);have bx2:=aq (bx1.out.below hb);clear hb c0 c1 c2 c3 c4 c5;obtain⟨_,c0,c1,c2,c3,c4,c5,_⟩:=bx2.out
   go_wp2_with fail
   refine (CP.out x _ B2.out h4 HV.out).mono ?_;rintro e w3 ⟨rfl,hb⟩;have B3:=aq (B2.out.trans (hb.mono B2.out.size));have px3:=aq (px2.out.below hb);clear hb c0 c1 c2 c3 c4 c5
   have d0:w3.cell? ⟨w.heap.size+1,0,none⟩=some (.int .i64 0):=by have:=px3.out.c0;simpa using this
   have d1:w3.cell? ⟨w.heap.size+1,1,none⟩=some (.int .i64 0):=by have:=px3.out.c1;simpa using this
   have fd0:w3.frozen? ⟨w.heap.size+1,0,none⟩=false:=by have:=px3.out.f0;simpa using this
   have fd1:w3.frozen? ⟨w.heap.size+1,1,none⟩=false:=by have:=px3.out.f1;simpa using this
   try unfold pv
   go_wp2;refine bodyPost_ret (v:=.tuple #[.agg #[.int .i64 (s.pairAt x).1,.int .i64 (s.pairAt x).2],.int .i64 0]) (by simp [results,Tryd.results15,go_sem,d0,d1]) rfl ⟨rfl,?_⟩;exact (B3.out.setCell (by simp) _).setCell (by simp) _
  ·obtain⟨E,hE2⟩:∃ E,E=Oc.nthE s.words s.keys.length k:=⟨_,rfl⟩
   rw [<-hE2] at CN h1
   have k1:(E != 0)=true:=by simp [h1]
   rw [h2,h5];clear h hok hs hT hc hM h1 h2 h5 hk hE2 CP;unfold slv at CC ⊢;unfold slCells at PX
   go_enter Tryd.func15,Tryd.ntmps15
   obtain⟨_,c0,c1,c2,c3,c4,c5,_⟩:=(BX.out (.cells #[.int .i64 0,.int .i64 0] 32))
   go_wp2_with fail
   refine (CC.out _ (HB.out _ _)).mono ?_;rintro e w1 ⟨rfl,hb⟩;have B1:=aq ((HB.out _ _).trans (hb.mono (by simp;omega)));have px1:=aq (PX.out.below hb);have bx1:=aq ((BX.out _).below hb);clear hb c0 c1 c2 c3 c4 c5;obtain⟨_,c0,c1,c2,c3,c4,c5,_⟩:=bx1.out
   go_wp2_with fail
   refine (CN.out _ B1.out).mono ?_;rintro e w2 ⟨rfl,hb⟩;have B2:=aq (B1.out.trans (hb.mono B1.out.size));have px2:=aq (px1.out.below hb);clear hb c0 c1 c2 c3 c4 c5
   have d0:w2.cell? ⟨w.heap.size+1,0,none⟩=some (.int .i64 0):=by have:=px2.out.c0;simpa using this
   have d1:w2.cell? ⟨w.heap.size+1,1,none⟩=some (.int .i64 0):=by have:=px2.out.c1;simpa using this
   have fd0:w2.frozen? ⟨w.heap.size+1,0,none⟩=false:=by have:=px2.out.f0;simpa using this
   have fd1:w2.frozen? ⟨w.heap.size+1,1,none⟩=false:=by have:=px2.out.f1;simpa using this
   try unfold pv
   go_wp2;refine bodyPost_ret (v:=.tuple #[.agg #[.int .i64 0,.int .i64 0],.int .i64 290]) (by simp [results,Tryd.results15,go_sem,d0,d1]) rfl ⟨rfl,?_⟩;exact (B2.out.setCell (by simp) _).setCell (by simp) _
 ·have h2:Sn.selE s k=Sk.chkE s:=by unfold Sn.selE;rw [if_neg hc]
  have h5:Sn.selV s k=(0,0):=by unfold Sn.selV;rw [if_neg (by rw [h2];exact hc)]
  rw [h2,h5];obtain⟨E,hE2⟩:∃ E,E=Sk.chkE s:=⟨_,rfl⟩;rw [<-hE2] at CC hc ⊢
  have k1:(E != 0)=true:=by simp [hc]
  clear h hok hs hT hc h2 h5 hk hE2 CP CN;unfold slv at CC ⊢;unfold slCells at PX
  ·go_enter Tryd.func15,Tryd.ntmps15
   obtain⟨_,c0,c1,c2,c3,c4,c5,_⟩:=(BX.out (.cells #[.int .i64 0,.int .i64 0] 32))
   go_wp2_with fail
   refine (CC.out _ (HB.out _ _)).mono ?_;rintro e w1 ⟨rfl,hb⟩;have B1:=aq ((HB.out _ _).trans (hb.mono (by simp;omega)));have px1:=aq (PX.out.below hb);clear hb c0 c1 c2 c3 c4 c5
   have d0:w1.cell? ⟨w.heap.size+1,0,none⟩=some (.int .i64 0):=by have:=px1.out.c0;simpa using this
   have d1:w1.cell? ⟨w.heap.size+1,1,none⟩=some (.int .i64 0):=by have:=px1.out.c1;simpa using this
   have fd0:w1.frozen? ⟨w.heap.size+1,0,none⟩=false:=by have:=px1.out.f0;simpa using this
   have fd1:w1.frozen? ⟨w.heap.size+1,1,none⟩=false:=by have:=px1.out.f1;simpa using this
   try unfold pv
   go_wp2;refine bodyPost_ret (v:=.tuple #[.agg #[.int .i64 0,.int .i64 0],.int .i64 E]) (by simp [results,Tryd.results15,go_sem,d0,d1]) rfl ⟨rfl,?_⟩;exact (B1.out.setCell (by simp) _).setCell (by simp) _
end Go.Proofs.YtfdpkmafemidjaaDoor

/- What the function spoil of the law package of layer 9 returns (writes over). -/
import Derived.Test.YthaaapfnheocjaaGreatDoorM23Gt
import Derived.Test.YthaaapfnheocjaaGreatDoorM17Gt
import Derived.Test.YthaaapfnheocjaaGreatDoorM15Gt
import Derived.Test.YthaaapfnheocjaaGreatDoorM08Gt
import Derived.Test.YthaaapfnheocjaaGreatDoorTkGt
set_option linter.unusedVariables false
set_option linter.unusedSimpArgs false
set_option maxHeartbeats 1000000
set_option maxRecDepth 100000
namespace Go.Proofs.YthaaapfnheocjaaGreatDoor
open Go.RowKit
theorem l9Spoil (s:Sl) (a:Ads) (B U:Nat) (w:World) (h:SoftS w B U s a) (hB:B<=w.heap.size) (hs:s.Short) :
  Calls Tryz.prog 20 #[slv s a] w fun e w'=>e=.returned (.tuple #[])/\Spoilt B U w w':=by
 have H:=aq h;have HS0:=aq (show ∀ o,Spoilt B U w (w.alloc o) from fun o=>⟨(Below.refl _ _).alloc hB o,fun k a n hs=>hs.below ((Below.refl _ _).alloc (Nat.le_refl _) o),fun g _ hg=>Below.heap_alloc w o g hg⟩);have HX0:=aq (Box.new w s a 27);have l1:=hs.words;have l2:=hs.keys;have l3:=hs.vals;have l4:=hs.counts;clear h hs;unfold slv
 go_enter Tryz.func20,Tryz.ntmps20
 go_wp2
 go_loopw [2] (SpJ B U s a w s.keys.length) (fun i _=>s.keys.length-(intOf i).toNat)
 case atStart=>exact⟨0,Nat.zero_le _,rfl,HS0.out _,HX0.out⟩
 case round =>
  obtain⟨k1,hk1,rfl,hs,hx⟩:=hrel;have HS1:=aq hs;have HX1:=aq hx;clear hs hx HS0 HX0;obtain⟨_,p0,p1,p2,p3,p4,p5,_⟩:=HX1.out
  by_cases hlt:k1 < s.keys.length
  ·obtain⟨b,off,z,hA,hc,hf,hst⟩:=sp_step HS1.out HX1.out H.out.k H.out.fk hlt
   have HST:=aq hst;rw [hA] at p2;have HA:=aq hA
   have i0:(0:Int)<=(k1:Int):=by omega
   have i1:(k1:Int) < (s.keys.length:Int):=by omega
   clear hst hA;go_wp2
   go_roundw
   case rel=>exact⟨k1+1,by omega,by go_num,(HST.out _).1,(HST.out _).2⟩
   case measure=>simp [intOf];omega
  ·obtain rfl:k1=s.keys.length:=by omega
   go_wp2;clear p0 p1 p2 p3 p4 p5
   go_loopw [3] (SpJ B U s a w s.words.length) (fun i _=>s.words.length-(intOf i).toNat)
   case atStart=>exact⟨0,Nat.zero_le _,rfl,HS1.out,HX1.out⟩
   case round =>
    obtain⟨k2,hk2,rfl,hs,hx⟩:=hrel;have HS2:=aq hs;have HX2:=aq hx;clear hs hx HS1 HX1;obtain⟨_,p0,p1,p2,p3,p4,p5,_⟩:=HX2.out
    by_cases hlt:k2 < s.words.length
    ·obtain⟨b,off,z,hA,hc,hf,hst⟩:=sp_step HS2.out HX2.out H.out.w H.out.fw hlt
     have HST:=aq hst;rw [hA] at p1;have HA:=aq hA
     have i0:(0:Int)<=(k2:Int):=by omega
     have i1:(k2:Int) < (s.words.length:Int):=by omega
     clear hst hA;go_wp2
     go_roundw
     case rel=>exact⟨k2+1,by omega,by go_num,(HST.out _).1,(HST.out _).2⟩
     case measure=>simp [intOf];omega
    ·obtain rfl:k2=s.words.length:=by omega
     go_wp2;clear p0 p1 p2 p3 p4 p5
     go_loopw [4] (SpJ B U s a w s.counts.length) (fun i _=>s.counts.length-(intOf i).toNat)
     case atStart=>exact⟨0,Nat.zero_le _,rfl,HS2.out,HX2.out⟩
     case round =>
      obtain⟨k3,hk3,rfl,hs,hx⟩:=hrel;have HS3:=aq hs;have HX3:=aq hx;clear hs hx HS2 HX2;obtain⟨_,p0,p1,p2,p3,p4,p5,_⟩:=HX3.out
      by_cases hlt:k3 < s.counts.length
      ·obtain⟨b,off,z,hA,hc,hf,hst⟩:=sp_step HS3.out HX3.out H.out.c H.out.fc hlt
       have HST:=aq hst;rw [hA] at p4;have HA:=aq hA
       have i0:(0:Int)<=(k3:Int):=by omega
       have i1:(k3:Int) < (s.counts.length:Int):=by omega
       clear hst hA;go_wp2
       go_roundw
       case rel=>exact⟨k3+1,by omega,by go_num,(HST.out _).1,(HST.out _).2⟩
       case measure=>simp [intOf];omega
      ·obtain rfl:k3=s.counts.length:=by omega
       go_wp2;clear p0 p1 p2 p3 p4 p5
       go_end0
       exact⟨rfl,HS3.out⟩
end Go.Proofs.YthaaapfnheocjaaGreatDoor

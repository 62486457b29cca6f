/- What the document's own answers of layer 10 (package shelfmarkref10) return: Check, Rank, Next, Find, Last. They only read. -/
import Derived.Test.YtfdpkmafemidjaaDoorRefA10Sp
import Derived.Test.YtfdpkmafemidjaaDoorM02Sp
import Derived.Test.YtfdpkmafemidjaaDoorTkSp
set_option linter.unusedVariables false
set_option linter.unusedSimpArgs false
set_option maxHeartbeats 2000000
set_option maxRecDepth 100000
namespace Go.Proofs.YtfdpkmafemidjaaDoor
open Go.RowKit
theorem own_plst10 {w:World} {B:Nat} {v:Value} {ps:List (Int×Int)} (h:w.ownsRow B 32 2 v ps.length (pcells ps)):∃ A c,v=.slice A ps.length c/\PLst w A ps:=by
 obtain⟨A,c,hv,hC,_⟩:=own_cells h;exact⟨A,c,hv,hC⟩
theorem may_wide {s:Sl} (hM:s.May):s.keys.length<=64*s.words.length:=by have:=hM.wlen;omega
namespace Sk
theorem all_le (s:Sl):(all s).length<=s.keys.length:=by
 have:=Oc.places_length_le s.words 0 s.keys.length;unfold all
 omega
def LowTo (s:Sl) (k:Int) (j:Nat):Prop:=∀ i,i < j->key s ((all s).getD i 0) < k
theorem LowTo.next {s:Sl} {k:Int} {j:Nat} (h:LowTo s k j) (hk:key s ((all s).getD j 0) < k):LowTo s k (j+1):=fun i hi=>by
 by_cases e:i=j
 ·subst e;exact hk
 ·exact h i (by omega)
end Sk
theorem r10Check (s:Sl) (a:Ads) (w:World) (h:Held w s a) (hok:s.Ok) (hs:s.Short) :
  Calls Tryd.prog 65 #[slv s a] w fun e w'=>e=.returned (.int .i64 (Sk.chkE s))/\Below w.heap.size w w':=by
 have l2:=hs.keys;have CM:=aq (fun o=>r4May s a (w.alloc o) (h.alloc o) hok hs);have CO:=aq (fun W (hb:Below w.heap.size w W) (hM:s.May)=>r4Of s a 0 s.keys.length W (h.below hb) hok hs hM.vals (Nat.le_refl _) (may_wide hM) (by omega));have HB:=aq (fun o=>(Below.refl w.heap.size w).alloc (Nat.le_refl _) o);have BX:=aq (Box.new w s a 27);have HL:=aq (show Sk.chkE s=if s.mayB then (if Sk.risesB s then 0 else 130) else 8 from rfl);have HN:=aq (show (s.of 0 s.keys.length).length<=65536 by unfold Sl.of;rw [List.length_map];have:=Oc.places_length_le s.words 0 s.keys.length;omega);have HR:=aq (Sk.risesP_of s);clear h hok hs;unfold slv at CM CO ⊢
 cases hm:s.mayB
 ·rw [hm] at CM HL
  clear hm
  go_enter Tryd.func65,Tryd.ntmps65
  go_wp2_with fail
  refine (CM.out _).mono ?_;rintro e w1 ⟨rfl,hb⟩;go_wp2;go_ret;rw [HL.out];exact⟨rfl,(HB.out _).trans (hb.mono (by simp))⟩
 ·have HM:=aq (may_iff.1 hm)
  rw [hm] at CM HL;clear hm;obtain⟨z,hz⟩:∃ z,z=Sk.risesB s:=⟨_,rfl⟩;rw [<-hz] at HL HR;clear hz;obtain⟨ps,hps⟩:∃ ps,ps=s.of 0 s.keys.length:=⟨_,rfl⟩;rw [<-hps] at CO HN HR;clear hps
  cases z
  all_goals
   go_enter Tryd.func65,Tryd.ntmps65
   go_wp2_with fail
   refine (CM.out _).mono ?_;rintro e w1 ⟨rfl,hb⟩;have B1:=aq ((HB.out _).trans (hb.mono (by simp)));obtain⟨_,c0,c1,c2,c3,c4,c5,_⟩:=BX.out.below hb;clear hb
   go_wp2_with fail
   refine (CO.out _ B1.out HM.out).mono ?_;rintro e w2 ⟨v,rfl,hown,hb⟩;obtain⟨A,c,rfl,hP⟩:=own_plst10 hown;have B2:=aq (B1.out.trans (hb.mono B1.out.size));have P2:=aq hP;clear hb hown hP c0 c1 c2 c3 c4 c5
   go_wp2_with fail
   refine (r10Rising A c ps _ P2.out HN.out).mono ?_;rintro e w3 ⟨rfl,hb⟩;rw [HR.out];go_wp2;go_ret;rw [HL.out];exact⟨rfl,B2.out.trans (hb.mono B2.out.size)⟩
end Go.Proofs.YtfdpkmafemidjaaDoor

/- What the document's own answers of layers 1, 2 and 4 return that only read. -/
import Derived.Test.YtpeckljoannolaaGreatDoorProg
import Derived.Test.YtpeckljoannolaaGreatDoorM01Oc
import Derived.Deep.QuietTactic
import Derived.BigQuiet
import Derived.WalkSmall
import Derived.WalkKit
import Derived.WalkSpells
import Derived.WalkLawsBesides
import Derived.Lib.Hide
import Derived.Test.YtpeckljoannolaaGreatDoorRefW01Oc
import Derived.Deep.RegionHeld3
import Derived.StillTailTactics
import Derived.Test.YtpeckljoannolaaGreatDoorTkOc
set_option linter.unusedVariables false
set_option linter.unusedSimpArgs false
set_option maxHeartbeats 400000
namespace Go.Proofs.YtpeckljoannolaaGreatDoor
open Go.RowKit
def vals (ws:List Nat):List Value:=ws.map fun x:Nat=>Value.int .u64 (x:Int)
theorem fitsB_parts (seg many:Int):Sl.fitsB seg many=(decide (4<=seg)&&decide (seg<=64)&&Fr.powB seg&&decide (1<=many)&&decide (many<=65536)&&decide (many % seg=0)&&Fr.powB (many/seg)):=rfl
theorem r4Great (s:Sl) (a:Ads) (n:Int) (w:World) :
  Calls Tryz.prog 49 #[slv s a,.int .i64 n] w fun e w'=>e=.returned (.bool (s.greatB n))/\Below w.heap.size w w':=by
 have H:=aq (show s.greatB n=(decide (n < (s.keys.length:Int))||decide (n < (s.vals.length:Int))||decide (n < (s.words.length:Int))||decide (n < (s.counts.length:Int))) from rfl);unfold slv
 by_cases h1:n < (s.keys.length:Int)
 all_goals by_cases h2:n < (s.vals.length:Int)
 all_goals by_cases h3:n < (s.words.length:Int)
 all_goals by_cases h4:n < (s.counts.length:Int)
 all_goals
  have H2:=aq (H.out.trans (by simp only [h1,h2,h3,h4,decide_true,decide_false,Bool.true_or,Bool.or_true,Bool.false_or,Bool.or_false];rfl))
  go_enter Tryz.func49,Tryz.ntmps49
  go_wp2;go_ret;rw [H2.out];exact⟨rfl,(Below.refl _ _).alloc (Nat.le_refl _) _⟩
theorem form_parts (s:Sl):s.formB=(Sl.fitsB s.seg s.keys.length&&s.vals.length==s.keys.length&&Oc.mayB s.words s.keys.length&&decide ((s.counts.length:Int)=(s.keys.length:Int)/s.seg)):=rfl
theorem zeros_snoc (s:Sl) (k:Nat):s.zerosB (k+1)=(s.zerosB k&&s.zeroAt k):=by unfold Sl.zerosB;rw [List.range_succ,List.all_append];simp
theorem counts_snoc (s:Sl) (k:Nat):s.countsB (k+1)=(s.countsB k&&s.countAt k):=by unfold Sl.countsB;rw [List.range_succ,List.all_append];simp
theorem all_range_false {p:Nat->Bool} {n k:Nat} (hk:k < n) (h:p k=false):(List.range n).all p=false:=by
 rw [List.all_eq_false];exact⟨k,by simpa using hk,by simp [h]⟩
theorem form_yes {s:Sl} (h:s.formB=true):Sl.fitsB s.seg s.keys.length=true/\s.vals.length=s.keys.length/\Oc.mayB s.words s.keys.length=true/\(s.counts.length:Int)=(s.keys.length:Int)/s.seg:=by
 rw [form_parts] at h
 simp only [Bool.and_eq_true,decide_eq_true_eq,beq_iff_eq] at h
 exact⟨h.1.1.1,h.1.1.2,h.1.2,h.2⟩
theorem fits_yes {seg many:Int} (h:Sl.fitsB seg many=true):4<=seg/\seg<=64/\Fr.powB seg=true/\1<=many/\many<=65536/\many % seg=0/\Fr.powB (many/seg)=true:=by
 rw [fitsB_parts] at h
 simp only [Bool.and_eq_true,decide_eq_true_eq] at h
 exact⟨h.1.1.1.1.1.1,h.1.1.1.1.1.2,h.1.1.1.1.2,h.1.1.1.2,h.1.1.2,h.1.2,h.2⟩
theorem mayW_len {ws:List Nat} {n:Nat} (h:Oc.mayB ws n=true):ws.length=(n+63)/64:=by
 unfold Oc.mayB at h
 simp only [Bool.and_eq_true,beq_iff_eq] at h
 exact h.1
theorem at_none {s:Sl} {i:Int} (h:s.mayB=true) (h2:s.slotB i=true) (h3:Oc.isB s.words i.toNat=false):s.atE i=6:=by unfold Sl.atE;rw [h,h2,h3];rfl
theorem at_ok {s:Sl} {i:Int} (h:s.mayB=true) (h2:s.slotB i=true) (h3:Oc.isB s.words i.toNat=true):s.atE i=0:=by unfold Sl.atE;rw [h,h2,h3];rfl
theorem atV_no {s:Sl} {i:Int} (h:s.atE i≠0):s.atV i=(0,0):=by unfold Sl.atV;rw [if_neg h]
theorem atV_ok {s:Sl} {i:Int} (h:s.atE i=0):s.atV i=s.pairAt i.toNat:=by unfold Sl.atV;rw [if_pos h]
theorem slot_iff {s:Sl} {i:Int}:s.slotB i=true↔0<=i/\i < s.keys.length:=by unfold Sl.slotB;simp
theorem may_yes {s:Sl} (h:s.mayB=true):s.formB=true/\s.zerosB s.keys.length=true/\s.countsB s.counts.length=true:=by
 unfold Sl.mayB at h
 simp only [Bool.and_eq_true] at h
 exact⟨h.1.1,h.1.2,h.2⟩
def AtPost (s:Sl) (i:Int) (w:World) (e:Ending) (w':World):Prop:=e=.returned (.tuple #[pv (s.atV i),.int .i64 (s.atE i)])/\Below w.heap.size w w'
theorem take_sameP (xs ys:List (Int×Int)) (k:Nat) (h1:k < xs.length) (h2:k < ys.length) (h:xs.take k=ys.take k) (he:xs.getD k (0,0)=ys.getD k (0,0)):xs.take (k+1)=ys.take (k+1):=by
 rw [List.take_succ_eq_append_getElem h1,List.take_succ_eq_append_getElem h2,h]
 simp only [List.getD,List.getElem?_eq_getElem h1,List.getElem?_eq_getElem h2,Option.getD_some] at he
 rw [he]
theorem not_sameP (xs ys:List (Int×Int)) (k:Nat) (he:¬ xs.getD k (0,0)=ys.getD k (0,0)):(xs==ys)=false:=by
 rw [beq_eq_false_iff_ne];rintro rfl;exact he rfl
def SamePJ (xs ys:List (Int×Int)) (w:World) (i:Value) (wr:World):Prop:=∃ k q:Nat,k<=xs.length/\i=.int .i64 k/\wr=w.drewN q/\xs.take k=ys.take k
end Go.Proofs.YtpeckljoannolaaGreatDoor

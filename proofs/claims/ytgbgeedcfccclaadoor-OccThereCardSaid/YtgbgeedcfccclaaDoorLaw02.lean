/- What the helpers of the laws of layer 2 (package shelfmarklaw02) return: at, alive. -/
import Derived.Test.YtgbgeedcfccclaaDoorOcc
import Derived.Test.YtgbgeedcfccclaaDoorWords
namespace Go.Proofs.YtgbgeedcfccclaaDoor
open Go.RowKit
set_option linter.unusedVariables false

def atB (n e want : Int) : Bool := e == 0 && n == want
set_option maxHeartbeats 400000 in
theorem l2At (n e want : Int) (w : World) : Calls Tryd.prog 16 #[.int .i64 n, .int .i64 e, .int .i64 want] w fun en w' => en = .returned (.bool (atB n e want)) ∧ w = w' := by
  have H := Lib.hid (show atB n e want = (e == 0 && n == want) from rfl)
  cases h1 : (e == 0)
  all_goals
    go_enter Tryd.func16, Tryd.ntmps16
    go_wp2
    go_ret
    rw [H.out, h1]
    exact ⟨rfl, rfl⟩

theorem lst_lit (w : World) (t : TypeId) (x : Nat) : Lst .u64 (w.alloc (.cells #[.int .u64 (x : Int)] t)) (some ⟨w.heap.size, 0, none⟩) (ints [x]) := by
  refine Or.inr ⟨w.heap.size, 0, rfl, by simp, fun i hi => ?_⟩
  have : i = 0 := by simp [ints] at hi; omega
  subst this
  simp [ints]

set_option maxHeartbeats 400000 in
theorem l2Alive (w : World) (hT : Tab w) : Calls Tryd.prog 17 #[] w fun e w' => e = .returned (.bool true) ∧ Below w.heap.size w w' := by
  have hb : Below w.heap.size w (w.alloc (.cells #[.int .u64 5] 22)) := (Below.refl _ _).alloc (Nat.le_refl _) _
  have HA : Hid (Lst .u64 (w.alloc (.cells #[.int .u64 5] 22)) (some ⟨w.heap.size, 0, none⟩) (ints [5])) := Lib.hid (lst_lit w _ 5)
  have HW : Hid (Wide [5]) := Lib.hid (fun i => by match i with | 0 => simp | k + 1 => simp)
  have h65 : [5].length ≤ 65536 := by simp
  have HT := Lib.hid hT
  clear hT
  have c1 : Oc.nextV [5] 4 1 = 2 := by decide
  have c2 : Oc.nextE [5] 4 1 = 0 := by decide
  have c3 : Oc.lastV [5] 4 2 = 0 := by decide
  have c4 : Oc.lastE [5] 4 2 = 0 := by decide
  have c5 : Oc.nthV [5] 4 1 = 2 := by decide
  have c6 : Oc.nthE [5] 4 1 = 0 := by decide
  have c7 : Oc.countV [5] 4 1 4 = 1 := by decide
  have c8 : Oc.countE [5] 4 1 4 = 0 := by decide
  have d1 : atB 2 0 2 = true := by decide
  have d2 : atB 0 0 0 = true := by decide
  have d3 : atB 1 0 1 = true := by decide
  go_enter Tryd.func17, Tryd.ntmps17
  go_wp2_with (first | (go_at_call 10; refine (oNext (some ⟨w.heap.size, 0, none⟩) 1 [5] _ _ _ HA.out HW.out h65 (HT.out.below hb)).mono ?_; rintro e w2 ⟨rfl, hb2⟩; replace HA := Lib.hid (HA.out.below hb2); replace hb := hb.trans (hb2.mono hb.size); clear hb2) | (go_at_call 11; refine (oLast (some ⟨w.heap.size, 0, none⟩) 1 [5] _ _ _ HA.out HW.out h65).mono ?_; rintro e w2 ⟨rfl, hb2⟩; replace HA := Lib.hid (HA.out.below hb2); replace hb := hb.trans (hb2.mono hb.size); clear hb2) | (go_at_call 12; refine (oNth (some ⟨w.heap.size, 0, none⟩) 1 [5] _ _ _ HA.out HW.out h65 (HT.out.below hb) (by decide)).mono ?_; rintro e w2 ⟨rfl, hb2⟩; replace HA := Lib.hid (HA.out.below hb2); replace hb := hb.trans (hb2.mono hb.size); clear hb2) | (go_at_call 9; refine (oCount (some ⟨w.heap.size, 0, none⟩) 1 [5] _ _ _ _ HA.out HW.out h65).mono ?_; rintro e w2 ⟨rfl, hb2⟩; replace HA := Lib.hid (HA.out.below hb2); replace hb := hb.trans (hb2.mono hb.size); clear hb2) | (go_at_call 16; refine (l2At _ _ _ _).mono ?_; rintro e w2 ⟨rfl, rfl⟩))
  go_ret
  exact ⟨rfl, hb⟩
end Go.Proofs.YtgbgeedcfccclaaDoor

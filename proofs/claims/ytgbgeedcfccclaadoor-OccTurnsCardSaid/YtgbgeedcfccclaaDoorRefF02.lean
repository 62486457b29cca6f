/- What the document's own With of layer 2 (package shelfmarkref02) returns: words in new memory. -/
import Derived.Test.YtgbgeedcfccclaaDoorRefE02
namespace Go.Proofs.YtgbgeedcfccclaaDoor
open Go.RowKit
set_option linter.unusedVariables false

def Oc.withW (ws : List Nat) (n s : Int) (is : Bool) : List Nat := if Oc.hasE ws n s = 0 then Oc.putW ws s.toNat is else []
def WithPost (ws : List Nat) (n s : Int) (is : Bool) (w : World) (e : Ending) (w' : World) : Prop :=
  ∃ v, e = .returned (.tuple #[v, .int .i64 (Oc.hasE ws n s)]) ∧ w'.ownsRow w.heap.size 22 1 v (Oc.withW ws n s is).length (vals (Oc.withW ws n s is)) ∧ Below w.heap.size w w'

set_option maxHeartbeats 400000 in
theorem r2With (a : Option Addr) (cap : Nat) (ws : List Nat) (n s : Int) (is : Bool) (w : World) (hl : Lst .u64 w a (ints ws)) (hw : Wide ws) (hn : ws.length ≤ 65536) :
    Calls Tryd.prog 24 #[.slice a ws.length cap, .int .i64 n, .int .i64 s, .bool is] w (WithPost ws n s is w) := by
  have HL := Lib.hid hl
  have HW := Lib.hid hw
  clear hl hw
  by_cases hc : Oc.hasE ws n s = 0
  · have HE := Lib.hid (show Oc.withW ws n s is = Oc.putW ws s.toNat is by unfold Oc.withW; rw [if_pos hc])
    have hs : ∃ m : Nat, s = m ∧ m < 64 * ws.length := by
      unfold Oc.hasE at hc
      split at hc
      · rename_i h
        obtain ⟨m, rfl, hm, hlen, _⟩ := Oc.chk_ok h
        split at hc
        · omega
        · exact ⟨s.toNat, by omega, by omega⟩
      · contradiction
    obtain ⟨m, rfl, hm⟩ := hs
    rw [Int.toNat_natCast] at HE
    have HC := Lib.hid hc
    go_enter Tryd.func24, Tryd.ntmps24
    go_wp2_with (first | (go_at_call 23; refine (r2Has a cap ws _ _ _ HL.out HW.out hn).mono ?_; rintro e w1 ⟨rfl, hb1⟩) | (go_at_call 39; refine (r2Put a cap ws m is _ (HL.out.below hb1) HW.out hn hm).mono ?_; rintro e w2 ⟨v, rfl, hown, hb2⟩))
    go_ret2
    refine ⟨v, by rw [HC.out]; rfl, ?_, hb1.trans (hb2.mono hb1.size)⟩
    rw [HE.out, putW_length]
    exact own_base hown hb1.size
  · have k1 : (Oc.hasE ws n s != 0) = true := by simp [hc]
    have HE := Lib.hid (show Oc.withW ws n s is = [] by unfold Oc.withW; rw [if_neg hc])
    clear hc
    go_enter Tryd.func24, Tryd.ntmps24
    go_wp2_with (go_at_call 23; refine (r2Has a cap ws _ _ _ HL.out HW.out hn).mono ?_; rintro e w1 ⟨rfl, hb1⟩)
    go_ret2
    refine ⟨.slice none 0 0, rfl, ?_, hb1⟩
    rw [HE.out]
    exact World.ownsRow_nil _ _ _ _
end Go.Proofs.YtgbgeedcfccclaaDoor

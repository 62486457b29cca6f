/- What the small functions under package occ return: wordsOf, lowest, math/bits' OnesCount64, TrailingZeros64, Len64; a word of a part. -/
import Derived.Test.YtgbgeedcfccclaaDoorRefA02
import Derived.Test.YtgbgeedcfccclaaDoorCut
import Derived.Laws.BitsAllLaws
import Derived.Shelf.Spec.TrailingZeros
import Derived.Deep.RegionWith
import Derived.Deep.QuietTactic
import Derived.BigQuiet
import Derived.WalkSmall
namespace Go.Proofs.YtgbgeedcfccclaaDoor
open Go.RowKit
set_option linter.unusedVariables false

set_option maxHeartbeats 400000 in
theorem oWordsOf (n : Int) (w : World) (h0 : 0 ≤ n) (h1 : n ≤ 4194304) : Calls Tryd.prog 28 #[.int .i64 n] w fun e w' => e = .returned (.int .i64 ((n + 63) / 64)) ∧ w = w' := by
  go_enter Tryd.func28, Tryd.ntmps28
  go_wp2
  go_ret
  exact ⟨by go_num, rfl⟩

theorem wrap_low (c : Int) : IntKind.u64.wrap (IntKind.u64.wrap (2 ^ min c.toNat 64) - 1) = (Oc.low c : Int) := by
  rw [IntKind.wrap_u64, IntKind.wrap_u64]
  unfold Oc.low
  have hp := Nat.two_pow_pos (min c.toNat 64)
  have hc : ((2 : Int) ^ min c.toNat 64) = ((2 ^ min c.toNat 64 : Nat) : Int) := by simp
  rw [hc]
  rcases Nat.lt_or_ge (min c.toNat 64) 64 with h | h
  · have : 2 ^ min c.toNat 64 < 2 ^ 64 := Nat.pow_lt_pow_right (by decide) h
    have h2 : (2 : Nat) ^ 64 = 18446744073709551616 := rfl
    generalize 2 ^ min c.toNat 64 = y at *
    omega
  · have : min c.toNat 64 = 64 := by omega
    rw [this]
    decide
set_option maxHeartbeats 400000 in
theorem oLow (c : Int) (w : World) : Calls Tryd.prog 41 #[.int .i64 c] w fun e w' => e = .returned (.int .u64 (Oc.low c : Int)) ∧ w = w' := by
  have H := Lib.hid (wrap_low c)
  go_enter Tryd.func41, Tryd.ntmps41
  go_wp2
  · go_ret
    have : Oc.low c = 0 := by unfold Oc.low; rw [show c.toNat = 0 from by omega]; rfl
    rw [this]
    exact ⟨rfl, rfl⟩
  · go_ret
    rw [H.out]
    exact ⟨rfl, rfl⟩

theorem ones_keys (x : Nat) (hx : x < 18446744073709551616) : ∃ y1 y2 y3 y4 y5 y6 : Nat,
    IntKind.u64.wrap (bits BinOp.and IntKind.u64 ((x : Int) / 2) 6148914691236517205 + bits BinOp.and IntKind.u64 (x : Int) 6148914691236517205) = (y1 : Int) ∧
    IntKind.u64.wrap (bits BinOp.and IntKind.u64 ((y1 : Int) / 4) 3689348814741910323 + bits BinOp.and IntKind.u64 (y1 : Int) 3689348814741910323) = (y2 : Int) ∧
    bits BinOp.and IntKind.u64 (IntKind.u64.wrap ((y2 : Int) / 16 + (y2 : Int))) 1085102592571150095 = (y3 : Int) ∧
    IntKind.u64.wrap ((y3 : Int) + (y3 : Int) / 256) = (y4 : Int) ∧ IntKind.u64.wrap ((y4 : Int) + (y4 : Int) / 65536) = (y5 : Int) ∧ IntKind.u64.wrap ((y5 : Int) + (y5 : Int) / 4294967296) = (y6 : Int) ∧
    y6 % 128 = (Oc.bitsOf x).length ∧ y6 < 9223372036854775808 ∧ (Oc.bitsOf x).length ≤ 64 := by
  obtain ⟨e5, e3, eF⟩ := Oc.masks
  have and_eq : ∀ a m : Nat, a < 18446744073709551616 → m < 18446744073709551616 → bits .and .u64 (a : Int) (m : Int) = ((a &&& m : Nat) : Int) := bits_and_u64_nat
  have hand : ∀ a m : Nat, (a &&& m) ≤ m := fun a m => Nat.and_le_right
  have sw := Oc.swar 8 x (by simpa using hx)
  rw [e5, e3, eF] at sw
  obtain ⟨o1, o2, o3⟩ := Oc.ones_eq x
  have w1 : Oc.S1 x 6148914691236517205 < 18446744073709551616 := by
    unfold Oc.S1; have := hand (x / 2) 6148914691236517205; have := hand x 6148914691236517205; omega
  have w2 : Oc.S2 (Oc.S1 x 6148914691236517205) 3689348814741910323 < 9223372036854775808 := by
    unfold Oc.S2; have := hand (Oc.S1 x 6148914691236517205 / 4) 3689348814741910323; have := hand (Oc.S1 x 6148914691236517205) 3689348814741910323; omega
  have g4 : Oc.G 8 x + Oc.G 8 x / 256 < 5000000000000000000 := by omega
  have key1 : ∀ z : Nat, (z : Int) / 2 = ((z / 2 : Nat) : Int) := fun z => by omega
  have key2 : ∀ z : Nat, (z : Int) / 4 = ((z / 4 : Nat) : Int) := fun z => by omega
  refine ⟨Oc.S1 x 6148914691236517205, Oc.S2 (Oc.S1 x 6148914691236517205) 3689348814741910323, Oc.G 8 x, Oc.G 8 x + Oc.G 8 x / 256, (Oc.G 8 x + Oc.G 8 x / 256) + (Oc.G 8 x + Oc.G 8 x / 256) / 65536,
    ((Oc.G 8 x + Oc.G 8 x / 256) + (Oc.G 8 x + Oc.G 8 x / 256) / 65536) + ((Oc.G 8 x + Oc.G 8 x / 256) + (Oc.G 8 x + Oc.G 8 x / 256) / 65536) / 4294967296, ?_, ?_, ?_, ?_, ?_, ?_, o1, ?_, o3⟩
  · have a1 := and_eq (x / 2) 6148914691236517205 (by omega) (by decide)
    have a2 := and_eq x 6148914691236517205 hx (by decide)
    rw [key1]
    refine (congrArg IntKind.u64.wrap (congr (congrArg HAdd.hAdd a1) a2)).trans ?_
    rw [IntKind.wrap_u64]
    unfold Oc.S1 at w1 ⊢
    omega
  · generalize Oc.S1 x 6148914691236517205 = y at *
    have a1 := and_eq (y / 4) 3689348814741910323 (by omega) (by decide)
    have a2 := and_eq y 3689348814741910323 w1 (by decide)
    rw [key2]
    refine (congrArg IntKind.u64.wrap (congr (congrArg HAdd.hAdd a1) a2)).trans ?_
    rw [IntKind.wrap_u64]
    unfold Oc.S2 at w2 ⊢
    omega
  · generalize Oc.S2 (Oc.S1 x 6148914691236517205) 3689348814741910323 = y at *
    have e : IntKind.u64.wrap ((y : Int) / 16 + (y : Int)) = ((y / 16 + y : Nat) : Int) := by rw [IntKind.wrap_u64]; omega
    rw [e]
    refine (and_eq (y / 16 + y) 1085102592571150095 (by omega) (by decide)).trans ?_
    rw [← sw]; rfl
  · generalize Oc.G 8 x = y at *
    rw [IntKind.wrap_u64]; omega
  · generalize Oc.G 8 x + Oc.G 8 x / 256 = y at *
    rw [IntKind.wrap_u64]; omega
  · generalize Oc.G 8 x + Oc.G 8 x / 256 = y at *
    rw [IntKind.wrap_u64]; omega
  · generalize Oc.G 8 x + Oc.G 8 x / 256 = y at *
    omega

theorem and127 (y : Nat) (hy : y < 9223372036854775808) : bits .and .i64 (wrap64 (y : Int)) 127 = ((y % 128 : Nat) : Int) := by
  have e : wrap64 (y : Int) = (y : Int) := IntWalk.wrap64_in _ (by omega)
  rw [e]
  have h1 : (BitVec.ofInt 64 (y : Int)).toNat = y := by
    rw [BitVec.ofInt_natCast, BitVec.toNat_ofNat]; exact Nat.mod_eq_of_lt (by omega)
  have h2 : (BitVec.ofInt 64 (127 : Int)).toNat = 127 := by decide
  show IntKind.i64.wrap ((BitVec.ofInt 64 (y : Int) &&& BitVec.ofInt 64 (127 : Int)).toNat : Int) = _
  rw [BitVec.toNat_and, h1, h2]
  have h3 := Nat.and_two_pow_sub_one_eq_mod y 7
  rw [show 2 ^ 7 - 1 = 127 from rfl, show 2 ^ 7 = 128 from rfl] at h3
  rw [h3]
  have hm : y % 128 < 128 := by omega
  generalize y % 128 = z at *
  exact IntWalk.i64_in _ (by omega)
set_option maxHeartbeats 1000000 in
theorem oOnes (x : Nat) (w : World) (hx : x < 18446744073709551616) : Calls Tryd.prog 29 #[.int .u64 (x : Int)] w fun e w' => e = .returned (.int .i64 ((Oc.bitsOf x).length : Int)) ∧ w = w' := by
  obtain ⟨y1, y2, y3, y4, y5, y6, k1, k2, k3, k4, k5, k6, k7, k8, k9⟩ := ones_keys x hx
  have k10 := and127 y6 k8
  rw [k7] at k10
  have K := Lib.hid (And.intro k1 (And.intro k2 (And.intro k3 (And.intro k4 (And.intro k5 (And.intro k6 k10))))))
  clear k1 k2 k3 k4 k5 k6 k7 k9 k10
  go_enter Tryd.func29, Tryd.ntmps29
  go_wp2
  go_ret
  obtain ⟨k1, k2, k3, k4, k5, k6, k10⟩ := K.out
  rw [k1, k2, k3, k4, k5, k6]
  rw [k10]
  exact ⟨rfl, rfl⟩

set_option maxHeartbeats 1000000 in
theorem oTz_core (x k idx : Nat) (w : World) (hx0 : ((x : Int) == 0) = false)
    (key : IntKind.u64.wrap (bits BinOp.and IntKind.u64 (x : Int) (IntKind.u64.wrap (-(x : Int))) * 285870213051353865) / 288230376151711744 = (idx : Int))
    (hi : idx < 64) (hk : k < 64) (hcell : w.cell? ⟨0, idx, none⟩ = some (.int .u8 k)) :
    Calls Tryd.prog 43 #[.int .u64 x] w fun e w' => e = .returned (.int .i64 k) ∧ w = w' := by
  go_enter Tryd.func43, Tryd.ntmps43
  go_wp2_with (simp only [key])
  go_ret
  exact ⟨rfl, rfl⟩
theorem oTz_zero (w : World) : Calls Tryd.prog 43 #[.int .u64 0] w fun e w' => e = .returned (.int .i64 64) ∧ w = w' := by
  go_enter Tryd.func43, Tryd.ntmps43
  go_wp2
  go_ret
  exact ⟨rfl, rfl⟩
/-- The table of math/bits as its initialiser lays it. -/
def Tab (w : World) : Prop := 0 < w.heap.size ∧ TabAt 0 Lib.deBruijn64tab w
theorem Tab.below {w w' : World} (h : Tab w) (hb : Below w.heap.size w w') : Tab w' :=
  ⟨Nat.lt_of_lt_of_le h.1 hb.size, fun j hj => (hb.cell (p := ⟨0, j, none⟩) h.1).trans (h.2 j hj)⟩
theorem Tab.keeps {w w' : World} {n : Nat} (h : Tab w) (hn : 0 < n) (hb : Below n w w') : Tab w' :=
  ⟨Nat.lt_of_lt_of_le h.1 hb.size, fun j hj => (hb.cell (p := ⟨0, j, none⟩) hn).trans (h.2 j hj)⟩
theorem oTz (x : Nat) (w : World) (hx : x < 18446744073709551616) (hT : Tab w) : Calls Tryd.prog 43 #[.int .u64 x] w fun e w' => e = .returned (.int .i64 (Lib.ctz 64 x)) ∧ w = w' := by
  by_cases hx0 : x = 0
  · subst hx0
    exact oTz_zero w
  · obtain ⟨hlow, hk⟩ := Lib.lowest_bit 64 x hx0 hx
    obtain ⟨hi, htab⟩ := Lib.deBruijn64_at _ hk
    have hcell := hT.2 _ hi
    rw [htab] at hcell
    exact oTz_core x _ _ w (by simp; omega) (tz64_key x _ hx hx0 hlow) hi hk hcell

end Go.Proofs.YtgbgeedcfccclaaDoor

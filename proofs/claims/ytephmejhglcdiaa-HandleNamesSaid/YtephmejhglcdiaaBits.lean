/- One bit of a number turned: by a sum, a difference. No program is named here. -/
import Derived.RowKit
namespace Go.Proofs.Ytephmejhglcdiaa
namespace Oc
/-- The number in which bit j is as told. -/
def putN (x j : Nat) (is : Bool) : Nat := if x.testBit j = is then x else if is then x + 2 ^ j else x - 2 ^ j

theorem ge_of_bit {x j : Nat} (h : x.testBit j = true) : 2 ^ j ≤ x := Nat.ge_two_pow_of_testBit h
theorem split3 (x j : Nat) : x = x / 2 ^ (j + 1) * 2 ^ (j + 1) + (x.testBit j).toNat * 2 ^ j + x % 2 ^ j := by
  have h1 := Nat.div_add_mod' x (2 ^ j)
  have h2 := Nat.div_add_mod' (x / 2 ^ j) 2
  have h3 : x / 2 ^ j / 2 = x / 2 ^ (j + 1) := by rw [Nat.div_div_eq_div_mul, Nat.pow_succ]
  have h4 : (x.testBit j).toNat = x / 2 ^ j % 2 := by
    rw [Nat.testBit_eq_decide_div_mod_eq]
    have : x / 2 ^ j % 2 = 0 ∨ x / 2 ^ j % 2 = 1 := by omega
    rcases this with h | h <;> rw [h] <;> rfl
  rw [h4, ← h3, Nat.pow_succ, ← Nat.mul_assoc, Nat.mul_right_comm, ← Nat.add_mul, h2, h1]
theorem add_lt {x j B : Nat} (h : x.testBit j = false) (hx : x < 2 ^ B) (hj : j < B) : x + 2 ^ j < 2 ^ B := by
  have h3 := split3 x j
  rw [h, Bool.toNat_false, Nat.zero_mul, Nat.add_zero] at h3
  have hm : x % 2 ^ j < 2 ^ j := Nat.mod_lt _ (Nat.two_pow_pos j)
  have hq : x / 2 ^ (j + 1) < 2 ^ (B - (j + 1)) := by
    apply Nat.div_lt_of_lt_mul
    rw [← Nat.pow_add, show j + 1 + (B - (j + 1)) = B from by omega]
    exact hx
  have hk : (x / 2 ^ (j + 1) + 1) * 2 ^ (j + 1) ≤ 2 ^ (B - (j + 1)) * 2 ^ (j + 1) := Nat.mul_le_mul_right _ hq
  rw [← Nat.pow_add, show B - (j + 1) + (j + 1) = B from by omega, Nat.add_mul, Nat.one_mul, Nat.pow_succ] at hk
  rw [Nat.pow_succ] at h3
  omega
theorem putN_lt {x j B : Nat} {is : Bool} (hx : x < 2 ^ B) (hj : j < B) : putN x j is < 2 ^ B := by
  unfold putN
  split
  · exact hx
  · rename_i h
    cases is
    · simp only [Bool.false_eq_true, if_false]; exact Nat.lt_of_le_of_lt (Nat.sub_le _ _) hx
    · rw [if_pos rfl]
      exact add_lt (by simpa using h) hx hj

theorem add_div {x j : Nat} (h : x.testBit j = false) : (x + 2 ^ j) / 2 ^ (j + 1) = x / 2 ^ (j + 1) := by
  have h3 := split3 x j
  rw [h, Bool.toNat_false, Nat.zero_mul, Nat.add_zero] at h3
  have hm : x % 2 ^ j < 2 ^ j := Nat.mod_lt _ (Nat.two_pow_pos j)
  have hp : 2 ^ (j + 1) = 2 * 2 ^ j := by rw [Nat.pow_succ, Nat.mul_comm]
  generalize x / 2 ^ (j + 1) = q at *
  generalize x % 2 ^ j = r at *
  rw [h3, Nat.add_assoc, Nat.mul_comm q, Nat.mul_add_div (Nat.two_pow_pos _), Nat.div_eq_of_lt (by omega), Nat.add_zero]
theorem add_bit {x j : Nat} (h : x.testBit j = false) (i : Nat) : (x + 2 ^ j).testBit i = if i = j then true else x.testBit i := by
  by_cases hij : i = j
  · subst hij
    rw [if_pos rfl, Nat.add_comm, Nat.testBit_two_pow_add_eq, h]; rfl
  · rw [if_neg hij]
    rcases Nat.lt_or_gt_of_ne hij with hlt | hgt
    · have a := Nat.testBit_mod_two_pow (x + 2 ^ j) j i
      have b := Nat.testBit_mod_two_pow x j i
      rw [Nat.add_mod_right] at a
      rw [a] at b
      simpa [hlt] using b
    · have a : ((x + 2 ^ j) / 2 ^ (j + 1)).testBit (i - (j + 1)) = (x + 2 ^ j).testBit (i - (j + 1) + (j + 1)) := Nat.testBit_div_two_pow _ _
      have b : (x / 2 ^ (j + 1)).testBit (i - (j + 1)) = x.testBit (i - (j + 1) + (j + 1)) := Nat.testBit_div_two_pow _ _
      rw [show i - (j + 1) + (j + 1) = i from by omega] at a b
      rw [← a, ← b, add_div h]
theorem sub_bit {x j : Nat} (h : x.testBit j = true) (i : Nat) : (x - 2 ^ j).testBit i = if i = j then false else x.testBit i := by
  have hge := ge_of_bit h
  have hy : (x - 2 ^ j).testBit j = false := by
    have := Nat.testBit_two_pow_add_eq (x - 2 ^ j) j
    rw [Nat.add_comm, Nat.sub_add_cancel hge, h] at this
    simpa using this.symm
  have := add_bit hy i
  rw [Nat.sub_add_cancel hge] at this
  by_cases hij : i = j
  · subst hij; rw [if_pos rfl]; exact hy
  · rw [if_neg hij] at this ⊢; exact this.symm
theorem putN_bit (x j : Nat) (is : Bool) (i : Nat) : (putN x j is).testBit i = if i = j then is else x.testBit i := by
  unfold putN
  split
  · rename_i h
    by_cases hij : i = j
    · subst hij; rw [if_pos rfl]; exact h
    · rw [if_neg hij]
  · rename_i h
    cases is
    · simp only [Bool.false_eq_true, if_false]
      exact sub_bit (by simpa using h) i
    · rw [if_pos rfl]
      exact add_bit (by simpa using h) i
end Oc
end Go.Proofs.Ytephmejhglcdiaa

/- The plain functions of layer 1 (frac), as data, and small facts on them: no program is named here. -/
import Derived.RowKit
import Derived.IntWalk
import Derived.Laws.BitsLemmas
namespace Go.Proofs.Ytephmejhglcdiaa
namespace Fr

def smallB (n : Int) : Bool := decide (-67108864 < n) && decide (n < 67108864)
def small4 (a b c d : Int) : Bool := smallB a && smallB b && smallB c && smallB d
def sgn (z : Int) : Int := if z < 0 then -1 else if 0 < z then 1 else 0
def crossE (a b c d : Int) : Int := if small4 a b c d then 0 else 10
def crossV (a b c d : Int) : Int := if small4 a b c d then sgn (a * d - b * c) else 0
def betBad (k n : Int) : Bool := decide (n < 1) || decide (k < 0) || decide (n < k)
def betE (a b k n : Int) : Int := if betBad k n then 2 else if small4 a b k n then 0 else 10
def betV (a b k n : Int) : Int := if betBad k n then 0 else if small4 a b k n then a * (n - k) + b * k else 0
def inB (z : Int) : Bool := decide (-9223372036854775808 ≤ z) && decide (z ≤ 9223372036854775807)
def addE (a b : Int) : Int := if inB (a + b) then 0 else 10
def addV (a b : Int) : Int := if inB (a + b) then a + b else 0
def mulE (a b : Int) : Int := if inB (a * b) then 0 else 10
def mulV (a b : Int) : Int := if inB (a * b) then a * b else 0
def lg (n : Int) : Int := (n.toNat.log2 : Int)
def powB (n : Int) : Bool := decide (0 < n) && (2 ^ n.toNat.log2 == n.toNat)
def downE (n : Int) : Int := if n < 1 then 2 else 0
def downV (n : Int) : Int := if n < 1 then 0 else lg n
def upV (n : Int) : Int := if n < 1 then 0 else if powB n then lg n else lg n + 1

theorem small_true {n : Int} (h : smallB n = true) : -67108864 < n ∧ n < 67108864 := by simpa [smallB] using h
theorem small_mk {n : Int} (h1 : -67108864 < n) (h2 : n < 67108864) : smallB n = true := by simp [smallB, h1, h2]
theorem small_not {n : Int} (h : ¬ (-67108864 < n ∧ n < 67108864)) : smallB n = false := by
  simp [smallB]; omega

theorem mul_small {a b : Int} (h1 : -67108864 < a) (h2 : a < 67108864) (h3 : -67108864 < b) (h4 : b < 67108864) :
    -4503599627370496 < a * b ∧ a * b < 4503599627370496 := by
  have h : (a * b).natAbs < 67108864 * 67108864 := by
    rw [Int.natAbs_mul]
    exact Nat.mul_lt_mul_of_lt_of_lt (by omega) (by omega)
  omega

theorem log2_half (n : Nat) (h : 2 ≤ n) : n.log2 = (n / 2).log2 + 1 := by
  have h0 : n ≠ 0 := by omega
  rw [Nat.log2_def]
  rw [if_pos h]

theorem lg_half (n : Int) (h : 2 ≤ n) : lg n = lg (n / 2) + 1 := by
  unfold lg
  have := log2_half n.toNat (by omega)
  rw [show (n / 2).toNat = n.toNat / 2 from by omega]
  omega
theorem lg_one : lg 1 = 0 := by decide
theorem lg_nonneg (n : Int) : 0 ≤ lg n := by unfold lg; omega
theorem lg_le (n : Int) (h : n ≤ 9223372036854775807) : lg n ≤ 62 := by
  unfold lg
  by_cases h0 : n.toNat = 0
  · rw [h0]; decide
  · have : n.toNat.log2 < 63 := (Nat.log2_lt h0).2 (by omega)
    omega
theorem lg_pow (n : Int) (h : 1 ≤ n) : 2 ^ (lg n).toNat ≤ n ∧ n < 2 * 2 ^ (lg n).toNat := by
  unfold lg
  have h0 : n.toNat ≠ 0 := by omega
  have a := (Nat.log2_eq_iff h0 (k := n.toNat.log2)).1 rfl
  rw [Int.toNat_natCast]
  have e1 : ((2 ^ n.toNat.log2 : Nat) : Int) = 2 ^ n.toNat.log2 := by simp
  have e2 : 2 ^ (n.toNat.log2 + 1) = 2 * 2 ^ n.toNat.log2 := by rw [Nat.pow_succ, Nat.mul_comm]
  omega

theorem log2_pred_pow (n : Nat) (h : 2 ≤ n) (hp : 2 ^ n.log2 = n) : (n - 1).log2 + 1 = n.log2 := by
  have hL : n.log2 ≠ 0 := by
    intro e; rw [e] at hp; omega
  have h1 : n - 1 ≠ 0 := by omega
  have : (n - 1).log2 = n.log2 - 1 := by
    rw [Nat.log2_eq_iff h1]
    have e : 2 ^ n.log2 = 2 * 2 ^ (n.log2 - 1) := by
      rw [← Nat.pow_succ', show (n.log2 - 1).succ = n.log2 from by omega]
    rw [show n.log2 - 1 + 1 = n.log2 from by omega]
    have := Nat.two_pow_pos (n.log2 - 1)
    omega
  omega
theorem log2_pred_not (n : Nat) (h : 2 ≤ n) (hp : 2 ^ n.log2 ≠ n) : (n - 1).log2 = n.log2 := by
  have h1 : n - 1 ≠ 0 := by omega
  have h0 : n ≠ 0 := by omega
  have a := (Nat.log2_eq_iff h0 (k := n.log2)).1 rfl
  rw [Nat.log2_eq_iff h1]
  omega
theorem powB_true {n : Int} (h : powB n = true) : 0 < n ∧ 2 ^ n.toNat.log2 = n.toNat := by simpa [powB] using h
theorem powB_false {n : Int} (h0 : 0 < n) (h : powB n = false) : 2 ^ n.toNat.log2 ≠ n.toNat := by
  simp [powB, h0] at h; exact h
theorem powB_not {n : Int} (h0 : n ≤ 0) : powB n = false := by
  simp [powB]; omega
theorem powB_one : powB 1 = true := by decide
theorem powB_pow (n : Int) (h0 : 0 < n) : powB n = ((2 : Int) ^ (lg n).toNat == n) := by
  unfold lg powB
  rw [Int.toNat_natCast]
  have e1 : ((2 ^ n.toNat.log2 : Nat) : Int) = 2 ^ n.toNat.log2 := by simp
  simp only [h0, decide_true, Bool.true_and]
  rw [Bool.eq_iff_iff, beq_iff_eq, beq_iff_eq, ← e1]
  omega
theorem upV_one : upV 1 = 0 := by decide
theorem upV_ceil (n : Int) (h : 2 ≤ n) : upV n = lg (n - 1) + 1 := by
  unfold upV lg
  rw [if_neg (by omega)]
  have e : (n - 1).toNat = n.toNat - 1 := by omega
  rw [e]
  cases hp : powB n
  · have := log2_pred_not n.toNat (by omega) (powB_false (by omega) hp)
    rw [this]; simp
  · have := log2_pred_pow n.toNat (by omega) (powB_true hp).2
    rw [← this]; simp
theorem pow_le62 (k : Nat) (h : k ≤ 62) : (2 : Int) ^ k ≤ 4611686018427387904 := by
  have : 2 ^ k ≤ 2 ^ 62 := Nat.pow_le_pow_right (by decide) h
  have e1 : ((2 ^ k : Nat) : Int) = 2 ^ k := by simp
  omega
theorem pow_pos (k : Nat) : (1 : Int) ≤ 2 ^ k := by
  have := Nat.two_pow_pos k
  have e1 : ((2 ^ k : Nat) : Int) = 2 ^ k := by simp
  omega
theorem pow_succ (k : Nat) : (2 : Int) ^ (k + 1) = 2 * 2 ^ k := by rw [Int.pow_succ, Int.mul_comm]

theorem bet_bad {a b k n : Int} (h : betBad k n = true) : betE a b k n = 2 ∧ betV a b k n = 0 := by simp [betE, betV, h]
theorem bet_no {a b k n : Int} (h : betBad k n = false) (hs : small4 a b k n = false) : betE a b k n = 10 ∧ betV a b k n = 0 := by simp [betE, betV, h, hs]
theorem bet_yes {a b k n : Int} (h : betBad k n = false) (hs : small4 a b k n = true) : betE a b k n = 0 ∧ betV a b k n = a * (n - k) + b * k := by simp [betE, betV, h, hs]

theorem inB_true {z : Int} (h : inB z = true) : -9223372036854775808 ≤ z ∧ z ≤ 9223372036854775807 := by simpa [inB] using h
theorem inB_mk {z : Int} (h : -9223372036854775808 ≤ z ∧ z ≤ 9223372036854775807) : inB z = true := by simp [inB, h]
theorem inB_not {z : Int} (h : ¬ (-9223372036854775808 ≤ z ∧ z ≤ 9223372036854775807)) : inB z = false := by simp [inB]; omega
theorem inB_false {z : Int} (h : inB z = false) : ¬ (-9223372036854775808 ≤ z ∧ z ≤ 9223372036854775807) := by
  intro a; rw [inB_mk a] at h; cases h
theorem add_yes {a b : Int} (h : inB (a + b) = true) : addE a b = 0 ∧ addV a b = a + b := by simp [addE, addV, h]
theorem add_no {a b : Int} (h : inB (a + b) = false) : addE a b = 10 ∧ addV a b = 0 := by simp [addE, addV, h]
theorem mul_yes {a b : Int} (h : inB (a * b) = true) : mulE a b = 0 ∧ mulV a b = a * b := by simp [mulE, mulV, h]
theorem mul_no {a b : Int} (h : inB (a * b) = false) : mulE a b = 10 ∧ mulV a b = 0 := by simp [mulE, mulV, h]
theorem down_yes {n : Int} (h : 1 ≤ n) : downE n = 0 ∧ downV n = lg n := by
  unfold downE downV; rw [if_neg (by omega), if_neg (by omega)]; exact ⟨rfl, rfl⟩
theorem down_no {n : Int} (h : n < 1) : downE n = 2 ∧ downV n = 0 := by simp [downE, downV, h]
theorem up_no {n : Int} (h : n < 1) : upV n = 0 := by simp [upV, h]

open Go.RowKit in
/-- A product that ran over, divided by one of its numbers, is not the other. -/
theorem mul_over (a b : Int) (a1 : -9223372036854775808 ≤ a) (a2 : a ≤ 9223372036854775807) (b1 : -9223372036854775808 ≤ b) (b2 : b ≤ 9223372036854775807) (h0 : b ≠ 0)
    (hr : inB (a * b) = false) (hx : ¬ (b = -1 ∧ a = -9223372036854775808)) : (wrap64 ((wrap64 (a * b)).tdiv b) == a) = false := by
  rw [beq_eq_false_iff_ne]
  intro he
  have hn := inB_false hr
  have hp : ∃ k : Int, wrap64 (a * b) = a * b + k * 18446744073709551616 ∧ k ≠ 0 ∧ -9223372036854775808 ≤ wrap64 (a * b) ∧ wrap64 (a * b) ≤ 9223372036854775807 := by
    refine ⟨-((a * b + 9223372036854775808) / 18446744073709551616), ?_, ?_, ?_, ?_⟩ <;> first | (simp only [wrap64]; omega) | omega
  obtain ⟨k, hk, hk0, hp1, hp2⟩ := hp
  generalize wrap64 (a * b) = p at *
  have hdm := Int.mul_tdiv_add_tmod p b
  have hm : (p.tmod b).natAbs < b.natAbs := by rw [Int.natAbs_tmod]; exact Nat.mod_lt _ (by omega)
  have hq := Int.natAbs_tdiv_le_natAbs p b
  generalize hqq : p.tdiv b = q at *
  generalize p.tmod b = r at *
  by_cases hin : q ≤ 9223372036854775807
  · have e : wrap64 q = q := by simp only [wrap64]; omega
    rw [e] at he
    subst he
    rw [Int.mul_comm] at hdm
    omega
  · have hq1 : q = 9223372036854775808 := by omega
    have hp3 : p = -9223372036854775808 := by omega
    have ha : a = -9223372036854775808 := by rw [← he, hq1]; simp only [wrap64]; decide
    subst hq1 hp3
    have hb : b = -1 := by omega
    exact hx ⟨hb, ha⟩
theorem mul_back (a b : Int) (h0 : b ≠ 0) : (a * b).tdiv b = a := Int.mul_tdiv_cancel a h0

theorem i64_and (a b : Int) (a1 : 0 ≤ a) (a2 : a ≤ 9223372036854775807) (b1 : 0 ≤ b) (b2 : b ≤ 9223372036854775807) : bits .and .i64 a b = ((a.toNat &&& b.toNat : Nat) : Int) := by
  show IntKind.i64.wrap ((BitVec.ofInt 64 a &&& BitVec.ofInt 64 b).toNat : Nat) = _
  have ea : (BitVec.ofInt 64 a).toNat = a.toNat := by rw [BitVec.toNat_ofInt]; omega
  have eb : (BitVec.ofInt 64 b).toNat = b.toNat := by rw [BitVec.toNat_ofInt]; omega
  rw [BitVec.toNat_and, ea, eb]
  have h : a.toNat &&& b.toNat ≤ a.toNat := Nat.and_le_left
  exact IntWalk.i64_in _ (by omega)

theorem pow2_iff (n : Nat) (h : n ≠ 0) : (n &&& (n - 1)) = 0 ↔ 2 ^ n.log2 = n := by
  rw [Nat.and_sub_one_eq_zero_iff_isPowerOfTwo h]
  constructor
  · rintro ⟨k, rfl⟩
    rw [Nat.log2_two_pow]
  · intro e
    exact ⟨n.log2, e.symm⟩

theorem powB_and (n : Int) (h1 : 1 ≤ n) (h2 : n ≤ 9223372036854775807) : powB n = (bits .and .i64 n (n - 1) == 0) := by
  rw [i64_and n (n - 1) (by omega) h2 (by omega) (by omega), show (n - 1).toNat = n.toNat - 1 from by omega]
  have := pow2_iff n.toNat (by omega)
  unfold powB
  rw [Bool.eq_iff_iff]
  simp only [Bool.and_eq_true, decide_eq_true_eq, beq_iff_eq]
  omega
end Fr
end Go.Proofs.Ytephmejhglcdiaa

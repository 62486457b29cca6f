/- Floats of 64 bits that hold whole numbers below 2^53 exactly: what is written is read again; sums, differences, products and comparisons of them are those of the numbers. No program is named here. -/
import Ieee.Arith
import GoSem.Op.Unary
namespace Go.Proofs.Ytemnhpkkmfgnaaa
namespace Flt
open Ieee

theorem log2_mul_pow (n k : Nat) (h : n ≠ 0) : (n * 2 ^ k).log2 = n.log2 + k := by
  have h1 : n * 2 ^ k ≠ 0 := Nat.mul_ne_zero h (Nat.pos_iff_ne_zero.1 (Nat.two_pow_pos k))
  rw [Nat.log2_eq_iff h1]
  have a := (Nat.log2_eq_iff h (k := n.log2)).1 rfl
  constructor
  · rw [Nat.pow_add]; exact Nat.mul_le_mul_right _ a.1
  · rw [show n.log2 + k + 1 = (n.log2 + 1) + k from by omega, Nat.pow_add]
    exact Nat.mul_lt_mul_of_pos_right a.2 (Nat.two_pow_pos k)

theorem cut_exact (s : Bool) (n d : Nat) (h : d ≤ n.log2 + 2) (q : Nat) (e : n = q * 2 ^ d) : Toward.even.cut s n d = q := by
  have hp : 0 < 2 ^ d := Nat.two_pow_pos d
  unfold Toward.cut
  simp only [Nat.min_eq_left h, Nat.one_shiftLeft]
  have h1 : n / 2 ^ d = q := by rw [e]; exact Nat.mul_div_cancel _ hp
  have h2 : n % 2 ^ d = 0 := by rw [e]; exact Nat.mul_mod_left _ _
  simp [h1, h2]

theorem kept_exact (s : Bool) (N k L : Nat) (hN : N ≠ 0) (hL : N.log2 = L) (h52 : L ≤ 52) :
    Toward.even.cut s ((N * 2 ^ k) <<< (-(k : Int) - ((L : Int) - 52)).toNat) (((L : Int) - 52) - -(k : Int)).toNat = N * 2 ^ (52 - L) := by
  by_cases h : k + L ≤ 52
  · have e1 : (-(k : Int) - ((L : Int) - 52)).toNat = 52 - L - k := by omega
    have e2 : (((L : Int) - 52) - -(k : Int)).toNat = 0 := by omega
    rw [e1, e2]
    refine cut_exact s _ 0 (Nat.zero_le _) _ ?_
    rw [Nat.shiftLeft_eq, Nat.mul_assoc, ← Nat.pow_add, Nat.pow_zero, Nat.mul_one]
    congr 2; omega
  · have e1 : (-(k : Int) - ((L : Int) - 52)).toNat = 0 := by omega
    have e2 : (((L : Int) - 52) - -(k : Int)).toNat = k + L - 52 := by omega
    rw [e1, e2]
    refine cut_exact s _ _ ?_ _ ?_
    · rw [Nat.shiftLeft_zero, log2_mul_pow _ _ hN, hL]; omega
    · rw [Nat.shiftLeft_zero, Nat.mul_assoc, ← Nat.pow_add]
      congr 2; omega

theorem dbl_least : double.leastPlace = -1074 := by decide
theorem dbl_binade : double.binade = 4503599627370496 := by decide
theorem dbl_inf : double.infRung = 9218868437227405312 := by decide
theorem dbl_sign : double.signWeight = 9223372036854775808 := by decide
theorem dbl_frac : double.fractionBits = 52 := rfl

/-- A word reads as the number N, exactly. -/
def Is (b : Nat) (s : Bool) (N : Nat) : Prop := ∃ k : Nat, double.read b = .number s (N * 2 ^ k) (-(k : Int))

theorem zero_is {b : Nat} {s : Bool} (k : Nat) (h : double.read b = .number s 0 (-(k : Int))) : Is b s 0 := ⟨k, by rw [Nat.zero_mul]; exact h⟩

theorem write_is (s : Bool) (N k : Nat) (h : N < 9007199254740992) : Is (double.nearest s (N * 2 ^ k) (-(k : Int))) s N := by
  by_cases h0 : N = 0
  · subst h0
    rw [Nat.zero_mul]
    refine zero_is 1074 ?_
    cases s <;> simp [Format.nearest, Format.word, Format.read, dbl_least, dbl_binade, dbl_sign]
  · have hm : N * 2 ^ k ≠ 0 := Nat.mul_ne_zero h0 (Nat.pos_iff_ne_zero.1 (Nat.two_pow_pos k))
    have hL := (Nat.log2_eq_iff h0 (k := N.log2)).1 rfl
    have h52 : N.log2 ≤ 52 := by
      have : N.log2 < 53 := (Nat.log2_lt h0).2 (by simpa using h)
      omega
    refine ⟨52 - N.log2, ?_⟩
    unfold Format.nearest
    rw [if_neg hm, log2_mul_pow _ _ h0, dbl_least, dbl_frac, dbl_binade, dbl_inf]
    generalize hg : N.log2 = L at *
    have e1 : max (-(k : Int) + ((L + k : Nat) : Int) - ((52 : Nat) : Int)) (-1074) = (L : Int) - 52 := by omega
    simp only [e1]
    rw [kept_exact s N k L h0 hg h52]
    have e2 : ((L : Int) - 52 - -1074).toNat = L + 1022 := by omega
    rw [e2]
    have hlo : 4503599627370496 ≤ N * 2 ^ (52 - L) := by
      have : 2 ^ L * 2 ^ (52 - L) ≤ N * 2 ^ (52 - L) := Nat.mul_le_mul_right _ hL.1
      rw [← Nat.pow_add, show L + (52 - L) = 52 from by omega] at this
      exact this
    have hhi : N * 2 ^ (52 - L) < 9007199254740992 := by
      have : N * 2 ^ (52 - L) < 2 ^ (L + 1) * 2 ^ (52 - L) := Nat.mul_lt_mul_of_pos_right hL.2 (Nat.two_pow_pos _)
      rw [← Nat.pow_add, show L + 1 + (52 - L) = 53 from by omega] at this
      exact this
    generalize N * 2 ^ (52 - L) = K at *
    have e3 : min ((L + 1022) * 4503599627370496 + K) 9218868437227405312 = (L + 1022) * 4503599627370496 + K := by omega
    rw [e3]
    have hr : (L + 1022) * 4503599627370496 + K < 9218868437227405312 := by omega
    unfold Format.read Format.word
    rw [dbl_sign, dbl_binade, dbl_inf, dbl_least]
    have e4 : (if s = true then 9223372036854775808 + ((L + 1022) * 4503599627370496 + K) else (L + 1022) * 4503599627370496 + K) % 9223372036854775808 = (L + 1022) * 4503599627370496 + K := by
      cases s <;> simp <;> omega
    have e5 : ((if s = true then 9223372036854775808 + ((L + 1022) * 4503599627370496 + K) else (L + 1022) * 4503599627370496 + K) / 9223372036854775808 % 2 == 1) = s := by
      cases s
      · have : ((L + 1022) * 4503599627370496 + K) / 9223372036854775808 = 0 := by omega
        simp [this]
      · have : (9223372036854775808 + ((L + 1022) * 4503599627370496 + K)) / 9223372036854775808 = 1 := by omega
        simp [this]
    simp only [e4, e5]
    rw [if_neg (by omega), if_pos hr]
    have e6 : 4503599627370496 + ((L + 1022) * 4503599627370496 + K) % 4503599627370496 = K := by omega
    have e7 : (-1074 : Int) + ((((L + 1022) * 4503599627370496 + K) / 4503599627370496 - 1 : Nat) : Int) = -((52 - L : Nat) : Int) := by omega
    rw [e6, e7]

/-- A word reads as the integer z (a zero of either sign). -/
def IsZ (b : Nat) (z : Int) : Prop := ∃ s N, Is b s N ∧ (if s then -(N : Int) else (N : Int)) = z

theorem ofInt_isZ (z : Int) (h : z.natAbs < 9007199254740992) : IsZ (double.nearest (decide (z < 0)) z.natAbs 0) z := by
  refine ⟨decide (z < 0), z.natAbs, ?_, ?_⟩
  · have := write_is (decide (z < 0)) z.natAbs 0 h
    simpa using this
  · by_cases hz : z < 0 <;> simp [hz] <;> omega

theorem mul_isZ {x y : Nat} {a b : Int} (hx : IsZ x a) (hy : IsZ y b) (h : (a * b).natAbs < 9007199254740992) : ∃ r, double.mul x y = some r ∧ IsZ r (a * b) := by
  obtain ⟨s, N, ⟨k, hk⟩, rfl⟩ := hx
  obtain ⟨t, M, ⟨j, hj⟩, rfl⟩ := hy
  refine ⟨_, by rw [Format.mul, hk, hj]; rfl, (s ^^ t), N * M, ?_, ?_⟩
  · have e : N * 2 ^ k * (M * 2 ^ j) = N * M * 2 ^ (k + j) := by rw [Nat.pow_add, Nat.mul_mul_mul_comm]
    have e2 : (-(k : Int) + -(j : Int)) = -((k + j : Nat) : Int) := by omega
    show Is (double.write (.number (s ^^ t) (N * 2 ^ k * (M * 2 ^ j)) (-(k : Int) + -(j : Int)))) _ _
    rw [e, e2]
    refine write_is _ _ _ ?_
    revert h
    cases s <;> cases t <;> simp [Int.natAbs_mul]
  · cases s <;> cases t <;> simp [Int.neg_mul, Int.mul_neg]

theorem signed_is (s : Bool) (N k K : Nat) (h : k ≤ K) : signed s (N * 2 ^ k) (-(k : Int) - -(K : Int)).toNat = (if s then -(N : Int) else N) * 2 ^ K := by
  have e : (-(k : Int) - -(K : Int)).toNat = K - k := by omega
  rw [e]
  unfold signed
  rw [Nat.shiftLeft_eq, Nat.mul_assoc, ← Nat.pow_add, show k + (K - k) = K from by omega]
  cases s <;> simp [Int.neg_mul]

theorem sum_isZ {d1 d2 : Datum} {s t : Bool} {N M k j : Nat} (h1 : d1 = .number s (N * 2 ^ k) (-(k : Int))) (h2 : d2 = .number t (M * 2 ^ j) (-(j : Int)))
    (h : ((if s then -(N : Int) else N) + (if t then -(M : Int) else M)).natAbs < 9007199254740992) :
    ∃ r, (d1.sum d2).map double.write = some r ∧ IsZ r ((if s then -(N : Int) else N) + (if t then -(M : Int) else M)) := by
  subst h1 h2
  refine ⟨_, rfl, ?_⟩
  have eb : min (-(k : Int)) (-(j : Int)) = -((max k j : Nat) : Int) := by omega
  rw [eb, signed_is s N k _ (by omega), signed_is t M j _ (by omega), ← Int.add_mul]
  generalize (if s then -(N : Int) else N) + (if t then -(M : Int) else M) = z at *
  have en : (z * 2 ^ (max k j)).natAbs = z.natAbs * 2 ^ (max k j) := by simp [Int.natAbs_mul, Int.natAbs_pow]
  rw [en]
  refine ⟨_, z.natAbs, write_is _ _ _ h, ?_⟩
  have hp : (0 : Int) < 2 ^ (max k j) := Int.pow_pos (by decide)
  by_cases hz : z = 0
  · subst hz; simp
  · have hne : z * 2 ^ (max k j) ≠ 0 := Int.mul_ne_zero hz (by omega)
    rw [if_neg hne]
    by_cases hn : z < 0
    · have : z * 2 ^ (max k j) < 0 := Int.mul_neg_of_neg_of_pos hn hp
      simp [this]; omega
    · have : ¬ z * 2 ^ (max k j) < 0 := by
        have := Int.mul_nonneg (a := z) (b := 2 ^ (max k j)) (by omega) (by omega)
        omega
      simp [this]; omega

theorem add_isZ {x y : Nat} {a b : Int} (hx : IsZ x a) (hy : IsZ y b) (h : (a + b).natAbs < 9007199254740992) : ∃ r, double.add x y = some r ∧ IsZ r (a + b) := by
  obtain ⟨s, N, ⟨k, hk⟩, rfl⟩ := hx
  obtain ⟨t, M, ⟨j, hj⟩, rfl⟩ := hy
  exact sum_isZ hk hj h

theorem sub_isZ {x y : Nat} {a b : Int} (hx : IsZ x a) (hy : IsZ y b) (h : (a - b).natAbs < 9007199254740992) : ∃ r, double.sub x y = some r ∧ IsZ r (a - b) := by
  obtain ⟨s, N, ⟨k, hk⟩, rfl⟩ := hx
  obtain ⟨t, M, ⟨j, hj⟩, rfl⟩ := hy
  have e : (if s then -(N : Int) else N) - (if t then -(M : Int) else M) = (if s then -(N : Int) else N) + (if (!t) then -(M : Int) else M) := by
    cases t <;> simp <;> omega
  rw [e] at h ⊢
  exact sum_isZ hk (by rw [hj]; rfl) h

theorem order_isZ {x y : Nat} {a b : Int} (hx : IsZ x a) (hy : IsZ y b) : double.order x y = some (compare a b) := by
  obtain ⟨s, N, ⟨k, hk⟩, rfl⟩ := hx
  obtain ⟨t, M, ⟨j, hj⟩, rfl⟩ := hy
  unfold Format.order
  rw [hk, hj]
  show some _ = some _
  have eb : min (-(k : Int)) (-(j : Int)) = -((max k j : Nat) : Int) := by omega
  rw [eb, signed_is s N k _ (by omega), signed_is t M j _ (by omega)]
  generalize (if s then -(N : Int) else N) = z
  generalize (if t then -(M : Int) else M) = u
  have hp : (0 : Int) < 2 ^ (max k j) := Int.pow_pos (by decide)
  congr 1
  show compareOfLessAndEq _ _ = compareOfLessAndEq _ _
  unfold compareOfLessAndEq
  have h1 : (z * 2 ^ (max k j) < u * 2 ^ (max k j)) ↔ z < u := Int.mul_lt_mul_right hp
  have h2 : (z * 2 ^ (max k j) = u * 2 ^ (max k j)) ↔ z = u := Int.mul_eq_mul_right_iff (by omega)
  simp only [h1, h2]

theorem zero_isZ : IsZ 0 0 := ⟨false, 0, zero_is 1074 (by rfl), rfl⟩

def body (neg : Bool) (rung : Nat) : Datum :=
  if rung < 4503599627370496 then .number neg rung (-1074)
  else if rung < 9218868437227405312 then .number neg (4503599627370496 + rung % 4503599627370496) (-1074 + ((rung / 4503599627370496 - 1 : Nat) : Int))
  else if rung = 9218868437227405312 then .infinity neg
  else .nan neg (rung - 9218868437227405312)
theorem read_body (b : Nat) : double.read b = body (b / 9223372036854775808 % 2 == 1) (b % 9223372036854775808) := by
  unfold Format.read body
  rw [dbl_sign, dbl_binade, dbl_inf, dbl_least]
theorem body_opp (neg : Bool) (r : Nat) : body (!neg) r = (body neg r).opposite := by
  unfold body
  split
  · rfl
  · split
    · rfl
    · split <;> rfl
theorem neg_read (b : Nat) : double.read (Go.Op.negFloat .f64 b) = (double.read b).opposite := by
  rw [read_body, read_body, ← body_opp]
  show body ((b ^^^ 2 ^ 63) / 2 ^ 63 % 2 == 1) ((b ^^^ 2 ^ 63) % 2 ^ 63) = body (!(b / 2 ^ 63 % 2 == 1)) (b % 2 ^ 63)
  have e1 : (b ^^^ 2 ^ 63) % 2 ^ 63 = b % 2 ^ 63 := by rw [Nat.xor_mod_two_pow]; simp
  have e2 : (b ^^^ 2 ^ 63) / 2 ^ 63 = b / 2 ^ 63 ^^^ 1 := by rw [Nat.xor_div_two_pow]
  have e3 : ((b / 2 ^ 63 ^^^ 1) % 2 == 1) = !(b / 2 ^ 63 % 2 == 1) := by
    have := Nat.xor_mod_two_pow (a := b / 2 ^ 63) (b := 1) (n := 1)
    have h2 : b / 2 ^ 63 % 2 = 0 ∨ b / 2 ^ 63 % 2 = 1 := by omega
    simp only [Nat.pow_one] at this
    rw [this]
    rcases h2 with h | h <;> rw [h] <;> rfl
  rw [e1, e2, e3]
theorem neg_isZ {b : Nat} {z : Int} (h : IsZ b z) : IsZ (Go.Op.negFloat .f64 b) (-z) := by
  obtain ⟨s, N, ⟨k, hk⟩, rfl⟩ := h
  refine ⟨!s, N, ⟨k, by rw [neg_read, hk]; rfl⟩, ?_⟩
  cases s <;> simp
end Flt
end Go.Proofs.Ytemnhpkkmfgnaaa

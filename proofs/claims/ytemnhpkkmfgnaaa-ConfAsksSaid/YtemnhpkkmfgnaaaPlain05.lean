/- Plain facts of layer 5: capacities are segments doubled; windows' widths. -/
import Derived.Test.YtemnhpkkmfgnaaaConfI
namespace Go.Proofs.Ytemnhpkkmfgnaaa
set_option linter.unusedVariables false

theorem pow_of {n : Int} (h : Fr.powB n = true) : ∃ a : Nat, n = 2 ^ a ∧ (a : Int) = Fr.lg n := by
  have h1 := (Fr.powB_true h).1
  have h2 := Fr.powB_pow n h1
  rw [h] at h2
  have h3 : (2 : Int) ^ (Fr.lg n).toNat = n := by simpa using h2.symm
  have h4 := Fr.lg_nonneg n
  exact ⟨(Fr.lg n).toNat, h3.symm, by omega⟩
theorem lg_two (a : Nat) : Fr.lg (2 ^ a) = a := by
  unfold Fr.lg
  have e : ((2 : Int) ^ a).toNat = 2 ^ a := by
    have : ((2 ^ a : Nat) : Int) = (2 : Int) ^ a := by simp
    rw [← this]; exact Int.toNat_natCast _
  rw [e, Nat.log2_two_pow]
theorem powB_two (a : Nat) : Fr.powB (2 ^ a) = true := by
  have h0 := Fr.pow_pos a
  rw [Fr.powB_pow _ (by omega), lg_two]
  simp
theorem two_le {a b : Nat} (h : (2 : Int) ^ a ≤ 2 ^ b) : a ≤ b := by
  have e1 : ((2 ^ a : Nat) : Int) = (2 : Int) ^ a := by simp
  have e2 : ((2 ^ b : Nat) : Int) = (2 : Int) ^ b := by simp
  have : 2 ^ a ≤ 2 ^ b := by omega
  exact (Nat.pow_le_pow_iff_right (by decide)).1 this
theorem two_mono {a b : Nat} (h : a ≤ b) : (2 : Int) ^ a ≤ 2 ^ b := by
  have e1 : ((2 ^ a : Nat) : Int) = (2 : Int) ^ a := by simp
  have e2 : ((2 ^ b : Nat) : Int) = (2 : Int) ^ b := by simp
  have : 2 ^ a ≤ 2 ^ b := Nat.pow_le_pow_right (by decide) h
  omega
namespace Cf
/-- A capacity is its segment, doubled as often as it is high. -/
theorem wide_of {c : Cf} {size : Int} (hs : Fr.powB c.seg = true) (hp : Fr.powB size = true) (hle : c.seg ≤ size) : c.wide (c.high size) = size := by
  obtain ⟨b, hb, _⟩ := pow_of hs
  obtain ⟨a, ha, _⟩ := pow_of hp
  have hab : b ≤ a := two_le (by rw [← hb, ← ha]; exact hle)
  obtain ⟨d, rfl⟩ : ∃ d, a = b + d := ⟨a - b, by omega⟩
  have e : size = c.seg * 2 ^ d := by rw [ha, hb, Int.pow_add]
  have hb0 := Fr.pow_pos b
  unfold wide high
  rw [e, Int.mul_ediv_cancel_left _ (by omega), lg_two, Int.toNat_natCast]
theorem wide_le {c : Cf} {h k : Int} (h0 : 0 ≤ c.seg) (hk : h ≤ k) : c.wide h ≤ c.wide k := by
  unfold wide
  exact Int.mul_le_mul_of_nonneg_left (two_mono (by omega)) h0
/-- What is known where High, and the window, are right. -/
structure Ok (c : Cf) (size h n : Int) : Prop where
  may : c.May
  is : c.Is size
  h0 : 0 ≤ h
  h1 : h ≤ c.high size
  n0 : 0 ≤ n
  n1 : n ≤ c.wide h
theorem ok_iff (c : Cf) (size h n : Int) : c.okB size h n = true ↔ c.Ok size h n := by
  unfold okB inB
  simp only [Bool.and_eq_true, decide_eq_true_eq, may_iff, is_iff]
  exact ⟨fun ⟨⟨a, b⟩, ⟨d, e⟩, f, g⟩ => ⟨a, b, d, e, f, g⟩, fun ⟨a, b, d, e, f, g⟩ => ⟨⟨a, b⟩, ⟨d, e⟩, f, g⟩⟩
theorem ok_ask {c : Cf} {size h n : Int} (hk : c.okB size h n = true) : c.askE size h n = 0 ∧ c.cwV size h n = c.high size := by
  unfold cwV
  rw [hk]
  refine ⟨?_, rfl⟩
  unfold okB at hk
  simp only [Bool.and_eq_true] at hk
  unfold askE
  rw [hk.1.1, hk.1.2, hk.2]; rfl
theorem ok_no {c : Cf} {size h n : Int} (hk : c.okB size h n = false) : (c.askE size h n != 0) = true ∧ c.cwV size h n = 0 ∧ c.fullV size h n = false ∧ c.sparseV size h n = false := by
  unfold cwV fullV sparseV
  rw [hk]
  refine ⟨?_, rfl, rfl, rfl⟩
  unfold okB at hk
  unfold askE
  cases hm : c.mayB
  · rfl
  · cases hi : c.isB size
    · rfl
    · cases hn : c.inB size h n
      · rfl
      · rw [hm, hi, hn] at hk; cases hk
/-- Bounds of the numbers that Full and Sparse reckon with. -/
structure Bd (c : Cf) (size h n : Int) : Prop where
  hi0 : 0 ≤ c.high size
  hi1 : c.high size ≤ 14
  w4 : 4 ≤ c.wide h
  w1 : c.wide h ≤ size
  s1 : size ≤ 65535
  s0 : 4 ≤ size
  p0 : 0 ≤ c.high size * c.den
  p1 : c.high size * c.den ≤ 896
  u0 : 0 ≤ c.lh * (c.high size - h)
  u1 : c.lh * (c.high size - h) ≤ 896
  v0 : 0 ≤ c.rh * h
  v1 : c.rh * h ≤ 896
  l0 : 0 ≤ c.ll * (c.high size - h)
  l1 : c.ll * (c.high size - h) ≤ 896
  m0 : 0 ≤ c.rl * h
  m1 : c.rl * h ≤ 896
theorem mul_bd {a b A B : Int} (a0 : 0 ≤ a) (a1 : a ≤ A) (b0 : 0 ≤ b) (b1 : b ≤ B) : 0 ≤ a * b ∧ a * b ≤ A * B :=
  ⟨Int.mul_nonneg a0 b0, Int.mul_le_mul a1 b1 b0 (by omega)⟩
theorem Ok.bd {c : Cf} {size h n : Int} (k : c.Ok size h n) : c.Bd size h n := by
  have SB := k.may.size_bd k.is
  have HB := c.high_bd size SB.1 k.may.sizes.seg1 SB.2
  have s1 := k.may.sizes.seg1
  have s2 := k.may.sizes.seg2
  have d1 := k.may.sizes.den1
  have d2 := k.may.sizes.den2
  have e1 := k.may.dens.ll0
  have e2 := k.may.dens.llrl
  have e3 := k.may.dens.rhlh
  have e4 := k.may.dens.lhd
  have e5 := k.may.dens.rld
  have e6 := k.may.dens.rh1 k.may.sizes
  have h0 := k.h0
  have h1 := k.h1
  have W := c.wide_bd (h := h) s1 s2 (by omega)
  have W1 := wide_of k.may.sizes.segp k.is.pow SB.1
  have W2 := c.wide_le (h := h) (k := c.high size) (by omega) h1
  have q1 := mul_bd (a := c.high size) (b := c.den) (A := 14) (B := 64) HB.1 HB.2 (by omega) d2
  have q2 := mul_bd (a := c.lh) (b := c.high size - h) (A := 64) (B := 14) (by omega) (by omega) (by omega) (by omega)
  have q3 := mul_bd (a := c.rh) (b := h) (A := 64) (B := 14) (by omega) (by omega) (by omega) (by omega)
  have q4 := mul_bd (a := c.ll) (b := c.high size - h) (A := 64) (B := 14) (by omega) (by omega) (by omega) (by omega)
  have q5 := mul_bd (a := c.rl) (b := h) (A := 64) (B := 14) (by omega) (by omega) (by omega) (by omega)
  exact ⟨HB.1, HB.2, W.1, by omega, SB.2, by omega, q1.1, by omega, q2.1, by omega, q3.1, by omega, q4.1, by omega, q5.1, by omega⟩
theorem full_flat {c : Cf} {size h n : Int} (k : c.Ok size h n) (h0 : c.high size = 0) : c.fullV size h n = decide (n * c.den ≤ size * c.rh) := by
  have hk := (ok_iff c size h n).2 k
  have SB := k.may.size_bd k.is
  have W1 := wide_of k.may.sizes.segp k.is.pow SB.1
  have e : h = c.high size := by have := k.h0; have := k.h1; omega
  unfold fullV manyB
  rw [hk, if_pos h0, e, W1]; rfl
theorem full_high {c : Cf} {size h n : Int} (k : c.Ok size h n) (h0 : c.high size ≠ 0) : c.fullV size h n = decide (n * (c.high size * c.den) ≤ c.wide h * (c.lh * (c.high size - h) + c.rh * h)) := by
  have hk := (ok_iff c size h n).2 k
  unfold fullV manyB
  rw [hk, if_neg h0, Int.mul_assoc]; rfl
theorem sparse_least {c : Cf} {size h n : Int} (k : c.Ok size h n) (h0 : size = c.least) : c.sparseV size h n = true := by
  have hk := (ok_iff c size h n).2 k
  unfold sparseV fewB
  rw [hk, h0]; simp
theorem sparse_high {c : Cf} {size h n : Int} (k : c.Ok size h n) (h0 : ¬ size = c.least) : c.sparseV size h n = decide ((c.ll * (c.high size - h) + c.rl * h) * c.wide h ≤ c.high size * c.den * (n + 1)) := by
  have hk := (ok_iff c size h n).2 k
  unfold sparseV fewB
  rw [hk, show (size == c.least) = false from by simpa using h0, Int.mul_comm (c.wide h), Int.mul_assoc (n + 1), Int.mul_comm (n + 1)]; rfl
theorem high_pos {c : Cf} {size h n : Int} (k : c.Ok size h n) (h0 : ¬ size = c.least) : 1 ≤ c.high size := by
  have b := k.bd
  have SB := k.may.size_bd k.is
  have W1 := wide_of k.may.sizes.segp k.is.pow SB.1
  have h1 := k.is.lo
  have h2 := k.may.sizes.least1
  by_cases e : c.high size = 0
  · rw [e] at W1
    unfold wide at W1
    simp at W1
    omega
  · have := b.hi0
    omega
end Cf
end Go.Proofs.Ytemnhpkkmfgnaaa

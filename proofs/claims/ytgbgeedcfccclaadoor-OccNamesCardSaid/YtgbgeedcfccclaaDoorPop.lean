/- How many bits of a word are set, as math/bits.OnesCount64 reckons it: byte by byte. No program is named here. -/
import Derived.RowKit
namespace Go.Proofs.YtgbgeedcfccclaaDoor
namespace Oc

def bitsN (n x : Nat) : List Nat := (List.range' 0 n).filter x.testBit
def bitsOf (x : Nat) : List Nat := bitsN 64 x

theorem and_split (k a b M c : Nat) (hb : b < 2 ^ k) (hc : c < 2 ^ k) : (2 ^ k * a + b) &&& (2 ^ k * M + c) = 2 ^ k * (a &&& M) + (b &&& c) := by
  apply Nat.eq_of_testBit_eq
  intro i
  rw [Nat.testBit_and, Nat.testBit_two_pow_mul_add _ hb, Nat.testBit_two_pow_mul_add _ hc, Nat.testBit_two_pow_mul_add _ (Nat.and_lt_two_pow _ hc)]
  split <;> simp [Nat.testBit_and]

def S1 (x m : Nat) : Nat := (x / 2 &&& m) + (x &&& m)
def S2 (x m : Nat) : Nat := (x / 4 &&& m) + (x &&& m)
def S3 (x m : Nat) : Nat := (x / 16 + x) &&& m
def m5 : Nat → Nat | 0 => 0 | n + 1 => 256 * m5 n + 85
def m3 : Nat → Nat | 0 => 0 | n + 1 => 256 * m3 n + 51
def mF : Nat → Nat | 0 => 0 | n + 1 => 256 * mF n + 15

theorem and85 (t u : Nat) (h : u < 128) : (128 * t + u) &&& 85 = u &&& 85 := by
  have := and_split 7 t u 0 85 h (by decide)
  simpa using this
theorem and51 (t u : Nat) (h : u < 64) : (64 * t + u) &&& 51 = u &&& 51 := by
  have := and_split 6 t u 0 51 h (by decide)
  simpa using this
theorem and15 (t u : Nat) : (16 * t + u) &&& 15 = u &&& 15 := by
  have h1 := Nat.and_two_pow_sub_one_eq_mod (16 * t + u) 4
  have h2 := Nat.and_two_pow_sub_one_eq_mod u 4
  have e : 2 ^ 4 - 1 = 15 := rfl
  rw [e] at h1 h2
  rw [h1, h2]
  omega
theorem S1_step (a b M : Nat) (h : b < 256) : S1 (256 * a + b) (256 * M + 85) = 256 * S1 a M + S1 b 85 := by
  unfold S1
  have e1 : (256 * a + b) / 2 = 2 ^ 8 * (a / 2) + (128 * (a % 2) + b / 2) := by omega
  have h1 := and_split 8 (a / 2) (128 * (a % 2) + b / 2) M 85 (by omega) (by decide)
  have h2 := and_split 8 a b M 85 (by omega) (by decide)
  rw [and85 _ _ (by omega)] at h1
  rw [e1]
  simp only [show (2 : Nat) ^ 8 = 256 from rfl] at h1 h2 ⊢
  rw [h1, h2]
  omega
theorem S2_step (a b M : Nat) (h : b < 256) : S2 (256 * a + b) (256 * M + 51) = 256 * S2 a M + S2 b 51 := by
  unfold S2
  have e1 : (256 * a + b) / 4 = 2 ^ 8 * (a / 4) + (64 * (a % 4) + b / 4) := by omega
  have h1 := and_split 8 (a / 4) (64 * (a % 4) + b / 4) M 51 (by omega) (by decide)
  have h2 := and_split 8 a b M 51 (by omega) (by decide)
  rw [and51 _ _ (by omega)] at h1
  rw [e1]
  simp only [show (2 : Nat) ^ 8 = 256 from rfl] at h1 h2 ⊢
  rw [h1, h2]
  omega
theorem S3_step (a b M : Nat) (h : b ≤ 68) (ha : a % 16 ≤ 4) : S3 (256 * a + b) (256 * M + 15) = 256 * S3 a M + S3 b 15 := by
  unfold S3
  have e1 : (256 * a + b) / 16 + (256 * a + b) = 2 ^ 8 * (a / 16 + a) + (16 * (a % 16) + (b / 16 + b)) := by omega
  have h1 := and_split 8 (a / 16 + a) (16 * (a % 16) + (b / 16 + b)) M 15 (by omega) (by decide)
  rw [and15] at h1
  rw [e1]
  simp only [show (2 : Nat) ^ 8 = 256 from rfl] at h1 ⊢
  rw [h1]

/-- Of one byte: all 256 of them. -/
theorem byte_le : ∀ b, b < 256 → S1 b 85 < 256 ∧ S2 (S1 b 85) 51 ≤ 68 ∧ S2 (S1 b 85) 51 % 16 ≤ 4 ∧ S3 (S2 (S1 b 85) 51) 15 = (bitsN 8 b).length ∧ (bitsN 8 b).length ≤ 8 := by decide +kernel

def G : Nat → Nat → Nat | 0, _ => 0 | n + 1, x => 256 * G n (x / 256) + (bitsN 8 (x % 256)).length
theorem low16 : ∀ (n x : Nat), x < 256 ^ n → S2 (S1 x (m5 n)) (m3 n) % 16 ≤ 4
  | 0, x, h => by have : x = 0 := by simpa using h
                  subst this; decide
  | n + 1, x, h => by
    have hx : x = 256 * (x / 256) + x % 256 := by omega
    obtain ⟨h1, _, h3, _, _⟩ := byte_le (x % 256) (by omega)
    rw [hx, m5, m3, S1_step _ _ _ (by omega), S2_step _ _ _ h1]
    omega
theorem swar : ∀ (n x : Nat), x < 256 ^ n → S3 (S2 (S1 x (m5 n)) (m3 n)) (mF n) = G n x
  | 0, x, h => by have : x = 0 := by simpa using h
                  subst this; rfl
  | n + 1, x, h => by
    have hx : x = 256 * (x / 256) + x % 256 := by omega
    have hq : x / 256 < 256 ^ n := by rw [Nat.pow_succ] at h; omega
    obtain ⟨h1, h2, h3, h4, _⟩ := byte_le (x % 256) (by omega)
    have e : S3 (S2 (S1 (256 * (x / 256) + x % 256) (m5 (n + 1))) (m3 (n + 1))) (mF (n + 1)) = G (n + 1) x := by
      rw [m5, m3, mF, S1_step _ _ _ (by omega), S2_step _ _ _ h1, S3_step _ _ _ h2 (low16 n _ hq), swar n _ hq, h4]; rfl
    rwa [← hx] at e

theorem bitsN_split (n x : Nat) : (bitsN (8 + n) x).length = (bitsN 8 (x % 256)).length + (bitsN n (x / 256)).length := by
  unfold bitsN
  have e : List.range' 0 (8 + n) = List.range' 0 8 ++ (List.range' 0 n).map (8 + ·) := by
    rw [List.map_add_range', ← List.range'_append_1]
  rw [e, List.filter_append, List.length_append, List.filter_map, List.length_map]
  congr 1
  · congr 1
    apply List.filter_congr
    intro j hj
    have hj8 : j < 8 := by simpa using hj
    have := Nat.testBit_mod_two_pow x 8 j
    simp only [show (2 : Nat) ^ 8 = 256 from rfl, hj8, decide_true, Bool.true_and] at this
    exact this.symm
  · congr 1
    apply List.filter_congr
    intro j _
    have : (x / 2 ^ 8).testBit j = x.testBit (j + 8) := Nat.testBit_div_two_pow _ _
    simp only [show (2 : Nat) ^ 8 = 256 from rfl] at this
    rw [this, Function.comp, Nat.add_comm]

theorem masks : m5 8 = 6148914691236517205 ∧ m3 8 = 3689348814741910323 ∧ mF 8 = 1085102592571150095 := by decide

/-- The eight counts, and their sum. -/
theorem eight (x : Nat) : ∃ p0 p1 p2 p3 p4 p5 p6 p7 : Nat, (p0 ≤ 8 ∧ p1 ≤ 8 ∧ p2 ≤ 8 ∧ p3 ≤ 8 ∧ p4 ≤ 8 ∧ p5 ≤ 8 ∧ p6 ≤ 8 ∧ p7 ≤ 8) ∧
    G 8 x = p0 + 256 * (p1 + 256 * (p2 + 256 * (p3 + 256 * (p4 + 256 * (p5 + 256 * (p6 + 256 * p7)))))) ∧ (bitsOf x).length = p0 + p1 + p2 + p3 + p4 + p5 + p6 + p7 := by
  have hp : ∀ y, (bitsN 8 (y % 256)).length ≤ 8 := fun y => (byte_le (y % 256) (by omega)).2.2.2.2
  refine ⟨_, _, _, _, _, _, _, _, ⟨hp x, hp (x / 256), hp (x / 256 / 256), hp (x / 256 / 256 / 256), hp (x / 256 / 256 / 256 / 256), hp (x / 256 / 256 / 256 / 256 / 256), hp (x / 256 / 256 / 256 / 256 / 256 / 256), hp (x / 256 / 256 / 256 / 256 / 256 / 256 / 256)⟩, ?_, ?_⟩
  · simp only [G]; omega
  · have e0 : (bitsN 0 (x / 256 / 256 / 256 / 256 / 256 / 256 / 256 / 256)).length = 0 := rfl
    have s := bitsN_split
    have c1 := s 56 x
    have c2 := s 48 (x / 256)
    have c3 := s 40 (x / 256 / 256)
    have c4 := s 32 (x / 256 / 256 / 256)
    have c5 := s 24 (x / 256 / 256 / 256 / 256)
    have c6 := s 16 (x / 256 / 256 / 256 / 256 / 256)
    have c7 := s 8 (x / 256 / 256 / 256 / 256 / 256 / 256)
    have c8 := s 0 (x / 256 / 256 / 256 / 256 / 256 / 256 / 256)
    simp only [Nat.reduceAdd] at c1 c2 c3 c4 c5 c6 c7 c8
    unfold bitsOf
    omega

def ones (y : Nat) : Nat := let y4 := y + y / 256; let y5 := y4 + y4 / 65536; let y6 := y5 + y5 / 4294967296; y6 % 128
theorem ones_eq (x : Nat) : ones (G 8 x) = (bitsOf x).length ∧ G 8 x < 4611686018427387904 ∧ (bitsOf x).length ≤ 64 := by
  obtain ⟨p0, p1, p2, p3, p4, p5, p6, p7, ⟨h0, h1, h2, h3, h4, h5, h6, h7⟩, hG, hL⟩ := eight x
  rw [hG, hL]
  refine ⟨?_, by omega, by omega⟩
  simp only [ones]
  have a4 : ∀ y, y = p0 + 256 * (p1 + 256 * (p2 + 256 * (p3 + 256 * (p4 + 256 * (p5 + 256 * (p6 + 256 * p7)))))) → y + y / 256 = (p0 + p1) + 256 * ((p1 + p2) + 256 * ((p2 + p3) + 256 * ((p3 + p4) + 256 * ((p4 + p5) + 256 * ((p5 + p6) + 256 * ((p6 + p7) + 256 * p7)))))) := by intro y hy; omega
  rw [a4 _ rfl]
  have a5 : ∀ y, y = (p0 + p1) + 256 * ((p1 + p2) + 256 * ((p2 + p3) + 256 * ((p3 + p4) + 256 * ((p4 + p5) + 256 * ((p5 + p6) + 256 * ((p6 + p7) + 256 * p7)))))) → ∃ r s, y + y / 65536 = (p0 + p1 + p2 + p3) + 256 * r + 4294967296 * ((p4 + p5 + p6 + p7) + 256 * s) ∧ r < 16777216 / 2 := by
    intro y hy
    refine ⟨(p1 + p2 + p3 + p4) + 256 * ((p2 + p3 + p4 + p5) + 256 * (p3 + p4 + p5 + p6)), (p5 + p6 + p7) + 256 * ((p6 + p7) + 256 * p7), by omega, by omega⟩
  obtain ⟨r, s, hr, hlt⟩ := a5 _ rfl
  rw [hr]
  clear a4 a5 hr hG hL
  have hA : p0 + p1 + p2 + p3 ≤ 32 := by omega
  have hB : p4 + p5 + p6 + p7 ≤ 32 := by omega
  rw [show p0 + p1 + p2 + p3 + p4 + p5 + p6 + p7 = (p0 + p1 + p2 + p3) + (p4 + p5 + p6 + p7) from by omega]
  generalize p0 + p1 + p2 + p3 = A at *
  generalize p4 + p5 + p6 + p7 = B at *
  have e : (A + 256 * r + 4294967296 * (B + 256 * s)) / 4294967296 = B + 256 * s := by omega
  rw [e]
  omega
end Oc
end Go.Proofs.YtgbgeedcfccclaaDoor

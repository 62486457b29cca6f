/- The plain functions of layer 7 (spread), as data, and facts on them: no program is named here. -/
import Derived.Test.YtmmkaabefofdeaaDoorM01
namespace Go.Proofs.YtmmkaabefofdeaaDoor
set_option linter.unusedVariables false

namespace Sp
def mayB (n f t : Int) : Bool := decide (0 ≤ f) && decide (f ≤ t) && decide (t ≤ 65536) && (decide (0 ≤ n) && decide (n ≤ t - f))
def plc (n f t : Int) (i : Nat) : Int := f + (i : Int) * (t - f) / n
def ofs (n f t : Int) : List Int := (List.range n.toNat).map (plc n f t)
def inB (a b x : Int) : Bool := decide (a ≤ x) && decide (x < b)
def cnt (l : List Int) (a b : Int) : Int := ((l.countP (inB a b) : Nat) : Int)
def placesV (n f t : Int) : List Int := if mayB n f t then ofs n f t else []
def placesE (n f t : Int) : Int := if mayB n f t then 0 else 2
def partB (n f t p k : Int) : Bool := mayB n f t && (decide (1 ≤ p) && decide ((t - f) % p = 0) && (decide (0 ≤ k) && decide (k < p)))
def shareV (n f t p k : Int) : Int := if partB n f t p k then cnt (ofs n f t) (f + k * ((t - f) / p)) (f + (k + 1) * ((t - f) / p)) else 0
def shareE (n f t p k : Int) : Int := if partB n f t p k then 0 else 2
def rankB (n f t a : Int) : Bool := mayB n f t && (decide (f ≤ a) && decide (a ≤ t))
def rankV (n f t a : Int) : Int := if rankB n f t a then cnt (ofs n f t) f a else 0
def rankE (n f t a : Int) : Int := if rankB n f t a then 0 else 2
/-- A quotient rounded up. -/
def cd (x p : Int) : Int := (x + p - 1) / p
/-- How many places lie ahead of a slot, as one quotient. -/
def ahead (n f t a : Int) : Int := if t - f = 0 then 0 else cd ((a - f) * n) (t - f)

theorem mul_add_ediv {p a b : Int} (hp : 0 < p) : (p * a + b) / p = a + b / p := by
  rw [Int.add_comm, Int.add_mul_ediv_left _ _ (by omega), Int.add_comm]
theorem may_in {n f t : Int} (h : mayB n f t = true) : 0 ≤ f ∧ f ≤ t ∧ t ≤ 65536 ∧ 0 ≤ n ∧ n ≤ t - f := by
  unfold mayB at h
  simp only [Bool.and_eq_true, decide_eq_true_eq] at h
  exact ⟨h.1.1.1, h.1.1.2, h.1.2, h.2.1, h.2.2⟩
theorem part_in {n f t p k : Int} (h : partB n f t p k = true) : mayB n f t = true ∧ 1 ≤ p ∧ (t - f) % p = 0 ∧ 0 ≤ k ∧ k < p := by
  unfold partB at h
  simp only [Bool.and_eq_true, decide_eq_true_eq] at h
  exact ⟨h.1, h.2.1.1, h.2.1.2, h.2.2.1, h.2.2.2⟩
theorem rank_in {n f t a : Int} (h : rankB n f t a = true) : mayB n f t = true ∧ f ≤ a ∧ a ≤ t := by
  unfold rankB at h
  simp only [Bool.and_eq_true, decide_eq_true_eq] at h
  exact ⟨h.1, h.2.1, h.2.2⟩

theorem cd_le {x p : Int} (hp : 0 < p) (m : Int) : m ≤ cd x p ↔ (m - 1) * p < x := by
  unfold cd
  rw [Int.le_ediv_iff_mul_le hp, Int.sub_mul, Int.one_mul]
  omega
theorem cd_lt {x p : Int} (hp : 0 < p) (i : Int) : i < cd x p ↔ i * p < x := by
  have := cd_le (x := x) hp (i + 1)
  rw [show i + 1 - 1 = i from by omega] at this
  omega
theorem cd_zero {p : Int} (hp : 0 < p) : cd 0 p = 0 := by
  unfold cd
  exact Int.ediv_eq_zero_of_lt (by omega) (by omega)
theorem cd_self {n p : Int} (hp : 0 < p) : cd (p * n) p = n := by
  unfold cd
  rw [show p * n + p - 1 = (p - 1) + p * n from by omega, Int.add_mul_ediv_left _ _ (by omega), Int.ediv_eq_zero_of_lt (by omega) (by omega)]
  omega
theorem cd_mono {x y p : Int} (hp : 0 < p) (h : x ≤ y) : cd x p ≤ cd y p := by
  unfold cd
  exact Int.ediv_le_ediv hp (by omega)
/-- A common factor goes out. -/
theorem cd_mul {x p c : Int} (hp : 0 < p) (hc : 0 < c) : cd (x * c) (p * c) = cd x p := by
  have hpc : 0 < p * c := Int.mul_pos hp hc
  apply Int.le_antisymm
  · rw [cd_le hp]
    have := (cd_le (x := x * c) hpc (cd (x * c) (p * c))).1 (Int.le_refl _)
    rw [← Int.mul_assoc] at this
    exact Int.lt_of_mul_lt_mul_right this (by omega)
  · rw [cd_le hpc, ← Int.mul_assoc]
    have := (cd_le (x := x) hp (cd x p)).1 (Int.le_refl _)
    exact Int.mul_lt_mul_of_pos_right this hc

/-- How many numbers from A on, ahead of B, are below N. -/
theorem count_range (A B : Nat) : ∀ N : Nat, (List.range N).countP (fun i => decide (A ≤ i) && decide (i < B)) = min N B - A
  | 0 => by simp
  | N + 1 => by
    rw [List.range_succ, List.countP_append, count_range A B N]
    by_cases h1 : A ≤ N
    · by_cases h2 : N < B
      · simp [h1, h2]; omega
      · simp [h1, h2]; omega
    · simp [h1]; omega

/-- A place lies ahead of a slot just where its number is below the quotient. -/
theorem plc_lt {n f t : Int} (hn : 0 < n) (hw : 0 < t - f) (i : Nat) (a : Int) : plc n f t i < a ↔ (i : Int) < cd ((a - f) * n) (t - f) := by
  unfold plc
  rw [cd_lt hw]
  have h : (i : Int) * (t - f) / n < a - f ↔ (i : Int) * (t - f) < (a - f) * n := Int.ediv_lt_iff_lt_mul hn
  omega
theorem ofs_nil {f t : Int} : ofs 0 f t = [] := rfl
theorem ofs_length (n f t : Int) : (ofs n f t).length = n.toNat := by unfold ofs; simp
theorem ofs_at {n f t : Int} {i : Nat} (h : i < n.toNat) : (ofs n f t).getD i 0 = plc n f t i := by unfold ofs; simp [List.getD, h]
theorem ahead_range {n f t a : Int} (hm : mayB n f t = true) (h1 : f ≤ a) (h2 : a ≤ t) : 0 ≤ ahead n f t a ∧ ahead n f t a ≤ n := by
  obtain ⟨m1, m2, m3, m4, m5⟩ := may_in hm
  unfold ahead
  split
  · omega
  · rename_i hw
    have hw0 : 0 < t - f := by omega
    have e1 : 0 ≤ (a - f) * n := Int.mul_nonneg (by omega) m4
    have e2 : (a - f) * n ≤ (t - f) * n := Int.mul_le_mul_of_nonneg_right (by omega) m4
    have e3 := cd_mono hw0 e1
    have e4 := cd_mono hw0 e2
    rw [cd_zero hw0] at e3
    rw [cd_self hw0] at e4
    exact ⟨e3, e4⟩
theorem cnt_ahead {n f t a b : Int} (hm : mayB n f t = true) (h1 : f ≤ a) (h2 : a ≤ b) (h3 : b ≤ t) : cnt (ofs n f t) a b = ahead n f t b - ahead n f t a := by
  obtain ⟨m1, m2, m3, m4, m5⟩ := may_in hm
  obtain ⟨ra0, ra1⟩ := ahead_range hm h1 (by omega)
  obtain ⟨rb0, rb1⟩ := ahead_range hm (show f ≤ b by omega) h3
  by_cases hn : n = 0
  · subst hn
    have : cnt (ofs 0 f t) a b = 0 := rfl
    omega
  · have hw : 0 < t - f := by omega
    have ea : ahead n f t a = cd ((a - f) * n) (t - f) := by unfold ahead; rw [if_neg (by omega)]
    have eb : ahead n f t b = cd ((b - f) * n) (t - f) := by unfold ahead; rw [if_neg (by omega)]
    have hab : ahead n f t a ≤ ahead n f t b := by
      rw [ea, eb]
      exact cd_mono hw (Int.mul_le_mul_of_nonneg_right (by omega) m4)
    have hc : (ofs n f t).countP (inB a b) = (List.range n.toNat).countP (fun i => decide ((ahead n f t a).toNat ≤ i) && decide (i < (ahead n f t b).toNat)) := by
      unfold ofs
      rw [List.countP_map]
      apply List.countP_congr
      intro i _
      have p1 := plc_lt (by omega : 0 < n) hw i a
      have p2 := plc_lt (by omega : 0 < n) hw i b
      rw [← ea] at p1
      rw [← eb] at p2
      simp only [Function.comp, inB, Bool.and_eq_true, decide_eq_true_eq]
      omega
    unfold cnt
    rw [hc, count_range]
    omega
theorem ahead_first {n f t : Int} (hm : mayB n f t = true) : ahead n f t f = 0 := by
  obtain ⟨m1, m2, m3, m4, m5⟩ := may_in hm
  unfold ahead
  split
  · rfl
  · rw [Int.sub_self, Int.zero_mul, cd_zero (by omega)]
theorem rank_closed {n f t a : Int} (h : rankB n f t a = true) : rankV n f t a = ahead n f t a := by
  obtain ⟨hm, h1, h2⟩ := rank_in h
  unfold rankV
  rw [if_pos h, cnt_ahead hm (Int.le_refl _) h1 h2, ahead_first hm]
  omega
/-- Parts: their width times how many there are is all. -/
theorem part_w {n f t p k : Int} (h : partB n f t p k = true) : p * ((t - f) / p) = t - f ∧ 0 ≤ (t - f) / p := by
  obtain ⟨hm, h1, h2, h3, h4⟩ := part_in h
  obtain ⟨m1, m2, m3, m4, m5⟩ := may_in hm
  have := Int.mul_ediv_add_emod (t - f) p
  exact ⟨by omega, Int.ediv_nonneg (by omega) (by omega)⟩
theorem ahead_part {n f t p w j : Int} (hm : mayB n f t = true) (hp : 0 < p) (hw : p * w = t - f) : ahead n f t (f + j * w) = cd (j * n) p := by
  obtain ⟨m1, m2, m3, m4, m5⟩ := may_in hm
  unfold ahead
  split
  · rename_i h
    have : n = 0 := by omega
    rw [this, Int.mul_zero, cd_zero hp]
  · rename_i h
    have hw0 : 0 < w := by
      rcases Int.lt_trichotomy w 0 with h1 | h1 | h1
      · have := Int.mul_neg_of_pos_of_neg hp h1; omega
      · rw [h1, Int.mul_zero] at hw; omega
      · exact h1
    rw [← hw, show (f + j * w - f) * n = (j * n) * w from by rw [show f + j * w - f = j * w from by omega, Int.mul_assoc, Int.mul_comm w n, ← Int.mul_assoc], cd_mul hp hw0]
/-- The share of a part, as a difference of two quotients. -/
theorem share_closed {n f t p k : Int} (h : partB n f t p k = true) : shareV n f t p k = cd ((k + 1) * n) p - cd (k * n) p := by
  obtain ⟨hm, h1, h2, h3, h4⟩ := part_in h
  obtain ⟨m1, m2, m3, m4, m5⟩ := may_in hm
  obtain ⟨w1, w2⟩ := part_w h
  have a1 := ahead_part (j := k) hm (by omega) w1
  have a2 := ahead_part (j := k + 1) hm (by omega) w1
  unfold shareV
  rw [if_pos h]
  have b1 : 0 ≤ k * ((t - f) / p) := Int.mul_nonneg h3 w2
  have b2 : (k + 1) * ((t - f) / p) = k * ((t - f) / p) + (t - f) / p := by rw [Int.add_mul, Int.one_mul]
  have b3 : (k + 1) * ((t - f) / p) ≤ t - f := by
    have := Int.mul_le_mul_of_nonneg_right (show k + 1 ≤ p by omega) w2
    omega
  rw [cnt_ahead hm (by omega) (by omega) (by omega), a1, a2]
/-- Each part has its share of the things, rounded down or up. -/
theorem cd_step {n p k : Int} (hp : 0 < p) (hn : 0 ≤ n) : n / p ≤ cd ((k + 1) * n) p - cd (k * n) p ∧ cd ((k + 1) * n) p - cd (k * n) p ≤ cd n p := by
  unfold cd
  rw [Int.add_mul, Int.one_mul]
  obtain ⟨x, hx⟩ : ∃ x, x = k * n := ⟨_, rfl⟩
  rw [← hx]
  have e1 := Int.mul_ediv_add_emod (x + p - 1) p
  have e2 := Int.emod_nonneg (x + p - 1) (show p ≠ 0 by omega)
  have e3 := Int.emod_lt_of_pos (x + p - 1) hp
  have e4 := Int.mul_ediv_add_emod n p
  have e5 := Int.emod_nonneg n (show p ≠ 0 by omega)
  have e6 := Int.emod_lt_of_pos n hp
  have f1 : x + n + p - 1 = p * ((x + p - 1) / p + n / p) + ((x + p - 1) % p + n % p) := by rw [Int.mul_add]; omega
  have f2 : n + p - 1 = p * (n / p) + (n % p + (p - 1)) := by omega
  obtain ⟨q, hq⟩ : ∃ q, q = (x + p - 1) / p := ⟨_, rfl⟩
  obtain ⟨r, hr⟩ : ∃ r, r = n / p := ⟨_, rfl⟩
  obtain ⟨s, hs⟩ : ∃ s, s = (x + p - 1) % p := ⟨_, rfl⟩
  obtain ⟨u, hu⟩ : ∃ u, u = n % p := ⟨_, rfl⟩
  rw [← hq, ← hr, ← hs, ← hu] at f1
  rw [← hr, ← hu] at f2
  rw [← hs] at e2 e3
  rw [← hu] at e5 e6
  rw [f1, f2, ← hq, ← hr, mul_add_ediv hp, mul_add_ediv hp]
  have g0 : 0 ≤ (s + u) / p := Int.ediv_nonneg (by omega) (by omega)
  refine ⟨by omega, ?_⟩
  by_cases hu0 : u = 0
  · have : (s + u) / p = 0 := Int.ediv_eq_zero_of_lt (by omega) (by omega)
    have g1 : 0 ≤ (u + (p - 1)) / p := Int.ediv_nonneg (by omega) (by omega)
    omega
  · have g1 : 1 ≤ (u + (p - 1)) / p := by rw [Int.le_ediv_iff_mul_le hp]; omega
    have g2 : (s + u) / p < 2 := by rw [Int.ediv_lt_iff_lt_mul hp]; omega
    omega
/-- Two neighbours lie w / n apart, rounded down or up. -/
theorem plc_step {n f t : Int} (hn : 0 < n) (hw : 0 ≤ t - f) (i : Nat) : (t - f) / n ≤ plc n f t (i + 1) - plc n f t i ∧ plc n f t (i + 1) - plc n f t i ≤ cd (t - f) n := by
  unfold plc cd
  obtain ⟨w, hw'⟩ : ∃ w, w = t - f := ⟨_, rfl⟩
  rw [← hw'] at hw ⊢
  rw [show (((i + 1 : Nat) : Int)) * w = (i : Int) * w + w from by rw [Int.natCast_add, Int.add_mul]; simp]
  obtain ⟨x, hx⟩ : ∃ x, x = (i : Int) * w := ⟨_, rfl⟩
  rw [← hx]
  have e1 := Int.mul_ediv_add_emod x n
  have e2 := Int.emod_nonneg x (show n ≠ 0 by omega)
  have e3 := Int.emod_lt_of_pos x hn
  have e4 := Int.mul_ediv_add_emod w n
  have e5 := Int.emod_nonneg w (show n ≠ 0 by omega)
  have e6 := Int.emod_lt_of_pos w hn
  have f1 : x + w = n * (x / n + w / n) + (x % n + w % n) := by rw [Int.mul_add]; omega
  have f2 : w + n - 1 = n * (w / n) + (w % n + (n - 1)) := by omega
  obtain ⟨q, hq⟩ : ∃ q, q = x / n := ⟨_, rfl⟩
  obtain ⟨r, hr⟩ : ∃ r, r = w / n := ⟨_, rfl⟩
  obtain ⟨s, hs⟩ : ∃ s, s = x % n := ⟨_, rfl⟩
  obtain ⟨u, hu⟩ : ∃ u, u = w % n := ⟨_, rfl⟩
  rw [← hq, ← hr, ← hs, ← hu] at f1
  rw [← hr, ← hu] at f2
  rw [← hs] at e2 e3
  rw [← hu] at e5 e6
  rw [f1, f2, ← hq, ← hr, mul_add_ediv hn, mul_add_ediv hn]
  have g0 : 0 ≤ (s + u) / n := Int.ediv_nonneg (by omega) (by omega)
  refine ⟨by omega, ?_⟩
  by_cases hu0 : u = 0
  · have : (s + u) / n = 0 := Int.ediv_eq_zero_of_lt (by omega) (by omega)
    have g1 : 0 ≤ (u + (n - 1)) / n := Int.ediv_nonneg (by omega) (by omega)
    omega
  · have g1 : 1 ≤ (u + (n - 1)) / n := by rw [Int.le_ediv_iff_mul_le hn]; omega
    have g2 : (s + u) / n < 2 := by rw [Int.ediv_lt_iff_lt_mul hn]; omega
    omega
theorem plc_zero (n f t : Int) : plc n f t 0 = f := by unfold plc; simp
theorem plc_end {n f t : Int} (hn : 0 < n) : plc n f t n.toNat = t := by
  unfold plc
  rw [Int.toNat_of_nonneg (by omega), Int.mul_ediv_cancel_left _ (by omega)]
  omega
theorem one_le_step {n f t : Int} (hn : 0 < n) (hw : n ≤ t - f) : 1 ≤ (t - f) / n := by rw [Int.le_ediv_iff_mul_le hn]; omega
theorem plc_bd {n f t : Int} (hm : mayB n f t = true) {i : Nat} (hi : i < n.toNat) : f ≤ plc n f t i ∧ plc n f t i < t := by
  obtain ⟨m1, m2, m3, m4, m5⟩ := may_in hm
  have hn : 0 < n := by omega
  unfold plc
  have h0 : 0 ≤ (i : Int) * (t - f) := Int.mul_nonneg (by omega) (by omega)
  have h1 : 0 ≤ (i : Int) * (t - f) / n := Int.ediv_nonneg h0 (by omega)
  have h2 : (i : Int) * (t - f) / n < t - f := by
    rw [Int.ediv_lt_iff_lt_mul hn, Int.mul_comm (t - f) n]
    exact Int.mul_lt_mul_of_pos_right (by omega) (by omega)
  omega
theorem may_no {n f t : Int} (h : mayB n f t = false) : placesV n f t = [] ∧ placesE n f t = 2 := by unfold placesV placesE; rw [h]; exact ⟨rfl, rfl⟩
theorem may_yes {n f t : Int} (h : mayB n f t = true) : placesV n f t = ofs n f t ∧ placesE n f t = 0 := by unfold placesV placesE; rw [h]; exact ⟨rfl, rfl⟩
theorem part_no {n f t p k : Int} (h : partB n f t p k = false) : shareV n f t p k = 0 ∧ shareE n f t p k = 2 := by unfold shareV shareE; rw [h]; exact ⟨rfl, rfl⟩
theorem part_yes {n f t p k : Int} (h : partB n f t p k = true) : shareV n f t p k = cnt (ofs n f t) (f + k * ((t - f) / p)) (f + (k + 1) * ((t - f) / p)) ∧ shareE n f t p k = 0 := by unfold shareV shareE; rw [h]; exact ⟨rfl, rfl⟩
theorem rank_no {n f t a : Int} (h : rankB n f t a = false) : rankV n f t a = 0 ∧ rankE n f t a = 2 := by unfold rankV rankE; rw [h]; exact ⟨rfl, rfl⟩
theorem rank_yes {n f t a : Int} (h : rankB n f t a = true) : rankV n f t a = cnt (ofs n f t) f a ∧ rankE n f t a = 0 := by unfold rankV rankE; rw [h]; exact ⟨rfl, rfl⟩
end Sp
end Go.Proofs.YtmmkaabefofdeaaDoor

/- A word that is cut at both ends; its bits, upward and downward; and the slots that it tells. No program is named here. -/
import Derived.Test.YtgbgeedcfccclaaDoorFn02
import Derived.Test.YtgbgeedcfccclaaDoorBits
import Derived.Test.YtgbgeedcfccclaaDoorPop
import Derived.Lib.TrailingZeros
namespace Go.Proofs.YtgbgeedcfccclaaDoor
namespace Oc

theorem bitsN_zero (n : Nat) : bitsN n 0 = [] := by simp [bitsN]
theorem mem_bitsOf {x j : Nat} : j ∈ bitsOf x ↔ j < 64 ∧ x.testBit j = true := by
  simp [bitsOf, bitsN]
theorem bitsOf_split (x k : Nat) (hk : k < 64) : bitsOf x = (List.range' 0 k).filter x.testBit ++ ([k].filter x.testBit ++ (List.range' (k + 1) (63 - k)).filter x.testBit) := by
  unfold bitsOf bitsN
  rw [← List.filter_append, ← List.filter_append]
  congr 1
  have e1 := List.range'_append (s := 0) (m := k) (n := 64 - k) (step := 1)
  have e2 := List.range'_append (s := k) (m := 1) (n := 63 - k) (step := 1)
  rw [show k + (64 - k) = 64 from by omega] at e1
  rw [show 1 + (63 - k) = 64 - k from by omega] at e2
  rw [← e1, show 0 + 1 * k = k from by omega, ← e2]
  simp
/-- The lowest bit first. -/
theorem bitsOf_head {x y k : Nat} (hk : k < 64) (hb : x.testBit k = true) (hl : ∀ j, j < k → x.testBit j = false) (hy : ∀ j, y.testBit j = (x.testBit j && !(decide (j = k)))) : bitsOf x = k :: bitsOf y := by
  rw [bitsOf_split x k hk, bitsOf_split y k hk]
  have a1 : (List.range' 0 k).filter x.testBit = [] := by
    rw [List.filter_eq_nil_iff]; intro j hj; have : j < k := by simpa using hj
    simp [hl j this]
  have a2 : (List.range' 0 k).filter y.testBit = [] := by
    rw [List.filter_eq_nil_iff]; intro j hj; have : j < k := by simpa using hj
    simp [hy, hl j this]
  have a3 : (List.range' (k + 1) (63 - k)).filter y.testBit = (List.range' (k + 1) (63 - k)).filter x.testBit := by
    apply List.filter_congr; intro j hj
    have : k + 1 ≤ j := by rw [List.mem_range'_1] at hj; omega
    rw [hy]; have : ¬ j = k := by omega
    simp [this]
  rw [a1, a2, a3]
  simp [hb, hy]
/-- The highest bit last. -/
theorem bitsOf_last {x y k : Nat} (hk : k < 64) (hb : x.testBit k = true) (hl : ∀ j, k < j → x.testBit j = false) (hy : ∀ j, y.testBit j = (x.testBit j && !(decide (j = k)))) : bitsOf x = bitsOf y ++ [k] := by
  rw [bitsOf_split x k hk, bitsOf_split y k hk]
  have a1 : (List.range' (k + 1) (63 - k)).filter x.testBit = [] := by
    rw [List.filter_eq_nil_iff]; intro j hj; have : k < j := by rw [List.mem_range'_1] at hj; omega
    simp [hl j this]
  have a2 : (List.range' (k + 1) (63 - k)).filter y.testBit = [] := by
    rw [List.filter_eq_nil_iff]; intro j hj; have : k < j := by rw [List.mem_range'_1] at hj; omega
    simp [hy, hl j this]
  have a3 : (List.range' 0 k).filter y.testBit = (List.range' 0 k).filter x.testBit := by
    apply List.filter_congr; intro j hj
    have : j < k := by simpa using hj
    rw [hy]; have : ¬ j = k := by omega
    simp [this]
  rw [a1, a2, a3]
  simp [hb, hy]

theorem odd_bit (k m j : Nat) : (2 ^ k * (2 * m + 1)).testBit j = if j < k + 1 then decide (k = j) else m.testBit (j - (k + 1)) := by
  have e : 2 ^ k * (2 * m + 1) = 2 ^ (k + 1) * m + 2 ^ k := by rw [Nat.pow_succ, Nat.mul_add, Nat.mul_one, ← Nat.mul_assoc]
  rw [e, Nat.testBit_two_pow_mul_add _ (Nat.pow_lt_pow_right (by decide) (by omega))]
  split
  · rw [Nat.testBit_two_pow]
  · rfl
theorem odd_pred_bit (k m j : Nat) : (2 ^ k * (2 * m + 1) - 1).testBit j = if j < k + 1 then decide (j < k) else m.testBit (j - (k + 1)) := by
  have hp := Nat.two_pow_pos k
  have e : 2 ^ k * (2 * m + 1) - 1 = 2 ^ (k + 1) * m + (2 ^ k - 1) := by
    rw [Nat.pow_succ, Nat.mul_add, Nat.mul_one, ← Nat.mul_assoc, Nat.mul_comm (2 ^ k) 2]
    omega
  have hlt : 2 ^ k - 1 < 2 ^ (k + 1) := by rw [Nat.pow_succ]; omega
  rw [e, Nat.testBit_two_pow_mul_add _ hlt]
  split
  · rw [Nat.testBit_two_pow_sub_one]
  · rfl
/-- What upward does in a round. -/
theorem up_round {x : Nat} (h0 : x ≠ 0) (h : x < 18446744073709551616) : Lib.ctz 64 x < 64 ∧ bitsOf x = Lib.ctz 64 x :: bitsOf (x &&& (x - 1)) ∧ (x &&& (x - 1)) < x := by
  obtain ⟨m, hm, hk⟩ := Lib.ctzFrom_spec 64 x (by omega) h
  have e : Lib.ctz 64 x = Lib.ctzFrom 64 x := by simp [Lib.ctz, h0]
  rw [e]
  generalize Lib.ctzFrom 64 x = k at *
  refine ⟨hk, ?_, ?_⟩
  · apply bitsOf_head hk
    · rw [hm, odd_bit]; simp
    · intro j hj; rw [hm, odd_bit, if_pos (by omega)]; simp; omega
    · intro j
      rw [Nat.testBit_and]
      conv => lhs; rw [hm]
      conv => rhs; rw [hm]
      rw [odd_bit, odd_pred_bit]
      by_cases hj : j < k + 1
      · rw [if_pos hj, if_pos hj]
        by_cases hjk : k = j
        · subst hjk; simp
        · have : ¬ j = k := fun h => hjk h.symm
          simp [hjk]
      · rw [if_neg hj, if_neg hj]
        have : ¬ j = k := by omega
        simp [this]
  · have := Nat.and_le_right (n := x) (m := x - 1)
    omega

theorem log_bit {x : Nat} (h0 : x ≠ 0) : x.testBit x.log2 = true := by
  have h1 := Nat.log2_self_le h0
  have h2 := Nat.lt_log2_self (n := x)
  rw [Nat.testBit_eq_decide_div_mod_eq, decide_eq_true_eq]
  have : x / 2 ^ x.log2 = 1 := by
    apply Nat.div_eq_of_lt_le
    · omega
    · rw [Nat.pow_succ] at h2; omega
  rw [this]
theorem log_above {x j : Nat} (h : x.log2 < j) : x.testBit j = false := by
  apply Nat.testBit_lt_two_pow
  have h2 := Nat.lt_log2_self (n := x)
  exact Nat.lt_of_lt_of_le h2 (Nat.pow_le_pow_right (by decide) h)
theorem andNot_bit {x y : Nat} (hy : y < 18446744073709551616) (hx : x < 18446744073709551616) (j : Nat) : (x &&& (18446744073709551615 - y)).testBit j = (x.testBit j && !y.testBit j) := by
  have := Nat.testBit_two_pow_sub_succ (n := 64) (x := y) hy j
  rw [show (2 : Nat) ^ 64 - (y + 1) = 18446744073709551615 - y from by omega] at this
  rw [Nat.testBit_and, this]
  by_cases hj : j < 64
  · simp [hj]
  · have : x.testBit j = false := Nat.testBit_lt_two_pow (Nat.lt_of_lt_of_le hx (show 2 ^ 64 ≤ 2 ^ j from Nat.pow_le_pow_right (by decide) (by omega)))
    simp [this]
/-- What downward does in a round. -/
theorem down_round {x : Nat} (h0 : x ≠ 0) (h : x < 18446744073709551616) : x.log2 < 64 ∧ bitsOf x = bitsOf (x &&& (18446744073709551615 - 2 ^ x.log2)) ++ [x.log2] ∧ (x &&& (18446744073709551615 - 2 ^ x.log2)) < x := by
  have hk : x.log2 < 64 := by
    have := Nat.log2_self_le h0
    apply Nat.lt_of_not_le; intro hle
    have h2 := Nat.pow_le_pow_right (n := 2) (by decide) hle
    have : (2 : Nat) ^ 64 = 18446744073709551616 := rfl
    omega
  have hp : 2 ^ x.log2 < 18446744073709551616 := Nat.pow_lt_pow_right (n := 64) (by decide) hk
  have hy : ∀ j, (x &&& (18446744073709551615 - 2 ^ x.log2)).testBit j = (x.testBit j && !(decide (j = x.log2))) := by
    intro j
    rw [andNot_bit hp h, Nat.testBit_two_pow]
    congr 2
    exact decide_eq_decide.2 ⟨fun e => e.symm, fun e => e.symm⟩
  refine ⟨hk, bitsOf_last hk (log_bit h0) (fun j hj => log_above hj) hy, ?_⟩
  have hle := Nat.and_le_left (n := x) (m := 18446744073709551615 - 2 ^ x.log2)
  rcases Nat.lt_or_eq_of_le hle with h1 | h1
  · exact h1
  · have := hy x.log2
    rw [h1, log_bit h0] at this
    simp at this

def low (c : Int) : Nat := 2 ^ (min c.toNat 64) - 1
theorem low_lt (c : Int) : low c < 18446744073709551616 := by
  unfold low
  have : 2 ^ (min c.toNat 64) ≤ 2 ^ 64 := Nat.pow_le_pow_right (by decide) (by omega)
  have h2 : (2 : Nat) ^ 64 = 18446744073709551616 := rfl
  have := Nat.two_pow_pos (min c.toNat 64)
  omega
def cut (x i : Nat) (a b : Int) : Nat := (x &&& low (b - 64 * i)) &&& (18446744073709551615 - low (a - 64 * i))
theorem cut_lt {x : Nat} (i : Nat) (a b : Int) (h : x < 18446744073709551616) : cut x i a b < 18446744073709551616 := by
  unfold cut
  exact Nat.lt_of_le_of_lt Nat.and_le_left (Nat.lt_of_le_of_lt Nat.and_le_left h)
theorem cut_bit {x : Nat} (i a b : Nat) {j : Nat} (hx : x < 18446744073709551616) (hj : j < 64) : (cut x i a b).testBit j = (x.testBit j && (decide (a ≤ 64 * i + j) && decide (64 * i + j < b))) := by
  unfold cut
  rw [andNot_bit (low_lt _) (Nat.lt_of_le_of_lt Nat.and_le_left hx), Nat.testBit_and]
  unfold low
  rw [Nat.testBit_two_pow_sub_one, Nat.testBit_two_pow_sub_one, Bool.and_assoc]
  congr 1
  rw [Bool.eq_iff_iff]
  simp
  omega

/-- The word i of ws, cut at a and at b. -/
def wordAt (ws : List Nat) (i : Nat) (a b : Int) : Nat := cut (ws.getD i 0) i a b

theorem filter_range (ws : List Nat) (c d lo hi : Nat) : (List.range' c d).filter (fun s => isB ws s && (decide (lo ≤ s) && decide (s < hi))) = places ws (max lo c) (min hi (c + d)) := by
  by_cases h : max lo c ≤ min hi (c + d)
  · have hc : c ≤ max lo c := Nat.le_max_right _ _
    have hd : min hi (c + d) ≤ c + d := Nat.min_le_right _ _
    have hlo : ∀ s, max lo c ≤ s → lo ≤ s := fun s hs => Nat.le_trans (Nat.le_max_left _ _) hs
    have e : List.range' c d = List.range' c (max lo c - c) ++ (List.range' (max lo c) (min hi (c + d) - max lo c) ++ List.range' (min hi (c + d)) (c + d - min hi (c + d))) := by
      have e1 := List.range'_append (s := max lo c) (m := min hi (c + d) - max lo c) (n := c + d - min hi (c + d)) (step := 1)
      rw [show max lo c + 1 * (min hi (c + d) - max lo c) = min hi (c + d) from by omega] at e1
      have e2 := List.range'_append (s := c) (m := max lo c - c) (n := min hi (c + d) - max lo c + (c + d - min hi (c + d))) (step := 1)
      rw [show c + 1 * (max lo c - c) = max lo c from by omega, show max lo c - c + (min hi (c + d) - max lo c + (c + d - min hi (c + d))) = d from by omega] at e2
      rw [e1, e2]
    rw [e, List.filter_append, List.filter_append]
    have f1 : (List.range' c (max lo c - c)).filter (fun s => isB ws s && (decide (lo ≤ s) && decide (s < hi))) = [] := by
      rw [List.filter_eq_nil_iff]; intro s hs; rw [List.mem_range'_1] at hs
      have : ¬ lo ≤ s := by omega
      simp [this]
    have f3 : (List.range' (min hi (c + d)) (c + d - min hi (c + d))).filter (fun s => isB ws s && (decide (lo ≤ s) && decide (s < hi))) = [] := by
      rw [List.filter_eq_nil_iff]; intro s hs; rw [List.mem_range'_1] at hs
      have : ¬ s < hi := by omega
      simp [this]
    rw [f1, f3, List.nil_append, List.append_nil]
    unfold places
    apply List.filter_congr
    intro s hs
    rw [List.mem_range'_1] at hs
    have h1 : lo ≤ s := hlo s (by omega)
    have h2 : s < hi := by omega
    simp [h1, h2]
  · rw [places_ge _ _ _ (by omega), List.filter_eq_nil_iff]
    intro s hs
    rw [List.mem_range'_1] at hs
    by_cases h1 : lo ≤ s
    · have : ¬ s < hi := by omega
      simp [this]
    · simp [h1]

/-- The slots that a word tells, cut at a and at b. -/
theorem cut_places {ws : List Nat} (i a b : Nat) (hw : ws.getD i 0 < 18446744073709551616) : (bitsOf (cut (ws.getD i 0) i a b)).map (64 * i + ·) = places ws (max a (64 * i)) (min b (64 * i + 64)) := by
  rw [← filter_range]
  have e : List.range' (64 * i) 64 = (List.range' 0 64).map (64 * i + ·) := by rw [List.map_add_range', Nat.add_zero]
  rw [e, List.filter_map]
  congr 1
  unfold bitsOf bitsN
  apply List.filter_congr
  intro j hj
  have hj : j < 64 := by simpa using hj
  rw [cut_bit i a b hw hj]
  have q : isB ws (64 * i + j) = (ws.getD i 0).testBit j := by
    unfold isB
    rw [show (64 * i + j) / 64 = i from by omega, show (64 * i + j) % 64 = j from by omega]
  simp only [Function.comp, q]
theorem up_step {ws : List Nat} (i a b : Nat) (hw : ws.getD i 0 < 18446744073709551616) :
    places ws a (min b (64 * (i + 1))) = places ws a (min b (64 * i)) ++ (bitsOf (cut (ws.getD i 0) i a b)).map (64 * i + ·) := by
  rw [cut_places i a b hw]
  by_cases h1 : a ≤ 64 * i
  · rw [Nat.max_eq_right h1]
    by_cases h2 : 64 * i ≤ b
    · rw [Nat.min_eq_right h2, show 64 * (i + 1) = 64 * i + 64 from by omega]
      exact places_split ws a (64 * i) _ h1 (by omega)
    · rw [places_ge ws (64 * i) _ (by omega), List.append_nil, Nat.min_eq_left (by omega), Nat.min_eq_left (by omega)]
  · rw [Nat.max_eq_left (by omega), places_ge ws a (min b (64 * i)) (by omega), List.nil_append, show 64 * (i + 1) = 64 * i + 64 from by omega]
theorem down_step {ws : List Nat} (i b : Nat) (hw : ws.getD i 0 < 18446744073709551616) :
    places ws (64 * i) b = (bitsOf (cut (ws.getD i 0) i (0 : Nat) b)).map (64 * i + ·) ++ places ws (64 * (i + 1)) b := by
  rw [cut_places i 0 b hw, Nat.max_eq_right (Nat.zero_le _)]
  by_cases h2 : 64 * i + 64 ≤ b
  · rw [Nat.min_eq_right h2, show 64 * (i + 1) = 64 * i + 64 from by omega]
    exact places_split ws (64 * i) (64 * i + 64) b (by omega) h2
  · rw [places_ge ws (64 * (i + 1)) _ (by omega), List.append_nil, Nat.min_eq_left (by omega)]
theorem cut_zero {x : Nat} (h : x < 18446744073709551616) : (x != 0) = !(bitsOf x).isEmpty := by
  by_cases h0 : x = 0
  · subst h0; simp [bitsOf, bitsN]
  · rw [(up_round h0 h).2.1]
    simp [h0]
end Oc
end Go.Proofs.YtgbgeedcfccclaaDoor

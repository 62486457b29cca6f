/- Plain facts of layer 5: capacities twice and half as great; what the laws ConfShares, ConfTurns and ConfCaps lean on. -/
import Derived.Test.YtemnhpkkmfgnaaaPlain05
namespace Go.Proofs.Ytemnhpkkmfgnaaa
set_option linter.unusedVariables false

theorem pow_double {a b : Int} (ha : Fr.powB a = true) (hb : Fr.powB b = true) (h : a < b) : 2 * a ≤ b := by
  obtain ⟨i, rfl, _⟩ := pow_of ha
  obtain ⟨j, rfl, _⟩ := pow_of hb
  have hij : i < j := by
    rcases Nat.lt_or_ge i j with h1 | h1
    · exact h1
    · have := two_mono h1; omega
  have := two_mono (a := i + 1) (b := j) hij
  rw [Fr.pow_succ] at this
  exact this
theorem pow_twice {a : Int} (ha : Fr.powB a = true) : Fr.powB (2 * a) = true := by
  obtain ⟨i, rfl, _⟩ := pow_of ha
  rw [← Fr.pow_succ]
  exact powB_two _
theorem pow_half {a : Int} (ha : Fr.powB a = true) (h : 1 < a) : Fr.powB (a / 2) = true ∧ 2 * (a / 2) = a := by
  obtain ⟨i, rfl, _⟩ := pow_of ha
  cases i with
  | zero => simp at h
  | succ i =>
    rw [Fr.pow_succ, Int.mul_ediv_cancel_left _ (by decide)]
    exact ⟨powB_two i, rfl⟩
theorem mul_le_mul_r {a b k : Int} (h : a ≤ b) (hk : 0 ≤ k) : a * k ≤ b * k := Int.mul_le_mul_of_nonneg_right h hk
theorem mul_le_mul_l {a b k : Int} (h : a ≤ b) (hk : 0 ≤ k) : k * a ≤ k * b := Int.mul_le_mul_of_nonneg_left h hk
namespace Cf
theorem takes_pow {c : Cf} (hs : c.Sizes) (n : Int) : Fr.powB (c.takes n) = true := by
  obtain ⟨j, _, e⟩ := dbl_pow 20 (n * c.den) c.rh c.least
  obtain ⟨i, hi, _⟩ := pow_of hs.leastp
  unfold takes
  rw [e, hi, ← Int.pow_add]
  exact powB_two _
theorem high_twice {c : Cf} {size : Int} (hs : Fr.powB c.seg = true) (hp : Fr.powB size = true) (hle : c.seg ≤ size) : c.high (2 * size) = c.high size + 1 := by
  obtain ⟨b, hb, _⟩ := pow_of hs
  obtain ⟨a, ha, _⟩ := pow_of hp
  have hab : b ≤ a := two_le (by rw [← hb, ← ha]; exact hle)
  obtain ⟨d, rfl⟩ : ∃ d, a = b + d := ⟨a - b, by omega⟩
  have hb0 := Fr.pow_pos b
  have e : size = c.seg * 2 ^ d := by rw [ha, hb, Int.pow_add]
  have e2 : 2 * size = c.seg * 2 ^ (d + 1) := by rw [e, Fr.pow_succ, Int.mul_left_comm]
  unfold high
  rw [e2, e, Int.mul_ediv_cancel_left _ (by omega), Int.mul_ediv_cancel_left _ (by omega), lg_two, lg_two]
  omega
theorem takes_takes {c : Cf} (hs : c.Sizes) (hd : c.Dens) {n : Int} (h0 : 0 ≤ n) (hn : n ≤ 16384) : n * c.den ≤ c.rh * c.takes n := by
  have a := nd_le hs h0 hn
  have b := hs.seg1
  have d := hs.least1
  refine dbl_takes 20 (n * c.den) c.rh (hd.rh1 hs) c.least (by omega) ?_
  rw [show (2 : Int) ^ 20 = 1048576 from by decide]
  omega
theorem takes_mono {c : Cf} (hs : c.Sizes) {m n : Int} (h : m ≤ n) : c.takes m ≤ c.takes n := by
  have a := hs.den1
  have b := hs.seg1
  have d := hs.least1
  exact dbl_mono 20 c.rh (mul_le_mul_r h (by omega)) c.least (by omega)
/-- The window of all. -/
theorem full_all {c : Cf} {size n : Int} (k : c.Ok size (c.high size) n) : c.fullV size (c.high size) n = decide (n * c.den ≤ size * c.rh) := by
  have SB := k.may.size_bd k.is
  have W1 := wide_of k.may.sizes.segp k.is.pow SB.1
  have hb := k.bd
  by_cases h0 : c.high size = 0
  · rw [full_flat k h0]
  · rw [full_high k h0, W1, Int.sub_self, Int.mul_zero, Int.zero_add]
    have hp := hb.hi0
    have e1 : n * (c.high size * c.den) = (n * c.den) * c.high size := by rw [Int.mul_comm (c.high size), Int.mul_assoc]
    have e2 : size * (c.rh * c.high size) = (size * c.rh) * c.high size := by rw [Int.mul_assoc]
    rw [e1, e2]
    rw [decide_eq_decide]
    exact ⟨fun h => Int.le_of_mul_le_mul_right h (by omega), fun h => mul_le_mul_r h hp⟩
theorem sparse_all {c : Cf} {size n : Int} (k : c.Ok size (c.high size) n) (h0 : ¬ size = c.least) : c.sparseV size (c.high size) n = decide (size * c.rl ≤ (n + 1) * c.den) := by
  have SB := k.may.size_bd k.is
  have W1 := wide_of k.may.sizes.segp k.is.pow SB.1
  have hp := high_pos k h0
  rw [sparse_high k h0, W1, Int.sub_self, Int.mul_zero, Int.zero_add]
  have e1 : c.rl * c.high size * size = (size * c.rl) * c.high size := by rw [Int.mul_comm, Int.mul_assoc]
  have e2 : c.high size * c.den * (n + 1) = ((n + 1) * c.den) * c.high size := by rw [Int.mul_comm (c.high size * c.den), Int.mul_comm (c.high size), Int.mul_assoc]
  rw [e1, e2, decide_eq_decide]
  exact ⟨fun h => Int.le_of_mul_le_mul_right h (by omega), fun h => mul_le_mul_r h (by omega)⟩
theorem May.all_ok {c : Cf} {size n : Int} (hm : c.May) (hi : c.Is size) (h0 : 0 ≤ n) (h1 : n ≤ size) : c.Ok size (c.high size) n := by
  have SB := hm.size_bd hi
  have HB := c.high_bd size SB.1 hm.sizes.seg1 SB.2
  exact ⟨hm, hi, HB.1, Int.le_refl _, h0, by rw [wide_of hm.sizes.segp hi.pow SB.1]; exact h1⟩

/-- Twice a capacity that is too full for n is one, neither too full nor too sparse. -/
theorem turns_up {c : Cf} {size n : Int} (k : c.Ok size (c.high size) (n - 1)) (k2 : c.Ok size (c.high size) n) (was : c.fullV size (c.high size) (n - 1) = true) (now : c.fullV size (c.high size) n = false) (hn : n ≤ c.most) :
    c.askE (2 * size) (c.high size + 1) n = 0 ∧ c.fullV (2 * size) (c.high size + 1) n = true ∧ c.sparseV (2 * size) (c.high size + 1) n = true := by
  have hm := k.may
  have hs := hm.sizes
  have hd := hm.dens
  have SB := hm.size_bd k.is
  rw [full_all k, decide_eq_true_eq] at was
  rw [full_all k2, decide_eq_false_iff_not] at now
  have W1 := wide_of hs.segp k.is.pow SB.1
  have n0 := k.n0
  have n1 := k2.n1
  rw [W1] at n1
  have d1 := hs.den1
  have r1 := hd.rh1 hs
  have g1 := hs.seg1
  have rd := hd.rhd
  have rl := hd.rld
  have l0 := hd.llrl
  have l1 := hd.ll0
  have htop : size < c.top := by
    have a := takes_takes hs hd (n := c.most) (by omega) hs.most2
    have b := mul_le_mul_r (k := c.den) hn (by omega)
    have e : c.takes c.most = c.top := rfl
    rw [e] at a
    have e2 : size * c.rh = c.rh * size := Int.mul_comm _ _
    exact Int.lt_of_mul_lt_mul_left (a := c.rh) (by omega) (by omega)
  have hi2 : c.Is (2 * size) := ⟨pow_twice k.is.pow, by have := k.is.lo; omega, pow_double k.is.pow (takes_pow hs c.most) htop⟩
  have HT := high_twice hs.segp k.is.pow SB.1
  have K := hm.all_ok hi2 (n := n) (by omega) (by omega)
  have hnl : ¬ 2 * size = c.least := by have := k.is.lo; omega
  have F := full_all K
  have S := sparse_all K hnl
  rw [HT] at K F S
  have A := (ok_ask ((ok_iff _ _ _ _).2 K)).1
  have p1 : (n - 1) * c.den = n * c.den - c.den := by rw [Int.sub_mul, Int.one_mul]
  have p2 : 4 * c.rh ≤ size * c.rh := mul_le_mul_r (by omega) (by omega)
  have p3 : 2 * size * c.rh = 2 * (size * c.rh) := Int.mul_assoc _ _ _
  have p4 : size * c.den ≤ size * (2 * c.rh) := mul_le_mul_l rd (by omega)
  have p5 : size * (2 * c.rh) = 2 * (size * c.rh) := Int.mul_left_comm _ _ _
  have p6 : size * (8 * c.rl) ≤ size * c.den := mul_le_mul_l rl (by omega)
  have p7 : size * (8 * c.rl) = 8 * (size * c.rl) := Int.mul_left_comm _ _ _
  have p8 : 2 * size * c.rl = 2 * (size * c.rl) := Int.mul_assoc _ _ _
  have p9 : (n + 1) * c.den = n * c.den + c.den := by rw [Int.add_mul, Int.one_mul]
  refine ⟨A, ?_, ?_⟩
  · rw [F, decide_eq_true_eq]; omega
  · rw [S, decide_eq_true_eq]
    have : 0 ≤ size * c.rl := Int.mul_nonneg (by omega) (by omega)
    omega
/-- Half of a capacity that is too sparse is one that is not too full. -/
theorem turns_down {c : Cf} {size n : Int} (k : c.Ok size (c.high size) n) (few : c.sparseV size (c.high size) n = false) :
    0 < c.high size ∧ c.askE (size / 2) (c.high size - 1) n = 0 ∧ c.fullV (size / 2) (c.high size - 1) n = true := by
  have hm := k.may
  have hs := hm.sizes
  have hd := hm.dens
  have SB := hm.size_bd k.is
  have hne : ¬ size = c.least := by
    intro e
    rw [sparse_least k e] at few
    cases few
  rw [sparse_all k hne, decide_eq_false_iff_not] at few
  have hp := high_pos k hne
  have lo := k.is.lo
  have g1 := hs.seg1
  have g2 := hs.least1
  obtain ⟨q1, q2⟩ := pow_half k.is.pow (by omega)
  have hdb := pow_double hs.leastp k.is.pow (by omega)
  have hi2 : c.Is (size / 2) := ⟨q1, by omega, by have := k.is.hi; omega⟩
  have HT := high_twice hs.segp q1 (by omega)
  rw [q2] at HT
  have n0 := k.n0
  have d1 := hs.den1
  have rd := hd.rhd
  have rl := hd.rld
  have p6 : size * (8 * c.rl) ≤ size * c.den := mul_le_mul_l rl (by omega)
  have p7 : size * (8 * c.rl) = 8 * (size * c.rl) := Int.mul_left_comm _ _ _
  have p9 : (n + 1) * c.den = n * c.den + c.den := by rw [Int.add_mul, Int.one_mul]
  have nd : 8 * (n * c.den) ≤ size * c.den := by omega
  have hn8 : 8 * n ≤ size := by
    have e : 8 * (n * c.den) = 8 * n * c.den := (Int.mul_assoc _ _ _).symm
    rw [e] at nd
    exact Int.le_of_mul_le_mul_right nd (by omega)
  have K := hm.all_ok hi2 (n := n) n0 (by omega)
  have F := full_all K
  have e1 : c.high (size / 2) = c.high size - 1 := by omega
  rw [e1] at K F
  have A := (ok_ask ((ok_iff _ _ _ _).2 K)).1
  refine ⟨by omega, A, ?_⟩
  rw [F, decide_eq_true_eq]
  have p4 : size / 2 * c.den ≤ size / 2 * (2 * c.rh) := mul_le_mul_l rd (by omega)
  have p5 : size / 2 * (2 * c.rh) = 2 * (size / 2 * c.rh) := Int.mul_left_comm _ _ _
  have p10 : size * c.den = 2 * (size / 2 * c.den) := by
    rw [← Int.mul_assoc, q2]
  have p11 : 0 ≤ size / 2 * c.rh := Int.mul_nonneg (by omega) (by omega)
  omega
/-- What Cap answers: a capacity that takes n; half of it does not. -/
theorem cap_is {c : Cf} {n : Int} (hm : c.May) (h0 : 0 ≤ n) (hn : n ≤ c.most) : c.Is (c.takes n) ∧ c.Ok (c.takes n) (c.high (c.takes n)) n ∧ c.fullV (c.takes n) (c.high (c.takes n)) n = true := by
  have hs := hm.sizes
  have hd := hm.dens
  have m2 := hs.most2
  have hi : c.Is (c.takes n) := ⟨takes_pow hs n, takes_ge c hs n, takes_mono hs hn⟩
  have T := takes_takes hs hd h0 (by omega)
  have rh := hd.rhlh
  have lh := hd.lhd
  have d1 := hs.den1
  have g1 := hs.seg1
  have g2 := hs.least1
  have lo := hi.lo
  have hx : n ≤ c.takes n := by
    have a : c.rh * c.takes n ≤ c.den * c.takes n := mul_le_mul_r (by omega) (by omega)
    have e : c.den * c.takes n = c.takes n * c.den := Int.mul_comm _ _
    exact Int.le_of_mul_le_mul_right (a := c.den) (by omega) (by omega)
  have K := hm.all_ok hi h0 hx
  refine ⟨hi, K, ?_⟩
  rw [full_all K, decide_eq_true_eq, Int.mul_comm (c.takes n)]
  exact T
theorem cap_half {c : Cf} {n : Int} (hm : c.May) (h0 : 0 ≤ n) (hn : n ≤ c.most) (hne : ¬ c.takes n = c.least) :
    c.askE (c.takes n / 2) (c.high (c.takes n) - 1) n = 2 ∨ c.askE (c.takes n / 2) (c.high (c.takes n) - 1) n = 0 ∧ c.fullV (c.takes n / 2) (c.high (c.takes n) - 1) n = false := by
  have hs := hm.sizes
  have hd := hm.dens
  obtain ⟨hi, K, _⟩ := cap_is hm h0 hn
  have g1 := hs.seg1
  have g2 := hs.least1
  have lo := hi.lo
  obtain ⟨q1, q2⟩ := pow_half hi.pow (by omega)
  have hdb := pow_double hs.leastp hi.pow (by omega)
  have hi2 : c.Is (c.takes n / 2) := ⟨q1, by omega, by have := hi.hi; omega⟩
  have HT := high_twice hs.segp q1 (by omega)
  rw [q2] at HT
  have e1 : c.high (c.takes n / 2) = c.high (c.takes n) - 1 := by omega
  have A := (ask_in (h := c.high (c.takes n) - 1) (n := n) ((may_iff c).2 hm) ((is_iff c _).2 hi2)).1
  by_cases hin : c.inB (c.takes n / 2) (c.high (c.takes n) - 1) n = true
  · right
    rw [hin] at A
    refine ⟨A, ?_⟩
    have hok : c.okB (c.takes n / 2) (c.high (c.takes n) - 1) n = true := by unfold okB; rw [(may_iff c).2 hm, (is_iff c _).2 hi2, hin]; rfl
    have K2 := (ok_iff _ _ _ _).1 hok
    rw [← e1] at K2 ⊢
    rw [full_all K2, decide_eq_false_iff_not]
    rcases dbl_half 20 (n * c.den) c.rh c.least with e | ⟨t, e, h1, h2⟩ | e
    · exact absurd e hne
    · have ht : c.takes n / 2 = t := by
        have : c.takes n = 2 * t := e
        omega
      rw [ht, Int.mul_comm t]
      omega
    · omega
  · left
    have hin' : c.inB (c.takes n / 2) (c.high (c.takes n) - 1) n = false := by simpa using hin
    rw [hin'] at A
    exact A

/-- A part of a window that has its share, rounded up, has not too many if the window has not. -/
theorem shares {c : Cf} {size g h n : Int} (k : c.Ok size g n) (h0 : 0 ≤ h) (hg : h ≤ g) :
    c.Ok size h ((n + 2 ^ (g - h).toNat - 1) / 2 ^ (g - h).toNat) ∧ c.Ok size h (n / 2 ^ (g - h).toNat) ∧
    (c.fullV size g n = true → c.fullV size h ((n + 2 ^ (g - h).toNat - 1) / 2 ^ (g - h).toNat) = true) ∧ (c.sparseV size g n = true → c.sparseV size h (n / 2 ^ (g - h).toNat) = true) := by
  have hm := k.may
  have hs := hm.sizes
  have hd := hm.dens
  have n0 := k.n0
  have n1 := k.n1
  have b := k.bd
  have g1 := k.h1
  have P1 := Fr.pow_pos (g - h).toNat
  have hW : c.wide g = c.wide h * 2 ^ (g - h).toNat := by
    unfold wide
    rw [Int.mul_assoc, ← Int.pow_add, show h.toNat + (g - h).toNat = g.toNat from by omega]
  obtain ⟨P, hP⟩ : ∃ P : Int, P = 2 ^ (g - h).toNat := ⟨_, rfl⟩
  have hPg : g = h → P = 1 := by intro e; rw [hP, show (g - h).toNat = 0 from by omega]; rfl
  rw [← hP] at P1 hW ⊢
  clear hP
  have W4 := (c.wide_bd (h := h) hs.seg1 hs.seg2 (by have := b.hi1; omega)).1
  have hseg : c.seg ≤ c.wide h := by
    unfold wide
    have := mul_le_mul_l (k := c.seg) (Fr.pow_pos h.toNat) (by have := hs.seg1; omega)
    rw [Int.mul_one] at this
    exact this
  obtain ⟨W, hWd⟩ : ∃ W, W = c.wide h := ⟨_, rfl⟩
  rw [← hWd] at hW W4 hseg
  obtain ⟨m, hmd⟩ : ∃ m, m = (n + P - 1) / P := ⟨_, rfl⟩
  have hm1 : m * P ≤ n + P - 1 := by rw [hmd]; exact Int.ediv_mul_le _ (by omega)
  have hm2 : n ≤ m * P := by
    have h1 : n + P - 1 < (m + 1) * P := by rw [hmd]; exact Int.lt_ediv_add_one_mul_self _ (by omega)
    rw [Int.add_mul, Int.one_mul] at h1
    omega
  have hm0 : 0 ≤ m := by rw [hmd]; exact Int.ediv_nonneg (by omega) (by omega)
  have hmW : m ≤ W := by
    have : m * P < (W + 1) * P := by rw [Int.add_mul, Int.one_mul]; omega
    have := Int.lt_of_mul_lt_mul_right this (by omega)
    omega
  obtain ⟨q, hqd⟩ : ∃ q, q = n / P := ⟨_, rfl⟩
  have hq0 : 0 ≤ q := by rw [hqd]; exact Int.ediv_nonneg n0 (by omega)
  have hq1 : n < (q + 1) * P := by rw [hqd]; exact Int.lt_ediv_add_one_mul_self n (by omega)
  have hqW : q ≤ W := by
    have h1 : q * P ≤ n := by rw [hqd]; exact Int.ediv_mul_le _ (by omega)
    exact Int.le_of_mul_le_mul_right (a := P) (by omega) (by omega)
  rw [← hmd, ← hqd]
  clear hmd hqd
  have K1 : c.Ok size h m := ⟨hm, k.is, h0, by omega, hm0, by rw [← hWd]; exact hmW⟩
  have K2 : c.Ok size h q := ⟨hm, k.is, h0, by omega, hq0, by rw [← hWd]; exact hqW⟩
  refine ⟨K1, K2, ?_, ?_⟩
  · intro hf
    by_cases hz : c.high size = 0
    · have e : g = h := by omega
      have := hPg e
      subst this
      rw [full_flat k hz, decide_eq_true_eq] at hf
      rw [full_flat K1 hz, decide_eq_true_eq]
      have : m = n := by omega
      rw [this]; exact hf
    · rw [full_high k hz, decide_eq_true_eq, hW] at hf
      rw [full_high K1 hz, decide_eq_true_eq, ← hWd]
      by_cases e : g = h
      · have := hPg e
        subst this
        rw [e, Int.mul_one] at hf
        have : m = n := by omega
        rw [this]; exact hf
      · have hH := b.hi0
        have HT : c.high size ≤ c.high c.top := by
          obtain ⟨i, hi, _⟩ := pow_of hs.segp
          have SB := hm.size_bd k.is
          have TB := top_bd hs hd
          have w1 := wide_of hs.segp k.is.pow SB.1
          have w2 := wide_of hs.segp (takes_pow hs c.most) TB.1
          rcases Int.lt_or_le (c.high c.top) (c.high size) with h1 | h1
          · exfalso
            have h2 : c.wide (c.high c.top + 1) ≤ c.wide (c.high size) := c.wide_le (by have := hs.seg1; omega) (by omega)
            have h3 : c.wide (c.high c.top + 1) = 2 * c.wide (c.high c.top) := by
              have := (c.high_bd c.top TB.1 hs.seg1 TB.2).1
              unfold wide
              rw [show (c.high c.top + 1).toNat = (c.high c.top).toNat + 1 from by omega, Fr.pow_succ, Int.mul_left_comm]
            have e3 : c.wide (c.high c.top) = c.top := w2
            have h4 := k.is.hi
            have h5 := hs.seg1
            omega
          · exact h1
        have d1 := hs.den1
        have fl := hm.falls
        have hD : 1 ≤ c.lh - c.rh := by have := hd.rhlh; omega
        -- the numbers by name
        obtain ⟨H, hHd⟩ : ∃ H, H = c.high size := ⟨_, rfl⟩
        rw [← hHd] at hf hH HT ⊢
        have a1 : H * c.den ≤ (c.lh - c.rh) * W := by
          have x1 := mul_le_mul_r (k := c.den) HT (by omega)
          have x2 := mul_le_mul_l (k := c.lh - c.rh) hseg (by omega)
          omega
        obtain ⟨D, hDd⟩ : ∃ D, D = c.lh - c.rh := ⟨_, rfl⟩
        rw [← hDd] at a1 hD
        obtain ⟨E, hE⟩ : ∃ E, E = H * c.den := ⟨_, rfl⟩
        have hE0 : 0 ≤ E := by rw [hE]; exact Int.mul_nonneg hH (by omega)
        rw [← hE] at a1 hf ⊢
        have u : ∀ x : Int, c.lh * (H - x) + c.rh * x = c.lh * H - D * x := by
          intro x
          rw [hDd, Int.mul_sub, Int.sub_mul]; omega
        rw [u] at hf ⊢
        -- m E P ≤ n E + (P - 1) E ≤ W P U(g) + P W D ≤ W P U(h)
        have b1 : m * P * E ≤ (n + P - 1) * E := mul_le_mul_r hm1 hE0
        have b2 : (n + P - 1) * E = n * E + (P - 1) * E := by rw [show n + P - 1 = n + (P - 1) from by omega, Int.add_mul]
        have b3 : (P - 1) * E ≤ P * (D * W) := by
          have y1 := mul_le_mul_l (k := P - 1) a1 (by omega)
          have y2 : (P - 1) * (D * W) ≤ P * (D * W) := mul_le_mul_r (by omega) (Int.mul_nonneg (by omega) (by omega))
          omega
        have b4 : W * P * (c.lh * H - D * g) + P * (D * W) ≤ W * P * (c.lh * H - D * h) := by
          have z1 : P * (D * W) = W * P * D := by rw [Int.mul_comm D W, ← Int.mul_assoc, Int.mul_comm P W]
          rw [z1, ← Int.mul_add]
          refine mul_le_mul_l ?_ (Int.mul_nonneg (by omega) (by omega))
          have z2 : D * (h + 1) ≤ D * g := mul_le_mul_l (by omega) (by omega)
          rw [Int.mul_add, Int.mul_one] at z2
          omega
        have b5 : m * E * P ≤ W * (c.lh * H - D * h) * P := by
          have z1 : m * E * P = m * P * E := by rw [Int.mul_assoc, Int.mul_comm E P, ← Int.mul_assoc]
          have z2 : W * (c.lh * H - D * h) * P = W * P * (c.lh * H - D * h) := by rw [Int.mul_assoc, Int.mul_comm _ P, ← Int.mul_assoc]
          omega
        exact Int.le_of_mul_le_mul_right b5 (by omega)
  · intro hf
    by_cases hl : size = c.least
    · exact sparse_least K2 hl
    · rw [sparse_high k hl, decide_eq_true_eq, hW] at hf
      rw [sparse_high K2 hl, decide_eq_true_eq, ← hWd]
      have hH := b.hi0
      have d1 := hs.den1
      obtain ⟨H, hHd⟩ : ∃ H, H = c.high size := ⟨_, rfl⟩
      rw [← hHd] at hf hH ⊢
      obtain ⟨E, hE⟩ : ∃ E, E = H * c.den := ⟨_, rfl⟩
      have hE0 : 0 ≤ E := by rw [hE]; exact Int.mul_nonneg hH (by omega)
      rw [← hE] at hf ⊢
      have hD : 1 ≤ c.rl - c.ll := by have := hd.llrl; omega
      obtain ⟨D, hDd⟩ : ∃ D, D = c.rl - c.ll := ⟨_, rfl⟩
      rw [← hDd] at hD
      have u : ∀ x : Int, c.ll * (H - x) + c.rl * x = c.ll * H + D * x := by
        intro x
        rw [hDd, Int.mul_sub, Int.sub_mul]; omega
      rw [u] at hf ⊢
      have b1 : D * h ≤ D * g := mul_le_mul_l hg (by omega)
      have b2 : (c.ll * H + D * h) * (W * P) ≤ (c.ll * H + D * g) * (W * P) := mul_le_mul_r (by omega) (Int.mul_nonneg (by omega) (by omega))
      have b3 : E * (n + 1) ≤ E * ((q + 1) * P) := mul_le_mul_l (by omega) hE0
      have b4 : (c.ll * H + D * h) * W * P ≤ E * (q + 1) * P := by
        have z1 : (c.ll * H + D * h) * W * P = (c.ll * H + D * h) * (W * P) := Int.mul_assoc _ _ _
        have z2 : E * (q + 1) * P = E * ((q + 1) * P) := Int.mul_assoc _ _ _
        omega
      exact Int.le_of_mul_le_mul_right b4 (by omega)
end Cf
end Go.Proofs.Ytemnhpkkmfgnaaa

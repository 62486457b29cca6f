/- The plain functions of layer 6 (win), as data, and facts on them: no program is named here. -/
import Derived.Test.YthnpmbbhbaaloaaFn04
namespace Go.Proofs.Ythnpmbbhbaaloaa
set_option linter.unusedVariables false

namespace Wn
def high (g s : Int) : Int := Fr.lg (s / g)
def wd (g h : Int) : Int := g * 2 ^ h.toNat
def lo (g h a : Int) : Int := a / wd g h * wd g h
def hi (g h a : Int) : Int := lo g h a + wd g h
def inB (g s h a : Int) : Bool := decide (0 ≤ h) && decide (h ≤ high g s) && (decide (0 ≤ a) && decide (a < s))
def askB (g s h a : Int) : Bool := Sl.fitsB g s && inB g s h a
def askE (g s h a : Int) : Int := if askB g s h a then 0 else 2
def highV (g s : Int) : Int := if Sl.fitsB g s then high g s else 0
def highE (g s : Int) : Int := if Sl.fitsB g s then 0 else 2
def loV (g s h a : Int) : Int := if askB g s h a then lo g h a else 0
def hiV (g s h a : Int) : Int := if askB g s h a then hi g h a else 0
def path (g s a : Int) : List (Int × Int) := if askB g s 0 a then (List.range ((high g s).toNat + 1)).map fun k : Nat => (lo g k a, hi g k a) else []
def row (g s h : Int) : List (Int × Int) := if askB g s h 0 then (List.range (s / wd g h).toNat).map fun k : Nat => ((k : Int) * wd g h, (k : Int) * wd g h + wd g h) else []
/-- The least height from h on, of at most f more, at which two slots have one window. -/
def meetF : Nat → Int → Int → Int → Nat → Int
  | 0, _, _, _, h => h
  | f + 1, g, a, b, h => if lo g h a = lo g h b then h else meetF f g a b (h + 1)
def meetB (g s a b : Int) : Bool := askB g s 0 a && (decide (0 ≤ b) && decide (b < s))
def meetV (g s a b : Int) : Int := if meetB g s a b then meetF (high g s).toNat g a b 0 else 0
def meetE (g s a b : Int) : Int := if meetB g s a b then 0 else 2

theorem p2_pos (k : Nat) : (1 : Int) ≤ 2 ^ k := Fr.pow_pos k
theorem p2_succ (k : Nat) : (2 : Int) ^ (k + 1) = 2 * 2 ^ k := Fr.pow_succ k
/-- What is known of slots that may be. -/
structure Fit (g s : Int) (H : Nat) : Prop where
  g1 : 4 ≤ g
  g2 : g ≤ 64
  s0 : s = g * 2 ^ H
  s1 : s ≤ 65536
  hH : high g s = H
  h14 : H ≤ 14
theorem fit_of {g s : Int} (h : Sl.fitsB g s = true) : ∃ H, Fit g s H := by
  unfold Sl.fitsB at h
  simp only [Bool.and_eq_true, decide_eq_true_eq] at h
  obtain ⟨⟨⟨⟨⟨⟨h1, h2⟩, h3⟩, h4⟩, h5⟩, h6⟩, h7⟩ := h
  have hp := (Fr.powB_true h7).1
  have h8 := Fr.powB_pow (s / g) hp
  rw [h7] at h8
  have h9 : (2 : Int) ^ (Fr.lg (s / g)).toNat = s / g := by simpa using h8.symm
  have hs : s = g * 2 ^ (Fr.lg (s / g)).toNat := by
    rw [h9]
    have := Int.mul_ediv_add_emod s g
    omega
  have h0 := Fr.lg_nonneg (s / g)
  refine ⟨(Fr.lg (s / g)).toNat, h1, h2, hs, h5, ?_, ?_⟩
  · unfold high; omega
  · rcases Nat.lt_or_ge 14 (Fr.lg (s / g)).toNat with h10 | h10
    · exfalso
      have e1 : 2 ^ 15 ≤ 2 ^ (Fr.lg (s / g)).toNat := Nat.pow_le_pow_right (by decide) h10
      have e2 : ((2 ^ (Fr.lg (s / g)).toNat : Nat) : Int) = 2 ^ (Fr.lg (s / g)).toNat := by simp
      have e3 : (32768 : Int) ≤ 2 ^ (Fr.lg (s / g)).toNat := by omega
      have := Int.mul_le_mul h1 e3 (by omega) (by omega)
      omega
    · exact h10
theorem wd_nat (g : Int) (h : Nat) : wd g h = g * 2 ^ h := by unfold wd; rw [Int.toNat_natCast]
theorem wd_succ (g : Int) (h : Nat) : wd g ((h : Int) + 1) = 2 * wd g h := by
  rw [show ((h : Int) + 1) = ((h + 1 : Nat) : Int) from by omega, wd_nat, wd_nat, p2_succ, Int.mul_left_comm]
theorem wd_pos {g : Int} (hg : 4 ≤ g) (h : Int) : 4 ≤ wd g h := by
  unfold wd
  have := Int.mul_le_mul hg (p2_pos h.toNat) (by omega) (by omega)
  omega
theorem Fit.top {g s : Int} {H : Nat} (f : Fit g s H) : wd g H = s := by rw [wd_nat, ← f.s0]
/-- A window's width divides the size. -/
theorem Fit.dvd {g s : Int} {H : Nat} (f : Fit g s H) {h : Nat} (hh : h ≤ H) : ∃ m : Int, s = wd g h * m ∧ 1 ≤ m := by
  refine ⟨2 ^ (H - h), ?_, p2_pos _⟩
  rw [f.s0, wd_nat, Int.mul_assoc, ← Int.pow_add, show h + (H - h) = H from by omega]
theorem Fit.wd_le {g s : Int} {H : Nat} (f : Fit g s H) {h : Nat} (hh : h ≤ H) : wd g h ≤ s := by
  obtain ⟨m, e, hm⟩ := f.dvd hh
  have := wd_pos f.g1 h
  have h2 := Int.mul_le_mul_of_nonneg_left hm (show 0 ≤ wd g h by omega)
  omega
theorem lo_le {w a : Int} (hw : 0 < w) : a / w * w ≤ a ∧ a < a / w * w + w := by
  have h1 := Int.mul_ediv_add_emod a w
  have h2 := Int.emod_nonneg a (show w ≠ 0 by omega)
  have h3 := Int.emod_lt_of_pos a hw
  rw [Int.mul_comm] at h1
  omega
/-- The window around a slot. -/
structure Around (g s : Int) (h a : Int) : Prop where
  a0 : 0 ≤ lo g h a
  a1 : lo g h a ≤ a
  a2 : a < hi g h a
  a3 : hi g h a ≤ s
theorem Fit.around {g s : Int} {H : Nat} (f : Fit g s H) {h : Nat} (hh : h ≤ H) {a : Int} (a0 : 0 ≤ a) (a1 : a < s) : Around g s h a := by
  have hw := wd_pos f.g1 h
  obtain ⟨m, e, hm⟩ := f.dvd hh
  have hl := lo_le (w := wd g h) (a := a) (by omega)
  have hq : 0 ≤ a / wd g h := Int.ediv_nonneg a0 (by omega)
  have hlt : a / wd g h < m := Int.ediv_lt_of_lt_mul (by omega) (by rw [Int.mul_comm]; omega)
  refine ⟨?_, hl.1, ?_, ?_⟩
  · exact Int.mul_nonneg hq (by omega)
  · unfold hi lo; omega
  · unfold hi lo
    have h2 : (a / wd g h + 1) * wd g h ≤ m * wd g h := Int.mul_le_mul_of_nonneg_right (by omega) (by omega)
    rw [Int.add_mul, Int.one_mul, Int.mul_comm m] at h2
    omega
theorem lo_mod {g : Int} (h a : Int) : lo g h a % wd g h = 0 := by unfold lo; exact Int.mul_emod_left _ _
theorem half_div (a w : Int) (hw : 0 < w) : a / (2 * w) = a / w / 2 := by
  rw [Int.mul_comm 2 w, Int.ediv_ediv_of_nonneg (by omega)]
/-- Each window is one of the two halves of the next one around it. -/
theorem halves {g : Int} (hg : 4 ≤ g) (h : Nat) (a : Int) : (lo g ((h : Int) + 1) a = lo g h a ∨ hi g ((h : Int) + 1) a = hi g h a) ∧ lo g ((h : Int) + 1) a ≤ lo g h a ∧ hi g h a ≤ hi g ((h : Int) + 1) a ∧ hi g ((h : Int) + 1) a - lo g ((h : Int) + 1) a = 2 * (hi g h a - lo g h a) := by
  have hw := wd_pos hg h
  have e := wd_succ g h
  unfold hi lo
  rw [e, half_div a (wd g h) (by omega)]
  obtain ⟨q, hq⟩ : ∃ q, q = a / wd g h := ⟨_, rfl⟩
  rw [← hq]
  have e2 : q / 2 * (2 * wd g h) = (q / 2 * 2) * wd g h := by rw [Int.mul_assoc]
  rw [e2]
  rcases (show q % 2 = 0 ∨ q % 2 = 1 by omega) with h0 | h0
  · have : q / 2 * 2 = q := by omega
    rw [this]
    exact ⟨Or.inl rfl, by omega, by omega, by omega⟩
  · have : q / 2 * 2 = q - 1 := by omega
    rw [this, Int.sub_mul, Int.one_mul]
    exact ⟨Or.inr (by omega), by omega, by omega, by omega⟩
/-- Slots that have one window have one from there on. -/
theorem meet_up {g : Int} (hg : 4 ≤ g) (h : Nat) {a b : Int} (e : lo g h a = lo g h b) : lo g ((h : Int) + 1) a = lo g ((h : Int) + 1) b := by
  have hw := wd_pos hg h
  unfold lo at e ⊢
  have e1 : a / wd g h = b / wd g h := Int.eq_of_mul_eq_mul_right (by omega) e
  rw [wd_succ, half_div a _ (by omega), half_div b _ (by omega), e1]
theorem meet_ups {g : Int} (hg : 4 ≤ g) {a b : Int} {h : Nat} (e : lo g h a = lo g h b) : ∀ d : Nat, lo g ((h + d : Nat) : Int) a = lo g ((h + d : Nat) : Int) b
  | 0 => e
  | d + 1 => by
    have := meet_up hg (h + d) (meet_ups hg e d)
    rw [show ((h + d : Nat) : Int) + 1 = ((h + (d + 1) : Nat) : Int) from by omega] at this
    exact this
theorem Fit.meet_top {g s : Int} {H : Nat} (f : Fit g s H) {a : Int} (a0 : 0 ≤ a) (a1 : a < s) : lo g H a = 0 := by
  unfold lo
  rw [f.top, Int.ediv_eq_zero_of_lt a0 a1, Int.zero_mul]
/-- The least height at which two slots have one window. -/
theorem meetF_spec {g : Int} (hg : 4 ≤ g) {a b : Int} : ∀ (f h : Nat), lo g ((h + f : Nat) : Int) a = lo g ((h + f : Nat) : Int) b → (∀ k : Nat, k < h → lo g k a ≠ lo g k b) →
    ∃ m : Nat, meetF f g a b h = m ∧ h ≤ m ∧ m ≤ h + f ∧ lo g m a = lo g m b ∧ ∀ k : Nat, k < m → lo g k a ≠ lo g k b
  | 0, h, e, hk => ⟨h, rfl, Nat.le_refl _, Nat.le_refl _, e, hk⟩
  | f + 1, h, e, hk => by
    unfold meetF
    by_cases hq : lo g h a = lo g h b
    · rw [if_pos hq]
      exact ⟨h, rfl, Nat.le_refl _, by omega, hq, hk⟩
    · rw [if_neg hq]
      obtain ⟨m, h1, h2, h3, h4, h5⟩ := meetF_spec hg f (h + 1) ((show h + (f + 1) = h + 1 + f by omega) ▸ e) (fun k hk2 => by
        rcases Nat.lt_or_ge k h with h6 | h6
        · exact hk k h6
        · have : k = h := by omega
          rw [this]; exact hq)
      exact ⟨m, h1, by omega, by omega, h4, h5⟩
/-- Two slots have one window of a height just from the height of Meet on. -/
theorem Fit.meet {g s : Int} {H : Nat} (f : Fit g s H) {a b : Int} (a0 : 0 ≤ a) (a1 : a < s) (b0 : 0 ≤ b) (b1 : b < s) :
    ∃ m : Nat, meetF (high g s).toNat g a b 0 = m ∧ m ≤ H ∧ ∀ h : Nat, lo g h a = lo g h b ↔ m ≤ h := by
  have e : lo g ((0 + (high g s).toNat : Nat) : Int) a = lo g ((0 + (high g s).toNat : Nat) : Int) b := by
    rw [f.hH, Int.toNat_natCast, Nat.zero_add, f.meet_top a0 a1, f.meet_top b0 b1]
  obtain ⟨m, h1, _, h3, h4, h5⟩ := meetF_spec f.g1 (high g s).toNat 0 e (fun k hk => absurd hk (by omega))
  rw [f.hH, Int.toNat_natCast] at h3
  refine ⟨m, h1, by omega, fun h => ⟨fun hh => ?_, fun hh => ?_⟩⟩
  · rcases Nat.lt_or_ge h m with h6 | h6
    · exact absurd hh (h5 h h6)
    · exact h6
  · have := meet_ups f.g1 h4 (h - m)
    rw [show m + (h - m) = h from by omega] at this
    exact this
end Wn
end Go.Proofs.Ythnpmbbhbaaloaa

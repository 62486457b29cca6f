/- Words in which one slot is turned: what they tell of each slot. No program is named here but the words' own row. -/
import Derived.Test.YtgbgeedcfccclaaDoorWords
namespace Go.Proofs.YtgbgeedcfccclaaDoor
open Go.RowKit

theorem set_getD (ws : List Nat) (k i y : Nat) (hk : k < ws.length) : (ws.set k y).getD i 0 = if i = k then y else ws.getD i 0 := by
  simp only [List.getD, List.getElem?_set]
  by_cases h : k = i
  · subst h; simp [hk]
  · rw [if_neg h, if_neg (fun e => h e.symm)]
theorem isB_putW (ws : List Nat) (s : Nat) (is : Bool) (t : Nat) (hs : s / 64 < ws.length) : Oc.isB (Oc.putW ws s is) t = if t = s then is else Oc.isB ws t := by
  unfold Oc.isB Oc.putW
  rw [set_getD _ _ _ _ hs]
  by_cases h : t / 64 = s / 64
  · rw [if_pos h, Oc.putN_bit]
    by_cases h2 : t % 64 = s % 64
    · rw [if_pos h2, if_pos (by omega)]
    · rw [if_neg h2, if_neg (fun e => h2 (by rw [e])), h]
  · rw [if_neg h, if_neg (fun e => h (by rw [e]))]
theorem wide_putW {ws : List Nat} (h : Wide ws) (s : Nat) (is : Bool) : Wide (Oc.putW ws s is) := by
  intro i
  unfold Oc.putW
  by_cases hk : s / 64 < ws.length
  · rw [set_getD _ _ _ _ hk]
    split
    · exact Oc.putN_lt (B := 64) (h (s / 64)) (by omega)
    · exact h i
  · rw [List.set_eq_of_length_le (by omega)]
    exact h i
theorem places_congr {ws vs : List Nat} {a b : Nat} (h : ∀ t, a ≤ t → t < b → Oc.isB ws t = Oc.isB vs t) : Oc.places ws a b = Oc.places vs a b := by
  unfold Oc.places
  apply List.filter_congr
  intro t ht
  rw [List.mem_range'_1] at ht
  exact h t (by omega) (by omega)
theorem chk_putW {ws : List Nat} {n : Int} (hc : Oc.chk ws n = 0) (s : Nat) (is : Bool) (hs : (s : Int) < n) : Oc.chk (Oc.putW ws s is) n = 0 := by
  obtain ⟨m, rfl, hm, hlen, hcl⟩ := Oc.chk_ok hc
  have hbad : Oc.badN (m : Int) = false := by simp [Oc.badN]; omega
  have hp : Oc.places (Oc.putW ws s is) m (64 * ws.length) = Oc.places ws m (64 * ws.length) :=
    places_congr fun t h1 h2 => by rw [isB_putW _ _ _ _ (by omega), if_neg (by omega)]
  have hmay : Oc.mayB (Oc.putW ws s is) m = true := by
    unfold Oc.mayB Oc.clearB
    rw [putW_length, hp]
    unfold Oc.clearB at hcl
    rw [hcl]
    simp [hlen]
  unfold Oc.chk
  rw [hbad, Int.toNat_natCast, hmay]; rfl
theorem hasE_of {ws : List Nat} {n s : Int} (h : Oc.hasE ws n s = 0) : Oc.chk ws n = 0 ∧ 0 ≤ s ∧ s < n := by
  unfold Oc.hasE at h
  split at h
  · rename_i hc
    split at h
    · omega
    · exact ⟨hc, by omega, by omega⟩
  · contradiction
theorem hasE_same {ws vs : List Nat} {n : Int} (h1 : Oc.chk ws n = 0) (h2 : Oc.chk vs n = 0) (s : Int) : Oc.hasE vs n s = Oc.hasE ws n s := by
  unfold Oc.hasE; rw [if_pos h1, if_pos h2]
theorem withW_nil (n s : Int) (is : Bool) : Oc.withW [] n s is = [] := by
  unfold Oc.withW Oc.putW; split <;> simp
theorem hasV_putW {ws : List Nat} {n : Int} (hc : Oc.chk ws n = 0) (s : Nat) (is : Bool) (hs : (s : Int) < n) (b : Int) (hb : b ≠ s) : Oc.hasV (Oc.putW ws s is) n b = Oc.hasV ws n b := by
  have hE := hasE_same hc (chk_putW hc s is hs) b
  unfold Oc.hasV
  rw [hE]
  split
  · rename_i h0
    obtain ⟨_, h1, h2⟩ := hasE_of h0
    obtain ⟨m, rfl, hm, hlen, _⟩ := Oc.chk_ok hc
    rw [isB_putW _ _ _ _ (by omega), if_neg (by omega)]
  · rfl
end Go.Proofs.YtgbgeedcfccclaaDoor

/- The plain functions of layer 2 (occ): words of 64 bits as lists of numbers. No program is named here. -/
import Derived.RowKit
namespace Go.Proofs.Ytephmejhglcdiaa
namespace Oc

def isB (ws : List Nat) (s : Nat) : Bool := (ws.getD (s / 64) 0).testBit (s % 64)
def places (ws : List Nat) (a b : Nat) : List Nat := (List.range' a (b - a)).filter (isB ws)
def clearB (ws : List Nat) (n : Nat) : Bool := (places ws n (64 * ws.length)).isEmpty
def mayB (ws : List Nat) (n : Nat) : Bool := ws.length == (n + 63) / 64 && clearB ws n
def badN (n : Int) : Bool := decide (n < 0) || decide (65536 < n)
def chk (ws : List Nat) (n : Int) : Int := if badN n then 2 else if mayB ws n.toNat then 0 else 8

theorem places_self (ws : List Nat) (a : Nat) : places ws a a = [] := by simp [places]
theorem places_snoc (ws : List Nat) (a k : Nat) (h : a ≤ k) : places ws a (k + 1) = if isB ws k then places ws a k ++ [k] else places ws a k := by
  unfold places
  rw [show k + 1 - a = (k - a) + 1 from by omega, List.range'_concat, List.filter_append]
  rw [show a + 1 * (k - a) = k from by omega]
  cases hk : isB ws k <;> simp [hk]
theorem places_ge (ws : List Nat) (a b : Nat) (h : b ≤ a) : places ws a b = [] := by
  unfold places; rw [show b - a = 0 from by omega]; rfl
theorem mem_places {ws : List Nat} {a b s : Nat} : s ∈ places ws a b ↔ (a ≤ s ∧ s < b) ∧ isB ws s = true := by
  unfold places
  rw [List.mem_filter, List.mem_range'_1]
  constructor
  · rintro ⟨h1, h2⟩; exact ⟨by omega, h2⟩
  · rintro ⟨h1, h2⟩; exact ⟨by omega, h2⟩
theorem places_length_le (ws : List Nat) (a b : Nat) : (places ws a b).length ≤ b - a := by
  unfold places
  have := List.length_filter_le (isB ws) (List.range' a (b - a))
  simpa using this
theorem places_split (ws : List Nat) (a b c : Nat) (h1 : a ≤ b) (h2 : b ≤ c) : places ws a c = places ws a b ++ places ws b c := by
  unfold places
  rw [← List.filter_append]
  congr 1
  have := List.range'_append (s := a) (m := b - a) (n := c - b) (step := 1)
  rw [show a + 1 * (b - a) = b from by omega, show b - a + (c - b) = c - a from by omega] at this
  exact this.symm
theorem clear_not {ws : List Nat} {n s : Nat} (h1 : n ≤ s) (h2 : s < 64 * ws.length) (h : isB ws s = true) : clearB ws n = false := by
  unfold clearB
  have : s ∈ places ws n (64 * ws.length) := mem_places.2 ⟨⟨h1, h2⟩, h⟩
  cases hp : places ws n (64 * ws.length) with
  | nil => rw [hp] at this; cases this
  | cons a l => rfl

def hasE (ws : List Nat) (n s : Int) : Int := if chk ws n = 0 then (if s < 0 ∨ n ≤ s then 2 else 0) else chk ws n
def hasV (ws : List Nat) (n s : Int) : Bool := if hasE ws n s = 0 then isB ws s.toNat else false
def countE (ws : List Nat) (n a b : Int) : Int := if chk ws n = 0 then (if a < 0 ∨ b < a ∨ n < b then 2 else 0) else chk ws n
def countV (ws : List Nat) (n a b : Int) : Int := if countE ws n a b = 0 then ((places ws a.toNat b.toNat).length : Int) else 0
def nthE (ws : List Nat) (n k : Int) : Int := if chk ws n = 0 then (if k < 0 ∨ ((places ws 0 n.toNat).length : Int) ≤ k then 6 else 0) else chk ws n
def nthV (ws : List Nat) (n k : Int) : Int := if nthE ws n k = 0 then (((places ws 0 n.toNat).getD k.toNat 0 : Nat) : Int) else 0
def nextE (ws : List Nat) (n s : Int) : Int := if chk ws n = 0 then (if s < 0 ∨ n < s then 2 else if (places ws s.toNat n.toNat).length = 0 then 6 else 0) else chk ws n
def nextV (ws : List Nat) (n s : Int) : Int := if nextE ws n s = 0 then (((places ws s.toNat n.toNat).getD 0 0 : Nat) : Int) else 0
def lastE (ws : List Nat) (n s : Int) : Int := if chk ws n = 0 then (if s < 0 ∨ n < s then 2 else if (places ws 0 s.toNat).length = 0 then 6 else 0) else chk ws n
def lastV (ws : List Nat) (n s : Int) : Int := if lastE ws n s = 0 then (((places ws 0 s.toNat).getD ((places ws 0 s.toNat).length - 1) 0 : Nat) : Int) else 0

theorem chk_ok {ws : List Nat} {n : Int} (h : chk ws n = 0) : ∃ m : Nat, n = m ∧ m ≤ 65536 ∧ ws.length = (m + 63) / 64 ∧ clearB ws m = true := by
  unfold chk at h
  cases hb : badN n
  · rw [hb] at h
    have hn : 0 ≤ n ∧ n ≤ 65536 := by
      simp only [badN, Bool.or_eq_false_iff, decide_eq_false_iff_not] at hb; omega
    cases hm : mayB ws n.toNat
    · rw [hm] at h; simp at h
    · simp only [mayB, Bool.and_eq_true, beq_iff_eq] at hm
      exact ⟨n.toNat, by omega, by omega, hm.1, hm.2⟩
  · rw [hb] at h; simp at h
end Oc
end Go.Proofs.Ytephmejhglcdiaa

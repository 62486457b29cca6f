/- What the laws of layer 3 lean on: short lists have no error; what was sealed is opened. No program is named here. -/
import Derived.Test.YthdondjhiflkaaaCrc
namespace Go.Proofs.Ythdondjhiflkaaa
theorem goE_short {bs : List Nat} (h : bs.length ≤ 1048576) : Cr.goE bs = 0 := by unfold Cr.goE; rw [if_neg (by omega)]
theorem goV_short {s : Nat} {bs : List Nat} (h : bs.length ≤ 1048576) : Cr.goV s bs = Cr.behind s bs := by unfold Cr.goV; rw [if_neg (by omega)]
theorem ofV_short {bs : List Nat} (h : bs.length ≤ 1048576) : Cr.ofV bs = Cr.sumB bs := by unfold Cr.ofV; rw [if_neg (by omega)]
theorem sealV_short {bs : List Nat} (h : bs.length ≤ 1048576) : Cr.sealV bs = Cr.sealed bs := by unfold Cr.sealV; rw [if_neg (by omega)]
theorem openE_sealed {bs : List Nat} (hb : Bytes bs) (h : bs.length ≤ 1048572) : Cr.openE (Cr.sealed bs) = 0 := by
  unfold Cr.openE
  rw [if_neg (by rw [Cr.sealed_length]; omega), Cr.isSealed_sealed hb.small, if_pos rfl]
theorem openV_sealed {bs : List Nat} (hb : Bytes bs) (h : bs.length ≤ 1048572) : Cr.openV (Cr.sealed bs) = bs := by
  unfold Cr.openV
  rw [if_pos (openE_sealed hb h), Cr.sealed_take]
theorem Small.bytes {bs : List Nat} (h : Cr.Small bs) : Bytes bs := by
  intro i
  by_cases hi : i < bs.length
  · have := h _ (List.getElem_mem hi)
    simpa [List.getD, List.getElem?_eq_getElem hi] using this
  · simp [List.getD, List.getElem?_eq_none (by omega : bs.length ≤ i)]
/-- A burst of sealed bytes: refused, or nothing is turned, or it is seen; and behind it again all is as it was. -/
theorem burst_facts {bs : List Nat} (hb : Bytes bs) (h : bs.length ≤ 1500) (at_ : Int) (m : Nat) (hm : m < 4294967296) :
    (Cr.burstE (Cr.sealed bs) at_ m = 2 ∧ Cr.burstV (Cr.sealed bs) at_ m = []) ∨
    (Cr.burstE (Cr.sealed bs) at_ m = 0 ∧ ∃ x, Cr.burstV (Cr.sealed bs) at_ m = x ∧ x.length = bs.length + 4 ∧ Bytes x ∧ Cr.burstE x at_ m = 0 ∧ Cr.burstV x at_ m = Cr.sealed bs ∧
      ((m = 0 ∧ Cr.openE x = 0 ∧ Cr.openV x = bs) ∨ (m ≠ 0 ∧ Cr.openE x = 8 ∧ Cr.openV x = []))) := by
  have hs : Cr.Small (Cr.sealed bs) := (bytes_sealed hb).small
  have hl := Cr.sealed_length bs
  cases hf : Cr.fitsB (Cr.sealed bs) at_ m
  · left
    have hE : Cr.burstE (Cr.sealed bs) at_ m = 2 := by unfold Cr.burstE; rw [if_neg (by omega), hf]; rfl
    exact ⟨hE, by unfold Cr.burstV; rw [hE]; rfl⟩
  · right
    have hE : Cr.burstE (Cr.sealed bs) at_ m = 0 := by unfold Cr.burstE; rw [if_neg (by omega), hf]; rfl
    have hx : Cr.burstV (Cr.sealed bs) at_ m = Cr.xorAt (Cr.sealed bs) (m * 2 ^ at_.toNat) := by unfold Cr.burstV; rw [if_pos hE]
    have hfit : m * 2 ^ at_.toNat < 256 ^ (Cr.sealed bs).length := by
      unfold Cr.fitsB at hf
      rw [Bool.and_eq_true, decide_eq_true_eq, decide_eq_true_eq] at hf
      exact hf.2
    refine ⟨hE, _, hx, by rw [Cr.xorAt_length, hl], Small.bytes (Cr.xorAt_small _ _ hs), ?_, ?_, ?_⟩
    · have : Cr.fitsB (Cr.xorAt (Cr.sealed bs) (m * 2 ^ at_.toNat)) at_ m = true := by
        unfold Cr.fitsB at hf ⊢; rw [Cr.xorAt_length]; exact hf
      unfold Cr.burstE; rw [Cr.xorAt_length, if_neg (by omega), this]; rfl
    · have hE2 : Cr.burstE (Cr.xorAt (Cr.sealed bs) (m * 2 ^ at_.toNat)) at_ m = 0 := by
        have : Cr.fitsB (Cr.xorAt (Cr.sealed bs) (m * 2 ^ at_.toNat)) at_ m = true := by
          unfold Cr.fitsB at hf ⊢; rw [Cr.xorAt_length]; exact hf
        unfold Cr.burstE; rw [Cr.xorAt_length, if_neg (by omega), this]; rfl
      unfold Cr.burstV; rw [if_pos hE2, Cr.xorAt_xor, Nat.xor_self, Cr.xorAt_zero]
    · by_cases h0 : m = 0
      · left
        subst h0
        rw [Nat.zero_mul, Cr.xorAt_zero]
        exact ⟨rfl, openE_sealed hb (by omega), openV_sealed hb (by omega)⟩
      · right
        have hO : Cr.openE (Cr.xorAt (Cr.sealed bs) (m * 2 ^ at_.toNat)) = 8 := by
          unfold Cr.openE; rw [Cr.xorAt_length, if_neg (by omega), Cr.burst_seen hb.small hm h0 hfit]; rfl
        exact ⟨h0, hO, by unfold Cr.openV; rw [hO]; rfl⟩
end Go.Proofs.Ythdondjhiflkaaa

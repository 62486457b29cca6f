/- What the document's own answers of layer 14 (package shelfmarkref14) return that only read: May, Check, Same, Live, Is, Find. -/
import Derived.Test.YtephmejhglcdiaaFn14
import Derived.Test.YtephmejhglcdiaaRefW01
namespace Go.Proofs.Ytephmejhglcdiaa
open Go.RowKit
set_option linter.unusedVariables false
set_option linter.unusedSimpArgs false

/-- The ways through the test of one number. -/
theorem hn_paths (x y : Int) : x < 0 ∨ (0 ≤ x ∧ 2147483647 < x) ∨ (0 ≤ x ∧ x ≤ 2147483647 ∧ y < -1) ∨ (0 ≤ x ∧ -1 ≤ y ∧ 0 ≤ y ∧ x = 2147483647) ∨ (0 ≤ x ∧ 0 ≤ y ∧ x < 2147483647) ∨ (0 ≤ x ∧ x ≤ 2147483647 ∧ y = -1) := by omega
theorem fine_not {t : Ht} {k : Nat} (hk : k < t.gens.length) (h : Hn.fineB t k = false) : Hn.mayB t = false := by
  cases e : Hn.mayB t
  · rfl
  · have := (Hn.fine_iff t k).2 (((Hn.may_iff t).1 e).fine k hk)
    rw [h] at this
    cases this
theorem fine_no {t : Ht} {k : Nat} (h : ¬ (0 ≤ Hn.g t k ∧ Hn.g t k ≤ 2147483647 ∧ -1 ≤ Hn.a t k ∧ (Hn.a t k < 0 ∨ Hn.g t k ≠ 2147483647))) : Hn.fineB t k = false := by
  cases e : Hn.fineB t k
  · rfl
  · exact absurd ((Hn.fine_iff t k).1 e) h
theorem may_fine {t : Ht} (h1 : t.ats.length = t.gens.length) (h2 : t.gens.length ≤ 65536) (h3 : ∀ j, j < t.gens.length → Hn.fineB t j = true) : Hn.mayB t = true := by
  refine (Hn.may_iff t).2 ⟨h1, h2, fun i hi => (Hn.fine_iff t i).1 (h3 i hi)⟩
def MayJ (t : Ht) (w : World) (i : Value) (wr : World) : Prop := ∃ k : Nat, k ≤ t.gens.length ∧ i = .int .i64 k ∧ wr = w ∧ ∀ j, j < k → Hn.fineB t j = true
set_option maxRecDepth 100000 in
set_option maxHeartbeats 2000000 in
theorem r14May (t : Ht) (A : HAds) (w : World) (h : HHeld w t A) :
    Calls Try.prog 39 #[hv t A] w fun e w' => e = .returned (.bool (Hn.mayB t)) ∧ Below w.heap.size w w' := by
  have HB := Lib.hid (fun o => (Below.refl w.heap.size w).alloc (Nat.le_refl _) o)
  have HX := Lib.hid (HBox.new w t A 24)
  have HG := Lib.hid (fun o => h.below (HB.out o))
  clear h
  obtain ⟨ag, aa, cg, ca⟩ := A
  unfold hCells at HX
  unfold hv
  dsimp only at HX HG ⊢
  by_cases h1 : ¬ t.ats.length = t.gens.length
  · have H := Lib.hid (show Hn.mayB t = false by
      cases e : Hn.mayB t
      · rfl
      · exact absurd ((Hn.may_iff t).1 e).len h1)
    have k1 : ((t.ats.length : Int) != t.gens.length) = true := by simp; omega
    clear h1
    obtain ⟨_, p0, p1, _, _⟩ := HX.out
    go_enter Try.func39, Try.ntmps39
    go_wp2
    go_ret
    rw [H.out]
    exact ⟨rfl, HB.out _⟩
  replace h1 := Decidable.not_not.1 h1
  have k1 : ((t.ats.length : Int) != t.gens.length) = false := by simp; omega
  by_cases h2 : ¬ t.gens.length ≤ 65536
  · have H := Lib.hid (show Hn.mayB t = false by
      cases e : Hn.mayB t
      · rfl
      · exact absurd ((Hn.may_iff t).1 e).most h2)
    obtain ⟨_, p0, p1, _, _⟩ := HX.out
    have HH1 := Lib.hid h1
    clear h1
    go_enter Try.func39, Try.ntmps39
    go_wp2
    go_ret
    rw [H.out]
    exact ⟨rfl, HB.out _⟩
  replace h2 := Decidable.not_not.1 h2
  have HH1 := Lib.hid h1
  clear h1
  obtain ⟨_, p0, p1, _, _⟩ := HX.out
  go_enter Try.func39, Try.ntmps39
  go_wp2
  go_loopw [3] (MayJ t (w.alloc (.cells #[.slice ag t.gens.length cg, .slice aa t.ats.length ca] 24))) (fun i _ => t.gens.length - (intOf i).toNat)
  case atStart => exact ⟨0, Nat.zero_le _, rfl, rfl, fun j hj => by omega⟩
  case round =>
    obtain ⟨k, hk, rfl, rfl, ht⟩ := hrel
    have HT := Lib.hid ht
    clear ht
    by_cases hlt : k < t.gens.length
    · obtain ⟨b1, o1, hA1, _, c1⟩ := (HG.out (.cells #[.slice ag t.gens.length cg, .slice aa t.ats.length ca] 24)).gens.cell hlt
      obtain ⟨b2, o2, hA2, _, c2⟩ := (HG.out (.cells #[.slice ag t.gens.length cg, .slice aa t.ats.length ca] 24)).ats.cell (show k < t.ats.length by rw [HH1.out]; exact hlt)
      have hl2 : (k : Int) < (t.ats.length : Int) := by rw [HH1.out]; omega
      dsimp only at hA1 hA2
      subst hA1 hA2
      have HN := Lib.hid (fun h => fine_not (t := t) hlt (fine_no h))
      have HY := Lib.hid (show (0 ≤ Hn.g t k ∧ Hn.g t k ≤ 2147483647 ∧ -1 ≤ Hn.a t k ∧ (Hn.a t k < 0 ∨ Hn.g t k ≠ 2147483647)) → ∀ j, j < k + 1 → Hn.fineB t j = true from fun h j hj => by
        rcases Nat.lt_or_ge j k with h1 | h1
        · exact HT.out j h1
        · obtain rfl : j = k := by omega
          exact (Hn.fine_iff t j).2 h)
      obtain ⟨x, hx⟩ : ∃ x, Hn.g t k = x := ⟨_, rfl⟩
      obtain ⟨y, hy⟩ : ∃ y, Hn.a t k = y := ⟨_, rfl⟩
      rw [show t.gens.getD k 0 = x from hx] at c1
      rw [show t.ats.getD k 0 = y from hy] at c2
      rw [hx, hy] at HN HY
      clear hx hy HT HG HX
      rcases hn_paths x y with h | ⟨h, h'⟩ | ⟨h, h', h''⟩ | ⟨h, h', h'', h3⟩ | ⟨h, h', h''⟩ | ⟨h, h', h''⟩
      · have HE := Lib.hid (HN.out (by omega))
        clear HN HY
        go_wp2
        go_ret
        rw [HE.out]
        exact ⟨rfl, HB.out _⟩
      · have HE := Lib.hid (HN.out (by omega))
        clear HN HY
        go_wp2
        go_ret
        rw [HE.out]
        exact ⟨rfl, HB.out _⟩
      · have HE := Lib.hid (HN.out (by omega))
        clear HN HY
        go_wp2
        go_ret
        rw [HE.out]
        exact ⟨rfl, HB.out _⟩
      · have HE := Lib.hid (HN.out (by omega))
        have k2 : (x == 2147483647) = true := by simp [h3]
        have h7 : x ≤ 2147483647 := by omega
        clear HN HY h3
        go_wp2
        go_ret
        rw [HE.out]
        exact ⟨rfl, HB.out _⟩
      · have HE := Lib.hid (HY.out (by omega))
        have k2 : (x == 2147483647) = false := by simp; omega
        clear HN HY
        go_wp2
        go_roundw
        case rel => exact ⟨k + 1, by omega, by go_num, rfl, HE.out⟩
        case measure => simp [intOf]; omega
      · have HE := Lib.hid (HY.out (by omega))
        have HE3 := Lib.hid h''
        have h9 : y < 0 := by omega
        have h8 : ¬ y < -1 := by omega
        clear HN HY h''
        go_wp2
        go_roundw
        case rel => exact ⟨k + 1, by omega, by go_num, rfl, HE.out⟩
        case measure => simp [intOf]; omega
    · have HE := Lib.hid (may_fine HH1.out h2 (fun j hj => HT.out j (by omega)))
      clear HT
      go_wp2
      go_ret
      rw [HE.out]
      exact ⟨rfl, HB.out _⟩
end Go.Proofs.Ytephmejhglcdiaa

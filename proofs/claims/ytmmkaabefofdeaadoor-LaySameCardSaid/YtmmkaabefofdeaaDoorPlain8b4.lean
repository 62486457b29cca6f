/- Layer 8, plain: an array of another size, without pairs, with the ledger of one, may be. No program is named here. -/
import Derived.Test.YtmmkaabefofdeaaDoorPlain084
import Derived.Test.YtmmkaabefofdeaaDoorM23
namespace Go.Proofs.YtmmkaabefofdeaaDoor
open Go.RowKit
set_option linter.unusedVariables false

theorem isB_zeros (n i : Nat) : Oc.isB (List.replicate n 0) i = false := by
  unfold Oc.isB
  rw [getD_zerosN]
  simp
/-- What is known of an array without pairs. -/
structure Bare (s : Sl) (t : Sl) (m : Nat) : Prop where
  may : t.May
  keys : t.keys.length = m
  seg : t.seg = s.seg
  laid : t.laid = s.laid
  off : ∀ i, Oc.isB t.words i = false
  ok : t.Ok
  short : t.Short
theorem base_bare {s : Sl} {m : Nat} (hf : Sl.fitsB s.seg m = true) (hs : In64 s.seg) (hl : s.laid < 18446744073709551616) : Bare s (Ly.base s m) m := by
  obtain ⟨f1, f2, f3, f4, f5, f6, f7⟩ := fits_yes hf
  have hq : (m : Int) / s.seg ≤ 65536 := by have := Int.ediv_le_self (a := (m : Int)) s.seg (by omega); omega
  have hq0 : 0 ≤ (m : Int) / s.seg := Int.ediv_nonneg (by omega) (by omega)
  have hk : (Ly.base s m).keys.length = m := by show (List.replicate _ _).length = m; rw [List.length_replicate, Int.toNat_natCast]
  have hoff : ∀ i, Oc.isB (Ly.base s m).words i = false := fun i => isB_zeros _ i
  refine ⟨⟨?_, ?_, ?_, fun i _ => hoff i, ?_, fun i _ => ⟨getD_zeros _ _, getD_zeros _ _⟩, fun j hj => ?_⟩, hk, rfl, rfl, hoff, ?_, ?_⟩
  · rw [hk]; exact hf
  · show (List.replicate _ _).length = (List.replicate _ _).length
    simp only [List.length_replicate]
  · rw [hk]
    show (List.replicate _ _).length = _
    rw [List.length_replicate]
    omega
  · rw [hk]
    show ((List.replicate _ _).length : Int) = _
    rw [List.length_replicate]
    exact Int.toNat_of_nonneg hq0
  · have e : Oc.places (Ly.base s m).words (j * (Ly.base s m).seg.toNat) ((j + 1) * (Ly.base s m).seg.toNat) = [] := by
      rw [List.eq_nil_iff_forall_not_mem]
      intro x hx
      have := (Oc.mem_places.1 hx).2
      rw [hoff] at this
      cases this
    unfold Sl.countOf
    rw [e]
    exact getD_zeros _ _
  · exact ⟨hs, wide_zeros _, all64_zeros _, all64_zeros _, all64_zeros _, hl⟩
  · refine ⟨?_, ?_, ?_, ?_⟩
    · show (List.replicate _ _).length ≤ _; rw [List.length_replicate]; omega
    · show (List.replicate _ _).length ≤ _; rw [List.length_replicate]; omega
    · show (List.replicate _ _).length ≤ _; rw [List.length_replicate]; omega
    · show (List.replicate _ _).length ≤ _; rw [List.length_replicate]; omega
end Go.Proofs.YtmmkaabefofdeaaDoor

/- Layer 8, plain: what is answered fits in memory. No program is named here. -/
import Derived.Test.YtmmkaabefofdeaaDoorRefE084
import Derived.Test.YtmmkaabefofdeaaDoorM08
namespace Go.Proofs.YtmmkaabefofdeaaDoor
open Go.RowKit
set_option linter.unusedVariables false

structure Fine (s : Sl) : Prop where
  ok : s.Ok
  short : s.Short
theorem fine_none : Fine Sl.none := ⟨ok_none, short_none⟩
theorem spread_fine {s : Sl} (h : s.Fit 64) (a b : Nat) (hb : b ≤ 65536) (ps : List (Int × Int)) (hn : ps.length ≤ 65536) (h64 : In64P ps) : Fine (Ly.spreadS s a b ps) := by
  have e : Ly.spreadS s a b ps = (s.wiped a ((b : Int) - (a : Int)).toNat).laidIn (Sp.ofs ps.length a b) ps ps.length := by
    unfold Ly.spreadS Sl.filled
    rw [Int.toNat_natCast]
  have h1 := wiped_fit h a ((b : Int) - (a : Int)).toNat (by omega)
  have h2 := laidIn_fit h1 (Sp.ofs ps.length a b) ps ps.length (by omega) h64
  rw [e]
  exact ⟨h2.ok, h2.short⟩
theorem even_fine {s : Sl} (hok : s.Ok) (hs : s.Short) (a b : Int) : Fine (Ly.evenS s a b) := by
  by_cases h : s.pairsE a b = 0
  · obtain ⟨hm, x, y, rfl, rfl, hxy, hy⟩ := Ly.pairs_parts h
    rw [Ly.even_ok h]
    have := hs.keys
    have := Ly.of_len s x y
    exact spread_fine (may_fit hm hok hs) x y (by omega) _ (by omega) (of_in64 hok x y)
  · rw [Ly.even_no h]; exact fine_none
theorem with_fine {s : Sl} (hok : s.Ok) (hs : s.Short) (a b k : Int) {p : Int × Int} (h1 : In64 p.1) (h2 : In64 p.2) : Fine (Ly.withS s a b k p) := by
  by_cases h : Ly.withE s a b k = 0
  · have hp : s.pairsE a b = 0 := by
      unfold Ly.withE at h
      split at h
      · assumption
      · exact h
    obtain ⟨hm, x, y, rfl, rfl, hxy, hy⟩ := Ly.pairs_parts hp
    have e := Ly.with_e hp k
    rw [h] at e
    have hk : 0 ≤ k := by
      split at e
      · omega
      · split at e
        · rename_i h3; exact h3.1
        · omega
    obtain ⟨m, rfl⟩ : ∃ m : Nat, k = m := ⟨k.toNat, by omega⟩
    rw [Ly.with_s h]
    have := hs.keys
    have := Ly.of_len s x y
    have := Ly.among_length (s.of x y) m p
    have hfull : ¬ ((s.of x y).length : Int) = (y : Int) - (x : Int) := by
      intro h3
      rw [if_pos h3] at e
      omega
    exact spread_fine (may_fit hm hok hs) x y (by omega) _ (by omega) (Ly.among_in64 (of_in64 hok x y) m h1 h2)
  · rw [Ly.with_no h]; exact fine_none
theorem into_fine {s : Sl} (hok : s.Ok) (hs : s.Short) (size : Int) (ps : List (Int × Int)) (hn : ps.length ≤ 65536) (h64 : In64P ps) : Fine (Ly.intoS s size ps) := by
  by_cases h : Ly.intoE s size ps.length = 0
  · have hm : s.mayB = true := by
      cases hm : s.mayB
      · rw [Ly.into_bad hm] at h; omega
      · rfl
    have e := Ly.into_may hm size ps.length
    rw [h] at e
    have hf : Sl.fitsB s.seg size = true := by
      cases hf : Sl.fitsB s.seg size
      · rw [hf, Bool.false_and] at e; simp at e
      · rfl
    obtain ⟨f1, f2, f3, f4, f5, f6, f7⟩ := fits_yes hf
    obtain ⟨m, rfl⟩ : ∃ m : Nat, size = m := ⟨size.toNat, by omega⟩
    have BA := base_bare hf hok.seg hok.laid
    have e2 : Ly.intoS s m ps = Ly.spreadS (Ly.base s m) (0 : Nat) m ps := by unfold Ly.intoS; rw [if_pos h]; rfl
    rw [e2]
    exact spread_fine (may_fit (may_iff.2 BA.may) BA.ok BA.short) 0 m (by omega) ps hn h64
  · rw [Ly.into_no h]; exact fine_none
end Go.Proofs.YtmmkaabefofdeaaDoor

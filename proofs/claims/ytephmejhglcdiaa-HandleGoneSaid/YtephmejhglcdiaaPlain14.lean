/- Facts of layer 14's plain functions: what is answered stays within bounds; what is given out is found, and is new; what is dropped is lost. No program is named here. -/
import Derived.Test.YtephmejhglcdiaaFn14
namespace Go.Proofs.Ytephmejhglcdiaa
open Go.RowKit
set_option linter.unusedVariables false
set_option linter.unusedSimpArgs false

theorem sameB_self (t : Ht) : Hn.sameB t t = true := by unfold Hn.sameB; simp
namespace Hn
theorem make_cases (t : Ht) (p : Int) : (makeE t p = 0 ∧ May t ∧ 0 ≤ p ∧ fullB t = false ∧ makeV t p = given t p ∧ makeH t p = hnd t) ∨ (¬ makeE t p = 0 ∧ makeV t p = Ht.zero ∧ makeH t p = (0, 0)) := by
  by_cases h : makeE t p = 0
  · refine Or.inl ⟨h, ?_⟩
    have hv : makeV t p = given t p := by unfold makeV; rw [if_pos h]
    have hh : makeH t p = hnd t := by unfold makeH; rw [if_pos h]
    unfold makeE at h
    split at h
    · rename_i hc
      split at h
      · cases h
      · split at h
        · cases h
        · rename_i h0 hf
          exact ⟨chk_may.1 hc, by omega, by simpa using hf, hv, hh⟩
    · rename_i hc; exact absurd h hc
  · exact Or.inr ⟨h, by unfold makeV; rw [if_neg h], by unfold makeH; rw [if_neg h]⟩
theorem find_cases (t : Ht) (x : Int × Int) : (findE t x = 0 ∧ May t ∧ isB t x = true ∧ findV t x = a t x.1.toNat) ∨ (findE t x = 140 ∧ May t ∧ isB t x = false ∧ findV t x = 0) ∨ (findE t x = 8 ∧ chkE t = 8 ∧ findV t x = 0) := by
  by_cases hc : chkE t = 0
  · cases hi : isB t x
    · have e : findE t x = 140 := by unfold findE; rw [if_pos hc, hi, if_neg (by simp)]
      exact Or.inr (Or.inl ⟨e, chk_may.1 hc, rfl, by unfold findV; rw [e, if_neg (by omega)]⟩)
    · have e : findE t x = 0 := by unfold findE; rw [if_pos hc, hi, if_pos rfl]
      exact Or.inl ⟨e, chk_may.1 hc, rfl, by unfold findV; rw [e, if_pos rfl]⟩
  · have e : findE t x = 8 := by unfold findE; rw [if_neg hc]; exact chk_bad hc
    exact Or.inr (Or.inr ⟨e, chk_bad hc, by unfold findV; rw [e, if_neg (by omega)]⟩)
theorem set_cases (t : Ht) (x : Int × Int) (p : Int) : (setE t x p = 0 ∧ May t ∧ 0 ≤ p ∧ isB t x = true ∧ setV t x p = moved t x.1.toNat p) ∨ (¬ setE t x p = 0 ∧ setV t x p = Ht.zero) := by
  by_cases h : setE t x p = 0
  · refine Or.inl ⟨h, ?_⟩
    have hv : setV t x p = moved t x.1.toNat p := by unfold setV; rw [if_pos h]
    unfold setE at h
    split at h
    · rename_i hc
      split at h
      · cases h
      · split at h
        · rename_i h0 hi; exact ⟨chk_may.1 hc, by omega, hi, hv⟩
        · cases h
    · rename_i hc; exact absurd h hc
  · exact Or.inr ⟨h, by unfold setV; rw [if_neg h]⟩
theorem find_of {t : Ht} (hm : May t) (x : Int × Int) : findE t x = (if isB t x = true then 0 else 140) := by unfold findE; rw [if_pos (chk_may.2 hm)]
theorem findV_of {t : Ht} (hm : May t) (x : Int × Int) : findV t x = (if isB t x = true then a t x.1.toNat else 0) := by
  unfold findV
  rw [find_of hm]
  cases isB t x <;> simp
/-- Whether a handle is given out, and where: all of it hangs on its number's count and place. -/
theorem is_same {t t' : Ht} {x : Int × Int} (h1 : x.1 < (t.gens.length : Int) → x.1 < (t'.gens.length : Int)) (h2 : x.1 < (t'.gens.length : Int) → 0 ≤ a t' x.1.toNat → g t' x.1.toNat = x.2 → x.1 < (t.gens.length : Int)) (h3 : 0 ≤ x.1 → g t x.1.toNat = x.2 ∨ g t' x.1.toNat = x.2 → a t x.1.toNat = a t' x.1.toNat ∧ g t x.1.toNat = g t' x.1.toNat) : isB t x = isB t' x := by
  rw [Bool.eq_iff_iff, is_iff, is_iff]
  constructor
  · rintro ⟨q1, q2, q3, q4⟩
    obtain ⟨e1, e2⟩ := h3 q1 (Or.inl q4)
    exact ⟨q1, h1 q2, by omega, by omega⟩
  · rintro ⟨q1, q2, q3, q4⟩
    obtain ⟨e1, e2⟩ := h3 q1 (Or.inr q4)
    exact ⟨q1, h2 q2 q3 q4, by omega, by omega⟩
theorem hnd_in {t : Ht} (p : Int) (hm : May t) : (hnd t).1 = ((free t : Nat) : Int) ∧ (hnd t).2 = g (given t p) (free t) ∧ free t < (given t p).gens.length := by
  refine ⟨rfl, by rw [given_g]; rfl, ?_⟩
  unfold given
  split
  · assumption
  · have := free_le t; simp; omega
/-- What is given out is found where it is. -/
theorem made_found {t : Ht} (hm : May t) (hf : fullB t = false) {p : Int} (hp : 0 ≤ p) : findE (given t p) (hnd t) = 0 ∧ findV (given t p) (hnd t) = p := by
  have hm' := may_given hm hf hp
  obtain ⟨e1, e2, e3⟩ := hnd_in p hm
  have hi : isB (given t p) (hnd t) = true := by
    rw [is_iff, e1, e2]
    refine ⟨by omega, by omega, ?_, rfl⟩
    rw [show ((free t : Nat) : Int).toNat = free t from rfl, given_a hm, if_pos rfl]
    exact hp
  rw [find_of hm', findV_of hm', hi, if_pos rfl, if_pos rfl, e1, show ((free t : Nat) : Int).toNat = free t from rfl, given_a hm, if_pos rfl]
  exact ⟨rfl, rfl⟩
/-- It was not given out. -/
theorem made_new {t : Ht} (hm : May t) : findE t (hnd t) = 140 := by
  rw [find_of hm]
  have : isB t (hnd t) = false := by
    cases e : isB t (hnd t)
    · rfl
    · obtain ⟨_, h2, h3, _⟩ := (is_iff t (hnd t)).1 e
      have h2' : free t < t.gens.length := by have : (hnd t).1 = ((free t : Nat) : Int) := rfl; omega
      have := ((free_iff t _).1 (free_at h2')).1
      have h3' : 0 ≤ a t (free t) := h3
      omega
  rw [this, if_neg (by simp)]
/-- All others stay. -/
theorem made_other {t : Ht} (hm : May t) (hf : fullB t = false) {p : Int} (hp : 0 ≤ p) {o : Int × Int} (ho : o ≠ hnd t) : findE t o = findE (given t p) o ∧ findV t o = findV (given t p) o := by
  have hm' := may_given hm hf hp
  have hl := hm.len
  have key : isB t o = isB (given t p) o ∧ (isB t o = true → a t o.1.toNat = a (given t p) o.1.toNat) := by
    obtain ⟨l1, l2, l3⟩ := given_lens hm p
    by_cases e : 0 ≤ o.1 ∧ o.1.toNat = free t
    · -- the number that is given out, of another count
      have hg : g t (free t) ≠ o.2 := fun h => ho (by
        obtain ⟨o1, o2⟩ := o
        have e1 : o1 = ((free t : Nat) : Int) := by have := e.2; dsimp only at this e; omega
        rw [e1]
        show _ = (((free t : Nat) : Int), g t (free t))
        rw [h])
      have h1 : isB t o = false := by
        cases h : isB t o
        · rfl
        · have := ((is_iff t o).1 h).2.2.2; rw [e.2] at this; exact absurd this hg
      have h2 : isB (given t p) o = false := by
        cases h : isB (given t p) o
        · rfl
        · have := ((is_iff _ o).1 h).2.2.2; rw [e.2, given_g] at this; exact absurd this hg
      exact ⟨h1.trans h2.symm, fun h => by rw [h1] at h; cases h⟩
    · have hne : 0 ≤ o.1 → o.1.toNat ≠ free t := fun h1 h2 => e ⟨h1, h2⟩
      refine ⟨is_same (fun h => by omega) (fun h1 h2 h3 => ?_) (fun h _ => ⟨by rw [given_a hm, if_neg (hne h)], by rw [given_g]⟩), fun h => ?_⟩
      · by_cases hx : o.1 < (t.gens.length : Int)
        · exact hx
        · have h0 : 0 ≤ o.1 := by omega
          have := hne h0
          have hfl : free t < t.gens.length ∨ free t = t.gens.length := by have := free_le t; omega
          rcases hfl with hfl | hfl
          · have : (given t p).gens = t.gens := by unfold given; rw [if_pos hfl]
            rw [this] at h1; omega
          · omega
      · have h0 := ((is_iff t o).1 h).1
        rw [given_a hm, if_neg (hne h0)]
  rw [find_of hm, find_of hm', findV_of hm, findV_of hm', ← key.1]
  refine ⟨rfl, ?_⟩
  cases h : isB t o
  · rfl
  · rw [if_pos rfl, if_pos rfl, key.2 h]
/-- What is moved is there, and nothing else is. -/
theorem moved_found {t : Ht} (hm : May t) {x : Int × Int} (hx : isB t x = true) {p : Int} (hp : 0 ≤ p) : findE (moved t x.1.toNat p) x = 0 ∧ findV (moved t x.1.toNat p) x = p := by
  have hm' := may_moved hm hx hp
  obtain ⟨h1, h2, h3, h4⟩ := (is_iff t x).1 hx
  have ha : a (moved t x.1.toNat p) x.1.toNat = p := by rw [moved_a, if_pos ⟨rfl, by have := hm.len; omega⟩]
  have hi : isB (moved t x.1.toNat p) x = true := (is_iff _ x).2 ⟨h1, h2, by rw [ha]; exact hp, h4⟩
  rw [find_of hm', findV_of hm', hi, if_pos rfl, if_pos rfl]
  exact ⟨rfl, ha⟩
theorem moved_other {t : Ht} (hm : May t) {x : Int × Int} (hx : isB t x = true) {p : Int} (hp : 0 ≤ p) {o : Int × Int} (ho : o ≠ x) : findE t o = findE (moved t x.1.toNat p) o ∧ findV t o = findV (moved t x.1.toNat p) o := by
  have hm' := may_moved hm hx hp
  obtain ⟨h1, h2, h3, h4⟩ := (is_iff t x).1 hx
  have key : isB t o = isB (moved t x.1.toNat p) o ∧ (isB t o = true → a t o.1.toNat = a (moved t x.1.toNat p) o.1.toNat) := by
    by_cases e : 0 ≤ o.1 ∧ o.1.toNat = x.1.toNat
    · have hg : g t x.1.toNat ≠ o.2 := fun h => ho (by
        obtain ⟨o1, o2⟩ := o
        obtain ⟨x1, x2⟩ := x
        dsimp only at *
        have : o1 = x1 := by omega
        rw [this, ← h, h4])
      have q1 : isB t o = false := by
        cases h : isB t o
        · rfl
        · have := ((is_iff t o).1 h).2.2.2; rw [e.2] at this; exact absurd this hg
      have q2 : isB (moved t x.1.toNat p) o = false := by
        cases h : isB (moved t x.1.toNat p) o
        · rfl
        · have := ((is_iff _ o).1 h).2.2.2; rw [e.2] at this; exact absurd this hg
      exact ⟨q1.trans q2.symm, fun h => by rw [q1] at h; cases h⟩
    · have hne : 0 ≤ o.1 → ¬ (o.1.toNat = x.1.toNat ∧ x.1.toNat < t.ats.length) := fun h1 h2 => e ⟨h1, h2.1⟩
      refine ⟨is_same (fun h => h) (fun h _ _ => h) (fun h _ => ⟨by rw [moved_a, if_neg (hne h)], rfl⟩), fun h => ?_⟩
      rw [moved_a, if_neg (hne ((is_iff t o).1 h).1)]
  rw [find_of hm, find_of hm', findV_of hm, findV_of hm', ← key.1]
  refine ⟨rfl, ?_⟩
  cases h : isB t o
  · rfl
  · rw [if_pos rfl, if_pos rfl, key.2 h]
theorem moved_back {t : Ht} {n : Nat} (h : n < t.ats.length) (p : Int) : moved (moved t n p) n (a t n) = t := by
  unfold moved a
  obtain ⟨gs, as⟩ := t
  dsimp only
  congr 1
  rw [List.set_set]
  apply List.ext_getElem?
  intro i
  rw [List.getElem?_set]
  split
  · rename_i e
    subst e
    simp [List.getD, h]
  · rfl
/-- Numbers that were dropped once: their count is beyond the handle's. -/
structure Past (t : Ht) (x : Int × Int) : Prop where
  n0 : 0 ≤ x.1
  n1 : x.1.toNat < t.gens.length
  up : x.2 < g t x.1.toNat
theorem past_lost {t : Ht} {x : Int × Int} (hm : May t) (h : Past t x) : findE t x = 140 := by
  rw [find_of hm]
  have : isB t x = false := by
    cases e : isB t x
    · rfl
    · have := ((is_iff t x).1 e).2.2.2; have := h.up; omega
  rw [this, if_neg (by simp)]
theorem past_back {t : Ht} {x : Int × Int} (hm : May t) (hx : isB t x = true) : Past (back t x.1.toNat) x := by
  obtain ⟨h1, h2, h3, h4⟩ := (is_iff t x).1 hx
  refine ⟨h1, by show _ < (t.gens.set _ _).length; rw [List.length_set]; omega, ?_⟩
  rw [back_g, if_pos ⟨rfl, by omega⟩]
  omega
theorem past_given {t : Ht} {x : Int × Int} (hm : May t) (h : Past t x) (p : Int) : Past (given t p) x :=
  ⟨h.n0, by have := (given_lens hm p).2.1; have := h.n1; omega, by rw [given_g]; exact h.up⟩
theorem past_not {t : Ht} {x : Int × Int} (h : Past t x) : hnd t ≠ x := by
  intro e
  have h1 : ((free t : Nat) : Int) = x.1 := congrArg Prod.fst e
  have h2 : g t (free t) = x.2 := congrArg Prod.snd e
  have := h.up
  rw [show x.1.toNat = free t by omega] at this
  omega
theorem past_drop {t : Ht} {x y : Int × Int} (hm : May t) (h : Past t x) : Past (back t y.1.toNat) x := by
  refine ⟨h.n0, by show _ < (t.gens.set _ _).length; rw [List.length_set]; exact h.n1, ?_⟩
  rw [back_g]
  have := h.up
  split
  · rename_i e; rw [e.1] at this; omega
  · exact this
end Hn
theorem ok_make {t : Ht} (h : t.Ok) {p : Int} (hp : In64 p) : (Hn.makeV t p).Ok := by
  rcases Hn.make_cases t p with ⟨_, _, _, _, e, _⟩ | ⟨_, e, _⟩
  · rw [e]; exact h.given hp
  · rw [e]; exact Ht.Ok.zero
theorem ok_set {t : Ht} (h : t.Ok) (x : Int × Int) {p : Int} (hp : In64 p) : (Hn.setV t x p).Ok := by
  rcases Hn.set_cases t x p with ⟨_, _, _, _, e⟩ | ⟨_, e⟩
  · rw [e]; exact h.moved _ hp
  · rw [e]; exact Ht.Ok.zero
theorem ok_drop {t : Ht} (h : t.Ok) (x : Int × Int) : (Hn.dropV t x).Ok := by
  unfold Hn.dropV
  split
  · rename_i e
    rcases Hn.find_cases t x with ⟨_, hm, hi, _⟩ | ⟨e2, _⟩ | ⟨e2, _⟩
    · obtain ⟨h1, h2, _, _⟩ := (Hn.is_iff t x).1 hi
      exact h.back (hm.fine _ (by omega)).2.1
    · omega
    · omega
  · exact Ht.Ok.zero
theorem short_make (t : Ht) (p : Int) : (Hn.makeV t p).Short := by
  rcases Hn.make_cases t p with ⟨_, hm, h0, hf, e, _⟩ | ⟨_, e, _⟩
  · rw [e]; exact Ht.short_of (Hn.may_given hm hf h0)
  · rw [e]; exact Ht.Short.zero
theorem short_set (t : Ht) (hs : t.Short) (x : Int × Int) (p : Int) : (Hn.setV t x p).Short := by
  unfold Hn.setV
  split
  · exact ⟨hs.gens, by show (t.ats.set _ _).length ≤ _; rw [List.length_set]; exact hs.ats⟩
  · exact Ht.Short.zero
theorem short_drop (t : Ht) (hs : t.Short) (x : Int × Int) : (Hn.dropV t x).Short := by
  unfold Hn.dropV
  split
  · exact ⟨by show (t.gens.set _ _).length ≤ _; rw [List.length_set]; exact hs.gens, by show (t.ats.set _ _).length ≤ _; rw [List.length_set]; exact hs.ats⟩
  · exact Ht.Short.zero
theorem hnd_64 (t : Ht) (h : t.Ok) (p : Int) : In64 (Hn.makeH t p).1 ∧ In64 (Hn.makeH t p).2 := by
  rcases Hn.make_cases t p with ⟨_, hm, h0, hf, _, e⟩ | ⟨_, _, e⟩
  · rw [e]
    refine ⟨?_, h.gens _⟩
    show In64 ((Hn.free t : Nat) : Int)
    have := Hn.free_le t
    have := hm.most
    exact ⟨by omega, by omega⟩
  · rw [e]; exact ⟨⟨by simp, by simp⟩, ⟨by simp, by simp⟩⟩
end Go.Proofs.Ytephmejhglcdiaa

/- Layer 8, plain: what a part that is spread has: its pairs, its ledger, its shares; spread again it is the same. No program is named here. -/
import Derived.Test.YtmmkaabefofdeaaDoorAns084
import Derived.Test.YtmmkaabefofdeaaDoorPlain8b4
namespace Go.Proofs.YtmmkaabefofdeaaDoor
open Go.RowKit
set_option linter.unusedVariables false

namespace Ly
theorem pairs_mk {s : Sl} (hm : s.mayB = true) {x y : Nat} (h1 : x ≤ y) (h2 : y ≤ s.keys.length) : s.pairsE x y = 0 ∧ s.pairsV x y = s.of x y := by
  have h : s.pairsE x y = 0 := by unfold Sl.pairsE; rw [if_pos hm, if_pos (part_iff.2 ⟨by omega, by omega, by omega⟩)]
  exact ⟨h, pairsV_ok h⟩
/-- What a spread part has. -/
structure Laid (s : Sl) (a b : Nat) (ps : List (Int × Int)) : Prop where
  may : (spreadS s a b ps).mayB = true
  keys : (spreadS s a b ps).keys.length = s.keys.length
  inn : (spreadS s a b ps).of a b = ps
  low : (spreadS s a b ps).of 0 a = s.of 0 a
  high : (spreadS s a b ps).of b s.keys.length = s.of b s.keys.length
  laid : (spreadS s a b ps).laid = (s.laid + ps.length) % 18446744073709551616
  bits : FilledBits s a b (Sp.ofs ps.length a b) ps
  at_ : ∀ k, k < ps.length → (spreadS s a b ps).pairAt ((Sp.ofs ps.length a b).getD k 0).toNat = ps.getD k (0, 0)
theorem laid {s : Sl} (hm : s.May) (hl : s.laid < 18446744073709551616) (hk : s.keys.length ≤ 65536) {a b : Nat} (ps : List (Int × Int)) (hn : a + ps.length ≤ b) (hb : b ≤ s.keys.length) : Laid s a b ps := by
  obtain ⟨r1, r2⟩ := ofs_rising (n := ps.length) (a := a) (b := b) hn (by omega)
  have F := filled_ok hm hl r1 (by omega) hb r2
  exact ⟨may_iff.2 F.may, F.keys, F.inn, F.low, F.high, F.laid, filled_bits hm r1 (by omega) hb r2, fun k hk2 => (F.at_ k (by omega)).2⟩
theorem of_room (s : Sl) {a b : Nat} (h : a ≤ b) : a + (s.of a b).length ≤ b := by have := of_len s a b; omega
theorem even_laid {s : Sl} (hok : s.Ok) (hs : s.Short) {a b : Nat} (he : s.pairsE a b = 0) : a ≤ b ∧ b ≤ s.keys.length ∧ s.mayB = true ∧ evenS s a b = spreadS s a b (s.of a b) ∧ Laid s a b (s.of a b) := by
  obtain ⟨hm, x, y, e1, e2, h1, h2⟩ := pairs_parts he
  obtain rfl : a = x := by omega
  obtain rfl : b = y := by omega
  exact ⟨h1, h2, hm, even_ok he, laid (may_iff.1 hm) hok.laid hs.keys _ (of_room s h1) h2⟩
/-- Two arrays, one spread from the other, have the same pairs before, in and behind the part. -/
theorem of_whole {s : Sl} {a b : Nat} {ps : List (Int × Int)} (L : Laid s a b ps) (h1 : a ≤ b) (h2 : b ≤ s.keys.length) : (spreadS s a b ps).of 0 s.keys.length = s.of 0 a ++ ps ++ s.of b s.keys.length := by
  rw [of_split _ 0 a s.keys.length (by omega) (by omega), of_split _ a b s.keys.length (by omega) (by omega), L.low, L.inn, L.high, List.append_assoc]
theorem of_whole_self (s : Sl) {a b : Nat} (h1 : a ≤ b) (h2 : b ≤ s.keys.length) : s.of 0 s.keys.length = s.of 0 a ++ s.of a b ++ s.of b s.keys.length := by
  rw [of_split _ 0 a s.keys.length (by omega) (by omega), of_split _ a b s.keys.length (by omega) (by omega), List.append_assoc]
/-- Spread again, a part is the same, but for the ledger. -/
theorem again {s : Sl} (hok : s.Ok) (hs : s.Short) {t0 t1 : Int} (he : s.pairsE t0 t1 = 0) :
    (evenS s t0 t1).pairsE t0 t1 = 0 ∧ (evenS s t0 t1).sameB { evenS (evenS s t0 t1) t0 t1 with laid := (evenS s t0 t1).laid } = true := by
  obtain ⟨hm, a, b, rfl, rfl, h1, h2⟩ := pairs_parts he
  obtain ⟨_, _, _, ex, L⟩ := even_laid hok hs he
  have f1 := even_fine hok hs (a : Int) (b : Int)
  have hx := pairs_mk L.may h1 (by rw [L.keys]; exact h2)
  rw [ex] at f1 ⊢
  refine ⟨hx.1, ?_⟩
  obtain ⟨_, _, _, ey, M⟩ := even_laid f1.ok f1.short hx.1
  have f2 := even_fine f1.ok f1.short (a : Int) (b : Int)
  rw [ey] at f2 ⊢
  rw [L.inn] at M f2 ⊢
  obtain ⟨X, hX⟩ : ∃ X, X = spreadS s a b (s.of a b) := ⟨_, rfl⟩
  have BX := L.bits
  have AX := L.at_
  have BY := M.bits
  have AY := M.at_
  have mX := may_iff.1 L.may
  have mY := may_iff.1 M.may
  have kX := L.keys
  have kY := M.keys
  have hrow := ofs_rising (n := (s.of a b).length) (a := a) (b := b) (of_room s h1) (by have := hs.keys; omega)
  have e : X = { spreadS X a b (s.of a b) with laid := X.laid } := by
    rw [hX]
    refine may_ext (t := { spreadS (spreadS s a b (s.of a b)) a b (s.of a b) with laid := (spreadS s a b (s.of a b)).laid }) mX ⟨mY.fits, mY.vals, mY.wlen, mY.over, mY.clen, mY.zero, mY.count⟩ f1.ok.words f2.ok.words BY.seg.symm kY.symm (fun j => ?_) (fun j => ?_) rfl
    · show Oc.isB (spreadS s a b (s.of a b)).words j = Oc.isB (spreadS (spreadS s a b (s.of a b)) a b (s.of a b)).words j
      by_cases hj : a ≤ j ∧ j < b
      · rw [Bool.eq_iff_iff]
        exact (BX.inn j hj.1 hj.2).trans (BY.inn j hj.1 hj.2).symm
      · exact (BY.out j (by omega)).1.symm
    · show (spreadS s a b (s.of a b)).pairAt j = (spreadS (spreadS s a b (s.of a b)) a b (s.of a b)).pairAt j
      by_cases hj : a ≤ j ∧ j < b
      · cases hb : Oc.isB (spreadS s a b (s.of a b)).words j
        · have hb2 : Oc.isB (spreadS (spreadS s a b (s.of a b)) a b (s.of a b)).words j = false := by
            rw [← hb, Bool.eq_iff_iff]
            exact (BY.inn j hj.1 hj.2).trans (BX.inn j hj.1 hj.2).symm
          obtain ⟨z1, z2⟩ := mX.zero j hb
          obtain ⟨y1, y2⟩ := mY.zero j hb2
          unfold Sl.pairAt
          rw [z1, z2, y1, y2]
        · obtain ⟨i, hi, hp⟩ := (BX.inn j hj.1 hj.2).1 hb
          have q1 := AX i (by omega)
          have q2 := AY i (by omega)
          rw [hp, Int.toNat_natCast] at q1 q2
          rw [q1, q2]
      · exact (BY.out j (by omega)).2.symm
  rw [← hX]
  exact (congrArg (fun t => X.sameB t) e).symm.trans (same_self X)
/-- What Even's answer has, told by Pairs. -/
theorem even_pairs {s : Sl} (hok : s.Ok) (hs : s.Short) {t0 t1 : Int} (he : s.pairsE t0 t1 = 0) :
    s.pairsE 0 s.keys.length = 0 ∧ (evenS s t0 t1).pairsE 0 (evenS s t0 t1).keys.length = 0 ∧ (evenS s t0 t1).pairsV 0 (evenS s t0 t1).keys.length = s.pairsV 0 s.keys.length ∧
    (evenS s t0 t1).pairsE t0 t1 = 0 ∧ (evenS s t0 t1).pairsV t0 t1 = s.pairsV t0 t1 ∧ (evenS s t0 t1).laid = (s.laid + (s.pairsV t0 t1).length) % 18446744073709551616 := by
  obtain ⟨hm, a, b, rfl, rfl, h1, h2⟩ := pairs_parts he
  obtain ⟨_, _, _, ex, L⟩ := even_laid hok hs he
  rw [ex, pairsV_ok he]
  have P0 := pairs_mk (x := 0) (y := s.keys.length) hm (Nat.zero_le _) (Nat.le_refl _)
  have P1 := pairs_mk (x := 0) (y := s.keys.length) L.may (Nat.zero_le _) (by rw [L.keys]; exact Nat.le_refl _)
  have P2 := pairs_mk L.may h1 (by rw [L.keys]; exact h2)
  rw [L.keys]
  refine ⟨P0.1, P1.1, P1.2.trans ?_, P2.1, P2.2.trans L.inn, L.laid⟩
  rw [of_whole L h1 h2, ← of_whole_self s h1 h2]
  exact P0.2.symm
/-- What With's answer has, told by Pairs. -/
theorem with_pairs {s : Sl} (hok : s.Ok) (hs : s.Short) {t0 t1 k : Int} {p : Int × Int} (h : withE s t0 t1 k = 0) :
    ∃ m : Nat, k = m ∧ m ≤ (s.pairsV t0 t1).length ∧ (withS s t0 t1 k p).pairsE t0 t1 = 0 ∧ (withS s t0 t1 k p).pairsV t0 t1 = among (s.pairsV t0 t1) m p ∧
      (withS s t0 t1 k p).pairsE 0 t0 = 0 ∧ s.pairsE 0 t0 = 0 ∧ (withS s t0 t1 k p).pairsV 0 t0 = s.pairsV 0 t0 ∧ (withS s t0 t1 k p).laid = (s.laid + ((s.pairsV t0 t1).length + 1)) % 18446744073709551616 := by
  have he : s.pairsE t0 t1 = 0 := by
    unfold withE at h
    split at h
    · assumption
    · exact h
  obtain ⟨hm, a, b, rfl, rfl, h1, h2⟩ := pairs_parts he
  have e := with_e he k
  rw [h] at e
  rw [pairsV_ok he]
  have hfull : ¬ ((s.of a b).length : Int) = (b : Int) - (a : Int) := by
    intro h3
    rw [if_pos h3] at e
    omega
  rw [if_neg hfull] at e
  have hk : 0 ≤ k ∧ k ≤ ((s.of a b).length : Int) := by
    split at e
    · rename_i h3; exact h3
    · omega
  obtain ⟨m, rfl⟩ : ∃ m : Nat, k = m := ⟨k.toNat, by omega⟩
  have hl := of_room s h1
  have hal := among_length (s.of a b) m p
  have L := laid (a := a) (b := b) (may_iff.1 hm) hok.laid hs.keys (among (s.of a b) m p) (by omega) h2
  rw [with_s h]
  have P0 := pairs_mk (x := 0) (y := a) hm (Nat.zero_le _) (by omega)
  have P1 := pairs_mk (x := 0) (y := a) L.may (Nat.zero_le _) (by rw [L.keys]; omega)
  have P2 := pairs_mk L.may h1 (by rw [L.keys]; exact h2)
  refine ⟨m, rfl, by omega, P2.1, P2.2.trans L.inn, P1.1, P0.1, P1.2.trans (L.low.trans P0.2.symm), ?_⟩
  rw [L.laid, hal]
/-- What an array of another size has. -/
theorem into_laid {s : Sl} (hok : s.Ok) {size : Int} {ps : List (Int × Int)} (h : intoE s size ps.length = 0) :
    (intoS s size ps).pairsE 0 size = 0 ∧ (intoS s size ps).pairsV 0 size = ps ∧ (intoS s size ps).laid = (s.laid + ps.length) % 18446744073709551616 ∧ (intoS s size ps).seg = s.seg ∧ ((intoS s size ps).keys.length : Int) = size := by
  have hm : s.mayB = true := by
    cases hm : s.mayB
    · rw [into_bad hm] at h; omega
    · rfl
  have e := into_may hm size ps.length
  rw [h] at e
  have hB : intoB s size ps.length = true := by
    cases hb : intoB s size ps.length
    · unfold intoE at h; rw [if_pos hm, hb] at h; simp at h
    · rfl
  unfold intoB at hB
  rw [Bool.and_eq_true, decide_eq_true_eq] at hB
  obtain ⟨hf, hn⟩ := hB
  obtain ⟨f1, f2, f3, f4, f5, f6, f7⟩ := fits_yes hf
  obtain ⟨m, rfl⟩ : ∃ m : Nat, size = m := ⟨size.toNat, by omega⟩
  have BA := base_bare hf hok.seg hok.laid
  have e2 : intoS s m ps = spreadS (base s m) (0 : Nat) m ps := by unfold intoS; rw [if_pos h]; rfl
  have L := laid (a := 0) (b := m) BA.may (by rw [BA.laid]; exact hok.laid) BA.short.keys ps (by omega) (by rw [BA.keys]; exact Nat.le_refl _)
  have P := pairs_mk (x := 0) (y := m) L.may (Nat.zero_le _) (by rw [L.keys, BA.keys]; exact Nat.le_refl _)
  rw [e2]
  refine ⟨P.1, P.2.trans L.inn, by rw [L.laid, BA.laid], L.bits.seg.trans BA.seg, by rw [L.keys, BA.keys]⟩
/-- THE SHARES: each of equal parts of a spread part has its share. -/
theorem shares {s : Sl} (hok : s.Ok) (hs : s.Short) {t0 t1 p k : Int} (he : s.pairsE t0 t1 = 0) (hp : Sp.partB (s.pairsV t0 t1).length t0 t1 p k = true) :
    Oc.countE (evenS s t0 t1).words (evenS s t0 t1).keys.length (t0 + k * ((t1 - t0) / p)) (t0 + (k + 1) * ((t1 - t0) / p)) = 0 ∧
    Oc.countV (evenS s t0 t1).words (evenS s t0 t1).keys.length (t0 + k * ((t1 - t0) / p)) (t0 + (k + 1) * ((t1 - t0) / p)) = Sp.shareV (s.pairsV t0 t1).length t0 t1 p k := by
  obtain ⟨hm, a, b, rfl, rfl, h1, h2⟩ := pairs_parts he
  obtain ⟨_, _, _, ex, L⟩ := even_laid hok hs he
  rw [pairsV_ok he] at hp ⊢
  rw [ex]
  obtain ⟨sv, _⟩ := Sp.part_yes hp
  obtain ⟨_, p1, _, p3, p4⟩ := Sp.part_in hp
  obtain ⟨w1, w2⟩ := Sp.part_w hp
  obtain ⟨W, hW⟩ : ∃ W, W = ((b : Int) - (a : Int)) / p := ⟨_, rfl⟩
  rw [← hW] at w1 w2 sv ⊢
  have b1 : 0 ≤ k * W := Int.mul_nonneg p3 w2
  have b2 : (k + 1) * W = k * W + W := by rw [Int.add_mul, Int.one_mul]
  have b3 : (k + 1) * W ≤ p * W := Int.mul_le_mul_of_nonneg_right (show k + 1 ≤ p by omega) w2
  rw [w1] at b3
  have hk := hs.keys
  obtain ⟨P, hP⟩ : ∃ P : Nat, (a : Int) + k * W = P := ⟨((a : Int) + k * W).toNat, by omega⟩
  obtain ⟨Q, hQ⟩ : ∃ Q : Nat, (a : Int) + (k + 1) * W = Q := ⟨((a : Int) + (k + 1) * W).toNat, by omega⟩
  rw [hP, hQ] at sv ⊢
  have mX := may_iff.1 L.may
  have hc : Oc.chk (spreadS s a b (s.of a b)).words (((spreadS s a b (s.of a b)).keys.length : Nat) : Int) = 0 := by
    unfold Oc.chk
    rw [show Oc.badN (((spreadS s a b (s.of a b)).keys.length : Nat) : Int) = false from by unfold Oc.badN; rw [L.keys, Bool.or_eq_false_iff, decide_eq_false_iff_not, decide_eq_false_iff_not]; omega, Int.toNat_natCast, mayW_iff.2 ⟨mX.wlen, mX.over⟩]
    rfl
  have hE : Oc.countE (spreadS s a b (s.of a b)).words (((spreadS s a b (s.of a b)).keys.length : Nat) : Int) P Q = 0 := by
    unfold Oc.countE
    rw [if_pos hc, if_neg]
    rw [L.keys]
    omega
  refine ⟨hE, ?_⟩
  unfold Oc.countV
  rw [if_pos hE, Int.toNat_natCast, Int.toNat_natCast, sv]
  obtain ⟨r1, r2⟩ := ofs_rising (n := (s.of a b).length) (a := a) (b := b) (of_room s h1) (by omega)
  exact filled_places (may_iff.1 hm) r1 h1 h2 r2 (p := P) (q := Q) (by omega) (by omega)
end Ly
end Go.Proofs.YtmmkaabefofdeaaDoor

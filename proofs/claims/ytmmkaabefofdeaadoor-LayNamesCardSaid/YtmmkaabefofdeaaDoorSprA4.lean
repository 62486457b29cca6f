/- What package spread's small functions return: within, mayBe, mayPart, rankOf and its closure; Share and Rank. -/
import Derived.Test.YtmmkaabefofdeaaDoorRefB074
import Derived.Test.YtmmkaabefofdeaaDoorRangeM4
import Derived.Deep.DeepCutAuto
import Derived.StillTailTactics
import Derived.RangeFuncBox
namespace Go.Proofs.YtmmkaabefofdeaaDoor
open Go.RowKit
set_option linter.unusedVariables false
set_option linter.unusedSimpArgs false

namespace Sp
def wB (n a b : Int) : Bool := decide (a ≤ n) && decide (n ≤ b)
theorem may_w (n f t : Int) : mayB n f t = (wB t 0 65536 && (wB f 0 t && wB n 0 (t - f))) := by
  unfold mayB wB
  rw [Bool.eq_iff_iff]
  simp only [Bool.and_eq_true, decide_eq_true_eq]
  omega
theorem part_w4 (n f t p k : Int) : partB n f t p k = (mayB n f t && ((decide (1 ≤ p) && decide ((t - f) % p = 0)) && wB k 0 (p - 1))) := by
  unfold partB wB
  rw [show decide (k ≤ p - 1) = decide (k < p) from decide_eq_decide.2 (by omega), Bool.and_assoc]
theorem rank_w (n f t a : Int) : rankB n f t a = (mayB n f t && wB a f t) := rfl
/-- As the code says it: where there are no things, none lie ahead. -/
theorem ahead_code {n f t a : Int} (hm : mayB n f t = true) (hn : ¬ n = 0) : 0 < t - f ∧ ahead n f t a = ((a - f) * n + (t - f) - 1) / (t - f) := by
  obtain ⟨m1, m2, m3, m4, m5⟩ := may_in hm
  have hw : 0 < t - f := by omega
  refine ⟨hw, ?_⟩
  unfold ahead cd
  rw [if_neg (by omega)]
theorem ahead_none {f t a : Int} (h : 0 ≤ t - f) : ahead 0 f t a = 0 := by
  unfold ahead
  split
  · rfl
  · rw [Int.mul_zero, cd_zero (by omega)]
end Sp

set_option maxHeartbeats 400000 in
theorem sWithin (n a b : Int) (w : World) :
    Calls Tryd.prog 46 #[.int .i64 n, .int .i64 a, .int .i64 b] w fun e w' => e = .returned (.bool (Sp.wB n a b)) ∧ w = w' := by
  have H := Lib.hid (show Sp.wB n a b = (decide (a ≤ n) && decide (n ≤ b)) from rfl)
  rw [H.out]
  by_cases h1 : a ≤ n
  · rw [decide_eq_true h1]
    go_enter Tryd.func46, Tryd.ntmps46
    go_wp2
    go_ret
    exact ⟨rfl, rfl⟩
  · rw [decide_eq_false h1]
    go_enter Tryd.func46, Tryd.ntmps46
    go_wp2
    go_ret
    exact ⟨rfl, rfl⟩

set_option maxHeartbeats 1000000 in
theorem sMayBe (n f t : Int) (w : World) (hn : -9223372036854775808 ≤ n ∧ n ≤ 9223372036854775807) (hf : -9223372036854775808 ≤ f ∧ f ≤ 9223372036854775807) (ht : -9223372036854775808 ≤ t ∧ t ≤ 9223372036854775807) :
    Calls Tryd.prog 44 #[.int .i64 n, .int .i64 f, .int .i64 t] w fun e w' => e = .returned (.bool (Sp.mayB n f t)) ∧ w = w' := by
  have C1 := Lib.hid (fun W => sWithin t 0 65536 W)
  have C2 := Lib.hid (fun W => sWithin f 0 t W)
  have C3 := Lib.hid (fun W => sWithin n 0 (t - f) W)
  have E := Lib.hid (Sp.may_w n f t)
  rw [E.out]
  clear E
  cases h1 : Sp.wB t 0 65536
  · rw [h1] at C1
    clear h1
    go_enter Tryd.func44, Tryd.ntmps44
    go_wp2_with fail
    refine (C1.out _).mono ?_
    rintro e w1 ⟨rfl, rfl⟩
    go_wp2
    go_ret
    exact ⟨rfl, rfl⟩
  · rw [h1] at C1
    cases h2 : Sp.wB f 0 t
    · rw [h2] at C2
      clear h1 h2
      go_enter Tryd.func44, Tryd.ntmps44
      go_wp2_with fail
      refine (C1.out _).mono ?_
      rintro e w1 ⟨rfl, rfl⟩
      go_wp2_with fail
      refine (C2.out _).mono ?_
      rintro e w1 ⟨rfl, rfl⟩
      go_wp2
      go_ret
      exact ⟨rfl, rfl⟩
    · rw [h2] at C2
      have b1 : 0 ≤ f := by simp [Sp.wB] at h2; omega
      have b2 : f ≤ t := by simp [Sp.wB] at h2; omega
      obtain ⟨x, hx⟩ : ∃ x, x = Sp.wB n 0 (t - f) := ⟨_, rfl⟩
      rw [← hx] at C3 ⊢
      clear h1 h2 hx
      go_enter Tryd.func44, Tryd.ntmps44
      go_wp2_with fail
      refine (C1.out _).mono ?_
      rintro e w1 ⟨rfl, rfl⟩
      go_wp2_with fail
      refine (C2.out _).mono ?_
      rintro e w1 ⟨rfl, rfl⟩
      go_wp2_with fail
      refine (C3.out _).mono ?_
      rintro e w1 ⟨rfl, rfl⟩
      go_wp2
      go_ret
      exact ⟨rfl, rfl⟩

set_option maxHeartbeats 400000 in
theorem sMayPart (v p : Int) (w : World) (hv : 0 ≤ v ∧ v ≤ 65536) (hp : p ≤ 9223372036854775807) :
    Calls Tryd.prog 45 #[.int .i64 v, .int .i64 p] w fun e w' => e = .returned (.bool (decide (1 ≤ p) && decide (v % p = 0))) ∧ w = w' := by
  by_cases h1 : 1 ≤ p
  · rw [decide_eq_true h1]
    have k0 : ¬ p = 0 := by omega
    by_cases h2 : v % p = 0
    · have k2 : (v % p == 0) = true := by simp [h2]
      rw [decide_eq_true h2]
      clear h2
      go_enter Tryd.func45, Tryd.ntmps45
      go_wp2
      go_ret
      exact ⟨rfl, rfl⟩
    · have k2 : (v % p == 0) = false := by simp [h2]
      rw [decide_eq_false h2]
      clear h2
      go_enter Tryd.func45, Tryd.ntmps45
      go_wp2
      go_ret
      exact ⟨rfl, rfl⟩
  · rw [decide_eq_false h1]
    go_enter Tryd.func45, Tryd.ntmps45
    go_wp2
    go_ret
    exact ⟨rfl, rfl⟩

def RkPost (n f t : Int) (w : World) (e : Ending) (w' : World) : Prop :=
  ∃ B1 B2 B3, e = .returned (.func (.func 74) #[] #[.pointer (some ⟨B1, 0, none⟩), .pointer (some ⟨B2, 0, none⟩), .pointer (some ⟨B3, 0, none⟩)]) ∧ Boxed w' B1 3 (.int .i64 n) ∧ Boxed w' B2 3 (.int .i64 f) ∧ Boxed w' B3 3 (.int .i64 (t - f)) ∧ Below w.heap.size w w'
set_option maxHeartbeats 400000 in
theorem sRankOf (n f t : Int) (w : World) (hm : Sp.mayB n f t = true) : Calls Tryd.prog 47 #[.int .i64 n, .int .i64 f, .int .i64 t] w (RkPost n f t w) := by
  obtain ⟨m1, m2, m3, m4, m5⟩ := Sp.may_in hm
  clear hm
  go_enter Tryd.func47, Tryd.ntmps47
  go_wp2
  go_ret
  refine ⟨_, _, _, rfl, ?_, ?_, ?_, ?_⟩
  · exact ((Boxed.new w _ _).alloc _).alloc _
  · have := (Boxed.new (w.alloc (.cells #[.int .i64 n] 3)) 3 (.int .i64 f)).alloc (.cells #[.int .i64 (t - f)] 3)
    rwa [World.size_alloc] at this
  · have := Boxed.new ((w.alloc (.cells #[.int .i64 n] 3)).alloc (.cells #[.int .i64 f] 3)) 3 (.int .i64 (t - f))
    rwa [World.size_alloc, World.size_alloc] at this
  · exact (((Below.refl _ _).alloc (Nat.le_refl _) _).alloc (by simp) _).alloc (by simp; omega) _
set_option maxHeartbeats 1000000 in
theorem sAhead (n f t a : Int) (B1 B2 B3 : Nat) (w : World) (hm : Sp.mayB n f t = true) (h1 : f ≤ a) (h2 : a ≤ t) (X1 : Boxed w B1 3 (.int .i64 n)) (X2 : Boxed w B2 3 (.int .i64 f)) (X3 : Boxed w B3 3 (.int .i64 (t - f))) :
    Calls Tryd.prog 74 #[.int .i64 a, .pointer (some ⟨B1, 0, none⟩), .pointer (some ⟨B2, 0, none⟩), .pointer (some ⟨B3, 0, none⟩)] w fun e w' => e = .returned (.int .i64 (Sp.ahead n f t a)) ∧ Below w.heap.size w w' := by
  obtain ⟨m1, m2, m3, m4, m5⟩ := Sp.may_in hm
  have c1 := X1.cell
  have c2 := X2.cell
  have c3 := X3.cell
  by_cases hn : n = 0
  · subst hn
    have E := Lib.hid (Sp.ahead_none (a := a) (show 0 ≤ t - f by omega))
    rw [E.out]
    clear hm E
    go_enter Tryd.func74, Tryd.ntmps74
    go_wp2
    go_ret
    exact ⟨rfl, Below.refl _ _⟩
  · obtain ⟨hw, e⟩ := Sp.ahead_code (a := a) hm hn
    have E := Lib.hid e
    rw [E.out]
    clear e hm
    have kn : (n == 0) = false := by simp [hn]
    have p0 : 0 ≤ (a - f) * n := Int.mul_nonneg (by omega) m4
    have p1 : (a - f) * n ≤ 65536 * 65536 := by
      have q1 := Int.mul_le_mul_of_nonneg_right (show a - f ≤ 65536 by omega) m4
      have q2 := Int.mul_le_mul_of_nonneg_left (show n ≤ 65536 by omega) (show (0 : Int) ≤ 65536 by omega)
      omega
    have ED := Lib.hid (show ((a - f) * n + (t - f) - 1).tdiv (t - f) = ((a - f) * n + (t - f) - 1) / (t - f) from Int.tdiv_eq_ediv_of_nonneg (by omega))
    obtain ⟨W, hW⟩ : ∃ W, W = t - f := ⟨_, rfl⟩
    rw [← hW] at c3 hw ED ⊢
    have hW2 : W ≤ 65536 := by omega
    have k0 : ¬ W = 0 := by omega
    clear hW E X1 X2 X3
    go_enter Tryd.func74, Tryd.ntmps74
    go_wp2
    go_ret
    exact ⟨rfl, Below.refl _ _⟩

namespace Sp
theorem share_ahead {n f t p k : Int} (h : partB n f t p k = true) : shareV n f t p k = ahead n f t (f + k * ((t - f) / p) + (t - f) / p) - ahead n f t (f + k * ((t - f) / p)) ∧ f ≤ f + k * ((t - f) / p) ∧ f + k * ((t - f) / p) + (t - f) / p ≤ t ∧ 0 ≤ (t - f) / p ∧ (t - f) / p ≤ t - f ∧ 0 ≤ k * ((t - f) / p) := by
  obtain ⟨hm, h1, h2, h3, h4⟩ := part_in h
  obtain ⟨m1, m2, m3, m4, m5⟩ := may_in hm
  obtain ⟨w1, w2⟩ := part_w h
  have b1 : 0 ≤ k * ((t - f) / p) := Int.mul_nonneg h3 w2
  have b2 : (k + 1) * ((t - f) / p) = k * ((t - f) / p) + (t - f) / p := by rw [Int.add_mul, Int.one_mul]
  have b3 : (k + 1) * ((t - f) / p) ≤ t - f := by
    have := Int.mul_le_mul_of_nonneg_right (show k + 1 ≤ p by omega) w2
    omega
  refine ⟨?_, by omega, by omega, w2, by omega, b1⟩
  unfold shareV
  rw [if_pos h, cnt_ahead hm (by omega) (by omega) (by omega), b2, ← Int.add_assoc]
end Sp
set_option maxHeartbeats 1000000 in
theorem sShare (n f t p k : Int) (w : World) (hn : -9223372036854775808 ≤ n ∧ n ≤ 9223372036854775807) (hf : -9223372036854775808 ≤ f ∧ f ≤ 9223372036854775807) (ht : -9223372036854775808 ≤ t ∧ t ≤ 9223372036854775807) (hp : -9223372036854775808 ≤ p ∧ p ≤ 9223372036854775807) (hk : -9223372036854775808 ≤ k ∧ k ≤ 9223372036854775807) :
    Calls Tryd.prog 24 #[.int .i64 n, .int .i64 f, .int .i64 t, .int .i64 p, .int .i64 k] w fun e w' => e = .returned (.tuple #[.int .i64 (Sp.shareV n f t p k), .int .i64 (Sp.shareE n f t p k)]) ∧ Below w.heap.size w w' := by
  have CM := Lib.hid (fun W => sMayBe n f t W hn hf ht)
  have HR := Sp.part_w4 n f t p k
  cases hm : Sp.mayB n f t
  · have E := Lib.hid (Sp.part_no (n := n) (f := f) (t := t) (p := p) (k := k) (by rw [HR, hm]; rfl))
    rw [E.out.1, E.out.2]
    rw [hm] at CM
    clear hm HR
    go_enter Tryd.func24, Tryd.ntmps24
    go_wp2_with fail
    refine (CM.out _).mono ?_
    rintro e w1 ⟨rfl, rfl⟩
    go_wp2
    go_ret2
    exact ⟨rfl, Below.refl _ _⟩
  · obtain ⟨m1, m2, m3, m4, m5⟩ := Sp.may_in hm
    have CP := Lib.hid (fun W => sMayPart (t - f) p W ⟨by omega, by omega⟩ hp.2)
    cases hq : (decide (1 ≤ p) && decide ((t - f) % p = 0))
    · have E := Lib.hid (Sp.part_no (n := n) (f := f) (t := t) (p := p) (k := k) (by rw [HR, hm, hq]; rfl))
      rw [E.out.1, E.out.2]
      rw [hm] at CM
      rw [hq] at CP
      clear hm HR hq
      go_enter Tryd.func24, Tryd.ntmps24
      go_wp2_with fail
      refine (CM.out _).mono ?_
      rintro e w1 ⟨rfl, rfl⟩
      go_wp2_with fail
      refine (CP.out _).mono ?_
      rintro e w1 ⟨rfl, rfl⟩
      go_wp2
      go_ret2
      exact ⟨rfl, Below.refl _ _⟩
    · have hp1 : 1 ≤ p := by rw [Bool.and_eq_true, decide_eq_true_eq] at hq; exact hq.1
      have CI := Lib.hid (fun W => sWithin k 0 (p - 1) W)
      cases hb : Sp.wB k 0 (p - 1)
      · have E := Lib.hid (Sp.part_no (n := n) (f := f) (t := t) (p := p) (k := k) (by rw [HR, hm, hq, hb]; rfl))
        rw [E.out.1, E.out.2]
        rw [hm] at CM
        rw [hq] at CP
        rw [hb] at CI
        clear hm HR hq hb
        go_enter Tryd.func24, Tryd.ntmps24
        go_wp2_with fail
        refine (CM.out _).mono ?_
        rintro e w1 ⟨rfl, rfl⟩
        go_wp2_with fail
        refine (CP.out _).mono ?_
        rintro e w1 ⟨rfl, rfl⟩
        go_wp2_with fail
        refine (CI.out _).mono ?_
        rintro e w1 ⟨rfl, rfl⟩
        go_wp2
        go_ret2
        exact ⟨rfl, Below.refl _ _⟩
      · have hk : Sp.partB n f t p k = true := by rw [HR, hm, hq, hb]; rfl
        obtain ⟨q1, q2, q3, q4, q5, q6⟩ := Sp.share_ahead hk
        have E2 := Lib.hid (Sp.part_yes hk)
        rw [q1, E2.out.2]
        have CO := Lib.hid (fun W => sRankOf n f t W hm)
        have CA := Lib.hid (fun a h1 h2 B1 B2 B3 W X1 X2 X3 => sAhead n f t a B1 B2 B3 W hm h1 h2 X1 X2 X3)
        have RA := Lib.hid (fun a h1 h2 => Sp.ahead_range (a := a) hm h1 h2)
        rw [hm] at CM
        rw [hq] at CP
        rw [hb] at CI
        obtain ⟨W, hW⟩ : ∃ W, W = (t - f) / p := ⟨_, rfl⟩
        rw [← hW] at q2 q3 q4 q5 q6 ⊢
        have e1 := hW.symm
        have r1 := RA.out (f + k * W) q2 (by omega)
        have r2 := RA.out (f + k * W + W) (by omega) q3
        obtain ⟨P, hP⟩ : ∃ P, P = k * W := ⟨_, rfl⟩
        rw [← hP] at q2 q3 q6 r1 r2 ⊢
        have C1 := Lib.hid (CA.out (f + P) q2 (by omega))
        have C2 := Lib.hid (CA.out (f + P + W) (by omega) q3)
        have e2 := hP.symm
        obtain ⟨x1, hx1⟩ : ∃ x, x = Sp.ahead n f t (f + P) := ⟨_, rfl⟩
        obtain ⟨x2, hx2⟩ : ∃ x, x = Sp.ahead n f t (f + P + W) := ⟨_, rfl⟩
        rw [← hx1] at C1 r1 ⊢
        rw [← hx2] at C2 r2 ⊢
        have k0 : ¬ p = 0 := by omega
        clear hm HR hb hk E2 hq q1 CA RA hW hP hx1 hx2
        go_enter Tryd.func24, Tryd.ntmps24
        go_wp2_with fail
        refine (CM.out _).mono ?_
        rintro e w1 ⟨rfl, rfl⟩
        go_wp2_with fail
        refine (CP.out _).mono ?_
        rintro e w1 ⟨rfl, rfl⟩
        go_wp2_with fail
        refine (CI.out _).mono ?_
        rintro e w1 ⟨rfl, rfl⟩
        go_wp2_with fail
        refine (CO.out _).mono ?_
        rintro e w1 ⟨B1, B2, B3, rfl, X1, X2, X3, hb1⟩
        go_wp2_with fail
        refine (C2.out B1 B2 B3 _ X1 X2 X3).mono ?_
        rintro e w2 ⟨rfl, hb2⟩
        go_wp2_with fail
        refine (C1.out B1 B2 B3 _ (boxed_low X1 X1.lt hb2) (boxed_low X2 X2.lt hb2) (boxed_low X3 X3.lt hb2)).mono ?_
        rintro e w3 ⟨rfl, hb3⟩
        go_wp2
        go_ret2
        exact ⟨rfl, hb1.trans ((hb2.trans (hb3.mono hb2.size)).mono hb1.size)⟩
end Go.Proofs.YtmmkaabefofdeaaDoor

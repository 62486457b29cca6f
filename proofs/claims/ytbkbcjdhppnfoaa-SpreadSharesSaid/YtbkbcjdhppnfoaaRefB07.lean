/- What the document's own answers of layer 7 (package shelfmarkref07) return: within, Places, Share, Rank. -/
import Derived.Test.YtbkbcjdhppnfoaaRefA07
namespace Go.Proofs.Ytbkbcjdhppnfoaa
open Go.RowKit
set_option linter.unusedVariables false
set_option linter.unusedSimpArgs false

namespace Sp
theorem cnt_step {zs : List Int} {a b : Int} {k : Nat} (h : k < zs.length) : cnt (zs.take (k + 1)) a b = cnt (zs.take k) a b + (if inB a b (zs.getD k 0) then 1 else 0) := by
  unfold cnt
  rw [List.take_add_one, List.getElem?_eq_getElem h, List.countP_append]
  simp only [List.getD, List.getElem?_eq_getElem h, Option.getD_some, Option.toList_some, List.countP_singleton]
  split <;> simp
theorem cnt_bd (zs : List Int) (a b : Int) : 0 ≤ cnt zs a b ∧ cnt zs a b ≤ zs.length := by
  unfold cnt
  have := List.countP_le_length (p := inB a b) (l := zs)
  omega
end Sp
def WithJ (zs : List Int) (a b : Int) (w : World) (p q : Value) (wr : World) : Prop := ∃ k : Nat, k ≤ zs.length ∧ p = .int .i64 (Sp.cnt (zs.take k) a b) ∧ q = .int .i64 (k : Int) ∧ w = wr
set_option maxHeartbeats 1000000 in
theorem r7Within (A : Option Addr) (c : Nat) (zs : List Int) (a b : Int) (w : World) (hl : Lst .i64 w A zs) (hn : zs.length ≤ 65536) :
    Calls Try.prog 25 #[.slice A zs.length c, .int .i64 a, .int .i64 b] w fun e w' => e = .returned (.int .i64 (Sp.cnt zs a b)) ∧ w = w' := by
  have HL := Lib.hid hl
  clear hl
  go_enter Try.func25, Try.ntmps25
  go_wp2
  go_loopw [7, 8] (WithJ zs a b w) (fun _ i _ => zs.length - (intOf i).toNat)
  case atStart => exact ⟨0, Nat.zero_le _, rfl, rfl, rfl⟩
  case round =>
    obtain ⟨k, hk, rfl, rfl, rfl⟩ := hrel
    by_cases hlt : k < zs.length
    · obtain ⟨b1, o1, rfl, _, c1⟩ := HL.out.cell hlt
      have HS := Lib.hid (Sp.cnt_step (a := a) (b := b) hlt)
      obtain ⟨q0, q1⟩ := Sp.cnt_bd (zs.take k) a b
      rw [List.length_take, Nat.min_eq_left (by omega)] at q1
      obtain ⟨x, hx⟩ : ∃ x, zs.getD k 0 = x := ⟨_, rfl⟩
      rw [hx] at c1 HS
      clear hx
      obtain ⟨m, hm⟩ : ∃ m, Sp.cnt (zs.take k) a b = m := ⟨_, rfl⟩
      rw [hm] at HS q0 q1 ⊢
      clear hm
      by_cases h1 : a ≤ x
      · by_cases h2 : x < b
        · have HE := Lib.hid (show Sp.cnt (zs.take (k + 1)) a b = m + 1 by rw [HS.out]; unfold Sp.inB; rw [decide_eq_true h1, decide_eq_true h2]; rfl)
          clear HS
          go_wp2
          go_roundw
          case rel => exact ⟨k + 1, by omega, by rw [HE.out], by go_num, rfl⟩
          case measure => simp [intOf]; omega
        · have HE := Lib.hid (show Sp.cnt (zs.take (k + 1)) a b = m by rw [HS.out]; unfold Sp.inB; rw [decide_eq_false h2, Bool.and_false]; simp)
          clear HS
          go_wp2
          go_roundw
          case rel => exact ⟨k + 1, by omega, by rw [HE.out], by go_num, rfl⟩
          case measure => simp [intOf]; omega
      · have HE := Lib.hid (show Sp.cnt (zs.take (k + 1)) a b = m by rw [HS.out]; unfold Sp.inB; rw [decide_eq_false h1, Bool.false_and]; simp)
        clear HS
        go_wp2
        go_roundw
        case rel => exact ⟨k + 1, by omega, by rw [HE.out], by go_num, rfl⟩
        case measure => simp [intOf]; omega
    · obtain rfl : k = zs.length := by omega
      rw [List.take_length]
      go_wp2
      go_ret
      exact ⟨rfl, rfl⟩

/-- A new row of numbers, and an error. -/
def NRow (zs : List Int) (er : Int) (w : World) (e : Ending) (w' : World) : Prop :=
  ∃ v, e = .returned (.tuple #[v, .int .i64 er]) ∧ w'.ownsRow w.heap.size 3 1 v zs.length (zs.map (Value.int .i64)) ∧ Below w.heap.size w w'
set_option maxHeartbeats 1000000 in
theorem r7Places (n f t : Int) (w : World) (ht : t ≤ 9223372036854775807) :
    Calls Try.prog 14 #[.int .i64 n, .int .i64 f, .int .i64 t] w (NRow (Sp.placesV n f t) (Sp.placesE n f t) w) := by
  have CM := Lib.hid (r7May n f t w ht)
  cases hm : Sp.mayB n f t
  · have E := Lib.hid (Sp.may_no hm)
    rw [hm] at CM
    rw [E.out.1, E.out.2]
    clear hm
    go_enter Try.func14, Try.ntmps14
    go_wp2_with fail
    refine CM.out.mono ?_
    rintro e w1 ⟨rfl, rfl⟩
    go_wp2
    go_ret2
    exact ⟨_, rfl, World.ownsRow_nil _ _ _ _, Below.refl _ _⟩
  · have E := Lib.hid (Sp.may_yes hm)
    have CO := Lib.hid (r7Of n f t w hm)
    rw [hm] at CM
    rw [E.out.1, E.out.2]
    clear hm
    go_enter Try.func14, Try.ntmps14
    go_wp2_with fail
    refine CM.out.mono ?_
    rintro e w1 ⟨rfl, rfl⟩
    go_wp2_with fail
    refine CO.out.mono ?_
    rintro e w1 ⟨v, rfl, hr, hb⟩
    go_wp2
    go_ret2
    exact ⟨_, rfl, hr, hb⟩

set_option maxHeartbeats 1000000 in
theorem r7Rank (n f t a : Int) (w : World) (ht : t ≤ 9223372036854775807) :
    Calls Try.prog 16 #[.int .i64 n, .int .i64 f, .int .i64 t, .int .i64 a] w fun e w' => e = .returned (.tuple #[.int .i64 (Sp.rankV n f t a), .int .i64 (Sp.rankE n f t a)]) ∧ Below w.heap.size w w' := by
  have CM := Lib.hid (r7May n f t w ht)
  cases hr : Sp.rankB n f t a
  · have E := Lib.hid (Sp.rank_no hr)
    rw [E.out.1, E.out.2]
    cases hm : Sp.mayB n f t
    · rw [hm] at CM
      clear hr hm
      go_enter Try.func16, Try.ntmps16
      go_wp2_with fail
      refine CM.out.mono ?_
      rintro e w1 ⟨rfl, rfl⟩
      go_wp2
      go_ret2
      exact ⟨rfl, Below.refl _ _⟩
    · have hd : ¬ f ≤ a ∨ ¬ a ≤ t := by
        unfold Sp.rankB at hr
        rw [hm, Bool.true_and] at hr
        by_cases h1 : f ≤ a
        · by_cases h2 : a ≤ t
          · rw [decide_eq_true h1, decide_eq_true h2] at hr; cases hr
          · exact Or.inr h2
        · exact Or.inl h1
      rw [hm] at CM
      clear hr hm
      by_cases h1 : a < f
      · clear hd
        go_enter Try.func16, Try.ntmps16
        go_wp2_with fail
        refine CM.out.mono ?_
        rintro e w1 ⟨rfl, rfl⟩
        go_wp2
        go_ret2
        exact ⟨rfl, Below.refl _ _⟩
      · have h2 : t < a := by omega
        clear hd
        go_enter Try.func16, Try.ntmps16
        go_wp2_with fail
        refine CM.out.mono ?_
        rintro e w1 ⟨rfl, rfl⟩
        go_wp2
        go_ret2
        exact ⟨rfl, Below.refl _ _⟩
  · have E := Lib.hid (Sp.rank_yes hr)
    rw [E.out.1, E.out.2]
    obtain ⟨hm, h1, h2⟩ := Sp.rank_in hr
    obtain ⟨m1, m2, m3, m4, m5⟩ := Sp.may_in hm
    have CO := Lib.hid (r7Of n f t w hm)
    have LN := Lib.hid (Sp.ofs_length n f t)
    rw [hm] at CM
    clear hr hm E
    obtain ⟨zs, hz⟩ : ∃ zs, zs = Sp.ofs n f t := ⟨_, rfl⟩
    rw [← hz] at CO LN ⊢
    clear hz
    go_enter Try.func16, Try.ntmps16
    go_wp2_with fail
    refine CM.out.mono ?_
    rintro e w1 ⟨rfl, rfl⟩
    go_wp2_with fail
    refine CO.out.mono ?_
    rintro e w1 ⟨v, rfl, hr, hb⟩
    obtain ⟨A, c, rfl, hL⟩ := irow_list hr
    have CW := Lib.hid (r7Within A c zs f a w1 hL (by have := LN.out; omega))
    have HB := Lib.hid hb
    clear hr hb hL LN
    go_wp2_with fail
    refine CW.out.mono ?_
    rintro e w2 ⟨rfl, rfl⟩
    go_wp2
    go_ret2
    exact ⟨rfl, HB.out⟩

set_option maxHeartbeats 2000000 in
theorem r7Share (n f t p k : Int) (w : World) (ht : t ≤ 9223372036854775807) (hp : p ≤ 9223372036854775807) :
    Calls Try.prog 15 #[.int .i64 n, .int .i64 f, .int .i64 t, .int .i64 p, .int .i64 k] w fun e w' => e = .returned (.tuple #[.int .i64 (Sp.shareV n f t p k), .int .i64 (Sp.shareE n f t p k)]) ∧ Below w.heap.size w w' := by
  have CM := Lib.hid (r7May n f t w ht)
  cases hr : Sp.partB n f t p k
  · have E := Lib.hid (Sp.part_no hr)
    rw [E.out.1, E.out.2]
    clear E
    cases hm : Sp.mayB n f t
    · rw [hm] at CM
      clear hr hm
      go_enter Try.func15, Try.ntmps15
      go_wp2_with fail
      refine CM.out.mono ?_
      rintro e w1 ⟨rfl, rfl⟩
      go_wp2
      go_ret2
      exact ⟨rfl, Below.refl _ _⟩
    · obtain ⟨m1, m2, m3, m4, m5⟩ := Sp.may_in hm
      have hd : ¬ (1 ≤ p ∧ (t - f) % p = 0 ∧ 0 ≤ k ∧ k < p) := by
        rintro ⟨a1, a2, a3, a4⟩
        unfold Sp.partB at hr
        rw [hm, decide_eq_true a1, decide_eq_true a2, decide_eq_true a3, decide_eq_true a4] at hr
        cases hr
      rw [hm] at CM
      clear hr hm
      by_cases h1 : p < 1
      · clear hd
        go_enter Try.func15, Try.ntmps15
        go_wp2_with fail
        refine CM.out.mono ?_
        rintro e w1 ⟨rfl, rfl⟩
        go_wp2
        go_ret2
        exact ⟨rfl, Below.refl _ _⟩
      · have p0 : ¬ p = 0 := by omega
        obtain ⟨x, hx⟩ : ∃ x, x = t - f := ⟨_, rfl⟩
        by_cases h2 : (t - f) % p = 0
        · have k1 : ((t - f) % p != 0) = false := by simp [h2]
          by_cases h3 : k < 0
          · clear hd hx
            go_enter Try.func15, Try.ntmps15
            go_wp2_with fail
            refine CM.out.mono ?_
            rintro e w1 ⟨rfl, rfl⟩
            go_wp2
            go_ret2
            exact ⟨rfl, Below.refl _ _⟩
          · have h4 : p ≤ k := by
              rcases Int.lt_or_le k p with h5 | h5
              · exact absurd ⟨by omega, h2, by omega, h5⟩ hd
              · exact h5
            clear hd hx h2
            go_enter Try.func15, Try.ntmps15
            go_wp2_with fail
            refine CM.out.mono ?_
            rintro e w1 ⟨rfl, rfl⟩
            go_wp2
            go_ret2
            exact ⟨rfl, Below.refl _ _⟩
        · have k1 : ((t - f) % p != 0) = true := by simpa using h2
          clear hd hx h2
          go_enter Try.func15, Try.ntmps15
          go_wp2_with fail
          refine CM.out.mono ?_
          rintro e w1 ⟨rfl, rfl⟩
          go_wp2
          go_ret2
          exact ⟨rfl, Below.refl _ _⟩
  · obtain ⟨hm, h1, h2, h3, h4⟩ := Sp.part_in hr
    obtain ⟨m1, m2, m3, m4, m5⟩ := Sp.may_in hm
    obtain ⟨w1, w2⟩ := Sp.part_w hr
    have E := Lib.hid (Sp.part_yes hr)
    have CO := Lib.hid (r7Of n f t w hm)
    have LN := Lib.hid (Sp.ofs_length n f t)
    have p0 : ¬ p = 0 := by omega
    have k1 : ((t - f) % p != 0) = false := by simp [h2]
    have hq : (t - f) / p ≤ t - f := Int.ediv_le_self _ (by omega)
    have b1 : 0 ≤ k * ((t - f) / p) := Int.mul_nonneg h3 w2
    have b2 : (k + 1) * ((t - f) / p) = k * ((t - f) / p) + (t - f) / p := by rw [Int.add_mul, Int.one_mul]
    have b3 : (k + 1) * ((t - f) / p) ≤ t - f := by
      have := Int.mul_le_mul_of_nonneg_right (show k + 1 ≤ p by omega) w2
      omega
    by_cases hz : (t - f) / p = 0
    · have hz2 : t - f = 0 := by rw [hz, Int.mul_zero] at w1; omega
      have e0 : Sp.shareV n f t p k = 0 := by
        rw [E.out.1, hz, Int.mul_zero, Int.mul_zero]
        have hn0 : n = 0 := by omega
        subst hn0
        rfl
      rw [e0, E.out.2]
      rw [hm] at CM
      have ht' : t = f := by omega
      subst ht'
      have k2 : (0 : Int) / p = 0 := Int.zero_ediv p
      have k3 : (0 : Int) % p = 0 := Int.zero_emod p
      clear hr hm h2 w1 w2 b1 b2 b3 hq hz hz2 CO LN E e0 k1
      go_enter Try.func15, Try.ntmps15
      go_wp2_with fail
      refine CM.out.mono ?_
      rintro e w1 ⟨rfl, rfl⟩
      go_wp2
      go_ret2
      exact ⟨rfl, Below.refl _ _⟩
    · rw [hm] at CM
      rw [E.out.1, E.out.2]
      clear hr hm h2 w1 E
      have W64 : wrap64 ((k + 1) * ((t - f) / p)) = (k + 1) * ((t - f) / p) := by unfold wrap64; omega
      obtain ⟨zs, hzs⟩ : ∃ zs, zs = Sp.ofs n f t := ⟨_, rfl⟩
      rw [← hzs] at CO LN ⊢
      clear hzs
      obtain ⟨q, hqq⟩ : ∃ q, q = (t - f) / p := ⟨_, rfl⟩
      rw [← hqq] at hq b1 b2 b3 W64 w2 hz ⊢
      have QE := hqq.symm
      clear hqq
      obtain ⟨x, hx⟩ : ∃ x, x = k * q := ⟨_, rfl⟩
      rw [← hx] at b1 b2 ⊢
      have XE := hx.symm
      have XE2 : wrap64 (k * q) = x := by rw [← hx]; unfold wrap64; omega
      clear hx
      rw [b2] at b3 W64 ⊢
      have YE := b2
      have YE2 : wrap64 ((k + 1) * q) = x + q := by rw [b2]; unfold wrap64; omega
      clear b2
      go_enter Try.func15, Try.ntmps15
      go_wp2_with fail
      refine CM.out.mono ?_
      rintro e w1 ⟨rfl, rfl⟩
      go_wp2_with fail
      refine CO.out.mono ?_
      rintro e w1 ⟨v, rfl, hr, hb⟩
      obtain ⟨A, c, rfl, hL⟩ := irow_list hr
      have CW := Lib.hid (r7Within A c zs (f + x) (f + (x + q)) w1 hL (by have := LN.out; omega))
      have HB := Lib.hid hb
      clear hr hb hL LN
      go_wp2_with fail
      refine CW.out.mono ?_
      rintro e w2 ⟨rfl, rfl⟩
      go_wp2
      go_ret2
      exact ⟨rfl, HB.out⟩
end Go.Proofs.Ytbkbcjdhppnfoaa

/- What package frac's Cross and Between return, and the small functions under them. They make memory (the list that a variadic function is handed); nothing that was there is changed. -/
import Derived.Test.YtemnhpkkmfgnaaaFracA
import Derived.Test.YtemnhpkkmfgnaaaFlt
import Derived.Laws.ComplexArith
namespace Go.Proofs.Ytemnhpkkmfgnaaa
open Go.RowKit

theorem all_take (zs : List Int) (k : Nat) (n : Int) (h : k < zs.length) (hn : zs.getD k 0 = n) : (zs.take (k + 1)).all Fr.smallB = ((zs.take k).all Fr.smallB && Fr.smallB n) := by
  rw [List.take_succ_eq_append_getElem h]
  simp only [List.getD, List.getElem?_eq_getElem h, Option.getD_some] at hn
  simp [hn]
theorem all_bad (zs : List Int) (k : Nat) (n : Int) (h : k < zs.length) (hn : zs.getD k 0 = n) (hb : Fr.smallB n = false) : zs.all Fr.smallB = false := by
  simp only [List.getD, List.getElem?_eq_getElem h, Option.getD_some] at hn
  rw [List.all_eq_false]
  exact ⟨n, hn ▸ List.getElem_mem h, by simp [hb]⟩

set_option maxHeartbeats 400000 in
theorem fSmall (bk off len cap : Nat) (zs : List Int) (w : World) (hz : zs.length = len) (hbig : len ≤ 1000) (hc : ∀ j, j < len → w.cell? ⟨bk, off + j, none⟩ = some (.int .i64 (zs.getD j 0))) :
    Calls Try.prog 45 #[.slice (some ⟨bk, off, none⟩) len cap] w fun e w' => e = .returned (.bool (zs.all Fr.smallB)) ∧ w = w' := by
  have HC := Lib.hid hc
  have HZ := Lib.hid hz
  clear hc hz
  go_enter Try.func45, Try.ntmps45
  go_wp2
  go_loop [7] (fun i => ∃ k : Nat, k ≤ len ∧ i = .int .i64 k ∧ Hid ((zs.take k).all Fr.smallB = true)) (fun i => len - (intOf i).toNat)
  case atStart => exact ⟨0, Nat.zero_le _, rfl, Lib.hid rfl⟩
  case round =>
    obtain ⟨k, hk, rfl, HA⟩ := hrel
    by_cases hlt : k < len
    · obtain ⟨n, hn⟩ : ∃ n, zs.getD k 0 = n := ⟨_, rfl⟩
      have hcell := HC.out k hlt
      rw [hn] at hcell
      have HN := Lib.hid hn
      clear hn
      by_cases h1 : -67108864 < n
      · by_cases h2 : n < 67108864
        · go_wp2
          go_round
          case rel => exact ⟨k + 1, by omega, by go_num, Lib.hid (by rw [all_take zs k n (by have := HZ.out; omega) HN.out, HA.out, Fr.small_mk h1 h2]; rfl)⟩
          case measure => simp [intOf]; omega
        · go_wp2
          go_ret
          rw [all_bad zs k n (by have := HZ.out; omega) HN.out (Fr.small_not (by omega))]
          exact ⟨rfl, rfl⟩
      · go_wp2
        go_ret
        rw [all_bad zs k n (by have := HZ.out; omega) HN.out (Fr.small_not (by omega))]
        exact ⟨rfl, rfl⟩
    · go_wp2
      go_ret
      have := HA.out
      rw [List.take_of_length_le (by have := HZ.out; omega)] at this
      rw [this]
      exact ⟨rfl, rfl⟩

set_option maxHeartbeats 400000 in
theorem fNaN (x : Nat) (w : World) (h : FloatKind.f64.format.order x x = some .eq) : Calls Try.prog 55 #[.float .f64 x] w fun e w' => e = .returned (.bool false) ∧ w = w' := by
  go_enter Try.func55, Try.ntmps55
  go_wp2
  go_ret
  exact ⟨rfl, rfl⟩

set_option maxHeartbeats 400000 in
theorem fCompare (x : Nat) (z : Int) (w : World) (h : Flt.IsZ x z) : Calls Try.prog 51 #[.float .f64 x, .float .f64 0] w fun e w' => e = .returned (.int .i64 (Fr.sgn z)) ∧ w = w' := by
  have hx : FloatKind.f64.format.order x x = some .eq := by
    rw [show FloatKind.f64.format = Ieee.double from rfl, Flt.order_isZ h h]; simp
  have h0 : FloatKind.f64.format.order 0 0 = some .eq := by
    rw [show FloatKind.f64.format = Ieee.double from rfl, Flt.order_isZ Flt.zero_isZ Flt.zero_isZ]; simp
  have hxo : FloatKind.f64.format.order x 0 = some (compare z 0) := by
    rw [show FloatKind.f64.format = Ieee.double from rfl, Flt.order_isZ h Flt.zero_isZ]
  have HX := Lib.hid hx
  have H0 := Lib.hid h0
  clear hx h0 h
  rcases Int.lt_trichotomy z 0 with hz | hz | hz
  · have H := Lib.hid (show Fr.sgn z = -1 by simp [Fr.sgn, hz])
    rw [show compare z 0 = .lt from by rw [Int.compare_eq_lt]; exact hz] at hxo
    go_enter Try.func51, Try.ntmps51
    go_wp2_with (go_at_call 55; refine (fNaN _ _ (by first | exact HX.out | exact H0.out)).mono ?_; rintro e w' ⟨rfl, rfl⟩)
    go_ret
    rw [H.out]
    exact ⟨rfl, rfl⟩
  · subst hz
    rw [show compare (0 : Int) 0 = .eq from by decide] at hxo
    go_enter Try.func51, Try.ntmps51
    go_wp2_with (go_at_call 55; refine (fNaN _ _ (by first | exact HX.out | exact H0.out)).mono ?_; rintro e w' ⟨rfl, rfl⟩)
    go_ret
    exact ⟨rfl, rfl⟩
  · have H := Lib.hid (show Fr.sgn z = 1 by unfold Fr.sgn; rw [if_neg (by omega), if_pos hz])
    rw [show compare z 0 = .gt from by rw [Int.compare_eq_gt]; exact hz] at hxo
    go_enter Try.func51, Try.ntmps51
    go_wp2_with (go_at_call 55; refine (fNaN _ _ (by first | exact HX.out | exact H0.out)).mono ?_; rintro e w' ⟨rfl, rfl⟩)
    go_ret
    rw [H.out]
    exact ⟨rfl, rfl⟩

set_option maxHeartbeats 400000 in
theorem fTurned (x y : Nat) (w : World) : Calls Try.prog 50 #[.complex .f64 x y] w fun e w' => e = .returned (.complex .f64 x (Op.negFloat .f64 y)) ∧ w = w' := by
  have hneg : ∀ w : World, Sem.run Try.prog (Op.unary .neg (.float .f64 y)) w = .ok (.float .f64 (Op.negFloat .f64 y)) w := fun _ => rfl
  go_enter Try.func50, Try.ntmps50
  go_wp2
  go_ret
  exact ⟨rfl, rfl⟩

theorem cmul_isZ {x y u v : Nat} {a b c d : Int} (hx : Flt.IsZ x a) (hy : Flt.IsZ y b) (hu : Flt.IsZ u c) (hv : Flt.IsZ v d)
    (a1 : -67108864 < a) (a2 : a < 67108864) (b1 : -67108864 < b) (b2 : b < 67108864) (c1 : -67108864 < c) (c2 : c < 67108864) (d1 : -67108864 < d) (d2 : d < 67108864) :
    ∃ re im, cMulBits x y u v = some (re, im) ∧ Flt.IsZ im (a * d + b * c) := by
  have h1 := Fr.mul_small a1 a2 c1 c2
  have h2 := Fr.mul_small b1 b2 d1 d2
  have h3 := Fr.mul_small a1 a2 d1 d2
  have h4 := Fr.mul_small b1 b2 c1 c2
  obtain ⟨ac, e1, z1⟩ := Flt.mul_isZ hx hu (by omega)
  obtain ⟨bd, e2, z2⟩ := Flt.mul_isZ hy hv (by omega)
  obtain ⟨re, e3, _⟩ := Flt.sub_isZ z1 z2 (by omega)
  obtain ⟨ad, e4, z4⟩ := Flt.mul_isZ hx hv (by omega)
  obtain ⟨bc, e5, z5⟩ := Flt.mul_isZ hy hu (by omega)
  obtain ⟨im, e6, z6⟩ := Flt.add_isZ z4 z5 (by omega)
  refine ⟨re, im, ?_, z6⟩
  unfold cMulBits floatBits
  simp only [show FloatKind.f64.format = Ieee.double from rfl, e1, e2, e3, e4, e5, e6, Option.bind_some]

theorem cells4 (w : World) (a b c d : Int) (t : TypeId) : ∀ j, j < 4 → (w.alloc (.cells #[.int .i64 a, .int .i64 b, .int .i64 c, .int .i64 d] t)).cell? ⟨w.heap.size, 0 + j, none⟩ = some (.int .i64 ([a, b, c, d].getD j 0)) := by
  intro j hj
  match j, hj with
  | 0, _ => simp
  | 1, _ => simp
  | 2, _ => simp
  | 3, _ => simp
theorem all4 (a b c d : Int) : [a, b, c, d].all Fr.smallB = Fr.small4 a b c d := by
  simp [Fr.small4, Bool.and_assoc]

set_option maxHeartbeats 400000 in
theorem fCross_no (a b c d : Int) (w : World) (h : Fr.small4 a b c d = false) : Calls Try.prog 44 #[.int .i64 a, .int .i64 b, .int .i64 c, .int .i64 d] w fun e w' => e = .returned (.tuple #[.int .i64 0, .int .i64 10]) ∧ Below w.heap.size w w' := by
  go_enter Try.func44, Try.ntmps44
  go_wp2_with (go_at_call 45; refine (fSmall w.heap.size 0 4 4 [a, b, c, d] _ rfl (by omega) (cells4 w a b c d _)).mono ?_; rw [all4, h]; rintro e w' ⟨rfl, rfl⟩)
  go_ret2
  exact ⟨rfl, (Below.refl _ _).alloc (Nat.le_refl _) _⟩

set_option maxHeartbeats 400000 in
theorem fCross_yes (a b c d : Int) (w : World) (h : Fr.small4 a b c d = true) : Calls Try.prog 44 #[.int .i64 a, .int .i64 b, .int .i64 c, .int .i64 d] w fun e w' => e = .returned (.tuple #[.int .i64 (Fr.sgn (a * d - b * c)), .int .i64 0]) ∧ Below w.heap.size w w' := by
  have hs : ((-67108864 < a ∧ a < 67108864) ∧ (-67108864 < b ∧ b < 67108864)) ∧ (-67108864 < c ∧ c < 67108864) ∧ (-67108864 < d ∧ d < 67108864) := by
    simp only [Fr.small4, Bool.and_eq_true] at h
    exact ⟨⟨Fr.small_true h.1.1.1, Fr.small_true h.1.1.2⟩, Fr.small_true h.1.2, Fr.small_true h.2⟩
  obtain ⟨re, im, hm, hz⟩ := cmul_isZ (Flt.ofInt_isZ a (by omega)) (Flt.neg_isZ (Flt.ofInt_isZ b (by omega))) (Flt.ofInt_isZ c (by omega)) (Flt.ofInt_isZ d (by omega)) hs.1.1.1 hs.1.1.2 (by omega) (by omega) hs.2.1.1 hs.2.1.2 hs.2.2.1 hs.2.2.2
  have hmul : ∀ w : World, Sem.run Try.prog (binOp .mul 57 (.complex .f64 (floatOfInt .f64 a) (Op.negFloat .f64 (floatOfInt .f64 b))) (.complex .f64 (floatOfInt .f64 c) (floatOfInt .f64 d))) w = .ok (.complex .f64 re im) w := fun w => run_complex_mul w _ _ _ _ _ _ _ hm
  have e : a * d + -b * c = a * d - b * c := by rw [Int.neg_mul]; omega
  rw [e] at hz
  clear hs hm e
  have HZ := Lib.hid hz
  clear hz
  go_enter Try.func44, Try.ntmps44
  go_wp2_with (first | (go_at_call 45; refine (fSmall w.heap.size 0 4 4 [a, b, c, d] _ rfl (by omega) (cells4 w a b c d _)).mono ?_; rw [all4, h]; rintro e w' ⟨rfl, rfl⟩) | (go_at_call 50; refine (fTurned _ _ _).mono ?_; rintro e w' ⟨rfl, rfl⟩) | (go_at_call 51; refine (fCompare im _ _ HZ.out).mono ?_; rintro e w' ⟨rfl, rfl⟩))
  go_ret2
  exact ⟨rfl, (Below.refl _ _).alloc (Nat.le_refl _) _⟩

theorem crossE_no' {a b c d : Int} (h : Fr.small4 a b c d = false) : Fr.crossE a b c d = 10 ∧ Fr.crossV a b c d = 0 := by simp [Fr.crossE, Fr.crossV, h]
theorem crossE_yes' {a b c d : Int} (h : Fr.small4 a b c d = true) : Fr.crossE a b c d = 0 ∧ Fr.crossV a b c d = Fr.sgn (a * d - b * c) := by simp [Fr.crossE, Fr.crossV, h]

theorem fCross (a b c d : Int) (w : World) : Calls Try.prog 44 #[.int .i64 a, .int .i64 b, .int .i64 c, .int .i64 d] w fun e w' => e = .returned (.tuple #[.int .i64 (Fr.crossV a b c d), .int .i64 (Fr.crossE a b c d)]) ∧ Below w.heap.size w w' := by
  cases h : Fr.small4 a b c d
  · rw [(crossE_no' h).1, (crossE_no' h).2]
    exact fCross_no a b c d w h
  · rw [(crossE_yes' h).1, (crossE_yes' h).2]
    exact fCross_yes a b c d w h
end Go.Proofs.Ytemnhpkkmfgnaaa

/- The walk of the law OccNames: the limit's and the errors' numbers, and the examples. -/
import Derived.Test.YtgbgeedcfccclaaDoorLaw02
import Derived.Test.YtgbgeedcfccclaaDoorTurned
namespace Go.Proofs.YtgbgeedcfccclaaDoor.occNames
open Go.RowKit
set_option linter.unusedVariables false

theorem lst_lit2 (w : World) (t : TypeId) (x y : Nat) : Lst .u64 (w.alloc (.cells #[.int .u64 (x : Int), .int .u64 (y : Int)] t)) (some ⟨w.heap.size, 0, none⟩) (ints [x, y]) := by
  refine Or.inr ⟨w.heap.size, 0, rfl, by simp, fun i hi => ?_⟩
  simp only [ints, List.map_cons, List.map_nil, List.length_cons, List.length_nil] at hi
  match i, hi with
  | 0, _ => simp [ints]
  | 1, _ => simp [ints]
theorem wide2 (x y : Nat) (hx : x < 18446744073709551616) (hy : y < 18446744073709551616) : Wide [x, y] := by
  intro i
  match i with
  | 0 => simpa using hx
  | 1 => simpa using hy
  | k + 2 => simp
theorem wide1 (x : Nat) (hx : x < 18446744073709551616) : Wide [x] := by
  intro i
  match i with
  | 0 => simpa using hx
  | k + 1 => simp

set_option maxRecDepth 100000 in
set_option maxHeartbeats 2000000 in
theorem walk (W : World) (hT : Tab W) : Calls Tryd.prog 3 #[] W fun e w' => e = .returned (.bool true) ∧ Below W.heap.size W w' := by
  have HT := Lib.hid hT
  obtain ⟨x, hx⟩ : ∃ x : Nat, x = 9223372036854775808 := ⟨_, rfl⟩
  have hxl : x < 18446744073709551616 := by omega
  have HA : Hid (Lst .u64 (W.alloc (.cells #[.int .u64 9223372036854775808, .int .u64 1] 22)) (some ⟨W.heap.size, 0, none⟩) (ints [x, 1])) := Lib.hid (by rw [hx]; exact lst_lit2 W _ 9223372036854775808 1)
  have HW := Lib.hid (wide2 x 1 hxl (by omega))
  have HW1 := Lib.hid (wide1 x hxl)
  have hb : Below W.heap.size W (W.alloc (.cells #[.int .u64 9223372036854775808, .int .u64 1] 22)) := (Below.refl _ _).alloc (Nat.le_refl _) _
  have c1 : Oc.countV [x, 1] 65 0 65 = 2 := by rw [hx]; decide +kernel
  have c2 : Oc.countE [x, 1] 65 0 65 = 0 := by rw [hx]; decide +kernel
  have c3 : Oc.nextV [x, 1] 65 64 = 64 := by rw [hx]; decide +kernel
  have c4 : Oc.nextE [x, 1] 65 64 = 0 := by rw [hx]; decide +kernel
  have c5 : Oc.lastV [x, 1] 65 64 = 63 := by rw [hx]; decide +kernel
  have c6 : Oc.lastE [x, 1] 65 64 = 0 := by rw [hx]; decide +kernel
  have c7 : Oc.nextE [x, 1] 65 66 = 2 := by rw [hx]; decide +kernel
  have c8 : Oc.lastE [x, 1] 65 63 = 6 := by rw [hx]; decide +kernel
  have c9 : Oc.nthE [x, 1] 65 2 = 6 := by rw [hx]; decide +kernel
  have d1 : Oc.hasE [x, 1] 65 65 = 2 := by rw [hx]; decide +kernel
  have d2 : Oc.countE [x, 1] 65 3 2 = 2 := by rw [hx]; decide +kernel
  have d3 : Oc.hasE [x, 1] 65 63 = 0 := by rw [hx]; decide +kernel
  have q1 : Hid (Oc.withW [x, 1] 65 63 false = [0, 1]) := Lib.hid (by rw [hx]; decide +kernel)
  have d4 : Oc.chk [16] 4 = 8 := by decide +kernel
  have d5 : Oc.chk [1, 0] 64 = 8 := by decide +kernel
  have d6 : Oc.chk [] 65537 = 2 := by decide +kernel
  have d7 : Oc.chk [] (-1) = 2 := by decide +kernel
  have d8 : Oc.chk [] 0 = 0 := by decide +kernel
  have d9 : Oc.chk [x] 64 = 0 := by rw [hx]; decide +kernel
  have f1 : atB 2 0 2 = true := by decide
  have f2 : atB 64 0 64 = true := by decide
  have f3 : atB 63 0 63 = true := by decide
  have HX := Lib.hid hx
  clear hx
  go_enter Tryd.func3, Tryd.ntmps3
  go_wp2_with fail
  refine (oCount (some ⟨W.heap.size, 0, none⟩) 2 [x, 1] 65 0 65 _ HA.out HW.out (by simp)).mono ?_
  rintro e w2 ⟨rfl, hb2⟩
  replace HA := Lib.hid (HA.out.below hb2)
  replace hb := hb.trans (hb2.mono hb.size)
  clear hb2
  go_wp2_with fail
  refine (oNext (some ⟨W.heap.size, 0, none⟩) 2 [x, 1] 65 64 _ HA.out HW.out (by simp) (HT.out.below hb)).mono ?_
  rintro e w2 ⟨rfl, hb2⟩
  replace HA := Lib.hid (HA.out.below hb2)
  replace hb := hb.trans (hb2.mono hb.size)
  clear hb2
  go_wp2_with fail
  refine (oLast (some ⟨W.heap.size, 0, none⟩) 2 [x, 1] 65 64 _ HA.out HW.out (by simp)).mono ?_
  rintro e w2 ⟨rfl, hb2⟩
  replace HA := Lib.hid (HA.out.below hb2)
  replace hb := hb.trans (hb2.mono hb.size)
  clear hb2
  go_wp2_with fail
  refine (oNext (some ⟨W.heap.size, 0, none⟩) 2 [x, 1] 65 66 _ HA.out HW.out (by simp) (HT.out.below hb)).mono ?_
  rintro e w2 ⟨rfl, hb2⟩
  replace HA := Lib.hid (HA.out.below hb2)
  replace hb := hb.trans (hb2.mono hb.size)
  clear hb2
  go_wp2_with fail
  refine (oLast (some ⟨W.heap.size, 0, none⟩) 2 [x, 1] 65 63 _ HA.out HW.out (by simp)).mono ?_
  rintro e w2 ⟨rfl, hb2⟩
  replace HA := Lib.hid (HA.out.below hb2)
  replace hb := hb.trans (hb2.mono hb.size)
  clear hb2
  go_wp2_with fail
  refine (oNth (some ⟨W.heap.size, 0, none⟩) 2 [x, 1] 65 2 _ HA.out HW.out (by simp) (HT.out.below hb) (by decide)).mono ?_
  rintro e w2 ⟨rfl, hb2⟩
  replace HA := Lib.hid (HA.out.below hb2)
  replace hb := hb.trans (hb2.mono hb.size)
  clear hb2
  go_wp2_with fail
  refine (oHas (some ⟨W.heap.size, 0, none⟩) 2 [x, 1] 65 65 _ HA.out HW.out (by simp)).mono ?_
  rintro e w2 ⟨rfl, hb2⟩
  replace HA := Lib.hid (HA.out.below hb2)
  replace hb := hb.trans (hb2.mono hb.size)
  clear hb2
  go_wp2_with fail
  refine (oCount (some ⟨W.heap.size, 0, none⟩) 2 [x, 1] 65 3 2 _ HA.out HW.out (by simp)).mono ?_
  rintro e w2 ⟨rfl, hb2⟩
  replace HA := Lib.hid (HA.out.below hb2)
  replace hb := hb.trans (hb2.mono hb.size)
  clear hb2
  go_wp2_with fail
  refine (oWith (some ⟨W.heap.size, 0, none⟩) 2 [x, 1] 65 63 false _ HA.out HW.out (by simp)).mono ?_
  rintro e w2 ⟨v, rfl, hown, hb2⟩
  rw [q1.out] at hown
  obtain ⟨A1, c1', hv, hL⟩ := own_words hown
  have H1 := Lib.hid hL
  rw [hv]
  clear hv hown hL HA
  replace hb := hb.trans (hb2.mono hb.size)
  clear hb2
  go_wp2_with fail
  have hal := (Below.refl w2.heap.size w2).alloc (Nat.le_refl _) (.cells #[.int .u64 16] 22)
  replace H1 := Lib.hid (H1.out.below hal)
  replace hb := hb.trans (hal.mono hb.size)
  refine (oCheck (some ⟨w2.heap.size, 0, none⟩) 1 [16] 4 _ (lst_lit w2 _ 16) (wide1 16 (by omega)) (by simp)).mono ?_
  clear hal
  rintro e w3 ⟨rfl, hb2⟩
  replace H1 := Lib.hid (H1.out.below hb2)
  replace hb := hb.trans (hb2.mono hb.size)
  clear hb2
  obtain ⟨w2, rfl⟩ : ∃ w2 : World, w2 = w3 := ⟨_, rfl⟩
  go_wp2_with fail
  have hal := (Below.refl w2.heap.size w2).alloc (Nat.le_refl _) (.cells #[.int .u64 1, .int .u64 0] 22)
  replace H1 := Lib.hid (H1.out.below hal)
  replace hb := hb.trans (hal.mono hb.size)
  refine (oCheck (some ⟨w2.heap.size, 0, none⟩) 2 [1, 0] 64 _ (lst_lit2 w2 _ 1 0) (wide2 1 0 (by omega) (by omega)) (by simp)).mono ?_
  clear hal
  rintro e w3 ⟨rfl, hb2⟩
  replace H1 := Lib.hid (H1.out.below hb2)
  replace hb := hb.trans (hb2.mono hb.size)
  clear hb2
  obtain ⟨w2, rfl⟩ : ∃ w2 : World, w2 = w3 := ⟨_, rfl⟩
  go_wp2_with fail
  refine (oCheck none 0 [] 65537 _ Lst.nil wide_nil (by simp)).mono ?_
  rintro e w2 ⟨rfl, hb2⟩
  replace H1 := Lib.hid (H1.out.below hb2)
  replace hb := hb.trans (hb2.mono hb.size)
  clear hb2
  go_wp2_with fail
  refine (oCheck none 0 [] (-1) _ Lst.nil wide_nil (by simp)).mono ?_
  rintro e w2 ⟨rfl, hb2⟩
  replace H1 := Lib.hid (H1.out.below hb2)
  replace hb := hb.trans (hb2.mono hb.size)
  clear hb2
  go_wp2_with fail
  refine (oCheck none 0 [] 0 _ Lst.nil wide_nil (by simp)).mono ?_
  rintro e w2 ⟨rfl, hb2⟩
  replace H1 := Lib.hid (H1.out.below hb2)
  replace hb := hb.trans (hb2.mono hb.size)
  clear hb2
  go_wp2_with fail
  have hal := (Below.refl w2.heap.size w2).alloc (Nat.le_refl _) (.cells #[.int .u64 9223372036854775808] 22)
  replace H1 := Lib.hid (H1.out.below hal)
  replace hb := hb.trans (hal.mono hb.size)
  refine (oCheck (some ⟨w2.heap.size, 0, none⟩) 1 [x] 64 _ (by rw [HX.out]; exact lst_lit w2 _ 9223372036854775808) HW1.out (by simp)).mono ?_
  clear hal
  rintro e w3 ⟨rfl, hb2⟩
  replace H1 := Lib.hid (H1.out.below hb2)
  replace hb := hb.trans (hb2.mono hb.size)
  clear hb2
  obtain ⟨w2, rfl⟩ : ∃ w2 : World, w2 = w3 := ⟨_, rfl⟩
  go_wp2_with fail
  refine (l2At 2 0 2 _).mono ?_
  rintro e w3 ⟨rfl, rfl⟩
  go_wp2_with fail
  refine (l2At 64 0 64 _).mono ?_
  rintro e w3 ⟨rfl, rfl⟩
  go_wp2_with fail
  refine (l2At 63 0 63 _).mono ?_
  rintro e w3 ⟨rfl, rfl⟩
  go_wp2_with fail
  refine (l2Alive _ (HT.out.below hb)).mono ?_
  rintro e w2 ⟨rfl, hb2⟩
  replace H1 := Lib.hid (H1.out.below hb2)
  replace hb := hb.trans (hb2.mono hb.size)
  clear hb2
  go_wp2_with fail
  have hal := (Below.refl w2.heap.size w2).alloc (Nat.le_refl _) (.cells #[.int .u64 0, .int .u64 1] 22)
  replace H1 := Lib.hid (H1.out.below hal)
  replace hb := hb.trans (hal.mono hb.size)
  refine (oSame A1 (some ⟨w2.heap.size, 0, none⟩) c1' 2 [0, 1] [0, 1] _ H1.out (lst_lit2 w2 _ 0 1) (by simp) (by simp)).mono ?_
  clear hal
  rintro e w3 ⟨rfl, hb2⟩
  rw [beq_self_eq_true]
  replace hb := hb.trans (hb2.mono hb.size)
  clear hb2
  go_wp2_with fail
  go_ret
  exact ⟨rfl, hb⟩
end Go.Proofs.YtgbgeedcfccclaaDoor.occNames

/- The law SpreadTells, walked over the contracts: it answers true. -/
import Derived.Test.YtbkbcjdhppnfoaaLaw07
namespace Go.Proofs.Ytbkbcjdhppnfoaa.spreadTells
open Go.RowKit
set_option linter.unusedVariables false
set_option linter.unusedSimpArgs false

set_option maxRecDepth 100000 in
set_option maxHeartbeats 4000000 in
theorem walk (n f t : Int) (w : World) (hn : -9223372036854775808 ≤ n ∧ n ≤ 9223372036854775807) (hf : -9223372036854775808 ≤ f ∧ f ≤ 9223372036854775807) (ht : -9223372036854775808 ≤ t ∧ t ≤ 9223372036854775807) :
    Calls Try.prog 4 #[.int .i64 n, .int .i64 f, .int .i64 t] w fun e w' => e = .returned (.bool true) ∧ Below w.heap.size w w' := by
  have B0 := Lib.hid (Below.refl w.heap.size w)
  have C1 := Lib.hid (fun W => sPlaces n f t W hn hf ht)
  have C2 := Lib.hid (fun W => r7Places n f t W ht.2)
  have PL := places_len n f t
  generalize Sp.placesV n f t = zs at *
  generalize Sp.placesE n f t = er at *
  by_cases hbig : 5000 < n ∧ n ≤ 65536
  · obtain ⟨k1, k2⟩ := hbig
    go_enter Try.func4, Try.ntmps4
    go_wp2
    go_ret
    exact ⟨rfl, B0.out⟩
  · by_cases k1 : 5000 < n
    · have k2 : 65536 < n := by omega
      clear hbig
      go_enter Try.func4, Try.ntmps4
      go_wp2_with fail
      refine (C1.out _).mono ?_
      rintro e w1 ⟨v, rfl, hrow, hb⟩
      replace B0 := Lib.hid (B0.out.trans (hb.mono B0.out.size))
      obtain ⟨A1, d1, rfl, hL⟩ := irow_list hrow
      have L1 := Lib.hid hL
      clear hrow hb hL
      go_wp2_with fail
      refine (C2.out _).mono ?_
      rintro e w2 ⟨v, rfl, hrow, hb⟩
      replace B0 := Lib.hid (B0.out.trans (hb.mono B0.out.size))
      obtain ⟨A2, d2, rfl, hL⟩ := irow_list hrow
      have L2 := Lib.hid hL
      replace L1 := Lib.hid (L1.out.below hb)
      clear hrow hb hL
      have CS := Lib.hid (rSameInts A1 A2 d1 d2 zs zs w2 L1.out L2.out (by omega) (by omega))
      rw [show (zs == zs) = true from by simp] at CS
      go_wp2_with fail
      refine CS.out.mono ?_
      rintro e w3 ⟨rfl, hb⟩
      replace B0 := Lib.hid (B0.out.trans (hb.mono B0.out.size))
      go_wp2
      go_ret
      exact ⟨rfl, B0.out⟩
    · clear hbig
      go_enter Try.func4, Try.ntmps4
      go_wp2_with fail
      refine (C1.out _).mono ?_
      rintro e w1 ⟨v, rfl, hrow, hb⟩
      replace B0 := Lib.hid (B0.out.trans (hb.mono B0.out.size))
      obtain ⟨A1, d1, rfl, hL⟩ := irow_list hrow
      have L1 := Lib.hid hL
      clear hrow hb hL
      go_wp2_with fail
      refine (C2.out _).mono ?_
      rintro e w2 ⟨v, rfl, hrow, hb⟩
      replace B0 := Lib.hid (B0.out.trans (hb.mono B0.out.size))
      obtain ⟨A2, d2, rfl, hL⟩ := irow_list hrow
      have L2 := Lib.hid hL
      replace L1 := Lib.hid (L1.out.below hb)
      clear hrow hb hL
      have CS := Lib.hid (rSameInts A1 A2 d1 d2 zs zs w2 L1.out L2.out (by omega) (by omega))
      rw [show (zs == zs) = true from by simp] at CS
      go_wp2_with fail
      refine CS.out.mono ?_
      rintro e w3 ⟨rfl, hb⟩
      replace B0 := Lib.hid (B0.out.trans (hb.mono B0.out.size))
      go_wp2
      go_ret
      exact ⟨rfl, B0.out⟩
end Go.Proofs.Ytbkbcjdhppnfoaa.spreadTells

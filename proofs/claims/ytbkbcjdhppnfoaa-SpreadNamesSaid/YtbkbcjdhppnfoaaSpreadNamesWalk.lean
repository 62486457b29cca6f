/- The law SpreadNames, walked over the contracts: it answers true. -/
import Derived.Test.YtbkbcjdhppnfoaaLaw07
namespace Go.Proofs.Ytbkbcjdhppnfoaa.spreadNames
open Go.RowKit
set_option linter.unusedVariables false
set_option linter.unusedSimpArgs false

set_option maxRecDepth 100000 in
set_option maxHeartbeats 4000000 in
theorem walk (w : World) : Calls Try.prog 3 #[] w fun e w' => e = .returned (.bool true) ∧ Below w.heap.size w w' := by
  have B0 := Lib.hid (Below.refl w.heap.size w)
  have P1 := Lib.hid (fun W => sPlaces 4 4 8 W (by omega) (by omega) (by omega))
  rw [show Sp.placesV 4 4 8 = [4, 5, 6, 7] from by decide +kernel, show Sp.placesE 4 4 8 = 0 from by decide +kernel] at P1
  have P2 := Lib.hid (fun W => sPlaces 0 5 5 W (by omega) (by omega) (by omega))
  rw [show Sp.placesV 0 5 5 = [] from by decide +kernel, show Sp.placesE 0 5 5 = 0 from by decide +kernel] at P2
  have P3 := Lib.hid (fun W => sPlaces 5 4 8 W (by omega) (by omega) (by omega))
  rw [show Sp.placesV 5 4 8 = [] from by decide +kernel, show Sp.placesE 5 4 8 = 2 from by decide +kernel] at P3
  have P4 := Lib.hid (fun W => sPlaces 0 5 4 W (by omega) (by omega) (by omega))
  rw [show Sp.placesV 0 5 4 = [] from by decide +kernel, show Sp.placesE 0 5 4 = 2 from by decide +kernel] at P4
  have P5 := Lib.hid (fun W => sPlaces 0 0 65537 W (by omega) (by omega) (by omega))
  rw [show Sp.placesV 0 0 65537 = [] from by decide +kernel, show Sp.placesE 0 0 65537 = 2 from by decide +kernel] at P5
  have P6 := Lib.hid (fun W => sPlaces (-1) 0 4 W (by omega) (by omega) (by omega))
  rw [show Sp.placesV (-1) 0 4 = [] from by decide +kernel, show Sp.placesE (-1) 0 4 = 2 from by decide +kernel] at P6
  have S1 := Lib.hid (fun W => sShare 1 0 8 3 0 W (by omega) (by omega) (by omega) (by omega) (by omega))
  rw [show Sp.shareV 1 0 8 3 0 = 0 from by decide +kernel, show Sp.shareE 1 0 8 3 0 = 2 from by decide +kernel] at S1
  have S2 := Lib.hid (fun W => sShare 1 0 8 2 2 W (by omega) (by omega) (by omega) (by omega) (by omega))
  rw [show Sp.shareV 1 0 8 2 2 = 0 from by decide +kernel, show Sp.shareE 1 0 8 2 2 = 2 from by decide +kernel] at S2
  have S3 := Lib.hid (fun W => sShare 1 0 8 0 0 W (by omega) (by omega) (by omega) (by omega) (by omega))
  rw [show Sp.shareV 1 0 8 0 0 = 0 from by decide +kernel, show Sp.shareE 1 0 8 0 0 = 2 from by decide +kernel] at S3
  have R1 := Lib.hid (fun W => sRank 1 2 8 1 W (by omega) (by omega) (by omega) (by omega))
  rw [show Sp.rankV 1 2 8 1 = 0 from by decide +kernel, show Sp.rankE 1 2 8 1 = 2 from by decide +kernel] at R1
  have R2 := Lib.hid (fun W => sRank 2 2 8 8 W (by omega) (by omega) (by omega) (by omega))
  rw [show Sp.rankV 2 2 8 8 = 2 from by decide +kernel, show Sp.rankE 2 2 8 8 = 0 from by decide +kernel] at R2
  have S4 := Lib.hid (fun W => lShareT 0 3 3 7 6 0 W (by omega) (by omega) (by omega) (by omega) (by omega) (by decide +kernel))
  have CL := Lib.hid (fun W => lAlive W)
  have PN := Lib.hid (fun W => lst_new [4, 5, 6, 7] W 3)
  go_enter Try.func3, Try.ntmps3
  go_wp2_with fail
  refine (P1.out _).mono ?_
  rintro e w1 ⟨v, rfl, hrow, hb⟩
  replace B0 := Lib.hid (B0.out.trans (hb.mono B0.out.size))
  obtain ⟨A, c, rfl, hL⟩ := irow_list hrow
  have L1 := Lib.hid hL
  clear hrow hL hb
  dsimp only [List.length_cons, List.length_nil]
  go_wp2_with fail
  refine (P2.out _).mono ?_
  rintro e u2 ⟨v2, rfl, hrow, hb⟩
  replace B0 := Lib.hid (B0.out.trans (hb.mono B0.out.size))
  replace L1 := Lib.hid (L1.out.below hb)
  obtain ⟨A2, c2, rfl, _⟩ := irow_list hrow
  clear hrow hb
  dsimp only [List.length_nil]
  go_wp2_with fail
  refine (P3.out _).mono ?_
  rintro e u3 ⟨v3, rfl, hrow, hb⟩
  replace B0 := Lib.hid (B0.out.trans (hb.mono B0.out.size))
  replace L1 := Lib.hid (L1.out.below hb)
  obtain ⟨A3, c3, rfl, _⟩ := irow_list hrow
  clear hrow hb
  dsimp only [List.length_nil]
  go_wp2_with fail
  refine (P4.out _).mono ?_
  rintro e u4 ⟨v4, rfl, hrow, hb⟩
  replace B0 := Lib.hid (B0.out.trans (hb.mono B0.out.size))
  replace L1 := Lib.hid (L1.out.below hb)
  obtain ⟨A4, c4, rfl, _⟩ := irow_list hrow
  clear hrow hb
  dsimp only [List.length_nil]
  go_wp2_with fail
  refine (P5.out _).mono ?_
  rintro e u5 ⟨v5, rfl, hrow, hb⟩
  replace B0 := Lib.hid (B0.out.trans (hb.mono B0.out.size))
  replace L1 := Lib.hid (L1.out.below hb)
  obtain ⟨A5, c5, rfl, _⟩ := irow_list hrow
  clear hrow hb
  dsimp only [List.length_nil]
  go_wp2_with fail
  refine (P6.out _).mono ?_
  rintro e u6 ⟨v6, rfl, hrow, hb⟩
  replace B0 := Lib.hid (B0.out.trans (hb.mono B0.out.size))
  replace L1 := Lib.hid (L1.out.below hb)
  obtain ⟨A6, c6, rfl, _⟩ := irow_list hrow
  clear hrow hb
  dsimp only [List.length_nil]
  go_wp2_with fail
  refine (S1.out _).mono ?_
  rintro e xS1 ⟨rfl, hb⟩
  replace B0 := Lib.hid (B0.out.trans (hb.mono B0.out.size))
  replace L1 := Lib.hid (L1.out.below hb)
  clear hb
  go_wp2_with fail
  refine (S2.out _).mono ?_
  rintro e xS2 ⟨rfl, hb⟩
  replace B0 := Lib.hid (B0.out.trans (hb.mono B0.out.size))
  replace L1 := Lib.hid (L1.out.below hb)
  clear hb
  go_wp2_with fail
  refine (S3.out _).mono ?_
  rintro e xS3 ⟨rfl, hb⟩
  replace B0 := Lib.hid (B0.out.trans (hb.mono B0.out.size))
  replace L1 := Lib.hid (L1.out.below hb)
  clear hb
  go_wp2_with fail
  refine (R1.out _).mono ?_
  rintro e xR1 ⟨rfl, hb⟩
  replace B0 := Lib.hid (B0.out.trans (hb.mono B0.out.size))
  replace L1 := Lib.hid (L1.out.below hb)
  clear hb
  go_wp2_with fail
  refine (R2.out _).mono ?_
  rintro e xR2 ⟨rfl, hb⟩
  replace B0 := Lib.hid (B0.out.trans (hb.mono B0.out.size))
  replace L1 := Lib.hid (L1.out.below hb)
  clear hb
  go_wp2_with fail
  refine (CL.out _).mono ?_
  rintro e xCL ⟨rfl, hb⟩
  replace B0 := Lib.hid (B0.out.trans (hb.mono B0.out.size))
  replace L1 := Lib.hid (L1.out.below hb)
  clear hb
  have CS := Lib.hid (rSameInts A (some ⟨xCL.heap.size, 0, none⟩) c 4 [4, 5, 6, 7] [4, 5, 6, 7] _ (L1.out.below ((Below.refl _ _).alloc (Nat.le_refl _) (.cells (([4, 5, 6, 7] : List Int).map (Value.int .i64)).toArray 3))) (PN.out xCL) (by simp) (by simp))
  rw [show (([4, 5, 6, 7] : List Int) == [4, 5, 6, 7]) = true from by decide] at CS
  replace B0 := Lib.hid (B0.out.alloc B0.out.size (.cells (([4, 5, 6, 7] : List Int).map (Value.int .i64)).toArray 3))
  go_wp2_with fail
  refine CS.out.mono ?_
  rintro e w9 ⟨rfl, hb⟩
  replace B0 := Lib.hid (B0.out.trans (hb.mono B0.out.size))
  clear hb
  go_wp2_with fail
  refine (S4.out _).mono ?_
  rintro e y ⟨rfl, hb⟩
  replace B0 := Lib.hid (B0.out.trans (hb.mono B0.out.size))
  go_wp2
  go_ret
  exact ⟨rfl, B0.out⟩
end Go.Proofs.Ytbkbcjdhppnfoaa.spreadNames

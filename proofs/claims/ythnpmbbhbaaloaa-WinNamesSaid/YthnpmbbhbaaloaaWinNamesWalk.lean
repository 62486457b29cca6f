/- The law WinNames, walked over the contracts: it answers true. -/
import Derived.Test.YthnpmbbhbaaloaaLaw06
namespace Go.Proofs.Ythnpmbbhbaaloaa.winNames
open Go.RowKit
set_option linter.unusedVariables false
set_option linter.unusedSimpArgs false

set_option maxRecDepth 100000 in
set_option maxHeartbeats 4000000 in
theorem walk (w : World) : Calls Try.prog 3 #[] w fun e w' => e = .returned (.bool true) ∧ Below w.heap.size w w' := by
  have B0 := Lib.hid (Below.refl w.heap.size w)
  have H1 := Lib.hid (fun W => vHigh 4 24 W (by omega) (by omega))
  rw [show Wn.highV 4 24 = 0 from by decide +kernel, show Wn.highE 4 24 = 2 from by decide +kernel] at H1
  have H2 := Lib.hid (fun W => vHigh 3 12 W (by omega) (by omega))
  rw [show Wn.highV 3 12 = 0 from by decide +kernel, show Wn.highE 3 12 = 2 from by decide +kernel] at H2
  have H3 := Lib.hid (fun W => vHigh 64 64 W (by omega) (by omega))
  rw [show Wn.highV 64 64 = 0 from by decide +kernel, show Wn.highE 64 64 = 0 from by decide +kernel] at H3
  have A1 := Lib.hid (fun W => vAround 4 16 3 0 W (by omega) (by omega))
  rw [show Wn.loV 4 16 3 0 = 0 from by decide +kernel, show Wn.hiV 4 16 3 0 = 0 from by decide +kernel, show Wn.askE 4 16 3 0 = 2 from by decide +kernel] at A1
  have A2 := Lib.hid (fun W => vAround 4 16 0 16 W (by omega) (by omega))
  rw [show Wn.loV 4 16 0 16 = 0 from by decide +kernel, show Wn.hiV 4 16 0 16 = 0 from by decide +kernel, show Wn.askE 4 16 0 16 = 2 from by decide +kernel] at A2
  have A3 := Lib.hid (fun W => vAround 4 16 (-1) 0 W (by omega) (by omega))
  rw [show Wn.loV 4 16 (-1) 0 = 0 from by decide +kernel, show Wn.hiV 4 16 (-1) 0 = 0 from by decide +kernel, show Wn.askE 4 16 (-1) 0 = 2 from by decide +kernel] at A3
  have R1 := Lib.hid (fun W => vRow 4 16 1 W (by omega) (by omega))
  rw [show Wn.row 4 16 1 = [(0, 8), (8, 16)] from by decide +kernel, show Wn.askE 4 16 1 0 = 0 from by decide +kernel] at R1
  have M1 := Lib.hid (fun W => vMeet 4 16 0 (-1) W (by omega) (by omega))
  rw [show Wn.meetV 4 16 0 (-1) = 0 from by decide +kernel, show Wn.meetE 4 16 0 (-1) = 2 from by decide +kernel] at M1
  have M2 := Lib.hid (fun W => vMeet 4 16 5 5 W (by omega) (by omega))
  rw [show Wn.meetV 4 16 5 5 = 0 from by decide +kernel, show Wn.meetE 4 16 5 5 = 0 from by decide +kernel] at M2
  have CL := Lib.hid (fun W => lAlive W)
  have PN := Lib.hid (fun W => plst_new [(0, 8), (8, 16)] W 33)
  go_enter Try.func3, Try.ntmps3
  go_wp2_with fail
  refine (H1.out _).mono ?_
  rintro e w1 ⟨rfl, rfl⟩
  go_wp2_with fail
  refine (H2.out _).mono ?_
  rintro e w1 ⟨rfl, rfl⟩
  go_wp2_with fail
  refine (H3.out _).mono ?_
  rintro e w1 ⟨rfl, rfl⟩
  go_wp2_with fail
  refine (A1.out _).mono ?_
  rintro e w2 ⟨rfl, hb⟩
  replace B0 := Lib.hid (B0.out.trans (hb.mono B0.out.size))
  clear hb
  go_wp2_with fail
  refine (A2.out _).mono ?_
  rintro e w3 ⟨rfl, hb⟩
  replace B0 := Lib.hid (B0.out.trans (hb.mono B0.out.size))
  clear hb
  go_wp2_with fail
  refine (A3.out _).mono ?_
  rintro e w4 ⟨rfl, hb⟩
  replace B0 := Lib.hid (B0.out.trans (hb.mono B0.out.size))
  clear hb
  go_wp2_with fail
  refine (R1.out _).mono ?_
  rintro e w5 ⟨v, rfl, hrow, hb⟩
  replace B0 := Lib.hid (B0.out.trans (hb.mono B0.out.size))
  obtain ⟨A, c, rfl, hP⟩ := wrow_list hrow
  have P1 := Lib.hid hP
  clear hrow hP hb
  dsimp only [List.length_cons, List.length_nil]
  go_wp2_with fail
  refine (M1.out _).mono ?_
  rintro e w6 ⟨rfl, hb⟩
  replace B0 := Lib.hid (B0.out.trans (hb.mono B0.out.size))
  replace P1 := Lib.hid (P1.out.below hb)
  clear hb
  go_wp2_with fail
  refine (M2.out _).mono ?_
  rintro e w7 ⟨rfl, hb⟩
  replace B0 := Lib.hid (B0.out.trans (hb.mono B0.out.size))
  replace P1 := Lib.hid (P1.out.below hb)
  clear hb
  go_wp2_with fail
  refine (CL.out _).mono ?_
  rintro e w8 ⟨rfl, hb⟩
  replace B0 := Lib.hid (B0.out.trans (hb.mono B0.out.size))
  replace P1 := Lib.hid (P1.out.below hb)
  clear hb
  have CS := Lib.hid (r6SameAll A (some ⟨w8.heap.size, 0, none⟩) c 2 [(0, 8), (8, 16)] [(0, 8), (8, 16)] _ (P1.out.below ((Below.refl _ _).alloc (Nat.le_refl _) (.cells (pcells [(0, 8), (8, 16)]).toArray 33))) (PN.out w8) (by simp) (by simp))
  rw [show (([(0, 8), (8, 16)] : List (Int × Int)) == [(0, 8), (8, 16)]) = true from by decide] at CS
  have B3 := Lib.hid (B0.out.alloc B0.out.size (.cells (pcells [(0, 8), (8, 16)]).toArray 33))
  go_wp2_with fail
  refine CS.out.mono ?_
  rintro e w9 ⟨rfl, hb⟩
  go_wp2
  go_ret
  exact ⟨rfl, B3.out.trans (hb.mono B3.out.size)⟩
end Go.Proofs.Ythnpmbbhbaaloaa.winNames

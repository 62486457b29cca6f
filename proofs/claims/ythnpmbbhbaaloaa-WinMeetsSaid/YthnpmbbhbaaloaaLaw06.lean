/- What the law package of layer 6's own function returns: alive, which answers true; what its laws want of rows. -/
import Derived.Test.YthnpmbbhbaaloaaWinG
import Derived.Test.YthnpmbbhbaaloaaRefE06
namespace Go.Proofs.Ythnpmbbhbaaloaa
open Go.RowKit
set_option linter.unusedVariables false
set_option linter.unusedSimpArgs false

/-- A new row of windows reads as a list. -/
theorem wrow_list {ps : List (Int × Int)} {base : Nat} {w : World} {v : Value} (h : w.ownsRow base 33 2 v ps.length (pcells ps)) : ∃ A c, v = .slice A ps.length c ∧ PLst w A ps := by
  obtain ⟨A, c, h1, h2, _⟩ := own_cells h
  exact ⟨A, c, h1, h2⟩
theorem plst_new (ps : List (Int × Int)) (w : World) (t : TypeId) : PLst (w.alloc (.cells (pcells ps).toArray t)) (some ⟨w.heap.size, 0, none⟩) ps := by
  refine Or.inr ⟨w.heap.size, 0, rfl, by simp, fun i hi => ?_⟩
  have hh : (w.alloc (.cells (pcells ps).toArray t)).heap[w.heap.size]? = some (.cells (pcells ps).toArray t) := by show (w.heap.push _)[w.heap.size]? = _; exact Array.getElem?_push_size
  simp only [World.cell?, hh, Nat.zero_add]
  simp [hi]

theorem path_len (g s a : Int) : (Wn.path g s a).length ≤ 64 := by
  unfold Wn.path
  split
  · rename_i hk
    obtain ⟨hf, _⟩ := Wn.ask_yes hk
    obtain ⟨H, f⟩ := Wn.fit_of hf
    have := f.hH
    have := f.h14
    simp
    omega
  · simp
theorem row_len (g s h : Int) : (Wn.row g s h).length ≤ 65536 := by
  unfold Wn.row
  split
  · rename_i hk
    obtain ⟨hf, _⟩ := Wn.ask_yes hk
    obtain ⟨H, f⟩ := Wn.fit_of hf
    have h1 := f.s1
    have h2 := f.seg
    have h3 := f.g1
    have h4 := Wn.wd_pos h3 h
    have := Int.ediv_le_self (a := s) (Wn.wd g h) (by omega)
    simp
    omega
  · simp

set_option maxRecDepth 100000 in
set_option maxHeartbeats 2000000 in
theorem lAlive (w : World) : Calls Try.prog 13 #[] w fun e w' => e = .returned (.bool true) ∧ Below w.heap.size w w' := by
  have CH := Lib.hid (fun W => vHigh 4 16 W (by omega) (by omega))
  rw [show Wn.highV 4 16 = 2 from by decide +kernel, show Wn.highE 4 16 = 0 from by decide +kernel] at CH
  have CP := Lib.hid (fun W => vPath 4 16 9 W (by omega) (by omega))
  rw [show Wn.path 4 16 9 = [(8, 12), (8, 16), (0, 16)] from by decide +kernel, show Wn.askE 4 16 0 9 = 0 from by decide +kernel] at CP
  have C1 := Lib.hid (fun W => vMeet 4 16 3 4 W (by omega) (by omega))
  rw [show Wn.meetV 4 16 3 4 = 1 from by decide +kernel, show Wn.meetE 4 16 3 4 = 0 from by decide +kernel] at C1
  have C2 := Lib.hid (fun W => vMeet 4 16 7 8 W (by omega) (by omega))
  rw [show Wn.meetV 4 16 7 8 = 2 from by decide +kernel, show Wn.meetE 4 16 7 8 = 0 from by decide +kernel] at C2
  have PN := Lib.hid (fun W => plst_new [(8, 12), (8, 16), (0, 16)] W 33)
  go_enter Try.func13, Try.ntmps13
  go_wp2_with fail
  refine (CH.out _).mono ?_
  rintro e w1 ⟨rfl, rfl⟩
  go_wp2_with fail
  refine (CP.out _).mono ?_
  rintro e w2 ⟨v, rfl, hrow, hb⟩
  obtain ⟨A, c, rfl, hP⟩ := wrow_list hrow
  have B2 := Lib.hid hb
  have HP := Lib.hid hP
  clear hrow hb hP
  dsimp only [List.length_cons, List.length_nil]
  go_wp2_with fail
  refine (C1.out _).mono ?_
  rintro e w3 ⟨rfl, hb⟩
  replace B2 := Lib.hid (B2.out.trans (hb.mono B2.out.size))
  replace HP := Lib.hid (HP.out.below hb)
  clear hb
  go_wp2_with fail
  refine (C2.out _).mono ?_
  rintro e w4 ⟨rfl, hb⟩
  replace B2 := Lib.hid (B2.out.trans (hb.mono B2.out.size))
  replace HP := Lib.hid (HP.out.below hb)
  clear hb
  have CS := Lib.hid (r6SameAll A (some ⟨w4.heap.size, 0, none⟩) c 3 [(8, 12), (8, 16), (0, 16)] [(8, 12), (8, 16), (0, 16)] _ (HP.out.below ((Below.refl _ _).alloc (Nat.le_refl _) (.cells (pcells [(8, 12), (8, 16), (0, 16)]).toArray 33))) (PN.out w4) (by simp) (by simp))
  rw [show (([(8, 12), (8, 16), (0, 16)] : List (Int × Int)) == [(8, 12), (8, 16), (0, 16)]) = true from by decide] at CS
  have B3 := Lib.hid (B2.out.alloc B2.out.size (.cells (pcells [(8, 12), (8, 16), (0, 16)]).toArray 33))
  go_wp2_with fail
  refine CS.out.mono ?_
  rintro e w5 ⟨rfl, hb⟩
  go_wp2
  go_ret
  exact ⟨rfl, B3.out.trans (hb.mono B3.out.size)⟩
end Go.Proofs.Ythnpmbbhbaaloaa

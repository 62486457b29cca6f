/- What the document's own answers of layer 3 (package shelfmarkref03) return: Is, Open. -/
import Derived.Test.YthdondjhiflkaaaBytes03
import Derived.Test.YthdondjhiflkaaaRefD03
import Derived.Deep.RegionHeld3
namespace Go.Proofs.Ythdondjhiflkaaa
open Go.RowKit
set_option linter.unusedVariables false

theorem r3SealedM (n : Nat) (a : Option Addr) (cap : Nat) (bs : List Nat) (w : World) (hbn : n = bs.length) (hl : Lst .u8 w a (ints bs)) (hw : Bytes bs) (hn : bs.length ≤ 2147483647) (hnil : a = none → bs.length = 0 ∧ cap = 0) :
    Calls Try.prog 26 #[.slice a n cap] w (RowPost (Cr.sealed bs) w) := by
  subst hbn
  exact r3Sealed a cap bs w hl hw hn hnil
set_option maxHeartbeats 400000 in
theorem r3Is_long (b off cap : Nat) (bs : List Nat) (w : World) (hl : Lst .u8 w (some ⟨b, off, none⟩) (ints bs)) (hw : Bytes bs) (hn : bs.length ≤ 2147483647) (hcap : bs.length ≤ cap) (h4 : 4 ≤ bs.length) :
    Calls Try.prog 27 #[.slice (some ⟨b, off, none⟩) bs.length cap] w fun e w' => e = .returned (.bool (Cr.isSealed bs)) ∧ Below w.heap.size w w' := by
  have HL := Lib.hid hl
  have HW := Lib.hid hw
  clear hl hw
  have g1 : (4 : Int) ≤ (bs.length : Int) := by omega
  have g2 : IntKind.i64.wrap ((bs.length : Int) - 4) = (bs.length : Int) - 4 := IntWalk.i64_in _ (by omega)
  have g3 : ((bs.length : Int) - 4).toNat = bs.length - 4 := by omega
  have g4 : (bs.length : Int) - 4 ≤ (cap : Int) := by omega
  have g5 : (0 : Int) ≤ (bs.length : Int) - 4 := by omega
  go_enter Try.func27, Try.ntmps27
  go_wp2
  refine wp_region_held_drew (S := fun w' => Sem.run Try.prog (convert 22 9 (.slice (some ⟨b, off, none⟩) bs.length cap)) w' = .ok (.string (strB bs)) w') (by kernel_rfl) ?_ (fun hHeld => ?_)
  · exact conv_bytes cap (HL.out.below (below_drewN (Below.refl _ _) 1))
  refine wpAnyH_take (i := 0) (oi := Oper.mk _ _ _ _ _ _) (v := ?v0) rfl (by kernel_rfl) (by kernel_rfl) (by kernel_rfl) (fun _ _ _ h => h) (Or.inl ⟨by rfl, ?hy0⟩) (by assumption) ?rest0
  case hy0 =>
    intro w0 hSw
    go_simp
    all_goals with_reducible rfl
  simp only [Act.put, List.setIfInBounds_toArray, List.set_cons_zero, List.set_cons_succ]
  refine wpAnyH_take (i := 1) (oi := Oper.mk _ _ _ _ _ _) (v := ?v1) rfl (by kernel_rfl) (by kernel_rfl) (by kernel_rfl) (fun _ _ _ h => h) (Or.inl ⟨by rfl, ?hy1⟩) (by assumption) ?rest1
  case hy1 =>
    intro w0 hSw
    go_simp
    all_goals with_reducible rfl
  simp only [Act.put, List.setIfInBounds_toArray, List.set_cons_zero, List.set_cons_succ]
  refine wpAnyH_take (i := 2) (oi := Oper.mk _ _ _ _ _ _) (v := ?v2) rfl (by kernel_rfl) (by kernel_rfl) (by kernel_rfl) (fun _ _ _ h => h) (Or.inl ⟨by rfl, ?hy2⟩) (by assumption) ?rest2
  case hy2 =>
    intro w0 hSw
    go_simp
    all_goals with_reducible rfl
  simp only [Act.put, List.setIfInBounds_toArray, List.set_cons_zero, List.set_cons_succ]
  refine wpAnyH_take (i := 3) (oi := Oper.mk _ _ _ _ _ _) (v := ?v3) rfl (by kernel_rfl) (by kernel_rfl) (by kernel_rfl) (fun _ _ _ h => h) (Or.inl ⟨by rfl, ?hy3⟩) (by assumption) ?rest3
  case hy3 =>
    intro w0 hSw
    go_simp
    all_goals with_reducible rfl
  simp only [Act.put, List.setIfInBounds_toArray, List.set_cons_zero, List.set_cons_succ]
  refine wpAnyH_take (i := 4) (oi := Oper.mk _ _ _ _ _ _) (v := ?v4) rfl (by kernel_rfl) (by kernel_rfl) (by kernel_rfl) (fun _ _ _ h => h) (Or.inl ⟨by rfl, ?hy4⟩) (by assumption) ?rest4
  case hy4 =>
    intro w0 hSw
    go_simp
    all_goals with_reducible rfl
  simp only [Act.put, List.setIfInBounds_toArray, List.set_cons_zero, List.set_cons_succ]
  refine wpAnyH_take (i := 5) (oi := Oper.mk _ _ _ _ _ _) (v := ?v5) rfl (by kernel_rfl) (by kernel_rfl) (by kernel_rfl) (fun _ _ _ h => h) (Or.inl ⟨by rfl, ?hy5⟩) (by assumption) ?rest5
  case hy5 =>
    intro w0 hSw
    go_simp
    all_goals with_reducible rfl
  simp only [Act.put, List.setIfInBounds_toArray, List.set_cons_zero, List.set_cons_succ]
  refine wpAnyH_take (i := 6) (oi := Oper.mk _ _ _ _ _ _) (v := ?v6) rfl (by kernel_rfl) (by kernel_rfl) (by kernel_rfl) (fun _ _ _ h => h) (Or.inl ⟨by rfl, ?hy6⟩) (by assumption) ?rest6
  case hy6 =>
    intro w0 hSw
    go_simp
    all_goals with_reducible rfl
  simp only [Act.put, List.setIfInBounds_toArray, List.set_cons_zero, List.set_cons_succ]
  refine wpAnyH_take (i := 7) (oi := Oper.mk _ _ _ _ _ _) (v := ?v7) rfl (by kernel_rfl) (by kernel_rfl) (by kernel_rfl) (fun _ _ _ h => h) (Or.inl ⟨by rfl, ?hy7⟩) (by assumption) ?rest7
  case hy7 =>
    intro w0 hSw
    go_simp
    all_goals with_reducible rfl
  simp only [Act.put, List.setIfInBounds_toArray, List.set_cons_zero, List.set_cons_succ]
  refine wpAnyH_take (i := 8) (oi := Oper.mk _ _ _ _ _ _) (v := ?v8) rfl (by kernel_rfl) (by kernel_rfl) (by kernel_rfl) (fun _ _ _ h => h) (Or.inl ⟨by rfl, ?hy8⟩) (by assumption) ?rest8
  case hy8 =>
    intro w0 hSw
    go_simp
    all_goals with_reducible rfl
  simp only [Act.put, List.setIfInBounds_toArray, List.set_cons_zero, List.set_cons_succ]
  refine wpAnyH_take (i := 11) (oi := Oper.mk _ _ _ _ _ _) (v := ?v9) rfl (by kernel_rfl) (by kernel_rfl) (by kernel_rfl) (fun _ _ _ h => h) (Or.inl ⟨by rfl, ?hy9⟩) (by assumption) ?rest9
  case hy9 =>
    intro w0 hSw
    go_simp
    all_goals with_reducible rfl
  simp only [Act.put, List.setIfInBounds_toArray, List.set_cons_zero, List.set_cons_succ]
  refine wpAnyH_take (i := 12) (oi := Oper.mk _ _ _ _ _ _) (v := ?v10) rfl (by kernel_rfl) (by kernel_rfl) (by kernel_rfl) (fun _ _ _ h => h) (Or.inl ⟨by rfl, ?hy10⟩) (by assumption) ?rest10
  case hy10 =>
    intro w0 hSw
    go_simp
    all_goals with_reducible rfl
  simp only [Act.put, List.setIfInBounds_toArray, List.set_cons_zero, List.set_cons_succ]
  refine wpAnyH_ready (rs := [9]) (by kernel_rfl) (by simp) ?_
  refine AllReadyH.cons (o := Oper.mk _ _ _ _ _ _) rfl (fun K hK => ?_) AllReadyH.nil
  go_simp
  refine (r3SealedM (bs.length - 4) _ cap (bs.take (bs.length - 4)) _ (by rw [List.length_take]; omega) (by rw [ints_take]; exact (HL.out.below (below_drewN (Below.refl _ _) 1)).take _) (HW.out.take _) (by rw [List.length_take]; omega) (fun h => by cases h)).mono ?_
  rintro e w1 ⟨v, rfl, hown, hb1⟩
  replace hb1 : Below w.heap.size w w1 := (below_drewN (Below.refl _ _) 1).trans hb1
  obtain ⟨A, c, rfl, hC, _, _, _⟩ := own_cells hown
  have q := conv_bytes c hC.lst
  clear hown hC
  go_wp2_with fail
  refine hK.out _ _ (conv_bytes cap (HL.out.below hb1)) (fun hHeld2 => ?_)
  clear hK K hHeld
  try simp only [Act.put, List.setIfInBounds_toArray, List.set_cons_zero, List.set_cons_succ]
  refine wpAnyH_ready (rs := [10]) (by kernel_rfl) (by simp) ?_
  refine AllReadyH.cons (o := Oper.mk _ _ _ _ _ _) rfl (fun K hK => ?_) AllReadyH.nil
  go_simp
  refine hK.out _ _ hHeld2 (fun hHeld3 => ?_)
  clear hK K hHeld2
  try simp only [Act.put, List.setIfInBounds_toArray, List.set_cons_zero, List.set_cons_succ]
  refine wpAnyH_take (i := 13) (oi := Oper.mk _ _ _ _ _ _) (v := ?v13) rfl (by kernel_rfl) (by kernel_rfl) (by kernel_rfl) (fun _ _ _ h => h) (Or.inl ⟨by rfl, ?hy13⟩) (by assumption) ?rest13
  case hy13 =>
    intro w0 hSw
    go_simp
    all_goals with_reducible rfl
  try simp only [Act.put, List.setIfInBounds_toArray, List.set_cons_zero, List.set_cons_succ]
  refine wpAnyH_take (i := 14) (oi := Oper.mk _ _ _ _ _ _) (v := ?v14) rfl (by kernel_rfl) (by kernel_rfl) (by kernel_rfl) (fun _ _ _ h => h) (Or.inl ⟨by rfl, ?hy14⟩) (by assumption) ?rest14
  case hy14 =>
    intro w0 hSw
    go_simp
    all_goals with_reducible rfl
  try simp only [Act.put, List.setIfInBounds_toArray, List.set_cons_zero, List.set_cons_succ]
  refine wpAnyH_take (i := 15) (oi := Oper.mk _ _ _ _ _ _) (v := ?v15) rfl (by kernel_rfl) (by kernel_rfl) (by kernel_rfl) (fun _ _ _ h => h) (Or.inl ⟨by rfl, ?hy15⟩) (by assumption) ?rest15
  case hy15 =>
    intro w0 hSw
    go_simp
    all_goals with_reducible rfl
  try simp only [Act.put, List.setIfInBounds_toArray, List.set_cons_zero, List.set_cons_succ]
  refine wpAnyH_done (by kernel_rfl) ?_ _
  go_wp2
  go_ret
  refine ⟨?_, hb1⟩
  unfold Cr.isSealed
  rw [decide_eq_true h4, Bool.true_and, ← strB_beq (bytes_sealed (HW.out.take _)) HW.out]
  rfl
set_option maxHeartbeats 400000 in
theorem r3Is_short (a : Option Addr) (cap : Nat) (bs : List Nat) (w : World) (h4 : ¬ 4 ≤ bs.length) :
    Calls Try.prog 27 #[.slice a bs.length cap] w fun e w' => e = .returned (.bool (Cr.isSealed bs)) ∧ Below w.heap.size w w' := by
  have g1 : decide ((4 : Int) ≤ (bs.length : Int)) = false := by simp; omega
  have H := Lib.hid (show Cr.isSealed bs = false by unfold Cr.isSealed; rw [decide_eq_false h4, Bool.false_and])
  clear h4
  go_enter Try.func27, Try.ntmps27
  go_wp2
  refine wp_region_held_drew (S := fun _ => True) (by kernel_rfl) trivial (fun hHeld => ?_)
  refine wpAnyH_take (i := 0) (oi := Oper.mk _ _ _ _ _ _) (v := ?v0) rfl (by kernel_rfl) (by kernel_rfl) (by kernel_rfl) (fun _ _ _ h => h) (Or.inl ⟨by rfl, ?hy0⟩) trivial ?rest0
  case hy0 =>
    intro w0 hSw
    go_simp
    all_goals with_reducible rfl
  simp only [Act.put, List.setIfInBounds_toArray, List.set_cons_zero, List.set_cons_succ]
  refine wpAnyH_take (i := 1) (oi := Oper.mk _ _ _ _ _ _) (v := ?v1) rfl (by kernel_rfl) (by kernel_rfl) (by kernel_rfl) (fun _ _ _ h => h) (Or.inl ⟨by rfl, ?hy1⟩) trivial ?rest1
  case hy1 =>
    intro w0 hSw
    go_simp
    all_goals with_reducible rfl
  simp only [Act.put, List.setIfInBounds_toArray, List.set_cons_zero, List.set_cons_succ]
  refine wpAnyH_take (i := 2) (oi := Oper.mk _ _ _ _ _ _) (v := ?v2) rfl (by kernel_rfl) (by kernel_rfl) (by kernel_rfl) (fun _ _ _ h => h) (Or.inl ⟨by rfl, ?hy2⟩) trivial ?rest2
  case hy2 =>
    intro w0 hSw
    go_simp
    all_goals with_reducible rfl
  simp only [Act.put, List.setIfInBounds_toArray, List.set_cons_zero, List.set_cons_succ]
  refine wpAnyH_take (i := 3) (oi := Oper.mk _ _ _ _ _ _) (v := ?v3) rfl (by kernel_rfl) (by kernel_rfl) (by kernel_rfl) (fun _ _ _ h => h) (Or.inl ⟨by rfl, ?hy3⟩) trivial ?rest3
  case hy3 =>
    intro w0 hSw
    go_simp
    all_goals with_reducible rfl
  simp only [Act.put, List.setIfInBounds_toArray, List.set_cons_zero, List.set_cons_succ]
  refine wpAnyH_take (i := 4) (oi := Oper.mk _ _ _ _ _ _) (v := undef) rfl (by kernel_rfl) (by kernel_rfl) (by kernel_rfl) (fun _ _ _ h => h) (Or.inr ⟨by rfl, rfl⟩) trivial ?_
  simp only [Act.put, List.setIfInBounds_toArray, List.set_cons_zero, List.set_cons_succ]
  refine wpAnyH_take (i := 5) (oi := Oper.mk _ _ _ _ _ _) (v := undef) rfl (by kernel_rfl) (by kernel_rfl) (by kernel_rfl) (fun _ _ _ h => h) (Or.inr ⟨by rfl, rfl⟩) trivial ?_
  simp only [Act.put, List.setIfInBounds_toArray, List.set_cons_zero, List.set_cons_succ]
  refine wpAnyH_take (i := 6) (oi := Oper.mk _ _ _ _ _ _) (v := undef) rfl (by kernel_rfl) (by kernel_rfl) (by kernel_rfl) (fun _ _ _ h => h) (Or.inr ⟨by rfl, rfl⟩) trivial ?_
  simp only [Act.put, List.setIfInBounds_toArray, List.set_cons_zero, List.set_cons_succ]
  refine wpAnyH_take (i := 7) (oi := Oper.mk _ _ _ _ _ _) (v := undef) rfl (by kernel_rfl) (by kernel_rfl) (by kernel_rfl) (fun _ _ _ h => h) (Or.inr ⟨by rfl, rfl⟩) trivial ?_
  simp only [Act.put, List.setIfInBounds_toArray, List.set_cons_zero, List.set_cons_succ]
  refine wpAnyH_take (i := 8) (oi := Oper.mk _ _ _ _ _ _) (v := undef) rfl (by kernel_rfl) (by kernel_rfl) (by kernel_rfl) (fun _ _ _ h => h) (Or.inr ⟨by rfl, rfl⟩) trivial ?_
  simp only [Act.put, List.setIfInBounds_toArray, List.set_cons_zero, List.set_cons_succ]
  refine wpAnyH_take (i := 11) (oi := Oper.mk _ _ _ _ _ _) (v := undef) rfl (by kernel_rfl) (by kernel_rfl) (by kernel_rfl) (fun _ _ _ h => h) (Or.inr ⟨by rfl, rfl⟩) trivial ?_
  simp only [Act.put, List.setIfInBounds_toArray, List.set_cons_zero, List.set_cons_succ]
  refine wpAnyH_take (i := 12) (oi := Oper.mk _ _ _ _ _ _) (v := undef) rfl (by kernel_rfl) (by kernel_rfl) (by kernel_rfl) (fun _ _ _ h => h) (Or.inr ⟨by rfl, rfl⟩) trivial ?_
  simp only [Act.put, List.setIfInBounds_toArray, List.set_cons_zero, List.set_cons_succ]
  refine wpAnyH_ready (rs := [9]) (by kernel_rfl) (by simp) ?_
  refine AllReadyH.cons (o := Oper.mk _ _ _ _ _ _) rfl (fun K hK => ?_) AllReadyH.nil
  go_simp
  refine hK.out _ _ trivial (fun _ => ?_)
  clear hK K
  try simp only [Act.put, List.setIfInBounds_toArray, List.set_cons_zero, List.set_cons_succ]
  refine wpAnyH_take (i := 10) (oi := Oper.mk _ _ _ _ _ _) (v := undef) rfl (by kernel_rfl) (by kernel_rfl) (by kernel_rfl) (fun _ _ _ h => h) (Or.inr ⟨by rfl, rfl⟩) trivial ?_
  simp only [Act.put, List.setIfInBounds_toArray, List.set_cons_zero, List.set_cons_succ]
  refine wpAnyH_take (i := 13) (oi := Oper.mk _ _ _ _ _ _) (v := undef) rfl (by kernel_rfl) (by kernel_rfl) (by kernel_rfl) (fun _ _ _ h => h) (Or.inr ⟨by rfl, rfl⟩) trivial ?_
  simp only [Act.put, List.setIfInBounds_toArray, List.set_cons_zero, List.set_cons_succ]
  refine wpAnyH_take (i := 14) (oi := Oper.mk _ _ _ _ _ _) (v := ?v14) rfl (by kernel_rfl) (by kernel_rfl) (by kernel_rfl) (fun _ _ _ h => h) (Or.inl ⟨by rfl, ?hy14⟩) trivial ?rest14
  case hy14 =>
    intro w0 hSw
    go_simp
    all_goals with_reducible rfl
  simp only [Act.put, List.setIfInBounds_toArray, List.set_cons_zero, List.set_cons_succ]
  refine wpAnyH_take (i := 15) (oi := Oper.mk _ _ _ _ _ _) (v := ?v15) rfl (by kernel_rfl) (by kernel_rfl) (by kernel_rfl) (fun _ _ _ h => h) (Or.inl ⟨by rfl, ?hy15⟩) trivial ?rest15
  case hy15 =>
    intro w0 hSw
    go_simp
    all_goals with_reducible rfl
  simp only [Act.put, List.setIfInBounds_toArray, List.set_cons_zero, List.set_cons_succ]
  refine wpAnyH_done (by kernel_rfl) ?_ _
  go_wp2
  go_ret
  exact ⟨by rw [H.out]; rfl, below_drewN (Below.refl _ _) 1⟩
theorem r3Is (a : Option Addr) (cap : Nat) (bs : List Nat) (w : World) (hl : Lst .u8 w a (ints bs)) (hw : Bytes bs) (hn : bs.length ≤ 2147483647) (hcap : bs.length ≤ cap) :
    Calls Try.prog 27 #[.slice a bs.length cap] w fun e w' => e = .returned (.bool (Cr.isSealed bs)) ∧ Below w.heap.size w w' := by
  by_cases h4 : 4 ≤ bs.length
  · obtain ⟨b, off, rfl, _, _⟩ := hl.byte (i := 0) (by omega)
    exact r3Is_long b off cap bs w hl hw hn hcap h4
  · exact r3Is_short a cap bs w h4
set_option maxHeartbeats 400000 in
theorem r3Open (a : Option Addr) (cap : Nat) (bs : List Nat) (w : World) (hl : Lst .u8 w a (ints bs)) (hw : Bytes bs) (hn : bs.length ≤ 2147483647) (hcap : bs.length ≤ cap) :
    Calls Try.prog 18 #[.slice a bs.length cap] w (RowPost2 (Cr.openV bs) (Cr.openE bs) w) := by
  have HL := Lib.hid hl
  have HW := Lib.hid hw
  have HC := Lib.hid hcap
  clear hl hw
  by_cases h : 1048576 < bs.length
  · have hE : Cr.openE bs = 4 := by unfold Cr.openE; rw [if_pos h]
    have HE := Lib.hid hE
    have HV := Lib.hid (show Cr.openV bs = [] by unfold Cr.openV; rw [hE]; rfl)
    clear hE
    go_enter Try.func18, Try.ntmps18
    go_wp2
    go_ret2
    refine ⟨.slice none 0 0, by rw [HE.out]; rfl, ?_, Below.refl _ _⟩
    rw [HV.out]
    exact World.ownsRow_nil _ _ _ _
  · by_cases hs : Cr.isSealed bs = true
    · have hE : Cr.openE bs = 0 := by unfold Cr.openE; rw [if_neg h, if_pos hs]
      have HE := Lib.hid hE
      have HV := Lib.hid (show Cr.openV bs = bs.take (bs.length - 4) by unfold Cr.openV; rw [if_pos hE])
      have h4 : 4 ≤ bs.length := by
        unfold Cr.isSealed at hs
        rw [Bool.and_eq_true] at hs
        exact of_decide_eq_true hs.1
      obtain ⟨b, off, rfl, _, _⟩ := HL.out.byte (i := 0) (by omega)
      clear hE
      have g2 : IntKind.i64.wrap ((bs.length : Int) - 4) = (bs.length : Int) - 4 := IntWalk.i64_in _ (by omega)
      have g3 : ((bs.length : Int) - 4).toNat = bs.length - 4 := by omega
      have g4 : (bs.length : Int) - 4 ≤ (cap : Int) := by omega
      have g5 : (0 : Int) ≤ (bs.length : Int) - 4 := by omega
      have HT := Lib.hid (show (bs.take (bs.length - 4)).length = bs.length - 4 by rw [List.length_take]; omega)
      go_enter Try.func18, Try.ntmps18
      go_wp2_with fail
      refine (r3Is _ cap bs _ HL.out HW.out hn HC.out).mono ?_
      rintro e w1 ⟨rfl, hb1⟩
      rw [hs]
      go_wp2_with (at_builtin; refine wpList_copy elemB rfl _ _ rfl w1 rfl (some ⟨b, off, none⟩) (bs.length - 4) cap (valsB (bs.take (bs.length - 4))) rfl rfl (by unfold valsB; rw [ints_take]; exact Cells.of_lst ((HL.out.below hb1).take _)) (by rw [valsB_length, Nat.mul_one, HT.out]) (valsB_one _) (fun h => by cases h) (by unfold maxLen; omega) (by omega) ?_; intro A c w2 hown2 _ hb2)
      have R := Lib.hid (own_lower hown2 hb1.size)
      replace hb2 := hb1.trans (hb2.mono hb1.size)
      clear hown2
      go_wp2
      go_ret2
      refine ⟨_, by rw [HE.out]; rfl, ?_, hb2⟩
      rw [HV.out, HT.out]
      exact R.out
    · have hE : Cr.openE bs = 8 := by unfold Cr.openE; rw [if_neg h, if_neg hs]
      have HE := Lib.hid hE
      have HV := Lib.hid (show Cr.openV bs = [] by unfold Cr.openV; rw [hE]; rfl)
      clear hE
      go_enter Try.func18, Try.ntmps18
      go_wp2_with fail
      refine (r3Is a cap bs _ HL.out HW.out hn HC.out).mono ?_
      rintro e w1 ⟨rfl, hb1⟩
      rw [show Cr.isSealed bs = false from by simpa using hs]
      go_wp2
      go_ret2
      refine ⟨.slice none 0 0, by rw [HE.out]; rfl, ?_, hb1⟩
      rw [HV.out]
      exact World.ownsRow_nil _ _ _ _
end Go.Proofs.Ythdondjhiflkaaa

/- The walk of the law OccThere: the slot of a number, and how many are occupied ahead of it, go there and back. -/
import Derived.Test.YtgbgeedcfccclaaDoorLaw02
import Derived.Test.YtgbgeedcfccclaaDoorOccPartsWalk
namespace Go.Proofs.YtgbgeedcfccclaaDoor.occThere
open Go.RowKit
set_option linter.unusedVariables false

set_option maxRecDepth 100000 in
set_option maxHeartbeats 1000000 in
theorem long (a : Option Addr) (cap : Nat) (ws : List Nat) (n k : Int) (W : World) (hT : Tab W) (hk : k ≤ 9223372036854775807) (hl : Lst .u64 W a (ints ws)) (hw : Wide ws) (h20 : 20 < ws.length) :
    Calls Tryd.prog 7 #[.slice a ws.length cap, .int .i64 n, .int .i64 k] W fun e w' => e = .returned (.bool true) ∧ Below W.heap.size W w' := by
  have HT := Lib.hid hT
  have HA := Lib.hid hl
  have HW := Lib.hid hw
  have hb : Below W.heap.size W W := Below.refl _ _
  clear hl hw
  go_enter Tryd.func7, Tryd.ntmps7
  go_wp2_with (first | (go_at_call 17; refine (l2Alive _ (HT.out.below hb)).mono ?_; rintro e w2 ⟨rfl, hb2⟩; replace HA := Lib.hid (HA.out.below hb2); replace hb := hb.trans (hb2.mono hb.size); clear hb2) | (go_at_call 16; refine (l2At _ _ _ _).mono ?_; rintro e w2 ⟨rfl, rfl⟩))
  go_ret
  exact ⟨rfl, hb⟩

set_option maxRecDepth 100000 in
set_option maxHeartbeats 1000000 in
theorem bad (a : Option Addr) (cap : Nat) (ws : List Nat) (n k : Int) (W : World) (hT : Tab W) (hk : k ≤ 9223372036854775807) (hl : Lst .u64 W a (ints ws)) (hw : Wide ws) (h20 : ws.length ≤ 20) (hc : (Oc.chk ws n != 0) = true) :
    Calls Tryd.prog 7 #[.slice a ws.length cap, .int .i64 n, .int .i64 k] W fun e w' => e = .returned (.bool true) ∧ Below W.heap.size W w' := by
  have HT := Lib.hid hT
  have HA := Lib.hid hl
  have HW := Lib.hid hw
  have hb : Below W.heap.size W W := Below.refl _ _
  clear hl hw
  have h65 : ws.length ≤ 65536 := by omega
  go_enter Tryd.func7, Tryd.ntmps7
  go_wp2_with (first | (go_at_call 17; refine (l2Alive _ (HT.out.below hb)).mono ?_; rintro e w2 ⟨rfl, hb2⟩; replace HA := Lib.hid (HA.out.below hb2); replace hb := hb.trans (hb2.mono hb.size); clear hb2) | (go_at_call 16; refine (l2At _ _ _ _).mono ?_; rintro e w2 ⟨rfl, rfl⟩) | (go_at_call 15; refine (oCheck a cap ws _ _ HA.out HW.out h65).mono ?_; rintro e w2 ⟨rfl, hb2⟩; replace HA := Lib.hid (HA.out.below hb2); replace hb := hb.trans (hb2.mono hb.size); clear hb2) | (go_at_call 9; refine (oCount a cap ws _ _ _ _ HA.out HW.out h65).mono ?_; rintro e w2 ⟨rfl, hb2⟩; replace HA := Lib.hid (HA.out.below hb2); replace hb := hb.trans (hb2.mono hb.size); clear hb2) | (go_at_call 13; refine (oHas a cap ws _ _ _ HA.out HW.out h65).mono ?_; rintro e w2 ⟨rfl, hb2⟩; replace HA := Lib.hid (HA.out.below hb2); replace hb := hb.trans (hb2.mono hb.size); clear hb2) | (go_at_call 12; refine (oNth a cap ws _ _ _ HA.out HW.out h65 (HT.out.below hb) hk).mono ?_; rintro e w2 ⟨rfl, hb2⟩; replace HA := Lib.hid (HA.out.below hb2); replace hb := hb.trans (hb2.mono hb.size); clear hb2) | (go_at_call 10; refine (oNext a cap ws _ _ _ HA.out HW.out h65 (HT.out.below hb)).mono ?_; rintro e w2 ⟨rfl, hb2⟩; replace HA := Lib.hid (HA.out.below hb2); replace hb := hb.trans (hb2.mono hb.size); clear hb2) | (go_at_call 11; refine (oLast a cap ws _ _ _ HA.out HW.out h65).mono ?_; rintro e w2 ⟨rfl, hb2⟩; replace HA := Lib.hid (HA.out.below hb2); replace hb := hb.trans (hb2.mono hb.size); clear hb2))
  go_ret
  exact ⟨rfl, hb⟩

set_option maxRecDepth 100000 in
set_option maxHeartbeats 1000000 in
theorem none1 (a : Option Addr) (cap : Nat) (ws : List Nat) (n k : Int) (W : World) (hT : Tab W) (hk : k ≤ 9223372036854775807) (hl : Lst .u64 W a (ints ws)) (hw : Wide ws) (h20 : ws.length ≤ 20) (hc : Oc.chk ws n = 0) (e1 : Oc.countE ws n 0 n = 0) (x1 : Oc.nthE ws n k = 6) (x2 : Oc.nthV ws n k = 0) (h1 : k < 0) :
    Calls Tryd.prog 7 #[.slice a ws.length cap, .int .i64 n, .int .i64 k] W fun e w' => e = .returned (.bool true) ∧ Below W.heap.size W w' := by
  have HT := Lib.hid hT
  have HA := Lib.hid hl
  have HW := Lib.hid hw
  have hb : Below W.heap.size W W := Below.refl _ _
  clear hl hw
  have h65 : ws.length ≤ 65536 := by omega
  go_enter Tryd.func7, Tryd.ntmps7
  go_wp2_with (first | (go_at_call 17; refine (l2Alive _ (HT.out.below hb)).mono ?_; rintro e w2 ⟨rfl, hb2⟩; replace HA := Lib.hid (HA.out.below hb2); replace hb := hb.trans (hb2.mono hb.size); clear hb2) | (go_at_call 16; refine (l2At _ _ _ _).mono ?_; rintro e w2 ⟨rfl, rfl⟩) | (go_at_call 15; refine (oCheck a cap ws _ _ HA.out HW.out h65).mono ?_; rintro e w2 ⟨rfl, hb2⟩; replace HA := Lib.hid (HA.out.below hb2); replace hb := hb.trans (hb2.mono hb.size); clear hb2) | (go_at_call 9; refine (oCount a cap ws _ _ _ _ HA.out HW.out h65).mono ?_; rintro e w2 ⟨rfl, hb2⟩; replace HA := Lib.hid (HA.out.below hb2); replace hb := hb.trans (hb2.mono hb.size); clear hb2) | (go_at_call 13; refine (oHas a cap ws _ _ _ HA.out HW.out h65).mono ?_; rintro e w2 ⟨rfl, hb2⟩; replace HA := Lib.hid (HA.out.below hb2); replace hb := hb.trans (hb2.mono hb.size); clear hb2) | (go_at_call 12; refine (oNth a cap ws _ _ _ HA.out HW.out h65 (HT.out.below hb) hk).mono ?_; rintro e w2 ⟨rfl, hb2⟩; replace HA := Lib.hid (HA.out.below hb2); replace hb := hb.trans (hb2.mono hb.size); clear hb2) | (go_at_call 10; refine (oNext a cap ws _ _ _ HA.out HW.out h65 (HT.out.below hb)).mono ?_; rintro e w2 ⟨rfl, hb2⟩; replace HA := Lib.hid (HA.out.below hb2); replace hb := hb.trans (hb2.mono hb.size); clear hb2) | (go_at_call 11; refine (oLast a cap ws _ _ _ HA.out HW.out h65).mono ?_; rintro e w2 ⟨rfl, hb2⟩; replace HA := Lib.hid (HA.out.below hb2); replace hb := hb.trans (hb2.mono hb.size); clear hb2))
  go_ret
  exact ⟨rfl, hb⟩

set_option maxRecDepth 100000 in
set_option maxHeartbeats 1000000 in
theorem none2 (a : Option Addr) (cap : Nat) (ws : List Nat) (n k : Int) (W : World) (hT : Tab W) (hk : k ≤ 9223372036854775807) (hl : Lst .u64 W a (ints ws)) (hw : Wide ws) (h20 : ws.length ≤ 20) (hc : Oc.chk ws n = 0) (e1 : Oc.countE ws n 0 n = 0) (x1 : Oc.nthE ws n k = 6) (x2 : Oc.nthV ws n k = 0) (h1 : 0 ≤ k) (h2 : Oc.countV ws n 0 n ≤ k) :
    Calls Tryd.prog 7 #[.slice a ws.length cap, .int .i64 n, .int .i64 k] W fun e w' => e = .returned (.bool true) ∧ Below W.heap.size W w' := by
  have HT := Lib.hid hT
  have HA := Lib.hid hl
  have HW := Lib.hid hw
  have hb : Below W.heap.size W W := Below.refl _ _
  clear hl hw
  have h65 : ws.length ≤ 65536 := by omega
  go_enter Tryd.func7, Tryd.ntmps7
  go_wp2_with (first | (go_at_call 17; refine (l2Alive _ (HT.out.below hb)).mono ?_; rintro e w2 ⟨rfl, hb2⟩; replace HA := Lib.hid (HA.out.below hb2); replace hb := hb.trans (hb2.mono hb.size); clear hb2) | (go_at_call 16; refine (l2At _ _ _ _).mono ?_; rintro e w2 ⟨rfl, rfl⟩) | (go_at_call 15; refine (oCheck a cap ws _ _ HA.out HW.out h65).mono ?_; rintro e w2 ⟨rfl, hb2⟩; replace HA := Lib.hid (HA.out.below hb2); replace hb := hb.trans (hb2.mono hb.size); clear hb2) | (go_at_call 9; refine (oCount a cap ws _ _ _ _ HA.out HW.out h65).mono ?_; rintro e w2 ⟨rfl, hb2⟩; replace HA := Lib.hid (HA.out.below hb2); replace hb := hb.trans (hb2.mono hb.size); clear hb2) | (go_at_call 13; refine (oHas a cap ws _ _ _ HA.out HW.out h65).mono ?_; rintro e w2 ⟨rfl, hb2⟩; replace HA := Lib.hid (HA.out.below hb2); replace hb := hb.trans (hb2.mono hb.size); clear hb2) | (go_at_call 12; refine (oNth a cap ws _ _ _ HA.out HW.out h65 (HT.out.below hb) hk).mono ?_; rintro e w2 ⟨rfl, hb2⟩; replace HA := Lib.hid (HA.out.below hb2); replace hb := hb.trans (hb2.mono hb.size); clear hb2) | (go_at_call 10; refine (oNext a cap ws _ _ _ HA.out HW.out h65 (HT.out.below hb)).mono ?_; rintro e w2 ⟨rfl, hb2⟩; replace HA := Lib.hid (HA.out.below hb2); replace hb := hb.trans (hb2.mono hb.size); clear hb2) | (go_at_call 11; refine (oLast a cap ws _ _ _ HA.out HW.out h65).mono ?_; rintro e w2 ⟨rfl, hb2⟩; replace HA := Lib.hid (HA.out.below hb2); replace hb := hb.trans (hb2.mono hb.size); clear hb2))
  go_ret
  exact ⟨rfl, hb⟩

set_option maxRecDepth 100000 in
set_option maxHeartbeats 1000000 in
theorem found (a : Option Addr) (cap : Nat) (ws : List Nat) (n k : Int) (W : World) (hT : Tab W) (hk : k ≤ 9223372036854775807) (hl : Lst .u64 W a (ints ws)) (hw : Wide ws) (h20 : ws.length ≤ 20) (hc : Oc.chk ws n = 0) (e1 : Oc.countE ws n 0 n = 0) (s : Nat) (x1 : Oc.nthE ws n k = 0) (x2 : Oc.nthV ws n k = s) (h1 : (s : Int) < n) (h2 : n ≤ 65536) (e2 : Oc.countE ws n 0 s = 0) (v2 : Oc.countV ws n 0 s = k) (e3 : Oc.hasE ws n s = 0) (v3 : Oc.hasV ws n s = true) (e4 : Oc.nextE ws n s = 0) (v4 : Oc.nextV ws n s = s) (e5 : Oc.lastE ws n (s + 1) = 0) (v5 : Oc.lastV ws n (s + 1) = s) (d1 : atB k 0 k = true) (d2 : atB s 0 s = true) :
    Calls Tryd.prog 7 #[.slice a ws.length cap, .int .i64 n, .int .i64 k] W fun e w' => e = .returned (.bool true) ∧ Below W.heap.size W w' := by
  have HT := Lib.hid hT
  have HA := Lib.hid hl
  have HW := Lib.hid hw
  have hb : Below W.heap.size W W := Below.refl _ _
  clear hl hw
  have h65 : ws.length ≤ 65536 := by omega
  go_enter Tryd.func7, Tryd.ntmps7
  go_wp2_with (first | (go_at_call 17; refine (l2Alive _ (HT.out.below hb)).mono ?_; rintro e w2 ⟨rfl, hb2⟩; replace HA := Lib.hid (HA.out.below hb2); replace hb := hb.trans (hb2.mono hb.size); clear hb2) | (go_at_call 16; refine (l2At _ _ _ _).mono ?_; rintro e w2 ⟨rfl, rfl⟩) | (go_at_call 15; refine (oCheck a cap ws _ _ HA.out HW.out h65).mono ?_; rintro e w2 ⟨rfl, hb2⟩; replace HA := Lib.hid (HA.out.below hb2); replace hb := hb.trans (hb2.mono hb.size); clear hb2) | (go_at_call 9; refine (oCount a cap ws _ _ _ _ HA.out HW.out h65).mono ?_; rintro e w2 ⟨rfl, hb2⟩; replace HA := Lib.hid (HA.out.below hb2); replace hb := hb.trans (hb2.mono hb.size); clear hb2) | (go_at_call 13; refine (oHas a cap ws _ _ _ HA.out HW.out h65).mono ?_; rintro e w2 ⟨rfl, hb2⟩; replace HA := Lib.hid (HA.out.below hb2); replace hb := hb.trans (hb2.mono hb.size); clear hb2) | (go_at_call 12; refine (oNth a cap ws _ _ _ HA.out HW.out h65 (HT.out.below hb) hk).mono ?_; rintro e w2 ⟨rfl, hb2⟩; replace HA := Lib.hid (HA.out.below hb2); replace hb := hb.trans (hb2.mono hb.size); clear hb2) | (go_at_call 10; refine (oNext a cap ws _ _ _ HA.out HW.out h65 (HT.out.below hb)).mono ?_; rintro e w2 ⟨rfl, hb2⟩; replace HA := Lib.hid (HA.out.below hb2); replace hb := hb.trans (hb2.mono hb.size); clear hb2) | (go_at_call 11; refine (oLast a cap ws _ _ _ HA.out HW.out h65).mono ?_; rintro e w2 ⟨rfl, hb2⟩; replace HA := Lib.hid (HA.out.below hb2); replace hb := hb.trans (hb2.mono hb.size); clear hb2))
  go_ret
  exact ⟨rfl, hb⟩

theorem places_sorted (ws : List Nat) (a b : Nat) : (Oc.places ws a b).Pairwise (· < ·) := by
  unfold Oc.places
  exact List.Pairwise.filter _ (List.pairwise_lt_range' ..)
theorem places_cons (ws : List Nat) (s n : Nat) (h : s < n) (hi : Oc.isB ws s = true) : Oc.places ws s n = s :: Oc.places ws (s + 1) n := by
  have h1 := Oc.places_split ws s (s + 1) n (by omega) (by omega)
  have h2 := Oc.places_snoc ws s s (Nat.le_refl _)
  rw [hi, Oc.places_self] at h2
  rw [h1, h2]; rfl
/-- The k-th occupied slot: occupied, and k are ahead of it. -/
theorem nth_facts (ws : List Nat) (n k : Nat) (h : k < (Oc.places ws 0 n).length) :
    (Oc.places ws 0 n)[k] < n ∧ Oc.isB ws (Oc.places ws 0 n)[k] = true ∧ (Oc.places ws 0 (Oc.places ws 0 n)[k]).length = k := by
  have hm := Oc.mem_places.1 (List.getElem_mem h)
  generalize hs : (Oc.places ws 0 n)[k] = s at *
  refine ⟨hm.1.2, hm.2, ?_⟩
  have e : Oc.places ws 0 n = Oc.places ws 0 s ++ s :: Oc.places ws (s + 1) n := by
    rw [Oc.places_split ws 0 s n (by omega) (by omega), places_cons ws s n hm.1.2 hm.2]
  have hl : (Oc.places ws 0 s).length < (Oc.places ws 0 n).length := by rw [e]; simp
  have h2 : (Oc.places ws 0 n)[(Oc.places ws 0 s).length] = s := by simp [e]
  have srt := List.pairwise_iff_getElem.1 (places_sorted ws 0 n)
  rcases Nat.lt_trichotomy (Oc.places ws 0 s).length k with h3 | h3 | h3
  · have := srt _ _ hl h h3; omega
  · exact h3
  · have := srt _ _ h hl h3; omega

theorem walk (a : Option Addr) (cap : Nat) (ws : List Nat) (n k : Int) (W : World) (hT : Tab W) (hk : k ≤ 9223372036854775807) (hl : Lst .u64 W a (ints ws)) (hw : Wide ws) :
    Calls Tryd.prog 7 #[.slice a ws.length cap, .int .i64 n, .int .i64 k] W fun e w' => e = .returned (.bool true) ∧ Below W.heap.size W w' := by
  have HT := Lib.hid hT
  by_cases h20 : 20 < ws.length
  · exact long a cap ws n k W hT hk hl hw h20
  by_cases hc : Oc.chk ws n = 0
  · obtain ⟨m, rfl, hm, hlen, _⟩ := Oc.chk_ok hc
    have e1 := occParts.countE_ok hc (a := 0) (b := (m : Int)) (by omega) (by omega) (by omega)
    have v1 := occParts.countV_ok hc (a := 0) (b := (m : Int)) (by omega) (by omega) (by omega)
    simp only [Int.toNat_natCast, Int.toNat_zero] at v1
    by_cases hbad : k < 0 ∨ ((Oc.places ws 0 m).length : Int) ≤ k
    · have x1 : Oc.nthE ws (m : Int) k = 6 := by unfold Oc.nthE; rw [if_pos hc, Int.toNat_natCast, if_pos hbad]
      have x2 : Oc.nthV ws (m : Int) k = 0 := by simp [Oc.nthV, x1]
      by_cases h1 : k < 0
      · exact none1 a cap ws m k W hT hk hl hw (by omega) hc e1 x1 x2 h1
      · exact none2 a cap ws m k W hT hk hl hw (by omega) hc e1 x1 x2 (by omega) (by omega)
    obtain ⟨k, rfl⟩ := Int.eq_ofNat_of_zero_le (show 0 ≤ k by omega)
    have hk : k < (Oc.places ws 0 m).length := by omega
    have x1 : Oc.nthE ws (m : Int) (k : Int) = 0 := by unfold Oc.nthE; rw [if_pos hc, Int.toNat_natCast, if_neg hbad]
    have x2 : Oc.nthV ws (m : Int) (k : Int) = (((Oc.places ws 0 m)[k] : Nat) : Int) := by
      unfold Oc.nthV; rw [if_pos x1]; simp [List.getD, List.getElem?_eq_getElem hk]
    obtain ⟨f1, f2, f3⟩ := nth_facts ws m k hk
    generalize (Oc.places ws 0 m)[k] = s at *
    have e2 := occParts.countE_ok hc (a := 0) (b := (s : Int)) (by omega) (by omega) (by omega)
    have v2 := occParts.countV_ok hc (a := 0) (b := (s : Int)) (by omega) (by omega) (by omega)
    simp only [Int.toNat_natCast, Int.toNat_zero, f3] at v2
    have e3 : Oc.hasE ws (m : Int) (s : Int) = 0 := by unfold Oc.hasE; rw [if_pos hc, if_neg (by omega)]
    have v3 : Oc.hasV ws (m : Int) (s : Int) = true := by unfold Oc.hasV; rw [if_pos e3, Int.toNat_natCast, f2]
    have pc := places_cons ws s m f1 f2
    have e4 : Oc.nextE ws (m : Int) (s : Int) = 0 := by
      unfold Oc.nextE; simp only [Int.toNat_natCast]; rw [if_pos hc, if_neg (by omega), if_neg (by rw [pc]; simp)]
    have v4 : Oc.nextV ws (m : Int) (s : Int) = (s : Int) := by
      unfold Oc.nextV; rw [if_pos e4]; simp only [Int.toNat_natCast]; rw [pc]; rfl
    have ps := Oc.places_snoc ws 0 s (Nat.zero_le _)
    rw [f2, if_pos rfl] at ps
    have e5 : Oc.lastE ws (m : Int) ((s : Int) + 1) = 0 := by
      unfold Oc.lastE; rw [show ((s : Int) + 1).toNat = s + 1 from by omega, if_pos hc, if_neg (by omega), if_neg (by rw [ps]; simp)]
    have v5 : Oc.lastV ws (m : Int) ((s : Int) + 1) = (s : Int) := by
      unfold Oc.lastV; rw [if_pos e5, show ((s : Int) + 1).toNat = s + 1 from by omega, ps]
      simp [List.getD]
    exact found a cap ws m k W hT (by omega) hl hw (by omega) hc e1 s x1 x2 (by omega) (by omega) e2 v2 e3 v3 e4 v4 e5 v5 (by simp [atB]) (by simp [atB])
  · exact bad a cap ws n k W hT hk hl hw (by omega) (by simp [hc])
end Go.Proofs.YtgbgeedcfccclaaDoor.occThere

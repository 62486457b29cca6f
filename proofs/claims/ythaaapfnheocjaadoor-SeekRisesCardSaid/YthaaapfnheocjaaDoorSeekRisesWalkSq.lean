/- The walk of the law SeekRises: of a greater key the rank is more by the keys between. -/
import Derived.Test.YthaaapfnheocjaaDoorLaw10Sq
import Derived.Test.YthaaapfnheocjaaDoorM19Sq
import Derived.Test.YthaaapfnheocjaaDoorRefB10Sq
namespace Go.Proofs.YthaaapfnheocjaaDoor.seekRises
open Go.RowKit
set_option linter.unusedVariables false
set_option linter.unusedSimpArgs false

def between (ps : List (Int × Int)) (x y : Int) : Nat := (ps.filter fun p => decide (x ≤ p.1) && decide (p.1 < y)).length
theorem between_succ (ps : List (Int × Int)) (x y : Int) {i : Nat} (h : i < ps.length) : between (ps.take (i + 1)) x y = between (ps.take i) x y + (if x ≤ (ps.getD i (0, 0)).1 ∧ (ps.getD i (0, 0)).1 < y then 1 else 0) := by
  unfold between; rw [List.take_succ_eq_append_getElem h, List.filter_append, List.length_append]
  congr 1
  simp only [List.getD, List.getElem?_eq_getElem h, Option.getD_some]
  by_cases e : x ≤ (ps[i]).1 <;> by_cases e2 : (ps[i]).1 < y <;> simp [e, e2]
theorem between_le (ps : List (Int × Int)) (x y : Int) (i : Nat) : between (ps.take i) x y ≤ i := by
  unfold between; refine Nat.le_trans (List.length_filter_le _ _) ?_; rw [List.length_take]; omega
theorem between_rank {s : Sl} (hc : Sk.chkE s = 0) {x y : Int} (h : x ≤ y) : Sk.rankV s y - Sk.rankV s x = (between (s.of 0 s.keys.length) x y : Int) := by
  have e := Sk.filter_between (Sk.key s) h (Sk.all s); unfold Sk.rankV; rw [if_pos hc, if_pos hc]
  have e2 : between (s.of 0 s.keys.length) x y = ((Sk.all s).filter fun i => decide (x ≤ Sk.key s i) && decide (Sk.key s i < y)).length := by
    unfold between Sl.of Sk.all; rw [List.filter_map, List.length_map]
    rfl
  rw [e2]; unfold Sk.low
  omega
def RiseJ (ps : List (Int × Int)) (x y : Int) (W0 : World) (n i : Value) (wr : World) : Prop := ∃ j : Nat, j ≤ ps.length ∧ i = .int .i64 j ∧ n = .int .i64 (between (ps.take j) x y : Nat) ∧ Below W0.heap.size W0 wr
set_option maxRecDepth 100000 in
set_option maxHeartbeats 4000000 in
theorem full (s : Sl) (a : Ads) (x y : Int) (W : World) (h : Held W s a) (hok : s.Ok) (hs : s.Short) (hg : s.greatB 600 = false) (hT : Tab W) (hc : Sk.chkE s = 0) (hxy : x ≤ y) :
    Calls Tryd.prog 6 #[slv s a, .int .i64 x, .int .i64 y] W fun e w' => e = .returned (.bool true) ∧ Below W.heap.size W w' := by
  have HGr := Lib.hid hg; have l2 := hs.keys; have CR := Lib.hid (fun V (hv : Held V s a) tv => kRank s a x V hv hok hs tv); have CQ := Lib.hid (fun V (hv : Held V s a) tv => kRank s a y V hv hok hs tv); have CP := Lib.hid (fun V (hv : Held V s a) tv => cPairs s a 0 s.keys.length V hv hok hs tv); have hM := (Sk.chk_zero.1 hc).1; have HBT := Lib.hid (between_rank hc hxy)
  have HN : (s.of 0 s.keys.length).length ≤ 65536 := by unfold Sl.of; rw [List.length_map]; have := Oc.places_length_le s.words 0 s.keys.length; omega
  have R1 := Lib.hid (show Sk.rankV s x = ((Sk.low s x).length : Int) by unfold Sk.rankV; rw [if_pos hc]); have R2 := Lib.hid (show Sk.rankV s y = ((Sk.low s y).length : Int) by unfold Sk.rankV; rw [if_pos hc]); have b1 := Sk.low_le s x; have b2 := Sk.low_le s y
  have pe : s.pairsE 0 s.keys.length = 0 := by
    unfold Sl.pairsE Sl.partB; rw [may_iff.2 hM]
    simp
  have pv : s.pairsV 0 s.keys.length = s.of 0 s.keys.length := by unfold Sl.pairsV; rw [if_pos pe]; rfl
  rw [pe, pv] at CP; rw [hc, R1.out] at CR; rw [hc, R2.out] at CQ; rw [R1.out, R2.out] at HBT; obtain ⟨ps, hps⟩ : ∃ ps, ps = s.of 0 s.keys.length := ⟨_, rfl⟩; rw [← hps] at CP HN HBT; obtain ⟨r, hr⟩ : ∃ r, r = (Sk.low s x).length := ⟨_, rfl⟩; obtain ⟨q, hq⟩ : ∃ q, q = (Sk.low s y).length := ⟨_, rfl⟩; rw [← hr] at CR HBT b1; rw [← hq] at CQ HBT b2
  have k0 : decide (x > y) = false := by simp; omega
  have k9 : decide (y < x) = false := by simp; omega
  have HA := Lib.hid h; have TB := Lib.hid hT; have BX := Lib.hid (Box.new W s a 30); have HB := Lib.hid (fun o => (Below.refl W.heap.size W).alloc (Nat.le_refl _) o); clear h hok hs hg hT hc hM R1 R2 pe pv hps hr hq hxy; unfold slCells at BX; unfold slv at CR CQ CP; unfold slv
  go_enter Tryd.func6, Tryd.ntmps6
  go_wp2_with fail
  refine (l10Alive _ (TB.out.below (HB.out _))).mono ?_; rintro e w0 ⟨rfl, hb⟩; have BB := Lib.hid ((HB.out _).trans (hb.mono (by simp))); replace BX := Lib.hid (BX.out.below hb); replace HA := Lib.hid (HA.out.below BB.out); replace TB := Lib.hid (TB.out.below BB.out); clear hb HB; obtain ⟨_, p0, p1, p2, p3, p4, p5, _⟩ := BX.out
  go_wp2_with fail
  refine (r4Great s a 600 _).mono ?_; rintro e w1 ⟨rfl, hb⟩; rw [HGr.out]; replace BX := Lib.hid (BX.out.below hb); replace TB := Lib.hid (TB.out.below hb); replace HA := Lib.hid (HA.out.below hb); replace BB := Lib.hid (BB.out.trans (hb.mono BB.out.size)); clear hb p0 p1 p2 p3 p4 p5; obtain ⟨_, p0, p1, p2, p3, p4, p5, _⟩ := BX.out
  go_wp2_with fail
  refine (CR.out _ HA.out TB.out).mono ?_; rintro e w2 ⟨rfl, hb⟩; replace BX := Lib.hid (BX.out.below hb); replace TB := Lib.hid (TB.out.below hb); replace HA := Lib.hid (HA.out.below hb); replace BB := Lib.hid (BB.out.trans (hb.mono BB.out.size)); clear hb p0 p1 p2 p3 p4 p5; obtain ⟨_, p0, p1, p2, p3, p4, p5, _⟩ := BX.out
  go_wp2_with fail
  refine (CQ.out _ HA.out TB.out).mono ?_; rintro e w3 ⟨rfl, hb⟩; replace BX := Lib.hid (BX.out.below hb); replace TB := Lib.hid (TB.out.below hb); replace HA := Lib.hid (HA.out.below hb); replace BB := Lib.hid (BB.out.trans (hb.mono BB.out.size)); clear hb p0 p1 p2 p3 p4 p5; obtain ⟨_, p0, p1, p2, p3, p4, p5, _⟩ := BX.out
  go_wp2_with fail
  refine (CP.out _ HA.out TB.out).mono ?_; rintro e w4 ⟨v, rfl, hown, hb⟩; obtain ⟨A, c, rfl, hP⟩ := own_plst10 hown; have P4 := Lib.hid hP; replace BX := Lib.hid (BX.out.below hb); replace TB := Lib.hid (TB.out.below hb); replace HA := Lib.hid (HA.out.below hb); replace BB := Lib.hid (BB.out.trans (hb.mono BB.out.size)); clear hb p0 p1 p2 p3 p4 p5 hown hP
  go_wp2_with fail
  go_loopw [14, 15] (RiseJ ps x y w4) (fun _ i _ => ps.length - (intOf i).toNat)
  case atStart => exact ⟨0, Nat.zero_le _, rfl, rfl, Below.refl _ _⟩
  case round =>
    obtain ⟨j, hj, rfl, rfl, hbr⟩ := hrel
    by_cases hlt : j < ps.length
    · obtain ⟨b1, o1, rfl, _, c1, _⟩ := (P4.out.below hbr).pair hlt
      have HS := Lib.hid (between_succ ps x y hlt); have hle := between_le ps x y j; obtain ⟨m, hm⟩ : ∃ m, between (ps.take j) x y = m := ⟨_, rfl⟩; rw [hm] at HS hle ⊢; obtain ⟨z, hz⟩ : ∃ z, (ps.getD j (0, 0)).1 = z := ⟨_, rfl⟩; rw [hz] at c1 HS; have BR := Lib.hid hbr; clear hm hz hbr
      by_cases h1 : x ≤ z
      · have k1 : decide (z ≥ x) = true := by simp [h1]
        have k2 : decide (x ≤ z) = true := by simp [h1]
        by_cases h2 : z < y
        · have k3 : decide (z < y) = true := by simp [h2]
          rw [if_pos ⟨h1, h2⟩] at HS; clear h1 h2; go_wp2
          try (go_quiet (fail))
          try go_wp2
          go_roundw
          case rel => exact ⟨j + 1, by omega, by go_num, by rw [HS.out]; go_num, by first | exact BR.out | exact below_drewN BR.out _⟩
          case measure => simp [intOf]; omega
        · have k3 : decide (z < y) = false := by simp [h2]
          rw [if_neg (fun h => h2 h.2)] at HS; clear h1 h2; go_wp2
          try (go_quiet (fail))
          try go_wp2
          go_roundw
          case rel => exact ⟨j + 1, by omega, by go_num, by rw [HS.out, Nat.add_zero], by first | exact BR.out | exact below_drewN BR.out _⟩
          case measure => simp [intOf]; omega
      · have k1 : decide (z ≥ x) = false := by simp; omega
        have k2 : decide (x ≤ z) = false := by simp [h1]
        rw [if_neg (fun h => h1 h.1)] at HS; clear h1; go_wp2
        try (go_quiet (fail))
        try go_wp2
        go_roundw
        case rel => exact ⟨j + 1, by omega, by go_num, by rw [HS.out, Nat.add_zero], by first | exact BR.out | exact below_drewN BR.out _⟩
        case measure => simp [intOf]; omega
    · have HE := Lib.hid (show ps.take j = ps from List.take_of_length_le (by omega))
      rw [HE.out]; obtain ⟨m, hm⟩ : ∃ m : Nat, between ps x y = m := ⟨_, rfl⟩; rw [hm] at HBT ⊢
      have kz : (((q : Int) - (r : Int)) == (m : Int)) = true := by rw [HBT.out]; simp
      clear hm; go_wp2; go_ret; exact ⟨rfl, BB.out.trans (hbr.mono BB.out.size)⟩
set_option maxRecDepth 100000 in
set_option maxHeartbeats 4000000 in
theorem full2 (s : Sl) (a : Ads) (x y : Int) (W : World) (h : Held W s a) (hok : s.Ok) (hs : s.Short) (hg : s.greatB 600 = false) (hT : Tab W) (hc : ¬ Sk.chkE s = 0) (hxy : x ≤ y) :
    Calls Tryd.prog 6 #[slv s a, .int .i64 x, .int .i64 y] W fun e w' => e = .returned (.bool true) ∧ Below W.heap.size W w' := by
  have HGr := Lib.hid hg; have l2 := hs.keys; have CR := Lib.hid (fun V (hv : Held V s a) tv => kRank s a x V hv hok hs tv); have CQ := Lib.hid (fun V (hv : Held V s a) tv => kRank s a y V hv hok hs tv); have CP := Lib.hid (fun V (hv : Held V s a) tv => cPairs s a 0 s.keys.length V hv hok hs tv); have R1 := Lib.hid (show Sk.rankV s x = 0 by unfold Sk.rankV; rw [if_neg hc]); have R2 := Lib.hid (show Sk.rankV s y = 0 by unfold Sk.rankV; rw [if_neg hc]); rw [R1.out] at CR; rw [R2.out] at CQ
  have k1 : (Sk.chkE s != 0) = true := by simp [hc]
  have k0 : decide (x > y) = false := by simp; omega
  have k9 : decide (y < x) = false := by simp; omega
  have HA := Lib.hid h; have TB := Lib.hid hT; have BX := Lib.hid (Box.new W s a 30); have HB := Lib.hid (fun o => (Below.refl W.heap.size W).alloc (Nat.le_refl _) o); clear h hok hs hg hT hc R1 R2 hxy; unfold slCells at BX; unfold slv at CR CQ CP; unfold slv
  go_enter Tryd.func6, Tryd.ntmps6
  go_wp2_with fail
  refine (l10Alive _ (TB.out.below (HB.out _))).mono ?_; rintro e w0 ⟨rfl, hb⟩; have BB := Lib.hid ((HB.out _).trans (hb.mono (by simp))); replace BX := Lib.hid (BX.out.below hb); replace HA := Lib.hid (HA.out.below BB.out); replace TB := Lib.hid (TB.out.below BB.out); clear hb HB; obtain ⟨_, p0, p1, p2, p3, p4, p5, _⟩ := BX.out
  go_wp2_with fail
  refine (r4Great s a 600 _).mono ?_; rintro e w1 ⟨rfl, hb⟩; rw [HGr.out]; replace BX := Lib.hid (BX.out.below hb); replace TB := Lib.hid (TB.out.below hb); replace HA := Lib.hid (HA.out.below hb); replace BB := Lib.hid (BB.out.trans (hb.mono BB.out.size)); clear hb p0 p1 p2 p3 p4 p5; obtain ⟨_, p0, p1, p2, p3, p4, p5, _⟩ := BX.out
  go_wp2_with fail
  refine (CR.out _ HA.out TB.out).mono ?_; rintro e w2 ⟨rfl, hb⟩; replace BX := Lib.hid (BX.out.below hb); replace TB := Lib.hid (TB.out.below hb); replace HA := Lib.hid (HA.out.below hb); replace BB := Lib.hid (BB.out.trans (hb.mono BB.out.size)); clear hb p0 p1 p2 p3 p4 p5; obtain ⟨_, p0, p1, p2, p3, p4, p5, _⟩ := BX.out
  go_wp2_with fail
  refine (CQ.out _ HA.out TB.out).mono ?_; rintro e w3 ⟨rfl, hb⟩; replace BX := Lib.hid (BX.out.below hb); replace TB := Lib.hid (TB.out.below hb); replace HA := Lib.hid (HA.out.below hb); replace BB := Lib.hid (BB.out.trans (hb.mono BB.out.size)); clear hb p0 p1 p2 p3 p4 p5; obtain ⟨_, p0, p1, p2, p3, p4, p5, _⟩ := BX.out
  go_wp2_with fail
  refine (CP.out _ HA.out TB.out).mono ?_; rintro e w4 ⟨v, rfl, hown, hb⟩; replace BX := Lib.hid (BX.out.below hb); replace TB := Lib.hid (TB.out.below hb); replace HA := Lib.hid (HA.out.below hb); replace BB := Lib.hid (BB.out.trans (hb.mono BB.out.size)); clear hb p0 p1 p2 p3 p4 p5 hown; go_wp2; go_ret; exact ⟨rfl, BB.out⟩
set_option maxRecDepth 100000 in
set_option maxHeartbeats 4000000 in
theorem full3 (s : Sl) (a : Ads) (x y : Int) (W : World) (hT : Tab W) (hg : s.greatB 600 = true ∨ s.greatB 600 = false ∧ y < x) :
    Calls Tryd.prog 6 #[slv s a, .int .i64 x, .int .i64 y] W fun e w' => e = .returned (.bool true) ∧ Below W.heap.size W w' := by
  have TB := Lib.hid hT; have BX := Lib.hid (Box.new W s a 30); have HB := Lib.hid (fun o => (Below.refl W.heap.size W).alloc (Nat.le_refl _) o); clear hT; unfold slCells at BX; unfold slv
  rcases hg with hg | ⟨hg, hk⟩
  · have HGr := Lib.hid hg
    clear hg
    go_enter Tryd.func6, Tryd.ntmps6
    go_wp2_with fail
    refine (l10Alive _ (TB.out.below (HB.out _))).mono ?_; rintro e w0 ⟨rfl, hb⟩; have BB := Lib.hid ((HB.out _).trans (hb.mono (by simp))); obtain ⟨_, p0, p1, p2, p3, p4, p5, _⟩ := BX.out.below hb
    go_wp2_with fail
    refine (r4Great s a 600 _).mono ?_; rintro e w1 ⟨rfl, hb2⟩; rw [HGr.out]; go_wp2; go_ret; exact ⟨rfl, BB.out.trans (hb2.mono BB.out.size)⟩
  · have HGr := Lib.hid hg
    have k0 : decide (x > y) = true := by simp; omega
    have k9 : decide (y < x) = true := by simp; omega
    clear hg hk
    go_enter Tryd.func6, Tryd.ntmps6
    go_wp2_with fail
    refine (l10Alive _ (TB.out.below (HB.out _))).mono ?_; rintro e w0 ⟨rfl, hb⟩; have BB := Lib.hid ((HB.out _).trans (hb.mono (by simp))); obtain ⟨_, p0, p1, p2, p3, p4, p5, _⟩ := BX.out.below hb
    go_wp2_with fail
    refine (r4Great s a 600 _).mono ?_; rintro e w1 ⟨rfl, hb2⟩; rw [HGr.out]; go_wp2; go_ret; exact ⟨rfl, BB.out.trans (hb2.mono BB.out.size)⟩
theorem walk (s : Sl) (a : Ads) (x y : Int) (W : World) (h : Held W s a) (hok : s.Ok) (hT : Tab W) :
    Calls Tryd.prog 6 #[slv s a, .int .i64 x, .int .i64 y] W fun e w' => e = .returned (.bool true) ∧ Below W.heap.size W w' := by
  cases hg : s.greatB 600
  · have hs : s.Short := by
      unfold Sl.greatB at hg
      simp only [Bool.or_eq_false_iff, decide_eq_false_iff_not] at hg
      exact ⟨by omega, by omega, by omega, by omega⟩
    by_cases hxy : x ≤ y
    · by_cases hc : Sk.chkE s = 0
      · exact full s a x y W h hok hs hg hT hc hxy
      · exact full2 s a x y W h hok hs hg hT hc hxy
    · exact full3 s a x y W hT (Or.inr ⟨hg, by omega⟩)
  · exact full3 s a x y W hT (Or.inl hg)
end Go.Proofs.YthaaapfnheocjaaDoor.seekRises

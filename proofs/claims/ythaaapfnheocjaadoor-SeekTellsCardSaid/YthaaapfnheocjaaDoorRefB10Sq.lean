/- What the document's own answers of layer 10 (package shelfmarkref10) return: Check, Rank, Next, Find, Last. They only read. -/
import Derived.Test.YthaaapfnheocjaaDoorRefA10Sq
import Derived.Test.YthaaapfnheocjaaDoorM02Sq
namespace Go.Proofs.YthaaapfnheocjaaDoor
open Go.RowKit
set_option linter.unusedVariables false
set_option linter.unusedSimpArgs false

theorem own_plst10 {w : World} {B : Nat} {v : Value} {ps : List (Int × Int)} (h : w.ownsRow B 35 2 v ps.length (pcells ps)) : ∃ A c, v = .slice A ps.length c ∧ PLst w A ps := by
  obtain ⟨A, c, hv, hC, _⟩ := own_cells h; exact ⟨A, c, hv, hC⟩
theorem own_ints10 {w : World} {B : Nat} {v : Value} {zs : List Nat} (h : w.ownsRow B 3 1 v zs.length (zs.map fun s : Nat => Value.int .i64 (s : Int))) : ∃ A c, v = .slice A zs.length c ∧ Lst .i64 w A (ints zs) := by
  have e : (zs.map fun s : Nat => Value.int .i64 (s : Int)) = (ints zs).map (Value.int .i64) := by unfold ints; rw [List.map_map]; rfl
  rw [e] at h; obtain ⟨A, c, hv, hC, _⟩ := own_cells h; exact ⟨A, c, hv, hC.lst⟩
theorem num10 {w : World} {a : Option Addr} {zs : List Nat} (h : Lst .i64 w a (ints zs)) {i : Nat} (hi : i < zs.length) :
    ∃ b off, a = some ⟨b, off, none⟩ ∧ b < w.heap.size ∧ w.cell? ⟨b, off + i, none⟩ = some (.int .i64 ((zs.getD i 0 : Nat) : Int)) := by
  have := h.cell (i := i) (by rw [ints_length]; exact hi); rw [ints_getD] at this; exact this
theorem key_cell10 {s : Sl} {a : Ads} {W : World} (h : Lst .i64 W a.k s.keys) {i : Nat} (hi : i < s.keys.length) :
    ∃ b off, a.k = some ⟨b, off, none⟩ ∧ b < W.heap.size ∧ W.cell? ⟨b, off + i, none⟩ = some (.int .i64 (Sk.key s i)) := h.cell hi
theorem may_wide {s : Sl} (hM : s.May) : s.keys.length ≤ 64 * s.words.length := by have := hM.wlen; omega
namespace Sk
theorem all_in {s : Sl} {i : Nat} (h : i < (all s).length) : (all s).getD i 0 < s.keys.length ∧ Oc.isB s.words ((all s).getD i 0) = true := by
  have : (all s).getD i 0 ∈ all s := by simp only [List.getD, List.getElem?_eq_getElem h, Option.getD_some]; exact List.getElem_mem _
  have := Oc.mem_places.1 this; exact ⟨this.1.2, this.2⟩
theorem all_le (s : Sl) : (all s).length ≤ s.keys.length := by
  have := Oc.places_length_le s.words 0 s.keys.length; unfold all
  omega
/-- All of the first j slots have keys below k. -/
def LowTo (s : Sl) (k : Int) (j : Nat) : Prop := ∀ i, i < j → key s ((all s).getD i 0) < k
theorem high_found {s : Sl} {k : Int} {j : Nat} (hc : chkE s = 0) (h : LowTo s k j) (hj : j < (all s).length) (hk : k ≤ key s ((all s).getD j 0)) : nextE s k = 0 ∧ nextV s k = (((all s).getD j 0 : Nat) : Int) := by
  have hg : (all s).getD j 0 = (all s)[j] := by simp only [List.getD, List.getElem?_eq_getElem hj, Option.getD_some]
  rw [hg] at hk ⊢
  have e : high s k = (all s)[j] :: ((all s).drop (j + 1)).filter fun i => decide (k ≤ key s i) := by
    unfold high
    conv => lhs; rw [← List.take_append_drop j (all s)]
    rw [List.filter_append, List.filter_eq_nil_iff.2, List.nil_append, List.drop_eq_getElem_cons hj, List.filter_cons_of_pos (by simpa using hk)]
    · intro x hx
      obtain ⟨i, hi, rfl⟩ := List.mem_iff_getElem.1 hx; rw [List.length_take] at hi; have := h i (by omega)
      simp only [List.getD, List.getElem?_eq_getElem (show i < (all s).length by omega), Option.getD_some] at this
      simp; omega
  have he : nextE s k = 0 := by unfold nextE; rw [if_pos hc, e]; simp
  refine ⟨he, ?_⟩; unfold nextV; rw [if_pos he, e]
  rfl
theorem high_none {s : Sl} {k : Int} {j : Nat} (hc : chkE s = 0) (h : LowTo s k j) (hj : (all s).length ≤ j) : nextE s k = 6 ∧ nextV s k = 0 := by
  have e : high s k = [] := by
    unfold high; rw [List.filter_eq_nil_iff]; intro x hx; obtain ⟨i, hi, rfl⟩ := List.mem_iff_getElem.1 hx; have := h i (by omega)
    simp only [List.getD, List.getElem?_eq_getElem hi, Option.getD_some] at this
    simp; omega
  have he : nextE s k = 6 := by unfold nextE; rw [if_pos hc, e]; simp
  exact ⟨he, by unfold nextV; rw [he]; rfl⟩
theorem LowTo.next {s : Sl} {k : Int} {j : Nat} (h : LowTo s k j) (hk : key s ((all s).getD j 0) < k) : LowTo s k (j + 1) := fun i hi => by
  by_cases e : i = j
  · subst e; exact hk
  · exact h i (by omega)
theorem last_of {s : Sl} {k : Int} (hc : chkE s = 0) (h : (low s k).length ≠ 0) : (low s k).length ≤ (all s).length ∧ lastE s k = 0 ∧ lastV s k = (((all s).getD ((low s k).length - 1) 0 : Nat) : Int) := by
  obtain ⟨hm, hr⟩ := chk_zero.1 hc; obtain ⟨r, P⟩ := part_of k hr
  have he : lastE s k = 0 := by unfold lastE; rw [if_pos hc, if_neg h]
  have e : all s = low s k ++ high s k := by
    rw [P.lows, P.highs]; unfold all; rw [Oc.places_split s.words 0 r s.keys.length (Nat.zero_le _) P.le]
  refine ⟨by rw [e, List.length_append]; omega, he, ?_⟩; unfold lastV; rw [if_pos he, e]
  have h2 : (low s k).length - 1 < (low s k).length := by omega
  simp only [List.getD, List.getElem?_append_left h2]
end Sk

set_option maxRecDepth 100000 in
set_option maxHeartbeats 2000000 in
theorem r10Check (s : Sl) (a : Ads) (w : World) (h : Held w s a) (hok : s.Ok) (hs : s.Short) :
    Calls Tryd.prog 22 #[slv s a] w fun e w' => e = .returned (.int .i64 (Sk.chkE s)) ∧ Below w.heap.size w w' := by
  have l2 := hs.keys; have CM := Lib.hid (fun o => r4May s a (w.alloc o) (h.alloc o) hok hs); have CO := Lib.hid (fun W (hb : Below w.heap.size w W) (hM : s.May) => r4Of s a 0 s.keys.length W (h.below hb) hok hs hM.vals (Nat.le_refl _) (may_wide hM) (by omega)); have HB := Lib.hid (fun o => (Below.refl w.heap.size w).alloc (Nat.le_refl _) o); have BX := Lib.hid (Box.new w s a 30); have HL := Lib.hid (show Sk.chkE s = if s.mayB then (if Sk.risesB s then 0 else 130) else 8 from rfl); have HN := Lib.hid (show (s.of 0 s.keys.length).length ≤ 65536 by unfold Sl.of; rw [List.length_map]; have := Oc.places_length_le s.words 0 s.keys.length; omega); have HR := Lib.hid (Sk.risesP_of s); clear h hok hs; unfold slv at CM CO ⊢
  cases hm : s.mayB
  · rw [hm] at CM HL
    clear hm
    go_enter Tryd.func22, Tryd.ntmps22
    go_wp2_with fail
    refine (CM.out _).mono ?_; rintro e w1 ⟨rfl, hb⟩; go_wp2; go_ret; rw [HL.out]; exact ⟨rfl, (HB.out _).trans (hb.mono (by simp))⟩
  · have HM := Lib.hid (may_iff.1 hm)
    rw [hm] at CM HL; clear hm; obtain ⟨z, hz⟩ : ∃ z, z = Sk.risesB s := ⟨_, rfl⟩; rw [← hz] at HL HR; clear hz; obtain ⟨ps, hps⟩ : ∃ ps, ps = s.of 0 s.keys.length := ⟨_, rfl⟩; rw [← hps] at CO HN HR; clear hps
    cases z
    all_goals
      go_enter Tryd.func22, Tryd.ntmps22
      go_wp2_with fail
      refine (CM.out _).mono ?_; rintro e w1 ⟨rfl, hb⟩; have B1 := Lib.hid ((HB.out _).trans (hb.mono (by simp))); obtain ⟨_, c0, c1, c2, c3, c4, c5, _⟩ := BX.out.below hb; clear hb
      go_wp2_with fail
      refine (CO.out _ B1.out HM.out).mono ?_; rintro e w2 ⟨v, rfl, hown, hb⟩; obtain ⟨A, c, rfl, hP⟩ := own_plst10 hown; have B2 := Lib.hid (B1.out.trans (hb.mono B1.out.size)); have P2 := Lib.hid hP; clear hb hown hP c0 c1 c2 c3 c4 c5
      go_wp2_with fail
      refine (r10Rising A c ps _ P2.out HN.out).mono ?_; rintro e w3 ⟨rfl, hb⟩; rw [HR.out]; go_wp2; go_ret; rw [HL.out]; exact ⟨rfl, B2.out.trans (hb.mono B2.out.size)⟩
set_option maxRecDepth 100000 in
set_option maxHeartbeats 2000000 in
theorem r10Rank (s : Sl) (a : Ads) (k : Int) (w : World) (h : Held w s a) (hok : s.Ok) (hs : s.Short) :
    Calls Tryd.prog 18 #[slv s a, .int .i64 k] w fun e w' => e = .returned (.tuple #[.int .i64 (Sk.rankV s k), .int .i64 (Sk.chkE s)]) ∧ Below w.heap.size w w' := by
  have l2 := hs.keys; have CC := Lib.hid (fun o => r10Check s a (w.alloc o) (h.alloc o) hok hs); have CO := Lib.hid (fun W (hb : Below w.heap.size w W) (hM : s.May) => r4Of s a 0 s.keys.length W (h.below hb) hok hs hM.vals (Nat.le_refl _) (may_wide hM) (by omega)); have HB := Lib.hid (fun o => (Below.refl w.heap.size w).alloc (Nat.le_refl _) o); have BX := Lib.hid (Box.new w s a 30); have HN := Lib.hid (show (s.of 0 s.keys.length).length ≤ 65536 by unfold Sl.of; rw [List.length_map]; have := Oc.places_length_le s.words 0 s.keys.length; omega); have HR := Lib.hid (Sk.below_low s k); clear h hok hs; unfold slv at CC CO ⊢
  by_cases hc : Sk.chkE s = 0
  · have HM := Lib.hid (Sk.chk_zero.1 hc).1
    have E := Lib.hid (show Sk.rankV s k = ((Sk.low s k).length : Int) by unfold Sk.rankV; rw [if_pos hc]); rw [hc] at CC ⊢; clear hc; obtain ⟨ps, hps⟩ : ∃ ps, ps = s.of 0 s.keys.length := ⟨_, rfl⟩; rw [← hps] at CO HN HR; clear hps
    go_enter Tryd.func18, Tryd.ntmps18
    go_wp2_with fail
    refine (CC.out _).mono ?_; rintro e w1 ⟨rfl, hb⟩; have B1 := Lib.hid ((HB.out _).trans (hb.mono (by simp))); obtain ⟨_, c0, c1, c2, c3, c4, c5, _⟩ := BX.out.below hb; clear hb
    go_wp2_with fail
    refine (CO.out _ B1.out HM.out).mono ?_; rintro e w2 ⟨v, rfl, hown, hb⟩; obtain ⟨A, c, rfl, hP⟩ := own_plst10 hown; have B2 := Lib.hid (B1.out.trans (hb.mono B1.out.size)); have P2 := Lib.hid hP; clear hb hown hP c0 c1 c2 c3 c4 c5
    go_wp2_with fail
    refine (r10Below A c ps k _ P2.out HN.out).mono ?_; rintro e w3 ⟨rfl, hb⟩; rw [HR.out]; go_wp2; go_ret2; rw [E.out]; exact ⟨rfl, B2.out.trans (hb.mono B2.out.size)⟩
  · have k1 : (Sk.chkE s != 0) = true := by simp [hc]
    have E := Lib.hid (show Sk.rankV s k = 0 by unfold Sk.rankV; rw [if_neg hc]); clear hc
    go_enter Tryd.func18, Tryd.ntmps18
    go_wp2_with fail
    refine (CC.out _).mono ?_; rintro e w1 ⟨rfl, hb⟩; go_wp2; go_ret2; rw [E.out]; exact ⟨rfl, (HB.out _).trans (hb.mono (by simp))⟩
def NextJ10 (s : Sl) (k : Int) (w2 : World) (x y i : Value) (wr : World) : Prop := ∃ j : Nat, j ≤ (Sk.all s).length ∧ i = .int .i64 j ∧ Sk.LowTo s k j ∧ Below w2.heap.size w2 wr
set_option maxRecDepth 100000 in
set_option maxHeartbeats 2000000 in
theorem r10Next (s : Sl) (a : Ads) (k : Int) (w : World) (h : Held w s a) (hok : s.Ok) (hs : s.Short) :
    Calls Tryd.prog 20 #[slv s a, .int .i64 k] w fun e w' => e = .returned (.tuple #[.int .i64 (Sk.nextV s k), .int .i64 (Sk.nextE s k)]) ∧ Below w.heap.size w w' := by
  have l2 := hs.keys; have CC := Lib.hid (fun o => r10Check s a (w.alloc o) (h.alloc o) hok hs); have CO := Lib.hid (fun W (hb : Below w.heap.size w W) (hM : s.May) => r2Places a.w a.cw s.words 0 s.keys.length W (h.below hb).words hok.words hs.words (may_wide hM) (by omega)); have HK := Lib.hid (fun W (hb : Below w.heap.size w W) => (h.below hb).keys); have HB := Lib.hid (fun o => (Below.refl w.heap.size w).alloc (Nat.le_refl _) o); have BX := Lib.hid (Box.new w s a 30); clear h hok hs; unfold slv at CC ⊢
  by_cases hc : Sk.chkE s = 0
  · have HM := Lib.hid (Sk.chk_zero.1 hc).1
    have HC := Lib.hid hc; have hal := Sk.all_le s; rw [hc] at CC; clear hc; have HF := Lib.hid (fun j => Sk.high_found (s := s) (k := k) (j := j) HC.out); have HO := Lib.hid (fun j => Sk.high_none (s := s) (k := k) (j := j) HC.out); have AI := Lib.hid (fun i => Sk.all_in (s := s) (i := i)); have LN := Lib.hid (fun j => Sk.LowTo.next (s := s) (k := k) (j := j)); replace CO := Lib.hid (show ∀ W, Below w.heap.size w W → s.May → Calls Tryd.prog 38 #[.slice a.w s.words.length a.cw, .int .i64 0, .int .i64 (s.keys.length : Int)] W fun e w' => ∃ v, e = .returned v ∧ w'.ownsRow W.heap.size 3 1 v (Sk.all s).length ((Sk.all s).map fun s : Nat => Value.int .i64 (s : Int)) ∧ Below W.heap.size W w' from fun W h1 h2 => CO.out W h1 h2); obtain ⟨V, hV⟩ : ∃ V, V = Sk.nextV s k := ⟨_, rfl⟩; obtain ⟨E, hE⟩ : ∃ E, E = Sk.nextE s k := ⟨_, rfl⟩; rw [← hV] at HF HO ⊢; rw [← hE] at HF HO ⊢; clear hV hE
    go_enter Tryd.func20, Tryd.ntmps20
    go_wp2_with fail
    refine (CC.out _).mono ?_; rintro e w1 ⟨rfl, hb⟩; have B1 := Lib.hid ((HB.out _).trans (hb.mono (by simp))); have X1 := Lib.hid (BX.out.below hb); obtain ⟨_, c0, c1, c2, c3, c4, c5, _⟩ := X1.out; clear hb
    go_wp2_with fail
    refine (CO.out _ B1.out HM.out).mono ?_; rintro e w2 ⟨v, rfl, hown, hb⟩; obtain ⟨A, c, rfl, hP⟩ := own_ints10 hown; have B2 := Lib.hid (B1.out.trans (hb.mono B1.out.size)); have X2 := Lib.hid (X1.out.below hb); have P2 := Lib.hid hP; clear hb hown hP c0 c1 c2 c3 c4 c5 CO
    go_wp2_with fail
    go_loopw [4, 5, 8] (NextJ10 s k w2) (fun _ _ i _ => (Sk.all s).length - (intOf i).toNat)
    case atStart => exact ⟨0, Nat.zero_le _, rfl, fun i hi => absurd hi (Nat.not_lt_zero _), Below.refl _ _⟩
    case round =>
      obtain ⟨j, hj, rfl, hlow, hbr⟩ := hrel; have hbw := B2.out.trans (hbr.mono B2.out.size)
      by_cases hlt : j < (Sk.all s).length
      · obtain ⟨b2, o2, rfl, _, d2⟩ := num10 (P2.out.below hbr) hlt
        have hx := (AI.out j hlt).1; have F := Lib.hid (fun h => HF.out j hlow hlt h); have L := Lib.hid (fun h => LN.out j hlow h); obtain ⟨x, hxx⟩ : ∃ x, (Sk.all s).getD j 0 = x := ⟨_, rfl⟩; rw [hxx] at d2 hx F L; obtain ⟨b1, o1, hA1, _, d1⟩ := key_cell10 (HK.out _ hbw) hx; obtain ⟨_, c0, c1, c2, c3, c4, c5, _⟩ := X2.out.below hbr; rw [hA1] at c2; have BW := Lib.hid hbw; have BR := Lib.hid hbr; obtain ⟨z, hz⟩ : ∃ z, Sk.key s x = z := ⟨_, rfl⟩; rw [hz] at d1 F L; clear hxx hz hlow hA1 hbr hbw
        by_cases hk : k ≤ z
        · obtain ⟨f1, f2⟩ := F.out hk
          have F1 := Lib.hid f1; have F2 := Lib.hid f2
          have k1 : decide (k ≤ z) = true := by simp [hk]
          clear hk F L f1 f2; go_wp2
          go_quiet (fail)
          go_wp2; go_ret2; rw [F1.out, F2.out]; exact ⟨rfl, by first | exact BW.out | exact below_drewN BW.out _⟩
        · have L1 := Lib.hid (L.out (by omega))
          have k1 : decide (k ≤ z) = false := by simp [hk]
          clear hk F L; go_wp2
          go_quiet (fail)
          go_wp2
          go_roundw
          case rel => exact ⟨j + 1, hlt, by go_num, L1.out, by first | exact BR.out | exact below_drewN BR.out _⟩
          case measure => simp [intOf]; omega
      · obtain ⟨f1, f2⟩ := HO.out j hlow (by omega)
        have F1 := Lib.hid f1; have F2 := Lib.hid f2; have BW := Lib.hid hbw; clear f1 f2 hlow hbw hbr; go_wp2; go_ret2; rw [F1.out, F2.out]; exact ⟨rfl, by first | exact BW.out | exact below_drewN BW.out _⟩
  · have k1 : (Sk.chkE s != 0) = true := by simp [hc]
    have E2 := Lib.hid (show Sk.nextE s k = Sk.chkE s by unfold Sk.nextE; rw [if_neg hc]); have E := Lib.hid (show Sk.nextV s k = 0 by unfold Sk.nextV; rw [if_neg]; rw [E2.out]; exact hc); clear hc
    go_enter Tryd.func20, Tryd.ntmps20
    go_wp2_with fail
    refine (CC.out _).mono ?_; rintro e w1 ⟨rfl, hb⟩; go_wp2; go_ret2; rw [E.out, E2.out]; exact ⟨rfl, (HB.out _).trans (hb.mono (by simp))⟩
end Go.Proofs.YthaaapfnheocjaaDoor

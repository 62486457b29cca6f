/- What the document's own answers of layer 10 (package shelfmarkref10) return: Find, Last. They only read. -/
import Derived.Test.YthaaapfnheocjaaDoorRefB10Sq
namespace Go.Proofs.YthaaapfnheocjaaDoor
open Go.RowKit
set_option linter.unusedVariables false
set_option linter.unusedSimpArgs false

theorem next_key10 {s : Sl} {k : Int} (h : Sk.nextE s k = 0) : ∃ x : Nat, Sk.nextV s k = x ∧ x < s.keys.length := by
  have hc : Sk.chkE s = 0 := by
    by_cases hc : Sk.chkE s = 0
    · exact hc
    · unfold Sk.nextE at h; rw [if_neg hc] at h; exact absurd h hc
  have h2 : (Sk.high s k).length ≠ 0 := by
    unfold Sk.nextE at h; rw [if_pos hc] at h; intro h3; rw [if_pos h3] at h
    omega
  obtain ⟨x, N⟩ := Sk.next_at hc h2; exact ⟨x, N.v, N.lt⟩
set_option maxRecDepth 100000 in
set_option maxHeartbeats 2000000 in
theorem r10Find (s : Sl) (a : Ads) (k : Int) (w : World) (h : Held w s a) (hok : s.Ok) (hs : s.Short) :
    Calls Tryd.prog 19 #[slv s a, .int .i64 k] w fun e w' => e = .returned (.tuple #[.int .i64 (Sk.findV s k), .int .i64 (Sk.findE s k)]) ∧ Below w.heap.size w w' := by
  have l2 := hs.keys; have CN := Lib.hid (fun o => r10Next s a k (w.alloc o) (h.alloc o) hok hs); have HL := Lib.hid (fun W (hb : Below w.heap.size w W) => (h.below hb).keys); have HB := Lib.hid (fun o => (Below.refl w.heap.size w).alloc (Nat.le_refl _) o); have BX := Lib.hid (Box.new w s a 30); clear h hok hs; unfold slv at CN ⊢
  by_cases he : Sk.nextE s k = 0
  · obtain ⟨x, hx, hlt⟩ := next_key10 he
    have FE := Lib.hid (show Sk.findE s k = if Sk.key s x = k then 0 else 6 by unfold Sk.findE; rw [if_pos he, hx, Int.toNat_natCast]); have FV := Lib.hid (show Sk.findV s k = if Sk.findE s k = 0 then (x : Int) else 0 by unfold Sk.findV; rw [hx]); rw [he, hx] at CN; clear he hx
    by_cases hk : Sk.key s x = k
    · have E := Lib.hid (show Sk.findE s k = 0 by rw [FE.out, if_pos hk])
      have U := Lib.hid (show Sk.findV s k = x by rw [FV.out, if_pos E.out])
      have k1 : (Sk.key s x != k) = false := by simp [hk]
      clear hk FE FV
      go_enter Tryd.func19, Tryd.ntmps19
      go_wp2_with fail
      refine (CN.out _).mono ?_; rintro e w1 ⟨rfl, hb⟩; have B1 := Lib.hid ((HB.out _).trans (hb.mono (by simp))); obtain ⟨_, c0, c1, c2, c3, c4, c5, _⟩ := BX.out.below hb; obtain ⟨b1, o1, hA1, hb1, d1⟩ := key_cell10 (HL.out _ B1.out) hlt; rw [hA1] at c2; clear hb hA1; go_wp2
      try (go_quiet (fail))
      try go_wp2
      go_ret2; rw [E.out, U.out]; exact ⟨rfl, by first | exact B1.out | exact below_drewN B1.out _⟩
    · have E := Lib.hid (show Sk.findE s k = 6 by rw [FE.out, if_neg hk])
      have U := Lib.hid (show Sk.findV s k = 0 by rw [FV.out, if_neg (by rw [E.out]; decide)])
      have k1 : (Sk.key s x != k) = true := by simp [hk]
      clear hk FE FV
      go_enter Tryd.func19, Tryd.ntmps19
      go_wp2_with fail
      refine (CN.out _).mono ?_; rintro e w1 ⟨rfl, hb⟩; have B1 := Lib.hid ((HB.out _).trans (hb.mono (by simp))); obtain ⟨_, c0, c1, c2, c3, c4, c5, _⟩ := BX.out.below hb; obtain ⟨b1, o1, hA1, hb1, d1⟩ := key_cell10 (HL.out _ B1.out) hlt; rw [hA1] at c2; clear hb hA1; go_wp2
      try (go_quiet (fail))
      try go_wp2
      go_ret2; rw [E.out, U.out]; exact ⟨rfl, by first | exact B1.out | exact below_drewN B1.out _⟩
  · have k1 : (Sk.nextE s k == 0) = false := by simp [he]
    have E := Lib.hid (show Sk.findE s k = Sk.nextE s k by unfold Sk.findE; rw [if_neg he]); have N := Lib.hid (show Sk.nextV s k = 0 by unfold Sk.nextV; rw [if_neg he]); have U := Lib.hid (show Sk.findV s k = Sk.nextV s k by unfold Sk.findV; rw [if_neg (by rw [E.out]; exact he), N.out]); clear he
    go_enter Tryd.func19, Tryd.ntmps19
    go_wp2_with fail
    refine (CN.out _).mono ?_; rintro e w1 ⟨rfl, hb⟩; have B1 := Lib.hid ((HB.out _).trans (hb.mono (by simp))); clear hb; go_wp2; go_ret2; rw [E.out, U.out]; exact ⟨rfl, by first | exact B1.out | exact below_drewN B1.out _⟩
set_option maxRecDepth 100000 in
set_option maxHeartbeats 2000000 in
theorem r10Last (s : Sl) (a : Ads) (k : Int) (w : World) (h : Held w s a) (hok : s.Ok) (hs : s.Short) :
    Calls Tryd.prog 21 #[slv s a, .int .i64 k] w fun e w' => e = .returned (.tuple #[.int .i64 (Sk.lastV s k), .int .i64 (Sk.lastE s k)]) ∧ Below w.heap.size w w' := by
  have l2 := hs.keys; have CR := Lib.hid (fun o => r10Rank s a k (w.alloc o) (h.alloc o) hok hs); have CO := Lib.hid (show ∀ W, Below w.heap.size w W → s.May → Calls Tryd.prog 38 #[.slice a.w s.words.length a.cw, .int .i64 0, .int .i64 (s.keys.length : Int)] W fun e w' => ∃ v, e = .returned v ∧ w'.ownsRow W.heap.size 3 1 v (Sk.all s).length ((Sk.all s).map fun s : Nat => Value.int .i64 (s : Int)) ∧ Below W.heap.size W w' from fun W hb hM => r2Places a.w a.cw s.words 0 s.keys.length W (h.below hb).words hok.words hs.words (may_wide hM) (by omega)); have HB := Lib.hid (fun o => (Below.refl w.heap.size w).alloc (Nat.le_refl _) o); have BX := Lib.hid (Box.new w s a 30); clear h hok hs; unfold slv at CR ⊢
  by_cases hc : Sk.chkE s = 0
  · have HM := Lib.hid (Sk.chk_zero.1 hc).1
    have hal := Sk.all_le s; have R := Lib.hid (show Sk.rankV s k = ((Sk.low s k).length : Int) by unfold Sk.rankV; rw [if_pos hc]); rw [hc, R.out] at CR
    by_cases h0 : (Sk.low s k).length = 0
    · have E := Lib.hid (show Sk.lastE s k = 6 by unfold Sk.lastE; rw [if_pos hc, if_pos h0])
      have U := Lib.hid (show Sk.lastV s k = 0 by unfold Sk.lastV; rw [if_neg (by rw [E.out]; decide)]); rw [h0] at CR; clear hc h0
      go_enter Tryd.func21, Tryd.ntmps21
      go_wp2_with fail
      refine (CR.out _).mono ?_; rintro e w1 ⟨rfl, hb⟩; have B1 := Lib.hid ((HB.out _).trans (hb.mono (by simp))); clear hb; go_wp2; go_ret2; rw [E.out, U.out]; exact ⟨rfl, by first | exact B1.out | exact below_drewN B1.out _⟩
    · obtain ⟨q1, q2, q3⟩ := Sk.last_of hc h0
      have E := Lib.hid q2; have U := Lib.hid q3; obtain ⟨m, hm⟩ : ∃ m : Nat, (Sk.low s k).length = m + 1 := ⟨(Sk.low s k).length - 1, by omega⟩; rw [hm] at CR U q1; rw [show m + 1 - 1 = m from by omega] at U
      have k1 : (((m + 1 : Nat) : Int) == 0) = false := by simp; omega
      have k2 : ((m + 1 : Nat) : Int) - 1 = (m : Int) := by omega
      have hlt : m < (Sk.all s).length := by omega
      clear hc h0 q1 q2 q3 hm R
      go_enter Tryd.func21, Tryd.ntmps21
      go_wp2_with fail
      refine (CR.out _).mono ?_; rintro e w1 ⟨rfl, hb⟩; have B1 := Lib.hid ((HB.out _).trans (hb.mono (by simp))); obtain ⟨_, c0, c1, c2, c3, c4, c5, _⟩ := BX.out.below hb; clear hb
      go_wp2_with fail
      refine (CO.out _ B1.out HM.out).mono ?_; rintro e w2 ⟨v, rfl, hown, hb⟩; obtain ⟨A, c, rfl, hP⟩ := own_ints10 hown; have B2 := Lib.hid (B1.out.trans (hb.mono B1.out.size)); obtain ⟨b2, o2, rfl, _, d2⟩ := num10 hP hlt; obtain ⟨z, hz⟩ : ∃ z, (Sk.all s).getD m 0 = z := ⟨_, rfl⟩; rw [hz] at d2 U; clear hb hown hP c0 c1 c2 c3 c4 c5 CO hz; go_wp2; go_ret2; rw [E.out, U.out]; exact ⟨rfl, by first | exact B2.out | exact below_drewN B2.out _⟩
  · have k1 : (Sk.chkE s != 0) = true := by simp [hc]
    have E2 := Lib.hid (show Sk.lastE s k = Sk.chkE s by unfold Sk.lastE; rw [if_neg hc]); have E := Lib.hid (show Sk.lastV s k = 0 by unfold Sk.lastV; rw [if_neg]; rw [E2.out]; exact hc); clear hc
    go_enter Tryd.func21, Tryd.ntmps21
    go_wp2_with fail
    refine (CR.out _).mono ?_; rintro e w1 ⟨rfl, hb⟩; go_wp2; go_ret2; rw [E.out, E2.out]; exact ⟨rfl, (HB.out _).trans (hb.mono (by simp))⟩
end Go.Proofs.YthaaapfnheocjaaDoor

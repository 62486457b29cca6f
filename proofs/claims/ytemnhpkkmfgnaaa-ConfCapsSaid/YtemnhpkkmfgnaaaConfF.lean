/- What package conf's Check returns. -/
import Derived.Test.YtemnhpkkmfgnaaaConfE
namespace Go.Proofs.Ytemnhpkkmfgnaaa
open Go.RowKit
set_option linter.unusedVariables false
set_option linter.unusedSimpArgs false

theorem chk_no {c : Cf} (h : (c.sizesB && densK c) = false) : c.chkE = 50 := by
  unfold Cf.chkE Cf.mayB
  cases h1 : c.sizesB
  · rfl
  · rw [h1, Bool.true_and, dens_eq ((Cf.sizes_iff c).1 h1)] at h
    rw [h]; rfl
theorem chk_yes {c : Cf} (h : (c.sizesB && densK c) = true) : c.Sizes ∧ c.Dens ∧ c.chkE = if c.fallsB then 0 else 50 := by
  rw [Bool.and_eq_true] at h
  have hs := (Cf.sizes_iff c).1 h.1
  have hd := h.2
  rw [dens_eq hs] at hd
  refine ⟨hs, (Cf.dens_iff c).1 hd, ?_⟩
  unfold Cf.chkE Cf.mayB
  rw [h.1, hd]; rfl

set_option maxRecDepth 100000 in
set_option maxHeartbeats 2000000 in
theorem kCheck (c : Cf) (w : World) (hc : c.In) :
    Calls Try.prog 16 #[cfv c] w fun e w' => e = .returned (.int .i64 c.chkE) ∧ Below w.heap.size w w' := by
  have BX := Lib.hid (CBox.new w c 23)
  have B0 := Lib.hid ((Below.refl w.heap.size w).alloc (Nat.le_refl _) (.cells (cfCells c) 23))
  have CS := Lib.hid (fun W => kSizes c W hc)
  have CD := Lib.hid (fun W => kDens c W)
  have CA := Lib.hid (fun (W : World) (x y : Bool) => kAll W.heap.size 0 2 [x, y] (W.alloc (.cells #[.bool x, .bool y] 4)) (show 2 ≤ 1000 by decide) (blst2 W x y 4))
  have CH := Lib.hid (fun W hs hd => kHeights c W hs hd)
  clear hc
  unfold cfCells at BX B0
  unfold cfv at CS CD CH ⊢
  cases hk : (c.sizesB && densK c)
  · have E := Lib.hid (chk_no hk)
    have HK := Lib.hid (show [c.sizesB, densK c].all id = false by simpa using hk)
    clear hk
    go_enter Try.func16, Try.ntmps16
    go_upto_region 1 with (fail)
    obtain ⟨W5, hW5⟩ : ∃ W5, W5 = w.alloc (.cells #[.int .u8 c.tag, .int .i64 c.most, .int .i64 c.seg, .int .i64 c.least, .int .i64 c.den, .int .i64 c.ll, .int .i64 c.rl, .int .i64 c.rh, .int .i64 c.lh] 23) := ⟨_, rfl⟩
    rw [← hW5] at BX B0 ⊢
    clear hW5
    have B1 := Lib.hid B0.out.drew
    have X0 := Lib.hid (BX.out.below ((Below.refl _ _).drew))
    refine wp_region_held_drew (S := fun w' => w'.cell? ⟨w.heap.size, 0, none⟩ = some (.int .u8 c.tag) ∧ w'.cell? ⟨w.heap.size, 1, none⟩ = some (.int .i64 c.most) ∧ w'.cell? ⟨w.heap.size, 2, none⟩ = some (.int .i64 c.seg) ∧ w'.cell? ⟨w.heap.size, 3, none⟩ = some (.int .i64 c.least) ∧ w'.cell? ⟨w.heap.size, 4, none⟩ = some (.int .i64 c.den) ∧ w'.cell? ⟨w.heap.size, 5, none⟩ = some (.int .i64 c.ll) ∧ w'.cell? ⟨w.heap.size, 6, none⟩ = some (.int .i64 c.rl) ∧ w'.cell? ⟨w.heap.size, 7, none⟩ = some (.int .i64 c.rh) ∧ w'.cell? ⟨w.heap.size, 8, none⟩ = some (.int .i64 c.lh)) (by kernel_rfl) (X0.out.reads) (fun hHeld => ?_)
    refine wpAnyH_take (i := 0) (oi := Oper.mk _ _ _ _ _ _) (v := ?vc0) rfl (by kernel_rfl) (by kernel_rfl) (by kernel_rfl) (fun _ _ _ h => h) (Or.inl ⟨by rfl, ?hyc0⟩) (by assumption) ?restc0
    case hyc0 =>
      intro w0 hSw
      try dsimp only at hSw
      go_simp
      all_goals with_reducible rfl
    try simp only [Act.put, List.setIfInBounds_toArray, List.set_cons_zero, List.set_cons_succ]
    refine wpAnyH_take (i := 2) (oi := Oper.mk _ _ _ _ _ _) (v := ?vc2) rfl (by kernel_rfl) (by kernel_rfl) (by kernel_rfl) (fun _ _ _ h => h) (Or.inl ⟨by rfl, ?hyc2⟩) (by assumption) ?restc2
    case hyc2 =>
      intro w0 hSw
      try dsimp only at hSw
      go_simp
      all_goals with_reducible rfl
    try simp only [Act.put, List.setIfInBounds_toArray, List.set_cons_zero, List.set_cons_succ]
    refine wpAnyH_ready (rs := [1]) (by kernel_rfl) (by simp) ?_
    refine AllReadyH.cons (o := Oper.mk _ _ _ _ _ _) rfl (fun K hK => ?_) AllReadyH.nil
    go_simp
    (with_reducible refine (CS.out _).mono ?_)
    rintro e w1 ⟨rfl, hb1⟩
    have X1 := Lib.hid (X0.out.below hb1)
    have B2 := Lib.hid (B1.out.trans (hb1.mono B1.out.size))
    clear hb1
    go_wp2_with fail
    refine hK.out _ _ (X1.out.reads) (fun hHeldc1 => ?_)
    clear hK K hHeld
    try simp only [Act.put, List.setIfInBounds_toArray, List.set_cons_zero, List.set_cons_succ]
    refine wpAnyH_ready (rs := [3]) (by kernel_rfl) (by simp) ?_
    refine AllReadyH.cons (o := Oper.mk _ _ _ _ _ _) rfl (fun K hK => ?_) AllReadyH.nil
    go_simp
    (with_reducible refine (CD.out _).mono ?_)
    rintro e w2 ⟨rfl, hb2⟩
    have X2 := Lib.hid (X1.out.below hb2)
    have B3 := Lib.hid (B2.out.trans (hb2.mono B2.out.size))
    clear hb2
    go_wp2_with fail
    refine hK.out _ _ (X2.out.reads) (fun hHeldc2 => ?_)
    clear hK K hHeldc1
    try simp only [Act.put, List.setIfInBounds_toArray, List.set_cons_zero, List.set_cons_succ]
    refine wpAnyH_ready (rs := [4]) (by kernel_rfl) (by simp) ?_
    refine AllReadyH.cons (o := Oper.mk _ _ _ _ _ _) rfl (fun K hK => ?_) AllReadyH.nil
    go_simp
    refine hK.out _ _ ((X2.out.below ((Below.refl _ _).alloc (Nat.le_refl _) _)).reads) (fun hHeldc3 => ?_)
    clear hK K hHeldc2
    try simp only [Act.put, List.setIfInBounds_toArray, List.set_cons_zero, List.set_cons_succ]
    refine wpAnyH_ready (rs := [5]) (by kernel_rfl) (by simp) ?_
    refine AllReadyH.cons (o := Oper.mk _ _ _ _ _ _) rfl (fun K hK => ?_) AllReadyH.nil
    go_simp
    (refine (CA.out w2 _ _).mono ?_)
    rw [HK.out]
    rintro e w3 ⟨rfl, rfl⟩
    go_wp2_with fail
    refine hK.out _ _ ((X2.out.below ((Below.refl _ _).alloc (Nat.le_refl _) _)).reads) (fun hHeldc4 => ?_)
    clear hK K hHeldc3
    try simp only [Act.put, List.setIfInBounds_toArray, List.set_cons_zero, List.set_cons_succ]
    refine wpAnyH_take (i := 6) (oi := Oper.mk _ _ _ _ _ _) (v := ?vc6) rfl (by kernel_rfl) (by kernel_rfl) (by kernel_rfl) (fun _ _ _ h => h) (Or.inl ⟨by rfl, ?hyc6⟩) (by assumption) ?restc6
    case hyc6 =>
      intro w0 hSw
      try dsimp only at hSw
      go_simp
      all_goals with_reducible rfl
    try simp only [Act.put, List.setIfInBounds_toArray, List.set_cons_zero, List.set_cons_succ]
    refine wpAnyH_take (i := 7) (oi := Oper.mk _ _ _ _ _ _) (v := ?vc7) rfl (by kernel_rfl) (by kernel_rfl) (by kernel_rfl) (fun _ _ _ h => h) (Or.inl ⟨by rfl, ?hyc7⟩) (by assumption) ?restc7
    case hyc7 =>
      intro w0 hSw
      try dsimp only at hSw
      go_simp
      all_goals with_reducible rfl
    try simp only [Act.put, List.setIfInBounds_toArray, List.set_cons_zero, List.set_cons_succ]
    refine wpAnyH_take (i := 8) (oi := Oper.mk _ _ _ _ _ _) (v := undef) rfl (by kernel_rfl) (by kernel_rfl) (by kernel_rfl) (fun _ _ _ h => h) (Or.inr ⟨by rfl, rfl⟩) (by assumption) ?_
    try simp only [Act.put, List.setIfInBounds_toArray, List.set_cons_zero, List.set_cons_succ]
    refine wpAnyH_take (i := 9) (oi := Oper.mk _ _ _ _ _ _) (v := undef) rfl (by kernel_rfl) (by kernel_rfl) (by kernel_rfl) (fun _ _ _ h => h) (Or.inr ⟨by rfl, rfl⟩) (by assumption) ?_
    try simp only [Act.put, List.setIfInBounds_toArray, List.set_cons_zero, List.set_cons_succ]
    refine wpAnyH_take (i := 10) (oi := Oper.mk _ _ _ _ _ _) (v := undef) rfl (by kernel_rfl) (by kernel_rfl) (by kernel_rfl) (fun _ _ _ h => h) (Or.inr ⟨by rfl, rfl⟩) (by assumption) ?_
    try simp only [Act.put, List.setIfInBounds_toArray, List.set_cons_zero, List.set_cons_succ]
    refine wpAnyH_take (i := 11) (oi := Oper.mk _ _ _ _ _ _) (v := ?vc11) rfl (by kernel_rfl) (by kernel_rfl) (by kernel_rfl) (fun _ _ _ h => h) (Or.inl ⟨by rfl, ?hyc11⟩) (by assumption) ?restc11
    case hyc11 =>
      intro w0 hSw
      try dsimp only at hSw
      go_simp
      all_goals with_reducible rfl
    try simp only [Act.put, List.setIfInBounds_toArray, List.set_cons_zero, List.set_cons_succ]
    refine wpAnyH_done (by kernel_rfl) ?_ _
    go_wp2
    go_ret
    rw [E.out]
    exact ⟨rfl, B3.out.alloc B3.out.size _⟩
  · obtain ⟨hs, hd, he⟩ := chk_yes hk
    have HS := Lib.hid hs
    have HD := Lib.hid hd
    have E := Lib.hid he
    have HK := Lib.hid (show [c.sizesB, densK c].all id = true by simpa using hk)
    clear hk hs hd he
    obtain ⟨b, hb⟩ : ∃ b, b = c.fallsB := ⟨_, rfl⟩
    rw [← hb] at E CH
    clear hb
    cases b
    all_goals
      go_enter Try.func16, Try.ntmps16
      go_upto_region 1 with (fail)
      obtain ⟨W5, hW5⟩ : ∃ W5, W5 = w.alloc (.cells #[.int .u8 c.tag, .int .i64 c.most, .int .i64 c.seg, .int .i64 c.least, .int .i64 c.den, .int .i64 c.ll, .int .i64 c.rl, .int .i64 c.rh, .int .i64 c.lh] 23) := ⟨_, rfl⟩
      rw [← hW5] at BX B0 ⊢
      clear hW5
      have B1 := Lib.hid B0.out.drew
      have X0 := Lib.hid (BX.out.below ((Below.refl _ _).drew))
      go_region_held3 (fun w' => w'.cell? ⟨w.heap.size, 0, none⟩ = some (.int .u8 c.tag) ∧ w'.cell? ⟨w.heap.size, 1, none⟩ = some (.int .i64 c.most) ∧ w'.cell? ⟨w.heap.size, 2, none⟩ = some (.int .i64 c.seg) ∧ w'.cell? ⟨w.heap.size, 3, none⟩ = some (.int .i64 c.least) ∧ w'.cell? ⟨w.heap.size, 4, none⟩ = some (.int .i64 c.den) ∧ w'.cell? ⟨w.heap.size, 5, none⟩ = some (.int .i64 c.ll) ∧ w'.cell? ⟨w.heap.size, 6, none⟩ = some (.int .i64 c.rl) ∧ w'.cell? ⟨w.heap.size, 7, none⟩ = some (.int .i64 c.rh) ∧ w'.cell? ⟨w.heap.size, 8, none⟩ = some (.int .i64 c.lh))
        (first | (with_reducible exact X0.out.reads) | (with_reducible exact X1.out.reads) | (with_reducible exact X2.out.reads) | (with_reducible exact (X2.out.below ((Below.refl _ _).alloc (Nat.le_refl _) _)).reads) | (with_reducible exact X4.out.reads))
        (first | (go_at_call 33; (with_reducible refine (CS.out _).mono ?_); rintro e w1 ⟨rfl, hb1⟩; have X1 := Lib.hid (X0.out.below hb1); have B2 := Lib.hid (B1.out.trans (hb1.mono B1.out.size)); clear hb1) | (go_at_call 34; (with_reducible refine (CD.out _).mono ?_); rintro e w2 ⟨rfl, hb2⟩; have X2 := Lib.hid (X1.out.below hb2); have B3 := Lib.hid (B2.out.trans (hb2.mono B2.out.size)); clear hb2) | (go_at_call 32; (refine (CA.out w2 _ _).mono ?_); rw [HK.out]; rintro e w3 ⟨rfl, rfl⟩) | (go_at_call 35; (with_reducible refine (CH.out _ HS.out HD.out).mono ?_); rintro e w4 ⟨rfl, hb4⟩; have X4 := Lib.hid ((X2.out.below ((Below.refl _ _).alloc (Nat.le_refl _) _)).below hb4); have B4 := Lib.hid ((B3.out.alloc B3.out.size _).trans (hb4.mono (by have := B3.out.size; simp; omega))); clear hb4))
      go_wp2
      go_ret
      rw [E.out]
      exact ⟨rfl, B4.out⟩
end Go.Proofs.Ytemnhpkkmfgnaaa

/- What the law package of layer 5's own functions return: chapter, odd, full, sparse; alive, which answers true. -/
import Derived.Test.YtemnhpkkmfgnaaaConfJ
namespace Go.Proofs.Ytemnhpkkmfgnaaa
open Go.RowKit
set_option linter.unusedVariables false
set_option linter.unusedSimpArgs false

/-- The chapter's config, but for how many pairs. -/
def chap (m : Int) : Cf := { tag := 1, most := m, seg := 4, least := 16, den := 8, ll := 0, rl := 1, rh := 4, lh := 8 }
theorem chap_in (m : Int) (h : I64 m) : (chap m).In :=
  ⟨by show (0 : Int) ≤ 1; omega, by show (1 : Int) ≤ 255; omega, h, by show I64 4; unfold I64; omega, by show I64 16; unfold I64; omega, by show I64 8; unfold I64; omega, by show I64 0; unfold I64; omega, by show I64 1; unfold I64; omega, by show I64 4; unfold I64; omega, by show I64 8; unfold I64; omega⟩

set_option maxHeartbeats 1000000 in
theorem lChapter (m : Int) (w : World) :
    Calls Try.prog 9 #[.int .i64 m] w fun e w' => e = .returned (cfv (chap m)) ∧ Below w.heap.size w w' := by
  go_enter Try.func9, Try.ntmps9
  go_wp2
  refine bodyPost_ret (v := .agg #[.int .u8 1, .int .i64 m, .int .i64 4, .int .i64 16, .int .i64 8, .int .i64 0, .int .i64 1, .int .i64 4, .int .i64 8]) (by simp [results, Try.results9, go_sem]) rfl ⟨rfl, ?_⟩
  exact (Below.refl _ _).alloc (Nat.le_refl _) _

set_option maxHeartbeats 1000000 in
theorem lOdd (c : Cf) (w : World) (hc : c.In) :
    Calls Try.prog 15 #[cfv c] w fun e w' => e = .returned (.bool (c.chkE == 50)) ∧ Below w.heap.size w w' := by
  have BX := Lib.hid (CBox.new w c 23)
  have B0 := Lib.hid ((Below.refl w.heap.size w).alloc (Nat.le_refl _) (.cells (cfCells c) 23))
  have CK := Lib.hid (fun W => kCheck c W hc)
  clear hc
  unfold cfCells at BX B0
  obtain ⟨x, hx⟩ : ∃ x, x = c.chkE := ⟨_, rfl⟩
  rw [← hx] at CK ⊢
  clear hx
  unfold cfv at CK ⊢
  go_enter Try.func15, Try.ntmps15
  go_wp2_with fail
  refine (CK.out _).mono ?_
  rintro e w1 ⟨rfl, hb⟩
  go_wp2
  go_ret
  exact ⟨rfl, B0.out.trans (hb.mono B0.out.size)⟩


set_option maxHeartbeats 1000000 in
theorem lFull (c : Cf) (size h n : Int) (b : Bool) (w : World) (hc : c.In) (hsz : size ≤ 9223372036854775807) :
    Calls Try.prog 23 #[cfv c, .int .i64 size, .int .i64 h, .int .i64 n, .bool b] w fun e w' => e = .returned (.bool (c.askE size h n == 0 && (c.fullV size h n == b))) ∧ Below w.heap.size w w' := by
  have BX := Lib.hid (CBox.new w c 23)
  have B0 := Lib.hid ((Below.refl w.heap.size w).alloc (Nat.le_refl _) (.cells (cfCells c) 23))
  have CK := Lib.hid (fun W => kFull c size h n W hc hsz)
  clear hc
  unfold cfCells at BX B0
  obtain ⟨x, hx⟩ : ∃ x, x = c.askE size h n := ⟨_, rfl⟩
  obtain ⟨y, hy⟩ : ∃ y, y = c.fullV size h n := ⟨_, rfl⟩
  rw [← hx, ← hy] at CK ⊢
  clear hx hy
  unfold cfv at CK ⊢
  by_cases h0 : x = 0
  · have k0 : (x == 0) = true := by simpa using h0
    clear h0
    rw [k0]
    cases y <;> cases b
    all_goals
      go_enter Try.func23, Try.ntmps23
      go_wp2_with fail
      refine (CK.out _).mono ?_
      rintro e w1 ⟨rfl, hb⟩
      go_wp2
      go_ret
      exact ⟨rfl, B0.out.trans (hb.mono B0.out.size)⟩
  · have k0 : (x == 0) = false := by simpa using h0
    clear h0
    rw [k0]
    go_enter Try.func23, Try.ntmps23
    go_wp2_with fail
    refine (CK.out _).mono ?_
    rintro e w1 ⟨rfl, hb⟩
    go_wp2
    go_ret
    exact ⟨rfl, B0.out.trans (hb.mono B0.out.size)⟩


set_option maxHeartbeats 1000000 in
theorem lSparse (c : Cf) (size h n : Int) (b : Bool) (w : World) (hc : c.In) (hsz : size ≤ 9223372036854775807) :
    Calls Try.prog 13 #[cfv c, .int .i64 size, .int .i64 h, .int .i64 n, .bool b] w fun e w' => e = .returned (.bool (c.askE size h n == 0 && (c.sparseV size h n == b))) ∧ Below w.heap.size w w' := by
  have BX := Lib.hid (CBox.new w c 23)
  have B0 := Lib.hid ((Below.refl w.heap.size w).alloc (Nat.le_refl _) (.cells (cfCells c) 23))
  have CK := Lib.hid (fun W => kSparse c size h n W hc hsz)
  clear hc
  unfold cfCells at BX B0
  obtain ⟨x, hx⟩ : ∃ x, x = c.askE size h n := ⟨_, rfl⟩
  obtain ⟨y, hy⟩ : ∃ y, y = c.sparseV size h n := ⟨_, rfl⟩
  rw [← hx, ← hy] at CK ⊢
  clear hx hy
  unfold cfv at CK ⊢
  by_cases h0 : x = 0
  · have k0 : (x == 0) = true := by simpa using h0
    clear h0
    rw [k0]
    cases y <;> cases b
    all_goals
      go_enter Try.func13, Try.ntmps13
      go_wp2_with fail
      refine (CK.out _).mono ?_
      rintro e w1 ⟨rfl, hb⟩
      go_wp2
      go_ret
      exact ⟨rfl, B0.out.trans (hb.mono B0.out.size)⟩
  · have k0 : (x == 0) = false := by simpa using h0
    clear h0
    rw [k0]
    go_enter Try.func13, Try.ntmps13
    go_wp2_with fail
    refine (CK.out _).mono ?_
    rintro e w1 ⟨rfl, hb⟩
    go_wp2
    go_ret
    exact ⟨rfl, B0.out.trans (hb.mono B0.out.size)⟩


theorem alive_facts : (chap 8).capV 8 = 16 ∧ (chap 8).capE 8 = 0 ∧ (chap 8).highV 16 = 2 ∧ (chap 8).highE 16 = 0 ∧ (chap 8).chkE = 0 ∧ (chap 9).chkE = 50 := by decide +kernel
theorem alive_full : ((chap 8).askE 16 2 8 == 0 && ((chap 8).fullV 16 2 8 == true)) = true ∧ ((chap 8).askE 16 2 9 == 0 && ((chap 8).fullV 16 2 9 == false)) = true ∧ ((chap 8).askE 16 0 4 == 0 && ((chap 8).fullV 16 0 4 == true)) = true ∧ ((chap 8).askE 16 1 6 == 0 && ((chap 8).fullV 16 1 6 == true)) = true ∧ ((chap 8).askE 16 1 7 == 0 && ((chap 8).fullV 16 1 7 == false)) = true := by decide +kernel
set_option maxRecDepth 100000 in
set_option maxHeartbeats 4000000 in
theorem lAlive (w : World) : Calls Try.prog 14 #[] w fun e w' => e = .returned (.bool true) ∧ Below w.heap.size w w' := by
  have F := Lib.hid alive_facts
  have G := Lib.hid alive_full
  have i8 : I64 8 := by unfold I64; omega
  have i9 : I64 9 := by unfold I64; omega
  have hb : Below w.heap.size w w := Below.refl _ _
  go_enter Try.func14, Try.ntmps14
  go_wp2_with fail
  refine (lChapter 8 _).mono ?_
  rintro e w1 ⟨rfl, hb1⟩
  replace hb := hb.trans (hb1.mono hb.size)
  clear hb1
  go_wp2_with fail
  refine (kCap (chap 8) 8 _ (chap_in 8 i8)).mono ?_
  rw [F.out.1, F.out.2.1]; rintro e w1 ⟨rfl, hb1⟩
  replace hb := hb.trans (hb1.mono hb.size)
  clear hb1
  go_wp2_with fail
  refine (lChapter 8 _).mono ?_
  rintro e w1 ⟨rfl, hb1⟩
  replace hb := hb.trans (hb1.mono hb.size)
  clear hb1
  go_wp2_with fail
  refine (kHigh (chap 8) 16 _ (chap_in 8 i8) (by omega)).mono ?_
  rw [F.out.2.2.1, F.out.2.2.2.1]; rintro e w1 ⟨rfl, hb1⟩
  replace hb := hb.trans (hb1.mono hb.size)
  clear hb1
  go_wp2_with fail
  refine (lChapter 8 _).mono ?_
  rintro e w1 ⟨rfl, hb1⟩
  replace hb := hb.trans (hb1.mono hb.size)
  clear hb1
  go_wp2_with fail
  refine (kCheck (chap 8) _ (chap_in 8 i8)).mono ?_
  rw [F.out.2.2.2.2.1]; rintro e w1 ⟨rfl, hb1⟩
  replace hb := hb.trans (hb1.mono hb.size)
  clear hb1
  go_wp2_with fail
  refine (lChapter 9 _).mono ?_
  rintro e w1 ⟨rfl, hb1⟩
  replace hb := hb.trans (hb1.mono hb.size)
  clear hb1
  go_wp2_with fail
  refine (kCheck (chap 9) _ (chap_in 9 i9)).mono ?_
  rw [F.out.2.2.2.2.2]; rintro e w1 ⟨rfl, hb1⟩
  replace hb := hb.trans (hb1.mono hb.size)
  clear hb1
  go_wp2_with fail
  refine (lChapter 8 _).mono ?_
  rintro e w1 ⟨rfl, hb1⟩
  replace hb := hb.trans (hb1.mono hb.size)
  clear hb1
  go_wp2_with fail
  refine (lFull (chap 8) 16 2 8 true _ (chap_in 8 i8) (by omega)).mono ?_
  rw [G.out.1]; rintro e w1 ⟨rfl, hb1⟩
  replace hb := hb.trans (hb1.mono hb.size)
  clear hb1
  go_wp2_with fail
  refine (lChapter 8 _).mono ?_
  rintro e w1 ⟨rfl, hb1⟩
  replace hb := hb.trans (hb1.mono hb.size)
  clear hb1
  go_wp2_with fail
  refine (lFull (chap 8) 16 2 9 false _ (chap_in 8 i8) (by omega)).mono ?_
  rw [G.out.2.1]; rintro e w1 ⟨rfl, hb1⟩
  replace hb := hb.trans (hb1.mono hb.size)
  clear hb1
  go_wp2_with fail
  refine (lChapter 8 _).mono ?_
  rintro e w1 ⟨rfl, hb1⟩
  replace hb := hb.trans (hb1.mono hb.size)
  clear hb1
  go_wp2_with fail
  refine (lFull (chap 8) 16 0 4 true _ (chap_in 8 i8) (by omega)).mono ?_
  rw [G.out.2.2.1]; rintro e w1 ⟨rfl, hb1⟩
  replace hb := hb.trans (hb1.mono hb.size)
  clear hb1
  go_wp2_with fail
  refine (lChapter 8 _).mono ?_
  rintro e w1 ⟨rfl, hb1⟩
  replace hb := hb.trans (hb1.mono hb.size)
  clear hb1
  go_wp2_with fail
  refine (lFull (chap 8) 16 1 6 true _ (chap_in 8 i8) (by omega)).mono ?_
  rw [G.out.2.2.2.1]; rintro e w1 ⟨rfl, hb1⟩
  replace hb := hb.trans (hb1.mono hb.size)
  clear hb1
  go_wp2_with fail
  refine (lChapter 8 _).mono ?_
  rintro e w1 ⟨rfl, hb1⟩
  replace hb := hb.trans (hb1.mono hb.size)
  clear hb1
  go_wp2_with fail
  refine (lFull (chap 8) 16 1 7 false _ (chap_in 8 i8) (by omega)).mono ?_
  rw [G.out.2.2.2.2]; rintro e w1 ⟨rfl, hb1⟩
  replace hb := hb.trans (hb1.mono hb.size)
  clear hb1
  go_wp2
  go_ret
  exact ⟨rfl, hb⟩
end Go.Proofs.Ytemnhpkkmfgnaaa

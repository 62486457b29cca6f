/- What package conf's sizesMayBe and densitiesMayBe return. -/
import Derived.Test.YtemnhpkkmfgnaaaConfB
import Derived.Deep.RegionHeld3
namespace Go.Proofs.Ytemnhpkkmfgnaaa
open Go.RowKit
set_option linter.unusedVariables false
set_option linter.unusedSimpArgs false

theorem blst7 (w : World) (a b c d e f g : Bool) (t : TypeId) : BLst (w.alloc (.cells #[.bool a, .bool b, .bool c, .bool d, .bool e, .bool f, .bool g] t)) w.heap.size 0 [a, b, c, d, e, f, g] := by
  intro j hj
  match j, hj with
  | 0, _ => simp
  | 1, _ => simp
  | 2, _ => simp
  | 3, _ => simp
  | 4, _ => simp
  | 5, _ => simp
  | 6, _ => simp
theorem blst2 (w : World) (a b : Bool) (t : TypeId) : BLst (w.alloc (.cells #[.bool a, .bool b] t)) w.heap.size 0 [a, b] := by
  intro j hj
  match j, hj with
  | 0, _ => simp
  | 1, _ => simp
theorem CBox.reads5 {w : World} {g : Nat} {c : Cf} (h : CBox w g c) : w.cell? ⟨g, 0, none⟩ = some (.int .u8 c.tag) ∧ w.cell? ⟨g, 1, none⟩ = some (.int .i64 c.most) ∧ w.cell? ⟨g, 2, none⟩ = some (.int .i64 c.seg) ∧ w.cell? ⟨g, 3, none⟩ = some (.int .i64 c.least) ∧ w.cell? ⟨g, 4, none⟩ = some (.int .i64 c.den) := ⟨h.c0, h.c1, h.c2, h.c3, h.c4⟩

theorem still_of {P : Program} {f : FuncId} {args : Array Value} {w : World} {v : Value} (h : Calls P f args w fun e w' => e = .returned v ∧ w = w') : Calls P f args w fun e w'' => e = .returned v ∧ w'' = w :=
  h.mono fun _ _ ⟨he, hw⟩ => ⟨he, hw.symm⟩

set_option maxRecDepth 100000 in
set_option maxHeartbeats 2000000 in
theorem kSizes (c : Cf) (w : World) (hc : c.In) :
    Calls Try.prog 33 #[cfv c] w fun e w' => e = .returned (.bool c.sizesB) ∧ Below w.heap.size w w' := by
  have BX := Lib.hid (CBox.new w c 23)
  have B0 := Lib.hid ((Below.refl w.heap.size w).alloc (Nat.le_refl _) (.cells (cfCells c) 23))
  have i1 := hc.seg.2
  have i2 := hc.least.2
  have E := Lib.hid (show c.sizesB = [(c.tag == 1 || c.tag == 2 || c.tag == 3), withinB c.most 1 16384, withinB c.seg 4 64, Fr.powB c.seg, withinB c.least c.seg 256, Fr.powB c.least, withinB c.den 1 64].all id by
    simp only [Cf.sizesB, withinB, List.all_cons, List.all_nil, id, Bool.and_true, Bool.and_assoc])
  clear hc
  unfold cfCells at BX B0
  obtain ⟨b, hb⟩ : ∃ b, b = (c.tag == 1 || c.tag == 2 || c.tag == 3) := ⟨_, rfl⟩
  rw [← hb] at E
  unfold cfv
  have K : ∃ s1 s2 s3 : Bool, (c.tag == 1) = s1 ∧ (c.tag == 2) = s2 ∧ (c.tag == 3) = s3 ∧ (s1 || s2 || s3) = b := ⟨_, _, _, rfl, rfl, rfl, hb.symm⟩
  clear hb
  obtain ⟨s1, s2, s3, k1, k2, k3, rfl⟩ := K
  cases s1 <;> cases s2 <;> cases s3
  all_goals
    first | rw [show (false || false || false) = false from rfl] at E | rw [show (true || false || false) = true from rfl] at E | rw [show (false || true || false) = true from rfl] at E | rw [show (false || false || true) = true from rfl] at E | rw [show (true || true || false) = true from rfl] at E | rw [show (true || false || true) = true from rfl] at E | rw [show (false || true || true) = true from rfl] at E | rw [show (true || true || true) = true from rfl] at E
    go_enter Try.func33, Try.ntmps33
    go_upto_region 1 with (fail)
    obtain ⟨W5, hW5⟩ : ∃ W5, W5 = w.alloc (.cells #[.int .u8 c.tag, .int .i64 c.most, .int .i64 c.seg, .int .i64 c.least, .int .i64 c.den, .int .i64 c.ll, .int .i64 c.rl, .int .i64 c.rh, .int .i64 c.lh] 23) := ⟨_, rfl⟩
    rw [← hW5] at BX B0 ⊢
    clear hW5
    have q0 : W5.drew.cell? ⟨w.heap.size, 0, none⟩ = some (.int .u8 c.tag) := BX.out.c0
    have q1 : W5.drew.cell? ⟨w.heap.size, 1, none⟩ = some (.int .i64 c.most) := BX.out.c1
    have q2 : W5.drew.cell? ⟨w.heap.size, 2, none⟩ = some (.int .i64 c.seg) := BX.out.c2
    have q3 : W5.drew.cell? ⟨w.heap.size, 3, none⟩ = some (.int .i64 c.least) := BX.out.c3
    have q4 : W5.drew.cell? ⟨w.heap.size, 4, none⟩ = some (.int .i64 c.den) := BX.out.c4
    go_still_tail 33, (by kernel_rfl)
    still_call (still_of (kWithin _ _ _ _))
    repeat still_step
    still_call (still_of (kWithin _ _ _ _))
    repeat still_step
    still_call (still_of (fPower _ _ i1))
    repeat still_step
    still_call (still_of (kWithin _ _ _ _))
    repeat still_step
    still_call (still_of (fPower _ _ i2))
    repeat still_step
    still_call (still_of (kWithin _ _ _ _))
    repeat still_step
    refine wpStill_nil ?_
    change wpList _ _ _ _ _ W5.drew
    obtain ⟨W6, hW6⟩ : ∃ W6, W6 = W5.drew := ⟨_, rfl⟩
    rw [← hW6]
    have B1 := Lib.hid (show Below w.heap.size w W6 by rw [hW6]; exact B0.out.drew)
    clear hW6 q0 q1 q2 q3 q4
    go_wp2_with fail
    refine (kAll W6.heap.size 0 7 [_, withinB c.most 1 16384, withinB c.seg 4 64, Fr.powB c.seg, withinB c.least c.seg 256, Fr.powB c.least, withinB c.den 1 64] _ (show 7 ≤ 1000 by decide) (blst7 W6 _ _ _ _ _ _ _ _)).mono ?_
    rw [← E.out]
    rintro e w1 ⟨rfl, rfl⟩
    go_wp2
    go_ret
    exact ⟨rfl, B1.out.alloc B1.out.size _⟩
end Go.Proofs.Ytemnhpkkmfgnaaa

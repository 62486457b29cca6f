/- The law ConfNames, walked over the contracts: it answers true. -/
import Derived.Test.YtemnhpkkmfgnaaaLaw05
namespace Go.Proofs.Ytemnhpkkmfgnaaa.confNames
open Go.RowKit
set_option linter.unusedVariables false
set_option linter.unusedSimpArgs false

def n0 : Cf := ⟨4, 8, 4, 16, 8, 0, 1, 4, 8⟩
theorem in0 : n0.In := by refine ⟨?_, ?_, ?_, ?_, ?_, ?_, ?_, ?_, ?_, ?_⟩ <;> simp [n0, I64]
def n1 : Cf := ⟨1, 8, 4, 16, 8, 1, 1, 4, 8⟩
theorem in1 : n1.In := by refine ⟨?_, ?_, ?_, ?_, ?_, ?_, ?_, ?_, ?_, ?_⟩ <;> simp [n1, I64]
def n2 : Cf := ⟨1, 8, 4, 16, 8, 0, 2, 4, 8⟩
theorem in2 : n2.In := by refine ⟨?_, ?_, ?_, ?_, ?_, ?_, ?_, ?_, ?_, ?_⟩ <;> simp [n2, I64]
def n3 : Cf := ⟨1, 8, 4, 8, 8, 0, 1, 4, 8⟩
theorem in3 : n3.In := by refine ⟨?_, ?_, ?_, ?_, ?_, ?_, ?_, ?_, ?_, ?_⟩ <;> simp [n3, I64]
def n4 : Cf := ⟨1, 8, 4, 16, 8, 0, 1, 3, 8⟩
theorem in4 : n4.In := by refine ⟨?_, ?_, ?_, ?_, ?_, ?_, ?_, ?_, ?_, ?_⟩ <;> simp [n4, I64]
def n5 : Cf := ⟨3, 16384, 32, 64, 16, 1, 2, 8, 16⟩
theorem in5 : n5.In := by refine ⟨?_, ?_, ?_, ?_, ?_, ?_, ?_, ?_, ?_, ?_⟩ <;> simp [n5, I64]
def n6 : Cf := ⟨0, 0, 0, 0, 0, 0, 0, 0, 0⟩
theorem in6 : n6.In := by refine ⟨?_, ?_, ?_, ?_, ?_, ?_, ?_, ?_, ?_, ?_⟩ <;> simp [n6, I64]
def six (w : World) : World := ((((((w.alloc (.cells (cfCells n0) 23)).alloc (.cells (cfCells n1) 23)).alloc (.cells (cfCells n2) 23)).alloc (.cells (cfCells n3) 23)).alloc (.cells (cfCells n4) 23)).alloc (.cells (cfCells n5) 23))
theorem box0 (w : World) : CBox (six w) (w.heap.size + 0) n0 := CBox.of_block (t := 23) (by rw [show (six w).heap = (((((w.heap.push (.cells (cfCells n0) 23)).push (.cells (cfCells n1) 23)).push (.cells (cfCells n2) 23)).push (.cells (cfCells n3) 23)).push (.cells (cfCells n4) 23)).push (.cells (cfCells n5) 23) from rfl]; simp only [Array.getElem?_push, Array.size_push]; rw [if_neg (by omega)]; rw [if_neg (by omega)]; rw [if_neg (by omega)]; rw [if_neg (by omega)]; rw [if_neg (by omega)]; rw [if_pos (by first | trivial | omega)])
theorem box1 (w : World) : CBox (six w) (w.heap.size + 1) n1 := CBox.of_block (t := 23) (by rw [show (six w).heap = (((((w.heap.push (.cells (cfCells n0) 23)).push (.cells (cfCells n1) 23)).push (.cells (cfCells n2) 23)).push (.cells (cfCells n3) 23)).push (.cells (cfCells n4) 23)).push (.cells (cfCells n5) 23) from rfl]; simp only [Array.getElem?_push, Array.size_push]; rw [if_neg (by omega)]; rw [if_neg (by omega)]; rw [if_neg (by omega)]; rw [if_neg (by omega)]; rw [if_pos (by first | trivial | omega)])
theorem box2 (w : World) : CBox (six w) (w.heap.size + 2) n2 := CBox.of_block (t := 23) (by rw [show (six w).heap = (((((w.heap.push (.cells (cfCells n0) 23)).push (.cells (cfCells n1) 23)).push (.cells (cfCells n2) 23)).push (.cells (cfCells n3) 23)).push (.cells (cfCells n4) 23)).push (.cells (cfCells n5) 23) from rfl]; simp only [Array.getElem?_push, Array.size_push]; rw [if_neg (by omega)]; rw [if_neg (by omega)]; rw [if_neg (by omega)]; rw [if_pos (by first | trivial | omega)])
theorem box3 (w : World) : CBox (six w) (w.heap.size + 3) n3 := CBox.of_block (t := 23) (by rw [show (six w).heap = (((((w.heap.push (.cells (cfCells n0) 23)).push (.cells (cfCells n1) 23)).push (.cells (cfCells n2) 23)).push (.cells (cfCells n3) 23)).push (.cells (cfCells n4) 23)).push (.cells (cfCells n5) 23) from rfl]; simp only [Array.getElem?_push, Array.size_push]; rw [if_neg (by omega)]; rw [if_neg (by omega)]; rw [if_pos (by first | trivial | omega)])
theorem box4 (w : World) : CBox (six w) (w.heap.size + 4) n4 := CBox.of_block (t := 23) (by rw [show (six w).heap = (((((w.heap.push (.cells (cfCells n0) 23)).push (.cells (cfCells n1) 23)).push (.cells (cfCells n2) 23)).push (.cells (cfCells n3) 23)).push (.cells (cfCells n4) 23)).push (.cells (cfCells n5) 23) from rfl]; simp only [Array.getElem?_push, Array.size_push]; rw [if_neg (by omega)]; rw [if_pos (by first | trivial | omega)])
theorem box5 (w : World) : CBox (six w) (w.heap.size + 5) n5 := CBox.of_block (t := 23) (by rw [show (six w).heap = (((((w.heap.push (.cells (cfCells n0) 23)).push (.cells (cfCells n1) 23)).push (.cells (cfCells n2) 23)).push (.cells (cfCells n3) 23)).push (.cells (cfCells n4) 23)).push (.cells (cfCells n5) 23) from rfl]; simp only [Array.getElem?_push, Array.size_push];  rw [if_pos (by first | trivial | omega)])
theorem below_six {W w : World} (h : Below W.heap.size W w) : Below W.heap.size W (six w) := by
  have z := h.size
  unfold six
  exact (((((h.alloc z _).alloc (by simp; omega) _).alloc (by simp; omega) _).alloc (by simp; omega) _).alloc (by simp; omega) _).alloc (by simp; omega) _
theorem caps : n5.capV 16384 = 32768 ∧ n5.capE 16384 = 0 ∧ n5.capV 16385 = 0 ∧ n5.capE 16385 = 4 ∧ n5.capV (-1) = 0 ∧ n5.capE (-1) = 2 := by decide +kernel
theorem highs : n5.highV 32768 = 10 ∧ n5.highE 32768 = 0 ∧ n5.highV 65536 = 0 ∧ n5.highE 65536 = 2 ∧ n5.highV 96 = 0 ∧ n5.highE 96 = 2 := by decide +kernel
theorem fulls : n5.fullV 64 2 0 = false ∧ n5.askE 64 2 0 = 2 ∧ n5.fullV 64 0 33 = false ∧ n5.askE 64 0 33 = 2 := by decide +kernel
theorem sp1 : (n5.askE 64 1 0 == 0 && (n5.sparseV 64 1 0 == true)) = true := by decide +kernel
theorem sp2 : (n5.askE 128 2 14 == 0 && (n5.sparseV 128 2 14 == false)) = true := by decide +kernel
theorem sp3 : (n5.askE 128 2 15 == 0 && (n5.sparseV 128 2 15 == true)) = true := by decide +kernel
theorem sp4 : (n5.askE 128 0 0 == 0 && (n5.sparseV 128 0 0 == false)) = true := by decide +kernel
theorem sp5 : (n5.askE 128 0 1 == 0 && (n5.sparseV 128 0 1 == true)) = true := by decide +kernel
theorem odd0 : (n0.chkE == 50) = true := by decide +kernel
theorem odd1 : (n1.chkE == 50) = true := by decide +kernel
theorem odd2 : (n2.chkE == 50) = true := by decide +kernel
theorem odd3 : (n3.chkE == 50) = true := by decide +kernel
theorem odd4 : (n4.chkE == 50) = true := by decide +kernel
theorem odd6 : (n6.chkE == 50) = true := by decide +kernel
theorem chk5 : n5.chkE = 0 := by decide +kernel

set_option maxRecDepth 100000 in
set_option maxHeartbeats 8000000 in
theorem walk (w : World) : Calls Try.prog 3 #[] w fun e w' => e = .returned (.bool true) ∧ Below w.heap.size w w' := by
  have hb : Below w.heap.size w w := Below.refl _ _
  have CP := Lib.hid caps
  have HI := Lib.hid highs
  have FU := Lib.hid fulls
  go_enter Try.func3, Try.ntmps3
  go_wp2_with fail
  refine (lChapter 8 _).mono ?_
  rintro e w1 ⟨rfl, hb1⟩
  replace hb := hb.trans (hb1.mono hb.size)
  clear hb1
  go_wp2_with fail
  refine (lChapter 8 _).mono ?_
  rintro e w1 ⟨rfl, hb1⟩
  replace hb := hb.trans (hb1.mono hb.size)
  clear hb1
  go_wp2_with fail
  refine (lChapter 8 _).mono ?_
  rintro e w1 ⟨rfl, hb1⟩
  replace hb := hb.trans (hb1.mono hb.size)
  clear hb1
  go_wp2_with fail
  refine (lChapter 8 _).mono ?_
  rintro e w1 ⟨rfl, hb1⟩
  replace hb := hb.trans (hb1.mono hb.size)
  clear hb1
  go_wp2_with fail
  refine (lChapter 8 _).mono ?_
  rintro e w1 ⟨rfl, hb1⟩
  replace hb := hb.trans (hb1.mono hb.size)
  clear hb1
  unfold cfv chap
  go_upto_region 8 with (fail)
  change Code.wp _ _ _ _ (six w1)
  have B0 := Lib.hid (below_six hb)
  have Y0 := Lib.hid (box0 w1)
  have Y1 := Lib.hid (box1 w1)
  have Y2 := Lib.hid (box2 w1)
  have Y3 := Lib.hid (box3 w1)
  have Y4 := Lib.hid (box4 w1)
  have Y5 := Lib.hid (box5 w1)
  obtain ⟨V, hV⟩ : ∃ V, V = six w1 := ⟨_, rfl⟩
  rw [← hV] at B0 Y0 Y1 Y2 Y3 Y4 Y5 ⊢
  clear hV hb
  have e5 := Lib.hid (show cfv n5 = .agg #[.int .u8 3, .int .i64 16384, .int .i64 32, .int .i64 64, .int .i64 16, .int .i64 1, .int .i64 2, .int .i64 8, .int .i64 16] from rfl)
  obtain ⟨_, c0, c1, c2, c3, c4, c5, c6, c7, c8, _⟩ := Y5.out
  simp only [n5] at c0 c1 c2 c3 c4 c5 c6 c7 c8
  go_wp2_with fail
  refine (kCap n5 16384 _ in5).mono ?_
  rw [CP.out.1, CP.out.2.1]
  rintro e v1 ⟨rfl, hb⟩
  have B1 := Lib.hid (B0.out.trans (hb.mono B0.out.size))
  replace Y0 := Lib.hid (Y0.out.below hb)
  replace Y1 := Lib.hid (Y1.out.below hb)
  replace Y2 := Lib.hid (Y2.out.below hb)
  replace Y3 := Lib.hid (Y3.out.below hb)
  replace Y4 := Lib.hid (Y4.out.below hb)
  replace Y5 := Lib.hid (Y5.out.below hb)
  clear hb c0 c1 c2 c3 c4 c5 c6 c7 c8
  obtain ⟨_, c0, c1, c2, c3, c4, c5, c6, c7, c8, _⟩ := Y5.out
  simp only [n5] at c0 c1 c2 c3 c4 c5 c6 c7 c8
  go_wp2_with fail
  refine (kHigh n5 32768 _ in5 (by omega)).mono ?_
  rw [HI.out.1, HI.out.2.1]
  rintro e v2 ⟨rfl, hb⟩
  have B2 := Lib.hid (B1.out.trans (hb.mono B1.out.size))
  replace Y0 := Lib.hid (Y0.out.below hb)
  replace Y1 := Lib.hid (Y1.out.below hb)
  replace Y2 := Lib.hid (Y2.out.below hb)
  replace Y3 := Lib.hid (Y3.out.below hb)
  replace Y4 := Lib.hid (Y4.out.below hb)
  replace Y5 := Lib.hid (Y5.out.below hb)
  clear hb c0 c1 c2 c3 c4 c5 c6 c7 c8
  obtain ⟨_, c0, c1, c2, c3, c4, c5, c6, c7, c8, _⟩ := Y5.out
  simp only [n5] at c0 c1 c2 c3 c4 c5 c6 c7 c8
  go_wp2_with fail
  refine (kCap n5 16385 _ in5).mono ?_
  rw [CP.out.2.2.1, CP.out.2.2.2.1]
  rintro e v3 ⟨rfl, hb⟩
  have B3 := Lib.hid (B2.out.trans (hb.mono B2.out.size))
  replace Y0 := Lib.hid (Y0.out.below hb)
  replace Y1 := Lib.hid (Y1.out.below hb)
  replace Y2 := Lib.hid (Y2.out.below hb)
  replace Y3 := Lib.hid (Y3.out.below hb)
  replace Y4 := Lib.hid (Y4.out.below hb)
  replace Y5 := Lib.hid (Y5.out.below hb)
  clear hb c0 c1 c2 c3 c4 c5 c6 c7 c8
  obtain ⟨_, c0, c1, c2, c3, c4, c5, c6, c7, c8, _⟩ := Y5.out
  simp only [n5] at c0 c1 c2 c3 c4 c5 c6 c7 c8
  go_wp2_with fail
  refine (kCap n5 (-1) _ in5).mono ?_
  rw [CP.out.2.2.2.2.1, CP.out.2.2.2.2.2]
  rintro e v4 ⟨rfl, hb⟩
  have B4 := Lib.hid (B3.out.trans (hb.mono B3.out.size))
  replace Y0 := Lib.hid (Y0.out.below hb)
  replace Y1 := Lib.hid (Y1.out.below hb)
  replace Y2 := Lib.hid (Y2.out.below hb)
  replace Y3 := Lib.hid (Y3.out.below hb)
  replace Y4 := Lib.hid (Y4.out.below hb)
  replace Y5 := Lib.hid (Y5.out.below hb)
  clear hb c0 c1 c2 c3 c4 c5 c6 c7 c8
  obtain ⟨_, c0, c1, c2, c3, c4, c5, c6, c7, c8, _⟩ := Y5.out
  simp only [n5] at c0 c1 c2 c3 c4 c5 c6 c7 c8
  go_wp2_with fail
  refine (kHigh n5 65536 _ in5 (by omega)).mono ?_
  rw [HI.out.2.2.1, HI.out.2.2.2.1]
  rintro e v5 ⟨rfl, hb⟩
  have B5 := Lib.hid (B4.out.trans (hb.mono B4.out.size))
  replace Y0 := Lib.hid (Y0.out.below hb)
  replace Y1 := Lib.hid (Y1.out.below hb)
  replace Y2 := Lib.hid (Y2.out.below hb)
  replace Y3 := Lib.hid (Y3.out.below hb)
  replace Y4 := Lib.hid (Y4.out.below hb)
  replace Y5 := Lib.hid (Y5.out.below hb)
  clear hb c0 c1 c2 c3 c4 c5 c6 c7 c8
  obtain ⟨_, c0, c1, c2, c3, c4, c5, c6, c7, c8, _⟩ := Y5.out
  simp only [n5] at c0 c1 c2 c3 c4 c5 c6 c7 c8
  go_wp2_with fail
  refine (kHigh n5 96 _ in5 (by omega)).mono ?_
  rw [HI.out.2.2.2.2.1, HI.out.2.2.2.2.2]
  rintro e v6 ⟨rfl, hb⟩
  have B6 := Lib.hid (B5.out.trans (hb.mono B5.out.size))
  replace Y0 := Lib.hid (Y0.out.below hb)
  replace Y1 := Lib.hid (Y1.out.below hb)
  replace Y2 := Lib.hid (Y2.out.below hb)
  replace Y3 := Lib.hid (Y3.out.below hb)
  replace Y4 := Lib.hid (Y4.out.below hb)
  replace Y5 := Lib.hid (Y5.out.below hb)
  clear hb c0 c1 c2 c3 c4 c5 c6 c7 c8
  obtain ⟨_, c0, c1, c2, c3, c4, c5, c6, c7, c8, _⟩ := Y5.out
  simp only [n5] at c0 c1 c2 c3 c4 c5 c6 c7 c8
  go_wp2_with fail
  refine (kFull n5 64 2 0 _ in5 (by omega)).mono ?_
  rw [FU.out.1, FU.out.2.1]
  rintro e v7 ⟨rfl, hb⟩
  have B7 := Lib.hid (B6.out.trans (hb.mono B6.out.size))
  replace Y0 := Lib.hid (Y0.out.below hb)
  replace Y1 := Lib.hid (Y1.out.below hb)
  replace Y2 := Lib.hid (Y2.out.below hb)
  replace Y3 := Lib.hid (Y3.out.below hb)
  replace Y4 := Lib.hid (Y4.out.below hb)
  replace Y5 := Lib.hid (Y5.out.below hb)
  clear hb c0 c1 c2 c3 c4 c5 c6 c7 c8
  obtain ⟨_, c0, c1, c2, c3, c4, c5, c6, c7, c8, _⟩ := Y5.out
  simp only [n5] at c0 c1 c2 c3 c4 c5 c6 c7 c8
  go_wp2_with fail
  refine (kFull n5 64 0 33 _ in5 (by omega)).mono ?_
  rw [FU.out.2.2.1, FU.out.2.2.2]
  rintro e v8 ⟨rfl, hb⟩
  have B8 := Lib.hid (B7.out.trans (hb.mono B7.out.size))
  replace Y0 := Lib.hid (Y0.out.below hb)
  replace Y1 := Lib.hid (Y1.out.below hb)
  replace Y2 := Lib.hid (Y2.out.below hb)
  replace Y3 := Lib.hid (Y3.out.below hb)
  replace Y4 := Lib.hid (Y4.out.below hb)
  replace Y5 := Lib.hid (Y5.out.below hb)
  clear hb c0 c1 c2 c3 c4 c5 c6 c7 c8
  obtain ⟨_, c0, c1, c2, c3, c4, c5, c6, c7, c8, _⟩ := Y5.out
  simp only [n5] at c0 c1 c2 c3 c4 c5 c6 c7 c8
  go_wp2_with fail
  refine (lSparse n5 64 1 0 true _ in5 (by omega)).mono ?_
  rw [sp1]
  rintro e v9 ⟨rfl, hb⟩
  have B9 := Lib.hid (B8.out.trans (hb.mono B8.out.size))
  replace Y0 := Lib.hid (Y0.out.below hb)
  replace Y1 := Lib.hid (Y1.out.below hb)
  replace Y2 := Lib.hid (Y2.out.below hb)
  replace Y3 := Lib.hid (Y3.out.below hb)
  replace Y4 := Lib.hid (Y4.out.below hb)
  replace Y5 := Lib.hid (Y5.out.below hb)
  clear hb c0 c1 c2 c3 c4 c5 c6 c7 c8
  obtain ⟨_, c0, c1, c2, c3, c4, c5, c6, c7, c8, _⟩ := Y5.out
  simp only [n5] at c0 c1 c2 c3 c4 c5 c6 c7 c8
  go_wp2_with fail
  refine (lSparse n5 128 2 14 false _ in5 (by omega)).mono ?_
  rw [sp2]
  rintro e v10 ⟨rfl, hb⟩
  have B10 := Lib.hid (B9.out.trans (hb.mono B9.out.size))
  replace Y0 := Lib.hid (Y0.out.below hb)
  replace Y1 := Lib.hid (Y1.out.below hb)
  replace Y2 := Lib.hid (Y2.out.below hb)
  replace Y3 := Lib.hid (Y3.out.below hb)
  replace Y4 := Lib.hid (Y4.out.below hb)
  replace Y5 := Lib.hid (Y5.out.below hb)
  clear hb c0 c1 c2 c3 c4 c5 c6 c7 c8
  obtain ⟨_, c0, c1, c2, c3, c4, c5, c6, c7, c8, _⟩ := Y5.out
  simp only [n5] at c0 c1 c2 c3 c4 c5 c6 c7 c8
  go_wp2_with fail
  refine (lSparse n5 128 2 15 true _ in5 (by omega)).mono ?_
  rw [sp3]
  rintro e v11 ⟨rfl, hb⟩
  have B11 := Lib.hid (B10.out.trans (hb.mono B10.out.size))
  replace Y0 := Lib.hid (Y0.out.below hb)
  replace Y1 := Lib.hid (Y1.out.below hb)
  replace Y2 := Lib.hid (Y2.out.below hb)
  replace Y3 := Lib.hid (Y3.out.below hb)
  replace Y4 := Lib.hid (Y4.out.below hb)
  replace Y5 := Lib.hid (Y5.out.below hb)
  clear hb c0 c1 c2 c3 c4 c5 c6 c7 c8
  obtain ⟨_, c0, c1, c2, c3, c4, c5, c6, c7, c8, _⟩ := Y5.out
  simp only [n5] at c0 c1 c2 c3 c4 c5 c6 c7 c8
  go_wp2_with fail
  refine (lSparse n5 128 0 0 false _ in5 (by omega)).mono ?_
  rw [sp4]
  rintro e v12 ⟨rfl, hb⟩
  have B12 := Lib.hid (B11.out.trans (hb.mono B11.out.size))
  replace Y0 := Lib.hid (Y0.out.below hb)
  replace Y1 := Lib.hid (Y1.out.below hb)
  replace Y2 := Lib.hid (Y2.out.below hb)
  replace Y3 := Lib.hid (Y3.out.below hb)
  replace Y4 := Lib.hid (Y4.out.below hb)
  replace Y5 := Lib.hid (Y5.out.below hb)
  clear hb c0 c1 c2 c3 c4 c5 c6 c7 c8
  obtain ⟨_, c0, c1, c2, c3, c4, c5, c6, c7, c8, _⟩ := Y5.out
  simp only [n5] at c0 c1 c2 c3 c4 c5 c6 c7 c8
  go_wp2_with fail
  refine (lSparse n5 128 0 1 true _ in5 (by omega)).mono ?_
  rw [sp5]
  rintro e v13 ⟨rfl, hb⟩
  have B13 := Lib.hid (B12.out.trans (hb.mono B12.out.size))
  replace Y0 := Lib.hid (Y0.out.below hb)
  replace Y1 := Lib.hid (Y1.out.below hb)
  replace Y2 := Lib.hid (Y2.out.below hb)
  replace Y3 := Lib.hid (Y3.out.below hb)
  replace Y4 := Lib.hid (Y4.out.below hb)
  replace Y5 := Lib.hid (Y5.out.below hb)
  clear hb c0 c1 c2 c3 c4 c5 c6 c7 c8
  go_wp2_with fail
  refine (lAlive _).mono ?_
  rintro e v14 ⟨rfl, hb⟩
  have B14 := Lib.hid (B13.out.trans (hb.mono B13.out.size))
  replace Y0 := Lib.hid (Y0.out.below hb)
  replace Y1 := Lib.hid (Y1.out.below hb)
  replace Y2 := Lib.hid (Y2.out.below hb)
  replace Y3 := Lib.hid (Y3.out.below hb)
  replace Y4 := Lib.hid (Y4.out.below hb)
  replace Y5 := Lib.hid (Y5.out.below hb)
  clear hb
  obtain ⟨_, c0, c1, c2, c3, c4, c5, c6, c7, c8, _⟩ := Y0.out
  simp only [n0, Nat.add_zero] at c0 c1 c2 c3 c4 c5 c6 c7 c8
  go_wp2_with fail
  refine (lOdd n0 _ in0).mono ?_
  rw [odd0]
  rintro e v15 ⟨rfl, hb⟩
  have B15 := Lib.hid (B14.out.trans (hb.mono B14.out.size))
  replace Y0 := Lib.hid (Y0.out.below hb)
  replace Y1 := Lib.hid (Y1.out.below hb)
  replace Y2 := Lib.hid (Y2.out.below hb)
  replace Y3 := Lib.hid (Y3.out.below hb)
  replace Y4 := Lib.hid (Y4.out.below hb)
  replace Y5 := Lib.hid (Y5.out.below hb)
  clear hb c0 c1 c2 c3 c4 c5 c6 c7 c8
  obtain ⟨_, c0, c1, c2, c3, c4, c5, c6, c7, c8, _⟩ := Y1.out
  simp only [n1] at c0 c1 c2 c3 c4 c5 c6 c7 c8
  go_wp2_with fail
  refine (lOdd n1 _ in1).mono ?_
  rw [odd1]
  rintro e v16 ⟨rfl, hb⟩
  have B16 := Lib.hid (B15.out.trans (hb.mono B15.out.size))
  replace Y0 := Lib.hid (Y0.out.below hb)
  replace Y1 := Lib.hid (Y1.out.below hb)
  replace Y2 := Lib.hid (Y2.out.below hb)
  replace Y3 := Lib.hid (Y3.out.below hb)
  replace Y4 := Lib.hid (Y4.out.below hb)
  replace Y5 := Lib.hid (Y5.out.below hb)
  clear hb c0 c1 c2 c3 c4 c5 c6 c7 c8
  obtain ⟨_, c0, c1, c2, c3, c4, c5, c6, c7, c8, _⟩ := Y2.out
  simp only [n2] at c0 c1 c2 c3 c4 c5 c6 c7 c8
  go_wp2_with fail
  refine (lOdd n2 _ in2).mono ?_
  rw [odd2]
  rintro e v17 ⟨rfl, hb⟩
  have B17 := Lib.hid (B16.out.trans (hb.mono B16.out.size))
  replace Y0 := Lib.hid (Y0.out.below hb)
  replace Y1 := Lib.hid (Y1.out.below hb)
  replace Y2 := Lib.hid (Y2.out.below hb)
  replace Y3 := Lib.hid (Y3.out.below hb)
  replace Y4 := Lib.hid (Y4.out.below hb)
  replace Y5 := Lib.hid (Y5.out.below hb)
  clear hb c0 c1 c2 c3 c4 c5 c6 c7 c8
  obtain ⟨_, c0, c1, c2, c3, c4, c5, c6, c7, c8, _⟩ := Y3.out
  simp only [n3] at c0 c1 c2 c3 c4 c5 c6 c7 c8
  go_wp2_with fail
  refine (lOdd n3 _ in3).mono ?_
  rw [odd3]
  rintro e v18 ⟨rfl, hb⟩
  have B18 := Lib.hid (B17.out.trans (hb.mono B17.out.size))
  replace Y0 := Lib.hid (Y0.out.below hb)
  replace Y1 := Lib.hid (Y1.out.below hb)
  replace Y2 := Lib.hid (Y2.out.below hb)
  replace Y3 := Lib.hid (Y3.out.below hb)
  replace Y4 := Lib.hid (Y4.out.below hb)
  replace Y5 := Lib.hid (Y5.out.below hb)
  clear hb c0 c1 c2 c3 c4 c5 c6 c7 c8
  obtain ⟨_, c0, c1, c2, c3, c4, c5, c6, c7, c8, _⟩ := Y4.out
  simp only [n4] at c0 c1 c2 c3 c4 c5 c6 c7 c8
  go_wp2_with fail
  refine (lOdd n4 _ in4).mono ?_
  rw [odd4]
  rintro e v19 ⟨rfl, hb⟩
  have B19 := Lib.hid (B18.out.trans (hb.mono B18.out.size))
  replace Y0 := Lib.hid (Y0.out.below hb)
  replace Y1 := Lib.hid (Y1.out.below hb)
  replace Y2 := Lib.hid (Y2.out.below hb)
  replace Y3 := Lib.hid (Y3.out.below hb)
  replace Y4 := Lib.hid (Y4.out.below hb)
  replace Y5 := Lib.hid (Y5.out.below hb)
  clear hb c0 c1 c2 c3 c4 c5 c6 c7 c8
  go_wp2_with fail
  refine (lOdd n6 _ in6).mono ?_
  rw [odd6]
  rintro e v20 ⟨rfl, hb⟩
  have B20 := Lib.hid (B19.out.trans (hb.mono B19.out.size))
  replace Y0 := Lib.hid (Y0.out.below hb)
  replace Y1 := Lib.hid (Y1.out.below hb)
  replace Y2 := Lib.hid (Y2.out.below hb)
  replace Y3 := Lib.hid (Y3.out.below hb)
  replace Y4 := Lib.hid (Y4.out.below hb)
  replace Y5 := Lib.hid (Y5.out.below hb)
  clear hb
  obtain ⟨_, c0, c1, c2, c3, c4, c5, c6, c7, c8, _⟩ := Y5.out
  simp only [n5] at c0 c1 c2 c3 c4 c5 c6 c7 c8
  go_wp2_with fail
  refine (kCheck n5 _ in5).mono ?_
  rw [chk5]
  rintro e v21 ⟨rfl, hb⟩
  have B21 := Lib.hid (B20.out.trans (hb.mono B20.out.size))
  replace Y0 := Lib.hid (Y0.out.below hb)
  replace Y1 := Lib.hid (Y1.out.below hb)
  replace Y2 := Lib.hid (Y2.out.below hb)
  replace Y3 := Lib.hid (Y3.out.below hb)
  replace Y4 := Lib.hid (Y4.out.below hb)
  replace Y5 := Lib.hid (Y5.out.below hb)
  clear hb c0 c1 c2 c3 c4 c5 c6 c7 c8
  go_wp2
  go_ret
  exact ⟨rfl, B21.out⟩
end Go.Proofs.Ytemnhpkkmfgnaaa.confNames

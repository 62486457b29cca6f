/- What the law package's own functions return. -/
import Derived.Test.YtgngipkfbckhpaaDoorM18
import Derived.Test.YtgngipkfbckhpaaDoorM23
namespace Go.Proofs.YtgngipkfbckhpaaDoor
open Go.RowKit
set_option linter.unusedVariables false
set_option linter.unusedSimpArgs false

def Sl.isB (s : Sl) (i : Int) (p : Int × Int) : Bool := s.atE i == 0 && ((s.atV i).1 == p.1 && (s.atV i).2 == p.2)
theorem alive_facts : Sl.newE 4 8 = 0 ∧ (Sl.newS 4 8).layE 3 = 0 ∧ ((Sl.newS 4 8).layS 3 (5, 7)).atE 3 = 0 ∧ ((Sl.newS 4 8).layS 3 (5, 7)).atV 3 = (5, 7) ∧ ((Sl.newS 4 8).layS 3 (5, 7)).counts = [1, 0] ∧ ((Sl.newS 4 8).layS 3 (5, 7)).laid = 1 := by decide
theorem in64_small' {z : Int} (h1 : -1000 ≤ z) (h2 : z ≤ 1000) : In64 z := ⟨by omega, by omega⟩
set_option maxRecDepth 100000 in
set_option maxHeartbeats 4000000 in
theorem lAlive (w : World) (hT : Tab w) :
    Calls Tryd.prog 12 #[] w fun e w' => e = .returned (.bool true) ∧ Below w.heap.size w w' := by
  obtain ⟨f0, f1, f2, f3, f4, f5⟩ := alive_facts
  have ok0 := Lib.hid (ok_new (seg := 4) (many := 8) (in64_small' (by omega) (by omega)))
  have sh0 := Lib.hid (short_new (seg := 4) (many := 8))
  have ok1 := Lib.hid (ok_lay ok0.out sh0.out 3 (p := (5, 7)) (in64_small' (by decide) (by decide)) (in64_small' (by decide) (by decide)))
  have sh1 := Lib.hid (short_lay sh0.out 3 (5, 7))
  have CN := Lib.hid (fun V => sNew 4 8 V (in64_small' (by omega) (by omega)) (in64_small' (by omega) (by omega)))
  have CL := Lib.hid (fun A V (hv : Held V (Sl.newS 4 8) A) tv => cLay (Sl.newS 4 8) A 3 (5, 7) V hv ok0.out sh0.out tv)
  have CA := Lib.hid (fun A V (hv : Held V ((Sl.newS 4 8).layS 3 (5, 7)) A) tv => sAt ((Sl.newS 4 8).layS 3 (5, 7)) A 3 V hv ok1.out sh1.out tv)
  rw [f0] at CN
  rw [f1] at CL
  unfold AtPost at CA
  rw [f2, f3] at CA
  obtain ⟨S1, hS1⟩ : ∃ S, S = (Sl.newS 4 8).layS 3 (5, 7) := ⟨_, rfl⟩
  rw [← hS1] at CA CL f4 f5
  clear hS1
  obtain ⟨S0, hS0⟩ : ∃ S, S = Sl.newS 4 8 := ⟨_, rfl⟩
  rw [← hS0] at CN CL
  have e4 := Lib.hid f4
  have l4 : S1.counts.length = 2 := by rw [f4]; rfl
  have l5 : (S1.laid : Int) = 1 := by rw [f5]; rfl
  have TB0 := Lib.hid hT
  clear f0 f1 f2 f3 f4 f5 hS0 ok0 sh0 ok1 sh1 hT
  unfold slv pv at CL CA
  go_enter Tryd.func12, Tryd.ntmps12
  go_wp2_with fail
  refine (CN.out _).mono ?_
  rintro e w1 ⟨A0, rfl, own, hb⟩
  have zz := hb.size
  have BB := Lib.hid hb
  have O0 := Lib.hid own
  clear hb own
  unfold slv
  go_upto_region 2 with (fail)
  obtain ⟨V0, hV⟩ : ∃ V, V = w1.alloc (.cells #[.int .i64 S0.seg, .slice A0.w S0.words.length A0.cw, .slice A0.k S0.keys.length A0.ck, .slice A0.v S0.vals.length A0.cv, .slice A0.c S0.counts.length A0.cc, .int .u64 (S0.laid : Int)] 27) := ⟨_, rfl⟩
  have hba : Below w1.heap.size w1 V0 := by rw [hV]; exact (Below.refl _ _).alloc (Nat.le_refl _) _
  have B0 := Lib.hid (show Box V0 w1.heap.size S0 A0 by rw [hV]; exact Box.new w1 S0 A0 27)
  first | rw [← hV] | skip
  replace O0 := Lib.hid (O0.out.below hba)
  replace BB := Lib.hid (BB.out.trans (hba.mono BB.out.size))
  have TB := Lib.hid (TB0.out.below BB.out)
  clear hV hba
  obtain ⟨_, p0, p1, p2, p3, p4, p5, _⟩ := B0.out
  go_wp2_with fail
  refine (CL.out A0 _ O0.out.held TB.out).mono ?_
  rintro e w2 ⟨A1, rfl, own, hb⟩
  replace BB := Lib.hid (BB.out.trans (hb.mono BB.out.size))
  replace B0 := Lib.hid (B0.out.below hb)
  have O1 := Lib.hid own
  have z2 := hb.size
  have g0 := B0.out.lt
  clear hb own p0 p1 p2 p3 p4 p5 O0
  unfold slv
  obtain ⟨_, p0, p1, p2, p3, p4, p5, pf⟩ := B0.out
  have pf0 := pf 0
  have pf1 := pf 1
  have pf2 := pf 2
  have pf3 := pf 3
  have pf4 := pf 4
  have pf5 := pf 5
  clear pf
  go_upto_region 3 with (fail)
  obtain ⟨V1, hV⟩ : ∃ V, V = put6 w2 w1.heap.size (.int .i64 S1.seg) (.slice A1.w S1.words.length A1.cw) (.slice A1.k S1.keys.length A1.ck) (.slice A1.v S1.vals.length A1.cv) (.slice A1.c S1.counts.length A1.cc) (.int .u64 (S1.laid : Int)) := ⟨_, rfl⟩
  have B1 := Lib.hid (show Box V1 w1.heap.size S1 A1 by rw [hV]; exact B0.out.put6 S1 A1)
  replace O1 := Lib.hid (show Held V1 S1 A1 by rw [hV]; exact ⟨(O1.out.words.put6 (by omega) _ _ _ _ _ _).lst, (O1.out.keys.put6 (by omega) _ _ _ _ _ _).lst, (O1.out.vals.put6 (by omega) _ _ _ _ _ _).lst, (O1.out.counts.put6 (by omega) _ _ _ _ _ _).lst, O1.out.caps⟩)
  replace BB := Lib.hid (show Below w.heap.size w V1 by rw [hV]; exact below_put6 BB.out zz _ _ _ _ _ _)
  replace TB := Lib.hid (TB0.out.below BB.out)
  unfold put6 at hV
  rw [l4, l5] at hV
  first | rw [← hV] | skip
  clear hV p0 p1 p2 p3 p4 p5 pf0 pf1 pf2 pf3 pf4 pf5 B0
  obtain ⟨_, p0, p1, p2, p3, p4, p5, _⟩ := B1.out
  have CA1 := Lib.hid (CA.out A1 V1 O1.out TB.out)
  rw [l4, l5] at CA1
  rw [l4] at p4
  rw [l5] at p5
  go_wp2_with fail
  refine CA1.out.mono ?_
  rintro e w3 ⟨rfl, hb⟩
  clear p0 p1 p2 p3 p4 p5 CA1
  replace BB := Lib.hid (BB.out.trans (hb.mono BB.out.size))
  replace B1 := Lib.hid (B1.out.below hb)
  replace O1 := Lib.hid (O1.out.below hb)
  clear hb
  go_upto_region 4 with (fail)
  obtain ⟨V2, hV⟩ : ∃ V, V = w3.alloc (.cells #[.int .i64 5, .int .i64 7] 33) := ⟨_, rfl⟩
  have hba : Below w3.heap.size w3 V2 := by rw [hV]; exact (Below.refl _ _).alloc (Nat.le_refl _) _
  have PX := Lib.hid (show PBox V2 w3.heap.size (5, 7) by rw [hV]; exact PBox.new w3 (5, 7) 33)
  first | rw [← hV] | skip
  replace O1 := Lib.hid (O1.out.below hba)
  replace B1 := Lib.hid (B1.out.below hba)
  replace BB := Lib.hid (BB.out.trans (hba.mono BB.out.size))
  clear hV hba
  obtain ⟨_, p0, p1, p2, p3, p4, p5, _⟩ := B1.out
  obtain ⟨bc, oc, hac, _, c0⟩ := O1.out.counts.cell (i := 0) (by omega)
  obtain ⟨bc', oc', hac', _, c1⟩ := O1.out.counts.cell (i := 1) (by omega)
  rw [hac] at hac'; injection hac' with hac'; injection hac' with e8 e9; subst e8 e9
  rw [e4.out] at c0 c1
  rw [hac, l4] at p4
  rw [l5] at p5
  have d0 := PX.out.c0
  have d1 := PX.out.c1
  try dsimp only at d0 d1
  simp only [List.getD_cons_zero, List.getD_cons_succ, Nat.add_zero] at c0 c1
  clear hac
  go_wp2
  go_ret
  exact ⟨rfl, BB.out⟩
end Go.Proofs.YtgngipkfbckhpaaDoor

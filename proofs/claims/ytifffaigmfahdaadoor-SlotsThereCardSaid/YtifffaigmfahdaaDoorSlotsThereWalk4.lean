/- The walk of the law SlotsThere: what is laid, or moved, is there; what is cleared is not; no other slot is turned; the ledger tells how many were laid. -/
import Derived.Test.YtifffaigmfahdaaDoorM21
namespace Go.Proofs.YtifffaigmfahdaaDoor.slotsThere
open Go.RowKit
set_option linter.unusedVariables false
set_option linter.unusedSimpArgs false

theorem none_of {s : Sl} {a : Int} {p : Int × Int} (h : s.layE a ≠ 0) : (s.layS a p).keys.length = 0 := by rw [layS_no h]; rfl
theorem none_of2 {s : Sl} {a b : Int} (h : s.moveE a b ≠ 0) : (s.moveS a b).keys.length = 0 := by rw [moveS_no h]; rfl
theorem wrap_laid (n m : Nat) (h : m = (n + 1) % 18446744073709551616) : IntKind.u64.wrap ((n : Int) + 1) = (m : Int) := by rw [IntKind.wrap_u64]; omega
def arr3 (z0 z1 z2 : Int) : Value := .agg #[.int .i64 z0, .int .i64 z1, .int .i64 z2]
def abox (z0 z1 z2 : Int) : Obj := .cells #[.int .i64 z0, .int .i64 z1, .int .i64 z2] 65
/-- A box of three numbers: block g. -/
structure ABox (w : World) (g : Nat) (z0 z1 z2 : Int) : Prop where
  lt : g < w.heap.size
  c0 : w.cell? ⟨g, 0, none⟩ = some (.int .i64 z0)
  c1 : w.cell? ⟨g, 1, none⟩ = some (.int .i64 z1)
  c2 : w.cell? ⟨g, 2, none⟩ = some (.int .i64 z2)
theorem ABox.below {w w' : World} {g : Nat} {z0 z1 z2 : Int} (h : ABox w g z0 z1 z2) (hb : Below w.heap.size w w') : ABox w' g z0 z1 z2 :=
  ⟨Nat.lt_of_lt_of_le h.lt hb.size, (hb.cell (p := ⟨g, 0, none⟩) h.lt).trans h.c0, (hb.cell (p := ⟨g, 1, none⟩) h.lt).trans h.c1, (hb.cell (p := ⟨g, 2, none⟩) h.lt).trans h.c2⟩
theorem ABox.of_block {w : World} {g : Nat} {z0 z1 z2 : Int} {t : TypeId} (h : w.heap[g]? = some (.cells #[.int .i64 z0, .int .i64 z1, .int .i64 z2] t (0, 0))) : ABox w g z0 z1 z2 := by
  have hlt : g < w.heap.size := (Array.getElem?_eq_some_iff.1 h).1
  refine ⟨hlt, ?_, ?_, ?_⟩
  all_goals simp [World.cell?, h]
theorem ABox.new (w : World) (z0 z1 z2 : Int) : ABox (w.alloc (abox z0 z1 z2)) w.heap.size z0 z1 z2 := ABox.of_block (t := 65) (by show (w.heap.push _)[w.heap.size]? = _; exact Array.getElem?_push_size)

set_option maxRecDepth 100000 in
set_option maxHeartbeats 16000000 in
theorem full (s : Sl) (a : Ads) (z0 z1 z2 x1 x2 : Int) (W0 : World) (h : Held W0 s a) (hok : s.Ok) (h1 : In64 x1) (h2 : In64 x2) (hT : Tab W0) (hs : s.Short) (hg : s.greatB 300 = false) :
    Calls Tryd.prog 7 #[slv s a, arr3 z0 z1 z2, pv (x1, x2)] W0 fun e w' => e = .returned (.bool true) ∧ Below W0.heap.size W0 w' := by
  have HG := Lib.hid hg
  have HOK := Lib.hid hok
  have HSh := Lib.hid hs
  have cLy := Lib.hid (fun A V (hv : Held V s A) tv => cLay s A z0 (x1, x2) V hv hok hs tv)
  have ok1 := Lib.hid (ok_lay hok hs z0 (p := (x1, x2)) h1 h2)
  have sh1 := Lib.hid (short_lay hs z0 (x1, x2))
  have ok2 := Lib.hid (ok_clear ok1.out sh1.out z0)
  have sh2 := Lib.hid (short_clear sh1.out z0)
  have ok3 := Lib.hid (ok_move ok1.out sh1.out z0 z1)
  have sh3 := Lib.hid (short_move sh1.out z0 z1)
  clear hok hs hg h1 h2
  by_cases hE : s.layE z0 = 0
  · have TH := Lib.hid (there z1 z2 (x1, x2) hE)
    have HB := Lib.hid (fun o o' o'' => (((Below.refl W0.heap.size W0).alloc (Nat.le_refl _) o).alloc (by simp) o').alloc (by simp; omega) o'')
    have BX := Lib.hid (fun o' o'' => ((Box.new W0 s a 27).below ((Below.refl _ _).alloc (Nat.le_refl _) o')).below ((Below.refl _ _).alloc (Nat.le_refl _) o''))
    have AX := Lib.hid (fun o'' => (ABox.new (W0.alloc (.cells (slCells s a) 27)) z0 z1 z2).below ((Below.refl _ _).alloc (Nat.le_refl _) o''))
    have PX := Lib.hid (PBox.new ((W0.alloc (.cells (slCells s a) 27)).alloc (abox z0 z1 z2)) (x1, x2) 33)
    unfold slCells abox at AX PX
    rw [World.size_alloc] at AX
    rw [World.size_alloc, World.size_alloc] at PX
    have HA0 := Lib.hid h
    have TB0 := Lib.hid hT
    have CA := Lib.hid (fun o o' o'' => lAlive (((W0.alloc o).alloc o').alloc o'') (hT.below (HB.out o o' o'')))
    have cCl := Lib.hid (fun A V (hv : Held V (s.layS z0 (x1, x2)) A) tv => cClear _ A z0 V hv ok1.out sh1.out tv)
    have cMv := Lib.hid (fun A V (hv : Held V (s.layS z0 (x1, x2)) A) tv => cMove _ A z0 z1 V hv ok1.out sh1.out tv)
    have cIs := Lib.hid (fun A V (hv : Held V (s.layS z0 (x1, x2)) A) tv => lIs _ A z0 (x1, x2) V hv ok1.out sh1.out tv)
    have cCk := Lib.hid (fun A V (hv : Held V (s.layS z0 (x1, x2)) A) tv => sCheck _ A V hv ok1.out sh1.out tv)
    have cAtS := Lib.hid (fun A V (hv : Held V s A) tv => sAt _ A z2 V hv HOK.out HSh.out tv)
    have cAtX := Lib.hid (fun A V (hv : Held V (s.layS z0 (x1, x2)) A) tv => sAt _ A z2 V hv ok1.out sh1.out tv)
    have cAtY := Lib.hid (fun A V (hv : Held V ((s.layS z0 (x1, x2)).clearS z0) A) tv => sAt _ A z2 V hv ok2.out sh2.out tv)
    have cAtYa := Lib.hid (fun A V (hv : Held V ((s.layS z0 (x1, x2)).clearS z0) A) tv => sAt _ A z0 V hv ok2.out sh2.out tv)
    have cCkY := Lib.hid (fun A V (hv : Held V ((s.layS z0 (x1, x2)).clearS z0) A) tv => sCheck _ A V hv ok2.out sh2.out tv)
    have cAtZa := Lib.hid (fun A V (hv : Held V ((s.layS z0 (x1, x2)).moveS z0 z1) A) tv => sAt _ A z0 V hv ok3.out sh3.out tv)
    have cAtZc := Lib.hid (fun A V (hv : Held V ((s.layS z0 (x1, x2)).moveS z0 z1) A) tv => sAt _ A z2 V hv ok3.out sh3.out tv)
    have cIsZ := Lib.hid (fun A V (hv : Held V ((s.layS z0 (x1, x2)).moveS z0 z1) A) tv => lIs _ A z1 (x1, x2) V hv ok3.out sh3.out tv)
    have cCkZ := Lib.hid (fun A V (hv : Held V ((s.layS z0 (x1, x2)).moveS z0 z1) A) tv => sCheck _ A V hv ok3.out sh3.out tv)
    have nz := Lib.hid (fun h => none_of2 (s := s.layS z0 (x1, x2)) (a := z0) (b := z1) h)
    unfold AtPost at cAtS cAtX cAtY cAtYa cAtZa cAtZc
    rw [hE] at cLy
    rw [show (s.layS z0 (x1, x2)).isB z0 (x1, x2) = true by unfold Sl.isB; rw [TH.out.laid.1, TH.out.laid.2]; simp] at cIs
    rw [TH.out.laid.1] at cCl
    rw [TH.out.chk1] at cCk
    rw [TH.out.gone] at cAtYa
    rw [TH.out.chk2] at cCkY
    have L1 := Lib.hid (wrap_laid s.laid _ TH.out.led1)
    have L2 := Lib.hid TH.out.led2
    have T1 := Lib.hid TH.out.stay1
    have T2 := Lib.hid TH.out.stay2
    have T3 := Lib.hid TH.out.moved
    clear TH ok1 ok2 ok3 sh1 sh2 sh3 hE
    obtain ⟨S3, hS3⟩ : ∃ S, S = (s.layS z0 (x1, x2)).moveS z0 z1 := ⟨_, rfl⟩
    rw [← hS3] at cMv cAtZa cAtZc cIsZ cCkZ T3 nz
    clear hS3
    obtain ⟨S2, hS2⟩ : ∃ S, S = (s.layS z0 (x1, x2)).clearS z0 := ⟨_, rfl⟩
    rw [← hS2] at cCl cAtY cAtYa cCkY T2 L2
    clear hS2
    obtain ⟨S1, hS1⟩ : ∃ S, S = s.layS z0 (x1, x2) := ⟨_, rfl⟩
    rw [← hS1] at cLy cCl cMv cIs cCk cAtX T1 L1 L2 T3 nz
    clear hS1
    obtain ⟨E3, hE3⟩ : ∃ E, E = S1.moveE z0 z1 := ⟨_, rfl⟩
    rw [← hE3] at cMv T3 nz
    clear hE3
    have k12 : ((S2.laid : Int) != (S1.laid : Int)) = false := by rw [L2.out]; simp
    have k11 : ((S1.laid : Int) != IntKind.u64.wrap ((s.laid : Int) + 1)) = false := by rw [L1.out]; simp
    unfold slv pv at cLy cIs cIsZ cAtS cAtX cAtY cAtYa cAtZa cAtZc
    unfold slv at cCl cMv cCk cCkY cCkZ
    obtain ⟨q1, hq1⟩ : ∃ q, q = (s.atV z2).1 := ⟨_, rfl⟩
    obtain ⟨q2, hq2⟩ : ∃ q, q = (s.atV z2).2 := ⟨_, rfl⟩
    obtain ⟨hc, hhc⟩ : ∃ q, q = s.atE z2 := ⟨_, rfl⟩
    have HQ1 := Lib.hid hq1
    have HQ2 := Lib.hid hq2
    have HQ3 := Lib.hid hhc
    clear hq1 hq2 hhc
    unfold slv arr3 pv
    go_enter Tryd.func7, Tryd.ntmps7
    go_wp2_with fail
    refine (CA.out _ _ _).mono ?_
    rintro e W ⟨rfl, hb⟩
    have BB := Lib.hid ((HB.out _ _ _).trans (hb.mono (HB.out _ _ _).size))
    have B0 := Lib.hid ((BX.out _ _).below hb)
    have A0 := Lib.hid ((AX.out _).below hb)
    have P0 := Lib.hid (PX.out.below hb)
    have HA := Lib.hid (HA0.out.below BB.out)
    have TB := Lib.hid (TB0.out.below BB.out)
    clear hb BX AX PX HB HA0 TB0 CA
    obtain ⟨_, p0, p1, p2, p3, p4, p5, _⟩ := B0.out
    go_wp2_with fail
    refine (r4Great s a 300 _).mono ?_
    rintro e W ⟨rfl, hb⟩
    clear p0 p1 p2 p3 p4 p5
    rw [HG.out]
    replace B0 := Lib.hid (B0.out.below hb)
    replace A0 := Lib.hid (A0.out.below hb)
    replace P0 := Lib.hid (P0.out.below hb)
    replace HA := Lib.hid (HA.out.below hb)
    replace TB := Lib.hid (TB.out.below hb)
    replace BB := Lib.hid (BB.out.trans (hb.mono BB.out.size))
    clear hb
    have t0 := A0.out.c0
    have t1 := A0.out.c1
    have t2 := A0.out.c2
    go_upto_region 4 with (fail)
    go_quiet (fail)
    obtain ⟨V, hV⟩ : ∃ V, V = W.drewN nq := ⟨_, rfl⟩
    have hba : Below W.heap.size W V := by rw [hV]; exact below_drewN (Below.refl _ _) _
    first | rw [← hV] | skip
    clear hV
    clear t0 t1 t2
    replace B0 := Lib.hid (B0.out.below hba)
    replace A0 := Lib.hid (A0.out.below hba)
    replace P0 := Lib.hid (P0.out.below hba)
    replace HA := Lib.hid (HA.out.below hba)
    replace TB := Lib.hid (TB.out.below hba)
    replace BB := Lib.hid (BB.out.trans (hba.mono BB.out.size))
    clear hba W
    go_upto_region 5 with (fail)
    obtain ⟨_, p0, p1, p2, p3, p4, p5, _⟩ := B0.out
    have d0 := P0.out.c0
    have d1 := P0.out.c1
    try dsimp only at d0 d1
    go_wp2_with fail
    refine (cLy.out a _ HA.out TB.out).mono ?_
    rintro e W ⟨A1, rfl, own, hb⟩
    clear p0 p1 p2 p3 p4 p5 d0 d1
    replace B0 := Lib.hid (B0.out.below hb)
    replace A0 := Lib.hid (A0.out.below hb)
    replace P0 := Lib.hid (P0.out.below hb)
    replace HA := Lib.hid (HA.out.below hb)
    replace TB := Lib.hid (TB.out.below hb)
    replace BB := Lib.hid (BB.out.trans (hb.mono BB.out.size))
    have O1 := Lib.hid own.held
    clear own hb
    unfold slv
    clear A0
    go_upto_region 6 with (fail)
    obtain ⟨V, hV⟩ : ∃ V, V = W.alloc (.cells #[.int .i64 S1.seg, .slice A1.w S1.words.length A1.cw, .slice A1.k S1.keys.length A1.ck, .slice A1.v S1.vals.length A1.cv, .slice A1.c S1.counts.length A1.cc, .int .u64 (S1.laid : Int)] 27) := ⟨_, rfl⟩
    have hba : Below W.heap.size W V := by rw [hV]; exact (Below.refl _ _).alloc (Nat.le_refl _) _
    have B1 := Lib.hid (show Box V W.heap.size S1 A1 by rw [hV]; exact Box.new W S1 A1 27)
    first | rw [← hV] | skip
    clear hV
    replace B0 := Lib.hid (B0.out.below hba)
    replace P0 := Lib.hid (P0.out.below hba)
    replace HA := Lib.hid (HA.out.below hba)
    replace TB := Lib.hid (TB.out.below hba)
    replace O1 := Lib.hid (O1.out.below hba)
    replace BB := Lib.hid (BB.out.trans (hba.mono BB.out.size))
    clear hba
    skip
    obtain ⟨g1, hg1⟩ : ∃ g, g = W.heap.size := ⟨_, rfl⟩
    rw [← hg1] at B1 ⊢
    clear hg1
    clear W
    obtain ⟨_, p0, p1, p2, p3, p4, p5, _⟩ := B1.out
    go_wp2_with fail
    refine (cCl.out A1 _ O1.out TB.out).mono ?_
    rintro e W ⟨A2, rfl, own, hb⟩
    clear p0 p1 p2 p3 p4 p5
    replace B0 := Lib.hid (B0.out.below hb)
    replace P0 := Lib.hid (P0.out.below hb)
    replace HA := Lib.hid (HA.out.below hb)
    replace TB := Lib.hid (TB.out.below hb)
    replace O1 := Lib.hid (O1.out.below hb)
    replace B1 := Lib.hid (B1.out.below hb)
    replace BB := Lib.hid (BB.out.trans (hb.mono BB.out.size))
    have O2 := Lib.hid own.held
    clear own hb
    unfold slv
    go_upto_region 9 with (fail)
    obtain ⟨V, hV⟩ : ∃ V, V = W.alloc (.cells #[.int .i64 S2.seg, .slice A2.w S2.words.length A2.cw, .slice A2.k S2.keys.length A2.ck, .slice A2.v S2.vals.length A2.cv, .slice A2.c S2.counts.length A2.cc, .int .u64 (S2.laid : Int)] 27) := ⟨_, rfl⟩
    have hba : Below W.heap.size W V := by rw [hV]; exact (Below.refl _ _).alloc (Nat.le_refl _) _
    have B2 := Lib.hid (show Box V W.heap.size S2 A2 by rw [hV]; exact Box.new W S2 A2 27)
    first | rw [← hV] | skip
    clear hV
    replace B0 := Lib.hid (B0.out.below hba)
    replace P0 := Lib.hid (P0.out.below hba)
    replace HA := Lib.hid (HA.out.below hba)
    replace TB := Lib.hid (TB.out.below hba)
    replace O1 := Lib.hid (O1.out.below hba)
    replace B1 := Lib.hid (B1.out.below hba)
    replace O2 := Lib.hid (O2.out.below hba)
    replace BB := Lib.hid (BB.out.trans (hba.mono BB.out.size))
    clear hba
    skip
    obtain ⟨g2, hg2⟩ : ∃ g, g = W.heap.size := ⟨_, rfl⟩
    rw [← hg2] at B2 ⊢
    clear hg2
    clear W
    obtain ⟨_, p0, p1, p2, p3, p4, p5, _⟩ := B2.out
    go_wp2_with fail
    refine (cAtYa.out A2 _ O2.out TB.out).mono ?_
    rintro e W ⟨rfl, hb⟩
    clear p0 p1 p2 p3 p4 p5
    replace B0 := Lib.hid (B0.out.below hb)
    replace P0 := Lib.hid (P0.out.below hb)
    replace HA := Lib.hid (HA.out.below hb)
    replace TB := Lib.hid (TB.out.below hb)
    replace O1 := Lib.hid (O1.out.below hb)
    replace B1 := Lib.hid (B1.out.below hb)
    replace O2 := Lib.hid (O2.out.below hb)
    replace B2 := Lib.hid (B2.out.below hb)
    replace BB := Lib.hid (BB.out.trans (hb.mono BB.out.size))
    clear hb
    go_upto_region 10 with (fail)
    obtain ⟨V, hV⟩ : ∃ V, V = W.alloc (.cells #[.int .i64 (S2.atV z0).1, .int .i64 (S2.atV z0).2] 33) := ⟨_, rfl⟩
    have hba : Below W.heap.size W V := by rw [hV]; exact (Below.refl _ _).alloc (Nat.le_refl _) _
    have P3 := Lib.hid (show PBox V W.heap.size ((S2.atV z0).1, (S2.atV z0).2) by rw [hV]; exact PBox.new W ((S2.atV z0).1, (S2.atV z0).2) 33)
    first | rw [← hV] | skip
    clear hV
    replace B0 := Lib.hid (B0.out.below hba)
    replace P0 := Lib.hid (P0.out.below hba)
    replace HA := Lib.hid (HA.out.below hba)
    replace TB := Lib.hid (TB.out.below hba)
    replace O1 := Lib.hid (O1.out.below hba)
    replace B1 := Lib.hid (B1.out.below hba)
    replace O2 := Lib.hid (O2.out.below hba)
    replace B2 := Lib.hid (B2.out.below hba)
    replace BB := Lib.hid (BB.out.trans (hba.mono BB.out.size))
    clear hba
    obtain ⟨g3, hg3⟩ : ∃ g, g = W.heap.size := ⟨_, rfl⟩
    rw [← hg3] at P3 ⊢
    clear hg3 P3
    clear W
    obtain ⟨_, p0, p1, p2, p3, p4, p5, _⟩ := B1.out
    have d0 := P0.out.c0
    have d1 := P0.out.c1
    try dsimp only at d0 d1
    go_wp2_with fail
    refine (cIs.out A1 _ O1.out TB.out).mono ?_
    rintro e W ⟨rfl, hb⟩
    clear p0 p1 p2 p3 p4 p5 d0 d1
    replace B0 := Lib.hid (B0.out.below hb)
    replace P0 := Lib.hid (P0.out.below hb)
    replace HA := Lib.hid (HA.out.below hb)
    replace TB := Lib.hid (TB.out.below hb)
    replace O1 := Lib.hid (O1.out.below hb)
    replace B1 := Lib.hid (B1.out.below hb)
    replace O2 := Lib.hid (O2.out.below hb)
    replace B2 := Lib.hid (B2.out.below hb)
    replace BB := Lib.hid (BB.out.trans (hb.mono BB.out.size))
    clear hb
    obtain ⟨_, p0, p1, p2, p3, p4, p5, _⟩ := B1.out
    obtain ⟨_, q0, q1, q2, q3, q4, q5, _⟩ := B2.out
    obtain ⟨_, r0, r1, r2, r3, r4, r5, _⟩ := B0.out
    go_wp2_with fail
    refine (cCk.out A1 _ O1.out TB.out).mono ?_
    rintro e W ⟨rfl, hb⟩
    clear p0 p1 p2 p3 p4 p5 q0 q1 q2 q3 q4 q5 r0 r1 r2 r3 r4 r5
    replace B0 := Lib.hid (B0.out.below hb)
    replace P0 := Lib.hid (P0.out.below hb)
    replace HA := Lib.hid (HA.out.below hb)
    replace TB := Lib.hid (TB.out.below hb)
    replace O1 := Lib.hid (O1.out.below hb)
    replace B1 := Lib.hid (B1.out.below hb)
    replace O2 := Lib.hid (O2.out.below hb)
    replace B2 := Lib.hid (B2.out.below hb)
    replace BB := Lib.hid (BB.out.trans (hb.mono BB.out.size))
    clear hb
    obtain ⟨_, q0, q1, q2, q3, q4, q5, _⟩ := B2.out
    go_wp2_with fail
    refine (cCkY.out A2 _ O2.out TB.out).mono ?_
    rintro e W ⟨rfl, hb⟩
    clear q0 q1 q2 q3 q4 q5
    replace B0 := Lib.hid (B0.out.below hb)
    replace P0 := Lib.hid (P0.out.below hb)
    replace HA := Lib.hid (HA.out.below hb)
    replace TB := Lib.hid (TB.out.below hb)
    replace O1 := Lib.hid (O1.out.below hb)
    replace B1 := Lib.hid (B1.out.below hb)
    replace O2 := Lib.hid (O2.out.below hb)
    replace B2 := Lib.hid (B2.out.below hb)
    replace BB := Lib.hid (BB.out.trans (hb.mono BB.out.size))
    clear hb
    go_upto_region 12 with (fail)
    obtain ⟨_, p0, p1, p2, p3, p4, p5, _⟩ := B0.out
    go_wp2_with fail
    refine (cAtS.out a _ HA.out TB.out).mono ?_
    rintro e W ⟨rfl, hb⟩
    clear p0 p1 p2 p3 p4 p5
    replace B0 := Lib.hid (B0.out.below hb)
    replace P0 := Lib.hid (P0.out.below hb)
    replace HA := Lib.hid (HA.out.below hb)
    replace TB := Lib.hid (TB.out.below hb)
    replace O1 := Lib.hid (O1.out.below hb)
    replace B1 := Lib.hid (B1.out.below hb)
    replace O2 := Lib.hid (O2.out.below hb)
    replace B2 := Lib.hid (B2.out.below hb)
    replace BB := Lib.hid (BB.out.trans (hb.mono BB.out.size))
    clear hb
    go_upto_region 13 with (fail)
    obtain ⟨V, hV⟩ : ∃ V, V = W.alloc (.cells #[.int .i64 (s.atV z2).1, .int .i64 (s.atV z2).2] 33) := ⟨_, rfl⟩
    have hba : Below W.heap.size W V := by rw [hV]; exact (Below.refl _ _).alloc (Nat.le_refl _) _
    have P4 := Lib.hid (show PBox V W.heap.size ((s.atV z2).1, (s.atV z2).2) by rw [hV]; exact PBox.new W ((s.atV z2).1, (s.atV z2).2) 33)
    first | rw [← hV] | skip
    clear hV
    replace B0 := Lib.hid (B0.out.below hba)
    replace P0 := Lib.hid (P0.out.below hba)
    replace HA := Lib.hid (HA.out.below hba)
    replace TB := Lib.hid (TB.out.below hba)
    replace O1 := Lib.hid (O1.out.below hba)
    replace B1 := Lib.hid (B1.out.below hba)
    replace O2 := Lib.hid (O2.out.below hba)
    replace B2 := Lib.hid (B2.out.below hba)
    replace BB := Lib.hid (BB.out.trans (hba.mono BB.out.size))
    clear hba
    skip
    obtain ⟨g4, hg4⟩ : ∃ g, g = W.heap.size := ⟨_, rfl⟩
    rw [← hg4] at P4 ⊢
    clear hg4
    clear W
    rw [← HQ1.out, ← HQ2.out] at P4
    rw [← HQ1.out, ← HQ2.out, ← HQ3.out]
    by_cases hca : z2 = z0
    · skip
      have HCA := Lib.hid hca.symm
      have kc : (z2 != z0) = false := by simp [hca]
      clear hca
      go_upto_region 18 with (fail)
      obtain ⟨_, p0, p1, p2, p3, p4, p5, _⟩ := B1.out
      go_wp2_with fail
      refine (cMv.out A1 _ O1.out TB.out).mono ?_
      rintro e W ⟨A3, rfl, own, hb⟩
      clear p0 p1 p2 p3 p4 p5
      replace B0 := Lib.hid (B0.out.below hb)
      replace P0 := Lib.hid (P0.out.below hb)
      replace HA := Lib.hid (HA.out.below hb)
      replace TB := Lib.hid (TB.out.below hb)
      replace O1 := Lib.hid (O1.out.below hb)
      replace B1 := Lib.hid (B1.out.below hb)
      replace O2 := Lib.hid (O2.out.below hb)
      replace B2 := Lib.hid (B2.out.below hb)
      replace P4 := Lib.hid (P4.out.below hb)
      replace BB := Lib.hid (BB.out.trans (hb.mono BB.out.size))
      have O3 := Lib.hid own.held
      clear own hb
      unfold slv
      go_upto_region 19 with (fail)
      obtain ⟨V, hV⟩ : ∃ V, V = W.alloc (.cells #[.int .i64 S3.seg, .slice A3.w S3.words.length A3.cw, .slice A3.k S3.keys.length A3.ck, .slice A3.v S3.vals.length A3.cv, .slice A3.c S3.counts.length A3.cc, .int .u64 (S3.laid : Int)] 27) := ⟨_, rfl⟩
      have hba : Below W.heap.size W V := by rw [hV]; exact (Below.refl _ _).alloc (Nat.le_refl _) _
      have B5 := Lib.hid (show Box V W.heap.size S3 A3 by rw [hV]; exact Box.new W S3 A3 27)
      first | rw [← hV] | skip
      clear hV
      replace B0 := Lib.hid (B0.out.below hba)
      replace P0 := Lib.hid (P0.out.below hba)
      replace HA := Lib.hid (HA.out.below hba)
      replace TB := Lib.hid (TB.out.below hba)
      replace O1 := Lib.hid (O1.out.below hba)
      replace B1 := Lib.hid (B1.out.below hba)
      replace O2 := Lib.hid (O2.out.below hba)
      replace B2 := Lib.hid (B2.out.below hba)
      replace P4 := Lib.hid (P4.out.below hba)
      replace O3 := Lib.hid (O3.out.below hba)
      replace BB := Lib.hid (BB.out.trans (hba.mono BB.out.size))
      clear hba
      skip
      obtain ⟨g5, hg5⟩ : ∃ g, g = W.heap.size := ⟨_, rfl⟩
      rw [← hg5] at B5 ⊢
      clear hg5
      clear W
      by_cases h3 : E3 = 0
      · obtain ⟨m1, m2, m3, m4, m5, m6⟩ := T3.out h3
        have L3 := Lib.hid (wrap_laid S1.laid _ m4)
        have k3 : ((S3.laid : Int) == IntKind.u64.wrap ((S1.laid : Int) + 1)) = true := by rw [L3.out]; simp
        rw [m3] at cCkZ
        rw [show S3.isB z1 (x1, x2) = true by unfold Sl.isB; rw [m1, m2]; simp] at cIsZ
        have M5 := Lib.hid m5
        have M6 := Lib.hid m6
        have H3 := Lib.hid h3
        rw [h3]
        clear m1 m2 m3 m4 m5 m6 h3 T3 nz
        obtain ⟨_, p0, p1, p2, p3, p4, p5, _⟩ := B5.out
        go_wp2_with fail
        refine (cAtZa.out A3 _ O3.out TB.out).mono ?_
        rintro e W ⟨rfl, hb⟩
        clear p0 p1 p2 p3 p4 p5
        replace B0 := Lib.hid (B0.out.below hb)
        replace P0 := Lib.hid (P0.out.below hb)
        replace HA := Lib.hid (HA.out.below hb)
        replace TB := Lib.hid (TB.out.below hb)
        replace O1 := Lib.hid (O1.out.below hb)
        replace B1 := Lib.hid (B1.out.below hb)
        replace O2 := Lib.hid (O2.out.below hb)
        replace B2 := Lib.hid (B2.out.below hb)
        replace P4 := Lib.hid (P4.out.below hb)
        replace O3 := Lib.hid (O3.out.below hb)
        replace B5 := Lib.hid (B5.out.below hb)
        replace BB := Lib.hid (BB.out.trans (hb.mono BB.out.size))
        clear hb
        go_upto_region 22 with (fail)
        obtain ⟨V, hV⟩ : ∃ V, V = W.alloc (.cells #[.int .i64 (S3.atV z0).1, .int .i64 (S3.atV z0).2] 33) := ⟨_, rfl⟩
        have hba : Below W.heap.size W V := by rw [hV]; exact (Below.refl _ _).alloc (Nat.le_refl _) _
        have P6 := Lib.hid (show PBox V W.heap.size ((S3.atV z0).1, (S3.atV z0).2) by rw [hV]; exact PBox.new W ((S3.atV z0).1, (S3.atV z0).2) 33)
        first | rw [← hV] | skip
        clear hV
        replace B0 := Lib.hid (B0.out.below hba)
        replace P0 := Lib.hid (P0.out.below hba)
        replace HA := Lib.hid (HA.out.below hba)
        replace TB := Lib.hid (TB.out.below hba)
        replace O1 := Lib.hid (O1.out.below hba)
        replace B1 := Lib.hid (B1.out.below hba)
        replace O2 := Lib.hid (O2.out.below hba)
        replace B2 := Lib.hid (B2.out.below hba)
        replace P4 := Lib.hid (P4.out.below hba)
        replace O3 := Lib.hid (O3.out.below hba)
        replace B5 := Lib.hid (B5.out.below hba)
        replace BB := Lib.hid (BB.out.trans (hba.mono BB.out.size))
        clear hba
        obtain ⟨g6, hg6⟩ : ∃ g, g = W.heap.size := ⟨_, rfl⟩
        rw [← hg6] at P6 ⊢
        clear hg6 P6
        clear W
        obtain ⟨_, p0, p1, p2, p3, p4, p5, _⟩ := B5.out
        go_wp2_with fail
        refine (cAtZc.out A3 _ O3.out TB.out).mono ?_
        rintro e W ⟨rfl, hb⟩
        clear p0 p1 p2 p3 p4 p5
        replace B0 := Lib.hid (B0.out.below hb)
        replace P0 := Lib.hid (P0.out.below hb)
        replace HA := Lib.hid (HA.out.below hb)
        replace TB := Lib.hid (TB.out.below hb)
        replace O1 := Lib.hid (O1.out.below hb)
        replace B1 := Lib.hid (B1.out.below hb)
        replace O2 := Lib.hid (O2.out.below hb)
        replace B2 := Lib.hid (B2.out.below hb)
        replace P4 := Lib.hid (P4.out.below hb)
        replace O3 := Lib.hid (O3.out.below hb)
        replace B5 := Lib.hid (B5.out.below hb)
        replace BB := Lib.hid (BB.out.trans (hb.mono BB.out.size))
        clear hb
        go_upto_region 23 with (fail)
        obtain ⟨V, hV⟩ : ∃ V, V = W.alloc (.cells #[.int .i64 (S3.atV z2).1, .int .i64 (S3.atV z2).2] 33) := ⟨_, rfl⟩
        have hba : Below W.heap.size W V := by rw [hV]; exact (Below.refl _ _).alloc (Nat.le_refl _) _
        have P7 := Lib.hid (show PBox V W.heap.size ((S3.atV z2).1, (S3.atV z2).2) by rw [hV]; exact PBox.new W ((S3.atV z2).1, (S3.atV z2).2) 33)
        first | rw [← hV] | skip
        clear hV
        replace B0 := Lib.hid (B0.out.below hba)
        replace P0 := Lib.hid (P0.out.below hba)
        replace HA := Lib.hid (HA.out.below hba)
        replace TB := Lib.hid (TB.out.below hba)
        replace O1 := Lib.hid (O1.out.below hba)
        replace B1 := Lib.hid (B1.out.below hba)
        replace O2 := Lib.hid (O2.out.below hba)
        replace B2 := Lib.hid (B2.out.below hba)
        replace P4 := Lib.hid (P4.out.below hba)
        replace O3 := Lib.hid (O3.out.below hba)
        replace B5 := Lib.hid (B5.out.below hba)
        replace BB := Lib.hid (BB.out.trans (hba.mono BB.out.size))
        clear hba
        obtain ⟨g7, hg7⟩ : ∃ g, g = W.heap.size := ⟨_, rfl⟩
        rw [← hg7] at P7 ⊢
        clear hg7
        clear W
        obtain ⟨_, p0, p1, p2, p3, p4, p5, _⟩ := B5.out
        have d0 := P0.out.c0
        have d1 := P0.out.c1
        try dsimp only at d0 d1
        go_wp2_with fail
        refine (cIsZ.out A3 _ O3.out TB.out).mono ?_
        rintro e W ⟨rfl, hb⟩
        clear p0 p1 p2 p3 p4 p5 d0 d1
        replace B0 := Lib.hid (B0.out.below hb)
        replace P0 := Lib.hid (P0.out.below hb)
        replace HA := Lib.hid (HA.out.below hb)
        replace TB := Lib.hid (TB.out.below hb)
        replace O1 := Lib.hid (O1.out.below hb)
        replace B1 := Lib.hid (B1.out.below hb)
        replace O2 := Lib.hid (O2.out.below hb)
        replace B2 := Lib.hid (B2.out.below hb)
        replace P4 := Lib.hid (P4.out.below hb)
        replace O3 := Lib.hid (O3.out.below hb)
        replace B5 := Lib.hid (B5.out.below hb)
        replace P7 := Lib.hid (P7.out.below hb)
        replace BB := Lib.hid (BB.out.trans (hb.mono BB.out.size))
        clear hb
        obtain ⟨_, p0, p1, p2, p3, p4, p5, _⟩ := B5.out
        obtain ⟨_, q0, q1, q2, q3, q4, q5, _⟩ := B1.out
        have d0 := P4.out.c0
        have d1 := P4.out.c1
        try dsimp only at d0 d1
        have f0 := P7.out.c0
        have f1 := P7.out.c1
        try dsimp only at f0 f1
        by_cases hab : z0 = z1
        · skip
          have kab : (z0 == z1) = true := by simp [hab]
          have kca : (z2 == z0) = true := by rw [← HCA.out]; simp
          clear hab
          go_wp2_with fail
          refine (cCkZ.out A3 _ O3.out TB.out).mono ?_
          rintro e W ⟨rfl, hb⟩
          clear p0 p1 p2 p3 p4 p5 q0 q1 q2 q3 q4 q5 d0 d1 f0 f1
          replace B0 := Lib.hid (B0.out.below hb)
          replace P0 := Lib.hid (P0.out.below hb)
          replace HA := Lib.hid (HA.out.below hb)
          replace TB := Lib.hid (TB.out.below hb)
          replace O1 := Lib.hid (O1.out.below hb)
          replace B1 := Lib.hid (B1.out.below hb)
          replace O2 := Lib.hid (O2.out.below hb)
          replace B2 := Lib.hid (B2.out.below hb)
          replace P4 := Lib.hid (P4.out.below hb)
          replace O3 := Lib.hid (O3.out.below hb)
          replace B5 := Lib.hid (B5.out.below hb)
          replace P7 := Lib.hid (P7.out.below hb)
          replace BB := Lib.hid (BB.out.trans (hb.mono BB.out.size))
          go_wp2
          go_ret
          exact ⟨rfl, BB.out⟩
        · skip
          have kab : (z0 == z1) = false := by simp [hab]
          have km := M5.out hab
          have kca : (z2 == z0) = true := by rw [← HCA.out]; simp
          rw [km]
          clear km hab
          go_wp2_with fail
          refine (cCkZ.out A3 _ O3.out TB.out).mono ?_
          rintro e W ⟨rfl, hb⟩
          clear p0 p1 p2 p3 p4 p5 q0 q1 q2 q3 q4 q5 d0 d1 f0 f1
          replace B0 := Lib.hid (B0.out.below hb)
          replace P0 := Lib.hid (P0.out.below hb)
          replace HA := Lib.hid (HA.out.below hb)
          replace TB := Lib.hid (TB.out.below hb)
          replace O1 := Lib.hid (O1.out.below hb)
          replace B1 := Lib.hid (B1.out.below hb)
          replace O2 := Lib.hid (O2.out.below hb)
          replace B2 := Lib.hid (B2.out.below hb)
          replace P4 := Lib.hid (P4.out.below hb)
          replace O3 := Lib.hid (O3.out.below hb)
          replace B5 := Lib.hid (B5.out.below hb)
          replace P7 := Lib.hid (P7.out.below hb)
          replace BB := Lib.hid (BB.out.trans (hb.mono BB.out.size))
          go_wp2
          go_ret
          exact ⟨rfl, BB.out⟩
      · have k3 : (E3 != 0) = true := by simp [h3]
        have k4 : S3.keys.length = 0 := nz.out h3
        clear h3
        obtain ⟨_, p0, p1, p2, p3, p4, p5, _⟩ := B5.out
        go_wp2
        go_ret
        exact ⟨rfl, BB.out⟩
    · skip
      have HCA := Lib.hid hca
      have kc : (z2 != z0) = true := by simp [hca]
      rw [(T1.out hca).1, (T1.out hca).2, ← HQ1.out, ← HQ2.out, ← HQ3.out] at cAtX
      rw [(T2.out hca).1, (T2.out hca).2, ← HQ1.out, ← HQ2.out, ← HQ3.out] at cAtY
      clear hca
      go_upto_region 14 with (fail)
      obtain ⟨_, p0, p1, p2, p3, p4, p5, _⟩ := B1.out
      go_wp2_with fail
      refine (cAtX.out A1 _ O1.out TB.out).mono ?_
      rintro e W ⟨rfl, hb⟩
      clear p0 p1 p2 p3 p4 p5
      replace B0 := Lib.hid (B0.out.below hb)
      replace P0 := Lib.hid (P0.out.below hb)
      replace HA := Lib.hid (HA.out.below hb)
      replace TB := Lib.hid (TB.out.below hb)
      replace O1 := Lib.hid (O1.out.below hb)
      replace B1 := Lib.hid (B1.out.below hb)
      replace O2 := Lib.hid (O2.out.below hb)
      replace B2 := Lib.hid (B2.out.below hb)
      replace P4 := Lib.hid (P4.out.below hb)
      replace BB := Lib.hid (BB.out.trans (hb.mono BB.out.size))
      clear hb
      go_upto_region 15 with (fail)
      obtain ⟨V, hV⟩ : ∃ V, V = W.alloc (.cells #[.int .i64 q1, .int .i64 q2] 33) := ⟨_, rfl⟩
      have hba : Below W.heap.size W V := by rw [hV]; exact (Below.refl _ _).alloc (Nat.le_refl _) _
      have P8 := Lib.hid (show PBox V W.heap.size (q1, q2) by rw [hV]; exact PBox.new W (q1, q2) 33)
      first | rw [← hV] | skip
      clear hV
      replace B0 := Lib.hid (B0.out.below hba)
      replace P0 := Lib.hid (P0.out.below hba)
      replace HA := Lib.hid (HA.out.below hba)
      replace TB := Lib.hid (TB.out.below hba)
      replace O1 := Lib.hid (O1.out.below hba)
      replace B1 := Lib.hid (B1.out.below hba)
      replace O2 := Lib.hid (O2.out.below hba)
      replace B2 := Lib.hid (B2.out.below hba)
      replace P4 := Lib.hid (P4.out.below hba)
      replace BB := Lib.hid (BB.out.trans (hba.mono BB.out.size))
      clear hba
      obtain ⟨g8, hg8⟩ : ∃ g, g = W.heap.size := ⟨_, rfl⟩
      rw [← hg8] at P8 ⊢
      clear hg8
      clear W
      obtain ⟨_, p0, p1, p2, p3, p4, p5, _⟩ := B2.out
      go_wp2_with fail
      refine (cAtY.out A2 _ O2.out TB.out).mono ?_
      rintro e W ⟨rfl, hb⟩
      clear p0 p1 p2 p3 p4 p5
      replace B0 := Lib.hid (B0.out.below hb)
      replace P0 := Lib.hid (P0.out.below hb)
      replace HA := Lib.hid (HA.out.below hb)
      replace TB := Lib.hid (TB.out.below hb)
      replace O1 := Lib.hid (O1.out.below hb)
      replace B1 := Lib.hid (B1.out.below hb)
      replace O2 := Lib.hid (O2.out.below hb)
      replace B2 := Lib.hid (B2.out.below hb)
      replace P4 := Lib.hid (P4.out.below hb)
      replace P8 := Lib.hid (P8.out.below hb)
      replace BB := Lib.hid (BB.out.trans (hb.mono BB.out.size))
      clear hb
      go_upto_region 16 with (fail)
      obtain ⟨V, hV⟩ : ∃ V, V = W.alloc (.cells #[.int .i64 q1, .int .i64 q2] 33) := ⟨_, rfl⟩
      have hba : Below W.heap.size W V := by rw [hV]; exact (Below.refl _ _).alloc (Nat.le_refl _) _
      have P9 := Lib.hid (show PBox V W.heap.size (q1, q2) by rw [hV]; exact PBox.new W (q1, q2) 33)
      first | rw [← hV] | skip
      clear hV
      replace B0 := Lib.hid (B0.out.below hba)
      replace P0 := Lib.hid (P0.out.below hba)
      replace HA := Lib.hid (HA.out.below hba)
      replace TB := Lib.hid (TB.out.below hba)
      replace O1 := Lib.hid (O1.out.below hba)
      replace B1 := Lib.hid (B1.out.below hba)
      replace O2 := Lib.hid (O2.out.below hba)
      replace B2 := Lib.hid (B2.out.below hba)
      replace P4 := Lib.hid (P4.out.below hba)
      replace P8 := Lib.hid (P8.out.below hba)
      replace BB := Lib.hid (BB.out.trans (hba.mono BB.out.size))
      clear hba
      obtain ⟨g9, hg9⟩ : ∃ g, g = W.heap.size := ⟨_, rfl⟩
      rw [← hg9] at P9 ⊢
      clear hg9
      clear W
      have d0 := P4.out.c0
      have d1 := P4.out.c1
      try dsimp only at d0 d1
      have f0 := P8.out.c0
      have f1 := P8.out.c1
      try dsimp only at f0 f1
      have r0 := P9.out.c0
      have r1 := P9.out.c1
      try dsimp only at r0 r1
      go_upto_region 18 with (fail)
      clear d0 d1 f0 f1 r0 r1
      clear P8 P9
      go_upto_region 18 with (fail)
      obtain ⟨_, p0, p1, p2, p3, p4, p5, _⟩ := B1.out
      go_wp2_with fail
      refine (cMv.out A1 _ O1.out TB.out).mono ?_
      rintro e W ⟨A3, rfl, own, hb⟩
      clear p0 p1 p2 p3 p4 p5
      replace B0 := Lib.hid (B0.out.below hb)
      replace P0 := Lib.hid (P0.out.below hb)
      replace HA := Lib.hid (HA.out.below hb)
      replace TB := Lib.hid (TB.out.below hb)
      replace O1 := Lib.hid (O1.out.below hb)
      replace B1 := Lib.hid (B1.out.below hb)
      replace O2 := Lib.hid (O2.out.below hb)
      replace B2 := Lib.hid (B2.out.below hb)
      replace P4 := Lib.hid (P4.out.below hb)
      replace BB := Lib.hid (BB.out.trans (hb.mono BB.out.size))
      have O3 := Lib.hid own.held
      clear own hb
      unfold slv
      go_upto_region 19 with (fail)
      obtain ⟨V, hV⟩ : ∃ V, V = W.alloc (.cells #[.int .i64 S3.seg, .slice A3.w S3.words.length A3.cw, .slice A3.k S3.keys.length A3.ck, .slice A3.v S3.vals.length A3.cv, .slice A3.c S3.counts.length A3.cc, .int .u64 (S3.laid : Int)] 27) := ⟨_, rfl⟩
      have hba : Below W.heap.size W V := by rw [hV]; exact (Below.refl _ _).alloc (Nat.le_refl _) _
      have B5 := Lib.hid (show Box V W.heap.size S3 A3 by rw [hV]; exact Box.new W S3 A3 27)
      first | rw [← hV] | skip
      clear hV
      replace B0 := Lib.hid (B0.out.below hba)
      replace P0 := Lib.hid (P0.out.below hba)
      replace HA := Lib.hid (HA.out.below hba)
      replace TB := Lib.hid (TB.out.below hba)
      replace O1 := Lib.hid (O1.out.below hba)
      replace B1 := Lib.hid (B1.out.below hba)
      replace O2 := Lib.hid (O2.out.below hba)
      replace B2 := Lib.hid (B2.out.below hba)
      replace P4 := Lib.hid (P4.out.below hba)
      replace O3 := Lib.hid (O3.out.below hba)
      replace BB := Lib.hid (BB.out.trans (hba.mono BB.out.size))
      clear hba
      skip
      obtain ⟨g5, hg5⟩ : ∃ g, g = W.heap.size := ⟨_, rfl⟩
      rw [← hg5] at B5 ⊢
      clear hg5
      clear W
      by_cases h3 : E3 = 0
      · obtain ⟨m1, m2, m3, m4, m5, m6⟩ := T3.out h3
        have L3 := Lib.hid (wrap_laid S1.laid _ m4)
        have k3 : ((S3.laid : Int) == IntKind.u64.wrap ((S1.laid : Int) + 1)) = true := by rw [L3.out]; simp
        rw [m3] at cCkZ
        rw [show S3.isB z1 (x1, x2) = true by unfold Sl.isB; rw [m1, m2]; simp] at cIsZ
        have M5 := Lib.hid m5
        have M6 := Lib.hid m6
        have H3 := Lib.hid h3
        rw [h3]
        clear m1 m2 m3 m4 m5 m6 h3 T3 nz
        obtain ⟨_, p0, p1, p2, p3, p4, p5, _⟩ := B5.out
        go_wp2_with fail
        refine (cAtZa.out A3 _ O3.out TB.out).mono ?_
        rintro e W ⟨rfl, hb⟩
        clear p0 p1 p2 p3 p4 p5
        replace B0 := Lib.hid (B0.out.below hb)
        replace P0 := Lib.hid (P0.out.below hb)
        replace HA := Lib.hid (HA.out.below hb)
        replace TB := Lib.hid (TB.out.below hb)
        replace O1 := Lib.hid (O1.out.below hb)
        replace B1 := Lib.hid (B1.out.below hb)
        replace O2 := Lib.hid (O2.out.below hb)
        replace B2 := Lib.hid (B2.out.below hb)
        replace P4 := Lib.hid (P4.out.below hb)
        replace O3 := Lib.hid (O3.out.below hb)
        replace B5 := Lib.hid (B5.out.below hb)
        replace BB := Lib.hid (BB.out.trans (hb.mono BB.out.size))
        clear hb
        go_upto_region 22 with (fail)
        obtain ⟨V, hV⟩ : ∃ V, V = W.alloc (.cells #[.int .i64 (S3.atV z0).1, .int .i64 (S3.atV z0).2] 33) := ⟨_, rfl⟩
        have hba : Below W.heap.size W V := by rw [hV]; exact (Below.refl _ _).alloc (Nat.le_refl _) _
        have P6 := Lib.hid (show PBox V W.heap.size ((S3.atV z0).1, (S3.atV z0).2) by rw [hV]; exact PBox.new W ((S3.atV z0).1, (S3.atV z0).2) 33)
        first | rw [← hV] | skip
        clear hV
        replace B0 := Lib.hid (B0.out.below hba)
        replace P0 := Lib.hid (P0.out.below hba)
        replace HA := Lib.hid (HA.out.below hba)
        replace TB := Lib.hid (TB.out.below hba)
        replace O1 := Lib.hid (O1.out.below hba)
        replace B1 := Lib.hid (B1.out.below hba)
        replace O2 := Lib.hid (O2.out.below hba)
        replace B2 := Lib.hid (B2.out.below hba)
        replace P4 := Lib.hid (P4.out.below hba)
        replace O3 := Lib.hid (O3.out.below hba)
        replace B5 := Lib.hid (B5.out.below hba)
        replace BB := Lib.hid (BB.out.trans (hba.mono BB.out.size))
        clear hba
        obtain ⟨g6, hg6⟩ : ∃ g, g = W.heap.size := ⟨_, rfl⟩
        rw [← hg6] at P6 ⊢
        clear hg6 P6
        clear W
        obtain ⟨_, p0, p1, p2, p3, p4, p5, _⟩ := B5.out
        go_wp2_with fail
        refine (cAtZc.out A3 _ O3.out TB.out).mono ?_
        rintro e W ⟨rfl, hb⟩
        clear p0 p1 p2 p3 p4 p5
        replace B0 := Lib.hid (B0.out.below hb)
        replace P0 := Lib.hid (P0.out.below hb)
        replace HA := Lib.hid (HA.out.below hb)
        replace TB := Lib.hid (TB.out.below hb)
        replace O1 := Lib.hid (O1.out.below hb)
        replace B1 := Lib.hid (B1.out.below hb)
        replace O2 := Lib.hid (O2.out.below hb)
        replace B2 := Lib.hid (B2.out.below hb)
        replace P4 := Lib.hid (P4.out.below hb)
        replace O3 := Lib.hid (O3.out.below hb)
        replace B5 := Lib.hid (B5.out.below hb)
        replace BB := Lib.hid (BB.out.trans (hb.mono BB.out.size))
        clear hb
        go_upto_region 23 with (fail)
        obtain ⟨V, hV⟩ : ∃ V, V = W.alloc (.cells #[.int .i64 (S3.atV z2).1, .int .i64 (S3.atV z2).2] 33) := ⟨_, rfl⟩
        have hba : Below W.heap.size W V := by rw [hV]; exact (Below.refl _ _).alloc (Nat.le_refl _) _
        have P7 := Lib.hid (show PBox V W.heap.size ((S3.atV z2).1, (S3.atV z2).2) by rw [hV]; exact PBox.new W ((S3.atV z2).1, (S3.atV z2).2) 33)
        first | rw [← hV] | skip
        clear hV
        replace B0 := Lib.hid (B0.out.below hba)
        replace P0 := Lib.hid (P0.out.below hba)
        replace HA := Lib.hid (HA.out.below hba)
        replace TB := Lib.hid (TB.out.below hba)
        replace O1 := Lib.hid (O1.out.below hba)
        replace B1 := Lib.hid (B1.out.below hba)
        replace O2 := Lib.hid (O2.out.below hba)
        replace B2 := Lib.hid (B2.out.below hba)
        replace P4 := Lib.hid (P4.out.below hba)
        replace O3 := Lib.hid (O3.out.below hba)
        replace B5 := Lib.hid (B5.out.below hba)
        replace BB := Lib.hid (BB.out.trans (hba.mono BB.out.size))
        clear hba
        obtain ⟨g7, hg7⟩ : ∃ g, g = W.heap.size := ⟨_, rfl⟩
        rw [← hg7] at P7 ⊢
        clear hg7
        clear W
        obtain ⟨_, p0, p1, p2, p3, p4, p5, _⟩ := B5.out
        have d0 := P0.out.c0
        have d1 := P0.out.c1
        try dsimp only at d0 d1
        go_wp2_with fail
        refine (cIsZ.out A3 _ O3.out TB.out).mono ?_
        rintro e W ⟨rfl, hb⟩
        clear p0 p1 p2 p3 p4 p5 d0 d1
        replace B0 := Lib.hid (B0.out.below hb)
        replace P0 := Lib.hid (P0.out.below hb)
        replace HA := Lib.hid (HA.out.below hb)
        replace TB := Lib.hid (TB.out.below hb)
        replace O1 := Lib.hid (O1.out.below hb)
        replace B1 := Lib.hid (B1.out.below hb)
        replace O2 := Lib.hid (O2.out.below hb)
        replace B2 := Lib.hid (B2.out.below hb)
        replace P4 := Lib.hid (P4.out.below hb)
        replace O3 := Lib.hid (O3.out.below hb)
        replace B5 := Lib.hid (B5.out.below hb)
        replace P7 := Lib.hid (P7.out.below hb)
        replace BB := Lib.hid (BB.out.trans (hb.mono BB.out.size))
        clear hb
        obtain ⟨_, p0, p1, p2, p3, p4, p5, _⟩ := B5.out
        obtain ⟨_, q0, q1, q2, q3, q4, q5, _⟩ := B1.out
        have d0 := P4.out.c0
        have d1 := P4.out.c1
        try dsimp only at d0 d1
        have f0 := P7.out.c0
        have f1 := P7.out.c1
        try dsimp only at f0 f1
        by_cases hab : z0 = z1
        · skip
          have kab : (z0 == z1) = true := by simp [hab]
          have kca : (z2 == z0) = false := by simpa using HCA.out
          clear hab
          by_cases hcb : z2 = z1
          · skip
            have kcb : (z2 == z1) = true := by simp [hcb]
            clear hcb
            go_wp2_with fail
            refine (cCkZ.out A3 _ O3.out TB.out).mono ?_
            rintro e W ⟨rfl, hb⟩
            clear p0 p1 p2 p3 p4 p5 q0 q1 q2 q3 q4 q5 d0 d1 f0 f1
            replace B0 := Lib.hid (B0.out.below hb)
            replace P0 := Lib.hid (P0.out.below hb)
            replace HA := Lib.hid (HA.out.below hb)
            replace TB := Lib.hid (TB.out.below hb)
            replace O1 := Lib.hid (O1.out.below hb)
            replace B1 := Lib.hid (B1.out.below hb)
            replace O2 := Lib.hid (O2.out.below hb)
            replace B2 := Lib.hid (B2.out.below hb)
            replace P4 := Lib.hid (P4.out.below hb)
            replace O3 := Lib.hid (O3.out.below hb)
            replace B5 := Lib.hid (B5.out.below hb)
            replace P7 := Lib.hid (P7.out.below hb)
            replace BB := Lib.hid (BB.out.trans (hb.mono BB.out.size))
            go_wp2
            go_ret
            exact ⟨rfl, BB.out⟩
          · skip
            have kcb : (z2 == z1) = false := by simp [hcb]
            obtain ⟨m7, m8⟩ := M6.out HCA.out hcb
            rw [m8, ← HQ1.out] at f0
            rw [m8, ← HQ2.out] at f1
            rw [m7, ← HQ3.out]
            clear m7 m8 hcb
            go_wp2_with fail
            refine (cCkZ.out A3 _ O3.out TB.out).mono ?_
            rintro e W ⟨rfl, hb⟩
            clear p0 p1 p2 p3 p4 p5 q0 q1 q2 q3 q4 q5 d0 d1 f0 f1
            replace B0 := Lib.hid (B0.out.below hb)
            replace P0 := Lib.hid (P0.out.below hb)
            replace HA := Lib.hid (HA.out.below hb)
            replace TB := Lib.hid (TB.out.below hb)
            replace O1 := Lib.hid (O1.out.below hb)
            replace B1 := Lib.hid (B1.out.below hb)
            replace O2 := Lib.hid (O2.out.below hb)
            replace B2 := Lib.hid (B2.out.below hb)
            replace P4 := Lib.hid (P4.out.below hb)
            replace O3 := Lib.hid (O3.out.below hb)
            replace B5 := Lib.hid (B5.out.below hb)
            replace P7 := Lib.hid (P7.out.below hb)
            replace BB := Lib.hid (BB.out.trans (hb.mono BB.out.size))
            go_wp2
            go_ret
            exact ⟨rfl, BB.out⟩
        · skip
          have kab : (z0 == z1) = false := by simp [hab]
          have km := M5.out hab
          have kca : (z2 == z0) = false := by simpa using HCA.out
          rw [km]
          clear km hab
          by_cases hcb : z2 = z1
          · skip
            have kcb : (z2 == z1) = true := by simp [hcb]
            clear hcb
            go_wp2_with fail
            refine (cCkZ.out A3 _ O3.out TB.out).mono ?_
            rintro e W ⟨rfl, hb⟩
            clear p0 p1 p2 p3 p4 p5 q0 q1 q2 q3 q4 q5 d0 d1 f0 f1
            replace B0 := Lib.hid (B0.out.below hb)
            replace P0 := Lib.hid (P0.out.below hb)
            replace HA := Lib.hid (HA.out.below hb)
            replace TB := Lib.hid (TB.out.below hb)
            replace O1 := Lib.hid (O1.out.below hb)
            replace B1 := Lib.hid (B1.out.below hb)
            replace O2 := Lib.hid (O2.out.below hb)
            replace B2 := Lib.hid (B2.out.below hb)
            replace P4 := Lib.hid (P4.out.below hb)
            replace O3 := Lib.hid (O3.out.below hb)
            replace B5 := Lib.hid (B5.out.below hb)
            replace P7 := Lib.hid (P7.out.below hb)
            replace BB := Lib.hid (BB.out.trans (hb.mono BB.out.size))
            go_wp2
            go_ret
            exact ⟨rfl, BB.out⟩
          · skip
            have kcb : (z2 == z1) = false := by simp [hcb]
            obtain ⟨m7, m8⟩ := M6.out HCA.out hcb
            rw [m8, ← HQ1.out] at f0
            rw [m8, ← HQ2.out] at f1
            rw [m7, ← HQ3.out]
            clear m7 m8 hcb
            go_wp2_with fail
            refine (cCkZ.out A3 _ O3.out TB.out).mono ?_
            rintro e W ⟨rfl, hb⟩
            clear p0 p1 p2 p3 p4 p5 q0 q1 q2 q3 q4 q5 d0 d1 f0 f1
            replace B0 := Lib.hid (B0.out.below hb)
            replace P0 := Lib.hid (P0.out.below hb)
            replace HA := Lib.hid (HA.out.below hb)
            replace TB := Lib.hid (TB.out.below hb)
            replace O1 := Lib.hid (O1.out.below hb)
            replace B1 := Lib.hid (B1.out.below hb)
            replace O2 := Lib.hid (O2.out.below hb)
            replace B2 := Lib.hid (B2.out.below hb)
            replace P4 := Lib.hid (P4.out.below hb)
            replace O3 := Lib.hid (O3.out.below hb)
            replace B5 := Lib.hid (B5.out.below hb)
            replace P7 := Lib.hid (P7.out.below hb)
            replace BB := Lib.hid (BB.out.trans (hb.mono BB.out.size))
            go_wp2
            go_ret
            exact ⟨rfl, BB.out⟩
      · have k3 : (E3 != 0) = true := by simp [h3]
        have k4 : S3.keys.length = 0 := nz.out h3
        clear h3
        obtain ⟨_, p0, p1, p2, p3, p4, p5, _⟩ := B5.out
        go_wp2
        go_ret
        exact ⟨rfl, BB.out⟩
  · have nx := Lib.hid (none_of (p := (x1, x2)) hE)
    have HB := Lib.hid (fun o o' o'' => (((Below.refl W0.heap.size W0).alloc (Nat.le_refl _) o).alloc (by simp) o').alloc (by simp; omega) o'')
    have BX := Lib.hid (fun o' o'' => ((Box.new W0 s a 27).below ((Below.refl _ _).alloc (Nat.le_refl _) o')).below ((Below.refl _ _).alloc (Nat.le_refl _) o''))
    have AX := Lib.hid (fun o'' => (ABox.new (W0.alloc (.cells (slCells s a) 27)) z0 z1 z2).below ((Below.refl _ _).alloc (Nat.le_refl _) o''))
    have PX := Lib.hid (PBox.new ((W0.alloc (.cells (slCells s a) 27)).alloc (abox z0 z1 z2)) (x1, x2) 33)
    unfold slCells abox at AX PX
    rw [World.size_alloc] at AX
    rw [World.size_alloc, World.size_alloc] at PX
    have HA0 := Lib.hid h
    have TB0 := Lib.hid hT
    have CA := Lib.hid (fun o o' o'' => lAlive (((W0.alloc o).alloc o').alloc o'') (hT.below (HB.out o o' o'')))
    obtain ⟨E1, hE1⟩ : ∃ E, E = s.layE z0 := ⟨_, rfl⟩
    have k1 : (E1 != 0) = true := by rw [hE1]; simp [hE]
    rw [← hE1] at cLy
    obtain ⟨S1, hS1⟩ : ∃ S, S = s.layS z0 (x1, x2) := ⟨_, rfl⟩
    rw [← hS1] at cLy nx
    clear hS1 hE hE1 ok1 ok2 ok3 sh1 sh2 sh3
    unfold slv pv at cLy
    unfold slv arr3 pv
    go_enter Tryd.func7, Tryd.ntmps7
    go_wp2_with fail
    refine (CA.out _ _ _).mono ?_
    rintro e W ⟨rfl, hb⟩
    have BB := Lib.hid ((HB.out _ _ _).trans (hb.mono (HB.out _ _ _).size))
    have B0 := Lib.hid ((BX.out _ _).below hb)
    have A0 := Lib.hid ((AX.out _).below hb)
    have P0 := Lib.hid (PX.out.below hb)
    have HA := Lib.hid (HA0.out.below BB.out)
    have TB := Lib.hid (TB0.out.below BB.out)
    clear hb BX AX PX HB HA0 TB0 CA
    obtain ⟨_, p0, p1, p2, p3, p4, p5, _⟩ := B0.out
    go_wp2_with fail
    refine (r4Great s a 300 _).mono ?_
    rintro e W ⟨rfl, hb⟩
    clear p0 p1 p2 p3 p4 p5
    rw [HG.out]
    replace B0 := Lib.hid (B0.out.below hb)
    replace A0 := Lib.hid (A0.out.below hb)
    replace P0 := Lib.hid (P0.out.below hb)
    replace HA := Lib.hid (HA.out.below hb)
    replace TB := Lib.hid (TB.out.below hb)
    replace BB := Lib.hid (BB.out.trans (hb.mono BB.out.size))
    clear hb
    have t0 := A0.out.c0
    have t1 := A0.out.c1
    have t2 := A0.out.c2
    go_upto_region 4 with (fail)
    go_quiet (fail)
    obtain ⟨V, hV⟩ : ∃ V, V = W.drewN nq := ⟨_, rfl⟩
    have hba : Below W.heap.size W V := by rw [hV]; exact below_drewN (Below.refl _ _) _
    first | rw [← hV] | skip
    clear hV
    clear t0 t1 t2
    replace B0 := Lib.hid (B0.out.below hba)
    replace A0 := Lib.hid (A0.out.below hba)
    replace P0 := Lib.hid (P0.out.below hba)
    replace HA := Lib.hid (HA.out.below hba)
    replace TB := Lib.hid (TB.out.below hba)
    replace BB := Lib.hid (BB.out.trans (hba.mono BB.out.size))
    clear hba W
    go_upto_region 5 with (fail)
    obtain ⟨_, p0, p1, p2, p3, p4, p5, _⟩ := B0.out
    have d0 := P0.out.c0
    have d1 := P0.out.c1
    try dsimp only at d0 d1
    go_wp2_with fail
    refine (cLy.out a _ HA.out TB.out).mono ?_
    rintro e W ⟨A1, rfl, own, hb⟩
    clear p0 p1 p2 p3 p4 p5 d0 d1
    replace B0 := Lib.hid (B0.out.below hb)
    replace A0 := Lib.hid (A0.out.below hb)
    replace P0 := Lib.hid (P0.out.below hb)
    replace HA := Lib.hid (HA.out.below hb)
    replace TB := Lib.hid (TB.out.below hb)
    replace BB := Lib.hid (BB.out.trans (hb.mono BB.out.size))
    have O1 := Lib.hid own.held
    clear own hb
    unfold slv
    clear A0
    go_upto_region 6 with (fail)
    obtain ⟨V, hV⟩ : ∃ V, V = W.alloc (.cells #[.int .i64 S1.seg, .slice A1.w S1.words.length A1.cw, .slice A1.k S1.keys.length A1.ck, .slice A1.v S1.vals.length A1.cv, .slice A1.c S1.counts.length A1.cc, .int .u64 (S1.laid : Int)] 27) := ⟨_, rfl⟩
    have hba : Below W.heap.size W V := by rw [hV]; exact (Below.refl _ _).alloc (Nat.le_refl _) _
    have B1 := Lib.hid (show Box V W.heap.size S1 A1 by rw [hV]; exact Box.new W S1 A1 27)
    first | rw [← hV] | skip
    clear hV
    replace B0 := Lib.hid (B0.out.below hba)
    replace P0 := Lib.hid (P0.out.below hba)
    replace HA := Lib.hid (HA.out.below hba)
    replace TB := Lib.hid (TB.out.below hba)
    replace O1 := Lib.hid (O1.out.below hba)
    replace BB := Lib.hid (BB.out.trans (hba.mono BB.out.size))
    clear hba
    skip
    obtain ⟨_, p0, p1, p2, p3, p4, p5, _⟩ := B1.out
    have kn : S1.keys.length = 0 := nx.out
    go_wp2
    go_ret
    exact ⟨rfl, BB.out⟩
set_option maxRecDepth 100000 in
theorem walk (s : Sl) (a : Ads) (z0 z1 z2 x1 x2 : Int) (W0 : World) (h : Held W0 s a) (hok : s.Ok) (h1 : In64 x1) (h2 : In64 x2) (hT : Tab W0) :
    Calls Tryd.prog 7 #[slv s a, arr3 z0 z1 z2, pv (x1, x2)] W0 fun e w' => e = .returned (.bool true) ∧ Below W0.heap.size W0 w' := by
  cases hg : s.greatB 300
  · refine full s a z0 z1 z2 x1 x2 W0 h hok h1 h2 hT ?_ hg
    unfold Sl.greatB at hg
    simp only [Bool.or_eq_false_iff, decide_eq_false_iff_not] at hg
    exact ⟨by omega, by omega, by omega, by omega⟩
  · have HG := Lib.hid hg
    have HB := Lib.hid (fun o o' o'' => (((Below.refl W0.heap.size W0).alloc (Nat.le_refl _) o).alloc (by simp) o').alloc (by simp; omega) o'')
    have BX := Lib.hid (fun o' o'' => ((Box.new W0 s a 27).below ((Below.refl _ _).alloc (Nat.le_refl _) o')).below ((Below.refl _ _).alloc (Nat.le_refl _) o''))
    have AX := Lib.hid (fun o'' => (ABox.new (W0.alloc (.cells (slCells s a) 27)) z0 z1 z2).below ((Below.refl _ _).alloc (Nat.le_refl _) o''))
    have PX := Lib.hid (PBox.new ((W0.alloc (.cells (slCells s a) 27)).alloc (abox z0 z1 z2)) (x1, x2) 33)
    unfold slCells abox at AX PX
    rw [World.size_alloc] at AX
    rw [World.size_alloc, World.size_alloc] at PX
    have HA0 := Lib.hid h
    have TB0 := Lib.hid hT
    have CA := Lib.hid (fun o o' o'' => lAlive (((W0.alloc o).alloc o').alloc o'') (hT.below (HB.out o o' o'')))
    clear hg
    unfold slv arr3 pv
    go_enter Tryd.func7, Tryd.ntmps7
    go_wp2_with fail
    refine (CA.out _ _ _).mono ?_
    rintro e W ⟨rfl, hb⟩
    have BB := Lib.hid ((HB.out _ _ _).trans (hb.mono (HB.out _ _ _).size))
    have B0 := Lib.hid ((BX.out _ _).below hb)
    have A0 := Lib.hid ((AX.out _).below hb)
    have P0 := Lib.hid (PX.out.below hb)
    have HA := Lib.hid (HA0.out.below BB.out)
    have TB := Lib.hid (TB0.out.below BB.out)
    clear hb BX AX PX HB HA0 TB0 CA
    obtain ⟨_, p0, p1, p2, p3, p4, p5, _⟩ := B0.out
    go_wp2_with fail
    refine (r4Great s a 300 _).mono ?_
    rintro e W ⟨rfl, hb⟩
    clear p0 p1 p2 p3 p4 p5
    rw [HG.out]
    replace B0 := Lib.hid (B0.out.below hb)
    replace A0 := Lib.hid (A0.out.below hb)
    replace P0 := Lib.hid (P0.out.below hb)
    replace HA := Lib.hid (HA.out.below hb)
    replace TB := Lib.hid (TB.out.below hb)
    replace BB := Lib.hid (BB.out.trans (hb.mono BB.out.size))
    clear hb
    go_wp2
    go_ret
    exact ⟨rfl, BB.out⟩
end Go.Proofs.YtifffaigmfahdaaDoor.slotsThere

/- The walk of the law SlotsWhole: a part that is filled has just these pairs, in order; nothing else is turned; the ledger tells how many were laid. -/
import Derived.Test.YtifffaigmfahdaaDoorM20
import Derived.Test.YtifffaigmfahdaaDoorM18
import Derived.Test.YtifffaigmfahdaaDoorM03
import Derived.Test.YtifffaigmfahdaaDoorM21
import Derived.StillTailTactics
namespace Go.Proofs.YtifffaigmfahdaaDoor.slotsWhole
open Go.RowKit
set_option linter.unusedVariables false
set_option linter.unusedSimpArgs false

theorem filled_good {s : Sl} {lo hi : Nat} {l : List Int} {ps : List (Int × Int)} (hg : Good s) (h1 : lo ≤ hi) (h2 : hi ≤ s.keys.length) (hlen : l.length = ps.length) (hR : Rising l lo hi) (h64 : ∀ k, In64 (ps.getD k (0, 0)).1 ∧ In64 (ps.getD k (0, 0)).2) : Good (s.filled lo hi l ps) := by
  have hM := hg.may
  have hpl : ∀ x ∈ Oc.places s.words lo hi, x < s.keys.length := fun x hx => by have := (Oc.mem_places.1 hx).1; omega
  obtain ⟨m1, m2⟩ := wiped_may hM lo (hi - lo) (by omega)
  have eW : s.wipedL (Oc.places s.words lo hi) = s.wiped lo (hi - lo) := by have := wipedL_places hM lo (hi - lo) (by omega); rwa [show lo + (hi - lo) = hi from by omega] at this
  have hk1 : (s.wiped lo (hi - lo)).keys.length = s.keys.length := wiped_keys _ _ _
  have HL := laidIn_all m1 ps hR (by rw [hk1]; exact h2) (fun j e1 e2 => by rw [m2, show (decide (lo ≤ j) && decide (j < lo + (hi - lo))) = true from by simp; omega]; simp)
  have GW : Good (s.wiped lo (hi - lo)) := by rw [← eW]; exact wipedL_good _ hg hpl
  unfold Sl.filled
  rw [Int.toNat_natCast, show ((hi : Int) - (lo : Int)).toNat = hi - lo from by omega, ← hlen]
  exact laidIn_good GW HL h64 _ (Nat.le_refl _)
/-- SlotsWhole, in plain words. -/
structure WholeF (s S : Sl) (x y : Int) (l : List Int) (ps : List (Int × Int)) : Prop where
  good : Good S
  p1 : S.pairsE x y = 0 ∧ S.pairsV x y = ps
  p2 : S.pairsE 0 x = 0
  p3 : s.pairsE 0 x = 0 ∧ s.pairsV 0 x = S.pairsV 0 x
  p4 : S.pairsE y S.keys.length = 0
  p5 : s.pairsE y s.keys.length = 0 ∧ s.pairsV y s.keys.length = S.pairsV y S.keys.length
  is : ∀ k, k < l.length → S.isB (l.getD k 0) (ps.getD k (0, 0)) = true
  laid : S.laid = (s.laid + ps.length) % 18446744073709551616
  chk : S.chk = 0
  len : l.length = ps.length
theorem whole_of {s : Sl} (hok : s.Ok) (hs : s.Short) {x y : Int} {l : List Int} {ps : List (Int × Int)} (h64 : ∀ k, In64 (ps.getD k (0, 0)).1 ∧ In64 (ps.getD k (0, 0)).2) (hE : s.fillE x y l ps.length = 0) : WholeF s (s.fillS x y l ps) x y l ps := by
  have hE0 := hE
  rw [fillE_eq] at hE
  have hp : s.pairsE x y = 0 := by
    by_cases h : s.pairsE x y = 0
    · exact h
    · rw [if_neg h] at hE; exact absurd hE h
  rw [if_pos hp] at hE
  have hlu : l.length = ps.length ∧ upB l x y = true := by
    by_cases h : l.length = ps.length ∧ upB l x y = true
    · exact h
    · rw [if_neg h] at hE; simp at hE
  obtain ⟨hlen, hu⟩ := hlu
  have hp2 : s.mayB = true ∧ Sl.partB s.keys.length x y = true := by
    unfold Sl.pairsE at hp
    cases hm : s.mayB
    · rw [hm] at hp; simp at hp
    · cases hq : Sl.partB s.keys.length x y
      · rw [hm, hq] at hp; simp at hp
      · exact ⟨rfl, rfl⟩
  obtain ⟨g1, g2, g3⟩ := part_iff.1 hp2.2
  obtain ⟨lo, rfl⟩ : ∃ n : Nat, x = n := ⟨x.toNat, by omega⟩
  obtain ⟨hi, rfl⟩ : ∃ n : Nat, y = n := ⟨y.toNat, by omega⟩
  have hM := may_iff.1 hp2.1
  have hR := up_rising hu
  have h1 : lo ≤ hi := by omega
  have h2 : hi ≤ s.keys.length := by omega
  have eS : s.fillS lo hi l ps = s.filled lo hi l ps := by unfold Sl.fillS; rw [if_pos hE0]
  have FO := filled_ok hM hok.laid hR h1 h2 hlen
  have GS := filled_good ⟨hM, hok, hs⟩ h1 h2 hlen hR h64
  rw [← eS] at GS
  have keys := FO.keys
  have mS := may_iff.2 GS.may
  have inn := FO.inn
  have low := FO.low
  have high := FO.high
  have at_ := FO.at_
  have laid := FO.laid
  rw [← eS] at keys inn low high at_ laid
  obtain ⟨S, hS⟩ : ∃ S, S = s.fillS lo hi l ps := ⟨_, rfl⟩
  rw [← hS] at keys inn low high at_ laid GS mS ⊢
  have pe : ∀ (q : Sl) (u v : Nat), q.mayB = true → u ≤ v → v ≤ q.keys.length → q.pairsE u v = 0 ∧ q.pairsV u v = q.of u v := fun q u v hq h1 h2 => by
    have e : q.pairsE u v = 0 := by
      unfold Sl.pairsE
      rw [hq, if_pos rfl, if_pos (part_iff.2 ⟨by omega, by omega, by omega⟩)]
    exact ⟨e, by unfold Sl.pairsV; rw [if_pos e, Int.toNat_natCast, Int.toNat_natCast]⟩
  have a1 := pe S lo hi mS h1 (by omega)
  have a2 := pe S 0 lo mS (by omega) (by omega)
  have a3 := pe s 0 lo hp2.1 (by omega) (by omega)
  have a4 := pe S hi S.keys.length mS (by omega) (by omega)
  have a5 := pe s hi s.keys.length hp2.1 (by omega) (by omega)
  refine ⟨GS, ⟨a1.1, by rw [a1.2, inn]⟩, a2.1, ⟨a3.1, ?_⟩, a4.1, ⟨a5.1, ?_⟩, fun k hk => ?_, laid, chk_yes GS.may, hlen⟩
  · have e2 := a2.2
    have e3 := a3.2
    rw [show ((0 : Nat) : Int) = 0 from rfl] at e2 e3
    rw [e2, e3, low]
  · rw [a4.2, a5.2, keys, high]
  · obtain ⟨b1, b2⟩ := at_ k hk
    have hin := hR.inn k hk
    obtain ⟨i, hi'⟩ : ∃ i : Nat, l.getD k 0 = i := ⟨(l.getD k 0).toNat, by omega⟩
    rw [hi', Int.toNat_natCast] at b1 b2
    rw [hi'] at hin ⊢
    have ze : S.atE i = 0 := by rw [atE_may GS.may, if_pos ⟨by omega, by omega⟩, Int.toNat_natCast, b1]; rfl
    have zv : S.atV i = ps.getD k (0, 0) := by unfold Sl.atV; rw [if_pos ze, Int.toNat_natCast, b2]
    unfold Sl.isB
    rw [ze, zv]
    simp
theorem pairs_short (s : Sl) (u v : Int) (hs : s.Short) : (s.pairsV u v).length ≤ 2147483647 := by
  unfold Sl.pairsV
  split
  · rename_i h
    have hp2 : Sl.partB s.keys.length u v = true := by
      unfold Sl.pairsE at h
      cases hm : s.mayB
      · rw [hm] at h; simp at h
      · cases hq : Sl.partB s.keys.length u v
        · rw [hm, hq] at h; simp at h
        · rfl
    obtain ⟨g1, g2, g3⟩ := part_iff.1 hp2
    have l2 := hs.keys
    unfold Sl.of
    rw [List.length_map]
    have := Oc.places_length_le s.words u.toNat v.toNat
    omega
  · exact Nat.zero_le _
theorem wrap_add (m n : Nat) : (((m + n) % 18446744073709551616 : Nat) : Int) = IntKind.u64.wrap ((m : Int) + (n : Int)) := by
  rw [IntKind.wrap_u64]; omega
def IsJ (l : List Int) (w1 : World) (i : Value) (wr : World) : Prop := ∃ k : Nat, k ≤ l.length ∧ i = .int .i64 k ∧ Below w1.heap.size w1 wr
set_option maxRecDepth 100000 in
set_option maxHeartbeats 8000000 in
theorem full (s : Sl) (a : Ads) (x y : Int) (la pa : Option Addr) (lc pc : Nat) (l : List Int) (ps : List (Int × Int)) (W0 : World) (h : Held W0 s a) (hok : s.Ok) (hs : s.Short) (hg : s.greatB 300 = false) (hT : Tab W0)
    (hl : Lst .i64 W0 la l) (hp : PLst W0 pa ps) (hll : l.length ≤ 300) (hpl : ps.length ≤ 300) (h64l : All64 l) (h64 : ∀ k, In64 (ps.getD k (0, 0)).1 ∧ In64 (ps.getD k (0, 0)).2) :
    Calls Tryd.prog 9 #[slv s a, pv (x, y), .slice la l.length lc, .slice pa ps.length pc] W0 fun e w' => e = .returned (.bool true) ∧ Below W0.heap.size W0 w' := by
  have HG := Lib.hid hg
  have HA0 := Lib.hid h
  have TB0 := Lib.hid hT
  have HL0 := Lib.hid hl
  have HP0 := Lib.hid hp
  have k1 : decide ((l.length : Int) > 300) = false := by simp; omega
  have k2 : decide ((ps.length : Int) > 300) = false := by simp; omega
  have cF := Lib.hid (fun A V (hv : Held V s A) tv h1 h2 => cFill s A x y la pa lc pc l ps V hv hok hs tv h1 h2 (by omega) (by omega) h64)
  have BS0 := Lib.hid (fun o => (Box.new W0 s a 27).below ((Below.refl _ _).alloc (Nat.le_refl _) o))
  have PS0 := Lib.hid (fun o => PBox.second W0 o (x, y) 61)
  have BB0 := Lib.hid (fun o o' => ((Below.refl W0.heap.size W0).alloc (Nat.le_refl _) o).alloc (by simp) o')
  have CA := Lib.hid (fun o o' => lAlive ((W0.alloc o).alloc o') (hT.below (BB0.out o o')))
  by_cases hE : s.fillE x y l ps.length = 0
  · have WF := Lib.hid (whole_of hok hs h64 hE)
    rw [hE] at cF
    have cS := Lib.hid (fun lo hi A V (hv : Held V s A) tv => cPairs s A lo hi V hv hok hs tv)
    obtain ⟨S, hS⟩ : ∃ S, S = s.fillS x y l ps := ⟨_, rfl⟩
    rw [← hS] at WF cF
    clear hS
    have cQ := Lib.hid (fun lo hi A V (hv : Held V S A) tv => cPairs S A lo hi V hv WF.out.good.ok WF.out.good.short tv)
    have cI := Lib.hid (show ∀ k, k < l.length → ∀ A V, Held V S A → Tab V → Calls Tryd.prog 35 #[slv S A, .int .i64 (l.getD k 0), pv (ps.getD k (0, 0))] V (fun e w' => e = .returned (.bool true) ∧ Below V.heap.size V w') from fun k hk A V hv tv => by rw [← WF.out.is k hk]; exact lIs S A _ _ V hv WF.out.good.ok WF.out.good.short tv)
    have cC := Lib.hid (show ∀ A V, Held V S A → Tab V → Calls Tryd.prog 16 #[slv S A] V (fun e w' => e = .returned (.int .i64 0) ∧ Below V.heap.size V w') from fun A V hv tv => by rw [← WF.out.chk]; exact sCheck S A V hv WF.out.good.ok WF.out.good.short tv)
    obtain ⟨u1, hu1⟩ : ∃ u, u = S.pairsV 0 x := ⟨_, rfl⟩
    obtain ⟨u2, hu2⟩ : ∃ u, u = S.pairsV y S.keys.length := ⟨_, rfl⟩
    have n1 : u1.length ≤ 2147483647 := by rw [hu1]; exact pairs_short _ _ _ WF.out.good.short
    have n2 : u2.length ≤ 2147483647 := by rw [hu2]; exact pairs_short _ _ _ WF.out.good.short
    have q1 := Lib.hid (fun A V (hv : Held V S A) tv => show Calls _ _ _ V (POwn2 ps 0 V) by rw [← WF.out.p1.1, ← WF.out.p1.2]; exact cQ.out x y A V hv tv)
    have q2 := Lib.hid (fun A V (hv : Held V S A) tv => show Calls _ _ _ V (POwn2 u1 0 V) by rw [← WF.out.p2, hu1]; exact cQ.out 0 x A V hv tv)
    have q3 := Lib.hid (fun A V (hv : Held V s A) tv => show Calls _ _ _ V (POwn2 u1 0 V) by rw [← WF.out.p3.1, hu1, ← WF.out.p3.2]; exact cS.out 0 x A V hv tv)
    have q4 := Lib.hid (fun A V (hv : Held V S A) tv => show Calls _ _ _ V (POwn2 u2 0 V) by rw [← WF.out.p4, hu2]; exact cQ.out y S.keys.length A V hv tv)
    have q5 := Lib.hid (fun A V (hv : Held V s A) tv => show Calls _ _ _ V (POwn2 u2 0 V) by rw [← WF.out.p5.1, hu2, ← WF.out.p5.2]; exact cS.out y s.keys.length A V hv tv)
    have k3 : ((l.length : Int) != ps.length) = false := by have := WF.out.len; simp; omega
    have HLP := Lib.hid WF.out.len
    have k4 : IntKind.u64.wrap (ps.length : Int) = (ps.length : Int) := IntWalk.u64_in _ (by omega)
    have k5 : ((S.laid : Int) == IntKind.u64.wrap ((s.laid : Int) + (ps.length : Int))) = true := by
      rw [WF.out.laid, beq_iff_eq]
      exact wrap_add s.laid ps.length
    clear cS cQ WF hu1 hu2 hE hok hs hg h hT hl hp h64l h64
    unfold slv at q1 q2 q3 q4 q5 cF cC
    unfold slv pv at cI
    unfold slv pv
    go_enter Tryd.func9, Tryd.ntmps9
    go_wp2_with fail
    refine (CA.out _ _).mono ?_
    rintro e W ⟨rfl, hb⟩
    have BB := Lib.hid ((BB0.out _ _).trans (hb.mono (by simp; omega)))
    have BS := Lib.hid ((BS0.out _).below hb)
    have PS := Lib.hid ((PS0.out _).below hb)
    clear hb BB0 BS0 PS0 CA
    obtain ⟨_, p0, p1, p2, p3, p4, p5, _⟩ := BS.out
    go_wp2_with fail
    refine (r4Great s a 300 _).mono ?_
    rintro e W1 ⟨rfl, hb⟩
    rw [HG.out]
    replace BS := Lib.hid (BS.out.below hb)
    replace PS := Lib.hid (PS.out.below hb)
    replace BB := Lib.hid (BB.out.trans (hb.mono BB.out.size))
    clear hb p0 p1 p2 p3 p4 p5
    have HA := Lib.hid (HA0.out.below BB.out)
    have TB := Lib.hid (TB0.out.below BB.out)
    obtain ⟨_, p0, p1, p2, p3, p4, p5, _⟩ := BS.out
    have d0 := PS.out.c0
    have d1 := PS.out.c1
    try dsimp only at d0 d1
    go_wp2_with fail
    refine (cF.out a _ HA.out TB.out (HL0.out.below BB.out) (HP0.out.below BB.out)).mono ?_
    rintro e w2 ⟨A2, rfl, own, hb⟩
    have O2 := Lib.hid own.held
    clear own
    replace BS := Lib.hid (BS.out.below hb)
    replace PS := Lib.hid (PS.out.below hb)
    replace BB := Lib.hid (BB.out.trans (hb.mono BB.out.size))
    clear hb p0 p1 p2 p3 p4 p5 d0 d1 HA TB
    unfold slv
    go_upto_region 5 with (fail)
    obtain ⟨V2, hV⟩ : ∃ V, V = w2.alloc (.cells #[.int .i64 S.seg, .slice A2.w S.words.length A2.cw, .slice A2.k S.keys.length A2.ck, .slice A2.v S.vals.length A2.cv, .slice A2.c S.counts.length A2.cc, .int .u64 (S.laid : Int)] 27) := ⟨_, rfl⟩
    have hba : Below w2.heap.size w2 V2 := by rw [hV]; exact (Below.refl _ _).alloc (Nat.le_refl _) _
    have B2 := Lib.hid (show Box V2 w2.heap.size S A2 by rw [hV]; exact Box.new w2 S A2 27)
    rw [← hV]
    clear hV
    replace BS := Lib.hid (BS.out.below hba)
    replace PS := Lib.hid (PS.out.below hba)
    replace O2 := Lib.hid (O2.out.below hba)
    replace BB := Lib.hid (BB.out.trans (hba.mono BB.out.size))
    clear hba
    obtain ⟨_, r0, r1, r2, r3, r4, r5, _⟩ := B2.out
    have d0 := PS.out.c0
    have d1 := PS.out.c1
    try dsimp only at d0 d1
    go_wp2_with fail
    refine (q1.out A2 _ O2.out (TB0.out.below BB.out)).mono ?_
    rintro e w3 ⟨v, rfl, hown, hb⟩
    obtain ⟨P1, c1, rfl, hC, _, _, _⟩ := own_cells hown
    have R1 := Lib.hid (show PLst w3 P1 ps from hC)
    replace BS := Lib.hid (BS.out.below hb)
    replace PS := Lib.hid (PS.out.below hb)
    replace O2 := Lib.hid (O2.out.below hb)
    replace B2 := Lib.hid (B2.out.below hb)
    replace BB := Lib.hid (BB.out.trans (hb.mono BB.out.size))
    clear hb hown hC r0 r1 r2 r3 r4 r5 d0 d1
    obtain ⟨_, r0, r1, r2, r3, r4, r5, _⟩ := B2.out
    have d0 := PS.out.c0
    have d1 := PS.out.c1
    try dsimp only at d0 d1
    go_wp2_with fail
    refine (q2.out A2 _ O2.out (TB0.out.below BB.out)).mono ?_
    rintro e w4 ⟨v, rfl, hown, hb⟩
    obtain ⟨P2, c2, rfl, hC, _, _, _⟩ := own_cells hown
    have R2 := Lib.hid (show PLst w4 P2 u1 from hC)
    replace BS := Lib.hid (BS.out.below hb)
    replace PS := Lib.hid (PS.out.below hb)
    replace O2 := Lib.hid (O2.out.below hb)
    replace B2 := Lib.hid (B2.out.below hb)
    replace R1 := Lib.hid (R1.out.below hb)
    replace BB := Lib.hid (BB.out.trans (hb.mono BB.out.size))
    clear hb hown hC r0 r1 r2 r3 r4 r5 d0 d1
    obtain ⟨_, p0, p1, p2, p3, p4, p5, _⟩ := BS.out
    obtain ⟨_, r0, r1, r2, r3, r4, r5, _⟩ := B2.out
    have d0 := PS.out.c0
    have d1 := PS.out.c1
    try dsimp only at d0 d1
    go_wp2_with fail
    refine (q3.out a _ (HA0.out.below BB.out) (TB0.out.below BB.out)).mono ?_
    rintro e w5 ⟨v, rfl, hown, hb⟩
    obtain ⟨P3, c3, rfl, hC, _, _, _⟩ := own_cells hown
    have R3 := Lib.hid (show PLst w5 P3 u1 from hC)
    replace BS := Lib.hid (BS.out.below hb)
    replace PS := Lib.hid (PS.out.below hb)
    replace O2 := Lib.hid (O2.out.below hb)
    replace B2 := Lib.hid (B2.out.below hb)
    replace R1 := Lib.hid (R1.out.below hb)
    replace R2 := Lib.hid (R2.out.below hb)
    replace BB := Lib.hid (BB.out.trans (hb.mono BB.out.size))
    clear hb hown hC r0 r1 r2 r3 r4 r5 d0 d1 p0 p1 p2 p3 p4 p5
    obtain ⟨_, p0, p1, p2, p3, p4, p5, _⟩ := BS.out
    obtain ⟨_, r0, r1, r2, r3, r4, r5, _⟩ := B2.out
    have d0 := PS.out.c0
    have d1 := PS.out.c1
    try dsimp only at d0 d1
    go_wp2_with fail
    refine (q4.out A2 _ O2.out (TB0.out.below BB.out)).mono ?_
    rintro e w6 ⟨v, rfl, hown, hb⟩
    obtain ⟨P4, c4, rfl, hC, _, _, _⟩ := own_cells hown
    have R4 := Lib.hid (show PLst w6 P4 u2 from hC)
    replace BS := Lib.hid (BS.out.below hb)
    replace PS := Lib.hid (PS.out.below hb)
    replace O2 := Lib.hid (O2.out.below hb)
    replace B2 := Lib.hid (B2.out.below hb)
    replace R1 := Lib.hid (R1.out.below hb)
    replace R2 := Lib.hid (R2.out.below hb)
    replace R3 := Lib.hid (R3.out.below hb)
    replace BB := Lib.hid (BB.out.trans (hb.mono BB.out.size))
    clear hb hown hC r0 r1 r2 r3 r4 r5 d0 d1 p0 p1 p2 p3 p4 p5
    obtain ⟨_, p0, p1, p2, p3, p4, p5, _⟩ := BS.out
    obtain ⟨_, r0, r1, r2, r3, r4, r5, _⟩ := B2.out
    have d0 := PS.out.c0
    have d1 := PS.out.c1
    try dsimp only at d0 d1
    go_wp2_with fail
    refine (q5.out a _ (HA0.out.below BB.out) (TB0.out.below BB.out)).mono ?_
    rintro e w7 ⟨v, rfl, hown, hb⟩
    obtain ⟨P5, c5, rfl, hC, _, _, _⟩ := own_cells hown
    have R5 := Lib.hid (show PLst w7 P5 u2 from hC)
    replace BS := Lib.hid (BS.out.below hb)
    replace PS := Lib.hid (PS.out.below hb)
    replace O2 := Lib.hid (O2.out.below hb)
    replace B2 := Lib.hid (B2.out.below hb)
    replace R1 := Lib.hid (R1.out.below hb)
    replace R2 := Lib.hid (R2.out.below hb)
    replace R3 := Lib.hid (R3.out.below hb)
    replace R4 := Lib.hid (R4.out.below hb)
    replace BB := Lib.hid (BB.out.trans (hb.mono BB.out.size))
    clear hb hown hC r0 r1 r2 r3 r4 r5 d0 d1 p0 p1 p2 p3 p4 p5
    go_wp2
    go_loopw [22] (IsJ l w7) (fun i _ => l.length - (intOf i).toNat)
    case atStart => exact ⟨0, Nat.zero_le _, rfl, Below.refl _ _⟩
    case round =>
      obtain ⟨k, hk, rfl, bel⟩ := hrel
      have BK := Lib.hid bel
      clear bel
      have B2k := Lib.hid (B2.out.below BK.out)
      obtain ⟨_, r0, r1, r2, r3, r4, r5, _⟩ := B2k.out
      by_cases hlt : k < l.length
      · have hltp : k < ps.length := by have := HLP.out; omega
        have BBk := Lib.hid (BB.out.trans (BK.out.mono BB.out.size))
        obtain ⟨bl, ol, hla, _, cl⟩ := (HL0.out.below BBk.out).cell hlt
        obtain ⟨bp, op, hpa, _, cp1, cp2⟩ := (HP0.out.below BBk.out).pair hltp
        have CI := Lib.hid (fun V hb => cI.out k hlt A2 V (O2.out.below hb) (TB0.out.below (BB.out.trans (hb.mono BB.out.size))))
        obtain ⟨i, hi'⟩ : ∃ i, l.getD k 0 = i := ⟨_, rfl⟩
        obtain ⟨p, hp'⟩ : ∃ p, ps.getD k (0, 0) = p := ⟨_, rfl⟩
        obtain ⟨z1, z2⟩ := p
        rw [hi'] at cl CI
        rw [hp'] at cp1 cp2 CI
        dsimp only at cp1 cp2 CI
        subst hla
        subst hpa
        have i1 : (k : Int) < (l.length : Int) := by omega
        have i2 : (k : Int) < (ps.length : Int) := by omega
        have i0 : (0 : Int) ≤ (k : Int) := by omega
        clear hi' hp'
        go_wp2
        go_still_tail 9, (by kernel_rfl)
        go_wp2_with fail
        refine (CI.out _ BK.out.drew).mono ?_
        rintro e w8 ⟨rfl, hb⟩
        have hd := BK.out.drew
        go_wp2
        go_roundw
        case rel => exact ⟨k + 1, by omega, by go_num, hd.trans (hb.mono hd.size)⟩
        case measure => simp [intOf]; omega
      · have hke : k = l.length := by omega
        subst hke
        have BBk := Lib.hid (BB.out.trans (BK.out.mono BB.out.size))
        have R1k := Lib.hid (R1.out.below BK.out)
        have R2k := Lib.hid (R2.out.below BK.out)
        have R3k := Lib.hid (R3.out.below BK.out)
        have R4k := Lib.hid (R4.out.below BK.out)
        have R5k := Lib.hid (R5.out.below BK.out)
        have O2k := Lib.hid (O2.out.below BK.out)
        have BSk := Lib.hid (BS.out.below BK.out)
        clear BB R1 R2 R3 R4 R5 O2 BS B2
        clear r0 r1 r2 r3 r4 r5
        go_wp2_with fail
        refine (r4SamePairs P1 pa c1 pc ps ps _ R1k.out (HP0.out.below BBk.out) (by omega) (by omega)).mono ?_
        rintro e w8 ⟨rfl, hb⟩
        rw [show (ps == ps) = true from beq_self_eq_true ps]
        replace R2k := Lib.hid (R2k.out.below hb)
        replace R3k := Lib.hid (R3k.out.below hb)
        replace R4k := Lib.hid (R4k.out.below hb)
        replace R5k := Lib.hid (R5k.out.below hb)
        replace O2k := Lib.hid (O2k.out.below hb)
        replace BSk := Lib.hid (BSk.out.below hb)
        replace B2k := Lib.hid (B2k.out.below hb)
        replace BBk := Lib.hid (BBk.out.trans (hb.mono BBk.out.size))
        clear hb
        go_wp2_with fail
        refine (r4SamePairs P2 P3 c2 c3 u1 u1 _ R2k.out R3k.out n1 n1).mono ?_
        rintro e w9 ⟨rfl, hb⟩
        rw [show (u1 == u1) = true from beq_self_eq_true u1]
        replace R4k := Lib.hid (R4k.out.below hb)
        replace R5k := Lib.hid (R5k.out.below hb)
        replace O2k := Lib.hid (O2k.out.below hb)
        replace BSk := Lib.hid (BSk.out.below hb)
        replace B2k := Lib.hid (B2k.out.below hb)
        replace BBk := Lib.hid (BBk.out.trans (hb.mono BBk.out.size))
        clear hb
        go_wp2_with fail
        refine (r4SamePairs P4 P5 c4 c5 u2 u2 _ R4k.out R5k.out n2 n2).mono ?_
        rintro e w10 ⟨rfl, hb⟩
        rw [show (u2 == u2) = true from beq_self_eq_true u2]
        replace O2k := Lib.hid (O2k.out.below hb)
        replace BSk := Lib.hid (BSk.out.below hb)
        replace B2k := Lib.hid (B2k.out.below hb)
        replace BBk := Lib.hid (BBk.out.trans (hb.mono BBk.out.size))
        clear hb
        obtain ⟨_, r0, r1, r2, r3, r4, r5, _⟩ := B2k.out
        obtain ⟨_, p0, p1, p2, p3, p4, p5, _⟩ := BSk.out
        go_wp2_with fail
        refine (cC.out A2 _ O2k.out (TB0.out.below BBk.out)).mono ?_
        rintro e w11 ⟨rfl, hb⟩
        replace BBk := Lib.hid (BBk.out.trans (hb.mono BBk.out.size))
        clear hb p0 p1 p2 p3 p4 p5 r0 r1 r2 r3 r4 r5
        go_wp2
        go_ret
        exact ⟨rfl, BBk.out⟩
  · have V := Lib.hid (fillS_no hE)
    obtain ⟨E, hE2⟩ : ∃ E, E = s.fillE x y l ps.length := ⟨_, rfl⟩
    have k3 : (E != 0) = true := by rw [hE2]; simp [hE]
    rw [V.out, ← hE2] at cF
    clear hE hE2 V hok hs hg h hT hl hp h64l h64
    unfold slv at cF
    unfold slv pv
    go_enter Tryd.func9, Tryd.ntmps9
    go_wp2_with fail
    refine (CA.out _ _).mono ?_
    rintro e W ⟨rfl, hb⟩
    have BB := Lib.hid ((BB0.out _ _).trans (hb.mono (by simp; omega)))
    have BS := Lib.hid ((BS0.out _).below hb)
    have PS := Lib.hid ((PS0.out _).below hb)
    clear hb BB0 BS0 PS0 CA
    obtain ⟨_, p0, p1, p2, p3, p4, p5, _⟩ := BS.out
    go_wp2_with fail
    refine (r4Great s a 300 _).mono ?_
    rintro e W1 ⟨rfl, hb⟩
    rw [HG.out]
    replace BS := Lib.hid (BS.out.below hb)
    replace PS := Lib.hid (PS.out.below hb)
    replace BB := Lib.hid (BB.out.trans (hb.mono BB.out.size))
    clear hb p0 p1 p2 p3 p4 p5
    have HA := Lib.hid (HA0.out.below BB.out)
    have TB := Lib.hid (TB0.out.below BB.out)
    obtain ⟨_, p0, p1, p2, p3, p4, p5, _⟩ := BS.out
    have d0 := PS.out.c0
    have d1 := PS.out.c1
    try dsimp only at d0 d1
    go_wp2_with fail
    refine (cF.out a _ HA.out TB.out (HL0.out.below BB.out) (HP0.out.below BB.out)).mono ?_
    rintro e w2 ⟨A2, rfl, own, hb⟩
    have O2 := Lib.hid own.held
    clear own
    replace BS := Lib.hid (BS.out.below hb)
    replace PS := Lib.hid (PS.out.below hb)
    replace BB := Lib.hid (BB.out.trans (hb.mono BB.out.size))
    clear hb p0 p1 p2 p3 p4 p5 d0 d1 HA TB
    unfold slv
    go_upto_region 5 with (fail)
    obtain ⟨V2, hV⟩ : ∃ V, V = w2.alloc (.cells #[.int .i64 Sl.none.seg, .slice A2.w Sl.none.words.length A2.cw, .slice A2.k Sl.none.keys.length A2.ck, .slice A2.v Sl.none.vals.length A2.cv, .slice A2.c Sl.none.counts.length A2.cc, .int .u64 (Sl.none.laid : Int)] 27) := ⟨_, rfl⟩
    have hba : Below w2.heap.size w2 V2 := by rw [hV]; exact (Below.refl _ _).alloc (Nat.le_refl _) _
    have B2 := Lib.hid (show Box V2 w2.heap.size Sl.none A2 by rw [hV]; exact Box.new w2 Sl.none A2 27)
    rw [← hV]
    clear hV
    replace BS := Lib.hid (BS.out.below hba)
    replace PS := Lib.hid (PS.out.below hba)
    replace O2 := Lib.hid (O2.out.below hba)
    replace BB := Lib.hid (BB.out.trans (hba.mono BB.out.size))
    clear hba
    obtain ⟨_, r0, r1, r2, r3, r4, r5, _⟩ := B2.out
    go_wp2
    go_ret
    exact ⟨rfl, BB.out⟩
set_option maxRecDepth 100000 in
set_option maxHeartbeats 4000000 in
theorem walk (s : Sl) (a : Ads) (x y : Int) (la pa : Option Addr) (lc pc : Nat) (l : List Int) (ps : List (Int × Int)) (W0 : World) (h : Held W0 s a) (hok : s.Ok) (hT : Tab W0)
    (hl : Lst .i64 W0 la l) (hp : PLst W0 pa ps) (h64l : All64 l) (h64 : ∀ k, In64 (ps.getD k (0, 0)).1 ∧ In64 (ps.getD k (0, 0)).2) :
    Calls Tryd.prog 9 #[slv s a, pv (x, y), .slice la l.length lc, .slice pa ps.length pc] W0 fun e w' => e = .returned (.bool true) ∧ Below W0.heap.size W0 w' := by
  cases hg : s.greatB 300
  · by_cases h1 : l.length ≤ 300
    · by_cases h2 : ps.length ≤ 300
      · refine full s a x y la pa lc pc l ps W0 h hok ?_ hg hT hl hp h1 h2 h64l h64
        unfold Sl.greatB at hg
        simp only [Bool.or_eq_false_iff, decide_eq_false_iff_not] at hg
        exact ⟨by omega, by omega, by omega, by omega⟩
      · have k1 : decide ((l.length : Int) > 300) = false := by simp; omega
        have k2 : decide ((ps.length : Int) > 300) = true := by simp; omega
        have HG := Lib.hid hg
        have BS0 := Lib.hid (fun o => (Box.new W0 s a 27).below ((Below.refl _ _).alloc (Nat.le_refl _) o))
        have BB0 := Lib.hid (fun o o' => ((Below.refl W0.heap.size W0).alloc (Nat.le_refl _) o).alloc (by simp) o')
        have CA := Lib.hid (fun o o' => lAlive ((W0.alloc o).alloc o') (hT.below (BB0.out o o')))
        clear h hok hg hT hl hp h64l h64
        unfold slv pv
        go_enter Tryd.func9, Tryd.ntmps9
        go_wp2_with fail
        refine (CA.out _ _).mono ?_
        rintro e W ⟨rfl, hb⟩
        have BB := Lib.hid ((BB0.out _ _).trans (hb.mono (by simp; omega)))
        have BS := Lib.hid ((BS0.out _).below hb)
        clear hb BB0 BS0 CA
        obtain ⟨_, p0, p1, p2, p3, p4, p5, _⟩ := BS.out
        go_wp2_with fail
        refine (r4Great s a 300 _).mono ?_
        rintro e W1 ⟨rfl, hb⟩
        rw [HG.out]
        replace BB := Lib.hid (BB.out.trans (hb.mono BB.out.size))
        clear hb p0 p1 p2 p3 p4 p5
        go_wp2
        go_ret
        exact ⟨rfl, BB.out⟩
    · have k1 : decide ((l.length : Int) > 300) = true := by simp; omega
      have HG := Lib.hid hg
      have BS0 := Lib.hid (fun o => (Box.new W0 s a 27).below ((Below.refl _ _).alloc (Nat.le_refl _) o))
      have BB0 := Lib.hid (fun o o' => ((Below.refl W0.heap.size W0).alloc (Nat.le_refl _) o).alloc (by simp) o')
      have CA := Lib.hid (fun o o' => lAlive ((W0.alloc o).alloc o') (hT.below (BB0.out o o')))
      clear h hok hg hT hl hp h64l h64
      unfold slv pv
      go_enter Tryd.func9, Tryd.ntmps9
      go_wp2_with fail
      refine (CA.out _ _).mono ?_
      rintro e W ⟨rfl, hb⟩
      have BB := Lib.hid ((BB0.out _ _).trans (hb.mono (by simp; omega)))
      have BS := Lib.hid ((BS0.out _).below hb)
      clear hb BB0 BS0 CA
      obtain ⟨_, p0, p1, p2, p3, p4, p5, _⟩ := BS.out
      go_wp2_with fail
      refine (r4Great s a 300 _).mono ?_
      rintro e W1 ⟨rfl, hb⟩
      rw [HG.out]
      replace BB := Lib.hid (BB.out.trans (hb.mono BB.out.size))
      clear hb p0 p1 p2 p3 p4 p5
      go_wp2
      go_ret
      exact ⟨rfl, BB.out⟩
  · skip
    have HG := Lib.hid hg
    have BS0 := Lib.hid (fun o => (Box.new W0 s a 27).below ((Below.refl _ _).alloc (Nat.le_refl _) o))
    have BB0 := Lib.hid (fun o o' => ((Below.refl W0.heap.size W0).alloc (Nat.le_refl _) o).alloc (by simp) o')
    have CA := Lib.hid (fun o o' => lAlive ((W0.alloc o).alloc o') (hT.below (BB0.out o o')))
    clear h hok hg hT hl hp h64l h64
    unfold slv pv
    go_enter Tryd.func9, Tryd.ntmps9
    go_wp2_with fail
    refine (CA.out _ _).mono ?_
    rintro e W ⟨rfl, hb⟩
    have BB := Lib.hid ((BB0.out _ _).trans (hb.mono (by simp; omega)))
    have BS := Lib.hid ((BS0.out _).below hb)
    clear hb BB0 BS0 CA
    obtain ⟨_, p0, p1, p2, p3, p4, p5, _⟩ := BS.out
    go_wp2_with fail
    refine (r4Great s a 300 _).mono ?_
    rintro e W1 ⟨rfl, hb⟩
    rw [HG.out]
    replace BB := Lib.hid (BB.out.trans (hb.mono BB.out.size))
    clear hb p0 p1 p2 p3 p4 p5
    go_wp2
    go_ret
    exact ⟨rfl, BB.out⟩
end Go.Proofs.YtifffaigmfahdaaDoor.slotsWhole

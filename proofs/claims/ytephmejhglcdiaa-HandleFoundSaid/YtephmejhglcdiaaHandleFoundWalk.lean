/- The walk of the law HandleFound: what is given out is found where it is, and is new, and all others stay. -/
import Derived.Test.YtephmejhglcdiaaAlive14
namespace Go.Proofs.Ytephmejhglcdiaa.handleFound
open Go.RowKit
set_option linter.unusedVariables false
set_option linter.unusedSimpArgs false

set_option maxRecDepth 100000 in
set_option maxHeartbeats 16000000 in
theorem bad (t : Ht) (A : HAds) (p : Int) (o : Int × Int) (W : World) (h : HHeld W t A) (ok : t.Ok) (hp : In64 p) (o1 : In64 o.1) (o2 : In64 o.2) (g1 : t.gens.length ≤ 300) (g2 : t.ats.length ≤ 300) (hc : ¬ Hn.makeE t p = 0) (hv0 : Hn.makeV t p = Ht.zero) (hh0 : Hn.makeH t p = (0, 0)) :
    Calls Try.prog 6 #[hv t A, .int .i64 p, pv o] W fun e w' => e = .returned (.bool true) ∧ Below W.heap.size W w' := by
  have hs : t.Short := ⟨by omega, by omega⟩
  have HB := Lib.hid (fun a b => ((Below.refl W.heap.size W).alloc (Nat.le_refl _) a).alloc (by simp) b)
  have HT := Lib.hid (fun a => (HBox.new W t A 24).below ((Below.refl _ _).alloc (Nat.le_refl _) a))
  have HP := Lib.hid (fun a => PBox.new (W.alloc a) o 26)
  have HH := Lib.hid h
  have c0 := Lib.hid (fun V => l14Alive V)
  have c1 := Lib.hid (fun V (hb : Below W.heap.size W V) => hMake t A p V (h.below hb) ok hs hp)
  rw [hv0, hh0] at c1
  obtain ⟨E1, hE1⟩ : ∃ E, E = Hn.makeE t p := ⟨_, rfl⟩
  rw [← hE1] at c1 hc
  have k1 : (E1 != 0) = true := by simp [hc]
  obtain ⟨M, hM⟩ : ∃ M, M = Ht.zero := ⟨_, rfl⟩
  obtain ⟨X, hX⟩ : ∃ X : Int × Int, X = (0, 0) := ⟨_, rfl⟩
  rw [← hM, ← hX] at c1
  have m0 := Lib.hid (show M.gens.length = 0 by rw [hM]; rfl)
  have k2 : (X.1 == 0) = true := by rw [hX]; rfl
  have k3 : (X.2 == 0) = true := by rw [hX]; rfl
  clear hE1 hc hM hX hv0 hh0
  clear h ok hs hp o1 o2
  unfold hv at c1
  unfold hv pv
  go_enter Try.func6, Try.ntmps6
  go_upto_region 1 with (fail)
  obtain ⟨W0, hW0⟩ : ∃ V, V = (W.alloc (.cells #[.slice A.g t.gens.length A.cg, .slice A.a t.ats.length A.ca] 24)).alloc (.cells #[.int .i64 o.1, .int .i64 o.2] 26) := ⟨_, rfl⟩
  have BT := Lib.hid (show HBox W0 W.heap.size t A by rw [hW0]; exact HT.out _)
  have BP := Lib.hid (show PBox W0 (W.heap.size + 1) o by rw [hW0]; have := HP.out (.cells #[.slice A.g t.gens.length A.cg, .slice A.a t.ats.length A.ca] 24); rw [World.size_alloc] at this; exact this)
  have BB := Lib.hid (show Below W.heap.size W W0 by rw [hW0]; exact HB.out _ _)
  rw [← hW0]
  clear hW0 HB HT HP
  go_wp2_with fail
  refine (c0.out W0).mono ?_
  rintro e x1 ⟨rfl, hb⟩
  have zzx1 : W0.heap.size ≤ x1.heap.size := hb.size
  replace BT := Lib.hid (BT.out.below hb)
  replace BP := Lib.hid (BP.out.below hb)
  replace BB := Lib.hid (BB.out.trans (hb.mono BB.out.size))
  clear hb 
  obtain ⟨_, hBT0, hBT1, _, _⟩ := BT.out
  try dsimp only at hBT0 hBT1
  go_wp2_with fail
  refine (c1.out x1 BB.out).mono ?_
  rintro e x2 ⟨A1, rfl, own, hb⟩
  have zzx2 : x1.heap.size ≤ x2.heap.size := hb.size
  replace BT := Lib.hid (BT.out.below hb)
  replace BP := Lib.hid (BP.out.below hb)
  replace BB := Lib.hid (BB.out.trans (hb.mono BB.out.size))
  have O1 := Lib.hid own
  clear own
  clear hb hBT0 hBT1
  clear O1
  try unfold hv
  try unfold pv
  go_upto_region 5 with (fail)
  obtain ⟨V3, hV⟩ : ∃ V, V = ((x2).alloc (.cells #[.slice A1.g M.gens.length A1.cg, .slice A1.a M.ats.length A1.ca] 24)).alloc (.cells #[.int .i64 X.1, .int .i64 X.2] 26) := ⟨_, rfl⟩
  have hba : Below x2.heap.size x2 V3 := by rw [hV]; exact ((Below.refl _ _).alloc (Nat.le_refl _) _).alloc (by simp) _
  have zzV3 : x2.heap.size + 2 ≤ V3.heap.size := by rw [hV]; simp
  have BM := Lib.hid (show HBox V3 (x2.heap.size) M A1 by rw [hV]; have := HBox.new (x2) M A1 24; (try (simp only [World.size_alloc] at this)); exact (this).below ((Below.refl _ _).alloc (Nat.le_refl _) _))
  have BX := Lib.hid (show PBox V3 (x2.heap.size + 1) X by rw [hV]; have := PBox.new ((x2).alloc (.cells #[.slice A1.g M.gens.length A1.cg, .slice A1.a M.ats.length A1.ca] 24)) X 26; (try (simp only [World.size_alloc] at this)); exact this)
  rw [← hV]
  replace BT := Lib.hid (BT.out.below hba)
  replace BP := Lib.hid (BP.out.below hba)
  replace BB := Lib.hid (BB.out.trans (hba.mono BB.out.size))
  clear hV hba
  obtain ⟨_, hBM0, hBM1, _, _⟩ := BM.out
  obtain ⟨_, hBX0, hBX1, _, _⟩ := BX.out
  try dsimp only at hBM0 hBM1 hBX0 hBX1
  rw [m0.out] at hBM0
  go_wp2
  go_ret
  exact ⟨rfl, BB.out⟩
set_option maxRecDepth 100000 in
set_option maxHeartbeats 16000000 in
theorem good (t : Ht) (A : HAds) (p : Int) (o : Int × Int) (W : World) (h : HHeld W t A) (ok : t.Ok) (hp : In64 p) (o1 : In64 o.1) (o2 : In64 o.2) (g1 : t.gens.length ≤ 300) (g2 : t.ats.length ≤ 300) (hm : Hn.May t) (h0 : 0 ≤ p) (hf : Hn.fullB t = false) (hc : Hn.makeE t p = 0) (hv0 : Hn.makeV t p = Hn.given t p) (hh0 : Hn.makeH t p = Hn.hnd t) :
    Calls Try.prog 6 #[hv t A, .int .i64 p, pv o] W fun e w' => e = .returned (.bool true) ∧ Below W.heap.size W w' := by
  have hs : t.Short := ⟨by omega, by omega⟩
  have HB := Lib.hid (fun a b => ((Below.refl W.heap.size W).alloc (Nat.le_refl _) a).alloc (by simp) b)
  have HT := Lib.hid (fun a => (HBox.new W t A 24).below ((Below.refl _ _).alloc (Nat.le_refl _) a))
  have HP := Lib.hid (fun a => PBox.new (W.alloc a) o 26)
  have HH := Lib.hid h
  have c0 := Lib.hid (fun V => l14Alive V)
  have c1 := Lib.hid (fun V (hb : Below W.heap.size W V) => hMake t A p V (h.below hb) ok hs hp)
  have okm := ok_make ok hp
  have hsm := short_make t p
  have x64 := hnd_64 t ok p
  have c2 := Lib.hid (fun V (hb : Below W.heap.size W V) => hLive t A V (h.below hb) ok hs)
  have c3 := Lib.hid (fun A1 V (q : HHeld V (Hn.makeV t p) A1) => hLive (Hn.makeV t p) A1 V q okm hsm)
  have c4 := Lib.hid (fun V (hb : Below W.heap.size W V) => hFind t A o V (h.below hb) ok hs o1 o2)
  have c5 := Lib.hid (fun A1 V (q : HHeld V (Hn.makeV t p) A1) => hFind (Hn.makeV t p) A1 o V q okm hsm o1 o2)
  have c6 := Lib.hid (fun A1 V (q : HHeld V (Hn.makeV t p) A1) => l14At (Hn.makeV t p) A1 (Hn.makeH t p) p V q okm hsm x64.1 x64.2)
  have c7 := Lib.hid (fun V (hb : Below W.heap.size W V) => l14Lost t A (Hn.makeH t p) V (h.below hb) ok hs x64.1 x64.2)
  have c8 := Lib.hid (fun A1 V (q : HHeld V (Hn.makeV t p) A1) => hCheck (Hn.makeV t p) A1 V q okm hsm)
  clear okm hsm x64
  have hm' := Hn.may_given hm hf h0
  have l1 : Hn.liveV t = ((Hn.live t.ats : Nat) : Int) := by unfold Hn.liveV; rw [if_pos (Hn.chk_may.2 hm)]
  have l2 : Hn.liveV (Hn.given t p) = ((Hn.live t.ats : Nat) : Int) + 1 := by unfold Hn.liveV; rw [if_pos (Hn.chk_may.2 hm'), Hn.live_given hm h0]; simp
  have l3 : Hn.live t.ats ≤ 300 := Nat.le_trans (live_le _) g2
  have fo := Hn.made_found hm hf h0
  have nw := Hn.made_new hm
  have HO := Lib.hid (fun (q : o ≠ Hn.hnd t) => Hn.made_other hm hf h0 q)
  rw [hv0, hh0, hc] at c1
  rw [hv0, hh0, fo.1, fo.2] at c6
  rw [hh0, nw] at c7
  rw [l1, Hn.chk_may.2 hm] at c2
  rw [hv0, l2, Hn.chk_may.2 hm'] at c3
  rw [hv0] at c5
  rw [hv0, Hn.chk_may.2 hm'] at c8
  obtain ⟨n, hn⟩ : ∃ n, n = Hn.live t.ats := ⟨_, rfl⟩
  rw [← hn] at c2 c3 l3
  obtain ⟨M, hM⟩ : ∃ M, M = Hn.given t p := ⟨_, rfl⟩
  rw [← hM] at c1 c3 c5 c6 c8 HO
  obtain ⟨X, hX⟩ : ∃ X, X = Hn.hnd t := ⟨_, rfl⟩
  rw [← hX] at c1 c6 c7 HO
  obtain ⟨V1, hV1⟩ : ∃ E, E = Hn.findV t o := ⟨_, rfl⟩
  obtain ⟨E1, hE1⟩ : ∃ E, E = Hn.findE t o := ⟨_, rfl⟩
  obtain ⟨V2, hV2⟩ : ∃ E, E = Hn.findV M o := ⟨_, rfl⟩
  obtain ⟨E2, hE2⟩ : ∃ E, E = Hn.findE M o := ⟨_, rfl⟩
  rw [← hV1, ← hE1] at c4 HO
  rw [← hV2, ← hE2] at c5 HO
  have t1 : (decide ((0 : Int) = 0) && decide (p = p)) = true := by simp
  have t2 : decide ((140 : Int) = 140) = true := by simp
  rw [t1] at c6
  rw [t2] at c7
  have w1 : IntKind.i64.wrap ((n : Int) + 1) = (n : Int) + 1 := IntWalk.i64_in _ (by omega)
  clear hn hM hX hV1 hE1 hV2 hE2 hv0 hh0 hc l1 l2 fo nw hm' hm hf h0 t1 t2
  unfold hv at c2 c3 c8
  unfold hv pv at c4 c5 c6 c7
  clear h ok hs hp o1 o2
  unfold hv at c1
  unfold hv pv
  go_enter Try.func6, Try.ntmps6
  go_upto_region 1 with (fail)
  obtain ⟨W0, hW0⟩ : ∃ V, V = (W.alloc (.cells #[.slice A.g t.gens.length A.cg, .slice A.a t.ats.length A.ca] 24)).alloc (.cells #[.int .i64 o.1, .int .i64 o.2] 26) := ⟨_, rfl⟩
  have BT := Lib.hid (show HBox W0 W.heap.size t A by rw [hW0]; exact HT.out _)
  have BP := Lib.hid (show PBox W0 (W.heap.size + 1) o by rw [hW0]; have := HP.out (.cells #[.slice A.g t.gens.length A.cg, .slice A.a t.ats.length A.ca] 24); rw [World.size_alloc] at this; exact this)
  have BB := Lib.hid (show Below W.heap.size W W0 by rw [hW0]; exact HB.out _ _)
  rw [← hW0]
  clear hW0 HB HT HP
  go_wp2_with fail
  refine (c0.out W0).mono ?_
  rintro e x4 ⟨rfl, hb⟩
  have zzx4 : W0.heap.size ≤ x4.heap.size := hb.size
  replace BT := Lib.hid (BT.out.below hb)
  replace BP := Lib.hid (BP.out.below hb)
  replace BB := Lib.hid (BB.out.trans (hb.mono BB.out.size))
  clear hb 
  obtain ⟨_, hBT0, hBT1, _, _⟩ := BT.out
  try dsimp only at hBT0 hBT1
  go_wp2_with fail
  refine (c1.out x4 BB.out).mono ?_
  rintro e x5 ⟨A1, rfl, own, hb⟩
  have zzx5 : x4.heap.size ≤ x5.heap.size := hb.size
  replace BT := Lib.hid (BT.out.below hb)
  replace BP := Lib.hid (BP.out.below hb)
  replace BB := Lib.hid (BB.out.trans (hb.mono BB.out.size))
  have O1 := Lib.hid own
  clear own
  clear hb hBT0 hBT1
  have HM := Lib.hid O1.out.held
  clear O1
  try unfold hv
  try unfold pv
  go_upto_region 5 with (fail)
  obtain ⟨V6, hV⟩ : ∃ V, V = ((x5).alloc (.cells #[.slice A1.g M.gens.length A1.cg, .slice A1.a M.ats.length A1.ca] 24)).alloc (.cells #[.int .i64 X.1, .int .i64 X.2] 26) := ⟨_, rfl⟩
  have hba : Below x5.heap.size x5 V6 := by rw [hV]; exact ((Below.refl _ _).alloc (Nat.le_refl _) _).alloc (by simp) _
  have zzV6 : x5.heap.size + 2 ≤ V6.heap.size := by rw [hV]; simp
  have BM := Lib.hid (show HBox V6 (x5.heap.size) M A1 by rw [hV]; have := HBox.new (x5) M A1 24; (try (simp only [World.size_alloc] at this)); exact (this).below ((Below.refl _ _).alloc (Nat.le_refl _) _))
  have BX := Lib.hid (show PBox V6 (x5.heap.size + 1) X by rw [hV]; have := PBox.new ((x5).alloc (.cells #[.slice A1.g M.gens.length A1.cg, .slice A1.a M.ats.length A1.ca] 24)) X 26; (try (simp only [World.size_alloc] at this)); exact this)
  rw [← hV]
  replace BT := Lib.hid (BT.out.below hba)
  replace BP := Lib.hid (BP.out.below hba)
  replace HM := Lib.hid (HM.out.below hba)
  replace BB := Lib.hid (BB.out.trans (hba.mono BB.out.size))
  clear hV hba
  obtain ⟨_, hBT0, hBT1, _, _⟩ := BT.out
  try dsimp only at hBT0 hBT1
  go_wp2_with fail
  refine (c2.out V6 BB.out).mono ?_
  rintro e x7 ⟨rfl, hb⟩
  have zzx7 : V6.heap.size ≤ x7.heap.size := hb.size
  replace BT := Lib.hid (BT.out.below hb)
  replace BP := Lib.hid (BP.out.below hb)
  replace HM := Lib.hid (HM.out.below hb)
  replace BM := Lib.hid (BM.out.below hb)
  replace BX := Lib.hid (BX.out.below hb)
  replace BB := Lib.hid (BB.out.trans (hb.mono BB.out.size))
  clear hb hBT0 hBT1
  obtain ⟨_, hBM0, hBM1, _, _⟩ := BM.out
  try dsimp only at hBM0 hBM1
  go_wp2_with fail
  refine (c3.out A1 x7 HM.out).mono ?_
  rintro e x8 ⟨rfl, hb⟩
  have zzx8 : x7.heap.size ≤ x8.heap.size := hb.size
  replace BT := Lib.hid (BT.out.below hb)
  replace BP := Lib.hid (BP.out.below hb)
  replace HM := Lib.hid (HM.out.below hb)
  replace BM := Lib.hid (BM.out.below hb)
  replace BX := Lib.hid (BX.out.below hb)
  replace BB := Lib.hid (BB.out.trans (hb.mono BB.out.size))
  clear hb hBM0 hBM1
  obtain ⟨_, hBT0, hBT1, _, _⟩ := BT.out
  obtain ⟨_, hBP0, hBP1, _, _⟩ := BP.out
  try dsimp only at hBT0 hBT1 hBP0 hBP1
  go_wp2_with fail
  refine (c4.out x8 BB.out).mono ?_
  rintro e x9 ⟨rfl, hb⟩
  have zzx9 : x8.heap.size ≤ x9.heap.size := hb.size
  replace BT := Lib.hid (BT.out.below hb)
  replace BP := Lib.hid (BP.out.below hb)
  replace HM := Lib.hid (HM.out.below hb)
  replace BM := Lib.hid (BM.out.below hb)
  replace BX := Lib.hid (BX.out.below hb)
  replace BB := Lib.hid (BB.out.trans (hb.mono BB.out.size))
  clear hb hBT0 hBT1 hBP0 hBP1
  obtain ⟨_, hBM0, hBM1, _, _⟩ := BM.out
  obtain ⟨_, hBP0, hBP1, _, _⟩ := BP.out
  try dsimp only at hBM0 hBM1 hBP0 hBP1
  go_wp2_with fail
  refine (c5.out A1 x9 HM.out).mono ?_
  rintro e x10 ⟨rfl, hb⟩
  have zzx10 : x9.heap.size ≤ x10.heap.size := hb.size
  replace BT := Lib.hid (BT.out.below hb)
  replace BP := Lib.hid (BP.out.below hb)
  replace HM := Lib.hid (HM.out.below hb)
  replace BM := Lib.hid (BM.out.below hb)
  replace BX := Lib.hid (BX.out.below hb)
  replace BB := Lib.hid (BB.out.trans (hb.mono BB.out.size))
  clear hb hBM0 hBM1 hBP0 hBP1
  obtain ⟨_, hBM0, hBM1, _, _⟩ := BM.out
  obtain ⟨_, hBX0, hBX1, _, _⟩ := BX.out
  try dsimp only at hBM0 hBM1 hBX0 hBX1
  go_wp2_with fail
  refine (c6.out A1 x10 HM.out).mono ?_
  rintro e x11 ⟨rfl, hb⟩
  have zzx11 : x10.heap.size ≤ x11.heap.size := hb.size
  replace BT := Lib.hid (BT.out.below hb)
  replace BP := Lib.hid (BP.out.below hb)
  replace HM := Lib.hid (HM.out.below hb)
  replace BM := Lib.hid (BM.out.below hb)
  replace BX := Lib.hid (BX.out.below hb)
  replace BB := Lib.hid (BB.out.trans (hb.mono BB.out.size))
  clear hb hBM0 hBM1 hBX0 hBX1
  obtain ⟨_, hBT0, hBT1, _, _⟩ := BT.out
  obtain ⟨_, hBX0, hBX1, _, _⟩ := BX.out
  try dsimp only at hBT0 hBT1 hBX0 hBX1
  go_wp2_with fail
  refine (c7.out x11 BB.out).mono ?_
  rintro e x12 ⟨rfl, hb⟩
  have zzx12 : x11.heap.size ≤ x12.heap.size := hb.size
  replace BT := Lib.hid (BT.out.below hb)
  replace BP := Lib.hid (BP.out.below hb)
  replace HM := Lib.hid (HM.out.below hb)
  replace BM := Lib.hid (BM.out.below hb)
  replace BX := Lib.hid (BX.out.below hb)
  replace BB := Lib.hid (BB.out.trans (hb.mono BB.out.size))
  clear hb hBT0 hBT1 hBX0 hBX1
  obtain ⟨_, hBM0, hBM1, _, _⟩ := BM.out
  try dsimp only at hBM0 hBM1
  go_wp2_with fail
  refine (c8.out A1 x12 HM.out).mono ?_
  rintro e x13 ⟨rfl, hb⟩
  have zzx13 : x12.heap.size ≤ x13.heap.size := hb.size
  replace BT := Lib.hid (BT.out.below hb)
  replace BP := Lib.hid (BP.out.below hb)
  replace HM := Lib.hid (HM.out.below hb)
  replace BM := Lib.hid (BM.out.below hb)
  replace BX := Lib.hid (BX.out.below hb)
  replace BB := Lib.hid (BB.out.trans (hb.mono BB.out.size))
  clear hb hBM0 hBM1
  obtain ⟨_, hBP0, hBP1, _, _⟩ := BP.out
  obtain ⟨_, hBX0, hBX1, _, _⟩ := BX.out
  try dsimp only at hBP0 hBP1 hBX0 hBX1
  have DF := Lib.hid (show ((o.1 == X.1) && (o.2 == X.2)) = false → V1 = V2 ∧ E1 = E2 from fun q => by
      have := HO.out (by rintro rfl; simp at q)
      exact ⟨this.2, this.1⟩)
  clear HO
  cases k1 : (o.1 == X.1)
  all_goals cases k2 : (o.2 == X.2)
  all_goals rw [k1, k2] at DF
  all_goals try (obtain ⟨rfl, rfl⟩ := DF.out rfl)
  all_goals
    clear DF
    go_wp2
    go_ret
    exact ⟨rfl, BB.out⟩
set_option maxRecDepth 100000 in
set_option maxHeartbeats 16000000 in
theorem great (t : Ht) (A : HAds) (p : Int) (o : Int × Int) (W : World) (h : HHeld W t A) (ok : t.Ok) (hp : In64 p) (o1 : In64 o.1) (o2 : In64 o.2) (hg : ¬ (t.gens.length ≤ 300 ∧ t.ats.length ≤ 300)) :
    Calls Try.prog 6 #[hv t A, .int .i64 p, pv o] W fun e w' => e = .returned (.bool true) ∧ Below W.heap.size W w' := by
  have HB := Lib.hid (fun a b => ((Below.refl W.heap.size W).alloc (Nat.le_refl _) a).alloc (by simp) b)
  have HT := Lib.hid (fun a => (HBox.new W t A 24).below ((Below.refl _ _).alloc (Nat.le_refl _) a))
  have c0 := Lib.hid (fun V => l14Alive V)
  clear h ok hp o1 o2
  unfold hv pv
  by_cases g1 : t.gens.length ≤ 300
  all_goals by_cases g2 : t.ats.length ≤ 300
  all_goals first
  | exact absurd (And.intro g1 g2) hg
  | skip
  all_goals
    clear hg
    go_enter Try.func6, Try.ntmps6
    go_upto_region 1 with (fail)
    obtain ⟨W0, hW0⟩ : ∃ V, V = (W.alloc (.cells #[.slice A.g t.gens.length A.cg, .slice A.a t.ats.length A.ca] 24)).alloc (.cells #[.int .i64 o.1, .int .i64 o.2] 26) := ⟨_, rfl⟩
    have BT := Lib.hid (show HBox W0 W.heap.size t A by rw [hW0]; exact HT.out _)
    have BB := Lib.hid (show Below W.heap.size W W0 by rw [hW0]; exact HB.out _ _)
    rw [← hW0]
    clear hW0 HB HT
    go_wp2_with fail
    refine (c0.out W0).mono ?_
    rintro e w1 ⟨rfl, hb⟩
    replace BB := Lib.hid (BB.out.trans (hb.mono BB.out.size))
    obtain ⟨_, p0, p1, _, _⟩ := BT.out.below hb
    clear hb c0 BT
    go_wp2
    go_ret
    exact ⟨rfl, BB.out⟩
theorem walk (t : Ht) (A : HAds) (p : Int) (o : Int × Int) (W : World) (h : HHeld W t A) (ok : t.Ok) (hp : In64 p) (o1 : In64 o.1) (o2 : In64 o.2) :
    Calls Try.prog 6 #[hv t A, .int .i64 p, pv o] W fun e w' => e = .returned (.bool true) ∧ Below W.heap.size W w' := by
  by_cases hg : t.gens.length ≤ 300 ∧ t.ats.length ≤ 300
  · rcases Hn.make_cases t p with ⟨e, hm, h0, hf, v, x⟩ | ⟨e, v, x⟩
    · exact good t A p o W h ok hp o1 o2 hg.1 hg.2 hm h0 hf e v x
    · exact bad t A p o W h ok hp o1 o2 hg.1 hg.2 e v x
  · exact great t A p o W h ok hp o1 o2 hg
end Go.Proofs.Ytephmejhglcdiaa.handleFound

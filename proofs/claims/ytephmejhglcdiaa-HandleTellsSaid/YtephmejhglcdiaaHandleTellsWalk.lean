/- The walk of the law HandleTells: checks, copies, how many are given out, and where one is. -/
import Derived.Test.YtephmejhglcdiaaLaw14
namespace Go.Proofs.Ytephmejhglcdiaa.handleTells
open Go.RowKit
set_option linter.unusedVariables false
set_option linter.unusedSimpArgs false

theorem sameB_self (t : Ht) : Hn.sameB t t = true := by unfold Hn.sameB; simp
set_option maxRecDepth 100000 in
set_option maxHeartbeats 16000000 in
theorem small (t o : Ht) (A B : HAds) (x : Int × Int) (W : World) (h : HHeld W t A) (ok : t.Ok) (h' : HHeld W o B) (ok' : o.Ok) (x1 : In64 x.1) (x2 : In64 x.2) (g1 : t.gens.length ≤ 300) (g2 : t.ats.length ≤ 300) (g3 : o.gens.length ≤ 300) (g4 : o.ats.length ≤ 300) :
    Calls Try.prog 4 #[hv t A, hv o B, pv x] W fun e w' => e = .returned (.bool true) ∧ Below W.heap.size W w' := by
  have hs : t.Short := ⟨by omega, by omega⟩
  have hs' : o.Short := ⟨by omega, by omega⟩
  have HB := Lib.hid (fun a b c => (((Below.refl W.heap.size W).alloc (Nat.le_refl _) a).alloc (by simp) b).alloc (by simp; omega) c)
  have HT := Lib.hid (fun a b => ((HBox.new W t A 24).below ((Below.refl _ _).alloc (Nat.le_refl _) a)).below ((Below.refl _ _).alloc (Nat.le_refl _) b))
  have HO := Lib.hid (fun a b => (HBox.new (W.alloc a) o B 24).below ((Below.refl _ _).alloc (Nat.le_refl _) b))
  have HP := Lib.hid (fun a b => PBox.new ((W.alloc a).alloc b) x 26)
  have c1 := Lib.hid (fun V (hb : Below W.heap.size W V) => r14Twin t A V (h.below hb) hs)
  have c2 := Lib.hid (fun A1 V (q : HHeld V t A1) => hTwin t A1 V q ok hs)
  have c3 := Lib.hid (fun A1 V (q : HHeld V t A1) => hLive t A1 V q ok hs)
  have c4 := Lib.hid (fun V (hb : Below W.heap.size W V) => r14Live t A V (h.below hb))
  have c5 := Lib.hid (fun A1 V (q : HHeld V t A1) => hFind t A1 x V q ok hs x1 x2)
  have c6 := Lib.hid (fun V (hb : Below W.heap.size W V) => r14Find t A x V (h.below hb))
  have c7 := Lib.hid (fun A1 V (q : HHeld V t A1) => hCheck t A1 V q ok hs)
  have c8 := Lib.hid (fun V (hb : Below W.heap.size W V) => r14Check t A V (h.below hb))
  have c9 := Lib.hid (fun A1 V (q : HHeld V t A1) (hb : Below W.heap.size W V) => hSame t o A1 B V q (h'.below hb) ok ok' hs hs')
  have c10 := Lib.hid (fun V (hb : Below W.heap.size W V) => r14Same t o A B V (h.below hb) (h'.below hb) hs hs')
  have c11 := Lib.hid (fun A1 V (q : HHeld V t A1) (hb : Below W.heap.size W V) => hSame t t A1 A V q (h.below hb) ok ok hs hs)
  have c12 := Lib.hid (fun A1 V (q : HHeld V t A1) (hb : Below W.heap.size W V) => r14Same t t A1 A V q (h.below hb) hs hs)
  have c13 := Lib.hid (fun A1 B1 U1 V (q : SoftH V B1 U1 t A1) (hB : B1 ≤ V.heap.size) => l14Spoil t A1 B1 U1 V q hB hs)
  rw [sameB_self] at c11 c12
  obtain ⟨E1, hE1⟩ : ∃ E, E = Hn.liveV t := ⟨_, rfl⟩
  obtain ⟨E2, hE2⟩ : ∃ E, E = Hn.chkE t := ⟨_, rfl⟩
  obtain ⟨E3, hE3⟩ : ∃ E, E = Hn.findV t x := ⟨_, rfl⟩
  obtain ⟨E4, hE4⟩ : ∃ E, E = Hn.findE t x := ⟨_, rfl⟩
  obtain ⟨E5, hE5⟩ : ∃ E, E = Hn.sameB t o := ⟨_, rfl⟩
  rw [← hE1, ← hE2] at c3 c4
  rw [← hE2] at c7 c8
  rw [← hE3, ← hE4] at c5 c6
  rw [← hE5] at c9 c10
  clear hE1 hE2 hE3 hE4 hE5 h h' ok ok' hs hs' x1 x2
  unfold hv at c1 c2 c3 c4 c7 c8 c9 c10 c11 c12 c13
  unfold hv pv at c5 c6
  unfold hv pv
  go_enter Try.func4, Try.ntmps4
  go_upto_region 3 with (fail)
  obtain ⟨W0, hW0⟩ : ∃ V, V = ((W.alloc (.cells #[.slice A.g t.gens.length A.cg, .slice A.a t.ats.length A.ca] 24)).alloc (.cells #[.slice B.g o.gens.length B.cg, .slice B.a o.ats.length B.ca] 24)).alloc (.cells #[.int .i64 x.1, .int .i64 x.2] 26) := ⟨_, rfl⟩
  have BT := Lib.hid (show HBox W0 W.heap.size t A by rw [hW0]; exact HT.out _ _)
  have BO := Lib.hid (show HBox W0 (W.heap.size + 1) o B by rw [hW0]; have := HO.out (.cells #[.slice A.g t.gens.length A.cg, .slice A.a t.ats.length A.ca] 24) (.cells #[.int .i64 x.1, .int .i64 x.2] 26); rw [World.size_alloc] at this; exact this)
  have BP := Lib.hid (show PBox W0 (W.heap.size + 1 + 1) x by rw [hW0]; have := HP.out (.cells #[.slice A.g t.gens.length A.cg, .slice A.a t.ats.length A.ca] 24) (.cells #[.slice B.g o.gens.length B.cg, .slice B.a o.ats.length B.ca] 24); rw [World.size_alloc, World.size_alloc] at this; exact this)
  have BB := Lib.hid (show Below W.heap.size W W0 by rw [hW0]; exact HB.out _ _ _)
  have z0 : W.heap.size + 3 ≤ W0.heap.size := by rw [hW0]; simp
  rw [← hW0]
  clear hW0 HB HT HO HP g1 g2 g3 g4
  obtain ⟨_, hBT0, hBT1, _, _⟩ := BT.out
  try dsimp only at hBT0 hBT1
  go_wp2_with fail
  refine (c1.out W0 BB.out).mono ?_
  rintro e x1 ⟨A1, rfl, own, hb⟩
  have zzx1 : W0.heap.size ≤ x1.heap.size := hb.size
  replace BT := Lib.hid (BT.out.below hb)
  replace BO := Lib.hid (BO.out.below hb)
  replace BP := Lib.hid (BP.out.below hb)
  replace BB := Lib.hid (BB.out.trans (hb.mono BB.out.size))
  have O1 := Lib.hid own
  clear own
  clear hb hBT0 hBT1
  try unfold hv
  try unfold pv
  go_upto_region 4 with (fail)
  obtain ⟨V2, hV⟩ : ∃ V, V = (x1).alloc (.cells #[.slice A1.g t.gens.length A1.cg, .slice A1.a t.ats.length A1.ca] 24) := ⟨_, rfl⟩
  have hba : Below x1.heap.size x1 V2 := by rw [hV]; exact (Below.refl _ _).alloc (Nat.le_refl _) _
  have zzV2 : x1.heap.size + 1 ≤ V2.heap.size := by rw [hV]; simp
  have BW := Lib.hid (show HBox V2 (x1.heap.size) t A1 by rw [hV]; have := HBox.new (x1) t A1 24; (try (simp only [World.size_alloc] at this)); exact this)
  rw [← hV]
  replace BT := Lib.hid (BT.out.below hba)
  replace BO := Lib.hid (BO.out.below hba)
  replace BP := Lib.hid (BP.out.below hba)
  replace O1 := Lib.hid (O1.out.below hba)
  replace BB := Lib.hid (BB.out.trans (hba.mono BB.out.size))
  clear hV hba
  have BY := Lib.hid (Below.refl V2.heap.size V2)
  have OW := Lib.hid O1.out.held
  clear O1
  obtain ⟨_, hBW0, hBW1, _, _⟩ := BW.out
  try dsimp only at hBW0 hBW1
  go_wp2_with fail
  refine (c2.out A1 V2 (OW.out.below BY.out)).mono ?_
  rintro e x3 ⟨A2, rfl, own, hb⟩
  have zzx3 : V2.heap.size ≤ x3.heap.size := hb.size
  replace BT := Lib.hid (BT.out.below hb)
  replace BO := Lib.hid (BO.out.below hb)
  replace BP := Lib.hid (BP.out.below hb)
  replace BW := Lib.hid (BW.out.below hb)
  replace BB := Lib.hid (BB.out.trans (hb.mono BB.out.size))
  replace BY := Lib.hid (BY.out.trans (hb.mono BY.out.size))
  have O2 := Lib.hid own
  clear own
  clear hb hBW0 hBW1
  have S2 := Lib.hid O2.out.soft
  have X2 := Lib.hid O2.out.held
  have Y2 := Lib.hid (Below.refl x3.heap.size x3)
  clear O2
  try unfold hv
  try unfold pv
  go_upto_region 5 with (fail)
  obtain ⟨V4, hV⟩ : ∃ V, V = (x3).alloc (.cells #[.slice A2.g t.gens.length A2.cg, .slice A2.a t.ats.length A2.ca] 24) := ⟨_, rfl⟩
  have hba : Below x3.heap.size x3 V4 := by rw [hV]; exact (Below.refl _ _).alloc (Nat.le_refl _) _
  have zzV4 : x3.heap.size + 1 ≤ V4.heap.size := by rw [hV]; simp
  have BXx := Lib.hid (show HBox V4 (x3.heap.size) t A2 by rw [hV]; have := HBox.new (x3) t A2 24; (try (simp only [World.size_alloc] at this)); exact this)
  rw [← hV]
  replace BT := Lib.hid (BT.out.below hba)
  replace BO := Lib.hid (BO.out.below hba)
  replace BP := Lib.hid (BP.out.below hba)
  replace BW := Lib.hid (BW.out.below hba)
  replace S2 := Lib.hid (S2.out.below hba)
  replace BB := Lib.hid (BB.out.trans (hba.mono BB.out.size))
  replace BY := Lib.hid (BY.out.trans (hba.mono BY.out.size))
  replace Y2 := Lib.hid (Y2.out.trans (hba.mono Y2.out.size))
  clear hV hba
  obtain ⟨_, hBW0, hBW1, _, _⟩ := BW.out
  try dsimp only at hBW0 hBW1
  go_wp2_with fail
  refine (c3.out A1 V4 (OW.out.below BY.out)).mono ?_
  rintro e x5 ⟨rfl, hb⟩
  have zzx5 : V4.heap.size ≤ x5.heap.size := hb.size
  replace BT := Lib.hid (BT.out.below hb)
  replace BO := Lib.hid (BO.out.below hb)
  replace BP := Lib.hid (BP.out.below hb)
  replace BW := Lib.hid (BW.out.below hb)
  replace S2 := Lib.hid (S2.out.below hb)
  replace BXx := Lib.hid (BXx.out.below hb)
  replace BB := Lib.hid (BB.out.trans (hb.mono BB.out.size))
  replace BY := Lib.hid (BY.out.trans (hb.mono BY.out.size))
  replace Y2 := Lib.hid (Y2.out.trans (hb.mono Y2.out.size))
  clear hb hBW0 hBW1
  obtain ⟨_, hBT0, hBT1, _, _⟩ := BT.out
  try dsimp only at hBT0 hBT1
  go_wp2_with fail
  refine (c4.out x5 BB.out).mono ?_
  rintro e x6 ⟨rfl, hb⟩
  have zzx6 : x5.heap.size ≤ x6.heap.size := hb.size
  replace BT := Lib.hid (BT.out.below hb)
  replace BO := Lib.hid (BO.out.below hb)
  replace BP := Lib.hid (BP.out.below hb)
  replace BW := Lib.hid (BW.out.below hb)
  replace S2 := Lib.hid (S2.out.below hb)
  replace BXx := Lib.hid (BXx.out.below hb)
  replace BB := Lib.hid (BB.out.trans (hb.mono BB.out.size))
  replace BY := Lib.hid (BY.out.trans (hb.mono BY.out.size))
  replace Y2 := Lib.hid (Y2.out.trans (hb.mono Y2.out.size))
  clear hb hBT0 hBT1
  obtain ⟨_, hBW0, hBW1, _, _⟩ := BW.out
  obtain ⟨_, hBP0, hBP1, _, _⟩ := BP.out
  try dsimp only at hBW0 hBW1 hBP0 hBP1
  go_wp2_with fail
  refine (c5.out A1 x6 (OW.out.below BY.out)).mono ?_
  rintro e x7 ⟨rfl, hb⟩
  have zzx7 : x6.heap.size ≤ x7.heap.size := hb.size
  replace BT := Lib.hid (BT.out.below hb)
  replace BO := Lib.hid (BO.out.below hb)
  replace BP := Lib.hid (BP.out.below hb)
  replace BW := Lib.hid (BW.out.below hb)
  replace S2 := Lib.hid (S2.out.below hb)
  replace BXx := Lib.hid (BXx.out.below hb)
  replace BB := Lib.hid (BB.out.trans (hb.mono BB.out.size))
  replace BY := Lib.hid (BY.out.trans (hb.mono BY.out.size))
  replace Y2 := Lib.hid (Y2.out.trans (hb.mono Y2.out.size))
  clear hb hBW0 hBW1 hBP0 hBP1
  obtain ⟨_, hBT0, hBT1, _, _⟩ := BT.out
  obtain ⟨_, hBP0, hBP1, _, _⟩ := BP.out
  try dsimp only at hBT0 hBT1 hBP0 hBP1
  go_wp2_with fail
  refine (c6.out x7 BB.out).mono ?_
  rintro e x8 ⟨rfl, hb⟩
  have zzx8 : x7.heap.size ≤ x8.heap.size := hb.size
  replace BT := Lib.hid (BT.out.below hb)
  replace BO := Lib.hid (BO.out.below hb)
  replace BP := Lib.hid (BP.out.below hb)
  replace BW := Lib.hid (BW.out.below hb)
  replace S2 := Lib.hid (S2.out.below hb)
  replace BXx := Lib.hid (BXx.out.below hb)
  replace BB := Lib.hid (BB.out.trans (hb.mono BB.out.size))
  replace BY := Lib.hid (BY.out.trans (hb.mono BY.out.size))
  replace Y2 := Lib.hid (Y2.out.trans (hb.mono Y2.out.size))
  clear hb hBT0 hBT1 hBP0 hBP1
  go_upto_region 9 with (fail)
  have HX2 := Lib.hid (show Below x8.heap.size x8 x8 from Below.refl _ _)
  go_cut [17] from 18 (fun s17 wx => s17 = .bool true ∧ Below x8.heap.size x8 wx)
  case first =>
    refine wp_region_held_drew (S := fun w' => w'.cell? ⟨W.heap.size, 0, none⟩ = some (.slice A.g t.gens.length A.cg) ∧ w'.cell? ⟨W.heap.size, 1, none⟩ = some (.slice A.a t.ats.length A.ca) ∧ w'.cell? ⟨W.heap.size + 1, 0, none⟩ = some (.slice B.g o.gens.length B.cg) ∧ w'.cell? ⟨W.heap.size + 1, 1, none⟩ = some (.slice B.a o.ats.length B.ca) ∧ w'.cell? ⟨x1.heap.size, 0, none⟩ = some (.slice A1.g t.gens.length A1.cg) ∧ w'.cell? ⟨x1.heap.size, 1, none⟩ = some (.slice A1.a t.ats.length A1.ca) ∧ w'.cell? ⟨x3.heap.size, 0, none⟩ = some (.slice A2.g t.gens.length A2.cg) ∧ w'.cell? ⟨x3.heap.size, 1, none⟩ = some (.slice A2.a t.ats.length A2.ca) ∧ Hid (Below x8.heap.size x8 w')) (by kernel_rfl) (by exact ⟨(BT.out.below ((Below.refl _ _).drew)).c0, (BT.out.below ((Below.refl _ _).drew)).c1, (BO.out.below ((Below.refl _ _).drew)).c0, (BO.out.below ((Below.refl _ _).drew)).c1, (BW.out.below ((Below.refl _ _).drew)).c0, (BW.out.below ((Below.refl _ _).drew)).c1, (BXx.out.below ((Below.refl _ _).drew)).c0, (BXx.out.below ((Below.refl _ _).drew)).c1, Lib.hid ((Below.refl _ _).drew)⟩) (fun hHeld => ?_)
    have BLr0 := Lib.hid (show Below x8.heap.size x8 x8.drew from (Below.refl _ _).drew)
    obtain ⟨Vr, hV0⟩ : ∃ V, V = x8.drew := ⟨_, rfl⟩
    rw [← hV0] at BLr0 hHeld ⊢
    clear hV0
    refine wpAnyH_take (i := 0) (oi := Oper.mk _ _ _ _ _ _) (v := ?vr0) rfl (by kernel_rfl) (by kernel_rfl) (by kernel_rfl) (fun _ _ _ h => h) (Or.inl ⟨by rfl, ?hyr0⟩) (by assumption) ?restr0
    case hyr0 =>
      intro w0 hSw
      try dsimp only at hSw
      go_simp
      all_goals with_reducible rfl
    try simp only [Act.put, List.setIfInBounds_toArray, List.set_cons_zero, List.set_cons_succ]
    refine wpAnyH_take (i := 2) (oi := Oper.mk _ _ _ _ _ _) (v := ?vr1) rfl (by kernel_rfl) (by kernel_rfl) (by kernel_rfl) (fun _ _ _ h => h) (Or.inl ⟨by rfl, ?hyr1⟩) (by assumption) ?restr1
    case hyr1 =>
      intro w0 hSw
      try dsimp only at hSw
      go_simp
      all_goals with_reducible rfl
    try simp only [Act.put, List.setIfInBounds_toArray, List.set_cons_zero, List.set_cons_succ]
    refine wpAnyH_ready (rs := [1]) (by kernel_rfl) (by simp) ?_
    refine AllReadyH.cons (o := Oper.mk _ _ _ _ _ _) rfl (fun K hK => ?_) AllReadyH.nil
    go_simp
    refine (c7.out A1 Vr (OW.out.below (BY.out.trans (BLr0.out.mono BY.out.size)))).mono ?_
    rintro e Ur1 ⟨rfl, hb⟩
    try (go_simp)
    have BLr1 := Lib.hid (BLr0.out.trans (hb.mono BLr0.out.size))
    clear hb
    refine hK.out _ _ (by exact ⟨(BT.out.below BLr1.out).c0, (BT.out.below BLr1.out).c1, (BO.out.below BLr1.out).c0, (BO.out.below BLr1.out).c1, (BW.out.below BLr1.out).c0, (BW.out.below BLr1.out).c1, (BXx.out.below BLr1.out).c0, (BXx.out.below BLr1.out).c1, BLr1⟩) (fun hHeldr2 => ?_)
    clear hK K hHeld
    try simp only [Act.put, List.setIfInBounds_toArray, List.set_cons_zero, List.set_cons_succ]
    refine wpAnyH_ready (rs := [3]) (by kernel_rfl) (by simp) ?_
    refine AllReadyH.cons (o := Oper.mk _ _ _ _ _ _) rfl (fun K hK => ?_) AllReadyH.nil
    go_simp
    refine (c8.out Ur1 (BB.out.trans (BLr1.out.mono BB.out.size))).mono ?_
    rintro e Ur2 ⟨rfl, hb⟩
    try (go_simp)
    have BLr2 := Lib.hid (BLr1.out.trans (hb.mono BLr1.out.size))
    clear hb
    refine hK.out _ _ (by exact ⟨(BT.out.below BLr2.out).c0, (BT.out.below BLr2.out).c1, (BO.out.below BLr2.out).c0, (BO.out.below BLr2.out).c1, (BW.out.below BLr2.out).c0, (BW.out.below BLr2.out).c1, (BXx.out.below BLr2.out).c0, (BXx.out.below BLr2.out).c1, BLr2⟩) (fun hHeldr3 => ?_)
    clear hK K hHeldr2
    try simp only [Act.put, List.setIfInBounds_toArray, List.set_cons_zero, List.set_cons_succ]
    refine wpAnyH_take (i := 4) (oi := Oper.mk _ _ _ _ _ _) (v := ?vr4) rfl (by kernel_rfl) (by kernel_rfl) (by kernel_rfl) (fun _ _ _ h => h) (Or.inl ⟨by rfl, ?hyr4⟩) (by assumption) ?restr4
    case hyr4 =>
      intro w0 hSw
      try dsimp only at hSw
      go_simp
      all_goals with_reducible rfl
    try simp only [Act.put, List.setIfInBounds_toArray, List.set_cons_zero, List.set_cons_succ]
    refine wpAnyH_take (i := 5) (oi := Oper.mk _ _ _ _ _ _) (v := ?vr5) rfl (by kernel_rfl) (by kernel_rfl) (by kernel_rfl) (fun _ _ _ h => h) (Or.inl ⟨by rfl, ?hyr5⟩) (by assumption) ?restr5
    case hyr5 =>
      intro w0 hSw
      try dsimp only at hSw
      go_simp
      all_goals with_reducible rfl
    try simp only [Act.put, List.setIfInBounds_toArray, List.set_cons_zero, List.set_cons_succ]
    refine wpAnyH_take (i := 6) (oi := Oper.mk _ _ _ _ _ _) (v := ?vr6) rfl (by kernel_rfl) (by kernel_rfl) (by kernel_rfl) (fun _ _ _ h => h) (Or.inl ⟨by rfl, ?hyr6⟩) (by assumption) ?restr6
    case hyr6 =>
      intro w0 hSw
      try dsimp only at hSw
      go_simp
      all_goals with_reducible rfl
    try simp only [Act.put, List.setIfInBounds_toArray, List.set_cons_zero, List.set_cons_succ]
    refine wpAnyH_take (i := 7) (oi := Oper.mk _ _ _ _ _ _) (v := ?vr7) rfl (by kernel_rfl) (by kernel_rfl) (by kernel_rfl) (fun _ _ _ h => h) (Or.inl ⟨by rfl, ?hyr7⟩) (by assumption) ?restr7
    case hyr7 =>
      intro w0 hSw
      try dsimp only at hSw
      go_simp
      all_goals with_reducible rfl
    try simp only [Act.put, List.setIfInBounds_toArray, List.set_cons_zero, List.set_cons_succ]
    refine wpAnyH_take (i := 9) (oi := Oper.mk _ _ _ _ _ _) (v := ?vr8) rfl (by kernel_rfl) (by kernel_rfl) (by kernel_rfl) (fun _ _ _ h => h) (Or.inl ⟨by rfl, ?hyr8⟩) (by assumption) ?restr8
    case hyr8 =>
      intro w0 hSw
      try dsimp only at hSw
      go_simp
      all_goals with_reducible rfl
    try simp only [Act.put, List.setIfInBounds_toArray, List.set_cons_zero, List.set_cons_succ]
    refine wpAnyH_take (i := 10) (oi := Oper.mk _ _ _ _ _ _) (v := ?vr9) rfl (by kernel_rfl) (by kernel_rfl) (by kernel_rfl) (fun _ _ _ h => h) (Or.inl ⟨by rfl, ?hyr9⟩) (by assumption) ?restr9
    case hyr9 =>
      intro w0 hSw
      try dsimp only at hSw
      go_simp
      all_goals with_reducible rfl
    try simp only [Act.put, List.setIfInBounds_toArray, List.set_cons_zero, List.set_cons_succ]
    refine wpAnyH_ready (rs := [8]) (by kernel_rfl) (by simp) ?_
    refine AllReadyH.cons (o := Oper.mk _ _ _ _ _ _) rfl (fun K hK => ?_) AllReadyH.nil
    go_simp
    refine (c9.out A1 Ur2 (OW.out.below (BY.out.trans (BLr2.out.mono BY.out.size))) (BB.out.trans (BLr2.out.mono BB.out.size))).mono ?_
    rintro e Ur3 ⟨rfl, hb⟩
    try (go_simp)
    have BLr3 := Lib.hid (BLr2.out.trans (hb.mono BLr2.out.size))
    clear hb
    refine hK.out _ _ (by exact ⟨(BT.out.below BLr3.out).c0, (BT.out.below BLr3.out).c1, (BO.out.below BLr3.out).c0, (BO.out.below BLr3.out).c1, (BW.out.below BLr3.out).c0, (BW.out.below BLr3.out).c1, (BXx.out.below BLr3.out).c0, (BXx.out.below BLr3.out).c1, BLr3⟩) (fun hHeldr10 => ?_)
    clear hK K hHeldr3
    try simp only [Act.put, List.setIfInBounds_toArray, List.set_cons_zero, List.set_cons_succ]
    refine wpAnyH_ready (rs := [11]) (by kernel_rfl) (by simp) ?_
    refine AllReadyH.cons (o := Oper.mk _ _ _ _ _ _) rfl (fun K hK => ?_) AllReadyH.nil
    go_simp
    refine (c10.out Ur3 (BB.out.trans (BLr3.out.mono BB.out.size))).mono ?_
    rintro e Ur4 ⟨rfl, hb⟩
    try (go_simp)
    have BLr4 := Lib.hid (BLr3.out.trans (hb.mono BLr3.out.size))
    clear hb
    refine hK.out _ _ (by exact ⟨(BT.out.below BLr4.out).c0, (BT.out.below BLr4.out).c1, (BO.out.below BLr4.out).c0, (BO.out.below BLr4.out).c1, (BW.out.below BLr4.out).c0, (BW.out.below BLr4.out).c1, (BXx.out.below BLr4.out).c0, (BXx.out.below BLr4.out).c1, BLr4⟩) (fun hHeldr11 => ?_)
    clear hK K hHeldr10
    try simp only [Act.put, List.setIfInBounds_toArray, List.set_cons_zero, List.set_cons_succ]
    refine wpAnyH_take (i := 12) (oi := Oper.mk _ _ _ _ _ _) (v := ?vr12) rfl (by kernel_rfl) (by kernel_rfl) (by kernel_rfl) (fun _ _ _ h => h) (Or.inl ⟨by rfl, ?hyr12⟩) (by assumption) ?restr12
    case hyr12 =>
      intro w0 hSw
      try dsimp only at hSw
      go_simp
      all_goals with_reducible rfl
    try simp only [Act.put, List.setIfInBounds_toArray, List.set_cons_zero, List.set_cons_succ]
    refine wpAnyH_take (i := 13) (oi := Oper.mk _ _ _ _ _ _) (v := ?vr13) rfl (by kernel_rfl) (by kernel_rfl) (by kernel_rfl) (fun _ _ _ h => h) (Or.inl ⟨by rfl, ?hyr13⟩) (by assumption) ?restr13
    case hyr13 =>
      intro w0 hSw
      try dsimp only at hSw
      go_simp
      all_goals with_reducible rfl
    try simp only [Act.put, List.setIfInBounds_toArray, List.set_cons_zero, List.set_cons_succ]
    refine wpAnyH_take (i := 14) (oi := Oper.mk _ _ _ _ _ _) (v := ?vr14) rfl (by kernel_rfl) (by kernel_rfl) (by kernel_rfl) (fun _ _ _ h => h) (Or.inl ⟨by rfl, ?hyr14⟩) (by assumption) ?restr14
    case hyr14 =>
      intro w0 hSw
      try dsimp only at hSw
      go_simp
      all_goals with_reducible rfl
    try simp only [Act.put, List.setIfInBounds_toArray, List.set_cons_zero, List.set_cons_succ]
    refine wpAnyH_take (i := 15) (oi := Oper.mk _ _ _ _ _ _) (v := ?vr15) rfl (by kernel_rfl) (by kernel_rfl) (by kernel_rfl) (fun _ _ _ h => h) (Or.inl ⟨by rfl, ?hyr15⟩) (by assumption) ?restr15
    case hyr15 =>
      intro w0 hSw
      try dsimp only at hSw
      go_simp
      all_goals with_reducible rfl
    try simp only [Act.put, List.setIfInBounds_toArray, List.set_cons_zero, List.set_cons_succ]
    refine wpAnyH_take (i := 16) (oi := Oper.mk _ _ _ _ _ _) (v := ?vr16) rfl (by kernel_rfl) (by kernel_rfl) (by kernel_rfl) (fun _ _ _ h => h) (Or.inl ⟨by rfl, ?hyr16⟩) (by assumption) ?restr16
    case hyr16 =>
      intro w0 hSw
      try dsimp only at hSw
      go_simp
      all_goals with_reducible rfl
    try simp only [Act.put, List.setIfInBounds_toArray, List.set_cons_zero, List.set_cons_succ]
    refine wpAnyH_ready (rs := [17]) (by kernel_rfl) (by simp) ?_
    refine AllReadyH.cons (o := Oper.mk _ _ _ _ _ _) rfl (fun K hK => ?_) AllReadyH.nil
    go_simp
    refine (c11.out A1 Ur4 (OW.out.below (BY.out.trans (BLr4.out.mono BY.out.size))) (BB.out.trans (BLr4.out.mono BB.out.size))).mono ?_
    rintro e Ur5 ⟨rfl, hb⟩
    try (go_simp)
    have BLr5 := Lib.hid (BLr4.out.trans (hb.mono BLr4.out.size))
    clear hb
    refine hK.out _ _ (by exact ⟨(BT.out.below BLr5.out).c0, (BT.out.below BLr5.out).c1, (BO.out.below BLr5.out).c0, (BO.out.below BLr5.out).c1, (BW.out.below BLr5.out).c0, (BW.out.below BLr5.out).c1, (BXx.out.below BLr5.out).c0, (BXx.out.below BLr5.out).c1, BLr5⟩) (fun hHeldr17 => ?_)
    clear hK K hHeldr11
    try simp only [Act.put, List.setIfInBounds_toArray, List.set_cons_zero, List.set_cons_succ]
    refine wpAnyH_take (i := 18) (oi := Oper.mk _ _ _ _ _ _) (v := ?vr18) rfl (by kernel_rfl) (by kernel_rfl) (by kernel_rfl) (fun _ _ _ h => h) (Or.inl ⟨by rfl, ?hyr18⟩) (by assumption) ?restr18
    case hyr18 =>
      intro w0 hSw
      try dsimp only at hSw
      go_simp
      all_goals with_reducible rfl
    try simp only [Act.put, List.setIfInBounds_toArray, List.set_cons_zero, List.set_cons_succ]
    refine wpAnyH_take (i := 19) (oi := Oper.mk _ _ _ _ _ _) (v := ?vr19) rfl (by kernel_rfl) (by kernel_rfl) (by kernel_rfl) (fun _ _ _ h => h) (Or.inl ⟨by rfl, ?hyr19⟩) (by assumption) ?restr19
    case hyr19 =>
      intro w0 hSw
      try dsimp only at hSw
      go_simp
      all_goals with_reducible rfl
    try simp only [Act.put, List.setIfInBounds_toArray, List.set_cons_zero, List.set_cons_succ]
    refine wpAnyH_take (i := 20) (oi := Oper.mk _ _ _ _ _ _) (v := ?vr20) rfl (by kernel_rfl) (by kernel_rfl) (by kernel_rfl) (fun _ _ _ h => h) (Or.inl ⟨by rfl, ?hyr20⟩) (by assumption) ?restr20
    case hyr20 =>
      intro w0 hSw
      try dsimp only at hSw
      go_simp
      all_goals with_reducible rfl
    try simp only [Act.put, List.setIfInBounds_toArray, List.set_cons_zero, List.set_cons_succ]
    refine wpAnyH_take (i := 21) (oi := Oper.mk _ _ _ _ _ _) (v := ?vr21) rfl (by kernel_rfl) (by kernel_rfl) (by kernel_rfl) (fun _ _ _ h => h) (Or.inl ⟨by rfl, ?hyr21⟩) (by assumption) ?restr21
    case hyr21 =>
      intro w0 hSw
      try dsimp only at hSw
      go_simp
      all_goals with_reducible rfl
    try simp only [Act.put, List.setIfInBounds_toArray, List.set_cons_zero, List.set_cons_succ]
    refine wpAnyH_ready (rs := [22]) (by kernel_rfl) (by simp) ?_
    refine AllReadyH.cons (o := Oper.mk _ _ _ _ _ _) rfl (fun K hK => ?_) AllReadyH.nil
    go_simp
    refine (c12.out A2 Ur5 (X2.out.below (Y2.out.trans (BLr5.out.mono Y2.out.size))) (BB.out.trans (BLr5.out.mono BB.out.size))).mono ?_
    rintro e Ur6 ⟨rfl, hb⟩
    try (go_simp)
    have BLr6 := Lib.hid (BLr5.out.trans (hb.mono BLr5.out.size))
    clear hb
    refine hK.out _ _ (by exact ⟨(BT.out.below BLr6.out).c0, (BT.out.below BLr6.out).c1, (BO.out.below BLr6.out).c0, (BO.out.below BLr6.out).c1, (BW.out.below BLr6.out).c0, (BW.out.below BLr6.out).c1, (BXx.out.below BLr6.out).c0, (BXx.out.below BLr6.out).c1, BLr6⟩) (fun hHeldr22 => ?_)
    clear hK K hHeldr17
    try simp only [Act.put, List.setIfInBounds_toArray, List.set_cons_zero, List.set_cons_succ]
    refine wpAnyH_take (i := 23) (oi := Oper.mk _ _ _ _ _ _) (v := ?vr23) rfl (by kernel_rfl) (by kernel_rfl) (by kernel_rfl) (fun _ _ _ h => h) (Or.inl ⟨by rfl, ?hyr23⟩) (by assumption) ?restr23
    case hyr23 =>
      intro w0 hSw
      try dsimp only at hSw
      go_simp
      all_goals with_reducible rfl
    try simp only [Act.put, List.setIfInBounds_toArray, List.set_cons_zero, List.set_cons_succ]
    refine wpAnyH_take (i := 24) (oi := Oper.mk _ _ _ _ _ _) (v := ?vr24) rfl (by kernel_rfl) (by kernel_rfl) (by kernel_rfl) (fun _ _ _ h => h) (Or.inl ⟨by rfl, ?hyr24⟩) (by assumption) ?restr24
    case hyr24 =>
      intro w0 hSw
      try dsimp only at hSw
      go_simp
      all_goals with_reducible rfl
    try simp only [Act.put, List.setIfInBounds_toArray, List.set_cons_zero, List.set_cons_succ]
    refine wpAnyH_done (by kernel_rfl) ?_ _
    go_wp2_with fail
    go_meet
    exact ⟨rfl, BLr6.out⟩
  case rest =>
    obtain ⟨rfl, hb⟩ := hcut
    obtain ⟨W9, hW9⟩ : ∃ V, V = wc := ⟨_, rfl⟩
    rw [← hW9] at hb ⊢
    clear hW9
    have zz9 : x8.heap.size ≤ W9.heap.size := hb.size
    replace BT := Lib.hid (BT.out.below hb)
    replace BO := Lib.hid (BO.out.below hb)
    replace BP := Lib.hid (BP.out.below hb)
    replace BW := Lib.hid (BW.out.below hb)
    replace S2 := Lib.hid (S2.out.below hb)
    replace BXx := Lib.hid (BXx.out.below hb)
    replace BB := Lib.hid (BB.out.trans (hb.mono BB.out.size))
    replace BY := Lib.hid (BY.out.trans (hb.mono BY.out.size))
    replace Y2 := Lib.hid (Y2.out.trans (hb.mono Y2.out.size))
    clear hb
    obtain ⟨_, hBXx0, hBXx1, _, _⟩ := BXx.out
    try dsimp only at hBXx0 hBXx1
    go_wp2_with fail
    refine (c13.out A2 V2.heap.size x3.heap.size W9 S2.out (by omega)).mono ?_
    rintro e W10 ⟨rfl, hsp⟩
    have hl := hsp.1
    clear hBXx0 hBXx1
    replace BT := Lib.hid (BT.out.low (by omega) hl)
    replace BO := Lib.hid (BO.out.low (by omega) hl)
    replace BW := Lib.hid (BW.out.low (by omega) hl)
    replace BB := Lib.hid (BB.out.trans (hl.mono (by omega)))
    replace BY := Lib.hid (BY.out.trans hl)
    clear hsp hl BO BP BXx S2
    obtain ⟨_, hBT0, hBT1, _, _⟩ := BT.out
    obtain ⟨_, hBW0, hBW1, _, _⟩ := BW.out
    try dsimp only at hBT0 hBT1 hBW0 hBW1
    go_wp2_with fail
    refine (c12.out A1 W10 (OW.out.below BY.out) BB.out).mono ?_
    rintro e W11 ⟨rfl, hb⟩
    replace BB := Lib.hid (BB.out.trans (hb.mono BB.out.size))
    clear hb hBT0 hBT1 hBW0 hBW1
    go_wp2
    go_ret
    exact ⟨rfl, BB.out⟩
set_option maxRecDepth 100000 in
set_option maxHeartbeats 8000000 in
theorem walk (t o : Ht) (A B : HAds) (x : Int × Int) (W : World) (h : HHeld W t A) (ok : t.Ok) (h' : HHeld W o B) (ok' : o.Ok) (x1 : In64 x.1) (x2 : In64 x.2) :
    Calls Try.prog 4 #[hv t A, hv o B, pv x] W fun e w' => e = .returned (.bool true) ∧ Below W.heap.size W w' := by
  have HB := Lib.hid (fun a b c => (((Below.refl W.heap.size W).alloc (Nat.le_refl _) a).alloc (by simp) b).alloc (by simp; omega) c)
  by_cases g1 : t.gens.length ≤ 300
  all_goals by_cases g2 : t.ats.length ≤ 300
  all_goals by_cases g3 : o.gens.length ≤ 300
  all_goals by_cases g4 : o.ats.length ≤ 300
  all_goals first
  | exact small t o A B x W h ok h' ok' x1 x2 g1 g2 g3 g4
  | (clear h ok h' ok' x1 x2; unfold hv pv; go_enter Try.func4, Try.ntmps4; go_wp2; go_ret; exact ⟨rfl, HB.out _ _ _⟩)
end Go.Proofs.Ytephmejhglcdiaa.handleTells

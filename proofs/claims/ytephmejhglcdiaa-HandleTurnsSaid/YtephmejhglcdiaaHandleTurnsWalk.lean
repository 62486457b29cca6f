/- The walk of the law HandleTurns: what is given out, moved and taken back. -/
import Derived.Test.YtephmejhglcdiaaLaw14
namespace Go.Proofs.Ytephmejhglcdiaa.handleTurns
open Go.RowKit
set_option linter.unusedVariables false
set_option linter.unusedSimpArgs false

theorem sameB_self (t : Ht) : Hn.sameB t t = true := by unfold Hn.sameB; simp
theorem short_make (t : Ht) (p : Int) : (Hn.makeV t p).Short := by
  unfold Hn.makeV
  split
  · rename_i h
    unfold Hn.makeE at h
    split at h
    · rename_i hc
      have hm := Hn.chk_may.1 hc
      split at h
      · cases h
      · split at h
        · cases h
        · rename_i h0 hf
          exact Ht.short_of (Hn.may_given hm (by simpa using hf) (by omega))
    · rename_i hc; exact absurd h hc
  · exact Ht.Short.zero
theorem short_set (t : Ht) (hs : t.Short) (x : Int × Int) (p : Int) : (Hn.setV t x p).Short := by
  unfold Hn.setV
  split
  · exact ⟨hs.gens, by show (t.ats.set _ _).length ≤ _; rw [List.length_set]; exact hs.ats⟩
  · exact Ht.Short.zero
theorem short_drop (t : Ht) (hs : t.Short) (x : Int × Int) : (Hn.dropV t x).Short := by
  unfold Hn.dropV
  split
  · exact ⟨by show (t.gens.set _ _).length ≤ _; rw [List.length_set]; exact hs.gens, by show (t.ats.set _ _).length ≤ _; rw [List.length_set]; exact hs.ats⟩
  · exact Ht.Short.zero
set_option maxRecDepth 100000 in
set_option maxHeartbeats 32000000 in
theorem small (t : Ht) (A : HAds) (x : Int × Int) (p : Int) (W : World) (h : HHeld W t A) (ok : t.Ok) (x1 : In64 x.1) (x2 : In64 x.2) (hp : In64 p) (g1 : t.gens.length ≤ 300) (g2 : t.ats.length ≤ 300) :
    Calls Try.prog 5 #[hv t A, pv x, .int .i64 p] W fun e w' => e = .returned (.bool true) ∧ Below W.heap.size W w' := by
  have hs : t.Short := ⟨by omega, by omega⟩
  have HB := Lib.hid (fun a b => ((Below.refl W.heap.size W).alloc (Nat.le_refl _) a).alloc (by simp) b)
  have HT := Lib.hid (fun a => (HBox.new W t A 24).below ((Below.refl _ _).alloc (Nat.le_refl _) a))
  have HP := Lib.hid (fun a => PBox.new (W.alloc a) x 26)
  have c1 := Lib.hid (fun V (hb : Below W.heap.size W V) => r14Twin t A V (h.below hb) hs)
  have c2 := Lib.hid (fun A1 V (q : HHeld V t A1) => hMake t A1 p V q ok hs hp)
  have c3 := Lib.hid (fun V (hb : Below W.heap.size W V) => r14Make t A p V (h.below hb))
  have c4 := Lib.hid (fun A1 V (q : HHeld V t A1) => hSet t A1 x p V q ok hs x1 x2 hp)
  have c5 := Lib.hid (fun V (hb : Below W.heap.size W V) => r14Set t A x p V (h.below hb))
  have c6 := Lib.hid (fun A1 V (q : HHeld V t A1) => hDrop t A1 x V q ok hs x1 x2)
  have c7 := Lib.hid (fun V (hb : Below W.heap.size W V) => r14Drop t A x V (h.below hb))
  have s1 := short_make t p
  have s2 := short_set t hs x p
  have s3 := short_drop t hs x
  have c12 := Lib.hid (fun A1 V (q : HHeld V t A1) (hb : Below W.heap.size W V) => r14Same t t A1 A V q (h.below hb) hs hs)
  obtain ⟨M, hM⟩ : ∃ M, M = Hn.makeV t p := ⟨_, rfl⟩
  obtain ⟨X, hX⟩ : ∃ X, X = Hn.makeH t p := ⟨_, rfl⟩
  obtain ⟨E1, hE1⟩ : ∃ E, E = Hn.makeE t p := ⟨_, rfl⟩
  obtain ⟨N, hN⟩ : ∃ M, M = Hn.setV t x p := ⟨_, rfl⟩
  obtain ⟨E2, hE2⟩ : ∃ E, E = Hn.setE t x p := ⟨_, rfl⟩
  obtain ⟨D, hD⟩ : ∃ M, M = Hn.dropV t x := ⟨_, rfl⟩
  obtain ⟨E3, hE3⟩ : ∃ E, E = Hn.findE t x := ⟨_, rfl⟩
  rw [← hM] at s1
  rw [← hN] at s2
  rw [← hD] at s3
  rw [← hM, ← hX, ← hE1] at c2 c3
  rw [← hN, ← hE2] at c4 c5
  rw [← hD, ← hE3] at c6 c7
  clear hM hX hE1 hN hE2 hD hE3
  have d1 := Lib.hid (fun A1 A2 V (q : HHeld V M A1) (q' : HHeld V M A2) => r14Same M M A1 A2 V q q' s1 s1)
  have d2 := Lib.hid (fun A1 A2 V (q : HHeld V N A1) (q' : HHeld V N A2) => r14Same N N A1 A2 V q q' s2 s2)
  have d3 := Lib.hid (fun A1 A2 V (q : HHeld V D A1) (q' : HHeld V D A2) => r14Same D D A1 A2 V q q' s3 s3)
  have e1 := Lib.hid (fun A1 B1 U1 V (q : SoftH V B1 U1 M A1) (hB : B1 ≤ V.heap.size) => l14Spoil M A1 B1 U1 V q hB s1)
  have e2 := Lib.hid (fun A1 B1 U1 V (q : SoftH V B1 U1 N A1) (hB : B1 ≤ V.heap.size) => l14Spoil N A1 B1 U1 V q hB s2)
  have e3 := Lib.hid (fun A1 B1 U1 V (q : SoftH V B1 U1 D A1) (hB : B1 ≤ V.heap.size) => l14Spoil D A1 B1 U1 V q hB s3)
  rw [sameB_self] at c12 d1 d2 d3
  clear h ok hs x1 x2 hp s1 s2 s3
  unfold hv at c1 c2 c3 c12 d1 d2 d3 e1 e2 e3
  unfold hv pv at c4 c5 c6 c7
  unfold hv pv
  go_enter Try.func5, Try.ntmps5
  go_upto_region 3 with (fail)
  obtain ⟨W0, hW0⟩ : ∃ V, V = (W.alloc (.cells #[.slice A.g t.gens.length A.cg, .slice A.a t.ats.length A.ca] 24)).alloc (.cells #[.int .i64 x.1, .int .i64 x.2] 26) := ⟨_, rfl⟩
  have BT := Lib.hid (show HBox W0 W.heap.size t A by rw [hW0]; exact HT.out _)
  have BP := Lib.hid (show PBox W0 (W.heap.size + 1) x by rw [hW0]; have := HP.out (.cells #[.slice A.g t.gens.length A.cg, .slice A.a t.ats.length A.ca] 24); rw [World.size_alloc] at this; exact this)
  have BB := Lib.hid (show Below W.heap.size W W0 by rw [hW0]; exact HB.out _ _)
  have z0 : W.heap.size + 2 ≤ W0.heap.size := by rw [hW0]; simp
  rw [← hW0]
  clear hW0 HB HT HP g1 g2
  obtain ⟨_, hBT0, hBT1, _, _⟩ := BT.out
  try dsimp only at hBT0 hBT1
  go_wp2_with fail
  refine (c1.out W0 BB.out).mono ?_
  rintro e x1 ⟨A1, rfl, own, hb⟩
  have zzx1 : W0.heap.size ≤ x1.heap.size := hb.size
  replace BT := Lib.hid (BT.out.below hb)
  replace BP := Lib.hid (BP.out.below hb)
  replace BB := Lib.hid (BB.out.trans (hb.mono BB.out.size))
  have O1 := Lib.hid own
  clear own
  clear hb hBT0 hBT1
  try unfold hv
  try unfold pv
  go_upto_region 4 with (fail)
  obtain ⟨V2, hV⟩ : ∃ V, V = (x1).alloc (.cells #[.slice A1.g t.gens.length A1.cg, .slice A1.a t.ats.length A1.ca] 24) := ⟨_, rfl⟩
  have hba : Below x1.heap.size x1 V2 := by rw [hV]; exact (Below.refl _ _).alloc (Nat.le_refl _) _
  have zzV2 : x1.heap.size + 1 ≤ V2.heap.size := by rw [hV]; simp
  have BW := Lib.hid (show HBox V2 (x1.heap.size) t A1 by rw [hV]; have := HBox.new (x1) t A1 24; (try (simp only [World.size_alloc] at this)); exact this)
  rw [← hV]
  replace BT := Lib.hid (BT.out.below hba)
  replace BP := Lib.hid (BP.out.below hba)
  replace O1 := Lib.hid (O1.out.below hba)
  replace BB := Lib.hid (BB.out.trans (hba.mono BB.out.size))
  clear hV hba
  have BY := Lib.hid (Below.refl V2.heap.size V2)
  have OW := Lib.hid O1.out.held
  clear O1
  obtain ⟨_, hBW0, hBW1, _, _⟩ := BW.out
  try dsimp only at hBW0 hBW1
  go_wp2_with fail
  refine (c2.out A1 V2 (OW.out.below BY.out)).mono ?_
  rintro e x3 ⟨A2, rfl, own, hb⟩
  have zzx3 : V2.heap.size ≤ x3.heap.size := hb.size
  replace BT := Lib.hid (BT.out.below hb)
  replace BP := Lib.hid (BP.out.below hb)
  replace BW := Lib.hid (BW.out.below hb)
  replace BB := Lib.hid (BB.out.trans (hb.mono BB.out.size))
  replace BY := Lib.hid (BY.out.trans (hb.mono BY.out.size))
  have Ox := Lib.hid own
  clear own
  clear hb hBW0 hBW1
  have Sx := Lib.hid Ox.out.soft
  have Hx := Lib.hid Ox.out.held
  clear Ox
  try unfold hv
  try unfold pv
  go_upto_region 5 with (fail)
  obtain ⟨V4, hV⟩ : ∃ V, V = ((x3).alloc (.cells #[.slice A2.g M.gens.length A2.cg, .slice A2.a M.ats.length A2.ca] 24)).alloc (.cells #[.int .i64 X.1, .int .i64 X.2] 26) := ⟨_, rfl⟩
  have hba : Below x3.heap.size x3 V4 := by rw [hV]; exact ((Below.refl _ _).alloc (Nat.le_refl _) _).alloc (by simp) _
  have zzV4 : x3.heap.size + 2 ≤ V4.heap.size := by rw [hV]; simp
  have BXx := Lib.hid (show HBox V4 (x3.heap.size) M A2 by rw [hV]; have := HBox.new (x3) M A2 24; (try (simp only [World.size_alloc] at this)); exact (this).below ((Below.refl _ _).alloc (Nat.le_refl _) _))
  have BXa := Lib.hid (show PBox V4 (x3.heap.size + 1) X by rw [hV]; have := PBox.new ((x3).alloc (.cells #[.slice A2.g M.gens.length A2.cg, .slice A2.a M.ats.length A2.ca] 24)) X 26; (try (simp only [World.size_alloc] at this)); exact this)
  rw [← hV]
  replace BT := Lib.hid (BT.out.below hba)
  replace BP := Lib.hid (BP.out.below hba)
  replace BW := Lib.hid (BW.out.below hba)
  replace Sx := Lib.hid (Sx.out.below hba)
  replace Hx := Lib.hid (Hx.out.below hba)
  replace BB := Lib.hid (BB.out.trans (hba.mono BB.out.size))
  replace BY := Lib.hid (BY.out.trans (hba.mono BY.out.size))
  clear hV hba
  obtain ⟨_, hBT0, hBT1, _, _⟩ := BT.out
  try dsimp only at hBT0 hBT1
  go_wp2_with fail
  refine (c3.out V4 BB.out).mono ?_
  rintro e x5 ⟨A3, rfl, own, hb⟩
  have zzx5 : V4.heap.size ≤ x5.heap.size := hb.size
  replace BT := Lib.hid (BT.out.below hb)
  replace BP := Lib.hid (BP.out.below hb)
  replace BW := Lib.hid (BW.out.below hb)
  replace Sx := Lib.hid (Sx.out.below hb)
  replace Hx := Lib.hid (Hx.out.below hb)
  replace BXx := Lib.hid (BXx.out.below hb)
  replace BXa := Lib.hid (BXa.out.below hb)
  replace BB := Lib.hid (BB.out.trans (hb.mono BB.out.size))
  replace BY := Lib.hid (BY.out.trans (hb.mono BY.out.size))
  have Oy := Lib.hid own
  clear own
  clear hb hBT0 hBT1
  have Hy := Lib.hid Oy.out.held
  clear Oy
  try unfold hv
  try unfold pv
  go_upto_region 6 with (fail)
  obtain ⟨V6, hV⟩ : ∃ V, V = ((x5).alloc (.cells #[.slice A3.g M.gens.length A3.cg, .slice A3.a M.ats.length A3.ca] 24)).alloc (.cells #[.int .i64 X.1, .int .i64 X.2] 26) := ⟨_, rfl⟩
  have hba : Below x5.heap.size x5 V6 := by rw [hV]; exact ((Below.refl _ _).alloc (Nat.le_refl _) _).alloc (by simp) _
  have zzV6 : x5.heap.size + 2 ≤ V6.heap.size := by rw [hV]; simp
  have BXy := Lib.hid (show HBox V6 (x5.heap.size) M A3 by rw [hV]; have := HBox.new (x5) M A3 24; (try (simp only [World.size_alloc] at this)); exact (this).below ((Below.refl _ _).alloc (Nat.le_refl _) _))
  have BXb := Lib.hid (show PBox V6 (x5.heap.size + 1) X by rw [hV]; have := PBox.new ((x5).alloc (.cells #[.slice A3.g M.gens.length A3.cg, .slice A3.a M.ats.length A3.ca] 24)) X 26; (try (simp only [World.size_alloc] at this)); exact this)
  rw [← hV]
  replace BT := Lib.hid (BT.out.below hba)
  replace BP := Lib.hid (BP.out.below hba)
  replace BW := Lib.hid (BW.out.below hba)
  replace Sx := Lib.hid (Sx.out.below hba)
  replace Hx := Lib.hid (Hx.out.below hba)
  replace BXx := Lib.hid (BXx.out.below hba)
  replace BXa := Lib.hid (BXa.out.below hba)
  replace Hy := Lib.hid (Hy.out.below hba)
  replace BB := Lib.hid (BB.out.trans (hba.mono BB.out.size))
  replace BY := Lib.hid (BY.out.trans (hba.mono BY.out.size))
  clear hV hba
  obtain ⟨_, hBW0, hBW1, _, _⟩ := BW.out
  obtain ⟨_, hBP0, hBP1, _, _⟩ := BP.out
  try dsimp only at hBW0 hBW1 hBP0 hBP1
  go_wp2_with fail
  refine (c4.out A1 V6 (OW.out.below BY.out)).mono ?_
  rintro e x7 ⟨A4, rfl, own, hb⟩
  have zzx7 : V6.heap.size ≤ x7.heap.size := hb.size
  replace BT := Lib.hid (BT.out.below hb)
  replace BP := Lib.hid (BP.out.below hb)
  replace BW := Lib.hid (BW.out.below hb)
  replace Sx := Lib.hid (Sx.out.below hb)
  replace Hx := Lib.hid (Hx.out.below hb)
  replace BXx := Lib.hid (BXx.out.below hb)
  replace BXa := Lib.hid (BXa.out.below hb)
  replace Hy := Lib.hid (Hy.out.below hb)
  replace BXy := Lib.hid (BXy.out.below hb)
  replace BXb := Lib.hid (BXb.out.below hb)
  replace BB := Lib.hid (BB.out.trans (hb.mono BB.out.size))
  replace BY := Lib.hid (BY.out.trans (hb.mono BY.out.size))
  have Oz := Lib.hid own
  clear own
  clear hb hBW0 hBW1 hBP0 hBP1
  have Sz := Lib.hid Oz.out.soft
  have Hz := Lib.hid Oz.out.held
  clear Oz
  try unfold hv
  try unfold pv
  go_upto_region 7 with (fail)
  obtain ⟨V8, hV⟩ : ∃ V, V = (x7).alloc (.cells #[.slice A4.g N.gens.length A4.cg, .slice A4.a N.ats.length A4.ca] 24) := ⟨_, rfl⟩
  have hba : Below x7.heap.size x7 V8 := by rw [hV]; exact (Below.refl _ _).alloc (Nat.le_refl _) _
  have zzV8 : x7.heap.size + 1 ≤ V8.heap.size := by rw [hV]; simp
  have BXz := Lib.hid (show HBox V8 (x7.heap.size) N A4 by rw [hV]; have := HBox.new (x7) N A4 24; (try (simp only [World.size_alloc] at this)); exact this)
  rw [← hV]
  replace BT := Lib.hid (BT.out.below hba)
  replace BP := Lib.hid (BP.out.below hba)
  replace BW := Lib.hid (BW.out.below hba)
  replace Sx := Lib.hid (Sx.out.below hba)
  replace Hx := Lib.hid (Hx.out.below hba)
  replace BXx := Lib.hid (BXx.out.below hba)
  replace BXa := Lib.hid (BXa.out.below hba)
  replace Hy := Lib.hid (Hy.out.below hba)
  replace BXy := Lib.hid (BXy.out.below hba)
  replace BXb := Lib.hid (BXb.out.below hba)
  replace Sz := Lib.hid (Sz.out.below hba)
  replace Hz := Lib.hid (Hz.out.below hba)
  replace BB := Lib.hid (BB.out.trans (hba.mono BB.out.size))
  replace BY := Lib.hid (BY.out.trans (hba.mono BY.out.size))
  clear hV hba
  obtain ⟨_, hBT0, hBT1, _, _⟩ := BT.out
  obtain ⟨_, hBP0, hBP1, _, _⟩ := BP.out
  try dsimp only at hBT0 hBT1 hBP0 hBP1
  go_wp2_with fail
  refine (c5.out V8 BB.out).mono ?_
  rintro e x9 ⟨A5, rfl, own, hb⟩
  have zzx9 : V8.heap.size ≤ x9.heap.size := hb.size
  replace BT := Lib.hid (BT.out.below hb)
  replace BP := Lib.hid (BP.out.below hb)
  replace BW := Lib.hid (BW.out.below hb)
  replace Sx := Lib.hid (Sx.out.below hb)
  replace Hx := Lib.hid (Hx.out.below hb)
  replace BXx := Lib.hid (BXx.out.below hb)
  replace BXa := Lib.hid (BXa.out.below hb)
  replace Hy := Lib.hid (Hy.out.below hb)
  replace BXy := Lib.hid (BXy.out.below hb)
  replace BXb := Lib.hid (BXb.out.below hb)
  replace Sz := Lib.hid (Sz.out.below hb)
  replace Hz := Lib.hid (Hz.out.below hb)
  replace BXz := Lib.hid (BXz.out.below hb)
  replace BB := Lib.hid (BB.out.trans (hb.mono BB.out.size))
  replace BY := Lib.hid (BY.out.trans (hb.mono BY.out.size))
  have Ow := Lib.hid own
  clear own
  clear hb hBT0 hBT1 hBP0 hBP1
  have Hw := Lib.hid Ow.out.held
  clear Ow
  try unfold hv
  try unfold pv
  go_upto_region 8 with (fail)
  obtain ⟨V10, hV⟩ : ∃ V, V = (x9).alloc (.cells #[.slice A5.g N.gens.length A5.cg, .slice A5.a N.ats.length A5.ca] 24) := ⟨_, rfl⟩
  have hba : Below x9.heap.size x9 V10 := by rw [hV]; exact (Below.refl _ _).alloc (Nat.le_refl _) _
  have zzV10 : x9.heap.size + 1 ≤ V10.heap.size := by rw [hV]; simp
  have BXw := Lib.hid (show HBox V10 (x9.heap.size) N A5 by rw [hV]; have := HBox.new (x9) N A5 24; (try (simp only [World.size_alloc] at this)); exact this)
  rw [← hV]
  replace BT := Lib.hid (BT.out.below hba)
  replace BP := Lib.hid (BP.out.below hba)
  replace BW := Lib.hid (BW.out.below hba)
  replace Sx := Lib.hid (Sx.out.below hba)
  replace Hx := Lib.hid (Hx.out.below hba)
  replace BXx := Lib.hid (BXx.out.below hba)
  replace BXa := Lib.hid (BXa.out.below hba)
  replace Hy := Lib.hid (Hy.out.below hba)
  replace BXy := Lib.hid (BXy.out.below hba)
  replace BXb := Lib.hid (BXb.out.below hba)
  replace Sz := Lib.hid (Sz.out.below hba)
  replace Hz := Lib.hid (Hz.out.below hba)
  replace BXz := Lib.hid (BXz.out.below hba)
  replace Hw := Lib.hid (Hw.out.below hba)
  replace BB := Lib.hid (BB.out.trans (hba.mono BB.out.size))
  replace BY := Lib.hid (BY.out.trans (hba.mono BY.out.size))
  clear hV hba
  obtain ⟨_, hBW0, hBW1, _, _⟩ := BW.out
  obtain ⟨_, hBP0, hBP1, _, _⟩ := BP.out
  try dsimp only at hBW0 hBW1 hBP0 hBP1
  go_wp2_with fail
  refine (c6.out A1 V10 (OW.out.below BY.out)).mono ?_
  rintro e x11 ⟨A6, rfl, own, hb⟩
  have zzx11 : V10.heap.size ≤ x11.heap.size := hb.size
  replace BT := Lib.hid (BT.out.below hb)
  replace BP := Lib.hid (BP.out.below hb)
  replace BW := Lib.hid (BW.out.below hb)
  replace Sx := Lib.hid (Sx.out.below hb)
  replace Hx := Lib.hid (Hx.out.below hb)
  replace BXx := Lib.hid (BXx.out.below hb)
  replace BXa := Lib.hid (BXa.out.below hb)
  replace Hy := Lib.hid (Hy.out.below hb)
  replace BXy := Lib.hid (BXy.out.below hb)
  replace BXb := Lib.hid (BXb.out.below hb)
  replace Sz := Lib.hid (Sz.out.below hb)
  replace Hz := Lib.hid (Hz.out.below hb)
  replace BXz := Lib.hid (BXz.out.below hb)
  replace Hw := Lib.hid (Hw.out.below hb)
  replace BXw := Lib.hid (BXw.out.below hb)
  replace BB := Lib.hid (BB.out.trans (hb.mono BB.out.size))
  replace BY := Lib.hid (BY.out.trans (hb.mono BY.out.size))
  have Op := Lib.hid own
  clear own
  clear hb hBW0 hBW1 hBP0 hBP1
  have Sp := Lib.hid Op.out.soft
  have Hp := Lib.hid Op.out.held
  clear Op
  try unfold hv
  try unfold pv
  go_upto_region 9 with (fail)
  obtain ⟨V12, hV⟩ : ∃ V, V = (x11).alloc (.cells #[.slice A6.g D.gens.length A6.cg, .slice A6.a D.ats.length A6.ca] 24) := ⟨_, rfl⟩
  have hba : Below x11.heap.size x11 V12 := by rw [hV]; exact (Below.refl _ _).alloc (Nat.le_refl _) _
  have zzV12 : x11.heap.size + 1 ≤ V12.heap.size := by rw [hV]; simp
  have BXp := Lib.hid (show HBox V12 (x11.heap.size) D A6 by rw [hV]; have := HBox.new (x11) D A6 24; (try (simp only [World.size_alloc] at this)); exact this)
  rw [← hV]
  replace BT := Lib.hid (BT.out.below hba)
  replace BP := Lib.hid (BP.out.below hba)
  replace BW := Lib.hid (BW.out.below hba)
  replace Sx := Lib.hid (Sx.out.below hba)
  replace Hx := Lib.hid (Hx.out.below hba)
  replace BXx := Lib.hid (BXx.out.below hba)
  replace BXa := Lib.hid (BXa.out.below hba)
  replace Hy := Lib.hid (Hy.out.below hba)
  replace BXy := Lib.hid (BXy.out.below hba)
  replace BXb := Lib.hid (BXb.out.below hba)
  replace Sz := Lib.hid (Sz.out.below hba)
  replace Hz := Lib.hid (Hz.out.below hba)
  replace BXz := Lib.hid (BXz.out.below hba)
  replace Hw := Lib.hid (Hw.out.below hba)
  replace BXw := Lib.hid (BXw.out.below hba)
  replace Sp := Lib.hid (Sp.out.below hba)
  replace Hp := Lib.hid (Hp.out.below hba)
  replace BB := Lib.hid (BB.out.trans (hba.mono BB.out.size))
  replace BY := Lib.hid (BY.out.trans (hba.mono BY.out.size))
  clear hV hba
  obtain ⟨_, hBT0, hBT1, _, _⟩ := BT.out
  obtain ⟨_, hBP0, hBP1, _, _⟩ := BP.out
  try dsimp only at hBT0 hBT1 hBP0 hBP1
  go_wp2_with fail
  refine (c7.out V12 BB.out).mono ?_
  rintro e x13 ⟨A7, rfl, own, hb⟩
  have zzx13 : V12.heap.size ≤ x13.heap.size := hb.size
  replace BT := Lib.hid (BT.out.below hb)
  replace BP := Lib.hid (BP.out.below hb)
  replace BW := Lib.hid (BW.out.below hb)
  replace Sx := Lib.hid (Sx.out.below hb)
  replace Hx := Lib.hid (Hx.out.below hb)
  replace BXx := Lib.hid (BXx.out.below hb)
  replace BXa := Lib.hid (BXa.out.below hb)
  replace Hy := Lib.hid (Hy.out.below hb)
  replace BXy := Lib.hid (BXy.out.below hb)
  replace BXb := Lib.hid (BXb.out.below hb)
  replace Sz := Lib.hid (Sz.out.below hb)
  replace Hz := Lib.hid (Hz.out.below hb)
  replace BXz := Lib.hid (BXz.out.below hb)
  replace Hw := Lib.hid (Hw.out.below hb)
  replace BXw := Lib.hid (BXw.out.below hb)
  replace Sp := Lib.hid (Sp.out.below hb)
  replace Hp := Lib.hid (Hp.out.below hb)
  replace BXp := Lib.hid (BXp.out.below hb)
  replace BB := Lib.hid (BB.out.trans (hb.mono BB.out.size))
  replace BY := Lib.hid (BY.out.trans (hb.mono BY.out.size))
  have Oq := Lib.hid own
  clear own
  clear hb hBT0 hBT1 hBP0 hBP1
  have Hq := Lib.hid Oq.out.held
  clear Oq
  try unfold hv
  try unfold pv
  go_upto_region 10 with (fail)
  obtain ⟨V14, hV⟩ : ∃ V, V = (x13).alloc (.cells #[.slice A7.g D.gens.length A7.cg, .slice A7.a D.ats.length A7.ca] 24) := ⟨_, rfl⟩
  have hba : Below x13.heap.size x13 V14 := by rw [hV]; exact (Below.refl _ _).alloc (Nat.le_refl _) _
  have zzV14 : x13.heap.size + 1 ≤ V14.heap.size := by rw [hV]; simp
  have BXq := Lib.hid (show HBox V14 (x13.heap.size) D A7 by rw [hV]; have := HBox.new (x13) D A7 24; (try (simp only [World.size_alloc] at this)); exact this)
  rw [← hV]
  replace BT := Lib.hid (BT.out.below hba)
  replace BP := Lib.hid (BP.out.below hba)
  replace BW := Lib.hid (BW.out.below hba)
  replace Sx := Lib.hid (Sx.out.below hba)
  replace Hx := Lib.hid (Hx.out.below hba)
  replace BXx := Lib.hid (BXx.out.below hba)
  replace BXa := Lib.hid (BXa.out.below hba)
  replace Hy := Lib.hid (Hy.out.below hba)
  replace BXy := Lib.hid (BXy.out.below hba)
  replace BXb := Lib.hid (BXb.out.below hba)
  replace Sz := Lib.hid (Sz.out.below hba)
  replace Hz := Lib.hid (Hz.out.below hba)
  replace BXz := Lib.hid (BXz.out.below hba)
  replace Hw := Lib.hid (Hw.out.below hba)
  replace BXw := Lib.hid (BXw.out.below hba)
  replace Sp := Lib.hid (Sp.out.below hba)
  replace Hp := Lib.hid (Hp.out.below hba)
  replace BXp := Lib.hid (BXp.out.below hba)
  replace Hq := Lib.hid (Hq.out.below hba)
  replace BB := Lib.hid (BB.out.trans (hba.mono BB.out.size))
  replace BY := Lib.hid (BY.out.trans (hba.mono BY.out.size))
  clear hV hba
  obtain ⟨_, hBXx0, hBXx1, _, _⟩ := BXx.out
  obtain ⟨_, hBXy0, hBXy1, _, _⟩ := BXy.out
  try dsimp only at hBXx0 hBXx1 hBXy0 hBXy1
  go_wp2_with fail
  refine (d1.out A2 A3 V14 Hx.out Hy.out).mono ?_
  rintro e x15 ⟨rfl, hb⟩
  have zzx15 : V14.heap.size ≤ x15.heap.size := hb.size
  replace BT := Lib.hid (BT.out.below hb)
  replace BP := Lib.hid (BP.out.below hb)
  replace BW := Lib.hid (BW.out.below hb)
  replace Sx := Lib.hid (Sx.out.below hb)
  replace Hx := Lib.hid (Hx.out.below hb)
  replace BXx := Lib.hid (BXx.out.below hb)
  replace BXa := Lib.hid (BXa.out.below hb)
  replace Hy := Lib.hid (Hy.out.below hb)
  replace BXy := Lib.hid (BXy.out.below hb)
  replace BXb := Lib.hid (BXb.out.below hb)
  replace Sz := Lib.hid (Sz.out.below hb)
  replace Hz := Lib.hid (Hz.out.below hb)
  replace BXz := Lib.hid (BXz.out.below hb)
  replace Hw := Lib.hid (Hw.out.below hb)
  replace BXw := Lib.hid (BXw.out.below hb)
  replace Sp := Lib.hid (Sp.out.below hb)
  replace Hp := Lib.hid (Hp.out.below hb)
  replace BXp := Lib.hid (BXp.out.below hb)
  replace Hq := Lib.hid (Hq.out.below hb)
  replace BXq := Lib.hid (BXq.out.below hb)
  replace BB := Lib.hid (BB.out.trans (hb.mono BB.out.size))
  replace BY := Lib.hid (BY.out.trans (hb.mono BY.out.size))
  clear hb hBXx0 hBXx1 hBXy0 hBXy1
  obtain ⟨_, hBXa0, hBXa1, _, _⟩ := BXa.out
  obtain ⟨_, hBXb0, hBXb1, _, _⟩ := BXb.out
  obtain ⟨_, hBXz0, hBXz1, _, _⟩ := BXz.out
  obtain ⟨_, hBXw0, hBXw1, _, _⟩ := BXw.out
  try dsimp only at hBXa0 hBXa1 hBXb0 hBXb1 hBXz0 hBXz1 hBXw0 hBXw1
  go_wp2_with fail
  refine (d2.out A4 A5 x15 Hz.out Hw.out).mono ?_
  rintro e x16 ⟨rfl, hb⟩
  have zzx16 : x15.heap.size ≤ x16.heap.size := hb.size
  replace BT := Lib.hid (BT.out.below hb)
  replace BP := Lib.hid (BP.out.below hb)
  replace BW := Lib.hid (BW.out.below hb)
  replace Sx := Lib.hid (Sx.out.below hb)
  replace Hx := Lib.hid (Hx.out.below hb)
  replace BXx := Lib.hid (BXx.out.below hb)
  replace BXa := Lib.hid (BXa.out.below hb)
  replace Hy := Lib.hid (Hy.out.below hb)
  replace BXy := Lib.hid (BXy.out.below hb)
  replace BXb := Lib.hid (BXb.out.below hb)
  replace Sz := Lib.hid (Sz.out.below hb)
  replace Hz := Lib.hid (Hz.out.below hb)
  replace BXz := Lib.hid (BXz.out.below hb)
  replace Hw := Lib.hid (Hw.out.below hb)
  replace BXw := Lib.hid (BXw.out.below hb)
  replace Sp := Lib.hid (Sp.out.below hb)
  replace Hp := Lib.hid (Hp.out.below hb)
  replace BXp := Lib.hid (BXp.out.below hb)
  replace Hq := Lib.hid (Hq.out.below hb)
  replace BXq := Lib.hid (BXq.out.below hb)
  replace BB := Lib.hid (BB.out.trans (hb.mono BB.out.size))
  replace BY := Lib.hid (BY.out.trans (hb.mono BY.out.size))
  clear hb hBXa0 hBXa1 hBXb0 hBXb1 hBXz0 hBXz1 hBXw0 hBXw1
  obtain ⟨_, hBXp0, hBXp1, _, _⟩ := BXp.out
  obtain ⟨_, hBXq0, hBXq1, _, _⟩ := BXq.out
  try dsimp only at hBXp0 hBXp1 hBXq0 hBXq1
  go_wp2_with fail
  refine (d3.out A6 A7 x16 Hp.out Hq.out).mono ?_
  rintro e x17 ⟨rfl, hb⟩
  have zzx17 : x16.heap.size ≤ x17.heap.size := hb.size
  replace BT := Lib.hid (BT.out.below hb)
  replace BP := Lib.hid (BP.out.below hb)
  replace BW := Lib.hid (BW.out.below hb)
  replace Sx := Lib.hid (Sx.out.below hb)
  replace Hx := Lib.hid (Hx.out.below hb)
  replace BXx := Lib.hid (BXx.out.below hb)
  replace BXa := Lib.hid (BXa.out.below hb)
  replace Hy := Lib.hid (Hy.out.below hb)
  replace BXy := Lib.hid (BXy.out.below hb)
  replace BXb := Lib.hid (BXb.out.below hb)
  replace Sz := Lib.hid (Sz.out.below hb)
  replace Hz := Lib.hid (Hz.out.below hb)
  replace BXz := Lib.hid (BXz.out.below hb)
  replace Hw := Lib.hid (Hw.out.below hb)
  replace BXw := Lib.hid (BXw.out.below hb)
  replace Sp := Lib.hid (Sp.out.below hb)
  replace Hp := Lib.hid (Hp.out.below hb)
  replace BXp := Lib.hid (BXp.out.below hb)
  replace Hq := Lib.hid (Hq.out.below hb)
  replace BXq := Lib.hid (BXq.out.below hb)
  replace BB := Lib.hid (BB.out.trans (hb.mono BB.out.size))
  replace BY := Lib.hid (BY.out.trans (hb.mono BY.out.size))
  clear hb hBXp0 hBXp1 hBXq0 hBXq1
  clear Hx Hy Hz Hw Hp Hq BP BXa BXb BXy BXw BXq
  obtain ⟨_, hBXx0, hBXx1, _, _⟩ := BXx.out
  try dsimp only at hBXx0 hBXx1
  go_wp2_with fail
  refine (e1.out A2 V2.heap.size x3.heap.size x17 Sx.out (by omega)).mono ?_
  rintro e x18 ⟨rfl, hsp⟩
  have hl := hsp.1
  have zzx18 : x17.heap.size ≤ x18.heap.size := hl.size
  clear hBXx0 hBXx1
  replace BT := Lib.hid (BT.out.low (by omega) hl)
  replace BW := Lib.hid (BW.out.low (by omega) hl)
  replace BXz := Lib.hid (BXz.out.of_heap (hsp.2.2 _ (by omega) BXz.out.lt) hl.size)
  replace BXp := Lib.hid (BXp.out.of_heap (hsp.2.2 _ (by omega) BXp.out.lt) hl.size)
  replace Sz := Lib.hid (Sz.out.keep hsp.2.1)
  replace Sp := Lib.hid (Sp.out.keep hsp.2.1)
  replace BB := Lib.hid (BB.out.trans (hl.mono (by omega)))
  replace BY := Lib.hid (BY.out.trans (hl.mono (by omega)))
  clear hsp hl Sx BXx
  obtain ⟨_, hBXz0, hBXz1, _, _⟩ := BXz.out
  try dsimp only at hBXz0 hBXz1
  go_wp2_with fail
  refine (e2.out A4 V6.heap.size x7.heap.size x18 Sz.out (by omega)).mono ?_
  rintro e x19 ⟨rfl, hsp⟩
  have hl := hsp.1
  have zzx19 : x18.heap.size ≤ x19.heap.size := hl.size
  clear hBXz0 hBXz1
  replace BT := Lib.hid (BT.out.low (by omega) hl)
  replace BW := Lib.hid (BW.out.low (by omega) hl)
  replace BXp := Lib.hid (BXp.out.of_heap (hsp.2.2 _ (by omega) BXp.out.lt) hl.size)
  replace Sp := Lib.hid (Sp.out.keep hsp.2.1)
  replace BB := Lib.hid (BB.out.trans (hl.mono (by omega)))
  replace BY := Lib.hid (BY.out.trans (hl.mono (by omega)))
  clear hsp hl Sz BXz
  obtain ⟨_, hBXp0, hBXp1, _, _⟩ := BXp.out
  try dsimp only at hBXp0 hBXp1
  go_wp2_with fail
  refine (e3.out A6 V10.heap.size x11.heap.size x19 Sp.out (by omega)).mono ?_
  rintro e x20 ⟨rfl, hsp⟩
  have hl := hsp.1
  have zzx20 : x19.heap.size ≤ x20.heap.size := hl.size
  clear hBXp0 hBXp1
  replace BT := Lib.hid (BT.out.low (by omega) hl)
  replace BW := Lib.hid (BW.out.low (by omega) hl)
  replace BB := Lib.hid (BB.out.trans (hl.mono (by omega)))
  replace BY := Lib.hid (BY.out.trans (hl.mono (by omega)))
  clear hsp hl Sp BXp
  obtain ⟨_, hBT0, hBT1, _, _⟩ := BT.out
  obtain ⟨_, hBW0, hBW1, _, _⟩ := BW.out
  try dsimp only at hBT0 hBT1 hBW0 hBW1
  go_wp2_with fail
  refine (c12.out A1 x20 (OW.out.below BY.out) BB.out).mono ?_
  rintro e WZ ⟨rfl, hb⟩
  replace BB := Lib.hid (BB.out.trans (hb.mono BB.out.size))
  clear hb hBT0 hBT1 hBW0 hBW1
  go_wp2
  go_ret
  exact ⟨rfl, BB.out⟩
set_option maxRecDepth 100000 in
set_option maxHeartbeats 8000000 in
theorem walk (t : Ht) (A : HAds) (x : Int × Int) (p : Int) (W : World) (h : HHeld W t A) (ok : t.Ok) (x1 : In64 x.1) (x2 : In64 x.2) (hp : In64 p) :
    Calls Try.prog 5 #[hv t A, pv x, .int .i64 p] W fun e w' => e = .returned (.bool true) ∧ Below W.heap.size W w' := by
  have HB := Lib.hid (fun a b => ((Below.refl W.heap.size W).alloc (Nat.le_refl _) a).alloc (by simp) b)
  by_cases g1 : t.gens.length ≤ 300
  all_goals by_cases g2 : t.ats.length ≤ 300
  all_goals first
  | exact small t A x p W h ok x1 x2 hp g1 g2
  | (clear h ok x1 x2 hp; unfold hv pv; go_enter Try.func5, Try.ntmps5; go_wp2; go_ret; exact ⟨rfl, HB.out _ _⟩)
end Go.Proofs.Ytephmejhglcdiaa.handleTurns

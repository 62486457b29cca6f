/- The walk of the law HandleGone: what was dropped is never found again. -/
import Derived.Test.YtephmejhglcdiaaAlive14
import Derived.Deep.CutRange
namespace Go.Proofs.Ytephmejhglcdiaa.handleGone
open Go.RowKit
set_option linter.unusedVariables false
set_option linter.unusedSimpArgs false

theorem made_is {t : Ht} (hm : Hn.May t) (hf : Hn.fullB t = false) {p : Int} (hp : 0 ≤ p) : Hn.isB (Hn.given t p) (Hn.hnd t) = true := by
  have h := (Hn.made_found hm hf hp).1
  rw [Hn.find_of (Hn.may_given hm hf hp)] at h
  cases e : Hn.isB (Hn.given t p) (Hn.hnd t)
  · rw [e, if_neg (by simp)] at h; cases h
  · rfl
/-- What a round keeps: the table x may be, the handle's count is gone by, and what was given out last is given out. -/
def GoneJ (x : Int × Int) (B8 B10 : Nat) (V1 : World) (n : Nat) (gv i : Value) (wr : World) : Prop :=
  ∃ (k : Nat) (g : Bool) (M : Ht) (Am : HAds) (X : Int × Int), k ≤ n ∧ i = .int .i64 k ∧ gv = .bool g ∧ HBox wr B8 M Am ∧ HHeld wr M Am ∧ PBox wr B10 X ∧ M.Ok ∧ Hn.May M ∧ Hn.Past M x ∧ M.gens.length ≤ 300 + k ∧ (In64 X.1 ∧ In64 X.2) ∧ (g = true → Hn.isB M X = true) ∧ Below V1.heap.size V1 wr
set_option maxRecDepth 100000 in
set_option maxHeartbeats 32000000 in
theorem bad (t : Ht) (A : HAds) (x : Int × Int) (al : Option Addr) (cl : Nat) (l : List Int) (W : World) (h : HHeld W t A) (ok : t.Ok) (x1 : In64 x.1) (x2 : In64 x.2) (hl : Lst .i64 W al l) (hw : All64 l) (g1 : t.gens.length ≤ 300) (g2 : t.ats.length ≤ 300) (g3 : l.length ≤ 40) (hc : ¬ Hn.findE t x = 0) :
    Calls Try.prog 7 #[hv t A, pv x, .slice al l.length cl] W fun e w' => e = .returned (.bool true) ∧ Below W.heap.size W w' := by
  have hs : t.Short := ⟨by omega, by omega⟩
  have HB := Lib.hid (fun a b => ((Below.refl W.heap.size W).alloc (Nat.le_refl _) a).alloc (by simp) b)
  have HT := Lib.hid (fun a => (HBox.new W t A 24).below ((Below.refl _ _).alloc (Nat.le_refl _) a))
  have HX := Lib.hid (fun a => PBox.new (W.alloc a) x 26)
  have c0 := Lib.hid (fun V => l14Alive V)
  have c1 := Lib.hid (fun V (hb : Below W.heap.size W V) => hDrop t A x V (h.below hb) ok hs x1 x2)
  have hv0 : Hn.dropV t x = Ht.zero := by unfold Hn.dropV; rw [if_neg hc]
  rw [hv0] at c1
  obtain ⟨E1, hE1⟩ : ∃ E, E = Hn.findE t x := ⟨_, rfl⟩
  rw [← hE1] at c1 hc
  have k1 : (E1 != 0) = true := by simp [hc]
  obtain ⟨M, hM⟩ : ∃ M, M = Ht.zero := ⟨_, rfl⟩
  rw [← hM] at c1
  have m0 := Lib.hid (show M.gens.length = 0 by rw [hM]; rfl)
  clear hE1 hc hM hv0 h ok hs x1 x2 hl hw
  unfold hv pv at c1
  unfold hv pv
  go_enter Try.func7, Try.ntmps7
  go_upto_region 1 with (fail)
  obtain ⟨W0, hW0⟩ : ∃ V, V = (W.alloc (.cells #[.slice A.g t.gens.length A.cg, .slice A.a t.ats.length A.ca] 24)).alloc (.cells #[.int .i64 x.1, .int .i64 x.2] 26) := ⟨_, rfl⟩
  have BT := Lib.hid (show HBox W0 W.heap.size t A by rw [hW0]; exact HT.out _)
  have BX := Lib.hid (show PBox W0 (W.heap.size + 1) x by rw [hW0]; have := HX.out (.cells #[.slice A.g t.gens.length A.cg, .slice A.a t.ats.length A.ca] 24); rw [World.size_alloc] at this; exact this)
  have BB := Lib.hid (show Below W.heap.size W W0 by rw [hW0]; exact HB.out _ _)
  have z0 : W.heap.size + 2 ≤ W0.heap.size := by rw [hW0]; simp
  rw [← hW0]
  clear hW0 HB HT HX
  go_wp2_with fail
  refine (c0.out W0).mono ?_
  rintro e x1 ⟨rfl, hb⟩
  have zzx1 : W0.heap.size ≤ x1.heap.size := hb.size
  replace BT := Lib.hid (BT.out.below hb)
  replace BX := Lib.hid (BX.out.below hb)
  replace BB := Lib.hid (BB.out.trans (hb.mono BB.out.size))
  clear hb 
  obtain ⟨_, hBT0, hBT1, _, _⟩ := BT.out
  obtain ⟨_, hBX0, hBX1, _, _⟩ := BX.out
  try dsimp only at hBT0 hBT1 hBX0 hBX1
  go_wp2_with fail
  refine (c1.out x1 BB.out).mono ?_
  rintro e x2 ⟨A1, rfl, own, hb⟩
  have zzx2 : x1.heap.size ≤ x2.heap.size := hb.size
  replace BT := Lib.hid (BT.out.below hb)
  replace BX := Lib.hid (BX.out.below hb)
  replace BB := Lib.hid (BB.out.trans (hb.mono BB.out.size))
  have O1 := Lib.hid own
  clear own
  clear hb hBT0 hBT1 hBX0 hBX1
  clear O1
  try unfold hv
  try unfold pv
  go_upto_region 5 with (fail)
  obtain ⟨V3, hV⟩ : ∃ V, V = (x2).alloc (.cells #[.slice A1.g M.gens.length A1.cg, .slice A1.a M.ats.length A1.ca] 24) := ⟨_, rfl⟩
  have hba : Below x2.heap.size x2 V3 := by rw [hV]; exact (Below.refl _ _).alloc (Nat.le_refl _) _
  have zzV3 : x2.heap.size + 1 ≤ V3.heap.size := by rw [hV]; simp
  have BM := Lib.hid (show HBox V3 (x2.heap.size) M A1 by rw [hV]; have := HBox.new (x2) M A1 24; (try (simp only [World.size_alloc] at this)); exact this)
  rw [← hV]
  replace BT := Lib.hid (BT.out.below hba)
  replace BX := Lib.hid (BX.out.below hba)
  replace BB := Lib.hid (BB.out.trans (hba.mono BB.out.size))
  clear hV hba
  obtain ⟨_, hBM0, hBM1, _, _⟩ := BM.out
  try dsimp only at hBM0 hBM1
  rw [m0.out] at hBM0
  go_wp2
  go_ret
  exact ⟨rfl, BB.out⟩
set_option maxRecDepth 100000 in
set_option maxHeartbeats 32000000 in
theorem good (t : Ht) (A : HAds) (x : Int × Int) (al : Option Addr) (cl : Nat) (l : List Int) (W : World) (h : HHeld W t A) (ok : t.Ok) (x1 : In64 x.1) (x2 : In64 x.2) (hl : Lst .i64 W al l) (hw : All64 l) (g1 : t.gens.length ≤ 300) (g2 : t.ats.length ≤ 300) (g3 : l.length ≤ 40) (hm : Hn.May t) (hi : Hn.isB t x = true) (hc : Hn.findE t x = 0) :
    Calls Try.prog 7 #[hv t A, pv x, .slice al l.length cl] W fun e w' => e = .returned (.bool true) ∧ Below W.heap.size W w' := by
  have hs : t.Short := ⟨by omega, by omega⟩
  have HB := Lib.hid (fun a b => ((Below.refl W.heap.size W).alloc (Nat.le_refl _) a).alloc (by simp) b)
  have HT := Lib.hid (fun a => (HBox.new W t A 24).below ((Below.refl _ _).alloc (Nat.le_refl _) a))
  have HX := Lib.hid (fun a => PBox.new (W.alloc a) x 26)
  have c0 := Lib.hid (fun V => l14Alive V)
  have c1 := Lib.hid (fun V (hb : Below W.heap.size W V) => hDrop t A x V (h.below hb) ok hs x1 x2)
  have okm := ok_drop ok x
  have hv0 : Hn.dropV t x = Hn.back t x.1.toNat := by unfold Hn.dropV; rw [if_pos hc]
  rw [hv0] at okm
  rw [hv0, hc] at c1
  have lm : (Hn.back t x.1.toNat).gens.length ≤ 300 + 0 := by show (t.gens.set _ _).length ≤ _; rw [List.length_set]; exact g1
  have FM := Lib.hid (show Hn.May (Hn.back t x.1.toNat) ∧ Hn.Past (Hn.back t x.1.toNat) x from ⟨Hn.may_back hm hi, Hn.past_back hm hi⟩)
  obtain ⟨M0, hM0⟩ : ∃ M, M = Hn.back t x.1.toNat := ⟨_, rfl⟩
  rw [← hM0] at okm c1 lm FM
  have c2 := Lib.hid (fun M Am V (q : HHeld V M Am) (okM : M.Ok) (m : Hn.May M) => l14Lost M Am x V q okM (Ht.short_of m) x1 x2)
  have c3 := Lib.hid (fun M Am V (q : HHeld V M Am) (okM : M.Ok) (m : Hn.May M) => hCheck M Am V q okM (Ht.short_of m))
  have c4 := Lib.hid (fun M Am p V (q : HHeld V M Am) (okM : M.Ok) (m : Hn.May M) (hp : In64 p) => hMake M Am p V q okM (Ht.short_of m) hp)
  have c5 := Lib.hid (fun M Am X V (q : HHeld V M Am) (okM : M.Ok) (m : Hn.May M) (X1 : In64 X.1) (X2 : In64 X.2) => hDrop M Am X V q okM (Ht.short_of m) X1 X2)
  have c6 := Lib.hid (fun M Am X V (q : HHeld V M Am) (okM : M.Ok) (m : Hn.May M) (X1 : In64 X.1) (X2 : In64 X.2) => l14Lost M Am X V q okM (Ht.short_of m) X1 X2)
  have OK := Lib.hid okm
  have HL := Lib.hid hl
  have HW := Lib.hid hw
  clear hM0 hc hv0 hm hi okm h ok hs x1 x2 hl hw
  unfold hv at c3 c4
  unfold hv pv at c2 c5 c6
  unfold hv pv at c1
  unfold hv pv
  go_enter Try.func7, Try.ntmps7
  go_upto_region 1 with (fail)
  obtain ⟨W0, hW0⟩ : ∃ V, V = (W.alloc (.cells #[.slice A.g t.gens.length A.cg, .slice A.a t.ats.length A.ca] 24)).alloc (.cells #[.int .i64 x.1, .int .i64 x.2] 26) := ⟨_, rfl⟩
  have BT := Lib.hid (show HBox W0 W.heap.size t A by rw [hW0]; exact HT.out _)
  have BX := Lib.hid (show PBox W0 (W.heap.size + 1) x by rw [hW0]; have := HX.out (.cells #[.slice A.g t.gens.length A.cg, .slice A.a t.ats.length A.ca] 24); rw [World.size_alloc] at this; exact this)
  have BB := Lib.hid (show Below W.heap.size W W0 by rw [hW0]; exact HB.out _ _)
  have z0 : W.heap.size + 2 ≤ W0.heap.size := by rw [hW0]; simp
  rw [← hW0]
  clear hW0 HB HT HX
  go_wp2_with fail
  refine (c0.out W0).mono ?_
  rintro e x4 ⟨rfl, hb⟩
  have zzx4 : W0.heap.size ≤ x4.heap.size := hb.size
  replace BT := Lib.hid (BT.out.below hb)
  replace BX := Lib.hid (BX.out.below hb)
  replace BB := Lib.hid (BB.out.trans (hb.mono BB.out.size))
  clear hb 
  obtain ⟨_, hBT0, hBT1, _, _⟩ := BT.out
  obtain ⟨_, hBX0, hBX1, _, _⟩ := BX.out
  try dsimp only at hBT0 hBT1 hBX0 hBX1
  go_wp2_with fail
  refine (c1.out x4 BB.out).mono ?_
  rintro e x5 ⟨A1, rfl, own, hb⟩
  have zzx5 : x4.heap.size ≤ x5.heap.size := hb.size
  replace BT := Lib.hid (BT.out.below hb)
  replace BX := Lib.hid (BX.out.below hb)
  replace BB := Lib.hid (BB.out.trans (hb.mono BB.out.size))
  have O1 := Lib.hid own
  clear own
  clear hb hBT0 hBT1 hBX0 hBX1
  have HM := Lib.hid O1.out.held
  clear O1
  have BV := Lib.hid (Below.refl x5.heap.size x5)
  have BX1 := Lib.hid BX.out
  have BB1 := Lib.hid BB.out
  try unfold hv
  try unfold pv
  go_upto_region 5 with (fail)
  obtain ⟨V6, hV⟩ : ∃ V, V = (x5).alloc (.cells #[.slice A1.g M0.gens.length A1.cg, .slice A1.a M0.ats.length A1.ca] 24) := ⟨_, rfl⟩
  have hba : Below x5.heap.size x5 V6 := by rw [hV]; exact (Below.refl _ _).alloc (Nat.le_refl _) _
  have zzV6 : x5.heap.size + 1 ≤ V6.heap.size := by rw [hV]; simp
  have BM := Lib.hid (show HBox V6 (x5.heap.size) M0 A1 by rw [hV]; have := HBox.new (x5) M0 A1 24; (try (simp only [World.size_alloc] at this)); exact this)
  rw [← hV]
  replace BT := Lib.hid (BT.out.below hba)
  replace BX := Lib.hid (BX.out.below hba)
  replace HM := Lib.hid (HM.out.below hba)
  replace BB := Lib.hid (BB.out.trans (hba.mono BB.out.size))
  replace BV := Lib.hid (BV.out.trans (hba.mono BV.out.size))
  clear hV hba
  try unfold hv
  try unfold pv
  go_upto_region 8 with (fail)
  obtain ⟨V7, hV⟩ : ∃ V, V = (V6).alloc (.cells #[.int .i64 (0, 0).1, .int .i64 (0, 0).2] 26) := ⟨_, rfl⟩
  have hba : Below V6.heap.size V6 V7 := by rw [hV]; exact (Below.refl _ _).alloc (Nat.le_refl _) _
  have zzV7 : V6.heap.size + 1 ≤ V7.heap.size := by rw [hV]; simp
  have BL := Lib.hid (show PBox V7 (V6.heap.size) (0, 0) by rw [hV]; have := PBox.new (V6) (0, 0) 26; (try (simp only [World.size_alloc] at this)); exact this)
  rw [← hV]
  replace BT := Lib.hid (BT.out.below hba)
  replace BX := Lib.hid (BX.out.below hba)
  replace HM := Lib.hid (HM.out.below hba)
  replace BM := Lib.hid (BM.out.below hba)
  replace BB := Lib.hid (BB.out.trans (hba.mono BB.out.size))
  replace BV := Lib.hid (BV.out.trans (hba.mono BV.out.size))
  clear hV hba
  clear BT
  go_wp2
  go_loopw [11, 12] (GoneJ x (x5.heap.size) (V6.heap.size) x5 l.length) (fun _ i _ => l.length - (intOf i).toNat)
  case atStart => exact ⟨0, false, M0, A1, (0, 0), Nat.zero_le _, rfl, rfl, BM.out, HM.out, BL.out, OK.out, FM.out.1, FM.out.2, lm, ⟨⟨by simp, by simp⟩, ⟨by simp, by simp⟩⟩, (fun e => by cases e), BV.out⟩
  case round =>
    have y8 : x5.heap.size < V6.heap.size := by omega
    clear BM HM BL FM OK lm BB BX BV
    obtain ⟨j, gv, M, Am, X, hj, rfl, rfl, hb8, hhe, hb10, hok, hmay, hpast, hlen, hx64, hgv, hbel⟩ := hrel
    have BM := Lib.hid hb8
    have HM := Lib.hid hhe
    have BL := Lib.hid hb10
    have OK := Lib.hid hok
    have MM := Lib.hid hmay
    have PP := Lib.hid hpast
    have LM := Lib.hid hlen
    have X64 := Lib.hid hx64
    have GV := Lib.hid hgv
    have BB := Lib.hid (BB1.out.trans (hbel.mono BB1.out.size))
    have BX := Lib.hid (BX1.out.below hbel)
    have BV := Lib.hid hbel
    have yw : x5.heap.size ≤ wr.heap.size := hbel.size
    clear hb8 hhe hb10 hok hmay hpast hlen hx64 hgv hbel
    by_cases hlt : j < l.length
    · skip
      obtain ⟨bl, ol, hal, hbl, hcl⟩ := HL.out.cell hlt
      have p64 : In64 (l.getD j 0) := HW.out j
      obtain ⟨p, hp⟩ : ∃ p, l.getD j 0 = p := ⟨_, rfl⟩
      rw [hp] at hcl p64
      clear hp
      subst hal
      have CL := Lib.hid (show ∀ V, Below W.heap.size W V → V.cell? ⟨bl, ol + j, none⟩ = some (.int .i64 p) from fun V q => (q.cell (p := ⟨bl, ol + j, none⟩) hbl).trans hcl)
      clear hcl
      have tE : decide (Hn.findE M x = 140) = true := decide_eq_true (Hn.past_lost MM.out PP.out)
      have tC : Hn.chkE M = 0 := Hn.chk_may.2 MM.out
      have i0 : (0 : Int) ≤ (j : Int) := by omega
      have i1 : (j : Int) < (l.length : Int) := by omega
      have d2 := Lib.hid (show ∀ V (q : HHeld V M Am), _ from fun V q => tE ▸ c2.out M Am V q OK.out MM.out)
      have d3 := Lib.hid (show ∀ V (q : HHeld V M Am), _ from fun V q => tC ▸ c3.out M Am V q OK.out MM.out)
      clear tE tC
      obtain ⟨_, hBM0, hBM1, _, _⟩ := BM.out
      obtain ⟨_, hBX0, hBX1, _, _⟩ := BX.out
      try dsimp only at hBM0 hBM1 hBX0 hBX1
      go_wp2_with fail
      refine (d2.out wr HM.out).mono ?_
      rintro e x8 ⟨rfl, hb⟩
      have zzx8 : wr.heap.size ≤ x8.heap.size := hb.size
      replace BM := Lib.hid (BM.out.below hb)
      replace HM := Lib.hid (HM.out.below hb)
      replace BL := Lib.hid (BL.out.below hb)
      replace BX := Lib.hid (BX.out.below hb)
      replace BB := Lib.hid (BB.out.trans (hb.mono BB.out.size))
      replace BV := Lib.hid (BV.out.trans (hb.mono BV.out.size))
      clear hb hBM0 hBM1 hBX0 hBX1
      obtain ⟨_, hBM0, hBM1, _, _⟩ := BM.out
      try dsimp only at hBM0 hBM1
      go_wp2_with fail
      refine (d3.out x8 HM.out).mono ?_
      rintro e x9 ⟨rfl, hb⟩
      have zzx9 : x8.heap.size ≤ x9.heap.size := hb.size
      replace BM := Lib.hid (BM.out.below hb)
      replace HM := Lib.hid (HM.out.below hb)
      replace BL := Lib.hid (BL.out.below hb)
      replace BX := Lib.hid (BX.out.below hb)
      replace BB := Lib.hid (BB.out.trans (hb.mono BB.out.size))
      replace BV := Lib.hid (BV.out.trans (hb.mono BV.out.size))
      clear hb hBM0 hBM1
      by_cases h0 : 0 ≤ p
      · skip
        have fu : Hn.fullB M = false := by
          have := LM.out
          unfold Hn.fullB
          rw [decide_eq_false (show ¬ M.gens.length = 65536 by omega), Bool.and_false]
        have mE : Hn.makeE M p = 0 := by unfold Hn.makeE; rw [if_pos (Hn.chk_may.2 MM.out), if_neg (by omega), fu, if_neg (by simp)]
        have mV : Hn.makeV M p = Hn.given M p := by unfold Hn.makeV; rw [mE, if_pos rfl]
        have mH : Hn.makeH M p = Hn.hnd M := by unfold Hn.makeH; rw [mE, if_pos rfl]
        have nM := Lib.hid (Hn.may_given MM.out fu h0)
        have nP := Lib.hid (Hn.past_given MM.out PP.out p)
        have nL := Lib.hid (show (Hn.given M p).gens.length ≤ 300 + (j + 1) from by have := (Hn.given_lens MM.out p).2.2; have := LM.out; omega)
        have nO := Lib.hid (OK.out.given p64)
        have nI := Lib.hid (made_is MM.out fu h0)
        have nX := Lib.hid (Hn.past_not PP.out)
        have y64 := Lib.hid (hnd_64 M OK.out p)
        have d4 := Lib.hid (fun V (q : HHeld V M Am) => c4.out M Am p V q OK.out MM.out p64)
        rw [mE, mV, mH] at d4
        rw [mH] at y64
        obtain ⟨N, hN⟩ : ∃ N, N = Hn.given M p := ⟨_, rfl⟩
        obtain ⟨Y, hY⟩ : ∃ Y, Y = Hn.hnd M := ⟨_, rfl⟩
        rw [← hN] at nM nP nL nO nI d4
        rw [← hY] at nI nX d4 y64
        clear hN hY mE mV mH fu
        have hA := CL.out x9 BB.out
        go_upto_region 15 with (fail)
        clear hA
        have CR := Lib.hid (show ∀ V, Below x9.heap.size x9 V → V.cell? ⟨bl, ol + j, none⟩ = some (.int .i64 p) from fun V q => CL.out V (BB.out.trans (q.mono BB.out.size)))
        have bmlt := BM.out.lt
        have bllt := BL.out.lt
        go_cut [13, 14, 15] from 54 to 108 (fun s13 s14 s15 wx => ∃ B A1 B2, s13 = .pointer (some ⟨B, 0, none⟩) ∧ s14 = .pointer (some ⟨B2, 0, none⟩) ∧ s15 = .int .i64 0 ∧ HBox wx B N A1 ∧ PBox wx B2 Y ∧ HOwn wx x9.heap.size N A1 ∧ x9.heap.size ≤ B ∧ x9.heap.size ≤ B2 ∧ Below x9.heap.size x9 wx)
        case first =>
          refine wp_region_held_drew (S := fun w' => w'.cell? ⟨x5.heap.size, 0, none⟩ = some (.slice Am.g M.gens.length Am.cg) ∧ w'.cell? ⟨x5.heap.size, 1, none⟩ = some (.slice Am.a M.ats.length Am.ca) ∧ w'.cell? ⟨bl, ol + j, none⟩ = some (.int .i64 p) ∧ Hid (Below x9.heap.size x9 w')) (by kernel_rfl) (by exact ⟨(BM.out.below ((Below.refl _ _).drew)).c0, (BM.out.below ((Below.refl _ _).drew)).c1, CR.out _ ((Below.refl _ _).drew), Lib.hid ((Below.refl _ _).drew)⟩) (fun hHeld => ?_)
          have BLa0 := Lib.hid (show Below x9.heap.size x9 x9.drew from (Below.refl _ _).drew)
          obtain ⟨Va, hV0⟩ : ∃ V, V = x9.drew := ⟨_, rfl⟩
          rw [← hV0] at BLa0 hHeld ⊢
          clear hV0
          refine wpAnyH_take (i := 0) (oi := Oper.mk _ _ _ _ _ _) (v := ?va0) rfl (by kernel_rfl) (by kernel_rfl) (by kernel_rfl) (fun _ _ _ h => h) (Or.inl ⟨by rfl, ?hya0⟩) (by assumption) ?resta0
          case hya0 =>
            intro w0 hSw
            try dsimp only at hSw
            go_simp
            all_goals with_reducible rfl
          try simp only [Act.put, List.setIfInBounds_toArray, List.set_cons_zero, List.set_cons_succ]
          refine wpAnyH_take (i := 1) (oi := Oper.mk _ _ _ _ _ _) (v := ?va1) rfl (by kernel_rfl) (by kernel_rfl) (by kernel_rfl) (fun _ _ _ h => h) (Or.inl ⟨by rfl, ?hya1⟩) (by assumption) ?resta1
          case hya1 =>
            intro w0 hSw
            try dsimp only at hSw
            go_simp
            all_goals with_reducible rfl
          try simp only [Act.put, List.setIfInBounds_toArray, List.set_cons_zero, List.set_cons_succ]
          refine wpAnyH_take (i := 2) (oi := Oper.mk _ _ _ _ _ _) (v := ?va2) rfl (by kernel_rfl) (by kernel_rfl) (by kernel_rfl) (fun _ _ _ h => h) (Or.inl ⟨by rfl, ?hya2⟩) (by assumption) ?resta2
          case hya2 =>
            intro w0 hSw
            try dsimp only at hSw
            go_simp
            all_goals with_reducible rfl
          try simp only [Act.put, List.setIfInBounds_toArray, List.set_cons_zero, List.set_cons_succ]
          refine wpAnyH_take (i := 3) (oi := Oper.mk _ _ _ _ _ _) (v := ?va3) rfl (by kernel_rfl) (by kernel_rfl) (by kernel_rfl) (fun _ _ _ h => h) (Or.inl ⟨by rfl, ?hya3⟩) (by assumption) ?resta3
          case hya3 =>
            intro w0 hSw
            try dsimp only at hSw
            go_simp
            all_goals with_reducible rfl
          try simp only [Act.put, List.setIfInBounds_toArray, List.set_cons_zero, List.set_cons_succ]
          refine wpAnyH_take (i := 4) (oi := Oper.mk _ _ _ _ _ _) (v := ?va4) rfl (by kernel_rfl) (by kernel_rfl) (by kernel_rfl) (fun _ _ _ h => h) (Or.inl ⟨by rfl, ?hya4⟩) (by assumption) ?resta4
          case hya4 =>
            intro w0 hSw
            try dsimp only at hSw
            go_simp
            all_goals with_reducible rfl
          try simp only [Act.put, List.setIfInBounds_toArray, List.set_cons_zero, List.set_cons_succ]
          refine wpAnyH_ready (rs := [5, 10, 11]) (by kernel_rfl) (by simp) ?_
          refine AllReadyH.cons (o := Oper.mk _ _ _ _ _ _) rfl (fun K hK => ?_) ?_
          · skip
            go_simp
            refine (d4.out Va (HM.out.below BLa0.out)).mono ?_
            rintro e Ua1 ⟨A1, rfl, own, hb⟩
            try (go_simp)
            have BLa1 := Lib.hid (BLa0.out.trans (hb.mono BLa0.out.size))
            have OX := Lib.hid (own.lower (B' := x9.heap.size) (by have := BLa0.out.size; omega))
            clear hb own
            try unfold hv
            try unfold pv
            refine hK.out _ _ (by exact ⟨(BM.out.below BLa1.out).c0, (BM.out.below BLa1.out).c1, CR.out _ BLa1.out, BLa1⟩) (fun hHelda5 => ?_)
            clear hK K hHeld
            try simp only [Act.put, List.setIfInBounds_toArray, List.set_cons_zero, List.set_cons_succ]
            refine wpAnyH_take (i := 6) (oi := Oper.mk _ _ _ _ _ _) (v := ?va6) rfl (by kernel_rfl) (by kernel_rfl) (by kernel_rfl) (fun _ _ _ h => h) (Or.inl ⟨by rfl, ?hya6⟩) (by assumption) ?resta6
            case hya6 =>
              intro w0 hSw
              try dsimp only at hSw
              go_simp
              all_goals with_reducible rfl
            try simp only [Act.put, List.setIfInBounds_toArray, List.set_cons_zero, List.set_cons_succ]
            refine wpAnyH_take (i := 7) (oi := Oper.mk _ _ _ _ _ _) (v := ?va7) rfl (by kernel_rfl) (by kernel_rfl) (by kernel_rfl) (fun _ _ _ h => h) (Or.inl ⟨by rfl, ?hya7⟩) (by assumption) ?resta7
            case hya7 =>
              intro w0 hSw
              try dsimp only at hSw
              go_simp
              all_goals with_reducible rfl
            try simp only [Act.put, List.setIfInBounds_toArray, List.set_cons_zero, List.set_cons_succ]
            refine wpAnyH_take (i := 8) (oi := Oper.mk _ _ _ _ _ _) (v := ?va8) rfl (by kernel_rfl) (by kernel_rfl) (by kernel_rfl) (fun _ _ _ h => h) (Or.inl ⟨by rfl, ?hya8⟩) (by assumption) ?resta8
            case hya8 =>
              intro w0 hSw
              try dsimp only at hSw
              go_simp
              all_goals with_reducible rfl
            try simp only [Act.put, List.setIfInBounds_toArray, List.set_cons_zero, List.set_cons_succ]
            refine wpAnyH_take (i := 9) (oi := Oper.mk _ _ _ _ _ _) (v := ?va9) rfl (by kernel_rfl) (by kernel_rfl) (by kernel_rfl) (fun _ _ _ h => h) (Or.inl ⟨by rfl, ?hya9⟩) (by assumption) ?resta9
            case hya9 =>
              intro w0 hSw
              try dsimp only at hSw
              go_simp
              all_goals with_reducible rfl
            try simp only [Act.put, List.setIfInBounds_toArray, List.set_cons_zero, List.set_cons_succ]
            refine wpAnyH_ready (rs := [10, 11]) (by kernel_rfl) (by simp) ?_
            refine AllReadyH.cons (o := Oper.mk _ _ _ _ _ _) rfl (fun K hK => ?_) ?_
            · skip
              go_simp
              obtain ⟨Ua2, hU⟩ : ∃ U, U = Ua1.alloc (.cells #[.slice none 0 0, .slice none 0 0] 24) := ⟨_, rfl⟩
              have hb : Below Ua1.heap.size Ua1 Ua2 := by rw [hU]; exact (Below.refl _ _).alloc (Nat.le_refl _) _
              have gy : x9.heap.size ≤ Ua1.heap.size := BLa1.out.size
              have OFy := Lib.hid (OX.out.off_ge (Nat.le_refl Ua1.heap.size))
              have BLa2 := Lib.hid (BLa1.out.trans (hb.mono BLa1.out.size))
              replace OX := Lib.hid (OX.out.below hb)
              have BXy := Lib.hid (show HBox Ua2 Ua1.heap.size Ht.zero hNone by rw [hU]; exact HBox.new Ua1 Ht.zero hNone 24)
              rw [← hU]
              clear hU hb
              refine hK.out _ _ (by exact ⟨(BM.out.below BLa2.out).c0, (BM.out.below BLa2.out).c1, CR.out _ BLa2.out, BLa2⟩) (fun hHelda10 => ?_)
              clear hK K hHelda5
              try simp only [Act.put, List.setIfInBounds_toArray, List.set_cons_zero, List.set_cons_succ]
              refine wpAnyH_ready (rs := [11]) (by kernel_rfl) (by simp) ?_
              refine AllReadyH.cons (o := Oper.mk _ _ _ _ _ _) rfl (fun K hK => ?_) AllReadyH.nil
              go_simp
              obtain ⟨Ua3, hU⟩ : ∃ U, U = Ua2.alloc (.cells #[.int .i64 0, .int .i64 0] 26) := ⟨_, rfl⟩
              have hb : Below Ua2.heap.size Ua2 Ua3 := by rw [hU]; exact (Below.refl _ _).alloc (Nat.le_refl _) _
              have gg : x9.heap.size ≤ Ua2.heap.size := BLa2.out.size
              have OFg := Lib.hid (OX.out.off_ge (Nat.le_refl Ua2.heap.size))
              have egy : Ua1.heap.size ≠ Ua2.heap.size := Nat.ne_of_lt BXy.out.lt
              have BLa3 := Lib.hid (BLa2.out.trans (hb.mono BLa2.out.size))
              replace BXy := Lib.hid (BXy.out.below hb)
              have ua3y : Ua1.heap.size < Ua3.heap.size := BXy.out.lt
              replace OX := Lib.hid (OX.out.below hb)
              have BXg := Lib.hid (show PBox Ua3 Ua2.heap.size (0, 0) by rw [hU]; exact PBox.new Ua2 (0, 0) 26)
              rw [← hU]
              clear hU hb
              refine hK.out _ _ (by exact ⟨(BM.out.below BLa3.out).c0, (BM.out.below BLa3.out).c1, CR.out _ BLa3.out, BLa3⟩) (fun hHelda11 => ?_)
              clear hK K hHelda10
              try simp only [Act.put, List.setIfInBounds_toArray, List.set_cons_zero, List.set_cons_succ]
              refine wpAnyH_ready (rs := [12]) (by kernel_rfl) (by simp) ?_
              refine AllReadyH.cons (o := Oper.mk _ _ _ _ _ _) rfl (fun K hK => ?_) AllReadyH.nil
              obtain ⟨_, z1, z2, zf1, zf2⟩ := BXy.out
              try dsimp only [Ht.zero, hNone, List.length_nil] at z1 z2
              go_simp
              obtain ⟨Ua4, hU⟩ : ∃ U, U = wput2 Ua3 (Ua1.heap.size) (.slice A1.g N.gens.length A1.cg) (.slice A1.a N.ats.length A1.ca) := ⟨_, rfl⟩
              have BXn := Lib.hid (show HBox Ua4 (Ua1.heap.size) N A1 by rw [hU]; exact BXy.out.put2 N A1)
              replace BXg := Lib.hid (show PBox Ua4 Ua2.heap.size (0, 0) by rw [hU]; exact BXg.out.put2o (by omega) _ _)
              replace OX := Lib.hid (show HOwn Ua4 x9.heap.size N A1 by rw [hU]; exact OX.out.put2o OFy.out _ _)
              have BLa4 := Lib.hid (show Below x9.heap.size x9 Ua4 by rw [hU]; exact below_put2 BLa3.out (by omega) _ _)
              unfold wput2 at hU
              first | rw [← hU] | skip
              clear hU z1 z2 zf1 zf2 BXy
              have BXy := BXn
              clear BXn
              refine hK.out _ _ (by exact ⟨(BM.out.below BLa4.out).c0, (BM.out.below BLa4.out).c1, CR.out _ BLa4.out, BLa4⟩) (fun hHelda12 => ?_)
              clear hK K hHelda11
              try simp only [Act.put, List.setIfInBounds_toArray, List.set_cons_zero, List.set_cons_succ]
              refine wpAnyH_ready (rs := [13]) (by kernel_rfl) (by simp) ?_
              refine AllReadyH.cons (o := Oper.mk _ _ _ _ _ _) rfl (fun K hK => ?_) AllReadyH.nil
              obtain ⟨_, z1, z2, zf1, zf2⟩ := BXg.out
              try dsimp only [Ht.zero, hNone, List.length_nil] at z1 z2
              go_simp
              obtain ⟨Ua5, hU⟩ : ∃ U, U = wput2 Ua4 (Ua2.heap.size) (.int .i64 Y.1) (.int .i64 Y.2) := ⟨_, rfl⟩
              have BXn := Lib.hid (show PBox Ua5 (Ua2.heap.size) Y by rw [hU]; exact BXg.out.put2 Y)
              replace BXy := Lib.hid (show HBox Ua5 Ua1.heap.size N A1 by rw [hU]; exact BXy.out.put2o (by omega) _ _)
              replace OX := Lib.hid (show HOwn Ua5 x9.heap.size N A1 by rw [hU]; exact OX.out.put2o OFg.out _ _)
              have BLa5 := Lib.hid (show Below x9.heap.size x9 Ua5 by rw [hU]; exact below_put2 BLa4.out (by omega) _ _)
              unfold wput2 at hU
              first | rw [← hU] | skip
              clear hU z1 z2 zf1 zf2 BXg
              have BXg := BXn
              clear BXn
              refine hK.out _ _ (by exact ⟨(BM.out.below BLa5.out).c0, (BM.out.below BLa5.out).c1, CR.out _ BLa5.out, BLa5⟩) (fun hHelda13 => ?_)
              clear hK K hHelda12
              try simp only [Act.put, List.setIfInBounds_toArray, List.set_cons_zero, List.set_cons_succ]
              refine wpAnyH_take (i := 14) (oi := Oper.mk _ _ _ _ _ _) (v := ?va14) rfl (by kernel_rfl) (by kernel_rfl) (by kernel_rfl) (fun _ _ _ h => h) (Or.inl ⟨by rfl, ?hya14⟩) (by assumption) ?resta14
              case hya14 =>
                intro w0 hSw
                try dsimp only at hSw
                go_simp
                all_goals with_reducible rfl
              try simp only [Act.put, List.setIfInBounds_toArray, List.set_cons_zero, List.set_cons_succ]
              refine wpAnyH_done (by kernel_rfl) ?_ _
              go_wp2_with fail
              go_meet
              exact ⟨_, _, _, rfl, rfl, rfl, BXy.out, BXg.out, OX.out, by omega, by omega, BLa5.out⟩
            refine AllReadyH.cons (o := Oper.mk _ _ _ _ _ _) rfl (fun K hK => ?_) AllReadyH.nil
            go_simp
            obtain ⟨Ua2, hU⟩ : ∃ U, U = Ua1.alloc (.cells #[.int .i64 0, .int .i64 0] 26) := ⟨_, rfl⟩
            have hb : Below Ua1.heap.size Ua1 Ua2 := by rw [hU]; exact (Below.refl _ _).alloc (Nat.le_refl _) _
            have gg : x9.heap.size ≤ Ua1.heap.size := BLa1.out.size
            have OFg := Lib.hid (OX.out.off_ge (Nat.le_refl Ua1.heap.size))
            have BLa2 := Lib.hid (BLa1.out.trans (hb.mono BLa1.out.size))
            replace OX := Lib.hid (OX.out.below hb)
            have BXg := Lib.hid (show PBox Ua2 Ua1.heap.size (0, 0) by rw [hU]; exact PBox.new Ua1 (0, 0) 26)
            rw [← hU]
            clear hU hb
            refine hK.out _ _ (by exact ⟨(BM.out.below BLa2.out).c0, (BM.out.below BLa2.out).c1, CR.out _ BLa2.out, BLa2⟩) (fun hHelda15 => ?_)
            clear hK K hHelda5
            try simp only [Act.put, List.setIfInBounds_toArray, List.set_cons_zero, List.set_cons_succ]
            refine wpAnyH_ready (rs := [10]) (by kernel_rfl) (by simp) ?_
            refine AllReadyH.cons (o := Oper.mk _ _ _ _ _ _) rfl (fun K hK => ?_) AllReadyH.nil
            go_simp
            obtain ⟨Ua3, hU⟩ : ∃ U, U = Ua2.alloc (.cells #[.slice none 0 0, .slice none 0 0] 24) := ⟨_, rfl⟩
            have hb : Below Ua2.heap.size Ua2 Ua3 := by rw [hU]; exact (Below.refl _ _).alloc (Nat.le_refl _) _
            have gy : x9.heap.size ≤ Ua2.heap.size := BLa2.out.size
            have OFy := Lib.hid (OX.out.off_ge (Nat.le_refl Ua2.heap.size))
            have eyg : Ua1.heap.size ≠ Ua2.heap.size := Nat.ne_of_lt BXg.out.lt
            have BLa3 := Lib.hid (BLa2.out.trans (hb.mono BLa2.out.size))
            replace BXg := Lib.hid (BXg.out.below hb)
            have ua3g : Ua1.heap.size < Ua3.heap.size := BXg.out.lt
            replace OX := Lib.hid (OX.out.below hb)
            have BXy := Lib.hid (show HBox Ua3 Ua2.heap.size Ht.zero hNone by rw [hU]; exact HBox.new Ua2 Ht.zero hNone 24)
            rw [← hU]
            clear hU hb
            refine hK.out _ _ (by exact ⟨(BM.out.below BLa3.out).c0, (BM.out.below BLa3.out).c1, CR.out _ BLa3.out, BLa3⟩) (fun hHelda16 => ?_)
            clear hK K hHelda15
            try simp only [Act.put, List.setIfInBounds_toArray, List.set_cons_zero, List.set_cons_succ]
            refine wpAnyH_ready (rs := [12]) (by kernel_rfl) (by simp) ?_
            refine AllReadyH.cons (o := Oper.mk _ _ _ _ _ _) rfl (fun K hK => ?_) AllReadyH.nil
            obtain ⟨_, z1, z2, zf1, zf2⟩ := BXy.out
            try dsimp only [Ht.zero, hNone, List.length_nil] at z1 z2
            go_simp
            obtain ⟨Ua4, hU⟩ : ∃ U, U = wput2 Ua3 (Ua2.heap.size) (.slice A1.g N.gens.length A1.cg) (.slice A1.a N.ats.length A1.ca) := ⟨_, rfl⟩
            have BXn := Lib.hid (show HBox Ua4 (Ua2.heap.size) N A1 by rw [hU]; exact BXy.out.put2 N A1)
            replace BXg := Lib.hid (show PBox Ua4 Ua1.heap.size (0, 0) by rw [hU]; exact BXg.out.put2o (by omega) _ _)
            replace OX := Lib.hid (show HOwn Ua4 x9.heap.size N A1 by rw [hU]; exact OX.out.put2o OFy.out _ _)
            have BLa4 := Lib.hid (show Below x9.heap.size x9 Ua4 by rw [hU]; exact below_put2 BLa3.out (by omega) _ _)
            unfold wput2 at hU
            first | rw [← hU] | skip
            clear hU z1 z2 zf1 zf2 BXy
            have BXy := BXn
            clear BXn
            refine hK.out _ _ (by exact ⟨(BM.out.below BLa4.out).c0, (BM.out.below BLa4.out).c1, CR.out _ BLa4.out, BLa4⟩) (fun hHelda17 => ?_)
            clear hK K hHelda16
            try simp only [Act.put, List.setIfInBounds_toArray, List.set_cons_zero, List.set_cons_succ]
            refine wpAnyH_ready (rs := [13]) (by kernel_rfl) (by simp) ?_
            refine AllReadyH.cons (o := Oper.mk _ _ _ _ _ _) rfl (fun K hK => ?_) AllReadyH.nil
            obtain ⟨_, z1, z2, zf1, zf2⟩ := BXg.out
            try dsimp only [Ht.zero, hNone, List.length_nil] at z1 z2
            go_simp
            obtain ⟨Ua5, hU⟩ : ∃ U, U = wput2 Ua4 (Ua1.heap.size) (.int .i64 Y.1) (.int .i64 Y.2) := ⟨_, rfl⟩
            have BXn := Lib.hid (show PBox Ua5 (Ua1.heap.size) Y by rw [hU]; exact BXg.out.put2 Y)
            replace BXy := Lib.hid (show HBox Ua5 Ua2.heap.size N A1 by rw [hU]; exact BXy.out.put2o (by omega) _ _)
            replace OX := Lib.hid (show HOwn Ua5 x9.heap.size N A1 by rw [hU]; exact OX.out.put2o OFg.out _ _)
            have BLa5 := Lib.hid (show Below x9.heap.size x9 Ua5 by rw [hU]; exact below_put2 BLa4.out (by omega) _ _)
            unfold wput2 at hU
            first | rw [← hU] | skip
            clear hU z1 z2 zf1 zf2 BXg
            have BXg := BXn
            clear BXn
            refine hK.out _ _ (by exact ⟨(BM.out.below BLa5.out).c0, (BM.out.below BLa5.out).c1, CR.out _ BLa5.out, BLa5⟩) (fun hHelda18 => ?_)
            clear hK K hHelda17
            try simp only [Act.put, List.setIfInBounds_toArray, List.set_cons_zero, List.set_cons_succ]
            refine wpAnyH_take (i := 14) (oi := Oper.mk _ _ _ _ _ _) (v := ?va19) rfl (by kernel_rfl) (by kernel_rfl) (by kernel_rfl) (fun _ _ _ h => h) (Or.inl ⟨by rfl, ?hya19⟩) (by assumption) ?resta19
            case hya19 =>
              intro w0 hSw
              try dsimp only at hSw
              go_simp
              all_goals with_reducible rfl
            try simp only [Act.put, List.setIfInBounds_toArray, List.set_cons_zero, List.set_cons_succ]
            refine wpAnyH_done (by kernel_rfl) ?_ _
            go_wp2_with fail
            go_meet
            exact ⟨_, _, _, rfl, rfl, rfl, BXy.out, BXg.out, OX.out, by omega, by omega, BLa5.out⟩
          refine AllReadyH.cons (o := Oper.mk _ _ _ _ _ _) rfl (fun K hK => ?_) ?_
          · skip
            go_simp
            obtain ⟨Ua1, hU⟩ : ∃ U, U = Va.alloc (.cells #[.slice none 0 0, .slice none 0 0] 24) := ⟨_, rfl⟩
            have hb : Below Va.heap.size Va Ua1 := by rw [hU]; exact (Below.refl _ _).alloc (Nat.le_refl _) _
            have gy : x9.heap.size ≤ Va.heap.size := BLa0.out.size
            have BLa1 := Lib.hid (BLa0.out.trans (hb.mono BLa0.out.size))
            have BXy := Lib.hid (show HBox Ua1 Va.heap.size Ht.zero hNone by rw [hU]; exact HBox.new Va Ht.zero hNone 24)
            rw [← hU]
            clear hU hb
            refine hK.out _ _ (by exact ⟨(BM.out.below BLa1.out).c0, (BM.out.below BLa1.out).c1, CR.out _ BLa1.out, BLa1⟩) (fun hHelda20 => ?_)
            clear hK K hHeld
            try simp only [Act.put, List.setIfInBounds_toArray, List.set_cons_zero, List.set_cons_succ]
            refine wpAnyH_ready (rs := [5, 11]) (by kernel_rfl) (by simp) ?_
            refine AllReadyH.cons (o := Oper.mk _ _ _ _ _ _) rfl (fun K hK => ?_) ?_
            · skip
              go_simp
              refine (d4.out Ua1 (HM.out.below BLa1.out)).mono ?_
              rintro e Ua2 ⟨A1, rfl, own, hb⟩
              try (go_simp)
              have OFy := Lib.hid (own.off_lt BXy.out.lt)
              have BLa2 := Lib.hid (BLa1.out.trans (hb.mono BLa1.out.size))
              replace BXy := Lib.hid (BXy.out.below hb)
              have ua2y : Va.heap.size < Ua2.heap.size := BXy.out.lt
              have OX := Lib.hid (own.lower (B' := x9.heap.size) (by have := BLa1.out.size; omega))
              clear hb own
              try unfold hv
              try unfold pv
              refine hK.out _ _ (by exact ⟨(BM.out.below BLa2.out).c0, (BM.out.below BLa2.out).c1, CR.out _ BLa2.out, BLa2⟩) (fun hHelda21 => ?_)
              clear hK K hHelda20
              try simp only [Act.put, List.setIfInBounds_toArray, List.set_cons_zero, List.set_cons_succ]
              refine wpAnyH_take (i := 6) (oi := Oper.mk _ _ _ _ _ _) (v := ?va22) rfl (by kernel_rfl) (by kernel_rfl) (by kernel_rfl) (fun _ _ _ h => h) (Or.inl ⟨by rfl, ?hya22⟩) (by assumption) ?resta22
              case hya22 =>
                intro w0 hSw
                try dsimp only at hSw
                go_simp
                all_goals with_reducible rfl
              try simp only [Act.put, List.setIfInBounds_toArray, List.set_cons_zero, List.set_cons_succ]
              refine wpAnyH_take (i := 7) (oi := Oper.mk _ _ _ _ _ _) (v := ?va23) rfl (by kernel_rfl) (by kernel_rfl) (by kernel_rfl) (fun _ _ _ h => h) (Or.inl ⟨by rfl, ?hya23⟩) (by assumption) ?resta23
              case hya23 =>
                intro w0 hSw
                try dsimp only at hSw
                go_simp
                all_goals with_reducible rfl
              try simp only [Act.put, List.setIfInBounds_toArray, List.set_cons_zero, List.set_cons_succ]
              refine wpAnyH_take (i := 8) (oi := Oper.mk _ _ _ _ _ _) (v := ?va24) rfl (by kernel_rfl) (by kernel_rfl) (by kernel_rfl) (fun _ _ _ h => h) (Or.inl ⟨by rfl, ?hya24⟩) (by assumption) ?resta24
              case hya24 =>
                intro w0 hSw
                try dsimp only at hSw
                go_simp
                all_goals with_reducible rfl
              try simp only [Act.put, List.setIfInBounds_toArray, List.set_cons_zero, List.set_cons_succ]
              refine wpAnyH_take (i := 9) (oi := Oper.mk _ _ _ _ _ _) (v := ?va25) rfl (by kernel_rfl) (by kernel_rfl) (by kernel_rfl) (fun _ _ _ h => h) (Or.inl ⟨by rfl, ?hya25⟩) (by assumption) ?resta25
              case hya25 =>
                intro w0 hSw
                try dsimp only at hSw
                go_simp
                all_goals with_reducible rfl
              try simp only [Act.put, List.setIfInBounds_toArray, List.set_cons_zero, List.set_cons_succ]
              refine wpAnyH_ready (rs := [11]) (by kernel_rfl) (by simp) ?_
              refine AllReadyH.cons (o := Oper.mk _ _ _ _ _ _) rfl (fun K hK => ?_) AllReadyH.nil
              go_simp
              obtain ⟨Ua3, hU⟩ : ∃ U, U = Ua2.alloc (.cells #[.int .i64 0, .int .i64 0] 26) := ⟨_, rfl⟩
              have hb : Below Ua2.heap.size Ua2 Ua3 := by rw [hU]; exact (Below.refl _ _).alloc (Nat.le_refl _) _
              have gg : x9.heap.size ≤ Ua2.heap.size := BLa2.out.size
              have OFg := Lib.hid (OX.out.off_ge (Nat.le_refl Ua2.heap.size))
              have egy : Va.heap.size ≠ Ua2.heap.size := Nat.ne_of_lt BXy.out.lt
              have BLa3 := Lib.hid (BLa2.out.trans (hb.mono BLa2.out.size))
              replace BXy := Lib.hid (BXy.out.below hb)
              have ua3y : Va.heap.size < Ua3.heap.size := BXy.out.lt
              replace OX := Lib.hid (OX.out.below hb)
              have BXg := Lib.hid (show PBox Ua3 Ua2.heap.size (0, 0) by rw [hU]; exact PBox.new Ua2 (0, 0) 26)
              rw [← hU]
              clear hU hb
              refine hK.out _ _ (by exact ⟨(BM.out.below BLa3.out).c0, (BM.out.below BLa3.out).c1, CR.out _ BLa3.out, BLa3⟩) (fun hHelda26 => ?_)
              clear hK K hHelda21
              try simp only [Act.put, List.setIfInBounds_toArray, List.set_cons_zero, List.set_cons_succ]
              refine wpAnyH_ready (rs := [12]) (by kernel_rfl) (by simp) ?_
              refine AllReadyH.cons (o := Oper.mk _ _ _ _ _ _) rfl (fun K hK => ?_) AllReadyH.nil
              obtain ⟨_, z1, z2, zf1, zf2⟩ := BXy.out
              try dsimp only [Ht.zero, hNone, List.length_nil] at z1 z2
              go_simp
              obtain ⟨Ua4, hU⟩ : ∃ U, U = wput2 Ua3 (Va.heap.size) (.slice A1.g N.gens.length A1.cg) (.slice A1.a N.ats.length A1.ca) := ⟨_, rfl⟩
              have BXn := Lib.hid (show HBox Ua4 (Va.heap.size) N A1 by rw [hU]; exact BXy.out.put2 N A1)
              replace BXg := Lib.hid (show PBox Ua4 Ua2.heap.size (0, 0) by rw [hU]; exact BXg.out.put2o (by omega) _ _)
              replace OX := Lib.hid (show HOwn Ua4 x9.heap.size N A1 by rw [hU]; exact OX.out.put2o OFy.out _ _)
              have BLa4 := Lib.hid (show Below x9.heap.size x9 Ua4 by rw [hU]; exact below_put2 BLa3.out (by omega) _ _)
              unfold wput2 at hU
              first | rw [← hU] | skip
              clear hU z1 z2 zf1 zf2 BXy
              have BXy := BXn
              clear BXn
              refine hK.out _ _ (by exact ⟨(BM.out.below BLa4.out).c0, (BM.out.below BLa4.out).c1, CR.out _ BLa4.out, BLa4⟩) (fun hHelda27 => ?_)
              clear hK K hHelda26
              try simp only [Act.put, List.setIfInBounds_toArray, List.set_cons_zero, List.set_cons_succ]
              refine wpAnyH_ready (rs := [13]) (by kernel_rfl) (by simp) ?_
              refine AllReadyH.cons (o := Oper.mk _ _ _ _ _ _) rfl (fun K hK => ?_) AllReadyH.nil
              obtain ⟨_, z1, z2, zf1, zf2⟩ := BXg.out
              try dsimp only [Ht.zero, hNone, List.length_nil] at z1 z2
              go_simp
              obtain ⟨Ua5, hU⟩ : ∃ U, U = wput2 Ua4 (Ua2.heap.size) (.int .i64 Y.1) (.int .i64 Y.2) := ⟨_, rfl⟩
              have BXn := Lib.hid (show PBox Ua5 (Ua2.heap.size) Y by rw [hU]; exact BXg.out.put2 Y)
              replace BXy := Lib.hid (show HBox Ua5 Va.heap.size N A1 by rw [hU]; exact BXy.out.put2o (by omega) _ _)
              replace OX := Lib.hid (show HOwn Ua5 x9.heap.size N A1 by rw [hU]; exact OX.out.put2o OFg.out _ _)
              have BLa5 := Lib.hid (show Below x9.heap.size x9 Ua5 by rw [hU]; exact below_put2 BLa4.out (by omega) _ _)
              unfold wput2 at hU
              first | rw [← hU] | skip
              clear hU z1 z2 zf1 zf2 BXg
              have BXg := BXn
              clear BXn
              refine hK.out _ _ (by exact ⟨(BM.out.below BLa5.out).c0, (BM.out.below BLa5.out).c1, CR.out _ BLa5.out, BLa5⟩) (fun hHelda28 => ?_)
              clear hK K hHelda27
              try simp only [Act.put, List.setIfInBounds_toArray, List.set_cons_zero, List.set_cons_succ]
              refine wpAnyH_take (i := 14) (oi := Oper.mk _ _ _ _ _ _) (v := ?va29) rfl (by kernel_rfl) (by kernel_rfl) (by kernel_rfl) (fun _ _ _ h => h) (Or.inl ⟨by rfl, ?hya29⟩) (by assumption) ?resta29
              case hya29 =>
                intro w0 hSw
                try dsimp only at hSw
                go_simp
                all_goals with_reducible rfl
              try simp only [Act.put, List.setIfInBounds_toArray, List.set_cons_zero, List.set_cons_succ]
              refine wpAnyH_done (by kernel_rfl) ?_ _
              go_wp2_with fail
              go_meet
              exact ⟨_, _, _, rfl, rfl, rfl, BXy.out, BXg.out, OX.out, by omega, by omega, BLa5.out⟩
            refine AllReadyH.cons (o := Oper.mk _ _ _ _ _ _) rfl (fun K hK => ?_) AllReadyH.nil
            go_simp
            obtain ⟨Ua2, hU⟩ : ∃ U, U = Ua1.alloc (.cells #[.int .i64 0, .int .i64 0] 26) := ⟨_, rfl⟩
            have hb : Below Ua1.heap.size Ua1 Ua2 := by rw [hU]; exact (Below.refl _ _).alloc (Nat.le_refl _) _
            have gg : x9.heap.size ≤ Ua1.heap.size := BLa1.out.size
            have egy : Va.heap.size ≠ Ua1.heap.size := Nat.ne_of_lt BXy.out.lt
            have BLa2 := Lib.hid (BLa1.out.trans (hb.mono BLa1.out.size))
            replace BXy := Lib.hid (BXy.out.below hb)
            have ua2y : Va.heap.size < Ua2.heap.size := BXy.out.lt
            have BXg := Lib.hid (show PBox Ua2 Ua1.heap.size (0, 0) by rw [hU]; exact PBox.new Ua1 (0, 0) 26)
            rw [← hU]
            clear hU hb
            refine hK.out _ _ (by exact ⟨(BM.out.below BLa2.out).c0, (BM.out.below BLa2.out).c1, CR.out _ BLa2.out, BLa2⟩) (fun hHelda30 => ?_)
            clear hK K hHelda20
            try simp only [Act.put, List.setIfInBounds_toArray, List.set_cons_zero, List.set_cons_succ]
            refine wpAnyH_ready (rs := [5]) (by kernel_rfl) (by simp) ?_
            refine AllReadyH.cons (o := Oper.mk _ _ _ _ _ _) rfl (fun K hK => ?_) AllReadyH.nil
            go_simp
            refine (d4.out Ua2 (HM.out.below BLa2.out)).mono ?_
            rintro e Ua3 ⟨A1, rfl, own, hb⟩
            try (go_simp)
            have OFy := Lib.hid (own.off_lt BXy.out.lt)
            have OFg := Lib.hid (own.off_lt BXg.out.lt)
            have BLa3 := Lib.hid (BLa2.out.trans (hb.mono BLa2.out.size))
            replace BXy := Lib.hid (BXy.out.below hb)
            replace BXg := Lib.hid (BXg.out.below hb)
            have ua3y : Va.heap.size < Ua3.heap.size := BXy.out.lt
            have ua3g : Ua1.heap.size < Ua3.heap.size := BXg.out.lt
            have OX := Lib.hid (own.lower (B' := x9.heap.size) (by have := BLa2.out.size; omega))
            clear hb own
            try unfold hv
            try unfold pv
            refine hK.out _ _ (by exact ⟨(BM.out.below BLa3.out).c0, (BM.out.below BLa3.out).c1, CR.out _ BLa3.out, BLa3⟩) (fun hHelda31 => ?_)
            clear hK K hHelda30
            try simp only [Act.put, List.setIfInBounds_toArray, List.set_cons_zero, List.set_cons_succ]
            refine wpAnyH_take (i := 6) (oi := Oper.mk _ _ _ _ _ _) (v := ?va32) rfl (by kernel_rfl) (by kernel_rfl) (by kernel_rfl) (fun _ _ _ h => h) (Or.inl ⟨by rfl, ?hya32⟩) (by assumption) ?resta32
            case hya32 =>
              intro w0 hSw
              try dsimp only at hSw
              go_simp
              all_goals with_reducible rfl
            try simp only [Act.put, List.setIfInBounds_toArray, List.set_cons_zero, List.set_cons_succ]
            refine wpAnyH_take (i := 7) (oi := Oper.mk _ _ _ _ _ _) (v := ?va33) rfl (by kernel_rfl) (by kernel_rfl) (by kernel_rfl) (fun _ _ _ h => h) (Or.inl ⟨by rfl, ?hya33⟩) (by assumption) ?resta33
            case hya33 =>
              intro w0 hSw
              try dsimp only at hSw
              go_simp
              all_goals with_reducible rfl
            try simp only [Act.put, List.setIfInBounds_toArray, List.set_cons_zero, List.set_cons_succ]
            refine wpAnyH_take (i := 8) (oi := Oper.mk _ _ _ _ _ _) (v := ?va34) rfl (by kernel_rfl) (by kernel_rfl) (by kernel_rfl) (fun _ _ _ h => h) (Or.inl ⟨by rfl, ?hya34⟩) (by assumption) ?resta34
            case hya34 =>
              intro w0 hSw
              try dsimp only at hSw
              go_simp
              all_goals with_reducible rfl
            try simp only [Act.put, List.setIfInBounds_toArray, List.set_cons_zero, List.set_cons_succ]
            refine wpAnyH_take (i := 9) (oi := Oper.mk _ _ _ _ _ _) (v := ?va35) rfl (by kernel_rfl) (by kernel_rfl) (by kernel_rfl) (fun _ _ _ h => h) (Or.inl ⟨by rfl, ?hya35⟩) (by assumption) ?resta35
            case hya35 =>
              intro w0 hSw
              try dsimp only at hSw
              go_simp
              all_goals with_reducible rfl
            try simp only [Act.put, List.setIfInBounds_toArray, List.set_cons_zero, List.set_cons_succ]
            refine wpAnyH_ready (rs := [12]) (by kernel_rfl) (by simp) ?_
            refine AllReadyH.cons (o := Oper.mk _ _ _ _ _ _) rfl (fun K hK => ?_) AllReadyH.nil
            obtain ⟨_, z1, z2, zf1, zf2⟩ := BXy.out
            try dsimp only [Ht.zero, hNone, List.length_nil] at z1 z2
            go_simp
            obtain ⟨Ua4, hU⟩ : ∃ U, U = wput2 Ua3 (Va.heap.size) (.slice A1.g N.gens.length A1.cg) (.slice A1.a N.ats.length A1.ca) := ⟨_, rfl⟩
            have BXn := Lib.hid (show HBox Ua4 (Va.heap.size) N A1 by rw [hU]; exact BXy.out.put2 N A1)
            replace BXg := Lib.hid (show PBox Ua4 Ua1.heap.size (0, 0) by rw [hU]; exact BXg.out.put2o (by omega) _ _)
            replace OX := Lib.hid (show HOwn Ua4 x9.heap.size N A1 by rw [hU]; exact OX.out.put2o OFy.out _ _)
            have BLa4 := Lib.hid (show Below x9.heap.size x9 Ua4 by rw [hU]; exact below_put2 BLa3.out (by omega) _ _)
            unfold wput2 at hU
            first | rw [← hU] | skip
            clear hU z1 z2 zf1 zf2 BXy
            have BXy := BXn
            clear BXn
            refine hK.out _ _ (by exact ⟨(BM.out.below BLa4.out).c0, (BM.out.below BLa4.out).c1, CR.out _ BLa4.out, BLa4⟩) (fun hHelda36 => ?_)
            clear hK K hHelda31
            try simp only [Act.put, List.setIfInBounds_toArray, List.set_cons_zero, List.set_cons_succ]
            refine wpAnyH_ready (rs := [13]) (by kernel_rfl) (by simp) ?_
            refine AllReadyH.cons (o := Oper.mk _ _ _ _ _ _) rfl (fun K hK => ?_) AllReadyH.nil
            obtain ⟨_, z1, z2, zf1, zf2⟩ := BXg.out
            try dsimp only [Ht.zero, hNone, List.length_nil] at z1 z2
            go_simp
            obtain ⟨Ua5, hU⟩ : ∃ U, U = wput2 Ua4 (Ua1.heap.size) (.int .i64 Y.1) (.int .i64 Y.2) := ⟨_, rfl⟩
            have BXn := Lib.hid (show PBox Ua5 (Ua1.heap.size) Y by rw [hU]; exact BXg.out.put2 Y)
            replace BXy := Lib.hid (show HBox Ua5 Va.heap.size N A1 by rw [hU]; exact BXy.out.put2o (by omega) _ _)
            replace OX := Lib.hid (show HOwn Ua5 x9.heap.size N A1 by rw [hU]; exact OX.out.put2o OFg.out _ _)
            have BLa5 := Lib.hid (show Below x9.heap.size x9 Ua5 by rw [hU]; exact below_put2 BLa4.out (by omega) _ _)
            unfold wput2 at hU
            first | rw [← hU] | skip
            clear hU z1 z2 zf1 zf2 BXg
            have BXg := BXn
            clear BXn
            refine hK.out _ _ (by exact ⟨(BM.out.below BLa5.out).c0, (BM.out.below BLa5.out).c1, CR.out _ BLa5.out, BLa5⟩) (fun hHelda37 => ?_)
            clear hK K hHelda36
            try simp only [Act.put, List.setIfInBounds_toArray, List.set_cons_zero, List.set_cons_succ]
            refine wpAnyH_take (i := 14) (oi := Oper.mk _ _ _ _ _ _) (v := ?va38) rfl (by kernel_rfl) (by kernel_rfl) (by kernel_rfl) (fun _ _ _ h => h) (Or.inl ⟨by rfl, ?hya38⟩) (by assumption) ?resta38
            case hya38 =>
              intro w0 hSw
              try dsimp only at hSw
              go_simp
              all_goals with_reducible rfl
            try simp only [Act.put, List.setIfInBounds_toArray, List.set_cons_zero, List.set_cons_succ]
            refine wpAnyH_done (by kernel_rfl) ?_ _
            go_wp2_with fail
            go_meet
            exact ⟨_, _, _, rfl, rfl, rfl, BXy.out, BXg.out, OX.out, by omega, by omega, BLa5.out⟩
          refine AllReadyH.cons (o := Oper.mk _ _ _ _ _ _) rfl (fun K hK => ?_) AllReadyH.nil
          go_simp
          obtain ⟨Ua1, hU⟩ : ∃ U, U = Va.alloc (.cells #[.int .i64 0, .int .i64 0] 26) := ⟨_, rfl⟩
          have hb : Below Va.heap.size Va Ua1 := by rw [hU]; exact (Below.refl _ _).alloc (Nat.le_refl _) _
          have gg : x9.heap.size ≤ Va.heap.size := BLa0.out.size
          have BLa1 := Lib.hid (BLa0.out.trans (hb.mono BLa0.out.size))
          have BXg := Lib.hid (show PBox Ua1 Va.heap.size (0, 0) by rw [hU]; exact PBox.new Va (0, 0) 26)
          rw [← hU]
          clear hU hb
          refine hK.out _ _ (by exact ⟨(BM.out.below BLa1.out).c0, (BM.out.below BLa1.out).c1, CR.out _ BLa1.out, BLa1⟩) (fun hHelda39 => ?_)
          clear hK K hHeld
          try simp only [Act.put, List.setIfInBounds_toArray, List.set_cons_zero, List.set_cons_succ]
          refine wpAnyH_ready (rs := [5, 10]) (by kernel_rfl) (by simp) ?_
          refine AllReadyH.cons (o := Oper.mk _ _ _ _ _ _) rfl (fun K hK => ?_) ?_
          · skip
            go_simp
            refine (d4.out Ua1 (HM.out.below BLa1.out)).mono ?_
            rintro e Ua2 ⟨A1, rfl, own, hb⟩
            try (go_simp)
            have OFg := Lib.hid (own.off_lt BXg.out.lt)
            have BLa2 := Lib.hid (BLa1.out.trans (hb.mono BLa1.out.size))
            replace BXg := Lib.hid (BXg.out.below hb)
            have ua2g : Va.heap.size < Ua2.heap.size := BXg.out.lt
            have OX := Lib.hid (own.lower (B' := x9.heap.size) (by have := BLa1.out.size; omega))
            clear hb own
            try unfold hv
            try unfold pv
            refine hK.out _ _ (by exact ⟨(BM.out.below BLa2.out).c0, (BM.out.below BLa2.out).c1, CR.out _ BLa2.out, BLa2⟩) (fun hHelda40 => ?_)
            clear hK K hHelda39
            try simp only [Act.put, List.setIfInBounds_toArray, List.set_cons_zero, List.set_cons_succ]
            refine wpAnyH_take (i := 6) (oi := Oper.mk _ _ _ _ _ _) (v := ?va41) rfl (by kernel_rfl) (by kernel_rfl) (by kernel_rfl) (fun _ _ _ h => h) (Or.inl ⟨by rfl, ?hya41⟩) (by assumption) ?resta41
            case hya41 =>
              intro w0 hSw
              try dsimp only at hSw
              go_simp
              all_goals with_reducible rfl
            try simp only [Act.put, List.setIfInBounds_toArray, List.set_cons_zero, List.set_cons_succ]
            refine wpAnyH_take (i := 7) (oi := Oper.mk _ _ _ _ _ _) (v := ?va42) rfl (by kernel_rfl) (by kernel_rfl) (by kernel_rfl) (fun _ _ _ h => h) (Or.inl ⟨by rfl, ?hya42⟩) (by assumption) ?resta42
            case hya42 =>
              intro w0 hSw
              try dsimp only at hSw
              go_simp
              all_goals with_reducible rfl
            try simp only [Act.put, List.setIfInBounds_toArray, List.set_cons_zero, List.set_cons_succ]
            refine wpAnyH_take (i := 8) (oi := Oper.mk _ _ _ _ _ _) (v := ?va43) rfl (by kernel_rfl) (by kernel_rfl) (by kernel_rfl) (fun _ _ _ h => h) (Or.inl ⟨by rfl, ?hya43⟩) (by assumption) ?resta43
            case hya43 =>
              intro w0 hSw
              try dsimp only at hSw
              go_simp
              all_goals with_reducible rfl
            try simp only [Act.put, List.setIfInBounds_toArray, List.set_cons_zero, List.set_cons_succ]
            refine wpAnyH_take (i := 9) (oi := Oper.mk _ _ _ _ _ _) (v := ?va44) rfl (by kernel_rfl) (by kernel_rfl) (by kernel_rfl) (fun _ _ _ h => h) (Or.inl ⟨by rfl, ?hya44⟩) (by assumption) ?resta44
            case hya44 =>
              intro w0 hSw
              try dsimp only at hSw
              go_simp
              all_goals with_reducible rfl
            try simp only [Act.put, List.setIfInBounds_toArray, List.set_cons_zero, List.set_cons_succ]
            refine wpAnyH_ready (rs := [10]) (by kernel_rfl) (by simp) ?_
            refine AllReadyH.cons (o := Oper.mk _ _ _ _ _ _) rfl (fun K hK => ?_) AllReadyH.nil
            go_simp
            obtain ⟨Ua3, hU⟩ : ∃ U, U = Ua2.alloc (.cells #[.slice none 0 0, .slice none 0 0] 24) := ⟨_, rfl⟩
            have hb : Below Ua2.heap.size Ua2 Ua3 := by rw [hU]; exact (Below.refl _ _).alloc (Nat.le_refl _) _
            have gy : x9.heap.size ≤ Ua2.heap.size := BLa2.out.size
            have OFy := Lib.hid (OX.out.off_ge (Nat.le_refl Ua2.heap.size))
            have eyg : Va.heap.size ≠ Ua2.heap.size := Nat.ne_of_lt BXg.out.lt
            have BLa3 := Lib.hid (BLa2.out.trans (hb.mono BLa2.out.size))
            replace BXg := Lib.hid (BXg.out.below hb)
            have ua3g : Va.heap.size < Ua3.heap.size := BXg.out.lt
            replace OX := Lib.hid (OX.out.below hb)
            have BXy := Lib.hid (show HBox Ua3 Ua2.heap.size Ht.zero hNone by rw [hU]; exact HBox.new Ua2 Ht.zero hNone 24)
            rw [← hU]
            clear hU hb
            refine hK.out _ _ (by exact ⟨(BM.out.below BLa3.out).c0, (BM.out.below BLa3.out).c1, CR.out _ BLa3.out, BLa3⟩) (fun hHelda45 => ?_)
            clear hK K hHelda40
            try simp only [Act.put, List.setIfInBounds_toArray, List.set_cons_zero, List.set_cons_succ]
            refine wpAnyH_ready (rs := [12]) (by kernel_rfl) (by simp) ?_
            refine AllReadyH.cons (o := Oper.mk _ _ _ _ _ _) rfl (fun K hK => ?_) AllReadyH.nil
            obtain ⟨_, z1, z2, zf1, zf2⟩ := BXy.out
            try dsimp only [Ht.zero, hNone, List.length_nil] at z1 z2
            go_simp
            obtain ⟨Ua4, hU⟩ : ∃ U, U = wput2 Ua3 (Ua2.heap.size) (.slice A1.g N.gens.length A1.cg) (.slice A1.a N.ats.length A1.ca) := ⟨_, rfl⟩
            have BXn := Lib.hid (show HBox Ua4 (Ua2.heap.size) N A1 by rw [hU]; exact BXy.out.put2 N A1)
            replace BXg := Lib.hid (show PBox Ua4 Va.heap.size (0, 0) by rw [hU]; exact BXg.out.put2o (by omega) _ _)
            replace OX := Lib.hid (show HOwn Ua4 x9.heap.size N A1 by rw [hU]; exact OX.out.put2o OFy.out _ _)
            have BLa4 := Lib.hid (show Below x9.heap.size x9 Ua4 by rw [hU]; exact below_put2 BLa3.out (by omega) _ _)
            unfold wput2 at hU
            first | rw [← hU] | skip
            clear hU z1 z2 zf1 zf2 BXy
            have BXy := BXn
            clear BXn
            refine hK.out _ _ (by exact ⟨(BM.out.below BLa4.out).c0, (BM.out.below BLa4.out).c1, CR.out _ BLa4.out, BLa4⟩) (fun hHelda46 => ?_)
            clear hK K hHelda45
            try simp only [Act.put, List.setIfInBounds_toArray, List.set_cons_zero, List.set_cons_succ]
            refine wpAnyH_ready (rs := [13]) (by kernel_rfl) (by simp) ?_
            refine AllReadyH.cons (o := Oper.mk _ _ _ _ _ _) rfl (fun K hK => ?_) AllReadyH.nil
            obtain ⟨_, z1, z2, zf1, zf2⟩ := BXg.out
            try dsimp only [Ht.zero, hNone, List.length_nil] at z1 z2
            go_simp
            obtain ⟨Ua5, hU⟩ : ∃ U, U = wput2 Ua4 (Va.heap.size) (.int .i64 Y.1) (.int .i64 Y.2) := ⟨_, rfl⟩
            have BXn := Lib.hid (show PBox Ua5 (Va.heap.size) Y by rw [hU]; exact BXg.out.put2 Y)
            replace BXy := Lib.hid (show HBox Ua5 Ua2.heap.size N A1 by rw [hU]; exact BXy.out.put2o (by omega) _ _)
            replace OX := Lib.hid (show HOwn Ua5 x9.heap.size N A1 by rw [hU]; exact OX.out.put2o OFg.out _ _)
            have BLa5 := Lib.hid (show Below x9.heap.size x9 Ua5 by rw [hU]; exact below_put2 BLa4.out (by omega) _ _)
            unfold wput2 at hU
            first | rw [← hU] | skip
            clear hU z1 z2 zf1 zf2 BXg
            have BXg := BXn
            clear BXn
            refine hK.out _ _ (by exact ⟨(BM.out.below BLa5.out).c0, (BM.out.below BLa5.out).c1, CR.out _ BLa5.out, BLa5⟩) (fun hHelda47 => ?_)
            clear hK K hHelda46
            try simp only [Act.put, List.setIfInBounds_toArray, List.set_cons_zero, List.set_cons_succ]
            refine wpAnyH_take (i := 14) (oi := Oper.mk _ _ _ _ _ _) (v := ?va48) rfl (by kernel_rfl) (by kernel_rfl) (by kernel_rfl) (fun _ _ _ h => h) (Or.inl ⟨by rfl, ?hya48⟩) (by assumption) ?resta48
            case hya48 =>
              intro w0 hSw
              try dsimp only at hSw
              go_simp
              all_goals with_reducible rfl
            try simp only [Act.put, List.setIfInBounds_toArray, List.set_cons_zero, List.set_cons_succ]
            refine wpAnyH_done (by kernel_rfl) ?_ _
            go_wp2_with fail
            go_meet
            exact ⟨_, _, _, rfl, rfl, rfl, BXy.out, BXg.out, OX.out, by omega, by omega, BLa5.out⟩
          refine AllReadyH.cons (o := Oper.mk _ _ _ _ _ _) rfl (fun K hK => ?_) AllReadyH.nil
          go_simp
          obtain ⟨Ua2, hU⟩ : ∃ U, U = Ua1.alloc (.cells #[.slice none 0 0, .slice none 0 0] 24) := ⟨_, rfl⟩
          have hb : Below Ua1.heap.size Ua1 Ua2 := by rw [hU]; exact (Below.refl _ _).alloc (Nat.le_refl _) _
          have gy : x9.heap.size ≤ Ua1.heap.size := BLa1.out.size
          have eyg : Va.heap.size ≠ Ua1.heap.size := Nat.ne_of_lt BXg.out.lt
          have BLa2 := Lib.hid (BLa1.out.trans (hb.mono BLa1.out.size))
          replace BXg := Lib.hid (BXg.out.below hb)
          have ua2g : Va.heap.size < Ua2.heap.size := BXg.out.lt
          have BXy := Lib.hid (show HBox Ua2 Ua1.heap.size Ht.zero hNone by rw [hU]; exact HBox.new Ua1 Ht.zero hNone 24)
          rw [← hU]
          clear hU hb
          refine hK.out _ _ (by exact ⟨(BM.out.below BLa2.out).c0, (BM.out.below BLa2.out).c1, CR.out _ BLa2.out, BLa2⟩) (fun hHelda49 => ?_)
          clear hK K hHelda39
          try simp only [Act.put, List.setIfInBounds_toArray, List.set_cons_zero, List.set_cons_succ]
          refine wpAnyH_ready (rs := [5]) (by kernel_rfl) (by simp) ?_
          refine AllReadyH.cons (o := Oper.mk _ _ _ _ _ _) rfl (fun K hK => ?_) AllReadyH.nil
          go_simp
          refine (d4.out Ua2 (HM.out.below BLa2.out)).mono ?_
          rintro e Ua3 ⟨A1, rfl, own, hb⟩
          try (go_simp)
          have OFg := Lib.hid (own.off_lt BXg.out.lt)
          have OFy := Lib.hid (own.off_lt BXy.out.lt)
          have BLa3 := Lib.hid (BLa2.out.trans (hb.mono BLa2.out.size))
          replace BXg := Lib.hid (BXg.out.below hb)
          replace BXy := Lib.hid (BXy.out.below hb)
          have ua3g : Va.heap.size < Ua3.heap.size := BXg.out.lt
          have ua3y : Ua1.heap.size < Ua3.heap.size := BXy.out.lt
          have OX := Lib.hid (own.lower (B' := x9.heap.size) (by have := BLa2.out.size; omega))
          clear hb own
          try unfold hv
          try unfold pv
          refine hK.out _ _ (by exact ⟨(BM.out.below BLa3.out).c0, (BM.out.below BLa3.out).c1, CR.out _ BLa3.out, BLa3⟩) (fun hHelda50 => ?_)
          clear hK K hHelda49
          try simp only [Act.put, List.setIfInBounds_toArray, List.set_cons_zero, List.set_cons_succ]
          refine wpAnyH_take (i := 6) (oi := Oper.mk _ _ _ _ _ _) (v := ?va51) rfl (by kernel_rfl) (by kernel_rfl) (by kernel_rfl) (fun _ _ _ h => h) (Or.inl ⟨by rfl, ?hya51⟩) (by assumption) ?resta51
          case hya51 =>
            intro w0 hSw
            try dsimp only at hSw
            go_simp
            all_goals with_reducible rfl
          try simp only [Act.put, List.setIfInBounds_toArray, List.set_cons_zero, List.set_cons_succ]
          refine wpAnyH_take (i := 7) (oi := Oper.mk _ _ _ _ _ _) (v := ?va52) rfl (by kernel_rfl) (by kernel_rfl) (by kernel_rfl) (fun _ _ _ h => h) (Or.inl ⟨by rfl, ?hya52⟩) (by assumption) ?resta52
          case hya52 =>
            intro w0 hSw
            try dsimp only at hSw
            go_simp
            all_goals with_reducible rfl
          try simp only [Act.put, List.setIfInBounds_toArray, List.set_cons_zero, List.set_cons_succ]
          refine wpAnyH_take (i := 8) (oi := Oper.mk _ _ _ _ _ _) (v := ?va53) rfl (by kernel_rfl) (by kernel_rfl) (by kernel_rfl) (fun _ _ _ h => h) (Or.inl ⟨by rfl, ?hya53⟩) (by assumption) ?resta53
          case hya53 =>
            intro w0 hSw
            try dsimp only at hSw
            go_simp
            all_goals with_reducible rfl
          try simp only [Act.put, List.setIfInBounds_toArray, List.set_cons_zero, List.set_cons_succ]
          refine wpAnyH_take (i := 9) (oi := Oper.mk _ _ _ _ _ _) (v := ?va54) rfl (by kernel_rfl) (by kernel_rfl) (by kernel_rfl) (fun _ _ _ h => h) (Or.inl ⟨by rfl, ?hya54⟩) (by assumption) ?resta54
          case hya54 =>
            intro w0 hSw
            try dsimp only at hSw
            go_simp
            all_goals with_reducible rfl
          try simp only [Act.put, List.setIfInBounds_toArray, List.set_cons_zero, List.set_cons_succ]
          refine wpAnyH_ready (rs := [12]) (by kernel_rfl) (by simp) ?_
          refine AllReadyH.cons (o := Oper.mk _ _ _ _ _ _) rfl (fun K hK => ?_) AllReadyH.nil
          obtain ⟨_, z1, z2, zf1, zf2⟩ := BXy.out
          try dsimp only [Ht.zero, hNone, List.length_nil] at z1 z2
          go_simp
          obtain ⟨Ua4, hU⟩ : ∃ U, U = wput2 Ua3 (Ua1.heap.size) (.slice A1.g N.gens.length A1.cg) (.slice A1.a N.ats.length A1.ca) := ⟨_, rfl⟩
          have BXn := Lib.hid (show HBox Ua4 (Ua1.heap.size) N A1 by rw [hU]; exact BXy.out.put2 N A1)
          replace BXg := Lib.hid (show PBox Ua4 Va.heap.size (0, 0) by rw [hU]; exact BXg.out.put2o (by omega) _ _)
          replace OX := Lib.hid (show HOwn Ua4 x9.heap.size N A1 by rw [hU]; exact OX.out.put2o OFy.out _ _)
          have BLa4 := Lib.hid (show Below x9.heap.size x9 Ua4 by rw [hU]; exact below_put2 BLa3.out (by omega) _ _)
          unfold wput2 at hU
          first | rw [← hU] | skip
          clear hU z1 z2 zf1 zf2 BXy
          have BXy := BXn
          clear BXn
          refine hK.out _ _ (by exact ⟨(BM.out.below BLa4.out).c0, (BM.out.below BLa4.out).c1, CR.out _ BLa4.out, BLa4⟩) (fun hHelda55 => ?_)
          clear hK K hHelda50
          try simp only [Act.put, List.setIfInBounds_toArray, List.set_cons_zero, List.set_cons_succ]
          refine wpAnyH_ready (rs := [13]) (by kernel_rfl) (by simp) ?_
          refine AllReadyH.cons (o := Oper.mk _ _ _ _ _ _) rfl (fun K hK => ?_) AllReadyH.nil
          obtain ⟨_, z1, z2, zf1, zf2⟩ := BXg.out
          try dsimp only [Ht.zero, hNone, List.length_nil] at z1 z2
          go_simp
          obtain ⟨Ua5, hU⟩ : ∃ U, U = wput2 Ua4 (Va.heap.size) (.int .i64 Y.1) (.int .i64 Y.2) := ⟨_, rfl⟩
          have BXn := Lib.hid (show PBox Ua5 (Va.heap.size) Y by rw [hU]; exact BXg.out.put2 Y)
          replace BXy := Lib.hid (show HBox Ua5 Ua1.heap.size N A1 by rw [hU]; exact BXy.out.put2o (by omega) _ _)
          replace OX := Lib.hid (show HOwn Ua5 x9.heap.size N A1 by rw [hU]; exact OX.out.put2o OFg.out _ _)
          have BLa5 := Lib.hid (show Below x9.heap.size x9 Ua5 by rw [hU]; exact below_put2 BLa4.out (by omega) _ _)
          unfold wput2 at hU
          first | rw [← hU] | skip
          clear hU z1 z2 zf1 zf2 BXg
          have BXg := BXn
          clear BXn
          refine hK.out _ _ (by exact ⟨(BM.out.below BLa5.out).c0, (BM.out.below BLa5.out).c1, CR.out _ BLa5.out, BLa5⟩) (fun hHelda56 => ?_)
          clear hK K hHelda55
          try simp only [Act.put, List.setIfInBounds_toArray, List.set_cons_zero, List.set_cons_succ]
          refine wpAnyH_take (i := 14) (oi := Oper.mk _ _ _ _ _ _) (v := ?va57) rfl (by kernel_rfl) (by kernel_rfl) (by kernel_rfl) (fun _ _ _ h => h) (Or.inl ⟨by rfl, ?hya57⟩) (by assumption) ?resta57
          case hya57 =>
            intro w0 hSw
            try dsimp only at hSw
            go_simp
            all_goals with_reducible rfl
          try simp only [Act.put, List.setIfInBounds_toArray, List.set_cons_zero, List.set_cons_succ]
          refine wpAnyH_done (by kernel_rfl) ?_ _
          go_wp2_with fail
          go_meet
          exact ⟨_, _, _, rfl, rfl, rfl, BXy.out, BXg.out, OX.out, by omega, by omega, BLa5.out⟩
        case rest =>
          obtain ⟨B13, A1, B14, rfl, rfl, rfl, hy, hg, hown, y13, y14, hb⟩ := hcut
          obtain ⟨wD, hwD⟩ : ∃ V, V = wc := ⟨_, rfl⟩
          rw [← hwD] at hy hg hown hb ⊢
          clear hwD
          have BY := Lib.hid hy
          have BG := Lib.hid hg
          have OX := Lib.hid hown
          have yD : x9.heap.size ≤ wD.heap.size := hb.size
          replace BM := Lib.hid (BM.out.below hb)
          replace BL := Lib.hid (BL.out.below hb)
          replace BX := Lib.hid (BX.out.below hb)
          replace BB := Lib.hid (BB.out.trans (hb.mono BB.out.size))
          replace BV := Lib.hid (BV.out.trans (hb.mono BV.out.size))
          clear hb hy hg hown HM CR d4
          have nE := Lib.hid (show ((Y.1 == x.1) && (Y.2 == x.2)) = false from by
            cases e : ((Y.1 == x.1) && (Y.2 == x.2))
            · rfl
            · simp only [Bool.and_eq_true, beq_iff_eq] at e
              exact absurd (Prod.ext e.1 e.2) nX.out)
          go_upto_region 16 with (fail)
          go_cut [90] from 54 to 108 (fun s90 wx => s90 = .bool false ∧ wx = wD)
          case first =>
            obtain ⟨_, ha0, ha1, _, _⟩ := BG.out
            obtain ⟨_, hc0, hc1, _, _⟩ := BX.out
            have nF := nE.out
            go_wp2
            all_goals
              go_meet
              first
              | exact ⟨rfl, rfl⟩
              | (exfalso; simp_all; done)
          case rest =>
            obtain ⟨rfl, hw⟩ := hcut
            rw [hw]
            clear hw nE
            go_upto_region 18 with (fail)
            have CS := Lib.hid (show wD.cell? ⟨B13, 0, none⟩ = some (.slice A1.g N.gens.length A1.cg) ∧ wD.cell? ⟨B13, 1, none⟩ = some (.slice A1.a N.ats.length A1.ca) ∧ wD.cell? ⟨B14, 0, none⟩ = some (.int .i64 Y.1) ∧ wD.cell? ⟨B14, 1, none⟩ = some (.int .i64 Y.2) from ⟨BY.out.c0, BY.out.c1, BG.out.c0, BG.out.c1⟩)
            clear BY BG
            refine wp_region_held_drew (S := fun w' => w'.cell? ⟨B13, 0, none⟩ = some (.slice A1.g N.gens.length A1.cg) ∧ w'.cell? ⟨B13, 1, none⟩ = some (.slice A1.a N.ats.length A1.ca) ∧ w'.cell? ⟨B14, 0, none⟩ = some (.int .i64 Y.1) ∧ w'.cell? ⟨B14, 1, none⟩ = some (.int .i64 Y.2)) (by kernel_rfl) (by exact CS.out) (fun hHeld => ?_)
            obtain ⟨wDd, hV⟩ : ∃ V, V = wD.drew := ⟨_, rfl⟩
            replace CS := Lib.hid (show wDd.cell? ⟨B13, 0, none⟩ = some (.slice A1.g N.gens.length A1.cg) ∧ wDd.cell? ⟨B13, 1, none⟩ = some (.slice A1.a N.ats.length A1.ca) ∧ wDd.cell? ⟨B14, 0, none⟩ = some (.int .i64 Y.1) ∧ wDd.cell? ⟨B14, 1, none⟩ = some (.int .i64 Y.2) by rw [hV]; exact CS.out)
            replace BM := Lib.hid (show HBox wDd (x5.heap.size) (M) (Am) by rw [hV]; exact BM.out.below ((Below.refl _ _).drew))
            replace BL := Lib.hid (show PBox wDd (V6.heap.size) (X) by rw [hV]; exact BL.out.below ((Below.refl _ _).drew))
            replace OX := Lib.hid (show HOwn wDd (x9.heap.size) (N) (A1) by rw [hV]; exact OX.out.below ((Below.refl _ _).drew))
            replace BV := Lib.hid (show Below x5.heap.size x5 wDd by rw [hV]; exact BV.out.drew)
            rw [← hV] at hHeld ⊢
            clear hV
            refine wpAnyH_take (i := 0) (oi := Oper.mk _ _ _ _ _ _) (v := ?vb0) rfl (by kernel_rfl) (by kernel_rfl) (by kernel_rfl) (fun _ _ _ h => h) (Or.inl ⟨by rfl, ?hyb0⟩) (by assumption) ?restb0
            case hyb0 =>
              intro w0 hSw
              try dsimp only at hSw
              go_simp
              all_goals with_reducible rfl
            try simp only [Act.put, List.setIfInBounds_toArray, List.set_cons_zero, List.set_cons_succ]
            refine wpAnyH_take (i := 1) (oi := Oper.mk _ _ _ _ _ _) (v := ?vb1) rfl (by kernel_rfl) (by kernel_rfl) (by kernel_rfl) (fun _ _ _ h => h) (Or.inl ⟨by rfl, ?hyb1⟩) (by assumption) ?restb1
            case hyb1 =>
              intro w0 hSw
              try dsimp only at hSw
              go_simp
              all_goals with_reducible rfl
            try simp only [Act.put, List.setIfInBounds_toArray, List.set_cons_zero, List.set_cons_succ]
            refine wpAnyH_ready (rs := [2]) (by kernel_rfl) (by simp) ?_
            refine AllReadyH.cons (o := Oper.mk _ _ _ _ _ _) rfl (fun K hK => ?_) AllReadyH.nil
            obtain ⟨_, z1, z2, zf1, zf2⟩ := BM.out
            try dsimp only [Ht.zero, hNone, List.length_nil] at z1 z2
            go_simp
            obtain ⟨Fb1, hU⟩ : ∃ U, U = wput2 wDd (x5.heap.size) (.slice (A1).g (N).gens.length (A1).cg) (.slice (A1).a (N).ats.length (A1).ca) := ⟨_, rfl⟩
            replace CS := Lib.hid (show Fb1.cell? ⟨B13, 0, none⟩ = some (.slice A1.g N.gens.length A1.cg) ∧ Fb1.cell? ⟨B13, 1, none⟩ = some (.slice A1.a N.ats.length A1.ca) ∧ Fb1.cell? ⟨B14, 0, none⟩ = some (.int .i64 Y.1) ∧ Fb1.cell? ⟨B14, 1, none⟩ = some (.int .i64 Y.2) by rw [hU]; obtain ⟨c0, c1, c2, c3⟩ := CS.out; exact ⟨cell_put2 c0 (by omega) _ _, cell_put2 c1 (by omega) _ _, cell_put2 c2 (by omega) _ _, cell_put2 c3 (by omega) _ _⟩)
            have BXn := Lib.hid (show HBox Fb1 (x5.heap.size) (N) (A1) by rw [hU]; exact BM.out.put2 (N) (A1))
            replace BL := Lib.hid (show PBox Fb1 (V6.heap.size) (X) by rw [hU]; exact BL.out.put2o (by omega) _ _)
            replace OX := Lib.hid (show HOwn Fb1 (x9.heap.size) (N) (A1) by rw [hU]; exact OX.out.put2o (OX.out.off_lt (by omega)) _ _)
            replace BV := Lib.hid (show Below x5.heap.size x5 Fb1 by rw [hU]; exact below_put2 BV.out (by omega) _ _)
            unfold wput2 at hU
            try dsimp only at hU
            first | rw [← hU] | skip
            clear hU z1 z2 zf1 zf2 BM
            have BM := BXn
            clear BXn
            refine hK.out _ _ (CS.out) (fun hHeldb2 => ?_)
            clear hK K hHeld
            try simp only [Act.put, List.setIfInBounds_toArray, List.set_cons_zero, List.set_cons_succ]
            refine wpAnyH_ready (rs := [3]) (by kernel_rfl) (by simp) ?_
            refine AllReadyH.cons (o := Oper.mk _ _ _ _ _ _) rfl (fun K hK => ?_) AllReadyH.nil
            obtain ⟨_, z1, z2, zf1, zf2⟩ := BL.out
            try dsimp only [Ht.zero, hNone, List.length_nil] at z1 z2
            go_simp
            obtain ⟨Fb2, hU⟩ : ∃ U, U = wput2 Fb1 (V6.heap.size) (.int .i64 (Y).1) (.int .i64 (Y).2) := ⟨_, rfl⟩
            replace CS := Lib.hid (show Fb2.cell? ⟨B13, 0, none⟩ = some (.slice A1.g N.gens.length A1.cg) ∧ Fb2.cell? ⟨B13, 1, none⟩ = some (.slice A1.a N.ats.length A1.ca) ∧ Fb2.cell? ⟨B14, 0, none⟩ = some (.int .i64 Y.1) ∧ Fb2.cell? ⟨B14, 1, none⟩ = some (.int .i64 Y.2) by rw [hU]; obtain ⟨c0, c1, c2, c3⟩ := CS.out; exact ⟨cell_put2 c0 (by omega) _ _, cell_put2 c1 (by omega) _ _, cell_put2 c2 (by omega) _ _, cell_put2 c3 (by omega) _ _⟩)
            have BXn := Lib.hid (show PBox Fb2 (V6.heap.size) (Y) by rw [hU]; exact BL.out.put2 (Y))
            replace BM := Lib.hid (show HBox Fb2 (x5.heap.size) (N) (A1) by rw [hU]; exact BM.out.put2o (by omega) _ _)
            replace OX := Lib.hid (show HOwn Fb2 (x9.heap.size) (N) (A1) by rw [hU]; exact OX.out.put2o (OX.out.off_lt (by omega)) _ _)
            replace BV := Lib.hid (show Below x5.heap.size x5 Fb2 by rw [hU]; exact below_put2 BV.out (by omega) _ _)
            unfold wput2 at hU
            try dsimp only at hU
            first | rw [← hU] | skip
            clear hU z1 z2 zf1 zf2 BL
            have BL := BXn
            clear BXn
            refine hK.out _ _ (CS.out) (fun hHeldb3 => ?_)
            clear hK K hHeldb2
            try simp only [Act.put, List.setIfInBounds_toArray, List.set_cons_zero, List.set_cons_succ]
            refine wpAnyH_take (i := 4) (oi := Oper.mk _ _ _ _ _ _) (v := ?vb4) rfl (by kernel_rfl) (by kernel_rfl) (by kernel_rfl) (fun _ _ _ h => h) (Or.inl ⟨by rfl, ?hyb4⟩) (by assumption) ?restb4
            case hyb4 =>
              intro w0 hSw
              try dsimp only at hSw
              go_simp
              all_goals with_reducible rfl
            try simp only [Act.put, List.setIfInBounds_toArray, List.set_cons_zero, List.set_cons_succ]
            refine wpAnyH_done (by kernel_rfl) ?_ _
            go_wp2
            go_roundw
            case rel => exact ⟨j + 1, true, N, A1, Y, by omega, by go_num, rfl, BM.out, OX.out.held, BL.out, nO.out, nM.out, nP.out, nL.out, y64.out, (fun _ => nI.out), BV.out⟩
            case measure => simp [intOf]; omega
      · skip
        have bmlt := BM.out.lt
        have bllt := BL.out.lt
        have hA := CL.out x9 BB.out
        cases gv
        · skip
          obtain ⟨_, hBM0, hBM1, _, _⟩ := BM.out
          try dsimp only at hBM0 hBM1
          go_wp2
          go_roundw
          case rel => exact ⟨j + 1, false, M, Am, X, by omega, by go_num, rfl, BM.out, HM.out, BL.out, OK.out, MM.out, PP.out, by have := LM.out; omega, X64.out, (fun e => by cases e), BV.out⟩
          case measure => simp [intOf]; omega
        · skip
          have hi := GV.out rfl
          have fE : Hn.findE M X = 0 := by rw [Hn.find_of MM.out, hi, if_pos rfl]
          have dV : Hn.dropV M X = Hn.back M X.1.toNat := by unfold Hn.dropV; rw [fE, if_pos rfl]
          have nM := Lib.hid (Hn.may_back MM.out hi)
          have nP := Lib.hid (Hn.past_drop (y := X) MM.out PP.out)
          have nL := Lib.hid (show (Hn.back M X.1.toNat).gens.length ≤ 300 + (j + 1) from by have := LM.out; show (M.gens.set _ _).length ≤ _; rw [List.length_set]; omega)
          have nO := Lib.hid (dV ▸ ok_drop OK.out X)
          have tE : decide (Hn.findE (Hn.back M X.1.toNat) X = 140) = true := decide_eq_true (Hn.past_lost nM.out (Hn.past_back MM.out hi))
          have d5 := Lib.hid (fun V (q : HHeld V M Am) => c5.out M Am X V q OK.out MM.out X64.out.1 X64.out.2)
          have d6 := Lib.hid (fun A1 V (q : HHeld V (Hn.back M X.1.toNat) A1) => c6.out (Hn.back M X.1.toNat) A1 X V q nO.out nM.out X64.out.1 X64.out.2)
          rw [fE, dV] at d5
          rw [tE] at d6
          obtain ⟨N, hN⟩ : ∃ N, N = Hn.back M X.1.toNat := ⟨_, rfl⟩
          rw [← hN] at nM nP nL nO d5 d6
          clear hN fE dV tE hi
          obtain ⟨_, hBM0, hBM1, _, _⟩ := BM.out
          obtain ⟨_, hBL0, hBL1, _, _⟩ := BL.out
          try dsimp only at hBM0 hBM1 hBL0 hBL1
          go_wp2_with fail
          refine (d5.out x9 HM.out).mono ?_
          rintro e x10 ⟨A1, rfl, own, hb⟩
          have zzx10 : x9.heap.size ≤ x10.heap.size := hb.size
          replace BM := Lib.hid (BM.out.below hb)
          replace HM := Lib.hid (HM.out.below hb)
          replace BL := Lib.hid (BL.out.below hb)
          replace BX := Lib.hid (BX.out.below hb)
          replace BB := Lib.hid (BB.out.trans (hb.mono BB.out.size))
          replace BV := Lib.hid (BV.out.trans (hb.mono BV.out.size))
          have OX := Lib.hid own
          clear own
          clear hb hBM0 hBM1 hBL0 hBL1
          try unfold hv
          try unfold pv
          go_upto_region 21 with (fail)
          obtain ⟨V11, hV⟩ : ∃ V, V = (x10).alloc (.cells #[.slice A1.g N.gens.length A1.cg, .slice A1.a N.ats.length A1.ca] 24) := ⟨_, rfl⟩
          have hba : Below x10.heap.size x10 V11 := by rw [hV]; exact (Below.refl _ _).alloc (Nat.le_refl _) _
          have zzV11 : x10.heap.size + 1 ≤ V11.heap.size := by rw [hV]; simp
          have BY := Lib.hid (show HBox V11 (x10.heap.size) N A1 by rw [hV]; have := HBox.new (x10) N A1 24; (try (simp only [World.size_alloc] at this)); exact this)
          rw [← hV]
          replace BM := Lib.hid (BM.out.below hba)
          replace HM := Lib.hid (HM.out.below hba)
          replace BL := Lib.hid (BL.out.below hba)
          replace BX := Lib.hid (BX.out.below hba)
          replace OX := Lib.hid (OX.out.below hba)
          replace BB := Lib.hid (BB.out.trans (hba.mono BB.out.size))
          replace BV := Lib.hid (BV.out.trans (hba.mono BV.out.size))
          clear hV hba
          obtain ⟨_, hBY0, hBY1, _, _⟩ := BY.out
          obtain ⟨_, hBL0, hBL1, _, _⟩ := BL.out
          try dsimp only at hBY0 hBY1 hBL0 hBL1
          go_wp2_with fail
          refine (d6.out A1 V11 OX.out.held).mono ?_
          rintro e x12 ⟨rfl, hb⟩
          have zzx12 : V11.heap.size ≤ x12.heap.size := hb.size
          replace BM := Lib.hid (BM.out.below hb)
          replace HM := Lib.hid (HM.out.below hb)
          replace BL := Lib.hid (BL.out.below hb)
          replace BX := Lib.hid (BX.out.below hb)
          replace OX := Lib.hid (OX.out.below hb)
          replace BY := Lib.hid (BY.out.below hb)
          replace BB := Lib.hid (BB.out.trans (hb.mono BB.out.size))
          replace BV := Lib.hid (BV.out.trans (hb.mono BV.out.size))
          clear hb hBY0 hBY1 hBL0 hBL1
          obtain ⟨_, hBM0, hBM1, _, _⟩ := BM.out
          obtain ⟨_, hBY0, hBY1, _, _⟩ := BY.out
          try dsimp only at hBM0 hBM1 hBY0 hBY1
          go_wp2
          obtain ⟨U, hU⟩ : ∃ U, U = wput2 x12 (x5.heap.size) (.slice A1.g N.gens.length A1.cg) (.slice A1.a N.ats.length A1.ca) := ⟨_, rfl⟩
          have BM2 := Lib.hid (show HBox U (x5.heap.size) N A1 by rw [hU]; exact BM.out.put2 N A1)
          have BL2 := Lib.hid (show PBox U (V6.heap.size) X by rw [hU]; exact BL.out.put2o (by omega) _ _)
          have OX2 := Lib.hid (show HOwn U x9.heap.size N A1 by rw [hU]; exact OX.out.put2o (OX.out.off_lt (by omega)) _ _)
          have BV2 := Lib.hid (show Below x5.heap.size x5 U by rw [hU]; exact below_put2 BV.out (by omega) _ _)
          unfold wput2 at hU
          rw [← hU]
          clear hU
          go_roundw
          case rel => exact ⟨j + 1, false, N, A1, X, by omega, by go_num, rfl, BM2.out, OX2.out.held, BL2.out, nO.out, nM.out, nP.out, nL.out, X64.out, (fun e => by cases e), BV2.out⟩
          case measure => simp [intOf]; omega
    · skip
      have tE : decide (Hn.findE M x = 140) = true := decide_eq_true (Hn.past_lost MM.out PP.out)
      have d2 := Lib.hid (show ∀ V (q : HHeld V M Am), _ from fun V q => tE ▸ c2.out M Am V q OK.out MM.out)
      have i1 : ¬ (j : Int) < (l.length : Int) := by omega
      clear tE
      obtain ⟨_, hBM0, hBM1, _, _⟩ := BM.out
      obtain ⟨_, hBX0, hBX1, _, _⟩ := BX.out
      try dsimp only at hBM0 hBM1 hBX0 hBX1
      go_wp2_with fail
      refine (d2.out wr HM.out).mono ?_
      rintro e x13 ⟨rfl, hb⟩
      have zzx13 : wr.heap.size ≤ x13.heap.size := hb.size
      replace BM := Lib.hid (BM.out.below hb)
      replace HM := Lib.hid (HM.out.below hb)
      replace BL := Lib.hid (BL.out.below hb)
      replace BX := Lib.hid (BX.out.below hb)
      replace BB := Lib.hid (BB.out.trans (hb.mono BB.out.size))
      replace BV := Lib.hid (BV.out.trans (hb.mono BV.out.size))
      clear hb hBM0 hBM1 hBX0 hBX1
      go_wp2
      go_ret
      exact ⟨rfl, BB.out⟩
set_option maxRecDepth 100000 in
set_option maxHeartbeats 32000000 in
theorem great (t : Ht) (A : HAds) (x : Int × Int) (al : Option Addr) (cl : Nat) (l : List Int) (W : World) (h : HHeld W t A) (ok : t.Ok) (x1 : In64 x.1) (x2 : In64 x.2) (hl : Lst .i64 W al l) (hw : All64 l) (hg : ¬ (t.gens.length ≤ 300 ∧ t.ats.length ≤ 300 ∧ l.length ≤ 40)) :
    Calls Try.prog 7 #[hv t A, pv x, .slice al l.length cl] W fun e w' => e = .returned (.bool true) ∧ Below W.heap.size W w' := by
  have HB := Lib.hid (fun a b => ((Below.refl W.heap.size W).alloc (Nat.le_refl _) a).alloc (by simp) b)
  have HT := Lib.hid (fun a => (HBox.new W t A 24).below ((Below.refl _ _).alloc (Nat.le_refl _) a))
  have HX := Lib.hid (fun a => PBox.new (W.alloc a) x 26)
  have c0 := Lib.hid (fun V => l14Alive V)
  clear h ok x1 x2 hl hw
  unfold hv pv
  by_cases g1 : t.gens.length ≤ 300
  all_goals by_cases g2 : t.ats.length ≤ 300
  all_goals by_cases g3 : l.length ≤ 40
  all_goals first
  | exact absurd (And.intro g1 (And.intro g2 g3)) hg
  | skip
  all_goals
    clear hg
    go_enter Try.func7, Try.ntmps7
    go_upto_region 1 with (fail)
    obtain ⟨W0, hW0⟩ : ∃ V, V = (W.alloc (.cells #[.slice A.g t.gens.length A.cg, .slice A.a t.ats.length A.ca] 24)).alloc (.cells #[.int .i64 x.1, .int .i64 x.2] 26) := ⟨_, rfl⟩
    have BT := Lib.hid (show HBox W0 W.heap.size t A by rw [hW0]; exact HT.out _)
    have BX := Lib.hid (show PBox W0 (W.heap.size + 1) x by rw [hW0]; have := HX.out (.cells #[.slice A.g t.gens.length A.cg, .slice A.a t.ats.length A.ca] 24); rw [World.size_alloc] at this; exact this)
    have BB := Lib.hid (show Below W.heap.size W W0 by rw [hW0]; exact HB.out _ _)
    have z0 : W.heap.size + 2 ≤ W0.heap.size := by rw [hW0]; simp
    rw [← hW0]
    clear hW0 HB HT HX
    go_wp2_with fail
    refine (c0.out W0).mono ?_
    rintro e w1 ⟨rfl, hb⟩
    replace BB := Lib.hid (BB.out.trans (hb.mono BB.out.size))
    obtain ⟨_, p0, p1, _, _⟩ := BT.out.below hb
    clear hb c0 BT BX
    go_wp2
    go_ret
    exact ⟨rfl, BB.out⟩
theorem walk (t : Ht) (A : HAds) (x : Int × Int) (al : Option Addr) (cl : Nat) (l : List Int) (W : World) (h : HHeld W t A) (ok : t.Ok) (x1 : In64 x.1) (x2 : In64 x.2) (hl : Lst .i64 W al l) (hw : All64 l) :
    Calls Try.prog 7 #[hv t A, pv x, .slice al l.length cl] W fun e w' => e = .returned (.bool true) ∧ Below W.heap.size W w' := by
  by_cases hg : t.gens.length ≤ 300 ∧ t.ats.length ≤ 300 ∧ l.length ≤ 40
  · by_cases hc : Hn.findE t x = 0
    · rcases Hn.find_cases t x with ⟨_, hm, hi, _⟩ | ⟨e, _⟩ | ⟨e, _⟩
      · exact good t A x al cl l W h ok x1 x2 hl hw hg.1 hg.2.1 hg.2.2 hm hi hc
      · omega
      · omega
    · exact bad t A x al cl l W h ok x1 x2 hl hw hg.1 hg.2.1 hg.2.2 hc
  · exact great t A x al cl l W h ok x1 x2 hl hw hg
end Go.Proofs.Ytephmejhglcdiaa.handleGone

/- What package handle's known, checkPlace and Find return. -/
import Derived.Test.YtephmejhglcdiaaHnD
namespace Go.Proofs.Ytephmejhglcdiaa
open Go.RowKit
set_option linter.unusedVariables false
set_option linter.unusedSimpArgs false

theorem is_case {t : Ht} (hM : Hn.May t) {n m : Int} (h1 : 0 ≤ n) (h2 : n < t.gens.length) : Hn.isB t (n, m) = ((Hn.a t n.toNat != -1) && (Hn.g t n.toNat == m)) := by
  have hf := (hM.fine n.toNat (by omega)).2.2.1
  unfold Hn.isB
  dsimp only
  rw [decide_eq_true h1, decide_eq_true h2]
  rw [Bool.eq_iff_iff]
  simp
  omega
set_option maxRecDepth 100000 in
set_option maxHeartbeats 2000000 in
theorem hKnown (t : Ht) (A : HAds) (x : Int × Int) (w : World) (h : HHeld w t A) (hM : Hn.May t) :
    Calls Try.prog 33 #[hv t A, pv x] w fun e w' => e = .returned (.bool (Hn.isB t x)) ∧ Below w.heap.size w w' := by
  obtain ⟨n, m⟩ := x
  have HX := Lib.hid (fun o => (HBox.new w t A 24).below ((Below.refl _ _).alloc (Nat.le_refl _) o))
  have HP := Lib.hid (fun o => PBox.new (w.alloc o) (n, m) 26)
  have BB0 := Lib.hid (fun o o' => ((Below.refl w.heap.size w).alloc (Nat.le_refl _) o).alloc (by simp) o')
  unfold hv pv
  have HH := Lib.hid h
  have hl := hM.len
  have h16 := hM.most
  have HM := Lib.hid hM
  clear h hM
  dsimp only
  by_cases h1 : n < 0
  · have k1 : decide (n < 0) = true := by simpa using h1
    have E := Lib.hid (show Hn.isB t (n, m) = false by unfold Hn.isB; rw [decide_eq_false (by dsimp only; omega)]; simp)
    clear h1 hl
    go_enter Try.func33, Try.ntmps33
    go_wp2
    go_ret
    rw [E.out]
    exact ⟨rfl, BB0.out _ _⟩
  · have k1 : decide (n < 0) = false := by simpa using h1
    by_cases h2 : n < t.gens.length
    · have k2 : decide (n ≥ (t.gens.length : Int)) = false := by simp; omega
      have E := Lib.hid (is_case (m := m) HM.out (by omega) h2)
      obtain ⟨k, rfl⟩ : ∃ k : Nat, n = k := ⟨n.toNat, by omega⟩
      obtain ⟨b1, o1, hA1, hl1, c1⟩ := HH.out.gens.cell (i := k) (by omega)
      obtain ⟨b2, o2, hA2, hl2, c2⟩ := HH.out.ats.cell (i := k) (by omega)
      obtain ⟨ag, aa, cg, ca⟩ := A
      dsimp only at hA1 hA2
      subst hA1 hA2
      rw [Int.toNat_natCast] at E
      replace c1 : w.cell? ⟨b1, o1 + k, none⟩ = some (.int .i64 (Hn.g t k)) := c1
      replace c2 : w.cell? ⟨b2, o2 + k, none⟩ = some (.int .i64 (Hn.a t k)) := c2
      obtain ⟨g, hg⟩ : ∃ g, Hn.g t k = g := ⟨_, rfl⟩
      obtain ⟨a, ha⟩ : ∃ a, Hn.a t k = a := ⟨_, rfl⟩
      rw [hg] at c1
      rw [ha] at c2
      rw [hg, ha] at E
      have i1 : (k : Int) < (t.gens.length : Int) := by omega
      have i2 : (k : Int) < (t.ats.length : Int) := by omega
      clear hg ha h1 h2 hl
      go_enter Try.func33, Try.ntmps33
      go_upto_region 1 with (fail)
      obtain ⟨W1, hW1⟩ : ∃ W, W = (w.alloc (.cells #[.slice (some ⟨b1, o1, none⟩) t.gens.length cg, .slice (some ⟨b2, o2, none⟩) t.ats.length ca] 24)).alloc (.cells #[.int .i64 (k : Int), .int .i64 m] 26) := ⟨_, rfl⟩
      have BX := Lib.hid (show HBox W1 w.heap.size t ⟨some ⟨b1, o1, none⟩, some ⟨b2, o2, none⟩, cg, ca⟩ by rw [hW1]; exact HX.out _)
      have BP := Lib.hid (show PBox W1 (w.heap.size + 1) ((k : Int), m) by rw [hW1]; have := HP.out (.cells #[.slice (some ⟨b1, o1, none⟩) t.gens.length cg, .slice (some ⟨b2, o2, none⟩) t.ats.length ca] 24); rw [World.size_alloc] at this; exact this)
      have BB := Lib.hid (show Below w.heap.size w W1 by rw [hW1]; exact BB0.out _ _)
      replace c1 := (BB.out.cell (p := ⟨b1, o1 + k, none⟩) hl1).trans c1
      replace c2 := (BB.out.cell (p := ⟨b2, o2 + k, none⟩) hl2).trans c2
      rw [← hW1]
      clear hW1 HX HP BB0
      obtain ⟨_, p0, p1, _, _⟩ := BX.out
      obtain ⟨_, r0, r1, _, _⟩ := BP.out
      dsimp only at p0 p1 r0 r1
      by_cases h3 : a = -1
      · have k3 : (a != -1) = false := by simpa using h3
        clear h3
        go_wp2
        go_quiet (fail)
        go_wp2
        go_ret
        rw [E.out, k3]
        exact ⟨rfl, below_drewN BB.out _⟩
      · have k3 : (a != -1) = true := by simpa using h3
        clear h3
        go_wp2
        go_quiet (fail)
        go_wp2
        go_ret
        rw [E.out, k3]
        exact ⟨rfl, below_drewN BB.out _⟩
    · have k2 : decide (n ≥ (t.gens.length : Int)) = true := by simp; omega
      have E := Lib.hid (show Hn.isB t (n, m) = false by unfold Hn.isB; rw [show decide ((n, m).1 < (t.gens.length : Int)) = false from decide_eq_false (by dsimp only; omega)]; simp)
      clear h1 h2 hl
      go_enter Try.func33, Try.ntmps33
      go_wp2
      go_ret
      rw [E.out]
      exact ⟨rfl, BB0.out _ _⟩
/-- checkPlace. -/
def placeE (t : Ht) (p : Int) : Int := if Hn.chkE t = 0 then (if p < 0 then 2 else 0) else Hn.chkE t
set_option maxRecDepth 100000 in
set_option maxHeartbeats 2000000 in
theorem hPlace (t : Ht) (A : HAds) (p : Int) (w : World) (h : HHeld w t A) (ok : t.Ok) (hs : t.Short) :
    Calls Try.prog 29 #[hv t A, .int .i64 p] w fun e w' => e = .returned (.int .i64 (placeE t p)) ∧ Below w.heap.size w w' := by
  have HX := Lib.hid (HBox.new w t A 24)
  have BB := Lib.hid (fun o => (Below.refl w.heap.size w).alloc (Nat.le_refl _) o)
  have CC := Lib.hid (fun V (hb : Below w.heap.size w V) => hCheck t A V (h.below hb) ok hs)
  clear h ok hs
  unfold hCells at HX
  unfold hv at CC ⊢
  go_enter Try.func29, Try.ntmps29
  go_wp2_with fail
  refine (CC.out _ (BB.out _)).mono ?_
  rintro e w1 ⟨rfl, hb⟩
  have B1 := Lib.hid ((BB.out _).trans (hb.mono (BB.out _).size))
  clear hb CC HX BB
  by_cases hc : Hn.chkE t = 0
  · have k1 : (Hn.chkE t != 0) = false := by simpa using hc
    by_cases hp : p < 0
    · have k2 : decide (p < 0) = true := by simpa using hp
      have E := Lib.hid (show placeE t p = 2 by unfold placeE; rw [if_pos hc, if_pos hp])
      clear hc hp
      go_wp2
      go_ret
      rw [E.out]
      exact ⟨rfl, B1.out⟩
    · have k2 : decide (p < 0) = false := by simpa using hp
      have E := Lib.hid (show placeE t p = 0 by unfold placeE; rw [if_pos hc, if_neg hp])
      clear hc hp
      go_wp2
      go_ret
      rw [E.out]
      exact ⟨rfl, B1.out⟩
  · have k1 : (Hn.chkE t != 0) = true := by simpa using hc
    have E := Lib.hid (show placeE t p = Hn.chkE t by unfold placeE; rw [if_neg hc])
    clear hc
    go_wp2
    go_ret
    rw [E.out]
    exact ⟨rfl, B1.out⟩
set_option maxRecDepth 100000 in
set_option maxHeartbeats 4000000 in
theorem hFind (t : Ht) (A : HAds) (x : Int × Int) (w : World) (h : HHeld w t A) (ok : t.Ok) (hs : t.Short) (h1 : In64 x.1) (h2 : In64 x.2) :
    Calls Try.prog 20 #[hv t A, pv x] w fun e w' => e = .returned (.tuple #[.int .i64 (Hn.findV t x), .int .i64 (Hn.findE t x)]) ∧ Below w.heap.size w w' := by
  obtain ⟨n, m⟩ := x
  have HB := Lib.hid (fun x y => ((Below.refl w.heap.size w).alloc (Nat.le_refl _) x).alloc (by simp) y)
  have HX := Lib.hid (fun x => (HBox.new w t A 24).below ((Below.refl _ _).alloc (Nat.le_refl _) x))
  have HP := Lib.hid (fun x => PBox.new (w.alloc x) (n, m) 26)
  have CC := Lib.hid (fun V (hb : Below w.heap.size w V) => hCheck t A V (h.below hb) ok hs)
  have CK := Lib.hid (fun V (hb : Below w.heap.size w V) hM => hKnown t A (n, m) V (h.below hb) hM)
  have HH := Lib.hid h
  clear h h1 h2 ok hs
  unfold hv pv at CK
  unfold hv at CC
  unfold hv pv
  dsimp only at CK ⊢
  go_enter Try.func20, Try.ntmps20
  go_upto_region 1 with (fail)
  obtain ⟨W0, hW0⟩ : ∃ W, W = (w.alloc (.cells #[.slice A.g t.gens.length A.cg, .slice A.a t.ats.length A.ca] 24)).alloc (.cells #[.int .i64 n, .int .i64 m] 26) := ⟨_, rfl⟩
  have BX := Lib.hid (show HBox W0 w.heap.size t A by rw [hW0]; exact HX.out _)
  have BP := Lib.hid (show PBox W0 (w.heap.size + 1) (n, m) by rw [hW0]; have := HP.out (.cells #[.slice A.g t.gens.length A.cg, .slice A.a t.ats.length A.ca] 24); rw [World.size_alloc] at this; exact this)
  have BB := Lib.hid (show Below w.heap.size w W0 by rw [hW0]; exact HB.out _ _)
  rw [← hW0]
  clear hW0 HB HX HP
  obtain ⟨_, p0, p1, _, _⟩ := BX.out
  go_wp2_with fail
  refine (CC.out W0 BB.out).mono ?_
  rintro e w1 ⟨rfl, hb⟩
  replace BX := Lib.hid (BX.out.below hb)
  replace BP := Lib.hid (BP.out.below hb)
  replace BB := Lib.hid (BB.out.trans (hb.mono BB.out.size))
  clear hb p0 p1 CC
  by_cases hc : Hn.chkE t = 0
  · have HM := Lib.hid (Hn.chk_may.1 hc)
    have k1 : (Hn.chkE t != 0) = false := by simpa using hc
    have HC := Lib.hid hc
    clear hc
    obtain ⟨_, p0, p1, _, _⟩ := BX.out
    obtain ⟨_, r0, r1, _, _⟩ := BP.out
    dsimp only at r0 r1
    go_wp2_with fail
    refine (CK.out w1 BB.out HM.out).mono ?_
    rintro e w2 ⟨rfl, hb⟩
    replace BX := Lib.hid (BX.out.below hb)
    replace BP := Lib.hid (BP.out.below hb)
    replace BB := Lib.hid (BB.out.trans (hb.mono BB.out.size))
    clear hb p0 p1 r0 r1 CK k1
    cases hi : Hn.isB t (n, m)
    · have EE := Lib.hid (show Hn.findE t (n, m) = 140 by unfold Hn.findE; rw [HC.out, if_pos rfl, hi, if_neg (by simp)])
      have VV := Lib.hid (show Hn.findV t (n, m) = 0 by unfold Hn.findV; rw [EE.out, if_neg (by omega)])
      go_wp2
      go_ret2
      rw [EE.out, VV.out]
      exact ⟨rfl, BB.out⟩
    · have EE := Lib.hid (show Hn.findE t (n, m) = 0 by unfold Hn.findE; rw [HC.out, if_pos rfl, hi, if_pos rfl])
      have VV := Lib.hid (show Hn.findV t (n, m) = Hn.a t n.toNat by unfold Hn.findV; rw [EE.out, if_pos rfl])
      obtain ⟨i0, i1, _, _⟩ := (Hn.is_iff t (n, m)).1 hi
      dsimp only at i0 i1
      clear hi
      obtain ⟨k, rfl⟩ : ∃ k : Nat, n = k := ⟨n.toNat, by omega⟩
      rw [Int.toNat_natCast] at VV
      have i2 : (k : Int) < (t.ats.length : Int) := by have := HM.out.len; omega
      obtain ⟨b2, o2, hA2, hl2, c2⟩ := (HH.out.below BB.out).ats.cell (i := k) (by have := HM.out.len; omega)
      replace c2 : w2.cell? ⟨b2, o2 + k, none⟩ = some (.int .i64 (Hn.a t k)) := c2
      obtain ⟨a, ha⟩ : ∃ a, Hn.a t k = a := ⟨_, rfl⟩
      rw [ha] at c2 VV
      clear ha
      obtain ⟨_, p0, p1, _, _⟩ := BX.out
      obtain ⟨_, r0, r1, _, _⟩ := BP.out
      rw [hA2] at p1
      dsimp only at r0 r1
      go_wp2
      go_ret2
      rw [EE.out, VV.out]
      exact ⟨rfl, BB.out⟩
  · have k1 : (Hn.chkE t != 0) = true := by simpa using hc
    have EE := Lib.hid (show Hn.findE t (n, m) = Hn.chkE t by unfold Hn.findE; rw [if_neg hc])
    have VV := Lib.hid (show Hn.findV t (n, m) = 0 by unfold Hn.findV; rw [EE.out, if_neg hc])
    clear hc
    go_wp2
    go_ret2
    rw [EE.out, VV.out]
    exact ⟨rfl, BB.out⟩
end Go.Proofs.Ytephmejhglcdiaa

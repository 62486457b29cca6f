/- What Pairs and Fill of the document's own answers return. -/
import Derived.Test.YtgngipkfbckhpaaDoorM06
import Derived.Test.YtgngipkfbckhpaaDoorM05
namespace Go.Proofs.YtgngipkfbckhpaaDoor
open Go.RowKit
set_option linter.unusedVariables false
set_option linter.unusedSimpArgs false

theorem emptied_not {s : Sl} {i : Nat} (h : Oc.isB s.words i = false) : s.emptied i = { s with keys := s.keys.set i 0, vals := s.vals.set i 0 } := by
  unfold Sl.emptied
  rw [h, putW_same h]
  rfl
theorem wiped_keys (s : Sl) (a n : Nat) : (s.wiped a n).keys.length = s.keys.length := by
  induction n with
  | zero => rfl
  | succ n ih => show ((s.wiped a n).emptied (a + n)).keys.length = _; rw [emptied_keys, ih]
theorem wiped_fit {s : Sl} {B : Int} (h : s.Fit B) (a n : Nat) (hB : B + n ≤ 1000000000) : (s.wiped a n).Fit (B + n) := by
  induction n with
  | zero => simpa [Sl.wiped] using h
  | succ n ih =>
    have := (ih (by omega)).emptied (by omega) (a + n)
    rw [show B + ((n + 1 : Nat) : Int) = B + (n : Int) + 1 from by omega]
    exact this
def FillJ1 (s : Sl) (lo hi : Nat) (w : World) (i : Value) (wr : World) : Prop :=
  ∃ k A, (lo + k ≤ hi ∨ k = 0) ∧ i = .int .i64 ((lo + k : Nat) : Int) ∧ St w (w.heap.size + 2) w.heap.size (w.heap.size + 1) wr (s.wiped lo k) A
theorem laidIn_keys (s : Sl) (l : List Int) (ps : List (Int × Int)) (n : Nat) : (s.laidIn l ps n).keys.length = s.keys.length := by
  induction n with
  | zero => rfl
  | succ n ih => show ((s.laidIn l ps n).filledAt _ _).keys.length = _; rw [filledAt_keys, ih]
theorem laidIn_fit {s : Sl} {B : Int} (h : s.Fit B) (l : List Int) (ps : List (Int × Int)) (n : Nat) (hB : B + n ≤ 1000000000) (h64 : ∀ k, In64 (ps.getD k (0, 0)).1 ∧ In64 (ps.getD k (0, 0)).2) : (s.laidIn l ps n).Fit (B + n) := by
  induction n with
  | zero => simpa [Sl.laidIn] using h
  | succ n ih =>
    have := (ih (by omega)).filledAt (by omega) (l.getD n 0).toNat (h64 n).1 (h64 n).2
    rw [show B + ((n + 1 : Nat) : Int) = B + (n : Int) + 1 from by omega]
    exact this
theorem plst_stay {w : World} {a : Option Addr} {ps : List (Int × Int)} (h : PLst w a ps) {i : Nat} (hi : i < ps.length) :
    ∃ b off, a = some ⟨b, off, none⟩ ∧ b < w.heap.size ∧ ∀ w', Below w.heap.size w w' → w'.cell? ⟨b, off + i * 2, none⟩ = some (.int .i64 (ps.getD i (0, 0)).1) ∧ w'.cell? ⟨b, off + i * 2 + 1, none⟩ = some (.int .i64 (ps.getD i (0, 0)).2) := by
  obtain ⟨b, off, h1, h2, h3, h4⟩ := h.pair hi
  exact ⟨b, off, h1, h2, fun w' hb => ⟨(hb.cell (p := ⟨b, off + i * 2, none⟩) h2).trans h3, (hb.cell (p := ⟨b, off + i * 2 + 1, none⟩) h2).trans h4⟩⟩
def FillJ2 (t0 : Sl) (l : List Int) (ps : List (Int × Int)) (w : World) (i : Value) (wr : World) : Prop :=
  ∃ k A, k ≤ ps.length ∧ i = .int .i64 (k : Int) ∧ St w (w.heap.size + 2) w.heap.size (w.heap.size + 1) wr (t0.laidIn l ps k) A
end Go.Proofs.YtgngipkfbckhpaaDoor
namespace Go.Proofs.YtgngipkfbckhpaaDoor
open Go.RowKit
set_option linter.unusedVariables false
set_option linter.unusedSimpArgs false

def POwn2 (ps : List (Int × Int)) (er : Int) (w : World) (e : Ending) (w' : World) : Prop :=
  ∃ v, e = .returned (.tuple #[v, .int .i64 er]) ∧ w'.ownsRow w.heap.size 33 2 v ps.length (pcells ps) ∧ Below w.heap.size w w'
theorem part_iff {n a b : Int} : Sl.partB n a b = true ↔ 0 ≤ a ∧ a ≤ b ∧ b ≤ n := by unfold Sl.partB; simp; omega
set_option maxRecDepth 100000 in
set_option maxHeartbeats 1000000 in
theorem r4Pairs (s : Sl) (a : Ads) (lo hi : Int) (w : World) (h : Held w s a) (hok : s.Ok) (hs : s.Short) :
    Calls Tryd.prog 18 #[slv s a, .int .i64 lo, .int .i64 hi] w (POwn2 (s.pairsV lo hi) (s.pairsE lo hi) w) := by
  have HH := Lib.hid h
  have HB := Lib.hid (Box.new w s a 27)
  have CM := Lib.hid (fun o => r4May s a (w.alloc o) (h.alloc o) hok hs)
  have B0 := Lib.hid (fun o => (Below.refl w.heap.size w).alloc (Nat.le_refl _) o)
  have HO := Lib.hid (And.intro hok hs)
  have HE := Lib.hid (show s.pairsE lo hi = if s.mayB then (if Sl.partB s.keys.length lo hi then 0 else 2) else 8 from rfl)
  have VN := Lib.hid (show s.pairsE lo hi ≠ 0 → s.pairsV lo hi = [] from fun h => by unfold Sl.pairsV; rw [if_neg h])
  have CP := Lib.hid (fun W => r4part (s.keys.length : Int) lo hi W)
  clear h hok hs
  unfold slv at CM ⊢
  cases hm : s.mayB
  · have E := Lib.hid (show s.pairsE lo hi = 8 by rw [HE.out, hm]; rfl)
    have V := Lib.hid (VN.out (by rw [E.out]; decide))
    have HM := Lib.hid hm
    clear hm
    go_enter Tryd.func18, Tryd.ntmps18
    go_wp2_with fail
    refine (CM.out _).mono ?_
    rintro e w1 ⟨rfl, hb⟩
    rw [HM.out]
    go_wp2
    go_ret2
    rw [E.out, V.out]
    exact ⟨_, rfl, World.ownsRow_nil _ _ _ _, (B0.out _).trans (hb.mono (by simp))⟩
  · have HM := Lib.hid hm
    cases hp : Sl.partB s.keys.length lo hi
    · have E := Lib.hid (show s.pairsE lo hi = 2 by rw [HE.out, hm, hp]; rfl)
      have V := Lib.hid (VN.out (by rw [E.out]; decide))
      have HP := Lib.hid hp
      clear hm hp
      go_enter Tryd.func18, Tryd.ntmps18
      go_wp2_with fail
      refine (CM.out _).mono ?_
      rintro e w1 ⟨rfl, hb⟩
      rw [HM.out]
      obtain ⟨_, p0, p1, p2, p3, p4, p5, pf⟩ := HB.out.below hb
      have B1 := Lib.hid ((B0.out _).trans (hb.mono (by simp)))
      clear hb pf
      go_wp2_with fail
      refine (CP.out _).mono ?_
      rintro e w2 ⟨rfl, rfl⟩
      rw [HP.out]
      go_wp2
      go_ret2
      rw [E.out, V.out]
      exact ⟨_, rfl, World.ownsRow_nil _ _ _ _, B1.out⟩
    · obtain ⟨g1, g2, g3⟩ := part_iff.1 hp
      obtain ⟨x, rfl⟩ : ∃ x : Nat, lo = x := ⟨lo.toNat, by omega⟩
      obtain ⟨y, rfl⟩ : ∃ y : Nat, hi = y := ⟨hi.toNat, by omega⟩
      have E := Lib.hid (show s.pairsE x y = 0 by rw [HE.out, hm, hp]; rfl)
      have V := Lib.hid (show s.pairsV x y = s.of x y by unfold Sl.pairsV; rw [if_pos E.out, Int.toNat_natCast, Int.toNat_natCast])
      have FT := Lib.hid (may_fit hm HO.out.1 HO.out.2)
      have HP := Lib.hid hp
      have l2 := HO.out.2.keys
      have CO := Lib.hid (fun W hW => r4Of s a x y W hW HO.out.1 HO.out.2 FT.out.vals (by omega) FT.out.words (by omega))
      unfold slv at CO
      clear hm hp
      go_enter Tryd.func18, Tryd.ntmps18
      go_wp2_with fail
      refine (CM.out _).mono ?_
      rintro e w1 ⟨rfl, hb⟩
      rw [HM.out]
      obtain ⟨_, p0, p1, p2, p3, p4, p5, pf⟩ := HB.out.below hb
      have B1 := Lib.hid ((B0.out _).trans (hb.mono (by simp)))
      clear hb pf
      go_wp2_with fail
      refine (CP.out _).mono ?_
      rintro e w2 ⟨rfl, rfl⟩
      rw [HP.out]
      go_wp2_with fail
      refine (CO.out _ (HH.out.below B1.out)).mono ?_
      rintro e w2 ⟨v, rfl, hown, hb⟩
      have R := Lib.hid hown
      have B2 := Lib.hid (B1.out.trans (hb.mono B1.out.size))
      have z := B1.out.size
      clear hown hb p0 p1 p2 p3 p4 p5
      go_wp2
      go_ret2
      rw [E.out, V.out]
      exact ⟨_, rfl, own_lower R.out z, B2.out⟩

theorem fillS_no {s : Sl} {a b : Int} {l : List Int} {ps : List (Int × Int)} (h : s.fillE a b l ps.length ≠ 0) : s.fillS a b l ps = Sl.none := by unfold Sl.fillS; rw [if_neg h]
theorem inside_iff {l : List Int} {a b : Int} : Sl.insideB l a b = true ↔ l = [] ∨ (a ≤ l.getD 0 0 ∧ l.getD (l.length - 1) 0 < b) := by
  unfold Sl.insideB
  cases l <;> simp
theorem rises_le {l : List Int} (h : Sl.risesB l = true) (i j : Nat) (hij : i ≤ j) (hj : j < l.length) : l.getD i 0 ≤ l.getD j 0 := by
  unfold Sl.risesB at h
  rw [List.all_eq_true] at h
  induction j with
  | zero => rw [show i = 0 from by omega]; exact Int.le_refl _
  | succ j ih =>
    by_cases e : i = j + 1
    · rw [e]; exact Int.le_refl _
    · have h1 := ih (by omega) (by omega)
      have h2 := h j (by simp; omega)
      rw [decide_eq_true_eq] at h2
      omega
end Go.Proofs.YtgngipkfbckhpaaDoor
namespace Go.Proofs.YtgngipkfbckhpaaDoor
open Go.RowKit
set_option linter.unusedVariables false
set_option linter.unusedSimpArgs false

end Go.Proofs.YtgngipkfbckhpaaDoor

/- What the law package of layer 14's own functions return: at, lost, spoil. -/
import Derived.Test.YtephmejhglcdiaaHandle
import Derived.Test.YtephmejhglcdiaaSpoil04
namespace Go.Proofs.Ytephmejhglcdiaa
open Go.RowKit
set_option linter.unusedVariables false
set_option linter.unusedSimpArgs false

set_option maxRecDepth 100000 in
set_option maxHeartbeats 1000000 in
theorem l14At (t : Ht) (A : HAds) (x : Int × Int) (p : Int) (w : World) (h : HHeld w t A) (ok : t.Ok) (hs : t.Short) (h1 : In64 x.1) (h2 : In64 x.2) :
    Calls Try.prog 14 #[hv t A, pv x, .int .i64 p] w fun e w' => e = .returned (.bool (decide (Hn.findE t x = 0) && decide (Hn.findV t x = p))) ∧ Below w.heap.size w w' := by
  have HB := Lib.hid (fun x y => ((Below.refl w.heap.size w).alloc (Nat.le_refl _) x).alloc (by simp) y)
  have CF := Lib.hid (fun x1 y1 => hFind t A x _ (h.below (HB.out x1 y1)) ok hs h1 h2)
  clear h ok hs h1 h2
  unfold hv pv at CF
  unfold hv pv
  obtain ⟨E, hE⟩ : ∃ E, E = Hn.findE t x := ⟨_, rfl⟩
  obtain ⟨V, hV⟩ : ∃ V, V = Hn.findV t x := ⟨_, rfl⟩
  rw [← hE, ← hV] at CF ⊢
  clear hE hV
  cases k1 : (E == 0)
  · have e1 : decide (E = 0) = false := by rw [beq_eq_false_iff_ne] at k1; exact decide_eq_false k1
    go_enter Try.func14, Try.ntmps14
    go_wp2_with fail
    refine (CF.out _ _).mono ?_
    rintro e w1 ⟨rfl, hb⟩
    have BB := Lib.hid ((HB.out _ _).trans (hb.mono (HB.out _ _).size))
    clear hb HB CF
    go_wp2
    go_ret
    exact ⟨by rw [e1]; rfl, BB.out⟩
  · have e1 : decide (E = 0) = true := decide_eq_true (beq_iff_eq.1 k1)
    cases k2 : (V == p)
    · have e2 : decide (V = p) = false := by rw [beq_eq_false_iff_ne] at k2; exact decide_eq_false k2
      go_enter Try.func14, Try.ntmps14
      go_wp2_with fail
      refine (CF.out _ _).mono ?_
      rintro e w1 ⟨rfl, hb⟩
      have BB := Lib.hid ((HB.out _ _).trans (hb.mono (HB.out _ _).size))
      clear hb HB CF
      go_wp2
      go_ret
      exact ⟨by rw [e1, e2]; rfl, BB.out⟩
    · have e2 : decide (V = p) = true := decide_eq_true (beq_iff_eq.1 k2)
      go_enter Try.func14, Try.ntmps14
      go_wp2_with fail
      refine (CF.out _ _).mono ?_
      rintro e w1 ⟨rfl, hb⟩
      have BB := Lib.hid ((HB.out _ _).trans (hb.mono (HB.out _ _).size))
      clear hb HB CF
      go_wp2
      go_ret
      exact ⟨by rw [e1, e2]; rfl, BB.out⟩
set_option maxRecDepth 100000 in
set_option maxHeartbeats 1000000 in
theorem l14Lost (t : Ht) (A : HAds) (x : Int × Int) (w : World) (h : HHeld w t A) (ok : t.Ok) (hs : t.Short) (h1 : In64 x.1) (h2 : In64 x.2) :
    Calls Try.prog 15 #[hv t A, pv x] w fun e w' => e = .returned (.bool (decide (Hn.findE t x = 140))) ∧ Below w.heap.size w w' := by
  have HB := Lib.hid (fun x y => ((Below.refl w.heap.size w).alloc (Nat.le_refl _) x).alloc (by simp) y)
  have CF := Lib.hid (fun x1 y1 => hFind t A x _ (h.below (HB.out x1 y1)) ok hs h1 h2)
  have HV := Lib.hid (show Hn.findE t x = 140 → Hn.findV t x = 0 from fun e => by unfold Hn.findV; rw [e, if_neg (by omega)])
  clear h ok hs h1 h2
  unfold hv pv at CF
  unfold hv pv
  obtain ⟨E, hE⟩ : ∃ E, E = Hn.findE t x := ⟨_, rfl⟩
  obtain ⟨V, hV⟩ : ∃ V, V = Hn.findV t x := ⟨_, rfl⟩
  rw [← hE, ← hV] at CF HV
  rw [← hE]
  clear hE hV
  cases k1 : (E == 140)
  · have e1 : decide (E = 140) = false := by rw [beq_eq_false_iff_ne] at k1; exact decide_eq_false k1
    go_enter Try.func15, Try.ntmps15
    go_wp2_with fail
    refine (CF.out _ _).mono ?_
    rintro e w1 ⟨rfl, hb⟩
    have BB := Lib.hid ((HB.out _ _).trans (hb.mono (HB.out _ _).size))
    clear hb HB CF
    go_wp2
    go_ret
    exact ⟨by rw [e1]; rfl, BB.out⟩
  · have e1 : decide (E = 140) = true := decide_eq_true (beq_iff_eq.1 k1)
    obtain rfl : V = 0 := HV.out (beq_iff_eq.1 k1)
    go_enter Try.func15, Try.ntmps15
    go_wp2_with fail
    refine (CF.out _ _).mono ?_
    rintro e w1 ⟨rfl, hb⟩
    have BB := Lib.hid ((HB.out _ _).trans (hb.mono (HB.out _ _).size))
    clear hb HB CF
    go_wp2
    go_ret
    exact ⟨by rw [e1]; rfl, BB.out⟩
/-- The rows of a table that may be written, in blocks from B on, ahead of U. -/
structure SoftH (W : World) (B U : Nat) (t : Ht) (A : HAds) : Prop where
  g : Soft .i64 W A.g t.gens.length
  a : Soft .i64 W A.a t.ats.length
  fg : From B U A.g t.gens.length
  fa : From B U A.a t.ats.length
theorem HOwn.soft {w : World} {B : Nat} {t : Ht} {A : HAds} (h : HOwn w B t A) : SoftH w B w.heap.size t A := ⟨h.gens.soft, h.ats.soft, h.gens.from, h.ats.from⟩
theorem SoftH.keep {w w' : World} {B U : Nat} {t : Ht} {A : HAds} (h : SoftH w B U t A) (hk : ∀ k a n, Soft k w a n → Soft k w' a n) : SoftH w' B U t A := ⟨hk _ _ _ h.g, hk _ _ _ h.a, h.fg, h.fa⟩
theorem SoftH.below {w w' : World} {B U : Nat} {t : Ht} {A : HAds} (h : SoftH w B U t A) (hb : Below w.heap.size w w') : SoftH w' B U t A := h.keep (fun _ _ _ hs => hs.below hb)
theorem HBox.of_heap {w w' : World} {b : Nat} {t : Ht} {A : HAds} (h : HBox w b t A) (e : w'.heap[b]? = w.heap[b]?) (hs : w.heap.size ≤ w'.heap.size) : HBox w' b t A :=
  ⟨Nat.lt_of_lt_of_le h.lt hs, (World.cell?_of_block (w := w) (a := ⟨b, 0, none⟩) e).trans h.c0, (World.cell?_of_block (w := w) (a := ⟨b, 1, none⟩) e).trans h.c1, (World.frozen?_of_block (w := w) (a := ⟨b, 0, none⟩) e).trans h.f0, (World.frozen?_of_block (w := w) (a := ⟨b, 1, none⟩) e).trans h.f1⟩
def SpHJ (B U : Nat) (t : Ht) (A : HAds) (w : World) (n : Nat) (i : Value) (wr : World) : Prop := ∃ k : Nat, k ≤ n ∧ i = .int .i64 k ∧ Spoilt B U w wr ∧ HBox wr w.heap.size t A
/-- One element written. -/
theorem sp_stepH {B U : Nat} {t : Ht} {A : HAds} {w wr : World} {k : IntKind} {a : Option Addr} {n i : Nat} (hB : Spoilt B U w wr) (hb : HBox wr w.heap.size t A) (h : Soft k w a n) (hf : From B U a n) (hi : i < n) :
    ∃ b off z, a = some ⟨b, off, none⟩ ∧ wr.cell? ⟨b, off + i, none⟩ = some (.int k z) ∧ wr.frozen? ⟨b, off + i, none⟩ = false ∧ ∀ x, Spoilt B U w (wr.setCell ⟨b, off + i, none⟩ (.int k x)) ∧ HBox (wr.setCell ⟨b, off + i, none⟩ (.int k x)) w.heap.size t A := by
  rcases h with h0 | ⟨b0, off0, e0, hlt, _⟩
  · omega
  have hs := hB.2.1 k a n (Or.inr ⟨b0, off0, e0, hlt, by assumption⟩)
  rcases hs with h0 | ⟨b, off, h1, h2, h3⟩
  · omega
  obtain ⟨⟨z, hz⟩, hfz⟩ := h3 i hi
  have hbb : B ≤ b ∧ b < U := by
    rcases hf with h0 | h0
    · omega
    · exact h0 _ h1
  have hbl : b < w.heap.size := by rw [h1] at e0; injection e0 with e0; injection e0 with e1 e2; omega
  refine ⟨b, off, z, h1, hz, hfz, fun x => ⟨⟨hB.1.setCell (p := ⟨b, off + i, none⟩) hbb.1 _, fun k2 a2 n2 hs2 => (hB.2.1 k2 a2 n2 hs2).set hz x, fun g hg hg2 => (Below.heap_setCell wr ⟨b, off + i, none⟩ _ g (by show g ≠ b; omega)).trans (hB.2.2 g hg hg2)⟩, hb.setOther (p := ⟨b, off + i, none⟩) (by show b ≠ w.heap.size; omega) _⟩⟩
set_option maxRecDepth 100000 in
set_option maxHeartbeats 1000000 in
theorem l14Spoil (t : Ht) (A : HAds) (B U : Nat) (w : World) (h : SoftH w B U t A) (hB : B ≤ w.heap.size) (hs : t.Short) :
    Calls Try.prog 25 #[hv t A] w fun e w' => e = .returned (.tuple #[]) ∧ Spoilt B U w w' := by
  have H := Lib.hid h
  have HS0 := Lib.hid (show ∀ o, Spoilt B U w (w.alloc o) from fun o => ⟨(Below.refl _ _).alloc hB o, fun k a n hs => hs.below ((Below.refl _ _).alloc (Nat.le_refl _) o), fun g _ hg => Below.heap_alloc w o g hg⟩)
  have HX0 := Lib.hid (HBox.new w t A 24)
  have l1 := hs.gens
  have l2 := hs.ats
  clear h hs
  unfold hv
  go_enter Try.func25, Try.ntmps25
  go_wp2
  go_loopw [2] (SpHJ B U t A w t.gens.length) (fun i _ => t.gens.length - (intOf i).toNat)
  case atStart => exact ⟨0, Nat.zero_le _, rfl, HS0.out _, HX0.out⟩
  case round =>
    obtain ⟨k1, hk1, rfl, hs, hx⟩ := hrel
    have HS1 := Lib.hid hs
    have HX1 := Lib.hid hx
    clear hs hx HS0 HX0
    obtain ⟨_, p0, p1, _, _⟩ := HX1.out
    by_cases hlt : k1 < t.gens.length
    · obtain ⟨b, off, z, hA, hc, hf, hst⟩ := sp_stepH HS1.out HX1.out H.out.g H.out.fg hlt
      have HST := Lib.hid hst
      rw [hA] at p0
      have HA := Lib.hid hA
      have i0 : (0 : Int) ≤ (k1 : Int) := by omega
      have i1 : (k1 : Int) < (t.gens.length : Int) := by omega
      clear hst hA
      go_wp2
      go_roundw
      case rel => exact ⟨k1 + 1, by omega, by go_num, (HST.out _).1, (HST.out _).2⟩
      case measure => simp [intOf]; omega
    · obtain rfl : k1 = t.gens.length := by omega
      go_wp2
      clear p0 p1
      go_loopw [3] (SpHJ B U t A w t.ats.length) (fun i _ => t.ats.length - (intOf i).toNat)
      case atStart => exact ⟨0, Nat.zero_le _, rfl, HS1.out, HX1.out⟩
      case round =>
        obtain ⟨k2, hk2, rfl, hs, hx⟩ := hrel
        have HS2 := Lib.hid hs
        have HX2 := Lib.hid hx
        clear hs hx HS1 HX1
        obtain ⟨_, p0, p1, _, _⟩ := HX2.out
        by_cases hlt2 : k2 < t.ats.length
        · obtain ⟨b, off, z, hA, hc, hf, hst⟩ := sp_stepH HS2.out HX2.out H.out.a H.out.fa hlt2
          have HST := Lib.hid hst
          rw [hA] at p1
          have HA := Lib.hid hA
          have i0 : (0 : Int) ≤ (k2 : Int) := by omega
          have i1 : (k2 : Int) < (t.ats.length : Int) := by omega
          clear hst hA
          go_wp2
          go_roundw
          case rel => exact ⟨k2 + 1, by omega, by go_num, (HST.out _).1, (HST.out _).2⟩
          case measure => simp [intOf]; omega
        · go_wp2
          clear p0 p1
          go_end0
          exact ⟨rfl, HS2.out⟩
end Go.Proofs.Ytephmejhglcdiaa

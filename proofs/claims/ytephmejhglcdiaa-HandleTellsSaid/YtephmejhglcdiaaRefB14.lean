/- What the document's own answers of layer 14 (package shelfmarkref14) return that only read: Check, Same, Live, Is, Find. -/
import Derived.Test.YtephmejhglcdiaaRefA14
namespace Go.Proofs.Ytephmejhglcdiaa
open Go.RowKit
set_option linter.unusedVariables false
set_option linter.unusedSimpArgs false

set_option maxRecDepth 100000 in
set_option maxHeartbeats 400000 in
theorem r14Check (t : Ht) (A : HAds) (w : World) (h : HHeld w t A) :
    Calls Try.prog 22 #[hv t A] w fun e w' => e = .returned (.int .i64 (Hn.chkE t)) ∧ Below w.heap.size w w' := by
  have HB := Lib.hid (fun o => (Below.refl w.heap.size w).alloc (Nat.le_refl _) o)
  have C := Lib.hid (fun o => r14May t A (w.alloc o) (h.below (HB.out o)))
  clear h
  unfold hv at C ⊢
  go_enter Try.func22, Try.ntmps22
  go_wp2_with fail
  refine (C.out _).mono ?_
  rintro e w1 ⟨rfl, hb⟩
  have B1 := Lib.hid ((HB.out _).trans (hb.mono (HB.out _).size))
  clear hb C HB
  cases hm : Hn.mayB t
  · have H := Lib.hid (show Hn.chkE t = 8 by unfold Hn.chkE; rw [hm]; rfl)
    go_wp2
    go_ret
    rw [H.out]
    exact ⟨rfl, B1.out⟩
  · have H := Lib.hid (show Hn.chkE t = 0 by unfold Hn.chkE; rw [hm]; rfl)
    go_wp2
    go_ret
    rw [H.out]
    exact ⟨rfl, B1.out⟩
set_option maxRecDepth 100000 in
set_option maxHeartbeats 1000000 in
theorem r14Same (t o : Ht) (A B : HAds) (w : World) (h : HHeld w t A) (h' : HHeld w o B) (hs : t.Short) (hs' : o.Short) :
    Calls Try.prog 24 #[hv t A, hv o B] w fun e w' => e = .returned (.bool (Hn.sameB t o)) ∧ Below w.heap.size w w' := by
  have HB := Lib.hid (fun x y => ((Below.refl w.heap.size w).alloc (Nat.le_refl _) x).alloc (by simp) y)
  have C1 := Lib.hid (fun V (hb : Below w.heap.size w V) => rSameInts A.g B.g A.cg B.cg t.gens o.gens V (h.below hb).gens (h'.below hb).gens (by have := hs.gens; omega) (by have := hs'.gens; omega))
  have C2 := Lib.hid (fun V (hb : Below w.heap.size w V) => rSameInts A.a B.a A.ca B.ca t.ats o.ats V (h.below hb).ats (h'.below hb).ats (by have := hs.ats; omega) (by have := hs'.ats; omega))
  have HX := Lib.hid (fun x => (HBox.new w t A 24).below ((Below.refl _ _).alloc (Nat.le_refl _) x))
  have HY := Lib.hid (fun x => HBox.new (w.alloc x) o B 24)
  have HS := Lib.hid (show Hn.sameB t o = ((t.gens == o.gens) && (t.ats == o.ats)) from rfl)
  clear h h' hs hs'
  unfold hCells at HX HY
  unfold hv
  go_enter Try.func24, Try.ntmps24
  go_wp2_with fail
  refine (C1.out _ (HB.out _ _)).mono ?_
  rintro e w1 ⟨rfl, hb⟩
  have B1 := Lib.hid ((HB.out _ _).trans (hb.mono (HB.out _ _).size))
  obtain ⟨_, p0, p1, _, _⟩ := (HX.out _).below hb
  obtain ⟨_, p2, p3, _, _⟩ := (HY.out _).below hb
  simp only [World.size_alloc] at p2 p3
  clear hb HX HY HB C1
  cases e1 : (t.gens == o.gens)
  · rw [e1] at HS
    go_wp2
    go_ret
    rw [HS.out]
    exact ⟨rfl, B1.out⟩
  · rw [e1] at HS
    go_wp2_with fail
    refine (C2.out _ B1.out).mono ?_
    rintro e w2 ⟨rfl, hb⟩
    have B2 := Lib.hid (B1.out.trans (hb.mono B1.out.size))
    clear hb C2 B1 p0 p1 p2 p3
    go_wp2
    go_ret
    rw [HS.out]
    exact ⟨by simp, B2.out⟩
theorem live_take (zs : List Int) (k : Nat) (h : k < zs.length) : Hn.live (zs.take (k + 1)) = Hn.live (zs.take k) + (if 0 ≤ zs.getD k 0 then 1 else 0) := by
  rw [List.take_succ_eq_append_getElem h]
  unfold Hn.live
  rw [List.filter_append, List.length_append]
  simp only [List.getD, List.getElem?_eq_getElem h, Option.getD_some]
  by_cases hz : 0 ≤ zs[k] <;> simp [hz]
theorem live_le (zs : List Int) : Hn.live zs ≤ zs.length := List.length_filter_le _ _
def LiveJ (zs : List Int) (w : World) (n i : Value) (wr : World) : Prop := ∃ k : Nat, k ≤ zs.length ∧ i = .int .i64 k ∧ n = .int .i64 (Hn.live (zs.take k) : Nat) ∧ wr = w
set_option maxRecDepth 100000 in
set_option maxHeartbeats 1000000 in
theorem r14Live (t : Ht) (A : HAds) (w : World) (h : HHeld w t A) :
    Calls Try.prog 19 #[hv t A] w fun e w' => e = .returned (.tuple #[.int .i64 (Hn.liveV t), .int .i64 (Hn.chkE t)]) ∧ Below w.heap.size w w' := by
  obtain ⟨ag, aa, cg, ca⟩ := A
  have HB := Lib.hid (fun o => (Below.refl w.heap.size w).alloc (Nat.le_refl _) o)
  have C := Lib.hid (fun o => r14May t ⟨ag, aa, cg, ca⟩ (w.alloc o) (h.below (HB.out o)))
  have HX := Lib.hid (HBox.new w t ⟨ag, aa, cg, ca⟩ 24)
  have HA := Lib.hid (fun V (hb : Below w.heap.size w V) => (h.below hb).ats)
  clear h
  unfold hCells at HX
  unfold hv at C ⊢
  dsimp only at HX HA C ⊢
  go_enter Try.func19, Try.ntmps19
  go_wp2_with fail
  refine (C.out _).mono ?_
  rintro e w1 ⟨rfl, hb⟩
  have B1 := Lib.hid ((HB.out _).trans (hb.mono (HB.out _).size))
  obtain ⟨_, p0, p1, _, _⟩ := HX.out.below hb
  clear hb C HB HX
  cases hm : Hn.mayB t
  · have H := Lib.hid (show Hn.chkE t = 8 by unfold Hn.chkE; rw [hm]; rfl)
    have H2 := Lib.hid (show Hn.liveV t = 0 by unfold Hn.liveV; rw [H.out]; rfl)
    go_wp2
    go_ret2
    rw [H.out, H2.out]
    exact ⟨rfl, B1.out⟩
  · have H := Lib.hid (show Hn.chkE t = 0 by unfold Hn.chkE; rw [hm]; rfl)
    have H2 := Lib.hid (show Hn.liveV t = ((Hn.live t.ats : Nat) : Int) by unfold Hn.liveV; rw [H.out]; rfl)
    have hl : t.ats.length ≤ 65536 := (Ht.short_of ((Hn.may_iff t).1 hm)).ats
    go_wp2
    go_loopw [4, 5] (LiveJ t.ats w1) (fun _ i _ => t.ats.length - (intOf i).toNat)
    case atStart => exact ⟨0, Nat.zero_le _, rfl, rfl, rfl⟩
    case round =>
      obtain ⟨k, hk, rfl, rfl, rfl⟩ := hrel
      have hlv := live_le (t.ats.take k)
      rw [List.length_take] at hlv
      by_cases hlt : k < t.ats.length
      · obtain ⟨b1, o1, hA, _, c1⟩ := (HA.out _ B1.out).cell hlt
        subst hA
        have HT := Lib.hid (live_take t.ats k hlt)
        obtain ⟨x, hx⟩ : ∃ x, t.ats.getD k 0 = x := ⟨_, rfl⟩
        rw [hx] at c1 HT
        obtain ⟨m, hm⟩ : ∃ m, Hn.live (t.ats.take k) = m := ⟨_, rfl⟩
        rw [hm] at hlv HT ⊢
        clear hx hm
        by_cases h0 : 0 ≤ x
        · rw [if_pos h0] at HT
          go_wp2
          go_roundw
          case rel => exact ⟨k + 1, by omega, by go_num, by rw [HT.out]; go_num, rfl⟩
          case measure => simp [intOf]; omega
        · rw [if_neg h0] at HT
          go_wp2
          go_roundw
          case rel => exact ⟨k + 1, by omega, by go_num, by rw [HT.out]; go_num, rfl⟩
          case measure => simp [intOf]; omega
      · have HT := Lib.hid (show t.ats.take k = t.ats from List.take_of_length_le (by omega))
        rw [HT.out]
        clear HT
        go_wp2
        go_ret2
        rw [H.out, H2.out]
        exact ⟨rfl, B1.out⟩
set_option maxRecDepth 100000 in
set_option maxHeartbeats 1000000 in
theorem r14Is (t : Ht) (A : HAds) (h : Int × Int) (w : World) (hh : HHeld w t A) (hl : t.ats.length = t.gens.length) :
    Calls Try.prog 40 #[hv t A, pv h] w fun e w' => e = .returned (.bool (Hn.isB t h)) ∧ Below w.heap.size w w' := by
  obtain ⟨ag, aa, cg, ca⟩ := A
  obtain ⟨n, m⟩ := h
  have HB := Lib.hid (fun x y => ((Below.refl w.heap.size w).alloc (Nat.le_refl _) x).alloc (by simp) y)
  have HH := Lib.hid (fun x y => hh.below (HB.out x y))
  have HF := Lib.hid (fun h => (show Hn.isB t (n, m) = false from by
    cases e : Hn.isB t (n, m)
    · rfl
    · exact absurd ((Hn.is_iff t (n, m)).1 e) h))
  have HT := Lib.hid (Hn.is_iff t (n, m)).2
  have HL := Lib.hid hl
  clear hh hl
  unfold hv pv
  dsimp only at HH ⊢
  by_cases h1 : ¬ 0 ≤ n
  · have kh1 : decide (0 ≤ n) = false := decide_eq_false h1
    have H := Lib.hid (HF.out (fun h => h1 h.1))
    clear HF HT
    go_enter Try.func40, Try.ntmps40
    go_wp2
    go_quiet (fail)
    go_wp2
    go_ret
    rw [H.out]
    exact ⟨rfl, below_drewN (HB.out _ _) _⟩
  replace h1 := Decidable.not_not.1 h1
  have kh1 : decide (0 ≤ n) = true := decide_eq_true h1
  by_cases h2 : ¬ n < (t.gens.length : Int)
  · have kh2 : decide (n < (t.gens.length : Int)) = false := decide_eq_false h2
    have H := Lib.hid (HF.out (fun h => h2 h.2.1))
    clear HF HT
    go_enter Try.func40, Try.ntmps40
    go_wp2
    go_quiet (fail)
    go_wp2
    go_ret
    rw [H.out]
    exact ⟨rfl, below_drewN (HB.out _ _) _⟩
  replace h2 := Decidable.not_not.1 h2
  have kh2 : decide (n < (t.gens.length : Int)) = true := decide_eq_true h2
  obtain ⟨k, rfl⟩ : ∃ k : Nat, n = k := ⟨n.toNat, by omega⟩
  obtain ⟨b1, o1, hA1, _, c1⟩ := (HH.out (.cells #[.slice ag t.gens.length cg, .slice aa t.ats.length ca] 24) (.cells #[.int .i64 k, .int .i64 m] 26)).gens.cell (show k < t.gens.length by omega)
  obtain ⟨b2, o2, hA2, _, c2⟩ := (HH.out (.cells #[.slice ag t.gens.length cg, .slice aa t.ats.length ca] 24) (.cells #[.int .i64 k, .int .i64 m] 26)).ats.cell (show k < t.ats.length by rw [HL.out]; omega)
  dsimp only at hA1 hA2
  subst hA1 hA2
  have hl2 : (k : Int) < (t.ats.length : Int) := by rw [HL.out]; omega
  dsimp only [Int.toNat_natCast] at HF HT
  obtain ⟨x, hx⟩ : ∃ x, Hn.g t k = x := ⟨_, rfl⟩
  obtain ⟨y, hy⟩ : ∃ y, Hn.a t k = y := ⟨_, rfl⟩
  rw [show t.gens.getD k 0 = x from hx] at c1
  rw [show t.ats.getD k 0 = y from hy] at c2
  rw [hx, hy] at HF HT
  clear hx hy HL HH
  by_cases h3 : ¬ 0 ≤ y
  · have kh3 : decide (0 ≤ y) = false := decide_eq_false h3
    have H := Lib.hid (HF.out (fun h => h3 h.2.2.1))
    clear HF HT
    go_enter Try.func40, Try.ntmps40
    go_wp2
    go_quiet (fail)
    go_wp2
    go_ret
    rw [H.out]
    exact ⟨rfl, below_drewN (HB.out _ _) _⟩
  replace h3 := Decidable.not_not.1 h3
  have kh3 : decide (0 ≤ y) = true := decide_eq_true h3
  cases h4 : (x == m)
  · have H := Lib.hid (HF.out (fun h => by have := h.2.2.2; rw [beq_eq_false_iff_ne] at h4; exact h4 this))
    clear HF HT
    go_enter Try.func40, Try.ntmps40
    go_wp2
    go_quiet (fail)
    go_wp2
    go_ret
    rw [H.out]
    exact ⟨rfl, below_drewN (HB.out _ _) _⟩
  · have H := Lib.hid (HT.out ⟨h1, h2, h3, beq_iff_eq.1 h4⟩)
    clear HF HT
    go_enter Try.func40, Try.ntmps40
    go_wp2
    go_quiet (fail)
    go_wp2
    go_ret
    rw [H.out]
    exact ⟨rfl, below_drewN (HB.out _ _) _⟩
end Go.Proofs.Ytephmejhglcdiaa

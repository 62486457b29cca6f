/- What the law package of layer 7's own functions return: share; alive, which answers true; what its laws want of rows. -/
import Derived.Test.YtbkbcjdhppnfoaaSpread
import Derived.Test.YtbkbcjdhppnfoaaSlv
namespace Go.Proofs.Ytbkbcjdhppnfoaa
open Go.RowKit
set_option linter.unusedVariables false
set_option linter.unusedSimpArgs false

theorem lst_new (zs : List Int) (w : World) (t : TypeId) : Lst .i64 (w.alloc (.cells (zs.map (Value.int .i64)).toArray t)) (some ⟨w.heap.size, 0, none⟩) zs := by
  refine Or.inr ⟨w.heap.size, 0, rfl, by simp, fun i hi => ?_⟩
  have hh : (w.alloc (.cells (zs.map (Value.int .i64)).toArray t)).heap[w.heap.size]? = some (.cells (zs.map (Value.int .i64)).toArray t) := by show (w.heap.push _)[w.heap.size]? = _; exact Array.getElem?_push_size
  simp only [World.cell?, hh, Nat.zero_add]
  simp [hi, List.getD]
theorem places_len (n f t : Int) : (Sp.placesV n f t).length ≤ 65536 := by
  unfold Sp.placesV
  split
  · rename_i h
    have := Sp.may_in h
    rw [Sp.ofs_length]
    omega
  · simp

theorem lst_cells {w : World} {b off : Nat} {zs : List Int} (h : Lst .i64 w (some ⟨b, off, none⟩) zs) (i : Nat) (hi : i < zs.length) : w.cell? ⟨b, off + i, none⟩ = some (.int .i64 (zs.getD i 0)) := by
  obtain ⟨b2, o2, e, _, c⟩ := h.cell hi
  injection e with e
  injection e with e1 e2
  subst e1 e2
  exact c
namespace Sp
theorem ofs_rises {n f t : Int} (hm : mayB n f t = true) : risesB (ofs n f t) = true := by
  obtain ⟨m1, m2, m3, m4, m5⟩ := may_in hm
  unfold risesB
  rw [List.all_eq_true]
  intro i hi
  have hi2 := List.mem_range.1 hi
  rw [ofs_length] at hi2
  rw [ofs_at (by omega), ofs_at (by omega)]
  have h1 := (plc_step (n := n) (f := f) (t := t) (by omega) (by omega) i).1
  have h2 := one_le_step (n := n) (f := f) (t := t) (by omega) m5
  exact decide_eq_true (by omega)
theorem part_mk {n f t p k j : Int} (h : partB n f t p k = true) (h0 : 0 ≤ j) (h1 : j ≤ k) : partB n f t p j = true := by
  obtain ⟨a1, a2, a3, a4, a5⟩ := part_in h
  unfold partB
  rw [a1, decide_eq_true a2, decide_eq_true a3, decide_eq_true h0, decide_eq_true (show j < p by omega)]
  rfl
theorem rank_mk {n f t a : Int} (hm : mayB n f t = true) (h1 : f ≤ a) (h2 : a ≤ t) : rankB n f t a = true := by
  unfold rankB
  rw [hm, decide_eq_true h1, decide_eq_true h2]
  rfl
end Sp

set_option maxHeartbeats 1000000 in
theorem lShare (n f t p k x : Int) (w : World) (hn : -9223372036854775808 ≤ n ∧ n ≤ 9223372036854775807) (hf : -9223372036854775808 ≤ f ∧ f ≤ 9223372036854775807) (ht : -9223372036854775808 ≤ t ∧ t ≤ 9223372036854775807) (hp : -9223372036854775808 ≤ p ∧ p ≤ 9223372036854775807) (hk : -9223372036854775808 ≤ k ∧ k ≤ 9223372036854775807) :
    Calls Try.prog 13 #[.int .i64 n, .int .i64 f, .int .i64 t, .int .i64 p, .int .i64 k, .int .i64 x] w fun e w' => e = .returned (.bool (Sp.shareE n f t p k == 0 && Sp.shareV n f t p k == x)) ∧ Below w.heap.size w w' := by
  have C := Lib.hid (sShare n f t p k w hn hf ht hp hk)
  obtain ⟨y, hy⟩ : ∃ y, y = Sp.shareV n f t p k := ⟨_, rfl⟩
  obtain ⟨e, he⟩ : ∃ e, e = Sp.shareE n f t p k := ⟨_, rfl⟩
  rw [← hy, ← he] at C ⊢
  clear hy he
  by_cases h : e = 0
  · have h1 : (e == 0) = true := by simp [h]
    rw [h1]
    clear h
    go_enter Try.func13, Try.ntmps13
    go_wp2_with fail
    refine C.out.mono ?_
    rintro e' w1 ⟨rfl, hb⟩
    go_wp2
    go_ret
    exact ⟨rfl, hb⟩
  · have h1 : (e == 0) = false := by simp [h]
    rw [h1]
    clear h
    go_enter Try.func13, Try.ntmps13
    go_wp2_with fail
    refine C.out.mono ?_
    rintro e' w1 ⟨rfl, hb⟩
    go_wp2
    go_ret
    exact ⟨rfl, hb⟩
theorem lShareT (n f t p k x : Int) (w : World) (hn : -9223372036854775808 ≤ n ∧ n ≤ 9223372036854775807) (hf : -9223372036854775808 ≤ f ∧ f ≤ 9223372036854775807) (ht : -9223372036854775808 ≤ t ∧ t ≤ 9223372036854775807) (hp : -9223372036854775808 ≤ p ∧ p ≤ 9223372036854775807) (hk : -9223372036854775808 ≤ k ∧ k ≤ 9223372036854775807) (hx : (Sp.shareE n f t p k == 0 && Sp.shareV n f t p k == x) = true) :
    Calls Try.prog 13 #[.int .i64 n, .int .i64 f, .int .i64 t, .int .i64 p, .int .i64 k, .int .i64 x] w fun e w' => e = .returned (.bool true) ∧ Below w.heap.size w w' := by
  have C := lShare n f t p k x w hn hf ht hp hk
  rw [hx] at C
  exact C

set_option maxRecDepth 100000 in
set_option maxHeartbeats 2000000 in
theorem lAlive (w : World) : Calls Try.prog 11 #[] w fun e w' => e = .returned (.bool true) ∧ Below w.heap.size w w' := by
  have C1 := Lib.hid (fun W => sPlaces 3 8 16 W (by omega) (by omega) (by omega))
  rw [show Sp.placesV 3 8 16 = [8, 10, 13] from by decide +kernel, show Sp.placesE 3 8 16 = 0 from by decide +kernel] at C1
  have C2 := Lib.hid (fun W => sRank 3 8 16 13 W (by omega) (by omega) (by omega) (by omega))
  rw [show Sp.rankV 3 8 16 13 = 2 from by decide +kernel, show Sp.rankE 3 8 16 13 = 0 from by decide +kernel] at C2
  have S1 := Lib.hid (fun W => lShareT 3 8 16 2 0 2 W (by omega) (by omega) (by omega) (by omega) (by omega) (by decide +kernel))
  have S2 := Lib.hid (fun W => lShareT 3 8 16 2 1 1 W (by omega) (by omega) (by omega) (by omega) (by omega) (by decide +kernel))
  have S3 := Lib.hid (fun W => lShareT 3 8 16 4 3 0 W (by omega) (by omega) (by omega) (by omega) (by omega) (by decide +kernel))
  have PN := Lib.hid (fun W => lst_new [8, 10, 13] W 3)
  go_enter Try.func11, Try.ntmps11
  go_wp2_with fail
  refine (C1.out _).mono ?_
  rintro e w1 ⟨v, rfl, hrow, hb⟩
  obtain ⟨A, c, rfl, hL⟩ := irow_list hrow
  have B0 := Lib.hid hb
  have L0 := Lib.hid hL
  clear hrow hb hL
  dsimp only [List.length_cons, List.length_nil]
  go_wp2_with fail
  refine (C2.out _).mono ?_
  rintro e w2 ⟨rfl, hb⟩
  replace B0 := Lib.hid (B0.out.trans (hb.mono B0.out.size))
  replace L0 := Lib.hid (L0.out.below hb)
  clear hb
  have CS := Lib.hid (rSameInts A (some ⟨w2.heap.size, 0, none⟩) c 3 [8, 10, 13] [8, 10, 13] _ (L0.out.below ((Below.refl _ _).alloc (Nat.le_refl _) (.cells (([8, 10, 13] : List Int).map (Value.int .i64)).toArray 3))) (PN.out w2) (by simp) (by simp))
  rw [show (([8, 10, 13] : List Int) == [8, 10, 13]) = true from by decide] at CS
  have B3 := Lib.hid (B0.out.alloc B0.out.size (.cells (([8, 10, 13] : List Int).map (Value.int .i64)).toArray 3))
  go_wp2_with fail
  refine CS.out.mono ?_
  rintro e w3 ⟨rfl, hb⟩
  replace B3 := Lib.hid (B3.out.trans (hb.mono B3.out.size))
  clear hb
  go_wp2_with fail
  refine (S1.out _).mono ?_
  rintro e w4 ⟨rfl, hb⟩
  replace B3 := Lib.hid (B3.out.trans (hb.mono B3.out.size))
  clear hb
  go_wp2_with fail
  refine (S2.out _).mono ?_
  rintro e w5 ⟨rfl, hb⟩
  replace B3 := Lib.hid (B3.out.trans (hb.mono B3.out.size))
  clear hb
  go_wp2_with fail
  refine (S3.out _).mono ?_
  rintro e w6 ⟨rfl, hb⟩
  replace B3 := Lib.hid (B3.out.trans (hb.mono B3.out.size))
  clear hb
  go_wp2
  go_ret
  exact ⟨rfl, B3.out⟩
end Go.Proofs.Ytbkbcjdhppnfoaa

/- What the document's own answers Path and Row of layer 6 (package shelfmarkref06) return: new memory. -/
import Derived.Test.YthnpmbbhbaaloaaRefA06
import Derived.LoopTactic
namespace Go.Proofs.Ythnpmbbhbaaloaa
open Go.RowKit
set_option linter.unusedVariables false
set_option linter.unusedSimpArgs false

theorem elemA : Elem Try.prog 27 33 (.agg #[.int .i64 0, .int .i64 0]) 2 16 :=
  ⟨Try.underlying27, info_parts (show (Try.prog.info? 33).map (fun i => (i.zero, i.size, i.bytes)) = some (some (.agg #[.int .i64 0, .int .i64 0]), 2, 16) by kernel_rfl), rfl, by decide⟩
def WRow (ps : List (Int × Int)) (er : Int) (w : World) (e : Ending) (w' : World) : Prop :=
  ∃ v, e = .returned (.tuple #[v, .int .i64 er]) ∧ w'.ownsRow w.heap.size 33 2 v ps.length (pcells ps) ∧ Below w.heap.size w w'
def WinJ (f : Nat → Int × Int) (n : Nat) (w : World) (v i : Value) (wr : World) (step : Int) : Prop :=
  ∃ k : Nat, k ≤ n ∧ i = .int .i64 ((k : Int) * step) ∧ wr.ownsRow w.heap.size 33 2 v k (pcells ((List.range k).map f)) ∧ Below w.heap.size w wr
theorem pcells_more (f : Nat → Int × Int) (k : Nat) : pcells ((List.range (k + 1)).map f) = pcells ((List.range k).map f) ++ [.int .i64 (f k).1, .int .i64 (f k).2] := by
  rw [List.range_succ, List.map_append]
  unfold pcells
  rw [List.flatMap_append]
  rfl

set_option maxHeartbeats 2000000 in
theorem r6Path (g s a : Int) (w : World) (hg : g ≤ 9223372036854775807) (hs : s ≤ 9223372036854775807) :
    Calls Try.prog 18 #[.int .i64 g, .int .i64 s, .int .i64 a] w (WRow (Wn.path g s a) (Wn.askE g s 0 a) w) := by
  have CA := Lib.hid (r6asked g s 0 a w hg hs)
  cases hk : Wn.askB g s 0 a
  · have E := Lib.hid (show Wn.path g s a = [] ∧ Wn.askE g s 0 a = 2 by unfold Wn.path Wn.askE; rw [hk]; exact ⟨rfl, rfl⟩)
    rw [E.out.2] at CA
    clear hk
    go_enter Try.func18, Try.ntmps18
    go_wp2_with fail
    refine CA.out.mono ?_
    rintro e w1 ⟨rfl, rfl⟩
    go_wp2
    go_ret2
    rw [E.out.1, E.out.2]
    exact ⟨_, rfl, World.ownsRow_nil _ _ _ _, Below.refl _ _⟩
  · have EA : Wn.askE g s 0 a = 0 := by unfold Wn.askE; rw [hk]; rfl
    obtain ⟨hf, _, _, a0, a1⟩ := Wn.ask_yes hk
    obtain ⟨H, f⟩ := Wn.fit_of hf
    have EP := Lib.hid (show Wn.path g s a = (List.range (H + 1)).map (fun k : Nat => (Wn.lo g k a, Wn.hi g k a)) by unfold Wn.path; rw [hk, if_pos rfl, f.hH, Int.toNat_natCast])
    rw [EA] at CA ⊢
    have s1 := f.s1
    have h14 := f.h14
    have CH := Lib.hid (fun W => r6Height g s W hf)
    rw [f.hH] at CH
    have CO := Lib.hid (fun (k : Nat) (hk : k ≤ H) W => r6Of g k a W f.g1 f.g2 (by omega) (by omega) a0 (by omega))
    clear hk hf f EA
    go_enter Try.func18, Try.ntmps18
    go_wp2_with fail
    refine CA.out.mono ?_
    rintro e w1 ⟨rfl, rfl⟩
    go_wp2
    go_loopw [9, 10] (fun v i wr => WinJ (fun k : Nat => (Wn.lo g k a, Wn.hi g k a)) (H + 1) w v i wr 1) (fun _ i _ => H + 1 - (intOf i).toNat)
    case atStart => exact ⟨0, Nat.zero_le _, rfl, World.ownsRow_nil _ _ _ _, Below.refl _ _⟩
    case round =>
      obtain ⟨k, hk, hi, hown, hbr⟩ := hrel
      rw [Int.mul_one] at hi
      subst hi
      have HO := Lib.hid hown
      have HB := Lib.hid hbr
      have zz := hbr.size
      clear hown hbr
      by_cases hlt : k ≤ H
      · have CO1 := Lib.hid (CO.out k hlt)
        have HM := Lib.hid (pcells_more (fun k : Nat => (Wn.lo g k a, Wn.hi g k a)) k)
        obtain ⟨x, hx⟩ : ∃ x, x = Wn.lo g k a := ⟨_, rfl⟩
        obtain ⟨y, hy⟩ : ∃ y, y = Wn.hi g k a := ⟨_, rfl⟩
        dsimp only at HM
        rw [← hx, ← hy] at CO1 HM
        clear hx hy
        go_wp2_with fail
        refine (CH.out _).mono ?_
        rintro e w1 ⟨rfl, rfl⟩
        go_wp2_with fail
        refine (CO1.out _).mono ?_
        rintro e w1 ⟨rfl, rfl⟩
        go_wp2_with (at_builtin; refine wpList_moreN elemA rfl (.tmp 34) (.tmp 38) rfl wr 33 [.int .i64 x, .int .i64 y] rfl rfl w.heap.size k _ _ rfl rfl HO.out (by intro u hu; simp at hu; rcases hu with rfl | rfl <;> rfl) zz (by unfold maxLen; omega) (by omega) ?_; intro v5 w5 hown5 hb5; rw [← HM.out] at hown5; have HO5 := Lib.hid hown5; have HB5 := Lib.hid (HB.out.trans hb5); clear hown5 hb5)
        go_roundw
        case rel => exact ⟨k + 1, by omega, by rw [Int.mul_one]; go_num, HO5.out, HB5.out⟩
        case measure => simp [intOf]; omega
      · obtain rfl : k = H + 1 := by omega
        go_wp2_with fail
        refine (CH.out _).mono ?_
        rintro e w1 ⟨rfl, rfl⟩
        go_wp2
        go_ret2
        rw [EP.out]
        exact ⟨_, rfl, by simpa using HO.out, HB.out⟩
end Go.Proofs.Ythnpmbbhbaaloaa

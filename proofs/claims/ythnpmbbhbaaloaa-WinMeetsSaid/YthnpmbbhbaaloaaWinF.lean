/- What package win's Path and Meet return. -/
import Derived.Test.YthnpmbbhbaaloaaWinE
import Derived.Test.YthnpmbbhbaaloaaInRound
import Derived.Test.YthnpmbbhbaaloaaRefC06
namespace Go.Proofs.Ythnpmbbhbaaloaa
open Go.RowKit Go.Shelf
attribute [local go_sem] Oper.semAt_some
set_option linter.unusedVariables false
set_option linter.unusedSimpArgs false

set_option maxRecDepth 100000 in
set_option maxHeartbeats 2000000 in
theorem vPath (g s a : Int) (w : World) (hg : g ≤ 9223372036854775807) (hs : -9223372036854775808 ≤ s ∧ s ≤ 9223372036854775807) :
    Calls Try.prog 17 #[.int .i64 g, .int .i64 s, .int .i64 a] w (WRow (Wn.path g s a) (Wn.askE g s 0 a) w) := by
  cases hk : Wn.askB g s 0 a
  · have CH := Lib.hid (fun W => vHigh g s W hg hs)
    have E := Lib.hid (Wn.path_no hk)
    rw [E.out.1, E.out.2]
    obtain ⟨w0, hw0⟩ : ∃ w0, w0 = (w.alloc (.cells #[.int .i64 g] 3)).alloc (.cells #[.int .i64 a] 3) := ⟨_, rfl⟩
    have X3 := Lib.hid (show Boxed w0 w.heap.size 3 (.int .i64 g) by rw [hw0]; exact (Boxed.new w _ _).alloc _)
    have X5 := Lib.hid (show Boxed w0 (w.heap.size + 1) 3 (.int .i64 a) by rw [hw0]; have := Boxed.new (w.alloc (.cells #[.int .i64 g] 3)) 3 (.int .i64 a); rwa [World.size_alloc] at this)
    have B0 := Lib.hid (show Below w.heap.size w w0 by rw [hw0]; exact ((Below.refl _ _).alloc (Nat.le_refl _) _).alloc (by simp) _)
    cases hf : Sl.fitsB g s
    · rw [(Wn.high_no hf).1, (Wn.high_no hf).2] at CH
      clear hf hk
      refine calls_marks Try.func17 rfl ?_
      simp only [Try.ntmps17, List.size_toArray, List.length_cons, List.length_nil, Nat.reduceAdd, Nat.reduceSub, Array.replicate_succ, Array.replicate_zero, List.push_toArray, List.append_toArray, List.nil_append, List.cons_append]
      go_wp2_with fail
      rw [← hw0]
      clear hw0
      refine (CH.out _).mono ?_
      rintro e w1 ⟨rfl, rfl⟩
      go_wp2
      refine ⟨_, results_tmp2 rfl _ _ _, ?_⟩
      exact ⟨_, rfl, World.ownsRow_nil _ _ _ _, B0.out⟩
    · rw [(Wn.high_yes hf).1, (Wn.high_yes hf).2] at CH
      obtain ⟨H, f⟩ := Wn.fit_of hf
      rw [f.hH] at CH
      have s1 := f.s1
      have sg := f.seg
      have g1 := f.g1
      have hA := hk
      rw [Wn.ask_path hf] at hA
      have CA := Lib.hid (fun W => vAre s (some ⟨W.heap.size, 0, none⟩) 1 [a] (W.alloc (.cells #[.int .i64 a] 3)) (lst_one a W _) (by simp) (by omega) (by omega))
      rw [hA] at CA
      have z0 := Lib.hid (show w0.heap.size = w.heap.size + 2 by rw [hw0]; simp)
      clear hA hf hk f
      refine calls_marks Try.func17 rfl ?_
      simp only [Try.ntmps17, List.size_toArray, List.length_cons, List.length_nil, Nat.reduceAdd, Nat.reduceSub, Array.replicate_succ, Array.replicate_zero, List.push_toArray, List.append_toArray, List.nil_append, List.cons_append]
      go_wp2_with fail
      rw [← hw0]
      clear hw0
      refine (CH.out _).mono ?_
      rintro e w1 ⟨rfl, rfl⟩
      have c3 := X3.out.cell
      have c5 := X5.out.cell
      go_wp2_with fail
      refine (CA.out _).mono ?_
      rintro e w1 ⟨rfl, rfl⟩
      go_wp2
      refine ⟨_, results_tmp2 rfl _ _ _, ?_⟩
      exact ⟨_, rfl, World.ownsRow_nil _ _ _ _, B0.out.alloc (by have := z0.out; omega) _⟩
  · have e : Wn.askE g s 0 a = 0 := by unfold Wn.askE; rw [hk]; rfl
    rw [e]
    exact vPath_ok g s a w hg hs hk
end Go.Proofs.Ythnpmbbhbaaloaa

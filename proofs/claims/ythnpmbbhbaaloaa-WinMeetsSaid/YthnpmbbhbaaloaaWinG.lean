/- What package win's Meet returns. -/
import Derived.Test.YthnpmbbhbaaloaaWinF
import Derived.Test.YthnpmbbhbaaloaaRefB06
namespace Go.Proofs.Ythnpmbbhbaaloaa
open Go.RowKit Go.Shelf
attribute [local go_sem] Oper.semAt_some
set_option linter.unusedVariables false
set_option linter.unusedSimpArgs false

theorem range_snoc {pre : List Nat} {x n : Nat} (h : pre ++ [x] <+: List.range n) : pre = List.range x ∧ x < n := by
  obtain ⟨t, ht⟩ := h
  have hl := congrArg List.length ht
  simp at hl
  have h1 := congrArg (fun l => l[pre.length]?) ht
  simp at h1
  rw [List.getElem?_range (by omega)] at h1
  injection h1 with h1
  have h2 := congrArg (fun l => l.take pre.length) ht
  simp at h2
  first | rw [List.take_range] at h2 | skip
  rw [Nat.min_eq_left (by omega)] at h2
  subst h1
  exact ⟨h2, by omega⟩
namespace Wn
theorem meet_no {g s a b : Int} (hk : meetB g s a b = false) : meetV g s a b = 0 ∧ meetE g s a b = 2 := by unfold meetV meetE; rw [hk]; exact ⟨rfl, rfl⟩
theorem meet_are {g s a b : Int} (hf : Sl.fitsB g s = true) : meetB g s a b = areB s [a, b] := by
  unfold meetB
  rw [ask_path hf, are_one, are_two]
/-- The first height at which two slots have one window is what is answered. -/
theorem Fit.meet_is {g s : Int} {H : Nat} (f : Fit g s H) {a b : Int} (hk : meetB g s a b = true) {x : Nat} (h1 : lo g x a = lo g x b) (h2 : ∀ k : Nat, k < x → ¬ lo g k a = lo g k b) : meetV g s a b = x ∧ meetE g s a b = 0 := by
  have hk' := hk
  unfold meetB at hk
  simp only [Bool.and_eq_true, decide_eq_true_eq] at hk
  obtain ⟨_, _, _, a0, a1⟩ := ask_yes hk.1
  obtain ⟨m, e, _, hm⟩ := f.meet a0 a1 hk.2.1 hk.2.2
  have h3 := (hm x).1 h1
  have h4 : m = x := by
    rcases Nat.lt_or_ge m x with h5 | h5
    · exact absurd ((hm m).2 (Nat.le_refl _)) (h2 m h5)
    · omega
  unfold meetV meetE
  rw [hk', if_pos rfl, if_pos rfl, e, h4]
  exact ⟨rfl, rfl⟩
end Wn

/-- Between two rounds: no height so far has one window of both. -/
structure MeetI (g a b top : Int) (w : World) (b4 b6 b7 b12 : Nat) (pre : List Nat) (W : World) : Prop where
  seg : Boxed W b4 3 (.int .i64 g)
  one : Boxed W b6 3 (.int .i64 a)
  two : Boxed W b7 3 (.int .i64 b)
  top : Boxed W b12 3 (.int .i64 top)
  below : Below w.heap.size w W
  no : ∀ k ∈ pre, ¬ Wn.lo g (k : Nat) a = Wn.lo g (k : Nat) b
theorem meetI_own (g a b top : Int) (w : World) (b4 b6 b7 b12 n : Nat) (hn : w.heap.size ≤ n) : OwnFrom n (MeetI g a b top w b4 b6 b7 b12) := fun pre A B row hs hg hr =>
  have ho := Over.of_grown hg hr
  ⟨ho.boxed hs.seg, ho.boxed hs.one, ho.boxed hs.two, ho.boxed hs.top, ownFrom_below (β := Unit) (Nat.le_refl _) hn () A B row hs.below hg hr, hs.no⟩
/-- A round has left by the break: the height is told. -/
def MeetX (g a b : Int) (w : World) (b12 id : Nat) (c : Code) (pre : List Nat) (W : World) : Prop :=
  c = .exit id ∧ ∃ x : Nat, Wn.lo g x a = Wn.lo g x b ∧ (∀ k : Nat, k < x → ¬ Wn.lo g k a = Wn.lo g k b) ∧ Boxed W b12 3 (.int .i64 (x : Int)) ∧ Below w.heap.size w W
theorem meetX_own (g a b : Int) (w : World) (b12 id n : Nat) (hn : w.heap.size ≤ n) (c : Code) : OwnFrom n (MeetX g a b w b12 id c) := by
  rintro pre A B row ⟨hc, x, h1, h2, hb, hbel⟩ hg hr
  have ho := Over.of_grown hg hr
  exact ⟨hc, x, h1, h2, ho.boxed hb, ownFrom_below (β := Unit) (Nat.le_refl _) hn () A B row hbel hg hr⟩

set_option maxRecDepth 100000 in
set_option maxHeartbeats 2000000 in
theorem vMeet_ok (g s a b : Int) (w : World) (hg : g ≤ 9223372036854775807) (hs : -9223372036854775808 ≤ s ∧ s ≤ 9223372036854775807) (hk : Wn.meetB g s a b = true) :
    Calls Try.prog 12 #[.int .i64 g, .int .i64 s, .int .i64 a, .int .i64 b] w fun e w' => e = .returned (.tuple #[.int .i64 (Wn.meetV g s a b), .int .i64 (Wn.meetE g s a b)]) ∧ Below w.heap.size w w' := by
  have CH := Lib.hid (fun W => vHigh g s W hg hs)
  have hkk := hk
  unfold Wn.meetB at hkk
  simp only [Bool.and_eq_true, decide_eq_true_eq] at hkk
  obtain ⟨hka, b0, b1⟩ := hkk
  obtain ⟨hf, _, _, a0, a1⟩ := Wn.ask_yes hka
  rw [(Wn.high_yes hf).1, (Wn.high_yes hf).2] at CH
  obtain ⟨H, f⟩ := Wn.fit_of hf
  rw [f.hH] at CH
  have IS := Lib.hid (fun (x : Nat) h1 h2 => f.meet_is hk (x := x) h1 h2)
  have TOP := Lib.hid (show Wn.lo g H a = Wn.lo g H b by rw [f.meet_top a0 a1, f.meet_top b0 b1])
  have h14 := f.h14
  have s1 := f.s1
  have sg := f.seg
  have g1 := f.g1
  have g2 := f.g2
  have hA := hk
  rw [Wn.meet_are hf] at hA
  have CA := Lib.hid (fun W => vAre s (some ⟨W.heap.size, 0, none⟩) 2 [a, b] (W.alloc (.cells #[.int .i64 a, .int .i64 b] 3)) (lst_two a b W _) (by simp) (by omega) (by omega))
  rw [hA] at CA
  have CV := Lib.hid (fun (k : Nat) (z : Int) W (hk : k ≤ H) (z0 : 0 ≤ z) (z1 : z < s) => vWindow g k z W g1 g2 (by omega) (by omega) z0 (by omega))
  have CT := Lib.hid (fun W => vHeights (H : Int) W)
  clear hA hk hf f hka
  refine calls_marks Try.func12 rfl ?_
  simp only [Try.ntmps12, List.size_toArray, List.length_cons, List.length_nil, Nat.reduceAdd, Nat.reduceSub, Array.replicate_succ, Array.replicate_zero, List.push_toArray, List.append_toArray, List.nil_append, List.cons_append]
  obtain ⟨w0, hw0⟩ : ∃ w0, w0 = ((w.alloc (.cells #[.int .i64 g] 3)).alloc (.cells #[.int .i64 a] 3)).alloc (.cells #[.int .i64 b] 3) := ⟨_, rfl⟩
  have X4 := Lib.hid (show Boxed w0 w.heap.size 3 (.int .i64 g) by rw [hw0]; exact ((Boxed.new w _ _).alloc _).alloc _)
  have X6 := Lib.hid (show Boxed w0 (w.heap.size + 1) 3 (.int .i64 a) by rw [hw0]; have := (Boxed.new (w.alloc (.cells #[.int .i64 g] 3)) 3 (.int .i64 a)).alloc (.cells #[.int .i64 b] 3); rwa [World.size_alloc] at this)
  have X7 := Lib.hid (show Boxed w0 (w.heap.size + 1 + 1) 3 (.int .i64 b) by rw [hw0]; have := Boxed.new ((w.alloc (.cells #[.int .i64 g] 3)).alloc (.cells #[.int .i64 a] 3)) 3 (.int .i64 b); rwa [World.size_alloc, World.size_alloc] at this)
  have B0 := Lib.hid (show Below w.heap.size w w0 by rw [hw0]; exact (((Below.refl _ _).alloc (Nat.le_refl _) _).alloc (by simp) _).alloc (by simp; omega) _)
  have z0 := Lib.hid (show w0.heap.size = w.heap.size + 3 by rw [hw0]; simp)
  go_wp2_with fail
  rw [← hw0]
  clear hw0
  have c4 := X4.out.cell
  have c6 := X6.out.cell
  have c7 := X7.out.cell
  go_step3
  go_wp2_with fail
  refine (CH.out _).mono ?_
  rintro e w1 ⟨rfl, rfl⟩
  go_wp2_with fail
  refine (CA.out _).mono ?_
  rintro e w1 ⟨rfl, rfl⟩
  have B1 := Lib.hid (B0.out.alloc (by have := z0.out; omega) (.cells #[.int .i64 a, .int .i64 b] 3))
  have X4b := Lib.hid (X4.out.alloc (.cells #[.int .i64 a, .int .i64 b] 3))
  have X6b := Lib.hid (X6.out.alloc (.cells #[.int .i64 a, .int .i64 b] 3))
  have X7b := Lib.hid (X7.out.alloc (.cells #[.int .i64 a, .int .i64 b] 3))
  have z1 := Lib.hid (show (w0.alloc (.cells #[.int .i64 a, .int .i64 b] 3)).heap.size = w.heap.size + 4 by have := z0.out; simp; omega)
  obtain ⟨w1, hw1⟩ : ∃ w1, w1 = w0.alloc (.cells #[.int .i64 a, .int .i64 b] 3) := ⟨_, rfl⟩
  rw [← hw1] at B1 X4b X6b X7b z1 ⊢
  clear hw1 X4 X6 X7 B0 z0 c4 c6 c7 CA CH
  go_wp2_with fail
  go_step3
  obtain ⟨w3, hw3⟩ : ∃ w3, w3 = w1.alloc (.cells #[.int .i64 H] 3) := ⟨_, rfl⟩
  have X12 := Lib.hid (show Boxed w3 w1.heap.size 3 (.int .i64 H) by rw [hw3]; exact Boxed.new _ _ _)
  have B3 := Lib.hid (show Below w.heap.size w w3 by rw [hw3]; exact B1.out.alloc B1.out.size _)
  have X4c := Lib.hid (show Boxed w3 w.heap.size 3 (.int .i64 g) by rw [hw3]; exact X4b.out.alloc _)
  have X6c := Lib.hid (show Boxed w3 (w.heap.size + 1) 3 (.int .i64 a) by rw [hw3]; exact X6b.out.alloc _)
  have X7c := Lib.hid (show Boxed w3 (w.heap.size + 1 + 1) 3 (.int .i64 b) by rw [hw3]; exact X7b.out.alloc _)
  rw [← hw3]
  have zl : w.heap.size + 4 ≤ w1.heap.size := by have := z1.out; omega
  clear hw3 X4b X6b X7b B1 z1
  go_wp2_with fail
  refine (CT.out _).mono ?_
  rintro e w4 ⟨B, rfl, hB, hBs, hb⟩
  have X4d := Lib.hid (boxed_low X4c.out X4c.out.lt hb)
  have X6d := Lib.hid (boxed_low X6c.out X6c.out.lt hb)
  have X7d := Lib.hid (boxed_low X7c.out X7c.out.lt hb)
  have Xd := Lib.hid (boxed_low X12.out X12.out.lt hb)
  have B4 := Lib.hid (B3.out.trans (hb.mono B3.out.size))
  have HB := Lib.hid hB
  clear hB hb X4c X6c X7c X12 B3 CT
  go_wp2_with fail
  refine wp_rangeP (gf := 34) (lb := #[.pointer (some ⟨B, 0, none⟩)]) rfl (enters_of Try.func34 (by kernel_rfl) rfl)
    (ht_seq (fun _ => False) H B w4 HB.out (by omega)) (fun k h => h.elim)
    (MeetI g a b H w w.heap.size (w.heap.size + 1) (w.heap.size + 1 + 1) w1.heap.size) (MeetX g a b w w1.heap.size 0) (meetI_own _ _ _ _ _ _ _ _ _ _ B4.out.size) (fun c => meetX_own _ _ _ _ _ _ _ B4.out.size c) ⟨X4d.out, X6d.out, X7d.out, Xd.out, B4.out, by intro k hk; cases hk⟩
    (fun k => { tmps := #[.int .i64 g, .int .i64 s, .int .i64 a, .int .i64 b, .pointer (some ⟨w.heap.size, 0, none⟩), undef, .pointer (some ⟨w.heap.size + 1, 0, none⟩), .pointer (some ⟨w.heap.size + 1 + 1, 0, none⟩), .int .i64 0, .int .i64 0, .int .i64 H, .int .i64 0, .pointer (some ⟨w1.heap.size, 0, none⟩), .int .i64 (k : Int), .tuple #[.int .i64 H, .int .i64 0], .int .i64 g, .int .i64 s, .tuple #[.int .i64 H, .int .i64 0], .int .i64 H, .int .i64 0, .int .i64 0, .bool false, .bool false, .int .i64 s, .int .i64 a, .int .i64 b, .slice (some ⟨w0.heap.size, 0, none⟩) 2 2, .bool true, .bool false, .bool false, .int .i64 H, .int .i64 H, .func (Fn.func 34) #[] #[.pointer (some ⟨B, 0, none⟩)], .int .i64 (k : Int), undef, undef, undef, undef, undef, undef, undef, undef, undef, undef, undef], defers := [] }) ?assign ?body ?done ?stop
  case assign =>
    intro l k W K hK
    gi_wp2
    exact hK
  case body =>
    rintro l pre x W hI hpre
    obtain ⟨hpx, hxH⟩ := range_snoc hpre
    have hxH2 : x ≤ H := by omega
    have dr := (Below.refl W.heap.size W).drew
    have Y4 := hI.seg
    have Y6 := hI.one
    have Y7 := hI.two
    have YT := hI.top
    have BW := Lib.hid hI.below
    have NO := Lib.hid (show ∀ k : Nat, k < x → ¬ Wn.lo g k a = Wn.lo g k b from fun k hk => hI.no k (by rw [hpx]; exact List.mem_range.2 hk))
    have HPX := Lib.hid hpx
    have CV1 := Lib.hid (fun W => CV.out x a W hxH2 a0 a1)
    have CV2 := Lib.hid (fun W => CV.out x b W hxH2 b0 b1)
    clear hI hpre hpx
    by_cases he : Wn.lo g x a = Wn.lo g x b
    · have HE := Lib.hid he
      obtain ⟨lo, hlo⟩ : ∃ lo, Wn.lo g x a = lo := ⟨_, rfl⟩
      have hh1 : Wn.hi g x a = lo + Wn.wd g x := by unfold Wn.hi; rw [hlo]
      have hh2 : Wn.hi g x b = lo + Wn.wd g x := by unfold Wn.hi; rw [← he, hlo]
      rw [hlo, hh1] at CV1
      rw [← he, hlo, hh2] at CV2
      obtain ⟨hi, hhi⟩ : ∃ hi, lo + Wn.wd g x = hi := ⟨_, rfl⟩
      rw [hhi] at CV1 CV2
      clear hlo hh1 hh2 hhi he
      have hq : ∀ w' : World, Sem.run Try.prog (Op.equalIn 10000 33 (.agg #[.int .i64 lo, .int .i64 hi]) (.agg #[.int .i64 lo, .int .i64 hi])) w' = .ok true w' := fun w' => by
        have := eq_arr2 9998 lo hi lo hi w'
        rw [show (lo == lo && hi == hi) = true from by simp] at this
        exact this
      have hgd : Try.prog.eqGuardType Try.prog.depth 33 = false := by kernel_rfl
      gi_wp2
      refine wpIn_round_held (S := (fun w' => (w'.cell? ⟨w.heap.size, 0, none⟩ = some (.int .i64 g) ∧ w'.cell? ⟨w.heap.size + 1, 0, none⟩ = some (.int .i64 a) ∧ w'.cell? ⟨w.heap.size + 1 + 1, 0, none⟩ = some (.int .i64 b)) ∧ Hid (Below W.heap.size W w'))) (by kernel_rfl) (by kernel_rfl) (fun ⟨_, _, h⟩ => h) (⟨⟨(boxed_low Y4 Y4.lt dr).cell, (boxed_low Y6 Y6.lt dr).cell, (boxed_low Y7 Y7.lt dr).cell⟩, Lib.hid dr⟩) (fun hHeld => ?_)
      refine wpAnyH_take (i := 0) (oi := Oper.mk _ _ _ _ _ _) (v := ?vp0) rfl (by kernel_rfl) (by kernel_rfl) (by kernel_rfl) (fun _ _ _ h => h) (Or.inl ⟨by rfl, ?hyp0⟩) (by assumption) ?restp0
      case hyp0 =>
        intro w0 hSw
        try dsimp only at hSw
        go_simp
        all_goals with_reducible rfl
      try simp only [Act.put, List.setIfInBounds_toArray, List.set_cons_zero, List.set_cons_succ]
      refine wpAnyH_take (i := 1) (oi := Oper.mk _ _ _ _ _ _) (v := ?vp1) rfl (by kernel_rfl) (by kernel_rfl) (by kernel_rfl) (fun _ _ _ h => h) (Or.inl ⟨by rfl, ?hyp1⟩) (by assumption) ?restp1
      case hyp1 =>
        intro w0 hSw
        try dsimp only at hSw
        go_simp
        all_goals with_reducible rfl
      try simp only [Act.put, List.setIfInBounds_toArray, List.set_cons_zero, List.set_cons_succ]
      refine wpAnyH_take (i := 2) (oi := Oper.mk _ _ _ _ _ _) (v := ?vp2) rfl (by kernel_rfl) (by kernel_rfl) (by kernel_rfl) (fun _ _ _ h => h) (Or.inl ⟨by rfl, ?hyp2⟩) (by assumption) ?restp2
      case hyp2 =>
        intro w0 hSw
        try dsimp only at hSw
        go_simp
        all_goals with_reducible rfl
      try simp only [Act.put, List.setIfInBounds_toArray, List.set_cons_zero, List.set_cons_succ]
      refine wpAnyH_take (i := 4) (oi := Oper.mk _ _ _ _ _ _) (v := ?vp4) rfl (by kernel_rfl) (by kernel_rfl) (by kernel_rfl) (fun _ _ _ h => h) (Or.inl ⟨by rfl, ?hyp4⟩) (by assumption) ?restp4
      case hyp4 =>
        intro w0 hSw
        try dsimp only at hSw
        go_simp
        all_goals with_reducible rfl
      try simp only [Act.put, List.setIfInBounds_toArray, List.set_cons_zero, List.set_cons_succ]
      refine wpAnyH_take (i := 5) (oi := Oper.mk _ _ _ _ _ _) (v := ?vp5) rfl (by kernel_rfl) (by kernel_rfl) (by kernel_rfl) (fun _ _ _ h => h) (Or.inl ⟨by rfl, ?hyp5⟩) (by assumption) ?restp5
      case hyp5 =>
        intro w0 hSw
        try dsimp only at hSw
        go_simp
        all_goals with_reducible rfl
      try simp only [Act.put, List.setIfInBounds_toArray, List.set_cons_zero, List.set_cons_succ]
      refine wpAnyH_take (i := 6) (oi := Oper.mk _ _ _ _ _ _) (v := ?vp6) rfl (by kernel_rfl) (by kernel_rfl) (by kernel_rfl) (fun _ _ _ h => h) (Or.inl ⟨by rfl, ?hyp6⟩) (by assumption) ?restp6
      case hyp6 =>
        intro w0 hSw
        try dsimp only at hSw
        go_simp
        all_goals with_reducible rfl
      try simp only [Act.put, List.setIfInBounds_toArray, List.set_cons_zero, List.set_cons_succ]
      refine wpAnyH_ready (rs := [3]) (by kernel_rfl) (by simp) ?_
      refine AllReadyH.cons (o := Oper.mk _ _ _ _ _ _) rfl (fun K hK => ?_) AllReadyH.nil
      go_simp
      refine (CV1.out _).mono ?_
      rintro e W5 ⟨rfl, hb1⟩
      go_simp
      refine hK.out _ _ (by have q := hHeld.2.out.trans (hb1.mono hHeld.2.out.size); exact ⟨⟨(boxed_low Y4 Y4.lt q).cell, (boxed_low Y6 Y6.lt q).cell, (boxed_low Y7 Y7.lt q).cell⟩, Lib.hid q⟩) (fun hHeldp1 => ?_)
      clear hK K hHeld
      try simp only [Act.put, List.setIfInBounds_toArray, List.set_cons_zero, List.set_cons_succ]
      refine wpAnyH_ready (rs := [7]) (by kernel_rfl) (by simp) ?_
      refine AllReadyH.cons (o := Oper.mk _ _ _ _ _ _) rfl (fun K hK => ?_) AllReadyH.nil
      go_simp
      refine (CV2.out _).mono ?_
      rintro e W6 ⟨rfl, hb2⟩
      go_simp
      refine hK.out _ _ (by have q := hHeldp1.2.out.trans (hb2.mono hHeldp1.2.out.size); exact ⟨⟨(boxed_low Y4 Y4.lt q).cell, (boxed_low Y6 Y6.lt q).cell, (boxed_low Y7 Y7.lt q).cell⟩, Lib.hid q⟩) (fun hHeldp2 => ?_)
      clear hK K hHeldp1
      try simp only [Act.put, List.setIfInBounds_toArray, List.set_cons_zero, List.set_cons_succ]
      refine wpAnyH_take (i := 8) (oi := Oper.mk _ _ _ _ _ _) (v := ?vp8) rfl (by kernel_rfl) (by kernel_rfl) (by kernel_rfl) (fun _ _ _ h => h) (Or.inl ⟨by rfl, ?hyp8⟩) (by assumption) ?restp8
      case hyp8 =>
        intro w0 hSw
        try dsimp only at hSw
        go_simp
        all_goals with_reducible rfl
      try simp only [Act.put, List.setIfInBounds_toArray, List.set_cons_zero, List.set_cons_succ]
      refine wpAnyH_done (by kernel_rfl) ?_ _
      have q := hHeldp2.2.out
      have YT2 := boxed_low YT YT.lt q
      have cT := YT2.cell
      have fT := YT2.frozen
      have KO := keeps_of_belowW q
      clear hHeldp2
      gi_wp2
      exact ⟨KO.trans (KeepsOthers.setCell _ _ _), rfl, x, HE.out, NO.out, YT2.set _, (BW.out.trans (q.mono BW.out.size)).setCell (by simp; omega) _⟩
    · have HE := Lib.hid he
      have ne : (Wn.lo g x a == Wn.lo g x b) = false := by simpa using he
      obtain ⟨l1, hl1⟩ : ∃ l1, Wn.lo g x a = l1 := ⟨_, rfl⟩
      obtain ⟨l2, hl2⟩ : ∃ l2, Wn.lo g x b = l2 := ⟨_, rfl⟩
      obtain ⟨h1, hh1⟩ : ∃ h1, Wn.hi g x a = h1 := ⟨_, rfl⟩
      obtain ⟨h2, hh2⟩ : ∃ h2, Wn.hi g x b = h2 := ⟨_, rfl⟩
      rw [hl1, hh1] at CV1
      rw [hl2, hh2] at CV2
      rw [hl1, hl2] at ne
      clear hl1 hl2 hh1 hh2 he
      have hq : ∀ w' : World, Sem.run Try.prog (Op.equalIn 10000 33 (.agg #[.int .i64 l1, .int .i64 h1]) (.agg #[.int .i64 l2, .int .i64 h2])) w' = .ok false w' := fun w' => by
        have := eq_arr2 9998 l1 h1 l2 h2 w'
        rw [ne, Bool.false_and] at this
        exact this
      have hgd : Try.prog.eqGuardType Try.prog.depth 33 = false := by kernel_rfl
      gi_wp2
      refine wpIn_round_held (S := (fun w' => (w'.cell? ⟨w.heap.size, 0, none⟩ = some (.int .i64 g) ∧ w'.cell? ⟨w.heap.size + 1, 0, none⟩ = some (.int .i64 a) ∧ w'.cell? ⟨w.heap.size + 1 + 1, 0, none⟩ = some (.int .i64 b)) ∧ Hid (Below W.heap.size W w'))) (by kernel_rfl) (by kernel_rfl) (fun ⟨_, _, h⟩ => h) (⟨⟨(boxed_low Y4 Y4.lt dr).cell, (boxed_low Y6 Y6.lt dr).cell, (boxed_low Y7 Y7.lt dr).cell⟩, Lib.hid dr⟩) (fun hHeld => ?_)
      refine wpAnyH_take (i := 0) (oi := Oper.mk _ _ _ _ _ _) (v := ?vq0) rfl (by kernel_rfl) (by kernel_rfl) (by kernel_rfl) (fun _ _ _ h => h) (Or.inl ⟨by rfl, ?hyq0⟩) (by assumption) ?restq0
      case hyq0 =>
        intro w0 hSw
        try dsimp only at hSw
        go_simp
        all_goals with_reducible rfl
      try simp only [Act.put, List.setIfInBounds_toArray, List.set_cons_zero, List.set_cons_succ]
      refine wpAnyH_take (i := 1) (oi := Oper.mk _ _ _ _ _ _) (v := ?vq1) rfl (by kernel_rfl) (by kernel_rfl) (by kernel_rfl) (fun _ _ _ h => h) (Or.inl ⟨by rfl, ?hyq1⟩) (by assumption) ?restq1
      case hyq1 =>
        intro w0 hSw
        try dsimp only at hSw
        go_simp
        all_goals with_reducible rfl
      try simp only [Act.put, List.setIfInBounds_toArray, List.set_cons_zero, List.set_cons_succ]
      refine wpAnyH_take (i := 2) (oi := Oper.mk _ _ _ _ _ _) (v := ?vq2) rfl (by kernel_rfl) (by kernel_rfl) (by kernel_rfl) (fun _ _ _ h => h) (Or.inl ⟨by rfl, ?hyq2⟩) (by assumption) ?restq2
      case hyq2 =>
        intro w0 hSw
        try dsimp only at hSw
        go_simp
        all_goals with_reducible rfl
      try simp only [Act.put, List.setIfInBounds_toArray, List.set_cons_zero, List.set_cons_succ]
      refine wpAnyH_take (i := 4) (oi := Oper.mk _ _ _ _ _ _) (v := ?vq4) rfl (by kernel_rfl) (by kernel_rfl) (by kernel_rfl) (fun _ _ _ h => h) (Or.inl ⟨by rfl, ?hyq4⟩) (by assumption) ?restq4
      case hyq4 =>
        intro w0 hSw
        try dsimp only at hSw
        go_simp
        all_goals with_reducible rfl
      try simp only [Act.put, List.setIfInBounds_toArray, List.set_cons_zero, List.set_cons_succ]
      refine wpAnyH_take (i := 5) (oi := Oper.mk _ _ _ _ _ _) (v := ?vq5) rfl (by kernel_rfl) (by kernel_rfl) (by kernel_rfl) (fun _ _ _ h => h) (Or.inl ⟨by rfl, ?hyq5⟩) (by assumption) ?restq5
      case hyq5 =>
        intro w0 hSw
        try dsimp only at hSw
        go_simp
        all_goals with_reducible rfl
      try simp only [Act.put, List.setIfInBounds_toArray, List.set_cons_zero, List.set_cons_succ]
      refine wpAnyH_take (i := 6) (oi := Oper.mk _ _ _ _ _ _) (v := ?vq6) rfl (by kernel_rfl) (by kernel_rfl) (by kernel_rfl) (fun _ _ _ h => h) (Or.inl ⟨by rfl, ?hyq6⟩) (by assumption) ?restq6
      case hyq6 =>
        intro w0 hSw
        try dsimp only at hSw
        go_simp
        all_goals with_reducible rfl
      try simp only [Act.put, List.setIfInBounds_toArray, List.set_cons_zero, List.set_cons_succ]
      refine wpAnyH_ready (rs := [3]) (by kernel_rfl) (by simp) ?_
      refine AllReadyH.cons (o := Oper.mk _ _ _ _ _ _) rfl (fun K hK => ?_) AllReadyH.nil
      go_simp
      refine (CV1.out _).mono ?_
      rintro e W5 ⟨rfl, hb1⟩
      go_simp
      refine hK.out _ _ (by have q := hHeld.2.out.trans (hb1.mono hHeld.2.out.size); exact ⟨⟨(boxed_low Y4 Y4.lt q).cell, (boxed_low Y6 Y6.lt q).cell, (boxed_low Y7 Y7.lt q).cell⟩, Lib.hid q⟩) (fun hHeldq1 => ?_)
      clear hK K hHeld
      try simp only [Act.put, List.setIfInBounds_toArray, List.set_cons_zero, List.set_cons_succ]
      refine wpAnyH_ready (rs := [7]) (by kernel_rfl) (by simp) ?_
      refine AllReadyH.cons (o := Oper.mk _ _ _ _ _ _) rfl (fun K hK => ?_) AllReadyH.nil
      go_simp
      refine (CV2.out _).mono ?_
      rintro e W6 ⟨rfl, hb2⟩
      go_simp
      refine hK.out _ _ (by have q := hHeldq1.2.out.trans (hb2.mono hHeldq1.2.out.size); exact ⟨⟨(boxed_low Y4 Y4.lt q).cell, (boxed_low Y6 Y6.lt q).cell, (boxed_low Y7 Y7.lt q).cell⟩, Lib.hid q⟩) (fun hHeldq2 => ?_)
      clear hK K hHeldq1
      try simp only [Act.put, List.setIfInBounds_toArray, List.set_cons_zero, List.set_cons_succ]
      refine wpAnyH_take (i := 8) (oi := Oper.mk _ _ _ _ _ _) (v := ?vq8) rfl (by kernel_rfl) (by kernel_rfl) (by kernel_rfl) (fun _ _ _ h => h) (Or.inl ⟨by rfl, ?hyq8⟩) (by assumption) ?restq8
      case hyq8 =>
        intro w0 hSw
        try dsimp only at hSw
        go_simp
        all_goals with_reducible rfl
      try simp only [Act.put, List.setIfInBounds_toArray, List.set_cons_zero, List.set_cons_succ]
      refine wpAnyH_done (by kernel_rfl) ?_ _
      have q := hHeldq2.2.out
      have KO := keeps_of_belowW q
      clear hHeldq2
      gi_wp2
      exact ⟨KO, Kept.of_below q (fun k hk => hk.elim), boxed_low Y4 Y4.lt q, boxed_low Y6 Y6.lt q, boxed_low Y7 Y7.lt q, boxed_low YT YT.lt q, BW.out.trans (q.mono BW.out.size), by
        intro k hk
        rcases List.mem_append.1 hk with hk | hk
        · rw [HPX.out] at hk; exact NO.out k (List.mem_range.1 hk)
        · rw [List.mem_singleton.1 hk]; exact HE.out⟩
  case done =>
    rintro D W hD hI hKD
    exact absurd TOP.out (hI.no H (List.mem_range.2 (by omega)))
  case stop =>
    rintro D c pre W hD hSp ⟨rfl, x, h1, h2, hbx, hbel⟩ hKD
    obtain ⟨v1, v2⟩ := IS.out x h1 h2
    have hKD2 := Lib.hid hKD
    have d0 := hbx.cell
    have HBL := Lib.hid hbel
    have V := Lib.hid (And.intro v1 v2)
    have hD0 : w.heap.size ≤ D := Nat.le_trans B4.out.size hD
    clear h1 h2 v1 v2 hKD hbel hbx
    go_wp2
    refine leaves_one hKD2.out ?_
    refine ⟨_, results_tmp2 rfl _ _ _, ?_, ?_⟩
    · rw [V.out.1, V.out.2]; rfl
    · exact HBL.out.trans ((Below.refl w.heap.size W).grown (grownBy_putObj' W D _) (by have := HBL.out.size; omega) (fun k e => by cases e; omega))

set_option maxRecDepth 100000 in
set_option maxHeartbeats 2000000 in
theorem vMeet (g s a b : Int) (w : World) (hg : g ≤ 9223372036854775807) (hs : -9223372036854775808 ≤ s ∧ s ≤ 9223372036854775807) :
    Calls Try.prog 12 #[.int .i64 g, .int .i64 s, .int .i64 a, .int .i64 b] w fun e w' => e = .returned (.tuple #[.int .i64 (Wn.meetV g s a b), .int .i64 (Wn.meetE g s a b)]) ∧ Below w.heap.size w w' := by
  cases hk : Wn.meetB g s a b
  · have CH := Lib.hid (fun W => vHigh g s W hg hs)
    have E := Lib.hid (Wn.meet_no hk)
    rw [E.out.1, E.out.2]
    obtain ⟨w0, hw0⟩ : ∃ w0, w0 = ((w.alloc (.cells #[.int .i64 g] 3)).alloc (.cells #[.int .i64 a] 3)).alloc (.cells #[.int .i64 b] 3) := ⟨_, rfl⟩
    have X4 := Lib.hid (show Boxed w0 w.heap.size 3 (.int .i64 g) by rw [hw0]; exact ((Boxed.new w _ _).alloc _).alloc _)
    have X6 := Lib.hid (show Boxed w0 (w.heap.size + 1) 3 (.int .i64 a) by rw [hw0]; have := (Boxed.new (w.alloc (.cells #[.int .i64 g] 3)) 3 (.int .i64 a)).alloc (.cells #[.int .i64 b] 3); rwa [World.size_alloc] at this)
    have X7 := Lib.hid (show Boxed w0 (w.heap.size + 1 + 1) 3 (.int .i64 b) by rw [hw0]; have := Boxed.new ((w.alloc (.cells #[.int .i64 g] 3)).alloc (.cells #[.int .i64 a] 3)) 3 (.int .i64 b); rwa [World.size_alloc, World.size_alloc] at this)
    have B0 := Lib.hid (show Below w.heap.size w w0 by rw [hw0]; exact (((Below.refl _ _).alloc (Nat.le_refl _) _).alloc (by simp) _).alloc (by simp; omega) _)
    have z0 := Lib.hid (show w0.heap.size = w.heap.size + 3 by rw [hw0]; simp)
    cases hf : Sl.fitsB g s
    · rw [(Wn.high_no hf).1, (Wn.high_no hf).2] at CH
      clear hf hk
      refine calls_marks Try.func12 rfl ?_
      simp only [Try.ntmps12, List.size_toArray, List.length_cons, List.length_nil, Nat.reduceAdd, Nat.reduceSub, Array.replicate_succ, Array.replicate_zero, List.push_toArray, List.append_toArray, List.nil_append, List.cons_append]
      go_wp2_with fail
      rw [← hw0]
      clear hw0
      have c4 := X4.out.cell
      have c6 := X6.out.cell
      have c7 := X7.out.cell
      go_step3
      go_wp2_with fail
      refine (CH.out _).mono ?_
      rintro e w1 ⟨rfl, rfl⟩
      go_wp2
      exact ⟨_, results_tmp2 rfl _ _ _, rfl, B0.out⟩
    · rw [(Wn.high_yes hf).1, (Wn.high_yes hf).2] at CH
      obtain ⟨H, f⟩ := Wn.fit_of hf
      rw [f.hH] at CH
      have s1 := f.s1
      have sg := f.seg
      have g1 := f.g1
      have hA := hk
      rw [Wn.meet_are hf] at hA
      have CA := Lib.hid (fun W => vAre s (some ⟨W.heap.size, 0, none⟩) 2 [a, b] (W.alloc (.cells #[.int .i64 a, .int .i64 b] 3)) (lst_two a b W _) (by simp) (by omega) (by omega))
      rw [hA] at CA
      clear hA hf hk f
      refine calls_marks Try.func12 rfl ?_
      simp only [Try.ntmps12, List.size_toArray, List.length_cons, List.length_nil, Nat.reduceAdd, Nat.reduceSub, Array.replicate_succ, Array.replicate_zero, List.push_toArray, List.append_toArray, List.nil_append, List.cons_append]
      go_wp2_with fail
      rw [← hw0]
      clear hw0
      have c4 := X4.out.cell
      have c6 := X6.out.cell
      have c7 := X7.out.cell
      go_step3
      go_wp2_with fail
      refine (CH.out _).mono ?_
      rintro e w1 ⟨rfl, rfl⟩
      go_wp2_with fail
      refine (CA.out _).mono ?_
      rintro e w1 ⟨rfl, rfl⟩
      go_wp2
      exact ⟨_, results_tmp2 rfl _ _ _, rfl, B0.out.alloc (by have := z0.out; omega) _⟩
  · exact vMeet_ok g s a b w hg hs hk
end Go.Proofs.Ythnpmbbhbaaloaa

/- What package lay's among returns: pairs with one more among them, in new memory. And a scope that is jumped out of forward; an array that was answered, copied into the box of what is answered. -/
import Derived.Test.YtmmkaabefofdeaaDoorAns084
import Derived.Test.YtmmkaabefofdeaaDoorM08
import Derived.ArgAppend
import Derived.ScopeJumps
namespace Go.Proofs.YtmmkaabefofdeaaDoor
open Go.RowKit
set_option linter.unusedVariables false
set_option linter.unusedSimpArgs false

/-- A scope out of which a run jumps forward to one label, once at most: what is behind the label is walked where the jump is. -/
theorem wp_scope_on {P : Program} {a : Act} {w : World} {Q : Exit → Act → World → Prop} {c rest : Code} (l : Nat) (hf : findLabel c l = some rest)
    (first : c.wp P (Exit.jump l (fun a w => rest.wp P (Exit.jump l (fun _ _ => False) Q) a w) Q) a w) : (Code.scope c).wp P Q a w :=
  wp_scope_jumps l (fun a w => rest.wp P (Exit.jump l (fun _ _ => False) Q) a w) (fun _ _ => 0) hf first (fun a w h => Go.wp_mono h (fun e a w hq => by
    cases e <;> first | exact hq | exact hq.2.elim))

/-- An array that a callee answered, copied into the box of what is answered. -/
theorem ans_put6 {w W : World} {B r : Nat} {s : Sl} {a : Ads} (own : Own W B s a) (below : Below w.heap.size w W) (hr : r < B) (hw : w.heap.size ≤ r) (u0 u1 u2 u3 u4 u5 : Value) :
    Own (put6 W r u0 u1 u2 u3 u4 u5) w.heap.size s a ∧ Below w.heap.size w (put6 W r u0 u1 u2 u3 u4 u5) := by
  have hb : w.heap.size ≤ B := by omega
  exact ⟨⟨(own.words.put6 hr _ _ _ _ _ _).lower hb, (own.keys.put6 hr _ _ _ _ _ _).lower hb, (own.vals.put6 hr _ _ _ _ _ _).lower hb, (own.counts.put6 hr _ _ _ _ _ _).lower hb, own.caps⟩, below_put6 below hw _ _ _ _ _ _⟩

/-- 'append(v, x)' of one element, which the walk has laid in a block of its own, onto a slice that has no room: one step of a region. -/
theorem step_growN {P : Program} {T E : TypeId} {z : Value} {size bytes : Nat} (hE : Elem P T E z size bytes) {w : World} {ops : Array Oper} {o : Oper} {act : Act} {K : Act → World → Prop} {Q : Exit → Act → World → Prop} {F : Prop} (hgd : o.guard = none) (s x : Operand)
    (ho : o.op = .call { callee := .builtin .append, args := #[s, x], argTypes := #[T, T] })
    (W : World) (t : TypeId) (us : List Value) (hW : w = W.alloc (.cells us.toArray t)) (hus : us.length = size) (b off n : Nat) (olds : List Value) (hs : act.eval s = .slice (some ⟨b, off, none⟩) n n) (hx : act.eval x = .slice (some ⟨W.heap.size, 0, none⟩) 1 1)
    (hl : Cells W (some ⟨b, off, none⟩) olds) (hlo : olds.length = n * size) (h1 : ∀ u ∈ us, u.oneCell' = true) (h63 : n + 1 ≤ maxLen) (hby : (n + 1) * bytes ≤ 140737488355328)
    (h : ∀ v' w', w'.ownsRow W.heap.size E size v' (n + 1) (olds ++ us) → Below W.heap.size W w' → K (act.put o.dst v') w') : if Region.wanted o (yielded ops act.tmps) = true then Oper.wp P o act w K Q else F := by
  have hw : Region.wanted o (yielded ops act.tmps) = true := by simp [Region.wanted, hgd]
  rw [if_pos hw]
  subst hW
  obtain ⟨i0, hi0, hz0, hz1, hz2⟩ := hE.info
  have hwords : ∀ j u, us[j]? = some u → (W.alloc (.cells us.toArray t)).cell? ((⟨W.heap.size, 0, none⟩ : Addr).add j) = some u := by
    intro j y hj
    have hjl : j < us.length := (List.getElem?_eq_some_iff.1 hj).1
    have hh : (W.alloc (.cells us.toArray t)).heap[W.heap.size]? = some (.cells us.toArray t) := by show (W.heap.push _)[W.heap.size]? = _; exact Array.getElem?_push_size
    rw [add_at, Nat.zero_add]
    simp only [World.cell?, hh]
    simpa using hj
  obtain ⟨v', w', hrun, r1, r2⟩ := run_append_arg_grows (P := P) (W.alloc (.cells us.toArray t)) T o.type E i0 z size bytes hE.und hi0 hz0 hz1 hz2 hE.zero hE.pos ⟨b, off, none⟩ n n olds hlo (fun j u hj => hl.news j u hj _) ⟨W.heap.size, 0, none⟩ 1 1 us (by rw [hus, Nat.one_mul]) hwords (by omega) h63 hby
  unfold Oper.wp
  simp [execOp, ho, resolve, invoke, builtin, hs, hx, hrun, Result.andThen]
  exact h _ _ (own_lower r1 (by simp)) (((Below.refl _ _).alloc (Nat.le_refl _) _).grown r2 (by simp) (fun k e => by cases e))

set_option maxRecDepth 100000 in
set_option maxHeartbeats 4000000 in
theorem yAmong (b off c : Nat) (ps : List (Int × Int)) (k : Nat) (p : Int × Int) (w : World) (hp : PLst w (some ⟨b, off, none⟩) ps) (hk : k ≤ ps.length) (hn : ps.length ≤ 65536) (hc : ps.length ≤ c) :
    Calls Tryd.prog 28 #[.slice (some ⟨b, off, none⟩) ps.length c, .int .i64 (k : Int), pv p] w fun e w' => ∃ v, e = .returned v ∧ w'.ownsRow w.heap.size 33 2 v (Ly.among ps k p).length (pcells (Ly.among ps k p)) ∧ Below w.heap.size w w' := by
  have HP := Lib.hid hp
  have LA := Lib.hid (Ly.among_length ps k p)
  have hk2 : (k : Int) ≤ (ps.length : Int) := by omega
  have PX := Lib.hid (PBox.new w p 33)
  have B0 := Lib.hid ((Below.refl w.heap.size w).alloc (Nat.le_refl _) (.cells #[.int .i64 p.1, .int .i64 p.2] 33))
  obtain ⟨n, hnn⟩ : ∃ n, n = ps.length := ⟨_, rfl⟩
  have HN := Lib.hid hnn
  rw [← hnn] at hk hn hc hk2 ⊢
  clear hp hnn
  have hkc : k ≤ c := by omega
  unfold pv
  go_enter Tryd.func28, Tryd.ntmps28
  go_upto_region 1 with (fail)
  obtain ⟨W0, hW0⟩ : ∃ W0, W0 = w.alloc (.cells #[.int .i64 p.1, .int .i64 p.2] 33) := ⟨_, rfl⟩
  rw [← hW0] at PX B0 ⊢
  clear hW0
  have P0 := Lib.hid (HP.out.below B0.out)
  have z0 := B0.out.size
  obtain ⟨p1, p2⟩ := p
  refine wp_region_held_drew (S := (fun w' => w'.cell? ⟨w.heap.size, 0, none⟩ = some (.int .i64 p1) ∧ w'.cell? ⟨w.heap.size, 1, none⟩ = some (.int .i64 p2))) (by kernel_rfl) (⟨(PX.out.below ((Below.refl _ _).drew)).c0, (PX.out.below ((Below.refl _ _).drew)).c1⟩) (fun hHeld => ?_)
  refine wpAnyH_take (i := 0) (oi := Oper.mk _ _ _ _ _ _) (v := ?va0) rfl (by kernel_rfl) (by kernel_rfl) (by kernel_rfl) (fun _ _ _ h => h) (Or.inl ⟨by rfl, ?hya0⟩) (by assumption) ?resta0
  case hya0 =>
    intro w0 hSw
    try dsimp only at hSw
    go_simp
    all_goals with_reducible rfl
  try simp only [Act.put, List.setIfInBounds_toArray, List.set_cons_zero, List.set_cons_succ]
  refine wpAnyH_take (i := 1) (oi := Oper.mk _ _ _ _ _ _) (v := ?va1) rfl (by kernel_rfl) (by kernel_rfl) (by kernel_rfl) (fun _ _ _ h => h) (Or.inl ⟨by rfl, ?hya1⟩) (by assumption) ?resta1
  case hya1 =>
    intro w0 hSw
    try dsimp only at hSw
    go_simp
    all_goals with_reducible rfl
  try simp only [Act.put, List.setIfInBounds_toArray, List.set_cons_zero, List.set_cons_succ]
  refine wpAnyH_take (i := 2) (oi := Oper.mk _ _ _ _ _ _) (v := ?va2) rfl (by kernel_rfl) (by kernel_rfl) (by kernel_rfl) (fun _ _ _ h => h) (Or.inl ⟨by rfl, ?hya2⟩) (by assumption) ?resta2
  case hya2 =>
    intro w0 hSw
    try dsimp only at hSw
    go_simp
    all_goals with_reducible rfl
  try simp only [Act.put, List.setIfInBounds_toArray, List.set_cons_zero, List.set_cons_succ]
  refine wpAnyH_take (i := 3) (oi := Oper.mk _ _ _ _ _ _) (v := ?va3) rfl (by kernel_rfl) (by kernel_rfl) (by kernel_rfl) (fun _ _ _ h => h) (Or.inl ⟨by rfl, ?hya3⟩) (by assumption) ?resta3
  case hya3 =>
    intro w0 hSw
    try dsimp only at hSw
    go_simp
    all_goals with_reducible rfl
  try simp only [Act.put, List.setIfInBounds_toArray, List.set_cons_zero, List.set_cons_succ]
  refine wpAnyH_take (i := 4) (oi := Oper.mk _ _ _ _ _ _) (v := ?va4) rfl (by kernel_rfl) (by kernel_rfl) (by kernel_rfl) (fun _ _ _ h => h) (Or.inl ⟨by rfl, ?hya4⟩) (by assumption) ?resta4
  case hya4 =>
    intro w0 hSw
    try dsimp only at hSw
    go_simp
    all_goals with_reducible rfl
  try simp only [Act.put, List.setIfInBounds_toArray, List.set_cons_zero, List.set_cons_succ]
  refine wpAnyH_take (i := 7) (oi := Oper.mk _ _ _ _ _ _) (v := ?va7) rfl (by kernel_rfl) (by kernel_rfl) (by kernel_rfl) (fun _ _ _ h => h) (Or.inl ⟨by rfl, ?hya7⟩) (by assumption) ?resta7
  case hya7 =>
    intro w0 hSw
    try dsimp only at hSw
    go_simp
    all_goals with_reducible rfl
  try simp only [Act.put, List.setIfInBounds_toArray, List.set_cons_zero, List.set_cons_succ]
  refine wpAnyH_take (i := 8) (oi := Oper.mk _ _ _ _ _ _) (v := ?va8) rfl (by kernel_rfl) (by kernel_rfl) (by kernel_rfl) (fun _ _ _ h => h) (Or.inl ⟨by rfl, ?hya8⟩) (by assumption) ?resta8
  case hya8 =>
    intro w0 hSw
    try dsimp only at hSw
    go_simp
    all_goals with_reducible rfl
  try simp only [Act.put, List.setIfInBounds_toArray, List.set_cons_zero, List.set_cons_succ]
  refine wpAnyH_take (i := 9) (oi := Oper.mk _ _ _ _ _ _) (v := ?va9) rfl (by kernel_rfl) (by kernel_rfl) (by kernel_rfl) (fun _ _ _ h => h) (Or.inl ⟨by rfl, ?hya9⟩) (by assumption) ?resta9
  case hya9 =>
    intro w0 hSw
    try dsimp only at hSw
    go_simp
    all_goals with_reducible rfl
  try simp only [Act.put, List.setIfInBounds_toArray, List.set_cons_zero, List.set_cons_succ]
  refine wpAnyH_ready (rs := [5]) (by kernel_rfl) (by simp) ?_
  refine AllReadyH.cons (o := Oper.mk _ _ _ _ _ _) rfl (fun K hK => ?_) AllReadyH.nil
  go_simp
  have BB5 := (Below.refl W0.heap.size W0).drew
  have P5 := Lib.hid (P0.out.below BB5)
  have z5 := BB5.size
  have BA := fun o => BB5.alloc z5 o
  refine hK.out _ _ (⟨(PX.out.below (BA _)).c0, (PX.out.below (BA _)).c1⟩) (fun hHelda1 => ?_)
  clear hK K hHeld
  try simp only [Act.put, List.setIfInBounds_toArray, List.set_cons_zero, List.set_cons_succ]
  refine wpAnyH_ready (rs := [6]) (by kernel_rfl) (by simp) ?_
  refine AllReadyH.cons (o := Oper.mk _ _ _ _ _ _) rfl (fun K hK => ?_) AllReadyH.nil
  refine step_growN elemP rfl (.tmp 10) (.tmp 12) rfl W0.drew 33 [.int .i64 p1, .int .i64 p2] rfl rfl b off k (pcells (ps.take k)) rfl rfl (plst_take P5.out k) (by rw [pcells_length, List.length_take, ← HN.out]; omega) (by intro u hu; simp at hu; rcases hu with rfl | rfl <;> rfl) (by unfold maxLen; omega) (by omega) ?_
  intro v6 w6 hown6 hb6
  have HO6 := Lib.hid hown6
  have HB6 := Lib.hid (BB5.trans (hb6.mono z5))
  have P6 := Lib.hid (P0.out.below HB6.out)
  clear hown6 hb6
  refine hK.out _ _ (⟨(PX.out.below HB6.out).c0, (PX.out.below HB6.out).c1⟩) (fun hHelda2 => ?_)
  clear hK K hHelda1
  try simp only [Act.put, List.setIfInBounds_toArray, List.set_cons_zero, List.set_cons_succ]
  refine wpAnyH_ready (rs := [10]) (by kernel_rfl) (by simp) ?_
  refine AllReadyH.cons (o := Oper.mk _ _ _ _ _ _) rfl (fun K hK => ?_) AllReadyH.nil
  have z6 := HB6.out.size
  have HD := Lib.hid (show Cells w6 (if c = k then some ⟨b, off, none⟩ else some ⟨b, off + k * 2, none⟩) (pcells (ps.drop k)) by
    split
    · rw [List.drop_of_length_le (by rw [← HN.out]; omega)]
      exact Or.inl rfl
    · exact plst_drop P6.out k)
  refine step_joinN elemP rfl (.tmp 13) (.tmp 16) rfl W0.heap.size (k + 1) _ _ rfl (own_lower HO6.out z5) (if c = k then some ⟨b, off, none⟩ else some ⟨b, off + k * 2, none⟩) (n - k) (c - k) (pcells (ps.drop k)) rfl HD.out (by rw [pcells_length, List.length_drop, ← HN.out]) (pcells_one _) (fun h => by split at h <;> cases h) z6 (by unfold maxLen; omega) (by omega) ?_
  intro v7 w7 hown7 hb7
  have HO7 := Lib.hid (own_lower hown7 z0)
  have HB7 := Lib.hid (B0.out.trans ((HB6.out.trans hb7).mono z0))
  have HK7 := Lib.hid (HB6.out.trans hb7)
  clear hown7 hb7
  refine hK.out _ _ (⟨(PX.out.below HK7.out).c0, (PX.out.below HK7.out).c1⟩) (fun hHelda3 => ?_)
  clear hK K hHelda2
  try simp only [Act.put, List.setIfInBounds_toArray, List.set_cons_zero, List.set_cons_succ]
  refine wpAnyH_take (i := 11) (oi := Oper.mk _ _ _ _ _ _) (v := ?va11) rfl (by kernel_rfl) (by kernel_rfl) (by kernel_rfl) (fun _ _ _ h => h) (Or.inl ⟨by rfl, ?hya11⟩) (by assumption) ?resta11
  case hya11 =>
    intro w0 hSw
    try dsimp only at hSw
    go_simp
    all_goals with_reducible rfl
  try simp only [Act.put, List.setIfInBounds_toArray, List.set_cons_zero, List.set_cons_succ]
  refine wpAnyH_done (by kernel_rfl) ?_ _
  go_wp2
  all_goals
    go_ret
    refine ⟨_, rfl, ?_, HB7.out⟩
    have e1 : (Ly.among ps k (p1, p2)).length = k + 1 + (n - k) := by rw [LA.out, ← HN.out]; omega
    have e2 : pcells (Ly.among ps k (p1, p2)) = pcells (ps.take k) ++ [.int .i64 p1, .int .i64 p2] ++ pcells (ps.drop k) := by
      unfold Ly.among
      rw [pcells_append]
      simp [pcells]
    rw [e1, e2]
    exact HO7.out

set_option maxRecDepth 100000 in
set_option maxHeartbeats 2000000 in
theorem yAmongNil (p : Int × Int) (w : World) :
    Calls Tryd.prog 28 #[.slice none 0 0, .int .i64 0, pv p] w fun e w' => ∃ v, e = .returned v ∧ w'.ownsRow w.heap.size 33 2 v (Ly.among [] 0 p).length (pcells (Ly.among [] 0 p)) ∧ Below w.heap.size w w' := by
  have PX := Lib.hid (PBox.new w p 33)
  have B0 := Lib.hid ((Below.refl w.heap.size w).alloc (Nat.le_refl _) (.cells #[.int .i64 p.1, .int .i64 p.2] 33))
  unfold pv
  go_enter Tryd.func28, Tryd.ntmps28
  go_upto_region 1 with (fail)
  obtain ⟨W0, hW0⟩ : ∃ W0, W0 = w.alloc (.cells #[.int .i64 p.1, .int .i64 p.2] 33) := ⟨_, rfl⟩
  rw [← hW0] at PX B0 ⊢
  clear hW0
  have z0 := B0.out.size
  obtain ⟨p1, p2⟩ := p
  refine wp_region_held_drew (S := (fun w' => w'.cell? ⟨w.heap.size, 0, none⟩ = some (.int .i64 p1) ∧ w'.cell? ⟨w.heap.size, 1, none⟩ = some (.int .i64 p2))) (by kernel_rfl) (⟨(PX.out.below ((Below.refl _ _).drew)).c0, (PX.out.below ((Below.refl _ _).drew)).c1⟩) (fun hHeld => ?_)
  refine wpAnyH_take (i := 0) (oi := Oper.mk _ _ _ _ _ _) (v := ?vb0) rfl (by kernel_rfl) (by kernel_rfl) (by kernel_rfl) (fun _ _ _ h => h) (Or.inl ⟨by rfl, ?hyb0⟩) (by assumption) ?restb0
  case hyb0 =>
    intro w0 hSw
    try dsimp only at hSw
    go_simp
    all_goals with_reducible rfl
  try simp only [Act.put, List.setIfInBounds_toArray, List.set_cons_zero, List.set_cons_succ]
  refine wpAnyH_take (i := 1) (oi := Oper.mk _ _ _ _ _ _) (v := ?vb1) rfl (by kernel_rfl) (by kernel_rfl) (by kernel_rfl) (fun _ _ _ h => h) (Or.inl ⟨by rfl, ?hyb1⟩) (by assumption) ?restb1
  case hyb1 =>
    intro w0 hSw
    try dsimp only at hSw
    go_simp
    all_goals with_reducible rfl
  try simp only [Act.put, List.setIfInBounds_toArray, List.set_cons_zero, List.set_cons_succ]
  refine wpAnyH_take (i := 2) (oi := Oper.mk _ _ _ _ _ _) (v := ?vb2) rfl (by kernel_rfl) (by kernel_rfl) (by kernel_rfl) (fun _ _ _ h => h) (Or.inl ⟨by rfl, ?hyb2⟩) (by assumption) ?restb2
  case hyb2 =>
    intro w0 hSw
    try dsimp only at hSw
    go_simp
    all_goals with_reducible rfl
  try simp only [Act.put, List.setIfInBounds_toArray, List.set_cons_zero, List.set_cons_succ]
  refine wpAnyH_take (i := 3) (oi := Oper.mk _ _ _ _ _ _) (v := ?vb3) rfl (by kernel_rfl) (by kernel_rfl) (by kernel_rfl) (fun _ _ _ h => h) (Or.inl ⟨by rfl, ?hyb3⟩) (by assumption) ?restb3
  case hyb3 =>
    intro w0 hSw
    try dsimp only at hSw
    go_simp
    all_goals with_reducible rfl
  try simp only [Act.put, List.setIfInBounds_toArray, List.set_cons_zero, List.set_cons_succ]
  refine wpAnyH_take (i := 4) (oi := Oper.mk _ _ _ _ _ _) (v := ?vb4) rfl (by kernel_rfl) (by kernel_rfl) (by kernel_rfl) (fun _ _ _ h => h) (Or.inl ⟨by rfl, ?hyb4⟩) (by assumption) ?restb4
  case hyb4 =>
    intro w0 hSw
    try dsimp only at hSw
    go_simp
    all_goals with_reducible rfl
  try simp only [Act.put, List.setIfInBounds_toArray, List.set_cons_zero, List.set_cons_succ]
  refine wpAnyH_take (i := 7) (oi := Oper.mk _ _ _ _ _ _) (v := ?vb7) rfl (by kernel_rfl) (by kernel_rfl) (by kernel_rfl) (fun _ _ _ h => h) (Or.inl ⟨by rfl, ?hyb7⟩) (by assumption) ?restb7
  case hyb7 =>
    intro w0 hSw
    try dsimp only at hSw
    go_simp
    all_goals with_reducible rfl
  try simp only [Act.put, List.setIfInBounds_toArray, List.set_cons_zero, List.set_cons_succ]
  refine wpAnyH_take (i := 8) (oi := Oper.mk _ _ _ _ _ _) (v := ?vb8) rfl (by kernel_rfl) (by kernel_rfl) (by kernel_rfl) (fun _ _ _ h => h) (Or.inl ⟨by rfl, ?hyb8⟩) (by assumption) ?restb8
  case hyb8 =>
    intro w0 hSw
    try dsimp only at hSw
    go_simp
    all_goals with_reducible rfl
  try simp only [Act.put, List.setIfInBounds_toArray, List.set_cons_zero, List.set_cons_succ]
  refine wpAnyH_take (i := 9) (oi := Oper.mk _ _ _ _ _ _) (v := ?vb9) rfl (by kernel_rfl) (by kernel_rfl) (by kernel_rfl) (fun _ _ _ h => h) (Or.inl ⟨by rfl, ?hyb9⟩) (by assumption) ?restb9
  case hyb9 =>
    intro w0 hSw
    try dsimp only at hSw
    go_simp
    all_goals with_reducible rfl
  try simp only [Act.put, List.setIfInBounds_toArray, List.set_cons_zero, List.set_cons_succ]
  refine wpAnyH_ready (rs := [5]) (by kernel_rfl) (by simp) ?_
  refine AllReadyH.cons (o := Oper.mk _ _ _ _ _ _) rfl (fun K hK => ?_) AllReadyH.nil
  go_simp
  have BB5 := (Below.refl W0.heap.size W0).drew
  skip
  have z5 := BB5.size
  have BA := fun o => BB5.alloc z5 o
  refine hK.out _ _ (⟨(PX.out.below (BA _)).c0, (PX.out.below (BA _)).c1⟩) (fun hHeldb1 => ?_)
  clear hK K hHeld
  try simp only [Act.put, List.setIfInBounds_toArray, List.set_cons_zero, List.set_cons_succ]
  refine wpAnyH_ready (rs := [6]) (by kernel_rfl) (by simp) ?_
  refine AllReadyH.cons (o := Oper.mk _ _ _ _ _ _) rfl (fun K hK => ?_) AllReadyH.nil
  refine step_moreN elemP rfl (.tmp 10) (.tmp 12) rfl W0.drew 33 [.int .i64 p1, .int .i64 p2] rfl rfl W0.heap.size 0 (.slice none 0 0) [] rfl rfl (World.ownsRow_nil _ _ _ _) (by intro u hu; simp at hu; rcases hu with rfl | rfl <;> rfl) z5 (by unfold maxLen; omega) (by omega) ?_
  intro v6 w6 hown6 hb6
  have HO6 := Lib.hid hown6
  have HB6 := Lib.hid (BB5.trans hb6)
  clear hown6 hb6
  refine hK.out _ _ (⟨(PX.out.below HB6.out).c0, (PX.out.below HB6.out).c1⟩) (fun hHeldb2 => ?_)
  clear hK K hHeldb1
  try simp only [Act.put, List.setIfInBounds_toArray, List.set_cons_zero, List.set_cons_succ]
  refine wpAnyH_ready (rs := [10]) (by kernel_rfl) (by simp) ?_
  refine AllReadyH.cons (o := Oper.mk _ _ _ _ _ _) rfl (fun K hK => ?_) AllReadyH.nil
  have z6 := HB6.out.size
  refine step_joinN elemP rfl (.tmp 13) (.tmp 16) rfl W0.heap.size 1 _ _ rfl HO6.out none 0 0 [] rfl (Or.inl rfl) rfl (fun u hu => by cases hu) (fun _ => ⟨rfl, rfl⟩) z6 (by unfold maxLen; omega) (by omega) ?_
  intro v7 w7 hown7 hb7
  have HO7 := Lib.hid (own_lower hown7 z0)
  have HK7 := Lib.hid (HB6.out.trans hb7)
  have HB7 := Lib.hid (B0.out.trans (HK7.out.mono z0))
  clear hown7 hb7
  refine hK.out _ _ (⟨(PX.out.below HK7.out).c0, (PX.out.below HK7.out).c1⟩) (fun hHeldb3 => ?_)
  clear hK K hHeldb2
  try simp only [Act.put, List.setIfInBounds_toArray, List.set_cons_zero, List.set_cons_succ]
  refine wpAnyH_take (i := 11) (oi := Oper.mk _ _ _ _ _ _) (v := ?vb11) rfl (by kernel_rfl) (by kernel_rfl) (by kernel_rfl) (fun _ _ _ h => h) (Or.inl ⟨by rfl, ?hyb11⟩) (by assumption) ?restb11
  case hyb11 =>
    intro w0 hSw
    try dsimp only at hSw
    go_simp
    all_goals with_reducible rfl
  try simp only [Act.put, List.setIfInBounds_toArray, List.set_cons_zero, List.set_cons_succ]
  refine wpAnyH_done (by kernel_rfl) ?_ _
  go_wp2
  go_ret
  refine ⟨_, rfl, ?_, HB7.out⟩
  exact HO7.out
end Go.Proofs.YtmmkaabefofdeaaDoor

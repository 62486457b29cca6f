/- What the document's own answer Among of layer 8 (package shelfmarkref08) returns: pairs with one more among them, in new memory. -/
import Derived.Test.YtmmkaabefofdeaaDoorRefB084
namespace Go.Proofs.YtmmkaabefofdeaaDoor
open Go.RowKit
set_option linter.unusedVariables false
set_option linter.unusedSimpArgs false

theorem pcells_take (ps : List (Int × Int)) (k : Nat) : pcells (ps.take k) = (pcells ps).take (k * 2) := by
  induction ps generalizing k with
  | nil => simp [pcells]
  | cons p r ih =>
    cases k with
    | zero => simp [pcells]
    | succ k =>
      have e : pcells (p :: r) = Value.int .i64 p.1 :: Value.int .i64 p.2 :: pcells r := rfl
      have e2 : pcells ((p :: r).take (k + 1)) = Value.int .i64 p.1 :: Value.int .i64 p.2 :: pcells (r.take k) := rfl
      rw [e2, ih, e, show (k + 1) * 2 = k * 2 + 1 + 1 from by omega, List.take_succ_cons, List.take_succ_cons]
theorem pcells_drop (ps : List (Int × Int)) (k : Nat) : pcells (ps.drop k) = (pcells ps).drop (k * 2) := by
  induction ps generalizing k with
  | nil => simp [pcells]
  | cons p r ih =>
    cases k with
    | zero => simp
    | succ k =>
      have e : pcells (p :: r) = Value.int .i64 p.1 :: Value.int .i64 p.2 :: pcells r := rfl
      rw [List.drop_succ_cons, ih, e, show (k + 1) * 2 = k * 2 + 1 + 1 from by omega, List.drop_succ_cons, List.drop_succ_cons]
theorem cells_take {w : World} {a : Option Addr} {xs : List Value} (h : Cells w a xs) (k : Nat) : Cells w a (xs.take k) := by
  rcases h with rfl | ⟨b, off, h1, h2, h3⟩
  · exact Or.inl (by simp)
  · exact Or.inr ⟨b, off, h1, h2, fun i hi => by
      rw [List.length_take] at hi
      rw [h3 i (by omega), List.getElem?_take, if_pos (by omega)]⟩
theorem cells_drop {w : World} {b off : Nat} {xs : List Value} (h : Cells w (some ⟨b, off, none⟩) xs) (k : Nat) : Cells w (some ⟨b, off + k, none⟩) (xs.drop k) := by
  rcases h with rfl | ⟨b2, off2, h1, h2, h3⟩
  · exact Or.inl (by simp)
  · injection h1 with h1
    injection h1 with e1 e2
    subst e1 e2
    exact Or.inr ⟨b, off + k, rfl, h2, fun i hi => by
      rw [List.length_drop] at hi
      rw [show off + k + i = off + (k + i) from by omega, h3 (k + i) (by omega), List.getElem?_drop]⟩
theorem plst_take {w : World} {a : Option Addr} {ps : List (Int × Int)} (h : PLst w a ps) (k : Nat) : PLst w a (ps.take k) := by
  unfold PLst
  rw [pcells_take]
  exact cells_take h _
theorem plst_drop {w : World} {b off : Nat} {ps : List (Int × Int)} (h : PLst w (some ⟨b, off, none⟩) ps) (k : Nat) : PLst w (some ⟨b, off + k * 2, none⟩) (ps.drop k) := by
  unfold PLst
  rw [pcells_drop]
  exact cells_drop h _

set_option maxRecDepth 100000 in
set_option maxHeartbeats 2000000 in
theorem r8Among (b off c : Nat) (ps : List (Int × Int)) (k : Nat) (p : Int × Int) (w : World) (hp : PLst w (some ⟨b, off, none⟩) ps) (hk : k ≤ ps.length) (hn : ps.length ≤ 65536) (hc : ps.length ≤ c) :
    Calls Tryd.prog 35 #[.slice (some ⟨b, off, none⟩) ps.length c, .int .i64 (k : Int), pv p] w fun e w' => ∃ v, e = .returned v ∧ w'.ownsRow w.heap.size 33 2 v (Ly.among ps k p).length (pcells (Ly.among ps k p)) ∧ Below w.heap.size w w' := by
  have HP := Lib.hid hp
  have LA := Lib.hid (Ly.among_length ps k p)
  have hk2 : (k : Int) ≤ (ps.length : Int) := by omega
  have PX := Lib.hid (PBox.new w p 33)
  have B0 := Lib.hid ((Below.refl w.heap.size w).alloc (Nat.le_refl _) (.cells #[.int .i64 p.1, .int .i64 p.2] 33))
  obtain ⟨n, hnn⟩ : ∃ n, n = ps.length := ⟨_, rfl⟩
  have HN := Lib.hid hnn
  rw [← hnn] at hk hn hc hk2 ⊢
  clear hp hnn
  unfold pv
  go_enter Tryd.func35, Tryd.ntmps35
  go_upto_region 1 with (fail)
  obtain ⟨W0, hW0⟩ : ∃ W0, W0 = w.alloc (.cells #[.int .i64 p.1, .int .i64 p.2] 33) := ⟨_, rfl⟩
  rw [← hW0] at PX B0 ⊢
  clear hW0
  have P0 := Lib.hid (HP.out.below B0.out)
  have B1 := Lib.hid (fun o => (Below.refl W0.heap.size W0).alloc (Nat.le_refl _) o)
  have z0 := B0.out.size
  go_upto_region 2 with (at_builtin; refine wpList_copy elemP rfl (.tmp 8) (.tmp 11) rfl W0 rfl (some ⟨b, off, none⟩) k c (pcells (ps.take k)) rfl rfl (plst_take P0.out k) (by rw [pcells_length, List.length_take, ← HN.out]; omega) (pcells_one _) (fun h => by cases h) (by unfold maxLen; omega) (by omega) ?_; intro A5 c5 w5 hown5 _ hb5; have HO5 := Lib.hid (own_lower hown5 z0); have PX5 := Lib.hid (PX.out.below hb5); have P5 := Lib.hid (P0.out.below hb5); have HB5 := Lib.hid (B0.out.trans (hb5.mono z0)); clear hown5 hb5)
  obtain ⟨_, q0, q1, _⟩ := PX5.out
  have z5 := HB5.out.size
  have PXa := Lib.hid (fun o => (Below.refl w5.heap.size w5).alloc (Nat.le_refl _) o)
  obtain ⟨p1, p2⟩ := p
  dsimp only at q0 q1
  go_upto_region 3 with (at_builtin; refine wpList_moreN elemP rfl (.tmp 13) (.tmp 15) rfl w5 33 [.int .i64 p1, .int .i64 p2] rfl rfl w.heap.size k _ _ rfl rfl HO5.out (by intro u hu; simp at hu; rcases hu with rfl | rfl <;> rfl) z5 (by unfold maxLen; omega) (by omega) ?_; intro v6 w6 hown6 hb6; have HO6 := Lib.hid hown6; have HB6 := Lib.hid (HB5.out.trans hb6); clear hown6 hb6)
  have P6 := Lib.hid (HP.out.below HB6.out)
  have z6 := HB6.out.size
  clear PX PX5 q0 q1 P0 P5 B0 B1 z0 HO5 PXa
  have HD := Lib.hid (show Cells w6 (if c = k then some ⟨b, off, none⟩ else some ⟨b, off + k * 2, none⟩) (pcells (ps.drop k)) by
    split
    · rw [List.drop_of_length_le (by rw [← HN.out]; omega)]
      exact Or.inl rfl
    · exact plst_drop P6.out k)
  go_wp2_with (at_builtin; (refine wpList_join elemP rfl (.tmp 17) (.tmp 20) rfl w.heap.size (k + 1) _ _ rfl HO6.out (if c = k then some ⟨b, off, none⟩ else some ⟨b, off + k * 2, none⟩) (n - k) (c - k) (pcells (ps.drop k)) rfl HD.out (by rw [pcells_length, List.length_drop, ← HN.out]) (pcells_one _) (fun h => by split at h <;> cases h) z6 (by unfold maxLen; omega) (by omega) ?_); intro v7 w7 hown7 hb7; have HO7 := Lib.hid hown7; have HB7 := Lib.hid (HB6.out.trans hb7); clear hown7 hb7)
  all_goals
    go_ret
    refine ⟨_, rfl, ?_, HB7.out⟩
    have e1 : (Ly.among ps k (p1, p2)).length = k + 1 + (n - k) := by rw [LA.out, ← HN.out]; omega
    have e2 : pcells (Ly.among ps k (p1, p2)) = pcells (ps.take k) ++ [.int .i64 p1, .int .i64 p2] ++ pcells (ps.drop k) := by
      unfold Ly.among
      rw [pcells_append]
      simp [pcells]
    rw [e1, e2]
    exact HO7.out

set_option maxRecDepth 100000 in
set_option maxHeartbeats 2000000 in
theorem r8AmongNil (p : Int × Int) (w : World) :
    Calls Tryd.prog 35 #[.slice none 0 0, .int .i64 0, pv p] w fun e w' => ∃ v, e = .returned v ∧ w'.ownsRow w.heap.size 33 2 v (Ly.among [] 0 p).length (pcells (Ly.among [] 0 p)) ∧ Below w.heap.size w w' := by
  have PX := Lib.hid (PBox.new w p 33)
  have B0 := Lib.hid ((Below.refl w.heap.size w).alloc (Nat.le_refl _) (.cells #[.int .i64 p.1, .int .i64 p.2] 33))
  unfold pv
  go_enter Tryd.func35, Tryd.ntmps35
  go_upto_region 1 with (fail)
  obtain ⟨W0, hW0⟩ : ∃ W0, W0 = w.alloc (.cells #[.int .i64 p.1, .int .i64 p.2] 33) := ⟨_, rfl⟩
  rw [← hW0] at PX B0 ⊢
  clear hW0
  have z0 := B0.out.size
  go_upto_region 2 with (at_builtin; refine wpList_copy elemP rfl (.tmp 8) (.tmp 11) rfl W0 rfl none 0 0 [] rfl rfl (Or.inl rfl) rfl (fun u hu => by cases hu) (fun _ => ⟨rfl, rfl⟩) (by unfold maxLen; omega) (by omega) ?_; intro A5 c5 w5 hown5 _ hb5; have HO5 := Lib.hid (own_lower hown5 z0); have PX5 := Lib.hid (PX.out.below hb5); have HB5 := Lib.hid (B0.out.trans (hb5.mono z0)); clear hown5 hb5)
  obtain ⟨_, q0, q1, _⟩ := PX5.out
  have z5 := HB5.out.size
  obtain ⟨p1, p2⟩ := p
  dsimp only at q0 q1
  go_upto_region 3 with (at_builtin; refine wpList_moreN elemP rfl (.tmp 13) (.tmp 15) rfl w5 33 [.int .i64 p1, .int .i64 p2] rfl rfl w.heap.size 0 _ _ rfl rfl HO5.out (by intro u hu; simp at hu; rcases hu with rfl | rfl <;> rfl) z5 (by unfold maxLen; omega) (by omega) ?_; intro v6 w6 hown6 hb6; have HO6 := Lib.hid hown6; have HB6 := Lib.hid (HB5.out.trans hb6); clear hown6 hb6)
  have z6 := HB6.out.size
  clear PX PX5 q0 q1 B0 z0 HO5
  go_wp2_with (at_builtin; refine wpList_join elemP rfl (.tmp 17) (.tmp 20) rfl w.heap.size 1 _ _ rfl HO6.out none 0 0 [] rfl (Or.inl rfl) rfl (fun u hu => by cases hu) (fun _ => ⟨rfl, rfl⟩) z6 (by unfold maxLen; omega) (by omega) ?_; intro v7 w7 hown7 hb7; have HO7 := Lib.hid hown7; have HB7 := Lib.hid (HB6.out.trans hb7); clear hown7 hb7)
  go_ret
  exact ⟨_, rfl, HO7.out, HB7.out⟩
end Go.Proofs.YtmmkaabefofdeaaDoor

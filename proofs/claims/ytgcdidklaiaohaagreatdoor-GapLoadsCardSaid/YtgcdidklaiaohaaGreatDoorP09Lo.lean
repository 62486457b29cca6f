/- Plain facts of packed arrays. -/
import Derived.Test.YtgcdidklaiaohaaGreatDoorP08Lo
import Derived.Test.YtgcdidklaiaohaaGreatDoorP5cLo
import Derived.Test.YtgcdidklaiaohaaGreatDoorP06Lo
import Derived.Test.YtgcdidklaiaohaaGreatDoorM23Lo
namespace Go.Proofs.YtgcdidklaiaohaaGreatDoor
open Go.RowKit
set_option linter.unusedVariables false

namespace Gp
theorem cnt_nn (s : Sl) (a b : Int) : 0 ≤ cnt s a b := by unfold cnt; omega
theorem cnt_le (s : Sl) {a b : Int} (h0 : 0 ≤ a) (h : a ≤ b) : cnt s a b ≤ b - a := by
  unfold cnt
  have := Oc.places_length_le s.words a.toNat b.toNat
  omega
theorem cnt_add (s : Sl) {a b d : Int} (h0 : 0 ≤ a) (h1 : a ≤ b) (h2 : b ≤ d) : cnt s a d = cnt s a b + cnt s b d := by
  unfold cnt; rw [Oc.places_split s.words a.toNat b.toNat d.toNat (by omega) (by omega), List.length_append]
  omega
/-- Outside of a part nothing is turned. -/
def Off (s t : Sl) (a b : Int) : Prop := ∀ j : Nat, (j : Int) < a ∨ b ≤ j → Oc.isB t.words j = Oc.isB s.words j
theorem Off.cnt {s t : Sl} {a b : Int} (h : Off s t a b) {x y : Int} (hxy : y ≤ a ∨ b ≤ x) (h0 : 0 ≤ x) : cnt t x y = cnt s x y := by
  unfold Gp.cnt; rw [places_congr (ws := t.words) (ws' := s.words) (fun i h1 h2 => h i (by omega))]
theorem Off.over {s t : Sl} {a b : Int} (h : Off s t a b) {x y : Int} (h0 : 0 ≤ x) (h1 : x ≤ a) (h2 : a ≤ b) (h3 : b ≤ y) : Gp.cnt t x y = Gp.cnt s x y - Gp.cnt s a b + Gp.cnt t a b := by
  rw [cnt_add t h0 h1 (by omega), cnt_add t (a := a) (b := b) (by omega) h2 h3, cnt_add s h0 h1 (by omega), cnt_add s (a := a) (b := b) (by omega) h2 h3, h.cnt (Or.inl (Int.le_refl a)) h0, h.cnt (Or.inr (Int.le_refl b)) (by omega)]
  omega
/-- More pairs are more. -/
theorem many_mono {c : Cf} {size h m n : Int} (hd : 0 ≤ c.den) (hh : 0 ≤ c.high size) (hmn : m ≤ n) (hn : c.manyB size h n = true) : c.manyB size h m = true := by
  unfold Cf.manyB at hn ⊢
  split at hn
  · rename_i h0
    rw [if_pos h0]; rw [decide_eq_true_eq] at hn ⊢; have := Int.mul_le_mul_of_nonneg_right hmn hd
    omega
  · rename_i h0
    rw [if_neg h0]; rw [decide_eq_true_eq] at hn ⊢; have h1 := Int.mul_le_mul_of_nonneg_right hmn hh; have h2 := Int.mul_le_mul_of_nonneg_right h1 hd
    omega
theorem few_mono {c : Cf} {size h m n : Int} (hd : 0 ≤ c.den) (hh : 0 ≤ c.high size) (hmn : m ≤ n) (hm : c.fewB size h m = true) : c.fewB size h n = true := by
  unfold Cf.fewB at hm ⊢; rw [Bool.or_eq_true, decide_eq_true_eq] at hm ⊢
  rcases hm with hm | hm
  · exact Or.inl hm
  · right
    have h1 := Int.mul_le_mul_of_nonneg_right (show m + 1 ≤ n + 1 by omega) hh; have h2 := Int.mul_le_mul_of_nonneg_right h1 hd
    omega

/-- What is known of a config and of a capacity of it. -/
structure Cap (c : Cf) (n : Nat) (H : Nat) : Prop where
  may : c.May
  is : c.Is n
  fit : Wn.Fit c.seg n H
  high : c.high n = H
theorem fits_cap {c : Cf} {z : Int} (hm : c.May) (hi : c.Is z) : Sl.fitsB c.seg z = true := by
  have SB := hm.size_bd hi; have hs := hm.sizes; obtain ⟨x, hx, _⟩ := pow_of hs.segp; obtain ⟨y, hy, _⟩ := pow_of hi.pow; have hxy : x ≤ y := two_le (by rw [← hx, ← hy]; exact SB.1)
  have e : z = c.seg * 2 ^ (y - x) := by rw [hy, hx, ← Int.pow_add, show x + (y - x) = y from by omega]
  have h4 := hs.seg1; unfold Sl.fitsB
  simp only [Bool.and_eq_true, decide_eq_true_eq]
  refine ⟨⟨⟨⟨⟨⟨hs.seg1, hs.seg2⟩, hs.segp⟩, by omega⟩, by omega⟩, ?_⟩, ?_⟩
  · rw [e]; exact Int.mul_emod_right _ _
  · rw [e, Int.mul_ediv_cancel_left _ (by omega)]; exact powB_two _
theorem cap_of {c : Cf} {n : Nat} (hm : c.May) (hi : c.Is n) : ∃ H, Cap c n H := by
  obtain ⟨H, f⟩ := Wn.fit_of (fits_cap hm hi); exact ⟨H, hm, hi, f, f.hH⟩
namespace Cap
variable {c : Cf} {n : Nat} {H : Nat}
theorem den (K : Cap c n H) : 0 ≤ c.den := by have := K.may.sizes.den1; omega
theorem nn (K : Cap c n H) : 0 ≤ c.high n := by rw [K.high]; omega
theorem tall (K : Cap c n H) : (c.high n).toNat = H := by rw [K.high]; simp
theorem wpos (K : Cap c n H) (h : Int) : 4 ≤ c.wide h := Wn.wd_pos K.fit.g1 h
theorem top (K : Cap c n H) : c.wide H = n := K.fit.top
theorem wide_up (c : Cf) {h g : Nat} (hg : h ≤ g) : c.wide g = c.wide h * 2 ^ (g - h) := by
  unfold Cf.wide; rw [Int.toNat_natCast, Int.toNat_natCast, Int.mul_assoc, ← Int.pow_add, show h + (g - h) = g from by omega]
theorem wide_le (K : Cap c n H) {h : Nat} (hh : h ≤ H) : c.wide h ≤ n := K.fit.wd_le hh
theorem ok (K : Cap c n H) {h : Nat} (hh : h ≤ H) {m : Int} (h0 : 0 ≤ m) (h1 : m ≤ c.wide h) : c.Ok n h m := ⟨K.may, K.is, by omega, by rw [K.high]; omega, h0, h1⟩
theorem full (K : Cap c n H) {h : Nat} (hh : h ≤ H) {m : Int} (h0 : 0 ≤ m) (h1 : m ≤ c.wide h) : c.fullV n h m = c.manyB n h m ∧ c.sparseV n h m = c.fewB n h m := by
  have := (Cf.ok_iff c n h m).2 (K.ok hh h0 h1); unfold Cf.fullV Cf.sparseV; rw [this]; exact ⟨rfl, rfl⟩
end Cap

def Right (c : Cf) (s : Sl) (h k : Nat) : Prop := rightB c s h k = true
/-- Each window is right. -/
def Dense (c : Cf) (s : Sl) (H : Nat) : Prop := ∀ h k : Nat, h ≤ H → (k : Int) * c.wide h + c.wide h ≤ s.keys.length → Right c s h k
theorem dense_iff {c : Cf} {s : Sl} {H : Nat} (K : Cap c s.keys.length H) : denseB c s (tall c s + 1) = true ↔ Dense c s H := by
  unfold denseB rowB tall; rw [K.tall]
  simp only [List.all_eq_true, List.mem_range]
  have e : ∀ h k : Nat, h ≤ H → (k < rowN c s h ↔ (k : Int) * c.wide h + c.wide h ≤ s.keys.length) := fun h k hh => by
    have hw := K.wpos h; unfold rowN; have h1 : 0 ≤ (s.keys.length : Int) / c.wide h := Int.ediv_nonneg (by omega) (by omega); have h2 := Int.le_ediv_iff_mul_le (a := (k : Int) + 1) (b := (s.keys.length : Int)) (c := c.wide h) (by omega); rw [Int.add_mul, Int.one_mul] at h2
    omega
  constructor
  · intro h9 h k hh hk
    exact h9 h (by omega) k ((e h k hh).2 hk)
  · intro h9 h hh k hk
    exact h9 h k (by omega) ((e h k (by omega)).1 hk)

end Gp
end Go.Proofs.YtgcdidklaiaohaaGreatDoor
namespace Go.Proofs.YtgcdidklaiaohaaGreatDoor
open Go.RowKit
set_option linter.unusedVariables false

namespace Gp
/-- An array that is a config's. -/
structure Own (c : Cf) (s : Sl) (H : Nat) : Prop where
  cap : Cap c s.keys.length H
  may : s.May
  seg : s.seg = c.seg
  most : many s ≤ c.most
  dense : Dense c s H
theorem own_of {c : Cf} {s : Sl} (h : chkE c s = 0) : ∃ H, Own c s H := by
  unfold chkE at h
  split at h
  · rename_i hm
    split at h
    · rename_i ho
      unfold ownB at ho
      simp only [Bool.and_eq_true, decide_eq_true_eq, beq_iff_eq] at ho
      obtain ⟨⟨⟨⟨h1, h2⟩, h3⟩, h4⟩, h5⟩ := ho; obtain ⟨H, K⟩ := cap_of ((Cf.may_iff c).1 hm) ((Cf.is_iff c _).1 h3); exact ⟨H, K, may_iff.1 h1, h2, h4, (dense_iff K).1 h5⟩
    · omega
  · omega
theorem takes_right {c : Cf} (hm : c.May) {m : Int} (h0 : 0 ≤ m) (h1 : m ≤ c.most) : c.Is (c.takes m) ∧ m ≤ c.takes m ∧ c.manyB (c.takes m) (c.high (c.takes m)) m = true ∧ c.fewB (c.takes m) (c.high (c.takes m)) m = true := by
  obtain ⟨hi, K, hf⟩ := Cf.cap_is hm h0 h1; have hs := hm.sizes; have hd := hm.dens; have SB := hm.size_bd hi; have W := Cf.wide_of hs.segp hi.pow SB.1; have n1 := K.n1; rw [W] at n1; have hf2 := hf; unfold Cf.fullV at hf2; rw [Bool.and_eq_true] at hf2; refine ⟨hi, n1, hf2.2, ?_⟩
  by_cases hne : c.takes m = c.least
  · unfold Cf.fewB
    rw [hne]
    simp
  · have hsv : c.sparseV (c.takes m) (c.high (c.takes m)) m = true := by
      rw [Cf.sparse_all K hne, decide_eq_true_eq]; have g1 := hs.seg1; have g2 := hs.least1; have d1 := hs.den1; have r1 := hd.rhd; have r2 := hd.rld
      rcases Cf.dbl_half 20 (m * c.den) c.rh c.least with e | ⟨t, e, h2, h3⟩ | e
      · exact absurd e hne
      · have ht : c.takes m = 2 * t := e
        rw [ht]; have a1 : t * (4 * c.rl) ≤ t * c.rh := Int.mul_le_mul_of_nonneg_left (by omega) (by omega); have a2 : t * (4 * c.rl) = 4 * (t * c.rl) := Int.mul_left_comm _ _ _; have a5 : 2 * t * c.rl = 2 * (t * c.rl) := Int.mul_assoc _ _ _; have a6 := Int.mul_nonneg h0 (show 0 ≤ c.den by omega); have a3 : t * c.rh = c.rh * t := Int.mul_comm _ _
        have a4 : (m + 1) * c.den = m * c.den + c.den := by rw [Int.add_mul, Int.one_mul]
        omega
      · omega
    unfold Cf.sparseV at hsv; rw [Bool.and_eq_true] at hsv; exact hsv.2
end Gp
end Go.Proofs.YtgcdidklaiaohaaGreatDoor
namespace Go.Proofs.YtgcdidklaiaohaaGreatDoor
open Go.RowKit
set_option linter.unusedVariables false

namespace Gp
theorem load_ok {c : Cf} {s : Sl} {n : Nat} (h : loadE c s n = 0) : chkE c s = 0 ∧ (n : Int) ≤ c.most := by
  unfold loadE at h
  split at h
  · rename_i hc
    split at h
    · omega
    · exact ⟨hc, by omega⟩
  · rename_i hc; exact absurd h hc
theorem load_s {c : Cf} {s : Sl} {l : List (Int × Int)} (h : loadE c s l.length = 0) : loadS c s l = Ly.wide s (c.takes l.length) l := by unfold loadS; rw [if_pos h]
theorem load_none {c : Cf} {s : Sl} {l : List (Int × Int)} (h : ¬ loadE c s l.length = 0) : loadS c s l = Sl.none := by unfold loadS; rw [if_neg h]
end Gp
end Go.Proofs.YtgcdidklaiaohaaGreatDoor
namespace Go.Proofs.YtgcdidklaiaohaaGreatDoor
open Go.RowKit
set_option linter.unusedVariables false

theorem wide_fine {s : Sl} (hok : s.Ok) {z : Int} (hf : Sl.fitsB s.seg z = true) (ps : List (Int × Int)) (hn : ps.length ≤ 65536) (h64 : In64P ps) : Fine (Ly.wide s z ps) := by
  obtain ⟨f1, f2, f3, f4, f5, f6, f7⟩ := fits_yes hf; obtain ⟨m, rfl⟩ : ∃ m : Nat, z = m := ⟨z.toNat, by omega⟩; have BA := base_bare hf hok.seg hok.laid; exact spread_fine (may_fit (may_iff.2 BA.may) BA.ok BA.short) 0 m (by omega) ps hn h64
namespace Gp
theorem load_fine {c : Cf} {s : Sl} (hok : s.Ok) (hs : s.Short) (l : List (Int × Int)) (h64 : In64P l) : Fine (loadS c s l) := by
  by_cases h : loadE c s l.length = 0
  · obtain ⟨a, b⟩ := load_ok h
    obtain ⟨H, O⟩ := own_of a; rw [load_s h]; obtain ⟨t1, _⟩ := takes_right O.cap.may (m := l.length) (by omega) b; exact wide_fine hok (by rw [O.seg]; exact fits_cap O.cap.may t1) l (by have := O.cap.may.sizes.most2; omega) h64
  · rw [load_none h]; exact fine_none
end Gp
end Go.Proofs.YtgcdidklaiaohaaGreatDoor

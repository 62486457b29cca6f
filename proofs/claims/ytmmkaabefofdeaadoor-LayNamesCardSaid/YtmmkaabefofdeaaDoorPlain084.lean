/- Layer 8, plain: what a part that is spread has; a gapped array is told by its bits, its pairs and its ledger. No program is named here. -/
import Derived.Test.YtmmkaabefofdeaaDoorM11
import Derived.Test.YtmmkaabefofdeaaDoorFn084
namespace Go.Proofs.YtmmkaabefofdeaaDoor
open Go.RowKit
set_option linter.unusedVariables false

/-- The places of so many things over a part rise within it. -/
theorem ofs_rising {n : Nat} {a b : Nat} (h1 : a + n ≤ b) (h2 : b ≤ 65536) : Rising (Sp.ofs n a b) a b ∧ (Sp.ofs n a b).length = n := by
  have hm : Sp.mayB n a b = true := by
    unfold Sp.mayB
    rw [decide_eq_true (show (0 : Int) ≤ (a : Int) by omega), decide_eq_true (show (a : Int) ≤ (b : Int) by omega), decide_eq_true (show (b : Int) ≤ 65536 by omega), decide_eq_true (show (0 : Int) ≤ (n : Int) by omega), decide_eq_true (show (n : Int) ≤ (b : Int) - (a : Int) by omega)]
    rfl
  have hl : (Sp.ofs n a b).length = n := by rw [Sp.ofs_length, Int.toNat_natCast]
  refine ⟨⟨fun k hk => ?_, fun i j hij hj => ?_⟩, hl⟩
  · rw [hl] at hk
    have hk2 : k < (n : Int).toNat := by rw [Int.toNat_natCast]; exact hk
    rw [Sp.ofs_at hk2]
    have := Sp.plc_bd hm hk2
    omega
  · rw [hl] at hj
    have up : ∀ d : Nat, i + (d + 1) < n → Sp.plc n a b i < Sp.plc n a b (i + (d + 1)) := by
      intro d
      induction d with
      | zero =>
        intro h
        have h3 := (Sp.plc_step (n := (n : Int)) (f := (a : Int)) (t := (b : Int)) (by omega) (by omega) i).1
        have h4 := Sp.one_le_step (n := (n : Int)) (f := (a : Int)) (t := (b : Int)) (by omega) (by omega)
        show Sp.plc n a b i < Sp.plc n a b (i + 1)
        omega
      | succ d ih =>
        intro h
        have h0 := ih (by omega)
        have h3 := (Sp.plc_step (n := (n : Int)) (f := (a : Int)) (t := (b : Int)) (by omega) (by omega) (i + (d + 1))).1
        have h4 := Sp.one_le_step (n := (n : Int)) (f := (a : Int)) (t := (b : Int)) (by omega) (by omega)
        show Sp.plc n a b i < Sp.plc n a b (i + (d + 1) + 1)
        omega
    rw [Sp.ofs_at (by rw [Int.toNat_natCast]; omega), Sp.ofs_at (by rw [Int.toNat_natCast]; omega)]
    have := up (j - i - 1) (by omega)
    rwa [show i + (j - i - 1 + 1) = j from by omega] at this

/-- Slot by slot: what is occupied of a part that is filled, and what stays. -/
structure FilledBits (s : Sl) (a b : Nat) (l : List Int) (ps : List (Int × Int)) : Prop where
  inn : ∀ j, a ≤ j → j < b → (Oc.isB (s.filled a b l ps).words j = true ↔ ∃ i, i < l.length ∧ l.getD i 0 = (j : Int))
  out : ∀ j, j < a ∨ b ≤ j → Oc.isB (s.filled a b l ps).words j = Oc.isB s.words j ∧ (s.filled a b l ps).pairAt j = s.pairAt j
  seg : (s.filled a b l ps).seg = s.seg
theorem filled_bits {s : Sl} (h : s.May) {a b : Nat} {l : List Int} {ps : List (Int × Int)} (hr : Rising l a b) (hab : a ≤ b) (hb : b ≤ s.keys.length) (hlen : l.length = ps.length) : FilledBits s a b l ps := by
  have ef : s.filled a b l ps = (s.wiped a (b - a)).laidIn l ps ps.length := by unfold Sl.filled; rw [Int.toNat_natCast, show ((b : Int) - (a : Int)).toNat = b - a from by omega]
  obtain ⟨h1, h2⟩ := wiped_may h a (b - a) (by omega)
  have hk1 : (s.wiped a (b - a)).keys.length = s.keys.length := wiped_keys _ _ _
  have H := laidIn_all h1 ps hr (by rw [hk1]; exact hb) (fun j e1 e2 => by rw [h2, show (decide (a ≤ j) && decide (j < a + (b - a))) = true from by simp; omega]; simp) ps.length (by omega)
  refine ⟨fun j e1 e2 => ?_, fun j hj => ?_, ?_⟩
  · rw [ef, H.isB, h2, show (decide (a ≤ j) && decide (j < a + (b - a))) = true from by simp; omega]
    simp only [Bool.not_true, Bool.and_false, Bool.false_eq_true, false_or]
    rw [hlen]
  · have hn : ∀ i, i < ps.length → l.getD i 0 ≠ (j : Int) := fun i hi e => by have := hr.inn i (by omega); omega
    constructor
    · rw [Bool.eq_iff_iff, ef, H.isB, h2, show (decide (a ≤ j) && decide (j < a + (b - a))) = false from by simp; omega]
      simp only [Bool.not_false, Bool.and_true]
      exact ⟨fun e => e.resolve_right (fun ⟨i, hi, e⟩ => hn i hi e), Or.inl⟩
    · rw [ef, H.other j hn, wiped_pair s a j (b - a) (by omega)]
  · rw [ef, laidIn_seg, (wiped_seg s a _).1]

/-- The occupied slots of a part within one that is filled are those of the places that lie there. -/
theorem filled_places {s : Sl} (h : s.May) {a b : Nat} {l : List Int} {ps : List (Int × Int)} (hr : Rising l a b) (hab : a ≤ b) (hb : b ≤ s.keys.length) (hlen : l.length = ps.length) {p q : Nat} (hp : a ≤ p) (hq : q ≤ b) :
    ((Oc.places (s.filled a b l ps).words p q).length : Int) = Sp.cnt l p q := by
  have F := filled_bits h hr hab hb hlen
  have e : Oc.places (s.filled a b l ps).words p q = (l.filter (Sp.inB p q)).map Int.toNat := by
    refine sorted_ext (places_sorted _ _ _) ?_ fun x => ?_
    · rw [List.pairwise_map]
      refine List.Pairwise.filter _ ?_ |>.imp_of_mem ?_ (R := fun (x y : Int) => x < y)
      · rw [List.pairwise_iff_getElem]
        intro i j hi hj hij
        have e1 := hr.up i j hij hj
        rw [show l.getD i 0 = l[i] from by simp [List.getD, hi], show l.getD j 0 = l[j] from by simp [List.getD, hj]] at e1
        exact e1
      · intro x y hx _ hxy
        obtain ⟨hx1, _⟩ := List.mem_filter.1 hx
        obtain ⟨i, hi, rfl⟩ := List.getElem_of_mem hx1
        have e2 := hr.inn i hi
        rw [show l.getD i 0 = l[i] from by simp [List.getD, hi]] at e2
        omega
    · rw [Oc.mem_places]
      constructor
      · rintro ⟨⟨e1, e2⟩, e3⟩
        obtain ⟨i, hi, he⟩ := (F.inn x (by omega) (by omega)).1 e3
        have hm : l.getD i 0 ∈ l := by rw [show l.getD i 0 = l[i] from by simp [List.getD, hi]]; exact List.getElem_mem hi
        refine List.mem_map.2 ⟨l.getD i 0, List.mem_filter.2 ⟨hm, ?_⟩, by rw [he]; simp⟩
        rw [he]
        unfold Sp.inB
        rw [decide_eq_true (show (p : Int) ≤ (x : Int) by omega), decide_eq_true (show (x : Int) < (q : Int) by omega)]
        rfl
      · intro hx
        obtain ⟨z, hz, rfl⟩ := List.mem_map.1 hx
        obtain ⟨hz1, hz2⟩ := List.mem_filter.1 hz
        obtain ⟨i, hi, rfl⟩ := List.getElem_of_mem hz1
        have e2 := hr.inn i hi
        rw [show l.getD i 0 = l[i] from by simp [List.getD, hi]] at e2
        unfold Sp.inB at hz2
        simp only [Bool.and_eq_true, decide_eq_true_eq] at hz2
        refine ⟨⟨by omega, by omega⟩, (F.inn _ (by omega) (by omega)).2 ⟨i, hi, ?_⟩⟩
        rw [show l.getD i 0 = l[i] from by simp [List.getD, hi]]
        omega
  rw [e, List.length_map]
  unfold Sp.cnt
  rw [List.countP_eq_length_filter]

/-- Two lists of words with the same bits are the same. -/
theorem words_ext {ws us : List Nat} (hw : Wide ws) (hu : Wide us) (hl : ws.length = us.length) (h : ∀ i, Oc.isB ws i = Oc.isB us i) : ws = us := by
  refine List.ext_getElem hl fun i h1 h2 => ?_
  have e1 : ws[i] = ws.getD i 0 := by simp [List.getD, h1]
  have e2 : us[i] = us.getD i 0 := by simp [List.getD, h2]
  rw [e1, e2]
  refine Nat.eq_of_testBit_eq fun k => ?_
  rcases Nat.lt_or_ge k 64 with hk | hk
  · have := h (64 * i + k)
    unfold Oc.isB at this
    rwa [show (64 * i + k) / 64 = i from by omega, show (64 * i + k) % 64 = k from by omega] at this
  · have b : ∀ {x : Nat}, x < 18446744073709551616 → x.testBit k = false := fun {x} hx => Nat.testBit_lt_two_pow (Nat.lt_of_lt_of_le hx (by
      have : 2 ^ 64 ≤ 2 ^ k := Nat.pow_le_pow_right (by omega) hk
      simpa using this))
    rw [b (hw i), b (hu i)]
/-- A gapped array that may be is told by its segments, its bits, its pairs and its ledger. -/
theorem may_ext {s t : Sl} (hs : s.May) (ht : t.May) (ws : Wide s.words) (wt : Wide t.words) (hseg : s.seg = t.seg) (hk : s.keys.length = t.keys.length) (hb : ∀ j, Oc.isB s.words j = Oc.isB t.words j) (hp : ∀ j, s.pairAt j = t.pairAt j) (hl : s.laid = t.laid) : s = t := by
  have h1 : s.words = t.words := words_ext ws wt (by rw [hs.wlen, ht.wlen, hk]) hb
  have h2 : s.keys = t.keys := by
    refine List.ext_getElem hk fun i e1 e2 => ?_
    have := congrArg Prod.fst (hp i)
    simpa [Sl.pairAt, List.getD, e1, e2] using this
  have h3 : s.vals = t.vals := by
    refine List.ext_getElem (by rw [hs.vals, ht.vals, hk]) fun i e1 e2 => ?_
    have := congrArg Prod.snd (hp i)
    simpa [Sl.pairAt, List.getD, e1, e2] using this
  have h4 : s.counts = t.counts := by
    have hc : s.counts.length = t.counts.length := by
      have e1 := hs.clen
      have e2 := ht.clen
      rw [hk, hseg] at e1
      omega
    refine List.ext_getElem hc fun i e1 e2 => ?_
    have q1 := hs.count i e1
    have q2 := ht.count i e2
    unfold Sl.countOf at q1 q2
    rw [h1, hseg] at q1
    simp only [List.getD, List.getElem?_eq_getElem e1, List.getElem?_eq_getElem e2, Option.getD_some] at q1 q2
    rw [q1, q2]
  obtain ⟨a1, a2, a3, a4, a5, a6⟩ := s
  obtain ⟨b1, b2, b3, b4, b5, b6⟩ := t
  simp only at h1 h2 h3 h4 hl hseg
  subst h1 h2 h3 h4 hl hseg
  rfl
end Go.Proofs.YtmmkaabefofdeaaDoor

/- What the document's own answers of layer 14 (package shelfmarkref14) return: Moved, Back. What they answer is new memory. -/
import Derived.Test.YtephmejhglcdiaaRefC14
namespace Go.Proofs.Ytephmejhglcdiaa
open Go.RowKit
set_option linter.unusedVariables false
set_option linter.unusedSimpArgs false

set_option maxRecDepth 100000 in
set_option maxHeartbeats 4000000 in
theorem r14Moved (t : Ht) (A : HAds) (n : Nat) (p : Int) (w : World) (h : HHeld w t A) (hs : t.Short) (hn : n < t.ats.length) :
    Calls Try.prog 44 #[hv t A, .int .i64 (n : Int), .int .i64 p] w (HPost (Hn.moved t n p) w) := by
  have l2 := hs.ats
  have HB := Lib.hid (fun x y => ((Below.refl w.heap.size w).alloc (Nat.le_refl _) x).alloc (by simp) y)
  have HX := Lib.hid (fun x => (HBox.new w t A 24).below ((Below.refl _ _).alloc (Nat.le_refl _) x))
  have HY := Lib.hid (fun x => HBox.new (w.alloc x) Ht.zero hNone 24)
  have CT := Lib.hid (fun V (hb : Below w.heap.size w V) => r14Twin t A V (h.below hb) hs)
  clear h hs
  unfold hv
  go_enter Try.func44, Try.ntmps44
  go_upto_region 1 with (fail)
  obtain ⟨W0, hW0⟩ : ∃ W, W = (w.alloc (.cells #[.slice A.g t.gens.length A.cg, .slice A.a t.ats.length A.ca] 24)).alloc (.cells #[.slice none 0 0, .slice none 0 0] 24) := ⟨_, rfl⟩
  have BX := Lib.hid (show HBox W0 w.heap.size t A by rw [hW0]; exact HX.out _)
  have BR := Lib.hid (show HBox W0 (w.heap.size + 1) Ht.zero hNone by rw [hW0]; have := HY.out (.cells #[.slice A.g t.gens.length A.cg, .slice A.a t.ats.length A.ca] 24); rw [World.size_alloc] at this; exact this)
  have BB := Lib.hid (show Below w.heap.size w W0 by rw [hW0]; exact HB.out _ _)
  have z0 : w.heap.size + 2 ≤ W0.heap.size := by rw [hW0]; simp
  rw [← hW0]
  clear hW0 HB HX HY
  obtain ⟨_, p0, p1, _, _⟩ := BX.out
  unfold hv at CT
  go_wp2_with fail
  refine (CT.out W0 BB.out).mono ?_
  rintro e w1 ⟨A1, rfl, own, hb⟩
  unfold hv
  go_upto_region 2 with (fail)
  obtain ⟨W1, hW1⟩ : ∃ W, W = w1.alloc (.cells #[.slice A1.g t.gens.length A1.cg, .slice A1.a t.ats.length A1.ca] 24) := ⟨_, rfl⟩
  have hbW1 : Below w1.heap.size w1 W1 := by rw [hW1]; exact (Below.refl _ _).alloc (Nat.le_refl _) _
  have BX1 := Lib.hid (show HBox W1 w1.heap.size t A1 by rw [hW1]; exact HBox.new w1 t A1 24)
  rw [← hW1]
  have OX := Lib.hid (own.below hbW1)
  have OF := Lib.hid (own.off_ge (Nat.le_refl w1.heap.size))
  have z1 : W0.heap.size ≤ w1.heap.size := hb.size
  have BB1 := Lib.hid (show Below w.heap.size w W1 from (BB.out.trans (hb.mono (by omega))).trans (hbW1.mono (by omega)))
  have BR1 := Lib.hid ((BR.out.below hb).below hbW1)
  clear hW1 hbW1 own hb BB BR p0 p1
  obtain ⟨b, o, hA, hbb, hbl, hc, hf, hset⟩ := OX.out.setA hn
  have hbB : b ≠ w1.heap.size := by
    rcases OF.out.a with e | e
    · rw [e] at hn; simp at hn
    · exact e _ hA
  have BX2 := Lib.hid (fun u => (BX1.out.setOther (p := ⟨b, o + n, none⟩) hbB u))
  have BR2 := Lib.hid (fun u => (BR1.out.setOther (p := ⟨b, o + n, none⟩) (by show b ≠ w.heap.size + 1; omega) u))
  have OY := Lib.hid hset
  have BB2 := Lib.hid (fun u => BB1.out.setCell (p := ⟨b, o + n, none⟩) (by show w.heap.size ≤ b; omega) u)
  obtain ⟨ag, aa, cg, ca⟩ := A1
  obtain ⟨_, p0, p1, _, _⟩ := BX1.out
  dsimp only at hA p0 p1
  subst hA
  have i1 : (n : Int) < (t.ats.length : Int) := by omega
  clear OX OF hset BX CT BX1
  go_upto_region 3 with (fail)
  obtain ⟨W2, hW2⟩ : ∃ W, W = W1.setCell ⟨b, o + n, none⟩ (.int .i64 p) := ⟨_, rfl⟩
  have BX3 := Lib.hid (show HBox W2 w1.heap.size (Hn.moved t n p) ⟨ag, some ⟨b, o, none⟩, cg, ca⟩ by
    rw [hW2]
    obtain ⟨e0, e1, e2, e3, e4⟩ := BX2.out (.int .i64 p)
    exact ⟨e0, e1, by rw [e2]; show _ = some (Value.slice (some ⟨b, o, none⟩) (t.ats.set n p).length ca); rw [List.length_set], e3, e4⟩)
  replace BR2 := Lib.hid (show HBox W2 (w.heap.size + 1) Ht.zero hNone by rw [hW2]; exact BR2.out _)
  replace OY := Lib.hid (show HOwn W2 W0.heap.size (Hn.moved t n p) ⟨ag, some ⟨b, o, none⟩, cg, ca⟩ by rw [hW2]; exact OY.out p)
  replace BB2 := Lib.hid (show Below w.heap.size w W2 by rw [hW2]; exact BB2.out _)
  rw [← hW2]
  clear hW2 BX2 BR1 BB1 hc hf p0 p1
  obtain ⟨_, p0, p1, _, _⟩ := BX3.out
  obtain ⟨_, q0, q1, qf0, qf1⟩ := BR2.out
  dsimp only [Ht.zero, hNone, List.length_nil] at p0 p1 q0 q1
  have hne : w.heap.size + 1 ≠ w1.heap.size := by omega
  go_wp2
  obtain ⟨U, hU⟩ : ∃ U, U = wput2 W2 (w.heap.size + 1) (.slice (⟨ag, some ⟨b, o, none⟩, cg, ca⟩ : HAds).g (Hn.moved t n p).gens.length (⟨ag, some ⟨b, o, none⟩, cg, ca⟩ : HAds).cg) (.slice (⟨ag, some ⟨b, o, none⟩, cg, ca⟩ : HAds).a (Hn.moved t n p).ats.length (⟨ag, some ⟨b, o, none⟩, cg, ca⟩ : HAds).ca) := ⟨_, rfl⟩
  have BY := Lib.hid (show HBox U (w.heap.size + 1) (Hn.moved t n p) (⟨ag, some ⟨b, o, none⟩, cg, ca⟩ : HAds) by rw [hU]; exact BR2.out.put2 (Hn.moved t n p) (⟨ag, some ⟨b, o, none⟩, cg, ca⟩ : HAds))
  have OZ := Lib.hid (show HOwn U w.heap.size (Hn.moved t n p) (⟨ag, some ⟨b, o, none⟩, cg, ca⟩ : HAds) by rw [hU]; exact (OY.out.put2o (OY.out.off_lt (by omega)) _ _).lower (by omega))
  have BZ := Lib.hid (show Below w.heap.size w U by rw [hU]; exact below_put2 BB2.out (by omega) _ _)
  unfold wput2 at hU
  dsimp only at hU
  rw [← hU]
  clear hU
  obtain ⟨_, s0, s1, _, _⟩ := BY.out
  dsimp only at s0 s1
  refine bodyPost_ret (v := hv (Hn.moved t n p) (⟨ag, some ⟨b, o, none⟩, cg, ca⟩ : HAds)) (by simp [results, Try.results44, go_sem, hv, s0, s1]) rfl ⟨_, rfl, OZ.out, BZ.out⟩
set_option maxRecDepth 100000 in
set_option maxHeartbeats 4000000 in
theorem r14Back (t : Ht) (A : HAds) (n : Nat) (w : World) (h : HHeld w t A) (hs : t.Short) (hn : n < t.ats.length) (hn2 : n < t.gens.length) (hg : 0 ≤ Hn.g t n ∧ Hn.g t n ≤ 2147483647) :
    Calls Try.prog 45 #[hv t A, .int .i64 (n : Int)] w (HPost (Hn.back t n) w) := by
  have l1 := hs.gens
  have HB := Lib.hid (fun x y => ((Below.refl w.heap.size w).alloc (Nat.le_refl _) x).alloc (by simp) y)
  have HX := Lib.hid (fun x => (HBox.new w t A 24).below ((Below.refl _ _).alloc (Nat.le_refl _) x))
  have HY := Lib.hid (fun x => HBox.new (w.alloc x) Ht.zero hNone 24)
  have CT := Lib.hid (fun V (hb : Below w.heap.size w V) => r14Moved t A n (-1) V (h.below hb) hs hn)
  clear h hs
  unfold hv
  go_enter Try.func45, Try.ntmps45
  go_upto_region 1 with (fail)
  obtain ⟨W0, hW0⟩ : ∃ W, W = (w.alloc (.cells #[.slice A.g t.gens.length A.cg, .slice A.a t.ats.length A.ca] 24)).alloc (.cells #[.slice none 0 0, .slice none 0 0] 24) := ⟨_, rfl⟩
  have BX := Lib.hid (show HBox W0 w.heap.size t A by rw [hW0]; exact HX.out _)
  have BR := Lib.hid (show HBox W0 (w.heap.size + 1) Ht.zero hNone by rw [hW0]; have := HY.out (.cells #[.slice A.g t.gens.length A.cg, .slice A.a t.ats.length A.ca] 24); rw [World.size_alloc] at this; exact this)
  have BB := Lib.hid (show Below w.heap.size w W0 by rw [hW0]; exact HB.out _ _)
  have z0 : w.heap.size + 2 ≤ W0.heap.size := by rw [hW0]; simp
  rw [← hW0]
  clear hW0 HB HX HY
  obtain ⟨_, p0, p1, _, _⟩ := BX.out
  unfold hv at CT
  go_wp2_with fail
  refine (CT.out W0 BB.out).mono ?_
  rintro e w1 ⟨A1, rfl, own, hb⟩
  unfold hv
  go_upto_region 2 with (fail)
  obtain ⟨W1, hW1⟩ : ∃ W, W = w1.alloc (.cells #[.slice A1.g (Hn.moved t n (-1)).gens.length A1.cg, .slice A1.a (Hn.moved t n (-1)).ats.length A1.ca] 24) := ⟨_, rfl⟩
  have hbW1 : Below w1.heap.size w1 W1 := by rw [hW1]; exact (Below.refl _ _).alloc (Nat.le_refl _) _
  have BX1 := Lib.hid (show HBox W1 w1.heap.size (Hn.moved t n (-1)) A1 by rw [hW1]; exact HBox.new w1 (Hn.moved t n (-1)) A1 24)
  rw [← hW1]
  have OX := Lib.hid (own.below hbW1)
  have OF := Lib.hid (own.off_ge (Nat.le_refl w1.heap.size))
  have z1 : W0.heap.size ≤ w1.heap.size := hb.size
  have BB1 := Lib.hid (show Below w.heap.size w W1 from (BB.out.trans (hb.mono (by omega))).trans (hbW1.mono (by omega)))
  have BR1 := Lib.hid ((BR.out.below hb).below hbW1)
  clear hW1 hbW1 own hb BB BR p0 p1
  obtain ⟨b, o, hA, hbb, hbl, hc, hf, hset⟩ := OX.out.setG (i := n) hn2
  have hbB : b ≠ w1.heap.size := by
    rcases OF.out.g with e | e
    · rw [show (Hn.moved t n (-1)).gens = t.gens from rfl] at e; rw [e] at hn2; simp at hn2
    · exact e _ hA
  have BX2 := Lib.hid (fun u => (BX1.out.setOther (p := ⟨b, o + n, none⟩) hbB u))
  have BR2 := Lib.hid (fun u => (BR1.out.setOther (p := ⟨b, o + n, none⟩) (by show b ≠ w.heap.size + 1; omega) u))
  have OY := Lib.hid (hset (Hn.g t n + 1))
  have BB2 := Lib.hid (fun u => BB1.out.setCell (p := ⟨b, o + n, none⟩) (by show w.heap.size ≤ b; omega) u)
  obtain ⟨ag, aa, cg, ca⟩ := A1
  obtain ⟨_, p0, p1, _, _⟩ := BX1.out
  dsimp only at hA p0 p1
  subst hA
  have i1 : (n : Int) < (t.gens.length : Int) := by omega
  rw [show (Hn.moved t n (-1)).gens.getD n 0 = Hn.g t n from rfl] at hc
  rw [show (Hn.moved t n (-1)).gens.length = t.gens.length from rfl] at p0
  rw [show (Hn.moved t n (-1)).gens.length = t.gens.length from rfl]
  obtain ⟨g, hgg⟩ : ∃ g, g = Hn.g t n := ⟨_, rfl⟩
  have HG := Lib.hid hgg
  rw [← hgg] at hc hg OY
  have e1 : IntKind.i64.wrap (g + 1) = g + 1 := IntWalk.i64_in _ (by omega)
  clear hgg OX OF hset BX CT BX1
  go_upto_region 3 with (fail)
  obtain ⟨W2, hW2⟩ : ∃ W, W = W1.setCell ⟨b, o + n, none⟩ (.int .i64 (g + 1)) := ⟨_, rfl⟩
  have BX3 := Lib.hid (show HBox W2 w1.heap.size (Hn.back t n) ⟨some ⟨b, o, none⟩, aa, cg, ca⟩ by
    rw [hW2]
    obtain ⟨e0, e1, e2, e3, e4⟩ := BX2.out (.int .i64 (g + 1))
    exact ⟨e0, by rw [e1]; show some (Value.slice (some ⟨b, o, none⟩) t.gens.length cg) = some (Value.slice (some ⟨b, o, none⟩) (t.gens.set n _).length cg); rw [List.length_set], e2, e3, e4⟩)
  replace BR2 := Lib.hid (show HBox W2 (w.heap.size + 1) Ht.zero hNone by rw [hW2]; exact BR2.out _)
  replace OY := Lib.hid (show HOwn W2 W0.heap.size (Hn.back t n) ⟨some ⟨b, o, none⟩, aa, cg, ca⟩ by
    rw [hW2]
    have := OY.out
    rw [HG.out] at this ⊢
    exact this)
  replace BB2 := Lib.hid (show Below w.heap.size w W2 by rw [hW2]; exact BB2.out _)
  rw [← hW2]
  clear hW2 BX2 BR1 BB1 hc hf p0 p1 e1
  obtain ⟨_, p0, p1, _, _⟩ := BX3.out
  obtain ⟨_, q0, q1, qf0, qf1⟩ := BR2.out
  dsimp only [Ht.zero, hNone, List.length_nil] at p0 p1 q0 q1
  have hne : w.heap.size + 1 ≠ w1.heap.size := by omega
  go_wp2
  obtain ⟨U, hU⟩ : ∃ U, U = wput2 W2 (w.heap.size + 1) (.slice (⟨some ⟨b, o, none⟩, aa, cg, ca⟩ : HAds).g (Hn.back t n).gens.length (⟨some ⟨b, o, none⟩, aa, cg, ca⟩ : HAds).cg) (.slice (⟨some ⟨b, o, none⟩, aa, cg, ca⟩ : HAds).a (Hn.back t n).ats.length (⟨some ⟨b, o, none⟩, aa, cg, ca⟩ : HAds).ca) := ⟨_, rfl⟩
  have BY := Lib.hid (show HBox U (w.heap.size + 1) (Hn.back t n) (⟨some ⟨b, o, none⟩, aa, cg, ca⟩ : HAds) by rw [hU]; exact BR2.out.put2 (Hn.back t n) (⟨some ⟨b, o, none⟩, aa, cg, ca⟩ : HAds))
  have OZ := Lib.hid (show HOwn U w.heap.size (Hn.back t n) (⟨some ⟨b, o, none⟩, aa, cg, ca⟩ : HAds) by rw [hU]; exact (OY.out.put2o (OY.out.off_lt (by omega)) _ _).lower (by omega))
  have BZ := Lib.hid (show Below w.heap.size w U by rw [hU]; exact below_put2 BB2.out (by omega) _ _)
  unfold wput2 at hU
  dsimp only at hU
  rw [← hU]
  clear hU
  obtain ⟨_, s0, s1, _, _⟩ := BY.out
  dsimp only at s0 s1
  refine bodyPost_ret (v := hv (Hn.back t n) (⟨some ⟨b, o, none⟩, aa, cg, ca⟩ : HAds)) (by simp [results, Try.results45, go_sem, hv, s0, s1]) rfl ⟨_, rfl, OZ.out, BZ.out⟩
end Go.Proofs.Ytephmejhglcdiaa

/- What package gap's closures, loaded, grown and halved return. -/
import Derived.Test.YtgcdidklaiaohaaGreatDoorGapCLo
import Derived.Test.YtgcdidklaiaohaaGreatDoorGapDLo
import Derived.Test.YtgcdidklaiaohaaGreatDoorM04Lo
import Derived.Test.YtgcdidklaiaohaaGreatDoorP08Lo
import Derived.Shelf.Spec.SlicesInsert
import Derived.Lib.AppendZerosOnto
import Derived.Laws.CopyOwn
import Derived.Test.YtgcdidklaiaohaaGreatDoorP8bLo
import Derived.Test.YtgcdidklaiaohaaGreatDoorP5cLo
import Derived.Test.YtgcdidklaiaohaaGreatDoorP09Lo
namespace Go.Proofs.YtgcdidklaiaohaaGreatDoor
open Go.RowKit
set_option linter.unusedVariables false
set_option linter.unusedSimpArgs false

/-- The boxes of a config, of a gapped array, and of what is answered. -/
theorem boxes_csr (w : World) (c : Cf) (s : Sl) (a : Ads) : ∃ W0, W0 = ((w.alloc (.cells #[.int .u8 c.tag, .int .i64 c.most, .int .i64 c.seg, .int .i64 c.least, .int .i64 c.den, .int .i64 c.ll, .int .i64 c.rl, .int .i64 c.rh, .int .i64 c.lh] 32)).alloc (.cells #[.int .i64 s.seg, .slice a.w s.words.length a.cw, .slice a.k s.keys.length a.ck, .slice a.v s.vals.length a.cv, .slice a.c s.counts.length a.cc, .int .u64 (s.laid : Int)] 27)).alloc (.cells #[.int .i64 0, .slice none 0 0, .slice none 0 0, .slice none 0 0, .slice none 0 0, .int .u64 0] 27) ∧
    Hid (CBox W0 w.heap.size c) ∧ Hid (Box W0 (w.heap.size + 1) s a) ∧ Hid (Box W0 (w.heap.size + 2) Sl.none adsNone) ∧ Hid (Below w.heap.size w W0) ∧ w.heap.size + 3 ≤ W0.heap.size := by
  refine ⟨_, rfl, Lib.hid ?_, Lib.hid ?_, Lib.hid ?_, Lib.hid ?_, by simp⟩
  · exact ((CBox.new w c 32).below ((Below.refl _ _).alloc (Nat.le_refl _) _)).below ((Below.refl _ _).alloc (Nat.le_refl _) _)
  · exact (Box.second w _ s a 27).below ((Below.refl _ _).alloc (Nat.le_refl _) _)
  · exact Box.third w _ _ Sl.none adsNone 27
  · exact (((Below.refl w.heap.size w).alloc (Nat.le_refl _) _).alloc (by simp) _).alloc (by simp; omega) _
set_option maxRecDepth 100000 in
set_option maxHeartbeats 2000000 in
theorem gLoaded (c : Cf) (s : Sl) (a : Ads) (al : Option Addr) (cal : Nat) (ps : List (Int × Int)) (w : World) (hc : c.In) (h : Held w s a) (hok : s.Ok) (hs : s.Short) (hT : Tab w) (hm : c.mayB = true) (hn : (ps.length : Int) ≤ c.most) (hp : PLst w al ps) (h64 : In64P ps) :
    Calls Tryz.prog 33 #[cfv c, slv s a, .slice al ps.length cal] w (Ans (Ly.intoS s (c.takes ps.length) ps) (Ly.intoE s (c.takes ps.length) ps.length) w) := by
  obtain ⟨W0, hW0, BC, BX, BR, BB, zz⟩ := boxes_csr w c s a; have M := (Cf.may_iff c).1 hm
  have tb : c.takes ps.length ≤ 65535 := by
    have t1 := (Gp.takes_right M (m := ps.length) (by omega) hn).1; exact (M.size_bd t1).2
  have t0 : 0 ≤ c.takes ps.length := by
    have t1 := (Gp.takes_right M (m := ps.length) (by omega) hn).1; have := (M.size_bd t1).1; have := M.sizes.seg1
    omega
  have hl : ps.length ≤ 65536 := by have := M.sizes.most2; omega
  have CC := Lib.hid (fun W => kCap c ps.length W hc); have CI := Lib.hid (fun W (hb : Below w.heap.size w W) => yInto s a (c.takes ps.length) al cal ps W (h.below hb) hok hs (hT.below hb) ⟨by omega, by omega⟩ hl (hp.below hb) h64)
  have E1 : c.capV ps.length = c.takes ps.length ∧ c.capE ps.length = 0 := by unfold Cf.capV Cf.capE; rw [if_pos hm, if_pos hm, if_neg (by omega), if_neg (by omega), if_neg (by omega), if_neg (by omega)]; exact ⟨rfl, rfl⟩
  rw [E1.1, E1.2] at CC; generalize Ly.intoS s (c.takes ps.length) ps = t at *; generalize Ly.intoE s (c.takes ps.length) ps.length = er at *; generalize c.takes ps.length = z at *; clear hc h hok hs hT hm hn hp h64 M E1; unfold cfv at CC; unfold slv at CI; unfold slv cfv
  go_enter Tryz.func33, Tryz.ntmps33
  go_upto_region 1 with (fail)
  rw [← hW0]; clear hW0; obtain ⟨_, c0, c1, c2, c3, c4, c5, c6, c7, c8, _⟩ := BC.out
  go_wp2_with fail
  refine (CC.out _).mono ?_; rintro e w1 ⟨rfl, hb⟩; replace BR := Lib.hid (BR.out.below hb); replace BX := Lib.hid (BX.out.below hb); replace BB := Lib.hid (BB.out.trans (hb.mono BB.out.size)); have zz1 := hb.size; clear hb c0 c1 c2 c3 c4 c5 c6 c7 c8; obtain ⟨_, q0, q1, q2, q3, q4, q5, _⟩ := BX.out
  go_wp2_with fail
  refine (CI.out _ BB.out).mono ?_; rintro e w2 ⟨a2, rfl, own, hb⟩; replace BR := Lib.hid (BR.out.below hb); replace BB := Lib.hid (BB.out.trans (hb.mono BB.out.size)); have FIN := Lib.hid (ans_put6 (r := w.heap.size + 2) own BB.out (by omega) (by omega)); clear own hb q0 q1 q2 q3 q4 q5; obtain ⟨_, s0, s1, s2, s3, s4, s5, sf⟩ := BR.out; have sf0 := sf 0; have sf1 := sf 1; have sf2 := sf 2; have sf3 := sf 3; have sf4 := sf 4; have sf5 := sf 5; clear sf; unfold slv; go_wp2; refine bodyPost_ret (v := .tuple #[slv t a2, .int .i64 er]) (by simp [results, Tryz.results33, go_sem, slv, s0, s1, s2, s3, s4, s5, sf0, sf1, sf2, sf3, sf4, sf5]) rfl ?_; exact ⟨_, rfl, FIN.out _ _ _ _ _ _⟩

/-- The boxes of a config, a gapped array and a pair, one behind another. -/
structure Bx3 (W : World) (n : Nat) (c : Cf) (s : Sl) (a : Ads) (p1 p2 : Int) : Prop where
  c : CBox W n c
  s : Box W (n + 1) s a
  p : PBox W (n + 2) (p1, p2)
theorem Box.low {w w' : World} {n g : Nat} {s : Sl} {a : Ads} (h : Box w g s a) (hn : g < n) (hb : Below n w w') : Box w' g s a := (Kept.of_below (Z := fun k => k < n) hb (fun k hk => hk)).box h hn
theorem CBox.low {w w' : World} {n g : Nat} {c : Cf} (h : CBox w g c) (hn : g < n) (hb : Below n w w') : CBox w' g c :=
  have hc : ∀ o, w'.cell? ⟨g, o, none⟩ = w.cell? ⟨g, o, none⟩ := fun o => hb.cell (p := ⟨g, o, none⟩) hn
  ⟨Nat.lt_of_lt_of_le h.lt hb.size, (hc 0).trans h.c0, (hc 1).trans h.c1, (hc 2).trans h.c2, (hc 3).trans h.c3, (hc 4).trans h.c4, (hc 5).trans h.c5, (hc 6).trans h.c6, (hc 7).trans h.c7, (hc 8).trans h.c8, fun o => (hb.frozen (p := ⟨g, o, none⟩) hn).trans (h.fz o)⟩
theorem PBox.low {w w' : World} {n g : Nat} {p : Int × Int} (h : PBox w g p) (hn : g < n) (hb : Below n w w') : PBox w' g p :=
  have hc : ∀ o, w'.cell? ⟨g, o, none⟩ = w.cell? ⟨g, o, none⟩ := fun o => hb.cell (p := ⟨g, o, none⟩) hn; have hf : ∀ o, w'.frozen? ⟨g, o, none⟩ = w.frozen? ⟨g, o, none⟩ := fun o => hb.frozen (p := ⟨g, o, none⟩) hn
  ⟨Nat.lt_of_lt_of_le h.lt hb.size, (hc 0).trans h.c0, (hc 1).trans h.c1, (hf 0).trans h.f0, (hf 1).trans h.f1⟩
theorem Bx3.low {w w' : World} {n : Nat} {c : Cf} {s : Sl} {a : Ads} {p1 p2 : Int} (h : Bx3 w n c s a p1 p2) (hb : Below (n + 3) w w') : Bx3 w' n c s a p1 p2 := ⟨h.c.low (by omega) hb, h.s.low (by omega) hb, h.p.low (by omega) hb⟩
theorem Bx3.cells {w0 w : World} {c : Cf} {s : Sl} {a : Ads} {p1 p2 : Int} (h : Bx3 w0 w.heap.size c s a p1 p2) : w0.cell? ⟨w.heap.size, 0, none⟩ = some (.int .u8 c.tag) ∧ w0.cell? ⟨w.heap.size, 1, none⟩ = some (.int .i64 c.most) ∧ w0.cell? ⟨w.heap.size, 2, none⟩ = some (.int .i64 c.seg) ∧ w0.cell? ⟨w.heap.size, 3, none⟩ = some (.int .i64 c.least) ∧ w0.cell? ⟨w.heap.size, 4, none⟩ = some (.int .i64 c.den) ∧ w0.cell? ⟨w.heap.size, 5, none⟩ = some (.int .i64 c.ll) ∧ w0.cell? ⟨w.heap.size, 6, none⟩ = some (.int .i64 c.rl) ∧ w0.cell? ⟨w.heap.size, 7, none⟩ = some (.int .i64 c.rh) ∧ w0.cell? ⟨w.heap.size, 8, none⟩ = some (.int .i64 c.lh) ∧ w0.cell? ⟨w.heap.size + 1, 0, none⟩ = some (.int .i64 s.seg) ∧ w0.cell? ⟨w.heap.size + 1, 1, none⟩ = some (.slice a.w s.words.length a.cw) ∧ w0.cell? ⟨w.heap.size + 1, 2, none⟩ = some (.slice a.k s.keys.length a.ck) ∧ w0.cell? ⟨w.heap.size + 1, 3, none⟩ = some (.slice a.v s.vals.length a.cv) ∧ w0.cell? ⟨w.heap.size + 1, 4, none⟩ = some (.slice a.c s.counts.length a.cc) ∧ w0.cell? ⟨w.heap.size + 1, 5, none⟩ = some (.int .u64 (s.laid : Int)) ∧ w0.cell? ⟨w.heap.size + 2, 0, none⟩ = some (.int .i64 p1) ∧ w0.cell? ⟨w.heap.size + 2, 1, none⟩ = some (.int .i64 p2) :=
  ⟨h.c.c0, h.c.c1, h.c.c2, h.c.c3, h.c.c4, h.c.c5, h.c.c6, h.c.c7, h.c.c8, h.s.c0, h.s.c1, h.s.c2, h.s.c3, h.s.c4, h.s.c5, h.p.c0, h.p.c1⟩

namespace Gp
end Gp

end Go.Proofs.YtgcdidklaiaohaaGreatDoor

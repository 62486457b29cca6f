/- What package gap's refilled and put return. -/
import Derived.Test.YtpeckljoannolaaGreatDoorP9aOt
import Derived.Test.YtpeckljoannolaaGreatDoorP09Ot
import Derived.Test.YtpeckljoannolaaGreatDoorM08Ot
import Derived.Test.YtpeckljoannolaaGreatDoorS9aOt
import Derived.Test.YtpeckljoannolaaGreatDoorP6aOt
import Derived.Test.YtpeckljoannolaaGreatDoorP07Ot
import Derived.Test.YtpeckljoannolaaGreatDoorP6bOt
import Derived.Laws.StructEq
import Derived.Test.YtpeckljoannolaaGreatDoorTkOt
set_option linter.unusedVariables false
set_option linter.unusedSimpArgs false
namespace Go.Proofs.YtpeckljoannolaaGreatDoor
open Go.RowKit
namespace Gp
theorem path_at (c:Cf) (x H:Nat) {k:Nat} (hk:k<=H):((List.range (H+1)).map fun k:Nat=>(lo c k x,hi c k x)).getD k (0,0)=(lo c k x,hi c k x):=by
 rw [List.getD_eq_getElem?_getD,List.getElem?_map,List.getElem?_range (by omega)]
 rfl
theorem topF_congr {p q:Nat->Bool}:∀ n:Nat,(∀ k,k < n->p k=q k)->topF p n=topF q n
 | 0,_=>rfl
 | n+1,h=>by
  unfold topF;rw [h n (by omega),topF_congr n fun k hk=>h k (by omega)]
end Gp
end Go.Proofs.YtpeckljoannolaaGreatDoor
namespace Go.Proofs.YtpeckljoannolaaGreatDoor
open Go.RowKit Go.Shelf
structure Pth (c:Cf) (n H x:Nat) (ps:List (Int×Int)):Prop where
 len:ps.length=H+1
 is:∀ k:Nat,k<=H->ps.getD k (0,0)=(Gp.lo c k x,Gp.hi c k x)
theorem Pth.top {c:Cf} {n H x:Nat} {ps:List (Int×Int)} (P:Pth c n H x ps) (f:Nat->Int->Int->Bool):Gp.topF (fun k=>f k (ps.getD k (0,0)).1 (ps.getD k (0,0)).2) ps.length=Gp.topF (fun k=>f k (((List.range (H+1)).map fun k:Nat=>(Gp.lo c k x,Gp.hi c k x)).getD k (0,0)).1 (((List.range (H+1)).map fun k:Nat=>(Gp.lo c k x,Gp.hi c k x)).getD k (0,0)).2) (H+1):=by
 rw [P.len]
 exact Gp.topF_congr _ fun k hk=>by rw [P.is k (by omega),Gp.path_at c x H (by omega)]
structure Bx4 (W:World) (n:Nat) (s:Sl) (a:Ads) (p1 p2:Int) (gp:Nat) (lo hi:Int):Prop where
 s:Box W (n+1) s a
 p:PBox W (n+2) (p1,p2)
 l:gp < W.heap.size
 q0:W.cell? ⟨gp,0,none⟩=some (.int .i64 lo)
 q1:W.cell? ⟨gp,1,none⟩=some (.int .i64 hi)
theorem arr_cells {W:World} {gp:Nat} {lo hi:Int} {t:TypeId} (h:W.heap[gp]?=some (.cells #[.int .i64 lo,.int .i64 hi] t)):W.cell? ⟨gp,0,none⟩=some (.int .i64 lo)/\W.cell? ⟨gp,1,none⟩=some (.int .i64 hi)/\∀ o,W.frozen? ⟨gp,o,none⟩=false:=by
 refine⟨?_,?_,fun o=>?_⟩
 ·simp only [World.cell?,h];rfl
 ·simp only [World.cell?,h];rfl
 ·simp [World.frozen?,h]
theorem Bx4.new {W:World} {n gp:Nat} {s:Sl} {a:Ads} {p1 p2 lo hi:Int} {t:TypeId} (hs:Box W (n+1) s a) (hp:PBox W (n+2) (p1,p2)) (h:W.heap[gp]?=some (.cells #[.int .i64 lo,.int .i64 hi] t)):Bx4 W n s a p1 p2 gp lo hi :=
 ⟨hs,hp,(Array.getElem?_eq_some_iff.1 h).1,(arr_cells h).1,(arr_cells h).2.1⟩
theorem Bx4.kept {W W':World} {n gp:Nat} {s:Sl} {a:Ads} {p1 p2 lo hi:Int} (h:Bx4 W n s a p1 p2 gp lo hi) {Z:Nat->Prop} (hk:Kept Z W W') (z1:Z (n+1)) (z2:Z (n+2)) (z3:Z gp):Bx4 W' n s a p1 p2 gp lo hi :=
 have hc:∀ o,W'.cell? ⟨n+2,o,none⟩=W.cell? ⟨n+2,o,none⟩:=fun o=>hk.cell (p:=⟨n+2,o,none⟩) z2;have hf:∀ o,W'.frozen? ⟨n+2,o,none⟩=W.frozen? ⟨n+2,o,none⟩:=fun o=>hk.frozen (p:=⟨n+2,o,none⟩) z2
 ⟨hk.box h.s z1,⟨Nat.lt_of_lt_of_le h.p.lt hk.size,(hc 0).trans h.p.c0,(hc 1).trans h.p.c1,(hf 0).trans h.p.f0,(hf 1).trans h.p.f1⟩,Nat.lt_of_lt_of_le h.l hk.size,(hk.cell (p:=⟨gp,0,none⟩) z3).trans h.q0,(hk.cell (p:=⟨gp,1,none⟩) z3).trans h.q1⟩
theorem Bx4.below {W W':World} {n gp:Nat} {s:Sl} {a:Ads} {p1 p2 lo hi:Int} (h:Bx4 W n s a p1 p2 gp lo hi) (hb:Below W.heap.size W W'):Bx4 W' n s a p1 p2 gp lo hi :=
 h.kept (Z:=fun k=>k < W.heap.size) (Kept.of_below hb (fun k hk=>hk)) h.s.lt h.p.lt h.l
theorem Bx4.cells {w0 w:World} {s:Sl} {a:Ads} {p1 p2 lo hi:Int} {gp:Nat} (h:Bx4 w0 w.heap.size s a p1 p2 gp lo hi):(w0.cell? ⟨w.heap.size+1,0,none⟩=some (.int .i64 s.seg)/\w0.cell? ⟨w.heap.size+1,1,none⟩=some (.slice a.w s.words.length a.cw)/\w0.cell? ⟨w.heap.size+1,2,none⟩=some (.slice a.k s.keys.length a.ck)/\w0.cell? ⟨w.heap.size+1,3,none⟩=some (.slice a.v s.vals.length a.cv)/\w0.cell? ⟨w.heap.size+1,4,none⟩=some (.slice a.c s.counts.length a.cc)/\w0.cell? ⟨w.heap.size+1,5,none⟩=some (.int .u64 (s.laid:Int)))/\(w0.cell? ⟨w.heap.size+2,0,none⟩=some (.int .i64 p1)/\w0.cell? ⟨w.heap.size+2,1,none⟩=some (.int .i64 p2))/\w0.cell? ⟨gp,0,none⟩=some (.int .i64 lo)/\w0.cell? ⟨gp,1,none⟩=some (.int .i64 hi) :=
 ⟨⟨h.s.c0,h.s.c1,h.s.c2,h.s.c3,h.s.c4,h.s.c5⟩,⟨h.p.c0,h.p.c1⟩,h.q0,h.q1⟩
end Go.Proofs.YtpeckljoannolaaGreatDoor

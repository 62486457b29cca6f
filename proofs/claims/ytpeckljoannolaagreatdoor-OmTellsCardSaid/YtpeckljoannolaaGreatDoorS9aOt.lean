/- Package gap's returns, a cost and a refill. -/
import Derived.Test.YtpeckljoannolaaGreatDoorGapCOt
import Derived.Test.YtpeckljoannolaaGreatDoorGapDOt
import Derived.Test.YtpeckljoannolaaGreatDoorR01Ot
import Derived.Test.YtpeckljoannolaaGreatDoorM04Ot
import Derived.Test.YtpeckljoannolaaGreatDoorR04Ot
import Derived.Test.YtpeckljoannolaaGreatDoorP06Ot
import Derived.Deep.RegionHeld3
import Derived.Shelf.Spec.SlicesInsert
import Derived.Lib.AppendZerosOnto
import Derived.Laws.CopyOwn
import Derived.Test.YtpeckljoannolaaGreatDoorP8bOt
import Derived.Test.YtpeckljoannolaaGreatDoorM20Ot
import Derived.Test.YtpeckljoannolaaGreatDoorP07Ot
import Derived.Test.YtpeckljoannolaaGreatDoorM15Ot
import Derived.Test.YtpeckljoannolaaGreatDoorS5bOt
import Derived.Test.YtpeckljoannolaaGreatDoorP09Ot
import Derived.Test.YtpeckljoannolaaGreatDoorM08Ot
import Derived.Test.YtpeckljoannolaaGreatDoorTkOt
set_option linter.unusedVariables false
set_option linter.unusedSimpArgs false
namespace Go.Proofs.YtpeckljoannolaaGreatDoor
open Go.RowKit
structure Bx3 (W:World) (n:Nat) (c:Cf) (s:Sl) (a:Ads) (p1 p2:Int):Prop where
 c:CBox W n c
 s:Box W (n+1) s a
 p:PBox W (n+2) (p1,p2)
theorem Box.low {w w':World} {n g:Nat} {s:Sl} {a:Ads} (h:Box w g s a) (hn:g < n) (hb:Below n w w'):Box w' g s a:=(Kept.of_below (Z:=fun k=>k < n) hb (fun k hk=>hk)).box h hn
theorem CBox.low {w w':World} {n g:Nat} {c:Cf} (h:CBox w g c) (hn:g < n) (hb:Below n w w'):CBox w' g c :=
 have hc:∀ o,w'.cell? ⟨g,o,none⟩=w.cell? ⟨g,o,none⟩:=fun o=>hb.cell (p:=⟨g,o,none⟩) hn
 ⟨Nat.lt_of_lt_of_le h.lt hb.size,(hc 0).trans h.c0,(hc 1).trans h.c1,(hc 2).trans h.c2,(hc 3).trans h.c3,(hc 4).trans h.c4,(hc 5).trans h.c5,(hc 6).trans h.c6,(hc 7).trans h.c7,(hc 8).trans h.c8,fun o=>(hb.frozen (p:=⟨g,o,none⟩) hn).trans (h.fz o)⟩
theorem PBox.low {w w':World} {n g:Nat} {p:Int×Int} (h:PBox w g p) (hn:g < n) (hb:Below n w w'):PBox w' g p :=
 have hc:∀ o,w'.cell? ⟨g,o,none⟩=w.cell? ⟨g,o,none⟩:=fun o=>hb.cell (p:=⟨g,o,none⟩) hn;have hf:∀ o,w'.frozen? ⟨g,o,none⟩=w.frozen? ⟨g,o,none⟩:=fun o=>hb.frozen (p:=⟨g,o,none⟩) hn
 ⟨Nat.lt_of_lt_of_le h.lt hb.size,(hc 0).trans h.c0,(hc 1).trans h.c1,(hf 0).trans h.f0,(hf 1).trans h.f1⟩
theorem Bx3.low {w w':World} {n:Nat} {c:Cf} {s:Sl} {a:Ads} {p1 p2:Int} (h:Bx3 w n c s a p1 p2) (hb:Below (n+3) w w'):Bx3 w' n c s a p1 p2:=⟨h.c.low (by omega) hb,h.s.low (by omega) hb,h.p.low (by omega) hb⟩
theorem Bx3.cells {w0 w:World} {c:Cf} {s:Sl} {a:Ads} {p1 p2:Int} (h:Bx3 w0 w.heap.size c s a p1 p2):w0.cell? ⟨w.heap.size,0,none⟩=some (.int .u8 c.tag)/\w0.cell? ⟨w.heap.size,1,none⟩=some (.int .i64 c.most)/\w0.cell? ⟨w.heap.size,2,none⟩=some (.int .i64 c.seg)/\w0.cell? ⟨w.heap.size,3,none⟩=some (.int .i64 c.least)/\w0.cell? ⟨w.heap.size,4,none⟩=some (.int .i64 c.den)/\w0.cell? ⟨w.heap.size,5,none⟩=some (.int .i64 c.ll)/\w0.cell? ⟨w.heap.size,6,none⟩=some (.int .i64 c.rl)/\w0.cell? ⟨w.heap.size,7,none⟩=some (.int .i64 c.rh)/\w0.cell? ⟨w.heap.size,8,none⟩=some (.int .i64 c.lh)/\w0.cell? ⟨w.heap.size+1,0,none⟩=some (.int .i64 s.seg)/\w0.cell? ⟨w.heap.size+1,1,none⟩=some (.slice a.w s.words.length a.cw)/\w0.cell? ⟨w.heap.size+1,2,none⟩=some (.slice a.k s.keys.length a.ck)/\w0.cell? ⟨w.heap.size+1,3,none⟩=some (.slice a.v s.vals.length a.cv)/\w0.cell? ⟨w.heap.size+1,4,none⟩=some (.slice a.c s.counts.length a.cc)/\w0.cell? ⟨w.heap.size+1,5,none⟩=some (.int .u64 (s.laid:Int))/\w0.cell? ⟨w.heap.size+2,0,none⟩=some (.int .i64 p1)/\w0.cell? ⟨w.heap.size+2,1,none⟩=some (.int .i64 p2) :=
 ⟨h.c.c0,h.c.c1,h.c.c2,h.c.c3,h.c.c4,h.c.c5,h.c.c6,h.c.c7,h.c.c8,h.s.c0,h.s.c1,h.s.c2,h.s.c3,h.s.c4,h.s.c5,h.p.c0,h.p.c1⟩
namespace Gp
end Gp
end Go.Proofs.YtpeckljoannolaaGreatDoor

/- The plain functions of layer 4 (slots): gapped arrays as plain lists, and what the calls answer. No program is named here. -/
import Derived.Test.YtephmejhglcdiaaFn01
import Derived.Test.YtephmejhglcdiaaFn02
import Derived.Test.YtephmejhglcdiaaBits
namespace Go.Proofs.Ytephmejhglcdiaa

/-- Words in which a slot is occupied, or is not. -/
def Oc.putW (ws : List Nat) (s : Nat) (is : Bool) : List Nat := ws.set (s / 64) (Oc.putN (ws.getD (s / 64) 0) (s % 64) is)

structure Sl where
  seg : Int
  words : List Nat
  keys : List Int
  vals : List Int
  counts : List Int
  laid : Nat

namespace Sl
def none : Sl := ⟨0, [], [], [], [], 0⟩
def fitsB (seg many : Int) : Bool := decide (4 ≤ seg) && decide (seg ≤ 64) && Fr.powB seg && decide (1 ≤ many) && decide (many ≤ 65536) && decide (many % seg = 0) && Fr.powB (many / seg)
def zeroAt (s : Sl) (i : Nat) : Bool := Oc.isB s.words i || (s.keys.getD i 0 == 0 && s.vals.getD i 0 == 0)
def zerosB (s : Sl) (k : Nat) : Bool := (List.range k).all s.zeroAt
def countOf (s : Sl) (i : Nat) : Int := ((Oc.places s.words (i * s.seg.toNat) ((i + 1) * s.seg.toNat)).length : Int)
def countAt (s : Sl) (i : Nat) : Bool := s.counts.getD i 0 == s.countOf i
def countsB (s : Sl) (k : Nat) : Bool := (List.range k).all s.countAt
def formB (s : Sl) : Bool := fitsB s.seg s.keys.length && s.vals.length == s.keys.length && Oc.mayB s.words s.keys.length && decide ((s.counts.length : Int) = (s.keys.length : Int) / s.seg)
def mayB (s : Sl) : Bool := s.formB && s.zerosB s.keys.length && s.countsB s.counts.length
def segOf (s : Sl) (i : Nat) : Nat := i / s.seg.toNat
def emptied (s : Sl) (i : Nat) : Sl :=
  { s with words := Oc.putW s.words i false, keys := s.keys.set i 0, vals := s.vals.set i 0,
           counts := if Oc.isB s.words i then s.counts.set (s.segOf i) (s.counts.getD (s.segOf i) 0 - 1) else s.counts }
def filledAt (s : Sl) (i : Nat) (p : Int × Int) : Sl :=
  { s with words := Oc.putW s.words i true, keys := s.keys.set i p.1, vals := s.vals.set i p.2,
           counts := s.counts.set (s.segOf i) (s.counts.getD (s.segOf i) 0 + 1), laid := (s.laid + 1) % 18446744073709551616 }
def withP (s : Sl) (i : Nat) (p : Int × Int) : Sl := (s.emptied i).filledAt i p
def pairAt (s : Sl) (i : Nat) : Int × Int := (s.keys.getD i 0, s.vals.getD i 0)
def of (s : Sl) (a b : Nat) : List (Int × Int) := (Oc.places s.words a b).map s.pairAt
def partB (n a b : Int) : Bool := decide (0 ≤ a) && decide (a ≤ b) && decide (b ≤ n)
def slotB (s : Sl) (i : Int) : Bool := decide (0 ≤ i) && decide (i < s.keys.length)

def chk (s : Sl) : Int := if s.mayB then 0 else 8
def newE (seg many : Int) : Int := if fitsB seg many then 0 else 2
def empty (seg many : Int) : Sl := ⟨seg, List.replicate ((many + 63) / 64).toNat 0, List.replicate many.toNat 0, List.replicate many.toNat 0, List.replicate (many / seg).toNat 0, 0⟩
def newS (seg many : Int) : Sl := if fitsB seg many then empty seg many else none
def atE (s : Sl) (i : Int) : Int := if s.mayB then (if s.slotB i then (if Oc.isB s.words i.toNat then 0 else 6) else 2) else 8
def atV (s : Sl) (i : Int) : Int × Int := if s.atE i = 0 then s.pairAt i.toNat else (0, 0)
def pairsE (s : Sl) (a b : Int) : Int := if s.mayB then (if partB s.keys.length a b then 0 else 2) else 8
def pairsV (s : Sl) (a b : Int) : List (Int × Int) := if s.pairsE a b = 0 then s.of a.toNat b.toNat else []
def layE (s : Sl) (i : Int) : Int := if s.mayB then (if s.slotB i then 0 else 2) else 8
def layS (s : Sl) (i : Int) (p : Int × Int) : Sl := if s.layE i = 0 then s.withP i.toNat p else none
def clearS (s : Sl) (i : Int) : Sl := if s.atE i = 0 then s.emptied i.toNat else none
def moveE (s : Sl) (i j : Int) : Int := if s.atE i = 0 then (if s.slotB j then (if j ≠ i ∧ Oc.isB s.words j.toNat = true then 9 else 0) else 2) else s.atE i
def moveS (s : Sl) (i j : Int) : Sl := if s.moveE i j = 0 then (s.emptied i.toNat).withP j.toNat (s.pairAt i.toNat) else none
def risesB (l : List Int) : Bool := (List.range (l.length - 1)).all fun i => decide (l.getD i 0 < l.getD (i + 1) 0)
def insideB (l : List Int) (a b : Int) : Bool := l.isEmpty || (decide (a ≤ l.getD 0 0) && decide (l.getD (l.length - 1) 0 < b))
def fillE (s : Sl) (a b : Int) (l : List Int) (n : Nat) : Int :=
  if s.mayB then (if partB s.keys.length a b && l.length == n && risesB l then (if insideB l a b then 0 else 2) else 2) else 8
/-- The slots from a on, k of them, cleared. -/
def wiped (s : Sl) (a : Nat) : Nat → Sl
  | 0 => s
  | k + 1 => (s.wiped a k).emptied (a + k)
/-- The first k of the pairs, laid one by one. -/
def laidIn (s : Sl) (l : List Int) (ps : List (Int × Int)) : Nat → Sl
  | 0 => s
  | k + 1 => (s.laidIn l ps k).filledAt (l.getD k 0).toNat (ps.getD k (0, 0))
def filled (s : Sl) (a b : Int) (l : List Int) (ps : List (Int × Int)) : Sl := (s.wiped a.toNat (b - a).toNat).laidIn l ps ps.length
def fillS (s : Sl) (a b : Int) (l : List Int) (ps : List (Int × Int)) : Sl := if s.fillE a b l ps.length = 0 then s.filled a b l ps else none
def sameB (s t : Sl) : Bool := s.seg == t.seg && s.laid == t.laid && s.words == t.words && s.keys == t.keys && s.vals == t.vals && s.counts == t.counts
def greatB (s : Sl) (n : Int) : Bool := decide (n < s.keys.length) || decide (n < s.vals.length) || decide (n < s.words.length) || decide (n < s.counts.length)
end Sl
end Go.Proofs.Ytephmejhglcdiaa

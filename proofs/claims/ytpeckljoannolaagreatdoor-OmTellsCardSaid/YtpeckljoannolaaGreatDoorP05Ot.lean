/- Configs as plain data, and in boxes. -/
import Derived.Test.YtpeckljoannolaaGreatDoorM01Ot
import Derived.WalkKit
import Derived.Lib.Hide
import Derived.Below
import Derived.Test.YtpeckljoannolaaGreatDoorTkOt
set_option linter.unusedVariables false
set_option linter.unusedSimpArgs false
namespace Go.Proofs.YtpeckljoannolaaGreatDoor
structure Cf where
 tag:Int
 most:Int
 seg:Int
 least:Int
 den:Int
 ll:Int
 rl:Int
 rh:Int
 lh:Int
namespace Cf
def sizesB (c:Cf):Bool:=(c.tag==1||c.tag==2||c.tag==3)&&(decide (1<=c.most)&&decide (c.most<=16384))&&(decide (4<=c.seg)&&decide (c.seg<=64))&&Fr.powB c.seg&&(decide (c.seg<=c.least)&&decide (c.least<=256))&&Fr.powB c.least&&(decide (1<=c.den)&&decide (c.den<=64))
def densB (c:Cf):Bool:=decide (0<=c.ll)&&decide (c.ll < c.rl)&&decide (c.rh < c.lh)&&decide (c.lh<=c.den)&&decide (c.den<=2*c.rh)&&decide (8*c.rl<=c.den)&&decide (2*c.den<=c.rl*c.least)
def dbl:Nat->Int->Int->Int->Int
 | 0,_,_,s=>s
 | k+1,nd,r,s=>if r*s < nd then dbl k nd r (2*s) else s
def takes (c:Cf) (n:Int):Int:=dbl 20 (n*c.den) c.rh c.least
def high (c:Cf) (size:Int):Int:=Fr.lg (size/c.seg)
def top (c:Cf):Int:=c.takes c.most
def fallsB (c:Cf):Bool:=decide (c.high c.top*c.den<=(c.lh-c.rh)*c.seg)
def mayB (c:Cf):Bool:=c.sizesB&&c.densB&&c.fallsB
def chkE (c:Cf):Int:=if c.mayB then 0 else 50
def isB (c:Cf) (size:Int):Bool:=Fr.powB size&&(decide (c.least<=size)&&decide (size<=c.top))
def highE (c:Cf) (size:Int):Int:=if c.mayB then (if c.isB size then 0 else 2) else 50
def highV (c:Cf) (size:Int):Int:=if c.mayB then (if c.isB size then c.high size else 0) else 0
def wide (c:Cf) (h:Int):Int:=c.seg*2^h.toNat
def inB (c:Cf) (size h n:Int):Bool:=decide (0<=h)&&decide (h<=c.high size)&&(decide (0<=n)&&decide (n<=c.wide h))
def askE (c:Cf) (size h n:Int):Int:=if c.mayB then (if c.isB size then (if c.inB size h n then 0 else 2) else 2) else 50
def okB (c:Cf) (size h n:Int):Bool:=c.mayB&&c.isB size&&c.inB size h n
def manyB (c:Cf) (size h n:Int):Bool :=
 if c.high size=0 then decide (n*c.den<=c.wide h*c.rh) else decide (n*c.high size*c.den<=c.wide h*(c.lh*(c.high size-h)+c.rh*h))
def fewB (c:Cf) (size h n:Int):Bool :=
 size==c.least||decide (c.wide h*(c.ll*(c.high size-h)+c.rl*h)<=(n+1)*c.high size*c.den)
def fullV (c:Cf) (size h n:Int):Bool:=c.okB size h n&&c.manyB size h n
def sparseV (c:Cf) (size h n:Int):Bool:=c.okB size h n&&c.fewB size h n
structure Sizes (c:Cf):Prop where
 tag:c.tag=1∨c.tag=2∨c.tag=3
 most1:1<=c.most
 most2:c.most<=16384
 seg1:4<=c.seg
 seg2:c.seg<=64
 segp:Fr.powB c.seg=true
 least1:c.seg<=c.least
 least2:c.least<=256
 leastp:Fr.powB c.least=true
 den1:1<=c.den
 den2:c.den<=64
structure Dens (c:Cf):Prop where
 ll0:0<=c.ll
 llrl:c.ll < c.rl
 rhlh:c.rh < c.lh
 lhd:c.lh<=c.den
 rhd:c.den<=2*c.rh
 rld:8*c.rl<=c.den
 rll:2*c.den<=c.rl*c.least
theorem sizes_iff (c:Cf):c.sizesB=true↔c.Sizes:=by
 unfold sizesB
 simp only [Bool.and_eq_true,Bool.or_eq_true,beq_iff_eq,decide_eq_true_eq]
 constructor
 ·rintro⟨⟨⟨⟨⟨⟨h1,h2,h3⟩,h4,h5⟩,h6⟩,h7,h8⟩,h9⟩,h10,h11⟩
  exact⟨by omega,h2,h3,h4,h5,h6,h7,h8,h9,h10,h11⟩
 ·rintro⟨h1,h2,h3,h4,h5,h6,h7,h8,h9,h10,h11⟩
  exact⟨⟨⟨⟨⟨⟨by omega,h2,h3⟩,h4,h5⟩,h6⟩,h7,h8⟩,h9⟩,h10,h11⟩
theorem dens_iff (c:Cf):c.densB=true↔c.Dens:=by
 unfold densB
 simp only [Bool.and_eq_true,decide_eq_true_eq]
 constructor
 ·rintro⟨⟨⟨⟨⟨⟨h1,h2⟩,h3⟩,h4⟩,h5⟩,h6⟩,h7⟩
  exact⟨h1,h2,h3,h4,h5,h6,h7⟩
 ·rintro⟨h1,h2,h3,h4,h5,h6,h7⟩
  exact⟨⟨⟨⟨⟨⟨h1,h2⟩,h3⟩,h4⟩,h5⟩,h6⟩,h7⟩
theorem dbl_ge (k:Nat) (nd r:Int):∀ s:Int,1<=s->s<=dbl k nd r s:=by
 induction k with
 | zero=>intro s _;exact Int.le_refl _
 | succ k ih =>
  intro s hs;unfold dbl
  split
  ·have:=ih (2*s) (by omega);omega
  ·exact Int.le_refl _
theorem dbl_lt (k:Nat) (nd r:Int):∀ s:Int,dbl k nd r s=s∨r*dbl k nd r s < 2*nd:=by
 induction k with
 | zero=>intro s;exact Or.inl rfl
 | succ k ih =>
  intro s;unfold dbl
  split
  ·rename_i h
   rcases ih (2*s) with e | e
   ·right;rw [e,show r*(2*s)=2*(r*s) by rw [Int.mul_left_comm]];omega
   ·exact Or.inr e
  ·exact Or.inl rfl
theorem mul_le_of {r s:Int} (hr:1<=r) (hs:0<=s):s<=r*s:=by
 have:=Int.mul_le_mul_of_nonneg_right hr hs
 omega
structure Run (c:Cf) (n size:Int) (k:Nat):Prop where
 s1:1<=size
 eq:dbl k (n*c.den) c.rh size=c.takes n
 fuel:n*c.den<=size*2^k
theorem Dens.rh1 {c:Cf} (h:c.Dens) (hs:c.Sizes):1<=c.rh:=by have:=h.rhd;have:=hs.den1;omega
theorem Dens.rh2 {c:Cf} (h:c.Dens) (hs:c.Sizes):c.rh<=63:=by have:=h.rhlh;have:=h.lhd;have:=hs.den2;omega
theorem nd_le {c:Cf} (hs:c.Sizes) {n:Int} (h0:0<=n) (hn:n<=16384):0<=n*c.den/\n*c.den<=1048576:=by
 have h1:=hs.den1;have h2:=hs.den2;have a:=Int.mul_nonneg h0 (show 0<=c.den by omega);have b:=Int.mul_le_mul hn h2 (by omega) (by omega)
 omega
theorem Run.start {c:Cf} (hs:c.Sizes) {n:Int} (h0:0<=n) (hn:n<=16384):Run c n c.least 20:=by
 have:=nd_le hs h0 hn;have h1:=hs.seg1;have h2:=hs.least1;refine⟨by omega,rfl,?_⟩;rw [show (2:Int)^20=1048576 from by decide]
 omega
theorem Run.step {c:Cf} {n size:Int} {k:Nat} (h:Run c n size k) (hr:1<=c.rh) (hlt:c.rh*size < n*c.den):∃ k',Run c n (size*2) k':=by
 rw [Int.mul_comm size 2];have h1:=h.s1
 cases k with
 | zero =>
  have:=h.fuel;rw [Int.pow_zero,Int.mul_one] at this;have:=mul_le_of hr (show 0<=size by omega)
  omega
 | succ k =>
  refine⟨k,by omega,?_,?_⟩
  ·have:=h.eq
   unfold dbl at this;rw [if_pos hlt] at this;exact this
  ·have:=h.fuel
   rw [Int.pow_succ,show size*(2^k*2)=2*size*2^k by rw [Int.mul_comm (2^k) 2,<-Int.mul_assoc,Int.mul_comm size 2]] at this;exact this
theorem Run.done {c:Cf} {n size:Int} {k:Nat} (h:Run c n size k) (hge:¬ c.rh*size < n*c.den):c.takes n=size:=by
 have:=h.eq
 cases k with
 | zero=>exact this.symm
 | succ k =>
  unfold dbl at this;rw [if_neg hge] at this;exact this.symm
theorem Run.le {c:Cf} {n size:Int} {k:Nat} (h:Run c n size k):size<=c.takes n:=by
 rw [<-h.eq];exact dbl_ge k _ _ size h.s1
theorem takes_le {c:Cf} (hs:c.Sizes) (hd:c.Dens) {n:Int} (h0:0<=n) (hn:n<=16384):c.takes n<=65535:=by
 have hr:=hd.rh1 hs;unfold takes
 rcases dbl_lt 20 (n*c.den) c.rh c.least with e | e
 ·rw [e];have:=hs.least2;omega
 ·have h1:n*c.den<=n*(2*c.rh):=Int.mul_le_mul_of_nonneg_left hd.rhd h0
  have h2:c.rh*(4*n)=2*(n*(2*c.rh)):=by
   rw [Int.mul_comm c.rh (4*n),Int.mul_assoc,Int.mul_left_comm n 2 c.rh];omega
  have h3:c.rh*dbl 20 (n*c.den) c.rh c.least < c.rh*(4*n):=by omega
  have:=Int.lt_of_mul_lt_mul_left h3 (by omega)
  omega
theorem takes_ge (c:Cf) (hs:c.Sizes) (n:Int):c.least<=c.takes n:=dbl_ge 20 _ _ _ (by have:=hs.seg1;have:=hs.least1;omega)
theorem pow_le20 (k:Nat) (h:k<=20):(2:Int)^k<=1048576:=by
 have:2^k<=2^20:=Nat.pow_le_pow_right (by decide) h
 have e1:((2^k:Nat):Int)=2^k:=by simp
 omega
theorem wide_bd (c:Cf) {h:Int} (h1:4<=c.seg) (h2:c.seg<=64) (h4:h<=20):4<=c.wide h/\c.wide h<=67108864:=by
 have a:=pow_le20 h.toNat (by omega)
 have b:=Fr.pow_pos h.toNat
 have d:=Int.mul_le_mul h2 a (by omega) (by omega);have e:=Int.mul_le_mul h1 b (by omega) (by omega);unfold wide
 omega
end Cf
end Go.Proofs.YtpeckljoannolaaGreatDoor
namespace Go.Proofs.YtpeckljoannolaaGreatDoor
open Go.RowKit
def cfv (c:Cf):Value:=.agg #[.int .u8 c.tag,.int .i64 c.most,.int .i64 c.seg,.int .i64 c.least,.int .i64 c.den,.int .i64 c.ll,.int .i64 c.rl,.int .i64 c.rh,.int .i64 c.lh]
def cfCells (c:Cf):Array Value:=#[.int .u8 c.tag,.int .i64 c.most,.int .i64 c.seg,.int .i64 c.least,.int .i64 c.den,.int .i64 c.ll,.int .i64 c.rl,.int .i64 c.rh,.int .i64 c.lh]
def I64 (z:Int):Prop:=-9223372036854775808<=z/\z<=9223372036854775807
structure Cf.In (c:Cf):Prop where
 tag0:0<=c.tag
 tag1:c.tag<=255
 most:I64 c.most
 seg:I64 c.seg
 least:I64 c.least
 den:I64 c.den
 ll:I64 c.ll
 rl:I64 c.rl
 rh:I64 c.rh
 lh:I64 c.lh
structure CBox (w:World) (g:Nat) (c:Cf):Prop where
 lt:g < w.heap.size
 c0:w.cell? ⟨g,0,none⟩=some (.int .u8 c.tag)
 c1:w.cell? ⟨g,1,none⟩=some (.int .i64 c.most)
 c2:w.cell? ⟨g,2,none⟩=some (.int .i64 c.seg)
 c3:w.cell? ⟨g,3,none⟩=some (.int .i64 c.least)
 c4:w.cell? ⟨g,4,none⟩=some (.int .i64 c.den)
 c5:w.cell? ⟨g,5,none⟩=some (.int .i64 c.ll)
 c6:w.cell? ⟨g,6,none⟩=some (.int .i64 c.rl)
 c7:w.cell? ⟨g,7,none⟩=some (.int .i64 c.rh)
 c8:w.cell? ⟨g,8,none⟩=some (.int .i64 c.lh)
 fz:∀ o,w.frozen? ⟨g,o,none⟩=false
theorem CBox.below {w w':World} {g:Nat} {c:Cf} (h:CBox w g c) (hb:Below w.heap.size w w'):CBox w' g c :=
 have hc:∀ o,w'.cell? ⟨g,o,none⟩=w.cell? ⟨g,o,none⟩:=fun o=>hb.cell (p:=⟨g,o,none⟩) h.lt
 ⟨Nat.lt_of_lt_of_le h.lt hb.size,(hc 0).trans h.c0,(hc 1).trans h.c1,(hc 2).trans h.c2,(hc 3).trans h.c3,(hc 4).trans h.c4,(hc 5).trans h.c5,(hc 6).trans h.c6,(hc 7).trans h.c7,(hc 8).trans h.c8,fun o=>(hb.frozen (p:=⟨g,o,none⟩) h.lt).trans (h.fz o)⟩
theorem CBox.of_block {w:World} {g:Nat} {c:Cf} {t:TypeId} (h:w.heap[g]?=some (.cells (cfCells c) t (0,0))):CBox w g c:=by
 have hlt:g < w.heap.size:=(Array.getElem?_eq_some_iff.1 h).1;refine⟨hlt,?_,?_,?_,?_,?_,?_,?_,?_,?_,?_⟩
 all_goals first | (intro o;simp [World.frozen?,h]) | (simp [World.cell?,h,cfCells])
theorem CBox.new (w:World) (c:Cf) (t:TypeId):CBox (w.alloc (.cells (cfCells c) t)) w.heap.size c:=CBox.of_block (t:=t) (by show (w.heap.push _)[w.heap.size]?=_;exact Array.getElem?_push_size)
def BLst (w:World) (bk off:Nat) (bs:List Bool):Prop:=∀ j,j < bs.length->w.cell? ⟨bk,off+j,none⟩=some (.bool (bs.getD j false))
def idxB (bs:List Bool):Int:=if bs.all id then -1 else ((bs.takeWhile id).length:Int)
theorem all_take_b (bs:List Bool) (k:Nat) (h:k < bs.length) (hb:bs.getD k false=true) (ha:(bs.take k).all id=true):(bs.take (k+1)).all id=true:=by
 rw [List.take_succ_eq_append_getElem h]
 simp only [List.getD,List.getElem?_eq_getElem h,Option.getD_some] at hb
 rw [List.all_append,ha,hb];rfl
theorem idx_at (bs:List Bool):∀ k,k < bs.length->bs.getD k false=false->(bs.take k).all id=true->idxB bs=k/\bs.all id=false:=by
 induction bs with
 | nil=>intro k hk;simp at hk
 | cons b bs ih =>
  intro k hk hb ha
  cases k with
  | zero =>
   have:b=false:=by simpa using hb
   subst this
   simp [idxB]
  | succ k =>
   have hbt:b=true:=by simp at ha;exact ha.1
   subst hbt
   have ha':(bs.take k).all id=true:=by simpa using ha
   obtain⟨i1,i2⟩:=ih k (by simpa using hk) (by simpa using hb) ha';unfold idxB at i1 ⊢;rw [i2] at i1
   have e:(true::bs).all id=false:=by rw [List.all_cons,i2];rfl
   have e2:(true::bs).takeWhile id=true::bs.takeWhile id:=by rw [List.takeWhile_cons];rfl
   rw [e,e2]
   simp only [Bool.false_eq_true,if_false] at i1 ⊢
   rw [List.length_cons];exact⟨by push_cast;omega,trivial⟩
theorem idx_ge (bs:List Bool):decide (0<=idxB bs)=!bs.all id:=by
 unfold idxB
 cases bs.all id
 ·simp
 ·simp
end Go.Proofs.YtpeckljoannolaaGreatDoor

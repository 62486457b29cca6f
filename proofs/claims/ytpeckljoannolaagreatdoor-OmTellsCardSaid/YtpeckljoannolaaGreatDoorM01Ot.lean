/- Plain functions of layers 1, 2 and 4, and lists in memory. -/
import Derived.RowKit
import Derived.IntWalk
import Derived.Laws.BitsLemmas
import Derived.WalkKit
import Derived.WalkSpells
import Derived.WalkLawsBesides
import Derived.Lib.Hide
import Derived.Laws.AppendOwnNone
import Derived.WalkSmall
import Derived.Test.YtpeckljoannolaaGreatDoorTkOt
set_option linter.unusedVariables false
set_option linter.unusedSimpArgs false
namespace Go.Proofs.YtpeckljoannolaaGreatDoor
namespace Fr
def smallB (n:Int):Bool:=decide (-67108864 < n)&&decide (n < 67108864)
def small4 (a b c d:Int):Bool:=smallB a&&smallB b&&smallB c&&smallB d
def sgn (z:Int):Int:=if z < 0 then -1 else if 0 < z then 1 else 0
def crossE (a b c d:Int):Int:=if small4 a b c d then 0 else 10
def crossV (a b c d:Int):Int:=if small4 a b c d then sgn (a*d-b*c) else 0
def betBad (k n:Int):Bool:=decide (n < 1)||decide (k < 0)||decide (n < k)
def betE (a b k n:Int):Int:=if betBad k n then 2 else if small4 a b k n then 0 else 10
def betV (a b k n:Int):Int:=if betBad k n then 0 else if small4 a b k n then a*(n-k)+b*k else 0
def inB (z:Int):Bool:=decide (-9223372036854775808<=z)&&decide (z<=9223372036854775807)
def lg (n:Int):Int:=(n.toNat.log2:Int)
def powB (n:Int):Bool:=decide (0 < n)&&(2^n.toNat.log2==n.toNat)
def downE (n:Int):Int:=if n < 1 then 2 else 0
def downV (n:Int):Int:=if n < 1 then 0 else lg n
theorem small_true {n:Int} (h:smallB n=true):-67108864 < n/\n < 67108864:=by simpa [smallB] using h
theorem small_mk {n:Int} (h1:-67108864 < n) (h2:n < 67108864):smallB n=true:=by simp [smallB,h1,h2]
theorem small_not {n:Int} (h:¬ (-67108864 < n/\n < 67108864)):smallB n=false:=by
 simp [smallB];omega
theorem mul_small {a b:Int} (h1:-67108864 < a) (h2:a < 67108864) (h3:-67108864 < b) (h4:b < 67108864) :
  -4503599627370496 < a*b/\a*b < 4503599627370496:=by
 have h:(a*b).natAbs < 67108864*67108864:=by
  rw [Int.natAbs_mul];exact Nat.mul_lt_mul_of_lt_of_lt (by omega) (by omega)
 omega
theorem log2_half (n:Nat) (h:2<=n):n.log2=(n/2).log2+1:=by
 have h0:n≠0:=by omega
 rw [Nat.log2_def];rw [if_pos h]
theorem lg_half (n:Int) (h:2<=n):lg n=lg (n/2)+1:=by
 unfold lg;have:=log2_half n.toNat (by omega);rw [show (n/2).toNat=n.toNat/2 from by omega]
 omega
theorem lg_one:lg 1=0:=by decide
theorem lg_nonneg (n:Int):0<=lg n:=by unfold lg;omega
theorem lg_le (n:Int) (h:n<=9223372036854775807):lg n<=62:=by
 unfold lg
 by_cases h0:n.toNat=0
 ·rw [h0];decide
 ·have:n.toNat.log2 < 63:=(Nat.log2_lt h0).2 (by omega)
  omega
theorem powB_true {n:Int} (h:powB n=true):0 < n/\2^n.toNat.log2=n.toNat:=by simpa [powB] using h
theorem powB_not {n:Int} (h0:n<=0):powB n=false:=by
 simp [powB];omega
theorem powB_pow (n:Int) (h0:0 < n):powB n=((2:Int)^(lg n).toNat==n):=by
 unfold lg powB;rw [Int.toNat_natCast]
 have e1:((2^n.toNat.log2:Nat):Int)=2^n.toNat.log2:=by simp
 simp only [h0,decide_true,Bool.true_and]
 rw [Bool.eq_iff_iff,beq_iff_eq,beq_iff_eq,<-e1]
 omega
theorem pow_le62 (k:Nat) (h:k<=62):(2:Int)^k<=4611686018427387904:=by
 have:2^k<=2^62:=Nat.pow_le_pow_right (by decide) h
 have e1:((2^k:Nat):Int)=2^k:=by simp
 omega
theorem pow_pos (k:Nat):(1:Int)<=2^k:=by
 have:=Nat.two_pow_pos k
 have e1:((2^k:Nat):Int)=2^k:=by simp
 omega
theorem pow_succ (k:Nat):(2:Int)^(k+1)=2*2^k:=by rw [Int.pow_succ,Int.mul_comm]
theorem bet_bad {a b k n:Int} (h:betBad k n=true):betE a b k n=2/\betV a b k n=0:=by simp [betE,betV,h]
theorem bet_no {a b k n:Int} (h:betBad k n=false) (hs:small4 a b k n=false):betE a b k n=10/\betV a b k n=0:=by simp [betE,betV,h,hs]
theorem bet_yes {a b k n:Int} (h:betBad k n=false) (hs:small4 a b k n=true):betE a b k n=0/\betV a b k n=a*(n-k)+b*k:=by simp [betE,betV,h,hs]
theorem down_yes {n:Int} (h:1<=n):downE n=0/\downV n=lg n:=by
 unfold downE downV;rw [if_neg (by omega),if_neg (by omega)];exact⟨rfl,rfl⟩
theorem down_no {n:Int} (h:n < 1):downE n=2/\downV n=0:=by simp [downE,downV,h]
theorem i64_and (a b:Int) (a1:0<=a) (a2:a<=9223372036854775807) (b1:0<=b) (b2:b<=9223372036854775807):bits .and .i64 a b=((a.toNat &&& b.toNat:Nat):Int):=by
 show IntKind.i64.wrap ((BitVec.ofInt 64 a &&& BitVec.ofInt 64 b).toNat:Nat)=_
 have ea:(BitVec.ofInt 64 a).toNat=a.toNat:=by rw [BitVec.toNat_ofInt];omega
 have eb:(BitVec.ofInt 64 b).toNat=b.toNat:=by rw [BitVec.toNat_ofInt];omega
 rw [BitVec.toNat_and,ea,eb];have h:a.toNat &&& b.toNat<=a.toNat:=Nat.and_le_left;exact IntWalk.i64_in _ (by omega)
theorem pow2_iff (n:Nat) (h:n≠0):(n &&& (n-1))=0↔2^n.log2=n:=by
 rw [Nat.and_sub_one_eq_zero_iff_isPowerOfTwo h]
 constructor
 ·rintro⟨k,rfl⟩
  rw [Nat.log2_two_pow]
 ·intro e
  exact⟨n.log2,e.symm⟩
theorem powB_and (n:Int) (h1:1<=n) (h2:n<=9223372036854775807):powB n=(bits .and .i64 n (n-1)==0):=by
 rw [i64_and n (n-1) (by omega) h2 (by omega) (by omega),show (n-1).toNat=n.toNat-1 from by omega];have:=pow2_iff n.toNat (by omega);unfold powB;rw [Bool.eq_iff_iff]
 simp only [Bool.and_eq_true,decide_eq_true_eq,beq_iff_eq]
 omega
end Fr
end Go.Proofs.YtpeckljoannolaaGreatDoor
namespace Go.Proofs.YtpeckljoannolaaGreatDoor
open Go.RowKit
def Lst (k:IntKind) (w:World) (a:Option Addr) (zs:List Int):Prop :=
 zs=[]∨∃ b off,a=some ⟨b,off,none⟩/\b < w.heap.size/\∀ i,i < zs.length->w.cell? ⟨b,off+i,none⟩=some (.int k (zs.getD i 0))
theorem Lst.cell {k:IntKind} {w:World} {a:Option Addr} {zs:List Int} (h:Lst k w a zs) {i:Nat} (hi:i < zs.length) :
  ∃ b off,a=some ⟨b,off,none⟩/\b < w.heap.size/\w.cell? ⟨b,off+i,none⟩=some (.int k (zs.getD i 0)):=by
 rcases h with rfl | ⟨b,off,h1,h2,h3⟩
 ·simp at hi
 ·exact⟨b,off,h1,h2,h3 i hi⟩
theorem Lst.below {k:IntKind} {w w':World} {a:Option Addr} {zs:List Int} (h:Lst k w a zs) (hb:Below w.heap.size w w'):Lst k w' a zs:=by
 rcases h with rfl | ⟨b,off,h1,h2,h3⟩
 ·exact Or.inl rfl
 ·exact Or.inr ⟨b,off,h1,Nat.lt_of_lt_of_le h2 hb.size,fun i hi=>(hb.cell (p:=⟨b,off+i,none⟩) h2).trans (h3 i hi)⟩
theorem Lst.nil {k:IntKind} {w:World} {a:Option Addr}:Lst k w a []:=Or.inl rfl
def ints (ws:List Nat):List Int:=ws.map fun x:Nat=>(x:Int)
def Wide (ws:List Nat):Prop:=∀ i,ws.getD i 0 < 18446744073709551616
theorem ints_length (ws:List Nat):(ints ws).length=ws.length:=by simp [ints]
theorem ints_getD (ws:List Nat) (i:Nat):(ints ws).getD i 0=((ws.getD i 0:Nat):Int):=by
 simp only [ints,List.getD,List.getElem?_map]
 cases ws[i]?<;>rfl
theorem Lst.word {w:World} {a:Option Addr} {ws:List Nat} (h:Lst .u64 w a (ints ws)) {i:Nat} (hi:i < ws.length) :
  ∃ b off,a=some ⟨b,off,none⟩/\b < w.heap.size/\w.cell? ⟨b,off+i,none⟩=some (.int .u64 ((ws.getD i 0:Nat):Int)):=by
 have:=h.cell (i:=i) (by rw [ints_length];exact hi);rw [ints_getD] at this;exact this
theorem Lst.drewN {k:IntKind} {w:World} {a:Option Addr} {zs:List Int} (h:Lst k w a zs) (n:Nat):Lst k (w.drewN n) a zs:=h
def Cells (w:World) (a:Option Addr) (xs:List Value):Prop :=
 xs=[]∨∃ b off,a=some ⟨b,off,none⟩/\b < w.heap.size/\∀ i,i < xs.length->w.cell? ⟨b,off+i,none⟩=xs[i]?
theorem Cells.nil {w:World} {a:Option Addr}:Cells w a []:=Or.inl rfl
theorem Cells.below {w w':World} {a:Option Addr} {xs:List Value} (h:Cells w a xs) (hb:Below w.heap.size w w'):Cells w' a xs:=by
 rcases h with rfl | ⟨b,off,h1,h2,h3⟩
 ·exact Or.inl rfl
 ·exact Or.inr ⟨b,off,h1,Nat.lt_of_lt_of_le h2 hb.size,fun i hi=>(hb.cell (p:=⟨b,off+i,none⟩) h2).trans (h3 i hi)⟩
theorem Cells.of_lst {k:IntKind} {w:World} {a:Option Addr} {zs:List Int} (h:Lst k w a zs):Cells w a (zs.map (Value.int k)):=by
 rcases h with rfl | ⟨b,off,h1,h2,h3⟩
 ·exact Or.inl rfl
 ·refine Or.inr ⟨b,off,h1,h2,fun i hi=>?_⟩
  rw [List.length_map] at hi;rw [h3 i hi,List.getElem?_map,List.getElem?_eq_getElem hi]
  simp [List.getD,List.getElem?_eq_getElem hi]
theorem Cells.lst {k:IntKind} {w:World} {a:Option Addr} {zs:List Int} (h:Cells w a (zs.map (Value.int k))):Lst k w a zs:=by
 rcases h with h0 | ⟨b,off,h1,h2,h3⟩
 ·exact Or.inl (by simpa using h0)
 ·refine Or.inr ⟨b,off,h1,h2,fun i hi=>?_⟩
  rw [h3 i (by rw [List.length_map];exact hi),List.getElem?_map,List.getElem?_eq_getElem hi]
  simp [List.getD,List.getElem?_eq_getElem hi]
theorem add_at (b off j:Nat):(⟨b,off,none⟩:Addr).add j=⟨b,off+j,none⟩:=by
 unfold Addr.add
 split<;>simp_all
theorem Cells.news {w:World} {ad:Addr} {xs:List Value} (h:Cells w (some ad) xs):∀ (j:Nat) (u:Value),xs[j]?=some u->∀ o:Obj,(w.alloc o).cell? (ad.add j)=some u:=by
 intro j u hu o;have hj:j < xs.length:=(List.getElem?_eq_some_iff.1 hu).1
 rcases h with h0 | ⟨b,off,e,hb,hc⟩
 ·subst h0;simp at hj
 ·injection e with e
  subst e;rw [add_at,World.cell?_alloc_past _ _ _ hb,hc j hj,hu]
theorem own_cells {w:World} {base:Nat} {e:TypeId} {size:Nat} {v:Value} {n:Nat} {xs:List Value} (h:w.ownsRow base e size v n xs) :
  ∃ A cap,v=.slice A n cap/\Cells w A xs/\(A=none->n=0/\cap=0)/\(∀ ad,A=some ad->base<=ad.block/\ad.off=0/\ad.block < w.heap.size)/\n<=cap:=by
 have h1:=h.1
 rcases h.2 with⟨hv,h0⟩ | ⟨g,cap,cur,hv,hb,hg,hnc,_,_,ht⟩
 ·subst h0
  rw [Nat.zero_mul] at h1;exact⟨none,0,hv,by rw [List.eq_nil_of_length_eq_zero h1];exact Or.inl rfl,fun _=>⟨rfl,rfl⟩,fun ad e=>(by cases e),Nat.le_refl _⟩
 ·refine⟨some ⟨g,0,none⟩,cap,hv,Or.inr ⟨g,0,rfl,(Array.getElem?_eq_some_iff.1 hg).1,fun i hi=>?_⟩,fun e=>(by cases e),fun ad e=>(by cases e;exact⟨hb,rfl,(Array.getElem?_eq_some_iff.1 hg).1⟩),hnc⟩
  subst hv
  cases hx:xs[i]? with
  | none=>exact absurd (List.getElem?_eq_none_iff.1 hx) (by omega)
  | some u =>
   have:=World.ownsRow.cells h (g:=g) rfl i u hx;rw [add_at] at this;exact this
theorem own_below {w w':World} {base:Nat} {e:TypeId} {size:Nat} {v:Value} {n:Nat} {xs:List Value} (h:w.ownsRow base e size v n xs) (hb:Below w.heap.size w w'):w'.ownsRow base e size v n xs:=by
 refine⟨h.1,?_⟩
 rcases h.2 with h2 | ⟨g,c,cur,hv,hg,hh,r⟩
 ·exact Or.inl h2
 ·refine Or.inr ⟨g,c,cur,hv,hg,?_,r⟩
  rw [hb.block g (Array.getElem?_eq_some_iff.1 hh).1];exact hh
theorem own_lower {w:World} {base base':Nat} {e:TypeId} {size:Nat} {v:Value} {n:Nat} {xs:List Value} (h:w.ownsRow base e size v n xs) (hb:base'<=base):w.ownsRow base' e size v n xs:=by
 refine⟨h.1,?_⟩
 rcases h.2 with h2 | ⟨g,c,cur,hv,hg,r⟩
 ·exact Or.inl h2
 ·exact Or.inr ⟨g,c,cur,hv,Nat.le_trans hb hg,r⟩
structure Elem (P:Program) (T E:TypeId) (z:Value) (size bytes:Nat):Prop where
 und:P.underlying T=some (.slice E)
 info:∃ i,P.info? E=some i/\i.zero=some z/\i.size=size/\i.bytes=bytes
 zero:z.cells.size=size
 pos:0 < size
theorem wpList_copy {P:Program} {T E:TypeId} {z:Value} {size bytes:Nat} (hE:Elem P T E z size bytes) {w:World} {ops:Array Oper} {rest:List Oper} {o:Oper} {act:Act} {Q:Exit->Act->World->Prop} (hgd:o.guard=none) (s x:Operand)
  (ho:o.op=.call { callee:=.builtin .append,args:=#[s,x],argTypes:=#[T,T] })
  (W:World) (hW:w=W.alloc (.cells #[] E)) (a:Option Addr) (n cap:Nat) (xs:List Value) (hs:act.eval s=.slice (some ⟨W.heap.size,0,none⟩) 0 0) (hx:act.eval x=.slice a n cap)
  (hl:Cells W a xs) (hlen:xs.length=n*size) (h1:∀ u∈xs,u.oneCell'=true) (hnil:a=none->n=0/\cap=0) (h63:n<=maxLen) (hby:n*bytes<=140737488355328)
  (h:∀ A c w',w'.ownsRow W.heap.size E size (.slice A n c) n xs->Cells w' A xs->Below W.heap.size W w'->wpList P ops Q rest (act.put o.dst (.slice A n c)) w'):wpList P ops Q (o::rest) act w:=by
 subst hW;obtain⟨i0,hi0,hz0,hz1,hz2⟩:=hE.info;have hown:=World.ownsRow_lit (base:=W.heap.size) (e:=E) (size:=size) W #[] 0 (Nat.le_refl _) (Nat.zero_le _) (by simp)
 cases a with
 | none =>
  obtain⟨rfl,rfl⟩:=hnil rfl;have hxs:xs=[]:=List.eq_nil_of_length_eq_zero (by rw [hlen,Nat.zero_mul]);subst hxs;refine wpList_append_own_none hgd s x T ho W.heap.size E i0 size hE.und hi0 _ 0 [] hs hown hx ?_;exact h _ _ _ hown (Or.inl rfl) ((Below.refl _ _).alloc (Nat.le_refl _) _)
 | some ad =>
  refine wpList_append_own _ hgd s x T ho W.heap.size E i0 z size bytes hE.und hi0 hz0 hz1 hz2 hE.zero hE.pos _ 0 [] hs hown ad n cap xs hx hlen (fun j u hu=>hl.news j u hu _) h1 (by omega) (by rw [Nat.zero_add];exact hby) (by simp) ?_;intro v1 w1 hown1 hgrow1 _;rw [Nat.zero_add,List.nil_append] at hown1;have hb:Below W.heap.size W w1:=((Below.refl _ _).alloc (Nat.le_refl _) _).grown hgrow1 (by simp) (by intro k hk;simp [Value.ownBlock] at hk;omega);obtain⟨A,c,rfl,hL,_⟩:=own_cells hown1;exact h A c w1 hown1 hL hb
theorem made_one (z:Value) (n:Nat):(madeCells #[z] (n*1)).toList=List.replicate n z:=by
 apply List.ext_getElem
 ·simp [madeCells]
 ·intro i h1 h2
  simp [madeCells,Nat.mod_one]
theorem wpList_make0 {P:Program} {T E:TypeId} {z:Value} {size bytes:Nat} (hE:Elem P T E z size bytes) {w:World} {ops:Array Oper} {rest:List Oper} {o:Oper} {act:Act} {Q:Exit->Act->World->Prop} (hg:o.guard=none) (l c:Operand)
  (hop:o.op=Op.makeSlice T l c) (kl kc:IntKind) (C:Int) (n base:Nat) (hl:act.eval l=.int kl 0) (hc:act.eval c=.int kc C) (hC:C=(n:Int)) (b2:bytes*n<=281474976710656) (b3:n<=maxLen) (b4:base<=w.heap.size)
  (h:∀ w',w'.ownsRow base E size (.slice (some ⟨w.heap.size,0,none⟩) 0 n) 0 []->Below base w w'->wpList P ops Q rest (act.put o.dst (.slice (some ⟨w.heap.size,0,none⟩) 0 n)) w'):wpList P ops Q (o::rest) act w:=by
 obtain⟨i0,hi0,hz0,hz1,hz2⟩:=hE.info;refine wpList_make_own w hg l c T hop base E i0 z size hE.und hi0 hz0 hz1 kl kc C n hl hc hC (by rw [hz2];exact b2) b3 b4 ?_;intro w' hown hgrow;exact h w' hown ((Below.refl _ _).grown hgrow b4 (fun k e=>by cases e))
end Go.Proofs.YtpeckljoannolaaGreatDoor
namespace Go.Proofs.YtpeckljoannolaaGreatDoor
namespace Oc
def isB (ws:List Nat) (s:Nat):Bool:=(ws.getD (s/64) 0).testBit (s % 64)
def places (ws:List Nat) (a b:Nat):List Nat:=(List.range' a (b-a)).filter (isB ws)
def clearB (ws:List Nat) (n:Nat):Bool:=(places ws n (64*ws.length)).isEmpty
def mayB (ws:List Nat) (n:Nat):Bool:=ws.length==(n+63)/64&&clearB ws n
def badN (n:Int):Bool:=decide (n < 0)||decide (65536 < n)
def chk (ws:List Nat) (n:Int):Int:=if badN n then 2 else if mayB ws n.toNat then 0 else 8
theorem places_self (ws:List Nat) (a:Nat):places ws a a=[]:=by simp [places]
theorem places_snoc (ws:List Nat) (a k:Nat) (h:a<=k):places ws a (k+1)=if isB ws k then places ws a k++[k] else places ws a k:=by
 unfold places;rw [show k+1-a=(k-a)+1 from by omega,List.range'_concat,List.filter_append];rw [show a+1*(k-a)=k from by omega]
 cases hk:isB ws k<;>simp [hk]
theorem places_ge (ws:List Nat) (a b:Nat) (h:b<=a):places ws a b=[]:=by
 unfold places;rw [show b-a=0 from by omega];rfl
theorem mem_places {ws:List Nat} {a b s:Nat}:s∈places ws a b↔(a<=s/\s < b)/\isB ws s=true:=by
 unfold places;rw [List.mem_filter,List.mem_range'_1]
 constructor
 ·rintro⟨h1,h2⟩;exact⟨by omega,h2⟩
 ·rintro⟨h1,h2⟩;exact⟨by omega,h2⟩
theorem places_length_le (ws:List Nat) (a b:Nat):(places ws a b).length<=b-a:=by
 unfold places;have:=List.length_filter_le (isB ws) (List.range' a (b-a))
 simpa using this
theorem places_split (ws:List Nat) (a b c:Nat) (h1:a<=b) (h2:b<=c):places ws a c=places ws a b++places ws b c:=by
 unfold places;rw [<-List.filter_append]
 congr 1
 have:=List.range'_append (s:=a) (m:=b-a) (n:=c-b) (step:=1);rw [show a+1*(b-a)=b from by omega,show b-a+(c-b)=c-a from by omega] at this;exact this.symm
theorem clear_not {ws:List Nat} {n s:Nat} (h1:n<=s) (h2:s < 64*ws.length) (h:isB ws s=true):clearB ws n=false:=by
 unfold clearB;have:s∈places ws n (64*ws.length):=mem_places.2 ⟨⟨h1,h2⟩,h⟩
 cases hp:places ws n (64*ws.length) with
 | nil=>rw [hp] at this;cases this
 | cons a l=>rfl
def countE (ws:List Nat) (n a b:Int):Int:=if chk ws n=0 then (if a < 0∨b < a∨n < b then 2 else 0) else chk ws n
def countV (ws:List Nat) (n a b:Int):Int:=if countE ws n a b=0 then ((places ws a.toNat b.toNat).length:Int) else 0
def nextE (ws:List Nat) (n s:Int):Int:=if chk ws n=0 then (if s < 0∨n < s then 2 else if (places ws s.toNat n.toNat).length=0 then 6 else 0) else chk ws n
def nextV (ws:List Nat) (n s:Int):Int:=if nextE ws n s=0 then (((places ws s.toNat n.toNat).getD 0 0:Nat):Int) else 0
theorem chk_ok {ws:List Nat} {n:Int} (h:chk ws n=0):∃ m:Nat,n=m/\m<=65536/\ws.length=(m+63)/64/\clearB ws m=true:=by
 unfold chk at h
 cases hb:badN n
 ·rw [hb] at h
  have hn:0<=n/\n<=65536:=by
   simp only [badN,Bool.or_eq_false_iff,decide_eq_false_iff_not] at hb;omega
  cases hm:mayB ws n.toNat
  ·rw [hm] at h;simp at h
  ·simp only [mayB,Bool.and_eq_true,beq_iff_eq] at hm
   exact⟨n.toNat,by omega,by omega,hm.1,hm.2⟩
 ·rw [hb] at h;simp at h
end Oc
end Go.Proofs.YtpeckljoannolaaGreatDoor
namespace Go.Proofs.YtpeckljoannolaaGreatDoor
namespace Oc
def putN (x j:Nat) (is:Bool):Nat:=if x.testBit j=is then x else if is then x+2^j else x-2^j
theorem ge_of_bit {x j:Nat} (h:x.testBit j=true):2^j<=x:=Nat.ge_two_pow_of_testBit h
theorem split3 (x j:Nat):x=x/2^(j+1)*2^(j+1)+(x.testBit j).toNat*2^j+x % 2^j:=by
 have h1:=Nat.div_add_mod' x (2^j);have h2:=Nat.div_add_mod' (x/2^j) 2
 have h3:x/2^j/2=x/2^(j+1):=by rw [Nat.div_div_eq_div_mul,Nat.pow_succ]
 have h4:(x.testBit j).toNat=x/2^j % 2:=by
  rw [Nat.testBit_eq_decide_div_mod_eq]
  have:x/2^j % 2=0∨x/2^j % 2=1:=by omega
  rcases this with h | h<;>rw [h]<;>rfl
 rw [h4,<-h3,Nat.pow_succ,<-Nat.mul_assoc,Nat.mul_right_comm,<-Nat.add_mul,h2,h1]
theorem add_lt {x j B:Nat} (h:x.testBit j=false) (hx:x < 2^B) (hj:j < B):x+2^j < 2^B:=by
 have h3:=split3 x j;rw [h,Bool.toNat_false,Nat.zero_mul,Nat.add_zero] at h3;have hm:x % 2^j < 2^j:=Nat.mod_lt _ (Nat.two_pow_pos j)
 have hq:x/2^(j+1) < 2^(B-(j+1)):=by
  apply Nat.div_lt_of_lt_mul
  rw [<-Nat.pow_add,show j+1+(B-(j+1))=B from by omega];exact hx
 have hk:(x/2^(j+1)+1)*2^(j+1)<=2^(B-(j+1))*2^(j+1):=Nat.mul_le_mul_right _ hq;rw [<-Nat.pow_add,show B-(j+1)+(j+1)=B from by omega,Nat.add_mul,Nat.one_mul,Nat.pow_succ] at hk;rw [Nat.pow_succ] at h3
 omega
theorem putN_lt {x j B:Nat} {is:Bool} (hx:x < 2^B) (hj:j < B):putN x j is < 2^B:=by
 unfold putN
 split
 ·exact hx
 ·rename_i h
  cases is
  ·simp only [Bool.false_eq_true,if_false];exact Nat.lt_of_le_of_lt (Nat.sub_le _ _) hx
  ·rw [if_pos rfl]
   exact add_lt (by simpa using h) hx hj
theorem add_div {x j:Nat} (h:x.testBit j=false):(x+2^j)/2^(j+1)=x/2^(j+1):=by
 have h3:=split3 x j;rw [h,Bool.toNat_false,Nat.zero_mul,Nat.add_zero] at h3;have hm:x % 2^j < 2^j:=Nat.mod_lt _ (Nat.two_pow_pos j)
 have hp:2^(j+1)=2*2^j:=by rw [Nat.pow_succ,Nat.mul_comm]
 generalize x/2^(j+1)=q at *;generalize x % 2^j=r at *;rw [h3,Nat.add_assoc,Nat.mul_comm q,Nat.mul_add_div (Nat.two_pow_pos _),Nat.div_eq_of_lt (by omega),Nat.add_zero]
theorem add_bit {x j:Nat} (h:x.testBit j=false) (i:Nat):(x+2^j).testBit i=if i=j then true else x.testBit i:=by
 by_cases hij:i=j
 ·subst hij
  rw [if_pos rfl,Nat.add_comm,Nat.testBit_two_pow_add_eq,h];rfl
 ·rw [if_neg hij]
  rcases Nat.lt_or_gt_of_ne hij with hlt | hgt
  ·have a:=Nat.testBit_mod_two_pow (x+2^j) j i
   have b:=Nat.testBit_mod_two_pow x j i;rw [Nat.add_mod_right] at a;rw [a] at b
   simpa [hlt] using b
  ·have a:((x+2^j)/2^(j+1)).testBit (i-(j+1))=(x+2^j).testBit (i-(j+1)+(j+1)):=Nat.testBit_div_two_pow _ _
   have b:(x/2^(j+1)).testBit (i-(j+1))=x.testBit (i-(j+1)+(j+1)):=Nat.testBit_div_two_pow _ _;rw [show i-(j+1)+(j+1)=i from by omega] at a b;rw [<-a,<-b,add_div h]
theorem sub_bit {x j:Nat} (h:x.testBit j=true) (i:Nat):(x-2^j).testBit i=if i=j then false else x.testBit i:=by
 have hge:=ge_of_bit h
 have hy:(x-2^j).testBit j=false:=by
  have:=Nat.testBit_two_pow_add_eq (x-2^j) j;rw [Nat.add_comm,Nat.sub_add_cancel hge,h] at this
  simpa using this.symm
 have:=add_bit hy i;rw [Nat.sub_add_cancel hge] at this
 by_cases hij:i=j
 ·subst hij;rw [if_pos rfl];exact hy
 ·rw [if_neg hij] at this ⊢;exact this.symm
theorem putN_bit (x j:Nat) (is:Bool) (i:Nat):(putN x j is).testBit i=if i=j then is else x.testBit i:=by
 unfold putN
 split
 ·rename_i h
  by_cases hij:i=j
  ·subst hij;rw [if_pos rfl];exact h
  ·rw [if_neg hij]
 ·rename_i h
  cases is
  ·simp only [Bool.false_eq_true,if_false]
   exact sub_bit (by simpa using h) i
  ·rw [if_pos rfl]
   exact add_bit (by simpa using h) i
end Oc
end Go.Proofs.YtpeckljoannolaaGreatDoor
namespace Go.Proofs.YtpeckljoannolaaGreatDoor
def Oc.putW (ws:List Nat) (s:Nat) (is:Bool):List Nat:=ws.set (s/64) (Oc.putN (ws.getD (s/64) 0) (s % 64) is)
structure Sl where
 seg:Int
 words:List Nat
 keys:List Int
 vals:List Int
 counts:List Int
 laid:Nat
namespace Sl
def none:Sl:=⟨0,[],[],[],[],0⟩
def fitsB (seg many:Int):Bool:=decide (4<=seg)&&decide (seg<=64)&&Fr.powB seg&&decide (1<=many)&&decide (many<=65536)&&decide (many % seg=0)&&Fr.powB (many/seg)
def zeroAt (s:Sl) (i:Nat):Bool:=Oc.isB s.words i||(s.keys.getD i 0==0&&s.vals.getD i 0==0)
def zerosB (s:Sl) (k:Nat):Bool:=(List.range k).all s.zeroAt
def countOf (s:Sl) (i:Nat):Int:=((Oc.places s.words (i*s.seg.toNat) ((i+1)*s.seg.toNat)).length:Int)
def countAt (s:Sl) (i:Nat):Bool:=s.counts.getD i 0==s.countOf i
def countsB (s:Sl) (k:Nat):Bool:=(List.range k).all s.countAt
def formB (s:Sl):Bool:=fitsB s.seg s.keys.length&&s.vals.length==s.keys.length&&Oc.mayB s.words s.keys.length&&decide ((s.counts.length:Int)=(s.keys.length:Int)/s.seg)
def mayB (s:Sl):Bool:=s.formB&&s.zerosB s.keys.length&&s.countsB s.counts.length
def segOf (s:Sl) (i:Nat):Nat:=i/s.seg.toNat
def emptied (s:Sl) (i:Nat):Sl :=
 { s with words:=Oc.putW s.words i false,keys:=s.keys.set i 0,vals:=s.vals.set i 0,counts:=if Oc.isB s.words i then s.counts.set (s.segOf i) (s.counts.getD (s.segOf i) 0-1) else s.counts }
def filledAt (s:Sl) (i:Nat) (p:Int×Int):Sl :=
 { s with words:=Oc.putW s.words i true,keys:=s.keys.set i p.1,vals:=s.vals.set i p.2,counts:=s.counts.set (s.segOf i) (s.counts.getD (s.segOf i) 0+1),laid:=(s.laid+1) % 18446744073709551616 }
def withP (s:Sl) (i:Nat) (p:Int×Int):Sl:=(s.emptied i).filledAt i p
def pairAt (s:Sl) (i:Nat):Int×Int:=(s.keys.getD i 0,s.vals.getD i 0)
def of (s:Sl) (a b:Nat):List (Int×Int):=(Oc.places s.words a b).map s.pairAt
def slotB (s:Sl) (i:Int):Bool:=decide (0<=i)&&decide (i < s.keys.length)
def chk (s:Sl):Int:=if s.mayB then 0 else 8
def newE (seg many:Int):Int:=if fitsB seg many then 0 else 2
def empty (seg many:Int):Sl:=⟨seg,List.replicate ((many+63)/64).toNat 0,List.replicate many.toNat 0,List.replicate many.toNat 0,List.replicate (many/seg).toNat 0,0⟩
def newS (seg many:Int):Sl:=if fitsB seg many then empty seg many else none
def atE (s:Sl) (i:Int):Int:=if s.mayB then (if s.slotB i then (if Oc.isB s.words i.toNat then 0 else 6) else 2) else 8
def atV (s:Sl) (i:Int):Int×Int:=if s.atE i=0 then s.pairAt i.toNat else (0,0)
def layE (s:Sl) (i:Int):Int:=if s.mayB then (if s.slotB i then 0 else 2) else 8
def layS (s:Sl) (i:Int) (p:Int×Int):Sl:=if s.layE i=0 then s.withP i.toNat p else none
def clearS (s:Sl) (i:Int):Sl:=if s.atE i=0 then s.emptied i.toNat else none
def moveE (s:Sl) (i j:Int):Int:=if s.atE i=0 then (if s.slotB j then (if j≠i/\Oc.isB s.words j.toNat=true then 9 else 0) else 2) else s.atE i
def moveS (s:Sl) (i j:Int):Sl:=if s.moveE i j=0 then (s.emptied i.toNat).withP j.toNat (s.pairAt i.toNat) else none
def wiped (s:Sl) (a:Nat):Nat->Sl
 | 0=>s
 | k+1=>(s.wiped a k).emptied (a+k)
def laidIn (s:Sl) (l:List Int) (ps:List (Int×Int)):Nat->Sl
 | 0=>s
 | k+1=>(s.laidIn l ps k).filledAt (l.getD k 0).toNat (ps.getD k (0,0))
def filled (s:Sl) (a b:Int) (l:List Int) (ps:List (Int×Int)):Sl:=(s.wiped a.toNat (b-a).toNat).laidIn l ps ps.length
def sameB (s t:Sl):Bool:=s.seg==t.seg&&s.laid==t.laid&&s.words==t.words&&s.keys==t.keys&&s.vals==t.vals&&s.counts==t.counts
def greatB (s:Sl) (n:Int):Bool:=decide (n < s.keys.length)||decide (n < s.vals.length)||decide (n < s.words.length)||decide (n < s.counts.length)
end Sl
end Go.Proofs.YtpeckljoannolaaGreatDoor
namespace Go.Proofs.YtpeckljoannolaaGreatDoor
open Go.RowKit
theorem bcell {W w1:World} (hb:Below W.heap.size W w1):(∀ b o,b < W.heap.size->w1.cell? ⟨b,o,none⟩=W.cell? ⟨b,o,none⟩)/\(∀ b o,b < W.heap.size->w1.frozen? ⟨b,o,none⟩=W.frozen? ⟨b,o,none⟩) :=
 ⟨fun b o h=>hb.cell (p:=⟨b,o,none⟩) h,fun b o h=>hb.frozen (p:=⟨b,o,none⟩) h⟩
def In64 (z:Int):Prop:=-9223372036854775808<=z/\z<=9223372036854775807
def All64 (zs:List Int):Prop:=∀ i,In64 (zs.getD i 0)
def New (k:IntKind) (w:World) (B:Nat) (a:Option Addr) (zs:List Int):Prop :=
 zs=[]∨∃ b off,a=some ⟨b,off,none⟩/\B<=b/\b < w.heap.size/\∀ i,i < zs.length->w.cell? ⟨b,off+i,none⟩=some (.int k (zs.getD i 0))/\w.frozen? ⟨b,off+i,none⟩=false
theorem New.lst {k:IntKind} {w:World} {B:Nat} {a:Option Addr} {zs:List Int} (h:New k w B a zs):Lst k w a zs:=by
 rcases h with h0 | ⟨b,off,h1,_,h2,h3⟩
 ·exact Or.inl h0
 ·exact Or.inr ⟨b,off,h1,h2,fun i hi=>(h3 i hi).1⟩
theorem New.below {k:IntKind} {w w':World} {B:Nat} {a:Option Addr} {zs:List Int} (h:New k w B a zs) (hb:Below w.heap.size w w'):New k w' B a zs:=by
 rcases h with h0 | ⟨b,off,h1,hB,h2,h3⟩
 ·exact Or.inl h0
 ·exact Or.inr ⟨b,off,h1,hB,Nat.lt_of_lt_of_le h2 hb.size,fun i hi=>⟨(hb.cell (p:=⟨b,off+i,none⟩) h2).trans (h3 i hi).1,(hb.frozen (p:=⟨b,off+i,none⟩) h2).trans (h3 i hi).2⟩⟩
theorem New.lower {k:IntKind} {w:World} {B B':Nat} {a:Option Addr} {zs:List Int} (h:New k w B a zs) (hB:B'<=B):New k w B' a zs:=by
 rcases h with h0 | ⟨b,off,h1,hB2,h2⟩
 ·exact Or.inl h0
 ·exact Or.inr ⟨b,off,h1,Nat.le_trans hB hB2,h2⟩
theorem New.of_own {k:IntKind} {w:World} {B:Nat} {e:TypeId} {a:Option Addr} {n c:Nat} {zs:List Int} (h:w.ownsRow B e 1 (.slice a n c) n (zs.map (Value.int k))):New k w B a zs:=by
 rcases h.2 with⟨_,h0⟩ | ⟨g,c',cur,hv,hb,hg,_,_,hs,_⟩
 ·left
  have:=h.1;rw [List.length_map,h0] at this;exact List.eq_nil_of_length_eq_zero (by omega)
 ·injection hv with hA _ _
  subst hA;refine Or.inr ⟨g,0,rfl,hb,(Array.getElem?_eq_some_iff.1 hg).1,fun i hi=>⟨?_,?_⟩⟩
  ·have h1:=h.cellAt i (by have:=h.1;rw [List.length_map] at this;omega)
   rw [Nat.zero_add,h1,List.getElem?_map,List.getElem?_eq_getElem hi]
   simp [List.getD,List.getElem?_eq_getElem hi]
  ·exact h.frozenAt _
theorem New.set {k:IntKind} {w:World} {B b off:Nat} {zs:List Int} (h:New k w B (some ⟨b,off,none⟩) zs) {i:Nat} (hi:i < zs.length) (x:Int) :
  New k (w.setCell ⟨b,off+i,none⟩ (.int k x)) B (some ⟨b,off,none⟩) (zs.set i x):=by
 rcases h with h0 | ⟨b',off',h1,hB,h2,h3⟩
 ·subst h0;simp at hi
 ·injection h1 with h1
  injection h1 with e1 e2
  subst e1 e2;have hc:=(h3 i hi).1;refine Or.inr ⟨b,off,rfl,hB,by rw [World.size_setCell];exact h2,fun j hj=>?_⟩;rw [List.length_set] at hj;refine⟨?_,by rw [World.frozen?_setCell];exact (h3 j hj).2⟩
  by_cases e:i=j
  ·subst e
   rw [World.cell?_setCell_same _ _ _ hc]
   simp [List.getD,hi]
  ·rw [World.cell?_setCell_other _ _ _ _ (by intro h;simp only [Addr.mk.injEq] at h;omega),(h3 j hj).1]
   simp [List.getD,e]
theorem New.other {k:IntKind} {w:World} {B:Nat} {a:Option Addr} {zs:List Int} (h:New k w B a zs) {p:Addr} (hp:∀ q,a=some q->q.block≠p.block) (u:Value):New k (w.setCell p u) B a zs:=by
 rcases h with h0 | ⟨b,off,h1,hB,h2,h3⟩
 ·exact Or.inl h0
 ·subst h1
  refine Or.inr ⟨b,off,rfl,hB,by rw [World.size_setCell];exact h2,fun j hj=>⟨?_,by rw [World.frozen?_setCell];exact (h3 j hj).2⟩⟩;rw [World.cell?_setCell_other _ _ _ _ (by intro h;exact hp _ rfl (by rw [h])),(h3 j hj).1]
structure Ads where
 w:Option Addr
 k:Option Addr
 v:Option Addr
 c:Option Addr
 cw:Nat
 ck:Nat
 cv:Nat
 cc:Nat
def slv (s:Sl) (a:Ads):Value:=.agg #[.int .i64 s.seg,.slice a.w s.words.length a.cw,.slice a.k s.keys.length a.ck,.slice a.v s.vals.length a.cv,.slice a.c s.counts.length a.cc,.int .u64 (s.laid:Int)]
def slCells (s:Sl) (a:Ads):Array Value:=#[.int .i64 s.seg,.slice a.w s.words.length a.cw,.slice a.k s.keys.length a.ck,.slice a.v s.vals.length a.cv,.slice a.c s.counts.length a.cc,.int .u64 (s.laid:Int)]
structure Box (w:World) (g:Nat) (s:Sl) (a:Ads):Prop where
 lt:g < w.heap.size
 c0:w.cell? ⟨g,0,none⟩=some (.int .i64 s.seg)
 c1:w.cell? ⟨g,1,none⟩=some (.slice a.w s.words.length a.cw)
 c2:w.cell? ⟨g,2,none⟩=some (.slice a.k s.keys.length a.ck)
 c3:w.cell? ⟨g,3,none⟩=some (.slice a.v s.vals.length a.cv)
 c4:w.cell? ⟨g,4,none⟩=some (.slice a.c s.counts.length a.cc)
 c5:w.cell? ⟨g,5,none⟩=some (.int .u64 (s.laid:Int))
 fz:∀ o,w.frozen? ⟨g,o,none⟩=false
theorem Box.below {w w':World} {g:Nat} {s:Sl} {a:Ads} (h:Box w g s a) (hb:Below w.heap.size w w'):Box w' g s a :=
 have hc:∀ o,w'.cell? ⟨g,o,none⟩=w.cell? ⟨g,o,none⟩:=fun o=>hb.cell (p:=⟨g,o,none⟩) h.lt
 ⟨Nat.lt_of_lt_of_le h.lt hb.size,(hc 0).trans h.c0,(hc 1).trans h.c1,(hc 2).trans h.c2,(hc 3).trans h.c3,(hc 4).trans h.c4,(hc 5).trans h.c5,fun o=>(hb.frozen (p:=⟨g,o,none⟩) h.lt).trans (h.fz o)⟩
theorem Box.of_block {w:World} {g:Nat} {s:Sl} {a:Ads} {t:TypeId} (h:w.heap[g]?=some (.cells (slCells s a) t (0,0))):Box w g s a:=by
 have hlt:g < w.heap.size:=(Array.getElem?_eq_some_iff.1 h).1;refine⟨hlt,?_,?_,?_,?_,?_,?_,?_⟩
 all_goals first | (intro o;simp [World.frozen?,h]) | (simp [World.cell?,h,slCells])
theorem Box.new (w:World) (s:Sl) (a:Ads) (t:TypeId):Box (w.alloc (.cells (slCells s a) t)) w.heap.size s a:=Box.of_block (t:=t) (by show (w.heap.push _)[w.heap.size]?=_;exact Array.getElem?_push_size)
structure Sl.Ok (s:Sl):Prop where
 seg:In64 s.seg
 words:Wide s.words
 keys:All64 s.keys
 vals:All64 s.vals
 counts:All64 s.counts
 laid:s.laid < 18446744073709551616
structure Sl.Short (s:Sl):Prop where
 words:s.words.length<=65536
 keys:s.keys.length<=65536
 vals:s.vals.length<=65536
 counts:s.counts.length<=65536
structure Caps (s:Sl) (a:Ads):Prop where
 w0:a.w=none->s.words.length=0/\a.cw=0
 k0:a.k=none->s.keys.length=0/\a.ck=0
 v0:a.v=none->s.vals.length=0/\a.cv=0
 c0:a.c=none->s.counts.length=0/\a.cc=0
 w1:s.words.length<=a.cw
 k1:s.keys.length<=a.ck
 v1:s.vals.length<=a.cv
 c1:s.counts.length<=a.cc
structure Held (w:World) (s:Sl) (a:Ads):Prop where
 words:Lst .u64 w a.w (ints s.words)
 keys:Lst .i64 w a.k s.keys
 vals:Lst .i64 w a.v s.vals
 counts:Lst .i64 w a.c s.counts
 caps:Caps s a
theorem Held.below {w w':World} {s:Sl} {a:Ads} (h:Held w s a) (hb:Below w.heap.size w w'):Held w' s a:=⟨h.words.below hb,h.keys.below hb,h.vals.below hb,h.counts.below hb,h.caps⟩
theorem Held.alloc {w:World} {s:Sl} {a:Ads} (h:Held w s a) (o:Obj):Held (w.alloc o) s a:=h.below ((Below.refl _ _).alloc (Nat.le_refl _) o)
structure Own (w:World) (B:Nat) (s:Sl) (a:Ads):Prop where
 words:New .u64 w B a.w (ints s.words)
 keys:New .i64 w B a.k s.keys
 vals:New .i64 w B a.v s.vals
 counts:New .i64 w B a.c s.counts
 caps:Caps s a
theorem Own.held {w:World} {B:Nat} {s:Sl} {a:Ads} (h:Own w B s a):Held w s a:=⟨h.words.lst,h.keys.lst,h.vals.lst,h.counts.lst,h.caps⟩
theorem Own.below {w w':World} {B:Nat} {s:Sl} {a:Ads} (h:Own w B s a) (hb:Below w.heap.size w w'):Own w' B s a:=⟨h.words.below hb,h.keys.below hb,h.vals.below hb,h.counts.below hb,h.caps⟩
theorem Own.lower {w:World} {B B':Nat} {s:Sl} {a:Ads} (h:Own w B s a) (hB:B'<=B):Own w B' s a:=⟨h.words.lower hB,h.keys.lower hB,h.vals.lower hB,h.counts.lower hB,h.caps⟩
def Apart (a b:Option Addr):Prop:=∀ p q,a=some p->b=some q->p.block≠q.block
structure Sep (a:Ads):Prop where
 wk:Apart a.w a.k
 wv:Apart a.w a.v
 wc:Apart a.w a.c
 kv:Apart a.k a.v
 kc:Apart a.k a.c
 vc:Apart a.v a.c
theorem Apart.symm {a b:Option Addr} (h:Apart a b):Apart b a:=fun p q hp hq e=>h q p hq hp e.symm
structure PBox (w:World) (g:Nat) (p:Int×Int):Prop where
 lt:g < w.heap.size
 c0:w.cell? ⟨g,0,none⟩=some (.int .i64 p.1)
 c1:w.cell? ⟨g,1,none⟩=some (.int .i64 p.2)
 f0:w.frozen? ⟨g,0,none⟩=false
 f1:w.frozen? ⟨g,1,none⟩=false
theorem PBox.below {w w':World} {g:Nat} {p:Int×Int} (h:PBox w g p) (hb:Below w.heap.size w w'):PBox w' g p :=
 ⟨Nat.lt_of_lt_of_le h.lt hb.size,(hb.cell (p:=⟨g,0,none⟩) h.lt).trans h.c0,(hb.cell (p:=⟨g,1,none⟩) h.lt).trans h.c1,(hb.frozen (p:=⟨g,0,none⟩) h.lt).trans h.f0,(hb.frozen (p:=⟨g,1,none⟩) h.lt).trans h.f1⟩
theorem PBox.of_block {w:World} {g:Nat} {p:Int×Int} {t:TypeId} (h:w.heap[g]?=some (.cells #[.int .i64 p.1,.int .i64 p.2] t (0,0))):PBox w g p:=by
 have hlt:g < w.heap.size:=(Array.getElem?_eq_some_iff.1 h).1;refine⟨hlt,?_,?_,?_,?_⟩
 all_goals first | (simp [World.cell?,h]) | (simp [World.frozen?,h])
theorem PBox.new (w:World) (p:Int×Int) (t:TypeId):PBox (w.alloc (.cells #[.int .i64 p.1,.int .i64 p.2] t)) w.heap.size p:=PBox.of_block (t:=t) (by show (w.heap.push _)[w.heap.size]?=_;exact Array.getElem?_push_size)
def pv (p:Int×Int):Value:=.agg #[.int .i64 p.1,.int .i64 p.2]
def pcells (ps:List (Int×Int)):List Value:=ps.flatMap fun p=>[.int .i64 p.1,.int .i64 p.2]
theorem pcells_length (ps:List (Int×Int)):(pcells ps).length=ps.length*2:=by
 induction ps with
 | nil=>rfl
 | cons p r ih=>rw [pcells,List.flatMap_cons,List.length_append,<-pcells,ih,List.length_cons];simp;omega
theorem pcells_append (ps qs:List (Int×Int)):pcells (ps++qs)=pcells ps++pcells qs:=by simp [pcells]
theorem pcells_at (ps:List (Int×Int)) (i:Nat) (h:i < ps.length):(pcells ps)[i*2]?=some (.int .i64 (ps.getD i (0,0)).1)/\(pcells ps)[i*2+1]?=some (.int .i64 (ps.getD i (0,0)).2):=by
 induction ps generalizing i with
 | nil=>simp at h
 | cons p r ih =>
  have e:pcells (p::r)=.int .i64 p.1::.int .i64 p.2::pcells r:=by simp [pcells]
  rw [e]
  cases i with
  | zero=>simp
  | succ i =>
   have:=ih i (by simpa using h);rw [show (i+1)*2=i*2+1+1 from by omega,show i*2+1+1+1=(i*2+1)+1+1 from rfl]
   simpa using this
def PLst (w:World) (a:Option Addr) (ps:List (Int×Int)):Prop:=Cells w a (pcells ps)
theorem PLst.below {w w':World} {a:Option Addr} {ps:List (Int×Int)} (h:PLst w a ps) (hb:Below w.heap.size w w'):PLst w' a ps:=Cells.below h hb
theorem PLst.pair {w:World} {a:Option Addr} {ps:List (Int×Int)} (h:PLst w a ps) {i:Nat} (hi:i < ps.length) :
  ∃ b off,a=some ⟨b,off,none⟩/\b < w.heap.size/\w.cell? ⟨b,off+i*2,none⟩=some (.int .i64 (ps.getD i (0,0)).1)/\w.cell? ⟨b,off+i*2+1,none⟩=some (.int .i64 (ps.getD i (0,0)).2):=by
 have hl:=pcells_length ps
 rcases h with h0 | ⟨b,off,h1,h2,h3⟩
 ·rw [h0] at hl;simp at hl;omega
 ·exact⟨b,off,h1,h2,(h3 _ (by omega)).trans (pcells_at ps i hi).1,(h3 _ (by omega)).trans (pcells_at ps i hi).2⟩
theorem wpList_moreN {P:Program} {T E:TypeId} {z:Value} {size bytes:Nat} (hE:Elem P T E z size bytes) {w:World} {ops:Array Oper} {rest:List Oper} {o:Oper} {act:Act} {Q:Exit->Act->World->Prop} (hgd:o.guard=none) (s x:Operand)
  (ho:o.op=.call { callee:=.builtin .append,args:=#[s,x],argTypes:=#[T,T] })
  (W:World) (t:TypeId) (us:List Value) (hW:w=W.alloc (.cells us.toArray t)) (hus:us.length=size) (base n:Nat) (v:Value) (xs:List Value) (hs:act.eval s=v) (hx:act.eval x=.slice (some ⟨W.heap.size,0,none⟩) 1 1)
  (hown:W.ownsRow base E size v n xs) (h1:∀ u∈us,u.oneCell'=true) (hbase:base<=W.heap.size) (h63:n+1<=maxLen) (hby:(n+1)*bytes<=140737488355328)
  (h:∀ v' w',w'.ownsRow base E size v' (n+1) (xs++us)->Below base W w'->wpList P ops Q rest (act.put o.dst v') w'):wpList P ops Q (o::rest) act w:=by
 subst hW;obtain⟨i0,hi0,hz0,hz1,hz2⟩:=hE.info;refine wpList_append_own _ hgd s x T ho base E i0 z size bytes hE.und hi0 hz0 hz1 hz2 hE.zero hE.pos v n xs hs (hown.alloc _) ⟨W.heap.size,0,none⟩ 1 1 us hx (by rw [hus,Nat.one_mul]) ?_ h1 h63 hby (by simp;omega) ?_
 ·intro j y hj
  have hjl:j < us.length:=(List.getElem?_eq_some_iff.1 hj).1
  have hh:(W.alloc (.cells us.toArray t)).heap[W.heap.size]?=some (.cells us.toArray t):=by show (W.heap.push _)[W.heap.size]?=_;exact Array.getElem?_push_size
  rw [add_at,Nat.zero_add]
  simp only [World.cell?,hh]
  simpa using hj
 ·intro v1 w1 hown1 hgrow1 _
  exact h v1 w1 hown1 (((Below.refl _ _).alloc hbase _).grown hgrow1 (by simp;omega) (fun g hg=>(World.ownsRow.lt hown g hg).1))
end Go.Proofs.YtpeckljoannolaaGreatDoor

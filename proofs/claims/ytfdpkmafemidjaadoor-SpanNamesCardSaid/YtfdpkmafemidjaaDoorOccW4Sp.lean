/- The range over a function downward of package occ: the bits of a word, the highest first. -/
import Derived.Test.YtfdpkmafemidjaaDoorM10Sp
import Derived.Test.YtfdpkmafemidjaaDoorOccLenSp
import Derived.Test.YtfdpkmafemidjaaDoorTkSp
set_option linter.unusedVariables false
set_option linter.unusedSimpArgs false
set_option maxHeartbeats 1000000
namespace Go.Proofs.YtfdpkmafemidjaaDoor
open Go.RowKit Go.Shelf
attribute [local go_sem] Oper.semAt_some
theorem oDown (x:Nat) (w:World):Calls Tryd.prog 87 #[.int .u64 (x:Int)] w (SeqPost 94 x w):=by
 go_enter Tryd.func87,Tryd.ntmps87
 go_wp2;go_ret;exact⟨_,rfl,Boxed.new w _ _,Nat.le_refl _,(Below.refl _ _).alloc (Nat.le_refl _) _⟩
theorem andNot_log (y:Nat) (h0:y≠0) (hy:y < 18446744073709551616):bits .andNot .u64 (y:Int) (IntKind.u64.wrap ((2:Int)^y.log2))=((y &&& (18446744073709551615-2^y.log2):Nat):Int):=by
 obtain⟨h1,h2⟩:=pow_wrap (Oc.down_round h0 hy).1;rw [h1,u64_andNot_nat y _ hy h2]
def DownJ2 (x:Nat) (J:List (Fin 64)->World->Prop) (p:Value) (wr:World):Prop :=
 ∃ (pre:List (Fin 64)) (y:Nat),p=.int .u64 (y:Int)/\y < 18446744073709551616/\(Oc.bitsOf x).reverse=vs pre++(Oc.bitsOf y).reverse/\J pre wr
theorem down_stops (n B n₀ x:Nat) (w:World) (hx:x < 18446744073709551616) (hB:Boxed w B 25 (.int .u64 (x:Int))) (hn:1<=n) :
  SeqStopsK Fence.wide n Tryd.prog 94 #[.pointer (some ⟨B,0,none⟩)] encB (Below n₀) (fun xs=>vs xs=(Oc.bitsOf x).reverse) (fun pre=>vs pre <+: (Oc.bitsOf x).reverse) 64 w:=fun l J Jx W hW hJ hJx hY h0=>by
 have hc:=(boxed_below hB hB.lt hW).cell;have h64:=(Oc.ones_eq x).2.2;have HY:=aq hY;clear hY hJ hJx;refine callsIn_of_wp Tryd.func94 rfl trivial ?_ rfl
 simp only [Tryd.ntmps94,List.size_toArray,List.length_cons,List.length_nil,Nat.reduceAdd,Nat.reduceSub,Array.replicate_succ,Array.replicate_zero,List.push_toArray,List.append_toArray,List.nil_append,List.cons_append]
 gi_wp2
 gi_loopw [3] (DownJ2 x J) (fun p _=>(intOf p).toNat)
 case atStart=>exact⟨[],x,rfl,hx,rfl,h0⟩
 case round =>
  obtain⟨pre,y,rfl,hy64,hxy,hJr⟩:=hrel;have HXY:=aq hxy;clear hxy
  by_cases hy0:y=0
  ·subst hy0
   gi_wp2
   go_end0
   exact⟨⟨_,rfl⟩,.inl ⟨pre,by have:=HXY.out;rw [show Oc.bitsOf 0=[] from Oc.bitsN_zero 64,List.reverse_nil,List.append_nil] at this;exact this.symm,hJr⟩⟩
  ·obtain⟨hk,hbits,hlt⟩:=Oc.down_round hy0 hy64
   have HB:=aq (show (Oc.bitsOf y).reverse=y.log2::(Oc.bitsOf (y &&& (18446744073709551615-2^y.log2))).reverse by rw [hbits,List.reverse_append];rfl)
   have hlen:pre.length < 64:=by
    have:=congrArg List.length HXY.out;rw [List.length_append,vs_length,HB.out,List.length_cons,List.length_reverse] at this
    omega
   obtain⟨fn,tmps,assign,body,hy,hR⟩:=HY.out pre ⟨y.log2,hk⟩ wr hJr hlen
   dsimp only [encB] at hy
   have k0:((y:Int) != 0)=true:=by simp;omega
   have KA:=andNot_log y hy0 hy64;have HLT:=aq hlt;clear hbits hlt
   gi_wp2
   refine⟨trivial,?_⟩;refine (callsIn_wide.2 (oLen y _ hy64 hy0)).mono ?_;rintro e w' ⟨rfl,rfl⟩
   gi_wp2
   refine hR.mono ?_;rintro e W3 (⟨rfl,hJ3,hk3⟩ | ⟨rfl,hJx3⟩)
   ·gi_wp2
    go_roundw
    case rel=>exact⟨pre++[⟨y.log2,_⟩],y &&& (18446744073709551615-2^y.log2),rfl,Nat.lt_trans HLT.out hy64,by rw [vs_snoc,HXY.out,HB.out,List.append_assoc];rfl,hJ3⟩
    case measure =>
     have:=HLT.out
     simp only [intOf]
     simp
     omega
   ·gi_wp2
    refine bodyPost_ret (results_none rfl _ _ _) rfl ?_;refine⟨⟨_,rfl⟩,.inr ⟨pre++[⟨y.log2,_⟩],?_,hJx3⟩⟩;rw [vs_snoc,HXY.out,HB.out];exact⟨(Oc.bitsOf (y &&& (18446744073709551615-2^y.log2))).reverse,by simp⟩
end Go.Proofs.YtfdpkmafemidjaaDoor

/- What Pairs and Fill of the document's own answers return. -/
import Derived.Test.YthaaapfnheocjaaGreatDoorM06Gt
import Derived.Test.YthaaapfnheocjaaGreatDoorM05Gt
import Derived.Test.YthaaapfnheocjaaGreatDoorTkGt
set_option linter.unusedVariables false
set_option linter.unusedSimpArgs false
set_option maxHeartbeats 4000000
set_option maxRecDepth 100000
namespace Go.Proofs.YthaaapfnheocjaaGreatDoor
open Go.RowKit
theorem emptied_not {s:Sl} {i:Nat} (h:Oc.isB s.words i=false):s.emptied i={ s with keys:=s.keys.set i 0,vals:=s.vals.set i 0 }:=by
 unfold Sl.emptied;rw [h,putW_same h]
 rfl
theorem wiped_keys (s:Sl) (a n:Nat):(s.wiped a n).keys.length=s.keys.length:=by
 induction n with
 | zero=>rfl
 | succ n ih=>show ((s.wiped a n).emptied (a+n)).keys.length=_;rw [emptied_keys,ih]
theorem wiped_fit {s:Sl} {B:Int} (h:s.Fit B) (a n:Nat) (hB:B+n<=1000000000):(s.wiped a n).Fit (B+n):=by
 induction n with
 | zero=>simpa [Sl.wiped] using h
 | succ n ih =>
  have:=(ih (by omega)).emptied (by omega) (a+n);rw [show B+((n+1:Nat):Int)=B+(n:Int)+1 from by omega];exact this
def FillJ1 (s:Sl) (lo hi:Nat) (w:World) (i:Value) (wr:World):Prop :=
 ∃ k A,(lo+k<=hi∨k=0)/\i=.int .i64 ((lo+k:Nat):Int)/\St w (w.heap.size+2) w.heap.size (w.heap.size+1) wr (s.wiped lo k) A
theorem laidIn_keys (s:Sl) (l:List Int) (ps:List (Int×Int)) (n:Nat):(s.laidIn l ps n).keys.length=s.keys.length:=by
 induction n with
 | zero=>rfl
 | succ n ih=>show ((s.laidIn l ps n).filledAt _ _).keys.length=_;rw [filledAt_keys,ih]
theorem laidIn_fit {s:Sl} {B:Int} (h:s.Fit B) (l:List Int) (ps:List (Int×Int)) (n:Nat) (hB:B+n<=1000000000) (h64:∀ k,In64 (ps.getD k (0,0)).1/\In64 (ps.getD k (0,0)).2):(s.laidIn l ps n).Fit (B+n):=by
 induction n with
 | zero=>simpa [Sl.laidIn] using h
 | succ n ih =>
  have:=(ih (by omega)).filledAt (by omega) (l.getD n 0).toNat (h64 n).1 (h64 n).2;rw [show B+((n+1:Nat):Int)=B+(n:Int)+1 from by omega];exact this
theorem plst_stay {w:World} {a:Option Addr} {ps:List (Int×Int)} (h:PLst w a ps) {i:Nat} (hi:i < ps.length) :
  ∃ b off,a=some ⟨b,off,none⟩/\b < w.heap.size/\∀ w',Below w.heap.size w w'->w'.cell? ⟨b,off+i*2,none⟩=some (.int .i64 (ps.getD i (0,0)).1)/\w'.cell? ⟨b,off+i*2+1,none⟩=some (.int .i64 (ps.getD i (0,0)).2):=by
 obtain⟨b,off,h1,h2,h3,h4⟩:=h.pair hi;exact⟨b,off,h1,h2,fun w' hb=>⟨(hb.cell (p:=⟨b,off+i*2,none⟩) h2).trans h3,(hb.cell (p:=⟨b,off+i*2+1,none⟩) h2).trans h4⟩⟩
def FillJ2 (t0:Sl) (l:List Int) (ps:List (Int×Int)) (w:World) (i:Value) (wr:World):Prop :=
 ∃ k A,k<=ps.length/\i=.int .i64 (k:Int)/\St w (w.heap.size+2) w.heap.size (w.heap.size+1) wr (t0.laidIn l ps k) A
theorem r4Filled (s:Sl) (a:Ads) (lo hi:Nat) (at_ al:Option Addr) (cat cal:Nat) (l:List Int) (ps:List (Int×Int)) (w:World) (h:Held w s a) (hf:s.Fit 64) (hhi:hi<=s.keys.length) (hlo:lo<=65536)
  (hl:Lst .i64 w at_ l) (hp:PLst w al ps) (hlen:l.length=ps.length) (hn:ps.length<=65536) (hin:∀ k,k < l.length->0<=l.getD k 0/\l.getD k 0 < s.keys.length) (h64:∀ k,In64 (ps.getD k (0,0)).1/\In64 (ps.getD k (0,0)).2) :
  Calls Tryz.prog 132 #[slv s a,.int .i64 (lo:Int),.int .i64 (hi:Int),.slice at_ l.length cat,.slice al ps.length cal] w (SPost (s.filled lo hi l ps) w):=by
 have HF:=aq hf;have HB:=aq (fun o=>(Box.new w s a 27).below ((Below.refl _ _).alloc (Nat.le_refl _) o));have HR:=aq (fun o=>Box.second w o Sl.none adsNone 27);have B0:=aq (fun o o'=>((Below.refl w.heap.size w).alloc (Nat.le_refl _) o).alloc (by simp) o');have CT:=aq (fun o o'=>r4Twin s a ((w.alloc o).alloc o') (h.below (((Below.refl w.heap.size w).alloc (Nat.le_refl _) o).alloc (by simp) o')) hf.short);have HLt:=aq hl;have HPs:=aq hp;have HLen:=aq hlen;have HIn:=aq hin;have H64:=aq h64;have l2:=hf.short.keys;clear h hf hl hp hlen hin h64;unfold slv at CT ⊢
 go_enter Tryz.func132,Tryz.ntmps132
 go_wp2_with fail
 refine (CT.out _ _).mono ?_;rintro e w1 ⟨a1,rfl,own,sep,lies,hb⟩;have S0:=aq (St.start (w:=w) (b:=w.heap.size+2) (g:=w.heap.size) (r:=w.heap.size+1) ((HB.out _).below hb) ((HR.out _).below hb) (own.lower (by simp)) sep (lies.lower (by simp)) ((B0.out _ _).trans (hb.mono (by simp;omega))) (by omega) (by omega) (by omega) (Nat.le_refl _) (by omega) (by have:=hb.size;simp at this;omega));obtain⟨_,p0,p1,p2,p3,p4,p5,pf⟩:=(HB.out _).below hb;have pf0:=pf 0;have pf1:=pf 1;have pf2:=pf 2;have pf3:=pf 3;have pf4:=pf 4;have pf5:=pf 5;clear own sep lies hb pf;unfold slv
 go_upto_region 2 with (fail)
 obtain⟨W2,hW2⟩:∃ W2,W2=put6 w1 w.heap.size (.int .i64 s.seg) (.slice a1.w s.words.length a1.cw) (.slice a1.k s.keys.length a1.ck) (.slice a1.v s.vals.length a1.cv) (.slice a1.c s.counts.length a1.cc) (.int .u64 (s.laid:Int)):=⟨_,rfl⟩;rw [<-hW2] at S0
 show Code.wp _ _ _ _ (put6 w1 w.heap.size (.int .i64 s.seg) (.slice a1.w s.words.length a1.cw) (.slice a1.k s.keys.length a1.ck) (.slice a1.v s.vals.length a1.cv) (.slice a1.c s.counts.length a1.cc) (.int .u64 (s.laid:Int)))
 rw [<-hW2];clear hW2 p0 p1 p2 p3 p4 p5 pf0 pf1 pf2 pf3 pf4 pf5;go_wp2
 go_loopw [11] (FillJ1 s lo hi w) (fun i _=>hi-(intOf i).toNat)
 case atStart=>exact⟨0,a1,Or.inr rfl,rfl,S0.out⟩
 case round =>
  obtain⟨k,A,hk,rfl,S1⟩:=hrel;have ST:=aq S1;clear S1 S0;obtain⟨i,hie⟩:∃ i,i=lo+k:=⟨_,rfl⟩
  have hk6:k<=65536:=by omega
  have FT:=aq (wiped_fit HF.out lo k (by omega));have hkl:=wiped_keys s lo k;have HN:=aq (show s.wiped lo (k+1)=(s.wiped lo k).emptied i by rw [hie];rfl);obtain⟨t,ht⟩:∃ t,t=s.wiped lo k:=⟨_,rfl⟩;rw [<-ht] at ST FT hkl HN;rw [<-hie];have HT:=aq ht;have HIE:=aq hie
  by_cases hlt:i < hi
  ·have hi':i < t.keys.length:=by omega
   have l1:=FT.out.short.words;have hwl:=FT.out.words
   have hiv:i < t.vals.length:=by have:=FT.out.vals;omega
   have j0:(0:Int)<=(i:Int):=by omega
   have j1:(i:Int) < (t.keys.length:Int):=by omega
   have j2:(i:Int) < (t.vals.length:Int):=by omega
   have hnx:(lo+(k+1)<=hi∨k+1=0):=by omega
   clear ht hie hkl;have hi:=hi';obtain⟨_,p0,p1,p2,p3,p4,p5,_⟩:=ST.out.box
   try dsimp only at p0 p1 p2 p3 p4 p5
   go_wp2_with fail
   refine (r4Is t A (i:Int) _ ST.out.own.held FT.out.ok FT.out.short (by omega) (by omega)).mono ?_;rintro e w2 ⟨rfl,hb2⟩;rw [Int.toNat_natCast];have S2:=aq (ST.out.step hb2);clear p0 p1 p2 p3 p4 p5 hb2 ST
   cases hI:Oc.isB t.words i
   ·have HE:=aq (show s.wiped lo (k+1)={ t with keys:=t.keys.set i 0,vals:=t.vals.set i 0 } by rw [HN.out,emptied_not hI])
    have HI:=aq hI;clear hI
    go_upto_region 8 with (fail)
    obtain⟨_,p0,p1,p2,p3,p4,p5,_⟩:=S2.out.box
    try dsimp only at p0 p1 p2 p3 p4 p5
    obtain⟨bk,ok,hak,_,_,ck,fk⟩:=S2.out.own.keys.item (i:=i) hi
    try dsimp only at hak ck
    rw [hak] at p2;have S5:=aq (S2.out.key hak (j:=i) hi 0);have HAK:=aq hak;clear hak
    go_upto_region 9 with (fail)
    obtain⟨W6,hW6⟩:∃ W6,W6=w2.setCell ⟨bk,ok+i,none⟩ (.int .i64 0):=⟨_,rfl⟩;rw [<-hW6] at S5 ⊢;clear hW6 p0 p1 p2 p3 p4 p5 ck fk;obtain⟨_,p0,p1,p2,p3,p4,p5,_⟩:=S5.out.box
    try dsimp only at p0 p1 p2 p3 p4 p5
    obtain⟨bv,ov,hav,_,_,cv,fv⟩:=S5.out.own.vals.item (i:=i) hiv
    try dsimp only at hav cv
    rw [hav] at p3;have S6:=aq (S5.out.val hav (j:=i) hiv 0);have HAV:=aq hav;clear hav;go_wp2
    go_roundw
    case rel=>exact⟨k+1,A,hnx,by rw [HIE.out];go_num,by rw [HE.out];exact S6.out⟩
    case measure=>simp [intOf];omega
   ·have HI:=aq hI
    clear hI;obtain⟨sg,hsg⟩:∃ sg:Nat,t.seg=sg:=⟨t.seg.toNat,by have:=FT.out.seg1;omega⟩
    have hsg4:4<=sg:=by have:=FT.out.seg1;omega
    have hq:i/sg < t.counts.length:=by
     have h1:=FT.out.counts;rw [hsg] at h1
     have h2:t.keys.length<=t.counts.length*sg:=by exact_mod_cast h1
     exact Nat.div_lt_of_lt_mul (by rw [Nat.mul_comm];omega)
    have hqi:i/sg<=i:=Nat.div_le_self _ _;obtain⟨x,hx⟩:∃ x,t.counts.getD (i/sg) 0=x:=⟨_,rfl⟩;have hxb:=FT.out.cnt (i/sg);rw [hx] at hxb;obtain⟨bc,oc,hac,hbc,_,cc,fc⟩:=S2.out.own.counts.item (i:=i/sg) hq;rw [hx] at cc;obtain⟨q,hqe⟩:∃ q,q=i/sg:=⟨_,rfl⟩;have HSO:=aq (show t.segOf i=q by unfold Sl.segOf;rw [hsg,hqe];rfl);rw [<-hqe] at cc fc hq hqi;obtain⟨_,p0,p1,p2,p3,p4,p5,_⟩:=S2.out.box;rw [hac] at p4;have S3:=aq ((S2.out.count hac hq (x-1)).drew)
    have g3:IntKind.i64.wrap ((i:Int).tdiv t.seg)=(q:Int):=by
     rw [hsg,Int.tdiv_eq_ediv_of_nonneg (by omega),show (i:Int)/(sg:Int)=((i/sg:Nat):Int) from by simp,<-hqe];exact IntWalk.i64_in _ (by omega)
    have g7:IntKind.i64.wrap ((i:Int)/t.seg)=(q:Int):=by rw [<-g3,Int.tdiv_eq_ediv_of_nonneg (by omega)]
    have k0:¬ t.seg=0:=by omega
    have g4:IntKind.i64.wrap (x-1)=x-1:=IntWalk.i64_in _ (by omega)
    have g5:(0:Int)<=(q:Int):=by omega
    have g6:(q:Int) < (t.counts.length:Int):=by omega
    have HXc:=aq (show t.counts.getD q 0=x by rw [hqe];exact hx);have HAC:=aq hac;clear hsg hx hqe hac
    go_upto_region 6 with (fail)
    go_still_tail 10,(by kernel_rfl)
    go_upto_region 7 with (fail)
    clear p0 p1 p2 p3 p4 p5 cc fc g3 g4 g7;obtain⟨W3,hW3⟩:∃ W3,W3=(w2.setCell ⟨bc,oc+q,none⟩ (.int .i64 (x-1))).drew:=⟨_,rfl⟩;rw [<-hW3] at S3 ⊢;clear hW3;have HCL:=aq (show (t.counts.set q (x-1)).length=t.counts.length from List.length_set ..)
    go_upto_region 7 with (fail)
    obtain⟨_,p0,p1,p2,p3,p4,p5,_⟩:=S3.out.box
    try dsimp only at p0 p1 p2 p3 p4 p5
    go_wp2_with fail
    refine (r2Put A.w A.cw t.words i false _ S3.out.own.words.lst FT.out.ok.words l1 (by omega)).mono ?_;rintro e w4 ⟨v,rfl,hown,hb4⟩;clear p0 p1 p2 p3 p4 p5;obtain⟨A4,n4,rfl,_⟩:=own_cells hown;have hL4:=putW_length t.words i false;obtain⟨X,hX⟩:∃ X,X=Oc.putW t.words i false:=⟨_,rfl⟩;rw [<-hX] at hown hL4
    have hown':w4.ownsRow W3.heap.size 25 1 (.slice A4 t.words.length n4) t.words.length ((ints X).map (Value.int .u64)):=by
     have e:(ints X).map (Value.int .u64)=vals X:=by simp [ints,vals,Function.comp_def]
     rw [e];exact hown
    obtain⟨N4,q40,q41,L4⟩:=own_where hown';have bx:=(S3.out.step hb4).box;obtain⟨_,p0,p1,p2,p3,p4,p5,pf⟩:=bx;have pf1:=pf 1
    try dsimp only at p0 p1 p2 p3 p4 p5
    have S4:=aq (show St w (w.heap.size+2) w.heap.size (w.heap.size+1) (w4.setCell ⟨w.heap.size,1,none⟩ (.slice A4 t.words.length n4)) { ({ t with counts:=t.counts.set q (x-1) }:Sl) with words:=X } { A with w:=A4,cw:=n4 } from by
     have:=S3.out.words hb4 (A:=A4) (n:=n4) (ws:=X) hL4 N4 (by rw [hL4];exact q40) (by rw [hL4];exact q41) L4;rw [hL4] at this
     exact this)
    have HX:=aq hX;have HL4:=aq hL4;clear hX hown hown' N4 q40 q41 L4 hb4 pf hL4
    go_upto_region 8 with (fail)
    obtain⟨W5,hW5⟩:∃ W5,W5=w4.setCell ⟨w.heap.size,1,none⟩ (.slice A4 t.words.length n4):=⟨_,rfl⟩;rw [<-hW5] at S4 ⊢;clear hW5 p0 p1 p2 p3 p4 p5 pf1
    have HE:=aq (show s.wiped lo (k+1)={ seg:=t.seg,words:=X,keys:=t.keys.set i 0,vals:=t.vals.set i 0,counts:=t.counts.set q (x-1),laid:=t.laid } by
     rw [HN.out];unfold Sl.emptied;rw [HI.out,HX.out,if_pos rfl,HSO.out,HXc.out])
    obtain⟨_,p0,p1,p2,p3,p4,p5,_⟩:=S4.out.box
    try dsimp only at p0 p1 p2 p3 p4 p5
    obtain⟨bk,ok,hak,_,_,ck,fk⟩:=S4.out.own.keys.item (i:=i) hi
    try dsimp only at hak ck
    rw [hak] at p2;have S5:=aq (S4.out.key hak (j:=i) hi 0);have HAK:=aq hak;clear hak
    go_upto_region 9 with (fail)
    obtain⟨W6,hW6⟩:∃ W6,W6=W5.setCell ⟨bk,ok+i,none⟩ (.int .i64 0):=⟨_,rfl⟩;rw [<-hW6] at S5 ⊢;clear hW6 p0 p1 p2 p3 p4 p5 ck fk;obtain⟨_,p0,p1,p2,p3,p4,p5,_⟩:=S5.out.box
    try dsimp only at p0 p1 p2 p3 p4 p5
    obtain⟨bv,ov,hav,_,_,cv,fv⟩:=S5.out.own.vals.item (i:=i) hiv
    try dsimp only at hav cv
    rw [hav] at p3;have S6:=aq (S5.out.val hav (j:=i) hiv 0);have HAV:=aq hav;clear hav;go_wp2
    go_roundw
    case rel=>exact⟨k+1,{ A with w:=A4,cw:=n4 },hnx,by rw [HIE.out];go_num,by rw [HE.out];exact S6.out⟩
    case measure=>simp [intOf];omega
  ·have hkk:k=hi-lo:=by omega
   have HFL:=aq (show s.filled lo hi l ps=t.laidIn l ps ps.length by unfold Sl.filled;rw [Int.toNat_natCast,show ((hi:Int)-(lo:Int)).toNat=hi-lo from by omega,ht,hkk]);have FT0:=aq (show t.Fit 65600 from⟨FT.out.seg1,FT.out.seg2,FT.out.vals,FT.out.words,FT.out.counts,fun j=>by have:=FT.out.cnt j;omega,FT.out.ok,FT.out.short⟩);obtain⟨t0,ht0⟩:∃ t0,t0=t:=⟨_,rfl⟩;rw [<-ht0] at ST HFL hkl FT0;have hkl0:=aq hkl;clear ht0 ht hkk FT HN HT hk6 hk hkl;clear t;go_wp2;clear hlt hie HIE
   go_loopw [12] (FillJ2 t0 l ps w) (fun i _=>ps.length-(intOf i).toNat)
   case atStart=>exact⟨0,A,Nat.zero_le _,rfl,ST.out⟩
   case round =>
    obtain⟨k2,A2,hk2,rfl,S1⟩:=hrel;clear ST;have ST:=aq S1;clear S1;have FT:=aq (laidIn_fit FT0.out l ps k2 (by omega) H64.out);have hkl2:=laidIn_keys t0 l ps k2;have HN:=aq (show t0.laidIn l ps (k2+1)=(t0.laidIn l ps k2).filledAt (l.getD k2 0).toNat (ps.getD k2 (0,0)) from rfl);obtain⟨t,ht⟩:∃ t,t=t0.laidIn l ps k2:=⟨_,rfl⟩;have HTT:=aq ht;rw [<-ht] at ST FT hkl2 HN;clear ht
    by_cases hlt2:k2 < ps.length
    ·have hin:=HIn.out k2 (by have:=HLen.out;omega)
     obtain⟨z,hz⟩:∃ z,l.getD k2 0=z:=⟨_,rfl⟩;rw [hz] at hin HN;obtain⟨i,rfl⟩:∃ i:Nat,z=i:=⟨z.toNat,by omega⟩;obtain⟨⟨x1,x2⟩,hpe⟩:∃ p,ps.getD k2 (0,0)=p:=⟨_,rfl⟩;rw [hpe,Int.toNat_natCast] at HN;obtain⟨ba,oa,haa,hba,ca⟩:=HLt.out.stay (i:=k2) (by have:=HLen.out;omega);rw [hz] at ca;obtain⟨bp,op,hap,hbp,cp⟩:=plst_stay HPs.out hlt2;rw [hpe] at cp;have CA:=aq ca;have CP:=aq cp;have HZ:=aq hz;have HPE:=aq hpe;subst haa hap
     have hi:i < t.keys.length:=by have:=hkl0.out;omega
     have l1:=FT.out.short.words;have hwl:=FT.out.words;have l2t:=FT.out.short.keys
     have hiv:i < t.vals.length:=by have:=FT.out.vals;omega
     have j0:(0:Int)<=(i:Int):=by omega
     have j1:(i:Int) < (t.keys.length:Int):=by omega
     have j2:(i:Int) < (t.vals.length:Int):=by omega
     have j3:(0:Int)<=(k2:Int):=by omega
     have j4:(k2:Int) < (l.length:Int):=by have:=HLen.out;omega
     have j5:(k2:Int) < (ps.length:Int):=by omega
     have j6:k2 < l.length:=by omega
     clear ca cp hz hpe hin hkl2;have cA1:=CA.out wr ST.out.below;obtain⟨sg,hsg⟩:∃ sg:Nat,t.seg=sg:=⟨t.seg.toNat,by have:=FT.out.seg1;omega⟩
     have hsg4:4<=sg:=by have:=FT.out.seg1;omega
     have hq:i/sg < t.counts.length:=by
      have h1:=FT.out.counts;rw [hsg] at h1
      have h2:t.keys.length<=t.counts.length*sg:=by exact_mod_cast h1
      exact Nat.div_lt_of_lt_mul (by rw [Nat.mul_comm];omega)
     have hqi:i/sg<=i:=Nat.div_le_self _ _;obtain⟨x,hx⟩:∃ x,t.counts.getD (i/sg) 0=x:=⟨_,rfl⟩;have hxb:=FT.out.cnt (i/sg);rw [hx] at hxb;obtain⟨bc,oc,hac,hbc,_,cc,fc⟩:=ST.out.own.counts.item (i:=i/sg) hq;rw [hx] at cc;obtain⟨q,hqe⟩:∃ q,q=i/sg:=⟨_,rfl⟩;have HSO:=aq (show t.segOf i=q by unfold Sl.segOf;rw [hsg,hqe];rfl);rw [<-hqe] at cc fc hq hqi;obtain⟨_,p0,p1,p2,p3,p4,p5,_⟩:=ST.out.box;rw [hac] at p4;have S3:=aq ((ST.out.count hac hq (x+1)).drew)
     have g3:IntKind.i64.wrap ((i:Int).tdiv t.seg)=(q:Int):=by
      rw [hsg,Int.tdiv_eq_ediv_of_nonneg (by omega),show (i:Int)/(sg:Int)=((i/sg:Nat):Int) from by simp,<-hqe];exact IntWalk.i64_in _ (by omega)
     have g7:IntKind.i64.wrap ((i:Int)/t.seg)=(q:Int):=by rw [<-g3,Int.tdiv_eq_ediv_of_nonneg (by omega)]
     have k0:¬ t.seg=0:=by omega
     have g4:IntKind.i64.wrap (x+1)=x+1:=IntWalk.i64_in _ (by omega)
     have g5:(0:Int)<=(q:Int):=by omega
     have g6:(q:Int) < (t.counts.length:Int):=by omega
     have HXc:=aq (show t.counts.getD q 0=x by rw [hqe];exact hx);have HAC:=aq hac;clear hsg hx hqe hac
     go_upto_region 13 with (fail)
     go_still_tail 13,(by kernel_rfl)
     go_upto_region 14 with (fail)
     clear p0 p1 p2 p3 p4 p5 cc fc g3 g4 g7;obtain⟨W3,hW3⟩:∃ W3,W3=(wr.setCell ⟨bc,oc+q,none⟩ (.int .i64 (x+1))).drew:=⟨_,rfl⟩;rw [<-hW3] at S3 ⊢;clear hW3;have HCL:=aq (show (t.counts.set q (x+1)).length=t.counts.length from List.length_set ..)
     clear cA1;obtain⟨_,p0,p1,p2,p3,p4,p5,_⟩:=S3.out.box
     try dsimp only at p0 p1 p2 p3 p4 p5
     have cA1:=CA.out W3 S3.out.below;go_wp2
     go_still_tail 6,(by kernel_rfl)
     go_wp2_with fail
     refine (r2Put A2.w A2.cw t.words i true _ S3.out.drew.own.words.lst FT.out.ok.words l1 (by omega)).mono ?_;rintro e w4 ⟨v,rfl,hown,hb40⟩;have hb4:Below W3.heap.size W3 w4:=((Below.refl _ _).drew).trans hb40;clear hb40;clear p0 p1 p2 p3 p4 p5;obtain⟨A4,n4,rfl,_⟩:=own_cells hown;have hL4:=putW_length t.words i true;obtain⟨X,hX⟩:∃ X,X=Oc.putW t.words i true:=⟨_,rfl⟩;rw [<-hX] at hown hL4
     have hown':w4.ownsRow W3.heap.size 25 1 (.slice A4 t.words.length n4) t.words.length ((ints X).map (Value.int .u64)):=by
      have e:(ints X).map (Value.int .u64)=vals X:=by simp [ints,vals,Function.comp_def]
      rw [e];exact hown
     obtain⟨N4,q40,q41,L4⟩:=own_where hown';have bx:=(S3.out.step hb4).box;obtain⟨_,p0,p1,p2,p3,p4,p5,pf⟩:=bx;have pf1:=pf 1
     try dsimp only at p0 p1 p2 p3 p4 p5
     have S4:=aq (show St w (w.heap.size+2) w.heap.size (w.heap.size+1) (w4.setCell ⟨w.heap.size,1,none⟩ (.slice A4 t.words.length n4)) { ({ t with counts:=t.counts.set q (x+1) }:Sl) with words:=X } { A2 with w:=A4,cw:=n4 } from by
      have:=S3.out.words hb4 (A:=A4) (n:=n4) (ws:=X) hL4 N4 (by rw [hL4];exact q40) (by rw [hL4];exact q41) L4;rw [hL4] at this
      exact this)
     have HX:=aq hX;have HL4:=aq hL4;clear hX hown hown' N4 q40 q41 L4 hb4 pf hL4
     go_upto_region 15 with (fail)
     clear cA1;obtain⟨W5,hW5⟩:∃ W5,W5=w4.setCell ⟨w.heap.size,1,none⟩ (.slice A4 t.words.length n4):=⟨_,rfl⟩;rw [<-hW5] at S4 ⊢;clear hW5 p0 p1 p2 p3 p4 p5 pf1;obtain⟨L,hL⟩:∃ L,L=(t.laid+1) % 18446744073709551616:=⟨_,rfl⟩
     have gL:IntKind.u64.wrap ((t.laid:Int)+1)=(L:Int):=by rw [hL];exact wrap_laid t.laid
     have HE:=aq (show t0.laidIn l ps (k2+1)={ seg:=t.seg,words:=X,keys:=t.keys.set i x1,vals:=t.vals.set i x2,counts:=t.counts.set q (x+1),laid:=L } by
      rw [HN.out];unfold Sl.filledAt;rw [HX.out,HSO.out,HXc.out,hL])
     clear hL;obtain⟨_,p0,p1,p2,p3,p4,p5,_⟩:=S4.out.box
     try dsimp only at p0 p1 p2 p3 p4 p5
     obtain⟨bk,ok,hak,_,_,ck,fk⟩:=S4.out.own.keys.item (i:=i) hi
     try dsimp only at hak ck
     rw [hak] at p2;have S5:=aq ((S4.out.key hak (j:=i) hi x1).drew);have HAK:=aq hak;have cA1:=CA.out W5 S4.out.below;have cP1:=(CP.out W5 S4.out.below).1;have cP2:=(CP.out W5 S4.out.below).2
     try dsimp only at cP1 cP2
     clear hak;go_wp2
     go_still_tail 12,(by kernel_rfl)
     go_upto_region 16 with (fail)
     obtain⟨W6,hW6⟩:∃ W6,W6=(W5.setCell ⟨bk,ok+i,none⟩ (.int .i64 x1)).drew:=⟨_,rfl⟩;rw [<-hW6] at S5 ⊢;clear hW6 p0 p1 p2 p3 p4 p5 ck fk cA1 cP1 cP2;obtain⟨_,p0,p1,p2,p3,p4,p5,_⟩:=S5.out.box
     try dsimp only at p0 p1 p2 p3 p4 p5
     obtain⟨bv,ov,hav,_,_,cv,fv⟩:=S5.out.own.vals.item (i:=i) hiv
     try dsimp only at hav cv
     rw [hav] at p3;have S6:=aq ((S5.out.val hav (j:=i) hiv x2).drew);have HAV:=aq hav;have cA1:=CA.out W6 S5.out.below;have cP1:=(CP.out W6 S5.out.below).1;have cP2:=(CP.out W6 S5.out.below).2
     try dsimp only at cP1 cP2
     clear hav;go_wp2
     go_still_tail 12,(by kernel_rfl)
     go_upto_region 17 with (fail)
     obtain⟨W7,hW7⟩:∃ W7,W7=(W6.setCell ⟨bv,ov+i,none⟩ (.int .i64 x2)).drew:=⟨_,rfl⟩;rw [<-hW7] at S6 ⊢;clear hW7 p0 p1 p2 p3 p4 p5 cv fv cA1 cP1 cP2;obtain⟨_,p0,p1,p2,p3,p4,p5,pf⟩:=S6.out.box;have pf5:=pf 5;clear pf
     try dsimp only at p0 p1 p2 p3 p4 p5
     have S7:=aq (S6.out.laid L);go_wp2
     go_roundw
     case rel=>exact⟨k2+1,{ A2 with w:=A4,cw:=n4 },by omega,by go_num,by rw [HE.out];exact S7.out⟩
     case measure=>simp [intOf];omega
    ·have hkk:k2=ps.length:=by omega
     have HFX:=aq (show s.filled lo hi l ps=t by rw [HFL.out,HTT.out,hkk]);clear hkk hkl2;obtain⟨_,p0,p1,p2,p3,p4,p5,_⟩:=ST.out.box;obtain⟨_,s0,s1,s2,s3,s4,s5,sf⟩:=ST.out.res;have⟨sf0,sf1,sf2,sf3,sf4,sf5⟩:=sf6 sf;clear sf;go_wp2;refine bodyPost_ret (v:=slv t A2) (by simp [results,Tryz.results132,go_sem,slv,s0,s1,s2,s3,s4,s5,sf0,sf1,sf2,sf3,sf4,sf5]) rfl ?_;rw [HFX.out];exact⟨_,rfl,ST.out.done _ _ _ _ _ _⟩
def POwn2 (ps:List (Int×Int)) (er:Int) (w:World) (e:Ending) (w':World):Prop :=
 ∃ v,e=.returned (.tuple #[v,.int .i64 er])/\w'.ownsRow w.heap.size 36 2 v ps.length (pcells ps)/\Below w.heap.size w w'
theorem part_iff {n a b:Int}:Sl.partB n a b=true↔0<=a/\a<=b/\b<=n:=by unfold Sl.partB;simp;omega
end Go.Proofs.YthaaapfnheocjaaGreatDoor

/- What Fill of package slots returns. -/
import Derived.Test.YtpeckljoannolaaGreatDoorM23Oc
import Derived.Test.YtpeckljoannolaaGreatDoorM19Oc
import Derived.Test.YtpeckljoannolaaGreatDoorTkOc
set_option linter.unusedVariables false
set_option linter.unusedSimpArgs false
set_option maxHeartbeats 16000000
set_option maxRecDepth 100000
namespace Go.Proofs.YtpeckljoannolaaGreatDoor
open Go.RowKit
theorem up_iff:∀ (l:List Int) (a b:Int),upB l a b=true↔(∀ k,k < l.length->a<=l.getD k 0/\l.getD k 0 < b)/\∀ i j,i < j->j < l.length->l.getD i 0 < l.getD j 0
 | [],a,b=>⟨fun _=>⟨fun k h=>by simp at h,fun i j _ h=>by simp at h⟩,fun _=>rfl⟩
 | x::r,a,b=>by
  show ((decide (a<=x)&&decide (x < b)&&upB r (x+1) b)=true)↔_
  rw [Bool.and_eq_true,Bool.and_eq_true,decide_eq_true_eq,decide_eq_true_eq,up_iff r (x+1) b]
  constructor
  ·rintro⟨⟨h1,h2⟩,h3,h4⟩
   refine⟨fun k hk=>?_,fun i j hij hj=>?_⟩
   ·cases k with
    | zero=>exact⟨h1,h2⟩
    | succ k =>
     rw [List.length_cons] at hk;rw [List.getD_cons_succ];have:=h3 k (by omega)
     omega
   ·cases j with
    | zero=>omega
    | succ j =>
     rw [List.length_cons] at hj;rw [List.getD_cons_succ]
     cases i with
     | zero =>
      rw [List.getD_cons_zero];have:=h3 j (by omega)
      omega
     | succ i =>
      rw [List.getD_cons_succ];exact h4 i j (by omega) (by omega)
  ·rintro⟨h1,h2⟩
   have h0:=h1 0 (by rw [List.length_cons];omega);rw [List.getD_cons_zero] at h0;refine⟨h0,fun k hk=>?_,fun i j hij hj=>?_⟩
   ·have e1:=h1 (k+1) (by rw [List.length_cons];omega)
    have e2:=h2 0 (k+1) (by omega) (by rw [List.length_cons];omega);rw [List.getD_cons_succ] at e1 e2;rw [List.getD_cons_zero] at e2
    omega
   ·have e:=h2 (i+1) (j+1) (by omega) (by rw [List.length_cons];omega)
    rw [List.getD_cons_succ,List.getD_cons_succ] at e;exact e
theorem up_rising {l:List Int} {a b:Nat} (h:upB l a b=true):Rising l a b:=by
 obtain⟨h1,h2⟩:=(up_iff _ _ _).1 h;exact⟨h1,h2⟩
structure Good (s:Sl):Prop where
 may:s.May
 ok:s.Ok
 short:s.Short
theorem Good.emptied {s:Sl} (h:Good s) {i:Nat} (hi:i < s.keys.length):Good (s.emptied i):=⟨h.may.emptied hi,((may_fit (may_iff.2 h.may) h.ok h.short).emptied (by omega) _).ok,h.short.emptied i⟩
theorem wipedL_good {s:Sl} (xs:List Nat) (h:Good s) (hx:∀ x∈xs,x < s.keys.length):Good (s.wipedL xs):=by
 induction xs generalizing s with
 | nil=>exact h
 | cons x xs ih=>exact ih (h.emptied (hx x (by simp))) (fun y hy=>by rw [emptied_keys];exact hx y (by simp [hy]))
theorem laidIn_good {t:Sl} (h:Good t) {l:List Int} {ps:List (Int×Int)} (hL:∀ k,k<=l.length->LaidIn t l ps k) (h64:∀ k,In64 (ps.getD k (0,0)).1/\In64 (ps.getD k (0,0)).2):∀ k,k<=l.length->Good (t.laidIn l ps k)
 | 0,_=>h
 | k+1,hk=>by
  have g:=laidIn_good h hL h64 k (by omega);exact⟨(hL (k+1) hk).may,((may_fit (may_iff.2 g.may) g.ok g.short).filledAt (by omega) _ (h64 k).1 (h64 k).2).ok,g.short.filledAt _ _⟩
theorem laidIn_with {t:Sl} {l:List Int} {ps:List (Int×Int)} {k:Nat} (H:LaidIn t l ps k) (hk:k < l.length):t.laidIn l ps (k+1)=(t.laidIn l ps k).withP (l.getD k 0).toNat (ps.getD k (0,0)):=by
 have h:=H.off k (Nat.le_refl _) hk;unfold Sl.withP;rw [emptied_id h (H.may.zero _ h)]
 rfl
theorem keeps_put6 (w:World) (g:Nat) (u0 u1 u2 u3 u4 u5:Value):KeepsOthers w (put6 w g u0 u1 u2 u3 u4 u5) :=
 (((((KeepsOthers.setCell _ _ _).trans (KeepsOthers.setCell _ _ _)).trans (KeepsOthers.setCell _ _ _)).trans (KeepsOthers.setCell _ _ _)).trans (KeepsOthers.setCell _ _ _)).trans (KeepsOthers.setCell _ _ _)
theorem Over.cop {n g:Nat} {A B:World} {s:Sl} {a:Ads} (h:Over A B) (hc:Cop n g A s a):Cop n g B s a :=
 ⟨h.box hc.box,⟨h.new hc.own.words,h.new hc.own.keys,h.new hc.own.vals,h.new hc.own.counts,hc.own.caps⟩,hc.sep,hc.lies.size h.size,hc.fw,hc.fk,hc.fv,hc.fc⟩
structure FillI (s:Sl) (a:Ads) (w:World) (n g r m:Nat) (pre:List Nat) (W:World):Prop where
 cop:Cop n g W (s.wipedL pre) a
 below:Below w.heap.size w W
 res:Box W r Sl.none adsNone
 size:m<=W.heap.size
theorem fillI_own (s:Sl) (a:Ads) (w:World) (n g r m q:Nat) (hm:w.heap.size<=q):OwnFrom q (FillI s a w n g r m):=fun pre A B row hs hg hr =>
 have ho:=Over.of_grown hg hr
 ⟨ho.cop hs.cop,ownFrom_below (β:=Unit) (Nat.le_refl _) hm () A B row hs.below hg hr,ho.box hs.res,Nat.le_trans hs.size ho.size⟩
theorem Turned.kept {Z:Nat->Prop} {n g:Nat} {a:Ads} {V W W':World} (h:Turned g a W W') (hl:Lies V n a) (hz:∀ k,Z k->k < W.heap.size/\k≠g/\(k < n∨V.heap.size<=k)):Kept Z W W' :=
 ⟨h.size,fun k hk=>by
  obtain⟨h1,h2,h3⟩:=hz k hk
  exact h.block k h1 h2 (fun p hp=>by have:=hl.w p hp;omega) (fun p hp=>by have:=hl.k p hp;omega) (fun p hp=>by have:=hl.v p hp;omega) (fun p hp=>by have:=hl.c p hp;omega)⟩
end Go.Proofs.YtpeckljoannolaaGreatDoor
namespace Go.Proofs.YtpeckljoannolaaGreatDoor
open Go.RowKit Go.Shelf
attribute [local go_sem] Oper.semAt_some
structure Steps (s t:Sl) (lo hi:Nat) (l:List Int) (ps:List (Int×Int)):Prop where
 start:s.wipedL (Oc.places s.words lo hi)=t
 fin:s.filled lo hi l ps=t.laidIn l ps l.length
 wipe:∀ pre x,pre++[x] <+: Oc.places s.words lo hi->Good (s.wipedL pre)/\x < (s.wipedL pre).keys.length/\s.wipedL (pre++[x])=(s.wipedL pre).emptied x
 lay:∀ k,k < l.length->Good (t.laidIn l ps k)/\t.laidIn l ps (k+1)=(t.laidIn l ps k).withP (l.getD k 0).toNat (ps.getD k (0,0))/\0<=l.getD k 0/\(l.getD k 0).toNat < (t.laidIn l ps k).keys.length
theorem steps_of (s:Sl) (lo hi:Nat) (l:List Int) (ps:List (Int×Int)) (hg:Good s) (h1:lo<=hi) (h2:hi<=s.keys.length) (hlen:l.length=ps.length) (hu:upB l lo hi=true) (h64:∀ k,In64 (ps.getD k (0,0)).1/\In64 (ps.getD k (0,0)).2) :
  Steps s (s.wiped lo (hi-lo)) lo hi l ps:=by
 have hM:=hg.may;have hR:=up_rising hu
 have hpl:∀ x∈Oc.places s.words lo hi,x < s.keys.length:=fun x hx=>by have:=(Oc.mem_places.1 hx).1;omega
 obtain⟨m1,m2⟩:=wiped_may hM lo (hi-lo) (by omega)
 have eW:s.wipedL (Oc.places s.words lo hi)=s.wiped lo (hi-lo):=by have:=wipedL_places hM lo (hi-lo) (by omega);rwa [show lo+(hi-lo)=hi from by omega] at this
 have hk1:(s.wiped lo (hi-lo)).keys.length=s.keys.length:=wiped_keys _ _ _;have HL:=laidIn_all m1 ps hR (by rw [hk1];exact h2) (fun j e1 e2=>by rw [m2,show (decide (lo<=j)&&decide (j < lo+(hi-lo)))=true from by simp;omega];simp)
 have GW:Good (s.wiped lo (hi-lo)):=by rw [<-eW];exact wipedL_good _ hg hpl
 refine⟨eW,?_,fun pre x hpre=>?_,fun k hk=>?_⟩
 ·unfold Sl.filled
  rw [Int.toNat_natCast,show ((hi:Int)-(lo:Int)).toNat=hi-lo from by omega,hlen]
 ·have hsub:∀ y∈pre++[x],y < s.keys.length:=fun y hy=>hpl y (hpre.subset hy)
  have hp:∀ y∈pre,y < s.keys.length:=fun y hy=>hsub y (by simp [hy]);refine⟨wipedL_good pre hg hp,?_,wipedL_snoc _ _ _⟩;rw [(wipedL_may pre hM hp).2];exact hsub x (by simp)
 ·have:=hR.inn k hk
  refine⟨laidIn_good GW HL h64 k (by omega),laidIn_with (HL k (by omega)) hk,by omega,?_⟩;rw [laidIn_keys,hk1];omega
def FillJ (t:Sl) (a:Ads) (w:World) (n g r D:Nat) (l:List Int) (ps:List (Int×Int)) (_ _ i:Value) (W:World):Prop :=
 ∃ k:Nat,k<=l.length/\i=.int .i64 k/\Cop n g W (t.laidIn l ps k) a/\Below w.heap.size w W/\Box W r Sl.none adsNone/\n<=W.heap.size/\W.heap[D]?=some (.deferred (some []))
theorem cFill_ok (s:Sl) (a:Ads) (lo hi:Nat) (la pa:Option Addr) (lc pc:Nat) (l:List Int) (ps:List (Int×Int)) (w:World) (h:Held w s a) (hok:s.Ok) (hs:s.Short) (hT:Tab w) (hM:s.May) (h1:lo<=hi) (h2:hi<=s.keys.length)
  (hl:Lst .i64 w la l) (hp:PLst w pa ps) (hll:l.length<=65536) (hlen:l.length=ps.length) (hu:upB l lo hi=true) (h64:∀ k,In64 (ps.getD k (0,0)).1/\In64 (ps.getD k (0,0)).2) :
  Calls Tryz.prog 237 #[slv s a,.int .i64 lo,.int .i64 hi,.slice la l.length lc,.slice pa ps.length pc] w (Ans (s.filled lo hi l ps) 0 w):=by
 have hE:s.pairsE lo hi=0:=by
  unfold Sl.pairsE;rw [may_iff.2 hM,if_pos rfl,if_pos (part_iff.2 ⟨by omega,by omega,by omega⟩)]
 obtain⟨t,ht⟩:∃ t,t=s.wiped lo (hi-lo):=⟨_,rfl⟩;have ST:=aq (steps_of s lo hi l ps ⟨hM,hok,hs⟩ h1 h2 hlen hu h64);rw [<-ht] at ST;rw [ST.out.fin];clear ht;obtain⟨bw,ow,haw,hbw,_⟩:=h.words.word (i:=0) (by have:=hM.wlen;have:=hM.many;omega);obtain⟨aw,ak,av,ac,cw,ck,cv,cc⟩:=a
 dsimp only at haw
 subst haw;have HH:=aq h;have HW:=aq hok.words;have HT:=aq hT;have HC:=aq hM.chkW;have HU:=aq hu;have HLt:=aq hl;have HPs:=aq hp;have HSh:=aq hs;have l1:=hs.words;have l2:=hs.keys
 have k1:((l.length:Int) != ps.length)=false:=by simp;omega
 have HB:=aq (fun o o'=>((Below.refl w.heap.size w).alloc (Nat.le_refl _) o).alloc (by simp) o');have CC:=aq (fun o o'=>sCheckPart s ⟨some ⟨bw,ow,none⟩,ak,av,ac,cw,ck,cv,cc⟩ lo hi ((w.alloc o).alloc o') (h.below (HB.out o o')) hok hs (hT.below (HB.out o o')));rw [hE] at CC;have CT:=aq (fun W (hb:Below w.heap.size w W)=>sTwin s ⟨some ⟨bw,ow,none⟩,ak,av,ac,cw,ck,cv,cc⟩ W (h.below hb) hs);have CR:=aq (fun W (hW:Lst .i64 W la l)=>sRise la lc l lo hi W hW (by omega) (by omega) (by omega) (by omega));have CO:=aq (fun W=>sOccupied s ⟨some ⟨bw,ow,none⟩,ak,av,ac,cw,ck,cv,cc⟩ lo hi W);have BX:=aq (fun o'=>(Box.new w s ⟨some ⟨bw,ow,none⟩,ak,av,ac,cw,ck,cv,cc⟩ 29).below ((Below.refl _ _).alloc (Nat.le_refl _) o'));have RX:=aq (Box.new (w.alloc (.cells (slCells s ⟨some ⟨bw,ow,none⟩,ak,av,ac,cw,ck,cv,cc⟩) 29)) Sl.none adsNone 29);have HLN:=aq hlen;clear h hok hs hT hM hE hu hl hp h64 hlen;unfold slv at CC CT CO ⊢;unfold slCells at RX;rw [World.size_alloc] at RX
 dsimp only [Sl.none,adsNone,List.length_nil] at RX
 refine calls_marks Tryz.func237 rfl ?_
 simp only [Tryz.ntmps237,List.size_toArray,List.length_cons,List.length_nil,Nat.reduceAdd,Nat.reduceSub,Array.replicate_succ,Array.replicate_zero,List.push_toArray,List.append_toArray,List.nil_append,List.cons_append]
 go_wp2_with fail
 refine (CC.out _ _).mono ?_;rintro e w1 ⟨rfl,hb⟩;have B1:=aq ((HB.out _ _).trans (hb.mono (HB.out _ _).size))
 have z1:w.heap.size+2<=w1.heap.size:=by have:=hb.size;simp at this;omega
 have bx1:=aq ((BX.out _).below hb);have rx1:=aq (RX.out.below hb);clear hb BX RX HB
 go_wp2_with fail
 refine (CR.out w1 (HLt.out.below B1.out)).mono ?_;rintro e w1' ⟨rfl,rfl⟩;rw [HU.out];obtain⟨_,c0,c1,c2,c3,c4,c5,_⟩:=bx1.out
 go_wp2_with fail
 refine (CT.out _ B1.out).mono ?_;rintro e w2 ⟨a1,rfl,own,sep,lies,hb⟩;have B2:=aq (B1.out.trans (hb.mono B1.out.size));have bx2:=aq (bx1.out.below hb);have rx2:=aq (rx1.out.below hb);have z2:=hb.size;have LI:=aq lies;have CS:=aq (Cop.start own sep lies 209);clear hb c0 c1 c2 c3 c4 c5 own sep lies bx1 rx1;unfold slv
 go_upto_region 7 with (fail)
 obtain⟨W3,hW3⟩:∃ W,W=w2.alloc (.cells (slCells s a1) 209):=⟨_,rfl⟩;rw [<-hW3] at CS;have rx3:=aq (rx2.out.below CS.out.2);have bx3:=aq (bx2.out.below CS.out.2);have B3:=aq (B2.out.trans (CS.out.2.mono B2.out.size));have z3:w2.heap.size < W3.heap.size:=CS.out.1.box.lt;unfold slCells at hW3;rw [<-hW3];clear hW3 rx2 bx2 B2;obtain⟨_,c0,c1,c2,c3,c4,c5,_⟩:=bx3.out
 go_wp2_with fail
 refine (CO.out _).mono ?_;rintro e W5 ⟨b1,b2,b3,rfl,hB1,hB2,hB3,hb1,hb2,hb3,hb⟩;have ln1:=hB1.lt;have ln2:=hB2.lt;have ln3:=hB3.lt;have sz5:=hb.size;have cs5:=aq (CS.out.1.below hb);have rx5:=aq (rx3.out.below hb);have B5:=aq (B3.out.trans (hb.mono B3.out.size));have LI3:=aq (LI.out.size (Nat.le_of_lt z3));have SN:=aq (Seen.mk hB1 hB2 hB3 (HH.out.below B5.out).words (HT.out.below B5.out));have ZK:=aq (show Zok (fun k=>k < w.heap.size∨(W3.heap.size<=k/\k < W5.heap.size)) ⟨some ⟨bw,ow,none⟩,ak,av,ac,cw,ck,cv,cc⟩ b1 b2 b3 from⟨Or.inr ⟨by omega,ln1⟩,Or.inr ⟨by omega,ln2⟩,Or.inr ⟨by omega,ln3⟩,fun p hp=>(by cases hp;exact Or.inl hbw),Or.inl HT.out.1⟩)
 have HZs:=aq (show ∀ k,(k < w.heap.size∨(W3.heap.size<=k/\k < W5.heap.size))->k < W5.heap.size from fun k hk=>by rcases hk with hk | hk<;>omega)
 clear hB1 hB2 hB3 hb CO c0 c1 c2 c3 c4 c5 CC CT CR bx3 rx3 B3 CS;obtain⟨w5s,hw5s⟩:∃ n,n=W5.heap.size:=⟨_,rfl⟩
 go_wp2_with fail
 refine wp_rangeP (gf:=213) (lb:=#[.pointer (some ⟨b1,0,none⟩),.pointer (some ⟨b2,0,none⟩),.pointer (some ⟨b3,0,none⟩)]) rfl (enters_of Tryz.func213 (by kernel_rfl) rfl)
  (occ_seq _ s ⟨some ⟨bw,ow,none⟩,ak,av,ac,cw,ck,cv,cc⟩ lo hi b1 b2 b3 W5 SN.out ZK.out HZs.out HC.out HW.out h1 h2 l2 l1) HZs.out
  (FillI s a1 w w1.heap.size w2.heap.size (w.heap.size+1) w5s) (fun _ _ _=>False) (fillI_own _ _ _ _ _ _ _ _ (by omega)) (fun _=>none_ownFrom _) ⟨cs5.out,B5.out,rx5.out,by omega⟩
  (fun k=>{ tmps:=#[.agg #[.int .i64 s.seg,.slice (some ⟨bw,ow,none⟩) s.words.length cw,.slice ak s.keys.length ck,.slice av s.vals.length cv,.slice ac s.counts.length cc,.int .u64 (s.laid:Int)],.int .i64 (lo:Int),.int .i64 (hi:Int),.slice la l.length lc,.slice pa ps.length pc,.pointer (some ⟨w.heap.size,0,none⟩),undef,undef,undef,undef,.pointer (some ⟨w.heap.size+1,0,none⟩),.int .i64 0,.int .i64 0,.pointer (some ⟨w2.heap.size,0,none⟩),.int .i64 (k:Int),undef,undef,.agg #[.int .i64 s.seg,.slice (some ⟨bw,ow,none⟩) s.words.length cw,.slice ak s.keys.length ck,.slice av s.vals.length cv,.slice ac s.counts.length cc,.int .u64 (s.laid:Int)],.int .i64 (lo:Int),.int .i64 (hi:Int),.int .i64 0,.int .i64 0,.bool false,undef,undef,.slice la l.length lc,.int .i64 (l.length:Int),.slice pa ps.length pc,.int .i64 (ps.length:Int),.bool false,.bool false,.slice la l.length lc,.int .i64 (lo:Int),.int .i64 (hi:Int),.bool true,.bool false,.bool false,undef,.agg #[.int .i64 s.seg,.slice (some ⟨bw,ow,none⟩) s.words.length cw,.slice ak s.keys.length ck,.slice av s.vals.length cv,.slice ac s.counts.length cc,.int .u64 (s.laid:Int)],.agg #[.int .i64 s.seg,.slice a1.w s.words.length a1.cw,.slice a1.k s.keys.length a1.ck,.slice a1.v s.vals.length a1.cv,.slice a1.c s.counts.length a1.cc,.int .u64 (s.laid:Int)],.agg #[.int .i64 s.seg,.slice a1.w s.words.length a1.cw,.slice a1.k s.keys.length a1.ck,.slice a1.v s.vals.length a1.cv,.slice a1.c s.counts.length a1.cc,.int .u64 (s.laid:Int)],.agg #[.int .i64 s.seg,.slice (some ⟨bw,ow,none⟩) s.words.length cw,.slice ak s.keys.length ck,.slice av s.vals.length cv,.slice ac s.counts.length cc,.int .u64 (s.laid:Int)],.int .i64 (lo:Int),.int .i64 (hi:Int),(.func (Fn.func 213) #[] #[.pointer (some ⟨b1,0,none⟩),.pointer (some ⟨b2,0,none⟩),.pointer (some ⟨b3,0,none⟩)]),.int .i64 (k:Int),undef,undef,undef,undef,undef,undef,undef,undef,undef,undef,undef,undef,undef,undef,undef,undef,undef,undef],defers:=[] }) ?assign ?body ?done ?stop
 case assign =>
  intro l k W K hK
  gi_wp2
  exact hK
 case body =>
  rintro lp pre x W hI hpre;obtain⟨gd,hx,hnext⟩:=ST.out.wipe pre x hpre;have CL:=aq (sClear w1.heap.size w2.heap.size (s.wipedL pre) a1 x W hI.cop gd.may gd.ok gd.short hx (by have:=hI.size;omega));have HI:=aq hI;clear hI hpre gd hx
  gi_wp2
  refine⟨trivial,?_⟩;refine ((callsIn_wide.2 CL.out).inRound lp).mono ?_;rintro e W' ⟨rfl,C',T'⟩
  gi_wp2
  have hb:=T'.below HI.out.cop (by omega) (by have:=HI.out.size;omega);refine⟨T'.others,T'.kept LI3.out (fun k hk=>?_),?_,HI.out.below.trans (hb.mono (by omega)),HI.out.res.keep hb (by omega),Nat.le_trans HI.out.size hb.size⟩
  ·have:=HI.out.size
   rcases hk with hk | hk<;>omega
  ·rw [hnext];exact C'
 case done =>
  rintro D W hD hI hKD;obtain⟨cop,bel,res,siz⟩:=hI;rw [ST.out.start] at cop;have C0:=aq cop;have BB:=aq bel;have RS:=aq res;have HKD:=aq hKD;clear cop bel res hKD;go_wp2
  go_loopw [15,16,50] (FillJ t a1 w w1.heap.size w2.heap.size (w.heap.size+1) D l ps) (fun _ _ i _=>l.length-(intOf i).toNat)
  case atStart=>exact⟨0,Nat.zero_le _,rfl,C0.out,BB.out,RS.out,by omega,HKD.out⟩
  case round =>
   obtain⟨k,hk,rfl,cop,bel,res,siz2,mk⟩:=hrel;have BK:=aq bel;have RK:=aq res;have MK:=aq mk;have CK:=aq cop;clear cop bel res mk
   by_cases hlt:k < l.length
   ·obtain⟨gd,hst,hx0,hxk⟩:=ST.out.lay k hlt
    have hltp:k < ps.length:=by have:=HLN.out;omega
    obtain⟨bl,ol,rfl,_,cl⟩:=(HLt.out.below BK.out).cell hlt;obtain⟨bp,op,rfl,_,cp1,cp2⟩:=(HPs.out.below BK.out).pair hltp;obtain⟨i,hi'⟩:∃ i:Nat,l.getD k 0=i:=⟨(l.getD k 0).toNat,by omega⟩;obtain⟨p,hp'⟩:∃ p,ps.getD k (0,0)=p:=⟨_,rfl⟩;obtain⟨p1,p2⟩:=p;rw [hi',Int.toNat_natCast] at hst;rw [hi',Int.toNat_natCast] at hxk;rw [hi'] at cl;rw [hp'] at cp1 cp2 hst
    dsimp only at cp1 cp2
    have HST:=aq hst;have CL:=aq (sLayIn w1.heap.size w2.heap.size (t.laidIn l ps k) a1 i p1 p2 _ CK.out gd.may gd.ok gd.short hxk siz2);unfold pv at CL;clear gd hst hx0 hxk hi' hp'
    go_wp2_with fail
    refine CL.out.mono ?_;rintro e w' ⟨rfl,C',T'⟩;have hb:=T'.below CK.out (by omega) siz2;go_wp2
    go_roundw
    case rel=>exact⟨k+1,by omega,by go_num,by rw [HST.out];exact C',BK.out.trans (hb.mono (by omega)),RK.out.keep hb (by omega),Nat.le_trans siz2 hb.size,T'.others.same _ _ MK.out rfl⟩
    case measure=>simp [intOf];omega
   ·have hke:k=l.length:=by omega
    subst hke;obtain⟨_,c0,c1,c2,c3,c4,c5,_⟩:=CK.out.box;obtain⟨_,s0,s1,s2,s3,s4,s5,sf⟩:=RK.out;have⟨sf0,sf1,sf2,sf3,sf4,sf5⟩:=sf6 sf;have FIN:=aq (CK.out.ans (r:=w.heap.size+1) (B:=w.heap.size) BK.out (by omega) (by omega) (by omega));clear sf;go_wp2;have BP:=RK.out.put6 (t.laidIn l ps l.length) a1;have FP:=FIN.out (.int .i64 (t.laidIn l ps l.length).seg) (.slice a1.w (t.laidIn l ps l.length).words.length a1.cw) (.slice a1.k (t.laidIn l ps l.length).keys.length a1.ck) (.slice a1.v (t.laidIn l ps l.length).vals.length a1.cv) (.slice a1.c (t.laidIn l ps l.length).counts.length a1.cc) (.int .u64 ((t.laidIn l ps l.length).laid:Int));have MP:=(keeps_put6 wr (w.heap.size+1) (.int .i64 (t.laidIn l ps l.length).seg) (.slice a1.w (t.laidIn l ps l.length).words.length a1.cw) (.slice a1.k (t.laidIn l ps l.length).keys.length a1.ck) (.slice a1.v (t.laidIn l ps l.length).vals.length a1.cv) (.slice a1.c (t.laidIn l ps l.length).counts.length a1.cc) (.int .u64 ((t.laidIn l ps l.length).laid:Int))).same _ _ MK.out rfl;obtain⟨PW,hPW⟩:∃ PW,PW=put6 wr (w.heap.size+1) (.int .i64 (t.laidIn l ps l.length).seg) (.slice a1.w (t.laidIn l ps l.length).words.length a1.cw) (.slice a1.k (t.laidIn l ps l.length).keys.length a1.ck) (.slice a1.v (t.laidIn l ps l.length).vals.length a1.cv) (.slice a1.c (t.laidIn l ps l.length).counts.length a1.cc) (.int .u64 ((t.laidIn l ps l.length).laid:Int)):=⟨_,rfl⟩
    rw [<-hPW] at BP FP MP;unfold put6 at hPW;rw [<-hPW];refine leaves_one MP ?_;have ov:=Over.of_grown (n:=0) (grownBy_putObj' PW D (.deferred none)) (fun r e=>by cases e;exact⟨Nat.zero_le _,_,MP,rfl⟩);obtain⟨_,d0,d1,d2,d3,d4,d5,df⟩:=ov.box BP;have df0:=df 0;have df1:=df 1;have df2:=df 2;have df3:=df 3;have df4:=df 4;have df5:=df 5;refine⟨.tuple #[slv (t.laidIn l ps l.length) a1,.int .i64 0],by simp [results,Tryz.results237,go_sem,slv,d0,d1,d2,d3,d4,d5,df0,df1,df2,df3,df4,df5],a1,rfl,ov.own FP.1,FP.2.trans ((Below.refl w.heap.size PW).grown (grownBy_putObj' PW D _) (by have:=FP.2.size;omega) (fun k e=>by cases e;omega))⟩
 case stop =>
  rintro D c pre W hD hSp hF hK;exact hF.elim
end Go.Proofs.YtpeckljoannolaaGreatDoor

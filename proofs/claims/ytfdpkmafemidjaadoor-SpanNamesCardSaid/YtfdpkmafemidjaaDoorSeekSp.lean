/- What package seek's Rank, Next, Last and Find return. They only read. -/
import Derived.Test.YtfdpkmafemidjaaDoorTkSp
import Derived.Test.YtfdpkmafemidjaaDoorSeekASp
import Derived.Test.YtfdpkmafemidjaaDoorOccL4Sp
import Derived.Test.YtfdpkmafemidjaaDoorM10Sp
set_option linter.unusedVariables false
set_option linter.unusedSimpArgs false
set_option maxHeartbeats 2000000
set_option maxRecDepth 100000
namespace Go.Proofs.YtfdpkmafemidjaaDoor
open Go.RowKit
theorem kRank (s:Sl) (a:Ads) (k:Int) (w:World) (h:Held w s a) (hok:s.Ok) (hs:s.Short) (hT:Tab w) :
  Calls Tryd.prog 29 #[slv s a,.int .i64 k] w fun e w'=>e=.returned (.tuple #[.int .i64 (Sk.rankV s k),.int .i64 (Sk.chkE s)])/\Below w.heap.size w w':=by
 have CC:=aq (fun o=>kCheck s a (w.alloc o) (h.alloc o) hok hs (hT.below ((Below.refl _ _).alloc (Nat.le_refl _) o)));have HB:=aq (fun o=>(Below.refl w.heap.size w).alloc (Nat.le_refl _) o);have BX:=aq (Box.new w s a 27)
 by_cases hc:Sk.chkE s=0
 ·obtain⟨hM,hr⟩:=Sk.chk_zero.1 hc
  have CF:=aq (fun W (hb:Below w.heap.size w W)=>kFrom s a k W (h.below hb) hok hs (hT.below hb) hM hr)
  have CO:=aq (show ∀ (r:Nat) W,Sk.Part s k r->Below w.heap.size w W->Calls Tryd.prog 48 #[.slice a.w s.words.length a.cw,.int .i64 s.keys.length,.int .i64 0,.int .i64 r] W fun e w'=>e=.returned (.tuple #[.int .i64 (Sk.rankV s k),.int .i64 (0)])/\Below W.heap.size W w' from fun r W hp hb=>by
   have q:=oCount a.w a.cw s.words s.keys.length 0 r W (h.below hb).words hok.words hs.words;obtain⟨e1,e2⟩:=hp.rank hc;rw [e1,e2] at q
   exact q)
  rw [hc] at CC ⊢;clear h hok hs hT hM hr hc;unfold slv at CC CF ⊢;obtain⟨v,hv⟩:∃ v,v=Sk.rankV s k:=⟨_,rfl⟩;rw [<-hv] at CO ⊢;clear hv
  go_enter Tryd.func29,Tryd.ntmps29
  go_wp2_with fail
  refine (CC.out _).mono ?_;rintro e w1 ⟨rfl,hb⟩;have B1:=aq ((HB.out _).trans (hb.mono (by simp)));have X1:=aq (BX.out.below hb);clear hb
  go_upto_region 4 with (fail)
  have dr:=(Below.refl w1.heap.size w1).drew;refine wp_region_held_drew (S:=(fun w'=>(w'.cell? ⟨w.heap.size,0,none⟩=some (.int .i64 s.seg)/\w'.cell? ⟨w.heap.size,1,none⟩=some (.slice a.w s.words.length a.cw)/\w'.cell? ⟨w.heap.size,2,none⟩=some (.slice a.k s.keys.length a.ck)/\w'.cell? ⟨w.heap.size,3,none⟩=some (.slice a.v s.vals.length a.cv)/\w'.cell? ⟨w.heap.size,4,none⟩=some (.slice a.c s.counts.length a.cc)/\w'.cell? ⟨w.heap.size,5,none⟩=some (.int .u64 (s.laid:Int)))/\Hid (Below w1.heap.size w1 w'))) (by kernel_rfl) (⟨(X1.out.below dr).cellAt,aq dr⟩) (fun hHeld=>?_);refine tk 0 ?_;refine tk 1 ?_;refine tk 2 ?_;refine tk 3 ?_;refine tk 4 ?_;refine tk 5 ?_;refine tk 6 ?_;refine rdH 7 fun K hK=>?_;go_simp;refine (CF.out _ (B1.out.trans (hHeld.2.out.mono B1.out.size))).mono ?_;rintro e w2 ⟨⟨r,rfl,hp⟩,hb2⟩;have HP:=aq hp;clear hp;go_simp;refine hK.out _ _ (by have q:=hHeld.2.out.trans (hb2.mono hHeld.2.out.size);exact⟨(X1.out.below q).cellAt,aq q⟩) (fun hHelda1=>?_);clear hK K hHeld
  try simp only [sZ]
  refine rdH 8 fun K hK=>?_;go_simp;refine (CO.out r _ HP.out (B1.out.trans (hHelda1.2.out.mono B1.out.size))).mono ?_;rintro e w3 ⟨rfl,hb3⟩;go_simp;refine hK.out _ _ (by have q:=hHelda1.2.out.trans (hb3.mono hHelda1.2.out.size);exact⟨(X1.out.below q).cellAt,aq q⟩) (fun hHelda2=>?_);clear hK K hHelda1
  try simp only [sZ]
  refine tk 9 ?_;refine tk 10 ?_;refine tk 11 ?_;refine tk 12 ?_;refine wpAnyH_done (by kernel_rfl) ?_ _;have q:=hHelda2.2.out;clear hHelda2;go_wp2;go_ret2;exact⟨rfl,B1.out.trans (q.mono B1.out.size)⟩
 ·have k1:(Sk.chkE s != 0)=true:=by simp [hc]
  have E:=aq (show Sk.rankV s k=0 by unfold Sk.rankV;rw [if_neg hc]);clear h hok hs hT hc;unfold slv at CC ⊢
  go_enter Tryd.func29,Tryd.ntmps29
  go_wp2_with fail
  refine (CC.out _).mono ?_;rintro e w1 ⟨rfl,hb⟩;go_wp2;go_ret2;rw [E.out];exact⟨rfl,(HB.out _).trans (hb.mono (by simp))⟩
theorem kNext (s:Sl) (a:Ads) (k:Int) (w:World) (h:Held w s a) (hok:s.Ok) (hs:s.Short) (hT:Tab w) :
  Calls Tryd.prog 56 #[slv s a,.int .i64 k] w fun e w'=>e=.returned (.tuple #[.int .i64 (Sk.nextV s k),.int .i64 (Sk.nextE s k)])/\Below w.heap.size w w':=by
 have CC:=aq (fun o=>kCheck s a (w.alloc o) (h.alloc o) hok hs (hT.below ((Below.refl _ _).alloc (Nat.le_refl _) o)));have HB:=aq (fun o=>(Below.refl w.heap.size w).alloc (Nat.le_refl _) o);have BX:=aq (Box.new w s a 27)
 by_cases hc:Sk.chkE s=0
 ·obtain⟨hM,hr⟩:=Sk.chk_zero.1 hc
  have CF:=aq (fun W (hb:Below w.heap.size w W)=>kFrom s a k W (h.below hb) hok hs (hT.below hb) hM hr)
  have CO:=aq (show ∀ (r:Nat) W,Sk.Part s k r->Below w.heap.size w W->Calls Tryd.prog 64 #[.slice a.w s.words.length a.cw,.int .i64 s.keys.length,.int .i64 r] W fun e w'=>e=.returned (.tuple #[.int .i64 (Sk.nextV s k),.int .i64 (Sk.nextE s k)])/\Below W.heap.size W w' from fun r W hp hb=>by
   have q:=oNext a.w a.cw s.words s.keys.length r W (h.below hb).words hok.words hs.words (hT.below hb);obtain⟨e1,e2⟩:=hp.next hc;rw [e1,e2] at q
   exact q)
  rw [hc] at CC;clear h hok hs hT hM hr hc;unfold slv at CC CF ⊢;obtain⟨v,hv⟩:∃ v,v=Sk.nextV s k:=⟨_,rfl⟩;rw [<-hv] at CO ⊢;clear hv;obtain⟨er,her⟩:∃ v,v=Sk.nextE s k:=⟨_,rfl⟩;rw [<-her] at CO ⊢;clear her
  go_enter Tryd.func56,Tryd.ntmps56
  go_wp2_with fail
  refine (CC.out _).mono ?_;rintro e w1 ⟨rfl,hb⟩;have B1:=aq ((HB.out _).trans (hb.mono (by simp)));have X1:=aq (BX.out.below hb);clear hb
  go_upto_region 4 with (fail)
  have dr:=(Below.refl w1.heap.size w1).drew;refine wp_region_held_drew (S:=(fun w'=>(w'.cell? ⟨w.heap.size,0,none⟩=some (.int .i64 s.seg)/\w'.cell? ⟨w.heap.size,1,none⟩=some (.slice a.w s.words.length a.cw)/\w'.cell? ⟨w.heap.size,2,none⟩=some (.slice a.k s.keys.length a.ck)/\w'.cell? ⟨w.heap.size,3,none⟩=some (.slice a.v s.vals.length a.cv)/\w'.cell? ⟨w.heap.size,4,none⟩=some (.slice a.c s.counts.length a.cc)/\w'.cell? ⟨w.heap.size,5,none⟩=some (.int .u64 (s.laid:Int)))/\Hid (Below w1.heap.size w1 w'))) (by kernel_rfl) (⟨(X1.out.below dr).cellAt,aq dr⟩) (fun hHeld=>?_);refine tk 0 ?_;refine tk 1 ?_;refine tk 2 ?_;refine tk 3 ?_;refine tk 4 ?_;refine tk 5 ?_;refine tk 6 ?_;refine rdH 7 fun K hK=>?_;go_simp;refine (CF.out _ (B1.out.trans (hHeld.2.out.mono B1.out.size))).mono ?_;rintro e w2 ⟨⟨r,rfl,hp⟩,hb2⟩;have HP:=aq hp;clear hp;go_simp;refine hK.out _ _ (by have q:=hHeld.2.out.trans (hb2.mono hHeld.2.out.size);exact⟨(X1.out.below q).cellAt,aq q⟩) (fun hHelda1=>?_);clear hK K hHeld
  try simp only [sZ]
  refine rdH 8 fun K hK=>?_;go_simp;refine (CO.out r _ HP.out (B1.out.trans (hHelda1.2.out.mono B1.out.size))).mono ?_;rintro e w3 ⟨rfl,hb3⟩;go_simp;refine hK.out _ _ (by have q:=hHelda1.2.out.trans (hb3.mono hHelda1.2.out.size);exact⟨(X1.out.below q).cellAt,aq q⟩) (fun hHelda2=>?_);clear hK K hHelda1
  try simp only [sZ]
  refine tk 9 ?_;refine tk 10 ?_;refine tk 11 ?_;refine tk 12 ?_;refine wpAnyH_done (by kernel_rfl) ?_ _;have q:=hHelda2.2.out;clear hHelda2;go_wp2;go_ret2;exact⟨rfl,B1.out.trans (q.mono B1.out.size)⟩
 ·have k1:(Sk.chkE s != 0)=true:=by simp [hc]
  have E:=aq (show Sk.nextV s k=0 by unfold Sk.nextV;rw [if_neg];unfold Sk.nextE;rw [if_neg hc];exact hc);have E2:=aq (show Sk.nextE s k=Sk.chkE s by unfold Sk.nextE;rw [if_neg hc]);clear h hok hs hT hc;unfold slv at CC ⊢
  go_enter Tryd.func56,Tryd.ntmps56
  go_wp2_with fail
  refine (CC.out _).mono ?_;rintro e w1 ⟨rfl,hb⟩;go_wp2;go_ret2;rw [E.out,E2.out];exact⟨rfl,(HB.out _).trans (hb.mono (by simp))⟩
theorem kLast (s:Sl) (a:Ads) (k:Int) (w:World) (h:Held w s a) (hok:s.Ok) (hs:s.Short) (hT:Tab w) :
  Calls Tryd.prog 52 #[slv s a,.int .i64 k] w fun e w'=>e=.returned (.tuple #[.int .i64 (Sk.lastV s k),.int .i64 (Sk.lastE s k)])/\Below w.heap.size w w':=by
 have CC:=aq (fun o=>kCheck s a (w.alloc o) (h.alloc o) hok hs (hT.below ((Below.refl _ _).alloc (Nat.le_refl _) o)));have HB:=aq (fun o=>(Below.refl w.heap.size w).alloc (Nat.le_refl _) o);have BX:=aq (Box.new w s a 27)
 by_cases hc:Sk.chkE s=0
 ·obtain⟨hM,hr⟩:=Sk.chk_zero.1 hc
  have CF:=aq (fun W (hb:Below w.heap.size w W)=>kFrom s a k W (h.below hb) hok hs (hT.below hb) hM hr)
  have CO:=aq (show ∀ (r:Nat) W,Sk.Part s k r->Below w.heap.size w W->Calls Tryd.prog 70 #[.slice a.w s.words.length a.cw,.int .i64 s.keys.length,.int .i64 r] W fun e w'=>e=.returned (.tuple #[.int .i64 (Sk.lastV s k),.int .i64 (Sk.lastE s k)])/\Below W.heap.size W w' from fun r W hp hb=>by
   have q:=oLast a.w a.cw s.words s.keys.length r W (h.below hb).words hok.words hs.words;obtain⟨e1,e2⟩:=hp.last hc;rw [e1,e2] at q
   exact q)
  rw [hc] at CC;clear h hok hs hT hM hr hc;unfold slv at CC CF ⊢;obtain⟨v,hv⟩:∃ v,v=Sk.lastV s k:=⟨_,rfl⟩;rw [<-hv] at CO ⊢;clear hv;obtain⟨er,her⟩:∃ v,v=Sk.lastE s k:=⟨_,rfl⟩;rw [<-her] at CO ⊢;clear her
  go_enter Tryd.func52,Tryd.ntmps52
  go_wp2_with fail
  refine (CC.out _).mono ?_;rintro e w1 ⟨rfl,hb⟩;have B1:=aq ((HB.out _).trans (hb.mono (by simp)));have X1:=aq (BX.out.below hb);clear hb
  go_upto_region 4 with (fail)
  have dr:=(Below.refl w1.heap.size w1).drew;refine wp_region_held_drew (S:=(fun w'=>(w'.cell? ⟨w.heap.size,0,none⟩=some (.int .i64 s.seg)/\w'.cell? ⟨w.heap.size,1,none⟩=some (.slice a.w s.words.length a.cw)/\w'.cell? ⟨w.heap.size,2,none⟩=some (.slice a.k s.keys.length a.ck)/\w'.cell? ⟨w.heap.size,3,none⟩=some (.slice a.v s.vals.length a.cv)/\w'.cell? ⟨w.heap.size,4,none⟩=some (.slice a.c s.counts.length a.cc)/\w'.cell? ⟨w.heap.size,5,none⟩=some (.int .u64 (s.laid:Int)))/\Hid (Below w1.heap.size w1 w'))) (by kernel_rfl) (⟨(X1.out.below dr).cellAt,aq dr⟩) (fun hHeld=>?_);refine tk 0 ?_;refine tk 1 ?_;refine tk 2 ?_;refine tk 3 ?_;refine tk 4 ?_;refine tk 5 ?_;refine tk 6 ?_;refine rdH 7 fun K hK=>?_;go_simp;refine (CF.out _ (B1.out.trans (hHeld.2.out.mono B1.out.size))).mono ?_;rintro e w2 ⟨⟨r,rfl,hp⟩,hb2⟩;have HP:=aq hp;clear hp;go_simp;refine hK.out _ _ (by have q:=hHeld.2.out.trans (hb2.mono hHeld.2.out.size);exact⟨(X1.out.below q).cellAt,aq q⟩) (fun hHelda1=>?_);clear hK K hHeld
  try simp only [sZ]
  refine rdH 8 fun K hK=>?_;go_simp;refine (CO.out r _ HP.out (B1.out.trans (hHelda1.2.out.mono B1.out.size))).mono ?_;rintro e w3 ⟨rfl,hb3⟩;go_simp;refine hK.out _ _ (by have q:=hHelda1.2.out.trans (hb3.mono hHelda1.2.out.size);exact⟨(X1.out.below q).cellAt,aq q⟩) (fun hHelda2=>?_);clear hK K hHelda1
  try simp only [sZ]
  refine tk 9 ?_;refine tk 10 ?_;refine tk 11 ?_;refine tk 12 ?_;refine wpAnyH_done (by kernel_rfl) ?_ _;have q:=hHelda2.2.out;clear hHelda2;go_wp2;go_ret2;exact⟨rfl,B1.out.trans (q.mono B1.out.size)⟩
 ·have k1:(Sk.chkE s != 0)=true:=by simp [hc]
  have E:=aq (show Sk.lastV s k=0 by unfold Sk.lastV;rw [if_neg];unfold Sk.lastE;rw [if_neg hc];exact hc);have E2:=aq (show Sk.lastE s k=Sk.chkE s by unfold Sk.lastE;rw [if_neg hc]);clear h hok hs hT hc;unfold slv at CC ⊢
  go_enter Tryd.func52,Tryd.ntmps52
  go_wp2_with fail
  refine (CC.out _).mono ?_;rintro e w1 ⟨rfl,hb⟩;go_wp2;go_ret2;rw [E.out,E2.out];exact⟨rfl,(HB.out _).trans (hb.mono (by simp))⟩
theorem next_key {s:Sl} {k:Int} (h:Sk.nextE s k=0):∃ x:Nat,Sk.nextV s k=x/\x < s.keys.length:=by
 have hc:Sk.chkE s=0:=by
  by_cases hc:Sk.chkE s=0
  ·exact hc
  ·unfold Sk.nextE at h;rw [if_neg hc] at h;exact absurd h hc
 have h2:(Sk.high s k).length≠0:=by
  unfold Sk.nextE at h;rw [if_pos hc] at h;intro h3;rw [if_pos h3] at h
  omega
 obtain⟨x,N⟩:=Sk.next_at hc h2;exact⟨x,N.v,N.lt⟩
theorem kFind (s:Sl) (a:Ads) (k:Int) (w:World) (h:Held w s a) (hok:s.Ok) (hs:s.Short) (hT:Tab w) :
  Calls Tryd.prog 51 #[slv s a,.int .i64 k] w fun e w'=>e=.returned (.tuple #[.int .i64 (Sk.findV s k),.int .i64 (Sk.findE s k)])/\Below w.heap.size w w':=by
 have l2:=hs.keys;have CN:=aq (fun o=>kNext s a k (w.alloc o) (h.alloc o) hok hs (hT.below ((Below.refl _ _).alloc (Nat.le_refl _) o)));have HL:=aq (fun W (hb:Below w.heap.size w W)=>(h.below hb).keys);have HB:=aq (fun o=>(Below.refl w.heap.size w).alloc (Nat.le_refl _) o);have BX:=aq (Box.new w s a 27);clear h hok hs hT;unfold slv at CN ⊢
 by_cases he:Sk.nextE s k=0
 ·obtain⟨x,hx,hlt⟩:=next_key he
  have FE:=aq (show Sk.findE s k=if Sk.key s x=k then 0 else 6 by unfold Sk.findE;rw [if_pos he,hx,Int.toNat_natCast]);have FV:=aq (show Sk.findV s k=if Sk.findE s k=0 then (x:Int) else 0 by unfold Sk.findV;rw [hx]);rw [he,hx] at CN;clear he hx
  by_cases hk:Sk.key s x=k
  ·have E:=aq (show Sk.findE s k=0 by rw [FE.out,if_pos hk])
   have U:=aq (show Sk.findV s k=x by rw [FV.out,if_pos E.out])
   have k1:(Sk.key s x != k)=false:=by simp [hk]
   clear hk FE FV
   go_enter Tryd.func51,Tryd.ntmps51
   go_wp2_with fail
   refine (CN.out _).mono ?_;rintro e w1 ⟨rfl,hb⟩;have B1:=aq ((HB.out _).trans (hb.mono (by simp)));obtain⟨_,c0,c1,c2,c3,c4,c5,_⟩:=BX.out.below hb;obtain⟨b1,o1,hA1,hb1,d1⟩:=key_cell (HL.out _ B1.out) hlt;rw [hA1] at c2;clear hb hA1;go_wp2;go_ret2;rw [E.out,U.out];exact⟨rfl,by first | exact B1.out | exact below_drewN B1.out _⟩
  ·have E:=aq (show Sk.findE s k=6 by rw [FE.out,if_neg hk])
   have U:=aq (show Sk.findV s k=0 by rw [FV.out,if_neg (by rw [E.out];decide)])
   have k1:(Sk.key s x != k)=true:=by simp [hk]
   clear hk FE FV
   go_enter Tryd.func51,Tryd.ntmps51
   go_wp2_with fail
   refine (CN.out _).mono ?_;rintro e w1 ⟨rfl,hb⟩;have B1:=aq ((HB.out _).trans (hb.mono (by simp)));obtain⟨_,c0,c1,c2,c3,c4,c5,_⟩:=BX.out.below hb;obtain⟨b1,o1,hA1,hb1,d1⟩:=key_cell (HL.out _ B1.out) hlt;rw [hA1] at c2;clear hb hA1;go_wp2;go_ret2;rw [E.out,U.out];exact⟨rfl,by first | exact B1.out | exact below_drewN B1.out _⟩
 ·have k1:(Sk.nextE s k != 0)=true:=by simp [he]
  have E:=aq (show Sk.findE s k=Sk.nextE s k by unfold Sk.findE;rw [if_neg he]);have U:=aq (show Sk.findV s k=0 by unfold Sk.findV;rw [if_neg (by rw [E.out];exact he)]);clear he
  go_enter Tryd.func51,Tryd.ntmps51
  go_wp2_with fail
  refine (CN.out _).mono ?_;rintro e w1 ⟨rfl,hb⟩;go_wp2;go_ret2;rw [E.out,U.out];exact⟨rfl,(HB.out _).trans (hb.mono (by simp))⟩
end Go.Proofs.YtfdpkmafemidjaaDoor

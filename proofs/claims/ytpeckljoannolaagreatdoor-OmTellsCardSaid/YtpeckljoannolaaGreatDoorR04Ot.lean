/- What the document's own answers of layer 4 return that make and move. -/
import Derived.Test.YtpeckljoannolaaGreatDoorTkOt
import Derived.Test.YtpeckljoannolaaGreatDoorM04Ot
import Derived.Deep.DeepCutAuto
set_option linter.unusedVariables false
set_option linter.unusedSimpArgs false
set_option maxHeartbeats 4000000
set_option maxRecDepth 100000
namespace Go.Proofs.YtpeckljoannolaaGreatDoor
open Go.RowKit
theorem r4Empty (sg m n1 n4:Nat) (w:World) (h1:4<=sg) (h2:sg<=64) (h3:1<=m) (h4:m<=65536) (hn1:n1=(m+63)/64) (hn4:n4=m/sg) :
  Calls Tryz.prog 88 #[.int .i64 (sg:Int),.int .i64 (m:Int)] w (SPost (slMade sg n1 m n4) w):=by
 have l1:n1<=65536:=by omega
 have l4:n4<=65536:=by rw [hn4];exact Nat.le_trans (Nat.div_le_self _ _) h4
 have e1:IntKind.i64.wrap ((m:Int)+63)=(m:Int)+63:=IntWalk.i64_in _ (by omega)
 have e2:IntKind.i64.wrap (((m:Int)+63).tdiv 64)=(n1:Int):=by rw [Int.tdiv_eq_ediv_of_nonneg (by omega),hn1];rw [show ((m:Int)+63)/64=(((m+63)/64:Nat):Int) from by simp];exact IntWalk.i64_in _ (by omega)
 have e3:IntKind.i64.wrap (((m:Int)+63)/64)=(n1:Int):=by rw [<-e2,Int.tdiv_eq_ediv_of_nonneg (by omega)]
 have e4:IntKind.i64.wrap ((m:Int).tdiv (sg:Int))=(n4:Int):=by rw [Int.tdiv_eq_ediv_of_nonneg (by omega),hn4];rw [show (m:Int)/(sg:Int)=((m/sg:Nat):Int) from by simp];exact IntWalk.i64_in _ (by omega)
 have e5:IntKind.i64.wrap ((m:Int)/(sg:Int))=(n4:Int):=by rw [<-e4,Int.tdiv_eq_ediv_of_nonneg (by omega)]
 have k0:¬ (sg:Int)=0:=by omega
 have k1:¬ sg=0:=by omega
 have BB0:=aq (show ∀ o,Below w.heap.size w ((w.alloc o).drew) from fun o=>((Below.refl _ _).alloc (Nat.le_refl _) _).drew);have BR0:=aq ((Box.new w Sl.none adsNone 29).below ((Below.refl _ _).drew));clear hn1 hn4
 go_enter Tryz.func88,Tryz.ntmps88
 go_wp2;refine wp_region_held_drew (S:=fun _=>True) (by kernel_rfl) trivial (fun hHeld=>?_);refine wpAnyH_take (i:=0) (oi:=Oper.mk _ _ _ _ _ _) (v:=?v0) rfl (by kernel_rfl) (by kernel_rfl) (by kernel_rfl) (fun _ _ _ h=>h) (Or.inl ⟨by rfl,?hy0⟩) trivial ?rest0
 case hy0 =>
  intro w0 hSw;go_simp
  all_goals with_reducible rfl
 try simp only [sZ]
 refine wpAnyH_take (i:=1) (oi:=Oper.mk _ _ _ _ _ _) (v:=?v1) rfl (by kernel_rfl) (by kernel_rfl) (by kernel_rfl) (fun _ _ _ h=>h) (Or.inl ⟨by rfl,?hy1⟩) trivial ?rest1
 case hy1 =>
  intro w0 hSw;go_simp
  all_goals with_reducible rfl
 try simp only [sZ]
 refine wpAnyH_take (i:=2) (oi:=Oper.mk _ _ _ _ _ _) (v:=?v2) rfl (by kernel_rfl) (by kernel_rfl) (by kernel_rfl) (fun _ _ _ h=>h) (Or.inl ⟨by rfl,?hy2⟩) trivial ?rest2
 case hy2 =>
  intro w0 hSw;go_simp
  all_goals with_reducible rfl
 try simp only [sZ]
 refine wpAnyH_take (i:=3) (oi:=Oper.mk _ _ _ _ _ _) (v:=?v3) rfl (by kernel_rfl) (by kernel_rfl) (by kernel_rfl) (fun _ _ _ h=>h) (Or.inl ⟨by rfl,?hy3⟩) trivial ?rest3
 case hy3 =>
  intro w0 hSw;go_simp
  all_goals with_reducible rfl
 try simp only [sZ]
 refine wpAnyH_take (i:=5) (oi:=Oper.mk _ _ _ _ _ _) (v:=?v5) rfl (by kernel_rfl) (by kernel_rfl) (by kernel_rfl) (fun _ _ _ h=>h) (Or.inl ⟨by rfl,?hy5⟩) trivial ?rest5
 case hy5 =>
  intro w0 hSw;go_simp
  all_goals with_reducible rfl
 try simp only [sZ]
 refine wpAnyH_take (i:=7) (oi:=Oper.mk _ _ _ _ _ _) (v:=?v7) rfl (by kernel_rfl) (by kernel_rfl) (by kernel_rfl) (fun _ _ _ h=>h) (Or.inl ⟨by rfl,?hy7⟩) trivial ?rest7
 case hy7 =>
  intro w0 hSw;go_simp
  all_goals with_reducible rfl
 try simp only [sZ]
 refine wpAnyH_take (i:=9) (oi:=Oper.mk _ _ _ _ _ _) (v:=?v9) rfl (by kernel_rfl) (by kernel_rfl) (by kernel_rfl) (fun _ _ _ h=>h) (Or.inl ⟨by rfl,?hy9⟩) trivial ?rest9
 case hy9 =>
  intro w0 hSw;go_simp
  all_goals with_reducible rfl
 try simp only [sZ]
 refine wpAnyH_take (i:=10) (oi:=Oper.mk _ _ _ _ _ _) (v:=?v10) rfl (by kernel_rfl) (by kernel_rfl) (by kernel_rfl) (fun _ _ _ h=>h) (Or.inl ⟨by rfl,?hy10⟩) trivial ?rest10
 case hy10 =>
  intro w0 hSw;go_simp
  all_goals with_reducible rfl
 try simp only [sZ]
 refine wpAnyH_take (i:=11) (oi:=Oper.mk _ _ _ _ _ _) (v:=?v11) rfl (by kernel_rfl) (by kernel_rfl) (by kernel_rfl) (fun _ _ _ h=>h) (Or.inl ⟨by rfl,?hy11⟩) trivial ?rest11
 case hy11 =>
  intro w0 hSw;go_simp
  all_goals with_reducible rfl
 try simp only [sZ]
 clear e1 e2 e3 e4 e5;have BB:=BB0.out (.cells (slCells Sl.none adsNone) 29);have BR:=BR0.out;refine wpAnyH_ready (rs:=[4,6,8,12]) (by kernel_rfl) (by simp) ?_;refine cH (fun K hK=>?_) ?_
 ·refine step_zeros elemW rfl (.tmp 8) (.tmp 8) rfl .i64 .i64 _ _ n1 rfl rfl rfl rfl (by omega) (by unfold maxLen;omega) ?_
  intro gW wW eW zW NW bW;replace BB:=BB.trans (bW.mono (by have h9:=eW;simp at h9;omega));replace BR:=BR.below (eW▸bW)
  replace eW:gW=w.heap.size+1:=by rw [eW];simp
  refine hK.out _ _ trivial (fun _=>?_);clear hK K bW
  try simp only [sZ]
  refine wpAnyH_ready (rs:=[6,8,12]) (by kernel_rfl) (by simp) ?_;refine cH (fun K hK=>?_) ?_
  ·refine step_zeros elemK rfl (.tmp 10) (.tmp 10) rfl .i64 .i64 _ _ m rfl rfl rfl rfl (by omega) (by unfold maxLen;omega) ?_
   intro gK wK eK zK NK bK;replace NW:=NW.below (eK▸bK);replace BB:=BB.trans (bK.mono (by have:=BB.size;omega));replace BR:=BR.below (eK▸bK);refine hK.out _ _ trivial (fun _=>?_);clear hK K bK
   try simp only [sZ]
   refine wpAnyH_ready (rs:=[8,12]) (by kernel_rfl) (by simp) ?_;refine cH (fun K hK=>?_) ?_
   ·refine step_zeros elemK rfl (.tmp 12) (.tmp 12) rfl .i64 .i64 _ _ m rfl rfl rfl rfl (by omega) (by unfold maxLen;omega) ?_
    intro gV wV eV zV NV bV;replace NW:=NW.below (eV▸bV);replace NK:=NK.below (eV▸bV);replace BB:=BB.trans (bV.mono (by have:=BB.size;omega));replace BR:=BR.below (eV▸bV);refine hK.out _ _ trivial (fun _=>?_);clear hK K bV
    try simp only [sZ]
    refine wpAnyH_ready (rs:=[12]) (by kernel_rfl) (by simp) ?_;refine cH (fun K hK=>?_) ?_
    ·refine step_zeros elemI rfl (.tmp 16) (.tmp 16) rfl .i64 .i64 _ _ n4 rfl rfl rfl rfl (by omega) (by unfold maxLen;omega) ?_
     intro gC wC eC zC NC bC;replace NW:=NW.below (eC▸bC);replace NK:=NK.below (eC▸bC);replace NV:=NV.below (eC▸bC);replace BB:=BB.trans (bC.mono (by have:=BB.size;omega));replace BR:=BR.below (eC▸bC);refine hK.out _ _ trivial (fun _=>?_);clear hK K bC
     try simp only [sZ]
     refine wpAnyH_take (i:=13) (oi:=Oper.mk _ _ _ _ _ _) (v:=?vl1) rfl (by kernel_rfl) (by kernel_rfl) (by kernel_rfl) (fun _ _ _ h=>h) (Or.inl ⟨by rfl,?hl1⟩) trivial ?rl1
     case hl1 =>
      intro w0 hSw;go_simp
      all_goals with_reducible rfl
     try simp only [sZ]
     have BR':=aq BR;obtain⟨_,s0,s1,s2,s3,s4,s5,sf⟩:=BR;have⟨sf0,sf1,sf2,sf3,sf4,sf5⟩:=sf6 sf;clear sf;refine rdH 14 fun K hK=>?_;go_simp;refine hK.out _ _ trivial (fun _=>?_);refine wpAnyH_done (by kernel_rfl) ?_ _;clear hK K;go_wp2;refine bodyPost_ret (v:=slv (slMade sg n1 m n4) (adsMade gW gK gV gC n1 m n4)) (by simp [results,Tryz.results88,go_sem,slv,slMade,adsMade,s0,s1,s2,s3,s4,s5,sf0,sf1,sf2,sf3,sf4,sf5]) rfl ⟨_,rfl,made_fin NW NK NV NC (by omega) (by omega) (by omega) (by omega) (by omega) (by omega) (by omega) (by omega) (by omega) (by omega) (by omega) (by omega) (by omega) (by omega) BB (by omega) _ _ _ _ _ _⟩
    exact AllReadyH.nil
   refine cH (fun K hK=>?_) ?_
   ·refine step_zeros elemI rfl (.tmp 16) (.tmp 16) rfl .i64 .i64 _ _ n4 rfl rfl rfl rfl (by omega) (by unfold maxLen;omega) ?_
    intro gC wC eC zC NC bC;replace NW:=NW.below (eC▸bC);replace NK:=NK.below (eC▸bC);replace BB:=BB.trans (bC.mono (by have:=BB.size;omega));replace BR:=BR.below (eC▸bC);refine hK.out _ _ trivial (fun _=>?_);clear hK K bC
    try simp only [sZ]
    refine wpAnyH_ready (rs:=[8]) (by kernel_rfl) (by simp) ?_;refine cH (fun K hK=>?_) ?_
    ·refine step_zeros elemK rfl (.tmp 12) (.tmp 12) rfl .i64 .i64 _ _ m rfl rfl rfl rfl (by omega) (by unfold maxLen;omega) ?_
     intro gV wV eV zV NV bV;replace NW:=NW.below (eV▸bV);replace NK:=NK.below (eV▸bV);replace NC:=NC.below (eV▸bV);replace BB:=BB.trans (bV.mono (by have:=BB.size;omega));replace BR:=BR.below (eV▸bV);refine hK.out _ _ trivial (fun _=>?_);clear hK K bV
     try simp only [sZ]
     refine wpAnyH_take (i:=13) (oi:=Oper.mk _ _ _ _ _ _) (v:=?vl2) rfl (by kernel_rfl) (by kernel_rfl) (by kernel_rfl) (fun _ _ _ h=>h) (Or.inl ⟨by rfl,?hl2⟩) trivial ?rl2
     case hl2 =>
      intro w0 hSw;go_simp
      all_goals with_reducible rfl
     try simp only [sZ]
     have BR':=aq BR;obtain⟨_,s0,s1,s2,s3,s4,s5,sf⟩:=BR;have⟨sf0,sf1,sf2,sf3,sf4,sf5⟩:=sf6 sf;clear sf;refine rdH 14 fun K hK=>?_;go_simp;refine hK.out _ _ trivial (fun _=>?_);refine wpAnyH_done (by kernel_rfl) ?_ _;clear hK K;go_wp2;refine bodyPost_ret (v:=slv (slMade sg n1 m n4) (adsMade gW gK gV gC n1 m n4)) (by simp [results,Tryz.results88,go_sem,slv,slMade,adsMade,s0,s1,s2,s3,s4,s5,sf0,sf1,sf2,sf3,sf4,sf5]) rfl ⟨_,rfl,made_fin NW NK NV NC (by omega) (by omega) (by omega) (by omega) (by omega) (by omega) (by omega) (by omega) (by omega) (by omega) (by omega) (by omega) (by omega) (by omega) BB (by omega) _ _ _ _ _ _⟩
    exact AllReadyH.nil
   exact AllReadyH.nil
  refine cH (fun K hK=>?_) ?_
  ·refine step_zeros elemK rfl (.tmp 12) (.tmp 12) rfl .i64 .i64 _ _ m rfl rfl rfl rfl (by omega) (by unfold maxLen;omega) ?_
   intro gV wV eV zV NV bV;replace NW:=NW.below (eV▸bV);replace BB:=BB.trans (bV.mono (by have:=BB.size;omega));replace BR:=BR.below (eV▸bV);refine hK.out _ _ trivial (fun _=>?_);clear hK K bV
   try simp only [sZ]
   refine wpAnyH_ready (rs:=[6,12]) (by kernel_rfl) (by simp) ?_;refine cH (fun K hK=>?_) ?_
   ·refine step_zeros elemK rfl (.tmp 10) (.tmp 10) rfl .i64 .i64 _ _ m rfl rfl rfl rfl (by omega) (by unfold maxLen;omega) ?_
    intro gK wK eK zK NK bK;replace NW:=NW.below (eK▸bK);replace NV:=NV.below (eK▸bK);replace BB:=BB.trans (bK.mono (by have:=BB.size;omega));replace BR:=BR.below (eK▸bK);refine hK.out _ _ trivial (fun _=>?_);clear hK K bK
    try simp only [sZ]
    refine wpAnyH_ready (rs:=[12]) (by kernel_rfl) (by simp) ?_;refine cH (fun K hK=>?_) ?_
    ·refine step_zeros elemI rfl (.tmp 16) (.tmp 16) rfl .i64 .i64 _ _ n4 rfl rfl rfl rfl (by omega) (by unfold maxLen;omega) ?_
     intro gC wC eC zC NC bC;replace NW:=NW.below (eC▸bC);replace NV:=NV.below (eC▸bC);replace NK:=NK.below (eC▸bC);replace BB:=BB.trans (bC.mono (by have:=BB.size;omega));replace BR:=BR.below (eC▸bC);refine hK.out _ _ trivial (fun _=>?_);clear hK K bC
     try simp only [sZ]
     refine wpAnyH_take (i:=13) (oi:=Oper.mk _ _ _ _ _ _) (v:=?vl3) rfl (by kernel_rfl) (by kernel_rfl) (by kernel_rfl) (fun _ _ _ h=>h) (Or.inl ⟨by rfl,?hl3⟩) trivial ?rl3
     case hl3 =>
      intro w0 hSw;go_simp
      all_goals with_reducible rfl
     try simp only [sZ]
     have BR':=aq BR;obtain⟨_,s0,s1,s2,s3,s4,s5,sf⟩:=BR;have⟨sf0,sf1,sf2,sf3,sf4,sf5⟩:=sf6 sf;clear sf;refine rdH 14 fun K hK=>?_;go_simp;refine hK.out _ _ trivial (fun _=>?_);refine wpAnyH_done (by kernel_rfl) ?_ _;clear hK K;go_wp2;refine bodyPost_ret (v:=slv (slMade sg n1 m n4) (adsMade gW gK gV gC n1 m n4)) (by simp [results,Tryz.results88,go_sem,slv,slMade,adsMade,s0,s1,s2,s3,s4,s5,sf0,sf1,sf2,sf3,sf4,sf5]) rfl ⟨_,rfl,made_fin NW NK NV NC (by omega) (by omega) (by omega) (by omega) (by omega) (by omega) (by omega) (by omega) (by omega) (by omega) (by omega) (by omega) (by omega) (by omega) BB (by omega) _ _ _ _ _ _⟩
    exact AllReadyH.nil
   refine cH (fun K hK=>?_) ?_
   ·refine step_zeros elemI rfl (.tmp 16) (.tmp 16) rfl .i64 .i64 _ _ n4 rfl rfl rfl rfl (by omega) (by unfold maxLen;omega) ?_
    intro gC wC eC zC NC bC;replace NW:=NW.below (eC▸bC);replace NV:=NV.below (eC▸bC);replace BB:=BB.trans (bC.mono (by have:=BB.size;omega));replace BR:=BR.below (eC▸bC);refine hK.out _ _ trivial (fun _=>?_);clear hK K bC
    try simp only [sZ]
    refine wpAnyH_ready (rs:=[6]) (by kernel_rfl) (by simp) ?_;refine cH (fun K hK=>?_) ?_
    ·refine step_zeros elemK rfl (.tmp 10) (.tmp 10) rfl .i64 .i64 _ _ m rfl rfl rfl rfl (by omega) (by unfold maxLen;omega) ?_
     intro gK wK eK zK NK bK;replace NW:=NW.below (eK▸bK);replace NV:=NV.below (eK▸bK);replace NC:=NC.below (eK▸bK);replace BB:=BB.trans (bK.mono (by have:=BB.size;omega));replace BR:=BR.below (eK▸bK);refine hK.out _ _ trivial (fun _=>?_);clear hK K bK
     try simp only [sZ]
     refine wpAnyH_take (i:=13) (oi:=Oper.mk _ _ _ _ _ _) (v:=?vl4) rfl (by kernel_rfl) (by kernel_rfl) (by kernel_rfl) (fun _ _ _ h=>h) (Or.inl ⟨by rfl,?hl4⟩) trivial ?rl4
     case hl4 =>
      intro w0 hSw;go_simp
      all_goals with_reducible rfl
     try simp only [sZ]
     have BR':=aq BR;obtain⟨_,s0,s1,s2,s3,s4,s5,sf⟩:=BR;have⟨sf0,sf1,sf2,sf3,sf4,sf5⟩:=sf6 sf;clear sf;refine rdH 14 fun K hK=>?_;go_simp;refine hK.out _ _ trivial (fun _=>?_);refine wpAnyH_done (by kernel_rfl) ?_ _;clear hK K;go_wp2;refine bodyPost_ret (v:=slv (slMade sg n1 m n4) (adsMade gW gK gV gC n1 m n4)) (by simp [results,Tryz.results88,go_sem,slv,slMade,adsMade,s0,s1,s2,s3,s4,s5,sf0,sf1,sf2,sf3,sf4,sf5]) rfl ⟨_,rfl,made_fin NW NK NV NC (by omega) (by omega) (by omega) (by omega) (by omega) (by omega) (by omega) (by omega) (by omega) (by omega) (by omega) (by omega) (by omega) (by omega) BB (by omega) _ _ _ _ _ _⟩
    exact AllReadyH.nil
   exact AllReadyH.nil
  refine cH (fun K hK=>?_) ?_
  ·refine step_zeros elemI rfl (.tmp 16) (.tmp 16) rfl .i64 .i64 _ _ n4 rfl rfl rfl rfl (by omega) (by unfold maxLen;omega) ?_
   intro gC wC eC zC NC bC;replace NW:=NW.below (eC▸bC);replace BB:=BB.trans (bC.mono (by have:=BB.size;omega));replace BR:=BR.below (eC▸bC);refine hK.out _ _ trivial (fun _=>?_);clear hK K bC
   try simp only [sZ]
   refine wpAnyH_ready (rs:=[6,8]) (by kernel_rfl) (by simp) ?_;refine cH (fun K hK=>?_) ?_
   ·refine step_zeros elemK rfl (.tmp 10) (.tmp 10) rfl .i64 .i64 _ _ m rfl rfl rfl rfl (by omega) (by unfold maxLen;omega) ?_
    intro gK wK eK zK NK bK;replace NW:=NW.below (eK▸bK);replace NC:=NC.below (eK▸bK);replace BB:=BB.trans (bK.mono (by have:=BB.size;omega));replace BR:=BR.below (eK▸bK);refine hK.out _ _ trivial (fun _=>?_);clear hK K bK
    try simp only [sZ]
    refine wpAnyH_ready (rs:=[8]) (by kernel_rfl) (by simp) ?_;refine cH (fun K hK=>?_) ?_
    ·refine step_zeros elemK rfl (.tmp 12) (.tmp 12) rfl .i64 .i64 _ _ m rfl rfl rfl rfl (by omega) (by unfold maxLen;omega) ?_
     intro gV wV eV zV NV bV;replace NW:=NW.below (eV▸bV);replace NC:=NC.below (eV▸bV);replace NK:=NK.below (eV▸bV);replace BB:=BB.trans (bV.mono (by have:=BB.size;omega));replace BR:=BR.below (eV▸bV);refine hK.out _ _ trivial (fun _=>?_);clear hK K bV
     try simp only [sZ]
     refine wpAnyH_take (i:=13) (oi:=Oper.mk _ _ _ _ _ _) (v:=?vl5) rfl (by kernel_rfl) (by kernel_rfl) (by kernel_rfl) (fun _ _ _ h=>h) (Or.inl ⟨by rfl,?hl5⟩) trivial ?rl5
     case hl5 =>
      intro w0 hSw;go_simp
      all_goals with_reducible rfl
     try simp only [sZ]
     have BR':=aq BR;obtain⟨_,s0,s1,s2,s3,s4,s5,sf⟩:=BR;have⟨sf0,sf1,sf2,sf3,sf4,sf5⟩:=sf6 sf;clear sf;refine rdH 14 fun K hK=>?_;go_simp;refine hK.out _ _ trivial (fun _=>?_);refine wpAnyH_done (by kernel_rfl) ?_ _;clear hK K;go_wp2;refine bodyPost_ret (v:=slv (slMade sg n1 m n4) (adsMade gW gK gV gC n1 m n4)) (by simp [results,Tryz.results88,go_sem,slv,slMade,adsMade,s0,s1,s2,s3,s4,s5,sf0,sf1,sf2,sf3,sf4,sf5]) rfl ⟨_,rfl,made_fin NW NK NV NC (by omega) (by omega) (by omega) (by omega) (by omega) (by omega) (by omega) (by omega) (by omega) (by omega) (by omega) (by omega) (by omega) (by omega) BB (by omega) _ _ _ _ _ _⟩
    exact AllReadyH.nil
   refine cH (fun K hK=>?_) ?_
   ·refine step_zeros elemK rfl (.tmp 12) (.tmp 12) rfl .i64 .i64 _ _ m rfl rfl rfl rfl (by omega) (by unfold maxLen;omega) ?_
    intro gV wV eV zV NV bV;replace NW:=NW.below (eV▸bV);replace NC:=NC.below (eV▸bV);replace BB:=BB.trans (bV.mono (by have:=BB.size;omega));replace BR:=BR.below (eV▸bV);refine hK.out _ _ trivial (fun _=>?_);clear hK K bV
    try simp only [sZ]
    refine wpAnyH_ready (rs:=[6]) (by kernel_rfl) (by simp) ?_;refine cH (fun K hK=>?_) ?_
    ·refine step_zeros elemK rfl (.tmp 10) (.tmp 10) rfl .i64 .i64 _ _ m rfl rfl rfl rfl (by omega) (by unfold maxLen;omega) ?_
     intro gK wK eK zK NK bK;replace NW:=NW.below (eK▸bK);replace NC:=NC.below (eK▸bK);replace NV:=NV.below (eK▸bK);replace BB:=BB.trans (bK.mono (by have:=BB.size;omega));replace BR:=BR.below (eK▸bK);refine hK.out _ _ trivial (fun _=>?_);clear hK K bK
     try simp only [sZ]
     refine wpAnyH_take (i:=13) (oi:=Oper.mk _ _ _ _ _ _) (v:=?vl6) rfl (by kernel_rfl) (by kernel_rfl) (by kernel_rfl) (fun _ _ _ h=>h) (Or.inl ⟨by rfl,?hl6⟩) trivial ?rl6
     case hl6 =>
      intro w0 hSw;go_simp
      all_goals with_reducible rfl
     try simp only [sZ]
     have BR':=aq BR;obtain⟨_,s0,s1,s2,s3,s4,s5,sf⟩:=BR;have⟨sf0,sf1,sf2,sf3,sf4,sf5⟩:=sf6 sf;clear sf;refine rdH 14 fun K hK=>?_;go_simp;refine hK.out _ _ trivial (fun _=>?_);refine wpAnyH_done (by kernel_rfl) ?_ _;clear hK K;go_wp2;refine bodyPost_ret (v:=slv (slMade sg n1 m n4) (adsMade gW gK gV gC n1 m n4)) (by simp [results,Tryz.results88,go_sem,slv,slMade,adsMade,s0,s1,s2,s3,s4,s5,sf0,sf1,sf2,sf3,sf4,sf5]) rfl ⟨_,rfl,made_fin NW NK NV NC (by omega) (by omega) (by omega) (by omega) (by omega) (by omega) (by omega) (by omega) (by omega) (by omega) (by omega) (by omega) (by omega) (by omega) BB (by omega) _ _ _ _ _ _⟩
    exact AllReadyH.nil
   exact AllReadyH.nil
  exact AllReadyH.nil
 refine cH (fun K hK=>?_) ?_
 ·refine step_zeros elemK rfl (.tmp 10) (.tmp 10) rfl .i64 .i64 _ _ m rfl rfl rfl rfl (by omega) (by unfold maxLen;omega) ?_
  intro gK wK eK zK NK bK;replace BB:=BB.trans (bK.mono (by have h9:=eK;simp at h9;omega));replace BR:=BR.below (eK▸bK)
  replace eK:gK=w.heap.size+1:=by rw [eK];simp
  refine hK.out _ _ trivial (fun _=>?_);clear hK K bK
  try simp only [sZ]
  refine wpAnyH_ready (rs:=[4,8,12]) (by kernel_rfl) (by simp) ?_;refine cH (fun K hK=>?_) ?_
  ·refine step_zeros elemW rfl (.tmp 8) (.tmp 8) rfl .i64 .i64 _ _ n1 rfl rfl rfl rfl (by omega) (by unfold maxLen;omega) ?_
   intro gW wW eW zW NW bW;replace NK:=NK.below (eW▸bW);replace BB:=BB.trans (bW.mono (by have:=BB.size;omega));replace BR:=BR.below (eW▸bW);refine hK.out _ _ trivial (fun _=>?_);clear hK K bW
   try simp only [sZ]
   refine wpAnyH_ready (rs:=[8,12]) (by kernel_rfl) (by simp) ?_;refine cH (fun K hK=>?_) ?_
   ·refine step_zeros elemK rfl (.tmp 12) (.tmp 12) rfl .i64 .i64 _ _ m rfl rfl rfl rfl (by omega) (by unfold maxLen;omega) ?_
    intro gV wV eV zV NV bV;replace NK:=NK.below (eV▸bV);replace NW:=NW.below (eV▸bV);replace BB:=BB.trans (bV.mono (by have:=BB.size;omega));replace BR:=BR.below (eV▸bV);refine hK.out _ _ trivial (fun _=>?_);clear hK K bV
    try simp only [sZ]
    refine wpAnyH_ready (rs:=[12]) (by kernel_rfl) (by simp) ?_;refine cH (fun K hK=>?_) ?_
    ·refine step_zeros elemI rfl (.tmp 16) (.tmp 16) rfl .i64 .i64 _ _ n4 rfl rfl rfl rfl (by omega) (by unfold maxLen;omega) ?_
     intro gC wC eC zC NC bC;replace NK:=NK.below (eC▸bC);replace NW:=NW.below (eC▸bC);replace NV:=NV.below (eC▸bC);replace BB:=BB.trans (bC.mono (by have:=BB.size;omega));replace BR:=BR.below (eC▸bC);refine hK.out _ _ trivial (fun _=>?_);clear hK K bC
     try simp only [sZ]
     refine wpAnyH_take (i:=13) (oi:=Oper.mk _ _ _ _ _ _) (v:=?vl7) rfl (by kernel_rfl) (by kernel_rfl) (by kernel_rfl) (fun _ _ _ h=>h) (Or.inl ⟨by rfl,?hl7⟩) trivial ?rl7
     case hl7 =>
      intro w0 hSw;go_simp
      all_goals with_reducible rfl
     try simp only [sZ]
     have BR':=aq BR;obtain⟨_,s0,s1,s2,s3,s4,s5,sf⟩:=BR;have⟨sf0,sf1,sf2,sf3,sf4,sf5⟩:=sf6 sf;clear sf;refine rdH 14 fun K hK=>?_;go_simp;refine hK.out _ _ trivial (fun _=>?_);refine wpAnyH_done (by kernel_rfl) ?_ _;clear hK K;go_wp2;refine bodyPost_ret (v:=slv (slMade sg n1 m n4) (adsMade gW gK gV gC n1 m n4)) (by simp [results,Tryz.results88,go_sem,slv,slMade,adsMade,s0,s1,s2,s3,s4,s5,sf0,sf1,sf2,sf3,sf4,sf5]) rfl ⟨_,rfl,made_fin NW NK NV NC (by omega) (by omega) (by omega) (by omega) (by omega) (by omega) (by omega) (by omega) (by omega) (by omega) (by omega) (by omega) (by omega) (by omega) BB (by omega) _ _ _ _ _ _⟩
    exact AllReadyH.nil
   refine cH (fun K hK=>?_) ?_
   ·refine step_zeros elemI rfl (.tmp 16) (.tmp 16) rfl .i64 .i64 _ _ n4 rfl rfl rfl rfl (by omega) (by unfold maxLen;omega) ?_
    intro gC wC eC zC NC bC;replace NK:=NK.below (eC▸bC);replace NW:=NW.below (eC▸bC);replace BB:=BB.trans (bC.mono (by have:=BB.size;omega));replace BR:=BR.below (eC▸bC);refine hK.out _ _ trivial (fun _=>?_);clear hK K bC
    try simp only [sZ]
    refine wpAnyH_ready (rs:=[8]) (by kernel_rfl) (by simp) ?_;refine cH (fun K hK=>?_) ?_
    ·refine step_zeros elemK rfl (.tmp 12) (.tmp 12) rfl .i64 .i64 _ _ m rfl rfl rfl rfl (by omega) (by unfold maxLen;omega) ?_
     intro gV wV eV zV NV bV;replace NK:=NK.below (eV▸bV);replace NW:=NW.below (eV▸bV);replace NC:=NC.below (eV▸bV);replace BB:=BB.trans (bV.mono (by have:=BB.size;omega));replace BR:=BR.below (eV▸bV);refine hK.out _ _ trivial (fun _=>?_);clear hK K bV
     try simp only [sZ]
     refine wpAnyH_take (i:=13) (oi:=Oper.mk _ _ _ _ _ _) (v:=?vl8) rfl (by kernel_rfl) (by kernel_rfl) (by kernel_rfl) (fun _ _ _ h=>h) (Or.inl ⟨by rfl,?hl8⟩) trivial ?rl8
     case hl8 =>
      intro w0 hSw;go_simp
      all_goals with_reducible rfl
     try simp only [sZ]
     have BR':=aq BR;obtain⟨_,s0,s1,s2,s3,s4,s5,sf⟩:=BR;have⟨sf0,sf1,sf2,sf3,sf4,sf5⟩:=sf6 sf;clear sf;refine rdH 14 fun K hK=>?_;go_simp;refine hK.out _ _ trivial (fun _=>?_);refine wpAnyH_done (by kernel_rfl) ?_ _;clear hK K;go_wp2;refine bodyPost_ret (v:=slv (slMade sg n1 m n4) (adsMade gW gK gV gC n1 m n4)) (by simp [results,Tryz.results88,go_sem,slv,slMade,adsMade,s0,s1,s2,s3,s4,s5,sf0,sf1,sf2,sf3,sf4,sf5]) rfl ⟨_,rfl,made_fin NW NK NV NC (by omega) (by omega) (by omega) (by omega) (by omega) (by omega) (by omega) (by omega) (by omega) (by omega) (by omega) (by omega) (by omega) (by omega) BB (by omega) _ _ _ _ _ _⟩
    exact AllReadyH.nil
   exact AllReadyH.nil
  refine cH (fun K hK=>?_) ?_
  ·refine step_zeros elemK rfl (.tmp 12) (.tmp 12) rfl .i64 .i64 _ _ m rfl rfl rfl rfl (by omega) (by unfold maxLen;omega) ?_
   intro gV wV eV zV NV bV;replace NK:=NK.below (eV▸bV);replace BB:=BB.trans (bV.mono (by have:=BB.size;omega));replace BR:=BR.below (eV▸bV);refine hK.out _ _ trivial (fun _=>?_);clear hK K bV
   try simp only [sZ]
   refine wpAnyH_ready (rs:=[4,12]) (by kernel_rfl) (by simp) ?_;refine cH (fun K hK=>?_) ?_
   ·refine step_zeros elemW rfl (.tmp 8) (.tmp 8) rfl .i64 .i64 _ _ n1 rfl rfl rfl rfl (by omega) (by unfold maxLen;omega) ?_
    intro gW wW eW zW NW bW;replace NK:=NK.below (eW▸bW);replace NV:=NV.below (eW▸bW);replace BB:=BB.trans (bW.mono (by have:=BB.size;omega));replace BR:=BR.below (eW▸bW);refine hK.out _ _ trivial (fun _=>?_);clear hK K bW
    try simp only [sZ]
    refine wpAnyH_ready (rs:=[12]) (by kernel_rfl) (by simp) ?_;refine cH (fun K hK=>?_) ?_
    ·refine step_zeros elemI rfl (.tmp 16) (.tmp 16) rfl .i64 .i64 _ _ n4 rfl rfl rfl rfl (by omega) (by unfold maxLen;omega) ?_
     intro gC wC eC zC NC bC;replace NK:=NK.below (eC▸bC);replace NV:=NV.below (eC▸bC);replace NW:=NW.below (eC▸bC);replace BB:=BB.trans (bC.mono (by have:=BB.size;omega));replace BR:=BR.below (eC▸bC);refine hK.out _ _ trivial (fun _=>?_);clear hK K bC
     try simp only [sZ]
     refine wpAnyH_take (i:=13) (oi:=Oper.mk _ _ _ _ _ _) (v:=?vl9) rfl (by kernel_rfl) (by kernel_rfl) (by kernel_rfl) (fun _ _ _ h=>h) (Or.inl ⟨by rfl,?hl9⟩) trivial ?rl9
     case hl9 =>
      intro w0 hSw;go_simp
      all_goals with_reducible rfl
     try simp only [sZ]
     have BR':=aq BR;obtain⟨_,s0,s1,s2,s3,s4,s5,sf⟩:=BR;have⟨sf0,sf1,sf2,sf3,sf4,sf5⟩:=sf6 sf;clear sf;refine rdH 14 fun K hK=>?_;go_simp;refine hK.out _ _ trivial (fun _=>?_);refine wpAnyH_done (by kernel_rfl) ?_ _;clear hK K;go_wp2;refine bodyPost_ret (v:=slv (slMade sg n1 m n4) (adsMade gW gK gV gC n1 m n4)) (by simp [results,Tryz.results88,go_sem,slv,slMade,adsMade,s0,s1,s2,s3,s4,s5,sf0,sf1,sf2,sf3,sf4,sf5]) rfl ⟨_,rfl,made_fin NW NK NV NC (by omega) (by omega) (by omega) (by omega) (by omega) (by omega) (by omega) (by omega) (by omega) (by omega) (by omega) (by omega) (by omega) (by omega) BB (by omega) _ _ _ _ _ _⟩
    exact AllReadyH.nil
   refine cH (fun K hK=>?_) ?_
   ·refine step_zeros elemI rfl (.tmp 16) (.tmp 16) rfl .i64 .i64 _ _ n4 rfl rfl rfl rfl (by omega) (by unfold maxLen;omega) ?_
    intro gC wC eC zC NC bC;replace NK:=NK.below (eC▸bC);replace NV:=NV.below (eC▸bC);replace BB:=BB.trans (bC.mono (by have:=BB.size;omega));replace BR:=BR.below (eC▸bC);refine hK.out _ _ trivial (fun _=>?_);clear hK K bC
    try simp only [sZ]
    refine wpAnyH_ready (rs:=[4]) (by kernel_rfl) (by simp) ?_;refine cH (fun K hK=>?_) ?_
    ·refine step_zeros elemW rfl (.tmp 8) (.tmp 8) rfl .i64 .i64 _ _ n1 rfl rfl rfl rfl (by omega) (by unfold maxLen;omega) ?_
     intro gW wW eW zW NW bW;replace NK:=NK.below (eW▸bW);replace NV:=NV.below (eW▸bW);replace NC:=NC.below (eW▸bW);replace BB:=BB.trans (bW.mono (by have:=BB.size;omega));replace BR:=BR.below (eW▸bW);refine hK.out _ _ trivial (fun _=>?_);clear hK K bW
     try simp only [sZ]
     refine wpAnyH_take (i:=13) (oi:=Oper.mk _ _ _ _ _ _) (v:=?vl10) rfl (by kernel_rfl) (by kernel_rfl) (by kernel_rfl) (fun _ _ _ h=>h) (Or.inl ⟨by rfl,?hl10⟩) trivial ?rl10
     case hl10 =>
      intro w0 hSw;go_simp
      all_goals with_reducible rfl
     try simp only [sZ]
     have BR':=aq BR;obtain⟨_,s0,s1,s2,s3,s4,s5,sf⟩:=BR;have⟨sf0,sf1,sf2,sf3,sf4,sf5⟩:=sf6 sf;clear sf;refine rdH 14 fun K hK=>?_;go_simp;refine hK.out _ _ trivial (fun _=>?_);refine wpAnyH_done (by kernel_rfl) ?_ _;clear hK K;go_wp2;refine bodyPost_ret (v:=slv (slMade sg n1 m n4) (adsMade gW gK gV gC n1 m n4)) (by simp [results,Tryz.results88,go_sem,slv,slMade,adsMade,s0,s1,s2,s3,s4,s5,sf0,sf1,sf2,sf3,sf4,sf5]) rfl ⟨_,rfl,made_fin NW NK NV NC (by omega) (by omega) (by omega) (by omega) (by omega) (by omega) (by omega) (by omega) (by omega) (by omega) (by omega) (by omega) (by omega) (by omega) BB (by omega) _ _ _ _ _ _⟩
    exact AllReadyH.nil
   exact AllReadyH.nil
  refine cH (fun K hK=>?_) ?_
  ·refine step_zeros elemI rfl (.tmp 16) (.tmp 16) rfl .i64 .i64 _ _ n4 rfl rfl rfl rfl (by omega) (by unfold maxLen;omega) ?_
   intro gC wC eC zC NC bC;replace NK:=NK.below (eC▸bC);replace BB:=BB.trans (bC.mono (by have:=BB.size;omega));replace BR:=BR.below (eC▸bC);refine hK.out _ _ trivial (fun _=>?_);clear hK K bC
   try simp only [sZ]
   refine wpAnyH_ready (rs:=[4,8]) (by kernel_rfl) (by simp) ?_;refine cH (fun K hK=>?_) ?_
   ·refine step_zeros elemW rfl (.tmp 8) (.tmp 8) rfl .i64 .i64 _ _ n1 rfl rfl rfl rfl (by omega) (by unfold maxLen;omega) ?_
    intro gW wW eW zW NW bW;replace NK:=NK.below (eW▸bW);replace NC:=NC.below (eW▸bW);replace BB:=BB.trans (bW.mono (by have:=BB.size;omega));replace BR:=BR.below (eW▸bW);refine hK.out _ _ trivial (fun _=>?_);clear hK K bW
    try simp only [sZ]
    refine wpAnyH_ready (rs:=[8]) (by kernel_rfl) (by simp) ?_;refine cH (fun K hK=>?_) ?_
    ·refine step_zeros elemK rfl (.tmp 12) (.tmp 12) rfl .i64 .i64 _ _ m rfl rfl rfl rfl (by omega) (by unfold maxLen;omega) ?_
     intro gV wV eV zV NV bV;replace NK:=NK.below (eV▸bV);replace NC:=NC.below (eV▸bV);replace NW:=NW.below (eV▸bV);replace BB:=BB.trans (bV.mono (by have:=BB.size;omega));replace BR:=BR.below (eV▸bV);refine hK.out _ _ trivial (fun _=>?_);clear hK K bV
     try simp only [sZ]
     refine wpAnyH_take (i:=13) (oi:=Oper.mk _ _ _ _ _ _) (v:=?vl11) rfl (by kernel_rfl) (by kernel_rfl) (by kernel_rfl) (fun _ _ _ h=>h) (Or.inl ⟨by rfl,?hl11⟩) trivial ?rl11
     case hl11 =>
      intro w0 hSw;go_simp
      all_goals with_reducible rfl
     try simp only [sZ]
     have BR':=aq BR;obtain⟨_,s0,s1,s2,s3,s4,s5,sf⟩:=BR;have⟨sf0,sf1,sf2,sf3,sf4,sf5⟩:=sf6 sf;clear sf;refine rdH 14 fun K hK=>?_;go_simp;refine hK.out _ _ trivial (fun _=>?_);refine wpAnyH_done (by kernel_rfl) ?_ _;clear hK K;go_wp2;refine bodyPost_ret (v:=slv (slMade sg n1 m n4) (adsMade gW gK gV gC n1 m n4)) (by simp [results,Tryz.results88,go_sem,slv,slMade,adsMade,s0,s1,s2,s3,s4,s5,sf0,sf1,sf2,sf3,sf4,sf5]) rfl ⟨_,rfl,made_fin NW NK NV NC (by omega) (by omega) (by omega) (by omega) (by omega) (by omega) (by omega) (by omega) (by omega) (by omega) (by omega) (by omega) (by omega) (by omega) BB (by omega) _ _ _ _ _ _⟩
    exact AllReadyH.nil
   refine cH (fun K hK=>?_) ?_
   ·refine step_zeros elemK rfl (.tmp 12) (.tmp 12) rfl .i64 .i64 _ _ m rfl rfl rfl rfl (by omega) (by unfold maxLen;omega) ?_
    intro gV wV eV zV NV bV;replace NK:=NK.below (eV▸bV);replace NC:=NC.below (eV▸bV);replace BB:=BB.trans (bV.mono (by have:=BB.size;omega));replace BR:=BR.below (eV▸bV);refine hK.out _ _ trivial (fun _=>?_);clear hK K bV
    try simp only [sZ]
    refine wpAnyH_ready (rs:=[4]) (by kernel_rfl) (by simp) ?_;refine cH (fun K hK=>?_) ?_
    ·refine step_zeros elemW rfl (.tmp 8) (.tmp 8) rfl .i64 .i64 _ _ n1 rfl rfl rfl rfl (by omega) (by unfold maxLen;omega) ?_
     intro gW wW eW zW NW bW;replace NK:=NK.below (eW▸bW);replace NC:=NC.below (eW▸bW);replace NV:=NV.below (eW▸bW);replace BB:=BB.trans (bW.mono (by have:=BB.size;omega));replace BR:=BR.below (eW▸bW);refine hK.out _ _ trivial (fun _=>?_);clear hK K bW
     try simp only [sZ]
     refine wpAnyH_take (i:=13) (oi:=Oper.mk _ _ _ _ _ _) (v:=?vl12) rfl (by kernel_rfl) (by kernel_rfl) (by kernel_rfl) (fun _ _ _ h=>h) (Or.inl ⟨by rfl,?hl12⟩) trivial ?rl12
     case hl12 =>
      intro w0 hSw;go_simp
      all_goals with_reducible rfl
     try simp only [sZ]
     have BR':=aq BR;obtain⟨_,s0,s1,s2,s3,s4,s5,sf⟩:=BR;have⟨sf0,sf1,sf2,sf3,sf4,sf5⟩:=sf6 sf;clear sf;refine rdH 14 fun K hK=>?_;go_simp;refine hK.out _ _ trivial (fun _=>?_);refine wpAnyH_done (by kernel_rfl) ?_ _;clear hK K;go_wp2;refine bodyPost_ret (v:=slv (slMade sg n1 m n4) (adsMade gW gK gV gC n1 m n4)) (by simp [results,Tryz.results88,go_sem,slv,slMade,adsMade,s0,s1,s2,s3,s4,s5,sf0,sf1,sf2,sf3,sf4,sf5]) rfl ⟨_,rfl,made_fin NW NK NV NC (by omega) (by omega) (by omega) (by omega) (by omega) (by omega) (by omega) (by omega) (by omega) (by omega) (by omega) (by omega) (by omega) (by omega) BB (by omega) _ _ _ _ _ _⟩
    exact AllReadyH.nil
   exact AllReadyH.nil
  exact AllReadyH.nil
 refine cH (fun K hK=>?_) ?_
 ·refine step_zeros elemK rfl (.tmp 12) (.tmp 12) rfl .i64 .i64 _ _ m rfl rfl rfl rfl (by omega) (by unfold maxLen;omega) ?_
  intro gV wV eV zV NV bV;replace BB:=BB.trans (bV.mono (by have h9:=eV;simp at h9;omega));replace BR:=BR.below (eV▸bV)
  replace eV:gV=w.heap.size+1:=by rw [eV];simp
  refine hK.out _ _ trivial (fun _=>?_);clear hK K bV
  try simp only [sZ]
  refine wpAnyH_ready (rs:=[4,6,12]) (by kernel_rfl) (by simp) ?_;refine cH (fun K hK=>?_) ?_
  ·refine step_zeros elemW rfl (.tmp 8) (.tmp 8) rfl .i64 .i64 _ _ n1 rfl rfl rfl rfl (by omega) (by unfold maxLen;omega) ?_
   intro gW wW eW zW NW bW;replace NV:=NV.below (eW▸bW);replace BB:=BB.trans (bW.mono (by have:=BB.size;omega));replace BR:=BR.below (eW▸bW);refine hK.out _ _ trivial (fun _=>?_);clear hK K bW
   try simp only [sZ]
   refine wpAnyH_ready (rs:=[6,12]) (by kernel_rfl) (by simp) ?_;refine cH (fun K hK=>?_) ?_
   ·refine step_zeros elemK rfl (.tmp 10) (.tmp 10) rfl .i64 .i64 _ _ m rfl rfl rfl rfl (by omega) (by unfold maxLen;omega) ?_
    intro gK wK eK zK NK bK;replace NV:=NV.below (eK▸bK);replace NW:=NW.below (eK▸bK);replace BB:=BB.trans (bK.mono (by have:=BB.size;omega));replace BR:=BR.below (eK▸bK);refine hK.out _ _ trivial (fun _=>?_);clear hK K bK
    try simp only [sZ]
    refine wpAnyH_ready (rs:=[12]) (by kernel_rfl) (by simp) ?_;refine cH (fun K hK=>?_) ?_
    ·refine step_zeros elemI rfl (.tmp 16) (.tmp 16) rfl .i64 .i64 _ _ n4 rfl rfl rfl rfl (by omega) (by unfold maxLen;omega) ?_
     intro gC wC eC zC NC bC;replace NV:=NV.below (eC▸bC);replace NW:=NW.below (eC▸bC);replace NK:=NK.below (eC▸bC);replace BB:=BB.trans (bC.mono (by have:=BB.size;omega));replace BR:=BR.below (eC▸bC);refine hK.out _ _ trivial (fun _=>?_);clear hK K bC
     try simp only [sZ]
     refine wpAnyH_take (i:=13) (oi:=Oper.mk _ _ _ _ _ _) (v:=?vl13) rfl (by kernel_rfl) (by kernel_rfl) (by kernel_rfl) (fun _ _ _ h=>h) (Or.inl ⟨by rfl,?hl13⟩) trivial ?rl13
     case hl13 =>
      intro w0 hSw;go_simp
      all_goals with_reducible rfl
     try simp only [sZ]
     have BR':=aq BR;obtain⟨_,s0,s1,s2,s3,s4,s5,sf⟩:=BR;have⟨sf0,sf1,sf2,sf3,sf4,sf5⟩:=sf6 sf;clear sf;refine rdH 14 fun K hK=>?_;go_simp;refine hK.out _ _ trivial (fun _=>?_);refine wpAnyH_done (by kernel_rfl) ?_ _;clear hK K;go_wp2;refine bodyPost_ret (v:=slv (slMade sg n1 m n4) (adsMade gW gK gV gC n1 m n4)) (by simp [results,Tryz.results88,go_sem,slv,slMade,adsMade,s0,s1,s2,s3,s4,s5,sf0,sf1,sf2,sf3,sf4,sf5]) rfl ⟨_,rfl,made_fin NW NK NV NC (by omega) (by omega) (by omega) (by omega) (by omega) (by omega) (by omega) (by omega) (by omega) (by omega) (by omega) (by omega) (by omega) (by omega) BB (by omega) _ _ _ _ _ _⟩
    exact AllReadyH.nil
   refine cH (fun K hK=>?_) ?_
   ·refine step_zeros elemI rfl (.tmp 16) (.tmp 16) rfl .i64 .i64 _ _ n4 rfl rfl rfl rfl (by omega) (by unfold maxLen;omega) ?_
    intro gC wC eC zC NC bC;replace NV:=NV.below (eC▸bC);replace NW:=NW.below (eC▸bC);replace BB:=BB.trans (bC.mono (by have:=BB.size;omega));replace BR:=BR.below (eC▸bC);refine hK.out _ _ trivial (fun _=>?_);clear hK K bC
    try simp only [sZ]
    refine wpAnyH_ready (rs:=[6]) (by kernel_rfl) (by simp) ?_;refine cH (fun K hK=>?_) ?_
    ·refine step_zeros elemK rfl (.tmp 10) (.tmp 10) rfl .i64 .i64 _ _ m rfl rfl rfl rfl (by omega) (by unfold maxLen;omega) ?_
     intro gK wK eK zK NK bK;replace NV:=NV.below (eK▸bK);replace NW:=NW.below (eK▸bK);replace NC:=NC.below (eK▸bK);replace BB:=BB.trans (bK.mono (by have:=BB.size;omega));replace BR:=BR.below (eK▸bK);refine hK.out _ _ trivial (fun _=>?_);clear hK K bK
     try simp only [sZ]
     refine wpAnyH_take (i:=13) (oi:=Oper.mk _ _ _ _ _ _) (v:=?vl14) rfl (by kernel_rfl) (by kernel_rfl) (by kernel_rfl) (fun _ _ _ h=>h) (Or.inl ⟨by rfl,?hl14⟩) trivial ?rl14
     case hl14 =>
      intro w0 hSw;go_simp
      all_goals with_reducible rfl
     try simp only [sZ]
     have BR':=aq BR;obtain⟨_,s0,s1,s2,s3,s4,s5,sf⟩:=BR;have⟨sf0,sf1,sf2,sf3,sf4,sf5⟩:=sf6 sf;clear sf;refine rdH 14 fun K hK=>?_;go_simp;refine hK.out _ _ trivial (fun _=>?_);refine wpAnyH_done (by kernel_rfl) ?_ _;clear hK K;go_wp2;refine bodyPost_ret (v:=slv (slMade sg n1 m n4) (adsMade gW gK gV gC n1 m n4)) (by simp [results,Tryz.results88,go_sem,slv,slMade,adsMade,s0,s1,s2,s3,s4,s5,sf0,sf1,sf2,sf3,sf4,sf5]) rfl ⟨_,rfl,made_fin NW NK NV NC (by omega) (by omega) (by omega) (by omega) (by omega) (by omega) (by omega) (by omega) (by omega) (by omega) (by omega) (by omega) (by omega) (by omega) BB (by omega) _ _ _ _ _ _⟩
    exact AllReadyH.nil
   exact AllReadyH.nil
  refine cH (fun K hK=>?_) ?_
  ·refine step_zeros elemK rfl (.tmp 10) (.tmp 10) rfl .i64 .i64 _ _ m rfl rfl rfl rfl (by omega) (by unfold maxLen;omega) ?_
   intro gK wK eK zK NK bK;replace NV:=NV.below (eK▸bK);replace BB:=BB.trans (bK.mono (by have:=BB.size;omega));replace BR:=BR.below (eK▸bK);refine hK.out _ _ trivial (fun _=>?_);clear hK K bK
   try simp only [sZ]
   refine wpAnyH_ready (rs:=[4,12]) (by kernel_rfl) (by simp) ?_;refine cH (fun K hK=>?_) ?_
   ·refine step_zeros elemW rfl (.tmp 8) (.tmp 8) rfl .i64 .i64 _ _ n1 rfl rfl rfl rfl (by omega) (by unfold maxLen;omega) ?_
    intro gW wW eW zW NW bW;replace NV:=NV.below (eW▸bW);replace NK:=NK.below (eW▸bW);replace BB:=BB.trans (bW.mono (by have:=BB.size;omega));replace BR:=BR.below (eW▸bW);refine hK.out _ _ trivial (fun _=>?_);clear hK K bW
    try simp only [sZ]
    refine wpAnyH_ready (rs:=[12]) (by kernel_rfl) (by simp) ?_;refine cH (fun K hK=>?_) ?_
    ·refine step_zeros elemI rfl (.tmp 16) (.tmp 16) rfl .i64 .i64 _ _ n4 rfl rfl rfl rfl (by omega) (by unfold maxLen;omega) ?_
     intro gC wC eC zC NC bC;replace NV:=NV.below (eC▸bC);replace NK:=NK.below (eC▸bC);replace NW:=NW.below (eC▸bC);replace BB:=BB.trans (bC.mono (by have:=BB.size;omega));replace BR:=BR.below (eC▸bC);refine hK.out _ _ trivial (fun _=>?_);clear hK K bC
     try simp only [sZ]
     refine wpAnyH_take (i:=13) (oi:=Oper.mk _ _ _ _ _ _) (v:=?vl15) rfl (by kernel_rfl) (by kernel_rfl) (by kernel_rfl) (fun _ _ _ h=>h) (Or.inl ⟨by rfl,?hl15⟩) trivial ?rl15
     case hl15 =>
      intro w0 hSw;go_simp
      all_goals with_reducible rfl
     try simp only [sZ]
     have BR':=aq BR;obtain⟨_,s0,s1,s2,s3,s4,s5,sf⟩:=BR;have⟨sf0,sf1,sf2,sf3,sf4,sf5⟩:=sf6 sf;clear sf;refine rdH 14 fun K hK=>?_;go_simp;refine hK.out _ _ trivial (fun _=>?_);refine wpAnyH_done (by kernel_rfl) ?_ _;clear hK K;go_wp2;refine bodyPost_ret (v:=slv (slMade sg n1 m n4) (adsMade gW gK gV gC n1 m n4)) (by simp [results,Tryz.results88,go_sem,slv,slMade,adsMade,s0,s1,s2,s3,s4,s5,sf0,sf1,sf2,sf3,sf4,sf5]) rfl ⟨_,rfl,made_fin NW NK NV NC (by omega) (by omega) (by omega) (by omega) (by omega) (by omega) (by omega) (by omega) (by omega) (by omega) (by omega) (by omega) (by omega) (by omega) BB (by omega) _ _ _ _ _ _⟩
    exact AllReadyH.nil
   refine cH (fun K hK=>?_) ?_
   ·refine step_zeros elemI rfl (.tmp 16) (.tmp 16) rfl .i64 .i64 _ _ n4 rfl rfl rfl rfl (by omega) (by unfold maxLen;omega) ?_
    intro gC wC eC zC NC bC;replace NV:=NV.below (eC▸bC);replace NK:=NK.below (eC▸bC);replace BB:=BB.trans (bC.mono (by have:=BB.size;omega));replace BR:=BR.below (eC▸bC);refine hK.out _ _ trivial (fun _=>?_);clear hK K bC
    try simp only [sZ]
    refine wpAnyH_ready (rs:=[4]) (by kernel_rfl) (by simp) ?_;refine cH (fun K hK=>?_) ?_
    ·refine step_zeros elemW rfl (.tmp 8) (.tmp 8) rfl .i64 .i64 _ _ n1 rfl rfl rfl rfl (by omega) (by unfold maxLen;omega) ?_
     intro gW wW eW zW NW bW;replace NV:=NV.below (eW▸bW);replace NK:=NK.below (eW▸bW);replace NC:=NC.below (eW▸bW);replace BB:=BB.trans (bW.mono (by have:=BB.size;omega));replace BR:=BR.below (eW▸bW);refine hK.out _ _ trivial (fun _=>?_);clear hK K bW
     try simp only [sZ]
     refine wpAnyH_take (i:=13) (oi:=Oper.mk _ _ _ _ _ _) (v:=?vl16) rfl (by kernel_rfl) (by kernel_rfl) (by kernel_rfl) (fun _ _ _ h=>h) (Or.inl ⟨by rfl,?hl16⟩) trivial ?rl16
     case hl16 =>
      intro w0 hSw;go_simp
      all_goals with_reducible rfl
     try simp only [sZ]
     have BR':=aq BR;obtain⟨_,s0,s1,s2,s3,s4,s5,sf⟩:=BR;have⟨sf0,sf1,sf2,sf3,sf4,sf5⟩:=sf6 sf;clear sf;refine rdH 14 fun K hK=>?_;go_simp;refine hK.out _ _ trivial (fun _=>?_);refine wpAnyH_done (by kernel_rfl) ?_ _;clear hK K;go_wp2;refine bodyPost_ret (v:=slv (slMade sg n1 m n4) (adsMade gW gK gV gC n1 m n4)) (by simp [results,Tryz.results88,go_sem,slv,slMade,adsMade,s0,s1,s2,s3,s4,s5,sf0,sf1,sf2,sf3,sf4,sf5]) rfl ⟨_,rfl,made_fin NW NK NV NC (by omega) (by omega) (by omega) (by omega) (by omega) (by omega) (by omega) (by omega) (by omega) (by omega) (by omega) (by omega) (by omega) (by omega) BB (by omega) _ _ _ _ _ _⟩
    exact AllReadyH.nil
   exact AllReadyH.nil
  refine cH (fun K hK=>?_) ?_
  ·refine step_zeros elemI rfl (.tmp 16) (.tmp 16) rfl .i64 .i64 _ _ n4 rfl rfl rfl rfl (by omega) (by unfold maxLen;omega) ?_
   intro gC wC eC zC NC bC;replace NV:=NV.below (eC▸bC);replace BB:=BB.trans (bC.mono (by have:=BB.size;omega));replace BR:=BR.below (eC▸bC);refine hK.out _ _ trivial (fun _=>?_);clear hK K bC
   try simp only [sZ]
   refine wpAnyH_ready (rs:=[4,6]) (by kernel_rfl) (by simp) ?_;refine cH (fun K hK=>?_) ?_
   ·refine step_zeros elemW rfl (.tmp 8) (.tmp 8) rfl .i64 .i64 _ _ n1 rfl rfl rfl rfl (by omega) (by unfold maxLen;omega) ?_
    intro gW wW eW zW NW bW;replace NV:=NV.below (eW▸bW);replace NC:=NC.below (eW▸bW);replace BB:=BB.trans (bW.mono (by have:=BB.size;omega));replace BR:=BR.below (eW▸bW);refine hK.out _ _ trivial (fun _=>?_);clear hK K bW
    try simp only [sZ]
    refine wpAnyH_ready (rs:=[6]) (by kernel_rfl) (by simp) ?_;refine cH (fun K hK=>?_) ?_
    ·refine step_zeros elemK rfl (.tmp 10) (.tmp 10) rfl .i64 .i64 _ _ m rfl rfl rfl rfl (by omega) (by unfold maxLen;omega) ?_
     intro gK wK eK zK NK bK;replace NV:=NV.below (eK▸bK);replace NC:=NC.below (eK▸bK);replace NW:=NW.below (eK▸bK);replace BB:=BB.trans (bK.mono (by have:=BB.size;omega));replace BR:=BR.below (eK▸bK);refine hK.out _ _ trivial (fun _=>?_);clear hK K bK
     try simp only [sZ]
     refine wpAnyH_take (i:=13) (oi:=Oper.mk _ _ _ _ _ _) (v:=?vl17) rfl (by kernel_rfl) (by kernel_rfl) (by kernel_rfl) (fun _ _ _ h=>h) (Or.inl ⟨by rfl,?hl17⟩) trivial ?rl17
     case hl17 =>
      intro w0 hSw;go_simp
      all_goals with_reducible rfl
     try simp only [sZ]
     have BR':=aq BR;obtain⟨_,s0,s1,s2,s3,s4,s5,sf⟩:=BR;have⟨sf0,sf1,sf2,sf3,sf4,sf5⟩:=sf6 sf;clear sf;refine rdH 14 fun K hK=>?_;go_simp;refine hK.out _ _ trivial (fun _=>?_);refine wpAnyH_done (by kernel_rfl) ?_ _;clear hK K;go_wp2;refine bodyPost_ret (v:=slv (slMade sg n1 m n4) (adsMade gW gK gV gC n1 m n4)) (by simp [results,Tryz.results88,go_sem,slv,slMade,adsMade,s0,s1,s2,s3,s4,s5,sf0,sf1,sf2,sf3,sf4,sf5]) rfl ⟨_,rfl,made_fin NW NK NV NC (by omega) (by omega) (by omega) (by omega) (by omega) (by omega) (by omega) (by omega) (by omega) (by omega) (by omega) (by omega) (by omega) (by omega) BB (by omega) _ _ _ _ _ _⟩
    exact AllReadyH.nil
   refine cH (fun K hK=>?_) ?_
   ·refine step_zeros elemK rfl (.tmp 10) (.tmp 10) rfl .i64 .i64 _ _ m rfl rfl rfl rfl (by omega) (by unfold maxLen;omega) ?_
    intro gK wK eK zK NK bK;replace NV:=NV.below (eK▸bK);replace NC:=NC.below (eK▸bK);replace BB:=BB.trans (bK.mono (by have:=BB.size;omega));replace BR:=BR.below (eK▸bK);refine hK.out _ _ trivial (fun _=>?_);clear hK K bK
    try simp only [sZ]
    refine wpAnyH_ready (rs:=[4]) (by kernel_rfl) (by simp) ?_;refine cH (fun K hK=>?_) ?_
    ·refine step_zeros elemW rfl (.tmp 8) (.tmp 8) rfl .i64 .i64 _ _ n1 rfl rfl rfl rfl (by omega) (by unfold maxLen;omega) ?_
     intro gW wW eW zW NW bW;replace NV:=NV.below (eW▸bW);replace NC:=NC.below (eW▸bW);replace NK:=NK.below (eW▸bW);replace BB:=BB.trans (bW.mono (by have:=BB.size;omega));replace BR:=BR.below (eW▸bW);refine hK.out _ _ trivial (fun _=>?_);clear hK K bW
     try simp only [sZ]
     refine wpAnyH_take (i:=13) (oi:=Oper.mk _ _ _ _ _ _) (v:=?vl18) rfl (by kernel_rfl) (by kernel_rfl) (by kernel_rfl) (fun _ _ _ h=>h) (Or.inl ⟨by rfl,?hl18⟩) trivial ?rl18
     case hl18 =>
      intro w0 hSw;go_simp
      all_goals with_reducible rfl
     try simp only [sZ]
     have BR':=aq BR;obtain⟨_,s0,s1,s2,s3,s4,s5,sf⟩:=BR;have⟨sf0,sf1,sf2,sf3,sf4,sf5⟩:=sf6 sf;clear sf;refine rdH 14 fun K hK=>?_;go_simp;refine hK.out _ _ trivial (fun _=>?_);refine wpAnyH_done (by kernel_rfl) ?_ _;clear hK K;go_wp2;refine bodyPost_ret (v:=slv (slMade sg n1 m n4) (adsMade gW gK gV gC n1 m n4)) (by simp [results,Tryz.results88,go_sem,slv,slMade,adsMade,s0,s1,s2,s3,s4,s5,sf0,sf1,sf2,sf3,sf4,sf5]) rfl ⟨_,rfl,made_fin NW NK NV NC (by omega) (by omega) (by omega) (by omega) (by omega) (by omega) (by omega) (by omega) (by omega) (by omega) (by omega) (by omega) (by omega) (by omega) BB (by omega) _ _ _ _ _ _⟩
    exact AllReadyH.nil
   exact AllReadyH.nil
  exact AllReadyH.nil
 refine cH (fun K hK=>?_) ?_
 ·refine step_zeros elemI rfl (.tmp 16) (.tmp 16) rfl .i64 .i64 _ _ n4 rfl rfl rfl rfl (by omega) (by unfold maxLen;omega) ?_
  intro gC wC eC zC NC bC;replace BB:=BB.trans (bC.mono (by have h9:=eC;simp at h9;omega));replace BR:=BR.below (eC▸bC)
  replace eC:gC=w.heap.size+1:=by rw [eC];simp
  refine hK.out _ _ trivial (fun _=>?_);clear hK K bC
  try simp only [sZ]
  refine wpAnyH_ready (rs:=[4,6,8]) (by kernel_rfl) (by simp) ?_;refine cH (fun K hK=>?_) ?_
  ·refine step_zeros elemW rfl (.tmp 8) (.tmp 8) rfl .i64 .i64 _ _ n1 rfl rfl rfl rfl (by omega) (by unfold maxLen;omega) ?_
   intro gW wW eW zW NW bW;replace NC:=NC.below (eW▸bW);replace BB:=BB.trans (bW.mono (by have:=BB.size;omega));replace BR:=BR.below (eW▸bW);refine hK.out _ _ trivial (fun _=>?_);clear hK K bW
   try simp only [sZ]
   refine wpAnyH_ready (rs:=[6,8]) (by kernel_rfl) (by simp) ?_;refine cH (fun K hK=>?_) ?_
   ·refine step_zeros elemK rfl (.tmp 10) (.tmp 10) rfl .i64 .i64 _ _ m rfl rfl rfl rfl (by omega) (by unfold maxLen;omega) ?_
    intro gK wK eK zK NK bK;replace NC:=NC.below (eK▸bK);replace NW:=NW.below (eK▸bK);replace BB:=BB.trans (bK.mono (by have:=BB.size;omega));replace BR:=BR.below (eK▸bK);refine hK.out _ _ trivial (fun _=>?_);clear hK K bK
    try simp only [sZ]
    refine wpAnyH_ready (rs:=[8]) (by kernel_rfl) (by simp) ?_;refine cH (fun K hK=>?_) ?_
    ·refine step_zeros elemK rfl (.tmp 12) (.tmp 12) rfl .i64 .i64 _ _ m rfl rfl rfl rfl (by omega) (by unfold maxLen;omega) ?_
     intro gV wV eV zV NV bV;replace NC:=NC.below (eV▸bV);replace NW:=NW.below (eV▸bV);replace NK:=NK.below (eV▸bV);replace BB:=BB.trans (bV.mono (by have:=BB.size;omega));replace BR:=BR.below (eV▸bV);refine hK.out _ _ trivial (fun _=>?_);clear hK K bV
     try simp only [sZ]
     refine wpAnyH_take (i:=13) (oi:=Oper.mk _ _ _ _ _ _) (v:=?vl19) rfl (by kernel_rfl) (by kernel_rfl) (by kernel_rfl) (fun _ _ _ h=>h) (Or.inl ⟨by rfl,?hl19⟩) trivial ?rl19
     case hl19 =>
      intro w0 hSw;go_simp
      all_goals with_reducible rfl
     try simp only [sZ]
     have BR':=aq BR;obtain⟨_,s0,s1,s2,s3,s4,s5,sf⟩:=BR;have⟨sf0,sf1,sf2,sf3,sf4,sf5⟩:=sf6 sf;clear sf;refine rdH 14 fun K hK=>?_;go_simp;refine hK.out _ _ trivial (fun _=>?_);refine wpAnyH_done (by kernel_rfl) ?_ _;clear hK K;go_wp2;refine bodyPost_ret (v:=slv (slMade sg n1 m n4) (adsMade gW gK gV gC n1 m n4)) (by simp [results,Tryz.results88,go_sem,slv,slMade,adsMade,s0,s1,s2,s3,s4,s5,sf0,sf1,sf2,sf3,sf4,sf5]) rfl ⟨_,rfl,made_fin NW NK NV NC (by omega) (by omega) (by omega) (by omega) (by omega) (by omega) (by omega) (by omega) (by omega) (by omega) (by omega) (by omega) (by omega) (by omega) BB (by omega) _ _ _ _ _ _⟩
    exact AllReadyH.nil
   refine cH (fun K hK=>?_) ?_
   ·refine step_zeros elemK rfl (.tmp 12) (.tmp 12) rfl .i64 .i64 _ _ m rfl rfl rfl rfl (by omega) (by unfold maxLen;omega) ?_
    intro gV wV eV zV NV bV;replace NC:=NC.below (eV▸bV);replace NW:=NW.below (eV▸bV);replace BB:=BB.trans (bV.mono (by have:=BB.size;omega));replace BR:=BR.below (eV▸bV);refine hK.out _ _ trivial (fun _=>?_);clear hK K bV
    try simp only [sZ]
    refine wpAnyH_ready (rs:=[6]) (by kernel_rfl) (by simp) ?_;refine cH (fun K hK=>?_) ?_
    ·refine step_zeros elemK rfl (.tmp 10) (.tmp 10) rfl .i64 .i64 _ _ m rfl rfl rfl rfl (by omega) (by unfold maxLen;omega) ?_
     intro gK wK eK zK NK bK;replace NC:=NC.below (eK▸bK);replace NW:=NW.below (eK▸bK);replace NV:=NV.below (eK▸bK);replace BB:=BB.trans (bK.mono (by have:=BB.size;omega));replace BR:=BR.below (eK▸bK);refine hK.out _ _ trivial (fun _=>?_);clear hK K bK
     try simp only [sZ]
     refine wpAnyH_take (i:=13) (oi:=Oper.mk _ _ _ _ _ _) (v:=?vl20) rfl (by kernel_rfl) (by kernel_rfl) (by kernel_rfl) (fun _ _ _ h=>h) (Or.inl ⟨by rfl,?hl20⟩) trivial ?rl20
     case hl20 =>
      intro w0 hSw;go_simp
      all_goals with_reducible rfl
     try simp only [sZ]
     have BR':=aq BR;obtain⟨_,s0,s1,s2,s3,s4,s5,sf⟩:=BR;have⟨sf0,sf1,sf2,sf3,sf4,sf5⟩:=sf6 sf;clear sf;refine rdH 14 fun K hK=>?_;go_simp;refine hK.out _ _ trivial (fun _=>?_);refine wpAnyH_done (by kernel_rfl) ?_ _;clear hK K;go_wp2;refine bodyPost_ret (v:=slv (slMade sg n1 m n4) (adsMade gW gK gV gC n1 m n4)) (by simp [results,Tryz.results88,go_sem,slv,slMade,adsMade,s0,s1,s2,s3,s4,s5,sf0,sf1,sf2,sf3,sf4,sf5]) rfl ⟨_,rfl,made_fin NW NK NV NC (by omega) (by omega) (by omega) (by omega) (by omega) (by omega) (by omega) (by omega) (by omega) (by omega) (by omega) (by omega) (by omega) (by omega) BB (by omega) _ _ _ _ _ _⟩
    exact AllReadyH.nil
   exact AllReadyH.nil
  refine cH (fun K hK=>?_) ?_
  ·refine step_zeros elemK rfl (.tmp 10) (.tmp 10) rfl .i64 .i64 _ _ m rfl rfl rfl rfl (by omega) (by unfold maxLen;omega) ?_
   intro gK wK eK zK NK bK;replace NC:=NC.below (eK▸bK);replace BB:=BB.trans (bK.mono (by have:=BB.size;omega));replace BR:=BR.below (eK▸bK);refine hK.out _ _ trivial (fun _=>?_);clear hK K bK
   try simp only [sZ]
   refine wpAnyH_ready (rs:=[4,8]) (by kernel_rfl) (by simp) ?_;refine cH (fun K hK=>?_) ?_
   ·refine step_zeros elemW rfl (.tmp 8) (.tmp 8) rfl .i64 .i64 _ _ n1 rfl rfl rfl rfl (by omega) (by unfold maxLen;omega) ?_
    intro gW wW eW zW NW bW;replace NC:=NC.below (eW▸bW);replace NK:=NK.below (eW▸bW);replace BB:=BB.trans (bW.mono (by have:=BB.size;omega));replace BR:=BR.below (eW▸bW);refine hK.out _ _ trivial (fun _=>?_);clear hK K bW
    try simp only [sZ]
    refine wpAnyH_ready (rs:=[8]) (by kernel_rfl) (by simp) ?_;refine cH (fun K hK=>?_) ?_
    ·refine step_zeros elemK rfl (.tmp 12) (.tmp 12) rfl .i64 .i64 _ _ m rfl rfl rfl rfl (by omega) (by unfold maxLen;omega) ?_
     intro gV wV eV zV NV bV;replace NC:=NC.below (eV▸bV);replace NK:=NK.below (eV▸bV);replace NW:=NW.below (eV▸bV);replace BB:=BB.trans (bV.mono (by have:=BB.size;omega));replace BR:=BR.below (eV▸bV);refine hK.out _ _ trivial (fun _=>?_);clear hK K bV
     try simp only [sZ]
     refine wpAnyH_take (i:=13) (oi:=Oper.mk _ _ _ _ _ _) (v:=?vl21) rfl (by kernel_rfl) (by kernel_rfl) (by kernel_rfl) (fun _ _ _ h=>h) (Or.inl ⟨by rfl,?hl21⟩) trivial ?rl21
     case hl21 =>
      intro w0 hSw;go_simp
      all_goals with_reducible rfl
     try simp only [sZ]
     have BR':=aq BR;obtain⟨_,s0,s1,s2,s3,s4,s5,sf⟩:=BR;have⟨sf0,sf1,sf2,sf3,sf4,sf5⟩:=sf6 sf;clear sf;refine rdH 14 fun K hK=>?_;go_simp;refine hK.out _ _ trivial (fun _=>?_);refine wpAnyH_done (by kernel_rfl) ?_ _;clear hK K;go_wp2;refine bodyPost_ret (v:=slv (slMade sg n1 m n4) (adsMade gW gK gV gC n1 m n4)) (by simp [results,Tryz.results88,go_sem,slv,slMade,adsMade,s0,s1,s2,s3,s4,s5,sf0,sf1,sf2,sf3,sf4,sf5]) rfl ⟨_,rfl,made_fin NW NK NV NC (by omega) (by omega) (by omega) (by omega) (by omega) (by omega) (by omega) (by omega) (by omega) (by omega) (by omega) (by omega) (by omega) (by omega) BB (by omega) _ _ _ _ _ _⟩
    exact AllReadyH.nil
   refine cH (fun K hK=>?_) ?_
   ·refine step_zeros elemK rfl (.tmp 12) (.tmp 12) rfl .i64 .i64 _ _ m rfl rfl rfl rfl (by omega) (by unfold maxLen;omega) ?_
    intro gV wV eV zV NV bV;replace NC:=NC.below (eV▸bV);replace NK:=NK.below (eV▸bV);replace BB:=BB.trans (bV.mono (by have:=BB.size;omega));replace BR:=BR.below (eV▸bV);refine hK.out _ _ trivial (fun _=>?_);clear hK K bV
    try simp only [sZ]
    refine wpAnyH_ready (rs:=[4]) (by kernel_rfl) (by simp) ?_;refine cH (fun K hK=>?_) ?_
    ·refine step_zeros elemW rfl (.tmp 8) (.tmp 8) rfl .i64 .i64 _ _ n1 rfl rfl rfl rfl (by omega) (by unfold maxLen;omega) ?_
     intro gW wW eW zW NW bW;replace NC:=NC.below (eW▸bW);replace NK:=NK.below (eW▸bW);replace NV:=NV.below (eW▸bW);replace BB:=BB.trans (bW.mono (by have:=BB.size;omega));replace BR:=BR.below (eW▸bW);refine hK.out _ _ trivial (fun _=>?_);clear hK K bW
     try simp only [sZ]
     refine wpAnyH_take (i:=13) (oi:=Oper.mk _ _ _ _ _ _) (v:=?vl22) rfl (by kernel_rfl) (by kernel_rfl) (by kernel_rfl) (fun _ _ _ h=>h) (Or.inl ⟨by rfl,?hl22⟩) trivial ?rl22
     case hl22 =>
      intro w0 hSw;go_simp
      all_goals with_reducible rfl
     try simp only [sZ]
     have BR':=aq BR;obtain⟨_,s0,s1,s2,s3,s4,s5,sf⟩:=BR;have⟨sf0,sf1,sf2,sf3,sf4,sf5⟩:=sf6 sf;clear sf;refine rdH 14 fun K hK=>?_;go_simp;refine hK.out _ _ trivial (fun _=>?_);refine wpAnyH_done (by kernel_rfl) ?_ _;clear hK K;go_wp2;refine bodyPost_ret (v:=slv (slMade sg n1 m n4) (adsMade gW gK gV gC n1 m n4)) (by simp [results,Tryz.results88,go_sem,slv,slMade,adsMade,s0,s1,s2,s3,s4,s5,sf0,sf1,sf2,sf3,sf4,sf5]) rfl ⟨_,rfl,made_fin NW NK NV NC (by omega) (by omega) (by omega) (by omega) (by omega) (by omega) (by omega) (by omega) (by omega) (by omega) (by omega) (by omega) (by omega) (by omega) BB (by omega) _ _ _ _ _ _⟩
    exact AllReadyH.nil
   exact AllReadyH.nil
  refine cH (fun K hK=>?_) ?_
  ·refine step_zeros elemK rfl (.tmp 12) (.tmp 12) rfl .i64 .i64 _ _ m rfl rfl rfl rfl (by omega) (by unfold maxLen;omega) ?_
   intro gV wV eV zV NV bV;replace NC:=NC.below (eV▸bV);replace BB:=BB.trans (bV.mono (by have:=BB.size;omega));replace BR:=BR.below (eV▸bV);refine hK.out _ _ trivial (fun _=>?_);clear hK K bV
   try simp only [sZ]
   refine wpAnyH_ready (rs:=[4,6]) (by kernel_rfl) (by simp) ?_;refine cH (fun K hK=>?_) ?_
   ·refine step_zeros elemW rfl (.tmp 8) (.tmp 8) rfl .i64 .i64 _ _ n1 rfl rfl rfl rfl (by omega) (by unfold maxLen;omega) ?_
    intro gW wW eW zW NW bW;replace NC:=NC.below (eW▸bW);replace NV:=NV.below (eW▸bW);replace BB:=BB.trans (bW.mono (by have:=BB.size;omega));replace BR:=BR.below (eW▸bW);refine hK.out _ _ trivial (fun _=>?_);clear hK K bW
    try simp only [sZ]
    refine wpAnyH_ready (rs:=[6]) (by kernel_rfl) (by simp) ?_;refine cH (fun K hK=>?_) ?_
    ·refine step_zeros elemK rfl (.tmp 10) (.tmp 10) rfl .i64 .i64 _ _ m rfl rfl rfl rfl (by omega) (by unfold maxLen;omega) ?_
     intro gK wK eK zK NK bK;replace NC:=NC.below (eK▸bK);replace NV:=NV.below (eK▸bK);replace NW:=NW.below (eK▸bK);replace BB:=BB.trans (bK.mono (by have:=BB.size;omega));replace BR:=BR.below (eK▸bK);refine hK.out _ _ trivial (fun _=>?_);clear hK K bK
     try simp only [sZ]
     refine wpAnyH_take (i:=13) (oi:=Oper.mk _ _ _ _ _ _) (v:=?vl23) rfl (by kernel_rfl) (by kernel_rfl) (by kernel_rfl) (fun _ _ _ h=>h) (Or.inl ⟨by rfl,?hl23⟩) trivial ?rl23
     case hl23 =>
      intro w0 hSw;go_simp
      all_goals with_reducible rfl
     try simp only [sZ]
     have BR':=aq BR;obtain⟨_,s0,s1,s2,s3,s4,s5,sf⟩:=BR;have⟨sf0,sf1,sf2,sf3,sf4,sf5⟩:=sf6 sf;clear sf;refine rdH 14 fun K hK=>?_;go_simp;refine hK.out _ _ trivial (fun _=>?_);refine wpAnyH_done (by kernel_rfl) ?_ _;clear hK K;go_wp2;refine bodyPost_ret (v:=slv (slMade sg n1 m n4) (adsMade gW gK gV gC n1 m n4)) (by simp [results,Tryz.results88,go_sem,slv,slMade,adsMade,s0,s1,s2,s3,s4,s5,sf0,sf1,sf2,sf3,sf4,sf5]) rfl ⟨_,rfl,made_fin NW NK NV NC (by omega) (by omega) (by omega) (by omega) (by omega) (by omega) (by omega) (by omega) (by omega) (by omega) (by omega) (by omega) (by omega) (by omega) BB (by omega) _ _ _ _ _ _⟩
    exact AllReadyH.nil
   refine cH (fun K hK=>?_) ?_
   ·refine step_zeros elemK rfl (.tmp 10) (.tmp 10) rfl .i64 .i64 _ _ m rfl rfl rfl rfl (by omega) (by unfold maxLen;omega) ?_
    intro gK wK eK zK NK bK;replace NC:=NC.below (eK▸bK);replace NV:=NV.below (eK▸bK);replace BB:=BB.trans (bK.mono (by have:=BB.size;omega));replace BR:=BR.below (eK▸bK);refine hK.out _ _ trivial (fun _=>?_);clear hK K bK
    try simp only [sZ]
    refine wpAnyH_ready (rs:=[4]) (by kernel_rfl) (by simp) ?_;refine cH (fun K hK=>?_) ?_
    ·refine step_zeros elemW rfl (.tmp 8) (.tmp 8) rfl .i64 .i64 _ _ n1 rfl rfl rfl rfl (by omega) (by unfold maxLen;omega) ?_
     intro gW wW eW zW NW bW;replace NC:=NC.below (eW▸bW);replace NV:=NV.below (eW▸bW);replace NK:=NK.below (eW▸bW);replace BB:=BB.trans (bW.mono (by have:=BB.size;omega));replace BR:=BR.below (eW▸bW);refine hK.out _ _ trivial (fun _=>?_);clear hK K bW
     try simp only [sZ]
     refine wpAnyH_take (i:=13) (oi:=Oper.mk _ _ _ _ _ _) (v:=?vl24) rfl (by kernel_rfl) (by kernel_rfl) (by kernel_rfl) (fun _ _ _ h=>h) (Or.inl ⟨by rfl,?hl24⟩) trivial ?rl24
     case hl24 =>
      intro w0 hSw;go_simp
      all_goals with_reducible rfl
     try simp only [sZ]
     have BR':=aq BR;obtain⟨_,s0,s1,s2,s3,s4,s5,sf⟩:=BR;have⟨sf0,sf1,sf2,sf3,sf4,sf5⟩:=sf6 sf;clear sf;refine rdH 14 fun K hK=>?_;go_simp;refine hK.out _ _ trivial (fun _=>?_);refine wpAnyH_done (by kernel_rfl) ?_ _;clear hK K;go_wp2;refine bodyPost_ret (v:=slv (slMade sg n1 m n4) (adsMade gW gK gV gC n1 m n4)) (by simp [results,Tryz.results88,go_sem,slv,slMade,adsMade,s0,s1,s2,s3,s4,s5,sf0,sf1,sf2,sf3,sf4,sf5]) rfl ⟨_,rfl,made_fin NW NK NV NC (by omega) (by omega) (by omega) (by omega) (by omega) (by omega) (by omega) (by omega) (by omega) (by omega) (by omega) (by omega) (by omega) (by omega) BB (by omega) _ _ _ _ _ _⟩
    exact AllReadyH.nil
   exact AllReadyH.nil
  exact AllReadyH.nil
 exact AllReadyH.nil
theorem empty_made (sg m:Nat):Sl.empty sg m=slMade sg ((m+63)/64) m (m/sg):=by
 unfold Sl.empty slMade
 have h1:(((m:Int)+63)/64).toNat=(m+63)/64:=by omega
 have h2:((m:Int)/(sg:Int)).toNat=m/sg:=by rw [show (m:Int)/(sg:Int)=((m/sg:Nat):Int) from by simp];exact Int.toNat_natCast _
 rw [h1,h2,Int.toNat_natCast]
theorem at_parts {s:Sl} {i:Int} (h:s.atE i=0):s.mayB=true/\0<=i/\i < s.keys.length/\Oc.isB s.words i.toNat=true:=by
 unfold Sl.atE at h
 split at h
 ·rename_i h1
  split at h
  ·rename_i h2
   split at h
   ·rename_i h3
    exact⟨h1,(slot_iff.1 h2).1,(slot_iff.1 h2).2,h3⟩
   ·cases h
  ·cases h
 ·cases h
theorem wiped_keys (s:Sl) (a n:Nat):(s.wiped a n).keys.length=s.keys.length:=by
 induction n with
 | zero=>rfl
 | succ n ih=>show ((s.wiped a n).emptied (a+n)).keys.length=_;rw [emptied_keys,ih]
theorem laidIn_keys (s:Sl) (l:List Int) (ps:List (Int×Int)) (n:Nat):(s.laidIn l ps n).keys.length=s.keys.length:=by
 induction n with
 | zero=>rfl
 | succ n ih=>show ((s.laidIn l ps n).filledAt _ _).keys.length=_;rw [filledAt_keys,ih]
end Go.Proofs.YtpeckljoannolaaGreatDoor

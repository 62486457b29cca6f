/- What New of package slots returns. -/
import Derived.Test.YtpeckljoannolaaGreatDoorTkOt
import Derived.Test.YtpeckljoannolaaGreatDoorM14Ot
set_option linter.unusedVariables false
set_option linter.unusedSimpArgs false
set_option maxHeartbeats 8000000
set_option maxRecDepth 100000
namespace Go.Proofs.YtpeckljoannolaaGreatDoor
open Go.RowKit
theorem sNew_ok (sg m n1 n4:Nat) (w:World) (h1:4<=sg) (h2:sg<=64) (h3:1<=m) (h4:m<=65536) (hn1:n1=(m+63)/64) (hn4:n4=m/sg) (hf:Sl.fitsB sg m=true) :
  Calls Tryz.prog 69 #[.int .i64 (sg:Int),.int .i64 (m:Int)] w (SPost2 (slMade sg n1 m n4) 0 w):=by
 have l1:n1<=65536:=by omega
 have l4:n4<=65536:=by rw [hn4];exact Nat.le_trans (Nat.div_le_self _ _) h4
 have e1:IntKind.i64.wrap ((m:Int)+64-1)=(m:Int)+63:=by rw [show (m:Int)+64-1=(m:Int)+63 from by omega];exact IntWalk.i64_in _ (by omega)
 have e2:IntKind.i64.wrap (((m:Int)+63).tdiv 64)=(n1:Int):=by rw [Int.tdiv_eq_ediv_of_nonneg (by omega),hn1];rw [show ((m:Int)+63)/64=(((m+63)/64:Nat):Int) from by simp];exact IntWalk.i64_in _ (by omega)
 have e3:IntKind.i64.wrap (((m:Int)+63)/64)=(n1:Int):=by rw [<-e2,Int.tdiv_eq_ediv_of_nonneg (by omega)]
 have e6:IntKind.i64.wrap (((m:Int)+64-1).tdiv 64)=(n1:Int):=by rw [show (m:Int)+64-1=(m:Int)+63 from by omega];exact e2
 have e7:IntKind.i64.wrap (((m:Int)+64-1)/64)=(n1:Int):=by rw [show (m:Int)+64-1=(m:Int)+63 from by omega];exact e3
 have e4:IntKind.i64.wrap ((m:Int).tdiv (sg:Int))=(n4:Int):=by rw [Int.tdiv_eq_ediv_of_nonneg (by omega),hn4];rw [show (m:Int)/(sg:Int)=((m/sg:Nat):Int) from by simp];exact IntWalk.i64_in _ (by omega)
 have e5:IntKind.i64.wrap ((m:Int)/(sg:Int))=(n4:Int):=by rw [<-e4,Int.tdiv_eq_ediv_of_nonneg (by omega)]
 have k0:¬ (sg:Int)=0:=by omega
 have k1:¬ sg=0:=by omega
 have q1:((m:Int)+64-1)/64=(n1:Int):=by rw [hn1];omega
 have q2:(m:Int)/(sg:Int)=(n4:Int):=by rw [hn4];simp
 have CM:=aq (fun W=>sMayHave sg m W ⟨by omega,by omega⟩ ⟨by omega,by omega⟩);have HF:=aq hf;have BB0:=aq (show ∀ o,Below w.heap.size w ((w.alloc o).drew) from fun o=>((Below.refl _ _).alloc (Nat.le_refl _) _).drew);have BR0:=aq ((Box.new w Sl.none adsNone 29).below ((Below.refl _ _).drew));have EW:=aq (show IntKind.i64.wrap ((IntKind.i64.wrap (IntKind.i64.wrap ((m:Int)+64)-1)).tdiv 64)=(n1:Int) by rw [show IntKind.i64.wrap ((m:Int)+64)=(m:Int)+64 from IntWalk.i64_in _ (by omega),e1];exact e2);have EC:=aq (show IntKind.i64.wrap (n4:Int)=(n4:Int) from IntWalk.i64_in _ (by omega));clear hn1 hn4 hf
 go_enter Tryz.func69,Tryz.ntmps69
 go_upto_region 3 with (go_at_call 113;refine (CM.out _).mono ?_;rintro e w1 ⟨rfl,rfl⟩;rw [HF.out])
 refine wp_region_held_drew (S:=fun _=>True) (by kernel_rfl) trivial (fun hHeld=>?_);refine wpAnyH_take (i:=0) (oi:=Oper.mk _ _ _ _ _ _) (v:=?v1) rfl (by kernel_rfl) (by kernel_rfl) (by kernel_rfl) (fun _ _ _ h=>h) (Or.inl ⟨by rfl,?hy1⟩) trivial ?rest1
 case hy1 =>
  intro w0 hSw;go_simp
  all_goals with_reducible rfl
 try simp only [sZ]
 refine wpAnyH_take (i:=1) (oi:=Oper.mk _ _ _ _ _ _) (v:=?v2) rfl (by kernel_rfl) (by kernel_rfl) (by kernel_rfl) (fun _ _ _ h=>h) (Or.inl ⟨by rfl,?hy2⟩) trivial ?rest2
 case hy2 =>
  intro w0 hSw;go_simp
  all_goals with_reducible rfl
 try simp only [sZ]
 refine wpAnyH_take (i:=2) (oi:=Oper.mk _ _ _ _ _ _) (v:=?v3) rfl (by kernel_rfl) (by kernel_rfl) (by kernel_rfl) (fun _ _ _ h=>h) (Or.inl ⟨by rfl,?hy3⟩) trivial ?rest3
 case hy3 =>
  intro w0 hSw;go_simp
  all_goals with_reducible rfl
 try simp only [sZ]
 refine wpAnyH_take (i:=3) (oi:=Oper.mk _ _ _ _ _ _) (v:=?v4) rfl (by kernel_rfl) (by kernel_rfl) (by kernel_rfl) (fun _ _ _ h=>h) (Or.inl ⟨by rfl,?hy4⟩) trivial ?rest4
 case hy4 =>
  intro w0 hSw;go_simp
  all_goals with_reducible rfl
 try simp only [sZ]
 refine wpAnyH_take (i:=4) (oi:=Oper.mk _ _ _ _ _ _) (v:=?v5) rfl (by kernel_rfl) (by kernel_rfl) (by kernel_rfl) (fun _ _ _ h=>h) (Or.inl ⟨by rfl,?hy5⟩) trivial ?rest5
 case hy5 =>
  intro w0 hSw;go_simp
  all_goals with_reducible rfl
 try simp only [sZ]
 refine wpAnyH_take (i:=6) (oi:=Oper.mk _ _ _ _ _ _) (v:=?v6) rfl (by kernel_rfl) (by kernel_rfl) (by kernel_rfl) (fun _ _ _ h=>h) (Or.inl ⟨by rfl,?hy6⟩) trivial ?rest6
 case hy6 =>
  intro w0 hSw;go_simp
  all_goals with_reducible rfl
 try simp only [sZ]
 refine wpAnyH_take (i:=8) (oi:=Oper.mk _ _ _ _ _ _) (v:=?v7) rfl (by kernel_rfl) (by kernel_rfl) (by kernel_rfl) (fun _ _ _ h=>h) (Or.inl ⟨by rfl,?hy7⟩) trivial ?rest7
 case hy7 =>
  intro w0 hSw;go_simp
  all_goals with_reducible rfl
 try simp only [sZ]
 refine wpAnyH_take (i:=10) (oi:=Oper.mk _ _ _ _ _ _) (v:=?v8) rfl (by kernel_rfl) (by kernel_rfl) (by kernel_rfl) (fun _ _ _ h=>h) (Or.inl ⟨by rfl,?hy8⟩) trivial ?rest8
 case hy8 =>
  intro w0 hSw;go_simp
  all_goals with_reducible rfl
 try simp only [sZ]
 refine wpAnyH_take (i:=11) (oi:=Oper.mk _ _ _ _ _ _) (v:=?v9) rfl (by kernel_rfl) (by kernel_rfl) (by kernel_rfl) (fun _ _ _ h=>h) (Or.inl ⟨by rfl,?hy9⟩) trivial ?rest9
 case hy9 =>
  intro w0 hSw;go_simp
  all_goals with_reducible rfl
 try simp only [sZ]
 refine wpAnyH_take (i:=12) (oi:=Oper.mk _ _ _ _ _ _) (v:=?v10) rfl (by kernel_rfl) (by kernel_rfl) (by kernel_rfl) (fun _ _ _ h=>h) (Or.inl ⟨by rfl,?hy10⟩) trivial ?rest10
 case hy10 =>
  intro w0 hSw;go_simp
  all_goals with_reducible rfl
 try simp only [sZ]
 clear e1 e2 e3 e4 e5 e6 e7 q1 q2;have BB:=BB0.out (.cells (slCells Sl.none adsNone) 29);have BR:=BR0.out;refine wpAnyH_ready (rs:=[5,7,9,13]) (by kernel_rfl) (by simp) ?_;refine cH (fun K hK=>?_) ?_
 ·refine step_zeros elemW rfl (.tmp 15) (.tmp 15) rfl .i64 .i64 _ _ n1 rfl rfl (by first | rfl | exact EW.out | exact EC.out) (by first | rfl | exact EW.out | exact EC.out) (by omega) (by unfold maxLen;omega) ?_
  intro gW wW eW zW NW bW;replace BB:=BB.trans (bW.mono (by have h9:=eW;simp at h9;omega));replace BR:=BR.below (eW▸bW)
  replace eW:gW=w.heap.size+1:=by rw [eW];simp
  refine hK.out _ _ trivial (fun _=>?_);clear hK K bW
  try simp only [sZ]
  refine wpAnyH_ready (rs:=[7,9,13]) (by kernel_rfl) (by simp) ?_;refine cH (fun K hK=>?_) ?_
  ·refine step_zeros elemK rfl (.tmp 17) (.tmp 17) rfl .i64 .i64 _ _ m rfl rfl (by first | rfl | exact EW.out | exact EC.out) (by first | rfl | exact EW.out | exact EC.out) (by omega) (by unfold maxLen;omega) ?_
   intro gK wK eK zK NK bK;replace NW:=NW.below (eK▸bK);replace BB:=BB.trans (bK.mono (by have:=BB.size;omega));replace BR:=BR.below (eK▸bK);refine hK.out _ _ trivial (fun _=>?_);clear hK K bK
   try simp only [sZ]
   refine wpAnyH_ready (rs:=[9,13]) (by kernel_rfl) (by simp) ?_;refine cH (fun K hK=>?_) ?_
   ·refine step_zeros elemK rfl (.tmp 19) (.tmp 19) rfl .i64 .i64 _ _ m rfl rfl (by first | rfl | exact EW.out | exact EC.out) (by first | rfl | exact EW.out | exact EC.out) (by omega) (by unfold maxLen;omega) ?_
    intro gV wV eV zV NV bV;replace NW:=NW.below (eV▸bV);replace NK:=NK.below (eV▸bV);replace BB:=BB.trans (bV.mono (by have:=BB.size;omega));replace BR:=BR.below (eV▸bV);refine hK.out _ _ trivial (fun _=>?_);clear hK K bV
    try simp only [sZ]
    refine wpAnyH_ready (rs:=[13]) (by kernel_rfl) (by simp) ?_;refine cH (fun K hK=>?_) ?_
    ·refine step_zeros elemI rfl (.tmp 23) (.tmp 23) rfl .i64 .i64 _ _ n4 rfl rfl (by first | rfl | exact EW.out | exact EC.out) (by first | rfl | exact EW.out | exact EC.out) (by omega) (by unfold maxLen;omega) ?_
     intro gC wC eC zC NC bC;replace NW:=NW.below (eC▸bC);replace NK:=NK.below (eC▸bC);replace NV:=NV.below (eC▸bC);replace BB:=BB.trans (bC.mono (by have:=BB.size;omega));replace BR:=BR.below (eC▸bC);refine hK.out _ _ trivial (fun _=>?_);clear hK K bC
     try simp only [sZ]
     refine wpAnyH_take (i:=14) (oi:=Oper.mk _ _ _ _ _ _) (v:=?v11) rfl (by kernel_rfl) (by kernel_rfl) (by kernel_rfl) (fun _ _ _ h=>h) (Or.inl ⟨by rfl,?hy11⟩) trivial ?rest11
     case hy11 =>
      intro w0 hSw;go_simp
      all_goals with_reducible rfl
     try simp only [sZ]
     obtain⟨_,s0,s1,s2,s3,s4,s5,sf⟩:=BR;have⟨sf0,sf1,sf2,sf3,sf4,sf5⟩:=sf6 sf;clear sf;refine rdH 15 fun K hK=>?_;go_simp;refine hK.out _ _ trivial (fun _=>?_);clear hK K
     try simp only [sZ]
     refine rdH 16 fun K hK=>?_;go_simp;refine hK.out _ _ trivial (fun _=>?_);clear hK K;refine wpAnyH_done (by kernel_rfl) ?_ _;go_wp2;refine bodyPost_ret (v:=.tuple #[slv (slMade sg n1 m n4) (adsMade gW gK gV gC n1 m n4),.int .i64 0]) (by simp [results,Tryz.results69,go_sem,slv,slMade,adsMade,s0,s1,s2,s3,s4,s5,sf0,sf1,sf2,sf3,sf4,sf5]) rfl ⟨_,rfl,made_fin NW NK NV NC (by omega) (by omega) (by omega) (by omega) (by omega) (by omega) (by omega) (by omega) (by omega) (by omega) (by omega) (by omega) (by omega) (by omega) BB (by omega) _ _ _ _ _ _⟩
    exact AllReadyH.nil
   refine cH (fun K hK=>?_) ?_
   ·refine step_zeros elemI rfl (.tmp 23) (.tmp 23) rfl .i64 .i64 _ _ n4 rfl rfl (by first | rfl | exact EW.out | exact EC.out) (by first | rfl | exact EW.out | exact EC.out) (by omega) (by unfold maxLen;omega) ?_
    intro gC wC eC zC NC bC;replace NW:=NW.below (eC▸bC);replace NK:=NK.below (eC▸bC);replace BB:=BB.trans (bC.mono (by have:=BB.size;omega));replace BR:=BR.below (eC▸bC);refine hK.out _ _ trivial (fun _=>?_);clear hK K bC
    try simp only [sZ]
    refine wpAnyH_ready (rs:=[9]) (by kernel_rfl) (by simp) ?_;refine cH (fun K hK=>?_) ?_
    ·refine step_zeros elemK rfl (.tmp 19) (.tmp 19) rfl .i64 .i64 _ _ m rfl rfl (by first | rfl | exact EW.out | exact EC.out) (by first | rfl | exact EW.out | exact EC.out) (by omega) (by unfold maxLen;omega) ?_
     intro gV wV eV zV NV bV;replace NW:=NW.below (eV▸bV);replace NK:=NK.below (eV▸bV);replace NC:=NC.below (eV▸bV);replace BB:=BB.trans (bV.mono (by have:=BB.size;omega));replace BR:=BR.below (eV▸bV);refine hK.out _ _ trivial (fun _=>?_);clear hK K bV
     try simp only [sZ]
     refine wpAnyH_take (i:=14) (oi:=Oper.mk _ _ _ _ _ _) (v:=?v12) rfl (by kernel_rfl) (by kernel_rfl) (by kernel_rfl) (fun _ _ _ h=>h) (Or.inl ⟨by rfl,?hy12⟩) trivial ?rest12
     case hy12 =>
      intro w0 hSw;go_simp
      all_goals with_reducible rfl
     try simp only [sZ]
     obtain⟨_,s0,s1,s2,s3,s4,s5,sf⟩:=BR;have⟨sf0,sf1,sf2,sf3,sf4,sf5⟩:=sf6 sf;clear sf;refine rdH 15 fun K hK=>?_;go_simp;refine hK.out _ _ trivial (fun _=>?_);clear hK K
     try simp only [sZ]
     refine rdH 16 fun K hK=>?_;go_simp;refine hK.out _ _ trivial (fun _=>?_);clear hK K;refine wpAnyH_done (by kernel_rfl) ?_ _;go_wp2;refine bodyPost_ret (v:=.tuple #[slv (slMade sg n1 m n4) (adsMade gW gK gV gC n1 m n4),.int .i64 0]) (by simp [results,Tryz.results69,go_sem,slv,slMade,adsMade,s0,s1,s2,s3,s4,s5,sf0,sf1,sf2,sf3,sf4,sf5]) rfl ⟨_,rfl,made_fin NW NK NV NC (by omega) (by omega) (by omega) (by omega) (by omega) (by omega) (by omega) (by omega) (by omega) (by omega) (by omega) (by omega) (by omega) (by omega) BB (by omega) _ _ _ _ _ _⟩
    exact AllReadyH.nil
   exact AllReadyH.nil
  refine cH (fun K hK=>?_) ?_
  ·refine step_zeros elemK rfl (.tmp 19) (.tmp 19) rfl .i64 .i64 _ _ m rfl rfl (by first | rfl | exact EW.out | exact EC.out) (by first | rfl | exact EW.out | exact EC.out) (by omega) (by unfold maxLen;omega) ?_
   intro gV wV eV zV NV bV;replace NW:=NW.below (eV▸bV);replace BB:=BB.trans (bV.mono (by have:=BB.size;omega));replace BR:=BR.below (eV▸bV);refine hK.out _ _ trivial (fun _=>?_);clear hK K bV
   try simp only [sZ]
   refine wpAnyH_ready (rs:=[7,13]) (by kernel_rfl) (by simp) ?_;refine cH (fun K hK=>?_) ?_
   ·refine step_zeros elemK rfl (.tmp 17) (.tmp 17) rfl .i64 .i64 _ _ m rfl rfl (by first | rfl | exact EW.out | exact EC.out) (by first | rfl | exact EW.out | exact EC.out) (by omega) (by unfold maxLen;omega) ?_
    intro gK wK eK zK NK bK;replace NW:=NW.below (eK▸bK);replace NV:=NV.below (eK▸bK);replace BB:=BB.trans (bK.mono (by have:=BB.size;omega));replace BR:=BR.below (eK▸bK);refine hK.out _ _ trivial (fun _=>?_);clear hK K bK
    try simp only [sZ]
    refine wpAnyH_ready (rs:=[13]) (by kernel_rfl) (by simp) ?_;refine cH (fun K hK=>?_) ?_
    ·refine step_zeros elemI rfl (.tmp 23) (.tmp 23) rfl .i64 .i64 _ _ n4 rfl rfl (by first | rfl | exact EW.out | exact EC.out) (by first | rfl | exact EW.out | exact EC.out) (by omega) (by unfold maxLen;omega) ?_
     intro gC wC eC zC NC bC;replace NW:=NW.below (eC▸bC);replace NV:=NV.below (eC▸bC);replace NK:=NK.below (eC▸bC);replace BB:=BB.trans (bC.mono (by have:=BB.size;omega));replace BR:=BR.below (eC▸bC);refine hK.out _ _ trivial (fun _=>?_);clear hK K bC
     try simp only [sZ]
     refine wpAnyH_take (i:=14) (oi:=Oper.mk _ _ _ _ _ _) (v:=?v13) rfl (by kernel_rfl) (by kernel_rfl) (by kernel_rfl) (fun _ _ _ h=>h) (Or.inl ⟨by rfl,?hy13⟩) trivial ?rest13
     case hy13 =>
      intro w0 hSw;go_simp
      all_goals with_reducible rfl
     try simp only [sZ]
     obtain⟨_,s0,s1,s2,s3,s4,s5,sf⟩:=BR;have⟨sf0,sf1,sf2,sf3,sf4,sf5⟩:=sf6 sf;clear sf;refine rdH 15 fun K hK=>?_;go_simp;refine hK.out _ _ trivial (fun _=>?_);clear hK K
     try simp only [sZ]
     refine rdH 16 fun K hK=>?_;go_simp;refine hK.out _ _ trivial (fun _=>?_);clear hK K;refine wpAnyH_done (by kernel_rfl) ?_ _;go_wp2;refine bodyPost_ret (v:=.tuple #[slv (slMade sg n1 m n4) (adsMade gW gK gV gC n1 m n4),.int .i64 0]) (by simp [results,Tryz.results69,go_sem,slv,slMade,adsMade,s0,s1,s2,s3,s4,s5,sf0,sf1,sf2,sf3,sf4,sf5]) rfl ⟨_,rfl,made_fin NW NK NV NC (by omega) (by omega) (by omega) (by omega) (by omega) (by omega) (by omega) (by omega) (by omega) (by omega) (by omega) (by omega) (by omega) (by omega) BB (by omega) _ _ _ _ _ _⟩
    exact AllReadyH.nil
   refine cH (fun K hK=>?_) ?_
   ·refine step_zeros elemI rfl (.tmp 23) (.tmp 23) rfl .i64 .i64 _ _ n4 rfl rfl (by first | rfl | exact EW.out | exact EC.out) (by first | rfl | exact EW.out | exact EC.out) (by omega) (by unfold maxLen;omega) ?_
    intro gC wC eC zC NC bC;replace NW:=NW.below (eC▸bC);replace NV:=NV.below (eC▸bC);replace BB:=BB.trans (bC.mono (by have:=BB.size;omega));replace BR:=BR.below (eC▸bC);refine hK.out _ _ trivial (fun _=>?_);clear hK K bC
    try simp only [sZ]
    refine wpAnyH_ready (rs:=[7]) (by kernel_rfl) (by simp) ?_;refine cH (fun K hK=>?_) ?_
    ·refine step_zeros elemK rfl (.tmp 17) (.tmp 17) rfl .i64 .i64 _ _ m rfl rfl (by first | rfl | exact EW.out | exact EC.out) (by first | rfl | exact EW.out | exact EC.out) (by omega) (by unfold maxLen;omega) ?_
     intro gK wK eK zK NK bK;replace NW:=NW.below (eK▸bK);replace NV:=NV.below (eK▸bK);replace NC:=NC.below (eK▸bK);replace BB:=BB.trans (bK.mono (by have:=BB.size;omega));replace BR:=BR.below (eK▸bK);refine hK.out _ _ trivial (fun _=>?_);clear hK K bK
     try simp only [sZ]
     refine wpAnyH_take (i:=14) (oi:=Oper.mk _ _ _ _ _ _) (v:=?v14) rfl (by kernel_rfl) (by kernel_rfl) (by kernel_rfl) (fun _ _ _ h=>h) (Or.inl ⟨by rfl,?hy14⟩) trivial ?rest14
     case hy14 =>
      intro w0 hSw;go_simp
      all_goals with_reducible rfl
     try simp only [sZ]
     obtain⟨_,s0,s1,s2,s3,s4,s5,sf⟩:=BR;have⟨sf0,sf1,sf2,sf3,sf4,sf5⟩:=sf6 sf;clear sf;refine rdH 15 fun K hK=>?_;go_simp;refine hK.out _ _ trivial (fun _=>?_);clear hK K
     try simp only [sZ]
     refine rdH 16 fun K hK=>?_;go_simp;refine hK.out _ _ trivial (fun _=>?_);clear hK K;refine wpAnyH_done (by kernel_rfl) ?_ _;go_wp2;refine bodyPost_ret (v:=.tuple #[slv (slMade sg n1 m n4) (adsMade gW gK gV gC n1 m n4),.int .i64 0]) (by simp [results,Tryz.results69,go_sem,slv,slMade,adsMade,s0,s1,s2,s3,s4,s5,sf0,sf1,sf2,sf3,sf4,sf5]) rfl ⟨_,rfl,made_fin NW NK NV NC (by omega) (by omega) (by omega) (by omega) (by omega) (by omega) (by omega) (by omega) (by omega) (by omega) (by omega) (by omega) (by omega) (by omega) BB (by omega) _ _ _ _ _ _⟩
    exact AllReadyH.nil
   exact AllReadyH.nil
  refine cH (fun K hK=>?_) ?_
  ·refine step_zeros elemI rfl (.tmp 23) (.tmp 23) rfl .i64 .i64 _ _ n4 rfl rfl (by first | rfl | exact EW.out | exact EC.out) (by first | rfl | exact EW.out | exact EC.out) (by omega) (by unfold maxLen;omega) ?_
   intro gC wC eC zC NC bC;replace NW:=NW.below (eC▸bC);replace BB:=BB.trans (bC.mono (by have:=BB.size;omega));replace BR:=BR.below (eC▸bC);refine hK.out _ _ trivial (fun _=>?_);clear hK K bC
   try simp only [sZ]
   refine wpAnyH_ready (rs:=[7,9]) (by kernel_rfl) (by simp) ?_;refine cH (fun K hK=>?_) ?_
   ·refine step_zeros elemK rfl (.tmp 17) (.tmp 17) rfl .i64 .i64 _ _ m rfl rfl (by first | rfl | exact EW.out | exact EC.out) (by first | rfl | exact EW.out | exact EC.out) (by omega) (by unfold maxLen;omega) ?_
    intro gK wK eK zK NK bK;replace NW:=NW.below (eK▸bK);replace NC:=NC.below (eK▸bK);replace BB:=BB.trans (bK.mono (by have:=BB.size;omega));replace BR:=BR.below (eK▸bK);refine hK.out _ _ trivial (fun _=>?_);clear hK K bK
    try simp only [sZ]
    refine wpAnyH_ready (rs:=[9]) (by kernel_rfl) (by simp) ?_;refine cH (fun K hK=>?_) ?_
    ·refine step_zeros elemK rfl (.tmp 19) (.tmp 19) rfl .i64 .i64 _ _ m rfl rfl (by first | rfl | exact EW.out | exact EC.out) (by first | rfl | exact EW.out | exact EC.out) (by omega) (by unfold maxLen;omega) ?_
     intro gV wV eV zV NV bV;replace NW:=NW.below (eV▸bV);replace NC:=NC.below (eV▸bV);replace NK:=NK.below (eV▸bV);replace BB:=BB.trans (bV.mono (by have:=BB.size;omega));replace BR:=BR.below (eV▸bV);refine hK.out _ _ trivial (fun _=>?_);clear hK K bV
     try simp only [sZ]
     refine wpAnyH_take (i:=14) (oi:=Oper.mk _ _ _ _ _ _) (v:=?v15) rfl (by kernel_rfl) (by kernel_rfl) (by kernel_rfl) (fun _ _ _ h=>h) (Or.inl ⟨by rfl,?hy15⟩) trivial ?rest15
     case hy15 =>
      intro w0 hSw;go_simp
      all_goals with_reducible rfl
     try simp only [sZ]
     obtain⟨_,s0,s1,s2,s3,s4,s5,sf⟩:=BR;have⟨sf0,sf1,sf2,sf3,sf4,sf5⟩:=sf6 sf;clear sf;refine rdH 15 fun K hK=>?_;go_simp;refine hK.out _ _ trivial (fun _=>?_);clear hK K
     try simp only [sZ]
     refine rdH 16 fun K hK=>?_;go_simp;refine hK.out _ _ trivial (fun _=>?_);clear hK K;refine wpAnyH_done (by kernel_rfl) ?_ _;go_wp2;refine bodyPost_ret (v:=.tuple #[slv (slMade sg n1 m n4) (adsMade gW gK gV gC n1 m n4),.int .i64 0]) (by simp [results,Tryz.results69,go_sem,slv,slMade,adsMade,s0,s1,s2,s3,s4,s5,sf0,sf1,sf2,sf3,sf4,sf5]) rfl ⟨_,rfl,made_fin NW NK NV NC (by omega) (by omega) (by omega) (by omega) (by omega) (by omega) (by omega) (by omega) (by omega) (by omega) (by omega) (by omega) (by omega) (by omega) BB (by omega) _ _ _ _ _ _⟩
    exact AllReadyH.nil
   refine cH (fun K hK=>?_) ?_
   ·refine step_zeros elemK rfl (.tmp 19) (.tmp 19) rfl .i64 .i64 _ _ m rfl rfl (by first | rfl | exact EW.out | exact EC.out) (by first | rfl | exact EW.out | exact EC.out) (by omega) (by unfold maxLen;omega) ?_
    intro gV wV eV zV NV bV;replace NW:=NW.below (eV▸bV);replace NC:=NC.below (eV▸bV);replace BB:=BB.trans (bV.mono (by have:=BB.size;omega));replace BR:=BR.below (eV▸bV);refine hK.out _ _ trivial (fun _=>?_);clear hK K bV
    try simp only [sZ]
    refine wpAnyH_ready (rs:=[7]) (by kernel_rfl) (by simp) ?_;refine cH (fun K hK=>?_) ?_
    ·refine step_zeros elemK rfl (.tmp 17) (.tmp 17) rfl .i64 .i64 _ _ m rfl rfl (by first | rfl | exact EW.out | exact EC.out) (by first | rfl | exact EW.out | exact EC.out) (by omega) (by unfold maxLen;omega) ?_
     intro gK wK eK zK NK bK;replace NW:=NW.below (eK▸bK);replace NC:=NC.below (eK▸bK);replace NV:=NV.below (eK▸bK);replace BB:=BB.trans (bK.mono (by have:=BB.size;omega));replace BR:=BR.below (eK▸bK);refine hK.out _ _ trivial (fun _=>?_);clear hK K bK
     try simp only [sZ]
     refine wpAnyH_take (i:=14) (oi:=Oper.mk _ _ _ _ _ _) (v:=?v16) rfl (by kernel_rfl) (by kernel_rfl) (by kernel_rfl) (fun _ _ _ h=>h) (Or.inl ⟨by rfl,?hy16⟩) trivial ?rest16
     case hy16 =>
      intro w0 hSw;go_simp
      all_goals with_reducible rfl
     try simp only [sZ]
     obtain⟨_,s0,s1,s2,s3,s4,s5,sf⟩:=BR;have⟨sf0,sf1,sf2,sf3,sf4,sf5⟩:=sf6 sf;clear sf;refine rdH 15 fun K hK=>?_;go_simp;refine hK.out _ _ trivial (fun _=>?_);clear hK K
     try simp only [sZ]
     refine rdH 16 fun K hK=>?_;go_simp;refine hK.out _ _ trivial (fun _=>?_);clear hK K;refine wpAnyH_done (by kernel_rfl) ?_ _;go_wp2;refine bodyPost_ret (v:=.tuple #[slv (slMade sg n1 m n4) (adsMade gW gK gV gC n1 m n4),.int .i64 0]) (by simp [results,Tryz.results69,go_sem,slv,slMade,adsMade,s0,s1,s2,s3,s4,s5,sf0,sf1,sf2,sf3,sf4,sf5]) rfl ⟨_,rfl,made_fin NW NK NV NC (by omega) (by omega) (by omega) (by omega) (by omega) (by omega) (by omega) (by omega) (by omega) (by omega) (by omega) (by omega) (by omega) (by omega) BB (by omega) _ _ _ _ _ _⟩
    exact AllReadyH.nil
   exact AllReadyH.nil
  exact AllReadyH.nil
 refine cH (fun K hK=>?_) ?_
 ·refine step_zeros elemK rfl (.tmp 17) (.tmp 17) rfl .i64 .i64 _ _ m rfl rfl (by first | rfl | exact EW.out | exact EC.out) (by first | rfl | exact EW.out | exact EC.out) (by omega) (by unfold maxLen;omega) ?_
  intro gK wK eK zK NK bK;replace BB:=BB.trans (bK.mono (by have h9:=eK;simp at h9;omega));replace BR:=BR.below (eK▸bK)
  replace eK:gK=w.heap.size+1:=by rw [eK];simp
  refine hK.out _ _ trivial (fun _=>?_);clear hK K bK
  try simp only [sZ]
  refine wpAnyH_ready (rs:=[5,9,13]) (by kernel_rfl) (by simp) ?_;refine cH (fun K hK=>?_) ?_
  ·refine step_zeros elemW rfl (.tmp 15) (.tmp 15) rfl .i64 .i64 _ _ n1 rfl rfl (by first | rfl | exact EW.out | exact EC.out) (by first | rfl | exact EW.out | exact EC.out) (by omega) (by unfold maxLen;omega) ?_
   intro gW wW eW zW NW bW;replace NK:=NK.below (eW▸bW);replace BB:=BB.trans (bW.mono (by have:=BB.size;omega));replace BR:=BR.below (eW▸bW);refine hK.out _ _ trivial (fun _=>?_);clear hK K bW
   try simp only [sZ]
   refine wpAnyH_ready (rs:=[9,13]) (by kernel_rfl) (by simp) ?_;refine cH (fun K hK=>?_) ?_
   ·refine step_zeros elemK rfl (.tmp 19) (.tmp 19) rfl .i64 .i64 _ _ m rfl rfl (by first | rfl | exact EW.out | exact EC.out) (by first | rfl | exact EW.out | exact EC.out) (by omega) (by unfold maxLen;omega) ?_
    intro gV wV eV zV NV bV;replace NK:=NK.below (eV▸bV);replace NW:=NW.below (eV▸bV);replace BB:=BB.trans (bV.mono (by have:=BB.size;omega));replace BR:=BR.below (eV▸bV);refine hK.out _ _ trivial (fun _=>?_);clear hK K bV
    try simp only [sZ]
    refine wpAnyH_ready (rs:=[13]) (by kernel_rfl) (by simp) ?_;refine cH (fun K hK=>?_) ?_
    ·refine step_zeros elemI rfl (.tmp 23) (.tmp 23) rfl .i64 .i64 _ _ n4 rfl rfl (by first | rfl | exact EW.out | exact EC.out) (by first | rfl | exact EW.out | exact EC.out) (by omega) (by unfold maxLen;omega) ?_
     intro gC wC eC zC NC bC;replace NK:=NK.below (eC▸bC);replace NW:=NW.below (eC▸bC);replace NV:=NV.below (eC▸bC);replace BB:=BB.trans (bC.mono (by have:=BB.size;omega));replace BR:=BR.below (eC▸bC);refine hK.out _ _ trivial (fun _=>?_);clear hK K bC
     try simp only [sZ]
     refine wpAnyH_take (i:=14) (oi:=Oper.mk _ _ _ _ _ _) (v:=?v17) rfl (by kernel_rfl) (by kernel_rfl) (by kernel_rfl) (fun _ _ _ h=>h) (Or.inl ⟨by rfl,?hy17⟩) trivial ?rest17
     case hy17 =>
      intro w0 hSw;go_simp
      all_goals with_reducible rfl
     try simp only [sZ]
     obtain⟨_,s0,s1,s2,s3,s4,s5,sf⟩:=BR;have⟨sf0,sf1,sf2,sf3,sf4,sf5⟩:=sf6 sf;clear sf;refine rdH 15 fun K hK=>?_;go_simp;refine hK.out _ _ trivial (fun _=>?_);clear hK K
     try simp only [sZ]
     refine rdH 16 fun K hK=>?_;go_simp;refine hK.out _ _ trivial (fun _=>?_);clear hK K;refine wpAnyH_done (by kernel_rfl) ?_ _;go_wp2;refine bodyPost_ret (v:=.tuple #[slv (slMade sg n1 m n4) (adsMade gW gK gV gC n1 m n4),.int .i64 0]) (by simp [results,Tryz.results69,go_sem,slv,slMade,adsMade,s0,s1,s2,s3,s4,s5,sf0,sf1,sf2,sf3,sf4,sf5]) rfl ⟨_,rfl,made_fin NW NK NV NC (by omega) (by omega) (by omega) (by omega) (by omega) (by omega) (by omega) (by omega) (by omega) (by omega) (by omega) (by omega) (by omega) (by omega) BB (by omega) _ _ _ _ _ _⟩
    exact AllReadyH.nil
   refine cH (fun K hK=>?_) ?_
   ·refine step_zeros elemI rfl (.tmp 23) (.tmp 23) rfl .i64 .i64 _ _ n4 rfl rfl (by first | rfl | exact EW.out | exact EC.out) (by first | rfl | exact EW.out | exact EC.out) (by omega) (by unfold maxLen;omega) ?_
    intro gC wC eC zC NC bC;replace NK:=NK.below (eC▸bC);replace NW:=NW.below (eC▸bC);replace BB:=BB.trans (bC.mono (by have:=BB.size;omega));replace BR:=BR.below (eC▸bC);refine hK.out _ _ trivial (fun _=>?_);clear hK K bC
    try simp only [sZ]
    refine wpAnyH_ready (rs:=[9]) (by kernel_rfl) (by simp) ?_;refine cH (fun K hK=>?_) ?_
    ·refine step_zeros elemK rfl (.tmp 19) (.tmp 19) rfl .i64 .i64 _ _ m rfl rfl (by first | rfl | exact EW.out | exact EC.out) (by first | rfl | exact EW.out | exact EC.out) (by omega) (by unfold maxLen;omega) ?_
     intro gV wV eV zV NV bV;replace NK:=NK.below (eV▸bV);replace NW:=NW.below (eV▸bV);replace NC:=NC.below (eV▸bV);replace BB:=BB.trans (bV.mono (by have:=BB.size;omega));replace BR:=BR.below (eV▸bV);refine hK.out _ _ trivial (fun _=>?_);clear hK K bV
     try simp only [sZ]
     refine wpAnyH_take (i:=14) (oi:=Oper.mk _ _ _ _ _ _) (v:=?v18) rfl (by kernel_rfl) (by kernel_rfl) (by kernel_rfl) (fun _ _ _ h=>h) (Or.inl ⟨by rfl,?hy18⟩) trivial ?rest18
     case hy18 =>
      intro w0 hSw;go_simp
      all_goals with_reducible rfl
     try simp only [sZ]
     obtain⟨_,s0,s1,s2,s3,s4,s5,sf⟩:=BR;have⟨sf0,sf1,sf2,sf3,sf4,sf5⟩:=sf6 sf;clear sf;refine rdH 15 fun K hK=>?_;go_simp;refine hK.out _ _ trivial (fun _=>?_);clear hK K
     try simp only [sZ]
     refine rdH 16 fun K hK=>?_;go_simp;refine hK.out _ _ trivial (fun _=>?_);clear hK K;refine wpAnyH_done (by kernel_rfl) ?_ _;go_wp2;refine bodyPost_ret (v:=.tuple #[slv (slMade sg n1 m n4) (adsMade gW gK gV gC n1 m n4),.int .i64 0]) (by simp [results,Tryz.results69,go_sem,slv,slMade,adsMade,s0,s1,s2,s3,s4,s5,sf0,sf1,sf2,sf3,sf4,sf5]) rfl ⟨_,rfl,made_fin NW NK NV NC (by omega) (by omega) (by omega) (by omega) (by omega) (by omega) (by omega) (by omega) (by omega) (by omega) (by omega) (by omega) (by omega) (by omega) BB (by omega) _ _ _ _ _ _⟩
    exact AllReadyH.nil
   exact AllReadyH.nil
  refine cH (fun K hK=>?_) ?_
  ·refine step_zeros elemK rfl (.tmp 19) (.tmp 19) rfl .i64 .i64 _ _ m rfl rfl (by first | rfl | exact EW.out | exact EC.out) (by first | rfl | exact EW.out | exact EC.out) (by omega) (by unfold maxLen;omega) ?_
   intro gV wV eV zV NV bV;replace NK:=NK.below (eV▸bV);replace BB:=BB.trans (bV.mono (by have:=BB.size;omega));replace BR:=BR.below (eV▸bV);refine hK.out _ _ trivial (fun _=>?_);clear hK K bV
   try simp only [sZ]
   refine wpAnyH_ready (rs:=[5,13]) (by kernel_rfl) (by simp) ?_;refine cH (fun K hK=>?_) ?_
   ·refine step_zeros elemW rfl (.tmp 15) (.tmp 15) rfl .i64 .i64 _ _ n1 rfl rfl (by first | rfl | exact EW.out | exact EC.out) (by first | rfl | exact EW.out | exact EC.out) (by omega) (by unfold maxLen;omega) ?_
    intro gW wW eW zW NW bW;replace NK:=NK.below (eW▸bW);replace NV:=NV.below (eW▸bW);replace BB:=BB.trans (bW.mono (by have:=BB.size;omega));replace BR:=BR.below (eW▸bW);refine hK.out _ _ trivial (fun _=>?_);clear hK K bW
    try simp only [sZ]
    refine wpAnyH_ready (rs:=[13]) (by kernel_rfl) (by simp) ?_;refine cH (fun K hK=>?_) ?_
    ·refine step_zeros elemI rfl (.tmp 23) (.tmp 23) rfl .i64 .i64 _ _ n4 rfl rfl (by first | rfl | exact EW.out | exact EC.out) (by first | rfl | exact EW.out | exact EC.out) (by omega) (by unfold maxLen;omega) ?_
     intro gC wC eC zC NC bC;replace NK:=NK.below (eC▸bC);replace NV:=NV.below (eC▸bC);replace NW:=NW.below (eC▸bC);replace BB:=BB.trans (bC.mono (by have:=BB.size;omega));replace BR:=BR.below (eC▸bC);refine hK.out _ _ trivial (fun _=>?_);clear hK K bC
     try simp only [sZ]
     refine wpAnyH_take (i:=14) (oi:=Oper.mk _ _ _ _ _ _) (v:=?v19) rfl (by kernel_rfl) (by kernel_rfl) (by kernel_rfl) (fun _ _ _ h=>h) (Or.inl ⟨by rfl,?hy19⟩) trivial ?rest19
     case hy19 =>
      intro w0 hSw;go_simp
      all_goals with_reducible rfl
     try simp only [sZ]
     obtain⟨_,s0,s1,s2,s3,s4,s5,sf⟩:=BR;have⟨sf0,sf1,sf2,sf3,sf4,sf5⟩:=sf6 sf;clear sf;refine rdH 15 fun K hK=>?_;go_simp;refine hK.out _ _ trivial (fun _=>?_);clear hK K
     try simp only [sZ]
     refine rdH 16 fun K hK=>?_;go_simp;refine hK.out _ _ trivial (fun _=>?_);clear hK K;refine wpAnyH_done (by kernel_rfl) ?_ _;go_wp2;refine bodyPost_ret (v:=.tuple #[slv (slMade sg n1 m n4) (adsMade gW gK gV gC n1 m n4),.int .i64 0]) (by simp [results,Tryz.results69,go_sem,slv,slMade,adsMade,s0,s1,s2,s3,s4,s5,sf0,sf1,sf2,sf3,sf4,sf5]) rfl ⟨_,rfl,made_fin NW NK NV NC (by omega) (by omega) (by omega) (by omega) (by omega) (by omega) (by omega) (by omega) (by omega) (by omega) (by omega) (by omega) (by omega) (by omega) BB (by omega) _ _ _ _ _ _⟩
    exact AllReadyH.nil
   refine cH (fun K hK=>?_) ?_
   ·refine step_zeros elemI rfl (.tmp 23) (.tmp 23) rfl .i64 .i64 _ _ n4 rfl rfl (by first | rfl | exact EW.out | exact EC.out) (by first | rfl | exact EW.out | exact EC.out) (by omega) (by unfold maxLen;omega) ?_
    intro gC wC eC zC NC bC;replace NK:=NK.below (eC▸bC);replace NV:=NV.below (eC▸bC);replace BB:=BB.trans (bC.mono (by have:=BB.size;omega));replace BR:=BR.below (eC▸bC);refine hK.out _ _ trivial (fun _=>?_);clear hK K bC
    try simp only [sZ]
    refine wpAnyH_ready (rs:=[5]) (by kernel_rfl) (by simp) ?_;refine cH (fun K hK=>?_) ?_
    ·refine step_zeros elemW rfl (.tmp 15) (.tmp 15) rfl .i64 .i64 _ _ n1 rfl rfl (by first | rfl | exact EW.out | exact EC.out) (by first | rfl | exact EW.out | exact EC.out) (by omega) (by unfold maxLen;omega) ?_
     intro gW wW eW zW NW bW;replace NK:=NK.below (eW▸bW);replace NV:=NV.below (eW▸bW);replace NC:=NC.below (eW▸bW);replace BB:=BB.trans (bW.mono (by have:=BB.size;omega));replace BR:=BR.below (eW▸bW);refine hK.out _ _ trivial (fun _=>?_);clear hK K bW
     try simp only [sZ]
     refine wpAnyH_take (i:=14) (oi:=Oper.mk _ _ _ _ _ _) (v:=?v20) rfl (by kernel_rfl) (by kernel_rfl) (by kernel_rfl) (fun _ _ _ h=>h) (Or.inl ⟨by rfl,?hy20⟩) trivial ?rest20
     case hy20 =>
      intro w0 hSw;go_simp
      all_goals with_reducible rfl
     try simp only [sZ]
     obtain⟨_,s0,s1,s2,s3,s4,s5,sf⟩:=BR;have⟨sf0,sf1,sf2,sf3,sf4,sf5⟩:=sf6 sf;clear sf;refine rdH 15 fun K hK=>?_;go_simp;refine hK.out _ _ trivial (fun _=>?_);clear hK K
     try simp only [sZ]
     refine rdH 16 fun K hK=>?_;go_simp;refine hK.out _ _ trivial (fun _=>?_);clear hK K;refine wpAnyH_done (by kernel_rfl) ?_ _;go_wp2;refine bodyPost_ret (v:=.tuple #[slv (slMade sg n1 m n4) (adsMade gW gK gV gC n1 m n4),.int .i64 0]) (by simp [results,Tryz.results69,go_sem,slv,slMade,adsMade,s0,s1,s2,s3,s4,s5,sf0,sf1,sf2,sf3,sf4,sf5]) rfl ⟨_,rfl,made_fin NW NK NV NC (by omega) (by omega) (by omega) (by omega) (by omega) (by omega) (by omega) (by omega) (by omega) (by omega) (by omega) (by omega) (by omega) (by omega) BB (by omega) _ _ _ _ _ _⟩
    exact AllReadyH.nil
   exact AllReadyH.nil
  refine cH (fun K hK=>?_) ?_
  ·refine step_zeros elemI rfl (.tmp 23) (.tmp 23) rfl .i64 .i64 _ _ n4 rfl rfl (by first | rfl | exact EW.out | exact EC.out) (by first | rfl | exact EW.out | exact EC.out) (by omega) (by unfold maxLen;omega) ?_
   intro gC wC eC zC NC bC;replace NK:=NK.below (eC▸bC);replace BB:=BB.trans (bC.mono (by have:=BB.size;omega));replace BR:=BR.below (eC▸bC);refine hK.out _ _ trivial (fun _=>?_);clear hK K bC
   try simp only [sZ]
   refine wpAnyH_ready (rs:=[5,9]) (by kernel_rfl) (by simp) ?_;refine cH (fun K hK=>?_) ?_
   ·refine step_zeros elemW rfl (.tmp 15) (.tmp 15) rfl .i64 .i64 _ _ n1 rfl rfl (by first | rfl | exact EW.out | exact EC.out) (by first | rfl | exact EW.out | exact EC.out) (by omega) (by unfold maxLen;omega) ?_
    intro gW wW eW zW NW bW;replace NK:=NK.below (eW▸bW);replace NC:=NC.below (eW▸bW);replace BB:=BB.trans (bW.mono (by have:=BB.size;omega));replace BR:=BR.below (eW▸bW);refine hK.out _ _ trivial (fun _=>?_);clear hK K bW
    try simp only [sZ]
    refine wpAnyH_ready (rs:=[9]) (by kernel_rfl) (by simp) ?_;refine cH (fun K hK=>?_) ?_
    ·refine step_zeros elemK rfl (.tmp 19) (.tmp 19) rfl .i64 .i64 _ _ m rfl rfl (by first | rfl | exact EW.out | exact EC.out) (by first | rfl | exact EW.out | exact EC.out) (by omega) (by unfold maxLen;omega) ?_
     intro gV wV eV zV NV bV;replace NK:=NK.below (eV▸bV);replace NC:=NC.below (eV▸bV);replace NW:=NW.below (eV▸bV);replace BB:=BB.trans (bV.mono (by have:=BB.size;omega));replace BR:=BR.below (eV▸bV);refine hK.out _ _ trivial (fun _=>?_);clear hK K bV
     try simp only [sZ]
     refine wpAnyH_take (i:=14) (oi:=Oper.mk _ _ _ _ _ _) (v:=?v21) rfl (by kernel_rfl) (by kernel_rfl) (by kernel_rfl) (fun _ _ _ h=>h) (Or.inl ⟨by rfl,?hy21⟩) trivial ?rest21
     case hy21 =>
      intro w0 hSw;go_simp
      all_goals with_reducible rfl
     try simp only [sZ]
     obtain⟨_,s0,s1,s2,s3,s4,s5,sf⟩:=BR;have⟨sf0,sf1,sf2,sf3,sf4,sf5⟩:=sf6 sf;clear sf;refine rdH 15 fun K hK=>?_;go_simp;refine hK.out _ _ trivial (fun _=>?_);clear hK K
     try simp only [sZ]
     refine rdH 16 fun K hK=>?_;go_simp;refine hK.out _ _ trivial (fun _=>?_);clear hK K;refine wpAnyH_done (by kernel_rfl) ?_ _;go_wp2;refine bodyPost_ret (v:=.tuple #[slv (slMade sg n1 m n4) (adsMade gW gK gV gC n1 m n4),.int .i64 0]) (by simp [results,Tryz.results69,go_sem,slv,slMade,adsMade,s0,s1,s2,s3,s4,s5,sf0,sf1,sf2,sf3,sf4,sf5]) rfl ⟨_,rfl,made_fin NW NK NV NC (by omega) (by omega) (by omega) (by omega) (by omega) (by omega) (by omega) (by omega) (by omega) (by omega) (by omega) (by omega) (by omega) (by omega) BB (by omega) _ _ _ _ _ _⟩
    exact AllReadyH.nil
   refine cH (fun K hK=>?_) ?_
   ·refine step_zeros elemK rfl (.tmp 19) (.tmp 19) rfl .i64 .i64 _ _ m rfl rfl (by first | rfl | exact EW.out | exact EC.out) (by first | rfl | exact EW.out | exact EC.out) (by omega) (by unfold maxLen;omega) ?_
    intro gV wV eV zV NV bV;replace NK:=NK.below (eV▸bV);replace NC:=NC.below (eV▸bV);replace BB:=BB.trans (bV.mono (by have:=BB.size;omega));replace BR:=BR.below (eV▸bV);refine hK.out _ _ trivial (fun _=>?_);clear hK K bV
    try simp only [sZ]
    refine wpAnyH_ready (rs:=[5]) (by kernel_rfl) (by simp) ?_;refine cH (fun K hK=>?_) ?_
    ·refine step_zeros elemW rfl (.tmp 15) (.tmp 15) rfl .i64 .i64 _ _ n1 rfl rfl (by first | rfl | exact EW.out | exact EC.out) (by first | rfl | exact EW.out | exact EC.out) (by omega) (by unfold maxLen;omega) ?_
     intro gW wW eW zW NW bW;replace NK:=NK.below (eW▸bW);replace NC:=NC.below (eW▸bW);replace NV:=NV.below (eW▸bW);replace BB:=BB.trans (bW.mono (by have:=BB.size;omega));replace BR:=BR.below (eW▸bW);refine hK.out _ _ trivial (fun _=>?_);clear hK K bW
     try simp only [sZ]
     refine wpAnyH_take (i:=14) (oi:=Oper.mk _ _ _ _ _ _) (v:=?v22) rfl (by kernel_rfl) (by kernel_rfl) (by kernel_rfl) (fun _ _ _ h=>h) (Or.inl ⟨by rfl,?hy22⟩) trivial ?rest22
     case hy22 =>
      intro w0 hSw;go_simp
      all_goals with_reducible rfl
     try simp only [sZ]
     obtain⟨_,s0,s1,s2,s3,s4,s5,sf⟩:=BR;have⟨sf0,sf1,sf2,sf3,sf4,sf5⟩:=sf6 sf;clear sf;refine rdH 15 fun K hK=>?_;go_simp;refine hK.out _ _ trivial (fun _=>?_);clear hK K
     try simp only [sZ]
     refine rdH 16 fun K hK=>?_;go_simp;refine hK.out _ _ trivial (fun _=>?_);clear hK K;refine wpAnyH_done (by kernel_rfl) ?_ _;go_wp2;refine bodyPost_ret (v:=.tuple #[slv (slMade sg n1 m n4) (adsMade gW gK gV gC n1 m n4),.int .i64 0]) (by simp [results,Tryz.results69,go_sem,slv,slMade,adsMade,s0,s1,s2,s3,s4,s5,sf0,sf1,sf2,sf3,sf4,sf5]) rfl ⟨_,rfl,made_fin NW NK NV NC (by omega) (by omega) (by omega) (by omega) (by omega) (by omega) (by omega) (by omega) (by omega) (by omega) (by omega) (by omega) (by omega) (by omega) BB (by omega) _ _ _ _ _ _⟩
    exact AllReadyH.nil
   exact AllReadyH.nil
  exact AllReadyH.nil
 refine cH (fun K hK=>?_) ?_
 ·refine step_zeros elemK rfl (.tmp 19) (.tmp 19) rfl .i64 .i64 _ _ m rfl rfl (by first | rfl | exact EW.out | exact EC.out) (by first | rfl | exact EW.out | exact EC.out) (by omega) (by unfold maxLen;omega) ?_
  intro gV wV eV zV NV bV;replace BB:=BB.trans (bV.mono (by have h9:=eV;simp at h9;omega));replace BR:=BR.below (eV▸bV)
  replace eV:gV=w.heap.size+1:=by rw [eV];simp
  refine hK.out _ _ trivial (fun _=>?_);clear hK K bV
  try simp only [sZ]
  refine wpAnyH_ready (rs:=[5,7,13]) (by kernel_rfl) (by simp) ?_;refine cH (fun K hK=>?_) ?_
  ·refine step_zeros elemW rfl (.tmp 15) (.tmp 15) rfl .i64 .i64 _ _ n1 rfl rfl (by first | rfl | exact EW.out | exact EC.out) (by first | rfl | exact EW.out | exact EC.out) (by omega) (by unfold maxLen;omega) ?_
   intro gW wW eW zW NW bW;replace NV:=NV.below (eW▸bW);replace BB:=BB.trans (bW.mono (by have:=BB.size;omega));replace BR:=BR.below (eW▸bW);refine hK.out _ _ trivial (fun _=>?_);clear hK K bW
   try simp only [sZ]
   refine wpAnyH_ready (rs:=[7,13]) (by kernel_rfl) (by simp) ?_;refine cH (fun K hK=>?_) ?_
   ·refine step_zeros elemK rfl (.tmp 17) (.tmp 17) rfl .i64 .i64 _ _ m rfl rfl (by first | rfl | exact EW.out | exact EC.out) (by first | rfl | exact EW.out | exact EC.out) (by omega) (by unfold maxLen;omega) ?_
    intro gK wK eK zK NK bK;replace NV:=NV.below (eK▸bK);replace NW:=NW.below (eK▸bK);replace BB:=BB.trans (bK.mono (by have:=BB.size;omega));replace BR:=BR.below (eK▸bK);refine hK.out _ _ trivial (fun _=>?_);clear hK K bK
    try simp only [sZ]
    refine wpAnyH_ready (rs:=[13]) (by kernel_rfl) (by simp) ?_;refine cH (fun K hK=>?_) ?_
    ·refine step_zeros elemI rfl (.tmp 23) (.tmp 23) rfl .i64 .i64 _ _ n4 rfl rfl (by first | rfl | exact EW.out | exact EC.out) (by first | rfl | exact EW.out | exact EC.out) (by omega) (by unfold maxLen;omega) ?_
     intro gC wC eC zC NC bC;replace NV:=NV.below (eC▸bC);replace NW:=NW.below (eC▸bC);replace NK:=NK.below (eC▸bC);replace BB:=BB.trans (bC.mono (by have:=BB.size;omega));replace BR:=BR.below (eC▸bC);refine hK.out _ _ trivial (fun _=>?_);clear hK K bC
     try simp only [sZ]
     refine wpAnyH_take (i:=14) (oi:=Oper.mk _ _ _ _ _ _) (v:=?v23) rfl (by kernel_rfl) (by kernel_rfl) (by kernel_rfl) (fun _ _ _ h=>h) (Or.inl ⟨by rfl,?hy23⟩) trivial ?rest23
     case hy23 =>
      intro w0 hSw;go_simp
      all_goals with_reducible rfl
     try simp only [sZ]
     obtain⟨_,s0,s1,s2,s3,s4,s5,sf⟩:=BR;have⟨sf0,sf1,sf2,sf3,sf4,sf5⟩:=sf6 sf;clear sf;refine rdH 15 fun K hK=>?_;go_simp;refine hK.out _ _ trivial (fun _=>?_);clear hK K
     try simp only [sZ]
     refine rdH 16 fun K hK=>?_;go_simp;refine hK.out _ _ trivial (fun _=>?_);clear hK K;refine wpAnyH_done (by kernel_rfl) ?_ _;go_wp2;refine bodyPost_ret (v:=.tuple #[slv (slMade sg n1 m n4) (adsMade gW gK gV gC n1 m n4),.int .i64 0]) (by simp [results,Tryz.results69,go_sem,slv,slMade,adsMade,s0,s1,s2,s3,s4,s5,sf0,sf1,sf2,sf3,sf4,sf5]) rfl ⟨_,rfl,made_fin NW NK NV NC (by omega) (by omega) (by omega) (by omega) (by omega) (by omega) (by omega) (by omega) (by omega) (by omega) (by omega) (by omega) (by omega) (by omega) BB (by omega) _ _ _ _ _ _⟩
    exact AllReadyH.nil
   refine cH (fun K hK=>?_) ?_
   ·refine step_zeros elemI rfl (.tmp 23) (.tmp 23) rfl .i64 .i64 _ _ n4 rfl rfl (by first | rfl | exact EW.out | exact EC.out) (by first | rfl | exact EW.out | exact EC.out) (by omega) (by unfold maxLen;omega) ?_
    intro gC wC eC zC NC bC;replace NV:=NV.below (eC▸bC);replace NW:=NW.below (eC▸bC);replace BB:=BB.trans (bC.mono (by have:=BB.size;omega));replace BR:=BR.below (eC▸bC);refine hK.out _ _ trivial (fun _=>?_);clear hK K bC
    try simp only [sZ]
    refine wpAnyH_ready (rs:=[7]) (by kernel_rfl) (by simp) ?_;refine cH (fun K hK=>?_) ?_
    ·refine step_zeros elemK rfl (.tmp 17) (.tmp 17) rfl .i64 .i64 _ _ m rfl rfl (by first | rfl | exact EW.out | exact EC.out) (by first | rfl | exact EW.out | exact EC.out) (by omega) (by unfold maxLen;omega) ?_
     intro gK wK eK zK NK bK;replace NV:=NV.below (eK▸bK);replace NW:=NW.below (eK▸bK);replace NC:=NC.below (eK▸bK);replace BB:=BB.trans (bK.mono (by have:=BB.size;omega));replace BR:=BR.below (eK▸bK);refine hK.out _ _ trivial (fun _=>?_);clear hK K bK
     try simp only [sZ]
     refine wpAnyH_take (i:=14) (oi:=Oper.mk _ _ _ _ _ _) (v:=?v24) rfl (by kernel_rfl) (by kernel_rfl) (by kernel_rfl) (fun _ _ _ h=>h) (Or.inl ⟨by rfl,?hy24⟩) trivial ?rest24
     case hy24 =>
      intro w0 hSw;go_simp
      all_goals with_reducible rfl
     try simp only [sZ]
     obtain⟨_,s0,s1,s2,s3,s4,s5,sf⟩:=BR;have⟨sf0,sf1,sf2,sf3,sf4,sf5⟩:=sf6 sf;clear sf;refine rdH 15 fun K hK=>?_;go_simp;refine hK.out _ _ trivial (fun _=>?_);clear hK K
     try simp only [sZ]
     refine rdH 16 fun K hK=>?_;go_simp;refine hK.out _ _ trivial (fun _=>?_);clear hK K;refine wpAnyH_done (by kernel_rfl) ?_ _;go_wp2;refine bodyPost_ret (v:=.tuple #[slv (slMade sg n1 m n4) (adsMade gW gK gV gC n1 m n4),.int .i64 0]) (by simp [results,Tryz.results69,go_sem,slv,slMade,adsMade,s0,s1,s2,s3,s4,s5,sf0,sf1,sf2,sf3,sf4,sf5]) rfl ⟨_,rfl,made_fin NW NK NV NC (by omega) (by omega) (by omega) (by omega) (by omega) (by omega) (by omega) (by omega) (by omega) (by omega) (by omega) (by omega) (by omega) (by omega) BB (by omega) _ _ _ _ _ _⟩
    exact AllReadyH.nil
   exact AllReadyH.nil
  refine cH (fun K hK=>?_) ?_
  ·refine step_zeros elemK rfl (.tmp 17) (.tmp 17) rfl .i64 .i64 _ _ m rfl rfl (by first | rfl | exact EW.out | exact EC.out) (by first | rfl | exact EW.out | exact EC.out) (by omega) (by unfold maxLen;omega) ?_
   intro gK wK eK zK NK bK;replace NV:=NV.below (eK▸bK);replace BB:=BB.trans (bK.mono (by have:=BB.size;omega));replace BR:=BR.below (eK▸bK);refine hK.out _ _ trivial (fun _=>?_);clear hK K bK
   try simp only [sZ]
   refine wpAnyH_ready (rs:=[5,13]) (by kernel_rfl) (by simp) ?_;refine cH (fun K hK=>?_) ?_
   ·refine step_zeros elemW rfl (.tmp 15) (.tmp 15) rfl .i64 .i64 _ _ n1 rfl rfl (by first | rfl | exact EW.out | exact EC.out) (by first | rfl | exact EW.out | exact EC.out) (by omega) (by unfold maxLen;omega) ?_
    intro gW wW eW zW NW bW;replace NV:=NV.below (eW▸bW);replace NK:=NK.below (eW▸bW);replace BB:=BB.trans (bW.mono (by have:=BB.size;omega));replace BR:=BR.below (eW▸bW);refine hK.out _ _ trivial (fun _=>?_);clear hK K bW
    try simp only [sZ]
    refine wpAnyH_ready (rs:=[13]) (by kernel_rfl) (by simp) ?_;refine cH (fun K hK=>?_) ?_
    ·refine step_zeros elemI rfl (.tmp 23) (.tmp 23) rfl .i64 .i64 _ _ n4 rfl rfl (by first | rfl | exact EW.out | exact EC.out) (by first | rfl | exact EW.out | exact EC.out) (by omega) (by unfold maxLen;omega) ?_
     intro gC wC eC zC NC bC;replace NV:=NV.below (eC▸bC);replace NK:=NK.below (eC▸bC);replace NW:=NW.below (eC▸bC);replace BB:=BB.trans (bC.mono (by have:=BB.size;omega));replace BR:=BR.below (eC▸bC);refine hK.out _ _ trivial (fun _=>?_);clear hK K bC
     try simp only [sZ]
     refine wpAnyH_take (i:=14) (oi:=Oper.mk _ _ _ _ _ _) (v:=?v25) rfl (by kernel_rfl) (by kernel_rfl) (by kernel_rfl) (fun _ _ _ h=>h) (Or.inl ⟨by rfl,?hy25⟩) trivial ?rest25
     case hy25 =>
      intro w0 hSw;go_simp
      all_goals with_reducible rfl
     try simp only [sZ]
     obtain⟨_,s0,s1,s2,s3,s4,s5,sf⟩:=BR;have⟨sf0,sf1,sf2,sf3,sf4,sf5⟩:=sf6 sf;clear sf;refine rdH 15 fun K hK=>?_;go_simp;refine hK.out _ _ trivial (fun _=>?_);clear hK K
     try simp only [sZ]
     refine rdH 16 fun K hK=>?_;go_simp;refine hK.out _ _ trivial (fun _=>?_);clear hK K;refine wpAnyH_done (by kernel_rfl) ?_ _;go_wp2;refine bodyPost_ret (v:=.tuple #[slv (slMade sg n1 m n4) (adsMade gW gK gV gC n1 m n4),.int .i64 0]) (by simp [results,Tryz.results69,go_sem,slv,slMade,adsMade,s0,s1,s2,s3,s4,s5,sf0,sf1,sf2,sf3,sf4,sf5]) rfl ⟨_,rfl,made_fin NW NK NV NC (by omega) (by omega) (by omega) (by omega) (by omega) (by omega) (by omega) (by omega) (by omega) (by omega) (by omega) (by omega) (by omega) (by omega) BB (by omega) _ _ _ _ _ _⟩
    exact AllReadyH.nil
   refine cH (fun K hK=>?_) ?_
   ·refine step_zeros elemI rfl (.tmp 23) (.tmp 23) rfl .i64 .i64 _ _ n4 rfl rfl (by first | rfl | exact EW.out | exact EC.out) (by first | rfl | exact EW.out | exact EC.out) (by omega) (by unfold maxLen;omega) ?_
    intro gC wC eC zC NC bC;replace NV:=NV.below (eC▸bC);replace NK:=NK.below (eC▸bC);replace BB:=BB.trans (bC.mono (by have:=BB.size;omega));replace BR:=BR.below (eC▸bC);refine hK.out _ _ trivial (fun _=>?_);clear hK K bC
    try simp only [sZ]
    refine wpAnyH_ready (rs:=[5]) (by kernel_rfl) (by simp) ?_;refine cH (fun K hK=>?_) ?_
    ·refine step_zeros elemW rfl (.tmp 15) (.tmp 15) rfl .i64 .i64 _ _ n1 rfl rfl (by first | rfl | exact EW.out | exact EC.out) (by first | rfl | exact EW.out | exact EC.out) (by omega) (by unfold maxLen;omega) ?_
     intro gW wW eW zW NW bW;replace NV:=NV.below (eW▸bW);replace NK:=NK.below (eW▸bW);replace NC:=NC.below (eW▸bW);replace BB:=BB.trans (bW.mono (by have:=BB.size;omega));replace BR:=BR.below (eW▸bW);refine hK.out _ _ trivial (fun _=>?_);clear hK K bW
     try simp only [sZ]
     refine wpAnyH_take (i:=14) (oi:=Oper.mk _ _ _ _ _ _) (v:=?v26) rfl (by kernel_rfl) (by kernel_rfl) (by kernel_rfl) (fun _ _ _ h=>h) (Or.inl ⟨by rfl,?hy26⟩) trivial ?rest26
     case hy26 =>
      intro w0 hSw;go_simp
      all_goals with_reducible rfl
     try simp only [sZ]
     obtain⟨_,s0,s1,s2,s3,s4,s5,sf⟩:=BR;have⟨sf0,sf1,sf2,sf3,sf4,sf5⟩:=sf6 sf;clear sf;refine rdH 15 fun K hK=>?_;go_simp;refine hK.out _ _ trivial (fun _=>?_);clear hK K
     try simp only [sZ]
     refine rdH 16 fun K hK=>?_;go_simp;refine hK.out _ _ trivial (fun _=>?_);clear hK K;refine wpAnyH_done (by kernel_rfl) ?_ _;go_wp2;refine bodyPost_ret (v:=.tuple #[slv (slMade sg n1 m n4) (adsMade gW gK gV gC n1 m n4),.int .i64 0]) (by simp [results,Tryz.results69,go_sem,slv,slMade,adsMade,s0,s1,s2,s3,s4,s5,sf0,sf1,sf2,sf3,sf4,sf5]) rfl ⟨_,rfl,made_fin NW NK NV NC (by omega) (by omega) (by omega) (by omega) (by omega) (by omega) (by omega) (by omega) (by omega) (by omega) (by omega) (by omega) (by omega) (by omega) BB (by omega) _ _ _ _ _ _⟩
    exact AllReadyH.nil
   exact AllReadyH.nil
  refine cH (fun K hK=>?_) ?_
  ·refine step_zeros elemI rfl (.tmp 23) (.tmp 23) rfl .i64 .i64 _ _ n4 rfl rfl (by first | rfl | exact EW.out | exact EC.out) (by first | rfl | exact EW.out | exact EC.out) (by omega) (by unfold maxLen;omega) ?_
   intro gC wC eC zC NC bC;replace NV:=NV.below (eC▸bC);replace BB:=BB.trans (bC.mono (by have:=BB.size;omega));replace BR:=BR.below (eC▸bC);refine hK.out _ _ trivial (fun _=>?_);clear hK K bC
   try simp only [sZ]
   refine wpAnyH_ready (rs:=[5,7]) (by kernel_rfl) (by simp) ?_;refine cH (fun K hK=>?_) ?_
   ·refine step_zeros elemW rfl (.tmp 15) (.tmp 15) rfl .i64 .i64 _ _ n1 rfl rfl (by first | rfl | exact EW.out | exact EC.out) (by first | rfl | exact EW.out | exact EC.out) (by omega) (by unfold maxLen;omega) ?_
    intro gW wW eW zW NW bW;replace NV:=NV.below (eW▸bW);replace NC:=NC.below (eW▸bW);replace BB:=BB.trans (bW.mono (by have:=BB.size;omega));replace BR:=BR.below (eW▸bW);refine hK.out _ _ trivial (fun _=>?_);clear hK K bW
    try simp only [sZ]
    refine wpAnyH_ready (rs:=[7]) (by kernel_rfl) (by simp) ?_;refine cH (fun K hK=>?_) ?_
    ·refine step_zeros elemK rfl (.tmp 17) (.tmp 17) rfl .i64 .i64 _ _ m rfl rfl (by first | rfl | exact EW.out | exact EC.out) (by first | rfl | exact EW.out | exact EC.out) (by omega) (by unfold maxLen;omega) ?_
     intro gK wK eK zK NK bK;replace NV:=NV.below (eK▸bK);replace NC:=NC.below (eK▸bK);replace NW:=NW.below (eK▸bK);replace BB:=BB.trans (bK.mono (by have:=BB.size;omega));replace BR:=BR.below (eK▸bK);refine hK.out _ _ trivial (fun _=>?_);clear hK K bK
     try simp only [sZ]
     refine wpAnyH_take (i:=14) (oi:=Oper.mk _ _ _ _ _ _) (v:=?v27) rfl (by kernel_rfl) (by kernel_rfl) (by kernel_rfl) (fun _ _ _ h=>h) (Or.inl ⟨by rfl,?hy27⟩) trivial ?rest27
     case hy27 =>
      intro w0 hSw;go_simp
      all_goals with_reducible rfl
     try simp only [sZ]
     obtain⟨_,s0,s1,s2,s3,s4,s5,sf⟩:=BR;have⟨sf0,sf1,sf2,sf3,sf4,sf5⟩:=sf6 sf;clear sf;refine rdH 15 fun K hK=>?_;go_simp;refine hK.out _ _ trivial (fun _=>?_);clear hK K
     try simp only [sZ]
     refine rdH 16 fun K hK=>?_;go_simp;refine hK.out _ _ trivial (fun _=>?_);clear hK K;refine wpAnyH_done (by kernel_rfl) ?_ _;go_wp2;refine bodyPost_ret (v:=.tuple #[slv (slMade sg n1 m n4) (adsMade gW gK gV gC n1 m n4),.int .i64 0]) (by simp [results,Tryz.results69,go_sem,slv,slMade,adsMade,s0,s1,s2,s3,s4,s5,sf0,sf1,sf2,sf3,sf4,sf5]) rfl ⟨_,rfl,made_fin NW NK NV NC (by omega) (by omega) (by omega) (by omega) (by omega) (by omega) (by omega) (by omega) (by omega) (by omega) (by omega) (by omega) (by omega) (by omega) BB (by omega) _ _ _ _ _ _⟩
    exact AllReadyH.nil
   refine cH (fun K hK=>?_) ?_
   ·refine step_zeros elemK rfl (.tmp 17) (.tmp 17) rfl .i64 .i64 _ _ m rfl rfl (by first | rfl | exact EW.out | exact EC.out) (by first | rfl | exact EW.out | exact EC.out) (by omega) (by unfold maxLen;omega) ?_
    intro gK wK eK zK NK bK;replace NV:=NV.below (eK▸bK);replace NC:=NC.below (eK▸bK);replace BB:=BB.trans (bK.mono (by have:=BB.size;omega));replace BR:=BR.below (eK▸bK);refine hK.out _ _ trivial (fun _=>?_);clear hK K bK
    try simp only [sZ]
    refine wpAnyH_ready (rs:=[5]) (by kernel_rfl) (by simp) ?_;refine cH (fun K hK=>?_) ?_
    ·refine step_zeros elemW rfl (.tmp 15) (.tmp 15) rfl .i64 .i64 _ _ n1 rfl rfl (by first | rfl | exact EW.out | exact EC.out) (by first | rfl | exact EW.out | exact EC.out) (by omega) (by unfold maxLen;omega) ?_
     intro gW wW eW zW NW bW;replace NV:=NV.below (eW▸bW);replace NC:=NC.below (eW▸bW);replace NK:=NK.below (eW▸bW);replace BB:=BB.trans (bW.mono (by have:=BB.size;omega));replace BR:=BR.below (eW▸bW);refine hK.out _ _ trivial (fun _=>?_);clear hK K bW
     try simp only [sZ]
     refine wpAnyH_take (i:=14) (oi:=Oper.mk _ _ _ _ _ _) (v:=?v28) rfl (by kernel_rfl) (by kernel_rfl) (by kernel_rfl) (fun _ _ _ h=>h) (Or.inl ⟨by rfl,?hy28⟩) trivial ?rest28
     case hy28 =>
      intro w0 hSw;go_simp
      all_goals with_reducible rfl
     try simp only [sZ]
     obtain⟨_,s0,s1,s2,s3,s4,s5,sf⟩:=BR;have⟨sf0,sf1,sf2,sf3,sf4,sf5⟩:=sf6 sf;clear sf;refine rdH 15 fun K hK=>?_;go_simp;refine hK.out _ _ trivial (fun _=>?_);clear hK K
     try simp only [sZ]
     refine rdH 16 fun K hK=>?_;go_simp;refine hK.out _ _ trivial (fun _=>?_);clear hK K;refine wpAnyH_done (by kernel_rfl) ?_ _;go_wp2;refine bodyPost_ret (v:=.tuple #[slv (slMade sg n1 m n4) (adsMade gW gK gV gC n1 m n4),.int .i64 0]) (by simp [results,Tryz.results69,go_sem,slv,slMade,adsMade,s0,s1,s2,s3,s4,s5,sf0,sf1,sf2,sf3,sf4,sf5]) rfl ⟨_,rfl,made_fin NW NK NV NC (by omega) (by omega) (by omega) (by omega) (by omega) (by omega) (by omega) (by omega) (by omega) (by omega) (by omega) (by omega) (by omega) (by omega) BB (by omega) _ _ _ _ _ _⟩
    exact AllReadyH.nil
   exact AllReadyH.nil
  exact AllReadyH.nil
 refine cH (fun K hK=>?_) ?_
 ·refine step_zeros elemI rfl (.tmp 23) (.tmp 23) rfl .i64 .i64 _ _ n4 rfl rfl (by first | rfl | exact EW.out | exact EC.out) (by first | rfl | exact EW.out | exact EC.out) (by omega) (by unfold maxLen;omega) ?_
  intro gC wC eC zC NC bC;replace BB:=BB.trans (bC.mono (by have h9:=eC;simp at h9;omega));replace BR:=BR.below (eC▸bC)
  replace eC:gC=w.heap.size+1:=by rw [eC];simp
  refine hK.out _ _ trivial (fun _=>?_);clear hK K bC
  try simp only [sZ]
  refine wpAnyH_ready (rs:=[5,7,9]) (by kernel_rfl) (by simp) ?_;refine cH (fun K hK=>?_) ?_
  ·refine step_zeros elemW rfl (.tmp 15) (.tmp 15) rfl .i64 .i64 _ _ n1 rfl rfl (by first | rfl | exact EW.out | exact EC.out) (by first | rfl | exact EW.out | exact EC.out) (by omega) (by unfold maxLen;omega) ?_
   intro gW wW eW zW NW bW;replace NC:=NC.below (eW▸bW);replace BB:=BB.trans (bW.mono (by have:=BB.size;omega));replace BR:=BR.below (eW▸bW);refine hK.out _ _ trivial (fun _=>?_);clear hK K bW
   try simp only [sZ]
   refine wpAnyH_ready (rs:=[7,9]) (by kernel_rfl) (by simp) ?_;refine cH (fun K hK=>?_) ?_
   ·refine step_zeros elemK rfl (.tmp 17) (.tmp 17) rfl .i64 .i64 _ _ m rfl rfl (by first | rfl | exact EW.out | exact EC.out) (by first | rfl | exact EW.out | exact EC.out) (by omega) (by unfold maxLen;omega) ?_
    intro gK wK eK zK NK bK;replace NC:=NC.below (eK▸bK);replace NW:=NW.below (eK▸bK);replace BB:=BB.trans (bK.mono (by have:=BB.size;omega));replace BR:=BR.below (eK▸bK);refine hK.out _ _ trivial (fun _=>?_);clear hK K bK
    try simp only [sZ]
    refine wpAnyH_ready (rs:=[9]) (by kernel_rfl) (by simp) ?_;refine cH (fun K hK=>?_) ?_
    ·refine step_zeros elemK rfl (.tmp 19) (.tmp 19) rfl .i64 .i64 _ _ m rfl rfl (by first | rfl | exact EW.out | exact EC.out) (by first | rfl | exact EW.out | exact EC.out) (by omega) (by unfold maxLen;omega) ?_
     intro gV wV eV zV NV bV;replace NC:=NC.below (eV▸bV);replace NW:=NW.below (eV▸bV);replace NK:=NK.below (eV▸bV);replace BB:=BB.trans (bV.mono (by have:=BB.size;omega));replace BR:=BR.below (eV▸bV);refine hK.out _ _ trivial (fun _=>?_);clear hK K bV
     try simp only [sZ]
     refine wpAnyH_take (i:=14) (oi:=Oper.mk _ _ _ _ _ _) (v:=?v29) rfl (by kernel_rfl) (by kernel_rfl) (by kernel_rfl) (fun _ _ _ h=>h) (Or.inl ⟨by rfl,?hy29⟩) trivial ?rest29
     case hy29 =>
      intro w0 hSw;go_simp
      all_goals with_reducible rfl
     try simp only [sZ]
     obtain⟨_,s0,s1,s2,s3,s4,s5,sf⟩:=BR;have⟨sf0,sf1,sf2,sf3,sf4,sf5⟩:=sf6 sf;clear sf;refine rdH 15 fun K hK=>?_;go_simp;refine hK.out _ _ trivial (fun _=>?_);clear hK K
     try simp only [sZ]
     refine rdH 16 fun K hK=>?_;go_simp;refine hK.out _ _ trivial (fun _=>?_);clear hK K;refine wpAnyH_done (by kernel_rfl) ?_ _;go_wp2;refine bodyPost_ret (v:=.tuple #[slv (slMade sg n1 m n4) (adsMade gW gK gV gC n1 m n4),.int .i64 0]) (by simp [results,Tryz.results69,go_sem,slv,slMade,adsMade,s0,s1,s2,s3,s4,s5,sf0,sf1,sf2,sf3,sf4,sf5]) rfl ⟨_,rfl,made_fin NW NK NV NC (by omega) (by omega) (by omega) (by omega) (by omega) (by omega) (by omega) (by omega) (by omega) (by omega) (by omega) (by omega) (by omega) (by omega) BB (by omega) _ _ _ _ _ _⟩
    exact AllReadyH.nil
   refine cH (fun K hK=>?_) ?_
   ·refine step_zeros elemK rfl (.tmp 19) (.tmp 19) rfl .i64 .i64 _ _ m rfl rfl (by first | rfl | exact EW.out | exact EC.out) (by first | rfl | exact EW.out | exact EC.out) (by omega) (by unfold maxLen;omega) ?_
    intro gV wV eV zV NV bV;replace NC:=NC.below (eV▸bV);replace NW:=NW.below (eV▸bV);replace BB:=BB.trans (bV.mono (by have:=BB.size;omega));replace BR:=BR.below (eV▸bV);refine hK.out _ _ trivial (fun _=>?_);clear hK K bV
    try simp only [sZ]
    refine wpAnyH_ready (rs:=[7]) (by kernel_rfl) (by simp) ?_;refine cH (fun K hK=>?_) ?_
    ·refine step_zeros elemK rfl (.tmp 17) (.tmp 17) rfl .i64 .i64 _ _ m rfl rfl (by first | rfl | exact EW.out | exact EC.out) (by first | rfl | exact EW.out | exact EC.out) (by omega) (by unfold maxLen;omega) ?_
     intro gK wK eK zK NK bK;replace NC:=NC.below (eK▸bK);replace NW:=NW.below (eK▸bK);replace NV:=NV.below (eK▸bK);replace BB:=BB.trans (bK.mono (by have:=BB.size;omega));replace BR:=BR.below (eK▸bK);refine hK.out _ _ trivial (fun _=>?_);clear hK K bK
     try simp only [sZ]
     refine wpAnyH_take (i:=14) (oi:=Oper.mk _ _ _ _ _ _) (v:=?v30) rfl (by kernel_rfl) (by kernel_rfl) (by kernel_rfl) (fun _ _ _ h=>h) (Or.inl ⟨by rfl,?hy30⟩) trivial ?rest30
     case hy30 =>
      intro w0 hSw;go_simp
      all_goals with_reducible rfl
     try simp only [sZ]
     obtain⟨_,s0,s1,s2,s3,s4,s5,sf⟩:=BR;have⟨sf0,sf1,sf2,sf3,sf4,sf5⟩:=sf6 sf;clear sf;refine rdH 15 fun K hK=>?_;go_simp;refine hK.out _ _ trivial (fun _=>?_);clear hK K
     try simp only [sZ]
     refine rdH 16 fun K hK=>?_;go_simp;refine hK.out _ _ trivial (fun _=>?_);clear hK K;refine wpAnyH_done (by kernel_rfl) ?_ _;go_wp2;refine bodyPost_ret (v:=.tuple #[slv (slMade sg n1 m n4) (adsMade gW gK gV gC n1 m n4),.int .i64 0]) (by simp [results,Tryz.results69,go_sem,slv,slMade,adsMade,s0,s1,s2,s3,s4,s5,sf0,sf1,sf2,sf3,sf4,sf5]) rfl ⟨_,rfl,made_fin NW NK NV NC (by omega) (by omega) (by omega) (by omega) (by omega) (by omega) (by omega) (by omega) (by omega) (by omega) (by omega) (by omega) (by omega) (by omega) BB (by omega) _ _ _ _ _ _⟩
    exact AllReadyH.nil
   exact AllReadyH.nil
  refine cH (fun K hK=>?_) ?_
  ·refine step_zeros elemK rfl (.tmp 17) (.tmp 17) rfl .i64 .i64 _ _ m rfl rfl (by first | rfl | exact EW.out | exact EC.out) (by first | rfl | exact EW.out | exact EC.out) (by omega) (by unfold maxLen;omega) ?_
   intro gK wK eK zK NK bK;replace NC:=NC.below (eK▸bK);replace BB:=BB.trans (bK.mono (by have:=BB.size;omega));replace BR:=BR.below (eK▸bK);refine hK.out _ _ trivial (fun _=>?_);clear hK K bK
   try simp only [sZ]
   refine wpAnyH_ready (rs:=[5,9]) (by kernel_rfl) (by simp) ?_;refine cH (fun K hK=>?_) ?_
   ·refine step_zeros elemW rfl (.tmp 15) (.tmp 15) rfl .i64 .i64 _ _ n1 rfl rfl (by first | rfl | exact EW.out | exact EC.out) (by first | rfl | exact EW.out | exact EC.out) (by omega) (by unfold maxLen;omega) ?_
    intro gW wW eW zW NW bW;replace NC:=NC.below (eW▸bW);replace NK:=NK.below (eW▸bW);replace BB:=BB.trans (bW.mono (by have:=BB.size;omega));replace BR:=BR.below (eW▸bW);refine hK.out _ _ trivial (fun _=>?_);clear hK K bW
    try simp only [sZ]
    refine wpAnyH_ready (rs:=[9]) (by kernel_rfl) (by simp) ?_;refine cH (fun K hK=>?_) ?_
    ·refine step_zeros elemK rfl (.tmp 19) (.tmp 19) rfl .i64 .i64 _ _ m rfl rfl (by first | rfl | exact EW.out | exact EC.out) (by first | rfl | exact EW.out | exact EC.out) (by omega) (by unfold maxLen;omega) ?_
     intro gV wV eV zV NV bV;replace NC:=NC.below (eV▸bV);replace NK:=NK.below (eV▸bV);replace NW:=NW.below (eV▸bV);replace BB:=BB.trans (bV.mono (by have:=BB.size;omega));replace BR:=BR.below (eV▸bV);refine hK.out _ _ trivial (fun _=>?_);clear hK K bV
     try simp only [sZ]
     refine wpAnyH_take (i:=14) (oi:=Oper.mk _ _ _ _ _ _) (v:=?v31) rfl (by kernel_rfl) (by kernel_rfl) (by kernel_rfl) (fun _ _ _ h=>h) (Or.inl ⟨by rfl,?hy31⟩) trivial ?rest31
     case hy31 =>
      intro w0 hSw;go_simp
      all_goals with_reducible rfl
     try simp only [sZ]
     obtain⟨_,s0,s1,s2,s3,s4,s5,sf⟩:=BR;have⟨sf0,sf1,sf2,sf3,sf4,sf5⟩:=sf6 sf;clear sf;refine rdH 15 fun K hK=>?_;go_simp;refine hK.out _ _ trivial (fun _=>?_);clear hK K
     try simp only [sZ]
     refine rdH 16 fun K hK=>?_;go_simp;refine hK.out _ _ trivial (fun _=>?_);clear hK K;refine wpAnyH_done (by kernel_rfl) ?_ _;go_wp2;refine bodyPost_ret (v:=.tuple #[slv (slMade sg n1 m n4) (adsMade gW gK gV gC n1 m n4),.int .i64 0]) (by simp [results,Tryz.results69,go_sem,slv,slMade,adsMade,s0,s1,s2,s3,s4,s5,sf0,sf1,sf2,sf3,sf4,sf5]) rfl ⟨_,rfl,made_fin NW NK NV NC (by omega) (by omega) (by omega) (by omega) (by omega) (by omega) (by omega) (by omega) (by omega) (by omega) (by omega) (by omega) (by omega) (by omega) BB (by omega) _ _ _ _ _ _⟩
    exact AllReadyH.nil
   refine cH (fun K hK=>?_) ?_
   ·refine step_zeros elemK rfl (.tmp 19) (.tmp 19) rfl .i64 .i64 _ _ m rfl rfl (by first | rfl | exact EW.out | exact EC.out) (by first | rfl | exact EW.out | exact EC.out) (by omega) (by unfold maxLen;omega) ?_
    intro gV wV eV zV NV bV;replace NC:=NC.below (eV▸bV);replace NK:=NK.below (eV▸bV);replace BB:=BB.trans (bV.mono (by have:=BB.size;omega));replace BR:=BR.below (eV▸bV);refine hK.out _ _ trivial (fun _=>?_);clear hK K bV
    try simp only [sZ]
    refine wpAnyH_ready (rs:=[5]) (by kernel_rfl) (by simp) ?_;refine cH (fun K hK=>?_) ?_
    ·refine step_zeros elemW rfl (.tmp 15) (.tmp 15) rfl .i64 .i64 _ _ n1 rfl rfl (by first | rfl | exact EW.out | exact EC.out) (by first | rfl | exact EW.out | exact EC.out) (by omega) (by unfold maxLen;omega) ?_
     intro gW wW eW zW NW bW;replace NC:=NC.below (eW▸bW);replace NK:=NK.below (eW▸bW);replace NV:=NV.below (eW▸bW);replace BB:=BB.trans (bW.mono (by have:=BB.size;omega));replace BR:=BR.below (eW▸bW);refine hK.out _ _ trivial (fun _=>?_);clear hK K bW
     try simp only [sZ]
     refine wpAnyH_take (i:=14) (oi:=Oper.mk _ _ _ _ _ _) (v:=?v32) rfl (by kernel_rfl) (by kernel_rfl) (by kernel_rfl) (fun _ _ _ h=>h) (Or.inl ⟨by rfl,?hy32⟩) trivial ?rest32
     case hy32 =>
      intro w0 hSw;go_simp
      all_goals with_reducible rfl
     try simp only [sZ]
     obtain⟨_,s0,s1,s2,s3,s4,s5,sf⟩:=BR;have⟨sf0,sf1,sf2,sf3,sf4,sf5⟩:=sf6 sf;clear sf;refine rdH 15 fun K hK=>?_;go_simp;refine hK.out _ _ trivial (fun _=>?_);clear hK K
     try simp only [sZ]
     refine rdH 16 fun K hK=>?_;go_simp;refine hK.out _ _ trivial (fun _=>?_);clear hK K;refine wpAnyH_done (by kernel_rfl) ?_ _;go_wp2;refine bodyPost_ret (v:=.tuple #[slv (slMade sg n1 m n4) (adsMade gW gK gV gC n1 m n4),.int .i64 0]) (by simp [results,Tryz.results69,go_sem,slv,slMade,adsMade,s0,s1,s2,s3,s4,s5,sf0,sf1,sf2,sf3,sf4,sf5]) rfl ⟨_,rfl,made_fin NW NK NV NC (by omega) (by omega) (by omega) (by omega) (by omega) (by omega) (by omega) (by omega) (by omega) (by omega) (by omega) (by omega) (by omega) (by omega) BB (by omega) _ _ _ _ _ _⟩
    exact AllReadyH.nil
   exact AllReadyH.nil
  refine cH (fun K hK=>?_) ?_
  ·refine step_zeros elemK rfl (.tmp 19) (.tmp 19) rfl .i64 .i64 _ _ m rfl rfl (by first | rfl | exact EW.out | exact EC.out) (by first | rfl | exact EW.out | exact EC.out) (by omega) (by unfold maxLen;omega) ?_
   intro gV wV eV zV NV bV;replace NC:=NC.below (eV▸bV);replace BB:=BB.trans (bV.mono (by have:=BB.size;omega));replace BR:=BR.below (eV▸bV);refine hK.out _ _ trivial (fun _=>?_);clear hK K bV
   try simp only [sZ]
   refine wpAnyH_ready (rs:=[5,7]) (by kernel_rfl) (by simp) ?_;refine cH (fun K hK=>?_) ?_
   ·refine step_zeros elemW rfl (.tmp 15) (.tmp 15) rfl .i64 .i64 _ _ n1 rfl rfl (by first | rfl | exact EW.out | exact EC.out) (by first | rfl | exact EW.out | exact EC.out) (by omega) (by unfold maxLen;omega) ?_
    intro gW wW eW zW NW bW;replace NC:=NC.below (eW▸bW);replace NV:=NV.below (eW▸bW);replace BB:=BB.trans (bW.mono (by have:=BB.size;omega));replace BR:=BR.below (eW▸bW);refine hK.out _ _ trivial (fun _=>?_);clear hK K bW
    try simp only [sZ]
    refine wpAnyH_ready (rs:=[7]) (by kernel_rfl) (by simp) ?_;refine cH (fun K hK=>?_) ?_
    ·refine step_zeros elemK rfl (.tmp 17) (.tmp 17) rfl .i64 .i64 _ _ m rfl rfl (by first | rfl | exact EW.out | exact EC.out) (by first | rfl | exact EW.out | exact EC.out) (by omega) (by unfold maxLen;omega) ?_
     intro gK wK eK zK NK bK;replace NC:=NC.below (eK▸bK);replace NV:=NV.below (eK▸bK);replace NW:=NW.below (eK▸bK);replace BB:=BB.trans (bK.mono (by have:=BB.size;omega));replace BR:=BR.below (eK▸bK);refine hK.out _ _ trivial (fun _=>?_);clear hK K bK
     try simp only [sZ]
     refine wpAnyH_take (i:=14) (oi:=Oper.mk _ _ _ _ _ _) (v:=?v33) rfl (by kernel_rfl) (by kernel_rfl) (by kernel_rfl) (fun _ _ _ h=>h) (Or.inl ⟨by rfl,?hy33⟩) trivial ?rest33
     case hy33 =>
      intro w0 hSw;go_simp
      all_goals with_reducible rfl
     try simp only [sZ]
     obtain⟨_,s0,s1,s2,s3,s4,s5,sf⟩:=BR;have⟨sf0,sf1,sf2,sf3,sf4,sf5⟩:=sf6 sf;clear sf;refine rdH 15 fun K hK=>?_;go_simp;refine hK.out _ _ trivial (fun _=>?_);clear hK K
     try simp only [sZ]
     refine rdH 16 fun K hK=>?_;go_simp;refine hK.out _ _ trivial (fun _=>?_);clear hK K;refine wpAnyH_done (by kernel_rfl) ?_ _;go_wp2;refine bodyPost_ret (v:=.tuple #[slv (slMade sg n1 m n4) (adsMade gW gK gV gC n1 m n4),.int .i64 0]) (by simp [results,Tryz.results69,go_sem,slv,slMade,adsMade,s0,s1,s2,s3,s4,s5,sf0,sf1,sf2,sf3,sf4,sf5]) rfl ⟨_,rfl,made_fin NW NK NV NC (by omega) (by omega) (by omega) (by omega) (by omega) (by omega) (by omega) (by omega) (by omega) (by omega) (by omega) (by omega) (by omega) (by omega) BB (by omega) _ _ _ _ _ _⟩
    exact AllReadyH.nil
   refine cH (fun K hK=>?_) ?_
   ·refine step_zeros elemK rfl (.tmp 17) (.tmp 17) rfl .i64 .i64 _ _ m rfl rfl (by first | rfl | exact EW.out | exact EC.out) (by first | rfl | exact EW.out | exact EC.out) (by omega) (by unfold maxLen;omega) ?_
    intro gK wK eK zK NK bK;replace NC:=NC.below (eK▸bK);replace NV:=NV.below (eK▸bK);replace BB:=BB.trans (bK.mono (by have:=BB.size;omega));replace BR:=BR.below (eK▸bK);refine hK.out _ _ trivial (fun _=>?_);clear hK K bK
    try simp only [sZ]
    refine wpAnyH_ready (rs:=[5]) (by kernel_rfl) (by simp) ?_;refine cH (fun K hK=>?_) ?_
    ·refine step_zeros elemW rfl (.tmp 15) (.tmp 15) rfl .i64 .i64 _ _ n1 rfl rfl (by first | rfl | exact EW.out | exact EC.out) (by first | rfl | exact EW.out | exact EC.out) (by omega) (by unfold maxLen;omega) ?_
     intro gW wW eW zW NW bW;replace NC:=NC.below (eW▸bW);replace NV:=NV.below (eW▸bW);replace NK:=NK.below (eW▸bW);replace BB:=BB.trans (bW.mono (by have:=BB.size;omega));replace BR:=BR.below (eW▸bW);refine hK.out _ _ trivial (fun _=>?_);clear hK K bW
     try simp only [sZ]
     refine wpAnyH_take (i:=14) (oi:=Oper.mk _ _ _ _ _ _) (v:=?v34) rfl (by kernel_rfl) (by kernel_rfl) (by kernel_rfl) (fun _ _ _ h=>h) (Or.inl ⟨by rfl,?hy34⟩) trivial ?rest34
     case hy34 =>
      intro w0 hSw;go_simp
      all_goals with_reducible rfl
     try simp only [sZ]
     obtain⟨_,s0,s1,s2,s3,s4,s5,sf⟩:=BR;have⟨sf0,sf1,sf2,sf3,sf4,sf5⟩:=sf6 sf;clear sf;refine rdH 15 fun K hK=>?_;go_simp;refine hK.out _ _ trivial (fun _=>?_);clear hK K
     try simp only [sZ]
     refine rdH 16 fun K hK=>?_;go_simp;refine hK.out _ _ trivial (fun _=>?_);clear hK K;refine wpAnyH_done (by kernel_rfl) ?_ _;go_wp2;refine bodyPost_ret (v:=.tuple #[slv (slMade sg n1 m n4) (adsMade gW gK gV gC n1 m n4),.int .i64 0]) (by simp [results,Tryz.results69,go_sem,slv,slMade,adsMade,s0,s1,s2,s3,s4,s5,sf0,sf1,sf2,sf3,sf4,sf5]) rfl ⟨_,rfl,made_fin NW NK NV NC (by omega) (by omega) (by omega) (by omega) (by omega) (by omega) (by omega) (by omega) (by omega) (by omega) (by omega) (by omega) (by omega) (by omega) BB (by omega) _ _ _ _ _ _⟩
    exact AllReadyH.nil
   exact AllReadyH.nil
  exact AllReadyH.nil
 exact AllReadyH.nil
theorem sNew (seg many:Int) (w:World) (hs:In64 seg) (hm:In64 many) :
  Calls Tryz.prog 69 #[.int .i64 seg,.int .i64 many] w (Ans (Sl.newS seg many) (Sl.newE seg many) w):=by
 cases hf:Sl.fitsB seg many
 ·have CM:=aq (fun W=>sMayHave seg many W hs hm)
  have BB0:=aq (show ∀ o,Below w.heap.size w (w.alloc o) from fun o=>(Below.refl _ _).alloc (Nat.le_refl _) _);have HF:=aq hf;have E:=aq (show Sl.newE seg many=2 by unfold Sl.newE;rw [hf];rfl);have V:=aq (show Sl.newS seg many=Sl.none by unfold Sl.newS;rw [hf];rfl);clear hf hs hm
  go_enter Tryz.func69,Tryz.ntmps69
  go_wp2_with fail
  refine (CM.out _).mono ?_;rintro e w1 ⟨rfl,rfl⟩;rw [HF.out];go_wp2;refine bodyPost_ret (v:=.tuple #[slv Sl.none adsNone,.int .i64 2]) (by simp [results,Tryz.results69,go_sem,slv,Sl.none,adsNone]) rfl ?_;rw [E.out,V.out];refine⟨_,rfl,(none_own _ _).1,?_⟩
  first | (with_reducible exact BB0.out _) | (with_reducible exact below_put6 (BB0.out _) (Nat.le_refl _) _ _ _ _ _ _)
 ·obtain⟨f1,f2,_,f4,f5,f6,_⟩:=fits_yes hf
  obtain⟨sg,rfl⟩:∃ sg:Nat,seg=sg:=⟨seg.toNat,by omega⟩;obtain⟨m,rfl⟩:∃ m:Nat,many=m:=⟨many.toNat,by omega⟩
  have E:Sl.newE sg m=0:=by unfold Sl.newE;rw [hf];rfl
  have V:Sl.newS sg m=slMade sg ((m+63)/64) m (m/sg):=by unfold Sl.newS;rw [hf,if_pos rfl,empty_made]
  rw [E,V];refine (sNew_ok sg m _ _ w (by omega) (by omega) (by omega) (by omega) rfl rfl hf).mono ?_;rintro e w' ⟨a,he,ho,_,_,hb⟩;exact⟨a,he,ho,hb⟩
end Go.Proofs.YtpeckljoannolaaGreatDoor

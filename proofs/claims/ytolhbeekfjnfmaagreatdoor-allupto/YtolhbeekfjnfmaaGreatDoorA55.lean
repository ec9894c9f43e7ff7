import Derived.Test.YtolhbeekfjnfmaaGreatDoorA54
set_option maxRecDepth 100000
namespace Go.Proofs.YtolhbeekfjnfmaaGreatDoor
open Go.Proofs.Tryz
open Go.ChangeShapes Go.WideShapes Go.ChangeAt Go.RowKit
open Go.WideMaps Go.WideElems
open Go.ChangeMaps (open_string shut_string)
theorem Q4e(os:Os){H:Type}(enc:TypeId×Value->H):∃places,DataW.whole enc prog ((World.doorLaid prog 400 os).forCall (λ_ _=>0) ⟨#[],#[.slice none 0 0],[]⟩).memory f13.params.toList Rows.allSpec.vars false #[Value.slice none 0 0].toList 8=some ([.nil],[],places):=
 ⟨[],by kernel_rfl⟩
theorem Tx(os:Os)(started:os.Started)(H:Type)(enc:TypeId×Value->H)(F:Stop.Interp):ReturnsInHanded {} checked os 13 .any ((Rows.OpenSpec.upto Rows.allSpec).preRow enc prog f13 Rows.allUptoRow.domain false Rows.allUptoRow.laid) (((Rows.OpenSpec.upto Rows.allSpec).at F).post enc prog f13 false true false false):=by
 obtain⟨places,hx⟩:=Q4e os enc;refine returnsInHanded_of_row (C:=checked) (s:=Rows.OpenSpec.upto Rows.allSpec) Q68 started (by kernel_rfl) func13 (witness_row_atRef (enc:=enc) (C:=checked) false (World.doorLaid prog 400 os) #[.slice none 0 0] rfl (by kernel_rfl) (by kernel_rfl) (by kernel_rfl) (OpenSpec.preRow_of_cond 8 hx (by kernel_rfl) (λk hk=>by cases hk;kernel_rfl) (by kernel_rfl) (Zq os _))) ?_;intro W base args ds gs before LQ hW _ OZ _ hL _ _;have hval:∀(j:Nat) t v,f13.params[j]?=some t->args[j]?=some v->Value.okWide prog W .any base t v:=LQ;have iJ:=hW;obtain⟨p,q,q9,hV,rfl,hfz,vJ⟩:=hW;have hA:DataW.TrodAll enc prog W 0 (λ_=>true) true f13.params.toList args.toList ds p:=q9;rw[params13]at hA hval;obtain⟨v0,d0,rfl,rfl,h0⟩:=trodAll_one hA;obtain⟨rfl,rfl⟩:=trodVars_none hV;obtain⟨aT,aL,hLD,hPw⟩:=Q2v hL;obtain⟨a0,len,cap,rfl⟩:=okWide_slice underlying22 (hval 0 22 v0 rfl rfl);have h0k:=h0;obtain⟨fuel0,hf⟩:=h0;have hk:Rows.uptoBulkAll ([d0]++([]:List (DataW H)))<=1048576:=KB (OZ _ rfl);have hk2:Rows.uptoBulk d0<=1048576:=by simp only[BM,Rows.uptoBulkAll]at hk;omega
 obtain⟨ao,len',cap',hcs,nA,cN⟩:=Xr hf hk2;simp[Value.cells]at hcs;obtain⟨rfl,rfl,rfl⟩:=hcs;simp only[BM]at iJ;have hlt:∀x∈p,x.block<W.heap.size:=λx hx=>iJ.lt x (by simp[hx]);refine(Q48 W aT aL hLD hPw _ _ cap cN nA).mono λe W' ⟨he,hg⟩=>?_;subst he;refine⟨_,rfl,_,_,_,[],p,[],iJ,?_,?_,?_,(Fx hg).frame _,λh=>by cases h⟩;{exact trodAll_mk1 (shut_bool underlying4 true)};{exact trodAll_mk1 (Below.trod Q5V (by kernel_rfl) (KB (by kernel_rfl)) h0k (Fx hg) hlt)};{rfl}
theorem Q44:(Rows.allUptoRow.inPlace==prog.inPlace 13)=true:=by kernel_rfl
theorem Q45:(Rows.allUptoRow.unfollowed==prog.unfollowed 13)=true:=by kernel_rfl
theorem Q46:(Rows.allUptoRow.recurses==prog.recurses 13)=true:=by kernel_rfl
theorem Q47:(Rows.allUptoRow.named==prog.varsNamed 13)=true:=by kernel_rfl
theorem allC:joinedFacts prog 13 f13 (Rows.OpenSpec.upto Rows.allSpec).bare Rows.allUptoRow=true:=by unfold joinedFacts;rw[Q44,Q45,Q46,Q47];kernel_rfl
theorem Vq:Rows.AllUptoSaid:=
 OpenClaim.holds_of_cond 13 f13 rfl rfl rfl rfl rfl rfl rfl ⟨rfl,rfl,rfl,rfl,rfl⟩ rfl rfl rfl rfl rfl (by kernel_rfl) func13 allC
  (KB (by kernel_rfl)) (by unfold Func.isWrapper;rw[AO (of_decide_eq_false (by kernel_rfl))];exact⟨rfl,rfl⟩)
  (λos started H enc _ F=>by rw[OpenClaim.pre_eq_preRow];exact Tx os started H enc F)
theorem all_card_holds:Rows.AllUptoCardSaid:=
 Claim7.holds_tied_plain_at .later [] [.data,.data,.data,.handle,.sentinel,.sentinel] true (true,"864f1006d7431b0cd997773d1ff16d3bec1ad641dc9552a6f7ebbc4f91ca0872") true
  Vq (λ_ h=>by cases h) (by kernel_rfl) (λ_ h=>by cases h) allUpto_row_tie rfl ⟨rfl,rfl⟩ (by kernel_rfl) rfl
  (λf fn hf hfn=>by
   obtain rfl:f=13:=JE ((show prog.funcNamed "sieve/sievelaw.All"=some 13 by kernel_rfl).symm.trans hf) |>.symm
   obtain rfl:fn=f13:=(JE (func13.symm.trans hfn)).symm
   exact⟨by kernel_rfl,λj t ht=>by
    rw[params13]at ht
    have h3:t=22:=by
     rcases j with _|j
     ·simpa using ht.symm
     ·simp at ht
    subst h3;exact(show prog.wantsStandIn 22=false by kernel_rfl)⟩)
  (by kernel_rfl)
end Go.Proofs.YtolhbeekfjnfmaaGreatDoor

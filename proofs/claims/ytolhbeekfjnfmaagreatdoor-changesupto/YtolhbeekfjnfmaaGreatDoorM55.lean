import Derived.Test.YtolhbeekfjnfmaaGreatDoorM54
set_option maxRecDepth 100000
namespace Go.Proofs.YtolhbeekfjnfmaaGreatDoor
open Go.ChangeShapes Go.WideShapes Go.ChangeAt Go.RowKit
open Go.WideMaps Go.WideElems
open Go.ChangeMaps (open_string shut_string)
theorem Q3x(os:Os){H:Type}(enc:TypeId×Value->H):∃places,DataW.whole enc Tryz.prog ((World.doorLaid Tryz.prog 400 os).forCall (fun _ _=>0) ⟨#[],#[.slice none 0 0],[]⟩).memory Tryz.f6.params.toList Rows.changesSpec.vars false #[Value.slice none 0 0].toList 8=some ([.nil],[],places):=
 ⟨[],by kernel_rfl⟩
theorem Lh(os:Os)(started:os.Started)(H:Type)(enc:TypeId×Value->H)(F:Stop.Interp) :
  ReturnsInHanded {} Tryz.checked os 6 .any ((Rows.OpenSpec.upto Rows.changesSpec).preRow enc Tryz.prog Tryz.f6 Rows.changesUptoRow.domain false Rows.changesUptoRow.laid) (((Rows.OpenSpec.upto Rows.changesSpec).at F).post enc Tryz.prog Tryz.f6 false true false false):=by
 obtain⟨places,hx⟩:=Q3x os enc
 refine returnsInHanded_of_row (C:=Tryz.checked) (s:=Rows.OpenSpec.upto Rows.changesSpec) Tryz.own started (by kernel_rfl) Tryz.func6
  (witness_row_atRef (enc:=enc) (C:=Tryz.checked) false (World.doorLaid Tryz.prog 400 os) #[.slice none 0 0] rfl (by kernel_rfl) (by kernel_rfl) (by kernel_rfl)
   (OpenSpec.preRow_of_cond 8 hx (by kernel_rfl) (fun k hk=>by cases hk;kernel_rfl) (by kernel_rfl) (Y8 os _))) ?_
 intro W base args ds gs before yQ hW _ LB _ hL _ _;have hval:∀(j:Nat) t v,Tryz.f6.params[j]?=some t->args[j]?=some v->Value.okWide Tryz.prog W .any base t v:=yQ;have gj:=hW;obtain⟨p,q,oo,hV,rfl,hfz,tE⟩:=hW;have hA:DataW.TrodAll enc Tryz.prog W 0 (fun _=>true) true Tryz.f6.params.toList args.toList ds p:=oo;rw[Tryz.params6] at hA hval;obtain⟨v0,d0,rfl,rfl,h0⟩:=trodAll_one hA;obtain⟨rfl,rfl⟩:=trodVars_none hV;obtain⟨aT,aL,hLD,hPw⟩:=Q2b hL;obtain⟨a0,len,cap,rfl⟩:=okWide_slice Tryz.underlying22 (hval 0 22 v0 rfl rfl);have h0k:=h0;obtain⟨fuel0,hf⟩:=h0;have hk:Rows.uptoBulkAll ([d0]++([]:List (DataW H)))<=1048576:=JT (LB _ rfl)
 have hk2:Rows.uptoBulk d0<=1048576:=by
  simp only[BM,Rows.uptoBulkAll] at hk;omega
 obtain⟨ao,len',cap',hcs,lr,cG⟩:=Xd hf hk2;simp[Value.cells] at hcs;obtain⟨rfl,rfl,rfl⟩:=hcs;simp only[BM] at gj;have hlt:∀x∈p,x.block<W.heap.size:=fun x hx=>gj.lt x (by simp[hx])
 refine(Vl W aT aL hLD hPw _ _ cap cG lr).mono fun e W' ⟨he,hg⟩=>?_
 subst he;refine⟨_,rfl,_,_,_,[],p,[],gj,?_,?_,?_,(Fp hg).frame _,fun h=>by cases h⟩
 ·exact trodAll_mk1 (shut_bool Tryz.underlying4 true)
 ·exact trodAll_mk1 (Below.trod Tryz.laidOut (by kernel_rfl) (JT (by kernel_rfl)) h0k (Fp hg) hlt)
 ·rfl
theorem Vh:(Rows.changesUptoRow.inPlace==Tryz.prog.inPlace 6)=true:=by kernel_rfl
theorem Vi:(Rows.changesUptoRow.unfollowed==Tryz.prog.unfollowed 6)=true:=by kernel_rfl
theorem Vj:(Rows.changesUptoRow.recurses==Tryz.prog.recurses 6)=true:=by kernel_rfl
theorem Vk:(Rows.changesUptoRow.named==Tryz.prog.varsNamed 6)=true:=by kernel_rfl
theorem changesC:joinedFacts Tryz.prog 6 Tryz.f6 (Rows.OpenSpec.upto Rows.changesSpec).bare Rows.changesUptoRow=true:=by
 unfold joinedFacts;rw[Vh,Vi,Vj,Vk]
 kernel_rfl
theorem M9:Rows.ChangesUptoSaid:=
 OpenClaim.holds_of_cond 6 Tryz.f6 rfl rfl rfl rfl rfl rfl rfl ⟨rfl,rfl,rfl,rfl,rfl⟩ rfl rfl rfl rfl rfl (by kernel_rfl) Tryz.func6 changesC
  (JT (by kernel_rfl)) (by unfold Func.isWrapper;rw[AO (of_decide_eq_false (by kernel_rfl))];exact⟨rfl,rfl⟩)
  (fun os started H enc _ F=>by rw[OpenClaim.pre_eq_preRow];exact Lh os started H enc F)
theorem changes_card_holds:Rows.ChangesUptoCardSaid:=
 Claim7.holds_tied_plain_at .later [] [.data,.data,.data,.handle,.sentinel,.sentinel] true (true,"864f1006d7431b0cd997773d1ff16d3bec1ad641dc9552a6f7ebbc4f91ca0872") true
  M9 (fun _ h=>by cases h) (by kernel_rfl) (fun _ h=>by cases h) changesUpto_row_tie rfl ⟨rfl,rfl⟩ (by kernel_rfl) rfl
  (fun f fn hf hfn=>by
   obtain rfl:f=6:=JA ((show Tryz.prog.funcNamed "sieve/sievelaw.Changes"=some 6 by kernel_rfl).symm.trans hf) |>.symm
   obtain rfl:fn=Tryz.f6:=(JA (Tryz.func6.symm.trans hfn)).symm
   exact⟨by kernel_rfl,fun j t ht=>by
    rw[Tryz.params6] at ht
    have h3:t=22:=by
     rcases j with _|j
     ·simpa using ht.symm
     ·simp at ht
    subst h3;exact(show Tryz.prog.wantsStandIn 22=false by kernel_rfl)⟩)
  (by kernel_rfl)
end Go.Proofs.YtolhbeekfjnfmaaGreatDoor

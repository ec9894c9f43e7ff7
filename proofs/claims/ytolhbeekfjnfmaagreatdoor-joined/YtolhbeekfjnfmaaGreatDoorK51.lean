import Derived.Test.YtolhbeekfjnfmaaGreatDoorK36
import Derived.Test.YtolhbeekfjnfmaaGreatDoorK50
namespace Go.Proofs.YtolhbeekfjnfmaaGreatDoor
open Go.ChangeShapes Go.WideShapes Go.ChangeAt Go.RowKit
open Go.WideMaps Go.WideElems
open Go.ChangeMaps (open_string shut_string)
def laidJ:List (String×DataW Unit):=Rows.joinedRow.laid
theorem door_metJ (os:Os) (args:Array Value):laidMetH Tryz.prog laidJ ((World.doorLaid Tryz.prog 400 os).forCall (fun _ _=>0) ⟨#[],args,[]⟩).memory:=
 laidMetH_of_parts3 (fuel:=8) (laidMet_of_run' 8 (by kernel_rfl) (by kernel_rfl)) (by kernel_rfl) (by kernel_rfl)
theorem of_laidJ {W:World} (h:laidMetH Tryz.prog laidJ W):∃ aT aL,LG aT aL W:=by
 have h':laidMet Tryz.prog [("sieve/rules.ErrText",Rows.laid_sieve_rules_ErrText),("sieve/rules.ErrLimit",Rows.laid_sieve_rules_ErrLimit)] W∧handlesMet Tryz.prog [("errors.errorType",Rows.laid_errors_errorType)] W:=h
 obtain ⟨hd,_⟩:=h'
 obtain ⟨a0,a1,s0,s1,c0,c1,t0,t1,hv0,hv1,_⟩:=laid_sentinels2 hd Tryz.gTx Tryz.tTx Tryz.gLm Tryz.tLm Tryz.underlying79 Tryz.rowES Tryz.underlying345 Tryz.underlying370 rfl rfl Tryz.underlying9 Tryz.cellsES Tryz.cellsS
 exact ⟨a0,a1,⟨by simpa using World.var?_cell Tryz.gTx hv0 0,by simpa using World.var?_cell Tryz.gLm hv1 0⟩⟩
set_option maxRecDepth 100000 in
theorem joined_lifted (os:Os) (started:os.Started) (H:Type) (enc:TypeId×Value→H) :
  ReturnsInHanded {} Tryz.checked os 9 .any (fun w args=>(Rows.joinedSpec.pre enc Tryz.prog Tryz.f9 [] false w args∧laidMetH Tryz.prog laidJ w)∧sizedMet enc Tryz.prog Tryz.f9 (OpenSpec.ofChange Rows.joinedSpec) false w args)
   (Rows.joinedSpec.post enc Tryz.prog Tryz.f9 false true false false):=by
 refine returnsInHanded_of_change_and (C:=Tryz.checked) (X:=fun w _=>laidMetH Tryz.prog laidJ w) (fun _ _ _ hh h=>h.of_heap hh) Tryz.own started (by kernel_rfl) Tryz.func9
  (ChangeSpec.witness_shaped (enc:=enc) (C:=Tryz.checked) (os:=os) (X:=fun w _=>laidMetH Tryz.prog laidJ w) false (World.doorLaid Tryz.prog 400 os) #[.slice none 0 0] 8 rfl (World.shaped_of_RefB (by kernel_rfl) (by kernel_rfl)) (by kernel_rfl) (by kernel_rfl) (by kernel_rfl) (door_metJ os _)) ?_
 intro W base args ds gs before hval0 hW _ hsz hL _
 have hval:∀ (j:Nat) t v,Tryz.f9.params[j]?=some t→args[j]?=some v→Value.okWide Tryz.prog W .any base t v:=hval0
 have hW':=hW
 obtain ⟨p,q,hA0,hV,rfl,hfz,hnd⟩:=hW
 have hA:DataW.TrodAll enc Tryz.prog W 0 (fun _=>true) true Tryz.f9.params.toList args.toList ds p:=hA0
 rw [Tryz.params9] at hA hval
 obtain ⟨v1,d1,rfl,rfl,h1⟩:=trodAll_one hA
 obtain ⟨rfl,rfl⟩:=trodVars_none hV
 obtain ⟨a1,len,cap,rfl⟩:=okWide_slice Tryz.underlying25 (hval 0 25 v1 rfl rfl)
 have h1k:=h1
 obtain ⟨fuel1,hf1⟩:=h1
 obtain ⟨aT,aL,hLG⟩:=of_laidJ hL
 obtain ⟨ao,len',cap',hcs,hst,hml⟩:=stps_open hf1
 simp [Value.cells] at hcs
 obtain ⟨rfl,rfl,rfl⟩:=hcs
 simp only [List.append_nil] at hW'
 have hlt:∀ x∈p,x.block < W.heap.size:=fun x hx=>hW'.lt x (by simp [hx])
 refine (joined_w W aT aL hLG _ _ cap hst).mono fun e W' ⟨he,hg⟩=>?_
 subst he
 refine ⟨_,rfl,_,_,_,[],p,[],hW',?_,?_,?_,(below_gr hg).frame _,fun h=>by cases h⟩
 ·exact trodAll_mk1 (shut_bool Tryz.underlying4 true)
 ·exact trodAll_mk1 (Below.trod Tryz.laidOut (by kernel_rfl) (of_decide_eq_true (by kernel_rfl)) h1k (below_gr hg) hlt)
 ·rfl
theorem joined_holds:Rows.JoinedSaid:=
 OpenClaim.holds_of_wide 9 Tryz.f9 rfl rfl rfl rfl rfl rfl rfl ⟨rfl,rfl,rfl,rfl,rfl⟩ rfl rfl rfl rfl rfl (by kernel_rfl) Tryz.func9 (by kernel_rfl)
  (of_decide_eq_true (by kernel_rfl)) (by unfold Func.isWrapper; rw [if_neg (of_decide_eq_false (by kernel_rfl))]; exact ⟨rfl,rfl⟩)
  (fun os started H enc _=>joined_lifted os started H enc)
theorem joined_card_holds:Rows.JoinedCardSaid:=
 Claim7.holds_tied_plain_at .later [] [.handle,.sentinel,.sentinel] true (true,"864f1006d7431b0cd997773d1ff16d3bec1ad641dc9552a6f7ebbc4f91ca0872") true
  joined_holds (fun _ h=>by cases h) (by kernel_rfl) (fun _ h=>by cases h) joined_row_tie rfl ⟨rfl,rfl⟩ (by kernel_rfl) rfl
  (fun f fn hf hfn=>by
   obtain rfl:f=9:=Option.some.inj ((show Tryz.prog.funcNamed "sieve/sievekeep.Joined"=some 9 by kernel_rfl).symm.trans hf) |>.symm
   obtain rfl:fn=Tryz.f9:=(Option.some.inj (Tryz.func9.symm.trans hfn)).symm
   exact ⟨by kernel_rfl,fun j t ht=>by
    rw [Tryz.params9] at ht
    rcases j with _ | j
    ·obtain rfl:t=25:=by simpa using ht.symm
     exact (show Tryz.prog.wantsStandIn 25=false by kernel_rfl)
    ·simp at ht⟩)
  (by kernel_rfl)
end Go.Proofs.YtolhbeekfjnfmaaGreatDoor

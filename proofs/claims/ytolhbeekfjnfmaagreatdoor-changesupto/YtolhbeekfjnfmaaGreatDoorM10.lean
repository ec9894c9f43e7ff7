import Derived.Test.YtolhbeekfjnfmaaGreatDoorM09
set_option maxHeartbeats 8000000
set_option maxRecDepth 100000
namespace Go.Proofs.YtolhbeekfjnfmaaGreatDoor
open Go.RowKit
def Q4v(t:Sv.Term):List Value:=[.int .u8 t.letter.toNat,.int .i64 t.value,.bool (t.sort==0)]
abbrev TmsAt(base:Nat)(v:Value)(l:List Sv.Term)(w:World):Prop:=RowAt 169 3 Q4v base v l w
def Ol(w:World)(r:Option Sv.Bs)(e:Ending)(w':World):Prop:=
 w.grownBy w' none/\match r with
  | none=>e=.returned (.tuple #[.slice none 0 0,.bool false])
  | some b=>∃u,e=.returned (.tuple #[u,.bool true])/\BsAt w.heap.size u b w'
theorem X8(kf ck:Int)(neg:Bool)(fa ta:Option Addr)(fn fc tn tc:Nat)(bv:Value)(w:World)(hn:¬ (kf=ck/\fn=tn))(_hf:fn<=1000)(_ht:tn<=1000) :
  Calls Tryz.prog 121 #[.agg #[.int .i64 kf,.slice fa fn fc],.agg #[.bool neg,.int .i64 ck,.slice ta tn tc],bv] w fun e w'=>Ol w none e w':=by
 by_cases hk:kf=ck
 ·subst hk
  have hd:(kf==kf)=true:=by simp
  have bZ:((fn:Int)==(tn:Int))=false:=by simp;intro h;exact hn ⟨rfl,by omega⟩
  clear hn;go_enter Tryz.func121,Tryz.ntmps121;go_wp2
  go_ret2
  refine⟨?_,rfl⟩;exact Ab (AA w _ none) (AA _ _ none)
 ·have hd:(kf==ck)=false:=by simpa using hk
  clear hn;go_enter Tryz.func121,Tryz.ntmps121;go_wp2
  go_ret2
  refine⟨?_,rfl⟩;exact Ab (AA w _ none) (AA _ _ none)
theorem Ug(f:Sv.Fact)(c:Sv.Cond)(fa ta:Option Addr)(fc tc:Nat)(bv:Value)(b:Sv.Bs)(w:World)
 (hf:IsAt 0 (.slice fa f.vals.length fc) f.vals w)(ht:TmsAt 0 (.slice ta c.terms.length tc) c.terms w)(hb:BsAt 0 bv b w)
 (hk:f.kind=c.kind)(hn:f.vals.length=c.terms.length)(ZK:c.terms.length<=4)(hbl:b.length<=100)(dV:∀t∈c.terms,M1 t)(r:Option Sv.Bs)(hr:B1 c.terms f.vals b=r) :
  Calls Tryz.prog 121 #[.agg #[.int .i64 f.kind,.slice fa f.vals.length fc],.agg #[.bool c.neg,.int .i64 c.kind,.slice ta c.terms.length tc],bv] w fun e w'=>Ol w r e w':=by
 have a7:=Ab (AA w (.cells #[.int .i64 f.kind,.slice fa f.vals.length fc] 37) none) (AA (w.alloc (.cells #[.int .i64 f.kind,.slice fa f.vals.length fc] 37)) (.cells #[.bool c.neg,.int .i64 c.kind,.slice ta c.terms.length tc] 166) none)
 have MO:C2 37 w.heap.size (.int .i64 f.kind) (.slice fa f.vals.length fc) ((w.alloc (.cells #[.int .i64 f.kind,.slice fa f.vals.length fc] 37)).alloc (.cells #[.bool c.neg,.int .i64 c.kind,.slice ta c.terms.length tc] 166)):=by
  unfold C2;rw[CY _ _ _ (by simp)];exact AR _ _
 have lC:C3 166 (w.heap.size+1) (.bool c.neg) (.int .i64 c.kind) (.slice ta c.terms.length tc) ((w.alloc (.cells #[.int .i64 f.kind,.slice fa f.vals.length fc] 37)).alloc (.cells #[.bool c.neg,.int .i64 c.kind,.slice ta c.terms.length tc] 166)):=by
  have:=AR (w.alloc (.cells #[.int .i64 f.kind,.slice fa f.vals.length fc] 37)) (.cells #[.bool c.neg,.int .i64 c.kind,.slice ta c.terms.length tc] 166);unfold C3;simpa using this
 have hd:(f.kind !=(c.kind:Int))=false:=by simpa using hk
 have bZ:((f.vals.length:Int) !=(c.terms.length:Int))=false:=by simp;omega
 have HR:=Ac hr;have HF:=Ac hf;have HT:=Ac ht;have HS:=Ac dV;have HK:=Ac hk;have HN:=Ac hn;clear hr hf ht dV hk hn;have cR:=hb.gr a7;go_enter Tryz.func121,Tryz.ntmps121
 go_wp2_with (at_builtin;refine Db rfl _ _ 231 rfl Tryz.underlying231 Tryz.infoBound rfl (by decide) rfl (RowAt.nil (w.heap.size+2) _ M7) rfl cR (fun y _=>Rd y) (by unfold maxLen;simp;omega) (by simp;omega) (by simp) ?_)
 intro v1 w1 aS hg1;have bC:=Ab a7 hg1;have iY:=MO.kept hg1 (by simp[Value.ownBlock]);have eh:=lC.kept hg1 (by simp[Value.ownBlock]);clear MO lC cR a7 hg1;have hb1:=aS.slice;obtain⟨lG,aW,rfl⟩:=hb1;clear hb hd bZ;go_wp2;go_loopw [8,9] (fun x y w'=>∃(k:Nat) (acc:Sv.Bs),k<=c.terms.length/\y=.int .i64 k/\BsAt (w.heap.size+2) x acc w'/\w.grownBy w' none/\w.heap.size+2<=w'.heap.size/\C2 37 w.heap.size (.int .i64 f.kind) (.slice fa f.vals.length fc) w'/\C3 166 (w.heap.size+1) (.bool c.neg) (.int .i64 c.kind) (.slice ta c.terms.length tc) w'/\acc.length<=b.length+k/\B1 (c.terms.drop k) (f.vals.drop k) acc=r) (fun _ y _=>c.terms.length-(intOf y).toNat)
 case atStart=>exact⟨0,b,AG _,rfl,aS,bC,by have:=eh.lt;omega,iY,eh,AW _,Aa HR⟩
 case round=>
  clear aS bC iY eh HR;obtain⟨k,acc,hk,rfl,aX,hg,rZ,hF,hC,uC,hr⟩:=hrel;obtain⟨bf,aC,rfl⟩:=aX.slice;obtain⟨f0,f1⟩:=hF.c;obtain⟨c0,c1,c2⟩:=hC.c;by_cases hlt:k<c.terms.length
  ·have hd:decide (k<c.terms.length)=true:=by simpa using hlt
   have hN:=Aa HN;obtain⟨tm,iJ⟩:∃tm,c.terms[k]?=some tm:=⟨c.terms[k],AB hlt⟩
   obtain⟨x,hx⟩:∃x,f.vals[k]?=some x:=⟨f.vals[k]'(by omega),AB (by omega)⟩
   rw[A0 iJ,A0 hx] at hr;have aK:=Aa HS tm (AV iJ);obtain⟨g,cp,hv,hcs⟩:=((Aa HT).gr hg).cells iJ;obtain⟨g2,QM,hv2,dQ⟩:=((Aa HF).gr hg).cells hx;simp only[AH,BP] at hv hv2;obtain⟨rfl,rfl⟩:=hv;obtain⟨rfl,rfl⟩:=hv2;have t0:wr.cell? ⟨g,k*3,none⟩=some (.int .u8 tm.letter.toNat):=hcs 0 (by omega);have t1:wr.cell? ⟨g,k*3+1,none⟩=some (.int .i64 tm.value):=hcs 1 (by omega);have t2:wr.cell? ⟨g,k*3+2,none⟩=some (.bool (tm.sort==0)):=hcs 2 (by omega);have x0:wr.cell? ⟨g2,k,none⟩=some (.int .i64 x):=by have:=dQ 0 (by omega);simpa[C1] using this
   have hkf:k<f.vals.length:=by omega
   clear hcs dQ iJ hx hN;unfold B1 at hr;have HR:=Ac hr;clear hr;rcases aK with hs|⟨hs,oD⟩|⟨hs,oD⟩
   ·have e:(tm.sort==0)=true:=by simp[hs]
    rw[e] at t2;have hr:=Aa HR;rw[AQ hs] at hr;have cD:=Ac hr;clear hr HR hs e;have aR:=AA wr (.cells #[.int .u8 tm.letter.toNat,.int .i64 tm.value,.bool true] 169) none;go_wp2;go_roundw
    case rel=>exact⟨k+1,acc,by omega,by go_num,aX.gr aR,Ab hg aR,AU rZ aR.size,hF.kept aR (by simp),hC.kept aR (by simp),by omega,Aa cD⟩
    case measure=>simp[intOf];omega
   ·have e:(tm.sort==0)=false:=by simp[hs]
    rw[e] at t2;have hr:=Aa HR;rw[AO (by omega),AQ hs] at hr;have cD:=Ac hr;clear hr HR hs e;have aR:=AA wr (.cells #[.int .u8 tm.letter.toNat,.int .i64 tm.value,.bool false] 169) none;have hdl:decide ((0:Int)<(tm.letter.toNat:Int))=true:=by simp;omega
    have hL:=Q2r _ acc tm.letter (wr.alloc (.cells #[.int .u8 tm.letter.toNat,.int .i64 tm.value,.bool false] 169)) _ (aX.gr aR) (by omega);cases hlk:Bc acc tm.letter with
    | none=>
     have hr:=Aa cD;rw[hlk] at hr hL;have HR:=Ac hr;clear hr cD hlk;go_wp2_with fail;refine hL.mono ?_;rintro e w2⟨rfl,hg2⟩;have bP:=Ab aR hg2;have cS:=aX.gr bP;have f12:=bP.cell f1 (by simp);have yC:=bP.cell x0 (by simp);have hF2:=hF.kept bP (by simp);have hC2:=hC.kept bP (by simp);have bM:=Ab hg bP;have tb0:=hg2.cell (a:=⟨wr.heap.size,0,none⟩) (v:=.int .u8 tm.letter.toNat) (by simp) (by simp);clear aR hL hg2;have xe:=Ah (AA w2 (.cells #[.int .u8 tm.letter.toNat,.int .i64 x] 283) none);have aG:BsAt 0 _ [(tm.letter,x)] (w2.alloc (.cells #[.int .u8 tm.letter.toNat,.int .i64 x] 283)).drew:=((RowAt.lit1 M7 w2 (tm.letter,x) #[.int .u8 tm.letter.toNat,.int .i64 x] rfl).weak (AG _)).heap rfl;have lX:=AU rZ bP.size;have qK:=cS.gr xe;have hb1:acc.length + [(tm.letter,x)].length<=maxLen:=by unfold maxLen;simp;omega
     have hb2:(acc.length + [(tm.letter,x)].length)*16<=140737488355328:=by simp;omega
     have hb3:w.heap.size+2<=(w2.alloc (.cells #[.int .u8 tm.letter.toNat,.int .i64 x] 283)).drew.heap.size:=AU lX xe.size;have fD:=Ac hb1;have fQ:=Ac hb2;clear hb1 hb2;go_wp2_with fail
     go_region_law (refine Yr rfl _ _ 231 rfl Tryz.underlying231 Tryz.infoBound rfl (by decide) (by simp[Act.eval]) qK (by simp[Act.eval]) aG (fun y _=>Rd y) (Aa fD) (Aa fQ) hb3 ?_;intro v3 w3 hv3 hg3)
     all_goals
      have hrow:=qK.own;have VS:=(hF2.kept xe (by simp)).kept hg3 (fun e=>by have:=hrow _ e.symm;omega);have jT:=(hC2.kept xe (by simp)).kept hg3 (fun e=>by have:=hrow _ e.symm;omega);have au:=C0 (Ab bM xe) hg3 (fun g hg=>by have:=(hrow g hg).1;omega);obtain⟨mo,b8,rfl⟩:=hv3.slice;have hs3:=AU hb3 hg3.size;simp only[AK,BC] at hv3;clear xe aG qK hb3 fD fQ cS hF2 hC2 hg3 hrow f12 yC tb0;go_wp2;go_roundw
      case rel=>exact⟨k+1,acc++[(tm.letter,x)],by omega,by go_num,hv3,au,hs3,VS,jT,by simp;omega,Aa HR⟩
      case measure=>simp[intOf];omega
    | some u=>
     have hr:=Aa cD;rw[hlk] at hr hL;have HR:=Ac hr;clear hr cD hlk;by_cases nZ:x=u
     ·have hr:=Aa HR
      simp only at hr;rw[AQ nZ] at hr;have cD:=Ac hr;have kN:(x !=u)=false:=by simpa using nZ
      clear hr HR nZ;go_wp2_with fail;refine hL.mono ?_;rintro e w2⟨rfl,hg2⟩;have bP:=Ab aR hg2;have f12:=bP.cell f1 (by simp);have yC:=bP.cell x0 (by simp);have hdx2:(x !=(some u).getD 0)=false:=kN;go_wp2;go_roundw
      case rel=>exact⟨k+1,acc,by omega,by go_num,aX.gr bP,Ab hg bP,AU rZ bP.size,hF.kept bP (by simp),hC.kept bP (by simp),by omega,Aa cD⟩
      case measure=>simp[intOf];omega
     ·have hr:=Aa HR
      simp only at hr;rw[AO nZ] at hr;subst hr;have kN:(x !=u)=true:=by simpa using nZ
      clear HR nZ;go_wp2_with fail;refine hL.mono ?_;rintro e w2⟨rfl,hg2⟩;have bP:=Ab aR hg2;have f12:=bP.cell f1 (by simp);have yC:=bP.cell x0 (by simp);go_wp2
      go_ret2
      exact⟨Ab hg bP,rfl⟩
   ·have e:(tm.sort==0)=false:=by simp[hs]
    rw[e] at t2;have hr:=Aa HR;rw[AO (by omega),AO (by omega)] at hr;have cD:=Ac hr;clear hr HR hs e;rw[oD] at t0;have t00:wr.cell? ⟨g,k*3,none⟩=some (.int .u8 0):=t0;clear t0;have aR:=AA wr (.cells #[.int .u8 0,.int .i64 tm.value,.bool false] 169) none;have f12:=aR.cell f1 (by simp);have yC:=aR.cell x0 (by simp);by_cases nZ:x=tm.value
    ·have hr:=Aa cD
     rw[AQ nZ] at hr;have HR:=Ac hr;have kN:(x !=tm.value)=false:=by simpa using nZ
     clear hr cD nZ oD;go_wp2;go_roundw
     case rel=>exact⟨k+1,acc,by omega,by go_num,aX.gr aR,Ab hg aR,AU rZ aR.size,hF.kept aR (by simp),hC.kept aR (by simp),by omega,Aa HR⟩
     case measure=>simp[intOf];omega
    ·have hr:=Aa cD
     rw[AO nZ] at hr;subst hr;have kN:(x !=tm.value)=true:=by simpa using nZ
     clear cD nZ oD;go_wp2
     go_ret2
     exact⟨Ab hg aR,rfl⟩
  ·have hd:decide (k<c.terms.length)=false:=by simpa using hlt
   have hN:=Aa HN;have e1:c.terms.drop k=[]:=BD (by omega);rw[e1] at hr;have hr2:some acc=r:=hr;subst hr2;go_wp2
   go_ret2
   exact⟨hg,_,rfl,aX.weak (by omega)⟩
end Go.Proofs.YtolhbeekfjnfmaaGreatDoor

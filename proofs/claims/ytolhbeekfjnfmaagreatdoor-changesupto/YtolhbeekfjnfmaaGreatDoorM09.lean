import Derived.Test.YtolhbeekfjnfmaaGreatDoorMA
import Derived.Test.YtolhbeekfjnfmaaGreatDoorM08
import Derived.Test.YtolhbeekfjnfmaaGreatDoorM06
set_option maxHeartbeats 8000000
set_option maxRecDepth 100000
namespace Go.Proofs.YtolhbeekfjnfmaaGreatDoor
open Go.RowKit
def Q4t(t:Sv.Term):List Value:=[.int .u8 t.letter.toNat,.int .i64 t.value,.bool (t.sort==0)]
abbrev TmsAt(base:Nat)(v:Value)(l:List Sv.Term)(w:World):Prop:=RowAt 169 3 Q4t base v l w
def Pe(w:World)(r:Option Sv.Bs)(e:Ending)(w':World):Prop:=
 w.grownBy w' none/\match r with
  | none=>e=.returned (.tuple #[.slice none 0 0,.bool false])
  | some b=>∃u,e=.returned (.tuple #[u,.bool true])/\BsAt w.heap.size u b w'
theorem Wg(kf ck:Int)(neg:Bool)(fa ta:Option Addr)(fn fc tn tc:Nat)(bv:Value)(w:World)(hn:¬ (kf=ck/\fn=tn))(_hf:fn<=1000)(_ht:tn<=1000) :
  Calls Tryz.prog 121 #[.agg #[.int .i64 kf,.slice fa fn fc],.agg #[.bool neg,.int .i64 ck,.slice ta tn tc],bv] w fun e w'=>Pe w none e w':=by
 by_cases hk:kf=ck
 ·subst hk
  have hd:(kf==kf)=true:=by simp
  have bm:((fn:Int)==(tn:Int))=false:=by simp;intro h;exact hn ⟨rfl,by omega⟩
  clear hn;go_enter Tryz.func121,Tryz.ntmps121;go_wp2
  go_ret2
  refine⟨?_,rfl⟩;exact Ab (AA w _ none) (AA _ _ none)
 ·have hd:(kf==ck)=false:=by simpa using hk
  clear hn;go_enter Tryz.func121,Tryz.ntmps121;go_wp2
  go_ret2
  refine⟨?_,rfl⟩;exact Ab (AA w _ none) (AA _ _ none)
theorem Td(f:Sv.Fact)(c:Sv.Cond)(fa ta:Option Addr)(fc tc:Nat)(bv:Value)(b:Sv.Bs)(w:World)
 (hf:IsAt 0 (.slice fa f.vals.length fc) f.vals w)(ht:TmsAt 0 (.slice ta c.terms.length tc) c.terms w)(hb:BsAt 0 bv b w)
 (hk:f.kind=c.kind)(hn:f.vals.length=c.terms.length)(ZY:c.terms.length<=4)(hbl:b.length<=100)(dt:∀t∈c.terms,Nw t)(r:Option Sv.Bs)(hr:B1 c.terms f.vals b=r) :
  Calls Tryz.prog 121 #[.agg #[.int .i64 f.kind,.slice fa f.vals.length fc],.agg #[.bool c.neg,.int .i64 c.kind,.slice ta c.terms.length tc],bv] w fun e w'=>Pe w r e w':=by
 have a7:=Ab (AA w (.cells #[.int .i64 f.kind,.slice fa f.vals.length fc] 37) none) (AA (w.alloc (.cells #[.int .i64 f.kind,.slice fa f.vals.length fc] 37)) (.cells #[.bool c.neg,.int .i64 c.kind,.slice ta c.terms.length tc] 166) none)
 have NL:C2 37 w.heap.size (.int .i64 f.kind) (.slice fa f.vals.length fc) ((w.alloc (.cells #[.int .i64 f.kind,.slice fa f.vals.length fc] 37)).alloc (.cells #[.bool c.neg,.int .i64 c.kind,.slice ta c.terms.length tc] 166)):=by
  unfold C2;rw[DF _ _ _ (by simp)];exact AR _ _
 have mV:C3 166 (w.heap.size+1) (.bool c.neg) (.int .i64 c.kind) (.slice ta c.terms.length tc) ((w.alloc (.cells #[.int .i64 f.kind,.slice fa f.vals.length fc] 37)).alloc (.cells #[.bool c.neg,.int .i64 c.kind,.slice ta c.terms.length tc] 166)):=by
  have:=AR (w.alloc (.cells #[.int .i64 f.kind,.slice fa f.vals.length fc] 37)) (.cells #[.bool c.neg,.int .i64 c.kind,.slice ta c.terms.length tc] 166);unfold C3;simpa using this
 have hd:(f.kind !=(c.kind:Int))=false:=by simpa using hk
 have bm:((f.vals.length:Int) !=(c.terms.length:Int))=false:=by simp;omega
 have HR:=Ac hr;have HF:=Ac hf;have HT:=Ac ht;have HS:=Ac dt;have HK:=Ac hk;have HN:=Ac hn;clear hr hf ht dt hk hn;have bu:=hb.gr a7;go_enter Tryz.func121,Tryz.ntmps121
 go_wp2_with (at_builtin;refine Df rfl _ _ 231 rfl Tryz.underlying231 Tryz.infoBound rfl (by decide) rfl (RowAt.nil (w.heap.size+2) _ Ns) rfl bu (fun y _=>R6 y) (by unfold maxLen;simp;omega) (by simp;omega) (by simp) ?_)
 intro v1 w1 aS hg1;have bG:=Ab a7 hg1;have jL:=NL.kept hg1 (by simp[Value.ownBlock]);have fM:=mV.kept hg1 (by simp[Value.ownBlock]);clear NL mV bu a7 hg1;have hb1:=aS.slice;obtain⟨mX,aX,rfl⟩:=hb1;clear hb hd bm;go_wp2;go_loopw [8,9] (fun x y w'=>∃(k:Nat) (acc:Sv.Bs),k<=c.terms.length/\y=.int .i64 k/\BsAt (w.heap.size+2) x acc w'/\w.grownBy w' none/\w.heap.size+2<=w'.heap.size/\C2 37 w.heap.size (.int .i64 f.kind) (.slice fa f.vals.length fc) w'/\C3 166 (w.heap.size+1) (.bool c.neg) (.int .i64 c.kind) (.slice ta c.terms.length tc) w'/\acc.length<=b.length+k/\B1 (c.terms.drop k) (f.vals.drop k) acc=r) (fun _ y _=>c.terms.length-(intOf y).toNat)
 case atStart=>exact⟨0,b,AG _,rfl,aS,bG,by have:=fM.lt;omega,jL,fM,AW _,Aa HR⟩
 case round=>
  clear aS bG jL fM HR;obtain⟨k,acc,hk,rfl,aY,hg,sT,hF,hC,ui,hr⟩:=hrel;obtain⟨br,aC,rfl⟩:=aY.slice;obtain⟨f0,f1⟩:=hF.c;obtain⟨c0,c1,c2⟩:=hC.c;by_cases hlt:k<c.terms.length
  ·have hd:decide (k<c.terms.length)=true:=by simpa using hlt
   have hN:=Aa HN;obtain⟨tm,j0⟩:∃tm,c.terms[k]?=some tm:=⟨c.terms[k],AB hlt⟩
   obtain⟨x,hx⟩:∃x,f.vals[k]?=some x:=⟨f.vals[k]'(by omega),AB (by omega)⟩
   rw[A0 j0,A0 hx] at hr;have aK:=Aa HS tm (AV j0);obtain⟨g,cp,hv,hcs⟩:=((Aa HT).gr hg).cells j0;obtain⟨g2,RM,hv2,dh⟩:=((Aa HF).gr hg).cells hx;simp only[AH,BP] at hv hv2;obtain⟨rfl,rfl⟩:=hv;obtain⟨rfl,rfl⟩:=hv2;have t0:wr.cell? ⟨g,k*3,none⟩=some (.int .u8 tm.letter.toNat):=hcs 0 (by omega);have t1:wr.cell? ⟨g,k*3+1,none⟩=some (.int .i64 tm.value):=hcs 1 (by omega);have t2:wr.cell? ⟨g,k*3+2,none⟩=some (.bool (tm.sort==0)):=hcs 2 (by omega);have x0:wr.cell? ⟨g2,k,none⟩=some (.int .i64 x):=by have:=dh 0 (by omega);simpa[C4] using this
   have hkf:k<f.vals.length:=by omega
   clear hcs dh j0 hx hN;unfold B1 at hr;have HR:=Ac hr;clear hr;rcases aK with hs|⟨hs,ow⟩|⟨hs,ow⟩
   ·have e:(tm.sort==0)=true:=by simp[hs]
    rw[e] at t2;have hr:=Aa HR;rw[AQ hs] at hr;have cR:=Ac hr;clear hr HR hs e;have aO:=AA wr (.cells #[.int .u8 tm.letter.toNat,.int .i64 tm.value,.bool true] 169) none;go_wp2;go_roundw
    case rel=>exact⟨k+1,acc,by omega,by go_num,aY.gr aO,Ab hg aO,AU sT aO.size,hF.kept aO (by simp),hC.kept aO (by simp),by omega,Aa cR⟩
    case measure=>simp[intOf];omega
   ·have e:(tm.sort==0)=false:=by simp[hs]
    rw[e] at t2;have hr:=Aa HR;rw[AO (by omega),AQ hs] at hr;have cR:=Ac hr;clear hr HR hs e;have aO:=AA wr (.cells #[.int .u8 tm.letter.toNat,.int .i64 tm.value,.bool false] 169) none;have hdl:decide ((0:Int)<(tm.letter.toNat:Int))=true:=by simp;omega
    have hL:=Q1i _ acc tm.letter (wr.alloc (.cells #[.int .u8 tm.letter.toNat,.int .i64 tm.value,.bool false] 169)) _ (aY.gr aO) (by omega);cases hlk:Bf acc tm.letter with
    | none=>
     have hr:=Aa cR;rw[hlk] at hr hL;have HR:=Ac hr;clear hr cR hlk;go_wp2_with fail;refine hL.mono ?_;rintro e w2⟨rfl,hg2⟩;have bF:=Ab aO hg2;have cy:=aY.gr bF;have f12:=bF.cell f1 (by simp);have yi:=bF.cell x0 (by simp);have hF2:=hF.kept bF (by simp);have hC2:=hC.kept bF (by simp);have bS:=Ab hg bF;have tb0:=hg2.cell (a:=⟨wr.heap.size,0,none⟩) (v:=.int .u8 tm.letter.toNat) (by simp) (by simp);clear aO hL hg2;have yI:=Ah (AA w2 (.cells #[.int .u8 tm.letter.toNat,.int .i64 x] 283) none);have aG:BsAt 0 _ [(tm.letter,x)] (w2.alloc (.cells #[.int .u8 tm.letter.toNat,.int .i64 x] 283)).drew:=((RowAt.lit1 Ns w2 (tm.letter,x) #[.int .u8 tm.letter.toNat,.int .i64 x] rfl).weak (AG _)).heap rfl;have mq:=AU sT bF.size;have r7:=cy.gr yI;have hb1:acc.length + [(tm.letter,x)].length<=maxLen:=by unfold maxLen;simp;omega
     have hb2:(acc.length + [(tm.letter,x)].length)*16<=140737488355328:=by simp;omega
     have hb3:w.heap.size+2<=(w2.alloc (.cells #[.int .u8 tm.letter.toNat,.int .i64 x] 283)).drew.heap.size:=AU mq yI.size;have fY:=Ac hb1;have gF:=Ac hb2;clear hb1 hb2;go_wp2_with fail
     go_region_law (refine Z9 rfl _ _ 231 rfl Tryz.underlying231 Tryz.infoBound rfl (by decide) (by simp[Act.eval]) r7 (by simp[Act.eval]) aG (fun y _=>R6 y) (Aa fY) (Aa gF) hb3 ?_;intro v3 w3 hv3 hg3)
     all_goals
      have hrow:=r7.own;have WN:=(hF2.kept yI (by simp)).kept hg3 (fun e=>by have:=hrow _ e.symm;omega);have jw:=(hC2.kept yI (by simp)).kept hg3 (fun e=>by have:=hrow _ e.symm;omega);have ax:=C0 (Ab bS yI) hg3 (fun g hg=>by have:=(hrow g hg).1;omega);obtain⟨np,bA,rfl⟩:=hv3.slice;have hs3:=AU hb3 hg3.size;simp only[AK,BC] at hv3;clear yI aG r7 hb3 fY gF cy hF2 hC2 hg3 hrow f12 yi tb0;go_wp2;go_roundw
      case rel=>exact⟨k+1,acc++[(tm.letter,x)],by omega,by go_num,hv3,ax,hs3,WN,jw,by simp;omega,Aa HR⟩
      case measure=>simp[intOf];omega
    | some u=>
     have hr:=Aa cR;rw[hlk] at hr hL;have HR:=Ac hr;clear hr cR hlk;by_cases oW:x=u
     ·have hr:=Aa HR
      simp only at hr;rw[AQ oW] at hr;have cR:=Ac hr;have lG:(x !=u)=false:=by simpa using oW
      clear hr HR oW;go_wp2_with fail;refine hL.mono ?_;rintro e w2⟨rfl,hg2⟩;have bF:=Ab aO hg2;have f12:=bF.cell f1 (by simp);have yi:=bF.cell x0 (by simp);have hdx2:(x !=(some u).getD 0)=false:=lG;go_wp2;go_roundw
      case rel=>exact⟨k+1,acc,by omega,by go_num,aY.gr bF,Ab hg bF,AU sT bF.size,hF.kept bF (by simp),hC.kept bF (by simp),by omega,Aa cR⟩
      case measure=>simp[intOf];omega
     ·have hr:=Aa HR
      simp only at hr;rw[AO oW] at hr;subst hr;have lG:(x !=u)=true:=by simpa using oW
      clear HR oW;go_wp2_with fail;refine hL.mono ?_;rintro e w2⟨rfl,hg2⟩;have bF:=Ab aO hg2;have f12:=bF.cell f1 (by simp);have yi:=bF.cell x0 (by simp);go_wp2
      go_ret2
      exact⟨Ab hg bF,rfl⟩
   ·have e:(tm.sort==0)=false:=by simp[hs]
    rw[e] at t2;have hr:=Aa HR;rw[AO (by omega),AO (by omega)] at hr;have cR:=Ac hr;clear hr HR hs e;rw[ow] at t0;have t00:wr.cell? ⟨g,k*3,none⟩=some (.int .u8 0):=t0;clear t0;have aO:=AA wr (.cells #[.int .u8 0,.int .i64 tm.value,.bool false] 169) none;have f12:=aO.cell f1 (by simp);have yi:=aO.cell x0 (by simp);by_cases oW:x=tm.value
    ·have hr:=Aa cR
     rw[AQ oW] at hr;have HR:=Ac hr;have lG:(x !=tm.value)=false:=by simpa using oW
     clear hr cR oW ow;go_wp2;go_roundw
     case rel=>exact⟨k+1,acc,by omega,by go_num,aY.gr aO,Ab hg aO,AU sT aO.size,hF.kept aO (by simp),hC.kept aO (by simp),by omega,Aa HR⟩
     case measure=>simp[intOf];omega
    ·have hr:=Aa cR
     rw[AO oW] at hr;subst hr;have lG:(x !=tm.value)=true:=by simpa using oW
     clear cR oW ow;go_wp2
     go_ret2
     exact⟨Ab hg aO,rfl⟩
  ·have hd:decide (k<c.terms.length)=false:=by simpa using hlt
   have hN:=Aa HN;have e1:c.terms.drop k=[]:=BD (by omega);rw[e1] at hr;have hr2:some acc=r:=hr;subst hr2;go_wp2
   go_ret2
   exact⟨hg,_,rfl,aY.weak (by omega)⟩
end Go.Proofs.YtolhbeekfjnfmaaGreatDoor

import Derived.Test.YtolhbeekfjnfmaaGreatDoorM11
import Derived.Test.YtolhbeekfjnfmaaGreatDoorM12
set_option maxHeartbeats 8000000
set_option maxRecDepth 100000
namespace Go.Proofs.YtolhbeekfjnfmaaGreatDoor
open Go.RowKit
abbrev DY:=@World.ownsRow.stored
variable {y base g n cap j j2 size W i k t:Nat}{rv lv cv fv v v1 v2 uv k0:Value}{w w':World}{α:Type}{l:List Int}{row:Option Nat}{m:Int}{e:TypeId}{c:Array Value}{S:Nat->Prop}{T T':Nat->Nat}{us:List (Value×Int)}
theorem X4(f:Sv.Fact)(fa:Option Addr)(fc:Nat)(w:World)(hf:InAt (.slice fa f.vals.length fc) f.vals w)(hl:f.vals.length<=maxLen) :
  Calls Tryz.prog 119 #[.agg #[.int .i64 f.kind,.slice fa f.vals.length fc]] w fun e w'=>e=.returned (.bool (Av f))/\w.grownBy w' none:=by
 have a7:=AA w (.cells #[.int .i64 f.kind,.slice fa f.vals.length fc] 37) none;have MO:C2 37 w.heap.size (.int .i64 f.kind) (.slice fa f.vals.length fc) (w.alloc (.cells #[.int .i64 f.kind,.slice fa f.vals.length fc] 37)):=AR _ _;unfold maxLen at hl;by_cases h:(decide (f.kind<0)||decide (9<f.kind)||decide (4<f.vals.length))=true
 ·have e:Av f=false:=by unfold Av;rw[h];rfl
  rw[e];clear e hf;by_cases h1:f.kind<0
  ·have d1:decide (f.kind<0)=true:=by simpa using h1
   go_enter Tryz.func119,Tryz.ntmps119;go_wp2;go_ret;exact⟨rfl,a7⟩
  ·have d1:decide (f.kind<0)=false:=by simpa using h1
   by_cases h2:9<f.kind
   ·have d2:decide (9<f.kind)=true:=by simpa using h2
    go_enter Tryz.func119,Tryz.ntmps119;go_wp2;go_ret;exact⟨rfl,a7⟩
   ·have d2:decide (9<f.kind)=false:=by simpa using h2
    have h3:4<f.vals.length:=by simpa[h1,h2] using h
    have d3:decide ((4:Int)<(f.vals.length:Int))=true:=by simp;omega
    clear h h1 h2;go_enter Tryz.func119,Tryz.ntmps119;go_wp2;go_ret;exact⟨rfl,a7⟩
 ·have hn:(decide (f.kind<0)||decide (9<f.kind)||decide (4<f.vals.length))=false:=by simpa using h
  have e:Av f=f.vals.all B2:=by unfold Av;rw[hn];rfl
  rw[e];rw[DD,DD] at hn;obtain⟨⟨d1,d2⟩,d3⟩:=hn;have h4:f.vals.length<=4:=by simpa using d3
  have d3':decide ((4:Int)<(f.vals.length:Int))=false:=by simp;omega
  obtain⟨R,hR⟩:∃R,f.vals.all B2=R:=⟨_,rfl⟩
  rw[hR];have HR:=Ac hR;have HF:=Ac hf;clear h e d3 hR hf;go_enter Tryz.func119,Tryz.ntmps119;go_wp2;go_loopw [3] (fun x w'=>∃i:Nat,i<=f.vals.length/\x=.int .i64 i/\w.grownBy w' none/\C2 37 w.heap.size (.int .i64 f.kind) (.slice fa f.vals.length fc) w'/\(f.vals.drop i).all B2=R) (fun x _=>f.vals.length-(intOf x).toNat)
  case atStart=>exact⟨0,AG _,rfl,a7,MO,Aa HR⟩
  case round=>
   clear a7 MO HR;obtain⟨i,hi,rfl,hg,hF,hR⟩:=hrel;obtain⟨f0,f1⟩:=hF.c;by_cases hlt:i<f.vals.length
   ·have hd:decide (i<f.vals.length)=true:=by simpa using hlt
    obtain⟨x,hx⟩:∃x,f.vals[i]?=some x:=⟨f.vals[i],AB hlt⟩
    rw[A0 hx,KL] at hR;obtain⟨g2,uj,rfl,x0⟩:=((Aa HF).gr hg).cell hx;clear hx;by_cases hx1:x < -999999999
    ·have dx:decide (x < -999999999)=true:=by simpa using hx1
     have hv:B2 x=false:=by unfold B2;rw[dx];rfl
     rw[hv,DT] at hR;subst hR;clear hv;go_wp2;go_ret;exact⟨rfl,hg⟩
    ·have dx:decide (x < -999999999)=false:=by simpa using hx1
     by_cases hx2:999999999<x
     ·have dy:decide (999999999<x)=true:=by simpa using hx2
      have hv:B2 x=false:=by unfold B2;rw[dx,dy];rfl
      rw[hv,DT] at hR;subst hR;clear hv;go_wp2;go_ret;exact⟨rfl,hg⟩
     ·have dy:decide (999999999<x)=false:=by simpa using hx2
      have hv:B2 x=true:=by unfold B2;rw[dx,dy];rfl
      rw[hv,EN] at hR;have HR:=Ac hR;clear hR hv;go_wp2;go_roundw
      case rel=>exact⟨i+1,by omega,by go_num,hg,hF,Aa HR⟩
      case measure=>simp[intOf];omega
   ·have hd:decide (i<f.vals.length)=false:=by simpa using hlt
    have e:f.vals.drop i=[]:=BD (by omega);rw[e] at hR;have hR2:true=R:=hR;subst hR2;go_wp2;go_ret;exact⟨rfl,hg⟩
theorem X3(f:Sv.Fact)(fa:Option Addr)(fc:Nat)(w:World)(hf:InAt (.slice fa f.vals.length fc) f.vals w)(hl:f.vals.length<=4) :
  Calls Tryz.prog 120 #[.agg #[.int .i64 f.kind,.slice fa f.vals.length fc]] w fun e w'=>∃ao cap,e=.returned (.agg #[.int .i64 f.kind,.slice ao f.vals.length cap])/\w.grownBy w' none/\IsAt w.heap.size (.slice ao f.vals.length cap) f.vals w':=by
 obtain⟨wA,jZ⟩:∃wA,((w.alloc (.cells #[.int .i64 f.kind,.slice fa f.vals.length fc] 37)).alloc (.cells #[.int .i64 0,.slice none 0 0] 37)).alloc (.cells #[.int .i64 f.kind,.slice none 0 0] 37)=wA:=⟨_,rfl⟩
 have a7:w.grownBy wA none:=by rw[<-jZ];exact Ab (AA w _ none) (Ab (AA _ _ none) (AA _ _ none))
 have fY:C2 37 (w.heap.size+1) (.int .i64 0) (.slice none 0 0) wA:=by
  rw[<-jZ];have:=AR (w.alloc (.cells #[.int .i64 f.kind,.slice fa f.vals.length fc] 37)) (.cells #[.int .i64 0,.slice none 0 0] 37);unfold C2;rw[CY _ _ _ (by simp)];simpa using this
 have gz:C2 37 (w.heap.size+1+1) (.int .i64 f.kind) (.slice none 0 0) wA:=by
  rw[<-jZ];have:=AR ((w.alloc (.cells #[.int .i64 f.kind,.slice fa f.vals.length fc] 37)).alloc (.cells #[.int .i64 0,.slice none 0 0] 37)) (.cells #[.int .i64 f.kind,.slice none 0 0] 37);unfold C2;simpa using this
 have jx:w.heap.size+3=wA.heap.size:=by rw[<-jZ];simp
 have tY:=hf.gr a7;have HWA:=Ac jZ;clear jZ;go_enter Tryz.func120,Tryz.ntmps120
 go_wp2_with (at_builtin;rw[Aa HWA];refine Gv rfl _ _ 35 rfl Tryz.underlying35 Tryz.infoInt rfl rfl (RowAt.nil (w.heap.size+3) _ At) rfl tY (by unfold maxLen;simp;omega) (by simp;omega) (DR jx) ?_)
 intro v1 w1 aS hg1;have eJ:wA.grownBy w1 none:=hg1;have hB1:=fY.kept eJ (by simp);have hB2:=gz.kept eJ (by simp);obtain⟨ao,cap,rfl⟩:=aS.slice;obtain⟨b0,b1⟩:=hB1.c;obtain⟨c0,c1⟩:=hB2.c;have bz0:=hB1.fz 0;have bz1:=hB1.fz 1;have cz0:=hB2.fz 0;have cz1:=hB2.fz 1;have bC:=Ab a7 eJ;clear HWA hg1 eJ fY gz a7;go_wp2;have k1:=Aj w1 (w.heap.size+1+1) 1 (.slice ao f.vals.length cap);have k2:=Ea (w1.setCell ⟨w.heap.size+1+1,1,none⟩ (.slice ao f.vals.length cap)) (w.heap.size+1) (.int .i64 f.kind) (.slice ao f.vals.length cap);have hR:=(hB1.kept k1 (by simp)).set2 (.int .i64 f.kind) (.slice ao f.vals.length cap);obtain⟨r0,r1⟩:=hR.c;have hown:=aS.own;have hv2:=((aS.other k1 (fun g hg e=>by have:=hown g hg;simp at e;omega)).other k2 (fun g hg e=>by have:=hown g hg;simp at e;omega)).weak (base':=w.heap.size) (by omega);have hg3:=Bi (Bi bC k1 (by omega)) k2 (by omega);exact BO (v:=.agg #[.int .i64 f.kind,.slice ao f.vals.length cap]) (by simp[results,Tryz.results120,go_sem,r0,r1]) rfl ⟨ao,cap,rfl,hg3,hv2⟩
def Q1c(r:Nat ⊕ List Sv.Rule)(w:World)(e:Ending)(w':World):Prop:=
 w.grownBy w' none/\match r with
  | .inl k=>e=.returned (.tuple #[.pointer none,.int .i64 k])
  | .inr rs=>∃y rv,e=.returned (.tuple #[.pointer (some ⟨y,0,none⟩),.int .i64 0])/\w.heap.size<=y/\(∃w1,VRsAt w.heap.size rv rs w1/\w1.heap.size<=y/\w1.grownBy w' none)/\YAt y rv (.slice none 0 0) (.int .i64 0) (.slice none 0 0) rs [] w'
theorem Q39(s:ByteArray)(w:World)(hm:s.size<=maxLen) :
  Calls Tryz.prog 52 #[.string s] w fun e w'=>Q1c (Bg s.data.toList) w e w':=by
 have hp:=N0 s w hm
 have key:∀e w',E5 w s e w'->w.grownBy w' none/\match Bg s.data.toList with
   | .inl k=>∃n,e=.returned (.tuple #[.slice none 0 0,.int .i64 n,.int .i64 k])/\(k=1\/k=2)
   | .inr rs=>∃u,e=.returned (.tuple #[u,.int .i64 rs.length,.int .i64 0])/\VRsAt w.heap.size u rs w':=by
  rintro e w'⟨hg,h⟩;refine⟨hg,?_⟩;unfold Bg;rw[Ae];by_cases h4:400<s.size
  ·rw[AQ h4] at h⊢
   exact⟨0,h,.inr rfl⟩
  ·rw[AO h4] at h⊢
   cases hr:Bn s.data.toList with
   | inl k=>
    rw[hr] at h;exact⟨k,h,.inl rfl⟩
   | inr rs=>
    rw[hr] at h;simp only at h⊢;cases hx:D6 rs
    ·rw[hx] at h
     simpa using h
    ·rw[hx] at h
     exact⟨0,by simpa using h,.inr rfl⟩
 generalize Bg s.data.toList=R at key⊢;have KEY:=Ac key;clear key;cases R with
 | inl k=>
  go_enter Tryz.func52,Tryz.ntmps52;go_wp2_with fail;refine hp.mono ?_;intro e w1 aN;obtain⟨hg1,n,rfl,hk⟩:=Aa KEY e w1 aN;clear aN KEY hp;have hd:((k:Int) !=0)=true:=by rcases hk with rfl|rfl<;>rfl
  go_wp2
  go_ret2
  exact⟨hg1,rfl⟩
 | inr rs=>
  go_enter Tryz.func52,Tryz.ntmps52;go_wp2_with fail;refine hp.mono ?_;intro e w1 aN;obtain⟨hg1,u,rfl,hu⟩:=Aa KEY e w1 aN;obtain⟨ao,cap,rfl⟩:=hu.slice;clear aN KEY hp;go_wp2
  go_ret2
  have a7:=AA w1 (.cells #[.slice ao rs.length cap,.slice none 0 0,.int .i64 0,.slice none 0 0] 172) none;refine⟨Ab hg1 a7,w1.heap.size,.slice ao rs.length cap,rfl,hg1.size,⟨w1,hu,AW _,a7⟩,AR _ _,?_,RowAt.nil _ _ Gi,by simp⟩;have uw:VRsAt 0 (.slice ao rs.length cap) rs w1:=hu.weak (AG _);exact uw.none a7
theorem C2.al2(w:World)(x y u v:Value)(T T':TypeId):C2 T w.heap.size x y ((w.alloc (.cells #[x,y] T)).alloc (.cells #[u,v] T'))/\C2 T' (w.heap.size+1) u v ((w.alloc (.cells #[x,y] T)).alloc (.cells #[u,v] T')):=by
 constructor
 ·unfold C2;rw[CY _ _ _ (by simp)];exact AR _ _
 ·have:=AR (w.alloc (.cells #[x,y] T)) (.cells #[u,v] T')
  unfold C2;simpa using this
theorem Rm{x y:Int}{a b:List Int}:decide (x::a=y::b)=(decide (x=y)&&decide (a=b)):=by
 by_cases h1:x=y<;>by_cases h2:a=b<;>simp[h1,h2]
theorem Q0z(m k:VMt):decide (m.of=k.of)=(decide (m.rule=k.rule)&&decide (m.ids=k.ids)):=by
 unfold VMt.of;by_cases h1:m.rule=k.rule<;>by_cases h2:m.ids=k.ids<;>simp[h1,h2]
theorem Q2p(a b:VMt)(aa ba:Option Addr)(ac bc:Nat)(w:World)(ha:IsAt 0 (.slice aa a.ids.length ac) a.ids w)(hb:IsAt 0 (.slice ba b.ids.length bc) b.ids w) :
  Calls Tryz.prog 122 #[.agg #[.int .i64 a.rule,.slice aa a.ids.length ac],.agg #[.int .i64 b.rule,.slice ba b.ids.length bc]] w fun e w'=>e=.returned (.bool (decide (a.of=b.of)))/\w.grownBy w' none:=by
 rw[Q0z];have fU:=ha.le;unfold maxLen at fU;have a7:=Dm w (.cells #[.int .i64 a.rule,.slice aa a.ids.length ac] 52) (.cells #[.int .i64 b.rule,.slice ba b.ids.length bc] 52);obtain⟨hA,hB⟩:=C2.al2 w (.int .i64 a.rule) (.slice aa a.ids.length ac) (.int .i64 b.rule) (.slice ba b.ids.length bc) 52 52;by_cases hr:a.rule=b.rule
 ·have hd:(a.rule !=b.rule)=false:=by simpa using hr
  have e1:decide (a.rule=b.rule)=true:=by simpa using hr
  rw[e1,EN];clear e1 hr;by_cases hl:a.ids.length=b.ids.length
  ·have bZ:((a.ids.length:Int) !=(b.ids.length:Int))=false:=by simp;omega
   have HL:=Ac hl;have HA:=Ac ha;have HB:=Ac hb;obtain⟨R,hR⟩:∃R,decide (a.ids=b.ids)=R:=⟨_,rfl⟩
   rw[hR];have HR:=Ac hR;clear hl ha hb hR;go_enter Tryz.func122,Tryz.ntmps122;go_wp2;go_loopw [5] (fun x w'=>∃i:Nat,i<=a.ids.length/\x=.int .i64 i/\w.grownBy w' none/\C2 52 w.heap.size (.int .i64 a.rule) (.slice aa a.ids.length ac) w'/\C2 52 (w.heap.size+1) (.int .i64 b.rule) (.slice ba b.ids.length bc) w'/\decide (a.ids.drop i=b.ids.drop i)=R) (fun x _=>a.ids.length-(intOf x).toNat)
   case atStart=>exact⟨0,AG _,rfl,a7,hA,hB,Aa HR⟩
   case round=>
    clear a7 hA hB HR;obtain⟨i,hi,rfl,hg,hA,hB,hR⟩:=hrel;obtain⟨a0,a1⟩:=hA.c;obtain⟨b0,b1⟩:=hB.c;by_cases hlt:i<a.ids.length
    ·have cY:decide (i<a.ids.length)=true:=by simpa using hlt
     have hL:=Aa HL;have pR:i<b.ids.length:=by omega
     obtain⟨x,hx⟩:∃x,a.ids[i]?=some x:=⟨a.ids[i],AB hlt⟩
     obtain⟨y,hy⟩:∃y,b.ids[i]?=some y:=⟨b.ids[i],AB pR⟩
     rw[A0 hx,A0 hy,Rm] at hR;obtain⟨g,cp,hv,hcs⟩:=((Aa HA).gr hg).cells hx;obtain⟨g2,QM,hv2,dQ⟩:=((Aa HB).gr hg).cells hy;simp only[AH,BP] at hv hv2;obtain⟨rfl,rfl⟩:=hv;obtain⟨rfl,rfl⟩:=hv2;have x0:wr.cell? ⟨g,i,none⟩=some (.int .i64 x):=by have:=hcs 0 (by omega);simpa[C1] using this
     have y0:wr.cell? ⟨g2,i,none⟩=some (.int .i64 y):=by have:=dQ 0 (by omega);simpa[C1] using this
     clear hcs dQ hx hy hL;by_cases dn:x=y
     ·have kN:(x !=y)=false:=by simpa using dn
      have e2:decide (x=y)=true:=by simpa using dn
      rw[e2,EN] at hR;have HR:=Ac hR;clear hR e2 dn;go_wp2;go_quiet (fail);go_wp2;go_roundw
      case rel=>exact⟨i+1,by omega,by go_num,Ab hg (Af _ _ _),hA,hB,Aa HR⟩
      case measure=>simp[intOf];omega
     ·have kN:(x !=y)=true:=by simpa using dn
      have e2:decide (x=y)=false:=by simpa using dn
      rw[e2,DT] at hR;subst hR;clear e2 dn;go_wp2;go_quiet (fail);go_wp2;go_ret;exact⟨rfl,Ab hg (Af _ _ _)⟩
    ·have cY:decide (i<a.ids.length)=false:=by simpa using hlt
     have hL:=Aa HL;rw[BD (by omega),BD (by omega)] at hR;have hR2:true=R:=by simpa using hR
     subst hR2;clear hR hL;go_wp2;go_ret;exact⟨rfl,hg⟩
  ·have bZ:((a.ids.length:Int) !=(b.ids.length:Int))=true:=by simp;omega
   have e1:decide (a.ids=b.ids)=false:=by
    simp only[decide_eq_false_iff_not];intro h;exact hl (by rw[h])
   rw[e1];clear e1 hl ha hb;go_enter Tryz.func122,Tryz.ntmps122;go_wp2;go_ret;exact⟨rfl,a7⟩
 ·have hd:(a.rule !=b.rule)=true:=by simpa using hr
  have e1:decide (a.rule=b.rule)=false:=by simpa using hr
  rw[e1,DT];clear e1 hr ha hb;go_enter Tryz.func122,Tryz.ntmps122;go_wp2;go_ret;exact⟨rfl,a7⟩
theorem Q1a(ms:List VMt)(v:Value)(x:VMt)(xa:Option Addr)(xc:Nat)(w:World)(cV:MsAt 0 v ms w)(hx:IsAt 0 (.slice xa x.ids.length xc) x.ids w) :
  Calls Tryz.prog 86 #[v,.agg #[.int .i64 x.rule,.slice xa x.ids.length xc]] w fun e w'=>e=.returned (.bool (Dv (ms.map VMt.of) x.of))/\w.grownBy w' none:=by
 obtain⟨ao,cap,rfl⟩:=cV.slice;have hle:=cV.1.le;unfold maxLen at hle;have a7:=AA w (.cells #[.int .i64 x.rule,.slice xa x.ids.length xc] 52) none;have hX:C2 52 w.heap.size (.int .i64 x.rule) (.slice xa x.ids.length xc) (w.alloc (.cells #[.int .i64 x.rule,.slice xa x.ids.length xc] 52)):=AR _ _;have HM:=Ac cV;have HX:=Ac hx;obtain⟨R,hR⟩:∃R,Dv (ms.map VMt.of) x.of=R:=⟨_,rfl⟩
 rw[hR];have HR:=Ac hR;clear cV hx hR;go_enter Tryz.func86,Tryz.ntmps86;go_wp2;go_loopw [5] (fun z w'=>∃i:Nat,i<=ms.length/\z=.int .i64 i/\w.grownBy w' none/\C2 52 w.heap.size (.int .i64 x.rule) (.slice xa x.ids.length xc) w'/\Dv ((ms.drop i).map VMt.of) x.of=R) (fun z _=>ms.length-(intOf z).toNat)
 case atStart=>exact⟨0,AG _,rfl,a7,hX,Aa HR⟩
 case round=>
  clear a7 hX HR;obtain⟨i,hi,rfl,hg,hX,hR⟩:=hrel;obtain⟨x0,x1⟩:=hX.c;by_cases hlt:i<ms.length
  ·have cY:decide (i<ms.length)=true:=by simpa using hlt
   obtain⟨m,hm⟩:∃m,ms[i]?=some m:=⟨ms[i],AB hlt⟩
   rw[A0 hm,DN] at hR;obtain⟨g,cp,hv,hcs⟩:=((Aa HM).1.gr hg).cells hm;simp only[AH,BP] at hv;obtain⟨rfl,rfl⟩:=hv;have m0:wr.cell? ⟨g,i*2,none⟩=some (.int .i64 m.rule):=hcs 0 (by omega);have m1:wr.cell? ⟨g,i*2+1,none⟩=some m.v:=hcs 1 (by omega);have gG:=(Aa HM).2 m (AV hm);obtain⟨ma,mc,kD⟩:=gG.slice;rw[kD] at m1 gG;have hS:=fun(W:World) (hW:wr.grownBy W none)=>Q2p m x ma xa mc xc W (gG.gr (Ab hg hW)) ((Aa HX).gr (Ab hg hW))
   have hR2:(decide (m.of=x.of)||Dv ((ms.drop (i+1)).map VMt.of) x.of)=R:=hR;have HR:=Ac hR2;clear hR hR2 hcs hm gG kD;obtain⟨d,hd⟩:∃d,decide (m.of=x.of)=d:=⟨_,rfl⟩
   rw[hd] at hS;have HD:=Ac hd;clear hd;go_wp2_with fail
   go_cut [6] (fun s wx=>s=.bool d/\wr.grownBy wx none)
   case first=>
    go_region_with (go_at_call 122;refine(hS _ (by repeat (first|exact AD _ _|apply Ah))).mono ?_;rintro e w2⟨rfl,hg2⟩)
    all_goals
     go_wp2_with fail;go_meet
     exact⟨rfl,Ab (Ah (AD _ _)) hg2⟩
   case rest=>
    obtain⟨rfl,hg2⟩:=hcut;have bI:=Ab hg hg2;have PZ:=hX.kept hg2 (by simp);have fN:=Aa HR;rw[Aa HD] at fN;clear HR HD hS hg2;cases d
    ·rw[EM] at fN
     have HR:=Ac fN;clear fN;go_wp2;go_roundw
     case rel=>exact⟨i+1,by omega,by go_num,bI,PZ,Aa HR⟩
     case measure=>simp[intOf];omega
    ·rw[Bool.true_or] at fN
     subst fN;go_wp2;go_ret;exact⟨rfl,bI⟩
  ·have cY:decide (i<ms.length)=false:=by simpa using hlt
   rw[BD (by omega)] at hR;have hR2:false=R:=hR;subst hR2;clear hR;go_wp2;go_ret;exact⟨rfl,hg⟩
theorem YAt.rowOk{rs:List Sv.Rule}{L:List VTh}(h:YAt y rv lv cv fv rs L w):RowOk 0 172 (some y) w:=by
 intro g hg;simp only[AE] at hg;subst hg;exact⟨AG _,_,_,h.blk⟩
theorem YAt.fz{rs:List Sv.Rule}{L:List VTh}(h:YAt y rv lv cv fv rs L w)(o:Nat):w.frozen? ⟨y,o,none⟩=false:=by
 have:=h.blk;simp[World.frozen?,this]
theorem YAt.set3{rs:List Sv.Rule}{L:List VTh}(h:YAt y rv lv cv fv rs L w)(u:Value):YAt y rv lv cv u rs L (w.setCell ⟨y,3,none⟩ u):=by
 have hg:=Aj w y 3 u;refine⟨?_,h.rules.row hg h.rowOk (by decide) (by decide) (by decide),h.facts.row hg h.rowOk (by decide),fun t ht=>⟨(h.vals t ht).1.row hg h.rowOk (by decide),(h.vals t ht).2⟩⟩;rw[BB w y 3 _ _ _ h.blk];rfl
theorem MsAt.ybl{ms:List VMt}(h:MsAt base v ms w){rs:List Sv.Rule}{L:List VTh}(hy:YAt y rv lv cv fv rs L w)(hg:w.grownBy w' (some y)):MsAt base v ms w':=
 ⟨h.1.row hg hy.rowOk (by decide),fun m hm=>(h.2 m hm).row hg hy.rowOk (by decide)⟩
theorem MsAt.weak{base base':Nat}{v:Value}{ms:List VMt}{w:World}(h:MsAt base v ms w)(hb:base'<=base):MsAt base' v ms w:=⟨h.1.weak hb,fun m hm=>(h.2 m hm).weak hb⟩
theorem Im(p:α->Bool)(a:α):[a].filter p=if p a=true then [a] else []:=by
 cases h:p a<;>simp[h]
def Ic(y:Nat)(rv lv cv:Value)(rs:List Sv.Rule)(L:List VTh)(fd:List VMt)(w:World)(e:Ending)(w':World):Prop:=
 e=.returned (.tuple #[])/\w.grownBy w' (some y)/\∃af iA,YAt y rv lv cv af rs L w'/\MsAt 0 af iA w'/\iA.map VMt.of=Bp (Al rs (L.map VTh.of)) (fd.map VMt.of)/\(∀m∈iA,m∈fd)/\∀g,af.ownBlock=some g->w.heap.size<=g
theorem Ph(y:Nat)(rv lv cv fv:Value)(rs:List Sv.Rule)(L:List VTh)(w:World)(hy:YAt y rv lv cv fv rs L w)(hf:MsAt 0 fv [] w) :
  Calls Tryz.prog 85 #[.pointer (some ⟨y,0,none⟩)] w fun e w'=>Ic y rv lv cv rs L [] w e w':=by
 obtain⟨ao,cap,rfl⟩:=hf.slice;obtain⟨y0,y1,y2,y3⟩:=hy.c;have z3:=hy.fz 3;have HY:=Ac hy;clear hy y0 y1 y2;go_enter Tryz.func85,Tryz.ntmps85;go_wp2;go_end0
 exact⟨rfl,Aj w y 3 _,.slice none 0 0,[],(Aa HY).set3 _,⟨RowAt.nil _ _ C4,by simp⟩,rfl,by simp,by simp[Value.ownBlock]⟩
theorem Pi(y:Nat)(rv lv cv fv:Value)(rs:List Sv.Rule)(L:List VTh)(fd:List VMt)(w:World)(hy:YAt y rv lv cv fv rs L w)(aK:Sv.RsOk rs)(hL:L.length<=16)(hf:MsAt 0 fv fd w)(hne:0<fd.length)(hfb:fd.length<=1000000) :
  Calls Tryz.prog 85 #[.pointer (some ⟨y,0,none⟩)] w fun e w'=>Ic y rv lv cv rs L fd w e w':=by
 obtain⟨ao,cap,rfl⟩:=hf.slice;obtain⟨y0,y1,y2,y3⟩:=hy.c;have hd:decide ((0:Int)<(fd.length:Int))=true:=by simp;omega
 have hM:=Ir y rv lv cv _ rs L w hy aK hL;have HY:=Ac hy;have HF:=Ac hf;have jh:=Ac hne;clear hy hf y0 y1 y2 aK hne;go_enter Tryz.func85,Tryz.ntmps85;go_wp2_with fail;refine hM.mono ?_;rintro e w1⟨u,ms,rfl,cV,hmap,hg1⟩;obtain⟨aoM,wm,rfl⟩:=cV.slice;have WY:=Ac (cV.weak (AG _));have xG:=Ac hmap;clear hmap hM cV;go_wp2;go_loopw [2,4] (fun x z w'=>∃(i:Nat) (acc:List VMt),i<=fd.length/\z=.int .i64 i/\w1.grownBy w' none/\RowAt 52 2 mtenc w1.heap.size x acc w'/\(∀m∈acc,m∈fd)/\acc.length<=i/\acc.map VMt.of=Bp (ms.map VMt.of) ((fd.take i).map VMt.of)) (fun _ z _=>fd.length-(intOf z).toNat)
 case atStart=>exact⟨0,[],AG _,rfl,AD _ _,RowAt.nil _ _ C4,by simp,AW _,by simp[Bp]⟩
 case round=>
  obtain⟨i,acc,hi,rfl,hg,aX,cg,uC,hk⟩:=hrel;obtain⟨kZ,eC,rfl⟩:=aX.slice;have hg0:=Ab hg1 hg;have XN:=hg0.cell y3 (by simp);have QV:=Ac cg;have HK:=Ac hk;clear cg hk;by_cases hlt:i<fd.length
  ·have cY:decide (i<fd.length)=true:=by simpa using hlt
   obtain⟨m,hm⟩:∃m,fd[i]?=some m:=⟨fd[i],AB hlt⟩
   have hmm:=AV hm;obtain⟨g,cp,hv,hcs⟩:=((Aa HF).1.gr hg0).cells hm;simp only[AH,BP] at hv;obtain⟨rfl,rfl⟩:=hv;have m0:wr.cell? ⟨g,i*2,none⟩=some (.int .i64 m.rule):=hcs 0 (by omega);have m1:wr.cell? ⟨g,i*2+1,none⟩=some m.v:=hcs 1 (by omega);have gG:=(Aa HF).2 m hmm;obtain⟨ma,mc,kD⟩:=gG.slice;rw[kD] at m1 gG;have hH:=Q1a ms _ m ma mc wr ((Aa WY).gr hg) (gG.gr hg0)
   have hst:Bp (ms.map VMt.of) ((fd.take (i+1)).map VMt.of)=acc.map VMt.of++(if Dv (ms.map VMt.of) m.of=true then [m.of] else []):=by
    rw[C9 VMt.of fd i m hm,Aa HK];unfold Bp;rw[DI];congr 1
    exact Im _ _
   obtain⟨d,bZ⟩:∃d,Dv (ms.map VMt.of) m.of=d:=⟨_,rfl⟩
   rw[bZ] at hst hH;have HST:=Ac hst;have HMM:=Ac hmm;have uY:=Ac kD;clear hst hcs hm gG bZ HK hmm kD;go_wp2_with fail;refine hH.mono ?_;rintro e w2⟨rfl,hg2⟩;have bI:=Ab hg hg2;have cS:=aX.gr hg2;have y32:=hg2.cell XN (by simp);have YC:=hg2.cell m0 (by simp);have m12:=hg2.cell m1 (by simp);clear hH hg hg2 aX XN m0 m1 hg0;cases d
   ·have hst:=Aa HST
    simp only[BZ,if_false,BM] at hst;have WR:=Ac hst;clear hst HST;go_wp2;go_roundw
    case rel=>exact⟨i+1,acc,by omega,by go_num,bI,cS,Aa QV,by omega,(Aa WR).symm⟩
    case measure=>simp[intOf];omega
   ·have hst:=Aa HST
    simp only[if_true] at hst;have WR:=Ac hst;clear hst HST;have a7:=AA w2 (.cells #[.int .i64 m.rule,.slice ma m.ids.length mc] 52) none;have ir:=cS.gr a7;have aG:RowAt 52 2 mtenc 0 _ [m] (w2.alloc (.cells #[.int .i64 m.rule,.slice ma m.ids.length mc] 52)):=(RowAt.lit1 C4 w2 m #[.int .i64 m.rule,.slice ma m.ids.length mc] (by unfold mtenc;rw[Aa uY])).weak (AG _)
    have bg:∀k∈[m],∀c∈mtenc k,c.oneCell'=true:=by
     intro k hk;simp only[AX] at hk;subst hk;exact Gg k (by rw[Aa uY];rfl)
    have eP:=Ac bg;clear bg;have er:=ir.own;have RX:=AU bI.size a7.size
    go_wp2_with (at_builtin;refine Db rfl _ _ 43 rfl Tryz.underlying43 Tryz.infoMatch rfl (by decide) rfl ir rfl aG (Aa eP) (by unfold maxLen;simp;omega) (by simp;omega) RX ?_)
    intro v5 w5 ax aY;obtain⟨QP,sP,rfl⟩:=ax.slice;have jH:=C0 (Ab bI a7) aY (fun x hx=>(er x hx).1);clear aG eP ir er a7 aY;go_wp2;go_roundw
    case rel=>
     refine⟨i+1,acc++[m],by omega,by go_num,jH,ax,?_,by simp;omega,?_⟩
     ·intro k hk
      rcases AY.1 hk with hk|hk
      ·exact Aa QV k hk
      ·simp only[AX] at hk
       subst hk;exact Aa HMM
     ·rw[CG,Aa WR];rfl
    case measure=>simp[intOf];omega
  ·have cY:decide (i<fd.length)=false:=by simpa using hlt
   have hall:fd.take i=fd:=CA (by omega);have hk:=Aa HK;rw[hall,Aa xG] at hk;have ji:=Ac hk;clear hk hall HK;have hy':=(Aa HY).gr hg0;have z3:=hy'.fz 3;have SZ:MsAt 0 (.slice kZ acc.length eC) acc wr:=⟨aX.weak (AG _),fun m hm=>((Aa HF).2 m (Aa QV m hm)).gr hg0⟩
   have er:=aX.own;have fj:=hg1.size;go_wp2;go_end0
   have aZ:=Aj wr y 3 (.slice kZ acc.length eC);exact⟨rfl,Ab (A6 hg0 _) aZ,_,acc,hy'.set3 _,SZ.ybl hy' aZ,Aa ji,Aa QV,fun g ar=>by have:=(er g ar).1;omega⟩
theorem Pj(y:Nat)(rv lv cv fv:Value)(rs:List Sv.Rule)(L:List VTh)(fd:List VMt)(w:World)(hy:YAt y rv lv cv fv rs L w)(aK:Sv.RsOk rs)(hL:L.length<=16)(hf:MsAt 0 fv fd w)(hfb:fd.length<=1000000) :
  Calls Tryz.prog 85 #[.pointer (some ⟨y,0,none⟩)] w fun e w'=>Ic y rv lv cv rs L fd w e w':=by
 cases fd with
 | nil=>exact Ph y rv lv cv fv rs L w hy hf
 | cons m fd=>exact Pi y rv lv cv fv rs L (m::fd) w hy aK hL hf (by simp) hfb
structure VFt where
 kind:Int
 v:Value
 vals:List Int
def ftenc(f:VFt):List Value:=[.int .i64 f.kind,f.v]
theorem Cz(f:VFt):(ftenc f).length=2:=rfl
theorem Tryz.infoFact:(Tryz.prog.info? 37).map (fun i=>(i.zero,i.size,i.bytes))=some (some (.agg #[.int .i64 0,.slice none 0 0]),2,32):=by kernel_rfl
def InH(t:Nat):Prop:=13<=t/\t%3=1
structure Hand(T:Nat->Nat)(e:TypeId)(v:Value)(xs:List VFt)(w:World):Prop where
 row:TRow T 13 e 2 ftenc v xs w
 els:∀i x,xs[i]?=some x->TRow T (13+3*(i+1)) 3 1 C1 x.v x.vals w/\x.vals.length<=1000000
def VTh.ft(t:VTh):VFt:=⟨t.kind,t.v,t.vals⟩
theorem Tryz.infoThere:(Tryz.prog.info? 176).map (fun i=>(i.zero,i.size,i.bytes))=some (some (.agg #[.int .i64 0,.int .i64 0,.slice none 0 0]),3,40):=by kernel_rfl
def Ul(L:List VTh)(w:World)(e:Ending)(w':World):Prop:=
 ∃a l,e=.returned (.tuple #[a,l])/\IsAt w.heap.size a (L.map VTh.id) w'/\RowAt 37 2 ftenc w.heap.size l (L.map VTh.ft) w'/\w.grownBy w' none
theorem InAt.none(h:InAt v [] w):InAt v [] w':=by
 rcases h with h1|⟨a,cap,h1,h2,_⟩
 ·exact .inl h1
 ·exact .inr ⟨a,cap,h1,h2,by simp⟩
theorem InAt.kept'(h:InAt v l w)(hg:w.grownBy w' row)(hne:l≠[]->∀g,v.ownBlock=some g->row≠some g):InAt v l w':=by
 by_cases hl:l=[]
 ·subst hl;exact h.none
 ·exact h.kept hg (hne hl)
theorem Q0j(y:Nat)(rv lv cv fv:Value)(rs:List Sv.Rule)(L:List VTh)(w:World)(hy:YAt y rv lv cv fv rs L w)(hL:L.length<=16) :
  Calls Tryz.prog 81 #[.pointer (some ⟨y,0,none⟩)] w fun e w'=>Ul L w e w':=by
 obtain⟨y0,y1,y2,y3⟩:=hy.c;obtain⟨oq,gA,rfl⟩:=hy.facts.slice;have HY:=Ac hy;clear hy y0 y2 y3;go_enter Tryz.func81,Tryz.ntmps81;go_wp2;go_loopw [4,5,6] (fun a l z w'=>∃i:Nat,i<=L.length/\z=.int .i64 i/\w.grownBy w' none/\IsAt w.heap.size a ((L.take i).map VTh.id) w'/\RowAt 37 2 ftenc w.heap.size l ((L.take i).map VTh.ft) w') (fun _ _ z _=>L.length-(intOf z).toNat)
 case atStart=>exact⟨0,AG _,rfl,AD _ _,RowAt.nil _ _ At,RowAt.nil _ _ Cz⟩
 case round=>
  obtain⟨i,hi,rfl,hg,ha,hl⟩:=hrel;by_cases hlt:i<L.length
  ·have cY:decide (i<L.length)=true:=by simpa using hlt
   obtain⟨t,ht⟩:∃t,L[i]?=some t:=⟨L[i],AB hlt⟩
   have sZ:=hg.cell y1 (by simp);obtain⟨g,cp,hv,hcs⟩:=((Aa HY).facts.gr hg).cells ht;simp only[AH,BP] at hv;obtain⟨rfl,rfl⟩:=hv;have t0:wr.cell? ⟨g,i*3,none⟩=some (.int .i64 t.id):=hcs 0 (by omega);have t1:wr.cell? ⟨g,i*3+1,none⟩=some (.int .i64 t.kind):=hcs 1 (by omega);have t2:wr.cell? ⟨g,i*3+2,none⟩=some t.v:=hcs 2 (by omega);obtain⟨ma,mc,kD⟩:=((Aa HY).vals t (AV ht)).1.slice;rw[kD] at t2;have e1:=C9 VTh.id L i t ht;have e2:=C9 VTh.ft L i t ht;generalize hA:(L.take i).map VTh.id=A at *;generalize hB:(L.take i).map VTh.ft=B at *;have hAl:A.length=i:=by rw[<-hA,BA,BL];omega
   have hBl:B.length=i:=by rw[<-hB,BA,BL];omega
   have hA16:A.length<=16:=by omega
   have hB16:B.length<=16:=by omega
   have xL:=Ac e1;have oU:=Ac e2;have uY:=Ac kD;clear e1 e2 hA hB hAl hBl hcs ht kD;obtain⟨kZ,eC,rfl⟩:=ha.slice;obtain⟨aoB,WG,rfl⟩:=hl.slice;have a7:=AA wr (.cells #[.int .i64 t.id] 3) none;have ha2:=ha.gr a7;have hl2:=hl.gr a7;have aG:IsAt 0 _ [t.id] (wr.alloc (.cells #[.int .i64 t.id] 3)):=(RowAt.lit1 At wr t.id #[.int .i64 t.id] rfl).weak (AG _);have hsz:=AU hg.size a7.size;have er:=ha2.own;have hro:=RowOk.of ha2.2;have xN:=a7.cell sZ (by simp);have t12:=a7.cell t1 (by simp);have t22:=a7.cell t2 (by simp);have ah:=Ab hg a7;have rV:y<w.heap.size:=Ad (Aa HY).blk
   have hglt:g<w.heap.size:=by
    have:=(Aa HY).facts.own g rfl;exact this.2
   go_wp2_with (at_builtin;refine Db rfl _ _ 35 rfl Tryz.underlying35 Tryz.infoInt rfl (by decide) rfl ha2 rfl aG (fun y _=>B7 y) (by unfold maxLen;simp;omega) (by simp;omega) hsz ?_)
   intro v5 w5 ax aY;have jH:=C0 ah aY (fun x hx=>(er x hx).1);have aP:=hl2.row aY hro (by decide);have y15:=aY.cell xN (fun e=>by have:=er _ e.symm;simp at this;omega);have t15:=aY.cell t12 (fun e=>by have:=er _ e.symm;simp at this;omega);have t25:=aY.cell t22 (fun e=>by have:=er _ e.symm;simp at this;omega);obtain⟨gK,aI,rfl⟩:=ax.slice;clear a7 ha2 hl2 aG hsz er hro xN t12 t22 aY ha hl ah;have aR:=AA w5 (.cells #[.int .i64 t.kind,.slice ma t.vals.length mc] 37) none;have xY:=aP.gr aR;have yR:=ax.gr aR;have aG:RowAt 37 2 ftenc 0 _ [t.ft] (w5.alloc (.cells #[.int .i64 t.kind,.slice ma t.vals.length mc] 37)):=(RowAt.lit1 Cz w5 t.ft #[.int .i64 t.kind,.slice ma t.vals.length mc] (by unfold ftenc VTh.ft;rw[Aa uY])).weak (AG _)
   have bg:∀k∈[t.ft],∀c∈ftenc k,c.oneCell'=true:=by
    intro k hk;simp only[AX] at hk;subst hk;intro c hc;simp[ftenc,VTh.ft,Aa uY] at hc;rcases hc with rfl|rfl<;>rfl
   have eP:=Ac bg;clear bg;have hsz:=AU jH.size aR.size;have er:=xY.own;have hro:=RowOk.of xY.2
   go_wp2_with (at_builtin;refine Db rfl _ _ 47 rfl Tryz.underlying47 Tryz.infoFact rfl (by decide) rfl xY rfl aG (Aa eP) (by unfold maxLen;simp;omega) (by simp;omega) hsz ?_)
   intro v7 w7 iH dS;have TQ:=C0 (Ab jH aR) dS (fun x hx=>(er x hx).1);have ha7:=yR.row dS hro (by decide);obtain⟨ao7,aw,rfl⟩:=iH.slice;rw[AK,BC] at ha7;clear aR aP xY ax yR aG eP hsz er hro dS jH y15 t15 t25;go_wp2;go_roundw
   case rel=>exact⟨i+1,by omega,by go_num,TQ,by rw[Aa xL];exact ha7,by rw[Aa oU];exact iH⟩
   case measure=>simp[intOf];omega
  ·have cY:decide (i<L.length)=false:=by simpa using hlt
   have hall:L.take i=L:=CA (by omega);rw[hall] at ha hl;have sZ:=hg.cell y1 (by simp);clear hall;obtain⟨kZ,eC,rfl⟩:=ha.slice;obtain⟨aoB,WG,rfl⟩:=hl.slice;go_wp2
   go_ret2
   exact⟨_,_,rfl,ha,hl,hg⟩
theorem YAt.set2{rs:List Sv.Rule}{L:List VTh}(h:YAt y rv lv cv fv rs L w)(u:Value):YAt y rv lv u fv rs L (w.setCell ⟨y,2,none⟩ u):=by
 have hg:=Aj w y 2 u;refine⟨?_,h.rules.row hg h.rowOk (by decide) (by decide) (by decide),h.facts.row hg h.rowOk (by decide),fun t ht=>⟨(h.vals t ht).1.row hg h.rowOk (by decide),(h.vals t ht).2⟩⟩;rw[BB w y 2 _ _ _ h.blk];rfl
theorem YAt.push{rs:List Sv.Rule}{L:List VTh}{W w5:World}{th:VTh}{nv:Value}(hy:YAt y rv lv cv fv rs L W)(ht:IsAt 0 th.v th.vals W)(dR:th.vals.length<=4)
 (hv:RowAt 176 3 Hb 0 nv (L++[th]) w5)(hg:W.grownBy w5 lv.ownBlock) :
  w5.cell? ⟨y,1,none⟩=some lv/\w5.frozen? ⟨y,1,none⟩=false/\W.grownBy w5 lv.ownBlock/\RowOk 0 176 lv.ownBlock W/\RowOk 0 172 (some y) w5/\YAt y rv nv cv fv rs (L++[th]) (w5.setCell ⟨y,1,none⟩ nv):=by
 have hrow:=RowOk.of hy.facts.2
 have hne:some y≠lv.ownBlock:=by
  intro e;obtain⟨_,cur,fz,h⟩:=hrow y e.symm;rw[hy.blk] at h;simp at h
 have hb:w5.heap[y]?=some (.cells #[rv,lv,cv,fv] 172 (0,0)):=by rw[hg.block y (Ad hy.blk) hne];exact hy.blk
 have hro:=RowOk.blk hb;have aZ:=Aj w5 y 1 nv;refine⟨by simp[World.cell?,hb],by simp[World.frozen?,hb],hg,hrow,hro,?_,?_,?_,?_⟩
 ·rw[BB w5 y 1 _ _ _ hb]
  rfl
 ·exact(hy.rules.row hg hrow (by decide) (by decide) (by decide)).row aZ hro (by decide) (by decide) (by decide)
 ·exact hv.row aZ hro (by decide)
 ·intro t iJ
  rcases AY.1 iJ with h|h
  ·exact⟨(((hy.vals t h).1).row hg hrow (by decide)).row aZ hro (by decide),(hy.vals t h).2⟩
  ·simp only[AX] at h
   subst h;exact⟨(ht.row hg hrow (by decide)).row aZ hro (by decide),dR⟩
def Q4i(y:Nat)(rv lv:Value)(cnt:Int)(rs:List Sv.Rule)(L:List VTh)(fd:List VMt)(f:Sv.Fact)(w:World)(e:Ending)(w':World):Prop:=
 e=.returned (.tuple #[.int .i64 (cnt+1),.int .i64 0])/\GrS (fun k=>k=y\/lv.ownBlock=some k) w w'/\
  ∃fF af t iA,t.id=cnt+1/\t.kind=f.kind/\t.vals=f.vals/\YAt y rv fF (.int .i64 (cnt+1)) af rs (L++[t]) w'/\MsAt 0 af iA w'/\
   iA.map VMt.of=Bp (Al rs ((L++[t]).map VTh.of)) (fd.map VMt.of)/\(∀m∈iA,m∈fd)/\
   (∀g,fF.ownBlock=some g->lv.ownBlock=some g\/w.heap.size<=g)/\(∀g,t.v.ownBlock=some g->w.heap.size<=g)/\(∀g,af.ownBlock=some g->w.heap.size<=g)
theorem Q2n(y:Nat)(rv lv cv fv:Value)(rs:List Sv.Rule)(L:List VTh)(f:Sv.Fact)(fa:Option Addr)(fc:Nat)(w:World)(hy:YAt y rv lv cv fv rs L w)(hL:L.length<=16)(hf:InAt (.slice fa f.vals.length fc) f.vals w)(hn:Av f=false\/16<=L.length) :
  Calls Tryz.prog 80 #[.pointer (some ⟨y,0,none⟩),.agg #[.int .i64 f.kind,.slice fa f.vals.length fc]] w fun e w'=>e=.returned (.tuple #[.int .i64 0,.int .i64 (if Av f=false then 3 else 4)])/\w.grownBy w' none:=by
 have a7:=AA w (.cells #[.int .i64 f.kind,.slice fa f.vals.length fc] 37) none;have hF:C2 37 w.heap.size (.int .i64 f.kind) (.slice fa f.vals.length fc) (w.alloc (.cells #[.int .i64 f.kind,.slice fa f.vals.length fc] 37)):=AR _ _;obtain⟨oq,gA,rfl⟩:=hy.facts.slice;obtain⟨y0,y1,y2,y3⟩:=hy.c;have hV:=X4 f fa fc _ (hf.gr a7) hf.le;clear hy y0 y2 y3 hf;obtain⟨d,hd⟩:∃d,Av f=d:=⟨_,rfl⟩
 rw[hd] at hV hn⊢;clear hd;cases d
 ·clear hn
  go_enter Tryz.func80,Tryz.ntmps80;go_wp2_with fail;refine hV.mono ?_;rintro e w1⟨rfl,hg1⟩;go_wp2
  go_ret2
  exact⟨rfl,Ab a7 hg1⟩
 ·have QK:16<=L.length:=by simpa using hn
  have bZ:decide ((16:Int)<=(L.length:Int))=true:=by simp;omega
  clear hn;go_enter Tryz.func80,Tryz.ntmps80;go_wp2_with fail;refine hV.mono ?_;rintro e w1⟨rfl,hg1⟩;have xN:=(Ab a7 hg1).cell y1 (by simp);go_wp2
  go_ret2
  exact⟨rfl,Ab a7 hg1⟩
theorem Q0i(y:Nat)(rv lv fv:Value)(cnt:Int)(hc0:0<=cnt)(hc1:cnt<=4611686018427387904)(rs:List Sv.Rule)(L:List VTh)(fd:List VMt)(f:Sv.Fact)(fa:Option Addr)(fc:Nat)(w:World)(hy:YAt y rv lv (.int .i64 cnt) fv rs L w)(aK:Sv.RsOk rs)(hL:L.length<16)(jJ:MsAt 0 fv fd w)(hfb:fd.length<=1000000)(hf:InAt (.slice fa f.vals.length fc) f.vals w)(PO:f.vals≠[]->(Value.slice fa f.vals.length fc).ownBlock≠some y)(hn:Av f=true) :
  Calls Tryz.prog 80 #[.pointer (some ⟨y,0,none⟩),.agg #[.int .i64 f.kind,.slice fa f.vals.length fc]] w fun e w'=>Q4i y rv lv cnt rs L fd f w e w':=by
 have h4:f.vals.length<=4:=by
  unfold Av at hn;simp at hn;omega
 have a7:=AA w (.cells #[.int .i64 f.kind,.slice fa f.vals.length fc] 37) none;have hF:C2 37 w.heap.size (.int .i64 f.kind) (.slice fa f.vals.length fc) (w.alloc (.cells #[.int .i64 f.kind,.slice fa f.vals.length fc] 37)):=AR _ _;obtain⟨oq,gA,rfl⟩:=hy.facts.slice;have rV:y<w.heap.size:=Ad hy.blk;have hV:=X4 f fa fc _ (hf.gr a7) hf.le;rw[hn] at hV;have bZ:decide ((16:Int)<=(L.length:Int))=false:=by simp;omega
 have HY:=Ac hy;have HO:=Ac aK;have XF:=Ac jJ;have HF:=Ac hf;have HFY:=Ac PO;clear hy hf PO jJ aK hn;go_enter Tryz.func80,Tryz.ntmps80;go_wp2_with fail;refine hV.mono ?_;rintro e w1⟨rfl,hg1⟩;have bC:=Ab a7 hg1;have hy1:=(Aa HY).gr bC;have iY:=hF.kept hg1 (by simp);obtain⟨y0,y1,y2,y3⟩:=hy1.c;have z2:=hy1.fz 2;obtain⟨f0,f1⟩:=iY.c;have f02:(w1.setCell ⟨y,2,none⟩ (.int .i64 (cnt+1))).cell? ⟨w.heap.size,0,none⟩=some (.int .i64 f.kind):=(Aj w1 y 2 _).cell f0 (by simp;omega);have f12:(w1.setCell ⟨y,2,none⟩ (.int .i64 (cnt+1))).cell? ⟨w.heap.size,1,none⟩=some (.slice fa f.vals.length fc):=(Aj w1 y 2 _).cell f1 (by simp;omega);clear hV a7 hF hg1;have aZ:=Aj w1 y 2 (.int .i64 (cnt+1));have hy2:=hy1.set2 (.int .i64 (cnt+1));have hf2:=((Aa HF).gr bC).kept' aZ (fun hne g hg e=>Aa HFY hne (by rw[hg,<-e]));have zr:=((Aa XF).gr bC).ybl hy1 aZ;have bW:GrS (fun k=>k=y\/(Value.slice oq L.length gA).ownBlock=some k) w (w1.setCell ⟨y,2,none⟩ (.int .i64 (cnt+1))):=(GrS.of bC (by simp)).then aZ (fun g hg=>by simp at hg;exact .inr (.inl hg.symm))
 have HC:=X3 f fa fc _ hf2 h4;go_wp2_with fail;refine HC.mono ?_;rintro e w3⟨ao,cap,rfl,hg3,hv3⟩;have hy3:=hy2.gr hg3;have TZ:=zr.gr hg3;have jS:=bW.then hg3 (by simp)
 have bN:=hv3.own;have SG:=bC.size;clear aZ hy2 hf2 zr HC hg3 bC hy1 iY y0 y1 y2 y3 z2 f0 f1 f02 f12 bW;have a7:=AA w3 (.cells #[.int .i64 f.kind,.slice ao f.vals.length cap] 37) none;have OT:=hy3.gr a7;obtain⟨y0,y1,y2,y3⟩:=OT.c;have hN7:C2 37 w3.heap.size (.int .i64 f.kind) (.slice ao f.vals.length cap) (w3.alloc (.cells #[.int .i64 f.kind,.slice ao f.vals.length cap] 37)):=AR _ _;obtain⟨n0,n1⟩:=hN7.c;have y1b:=(OT.gr (AA (w3.alloc (.cells #[.int .i64 f.kind,.slice ao f.vals.length cap] 37)) (.cells #[.int .i64 (cnt+1),.int .i64 f.kind,.slice ao f.vals.length cap] 176) none)).c.2.1;obtain⟨th,gC⟩:∃th:VTh,th=⟨cnt+1,f.kind,.slice ao f.vals.length cap,f.vals⟩:=⟨_,rfl⟩
 have aR:=Ah (AA (w3.alloc (.cells #[.int .i64 f.kind,.slice ao f.vals.length cap] 37)) (.cells #[.int .i64 (cnt+1),.int .i64 f.kind,.slice ao f.vals.length cap] 176) none);have sg:=OT.gr aR;have cC:=(jS.then a7 (by simp)).then aR (by simp)
 have kM:=(TZ.gr a7).gr aR;have ax:=(hv3.gr a7).gr aR
 have aG:RowAt 176 3 Hb 0 _ [th] ((w3.alloc (.cells #[.int .i64 f.kind,.slice ao f.vals.length cap] 37)).alloc (.cells #[.int .i64 (cnt+1),.int .i64 f.kind,.slice ao f.vals.length cap] 176)).drew:=
  ((RowAt.lit1 Gi (w3.alloc (.cells #[.int .i64 f.kind,.slice ao f.vals.length cap] 37)) th #[.int .i64 (cnt+1),.int .i64 f.kind,.slice ao f.vals.length cap] (by rw[gC];rfl)).weak (AG _)).heap rfl
 have yY:(w3.alloc (.cells #[.int .i64 f.kind,.slice ao f.vals.length cap] 37)).heap.size=w3.heap.size+1:=by simp
 rw[yY] at aG
 have bg:∀k∈[th],∀c∈Hb k,c.oneCell'=true:=by
  intro k hk;simp only[AX] at hk;subst hk;intro c hc;rw[gC] at hc;simp[Hb] at hc;rcases hc with rfl|rfl|rfl<;>rfl
 have hb1:L.length + [th].length<=maxLen:=by unfold maxLen;simp;omega
 have hb2:(L.length + [th].length)*40<=140737488355328:=by simp;omega
 have eP:=Ac bg;have fD:=Ac hb1;have fQ:=Ac hb2;have hrow:=RowOk.of sg.facts.2;have YG:y≠w3.heap.size:=by have:=jS.size;omega
 have xw:=Ac gC;clear bg hb1 hb2 yY gC;obtain⟨W5,fX⟩:∃W5,((w3.alloc (.cells #[.int .i64 f.kind,.slice ao f.vals.length cap] 37)).alloc (.cells #[.int .i64 (cnt+1),.int .i64 f.kind,.slice ao f.vals.length cap] 176)).drew=W5:=⟨_,rfl⟩
 rw[fX] at sg cC kM ax aG hrow;have WO:=Ac fX;clear fX;have xR:IsAt 0 th.v th.vals W5:=by rw[Aa xw];exact ax.weak (AG _)
 have dR:th.vals.length<=4:=by rw[Aa xw];exact h4
 have kW:∀g5 aI w5,RowAt 176 3 Hb 0 (.slice (some ⟨g5,0,none⟩) (L++[th]).length aI) (L++[th]) w5->W5.grownBy w5 (Value.slice oq L.length gA).ownBlock->((Value.slice oq L.length gA).ownBlock=some g5\/g5=W5.heap.size)->
   w5.cell? ⟨y,1,none⟩=some (.slice oq L.length gA)/\w5.frozen? ⟨y,1,none⟩=false/\
   (∃fF,(YAt y rv fF (.int .i64 (cnt+1)) fv rs (L++[th]) (w5.setCell ⟨y,1,none⟩ (.slice (some ⟨g5,0,none⟩) (L.length+1) aI))/\
    GrS (fun k=>k=y\/(Value.slice oq L.length gA).ownBlock=some k) w (w5.setCell ⟨y,1,none⟩ (.slice (some ⟨g5,0,none⟩) (L.length+1) aI))/\MsAt 0 fv fd (w5.setCell ⟨y,1,none⟩ (.slice (some ⟨g5,0,none⟩) (L.length+1) aI))/\
    ∀g,fF.ownBlock=some g->(Value.slice oq L.length gA).ownBlock=some g\/w.heap.size<=g)):=by
  intro g5 aI w5 hv hg hl;rw[AK,BC] at hv;obtain⟨k1,k2,k3,k4,k5,k6⟩:=sg.push xR dR hv hg;have aZ:=Aj w5 y 1 (.slice (some ⟨g5,0,none⟩) (L.length+1) aI);refine⟨k1,k2,_,k6,(cC.then hg (fun g ar=>.inr (.inr ar))).then aZ (fun g ar=>by simp at ar;exact .inr (.inl ar.symm)),?_,?_⟩
  ·exact⟨(kM.1.row hg k4 (by decide)).row aZ k5 (by decide),fun m hm=>((kM.2 m hm).row hg k4 (by decide)).row aZ k5 (by decide)⟩
  ·intro g ar
   simp only[Value.ownBlock,AE] at ar;subst ar;rcases hl with hl|hl
   ·exact .inl hl
   ·right
    have:=cC.size;omega
 have HKEY:=Ac kW;have fC:=Ac aG;have HY5:=Ac sg;clear kW aG sg cC kM ax hrow xR dR aR;go_wp2_with fail
 go_cut [] (fun wx=>∃fF,(YAt y rv fF (.int .i64 (cnt+1)) fv rs (L++[th]) wx/\GrS (fun k=>k=y\/(Value.slice oq L.length gA).ownBlock=some k) w wx/\MsAt 0 fv fd wx/\∀g,fF.ownBlock=some g->(Value.slice oq L.length gA).ownBlock=some g\/w.heap.size<=g))
 case first=>
  go_region_law (rw[Aa WO];refine M4 rfl _ _ 170 rfl Tryz.underlying170 Tryz.infoThere rfl (by decide) (by simp[Act.eval]) (Aa HY5).facts (by simp[Act.eval]) (Aa fC) (by simp) (Aa eP) (Aa fD) (Aa fQ) (AG _) ?_;intro g5 aI w5 ax aY aP;obtain⟨k1,k2,k3⟩:=Aa HKEY g5 aI w5 ax aY aP;have K3:=Ac k3;clear k3)
  all_goals
   go_wp2_with fail;go_meet
   exact Aa K3
 case rest=>
  obtain⟨fF,rW,dh,TY,TA⟩:=hcut;have jR:(L++[th]).length<=16:=by simp;omega
  have hV:=Pj y rv fF _ fv rs (L++[th]) fd wc rW (Aa HO) jR TY hfb;have PA:=dh.size;have hs1:w.heap.size<=w1.heap.size:=SG;clear jR y0 y1 y1b y2 y3 n0 n1 hN7 OT a7;go_wp2_with fail;refine hV.mono ?_;rintro e w7⟨rfl,dS,af,iA,yK,TX,hmap,cg,hnew⟩;obtain⟨y0,y1,y2,y3⟩:=yK.c;have sV:=Ac hmap;have WQ:=Ac cg;have cI:=Ac hnew;clear hmap cg hnew hV;go_wp2
  go_ret2
  refine⟨rfl,dh.then dS (fun g hg=>by simp at hg;exact .inr (.inl hg.symm)),fF,af,th,iA,by rw[Aa xw],by rw[Aa xw],by rw[Aa xw],yK,TX,Aa sV,Aa WQ,TA,?_,fun g hg=>AU PA (Aa cI g hg)⟩;rw[Aa xw];intro g hg;have h1:=(bN g hg).1;have h2:w1.heap.size=(w1.setCell ⟨y,2,none⟩ (.int .i64 (cnt+1))).heap.size:=by simp[World.setCell]
  omega
theorem Qp(a b:List Int)(u v:Value)(w:World)(ha:IsAt 0 u a w)(hb:IsAt 0 v b w) :
  Calls Tryz.prog 82 #[u,v] w fun e w'=>e=.returned (.bool (decide (a=b)))/\w.grownBy w' none:=by
 obtain⟨aa,ac,rfl⟩:=ha.slice;obtain⟨ba,bc,rfl⟩:=hb.slice;have fU:=ha.le;unfold maxLen at fU;by_cases hl:a.length=b.length
 ·have bZ:((a.length:Int) !=(b.length:Int))=false:=by simp;omega
  have HL:=Ac hl;have HA:=Ac ha;have HB:=Ac hb;obtain⟨R,hR⟩:∃R,decide (a=b)=R:=⟨_,rfl⟩
  rw[hR];have HR:=Ac hR;clear hl ha hb hR;go_enter Tryz.func82,Tryz.ntmps82;go_wp2;go_loopw [5] (fun x w'=>∃i:Nat,i<=a.length/\x=.int .i64 i/\w.grownBy w' none/\decide (a.drop i=b.drop i)=R) (fun x _=>a.length-(intOf x).toNat)
  case atStart=>exact⟨0,AG _,rfl,AD _ _,Aa HR⟩
  case round=>
   clear HR;obtain⟨i,hi,rfl,hg,hR⟩:=hrel;by_cases hlt:i<a.length
   ·have cY:decide (i<a.length)=true:=by simpa using hlt
    have hL:=Aa HL;have pR:i<b.length:=by omega
    obtain⟨x,hx⟩:∃x,a[i]?=some x:=⟨a[i],AB hlt⟩
    obtain⟨y,hy⟩:∃y,b[i]?=some y:=⟨b[i],AB pR⟩
    rw[A0 hx,A0 hy,Rm] at hR;obtain⟨g,cp,hv,hcs⟩:=((Aa HA).gr hg).cells hx;obtain⟨g2,QM,hv2,dQ⟩:=((Aa HB).gr hg).cells hy;simp only[AH,BP] at hv hv2;obtain⟨rfl,rfl⟩:=hv;obtain⟨rfl,rfl⟩:=hv2;have x0:wr.cell? ⟨g,i,none⟩=some (.int .i64 x):=by have:=hcs 0 (by omega);simpa[C1] using this
    have y0:wr.cell? ⟨g2,i,none⟩=some (.int .i64 y):=by have:=dQ 0 (by omega);simpa[C1] using this
    clear hcs dQ hx hy hL;by_cases dn:x=y
    ·have kN:(x !=y)=false:=by simpa using dn
     have e2:decide (x=y)=true:=by simpa using dn
     rw[e2,EN] at hR;have HR:=Ac hR;clear hR e2 dn;go_wp2;go_quiet (fail);go_wp2;go_roundw
     case rel=>exact⟨i+1,by omega,by go_num,Ab hg (Af _ _ _),Aa HR⟩
     case measure=>simp[intOf];omega
    ·have kN:(x !=y)=true:=by simpa using dn
     have e2:decide (x=y)=false:=by simpa using dn
     rw[e2,DT] at hR;subst hR;clear e2 dn;go_wp2;go_quiet (fail);go_wp2;go_ret;exact⟨rfl,Ab hg (Af _ _ _)⟩
   ·have cY:decide (i<a.length)=false:=by simpa using hlt
    have hL:=Aa HL;rw[BD (by omega),BD (by omega)] at hR;have hR2:true=R:=by simpa using hR
    subst hR2;clear hR hL;go_wp2;go_ret;exact⟨rfl,hg⟩
 ·have bZ:((a.length:Int) !=(b.length:Int))=true:=by simp;omega
  have e1:decide (a=b)=false:=by
   simp only[decide_eq_false_iff_not];intro h;exact hl (by rw[h])
  rw[e1];clear e1 hl ha hb;go_enter Tryz.func82,Tryz.ntmps82;go_wp2;go_ret;exact⟨rfl,AD _ _⟩
theorem Vq{x y:Int×List Int}{a b:List (Int×List Int)}:decide (x::a=y::b)=(decide (x=y)&&decide (a=b)):=by
 by_cases h1:x=y<;>by_cases h2:a=b<;>simp[h1,h2]
theorem Xq(a b:List VMt)(u v:Value)(w:World)(ha:MsAt 0 u a w)(hb:MsAt 0 v b w) :
  Calls Tryz.prog 57 #[u,v] w fun e w'=>e=.returned (.bool (decide (a.map VMt.of=b.map VMt.of)))/\w.grownBy w' none:=by
 obtain⟨aa,ac,rfl⟩:=ha.slice;obtain⟨ba,bc,rfl⟩:=hb.slice;have fU:=ha.1.le;unfold maxLen at fU;by_cases hl:a.length=b.length
 ·have bZ:((a.length:Int) !=(b.length:Int))=false:=by simp;omega
  have HL:=Ac hl;have HA:=Ac ha;have HB:=Ac hb;obtain⟨R,hR⟩:∃R,decide (a.map VMt.of=b.map VMt.of)=R:=⟨_,rfl⟩
  rw[hR];have HR:=Ac hR;clear hl ha hb hR;go_enter Tryz.func57,Tryz.ntmps57;go_wp2;go_loopw [5] (fun x w'=>∃i:Nat,i<=a.length/\x=.int .i64 i/\w.grownBy w' none/\decide ((a.drop i).map VMt.of=(b.drop i).map VMt.of)=R) (fun x _=>a.length-(intOf x).toNat)
  case atStart=>exact⟨0,AG _,rfl,AD _ _,Aa HR⟩
  case round=>
   clear HR;obtain⟨i,hi,rfl,hg,hR⟩:=hrel;by_cases hlt:i<a.length
   ·have cY:decide (i<a.length)=true:=by simpa using hlt
    have hL:=Aa HL;have pR:i<b.length:=by omega
    obtain⟨x,hx⟩:∃x,a[i]?=some x:=⟨a[i],AB hlt⟩
    obtain⟨y,hy⟩:∃y,b[i]?=some y:=⟨b[i],AB pR⟩
    rw[A0 hx,A0 hy,DN,DN,Vq,Q0z] at hR;obtain⟨g,cp,hv,hcs⟩:=((Aa HA).1.gr hg).cells hx;obtain⟨g2,QM,hv2,dQ⟩:=((Aa HB).1.gr hg).cells hy;simp only[AH,BP] at hv hv2;obtain⟨rfl,rfl⟩:=hv;obtain⟨rfl,rfl⟩:=hv2;have x0:wr.cell? ⟨g,i*2,none⟩=some (.int .i64 x.rule):=hcs 0 (by omega);have x1:wr.cell? ⟨g,i*2+1,none⟩=some x.v:=hcs 1 (by omega);have y0:wr.cell? ⟨g2,i*2,none⟩=some (.int .i64 y.rule):=dQ 0 (by omega);have y1:wr.cell? ⟨g2,i*2+1,none⟩=some y.v:=dQ 1 (by omega);have RR:=(Aa HA).2 x (AV hx);have RQ:=(Aa HB).2 y (AV hy);have hS:=fun(W:World) (hW:wr.grownBy W none)=>Qp x.ids y.ids x.v y.v W (RR.gr (Ab hg hW)) (RQ.gr (Ab hg hW))
    obtain⟨xa,xc,rX⟩:=RR.slice;obtain⟨ya,yc,RO⟩:=RQ.slice;rw[rX] at x1;rw[RO] at y1;rw[rX,RO] at hS;obtain⟨d,hd⟩:∃d,decide (x.ids=y.ids)=d:=⟨_,rfl⟩
    rw[hd] at hR hS;have HR:=Ac hR;clear hR hd hcs dQ hx hy hL RR RQ rX RO;go_wp2_with fail
    go_cut [6] (fun s wx=>s=.bool d/\wr.grownBy wx none)
    case first=>
     go_region_with (go_at_call 82;refine(hS _ (by repeat (first|exact AD _ _|apply Ah))).mono ?_;rintro e w2⟨rfl,hg2⟩)
     all_goals
      go_wp2_with fail;go_meet
      exact⟨rfl,Ab (Ah (AD _ _)) hg2⟩
    case rest=>
     obtain⟨rfl,hg2⟩:=hcut;have bI:=Ab hg hg2;have yC:=hg2.cell x0 (by simp);have y02:=hg2.cell y0 (by simp);clear hS hg2 x0 x1 y0 y1;have fN:=Aa HR;clear HR;cases d
     ·rw[KG,DT] at fN
      subst fN;go_wp2;go_quiet (fail);go_wp2;go_ret;exact⟨rfl,Ab bI (Af _ _ _)⟩
     ·rw[KJ] at fN
      by_cases dn:x.rule=y.rule
      ·have kN:(x.rule !=y.rule)=false:=by simpa using dn
       have e2:decide (x.rule=y.rule)=true:=by simpa using dn
       rw[e2,EN] at fN;have HR:=Ac fN;clear fN e2 dn;go_wp2;go_quiet (fail);go_wp2;go_roundw
       case rel=>exact⟨i+1,by omega,by go_num,Ab bI (Af _ _ _),Aa HR⟩
       case measure=>simp[intOf];omega
      ·have kN:(x.rule !=y.rule)=true:=by simpa using dn
       have e2:decide (x.rule=y.rule)=false:=by simpa using dn
       rw[e2,DT] at fN;subst fN;clear e2 dn;go_wp2;go_quiet (fail);go_wp2;go_ret;exact⟨rfl,Ab bI (Af _ _ _)⟩
   ·have cY:decide (i<a.length)=false:=by simpa using hlt
    have hL:=Aa HL;rw[BD (by omega),BD (by omega)] at hR;have hR2:true=R:=by simpa using hR
    subst hR2;clear hR hL;go_wp2;go_ret;exact⟨rfl,hg⟩
 ·have bZ:((a.length:Int) !=(b.length:Int))=true:=by simp;omega
  have e1:decide (a.map VMt.of=b.map VMt.of)=false:=by
   simp only[decide_eq_false_iff_not];intro h;have:=BJ List.length h;simp only[BA] at this;exact hl this
  rw[e1];clear e1 hl ha hb;go_enter Tryz.func57,Tryz.ntmps57;go_wp2;go_ret;exact⟨rfl,AD _ _⟩
theorem Js(n:Nat)(m:Int)(j:Nat):List.replicate n m++List.replicate j m=List.replicate (n+j) m:=by rw[JV]
theorem Xm(m:Int)(l:List Int)(i:Nat)(h:i<l.length):(List.replicate i m++l.drop i).set i m=List.replicate (i+1) m++l.drop (i+1):=by
 have e:l.drop i=l[i]::l.drop (i+1):=CP h;rw[e,GS _ _ (by simp)];simp[List.replicate_succ'];rw[e];rfl
theorem Zl(l:List Int)(i:Nat)(x:Int):(l.set i x).flatMap C1=(l.flatMap C1).set i (.int .i64 x):=by
 induction l generalizing i with
 | nil=>simp
 | cons a l ih=>
  cases i with
  | zero=>simp[C1]
  | succ i=>simp[C1] at ih⊢;exact ih i
theorem IsAt.stored(h:IsAt base (.slice (some ⟨g,0,none⟩) n cap) l w)(i:Nat)(x:Int):IsAt base (.slice (some ⟨g,0,none⟩) n cap) (l.set i x) (w.setCell ⟨g,i,none⟩ (.int .i64 x)):=by
 have hn:=h.len;subst hn;have h1:=(DY h.2 i (.int .i64 x)).1;refine⟨h.1,?_⟩;rw[FM,Zl];exact h1
def Kin(v v1:Value)(n j:Nat):Prop:=
 (∃g cap,v=.slice (some ⟨g,0,none⟩) n cap/\v1=.slice (some ⟨g,0,none⟩) (n+j) cap)\/(∀g,v1.ownBlock=some g->v.ownBlock≠some g)
theorem Longer.kin(h:Longer v v1 n j w w')(hv:∀g,v.ownBlock=some g->g<w.heap.size):Kin v v1 n j:=by
 rcases h with ⟨g,cap,h1,h2,_⟩|⟨_,g,cap,h1,h2⟩
 ·exact .inl ⟨g,cap,h1,h2⟩
 ·refine .inr (fun g' bE e=>?_)
  rw[h1] at bE;simp only[Value.ownBlock,AE] at bE;have:=hv g' e;omega
theorem Kin.keep(hk:Kin v v1 n j)(h1:IsAt 0 v1 (List.replicate (n+j) m) w)(h2:IsAt 0 v2 (List.replicate (n+j2) m) w')(hl:Longer v v2 n j2 w w')(hj:j<=j2):IsAt 0 v1 (List.replicate (n+j) m) w':=by
 rcases hl with ⟨g,cap,e1,e2,hg⟩|⟨hg,_⟩
 ·rcases hk with ⟨g',cap',e3,e4⟩|hne
  ·rw[e1] at e3
   simp only[AH,AE,BK,BX,BP] at e3;obtain⟨rfl,rfl⟩:=e3;rw[e2] at h2;have e5:List.replicate (n+j2) m=List.replicate (n+j) m++List.replicate (j2-j) m:=by rw[Js];congr 1;omega
   rw[e5] at h2;have h3:=h2.prefix;rw[BN] at h3;rw[e4];exact h3
  ·refine h1.other hg (fun g' bE e=>?_)
   have:=hne g' bE;rw[e1] at this;exact this (by rw[<-e];rfl)
 ·exact h1.gr hg
theorem Np(v:Value)(n:Nat)(h:IsAt 0 v (List.replicate n m) w):Kin v v n 0:=by
 rcases h.2.2 with ⟨h1,_⟩|⟨g,cap,cur,h1,_⟩
 ·right
  intro g hg;rw[h1] at hg;simp[Value.ownBlock] at hg
 ·left
  rw[BN] at h1;exact⟨g,cap,h1,h1⟩
theorem Longer.keepRow{enc:α->List Value}{x:Value}{l:List α}{v':Value}(hl:Longer v v' n j w w')(h:RowAt e size enc base x l w)(hne:∀g,x.ownBlock=some g->v.ownBlock≠some g):RowAt e size enc base x l w':=by
 rcases hl with ⟨g,cap,e1,_,hg⟩|⟨hg,_⟩
 ·exact h.other hg (fun g' bE e=>hne g' bE (by rw[e1];exact e))
 ·exact h.gr hg
def WBlk(W:Nat)(c:Array Value)(w:World):Prop:=w.heap[W]?=some (.cells c 73 (0,0))
def NumsAt(T:Nat->Nat)(uv k0:Value)(us:List (Value×Int))(w:World):Prop:=
 TRow T 3 35 1 (fun p:Value×Int=>[p.1]) uv us w/\TRow T 6 3 1 C1 k0 (us.map Prod.snd) w/\∀p∈us,∃n,TRow T 10 3 1 C1 p.1 (List.replicate n p.2) w
theorem WBlk.cell{W:Nat}{c:Array Value}{w:World}(h:WBlk W c w)(k:Nat):w.cell? ⟨W,k,none⟩=c[k]?:=by
 unfold WBlk at h;simp[World.cell?,h]
theorem WBlk.fz(h:WBlk W c w)(k:Nat):w.frozen? ⟨W,k,none⟩=false:=by
 unfold WBlk at h;simp[World.frozen?,h]
theorem WBlk.set(h:WBlk W c w)(k:Nat)(v:Value):WBlk W (c.setIfInBounds k v) (w.setCell ⟨W,k,none⟩ v):=by
 unfold WBlk at h⊢;exact BB w W k _ _ _ h
theorem WBlk.gr(h:WBlk W c w)(hg:w.grownBy w' row)(hr:row≠some W):WBlk W c w':=by
 unfold WBlk at h⊢;rw[hg.block W (Ad h) (fun e=>hr e.symm)];exact h
theorem WBlk.grs(h:WBlk W c w)(hg:GrS S w w')(hr:¬ S W):WBlk W c w':=hg.blk h hr
theorem Tryz.infoSInt:(Tryz.prog.info? 35).map (fun i=>(i.zero,i.size,i.bytes))=some (some (.slice none 0 0),1,24):=by kernel_rfl
theorem RowAt.litn{enc:α->List Value}(hsz:∀a,(enc a).length=size)(w:World)(l:List α)(cs:Array Value)(hc:cs.toList=l.flatMap enc)(hl:l.length<=maxLen) :
  RowAt e size enc w.heap.size (.slice (some ⟨w.heap.size,0,none⟩) l.length l.length) l (w.alloc (.cells cs e)):=by
 have hlen:∀(k:List α),(k.flatMap enc).length=k.length*size:=by
  intro k
  induction k with
  | nil=>simp
  | cons a k ih=>rw[BI,AK,hsz,ih,AP,IC];omega
 refine⟨hsz,?_⟩;have h:=IM (base:=w.heap.size) (e:=e) (size:=size) w cs l.length (AW _) hl (by rw[<-Array.length_toList,hc,hlen]);rw[hc] at h;exact h
def Jf(T:Nat->Nat)(t0 W:Nat)(nv fv mv k1 k2 lv:Value)(us:List (Value×Int))(w:World)(e:Ending)(w':World):Prop:=
 e=.returned (.tuple #[])/\∃T' jX jY ic,WBlk W #[nv,jX,fv,mv,jY,k1,k2,lv] w'/\NumsAt T' jX jY ic w'/\ic.length=us.length+4/\
  GrS (fun k=>T k=1\/T k=3\/T k=6\/T k=t0) w w'/\∀k,k<w.heap.size->T k≠t0->T' k=T k
theorem Sb(T:Nat->Nat)(t0 W:Nat)(nv uv fv mv k0 k1 k2 lv:Value)(us:List (Value×Int))(v:Value)(l:List Int)(w:World)
 (hW:WBlk W #[nv,uv,fv,mv,k0,k1,k2,lv] w)(rN:T W=1)(hN:NumsAt T uv k0 us w)(hv:TRow T t0 3 1 C1 v l w)(nA:11<=t0)(gB:us.length<=4398046511104)(kH:l.length<=1000000) :
  Calls Tryz.prog 61 #[.pointer (some ⟨W,0,none⟩),v] w fun e w'=>Jf T t0 W nv fv mv k1 k2 lv us w e w':=by
 obtain⟨bB,aO,rfl⟩:=hv.1.slice;obtain⟨b9,bb,eX⟩:=hN;obtain⟨iB,bz,hk0⟩:=bb.1.slice;rw[BA] at hk0;have c4:w.cell? ⟨W,4,none⟩=some (.slice iB us.length bz):=by rw[hW.cell 4,hk0];rfl
 obtain⟨m,hm⟩:∃m:Int,m=-1-(us.length:Int):=⟨_,rfl⟩
 have hm1:-4398046511106<=m:=by omega
 have zG:m<=-1:=by omega
 have kG:=hv.1.own;have HV:=Ac hv;have eb:=Ac b9;have ea:=Ac bb;have HN3:=Ac eX;have HW:=Ac hW;have NY:=Ac hk0;have HM:=Ac hm;have kr:=Ac kG;clear kG hv b9 bb eX hW hk0 hm;go_enter Tryz.func61,Tryz.ntmps61;go_wp2;rw[<-Aa HM];have xu:=Ac gB;have HM1:=Ac hm1;have HM2:=Ac zG;clear gB hm1 zG c4;go_loopw [5] (fun x w'=>∃i:Nat,i<=l.length/\x=.int .i64 i/\GrS (fun k=>T k=t0) w w'/\IsAt 0 (.slice bB l.length aO) (List.replicate i m++l.drop i) w') (fun x _=>l.length-(intOf x).toNat)
 case atStart=>exact⟨0,AG _,rfl,GrS.refl _ _,by simpa using(Aa HV).1⟩
 case round=>
  obtain⟨i,hi,rfl,hG,hR⟩:=hrel;by_cases hlt:i<l.length
  ·have cY:decide (i<l.length)=true:=by simpa using hlt
   obtain⟨x,hx⟩:∃x,(List.replicate i m++l.drop i)[i]?=some x:=⟨_,AB (by simp;omega)⟩
   obtain⟨g,cp,eQ,hcs⟩:=hR.cells hx;simp only[AH] at eQ;obtain⟨rfl,hzz,rfl⟩:=eQ;clear hzz;have x0:wr.cell? ⟨g,i,none⟩=some (.int .i64 x):=by have:=hcs 0 (by omega);simpa[C1] using this
   have z0:=hR.fz i;have uH:T g=t0:=(Aa HV).2 g rfl;have hR2:=hR.stored i m;rw[Xm m l i hlt] at hR2;have bW:=hG.then (Aj wr g i (.int .i64 m)) (fun k hk=>by simp at hk;subst hk;exact .inr uH)
   clear hcs hx hR hG uH;have cD:=Ac hR2;have sX:=Ac bW;clear hR2 bW;go_wp2;go_roundw
   case rel=>exact⟨i+1,by omega,by go_num,Aa sX,Aa cD⟩
   case measure=>simp[intOf];omega
  ·have cY:decide (i<l.length)=false:=by simpa using hlt
   have e1:List.replicate i m++l.drop i=List.replicate l.length m:=by
    rw[BD (by omega),BM];congr 1
    omega
   rw[e1] at hR;clear e1 hlt hi;generalize kA:l.length=n at *;have a7:=AA wr (.cells #[.int .i64 m] 3) none;have hs1:IsAt 0 (.slice (some ⟨wr.heap.size,0,none⟩) 1 1) (List.replicate 1 m) (wr.alloc (.cells #[.int .i64 m] 3)):=(RowAt.litn At wr (List.replicate 1 m) #[.int .i64 m] rfl (by simp[maxLen])).weak (AG _);have kV:=hR.gr a7
   go_wp2_with (at_builtin;refine Cb rfl _ _ 35 rfl Tryz.underlying35 Tryz.infoInt rfl (by decide) rfl kV rfl hs1 (by simp) (fun y _=>B7 y) (by unfold maxLen;simp;omega) (by simp;omega) ?_)
   intro v1 w1 aS eI;obtain⟨g1,aW,rfl⟩:=eI.form;have eV:IsAt 0 (.slice (some ⟨g1,0,none⟩) (n+1) aW) (List.replicate (n+1) m) w1:=by have:=aS;rw[<-Js n m 1];exact this
   have dz:∀g,(Value.slice bB n aO).ownBlock=some g->g<(wr.alloc (.cells #[.int .i64 m] 3)).heap.size:=fun g hg=>AZ (Aa kr g hg).2 (AU hG.size a7.size)
   have fW:=eI.kin dz;have hR1:IsAt 0 (.slice bB n aO) (List.replicate (n+0) m) w1:=Kin.keep (v:=.slice bB n aO) (v1:=.slice bB n aO) (j:=0) (Np _ _ hR) kV eV eI (AG _);have nV:=(hG.then a7 (by simp)).trans (eI.gr (fun g hg=>(Aa HV).2 g hg));have hown1:=eI.own;have qx:w.heap.size<=(wr.alloc (.cells #[.int .i64 m] 3)).heap.size:=AU hG.size a7.size;have aR:=AA w1 (.cells #[.int .i64 m,.int .i64 m] 3) none;have hs2:IsAt 0 (.slice (some ⟨w1.heap.size,0,none⟩) 2 2) (List.replicate 2 m) (w1.alloc (.cells #[.int .i64 m,.int .i64 m] 3)):=(RowAt.litn At w1 (List.replicate 2 m) #[.int .i64 m,.int .i64 m] rfl (by simp[maxLen])).weak (AG _);have iu:=hR1.gr aR;have l4:=eV.gr aR;have r7:=Ac fW;have kn:=Ac hown1;clear a7 hs1 kV aS eI hR1 hR hG dz fW hown1 eV
   go_wp2_with (at_builtin;refine Cb rfl _ _ 35 rfl Tryz.underlying35 Tryz.infoInt rfl (by decide) rfl iu rfl hs2 (by simp) (fun y _=>B7 y) (by unfold maxLen;simp;omega) (by simp;omega) ?_)
   intro v2 w2 hv2 hl2;obtain⟨g2,aC,rfl⟩:=hl2.form;have ej:IsAt 0 (.slice (some ⟨g2,0,none⟩) (n+2) aC) (List.replicate (n+2) m) w2:=by have:=hv2;rw[<-Js n m 2];exact this
   have dz:∀g,(Value.slice bB n aO).ownBlock=some g->g<(w1.alloc (.cells #[.int .i64 m,.int .i64 m] 3)).heap.size:=fun g hg=>AZ (Aa kr g hg).2 (AU nV.size aR.size)
   have fV:=hl2.kin dz;have hR2:IsAt 0 (.slice bB n aO) (List.replicate (n+0) m) w2:=Kin.keep (v:=.slice bB n aO) (v1:=.slice bB n aO) (j:=0) (Np _ _ iu) iu ej hl2 (AG _);have jr:=Kin.keep (Aa r7) l4 ej hl2 (by omega);have qf:=(nV.then aR (by simp)).trans (hl2.gr (fun g hg=>(Aa HV).2 g hg));have hown2:=hl2.own;have qw:w.heap.size<=(w1.alloc (.cells #[.int .i64 m,.int .i64 m] 3)).heap.size:=AU nV.size aR.size;have bP:=AA w2 (.cells #[.int .i64 m,.int .i64 m,.int .i64 m] 3) none;have hs3:IsAt 0 (.slice (some ⟨w2.heap.size,0,none⟩) 3 3) (List.replicate 3 m) (w2.alloc (.cells #[.int .i64 m,.int .i64 m,.int .i64 m] 3)):=(RowAt.litn At w2 (List.replicate 3 m) #[.int .i64 m,.int .i64 m,.int .i64 m] rfl (by simp[maxLen])).weak (AG _);have jQ:=hR2.gr bP;have jq:=jr.gr bP;have jo:=ej.gr bP;have ji:=Ac fV;have kj:=Ac hown2;clear aR hs2 iu l4 hv2 hl2 hR2 jr nV dz fV hown2 ej
   go_wp2_with (at_builtin;refine Cb rfl _ _ 35 rfl Tryz.underlying35 Tryz.infoInt rfl (by decide) rfl jQ rfl hs3 (by simp) (fun y _=>B7 y) (by unfold maxLen;simp;omega) (by simp;omega) ?_)
   intro v3 w3 hv3 hl3;obtain⟨g3,b8,rfl⟩:=hl3.form;have bN:IsAt 0 (.slice (some ⟨g3,0,none⟩) (n+3) b8) (List.replicate (n+3) m) w3:=by have:=hv3;rw[<-Js n m 3];exact this
   have dY:IsAt 0 (.slice bB n aO) (List.replicate (n+0) m) w3:=Kin.keep (v:=.slice bB n aO) (v1:=.slice bB n aO) (j:=0) (Np _ _ jQ) jQ bN hl3 (AG _);have gU:=Kin.keep (Aa r7) jq bN hl3 (by omega);have gT:=Kin.keep (Aa ji) jo bN hl3 (by omega);have iw:=(qf.then bP (by simp)).trans (hl3.gr (fun g hg=>(Aa HV).2 g hg));have fR:=hl3.own;have jS:=iw.size;have fj:=qf.size
   have ho:∀v':Value,(v'=.slice bB n aO\/v'=.slice (some ⟨g1,0,none⟩) (n+1) aW\/v'=.slice (some ⟨g2,0,none⟩) (n+2) aC\/v'=.slice (some ⟨g3,0,none⟩) (n+3) b8)->∀g,v'.ownBlock=some g->(g<w.heap.size/\T g=t0)\/w.heap.size<=g:=by
    have hV:∀g,(Value.slice bB n aO).ownBlock=some g->(g<w.heap.size/\T g=t0)\/w.heap.size<=g:=fun g hg=>.inl ⟨(Aa kr g hg).2,(Aa HV).2 g hg⟩
    rintro v' (rfl|rfl|rfl|rfl) g hg
    ·exact hV g hg
    ·rcases Aa kn g hg with h|h
     ·exact hV g h
     ·exact .inr (AU qx h)
    ·rcases Aa kj g hg with h|h
     ·exact hV g h
     ·exact .inr (AU qw h)
    ·rcases fR g hg with h|h
     ·exact hV g h
     ·exact .inr (AU (AU fj bP.size) h)
   have HO:=Ac ho;have gV:=iw.row (Aa eb).1 (fun g hg=>by have:=(Aa eb).2 g hg;omega);have kJ:=iw.row (Aa ea).1 (fun g hg=>by have:=(Aa ea).2 g hg;omega);have hW3:=(Aa HW).grs iw (by omega);clear bP hs3 jQ jq jo hv3 hl3 fR ho qf fj kn kj r7 ji kA;obtain⟨j0,cy,rfl⟩:=gV.slice;obtain⟨L4,hL4⟩:∃L4:List (Value×Int),L4=[(.slice bB n aO,m),(.slice (some ⟨g1,0,none⟩) (n+1) aW,m),(.slice (some ⟨g2,0,none⟩) (n+2) aC,m),(.slice (some ⟨g3,0,none⟩) (n+3) b8,m)]:=⟨_,rfl⟩
   have bu:L4.length=4:=by rw[hL4];rfl
   have dG:=AA w3 (.cells #[.slice bB n aO,.slice (some ⟨g1,0,none⟩) (n+1) aW,.slice (some ⟨g2,0,none⟩) (n+2) aC,.slice (some ⟨g3,0,none⟩) (n+3) b8] 35) none
   have nB:RowAt 35 1 (fun p:Value×Int=>[p.1]) 0 (.slice (some ⟨w3.heap.size,0,none⟩) 4 4) L4 (w3.alloc (.cells #[.slice bB n aO,.slice (some ⟨g1,0,none⟩) (n+1) aW,.slice (some ⟨g2,0,none⟩) (n+2) aC,.slice (some ⟨g3,0,none⟩) (n+3) b8] 35)):=by
    have:=(RowAt.litn (e:=35) (size:=1) (enc:=fun p:Value×Int=>[p.1]) (fun _=>rfl) w3 L4 #[.slice bB n aO,.slice (some ⟨g1,0,none⟩) (n+1) aW,.slice (some ⟨g2,0,none⟩) (n+2) aC,.slice (some ⟨g3,0,none⟩) (n+3) b8] (by rw[hL4];rfl) (by rw[bu];decide)).weak (AG _);rw[bu] at this;exact this
   have fS:∀y∈L4,∀c∈[y.1],c.oneCell'=true:=by
    intro y hy c hc;rw[hL4] at hy;simp only[AX] at hc;subst hc;simp only[CQ,FX,JU] at hy;rcases hy with rfl|rfl|rfl|rfl<;>rfl
   have qU:=Aa xu;have hb1:us.length+L4.length<=maxLen:=by rw[bu];unfold maxLen;omega
   have hb2:(us.length+L4.length)*24<=140737488355328:=by rw[bu];omega
   have hb3:0<L4.length:=by rw[bu];decide
   have fD:=Ac hb1;have fQ:=Ac hb2;have ku:=Ac hb3;have eP:=Ac fS;have NL:=Ac nB;have js:=gV.gr dG;have qP:=hW3.gr dG (by simp);have qD:(w3.alloc (.cells #[.slice bB n aO,.slice (some ⟨g1,0,none⟩) (n+1) aW,.slice (some ⟨g2,0,none⟩) (n+2) aC,.slice (some ⟨g3,0,none⟩) (n+3) b8] 35)).cell? ⟨W,1,none⟩=some (.slice j0 us.length cy):=qP.cell 1;have qF:w3.cell? ⟨W,1,none⟩=some (.slice j0 us.length cy):=hW3.cell 1;have rR:=Ac hL4;have iC:=Ac bu;clear hb1 hb2 hb3 fS nB hL4 bu qU;have sk:(Value.slice j0 us.length cy).ownBlock≠some W:=fun e=>by have:=(Aa eb).2 W e;omega
   have uV:=Ac sk;clear sk
   go_wp2_with (at_builtin;refine Cb rfl _ _ 68 rfl Tryz.underlying68 Tryz.infoSInt rfl (by decide) rfl js rfl (Aa NL) (Aa ku) (Aa eP) (Aa fD) (Aa fQ) ?_)
   intro u5 w5 mz aP;obtain⟨g5,aI,rfl⟩:=aP.form;rw[Aa iC] at mz aP;have fX:WBlk W #[nv,.slice j0 us.length cy,fv,mv,k0,k1,k2,lv] w5:=aP.block qP (Aa uV);have wq:w5.cell? ⟨W,1,none⟩=some (.slice j0 us.length cy):=fX.cell 1;have z51:=fX.fz 1;have gu:∀g,(Value.slice j0 us.length cy).ownBlock=some g->g<w.heap.size/\T g=3:=fun g hg=>⟨((Aa eb).1.own g hg).2,(Aa eb).2 g hg⟩
   have eN:∀g,k0.ownBlock=some g->g<w.heap.size/\T g=6:=fun g hg=>⟨((Aa ea).1.own g hg).2,(Aa ea).2 g hg⟩
   have aZ:=Aj w5 W 1 (.slice (some ⟨g5,0,none⟩) (us.length+4) aI);have iU:W<w.heap.size:=Ad (Aa HW)
   have bA:∀(v':Value) (k:Nat),(v'=.slice bB n aO\/v'=.slice (some ⟨g1,0,none⟩) (n+1) aW\/v'=.slice (some ⟨g2,0,none⟩) (n+2) aC\/v'=.slice (some ⟨g3,0,none⟩) (n+3) b8)->IsAt 0 v' (List.replicate k m) w3->IsAt 0 v' (List.replicate k m) (w5.setCell ⟨W,1,none⟩ (.slice (some ⟨g5,0,none⟩) (us.length+4) aI)):=by
    intro v' k hv' h
    have h1:=aP.keepRow (h.gr dG) (fun g hg e=>by
     have h2:=gu g e;rcases Aa HO v' hv' g hg with h3|h3<;>omega)
    refine h1.other aZ (fun g hg e=>?_);simp only[AE] at e;subst e;rcases Aa HO v' hv' W hg with h3|h3<;>omega
   have hw0:=bA _ _ (.inl rfl) dY;have hw1:=bA _ _ (.inr (.inl rfl)) gU;have hw2:=bA _ _ (.inr (.inr (.inl rfl))) gT;have hw3:=bA _ _ (.inr (.inr (.inr rfl))) bN
   have pV:RowAt 3 1 C1 0 k0 (us.map Prod.snd) (w5.setCell ⟨W,1,none⟩ (.slice (some ⟨g5,0,none⟩) (us.length+4) aI)):=by
    have h1:=aP.keepRow (kJ.gr dG) (fun g hg e=>by have h2:=gu g e;have h3:=eN g hg;omega);refine h1.other aZ (fun g hg e=>?_);simp only[AE] at e;subst e;have h3:=eN W hg;omega
   have pA:RowAt 35 1 (fun p:Value×Int=>[p.1]) 0 (.slice (some ⟨g5,0,none⟩) (us.length+4) aI) (us++L4) (w5.setCell ⟨W,1,none⟩ (.slice (some ⟨g5,0,none⟩) (us.length+4) aI)):=by
    refine mz.other aZ (fun g hg e=>?_);simp only[AE] at e;subst e;rcases aP.own W hg with h2|h2
    ·exact Aa uV h2
    ·have h4:=dG.size
     omega
   have nP:WBlk W #[nv,.slice (some ⟨g5,0,none⟩) (us.length+4) aI,fv,mv,k0,k1,k2,lv] (w5.setCell ⟨W,1,none⟩ (.slice (some ⟨g5,0,none⟩) (us.length+4) aI)):=fX.set 1 _
   have bG:g5<w3.heap.size+1->T g5=3/\g5<w.heap.size:=by
    intro hlt;rcases aP.own g5 rfl with h2|h2
    ·exact⟨(gu g5 h2).2,(gu g5 h2).1⟩
    ·simp at h2;omega
   have dh:GrS (fun k=>T k=1\/T k=3\/T k=6\/T k=t0) w (w5.setCell ⟨W,1,none⟩ (.slice (some ⟨g5,0,none⟩) (us.length+4) aI)):=by
    have h1:GrS (fun k=>T k=1\/T k=3\/T k=6\/T k=t0) w w3:=iw.mono (fun k hk=>.inr (.inr (.inr hk)));have h2:=(h1.then dG (by simp)).trans (aP.gr (fun g hg=>.inr (.inl (gu g hg).2)));exact h2.then aZ (fun g hg=>by simp only[AE] at hg;subst hg;exact .inr (.inl rN))
   obtain⟨w6,iG⟩:∃w6,w5.setCell ⟨W,1,none⟩ (.slice (some ⟨g5,0,none⟩) (us.length+4) aI)=w6:=⟨_,rfl⟩
   have yl:w5.heap.size=w6.heap.size:=by rw[<-iG];simp[World.setCell]
   have ym:w3.heap.size+1<=w5.heap.size:=by
    have h1:GrS (fun k=>T k=3) (w3.alloc (.cells #[.slice bB n aO,.slice (some ⟨g1,0,none⟩) (n+1) aW,.slice (some ⟨g2,0,none⟩) (n+2) aC,.slice (some ⟨g3,0,none⟩) (n+3) b8] 35)) w5:=aP.gr (fun g hg=>(gu g hg).2);have h2:=h1.size;simp at h2;omega
   have zI:g5<w5.heap.size:=(mz.own g5 rfl).2;have hlt3:∀(v':Value) (k:Nat),IsAt 0 v' (List.replicate k m) w3->∀g,v'.ownBlock=some g->g<w3.heap.size:=fun v' k h g hg=>(h.own g hg).2
   have q0:=hlt3 _ _ dY;have q1:=hlt3 _ _ gU;have q2:=hlt3 _ _ gT;have q3:=hlt3 _ _ bN;rw[iG] at hw0 hw1 hw2 hw3 pV pA nP dh;have hk0:=Aa NY;subst hk0;have iq:=Ah (AA w6 (.cells #[.int .i64 m,.int .i64 m,.int .i64 m,.int .i64 m] 3) none);have pJ:IsAt 0 (.slice (some ⟨w6.heap.size,0,none⟩) 4 4) (List.replicate 4 m) (w6.alloc (.cells #[.int .i64 m,.int .i64 m,.int .i64 m,.int .i64 m] 3)).drew:=((RowAt.litn At w6 (List.replicate 4 m) #[.int .i64 m,.int .i64 m,.int .i64 m,.int .i64 m] rfl (by simp[maxLen])).weak (AG _)).heap rfl;have MZ:w6.cell? ⟨W,4,none⟩=some (.slice iB us.length bz):=nP.cell 4;have MX:(w6.alloc (.cells #[.int .i64 m,.int .i64 m,.int .i64 m,.int .i64 m] 3)).cell? ⟨W,4,none⟩=some (.slice iB us.length bz):=(AA w6 _ none).cell MZ (by simp);obtain⟨WX,nO⟩:∃WX,(w6.alloc (.cells #[.int .i64 m,.int .i64 m,.int .i64 m,.int .i64 m] 3)).drew=WX:=⟨_,rfl⟩
   have yi:WX.heap.size=w6.heap.size+1:=by rw[<-nO];simp[World.drew]
   rw[nO] at iq pJ;have tS:=pV.gr iq;have uN:(Value.slice iB us.length bz).ownBlock≠some W:=fun e=>by have:=eN W e;omega
   have gy:∀g7 aw w7,RowAt 3 1 C1 0 (.slice (some ⟨g7,0,none⟩) (us.length+4) aw) (us.map Prod.snd++List.replicate 4 m) w7->Longer (.slice iB us.length bz) (.slice (some ⟨g7,0,none⟩) (us.length+4) aw) us.length 4 WX w7->
     w7.cell? ⟨W,4,none⟩=some (.slice iB us.length bz)/\w7.frozen? ⟨W,4,none⟩=false/\Jf T t0 W nv fv mv k1 k2 lv us w (.returned (.tuple #[])) (w7.setCell ⟨W,4,none⟩ (.slice (some ⟨g7,0,none⟩) (us.length+4) aw)):=by
    intro g7 aw w7 iH bV;have qQ:WBlk W #[nv,.slice (some ⟨g5,0,none⟩) (us.length+4) aI,fv,mv,.slice iB us.length bz,k1,k2,lv] w7:=bV.block (nP.gr iq (by simp)) uN;have gZ:=Aj w7 W 4 (.slice (some ⟨g7,0,none⟩) (us.length+4) aw);have ix:=((dh.then iq (by simp)).trans (bV.gr (fun g hg=>.inr (.inr (.inl (eN g hg).2))))).then gZ (fun g hg=>by simp only[AE] at hg;subst hg;exact .inr (.inl rN))
    have dS:g7<w6.heap.size+1->T g7=6/\g7<w.heap.size:=by
     intro hlt;rcases bV.own g7 rfl with h2|h2
     ·exact⟨(eN g7 h2).2,(eN g7 h2).1⟩
     ·omega
    have bo:∀ {α:Type} {e:TypeId} {size:Nat} {enc:α->List Value} (x:Value) (y:List α),RowAt e size enc 0 x y w6->(∀g,x.ownBlock=some g->(g<w.heap.size/\T g≠6/\T g≠1)\/w.heap.size<=g)->RowAt e size enc 0 x y (w7.setCell ⟨W,4,none⟩ (.slice (some ⟨g7,0,none⟩) (us.length+4) aw)):=by
     intro α e size enc x y h hx
     have h1:=bV.keepRow (h.gr iq) (fun g hg e=>by
      have h2:=eN g e;rcases hx g hg with h3|h3<;>omega)
     refine h1.other gZ (fun g hg e=>?_);simp only[AE] at e;subst e;rcases hx W hg with h3|h3<;>omega
    have sL:L4.map Prod.snd=List.replicate 4 m:=by rw[Aa rR];rfl
    obtain⟨T',bR⟩:∃T':Nat->Nat,∀k,T' k=if k<w.heap.size then (if T k=t0 then 10 else T k) else if k=g5 then 3 else if k=g7 then 6 else 10:=⟨_,fun _=>rfl⟩
    have cq:∀k,k<w.heap.size->T k≠t0->T' k=T k:=fun k h1 h2=>by rw[bR,AQ h1,AO h2]
    refine⟨qQ.cell 4,qQ.fz 4,rfl,T',.slice (some ⟨g5,0,none⟩) (us.length+4) aI,.slice (some ⟨g7,0,none⟩) (us.length+4) aw,us++L4,qQ.set 4 _,⟨⟨?_,?_⟩,⟨?_,?_⟩,?_⟩,by rw[AK,Aa iC],ix,cq⟩
    ·refine bo _ _ pA (fun g hg=>?_)
     simp only[Value.ownBlock,AE] at hg;subst hg;by_cases hlt:g5<w.heap.size
     ·have:=bG (by omega)
      exact .inl ⟨hlt,by omega,by omega⟩
     ·exact .inr (by omega)
    ·intro g hg
     simp only[Value.ownBlock,AE] at hg;subst hg;by_cases hlt:g5<w.heap.size
     ·have:=bG (by omega)
      rw[cq g5 hlt (by omega)];exact this.1
     ·rw[bR,AO hlt,AQ rfl]
    ·rw[CG,sL]
     refine iH.other gZ (fun g hg e=>?_);simp only[Value.ownBlock,AE] at hg e;subst hg;subst e;have:=dS (by omega);omega
    ·intro g hg
     simp only[Value.ownBlock,AE] at hg;subst hg;by_cases hlt:g7<w.heap.size
     ·have:=dS (by omega)
      rw[cq g7 hlt (by omega)];exact this.1
     ·have hne:g7≠g5:=by
       intro e;have:=dS (by omega);omega
      rw[bR,AO hlt,AO hne,AQ rfl]
    ·have hnew:∀(v':Value) (k:Nat),(v'=.slice bB n aO\/v'=.slice (some ⟨g1,0,none⟩) (n+1) aW\/v'=.slice (some ⟨g2,0,none⟩) (n+2) aC\/v'=.slice (some ⟨g3,0,none⟩) (n+3) b8)->IsAt 0 v' (List.replicate k m) w6->(∀g,v'.ownBlock=some g->g<w3.heap.size)->∃j,TRow T' 10 3 1 C1 v' (List.replicate j m) (w7.setCell ⟨W,4,none⟩ (.slice (some ⟨g7,0,none⟩) (us.length+4) aw)):=by
      intro v' k hv' h hlt;refine⟨k,bo v' _ h (fun g hg=>?_),fun g hg=>?_⟩
      ·rcases Aa HO v' hv' g hg with h3|h3
       ·exact .inl ⟨h3.1,by omega,by omega⟩
       ·exact .inr h3
      ·rcases Aa HO v' hv' g hg with h3|h3
       ·rw[bR,AQ h3.1,AQ h3.2]
       ·have hl:=hlt g hg
        have zA:g≠g5:=by
         intro e;have:=bG (by omega);omega
        have kB:g≠g7:=by
         intro e;have:=dS (by omega);omega
        rw[bR,AO (by omega),AO zA,AO kB]
     intro p hp;rcases AY.1 hp with hp|hp
     ·obtain⟨j,hj⟩:=Aa HN3 p hp
      exact⟨j,hj.keep2 ix (fun k hk=>by omega) (fun k hk hk2=>by rw[cq k hk (by omega)];exact hk2)⟩
     ·rw[Aa rR] at hp
      simp only[CQ,FX,JU] at hp;rcases hp with rfl|rfl|rfl|rfl
      ·exact hnew _ _ (.inl rfl) hw0 q0
      ·exact hnew _ _ (.inr (.inl rfl)) hw1 q1
      ·exact hnew _ _ (.inr (.inr (.inl rfl))) hw2 q2
      ·exact hnew _ _ (.inr (.inr (.inr rfl))) hw3 q3
   have jV:=Ac gy;have NX:=Ac tS;have NJ:=Ac pJ;have NC:=Ac nO;have ND:=Ac iG;have qU:=Aa xu;have hb1:(us.map Prod.snd).length+(List.replicate 4 m).length<=maxLen:=by rw[BA,BN];unfold maxLen;omega
   have hb2:((us.map Prod.snd).length+(List.replicate 4 m).length)*8<=140737488355328:=by rw[BA,BN];omega
   have rD:=Ac hb1;have rC:=Ac hb2;clear gy tS pJ nO hb1 hb2 qU pV pA nP dh hw0 hw1 hw2 hw3 bA hlt3 q0 q1 q2 q3 dY gU gT bN bG gu eN mz aP gV js kJ dG hW3 qP fX qD qF iw aZ iq uN iG;go_wp2_with fail;rw[Aa iC,Aa ND]
   go_region_law (rw[Aa NC];refine Ey rfl _ _ 35 rfl Tryz.underlying35 Tryz.infoInt rfl (by decide) (by simp[Act.eval]) (Aa NX) (by simp[Act.eval]) (Aa NJ) (by simp) (fun y _=>B7 y) (Aa rD) (Aa rC) ?_;intro kv w7 iH bV;rw[BA,BN] at bV;obtain⟨g7,aw,rfl⟩:=bV.form;obtain⟨f1,f2,f3⟩:=Aa jV g7 aw w7 iH bV;have F3:=Ac f3;clear f3 iH bV)
   all_goals
    go_wp2_with fail;go_end0
    exact Aa F3
theorem Et(n:Nat)(a:α)(j:Nat):List.replicate n a++List.replicate j a=List.replicate (n+j) a:=by rw[JV]
theorem Sg(m:α)(l:List α)(i:Nat)(h:i<l.length):(List.replicate i m++l.drop i).set i m=List.replicate (i+1) m++l.drop (i+1):=by
 have e:l.drop i=l[i]::l.drop (i+1):=CP h;rw[e,GS _ _ (by simp)];simp[List.replicate_succ'];rw[e];rfl
theorem Kin.keepG{enc:α->List Value}{m:α}(hk:Kin v v1 n j)(h1:RowAt e size enc 0 v1 (List.replicate (n+j) m) w)(h2:RowAt e size enc 0 v2 (List.replicate (n+j2) m) w')(hl:Longer v v2 n j2 w w')(hj:j<=j2):RowAt e size enc 0 v1 (List.replicate (n+j) m) w':=by
 rcases hl with ⟨g,cap,e1,e2,hg⟩|⟨hg,_⟩
 ·rcases hk with ⟨g',cap',e3,e4⟩|hne
  ·rw[e1] at e3
   simp only[AH,AE,BK,BX,BP] at e3;obtain⟨rfl,rfl⟩:=e3;rw[e2] at h2;have e5:List.replicate (n+j2) m=List.replicate (n+j) m++List.replicate (j2-j) m:=by rw[Et];congr 1;omega
   rw[e5] at h2;have h3:=h2.prefix;rw[BN] at h3;rw[e4];exact h3
  ·refine h1.other hg (fun g' bE e=>?_)
   have:=hne g' bE;rw[e1] at this;exact this (by rw[<-e];rfl)
 ·exact h1.gr hg
theorem E8{enc:α->List Value}(v:Value)(n:Nat){m:α}(h:RowAt e size enc 0 v (List.replicate n m) w):Kin v v n 0:=by
 rcases h.2.2 with ⟨h1,_⟩|⟨g,cap,cur,h1,_⟩
 ·right
  intro g hg;rw[h1] at hg;simp[Value.ownBlock] at hg
 ·left
  rw[BN] at h1;exact⟨g,cap,h1,h1⟩
theorem E7(x:VFt)(h:x.v.oneCell'=true):∀c∈ftenc x,c.oneCell'=true:=by
 intro c hc;simp[ftenc] at hc;rcases hc with rfl|rfl
 ·rfl
 ·exact h
theorem V7(l:List VFt)(i:Nat)(x:VFt)(h:i<l.length):(l.set i x).flatMap ftenc=((l.flatMap ftenc).set (i*2) (.int .i64 x.kind)).set (i*2+1) x.v:=by
 induction l generalizing i with
 | nil=>simp at h
 | cons a l ih=>
  cases i with
  | zero=>simp[ftenc]
  | succ i=>
   have e1:(i+1)*2=i*2+1+1:=by omega
   have e2:=ih i (by simpa using h);rw[FK,BI,BI,e2,e1];rfl
theorem FtsAt.stored{l:List VFt}(h:RowAt e 2 ftenc base (.slice (some ⟨g,0,none⟩) n cap) l w)(i:Nat)(x:VFt)(hi:i<l.length):RowAt e 2 ftenc base (.slice (some ⟨g,0,none⟩) n cap) (l.set i x) ((w.setCell ⟨g,i*2,none⟩ (.int .i64 x.kind)).setCell ⟨g,i*2+1,none⟩ x.v):=by
 have hn:=h.len;subst hn;have h1:=(DY h.2 (i*2) (.int .i64 x.kind)).1;have h2:=(DY h1 (i*2+1) x.v).1;refine⟨h.1,?_⟩;rw[FM,V7 l i x hi];exact h2
theorem Rw(w:World)(b o o2:Nat)(x y:Value):w.grownBy ((w.setCell ⟨b,o,none⟩ x).setCell ⟨b,o2,none⟩ y) (some b):=Ab (Aj w b o x) (Aj _ b o2 y)
def ElsAt(A B:Nat)(se e:TypeId)(T:Nat->Nat)(fv k1:Value)(fs:List (Value×Int))(w:World):Prop:=
 TRow T A se 1 (fun p:Value×Int=>[p.1]) fv fs w/\TRow T B 3 1 C1 k1 (fs.map Prod.snd) w/\∀p∈fs,∃n,TRow T 10 e 2 ftenc p.1 (List.replicate n ⟨p.2,.slice none 0 0,[]⟩) w
theorem Tryz.infoSFact:(Tryz.prog.info? 47).map (fun i=>(i.zero,i.size,i.bytes))=some (some (.slice none 0 0),1,24):=by kernel_rfl
theorem Tryz.infoSMatch:(Tryz.prog.info? 43).map (fun i=>(i.zero,i.size,i.bytes))=some (some (.slice none 0 0),1,24):=by kernel_rfl
def Sd(T:Nat->Nat)(i k:Nat):Prop:=T k=1\/T k=3\/T k=6\/∃j,j<i/\T k=13+3*(j+1)
theorem Ym(h:T k=13):¬ Sd T i k:=by rintro(h1|h1|h1|⟨j,_,h1⟩)<;>omega
theorem Q20(h:T k=13+3*(i+1)):¬ Sd T i k:=by rintro(h1|h1|h1|⟨j,_,h1⟩)<;>omega
theorem Uq(h:Sd T i k):Sd T (i+1) k:=by
 rcases h with h|h|h|⟨j,h1,h2⟩
 ·exact .inl h
 ·exact .inr (.inl h)
 ·exact .inr (.inr (.inl h))
 ·exact .inr (.inr (.inr ⟨j,by omega,h2⟩))
theorem Gn(h:T k=t)(ht:t≠1/\t≠3/\t≠6/\t<13):¬ Sd T i k:=by rintro(h1|h1|h1|⟨j,_,h1⟩)<;>omega
def Q3(T:Nat->Nat)(W:Nat)(nv ov ko lv:Value)(us:List (Value×Int))(fs:List (Value×Int))(n:Nat)(w:World)(e:Ending)(w':World):Prop:=
 e=.returned (.tuple #[])/\∃T' jX jY ic ue uk ml,WBlk W #[nv,jX,ue,ov,jY,uk,ko,lv] w'/\NumsAt T' jX jY ic w'/\ElsAt 4 7 47 37 T' ue uk ml w'/\ic.length=us.length+4*n/\ml.length=fs.length+4/\
  GrS (fun k=>T k=1\/T k=3\/T k=6\/T k=4\/T k=7\/InH (T k)) w w'/\∀k,k<w.heap.size->¬ InH (T k)->T' k=T k
theorem Q3s(T:Nat->Nat)(W:Nat)(nv uv xv ov k0 kx ko lv:Value)(us fs:List (Value×Int))(v:Value)(xs:List VFt)(w:World)
 (hW:WBlk W #[nv,uv,xv,ov,k0,kx,ko,lv] w)(rN:T W=1)(hN:NumsAt T uv k0 us w)(hE:ElsAt 4 7 47 37 T xv kx fs w)(hH:Hand T 37 v xs w)(gB:us.length+4*xs.length<=4398046511104)(br:fs.length<=4398046511104)(gO:xs.length<=1000000) :
  Calls Tryz.prog 83 #[.pointer (some ⟨W,0,none⟩),v] w fun e w'=>Q3 T W nv ov ko lv us fs xs.length w e w':=by
 obtain⟨bB,aO,rfl⟩:=hH.row.1.slice;have iU:W<w.heap.size:=Ad hW;have HH:=Ac hH;have HE:=Ac hE;have HN:=Ac hN;have HW:=Ac hW;have xu:=Ac gB;have nY:=Ac br;clear hH hE hN hW gB br;go_enter Tryz.func83,Tryz.ntmps83;go_wp2;go_loopw [4] (fun z w'=>∃(i:Nat) (T1:Nat->Nat) (jA jB:Value) (lI:List (Value×Int)),i<=xs.length/\z=.int .i64 i/\WBlk W #[nv,jA,xv,ov,jB,kx,ko,lv] w'/\NumsAt T1 jA jB lI w'/\lI.length=us.length+4*i/\GrS (Sd T i) w w'/\∀k,k<w.heap.size->(∀j,j<i->T k≠13+3*(j+1))->T1 k=T k) (fun z _=>xs.length-(intOf z).toNat)
 case atStart=>exact⟨0,T,uv,k0,us,AG _,rfl,Aa HW,Aa HN,rfl,GrS.refl _ _,fun _ _ _=>rfl⟩
 case round=>
  obtain⟨i,T1,jA,jB,lI,hi,rfl,hW1,b9,hu1,ae,fM⟩:=hrel;by_cases hlt:i<xs.length
  ·have cY:decide (i<xs.length)=true:=by simpa using hlt
   obtain⟨x,hx⟩:∃x,xs[i]?=some x:=⟨xs[i],AB hlt⟩
   have hrow:=ae.row (Aa HH).row.1 (fun g hg=>by have:=(Aa HH).row.2 g hg;exact Ym this);obtain⟨g,cp,eQ,hcs⟩:=hrow.cells hx;simp only[AH,BP] at eQ;obtain⟨rfl,rfl⟩:=eQ;have x1:wr.cell? ⟨g,i*2+1,none⟩=some x.v:=hcs 1 (by omega);obtain⟨lN,ow⟩:=(Aa HH).els i x hx;have lK:TRow T1 (13+3*(i+1)) 3 1 C1 x.v x.vals wr:=lN.keep2 ae (fun k hk=>Q20 hk) (fun k hk hk2=>by rw[fM k hk (fun j hj=>by omega)];exact hk2);obtain⟨xa,xc,rX⟩:=lK.1.slice;have gq:T1 W=1:=by rw[fM W iU (fun j hj=>by omega)];exact rN
   have hO:=Sb T1 (13+3*(i+1)) W nv jA xv ov jB kx ko lv lI x.v x.vals wr hW1 gq b9 lK (by omega) (by have:=Aa xu;omega) ow;rw[rX] at x1 hO;have sR:=Ac hu1;have ee:=Ac ae;have kg:=Ac fM;clear hrow hcs hx lN ow lK rX hu1 ae fM b9 hW1 gq;go_wp2_with fail;refine hO.mono ?_;rintro e w2⟨rfl,T2,uf,um,ug,hW2,bb,hu2,bW,iV⟩
   have qg:GrS (Sd T (i+1)) w w2:=by
    refine((Aa ee).mono (fun k hk=>Uq hk)).comp bW (fun k hk hn=>?_);have h1:=Aa kg k hk (fun j hj e=>hn (.inr (.inr (.inr ⟨j,by omega,e⟩))));rw[h1];rintro(h|h|h|h)
    ·exact hn (.inl h)
    ·exact hn (.inr (.inl h))
    ·exact hn (.inr (.inr (.inl h)))
    ·exact hn (.inr (.inr (.inr ⟨i,by omega,h⟩)))
   have qY:∀k,k<w.heap.size->(∀j,j<i+1->T k≠13+3*(j+1))->T2 k=T k:=by
    intro k hk hn;have h1:=Aa kg k hk (fun j hj=>hn j (by omega));rw[iV k (AZ hk (Aa ee).size) (by rw[h1];exact hn i (by omega)),h1]
   have HR:=Ac (show WBlk W #[nv,uf,xv,ov,um,kx,ko,lv] w2/\NumsAt T2 uf um ug w2/\ug.length=us.length+4*(i+1)/\GrS (Sd T (i+1)) w w2/\∀k,k<w.heap.size->(∀j,j<i+1->T k≠13+3*(j+1))->T2 k=T k from⟨hW2,bb,by have:=Aa sR;omega,qg,qY⟩);clear hO hW2 bb hu2 bW iV qg qY sR ee kg;go_wp2;go_roundw
   case rel=>exact⟨i+1,T2,uf,um,ug,by omega,by go_num,Aa HR⟩
   case measure=>simp[intOf];omega
  ·have cY:decide (i<xs.length)=false:=by simpa using hlt
   have kL:i=xs.length:=by omega
   have fO:GrS (Sd T xs.length) w wr:=by rw[<-kL];exact ae
   have dX:∀k,k<w.heap.size->(∀j,j<xs.length->T k≠13+3*(j+1))->T1 k=T k:=by rw[<-kL];exact fM
   have pB:lI.length=us.length+4*xs.length:=by rw[<-kL];exact hu1
   have gq:T1 W=1:=by rw[dX W iU (fun j hj=>by omega)];exact rN
   have hV1:TRow T1 13 37 2 ftenc (.slice bB xs.length aO) xs wr:=(Aa HH).row.keep2 fO (fun k hk=>Ym hk) (fun k hk hk2=>by rw[dX k hk (fun j hj=>by omega)];exact hk2)
   have VT:ElsAt 4 7 47 37 T1 xv kx fs wr:=by
    obtain⟨e1,e2,e3⟩:=Aa HE;refine⟨e1.keep2 fO (fun k hk=>Gn hk (by decide)) (fun k hk hk2=>by rw[dX k hk (fun j hj=>by omega)];exact hk2),e2.keep2 fO (fun k hk=>Gn hk (by decide)) (fun k hk hk2=>by rw[dX k hk (fun j hj=>by omega)];exact hk2),fun p hp=>?_⟩;obtain⟨n,hn⟩:=e3 p hp;exact⟨n,hn.keep2 fO (fun k hk=>Gn hk (by decide)) (fun k hk hk2=>by rw[dX k hk (fun j hj=>by omega)];exact hk2)⟩
   have sR:=Ac pB;have ee:=Ac fO;have kg:=Ac dX;have eb:=Ac b9;clear hu1 ae fM kL fO dX pB b9 HH HE HN HW hlt hi rN;obtain⟨wo,rfl⟩:∃wo:World,wo=wr:=⟨_,rfl⟩
   obtain⟨qi,mi,qh⟩:=VT;obtain⟨iB,bz,rI⟩:=mi.1.slice;rw[BA] at rI;have cK:wo.cell? ⟨W,5,none⟩=some (.slice iB fs.length bz):=by rw[hW1.cell 5,rI];rfl
   obtain⟨m,hm⟩:∃m:Int,m=-1-(fs.length:Int):=⟨_,rfl⟩
   have kG:=hV1.1.own;have LU:W<wo.heap.size:=Ad hW1;have br:=Aa nY;have HV:=Ac hV1;have iD:=Ac qi;have jW:=Ac mi;have xK:=Ac qh;have HW:=Ac hW1;have NY:=Ac rI;have HM:=Ac hm;have kr:=Ac kG;clear hV1 qi mi qh hW1 rI hm kG;go_wp2;rw[<-Aa HM];clear br cK;have jf:=AA wo (.cells #[.int .i64 m,.slice none 0 0] 37) none;have MD:C2 37 wo.heap.size (.int .i64 m) (.slice none 0 0) (wo.alloc (.cells #[.int .i64 m,.slice none 0 0] 37)):=AR _ _;go_loopw [7] (fun z w'=>∃i2:Nat,i2<=xs.length/\z=.int .i64 i2/\GrS (fun k=>T1 k=13) wo w'/\RowAt 37 2 ftenc 0 (.slice bB xs.length aO) (List.replicate i2 (⟨m,.slice none 0 0,[]⟩:VFt)++xs.drop i2) w'/\C2 37 wo.heap.size (.int .i64 m) (.slice none 0 0) w'/\wo.heap.size+1<=w'.heap.size) (fun z _=>xs.length-(intOf z).toNat)
   case atStart=>exact⟨0,AG _,rfl,GrS.of jf (by simp),by simpa using(Aa HV).1.gr jf,MD,by simp⟩
   case round=>
    clear jf MD;obtain⟨i2,oY,rfl,hG,hR,hF,rZ⟩:=hrel;obtain⟨f0,f1⟩:=hF.c;by_cases hlt2:i2<xs.length
    ·have vq:decide (i2<xs.length)=true:=by simpa using hlt2
     obtain⟨x,hx⟩:∃x,(List.replicate i2 (⟨m,.slice none 0 0,[]⟩:VFt)++xs.drop i2)[i2]?=some x:=⟨_,AB (by simp;omega)⟩
     obtain⟨g,cp,eQ,hcs⟩:=hR.cells hx;simp only[AH] at eQ;obtain⟨rfl,hzz,rfl⟩:=eQ;clear hzz;have x0:wr.cell? ⟨g,i2*2,none⟩=some (.int .i64 x.kind):=hcs 0 (by omega);have x1:wr.cell? ⟨g,i2*2+1,none⟩=some x.v:=hcs 1 (by omega);have z0:=hR.fz (i2*2);have z1:=hR.fz (i2*2+1);have uH:T1 g=13:=(Aa HV).2 g rfl;have im:g<wo.heap.size:=(Aa kr g rfl).2;have hR2:=FtsAt.stored hR i2 ⟨m,.slice none 0 0,[]⟩ (by simp;omega);rw[Sg _ xs i2 hlt2] at hR2;have aZ:=Rw wr g (i2*2) (i2*2+1) (.int .i64 m) (.slice none 0 0);have bW:=hG.then aZ (fun k hk=>by simp at hk;subst hk;exact .inr uH)
     have hF2:=hF.kept aZ (by simp;omega);have cD:=Ac hR2;have sX:=Ac bW;have XG:=Ac hF2;have uq:=AU rZ aZ.size;clear hcs hx hR hG uH hR2 bW hF2 aZ hF;go_wp2;go_roundw
     case rel=>exact⟨i2+1,by omega,by go_num,Aa sX,Aa cD,Aa XG,uq⟩
     case measure=>simp[intOf];omega
    ·have vq:decide (i2<xs.length)=false:=by simpa using hlt2
     have e1:List.replicate i2 (⟨m,.slice none 0 0,[]⟩:VFt)++xs.drop i2=List.replicate xs.length (⟨m,.slice none 0 0,[]⟩:VFt):=by
      rw[BD (by omega),BM];congr 1
      omega
     rw[e1] at hR;clear e1 hlt2 oY;generalize kA:xs.length=n at *;have a7:=AA wr (.cells #[.int .i64 m,.slice none 0 0] 37) none;have hs1:RowAt 37 2 ftenc 0 (.slice (some ⟨wr.heap.size,0,none⟩) 1 1) (List.replicate 1 (⟨m,.slice none 0 0,[]⟩:VFt)) (wr.alloc (.cells #[.int .i64 m,.slice none 0 0] 37)):=(RowAt.litn Cz wr (List.replicate 1 (⟨m,.slice none 0 0,[]⟩:VFt)) #[.int .i64 m,.slice none 0 0] rfl (by simp[maxLen])).weak (AG _);have kV:=hR.gr a7
     go_wp2_with (at_builtin;refine Cb rfl _ _ 47 rfl Tryz.underlying47 Tryz.infoFact rfl (by decide) rfl kV rfl hs1 (by simp) (fun y hy=>E7 y (by rw[CX hy];rfl)) (by unfold maxLen;simp;omega) (by simp;omega) ?_)
     intro v1 w1 aS eI;obtain⟨g1,aW,rfl⟩:=eI.form;have iY:C2 37 wo.heap.size (.int .i64 m) (.slice none 0 0) w1:=eI.block (hF.kept a7 (by simp)) (fun e=>by have:=(Aa kr _ e).2;omega);obtain⟨f10,f11⟩:=iY.c;have eV:RowAt 37 2 ftenc 0 (.slice (some ⟨g1,0,none⟩) (n+1) aW) (List.replicate (n+1) (⟨m,.slice none 0 0,[]⟩:VFt)) w1:=by have:=aS;rw[<-Et n (⟨m,.slice none 0 0,[]⟩:VFt) 1];exact this
     have dz:∀g,(Value.slice bB n aO).ownBlock=some g->g<(wr.alloc (.cells #[.int .i64 m,.slice none 0 0] 37)).heap.size:=fun g hg=>AZ (Aa kr g hg).2 (AU hG.size a7.size)
     have fW:=eI.kin dz;have hR1:RowAt 37 2 ftenc 0 (.slice bB n aO) (List.replicate (n+0) (⟨m,.slice none 0 0,[]⟩:VFt)) w1:=Kin.keepG (v:=.slice bB n aO) (v1:=.slice bB n aO) (j:=0) (E8 _ _ hR) kV eV eI (AG _);have nV:=(hG.then a7 (by simp)).trans (eI.gr (fun g hg=>(Aa HV).2 g hg));have hown1:=eI.own;have qx:wo.heap.size<=(wr.alloc (.cells #[.int .i64 m,.slice none 0 0] 37)).heap.size:=AU hG.size a7.size;have aR:=AA w1 (.cells #[.int .i64 m,.slice none 0 0,.int .i64 m,.slice none 0 0] 37) none;have hs2:RowAt 37 2 ftenc 0 (.slice (some ⟨w1.heap.size,0,none⟩) 2 2) (List.replicate 2 (⟨m,.slice none 0 0,[]⟩:VFt)) (w1.alloc (.cells #[.int .i64 m,.slice none 0 0,.int .i64 m,.slice none 0 0] 37)):=(RowAt.litn Cz w1 (List.replicate 2 (⟨m,.slice none 0 0,[]⟩:VFt)) #[.int .i64 m,.slice none 0 0,.int .i64 m,.slice none 0 0] rfl (by simp[maxLen])).weak (AG _);have iu:=hR1.gr aR;have l4:=eV.gr aR;have r7:=Ac fW;have kn:=Ac hown1;clear a7 hs1 kV aS eI hR1 hR hG dz fW hown1 eV
     go_wp2_with (at_builtin;refine Cb rfl _ _ 47 rfl Tryz.underlying47 Tryz.infoFact rfl (by decide) rfl iu rfl hs2 (by simp) (fun y hy=>E7 y (by rw[CX hy];rfl)) (by unfold maxLen;simp;omega) (by simp;omega) ?_)
     intro v2 w2 hv2 hl2;obtain⟨g2,aC,rfl⟩:=hl2.form;have hF2:C2 37 wo.heap.size (.int .i64 m) (.slice none 0 0) w2:=hl2.block (iY.kept aR (by simp)) (fun e=>by have:=(Aa kr _ e).2;omega);obtain⟨f20,f21⟩:=hF2.c;have ej:RowAt 37 2 ftenc 0 (.slice (some ⟨g2,0,none⟩) (n+2) aC) (List.replicate (n+2) (⟨m,.slice none 0 0,[]⟩:VFt)) w2:=by have:=hv2;rw[<-Et n (⟨m,.slice none 0 0,[]⟩:VFt) 2];exact this
     have dz:∀g,(Value.slice bB n aO).ownBlock=some g->g<(w1.alloc (.cells #[.int .i64 m,.slice none 0 0,.int .i64 m,.slice none 0 0] 37)).heap.size:=fun g hg=>AZ (Aa kr g hg).2 (AU nV.size aR.size)
     have fV:=hl2.kin dz;have hR2:RowAt 37 2 ftenc 0 (.slice bB n aO) (List.replicate (n+0) (⟨m,.slice none 0 0,[]⟩:VFt)) w2:=Kin.keepG (v:=.slice bB n aO) (v1:=.slice bB n aO) (j:=0) (E8 _ _ iu) iu ej hl2 (AG _);have jr:=Kin.keepG (Aa r7) l4 ej hl2 (by omega);have qf:=(nV.then aR (by simp)).trans (hl2.gr (fun g hg=>(Aa HV).2 g hg));have hown2:=hl2.own;have qw:wo.heap.size<=(w1.alloc (.cells #[.int .i64 m,.slice none 0 0,.int .i64 m,.slice none 0 0] 37)).heap.size:=AU nV.size aR.size;have bP:=AA w2 (.cells #[.int .i64 m,.slice none 0 0,.int .i64 m,.slice none 0 0,.int .i64 m,.slice none 0 0] 37) none;have hs3:RowAt 37 2 ftenc 0 (.slice (some ⟨w2.heap.size,0,none⟩) 3 3) (List.replicate 3 (⟨m,.slice none 0 0,[]⟩:VFt)) (w2.alloc (.cells #[.int .i64 m,.slice none 0 0,.int .i64 m,.slice none 0 0,.int .i64 m,.slice none 0 0] 37)):=(RowAt.litn Cz w2 (List.replicate 3 (⟨m,.slice none 0 0,[]⟩:VFt)) #[.int .i64 m,.slice none 0 0,.int .i64 m,.slice none 0 0,.int .i64 m,.slice none 0 0] rfl (by simp[maxLen])).weak (AG _);have jQ:=hR2.gr bP;have jq:=jr.gr bP;have jo:=ej.gr bP;have ji:=Ac fV;have kj:=Ac hown2;clear aR hs2 iu l4 hv2 hl2 hR2 jr nV dz fV hown2 ej
     go_wp2_with (at_builtin;refine Cb rfl _ _ 47 rfl Tryz.underlying47 Tryz.infoFact rfl (by decide) rfl jQ rfl hs3 (by simp) (fun y hy=>E7 y (by rw[CX hy];rfl)) (by unfold maxLen;simp;omega) (by simp;omega) ?_)
     intro v3 w3 hv3 hl3;obtain⟨g3,b8,rfl⟩:=hl3.form;have bN:RowAt 37 2 ftenc 0 (.slice (some ⟨g3,0,none⟩) (n+3) b8) (List.replicate (n+3) (⟨m,.slice none 0 0,[]⟩:VFt)) w3:=by have:=hv3;rw[<-Et n (⟨m,.slice none 0 0,[]⟩:VFt) 3];exact this
     have dY:RowAt 37 2 ftenc 0 (.slice bB n aO) (List.replicate (n+0) (⟨m,.slice none 0 0,[]⟩:VFt)) w3:=Kin.keepG (v:=.slice bB n aO) (v1:=.slice bB n aO) (j:=0) (E8 _ _ jQ) jQ bN hl3 (AG _);have gU:=Kin.keepG (Aa r7) jq bN hl3 (by omega);have gT:=Kin.keepG (Aa ji) jo bN hl3 (by omega);have iw:=(qf.then bP (by simp)).trans (hl3.gr (fun g hg=>(Aa HV).2 g hg));have fR:=hl3.own;have jS:=iw.size;have fj:=qf.size
     have ho:∀v':Value,(v'=.slice bB n aO\/v'=.slice (some ⟨g1,0,none⟩) (n+1) aW\/v'=.slice (some ⟨g2,0,none⟩) (n+2) aC\/v'=.slice (some ⟨g3,0,none⟩) (n+3) b8)->∀g,v'.ownBlock=some g->(g<wo.heap.size/\T1 g=13)\/wo.heap.size<=g:=by
      have hV:∀g,(Value.slice bB n aO).ownBlock=some g->(g<wo.heap.size/\T1 g=13)\/wo.heap.size<=g:=fun g hg=>.inl ⟨(Aa kr g hg).2,(Aa HV).2 g hg⟩
      rintro v' (rfl|rfl|rfl|rfl) g hg
      ·exact hV g hg
      ·rcases Aa kn g hg with h|h
       ·exact hV g h
       ·exact .inr (AU qx h)
      ·rcases Aa kj g hg with h|h
       ·exact hV g h
       ·exact .inr (AU qw h)
      ·rcases fR g hg with h|h
       ·exact hV g h
       ·exact .inr (AU (AU fj bP.size) h)
     have HO:=Ac ho;have gV:=iw.row (Aa iD).1 (fun g hg=>by have:=(Aa iD).2 g hg;omega);have kJ:=iw.row (Aa jW).1 (fun g hg=>by have:=(Aa jW).2 g hg;omega);have hW3:=(Aa HW).grs iw (by omega);clear bP hs3 jQ jq jo hv3 hl3 fR ho qf fj kn kj r7 ji;have y9:=Ac kA;clear kA;obtain⟨j0,cy,rfl⟩:=gV.slice;obtain⟨L4,hL4⟩:∃L4:List (Value×Int),L4=[(.slice bB n aO,m),(.slice (some ⟨g1,0,none⟩) (n+1) aW,m),(.slice (some ⟨g2,0,none⟩) (n+2) aC,m),(.slice (some ⟨g3,0,none⟩) (n+3) b8,m)]:=⟨_,rfl⟩
     have bu:L4.length=4:=by rw[hL4];rfl
     have dG:=AA w3 (.cells #[.slice bB n aO,.slice (some ⟨g1,0,none⟩) (n+1) aW,.slice (some ⟨g2,0,none⟩) (n+2) aC,.slice (some ⟨g3,0,none⟩) (n+3) b8] 47) none
     have nB:RowAt 47 1 (fun p:Value×Int=>[p.1]) 0 (.slice (some ⟨w3.heap.size,0,none⟩) 4 4) L4 (w3.alloc (.cells #[.slice bB n aO,.slice (some ⟨g1,0,none⟩) (n+1) aW,.slice (some ⟨g2,0,none⟩) (n+2) aC,.slice (some ⟨g3,0,none⟩) (n+3) b8] 47)):=by
      have:=(RowAt.litn (e:=47) (size:=1) (enc:=fun p:Value×Int=>[p.1]) (fun _=>rfl) w3 L4 #[.slice bB n aO,.slice (some ⟨g1,0,none⟩) (n+1) aW,.slice (some ⟨g2,0,none⟩) (n+2) aC,.slice (some ⟨g3,0,none⟩) (n+3) b8] (by rw[hL4];rfl) (by rw[bu];decide)).weak (AG _);rw[bu] at this;exact this
     have fS:∀y∈L4,∀c∈[y.1],c.oneCell'=true:=by
      intro y hy c hc;rw[hL4] at hy;simp only[AX] at hc;subst hc;simp only[CQ,FX,JU] at hy;rcases hy with rfl|rfl|rfl|rfl<;>rfl
     have qU:=Aa nY;have hb1:fs.length+L4.length<=maxLen:=by rw[bu];unfold maxLen;omega
     have hb2:(fs.length+L4.length)*24<=140737488355328:=by rw[bu];omega
     have hb3:0<L4.length:=by rw[bu];decide
     have fD:=Ac hb1;have fQ:=Ac hb2;have ku:=Ac hb3;have eP:=Ac fS;have NL:=Ac nB;have js:=gV.gr dG;have qP:=hW3.gr dG (by simp);have qD:(w3.alloc (.cells #[.slice bB n aO,.slice (some ⟨g1,0,none⟩) (n+1) aW,.slice (some ⟨g2,0,none⟩) (n+2) aC,.slice (some ⟨g3,0,none⟩) (n+3) b8] 47)).cell? ⟨W,2,none⟩=some (.slice j0 fs.length cy):=qP.cell 2;have qF:w3.cell? ⟨W,2,none⟩=some (.slice j0 fs.length cy):=hW3.cell 2;have rR:=Ac hL4;have iC:=Ac bu;clear hb1 hb2 hb3 fS nB hL4 bu qU;have sk:(Value.slice j0 fs.length cy).ownBlock≠some W:=fun e=>by have:=(Aa iD).2 W e;omega
     have uV:=Ac sk;clear sk
     go_wp2_with (at_builtin;refine Cb rfl _ _ 69 rfl Tryz.underlying69 Tryz.infoSFact rfl (by decide) rfl js rfl (Aa NL) (Aa ku) (Aa eP) (Aa fD) (Aa fQ) ?_)
     intro u5 w5 mz aP;obtain⟨g5,aI,rfl⟩:=aP.form;rw[Aa iC] at mz aP;have fX:WBlk W #[nv,jA,.slice j0 fs.length cy,ov,jB,kx,ko,lv] w5:=aP.block qP (Aa uV);have wq:w5.cell? ⟨W,2,none⟩=some (.slice j0 fs.length cy):=fX.cell 2;have z51:=fX.fz 2;have gu:∀g,(Value.slice j0 fs.length cy).ownBlock=some g->g<wo.heap.size/\T1 g=4:=fun g hg=>⟨((Aa iD).1.own g hg).2,(Aa iD).2 g hg⟩
     have eN:∀g,kx.ownBlock=some g->g<wo.heap.size/\T1 g=7:=fun g hg=>⟨((Aa jW).1.own g hg).2,(Aa jW).2 g hg⟩
     have aZ:=Aj w5 W 2 (.slice (some ⟨g5,0,none⟩) (fs.length+4) aI);have iU:W<wo.heap.size:=Ad (Aa HW)
     have bA:∀(v':Value) (k:Nat),(v'=.slice bB n aO\/v'=.slice (some ⟨g1,0,none⟩) (n+1) aW\/v'=.slice (some ⟨g2,0,none⟩) (n+2) aC\/v'=.slice (some ⟨g3,0,none⟩) (n+3) b8)->RowAt 37 2 ftenc 0 v' (List.replicate k (⟨m,.slice none 0 0,[]⟩:VFt)) w3->RowAt 37 2 ftenc 0 v' (List.replicate k (⟨m,.slice none 0 0,[]⟩:VFt)) (w5.setCell ⟨W,2,none⟩ (.slice (some ⟨g5,0,none⟩) (fs.length+4) aI)):=by
      intro v' k hv' h
      have h1:=aP.keepRow (h.gr dG) (fun g hg e=>by
       have h2:=gu g e;rcases Aa HO v' hv' g hg with h3|h3<;>omega)
      refine h1.other aZ (fun g hg e=>?_);simp only[AE] at e;subst e;rcases Aa HO v' hv' W hg with h3|h3<;>omega
     have hw0:=bA _ _ (.inl rfl) dY;have hw1:=bA _ _ (.inr (.inl rfl)) gU;have hw2:=bA _ _ (.inr (.inr (.inl rfl))) gT;have hw3:=bA _ _ (.inr (.inr (.inr rfl))) bN
     have pV:RowAt 3 1 C1 0 kx (fs.map Prod.snd) (w5.setCell ⟨W,2,none⟩ (.slice (some ⟨g5,0,none⟩) (fs.length+4) aI)):=by
      have h1:=aP.keepRow (kJ.gr dG) (fun g hg e=>by have h2:=gu g e;have h3:=eN g hg;omega);refine h1.other aZ (fun g hg e=>?_);simp only[AE] at e;subst e;have h3:=eN W hg;omega
     have pA:RowAt 47 1 (fun p:Value×Int=>[p.1]) 0 (.slice (some ⟨g5,0,none⟩) (fs.length+4) aI) (fs++L4) (w5.setCell ⟨W,2,none⟩ (.slice (some ⟨g5,0,none⟩) (fs.length+4) aI)):=by
      refine mz.other aZ (fun g hg e=>?_);simp only[AE] at e;subst e;rcases aP.own W hg with h2|h2
      ·exact Aa uV h2
      ·have h4:=dG.size
       omega
     have nP:WBlk W #[nv,jA,.slice (some ⟨g5,0,none⟩) (fs.length+4) aI,ov,jB,kx,ko,lv] (w5.setCell ⟨W,2,none⟩ (.slice (some ⟨g5,0,none⟩) (fs.length+4) aI)):=fX.set 2 _
     have bG:g5<w3.heap.size+1->T1 g5=4/\g5<wo.heap.size:=by
      intro hlt;rcases aP.own g5 rfl with h2|h2
      ·exact⟨(gu g5 h2).2,(gu g5 h2).1⟩
      ·simp at h2;omega
     have dh:GrS (fun k=>T1 k=1\/T1 k=4\/T1 k=7\/T1 k=13) wo (w5.setCell ⟨W,2,none⟩ (.slice (some ⟨g5,0,none⟩) (fs.length+4) aI)):=by
      have h1:GrS (fun k=>T1 k=1\/T1 k=4\/T1 k=7\/T1 k=13) wo w3:=iw.mono (fun k hk=>.inr (.inr (.inr hk)));have h2:=(h1.then dG (by simp)).trans (aP.gr (fun g hg=>.inr (.inl (gu g hg).2)));exact h2.then aZ (fun g hg=>by simp only[AE] at hg;subst hg;exact .inr (.inl gq))
     obtain⟨w6,iG⟩:∃w6,w5.setCell ⟨W,2,none⟩ (.slice (some ⟨g5,0,none⟩) (fs.length+4) aI)=w6:=⟨_,rfl⟩
     have yl:w5.heap.size=w6.heap.size:=by rw[<-iG];simp[World.setCell]
     have ym:w3.heap.size+1<=w5.heap.size:=by
      have h1:GrS (fun k=>T1 k=4) (w3.alloc (.cells #[.slice bB n aO,.slice (some ⟨g1,0,none⟩) (n+1) aW,.slice (some ⟨g2,0,none⟩) (n+2) aC,.slice (some ⟨g3,0,none⟩) (n+3) b8] 47)) w5:=aP.gr (fun g hg=>(gu g hg).2);have h2:=h1.size;simp at h2;omega
     have zI:g5<w5.heap.size:=(mz.own g5 rfl).2;have hlt3:∀(v':Value) (k:Nat),RowAt 37 2 ftenc 0 v' (List.replicate k (⟨m,.slice none 0 0,[]⟩:VFt)) w3->∀g,v'.ownBlock=some g->g<w3.heap.size:=fun v' k h g hg=>(h.own g hg).2
     have q0:=hlt3 _ _ dY;have q1:=hlt3 _ _ gU;have q2:=hlt3 _ _ gT;have q3:=hlt3 _ _ bN;rw[iG] at hw0 hw1 hw2 hw3 pV pA nP dh;have hk0:=Aa NY;subst hk0;have iq:=Ah (AA w6 (.cells #[.int .i64 m,.int .i64 m,.int .i64 m,.int .i64 m] 3) none);have pJ:IsAt 0 (.slice (some ⟨w6.heap.size,0,none⟩) 4 4) (List.replicate 4 m) (w6.alloc (.cells #[.int .i64 m,.int .i64 m,.int .i64 m,.int .i64 m] 3)).drew:=((RowAt.litn At w6 (List.replicate 4 m) #[.int .i64 m,.int .i64 m,.int .i64 m,.int .i64 m] rfl (by simp[maxLen])).weak (AG _)).heap rfl;have MZ:w6.cell? ⟨W,5,none⟩=some (.slice iB fs.length bz):=nP.cell 5;have MX:(w6.alloc (.cells #[.int .i64 m,.int .i64 m,.int .i64 m,.int .i64 m] 3)).cell? ⟨W,5,none⟩=some (.slice iB fs.length bz):=(AA w6 _ none).cell MZ (by simp);obtain⟨WX,nO⟩:∃WX,(w6.alloc (.cells #[.int .i64 m,.int .i64 m,.int .i64 m,.int .i64 m] 3)).drew=WX:=⟨_,rfl⟩
     have yi:WX.heap.size=w6.heap.size+1:=by rw[<-nO];simp[World.drew]
     rw[nO] at iq pJ;have tS:=pV.gr iq;have uN:(Value.slice iB fs.length bz).ownBlock≠some W:=fun e=>by have:=eN W e;omega
     have gy:∀g7 aw w7,RowAt 3 1 C1 0 (.slice (some ⟨g7,0,none⟩) (fs.length+4) aw) (fs.map Prod.snd++List.replicate 4 m) w7->Longer (.slice iB fs.length bz) (.slice (some ⟨g7,0,none⟩) (fs.length+4) aw) fs.length 4 WX w7->
       w7.cell? ⟨W,5,none⟩=some (.slice iB fs.length bz)/\w7.frozen? ⟨W,5,none⟩=false/\Q3 T W nv ov ko lv us fs n w (.returned (.tuple #[])) (w7.setCell ⟨W,5,none⟩ (.slice (some ⟨g7,0,none⟩) (fs.length+4) aw)):=by
      intro g7 aw w7 iH bV;have qQ:WBlk W #[nv,jA,.slice (some ⟨g5,0,none⟩) (fs.length+4) aI,ov,jB,.slice iB fs.length bz,ko,lv] w7:=bV.block (nP.gr iq (by simp)) uN;have gZ:=Aj w7 W 5 (.slice (some ⟨g7,0,none⟩) (fs.length+4) aw);have ix:=((dh.then iq (by simp)).trans (bV.gr (fun g hg=>.inr (.inr (.inl (eN g hg).2))))).then gZ (fun g hg=>by simp only[AE] at hg;subst hg;exact .inr (.inl gq))
      have dS:g7<w6.heap.size+1->T1 g7=7/\g7<wo.heap.size:=by
       intro hlt;rcases bV.own g7 rfl with h2|h2
       ·exact⟨(eN g7 h2).2,(eN g7 h2).1⟩
       ·omega
      have bo:∀ {α:Type} {e:TypeId} {size:Nat} {enc:α->List Value} (x:Value) (y:List α),RowAt e size enc 0 x y w6->(∀g,x.ownBlock=some g->(g<wo.heap.size/\T1 g≠7/\T1 g≠1)\/wo.heap.size<=g)->RowAt e size enc 0 x y (w7.setCell ⟨W,5,none⟩ (.slice (some ⟨g7,0,none⟩) (fs.length+4) aw)):=by
       intro α e size enc x y h hx
       have h1:=bV.keepRow (h.gr iq) (fun g hg e=>by
        have h2:=eN g e;rcases hx g hg with h3|h3<;>omega)
       refine h1.other gZ (fun g hg e=>?_);simp only[AE] at e;subst e;rcases hx W hg with h3|h3<;>omega
      have sL:L4.map Prod.snd=List.replicate 4 m:=by rw[Aa rR];rfl
      obtain⟨T',bR⟩:∃T':Nat->Nat,∀k,T' k=if k<wo.heap.size then (if T1 k=13 then 10 else T1 k) else if k=g5 then 4 else if k=g7 then 7 else 10:=⟨_,fun _=>rfl⟩
      have cq:∀k,k<wo.heap.size->T1 k≠13->T' k=T1 k:=fun k h1 h2=>by rw[bR,AQ h1,AO h2]
      have VJ:NumsAt T' jA jB lI (w7.setCell ⟨W,5,none⟩ (.slice (some ⟨g7,0,none⟩) (fs.length+4) aw)):=by
       obtain⟨a1,a2,a3⟩:=Aa eb;refine⟨a1.keep2 ix (fun k hk=>by omega) (fun k hk hk2=>by rw[cq k hk (by omega)];exact hk2),a2.keep2 ix (fun k hk=>by omega) (fun k hk hk2=>by rw[cq k hk (by omega)];exact hk2),fun p hp=>?_⟩;obtain⟨j,hj⟩:=a3 p hp;exact⟨j,hj.keep2 ix (fun k hk=>by omega) (fun k hk hk2=>by rw[cq k hk (by omega)];exact hk2)⟩
      have mg:GrS (fun k=>T k=1\/T k=3\/T k=6\/T k=4\/T k=7\/InH (T k)) w (w7.setCell ⟨W,5,none⟩ (.slice (some ⟨g7,0,none⟩) (fs.length+4) aw)):=by
       refine((Aa ee).mono (fun k hk=>?_)).comp ix (fun k hk hn=>?_)
       ·rcases hk with h|h|h|⟨j,_,h⟩
        ·exact .inl h
        ·exact .inr (.inl h)
        ·exact .inr (.inr (.inl h))
        ·exact .inr (.inr (.inr (.inr (.inr ⟨by omega,by omega⟩))))
       ·have hI:¬ InH (T k):=fun h=>hn (.inr (.inr (.inr (.inr (.inr h)))))
        have h1:=Aa kg k hk (fun j hj e=>hI ⟨by omega,by omega⟩);rw[h1];rintro(h|h|h|h)
        ·exact hn (.inl h)
        ·exact hn (.inr (.inr (.inr (.inl h))))
        ·exact hn (.inr (.inr (.inr (.inr (.inl h)))))
        ·exact hI ⟨by omega,by omega⟩
      have xl:∀k,k<w.heap.size->¬ InH (T k)->T' k=T k:=by
       intro k hk hI;have h1:=Aa kg k hk (fun j hj e=>hI ⟨by omega,by omega⟩);rw[cq k (AZ hk (Aa ee).size) (by rw[h1];intro e;exact hI ⟨by omega,by omega⟩),h1]
      refine⟨qQ.cell 5,qQ.fz 5,rfl,T',jA,jB,lI,.slice (some ⟨g5,0,none⟩) (fs.length+4) aI,.slice (some ⟨g7,0,none⟩) (fs.length+4) aw,fs++L4,qQ.set 5 _,VJ,⟨⟨?_,?_⟩,⟨?_,?_⟩,?_⟩,Aa sR,by rw[AK,Aa iC],mg,xl⟩
      ·refine bo _ _ pA (fun g hg=>?_)
       simp only[Value.ownBlock,AE] at hg;subst hg;by_cases hlt:g5<wo.heap.size
       ·have:=bG (by omega)
        exact .inl ⟨hlt,by omega,by omega⟩
       ·exact .inr (by omega)
      ·intro g hg
       simp only[Value.ownBlock,AE] at hg;subst hg;by_cases hlt:g5<wo.heap.size
       ·have:=bG (by omega)
        rw[cq g5 hlt (by omega)];exact this.1
       ·rw[bR,AO hlt,AQ rfl]
      ·rw[CG,sL]
       refine iH.other gZ (fun g hg e=>?_);simp only[Value.ownBlock,AE] at hg e;subst hg;subst e;have:=dS (by omega);omega
      ·intro g hg
       simp only[Value.ownBlock,AE] at hg;subst hg;by_cases hlt:g7<wo.heap.size
       ·have:=dS (by omega)
        rw[cq g7 hlt (by omega)];exact this.1
       ·have hne:g7≠g5:=by
         intro e;have:=dS (by omega);omega
        rw[bR,AO hlt,AO hne,AQ rfl]
      ·have hnew:∀(v':Value) (k:Nat),(v'=.slice bB n aO\/v'=.slice (some ⟨g1,0,none⟩) (n+1) aW\/v'=.slice (some ⟨g2,0,none⟩) (n+2) aC\/v'=.slice (some ⟨g3,0,none⟩) (n+3) b8)->RowAt 37 2 ftenc 0 v' (List.replicate k (⟨m,.slice none 0 0,[]⟩:VFt)) w6->(∀g,v'.ownBlock=some g->g<w3.heap.size)->∃j,TRow T' 10 37 2 ftenc v' (List.replicate j (⟨m,.slice none 0 0,[]⟩:VFt)) (w7.setCell ⟨W,5,none⟩ (.slice (some ⟨g7,0,none⟩) (fs.length+4) aw)):=by
        intro v' k hv' h hlt;refine⟨k,bo v' _ h (fun g hg=>?_),fun g hg=>?_⟩
        ·rcases Aa HO v' hv' g hg with h3|h3
         ·exact .inl ⟨h3.1,by omega,by omega⟩
         ·exact .inr h3
        ·rcases Aa HO v' hv' g hg with h3|h3
         ·rw[bR,AQ h3.1,AQ h3.2]
         ·have hl:=hlt g hg
          have zA:g≠g5:=by
           intro e;have:=bG (by omega);omega
          have kB:g≠g7:=by
           intro e;have:=dS (by omega);omega
          rw[bR,AO (by omega),AO zA,AO kB]
       intro p hp;rcases AY.1 hp with hp|hp
       ·obtain⟨j,hj⟩:=Aa xK p hp
        exact⟨j,hj.keep2 ix (fun k hk=>by omega) (fun k hk hk2=>by rw[cq k hk (by omega)];exact hk2)⟩
       ·rw[Aa rR] at hp
        simp only[CQ,FX,JU] at hp;rcases hp with rfl|rfl|rfl|rfl
        ·exact hnew _ _ (.inl rfl) hw0 q0
        ·exact hnew _ _ (.inr (.inl rfl)) hw1 q1
        ·exact hnew _ _ (.inr (.inr (.inl rfl))) hw2 q2
        ·exact hnew _ _ (.inr (.inr (.inr rfl))) hw3 q3
     have jV:=Ac gy;have NX:=Ac tS;have NJ:=Ac pJ;have NC:=Ac nO;have ND:=Ac iG;have qU:=Aa nY;have hb1:(fs.map Prod.snd).length+(List.replicate 4 m).length<=maxLen:=by rw[BA,BN];unfold maxLen;omega
     have hb2:((fs.map Prod.snd).length+(List.replicate 4 m).length)*8<=140737488355328:=by rw[BA,BN];omega
     have rD:=Ac hb1;have rC:=Ac hb2;clear gy tS pJ nO hb1 hb2 qU pV pA nP dh hw0 hw1 hw2 hw3 bA hlt3 q0 q1 q2 q3 dY gU gT bN bG gu eN mz aP gV js kJ dG hW3 qP fX qD qF iw aZ iq uN iG;go_wp2_with fail;rw[Aa iC,Aa ND]
     go_region_law (rw[Aa NC];refine Ey rfl _ _ 35 rfl Tryz.underlying35 Tryz.infoInt rfl (by decide) (by simp[Act.eval]) (Aa NX) (by simp[Act.eval]) (Aa NJ) (by simp) (fun y _=>B7 y) (Aa rD) (Aa rC) ?_;intro kv w7 iH bV;rw[BA,BN] at bV;obtain⟨g7,aw,rfl⟩:=bV.form;obtain⟨f1,f2,f3⟩:=Aa jV g7 aw w7 iH bV;have F3:=Ac f3;clear f3 iH bV)
     all_goals
      go_wp2_with fail;go_end0
      have F4:=Aa F3;rw[<-Aa y9] at F4;exact F4
def Je(T:Nat->Nat)(W:Nat)(nv ov ko lv:Value)(us:List (Value×Int))(fs:List (Value×Int))(n:Nat)(w:World)(e:Ending)(w':World):Prop:=
 e=.returned (.tuple #[])/\∃T' jX jY ic ue uk ml,WBlk W #[nv,jX,ov,ue,jY,ko,uk,lv] w'/\NumsAt T' jX jY ic w'/\ElsAt 5 8 43 52 T' ue uk ml w'/\ic.length=us.length+4*n/\ml.length=fs.length+4/\
  GrS (fun k=>T k=1\/T k=3\/T k=6\/T k=5\/T k=8\/InH (T k)) w w'/\∀k,k<w.heap.size->¬ InH (T k)->T' k=T k
theorem Q3t(T:Nat->Nat)(W:Nat)(nv uv xv ov k0 kx ko lv:Value)(us fs:List (Value×Int))(v:Value)(xs:List VFt)(w:World)
 (hW:WBlk W #[nv,uv,ov,xv,k0,ko,kx,lv] w)(rN:T W=1)(hN:NumsAt T uv k0 us w)(hE:ElsAt 5 8 43 52 T xv kx fs w)(hH:Hand T 52 v xs w)(gB:us.length+4*xs.length<=4398046511104)(br:fs.length<=4398046511104)(gO:xs.length<=1000000) :
  Calls Tryz.prog 58 #[.pointer (some ⟨W,0,none⟩),v] w fun e w'=>Je T W nv ov ko lv us fs xs.length w e w':=by
 obtain⟨bB,aO,rfl⟩:=hH.row.1.slice;have iU:W<w.heap.size:=Ad hW;have HH:=Ac hH;have HE:=Ac hE;have HN:=Ac hN;have HW:=Ac hW;have xu:=Ac gB;have nY:=Ac br;clear hH hE hN hW gB br;go_enter Tryz.func58,Tryz.ntmps58;go_wp2;go_loopw [4] (fun z w'=>∃(i:Nat) (T1:Nat->Nat) (jA jB:Value) (lI:List (Value×Int)),i<=xs.length/\z=.int .i64 i/\WBlk W #[nv,jA,ov,xv,jB,ko,kx,lv] w'/\NumsAt T1 jA jB lI w'/\lI.length=us.length+4*i/\GrS (Sd T i) w w'/\∀k,k<w.heap.size->(∀j,j<i->T k≠13+3*(j+1))->T1 k=T k) (fun z _=>xs.length-(intOf z).toNat)
 case atStart=>exact⟨0,T,uv,k0,us,AG _,rfl,Aa HW,Aa HN,rfl,GrS.refl _ _,fun _ _ _=>rfl⟩
 case round=>
  obtain⟨i,T1,jA,jB,lI,hi,rfl,hW1,b9,hu1,ae,fM⟩:=hrel;by_cases hlt:i<xs.length
  ·have cY:decide (i<xs.length)=true:=by simpa using hlt
   obtain⟨x,hx⟩:∃x,xs[i]?=some x:=⟨xs[i],AB hlt⟩
   have hrow:=ae.row (Aa HH).row.1 (fun g hg=>by have:=(Aa HH).row.2 g hg;exact Ym this);obtain⟨g,cp,eQ,hcs⟩:=hrow.cells hx;simp only[AH,BP] at eQ;obtain⟨rfl,rfl⟩:=eQ;have x1:wr.cell? ⟨g,i*2+1,none⟩=some x.v:=hcs 1 (by omega);obtain⟨lN,ow⟩:=(Aa HH).els i x hx;have lK:TRow T1 (13+3*(i+1)) 3 1 C1 x.v x.vals wr:=lN.keep2 ae (fun k hk=>Q20 hk) (fun k hk hk2=>by rw[fM k hk (fun j hj=>by omega)];exact hk2);obtain⟨xa,xc,rX⟩:=lK.1.slice;have gq:T1 W=1:=by rw[fM W iU (fun j hj=>by omega)];exact rN
   have hO:=Sb T1 (13+3*(i+1)) W nv jA ov xv jB ko kx lv lI x.v x.vals wr hW1 gq b9 lK (by omega) (by have:=Aa xu;omega) ow;rw[rX] at x1 hO;have sR:=Ac hu1;have ee:=Ac ae;have kg:=Ac fM;clear hrow hcs hx lN ow lK rX hu1 ae fM b9 hW1 gq;go_wp2_with fail;refine hO.mono ?_;rintro e w2⟨rfl,T2,uf,um,ug,hW2,bb,hu2,bW,iV⟩
   have qg:GrS (Sd T (i+1)) w w2:=by
    refine((Aa ee).mono (fun k hk=>Uq hk)).comp bW (fun k hk hn=>?_);have h1:=Aa kg k hk (fun j hj e=>hn (.inr (.inr (.inr ⟨j,by omega,e⟩))));rw[h1];rintro(h|h|h|h)
    ·exact hn (.inl h)
    ·exact hn (.inr (.inl h))
    ·exact hn (.inr (.inr (.inl h)))
    ·exact hn (.inr (.inr (.inr ⟨i,by omega,h⟩)))
   have qY:∀k,k<w.heap.size->(∀j,j<i+1->T k≠13+3*(j+1))->T2 k=T k:=by
    intro k hk hn;have h1:=Aa kg k hk (fun j hj=>hn j (by omega));rw[iV k (AZ hk (Aa ee).size) (by rw[h1];exact hn i (by omega)),h1]
   have HR:=Ac (show WBlk W #[nv,uf,ov,xv,um,ko,kx,lv] w2/\NumsAt T2 uf um ug w2/\ug.length=us.length+4*(i+1)/\GrS (Sd T (i+1)) w w2/\∀k,k<w.heap.size->(∀j,j<i+1->T k≠13+3*(j+1))->T2 k=T k from⟨hW2,bb,by have:=Aa sR;omega,qg,qY⟩);clear hO hW2 bb hu2 bW iV qg qY sR ee kg;go_wp2;go_roundw
   case rel=>exact⟨i+1,T2,uf,um,ug,by omega,by go_num,Aa HR⟩
   case measure=>simp[intOf];omega
  ·have cY:decide (i<xs.length)=false:=by simpa using hlt
   have kL:i=xs.length:=by omega
   have fO:GrS (Sd T xs.length) w wr:=by rw[<-kL];exact ae
   have dX:∀k,k<w.heap.size->(∀j,j<xs.length->T k≠13+3*(j+1))->T1 k=T k:=by rw[<-kL];exact fM
   have pB:lI.length=us.length+4*xs.length:=by rw[<-kL];exact hu1
   have gq:T1 W=1:=by rw[dX W iU (fun j hj=>by omega)];exact rN
   have hV1:TRow T1 13 52 2 ftenc (.slice bB xs.length aO) xs wr:=(Aa HH).row.keep2 fO (fun k hk=>Ym hk) (fun k hk hk2=>by rw[dX k hk (fun j hj=>by omega)];exact hk2)
   have VT:ElsAt 5 8 43 52 T1 xv kx fs wr:=by
    obtain⟨e1,e2,e3⟩:=Aa HE;refine⟨e1.keep2 fO (fun k hk=>Gn hk (by decide)) (fun k hk hk2=>by rw[dX k hk (fun j hj=>by omega)];exact hk2),e2.keep2 fO (fun k hk=>Gn hk (by decide)) (fun k hk hk2=>by rw[dX k hk (fun j hj=>by omega)];exact hk2),fun p hp=>?_⟩;obtain⟨n,hn⟩:=e3 p hp;exact⟨n,hn.keep2 fO (fun k hk=>Gn hk (by decide)) (fun k hk hk2=>by rw[dX k hk (fun j hj=>by omega)];exact hk2)⟩
   have sR:=Ac pB;have ee:=Ac fO;have kg:=Ac dX;have eb:=Ac b9;clear hu1 ae fM kL fO dX pB b9 HH HE HN HW hlt hi rN;obtain⟨wo,rfl⟩:∃wo:World,wo=wr:=⟨_,rfl⟩
   obtain⟨qi,mi,qh⟩:=VT;obtain⟨iB,bz,rI⟩:=mi.1.slice;rw[BA] at rI;have cK:wo.cell? ⟨W,6,none⟩=some (.slice iB fs.length bz):=by rw[hW1.cell 6,rI];rfl
   obtain⟨m,hm⟩:∃m:Int,m=-1-(fs.length:Int):=⟨_,rfl⟩
   have kG:=hV1.1.own;have LU:W<wo.heap.size:=Ad hW1;have br:=Aa nY;have HV:=Ac hV1;have iD:=Ac qi;have jW:=Ac mi;have xK:=Ac qh;have HW:=Ac hW1;have NY:=Ac rI;have HM:=Ac hm;have kr:=Ac kG;clear hV1 qi mi qh hW1 rI hm kG;go_wp2;rw[<-Aa HM];clear br cK;have jf:=AA wo (.cells #[.int .i64 m,.slice none 0 0] 52) none;have MD:C2 52 wo.heap.size (.int .i64 m) (.slice none 0 0) (wo.alloc (.cells #[.int .i64 m,.slice none 0 0] 52)):=AR _ _;go_loopw [7] (fun z w'=>∃i2:Nat,i2<=xs.length/\z=.int .i64 i2/\GrS (fun k=>T1 k=13) wo w'/\RowAt 52 2 ftenc 0 (.slice bB xs.length aO) (List.replicate i2 (⟨m,.slice none 0 0,[]⟩:VFt)++xs.drop i2) w'/\C2 52 wo.heap.size (.int .i64 m) (.slice none 0 0) w'/\wo.heap.size+1<=w'.heap.size) (fun z _=>xs.length-(intOf z).toNat)
   case atStart=>exact⟨0,AG _,rfl,GrS.of jf (by simp),by simpa using(Aa HV).1.gr jf,MD,by simp⟩
   case round=>
    clear jf MD;obtain⟨i2,oY,rfl,hG,hR,hF,rZ⟩:=hrel;obtain⟨f0,f1⟩:=hF.c;by_cases hlt2:i2<xs.length
    ·have vq:decide (i2<xs.length)=true:=by simpa using hlt2
     obtain⟨x,hx⟩:∃x,(List.replicate i2 (⟨m,.slice none 0 0,[]⟩:VFt)++xs.drop i2)[i2]?=some x:=⟨_,AB (by simp;omega)⟩
     obtain⟨g,cp,eQ,hcs⟩:=hR.cells hx;simp only[AH] at eQ;obtain⟨rfl,hzz,rfl⟩:=eQ;clear hzz;have x0:wr.cell? ⟨g,i2*2,none⟩=some (.int .i64 x.kind):=hcs 0 (by omega);have x1:wr.cell? ⟨g,i2*2+1,none⟩=some x.v:=hcs 1 (by omega);have z0:=hR.fz (i2*2);have z1:=hR.fz (i2*2+1);have uH:T1 g=13:=(Aa HV).2 g rfl;have im:g<wo.heap.size:=(Aa kr g rfl).2;have hR2:=FtsAt.stored hR i2 ⟨m,.slice none 0 0,[]⟩ (by simp;omega);rw[Sg _ xs i2 hlt2] at hR2;have aZ:=Rw wr g (i2*2) (i2*2+1) (.int .i64 m) (.slice none 0 0);have bW:=hG.then aZ (fun k hk=>by simp at hk;subst hk;exact .inr uH)
     have hF2:=hF.kept aZ (by simp;omega);have cD:=Ac hR2;have sX:=Ac bW;have XG:=Ac hF2;have uq:=AU rZ aZ.size;clear hcs hx hR hG uH hR2 bW hF2 aZ hF;go_wp2;go_roundw
     case rel=>exact⟨i2+1,by omega,by go_num,Aa sX,Aa cD,Aa XG,uq⟩
     case measure=>simp[intOf];omega
    ·have vq:decide (i2<xs.length)=false:=by simpa using hlt2
     have e1:List.replicate i2 (⟨m,.slice none 0 0,[]⟩:VFt)++xs.drop i2=List.replicate xs.length (⟨m,.slice none 0 0,[]⟩:VFt):=by
      rw[BD (by omega),BM];congr 1
      omega
     rw[e1] at hR;clear e1 hlt2 oY;generalize kA:xs.length=n at *;have a7:=AA wr (.cells #[.int .i64 m,.slice none 0 0] 52) none;have hs1:RowAt 52 2 ftenc 0 (.slice (some ⟨wr.heap.size,0,none⟩) 1 1) (List.replicate 1 (⟨m,.slice none 0 0,[]⟩:VFt)) (wr.alloc (.cells #[.int .i64 m,.slice none 0 0] 52)):=(RowAt.litn Cz wr (List.replicate 1 (⟨m,.slice none 0 0,[]⟩:VFt)) #[.int .i64 m,.slice none 0 0] rfl (by simp[maxLen])).weak (AG _);have kV:=hR.gr a7
     go_wp2_with (at_builtin;refine Cb rfl _ _ 43 rfl Tryz.underlying43 Tryz.infoMatch rfl (by decide) rfl kV rfl hs1 (by simp) (fun y hy=>E7 y (by rw[CX hy];rfl)) (by unfold maxLen;simp;omega) (by simp;omega) ?_)
     intro v1 w1 aS eI;obtain⟨g1,aW,rfl⟩:=eI.form;have iY:C2 52 wo.heap.size (.int .i64 m) (.slice none 0 0) w1:=eI.block (hF.kept a7 (by simp)) (fun e=>by have:=(Aa kr _ e).2;omega);obtain⟨f10,f11⟩:=iY.c;have eV:RowAt 52 2 ftenc 0 (.slice (some ⟨g1,0,none⟩) (n+1) aW) (List.replicate (n+1) (⟨m,.slice none 0 0,[]⟩:VFt)) w1:=by have:=aS;rw[<-Et n (⟨m,.slice none 0 0,[]⟩:VFt) 1];exact this
     have dz:∀g,(Value.slice bB n aO).ownBlock=some g->g<(wr.alloc (.cells #[.int .i64 m,.slice none 0 0] 52)).heap.size:=fun g hg=>AZ (Aa kr g hg).2 (AU hG.size a7.size)
     have fW:=eI.kin dz;have hR1:RowAt 52 2 ftenc 0 (.slice bB n aO) (List.replicate (n+0) (⟨m,.slice none 0 0,[]⟩:VFt)) w1:=Kin.keepG (v:=.slice bB n aO) (v1:=.slice bB n aO) (j:=0) (E8 _ _ hR) kV eV eI (AG _);have nV:=(hG.then a7 (by simp)).trans (eI.gr (fun g hg=>(Aa HV).2 g hg));have hown1:=eI.own;have qx:wo.heap.size<=(wr.alloc (.cells #[.int .i64 m,.slice none 0 0] 52)).heap.size:=AU hG.size a7.size;have aR:=AA w1 (.cells #[.int .i64 m,.slice none 0 0,.int .i64 m,.slice none 0 0] 52) none;have hs2:RowAt 52 2 ftenc 0 (.slice (some ⟨w1.heap.size,0,none⟩) 2 2) (List.replicate 2 (⟨m,.slice none 0 0,[]⟩:VFt)) (w1.alloc (.cells #[.int .i64 m,.slice none 0 0,.int .i64 m,.slice none 0 0] 52)):=(RowAt.litn Cz w1 (List.replicate 2 (⟨m,.slice none 0 0,[]⟩:VFt)) #[.int .i64 m,.slice none 0 0,.int .i64 m,.slice none 0 0] rfl (by simp[maxLen])).weak (AG _);have iu:=hR1.gr aR;have l4:=eV.gr aR;have r7:=Ac fW;have kn:=Ac hown1;clear a7 hs1 kV aS eI hR1 hR hG dz fW hown1 eV
     go_wp2_with (at_builtin;refine Cb rfl _ _ 43 rfl Tryz.underlying43 Tryz.infoMatch rfl (by decide) rfl iu rfl hs2 (by simp) (fun y hy=>E7 y (by rw[CX hy];rfl)) (by unfold maxLen;simp;omega) (by simp;omega) ?_)
     intro v2 w2 hv2 hl2;obtain⟨g2,aC,rfl⟩:=hl2.form;have hF2:C2 52 wo.heap.size (.int .i64 m) (.slice none 0 0) w2:=hl2.block (iY.kept aR (by simp)) (fun e=>by have:=(Aa kr _ e).2;omega);obtain⟨f20,f21⟩:=hF2.c;have ej:RowAt 52 2 ftenc 0 (.slice (some ⟨g2,0,none⟩) (n+2) aC) (List.replicate (n+2) (⟨m,.slice none 0 0,[]⟩:VFt)) w2:=by have:=hv2;rw[<-Et n (⟨m,.slice none 0 0,[]⟩:VFt) 2];exact this
     have dz:∀g,(Value.slice bB n aO).ownBlock=some g->g<(w1.alloc (.cells #[.int .i64 m,.slice none 0 0,.int .i64 m,.slice none 0 0] 52)).heap.size:=fun g hg=>AZ (Aa kr g hg).2 (AU nV.size aR.size)
     have fV:=hl2.kin dz;have hR2:RowAt 52 2 ftenc 0 (.slice bB n aO) (List.replicate (n+0) (⟨m,.slice none 0 0,[]⟩:VFt)) w2:=Kin.keepG (v:=.slice bB n aO) (v1:=.slice bB n aO) (j:=0) (E8 _ _ iu) iu ej hl2 (AG _);have jr:=Kin.keepG (Aa r7) l4 ej hl2 (by omega);have qf:=(nV.then aR (by simp)).trans (hl2.gr (fun g hg=>(Aa HV).2 g hg));have hown2:=hl2.own;have qw:wo.heap.size<=(w1.alloc (.cells #[.int .i64 m,.slice none 0 0,.int .i64 m,.slice none 0 0] 52)).heap.size:=AU nV.size aR.size;have bP:=AA w2 (.cells #[.int .i64 m,.slice none 0 0,.int .i64 m,.slice none 0 0,.int .i64 m,.slice none 0 0] 52) none;have hs3:RowAt 52 2 ftenc 0 (.slice (some ⟨w2.heap.size,0,none⟩) 3 3) (List.replicate 3 (⟨m,.slice none 0 0,[]⟩:VFt)) (w2.alloc (.cells #[.int .i64 m,.slice none 0 0,.int .i64 m,.slice none 0 0,.int .i64 m,.slice none 0 0] 52)):=(RowAt.litn Cz w2 (List.replicate 3 (⟨m,.slice none 0 0,[]⟩:VFt)) #[.int .i64 m,.slice none 0 0,.int .i64 m,.slice none 0 0,.int .i64 m,.slice none 0 0] rfl (by simp[maxLen])).weak (AG _);have jQ:=hR2.gr bP;have jq:=jr.gr bP;have jo:=ej.gr bP;have ji:=Ac fV;have kj:=Ac hown2;clear aR hs2 iu l4 hv2 hl2 hR2 jr nV dz fV hown2 ej
     go_wp2_with (at_builtin;refine Cb rfl _ _ 43 rfl Tryz.underlying43 Tryz.infoMatch rfl (by decide) rfl jQ rfl hs3 (by simp) (fun y hy=>E7 y (by rw[CX hy];rfl)) (by unfold maxLen;simp;omega) (by simp;omega) ?_)
     intro v3 w3 hv3 hl3;obtain⟨g3,b8,rfl⟩:=hl3.form;have bN:RowAt 52 2 ftenc 0 (.slice (some ⟨g3,0,none⟩) (n+3) b8) (List.replicate (n+3) (⟨m,.slice none 0 0,[]⟩:VFt)) w3:=by have:=hv3;rw[<-Et n (⟨m,.slice none 0 0,[]⟩:VFt) 3];exact this
     have dY:RowAt 52 2 ftenc 0 (.slice bB n aO) (List.replicate (n+0) (⟨m,.slice none 0 0,[]⟩:VFt)) w3:=Kin.keepG (v:=.slice bB n aO) (v1:=.slice bB n aO) (j:=0) (E8 _ _ jQ) jQ bN hl3 (AG _);have gU:=Kin.keepG (Aa r7) jq bN hl3 (by omega);have gT:=Kin.keepG (Aa ji) jo bN hl3 (by omega);have iw:=(qf.then bP (by simp)).trans (hl3.gr (fun g hg=>(Aa HV).2 g hg));have fR:=hl3.own;have jS:=iw.size;have fj:=qf.size
     have ho:∀v':Value,(v'=.slice bB n aO\/v'=.slice (some ⟨g1,0,none⟩) (n+1) aW\/v'=.slice (some ⟨g2,0,none⟩) (n+2) aC\/v'=.slice (some ⟨g3,0,none⟩) (n+3) b8)->∀g,v'.ownBlock=some g->(g<wo.heap.size/\T1 g=13)\/wo.heap.size<=g:=by
      have hV:∀g,(Value.slice bB n aO).ownBlock=some g->(g<wo.heap.size/\T1 g=13)\/wo.heap.size<=g:=fun g hg=>.inl ⟨(Aa kr g hg).2,(Aa HV).2 g hg⟩
      rintro v' (rfl|rfl|rfl|rfl) g hg
      ·exact hV g hg
      ·rcases Aa kn g hg with h|h
       ·exact hV g h
       ·exact .inr (AU qx h)
      ·rcases Aa kj g hg with h|h
       ·exact hV g h
       ·exact .inr (AU qw h)
      ·rcases fR g hg with h|h
       ·exact hV g h
       ·exact .inr (AU (AU fj bP.size) h)
     have HO:=Ac ho;have gV:=iw.row (Aa iD).1 (fun g hg=>by have:=(Aa iD).2 g hg;omega);have kJ:=iw.row (Aa jW).1 (fun g hg=>by have:=(Aa jW).2 g hg;omega);have hW3:=(Aa HW).grs iw (by omega);clear bP hs3 jQ jq jo hv3 hl3 fR ho qf fj kn kj r7 ji;have y9:=Ac kA;clear kA;obtain⟨j0,cy,rfl⟩:=gV.slice;obtain⟨L4,hL4⟩:∃L4:List (Value×Int),L4=[(.slice bB n aO,m),(.slice (some ⟨g1,0,none⟩) (n+1) aW,m),(.slice (some ⟨g2,0,none⟩) (n+2) aC,m),(.slice (some ⟨g3,0,none⟩) (n+3) b8,m)]:=⟨_,rfl⟩
     have bu:L4.length=4:=by rw[hL4];rfl
     have dG:=AA w3 (.cells #[.slice bB n aO,.slice (some ⟨g1,0,none⟩) (n+1) aW,.slice (some ⟨g2,0,none⟩) (n+2) aC,.slice (some ⟨g3,0,none⟩) (n+3) b8] 43) none
     have nB:RowAt 43 1 (fun p:Value×Int=>[p.1]) 0 (.slice (some ⟨w3.heap.size,0,none⟩) 4 4) L4 (w3.alloc (.cells #[.slice bB n aO,.slice (some ⟨g1,0,none⟩) (n+1) aW,.slice (some ⟨g2,0,none⟩) (n+2) aC,.slice (some ⟨g3,0,none⟩) (n+3) b8] 43)):=by
      have:=(RowAt.litn (e:=43) (size:=1) (enc:=fun p:Value×Int=>[p.1]) (fun _=>rfl) w3 L4 #[.slice bB n aO,.slice (some ⟨g1,0,none⟩) (n+1) aW,.slice (some ⟨g2,0,none⟩) (n+2) aC,.slice (some ⟨g3,0,none⟩) (n+3) b8] (by rw[hL4];rfl) (by rw[bu];decide)).weak (AG _);rw[bu] at this;exact this
     have fS:∀y∈L4,∀c∈[y.1],c.oneCell'=true:=by
      intro y hy c hc;rw[hL4] at hy;simp only[AX] at hc;subst hc;simp only[CQ,FX,JU] at hy;rcases hy with rfl|rfl|rfl|rfl<;>rfl
     have qU:=Aa nY;have hb1:fs.length+L4.length<=maxLen:=by rw[bu];unfold maxLen;omega
     have hb2:(fs.length+L4.length)*24<=140737488355328:=by rw[bu];omega
     have hb3:0<L4.length:=by rw[bu];decide
     have fD:=Ac hb1;have fQ:=Ac hb2;have ku:=Ac hb3;have eP:=Ac fS;have NL:=Ac nB;have js:=gV.gr dG;have qP:=hW3.gr dG (by simp);have qD:(w3.alloc (.cells #[.slice bB n aO,.slice (some ⟨g1,0,none⟩) (n+1) aW,.slice (some ⟨g2,0,none⟩) (n+2) aC,.slice (some ⟨g3,0,none⟩) (n+3) b8] 43)).cell? ⟨W,3,none⟩=some (.slice j0 fs.length cy):=qP.cell 3;have qF:w3.cell? ⟨W,3,none⟩=some (.slice j0 fs.length cy):=hW3.cell 3;have rR:=Ac hL4;have iC:=Ac bu;clear hb1 hb2 hb3 fS nB hL4 bu qU;have sk:(Value.slice j0 fs.length cy).ownBlock≠some W:=fun e=>by have:=(Aa iD).2 W e;omega
     have uV:=Ac sk;clear sk
     go_wp2_with (at_builtin;refine Cb rfl _ _ 70 rfl Tryz.underlying70 Tryz.infoSMatch rfl (by decide) rfl js rfl (Aa NL) (Aa ku) (Aa eP) (Aa fD) (Aa fQ) ?_)
     intro u5 w5 mz aP;obtain⟨g5,aI,rfl⟩:=aP.form;rw[Aa iC] at mz aP;have fX:WBlk W #[nv,jA,ov,.slice j0 fs.length cy,jB,ko,kx,lv] w5:=aP.block qP (Aa uV);have wq:w5.cell? ⟨W,3,none⟩=some (.slice j0 fs.length cy):=fX.cell 3;have z51:=fX.fz 3;have gu:∀g,(Value.slice j0 fs.length cy).ownBlock=some g->g<wo.heap.size/\T1 g=5:=fun g hg=>⟨((Aa iD).1.own g hg).2,(Aa iD).2 g hg⟩
     have eN:∀g,kx.ownBlock=some g->g<wo.heap.size/\T1 g=8:=fun g hg=>⟨((Aa jW).1.own g hg).2,(Aa jW).2 g hg⟩
     have aZ:=Aj w5 W 3 (.slice (some ⟨g5,0,none⟩) (fs.length+4) aI);have iU:W<wo.heap.size:=Ad (Aa HW)
     have bA:∀(v':Value) (k:Nat),(v'=.slice bB n aO\/v'=.slice (some ⟨g1,0,none⟩) (n+1) aW\/v'=.slice (some ⟨g2,0,none⟩) (n+2) aC\/v'=.slice (some ⟨g3,0,none⟩) (n+3) b8)->RowAt 52 2 ftenc 0 v' (List.replicate k (⟨m,.slice none 0 0,[]⟩:VFt)) w3->RowAt 52 2 ftenc 0 v' (List.replicate k (⟨m,.slice none 0 0,[]⟩:VFt)) (w5.setCell ⟨W,3,none⟩ (.slice (some ⟨g5,0,none⟩) (fs.length+4) aI)):=by
      intro v' k hv' h
      have h1:=aP.keepRow (h.gr dG) (fun g hg e=>by
       have h2:=gu g e;rcases Aa HO v' hv' g hg with h3|h3<;>omega)
      refine h1.other aZ (fun g hg e=>?_);simp only[AE] at e;subst e;rcases Aa HO v' hv' W hg with h3|h3<;>omega
     have hw0:=bA _ _ (.inl rfl) dY;have hw1:=bA _ _ (.inr (.inl rfl)) gU;have hw2:=bA _ _ (.inr (.inr (.inl rfl))) gT;have hw3:=bA _ _ (.inr (.inr (.inr rfl))) bN
     have pV:RowAt 3 1 C1 0 kx (fs.map Prod.snd) (w5.setCell ⟨W,3,none⟩ (.slice (some ⟨g5,0,none⟩) (fs.length+4) aI)):=by
      have h1:=aP.keepRow (kJ.gr dG) (fun g hg e=>by have h2:=gu g e;have h3:=eN g hg;omega);refine h1.other aZ (fun g hg e=>?_);simp only[AE] at e;subst e;have h3:=eN W hg;omega
     have pA:RowAt 43 1 (fun p:Value×Int=>[p.1]) 0 (.slice (some ⟨g5,0,none⟩) (fs.length+4) aI) (fs++L4) (w5.setCell ⟨W,3,none⟩ (.slice (some ⟨g5,0,none⟩) (fs.length+4) aI)):=by
      refine mz.other aZ (fun g hg e=>?_);simp only[AE] at e;subst e;rcases aP.own W hg with h2|h2
      ·exact Aa uV h2
      ·have h4:=dG.size
       omega
     have nP:WBlk W #[nv,jA,ov,.slice (some ⟨g5,0,none⟩) (fs.length+4) aI,jB,ko,kx,lv] (w5.setCell ⟨W,3,none⟩ (.slice (some ⟨g5,0,none⟩) (fs.length+4) aI)):=fX.set 3 _
     have bG:g5<w3.heap.size+1->T1 g5=5/\g5<wo.heap.size:=by
      intro hlt;rcases aP.own g5 rfl with h2|h2
      ·exact⟨(gu g5 h2).2,(gu g5 h2).1⟩
      ·simp at h2;omega
     have dh:GrS (fun k=>T1 k=1\/T1 k=5\/T1 k=8\/T1 k=13) wo (w5.setCell ⟨W,3,none⟩ (.slice (some ⟨g5,0,none⟩) (fs.length+4) aI)):=by
      have h1:GrS (fun k=>T1 k=1\/T1 k=5\/T1 k=8\/T1 k=13) wo w3:=iw.mono (fun k hk=>.inr (.inr (.inr hk)));have h2:=(h1.then dG (by simp)).trans (aP.gr (fun g hg=>.inr (.inl (gu g hg).2)));exact h2.then aZ (fun g hg=>by simp only[AE] at hg;subst hg;exact .inr (.inl gq))
     obtain⟨w6,iG⟩:∃w6,w5.setCell ⟨W,3,none⟩ (.slice (some ⟨g5,0,none⟩) (fs.length+4) aI)=w6:=⟨_,rfl⟩
     have yl:w5.heap.size=w6.heap.size:=by rw[<-iG];simp[World.setCell]
     have ym:w3.heap.size+1<=w5.heap.size:=by
      have h1:GrS (fun k=>T1 k=5) (w3.alloc (.cells #[.slice bB n aO,.slice (some ⟨g1,0,none⟩) (n+1) aW,.slice (some ⟨g2,0,none⟩) (n+2) aC,.slice (some ⟨g3,0,none⟩) (n+3) b8] 43)) w5:=aP.gr (fun g hg=>(gu g hg).2);have h2:=h1.size;simp at h2;omega
     have zI:g5<w5.heap.size:=(mz.own g5 rfl).2;have hlt3:∀(v':Value) (k:Nat),RowAt 52 2 ftenc 0 v' (List.replicate k (⟨m,.slice none 0 0,[]⟩:VFt)) w3->∀g,v'.ownBlock=some g->g<w3.heap.size:=fun v' k h g hg=>(h.own g hg).2
     have q0:=hlt3 _ _ dY;have q1:=hlt3 _ _ gU;have q2:=hlt3 _ _ gT;have q3:=hlt3 _ _ bN;rw[iG] at hw0 hw1 hw2 hw3 pV pA nP dh;have hk0:=Aa NY;subst hk0;have iq:=Ah (AA w6 (.cells #[.int .i64 m,.int .i64 m,.int .i64 m,.int .i64 m] 3) none);have pJ:IsAt 0 (.slice (some ⟨w6.heap.size,0,none⟩) 4 4) (List.replicate 4 m) (w6.alloc (.cells #[.int .i64 m,.int .i64 m,.int .i64 m,.int .i64 m] 3)).drew:=((RowAt.litn At w6 (List.replicate 4 m) #[.int .i64 m,.int .i64 m,.int .i64 m,.int .i64 m] rfl (by simp[maxLen])).weak (AG _)).heap rfl;have MZ:w6.cell? ⟨W,6,none⟩=some (.slice iB fs.length bz):=nP.cell 6;have MX:(w6.alloc (.cells #[.int .i64 m,.int .i64 m,.int .i64 m,.int .i64 m] 3)).cell? ⟨W,6,none⟩=some (.slice iB fs.length bz):=(AA w6 _ none).cell MZ (by simp);obtain⟨WX,nO⟩:∃WX,(w6.alloc (.cells #[.int .i64 m,.int .i64 m,.int .i64 m,.int .i64 m] 3)).drew=WX:=⟨_,rfl⟩
     have yi:WX.heap.size=w6.heap.size+1:=by rw[<-nO];simp[World.drew]
     rw[nO] at iq pJ;have tS:=pV.gr iq;have uN:(Value.slice iB fs.length bz).ownBlock≠some W:=fun e=>by have:=eN W e;omega
     have gy:∀g7 aw w7,RowAt 3 1 C1 0 (.slice (some ⟨g7,0,none⟩) (fs.length+4) aw) (fs.map Prod.snd++List.replicate 4 m) w7->Longer (.slice iB fs.length bz) (.slice (some ⟨g7,0,none⟩) (fs.length+4) aw) fs.length 4 WX w7->
       w7.cell? ⟨W,6,none⟩=some (.slice iB fs.length bz)/\w7.frozen? ⟨W,6,none⟩=false/\Je T W nv ov ko lv us fs n w (.returned (.tuple #[])) (w7.setCell ⟨W,6,none⟩ (.slice (some ⟨g7,0,none⟩) (fs.length+4) aw)):=by
      intro g7 aw w7 iH bV;have qQ:WBlk W #[nv,jA,ov,.slice (some ⟨g5,0,none⟩) (fs.length+4) aI,jB,ko,.slice iB fs.length bz,lv] w7:=bV.block (nP.gr iq (by simp)) uN;have gZ:=Aj w7 W 6 (.slice (some ⟨g7,0,none⟩) (fs.length+4) aw);have ix:=((dh.then iq (by simp)).trans (bV.gr (fun g hg=>.inr (.inr (.inl (eN g hg).2))))).then gZ (fun g hg=>by simp only[AE] at hg;subst hg;exact .inr (.inl gq))
      have dS:g7<w6.heap.size+1->T1 g7=8/\g7<wo.heap.size:=by
       intro hlt;rcases bV.own g7 rfl with h2|h2
       ·exact⟨(eN g7 h2).2,(eN g7 h2).1⟩
       ·omega
      have bo:∀ {α:Type} {e:TypeId} {size:Nat} {enc:α->List Value} (x:Value) (y:List α),RowAt e size enc 0 x y w6->(∀g,x.ownBlock=some g->(g<wo.heap.size/\T1 g≠8/\T1 g≠1)\/wo.heap.size<=g)->RowAt e size enc 0 x y (w7.setCell ⟨W,6,none⟩ (.slice (some ⟨g7,0,none⟩) (fs.length+4) aw)):=by
       intro α e size enc x y h hx
       have h1:=bV.keepRow (h.gr iq) (fun g hg e=>by
        have h2:=eN g e;rcases hx g hg with h3|h3<;>omega)
       refine h1.other gZ (fun g hg e=>?_);simp only[AE] at e;subst e;rcases hx W hg with h3|h3<;>omega
      have sL:L4.map Prod.snd=List.replicate 4 m:=by rw[Aa rR];rfl
      obtain⟨T',bR⟩:∃T':Nat->Nat,∀k,T' k=if k<wo.heap.size then (if T1 k=13 then 10 else T1 k) else if k=g5 then 5 else if k=g7 then 8 else 10:=⟨_,fun _=>rfl⟩
      have cq:∀k,k<wo.heap.size->T1 k≠13->T' k=T1 k:=fun k h1 h2=>by rw[bR,AQ h1,AO h2]
      have VJ:NumsAt T' jA jB lI (w7.setCell ⟨W,6,none⟩ (.slice (some ⟨g7,0,none⟩) (fs.length+4) aw)):=by
       obtain⟨a1,a2,a3⟩:=Aa eb;refine⟨a1.keep2 ix (fun k hk=>by omega) (fun k hk hk2=>by rw[cq k hk (by omega)];exact hk2),a2.keep2 ix (fun k hk=>by omega) (fun k hk hk2=>by rw[cq k hk (by omega)];exact hk2),fun p hp=>?_⟩;obtain⟨j,hj⟩:=a3 p hp;exact⟨j,hj.keep2 ix (fun k hk=>by omega) (fun k hk hk2=>by rw[cq k hk (by omega)];exact hk2)⟩
      have mg:GrS (fun k=>T k=1\/T k=3\/T k=6\/T k=5\/T k=8\/InH (T k)) w (w7.setCell ⟨W,6,none⟩ (.slice (some ⟨g7,0,none⟩) (fs.length+4) aw)):=by
       refine((Aa ee).mono (fun k hk=>?_)).comp ix (fun k hk hn=>?_)
       ·rcases hk with h|h|h|⟨j,_,h⟩
        ·exact .inl h
        ·exact .inr (.inl h)
        ·exact .inr (.inr (.inl h))
        ·exact .inr (.inr (.inr (.inr (.inr ⟨by omega,by omega⟩))))
       ·have hI:¬ InH (T k):=fun h=>hn (.inr (.inr (.inr (.inr (.inr h)))))
        have h1:=Aa kg k hk (fun j hj e=>hI ⟨by omega,by omega⟩);rw[h1];rintro(h|h|h|h)
        ·exact hn (.inl h)
        ·exact hn (.inr (.inr (.inr (.inl h))))
        ·exact hn (.inr (.inr (.inr (.inr (.inl h)))))
        ·exact hI ⟨by omega,by omega⟩
      have xl:∀k,k<w.heap.size->¬ InH (T k)->T' k=T k:=by
       intro k hk hI;have h1:=Aa kg k hk (fun j hj e=>hI ⟨by omega,by omega⟩);rw[cq k (AZ hk (Aa ee).size) (by rw[h1];intro e;exact hI ⟨by omega,by omega⟩),h1]
      refine⟨qQ.cell 6,qQ.fz 6,rfl,T',jA,jB,lI,.slice (some ⟨g5,0,none⟩) (fs.length+4) aI,.slice (some ⟨g7,0,none⟩) (fs.length+4) aw,fs++L4,qQ.set 6 _,VJ,⟨⟨?_,?_⟩,⟨?_,?_⟩,?_⟩,Aa sR,by rw[AK,Aa iC],mg,xl⟩
      ·refine bo _ _ pA (fun g hg=>?_)
       simp only[Value.ownBlock,AE] at hg;subst hg;by_cases hlt:g5<wo.heap.size
       ·have:=bG (by omega)
        exact .inl ⟨hlt,by omega,by omega⟩
       ·exact .inr (by omega)
      ·intro g hg
       simp only[Value.ownBlock,AE] at hg;subst hg;by_cases hlt:g5<wo.heap.size
       ·have:=bG (by omega)
        rw[cq g5 hlt (by omega)];exact this.1
       ·rw[bR,AO hlt,AQ rfl]
      ·rw[CG,sL]
       refine iH.other gZ (fun g hg e=>?_);simp only[Value.ownBlock,AE] at hg e;subst hg;subst e;have:=dS (by omega);omega
      ·intro g hg
       simp only[Value.ownBlock,AE] at hg;subst hg;by_cases hlt:g7<wo.heap.size
       ·have:=dS (by omega)
        rw[cq g7 hlt (by omega)];exact this.1
       ·have hne:g7≠g5:=by
         intro e;have:=dS (by omega);omega
        rw[bR,AO hlt,AO hne,AQ rfl]
      ·have hnew:∀(v':Value) (k:Nat),(v'=.slice bB n aO\/v'=.slice (some ⟨g1,0,none⟩) (n+1) aW\/v'=.slice (some ⟨g2,0,none⟩) (n+2) aC\/v'=.slice (some ⟨g3,0,none⟩) (n+3) b8)->RowAt 52 2 ftenc 0 v' (List.replicate k (⟨m,.slice none 0 0,[]⟩:VFt)) w6->(∀g,v'.ownBlock=some g->g<w3.heap.size)->∃j,TRow T' 10 52 2 ftenc v' (List.replicate j (⟨m,.slice none 0 0,[]⟩:VFt)) (w7.setCell ⟨W,6,none⟩ (.slice (some ⟨g7,0,none⟩) (fs.length+4) aw)):=by
        intro v' k hv' h hlt;refine⟨k,bo v' _ h (fun g hg=>?_),fun g hg=>?_⟩
        ·rcases Aa HO v' hv' g hg with h3|h3
         ·exact .inl ⟨h3.1,by omega,by omega⟩
         ·exact .inr h3
        ·rcases Aa HO v' hv' g hg with h3|h3
         ·rw[bR,AQ h3.1,AQ h3.2]
         ·have hl:=hlt g hg
          have zA:g≠g5:=by
           intro e;have:=bG (by omega);omega
          have kB:g≠g7:=by
           intro e;have:=dS (by omega);omega
          rw[bR,AO (by omega),AO zA,AO kB]
       intro p hp;rcases AY.1 hp with hp|hp
       ·obtain⟨j,hj⟩:=Aa xK p hp
        exact⟨j,hj.keep2 ix (fun k hk=>by omega) (fun k hk hk2=>by rw[cq k hk (by omega)];exact hk2)⟩
       ·rw[Aa rR] at hp
        simp only[CQ,FX,JU] at hp;rcases hp with rfl|rfl|rfl|rfl
        ·exact hnew _ _ (.inl rfl) hw0 q0
        ·exact hnew _ _ (.inr (.inl rfl)) hw1 q1
        ·exact hnew _ _ (.inr (.inr (.inl rfl))) hw2 q2
        ·exact hnew _ _ (.inr (.inr (.inr rfl))) hw3 q3
     have jV:=Ac gy;have NX:=Ac tS;have NJ:=Ac pJ;have NC:=Ac nO;have ND:=Ac iG;have qU:=Aa nY;have hb1:(fs.map Prod.snd).length+(List.replicate 4 m).length<=maxLen:=by rw[BA,BN];unfold maxLen;omega
     have hb2:((fs.map Prod.snd).length+(List.replicate 4 m).length)*8<=140737488355328:=by rw[BA,BN];omega
     have rD:=Ac hb1;have rC:=Ac hb2;clear gy tS pJ nO hb1 hb2 qU pV pA nP dh hw0 hw1 hw2 hw3 bA hlt3 q0 q1 q2 q3 dY gU gT bN bG gu eN mz aP gV js kJ dG hW3 qP fX qD qF iw aZ iq uN iG;go_wp2_with fail;rw[Aa iC,Aa ND]
     go_region_law (rw[Aa NC];refine Ey rfl _ _ 35 rfl Tryz.underlying35 Tryz.infoInt rfl (by decide) (by simp[Act.eval]) (Aa NX) (by simp[Act.eval]) (Aa NJ) (by simp) (fun y _=>B7 y) (Aa rD) (Aa rC) ?_;intro kv w7 iH bV;rw[BA,BN] at bV;obtain⟨g7,aw,rfl⟩:=bV.form;obtain⟨f1,f2,f3⟩:=Aa jV g7 aw w7 iH bV;have F3:=Ac f3;clear f3 iH bV)
     all_goals
      go_wp2_with fail;go_end0
      have F4:=Aa F3;rw[<-Aa y9] at F4;exact F4
def LentAt(T:Nat->Nat)(lv:Value)(ls:List Value)(w:World):Prop:=
 TRow T 9 35 1 (fun v:Value=>[v]) lv ls w/\∀v∈ls,∃n,TRow T 10 3 1 C1 v (List.replicate n (-99)) w
theorem Gt(T:Nat->Nat)(W:Nat)(nv uv fv mv k0 k1 k2 lv:Value)(us fs ms:List (Value×Int))(ls:List Value)(w:World)
 (hW:WBlk W #[nv,uv,fv,mv,k0,k1,k2,lv] w)(hN:NumsAt T uv k0 us w)(hL:LentAt T lv ls w)(hF:ElsAt 4 7 47 37 T fv k1 fs w)(hM:ElsAt 5 8 43 52 T mv k2 ms w) :
  Calls Tryz.prog 34 #[.pointer (some ⟨W,0,none⟩)] w fun e w'=>e=.returned (.bool true)/\w.grownBy w' none:=by
 obtain⟨aU,cU,rfl⟩:=hN.1.1.slice;obtain⟨aK0,cK0,hk0⟩:=hN.2.1.1.slice;obtain⟨aL,cL,rfl⟩:=hL.1.1.slice;obtain⟨aF,cF,rfl⟩:=hF.1.1.slice;obtain⟨aK1,cK1,l7⟩:=hF.2.1.1.slice;obtain⟨aM,cM,rfl⟩:=hM.1.1.slice;obtain⟨aK2,cK2,hk2⟩:=hM.2.1.1.slice;rw[BA] at hk0 l7 hk2;subst hk0 l7 hk2;have lU:=hN.1.1.le;have lL:=hL.1.1.le;have lF:=hF.1.1.le;have lM:=hM.1.1.le;unfold maxLen at lU lL lF lM;have c1:w.cell? ⟨W,1,none⟩=some (.slice aU us.length cU):=hW.cell 1;have c2:w.cell? ⟨W,2,none⟩=some (.slice aF fs.length cF):=hW.cell 2;have c3:w.cell? ⟨W,3,none⟩=some (.slice aM ms.length cM):=hW.cell 3;have c4:w.cell? ⟨W,4,none⟩=some (.slice aK0 us.length cK0):=hW.cell 4;have c5:w.cell? ⟨W,5,none⟩=some (.slice aK1 fs.length cK1):=hW.cell 5;have c6:w.cell? ⟨W,6,none⟩=some (.slice aK2 ms.length cK2):=hW.cell 6;have c7:w.cell? ⟨W,7,none⟩=some (.slice aL ls.length cL):=hW.cell 7;have HN:=Ac hN;have HL:=Ac hL;have HF:=Ac hF;have HM:=Ac hM;clear hN hL hF hM hW;go_enter Tryz.func34,Tryz.ntmps34;go_wp2;go_loopw [3] (fun x w'=>∃i:Nat,i<=us.length/\x=.int .i64 i/\w.grownBy w' none) (fun x _=>us.length-(intOf x).toNat)
 case atStart=>exact⟨0,AG _,rfl,AD _ _⟩
 case round=>
  obtain⟨i,hi,rfl,hg⟩:=hrel;have d1:=hg.cell c1 (by simp);have d4:=hg.cell c4 (by simp);by_cases hlt:i<us.length
  ·have cY:decide (i<us.length)=true:=by simpa using hlt
   obtain⟨p,hp⟩:∃p,us[i]?=some p:=⟨us[i],AB hlt⟩
   obtain⟨g,cp,hv,hcs⟩:=((Aa HN).1.1.gr hg).cells hp;simp only[AH,BP] at hv;obtain⟨rfl,rfl⟩:=hv;have sx:(us.map Prod.snd)[i]?=some p.2:=by rw[BR,hp];rfl
   obtain⟨gk,ck,si,hck⟩:=((Aa HN).2.1.1.gr hg).cells sx;simp only[AH] at si;obtain⟨rfl,hzz,rfl⟩:=si;clear hzz;have x0:wr.cell? ⟨g,i,none⟩=some p.1:=by have:=hcs 0 (by omega);simpa using this
   have y0:wr.cell? ⟨gk,i,none⟩=some (.int .i64 p.2):=by have:=hck 0 (by omega);simpa[C1] using this
   obtain⟨n,hn,_⟩:=(Aa HN).2.2 p (AV hp);have ln:=hn.le;rw[BN] at ln;unfold maxLen at ln;obtain⟨ap,WD,iO⟩:=hn.slice;rw[BN] at iO;rw[iO] at x0;have xD:=Ac hn;have xC:=Ac iO;clear hcs hck hp sx hn iO;obtain⟨wo,rfl⟩:∃wo:World,wo=wr:=⟨_,rfl⟩
   go_wp2;go_loopw [4] (fun z w'=>∃k:Nat,k<=n/\z=.int .i64 k/\wo.grownBy w' none) (fun z _=>n-(intOf z).toNat)
   case atStart=>exact⟨0,AG _,rfl,AD _ _⟩
   case round=>
    obtain⟨k,hk,rfl,hg2⟩:=hrel;have e1:=hg2.cell d1 (by simp);have e4:=hg2.cell d4 (by simp);have WB:=hg2.cell x0 (by simp);have ey0:=hg2.cell y0 (by simp);by_cases hlt2:k<n
    ·have jM:decide (k<n)=true:=by simpa using hlt2
     have ll:(List.replicate n p.2)[k]?=some p.2:=by rw[FI,AQ hlt2]
     obtain⟨gp,WE,hv3,hc3⟩:=((Aa xD).gr (Ab hg hg2)).cells ll;rw[Aa xC] at hv3;simp only[AH] at hv3;obtain⟨rfl,hzz,rfl⟩:=hv3;clear hzz;have WA:wr.cell? ⟨gp,k,none⟩=some (.int .i64 p.2):=by have:=hc3 0 (by omega);simpa[C1] using this
     have kN:(p.2 !=p.2)=false:=by simp
     clear hc3 ll;go_wp2;go_quiet (fail);go_wp2;go_roundw
     case rel=>exact⟨k+1,by omega,by go_num,Ab hg2 (Af _ _ _)⟩
     case measure=>simp[intOf];omega
    ·have jM:decide (k<n)=false:=by simpa using hlt2
     go_wp2;go_roundw
     case rel=>exact⟨i+1,by omega,by go_num,Ab hg hg2⟩
     case measure=>simp[intOf];omega
  ·have cY:decide (i<us.length)=false:=by simpa using hlt
   obtain⟨wa,rfl⟩:∃wa:World,wa=wr:=⟨_,rfl⟩
   go_wp2;go_loopw [5] (fun x w'=>∃i:Nat,i<=ls.length/\x=.int .i64 i/\w.grownBy w' none) (fun x _=>ls.length-(intOf x).toNat)
   case atStart=>exact⟨0,AG _,rfl,hg⟩
   case round=>
    clear d1 d4 hg hlt cY;obtain⟨i,hi,rfl,hg⟩:=hrel;have d7:=hg.cell c7 (by simp);by_cases hlt:i<ls.length
    ·have cY:decide (i<ls.length)=true:=by simpa using hlt
     obtain⟨p,hp⟩:∃p,ls[i]?=some p:=⟨ls[i],AB hlt⟩
     obtain⟨g,cp,hv,hcs⟩:=((Aa HL).1.1.gr hg).cells hp;simp only[AH,BP] at hv;obtain⟨rfl,rfl⟩:=hv;have x0:wr.cell? ⟨g,i,none⟩=some p:=by have:=hcs 0 (by omega);simpa using this
     obtain⟨n,hn,_⟩:=(Aa HL).2 p (AV hp);have ln:=hn.le;rw[BN] at ln;unfold maxLen at ln;obtain⟨ap,WD,iO⟩:=hn.slice;rw[BN] at iO;rw[iO] at x0;have xD:=Ac hn;have xC:=Ac iO;clear hcs hp hn iO;obtain⟨wo,rfl⟩:∃wo:World,wo=wr:=⟨_,rfl⟩
     go_wp2;go_loopw [6] (fun z w'=>∃k:Nat,k<=n/\z=.int .i64 k/\wo.grownBy w' none) (fun z _=>n-(intOf z).toNat)
     case atStart=>exact⟨0,AG _,rfl,AD _ _⟩
     case round=>
      obtain⟨k,hk,rfl,hg2⟩:=hrel;have e7:=hg2.cell d7 (by simp);have WB:=hg2.cell x0 (by simp);by_cases hlt2:k<n
      ·have jM:decide (k<n)=true:=by simpa using hlt2
       have ll:(List.replicate n (-99:Int))[k]?=some (-99):=by rw[FI,AQ hlt2]
       obtain⟨gp,WE,hv3,hc3⟩:=((Aa xD).gr (Ab hg hg2)).cells ll;rw[Aa xC] at hv3;simp only[AH] at hv3;obtain⟨rfl,hzz,rfl⟩:=hv3;clear hzz;have WA:wr.cell? ⟨gp,k,none⟩=some (.int .i64 (-99)):=by have:=hc3 0 (by omega);simpa[C1] using this
       clear hc3 ll;go_wp2;go_roundw
       case rel=>exact⟨k+1,by omega,by go_num,hg2⟩
       case measure=>simp[intOf];omega
      ·have jM:decide (k<n)=false:=by simpa using hlt2
       go_wp2;go_roundw
       case rel=>exact⟨i+1,by omega,by go_num,Ab hg hg2⟩
       case measure=>simp[intOf];omega
    ·have cY:decide (i<ls.length)=false:=by simpa using hlt
     obtain⟨wb,rfl⟩:∃wb:World,wb=wr:=⟨_,rfl⟩
     go_wp2;go_loopw [7] (fun x w'=>∃i:Nat,i<=fs.length/\x=.int .i64 i/\w.grownBy w' none) (fun x _=>fs.length-(intOf x).toNat)
     case atStart=>exact⟨0,AG _,rfl,hg⟩
     case round=>
      clear d7 hg hlt cY;obtain⟨i,hi,rfl,hg⟩:=hrel;have dA:=hg.cell c2 (by simp);have dB:=hg.cell c5 (by simp);by_cases hlt:i<fs.length
      ·have cY:decide (i<fs.length)=true:=by simpa using hlt
       obtain⟨p,hp⟩:∃p,fs[i]?=some p:=⟨fs[i],AB hlt⟩
       obtain⟨g,cp,hv,hcs⟩:=((Aa HF).1.1.gr hg).cells hp;simp only[AH,BP] at hv;obtain⟨rfl,rfl⟩:=hv;have sx:(fs.map Prod.snd)[i]?=some p.2:=by rw[BR,hp];rfl
       obtain⟨gk,ck,si,hck⟩:=((Aa HF).2.1.1.gr hg).cells sx;simp only[AH] at si;obtain⟨rfl,hzz,rfl⟩:=si;clear hzz;have x0:wr.cell? ⟨g,i,none⟩=some p.1:=by have:=hcs 0 (by omega);simpa using this
       have y0:wr.cell? ⟨gk,i,none⟩=some (.int .i64 p.2):=by have:=hck 0 (by omega);simpa[C1] using this
       obtain⟨n,hn,_⟩:=(Aa HF).2.2 p (AV hp);have ln:=hn.le;rw[BN] at ln;unfold maxLen at ln;obtain⟨ap,WD,iO⟩:=hn.slice;rw[BN] at iO;rw[iO] at x0;have xD:=Ac hn;have xC:=Ac iO;clear hcs hck hp sx hn iO;obtain⟨wo,rfl⟩:∃wo:World,wo=wr:=⟨_,rfl⟩
       go_wp2;go_loopw [8] (fun z w'=>∃k:Nat,k<=n/\z=.int .i64 k/\wo.grownBy w' none) (fun z _=>n-(intOf z).toNat)
       case atStart=>exact⟨0,AG _,rfl,AD _ _⟩
       case round=>
        obtain⟨k,hk,rfl,hg2⟩:=hrel;have eA:=hg2.cell dA (by simp);have eB:=hg2.cell dB (by simp);have WB:=hg2.cell x0 (by simp);have ey0:=hg2.cell y0 (by simp);by_cases hlt2:k<n
        ·have jM:decide (k<n)=true:=by simpa using hlt2
         have ll:(List.replicate n (⟨p.2,.slice none 0 0,[]⟩:VFt))[k]?=some ⟨p.2,.slice none 0 0,[]⟩:=by rw[FI,AQ hlt2]
         obtain⟨gp,WE,hv3,hc3⟩:=((Aa xD).gr (Ab hg hg2)).cells ll;rw[Aa xC] at hv3;simp only[AH] at hv3;obtain⟨rfl,hzz,rfl⟩:=hv3;clear hzz;have WA:wr.cell? ⟨gp,k*2,none⟩=some (.int .i64 p.2):=hc3 0 (by omega);have ez1:wr.cell? ⟨gp,k*2+1,none⟩=some (.slice none 0 0):=hc3 1 (by omega);have kN:(p.2 !=p.2)=false:=by simp
         clear hc3 ll;go_wp2;go_quiet (fail);go_wp2;go_roundw
         case rel=>exact⟨k+1,by omega,by go_num,Ab hg2 (Af _ _ _)⟩
         case measure=>simp[intOf];omega
        ·have jM:decide (k<n)=false:=by simpa using hlt2
         go_wp2;go_roundw
         case rel=>exact⟨i+1,by omega,by go_num,Ab hg hg2⟩
         case measure=>simp[intOf];omega
      ·have cY:decide (i<fs.length)=false:=by simpa using hlt
       obtain⟨XQ,rfl⟩:∃XQ:World,XQ=wr:=⟨_,rfl⟩
       go_wp2;go_loopw [9] (fun x w'=>∃i:Nat,i<=ms.length/\x=.int .i64 i/\w.grownBy w' none) (fun x _=>ms.length-(intOf x).toNat)
       case atStart=>exact⟨0,AG _,rfl,hg⟩
       case round=>
        clear dA dB hg hlt cY;obtain⟨i,hi,rfl,hg⟩:=hrel;have dA:=hg.cell c3 (by simp);have dB:=hg.cell c6 (by simp);by_cases hlt:i<ms.length
        ·have cY:decide (i<ms.length)=true:=by simpa using hlt
         obtain⟨p,hp⟩:∃p,ms[i]?=some p:=⟨ms[i],AB hlt⟩
         obtain⟨g,cp,hv,hcs⟩:=((Aa HM).1.1.gr hg).cells hp;simp only[AH,BP] at hv;obtain⟨rfl,rfl⟩:=hv;have sx:(ms.map Prod.snd)[i]?=some p.2:=by rw[BR,hp];rfl
         obtain⟨gk,ck,si,hck⟩:=((Aa HM).2.1.1.gr hg).cells sx;simp only[AH] at si;obtain⟨rfl,hzz,rfl⟩:=si;clear hzz;have x0:wr.cell? ⟨g,i,none⟩=some p.1:=by have:=hcs 0 (by omega);simpa using this
         have y0:wr.cell? ⟨gk,i,none⟩=some (.int .i64 p.2):=by have:=hck 0 (by omega);simpa[C1] using this
         obtain⟨n,hn,_⟩:=(Aa HM).2.2 p (AV hp);have ln:=hn.le;rw[BN] at ln;unfold maxLen at ln;obtain⟨ap,WD,iO⟩:=hn.slice;rw[BN] at iO;rw[iO] at x0;have xD:=Ac hn;have xC:=Ac iO;clear hcs hck hp sx hn iO;obtain⟨wo,rfl⟩:∃wo:World,wo=wr:=⟨_,rfl⟩
         go_wp2;go_loopw [10] (fun z w'=>∃k:Nat,k<=n/\z=.int .i64 k/\wo.grownBy w' none) (fun z _=>n-(intOf z).toNat)
         case atStart=>exact⟨0,AG _,rfl,AD _ _⟩
         case round=>
          obtain⟨k,hk,rfl,hg2⟩:=hrel;have eA:=hg2.cell dA (by simp);have eB:=hg2.cell dB (by simp);have WB:=hg2.cell x0 (by simp);have ey0:=hg2.cell y0 (by simp);by_cases hlt2:k<n
          ·have jM:decide (k<n)=true:=by simpa using hlt2
           have ll:(List.replicate n (⟨p.2,.slice none 0 0,[]⟩:VFt))[k]?=some ⟨p.2,.slice none 0 0,[]⟩:=by rw[FI,AQ hlt2]
           obtain⟨gp,WE,hv3,hc3⟩:=((Aa xD).gr (Ab hg hg2)).cells ll;rw[Aa xC] at hv3;simp only[AH] at hv3;obtain⟨rfl,hzz,rfl⟩:=hv3;clear hzz;have WA:wr.cell? ⟨gp,k*2,none⟩=some (.int .i64 p.2):=hc3 0 (by omega);have ez1:wr.cell? ⟨gp,k*2+1,none⟩=some (.slice none 0 0):=hc3 1 (by omega);have kN:(p.2 !=p.2)=false:=by simp
           clear hc3 ll;go_wp2;go_quiet (fail);go_wp2;go_roundw
           case rel=>exact⟨k+1,by omega,by go_num,Ab hg2 (Af _ _ _)⟩
           case measure=>simp[intOf];omega
          ·have jM:decide (k<n)=false:=by simpa using hlt2
           go_wp2;go_roundw
           case rel=>exact⟨i+1,by omega,by go_num,Ab hg hg2⟩
           case measure=>simp[intOf];omega
        ·have cY:decide (i<ms.length)=false:=by simpa using hlt
         go_wp2;go_ret;exact⟨rfl,hg⟩
theorem Xe{xs:List Value}(h:w.ownsRow base e size v n xs)(hs:∀k,base<=k->k<w.heap.size->w'.heap[k]?=w.heap[k]?):w'.ownsRow base e size v n xs:=by
 refine⟨h.1,?_⟩;rcases h.2 with h1|⟨g,cap,cur,h1,h2,h3,h4⟩
 ·exact .inl h1
 ·exact .inr ⟨g,cap,cur,h1,h2,by rw[hs g h2 (Ad h3)];exact h3,h4⟩
theorem VCsCells.fp{B:Nat}{w w':World}(hs:∀k,B<=k->k<w.heap.size->w'.heap[k]?=w.heap[k]?):∀(cs:List Sv.Cond) (xs:List Value),VCsCells B w cs xs->VCsCells B w' cs xs
 | [],_,h=>h
 | _::cs,_,⟨u,ys,h1,h2,h3⟩=>⟨u,ys,h1,Xe h2 hs,VCsCells.fp hs cs ys h3⟩
theorem VRsCells.fp{B:Nat}{w w':World}(hs:∀k,B<=k->k<w.heap.size->w'.heap[k]?=w.heap[k]?):∀(rs:List Sv.Rule) (xs:List Value),VRsCells B w rs xs->VRsCells B w' rs xs
 | [],_,h=>h
 | _::rs,_,⟨u,ys,h1,h2,h3⟩=>⟨u,ys,h1,by obtain⟨zs,g1,g2⟩:=h2;exact⟨zs,Xe g1 hs,VCsCells.fp hs _ zs g2⟩,VRsCells.fp hs rs ys h3⟩
theorem VRsAt.fp{B:Nat}{v:Value}{rs:List Sv.Rule}{w w':World}(h:VRsAt B v rs w)(hs:∀k,B<=k->k<w.heap.size->w'.heap[k]?=w.heap[k]?):VRsAt B v rs w':=by
 obtain⟨xs,h1,h2⟩:=h;exact⟨xs,Xe h1 hs,VRsCells.fp hs rs xs h2⟩
def RulesT(T:Nat->Nat)(rv:Value)(rs:List Sv.Rule)(w:World):Prop:=
 ∃w1 B,VRsAt B rv rs w1/\w1.heap.size<=w.heap.size/\∀k,B<=k->k<w1.heap.size->w.heap[k]?=w1.heap[k]?/\T k=0
theorem RulesT.at{rs:List Sv.Rule}(h:RulesT T rv rs w):VRsAt 0 rv rs w:=by
 obtain⟨w1,B,h1,_,h2⟩:=h;exact(h1.fp (fun k a b=>(h2 k a b).1)).weak (AG _)
theorem RulesT.keep{rs:List Sv.Rule}(h:RulesT T rv rs w)(hg:GrS S w w')(hs:∀k,T k=0->¬ S k)(ho:∀k,k<w.heap.size->T k=0->T' k=0):RulesT T' rv rs w':=by
 obtain⟨w1,B,h1,h3,h2⟩:=h;refine⟨w1,B,h1,AU h3 hg.size,fun k a b=>?_⟩;obtain⟨e1,e2⟩:=h2 k a b;exact⟨by rw[hg.block k (by omega) (hs k e2)];exact e1,ho k (by omega) e2⟩
def YT(T:Nat->Nat)(t y:Nat)(s:Sv.St)(w:World):Prop:=
 ∃rv lv fv L fd,w.heap[y]?=some (.cells #[rv,lv,.int .i64 s.cnt,fv] 172 (0,0))/\T y=t/\RulesT T rv s.rs w/\
  TRow T t 176 3 Hb lv L w/\(∀th∈L,TRow T t 3 1 C1 th.v th.vals w/\th.vals.length<=4)/\
  TRow T t 52 2 mtenc fv fd w/\(∀m∈fd,TRow T t 3 1 C1 m.v m.ids w)/\L.map VTh.of=s.L/\fd.map VMt.of=s.fired
theorem YT.keep{T T':Nat->Nat}{t y:Nat}{s:Sv.St}{w w':World}{S:Nat->Prop}(h:YT T t y s w)(hg:GrS S w w')(hs:∀k,T k=t\/T k=0->¬ S k)(ho:∀k,k<w.heap.size->T k=t\/T k=0->T' k=T k):YT T' t y s w':=by
 obtain⟨rv,lv,fv,L,fd,h1,h2,h3,h4,h5,h6,h7,h8,h9⟩:=h;have hs1:∀k,T k=t->¬ S k:=fun k hk=>hs k (.inl hk)
 have ho1:∀k,k<w.heap.size->T k=t->T' k=t:=fun k hk hk2=>by rw[ho k hk (.inl hk2)];exact hk2
 exact⟨rv,lv,fv,L,fd,hg.blk h1 (hs1 y h2),ho1 y (Ad h1) h2,h3.keep hg (fun k hk=>hs k (.inr hk)) (fun k hk hk2=>by rw[ho k hk (.inr hk2)];exact hk2),
  h4.keep2 hg hs1 ho1,fun th gC=>⟨(h5 th gC).1.keep2 hg hs1 ho1,(h5 th gC).2⟩,h6.keep2 hg hs1 ho1,fun m hm=>(h7 m hm).keep2 hg hs1 ho1,h8,h9⟩
theorem YT.yat{s:Sv.St}(h:YT T t y s w) :
  ∃rv lv fv L fd,YAt y rv lv (.int .i64 s.cnt) fv s.rs L w/\MsAt 0 fv fd w/\L.map VTh.of=s.L/\fd.map VMt.of=s.fired:=by
 obtain⟨rv,lv,fv,L,fd,h1,h2,h3,h4,h5,h6,h7,h8,h9⟩:=h;exact⟨rv,lv,fv,L,fd,⟨h1,h3.at,h4.1,fun th gC=>⟨(h5 th gC).1.1,(h5 th gC).2⟩⟩,⟨h6.1,fun m hm=>(h7 m hm).1⟩,h8,h9⟩
theorem TRow.nil{α:Type}(T:Nat->Nat)(t:Nat)(e:TypeId)(size:Nat){enc:α->List Value}(h:∀a,(enc a).length=size)(w:World):TRow T t e size enc (.slice none 0 0) ([]:List α) w:=⟨RowAt.nil _ _ h,by simp[Value.ownBlock]⟩
theorem Q4f(T:Nat->Nat)(t:Nat)(s:ByteArray)(w:World)(hm:s.size<=maxLen) :
  Calls Tryz.prog 52 #[.string s] w fun e w'=>w.grownBy w' none/\match Bg s.data.toList with
   | .inl k=>e=.returned (.tuple #[.pointer none,.int .i64 k])
   | .inr rs=>∃T' y,e=.returned (.tuple #[.pointer (some ⟨y,0,none⟩),.int .i64 0])/\YT T' t y ⟨rs,[],0,[]⟩ w'/\∀k,k<w.heap.size->T' k=T k:=by
 refine(Q39 s w hm).mono ?_;rintro e w'⟨hg,hp⟩;refine⟨hg,?_⟩;cases hr:Bg s.data.toList with
 | inl k=>rw[hr] at hp;exact hp
 | inr rs=>
  rw[hr] at hp;obtain⟨y,rv,rfl,hy,⟨w1,hv,h1,hg1⟩,hY⟩:=hp;obtain⟨T',bR⟩:∃T':Nat->Nat,∀k,T' k=if k<w.heap.size then T k else if k=y then t else 0:=⟨_,fun _=>rfl⟩
  refine⟨T',y,rfl,⟨rv,.slice none 0 0,.slice none 0 0,[],[],hY.blk,by rw[bR,AO (by omega),AQ rfl],?_,TRow.nil _ _ _ _ Gi _,by simp,TRow.nil _ _ _ _ C4 _,by simp,rfl,rfl⟩,fun k hk=>by rw[bR,AQ hk]⟩;exact⟨w1,w.heap.size,hv,hg1.size,fun k a b=>⟨hg1.block k b (by simp),by rw[bR,AO (by omega),AO (by omega)]⟩⟩
theorem Q4e(T:Nat->Nat)(t y:Nat)(s:Sv.St)(f:Sv.Fact)(fa:Option Addr)(fc:Nat)(w:World)(ht:t≠0)(hy:YT T t y s w)(aK:Sv.StOk s)(hc1:s.cnt<=4611686018427387904)(hf:InAt (.slice fa f.vals.length fc) f.vals w)(PO:f.vals≠[]->∀g,(Value.slice fa f.vals.length fc).ownBlock=some g->T g≠t) :
  Calls Tryz.prog 80 #[.pointer (some ⟨y,0,none⟩),.agg #[.int .i64 f.kind,.slice fa f.vals.length fc]] w fun e w'=>e=.returned (.tuple #[.int .i64 (s.add f).1.1,.int .i64 (s.add f).1.2])/\GrS (fun k=>T k=t) w w'/\∃T',YT T' t y (s.add f).2 w'/\∀k,k<w.heap.size->T' k=T k:=by
 have yM:=hy;obtain⟨rv,lv,fv,L,fd,h1,h2,h3,h4,h5,h6,h7,h8,h9⟩:=hy;have jd:YAt y rv lv (.int .i64 s.cnt) fv s.rs L w:=⟨h1,h3.at,h4.1,fun th gC=>⟨(h5 th gC).1.1,(h5 th gC).2⟩⟩
 have ME:MsAt 0 fv fd w:=⟨h6.1,fun m hm=>(h7 m hm).1⟩
 have qd:L.length=s.L.length:=by rw[<-h8,BA]
 have br:fd.length=s.fired.length:=by rw[<-h9,BA]
 by_cases hn:Av f=false\/16<=L.length
 ·refine(Q2n y rv lv _ fv s.rs L f fa fc w jd (by have:=aK.facts;omega) hf hn).mono ?_
  rintro e w'⟨rfl,hg⟩
  have hadd:s.add f=((0,if Av f=false then 3 else 4),s):=by
   unfold Sv.St.add;by_cases hF:Av f=false
   ·rw[AQ hF,AQ hF]
   ·rw[AO hF,AO hF,AQ (by rcases hn with h|h;exact absurd h hF;omega)]
  rw[hadd];refine⟨?_,GrS.of hg (by simp),T,yM.keep (GrS.of (S:=fun _=>False) hg (by simp)) (by simp) (fun _ _ _=>rfl),fun _ _=>rfl⟩;by_cases hF:Av f=false
  ·simp[hF]
  ·simp[hF]
 ·have hF:¬ Av f=false:=fun h=>hn (.inl h)
  have hF2:Av f=true:=by simpa using hF
  have jR:L.length<16:=by
   have:¬ 16<=L.length:=fun h=>hn (.inr h)
   omega
  refine(Q0i y rv lv fv s.cnt aK.c0 hc1 s.rs L fd f fa fc w jd aK.rules jR ME (by have:=aK.fired;omega) hf (fun hne e=>PO hne y e h2) hF2).mono ?_;rintro e w'⟨rfl,hG,fF,af,th,iA,t1,t2,t3,hY,hM,hmap,cg,hlv,xR,fK⟩;have PC:th.of=(s.cnt+1,f):=by unfold VTh.of;rw[t1,t2,t3]
  have hadd:s.add f=((s.cnt+1,0),⟨s.rs,s.L++[(s.cnt+1,f)],s.cnt+1,Bp (Al s.rs (s.L++[(s.cnt+1,f)])) s.fired⟩):=by
   unfold Sv.St.add;rw[AO hF,AO (by omega)]
  rw[hadd]
  have qZ:∀k,(k=y\/lv.ownBlock=some k)->T k=t:=by
   rintro k (rfl|h)
   ·exact h2
   ·exact h4.2 k h
  have uP:GrS (fun k=>T k=t) w w':=hG.mono qZ;obtain⟨T',bR⟩:∃T':Nat->Nat,∀k,T' k=if k<w.heap.size then T k else t:=⟨_,fun _=>rfl⟩
  have cq:∀k,k<w.heap.size->T' k=T k:=fun k hk=>by rw[bR,AQ hk]
  have sD:∀k,w.heap.size<=k->T' k=t:=fun k hk=>by rw[bR,AO (by omega)]
  have rV:=Ad h1;have kF:(L++[th]).map VTh.of=s.L++[(s.cnt+1,f)]:=by rw[CG,h8,List.map_singleton,PC]
  refine⟨rfl,uP,T',⟨rv,fF,af,L++[th],iA,hY.blk,by rw[cq y rV];exact h2,h3.keep uP (fun k hk=>by omega) (fun k hk hk2=>by rw[cq k hk];exact hk2),⟨hY.facts,fun g hg=>?_⟩,fun x hx=>⟨⟨(hY.vals x hx).1,fun g hg=>?_⟩,(hY.vals x hx).2⟩,⟨hM.1,fun g hg=>sD g (fK g hg)⟩,fun m hm=>⟨hM.2 m hm,fun g hg=>?_⟩,kF,?_⟩,cq⟩
  ·rcases hlv g hg with h|h
   ·rw[cq g (h4.1.own g h).2];exact h4.2 g h
   ·exact sD g h
  ·rcases AY.1 hx with h|h
   ·rw[cq g ((h5 x h).1.1.own g hg).2];exact(h5 x h).1.2 g hg
   ·simp only[AX] at h
    subst h;exact sD g (xR g hg)
  ·have hmm:=cg m hm
   rw[cq g ((h7 m hmm).1.own g hg).2];exact(h7 m hmm).2 g hg
  ·rw[hmap,kF,h9]
structure XSpec(X:(Nat->Nat)->Nat->Nat->Sv.St->World->Prop):Prop where
 keep:∀ {T T':Nat->Nat} {t x:Nat} {s:Sv.St} {w w':World} {S:Nat->Prop},X T t x s w->GrS S w w'->(∀k,T k=t\/T k=0->¬ S k)->(∀k,k<w.heap.size->T k=t\/T k=0->T' k=T k)->X T' t x s w'
 add:∀(T:Nat->Nat) (t x:Nat) (s:Sv.St) (f:Sv.Fact) (fa:Option Addr) (fc:Nat) (w:World),t≠0->X T t x s w->Sv.StOk s->s.cnt<=4611686018427387904->IsAt 0 (.slice fa f.vals.length fc) f.vals w->(∀g,(Value.slice fa f.vals.length fc).ownBlock=some g->T g≠t)->
  Calls Tryz.prog 18 #[.pointer (some ⟨x,0,none⟩),.agg #[.int .i64 f.kind,.slice fa f.vals.length fc]] w fun e w'=>e=.returned (.tuple #[.int .i64 (s.add f).1.1,.int .i64 (s.add f).1.2])/\GrS (fun k=>T k=t) w w'/\∃T',X T' t x (s.add f).2 w'/\∀k,k<w.heap.size->T' k=T k
 facts:∀(T:Nat->Nat) (t x:Nat) (s:Sv.St) (w:World),t≠0->X T t x s w->Sv.StOk s->
  Calls Tryz.prog 24 #[.pointer (some ⟨x,0,none⟩)] w fun e w'=>∃T' a l xs,e=.returned (.tuple #[a,l])/\w.grownBy w' none/\Hand T' 37 l xs w'/\TRow T' (13+3*(xs.length+1)) 3 1 C1 a (s.L.map Prod.fst) w'/\xs.map (fun x=>(⟨x.kind,x.vals⟩:Sv.Fact))=s.L.map Prod.snd/\∀k,k<w.heap.size->T' k=T k
 mats:∀(T:Nat->Nat) (t x:Nat) (s:Sv.St) (w:World),t≠0->X T t x s w->Sv.StOk s->
  Calls Tryz.prog 21 #[.pointer (some ⟨x,0,none⟩)] w fun e w'=>∃T' l xs,e=.returned l/\w.grownBy w' none/\Hand T' 52 l xs w'/\xs.map (fun x=>(x.kind,x.vals))=Al s.rs s.L/\∀k,k<w.heap.size->T' k=T k
theorem Hand.keep{xs:List VFt}(h:Hand T e v xs w)(hg:GrS S w w')(hs:∀k,(T k=13\/∃i,i<xs.length/\T k=13+3*(i+1))->¬ S k)(ho:∀k,k<w.heap.size->(T k=13\/∃i,i<xs.length/\T k=13+3*(i+1))->T' k=T k):Hand T' e v xs w':=by
 refine⟨h.row.keep2 hg (fun k hk=>hs k (.inl hk)) (fun k hk hk2=>by rw[ho k hk (.inl hk2)];exact hk2),fun i x hx=>?_⟩;have hi:=(AL.1 hx).1;obtain⟨h1,h2⟩:=h.els i x hx;exact⟨h1.keep2 hg (fun k hk=>hs k (.inr ⟨i,hi,hk⟩)) (fun k hk hk2=>by rw[ho k hk (.inr ⟨i,hi,hk2⟩)];exact hk2),h2⟩
theorem NumsAt.keep(h:NumsAt T uv k0 us w)(hg:GrS S w w')(hs:∀k,(T k=3\/T k=6\/T k=10)->¬ S k)(ho:∀k,k<w.heap.size->(T k=3\/T k=6\/T k=10)->T' k=T k):NumsAt T' uv k0 us w':=by
 obtain⟨a1,a2,a3⟩:=h;refine⟨a1.keep2 hg (fun k hk=>hs k (.inl hk)) (fun k hk hk2=>by rw[ho k hk (.inl hk2)];exact hk2),a2.keep2 hg (fun k hk=>hs k (.inr (.inl hk))) (fun k hk hk2=>by rw[ho k hk (.inr (.inl hk2))];exact hk2),fun p hp=>?_⟩;obtain⟨n,hn⟩:=a3 p hp;exact⟨n,hn.keep2 hg (fun k hk=>hs k (.inr (.inr hk))) (fun k hk hk2=>by rw[ho k hk (.inr (.inr hk2))];exact hk2)⟩
theorem ElsAt.keep{A B:Nat}{se:TypeId}(h:ElsAt A B se e T uv k0 us w)(hg:GrS S w w')(hs:∀k,(T k=A\/T k=B\/T k=10)->¬ S k)(ho:∀k,k<w.heap.size->(T k=A\/T k=B\/T k=10)->T' k=T k):ElsAt A B se e T' uv k0 us w':=by
 obtain⟨a1,a2,a3⟩:=h;refine⟨a1.keep2 hg (fun k hk=>hs k (.inl hk)) (fun k hk hk2=>by rw[ho k hk (.inl hk2)];exact hk2),a2.keep2 hg (fun k hk=>hs k (.inr (.inl hk))) (fun k hk hk2=>by rw[ho k hk (.inr (.inl hk2))];exact hk2),fun p hp=>?_⟩;obtain⟨n,hn⟩:=a3 p hp;exact⟨n,hn.keep2 hg (fun k hk=>hs k (.inr (.inr hk))) (fun k hk hk2=>by rw[ho k hk (.inr (.inr hk2))];exact hk2)⟩
theorem LentAt.keep{ls:List Value}(h:LentAt T lv ls w)(hg:GrS S w w')(hs:∀k,(T k=9\/T k=10)->¬ S k)(ho:∀k,k<w.heap.size->(T k=9\/T k=10)->T' k=T k):LentAt T' lv ls w':=by
 obtain⟨a1,a3⟩:=h;refine⟨a1.keep2 hg (fun k hk=>hs k (.inl hk)) (fun k hk hk2=>by rw[ho k hk (.inl hk2)];exact hk2),fun p hp=>?_⟩;obtain⟨n,hn⟩:=a3 p hp;exact⟨n,hn.keep2 hg (fun k hk=>hs k (.inr hk)) (fun k hk hk2=>by rw[ho k hk (.inr hk2)];exact hk2)⟩
structure Lists(T:Nat->Nat)(W:Nat)(nv uv fv mv k0 k1 k2 lv:Value)(us fs ms:List (Value×Int))(ls:List Value)(w:World):Prop where
 blk:WBlk W #[nv,uv,fv,mv,k0,k1,k2,lv] w
 own:T W=1
 nums:NumsAt T uv k0 us w
 lent:LentAt T lv ls w
 facts:ElsAt 4 7 47 37 T fv k1 fs w
 mats:ElsAt 5 8 43 52 T mv k2 ms w
theorem Lists.gr{T T':Nat->Nat}{W:Nat}{nv uv fv mv k0 k1 k2 lv:Value}{us fs ms:List (Value×Int)}{ls:List Value}{w w':World}(h:Lists T W nv uv fv mv k0 k1 k2 lv us fs ms ls w)(hg:w.grownBy w' none)(ho:∀k,k<w.heap.size->T' k=T k):Lists T' W nv uv fv mv k0 k1 k2 lv us fs ms ls w':=by
 have hG:GrS (fun _=>False) w w':=GrS.of hg (by simp);exact⟨h.blk.gr hg (by simp),by rw[ho W (Ad h.blk)];exact h.own,h.nums.keep hG (by simp) (fun k hk _=>ho k hk),h.lent.keep hG (by simp) (fun k hk _=>ho k hk),h.facts.keep hG (by simp) (fun k hk _=>ho k hk),h.mats.keep hG (by simp) (fun k hk _=>ho k hk)⟩
theorem Q0t(h:¬ InH t)(j:Nat):t≠13+3*j:=fun e=>h ⟨by omega,by omega⟩
def Ki(T:Nat->Nat)(W:Nat)(nv mv k2 lv:Value)(us fs ms:List (Value×Int))(ls:List Value)(w:World)(e:Ending)(w':World):Prop:=
 e=.returned (.bool true)/\∃T' jX af jY yI ic ml,Lists T' W nv jX af mv jY yI k2 lv ic ml ms ls w'/\ic.length<=us.length+68/\ml.length=fs.length+4/\
  GrS (fun k=>T k=1\/T k=3\/T k=6\/T k=4\/T k=7\/InH (T k)) w w'/\∀k,k<w.heap.size->¬ InH (T k)->T' k=T k
theorem Q2l(X:(Nat->Nat)->Nat->Nat->Sv.St->World->Prop)(hX:XSpec X)(T:Nat->Nat)(W:Nat)(nv uv fv mv k0 k1 k2 lv:Value)(us fs ms:List (Value×Int))(ls:List Value)(w:World)
 (wV:Lists T W nv uv fv mv k0 k1 k2 lv us fs ms ls w)(tx ty x y:Nat)(s:Sv.St)(xQ:tx≠0)(hx:X T tx x s w)(hy:YT T ty y s w)(aK:Sv.StOk s)(RU:us.length+100<=4398046511104)(ZT:fs.length<=4398046511104) :
  Calls Tryz.prog 55 #[.pointer (some ⟨W,0,none⟩),.agg #[.pointer (some ⟨x,0,none⟩),.pointer (some ⟨y,0,none⟩)]] w fun e w'=>Ki T W nv mv k2 lv us fs ms ls w e w':=by
 have a7:=AA w (.cells #[.pointer (some ⟨x,0,none⟩),.pointer (some ⟨y,0,none⟩)] 106) none;have hP:C2 106 w.heap.size (.pointer (some ⟨x,0,none⟩)) (.pointer (some ⟨y,0,none⟩)) (w.alloc (.cells #[.pointer (some ⟨x,0,none⟩),.pointer (some ⟨y,0,none⟩)] 106)):=AR _ _;have hXF:=hX.facts T tx x s _ xQ (hX.keep hx (GrS.of (S:=fun _=>False) a7 (by simp)) (by simp) (fun _ _ _=>rfl)) aK;have NU:=Ac wV;have HY:=Ac hy;have fe:=Ac aK;have HUS:=Ac RU;have HFS:=Ac ZT;clear wV hx hy aK RU ZT;go_enter Tryz.func55,Tryz.ntmps55;go_wp2_with fail;refine hXF.mono ?_;rintro e w1⟨T1,a,l,xs,rfl,hg1,VN,ha1,hmap,fM⟩;obtain⟨aA,cA,rfl⟩:=ha1.1.slice;obtain⟨aL,cL,rfl⟩:=VN.row.1.slice;have bC:=Ab a7 hg1;have wT:=hP.kept hg1 (by simp);obtain⟨p0,p1⟩:=wT.c;have dX:∀k,k<w.heap.size->T1 k=T k:=fun k hk=>fM k (by simp;omega)
 have XD:=Ac VN;have OL:=Ac ha1;have sV:=Ac hmap;have kg:=Ac dX;clear hXF VN ha1 hmap fM dX a7 hP hg1;obtain⟨rv,fF,af,L,fd,jd,_,qb,_⟩:=((Aa HY).keep (T':=T) (GrS.of (S:=fun _=>False) bC (by simp)) (by simp) (fun _ _ _=>rfl)).yat;have qd:L.length=s.L.length:=by rw[<-qb,BA]
 have gO:xs.length=s.L.length:=by have:=BJ List.length (Aa sV);simpa using this
 have jR:s.L.length<=16:=(Aa fe).facts;have hVF:=Q0j y rv fF _ af s.rs L w1 jd (by omega);have gS:=jd.vals;have NF:=Ac gS;have HLM:=Ac qb;clear jd gS qb;go_wp2_with fail;refine hVF.mono ?_;rintro e w2⟨b,kk,rfl,hb,TG,hg2⟩;obtain⟨aB,cB,rfl⟩:=hb.slice;obtain⟨aQ,cQ,rfl⟩:=TG.slice;have bq:s.L.map Prod.fst=L.map VTh.id:=by rw[<-Aa HLM,EF];rfl
 have OZ:=Qp (s.L.map Prod.fst) (L.map VTh.id) _ _ w2 ((Aa OL).1.gr hg2) (hb.weak (AG _));have hdec:decide (s.L.map Prod.fst=L.map VTh.id)=true:=by simpa using bq
 rw[hdec] at OZ;have bM:=Ab bC hg2;have HKK:=Ac TG;clear hVF hdec bq hb TG wT p0 p1;rw[BA,BA,qd] at OZ;have e1:(L.map VTh.ft).length=s.L.length:=by rw[BA];exact qd
 have e2:(L.map VTh.id).length=s.L.length:=by rw[BA];exact qd
 rw[e1,e2];clear e1 e2;have hN:s.L.length<=16:=jR;go_wp2_with fail;refine OZ.mono ?_;rintro e w3⟨rfl,hg3⟩;have au:=Ab bM hg3;have zl:=Ab hg2 hg3;have xh:((s.L.length:Int)==(s.L.length:Int))=true:=by simp
 have xt:=Ac gO;have yB:=Ac qd;clear OZ hg2 gO qd;go_wp2;go_loopw [9,10] (fun o z w'=>∃i:Nat,i<=s.L.length/\o=.bool true/\z=.int .i64 i/\w3.grownBy w' none) (fun _ z _=>s.L.length-(intOf z).toNat)
 case atStart=>exact⟨0,AG _,rfl,rfl,AD _ _⟩
 case round=>
  obtain⟨i,hi,rfl,rfl,hg⟩:=hrel;by_cases hlt:i<s.L.length
  ·have cY:decide (i<s.L.length)=true:=by simpa using hlt
   have gO:=Aa xt;have qd:=Aa yB;obtain⟨q,hq⟩:∃q,xs[i]?=some q:=⟨xs[i]'(by omega),AB (by omega)⟩
   obtain⟨th,gC⟩:∃th,L[i]?=some th:=⟨L[i]'(by omega),AB (by omega)⟩
   have SJ:(⟨q.kind,q.vals⟩:Sv.Fact)=⟨th.kind,th.vals⟩:=by
    have h1:=BJ (fun z=>z[i]?) (Aa sV);simp only[BR,hq,DZ,<-Aa HLM,gC] at h1;simpa[VTh.of] using h1
   have ZA:q.kind=th.kind:=BJ Sv.Fact.kind SJ;have YY:q.vals=th.vals:=BJ Sv.Fact.vals SJ;have vZ:=Ab zl hg;obtain⟨g,cp,hv,hcs⟩:=((Aa XD).row.1.gr vZ).cells hq;simp only[AH,BP] at hv;obtain⟨rfl,rfl⟩:=hv;have iJ:(L.map VTh.ft)[i]?=some th.ft:=by rw[BR,gC];rfl
   obtain⟨g2,QM,hv2,dQ⟩:=((Aa HKK).gr (Ab hg3 hg)).cells iJ;simp only[AH,BP] at hv2;obtain⟨rfl,rfl⟩:=hv2;have q0:wr.cell? ⟨g,i*2,none⟩=some (.int .i64 q.kind):=hcs 0 (by omega);have q1:wr.cell? ⟨g,i*2+1,none⟩=some q.v:=hcs 1 (by omega);have t0:wr.cell? ⟨g2,i*2,none⟩=some (.int .i64 th.kind):=dQ 0 (by omega);have t1:wr.cell? ⟨g2,i*2+1,none⟩=some th.v:=dQ 1 (by omega);have SK:=((Aa XD).els i q hq).1.1;have xS:=(Aa NF th (AV gC)).1;have hS:=fun(Z:World) (hZ:wr.grownBy Z none)=>Qp q.vals th.vals q.v th.v Z (SK.gr (Ab vZ hZ)) (xS.gr (Ab vZ hZ))
   have od:decide (q.vals=th.vals)=true:=by simpa using YY
   rw[od] at hS;obtain⟨qa,qc,vL⟩:=SK.slice;obtain⟨ta,tc,uy⟩:=xS.slice;rw[vL] at q1;rw[uy] at t1;rw[vL,uy] at hS;rw[ZA] at q0;have jM:(th.kind==th.kind)=true:=by simp
   clear hcs dQ hq gC SJ ZA YY iJ SK xS od vL uy gO qd;go_wp2_with fail
   go_cut [11] (fun z wx=>z=.bool true/\wr.grownBy wx none)
   case first=>
    go_region_with (go_at_call 82;refine(hS _ (by repeat (first|exact AD _ _|apply Ah))).mono ?_;rintro e w4⟨rfl,hg4⟩)
    all_goals
     go_wp2_with fail;go_meet
     exact⟨rfl,Ab (Ah (AD _ _)) hg4⟩
   case rest=>
    obtain⟨rfl,hg4⟩:=hcut;have bI:=Ab hg hg4;have q02:=hg4.cell q0 (by simp);have RG:=hg4.cell t0 (by simp);clear hS hg4 q0 q1 t0 t1;go_wp2;go_quiet (fail);go_wp2;go_roundw
    case rel=>exact⟨i+1,by omega,rfl,by go_num,Ab bI (Af _ _ _)⟩
    case measure=>simp[intOf];omega
  ·have cY:decide (i<s.L.length)=false:=by simpa using hlt
   have hg0:=Ab au hg;have hl0:=(Aa NU).gr (T':=T) hg0 (fun _ _=>rfl);have nS:=Gt T W nv uv fv mv k0 k1 k2 lv us fs ms ls wr hl0.blk hl0.nums hl0.lent hl0.facts hl0.mats;clear hlt hi;go_wp2_with fail;refine nS.mono ?_;rintro e w5⟨rfl,aY⟩;have bQ:=Ab hg0 aY;have aP:=(Aa NU).gr (T':=T1) bQ (Aa kg);have TV:=Ab (Ab zl hg) aY;have VO:GrS (fun _=>False) w1 w5:=GrS.of TV (by simp);have ha5:=(Aa OL).keep2 (T':=T1) VO (by simp) (fun _ _ h=>h);have xo:=(Aa XD).keep (T':=T1) VO (by simp) (fun _ _ _=>rfl);have PW:=Aa xt;have hO:=Sb T1 (13+3*(xs.length+1)) W nv uv fv mv k0 k1 k2 lv us _ _ w5 aP.blk aP.own aP.nums ha5 (by omega) (by have:=Aa HUS;omega) (by rw[BA];omega);rw[BA] at hO;have NV:=Ac aP;have QZ:=Ac xo;clear PW nS hl0 aP xo ha5 VO;go_wp2_with fail;refine hO.mono ?_;rintro e w6⟨rfl,T3,uv3,k03,XU,hW3,eX,OY,jS,gJ⟩;have aP:=Aa NV;have iU:W<w5.heap.size:=Ad aP.blk;have mW:T3 W=1:=by rw[gJ W iU (by rw[aP.own];omega)];exact aP.own
   have hE6:ElsAt 4 7 47 37 T3 fv k1 fs w6:=aP.facts.keep jS (fun k hk=>by omega) (fun k hk hk2=>gJ k hk (by omega));have hH6:Hand T3 37 (.slice aL xs.length cL) xs w6:=(Aa QZ).keep jS (fun k hk=>by rcases hk with h|⟨j,hj,h⟩<;>omega) (fun k hk hk2=>gJ k hk (by rcases hk2 with h|⟨j,hj,h⟩<;>omega));have PW:=Aa xt;have VH:=Q3s T3 W nv uv3 fv mv k03 k1 k2 lv XU fs _ xs w6 hW3 mW eX hE6 hH6 (by have:=Aa HUS;omega) (Aa HFS) (by omega);rw[PW] at VH;have HK:=Ac (show XU.length=us.length+4/\GrS (fun k=>T1 k=1\/T1 k=3\/T1 k=6\/T1 k=13+3*(xs.length+1)) w5 w6/\(∀k,k<w5.heap.size->T1 k≠13+3*(xs.length+1)->T3 k=T1 k)/\T3 W=1 from⟨OY,jS,gJ,mW⟩);clear hO PW hE6 hH6 hW3 eX OY jS gJ mW aP;go_wp2_with fail;refine VH.mono ?_;rintro e w7⟨rfl,T4,uv4,k04,us4,fv4,k14,fs4,xj,bK,hE4,nh,PQ,fw,qV⟩;obtain⟨OY,jS,gJ,mW⟩:=Aa HK;have aP:=Aa NV;have yZ:=jS.size;have PD:∀t:Nat,t<13->¬ InH t:=fun t h hI=>by have:=hI.1;omega
   have LW:T4 W=1:=by
    rw[qV W (by have:=Ad aP.blk;omega) (by rw[mW];exact PD 1 (by omega))];exact mW
   have tI:LentAt T4 lv ls w7:=by
    refine(aP.lent.keep jS (fun k hk=>by omega) (fun k hk hk2=>gJ k hk (by omega))).keep fw (fun k hk h=>?_) (fun k hk hk2=>qV k hk (by rcases hk2 with h|h<;>(rw[h];exact PD _ (by omega))));rcases h with h|h|h|h|h|h
    ·omega
    ·omega
    ·omega
    ·omega
    ·omega
    ·have:=h.1;omega
   have tF:ElsAt 5 8 43 52 T4 mv k2 ms w7:=by
    refine(aP.mats.keep jS (fun k hk=>by omega) (fun k hk hk2=>gJ k hk (by omega))).keep fw (fun k hk h=>?_) (fun k hk hk2=>qV k hk (by rcases hk2 with h|h|h<;>(rw[h];exact PD _ (by omega))));rcases h with h|h|h|h|h|h
    ·omega
    ·omega
    ·omega
    ·omega
    ·omega
    ·have:=h.1;omega
   have xk:∀k,k<w.heap.size->¬ InH (T k)->T3 k=T k:=by
    intro k hk hI;have h1:=Aa kg k hk;rw[gJ k (AZ hk bQ.size) (by rw[h1];exact Q0t hI _),h1]
   have mg:GrS (fun k=>T k=1\/T k=3\/T k=6\/T k=4\/T k=7\/InH (T k)) w w7:=by
    have h1:GrS (fun k=>T k=1\/T k=3\/T k=6\/T k=4\/T k=7\/InH (T k)) w w5:=GrS.of bQ (by simp);refine(h1.comp jS (fun k hk hn=>?_)).comp fw (fun k hk hn=>?_)
    ·have hI:¬ InH (T k):=fun h=>hn (.inr (.inr (.inr (.inr (.inr h)))))
     rw[Aa kg k hk];rintro(h|h|h|h)
     ·exact hn (.inl h)
     ·exact hn (.inr (.inl h))
     ·exact hn (.inr (.inr (.inl h)))
     ·exact Q0t hI _ h
    ·have hI:¬ InH (T k):=fun h=>hn (.inr (.inr (.inr (.inr (.inr h)))))
     rw[xk k hk hI];exact hn
   have xl:∀k,k<w.heap.size->¬ InH (T k)->T4 k=T k:=by
    intro k hk hI;have h1:=xk k hk hI;rw[qV k (AZ hk (AU bQ.size yZ)) (by rw[h1];exact hI),h1]
   have jV:=Ac (show ∃T' jX af jY yI ic ml,Lists T' W nv jX af mv jY yI k2 lv ic ml ms ls w7/\ic.length<=us.length+68/\ml.length=fs.length+4/\
    GrS (fun k=>T k=1\/T k=3\/T k=6\/T k=4\/T k=7\/InH (T k)) w w7/\∀k,k<w.heap.size->¬ InH (T k)->T' k=T k from
    ⟨T4,uv4,fv4,k04,k14,us4,fs4,⟨xj,LW,bK,tI,hE4,tF⟩,by omega,PQ,mg,xl⟩)
   clear VH xj bK hE4 nh PQ fw qV OY jS gJ mW aP PD LW tI tF xk mg xl;go_wp2;go_ret;exact⟨rfl,Aa jV⟩
end Go.Proofs.YtolhbeekfjnfmaaGreatDoor
namespace Go.Proofs.YtolhbeekfjnfmaaGreatDoor
variable {y base g n cap j j2 size W i k t:Nat}{rv lv cv fv v v1 v2 uv k0:Value}{w w':World}{α:Type}{l:List Int}{row:Option Nat}{m:Int}{e:TypeId}{c:Array Value}{S:Nat->Prop}{T T':Nat->Nat}{us:List (Value×Int)}
structure Ft where
 blk:Nat
 id:Int
 f:Sv.Fact
structure Site where
 letter:UInt8
 fact:Nat
 place:Nat
structure Lnk where
 place:Nat
 at':Site
abbrev Tok:=List Ft
def Site.bindT(k:Nat):Nat->List Sv.Term->List Site
 | _,[]=>[]
 | p,t::ts=>(if t.sort=1 then [⟨t.letter,k,p⟩] else [])++Site.bindT k (p+1) ts
def Site.find:List Site->UInt8->Option Site
 | [],_=>none
 | s::ss,n=>if s.letter=n then some s else Site.find ss n
def Lnk.of(ahead:List Site):Nat->List Sv.Term->List Lnk
 | _,[]=>[]
 | p,t::ts=>(if t.sort=1 then (match Site.find ahead t.letter with|none=>[]|some s=>[⟨p,s⟩]) else [])++Lnk.of ahead (p+1) ts
def Sv.Term.eqb(a b:Sv.Term):Bool:=a.sort==b.sort&&a.letter==b.letter&&a.value==b.value
def Ca:List Sv.Term->Sv.Term->Nat
 | [],_=>0
 | u::us,t=>if Sv.Term.eqb u t=true then 0 else Ca us t+1
def Zh(all:List Sv.Term)(vs:List Int):Nat->List Sv.Term->Bool
 | _,[]=>true
 | p,t::ts=>(if t.sort=2 then vs.getD p 0==t.value else if t.sort=1 then vs.getD p 0==vs.getD (Ca all t) 0 else true)&&Zh all vs (p+1) ts
def Ia(c:Sv.Cond)(f:Sv.Fact):Bool:=f.kind==(c.kind:Int)&&f.vals.length==c.terms.length&&Zh c.terms f.vals 0 c.terms
def Tok.val(t:Tok)(s:Site):Int:=((t[s.fact]?.map (fun g=>g.f.vals)).getD []).getD s.place 0
def Ck(ls:List Lnk)(t:Tok)(f:Sv.Fact):Bool:=ls.all fun l=>f.vals.getD l.place 0==t.val l.at'
structure Nd where
 c:Sv.Cond
 links:List Lnk
 K:List Ft
 toks:List Tok
structure En where
 toks:List Tok
 wait:List Tok
def Nd.ext(n:Nd)(t:Tok):List Tok:=
 if n.c.neg=true then (if n.K.any (fun g=>Ck n.links t g.f)=true then [] else [t])
 else (n.K.filter (fun g=>Ck n.links t g.f)).map (fun g=>t++[g])
def Dg(put:List Tok->Tok->List Tok):List Nd->En->List Tok->List Nd×En
 | [],e,ts=>([],⟨e.toks++ts,ts.foldl put e.wait⟩)
 | n::ns,e,ts=>
  let r:=Dg put ns e (ts.flatMap n.ext)
  ({ n with toks:=n.toks++ts } :: r.1,r.2)
theorem Ep(put:List Tok->Tok->List Tok):∀(ns:List Nd) (e:En),Dg put ns e []=(ns,e)
 | [],e=>by simp[Dg]
 | n::ns,e=>by simp[Dg,Ep put ns e]
theorem Cx(put:List Tok->Tok->List Tok):∀(ns:List Nd) (e:En) (a b:List Tok),Dg put ns e (a++b)=Dg put (Dg put ns e a).1 (Dg put ns e a).2 b
 | [],e,a,b=>by simp[Dg]
 | n::ns,e,a,b=>by
  have h:∀t,Nd.ext { n with toks:=n.toks++a } t=n.ext t:=fun _=>rfl
  have h2:(Nd.ext { n with toks:=n.toks++a })=n.ext:=funext h;simp only[Dg,CO];rw[Cx put ns e];simp[h2]
theorem Cq(put:List Tok->Tok->List Tok):∀(ns:List Nd) (e:En) (a:List Tok),(Dg put ns e a).1.length=ns.length
 | [],e,a=>rfl
 | n::ns,e,a=>by simp[Dg,Cq put ns]
def Nd.drop(gone:Tok->Bool)(n:Nd):Nd:={ n with toks:=n.toks.filter (fun t=>!gone t) }
def Du:List Sv.Term->List Int->UInt8->Option Int
 | t::ts,v::vs,x=>if t.sort=1/\t.letter=x then some v else Du ts vs x
 | _,_,_=>none
theorem Iy(b:Sv.Bs)(x:UInt8)(v:Int)(y:UInt8):Bc (b++[(x,v)]) y=(Bc b y).or (if x=y then some v else none):=by
 induction b with
 | nil=>simp[Bc]
 | cons p b ih=>
  simp only[CN,Bc];split
  ·simp
  ·exact ih
theorem Site.find_app(a b:List Site)(x:UInt8):Site.find (a++b) x=(Site.find a x).or (Site.find b x):=by
 induction a with
 | nil=>simp[Site.find]
 | cons p a ih=>
  simp only[CN,Site.find];split
  ·simp
  ·exact ih
theorem Q04{a:Option α}{u:α}(h:a=some u)(b c:Option α):a.or b=a.or c:=by subst h;simp
theorem Dp:∀(ts:List Sv.Term) (vs:List Int) (b b':Sv.Bs),B1 ts vs b=some b'->∀x,Bc b' x=(Bc b x).or (Du ts vs x)
 | [],vs,b,b',h=>by simp[B1] at h;subst h;simp[Du]
 | t::ts,[],b,b',h=>by simp[B1] at h;subst h;simp[Du]
 | t::ts,v::vs,b,b',h=>by
  intro x;unfold B1 at h;unfold Du;split at h
  ·rename_i h0
   rw[Dp ts vs b b' h x,AO (by omega)]
  ·split at h
   ·rename_i h1
    split at h
    ·rename_i hn
     rw[Dp ts vs _ b' h x,Iy];by_cases e:t.letter=x
     ·rw[AQ e,AQ ⟨h1,e⟩,<-e,hn];simp
     ·rw[AO e,AO (fun k=>e k.2)];simp
    ·rename_i u hu
     split at h
     ·rw[Dp ts vs b b' h x]
      by_cases e:t.letter=x
      ·rw[<-e];exact Q04 hu _ _
      ·rw[AO (fun k=>e k.2)]
     ·cases h
   ·rename_i h1
    split at h
    ·rw[Dp ts vs b b' h x,AO (fun k=>h1 k.1)]
    ·cases h
def Mt(ts:List Sv.Term)(vs:List Int)(b:Sv.Bs):Prop:=
 ∀i t,ts[i]?=some t->(t.sort=2->vs.getD i 0=t.value)/\(t.sort=1->∀u,(Bc b t.letter).or (Du (ts.take i) (vs.take i) t.letter)=some u->vs.getD i 0=u)
theorem Dj{t:Sv.Term}{ts:List Sv.Term}{v:Int}{vs:List Int}{b b1:Sv.Bs}(hb:∀x i,(Bc b1 x).or (Du (ts.take i) (vs.take i) x)=(Bc b x).or (Du ((t::ts).take (i+1)) ((v::vs).take (i+1)) x)) :
  Mt (t::ts) (v::vs) b↔((t.sort=2->v=t.value)/\(t.sort=1->∀u,Bc b t.letter=some u->v=u))/\Mt ts vs b1:=by
 constructor
 ·intro h
  refine⟨?_,fun i s hs=>?_⟩
  ·have:=h 0 t rfl
   simpa[Du] using this
  ·have:=h (i+1) s (by simpa using hs)
   refine⟨fun k=>by simpa using this.1 k,fun k u hu=>?_⟩;rw[hb] at hu;simpa using this.2 k u hu
 ·rintro⟨h1,h2⟩ i s hs
  cases i with
  | zero=>
   simp at hs;subst hs;simpa[Du] using h1
  | succ i=>
   have:=h2 i s (by simpa using hs);refine⟨fun k=>by simpa using this.1 k,fun k u hu=>?_⟩;rw[<-hb] at hu;simpa using this.2 k u hu
theorem D4:∀(ts:List Sv.Term) (vs:List Int) (b:Sv.Bs),ts.length=vs.length->(∀t∈ts,t.sort<=2)->((B1 ts vs b).isSome=true↔Mt ts vs b)
 | [],vs,b,_,_=>by simp[B1,Mt]
 | t::ts,[],b,h,_=>by simp at h
 | t::ts,v::vs,b,hl,hs=>by
  have hl':ts.length=vs.length:=by simpa using hl
  have hs':∀t∈ts,t.sort<=2:=fun x hx=>hs x (BG _ hx)
  have ht:=hs t (BF ..);unfold B1;split
  ·rename_i h0
   rw[D4 ts vs b hl' hs',Dj (b1:=b)]
   ·constructor
    ·intro h;exact⟨⟨fun k=>by omega,fun k=>by omega⟩,h⟩
    ·exact fun h=>h.2
   ·intro x i
    simp[Du,h0]
  ·rename_i h0
   split
   ·rename_i h1
    split
    ·rename_i hn
     rw[D4 ts vs _ hl' hs',Dj (b1:=b++[(t.letter,v)])]
     ·constructor
      ·intro h;exact⟨⟨fun k=>by omega,fun _ u hu=>by rw[hn] at hu;cases hu⟩,h⟩
      ·exact fun h=>h.2
     ·intro x i
      rw[Iy];by_cases e:t.letter=x
      ·subst e
       simp[Du,h1,hn]
      ·simp[Du,e]
    ·rename_i u hu
     have hb:∀x i,(Bc b x).or (Du (ts.take i) (vs.take i) x)=(Bc b x).or (Du ((t::ts).take (i+1)) ((v::vs).take (i+1)) x):=by
      intro x i;by_cases e:t.letter=x
      ·rw[<-e];exact Q04 hu _ _
      ·simp[Du,e]
     by_cases e:v=u
     ·rw[AQ e,D4 ts vs b hl' hs',Dj hb]
      constructor
      ·intro h;exact⟨⟨fun k=>by omega,fun _ u' uw=>by rw[hu] at uw;cases uw;exact e⟩,h⟩
      ·exact fun h=>h.2
     ·rw[AO e]
      constructor
      ·intro h;simp at h
      ·intro h
       exact absurd (((Dj hb).1 h).1.2 h1 u hu) e
   ·rename_i h1
    have h2:t.sort=2:=by omega
    have hb:∀x i,(Bc b x).or (Du (ts.take i) (vs.take i) x)=(Bc b x).or (Du ((t::ts).take (i+1)) ((v::vs).take (i+1)) x):=by
     intro x i;simp[Du,h1]
    by_cases e:v=t.value
    ·rw[AQ e,D4 ts vs b hl' hs',Dj hb]
     constructor
     ·intro h;exact⟨⟨fun _=>e,fun k=>by omega⟩,h⟩
     ·exact fun h=>h.2
    ·rw[AO e]
     constructor
     ·intro h;simp at h
     ·intro h
      exact absurd (((Dj hb).1 h).1.1 h2) e
theorem Rt(all:List Sv.Term)(vs:List Int):∀(ts:List Sv.Term) (p:Nat),Zh all vs p ts=true↔∀i t,ts[i]?=some t->(t.sort=2->vs.getD (p+i) 0=t.value)/\(t.sort=1->vs.getD (p+i) 0=vs.getD (Ca all t) 0)
 | [],p=>by simp[Zh]
 | t::ts,p=>by
  unfold Zh;rw[EA,Rt all vs ts (p+1)];constructor
  ·rintro⟨h1,h2⟩ i s hs
   cases i with
   | zero=>
    simp only[BU,AE] at hs;subst hs;constructor
    ·intro h;simpa[h] using h1
    ·intro h;simpa[h] using h1
   | succ i=>
    have:=h2 i s (by simpa using hs);rw[show p+(i+1)=p+1+i from by omega];exact this
  ·intro h
   constructor
   ·have:=h 0 t rfl
    split
    ·rename_i h2;simpa using this.1 h2
    ·split
     ·rename_i h1;simpa using this.2 h1
     ·rfl
   ·intro i s hs
    have:=h (i+1) s (by simpa using hs);rw[show p+(i+1)=p+1+i from by omega] at this;exact this
theorem Rs(ss:List Site)(t:Tok)(f:Sv.Fact):∀(ts:List Sv.Term) (p:Nat),Ck (Lnk.of ss p ts) t f=true↔∀i tm,ts[i]?=some tm->tm.sort=1->∀s,Site.find ss tm.letter=some s->f.vals.getD (p+i) 0=t.val s
 | [],p=>by simp[Ck,Lnk.of]
 | tm::ts,p=>by
  have ih:=Rs ss t f ts (p+1);unfold Lnk.of;unfold Ck at ih⊢;rw[List.all_append,EA,ih];constructor
  ·rintro⟨h1,h2⟩ i s hs hv u hu
   cases i with
   | zero=>
    simp only[BU,AE] at hs;subst hs;simpa[hv,hu] using h1
   | succ i=>
    have:=h2 i s (by simpa using hs) hv u hu;rw[show p+(i+1)=p+1+i from by omega];exact this
  ·intro h
   constructor
   ·by_cases hv:tm.sort=1
    ·cases hu:Site.find ss tm.letter with
     | none=>simp[hv]
     | some s=>simpa[hv] using h 0 tm rfl hv s hu
    ·simp[hv]
   ·intro i s hs hv u hu
    have:=h (i+1) s (by simpa using hs) hv u hu;rw[show p+(i+1)=p+1+i from by omega] at this;exact this
def El(t:Sv.Term):Prop:=t.sort<=2/\(t.sort=1->t.value=0)
theorem Sy{u t:Sv.Term}(hu:El u)(ht:El t)(h1:t.sort=1):Sv.Term.eqb u t=true↔u.sort=1/\u.letter=t.letter:=by
 unfold Sv.Term.eqb;simp only[EA,beq_iff_eq];constructor
 ·rintro⟨⟨a,b⟩,_⟩;exact⟨by omega,b⟩
 ·rintro⟨a,b⟩;exact⟨⟨by omega,b⟩,by rw[hu.2 a,ht.2 h1]⟩
theorem Ih:∀(ts:List Sv.Term) (vs:List Int) (i:Nat) (t:Sv.Term),(∀u∈ts,El u)->ts.length=vs.length->ts[i]?=some t->t.sort=1->
  Ca ts t<=i/\(∃u,ts[Ca ts t]?=some u/\u.sort=1/\u.letter=t.letter)/\Du (ts.take i) (vs.take i) t.letter=(if Ca ts t<i then some (vs.getD (Ca ts t) 0) else none)
 | [],vs,i,t,_,_,h,_=>by simp at h
 | a::ts,[],i,t,_,h,_,_=>by simp at h
 | a::ts,v::vs,i,t,aK,hl,hi,h1=>by
  have hl':ts.length=vs.length:=by simpa using hl
  have hmem:t∈a::ts:=AV hi;have hq:=Sy (aK a (BF ..)) (aK t hmem) h1;unfold Ca;by_cases e:Sv.Term.eqb a t=true
  ·rw[AQ e]
   have e2:=hq.1 e;refine⟨AG _,⟨a,rfl,e2⟩,?_⟩;cases i with
   | zero=>simp[Du]
   | succ i=>simp[Du,e2.1,e2.2]
  ·rw[AO e]
   have e2:¬ (a.sort=1/\a.letter=t.letter):=fun k=>e (hq.2 k)
   cases i with
   | zero=>
    simp only[BU,AE] at hi;subst hi;exact absurd ⟨h1,rfl⟩ e2
   | succ i=>
    obtain⟨k1,⟨u,k2,k3⟩,k4⟩:=Ih ts vs i t (fun u hu=>aK u (BG _ hu)) hl' (by simpa using hi) h1;refine⟨by omega,⟨u,by simpa using k2,k3⟩,?_⟩;simp only[GG,Du,AO e2,k4];by_cases hlt:Ca ts t<i
    ·rw[AQ hlt,AQ (by omega)];simp
    ·rw[AO hlt,AO (by omega)]
def Bound(ss:List Site)(t:Tok)(b:Sv.Bs):Prop:=∀x,Bc b x=(Site.find ss x).map (fun s=>t.val s)
theorem Wt{c:Sv.Cond}(aK:∀u∈c.terms,El u){ss:List Site}{t:Tok}{b:Sv.Bs}(hb:Bound ss t b)(f:Sv.Fact) :
  (Ay f c b).isSome=(Ia c f&&Ck (Lnk.of ss 0 c.terms) t f):=by
 unfold Ay Ia;by_cases hk:f.kind=(c.kind:Int)
 ·by_cases hl:f.vals.length=c.terms.length
  ·rw[AQ ⟨hk,hl⟩,ER,D4 _ _ _ hl.symm (fun u hu=>(aK u hu).1)]
   simp only[hk,hl,BEq.rfl,EN,EA];rw[Rt,Rs];simp only[BV];constructor
   ·intro h
    have hL:∀i tm,c.terms[i]?=some tm->tm.sort=1->∀u,Bc b tm.letter=some u->f.vals.getD i 0=u:=fun i tm hi h1 u hu=>(h i tm hi).2 h1 u (by rw[hu];rfl)
    refine⟨fun i tm hi=>⟨(h i tm hi).1,fun h1=>?_⟩,fun i tm hi h1 s hs=>hL i tm hi h1 _ (by rw[hb,hs];rfl)⟩;obtain⟨k1,⟨u,k2,k3,k4⟩,k5⟩:=Ih c.terms f.vals i tm aK hl.symm hi h1;cases hu:Bc b tm.letter with
    | some x=>rw[hL i tm hi h1 x hu,hL _ u k2 k3 x (by rw[k4];exact hu)]
    | none=>
     by_cases hlt:Ca c.terms tm<i
     ·rw[AQ hlt] at k5
      exact(h i tm hi).2 h1 _ (by rw[hu,k5];rfl)
     ·rw[show Ca c.terms tm=i from by omega]
   ·rintro⟨h1,h2⟩ i tm hi
    refine⟨(h1 i tm hi).1,fun h3 u hu=>?_⟩;obtain⟨k1,_,k5⟩:=Ih c.terms f.vals i tm aK hl.symm hi h3;cases hx:Bc b tm.letter with
    | some x=>
     rw[hx] at hu;simp at hu;subst hu;rw[hb] at hx;cases hs:Site.find ss tm.letter with
     | none=>rw[hs] at hx;simp at hx
     | some s=>
      rw[hs] at hx;simp at hx;rw[<-hx];exact h2 i tm hi h3 s hs
    | none=>
     rw[hx,k5] at hu;by_cases hlt:Ca c.terms tm<i
     ·rw[AQ hlt] at hu
      simp at hu;rw[<-hu];simpa using(h1 i tm hi).2 h3
     ·rw[AO hlt] at hu;simp at hu
  ·rw[AO (fun h=>hl h.2)]
   simp[hl]
 ·rw[AO (fun h=>hk h.1)]
  simp[hk]
theorem Site.bindT_find(k:Nat)(vs:List Int):∀(ts:List Sv.Term) (p:Nat) (x:UInt8),(Site.find (Site.bindT k p ts) x)=none/\Du ts (vs.drop p) x=none\/(∃q,Site.find (Site.bindT k p ts) x=some ⟨x,k,q⟩/\(ts.length<=(vs.drop p).length->Du ts (vs.drop p) x=some (vs.getD q 0)))\/¬ ts.length<=(vs.drop p).length
 | [],p,x=>.inl ⟨rfl,by simp[Du]⟩
 | t::ts,p,x=>by
  by_cases hlen:(t::ts).length<=(vs.drop p).length
  ·have hp:p<vs.length:=by simp at hlen;omega
   have hd:vs.drop p=vs[p]::vs.drop (p+1):=CP hp;have ij:ts.length<=(vs.drop (p+1)).length:=by simp at hlen⊢;omega
   unfold Site.bindT;rw[hd];simp only[Du];by_cases h1:t.sort=1
   ·rw[AQ h1]
    simp only[List.singleton_append,Site.find];by_cases e:t.letter=x
    ·right;left
     refine⟨p,by simp[e],fun _=>?_⟩;rw[AQ ⟨h1,e⟩];simp[hp]
    ·rw[AO e,AO (fun k=>e k.2)]
     rcases Site.bindT_find k vs ts (p+1) x with h|⟨q,h2,h3⟩|h
     ·exact .inl h
     ·exact .inr (.inl ⟨q,h2,fun _=>h3 ij⟩)
     ·exact absurd ij h
   ·rw[AO h1,AO (fun k=>h1 k.1)]
    simp only[CW];rcases Site.bindT_find k vs ts (p+1) x with h|⟨q,h2,h3⟩|h
    ·exact .inl h
    ·exact .inr (.inl ⟨q,h2,fun _=>h3 ij⟩)
    ·exact absurd ij h
  ·exact .inr (.inr hlen)
theorem Tok.val_app(t:Tok)(g:Ft)(s:Site)(h:s.fact<t.length):Tok.val (t++[g]) s=t.val s:=by
 unfold Tok.val;rw[CL h]
theorem Site.find_mem:∀(ss:List Site) (x:UInt8) (s:Site),Site.find ss x=some s->s∈ss
 | [],x,s,h=>by simp[Site.find] at h
 | a::ss,x,s,h=>by
  unfold Site.find at h;split at h
  ·cases h;exact BF ..
  ·exact BG _ (Site.find_mem ss x s h)
theorem Bound.step{ss:List Site}{t:Tok}{b b':Sv.Bs}(hb:Bound ss t b)(hs:∀s∈ss,s.fact<t.length){c:Sv.Cond}{g:Ft}(hm:Ay g.f c b=some b'):Bound (ss++Site.bindT t.length 0 c.terms) (t++[g]) b':=by
 intro x;unfold Ay at hm;split at hm
 ·rename_i hk
  rw[Dp _ _ _ _ hm x,hb x,Site.find_app];cases hf:Site.find ss x with
  | some s=>
   simp only[DZ,Option.some_or];rw[Tok.val_app t g s (hs s (Site.find_mem ss x s hf))]
  | none=>
   simp only[Option.map_none,Option.none_or];rcases Site.bindT_find t.length g.f.vals c.terms 0 x with ⟨h1,h2⟩|⟨q,h1,h2⟩|h
   ·rw[h1];simpa using h2
   ·rw[h1]
    have:=h2 (by simp[hk.2]);rw[IH] at this;rw[this];simp[Tok.val]
   ·exact absurd (by simp[hk.2]) h
 ·cases hm
theorem Site.bindT_fact(k:Nat):∀(ts:List Sv.Term) (p:Nat),∀s∈Site.bindT k p ts,s.fact=k
 | [],p,s,h=>by simp[Site.bindT] at h
 | t::ts,p,s,h=>by
  unfold Site.bindT at h;rcases AY.1 h with h|h
  ·split at h
   ·simp at h;rw[h]
   ·simp at h
  ·exact Site.bindT_fact k ts (p+1) s h
def Tok.nums(t:Tok):List Int:=t.map (fun g=>g.id)++List.replicate (4-t.length) 0
def cmpL:List Int->List Int->Int
 | [],[]=>0
 | [],_::_=>-1
 | _::_,[]=>1
 | a::x,b::y=>if a<b then -1 else if b<a then 1 else cmpL x y
def Pb(l:List Int):List Int:=l.mergeSort (fun a b=>decide (a<=b))
def Tok.age(t:Tok):List Int:=(Pb t.nums).reverse
def Tok.less(t u:Tok):Bool:=if cmpL t.age u.age=0 then decide (cmpL t.nums u.nums<0) else decide (0<cmpL t.age u.age)
def Hp.swap{α:Type}(l:List α)(i j:Nat):List α:=
 match l[i]?,l[j]? with
 | some a,some b=>(l.set i b).set j a
 | _,_=>l
def Hp.lt{α:Type}(lt:α->α->Bool)(l:List α)(i j:Nat):Bool:=
 match l[i]?,l[j]? with
 | some a,some b=>lt a b
 | _,_=>false
def Hp.up{α:Type}(lt:α->α->Bool)(l:List α)(j:Nat):List α:=
 if h:j=0 then l
 else if Hp.lt lt l j ((j-1) / 2)=true then Hp.up lt (Hp.swap l ((j-1) / 2) j) ((j-1) / 2) else l
 termination_by j
 decreasing_by omega
def Hp.kid{α:Type}(lt:α->α->Bool)(n:Nat)(l:List α)(i:Nat):Nat:=
 if 2*i+2<n/\Hp.lt lt l (2*i+2) (2*i+1)=true then 2*i+2 else 2*i+1
theorem Hp.kid_gt(lt:α->α->Bool)(n:Nat)(l:List α)(i:Nat):i<Hp.kid lt n l i:=by
 unfold Hp.kid;split<;>omega
theorem Hp.kid_lt(lt:α->α->Bool)(n:Nat)(l:List α)(i:Nat)(h:2*i+1<n):Hp.kid lt n l i<n:=by
 unfold Hp.kid;split
 ·rename_i k;exact k.1
 ·exact h
def Hp.down{α:Type}(lt:α->α->Bool)(n:Nat)(l:List α)(i:Nat):List α:=
 if _h:2*i+1<n then
  (if Hp.lt lt l (Hp.kid lt n l i) i=true then Hp.down lt n (Hp.swap l i (Hp.kid lt n l i)) (Hp.kid lt n l i) else l)
 else l
 termination_by n-i
 decreasing_by
 have h1:=Hp.kid_gt lt n l i;have h2:=Hp.kid_lt lt n l i _h;omega
def Hp.initF{α:Type}(lt:α->α->Bool):Nat->List α->List α
 | 0,l=>l
 | i+1,l=>Hp.initF lt i (Hp.down lt l.length l i)
def Hp.init{α:Type}(lt:α->α->Bool)(l:List α):List α:=Hp.initF lt (l.length / 2) l
def Hp.push{α:Type}(lt:α->α->Bool)(l:List α)(t:α):List α:=Hp.up lt (l++[t]) l.length
theorem Sj{α:Type}(a b:α):∀(l:List α) (j:Nat),l[j]?=some b->(b::l.set j a).Perm (a::l)
 | [],j,h=>by simp at h
 | x::l,0,h=>by
  simp at h;subst h;simp only[IK];exact List.Perm.swap _ _ _
 | x::l,j+1,h=>by
  simp only[FK];have h1:=Sj a b l j (by simpa using h);exact(List.Perm.swap _ _ _).trans ((h1.cons x).trans (List.Perm.swap _ _ _))
theorem Ip{α:Type}:∀(l:List α) (i j:Nat) (a b:α),i<j->l[i]?=some a->l[j]?=some b->((l.set i b).set j a).Perm l
 | [],i,j,a,b,_,h,_=>by simp at h
 | x::l,0,0,a,b,h,_,_=>by omega
 | x::l,0,j+1,a,b,_,h1,h2=>by
  simp at h1;subst h1;simp only[IK,FK];exact Sj x b l j (by simpa using h2)
 | x::l,i+1,0,a,b,h,_,_=>by omega
 | x::l,i+1,j+1,a,b,h,h1,h2=>by
  simp only[FK];exact(Ip l i j a b (by omega) (by simpa using h1) (by simpa using h2)).cons x
theorem Hp.swap_perm(l:List α)(i j:Nat):(Hp.swap l i j).Perm l:=by
 unfold Hp.swap;split
 ·rename_i a b h1 h2
  rcases JR i j with h|h|h
  ·exact Ip l i j a b h h1 h2
  ·subst h
   rw[h1] at h2;cases h2
   have e:l.set i a=l:=by
    obtain⟨hi,rfl⟩:=AL.1 h1;exact List.set_getElem_self hi
   rw[e,e]
  ·rw[List.set_comm _ _ (by omega)]
   exact Ip l j i b a h h2 h1
 ·exact DU _
theorem Hp.up_perm{α:Type}(lt:α->α->Bool)(l:List α)(j:Nat):(Hp.up lt l j).Perm l:=by
 induction j using Nat.strongRecOn generalizing l with
 | _ j ih=>
  unfold Hp.up;split
  ·exact DU _
  ·split
   ·exact(ih ((j-1) / 2) (by omega) _).trans (Hp.swap_perm _ _ _)
   ·exact DU _
theorem Hp.down_perm{α:Type}(lt:α->α->Bool)(n:Nat):∀(m:Nat) (l:List α) (i:Nat),n-i<=m->(Hp.down lt n l i).Perm l
 | 0,l,i,h=>by
  unfold Hp.down;rw[dif_neg (by omega)]
 | m+1,l,i,h=>by
  unfold Hp.down;split
  ·rename_i h1
   split
   ·have h2:=Hp.kid_gt lt n l i
    exact(Hp.down_perm lt n m _ _ (by omega)).trans (Hp.swap_perm _ _ _)
   ·exact DU _
  ·exact DU _
theorem Hp.initF_perm{α:Type}(lt:α->α->Bool):∀(i:Nat) (l:List α),(Hp.initF lt i l).Perm l
 | 0,_=>DU _
 | i+1,l=>(Hp.initF_perm lt i _).trans (Hp.down_perm lt _ _ l i (AW _))
theorem Hp.init_perm(lt:α->α->Bool)(l:List α):(Hp.init lt l).Perm l:=Hp.initF_perm lt _ l
theorem Hp.push_perm(lt:α->α->Bool)(l:List α)(t:α):(Hp.push lt l t).Perm (l++[t]):=Hp.up_perm lt _ _
theorem Hp.fold_perm{α:Type}(lt:α->α->Bool):∀(ts:List α) (l:List α),(ts.foldl (Hp.push lt) l).Perm (l++ts)
 | [],l=>by simp
 | t::ts,l=>by
  simp only[List.foldl_cons];refine(Hp.fold_perm lt ts _).trans ?_;have h:=(Hp.push_perm lt l t).append_right ts;simpa using h
abbrev arr:=Dg (Hp.push Tok.less)
def En.drop(gone:Tok->Bool)(e:En):En:=⟨e.toks.filter (fun t=>!gone t),Hp.init Tok.less (e.wait.filter (fun t=>!gone t))⟩
def Ao(f:Ft)(n:Nd)(ns:List Nd)(e:En):Nd×(List Nd×En):=
 if Ia n.c f.f=true then
  ({ n with K:=n.K++[f] },if n.c.neg=true then (ns.map (Nd.drop (fun t=>Ck n.links t f.f)),e.drop (fun t=>Ck n.links t f.f))
   else arr ns e ((n.toks.filter (fun t=>Ck n.links t f.f)).map (fun t=>t++[f])))
 else (n,(ns,e))
def Da(f:Ft):Nat->List Nd->En->List Nd×En
 | 0,ns,e=>(ns,e)
 | _+1,[],e=>([],e)
 | k+1,n::ns,e=>((Ao f n ns e).1::(Da f k (Ao f n ns e).2.1 (Ao f n ns e).2.2).1,(Da f k (Ao f n ns e).2.1 (Ao f n ns e).2.2).2)
theorem Eo(f:Ft)(n:Nd)(ns:List Nd)(e:En):(Ao f n ns e).2.1.length=ns.length:=by
 unfold Ao;split
 ·split
  ·simp
  ·exact Cq _ _ _ _
 ·rfl
def Inv:List Tok->List Nd->En->Prop
 | B,[],e=>e.toks.Perm B
 | B,n::ns,e=>n.toks.Perm B/\Inv (B.flatMap n.ext) ns e
def reach:List Nd->Tok->List Tok
 | [],t=>[t]
 | n::ns,t=>(n.ext t).flatMap (reach ns)
theorem Inv.toks:∀ {B:List Tok} {ns:List Nd} {e:En},Inv B ns e->e.toks.Perm (B.flatMap (reach ns))
 | B,[],e,h=>by simpa[reach,Inv] using h
 | B,n::ns,e,h=>by
  have:=Inv.toks h.2;rw[List.flatMap_assoc] at this;exact this
theorem Inv.perm:∀ {B B':List Tok} {ns:List Nd} {e:En},Inv B ns e->B.Perm B'->Inv B' ns e
 | _,_,[],_,h,hp=>List.Perm.trans h hp
 | _,_,_::_,_,h,hp=>⟨h.1.trans hp,h.2.perm (hp.flatMap_right _)⟩
theorem Inv.arr:∀ {B:List Tok} {ns:List Nd} {e:En} (X:List Tok),Inv B ns e->Inv (B++X) (arr ns e X).1 (arr ns e X).2
 | B,[],e,X,h=>List.Perm.append_right X h
 | B,n::ns,e,X,h=>by
  refine⟨h.1.append_right X,?_⟩;have:=Inv.arr (X.flatMap n.ext) h.2;rw[<-CO] at this;exact this
theorem Zg{ls:List Lnk}{t:Tok}{g:Ft}{f:Sv.Fact}(h:∀l∈ls,l.at'.fact<t.length):Ck ls (t++[g]) f=Ck ls t f:=by
 unfold Ck;rw[ER,JX,JX];constructor
 ·intro k l hl
  rw[<-Tok.val_app t g l.at' (h l hl)];exact k l hl
 ·intro k l hl
  rw[Tok.val_app t g l.at' (h l hl)];exact k l hl
theorem Nd.ext_mem{n:Nd}{t u:Tok}(h:u∈n.ext t):u=t\/∃g∈n.K,u=t++[g]:=by
 unfold Nd.ext at h;split at h
 ·split at h
  ·simp at h
  ·simp at h;exact .inl h
 ·obtain⟨g,hg,rfl⟩:=CJ.1 h
  exact .inr ⟨g,(BH.1 hg).1,rfl⟩
theorem Nd.ext_len{n:Nd}{t u:Tok}(h:u∈n.ext t):u.length=t.length+(if n.c.neg=true then 0 else 1):=by
 unfold Nd.ext at h;split at h
 ·rename_i hn
  rw[AQ hn];split at h
  ·simp at h
  ·simp at h;rw[h];rfl
 ·rename_i hn
  rw[AO hn];obtain⟨g,hg,rfl⟩:=CJ.1 h;simp
theorem Dh{α β:Type}(p:α->Bool)(q:β->Bool)(g:α->List β):∀(B:List α),(∀t∈B,∀u∈g t,q u=p t)->(B.flatMap g).filter q=(B.filter p).flatMap g
 | [],_=>rfl
 | t::B,h=>by
  have ih:=Dh p q g B (fun x hx=>h x (BG _ hx));rw[BI,DI,ih];by_cases e:p t=true
  ·have h1:(g t).filter q=g t:=GY.2 (fun u hu=>by rw[h t (BF ..) u hu];exact e)
   simp[h1,e]
  ·have e2:p t=false:=by simpa using e
   have h1:(g t).filter q=[]:=KS.2 (fun u hu=>by rw[h t (BF ..) u hu,e2];simp);simp[h1,e2]
theorem Inv.drop{ls:List Lnk}{f:Sv.Fact}{k:Nat}(hk:∀l∈ls,l.at'.fact<k):∀ {B:List Tok} {ns:List Nd} {e:En},Inv B ns e->(∀t∈B,k<=t.length)->
  Inv (B.filter (fun t=>!Ck ls t f)) (ns.map (Nd.drop (fun t=>Ck ls t f))) (e.drop (fun t=>Ck ls t f))
 | B,[],e,h,_=>JW _ h
 | B,n::ns,e,h,hB=>by
  refine⟨h.1.filter _,?_⟩
  have hB2:∀t∈B.flatMap n.ext,k<=t.length:=by
   intro t ht;obtain⟨u,hu,hv⟩:=CT.1 ht;have:=Nd.ext_len hv;have:=hB u hu;omega
  have:=Inv.drop (f:=f) hk h.2 hB2;rw[Dh (fun t=>!Ck ls t f)] at this
  ·exact this
  ·intro t ht u hu
   rcases Nd.ext_mem hu with rfl|⟨g,_,rfl⟩
   ·rfl
   ·rw[Zg (fun l hl=>AZ (hk l hl) (hB t ht))]
theorem D9{α β:Type}(a b:α->List β):∀(B:List α),(B.flatMap (fun t=>a t++b t)).Perm (B.flatMap a++B.flatMap b)
 | []=>by simp
 | t::B=>by
  simp only[BI];have ih:=D9 a b B;have h1:((a t++b t)++List.flatMap (fun t=>a t++b t) B).Perm ((a t++b t)++(B.flatMap a++B.flatMap b)):=ih.append_left _;refine h1.trans ?_;rw[BQ,BQ];refine GR _ ?_;rw[<-BQ,<-BQ];exact List.perm_append_comm.append_right _
theorem Io{α β:Type}(p:α->Bool)(g:α->β):∀(B:List α),B.flatMap (fun t=>if p t=true then [g t] else [])=(B.filter p).map g
 | []=>rfl
 | t::B=>by
  rw[BI,Io p g B];by_cases h:p t=true
  ·simp[h]
  ·simp[h]
theorem Zd(n:Nd)(f:Ft)(hn:n.c.neg=false)(t:Tok):Nd.ext { n with K:=n.K++[f] } t=n.ext t++(if Ck n.links t f.f=true then [t++[f]] else []):=by
 unfold Nd.ext;simp only[hn,BZ,if_false,DI,CG];congr 1
 by_cases h:Ck n.links t f.f=true
 ·simp[h]
 ·simp[h]
theorem Za(n:Nd)(f:Ft)(hn:n.c.neg=true)(t:Tok):Nd.ext { n with K:=n.K++[f] } t=if Ck n.links t f.f=true then [] else n.ext t:=by
 unfold Nd.ext;simp only[hn,if_true,ES];by_cases h:Ck n.links t f.f=true
 ·simp[h]
 ·simp[h]
theorem Ha{α β:Type}(p:α->Bool)(g:α->List β):∀(B:List α),B.flatMap (fun t=>if p t=true then [] else g t)=(B.filter (fun t=>!p t)).flatMap g
 | []=>rfl
 | t::B=>by
  rw[BI,Ha p g B];by_cases h:p t=true
  ·simp[h]
  ·simp[h]
theorem Gy(n:Nd)(hn:n.c.neg=true)(p:Tok->Bool)(B:List Tok):(B.filter p).flatMap n.ext=(B.flatMap n.ext).filter p:=by
 symm
 refine Dh p p n.ext B ?_;intro t _ u hu;unfold Nd.ext at hu;rw[AQ hn] at hu;split at hu
 ·simp at hu
 ·simp at hu;rw[hu]
theorem Qb{f:Ft}{n:Nd}{ns:List Nd}{e:En}{B:List Tok}(h:Inv B (n::ns) e)(hk:∀l∈n.links,l.at'.fact<k)(hB:∀t∈B,t.length=k) :
  Inv B ((Ao f n ns e).1::(Ao f n ns e).2.1) (Ao f n ns e).2.2:=by
 unfold Ao;by_cases hf:Ia n.c f.f=true
 ·rw[AQ hf]
  by_cases hn:n.c.neg=true
  ·simp only[hn,if_true]
   refine⟨h.1,?_⟩
   have h2:∀t∈B.flatMap n.ext,k<=t.length:=by
    intro t ht;obtain⟨u,hu,hv⟩:=CT.1 ht;have:=Nd.ext_len hv;have:=hB u hu;omega
   have:=Inv.drop (f:=f.f) hk h.2 h2
   have e:B.flatMap (Nd.ext { n with K:=n.K++[f] })=(B.flatMap n.ext).filter (fun t=>!Ck n.links t f.f):=by
    rw[show Nd.ext { n with K:=n.K++[f] }=fun t=>if Ck n.links t f.f=true then [] else n.ext t from funext (Za n f hn),Ha,Gy n hn]
   rw[e];exact this
  ·have fT:n.c.neg=false:=by simpa using hn
   simp only[fT,BZ,if_false];refine⟨h.1,?_⟩;have h3:=Inv.arr ((n.toks.filter (fun t=>Ck n.links t f.f)).map (fun t=>t++[f])) h.2;refine h3.perm ?_;rw[show Nd.ext { n with K:=n.K++[f] }=fun t=>n.ext t++(if Ck n.links t f.f=true then [t++[f]] else []) from funext (Zd n f fT)];refine List.Perm.symm ((D9 _ _ B).trans ?_);rw[Io];exact GR _ (((h.1.symm).filter _).map _)
 ·rw[AO hf]
  exact h
def Good(F:List Ft):List Site->Nat->List Nd->List Sv.Cond->Prop
 | _,_,[],[]=>True
 | ss,k,n::ns,c::cs=>n.c=c/\n.links=Lnk.of ss 0 c.terms/\n.K=F.filter (fun g=>Ia c g.f)/\Good F (if c.neg=true then ss else ss++Site.bindT k 0 c.terms) (if c.neg=true then k else k+1) ns cs
 | _,_,_,_=>False
theorem Good.len{F:List Ft}:∀ {ss:List Site} {k:Nat} {ns:List Nd} {cs:List Sv.Cond},Good F ss k ns cs->ns.length=cs.length
 | _,_,[],[],_=>rfl
 | _,_,[],_::_,h=>h.elim
 | _,_,_::_,[],h=>h.elim
 | _,_,_::_,_::_,h=>by simp[h.2.2.2.len]
theorem Lnk.of_fact(ss:List Site)(k:Nat)(h:∀s∈ss,s.fact<k):∀(ts:List Sv.Term) (p:Nat),∀l∈Lnk.of ss p ts,l.at'.fact<k
 | [],p,l,hl=>by simp[Lnk.of] at hl
 | t::ts,p,l,hl=>by
  unfold Lnk.of at hl;rcases AY.1 hl with hl|hl
  ·split at hl
   ·split at hl
    ·simp at hl
    ·rename_i s hs
     simp at hl;rw[hl];exact h s (Site.find_mem ss _ s hs)
   ·simp at hl
  ·exact Lnk.of_fact ss k h ts (p+1) l hl
theorem Me{ss:List Site}(h:∀s∈ss,s.fact<k)(c:Sv.Cond):∀s∈(if c.neg=true then ss else ss++Site.bindT k 0 c.terms),s.fact<(if c.neg=true then k else k+1):=by
 split
 ·exact h
 ·intro s hs
  rcases AY.1 hs with hs|hs
  ·have:=h s hs;omega
  ·have:=Site.bindT_fact k c.terms 0 s hs;omega
theorem Good.same{F:List Ft}:∀ {ss:List Site} {k:Nat} {ns iF:List Nd} {cs:List Sv.Cond},Good F ss k ns cs->ns.map (fun n=>(n.c,n.links,n.K))=iF.map (fun n=>(n.c,n.links,n.K))->Good F ss k iF cs
 | _,_,[],[],[],_,_=>trivial
 | _,_,[],_::_,_,_,h=>by simp at h
 | _,_,_::_,[],_,_,h=>by simp at h
 | _,_,[],[],_::_,h,_=>h.elim
 | _,_,_::_,_::_,[],h,_=>h.elim
 | _,_,n::ns,m::iF,c::cs,h,he=>by
  simp only[DN,GX,CH] at he;obtain⟨⟨e1,e2,e3⟩,e4⟩:=he;exact⟨by rw[<-e1];exact h.1,by rw[<-e2];exact h.2.1,by rw[<-e3];exact h.2.2.1,h.2.2.2.same e4⟩
theorem Hm:∀(ns:List Nd) (e:En) (X:List Tok),ns.map (fun n=>(n.c,n.links,n.K))=(arr ns e X).1.map (fun n=>(n.c,n.links,n.K))
 | [],e,X=>rfl
 | n::ns,e,X=>by
  simp only[arr,Dg,DN];rw[Hm ns e]
theorem I3(f:Ft)(n:Nd)(ns:List Nd)(e:En):ns.map (fun n=>(n.c,n.links,n.K))=(Ao f n ns e).2.1.map (fun n=>(n.c,n.links,n.K)):=by
 unfold Ao;split
 ·split
  ·simp[Nd.drop,List.map_map,Function.comp_def]
  ·exact Hm _ _ _
 ·rfl
theorem Om{F:List Ft}(f:Ft):∀ {ss:List Site} {k:Nat} {ns:List Nd} {cs:List Sv.Cond} {B:List Tok} {e:En},Good F ss k ns cs->(∀s∈ss,s.fact<k)->(∀t∈B,t.length=k)->Inv B ns e->
  Good (F++[f]) ss k (Da f ns.length ns e).1 cs/\Inv B (Da f ns.length ns e).1 (Da f ns.length ns e).2
 | _,_,[],[],_,_,h,_,_,hi=>⟨h,hi⟩
 | _,_,[],_::_,_,_,h,_,_,_=>h.elim
 | _,_,_::_,[],_,_,h,_,_,_=>h.elim
 | ss,k,n::ns,c::cs,B,e,h,hs,hB,hi=>by
  obtain⟨h1,h2,h3,h4⟩:=h;have hk:∀l∈n.links,l.at'.fact<k:=by rw[h2];exact Lnk.of_fact ss k hs c.terms 0
  have oY:=Qb (f:=f) hi hk hB;have hg2:=h4.same (I3 f n ns e);have hl:=Eo f n ns e
  have hc:(Ao f n ns e).1.c=c/\(Ao f n ns e).1.links=Lnk.of ss 0 c.terms/\(Ao f n ns e).1.K=(F++[f]).filter (fun g=>Ia c g.f):=by
   unfold Ao;by_cases hf:Ia n.c f.f=true
   ·rw[AQ hf]
    rw[h1] at hf;exact⟨h1,h2,by simp[h3,hf]⟩
   ·rw[AO hf]
    rw[h1] at hf;exact⟨h1,h2,by simp[h3,hf]⟩
  have hB2:∀t∈B.flatMap (Ao f n ns e).1.ext,t.length=(if c.neg=true then k else k+1):=by
   intro t ht;obtain⟨u,hu,hv⟩:=CT.1 ht;have e1:=Nd.ext_len hv;rw[hc.1] at e1;rw[e1,hB u hu];split<;>rfl
  have ih:=Om f (ns:=(Ao f n ns e).2.1) hg2 (Me hs c) hB2 oY.2;rw[hl] at ih;exact⟨⟨hc.1,hc.2.1,hc.2.2,ih.1⟩,oY.1,ih.2⟩
theorem Good.outs{F:List Ft}:∀ {ss:List Site} {ns:List Nd} {cs:List Sv.Cond} {t:Tok} {b:Sv.Bs},Good F ss t.length ns cs->(∀s∈ss,s.fact<t.length)->(∀c∈cs,∀u∈c.terms,El u)->Bound ss t b->
  (reach ns t).map (List.map (fun g=>g.id))=Ar (F.map (fun g=>(g.id,g.f))) cs b (t.map (fun g=>g.id))
 | _,[],[],t,b,_,_,_,_=>rfl
 | _,[],_::_,_,_,h,_,_,_=>h.elim
 | _,_::_,[],_,_,h,_,_,_=>h.elim
 | ss,n::ns,c::cs,t,b,h,hs,aK,hb=>by
  obtain⟨h1,h2,h3,h4⟩:=h;have hm:=fun f=>Wt (aK c (BF ..)) hb f
  have b6:∀c∈cs,∀u∈c.terms,El u:=fun c hc=>aK c (BG _ hc)
  unfold reach Ar Nd.ext;rw[h1,h2,h3];by_cases hn:c.neg=true
  ·simp only[hn,if_true] at h4⊢
   have e:(F.map (fun g=>(g.id,g.f))).any (fun p=>(Ay p.2 c b).isSome)=(F.filter (fun g=>Ia c g.f)).any (fun g=>Ck (Lnk.of ss 0 c.terms) t g.f):=by
    rw[List.any_map,List.any_filter];congr 1
    funext g;simp[hm]
   rw[e];by_cases ha:(F.filter (fun g=>Ia c g.f)).any (fun g=>Ck (Lnk.of ss 0 c.terms) t g.f)=true
   ·rw[AQ ha,AQ ha];simp
   ·rw[AO ha,AO ha]
    simp only[BI,FV,BM];exact Good.outs h4 hs b6 hb
  ·have fT:c.neg=false:=by simpa using hn
   simp only[fT,BZ,if_false] at h4⊢;rw[GL,IV,JY,IV]
   have:∀(G:List Ft),(G.filter (fun a=>Ck (Lnk.of ss 0 c.terms) t a.f&&Ia c a.f)).flatMap (fun a=>((reach ns (t++[a]))).map (List.map (fun g=>g.id)))=G.flatMap (fun a=>match Ay a.f c b with|none=>[]|some b'=>Ar (F.map (fun g=>(g.id,g.f))) cs b' (t.map (fun g=>g.id)++[a.id])):=by
    intro G
    induction G with
    | nil=>rfl
    | cons a G ih=>
     rw[BI,<-ih,IU];have PH:=hm a.f;cases hx:Ay a.f c b with
     | none=>
      rw[hx] at PH
      have:¬ ((Ck (Lnk.of ss 0 c.terms) t a.f&&Ia c a.f)=true):=by
       rw[JJ,<-PH];simp
      rw[AO this];simp
     | some b'=>
      rw[hx] at PH
      have:(Ck (Lnk.of ss 0 c.terms) t a.f&&Ia c a.f)=true:=by
       rw[JJ,<-PH];rfl
      rw[AQ this,BI];congr 1
      have hl:(t++[a]).length=t.length+1:=by simp
      have hs2:=Me hs c;simp only[fT,BZ,if_false] at hs2;have:=Good.outs (t:=t++[a]) (b:=b') (by rw[hl];exact h4) (by rw[hl];exact hs2) b6 (hb.step hs hx);rw[this];simp
   exact this F
def Tok.has(f:Ft)(t:Tok):Bool:=t.any (fun g=>g.blk==f.blk)
def Nd.less(f:Ft)(n:Nd):Nd:={ n with K:=n.K.filter (fun g=>!(g.blk==f.blk)) }
def Aw(f:Ft)(n:Nd)(ns:List Nd)(e:En):Nd×(List Nd×En):=
 if n.K.any (fun g=>g.blk==f.blk)=true then
  (n.less f,if n.c.neg=true then arr ns e (n.toks.filter (fun t=>Ck n.links t f.f && !(n.less f).K.any (fun g=>Ck n.links t g.f))) else (ns,e))
 else (n,(ns,e))
def B5(f:Ft):List Nd->En->List Nd×En
 | [],e=>([],e)
 | n::ns,e=>((Aw f n (B5 f ns e).1 (B5 f ns e).2).1::(Aw f n (B5 f ns e).1 (B5 f ns e).2).2.1,(Aw f n (B5 f ns e).1 (B5 f ns e).2).2.2)
def Ti(f:Ft)(ns:List Nd)(e:En):List Nd×En:=B5 f (ns.map (Nd.drop (Tok.has f))) (e.drop (Tok.has f))
def Nd.half(f:Ft)(n:Nd)(t:Tok):List Tok:=if n.c.neg=true then n.ext t else (n.less f).ext t
def HInv(f:Ft):List Tok->List Nd->En->Prop
 | B,[],e=>e.toks.Perm B
 | B,n::ns,e=>n.toks.Perm B/\HInv f (B.flatMap (n.half f)) ns e
theorem Li{α β:Type}(q:β->Bool)(g:α->List β)(B:List α):(B.flatMap g).filter q=B.flatMap (fun t=>(g t).filter q):=by
 induction B with
 | nil=>rfl
 | cons t B ih=>rw[BI,BI,DI,ih]
theorem Qh(f:Ft)(n:Nd)(B:List Tok):(B.flatMap n.ext).filter (fun t=>!Tok.has f t)=(B.filter (fun t=>!Tok.has f t)).flatMap (n.half f):=by
 by_cases hn:n.c.neg=true
 ·rw[<-Gy n hn]
  have:n.half f=n.ext:=by funext t;unfold Nd.half;rw[AQ hn]
  rw[this]
 ·have fT:n.c.neg=false:=by simpa using hn
  rw[Li,<-Ha];congr 1
  funext t;unfold Nd.half;rw[AO hn];unfold Nd.ext Nd.less;simp only[fT,BZ,if_false];rw[KC];by_cases ht:Tok.has f t=true
  ·rw[AQ ht]
   simp only[List.map_eq_nil_iff,KS];intro g _;simp only[Function.comp_apply,Tok.has,ES,EY];unfold Tok.has at ht;rw[ht];simp
  ·rw[AO ht]
   have fh:Tok.has f t=false:=by simpa using ht
   congr 1
   rw[GL,GL];congr 1
   funext g;unfold Tok.has at fh;simp only[Function.comp_apply,Tok.has,ES,fh,EM,GH,KR,IP];rw[JJ]
theorem HInv.of(f:Ft):∀ {B:List Tok} {ns:List Nd} {e:En},Inv B ns e->HInv f (B.filter (fun t=>!Tok.has f t)) (ns.map (Nd.drop (Tok.has f))) (e.drop (Tok.has f))
 | B,[],e,h=>JW _ h
 | B,n::ns,e,h=>by
  refine⟨h.1.filter _,?_⟩;have:=HInv.of f h.2;rw[Qh] at this;exact this
theorem Ze(f:Ft)(n:Nd)(hn:n.c.neg=true)(hf:∃g∈n.K,g.blk=f.blk)(hu:∀g∈n.K,g.blk=f.blk->g.f=f.f)(t:Tok) :
  (n.less f).ext t=n.ext t++(if (Ck n.links t f.f && !(n.less f).K.any (fun g=>Ck n.links t g.f))=true then [t] else []):=by
 have ha:n.K.any (fun g=>Ck n.links t g.f)=(Ck n.links t f.f||(n.less f).K.any (fun g=>Ck n.links t g.f)):=by
  rw[ER,Bool.or_eq_true,EB,EB];constructor
  ·rintro⟨g,hg,h⟩
   by_cases e:g.blk=f.blk
   ·left;rw[<-hu g hg e];exact h
   ·right;exact⟨g,BH.2 ⟨hg,by simpa using e⟩,h⟩
  ·rintro(h|⟨g,hg,h⟩)
   ·obtain⟨g,hg,e⟩:=hf
    exact⟨g,hg,by rw[hu g hg e];exact h⟩
   ·exact⟨g,(BH.1 hg).1,h⟩
 have e1:(n.less f).ext t=if (n.less f).K.any (fun g=>Ck n.links t g.f)=true then [] else [t]:=by
  unfold Nd.ext;rw[AQ (by exact hn)];rfl
 rw[e1];unfold Nd.ext;rw[AQ hn,ha];cases h1:Ck n.links t f.f<;>cases h2:(n.less f).K.any (fun g=>Ck n.links t g.f)<;>simp
theorem Wp(f:Ft)(n:Nd)(h:¬ n.K.any (fun g=>g.blk==f.blk)=true):n.less f=n:=by
 unfold Nd.less
 have:n.K.filter (fun g=>!(g.blk==f.blk))=n.K:=by
  rw[GY];intro g hg;simp only[EY,beq_eq_false_iff_ne,ne_eq];intro e;exact h (EB.2 ⟨g,hg,by simpa using e⟩)
 rw[this]
theorem Qe{f:Ft}{n:Nd}{ns:List Nd}{e:En}{B:List Tok}(h1:n.toks.Perm B)(h2:Inv (B.flatMap (n.half f)) ns e)(hu:∀g∈n.K,g.blk=f.blk->g.f=f.f) :
  Inv B ((Aw f n ns e).1::(Aw f n ns e).2.1) (Aw f n ns e).2.2:=by
 unfold Aw;by_cases hk:n.K.any (fun g=>g.blk==f.blk)=true
 ·rw[AQ hk]
  by_cases hn:n.c.neg=true
  ·simp only[hn,if_true]
   refine⟨h1,?_⟩
   have hx:∃g∈n.K,g.blk=f.blk:=by
    obtain⟨g,hg,h⟩:=EB.1 hk;exact⟨g,hg,by simpa using h⟩
   have e1:n.half f=n.ext:=by funext t;unfold Nd.half;rw[AQ hn]
   rw[e1] at h2;refine(Inv.arr _ h2).perm ?_;rw[show (n.less f).ext=fun t=>n.ext t++(if (Ck n.links t f.f && !(n.less f).K.any (fun g=>Ck n.links t g.f))=true then [t] else []) from funext (Ze f n hn hx hu)];refine List.Perm.symm ((D9 _ _ B).trans ?_);rw[Io];simp only[List.map_id'];exact GR _ ((h1.symm).filter _)
  ·have fT:n.c.neg=false:=by simpa using hn
   simp only[fT,BZ,if_false];refine⟨h1,?_⟩;have e1:n.half f=(n.less f).ext:=by funext t;unfold Nd.half;rw[AO hn]
   rw[e1] at h2;exact h2
 ·rw[AO hk]
  refine⟨h1,?_⟩;have e1:n.half f=n.ext:=by funext t;unfold Nd.half;rw[Wp f n hk];simp
  rw[e1] at h2;exact h2
theorem L1{f:Ft}:∀ {B:List Tok} {ns:List Nd} {e:En},HInv f B ns e->(∀n∈ns,∀g∈n.K,g.blk=f.blk->g.f=f.f)->Inv B (B5 f ns e).1 (B5 f ns e).2
 | _,[],_,h,_=>h
 | _,n::_,_,h,hu=>Qe h.1 (L1 h.2 (fun m hm=>hu m (BG _ hm))) (hu n (BF ..))
theorem I4(f:Ft)(n:Nd)(ns:List Nd)(e:En):ns.map (fun n=>(n.c,n.links,n.K))=(Aw f n ns e).2.1.map (fun n=>(n.c,n.links,n.K)):=by
 unfold Aw;split
 ·split
  ·exact Hm _ _ _
  ·rfl
 ·rfl
theorem Ik(f:Ft)(n:Nd)(ns:List Nd)(e:En):(Aw f n ns e).1=n.less f:=by
 unfold Aw;split
 ·rfl
 ·rename_i h;exact(Wp f n h).symm
theorem Kr{F:List Ft}{f:Ft}:∀ {ss:List Site} {k:Nat} {ns:List Nd} {cs:List Sv.Cond} {e:En},Good F ss k ns cs->Good (F.filter (fun g=>!(g.blk==f.blk))) ss k (B5 f ns e).1 cs
 | _,_,[],[],_,h=>h
 | _,_,[],_::_,_,h=>h.elim
 | _,_,_::_,[],_,h=>h.elim
 | ss,k,n::ns,c::cs,e,h=>by
  obtain⟨h1,h2,h3,h4⟩:=h;have ih:=Kr (f:=f) (e:=e) h4;have ih2:=ih.same (I4 f n (B5 f ns e).1 (B5 f ns e).2);refine⟨?_,?_,?_,ih2⟩
  ·rw[Ik];exact h1
  ·rw[Ik];exact h2
  ·rw[Ik]
   show n.K.filter _=_
   rw[h3,GL,GL];congr 1
   funext g;rw[JJ]
theorem Q1q{F:List Ft}{f:Ft}{ss:List Site}{ns:List Nd}{cs:List Sv.Cond}{B:List Tok}{e:En}(hg:Good F ss k ns cs)(hu:∀g∈F,g.blk=f.blk->g.f=f.f)(hi:Inv B ns e)(hB:∀t∈B,Tok.has f t=false) :
  Good (F.filter (fun g=>!(g.blk==f.blk))) ss k (Ti f ns e).1 cs/\Inv B (Ti f ns e).1 (Ti f ns e).2:=by
 have hg2:Good F ss k (ns.map (Nd.drop (Tok.has f))) cs:=hg.same (by simp[Nd.drop,List.map_map,Function.comp_def]);refine⟨Kr hg2,?_⟩;have h:=HInv.of f hi;rw[GY.2 (fun t ht=>by rw[hB t ht];rfl)] at h;refine L1 h ?_
 have:∀ {ss:List Site} {k:Nat} {ns:List Nd} {cs:List Sv.Cond},Good F ss k ns cs->∀n∈ns,∀g∈n.K,g∈F:=by
  intro ss k ns
  induction ns generalizing ss k with
  | nil=>intro cs _ n hn;simp at hn
  | cons m ns ih=>
   intro cs hg n hn g za;cases cs with
   | nil=>exact hg.elim
   | cons c cs=>
    obtain⟨_,_,h3,h4⟩:=hg;rcases CQ.1 hn with rfl|hn
    ·rw[h3] at za;exact(BH.1 za).1
    ·exact ih h4 n hn g za
 exact fun n hn g za=>hu g (this hg2 n hn g za)
end Go.Proofs.YtolhbeekfjnfmaaGreatDoor

import Derived.Test.YtolhbeekfjnfmaaGreatDoorMA
import Derived.Test.YtolhbeekfjnfmaaGreatDoorM10
import Derived.Test.YtolhbeekfjnfmaaGreatDoorM11
import Derived.Deep.AppendLies
set_option maxHeartbeats 8000000
set_option maxRecDepth 100000
namespace Go.Proofs.YtolhbeekfjnfmaaGreatDoor
open Go.RowKit
abbrev DW:=@World.ownsRow.stored
variable {y base g n cap j j2 size W i k:Nat}{rv lv cv fv v v1 v2:Value}{rs:List Sv.Rule}{w w':World}{α:Type}{l:List Int}{row:Option Nat}{m:Int}{e:TypeId}{c:Array Value}{T:Nat->Nat}
theorem Un(f:Sv.Fact)(fa:Option Addr)(fc:Nat)(w:World)(hf:InAt (.slice fa f.vals.length fc) f.vals w)(hl:f.vals.length<=maxLen) :
  Calls Tryz.prog 119 #[.agg #[.int .i64 f.kind,.slice fa f.vals.length fc]] w fun e w'=>e=.returned (.bool (Aw f))/\w.grownBy w' none:=by
 have a7:=AA w (.cells #[.int .i64 f.kind,.slice fa f.vals.length fc] 37) none;have NL:C2 37 w.heap.size (.int .i64 f.kind) (.slice fa f.vals.length fc) (w.alloc (.cells #[.int .i64 f.kind,.slice fa f.vals.length fc] 37)):=AR _ _;unfold maxLen at hl;by_cases h:(decide (f.kind<0)||decide (9<f.kind)||decide (4<f.vals.length))=true
 ·have e:Aw f=false:=by unfold Aw;rw[h];rfl
  rw[e];clear e hf;by_cases h1:f.kind<0
  ·have d1:decide (f.kind<0)=true:=by simpa using h1
   go_enter Tryz.func119,Tryz.ntmps119;go_wp2;go_ret;exact⟨rfl,a7⟩
  ·have d1:decide (f.kind<0)=false:=by simpa using h1
   by_cases h2:9<f.kind
   ·have d2:decide (9<f.kind)=true:=by simpa using h2
    go_enter Tryz.func119,Tryz.ntmps119;go_wp2;go_ret;exact⟨rfl,a7⟩
   ·have d2:decide (9<f.kind)=false:=by simpa using h2
    have h3:4<f.vals.length:=by simpa[h1,h2] using h
    have d3:decide ((4:Int)<(f.vals.length:Int))=true:=by simp;omega
    clear h h1 h2;go_enter Tryz.func119,Tryz.ntmps119;go_wp2;go_ret;exact⟨rfl,a7⟩
 ·have hn:(decide (f.kind<0)||decide (9<f.kind)||decide (4<f.vals.length))=false:=by simpa using h
  have e:Aw f=f.vals.all B2:=by unfold Aw;rw[hn];rfl
  rw[e];rw[DI,DI] at hn;obtain⟨⟨d1,d2⟩,d3⟩:=hn;have h4:f.vals.length<=4:=by simpa using d3
  have d3':decide ((4:Int)<(f.vals.length:Int))=false:=by simp;omega
  obtain⟨R,hR⟩:∃R,f.vals.all B2=R:=⟨_,rfl⟩
  rw[hR];have HR:=Ac hR;have HF:=Ac hf;clear h e d3 hR hf;go_enter Tryz.func119,Tryz.ntmps119;go_wp2;go_loopw [3] (fun x w'=>∃i:Nat,i<=f.vals.length/\x=.int .i64 i/\w.grownBy w' none/\C2 37 w.heap.size (.int .i64 f.kind) (.slice fa f.vals.length fc) w'/\(f.vals.drop i).all B2=R) (fun x _=>f.vals.length-(intOf x).toNat)
  case atStart=>exact⟨0,AG _,rfl,a7,NL,Aa HR⟩
  case round=>
   clear a7 NL HR;obtain⟨i,hi,rfl,hg,hF,hR⟩:=hrel;obtain⟨f0,f1⟩:=hF.c;by_cases hlt:i<f.vals.length
   ·have hd:decide (i<f.vals.length)=true:=by simpa using hlt
    obtain⟨x,hx⟩:∃x,f.vals[i]?=some x:=⟨f.vals[i],AB hlt⟩
    rw[A0 hx,KM] at hR;obtain⟨g2,vh,rfl,x0⟩:=((Aa HF).gr hg).cell hx;clear hx;by_cases hx1:x < -999999999
    ·have dx:decide (x < -999999999)=true:=by simpa using hx1
     have hv:B2 x=false:=by unfold B2;rw[dx];rfl
     rw[hv,DV] at hR;subst hR;clear hv;go_wp2;go_ret;exact⟨rfl,hg⟩
    ·have dx:decide (x < -999999999)=false:=by simpa using hx1
     by_cases hx2:999999999<x
     ·have dy:decide (999999999<x)=true:=by simpa using hx2
      have hv:B2 x=false:=by unfold B2;rw[dx,dy];rfl
      rw[hv,DV] at hR;subst hR;clear hv;go_wp2;go_ret;exact⟨rfl,hg⟩
     ·have dy:decide (999999999<x)=false:=by simpa using hx2
      have hv:B2 x=true:=by unfold B2;rw[dx,dy];rfl
      rw[hv,EH] at hR;have HR:=Ac hR;clear hR hv;go_wp2;go_roundw
      case rel=>exact⟨i+1,by omega,by go_num,hg,hF,Aa HR⟩
      case measure=>simp[intOf];omega
   ·have hd:decide (i<f.vals.length)=false:=by simpa using hlt
    have e:f.vals.drop i=[]:=BD (by omega);rw[e] at hR;have hR2:true=R:=hR;subst hR2;go_wp2;go_ret;exact⟨rfl,hg⟩
theorem Wi(f:Sv.Fact)(fa:Option Addr)(fc:Nat)(w:World)(hf:InAt (.slice fa f.vals.length fc) f.vals w)(hl:f.vals.length<=4) :
  Calls Tryz.prog 120 #[.agg #[.int .i64 f.kind,.slice fa f.vals.length fc]] w fun e w'=>∃ao cap,e=.returned (.agg #[.int .i64 f.kind,.slice ao f.vals.length cap])/\w.grownBy w' none/\IsAt w.heap.size (.slice ao f.vals.length cap) f.vals w':=by
 obtain⟨wA,kD⟩:∃wA,((w.alloc (.cells #[.int .i64 f.kind,.slice fa f.vals.length fc] 37)).alloc (.cells #[.int .i64 0,.slice none 0 0] 37)).alloc (.cells #[.int .i64 f.kind,.slice none 0 0] 37)=wA:=⟨_,rfl⟩
 have a7:w.grownBy wA none:=by rw[<-kD];exact Ab (AA w _ none) (Ab (AA _ _ none) (AA _ _ none))
 have gR:C2 37 (w.heap.size+1) (.int .i64 0) (.slice none 0 0) wA:=by
  rw[<-kD];have:=AR (w.alloc (.cells #[.int .i64 f.kind,.slice fa f.vals.length fc] 37)) (.cells #[.int .i64 0,.slice none 0 0] 37);unfold C2;rw[DF _ _ _ (by simp)];simpa using this
 have ij:C2 37 (w.heap.size+1+1) (.int .i64 f.kind) (.slice none 0 0) wA:=by
  rw[<-kD];have:=AR ((w.alloc (.cells #[.int .i64 f.kind,.slice fa f.vals.length fc] 37)).alloc (.cells #[.int .i64 0,.slice none 0 0] 37)) (.cells #[.int .i64 f.kind,.slice none 0 0] 37);unfold C2;simpa using this
 have kZ:w.heap.size+3=wA.heap.size:=by rw[<-kD];simp
 have uX:=hf.gr a7;have HWA:=Ac kD;clear kD;go_enter Tryz.func120,Tryz.ntmps120
 go_wp2_with (at_builtin;rw[Aa HWA];refine Gv rfl _ _ 35 rfl Tryz.underlying35 Tryz.infoInt rfl rfl (RowAt.nil (w.heap.size+3) _ At) rfl uX (by unfold maxLen;simp;omega) (by simp;omega) (CZ kZ) ?_)
 intro v1 w1 aS hg1;have eb:wA.grownBy w1 none:=hg1;have hB1:=gR.kept eb (by simp);have hB2:=ij.kept eb (by simp);obtain⟨ao,cap,rfl⟩:=aS.slice;obtain⟨b0,b1⟩:=hB1.c;obtain⟨c0,c1⟩:=hB2.c;have bz0:=hB1.fz 0;have bz1:=hB1.fz 1;have cz0:=hB2.fz 0;have cz1:=hB2.fz 1;have bG:=Ab a7 eb;clear HWA hg1 eb gR ij a7;go_wp2;have k1:=Aj w1 (w.heap.size+1+1) 1 (.slice ao f.vals.length cap);have k2:=Du (w1.setCell ⟨w.heap.size+1+1,1,none⟩ (.slice ao f.vals.length cap)) (w.heap.size+1) (.int .i64 f.kind) (.slice ao f.vals.length cap);have hR:=(hB1.kept k1 (by simp)).set2 (.int .i64 f.kind) (.slice ao f.vals.length cap);obtain⟨r0,r1⟩:=hR.c;have hown:=aS.own;have hv2:=((aS.other k1 (fun g hg e=>by have:=hown g hg;simp at e;omega)).other k2 (fun g hg e=>by have:=hown g hg;simp at e;omega)).weak (base':=w.heap.size) (by omega);have hg3:=A8 (A8 bG k1 (by omega)) k2 (by omega);exact BN (v:=.agg #[.int .i64 f.kind,.slice ao f.vals.length cap]) (by simp[results,Tryz.results120,go_sem,r0,r1]) rfl ⟨ao,cap,rfl,hg3,hv2⟩
def Q17(r:Nat ⊕ List Sv.Rule)(w:World)(e:Ending)(w':World):Prop:=
 w.grownBy w' none/\match r with
  | .inl k=>e=.returned (.tuple #[.pointer none,.int .i64 k])
  | .inr rs=>∃y rv,e=.returned (.tuple #[.pointer (some ⟨y,0,none⟩),.int .i64 0])/\w.heap.size<=y/\(∃w1,VRsAt w.heap.size rv rs w1/\w1.heap.size<=y/\w1.grownBy w' none)/\YAt y rv (.slice none 0 0) (.int .i64 0) (.slice none 0 0) rs [] w'
theorem Q3s(s:ByteArray)(w:World)(hm:s.size<=maxLen) :
  Calls Tryz.prog 52 #[.string s] w fun e w'=>Q17 (Bh s.data.toList) w e w':=by
 have hp:=N5 s w hm
 have key:∀e w',Fc w s e w'->w.grownBy w' none/\match Bh s.data.toList with
   | .inl k=>∃n,e=.returned (.tuple #[.slice none 0 0,.int .i64 n,.int .i64 k])/\(k=1\/k=2)
   | .inr rs=>∃u,e=.returned (.tuple #[u,.int .i64 rs.length,.int .i64 0])/\VRsAt w.heap.size u rs w':=by
  rintro e w'⟨hg,h⟩;refine⟨hg,?_⟩;unfold Bh;rw[Ae];by_cases h4:400<s.size
  ·rw[AQ h4] at h⊢
   exact⟨0,h,.inr rfl⟩
  ·rw[AO h4] at h⊢
   cases hr:Bn s.data.toList with
   | inl k=>
    rw[hr] at h;exact⟨k,h,.inl rfl⟩
   | inr rs=>
    rw[hr] at h;simp only at h⊢;cases hx:Ec rs
    ·rw[hx] at h
     simpa using h
    ·rw[hx] at h
     exact⟨0,by simpa using h,.inr rfl⟩
 generalize Bh s.data.toList=R at key⊢;have KEY:=Ac key;clear key;cases R with
 | inl k=>
  go_enter Tryz.func52,Tryz.ntmps52;go_wp2_with fail;refine hp.mono ?_;intro e w1 aN;obtain⟨hg1,n,rfl,hk⟩:=Aa KEY e w1 aN;clear aN KEY hp;have hd:((k:Int) !=0)=true:=by rcases hk with rfl|rfl<;>rfl
  go_wp2
  go_ret2
  exact⟨hg1,rfl⟩
 | inr rs=>
  go_enter Tryz.func52,Tryz.ntmps52;go_wp2_with fail;refine hp.mono ?_;intro e w1 aN;obtain⟨hg1,u,rfl,hu⟩:=Aa KEY e w1 aN;obtain⟨ao,cap,rfl⟩:=hu.slice;clear aN KEY hp;go_wp2
  go_ret2
  have a7:=AA w1 (.cells #[.slice ao rs.length cap,.slice none 0 0,.int .i64 0,.slice none 0 0] 172) none;refine⟨Ab hg1 a7,w1.heap.size,.slice ao rs.length cap,rfl,hg1.size,⟨w1,hu,AW _,a7⟩,AR _ _,?_,RowAt.nil _ _ Gi,by simp⟩;have vr:VRsAt 0 (.slice ao rs.length cap) rs w1:=hu.weak (AG _);exact vr.none a7
theorem C2.al2(w:World)(x y u v:Value)(T T':TypeId):C2 T w.heap.size x y ((w.alloc (.cells #[x,y] T)).alloc (.cells #[u,v] T'))/\C2 T' (w.heap.size+1) u v ((w.alloc (.cells #[x,y] T)).alloc (.cells #[u,v] T')):=by
 constructor
 ·unfold C2;rw[DF _ _ _ (by simp)];exact AR _ _
 ·have:=AR (w.alloc (.cells #[x,y] T)) (.cells #[u,v] T')
  unfold C2;simpa using this
theorem Sn{x y:Int}{a b:List Int}:decide (x::a=y::b)=(decide (x=y)&&decide (a=b)):=by
 by_cases h1:x=y<;>by_cases h2:a=b<;>simp[h1,h2]
theorem Q03(m k:VMt):decide (m.of=k.of)=(decide (m.rule=k.rule)&&decide (m.ids=k.ids)):=by
 unfold VMt.of;by_cases h1:m.rule=k.rule<;>by_cases h2:m.ids=k.ids<;>simp[h1,h2]
theorem Q2n(a b:VMt)(aa ba:Option Addr)(ac bc:Nat)(w:World)(ha:IsAt 0 (.slice aa a.ids.length ac) a.ids w)(hb:IsAt 0 (.slice ba b.ids.length bc) b.ids w) :
  Calls Tryz.prog 122 #[.agg #[.int .i64 a.rule,.slice aa a.ids.length ac],.agg #[.int .i64 b.rule,.slice ba b.ids.length bc]] w fun e w'=>e=.returned (.bool (decide (a.of=b.of)))/\w.grownBy w' none:=by
 rw[Q03];have gM:=ha.le;unfold maxLen at gM;have a7:=Dp w (.cells #[.int .i64 a.rule,.slice aa a.ids.length ac] 52) (.cells #[.int .i64 b.rule,.slice ba b.ids.length bc] 52);obtain⟨hA,hB⟩:=C2.al2 w (.int .i64 a.rule) (.slice aa a.ids.length ac) (.int .i64 b.rule) (.slice ba b.ids.length bc) 52 52;by_cases hr:a.rule=b.rule
 ·have hd:(a.rule !=b.rule)=false:=by simpa using hr
  have e1:decide (a.rule=b.rule)=true:=by simpa using hr
  rw[e1,EH];clear e1 hr;by_cases hl:a.ids.length=b.ids.length
  ·have bm:((a.ids.length:Int) !=(b.ids.length:Int))=false:=by simp;omega
   have HL:=Ac hl;have HA:=Ac ha;have HB:=Ac hb;obtain⟨R,hR⟩:∃R,decide (a.ids=b.ids)=R:=⟨_,rfl⟩
   rw[hR];have HR:=Ac hR;clear hl ha hb hR;go_enter Tryz.func122,Tryz.ntmps122;go_wp2;go_loopw [5] (fun x w'=>∃i:Nat,i<=a.ids.length/\x=.int .i64 i/\w.grownBy w' none/\C2 52 w.heap.size (.int .i64 a.rule) (.slice aa a.ids.length ac) w'/\C2 52 (w.heap.size+1) (.int .i64 b.rule) (.slice ba b.ids.length bc) w'/\decide (a.ids.drop i=b.ids.drop i)=R) (fun x _=>a.ids.length-(intOf x).toNat)
   case atStart=>exact⟨0,AG _,rfl,a7,hA,hB,Aa HR⟩
   case round=>
    clear a7 hA hB HR;obtain⟨i,hi,rfl,hg,hA,hB,hR⟩:=hrel;obtain⟨a0,a1⟩:=hA.c;obtain⟨b0,b1⟩:=hB.c;by_cases hlt:i<a.ids.length
    ·have dF:decide (i<a.ids.length)=true:=by simpa using hlt
     have hL:=Aa HL;have qN:i<b.ids.length:=by omega
     obtain⟨x,hx⟩:∃x,a.ids[i]?=some x:=⟨a.ids[i],AB hlt⟩
     obtain⟨y,hy⟩:∃y,b.ids[i]?=some y:=⟨b.ids[i],AB qN⟩
     rw[A0 hx,A0 hy,Sn] at hR;obtain⟨g,cp,hv,hcs⟩:=((Aa HA).gr hg).cells hx;obtain⟨g2,RM,hv2,dh⟩:=((Aa HB).gr hg).cells hy;simp only[AH,BP] at hv hv2;obtain⟨rfl,rfl⟩:=hv;obtain⟨rfl,rfl⟩:=hv2;have x0:wr.cell? ⟨g,i,none⟩=some (.int .i64 x):=by have:=hcs 0 (by omega);simpa[C4] using this
     have y0:wr.cell? ⟨g2,i,none⟩=some (.int .i64 y):=by have:=dh 0 (by omega);simpa[C4] using this
     clear hcs dh hx hy hL;by_cases eH:x=y
     ·have lG:(x !=y)=false:=by simpa using eH
      have e2:decide (x=y)=true:=by simpa using eH
      rw[e2,EH] at hR;have HR:=Ac hR;clear hR e2 eH;go_wp2;go_quiet (fail);go_wp2;go_roundw
      case rel=>exact⟨i+1,by omega,by go_num,Ab hg (Ad _ _ _),hA,hB,Aa HR⟩
      case measure=>simp[intOf];omega
     ·have lG:(x !=y)=true:=by simpa using eH
      have e2:decide (x=y)=false:=by simpa using eH
      rw[e2,DV] at hR;subst hR;clear e2 eH;go_wp2;go_quiet (fail);go_wp2;go_ret;exact⟨rfl,Ab hg (Ad _ _ _)⟩
    ·have dF:decide (i<a.ids.length)=false:=by simpa using hlt
     have hL:=Aa HL;rw[BD (by omega),BD (by omega)] at hR;have hR2:true=R:=by simpa using hR
     subst hR2;clear hR hL;go_wp2;go_ret;exact⟨rfl,hg⟩
  ·have bm:((a.ids.length:Int) !=(b.ids.length:Int))=true:=by simp;omega
   have e1:decide (a.ids=b.ids)=false:=by
    simp only[decide_eq_false_iff_not];intro h;exact hl (by rw[h])
   rw[e1];clear e1 hl ha hb;go_enter Tryz.func122,Tryz.ntmps122;go_wp2;go_ret;exact⟨rfl,a7⟩
 ·have hd:(a.rule !=b.rule)=true:=by simpa using hr
  have e1:decide (a.rule=b.rule)=false:=by simpa using hr
  rw[e1,DV];clear e1 hr ha hb;go_enter Tryz.func122,Tryz.ntmps122;go_wp2;go_ret;exact⟨rfl,a7⟩
theorem Q07(ms:List VMt)(v:Value)(x:VMt)(xa:Option Addr)(xc:Nat)(w:World)(dD:MsAt 0 v ms w)(hx:IsAt 0 (.slice xa x.ids.length xc) x.ids w) :
  Calls Tryz.prog 86 #[v,.agg #[.int .i64 x.rule,.slice xa x.ids.length xc]] w fun e w'=>e=.returned (.bool (Dz (ms.map VMt.of) x.of))/\w.grownBy w' none:=by
 obtain⟨ao,cap,rfl⟩:=dD.slice;have hle:=dD.1.le;unfold maxLen at hle;have a7:=AA w (.cells #[.int .i64 x.rule,.slice xa x.ids.length xc] 52) none;have hX:C2 52 w.heap.size (.int .i64 x.rule) (.slice xa x.ids.length xc) (w.alloc (.cells #[.int .i64 x.rule,.slice xa x.ids.length xc] 52)):=AR _ _;have HM:=Ac dD;have HX:=Ac hx;obtain⟨R,hR⟩:∃R,Dz (ms.map VMt.of) x.of=R:=⟨_,rfl⟩
 rw[hR];have HR:=Ac hR;clear dD hx hR;go_enter Tryz.func86,Tryz.ntmps86;go_wp2;go_loopw [5] (fun z w'=>∃i:Nat,i<=ms.length/\z=.int .i64 i/\w.grownBy w' none/\C2 52 w.heap.size (.int .i64 x.rule) (.slice xa x.ids.length xc) w'/\Dz ((ms.drop i).map VMt.of) x.of=R) (fun z _=>ms.length-(intOf z).toNat)
 case atStart=>exact⟨0,AG _,rfl,a7,hX,Aa HR⟩
 case round=>
  clear a7 hX HR;obtain⟨i,hi,rfl,hg,hX,hR⟩:=hrel;obtain⟨x0,x1⟩:=hX.c;by_cases hlt:i<ms.length
  ·have dF:decide (i<ms.length)=true:=by simpa using hlt
   obtain⟨m,hm⟩:∃m,ms[i]?=some m:=⟨ms[i],AB hlt⟩
   rw[A0 hm,DR] at hR;obtain⟨g,cp,hv,hcs⟩:=((Aa HM).1.gr hg).cells hm;simp only[AH,BP] at hv;obtain⟨rfl,rfl⟩:=hv;have m0:wr.cell? ⟨g,i*2,none⟩=some (.int .i64 m.rule):=hcs 0 (by omega);have m1:wr.cell? ⟨g,i*2+1,none⟩=some m.v:=hcs 1 (by omega);have gy:=(Aa HM).2 m (AV hm);obtain⟨ma,mc,kq⟩:=gy.slice;rw[kq] at m1 gy;have hS:=fun(W:World) (hW:wr.grownBy W none)=>Q2n m x ma xa mc xc W (gy.gr (Ab hg hW)) ((Aa HX).gr (Ab hg hW))
   have hR2:(decide (m.of=x.of)||Dz ((ms.drop (i+1)).map VMt.of) x.of)=R:=hR;have HR:=Ac hR2;clear hR hR2 hcs hm gy kq;obtain⟨d,hd⟩:∃d,decide (m.of=x.of)=d:=⟨_,rfl⟩
   rw[hd] at hS;have HD:=Ac hd;clear hd;go_wp2_with fail
   go_cut [6] (fun s wx=>s=.bool d/\wr.grownBy wx none)
   case first=>
    go_region_with (go_at_call 122;refine(hS _ (by repeat (first|exact AD _ _|apply Ah))).mono ?_;rintro e w2⟨rfl,hg2⟩)
    all_goals
     go_wp2_with fail;go_meet
     exact⟨rfl,Ab (Ah (AD _ _)) hg2⟩
   case rest=>
    obtain⟨rfl,hg2⟩:=hcut;have bP:=Ab hg hg2;have QX:=hX.kept hg2 (by simp);have gA:=Aa HR;rw[Aa HD] at gA;clear HR HD hS hg2;cases d
    ·rw[EN] at gA
     have HR:=Ac gA;clear gA;go_wp2;go_roundw
     case rel=>exact⟨i+1,by omega,by go_num,bP,QX,Aa HR⟩
     case measure=>simp[intOf];omega
    ·rw[Bool.true_or] at gA
     subst gA;go_wp2;go_ret;exact⟨rfl,bP⟩
  ·have dF:decide (i<ms.length)=false:=by simpa using hlt
   rw[BD (by omega)] at hR;have hR2:false=R:=hR;subst hR2;clear hR;go_wp2;go_ret;exact⟨rfl,hg⟩
theorem YAt.rowOk{L:List VTh}(h:YAt y rv lv cv fv rs L w):RowOk 0 172 (some y) w:=by
 intro g hg;simp only[AE] at hg;subst hg;exact⟨AG _,_,_,h.blk⟩
theorem YAt.fz{L:List VTh}(h:YAt y rv lv cv fv rs L w)(o:Nat):w.frozen? ⟨y,o,none⟩=false:=by
 have:=h.blk;simp[World.frozen?,this]
theorem YAt.set3{L:List VTh}(h:YAt y rv lv cv fv rs L w)(u:Value):YAt y rv lv cv u rs L (w.setCell ⟨y,3,none⟩ u):=by
 have hg:=Aj w y 3 u;refine⟨?_,h.rules.row hg h.rowOk (by decide) (by decide) (by decide),h.facts.row hg h.rowOk (by decide),fun t ht=>⟨(h.vals t ht).1.row hg h.rowOk (by decide),(h.vals t ht).2⟩⟩;rw[BB w y 3 _ _ _ h.blk];rfl
theorem MsAt.ybl{ms:List VMt}(h:MsAt base v ms w){L:List VTh}(hy:YAt y rv lv cv fv rs L w)(hg:w.grownBy w' (some y)):MsAt base v ms w':=
 ⟨h.1.row hg hy.rowOk (by decide),fun m hm=>(h.2 m hm).row hg hy.rowOk (by decide)⟩
theorem MsAt.weak{base base':Nat}{v:Value}{ms:List VMt}{w:World}(h:MsAt base v ms w)(hb:base'<=base):MsAt base' v ms w:=⟨h.1.weak hb,fun m hm=>(h.2 m hm).weak hb⟩
theorem Ik(p:α->Bool)(a:α):[a].filter p=if p a=true then [a] else []:=by
 cases h:p a<;>simp[h]
def Iv(y:Nat)(rv lv cv:Value)(rs:List Sv.Rule)(L:List VTh)(fd:List VMt)(w:World)(e:Ending)(w':World):Prop:=
 e=.returned (.tuple #[])/\w.grownBy w' (some y)/\∃ag ik,YAt y rv lv cv ag rs L w'/\MsAt 0 ag ik w'/\ik.map VMt.of=Bp (Am rs (L.map VTh.of)) (fd.map VMt.of)/\(∀m∈ik,m∈fd)/\∀g,ag.ownBlock=some g->w.heap.size<=g
theorem Oz(y:Nat)(rv lv cv fv:Value)(rs:List Sv.Rule)(L:List VTh)(w:World)(hy:YAt y rv lv cv fv rs L w)(hf:MsAt 0 fv [] w) :
  Calls Tryz.prog 85 #[.pointer (some ⟨y,0,none⟩)] w fun e w'=>Iv y rv lv cv rs L [] w e w':=by
 obtain⟨ao,cap,rfl⟩:=hf.slice;obtain⟨y0,y1,y2,y3⟩:=hy.c;have z3:=hy.fz 3;have HY:=Ac hy;clear hy y0 y1 y2;go_enter Tryz.func85,Tryz.ntmps85;go_wp2;go_end0
 exact⟨rfl,Aj w y 3 _,.slice none 0 0,[],(Aa HY).set3 _,⟨RowAt.nil _ _ Cz,by simp⟩,rfl,by simp,by simp[Value.ownBlock]⟩
theorem Ph(y:Nat)(rv lv cv fv:Value)(rs:List Sv.Rule)(L:List VTh)(fd:List VMt)(w:World)(hy:YAt y rv lv cv fv rs L w)(aK:Sv.RsOk rs)(hL:L.length<=16)(hf:MsAt 0 fv fd w)(hne:0<fd.length)(hfb:fd.length<=1000000) :
  Calls Tryz.prog 85 #[.pointer (some ⟨y,0,none⟩)] w fun e w'=>Iv y rv lv cv rs L fd w e w':=by
 obtain⟨ao,cap,rfl⟩:=hf.slice;obtain⟨y0,y1,y2,y3⟩:=hy.c;have hd:decide ((0:Int)<(fd.length:Int))=true:=by simp;omega
 have hM:=Ie y rv lv cv _ rs L w hy aK hL;have HY:=Ac hy;have HF:=Ac hf;have kM:=Ac hne;clear hy hf y0 y1 y2 aK hne;go_enter Tryz.func85,Tryz.ntmps85;go_wp2_with fail;refine hM.mono ?_;rintro e w1⟨u,ms,rfl,dD,hmap,hg1⟩;obtain⟨aoM,xY,rfl⟩:=dD.slice;have XO:=Ac (dD.weak (AG _));have xm:=Ac hmap;clear hmap hM dD;go_wp2;go_loopw [2,4] (fun x z w'=>∃(i:Nat) (acc:List VMt),i<=fd.length/\z=.int .i64 i/\w1.grownBy w' none/\RowAt 52 2 mtenc w1.heap.size x acc w'/\(∀m∈acc,m∈fd)/\acc.length<=i/\acc.map VMt.of=Bp (ms.map VMt.of) ((fd.take i).map VMt.of)) (fun _ z _=>fd.length-(intOf z).toNat)
 case atStart=>exact⟨0,[],AG _,rfl,AD _ _,RowAt.nil _ _ Cz,by simp,AW _,by simp[Bp]⟩
 case round=>
  obtain⟨i,acc,hi,rfl,hg,aY,dI,ui,hk⟩:=hrel;obtain⟨eQ,bD,rfl⟩:=aY.slice;have hg0:=Ab hg1 hg;have YC:=hg0.cell y3 (by simp);have RU:=Ac dI;have HK:=Ac hk;clear dI hk;by_cases hlt:i<fd.length
  ·have dF:decide (i<fd.length)=true:=by simpa using hlt
   obtain⟨m,hm⟩:∃m,fd[i]?=some m:=⟨fd[i],AB hlt⟩
   have hmm:=AV hm;obtain⟨g,cp,hv,hcs⟩:=((Aa HF).1.gr hg0).cells hm;simp only[AH,BP] at hv;obtain⟨rfl,rfl⟩:=hv;have m0:wr.cell? ⟨g,i*2,none⟩=some (.int .i64 m.rule):=hcs 0 (by omega);have m1:wr.cell? ⟨g,i*2+1,none⟩=some m.v:=hcs 1 (by omega);have gy:=(Aa HF).2 m hmm;obtain⟨ma,mc,kq⟩:=gy.slice;rw[kq] at m1 gy;have hH:=Q07 ms _ m ma mc wr ((Aa XO).gr hg) (gy.gr hg0)
   have hst:Bp (ms.map VMt.of) ((fd.take (i+1)).map VMt.of)=acc.map VMt.of++(if Dz (ms.map VMt.of) m.of=true then [m.of] else []):=by
    rw[Da VMt.of fd i m hm,Aa HK];unfold Bp;rw[DK];congr 1
    exact Ik _ _
   obtain⟨d,bm⟩:∃d,Dz (ms.map VMt.of) m.of=d:=⟨_,rfl⟩
   rw[bm] at hst hH;have HST:=Ac hst;have HMM:=Ac hmm;have vT:=Ac kq;clear hst hcs hm gy bm HK hmm kq;go_wp2_with fail;refine hH.mono ?_;rintro e w2⟨rfl,hg2⟩;have bP:=Ab hg hg2;have cy:=aY.gr hg2;have y32:=hg2.cell YC (by simp);have YP:=hg2.cell m0 (by simp);have m12:=hg2.cell m1 (by simp);clear hH hg hg2 aY YC m0 m1 hg0;cases d
   ·have hst:=Aa HST
    simp only[BZ,if_false,BM] at hst;have XJ:=Ac hst;clear hst HST;go_wp2;go_roundw
    case rel=>exact⟨i+1,acc,by omega,by go_num,bP,cy,Aa RU,by omega,(Aa XJ).symm⟩
    case measure=>simp[intOf];omega
   ·have hst:=Aa HST
    simp only[if_true] at hst;have XJ:=Ac hst;clear hst HST;have a7:=AA w2 (.cells #[.int .i64 m.rule,.slice ma m.ids.length mc] 52) none;have jV:=cy.gr a7;have aG:RowAt 52 2 mtenc 0 _ [m] (w2.alloc (.cells #[.int .i64 m.rule,.slice ma m.ids.length mc] 52)):=(RowAt.lit1 Cz w2 m #[.int .i64 m.rule,.slice ma m.ids.length mc] (by unfold mtenc;rw[Aa vT])).weak (AG _)
    have bw:∀k∈[m],∀c∈mtenc k,c.oneCell'=true:=by
     intro k hk;simp only[AX] at hk;subst hk;exact Gf k (by rw[Aa vT];rfl)
    have er:=Ac bw;clear bw;have fP:=jV.own;have SX:=AU bP.size a7.size
    go_wp2_with (at_builtin;refine Df rfl _ _ 43 rfl Tryz.underlying43 Tryz.infoMatch rfl (by decide) rfl jV rfl aG (Aa er) (by unfold maxLen;simp;omega) (by simp;omega) SX ?_)
    intro v5 w5 b7 aZ;obtain⟨RP,tP,rfl⟩:=b7.slice;have jh:=C0 (Ab bP a7) aZ (fun x hx=>(fP x hx).1);clear aG er jV fP a7 aZ;go_wp2;go_roundw
    case rel=>
     refine⟨i+1,acc++[m],by omega,by go_num,jh,b7,?_,by simp;omega,?_⟩
     ·intro k hk
      rcases AY.1 hk with hk|hk
      ·exact Aa RU k hk
      ·simp only[AX] at hk
       subst hk;exact Aa HMM
     ·rw[CA,Aa XJ];rfl
    case measure=>simp[intOf];omega
  ·have dF:decide (i<fd.length)=false:=by simpa using hlt
   have hall:fd.take i=fd:=CB (by omega);have hk:=Aa HK;rw[hall,Aa xm] at hk;have kN:=Ac hk;clear hk hall HK;have hy':=(Aa HY).gr hg0;have z3:=hy'.fz 3;have TV:MsAt 0 (.slice eQ acc.length bD) acc wr:=⟨aY.weak (AG _),fun m hm=>((Aa HF).2 m (Aa RU m hm)).gr hg0⟩
   have fP:=aY.own;have gV:=hg1.size;go_wp2;go_end0
   have ae:=Aj wr y 3 (.slice eQ acc.length bD);exact⟨rfl,Ab (A3 hg0 _) ae,_,acc,hy'.set3 _,TV.ybl hy' ae,Aa kN,Aa RU,fun g aw=>by have:=(fP g aw).1;omega⟩
theorem Oj(y:Nat)(rv lv cv fv:Value)(rs:List Sv.Rule)(L:List VTh)(fd:List VMt)(w:World)(hy:YAt y rv lv cv fv rs L w)(aK:Sv.RsOk rs)(hL:L.length<=16)(hf:MsAt 0 fv fd w)(hfb:fd.length<=1000000) :
  Calls Tryz.prog 85 #[.pointer (some ⟨y,0,none⟩)] w fun e w'=>Iv y rv lv cv rs L fd w e w':=by
 cases fd with
 | nil=>exact Oz y rv lv cv fv rs L w hy hf
 | cons m fd=>exact Ph y rv lv cv fv rs L (m::fd) w hy aK hL hf (by simp) hfb
structure VFt where
 kind:Int
 v:Value
 vals:List Int
def ftenc(f:VFt):List Value:=[.int .i64 f.kind,f.v]
theorem C5(f:VFt):(ftenc f).length=2:=rfl
theorem Tryz.infoFact:(Tryz.prog.info? 37).map (fun i=>(i.zero,i.size,i.bytes))=some (some (.agg #[.int .i64 0,.slice none 0 0]),2,32):=by kernel_rfl
def InH(t:Nat):Prop:=13<=t/\t%3=1
structure Hand(T:Nat->Nat)(e:TypeId)(v:Value)(xs:List VFt)(w:World):Prop where
 row:TRow T 13 e 2 ftenc v xs w
 els:∀i x,xs[i]?=some x->TRow T (13+3*(i+1)) 3 1 C4 x.v x.vals w/\x.vals.length<=1000000
def VTh.ft(t:VTh):VFt:=⟨t.kind,t.v,t.vals⟩
theorem Tryz.infoThere:(Tryz.prog.info? 176).map (fun i=>(i.zero,i.size,i.bytes))=some (some (.agg #[.int .i64 0,.int .i64 0,.slice none 0 0]),3,40):=by kernel_rfl
def Wk(L:List VTh)(w:World)(e:Ending)(w':World):Prop:=
 ∃a l,e=.returned (.tuple #[a,l])/\IsAt w.heap.size a (L.map VTh.id) w'/\RowAt 37 2 ftenc w.heap.size l (L.map VTh.ft) w'/\w.grownBy w' none
theorem InAt.none(h:InAt v [] w):InAt v [] w':=by
 rcases h with h1|⟨a,cap,h1,h2,_⟩
 ·exact .inl h1
 ·exact .inr ⟨a,cap,h1,h2,by simp⟩
theorem InAt.kept'(h:InAt v l w)(hg:w.grownBy w' row)(hne:l≠[]->∀g,v.ownBlock=some g->row≠some g):InAt v l w':=by
 by_cases hl:l=[]
 ·subst hl;exact h.none
 ·exact h.kept hg (hne hl)
theorem Q0b(y:Nat)(rv lv cv fv:Value)(rs:List Sv.Rule)(L:List VTh)(w:World)(hy:YAt y rv lv cv fv rs L w)(hL:L.length<=16) :
  Calls Tryz.prog 81 #[.pointer (some ⟨y,0,none⟩)] w fun e w'=>Wk L w e w':=by
 obtain⟨y0,y1,y2,y3⟩:=hy.c;obtain⟨pV,gh,rfl⟩:=hy.facts.slice;have HY:=Ac hy;clear hy y0 y2 y3;go_enter Tryz.func81,Tryz.ntmps81;go_wp2;go_loopw [4,5,6] (fun a l z w'=>∃i:Nat,i<=L.length/\z=.int .i64 i/\w.grownBy w' none/\IsAt w.heap.size a ((L.take i).map VTh.id) w'/\RowAt 37 2 ftenc w.heap.size l ((L.take i).map VTh.ft) w') (fun _ _ z _=>L.length-(intOf z).toNat)
 case atStart=>exact⟨0,AG _,rfl,AD _ _,RowAt.nil _ _ At,RowAt.nil _ _ C5⟩
 case round=>
  obtain⟨i,hi,rfl,hg,ha,hl⟩:=hrel;by_cases hlt:i<L.length
  ·have dF:decide (i<L.length)=true:=by simpa using hlt
   obtain⟨t,ht⟩:∃t,L[i]?=some t:=⟨L[i],AB hlt⟩
   have td:=hg.cell y1 (by simp);obtain⟨g,cp,hv,hcs⟩:=((Aa HY).facts.gr hg).cells ht;simp only[AH,BP] at hv;obtain⟨rfl,rfl⟩:=hv;have t0:wr.cell? ⟨g,i*3,none⟩=some (.int .i64 t.id):=hcs 0 (by omega);have t1:wr.cell? ⟨g,i*3+1,none⟩=some (.int .i64 t.kind):=hcs 1 (by omega);have t2:wr.cell? ⟨g,i*3+2,none⟩=some t.v:=hcs 2 (by omega);obtain⟨ma,mc,kq⟩:=((Aa HY).vals t (AV ht)).1.slice;rw[kq] at t2;have e1:=Da VTh.id L i t ht;have e2:=Da VTh.ft L i t ht;generalize hA:(L.take i).map VTh.id=A at *;generalize hB:(L.take i).map VTh.ft=B at *;have hAl:A.length=i:=by rw[<-hA,BA,BL];omega
   have hBl:B.length=i:=by rw[<-hB,BA,BL];omega
   have hA16:A.length<=16:=by omega
   have hB16:B.length<=16:=by omega
   have xt:=Ac e1;have pL:=Ac e2;have vT:=Ac kq;clear e1 e2 hA hB hAl hBl hcs ht kq;obtain⟨eQ,bD,rfl⟩:=ha.slice;obtain⟨aoB,XA,rfl⟩:=hl.slice;have a7:=AA wr (.cells #[.int .i64 t.id] 3) none;have ha2:=ha.gr a7;have hl2:=hl.gr a7;have aG:IsAt 0 _ [t.id] (wr.alloc (.cells #[.int .i64 t.id] 3)):=(RowAt.lit1 At wr t.id #[.int .i64 t.id] rfl).weak (AG _);have hsz:=AU hg.size a7.size;have fP:=ha2.own;have hro:=RowOk.of ha2.2;have xu:=a7.cell td (by simp);have t12:=a7.cell t1 (by simp);have t22:=a7.cell t2 (by simp);have ai:=Ab hg a7;have sQ:y<w.heap.size:=Af (Aa HY).blk
   have hglt:g<w.heap.size:=by
    have:=(Aa HY).facts.own g rfl;exact this.2
   go_wp2_with (at_builtin;refine Df rfl _ _ 35 rfl Tryz.underlying35 Tryz.infoInt rfl (by decide) rfl ha2 rfl aG (fun y _=>B6 y) (by unfold maxLen;simp;omega) (by simp;omega) hsz ?_)
   intro v5 w5 b7 aZ;have jh:=C0 ai aZ (fun x hx=>(fP x hx).1);have aR:=hl2.row aZ hro (by decide);have y15:=aZ.cell xu (fun e=>by have:=fP _ e.symm;simp at this;omega);have t15:=aZ.cell t12 (fun e=>by have:=fP _ e.symm;simp at this;omega);have t25:=aZ.cell t22 (fun e=>by have:=fP _ e.symm;simp at this;omega);obtain⟨iC,aI,rfl⟩:=b7.slice;clear a7 ha2 hl2 aG hsz fP hro xu t12 t22 aZ ha hl ai;have aO:=AA w5 (.cells #[.int .i64 t.kind,.slice ma t.vals.length mc] 37) none;have yF:=aR.gr aO;have zB:=b7.gr aO;have aG:RowAt 37 2 ftenc 0 _ [t.ft] (w5.alloc (.cells #[.int .i64 t.kind,.slice ma t.vals.length mc] 37)):=(RowAt.lit1 C5 w5 t.ft #[.int .i64 t.kind,.slice ma t.vals.length mc] (by unfold ftenc VTh.ft;rw[Aa vT])).weak (AG _)
   have bw:∀k∈[t.ft],∀c∈ftenc k,c.oneCell'=true:=by
    intro k hk;simp only[AX] at hk;subst hk;intro c hc;simp[ftenc,VTh.ft,Aa vT] at hc;rcases hc with rfl|rfl<;>rfl
   have er:=Ac bw;clear bw;have hsz:=AU jh.size aO.size;have fP:=yF.own;have hro:=RowOk.of yF.2
   go_wp2_with (at_builtin;refine Df rfl _ _ 47 rfl Tryz.underlying47 Tryz.infoFact rfl (by decide) rfl yF rfl aG (Aa er) (by unfold maxLen;simp;omega) (by simp;omega) hsz ?_)
   intro v7 w7 iy dm;have UK:=C0 (Ab jh aO) dm (fun x hx=>(fP x hx).1);have ha7:=zB.row dm hro (by decide);obtain⟨ao7,b6,rfl⟩:=iy.slice;rw[AK,BC] at ha7;clear aO aR yF b7 zB aG er hsz fP hro dm jh y15 t15 t25;go_wp2;go_roundw
   case rel=>exact⟨i+1,by omega,by go_num,UK,by rw[Aa xt];exact ha7,by rw[Aa pL];exact iy⟩
   case measure=>simp[intOf];omega
  ·have dF:decide (i<L.length)=false:=by simpa using hlt
   have hall:L.take i=L:=CB (by omega);rw[hall] at ha hl;have td:=hg.cell y1 (by simp);clear hall;obtain⟨eQ,bD,rfl⟩:=ha.slice;obtain⟨aoB,XA,rfl⟩:=hl.slice;go_wp2
   go_ret2
   exact⟨_,_,rfl,ha,hl,hg⟩
theorem YAt.set2{L:List VTh}(h:YAt y rv lv cv fv rs L w)(u:Value):YAt y rv lv u fv rs L (w.setCell ⟨y,2,none⟩ u):=by
 have hg:=Aj w y 2 u;refine⟨?_,h.rules.row hg h.rowOk (by decide) (by decide) (by decide),h.facts.row hg h.rowOk (by decide),fun t ht=>⟨(h.vals t ht).1.row hg h.rowOk (by decide),(h.vals t ht).2⟩⟩;rw[BB w y 2 _ _ _ h.blk];rfl
theorem YAt.push{L:List VTh}{W w5:World}{th:VTh}{nv:Value}(hy:YAt y rv lv cv fv rs L W)(ht:IsAt 0 th.v th.vals W)(di:th.vals.length<=4)
 (hv:RowAt 176 3 Ha 0 nv (L++[th]) w5)(hg:W.grownBy w5 lv.ownBlock) :
  w5.cell? ⟨y,1,none⟩=some lv/\w5.frozen? ⟨y,1,none⟩=false/\W.grownBy w5 lv.ownBlock/\RowOk 0 176 lv.ownBlock W/\RowOk 0 172 (some y) w5/\YAt y rv nv cv fv rs (L++[th]) (w5.setCell ⟨y,1,none⟩ nv):=by
 have hrow:=RowOk.of hy.facts.2
 have hne:some y≠lv.ownBlock:=by
  intro e;obtain⟨_,cur,fz,h⟩:=hrow y e.symm;rw[hy.blk] at h;simp at h
 have hb:w5.heap[y]?=some (.cells #[rv,lv,cv,fv] 172 (0,0)):=by rw[hg.block y (Af hy.blk) hne];exact hy.blk
 have hro:=RowOk.blk hb;have ae:=Aj w5 y 1 nv;refine⟨by simp[World.cell?,hb],by simp[World.frozen?,hb],hg,hrow,hro,?_,?_,?_,?_⟩
 ·rw[BB w5 y 1 _ _ _ hb]
  rfl
 ·exact(hy.rules.row hg hrow (by decide) (by decide) (by decide)).row ae hro (by decide) (by decide) (by decide)
 ·exact hv.row ae hro (by decide)
 ·intro t j0
  rcases AY.1 j0 with h|h
  ·exact⟨(((hy.vals t h).1).row hg hrow (by decide)).row ae hro (by decide),(hy.vals t h).2⟩
  ·simp only[AX] at h
   subst h;exact⟨(ht.row hg hrow (by decide)).row ae hro (by decide),di⟩
def Q4r(y:Nat)(rv lv:Value)(cnt:Int)(rs:List Sv.Rule)(L:List VTh)(fd:List VMt)(f:Sv.Fact)(w:World)(e:Ending)(w':World):Prop:=
 e=.returned (.tuple #[.int .i64 (cnt+1),.int .i64 0])/\GrS (fun k=>k=y\/lv.ownBlock=some k) w w'/\
  ∃fe ag t ik,t.id=cnt+1/\t.kind=f.kind/\t.vals=f.vals/\YAt y rv fe (.int .i64 (cnt+1)) ag rs (L++[t]) w'/\MsAt 0 ag ik w'/\
   ik.map VMt.of=Bp (Am rs ((L++[t]).map VTh.of)) (fd.map VMt.of)/\(∀m∈ik,m∈fd)/\
   (∀g,fe.ownBlock=some g->lv.ownBlock=some g\/w.heap.size<=g)/\(∀g,t.v.ownBlock=some g->w.heap.size<=g)/\(∀g,ag.ownBlock=some g->w.heap.size<=g)
theorem Q2t(y:Nat)(rv lv cv fv:Value)(rs:List Sv.Rule)(L:List VTh)(f:Sv.Fact)(fa:Option Addr)(fc:Nat)(w:World)(hy:YAt y rv lv cv fv rs L w)(hL:L.length<=16)(hf:InAt (.slice fa f.vals.length fc) f.vals w)(hn:Aw f=false\/16<=L.length) :
  Calls Tryz.prog 80 #[.pointer (some ⟨y,0,none⟩),.agg #[.int .i64 f.kind,.slice fa f.vals.length fc]] w fun e w'=>e=.returned (.tuple #[.int .i64 0,.int .i64 (if Aw f=false then 3 else 4)])/\w.grownBy w' none:=by
 have a7:=AA w (.cells #[.int .i64 f.kind,.slice fa f.vals.length fc] 37) none;have hF:C2 37 w.heap.size (.int .i64 f.kind) (.slice fa f.vals.length fc) (w.alloc (.cells #[.int .i64 f.kind,.slice fa f.vals.length fc] 37)):=AR _ _;obtain⟨pV,gh,rfl⟩:=hy.facts.slice;obtain⟨y0,y1,y2,y3⟩:=hy.c;have hV:=Un f fa fc _ (hf.gr a7) hf.le;clear hy y0 y2 y3 hf;obtain⟨d,hd⟩:∃d,Aw f=d:=⟨_,rfl⟩
 rw[hd] at hV hn⊢;clear hd;cases d
 ·clear hn
  go_enter Tryz.func80,Tryz.ntmps80;go_wp2_with fail;refine hV.mono ?_;rintro e w1⟨rfl,hg1⟩;go_wp2
  go_ret2
  exact⟨rfl,Ab a7 hg1⟩
 ·have RJ:16<=L.length:=by simpa using hn
  have bm:decide ((16:Int)<=(L.length:Int))=true:=by simp;omega
  clear hn;go_enter Tryz.func80,Tryz.ntmps80;go_wp2_with fail;refine hV.mono ?_;rintro e w1⟨rfl,hg1⟩;have xu:=(Ab a7 hg1).cell y1 (by simp);go_wp2
  go_ret2
  exact⟨rfl,Ab a7 hg1⟩
theorem Y0(y:Nat)(rv lv fv:Value)(cnt:Int)(hc0:0<=cnt)(hc1:cnt<=4611686018427387904)(rs:List Sv.Rule)(L:List VTh)(fd:List VMt)(f:Sv.Fact)(fa:Option Addr)(fc:Nat)(w:World)(hy:YAt y rv lv (.int .i64 cnt) fv rs L w)(aK:Sv.RsOk rs)(hL:L.length<16)(jk:MsAt 0 fv fd w)(hfb:fd.length<=1000000)(hf:InAt (.slice fa f.vals.length fc) f.vals w)(QN:f.vals≠[]->(Value.slice fa f.vals.length fc).ownBlock≠some y)(hn:Aw f=true) :
  Calls Tryz.prog 80 #[.pointer (some ⟨y,0,none⟩),.agg #[.int .i64 f.kind,.slice fa f.vals.length fc]] w fun e w'=>Q4r y rv lv cnt rs L fd f w e w':=by
 have h4:f.vals.length<=4:=by
  unfold Aw at hn;simp at hn;omega
 have a7:=AA w (.cells #[.int .i64 f.kind,.slice fa f.vals.length fc] 37) none;have hF:C2 37 w.heap.size (.int .i64 f.kind) (.slice fa f.vals.length fc) (w.alloc (.cells #[.int .i64 f.kind,.slice fa f.vals.length fc] 37)):=AR _ _;obtain⟨pV,gh,rfl⟩:=hy.facts.slice;have sQ:y<w.heap.size:=Af hy.blk;have hV:=Un f fa fc _ (hf.gr a7) hf.le;rw[hn] at hV;have bm:decide ((16:Int)<=(L.length:Int))=false:=by simp;omega
 have HY:=Ac hy;have HO:=Ac aK;have XU:=Ac jk;have HF:=Ac hf;have HFY:=Ac QN;clear hy hf QN jk aK hn;go_enter Tryz.func80,Tryz.ntmps80;go_wp2_with fail;refine hV.mono ?_;rintro e w1⟨rfl,hg1⟩;have bG:=Ab a7 hg1;have hy1:=(Aa HY).gr bG;have jL:=hF.kept hg1 (by simp);obtain⟨y0,y1,y2,y3⟩:=hy1.c;have z2:=hy1.fz 2;obtain⟨f0,f1⟩:=jL.c;have f02:(w1.setCell ⟨y,2,none⟩ (.int .i64 (cnt+1))).cell? ⟨w.heap.size,0,none⟩=some (.int .i64 f.kind):=(Aj w1 y 2 _).cell f0 (by simp;omega);have f12:(w1.setCell ⟨y,2,none⟩ (.int .i64 (cnt+1))).cell? ⟨w.heap.size,1,none⟩=some (.slice fa f.vals.length fc):=(Aj w1 y 2 _).cell f1 (by simp;omega);clear hV a7 hF hg1;have ae:=Aj w1 y 2 (.int .i64 (cnt+1));have hy2:=hy1.set2 (.int .i64 (cnt+1));have hf2:=((Aa HF).gr bG).kept' ae (fun hne g hg e=>Aa HFY hne (by rw[hg,<-e]));have LR:=((Aa XU).gr bG).ybl hy1 ae;have bf:GrS (fun k=>k=y\/(Value.slice pV L.length gh).ownBlock=some k) w (w1.setCell ⟨y,2,none⟩ (.int .i64 (cnt+1))):=(GrS.of bG (by simp)).then ae (fun g hg=>by simp at hg;exact .inr (.inl hg.symm))
 have HC:=Wi f fa fc _ hf2 h4;go_wp2_with fail;refine HC.mono ?_;rintro e w3⟨ao,cap,rfl,hg3,hv3⟩;have hy3:=hy2.gr hg3;have UU:=LR.gr hg3;have jv:=bf.then hg3 (by simp)
 have bU:=hv3.own;have TG:=bG.size;clear ae hy2 hf2 LR HC hg3 bG hy1 jL y0 y1 y2 y3 z2 f0 f1 f02 f12 bf;have a7:=AA w3 (.cells #[.int .i64 f.kind,.slice ao f.vals.length cap] 37) none;have PT:=hy3.gr a7;obtain⟨y0,y1,y2,y3⟩:=PT.c;have hN7:C2 37 w3.heap.size (.int .i64 f.kind) (.slice ao f.vals.length cap) (w3.alloc (.cells #[.int .i64 f.kind,.slice ao f.vals.length cap] 37)):=AR _ _;obtain⟨n0,n1⟩:=hN7.c;have y1b:=(PT.gr (AA (w3.alloc (.cells #[.int .i64 f.kind,.slice ao f.vals.length cap] 37)) (.cells #[.int .i64 (cnt+1),.int .i64 f.kind,.slice ao f.vals.length cap] 176) none)).c.2.1;obtain⟨th,gj⟩:∃th:VTh,th=⟨cnt+1,f.kind,.slice ao f.vals.length cap,f.vals⟩:=⟨_,rfl⟩
 have aO:=Ah (AA (w3.alloc (.cells #[.int .i64 f.kind,.slice ao f.vals.length cap] 37)) (.cells #[.int .i64 (cnt+1),.int .i64 f.kind,.slice ao f.vals.length cap] 176) none);have tj:=PT.gr aO;have cP:=(jv.then a7 (by simp)).then aO (by simp)
 have lD:=(UU.gr a7).gr aO;have b7:=(hv3.gr a7).gr aO
 have aG:RowAt 176 3 Ha 0 _ [th] ((w3.alloc (.cells #[.int .i64 f.kind,.slice ao f.vals.length cap] 37)).alloc (.cells #[.int .i64 (cnt+1),.int .i64 f.kind,.slice ao f.vals.length cap] 176)).drew:=
  ((RowAt.lit1 Gi (w3.alloc (.cells #[.int .i64 f.kind,.slice ao f.vals.length cap] 37)) th #[.int .i64 (cnt+1),.int .i64 f.kind,.slice ao f.vals.length cap] (by rw[gj];rfl)).weak (AG _)).heap rfl
 have zH:(w3.alloc (.cells #[.int .i64 f.kind,.slice ao f.vals.length cap] 37)).heap.size=w3.heap.size+1:=by simp
 rw[zH] at aG
 have bw:∀k∈[th],∀c∈Ha k,c.oneCell'=true:=by
  intro k hk;simp only[AX] at hk;subst hk;intro c hc;rw[gj] at hc;simp[Ha] at hc;rcases hc with rfl|rfl|rfl<;>rfl
 have hb1:L.length + [th].length<=maxLen:=by unfold maxLen;simp;omega
 have hb2:(L.length + [th].length)*40<=140737488355328:=by simp;omega
 have er:=Ac bw;have fY:=Ac hb1;have gF:=Ac hb2;have hrow:=RowOk.of tj.facts.2;have YU:y≠w3.heap.size:=by have:=jv.size;omega
 have yY:=Ac gj;clear bw hb1 hb2 zH gj;obtain⟨W5,gP⟩:∃W5,((w3.alloc (.cells #[.int .i64 f.kind,.slice ao f.vals.length cap] 37)).alloc (.cells #[.int .i64 (cnt+1),.int .i64 f.kind,.slice ao f.vals.length cap] 176)).drew=W5:=⟨_,rfl⟩
 rw[gP] at tj cP lD b7 aG hrow;have XH:=Ac gP;clear gP;have y9:IsAt 0 th.v th.vals W5:=by rw[Aa yY];exact b7.weak (AG _)
 have di:th.vals.length<=4:=by rw[Aa yY];exact h4
 have lO:∀g5 aI w5,RowAt 176 3 Ha 0 (.slice (some ⟨g5,0,none⟩) (L++[th]).length aI) (L++[th]) w5->W5.grownBy w5 (Value.slice pV L.length gh).ownBlock->((Value.slice pV L.length gh).ownBlock=some g5\/g5=W5.heap.size)->
   w5.cell? ⟨y,1,none⟩=some (.slice pV L.length gh)/\w5.frozen? ⟨y,1,none⟩=false/\
   (∃fe,(YAt y rv fe (.int .i64 (cnt+1)) fv rs (L++[th]) (w5.setCell ⟨y,1,none⟩ (.slice (some ⟨g5,0,none⟩) (L.length+1) aI))/\
    GrS (fun k=>k=y\/(Value.slice pV L.length gh).ownBlock=some k) w (w5.setCell ⟨y,1,none⟩ (.slice (some ⟨g5,0,none⟩) (L.length+1) aI))/\MsAt 0 fv fd (w5.setCell ⟨y,1,none⟩ (.slice (some ⟨g5,0,none⟩) (L.length+1) aI))/\
    ∀g,fe.ownBlock=some g->(Value.slice pV L.length gh).ownBlock=some g\/w.heap.size<=g)):=by
  intro g5 aI w5 hv hg hl;rw[AK,BC] at hv;obtain⟨k1,k2,k3,k4,k5,k6⟩:=tj.push y9 di hv hg;have ae:=Aj w5 y 1 (.slice (some ⟨g5,0,none⟩) (L.length+1) aI);refine⟨k1,k2,_,k6,(cP.then hg (fun g aw=>.inr (.inr aw))).then ae (fun g aw=>by simp at aw;exact .inr (.inl aw.symm)),?_,?_⟩
  ·exact⟨(lD.1.row hg k4 (by decide)).row ae k5 (by decide),fun m hm=>((lD.2 m hm).row hg k4 (by decide)).row ae k5 (by decide)⟩
  ·intro g aw
   simp only[Value.ownBlock,AE] at aw;subst aw;rcases hl with hl|hl
   ·exact .inl hl
   ·right
    have:=cP.size;omega
 have HKEY:=Ac lO;have fW:=Ac aG;have HY5:=Ac tj;clear lO aG tj cP lD b7 hrow y9 di aO;go_wp2_with fail
 go_cut [] (fun wx=>∃fe,(YAt y rv fe (.int .i64 (cnt+1)) fv rs (L++[th]) wx/\GrS (fun k=>k=y\/(Value.slice pV L.length gh).ownBlock=some k) w wx/\MsAt 0 fv fd wx/\∀g,fe.ownBlock=some g->(Value.slice pV L.length gh).ownBlock=some g\/w.heap.size<=g))
 case first=>
  go_region_law (rw[Aa XH];refine Nj rfl _ _ 170 rfl Tryz.underlying170 Tryz.infoThere rfl (by decide) (by simp[Act.eval]) (Aa HY5).facts (by simp[Act.eval]) (Aa fW) (by simp) (Aa er) (Aa fY) (Aa gF) (AG _) ?_;intro g5 aI w5 b7 aZ aR;obtain⟨k1,k2,k3⟩:=Aa HKEY g5 aI w5 b7 aZ aR;have K3:=Ac k3;clear k3)
  all_goals
   go_wp2_with fail;go_meet
   exact Aa K3
 case rest=>
  obtain⟨fe,sR,eE,UT,TW⟩:=hcut;have ju:(L++[th]).length<=16:=by simp;omega
  have hV:=Oj y rv fe _ fv rs (L++[th]) fd wc sR (Aa HO) ju UT hfb;have QA:=eE.size;have hs1:w.heap.size<=w1.heap.size:=TG;clear ju y0 y1 y1b y2 y3 n0 n1 hN7 PT a7;go_wp2_with fail;refine hV.mono ?_;rintro e w7⟨rfl,dm,ag,ik,yt,UR,hmap,dI,hnew⟩;obtain⟨y0,y1,y2,y3⟩:=yt.c;have tW:=Ac hmap;have XI:=Ac dI;have cX:=Ac hnew;clear hmap dI hnew hV;go_wp2
  go_ret2
  refine⟨rfl,eE.then dm (fun g hg=>by simp at hg;exact .inr (.inl hg.symm)),fe,ag,th,ik,by rw[Aa yY],by rw[Aa yY],by rw[Aa yY],yt,UR,Aa tW,Aa XI,TW,?_,fun g hg=>AU QA (Aa cX g hg)⟩;rw[Aa yY];intro g hg;have h1:=(bU g hg).1;have h2:w1.heap.size=(w1.setCell ⟨y,2,none⟩ (.int .i64 (cnt+1))).heap.size:=by simp[World.setCell]
  omega
theorem Qw(a b:List Int)(u v:Value)(w:World)(ha:IsAt 0 u a w)(hb:IsAt 0 v b w) :
  Calls Tryz.prog 82 #[u,v] w fun e w'=>e=.returned (.bool (decide (a=b)))/\w.grownBy w' none:=by
 obtain⟨aa,ac,rfl⟩:=ha.slice;obtain⟨ba,bc,rfl⟩:=hb.slice;have gM:=ha.le;unfold maxLen at gM;by_cases hl:a.length=b.length
 ·have bm:((a.length:Int) !=(b.length:Int))=false:=by simp;omega
  have HL:=Ac hl;have HA:=Ac ha;have HB:=Ac hb;obtain⟨R,hR⟩:∃R,decide (a=b)=R:=⟨_,rfl⟩
  rw[hR];have HR:=Ac hR;clear hl ha hb hR;go_enter Tryz.func82,Tryz.ntmps82;go_wp2;go_loopw [5] (fun x w'=>∃i:Nat,i<=a.length/\x=.int .i64 i/\w.grownBy w' none/\decide (a.drop i=b.drop i)=R) (fun x _=>a.length-(intOf x).toNat)
  case atStart=>exact⟨0,AG _,rfl,AD _ _,Aa HR⟩
  case round=>
   clear HR;obtain⟨i,hi,rfl,hg,hR⟩:=hrel;by_cases hlt:i<a.length
   ·have dF:decide (i<a.length)=true:=by simpa using hlt
    have hL:=Aa HL;have qN:i<b.length:=by omega
    obtain⟨x,hx⟩:∃x,a[i]?=some x:=⟨a[i],AB hlt⟩
    obtain⟨y,hy⟩:∃y,b[i]?=some y:=⟨b[i],AB qN⟩
    rw[A0 hx,A0 hy,Sn] at hR;obtain⟨g,cp,hv,hcs⟩:=((Aa HA).gr hg).cells hx;obtain⟨g2,RM,hv2,dh⟩:=((Aa HB).gr hg).cells hy;simp only[AH,BP] at hv hv2;obtain⟨rfl,rfl⟩:=hv;obtain⟨rfl,rfl⟩:=hv2;have x0:wr.cell? ⟨g,i,none⟩=some (.int .i64 x):=by have:=hcs 0 (by omega);simpa[C4] using this
    have y0:wr.cell? ⟨g2,i,none⟩=some (.int .i64 y):=by have:=dh 0 (by omega);simpa[C4] using this
    clear hcs dh hx hy hL;by_cases eH:x=y
    ·have lG:(x !=y)=false:=by simpa using eH
     have e2:decide (x=y)=true:=by simpa using eH
     rw[e2,EH] at hR;have HR:=Ac hR;clear hR e2 eH;go_wp2;go_quiet (fail);go_wp2;go_roundw
     case rel=>exact⟨i+1,by omega,by go_num,Ab hg (Ad _ _ _),Aa HR⟩
     case measure=>simp[intOf];omega
    ·have lG:(x !=y)=true:=by simpa using eH
     have e2:decide (x=y)=false:=by simpa using eH
     rw[e2,DV] at hR;subst hR;clear e2 eH;go_wp2;go_quiet (fail);go_wp2;go_ret;exact⟨rfl,Ab hg (Ad _ _ _)⟩
   ·have dF:decide (i<a.length)=false:=by simpa using hlt
    have hL:=Aa HL;rw[BD (by omega),BD (by omega)] at hR;have hR2:true=R:=by simpa using hR
    subst hR2;clear hR hL;go_wp2;go_ret;exact⟨rfl,hg⟩
 ·have bm:((a.length:Int) !=(b.length:Int))=true:=by simp;omega
  have e1:decide (a=b)=false:=by
   simp only[decide_eq_false_iff_not];intro h;exact hl (by rw[h])
  rw[e1];clear e1 hl ha hb;go_enter Tryz.func82,Tryz.ntmps82;go_wp2;go_ret;exact⟨rfl,AD _ _⟩
theorem Up{x y:Int×List Int}{a b:List (Int×List Int)}:decide (x::a=y::b)=(decide (x=y)&&decide (a=b)):=by
 by_cases h1:x=y<;>by_cases h2:a=b<;>simp[h1,h2]
theorem Xl(a b:List VMt)(u v:Value)(w:World)(ha:MsAt 0 u a w)(hb:MsAt 0 v b w) :
  Calls Tryz.prog 57 #[u,v] w fun e w'=>e=.returned (.bool (decide (a.map VMt.of=b.map VMt.of)))/\w.grownBy w' none:=by
 obtain⟨aa,ac,rfl⟩:=ha.slice;obtain⟨ba,bc,rfl⟩:=hb.slice;have gM:=ha.1.le;unfold maxLen at gM;by_cases hl:a.length=b.length
 ·have bm:((a.length:Int) !=(b.length:Int))=false:=by simp;omega
  have HL:=Ac hl;have HA:=Ac ha;have HB:=Ac hb;obtain⟨R,hR⟩:∃R,decide (a.map VMt.of=b.map VMt.of)=R:=⟨_,rfl⟩
  rw[hR];have HR:=Ac hR;clear hl ha hb hR;go_enter Tryz.func57,Tryz.ntmps57;go_wp2;go_loopw [5] (fun x w'=>∃i:Nat,i<=a.length/\x=.int .i64 i/\w.grownBy w' none/\decide ((a.drop i).map VMt.of=(b.drop i).map VMt.of)=R) (fun x _=>a.length-(intOf x).toNat)
  case atStart=>exact⟨0,AG _,rfl,AD _ _,Aa HR⟩
  case round=>
   clear HR;obtain⟨i,hi,rfl,hg,hR⟩:=hrel;by_cases hlt:i<a.length
   ·have dF:decide (i<a.length)=true:=by simpa using hlt
    have hL:=Aa HL;have qN:i<b.length:=by omega
    obtain⟨x,hx⟩:∃x,a[i]?=some x:=⟨a[i],AB hlt⟩
    obtain⟨y,hy⟩:∃y,b[i]?=some y:=⟨b[i],AB qN⟩
    rw[A0 hx,A0 hy,DR,DR,Up,Q03] at hR;obtain⟨g,cp,hv,hcs⟩:=((Aa HA).1.gr hg).cells hx;obtain⟨g2,RM,hv2,dh⟩:=((Aa HB).1.gr hg).cells hy;simp only[AH,BP] at hv hv2;obtain⟨rfl,rfl⟩:=hv;obtain⟨rfl,rfl⟩:=hv2;have x0:wr.cell? ⟨g,i*2,none⟩=some (.int .i64 x.rule):=hcs 0 (by omega);have x1:wr.cell? ⟨g,i*2+1,none⟩=some x.v:=hcs 1 (by omega);have y0:wr.cell? ⟨g2,i*2,none⟩=some (.int .i64 y.rule):=dh 0 (by omega);have y1:wr.cell? ⟨g2,i*2+1,none⟩=some y.v:=dh 1 (by omega);have SQ:=(Aa HA).2 x (AV hx);have SN:=(Aa HB).2 y (AV hy);have hS:=fun(W:World) (hW:wr.grownBy W none)=>Qw x.ids y.ids x.v y.v W (SQ.gr (Ab hg hW)) (SN.gr (Ab hg hW))
    obtain⟨xa,xc,sS⟩:=SQ.slice;obtain⟨ya,yc,SL⟩:=SN.slice;rw[sS] at x1;rw[SL] at y1;rw[sS,SL] at hS;obtain⟨d,hd⟩:∃d,decide (x.ids=y.ids)=d:=⟨_,rfl⟩
    rw[hd] at hR hS;have HR:=Ac hR;clear hR hd hcs dh hx hy hL SQ SN sS SL;go_wp2_with fail
    go_cut [6] (fun s wx=>s=.bool d/\wr.grownBy wx none)
    case first=>
     go_region_with (go_at_call 82;refine(hS _ (by repeat (first|exact AD _ _|apply Ah))).mono ?_;rintro e w2⟨rfl,hg2⟩)
     all_goals
      go_wp2_with fail;go_meet
      exact⟨rfl,Ab (Ah (AD _ _)) hg2⟩
    case rest=>
     obtain⟨rfl,hg2⟩:=hcut;have bP:=Ab hg hg2;have yi:=hg2.cell x0 (by simp);have y02:=hg2.cell y0 (by simp);clear hS hg2 x0 x1 y0 y1;have gA:=Aa HR;clear HR;cases d
     ·rw[KH,DV] at gA
      subst gA;go_wp2;go_quiet (fail);go_wp2;go_ret;exact⟨rfl,Ab bP (Ad _ _ _)⟩
     ·rw[KL] at gA
      by_cases eH:x.rule=y.rule
      ·have lG:(x.rule !=y.rule)=false:=by simpa using eH
       have e2:decide (x.rule=y.rule)=true:=by simpa using eH
       rw[e2,EH] at gA;have HR:=Ac gA;clear gA e2 eH;go_wp2;go_quiet (fail);go_wp2;go_roundw
       case rel=>exact⟨i+1,by omega,by go_num,Ab bP (Ad _ _ _),Aa HR⟩
       case measure=>simp[intOf];omega
      ·have lG:(x.rule !=y.rule)=true:=by simpa using eH
       have e2:decide (x.rule=y.rule)=false:=by simpa using eH
       rw[e2,DV] at gA;subst gA;clear e2 eH;go_wp2;go_quiet (fail);go_wp2;go_ret;exact⟨rfl,Ab bP (Ad _ _ _)⟩
   ·have dF:decide (i<a.length)=false:=by simpa using hlt
    have hL:=Aa HL;rw[BD (by omega),BD (by omega)] at hR;have hR2:true=R:=by simpa using hR
    subst hR2;clear hR hL;go_wp2;go_ret;exact⟨rfl,hg⟩
 ·have bm:((a.length:Int) !=(b.length:Int))=true:=by simp;omega
  have e1:decide (a.map VMt.of=b.map VMt.of)=false:=by
   simp only[decide_eq_false_iff_not];intro h;have:=BJ List.length h;simp only[BA] at this;exact hl this
  rw[e1];clear e1 hl ha hb;go_enter Tryz.func57,Tryz.ntmps57;go_wp2;go_ret;exact⟨rfl,AD _ _⟩
theorem Jg(n:Nat)(m:Int)(j:Nat):List.replicate n m++List.replicate j m=List.replicate (n+j) m:=by rw[JW]
theorem Xu(m:Int)(l:List Int)(i:Nat)(h:i<l.length):(List.replicate i m++l.drop i).set i m=List.replicate (i+1) m++l.drop (i+1):=by
 have e:l.drop i=l[i]::l.drop (i+1):=CM h;rw[e,GQ _ _ (by simp)];simp[JH];rw[e];rfl
theorem Q0l(l:List Int)(i:Nat)(x:Int):(l.set i x).flatMap C4=(l.flatMap C4).set i (.int .i64 x):=by
 induction l generalizing i with
 | nil=>simp
 | cons a l ih=>
  cases i with
  | zero=>simp[C4]
  | succ i=>simp[C4] at ih⊢;exact ih i
theorem IsAt.stored(h:IsAt base (.slice (some ⟨g,0,none⟩) n cap) l w)(i:Nat)(x:Int):IsAt base (.slice (some ⟨g,0,none⟩) n cap) (l.set i x) (w.setCell ⟨g,i,none⟩ (.int .i64 x)):=by
 have hn:=h.len;subst hn;have h1:=(DW h.2 i (.int .i64 x)).1;refine⟨h.1,?_⟩;rw[FN,Q0l];exact h1
def Kin(v v1:Value)(n j:Nat):Prop:=
 (∃g cap,v=.slice (some ⟨g,0,none⟩) n cap/\v1=.slice (some ⟨g,0,none⟩) (n+j) cap)\/(∀g,v1.ownBlock=some g->v.ownBlock≠some g)
theorem Longer.kin(h:Longer v v1 n j w w')(hv:∀g,v.ownBlock=some g->g<w.heap.size):Kin v v1 n j:=by
 rcases h with ⟨g,cap,h1,h2,_⟩|⟨_,g,cap,h1,h2⟩
 ·exact .inl ⟨g,cap,h1,h2⟩
 ·refine .inr (fun g' bJ e=>?_)
  rw[h1] at bJ;simp only[Value.ownBlock,AE] at bJ;have:=hv g' e;omega
theorem Kin.keep(hk:Kin v v1 n j)(h1:IsAt 0 v1 (List.replicate (n+j) m) w)(h2:IsAt 0 v2 (List.replicate (n+j2) m) w')(hl:Longer v v2 n j2 w w')(hj:j<=j2):IsAt 0 v1 (List.replicate (n+j) m) w':=by
 rcases hl with ⟨g,cap,e1,e2,hg⟩|⟨hg,_⟩
 ·rcases hk with ⟨g',cap',e3,e4⟩|hne
  ·rw[e1] at e3
   simp only[AH,AE,BK,BX,BP] at e3;obtain⟨rfl,rfl⟩:=e3;rw[e2] at h2;have e5:List.replicate (n+j2) m=List.replicate (n+j) m++List.replicate (j2-j) m:=by rw[Jg];congr 1;omega
   rw[e5] at h2;have h3:=h2.prefix;rw[BO] at h3;rw[e4];exact h3
  ·refine h1.other hg (fun g' bJ e=>?_)
   have:=hne g' bJ;rw[e1] at this;exact this (by rw[<-e];rfl)
 ·exact h1.gr hg
theorem Mz(v:Value)(n:Nat)(h:IsAt 0 v (List.replicate n m) w):Kin v v n 0:=by
 rcases h.2.2 with ⟨h1,_⟩|⟨g,cap,cur,h1,_⟩
 ·right
  intro g hg;rw[h1] at hg;simp[Value.ownBlock] at hg
 ·left
  rw[BO] at h1;exact⟨g,cap,h1,h1⟩
theorem Longer.keepRow{enc:α->List Value}{x:Value}{l:List α}{v':Value}(hl:Longer v v' n j w w')(h:RowAt e size enc base x l w)(hne:∀g,x.ownBlock=some g->v.ownBlock≠some g):RowAt e size enc base x l w':=by
 rcases hl with ⟨g,cap,e1,_,hg⟩|⟨hg,_⟩
 ·exact h.other hg (fun g' bJ e=>hne g' bJ (by rw[e1];exact e))
 ·exact h.gr hg
def WBlk(W:Nat)(c:Array Value)(w:World):Prop:=w.heap[W]?=some (.cells c 73 (0,0))
def NumsAt(T:Nat->Nat)(uv k0:Value)(us:List (Value×Int))(w:World):Prop:=
 TRow T 3 35 1 (fun p:Value×Int=>[p.1]) uv us w/\TRow T 6 3 1 C4 k0 (us.map Prod.snd) w/\∀p∈us,∃n,TRow T 10 3 1 C4 p.1 (List.replicate n p.2) w
theorem WBlk.cell{W:Nat}{c:Array Value}{w:World}(h:WBlk W c w)(k:Nat):w.cell? ⟨W,k,none⟩=c[k]?:=by
 unfold WBlk at h;simp[World.cell?,h]
theorem WBlk.fz(h:WBlk W c w)(k:Nat):w.frozen? ⟨W,k,none⟩=false:=by
 unfold WBlk at h;simp[World.frozen?,h]
theorem WBlk.set(h:WBlk W c w)(k:Nat)(v:Value):WBlk W (c.setIfInBounds k v) (w.setCell ⟨W,k,none⟩ v):=by
 unfold WBlk at h⊢;exact BB w W k _ _ _ h
theorem WBlk.gr(h:WBlk W c w)(hg:w.grownBy w' row)(hr:row≠some W):WBlk W c w':=by
 unfold WBlk at h⊢;rw[hg.block W (Af h) (fun e=>hr e.symm)];exact h
theorem WBlk.grs{S:Nat->Prop}(h:WBlk W c w)(hg:GrS S w w')(hr:¬ S W):WBlk W c w':=hg.blk h hr
theorem Tryz.infoSInt:(Tryz.prog.info? 35).map (fun i=>(i.zero,i.size,i.bytes))=some (some (.slice none 0 0),1,24):=by kernel_rfl
theorem RowAt.litn{enc:α->List Value}(hsz:∀a,(enc a).length=size)(w:World)(l:List α)(cs:Array Value)(hc:cs.toList=l.flatMap enc)(hl:l.length<=maxLen) :
  RowAt e size enc w.heap.size (.slice (some ⟨w.heap.size,0,none⟩) l.length l.length) l (w.alloc (.cells cs e)):=by
 have hlen:∀(k:List α),(k.flatMap enc).length=k.length*size:=by
  intro k
  induction k with
  | nil=>simp
  | cons a k ih=>rw[BI,AK,hsz,ih,AP,GZ];omega
 refine⟨hsz,?_⟩;have h:=IL (base:=w.heap.size) (e:=e) (size:=size) w cs l.length (AW _) hl (by rw[<-Array.length_toList,hc,hlen]);rw[hc] at h;exact h
def Jk(T:Nat->Nat)(t0 W:Nat)(nv fv mv k1 k2 lv:Value)(us:List (Value×Int))(w:World)(e:Ending)(w':World):Prop:=
 e=.returned (.tuple #[])/\∃T' kA kB jN,WBlk W #[nv,kA,fv,mv,kB,k1,k2,lv] w'/\NumsAt T' kA kB jN w'/\jN.length=us.length+4/\
  GrS (fun k=>T k=1\/T k=3\/T k=6\/T k=t0) w w'/\∀k,k<w.heap.size->T k≠t0->T' k=T k
theorem Q5(T:Nat->Nat)(t0 W:Nat)(nv uv fv mv k0 k1 k2 lv:Value)(us:List (Value×Int))(v:Value)(l:List Int)(w:World)
 (hW:WBlk W #[nv,uv,fv,mv,k0,k1,k2,lv] w)(sH:T W=1)(hN:NumsAt T uv k0 us w)(hv:TRow T t0 3 1 C4 v l w)(o9:11<=t0)(gi:us.length<=4398046511104)(ky:l.length<=1000000) :
  Calls Tryz.prog 61 #[.pointer (some ⟨W,0,none⟩),v] w fun e w'=>Jk T t0 W nv fv mv k1 k2 lv us w e w':=by
 obtain⟨bE,aP,rfl⟩:=hv.1.slice;obtain⟨bB,bq,fD⟩:=hN;obtain⟨il,cO,hk0⟩:=bq.1.slice;rw[BA] at hk0;have c4:w.cell? ⟨W,4,none⟩=some (.slice il us.length cO):=by rw[hW.cell 4,hk0];rfl
 obtain⟨m,hm⟩:∃m:Int,m=-1-(us.length:Int):=⟨_,rfl⟩
 have hm1:-4398046511106<=m:=by omega
 have zl:m<=-1:=by omega
 have ku:=hv.1.own;have HV:=Ac hv;have fJ:=Ac bB;have fH:=Ac bq;have HN3:=Ac fD;have HW:=Ac hW;have PA:=Ac hk0;have HM:=Ac hm;have lq:=Ac ku;clear ku hv bB bq fD hW hk0 hm;go_enter Tryz.func61,Tryz.ntmps61;go_wp2;rw[<-Aa HM];have yX:=Ac gi;have HM1:=Ac hm1;have HM2:=Ac zl;clear gi hm1 zl c4;go_loopw [5] (fun x w'=>∃i:Nat,i<=l.length/\x=.int .i64 i/\GrS (fun k=>T k=t0) w w'/\IsAt 0 (.slice bE l.length aP) (List.replicate i m++l.drop i) w') (fun x _=>l.length-(intOf x).toNat)
 case atStart=>exact⟨0,AG _,rfl,GrS.refl _ _,by simpa using(Aa HV).1⟩
 case round=>
  obtain⟨i,hi,rfl,hG,hR⟩:=hrel;by_cases hlt:i<l.length
  ·have dF:decide (i<l.length)=true:=by simpa using hlt
   obtain⟨x,hx⟩:∃x,(List.replicate i m++l.drop i)[i]?=some x:=⟨_,AB (by simp;omega)⟩
   obtain⟨g,cp,et,hcs⟩:=hR.cells hx;simp only[AH] at et;obtain⟨rfl,hzz,rfl⟩:=et;clear hzz;have x0:wr.cell? ⟨g,i,none⟩=some (.int .i64 x):=by have:=hcs 0 (by omega);simpa[C4] using this
   have z0:=hR.fz i;have uw:T g=t0:=(Aa HV).2 g rfl;have hR2:=hR.stored i m;rw[Xu m l i hlt] at hR2;have bf:=hG.then (Aj wr g i (.int .i64 m)) (fun k hk=>by simp at hk;subst hk;exact .inr uw)
   clear hcs hx hR hG uw;have cR:=Ac hR2;have tY:=Ac bf;clear hR2 bf;go_wp2;go_roundw
   case rel=>exact⟨i+1,by omega,by go_num,Aa tY,Aa cR⟩
   case measure=>simp[intOf];omega
  ·have dF:decide (i<l.length)=false:=by simpa using hlt
   have e1:List.replicate i m++l.drop i=List.replicate l.length m:=by
    rw[BD (by omega),BM];congr 1
    omega
   rw[e1] at hR;clear e1 hlt hi;generalize kj:l.length=n at *;have a7:=AA wr (.cells #[.int .i64 m] 3) none;have hs1:IsAt 0 (.slice (some ⟨wr.heap.size,0,none⟩) 1 1) (List.replicate 1 m) (wr.alloc (.cells #[.int .i64 m] 3)):=(RowAt.litn At wr (List.replicate 1 m) #[.int .i64 m] rfl (by simp[maxLen])).weak (AG _);have ie:=hR.gr a7
   go_wp2_with (at_builtin;refine Ca rfl _ _ 35 rfl Tryz.underlying35 Tryz.infoInt rfl (by decide) rfl ie rfl hs1 (by simp) (fun y _=>B6 y) (by unfold maxLen;simp;omega) (by simp;omega) ?_)
   intro v1 w1 aS ea;obtain⟨g1,aX,rfl⟩:=ea.form;have fB:IsAt 0 (.slice (some ⟨g1,0,none⟩) (n+1) aX) (List.replicate (n+1) m) w1:=by have:=aS;rw[<-Jg n m 1];exact this
   have eN:∀g,(Value.slice bE n aP).ownBlock=some g->g<(wr.alloc (.cells #[.int .i64 m] 3)).heap.size:=fun g hg=>AZ (Aa lq g hg).2 (AU hG.size a7.size)
   have gO:=ea.kin eN;have hR1:IsAt 0 (.slice bE n aP) (List.replicate (n+0) m) w1:=Kin.keep (v:=.slice bE n aP) (v1:=.slice bE n aP) (j:=0) (Mz _ _ hR) ie fB ea (AG _);have oO:=(hG.then a7 (by simp)).trans (ea.gr (fun g hg=>(Aa HV).2 g hg));have hown1:=ea.own;have ra:w.heap.size<=(wr.alloc (.cells #[.int .i64 m] 3)).heap.size:=AU hG.size a7.size;have aO:=AA w1 (.cells #[.int .i64 m,.int .i64 m] 3) none;have hs2:IsAt 0 (.slice (some ⟨w1.heap.size,0,none⟩) 2 2) (List.replicate 2 m) (w1.alloc (.cells #[.int .i64 m,.int .i64 m] 3)):=(RowAt.litn At w1 (List.replicate 2 m) #[.int .i64 m,.int .i64 m] rfl (by simp[maxLen])).weak (AG _);have gQ:=hR1.gr aO;have mC:=fB.gr aO;have rq:=Ac gO;have lj:=Ac hown1;clear a7 hs1 ie aS ea hR1 hR hG eN gO hown1 fB
   go_wp2_with (at_builtin;refine Ca rfl _ _ 35 rfl Tryz.underlying35 Tryz.infoInt rfl (by decide) rfl gQ rfl hs2 (by simp) (fun y _=>B6 y) (by unfold maxLen;simp;omega) (by simp;omega) ?_)
   intro v2 w2 hv2 hl2;obtain⟨g2,aC,rfl⟩:=hl2.form;have fO:IsAt 0 (.slice (some ⟨g2,0,none⟩) (n+2) aC) (List.replicate (n+2) m) w2:=by have:=hv2;rw[<-Jg n m 2];exact this
   have eN:∀g,(Value.slice bE n aP).ownBlock=some g->g<(w1.alloc (.cells #[.int .i64 m,.int .i64 m] 3)).heap.size:=fun g hg=>AZ (Aa lq g hg).2 (AU oO.size aO.size)
   have gN:=hl2.kin eN;have hR2:IsAt 0 (.slice bE n aP) (List.replicate (n+0) m) w2:=Kin.keep (v:=.slice bE n aP) (v1:=.slice bE n aP) (j:=0) (Mz _ _ gQ) gQ fO hl2 (AG _);have kS:=Kin.keep (Aa rq) mC fO hl2 (by omega);have rM:=(oO.then aO (by simp)).trans (hl2.gr (fun g hg=>(Aa HV).2 g hg));have hown2:=hl2.own;have rZ:w.heap.size<=(w1.alloc (.cells #[.int .i64 m,.int .i64 m] 3)).heap.size:=AU oO.size aO.size;have bF:=AA w2 (.cells #[.int .i64 m,.int .i64 m,.int .i64 m] 3) none;have hs3:IsAt 0 (.slice (some ⟨w2.heap.size,0,none⟩) 3 3) (List.replicate 3 m) (w2.alloc (.cells #[.int .i64 m,.int .i64 m,.int .i64 m] 3)):=(RowAt.litn At w2 (List.replicate 3 m) #[.int .i64 m,.int .i64 m,.int .i64 m] rfl (by simp[maxLen])).weak (AG _);have fU:=hR2.gr bF;have kR:=kS.gr bF;have kQ:=fO.gr bF;have kN:=Ac gN;have lh:=Ac hown2;clear aO hs2 gQ mC hv2 hl2 hR2 kS oO eN gN hown2 fO
   go_wp2_with (at_builtin;refine Ca rfl _ _ 35 rfl Tryz.underlying35 Tryz.infoInt rfl (by decide) rfl fU rfl hs3 (by simp) (fun y _=>B6 y) (by unfold maxLen;simp;omega) (by simp;omega) ?_)
   intro v3 w3 hv3 hl3;obtain⟨g3,bA,rfl⟩:=hl3.form;have bU:IsAt 0 (.slice (some ⟨g3,0,none⟩) (n+3) bA) (List.replicate (n+3) m) w3:=by have:=hv3;rw[<-Jg n m 3];exact this
   have bo:IsAt 0 (.slice bE n aP) (List.replicate (n+0) m) w3:=Kin.keep (v:=.slice bE n aP) (v1:=.slice bE n aP) (j:=0) (Mz _ _ fU) fU bU hl3 (AG _);have iL:=Kin.keep (Aa rq) kR bU hl3 (by omega);have iK:=Kin.keep (Aa kN) kQ bU hl3 (by omega);have jW:=(rM.then bF (by simp)).trans (hl3.gr (fun g hg=>(Aa HV).2 g hg));have gI:=hl3.own;have jv:=jW.size;have gV:=rM.size
   have ho:∀v':Value,(v'=.slice bE n aP\/v'=.slice (some ⟨g1,0,none⟩) (n+1) aX\/v'=.slice (some ⟨g2,0,none⟩) (n+2) aC\/v'=.slice (some ⟨g3,0,none⟩) (n+3) bA)->∀g,v'.ownBlock=some g->(g<w.heap.size/\T g=t0)\/w.heap.size<=g:=by
    have hV:∀g,(Value.slice bE n aP).ownBlock=some g->(g<w.heap.size/\T g=t0)\/w.heap.size<=g:=fun g hg=>.inl ⟨(Aa lq g hg).2,(Aa HV).2 g hg⟩
    rintro v' (rfl|rfl|rfl|rfl) g hg
    ·exact hV g hg
    ·rcases Aa lj g hg with h|h
     ·exact hV g h
     ·exact .inr (AU ra h)
    ·rcases Aa lh g hg with h|h
     ·exact hV g h
     ·exact .inr (AU rZ h)
    ·rcases gI g hg with h|h
     ·exact hV g h
     ·exact .inr (AU (AU gV bF.size) h)
   have HO:=Ac ho;have iM:=jW.row (Aa fJ).1 (fun g hg=>by have:=(Aa fJ).2 g hg;omega);have l6:=jW.row (Aa fH).1 (fun g hg=>by have:=(Aa fH).2 g hg;omega);have hW3:=(Aa HW).grs jW (by omega);clear bF hs3 fU kR kQ hv3 hl3 gI ho rM gV lj lh rq kN kj;obtain⟨jZ,dO,rfl⟩:=iM.slice;obtain⟨L4,hL4⟩:∃L4:List (Value×Int),L4=[(.slice bE n aP,m),(.slice (some ⟨g1,0,none⟩) (n+1) aX,m),(.slice (some ⟨g2,0,none⟩) (n+2) aC,m),(.slice (some ⟨g3,0,none⟩) (n+3) bA,m)]:=⟨_,rfl⟩
   have cJ:L4.length=4:=by rw[hL4];rfl
   have eu:=AA w3 (.cells #[.slice bE n aP,.slice (some ⟨g1,0,none⟩) (n+1) aX,.slice (some ⟨g2,0,none⟩) (n+2) aC,.slice (some ⟨g3,0,none⟩) (n+3) bA] 35) none
   have oA:RowAt 35 1 (fun p:Value×Int=>[p.1]) 0 (.slice (some ⟨w3.heap.size,0,none⟩) 4 4) L4 (w3.alloc (.cells #[.slice bE n aP,.slice (some ⟨g1,0,none⟩) (n+1) aX,.slice (some ⟨g2,0,none⟩) (n+2) aC,.slice (some ⟨g3,0,none⟩) (n+3) bA] 35)):=by
    have:=(RowAt.litn (e:=35) (size:=1) (enc:=fun p:Value×Int=>[p.1]) (fun _=>rfl) w3 L4 #[.slice bE n aP,.slice (some ⟨g1,0,none⟩) (n+1) aX,.slice (some ⟨g2,0,none⟩) (n+2) aC,.slice (some ⟨g3,0,none⟩) (n+3) bA] (by rw[hL4];rfl) (by rw[cJ];decide)).weak (AG _);rw[cJ] at this;exact this
   have gJ:∀y∈L4,∀c∈[y.1],c.oneCell'=true:=by
    intro y hy c hc;rw[hL4] at hy;simp only[AX] at hc;subst hc;simp only[CR,FZ,JP] at hy;rcases hy with rfl|rfl|rfl|rfl<;>rfl
   have rD:=Aa yX;have hb1:us.length+L4.length<=maxLen:=by rw[cJ];unfold maxLen;omega
   have hb2:(us.length+L4.length)*24<=140737488355328:=by rw[cJ];omega
   have hb3:0<L4.length:=by rw[cJ];decide
   have fY:=Ac hb1;have gF:=Ac hb2;have lu:=Ac hb3;have er:=Ac gJ;have OM:=Ac oA;have kT:=iM.gr eu;have rA:=hW3.gr eu (by simp);have qx:(w3.alloc (.cells #[.slice bE n aP,.slice (some ⟨g1,0,none⟩) (n+1) aX,.slice (some ⟨g2,0,none⟩) (n+2) aC,.slice (some ⟨g3,0,none⟩) (n+3) bA] 35)).cell? ⟨W,1,none⟩=some (.slice jZ us.length dO):=rA.cell 1;have qy:w3.cell? ⟨W,1,none⟩=some (.slice jZ us.length dO):=hW3.cell 1;have sM:=Ac hL4;have iq:=Ac cJ;clear hb1 hb2 hb3 gJ oA hL4 cJ rD;have tz:(Value.slice jZ us.length dO).ownBlock≠some W:=fun e=>by have:=(Aa fJ).2 W e;omega
   have vP:=Ac tz;clear tz
   go_wp2_with (at_builtin;refine Ca rfl _ _ 68 rfl Tryz.underlying68 Tryz.infoSInt rfl (by decide) rfl kT rfl (Aa OM) (Aa lu) (Aa er) (Aa fY) (Aa gF) ?_)
   intro u5 w5 o8 aR;obtain⟨g5,aI,rfl⟩:=aR.form;rw[Aa iq] at o8 aR;have gP:WBlk W #[nv,.slice jZ us.length dO,fv,mv,k0,k1,k2,lv] w5:=aR.block rA (Aa vP);have xZ:w5.cell? ⟨W,1,none⟩=some (.slice jZ us.length dO):=gP.cell 1;have z51:=gP.fz 1;have ic:∀g,(Value.slice jZ us.length dO).ownBlock=some g->g<w.heap.size/\T g=3:=fun g hg=>⟨((Aa fJ).1.own g hg).2,(Aa fJ).2 g hg⟩
   have ej:∀g,k0.ownBlock=some g->g<w.heap.size/\T g=6:=fun g hg=>⟨((Aa fH).1.own g hg).2,(Aa fH).2 g hg⟩
   have ae:=Aj w5 W 1 (.slice (some ⟨g5,0,none⟩) (us.length+4) aI);have jH:W<w.heap.size:=Af (Aa HW)
   have bC:∀(v':Value) (k:Nat),(v'=.slice bE n aP\/v'=.slice (some ⟨g1,0,none⟩) (n+1) aX\/v'=.slice (some ⟨g2,0,none⟩) (n+2) aC\/v'=.slice (some ⟨g3,0,none⟩) (n+3) bA)->IsAt 0 v' (List.replicate k m) w3->IsAt 0 v' (List.replicate k m) (w5.setCell ⟨W,1,none⟩ (.slice (some ⟨g5,0,none⟩) (us.length+4) aI)):=by
    intro v' k hv' h
    have h1:=aR.keepRow (h.gr eu) (fun g hg e=>by
     have h2:=ic g e;rcases Aa HO v' hv' g hg with h3|h3<;>omega)
    refine h1.other ae (fun g hg e=>?_);simp only[AE] at e;subst e;rcases Aa HO v' hv' W hg with h3|h3<;>omega
   have hw0:=bC _ _ (.inl rfl) bo;have hw1:=bC _ _ (.inr (.inl rfl)) iL;have hw2:=bC _ _ (.inr (.inr (.inl rfl))) iK;have hw3:=bC _ _ (.inr (.inr (.inr rfl))) bU
   have qU:RowAt 3 1 C4 0 k0 (us.map Prod.snd) (w5.setCell ⟨W,1,none⟩ (.slice (some ⟨g5,0,none⟩) (us.length+4) aI)):=by
    have h1:=aR.keepRow (l6.gr eu) (fun g hg e=>by have h2:=ic g e;have h3:=ej g hg;omega);refine h1.other ae (fun g hg e=>?_);simp only[AE] at e;subst e;have h3:=ej W hg;omega
   have pn:RowAt 35 1 (fun p:Value×Int=>[p.1]) 0 (.slice (some ⟨g5,0,none⟩) (us.length+4) aI) (us++L4) (w5.setCell ⟨W,1,none⟩ (.slice (some ⟨g5,0,none⟩) (us.length+4) aI)):=by
    refine o8.other ae (fun g hg e=>?_);simp only[AE] at e;subst e;rcases aR.own W hg with h2|h2
    ·exact Aa vP h2
    ·have h4:=eu.size
     omega
   have oI:WBlk W #[nv,.slice (some ⟨g5,0,none⟩) (us.length+4) aI,fv,mv,k0,k1,k2,lv] (w5.setCell ⟨W,1,none⟩ (.slice (some ⟨g5,0,none⟩) (us.length+4) aI)):=gP.set 1 _
   have bN:g5<w3.heap.size+1->T g5=3/\g5<w.heap.size:=by
    intro hlt;rcases aR.own g5 rfl with h2|h2
    ·exact⟨(ic g5 h2).2,(ic g5 h2).1⟩
    ·simp at h2;omega
   have eE:GrS (fun k=>T k=1\/T k=3\/T k=6\/T k=t0) w (w5.setCell ⟨W,1,none⟩ (.slice (some ⟨g5,0,none⟩) (us.length+4) aI)):=by
    have h1:GrS (fun k=>T k=1\/T k=3\/T k=6\/T k=t0) w w3:=jW.mono (fun k hk=>.inr (.inr (.inr hk)));have h2:=(h1.then eu (by simp)).trans (aR.gr (fun g hg=>.inr (.inl (ic g hg).2)));exact h2.then ae (fun g hg=>by simp only[AE] at hg;subst hg;exact .inr (.inl sH))
   obtain⟨w6,ix⟩:∃w6,w5.setCell ⟨W,1,none⟩ (.slice (some ⟨g5,0,none⟩) (us.length+4) aI)=w6:=⟨_,rfl⟩
   have zQ:w5.heap.size=w6.heap.size:=by rw[<-ix];simp[World.setCell]
   have zR:w3.heap.size+1<=w5.heap.size:=by
    have h1:GrS (fun k=>T k=3) (w3.alloc (.cells #[.slice bE n aP,.slice (some ⟨g1,0,none⟩) (n+1) aX,.slice (some ⟨g2,0,none⟩) (n+2) aC,.slice (some ⟨g3,0,none⟩) (n+3) bA] 35)) w5:=aR.gr (fun g hg=>(ic g hg).2);have h2:=h1.size;simp at h2;omega
   have zo:g5<w5.heap.size:=(o8.own g5 rfl).2;have hlt3:∀(v':Value) (k:Nat),IsAt 0 v' (List.replicate k m) w3->∀g,v'.ownBlock=some g->g<w3.heap.size:=fun v' k h g hg=>(h.own g hg).2
   have q0:=hlt3 _ _ bo;have q1:=hlt3 _ _ iL;have q2:=hlt3 _ _ iK;have q3:=hlt3 _ _ bU;rw[ix] at hw0 hw1 hw2 hw3 qU pn oI eE;have hk0:=Aa PA;subst hk0;have jU:=Ah (AA w6 (.cells #[.int .i64 m,.int .i64 m,.int .i64 m,.int .i64 m] 3) none);have qD:IsAt 0 (.slice (some ⟨w6.heap.size,0,none⟩) 4 4) (List.replicate 4 m) (w6.alloc (.cells #[.int .i64 m,.int .i64 m,.int .i64 m,.int .i64 m] 3)).drew:=((RowAt.litn At w6 (List.replicate 4 m) #[.int .i64 m,.int .i64 m,.int .i64 m,.int .i64 m] rfl (by simp[maxLen])).weak (AG _)).heap rfl;have NZ:w6.cell? ⟨W,4,none⟩=some (.slice il us.length cO):=oI.cell 4;have NY:(w6.alloc (.cells #[.int .i64 m,.int .i64 m,.int .i64 m,.int .i64 m] 3)).cell? ⟨W,4,none⟩=some (.slice il us.length cO):=(AA w6 _ none).cell NZ (by simp);obtain⟨WX,oH⟩:∃WX,(w6.alloc (.cells #[.int .i64 m,.int .i64 m,.int .i64 m,.int .i64 m] 3)).drew=WX:=⟨_,rfl⟩
   have zO:WX.heap.size=w6.heap.size+1:=by rw[<-oH];simp[World.drew]
   rw[oH] at jU qD;have uR:=qU.gr jU;have vH:(Value.slice il us.length cO).ownBlock≠some W:=fun e=>by have:=ej W e;omega
   have ig:∀g7 b6 w7,RowAt 3 1 C4 0 (.slice (some ⟨g7,0,none⟩) (us.length+4) b6) (us.map Prod.snd++List.replicate 4 m) w7->Longer (.slice il us.length cO) (.slice (some ⟨g7,0,none⟩) (us.length+4) b6) us.length 4 WX w7->
     w7.cell? ⟨W,4,none⟩=some (.slice il us.length cO)/\w7.frozen? ⟨W,4,none⟩=false/\Jk T t0 W nv fv mv k1 k2 lv us w (.returned (.tuple #[])) (w7.setCell ⟨W,4,none⟩ (.slice (some ⟨g7,0,none⟩) (us.length+4) b6)):=by
    intro g7 b6 w7 iy bb;have rB:WBlk W #[nv,.slice (some ⟨g5,0,none⟩) (us.length+4) aI,fv,mv,.slice il us.length cO,k1,k2,lv] w7:=bb.block (oI.gr jU (by simp)) vH;have iT:=Aj w7 W 4 (.slice (some ⟨g7,0,none⟩) (us.length+4) b6);have jX:=((eE.then jU (by simp)).trans (bb.gr (fun g hg=>.inr (.inr (.inl (ej g hg).2))))).then iT (fun g hg=>by simp only[AE] at hg;subst hg;exact .inr (.inl sH))
    have dm:g7<w6.heap.size+1->T g7=6/\g7<w.heap.size:=by
     intro hlt;rcases bb.own g7 rfl with h2|h2
     ·exact⟨(ej g7 h2).2,(ej g7 h2).1⟩
     ·omega
    have cD:∀ {α:Type} {e:TypeId} {size:Nat} {enc:α->List Value} (x:Value) (y:List α),RowAt e size enc 0 x y w6->(∀g,x.ownBlock=some g->(g<w.heap.size/\T g≠6/\T g≠1)\/w.heap.size<=g)->RowAt e size enc 0 x y (w7.setCell ⟨W,4,none⟩ (.slice (some ⟨g7,0,none⟩) (us.length+4) b6)):=by
     intro α e size enc x y h hx
     have h1:=bb.keepRow (h.gr jU) (fun g hg e=>by
      have h2:=ej g e;rcases hx g hg with h3|h3<;>omega)
     refine h1.other iT (fun g hg e=>?_);simp only[AE] at e;subst e;rcases hx W hg with h3|h3<;>omega
    have tG:L4.map Prod.snd=List.replicate 4 m:=by rw[Aa sM];rfl
    obtain⟨T',bX⟩:∃T':Nat->Nat,∀k,T' k=if k<w.heap.size then (if T k=t0 then 10 else T k) else if k=g5 then 3 else if k=g7 then 6 else 10:=⟨_,fun _=>rfl⟩
    have dL:∀k,k<w.heap.size->T k≠t0->T' k=T k:=fun k h1 h2=>by rw[bX,AQ h1,AO h2]
    refine⟨rB.cell 4,rB.fz 4,rfl,T',.slice (some ⟨g5,0,none⟩) (us.length+4) aI,.slice (some ⟨g7,0,none⟩) (us.length+4) b6,us++L4,rB.set 4 _,⟨⟨?_,?_⟩,⟨?_,?_⟩,?_⟩,by rw[AK,Aa iq],jX,dL⟩
    ·refine cD _ _ pn (fun g hg=>?_)
     simp only[Value.ownBlock,AE] at hg;subst hg;by_cases hlt:g5<w.heap.size
     ·have:=bN (by omega)
      exact .inl ⟨hlt,by omega,by omega⟩
     ·exact .inr (by omega)
    ·intro g hg
     simp only[Value.ownBlock,AE] at hg;subst hg;by_cases hlt:g5<w.heap.size
     ·have:=bN (by omega)
      rw[dL g5 hlt (by omega)];exact this.1
     ·rw[bX,AO hlt,AQ rfl]
    ·rw[CA,tG]
     refine iy.other iT (fun g hg e=>?_);simp only[Value.ownBlock,AE] at hg e;subst hg;subst e;have:=dm (by omega);omega
    ·intro g hg
     simp only[Value.ownBlock,AE] at hg;subst hg;by_cases hlt:g7<w.heap.size
     ·have:=dm (by omega)
      rw[dL g7 hlt (by omega)];exact this.1
     ·have hne:g7≠g5:=by
       intro e;have:=dm (by omega);omega
      rw[bX,AO hlt,AO hne,AQ rfl]
    ·have hnew:∀(v':Value) (k:Nat),(v'=.slice bE n aP\/v'=.slice (some ⟨g1,0,none⟩) (n+1) aX\/v'=.slice (some ⟨g2,0,none⟩) (n+2) aC\/v'=.slice (some ⟨g3,0,none⟩) (n+3) bA)->IsAt 0 v' (List.replicate k m) w6->(∀g,v'.ownBlock=some g->g<w3.heap.size)->∃j,TRow T' 10 3 1 C4 v' (List.replicate j m) (w7.setCell ⟨W,4,none⟩ (.slice (some ⟨g7,0,none⟩) (us.length+4) b6)):=by
      intro v' k hv' h hlt;refine⟨k,cD v' _ h (fun g hg=>?_),fun g hg=>?_⟩
      ·rcases Aa HO v' hv' g hg with h3|h3
       ·exact .inl ⟨h3.1,by omega,by omega⟩
       ·exact .inr h3
      ·rcases Aa HO v' hv' g hg with h3|h3
       ·rw[bX,AQ h3.1,AQ h3.2]
       ·have hl:=hlt g hg
        have ze:g≠g5:=by
         intro e;have:=bN (by omega);omega
        have kn:g≠g7:=by
         intro e;have:=dm (by omega);omega
        rw[bX,AO (by omega),AO ze,AO kn]
     intro p hp;rcases AY.1 hp with hp|hp
     ·obtain⟨j,hj⟩:=Aa HN3 p hp
      exact⟨j,hj.keep2 jX (fun k hk=>by omega) (fun k hk hk2=>by rw[dL k hk (by omega)];exact hk2)⟩
     ·rw[Aa sM] at hp
      simp only[CR,FZ,JP] at hp;rcases hp with rfl|rfl|rfl|rfl
      ·exact hnew _ _ (.inl rfl) hw0 q0
      ·exact hnew _ _ (.inr (.inl rfl)) hw1 q1
      ·exact hnew _ _ (.inr (.inr (.inl rfl))) hw2 q2
      ·exact hnew _ _ (.inr (.inr (.inr rfl))) hw3 q3
   have jy:=Ac ig;have OZ:=Ac uR;have OJ:=Ac qD;have OC:=Ac oH;have OD:=Ac ix;have rD:=Aa yX;have hb1:(us.map Prod.snd).length+(List.replicate 4 m).length<=maxLen:=by rw[BA,BO];unfold maxLen;omega
   have hb2:((us.map Prod.snd).length+(List.replicate 4 m).length)*8<=140737488355328:=by rw[BA,BO];omega
   have s6:=Ac hb1;have s5:=Ac hb2;clear ig uR qD oH hb1 hb2 rD qU pn oI eE hw0 hw1 hw2 hw3 bC hlt3 q0 q1 q2 q3 bo iL iK bU bN ic ej o8 aR iM kT l6 eu hW3 rA gP qx qy jW ae jU vH ix;go_wp2_with fail;rw[Aa iq,Aa OD]
   go_region_law (rw[Aa OC];refine E1 rfl _ _ 35 rfl Tryz.underlying35 Tryz.infoInt rfl (by decide) (by simp[Act.eval]) (Aa OZ) (by simp[Act.eval]) (Aa OJ) (by simp) (fun y _=>B6 y) (Aa s6) (Aa s5) ?_;intro kv w7 iy bb;rw[BA,BO] at bb;obtain⟨g7,b6,rfl⟩:=bb.form;obtain⟨f1,f2,f3⟩:=Aa jy g7 b6 w7 iy bb;have F3:=Ac f3;clear f3 iy bb)
   all_goals
    go_wp2_with fail;go_end0
    exact Aa F3
theorem Ev(n:Nat)(a:α)(j:Nat):List.replicate n a++List.replicate j a=List.replicate (n+j) a:=by rw[JW]
theorem R1(m:α)(l:List α)(i:Nat)(h:i<l.length):(List.replicate i m++l.drop i).set i m=List.replicate (i+1) m++l.drop (i+1):=by
 have e:l.drop i=l[i]::l.drop (i+1):=CM h;rw[e,GQ _ _ (by simp)];simp[JH];rw[e];rfl
theorem Kin.keepG{enc:α->List Value}{m:α}(hk:Kin v v1 n j)(h1:RowAt e size enc 0 v1 (List.replicate (n+j) m) w)(h2:RowAt e size enc 0 v2 (List.replicate (n+j2) m) w')(hl:Longer v v2 n j2 w w')(hj:j<=j2):RowAt e size enc 0 v1 (List.replicate (n+j) m) w':=by
 rcases hl with ⟨g,cap,e1,e2,hg⟩|⟨hg,_⟩
 ·rcases hk with ⟨g',cap',e3,e4⟩|hne
  ·rw[e1] at e3
   simp only[AH,AE,BK,BX,BP] at e3;obtain⟨rfl,rfl⟩:=e3;rw[e2] at h2;have e5:List.replicate (n+j2) m=List.replicate (n+j) m++List.replicate (j2-j) m:=by rw[Ev];congr 1;omega
   rw[e5] at h2;have h3:=h2.prefix;rw[BO] at h3;rw[e4];exact h3
  ·refine h1.other hg (fun g' bJ e=>?_)
   have:=hne g' bJ;rw[e1] at this;exact this (by rw[<-e];rfl)
 ·exact h1.gr hg
theorem E9{enc:α->List Value}(v:Value)(n:Nat){m:α}(h:RowAt e size enc 0 v (List.replicate n m) w):Kin v v n 0:=by
 rcases h.2.2 with ⟨h1,_⟩|⟨g,cap,cur,h1,_⟩
 ·right
  intro g hg;rw[h1] at hg;simp[Value.ownBlock] at hg
 ·left
  rw[BO] at h1;exact⟨g,cap,h1,h1⟩
theorem Fh(x:VFt)(h:x.v.oneCell'=true):∀c∈ftenc x,c.oneCell'=true:=by
 intro c hc;simp[ftenc] at hc;rcases hc with rfl|rfl
 ·rfl
 ·exact h
theorem V8(l:List VFt)(i:Nat)(x:VFt)(h:i<l.length):(l.set i x).flatMap ftenc=((l.flatMap ftenc).set (i*2) (.int .i64 x.kind)).set (i*2+1) x.v:=by
 induction l generalizing i with
 | nil=>simp at h
 | cons a l ih=>
  cases i with
  | zero=>simp[ftenc]
  | succ i=>
   have e1:(i+1)*2=i*2+1+1:=by omega
   have e2:=ih i (by simpa using h);rw[FM,BI,BI,e2,e1];rfl
theorem FtsAt.stored{l:List VFt}(h:RowAt e 2 ftenc base (.slice (some ⟨g,0,none⟩) n cap) l w)(i:Nat)(x:VFt)(hi:i<l.length):RowAt e 2 ftenc base (.slice (some ⟨g,0,none⟩) n cap) (l.set i x) ((w.setCell ⟨g,i*2,none⟩ (.int .i64 x.kind)).setCell ⟨g,i*2+1,none⟩ x.v):=by
 have hn:=h.len;subst hn;have h1:=(DW h.2 (i*2) (.int .i64 x.kind)).1;have h2:=(DW h1 (i*2+1) x.v).1;refine⟨h.1,?_⟩;rw[FN,V8 l i x hi];exact h2
theorem Rm(w:World)(b o o2:Nat)(x y:Value):w.grownBy ((w.setCell ⟨b,o,none⟩ x).setCell ⟨b,o2,none⟩ y) (some b):=Ab (Aj w b o x) (Aj _ b o2 y)
def ElsAt(A B:Nat)(se e:TypeId)(T:Nat->Nat)(fv k1:Value)(fs:List (Value×Int))(w:World):Prop:=
 TRow T A se 1 (fun p:Value×Int=>[p.1]) fv fs w/\TRow T B 3 1 C4 k1 (fs.map Prod.snd) w/\∀p∈fs,∃n,TRow T 10 e 2 ftenc p.1 (List.replicate n ⟨p.2,.slice none 0 0,[]⟩) w
theorem Tryz.infoSFact:(Tryz.prog.info? 47).map (fun i=>(i.zero,i.size,i.bytes))=some (some (.slice none 0 0),1,24):=by kernel_rfl
theorem Tryz.infoSMatch:(Tryz.prog.info? 43).map (fun i=>(i.zero,i.size,i.bytes))=some (some (.slice none 0 0),1,24):=by kernel_rfl
def Sd(T:Nat->Nat)(i k:Nat):Prop:=T k=1\/T k=3\/T k=6\/∃j,j<i/\T k=13+3*(j+1)
theorem Zm(h:T k=13):¬ Sd T i k:=by rintro(h1|h1|h1|⟨j,_,h1⟩)<;>omega
theorem Q3o(h:T k=13+3*(i+1)):¬ Sd T i k:=by rintro(h1|h1|h1|⟨j,_,h1⟩)<;>omega
theorem Wb(h:Sd T i k):Sd T (i+1) k:=by
 rcases h with h|h|h|⟨j,h1,h2⟩
 ·exact .inl h
 ·exact .inr (.inl h)
 ·exact .inr (.inr (.inl h))
 ·exact .inr (.inr (.inr ⟨j,by omega,h2⟩))
theorem Gt{t:Nat}(h:T k=t)(ht:t≠1/\t≠3/\t≠6/\t<13):¬ Sd T i k:=by rintro(h1|h1|h1|⟨j,_,h1⟩)<;>omega
def Sl(T:Nat->Nat)(W:Nat)(nv ov ko lv:Value)(us:List (Value×Int))(fs:List (Value×Int))(n:Nat)(w:World)(e:Ending)(w':World):Prop:=
 e=.returned (.tuple #[])/\∃T' kA kB jN vX vk ni,WBlk W #[nv,kA,vX,ov,kB,vk,ko,lv] w'/\NumsAt T' kA kB jN w'/\ElsAt 4 7 47 37 T' vX vk ni w'/\jN.length=us.length+4*n/\ni.length=fs.length+4/\
  GrS (fun k=>T k=1\/T k=3\/T k=6\/T k=4\/T k=7\/InH (T k)) w w'/\∀k,k<w.heap.size->¬ InH (T k)->T' k=T k
theorem Q2z(T:Nat->Nat)(W:Nat)(nv uv xv ov k0 kx ko lv:Value)(us fs:List (Value×Int))(v:Value)(xs:List VFt)(w:World)
 (hW:WBlk W #[nv,uv,xv,ov,k0,kx,ko,lv] w)(sH:T W=1)(hN:NumsAt T uv k0 us w)(hE:ElsAt 4 7 47 37 T xv kx fs w)(hH:Hand T 37 v xs w)(gi:us.length+4*xs.length<=4398046511104)(cH:fs.length<=4398046511104)(iF:xs.length<=1000000) :
  Calls Tryz.prog 83 #[.pointer (some ⟨W,0,none⟩),v] w fun e w'=>Sl T W nv ov ko lv us fs xs.length w e w':=by
 obtain⟨bE,aP,rfl⟩:=hH.row.1.slice;have jH:W<w.heap.size:=Af hW;have HH:=Ac hH;have HE:=Ac hE;have HN:=Ac hN;have HW:=Ac hW;have yX:=Ac gi;have oV:=Ac cH;clear hH hE hN hW gi cH;go_enter Tryz.func83,Tryz.ntmps83;go_wp2;go_loopw [4] (fun z w'=>∃(i:Nat) (T1:Nat->Nat) (jb jc:Value) (mZ:List (Value×Int)),i<=xs.length/\z=.int .i64 i/\WBlk W #[nv,jb,xv,ov,jc,kx,ko,lv] w'/\NumsAt T1 jb jc mZ w'/\mZ.length=us.length+4*i/\GrS (Sd T i) w w'/\∀k,k<w.heap.size->(∀j,j<i->T k≠13+3*(j+1))->T1 k=T k) (fun z _=>xs.length-(intOf z).toNat)
 case atStart=>exact⟨0,T,uv,k0,us,AG _,rfl,Aa HW,Aa HN,rfl,GrS.refl _ _,fun _ _ _=>rfl⟩
 case round=>
  obtain⟨i,T1,jb,jc,mZ,hi,rfl,hW1,bB,hu1,af,fy⟩:=hrel;by_cases hlt:i<xs.length
  ·have dF:decide (i<xs.length)=true:=by simpa using hlt
   obtain⟨x,hx⟩:∃x,xs[i]?=some x:=⟨xs[i],AB hlt⟩
   have hrow:=af.row (Aa HH).row.1 (fun g hg=>by have:=(Aa HH).row.2 g hg;exact Zm this);obtain⟨g,cp,et,hcs⟩:=hrow.cells hx;simp only[AH,BP] at et;obtain⟨rfl,rfl⟩:=et;have x1:wr.cell? ⟨g,i*2+1,none⟩=some x.v:=hcs 1 (by omega);obtain⟨mh,pg⟩:=(Aa HH).els i x hx;have mg:TRow T1 (13+3*(i+1)) 3 1 C4 x.v x.vals wr:=mh.keep2 af (fun k hk=>Q3o hk) (fun k hk hk2=>by rw[fy k hk (fun j hj=>by omega)];exact hk2);obtain⟨xa,xc,sS⟩:=mg.1.slice;have iZ:T1 W=1:=by rw[fy W jH (fun j hj=>by omega)];exact sH
   have hO:=Q5 T1 (13+3*(i+1)) W nv jb xv ov jc kx ko lv mZ x.v x.vals wr hW1 iZ bB mg (by omega) (by have:=Aa yX;omega) pg;rw[sS] at x1 hO;have tR:=Ac hu1;have fK:=Ac af;have lY:=Ac fy;clear hrow hcs hx mh pg mg sS hu1 af fy bB hW1 iZ;go_wp2_with fail;refine hO.mono ?_;rintro e w2⟨rfl,T2,vY,vn,vZ,hW2,bq,hu2,bf,jI⟩
   have rN:GrS (Sd T (i+1)) w w2:=by
    refine((Aa fK).mono (fun k hk=>Wb hk)).comp bf (fun k hk hn=>?_);have h1:=Aa lY k hk (fun j hj e=>hn (.inr (.inr (.inr ⟨j,by omega,e⟩))));rw[h1];rintro(h|h|h|h)
    ·exact hn (.inl h)
    ·exact hn (.inr (.inl h))
    ·exact hn (.inr (.inr (.inl h)))
    ·exact hn (.inr (.inr (.inr ⟨i,by omega,h⟩)))
   have rI:∀k,k<w.heap.size->(∀j,j<i+1->T k≠13+3*(j+1))->T2 k=T k:=by
    intro k hk hn;have h1:=Aa lY k hk (fun j hj=>hn j (by omega));rw[jI k (AZ hk (Aa fK).size) (by rw[h1];exact hn i (by omega)),h1]
   have HR:=Ac (show WBlk W #[nv,vY,xv,ov,vn,kx,ko,lv] w2/\NumsAt T2 vY vn vZ w2/\vZ.length=us.length+4*(i+1)/\GrS (Sd T (i+1)) w w2/\∀k,k<w.heap.size->(∀j,j<i+1->T k≠13+3*(j+1))->T2 k=T k from⟨hW2,bq,by have:=Aa tR;omega,rN,rI⟩);clear hO hW2 bq hu2 bf jI rN rI tR fK lY;go_wp2;go_roundw
   case rel=>exact⟨i+1,T2,vY,vn,vZ,by omega,by go_num,Aa HR⟩
   case measure=>simp[intOf];omega
  ·have dF:decide (i<xs.length)=false:=by simpa using hlt
   have l9:i=xs.length:=by omega
   have gB:GrS (Sd T xs.length) w wr:=by rw[<-l9];exact af
   have dz:∀k,k<w.heap.size->(∀j,j<xs.length->T k≠13+3*(j+1))->T1 k=T k:=by rw[<-l9];exact fy
   have po:mZ.length=us.length+4*xs.length:=by rw[<-l9];exact hu1
   have iZ:T1 W=1:=by rw[dz W jH (fun j hj=>by omega)];exact sH
   have hV1:TRow T1 13 37 2 ftenc (.slice bE xs.length aP) xs wr:=(Aa HH).row.keep2 gB (fun k hk=>Zm hk) (fun k hk hk2=>by rw[dz k hk (fun j hj=>by omega)];exact hk2)
   have WO:ElsAt 4 7 47 37 T1 xv kx fs wr:=by
    obtain⟨e1,e2,e3⟩:=Aa HE;refine⟨e1.keep2 gB (fun k hk=>Gt hk (by decide)) (fun k hk hk2=>by rw[dz k hk (fun j hj=>by omega)];exact hk2),e2.keep2 gB (fun k hk=>Gt hk (by decide)) (fun k hk hk2=>by rw[dz k hk (fun j hj=>by omega)];exact hk2),fun p hp=>?_⟩;obtain⟨n,hn⟩:=e3 p hp;exact⟨n,hn.keep2 gB (fun k hk=>Gt hk (by decide)) (fun k hk hk2=>by rw[dz k hk (fun j hj=>by omega)];exact hk2)⟩
   have tR:=Ac po;have fK:=Ac gB;have lY:=Ac dz;have fJ:=Ac bB;clear hu1 af fy l9 gB dz po bB HH HE HN HW hlt hi sH;obtain⟨wo,rfl⟩:∃wo:World,wo=wr:=⟨_,rfl⟩
   obtain⟨rP,nh,rO⟩:=WO;obtain⟨il,cO,sB⟩:=nh.1.slice;rw[BA] at sB;have cK:wo.cell? ⟨W,5,none⟩=some (.slice il fs.length cO):=by rw[hW1.cell 5,sB];rfl
   obtain⟨m,hm⟩:∃m:Int,m=-1-(fs.length:Int):=⟨_,rfl⟩
   have ku:=hV1.1.own;have MR:W<wo.heap.size:=Af hW1;have cH:=Aa oV;have HV:=Ac hV1;have ir:=Ac rP;have jz:=Ac nh;have xr:=Ac rO;have HW:=Ac hW1;have PA:=Ac sB;have HM:=Ac hm;have lq:=Ac ku;clear hV1 rP nh rO hW1 sB hm ku;go_wp2;rw[<-Aa HM];clear cH cK;have kK:=AA wo (.cells #[.int .i64 m,.slice none 0 0] 37) none;have NA:C2 37 wo.heap.size (.int .i64 m) (.slice none 0 0) (wo.alloc (.cells #[.int .i64 m,.slice none 0 0] 37)):=AR _ _;go_loopw [7] (fun z w'=>∃i2:Nat,i2<=xs.length/\z=.int .i64 i2/\GrS (fun k=>T1 k=13) wo w'/\RowAt 37 2 ftenc 0 (.slice bE xs.length aP) (List.replicate i2 (⟨m,.slice none 0 0,[]⟩:VFt)++xs.drop i2) w'/\C2 37 wo.heap.size (.int .i64 m) (.slice none 0 0) w'/\wo.heap.size+1<=w'.heap.size) (fun z _=>xs.length-(intOf z).toNat)
   case atStart=>exact⟨0,AG _,rfl,GrS.of kK (by simp),by simpa using(Aa HV).1.gr kK,NA,by simp⟩
   case round=>
    clear kK NA;obtain⟨i2,pP,rfl,hG,hR,hF,sT⟩:=hrel;obtain⟨f0,f1⟩:=hF.c;by_cases hlt2:i2<xs.length
    ·have x8:decide (i2<xs.length)=true:=by simpa using hlt2
     obtain⟨x,hx⟩:∃x,(List.replicate i2 (⟨m,.slice none 0 0,[]⟩:VFt)++xs.drop i2)[i2]?=some x:=⟨_,AB (by simp;omega)⟩
     obtain⟨g,cp,et,hcs⟩:=hR.cells hx;simp only[AH] at et;obtain⟨rfl,hzz,rfl⟩:=et;clear hzz;have x0:wr.cell? ⟨g,i2*2,none⟩=some (.int .i64 x.kind):=hcs 0 (by omega);have x1:wr.cell? ⟨g,i2*2+1,none⟩=some x.v:=hcs 1 (by omega);have z0:=hR.fz (i2*2);have z1:=hR.fz (i2*2+1);have uw:T1 g=13:=(Aa HV).2 g rfl;have jT:g<wo.heap.size:=(Aa lq g rfl).2;have hR2:=FtsAt.stored hR i2 ⟨m,.slice none 0 0,[]⟩ (by simp;omega);rw[R1 _ xs i2 hlt2] at hR2;have ae:=Rm wr g (i2*2) (i2*2+1) (.int .i64 m) (.slice none 0 0);have bf:=hG.then ae (fun k hk=>by simp at hk;subst hk;exact .inr uw)
     have hF2:=hF.kept ae (by simp;omega);have cR:=Ac hR2;have tY:=Ac bf;have XV:=Ac hF2;have vo:=AU sT ae.size;clear hcs hx hR hG uw hR2 bf hF2 ae hF;go_wp2;go_roundw
     case rel=>exact⟨i2+1,by omega,by go_num,Aa tY,Aa cR,Aa XV,vo⟩
     case measure=>simp[intOf];omega
    ·have x8:decide (i2<xs.length)=false:=by simpa using hlt2
     have e1:List.replicate i2 (⟨m,.slice none 0 0,[]⟩:VFt)++xs.drop i2=List.replicate xs.length (⟨m,.slice none 0 0,[]⟩:VFt):=by
      rw[BD (by omega),BM];congr 1
      omega
     rw[e1] at hR;clear e1 hlt2 pP;generalize kj:xs.length=n at *;have a7:=AA wr (.cells #[.int .i64 m,.slice none 0 0] 37) none;have hs1:RowAt 37 2 ftenc 0 (.slice (some ⟨wr.heap.size,0,none⟩) 1 1) (List.replicate 1 (⟨m,.slice none 0 0,[]⟩:VFt)) (wr.alloc (.cells #[.int .i64 m,.slice none 0 0] 37)):=(RowAt.litn C5 wr (List.replicate 1 (⟨m,.slice none 0 0,[]⟩:VFt)) #[.int .i64 m,.slice none 0 0] rfl (by simp[maxLen])).weak (AG _);have ie:=hR.gr a7
     go_wp2_with (at_builtin;refine Ca rfl _ _ 47 rfl Tryz.underlying47 Tryz.infoFact rfl (by decide) rfl ie rfl hs1 (by simp) (fun y hy=>Fh y (by rw[DD hy];rfl)) (by unfold maxLen;simp;omega) (by simp;omega) ?_)
     intro v1 w1 aS ea;obtain⟨g1,aX,rfl⟩:=ea.form;have jL:C2 37 wo.heap.size (.int .i64 m) (.slice none 0 0) w1:=ea.block (hF.kept a7 (by simp)) (fun e=>by have:=(Aa lq _ e).2;omega);obtain⟨f10,f11⟩:=jL.c;have fB:RowAt 37 2 ftenc 0 (.slice (some ⟨g1,0,none⟩) (n+1) aX) (List.replicate (n+1) (⟨m,.slice none 0 0,[]⟩:VFt)) w1:=by have:=aS;rw[<-Ev n (⟨m,.slice none 0 0,[]⟩:VFt) 1];exact this
     have eN:∀g,(Value.slice bE n aP).ownBlock=some g->g<(wr.alloc (.cells #[.int .i64 m,.slice none 0 0] 37)).heap.size:=fun g hg=>AZ (Aa lq g hg).2 (AU hG.size a7.size)
     have gO:=ea.kin eN;have hR1:RowAt 37 2 ftenc 0 (.slice bE n aP) (List.replicate (n+0) (⟨m,.slice none 0 0,[]⟩:VFt)) w1:=Kin.keepG (v:=.slice bE n aP) (v1:=.slice bE n aP) (j:=0) (E9 _ _ hR) ie fB ea (AG _);have oO:=(hG.then a7 (by simp)).trans (ea.gr (fun g hg=>(Aa HV).2 g hg));have hown1:=ea.own;have ra:wo.heap.size<=(wr.alloc (.cells #[.int .i64 m,.slice none 0 0] 37)).heap.size:=AU hG.size a7.size;have aO:=AA w1 (.cells #[.int .i64 m,.slice none 0 0,.int .i64 m,.slice none 0 0] 37) none;have hs2:RowAt 37 2 ftenc 0 (.slice (some ⟨w1.heap.size,0,none⟩) 2 2) (List.replicate 2 (⟨m,.slice none 0 0,[]⟩:VFt)) (w1.alloc (.cells #[.int .i64 m,.slice none 0 0,.int .i64 m,.slice none 0 0] 37)):=(RowAt.litn C5 w1 (List.replicate 2 (⟨m,.slice none 0 0,[]⟩:VFt)) #[.int .i64 m,.slice none 0 0,.int .i64 m,.slice none 0 0] rfl (by simp[maxLen])).weak (AG _);have gQ:=hR1.gr aO;have mC:=fB.gr aO;have rq:=Ac gO;have lj:=Ac hown1;clear a7 hs1 ie aS ea hR1 hR hG eN gO hown1 fB
     go_wp2_with (at_builtin;refine Ca rfl _ _ 47 rfl Tryz.underlying47 Tryz.infoFact rfl (by decide) rfl gQ rfl hs2 (by simp) (fun y hy=>Fh y (by rw[DD hy];rfl)) (by unfold maxLen;simp;omega) (by simp;omega) ?_)
     intro v2 w2 hv2 hl2;obtain⟨g2,aC,rfl⟩:=hl2.form;have hF2:C2 37 wo.heap.size (.int .i64 m) (.slice none 0 0) w2:=hl2.block (jL.kept aO (by simp)) (fun e=>by have:=(Aa lq _ e).2;omega);obtain⟨f20,f21⟩:=hF2.c;have fO:RowAt 37 2 ftenc 0 (.slice (some ⟨g2,0,none⟩) (n+2) aC) (List.replicate (n+2) (⟨m,.slice none 0 0,[]⟩:VFt)) w2:=by have:=hv2;rw[<-Ev n (⟨m,.slice none 0 0,[]⟩:VFt) 2];exact this
     have eN:∀g,(Value.slice bE n aP).ownBlock=some g->g<(w1.alloc (.cells #[.int .i64 m,.slice none 0 0,.int .i64 m,.slice none 0 0] 37)).heap.size:=fun g hg=>AZ (Aa lq g hg).2 (AU oO.size aO.size)
     have gN:=hl2.kin eN;have hR2:RowAt 37 2 ftenc 0 (.slice bE n aP) (List.replicate (n+0) (⟨m,.slice none 0 0,[]⟩:VFt)) w2:=Kin.keepG (v:=.slice bE n aP) (v1:=.slice bE n aP) (j:=0) (E9 _ _ gQ) gQ fO hl2 (AG _);have kS:=Kin.keepG (Aa rq) mC fO hl2 (by omega);have rM:=(oO.then aO (by simp)).trans (hl2.gr (fun g hg=>(Aa HV).2 g hg));have hown2:=hl2.own;have rZ:wo.heap.size<=(w1.alloc (.cells #[.int .i64 m,.slice none 0 0,.int .i64 m,.slice none 0 0] 37)).heap.size:=AU oO.size aO.size;have bF:=AA w2 (.cells #[.int .i64 m,.slice none 0 0,.int .i64 m,.slice none 0 0,.int .i64 m,.slice none 0 0] 37) none;have hs3:RowAt 37 2 ftenc 0 (.slice (some ⟨w2.heap.size,0,none⟩) 3 3) (List.replicate 3 (⟨m,.slice none 0 0,[]⟩:VFt)) (w2.alloc (.cells #[.int .i64 m,.slice none 0 0,.int .i64 m,.slice none 0 0,.int .i64 m,.slice none 0 0] 37)):=(RowAt.litn C5 w2 (List.replicate 3 (⟨m,.slice none 0 0,[]⟩:VFt)) #[.int .i64 m,.slice none 0 0,.int .i64 m,.slice none 0 0,.int .i64 m,.slice none 0 0] rfl (by simp[maxLen])).weak (AG _);have fU:=hR2.gr bF;have kR:=kS.gr bF;have kQ:=fO.gr bF;have kN:=Ac gN;have lh:=Ac hown2;clear aO hs2 gQ mC hv2 hl2 hR2 kS oO eN gN hown2 fO
     go_wp2_with (at_builtin;refine Ca rfl _ _ 47 rfl Tryz.underlying47 Tryz.infoFact rfl (by decide) rfl fU rfl hs3 (by simp) (fun y hy=>Fh y (by rw[DD hy];rfl)) (by unfold maxLen;simp;omega) (by simp;omega) ?_)
     intro v3 w3 hv3 hl3;obtain⟨g3,bA,rfl⟩:=hl3.form;have bU:RowAt 37 2 ftenc 0 (.slice (some ⟨g3,0,none⟩) (n+3) bA) (List.replicate (n+3) (⟨m,.slice none 0 0,[]⟩:VFt)) w3:=by have:=hv3;rw[<-Ev n (⟨m,.slice none 0 0,[]⟩:VFt) 3];exact this
     have bo:RowAt 37 2 ftenc 0 (.slice bE n aP) (List.replicate (n+0) (⟨m,.slice none 0 0,[]⟩:VFt)) w3:=Kin.keepG (v:=.slice bE n aP) (v1:=.slice bE n aP) (j:=0) (E9 _ _ fU) fU bU hl3 (AG _);have iL:=Kin.keepG (Aa rq) kR bU hl3 (by omega);have iK:=Kin.keepG (Aa kN) kQ bU hl3 (by omega);have jW:=(rM.then bF (by simp)).trans (hl3.gr (fun g hg=>(Aa HV).2 g hg));have gI:=hl3.own;have jv:=jW.size;have gV:=rM.size
     have ho:∀v':Value,(v'=.slice bE n aP\/v'=.slice (some ⟨g1,0,none⟩) (n+1) aX\/v'=.slice (some ⟨g2,0,none⟩) (n+2) aC\/v'=.slice (some ⟨g3,0,none⟩) (n+3) bA)->∀g,v'.ownBlock=some g->(g<wo.heap.size/\T1 g=13)\/wo.heap.size<=g:=by
      have hV:∀g,(Value.slice bE n aP).ownBlock=some g->(g<wo.heap.size/\T1 g=13)\/wo.heap.size<=g:=fun g hg=>.inl ⟨(Aa lq g hg).2,(Aa HV).2 g hg⟩
      rintro v' (rfl|rfl|rfl|rfl) g hg
      ·exact hV g hg
      ·rcases Aa lj g hg with h|h
       ·exact hV g h
       ·exact .inr (AU ra h)
      ·rcases Aa lh g hg with h|h
       ·exact hV g h
       ·exact .inr (AU rZ h)
      ·rcases gI g hg with h|h
       ·exact hV g h
       ·exact .inr (AU (AU gV bF.size) h)
     have HO:=Ac ho;have iM:=jW.row (Aa ir).1 (fun g hg=>by have:=(Aa ir).2 g hg;omega);have l6:=jW.row (Aa jz).1 (fun g hg=>by have:=(Aa jz).2 g hg;omega);have hW3:=(Aa HW).grs jW (by omega);clear bF hs3 fU kR kQ hv3 hl3 gI ho rM gV lj lh rq kN;have yg:=Ac kj;clear kj;obtain⟨jZ,dO,rfl⟩:=iM.slice;obtain⟨L4,hL4⟩:∃L4:List (Value×Int),L4=[(.slice bE n aP,m),(.slice (some ⟨g1,0,none⟩) (n+1) aX,m),(.slice (some ⟨g2,0,none⟩) (n+2) aC,m),(.slice (some ⟨g3,0,none⟩) (n+3) bA,m)]:=⟨_,rfl⟩
     have cJ:L4.length=4:=by rw[hL4];rfl
     have eu:=AA w3 (.cells #[.slice bE n aP,.slice (some ⟨g1,0,none⟩) (n+1) aX,.slice (some ⟨g2,0,none⟩) (n+2) aC,.slice (some ⟨g3,0,none⟩) (n+3) bA] 47) none
     have oA:RowAt 47 1 (fun p:Value×Int=>[p.1]) 0 (.slice (some ⟨w3.heap.size,0,none⟩) 4 4) L4 (w3.alloc (.cells #[.slice bE n aP,.slice (some ⟨g1,0,none⟩) (n+1) aX,.slice (some ⟨g2,0,none⟩) (n+2) aC,.slice (some ⟨g3,0,none⟩) (n+3) bA] 47)):=by
      have:=(RowAt.litn (e:=47) (size:=1) (enc:=fun p:Value×Int=>[p.1]) (fun _=>rfl) w3 L4 #[.slice bE n aP,.slice (some ⟨g1,0,none⟩) (n+1) aX,.slice (some ⟨g2,0,none⟩) (n+2) aC,.slice (some ⟨g3,0,none⟩) (n+3) bA] (by rw[hL4];rfl) (by rw[cJ];decide)).weak (AG _);rw[cJ] at this;exact this
     have gJ:∀y∈L4,∀c∈[y.1],c.oneCell'=true:=by
      intro y hy c hc;rw[hL4] at hy;simp only[AX] at hc;subst hc;simp only[CR,FZ,JP] at hy;rcases hy with rfl|rfl|rfl|rfl<;>rfl
     have rD:=Aa oV;have hb1:fs.length+L4.length<=maxLen:=by rw[cJ];unfold maxLen;omega
     have hb2:(fs.length+L4.length)*24<=140737488355328:=by rw[cJ];omega
     have hb3:0<L4.length:=by rw[cJ];decide
     have fY:=Ac hb1;have gF:=Ac hb2;have lu:=Ac hb3;have er:=Ac gJ;have OM:=Ac oA;have kT:=iM.gr eu;have rA:=hW3.gr eu (by simp);have qx:(w3.alloc (.cells #[.slice bE n aP,.slice (some ⟨g1,0,none⟩) (n+1) aX,.slice (some ⟨g2,0,none⟩) (n+2) aC,.slice (some ⟨g3,0,none⟩) (n+3) bA] 47)).cell? ⟨W,2,none⟩=some (.slice jZ fs.length dO):=rA.cell 2;have qy:w3.cell? ⟨W,2,none⟩=some (.slice jZ fs.length dO):=hW3.cell 2;have sM:=Ac hL4;have iq:=Ac cJ;clear hb1 hb2 hb3 gJ oA hL4 cJ rD;have tz:(Value.slice jZ fs.length dO).ownBlock≠some W:=fun e=>by have:=(Aa ir).2 W e;omega
     have vP:=Ac tz;clear tz
     go_wp2_with (at_builtin;refine Ca rfl _ _ 69 rfl Tryz.underlying69 Tryz.infoSFact rfl (by decide) rfl kT rfl (Aa OM) (Aa lu) (Aa er) (Aa fY) (Aa gF) ?_)
     intro u5 w5 o8 aR;obtain⟨g5,aI,rfl⟩:=aR.form;rw[Aa iq] at o8 aR;have gP:WBlk W #[nv,jb,.slice jZ fs.length dO,ov,jc,kx,ko,lv] w5:=aR.block rA (Aa vP);have xZ:w5.cell? ⟨W,2,none⟩=some (.slice jZ fs.length dO):=gP.cell 2;have z51:=gP.fz 2;have ic:∀g,(Value.slice jZ fs.length dO).ownBlock=some g->g<wo.heap.size/\T1 g=4:=fun g hg=>⟨((Aa ir).1.own g hg).2,(Aa ir).2 g hg⟩
     have ej:∀g,kx.ownBlock=some g->g<wo.heap.size/\T1 g=7:=fun g hg=>⟨((Aa jz).1.own g hg).2,(Aa jz).2 g hg⟩
     have ae:=Aj w5 W 2 (.slice (some ⟨g5,0,none⟩) (fs.length+4) aI);have jH:W<wo.heap.size:=Af (Aa HW)
     have bC:∀(v':Value) (k:Nat),(v'=.slice bE n aP\/v'=.slice (some ⟨g1,0,none⟩) (n+1) aX\/v'=.slice (some ⟨g2,0,none⟩) (n+2) aC\/v'=.slice (some ⟨g3,0,none⟩) (n+3) bA)->RowAt 37 2 ftenc 0 v' (List.replicate k (⟨m,.slice none 0 0,[]⟩:VFt)) w3->RowAt 37 2 ftenc 0 v' (List.replicate k (⟨m,.slice none 0 0,[]⟩:VFt)) (w5.setCell ⟨W,2,none⟩ (.slice (some ⟨g5,0,none⟩) (fs.length+4) aI)):=by
      intro v' k hv' h
      have h1:=aR.keepRow (h.gr eu) (fun g hg e=>by
       have h2:=ic g e;rcases Aa HO v' hv' g hg with h3|h3<;>omega)
      refine h1.other ae (fun g hg e=>?_);simp only[AE] at e;subst e;rcases Aa HO v' hv' W hg with h3|h3<;>omega
     have hw0:=bC _ _ (.inl rfl) bo;have hw1:=bC _ _ (.inr (.inl rfl)) iL;have hw2:=bC _ _ (.inr (.inr (.inl rfl))) iK;have hw3:=bC _ _ (.inr (.inr (.inr rfl))) bU
     have qU:RowAt 3 1 C4 0 kx (fs.map Prod.snd) (w5.setCell ⟨W,2,none⟩ (.slice (some ⟨g5,0,none⟩) (fs.length+4) aI)):=by
      have h1:=aR.keepRow (l6.gr eu) (fun g hg e=>by have h2:=ic g e;have h3:=ej g hg;omega);refine h1.other ae (fun g hg e=>?_);simp only[AE] at e;subst e;have h3:=ej W hg;omega
     have pn:RowAt 47 1 (fun p:Value×Int=>[p.1]) 0 (.slice (some ⟨g5,0,none⟩) (fs.length+4) aI) (fs++L4) (w5.setCell ⟨W,2,none⟩ (.slice (some ⟨g5,0,none⟩) (fs.length+4) aI)):=by
      refine o8.other ae (fun g hg e=>?_);simp only[AE] at e;subst e;rcases aR.own W hg with h2|h2
      ·exact Aa vP h2
      ·have h4:=eu.size
       omega
     have oI:WBlk W #[nv,jb,.slice (some ⟨g5,0,none⟩) (fs.length+4) aI,ov,jc,kx,ko,lv] (w5.setCell ⟨W,2,none⟩ (.slice (some ⟨g5,0,none⟩) (fs.length+4) aI)):=gP.set 2 _
     have bN:g5<w3.heap.size+1->T1 g5=4/\g5<wo.heap.size:=by
      intro hlt;rcases aR.own g5 rfl with h2|h2
      ·exact⟨(ic g5 h2).2,(ic g5 h2).1⟩
      ·simp at h2;omega
     have eE:GrS (fun k=>T1 k=1\/T1 k=4\/T1 k=7\/T1 k=13) wo (w5.setCell ⟨W,2,none⟩ (.slice (some ⟨g5,0,none⟩) (fs.length+4) aI)):=by
      have h1:GrS (fun k=>T1 k=1\/T1 k=4\/T1 k=7\/T1 k=13) wo w3:=jW.mono (fun k hk=>.inr (.inr (.inr hk)));have h2:=(h1.then eu (by simp)).trans (aR.gr (fun g hg=>.inr (.inl (ic g hg).2)));exact h2.then ae (fun g hg=>by simp only[AE] at hg;subst hg;exact .inr (.inl iZ))
     obtain⟨w6,ix⟩:∃w6,w5.setCell ⟨W,2,none⟩ (.slice (some ⟨g5,0,none⟩) (fs.length+4) aI)=w6:=⟨_,rfl⟩
     have zQ:w5.heap.size=w6.heap.size:=by rw[<-ix];simp[World.setCell]
     have zR:w3.heap.size+1<=w5.heap.size:=by
      have h1:GrS (fun k=>T1 k=4) (w3.alloc (.cells #[.slice bE n aP,.slice (some ⟨g1,0,none⟩) (n+1) aX,.slice (some ⟨g2,0,none⟩) (n+2) aC,.slice (some ⟨g3,0,none⟩) (n+3) bA] 47)) w5:=aR.gr (fun g hg=>(ic g hg).2);have h2:=h1.size;simp at h2;omega
     have zo:g5<w5.heap.size:=(o8.own g5 rfl).2;have hlt3:∀(v':Value) (k:Nat),RowAt 37 2 ftenc 0 v' (List.replicate k (⟨m,.slice none 0 0,[]⟩:VFt)) w3->∀g,v'.ownBlock=some g->g<w3.heap.size:=fun v' k h g hg=>(h.own g hg).2
     have q0:=hlt3 _ _ bo;have q1:=hlt3 _ _ iL;have q2:=hlt3 _ _ iK;have q3:=hlt3 _ _ bU;rw[ix] at hw0 hw1 hw2 hw3 qU pn oI eE;have hk0:=Aa PA;subst hk0;have jU:=Ah (AA w6 (.cells #[.int .i64 m,.int .i64 m,.int .i64 m,.int .i64 m] 3) none);have qD:IsAt 0 (.slice (some ⟨w6.heap.size,0,none⟩) 4 4) (List.replicate 4 m) (w6.alloc (.cells #[.int .i64 m,.int .i64 m,.int .i64 m,.int .i64 m] 3)).drew:=((RowAt.litn At w6 (List.replicate 4 m) #[.int .i64 m,.int .i64 m,.int .i64 m,.int .i64 m] rfl (by simp[maxLen])).weak (AG _)).heap rfl;have NZ:w6.cell? ⟨W,5,none⟩=some (.slice il fs.length cO):=oI.cell 5;have NY:(w6.alloc (.cells #[.int .i64 m,.int .i64 m,.int .i64 m,.int .i64 m] 3)).cell? ⟨W,5,none⟩=some (.slice il fs.length cO):=(AA w6 _ none).cell NZ (by simp);obtain⟨WX,oH⟩:∃WX,(w6.alloc (.cells #[.int .i64 m,.int .i64 m,.int .i64 m,.int .i64 m] 3)).drew=WX:=⟨_,rfl⟩
     have zO:WX.heap.size=w6.heap.size+1:=by rw[<-oH];simp[World.drew]
     rw[oH] at jU qD;have uR:=qU.gr jU;have vH:(Value.slice il fs.length cO).ownBlock≠some W:=fun e=>by have:=ej W e;omega
     have ig:∀g7 b6 w7,RowAt 3 1 C4 0 (.slice (some ⟨g7,0,none⟩) (fs.length+4) b6) (fs.map Prod.snd++List.replicate 4 m) w7->Longer (.slice il fs.length cO) (.slice (some ⟨g7,0,none⟩) (fs.length+4) b6) fs.length 4 WX w7->
       w7.cell? ⟨W,5,none⟩=some (.slice il fs.length cO)/\w7.frozen? ⟨W,5,none⟩=false/\Sl T W nv ov ko lv us fs n w (.returned (.tuple #[])) (w7.setCell ⟨W,5,none⟩ (.slice (some ⟨g7,0,none⟩) (fs.length+4) b6)):=by
      intro g7 b6 w7 iy bb;have rB:WBlk W #[nv,jb,.slice (some ⟨g5,0,none⟩) (fs.length+4) aI,ov,jc,.slice il fs.length cO,ko,lv] w7:=bb.block (oI.gr jU (by simp)) vH;have iT:=Aj w7 W 5 (.slice (some ⟨g7,0,none⟩) (fs.length+4) b6);have jX:=((eE.then jU (by simp)).trans (bb.gr (fun g hg=>.inr (.inr (.inl (ej g hg).2))))).then iT (fun g hg=>by simp only[AE] at hg;subst hg;exact .inr (.inl iZ))
      have dm:g7<w6.heap.size+1->T1 g7=7/\g7<wo.heap.size:=by
       intro hlt;rcases bb.own g7 rfl with h2|h2
       ·exact⟨(ej g7 h2).2,(ej g7 h2).1⟩
       ·omega
      have cD:∀ {α:Type} {e:TypeId} {size:Nat} {enc:α->List Value} (x:Value) (y:List α),RowAt e size enc 0 x y w6->(∀g,x.ownBlock=some g->(g<wo.heap.size/\T1 g≠7/\T1 g≠1)\/wo.heap.size<=g)->RowAt e size enc 0 x y (w7.setCell ⟨W,5,none⟩ (.slice (some ⟨g7,0,none⟩) (fs.length+4) b6)):=by
       intro α e size enc x y h hx
       have h1:=bb.keepRow (h.gr jU) (fun g hg e=>by
        have h2:=ej g e;rcases hx g hg with h3|h3<;>omega)
       refine h1.other iT (fun g hg e=>?_);simp only[AE] at e;subst e;rcases hx W hg with h3|h3<;>omega
      have tG:L4.map Prod.snd=List.replicate 4 m:=by rw[Aa sM];rfl
      obtain⟨T',bX⟩:∃T':Nat->Nat,∀k,T' k=if k<wo.heap.size then (if T1 k=13 then 10 else T1 k) else if k=g5 then 4 else if k=g7 then 7 else 10:=⟨_,fun _=>rfl⟩
      have dL:∀k,k<wo.heap.size->T1 k≠13->T' k=T1 k:=fun k h1 h2=>by rw[bX,AQ h1,AO h2]
      have WB:NumsAt T' jb jc mZ (w7.setCell ⟨W,5,none⟩ (.slice (some ⟨g7,0,none⟩) (fs.length+4) b6)):=by
       obtain⟨a1,a2,a3⟩:=Aa fJ;refine⟨a1.keep2 jX (fun k hk=>by omega) (fun k hk hk2=>by rw[dL k hk (by omega)];exact hk2),a2.keep2 jX (fun k hk=>by omega) (fun k hk hk2=>by rw[dL k hk (by omega)];exact hk2),fun p hp=>?_⟩;obtain⟨j,hj⟩:=a3 p hp;exact⟨j,hj.keep2 jX (fun k hk=>by omega) (fun k hk hk2=>by rw[dL k hk (by omega)];exact hk2)⟩
      have nY:GrS (fun k=>T k=1\/T k=3\/T k=6\/T k=4\/T k=7\/InH (T k)) w (w7.setCell ⟨W,5,none⟩ (.slice (some ⟨g7,0,none⟩) (fs.length+4) b6)):=by
       refine((Aa fK).mono (fun k hk=>?_)).comp jX (fun k hk hn=>?_)
       ·rcases hk with h|h|h|⟨j,_,h⟩
        ·exact .inl h
        ·exact .inr (.inl h)
        ·exact .inr (.inr (.inl h))
        ·exact .inr (.inr (.inr (.inr (.inr ⟨by omega,by omega⟩))))
       ·have hI:¬ InH (T k):=fun h=>hn (.inr (.inr (.inr (.inr (.inr h)))))
        have h1:=Aa lY k hk (fun j hj e=>hI ⟨by omega,by omega⟩);rw[h1];rintro(h|h|h|h)
        ·exact hn (.inl h)
        ·exact hn (.inr (.inr (.inr (.inl h))))
        ·exact hn (.inr (.inr (.inr (.inr (.inl h)))))
        ·exact hI ⟨by omega,by omega⟩
      have yO:∀k,k<w.heap.size->¬ InH (T k)->T' k=T k:=by
       intro k hk hI;have h1:=Aa lY k hk (fun j hj e=>hI ⟨by omega,by omega⟩);rw[dL k (AZ hk (Aa fK).size) (by rw[h1];intro e;exact hI ⟨by omega,by omega⟩),h1]
      refine⟨rB.cell 5,rB.fz 5,rfl,T',jb,jc,mZ,.slice (some ⟨g5,0,none⟩) (fs.length+4) aI,.slice (some ⟨g7,0,none⟩) (fs.length+4) b6,fs++L4,rB.set 5 _,WB,⟨⟨?_,?_⟩,⟨?_,?_⟩,?_⟩,Aa tR,by rw[AK,Aa iq],nY,yO⟩
      ·refine cD _ _ pn (fun g hg=>?_)
       simp only[Value.ownBlock,AE] at hg;subst hg;by_cases hlt:g5<wo.heap.size
       ·have:=bN (by omega)
        exact .inl ⟨hlt,by omega,by omega⟩
       ·exact .inr (by omega)
      ·intro g hg
       simp only[Value.ownBlock,AE] at hg;subst hg;by_cases hlt:g5<wo.heap.size
       ·have:=bN (by omega)
        rw[dL g5 hlt (by omega)];exact this.1
       ·rw[bX,AO hlt,AQ rfl]
      ·rw[CA,tG]
       refine iy.other iT (fun g hg e=>?_);simp only[Value.ownBlock,AE] at hg e;subst hg;subst e;have:=dm (by omega);omega
      ·intro g hg
       simp only[Value.ownBlock,AE] at hg;subst hg;by_cases hlt:g7<wo.heap.size
       ·have:=dm (by omega)
        rw[dL g7 hlt (by omega)];exact this.1
       ·have hne:g7≠g5:=by
         intro e;have:=dm (by omega);omega
        rw[bX,AO hlt,AO hne,AQ rfl]
      ·have hnew:∀(v':Value) (k:Nat),(v'=.slice bE n aP\/v'=.slice (some ⟨g1,0,none⟩) (n+1) aX\/v'=.slice (some ⟨g2,0,none⟩) (n+2) aC\/v'=.slice (some ⟨g3,0,none⟩) (n+3) bA)->RowAt 37 2 ftenc 0 v' (List.replicate k (⟨m,.slice none 0 0,[]⟩:VFt)) w6->(∀g,v'.ownBlock=some g->g<w3.heap.size)->∃j,TRow T' 10 37 2 ftenc v' (List.replicate j (⟨m,.slice none 0 0,[]⟩:VFt)) (w7.setCell ⟨W,5,none⟩ (.slice (some ⟨g7,0,none⟩) (fs.length+4) b6)):=by
        intro v' k hv' h hlt;refine⟨k,cD v' _ h (fun g hg=>?_),fun g hg=>?_⟩
        ·rcases Aa HO v' hv' g hg with h3|h3
         ·exact .inl ⟨h3.1,by omega,by omega⟩
         ·exact .inr h3
        ·rcases Aa HO v' hv' g hg with h3|h3
         ·rw[bX,AQ h3.1,AQ h3.2]
         ·have hl:=hlt g hg
          have ze:g≠g5:=by
           intro e;have:=bN (by omega);omega
          have kn:g≠g7:=by
           intro e;have:=dm (by omega);omega
          rw[bX,AO (by omega),AO ze,AO kn]
       intro p hp;rcases AY.1 hp with hp|hp
       ·obtain⟨j,hj⟩:=Aa xr p hp
        exact⟨j,hj.keep2 jX (fun k hk=>by omega) (fun k hk hk2=>by rw[dL k hk (by omega)];exact hk2)⟩
       ·rw[Aa sM] at hp
        simp only[CR,FZ,JP] at hp;rcases hp with rfl|rfl|rfl|rfl
        ·exact hnew _ _ (.inl rfl) hw0 q0
        ·exact hnew _ _ (.inr (.inl rfl)) hw1 q1
        ·exact hnew _ _ (.inr (.inr (.inl rfl))) hw2 q2
        ·exact hnew _ _ (.inr (.inr (.inr rfl))) hw3 q3
     have jy:=Ac ig;have OZ:=Ac uR;have OJ:=Ac qD;have OC:=Ac oH;have OD:=Ac ix;have rD:=Aa oV;have hb1:(fs.map Prod.snd).length+(List.replicate 4 m).length<=maxLen:=by rw[BA,BO];unfold maxLen;omega
     have hb2:((fs.map Prod.snd).length+(List.replicate 4 m).length)*8<=140737488355328:=by rw[BA,BO];omega
     have s6:=Ac hb1;have s5:=Ac hb2;clear ig uR qD oH hb1 hb2 rD qU pn oI eE hw0 hw1 hw2 hw3 bC hlt3 q0 q1 q2 q3 bo iL iK bU bN ic ej o8 aR iM kT l6 eu hW3 rA gP qx qy jW ae jU vH ix;go_wp2_with fail;rw[Aa iq,Aa OD]
     go_region_law (rw[Aa OC];refine E1 rfl _ _ 35 rfl Tryz.underlying35 Tryz.infoInt rfl (by decide) (by simp[Act.eval]) (Aa OZ) (by simp[Act.eval]) (Aa OJ) (by simp) (fun y _=>B6 y) (Aa s6) (Aa s5) ?_;intro kv w7 iy bb;rw[BA,BO] at bb;obtain⟨g7,b6,rfl⟩:=bb.form;obtain⟨f1,f2,f3⟩:=Aa jy g7 b6 w7 iy bb;have F3:=Ac f3;clear f3 iy bb)
     all_goals
      go_wp2_with fail;go_end0
      have F4:=Aa F3;rw[<-Aa yg] at F4;exact F4
def Jt(T:Nat->Nat)(W:Nat)(nv ov ko lv:Value)(us:List (Value×Int))(fs:List (Value×Int))(n:Nat)(w:World)(e:Ending)(w':World):Prop:=
 e=.returned (.tuple #[])/\∃T' kA kB jN vX vk ni,WBlk W #[nv,kA,ov,vX,kB,ko,vk,lv] w'/\NumsAt T' kA kB jN w'/\ElsAt 5 8 43 52 T' vX vk ni w'/\jN.length=us.length+4*n/\ni.length=fs.length+4/\
  GrS (fun k=>T k=1\/T k=3\/T k=6\/T k=5\/T k=8\/InH (T k)) w w'/\∀k,k<w.heap.size->¬ InH (T k)->T' k=T k
theorem Q3v(T:Nat->Nat)(W:Nat)(nv uv xv ov k0 kx ko lv:Value)(us fs:List (Value×Int))(v:Value)(xs:List VFt)(w:World)
 (hW:WBlk W #[nv,uv,ov,xv,k0,ko,kx,lv] w)(sH:T W=1)(hN:NumsAt T uv k0 us w)(hE:ElsAt 5 8 43 52 T xv kx fs w)(hH:Hand T 52 v xs w)(gi:us.length+4*xs.length<=4398046511104)(cH:fs.length<=4398046511104)(iF:xs.length<=1000000) :
  Calls Tryz.prog 58 #[.pointer (some ⟨W,0,none⟩),v] w fun e w'=>Jt T W nv ov ko lv us fs xs.length w e w':=by
 obtain⟨bE,aP,rfl⟩:=hH.row.1.slice;have jH:W<w.heap.size:=Af hW;have HH:=Ac hH;have HE:=Ac hE;have HN:=Ac hN;have HW:=Ac hW;have yX:=Ac gi;have oV:=Ac cH;clear hH hE hN hW gi cH;go_enter Tryz.func58,Tryz.ntmps58;go_wp2;go_loopw [4] (fun z w'=>∃(i:Nat) (T1:Nat->Nat) (jb jc:Value) (mZ:List (Value×Int)),i<=xs.length/\z=.int .i64 i/\WBlk W #[nv,jb,ov,xv,jc,ko,kx,lv] w'/\NumsAt T1 jb jc mZ w'/\mZ.length=us.length+4*i/\GrS (Sd T i) w w'/\∀k,k<w.heap.size->(∀j,j<i->T k≠13+3*(j+1))->T1 k=T k) (fun z _=>xs.length-(intOf z).toNat)
 case atStart=>exact⟨0,T,uv,k0,us,AG _,rfl,Aa HW,Aa HN,rfl,GrS.refl _ _,fun _ _ _=>rfl⟩
 case round=>
  obtain⟨i,T1,jb,jc,mZ,hi,rfl,hW1,bB,hu1,af,fy⟩:=hrel;by_cases hlt:i<xs.length
  ·have dF:decide (i<xs.length)=true:=by simpa using hlt
   obtain⟨x,hx⟩:∃x,xs[i]?=some x:=⟨xs[i],AB hlt⟩
   have hrow:=af.row (Aa HH).row.1 (fun g hg=>by have:=(Aa HH).row.2 g hg;exact Zm this);obtain⟨g,cp,et,hcs⟩:=hrow.cells hx;simp only[AH,BP] at et;obtain⟨rfl,rfl⟩:=et;have x1:wr.cell? ⟨g,i*2+1,none⟩=some x.v:=hcs 1 (by omega);obtain⟨mh,pg⟩:=(Aa HH).els i x hx;have mg:TRow T1 (13+3*(i+1)) 3 1 C4 x.v x.vals wr:=mh.keep2 af (fun k hk=>Q3o hk) (fun k hk hk2=>by rw[fy k hk (fun j hj=>by omega)];exact hk2);obtain⟨xa,xc,sS⟩:=mg.1.slice;have iZ:T1 W=1:=by rw[fy W jH (fun j hj=>by omega)];exact sH
   have hO:=Q5 T1 (13+3*(i+1)) W nv jb ov xv jc ko kx lv mZ x.v x.vals wr hW1 iZ bB mg (by omega) (by have:=Aa yX;omega) pg;rw[sS] at x1 hO;have tR:=Ac hu1;have fK:=Ac af;have lY:=Ac fy;clear hrow hcs hx mh pg mg sS hu1 af fy bB hW1 iZ;go_wp2_with fail;refine hO.mono ?_;rintro e w2⟨rfl,T2,vY,vn,vZ,hW2,bq,hu2,bf,jI⟩
   have rN:GrS (Sd T (i+1)) w w2:=by
    refine((Aa fK).mono (fun k hk=>Wb hk)).comp bf (fun k hk hn=>?_);have h1:=Aa lY k hk (fun j hj e=>hn (.inr (.inr (.inr ⟨j,by omega,e⟩))));rw[h1];rintro(h|h|h|h)
    ·exact hn (.inl h)
    ·exact hn (.inr (.inl h))
    ·exact hn (.inr (.inr (.inl h)))
    ·exact hn (.inr (.inr (.inr ⟨i,by omega,h⟩)))
   have rI:∀k,k<w.heap.size->(∀j,j<i+1->T k≠13+3*(j+1))->T2 k=T k:=by
    intro k hk hn;have h1:=Aa lY k hk (fun j hj=>hn j (by omega));rw[jI k (AZ hk (Aa fK).size) (by rw[h1];exact hn i (by omega)),h1]
   have HR:=Ac (show WBlk W #[nv,vY,ov,xv,vn,ko,kx,lv] w2/\NumsAt T2 vY vn vZ w2/\vZ.length=us.length+4*(i+1)/\GrS (Sd T (i+1)) w w2/\∀k,k<w.heap.size->(∀j,j<i+1->T k≠13+3*(j+1))->T2 k=T k from⟨hW2,bq,by have:=Aa tR;omega,rN,rI⟩);clear hO hW2 bq hu2 bf jI rN rI tR fK lY;go_wp2;go_roundw
   case rel=>exact⟨i+1,T2,vY,vn,vZ,by omega,by go_num,Aa HR⟩
   case measure=>simp[intOf];omega
  ·have dF:decide (i<xs.length)=false:=by simpa using hlt
   have l9:i=xs.length:=by omega
   have gB:GrS (Sd T xs.length) w wr:=by rw[<-l9];exact af
   have dz:∀k,k<w.heap.size->(∀j,j<xs.length->T k≠13+3*(j+1))->T1 k=T k:=by rw[<-l9];exact fy
   have po:mZ.length=us.length+4*xs.length:=by rw[<-l9];exact hu1
   have iZ:T1 W=1:=by rw[dz W jH (fun j hj=>by omega)];exact sH
   have hV1:TRow T1 13 52 2 ftenc (.slice bE xs.length aP) xs wr:=(Aa HH).row.keep2 gB (fun k hk=>Zm hk) (fun k hk hk2=>by rw[dz k hk (fun j hj=>by omega)];exact hk2)
   have WO:ElsAt 5 8 43 52 T1 xv kx fs wr:=by
    obtain⟨e1,e2,e3⟩:=Aa HE;refine⟨e1.keep2 gB (fun k hk=>Gt hk (by decide)) (fun k hk hk2=>by rw[dz k hk (fun j hj=>by omega)];exact hk2),e2.keep2 gB (fun k hk=>Gt hk (by decide)) (fun k hk hk2=>by rw[dz k hk (fun j hj=>by omega)];exact hk2),fun p hp=>?_⟩;obtain⟨n,hn⟩:=e3 p hp;exact⟨n,hn.keep2 gB (fun k hk=>Gt hk (by decide)) (fun k hk hk2=>by rw[dz k hk (fun j hj=>by omega)];exact hk2)⟩
   have tR:=Ac po;have fK:=Ac gB;have lY:=Ac dz;have fJ:=Ac bB;clear hu1 af fy l9 gB dz po bB HH HE HN HW hlt hi sH;obtain⟨wo,rfl⟩:∃wo:World,wo=wr:=⟨_,rfl⟩
   obtain⟨rP,nh,rO⟩:=WO;obtain⟨il,cO,sB⟩:=nh.1.slice;rw[BA] at sB;have cK:wo.cell? ⟨W,6,none⟩=some (.slice il fs.length cO):=by rw[hW1.cell 6,sB];rfl
   obtain⟨m,hm⟩:∃m:Int,m=-1-(fs.length:Int):=⟨_,rfl⟩
   have ku:=hV1.1.own;have MR:W<wo.heap.size:=Af hW1;have cH:=Aa oV;have HV:=Ac hV1;have ir:=Ac rP;have jz:=Ac nh;have xr:=Ac rO;have HW:=Ac hW1;have PA:=Ac sB;have HM:=Ac hm;have lq:=Ac ku;clear hV1 rP nh rO hW1 sB hm ku;go_wp2;rw[<-Aa HM];clear cH cK;have kK:=AA wo (.cells #[.int .i64 m,.slice none 0 0] 52) none;have NA:C2 52 wo.heap.size (.int .i64 m) (.slice none 0 0) (wo.alloc (.cells #[.int .i64 m,.slice none 0 0] 52)):=AR _ _;go_loopw [7] (fun z w'=>∃i2:Nat,i2<=xs.length/\z=.int .i64 i2/\GrS (fun k=>T1 k=13) wo w'/\RowAt 52 2 ftenc 0 (.slice bE xs.length aP) (List.replicate i2 (⟨m,.slice none 0 0,[]⟩:VFt)++xs.drop i2) w'/\C2 52 wo.heap.size (.int .i64 m) (.slice none 0 0) w'/\wo.heap.size+1<=w'.heap.size) (fun z _=>xs.length-(intOf z).toNat)
   case atStart=>exact⟨0,AG _,rfl,GrS.of kK (by simp),by simpa using(Aa HV).1.gr kK,NA,by simp⟩
   case round=>
    clear kK NA;obtain⟨i2,pP,rfl,hG,hR,hF,sT⟩:=hrel;obtain⟨f0,f1⟩:=hF.c;by_cases hlt2:i2<xs.length
    ·have x8:decide (i2<xs.length)=true:=by simpa using hlt2
     obtain⟨x,hx⟩:∃x,(List.replicate i2 (⟨m,.slice none 0 0,[]⟩:VFt)++xs.drop i2)[i2]?=some x:=⟨_,AB (by simp;omega)⟩
     obtain⟨g,cp,et,hcs⟩:=hR.cells hx;simp only[AH] at et;obtain⟨rfl,hzz,rfl⟩:=et;clear hzz;have x0:wr.cell? ⟨g,i2*2,none⟩=some (.int .i64 x.kind):=hcs 0 (by omega);have x1:wr.cell? ⟨g,i2*2+1,none⟩=some x.v:=hcs 1 (by omega);have z0:=hR.fz (i2*2);have z1:=hR.fz (i2*2+1);have uw:T1 g=13:=(Aa HV).2 g rfl;have jT:g<wo.heap.size:=(Aa lq g rfl).2;have hR2:=FtsAt.stored hR i2 ⟨m,.slice none 0 0,[]⟩ (by simp;omega);rw[R1 _ xs i2 hlt2] at hR2;have ae:=Rm wr g (i2*2) (i2*2+1) (.int .i64 m) (.slice none 0 0);have bf:=hG.then ae (fun k hk=>by simp at hk;subst hk;exact .inr uw)
     have hF2:=hF.kept ae (by simp;omega);have cR:=Ac hR2;have tY:=Ac bf;have XV:=Ac hF2;have vo:=AU sT ae.size;clear hcs hx hR hG uw hR2 bf hF2 ae hF;go_wp2;go_roundw
     case rel=>exact⟨i2+1,by omega,by go_num,Aa tY,Aa cR,Aa XV,vo⟩
     case measure=>simp[intOf];omega
    ·have x8:decide (i2<xs.length)=false:=by simpa using hlt2
     have e1:List.replicate i2 (⟨m,.slice none 0 0,[]⟩:VFt)++xs.drop i2=List.replicate xs.length (⟨m,.slice none 0 0,[]⟩:VFt):=by
      rw[BD (by omega),BM];congr 1
      omega
     rw[e1] at hR;clear e1 hlt2 pP;generalize kj:xs.length=n at *;have a7:=AA wr (.cells #[.int .i64 m,.slice none 0 0] 52) none;have hs1:RowAt 52 2 ftenc 0 (.slice (some ⟨wr.heap.size,0,none⟩) 1 1) (List.replicate 1 (⟨m,.slice none 0 0,[]⟩:VFt)) (wr.alloc (.cells #[.int .i64 m,.slice none 0 0] 52)):=(RowAt.litn C5 wr (List.replicate 1 (⟨m,.slice none 0 0,[]⟩:VFt)) #[.int .i64 m,.slice none 0 0] rfl (by simp[maxLen])).weak (AG _);have ie:=hR.gr a7
     go_wp2_with (at_builtin;refine Ca rfl _ _ 43 rfl Tryz.underlying43 Tryz.infoMatch rfl (by decide) rfl ie rfl hs1 (by simp) (fun y hy=>Fh y (by rw[DD hy];rfl)) (by unfold maxLen;simp;omega) (by simp;omega) ?_)
     intro v1 w1 aS ea;obtain⟨g1,aX,rfl⟩:=ea.form;have jL:C2 52 wo.heap.size (.int .i64 m) (.slice none 0 0) w1:=ea.block (hF.kept a7 (by simp)) (fun e=>by have:=(Aa lq _ e).2;omega);obtain⟨f10,f11⟩:=jL.c;have fB:RowAt 52 2 ftenc 0 (.slice (some ⟨g1,0,none⟩) (n+1) aX) (List.replicate (n+1) (⟨m,.slice none 0 0,[]⟩:VFt)) w1:=by have:=aS;rw[<-Ev n (⟨m,.slice none 0 0,[]⟩:VFt) 1];exact this
     have eN:∀g,(Value.slice bE n aP).ownBlock=some g->g<(wr.alloc (.cells #[.int .i64 m,.slice none 0 0] 52)).heap.size:=fun g hg=>AZ (Aa lq g hg).2 (AU hG.size a7.size)
     have gO:=ea.kin eN;have hR1:RowAt 52 2 ftenc 0 (.slice bE n aP) (List.replicate (n+0) (⟨m,.slice none 0 0,[]⟩:VFt)) w1:=Kin.keepG (v:=.slice bE n aP) (v1:=.slice bE n aP) (j:=0) (E9 _ _ hR) ie fB ea (AG _);have oO:=(hG.then a7 (by simp)).trans (ea.gr (fun g hg=>(Aa HV).2 g hg));have hown1:=ea.own;have ra:wo.heap.size<=(wr.alloc (.cells #[.int .i64 m,.slice none 0 0] 52)).heap.size:=AU hG.size a7.size;have aO:=AA w1 (.cells #[.int .i64 m,.slice none 0 0,.int .i64 m,.slice none 0 0] 52) none;have hs2:RowAt 52 2 ftenc 0 (.slice (some ⟨w1.heap.size,0,none⟩) 2 2) (List.replicate 2 (⟨m,.slice none 0 0,[]⟩:VFt)) (w1.alloc (.cells #[.int .i64 m,.slice none 0 0,.int .i64 m,.slice none 0 0] 52)):=(RowAt.litn C5 w1 (List.replicate 2 (⟨m,.slice none 0 0,[]⟩:VFt)) #[.int .i64 m,.slice none 0 0,.int .i64 m,.slice none 0 0] rfl (by simp[maxLen])).weak (AG _);have gQ:=hR1.gr aO;have mC:=fB.gr aO;have rq:=Ac gO;have lj:=Ac hown1;clear a7 hs1 ie aS ea hR1 hR hG eN gO hown1 fB
     go_wp2_with (at_builtin;refine Ca rfl _ _ 43 rfl Tryz.underlying43 Tryz.infoMatch rfl (by decide) rfl gQ rfl hs2 (by simp) (fun y hy=>Fh y (by rw[DD hy];rfl)) (by unfold maxLen;simp;omega) (by simp;omega) ?_)
     intro v2 w2 hv2 hl2;obtain⟨g2,aC,rfl⟩:=hl2.form;have hF2:C2 52 wo.heap.size (.int .i64 m) (.slice none 0 0) w2:=hl2.block (jL.kept aO (by simp)) (fun e=>by have:=(Aa lq _ e).2;omega);obtain⟨f20,f21⟩:=hF2.c;have fO:RowAt 52 2 ftenc 0 (.slice (some ⟨g2,0,none⟩) (n+2) aC) (List.replicate (n+2) (⟨m,.slice none 0 0,[]⟩:VFt)) w2:=by have:=hv2;rw[<-Ev n (⟨m,.slice none 0 0,[]⟩:VFt) 2];exact this
     have eN:∀g,(Value.slice bE n aP).ownBlock=some g->g<(w1.alloc (.cells #[.int .i64 m,.slice none 0 0,.int .i64 m,.slice none 0 0] 52)).heap.size:=fun g hg=>AZ (Aa lq g hg).2 (AU oO.size aO.size)
     have gN:=hl2.kin eN;have hR2:RowAt 52 2 ftenc 0 (.slice bE n aP) (List.replicate (n+0) (⟨m,.slice none 0 0,[]⟩:VFt)) w2:=Kin.keepG (v:=.slice bE n aP) (v1:=.slice bE n aP) (j:=0) (E9 _ _ gQ) gQ fO hl2 (AG _);have kS:=Kin.keepG (Aa rq) mC fO hl2 (by omega);have rM:=(oO.then aO (by simp)).trans (hl2.gr (fun g hg=>(Aa HV).2 g hg));have hown2:=hl2.own;have rZ:wo.heap.size<=(w1.alloc (.cells #[.int .i64 m,.slice none 0 0,.int .i64 m,.slice none 0 0] 52)).heap.size:=AU oO.size aO.size;have bF:=AA w2 (.cells #[.int .i64 m,.slice none 0 0,.int .i64 m,.slice none 0 0,.int .i64 m,.slice none 0 0] 52) none;have hs3:RowAt 52 2 ftenc 0 (.slice (some ⟨w2.heap.size,0,none⟩) 3 3) (List.replicate 3 (⟨m,.slice none 0 0,[]⟩:VFt)) (w2.alloc (.cells #[.int .i64 m,.slice none 0 0,.int .i64 m,.slice none 0 0,.int .i64 m,.slice none 0 0] 52)):=(RowAt.litn C5 w2 (List.replicate 3 (⟨m,.slice none 0 0,[]⟩:VFt)) #[.int .i64 m,.slice none 0 0,.int .i64 m,.slice none 0 0,.int .i64 m,.slice none 0 0] rfl (by simp[maxLen])).weak (AG _);have fU:=hR2.gr bF;have kR:=kS.gr bF;have kQ:=fO.gr bF;have kN:=Ac gN;have lh:=Ac hown2;clear aO hs2 gQ mC hv2 hl2 hR2 kS oO eN gN hown2 fO
     go_wp2_with (at_builtin;refine Ca rfl _ _ 43 rfl Tryz.underlying43 Tryz.infoMatch rfl (by decide) rfl fU rfl hs3 (by simp) (fun y hy=>Fh y (by rw[DD hy];rfl)) (by unfold maxLen;simp;omega) (by simp;omega) ?_)
     intro v3 w3 hv3 hl3;obtain⟨g3,bA,rfl⟩:=hl3.form;have bU:RowAt 52 2 ftenc 0 (.slice (some ⟨g3,0,none⟩) (n+3) bA) (List.replicate (n+3) (⟨m,.slice none 0 0,[]⟩:VFt)) w3:=by have:=hv3;rw[<-Ev n (⟨m,.slice none 0 0,[]⟩:VFt) 3];exact this
     have bo:RowAt 52 2 ftenc 0 (.slice bE n aP) (List.replicate (n+0) (⟨m,.slice none 0 0,[]⟩:VFt)) w3:=Kin.keepG (v:=.slice bE n aP) (v1:=.slice bE n aP) (j:=0) (E9 _ _ fU) fU bU hl3 (AG _);have iL:=Kin.keepG (Aa rq) kR bU hl3 (by omega);have iK:=Kin.keepG (Aa kN) kQ bU hl3 (by omega);have jW:=(rM.then bF (by simp)).trans (hl3.gr (fun g hg=>(Aa HV).2 g hg));have gI:=hl3.own;have jv:=jW.size;have gV:=rM.size
     have ho:∀v':Value,(v'=.slice bE n aP\/v'=.slice (some ⟨g1,0,none⟩) (n+1) aX\/v'=.slice (some ⟨g2,0,none⟩) (n+2) aC\/v'=.slice (some ⟨g3,0,none⟩) (n+3) bA)->∀g,v'.ownBlock=some g->(g<wo.heap.size/\T1 g=13)\/wo.heap.size<=g:=by
      have hV:∀g,(Value.slice bE n aP).ownBlock=some g->(g<wo.heap.size/\T1 g=13)\/wo.heap.size<=g:=fun g hg=>.inl ⟨(Aa lq g hg).2,(Aa HV).2 g hg⟩
      rintro v' (rfl|rfl|rfl|rfl) g hg
      ·exact hV g hg
      ·rcases Aa lj g hg with h|h
       ·exact hV g h
       ·exact .inr (AU ra h)
      ·rcases Aa lh g hg with h|h
       ·exact hV g h
       ·exact .inr (AU rZ h)
      ·rcases gI g hg with h|h
       ·exact hV g h
       ·exact .inr (AU (AU gV bF.size) h)
     have HO:=Ac ho;have iM:=jW.row (Aa ir).1 (fun g hg=>by have:=(Aa ir).2 g hg;omega);have l6:=jW.row (Aa jz).1 (fun g hg=>by have:=(Aa jz).2 g hg;omega);have hW3:=(Aa HW).grs jW (by omega);clear bF hs3 fU kR kQ hv3 hl3 gI ho rM gV lj lh rq kN;have yg:=Ac kj;clear kj;obtain⟨jZ,dO,rfl⟩:=iM.slice;obtain⟨L4,hL4⟩:∃L4:List (Value×Int),L4=[(.slice bE n aP,m),(.slice (some ⟨g1,0,none⟩) (n+1) aX,m),(.slice (some ⟨g2,0,none⟩) (n+2) aC,m),(.slice (some ⟨g3,0,none⟩) (n+3) bA,m)]:=⟨_,rfl⟩
     have cJ:L4.length=4:=by rw[hL4];rfl
     have eu:=AA w3 (.cells #[.slice bE n aP,.slice (some ⟨g1,0,none⟩) (n+1) aX,.slice (some ⟨g2,0,none⟩) (n+2) aC,.slice (some ⟨g3,0,none⟩) (n+3) bA] 43) none
     have oA:RowAt 43 1 (fun p:Value×Int=>[p.1]) 0 (.slice (some ⟨w3.heap.size,0,none⟩) 4 4) L4 (w3.alloc (.cells #[.slice bE n aP,.slice (some ⟨g1,0,none⟩) (n+1) aX,.slice (some ⟨g2,0,none⟩) (n+2) aC,.slice (some ⟨g3,0,none⟩) (n+3) bA] 43)):=by
      have:=(RowAt.litn (e:=43) (size:=1) (enc:=fun p:Value×Int=>[p.1]) (fun _=>rfl) w3 L4 #[.slice bE n aP,.slice (some ⟨g1,0,none⟩) (n+1) aX,.slice (some ⟨g2,0,none⟩) (n+2) aC,.slice (some ⟨g3,0,none⟩) (n+3) bA] (by rw[hL4];rfl) (by rw[cJ];decide)).weak (AG _);rw[cJ] at this;exact this
     have gJ:∀y∈L4,∀c∈[y.1],c.oneCell'=true:=by
      intro y hy c hc;rw[hL4] at hy;simp only[AX] at hc;subst hc;simp only[CR,FZ,JP] at hy;rcases hy with rfl|rfl|rfl|rfl<;>rfl
     have rD:=Aa oV;have hb1:fs.length+L4.length<=maxLen:=by rw[cJ];unfold maxLen;omega
     have hb2:(fs.length+L4.length)*24<=140737488355328:=by rw[cJ];omega
     have hb3:0<L4.length:=by rw[cJ];decide
     have fY:=Ac hb1;have gF:=Ac hb2;have lu:=Ac hb3;have er:=Ac gJ;have OM:=Ac oA;have kT:=iM.gr eu;have rA:=hW3.gr eu (by simp);have qx:(w3.alloc (.cells #[.slice bE n aP,.slice (some ⟨g1,0,none⟩) (n+1) aX,.slice (some ⟨g2,0,none⟩) (n+2) aC,.slice (some ⟨g3,0,none⟩) (n+3) bA] 43)).cell? ⟨W,3,none⟩=some (.slice jZ fs.length dO):=rA.cell 3;have qy:w3.cell? ⟨W,3,none⟩=some (.slice jZ fs.length dO):=hW3.cell 3;have sM:=Ac hL4;have iq:=Ac cJ;clear hb1 hb2 hb3 gJ oA hL4 cJ rD;have tz:(Value.slice jZ fs.length dO).ownBlock≠some W:=fun e=>by have:=(Aa ir).2 W e;omega
     have vP:=Ac tz;clear tz
     go_wp2_with (at_builtin;refine Ca rfl _ _ 70 rfl Tryz.underlying70 Tryz.infoSMatch rfl (by decide) rfl kT rfl (Aa OM) (Aa lu) (Aa er) (Aa fY) (Aa gF) ?_)
     intro u5 w5 o8 aR;obtain⟨g5,aI,rfl⟩:=aR.form;rw[Aa iq] at o8 aR;have gP:WBlk W #[nv,jb,ov,.slice jZ fs.length dO,jc,ko,kx,lv] w5:=aR.block rA (Aa vP);have xZ:w5.cell? ⟨W,3,none⟩=some (.slice jZ fs.length dO):=gP.cell 3;have z51:=gP.fz 3;have ic:∀g,(Value.slice jZ fs.length dO).ownBlock=some g->g<wo.heap.size/\T1 g=5:=fun g hg=>⟨((Aa ir).1.own g hg).2,(Aa ir).2 g hg⟩
     have ej:∀g,kx.ownBlock=some g->g<wo.heap.size/\T1 g=8:=fun g hg=>⟨((Aa jz).1.own g hg).2,(Aa jz).2 g hg⟩
     have ae:=Aj w5 W 3 (.slice (some ⟨g5,0,none⟩) (fs.length+4) aI);have jH:W<wo.heap.size:=Af (Aa HW)
     have bC:∀(v':Value) (k:Nat),(v'=.slice bE n aP\/v'=.slice (some ⟨g1,0,none⟩) (n+1) aX\/v'=.slice (some ⟨g2,0,none⟩) (n+2) aC\/v'=.slice (some ⟨g3,0,none⟩) (n+3) bA)->RowAt 52 2 ftenc 0 v' (List.replicate k (⟨m,.slice none 0 0,[]⟩:VFt)) w3->RowAt 52 2 ftenc 0 v' (List.replicate k (⟨m,.slice none 0 0,[]⟩:VFt)) (w5.setCell ⟨W,3,none⟩ (.slice (some ⟨g5,0,none⟩) (fs.length+4) aI)):=by
      intro v' k hv' h
      have h1:=aR.keepRow (h.gr eu) (fun g hg e=>by
       have h2:=ic g e;rcases Aa HO v' hv' g hg with h3|h3<;>omega)
      refine h1.other ae (fun g hg e=>?_);simp only[AE] at e;subst e;rcases Aa HO v' hv' W hg with h3|h3<;>omega
     have hw0:=bC _ _ (.inl rfl) bo;have hw1:=bC _ _ (.inr (.inl rfl)) iL;have hw2:=bC _ _ (.inr (.inr (.inl rfl))) iK;have hw3:=bC _ _ (.inr (.inr (.inr rfl))) bU
     have qU:RowAt 3 1 C4 0 kx (fs.map Prod.snd) (w5.setCell ⟨W,3,none⟩ (.slice (some ⟨g5,0,none⟩) (fs.length+4) aI)):=by
      have h1:=aR.keepRow (l6.gr eu) (fun g hg e=>by have h2:=ic g e;have h3:=ej g hg;omega);refine h1.other ae (fun g hg e=>?_);simp only[AE] at e;subst e;have h3:=ej W hg;omega
     have pn:RowAt 43 1 (fun p:Value×Int=>[p.1]) 0 (.slice (some ⟨g5,0,none⟩) (fs.length+4) aI) (fs++L4) (w5.setCell ⟨W,3,none⟩ (.slice (some ⟨g5,0,none⟩) (fs.length+4) aI)):=by
      refine o8.other ae (fun g hg e=>?_);simp only[AE] at e;subst e;rcases aR.own W hg with h2|h2
      ·exact Aa vP h2
      ·have h4:=eu.size
       omega
     have oI:WBlk W #[nv,jb,ov,.slice (some ⟨g5,0,none⟩) (fs.length+4) aI,jc,ko,kx,lv] (w5.setCell ⟨W,3,none⟩ (.slice (some ⟨g5,0,none⟩) (fs.length+4) aI)):=gP.set 3 _
     have bN:g5<w3.heap.size+1->T1 g5=5/\g5<wo.heap.size:=by
      intro hlt;rcases aR.own g5 rfl with h2|h2
      ·exact⟨(ic g5 h2).2,(ic g5 h2).1⟩
      ·simp at h2;omega
     have eE:GrS (fun k=>T1 k=1\/T1 k=5\/T1 k=8\/T1 k=13) wo (w5.setCell ⟨W,3,none⟩ (.slice (some ⟨g5,0,none⟩) (fs.length+4) aI)):=by
      have h1:GrS (fun k=>T1 k=1\/T1 k=5\/T1 k=8\/T1 k=13) wo w3:=jW.mono (fun k hk=>.inr (.inr (.inr hk)));have h2:=(h1.then eu (by simp)).trans (aR.gr (fun g hg=>.inr (.inl (ic g hg).2)));exact h2.then ae (fun g hg=>by simp only[AE] at hg;subst hg;exact .inr (.inl iZ))
     obtain⟨w6,ix⟩:∃w6,w5.setCell ⟨W,3,none⟩ (.slice (some ⟨g5,0,none⟩) (fs.length+4) aI)=w6:=⟨_,rfl⟩
     have zQ:w5.heap.size=w6.heap.size:=by rw[<-ix];simp[World.setCell]
     have zR:w3.heap.size+1<=w5.heap.size:=by
      have h1:GrS (fun k=>T1 k=5) (w3.alloc (.cells #[.slice bE n aP,.slice (some ⟨g1,0,none⟩) (n+1) aX,.slice (some ⟨g2,0,none⟩) (n+2) aC,.slice (some ⟨g3,0,none⟩) (n+3) bA] 43)) w5:=aR.gr (fun g hg=>(ic g hg).2);have h2:=h1.size;simp at h2;omega
     have zo:g5<w5.heap.size:=(o8.own g5 rfl).2;have hlt3:∀(v':Value) (k:Nat),RowAt 52 2 ftenc 0 v' (List.replicate k (⟨m,.slice none 0 0,[]⟩:VFt)) w3->∀g,v'.ownBlock=some g->g<w3.heap.size:=fun v' k h g hg=>(h.own g hg).2
     have q0:=hlt3 _ _ bo;have q1:=hlt3 _ _ iL;have q2:=hlt3 _ _ iK;have q3:=hlt3 _ _ bU;rw[ix] at hw0 hw1 hw2 hw3 qU pn oI eE;have hk0:=Aa PA;subst hk0;have jU:=Ah (AA w6 (.cells #[.int .i64 m,.int .i64 m,.int .i64 m,.int .i64 m] 3) none);have qD:IsAt 0 (.slice (some ⟨w6.heap.size,0,none⟩) 4 4) (List.replicate 4 m) (w6.alloc (.cells #[.int .i64 m,.int .i64 m,.int .i64 m,.int .i64 m] 3)).drew:=((RowAt.litn At w6 (List.replicate 4 m) #[.int .i64 m,.int .i64 m,.int .i64 m,.int .i64 m] rfl (by simp[maxLen])).weak (AG _)).heap rfl;have NZ:w6.cell? ⟨W,6,none⟩=some (.slice il fs.length cO):=oI.cell 6;have NY:(w6.alloc (.cells #[.int .i64 m,.int .i64 m,.int .i64 m,.int .i64 m] 3)).cell? ⟨W,6,none⟩=some (.slice il fs.length cO):=(AA w6 _ none).cell NZ (by simp);obtain⟨WX,oH⟩:∃WX,(w6.alloc (.cells #[.int .i64 m,.int .i64 m,.int .i64 m,.int .i64 m] 3)).drew=WX:=⟨_,rfl⟩
     have zO:WX.heap.size=w6.heap.size+1:=by rw[<-oH];simp[World.drew]
     rw[oH] at jU qD;have uR:=qU.gr jU;have vH:(Value.slice il fs.length cO).ownBlock≠some W:=fun e=>by have:=ej W e;omega
     have ig:∀g7 b6 w7,RowAt 3 1 C4 0 (.slice (some ⟨g7,0,none⟩) (fs.length+4) b6) (fs.map Prod.snd++List.replicate 4 m) w7->Longer (.slice il fs.length cO) (.slice (some ⟨g7,0,none⟩) (fs.length+4) b6) fs.length 4 WX w7->
       w7.cell? ⟨W,6,none⟩=some (.slice il fs.length cO)/\w7.frozen? ⟨W,6,none⟩=false/\Jt T W nv ov ko lv us fs n w (.returned (.tuple #[])) (w7.setCell ⟨W,6,none⟩ (.slice (some ⟨g7,0,none⟩) (fs.length+4) b6)):=by
      intro g7 b6 w7 iy bb;have rB:WBlk W #[nv,jb,ov,.slice (some ⟨g5,0,none⟩) (fs.length+4) aI,jc,ko,.slice il fs.length cO,lv] w7:=bb.block (oI.gr jU (by simp)) vH;have iT:=Aj w7 W 6 (.slice (some ⟨g7,0,none⟩) (fs.length+4) b6);have jX:=((eE.then jU (by simp)).trans (bb.gr (fun g hg=>.inr (.inr (.inl (ej g hg).2))))).then iT (fun g hg=>by simp only[AE] at hg;subst hg;exact .inr (.inl iZ))
      have dm:g7<w6.heap.size+1->T1 g7=8/\g7<wo.heap.size:=by
       intro hlt;rcases bb.own g7 rfl with h2|h2
       ·exact⟨(ej g7 h2).2,(ej g7 h2).1⟩
       ·omega
      have cD:∀ {α:Type} {e:TypeId} {size:Nat} {enc:α->List Value} (x:Value) (y:List α),RowAt e size enc 0 x y w6->(∀g,x.ownBlock=some g->(g<wo.heap.size/\T1 g≠8/\T1 g≠1)\/wo.heap.size<=g)->RowAt e size enc 0 x y (w7.setCell ⟨W,6,none⟩ (.slice (some ⟨g7,0,none⟩) (fs.length+4) b6)):=by
       intro α e size enc x y h hx
       have h1:=bb.keepRow (h.gr jU) (fun g hg e=>by
        have h2:=ej g e;rcases hx g hg with h3|h3<;>omega)
       refine h1.other iT (fun g hg e=>?_);simp only[AE] at e;subst e;rcases hx W hg with h3|h3<;>omega
      have tG:L4.map Prod.snd=List.replicate 4 m:=by rw[Aa sM];rfl
      obtain⟨T',bX⟩:∃T':Nat->Nat,∀k,T' k=if k<wo.heap.size then (if T1 k=13 then 10 else T1 k) else if k=g5 then 5 else if k=g7 then 8 else 10:=⟨_,fun _=>rfl⟩
      have dL:∀k,k<wo.heap.size->T1 k≠13->T' k=T1 k:=fun k h1 h2=>by rw[bX,AQ h1,AO h2]
      have WB:NumsAt T' jb jc mZ (w7.setCell ⟨W,6,none⟩ (.slice (some ⟨g7,0,none⟩) (fs.length+4) b6)):=by
       obtain⟨a1,a2,a3⟩:=Aa fJ;refine⟨a1.keep2 jX (fun k hk=>by omega) (fun k hk hk2=>by rw[dL k hk (by omega)];exact hk2),a2.keep2 jX (fun k hk=>by omega) (fun k hk hk2=>by rw[dL k hk (by omega)];exact hk2),fun p hp=>?_⟩;obtain⟨j,hj⟩:=a3 p hp;exact⟨j,hj.keep2 jX (fun k hk=>by omega) (fun k hk hk2=>by rw[dL k hk (by omega)];exact hk2)⟩
      have nY:GrS (fun k=>T k=1\/T k=3\/T k=6\/T k=5\/T k=8\/InH (T k)) w (w7.setCell ⟨W,6,none⟩ (.slice (some ⟨g7,0,none⟩) (fs.length+4) b6)):=by
       refine((Aa fK).mono (fun k hk=>?_)).comp jX (fun k hk hn=>?_)
       ·rcases hk with h|h|h|⟨j,_,h⟩
        ·exact .inl h
        ·exact .inr (.inl h)
        ·exact .inr (.inr (.inl h))
        ·exact .inr (.inr (.inr (.inr (.inr ⟨by omega,by omega⟩))))
       ·have hI:¬ InH (T k):=fun h=>hn (.inr (.inr (.inr (.inr (.inr h)))))
        have h1:=Aa lY k hk (fun j hj e=>hI ⟨by omega,by omega⟩);rw[h1];rintro(h|h|h|h)
        ·exact hn (.inl h)
        ·exact hn (.inr (.inr (.inr (.inl h))))
        ·exact hn (.inr (.inr (.inr (.inr (.inl h)))))
        ·exact hI ⟨by omega,by omega⟩
      have yO:∀k,k<w.heap.size->¬ InH (T k)->T' k=T k:=by
       intro k hk hI;have h1:=Aa lY k hk (fun j hj e=>hI ⟨by omega,by omega⟩);rw[dL k (AZ hk (Aa fK).size) (by rw[h1];intro e;exact hI ⟨by omega,by omega⟩),h1]
      refine⟨rB.cell 6,rB.fz 6,rfl,T',jb,jc,mZ,.slice (some ⟨g5,0,none⟩) (fs.length+4) aI,.slice (some ⟨g7,0,none⟩) (fs.length+4) b6,fs++L4,rB.set 6 _,WB,⟨⟨?_,?_⟩,⟨?_,?_⟩,?_⟩,Aa tR,by rw[AK,Aa iq],nY,yO⟩
      ·refine cD _ _ pn (fun g hg=>?_)
       simp only[Value.ownBlock,AE] at hg;subst hg;by_cases hlt:g5<wo.heap.size
       ·have:=bN (by omega)
        exact .inl ⟨hlt,by omega,by omega⟩
       ·exact .inr (by omega)
      ·intro g hg
       simp only[Value.ownBlock,AE] at hg;subst hg;by_cases hlt:g5<wo.heap.size
       ·have:=bN (by omega)
        rw[dL g5 hlt (by omega)];exact this.1
       ·rw[bX,AO hlt,AQ rfl]
      ·rw[CA,tG]
       refine iy.other iT (fun g hg e=>?_);simp only[Value.ownBlock,AE] at hg e;subst hg;subst e;have:=dm (by omega);omega
      ·intro g hg
       simp only[Value.ownBlock,AE] at hg;subst hg;by_cases hlt:g7<wo.heap.size
       ·have:=dm (by omega)
        rw[dL g7 hlt (by omega)];exact this.1
       ·have hne:g7≠g5:=by
         intro e;have:=dm (by omega);omega
        rw[bX,AO hlt,AO hne,AQ rfl]
      ·have hnew:∀(v':Value) (k:Nat),(v'=.slice bE n aP\/v'=.slice (some ⟨g1,0,none⟩) (n+1) aX\/v'=.slice (some ⟨g2,0,none⟩) (n+2) aC\/v'=.slice (some ⟨g3,0,none⟩) (n+3) bA)->RowAt 52 2 ftenc 0 v' (List.replicate k (⟨m,.slice none 0 0,[]⟩:VFt)) w6->(∀g,v'.ownBlock=some g->g<w3.heap.size)->∃j,TRow T' 10 52 2 ftenc v' (List.replicate j (⟨m,.slice none 0 0,[]⟩:VFt)) (w7.setCell ⟨W,6,none⟩ (.slice (some ⟨g7,0,none⟩) (fs.length+4) b6)):=by
        intro v' k hv' h hlt;refine⟨k,cD v' _ h (fun g hg=>?_),fun g hg=>?_⟩
        ·rcases Aa HO v' hv' g hg with h3|h3
         ·exact .inl ⟨h3.1,by omega,by omega⟩
         ·exact .inr h3
        ·rcases Aa HO v' hv' g hg with h3|h3
         ·rw[bX,AQ h3.1,AQ h3.2]
         ·have hl:=hlt g hg
          have ze:g≠g5:=by
           intro e;have:=bN (by omega);omega
          have kn:g≠g7:=by
           intro e;have:=dm (by omega);omega
          rw[bX,AO (by omega),AO ze,AO kn]
       intro p hp;rcases AY.1 hp with hp|hp
       ·obtain⟨j,hj⟩:=Aa xr p hp
        exact⟨j,hj.keep2 jX (fun k hk=>by omega) (fun k hk hk2=>by rw[dL k hk (by omega)];exact hk2)⟩
       ·rw[Aa sM] at hp
        simp only[CR,FZ,JP] at hp;rcases hp with rfl|rfl|rfl|rfl
        ·exact hnew _ _ (.inl rfl) hw0 q0
        ·exact hnew _ _ (.inr (.inl rfl)) hw1 q1
        ·exact hnew _ _ (.inr (.inr (.inl rfl))) hw2 q2
        ·exact hnew _ _ (.inr (.inr (.inr rfl))) hw3 q3
     have jy:=Ac ig;have OZ:=Ac uR;have OJ:=Ac qD;have OC:=Ac oH;have OD:=Ac ix;have rD:=Aa oV;have hb1:(fs.map Prod.snd).length+(List.replicate 4 m).length<=maxLen:=by rw[BA,BO];unfold maxLen;omega
     have hb2:((fs.map Prod.snd).length+(List.replicate 4 m).length)*8<=140737488355328:=by rw[BA,BO];omega
     have s6:=Ac hb1;have s5:=Ac hb2;clear ig uR qD oH hb1 hb2 rD qU pn oI eE hw0 hw1 hw2 hw3 bC hlt3 q0 q1 q2 q3 bo iL iK bU bN ic ej o8 aR iM kT l6 eu hW3 rA gP qx qy jW ae jU vH ix;go_wp2_with fail;rw[Aa iq,Aa OD]
     go_region_law (rw[Aa OC];refine E1 rfl _ _ 35 rfl Tryz.underlying35 Tryz.infoInt rfl (by decide) (by simp[Act.eval]) (Aa OZ) (by simp[Act.eval]) (Aa OJ) (by simp) (fun y _=>B6 y) (Aa s6) (Aa s5) ?_;intro kv w7 iy bb;rw[BA,BO] at bb;obtain⟨g7,b6,rfl⟩:=bb.form;obtain⟨f1,f2,f3⟩:=Aa jy g7 b6 w7 iy bb;have F3:=Ac f3;clear f3 iy bb)
     all_goals
      go_wp2_with fail;go_end0
      have F4:=Aa F3;rw[<-Aa yg] at F4;exact F4
end Go.Proofs.YtolhbeekfjnfmaaGreatDoor

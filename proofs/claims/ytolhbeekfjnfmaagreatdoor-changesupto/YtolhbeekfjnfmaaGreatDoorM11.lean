import Derived.Test.YtolhbeekfjnfmaaGreatDoorM08
import Derived.Test.YtolhbeekfjnfmaaGreatDoorM10
set_option maxHeartbeats 8000000
set_option maxRecDepth 100000
namespace Go.Proofs.YtolhbeekfjnfmaaGreatDoor
open Go.RowKit
variable {w:World}{base:Nat}{v:Value}
theorem Q0k(f:Sv.Fact)(c:Sv.Cond)(fa ta:Option Addr)(fc tc:Nat)(bv:Value)(b:Sv.Bs)(w:World)
 (hf:IsAt 0 (.slice fa f.vals.length fc) f.vals w)(ht:TmsAt 0 (.slice ta c.terms.length tc) c.terms w)(hb:BsAt 0 bv b w)
 (PQ:f.vals.length<=4)(ZK:c.terms.length<=4)(hbl:b.length<=100)(dV:∀t∈c.terms,M1 t) :
  Calls Tryz.prog 121 #[.agg #[.int .i64 f.kind,.slice fa f.vals.length fc],.agg #[.bool c.neg,.int .i64 c.kind,.slice ta c.terms.length tc],bv] w fun e w'=>
   ∃ao n cap,e=.returned (.tuple #[.slice ao n cap,.bool (Ay f c b).isSome])/\w.grownBy w' none/\Hid (∀b',Ay f c b=some b'->BsAt w.heap.size (.slice ao n cap) b' w'):=by
 by_cases h:f.kind=(c.kind:Int)/\f.vals.length=c.terms.length
 ·have e:Ay f c b=B1 c.terms f.vals b:=by unfold Ay;rw[AQ h]
  refine(Ug f c fa ta fc tc bv b w hf ht hb h.1 h.2 ZK hbl dV _ e.symm).mono ?_;rintro x w'⟨hg,hp⟩;cases hm:Ay f c b with
  | none=>
   rw[hm] at hp;exact⟨none,0,0,hp,hg,by intro b' hb';cases hb'⟩
  | some b1=>
   rw[hm] at hp;obtain⟨u,rfl,hu⟩:=hp;obtain⟨ao,cap,rfl⟩:=hu.slice;exact⟨ao,_,cap,rfl,hg,by intro b' hb';cases hb';exact hu⟩
 ·have e:Ay f c b=none:=by unfold Ay;rw[AO h]
  refine(X8 f.kind c.kind c.neg fa ta _ fc _ tc bv w h (by omega) (by omega)).mono ?_;rintro x w'⟨hg,hp⟩;rw[e];exact⟨none,0,0,hp,hg,by intro b' hb';cases hb'⟩
structure VTh where
 id:Int
 kind:Int
 v:Value
 vals:List Int
def Hb(t:VTh):List Value:=[.int .i64 t.id,.int .i64 t.kind,t.v]
theorem Gi(t:VTh):(Hb t).length=3:=rfl
def VTh.of(t:VTh):Int×Sv.Fact:=(t.id,⟨t.kind,t.vals⟩)
structure VMt where
 rule:Int
 v:Value
 ids:List Int
def mtenc(m:VMt):List Value:=[.int .i64 m.rule,m.v]
theorem C4(m:VMt):(mtenc m).length=2:=rfl
def VMt.of(m:VMt):Int×List Int:=(m.rule,m.ids)
structure YAt(y:Nat)(rv lv cv fv:Value)(rs:List Sv.Rule)(L:List VTh)(w:World):Prop where
 blk:w.heap[y]?=some (.cells #[rv,lv,cv,fv] 172 (0,0))
 rules:VRsAt 0 rv rs w
 facts:RowAt 176 3 Hb 0 lv L w
 vals:∀t∈L,IsAt 0 t.v t.vals w/\t.vals.length<=4
theorem YAt.gr{y:Nat}{rv lv cv fv:Value}{rs:List Sv.Rule}{L:List VTh}{w w':World}(h:YAt y rv lv cv fv rs L w)(hg:w.grownBy w' none):YAt y rv lv cv fv rs L w':=
 ⟨by rw[hg.block y (Ad h.blk) (by simp)];exact h.blk,h.rules.none hg,h.facts.gr hg,fun t ht=>⟨(h.vals t ht).1.gr hg,(h.vals t ht).2⟩⟩
theorem YAt.c{y:Nat}{rv lv cv fv:Value}{rs:List Sv.Rule}{L:List VTh}(h:YAt y rv lv cv fv rs L w):w.cell? ⟨y,0,none⟩=some rv/\w.cell? ⟨y,1,none⟩=some lv/\w.cell? ⟨y,2,none⟩=some cv/\w.cell? ⟨y,3,none⟩=some fv:=by
 have:=h.blk;refine⟨?_,?_,?_,?_⟩<;>simp[World.cell?,this]
def MsAt(base:Nat)(v:Value)(ms:List VMt)(w:World):Prop:=RowAt 52 2 mtenc base v ms w/\∀m∈ms,IsAt base m.v m.ids w
theorem MsAt.gr{base:Nat}{v:Value}{ms:List VMt}{w w':World}(h:MsAt base v ms w)(hg:w.grownBy w' none):MsAt base v ms w':=⟨h.1.gr hg,fun m hm=>(h.2 m hm).gr hg⟩
theorem VTsAt.tms{ts:List Sv.Term}(h:VTsAt base v ts w):TmsAt base v ts w:=⟨fun _=>rfl,h⟩
theorem Tryz.infoMatch:(Tryz.prog.info? 52).map (fun i=>(i.zero,i.size,i.bytes))=some (some (.agg #[.int .i64 0,.slice none 0 0]),2,32):=by kernel_rfl
def Mr(r:Nat)(L:List VTh)(cs:List Sv.Cond)(b:Sv.Bs)(ids:List Int)(w:World)(e:Ending)(w':World):Prop:=
 ∃u ms,e=.returned u/\MsAt w.heap.size u ms w'/\ms.map VMt.of=(Ar (L.map VTh.of) cs b ids).map (fun x=>((r:Int),x))/\w.grownBy w' none
theorem X5(y:Nat)(rv lv cv fv:Value)(rs:List Sv.Rule)(L:List VTh)(r:Nat)(q:Sv.Rule)(b:Sv.Bs)(bv:Value)(ids:List Int)(iv:Value)(w:World)
 (hy:YAt y rv lv cv fv rs L w)(hq:rs[r]?=some q)(_hr8:rs.length<=8)(_hc4:q.conds.length<=4)(hi:IsAt 0 iv ids w)(eE:ids.length<=4) :
  Calls Tryz.prog 84 #[.pointer (some ⟨y,0,none⟩),.int .i64 r,.int .i64 q.conds.length,bv,iv] w fun e w'=>Mr r L [] b ids w e w':=by
 obtain⟨y0,y1,y2,y3⟩:=hy.c;have hr:r<rs.length:=(AL.1 hq).1;obtain⟨g,cap',bf,aC,hv,q0,q1,hcs⟩:=hy.rules.cells hq;subst hv;have hd:((q.conds.length:Int)==(q.conds.length:Int))=true:=by simp
 clear hcs hy;go_enter Tryz.func84,Tryz.ntmps84
 go_wp2_with (at_builtin;refine Db rfl _ _ 35 rfl Tryz.underlying35 Tryz.infoInt rfl (by decide) rfl (RowAt.lit0 At w) rfl (hi.gr (AA w (.cells #[] 3) none)) (fun y _=>B7 y) (by unfold maxLen;simp;omega) (by simp;omega) (by simp) ?_)
 intro v1 w1 aS hg1;have bC:=C0 (AA w (.cells #[] 3) none) hg1 (fun g hg=>by simp[Value.ownBlock] at hg;omega);obtain⟨ao,cap,rfl⟩:=aS.slice;clear hg1 hi q0 q1 y0 y1 y2 y3;go_wp2;go_ret;have a7:=AA w1 (.cells #[.int .i64 r,.slice ao ids.length cap] 52) none;refine⟨_,[⟨r,.slice ao ids.length cap,ids⟩],rfl,⟨(RowAt.lit1 C4 w1 ⟨r,.slice ao ids.length cap,ids⟩ #[.int .i64 r,.slice ao ids.length cap] rfl).weak bC.size,?_⟩,by simp[Ar,VMt.of],Ab bC a7⟩;intro m hm;simp only[AX] at hm;subst hm;exact aS.gr a7
def Q1(y:Nat)(rv lv cv fv:Value)(rs:List Sv.Rule)(L:List VTh)(r:Nat)(q:Sv.Rule)(k:Nat):Prop:=
 ∀(b:Sv.Bs) (bv:Value) (ids:List Int) (iv:Value) (w:World),YAt y rv lv cv fv rs L w->BsAt 0 bv b w->IsAt 0 iv ids w->b.length<=4*k->ids.length<=k->
  Calls Tryz.prog 84 #[.pointer (some ⟨y,0,none⟩),.int .i64 r,.int .i64 k,bv,iv] w fun e w'=>Mr r L (q.conds.drop k) b ids w e w'
theorem Q0y(a b:Nat)(h:a≠b):((a:Int)==(b:Int))=false:=by
 simp only[beq_eq_false_iff_ne,ne_eq];omega
def D7(r:Nat)(c:Sv.Cond)(cs:List Sv.Cond)(A:List (Int×Sv.Fact))(b:Sv.Bs)(ids:List Int)(l:List (Int×Sv.Fact)):List (Int×List Int):=
 if c.neg=true then [] else l.flatMap fun p=>match Ay p.2 c b with
  | none=>[]
  | some b'=>(Ar A cs b' (ids++[p.1])).map (fun x=>((r:Int),x))
def Ew(c:Sv.Cond)(b:Sv.Bs)(l:List (Int×Sv.Fact)):Bool:=c.neg&&l.any (fun p=>(Ay p.2 c b).isSome)
theorem Pu(r:Nat)(c:Sv.Cond)(cs:List Sv.Cond)(A:List (Int×Sv.Fact))(b:Sv.Bs)(ids:List Int)(h:c.neg=false) :
  D7 r c cs A b ids A=(Ar A (c::cs) b ids).map (fun x=>((r:Int),x)):=by
 have e:Ar A (c::cs) b ids=A.flatMap (fun p=>match Ay p.2 c b with
   | none=>[]
   | some b'=>Ar A cs b' (ids++[p.1])):=by
  rw[Ar,AO (by simp[h])];rfl
 unfold D7;rw[e,AO (by simp[h]),JY];congr 1
 funext p;cases Ay p.2 c b<;>rfl
theorem Mw(c:Sv.Cond)(cs:List Sv.Cond)(A:List (Int×Sv.Fact))(b:Sv.Bs)(ids:List Int)(h:c.neg=true):Ar A (c::cs) b ids=if Ew c b A=true then [] else Ar A cs b ids:=by
 rw[Ar,AQ h];unfold Ew;rw[h,EN]
theorem Oa(r:Nat)(c:Sv.Cond)(cs:List Sv.Cond)(A:List (Int×Sv.Fact))(b:Sv.Bs)(ids:List Int)(l:List (Int×Sv.Fact))(p:Int×Sv.Fact) :
  D7 r c cs A b ids (l++[p])=D7 r c cs A b ids l++(if c.neg=true then [] else match Ay p.2 c b with
   | none=>[]
   | some b'=>(Ar A cs b' (ids++[p.1])).map (fun x=>((r:Int),x))):=by
 unfold D7;split
 ·rfl
 ·rw[CO,List.flatMap_singleton]
theorem Mx(c:Sv.Cond)(b:Sv.Bs)(l:List (Int×Sv.Fact))(p:Int×Sv.Fact):Ew c b (l++[p])=(Ew c b l||(c.neg&&(Ay p.2 c b).isSome)):=by
 unfold Ew;rw[ES,Bool.and_or_distrib_left];simp
theorem C9{α β:Type}(f:α->β)(l:List α)(i:Nat)(a:α)(h:l[i]?=some a):(l.take (i+1)).map f=(l.take i).map f++[f a]:=by
 rw[CZ,h,CG];rfl
theorem Ec(A:List (Int×Sv.Fact))(hA:A.length<=16)(cs:List Sv.Cond)(b:Sv.Bs)(ids:List Int)(hc:cs.length<=4):(Ar A cs b ids).length<=65536:=
 AU (D3 A hA cs b ids) (AU (DL (by omega) hc) (by decide))
theorem Pv(r:Nat)(c:Sv.Cond)(cs:List Sv.Cond)(A:List (Int×Sv.Fact))(b:Sv.Bs)(ids:List Int)(l:List (Int×Sv.Fact))(hA:A.length<=16)(hl:l.length<=16)(hc:cs.length<=4):(D7 r c cs A b ids l).length<=1048576:=by
 unfold D7;split
 ·simp
 ·refine AU (E0 _ 65536 l ?_) ?_
  ·intro p _
   cases Ay p.2 c b with
   | none=>simp
   | some b'=>
    simp only[BA];exact Ec A hA cs b' _ hc
  ·have:=BW 65536 hl
   omega
theorem Gg(m:VMt)(h:m.v.oneCell'=true):∀c∈mtenc m,c.oneCell'=true:=by
 intro c hc;simp[mtenc] at hc;rcases hc with rfl|rfl
 ·rfl
 ·exact h
theorem MsAt.one{ms:List VMt}(h:MsAt base v ms w):∀m∈ms,∀c∈mtenc m,c.oneCell'=true:=by
 intro m hm;obtain⟨ao,cap,e⟩:=(h.2 m hm).slice;exact Gg m (by rw[e];rfl)
theorem MsAt.slice{base:Nat}{v:Value}{ms:List VMt}{w:World}(h:MsAt base v ms w):∃ao cap,v=.slice ao ms.length cap:=h.1.slice
theorem Uf(y:Nat)(rv lv cv fv:Value)(rs:List Sv.Rule)(L:List VTh)(r:Nat)(q:Sv.Rule)(k:Nat)(c:Sv.Cond)(b:Sv.Bs)(bv:Value)(ids:List Int)(iv:Value)(w:World)
 (hy:YAt y rv lv cv fv rs L w)(hq:rs[r]?=some q)(_hr8:rs.length<=8)(hc4:q.conds.length<=4)(hL:L.length<=16)(hck:q.conds[k]?=some c)(dR:c.terms.length<=4)(dV:∀t∈c.terms,M1 t)
 (hb:BsAt 0 bv b w)(hi:IsAt 0 iv ids w)(hbl:b.length<=4*k)(eE:ids.length<=k)(ih:Q1 y rv lv cv fv rs L r q (k+1)) :
  Calls Tryz.prog 84 #[.pointer (some ⟨y,0,none⟩),.int .i64 r,.int .i64 k,bv,iv] w fun e w'=>Mr r L (q.conds.drop k) b ids w e w':=by
 have hr:r<rs.length:=(AL.1 hq).1;have hk:k<q.conds.length:=(AL.1 hck).1;have tZ:=A0 hck;obtain⟨g,cap',bf,aC,hv,q0,q1,hcs⟩:=hy.rules.cells hq;subst hv;obtain⟨y0,y1,y2,y3⟩:=hy.c;obtain⟨g2,b8,mo,dZ,hv2,p0,p1,p2,bm⟩:=hcs.cells hck;simp only[AH,BP] at hv2;obtain⟨rfl,rfl⟩:=hv2;obtain⟨oq,gA,rfl⟩:=hy.facts.slice;have hd:((k:Int)==(q.conds.length:Int))=false:=Q0y _ _ (by omega);have HY:=Ac hy;have HT:=Ac bm.tms;have HB:=Ac hb;have HI:=Ac hi;have HS:=Ac dV;have rS:=Ac ih;have HD:=Ac tZ;clear hcs hy bm hb hi dV hck ih hq tZ;obtain⟨cs,zx⟩:∃cs,q.conds.drop (k+1)=cs:=⟨_,rfl⟩
 have OG:=Ac zx;clear zx;go_enter Tryz.func84,Tryz.ntmps84;go_wp2;go_loopw [12,13,14] (fun x h z w'=>∃(i:Nat) (acc:List VMt),i<=L.length/\MsAt w.heap.size x acc w'/\acc.map VMt.of=D7 r c cs (L.map VTh.of) b ids ((L.take i).map VTh.of)/\h=.bool (Ew c b ((L.take i).map VTh.of))/\z=.int .i64 i/\w.grownBy w' none) (fun _ _ z _=>L.length-(intOf z).toNat)
 case atStart=>
  refine⟨0,[],AG _,⟨RowAt.nil _ _ C4,by simp⟩,?_,?_,rfl,AD _ _⟩
  ·simp[D7]
  ·simp[Ew]
 case round=>
  obtain⟨i,acc,hiL,aX,zX,rfl,rfl,hg⟩:=hrel;obtain⟨kZ,eC,rfl⟩:=aX.slice;have sZ:=hg.cell y1 (by simp);have ui:=hg.cell p0 (by simp);have RJ:=hg.cell p1 (by simp);have p2':=hg.cell p2 (by simp);generalize hH:Ew c b ((L.take i).map VTh.of)=h0;have HH:=Ac hH;have HG:=Ac zX;clear hH zX y0 y2 y3 q0 q1;by_cases hlt:i<L.length
  ·have cY:decide (i<L.length)=true:=by simpa using hlt
   obtain⟨t,pC⟩:∃t,L[i]?=some t:=⟨L[i],AB hlt⟩
   obtain⟨gS,hv4⟩:=(Aa HY).vals t (AV pC);obtain⟨fa,fc,fK⟩:=gS.slice;obtain⟨gL,cpL,YR,PT⟩:=((Aa HY).facts.gr hg).cells pC;simp only[AH,BP] at YR;obtain⟨rfl,rfl⟩:=YR;have t0:wr.cell? ⟨gL,i*3,none⟩=some (.int .i64 t.id):=PT 0 (by omega);have t1:wr.cell? ⟨gL,i*3+1,none⟩=some (.int .i64 t.kind):=PT 1 (by omega);have t2:wr.cell? ⟨gL,i*3+2,none⟩=some t.v:=PT 2 (by omega);rw[fK] at t2 gS;have hm:=fun(W:World) (hW:wr.grownBy W none)=>Q0k ⟨t.kind,t.vals⟩ c fa mo fc dZ bv b W (gS.gr (Ab hg hW)) ((Aa HT).gr (Ab hg hW)) ((Aa HB).gr (Ab hg hW)) hv4 dR (by omega) (Aa HS)
   have gX:=Oa r c cs (L.map VTh.of) b ids ((L.take i).map VTh.of) t.of;have eG:=Mx c b ((L.take i).map VTh.of) t.of;rw[<-C9 VTh.of L i t pC,<-Aa HG] at gX;have sX:=Ac (Aa HG);rw[<-C9 VTh.of L i t pC,Aa HH] at eG;have PC:(t.of).2=⟨t.kind,t.vals⟩:=rfl;rw[PC] at gX eG;have ki:=Ac gX;have kh:=Ac eG;clear gX eG gS PT pC fK PC HG HH;obtain⟨R,hR⟩:∃R,Ay ⟨t.kind,t.vals⟩ c b=R:=⟨_,rfl⟩
   have hRl:∀b',R=some b'->b'.length<=4*(k+1):=by
    intro b' hb';have:=Oc _ c b b' (hR.trans hb');omega
   rw[hR] at hm;have gX:=Aa ki;have eG:=Aa kh;rw[hR] at gX eG;clear ki kh hR;have ki:=Ac gX;have kh:=Ac eG;have WS:=Ac hRl;clear gX eG hRl;obtain⟨ok,aK⟩:∃ok,R.isSome=ok:=⟨_,rfl⟩
   rw[aK] at hm;have fe:=Ac aK;clear aK;obtain⟨neg,aJ⟩:∃neg,c.neg=neg:=⟨_,rfl⟩
   rw[aJ] at ui hm;have xF:=Ac aJ;clear aJ;go_wp2_with fail
   go_cut [15,16] (fun m o wx=>∃ao n cap,m=.slice ao n cap/\o=.bool ok/\wr.grownBy wx none/\Hid (∀b',R=some b'->BsAt 0 (.slice ao n cap) b' wx)) 
   case first=>
    go_region_with (go_at_call 121;refine(hm _ (by repeat (first|exact AD _ _|apply Ah))).mono ?_;rintro e w2⟨gK,n5,aI,rfl,hg2,hB2⟩)
    all_goals
     go_wp2_with fail;go_meet
     exact⟨gK,n5,aI,rfl,rfl,Ab (Ah (AD _ _)) hg2,fun b' hb'=>(Aa hB2 b' hb').weak (AG _)⟩
   case rest=>
    obtain⟨gK,n5,aI,rfl,rfl,hg2,hB2⟩:=hcut;have bI:=Ab hg hg2;have cS:=aX.gr hg2;have xN:=hg2.cell sZ (by simp);have XZ:=hg2.cell ui (by simp);have RG:=hg2.cell t0 (by simp);clear hm hg2 sZ ui RJ p2' t0 t1 t2 hg aX;cases ok
    ·have hR:=Aa fe
     simp only[Option.isSome_eq_false_iff,Option.isNone_iff_eq_none] at hR;have h1:=Aa ki;have h2:=Aa kh;rw[hR] at h1 h2;simp only[ite_self,BM,Option.isSome_none,KG,IP] at h1 h2;have H1:=Ac h1;have H2:=Ac h2;clear h1 h2 hR ki kh;go_wp2;go_roundw
     case rel=>exact⟨i+1,acc,by omega,cS,(Aa H1).symm,by rw[Aa H2],by go_num,bI⟩
     case measure=>simp[intOf];omega
    ·obtain⟨b',hb'⟩:=Option.isSome_iff_exists.1 (Aa fe)
     have hB:=Aa hB2 b' hb';have LJ:=Aa WS b' hb';have h1:=Aa ki;have h2:=Aa kh;rw[hb'] at h1 h2;cases neg
     ·have et:=Aa xF
      rw[et] at h1 h2;simp only[BZ,if_false,DT,IP] at h1 h2;have H1:=Ac h1;have H2:=Ac h2;clear h1 h2 ki kh hB2 hb' WS fe;have hIc:=(Aa HI).gr bI;have hYc:=(Aa HY).gr bI
      go_wp2_with (at_builtin;refine Db rfl _ _ 35 rfl Tryz.underlying35 Tryz.infoInt rfl (by decide) rfl (RowAt.nil wc.heap.size _ At) rfl hIc (fun y _=>B7 y) (by unfold maxLen;simp;omega) (by simp;omega) (AW _) ?_)
      intro v1 w1 aS hg1;have eJ:wc.grownBy w1 none:=hg1;obtain⟨ao6,cap6,rfl⟩:=aS.slice;have y13:=eJ.cell xN (by simp);have t03:=eJ.cell RG (by simp);have a7:=AA w1 (.cells #[.int .i64 t.id] 3) none;have eV:=aS.gr a7;have aG:IsAt 0 _ [t.id] (w1.alloc (.cells #[.int .i64 t.id] 3)):=(RowAt.lit1 At w1 t.id #[.int .i64 t.id] rfl).weak (AG _)
      go_wp2_with (at_builtin;refine Db rfl _ _ 35 rfl Tryz.underlying35 Tryz.infoInt rfl (by decide) rfl eV rfl aG (fun y _=>B7 y) (by unfold maxLen;simp;omega) (by simp;omega) (AU eJ.size a7.size) ?_)
      intro v2 w2 hv2 hg2;have pn:=C0 (Ab eJ a7) hg2 (fun x hx=>(eV.own x hx).1);obtain⟨ao7,aw,rfl⟩:=hv2.slice;rw[AK,BC] at hv2;have dH:=Aa rS b' _ (ids++[t.id]) _ w2 (hYc.gr pn) (hB.gr pn) (hv2.weak (AG _)) LJ (by simp;omega);have ir:=cS.gr pn;have XY:=pn.cell XZ (by simp);have pj:=Ab bI pn;clear aS eV hg1 eJ a7 aG hg2 hv2 xN y13 RG t03 XZ hB hIc hYc cS;have hcast:((k+1:Nat):Int)=(k:Int)+1:=by omega
      rw[hcast] at dH
      have tM:acc.length<=1048576:=by
       have e1:=BJ List.length (Aa sX);rw[BA] at e1;rw[e1];exact Pv r c cs (L.map VTh.of) b ids _ (by simp;omega) (by simp;omega) (by rw[<-Aa OG];simp;omega)
      have HLA:=Ac tM;have tK:=Ec (L.map VTh.of) (by simp;omega) (q.conds.drop (k+1)) b' (ids++[t.id]) (by simp;omega);have HLB:=Ac tK;clear tM tK;go_wp2_with fail;refine dH.mono ?_;rintro e w3⟨u,ms,rfl,cV,hmap,hg3⟩
      have pS:acc.length+ms.length<=1114112:=by
       have e1:=BJ List.length hmap;rw[BA,BA] at e1;have e2:=Aa HLA;have e3:=Aa HLB;omega
      have qI:acc.length+ms.length<=maxLen:=by unfold maxLen;omega
      have qH:(acc.length+ms.length)*32<=140737488355328:=by omega
      have fD:=Ac qI;have fQ:=Ac qH;have xG:=Ac hmap;clear pS qI qH hmap HLA HLB;obtain⟨oO,eO,rfl⟩:=cV.slice;have e8:=ir.gr hg3;have p04:=hg3.cell XY (by simp);have mD:=Ab pj hg3;have hrow:=RowOk.of e8.1.2;have er:=e8.1.own;have pP:RowAt 52 2 mtenc 0 _ ms w3:=cV.1.weak (AG _);have jN:w.heap.size<=w3.heap.size:=mD.size;have kO:w.heap.size<=w2.heap.size:=pj.size;clear dH hg3 pj ir XY
      go_wp2_with (at_builtin;refine Db rfl _ _ 43 rfl Tryz.underlying43 Tryz.infoMatch rfl (by decide) rfl e8.1 rfl pP (fun m hm=>cV.one m hm) (Aa fD) (Aa fQ) jN ?_)
      intro v5 w5 ax aY;obtain⟨QP,sP,rfl⟩:=ax.slice;have jH:=C0 mD aY (fun x hx=>(er x hx).1)
      have kE:MsAt w.heap.size (.slice QP (acc++ms).length sP) (acc++ms) w5:=by
       refine⟨ax,fun m hm=>?_⟩;rcases AY.1 hm with hm|hm
       ·exact(e8.2 m hm).row aY hrow (by decide)
       ·exact((cV.2 m hm).weak kO).row aY hrow (by decide)
      have tG:(acc++ms).map VMt.of=D7 r c cs (L.map VTh.of) b ids ((L.take (i+1)).map VTh.of):=by
       rw[CG,Aa xG,Aa OG,Aa H1];rfl
      have XA:=Ac tG;clear tG xG fD fQ ax aY e8 cV pP hrow er mD p04;go_wp2;go_roundw
      case rel=>exact⟨i+1,acc++ms,by omega,kE,Aa XA,by rw[Aa H2],by go_num,jH⟩
      case measure=>simp[intOf];omega
     ·have et:=Aa xF
      rw[et] at h1 h2;simp only[if_true,BM,Option.isSome_some,KJ,Bool.or_true] at h1 h2;have H1:=Ac h1;have H2:=Ac h2;clear h1 h2 ki kh hB2 hb' WS fe hB LJ;go_wp2;go_roundw
      case rel=>exact⟨i+1,acc,by omega,cS,(Aa H1).symm,by rw[Aa H2],by go_num,bI⟩
      case measure=>simp[intOf];omega
  ·have cY:decide (i<L.length)=false:=by simpa using hlt
   have hall:L.take i=L:=CA (by omega);have hG:=Aa HG;have QF:=Aa HH;rw[hall] at hG QF;clear HG HH;cases aJ:c.neg
   ·rw[aJ] at ui
    rw[Pu r c cs _ b ids aJ] at hG;have HG:=Ac hG;have HN:=Ac aJ;clear hG QF aJ;go_wp2;go_ret;refine⟨_,acc,rfl,aX,?_,hg⟩;rw[Aa HG,Aa HD,Aa OG]
   ·rw[aJ] at ui
    have hF:=Mw c cs (L.map VTh.of) b ids aJ;rw[QF] at hF
    have hA:acc=[]:=by
     have:D7 r c cs (L.map VTh.of) b ids (L.map VTh.of)=[]:=by unfold D7;rw[AQ aJ]
     rw[this] at hG;exact List.map_eq_nil_iff.1 hG
    have HF:=Ac hF;have HA:=Ac hA;clear hG QF aJ hF hA;cases h0
    ·have dH:=Aa rS b bv ids iv wr ((Aa HY).gr hg) ((Aa HB).gr hg) ((Aa HI).gr hg) (by omega) (by omega)
     have hcast:((k+1:Nat):Int)=(k:Int)+1:=by omega
     rw[hcast] at dH;go_wp2_with fail;refine dH.mono ?_;rintro e w3⟨u,ms,rfl,cV,hmap,hg3⟩;go_wp2;go_ret;refine⟨_,ms,rfl,?_,?_,Ab hg hg3⟩
     ·exact⟨cV.1.weak hg.size,fun m hm=>(cV.2 m hm).weak hg.size⟩
     ·rw[hmap,Aa HD,Aa OG,Aa HF]
      rfl
    ·go_wp2
     go_ret;refine⟨_,acc,rfl,aX,?_,hg⟩;rw[Aa HA,Aa HD,Aa OG,Aa HF];rfl
theorem X6(y:Nat)(rv lv cv fv:Value)(rs:List Sv.Rule)(L:List VTh)(r:Nat)(q:Sv.Rule)(hq:rs[r]?=some q)(aK:Sv.RsOk rs)(hL:L.length<=16) :
  ∀(m k:Nat),k+m=q.conds.length->Q1 y rv lv cv fv rs L r q k
 | 0,k,h=>by
  intro b bv ids iv w hy _ hi _ eE;have rj:=AV hq;have h4:=aK.conds q rj;have e:k=q.conds.length:=by omega
  subst e;rw[List.drop_length];exact X5 y rv lv cv fv rs L r q b bv ids iv w hy hq aK.len h4 hi (by omega)
 | m+1,k,h=>by
  intro b bv ids iv w hy hb hi hbl eE;have rj:=AV hq;have hk:k<q.conds.length:=by omega
  have hck:q.conds[k]?=some q.conds[k]:=AB hk;have hcm:=AV hck
  exact Uf y rv lv cv fv rs L r q k q.conds[k] b bv ids iv w hy hq aK.len (aK.conds q rj) hL hck (aK.terms q rj _ hcm) (aK.shape q rj _ hcm) hb hi hbl eE
   (X6 y rv lv cv fv rs L r q hq aK hL m (k+1) (by omega))
theorem J8(L:List (Int×Sv.Fact)):∀(a b:List Sv.Rule) (r:Nat),Bo L r (a++b)=Bo L r a++Bo L (r+a.length) b
 | [],b,r=>by simp[Bo]
 | q::a,b,r=>by
  rw[CN,Bo,Bo,J8 L a b (r+1),AP,BQ];congr 3
  omega
theorem Px(L:List (Int×Sv.Fact))(rs:List Sv.Rule)(r:Nat)(q:Sv.Rule)(h:rs[r]?=some q) :
  Bo L 0 (rs.take (r+1))=Bo L 0 (rs.take r)++(Ar L q.conds [] []).map (fun x=>((r:Int),x)):=by
 have hlt:=(AL.1 h).1;rw[CZ,h,J8,BL,BV,CB (by omega)];simp[Bo]
theorem J9(L:List (Int×Sv.Fact))(hL:L.length<=16):∀(rs:List Sv.Rule) (r:Nat),(∀q∈rs,q.conds.length<=4)->(Bo L r rs).length<=rs.length*65536
 | [],r,_=>by simp[Bo]
 | q::rs,r,h=>by
  have h1:=J9 L hL rs (r+1) (fun x hx=>h x (BG _ hx));have h2:=Ec L hL q.conds [] [] (h q (BF ..));rw[Bo,AK,BA,AP,IC];omega
def Un(rs:List Sv.Rule)(L:List VTh)(w:World)(e:Ending)(w':World):Prop:=
 ∃u ms,e=.returned u/\MsAt w.heap.size u ms w'/\ms.map VMt.of=Al rs (L.map VTh.of)/\w.grownBy w' none
theorem Ir(y:Nat)(rv lv cv fv:Value)(rs:List Sv.Rule)(L:List VTh)(w:World)(hy:YAt y rv lv cv fv rs L w)(aK:Sv.RsOk rs)(hL:L.length<=16) :
  Calls Tryz.prog 56 #[.pointer (some ⟨y,0,none⟩)] w fun e w'=>Un rs L w e w':=by
 have YX:=aK.len;obtain⟨y0,y1,y2,y3⟩:=hy.c;obtain⟨aoR,capR,rfl⟩:=hy.rules.slice;have HY:=Ac hy;have HO:=Ac aK;clear hy aK y1 y2 y3;go_enter Tryz.func56,Tryz.ntmps56;go_wp2;go_loopw [3,4] (fun x z w'=>∃(i:Nat) (acc:List VMt),i<=rs.length/\MsAt w.heap.size x acc w'/\acc.map VMt.of=Bo (L.map VTh.of) 0 (rs.take i)/\z=.int .i64 i/\w.grownBy w' none) (fun _ z _=>rs.length-(intOf z).toNat)
 case atStart=>exact⟨0,[],AG _,⟨RowAt.nil _ _ C4,by simp⟩,by simp[Bo],rfl,AD _ _⟩
 case round=>
  obtain⟨i,acc,hiR,aX,hmap,rfl,hg⟩:=hrel;obtain⟨kZ,eC,rfl⟩:=aX.slice;have y0':=hg.cell y0 (by simp);have HM:=Ac hmap;clear hmap;by_cases hlt:i<rs.length
  ·have cY:decide (i<rs.length)=true:=by simpa using hlt
   have hq:rs[i]?=some rs[i]:=AB hlt;have hF:=X6 y _ lv cv fv rs L i rs[i] hq (Aa HO) hL rs[i].conds.length 0 (by omega) [] (.slice none 0 0) [] (.slice none 0 0) wr ((Aa HY).gr hg) (RowAt.nil _ _ M7) (RowAt.nil _ _ At) (by simp) (by simp);have hst:=Px (L.map VTh.of) rs i rs[i] hq
   have eI:acc.length<=8*65536:=by
    have e1:=BJ List.length (Aa HM);rw[BA] at e1;rw[e1];refine AU (J9 _ (by simp;omega) _ 0 (fun q hq=>(Aa HO).conds q (EH hq))) (BW _ ?_);rw[BL];omega
   have hl2:=Ec (L.map VTh.of) (by simp;omega) rs[i].conds [] [] ((Aa HO).conds _ (AV hq));rw[<-Aa HM] at hst;have HST:=Ac hst;have HL1:=Ac eI;have NW:=Ac hl2;clear hst eI hl2 hq;go_wp2_with fail;refine hF.mono ?_;rintro e w3⟨u,ms,rfl,cV,vR,hg3⟩;rw[IH] at vR
   have pS:acc.length+ms.length<=589824:=by
    have e1:=BJ List.length vR;rw[BA,BA] at e1;have e2:=Aa HL1;have e3:=Aa NW;omega
   have qI:acc.length+ms.length<=maxLen:=by unfold maxLen;omega
   have qH:(acc.length+ms.length)*32<=140737488355328:=by omega
   have fD:=Ac qI;have fQ:=Ac qH;have xG:=Ac vR;clear pS qI qH vR HL1 NW;obtain⟨oO,eO,rfl⟩:=cV.slice;have e8:=aX.gr hg3;have mD:=Ab hg hg3;have hrow:=RowOk.of e8.1.2;have er:=e8.1.own;have pP:RowAt 52 2 mtenc 0 _ ms w3:=cV.1.weak (AG _);have jN:w.heap.size<=w3.heap.size:=mD.size;have kO:w.heap.size<=wr.heap.size:=hg.size;clear hF hg3 aX
   go_wp2_with (at_builtin;refine Db rfl _ _ 43 rfl Tryz.underlying43 Tryz.infoMatch rfl (by decide) rfl e8.1 rfl pP (fun m hm=>cV.one m hm) (Aa fD) (Aa fQ) jN ?_)
   intro v5 w5 ax aY;obtain⟨QP,sP,rfl⟩:=ax.slice;have jH:=C0 mD aY (fun x hx=>(er x hx).1)
   have kE:MsAt w.heap.size (.slice QP (acc++ms).length sP) (acc++ms) w5:=by
    refine⟨ax,fun m hm=>?_⟩;rcases AY.1 hm with hm|hm
    ·exact(e8.2 m hm).row aY hrow (by decide)
    ·exact((cV.2 m hm).weak kO).row aY hrow (by decide)
   have XA:Hid ((acc++ms).map VMt.of=Bo (L.map VTh.of) 0 (rs.take (i+1))):=by
    unfold Hid;rw[CG,Aa xG,Aa HST]
   clear xG fD fQ ax aY e8 cV pP hrow er mD;go_wp2;go_roundw
   case rel=>exact⟨i+1,acc++ms,by omega,kE,Aa XA,by go_num,jH⟩
   case measure=>simp[intOf];omega
  ·have cY:decide (i<rs.length)=false:=by simpa using hlt
   have hall:rs.take i=rs:=CA (by omega);go_wp2;go_ret;refine⟨_,acc,rfl,aX,?_,hg⟩;rw[Aa HM,hall];rfl
end Go.Proofs.YtolhbeekfjnfmaaGreatDoor

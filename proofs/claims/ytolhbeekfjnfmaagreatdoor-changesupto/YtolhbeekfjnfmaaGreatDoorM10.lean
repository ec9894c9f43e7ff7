import Derived.Test.YtolhbeekfjnfmaaGreatDoorMA
import Derived.Deep.DeepCutAuto
import Derived.Test.YtolhbeekfjnfmaaGreatDoorM07
import Derived.Test.YtolhbeekfjnfmaaGreatDoorM09
set_option maxHeartbeats 8000000
set_option maxRecDepth 100000
namespace Go.Proofs.YtolhbeekfjnfmaaGreatDoor
open Go.RowKit
variable {w:World}{base:Nat}{v:Value}
theorem Zg(f:Sv.Fact)(c:Sv.Cond)(fa ta:Option Addr)(fc tc:Nat)(bv:Value)(b:Sv.Bs)(w:World)
 (hf:IsAt 0 (.slice fa f.vals.length fc) f.vals w)(ht:TmsAt 0 (.slice ta c.terms.length tc) c.terms w)(hb:BsAt 0 bv b w)
 (QO:f.vals.length<=4)(ZY:c.terms.length<=4)(hbl:b.length<=100)(dt:∀t∈c.terms,Nw t) :
  Calls Tryz.prog 121 #[.agg #[.int .i64 f.kind,.slice fa f.vals.length fc],.agg #[.bool c.neg,.int .i64 c.kind,.slice ta c.terms.length tc],bv] w fun e w'=>
   ∃ao n cap,e=.returned (.tuple #[.slice ao n cap,.bool (Ay f c b).isSome])/\w.grownBy w' none/\Hid (∀b',Ay f c b=some b'->BsAt w.heap.size (.slice ao n cap) b' w'):=by
 by_cases h:f.kind=(c.kind:Int)/\f.vals.length=c.terms.length
 ·have e:Ay f c b=B1 c.terms f.vals b:=by unfold Ay;rw[AQ h]
  refine(Td f c fa ta fc tc bv b w hf ht hb h.1 h.2 ZY hbl dt _ e.symm).mono ?_;rintro x w'⟨hg,hp⟩;cases hm:Ay f c b with
  | none=>
   rw[hm] at hp;exact⟨none,0,0,hp,hg,by intro b' hb';cases hb'⟩
  | some b1=>
   rw[hm] at hp;obtain⟨u,rfl,hu⟩:=hp;obtain⟨ao,cap,rfl⟩:=hu.slice;exact⟨ao,_,cap,rfl,hg,by intro b' hb';cases hb';exact hu⟩
 ·have e:Ay f c b=none:=by unfold Ay;rw[AO h]
  refine(Wg f.kind c.kind c.neg fa ta _ fc _ tc bv w h (by omega) (by omega)).mono ?_;rintro x w'⟨hg,hp⟩;rw[e];exact⟨none,0,0,hp,hg,by intro b' hb';cases hb'⟩
structure VTh where
 id:Int
 kind:Int
 v:Value
 vals:List Int
def Ha(t:VTh):List Value:=[.int .i64 t.id,.int .i64 t.kind,t.v]
theorem Gi(t:VTh):(Ha t).length=3:=rfl
def VTh.of(t:VTh):Int×Sv.Fact:=(t.id,⟨t.kind,t.vals⟩)
structure VMt where
 rule:Int
 v:Value
 ids:List Int
def mtenc(m:VMt):List Value:=[.int .i64 m.rule,m.v]
theorem Cz(m:VMt):(mtenc m).length=2:=rfl
def VMt.of(m:VMt):Int×List Int:=(m.rule,m.ids)
structure YAt(y:Nat)(rv lv cv fv:Value)(rs:List Sv.Rule)(L:List VTh)(w:World):Prop where
 blk:w.heap[y]?=some (.cells #[rv,lv,cv,fv] 172 (0,0))
 rules:VRsAt 0 rv rs w
 facts:RowAt 176 3 Ha 0 lv L w
 vals:∀t∈L,IsAt 0 t.v t.vals w/\t.vals.length<=4
theorem YAt.gr{y:Nat}{rv lv cv fv:Value}{rs:List Sv.Rule}{L:List VTh}{w w':World}(h:YAt y rv lv cv fv rs L w)(hg:w.grownBy w' none):YAt y rv lv cv fv rs L w':=
 ⟨by rw[hg.block y (Af h.blk) (by simp)];exact h.blk,h.rules.none hg,h.facts.gr hg,fun t ht=>⟨(h.vals t ht).1.gr hg,(h.vals t ht).2⟩⟩
theorem YAt.c{y:Nat}{rv lv cv fv:Value}{rs:List Sv.Rule}{L:List VTh}(h:YAt y rv lv cv fv rs L w):w.cell? ⟨y,0,none⟩=some rv/\w.cell? ⟨y,1,none⟩=some lv/\w.cell? ⟨y,2,none⟩=some cv/\w.cell? ⟨y,3,none⟩=some fv:=by
 have:=h.blk;refine⟨?_,?_,?_,?_⟩<;>simp[World.cell?,this]
def MsAt(base:Nat)(v:Value)(ms:List VMt)(w:World):Prop:=RowAt 52 2 mtenc base v ms w/\∀m∈ms,IsAt base m.v m.ids w
theorem MsAt.gr{base:Nat}{v:Value}{ms:List VMt}{w w':World}(h:MsAt base v ms w)(hg:w.grownBy w' none):MsAt base v ms w':=⟨h.1.gr hg,fun m hm=>(h.2 m hm).gr hg⟩
theorem VTsAt.tms{ts:List Sv.Term}(h:VTsAt base v ts w):TmsAt base v ts w:=⟨fun _=>rfl,h⟩
theorem Tryz.infoMatch:(Tryz.prog.info? 52).map (fun i=>(i.zero,i.size,i.bytes))=some (some (.agg #[.int .i64 0,.slice none 0 0]),2,32):=by kernel_rfl
def M9(r:Nat)(L:List VTh)(cs:List Sv.Cond)(b:Sv.Bs)(ids:List Int)(w:World)(e:Ending)(w':World):Prop:=
 ∃u ms,e=.returned u/\MsAt w.heap.size u ms w'/\ms.map VMt.of=(Ar (L.map VTh.of) cs b ids).map (fun x=>((r:Int),x))/\w.grownBy w' none
theorem W7(y:Nat)(rv lv cv fv:Value)(rs:List Sv.Rule)(L:List VTh)(r:Nat)(q:Sv.Rule)(b:Sv.Bs)(bv:Value)(ids:List Int)(iv:Value)(w:World)
 (hy:YAt y rv lv cv fv rs L w)(hq:rs[r]?=some q)(_XD:rs.length<=8)(_hc4:q.conds.length<=4)(hi:IsAt 0 iv ids w)(eW:ids.length<=4) :
  Calls Tryz.prog 84 #[.pointer (some ⟨y,0,none⟩),.int .i64 r,.int .i64 q.conds.length,bv,iv] w fun e w'=>M9 r L [] b ids w e w':=by
 obtain⟨y0,y1,y2,y3⟩:=hy.c;have hr:r<rs.length:=(AL.1 hq).1;obtain⟨g,cap',br,aC,hv,q0,q1,hcs⟩:=hy.rules.cells hq;subst hv;have hd:((q.conds.length:Int)==(q.conds.length:Int))=true:=by simp
 clear hcs hy;go_enter Tryz.func84,Tryz.ntmps84
 go_wp2_with (at_builtin;refine Df rfl _ _ 35 rfl Tryz.underlying35 Tryz.infoInt rfl (by decide) rfl (RowAt.lit0 At w) rfl (hi.gr (AA w (.cells #[] 3) none)) (fun y _=>B6 y) (by unfold maxLen;simp;omega) (by simp;omega) (by simp) ?_)
 intro v1 w1 aS hg1;have bG:=C0 (AA w (.cells #[] 3) none) hg1 (fun g hg=>by simp[Value.ownBlock] at hg;omega);obtain⟨ao,cap,rfl⟩:=aS.slice;clear hg1 hi q0 q1 y0 y1 y2 y3;go_wp2;go_ret;have a7:=AA w1 (.cells #[.int .i64 r,.slice ao ids.length cap] 52) none;refine⟨_,[⟨r,.slice ao ids.length cap,ids⟩],rfl,⟨(RowAt.lit1 Cz w1 ⟨r,.slice ao ids.length cap,ids⟩ #[.int .i64 r,.slice ao ids.length cap] rfl).weak bG.size,?_⟩,by simp[Ar,VMt.of],Ab bG a7⟩;intro m hm;simp only[AX] at hm;subst hm;exact aS.gr a7
def R3(y:Nat)(rv lv cv fv:Value)(rs:List Sv.Rule)(L:List VTh)(r:Nat)(q:Sv.Rule)(k:Nat):Prop:=
 ∀(b:Sv.Bs) (bv:Value) (ids:List Int) (iv:Value) (w:World),YAt y rv lv cv fv rs L w->BsAt 0 bv b w->IsAt 0 iv ids w->b.length<=4*k->ids.length<=k->
  Calls Tryz.prog 84 #[.pointer (some ⟨y,0,none⟩),.int .i64 r,.int .i64 k,bv,iv] w fun e w'=>M9 r L (q.conds.drop k) b ids w e w'
theorem Q0x(a b:Nat)(h:a≠b):((a:Int)==(b:Int))=false:=by
 simp only[beq_eq_false_iff_ne,ne_eq];omega
def Ee(r:Nat)(c:Sv.Cond)(cs:List Sv.Cond)(A:List (Int×Sv.Fact))(b:Sv.Bs)(ids:List Int)(l:List (Int×Sv.Fact)):List (Int×List Int):=
 if c.neg=true then [] else l.flatMap fun p=>match Ay p.2 c b with
  | none=>[]
  | some b'=>(Ar A cs b' (ids++[p.1])).map (fun x=>((r:Int),x))
def E4(c:Sv.Cond)(b:Sv.Bs)(l:List (Int×Sv.Fact)):Bool:=c.neg&&l.any (fun p=>(Ay p.2 c b).isSome)
theorem Qb(r:Nat)(c:Sv.Cond)(cs:List Sv.Cond)(A:List (Int×Sv.Fact))(b:Sv.Bs)(ids:List Int)(h:c.neg=false) :
  Ee r c cs A b ids A=(Ar A (c::cs) b ids).map (fun x=>((r:Int),x)):=by
 have e:Ar A (c::cs) b ids=A.flatMap (fun p=>match Ay p.2 c b with
   | none=>[]
   | some b'=>Ar A cs b' (ids++[p.1])):=by
  rw[Ar,AO (by simp[h])];rfl
 unfold Ee;rw[e,AO (by simp[h]),JY];congr 1
 funext p;cases Ay p.2 c b<;>rfl
theorem M6(c:Sv.Cond)(cs:List Sv.Cond)(A:List (Int×Sv.Fact))(b:Sv.Bs)(ids:List Int)(h:c.neg=true):Ar A (c::cs) b ids=if E4 c b A=true then [] else Ar A cs b ids:=by
 rw[Ar,AQ h];unfold E4;rw[h,EH]
theorem Pk(r:Nat)(c:Sv.Cond)(cs:List Sv.Cond)(A:List (Int×Sv.Fact))(b:Sv.Bs)(ids:List Int)(l:List (Int×Sv.Fact))(p:Int×Sv.Fact) :
  Ee r c cs A b ids (l++[p])=Ee r c cs A b ids l++(if c.neg=true then [] else match Ay p.2 c b with
   | none=>[]
   | some b'=>(Ar A cs b' (ids++[p.1])).map (fun x=>((r:Int),x))):=by
 unfold Ee;split
 ·rfl
 ·rw[CG,List.flatMap_singleton]
theorem Ng(c:Sv.Cond)(b:Sv.Bs)(l:List (Int×Sv.Fact))(p:Int×Sv.Fact):E4 c b (l++[p])=(E4 c b l||(c.neg&&(Ay p.2 c b).isSome)):=by
 unfold E4;rw[ES,Bool.and_or_distrib_left];simp
theorem Da{α β:Type}(f:α->β)(l:List α)(i:Nat)(a:α)(h:l[i]?=some a):(l.take (i+1)).map f=(l.take i).map f++[f a]:=by
 rw[CY,h,CA];rfl
theorem Eh(A:List (Int×Sv.Fact))(hA:A.length<=16)(cs:List Sv.Cond)(b:Sv.Bs)(ids:List Int)(hc:cs.length<=4):(Ar A cs b ids).length<=65536:=
 AU (Ea A hA cs b ids) (AU (DO (by omega) hc) (by decide))
theorem Px(r:Nat)(c:Sv.Cond)(cs:List Sv.Cond)(A:List (Int×Sv.Fact))(b:Sv.Bs)(ids:List Int)(l:List (Int×Sv.Fact))(hA:A.length<=16)(hl:l.length<=16)(hc:cs.length<=4):(Ee r c cs A b ids l).length<=1048576:=by
 unfold Ee;split
 ·simp
 ·refine AU (E7 _ 65536 l ?_) ?_
  ·intro p _
   cases Ay p.2 c b with
   | none=>simp
   | some b'=>
    simp only[BA];exact Eh A hA cs b' _ hc
  ·have:=BW 65536 hl
   omega
theorem Gf(m:VMt)(h:m.v.oneCell'=true):∀c∈mtenc m,c.oneCell'=true:=by
 intro c hc;simp[mtenc] at hc;rcases hc with rfl|rfl
 ·rfl
 ·exact h
theorem MsAt.one{ms:List VMt}(h:MsAt base v ms w):∀m∈ms,∀c∈mtenc m,c.oneCell'=true:=by
 intro m hm;obtain⟨ao,cap,e⟩:=(h.2 m hm).slice;exact Gf m (by rw[e];rfl)
theorem MsAt.slice{base:Nat}{v:Value}{ms:List VMt}{w:World}(h:MsAt base v ms w):∃ao cap,v=.slice ao ms.length cap:=h.1.slice
theorem Sx(y:Nat)(rv lv cv fv:Value)(rs:List Sv.Rule)(L:List VTh)(r:Nat)(q:Sv.Rule)(k:Nat)(c:Sv.Cond)(b:Sv.Bs)(bv:Value)(ids:List Int)(iv:Value)(w:World)
 (hy:YAt y rv lv cv fv rs L w)(hq:rs[r]?=some q)(_XD:rs.length<=8)(hc4:q.conds.length<=4)(hL:L.length<=16)(hck:q.conds[k]?=some c)(di:c.terms.length<=4)(dt:∀t∈c.terms,Nw t)
 (hb:BsAt 0 bv b w)(hi:IsAt 0 iv ids w)(hbl:b.length<=4*k)(eW:ids.length<=k)(ih:R3 y rv lv cv fv rs L r q (k+1)) :
  Calls Tryz.prog 84 #[.pointer (some ⟨y,0,none⟩),.int .i64 r,.int .i64 k,bv,iv] w fun e w'=>M9 r L (q.conds.drop k) b ids w e w':=by
 have hr:r<rs.length:=(AL.1 hq).1;have hk:k<q.conds.length:=(AL.1 hck).1;have uY:=A0 hck;obtain⟨g,cap',br,aC,hv,q0,q1,hcs⟩:=hy.rules.cells hq;subst hv;obtain⟨y0,y1,y2,y3⟩:=hy.c;obtain⟨g2,bA,np,e8,hv2,p0,p1,p2,cC⟩:=hcs.cells hck;simp only[AH,BP] at hv2;obtain⟨rfl,rfl⟩:=hv2;obtain⟨pV,gh,rfl⟩:=hy.facts.slice;have hd:((k:Int)==(q.conds.length:Int))=false:=Q0x _ _ (by omega);have HY:=Ac hy;have HT:=Ac cC.tms;have HB:=Ac hb;have HI:=Ac hi;have HS:=Ac dt;have sN:=Ac ih;have HD:=Ac uY;clear hcs hy cC hb hi dt hck ih hq uY;obtain⟨cs,LX⟩:∃cs,q.conds.drop (k+1)=cs:=⟨_,rfl⟩
 have PI:=Ac LX;clear LX;go_enter Tryz.func84,Tryz.ntmps84;go_wp2;go_loopw [12,13,14] (fun x h z w'=>∃(i:Nat) (acc:List VMt),i<=L.length/\MsAt w.heap.size x acc w'/\acc.map VMt.of=Ee r c cs (L.map VTh.of) b ids ((L.take i).map VTh.of)/\h=.bool (E4 c b ((L.take i).map VTh.of))/\z=.int .i64 i/\w.grownBy w' none) (fun _ _ z _=>L.length-(intOf z).toNat)
 case atStart=>
  refine⟨0,[],AG _,⟨RowAt.nil _ _ Cz,by simp⟩,?_,?_,rfl,AD _ _⟩
  ·simp[Ee]
  ·simp[E4]
 case round=>
  obtain⟨i,acc,hiL,aY,LF,rfl,rfl,hg⟩:=hrel;obtain⟨eQ,bD,rfl⟩:=aY.slice;have td:=hg.cell y1 (by simp);have vg:=hg.cell p0 (by simp);have SI:=hg.cell p1 (by simp);have p2':=hg.cell p2 (by simp);generalize hH:E4 c b ((L.take i).map VTh.of)=h0;have HH:=Ac hH;have HG:=Ac LF;clear hH LF y0 y2 y3 q0 q1;by_cases hlt:i<L.length
  ·have dF:decide (i<L.length)=true:=by simpa using hlt
   obtain⟨t,pq⟩:∃t,L[i]?=some t:=⟨L[i],AB hlt⟩
   obtain⟨iJ,hv4⟩:=(Aa HY).vals t (AV pq);obtain⟨fa,fc,fu⟩:=iJ.slice;obtain⟨gL,cpL,ZG,QR⟩:=((Aa HY).facts.gr hg).cells pq;simp only[AH,BP] at ZG;obtain⟨rfl,rfl⟩:=ZG;have t0:wr.cell? ⟨gL,i*3,none⟩=some (.int .i64 t.id):=QR 0 (by omega);have t1:wr.cell? ⟨gL,i*3+1,none⟩=some (.int .i64 t.kind):=QR 1 (by omega);have t2:wr.cell? ⟨gL,i*3+2,none⟩=some t.v:=QR 2 (by omega);rw[fu] at t2 iJ;have hm:=fun(W:World) (hW:wr.grownBy W none)=>Zg ⟨t.kind,t.vals⟩ c fa np fc e8 bv b W (iJ.gr (Ab hg hW)) ((Aa HT).gr (Ab hg hW)) ((Aa HB).gr (Ab hg hW)) hv4 di (by omega) (Aa HS)
   have iO:=Pk r c cs (L.map VTh.of) b ids ((L.take i).map VTh.of) t.of;have eY:=Ng c b ((L.take i).map VTh.of) t.of;rw[<-Da VTh.of L i t pq,<-Aa HG] at iO;have tY:=Ac (Aa HG);rw[<-Da VTh.of L i t pq,Aa HH] at eY;have QC:(t.of).2=⟨t.kind,t.vals⟩:=rfl;rw[QC] at iO eY;have lf:=Ac iO;have lZ:=Ac eY;clear iO eY iJ QR pq fu QC HG HH;obtain⟨R,hR⟩:∃R,Ay ⟨t.kind,t.vals⟩ c b=R:=⟨_,rfl⟩
   have hRl:∀b',R=some b'->b'.length<=4*(k+1):=by
    intro b' hb';have:=Pc _ c b b' (hR.trans hb');omega
   rw[hR] at hm;have iO:=Aa lf;have eY:=Aa lZ;rw[hR] at iO eY;clear lf lZ hR;have lf:=Ac iO;have lZ:=Ac eY;have XK:=Ac hRl;clear iO eY hRl;obtain⟨ok,aK⟩:∃ok,R.isSome=ok:=⟨_,rfl⟩
   rw[aK] at hm;have gT:=Ac aK;clear aK;obtain⟨neg,aJ⟩:∃neg,c.neg=neg:=⟨_,rfl⟩
   rw[aJ] at vg hm;have oU:=Ac aJ;clear aJ;go_wp2_with fail
   go_cut [15,16] (fun m o wx=>∃ao n cap,m=.slice ao n cap/\o=.bool ok/\wr.grownBy wx none/\Hid (∀b',R=some b'->BsAt 0 (.slice ao n cap) b' wx)) 
   case first=>
    go_region_with (go_at_call 121;refine(hm _ (by repeat (first|exact AD _ _|apply Ah))).mono ?_;rintro e w2⟨iC,n5,aI,rfl,hg2,hB2⟩)
    all_goals
     go_wp2_with fail;go_meet
     exact⟨iC,n5,aI,rfl,rfl,Ab (Ah (AD _ _)) hg2,fun b' hb'=>(Aa hB2 b' hb').weak (AG _)⟩
   case rest=>
    obtain⟨iC,n5,aI,rfl,rfl,hg2,hB2⟩:=hcut;have bP:=Ab hg hg2;have cy:=aY.gr hg2;have xu:=hg2.cell td (by simp);have YM:=hg2.cell vg (by simp);have SE:=hg2.cell t0 (by simp);clear hm hg2 td vg SI p2' t0 t1 t2 hg aY;cases ok
    ·have hR:=Aa gT
     simp only[Option.isSome_eq_false_iff,Option.isNone_iff_eq_none] at hR;have h1:=Aa lf;have h2:=Aa lZ;rw[hR] at h1 h2;simp only[ite_self,BM,Option.isSome_none,KH,IM] at h1 h2;have H1:=Ac h1;have H2:=Ac h2;clear h1 h2 hR lf lZ;go_wp2;go_roundw
     case rel=>exact⟨i+1,acc,by omega,cy,(Aa H1).symm,by rw[Aa H2],by go_num,bP⟩
     case measure=>simp[intOf];omega
    ·obtain⟨b',hb'⟩:=Option.isSome_iff_exists.1 (Aa gT)
     have hB:=Aa hB2 b' hb';have MI:=Aa XK b' hb';have h1:=Aa lf;have h2:=Aa lZ;rw[hb'] at h1 h2;cases neg
     ·have fQ:=Aa oU
      rw[fQ] at h1 h2;simp only[BZ,if_false,DV,IM] at h1 h2;have H1:=Ac h1;have H2:=Ac h2;clear h1 h2 lf lZ hB2 hb' XK gT;have hIc:=(Aa HI).gr bP;have hYc:=(Aa HY).gr bP
      go_wp2_with (at_builtin;refine Df rfl _ _ 35 rfl Tryz.underlying35 Tryz.infoInt rfl (by decide) rfl (RowAt.nil wc.heap.size _ At) rfl hIc (fun y _=>B6 y) (by unfold maxLen;simp;omega) (by simp;omega) (AW _) ?_)
      intro v1 w1 aS hg1;have eb:wc.grownBy w1 none:=hg1;obtain⟨ao6,cap6,rfl⟩:=aS.slice;have y13:=eb.cell xu (by simp);have t03:=eb.cell SE (by simp);have a7:=AA w1 (.cells #[.int .i64 t.id] 3) none;have fB:=aS.gr a7;have aG:IsAt 0 _ [t.id] (w1.alloc (.cells #[.int .i64 t.id] 3)):=(RowAt.lit1 At w1 t.id #[.int .i64 t.id] rfl).weak (AG _)
      go_wp2_with (at_builtin;refine Df rfl _ _ 35 rfl Tryz.underlying35 Tryz.infoInt rfl (by decide) rfl fB rfl aG (fun y _=>B6 y) (by unfold maxLen;simp;omega) (by simp;omega) (AU eb.size a7.size) ?_)
      intro v2 w2 hv2 hg2;have qg:=C0 (Ab eb a7) hg2 (fun x hx=>(fB.own x hx).1);obtain⟨ao7,b6,rfl⟩:=hv2.slice;rw[AK,BC] at hv2;have dS:=Aa sN b' _ (ids++[t.id]) _ w2 (hYc.gr qg) (hB.gr qg) (hv2.weak (AG _)) MI (by simp;omega);have jV:=cy.gr qg;have YL:=qg.cell YM (by simp);have qb:=Ab bP qg;clear aS fB hg1 eb a7 aG hg2 hv2 xu y13 SE t03 YM hB hIc hYc cy;have hcast:((k+1:Nat):Int)=(k:Int)+1:=by omega
      rw[hcast] at dS
      have uN:acc.length<=1048576:=by
       have e1:=BJ List.length (Aa tY);rw[BA] at e1;rw[e1];exact Px r c cs (L.map VTh.of) b ids _ (by simp;omega) (by simp;omega) (by rw[<-Aa PI];simp;omega)
      have HLA:=Ac uN;have uM:=Eh (L.map VTh.of) (by simp;omega) (q.conds.drop (k+1)) b' (ids++[t.id]) (by simp;omega);have HLB:=Ac uM;clear uN uM;go_wp2_with fail;refine dS.mono ?_;rintro e w3⟨u,ms,rfl,dD,hmap,hg3⟩
      have qP:acc.length+ms.length<=1114112:=by
       have e1:=BJ List.length hmap;rw[BA,BA] at e1;have e2:=Aa HLA;have e3:=Aa HLB;omega
      have r5:acc.length+ms.length<=maxLen:=by unfold maxLen;omega
      have r4:(acc.length+ms.length)*32<=140737488355328:=by omega
      have fY:=Ac r5;have gF:=Ac r4;have xm:=Ac hmap;clear qP r5 r4 hmap HLA HLB;obtain⟨eC,au,rfl⟩:=dD.slice;have eO:=jV.gr hg3;have p04:=hg3.cell YL (by simp);have nK:=Ab qb hg3;have hrow:=RowOk.of eO.1.2;have fP:=eO.1.own;have qK:RowAt 52 2 mtenc 0 _ ms w3:=dD.1.weak (AG _);have jr:w.heap.size<=w3.heap.size:=nK.size;have lI:w.heap.size<=w2.heap.size:=qb.size;clear dS hg3 qb jV YL
      go_wp2_with (at_builtin;refine Df rfl _ _ 43 rfl Tryz.underlying43 Tryz.infoMatch rfl (by decide) rfl eO.1 rfl qK (fun m hm=>dD.one m hm) (Aa fY) (Aa gF) jr ?_)
      intro v5 w5 b7 aZ;obtain⟨RP,tP,rfl⟩:=b7.slice;have jh:=C0 nK aZ (fun x hx=>(fP x hx).1)
      have kr:MsAt w.heap.size (.slice RP (acc++ms).length tP) (acc++ms) w5:=by
       refine⟨b7,fun m hm=>?_⟩;rcases AY.1 hm with hm|hm
       ·exact(eO.2 m hm).row aZ hrow (by decide)
       ·exact((dD.2 m hm).weak lI).row aZ hrow (by decide)
      have uK:(acc++ms).map VMt.of=Ee r c cs (L.map VTh.of) b ids ((L.take (i+1)).map VTh.of):=by
       rw[CA,Aa xm,Aa PI,Aa H1];rfl
      have XP:=Ac uK;clear uK xm fY gF b7 aZ eO dD qK hrow fP nK p04;go_wp2;go_roundw
      case rel=>exact⟨i+1,acc++ms,by omega,kr,Aa XP,by rw[Aa H2],by go_num,jh⟩
      case measure=>simp[intOf];omega
     ·have fQ:=Aa oU
      rw[fQ] at h1 h2;simp only[if_true,BM,Option.isSome_some,KL,Bool.or_true] at h1 h2;have H1:=Ac h1;have H2:=Ac h2;clear h1 h2 lf lZ hB2 hb' XK gT hB MI;go_wp2;go_roundw
      case rel=>exact⟨i+1,acc,by omega,cy,(Aa H1).symm,by rw[Aa H2],by go_num,bP⟩
      case measure=>simp[intOf];omega
  ·have dF:decide (i<L.length)=false:=by simpa using hlt
   have hall:L.take i=L:=CB (by omega);have hG:=Aa HG;have RB:=Aa HH;rw[hall] at hG RB;clear HG HH;cases aJ:c.neg
   ·rw[aJ] at vg
    rw[Qb r c cs _ b ids aJ] at hG;have HG:=Ac hG;have HN:=Ac aJ;clear hG RB aJ;go_wp2;go_ret;refine⟨_,acc,rfl,aY,?_,hg⟩;rw[Aa HG,Aa HD,Aa PI]
   ·rw[aJ] at vg
    have hF:=M6 c cs (L.map VTh.of) b ids aJ;rw[RB] at hF
    have hA:acc=[]:=by
     have:Ee r c cs (L.map VTh.of) b ids (L.map VTh.of)=[]:=by unfold Ee;rw[AQ aJ]
     rw[this] at hG;exact List.map_eq_nil_iff.1 hG
    have HF:=Ac hF;have HA:=Ac hA;clear hG RB aJ hF hA;cases h0
    ·have dS:=Aa sN b bv ids iv wr ((Aa HY).gr hg) ((Aa HB).gr hg) ((Aa HI).gr hg) (by omega) (by omega)
     have hcast:((k+1:Nat):Int)=(k:Int)+1:=by omega
     rw[hcast] at dS;go_wp2_with fail;refine dS.mono ?_;rintro e w3⟨u,ms,rfl,dD,hmap,hg3⟩;go_wp2;go_ret;refine⟨_,ms,rfl,?_,?_,Ab hg hg3⟩
     ·exact⟨dD.1.weak hg.size,fun m hm=>(dD.2 m hm).weak hg.size⟩
     ·rw[hmap,Aa HD,Aa PI,Aa HF]
      rfl
    ·go_wp2
     go_ret;refine⟨_,acc,rfl,aY,?_,hg⟩;rw[Aa HA,Aa HD,Aa PI,Aa HF];rfl
theorem V2(y:Nat)(rv lv cv fv:Value)(rs:List Sv.Rule)(L:List VTh)(r:Nat)(q:Sv.Rule)(hq:rs[r]?=some q)(aK:Sv.RsOk rs)(hL:L.length<=16) :
  ∀(m k:Nat),k+m=q.conds.length->R3 y rv lv cv fv rs L r q k
 | 0,k,h=>by
  intro b bv ids iv w hy _ hi _ eW;have sY:=AV hq;have h4:=aK.conds q sY;have e:k=q.conds.length:=by omega
  subst e;rw[List.drop_length];exact W7 y rv lv cv fv rs L r q b bv ids iv w hy hq aK.len h4 hi (by omega)
 | m+1,k,h=>by
  intro b bv ids iv w hy hb hi hbl eW;have sY:=AV hq;have hk:k<q.conds.length:=by omega
  have hck:q.conds[k]?=some q.conds[k]:=AB hk;have hcm:=AV hck
  exact Sx y rv lv cv fv rs L r q k q.conds[k] b bv ids iv w hy hq aK.len (aK.conds q sY) hL hck (aK.terms q sY _ hcm) (aK.shape q sY _ hcm) hb hi hbl eW
   (V2 y rv lv cv fv rs L r q hq aK hL m (k+1) (by omega))
theorem Le(L:List (Int×Sv.Fact)):∀(a b:List Sv.Rule) (r:Nat),Bo L r (a++b)=Bo L r a++Bo L (r+a.length) b
 | [],b,r=>by simp[Bo]
 | q::a,b,r=>by
  rw[CP,Bo,Bo,Le L a b (r+1),AP,BQ];congr 3
  omega
theorem Q0(L:List (Int×Sv.Fact))(rs:List Sv.Rule)(r:Nat)(q:Sv.Rule)(h:rs[r]?=some q) :
  Bo L 0 (rs.take (r+1))=Bo L 0 (rs.take r)++(Ar L q.conds [] []).map (fun x=>((r:Int),x)):=by
 have hlt:=(AL.1 h).1;rw[CY,h,Le,BL,BV,CC (by omega)];simp[Bo]
theorem K5(L:List (Int×Sv.Fact))(hL:L.length<=16):∀(rs:List Sv.Rule) (r:Nat),(∀q∈rs,q.conds.length<=4)->(Bo L r rs).length<=rs.length*65536
 | [],r,_=>by simp[Bo]
 | q::rs,r,h=>by
  have h1:=K5 L hL rs (r+1) (fun x hx=>h x (BG _ hx));have h2:=Eh L hL q.conds [] [] (h q (BF ..));rw[Bo,AK,BA,AP,GZ];omega
def Wf(rs:List Sv.Rule)(L:List VTh)(w:World)(e:Ending)(w':World):Prop:=
 ∃u ms,e=.returned u/\MsAt w.heap.size u ms w'/\ms.map VMt.of=Am rs (L.map VTh.of)/\w.grownBy w' none
theorem Ie(y:Nat)(rv lv cv fv:Value)(rs:List Sv.Rule)(L:List VTh)(w:World)(hy:YAt y rv lv cv fv rs L w)(aK:Sv.RsOk rs)(hL:L.length<=16) :
  Calls Tryz.prog 56 #[.pointer (some ⟨y,0,none⟩)] w fun e w'=>Wf rs L w e w':=by
 have ZL:=aK.len;obtain⟨y0,y1,y2,y3⟩:=hy.c;obtain⟨aoR,capR,rfl⟩:=hy.rules.slice;have HY:=Ac hy;have HO:=Ac aK;clear hy aK y1 y2 y3;go_enter Tryz.func56,Tryz.ntmps56;go_wp2;go_loopw [3,4] (fun x z w'=>∃(i:Nat) (acc:List VMt),i<=rs.length/\MsAt w.heap.size x acc w'/\acc.map VMt.of=Bo (L.map VTh.of) 0 (rs.take i)/\z=.int .i64 i/\w.grownBy w' none) (fun _ z _=>rs.length-(intOf z).toNat)
 case atStart=>exact⟨0,[],AG _,⟨RowAt.nil _ _ Cz,by simp⟩,by simp[Bo],rfl,AD _ _⟩
 case round=>
  obtain⟨i,acc,hiR,aY,hmap,rfl,hg⟩:=hrel;obtain⟨eQ,bD,rfl⟩:=aY.slice;have y0':=hg.cell y0 (by simp);have HM:=Ac hmap;clear hmap;by_cases hlt:i<rs.length
  ·have dF:decide (i<rs.length)=true:=by simpa using hlt
   have hq:rs[i]?=some rs[i]:=AB hlt;have hF:=V2 y _ lv cv fv rs L i rs[i] hq (Aa HO) hL rs[i].conds.length 0 (by omega) [] (.slice none 0 0) [] (.slice none 0 0) wr ((Aa HY).gr hg) (RowAt.nil _ _ Ns) (RowAt.nil _ _ At) (by simp) (by simp);have hst:=Q0 (L.map VTh.of) rs i rs[i] hq
   have ea:acc.length<=8*65536:=by
    have e1:=BJ List.length (Aa HM);rw[BA] at e1;rw[e1];refine AU (K5 _ (by simp;omega) _ 0 (fun q hq=>(Aa HO).conds q (EI hq))) (BW _ ?_);rw[BL];omega
   have hl2:=Eh (L.map VTh.of) (by simp;omega) rs[i].conds [] [] ((Aa HO).conds _ (AV hq));rw[<-Aa HM] at hst;have HST:=Ac hst;have HL1:=Ac ea;have OY:=Ac hl2;clear hst ea hl2 hq;go_wp2_with fail;refine hF.mono ?_;rintro e w3⟨u,ms,rfl,dD,wQ,hg3⟩;rw[IE] at wQ
   have qP:acc.length+ms.length<=589824:=by
    have e1:=BJ List.length wQ;rw[BA,BA] at e1;have e2:=Aa HL1;have e3:=Aa OY;omega
   have r5:acc.length+ms.length<=maxLen:=by unfold maxLen;omega
   have r4:(acc.length+ms.length)*32<=140737488355328:=by omega
   have fY:=Ac r5;have gF:=Ac r4;have xm:=Ac wQ;clear qP r5 r4 wQ HL1 OY;obtain⟨eC,au,rfl⟩:=dD.slice;have eO:=aY.gr hg3;have nK:=Ab hg hg3;have hrow:=RowOk.of eO.1.2;have fP:=eO.1.own;have qK:RowAt 52 2 mtenc 0 _ ms w3:=dD.1.weak (AG _);have jr:w.heap.size<=w3.heap.size:=nK.size;have lI:w.heap.size<=wr.heap.size:=hg.size;clear hF hg3 aY
   go_wp2_with (at_builtin;refine Df rfl _ _ 43 rfl Tryz.underlying43 Tryz.infoMatch rfl (by decide) rfl eO.1 rfl qK (fun m hm=>dD.one m hm) (Aa fY) (Aa gF) jr ?_)
   intro v5 w5 b7 aZ;obtain⟨RP,tP,rfl⟩:=b7.slice;have jh:=C0 nK aZ (fun x hx=>(fP x hx).1)
   have kr:MsAt w.heap.size (.slice RP (acc++ms).length tP) (acc++ms) w5:=by
    refine⟨b7,fun m hm=>?_⟩;rcases AY.1 hm with hm|hm
    ·exact(eO.2 m hm).row aZ hrow (by decide)
    ·exact((dD.2 m hm).weak lI).row aZ hrow (by decide)
   have XP:Hid ((acc++ms).map VMt.of=Bo (L.map VTh.of) 0 (rs.take (i+1))):=by
    unfold Hid;rw[CA,Aa xm,Aa HST]
   clear xm fY gF b7 aZ eO dD qK hrow fP nK;go_wp2;go_roundw
   case rel=>exact⟨i+1,acc++ms,by omega,kr,Aa XP,by go_num,jh⟩
   case measure=>simp[intOf];omega
  ·have dF:decide (i<rs.length)=false:=by simpa using hlt
   have hall:rs.take i=rs:=CB (by omega);go_wp2;go_ret;refine⟨_,acc,rfl,aY,?_,hg⟩;rw[Aa HM,hall];rfl
end Go.Proofs.YtolhbeekfjnfmaaGreatDoor

import Derived.Deep.DeepCutAuto
import Derived.Test.YtolhbeekfjnfmaaGreatDoorM07
set_option maxHeartbeats 8000000
set_option maxRecDepth 100000
namespace Go.Proofs.YtolhbeekfjnfmaaGreatDoor
open Go.RowKit
abbrev BK:=@Addr.mk.injEq
abbrev KB:=@Lib.itoa_nonneg
variable {T:TypeId}{N base k:Nat}{w:World}{a b v:Value}
theorem Fw(b:Nat)(s:ByteArray)(i:Nat)(bd:Bool)(w:World)(hi:i<=s.size)(hs:s.size<=400)(hb:VAt b s i bd w) :
  Calls Tryz.prog 117 #[.pointer (some ⟨b,0,none⟩)] w fun e w'=>e=.returned (.tuple #[])/\VAt b s (if bd=true then i else Ag s.data.toList i) bd w'/\w.grownBy w' (some b):=by
 cases bd
 ·exact Fe b s i w hi hs hb
 ·exact Lc b s i w hb
theorem X7(b:Nat)(s:ByteArray)(i:Nat)(bd:Bool)(w:World)(hi:i<=s.size)(hs:s.size<=400)(hb:VAt b s i bd w) :
  Calls Tryz.prog 148 #[.pointer (some ⟨b,0,none⟩)] w fun e w'=>e=.returned (.int .u8 (if bd=true then (0:UInt8) else Ai s.data.toList i).toNat)/\∃n,w'=w.drewN n:=by
 cases bd
 ·exact Ba b s i w hi hs hb
 ·exact H9 b s i w hb
theorem Q0n(b:Nat)(s:ByteArray)(i:Nat)(bd:Bool)(c:UInt8)(hc:c≠0)(x:Int)(hx:x=c.toNat)(w:World)(hi:i<=s.size)(hs:s.size<=400)(hb:VAt b s i bd w) :
  Calls Tryz.prog 150 #[.pointer (some ⟨b,0,none⟩),.int .u8 x] w fun e w'=>∃j QO,e=.returned (.tuple #[])/\VAt b s j QO w'/\w.grownBy w' (some b)/\j<=s.size/\
   Hid ((bd=true/\QO=true/\j=i)\/(bd=false/\QO=false/\(Ai s.data.toList i==c)=true/\j=i+1)\/(bd=false/\QO=true/\(Ai s.data.toList i==c)=false/\j=i)):=by
 cases bd
 ·cases h:Ai s.data.toList i==c
  ·refine(Yc b s i c x hx w hi hs h hb).mono ?_
   rintro e w'⟨rfl,h1,h2⟩;exact⟨i,true,rfl,h1,h2,hi,.inr (.inr ⟨rfl,rfl,rfl,rfl⟩)⟩
  ·refine(Nz b s i c x hx w hi hs h hb).mono ?_
   rintro e w'⟨rfl,h1,h2⟩;have h3:=Ap _ _ c hc h;rw[Ae] at h3;exact⟨i+1,false,rfl,h1,h2,h3,.inr (.inl ⟨rfl,rfl,rfl,rfl⟩)⟩
 ·refine(Q0o b s i c hc x hx w hb).mono ?_
  rintro e w'⟨rfl,h1,h2⟩;exact⟨i,true,rfl,h1,h2,hi,.inl ⟨rfl,rfl,rfl⟩⟩
theorem X9(b:Nat)(s:ByteArray)(i:Nat)(w:World)(hi:i<=s.size)(hs:s.size<=400)(hb:VAt b s i false w) :
  Calls Tryz.prog 149 #[.pointer (some ⟨b,0,none⟩)] w fun e w'=>∃(nm:ByteArray) (j:Nat) (bd:Bool),e=.returned (.string nm)/\VAt b s j bd w'/\w.grownBy w' (some b)/\j<=s.size/\
   Hid ((bd=true/\Aq 8 s.data.toList i=i/\j=i)\/(bd=false/\Aq 8 s.data.toList i≠i/\j=Aq 8 s.data.toList i/\nm=⟨(Do s.data.toList i j).toArray⟩)):=by
 by_cases h:Aq 8 s.data.toList i=i
 ·refine(Q0l b s i w hi hs h hb).mono ?_
  rintro e w'⟨rfl,h1,h2⟩;exact⟨_,i,true,rfl,h1,h2,hi,.inl ⟨rfl,h,rfl⟩⟩
 ·refine(Ya b s i w hi hs h hb).mono ?_
  rintro e w'⟨rfl,h1,h2⟩;have h3:=(Dc 8 s.data.toList i (by simpa using hi)).2.1;rw[Ae] at h3;exact⟨_,_,false,rfl,h1,h2,h3,.inr ⟨rfl,h,rfl,rfl⟩⟩
theorem C2.row{x y:Value}{w':World}{row:Option Nat}{e:TypeId}(h:C2 T N x y w)(hg:w.grownBy w' row)(hr:RowOk base e row w)(he:e≠T):C2 T N x y w':=by
 refine h.kept hg (fun e1=>?_);obtain⟨_,cur,fz,h2⟩:=hr N e1.symm;unfold C2 at h;rw[h] at h2;simp at h2;exact he h2.2.1.symm
theorem C2.drewN{T:TypeId}{N:Nat}{x y:Value}{w:World}(h:C2 T N x y w)(n:Nat):C2 T N x y (w.drewN n):=h
theorem C2.put0(h:C2 T N a b w)(x:Value):C2 T N x b (w.setCell ⟨N,0,none⟩ x):=by
 unfold C2 at h⊢;rw[BB w N 0 _ _ x h];rfl
theorem C2.put1(h:C2 T N a b w)(x:Value):C2 T N a x (w.setCell ⟨N,1,none⟩ x):=by
 unfold C2 at h⊢;rw[BB w N 1 _ _ x h];rfl
theorem Q36(c:UInt8):((c.toNat:Int)==33)=(c==33):=H8 c 33
theorem Q38(c:UInt8):((c.toNat:Int)==59)=(c==59):=H8 c 59
def F5(n:Nat)(l:List UInt8)(acc:List Sv.Cond)(p:Nat):Nat ⊕ (List Sv.Cond×Nat):=
 match An l (if (Ai l p==33&&decide (0<acc.length))=true then p+1 else p) with
 | .inl k=>.inl k
 | .inr (c,j)=>Dk n l (acc++[⟨Ai l p==33&&decide (0<acc.length),c.kind,c.terms⟩]) j
theorem Pw(l:List UInt8)(i:Nat):F5 (l.length+1) l [] (Ag l i)=Bl l i:=by
 unfold F5 Bl;rw[show (Ai l (Ag l i)==33&&decide (0<([]:List Sv.Cond).length))=false from by simp,AO (by simp),Lm];cases hc:An l i with
 | inl k=>rfl
 | inr q=>
  obtain⟨c,j⟩:=q;have hn:=J4 _ _ _ _ hc;show Dk (l.length+1) l [⟨false,c.kind,c.terms⟩] j=Dk (l.length+1) l [c] j
  rw[<-hn]
theorem S1(n:Nat)(l:List UInt8)(acc:List Sv.Cond)(j:Nat)(aX:0<acc.length)(h:(Ai l (Ag l j)==59)=false):Dk (n+1) l acc j=F5 n l acc (Ag l j):=by
 rw[De,h,AO (by simp)];unfold F5;rw[show decide (0<acc.length)=true from by simpa using aX,KJ];cases An l (if (Ai l (Ag l j)==33)=true then Ag l j+1 else Ag l j)<;>rfl
theorem S2(n:Nat)(l:List UInt8)(acc:List Sv.Cond)(p:Nat)(hsk:Ag l p=p)(h3:(Ai l p==33)=false)(h4:(Ai l p==40)=false):F5 n l acc p=.inl p:=by
 unfold F5;rw[h3];simp only[DT,BZ,if_false];rw[show An l p=.inl p from by unfold An;rw[hsk,h4];rfl]
def Q24(b:Nat)(s:ByteArray)(U:Nat)(w:World)(i:Nat)(r:Nat ⊕ (Sv.Rule×Nat))(w':World):Prop:=
 ∃(p:Nat) (nm:ByteArray) (u:Value) (bad:Bool),VAt b s p bad w'/\p<=s.size/\C2 163 U (.string nm) u w'/\C2 163 w.heap.size (.string ⟨#[]⟩) (.slice none 0 0) w'/\w.grownBy w' (some b)/\
  ((bad=true/\r=.inl p/\∃ao n cap,u=.slice ao n cap)\/(bad=false/\∃(n:Nat) (acc:List Sv.Cond),s.size<p+n+1/\acc.length<=p/\Ag s.data.toList p=p/\VCsAt w.heap.size u acc w'/\nm=⟨(Do s.data.toList i (Aq 8 s.data.toList i)).toArray⟩/\
   (match F5 n s.data.toList acc p with
    | .inl m=>.inl m
    | .inr (cs,m)=>.inr (⟨Do s.data.toList i (Aq 8 s.data.toList i),cs⟩,m))=r))
theorem Lq(l:List UInt8)(i:Nat)(h:Aq 8 l i≠i)(h2:(Ai l (Ag l (Aq 8 l i))==58)=true):A1 l i=match Bl l (Ag l (Aq 8 l i)+1) with
  | .inl m=>.inl m
  | .inr (cs,m)=>.inr (⟨Do l i (Aq 8 l i),cs⟩,m):=by
 unfold A1;simp only;rw[AO h,h2,AQ rfl];cases Bl l (Ag l (Aq 8 l i)+1)<;>rfl
theorem Q2s(b:Nat)(s:ByteArray)(i:Nat)(w:World)(hi:i<=s.size)(hs:s.size<=400)(hb:VAt b s i false w)(r:Nat ⊕ (Sv.Rule×Nat))(hR:A1 s.data.toList i=r) :
  Calls Tryz.prog 118 #[.pointer (some ⟨b,0,none⟩)] w fun e w'=>Q25 b s w r e w':=by
 obtain⟨i0,aq,hz0,hz1,hz2⟩:=info_parts Tryz.infoVCond;have HR:=Ac hR;clear hR;have hlt:=hb.lt;have a7:=AA w (.cells #[.string ⟨#[]⟩,.slice none 0 0] 163) none;have aR:=AA (w.alloc (.cells #[.string ⟨#[]⟩,.slice none 0 0] 163)) (.cells #[.string ⟨#[]⟩,.slice none 0 0] 163) none;have rO:C2 163 w.heap.size (.string ⟨#[]⟩) (.slice none 0 0) (w.alloc (.cells #[.string ⟨#[]⟩,.slice none 0 0] 163)):=AR _ _;have hR1:=rO.kept aR (by simp)
 have uG:C2 163 (w.heap.size+1) (.string ⟨#[]⟩) (.slice none 0 0) ((w.alloc (.cells #[.string ⟨#[]⟩,.slice none 0 0] 163)).alloc (.cells #[.string ⟨#[]⟩,.slice none 0 0] 163)):=by
  have:=AR (w.alloc (.cells #[.string ⟨#[]⟩,.slice none 0 0] 163)) (.cells #[.string ⟨#[]⟩,.slice none 0 0] 163);rwa[EP] at this
 have hb1:=(hb.kept a7 (by simp)).kept aR (by simp);have hg1:=A6 (Ab a7 aR) (some b);clear a7 aR rO;go_enter Tryz.func118,Tryz.ntmps118;go_wp2_with fail;refine(X9 b s i _ hi hs hb1).mono ?_;rintro e w2⟨nm,j,bd,rfl,hb2,hg2,hj,HV⟩;have hR2:=hR1.kept hg2 (by simp;omega);have QC:=uG.kept hg2 (by simp;omega);have bM:=Ab hg1 hg2;clear hR1 uG hg1 hg2 hb1;generalize hUU:w.heap.size+1=U at *;have sB:w.heap.size<U:=by omega
 clear hUU;have kU:=Aj w2 U 0 (.string nm);have LV:=QC.put0 (.string nm);have dY:=hR2.kept kU (by simp;omega);have hb3:=hb2.kept kU (by simp;omega);have au:=Bi bM kU (EK sB);have a0:=QC.c.1;have az:=QC.fz 0;clear hR2 QC bM hb2 kU;go_wp2_with fail;refine(Fw b s j bd _ hj hs hb3).mono ?_;rintro e w4⟨rfl,hb4,hg4⟩;have lA:=dY.row hg4 hb3.rowOk (by decide);have wM:=LV.row hg4 hb3.rowOk (by decide);have iT:=Ab au hg4;clear dY LV au hg4 hb3 a0 az;obtain⟨j2,jF⟩:∃j2,(if bd=true then j else Ag s.data.toList j)=j2:=⟨_,rfl⟩
 rw[jF] at hb4
 have zU:j2<=s.size:=by
  have:=(Be s.data.toList j (by simpa using hj)).2;rw[Ae] at this;rw[<-jF];split<;>omega
 have QY:=Ac jF;clear jF;go_wp2_with fail;refine(Q0n b s j2 bd 58 (by decide) _ rfl _ zU hs hb4).mono ?_;rintro e w5⟨j3,bd3,rfl,hb5,aY,TI,HV2⟩;have mX:=lA.row aY hb4.rowOk (by decide);have hU5:=wM.row aY hb4.rowOk (by decide);have bQ:=Ab iT aY;clear lA wM iT aY hb4;go_wp2_with fail;refine(Fw b s j3 bd3 _ TI hs hb5).mono ?_;rintro e w6⟨rfl,fu,cX⟩;have xm:=mX.row cX hb5.rowOk (by decide);have wL:=hU5.row cX hb5.rowOk (by decide);have eK:=Ab bQ cX;clear mX hU5 bQ cX hb5;go_wp2_with fail;go_loopw [] (fun w'=>Q24 b s U w i r w') (fun w'=>Q00 b s.size w')
 case atStart=>
  refine⟨_,nm,_,bd3,fu,?_,wL,xm,eK,?_⟩
  ·have:=(Be s.data.toList j3 (by simpa using TI)).2
   rw[Ae] at this;split<;>omega
  ·rcases Aa HV2 with ⟨rfl,rfl,rfl⟩|⟨rfl,rfl,QJ,rfl⟩|⟨rfl,rfl,QJ,rfl⟩
   ·refine .inl ⟨rfl,?_,_,_,_,rfl⟩
    rcases Aa HV with ⟨_,h8,rfl⟩|⟨h8,_⟩
    ·have h7:j3=j:=(Aa QY).symm
     rw[AQ rfl,h7,<-Aa HR];unfold A1;simp only;rw[AQ h8]
    ·cases h8
   ·refine .inr ⟨rfl,s.data.toList.length+1,[],by simp;omega,AG _,?_,⟨[],EJ _ _ _ _,rfl⟩,?_,?_⟩
    ·rw[AO (by simp)];exact Fj _ _
    ·rcases Aa HV with ⟨h8,_⟩|⟨_,h8,rfl,rfl⟩
     ·cases h8
     ·rfl
    ·rcases Aa HV with ⟨h8,_⟩|⟨_,h8,rfl,rfl⟩
     ·cases h8
     ·have h7:Ag s.data.toList (Aq 8 s.data.toList i)=j2:=Aa QY
      rw[AO (by simp),Pw,<-Aa HR,<-h7];rw[<-h7] at QJ;exact(Lq _ _ h8 QJ).symm
   ·refine .inl ⟨rfl,?_,_,_,_,rfl⟩
    rcases Aa HV with ⟨h8,_⟩|⟨_,h8,rfl,rfl⟩
    ·cases h8
    ·have h7:Ag s.data.toList (Aq 8 s.data.toList i)=j3:=Aa QY
     rw[AQ rfl,<-Aa HR];unfold A1;simp only;rw[AO h8,h7,QJ];rfl
 case round=>
  clear xm wL eK fu HV HV2 QY HR hj zU TI;obtain⟨p,nm,u,bad,aH,hp,hU,nQ,hg,kP⟩:=hrel;have HM:=Ac (aH.ms s.size);rcases kP with ⟨rfl,hr,ao,nn,cap,rfl⟩|⟨rfl,m,acc,hm,aX,hsk,hcs,bJ,oW⟩
  ·subst hr
   have c2:=aH.c2;obtain⟨d0,d1⟩:=hU.c;obtain⟨q0,q1⟩:=nQ.c;have z0:=nQ.fz 0;have z1:=nQ.fz 1;go_wp2;have k3:=Ea wr w.heap.size (.string nm) (.slice ao nn cap);obtain⟨q0,q1⟩:=(nQ.set2 (.string nm) (.slice ao nn cap)).c;exact BO (v:=.agg #[.string nm,.slice ao nn cap]) (by simp[results,Tryz.results118,go_sem,q0,q1]) rfl ⟨_,_,_,_,rfl,aH.kept k3 (by simp;omega),Bi hg k3 (AW _)⟩
  ·have HX:=Ac oW
   have yA:=Ac bJ;clear oW bJ;have c2:=aH.c2;have c1:=aH.c1;have f1:=aH.fz 1;obtain⟨d0,d1⟩:=hU.c;obtain⟨ao,cap,rfl⟩:=hcs.slice
   go_upto_region 7 with fail
   go_cut [4] from 21 to 29 (fun z wx=>∃(NT:Bool) (n7:Nat),z=.bool NT/\Hid ((Ai s.data.toList p==33&&decide (0<acc.length))=NT)/\wx=wr.drewN n7)
   case first=>
    cases oN:Ai s.data.toList p==33
    ·have e33:=(Q36 (Ai s.data.toList p)).trans oN
     go_wp2_with (go_at_call 148;refine(Ba b s p _ hp hs aH).mono ?_;rintro e w7⟨rfl,n7,rfl⟩)
     go_meet
     exact⟨false,n7,rfl,by rw[oN];rfl,rfl⟩
    ·have e33:=(Q36 (Ai s.data.toList p)).trans oN
     cases hl0:decide (0<acc.length)
     ·have hlen:acc.length=0:=by simpa using hl0
      rw[hlen] at d1
      go_wp2_with (go_at_call 148;refine(Ba b s p _ hp hs aH).mono ?_;rintro e w7⟨rfl,n7,rfl⟩)
      go_meet
      exact⟨false,n7,rfl,by rw[oN,hl0];rfl,rfl⟩
     ·have hl2:0<acc.length:=by simpa using hl0
      obtain⟨L,hlen⟩:∃L,acc.length=L+1:=⟨acc.length-1,by omega⟩
      rw[hlen] at d1;have HLEN:=Ac hlen;clear hl2 hlen
      go_wp2_with (go_at_call 148;refine(Ba b s p _ hp hs aH).mono ?_;rintro e w7⟨rfl,n7,rfl⟩)
      go_meet
      exact⟨true,n7,rfl,by rw[oN,hl0];rfl,rfl⟩
   case rest=>
    obtain⟨NT,n7,rfl,xF,rfl⟩:=hcut;have rK:=aH.drewN n7;have wJ:=hU.drewN n7;have wQ:=nQ.drewN n7;have dG:=Ab hg (Af wr n7 _);have mO:=hcs.row (Af wr n7 none) (RowOk.none 0 0 _) (by decide) (by decide);clear aH hU nQ hg hcs c1 c2 f1 d0 d1
    go_upto_if 30 with fail
    go_cut [] from 31 to 39 (fun wx=>∃XX,Hid (VAt b s XX false wx/\C2 163 U (.string nm) (.slice ao acc.length cap) wx/\C2 163 w.heap.size (.string ⟨#[]⟩) (.slice none 0 0) wx/\w.grownBy wx (some b)/\VCsAt w.heap.size (.slice ao acc.length cap) acc wx/\XX<=s.size/\p<=XX/\Ag s.data.toList XX=XX/\An s.data.toList (if NT=true then p+1 else p)=An s.data.toList XX))
    case first=>
     cases NT
     ·have HF:=Ac (show _/\_/\_/\_/\_ from⟨rK,wJ,wQ,dG,mO⟩)
      clear rK wJ wQ dG mO;go_wp2_with fail;go_meet
      obtain⟨rK,wJ,wQ,dG,mO⟩:=Aa HF;exact⟨p,Ac ⟨rK,wJ,wQ,dG,mO,hp,AW _,hsk,rfl⟩⟩
     ·have oN:(Ai s.data.toList p==33)=true:=by
       have h1:=Aa xF;rw[EA] at h1;exact h1.1
      have eH:=Ap _ _ 33 (by decide) oN;rw[Ae] at eH;obtain⟨x,hx⟩:∃x,Ag s.data.toList (p+1)=x:=⟨_,rfl⟩
      have gO:=Be s.data.toList (p+1) (by rw[Ae];exact eH);rw[Ae,hx] at gO;obtain⟨hpx,rY⟩:=gO;have xM:Hid (An s.data.toList (p+1)=An s.data.toList x):=by show An _ (p+1)=_;rw[<-hx,Lm]
      have vF:Ag s.data.toList x=x:=by rw[<-hx];exact Fj _ _
      have HXE:=Ac hx;have c1:=rK.c1;have f1:=rK.fz 1;clear hx;have kk:=Aj (wr.drewN n7) b 1 (.int .i64 ((p:Int)+1));have LO:VAt b s (p+1) false ((wr.drewN n7).setCell ⟨b,1,none⟩ (.int .i64 ((p:Int)+1))):=rK.set1 (p+1);have hUV:=wJ.kept kk (by simp;omega);have hRV:=wQ.kept kk (by simp;omega);have ZQ:=Ab dG kk;have zz:=mO.row kk rK.rowOk (by decide) (by decide);go_wp2_with fail;refine(Fe b s (p+1) _ eH hs LO).mono ?_;rintro e wW⟨rfl,s8,ah⟩;rw[Aa HXE] at s8;have HF:=Ac (show _/\_/\_/\_/\_ from⟨s8,hUV.row ah LO.rowOk (by decide),hRV.row ah LO.rowOk (by decide),Ab ZQ ah,zz.row ah LO.rowOk (by decide) (by decide)⟩);clear rK wJ wQ dG mO LO hUV hRV ZQ zz ah kk s8 c1 f1;go_wp2_with fail;go_meet
      obtain⟨h1,h2,h3,h4,h5⟩:=Aa HF;exact⟨x,Ac ⟨h1,h2,h3,h4,h5,rY,by omega,vF,Aa xM⟩⟩
    case rest=>
     obtain⟨XX,HF⟩:=hcut;obtain⟨s8,hUW,hRW,TS,zy,rY,hpX,vF,xM⟩:=Aa HF;replace xM:=Ac xM;clear rK wJ wQ dG mO HF;go_wp2_with fail;refine(Xz b s XX NT _ rY hs vF s8).mono ?_;rintro e w8⟨kd,oO,n8,eO,j8,iz,rfl,uB,jc,QS⟩;have UJ:=zy.row jc s8.rowOk (by decide) (by decide);have QB:=hUW.row jc s8.rowOk (by decide);have hR8:=hRW.row jc s8.rowOk (by decide);have vo:=Ab TS jc;obtain⟨xs,pL,nN⟩:=UJ;have hsz8:=vo.size;have RY:=TS.size;clear zy hUW hRW TS s8 jc;have a7:=AA w8 (.cells #[.bool NT,.int .i64 kd,.slice oO n8 eO] 166) none;have aR:=Ab a7 (AA (w8.alloc (.cells #[.bool NT,.int .i64 kd,.slice oO n8 eO] 166)) (.cells #[.bool NT,.int .i64 kd,.slice oO n8 eO] 166) none);have hrow:=RowOk.of ((pL.alloc (.cells #[.bool NT,.int .i64 kd,.slice oO n8 eO] 166)).alloc (.cells #[.bool NT,.int .i64 kd,.slice oO n8 eO] 166));have nM:=VCsCells.row aR (RowOk.none 0 0 w8) (by decide) acc xs nN;have hU9:=QB.kept aR (by simp);have hR9:=hR8.kept aR (by simp);have hb9:=uB.kept aR (by simp);have zm:=Ab vo (A6 aR (some b));obtain⟨d0,d1⟩:=QB.c;have d1A:=(QB.kept a7 (by simp)).c.2
     go_wp2_with (at_builtin;refine DG _ rfl _ _ 161 rfl w.heap.size 166 i0 (.agg #[.bool false,.int .i64 0,.slice none 0 0]) 3 40 Tryz.underlying161 aq hz0 hz1 hz2 rfl (by decide) _ acc.length xs rfl ((pL.alloc _).alloc _) ⟨w8.heap.size+1,0,none⟩ 1 1 [.bool NT,.int .i64 kd,.slice oO n8 eO] rfl rfl ?c1 ?c2 ?c3 ?c4 ?c5 ?_)
     case c1=>
      intro jj u hu
      match jj,hu with
      | 0,hu=>simp at hu;subst hu;simp[Addr.add]
      | 1,hu=>simp at hu;subst hu;simp[Addr.add]
      | 2,hu=>simp at hu;subst hu;simp[Addr.add]
      | n+3,hu=>simp at hu
     case c2=>
      intro u hu;simp at hu;rcases hu with rfl|rfl|rfl<;>rfl
     case c3=>unfold maxLen;omega
     case c4=>omega
     case c5=>simp;omega
     intro v' wA hown hgrow _;have wK:=hU9.row hgrow hrow (by decide);have kV:=hR9.row hgrow hrow (by decide);have cR:=hb9.row hgrow hrow (by decide);have zi:=Fq zm hgrow hrow;have nK:=VCsCells.row hgrow hrow (by decide) acc xs nM
     obtain⟨kZ,eC,rfl⟩:∃ao cap,v'=.slice ao (acc.length+1) cap:=by
      rcases hown.2 with ⟨h1,h2⟩|⟨g,cap,cur,h1,_⟩
      ·omega
      ·exact⟨_,_,h1⟩
     have hJ8:Hid (iz=false->∃c:Sv.Cond,An s.data.toList XX=.inr (c,j8)/\(c.kind:Int)=kd/\VTsAt w.heap.size (.slice oO n8 eO) c.terms wA):=by
      intro cm;rcases Aa QS with ⟨h1,_⟩|⟨_,c,h1,h2,h3⟩
      ·rw[cm] at h1;cases h1
      ·exact⟨c,h1,h2,Cv ((VTsAt.row h3 aR (RowOk.none 0 0 w8) (by decide)).row hgrow hrow (by decide)) RY⟩
     have hJ9:Hid (iz=true->An s.data.toList XX=.inl j8):=by
      intro cm;rcases Aa QS with ⟨_,h1⟩|⟨h1,_⟩
      ·exact h1
      ·rw[cm] at h1;cases h1
     have zT:j8<=s.size/\(iz=false->p<j8):=by
      have aK:=Dt s.data.toList XX (by rw[Ae];exact rY);rcases Aa QS with ⟨h1,h2⟩|⟨h1,c,h2,_⟩
      ·rw[h2] at aK;have h3:j8<=s.data.toList.length:=aK;rw[Ae] at h3;exact⟨h3,fun h=>by rw[h1] at h;cases h⟩
      ·rw[h2] at aK;obtain⟨h3,h4⟩:XX<j8/\j8<=s.data.toList.length:=aK;rw[Ae] at h4;exact⟨h4,fun _=>by omega⟩
     obtain⟨zT,vX⟩:=zT;clear QB hR8 uB vo pL nN aR hrow nM hU9 hR9 hb9 zm d0 d1 d1A hgrow QS a7;have kU:=Aj wA U 1 (.slice kZ (acc.length+1) eC);have hUB:=wK.put1 (.slice kZ (acc.length+1) eC);have iu:=kV.kept kU (by simp;omega);have kR:=cR.kept kU (by simp;omega);have zg:=Bi zi kU (EK sB);have nJ:=VCsCells.row kU (RowOk.one2 wK (AG _)) (by decide) acc xs nK;have tB:=Fu hown kU (RowOk.one2 wK (AG _)) (by decide)
     have MI:Hid (iz=false->∃c:Sv.Cond,An s.data.toList XX=.inr (c,j8)/\(c.kind:Int)=kd/\VTsAt w.heap.size (.slice oO n8 eO) c.terms (wA.setCell ⟨U,1,none⟩ (.slice kZ (acc.length+1) eC))):=by
      intro cm;obtain⟨c,h1,h2,h3⟩:=Aa hJ8 cm;exact⟨c,h1,h2,h3.row kU (RowOk.one2 wK (AG _)) (by decide)⟩
     have a1:=wK.c.2;have az:=wK.fz 1;clear kV cR zi nK hown kU hJ8;go_wp2_with fail;refine(Fw b s j8 iz _ zT hs kR).mono ?_;rintro e wC⟨rfl,kQ,bP⟩;have QA:=hUB.row bP kR.rowOk (by decide);have jQ:=iu.row bP kR.rowOk (by decide);have s4:=Ab zg bP;have nI:=VCsCells.row bP kR.rowOk (by decide) acc xs nJ;have tA:=Fu tB bP kR.rowOk (by decide)
     have MH:Hid (iz=false->∃c:Sv.Cond,An s.data.toList XX=.inr (c,j8)/\(c.kind:Int)=kd/\VTsAt w.heap.size (.slice oO n8 eO) c.terms wC):=by
      intro cm;obtain⟨c,h1,h2,h3⟩:=Aa MI cm;exact⟨c,h1,h2,h3.row bP kR.rowOk (by decide)⟩
     clear wK hUB iu kR zg nJ tB bP MI a1 az;obtain⟨pp,vO⟩:∃pp,(if iz=true then j8 else Ag s.data.toList j8)=pp:=⟨_,rfl⟩
     rw[vO] at kQ
     have o9:pp<=s.size/\(iz=false->p<pp):=by
      have h1:=Be s.data.toList j8 (by rw[Ae];exact zT);rw[Ae] at h1;rw[<-vO];cases iz
      ·rw[AO (by simp)];exact⟨h1.2,fun _=>by have:=vX rfl;omega⟩
      ·rw[AQ rfl];exact⟨zT,fun h=>by cases h⟩
     obtain⟨o9,yt⟩:=o9;obtain⟨ch,hch⟩:∃ch,(if iz=true then (0:UInt8) else Ai s.data.toList pp)=ch:=⟨_,rfl⟩
     have mr:=Ac vO;have rB:=Ac hch;clear vO hch;have HPB:=Ac yt;have HPJ:=Ac vX;clear yt vX;have jG:=fun n=>X7 b s pp iz (wC.drewN n) o9 hs (kQ.drewN n)
     rw[Aa rB] at jG
     have VV:Hid (iz=false->∃c:Sv.Cond,VCsAt w.heap.size (.slice kZ (acc.length+1) eC) (acc++[⟨NT,c.kind,c.terms⟩]) wC/\An s.data.toList XX=.inr (c,j8)):=by
      intro cm;obtain⟨c,h1,h2,h3⟩:=Aa MH cm;refine⟨c,⟨_,by rw[AK];exact tA,?_⟩,h1⟩;have h4:=VCsCells.snoc (⟨NT,c.kind,c.terms⟩:Sv.Cond) (.slice oO n8 eO) h3 acc xs nI;have h5:((c.kind:Nat):Int)=kd:=h2;show VCsCells w.heap.size wC _ (xs++[.bool NT,.int .i64 kd,.slice oO n8 eO])
      rw[<-h5];exact h4
     clear nI tA MH;have c1:=kQ.c1;have f1:=kQ.fz 1;have c2:=kQ.c2;have f2:=kQ.fz 2;cases mj:ch==59
     ·have e59:=(Q38 ch).trans mj
      have WN:Hid (iz=false->∃c:Sv.Cond,VCsAt w.heap.size (.slice kZ (acc.length+1) eC) (acc++[⟨NT,c.kind,c.terms⟩]) wC/\(match F5 (m-1) s.data.toList (acc++[⟨NT,c.kind,c.terms⟩]) pp with
        | .inl m=>.inl m
        | .inr (cs,m)=>.inr (⟨Do s.data.toList i (Aq 8 s.data.toList i),cs⟩,m))=r):=by
       intro cm;obtain⟨c,h1,h2⟩:=Aa VV cm;refine⟨c,h1,?_⟩;have h3:=Aa HX;unfold F5 at h3;rw[Aa xF,Aa xM,h2] at h3;have h4:=Aa mr;rw[cm,AO (by simp)] at h4;have h5:=Aa rB;rw[cm,AO (by simp)] at h5;have h6:=Aa HPJ cm;obtain⟨m2,rfl⟩:∃m2,m=m2+1:=⟨m-1,by omega⟩
       rw[<-h4,Nat.add_sub_cancel,<-S1 m2 _ _ _ (by simp) (by rw[h4,h5];exact mj)];exact h3
      cases qo:ch==33
      ·have WC:((ch.toNat:Int) !=33)=true:=Xx ch 33 qo
       cases MU:ch==40
       ·have e40:((ch.toNat:Int) !=40)=true:=Xx ch 40 MU
        have XC:Hid (r=.inl pp):=by
         cases cm:iz
         ·obtain⟨c,_,h2⟩:=Aa WN cm
          have h4:=Aa mr;rw[cm,AO (by simp)] at h4;have h5:=Aa rB;rw[cm,AO (by simp)] at h5;rw[S2 _ _ _ _ (by rw[<-h4];exact Fj _ _) (by rw[h5];exact qo) (by rw[h5];exact MU)] at h2;exact h2.symm
         ·have h3:=Aa HX
          unfold F5 at h3;rw[Aa xF,Aa xM,Aa hJ9 cm] at h3;have h4:=Aa mr;rw[cm,AQ rfl] at h4;rw[<-h4];exact h3.symm
        go_wp2_with (go_at_call 148;refine(by first|exact jG _|exact jG 0:Calls _ _ _ _ _).mono ?_;rintro e w9⟨rfl,n9,rfl⟩)
        go_roundw
        case rel=>exact⟨pp,nm,_,true,(kQ.drewN _).set2 true,o9,(QA.drewN _).kept (Aj _ b 2 _) (by simp;omega),(jQ.drewN _).kept (Aj _ b 2 _) (by simp;omega),Ab (Ab s4 (Af wC _ _)) (Aj _ b 2 _),.inl ⟨rfl,Aa XC,_,_,_,rfl⟩⟩
        case measure=>
         refine DM (DR (((kQ.drewN _).set2 true).ms s.size)) ?_;rw[Aa HM];simp
       ·have e40:((ch.toNat:Int) !=40)=false:=Q0h ch 40 MU
        have cm:iz=false:=by
         cases cm:iz
         ·rfl
         ·have h5:=Aa rB
          rw[cm,AQ rfl] at h5;rw[<-h5] at MU;exact absurd MU (by decide)
        subst cm;have x8:=Ac (Aa WN rfl);have r4:=Ac (Aa HPB rfl)
        go_wp2_with (go_at_call 148;refine(by first|exact jG _|exact jG 0:Calls _ _ _ _ _).mono ?_;rintro e w9⟨rfl,n9,rfl⟩)
        go_roundw
        case rel=>
         obtain⟨c,h1,h2⟩:=Aa x8;have h4:=Aa mr;rw[AO (by simp)] at h4;have h6:=Aa r4;exact⟨pp,nm,_,false,kQ.drewN _,o9,QA.drewN _,jQ.drewN _,Ab s4 (Af wC _ _),.inr ⟨rfl,m-1,_,by omega,by simp;omega,by rw[<-h4];exact Fj _ _,h1.row (Af wC _ none) (RowOk.none 0 0 _) (by decide) (by decide),Aa yA,h2⟩⟩
        case measure=>
         refine DM (DR ((kQ.drewN _).ms s.size)) ?_;have h6:=Aa r4;rw[Aa HM];simp;omega
      ·have WC:((ch.toNat:Int) !=33)=false:=Q0h ch 33 qo
       have cm:iz=false:=by
        cases cm:iz
        ·rfl
        ·have h5:=Aa rB
         rw[cm,AQ rfl] at h5;rw[<-h5] at qo;exact absurd qo (by decide)
       subst cm;have x8:=Ac (Aa WN rfl);have r4:=Ac (Aa HPB rfl)
       go_wp2_with (go_at_call 148;refine(by first|exact jG _|exact jG 0:Calls _ _ _ _ _).mono ?_;rintro e w9⟨rfl,n9,rfl⟩)
       go_roundw
       case rel=>
        obtain⟨c,h1,h2⟩:=Aa x8;have h4:=Aa mr;rw[AO (by simp)] at h4;have h6:=Aa r4;exact⟨pp,nm,_,false,kQ.drewN _,o9,QA.drewN _,jQ.drewN _,Ab s4 (Af wC _ _),.inr ⟨rfl,m-1,_,by omega,by simp;omega,by rw[<-h4];exact Fj _ _,h1.row (Af wC _ none) (RowOk.none 0 0 _) (by decide) (by decide),Aa yA,h2⟩⟩
       case measure=>
        refine DM (DR ((kQ.drewN _).ms s.size)) ?_;have h6:=Aa r4;rw[Aa HM];simp;omega
     ·have e59:=(Q38 ch).trans mj
      have cm:iz=false:=by
       cases cm:iz
       ·rfl
       ·have h5:=Aa rB
        rw[cm,AQ rfl] at h5;rw[<-h5] at mj;exact absurd mj (by decide)
      subst cm;have h5:=Aa rB;rw[AO (by simp)] at h5;have h4:=Aa mr;rw[AO (by simp)] at h4;have SQ:=Ap s.data.toList pp 59 (by decide) (by rw[h5];exact mj);rw[Ae] at SQ;obtain⟨c,hc1,hc2⟩:=Aa VV rfl
      have hr:r=.inr (⟨Do s.data.toList i (Aq 8 s.data.toList i),acc++[⟨NT,c.kind,c.terms⟩]⟩,pp+1):=by
       have h3:=Aa HX;unfold F5 at h3;rw[Aa xF,Aa xM,hc2] at h3;have h6:=Aa HPJ rfl;obtain⟨m2,rfl⟩:∃m2,m=m2+1:=⟨m-1,by omega⟩
       simp only at h3;rw[De,h4,h5,mj,AQ rfl] at h3;exact h3.symm
      subst hr;have WV:=Aa yA;subst WV;clear h4 h5 VV hc2 HX yA;have kk:=fun n=>Aj (wC.drewN n) b 1 (.int .i64 ((pp:Int)+1))
      have hb2:=fun n=>(kQ.drewN n).set1 (pp+1)
      have LV:=fun n=>(QA.drewN n).kept (kk n) (by simp;omega)
      have dY:=fun n=>(jQ.drewN n).kept (kk n) (by simp;omega)
      have e0:=fun n=>(LV n).c.1
      have e1:=fun n=>(LV n).c.2
      have g0:=fun n=>(dY n).c.1
      have g1:=fun n=>(dY n).c.2
      have y0:=fun n=>(dY n).fz 0
      have y1:=fun n=>(dY n).fz 1
      generalize hcut:Do s.data.toList i (Aq 8 s.data.toList i)=RL at *
      go_wp2_with (go_at_call 148;refine(by first|exact jG _|exact jG 0:Calls _ _ _ _ _).mono ?_;rintro e w9⟨rfl,n9,rfl⟩)
      have k3:=fun n=>Ea ((wC.drewN n).setCell ⟨b,1,none⟩ (.int .i64 ((pp:Int)+1))) w.heap.size (.string ⟨RL.toArray⟩) (.slice kZ (acc.length+1) eC)
      have g01:=fun n=>((dY n).set2 (.string ⟨RL.toArray⟩) (.slice kZ (acc.length+1) eC)).c
      exact BO (v:=.agg #[.string ⟨RL.toArray⟩,.slice kZ (acc.length+1) eC]) (by simp[results,Tryz.results118,go_sem,g01]) rfl ⟨_,by subst hcut;rfl,((hc1.row (Af wC _ none) (RowOk.none 0 0 _) (by decide) (by decide)).row (kk _) (kQ.drewN _).rowOk (by decide) (by decide)).row (k3 _) (RowOk.one2 (dY _) (AW _)) (by decide) (by decide),(hb2 _).kept (k3 _) (by simp;omega),Bi (Ab (Ab s4 (Af wC _ _)) (kk _)) (k3 _) (AW _)⟩
theorem Yd(b:Nat)(s:ByteArray)(i:Nat)(w:World)(hi:i<=s.size)(hs:s.size<=400)(hb:VAt b s i false w) :
  Calls Tryz.prog 118 #[.pointer (some ⟨b,0,none⟩)] w fun e w'=>∃(nm:ByteArray) (ao:Option Addr) (n cap j:Nat) (bd:Bool),e=.returned (.agg #[.string nm,.slice ao n cap])/\VAt b s j bd w'/\w.grownBy w' (some b)/\j<=s.size/\
   Hid ((bd=true/\A1 s.data.toList i=.inl j)\/(bd=false/\∃(q:Sv.Rule),A1 s.data.toList i=.inr (q,j)/\nm=⟨q.name.toArray⟩/\i<j/\VCsAt w.heap.size (.slice ao n cap) q.conds w')):=by
 refine(Q2s b s i w hi hs hb _ rfl).mono ?_;intro e w' hp;have aK:=Ig s.data.toList i (by rw[Ae];exact hi);cases hr:A1 s.data.toList i with
 | inl k=>
  rw[hr] at hp aK;obtain⟨nm,ao,n,cap,rfl,h1,h2⟩:=hp;have hk:k<=s.data.toList.length:=aK;rw[Ae] at hk;exact⟨nm,ao,n,cap,k,true,rfl,h1,h2,hk,.inl ⟨rfl,rfl⟩⟩
 | inr q=>
  obtain⟨q,j⟩:=q;rw[hr] at hp aK;obtain⟨u,rfl,h1,h2,h3⟩:=hp;obtain⟨fq,b6⟩:i<j/\j<=s.data.toList.length:=aK;rw[Ae] at b6;obtain⟨ao,cap,rfl⟩:=h1.slice;exact⟨_,ao,_,cap,j,false,rfl,h2,h3,b6,.inr ⟨rfl,q,rfl,rfl,fq,h1⟩⟩
def VRsCells(B:Nat)(w:World):List Sv.Rule->List Value->Prop
 | [],xs=>xs=[]
 | q::rs,xs=>∃u ys,xs=.string ⟨q.name.toArray⟩::u::ys/\VCsAt B u q.conds w/\VRsCells B w rs ys
theorem VRsCells.row{B:Nat}{w w':World}{base':Nat}{e':TypeId}{row:Option Nat}(hg:w.grownBy w' row)(hr:RowOk base' e' row w)(hne:e'≠169)(dL:e'≠166):∀(rs:List Sv.Rule) (xs:List Value),VRsCells B w rs xs->VRsCells B w' rs xs
 | [],_,h=>h
 | _::rs,_,⟨u,ys,h1,h2,h3⟩=>⟨u,ys,h1,h2.row hg hr hne dL,VRsCells.row hg hr hne dL rs ys h3⟩
theorem VRsCells.snoc{B:Nat}{w:World}(q:Sv.Rule)(u:Value)(hu:VCsAt B u q.conds w):∀(rs:List Sv.Rule) (xs:List Value),VRsCells B w rs xs->VRsCells B w (rs++[q]) (xs++[.string ⟨q.name.toArray⟩,u])
 | [],xs,h=>⟨u,[],by rw[show xs=[] from h];rfl,hu,rfl⟩
 | _::rs,_,⟨v,ys,h1,h2,h3⟩=>⟨v,ys++[.string ⟨q.name.toArray⟩,u],by rw[h1];rfl,h2,VRsCells.snoc q u hu rs ys h3⟩
def VRsAt(base:Nat)(v:Value)(rs:List Sv.Rule)(w:World):Prop:=∃xs,w.ownsRow base 163 2 v rs.length xs/\VRsCells base w rs xs
theorem VRsAt.slice{base:Nat}{u:Value}{rs:List Sv.Rule}{w:World}(h:VRsAt base u rs w):∃ao cap,u=.slice ao rs.length cap:=by
 obtain⟨xs,h,_⟩:=h;rcases h.2 with ⟨h1,h2⟩|⟨g,cap,cur,h1,_⟩
 ·exact⟨none,0,by rw[h2];exact h1⟩
 ·exact⟨_,_,h1⟩
theorem VRsAt.row{w w':World}{base base':Nat}{e':TypeId}{v:Value}{rs:List Sv.Rule}{row:Option Nat}(h:VRsAt base v rs w)(hg:w.grownBy w' row)(hr:RowOk base' e' row w)(hne:e'≠169)(dL:e'≠166)(vQ:e'≠163):VRsAt base v rs w':=by
 obtain⟨xs,h1,h2⟩:=h;exact⟨xs,Fu h1 hg hr vQ,VRsCells.row hg hr hne dL rs xs h2⟩
theorem VCsCells.weak{B B':Nat}{w:World}(hb:B'<=B):∀(cs:List Sv.Cond) (xs:List Value),VCsCells B w cs xs->VCsCells B' w cs xs
 | [],_,h=>h
 | _::cs,_,⟨u,ys,h1,h2,h3⟩=>⟨u,ys,h1,Cv h2 hb,VCsCells.weak hb cs ys h3⟩
theorem VCsAt.weak{base base':Nat}{v:Value}{cs:List Sv.Cond}{w:World}(h:VCsAt base v cs w)(hb:base'<=base):VCsAt base' v cs w:=by
 obtain⟨xs,h1,h2⟩:=h;exact⟨xs,Cv h1 hb,VCsCells.weak hb cs xs h2⟩
theorem VRsCells.weak{B B':Nat}{w:World}(hb:B'<=B):∀(rs:List Sv.Rule) (xs:List Value),VRsCells B w rs xs->VRsCells B' w rs xs
 | [],_,h=>h
 | _::rs,_,⟨u,ys,h1,h2,h3⟩=>⟨u,ys,h1,h2.weak hb,VRsCells.weak hb rs ys h3⟩
theorem VRsAt.weak{base base':Nat}{v:Value}{rs:List Sv.Rule}{w:World}(h:VRsAt base v rs w)(hb:base'<=base):VRsAt base' v rs w:=by
 obtain⟨xs,h1,h2⟩:=h;exact⟨xs,Cv h1 hb,VRsCells.weak hb rs xs h2⟩
theorem Tryz.infoVRule:(Tryz.prog.info? 163).map (fun i=>(i.zero,i.size,i.bytes))=some (some (.agg #[.string ⟨#[]⟩,.slice none 0 0]),2,40):=by kernel_rfl
theorem VTsAt.cells{ts:List Sv.Term}(h:VTsAt base v ts w){t:Sv.Term}(hk:ts[k]?=some t) :
  ∃g cap,v=.slice (some ⟨g,0,none⟩) ts.length cap/\w.cell? ⟨g,k*3,none⟩=some (.int .u8 t.letter.toNat)/\w.cell? ⟨g,k*3+1,none⟩=some (.int .i64 t.value)/\w.cell? ⟨g,k*3+2,none⟩=some (.bool (t.sort==0)):=by
 have hlt:k<ts.length:=(AL.1 hk).1;rcases h.2 with ⟨_,h2⟩|⟨g,cap,cur,h1,h2⟩
 ·omega
 ·subst h1
  have h3:=FC (w:=w) (base:=base) (e:=169) (size:=3) (g:=g) (n:=ts.length) (cap:=cap) (xs:=ts.flatMap Au) h;refine⟨g,cap,rfl,?_,?_,?_⟩
  ·rw[h3 (k*3) (by omega)];exact Qg Au (fun _=>rfl) ts k t hk 0 (by omega)
  ·rw[h3 (k*3+1) (by omega)];exact Qg Au (fun _=>rfl) ts k t hk 1 (by omega)
  ·rw[h3 (k*3+2) (by omega)];exact Qg Au (fun _=>rfl) ts k t hk 2 (by omega)
theorem VCsCells.at{B:Nat}{w:World}:∀(cs:List Sv.Cond) (xs:List Value) (k:Nat) (c:Sv.Cond),VCsCells B w cs xs->cs[k]?=some c->∃u,xs[k*3]?=some (.bool c.neg)/\xs[k*3+1]?=some (.int .i64 c.kind)/\xs[k*3+2]?=some u/\VTsAt 0 u c.terms w
 | [],_,k,c,_,h=>by simp at h
 | a::cs,xs,0,c,⟨u,ys,h1,h2,_⟩,h=>by
  simp at h;subst h;exact⟨u,by rw[h1];rfl,by rw[h1];rfl,by rw[h1];rfl,Cv h2 (AG _)⟩
 | a::cs,xs,k+1,c,⟨u,ys,h1,_,h3⟩,h=>by
  obtain⟨v,g1,g2,g3,g4⟩:=VCsCells.at cs ys k c h3 (by simpa using h);refine⟨v,?_,?_,?_,g4⟩
  ·rw[h1,show (k+1)*3=k*3+3 from by omega];exact g1
  ·rw[h1,show (k+1)*3+1=k*3+1+3 from by omega];exact g2
  ·rw[h1,show (k+1)*3+2=k*3+2+3 from by omega];exact g3
theorem VRsCells.at{B:Nat}{w:World}:∀(rs:List Sv.Rule) (xs:List Value) (k:Nat) (q:Sv.Rule),VRsCells B w rs xs->rs[k]?=some q->∃u,xs[k*2]?=some (.string ⟨q.name.toArray⟩)/\xs[k*2+1]?=some u/\VCsAt 0 u q.conds w
 | [],_,k,c,_,h=>by simp at h
 | a::cs,xs,0,c,⟨u,ys,h1,h2,_⟩,h=>by
  simp at h;subst h;exact⟨u,by rw[h1];rfl,by rw[h1];rfl,h2.weak (AG _)⟩
 | a::cs,xs,k+1,c,⟨u,ys,h1,_,h3⟩,h=>by
  obtain⟨v,g1,g2,g4⟩:=VRsCells.at cs ys k c h3 (by simpa using h);refine⟨v,?_,?_,g4⟩
  ·rw[h1,show (k+1)*2=k*2+2 from by omega];exact g1
  ·rw[h1,show (k+1)*2+1=k*2+1+2 from by omega];exact g2
theorem VCsAt.cells{cs:List Sv.Cond}(h:VCsAt base v cs w){c:Sv.Cond}(hk:cs[k]?=some c) :
  ∃g cap ao aC,v=.slice (some ⟨g,0,none⟩) cs.length cap/\w.cell? ⟨g,k*3,none⟩=some (.bool c.neg)/\w.cell? ⟨g,k*3+1,none⟩=some (.int .i64 c.kind)/\w.cell? ⟨g,k*3+2,none⟩=some (.slice ao c.terms.length aC)/\VTsAt 0 (.slice ao c.terms.length aC) c.terms w:=by
 obtain⟨xs,h,hc⟩:=h;have hlt:k<cs.length:=(AL.1 hk).1;obtain⟨u,g1,g2,g3,g4⟩:=VCsCells.at cs xs k c hc hk;obtain⟨ao,aC,rfl⟩:=g4.slice;rcases h.2 with ⟨_,h2⟩|⟨g,cap,cur,h1,h2⟩
 ·omega
 ·subst h1
  have h3:=FC (w:=w) (base:=base) (e:=166) (size:=3) (g:=g) (n:=cs.length) (cap:=cap) (xs:=xs) h;exact⟨g,cap,ao,aC,rfl,(h3 (k*3) (by omega)).trans g1,(h3 (k*3+1) (by omega)).trans g2,(h3 (k*3+2) (by omega)).trans g3,g4⟩
theorem VRsAt.cells{rs:List Sv.Rule}(h:VRsAt base v rs w){q:Sv.Rule}(hk:rs[k]?=some q) :
  ∃g cap ao aC,v=.slice (some ⟨g,0,none⟩) rs.length cap/\w.cell? ⟨g,k*2,none⟩=some (.string ⟨q.name.toArray⟩)/\w.cell? ⟨g,k*2+1,none⟩=some (.slice ao q.conds.length aC)/\VCsAt 0 (.slice ao q.conds.length aC) q.conds w:=by
 obtain⟨xs,h,hc⟩:=h;have hlt:k<rs.length:=(AL.1 hk).1;obtain⟨u,g1,g2,g4⟩:=VRsCells.at rs xs k q hc hk;obtain⟨ao,aC,rfl⟩:=g4.slice;rcases h.2 with ⟨_,h2⟩|⟨g,cap,cur,h1,h2⟩
 ·omega
 ·subst h1
  have h3:=FC (w:=w) (base:=base) (e:=163) (size:=2) (g:=g) (n:=rs.length) (cap:=cap) (xs:=xs) h;exact⟨g,cap,ao,aC,rfl,(h3 (k*2) (by omega)).trans g1,(h3 (k*2+1) (by omega)).trans g2,g4⟩
theorem Su(n:Nat)(l:List UInt8)(acc:List Sv.Cond)(i:Nat)(hi:i<=l.length)(ha:acc.length<=i)(cs:List Sv.Cond)(m:Nat)(h:Dk n l acc i=.inr (cs,m)):cs.length<=l.length:=by
 induction n generalizing acc i with
 | zero=>cases h
 | succ n ih=>
  have hs:=Be l i hi;rw[De] at h;cases mj:Ai l (Ag l i)==59
  ·rw[mj,AO (by simp)] at h
   have hx:Ag l i<=(if (Ai l (Ag l i)==33)=true then Ag l i+1 else Ag l i)/\(if (Ai l (Ag l i)==33)=true then Ag l i+1 else Ag l i)<=l.length:=by
    split
    ·rename_i h;have:=Ap l _ 33 (by decide) h;omega
    ·omega
   generalize (if (Ai l (Ag l i)==33)=true then Ag l i+1 else Ag l i)=x at hx h;have ht:=Dt l x hx.2;cases hr:An l x with
   | inl k=>rw[hr] at h;cases h
   | inr p=>
    obtain⟨c,j⟩:=p;rw[hr] at ht h;obtain⟨h1,h2⟩:x<j/\j<=l.length:=ht;exact ih _ j h2 (by simp;omega) h
  ·rw[mj,AQ rfl] at h
   simp only[CC,CH] at h;rw[<-h.1];omega
theorem P0(l:List UInt8)(i:Nat)(hi:i<=l.length)(q:Sv.Rule)(m:Nat)(h:A1 l i=.inr (q,m)):q.conds.length<=l.length:=by
 have hn:=Dc 8 l i hi;by_cases h1:Aq 8 l i=i
 ·rw[show A1 l i=.inl i from by unfold A1;simp only;rw[AQ h1]] at h;cases h
 ·cases h2:Ai l (Ag l (Aq 8 l i))==58
  ·rw[show A1 l i=.inl (Ag l (Aq 8 l i)) from by unfold A1;simp only;rw[AO h1,h2];rfl] at h;cases h
  ·rw[Lq l i h1 h2] at h
   have hp:=Ap l _ 58 (by decide) h2;cases hc:Bl l (Ag l (Aq 8 l i)+1) with
   | inl k=>rw[hc] at h;cases h
   | inr p=>
    obtain⟨cs,j⟩:=p;rw[hc] at h;simp only[CC,CH] at h;rw[<-h.1];show cs.length<=l.length
    unfold Bl at hc;have ZZ:=Dt l (Ag l (Aq 8 l i)+1) hp;cases hd:An l (Ag l (Aq 8 l i)+1) with
    | inl k=>rw[hd] at hc;cases hc
    | inr p2=>
     obtain⟨c,j2⟩:=p2;rw[hd] at hc ZZ;obtain⟨h5,h6⟩:Ag l (Aq 8 l i)+1<j2/\j2<=l.length:=ZZ;exact Su _ l [c] j2 h6 (by simp;omega) cs j hc
theorem S8(n:Nat)(l:List UInt8)(acc:List Sv.Rule)(i:Nat)(hi:i<=l.length)(ha:∀q∈acc,q.conds.length<=l.length)(rs:List Sv.Rule)(h:F8 n l acc i=.inr rs):∀q∈rs,q.conds.length<=l.length:=by
 induction n generalizing acc i with
 | zero=>cases h
 | succ n ih=>
  rw[Df] at h;by_cases hlt:i<l.length
  ·rw[AQ hlt] at h
   have aK:=Ig l i hi;cases hr:A1 l i with
   | inl k=>rw[hr] at h;cases h
   | inr p=>
    obtain⟨q,j⟩:=p;rw[hr] at h aK;obtain⟨_,h2⟩:i<j/\j<=l.length:=aK;refine ih _ _ (Be l j h2).2 ?_ h;intro q2 dE;rw[AY,AX] at dE;rcases dE with h3|rfl
    ·exact ha _ h3
    ·exact P0 l i hi _ _ hr
  ·rw[AO hlt] at h
   simp only[CC] at h;rw[<-h];exact ha
theorem Og(l:List UInt8)(rs:List Sv.Rule)(h:Bn l=.inr rs):∀q∈rs,q.conds.length<=l.length:=
 S8 _ l [] _ (Be l 0 (AG _)).2 (by intro q hq;cases hq) rs h
theorem Rl(a n:Nat):decide ((a:Int)<(n:Int))=decide (a<n):=by
 by_cases h:a<n
 ·rw[IL h,IL (by omega)]
 ·rw[JC h,JC (by omega)]
theorem Q44(n:Nat):decide ((8:Int)<(n:Int))=decide (8<n):=Rl 8 n
theorem Q4z(n:Nat):decide ((4:Int)<(n:Int))=decide (4<n):=Rl 4 n
def E5(w:World)(s:ByteArray)(e:Ending)(w':World):Prop:=
 w.grownBy w' none/\
 if 400<s.size then e=.returned (.tuple #[.slice none 0 0,.int .i64 0,.int .i64 2])
 else match Bn s.data.toList with
  | .inl k=>e=.returned (.tuple #[.slice none 0 0,.int .i64 k,.int .i64 1])
  | .inr rs=>
   if D6 rs=true then e=.returned (.tuple #[.slice none 0 0,.int .i64 0,.int .i64 2])
   else ∃u,e=.returned (.tuple #[u,.int .i64 rs.length,.int .i64 0])/\VRsAt w.heap.size u rs w'
def Q23(b:Nat)(s:ByteArray)(base:Nat)(w:World)(r:Nat ⊕ List Sv.Rule)(u:Value)(w':World):Prop:=
 ∃(p:Nat) (bad:Bool),VAt b s p bad w'/\p<=s.size/\w.grownBy w' (some b)/\
  ((bad=true/\r=.inl p/\∃ao n cap,u=.slice ao n cap)\/(bad=false/\∃(n:Nat) (acc:List Sv.Rule),s.size<p+n/\acc.length<=p/\VRsAt base u acc w'/\F8 n s.data.toList acc p=r))
theorem Qt(s:ByteArray)(w:World)(hm:s.size<=maxLen)(hs:400<s.size) :
  Calls Tryz.prog 78 #[.string s] w fun e w'=>E5 w s e w':=by
 unfold maxLen at hm;have hd:decide ((400:Int)<(s.size:Int))=true:=by simp;omega
 go_enter Tryz.func78,Tryz.ntmps78;go_wp2
 go_ret3
 refine⟨AD _ _,?_⟩;rw[AQ hs];rfl
theorem Pn(s:ByteArray)(w:World)(hs:¬ 400<s.size) :
  Calls Tryz.prog 78 #[.string s] w fun e w'=>E5 w s e w':=by
 obtain⟨i0,aq,hz0,hz1,hz2⟩:=info_parts Tryz.infoVRule;have hd:decide ((400:Int)<(s.size:Int))=false:=by simp;omega
 have hs':s.size<=400:=by omega
 have HS:=Ac hs;clear hs;obtain⟨r,hr⟩:∃r,Bn s.data.toList=r:=⟨_,rfl⟩
 have HR:=Ac hr;clear hr;have hb0:VAt w.heap.size s 0 false (w.alloc (.cells #[.string s,.int .i64 0,.bool false] 229)):=AR _ _;have a7:=AA w (.cells #[.string s,.int .i64 0,.bool false] 229) none;have hle:=Be s.data.toList 0 (by simp);rw[Ae] at hle;go_enter Tryz.func78,Tryz.ntmps78;go_wp2_with fail;refine(Fe _ s 0 _ (AG _) hs' hb0).mono ?_;rintro e w1⟨rfl,hb1,hg1⟩;go_wp2_with fail;go_loopw [6] (fun u w'=>Q23 w.heap.size s w.heap.size (w.alloc (.cells #[.string s,.int .i64 0,.bool false] 229)) r u w') (fun _ w'=>Q00 w.heap.size s.size w')
 case atStart=>
  exact⟨_,false,hb1,hle.2,hg1,.inr ⟨rfl,s.data.toList.length+1,[],by simp;omega,AG _,⟨[],EJ _ _ _ _,rfl⟩,Aa HR⟩⟩
 case round=>
  clear hb1 hg1 hle;obtain⟨p,bad,aH,hp,hg,kP⟩:=hrel;have HM:=Ac (aH.ms s.size);have c1:=aH.c1;have c2:=aH.c2;rcases kP with ⟨rfl,hr,ao,nn,cap,rfl⟩|⟨rfl,m,acc,hm,aX,bX,bJ⟩
  ·have hdec:∃x,decide (p<s.size)=x:=⟨_,rfl⟩
   obtain⟨x,hx⟩:=hdec;cases x
   all_goals
    go_wp2;go_quiet (fail);go_wp2
    go_ret3
    refine⟨Bi a7 (Ab hg (Af _ _ _)) (AW _),?_⟩;rw[AO (Aa HS),Aa HR,hr];rfl
  ·have HN:=Ac bJ
   clear bJ;obtain⟨ao,cap,rfl⟩:=bX.slice;by_cases hlt:p<s.size
   ·have hx:decide (p<s.size)=true:=by simpa using hlt
    have ea:Hid ((match A1 s.data.toList p with
      | .inl k=>.inl k
      | .inr (q,j)=>F8 (m-1) s.data.toList (acc++[q]) (Ag s.data.toList j))=r):=by
     have h0:=Aa HN;obtain⟨m2,rfl⟩:∃m2,m=m2+1:=⟨m-1,by omega⟩
     rw[Df,Ae,AQ hlt] at h0;exact h0
    clear HN;go_wp2_with fail;refine(Yd _ s p _ hp hs' (by first|exact aH|exact aH.drewN _)).mono ?_;rintro e w5⟨nm,gK,n5,aI,j5,QN,rfl,hb5,aY,PN,HV⟩;have vK:=bX.row aY aH.rowOk (by decide) (by decide) (by decide);have bQ:=Ab hg aY
    have yb:w.heap.size+1<=w5.heap.size:=by
     have:=bQ.size;rwa[EP] at this
    have SA:w.heap.size<=wr.heap.size:=by
     have:=hg.size;rw[EP] at this;omega
    clear bX aH hg aY c1 c2;obtain⟨xs,cJ,cP⟩:=vK;have ze:=AA w5 (.cells #[.string nm,.slice gK n5 aI] 163) none;have aR:=Ab ze (AA (w5.alloc (.cells #[.string nm,.slice gK n5 aI] 163)) (.cells #[.string nm,.slice gK n5 aI] 163) none);have hrow:=RowOk.of ((cJ.alloc (.cells #[.string nm,.slice gK n5 aI] 163)).alloc (.cells #[.string nm,.slice gK n5 aI] 163));have fu:=hb5.kept aR (by simp);have cO:=VRsCells.row aR (RowOk.none 0 0 w5) (by decide) (by decide) acc xs cP;have eK:=Ab bQ (A6 aR (some w.heap.size))
    go_wp2_with (at_builtin;refine DG _ rfl _ _ 158 rfl w.heap.size 163 i0 (.agg #[.string ⟨#[]⟩,.slice none 0 0]) 2 40 Tryz.underlying158 aq hz0 hz1 hz2 rfl (by decide) _ acc.length xs rfl ((cJ.alloc _).alloc _) ⟨w5.heap.size+1,0,none⟩ 1 1 [.string nm,.slice gK n5 aI] rfl rfl ?c1 ?c2 ?c3 ?c4 ?c5 ?_)
    case c1=>
     intro jj u hu
     match jj,hu with
     | 0,hu=>simp at hu;subst hu;simp[Addr.add]
     | 1,hu=>simp at hu;subst hu;simp[Addr.add]
     | n+2,hu=>simp at hu
    case c2=>
     intro u hu;simp at hu;rcases hu with rfl|rfl<;>rfl
    case c3=>unfold maxLen;omega
    case c4=>omega
    case c5=>simp;omega
    intro v' w7 hown hgrow _;have rL:=fu.row hgrow hrow (by decide);have cN:=VRsCells.row hgrow hrow (by decide) (by decide) acc xs cO
    have po:(w.alloc (.cells #[.string s,.int .i64 0,.bool false] 229)).grownBy w7 (some w.heap.size):=by
     refine⟨hgrow.os.trans eK.os,hgrow.tape.trans eK.tape,hgrow.output.trans eK.output,AU eK.size hgrow.size,fun k hk hne=>?_⟩;refine(hgrow.block k (AZ hk eK.size) (fun e1=>?_)).trans (eK.block k hk hne);have h1:=(hrow k e1.symm).1;rw[EP] at hk;exact hne (by rw[show k=w.heap.size from by omega])
    obtain⟨kZ,eC,rfl⟩:∃ao cap,v'=.slice ao (acc.length+1) cap:=by
     rcases hown.2 with ⟨h1,h2⟩|⟨g,cap,cur,h1,_⟩
     ·omega
     ·exact⟨_,_,h1⟩
    have HV7:Hid ((QN=true/\A1 s.data.toList p=.inl j5)\/(QN=false/\∃(q:Sv.Rule),A1 s.data.toList p=.inr (q,j5)/\p<j5/\VRsAt w.heap.size (.slice kZ (acc.length+1) eC) (acc++[q]) w7)):=by
     rcases Aa HV with h1|⟨h1,q,h2,rfl,h3,h4⟩
     ·exact .inl h1
     ·have h5:=((VCsAt.row h4 aR (RowOk.none 0 0 w5) (by decide) (by decide)).row hgrow hrow (by decide) (by decide)).weak SA
      exact .inr ⟨h1,q,h2,h3,_,by rw[AK];exact hown,VRsCells.snoc q _ h5 acc xs cN⟩
    clear hown hgrow hrow cN cO cP cJ fu hb5 aR ze eK bQ HV;go_wp2_with fail;refine(Fw _ s j5 QN _ PN hs' rL).mono ?_;rintro e w8⟨rfl,uB,jc⟩;go_wp2;go_roundw
    case rel=>
     refine⟨_,QN,uB,?_,Ab po jc,?_⟩
     ·have:=(Be s.data.toList j5 (by rw[Ae];exact PN)).2
      rw[Ae] at this;split<;>omega
     ·have h0:=Aa ea
      rcases Aa HV7 with ⟨rfl,h2⟩|⟨rfl,q,h2,h3,h4⟩
      ·rw[h2] at h0
       exact .inl ⟨rfl,h0.symm,_,_,_,rfl⟩
      ·rw[h2] at h0
       have:=(Be s.data.toList j5 (by rw[Ae];exact PN)).1;refine .inr ⟨rfl,m-1,acc++[q],?_,?_,h4.row jc rL.rowOk (by decide) (by decide) (by decide),h0⟩
       ·rw[AO (by simp)];omega
       ·rw[AO (by simp)];simp;omega
    case measure=>
     refine DM (DR (uB.ms s.size)) ?_;rw[Aa HM];rcases Aa HV7 with ⟨rfl,h2⟩|⟨rfl,q,h2,h3,h4⟩
     ·simp
     ·have:=Be s.data.toList j5 (by rw[Ae];exact PN)
      rw[Ae] at this;simp;omega
   ·have hx:decide (p<s.size)=false:=by simpa using hlt
    have hr:r=.inr acc:=by
     have h0:=Aa HN;obtain⟨m2,rfl⟩:∃m2,m=m2+1:=⟨m-1,by omega⟩
     rw[Df,Ae,AO hlt] at h0;exact h0.symm
    subst hr;clear HN;have hg1:=Bi a7 hg (AW _);obtain⟨wo,rfl⟩:∃wo:World,wo=wr:=⟨_,rfl⟩
    go_wp2;clear c1 c2 hx hlt HM;go_loopw [8,9] (fun x y w'=>∃(k:Nat) (lg:Bool),k<=acc.length/\x=.bool lg/\y=.int .i64 k/\(lg||(acc.drop k).any Ej)=D6 acc/\w'=wo) (fun _ y _=>acc.length-(intOf y).toNat)
    case atStart=>
     refine⟨0,_,AG _,rfl,rfl,?_,rfl⟩;unfold D6;rw[IH,Q44]
    case round=>
     obtain⟨k,lg,hk,rfl,rfl,vS,hw⟩:=hrel;subst wr;have HL:=Ac vS;clear vS;by_cases hlt:k<acc.length
     ·have hd:decide (k<acc.length)=true:=by simpa using hlt
      obtain⟨q,hq⟩:∃q,acc[k]?=some q:=⟨acc[k],AB hlt⟩
      have hdr:acc.drop k=q::acc.drop (k+1):=by
       obtain⟨h1,h2⟩:=AL.1 hq;rw[CP h1,h2]
      have NW:Hid ((lg||Ej q||(acc.drop (k+1)).any Ej)=D6 acc):=by
       have h0:=Aa HL;rw[hdr,GH,<-JK] at h0;exact h0
      clear HL hdr;obtain⟨g,cap',bf,aC,hv,q0,q1,hcs⟩:=bX.cells hq;simp only[AH,BP] at hv;obtain⟨rfl,rfl⟩:=hv;have nu:=Og _ _ (Aa HR) q (AV hq);rw[Ae] at nu;clear hq;obtain⟨T,hT⟩:∃T,(lg||Ej q)=T:=⟨_,rfl⟩
      rw[hT] at NW;have HT:=Ac hT;clear hT;cases lg
      all_goals
       go_wp2;go_loopw [8,10] (fun x z w'=>∃(k2:Nat) (xO:Bool),k2<=q.conds.length/\x=.bool xO/\z=.int .i64 k2/\(xO||(q.conds.drop k2).any D2)=T/\w'=wo) (fun _ z _=>q.conds.length-(intOf z).toNat)
       case atStart=>
        refine⟨0,_,AG _,rfl,rfl,?_,rfl⟩;rw[IH,<-Aa HT]
        first
        | (unfold Ej;rw[Q4z,EM])
        | simp
       case round=>
        obtain⟨k2,xO,hk2,rfl,rfl,zM,hw⟩:=hrel;subst wr;have QX:=Ac zM;clear zM;by_cases hlt2:k2<q.conds.length
        ·have bZ:decide (k2<q.conds.length)=true:=by simpa using hlt2
         obtain⟨c,hc⟩:∃c,q.conds[k2]?=some c:=⟨q.conds[k2],AB hlt2⟩
         have rR:Hid ((xO||D2 c||(q.conds.drop (k2+1)).any D2)=T):=by
          have h0:=Aa QX;obtain⟨h1,h2⟩:=AL.1 hc;rw[CP h1,h2,GH,<-JK] at h0;exact h0
         clear QX;obtain⟨g2,b8,mo,dZ,hv2,p0,p1,p2,bm⟩:=hcs.cells hc;simp only[AH,BP] at hv2;obtain⟨rfl,rfl⟩:=hv2;clear hc;cases xO
         all_goals
          go_wp2;go_roundw
          case rel=>
           refine⟨k2+1,_,by omega,rfl,by go_num,?_,by first|trivial|rfl⟩;rw[<-Aa rR]
           first
           | (unfold D2;rw[Q4z,EM])
           | simp
          case measure=>simp[intOf];omega
        ·have bZ:decide (k2<q.conds.length)=false:=by simpa using hlt2
         have vS:xO=T:=by
          have h0:=Aa QX;rw[BD (by omega),KR,IP] at h0;exact h0
         subst vS;clear QX;go_wp2;go_roundw
         case rel=>exact⟨k+1,_,by omega,rfl,by go_num,Aa NW,by first|trivial|rfl⟩
         case measure=>simp[intOf];omega
     ·have hd:decide (k<acc.length)=false:=by simpa using hlt
      have vS:lg=D6 acc:=by
       have h0:=Aa HL;rw[BD (by omega),KR,IP] at h0;exact h0
      have HE:=Ac vS;clear HL vS;cases lg
      ·go_wp2
       go_ret3
       refine⟨hg1,?_⟩;rw[AO (Aa HS),Aa HR];simp only;rw[<-Aa HE,AO (by simp)];exact⟨_,rfl,bX⟩
      ·go_wp2
       go_ret3
       refine⟨hg1,?_⟩;rw[AO (Aa HS),Aa HR];simp only;rw[<-Aa HE,AQ rfl];rfl
theorem N0(s:ByteArray)(w:World)(hm:s.size<=maxLen) :
  Calls Tryz.prog 78 #[.string s] w fun e w'=>E5 w s e w':=by
 by_cases hs:400<s.size
 ·exact Qt s w hm hs
 ·exact Pn s w hs
theorem Xc(w:World)(c:UInt8)(z:Int)(hz:z=c.toNat):Sem.run Tryz.prog (convert 123 9 (.slice (some ⟨w.heap.size,0,none⟩) 1 1)) (w.alloc (.cells #[.int .u8 z] 5))=.ok (.string ⟨#[c]⟩) (w.alloc (.cells #[.int .u8 z] 5)):=by
 subst hz;exact Jp w c
theorem L3(n:Nat)(hn:n<=1000000000)(w:World) :
  Calls Tryz.prog 79 #[.int .i64 n] w fun e w'=>e=.returned (.string ⟨(Lib.decDigits n).toArray⟩)/\w.grownBy w' none:=by
 induction n using Nat.strongRecOn generalizing w with
 | _ n ih=>
  have e0:decide ((n:Int)<0)=false:=by simp
  obtain⟨d,hd⟩:∃d,n%10=d:=⟨_,rfl⟩
  have hd9:d<10:=by omega
  have SI:((n:Int)%10)=(d:Int):=by omega
  have YW:((n:Int).tmod 10)=(d:Int):=by rw[KH (by omega)];exact SI
  obtain⟨c,hcc⟩:∃c:UInt8,UInt8.ofNat (48+d)=c:=⟨_,rfl⟩
  have hc:((c.toNat:Nat):Int)=48+(d:Int):=by
   rw[<-hcc,UInt8.toNat_ofNat'];omega
  have hcv:=Xc w c (48+(d:Int)) hc.symm;by_cases h10:n<10
  ·have e1:decide ((n:Int)<10)=true:=by simp;omega
   have ed:Lib.decDigits n=[c]:=by rw[Lib.decDigits,dif_pos h10,<-hcc];rw[show d=n from by omega]
   rw[ed];clear ih hc hcc ed;go_enter Tryz.func79,Tryz.ntmps79;go_wp2;go_ret;exact⟨rfl,AA w _ none⟩
  ·have e1:decide ((n:Int)<10)=false:=by simp;omega
   have ed:Lib.decDigits n=Lib.decDigits (n / 10)++[c]:=by rw[Lib.decDigits,dif_neg h10,hd,hcc]
   rw[ed];have hq:(n:Int).tdiv 10=((n / 10:Nat):Int):=by rw[IG (by omega)];omega
   have dE:(n:Int) / 10=((n / 10:Nat):Int):=by omega
   have OQ:=fun w=>ih (n / 10) (by omega) (by omega) w
   rw[<-dE] at OQ;have hL:=GK ((n / 10:Nat):Int) (by omega) (by omega);rw[KB] at hL;generalize Lib.decDigits (n / 10)=L at OQ hL⊢;clear ih hc hcc ed dE;go_enter Tryz.func79,Tryz.ntmps79;go_wp2_with fail;refine(OQ _).mono ?_;rintro e w2⟨rfl,hg2⟩;have hg:=Ab (AA w (.cells #[.int .u8 (48+(d:Int))] 5) none) hg2;obtain⟨t,ht⟩:∃t:ByteArray,t=⟨L.toArray⟩:=⟨_,rfl⟩
   rw[<-ht];have bm:t.size<=21:=by rw[ht,Cu];exact hL
   have HT:=Ac ht;clear ht hL OQ;go_wp2;go_ret;exact⟨by rw[Aa HT,<-Eb];rfl,hg⟩
theorem Jh(z:Int)(h1:-1000000000<=z)(h2:z<=1000000000)(w:World) :
  Calls Tryz.prog 79 #[.int .i64 z] w fun e w'=>e=.returned (.string ⟨(Lib.itoa z).toArray⟩)/\w.grownBy w' none:=by
 by_cases hz:z<0
 ·obtain⟨n,rfl⟩:∃n:Nat,z=-(n:Int):=⟨z.natAbs,by omega⟩
  have dF:1<=n:=by omega
  rw[Lib.itoa_neg n dF];have e0:decide (-(n:Int)<0)=true:=by simp;omega
  have hd:=fun w=>L3 n (by omega) w
  have hL:=GK (n:Int) (by omega) (by omega);rw[KB] at hL;generalize Lib.decDigits n=L at hd hL⊢;go_enter Tryz.func79,Tryz.ntmps79;go_wp2_with fail;refine(hd _).mono ?_;rintro e w2⟨rfl,hg2⟩;obtain⟨t,ht⟩:∃t:ByteArray,t=⟨L.toArray⟩:=⟨_,rfl⟩
  rw[<-ht];have bm:t.size<=21:=by rw[ht,Cu];exact hL
  have HT:=Ac ht;clear ht hL hd;go_wp2;go_ret;exact⟨by rw[Aa HT,show (45::L)=[45]++L from rfl,<-Eb];rfl,hg2⟩
 ·obtain⟨n,rfl⟩:∃n:Nat,z=(n:Int):=⟨z.toNat,by omega⟩
  rw[KB];exact L3 n (by omega) w
theorem It(s:ByteArray)(w:World)(hm:s.size<=maxLen)(n m:Nat)
 (hp:∀e w',E5 w s e w'->e=.returned (.tuple #[.slice none 0 0,.int .i64 n,.int .i64 m])/\w.grownBy w' none) :
  Calls Tryz.prog 50 #[.string s] w fun e w'=>e=.returned (.tuple #[.string ⟨#[]⟩,.int .i64 n,.int .i64 m])/\w.grownBy w' none:=by
 go_enter Tryz.func50,Tryz.ntmps50;go_wp2_with fail;refine(N0 s w hm).mono ?_;intro e w1 aN;obtain⟨rfl,hg1⟩:=hp e w1 aN;clear hp aN;go_wp2;go_loopw [8,9] (fun x y w'=>x=.string ⟨#[]⟩/\y=.int .i64 0/\w'=w1) (fun _ _ _=>0)
 case atStart=>exact⟨rfl,rfl,rfl⟩
 case round=>
  obtain⟨rfl,rfl,rfl⟩:=hrel;go_wp2
  go_ret3
  exact⟨rfl,hg1⟩
theorem ba3(a b c:List UInt8):(⟨a.toArray⟩:ByteArray)++⟨b.toArray⟩++⟨c.toArray⟩=⟨(a++(b++c)).toArray⟩:=by rw[Eb,Eb,BQ]
theorem Q43(a:List UInt8):(⟨a.toArray⟩:ByteArray)++⟨#[33]⟩=⟨(a++[33]).toArray⟩:=Eb a [33]
theorem Q4y(a:List UInt8):(⟨a.toArray⟩:ByteArray)++⟨#[40]⟩=⟨(a++[40]).toArray⟩:=Eb a [40]
theorem VRsAt.none{base:Nat}{v:Value}{rs:List Sv.Rule}{w w':World}(h:VRsAt base v rs w)(hg:w.grownBy w' none):VRsAt base v rs w':=h.row hg (RowOk.none 0 0 w) (by decide) (by decide) (by decide)
theorem VTsAt.none{base:Nat}{v:Value}{ts:List Sv.Term}{w w':World}(h:VTsAt base v ts w)(hg:w.grownBy w' none):VTsAt base v ts w':=h.row hg (RowOk.none 0 0 w) (by decide)
theorem Qu(s:ByteArray)(w:World)(hm:s.size<=maxLen)(hs:¬ 400<s.size)(rs:List Sv.Rule)(hr:Bn s.data.toList=.inr rs)(hx:D6 rs=false) :
  Calls Tryz.prog 50 #[.string s] w fun e w'=>e=.returned (.tuple #[.string ⟨(I9 rs).toArray⟩,.int .i64 rs.length,.int .i64 0])/\w.grownBy w' none:=by
 have cm:=I0 _ rs hr;have dV:=I1 _ rs hr;have hlen:=Oe rs cm hx
 have hrl:rs.length<=8:=by
  unfold D6 at hx;rw[DD] at hx;simpa using hx.1
 have HR:=Ac hr;have HX:=Ac hx;have HS:=Ac hs;have HB:=Ac cm;have HH:=Ac dV;have HL:=Ac hlen;clear hr hx hs cm dV hlen;go_enter Tryz.func50,Tryz.ntmps50;go_wp2_with fail;refine(N0 s w hm).mono ?_;rintro e w1⟨hg1,aN⟩;rw[AO (Aa HS),Aa HR] at aN;simp only at aN;rw[Aa HX,AO (by simp)] at aN;obtain⟨u,rfl,bX⟩:=aN;obtain⟨ao,cap,rfl⟩:=bX.slice;have rh:VRsAt 0 (.slice ao rs.length cap) rs w1:=bX.weak (AG _);clear bX;go_wp2;go_loopw [8,9] (fun x y w'=>∃(k:Nat) (t:ByteArray),k<=rs.length/\x=.string t/\y=.int .i64 k/\t=⟨((rs.take k).flatMap Co).toArray⟩/\w.grownBy w' none/\VRsAt 0 (.slice ao rs.length cap) rs w') (fun _ y _=>rs.length-(intOf y).toNat)
 case atStart=>exact⟨0,_,AG _,rfl,rfl,by simp,hg1,rh⟩
 case round=>
  clear hg1 rh;obtain⟨k,t,hk,rfl,rfl,ht,hg,bX⟩:=hrel;by_cases hlt:k<rs.length
  ·have hd:decide (k<rs.length)=true:=by simpa using hlt
   obtain⟨q,hq⟩:∃q,rs[k]?=some q:=⟨rs[k],AB hlt⟩
   have rj:=AV hq;have hqb:=Aa HB q rj;have YZ:=(Aa HH q rj).1;have ja:=Nh Co rs k q hq;have hle:=Tk Co rs (k+1);have ai:(rs.flatMap Co).length<=8000:=Aa HL;rw[ja,AK] at hle;have oQ:=Ac ja;clear ja;generalize hXX:(rs.take k).flatMap Co=X at *;have hXq:X.length+(Co q).length<=8000:=by omega
   have HPR:Hid (Co q=q.name++[58]++q.conds.flatMap Cc++[59,10]):=rfl
   have hXn:X.length+q.name.length+(q.conds.flatMap Cc).length+3<=8000:=by
    have:=BJ List.length (Aa HPR);simp only[AK,AP,CE] at this;omega
   have hcl:q.conds.length<=8000:=by
    have:=Q1v Cc Q06 q.conds;omega
   obtain⟨g,cap',bf,aC,hv,q0,q1,hcs⟩:=bX.cells hq;simp only[AH,BP] at hv;obtain⟨rfl,rfl⟩:=hv;obtain⟨nm,bJ⟩:∃nm:ByteArray,nm=⟨q.name.toArray⟩:=⟨_,rfl⟩
   rw[<-bJ] at q0;have hnms:nm.size<=8000:=by rw[bJ,Cu];omega
   have bm:t.size<=8000:=by rw[ht,Cu];omega
   have yA:=Ac bJ;have HT:=Ac ht;have HQ:=Ac hq;have HXE:=Ac hXX;clear bJ ht hq hXX hle ai rj;obtain⟨wo,rfl⟩:∃wo:World,wo=wr:=⟨_,rfl⟩
   go_wp2;go_loopw [8,10] (fun x z w'=>∃(k2:Nat) (t2:ByteArray),k2<=q.conds.length/\x=.string t2/\z=.int .i64 k2/\t2=⟨(X++q.name++[58]++(q.conds.take k2).flatMap Cc).toArray⟩/\w.grownBy w' none/\VRsAt 0 (.slice (some ⟨g,0,none⟩) rs.length cap) rs w') (fun _ z _=>q.conds.length-(intOf z).toNat)
   case atStart=>
    refine⟨0,_,AG _,rfl,rfl,?_,hg,bX⟩;rw[Aa HT,Aa yA,Eb,FR,FV,BM];exact Eb _ _
   case round=>
    clear hg bX q0 q1 hcs HT bm;obtain⟨k2,t2,hk2,rfl,rfl,fh,hg,bX⟩:=hrel;obtain⟨g',cap'',bf,aC,hv,q0,q1,hcs⟩:=bX.cells (Aa HQ);simp only[AH,BP,AE,BK,BX] at hv;obtain⟨rfl,rfl⟩:=hv;by_cases hlt2:k2<q.conds.length
    ·have bZ:decide (k2<q.conds.length)=true:=by simpa using hlt2
     obtain⟨c,hc⟩:∃c,q.conds[k2]?=some c:=⟨q.conds[k2],AB hlt2⟩
     have hcm:=AV hc;obtain⟨hckd,tj⟩:=hqb.1 c hcm;have zw:=(YZ c hcm).2;have vD:=Nh Cc q.conds k2 c hc;have pU:=Tk Cc q.conds (k2+1);rw[vD,AK] at pU;obtain⟨g2,b8,mo,dZ,hv2,p0,p1,p2,bm⟩:=hcs.cells hc;simp only[AH,BP] at hv2;obtain⟨rfl,rfl⟩:=hv2
     have fG:t2.size<=8000:=by
      rw[fh,Cu];simp only[AK,BC];omega
     have NK:=Ac vD;have QU:=Ac fh;have QW:Hid (Cc c=(if c.neg=true then [33] else [])++[40]++Lib.itoa c.kind++Bq c.terms++[41]):=rfl;have uz:=Kg c.terms;have zV:=GK (c.kind:Int) (by omega) (by omega);clear hc hcm vD fh;cases aJ:c.neg
     ·rw[aJ] at p0
      have jI:=AA wr (.cells #[.bool false,.int .i64 c.kind,.slice mo c.terms.length dZ] 166) none;have lC:C3 166 wr.heap.size (.bool false) (.int .i64 c.kind) (.slice mo c.terms.length dZ) (wr.alloc (.cells #[.bool false,.int .i64 c.kind,.slice mo c.terms.length dZ] 166)):=AR _ _;go_wp2_with fail;refine(Jh (c.kind:Int) (by omega) (by omega) _).mono ?_;rintro e w3⟨rfl,hg3⟩;have jT:=lC.kept hg3 (by simp);have eW:=(bm.none jI).none hg3;have jD:=(bX.none jI).none hg3;have au:=Ab (Ab hg jI) hg3;have VI:wr.heap.size<w3.heap.size:=jT.lt;clear lC jI hg3 bm bX hg q0 q1 hcs p0 p1 p2;generalize wr.heap.size=N at *;obtain⟨dk,jM⟩:∃dk:ByteArray,dk=⟨(Lib.itoa c.kind).toArray⟩:=⟨_,rfl⟩
      rw[<-jM];have UG:dk.size<=21:=by rw[jM,Cu];exact zV
      have XJ:=Ac jM;clear jM;obtain⟨Y1,wG⟩:∃Y1,X++q.name++[58]++(q.conds.take k2).flatMap Cc++[]++[40]++Lib.itoa c.kind=Y1:=⟨_,rfl⟩
      have UX:Y1.length+(Bq c.terms).length+1<=8000:=by
       rw[<-wG];have h8:=BJ List.length (Aa QW);simp only[AK,AP,CE] at h8⊢;rw[aJ] at h8;simp at h8;omega
      have NB:=Ac wG;clear wG;go_wp2;go_loopw [8,12] (fun x y w'=>∃(k3:Nat) (t3:ByteArray),k3<=c.terms.length/\x=.string t3/\y=.int .i64 k3/\t3=⟨(Y1++Bq (c.terms.take k3)).toArray⟩/\w.grownBy w' none/\VRsAt 0 (.slice (some ⟨g,0,none⟩) rs.length cap) rs w'/\C3 166 N (.bool false) (.int .i64 c.kind) (.slice mo c.terms.length dZ) w'/\VTsAt 0 (.slice mo c.terms.length dZ) c.terms w') (fun _ y _=>c.terms.length-(intOf y).toNat)
      case atStart=>
       refine⟨0,_,AG _,rfl,rfl,?_,au,jD,jT,eW⟩;rw[Aa QU,Aa XJ,<-Aa NB];simp only[FR,Bq,FV,BM];rw[Q4y,Eb]
      case round=>
       clear au jD jT eW fG;obtain⟨k3,t3,hk3,rfl,rfl,iN,hg,bX,hC,bm⟩:=hrel;have dC:=hC.c.2.2;by_cases hlt3:k3<c.terms.length
       ·have vr:decide (k3<c.terms.length)=true:=by simpa using hlt3
        obtain⟨tm,iJ⟩:∃tm,c.terms[k3]?=some tm:=⟨c.terms[k3],AB hlt3⟩
        have lW:=AV iJ;obtain⟨aS,hv2⟩:=tj tm lW;have vG:=zw tm lW;have lh:=Fk c.terms k3 tm iJ;have pU:=E4 c.terms (k3+1);have hl3:t3.size=Y1.length+(Bq (c.terms.take k3)).length:=by rw[iN,Cu,AK]
        have hl4:(Bq (c.terms.take (k3+1))).length=(Bq (c.terms.take k3)).length+1+(Bv tm).length:=by
         rw[lh,AK,AP,JQ (Bv tm).length 1,Nat.add_assoc]
        have aP:(Bv tm).length<=8000:=by omega
        have xY:t3.size<=8000:=by omega
        obtain⟨g3,aI,hv3,r0,r1,r2⟩:=bm.cells iJ;simp only[AH,BP] at hv3;obtain⟨rfl,rfl⟩:=hv3;have mq:=Ac lh;have qu:=Ac iN;clear lh iN iJ lW pU hl3 hl4;have cH:=AA wr (.cells #[.int .u8 tm.letter.toNat,.int .i64 tm.value,.bool (tm.sort==0)] 169) none;rcases vG with h0|⟨h0,h1⟩|⟨h0,h1⟩
        ·have hpl:Bv tm=[95]:=by unfold Bv;rw[AQ h0]
         have hb0:(tm.sort==0)=true:=by rw[h0];rfl
         rw[hb0] at r2 cH;have qz:=Ac hpl;clear hpl h0 hb0 aP;go_wp2;go_roundw
         case rel=>
          refine⟨k3+1,_,by omega,rfl,by go_num,?_,Ab hg cH,bX.none cH,hC.kept cH (by simp),bm.none cH⟩;rw[Aa mq,Aa qz,Aa qu,<-BQ];exact Eb _ _
         case measure=>simp[intOf];omega
        ·have hpl:Bv tm=[tm.letter]:=by unfold Bv;rw[AO (by omega),AQ h0]
         have hb0:(tm.sort==0)=false:=by rw[h0];rfl
         rw[hb0] at r2 cH;have oD:decide ((0:Int)<(tm.letter.toNat:Int))=true:=by simp;omega
         have qz:=Ac hpl;have hcv:=Jp (wr.alloc (.cells #[.int .u8 tm.letter.toNat,.int .i64 tm.value,.bool false] 169)) tm.letter;rw[EP] at hcv;clear hpl h0 hb0 aP;go_wp2;go_roundw
         case rel=>
          have dN:=Ab cH (AA _ (.cells #[.int .u8 tm.letter.toNat] 5) none);refine⟨k3+1,_,by omega,rfl,by go_num,?_,Ab hg dN,bX.none dN,hC.kept dN (by simp),bm.none dN⟩;rw[Aa mq,Aa qz,Aa qu,<-BQ];exact ba3 _ [32] [tm.letter]
         case measure=>simp[intOf];omega
        ·have hpl:Bv tm=Lib.itoa tm.value:=by unfold Bv;rw[AO (by omega),AO (by omega),AQ h0]
         have hb0:(tm.sort==0)=false:=by rw[h0];rfl
         rw[hb0] at r2 cH;rw[h1] at r0 cH;rw[hpl] at aP;have qz:=Ac hpl;clear hpl h0 hb0;go_wp2_with fail;refine(Jh tm.value (by omega) (by omega) _).mono ?_;rintro e w4⟨rfl,hg4⟩;have dN:=Ab cH hg4;obtain⟨dv,od⟩:∃dv:ByteArray,dv=⟨(Lib.itoa tm.value).toArray⟩:=⟨_,rfl⟩
         rw[<-od];have UD:dv.size<=8000:=by rw[od,Cu];exact aP
         have XI:=Ac od;clear od;go_wp2;go_roundw
         case rel=>
          refine⟨k3+1,_,by omega,rfl,by go_num,?_,Ab hg dN,bX.none dN,hC.kept dN (by simp),bm.none dN⟩;rw[Aa mq,Aa qz,Aa qu,Aa XI,<-BQ];exact ba3 _ [32] (Lib.itoa tm.value)
         case measure=>simp[intOf];omega
       ·obtain rfl:k3=c.terms.length:=by omega
        have vr:decide (c.terms.length<c.terms.length)=false:=by simp
        rw[CV] at iN;have hl3:t3.size<=8000:=by rw[iN,Cu,AK];omega
        have qu:=Ac iN;clear iN hlt3;go_wp2;go_roundw
        case rel=>
         refine⟨k2+1,_,by omega,rfl,by go_num,?_,hg,bX⟩;rw[Aa NK,Aa QW,aJ,Aa qu,<-Aa NB];refine(Eb _ _).trans ?_;simp only[BQ,if_false,BZ,CW]
        case measure=>simp[intOf];omega
     ·rw[aJ] at p0
      have jI:=AA wr (.cells #[.bool true,.int .i64 c.kind,.slice mo c.terms.length dZ] 166) none;have lC:C3 166 wr.heap.size (.bool true) (.int .i64 c.kind) (.slice mo c.terms.length dZ) (wr.alloc (.cells #[.bool true,.int .i64 c.kind,.slice mo c.terms.length dZ] 166)):=AR _ _;go_wp2_with fail;refine(Jh (c.kind:Int) (by omega) (by omega) _).mono ?_;rintro e w3⟨rfl,hg3⟩;have jT:=lC.kept hg3 (by simp);have eW:=(bm.none jI).none hg3;have jD:=(bX.none jI).none hg3;have au:=Ab (Ab hg jI) hg3;have VI:wr.heap.size<w3.heap.size:=jT.lt;clear lC jI hg3 bm bX hg q0 q1 hcs p0 p1 p2;generalize wr.heap.size=N at *;obtain⟨dk,jM⟩:∃dk:ByteArray,dk=⟨(Lib.itoa c.kind).toArray⟩:=⟨_,rfl⟩
      rw[<-jM];have UG:dk.size<=21:=by rw[jM,Cu];exact zV
      have XJ:=Ac jM;clear jM;obtain⟨Y1,wG⟩:∃Y1,X++q.name++[58]++(q.conds.take k2).flatMap Cc++[33]++[40]++Lib.itoa c.kind=Y1:=⟨_,rfl⟩
      have UX:Y1.length+(Bq c.terms).length+1<=8000:=by
       rw[<-wG];have h8:=BJ List.length (Aa QW);simp only[AK,AP,CE] at h8⊢;rw[aJ] at h8;simp at h8;omega
      have NB:=Ac wG;clear wG;go_wp2;go_loopw [8,12] (fun x y w'=>∃(k3:Nat) (t3:ByteArray),k3<=c.terms.length/\x=.string t3/\y=.int .i64 k3/\t3=⟨(Y1++Bq (c.terms.take k3)).toArray⟩/\w.grownBy w' none/\VRsAt 0 (.slice (some ⟨g,0,none⟩) rs.length cap) rs w'/\C3 166 N (.bool true) (.int .i64 c.kind) (.slice mo c.terms.length dZ) w'/\VTsAt 0 (.slice mo c.terms.length dZ) c.terms w') (fun _ y _=>c.terms.length-(intOf y).toNat)
      case atStart=>
       refine⟨0,_,AG _,rfl,rfl,?_,au,jD,jT,eW⟩;rw[Aa QU,Aa XJ,<-Aa NB];simp only[FR,Bq,FV,BM];rw[Q43,Q4y,Eb]
      case round=>
       clear au jD jT eW fG;obtain⟨k3,t3,hk3,rfl,rfl,iN,hg,bX,hC,bm⟩:=hrel;have dC:=hC.c.2.2;by_cases hlt3:k3<c.terms.length
       ·have vr:decide (k3<c.terms.length)=true:=by simpa using hlt3
        obtain⟨tm,iJ⟩:∃tm,c.terms[k3]?=some tm:=⟨c.terms[k3],AB hlt3⟩
        have lW:=AV iJ;obtain⟨aS,hv2⟩:=tj tm lW;have vG:=zw tm lW;have lh:=Fk c.terms k3 tm iJ;have pU:=E4 c.terms (k3+1);have hl3:t3.size=Y1.length+(Bq (c.terms.take k3)).length:=by rw[iN,Cu,AK]
        have hl4:(Bq (c.terms.take (k3+1))).length=(Bq (c.terms.take k3)).length+1+(Bv tm).length:=by
         rw[lh,AK,AP,JQ (Bv tm).length 1,Nat.add_assoc]
        have aP:(Bv tm).length<=8000:=by omega
        have xY:t3.size<=8000:=by omega
        obtain⟨g3,aI,hv3,r0,r1,r2⟩:=bm.cells iJ;simp only[AH,BP] at hv3;obtain⟨rfl,rfl⟩:=hv3;have mq:=Ac lh;have qu:=Ac iN;clear lh iN iJ lW pU hl3 hl4;have cH:=AA wr (.cells #[.int .u8 tm.letter.toNat,.int .i64 tm.value,.bool (tm.sort==0)] 169) none;rcases vG with h0|⟨h0,h1⟩|⟨h0,h1⟩
        ·have hpl:Bv tm=[95]:=by unfold Bv;rw[AQ h0]
         have hb0:(tm.sort==0)=true:=by rw[h0];rfl
         rw[hb0] at r2 cH;have qz:=Ac hpl;clear hpl h0 hb0 aP;go_wp2;go_roundw
         case rel=>
          refine⟨k3+1,_,by omega,rfl,by go_num,?_,Ab hg cH,bX.none cH,hC.kept cH (by simp),bm.none cH⟩;rw[Aa mq,Aa qz,Aa qu,<-BQ];exact Eb _ _
         case measure=>simp[intOf];omega
        ·have hpl:Bv tm=[tm.letter]:=by unfold Bv;rw[AO (by omega),AQ h0]
         have hb0:(tm.sort==0)=false:=by rw[h0];rfl
         rw[hb0] at r2 cH;have oD:decide ((0:Int)<(tm.letter.toNat:Int))=true:=by simp;omega
         have qz:=Ac hpl;have hcv:=Jp (wr.alloc (.cells #[.int .u8 tm.letter.toNat,.int .i64 tm.value,.bool false] 169)) tm.letter;rw[EP] at hcv;clear hpl h0 hb0 aP;go_wp2;go_roundw
         case rel=>
          have dN:=Ab cH (AA _ (.cells #[.int .u8 tm.letter.toNat] 5) none);refine⟨k3+1,_,by omega,rfl,by go_num,?_,Ab hg dN,bX.none dN,hC.kept dN (by simp),bm.none dN⟩;rw[Aa mq,Aa qz,Aa qu,<-BQ];exact ba3 _ [32] [tm.letter]
         case measure=>simp[intOf];omega
        ·have hpl:Bv tm=Lib.itoa tm.value:=by unfold Bv;rw[AO (by omega),AO (by omega),AQ h0]
         have hb0:(tm.sort==0)=false:=by rw[h0];rfl
         rw[hb0] at r2 cH;rw[h1] at r0 cH;rw[hpl] at aP;have qz:=Ac hpl;clear hpl h0 hb0;go_wp2_with fail;refine(Jh tm.value (by omega) (by omega) _).mono ?_;rintro e w4⟨rfl,hg4⟩;have dN:=Ab cH hg4;obtain⟨dv,od⟩:∃dv:ByteArray,dv=⟨(Lib.itoa tm.value).toArray⟩:=⟨_,rfl⟩
         rw[<-od];have UD:dv.size<=8000:=by rw[od,Cu];exact aP
         have XI:=Ac od;clear od;go_wp2;go_roundw
         case rel=>
          refine⟨k3+1,_,by omega,rfl,by go_num,?_,Ab hg dN,bX.none dN,hC.kept dN (by simp),bm.none dN⟩;rw[Aa mq,Aa qz,Aa qu,Aa XI,<-BQ];exact ba3 _ [32] (Lib.itoa tm.value)
         case measure=>simp[intOf];omega
       ·obtain rfl:k3=c.terms.length:=by omega
        have vr:decide (c.terms.length<c.terms.length)=false:=by simp
        rw[CV] at iN;have hl3:t3.size<=8000:=by rw[iN,Cu,AK];omega
        have qu:=Ac iN;clear iN hlt3;go_wp2;go_roundw
        case rel=>
         refine⟨k2+1,_,by omega,rfl,by go_num,?_,hg,bX⟩;rw[Aa NK,Aa QW,aJ,Aa qu,<-Aa NB];refine(Eb _ _).trans ?_;simp only[BQ,if_true]
        case measure=>simp[intOf];omega
    ·obtain rfl:k2=q.conds.length:=by omega
     have bZ:decide (q.conds.length<q.conds.length)=false:=by simp
     rw[CV] at fh;have QU:=Ac fh
     have fG:t2.size<=8000:=by
      rw[fh,Cu];simp only[AK,BC];omega
     clear fh hlt2;go_wp2;go_roundw
     case rel=>
      refine⟨k+1,_,by omega,rfl,by go_num,?_,hg,bX⟩;rw[Aa oQ,Aa HPR,Aa QU];refine(Eb _ _).trans ?_;simp only[BQ]
     case measure=>simp[intOf];omega
  ·obtain rfl:k=rs.length:=by omega
   have hd:decide (rs.length<rs.length)=false:=by simp
   rw[CV] at ht;have HT:=Ac ht;clear ht hlt;go_wp2
   go_ret3
   exact⟨by rw[show I9 rs=rs.flatMap Co from rfl,<-Aa HT];rfl,hg⟩
end Go.Proofs.YtolhbeekfjnfmaaGreatDoor

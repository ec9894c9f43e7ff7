import Derived.Test.YtolhbeekfjnfmaaGreatDoorM32
set_option maxHeartbeats 8000000
set_option maxRecDepth 100000
namespace Go.Proofs.YtolhbeekfjnfmaaGreatDoor
open Go.RowKit
attribute [local go_sem] Oper.semAt_some
theorem Tt(n:Nat)(Zb L:Nat->Prop)(U:Nat->Nat)(bt bl g lb ru jn n0:Nat)(l:List Tok)(hj:jn<=4)(hl:l.length<=1000000000)(hU:∀i,U i=1->Zb i)(RM:Zb bt)(hzl:Zb bl)(RN:l≠[]->Zb g)(lz:L lb) :
  Hf Fence.wide n Tryz.prog 116 #[.pointer (some ⟨bt,0,none⟩),.pointer (some ⟨bl,0,none⟩)] To L Zb (fun W=>NowAt U bt bl g lb ru jn l W/\n0<=W.heap.size)
   (fun Z s W=>((s.map (fun x=>x.tok)=l/\∀x∈s,x.ru=ru/\x.jn=jn)/\MvsOk n0 s W)/\Jv Z s) (fun Z s W=>(((∃k,s.map (fun x=>x.tok)=l.take k)/\∀x∈s,x.ru=ru/\x.jn=jn)/\MvsOk n0 s W)/\Jv Z s) l.length:=by
 intro lp J Jx Z1 W hJ MG hY qZ UW h0;obtain⟨hN,gD⟩:=qZ;obtain⟨p,cap,tz,hp⟩:=hN.toks;have c0:W.cell? ⟨bt,0,none⟩=some (.slice p l.length cap):=by simp[World.cell?,tz]
 have HP:=Ac hp;have HN:=Ac hN;have HJ:=Ac hJ;have XB:=Ac MG;clear tz hp hN hJ MG;refine callsIn_of_wp Tryz.func116 rfl trivial ?_ rfl;simp only[Tryz.ntmps116,FO,AP,CE,Nat.reduceAdd,Nat.reduceSub,EW,EX,FN,FE,CW,CN];gi_wp2
 gi_loopw [8] (fun i wr=>∃(j:Nat) (s:List Mv),j<=l.length/\i=.int .i64 j/\Hid (s.map (fun x=>x.tok)=l.take j/\(∀x∈s,x.ru=ru/\x.jn=jn)/\MvsOk n0 s wr/\(∃Z,(∀i,Zb i->Z i)/\Jv Z s/\J Z s wr)/\Kept Zb L W wr))
  (fun i _=>l.length-(intOf i).toNat)
 case atStart=>exact⟨0,[],AG _,rfl,Ac ⟨by simp,by simp,⟨by simp,List.Pairwise.nil⟩,⟨Z1,UW,fun x hx=>by simp at hx,h0⟩,Kept.gr (AD _ _)⟩⟩
 case round=>
  obtain⟨j,s,jF,rfl,HK⟩:=hrel;by_cases hlt:j<l.length
  ·have hd:decide (j<l.length)=true:=by simpa using hlt
   obtain⟨k1,k2,k3,⟨Z,kz,km,k4⟩,k5⟩:=Aa HK;obtain⟨t,ht⟩:∃t,l[j]?=some t:=⟨_,AB hlt⟩
   have wU:=(Aa HN).keptI k5 hU RM hzl RN lz;have hne:l≠[]:=by rintro rfl;simp at hlt
   have hpg:=Aa HP hne;subst hpg;obtain⟨p0,p1,p2,p3,SR⟩:=A9 t;have hcs:=wU.cells j t ht;rw[SR] at hcs;have t0:wr.cell? ⟨g,j*4,none⟩=some (.pointer p0):=hcs 0 (by omega);have t1:wr.cell? ⟨g,j*4+1,none⟩=some (.pointer p1):=hcs 1 (by omega);have t2:wr.cell? ⟨g,j*4+2,none⟩=some (.pointer p2):=hcs 2 (by omega);have t3:wr.cell? ⟨g,j*4+3,none⟩=some (.pointer p3):=hcs 3 (by omega);have a7:=AA wr (.cells #[.pointer p0,.pointer p1,.pointer p2,.pointer p3] 139) none;have b0:(wr.alloc (.cells #[.pointer p0,.pointer p1,.pointer p2,.pointer p3] 139)).cell? ⟨bl,0,none⟩=some (.pointer (some ⟨lb,0,none⟩)):=a7.cell (by simp[World.cell?,wU.last]) (by simp);have iJ:=AV ht;have eT:Bt t=.agg #[.pointer p0,.pointer p1,.pointer p2,.pointer p3]:=by unfold Bt;rw[SR]
   have hM:=Ws U lb ru jn t _ (a7.cell wU.ru (by simp)) (a7.cell wU.jn (by simp)) (wU.four t iJ) hj (fun x hx=>(wU.fts t iJ x hx).gr a7);rw[eT] at hM
   have hM2:Calls Tryz.prog 75 #[.pointer (some ⟨lb,0,none⟩),.agg #[.pointer p0,.pointer p1,.pointer p2,.pointer p3]] (wr.alloc (.cells #[.pointer p0,.pointer p1,.pointer p2,.pointer p3] 139)) fun e w2=>∃ao cap,e=.returned (.agg #[.int .i64 ru,.slice ao jn cap])/\
     YieldAt Fence.wide (n-1) Tryz.prog lp #[.agg #[.int .i64 ru,.slice ao jn cap]] w2 fun e B=>(e=.returned (.bool true)/\∃s,Hid (s.map (fun x:Mv=>x.tok)=l.take (j+1)/\(∀x∈s,x.ru=ru/\x.jn=jn)/\MvsOk n0 s B/\(∃Z,(∀i,Zb i->Z i)/\Jv Z s/\J Z s B)/\Kept Zb L W B))\/(e=.returned (.bool false)/\Hid (∃Z s,((((∃k,s.map (fun x:Mv=>x.tok)=l.take k)/\∀x∈s,x.ru=ru/\x.jn=jn)/\MvsOk n0 s B)/\Jv Z s)/\Jx Z s B)):=by
    refine hM.mono ?_;rintro e w2⟨ao,aC,rfl,hg2,hv2⟩;have ah:=Ab a7 hg2;have hown:∀i,(Value.slice ao jn aC).ownBlock=some i->wr.heap.size<=i/\i<w2.heap.size:=fun i hi=>⟨AU a7.size (hv2.own i hi).1,(hv2.own i hi).2⟩
    have hJ2:J (fun i=>Z i\/(Value.slice ao jn aC).ownBlock=some i) s w2:=Aa HJ Z _ s wr w2 none k4 ah (by simp) (fun i hi=>.inl hi) (fun i hi=>by rcases hi with hi|hi;exact .inl hi;exact .inr (hown i hi));refine⟨ao,aC,rfl,(hY _ s ⟨ru,jn,ao,aC,t⟩ w2 hJ2 (by have:=BJ List.length k1;rw[BA,BL] at this;omega)).mono ?_⟩;rintro e B⟨_,hk,hor⟩
    have gG:Jv (fun i=>Z i\/(Value.slice ao jn aC).ownBlock=some i) (s++[⟨ru,jn,ao,aC,t⟩]):=by
     intro x hx g hg;rcases AY.1 hx with hx|hx
     ·exact .inl (km x hx g hg)
     ·simp only[AX] at hx
      subst hx;exact .inr hg
    have hzz:∀i,Zb i->(fun i=>Z i\/(Value.slice ao jn aC).ownBlock=some i) i:=fun i hi=>.inl (kz i hi)
    have ja:MvsOk n0 (s++[⟨ru,jn,ao,aC,t⟩]) B:=(MvsOk.snoc k3 ah (x:=⟨ru,jn,ao,aC,t⟩) (hv2.weak a7.size) (AU gD k5.size)).keptI hk gG;have vR:(s++[(⟨ru,jn,ao,aC,t⟩:Mv)]).map (fun x:Mv=>x.tok)=l.take (j+1):=by rw[CG,k1,CZ,ht];rfl
    have hall:∀x∈s++[(⟨ru,jn,ao,aC,t⟩:Mv)],x.ru=ru/\x.jn=jn:=by
     intro x hx;rcases AY.1 hx with hx|hx
     ·exact k2 x hx
     ·simp only[AX] at hx
      subst hx;exact⟨rfl,rfl⟩
    rcases hor with ⟨rfl,h3⟩|⟨rfl,h3⟩
    ·exact .inl ⟨rfl,_,Ac ⟨vR,hall,ja,⟨_,hzz,gG,h3⟩,(k5.trans (Kept.gr ah)).trans (hk.mono hzz)⟩⟩
    ·exact .inr ⟨rfl,Ac ⟨_,_,⟨⟨⟨⟨_,vR⟩,hall⟩,ja⟩,gG⟩,h3⟩⟩
   clear k1 k2 k3 k4 k5 kz km HK hM wU hY hcs SR eT h0 a7 hne ht
   gi_wp2_with (refine⟨trivial,fun h=>(by cases h),?_⟩;refine(callsIn_wide.2 hM2).mono ?_;rintro e w2⟨ao,aC,rfl,fn,tmps,assign,body,hy,hR⟩)
   refine⟨fun h=>(by cases h),hR.mono ?_⟩;rintro e W3 (⟨rfl,s3,uX⟩|⟨rfl,oP⟩)
   ·gi_wp2
    go_roundw
    case rel=>exact⟨j+1,s3,by omega,by go_num,uX⟩
    case measure=>simp[intOf];omega
   ·gi_wp2
    refine BO (results_none rfl _ _ _) rfl ?_;exact⟨⟨_,rfl⟩,.inr (Aa oP)⟩
  ·have hd:decide (j<l.length)=false:=by simpa using hlt
   obtain⟨k1,k2,k3,⟨Z,kz,km,k4⟩,k5⟩:=Aa HK;rw[CA (by omega)] at k1;have HF:=Ac (show (∃Z s,(((s.map (fun x:Mv=>x.tok)=l/\∀x∈s,x.ru=ru/\x.jn=jn)/\MvsOk n0 s wr)/\Jv Z s)/\J Z s wr) from⟨Z,s,⟨⟨⟨k1,k2⟩,k3⟩,km⟩,k4⟩);clear k1 k2 k3 k4 k5 kz km HK;gi_wp2;go_end0
   exact⟨⟨_,rfl⟩,.inl (Aa HF)⟩
end Go.Proofs.YtolhbeekfjnfmaaGreatDoor

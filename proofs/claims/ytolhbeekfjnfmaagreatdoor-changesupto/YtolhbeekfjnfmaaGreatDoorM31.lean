import Derived.Test.YtolhbeekfjnfmaaGreatDoorMA
import Derived.Test.YtolhbeekfjnfmaaGreatDoorM27
import Derived.Test.YtolhbeekfjnfmaaGreatDoorM30
set_option maxHeartbeats 8000000
set_option maxRecDepth 100000
namespace Go.Proofs.YtolhbeekfjnfmaaGreatDoor
open Go.RowKit
attribute [local go_sem] JA
variable {Z L:Nat->Prop}{A B:World}
theorem RowAt.keptI{α:Type}{e:TypeId}{size:Nat}{enc:α->List Value}{base:Nat}{v:Value}{l:List α}(h:RowAt e size enc base v l A)(hk:Kept Z L A B)(hz:∀g,v.ownBlock=some g->Z g):RowAt e size enc base v l B:=by
 refine⟨h.1,h.2.1,?_⟩;rcases h.2.2 with ⟨h1,h2⟩|⟨g,cap,cur,h1,h2,h3,h4⟩
 ·exact .inl ⟨h1,h2⟩
 ·exact .inr ⟨g,cap,cur,h1,h2,hk.blks g _ _ _ (hz g (by rw[h1];rfl)) h3,h4⟩
theorem FtAt.keptI{Z L:Nat->Prop}{A B:World}{U:Nat->Nat}{g:Ft}(h:FtAt U g A)(hk:Kept Z L A B)(hU:∀i,U i=1->Z i):FtAt U g B:=by
 obtain⟨h1,h2,v,h3,h4⟩:=h;exact⟨h1,h2,v,hk.blks _ _ _ _ (hU _ h1) h3,h4.1.keptI hk (fun g hg=>hU g (h4.2 g hg)),h4.2⟩
theorem TokCells.keptI{g:Nat}{l:List Tok}(h:TokCells g l A)(hk:Kept Z L A B)(hz0:l≠[]->Z g):TokCells g l B:=by
 intro i t hi k hk4;have hz:=hz0 (by rintro rfl;simp at hi);have h1:=h i t hi k hk4;have hs:∃v,(A6 t)[k]?=some v:=⟨_,AB (by rw[Br];exact hk4)⟩
 obtain⟨v,hv⟩:=hs;rw[hv] at h1;obtain⟨cs,ty,fz,hb⟩:=N6 h1;have VI:B.heap[g]?=A.heap[g]?:=(hk.blks g cs ty fz hz hb).trans hb.symm;have h2:B.cell? ⟨g,i*4+k,none⟩=A.cell? ⟨g,i*4+k,none⟩:=EB (w:=A) VI;rw[h2,h1,hv]
theorem NowAt.keptI{Z L:Nat->Prop}{A B:World}{U:Nat->Nat}{bt bl g lb ru jn:Nat}{l:List Tok}(h:NowAt U bt bl g lb ru jn l A)(hk:Kept Z L A B)(hU:∀i,U i=1->Z i)(SJ:Z bt)(hzl:Z bl)(SK:l≠[]->Z g)(hl:L lb):NowAt U bt bl g lb ru jn l B:=by
 obtain⟨p,cap,h1,h2⟩:=h.toks;exact⟨⟨p,cap,hk.blks _ _ _ _ SJ h1,h2⟩,hk.blks _ _ _ _ hzl h.last,h.cells.keptI hk SK,h.four,fun t ht x hx=>(h.fts t ht x hx).keptI hk hU,hk.lasts _ _ _ hl (.inl rfl) h.ru,hk.lasts _ _ _ hl (.inr rfl) h.jn⟩
structure Mv where
 ru:Nat
 jn:Nat
 ao:Option Addr
 cap:Nat
 tok:Tok
def S6(x:Mv):Array Value:=#[.agg #[.int .i64 x.ru,.slice x.ao x.jn x.cap]]
def Mv.sl(x:Mv):Value:=.slice x.ao x.jn x.cap
structure MvsOk(n0:Nat)(s:List Mv)(W:World):Prop where
 rows:∀x∈s,IsAt n0 x.sl x.tok.ids W
 apart:s.Pairwise (fun x y=>∀g h,x.sl.ownBlock=some g->y.sl.ownBlock=some h->g<h)
def Fe(Z:Nat->Prop)(s:List Mv):Prop:=∀x∈s,∀g,x.sl.ownBlock=some g->Z g
theorem MvsOk.keptI{Z L:Nat->Prop}{A B:World}{n0:Nat}{s:List Mv}(h:MvsOk n0 s A)(hk:Kept Z L A B)(hz:Fe Z s):MvsOk n0 s B:=⟨fun x hx=>(h.rows x hx).keptI hk (hz x hx),h.apart⟩
theorem MvsOk.snoc{n0:Nat}{s:List Mv}{x:Mv}(h:MvsOk n0 s A)(hg:A.grownBy B none)(hx:IsAt A.heap.size x.sl x.tok.ids B)(h0:n0<=A.heap.size):MvsOk n0 (s++[x]) B:=by
 refine⟨fun y hy=>?_,FT.2 ⟨h.apart,IV _ _,fun y hy z hz g b jS hbz=>?_⟩⟩
 ·rcases AY.1 hy with hy|hy
  ·exact(h.rows y hy).gr hg
  ·simp only[AX] at hy
   subst hy;exact hx.weak h0
 ·simp only[AX] at hz
  subst hz;have h1:=((h.rows y hy).own g jS).2;have h2:=(hx.own b hbz).1;omega
theorem Xj(n:Nat)(Zb L:Nat->Prop)(U:Nat->Nat)(bt bl g lb ru jn n0:Nat)(l:List Tok)(hj:jn<=4)(hl:l.length<=1000000000)(hU:∀i,U i=1->Zb i)(SJ:Zb bt)(hzl:Zb bl)(SK:l≠[]->Zb g)(nI:L lb) :
  Jo Fence.wide n Tryz.prog 116 #[.pointer (some ⟨bt,0,none⟩),.pointer (some ⟨bl,0,none⟩)] S6 L Zb (fun W=>NowAt U bt bl g lb ru jn l W/\n0<=W.heap.size)
   (fun Z s W=>((s.map (fun x=>x.tok)=l/\∀x∈s,x.ru=ru/\x.jn=jn)/\MvsOk n0 s W)/\Fe Z s) (fun Z s W=>(((∃k,s.map (fun x=>x.tok)=l.take k)/\∀x∈s,x.ru=ru/\x.jn=jn)/\MvsOk n0 s W)/\Fe Z s) l.length:=by
 intro lp J Jx Z1 W hJ ND hY rJ VO h0;obtain⟨hN,gq⟩:=rJ;obtain⟨p,cap,uf,hp⟩:=hN.toks;have c0:W.cell? ⟨bt,0,none⟩=some (.slice p l.length cap):=by simp[World.cell?,uf]
 have HP:=Ac hp;have HN:=Ac hN;have HJ:=Ac hJ;have XQ:=Ac ND;clear uf hp hN hJ ND;refine callsIn_of_wp Tryz.func116 rfl trivial ?_ rfl;simp only[Tryz.ntmps116,FO,AP,CJ,Nat.reduceAdd,Nat.reduceSub,EZ,FA,FP,FE,DC,CP];gi_wp2
 gi_loopw [8] (fun i wr=>∃(j:Nat) (s:List Mv),j<=l.length/\i=.int .i64 j/\Hid (s.map (fun x=>x.tok)=l.take j/\(∀x∈s,x.ru=ru/\x.jn=jn)/\MvsOk n0 s wr/\(∃Z,(∀i,Zb i->Z i)/\Fe Z s/\J Z s wr)/\Kept Zb L W wr))
  (fun i _=>l.length-(intOf i).toNat)
 case atStart=>exact⟨0,[],AG _,rfl,Ac ⟨by simp,by simp,⟨by simp,List.Pairwise.nil⟩,⟨Z1,VO,fun x hx=>by simp at hx,h0⟩,Kept.gr (AD _ _)⟩⟩
 case round=>
  obtain⟨j,s,jg,rfl,HK⟩:=hrel;by_cases hlt:j<l.length
  ·have hd:decide (j<l.length)=true:=by simpa using hlt
   obtain⟨k1,k2,k3,⟨Z,kz,km,k4⟩,k5⟩:=Aa HK;obtain⟨t,ht⟩:∃t,l[j]?=some t:=⟨_,AB hlt⟩
   have xQ:=(Aa HN).keptI k5 hU SJ hzl SK nI;have hne:l≠[]:=by rintro rfl;simp at hlt
   have hpg:=Aa HP hne;subst hpg;obtain⟨p0,p1,p2,p3,TP⟩:=Bb t;have hcs:=xQ.cells j t ht;rw[TP] at hcs;have t0:wr.cell? ⟨g,j*4,none⟩=some (.pointer p0):=hcs 0 (by omega);have t1:wr.cell? ⟨g,j*4+1,none⟩=some (.pointer p1):=hcs 1 (by omega);have t2:wr.cell? ⟨g,j*4+2,none⟩=some (.pointer p2):=hcs 2 (by omega);have t3:wr.cell? ⟨g,j*4+3,none⟩=some (.pointer p3):=hcs 3 (by omega);have a7:=AA wr (.cells #[.pointer p0,.pointer p1,.pointer p2,.pointer p3] 139) none;have b0:(wr.alloc (.cells #[.pointer p0,.pointer p1,.pointer p2,.pointer p3] 139)).cell? ⟨bl,0,none⟩=some (.pointer (some ⟨lb,0,none⟩)):=a7.cell (by simp[World.cell?,xQ.last]) (by simp);have j0:=AV ht;have eT:Bu t=.agg #[.pointer p0,.pointer p1,.pointer p2,.pointer p3]:=by unfold Bu;rw[TP]
   have hM:=Uq U lb ru jn t _ (a7.cell xQ.ru (by simp)) (a7.cell xQ.jn (by simp)) (xQ.four t j0) hj (fun x hx=>(xQ.fts t j0 x hx).gr a7);rw[eT] at hM
   have hM2:Calls Tryz.prog 75 #[.pointer (some ⟨lb,0,none⟩),.agg #[.pointer p0,.pointer p1,.pointer p2,.pointer p3]] (wr.alloc (.cells #[.pointer p0,.pointer p1,.pointer p2,.pointer p3] 139)) fun e w2=>∃ao cap,e=.returned (.agg #[.int .i64 ru,.slice ao jn cap])/\
     YieldAt Fence.wide (n-1) Tryz.prog lp #[.agg #[.int .i64 ru,.slice ao jn cap]] w2 fun e B=>(e=.returned (.bool true)/\∃s,Hid (s.map (fun x:Mv=>x.tok)=l.take (j+1)/\(∀x∈s,x.ru=ru/\x.jn=jn)/\MvsOk n0 s B/\(∃Z,(∀i,Zb i->Z i)/\Fe Z s/\J Z s B)/\Kept Zb L W B))\/(e=.returned (.bool false)/\Hid (∃Z s,((((∃k,s.map (fun x:Mv=>x.tok)=l.take k)/\∀x∈s,x.ru=ru/\x.jn=jn)/\MvsOk n0 s B)/\Fe Z s)/\Jx Z s B)):=by
    refine hM.mono ?_;rintro e w2⟨ao,aC,rfl,hg2,hv2⟩;have ai:=Ab a7 hg2;have hown:∀i,(Value.slice ao jn aC).ownBlock=some i->wr.heap.size<=i/\i<w2.heap.size:=fun i hi=>⟨AU a7.size (hv2.own i hi).1,(hv2.own i hi).2⟩
    have hJ2:J (fun i=>Z i\/(Value.slice ao jn aC).ownBlock=some i) s w2:=Aa HJ Z _ s wr w2 none k4 ai (by simp) (fun i hi=>.inl hi) (fun i hi=>by rcases hi with hi|hi;exact .inl hi;exact .inr (hown i hi));refine⟨ao,aC,rfl,(hY _ s ⟨ru,jn,ao,aC,t⟩ w2 hJ2 (by have:=BJ List.length k1;rw[BA,BL] at this;omega)).mono ?_⟩;rintro e B⟨_,hk,hor⟩
    have gy:Fe (fun i=>Z i\/(Value.slice ao jn aC).ownBlock=some i) (s++[⟨ru,jn,ao,aC,t⟩]):=by
     intro x hx g hg;rcases AY.1 hx with hx|hx
     ·exact .inl (km x hx g hg)
     ·simp only[AX] at hx
      subst hx;exact .inr hg
    have hzz:∀i,Zb i->(fun i=>Z i\/(Value.slice ao jn aC).ownBlock=some i) i:=fun i hi=>.inl (kz i hi)
    have kE:MvsOk n0 (s++[⟨ru,jn,ao,aC,t⟩]) B:=(MvsOk.snoc k3 ai (x:=⟨ru,jn,ao,aC,t⟩) (hv2.weak a7.size) (AU gq k5.size)).keptI hk gy;have wQ:(s++[(⟨ru,jn,ao,aC,t⟩:Mv)]).map (fun x:Mv=>x.tok)=l.take (j+1):=by rw[CA,k1,CY,ht];rfl
    have hall:∀x∈s++[(⟨ru,jn,ao,aC,t⟩:Mv)],x.ru=ru/\x.jn=jn:=by
     intro x hx;rcases AY.1 hx with hx|hx
     ·exact k2 x hx
     ·simp only[AX] at hx
      subst hx;exact⟨rfl,rfl⟩
    rcases hor with ⟨rfl,h3⟩|⟨rfl,h3⟩
    ·exact .inl ⟨rfl,_,Ac ⟨wQ,hall,kE,⟨_,hzz,gy,h3⟩,(k5.trans (Kept.gr ai)).trans (hk.mono hzz)⟩⟩
    ·exact .inr ⟨rfl,Ac ⟨_,_,⟨⟨⟨⟨_,wQ⟩,hall⟩,kE⟩,gy⟩,h3⟩⟩
   clear k1 k2 k3 k4 k5 kz km HK hM xQ hY hcs TP eT h0 a7 hne ht
   gi_wp2_with (refine⟨trivial,fun h=>(by cases h),?_⟩;refine(callsIn_wide.2 hM2).mono ?_;rintro e w2⟨ao,aC,rfl,fn,tmps,assign,body,hy,hR⟩)
   refine⟨fun h=>(by cases h),hR.mono ?_⟩;rintro e W3 (⟨rfl,s3,vQ⟩|⟨rfl,pI⟩)
   ·gi_wp2
    go_roundw
    case rel=>exact⟨j+1,s3,by omega,by go_num,vQ⟩
    case measure=>simp[intOf];omega
   ·gi_wp2
    refine BN (results_none rfl _ _ _) rfl ?_;exact⟨⟨_,rfl⟩,.inr (Aa pI)⟩
  ·have hd:decide (j<l.length)=false:=by simpa using hlt
   obtain⟨k1,k2,k3,⟨Z,kz,km,k4⟩,k5⟩:=Aa HK;rw[CB (by omega)] at k1;have HF:=Ac (show (∃Z s,(((s.map (fun x:Mv=>x.tok)=l/\∀x∈s,x.ru=ru/\x.jn=jn)/\MvsOk n0 s wr)/\Fe Z s)/\J Z s wr) from⟨Z,s,⟨⟨⟨k1,k2⟩,k3⟩,km⟩,k4⟩);clear k1 k2 k3 k4 k5 kz km HK;gi_wp2;go_end0
   exact⟨⟨_,rfl⟩,.inl (Aa HF)⟩
end Go.Proofs.YtolhbeekfjnfmaaGreatDoor

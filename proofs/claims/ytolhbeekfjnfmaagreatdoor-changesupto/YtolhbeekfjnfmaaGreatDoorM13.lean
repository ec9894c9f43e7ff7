import Derived.Test.YtolhbeekfjnfmaaGreatDoorMA
import Derived.Test.YtolhbeekfjnfmaaGreatDoorM12
import Derived.Test.YtolhbeekfjnfmaaGreatDoorM06
set_option maxHeartbeats 8000000
set_option maxRecDepth 100000
namespace Go.Proofs.YtolhbeekfjnfmaaGreatDoor
open Go.RowKit
variable {w w':World}{e:TypeId}{v rv uv k0:Value}{T T':Nat->Nat}{rs:List Sv.Rule}{S:Nat->Prop}{t u:Tok}{us:List (Value×Int)}{α:Type}{b:Sv.Bs}{c:Sv.Cond}{ss:List Site}{g f:Ft}{n:Nd}{ns:List Nd}{B:List Tok}{k i:Nat}
def LentAt(T:Nat->Nat)(lv:Value)(ls:List Value)(w:World):Prop:=
 TRow T 9 35 1 (fun v:Value=>[v]) lv ls w/\∀v∈ls,∃n,TRow T 10 3 1 C4 v (List.replicate n (-99)) w
theorem Gu(T:Nat->Nat)(W:Nat)(nv uv fv mv k0 k1 k2 lv:Value)(us fs ms:List (Value×Int))(ls:List Value)(w:World)
 (hW:WBlk W #[nv,uv,fv,mv,k0,k1,k2,lv] w)(hN:NumsAt T uv k0 us w)(hL:LentAt T lv ls w)(hF:ElsAt 4 7 47 37 T fv k1 fs w)(hM:ElsAt 5 8 43 52 T mv k2 ms w) :
  Calls Tryz.prog 34 #[.pointer (some ⟨W,0,none⟩)] w fun e w'=>e=.returned (.bool true)/\w.grownBy w' none:=by
 obtain⟨aU,cU,rfl⟩:=hN.1.1.slice;obtain⟨aK0,cK0,hk0⟩:=hN.2.1.1.slice;obtain⟨aL,cL,rfl⟩:=hL.1.1.slice;obtain⟨aF,cF,rfl⟩:=hF.1.1.slice;obtain⟨aK1,cK1,mF⟩:=hF.2.1.1.slice;obtain⟨aM,cM,rfl⟩:=hM.1.1.slice;obtain⟨aK2,cK2,hk2⟩:=hM.2.1.1.slice;rw[BA] at hk0 mF hk2;subst hk0 mF hk2;have lU:=hN.1.1.le;have lL:=hL.1.1.le;have lF:=hF.1.1.le;have lM:=hM.1.1.le;unfold maxLen at lU lL lF lM;have c1:w.cell? ⟨W,1,none⟩=some (.slice aU us.length cU):=hW.cell 1;have c2:w.cell? ⟨W,2,none⟩=some (.slice aF fs.length cF):=hW.cell 2;have c3:w.cell? ⟨W,3,none⟩=some (.slice aM ms.length cM):=hW.cell 3;have c4:w.cell? ⟨W,4,none⟩=some (.slice aK0 us.length cK0):=hW.cell 4;have c5:w.cell? ⟨W,5,none⟩=some (.slice aK1 fs.length cK1):=hW.cell 5;have c6:w.cell? ⟨W,6,none⟩=some (.slice aK2 ms.length cK2):=hW.cell 6;have c7:w.cell? ⟨W,7,none⟩=some (.slice aL ls.length cL):=hW.cell 7;have HN:=Ac hN;have HL:=Ac hL;have HF:=Ac hF;have HM:=Ac hM;clear hN hL hF hM hW;go_enter Tryz.func34,Tryz.ntmps34;go_wp2;go_loopw [3] (fun x w'=>∃i:Nat,i<=us.length/\x=.int .i64 i/\w.grownBy w' none) (fun x _=>us.length-(intOf x).toNat)
 case atStart=>exact⟨0,AG _,rfl,AD _ _⟩
 case round=>
  obtain⟨i,hi,rfl,hg⟩:=hrel;have d1:=hg.cell c1 (by simp);have d4:=hg.cell c4 (by simp);by_cases hlt:i<us.length
  ·have dF:decide (i<us.length)=true:=by simpa using hlt
   obtain⟨p,hp⟩:∃p,us[i]?=some p:=⟨us[i],AB hlt⟩
   obtain⟨g,cp,hv,hcs⟩:=((Aa HN).1.1.gr hg).cells hp;simp only[AH,BP] at hv;obtain⟨rfl,rfl⟩:=hv;have uF:(us.map Prod.snd)[i]?=some p.2:=by rw[BR,hp];rfl
   obtain⟨gk,ck,tr,hck⟩:=((Aa HN).2.1.1.gr hg).cells uF;simp only[AH] at tr;obtain⟨rfl,hzz,rfl⟩:=tr;clear hzz;have x0:wr.cell? ⟨g,i,none⟩=some p.1:=by have:=hcs 0 (by omega);simpa using this
   have y0:wr.cell? ⟨gk,i,none⟩=some (.int .i64 p.2):=by have:=hck 0 (by omega);simpa[C4] using this
   obtain⟨n,hn,_⟩:=(Aa HN).2.2 p (AV hp);have ln:=hn.le;rw[BO] at ln;unfold maxLen at ln;obtain⟨ap,WY,jD⟩:=hn.slice;rw[BO] at jD;rw[jD] at x0;have xk:=Ac hn;have xj:=Ac jD;clear hcs hck hp uF hn jD;obtain⟨wo,rfl⟩:∃wo:World,wo=wr:=⟨_,rfl⟩
   go_wp2;go_loopw [4] (fun z w'=>∃k:Nat,k<=n/\z=.int .i64 k/\wo.grownBy w' none) (fun z _=>n-(intOf z).toNat)
   case atStart=>exact⟨0,AG _,rfl,AD _ _⟩
   case round=>
    obtain⟨k,hk,rfl,hg2⟩:=hrel;have e1:=hg2.cell d1 (by simp);have e4:=hg2.cell d4 (by simp);have WW:=hg2.cell x0 (by simp);have ey0:=hg2.cell y0 (by simp);by_cases hlt2:k<n
    ·have jq:decide (k<n)=true:=by simpa using hlt2
     have nC:(List.replicate n p.2)[k]?=some p.2:=by rw[FK,AQ hlt2]
     obtain⟨gp,WZ,hv3,hc3⟩:=((Aa xk).gr (Ab hg hg2)).cells nC;rw[Aa xj] at hv3;simp only[AH] at hv3;obtain⟨rfl,hzz,rfl⟩:=hv3;clear hzz;have WV:wr.cell? ⟨gp,k,none⟩=some (.int .i64 p.2):=by have:=hc3 0 (by omega);simpa[C4] using this
     have lG:(p.2 !=p.2)=false:=by simp
     clear hc3 nC;go_wp2;go_quiet (fail);go_wp2;go_roundw
     case rel=>exact⟨k+1,by omega,by go_num,Ab hg2 (Ad _ _ _)⟩
     case measure=>simp[intOf];omega
    ·have jq:decide (k<n)=false:=by simpa using hlt2
     go_wp2;go_roundw
     case rel=>exact⟨i+1,by omega,by go_num,Ab hg hg2⟩
     case measure=>simp[intOf];omega
  ·have dF:decide (i<us.length)=false:=by simpa using hlt
   obtain⟨wa,rfl⟩:∃wa:World,wa=wr:=⟨_,rfl⟩
   go_wp2;go_loopw [5] (fun x w'=>∃i:Nat,i<=ls.length/\x=.int .i64 i/\w.grownBy w' none) (fun x _=>ls.length-(intOf x).toNat)
   case atStart=>exact⟨0,AG _,rfl,hg⟩
   case round=>
    clear d1 d4 hg hlt dF;obtain⟨i,hi,rfl,hg⟩:=hrel;have d7:=hg.cell c7 (by simp);by_cases hlt:i<ls.length
    ·have dF:decide (i<ls.length)=true:=by simpa using hlt
     obtain⟨p,hp⟩:∃p,ls[i]?=some p:=⟨ls[i],AB hlt⟩
     obtain⟨g,cp,hv,hcs⟩:=((Aa HL).1.1.gr hg).cells hp;simp only[AH,BP] at hv;obtain⟨rfl,rfl⟩:=hv;have x0:wr.cell? ⟨g,i,none⟩=some p:=by have:=hcs 0 (by omega);simpa using this
     obtain⟨n,hn,_⟩:=(Aa HL).2 p (AV hp);have ln:=hn.le;rw[BO] at ln;unfold maxLen at ln;obtain⟨ap,WY,jD⟩:=hn.slice;rw[BO] at jD;rw[jD] at x0;have xk:=Ac hn;have xj:=Ac jD;clear hcs hp hn jD;obtain⟨wo,rfl⟩:∃wo:World,wo=wr:=⟨_,rfl⟩
     go_wp2;go_loopw [6] (fun z w'=>∃k:Nat,k<=n/\z=.int .i64 k/\wo.grownBy w' none) (fun z _=>n-(intOf z).toNat)
     case atStart=>exact⟨0,AG _,rfl,AD _ _⟩
     case round=>
      obtain⟨k,hk,rfl,hg2⟩:=hrel;have e7:=hg2.cell d7 (by simp);have WW:=hg2.cell x0 (by simp);by_cases hlt2:k<n
      ·have jq:decide (k<n)=true:=by simpa using hlt2
       have nC:(List.replicate n (-99:Int))[k]?=some (-99):=by rw[FK,AQ hlt2]
       obtain⟨gp,WZ,hv3,hc3⟩:=((Aa xk).gr (Ab hg hg2)).cells nC;rw[Aa xj] at hv3;simp only[AH] at hv3;obtain⟨rfl,hzz,rfl⟩:=hv3;clear hzz;have WV:wr.cell? ⟨gp,k,none⟩=some (.int .i64 (-99)):=by have:=hc3 0 (by omega);simpa[C4] using this
       clear hc3 nC;go_wp2;go_roundw
       case rel=>exact⟨k+1,by omega,by go_num,hg2⟩
       case measure=>simp[intOf];omega
      ·have jq:decide (k<n)=false:=by simpa using hlt2
       go_wp2;go_roundw
       case rel=>exact⟨i+1,by omega,by go_num,Ab hg hg2⟩
       case measure=>simp[intOf];omega
    ·have dF:decide (i<ls.length)=false:=by simpa using hlt
     obtain⟨wb,rfl⟩:∃wb:World,wb=wr:=⟨_,rfl⟩
     go_wp2;go_loopw [7] (fun x w'=>∃i:Nat,i<=fs.length/\x=.int .i64 i/\w.grownBy w' none) (fun x _=>fs.length-(intOf x).toNat)
     case atStart=>exact⟨0,AG _,rfl,hg⟩
     case round=>
      clear d7 hg hlt dF;obtain⟨i,hi,rfl,hg⟩:=hrel;have dA:=hg.cell c2 (by simp);have dB:=hg.cell c5 (by simp);by_cases hlt:i<fs.length
      ·have dF:decide (i<fs.length)=true:=by simpa using hlt
       obtain⟨p,hp⟩:∃p,fs[i]?=some p:=⟨fs[i],AB hlt⟩
       obtain⟨g,cp,hv,hcs⟩:=((Aa HF).1.1.gr hg).cells hp;simp only[AH,BP] at hv;obtain⟨rfl,rfl⟩:=hv;have uF:(fs.map Prod.snd)[i]?=some p.2:=by rw[BR,hp];rfl
       obtain⟨gk,ck,tr,hck⟩:=((Aa HF).2.1.1.gr hg).cells uF;simp only[AH] at tr;obtain⟨rfl,hzz,rfl⟩:=tr;clear hzz;have x0:wr.cell? ⟨g,i,none⟩=some p.1:=by have:=hcs 0 (by omega);simpa using this
       have y0:wr.cell? ⟨gk,i,none⟩=some (.int .i64 p.2):=by have:=hck 0 (by omega);simpa[C4] using this
       obtain⟨n,hn,_⟩:=(Aa HF).2.2 p (AV hp);have ln:=hn.le;rw[BO] at ln;unfold maxLen at ln;obtain⟨ap,WY,jD⟩:=hn.slice;rw[BO] at jD;rw[jD] at x0;have xk:=Ac hn;have xj:=Ac jD;clear hcs hck hp uF hn jD;obtain⟨wo,rfl⟩:∃wo:World,wo=wr:=⟨_,rfl⟩
       go_wp2;go_loopw [8] (fun z w'=>∃k:Nat,k<=n/\z=.int .i64 k/\wo.grownBy w' none) (fun z _=>n-(intOf z).toNat)
       case atStart=>exact⟨0,AG _,rfl,AD _ _⟩
       case round=>
        obtain⟨k,hk,rfl,hg2⟩:=hrel;have eA:=hg2.cell dA (by simp);have eB:=hg2.cell dB (by simp);have WW:=hg2.cell x0 (by simp);have ey0:=hg2.cell y0 (by simp);by_cases hlt2:k<n
        ·have jq:decide (k<n)=true:=by simpa using hlt2
         have nC:(List.replicate n (⟨p.2,.slice none 0 0,[]⟩:VFt))[k]?=some ⟨p.2,.slice none 0 0,[]⟩:=by rw[FK,AQ hlt2]
         obtain⟨gp,WZ,hv3,hc3⟩:=((Aa xk).gr (Ab hg hg2)).cells nC;rw[Aa xj] at hv3;simp only[AH] at hv3;obtain⟨rfl,hzz,rfl⟩:=hv3;clear hzz;have WV:wr.cell? ⟨gp,k*2,none⟩=some (.int .i64 p.2):=hc3 0 (by omega);have ez1:wr.cell? ⟨gp,k*2+1,none⟩=some (.slice none 0 0):=hc3 1 (by omega);have lG:(p.2 !=p.2)=false:=by simp
         clear hc3 nC;go_wp2;go_quiet (fail);go_wp2;go_roundw
         case rel=>exact⟨k+1,by omega,by go_num,Ab hg2 (Ad _ _ _)⟩
         case measure=>simp[intOf];omega
        ·have jq:decide (k<n)=false:=by simpa using hlt2
         go_wp2;go_roundw
         case rel=>exact⟨i+1,by omega,by go_num,Ab hg hg2⟩
         case measure=>simp[intOf];omega
      ·have dF:decide (i<fs.length)=false:=by simpa using hlt
       obtain⟨YF,rfl⟩:∃YF:World,YF=wr:=⟨_,rfl⟩
       go_wp2;go_loopw [9] (fun x w'=>∃i:Nat,i<=ms.length/\x=.int .i64 i/\w.grownBy w' none) (fun x _=>ms.length-(intOf x).toNat)
       case atStart=>exact⟨0,AG _,rfl,hg⟩
       case round=>
        clear dA dB hg hlt dF;obtain⟨i,hi,rfl,hg⟩:=hrel;have dA:=hg.cell c3 (by simp);have dB:=hg.cell c6 (by simp);by_cases hlt:i<ms.length
        ·have dF:decide (i<ms.length)=true:=by simpa using hlt
         obtain⟨p,hp⟩:∃p,ms[i]?=some p:=⟨ms[i],AB hlt⟩
         obtain⟨g,cp,hv,hcs⟩:=((Aa HM).1.1.gr hg).cells hp;simp only[AH,BP] at hv;obtain⟨rfl,rfl⟩:=hv;have uF:(ms.map Prod.snd)[i]?=some p.2:=by rw[BR,hp];rfl
         obtain⟨gk,ck,tr,hck⟩:=((Aa HM).2.1.1.gr hg).cells uF;simp only[AH] at tr;obtain⟨rfl,hzz,rfl⟩:=tr;clear hzz;have x0:wr.cell? ⟨g,i,none⟩=some p.1:=by have:=hcs 0 (by omega);simpa using this
         have y0:wr.cell? ⟨gk,i,none⟩=some (.int .i64 p.2):=by have:=hck 0 (by omega);simpa[C4] using this
         obtain⟨n,hn,_⟩:=(Aa HM).2.2 p (AV hp);have ln:=hn.le;rw[BO] at ln;unfold maxLen at ln;obtain⟨ap,WY,jD⟩:=hn.slice;rw[BO] at jD;rw[jD] at x0;have xk:=Ac hn;have xj:=Ac jD;clear hcs hck hp uF hn jD;obtain⟨wo,rfl⟩:∃wo:World,wo=wr:=⟨_,rfl⟩
         go_wp2;go_loopw [10] (fun z w'=>∃k:Nat,k<=n/\z=.int .i64 k/\wo.grownBy w' none) (fun z _=>n-(intOf z).toNat)
         case atStart=>exact⟨0,AG _,rfl,AD _ _⟩
         case round=>
          obtain⟨k,hk,rfl,hg2⟩:=hrel;have eA:=hg2.cell dA (by simp);have eB:=hg2.cell dB (by simp);have WW:=hg2.cell x0 (by simp);have ey0:=hg2.cell y0 (by simp);by_cases hlt2:k<n
          ·have jq:decide (k<n)=true:=by simpa using hlt2
           have nC:(List.replicate n (⟨p.2,.slice none 0 0,[]⟩:VFt))[k]?=some ⟨p.2,.slice none 0 0,[]⟩:=by rw[FK,AQ hlt2]
           obtain⟨gp,WZ,hv3,hc3⟩:=((Aa xk).gr (Ab hg hg2)).cells nC;rw[Aa xj] at hv3;simp only[AH] at hv3;obtain⟨rfl,hzz,rfl⟩:=hv3;clear hzz;have WV:wr.cell? ⟨gp,k*2,none⟩=some (.int .i64 p.2):=hc3 0 (by omega);have ez1:wr.cell? ⟨gp,k*2+1,none⟩=some (.slice none 0 0):=hc3 1 (by omega);have lG:(p.2 !=p.2)=false:=by simp
           clear hc3 nC;go_wp2;go_quiet (fail);go_wp2;go_roundw
           case rel=>exact⟨k+1,by omega,by go_num,Ab hg2 (Ad _ _ _)⟩
           case measure=>simp[intOf];omega
          ·have jq:decide (k<n)=false:=by simpa using hlt2
           go_wp2;go_roundw
           case rel=>exact⟨i+1,by omega,by go_num,Ab hg hg2⟩
           case measure=>simp[intOf];omega
        ·have dF:decide (i<ms.length)=false:=by simpa using hlt
         go_wp2;go_ret;exact⟨rfl,hg⟩
theorem Uj{base:Nat}{size:Nat}{n:Nat}{xs:List Value}(h:w.ownsRow base e size v n xs)(hs:∀k,base<=k->k<w.heap.size->w'.heap[k]?=w.heap[k]?):w'.ownsRow base e size v n xs:=by
 refine⟨h.1,?_⟩;rcases h.2 with h1|⟨g,cap,cur,h1,h2,h3,h4⟩
 ·exact .inl h1
 ·exact .inr ⟨g,cap,cur,h1,h2,by rw[hs g h2 (Af h3)];exact h3,h4⟩
theorem VCsCells.fp{B:Nat}{w w':World}(hs:∀k,B<=k->k<w.heap.size->w'.heap[k]?=w.heap[k]?):∀(cs:List Sv.Cond) (xs:List Value),VCsCells B w cs xs->VCsCells B w' cs xs
 | [],_,h=>h
 | _::cs,_,⟨u,ys,h1,h2,h3⟩=>⟨u,ys,h1,Uj h2 hs,VCsCells.fp hs cs ys h3⟩
theorem VRsCells.fp{B:Nat}{w w':World}(hs:∀k,B<=k->k<w.heap.size->w'.heap[k]?=w.heap[k]?):∀(rs:List Sv.Rule) (xs:List Value),VRsCells B w rs xs->VRsCells B w' rs xs
 | [],_,h=>h
 | _::rs,_,⟨u,ys,h1,h2,h3⟩=>⟨u,ys,h1,by obtain⟨zs,g1,g2⟩:=h2;exact⟨zs,Uj g1 hs,VCsCells.fp hs _ zs g2⟩,VRsCells.fp hs rs ys h3⟩
theorem VRsAt.fp{B:Nat}{v:Value}{rs:List Sv.Rule}{w w':World}(h:VRsAt B v rs w)(hs:∀k,B<=k->k<w.heap.size->w'.heap[k]?=w.heap[k]?):VRsAt B v rs w':=by
 obtain⟨xs,h1,h2⟩:=h;exact⟨xs,Uj h1 hs,VRsCells.fp hs rs xs h2⟩
def RulesT(T:Nat->Nat)(rv:Value)(rs:List Sv.Rule)(w:World):Prop:=
 ∃w1 B,VRsAt B rv rs w1/\w1.heap.size<=w.heap.size/\∀k,B<=k->k<w1.heap.size->w.heap[k]?=w1.heap[k]?/\T k=0
theorem RulesT.at(h:RulesT T rv rs w):VRsAt 0 rv rs w:=by
 obtain⟨w1,B,h1,_,h2⟩:=h;exact(h1.fp (fun k a b=>(h2 k a b).1)).weak (AG _)
theorem RulesT.keep(h:RulesT T rv rs w)(hg:GrS S w w')(hs:∀k,T k=0->¬ S k)(ho:∀k,k<w.heap.size->T k=0->T' k=0):RulesT T' rv rs w':=by
 obtain⟨w1,B,h1,h3,h2⟩:=h;refine⟨w1,B,h1,AU h3 hg.size,fun k a b=>?_⟩;obtain⟨e1,e2⟩:=h2 k a b;exact⟨by rw[hg.block k (by omega) (hs k e2)];exact e1,ho k (by omega) e2⟩
def YT(T:Nat->Nat)(t y:Nat)(s:Sv.St)(w:World):Prop:=
 ∃rv lv fv L fd,w.heap[y]?=some (.cells #[rv,lv,.int .i64 s.cnt,fv] 172 (0,0))/\T y=t/\RulesT T rv s.rs w/\
  TRow T t 176 3 Ha lv L w/\(∀th∈L,TRow T t 3 1 C4 th.v th.vals w/\th.vals.length<=4)/\
  TRow T t 52 2 mtenc fv fd w/\(∀m∈fd,TRow T t 3 1 C4 m.v m.ids w)/\L.map VTh.of=s.L/\fd.map VMt.of=s.fired
theorem YT.keep{T T':Nat->Nat}{t y:Nat}{s:Sv.St}{w w':World}{S:Nat->Prop}(h:YT T t y s w)(hg:GrS S w w')(hs:∀k,T k=t\/T k=0->¬ S k)(ho:∀k,k<w.heap.size->T k=t\/T k=0->T' k=T k):YT T' t y s w':=by
 obtain⟨rv,lv,fv,L,fd,h1,h2,h3,h4,h5,h6,h7,h8,h9⟩:=h;have hs1:∀k,T k=t->¬ S k:=fun k hk=>hs k (.inl hk)
 have ho1:∀k,k<w.heap.size->T k=t->T' k=t:=fun k hk hk2=>by rw[ho k hk (.inl hk2)];exact hk2
 exact⟨rv,lv,fv,L,fd,hg.blk h1 (hs1 y h2),ho1 y (Af h1) h2,h3.keep hg (fun k hk=>hs k (.inr hk)) (fun k hk hk2=>by rw[ho k hk (.inr hk2)];exact hk2),
  h4.keep2 hg hs1 ho1,fun th gj=>⟨(h5 th gj).1.keep2 hg hs1 ho1,(h5 th gj).2⟩,h6.keep2 hg hs1 ho1,fun m hm=>(h7 m hm).keep2 hg hs1 ho1,h8,h9⟩
theorem YT.yat{t y:Nat}{s:Sv.St}(h:YT T t y s w) :
  ∃rv lv fv L fd,YAt y rv lv (.int .i64 s.cnt) fv s.rs L w/\MsAt 0 fv fd w/\L.map VTh.of=s.L/\fd.map VMt.of=s.fired:=by
 obtain⟨rv,lv,fv,L,fd,h1,h2,h3,h4,h5,h6,h7,h8,h9⟩:=h;exact⟨rv,lv,fv,L,fd,⟨h1,h3.at,h4.1,fun th gj=>⟨(h5 th gj).1.1,(h5 th gj).2⟩⟩,⟨h6.1,fun m hm=>(h7 m hm).1⟩,h8,h9⟩
theorem TRow.nil{α:Type}(T:Nat->Nat)(t:Nat)(e:TypeId)(size:Nat){enc:α->List Value}(h:∀a,(enc a).length=size)(w:World):TRow T t e size enc (.slice none 0 0) ([]:List α) w:=⟨RowAt.nil _ _ h,by simp[Value.ownBlock]⟩
theorem Q4e(T:Nat->Nat)(t:Nat)(s:ByteArray)(w:World)(hm:s.size<=maxLen) :
  Calls Tryz.prog 52 #[.string s] w fun e w'=>w.grownBy w' none/\match Bh s.data.toList with
   | .inl k=>e=.returned (.tuple #[.pointer none,.int .i64 k])
   | .inr rs=>∃T' y,e=.returned (.tuple #[.pointer (some ⟨y,0,none⟩),.int .i64 0])/\YT T' t y ⟨rs,[],0,[]⟩ w'/\∀k,k<w.heap.size->T' k=T k:=by
 refine(Q3s s w hm).mono ?_;rintro e w'⟨hg,hp⟩;refine⟨hg,?_⟩;cases hr:Bh s.data.toList with
 | inl k=>rw[hr] at hp;exact hp
 | inr rs=>
  rw[hr] at hp;obtain⟨y,rv,rfl,hy,⟨w1,hv,h1,hg1⟩,hY⟩:=hp;obtain⟨T',bX⟩:∃T':Nat->Nat,∀k,T' k=if k<w.heap.size then T k else if k=y then t else 0:=⟨_,fun _=>rfl⟩
  refine⟨T',y,rfl,⟨rv,.slice none 0 0,.slice none 0 0,[],[],hY.blk,by rw[bX,AO (by omega),AQ rfl],?_,TRow.nil _ _ _ _ Gi _,by simp,TRow.nil _ _ _ _ Cz _,by simp,rfl,rfl⟩,fun k hk=>by rw[bX,AQ hk]⟩;exact⟨w1,w.heap.size,hv,hg1.size,fun k a b=>⟨hg1.block k b (by simp),by rw[bX,AO (by omega),AO (by omega)]⟩⟩
theorem Q3e(T:Nat->Nat)(t y:Nat)(s:Sv.St)(f:Sv.Fact)(fa:Option Addr)(fc:Nat)(w:World)(ht:t≠0)(hy:YT T t y s w)(aK:Sv.StOk s)(hc1:s.cnt<=4611686018427387904)(hf:InAt (.slice fa f.vals.length fc) f.vals w)(QN:f.vals≠[]->∀g,(Value.slice fa f.vals.length fc).ownBlock=some g->T g≠t) :
  Calls Tryz.prog 80 #[.pointer (some ⟨y,0,none⟩),.agg #[.int .i64 f.kind,.slice fa f.vals.length fc]] w fun e w'=>e=.returned (.tuple #[.int .i64 (s.add f).1.1,.int .i64 (s.add f).1.2])/\GrS (fun k=>T k=t) w w'/\∃T',YT T' t y (s.add f).2 w'/\∀k,k<w.heap.size->T' k=T k:=by
 have yw:=hy;obtain⟨rv,lv,fv,L,fd,h1,h2,h3,h4,h5,h6,h7,h8,h9⟩:=hy;have kH:YAt y rv lv (.int .i64 s.cnt) fv s.rs L w:=⟨h1,h3.at,h4.1,fun th gj=>⟨(h5 th gj).1.1,(h5 th gj).2⟩⟩
 have NB:MsAt 0 fv fd w:=⟨h6.1,fun m hm=>(h7 m hm).1⟩
 have rL:L.length=s.L.length:=by rw[<-h8,BA]
 have cH:fd.length=s.fired.length:=by rw[<-h9,BA]
 by_cases hn:Aw f=false\/16<=L.length
 ·refine(Q2t y rv lv _ fv s.rs L f fa fc w kH (by have:=aK.facts;omega) hf hn).mono ?_
  rintro e w'⟨rfl,hg⟩
  have hadd:s.add f=((0,if Aw f=false then 3 else 4),s):=by
   unfold Sv.St.add;by_cases hF:Aw f=false
   ·rw[AQ hF,AQ hF]
   ·rw[AO hF,AO hF,AQ (by rcases hn with h|h;exact absurd h hF;omega)]
  rw[hadd];refine⟨?_,GrS.of hg (by simp),T,yw.keep (GrS.of (S:=fun _=>False) hg (by simp)) (by simp) (fun _ _ _=>rfl),fun _ _=>rfl⟩;by_cases hF:Aw f=false
  ·simp[hF]
  ·simp[hF]
 ·have hF:¬ Aw f=false:=fun h=>hn (.inl h)
  have hF2:Aw f=true:=by simpa using hF
  have ju:L.length<16:=by
   have:¬ 16<=L.length:=fun h=>hn (.inr h)
   omega
  refine(Y0 y rv lv fv s.cnt aK.c0 hc1 s.rs L fd f fa fc w kH aK.rules ju NB (by have:=aK.fired;omega) hf (fun hne e=>QN hne y e h2) hF2).mono ?_;rintro e w'⟨rfl,hG,fe,ag,th,ik,t1,t2,t3,hY,hM,hmap,dI,hlv,y9,fu⟩;have QC:th.of=(s.cnt+1,f):=by unfold VTh.of;rw[t1,t2,t3]
  have hadd:s.add f=((s.cnt+1,0),⟨s.rs,s.L++[(s.cnt+1,f)],s.cnt+1,Bp (Am s.rs (s.L++[(s.cnt+1,f)])) s.fired⟩):=by
   unfold Sv.St.add;rw[AO hF,AO (by omega)]
  rw[hadd]
  have rJ:∀k,(k=y\/lv.ownBlock=some k)->T k=t:=by
   rintro k (rfl|h)
   ·exact h2
   ·exact h4.2 k h
  have vK:GrS (fun k=>T k=t) w w':=hG.mono rJ;obtain⟨T',bX⟩:∃T':Nat->Nat,∀k,T' k=if k<w.heap.size then T k else t:=⟨_,fun _=>rfl⟩
  have dL:∀k,k<w.heap.size->T' k=T k:=fun k hk=>by rw[bX,AQ hk]
  have sx:∀k,w.heap.size<=k->T' k=t:=fun k hk=>by rw[bX,AO (by omega)]
  have sQ:=Af h1;have kt:(L++[th]).map VTh.of=s.L++[(s.cnt+1,f)]:=by rw[CA,h8,List.map_singleton,QC]
  refine⟨rfl,vK,T',⟨rv,fe,ag,L++[th],ik,hY.blk,by rw[dL y sQ];exact h2,h3.keep vK (fun k hk=>by omega) (fun k hk hk2=>by rw[dL k hk];exact hk2),⟨hY.facts,fun g hg=>?_⟩,fun x hx=>⟨⟨(hY.vals x hx).1,fun g hg=>?_⟩,(hY.vals x hx).2⟩,⟨hM.1,fun g hg=>sx g (fu g hg)⟩,fun m hm=>⟨hM.2 m hm,fun g hg=>?_⟩,kt,?_⟩,dL⟩
  ·rcases hlv g hg with h|h
   ·rw[dL g (h4.1.own g h).2];exact h4.2 g h
   ·exact sx g h
  ·rcases AY.1 hx with h|h
   ·rw[dL g ((h5 x h).1.1.own g hg).2];exact(h5 x h).1.2 g hg
   ·simp only[AX] at h
    subst h;exact sx g (y9 g hg)
  ·have hmm:=dI m hm
   rw[dL g ((h7 m hmm).1.own g hg).2];exact(h7 m hmm).2 g hg
  ·rw[hmap,kt,h9]
structure XSpec(X:(Nat->Nat)->Nat->Nat->Sv.St->World->Prop):Prop where
 keep:∀ {T T':Nat->Nat} {t x:Nat} {s:Sv.St} {w w':World} {S:Nat->Prop},X T t x s w->GrS S w w'->(∀k,T k=t\/T k=0->¬ S k)->(∀k,k<w.heap.size->T k=t\/T k=0->T' k=T k)->X T' t x s w'
 add:∀(T:Nat->Nat) (t x:Nat) (s:Sv.St) (f:Sv.Fact) (fa:Option Addr) (fc:Nat) (w:World),t≠0->X T t x s w->Sv.StOk s->s.cnt<=4611686018427387904->IsAt 0 (.slice fa f.vals.length fc) f.vals w->(∀g,(Value.slice fa f.vals.length fc).ownBlock=some g->T g≠t)->
  Calls Tryz.prog 18 #[.pointer (some ⟨x,0,none⟩),.agg #[.int .i64 f.kind,.slice fa f.vals.length fc]] w fun e w'=>e=.returned (.tuple #[.int .i64 (s.add f).1.1,.int .i64 (s.add f).1.2])/\GrS (fun k=>T k=t) w w'/\∃T',X T' t x (s.add f).2 w'/\∀k,k<w.heap.size->T' k=T k
 facts:∀(T:Nat->Nat) (t x:Nat) (s:Sv.St) (w:World),t≠0->X T t x s w->Sv.StOk s->
  Calls Tryz.prog 24 #[.pointer (some ⟨x,0,none⟩)] w fun e w'=>∃T' a l xs,e=.returned (.tuple #[a,l])/\w.grownBy w' none/\Hand T' 37 l xs w'/\TRow T' (13+3*(xs.length+1)) 3 1 C4 a (s.L.map Prod.fst) w'/\xs.map (fun x=>(⟨x.kind,x.vals⟩:Sv.Fact))=s.L.map Prod.snd/\∀k,k<w.heap.size->T' k=T k
 mats:∀(T:Nat->Nat) (t x:Nat) (s:Sv.St) (w:World),t≠0->X T t x s w->Sv.StOk s->
  Calls Tryz.prog 21 #[.pointer (some ⟨x,0,none⟩)] w fun e w'=>∃T' l xs,e=.returned l/\w.grownBy w' none/\Hand T' 52 l xs w'/\xs.map (fun x=>(x.kind,x.vals))=Am s.rs s.L/\∀k,k<w.heap.size->T' k=T k
theorem Hand.keep{xs:List VFt}(h:Hand T e v xs w)(hg:GrS S w w')(hs:∀k,(T k=13\/∃i,i<xs.length/\T k=13+3*(i+1))->¬ S k)(ho:∀k,k<w.heap.size->(T k=13\/∃i,i<xs.length/\T k=13+3*(i+1))->T' k=T k):Hand T' e v xs w':=by
 refine⟨h.row.keep2 hg (fun k hk=>hs k (.inl hk)) (fun k hk hk2=>by rw[ho k hk (.inl hk2)];exact hk2),fun i x hx=>?_⟩;have hi:=(AL.1 hx).1;obtain⟨h1,h2⟩:=h.els i x hx;exact⟨h1.keep2 hg (fun k hk=>hs k (.inr ⟨i,hi,hk⟩)) (fun k hk hk2=>by rw[ho k hk (.inr ⟨i,hi,hk2⟩)];exact hk2),h2⟩
theorem NumsAt.keep(h:NumsAt T uv k0 us w)(hg:GrS S w w')(hs:∀k,(T k=3\/T k=6\/T k=10)->¬ S k)(ho:∀k,k<w.heap.size->(T k=3\/T k=6\/T k=10)->T' k=T k):NumsAt T' uv k0 us w':=by
 obtain⟨a1,a2,a3⟩:=h;refine⟨a1.keep2 hg (fun k hk=>hs k (.inl hk)) (fun k hk hk2=>by rw[ho k hk (.inl hk2)];exact hk2),a2.keep2 hg (fun k hk=>hs k (.inr (.inl hk))) (fun k hk hk2=>by rw[ho k hk (.inr (.inl hk2))];exact hk2),fun p hp=>?_⟩;obtain⟨n,hn⟩:=a3 p hp;exact⟨n,hn.keep2 hg (fun k hk=>hs k (.inr (.inr hk))) (fun k hk hk2=>by rw[ho k hk (.inr (.inr hk2))];exact hk2)⟩
theorem ElsAt.keep{A B:Nat}{se:TypeId}(h:ElsAt A B se e T uv k0 us w)(hg:GrS S w w')(hs:∀k,(T k=A\/T k=B\/T k=10)->¬ S k)(ho:∀k,k<w.heap.size->(T k=A\/T k=B\/T k=10)->T' k=T k):ElsAt A B se e T' uv k0 us w':=by
 obtain⟨a1,a2,a3⟩:=h;refine⟨a1.keep2 hg (fun k hk=>hs k (.inl hk)) (fun k hk hk2=>by rw[ho k hk (.inl hk2)];exact hk2),a2.keep2 hg (fun k hk=>hs k (.inr (.inl hk))) (fun k hk hk2=>by rw[ho k hk (.inr (.inl hk2))];exact hk2),fun p hp=>?_⟩;obtain⟨n,hn⟩:=a3 p hp;exact⟨n,hn.keep2 hg (fun k hk=>hs k (.inr (.inr hk))) (fun k hk hk2=>by rw[ho k hk (.inr (.inr hk2))];exact hk2)⟩
theorem LentAt.keep{lv:Value}{ls:List Value}(h:LentAt T lv ls w)(hg:GrS S w w')(hs:∀k,(T k=9\/T k=10)->¬ S k)(ho:∀k,k<w.heap.size->(T k=9\/T k=10)->T' k=T k):LentAt T' lv ls w':=by
 obtain⟨a1,a3⟩:=h;refine⟨a1.keep2 hg (fun k hk=>hs k (.inl hk)) (fun k hk hk2=>by rw[ho k hk (.inl hk2)];exact hk2),fun p hp=>?_⟩;obtain⟨n,hn⟩:=a3 p hp;exact⟨n,hn.keep2 hg (fun k hk=>hs k (.inr hk)) (fun k hk hk2=>by rw[ho k hk (.inr hk2)];exact hk2)⟩
structure Lists(T:Nat->Nat)(W:Nat)(nv uv fv mv k0 k1 k2 lv:Value)(us fs ms:List (Value×Int))(ls:List Value)(w:World):Prop where
 blk:WBlk W #[nv,uv,fv,mv,k0,k1,k2,lv] w
 own:T W=1
 nums:NumsAt T uv k0 us w
 lent:LentAt T lv ls w
 facts:ElsAt 4 7 47 37 T fv k1 fs w
 mats:ElsAt 5 8 43 52 T mv k2 ms w
theorem Lists.gr{T T':Nat->Nat}{W:Nat}{nv uv fv mv k0 k1 k2 lv:Value}{us fs ms:List (Value×Int)}{ls:List Value}{w w':World}(h:Lists T W nv uv fv mv k0 k1 k2 lv us fs ms ls w)(hg:w.grownBy w' none)(ho:∀k,k<w.heap.size->T' k=T k):Lists T' W nv uv fv mv k0 k1 k2 lv us fs ms ls w':=by
 have hG:GrS (fun _=>False) w w':=GrS.of hg (by simp);exact⟨h.blk.gr hg (by simp),by rw[ho W (Af h.blk)];exact h.own,h.nums.keep hG (by simp) (fun k hk _=>ho k hk),h.lent.keep hG (by simp) (fun k hk _=>ho k hk),h.facts.keep hG (by simp) (fun k hk _=>ho k hk),h.mats.keep hG (by simp) (fun k hk _=>ho k hk)⟩
theorem Q06{t:Nat}(h:¬ InH t)(j:Nat):t≠13+3*j:=fun e=>h ⟨by omega,by omega⟩
def Kv(T:Nat->Nat)(W:Nat)(nv mv k2 lv:Value)(us fs ms:List (Value×Int))(ls:List Value)(w:World)(e:Ending)(w':World):Prop:=
 e=.returned (.bool true)/\∃T' kA ag kB yq jN ni,Lists T' W nv kA ag mv kB yq k2 lv jN ni ms ls w'/\jN.length<=us.length+68/\ni.length=fs.length+4/\
  GrS (fun k=>T k=1\/T k=3\/T k=6\/T k=4\/T k=7\/InH (T k)) w w'/\∀k,k<w.heap.size->¬ InH (T k)->T' k=T k
theorem Q2c(X:(Nat->Nat)->Nat->Nat->Sv.St->World->Prop)(hX:XSpec X)(T:Nat->Nat)(W:Nat)(nv uv fv mv k0 k1 k2 lv:Value)(us fs ms:List (Value×Int))(ls:List Value)(w:World)
 (xR:Lists T W nv uv fv mv k0 k1 k2 lv us fs ms ls w)(tx ty x y:Nat)(s:Sv.St)(xz:tx≠0)(hx:X T tx x s w)(hy:YT T ty y s w)(aK:Sv.StOk s)(SU:us.length+100<=4398046511104)(hfs:fs.length<=4398046511104) :
  Calls Tryz.prog 55 #[.pointer (some ⟨W,0,none⟩),.agg #[.pointer (some ⟨x,0,none⟩),.pointer (some ⟨y,0,none⟩)]] w fun e w'=>Kv T W nv mv k2 lv us fs ms ls w e w':=by
 have a7:=AA w (.cells #[.pointer (some ⟨x,0,none⟩),.pointer (some ⟨y,0,none⟩)] 106) none;have hP:C2 106 w.heap.size (.pointer (some ⟨x,0,none⟩)) (.pointer (some ⟨y,0,none⟩)) (w.alloc (.cells #[.pointer (some ⟨x,0,none⟩),.pointer (some ⟨y,0,none⟩)] 106)):=AR _ _;have hXF:=hX.facts T tx x s _ xz (hX.keep hx (GrS.of (S:=fun _=>False) a7 (by simp)) (by simp) (fun _ _ _=>rfl)) aK;have OW:=Ac xR;have HY:=Ac hy;have gT:=Ac aK;have HUS:=Ac SU;have HFS:=Ac hfs;clear xR hx hy aK SU hfs;go_enter Tryz.func55,Tryz.ntmps55;go_wp2_with fail;refine hXF.mono ?_;rintro e w1⟨T1,a,l,xs,rfl,hg1,WH,ha1,hmap,fy⟩;obtain⟨aA,cA,rfl⟩:=ha1.1.slice;obtain⟨aL,cL,rfl⟩:=WH.row.1.slice;have bG:=Ab a7 hg1;have xP:=hP.kept hg1 (by simp);obtain⟨p0,p1⟩:=xP.c;have dz:∀k,k<w.heap.size->T1 k=T k:=fun k hk=>fy k (by simp;omega)
 have XR:=Ac WH;have PN:=Ac ha1;have tW:=Ac hmap;have lY:=Ac dz;clear hXF WH ha1 hmap fy dz a7 hP hg1;obtain⟨rv,fe,ag,L,fd,kH,_,rK,_⟩:=((Aa HY).keep (T':=T) (GrS.of (S:=fun _=>False) bG (by simp)) (by simp) (fun _ _ _=>rfl)).yat;have rL:L.length=s.L.length:=by rw[<-rK,BA]
 have iF:xs.length=s.L.length:=by have:=BJ List.length (Aa tW);simpa using this
 have ju:s.L.length<=16:=(Aa gT).facts;have hVF:=Q0b y rv fe _ ag s.rs L w1 kH (by omega);have iJ:=kH.vals;have OE:=Ac iJ;have HLM:=Ac rK;clear kH iJ rK;go_wp2_with fail;refine hVF.mono ?_;rintro e w2⟨b,kk,rfl,hb,UB,hg2⟩;obtain⟨aB,cB,rfl⟩:=hb.slice;obtain⟨aQ,cQ,rfl⟩:=UB.slice;have cG:s.L.map Prod.fst=L.map VTh.id:=by rw[<-Aa HLM,EA];rfl
 have PZ:=Qw (s.L.map Prod.fst) (L.map VTh.id) _ _ w2 ((Aa PN).1.gr hg2) (hb.weak (AG _));have hdec:decide (s.L.map Prod.fst=L.map VTh.id)=true:=by simpa using cG
 rw[hdec] at PZ;have bS:=Ab bG hg2;have HKK:=Ac UB;clear hVF hdec cG hb UB xP p0 p1;rw[BA,BA,rL] at PZ;have e1:(L.map VTh.ft).length=s.L.length:=by rw[BA];exact rL
 have e2:(L.map VTh.id).length=s.L.length:=by rw[BA];exact rL
 rw[e1,e2];clear e1 e2;have hN:s.L.length<=16:=ju;go_wp2_with fail;refine PZ.mono ?_;rintro e w3⟨rfl,hg3⟩;have ax:=Ab bS hg3;have LO:=Ab hg2 hg3;have yK:((s.L.length:Int)==(s.L.length:Int))=true:=by simp
 have yV:=Ac iF;have yh:=Ac rL;clear PZ hg2 iF rL;go_wp2;go_loopw [9,10] (fun o z w'=>∃i:Nat,i<=s.L.length/\o=.bool true/\z=.int .i64 i/\w3.grownBy w' none) (fun _ z _=>s.L.length-(intOf z).toNat)
 case atStart=>exact⟨0,AG _,rfl,rfl,AD _ _⟩
 case round=>
  obtain⟨i,hi,rfl,rfl,hg⟩:=hrel;by_cases hlt:i<s.L.length
  ·have dF:decide (i<s.L.length)=true:=by simpa using hlt
   have iF:=Aa yV;have rL:=Aa yh;obtain⟨q,hq⟩:∃q,xs[i]?=some q:=⟨xs[i]'(by omega),AB (by omega)⟩
   obtain⟨th,gj⟩:∃th,L[i]?=some th:=⟨L[i]'(by omega),AB (by omega)⟩
   have TJ:(⟨q.kind,q.vals⟩:Sv.Fact)=⟨th.kind,th.vals⟩:=by
    have h1:=BJ (fun z=>z[i]?) (Aa tW);simp only[BR,hq,DZ,<-Aa HLM,gj] at h1;simpa[VTh.of] using h1
   have ZO:q.kind=th.kind:=BJ Sv.Fact.kind TJ;have ZM:q.vals=th.vals:=BJ Sv.Fact.vals TJ;have wZ:=Ab LO hg;obtain⟨g,cp,hv,hcs⟩:=((Aa XR).row.1.gr wZ).cells hq;simp only[AH,BP] at hv;obtain⟨rfl,rfl⟩:=hv;have j0:(L.map VTh.ft)[i]?=some th.ft:=by rw[BR,gj];rfl
   obtain⟨g2,RM,hv2,dh⟩:=((Aa HKK).gr (Ab hg3 hg)).cells j0;simp only[AH,BP] at hv2;obtain⟨rfl,rfl⟩:=hv2;have q0:wr.cell? ⟨g,i*2,none⟩=some (.int .i64 q.kind):=hcs 0 (by omega);have q1:wr.cell? ⟨g,i*2+1,none⟩=some q.v:=hcs 1 (by omega);have t0:wr.cell? ⟨g2,i*2,none⟩=some (.int .i64 th.kind):=dh 0 (by omega);have t1:wr.cell? ⟨g2,i*2+1,none⟩=some th.v:=dh 1 (by omega);have TK:=((Aa XR).els i q hq).1.1;have yA:=(Aa OE th (AV gj)).1;have hS:=fun(Z:World) (hZ:wr.grownBy Z none)=>Qw q.vals th.vals q.v th.v Z (TK.gr (Ab wZ hZ)) (yA.gr (Ab wZ hZ))
   have pR:decide (q.vals=th.vals)=true:=by simpa using ZM
   rw[pR] at hS;obtain⟨qa,qc,wL⟩:=TK.slice;obtain⟨ta,tc,vt⟩:=yA.slice;rw[wL] at q1;rw[vt] at t1;rw[wL,vt] at hS;rw[ZO] at q0;have jq:(th.kind==th.kind)=true:=by simp
   clear hcs dh hq gj TJ ZO ZM j0 TK yA pR wL vt iF rL;go_wp2_with fail
   go_cut [11] (fun z wx=>z=.bool true/\wr.grownBy wx none)
   case first=>
    go_region_with (go_at_call 82;refine(hS _ (by repeat (first|exact AD _ _|apply Ah))).mono ?_;rintro e w4⟨rfl,hg4⟩)
    all_goals
     go_wp2_with fail;go_meet
     exact⟨rfl,Ab (Ah (AD _ _)) hg4⟩
   case rest=>
    obtain⟨rfl,hg4⟩:=hcut;have bP:=Ab hg hg4;have q02:=hg4.cell q0 (by simp);have SE:=hg4.cell t0 (by simp);clear hS hg4 q0 q1 t0 t1;go_wp2;go_quiet (fail);go_wp2;go_roundw
    case rel=>exact⟨i+1,by omega,rfl,by go_num,Ab bP (Ad _ _ _)⟩
    case measure=>simp[intOf];omega
  ·have dF:decide (i<s.L.length)=false:=by simpa using hlt
   have hg0:=Ab ax hg;have hl0:=(Aa OW).gr (T':=T) hg0 (fun _ _=>rfl);have oM:=Gu T W nv uv fv mv k0 k1 k2 lv us fs ms ls wr hl0.blk hl0.nums hl0.lent hl0.facts hl0.mats;clear hlt hi;go_wp2_with fail;refine oM.mono ?_;rintro e w5⟨rfl,aZ⟩;have bW:=Ab hg0 aZ;have aR:=(Aa OW).gr (T':=T1) bW (Aa lY);have UO:=Ab (Ab LO hg) aZ;have WI:GrS (fun _=>False) w1 w5:=GrS.of UO (by simp);have ha5:=(Aa PN).keep2 (T':=T1) WI (by simp) (fun _ _ h=>h);have yR:=(Aa XR).keep (T':=T1) WI (by simp) (fun _ _ _=>rfl);have QU:=Aa yV;have hO:=Q5 T1 (13+3*(xs.length+1)) W nv uv fv mv k0 k1 k2 lv us _ _ w5 aR.blk aR.own aR.nums ha5 (by omega) (by have:=Aa HUS;omega) (by rw[BA];omega);rw[BA] at hO;have OX:=Ac aR;have RZ:=Ac yR;clear QU oM hl0 aR yR ha5 WI;go_wp2_with fail;refine hO.mono ?_;rintro e w6⟨rfl,T3,uv3,k03,YI,hW3,fD,PY,jv,iB⟩;have aR:=Aa OX;have jH:W<w5.heap.size:=Af aR.blk;have nR:T3 W=1:=by rw[iB W jH (by rw[aR.own];omega)];exact aR.own
   have hE6:ElsAt 4 7 47 37 T3 fv k1 fs w6:=aR.facts.keep jv (fun k hk=>by omega) (fun k hk hk2=>iB k hk (by omega));have hH6:Hand T3 37 (.slice aL xs.length cL) xs w6:=(Aa RZ).keep jv (fun k hk=>by rcases hk with h|⟨j,hj,h⟩<;>omega) (fun k hk hk2=>iB k hk (by rcases hk2 with h|⟨j,hj,h⟩<;>omega));have QU:=Aa yV;have VZ:=Q2z T3 W nv uv3 fv mv k03 k1 k2 lv YI fs _ xs w6 hW3 nR fD hE6 hH6 (by have:=Aa HUS;omega) (Aa HFS) (by omega);rw[QU] at VZ;have HK:=Ac (show YI.length=us.length+4/\GrS (fun k=>T1 k=1\/T1 k=3\/T1 k=6\/T1 k=13+3*(xs.length+1)) w5 w6/\(∀k,k<w5.heap.size->T1 k≠13+3*(xs.length+1)->T3 k=T1 k)/\T3 W=1 from⟨PY,jv,iB,nR⟩);clear hO QU hE6 hH6 hW3 fD PY jv iB nR aR;go_wp2_with fail;refine VZ.mono ?_;rintro e w7⟨rfl,T4,uv4,k04,us4,fv4,k14,fs4,yM,bR,hE4,oX,QO,gY,rG⟩;obtain⟨PY,jv,iB,nR⟩:=Aa HK;have aR:=Aa OX;have zJ:=jv.size;have QD:∀t:Nat,t<13->¬ InH t:=fun t h hI=>by have:=hI.1;omega
   have MS:T4 W=1:=by
    rw[rG W (by have:=Af aR.blk;omega) (by rw[nR];exact QD 1 (by omega))];exact nR
   have uL:LentAt T4 lv ls w7:=by
    refine(aR.lent.keep jv (fun k hk=>by omega) (fun k hk hk2=>iB k hk (by omega))).keep gY (fun k hk h=>?_) (fun k hk hk2=>rG k hk (by rcases hk2 with h|h<;>(rw[h];exact QD _ (by omega))));rcases h with h|h|h|h|h|h
    ·omega
    ·omega
    ·omega
    ·omega
    ·omega
    ·have:=h.1;omega
   have uJ:ElsAt 5 8 43 52 T4 mv k2 ms w7:=by
    refine(aR.mats.keep jv (fun k hk=>by omega) (fun k hk hk2=>iB k hk (by omega))).keep gY (fun k hk h=>?_) (fun k hk hk2=>rG k hk (by rcases hk2 with h|h|h<;>(rw[h];exact QD _ (by omega))));rcases h with h|h|h|h|h|h
    ·omega
    ·omega
    ·omega
    ·omega
    ·omega
    ·have:=h.1;omega
   have yN:∀k,k<w.heap.size->¬ InH (T k)->T3 k=T k:=by
    intro k hk hI;have h1:=Aa lY k hk;rw[iB k (AZ hk bW.size) (by rw[h1];exact Q06 hI _),h1]
   have nY:GrS (fun k=>T k=1\/T k=3\/T k=6\/T k=4\/T k=7\/InH (T k)) w w7:=by
    have h1:GrS (fun k=>T k=1\/T k=3\/T k=6\/T k=4\/T k=7\/InH (T k)) w w5:=GrS.of bW (by simp);refine(h1.comp jv (fun k hk hn=>?_)).comp gY (fun k hk hn=>?_)
    ·have hI:¬ InH (T k):=fun h=>hn (.inr (.inr (.inr (.inr (.inr h)))))
     rw[Aa lY k hk];rintro(h|h|h|h)
     ·exact hn (.inl h)
     ·exact hn (.inr (.inl h))
     ·exact hn (.inr (.inr (.inl h)))
     ·exact Q06 hI _ h
    ·have hI:¬ InH (T k):=fun h=>hn (.inr (.inr (.inr (.inr (.inr h)))))
     rw[yN k hk hI];exact hn
   have yO:∀k,k<w.heap.size->¬ InH (T k)->T4 k=T k:=by
    intro k hk hI;have h1:=yN k hk hI;rw[rG k (AZ hk (AU bW.size zJ)) (by rw[h1];exact hI),h1]
   have jy:=Ac (show ∃T' kA ag kB yq jN ni,Lists T' W nv kA ag mv kB yq k2 lv jN ni ms ls w7/\jN.length<=us.length+68/\ni.length=fs.length+4/\
    GrS (fun k=>T k=1\/T k=3\/T k=6\/T k=4\/T k=7\/InH (T k)) w w7/\∀k,k<w.heap.size->¬ InH (T k)->T' k=T k from
    ⟨T4,uv4,fv4,k04,k14,us4,fs4,⟨yM,MS,bR,uL,hE4,uJ⟩,by omega,QO,nY,yO⟩)
   clear VZ yM bR hE4 oX QO gY rG PY jv iB nR aR QD MS uL uJ yN nY yO;go_wp2;go_ret;exact⟨rfl,Aa jy⟩
end Go.Proofs.YtolhbeekfjnfmaaGreatDoor
namespace Go.Proofs.YtolhbeekfjnfmaaGreatDoor
variable {w w':World}{e:TypeId}{v rv uv k0:Value}{T T':Nat->Nat}{rs:List Sv.Rule}{S:Nat->Prop}{t u:Tok}{us:List (Value×Int)}{α:Type}{b:Sv.Bs}{c:Sv.Cond}{ss:List Site}{g f:Ft}{n:Nd}{ns:List Nd}{B:List Tok}{k i:Nat}
structure Ft where
 blk:Nat
 id:Int
 f:Sv.Fact
structure Site where
 letter:UInt8
 fact:Nat
 place:Nat
structure Lnk where
 place:Nat
 at':Site
abbrev Tok:=List Ft
def Site.bindT(k:Nat):Nat->List Sv.Term->List Site
 | _,[]=>[]
 | p,t::ts=>(if t.sort=1 then [⟨t.letter,k,p⟩] else [])++Site.bindT k (p+1) ts
def Site.find:List Site->UInt8->Option Site
 | [],_=>none
 | s::ss,n=>if s.letter=n then some s else Site.find ss n
def Lnk.of(ahead:List Site):Nat->List Sv.Term->List Lnk
 | _,[]=>[]
 | p,t::ts=>(if t.sort=1 then (match Site.find ahead t.letter with|none=>[]|some s=>[⟨p,s⟩]) else [])++Lnk.of ahead (p+1) ts
def Sv.Term.eqb(a b:Sv.Term):Bool:=a.sort==b.sort&&a.letter==b.letter&&a.value==b.value
def Cb:List Sv.Term->Sv.Term->Nat
 | [],_=>0
 | u::us,t=>if Sv.Term.eqb u t=true then 0 else Cb us t+1
def Za(all:List Sv.Term)(vs:List Int):Nat->List Sv.Term->Bool
 | _,[]=>true
 | p,t::ts=>(if t.sort=2 then vs.getD p 0==t.value else if t.sort=1 then vs.getD p 0==vs.getD (Cb all t) 0 else true)&&Za all vs (p+1) ts
def Ia(c:Sv.Cond)(f:Sv.Fact):Bool:=f.kind==(c.kind:Int)&&f.vals.length==c.terms.length&&Za c.terms f.vals 0 c.terms
def Tok.val(t:Tok)(s:Site):Int:=((t[s.fact]?.map (fun g=>g.f.vals)).getD []).getD s.place 0
def Ck(ls:List Lnk)(t:Tok)(f:Sv.Fact):Bool:=ls.all fun l=>f.vals.getD l.place 0==t.val l.at'
structure Nd where
 c:Sv.Cond
 links:List Lnk
 K:List Ft
 toks:List Tok
structure En where
 toks:List Tok
 wait:List Tok
def Nd.ext(n:Nd)(t:Tok):List Tok:=
 if n.c.neg=true then (if n.K.any (fun g=>Ck n.links t g.f)=true then [] else [t])
 else (n.K.filter (fun g=>Ck n.links t g.f)).map (fun g=>t++[g])
def Dk(put:List Tok->Tok->List Tok):List Nd->En->List Tok->List Nd×En
 | [],e,ts=>([],⟨e.toks++ts,ts.foldl put e.wait⟩)
 | n::ns,e,ts=>
  let r:=Dk put ns e (ts.flatMap n.ext)
  ({ n with toks:=n.toks++ts } :: r.1,r.2)
theorem Et(put:List Tok->Tok->List Tok):∀(ns:List Nd) (e:En),Dk put ns e []=(ns,e)
 | [],e=>by simp[Dk]
 | n::ns,e=>by simp[Dk,Et put ns e]
theorem Cy(put:List Tok->Tok->List Tok):∀(ns:List Nd) (e:En) (a b:List Tok),Dk put ns e (a++b)=Dk put (Dk put ns e a).1 (Dk put ns e a).2 b
 | [],e,a,b=>by simp[Dk]
 | n::ns,e,a,b=>by
  have h:∀t,Nd.ext { n with toks:=n.toks++a } t=n.ext t:=fun _=>rfl
  have h2:(Nd.ext { n with toks:=n.toks++a })=n.ext:=funext h;simp only[Dk,CG];rw[Cy put ns e];simp[h2]
theorem Cs(put:List Tok->Tok->List Tok):∀(ns:List Nd) (e:En) (a:List Tok),(Dk put ns e a).1.length=ns.length
 | [],e,a=>rfl
 | n::ns,e,a=>by simp[Dk,Cs put ns]
def Nd.drop(gone:Tok->Bool)(n:Nd):Nd:={ n with toks:=n.toks.filter (fun t=>!gone t) }
def D1:List Sv.Term->List Int->UInt8->Option Int
 | t::ts,v::vs,x=>if t.sort=1/\t.letter=x then some v else D1 ts vs x
 | _,_,_=>none
theorem I9(b:Sv.Bs)(x:UInt8)(v:Int)(y:UInt8):Bf (b++[(x,v)]) y=(Bf b y).or (if x=y then some v else none):=by
 induction b with
 | nil=>simp[Bf]
 | cons p b ih=>
  simp only[CP,Bf];split
  ·simp
  ·exact ih
theorem Site.find_app(a b:List Site)(x:UInt8):Site.find (a++b) x=(Site.find a x).or (Site.find b x):=by
 induction a with
 | nil=>simp[Site.find]
 | cons p a ih=>
  simp only[CP,Site.find];split
  ·simp
  ·exact ih
theorem Q02{a:Option α}{u:α}(h:a=some u)(b c:Option α):a.or b=a.or c:=by subst h;simp
theorem Dt:∀(ts:List Sv.Term) (vs:List Int) (b b':Sv.Bs),B1 ts vs b=some b'->∀x,Bf b' x=(Bf b x).or (D1 ts vs x)
 | [],vs,b,b',h=>by simp[B1] at h;subst h;simp[D1]
 | t::ts,[],b,b',h=>by simp[B1] at h;subst h;simp[D1]
 | t::ts,v::vs,b,b',h=>by
  intro x;unfold B1 at h;unfold D1;split at h
  ·rename_i h0
   rw[Dt ts vs b b' h x,AO (by omega)]
  ·split at h
   ·rename_i h1
    split at h
    ·rename_i hn
     rw[Dt ts vs _ b' h x,I9];by_cases e:t.letter=x
     ·rw[AQ e,AQ ⟨h1,e⟩,<-e,hn];simp
     ·rw[AO e,AO (fun k=>e k.2)];simp
    ·rename_i u hu
     split at h
     ·rw[Dt ts vs b b' h x]
      by_cases e:t.letter=x
      ·rw[<-e];exact Q02 hu _ _
      ·rw[AO (fun k=>e k.2)]
     ·cases h
   ·rename_i h1
    split at h
    ·rw[Dt ts vs b b' h x,AO (fun k=>h1 k.1)]
    ·cases h
def Np(ts:List Sv.Term)(vs:List Int)(b:Sv.Bs):Prop:=
 ∀i t,ts[i]?=some t->(t.sort=2->vs.getD i 0=t.value)/\(t.sort=1->∀u,(Bf b t.letter).or (D1 (ts.take i) (vs.take i) t.letter)=some u->vs.getD i 0=u)
theorem Dn{t:Sv.Term}{ts:List Sv.Term}{v:Int}{vs:List Int}{b1:Sv.Bs}(hb:∀x i,(Bf b1 x).or (D1 (ts.take i) (vs.take i) x)=(Bf b x).or (D1 ((t::ts).take (i+1)) ((v::vs).take (i+1)) x)) :
  Np (t::ts) (v::vs) b↔((t.sort=2->v=t.value)/\(t.sort=1->∀u,Bf b t.letter=some u->v=u))/\Np ts vs b1:=by
 constructor
 ·intro h
  refine⟨?_,fun i s hs=>?_⟩
  ·have:=h 0 t rfl
   simpa[D1] using this
  ·have:=h (i+1) s (by simpa using hs)
   refine⟨fun k=>by simpa using this.1 k,fun k u hu=>?_⟩;rw[hb] at hu;simpa using this.2 k u hu
 ·rintro⟨h1,h2⟩ i s hs
  cases i with
  | zero=>
   simp at hs;subst hs;simpa[D1] using h1
  | succ i=>
   have:=h2 i s (by simpa using hs);refine⟨fun k=>by simpa using this.1 k,fun k u hu=>?_⟩;rw[<-hb] at hu;simpa using this.2 k u hu
theorem D9:∀(ts:List Sv.Term) (vs:List Int) (b:Sv.Bs),ts.length=vs.length->(∀t∈ts,t.sort<=2)->((B1 ts vs b).isSome=true↔Np ts vs b)
 | [],vs,b,_,_=>by simp[B1,Np]
 | t::ts,[],b,h,_=>by simp at h
 | t::ts,v::vs,b,hl,hs=>by
  have hl':ts.length=vs.length:=by simpa using hl
  have hs':∀t∈ts,t.sort<=2:=fun x hx=>hs x (BG _ hx)
  have ht:=hs t (BF ..);unfold B1;split
  ·rename_i h0
   rw[D9 ts vs b hl' hs',Dn (b1:=b)]
   ·constructor
    ·intro h;exact⟨⟨fun k=>by omega,fun k=>by omega⟩,h⟩
    ·exact fun h=>h.2
   ·intro x i
    simp[D1,h0]
  ·rename_i h0
   split
   ·rename_i h1
    split
    ·rename_i hn
     rw[D9 ts vs _ hl' hs',Dn (b1:=b++[(t.letter,v)])]
     ·constructor
      ·intro h;exact⟨⟨fun k=>by omega,fun _ u hu=>by rw[hn] at hu;cases hu⟩,h⟩
      ·exact fun h=>h.2
     ·intro x i
      rw[I9];by_cases e:t.letter=x
      ·subst e
       simp[D1,h1,hn]
      ·simp[D1,e]
    ·rename_i u hu
     have hb:∀x i,(Bf b x).or (D1 (ts.take i) (vs.take i) x)=(Bf b x).or (D1 ((t::ts).take (i+1)) ((v::vs).take (i+1)) x):=by
      intro x i;by_cases e:t.letter=x
      ·rw[<-e];exact Q02 hu _ _
      ·simp[D1,e]
     by_cases e:v=u
     ·rw[AQ e,D9 ts vs b hl' hs',Dn hb]
      constructor
      ·intro h;exact⟨⟨fun k=>by omega,fun _ u' vr=>by rw[hu] at vr;cases vr;exact e⟩,h⟩
      ·exact fun h=>h.2
     ·rw[AO e]
      constructor
      ·intro h;simp at h
      ·intro h
       exact absurd (((Dn hb).1 h).1.2 h1 u hu) e
   ·rename_i h1
    have h2:t.sort=2:=by omega
    have hb:∀x i,(Bf b x).or (D1 (ts.take i) (vs.take i) x)=(Bf b x).or (D1 ((t::ts).take (i+1)) ((v::vs).take (i+1)) x):=by
     intro x i;simp[D1,h1]
    by_cases e:v=t.value
    ·rw[AQ e,D9 ts vs b hl' hs',Dn hb]
     constructor
     ·intro h;exact⟨⟨fun _=>e,fun k=>by omega⟩,h⟩
     ·exact fun h=>h.2
    ·rw[AO e]
     constructor
     ·intro h;simp at h
     ·intro h
      exact absurd (((Dn hb).1 h).1.1 h2) e
theorem Ri(all:List Sv.Term)(vs:List Int):∀(ts:List Sv.Term) (p:Nat),Za all vs p ts=true↔∀i t,ts[i]?=some t->(t.sort=2->vs.getD (p+i) 0=t.value)/\(t.sort=1->vs.getD (p+i) 0=vs.getD (Cb all t) 0)
 | [],p=>by simp[Za]
 | t::ts,p=>by
  unfold Za;rw[EC,Ri all vs ts (p+1)];constructor
  ·rintro⟨h1,h2⟩ i s hs
   cases i with
   | zero=>
    simp only[BS,AE] at hs;subst hs;constructor
    ·intro h;simpa[h] using h1
    ·intro h;simpa[h] using h1
   | succ i=>
    have:=h2 i s (by simpa using hs);rw[show p+(i+1)=p+1+i from by omega];exact this
  ·intro h
   constructor
   ·have:=h 0 t rfl
    split
    ·rename_i h2;simpa using this.1 h2
    ·split
     ·rename_i h1;simpa using this.2 h1
     ·rfl
   ·intro i s hs
    have:=h (i+1) s (by simpa using hs);rw[show p+(i+1)=p+1+i from by omega] at this;exact this
theorem R8(ss:List Site)(t:Tok)(f:Sv.Fact):∀(ts:List Sv.Term) (p:Nat),Ck (Lnk.of ss p ts) t f=true↔∀i tm,ts[i]?=some tm->tm.sort=1->∀s,Site.find ss tm.letter=some s->f.vals.getD (p+i) 0=t.val s
 | [],p=>by simp[Ck,Lnk.of]
 | tm::ts,p=>by
  have ih:=R8 ss t f ts (p+1);unfold Lnk.of;unfold Ck at ih⊢;rw[List.all_append,EC,ih];constructor
  ·rintro⟨h1,h2⟩ i s hs hv u hu
   cases i with
   | zero=>
    simp only[BS,AE] at hs;subst hs;simpa[hv,hu] using h1
   | succ i=>
    have:=h2 i s (by simpa using hs) hv u hu;rw[show p+(i+1)=p+1+i from by omega];exact this
  ·intro h
   constructor
   ·by_cases hv:tm.sort=1
    ·cases hu:Site.find ss tm.letter with
     | none=>simp[hv]
     | some s=>simpa[hv] using h 0 tm rfl hv s hu
    ·simp[hv]
   ·intro i s hs hv u hu
    have:=h (i+1) s (by simpa using hs) hv u hu;rw[show p+(i+1)=p+1+i from by omega] at this;exact this
def Er(t:Sv.Term):Prop:=t.sort<=2/\(t.sort=1->t.value=0)
theorem Tf{u t:Sv.Term}(hu:Er u)(ht:Er t)(h1:t.sort=1):Sv.Term.eqb u t=true↔u.sort=1/\u.letter=t.letter:=by
 unfold Sv.Term.eqb;simp only[EC,beq_iff_eq];constructor
 ·rintro⟨⟨a,b⟩,_⟩;exact⟨by omega,b⟩
 ·rintro⟨a,b⟩;exact⟨⟨by omega,b⟩,by rw[hu.2 a,ht.2 h1]⟩
theorem Ir:∀(ts:List Sv.Term) (vs:List Int) (i:Nat) (t:Sv.Term),(∀u∈ts,Er u)->ts.length=vs.length->ts[i]?=some t->t.sort=1->
  Cb ts t<=i/\(∃u,ts[Cb ts t]?=some u/\u.sort=1/\u.letter=t.letter)/\D1 (ts.take i) (vs.take i) t.letter=(if Cb ts t<i then some (vs.getD (Cb ts t) 0) else none)
 | [],vs,i,t,_,_,h,_=>by simp at h
 | a::ts,[],i,t,_,h,_,_=>by simp at h
 | a::ts,v::vs,i,t,aK,hl,hi,h1=>by
  have hl':ts.length=vs.length:=by simpa using hl
  have hmem:t∈a::ts:=AV hi;have hq:=Tf (aK a (BF ..)) (aK t hmem) h1;unfold Cb;by_cases e:Sv.Term.eqb a t=true
  ·rw[AQ e]
   have e2:=hq.1 e;refine⟨AG _,⟨a,rfl,e2⟩,?_⟩;cases i with
   | zero=>simp[D1]
   | succ i=>simp[D1,e2.1,e2.2]
  ·rw[AO e]
   have e2:¬ (a.sort=1/\a.letter=t.letter):=fun k=>e (hq.2 k)
   cases i with
   | zero=>
    simp only[BS,AE] at hi;subst hi;exact absurd ⟨h1,rfl⟩ e2
   | succ i=>
    obtain⟨k1,⟨u,k2,k3⟩,k4⟩:=Ir ts vs i t (fun u hu=>aK u (BG _ hu)) hl' (by simpa using hi) h1;refine⟨by omega,⟨u,by simpa using k2,k3⟩,?_⟩;simp only[GF,D1,AO e2,k4];by_cases hlt:Cb ts t<i
    ·rw[AQ hlt,AQ (by omega)];simp
    ·rw[AO hlt,AO (by omega)]
def Bound(ss:List Site)(t:Tok)(b:Sv.Bs):Prop:=∀x,Bf b x=(Site.find ss x).map (fun s=>t.val s)
theorem Vm(aK:∀u∈c.terms,Er u)(hb:Bound ss t b)(f:Sv.Fact) :
  (Ay f c b).isSome=(Ia c f&&Ck (Lnk.of ss 0 c.terms) t f):=by
 unfold Ay Ia;by_cases hk:f.kind=(c.kind:Int)
 ·by_cases hl:f.vals.length=c.terms.length
  ·rw[AQ ⟨hk,hl⟩,ER,D9 _ _ _ hl.symm (fun u hu=>(aK u hu).1)]
   simp only[hk,hl,BEq.rfl,EH,EC];rw[Ri,R8];simp only[BV];constructor
   ·intro h
    have hL:∀i tm,c.terms[i]?=some tm->tm.sort=1->∀u,Bf b tm.letter=some u->f.vals.getD i 0=u:=fun i tm hi h1 u hu=>(h i tm hi).2 h1 u (by rw[hu];rfl)
    refine⟨fun i tm hi=>⟨(h i tm hi).1,fun h1=>?_⟩,fun i tm hi h1 s hs=>hL i tm hi h1 _ (by rw[hb,hs];rfl)⟩;obtain⟨k1,⟨u,k2,k3,k4⟩,k5⟩:=Ir c.terms f.vals i tm aK hl.symm hi h1;cases hu:Bf b tm.letter with
    | some x=>rw[hL i tm hi h1 x hu,hL _ u k2 k3 x (by rw[k4];exact hu)]
    | none=>
     by_cases hlt:Cb c.terms tm<i
     ·rw[AQ hlt] at k5
      exact(h i tm hi).2 h1 _ (by rw[hu,k5];rfl)
     ·rw[show Cb c.terms tm=i from by omega]
   ·rintro⟨h1,h2⟩ i tm hi
    refine⟨(h1 i tm hi).1,fun h3 u hu=>?_⟩;obtain⟨k1,_,k5⟩:=Ir c.terms f.vals i tm aK hl.symm hi h3;cases hx:Bf b tm.letter with
    | some x=>
     rw[hx] at hu;simp at hu;subst hu;rw[hb] at hx;cases hs:Site.find ss tm.letter with
     | none=>rw[hs] at hx;simp at hx
     | some s=>
      rw[hs] at hx;simp at hx;rw[<-hx];exact h2 i tm hi h3 s hs
    | none=>
     rw[hx,k5] at hu;by_cases hlt:Cb c.terms tm<i
     ·rw[AQ hlt] at hu
      simp at hu;rw[<-hu];simpa using(h1 i tm hi).2 h3
     ·rw[AO hlt] at hu;simp at hu
  ·rw[AO (fun h=>hl h.2)]
   simp[hl]
 ·rw[AO (fun h=>hk h.1)]
  simp[hk]
theorem Site.bindT_find(k:Nat)(vs:List Int):∀(ts:List Sv.Term) (p:Nat) (x:UInt8),(Site.find (Site.bindT k p ts) x)=none/\D1 ts (vs.drop p) x=none\/(∃q,Site.find (Site.bindT k p ts) x=some ⟨x,k,q⟩/\(ts.length<=(vs.drop p).length->D1 ts (vs.drop p) x=some (vs.getD q 0)))\/¬ ts.length<=(vs.drop p).length
 | [],p,x=>.inl ⟨rfl,by simp[D1]⟩
 | t::ts,p,x=>by
  by_cases hlen:(t::ts).length<=(vs.drop p).length
  ·have hp:p<vs.length:=by simp at hlen;omega
   have hd:vs.drop p=vs[p]::vs.drop (p+1):=CM hp;have jQ:ts.length<=(vs.drop (p+1)).length:=by simp at hlen⊢;omega
   unfold Site.bindT;rw[hd];simp only[D1];by_cases h1:t.sort=1
   ·rw[AQ h1]
    simp only[List.singleton_append,Site.find];by_cases e:t.letter=x
    ·right;left
     refine⟨p,by simp[e],fun _=>?_⟩;rw[AQ ⟨h1,e⟩];simp[hp]
    ·rw[AO e,AO (fun k=>e k.2)]
     rcases Site.bindT_find k vs ts (p+1) x with h|⟨q,h2,h3⟩|h
     ·exact .inl h
     ·exact .inr (.inl ⟨q,h2,fun _=>h3 jQ⟩)
     ·exact absurd jQ h
   ·rw[AO h1,AO (fun k=>h1 k.1)]
    simp only[DC];rcases Site.bindT_find k vs ts (p+1) x with h|⟨q,h2,h3⟩|h
    ·exact .inl h
    ·exact .inr (.inl ⟨q,h2,fun _=>h3 jQ⟩)
    ·exact absurd jQ h
  ·exact .inr (.inr hlen)
theorem Tok.val_app(t:Tok)(g:Ft)(s:Site)(h:s.fact<t.length):Tok.val (t++[g]) s=t.val s:=by
 unfold Tok.val;rw[CN h]
theorem Site.find_mem:∀(ss:List Site) (x:UInt8) (s:Site),Site.find ss x=some s->s∈ss
 | [],x,s,h=>by simp[Site.find] at h
 | a::ss,x,s,h=>by
  unfold Site.find at h;split at h
  ·cases h;exact BF ..
  ·exact BG _ (Site.find_mem ss x s h)
theorem Bound.step{b':Sv.Bs}(hb:Bound ss t b)(hs:∀s∈ss,s.fact<t.length)(hm:Ay g.f c b=some b'):Bound (ss++Site.bindT t.length 0 c.terms) (t++[g]) b':=by
 intro x;unfold Ay at hm;split at hm
 ·rename_i hk
  rw[Dt _ _ _ _ hm x,hb x,Site.find_app];cases hf:Site.find ss x with
  | some s=>
   simp only[DZ,Option.some_or];rw[Tok.val_app t g s (hs s (Site.find_mem ss x s hf))]
  | none=>
   simp only[Option.map_none,Option.none_or];rcases Site.bindT_find t.length g.f.vals c.terms 0 x with ⟨h1,h2⟩|⟨q,h1,h2⟩|h
   ·rw[h1];simpa using h2
   ·rw[h1]
    have:=h2 (by simp[hk.2]);rw[IE] at this;rw[this];simp[Tok.val]
   ·exact absurd (by simp[hk.2]) h
 ·cases hm
theorem Site.bindT_fact(k:Nat):∀(ts:List Sv.Term) (p:Nat),∀s∈Site.bindT k p ts,s.fact=k
 | [],p,s,h=>by simp[Site.bindT] at h
 | t::ts,p,s,h=>by
  unfold Site.bindT at h;rcases AY.1 h with h|h
  ·split at h
   ·simp at h;rw[h]
   ·simp at h
  ·exact Site.bindT_fact k ts (p+1) s h
def Tok.nums(t:Tok):List Int:=t.map (fun g=>g.id)++List.replicate (4-t.length) 0
def cmpL:List Int->List Int->Int
 | [],[]=>0
 | [],_::_=>-1
 | _::_,[]=>1
 | a::x,b::y=>if a<b then -1 else if b<a then 1 else cmpL x y
def Pg(l:List Int):List Int:=l.mergeSort (fun a b=>decide (a<=b))
def Tok.age(t:Tok):List Int:=(Pg t.nums).reverse
def Tok.less(t u:Tok):Bool:=if cmpL t.age u.age=0 then decide (cmpL t.nums u.nums<0) else decide (0<cmpL t.age u.age)
def Hp.swap{α:Type}(l:List α)(i j:Nat):List α:=
 match l[i]?,l[j]? with
 | some a,some b=>(l.set i b).set j a
 | _,_=>l
def Hp.lt{α:Type}(lt:α->α->Bool)(l:List α)(i j:Nat):Bool:=
 match l[i]?,l[j]? with
 | some a,some b=>lt a b
 | _,_=>false
def Hp.up{α:Type}(lt:α->α->Bool)(l:List α)(j:Nat):List α:=
 if h:j=0 then l
 else if Hp.lt lt l j ((j-1) / 2)=true then Hp.up lt (Hp.swap l ((j-1) / 2) j) ((j-1) / 2) else l
termination_by j
decreasing_by omega
def Hp.kid{α:Type}(lt:α->α->Bool)(n:Nat)(l:List α)(i:Nat):Nat:=
 if 2*i+2<n/\Hp.lt lt l (2*i+2) (2*i+1)=true then 2*i+2 else 2*i+1
theorem Hp.kid_gt(lt:α->α->Bool)(n:Nat)(l:List α)(i:Nat):i<Hp.kid lt n l i:=by
 unfold Hp.kid;split<;>omega
theorem Hp.kid_lt(lt:α->α->Bool)(n:Nat)(l:List α)(i:Nat)(h:2*i+1<n):Hp.kid lt n l i<n:=by
 unfold Hp.kid;split
 ·rename_i k;exact k.1
 ·exact h
def Hp.down{α:Type}(lt:α->α->Bool)(n:Nat)(l:List α)(i:Nat):List α:=
 if _h:2*i+1<n then
  (if Hp.lt lt l (Hp.kid lt n l i) i=true then Hp.down lt n (Hp.swap l i (Hp.kid lt n l i)) (Hp.kid lt n l i) else l)
 else l
termination_by n-i
decreasing_by
 have h1:=Hp.kid_gt lt n l i;have h2:=Hp.kid_lt lt n l i _h;omega
def Hp.initF{α:Type}(lt:α->α->Bool):Nat->List α->List α
 | 0,l=>l
 | i+1,l=>Hp.initF lt i (Hp.down lt l.length l i)
def Hp.init{α:Type}(lt:α->α->Bool)(l:List α):List α:=Hp.initF lt (l.length / 2) l
def Hp.push{α:Type}(lt:α->α->Bool)(l:List α)(t:α):List α:=Hp.up lt (l++[t]) l.length
theorem Ro{α:Type}(a b:α):∀(l:List α) (j:Nat),l[j]?=some b->(b::l.set j a).Perm (a::l)
 | [],j,h=>by simp at h
 | x::l,0,h=>by
  simp at h;subst h;simp only[IH];exact List.Perm.swap _ _ _
 | x::l,j+1,h=>by
  simp only[FM];have h1:=Ro a b l j (by simpa using h);exact(List.Perm.swap _ _ _).trans ((h1.cons x).trans (List.Perm.swap _ _ _))
theorem Ij{α:Type}:∀(l:List α) (i j:Nat) (a b:α),i<j->l[i]?=some a->l[j]?=some b->((l.set i b).set j a).Perm l
 | [],i,j,a,b,_,h,_=>by simp at h
 | x::l,0,0,a,b,h,_,_=>by omega
 | x::l,0,j+1,a,b,_,h1,h2=>by
  simp at h1;subst h1;simp only[IH,FM];exact Ro x b l j (by simpa using h2)
 | x::l,i+1,0,a,b,h,_,_=>by omega
 | x::l,i+1,j+1,a,b,h,h1,h2=>by
  simp only[FM];exact(Ij l i j a b (by omega) (by simpa using h1) (by simpa using h2)).cons x
theorem Hp.swap_perm(l:List α)(i j:Nat):(Hp.swap l i j).Perm l:=by
 unfold Hp.swap;split
 ·rename_i a b h1 h2
  rcases JQ i j with h|h|h
  ·exact Ij l i j a b h h1 h2
  ·subst h
   rw[h1] at h2;cases h2
   have e:l.set i a=l:=by
    obtain⟨hi,rfl⟩:=AL.1 h1;exact List.set_getElem_self hi
   rw[e,e]
  ·rw[List.set_comm _ _ (by omega)]
   exact Ij l j i b a h h2 h1
 ·exact DX _
theorem Hp.up_perm{α:Type}(lt:α->α->Bool)(l:List α)(j:Nat):(Hp.up lt l j).Perm l:=by
 induction j using Nat.strongRecOn generalizing l with
 | _ j ih=>
  unfold Hp.up;split
  ·exact DX _
  ·split
   ·exact(ih ((j-1) / 2) (by omega) _).trans (Hp.swap_perm _ _ _)
   ·exact DX _
theorem Hp.down_perm{α:Type}(lt:α->α->Bool)(n:Nat):∀(m:Nat) (l:List α) (i:Nat),n-i<=m->(Hp.down lt n l i).Perm l
 | 0,l,i,h=>by
  unfold Hp.down;rw[dif_neg (by omega)]
 | m+1,l,i,h=>by
  unfold Hp.down;split
  ·rename_i h1
   split
   ·have h2:=Hp.kid_gt lt n l i
    exact(Hp.down_perm lt n m _ _ (by omega)).trans (Hp.swap_perm _ _ _)
   ·exact DX _
  ·exact DX _
theorem Hp.initF_perm{α:Type}(lt:α->α->Bool):∀(i:Nat) (l:List α),(Hp.initF lt i l).Perm l
 | 0,_=>DX _
 | i+1,l=>(Hp.initF_perm lt i _).trans (Hp.down_perm lt _ _ l i (AW _))
theorem Hp.init_perm(lt:α->α->Bool)(l:List α):(Hp.init lt l).Perm l:=Hp.initF_perm lt _ l
theorem Hp.push_perm(lt:α->α->Bool)(l:List α)(t:α):(Hp.push lt l t).Perm (l++[t]):=Hp.up_perm lt _ _
theorem Hp.fold_perm{α:Type}(lt:α->α->Bool):∀(ts:List α) (l:List α),(ts.foldl (Hp.push lt) l).Perm (l++ts)
 | [],l=>by simp
 | t::ts,l=>by
  simp only[List.foldl_cons];refine(Hp.fold_perm lt ts _).trans ?_;have h:=(Hp.push_perm lt l t).append_right ts;simpa using h
abbrev arr:=Dk (Hp.push Tok.less)
def En.drop(gone:Tok->Bool)(e:En):En:=⟨e.toks.filter (fun t=>!gone t),Hp.init Tok.less (e.wait.filter (fun t=>!gone t))⟩
def Aq(f:Ft)(n:Nd)(ns:List Nd)(e:En):Nd×(List Nd×En):=
 if Ia n.c f.f=true then
  ({ n with K:=n.K++[f] },if n.c.neg=true then (ns.map (Nd.drop (fun t=>Ck n.links t f.f)),e.drop (fun t=>Ck n.links t f.f))
   else arr ns e ((n.toks.filter (fun t=>Ck n.links t f.f)).map (fun t=>t++[f])))
 else (n,(ns,e))
def De(f:Ft):Nat->List Nd->En->List Nd×En
 | 0,ns,e=>(ns,e)
 | _+1,[],e=>([],e)
 | k+1,n::ns,e=>((Aq f n ns e).1::(De f k (Aq f n ns e).2.1 (Aq f n ns e).2.2).1,(De f k (Aq f n ns e).2.1 (Aq f n ns e).2.2).2)
theorem Es(f:Ft)(n:Nd)(ns:List Nd)(e:En):(Aq f n ns e).2.1.length=ns.length:=by
 unfold Aq;split
 ·split
  ·simp
  ·exact Cs _ _ _ _
 ·rfl
def Inv:List Tok->List Nd->En->Prop
 | B,[],e=>e.toks.Perm B
 | B,n::ns,e=>n.toks.Perm B/\Inv (B.flatMap n.ext) ns e
def reach:List Nd->Tok->List Tok
 | [],t=>[t]
 | n::ns,t=>(n.ext t).flatMap (reach ns)
theorem Inv.toks:∀ {B:List Tok} {ns:List Nd} {e:En},Inv B ns e->e.toks.Perm (B.flatMap (reach ns))
 | B,[],e,h=>by simpa[reach,Inv] using h
 | B,n::ns,e,h=>by
  have:=Inv.toks h.2;rw[List.flatMap_assoc] at this;exact this
theorem Inv.perm:∀ {B B':List Tok} {ns:List Nd} {e:En},Inv B ns e->B.Perm B'->Inv B' ns e
 | _,_,[],_,h,hp=>List.Perm.trans h hp
 | _,_,_::_,_,h,hp=>⟨h.1.trans hp,h.2.perm (hp.flatMap_right _)⟩
theorem Inv.arr:∀ {B:List Tok} {ns:List Nd} {e:En} (X:List Tok),Inv B ns e->Inv (B++X) (arr ns e X).1 (arr ns e X).2
 | B,[],e,X,h=>List.Perm.append_right X h
 | B,n::ns,e,X,h=>by
  refine⟨h.1.append_right X,?_⟩;have:=Inv.arr (X.flatMap n.ext) h.2;rw[<-CG] at this;exact this
theorem Q0i{ls:List Lnk}{f:Sv.Fact}(h:∀l∈ls,l.at'.fact<t.length):Ck ls (t++[g]) f=Ck ls t f:=by
 unfold Ck;rw[ER,JX,JX];constructor
 ·intro k l hl
  rw[<-Tok.val_app t g l.at' (h l hl)];exact k l hl
 ·intro k l hl
  rw[Tok.val_app t g l.at' (h l hl)];exact k l hl
theorem Nd.ext_mem(h:u∈n.ext t):u=t\/∃g∈n.K,u=t++[g]:=by
 unfold Nd.ext at h;split at h
 ·split at h
  ·simp at h
  ·simp at h;exact .inl h
 ·obtain⟨g,hg,rfl⟩:=CL.1 h
  exact .inr ⟨g,(BH.1 hg).1,rfl⟩
theorem Nd.ext_len(h:u∈n.ext t):u.length=t.length+(if n.c.neg=true then 0 else 1):=by
 unfold Nd.ext at h;split at h
 ·rename_i hn
  rw[AQ hn];split at h
  ·simp at h
  ·simp at h;rw[h];rfl
 ·rename_i hn
  rw[AO hn];obtain⟨g,hg,rfl⟩:=CL.1 h;simp
theorem Dj{α β:Type}(p:α->Bool)(q:β->Bool)(g:α->List β):∀(B:List α),(∀t∈B,∀u∈g t,q u=p t)->(B.flatMap g).filter q=(B.filter p).flatMap g
 | [],_=>rfl
 | t::B,h=>by
  have ih:=Dj p q g B (fun x hx=>h x (BG _ hx));rw[BI,DK,ih];by_cases e:p t=true
  ·have h1:(g t).filter q=g t:=GY.2 (fun u hu=>by rw[h t (BF ..) u hu];exact e)
   simp[h1,e]
  ·have e2:p t=false:=by simpa using e
   have h1:(g t).filter q=[]:=KT.2 (fun u hu=>by rw[h t (BF ..) u hu,e2];simp);simp[h1,e2]
theorem Inv.drop{ls:List Lnk}{f:Sv.Fact}{k:Nat}(hk:∀l∈ls,l.at'.fact<k):∀ {B:List Tok} {ns:List Nd} {e:En},Inv B ns e->(∀t∈B,k<=t.length)->
  Inv (B.filter (fun t=>!Ck ls t f)) (ns.map (Nd.drop (fun t=>Ck ls t f))) (e.drop (fun t=>Ck ls t f))
 | B,[],e,h,_=>JZ _ h
 | B,n::ns,e,h,hB=>by
  refine⟨h.1.filter _,?_⟩
  have hB2:∀t∈B.flatMap n.ext,k<=t.length:=by
   intro t ht;obtain⟨u,hu,hv⟩:=CU.1 ht;have:=Nd.ext_len hv;have:=hB u hu;omega
  have:=Inv.drop (f:=f) hk h.2 hB2;rw[Dj (fun t=>!Ck ls t f)] at this
  ·exact this
  ·intro t ht u hu
   rcases Nd.ext_mem hu with rfl|⟨g,_,rfl⟩
   ·rfl
   ·rw[Q0i (fun l hl=>AZ (hk l hl) (hB t ht))]
theorem Eb{α β:Type}(a b:α->List β):∀(B:List α),(B.flatMap (fun t=>a t++b t)).Perm (B.flatMap a++B.flatMap b)
 | []=>by simp
 | t::B=>by
  simp only[BI];have ih:=Eb a b B;have h1:((a t++b t)++List.flatMap (fun t=>a t++b t) B).Perm ((a t++b t)++(B.flatMap a++B.flatMap b)):=ih.append_left _;refine h1.trans ?_;rw[BQ,BQ];refine GR _ ?_;rw[<-BQ,<-BQ];exact List.perm_append_comm.append_right _
theorem Ig{α β:Type}(p:α->Bool)(g:α->β):∀(B:List α),B.flatMap (fun t=>if p t=true then [g t] else [])=(B.filter p).map g
 | []=>rfl
 | t::B=>by
  rw[BI,Ig p g B];by_cases h:p t=true
  ·simp[h]
  ·simp[h]
theorem Y7(n:Nd)(f:Ft)(hn:n.c.neg=false)(t:Tok):Nd.ext { n with K:=n.K++[f] } t=n.ext t++(if Ck n.links t f.f=true then [t++[f]] else []):=by
 unfold Nd.ext;simp only[hn,BZ,if_false,DK,CA];congr 1
 by_cases h:Ck n.links t f.f=true
 ·simp[h]
 ·simp[h]
theorem Yq(n:Nd)(f:Ft)(hn:n.c.neg=true)(t:Tok):Nd.ext { n with K:=n.K++[f] } t=if Ck n.links t f.f=true then [] else n.ext t:=by
 unfold Nd.ext;simp only[hn,if_true,ES];by_cases h:Ck n.links t f.f=true
 ·simp[h]
 ·simp[h]
theorem G4{α β:Type}(p:α->Bool)(g:α->List β):∀(B:List α),B.flatMap (fun t=>if p t=true then [] else g t)=(B.filter (fun t=>!p t)).flatMap g
 | []=>rfl
 | t::B=>by
  rw[BI,G4 p g B];by_cases h:p t=true
  ·simp[h]
  ·simp[h]
theorem Gy(n:Nd)(hn:n.c.neg=true)(p:Tok->Bool)(B:List Tok):(B.filter p).flatMap n.ext=(B.flatMap n.ext).filter p:=by
 symm
 refine Dj p p n.ext B ?_;intro t _ u hu;unfold Nd.ext at hu;rw[AQ hn] at hu;split at hu
 ·simp at hu
 ·simp at hu;rw[hu]
theorem Qj{e:En}(h:Inv B (n::ns) e)(hk:∀l∈n.links,l.at'.fact<k)(hB:∀t∈B,t.length=k) :
  Inv B ((Aq f n ns e).1::(Aq f n ns e).2.1) (Aq f n ns e).2.2:=by
 unfold Aq;by_cases hf:Ia n.c f.f=true
 ·rw[AQ hf]
  by_cases hn:n.c.neg=true
  ·simp only[hn,if_true]
   refine⟨h.1,?_⟩
   have h2:∀t∈B.flatMap n.ext,k<=t.length:=by
    intro t ht;obtain⟨u,hu,hv⟩:=CU.1 ht;have:=Nd.ext_len hv;have:=hB u hu;omega
   have:=Inv.drop (f:=f.f) hk h.2 h2
   have e:B.flatMap (Nd.ext { n with K:=n.K++[f] })=(B.flatMap n.ext).filter (fun t=>!Ck n.links t f.f):=by
    rw[show Nd.ext { n with K:=n.K++[f] }=fun t=>if Ck n.links t f.f=true then [] else n.ext t from funext (Yq n f hn),G4,Gy n hn]
   rw[e];exact this
  ·have gK:n.c.neg=false:=by simpa using hn
   simp only[gK,BZ,if_false];refine⟨h.1,?_⟩;have h3:=Inv.arr ((n.toks.filter (fun t=>Ck n.links t f.f)).map (fun t=>t++[f])) h.2;refine h3.perm ?_;rw[show Nd.ext { n with K:=n.K++[f] }=fun t=>n.ext t++(if Ck n.links t f.f=true then [t++[f]] else []) from funext (Y7 n f gK)];refine List.Perm.symm ((Eb _ _ B).trans ?_);rw[Ig];exact GR _ (((h.1.symm).filter _).map _)
 ·rw[AO hf]
  exact h
def Good(F:List Ft):List Site->Nat->List Nd->List Sv.Cond->Prop
 | _,_,[],[]=>True
 | ss,k,n::ns,c::cs=>n.c=c/\n.links=Lnk.of ss 0 c.terms/\n.K=F.filter (fun g=>Ia c g.f)/\Good F (if c.neg=true then ss else ss++Site.bindT k 0 c.terms) (if c.neg=true then k else k+1) ns cs
 | _,_,_,_=>False
theorem Good.len{F:List Ft}:∀ {ss:List Site} {k:Nat} {ns:List Nd} {cs:List Sv.Cond},Good F ss k ns cs->ns.length=cs.length
 | _,_,[],[],_=>rfl
 | _,_,[],_::_,h=>h.elim
 | _,_,_::_,[],h=>h.elim
 | _,_,_::_,_::_,h=>by simp[h.2.2.2.len]
theorem Lnk.of_fact(ss:List Site)(k:Nat)(h:∀s∈ss,s.fact<k):∀(ts:List Sv.Term) (p:Nat),∀l∈Lnk.of ss p ts,l.at'.fact<k
 | [],p,l,hl=>by simp[Lnk.of] at hl
 | t::ts,p,l,hl=>by
  unfold Lnk.of at hl;rcases AY.1 hl with hl|hl
  ·split at hl
   ·split at hl
    ·simp at hl
    ·rename_i s hs
     simp at hl;rw[hl];exact h s (Site.find_mem ss _ s hs)
   ·simp at hl
  ·exact Lnk.of_fact ss k h ts (p+1) l hl
theorem Lu(h:∀s∈ss,s.fact<k)(c:Sv.Cond):∀s∈(if c.neg=true then ss else ss++Site.bindT k 0 c.terms),s.fact<(if c.neg=true then k else k+1):=by
 split
 ·exact h
 ·intro s hs
  rcases AY.1 hs with hs|hs
  ·have:=h s hs;omega
  ·have:=Site.bindT_fact k c.terms 0 s hs;omega
theorem Good.same{F:List Ft}:∀ {ss:List Site} {k:Nat} {ns iw:List Nd} {cs:List Sv.Cond},Good F ss k ns cs->ns.map (fun n=>(n.c,n.links,n.K))=iw.map (fun n=>(n.c,n.links,n.K))->Good F ss k iw cs
 | _,_,[],[],[],_,_=>trivial
 | _,_,[],_::_,_,_,h=>by simp at h
 | _,_,_::_,[],_,_,h=>by simp at h
 | _,_,[],[],_::_,h,_=>h.elim
 | _,_,_::_,_::_,[],h,_=>h.elim
 | _,_,n::ns,m::iw,c::cs,h,he=>by
  simp only[DR,GV,CH] at he;obtain⟨⟨e1,e2,e3⟩,e4⟩:=he;exact⟨by rw[<-e1];exact h.1,by rw[<-e2];exact h.2.1,by rw[<-e3];exact h.2.2.1,h.2.2.2.same e4⟩
theorem Hu:∀(ns:List Nd) (e:En) (X:List Tok),ns.map (fun n=>(n.c,n.links,n.K))=(arr ns e X).1.map (fun n=>(n.c,n.links,n.K))
 | [],e,X=>rfl
 | n::ns,e,X=>by
  simp only[arr,Dk,DR];rw[Hu ns e]
theorem I0(f:Ft)(n:Nd)(ns:List Nd)(e:En):ns.map (fun n=>(n.c,n.links,n.K))=(Aq f n ns e).2.1.map (fun n=>(n.c,n.links,n.K)):=by
 unfold Aq;split
 ·split
  ·simp[Nd.drop,EA,Function.comp_def]
  ·exact Hu _ _ _
 ·rfl
theorem Op{F:List Ft}(f:Ft):∀ {ss:List Site} {k:Nat} {ns:List Nd} {cs:List Sv.Cond} {B:List Tok} {e:En},Good F ss k ns cs->(∀s∈ss,s.fact<k)->(∀t∈B,t.length=k)->Inv B ns e->
  Good (F++[f]) ss k (De f ns.length ns e).1 cs/\Inv B (De f ns.length ns e).1 (De f ns.length ns e).2
 | _,_,[],[],_,_,h,_,_,hi=>⟨h,hi⟩
 | _,_,[],_::_,_,_,h,_,_,_=>h.elim
 | _,_,_::_,[],_,_,h,_,_,_=>h.elim
 | ss,k,n::ns,c::cs,B,e,h,hs,hB,hi=>by
  obtain⟨h1,h2,h3,h4⟩:=h;have hk:∀l∈n.links,l.at'.fact<k:=by rw[h2];exact Lnk.of_fact ss k hs c.terms 0
  have pP:=Qj (f:=f) hi hk hB;have hg2:=h4.same (I0 f n ns e);have hl:=Es f n ns e
  have hc:(Aq f n ns e).1.c=c/\(Aq f n ns e).1.links=Lnk.of ss 0 c.terms/\(Aq f n ns e).1.K=(F++[f]).filter (fun g=>Ia c g.f):=by
   unfold Aq;by_cases hf:Ia n.c f.f=true
   ·rw[AQ hf]
    rw[h1] at hf;exact⟨h1,h2,by simp[h3,hf]⟩
   ·rw[AO hf]
    rw[h1] at hf;exact⟨h1,h2,by simp[h3,hf]⟩
  have hB2:∀t∈B.flatMap (Aq f n ns e).1.ext,t.length=(if c.neg=true then k else k+1):=by
   intro t ht;obtain⟨u,hu,hv⟩:=CU.1 ht;have e1:=Nd.ext_len hv;rw[hc.1] at e1;rw[e1,hB u hu];split<;>rfl
  have ih:=Op f (ns:=(Aq f n ns e).2.1) hg2 (Lu hs c) hB2 pP.2;rw[hl] at ih;exact⟨⟨hc.1,hc.2.1,hc.2.2,ih.1⟩,pP.1,ih.2⟩
theorem Good.outs{F:List Ft}:∀ {ss:List Site} {ns:List Nd} {cs:List Sv.Cond} {t:Tok} {b:Sv.Bs},Good F ss t.length ns cs->(∀s∈ss,s.fact<t.length)->(∀c∈cs,∀u∈c.terms,Er u)->Bound ss t b->
  (reach ns t).map (List.map (fun g=>g.id))=Ar (F.map (fun g=>(g.id,g.f))) cs b (t.map (fun g=>g.id))
 | _,[],[],t,b,_,_,_,_=>rfl
 | _,[],_::_,_,_,h,_,_,_=>h.elim
 | _,_::_,[],_,_,h,_,_,_=>h.elim
 | ss,n::ns,c::cs,t,b,h,hs,aK,hb=>by
  obtain⟨h1,h2,h3,h4⟩:=h;have hm:=fun f=>Vm (aK c (BF ..)) hb f
  have b8:∀c∈cs,∀u∈c.terms,Er u:=fun c hc=>aK c (BG _ hc)
  unfold reach Ar Nd.ext;rw[h1,h2,h3];by_cases hn:c.neg=true
  ·simp only[hn,if_true] at h4⊢
   have e:(F.map (fun g=>(g.id,g.f))).any (fun p=>(Ay p.2 c b).isSome)=(F.filter (fun g=>Ia c g.f)).any (fun g=>Ck (Lnk.of ss 0 c.terms) t g.f):=by
    rw[List.any_map,List.any_filter];congr 1
    funext g;simp[hm]
   rw[e];by_cases ha:(F.filter (fun g=>Ia c g.f)).any (fun g=>Ck (Lnk.of ss 0 c.terms) t g.f)=true
   ·rw[AQ ha,AQ ha];simp
   ·rw[AO ha,AO ha]
    simp only[BI,FH,BM];exact Good.outs h4 hs b8 hb
  ·have gK:c.neg=false:=by simpa using hn
   simp only[gK,BZ,if_false] at h4⊢;rw[GL,IQ,JY,IQ]
   have:∀(G:List Ft),(G.filter (fun a=>Ck (Lnk.of ss 0 c.terms) t a.f&&Ia c a.f)).flatMap (fun a=>((reach ns (t++[a]))).map (List.map (fun g=>g.id)))=G.flatMap (fun a=>match Ay a.f c b with|none=>[]|some b'=>Ar (F.map (fun g=>(g.id,g.f))) cs b' (t.map (fun g=>g.id)++[a.id])):=by
    intro G
    induction G with
    | nil=>rfl
    | cons a G ih=>
     rw[BI,<-ih,IU];have QG:=hm a.f;cases hx:Ay a.f c b with
     | none=>
      rw[hx] at QG
      have:¬ ((Ck (Lnk.of ss 0 c.terms) t a.f&&Ia c a.f)=true):=by
       rw[JK,<-QG];simp
      rw[AO this];simp
     | some b'=>
      rw[hx] at QG
      have:(Ck (Lnk.of ss 0 c.terms) t a.f&&Ia c a.f)=true:=by
       rw[JK,<-QG];rfl
      rw[AQ this,BI];congr 1
      have hl:(t++[a]).length=t.length+1:=by simp
      have hs2:=Lu hs c;simp only[gK,BZ,if_false] at hs2;have:=Good.outs (t:=t++[a]) (b:=b') (by rw[hl];exact h4) (by rw[hl];exact hs2) b8 (hb.step hs hx);rw[this];simp
   exact this F
def Tok.has(f:Ft)(t:Tok):Bool:=t.any (fun g=>g.blk==f.blk)
def Nd.less(f:Ft)(n:Nd):Nd:={ n with K:=n.K.filter (fun g=>!(g.blk==f.blk)) }
def Av(f:Ft)(n:Nd)(ns:List Nd)(e:En):Nd×(List Nd×En):=
 if n.K.any (fun g=>g.blk==f.blk)=true then
  (n.less f,if n.c.neg=true then arr ns e (n.toks.filter (fun t=>Ck n.links t f.f && !(n.less f).K.any (fun g=>Ck n.links t g.f))) else (ns,e))
 else (n,(ns,e))
def B5(f:Ft):List Nd->En->List Nd×En
 | [],e=>([],e)
 | n::ns,e=>((Av f n (B5 f ns e).1 (B5 f ns e).2).1::(Av f n (B5 f ns e).1 (B5 f ns e).2).2.1,(Av f n (B5 f ns e).1 (B5 f ns e).2).2.2)
def Tn(f:Ft)(ns:List Nd)(e:En):List Nd×En:=B5 f (ns.map (Nd.drop (Tok.has f))) (e.drop (Tok.has f))
def Nd.half(f:Ft)(n:Nd)(t:Tok):List Tok:=if n.c.neg=true then n.ext t else (n.less f).ext t
def HInv(f:Ft):List Tok->List Nd->En->Prop
 | B,[],e=>e.toks.Perm B
 | B,n::ns,e=>n.toks.Perm B/\HInv f (B.flatMap (n.half f)) ns e
theorem Lo{α β:Type}(q:β->Bool)(g:α->List β)(B:List α):(B.flatMap g).filter q=B.flatMap (fun t=>(g t).filter q):=by
 induction B with
 | nil=>rfl
 | cons t B ih=>rw[BI,BI,DK,ih]
theorem Qt(f:Ft)(n:Nd)(B:List Tok):(B.flatMap n.ext).filter (fun t=>!Tok.has f t)=(B.filter (fun t=>!Tok.has f t)).flatMap (n.half f):=by
 by_cases hn:n.c.neg=true
 ·rw[<-Gy n hn]
  have:n.half f=n.ext:=by funext t;unfold Nd.half;rw[AQ hn]
  rw[this]
 ·have gK:n.c.neg=false:=by simpa using hn
  rw[Lo,<-G4];congr 1
  funext t;unfold Nd.half;rw[AO hn];unfold Nd.ext Nd.less;simp only[gK,BZ,if_false];rw[KD];by_cases ht:Tok.has f t=true
  ·rw[AQ ht]
   simp only[List.map_eq_nil_iff,KT];intro g _;simp only[Function.comp_apply,Tok.has,ES,EW];unfold Tok.has at ht;rw[ht];simp
  ·rw[AO ht]
   have gU:Tok.has f t=false:=by simpa using ht
   congr 1
   rw[GL,GL];congr 1
   funext g;unfold Tok.has at gU;simp only[Function.comp_apply,Tok.has,ES,gU,EN,GH,KS,IM];rw[JK]
theorem HInv.of(f:Ft):∀ {B:List Tok} {ns:List Nd} {e:En},Inv B ns e->HInv f (B.filter (fun t=>!Tok.has f t)) (ns.map (Nd.drop (Tok.has f))) (e.drop (Tok.has f))
 | B,[],e,h=>JZ _ h
 | B,n::ns,e,h=>by
  refine⟨h.1.filter _,?_⟩;have:=HInv.of f h.2;rw[Qt] at this;exact this
theorem Z4(f:Ft)(n:Nd)(hn:n.c.neg=true)(hf:∃g∈n.K,g.blk=f.blk)(hu:∀g∈n.K,g.blk=f.blk->g.f=f.f)(t:Tok) :
  (n.less f).ext t=n.ext t++(if (Ck n.links t f.f && !(n.less f).K.any (fun g=>Ck n.links t g.f))=true then [t] else []):=by
 have ha:n.K.any (fun g=>Ck n.links t g.f)=(Ck n.links t f.f||(n.less f).K.any (fun g=>Ck n.links t g.f)):=by
  rw[ER,Bool.or_eq_true,ED,ED];constructor
  ·rintro⟨g,hg,h⟩
   by_cases e:g.blk=f.blk
   ·left;rw[<-hu g hg e];exact h
   ·right;exact⟨g,BH.2 ⟨hg,by simpa using e⟩,h⟩
  ·rintro(h|⟨g,hg,h⟩)
   ·obtain⟨g,hg,e⟩:=hf
    exact⟨g,hg,by rw[hu g hg e];exact h⟩
   ·exact⟨g,(BH.1 hg).1,h⟩
 have e1:(n.less f).ext t=if (n.less f).K.any (fun g=>Ck n.links t g.f)=true then [] else [t]:=by
  unfold Nd.ext;rw[AQ (by exact hn)];rfl
 rw[e1];unfold Nd.ext;rw[AQ hn,ha];cases h1:Ck n.links t f.f<;>cases h2:(n.less f).K.any (fun g=>Ck n.links t g.f)<;>simp
theorem Ye(f:Ft)(n:Nd)(h:¬ n.K.any (fun g=>g.blk==f.blk)=true):n.less f=n:=by
 unfold Nd.less
 have:n.K.filter (fun g=>!(g.blk==f.blk))=n.K:=by
  rw[GY];intro g hg;simp only[EW,beq_eq_false_iff_ne,ne_eq];intro e;exact h (ED.2 ⟨g,hg,by simpa using e⟩)
 rw[this]
theorem Pz{e:En}(h1:n.toks.Perm B)(h2:Inv (B.flatMap (n.half f)) ns e)(hu:∀g∈n.K,g.blk=f.blk->g.f=f.f) :
  Inv B ((Av f n ns e).1::(Av f n ns e).2.1) (Av f n ns e).2.2:=by
 unfold Av;by_cases hk:n.K.any (fun g=>g.blk==f.blk)=true
 ·rw[AQ hk]
  by_cases hn:n.c.neg=true
  ·simp only[hn,if_true]
   refine⟨h1,?_⟩
   have hx:∃g∈n.K,g.blk=f.blk:=by
    obtain⟨g,hg,h⟩:=ED.1 hk;exact⟨g,hg,by simpa using h⟩
   have e1:n.half f=n.ext:=by funext t;unfold Nd.half;rw[AQ hn]
   rw[e1] at h2;refine(Inv.arr _ h2).perm ?_;rw[show (n.less f).ext=fun t=>n.ext t++(if (Ck n.links t f.f && !(n.less f).K.any (fun g=>Ck n.links t g.f))=true then [t] else []) from funext (Z4 f n hn hx hu)];refine List.Perm.symm ((Eb _ _ B).trans ?_);rw[Ig];simp only[List.map_id'];exact GR _ ((h1.symm).filter _)
  ·have gK:n.c.neg=false:=by simpa using hn
   simp only[gK,BZ,if_false];refine⟨h1,?_⟩;have e1:n.half f=(n.less f).ext:=by funext t;unfold Nd.half;rw[AO hn]
   rw[e1] at h2;exact h2
 ·rw[AO hk]
  refine⟨h1,?_⟩;have e1:n.half f=n.ext:=by funext t;unfold Nd.half;rw[Ye f n hk];simp
  rw[e1] at h2;exact h2
theorem Lw{f:Ft}:∀ {B:List Tok} {ns:List Nd} {e:En},HInv f B ns e->(∀n∈ns,∀g∈n.K,g.blk=f.blk->g.f=f.f)->Inv B (B5 f ns e).1 (B5 f ns e).2
 | _,[],_,h,_=>h
 | _,n::_,_,h,hu=>Pz h.1 (Lw h.2 (fun m hm=>hu m (BG _ hm))) (hu n (BF ..))
theorem I8(f:Ft)(n:Nd)(ns:List Nd)(e:En):ns.map (fun n=>(n.c,n.links,n.K))=(Av f n ns e).2.1.map (fun n=>(n.c,n.links,n.K)):=by
 unfold Av;split
 ·split
  ·exact Hu _ _ _
  ·rfl
 ·rfl
theorem Ip(f:Ft)(n:Nd)(ns:List Nd)(e:En):(Av f n ns e).1=n.less f:=by
 unfold Av;split
 ·rfl
 ·rename_i h;exact(Ye f n h).symm
theorem Lh{F:List Ft}{f:Ft}:∀ {ss:List Site} {k:Nat} {ns:List Nd} {cs:List Sv.Cond} {e:En},Good F ss k ns cs->Good (F.filter (fun g=>!(g.blk==f.blk))) ss k (B5 f ns e).1 cs
 | _,_,[],[],_,h=>h
 | _,_,[],_::_,_,h=>h.elim
 | _,_,_::_,[],_,h=>h.elim
 | ss,k,n::ns,c::cs,e,h=>by
  obtain⟨h1,h2,h3,h4⟩:=h;have ih:=Lh (f:=f) (e:=e) h4;have ih2:=ih.same (I8 f n (B5 f ns e).1 (B5 f ns e).2);refine⟨?_,?_,?_,ih2⟩
  ·rw[Ip];exact h1
  ·rw[Ip];exact h2
  ·rw[Ip]
   show n.K.filter _=_
   rw[h3,GL,GL];congr 1
   funext g;rw[JK]
theorem Q2e{F:List Ft}{cs:List Sv.Cond}{e:En}(hg:Good F ss k ns cs)(hu:∀g∈F,g.blk=f.blk->g.f=f.f)(hi:Inv B ns e)(hB:∀t∈B,Tok.has f t=false) :
  Good (F.filter (fun g=>!(g.blk==f.blk))) ss k (Tn f ns e).1 cs/\Inv B (Tn f ns e).1 (Tn f ns e).2:=by
 have hg2:Good F ss k (ns.map (Nd.drop (Tok.has f))) cs:=hg.same (by simp[Nd.drop,EA,Function.comp_def]);refine⟨Lh hg2,?_⟩;have h:=HInv.of f hi;rw[GY.2 (fun t ht=>by rw[hB t ht];rfl)] at h;refine Lw h ?_
 have:∀ {ss:List Site} {k:Nat} {ns:List Nd} {cs:List Sv.Cond},Good F ss k ns cs->∀n∈ns,∀g∈n.K,g∈F:=by
  intro ss k ns
  induction ns generalizing ss k with
  | nil=>intro cs _ n hn;simp at hn
  | cons m ns ih=>
   intro cs hg n hn g LI;cases cs with
   | nil=>exact hg.elim
   | cons c cs=>
    obtain⟨_,_,h3,h4⟩:=hg;rcases CR.1 hn with rfl|hn
    ·rw[h3] at LI;exact(BH.1 LI).1
    ·exact ih h4 n hn g LI
 exact fun n hn g LI=>hu g (this hg2 n hn g LI)
structure Hp.Ord{α:Type}(lt:α->α->Bool):Prop where
 asym:∀a b,lt a b=true->lt b a=false
 trans:∀a b c,lt b a=false->lt c b=false->lt c a=false
def Hp.From{α:Type}(lt:α->α->Bool)(n k:Nat)(l:List α):Prop:=∀j,0<j->j<n->k<=(j-1) / 2->∀a b,l[j]?=some a->l[(j-1) / 2]?=some b->lt a b=false
theorem Hp.swap_get(l:List α)(i j k:Nat)(hi:i<l.length)(hj:j<l.length):(Hp.swap l i j)[k]?=if k=j then l[i]? else if k=i then l[j]? else l[k]?:=by
 unfold Hp.swap;rw[AB hi,AB hj];simp only;by_cases h1:k=j
 ·subst h1
  rw[AQ rfl,EF (by simpa using hj)]
 ·rw[AO h1,EY (by omega)]
  by_cases h2:k=i
  ·subst h2
   rw[AQ rfl,EF hi]
  ·rw[AO h2,EY (by omega)]
theorem Hp.swap_len(l:List α)(i j:Nat):(Hp.swap l i j).length=l.length:=(Hp.swap_perm l i j).length_eq
theorem Hp.lt_get{lt:α->α->Bool}{l:List α}{j:Nat}{a b:α}(h1:l[i]?=some a)(h2:l[j]?=some b):Hp.lt lt l i j=lt a b:=by
 unfold Hp.lt;rw[h1,h2]
theorem Hv{l:List α}(h:i<l.length):∃a,l[i]?=some a:=⟨l[i],AB h⟩
theorem Hp.down_ok{α:Type}{lt:α->α->Bool}(ho:Hp.Ord lt)(n k:Nat):∀(m:Nat) (l:List α) (i:Nat),n-i<=m->n<=l.length->k<=i->
  (∀j,0<j->j<n->k<=(j-1) / 2->(j-1) / 2≠i->∀a b,l[j]?=some a->l[(j-1) / 2]?=some b->lt a b=false)->
  (0<i->k<=(i-1) / 2->∀j,0<j->j<n->(j-1) / 2=i->∀a b,l[j]?=some a->l[(i-1) / 2]?=some b->lt a b=false)->
  Hp.From lt n k (Hp.down lt n l i)
 | 0,l,i,hm,hn,hk,h1,h2=>by
  unfold Hp.down;rw[dif_neg (by omega)];intro j a b c;exact h1 j a b c (by omega)
 | m+1,l,i,hm,hn,hk,h1,h2=>by
  unfold Hp.down;by_cases hi:2*i+1<n
  ·rw[dif_pos hi]
   have hc1:=Hp.kid_gt lt n l i;have hc2:=Hp.kid_lt lt n l i hi;obtain⟨c,hc⟩:∃c,Hp.kid lt n l i=c:=⟨_,rfl⟩
   have xC:(c-1) / 2=i/\0<c:=by
    rw[<-hc];unfold Hp.kid;split<;>omega
   rw[hc] at hc1 hc2⊢;obtain⟨x,hx⟩:=Hv (l:=l) (i:=i) (by omega);obtain⟨y,hy⟩:=Hv (l:=l) (i:=c) (by omega)
   have zZ:∀d,0<d->d<n->(d-1) / 2=i->d≠c->∀z,l[d]?=some z->lt z y=false:=by
    intro d yK VB dF hdc z hz;unfold Hp.kid at hc;by_cases hq:2*i+2<n/\Hp.lt lt l (2*i+2) (2*i+1)=true
    ·rw[AQ hq] at hc
     have hd:d=2*i+1:=by omega
     subst hd;subst hc;rw[Hp.lt_get hy hz] at hq;exact ho.asym _ _ hq.2
    ·rw[AO hq] at hc
     have hd:d=2*i+2:=by omega
     subst hd;subst hc;rw[Hp.lt_get hz hy] at hq;have:¬ lt z y=true:=fun h=>hq ⟨VB,h⟩
     simpa using this
   by_cases hl:Hp.lt lt l c i=true
   ·rw[AQ hl]
    rw[Hp.lt_get hy hx] at hl;have hg:=fun q=>Hp.swap_get l i c q (by omega) (by omega)
    refine Hp.down_ok ho n k m _ c (by omega) (by rw[Hp.swap_len];exact hn) (by omega) ?_ ?_
    ·intro j hj0 hjn hjk QL a b ha hb
     rw[hg] at ha hb;rw[AO QL] at hb;by_cases e1:j=c
     ·subst e1
      rw[AQ rfl,hx] at ha;rw[AQ xC.1,hy] at hb;cases ha
      cases hb
      exact ho.asym _ _ hl
     ·rw[AO e1] at ha
      by_cases e2:(j-1) / 2=i
      ·rw[AQ e2,hy] at hb
       cases hb
       rw[AO (by omega)] at ha;exact zZ j hj0 hjn e2 e1 a ha
      ·rw[AO e2] at hb
       by_cases e3:j=i
       ·subst e3
        rw[AQ rfl,hy] at ha;cases ha
        exact h2 hj0 hjk c xC.2 hc2 xC.1 _ _ hy hb
       ·rw[AO e3] at ha
        exact h1 j hj0 hjn hjk e2 a b ha hb
    ·intro _ hck j hj0 hjn QL a b ha hb
     rw[hg] at ha hb;rw[AO (by omega),AO (by omega)] at ha;rw[AO (by omega),AQ xC.1,hy] at hb;cases hb
     exact h1 j hj0 hjn (by omega) (by omega) a y ha (by rw[QL];exact hy)
   ·rw[AO hl]
    rw[Hp.lt_get hy hx] at hl;have hl2:lt y x=false:=by simpa using hl
    intro j hj0 hjn hjk a b ha hb;by_cases e2:(j-1) / 2=i
    ·rw[e2,hx] at hb
     cases hb
     by_cases e1:j=c
     ·subst e1
      rw[hy] at ha;cases ha
      exact hl2
     ·exact ho.trans _ _ _ hl2 (zZ j hj0 hjn e2 e1 a ha)
    ·exact h1 j hj0 hjn hjk e2 a b ha hb
  ·rw[dif_neg hi]
   intro j hj0 hjn hjk a b ha hb;exact h1 j hj0 hjn hjk (by omega) a b ha hb
theorem Hp.up_ok{α:Type}{lt:α->α->Bool}(ho:Hp.Ord lt)(l:List α)(i:Nat)(hi:i<l.length)
 (h1:∀j,0<j->j<l.length->j≠i->∀a b,l[j]?=some a->l[(j-1) / 2]?=some b->lt a b=false)
 (h2:0<i->∀j,0<j->j<l.length->(j-1) / 2=i->∀a b,l[j]?=some a->l[(i-1) / 2]?=some b->lt a b=false) :
  Hp.From lt l.length 0 (Hp.up lt l i):=by
 induction i using Nat.strongRecOn generalizing l with
 | _ i ih=>
  unfold Hp.up;by_cases h0:i=0
  ·rw[dif_pos h0]
   intro j hj0 hjn _ a b ha hb;exact h1 j hj0 hjn (by omega) a b ha hb
  ·rw[dif_neg h0]
   obtain⟨p,hp⟩:∃p,(i-1) / 2=p:=⟨_,rfl⟩
   have ZP:p<i:=by omega
   rw[hp] at h2⊢;obtain⟨x,hx⟩:=Hv (l:=l) (i:=i) hi;obtain⟨y,hy⟩:=Hv (l:=l) (i:=p) (by omega);by_cases hl:Hp.lt lt l i p=true
   ·rw[AQ hl]
    rw[Hp.lt_get hx hy] at hl;have hg:=fun q=>Hp.swap_get l p i q (by omega) (by omega)
    have hlen:=Hp.swap_len l p i;have:=ih p ZP (Hp.swap l p i) (by rw[hlen];omega) ?_ ?_
    ·rw[hlen] at this;exact this
    ·intro j hj0 hjn QK a b ha hb
     rw[hlen] at hjn;rw[hg] at ha hb;rw[AO QK] at ha;by_cases e1:j=i
     ·subst e1
      rw[AQ rfl,hy] at ha;rw[hp,AO (by omega),AQ rfl,hx] at hb;cases ha
      cases hb
      exact ho.asym _ _ hl
     ·rw[AO e1] at ha
      by_cases e2:(j-1) / 2=i
      ·rw[AQ e2,hy] at hb
       cases hb
       exact h2 (by omega) j hj0 hjn e2 a y ha hy
      ·rw[AO e2] at hb
       by_cases e3:(j-1) / 2=p
       ·rw[AQ e3,hx] at hb
        cases hb
        have k1:=h1 j hj0 hjn e1 a y ha (by rw[e3];exact hy);exact ho.trans _ _ _ (ho.asym _ _ hl) k1
       ·rw[AO e3] at hb
        exact h1 j hj0 hjn e1 a b ha hb
    ·intro b9 j hj0 hjn QK a b ha hb
     rw[hlen] at hjn;rw[hg] at ha hb;rw[AO (by omega),AO (by omega)] at hb;have kp:=h1 p b9 (by omega) (by omega) y b hy hb;by_cases e1:j=i
     ·subst e1
      rw[AQ rfl,hy] at ha;cases ha
      exact kp
     ·rw[AO e1,AO (by omega)] at ha
      have k1:=h1 j hj0 hjn e1 a y ha (by rw[QK];exact hy);exact ho.trans _ _ _ kp k1
   ·rw[AO hl]
    rw[Hp.lt_get hx hy] at hl;intro j hj0 hjn _ a b ha hb;by_cases e1:j=i
    ·subst e1
     rw[hx] at ha;rw[hp,hy] at hb;cases ha
     cases hb
     simpa using hl
    ·exact h1 j hj0 hjn e1 a b ha hb
def Hp.Is{α:Type}(lt:α->α->Bool)(l:List α):Prop:=Hp.From lt l.length 0 l
theorem Hp.push_ok{lt:α->α->Bool}(ho:Hp.Ord lt){l:List α}(h:Hp.Is lt l)(t:α):Hp.Is lt (Hp.push lt l t):=by
 have e:(Hp.push lt l t).length=(l++[t]).length:=(Hp.up_perm lt _ _).length_eq;unfold Hp.Is;rw[e];refine Hp.up_ok ho (l++[t]) l.length (by simp) ?_ ?_
 ·intro j hj0 hjn hne a b ha hb
  have hj:j<l.length:=by simp at hjn;omega
  rw[CN hj] at ha;rw[CN (by omega)] at hb;exact h j hj0 hj (AG _) a b ha hb
 ·intro _ j hj0 hjn QK a b ha hb
  simp at hjn;omega
theorem Hp.fold_ok{α:Type}{lt:α->α->Bool}(ho:Hp.Ord lt):∀(ts:List α) {l:List α},Hp.Is lt l->Hp.Is lt (ts.foldl (Hp.push lt) l)
 | [],_,h=>h
 | t::ts,_,h=>Hp.fold_ok ho ts (Hp.push_ok ho h t)
theorem Hp.down_len(lt:α->α->Bool)(n:Nat)(l:List α)(i:Nat):(Hp.down lt n l i).length=l.length:=(Hp.down_perm lt n _ l i (AW _)).length_eq
theorem Hp.initF_ok{α:Type}{lt:α->α->Bool}(ho:Hp.Ord lt):∀(i:Nat) (l:List α),Hp.From lt l.length i l->Hp.Is lt (Hp.initF lt i l)
 | 0,_,h=>h
 | i+1,l,h=>by
  unfold Hp.initF;refine Hp.initF_ok ho i _ ?_;rw[Hp.down_len];refine Hp.down_ok ho l.length i _ l i (AW _) (AW _) (AW _) ?_ ?_
  ·intro j hj0 hjn hjk hne a b ha hb
   exact h j hj0 hjn (by omega) a b ha hb
  ·intro h0 hk
   omega
theorem Hp.init_ok{lt:α->α->Bool}(ho:Hp.Ord lt)(l:List α):Hp.Is lt (Hp.init lt l):=by
 refine Hp.initF_ok ho _ l ?_;intro j hj0 hjn hk;omega
theorem Hp.first{α:Type}{lt:α->α->Bool}(ho:Hp.Ord lt)(hr:∀a,lt a a=false){l:List α}(h:Hp.Is lt l){x:α}(hx:l[0]?=some x):∀(j:Nat) (a:α),l[j]?=some a->lt a x=false:=by
 intro j
 induction j using Nat.strongRecOn with
 | _ j ih=>
  intro a ha;by_cases h0:j=0
  ·subst h0
   rw[hx] at ha;cases ha
   exact hr _
  ·have hj:=(AL.1 ha).1
   obtain⟨b,hb⟩:=Hv (l:=l) (i:=(j-1) / 2) (by omega);exact ho.trans _ _ _ (ih _ (by omega) b hb) (h j (by omega) hj (AG _) a b ha hb)
theorem Hp.down_get{α:Type}(lt:α->α->Bool)(n:Nat):∀(m:Nat) (l:List α) (i:Nat),n-i<=m->n<=l.length->∀q,n<=q->(Hp.down lt n l i)[q]?=l[q]?
 | 0,l,i,h,_,q,_=>by
  unfold Hp.down;rw[dif_neg (by omega)]
 | m+1,l,i,h,hn,q,hq=>by
  unfold Hp.down;split
  ·rename_i hi
   split
   ·have h1:=Hp.kid_gt lt n l i
    have h2:=Hp.kid_lt lt n l i hi;rw[Hp.down_get lt n m _ _ (by omega) (by rw[Hp.swap_len];exact hn) q hq,Hp.swap_get _ _ _ _ (by omega) (by omega),AO (by omega),AO (by omega)]
   ·rfl
  ·rfl
def Hp.popL{α:Type}(lt:α->α->Bool)(l:List α):List α:=Hp.down lt (l.length-1) (Hp.swap l 0 (l.length-1)) 0
theorem Hp.pop_ok{lt:α->α->Bool}(ho:Hp.Ord lt){l:List α}(h:Hp.Is lt l){x:α}(hx:l[0]?=some x) :
  (Hp.popL lt l).length=l.length/\(Hp.popL lt l)[l.length-1]?=some x/\Hp.Is lt ((Hp.popL lt l).take (l.length-1))/\l.Perm (x::(Hp.popL lt l).take (l.length-1)):=by
 have hl:0<l.length:=(AL.1 hx).1;have hlen:(Hp.popL lt l).length=l.length:=by unfold Hp.popL;rw[Hp.down_len,Hp.swap_len]
 have uO:(Hp.popL lt l)[l.length-1]?=some x:=by
  unfold Hp.popL;rw[Hp.down_get lt _ _ _ 0 (AW _) (by rw[Hp.swap_len];omega) _ (AW _),Hp.swap_get _ _ _ _ (by omega) (by omega),AQ rfl,hx]
 refine⟨hlen,uO,?_,?_⟩
 ·have hd:Hp.From lt (l.length-1) 0 (Hp.popL lt l):=by
   unfold Hp.popL;refine Hp.down_ok ho _ 0 _ _ 0 (AW _) (by rw[Hp.swap_len];omega) (AW _) ?_ (by omega);intro j hj0 hjn _ hne a b ha hb;rw[Hp.swap_get _ _ _ _ (by omega) (by omega),AO (by omega),AO (by omega)] at ha hb;exact h j hj0 (by omega) (AG _) a b ha hb
  unfold Hp.Is;have e:((Hp.popL lt l).take (l.length-1)).length=l.length-1:=by rw[BL,hlen];omega
  rw[e];intro j hj0 hjn hk a b ha hb;rw[IP hjn] at ha;rw[IP (by omega)] at hb;exact hd j hj0 hjn hk a b ha hb
 ·have hp:(Hp.popL lt l).Perm l:=(Hp.down_perm lt _ _ _ _ (AW _)).trans (Hp.swap_perm _ _ _)
  refine hp.symm.trans ?_
  have e:Hp.popL lt l=(Hp.popL lt l).take (l.length-1)++[x]:=by
   have h1:=DL (l.length-1) (Hp.popL lt l)
   have h2:(Hp.popL lt l).drop (l.length-1)=[x]:=by
    obtain⟨h3,h4⟩:=AL.1 uO;rw[CM h3,h4,BD (by rw[hlen];omega)]
   rw[h2] at h1;exact h1.symm
  rw[e];simp only[List.take_append_of_le_length (show l.length-1<=((Hp.popL lt l).take (l.length-1)).length by rw[BL,hlen];omega),List.take_take,Nat.min_self];exact JF
theorem Bz:∀(a b:List Int),cmpL b a=- cmpL a b
 | [],[]=>rfl
 | [],_::_=>rfl
 | _::_,[]=>rfl
 | a::x,b::y=>by
  unfold cmpL;have ih:=Bz x y;by_cases h1:a<b
  ·rw[AQ h1,AO (by omega),AQ h1];rfl
  ·by_cases h2:b<a
   ·rw[AQ h2,AO h1,AQ h2]
   ·rw[AO h1,AO h2,AO h2,AO h1];exact ih
theorem K4:∀(a b:List Int),cmpL a b=0->a=b
 | [],[],_=>rfl
 | [],_::_,h=>by simp[cmpL] at h
 | _::_,[],h=>by simp[cmpL] at h
 | a::x,b::y,h=>by
  unfold cmpL at h;split at h
  ·omega
  ·split at h
   ·omega
   ·rw[K4 x y h,show a=b from by omega]
theorem C1:∀(a:List Int),cmpL a a=0
 | []=>rfl
 | a::x=>by
  unfold cmpL;rw[AO (by omega),AO (by omega)];exact C1 x
theorem Ek:∀(a b c:List Int),cmpL a b<=0->cmpL b c<=0->cmpL a c<=0
 | [],_,[],_,_=>by simp[cmpL]
 | [],_,_::_,_,_=>by simp[cmpL]
 | _::_,[],_,h,_=>by simp[cmpL] at h
 | _::_,_::_,[],_,h=>by simp[cmpL] at h
 | a::x,b::y,c::z,h1,h2=>by
  unfold cmpL at h1 h2⊢;by_cases k1:a<b
  ·by_cases k2:b<c
   ·rw[AQ (by omega)];omega
   ·rw[AO k2] at h2
    by_cases k3:c<b
    ·rw[AQ k3] at h2;omega
    ·rw[AQ (by omega)];omega
  ·rw[AO k1] at h1
   by_cases k4:b<a
   ·rw[AQ k4] at h1;omega
   ·rw[AO k4] at h1
    by_cases k2:b<c
    ·rw[AQ (by omega)];omega
    ·rw[AO k2] at h2
     by_cases k3:c<b
     ·rw[AQ k3] at h2;omega
     ·rw[AO k3] at h2
      rw[AO (by omega),AO (by omega)];exact Ek x y z h1 h2
theorem Tok.less_iff(t u:Tok):Tok.less t u=true↔0<cmpL t.age u.age\/(t.age=u.age/\cmpL t.nums u.nums<0):=by
 unfold Tok.less;by_cases h:cmpL t.age u.age=0
 ·rw[AQ h]
  simp only[DJ];constructor
  ·intro k;exact .inr ⟨K4 _ _ h,k⟩
  ·rintro(k|k)
   ·omega
   ·exact k.2
 ·rw[AO h]
  simp only[DJ];constructor
  ·exact fun k=>.inl k
  ·rintro(k|k)
   ·exact k
   ·rw[k.1,C1] at h;exact absurd rfl h
theorem Tok.less_ord:Hp.Ord Tok.less where
 asym:=by
  intro a b h;rw[Tok.less_iff] at h;rw[<-FI,Tok.less_iff];rintro(k|⟨k1,k2⟩)
  ·rw[Bz] at k
   rcases h with h|⟨h,_⟩
   ·omega
   ·rw[h,C1] at k;omega
  ·rw[Bz] at k2
   rcases h with h|⟨h,h3⟩
   ·rw[k1,C1] at h;omega
   ·omega
 trans:=by
  intro a b c h1 h2;rw[<-FI,Tok.less_iff] at h1 h2⊢
  have e1:cmpL b.age a.age<=0:=by
   by_cases h:0<cmpL b.age a.age
   ·exact absurd (.inl h) h1
   ·omega
  have e2:cmpL c.age b.age<=0:=by
   by_cases h:0<cmpL c.age b.age
   ·exact absurd (.inl h) h2
   ·omega
  have e3:=Ek _ _ _ e2 e1;rintro(k|⟨k1,k2⟩)
  ·omega
  ·have e4:cmpL a.age b.age<=0:=by rw[<-k1];exact e2
   rw[Bz] at e4;have e5:b.age=a.age:=K4 _ _ (by omega);have e6:c.age=b.age:=by rw[k1,e5]
   have f1:¬ cmpL b.nums a.nums<0:=fun h=>h1 (.inr ⟨e5,h⟩)
   have f2:¬ cmpL c.nums b.nums<0:=fun h=>h2 (.inr ⟨e6,h⟩)
   have g1:cmpL a.nums b.nums<=0:=by rw[Bz];omega
   have g2:cmpL b.nums c.nums<=0:=by rw[Bz];omega
   have:=Ek _ _ _ g1 g2;rw[Bz] at this;omega
theorem Tok.less_self(t:Tok):Tok.less t t=false:=by
 rw[<-FI,Tok.less_iff];rintro(k|⟨_,k⟩)
 ·rw[C1] at k;omega
 ·rw[C1] at k;omega
theorem Ho:∀(a b:List Int),Fw a b->cmpL a b<0
 | [],[],h=>h.elim
 | [],_::_,_=>by simp[cmpL]
 | _::_,[],h=>h.elim
 | a::x,b::y,h=>by
  unfold cmpL;rcases h with h|⟨rfl,h⟩
  ·rw[AQ h];omega
  ·rw[AO (by omega),AO (by omega)]
   exact Ho x y h
theorem V0{l k:List (List Int)}(hp:l.Perm k)(h1:l.Pairwise Fw)(h2:k.Pairwise (fun a b=>cmpL a b<=0)):l=k:=by
 refine List.Perm.eq_of_pairwise (le:=fun a b=>cmpL a b<=0) ?_ ?_ h2 hp
 ·intro a b _ _ h1 h2
  rw[Bz] at h2;exact K4 _ _ (by omega)
 ·exact h1.imp (fun {a b} h=>by have:=Ho a b h;omega)
end Go.Proofs.YtolhbeekfjnfmaaGreatDoor

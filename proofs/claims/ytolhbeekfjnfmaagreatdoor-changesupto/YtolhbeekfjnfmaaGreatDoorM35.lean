import Derived.Test.YtolhbeekfjnfmaaGreatDoorMA
import Derived.Test.YtolhbeekfjnfmaaGreatDoorM23
import Derived.Test.YtolhbeekfjnfmaaGreatDoorM12
set_option maxHeartbeats 8000000
set_option maxRecDepth 100000
namespace Go.Proofs.YtolhbeekfjnfmaaGreatDoor
open Go.RowKit
abbrev KF:=@Obj.cells.injEq
variable {T T':Nat->Nat}{F:List Ft}{a l:Value}{j:Nat}{w:World}
structure FactsI(T T':Nat->Nat)(F:List Ft)(a l:Value)(xs:List VFt)(j:Nat)(w w':World):Prop where
 gr:w.grownBy w' none
 old:∀i,i<w.heap.size->T' i=T i
 row:TRow T' 13 37 2 ftenc l xs w'
 els:∀i y,xs[i]?=some y->TRow T' (13+3*(i+1)) 3 1 C4 y.v y.vals w'/\y.vals.length<=1000000
 ids:TRow T' (13+3*(F.length+1)) 3 1 C4 a ((F.take j).map (fun g=>g.id)) w'
 same:xs.map (fun y=>(⟨y.kind,y.vals⟩:Sv.Fact))=(F.take j).map (fun g=>g.f)
 ao:∀g,a.ownBlock=some g->w.heap.size<=g
 lo:∀g,l.ownBlock=some g->w.heap.size<=g
theorem FactsI.len{xs:List VFt}{w':World}(h:FactsI T T' F a l xs j w w')(hj:j<=F.length):xs.length=j:=by
 have:=BJ List.length h.same;rw[BA,BA,BL,CC hj] at this;exact this
theorem X2{v5 v2 v7:Value}{xs:List VFt}{n m n' m':Nat}{g:Ft}{wr w4 w5 w6 SC w7:World}(h:FactsI T T' F a l xs j w wr)(hg:F[j]?=some g)(h4:g.f.vals.length<=4)
 (hg4:wr.grownBy w4 none)(aR:Longer a v5 n m w4 w5)(b7:RowAt 3 1 C4 0 v5 ((F.take j).map (fun g=>g.id)++[g.id]) w5)(dE:w5.grownBy w6 none)(hv2:IsAt w5.heap.size v2 g.f.vals w6)(wh:w6.grownBy SC none)(bb:Longer l v7 n' m' SC w7)(iy:RowAt 37 2 ftenc 0 v7 (xs++[⟨g.f.kind,v2,g.f.vals⟩]) w7) :
  ∃T7,FactsI T T7 F v5 v7 (xs++[⟨g.f.kind,v2,g.f.vals⟩]) (j+1) w w7:=by
 have hj:j<F.length:=(AL.1 hg).1;have iF:=h.len (EE hj);have oA:=hg4.size;have cP:GrS (fun i=>a.ownBlock=some i) wr w5:=(GrS.of hg4 (by simp):GrS (fun i=>a.ownBlock=some i) wr w4).trans (aR.gr (fun g hg=>hg));have hs5:=cP.size;have QA:=dE.size;have hs6b:=wh.size;have jX:GrS (fun i=>l.ownBlock=some i) w5 w7:=((GrS.of dE (by simp):GrS (fun i=>l.ownBlock=some i) w5 w6).then wh (by simp)).trans (bb.gr (fun g hg=>hg));have ui:∀i,a.ownBlock=some i->i<wr.heap.size/\T' i=13+3*(F.length+1):=fun i hi=>⟨(h.ids.1.own i hi).2,h.ids.2 i hi⟩
 have ky:∀i,l.ownBlock=some i->i<wr.heap.size/\T' i=13:=fun i hi=>⟨(h.row.1.own i hi).2,h.row.2 i hi⟩
 obtain⟨T7,MT⟩:∃T7:Nat->Nat,T7=fun i=>if i<wr.heap.size then T' i else if i<w5.heap.size then 13+3*(F.length+1) else if i<w6.heap.size then 13+3*(j+1) else 13:=⟨_,rfl⟩
 have t0:∀i,i<wr.heap.size->T7 i=T' i:=fun i hi=>by rw[MT];dsimp only;rw[AQ hi]
 have t1:∀i,wr.heap.size<=i->i<w5.heap.size->T7 i=13+3*(F.length+1):=fun i hi h5=>by rw[MT];dsimp only;rw[AO (by omega),AQ h5]
 have t2:∀i,w5.heap.size<=i->i<w6.heap.size->T7 i=13+3*(j+1):=fun i hi h6=>by rw[MT];dsimp only;rw[AO (by omega),AO (by omega),AQ h6]
 have t3:∀i,w6.heap.size<=i->T7 i=13:=fun i hi=>by rw[MT];dsimp only;rw[AO (by omega),AO (by omega),AO (by omega)]
 clear MT;have sT:=h.gr.size;refine⟨T7,?_,fun i hi=>by rw[t0 i (by omega)];exact h.old i hi,⟨iy,fun i hi=>?_⟩,fun i y hy=>?_,⟨?_,fun i hi=>?_⟩,?_,fun i hi=>?_,fun i hi=>?_⟩
 ·refine GrS.grown (S:=fun i=>w.heap.size<=i) ?_ (fun i hi h=>by omega)
  refine((GrS.of h.gr (by simp):GrS (fun i=>w.heap.size<=i) w wr).comp cP (fun i hi hn hx=>hn (h.ao i hx))).comp jX (fun i hi hn hx=>hn (h.lo i hx))
 ·rcases bb.own i hi with e|e
  ·rw[t0 i (ky i e).1];exact(ky i e).2
  ·exact t3 i (by omega)
 ·by_cases hi:i<xs.length
  ·rw[CN hi] at hy
   obtain⟨k1,k2⟩:=h.els i y hy;refine⟨(k1.keep2 (T':=T7) cP (fun b hb e=>?_) (fun b hb e=>by rw[t0 b hb];exact e)).keep2 (T':=T7) jX (fun b hb e=>?_) (fun _ _ e=>e),k2⟩
   ·have:=(ui b e).2;omega
   ·have h1:=ky b e
    rw[t0 b h1.1] at hb;omega
  ·have l9:i=xs.length:=by have:=(AL.1 hy).1;simp at this;omega
   subst l9;simp only[IB,AE] at hy;subst hy;refine⟨⟨?_,fun b hb=>?_⟩,by show g.f.vals.length<=_;omega⟩
   ·have WL:GrS (fun i=>l.ownBlock=some i) w6 w7:=(GrS.of wh (by simp):GrS (fun i=>l.ownBlock=some i) w6 SC).trans (bb.gr (fun g hg=>hg))
    exact(WL.row hv2 (fun b hb e=>by have:=(hv2.own b hb).1;have:=(ky b e).1;omega)).weak (AG _)
   ·have:=hv2.own b hb
    rw[t2 b this.1 this.2,iF]
 ·have e:(F.take (j+1)).map (fun g=>g.id)=(F.take j).map (fun g=>g.id)++[g.id]:=by rw[CY,hg,CA];rfl
  rw[e];refine jX.row b7 (fun b hb e=>?_);have h1:=ky b e;rcases aR.own b hb with e2|e2
  ·have:=(ui b e2).2;omega
  ·omega
 ·rcases aR.own i hi with e|e
  ·rw[t0 i (ui i e).1];exact(ui i e).2
  ·exact t1 i (by omega) (b7.own i hi).2
 ·rw[CA,h.same,CY,hg,CA];rfl
 ·rcases aR.own i hi with e|e
  ·exact h.ao i e
  ·omega
 ·rcases bb.own i hi with e|e
  ·exact h.lo i e
  ·omega
theorem Zv(T U:Nat->Nat)(x nb:Nat)(fv:Value)(F:List Ft)(cnt:Int)(a8:List Ch)(w:World)(h:XAt U x nb fv F cnt a8 w)(hF:F.length<=16) :
  Calls Tryz.prog 24 #[.pointer (some ⟨x,0,none⟩)] w fun e w'=>∃T' a l xs,e=.returned (.tuple #[a,l])/\FactsI T T' F a l xs F.length w w':=by
 obtain⟨fo,xX,fu⟩:=h.facts.1.slice;have c1:w.cell? ⟨x,1,none⟩=some (.slice fo F.length xX):=by simp[World.cell?,h.blk,fu]
 have vJ:∃T' xs,FactsI T T' F (.slice none 0 0) (.slice none 0 0) xs 0 w w:=⟨T,[],AD _ _,fun _ _=>rfl,⟨RowAt.nil 0 _ C5,by simp[Value.ownBlock]⟩,by simp,⟨by simpa using RowAt.nil 0 w At,by simp[Value.ownBlock]⟩,rfl,by simp[Value.ownBlock],by simp[Value.ownBlock]⟩
 have ry:=Ac vJ;have SA:=Ac fu;have H:=Ac h;clear h vJ fu;go_enter Tryz.func24,Tryz.ntmps24;go_wp2;clear c1;go_loopw [4,5,13] (fun a l z w'=>∃j:Nat,j<=F.length/\z=.int .i64 j/\Hid (∃T' xs,FactsI T T' F a l xs j w w')) (fun _ _ z _=>F.length-(intOf z).toNat)
 case atStart=>exact⟨0,AG _,rfl,ry⟩
 case round=>
  clear ry;obtain⟨j,hj,rfl,HK⟩:=hrel;by_cases hlt:j<F.length
  ·have hd:decide (j<F.length)=true:=by simpa using hlt
   obtain⟨T',xs,hI⟩:=Aa HK;clear HK;obtain⟨g,hg⟩:∃g,F[j]?=some g:=⟨_,AB hlt⟩
   have iF:=hI.len hj;have hh:=Aa H;obtain⟨gf,cap',e1,q0⟩:=FsAt.cell (hh.facts.1.gr hI.gr) hg;rw[Aa SA] at e1;simp only[AH,BP] at e1;obtain⟨rfl,rfl⟩:=e1;have dG:=hh.fts g (AV hg);obtain⟨_,h4,v,hb,ZE⟩:=dG.gr hI.gr;obtain⟨va,pW,et⟩:=ZE.1.slice;subst et;have k2:wr.cell? ⟨g.blk,2,none⟩=some (.int .i64 g.id):=by simp[World.cell?,hb]
   obtain⟨ia,sO,yG⟩:=hI.ids.1.slice;have eW:((F.take j).map (fun g=>g.id)).length=j:=by rw[BA,BL,CC hj]
   rw[eW] at yG;subst yG;obtain⟨la,yo,gM⟩:=hI.row.1.slice;rw[iF] at gM;subst gM;have ak:=AA wr (.cells #[.int .i64 g.id] 3) none;have yC:=hI.ids.1.gr ak;have hs5:RowAt 3 1 C4 0 (.slice (some ⟨wr.heap.size,0,none⟩) 1 1) [g.id] (wr.alloc (.cells #[.int .i64 g.id] 3)):=(RowAt.lit1 (e:=3) At wr g.id #[.int .i64 g.id] rfl).weak (AG _)
   have uP:∀v5 w5 n m,Longer (.slice ia j sO) v5 n m (wr.alloc (.cells #[.int .i64 g.id] 3)) w5->(w5.cell? ⟨g.blk,0,none⟩=some (.int .i64 g.f.kind)/\w5.cell? ⟨g.blk,1,none⟩=some (.slice va g.f.vals.length pW))/\
     Calls Tryz.prog 40 #[.agg #[.int .i64 g.f.kind,.slice va g.f.vals.length pW]] w5 fun e w6=>∃ao cap,e=.returned (.agg #[.int .i64 g.f.kind,.slice ao g.f.vals.length cap])/\w5.grownBy w6 none/\IsAt w5.heap.size (.slice ao g.f.vals.length cap) g.f.vals w6/\RowAt 37 2 ftenc 0 (.slice la j yo) xs w6:=by
    intro v5 w5 n m aR;have cP:GrS (fun i=>(Value.slice ia j sO).ownBlock=some i) wr w5:=(GrS.of ak (by simp):GrS (fun i=>(Value.slice ia j sO).ownBlock=some i) wr _).trans (aR.gr (fun g hg=>hg));have ai:w.grownBy w5 none:=GrS.grown (S:=fun i=>w.heap.size<=i) ((GrS.of hI.gr (by simp):GrS (fun i=>w.heap.size<=i) w wr).comp cP (fun i hi hn hx=>hn (hI.ao i hx))) (fun i hi h=>by omega);obtain⟨_,_,v',hb',SR⟩:=dG.gr ai
    have hb2:w5.heap[g.blk]?=some (.cells #[.int .i64 g.f.kind,.slice va g.f.vals.length pW,.int .i64 g.id] 93 (0,0)):=by
     refine cP.blk hb (fun e=>?_);have h1:=hI.ao _ e;have h2:=Af (w:=w) dG.2.2.choose_spec.1;omega
    have et:v'=.slice va g.f.vals.length pW:=by
     rw[hb2] at hb';simp only[AE,KF,BX] at hb';have:=BJ (fun a:Array Value=>a[1]?) hb';simpa using this.symm
    subst et;refine⟨⟨by simp[World.cell?,hb2],by simp[World.cell?,hb2]⟩,?_⟩;refine(Rf g.f va pW w5 SR.1.inAt h4).mono ?_;rintro e w6⟨ao,cap,rfl,dE,hv2⟩;refine⟨ao,cap,rfl,dE,hv2,(cP.row hI.row.1 (fun b hb e=>?_)).gr dE⟩;have h1:=hI.ids.2 b e;have h2:=hI.row.2 b hb;omega
   have hend:∀v5 w5 w6 ao cap v7 w7 n m n' m',RowAt 3 1 C4 0 v5 ((F.take j).map (fun g=>g.id)++[g.id]) w5->Longer (.slice ia j sO) v5 n m (wr.alloc (.cells #[.int .i64 g.id] 3)) w5->w5.grownBy w6 none->IsAt w5.heap.size (.slice ao g.f.vals.length cap) g.f.vals w6->RowAt 37 2 ftenc 0 v7 (xs++[⟨g.f.kind,.slice ao g.f.vals.length cap,g.f.vals⟩]) w7->Longer (.slice la j yo) v7 n' m' (w6.alloc (.cells #[.int .i64 g.f.kind,.slice ao g.f.vals.length cap] 37)) w7->∃T' xs,FactsI T T' F v5 v7 xs (j+1) w w7:=by
    intro v5 w5 w6 ao cap v7 w7 n m n' m' e1 e2 e3 e4 e5 e6;obtain⟨T7,h7⟩:=X2 hI hg h4 ak e2 e1 e3 e4 (AA w6 _ none) e6 e5;exact⟨T7,_,h7⟩
   have vU:=Ac uP;have bH:=Ac hend;have yV:=Ac iF;have PB:=Ac eW;clear uP hend hI hh dG hb ZE iF eW ak
   go_wp2_with (at_builtin;refine Ca rfl _ _ 35 rfl Tryz.underlying35 Tryz.infoInt rfl (by decide) rfl yC rfl hs5 (by simp) (fun y _=>B6 y) (by rw[Aa PB];unfold maxLen;simp;omega) (by rw[Aa PB];simp;omega) ?_)
   intro v5 w5 b7 aR;obtain⟨⟨y0,y1⟩,hC⟩:=Aa vU v5 w5 _ _ aR;obtain⟨g5,aI,hv⟩:=aR.form;subst hv;rw[<-List.map_take] at b7;have RS:=Ac b7;have OX:=Ac aR;clear yC hs5 vU b7 aR
   go_wp2_with (first
    | (go_at_call 40;refine hC.mono ?_;rintro e w6⟨br,aC,rfl,dE,hv2,jP⟩;have zU:=jP.gr (AA w6 (.cells #[.int .i64 g.f.kind,.slice br g.f.vals.length aC] 37) none);have TF:RowAt 37 2 ftenc 0 (.slice (some ⟨w6.heap.size,0,none⟩) 1 1) [(⟨g.f.kind,.slice br g.f.vals.length aC,g.f.vals⟩:VFt)] (w6.alloc (.cells #[.int .i64 g.f.kind,.slice br g.f.vals.length aC] 37)):=((RowAt.lit1 (e:=37) C5 w6 (⟨g.f.kind,.slice br g.f.vals.length aC,g.f.vals⟩:VFt) #[.int .i64 g.f.kind,.slice br g.f.vals.length aC] rfl).weak (AG _)))
    | (at_builtin;refine Ca rfl _ _ 47 rfl Tryz.underlying47 Tryz.infoFact rfl (by decide) rfl zU rfl TF (by simp) (fun y hy=>by simp only[AX] at hy;subst hy;intro c hc;simp[ftenc] at hc;rcases hc with rfl|rfl<;>rfl) (by rw[Aa yV];unfold maxLen;simp;omega) (by rw[Aa yV];simp;omega) ?_))
   intro v7 w7 iy bb;have HN:=Ac (Aa bH _ _ _ _ _ _ _ _ _ _ _ (Aa RS) (Aa OX) dE hv2 iy bb);obtain⟨g7,b6,rfl⟩:=bb.form;clear RS OX dE hv2 iy bb zU TF jP bH hC y0 y1 q0 k2;go_wp2;go_roundw
   case rel=>exact⟨j+1,by omega,by go_num,HN⟩
   case measure=>simp[intOf];omega
  ·have hd:decide (j<F.length)=false:=by simpa using hlt
   obtain⟨T',xs,hI⟩:=Aa HK;have hjn:j=F.length:=by omega
   subst hjn;have HI:=Ac hI;clear HK hI;go_wp2
   go_ret2
   exact⟨T',_,_,xs,rfl,Aa HI⟩
end Go.Proofs.YtolhbeekfjnfmaaGreatDoor

import Derived.Test.YtolhbeekfjnfmaaGreatDoorM24
set_option maxHeartbeats 8000000
set_option maxRecDepth 100000
namespace Go.Proofs.YtolhbeekfjnfmaaGreatDoor
open Go.RowKit
abbrev KD:=@Obj.cells.injEq
variable {T T':Nat->Nat}{F:List Ft}{a l:Value}{j:Nat}{w:World}
structure FactsI(T T':Nat->Nat)(F:List Ft)(a l:Value)(xs:List VFt)(j:Nat)(w w':World):Prop where
 gr:w.grownBy w' none
 old:∀i,i<w.heap.size->T' i=T i
 row:TRow T' 13 37 2 ftenc l xs w'
 els:∀i y,xs[i]?=some y->TRow T' (13+3*(i+1)) 3 1 C1 y.v y.vals w'/\y.vals.length<=1000000
 ids:TRow T' (13+3*(F.length+1)) 3 1 C1 a ((F.take j).map (fun g=>g.id)) w'
 same:xs.map (fun y=>(⟨y.kind,y.vals⟩:Sv.Fact))=(F.take j).map (fun g=>g.f)
 ao:∀g,a.ownBlock=some g->w.heap.size<=g
 lo:∀g,l.ownBlock=some g->w.heap.size<=g
theorem FactsI.len{xs:List VFt}{w':World}(h:FactsI T T' F a l xs j w w')(hj:j<=F.length):xs.length=j:=by
 have:=BJ List.length h.same;rw[BA,BA,BL,CB hj] at this;exact this
theorem Vz{v5 v2 v7:Value}{xs:List VFt}{n m n' m':Nat}{g:Ft}{wr w4 w5 w6 RD w7:World}(h:FactsI T T' F a l xs j w wr)(hg:F[j]?=some g)(h4:g.f.vals.length<=4)
 (hg4:wr.grownBy w4 none)(aP:Longer a v5 n m w4 w5)(ax:RowAt 3 1 C1 0 v5 ((F.take j).map (fun g=>g.id)++[g.id]) w5)(cX:w5.grownBy w6 none)(hv2:IsAt w5.heap.size v2 g.f.vals w6)(ve:w6.grownBy RD none)(bV:Longer l v7 n' m' RD w7)(iH:RowAt 37 2 ftenc 0 v7 (xs++[⟨g.f.kind,v2,g.f.vals⟩]) w7) :
  ∃T7,FactsI T T7 F v5 v7 (xs++[⟨g.f.kind,v2,g.f.vals⟩]) (j+1) w w7:=by
 have hj:j<F.length:=(AL.1 hg).1;have gO:=h.len (EK hj);have nB:=hg4.size;have cC:GrS (fun i=>a.ownBlock=some i) wr w5:=(GrS.of hg4 (by simp):GrS (fun i=>a.ownBlock=some i) wr w4).trans (aP.gr (fun g hg=>hg));have hs5:=cC.size;have PA:=cX.size;have hs6b:=ve.size;have ix:GrS (fun i=>l.ownBlock=some i) w5 w7:=((GrS.of cX (by simp):GrS (fun i=>l.ownBlock=some i) w5 w6).then ve (by simp)).trans (bV.gr (fun g hg=>hg));have uC:∀i,a.ownBlock=some i->i<wr.heap.size/\T' i=13+3*(F.length+1):=fun i hi=>⟨(h.ids.1.own i hi).2,h.ids.2 i hi⟩
 have kH:∀i,l.ownBlock=some i->i<wr.heap.size/\T' i=13:=fun i hi=>⟨(h.row.1.own i hi).2,h.row.2 i hi⟩
 obtain⟨T7,LX⟩:∃T7:Nat->Nat,T7=fun i=>if i<wr.heap.size then T' i else if i<w5.heap.size then 13+3*(F.length+1) else if i<w6.heap.size then 13+3*(j+1) else 13:=⟨_,rfl⟩
 have t0:∀i,i<wr.heap.size->T7 i=T' i:=fun i hi=>by rw[LX];dsimp only;rw[AQ hi]
 have t1:∀i,wr.heap.size<=i->i<w5.heap.size->T7 i=13+3*(F.length+1):=fun i hi h5=>by rw[LX];dsimp only;rw[AO (by omega),AQ h5]
 have t2:∀i,w5.heap.size<=i->i<w6.heap.size->T7 i=13+3*(j+1):=fun i hi h6=>by rw[LX];dsimp only;rw[AO (by omega),AO (by omega),AQ h6]
 have t3:∀i,w6.heap.size<=i->T7 i=13:=fun i hi=>by rw[LX];dsimp only;rw[AO (by omega),AO (by omega),AO (by omega)]
 clear LX;have rZ:=h.gr.size;refine⟨T7,?_,fun i hi=>by rw[t0 i (by omega)];exact h.old i hi,⟨iH,fun i hi=>?_⟩,fun i y hy=>?_,⟨?_,fun i hi=>?_⟩,?_,fun i hi=>?_,fun i hi=>?_⟩
 ·refine GrS.grown (S:=fun i=>w.heap.size<=i) ?_ (fun i hi h=>by omega)
  refine((GrS.of h.gr (by simp):GrS (fun i=>w.heap.size<=i) w wr).comp cC (fun i hi hn hx=>hn (h.ao i hx))).comp ix (fun i hi hn hx=>hn (h.lo i hx))
 ·rcases bV.own i hi with e|e
  ·rw[t0 i (kH i e).1];exact(kH i e).2
  ·exact t3 i (by omega)
 ·by_cases hi:i<xs.length
  ·rw[CL hi] at hy
   obtain⟨k1,k2⟩:=h.els i y hy;refine⟨(k1.keep2 (T':=T7) cC (fun b hb e=>?_) (fun b hb e=>by rw[t0 b hb];exact e)).keep2 (T':=T7) ix (fun b hb e=>?_) (fun _ _ e=>e),k2⟩
   ·have:=(uC b e).2;omega
   ·have h1:=kH b e
    rw[t0 b h1.1] at hb;omega
  ·have kL:i=xs.length:=by have:=(AL.1 hy).1;simp at this;omega
   subst kL;simp only[IA,AE] at hy;subst hy;refine⟨⟨?_,fun b hb=>?_⟩,by show g.f.vals.length<=_;omega⟩
   ·have VQ:GrS (fun i=>l.ownBlock=some i) w6 w7:=(GrS.of ve (by simp):GrS (fun i=>l.ownBlock=some i) w6 RD).trans (bV.gr (fun g hg=>hg))
    exact(VQ.row hv2 (fun b hb e=>by have:=(hv2.own b hb).1;have:=(kH b e).1;omega)).weak (AG _)
   ·have:=hv2.own b hb
    rw[t2 b this.1 this.2,gO]
 ·have e:(F.take (j+1)).map (fun g=>g.id)=(F.take j).map (fun g=>g.id)++[g.id]:=by rw[CZ,hg,CG];rfl
  rw[e];refine ix.row ax (fun b hb e=>?_);have h1:=kH b e;rcases aP.own b hb with e2|e2
  ·have:=(uC b e2).2;omega
  ·omega
 ·rcases aP.own i hi with e|e
  ·rw[t0 i (uC i e).1];exact(uC i e).2
  ·exact t1 i (by omega) (ax.own i hi).2
 ·rw[CG,h.same,CZ,hg,CG];rfl
 ·rcases aP.own i hi with e|e
  ·exact h.ao i e
  ·omega
 ·rcases bV.own i hi with e|e
  ·exact h.lo i e
  ·omega
theorem Q0q(T U:Nat->Nat)(x nb:Nat)(fv:Value)(F:List Ft)(cnt:Int)(a8:List Ch)(w:World)(h:XAt U x nb fv F cnt a8 w)(hF:F.length<=16) :
  Calls Tryz.prog 24 #[.pointer (some ⟨x,0,none⟩)] w fun e w'=>∃T' a l xs,e=.returned (.tuple #[a,l])/\FactsI T T' F a l xs F.length w w':=by
 obtain⟨fo,wk,fK⟩:=h.facts.1.slice;have c1:w.cell? ⟨x,1,none⟩=some (.slice fo F.length wk):=by simp[World.cell?,h.blk,fK]
 have uO:∃T' xs,FactsI T T' F (.slice none 0 0) (.slice none 0 0) xs 0 w w:=⟨T,[],AD _ _,fun _ _=>rfl,⟨RowAt.nil 0 _ Cz,by simp[Value.ownBlock]⟩,by simp,⟨by simpa using RowAt.nil 0 w At,by simp[Value.ownBlock]⟩,rfl,by simp[Value.ownBlock],by simp[Value.ownBlock]⟩
 have r8:=Ac uO;have RA:=Ac fK;have H:=Ac h;clear h uO fK;go_enter Tryz.func24,Tryz.ntmps24;go_wp2;clear c1;go_loopw [4,5,13] (fun a l z w'=>∃j:Nat,j<=F.length/\z=.int .i64 j/\Hid (∃T' xs,FactsI T T' F a l xs j w w')) (fun _ _ z _=>F.length-(intOf z).toNat)
 case atStart=>exact⟨0,AG _,rfl,r8⟩
 case round=>
  clear r8;obtain⟨j,hj,rfl,HK⟩:=hrel;by_cases hlt:j<F.length
  ·have hd:decide (j<F.length)=true:=by simpa using hlt
   obtain⟨T',xs,hI⟩:=Aa HK;clear HK;obtain⟨g,hg⟩:∃g,F[j]?=some g:=⟨_,AB hlt⟩
   have gO:=hI.len hj;have hh:=Aa H;obtain⟨gf,cap',e1,q0⟩:=FsAt.cell (hh.facts.1.gr hI.gr) hg;rw[Aa RA] at e1;simp only[AH,BP] at e1;obtain⟨rfl,rfl⟩:=e1;have cZ:=hh.fts g (AV hg);obtain⟨_,h4,v,hb,YP⟩:=cZ.gr hI.gr;obtain⟨va,ot,eQ⟩:=YP.1.slice;subst eQ;have k2:wr.cell? ⟨g.blk,2,none⟩=some (.int .i64 g.id):=by simp[World.cell?,hb]
   obtain⟨ia,rT,xZ⟩:=hI.ids.1.slice;have eE:((F.take j).map (fun g=>g.id)).length=j:=by rw[BA,BL,CB hj]
   rw[eE] at xZ;subst xZ;obtain⟨la,yH,fU⟩:=hI.row.1.slice;rw[gO] at fU;subst fU;have aj:=AA wr (.cells #[.int .i64 g.id] 3) none;have xV:=hI.ids.1.gr aj;have hs5:RowAt 3 1 C1 0 (.slice (some ⟨wr.heap.size,0,none⟩) 1 1) [g.id] (wr.alloc (.cells #[.int .i64 g.id] 3)):=(RowAt.lit1 (e:=3) At wr g.id #[.int .i64 g.id] rfl).weak (AG _)
   have tQ:∀v5 w5 n m,Longer (.slice ia j rT) v5 n m (wr.alloc (.cells #[.int .i64 g.id] 3)) w5->(w5.cell? ⟨g.blk,0,none⟩=some (.int .i64 g.f.kind)/\w5.cell? ⟨g.blk,1,none⟩=some (.slice va g.f.vals.length ot))/\
     Calls Tryz.prog 40 #[.agg #[.int .i64 g.f.kind,.slice va g.f.vals.length ot]] w5 fun e w6=>∃ao cap,e=.returned (.agg #[.int .i64 g.f.kind,.slice ao g.f.vals.length cap])/\w5.grownBy w6 none/\IsAt w5.heap.size (.slice ao g.f.vals.length cap) g.f.vals w6/\RowAt 37 2 ftenc 0 (.slice la j yH) xs w6:=by
    intro v5 w5 n m aP;have cC:GrS (fun i=>(Value.slice ia j rT).ownBlock=some i) wr w5:=(GrS.of aj (by simp):GrS (fun i=>(Value.slice ia j rT).ownBlock=some i) wr _).trans (aP.gr (fun g hg=>hg));have ah:w.grownBy w5 none:=GrS.grown (S:=fun i=>w.heap.size<=i) ((GrS.of hI.gr (by simp):GrS (fun i=>w.heap.size<=i) w wr).comp cC (fun i hi hn hx=>hn (hI.ao i hx))) (fun i hi h=>by omega);obtain⟨_,_,v',hb',RS⟩:=cZ.gr ah
    have hb2:w5.heap[g.blk]?=some (.cells #[.int .i64 g.f.kind,.slice va g.f.vals.length ot,.int .i64 g.id] 93 (0,0)):=by
     refine cC.blk hb (fun e=>?_);have h1:=hI.ao _ e;have h2:=Ad (w:=w) cZ.2.2.choose_spec.1;omega
    have eQ:v'=.slice va g.f.vals.length ot:=by
     rw[hb2] at hb';simp only[AE,KD,BX] at hb';have:=BJ (fun a:Array Value=>a[1]?) hb';simpa using this.symm
    subst eQ;refine⟨⟨by simp[World.cell?,hb2],by simp[World.cell?,hb2]⟩,?_⟩;refine(Rk g.f va ot w5 RS.1.inAt h4).mono ?_;rintro e w6⟨ao,cap,rfl,cX,hv2⟩;refine⟨ao,cap,rfl,cX,hv2,(cC.row hI.row.1 (fun b hb e=>?_)).gr cX⟩;have h1:=hI.ids.2 b e;have h2:=hI.row.2 b hb;omega
   have hend:∀v5 w5 w6 ao cap v7 w7 n m n' m',RowAt 3 1 C1 0 v5 ((F.take j).map (fun g=>g.id)++[g.id]) w5->Longer (.slice ia j rT) v5 n m (wr.alloc (.cells #[.int .i64 g.id] 3)) w5->w5.grownBy w6 none->IsAt w5.heap.size (.slice ao g.f.vals.length cap) g.f.vals w6->RowAt 37 2 ftenc 0 v7 (xs++[⟨g.f.kind,.slice ao g.f.vals.length cap,g.f.vals⟩]) w7->Longer (.slice la j yH) v7 n' m' (w6.alloc (.cells #[.int .i64 g.f.kind,.slice ao g.f.vals.length cap] 37)) w7->∃T' xs,FactsI T T' F v5 v7 xs (j+1) w w7:=by
    intro v5 w5 w6 ao cap v7 w7 n m n' m' e1 e2 e3 e4 e5 e6;obtain⟨T7,h7⟩:=Vz hI hg h4 aj e2 e1 e3 e4 (AA w6 _ none) e6 e5;exact⟨T7,_,h7⟩
   have uZ:=Ac tQ;have bD:=Ac hend;have xt:=Ac gO;have NZ:=Ac eE;clear tQ hend hI hh cZ hb YP gO eE aj
   go_wp2_with (at_builtin;refine Cb rfl _ _ 35 rfl Tryz.underlying35 Tryz.infoInt rfl (by decide) rfl xV rfl hs5 (by simp) (fun y _=>B7 y) (by rw[Aa NZ];unfold maxLen;simp;omega) (by rw[Aa NZ];simp;omega) ?_)
   intro v5 w5 ax aP;obtain⟨⟨y0,y1⟩,hC⟩:=Aa uZ v5 w5 _ _ aP;obtain⟨g5,aI,hv⟩:=aP.form;subst hv;rw[<-List.map_take] at ax;have QT:=Ac ax;have NV:=Ac aP;clear xV hs5 uZ ax aP
   go_wp2_with (first
    | (go_at_call 40;refine hC.mono ?_;rintro e w6⟨bf,aC,rfl,cX,hv2,ig⟩;have yq:=ig.gr (AA w6 (.cells #[.int .i64 g.f.kind,.slice bf g.f.vals.length aC] 37) none);have SE:RowAt 37 2 ftenc 0 (.slice (some ⟨w6.heap.size,0,none⟩) 1 1) [(⟨g.f.kind,.slice bf g.f.vals.length aC,g.f.vals⟩:VFt)] (w6.alloc (.cells #[.int .i64 g.f.kind,.slice bf g.f.vals.length aC] 37)):=((RowAt.lit1 (e:=37) Cz w6 (⟨g.f.kind,.slice bf g.f.vals.length aC,g.f.vals⟩:VFt) #[.int .i64 g.f.kind,.slice bf g.f.vals.length aC] rfl).weak (AG _)))
    | (at_builtin;refine Cb rfl _ _ 47 rfl Tryz.underlying47 Tryz.infoFact rfl (by decide) rfl yq rfl SE (by simp) (fun y hy=>by simp only[AX] at hy;subst hy;intro c hc;simp[ftenc] at hc;rcases hc with rfl|rfl<;>rfl) (by rw[Aa xt];unfold maxLen;simp;omega) (by rw[Aa xt];simp;omega) ?_))
   intro v7 w7 iH bV;have HN:=Ac (Aa bD _ _ _ _ _ _ _ _ _ _ _ (Aa QT) (Aa NV) cX hv2 iH bV);obtain⟨g7,aw,rfl⟩:=bV.form;clear QT NV cX hv2 iH bV yq SE ig bD hC y0 y1 q0 k2;go_wp2;go_roundw
   case rel=>exact⟨j+1,by omega,by go_num,HN⟩
   case measure=>simp[intOf];omega
  ·have hd:decide (j<F.length)=false:=by simpa using hlt
   obtain⟨T',xs,hI⟩:=Aa HK;have hjn:j=F.length:=by omega
   subst hjn;have HI:=Ac hI;clear HK hI;go_wp2
   go_ret2
   exact⟨T',_,_,xs,rfl,Aa HI⟩
end Go.Proofs.YtolhbeekfjnfmaaGreatDoor

import Derived.Test.YtolhbeekfjnfmaaGreatDoorMA
import Derived.Test.YtolhbeekfjnfmaaGreatDoorM32
import Derived.Test.YtolhbeekfjnfmaaGreatDoorM21
set_option maxHeartbeats 8000000
set_option maxRecDepth 100000
namespace Go.Proofs.YtolhbeekfjnfmaaGreatDoor
open Go.RowKit
attribute [local go_sem] JA
variable {A B W wr w1:World}{U:Nat->Nat}{L Z Zi Zc:Nat->Prop}{qs:List Sq}{q:Sq}{m n0 xw j:Nat}{s s0:List Mv}{J:(Nat->Prop)->List Mv->World->Prop}{Ds:List Nat}
structure Sq where
 bt:Nat
 bl:Nat
 g:Nat
 lb:Nat
 ru:Nat
 jn:Nat
 l:List Tok
def Sq.val(q:Sq):Value:=.func (.func 116) #[] #[.pointer (some ⟨q.bt,0,none⟩),.pointer (some ⟨q.bl,0,none⟩)]
def Ol(q:Sq):List Value:=[q.val]
theorem Om(q:Sq):(Ol q).length=1:=rfl
theorem Xt(q:Sq):∀c∈Ol q,c.oneCell'=true:=by intro c hc;simp[Ol] at hc;subst hc;rfl
theorem Tryz.infoSeq:(Tryz.prog.info? 64).map (fun i=>(i.zero,i.size,i.bytes))=some (some .nilFunc,1,8):=by kernel_rfl
theorem Kept.of_grs{S:Nat->Prop}(h:GrS S A B):Kept (fun i=>¬ S i) (fun i=>¬ S i) A B:=
 ⟨h.size,fun _ _ _ _ hz hi=>h.blk hi hz,fun _ _ _ hl _ hc=>h.cellK hc (CE A _ hc) hl⟩
structure AllI(U:Nat->Nat)(L:Nat->Prop)(a8:List Ch)(av:Value)(qs:List Sq)(W wr:World):Prop where
 gr:W.grownBy wr none
 row:RowAt 64 1 Ol 0 av qs wr
 new:∀(b:Nat),av.ownBlock=some b->W.heap.size<=b
 now:∀(i:Nat) (q:Sq) (c:Ch),qs[i]?=some q->a8[i]?=some c->q.ru=i/\q.jn=c.jn/\q.l.Perm c.e.toks/\q.l.Pairwise (fun a b=>cmpL a.nums b.nums<=0)/\L q.lb
 lie:∀q∈qs,NowAt U q.bt q.bl q.g q.lb q.ru q.jn q.l wr/\(W.heap.size<=q.bt/\q.bt<wr.heap.size)/\(W.heap.size<=q.bl/\q.bl<wr.heap.size)/\(W.heap.size<=q.g/\(q.l≠[]->q.g<wr.heap.size))/\q.lb<W.heap.size
 apart:∀q∈qs,∀(b:Nat),av.ownBlock=some b->b≠q.bt/\b≠q.bl/\(q.l≠[]->b≠q.g)
theorem Q2o{a8:List Ch}{av v':Value}{c:Ch}{n:Nat}{w2 w3:World}(h:AllI U L a8 av qs W wr)(hc:a8[qs.length]?=some c)(hg1:wr.grownBy w1 none)
 (hq:q.ru=qs.length/\q.jn=c.jn/\q.l.Perm c.e.toks/\q.l.Pairwise (fun a b=>cmpL a.nums b.nums<=0)/\L q.lb)(hN:NowAt U q.bt q.bl q.g q.lb q.ru q.jn q.l w1)(uf:wr.heap.size<=q.bt)(hbl:wr.heap.size<=q.bl)(aw:wr.heap.size<=q.g)(nI:q.lb<W.heap.size)
 (hg2:w1.grownBy w2 none)(hl:Longer av v' n m w2 w3)(hr:RowAt 64 1 Ol 0 v' (qs++[q]) w3)(pS:∀i,U i≠0->i<W.heap.size):AllI U L a8 v' (qs++[q]) W w3:=by
 have hs0:=h.gr.size;have hs1:=hg1.size;have hs2:=hg2.size;have hG:GrS (fun i=>av.ownBlock=some i) w2 w3:=hl.gr (fun b hb=>hb);have hs3:=hG.size;have lK:∀b,av.ownBlock=some b->W.heap.size<=b/\b<wr.heap.size:=fun b hb=>⟨h.new b hb,(h.row.own b hb).2⟩
 have hown:∀b,v'.ownBlock=some b->av.ownBlock=some b\/w2.heap.size<=b:=hl.own;have hbt1:q.bt<w1.heap.size:=by obtain⟨p,cap,k,_⟩:=hN.toks;exact Af k
 have hbl1:q.bl<w1.heap.size:=Af hN.last
 have eb:q.l≠[]->q.g<w1.heap.size:=fun hne=>by
  obtain⟨t,l',e⟩:=List.exists_cons_of_ne_nil hne;have h0:=hN.cells 0 t (by rw[e];rfl) 0 (by omega);have hs:∃v,(A6 t)[0]?=some v:=⟨_,AB (by rw[Br];omega)⟩
  obtain⟨v,hv⟩:=hs;rw[hv] at h0;exact CE w1 _ h0
 have KZ:∀q2:Sq,NowAt U q2.bt q2.bl q2.g q2.lb q2.ru q2.jn q2.l w2->(∀b,av.ownBlock=some b->b≠q2.bt/\b≠q2.bl/\(q2.l≠[]->b≠q2.g))->q2.lb<W.heap.size->NowAt U q2.bt q2.bl q2.g q2.lb q2.ru q2.jn q2.l w3:=by
  intro q2 hn ha hl2;refine hn.keptI (Kept.of_grs hG) (fun i hi e=>?_) (fun e=>(ha _ e).1 rfl) (fun e=>(ha _ e).2.1 rfl) (fun hne e=>(ha _ e).2.2 hne rfl) (fun e=>?_)
  ·have:=pS i (by omega)
   have:=(lK i e).1;omega
  ·have:=(lK _ e).1
   omega
 refine⟨?_,hr,fun b hb=>?_,fun i q2 c2 hi hc2=>?_,fun q2 dQ=>?_,fun q2 dQ b hb=>?_⟩
 ·refine GrS.grown (S:=fun i=>W.heap.size<=i) ?_ (fun i hi h=>by omega)
  exact(GrS.of (Ab h.gr (Ab hg1 hg2)) (by simp):GrS (fun i=>W.heap.size<=i) W w2).comp hG (fun i hi hn hx=>hn (lK i hx).1)
 ·rcases hown b hb with e|e
  ·exact h.new b e
  ·omega
 ·by_cases hlt:i<qs.length
  ·rw[CN hlt] at hi
   exact h.now i q2 c2 hi hc2
  ·have l9:i=qs.length:=by have:=(AL.1 hi).1;simp at this;omega
   subst l9;simp only[IB,AE] at hi;subst hi;rw[hc] at hc2;simp only[AE] at hc2;subst hc2;exact hq
 ·rcases AY.1 dQ with dQ|dQ
  ·obtain⟨k1,k2,k3,k4,k5⟩:=h.lie q2 dQ
   refine⟨KZ q2 (k1.keptI (Z:=fun _=>True) (L:=fun _=>True) (Kept.gr (Ab hg1 hg2)) (fun _ _=>trivial) trivial trivial (fun _=>trivial) trivial) (h.apart q2 dQ) k5,⟨k2.1,by omega⟩,⟨k3.1,by omega⟩,⟨k4.1,fun hne=>by have:=k4.2 hne;omega⟩,k5⟩
  ·simp only[AX] at dQ
   subst dQ;refine⟨KZ q2 (hN.keptI (Z:=fun _=>True) (L:=fun _=>True) (Kept.gr hg2) (fun _ _=>trivial) trivial trivial (fun _=>trivial) trivial) (fun b hb=>?_) nI,⟨by omega,by omega⟩,⟨by omega,by omega⟩,⟨by omega,fun hne=>by have:=eb hne;omega⟩,nI⟩;have:=(lK b hb).2;exact⟨by omega,by omega,fun _=>by omega⟩
 ·rcases hown b hb with e|e
  ·rcases AY.1 dQ with dQ|dQ
   ·exact h.apart q2 dQ b e
   ·simp only[AX] at dQ
    subst dQ;have:=(lK b e).2;exact⟨by omega,by omega,fun _=>by omega⟩
  ·rcases AY.1 dQ with dQ|dQ
   ·obtain⟨k1,k2,k3,k4,k5⟩:=h.lie q2 dQ
    exact⟨by omega,by omega,fun hne=>by have:=k4.2 hne;omega⟩
   ·simp only[AX] at dQ
    subst dQ;exact⟨by omega,by omega,fun hne=>by have:=eb hne;omega⟩
theorem F8{F:Fence}{n:Nat}{P:Program}{fn:Func}{tmps:Array Value}{R:Ending->World->Prop}{v:Value}(hres:∀w,(results fn tmps).run P w=.ok v w):∀(Ds:List Nat) (w:World),Ds.Nodup->(∀D∈Ds,w.heap[D]?=some (.deferred (some [])))->R (.returned v) w->
  (∀(A:World) (D:Nat),D∈Ds->R (.returned v) A->A.heap[D]?=some (.deferred (some []))->R (.returned v) (A.putObj D (.deferred none)))->LeavesInM F n P fn tmps R (Ds.map (fun D=>{ target:=.collected D,args:=#[] })) .returning w
 | [],w,_,_,h,_=>⟨v,hres w,h⟩
 | D::Ds,w,hn,hD,h,hR=>by
  have hd:=hD D (BF ..);refine⟨by simp,.inl ⟨D,_,rfl,run_takeDeferred hd,?_⟩⟩;rw[JB] at hn;refine F8 hres Ds _ hn.2 (fun E hE=>?_) (hR w D (BF ..) h hd) (fun A E hE=>hR A E (BG _ hE));rw[EL (fun e=>hn.1 (by rw[<-e];exact hE))];exact hD E (BG _ hE)
theorem Kept.turn{row:Option Nat}(hg:A.grownBy B row)(hr:∀r,row=some r->∃o:Obj,A.heap[r]?=some o/\o.isCells=false):Kept Z L A B:=by
 have hne:∀(i:Nat) (cs:Array Value) (ty:TypeId) (fz:Nat×Nat),A.heap[i]?=some (Obj.cells cs ty fz)->some i≠row:=by
  intro i cs ty fz hi e;obtain⟨o,ho,hc⟩:=hr i e.symm;rw[hi] at ho;cases ho
  cases hc
 refine⟨hg.size,fun i cs ty fz _ hi=>?_,fun i k v _ _ hc=>?_⟩
 ·rw[hg.block i (Af hi) (hne i cs ty fz hi)];exact hi
 ·obtain⟨cs,ty,fz,hb⟩:=N6 hc
  rw[<-hc];exact EB (w:=A) (hg.block i (Af hb) (hne i cs ty fz hb))
theorem MvsOk.own(m n0:Nat):OwnFrom m (MvsOk n0):=fun _ _ _ _ h hg hr=>h.keptI (Z:=fun _=>True) (L:=fun _=>True) (Kept.turn hg (fun r e=>(hr r e).2)) (fun _ _ _ _=>trivial)
theorem MvsOk.app{n1:Nat}{t:List Mv}(h1:MvsOk n0 s A)(hk:MvsOk n0 s B)(h2:MvsOk n1 t B)(hn:A.heap.size<=n1)(h0:n0<=n1):MvsOk n0 (s++t) B:=by
 refine⟨fun x hx=>?_,FT.2 ⟨h1.apart,h2.apart,fun x hx y hy g b hg hb=>?_⟩⟩
 ·rcases AY.1 hx with hx|hx
  ·exact hk.rows x hx
  ·exact(h2.rows x hx).weak h0
 ·have e1:=((h1.rows x hx).own g hg).2
  have e2:=((h2.rows y hy).own b hb).1;omega
def AllS(qs:List Sq)(s:List Mv):Prop:=s.map (fun x=>(x.ru,x.jn,x.tok))=qs.flatMap (fun q=>q.l.map (fun t=>(q.ru,q.jn,t)))
def Q35(qs:List Sq)(s:List Mv):Prop:=s.map (fun x=>(x.ru,x.jn,x.tok)) <+: qs.flatMap (fun q=>q.l.map (fun t=>(q.ru,q.jn,t)))
structure AllSt(U:Nat->Nat)(nb bn n0 m0:Nat)(a8:List Ch)(W:World):Prop where
 net:NetAt U nb a8 W
 box:W.heap[bn]?=some (.cells #[.pointer (some ⟨nb,0,none⟩)] 84 (0,0))
 from0:n0<=W.heap.size
 from1:m0<=W.heap.size
def J1(a8:List Ch)(qs:List Sq):Prop:=qs.length=a8.length/\∀(i:Nat) (q:Sq) (c:Ch),qs[i]?=some q->a8[i]?=some c->q.ru=i/\q.jn=c.jn/\q.l.Perm c.e.toks/\q.l.Pairwise (fun a b=>cmpL a.nums b.nums<=0)
theorem ChainAt.lastAt{ru jn q b:Nat}{ns:List Nd}{e:En}{w:World}(h:ChainAt U ru jn q b ns e w):∃lb tv wv,w.cell? ⟨b,2,none⟩=some (.pointer (some ⟨lb,0,none⟩))/\LastAt U (q+ns.length) lb ru jn e tv wv w:=by
 obtain⟨nv,hd,hs',lb,m1,m2,m3,m4,m5,m6,m7⟩:=h.ex;obtain⟨b',tv,wv,k1,k2⟩:=m7.bkLast;obtain rfl:=m6.uniq k1;exact⟨lb,tv,wv,by simp[World.cell?,m1],k2⟩
structure All2(n0 xw:Nat)(L Zc:Nat->Prop)(J:(Nat->Prop)->List Mv->World->Prop)(qs:List Sq)(w1:World)(j:Nat)(s0:List Mv)(Ds:List Nat)(wr:World):Prop where
 map:s0.map (fun x=>(x.ru,x.jn,x.tok))=(qs.take j).flatMap (fun q=>q.l.map (fun t=>(q.ru,q.jn,t)))
 mv:MvsOk n0 s0 wr
 zs:∃Z:Nat->Prop,(∀i,Zc i->Z i)/\Fe Z s0/\J Z s0 wr
 kept:Kept Zc L w1 wr
 nodup:Ds.Nodup
 marks:∀D∈Ds,xw<=D/\wr.heap[D]?=some (.deferred (some []))
def InI(J:(Nat->Prop)->List Mv->World->Prop)(Z L:Nat->Prop)(Ds:List Nat)(s0:List Mv)(wr:World)(Zi:Nat->Prop)(s:List Mv)(W:World):Prop:=
 (∀i,Z i->Zi i)/\Kept Z L wr W/\(∀D∈Ds,W.heap[D]?=some (.deferred (some [])))/\J Zi (s0++s) W
theorem InI.bears(hJ:Bears m J)(hm:m<=wr.heap.size)(hD:∀D∈Ds,D<wr.heap.size):Bears wr.heap.size (InI J Z L Ds s0 wr):=by
 rintro Zi XE s A B row⟨h1,h2,h3,h4⟩ hg hr QF hz;refine⟨fun i hi=>QF i (h1 i hi),h2.trans (Kept.turn hg (fun r e=>(hr r e).2)),fun D hd=>?_,hJ Zi XE _ A B row h4 hg (fun r e=>⟨AU hm (hr r e).1,(hr r e).2⟩) QF hz⟩;rw[hg.block D (AZ (hD D hd) h2.size) (fun e=>by have:=(hr D e.symm).1;have:=hD D hd;omega)];exact h3 D hd
theorem InI.step{J':(Nat->Prop)->List Mv->World->Prop}{x:Mv}(h:InI J Z L Ds s0 wr Zi s W)(hm:m<=wr.heap.size)(hD:∀D∈Ds,m<=D)(hf:KeepsFrom m W B)(hk:Kept Zi L W B)(hj:J' Zi (s0++s++[x]) B) :
  KeepsFrom wr.heap.size W B/\Kept Zi L W B/\InI J' Z L Ds s0 wr Zi (s++[x]) B:=by
 obtain⟨h1,h2,h3,h4⟩:=h;refine⟨⟨hf.size,fun k o hk'=>hf.same k o (by omega)⟩,hk,h1,h2.trans (hk.mono h1),fun D hd=>hf.same D _ (hD D hd) (h3 D hd) rfl,?_⟩;rw[<-BQ];exact hj
theorem All2.next(h:All2 n0 xw L Zc J qs w1 j s0 Ds wr)(hz:∀i,Zc i->Z i)(hin:Fe Z s0)(hq:qs[j]?=some q)(hi:InI J Z L Ds s0 wr Zi s W)
 (hs:((s.map (fun x=>x.tok)=q.l/\∀x∈s,x.ru=q.ru/\x.jn=q.jn)/\MvsOk wr.heap.size s W)/\Fe Zi s)(hd:W.heap[wr.heap.size]?=some (.deferred (some [])))(h0:n0<=wr.heap.size)(h1:xw<=wr.heap.size) :
  All2 n0 xw L Zc J qs w1 (j+1) (s0++s) (wr.heap.size::Ds) W:=by
 obtain⟨i1,i2,i3,i4⟩:=hi;obtain⟨⟨⟨k1,k2⟩,k3⟩,k4⟩:=hs;refine⟨?_,h.mv.app (h.mv.keptI i2 hin) k3 (AW _) h0,⟨Zi,fun i hi=>i1 i (hz i hi),fun x hx g hg=>?_,i4⟩,h.kept.trans (i2.mono hz),JB.2 ⟨fun hm=>?_,h.nodup⟩,fun D hD=>?_⟩
 ·rw[CA,h.map,CY,hq,CG]
  congr 1
  simp only[Option.toList_some,BI,FH,BM];rw[<-k1,EA];exact List.map_congr_left (fun x hx=>by simp[(k2 x hx).1,(k2 x hx).2])
 ·rcases AY.1 hx with hx|hx
  ·exact i1 g (hin x hx g hg)
  ·exact k4 x hx g hg
 ·have:=Af (h.marks _ hm).2
  omega
 ·rcases CR.1 hD with rfl|hD
  ·exact⟨h1,hd⟩
  ·exact⟨(h.marks D hD).1,i3 D hD⟩
theorem All2.left{Jx:(Nat->Prop)->List Mv->World->Prop}(h:All2 n0 xw L Zc J qs w1 j s0 Ds wr)(hin:Fe Z s0)(hq:qs[j]?=some q)(hi:InI Jx Z L Ds s0 wr Zi s W)
 (hs:(((∃k,s.map (fun x=>x.tok)=q.l.take k)/\∀x∈s,x.ru=q.ru/\x.jn=q.jn)/\MvsOk wr.heap.size s W)/\Fe Zi s)(h0:n0<=wr.heap.size) :
  Q35 qs (s0++s)/\MvsOk n0 (s0++s) W/\Fe Zi (s0++s)/\Jx Zi (s0++s) W:=by
 obtain⟨i1,i2,i3,i4⟩:=hi;obtain⟨⟨⟨⟨k,k1⟩,k2⟩,k3⟩,k4⟩:=hs;refine⟨?_,h.mv.app (h.mv.keptI i2 hin) k3 (AW _) h0,fun x hx g hg=>?_,i4⟩
 ·unfold Q35
  have hj:=(AL.1 hq)
  have e:qs=qs.take j++q::qs.drop (j+1):=by
   obtain⟨iQ,oy⟩:=hj;rw[<-oy,<-CM iQ,DL]
  rw[e,CG,CA,h.map];refine(List.prefix_append_right_inj _).2 ?_;rw[BI];refine List.IsPrefix.trans ?_ (List.prefix_append _ _)
  have:s.map (fun x=>(x.ru,x.jn,x.tok))=(q.l.take k).map (fun t=>(q.ru,q.jn,t)):=by
   rw[<-k1,EA];exact List.map_congr_left (fun x hx=>by simp[(k2 x hx).1,(k2 x hx).2])
  rw[this];exact(List.take_prefix k q.l).map _
 ·rcases AY.1 hx with hx|hx
  ·exact i1 g (hin x hx g hg)
  ·exact k4 x hx g hg
theorem YieldAt.wide{m m':Nat}{P:Program}{l:Nat}{args:Array Value}{W:World}{R:Ending->World->Prop}(h:YieldAt Fence.wide m P l args W R):YieldAt Fence.wide m' P l args W R:=by
 obtain⟨fn,tmps,assign,body,h1,h2,h3⟩:=h;exact⟨fn,tmps,assign,body,h1,h2,fun c cs _=>h3 c cs (room_wide _)⟩
theorem Wa(n:Nat)(L Zb:Nat->Prop)(U:Nat->Nat)(nb bn n0 m0 N:Nat)(a8:List Ch)(hUz:∀i,U i=1->Zb i)(hUl:∀(j:Nat) (c:Ch) (i:Nat),a8[j]?=some c->U i=4+3*(Cu 0 (a8.take j)+c.ns.length)->(∀k,k<i->U k≠U i)->L i)(pS:∀i,U i≠0->i<m0)(hch:∀c∈a8,(∀t∈c.e.toks,t.length=c.jn)/\c.jn<=4/\c.e.toks.length<=1000000)(hlen:a8.length<=1000)(hN:(a8.map (fun c=>c.e.toks.length)).sum<=N) :
  Jo Fence.wide n Tryz.prog 76 #[.pointer (some ⟨bn,0,none⟩)] S6 L Zb (AllSt U nb bn n0 m0 a8)
   (fun Z s W=>((∃qs,J1 a8 qs/\AllS qs s)/\MvsOk n0 s W)/\Fe Z s) (fun Z s W=>((∃qs,J1 a8 qs/\Q35 qs s)/\MvsOk n0 s W)/\Fe Z s) N:=by
 intro lp J Jx Z1 W hJ ND hY rJ VO h0;obtain⟨cv,bs,h1,h2,h3,h4⟩:=rJ.net;obtain⟨ao,cap,hcv⟩:=h3.1.slice;subst hcv;have hbl:=h4.len;have c0:W.cell? ⟨bn,0,none⟩=some (.pointer (some ⟨nb,0,none⟩)):=by simp[World.cell?,rJ.box]
 have c1:W.cell? ⟨nb,0,none⟩=some (.slice ao bs.length cap):=by simp[World.cell?,h1]
 have a7:=AA W (.cells #[.func (.yield lp) #[] #[]] 156) none;have hx0:=AR W (.cells #[.func (.yield lp) #[] #[]] 156);have kZ:(W.alloc (.cells #[.func (.yield lp) #[] #[]] 156)).heap.size=W.heap.size+1:=by simp
 have d0:=a7.cell c0 (by simp);have d1:=a7.cell c1 (by simp);have HST:=Ac rJ;have H3:=Ac h3;have H4:=Ac h4;have HJ:=Ac hJ;have XQ:=Ac ND;have tZ:=Ac hbl;clear rJ h1 h2 h3 h4 hJ ND hbl c0 c1;refine callsIn_wide.2 ((callsIn_wide (n:=5)).1 ?_);refine callsIn_of_wp_marks Tryz.func76 rfl trivial ?_ rfl;simp only[Tryz.ntmps76,FO,AP,CJ,Nat.reduceAdd,Nat.reduceSub,EZ,FA,FP,FE,DC,CP];gi_wp2;generalize W.alloc (.cells #[.func (.yield lp) #[] #[]] 156)=w0 at a7 hx0 kZ d0 d1⊢;have hbm:bs.length<=1000:=by rw[Aa tZ];exact hlen
 have ry:=Ac (show AllI U L a8 (.slice none 0 0) [] w0 w0 from⟨AD _ _,RowAt.nil 0 _ Om,by simp[Value.ownBlock],by simp,by simp,by simp⟩)
 gi_loopw [3,14] (fun a z wr=>∃(j:Nat) (qs:List Sq),j<=bs.length/\z=.int .i64 j/\qs.length=j/\Hid (AllI U L a8 a qs w0 wr)) (fun _ z _=>bs.length-(intOf z).toNat)
 case atStart=>exact⟨0,[],AG _,rfl,rfl,ry⟩
 case round=>
  clear ry;obtain⟨j,qs,hj,rfl,om,HK⟩:=hrel;by_cases hlt:j<bs.length
  ·have hd:decide (j<bs.length)=true:=by simpa using hlt
   have hI:=Aa HK;clear HK;have hgr:=Ab a7 hI.gr;obtain⟨c,hc⟩:∃c,a8[j]?=some c:=⟨_,AB (by rw[<-Aa tZ];exact hlt)⟩
   obtain⟨bj,sr,ue⟩:=(Aa H4).get hc;rw[BV] at ue;obtain⟨g,cap',e1,q0⟩:=PsAt.cell ((Aa H3).1.gr hgr) sr;simp only[AH,BP] at e1;obtain⟨rfl,rfl⟩:=e1;have hcr:=ue.keep (U':=U) (GrS.of hgr (by simp):GrS (fun _=>False) W wr) (by simp) (fun _ _=>rfl);obtain⟨lb,tv,wv,q2,gM⟩:=hcr.lastAt;have hcc:=hch c (AV hc);have MX:=Q4n U _ lb j c.jn c.e tv wv wr gM hcc.1 hcc.2.1 (by have:=hcc.2.2;omega);have TZ:L lb:=hUl j c lb hc gM.own (fun k hk=>by rw[gM.own];exact gM.low k hk);have hlbm:=pS lb (by rw[gM.own];omega);have hW:=(Aa HST).from1;obtain⟨aa,lX,lK⟩:=hI.row.slice;rw[om] at lK;subst lK
   have vB:Calls Tryz.prog 77 #[.pointer (some ⟨lb,0,none⟩)] wr fun r w1=>∃bt bl,r=.returned (.func (.func 116) #[] #[.pointer (some ⟨bt,0,none⟩),.pointer (some ⟨bl,0,none⟩)])/\RowAt 64 1 Ol 0 (.slice aa j lX) qs (w1.alloc (.cells #[.func (.func 116) #[] #[.pointer (some ⟨bt,0,none⟩),.pointer (some ⟨bl,0,none⟩)]] 64))/\
     ∃q:Sq,q.bt=bt/\q.bl=bl/\RowAt 64 1 Ol 0 (.slice (some ⟨w1.heap.size,0,none⟩) 1 1) [q] (w1.alloc (.cells #[.func (.func 116) #[] #[.pointer (some ⟨bt,0,none⟩),.pointer (some ⟨bl,0,none⟩)]] 64))/\
     ∀v5 w5 n m,RowAt 64 1 Ol 0 v5 (qs++[q]) w5->Longer (.slice aa j lX) v5 n m (w1.alloc (.cells #[.func (.func 116) #[] #[.pointer (some ⟨bt,0,none⟩),.pointer (some ⟨bl,0,none⟩)]] 64)) w5->Hid (AllI U L a8 v5 (qs++[q]) w0 w5):=by
    refine MX.mono ?_;rintro r w1⟨bt,bl,g',l,rfl,f1,f2,f3,f4,f5,f6,f7⟩;have dZ:=AA w1 (.cells #[.func (.func 116) #[] #[.pointer (some ⟨bt,0,none⟩),.pointer (some ⟨bl,0,none⟩)]] 64) none;refine⟨bt,bl,rfl,hI.row.gr (Ab f1 dZ),⟨bt,bl,g',lb,j,c.jn,l⟩,rfl,rfl,(RowAt.lit1 (e:=64) Om w1 ⟨bt,bl,g',lb,j,c.jn,l⟩ #[.func (.func 116) #[] #[.pointer (some ⟨bt,0,none⟩),.pointer (some ⟨bl,0,none⟩)]] rfl).weak (AG _),?_⟩;intro v5 w5 n m b7 aR;exact Ac (Q2o (q:=⟨bt,bl,g',lb,j,c.jn,l⟩) hI (by rw[om];exact hc) f1 ⟨om.symm,rfl,f5,f6,TZ⟩ f7 f2 f3 f4 (by show lb<_;omega) dZ aR b7 (fun i hi=>by have:=pS i hi;omega))
   have XL:=Ac om;clear MX gM hcr ue hI hgr hcc om
   gi_wp2_with (first
    | (refine⟨trivial,?_⟩;refine(callsIn_wide.2 vB).mono ?_;rintro r w1⟨bt,bl,rfl,hr2,q,rfl,rfl,aG,HE⟩)
    | (gi_at_builtin;refine Mp rfl _ _ 157 rfl Tryz.underlying157 Tryz.infoSeq rfl (by decide) rfl hr2 rfl aG (by simp) (fun y _=>Xt y) (by rw[Aa XL];unfold maxLen;simp;omega) (by rw[Aa XL];simp;omega) ?_))
   intro v5 w5 b7 aR;have HN:=HE v5 w5 _ _ b7 aR;obtain⟨g5,aI,rfl⟩:=aR.form;clear b7 aR hr2 aG HE vB;gi_wp2;go_roundw
   case rel=>exact⟨j+1,qs++[q],by omega,by go_num,by rw[AK,Aa XL];rfl,HN⟩
   case measure=>simp[intOf];omega
  ·have hd:decide (j<bs.length)=false:=by simpa using hlt
   have hI:=Aa HK;clear HK;subst om;have ZN:qs.length<=1000:=by omega
   have om:qs.length=a8.length:=by have:=Aa tZ;omega
   obtain⟨aa,lX,lK⟩:=hI.row.slice;subst lK;have hgr:=Ab a7 hI.gr;have hszr:=hgr.size;have rJ:=Aa HST;obtain⟨Zc,VM⟩:∃Zc:Nat->Prop,Zc=fun i=>Zb i\/(W.heap.size<=i/\i<wr.heap.size):=⟨_,rfl⟩
   have zb:∀i,Zb i->Zc i:=fun i hi=>by rw[VM];exact .inl hi
   have zn:∀i,W.heap.size<=i->i<wr.heap.size->Zc i:=fun i h1 h2=>by rw[VM];exact .inr ⟨h1,h2⟩
   have pU:All2 n0 W.heap.size L Zc J qs wr 0 [] [] wr:=by
    refine⟨rfl,⟨by simp,List.Pairwise.nil⟩,⟨fun i=>Z1 i\/(W.heap.size<=i/\i<wr.heap.size),fun i hi=>?_,fun x hx=>by simp at hx,Aa HJ Z1 _ [] W wr none h0 hgr (by simp) (fun i hi=>.inl hi) (fun i hi=>hi)⟩,Kept.gr (AD _ _),List.nodup_nil,by simp⟩;rw[VM] at hi;rcases hi with hi|hi
    ·exact .inl (VO i hi)
    ·exact .inr hi
   have hyb:wr.heap[W.heap.size]?=some (.cells #[.func (.yield lp) #[] #[]] 156 (0,0)):=by rw[hI.gr.block _ (Af hx0) (by simp)];exact hx0
   have yr:∀b,(Value.slice aa qs.length lX).ownBlock=some b->Zc b:=fun b hb=>zn b (by have:=hI.new b hb;omega) (hI.row.own b hb).2
   have zt:∀(i:Nat) (q:Sq),qs[i]?=some q->NowAt U q.bt q.bl q.g q.lb q.ru q.jn q.l wr/\Zc q.bt/\Zc q.bl/\(q.l≠[]->Zc q.g)/\L q.lb/\q.jn<=4/\q.l.length<=1000000000:=by
    intro i q hq;obtain⟨k1,k2,k3,k4,k5⟩:=hI.lie q (AV hq);obtain⟨c,hc⟩:∃c,a8[i]?=some c:=⟨_,AB (by rw[<-om];exact(AL.1 hq).1)⟩
    obtain⟨m1,m2,m3,m4,m5⟩:=hI.now i q c hq hc;have hcc:=hch c (AV hc);exact⟨k1,zn _ (by omega) k2.2,zn _ (by omega) k3.2,fun hne=>zn _ (by omega) (k4.2 hne),m5,by rw[m2];exact hcc.2.1,by rw[m3.length_eq];have:=hcc.2.2;omega⟩
   have zL:∀(j:Nat) (q:Sq) (s0 s:List Mv),qs[j]?=some q->s0.map (fun x=>(x.ru,x.jn,x.tok))=(qs.take j).flatMap (fun q=>q.l.map (fun t=>(q.ru,q.jn,t)))->s.length<q.l.length->(s0++s).length<N:=by
    intro j q s0 s hq hm hs;have h1:=BJ List.length hm;rw[BA,List.length_flatMap] at h1;simp only[BA] at h1
    have h2:(qs.map (fun q=>q.l.length)).sum=(a8.map (fun c=>c.e.toks.length)).sum:=by
     congr 1
     refine JT (fun i=>?_);rw[BR,BR];cases TM:qs[i]? with
     | none=>
      rw[List.getElem?_eq_none_iff] at TM;rw[JD (by omega)];rfl
     | some q2=>
      obtain⟨c,hc⟩:∃c,a8[i]?=some c:=⟨_,AB (by rw[<-om];exact(AL.1 TM).1)⟩
      obtain⟨m1,m2,m3,m4,m5⟩:=hI.now i q2 c TM hc;rw[hc];simp only[DZ];rw[m3.length_eq]
    have h3:(qs.map (fun q=>q.l.length)).sum=((qs.take j).map (fun q=>q.l.length)).sum+((qs.drop j).map (fun q=>q.l.length)).sum:=by
     rw[<-List.sum_append,<-CA,DL]
    have h4:q.l.length<=((qs.drop j).map (fun q=>q.l.length)).sum:=by
     obtain⟨iQ,oy⟩:=AL.1 hq;rw[CM iQ,oy,DR,List.sum_cons];omega
    rw[AK];omega
   have aK:J1 a8 qs:=⟨om,fun i q c hq hc=>by obtain⟨m1,m2,m3,m4,m5⟩:=hI.now i q c hq hc;exact⟨m1,m2,m3,m4⟩⟩
   have hput:∀(A:World) (D:Nat),W.heap.size<=D->((∃Z s,(((∃qs,J1 a8 qs/\AllS qs s)/\MvsOk n0 s A)/\Fe Z s)/\J Z s A)\/∃Z s,(((∃qs,J1 a8 qs/\Q35 qs s)/\MvsOk n0 s A)/\Fe Z s)/\Jx Z s A)->A.heap[D]?=some (.deferred (some []))->((∃Z s,(((∃qs,J1 a8 qs/\AllS qs s)/\MvsOk n0 s (A.putObj D (.deferred none)))/\Fe Z s)/\J Z s (A.putObj D (.deferred none)))\/∃Z s,(((∃qs,J1 a8 qs/\Q35 qs s)/\MvsOk n0 s (A.putObj D (.deferred none)))/\Fe Z s)/\Jx Z s (A.putObj D (.deferred none))):=by
    intro A D hD hA hb;rcases hA with ⟨Z,s,⟨⟨k1,k2⟩,k3⟩,k4⟩|⟨Z,s,⟨⟨k1,k2⟩,k3⟩,k4⟩
    ·exact .inl ⟨Z,s,⟨⟨k1,(MvsOk.own W.heap.size n0).putObj _ k2 hD hb rfl⟩,k3⟩,((Aa HJ).own Z).putObj _ k4 hD hb rfl⟩
    ·exact .inr ⟨Z,s,⟨⟨k1,(MvsOk.own W.heap.size n0).putObj _ k2 hD hb rfl⟩,k3⟩,((Aa XQ).own Z).putObj _ k4 hD hb rfl⟩
   have OQ:=Ac hput;have PO:=Ac pU;have dP:=Ac hI.row;have HYB:=Ac hyb;have XF:=Ac yr;have rj:=Ac zt;have rb:=Ac zL;have gT:=Ac aK;have HY:=Ac hY;have gq:=rJ.from0;clear pU hI hyb yr zt zL aK hY rJ d0 d1 om hput;gi_wp2;refine wpIn_loop (fun a' w'=>∃(j:Nat) (s0:List Mv) (Ds:List Nat) (u7 u30 u31 u32 u33 u39:Value),j<=qs.length/\Hid (All2 n0 W.heap.size L Zc J qs wr j s0 Ds w')/\a'={ tmps:=#[Value.func (Fn.yield lp) #[] #[],.pointer (some ⟨bn,0,none⟩),.pointer (some ⟨W.heap.size,0,none⟩),.slice aa qs.length lX,undef,u5,undef,u7,undef,.pointer (some ⟨nb,0,none⟩),.pointer (some ⟨nb,0,none⟩),.pointer (some ⟨nb,0,none⟩),.slice ao bs.length cap,.int .i64 bs.length,.int .i64 qs.length,.bool false,u16,u17,u18,u19,u20,u21,u22,u23,u24,u25,u26,.slice aa qs.length lX,.int .i64 qs.length,.int .i64 j,u30,u31,u32,u33,undef,undef,undef,undef,undef,u39],defers:=Ds.map (fun D=>{ target:=.collected D,args:=#[] }) }) (fun a' _=>qs.length-(intOf (a'.tmps.getD 29 undef)).toNat) ?_ ?_
   ·exact⟨0,[],[],undef,undef,undef,undef,undef,undef,AG _,PO,rfl⟩
   ·clear PO
    rintro a' w2⟨j,s0,Ds,u7,u30,u31,u32,u33,u39,hj,HA,rfl⟩;by_cases hlt:j<qs.length
    ·have bm:decide (j<qs.length)=true:=by simpa using hlt
     have hA:=Aa HA;clear HA;obtain⟨q,hq⟩:∃q,qs[j]?=some q:=⟨_,AB hlt⟩
     obtain⟨g,cp,hv,hcs⟩:=((Aa dP).keptI hA.kept (Aa XF)).cells hq;simp only[AH,BP] at hv;obtain⟨rfl,rfl⟩:=hv;have q0:w2.cell? ⟨g,j,none⟩=some (.func (.func 116) #[] #[.pointer (some ⟨q.bt,0,none⟩),.pointer (some ⟨q.bl,0,none⟩)]):=by have:=hcs 0 (by omega);rw[FB,EG] at this;exact this
     have PM:=Ac hA;clear hcs hA;gi_wp2;have hA:=Aa PM;obtain⟨Z,sP,hin,WE⟩:=hA.zs;have hsw:=hA.kept.size;obtain⟨n1,n2,n3,n4,n5,n6,n7⟩:=Aa rj j q hq;have MW:=n1.keptI hA.kept (fun i hi=>zb i (hUz i hi)) n2 n3 n4 n5;have hDl:∀D∈Ds,D<w2.heap.size:=fun D hD=>Af (hA.marks D hD).2
     refine Xw rfl (by omega) (f:=116) (caught:=#[.pointer (some ⟨q.bt,0,none⟩),.pointer (some ⟨q.bl,0,none⟩)]) rfl trivial (enters_of Tryz.func116 (by kernel_rfl) rfl)
      (Xj _ Z L U q.bt q.bl q.g q.lb q.ru q.jn w2.heap.size q.l n6 n7 (fun i hi=>sP i (zb i (hUz i hi))) (sP _ n2) (sP _ n3) (fun hne=>sP _ (n4 hne)) n5) (fun _=>rfl)
      (fun B hB=>⟨MW.keptI (Z:=fun _=>True) (L:=fun _=>True) (Kept.gr hB) (fun _ _=>trivial) trivial trivial (fun _=>trivial) trivial,hB.size⟩)
      (fun Z' s A B row h hg hr=>⟨⟨h.1.1,MvsOk.own _ _ s A B row h.1.2 hg hr⟩,h.2⟩) (fun Z' s A B row h hg hr=>⟨⟨h.1.1,MvsOk.own _ _ s A B row h.1.2 hg hr⟩,h.2⟩)
      (InI J Z L Ds s0 w2) (fun c Zi s W'=>c=.ret/\InI Jx Z L Ds s0 w2 Zi s W') (InI.bears (Aa HJ) (by omega) hDl) (fun c Zi XE s A B row h hg hr hm hz=>⟨h.1,InI.bears (Aa XQ) (by omega) hDl Zi XE s A B row h.2 hg hr hm hz⟩) Z (fun _ h=>h) ?h0
      (fun x b W'=>∃Bx,W'.heap[Bx]?=some (.cells #[.int .i64 x.ru,.slice x.ao x.jn x.cap] 52 (0,0))/\b={ tmps:=#[Value.func (Fn.yield lp) #[] #[],.pointer (some ⟨bn,0,none⟩),.pointer (some ⟨W.heap.size,0,none⟩),.slice (some ⟨g,0,none⟩) qs.length lX,undef,u5,undef,.func (.func 116) #[] #[.pointer (some ⟨q.bt,0,none⟩),.pointer (some ⟨q.bl,0,none⟩)],.pointer (some ⟨Bx,0,none⟩),.pointer (some ⟨nb,0,none⟩),.pointer (some ⟨nb,0,none⟩),.pointer (some ⟨nb,0,none⟩),.slice ao bs.length cap,.int .i64 bs.length,.int .i64 qs.length,.bool false,u16,u17,u18,u19,u20,u21,u22,u23,u24,u25,u26,.slice (some ⟨g,0,none⟩) qs.length lX,.int .i64 qs.length,.int .i64 j,.bool true,.pointer (some ⟨g,j,none⟩),.func (.func 116) #[] #[.pointer (some ⟨q.bt,0,none⟩),.pointer (some ⟨q.bl,0,none⟩)],.func (.func 116) #[] #[.pointer (some ⟨q.bt,0,none⟩),.pointer (some ⟨q.bl,0,none⟩)],.agg #[.int .i64 x.ru,.slice x.ao x.jn x.cap],undef,undef,undef,undef,u39],defers:=[] }) ?hAx ?assign ?body ?done ?left
     case h0=>exact⟨fun i hi=>hi,Kept.gr (AD _ _),fun D hD=>(hA.marks D hD).2,by rw[BM];exact WE⟩
     case WS=>
      rintro x b _ A B row⟨Bx,h1,h2⟩ hg hr;refine⟨Bx,?_,h2⟩;rw[hg.block Bx (Af h1) (fun e=>?_)]
      ·exact h1
      ·obtain⟨_,o,ho,hc⟩:=hr Bx e.symm
       rw[h1] at ho;cases ho
       cases hc
     case assign=>
      rintro l Zi s x W' K hi hK;have dZ:=AA W' (.cells #[.int .i64 x.ru,.slice x.ao x.jn x.cap] 52) none;have hk:=hK _ _ ((KeepsOthers.alloc W' (.cells #[.int .i64 x.ru,.slice x.ao x.jn x.cap] 52)).from _) (Kept.gr dZ) (InI.bears (Aa HJ) (by omega) hDl Zi Zi s _ _ none hi dZ (by simp) (fun i h=>h) (fun i h=>.inl h)) ⟨W'.heap.size,AR _ _,rfl⟩;unfold S6;clear hK hA PM n1 MW rj rb;gi_wp2;exact hk
     case body=>
      rintro l Zi s x b W' hl hr hI⟨Bx,sK,rfl⟩ hlen;have hyb:=((hA.kept.trans (hI.2.1.mono sP)).blks _ _ _ _ (zn W.heap.size (AW _) (Af (Aa HYB))) (Aa HYB))
      have y0:W'.cell? ⟨W.heap.size,0,none⟩=some (.func (.yield lp) #[] #[]):=by simp[World.cell?,hyb]
      have x0:W'.cell? ⟨Bx,0,none⟩=some (.int .i64 x.ru):=by simp[World.cell?,sK]
      have x1:W'.cell? ⟨Bx,1,none⟩=some (.slice x.ao x.jn x.cap):=by simp[World.cell?,sK]
      have pY:=YieldAt.wide (m':=2) (Aa HY Zi (s0++s) x W' hI.2.2.2 (Aa rb j q s0 s hq hA.map hlen));have hDm:∀D∈Ds,W.heap.size<=D:=fun D hD=>(hA.marks D hD).1
      have hend:∀B,KeepsFrom W.heap.size W' B->Kept Zi L W' B->(J Zi (s0++s++[x]) B->KeepsFrom w2.heap.size W' B/\Kept Zi L W' B/\InI J Z L Ds s0 w2 Zi (s++[x]) B)/\(Jx Zi (s0++s++[x]) B->KeepsFrom w2.heap.size W' B/\Kept Zi L W' B/\InI Jx Z L Ds s0 w2 Zi (s++[x]) B):=fun B h1 h2=>⟨fun h=>hI.step (by omega) hDm h1 h2 h,fun h=>hI.step (by omega) hDm h1 h2 h⟩
      unfold S6 at pY;obtain⟨fn,tmps,assign,body,hy,hR⟩:=pY;have bH:=Ac hend;clear hend hA PM n1 MW rj rb hI sK hyb HY hlen hr;gi_wp2;refine(show RoundIn (Fence.wide.inRound l) 2 Tryz.prog lp fn tmps assign body W' _ from hR).mono ?_;rintro e B⟨k1,k2,⟨rfl,h3⟩|⟨rfl,h3⟩⟩
      ·have HF:=Ac ((Aa bH B k1 k2).1 h3)
       clear k1 k2 h3 bH hR hy;gi_wp2;exact Aa HF
      ·have HF:=Ac ((Aa bH B k1 k2).2 h3)
       clear k1 k2 h3 bH hR hy;gi_wp2;obtain⟨f1,f2,f3⟩:=Aa HF;exact⟨f1,f2,rfl,f3⟩
     case done=>
      rintro Zi s W' hS hI hD;have hN:=hA.next sP hin hq hI hS hD (by omega) (by omega);have HN:=Ac hN;clear hN hS hI hA PM n1 MW rj rb;gi_wp2;exact⟨⟨j+1,s0++s,w2.heap.size::Ds,_,_,_,_,_,_,by omega,HN,rfl⟩,by simp[intOf];omega⟩
     case left=>
      rintro c Zi s W' hS⟨rfl,hI⟩ hD;have hN:=hA.left hin hq hI hS (by omega)
      have hmk:∀D∈w2.heap.size::Ds,W.heap.size<=D/\W'.heap[D]?=some (.deferred (some [])):=by
       intro D RF;rcases CR.1 RF with rfl|RF
       ·exact⟨by omega,hD⟩
       ·exact⟨(hA.marks D RF).1,hI.2.2.1 D RF⟩
      have uI:(w2.heap.size::Ds).Nodup:=JB.2 ⟨fun h=>by have:=hDl _ h;omega,hA.nodup⟩;have HN:=Ac hN;have HMK:=Ac hmk;have HND:=Ac uI;clear hN hS hI hA PM n1 MW rj rb hmk uI;gi_wp2;obtain⟨f1,f2,f3,f4⟩:=Aa HN;exact F8 (fun _=>results_none rfl _ _ _) (w2.heap.size::Ds) W' (Aa HND) (fun D hD=>(Aa HMK D hD).2) ⟨⟨_,rfl⟩,.inr ⟨Zi,s0++s,⟨⟨⟨qs,Aa gT,f1⟩,f2⟩,f3⟩,f4⟩⟩ (fun A D hD h hb=>⟨h.1,Aa OQ A D (Aa HMK D hD).1 h.2 hb⟩)
    ·have bm:decide (j<qs.length)=false:=by simpa using hlt
     gi_wp2;have hA:=Aa HA;have hjq:j=qs.length:=by omega
     obtain⟨Z,sP,hin,WE⟩:=hA.zs;refine F8 (fun _=>results_none rfl _ _ _) Ds w2 hA.nodup (fun D hD=>(hA.marks D hD).2) ⟨⟨_,rfl⟩,.inl ⟨Z,s0,⟨⟨⟨qs,Aa gT,?_⟩,hA.mv⟩,hin⟩,WE⟩⟩ (fun A D hD h hb=>⟨h.1,Aa OQ A D (hA.marks D hD).1 h.2 hb⟩);unfold AllS;rw[hA.map,hjq,CB (AW _)]
end Go.Proofs.YtolhbeekfjnfmaaGreatDoor

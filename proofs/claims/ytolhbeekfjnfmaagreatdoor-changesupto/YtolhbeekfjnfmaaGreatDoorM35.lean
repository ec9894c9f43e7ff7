import Derived.Test.YtolhbeekfjnfmaaGreatDoorM34
namespace Go.Proofs.YtolhbeekfjnfmaaGreatDoor
open Go.RowKit
attribute [local go_sem] Oper.semAt_some
variable {A B:World}{U:Nat->Nat}{L:Nat->Prop}
structure Sq where
 bt:Nat
 bl:Nat
 g:Nat
 lb:Nat
 ru:Nat
 jn:Nat
 l:List Tok
def Sq.val(q:Sq):Value:=.func (.func 116) #[] #[.pointer (some ⟨q.bt,0,none⟩),.pointer (some ⟨q.bl,0,none⟩)]
def Pd(q:Sq):List Value:=[q.val]
theorem Pe(q:Sq):(Pd q).length=1:=rfl
theorem Xs(q:Sq):∀c∈Pd q,c.oneCell'=true:=by intro c hc;simp[Pd] at hc;subst hc;rfl
theorem Tryz.infoSeq:(Tryz.prog.info? 64).map (fun i=>(i.zero,i.size,i.bytes))=some (some .nilFunc,1,8):=by kernel_rfl
theorem Kept.of_grs{S:Nat->Prop}(h:GrS S A B):Kept (fun i=>¬ S i) (fun i=>¬ S i) A B:=
 ⟨h.size,fun _ _ _ _ hz hi=>h.blk hi hz,fun _ _ _ hl _ hc=>h.cellK hc (CD A _ hc) hl⟩
structure AllI(U:Nat->Nat)(L:Nat->Prop)(a8:List Ch)(av:Value)(qs:List Sq)(W wr:World):Prop where
 gr:W.grownBy wr none
 row:RowAt 64 1 Pd 0 av qs wr
 new:∀(b:Nat),av.ownBlock=some b->W.heap.size<=b
 now:∀(i:Nat) (q:Sq) (c:Ch),qs[i]?=some q->a8[i]?=some c->q.ru=i/\q.jn=c.jn/\q.l.Perm c.e.toks/\q.l.Pairwise (fun a b=>cmpL a.nums b.nums<=0)/\L q.lb
 lie:∀q∈qs,NowAt U q.bt q.bl q.g q.lb q.ru q.jn q.l wr/\(W.heap.size<=q.bt/\q.bt<wr.heap.size)/\(W.heap.size<=q.bl/\q.bl<wr.heap.size)/\(W.heap.size<=q.g/\(q.l≠[]->q.g<wr.heap.size))/\q.lb<W.heap.size
 apart:∀q∈qs,∀(b:Nat),av.ownBlock=some b->b≠q.bt/\b≠q.bl/\(q.l≠[]->b≠q.g)
theorem Q1i{a8:List Ch}{av v':Value}{qs:List Sq}{q:Sq}{c:Ch}{n m:Nat}{W wr w1 w2 w3:World}(h:AllI U L a8 av qs W wr)(hc:a8[qs.length]?=some c)(hg1:wr.grownBy w1 none)
 (hq:q.ru=qs.length/\q.jn=c.jn/\q.l.Perm c.e.toks/\q.l.Pairwise (fun a b=>cmpL a.nums b.nums<=0)/\L q.lb)(hN:NowAt U q.bt q.bl q.g q.lb q.ru q.jn q.l w1)(tz:wr.heap.size<=q.bt)(hbl:wr.heap.size<=q.bl)(ar:wr.heap.size<=q.g)(lz:q.lb<W.heap.size)
 (hg2:w1.grownBy w2 none)(hl:Longer av v' n m w2 w3)(hr:RowAt 64 1 Pd 0 v' (qs++[q]) w3)(og:∀i,U i≠0->i<W.heap.size):AllI U L a8 v' (qs++[q]) W w3:=by
 have hs0:=h.gr.size;have hs1:=hg1.size;have hs2:=hg2.size;have hG:GrS (fun i=>av.ownBlock=some i) w2 w3:=hl.gr (fun b hb=>hb);have hs3:=hG.size;have kS:∀b,av.ownBlock=some b->W.heap.size<=b/\b<wr.heap.size:=fun b hb=>⟨h.new b hb,(h.row.own b hb).2⟩
 have hown:∀b,v'.ownBlock=some b->av.ownBlock=some b\/w2.heap.size<=b:=hl.own;have hbt1:q.bt<w1.heap.size:=by obtain⟨p,cap,k,_⟩:=hN.toks;exact Ad k
 have hbl1:q.bl<w1.heap.size:=Ad hN.last
 have eJ:q.l≠[]->q.g<w1.heap.size:=fun hne=>by
  obtain⟨t,l',e⟩:=List.exists_cons_of_ne_nil hne;have h0:=hN.cells 0 t (by rw[e];rfl) 0 (by omega);have hs:∃v,(A5 t)[0]?=some v:=⟨_,AB (by rw[Br];omega)⟩
  obtain⟨v,hv⟩:=hs;rw[hv] at h0;exact CD w1 _ h0
 have zS:∀q2:Sq,NowAt U q2.bt q2.bl q2.g q2.lb q2.ru q2.jn q2.l w2->(∀b,av.ownBlock=some b->b≠q2.bt/\b≠q2.bl/\(q2.l≠[]->b≠q2.g))->q2.lb<W.heap.size->NowAt U q2.bt q2.bl q2.g q2.lb q2.ru q2.jn q2.l w3:=by
  intro q2 hn ha hl2;refine hn.keptI (Kept.of_grs hG) (fun i hi e=>?_) (fun e=>(ha _ e).1 rfl) (fun e=>(ha _ e).2.1 rfl) (fun hne e=>(ha _ e).2.2 hne rfl) (fun e=>?_)
  ·have:=og i (by omega)
   have:=(kS i e).1;omega
  ·have:=(kS _ e).1
   omega
 refine⟨?_,hr,fun b hb=>?_,fun i q2 c2 hi hc2=>?_,fun q2 dE=>?_,fun q2 dE b hb=>?_⟩
 ·refine GrS.grown (S:=fun i=>W.heap.size<=i) ?_ (fun i hi h=>by omega)
  exact(GrS.of (Ab h.gr (Ab hg1 hg2)) (by simp):GrS (fun i=>W.heap.size<=i) W w2).comp hG (fun i hi hn hx=>hn (kS i hx).1)
 ·rcases hown b hb with e|e
  ·exact h.new b e
  ·omega
 ·by_cases hlt:i<qs.length
  ·rw[CL hlt] at hi
   exact h.now i q2 c2 hi hc2
  ·have kL:i=qs.length:=by have:=(AL.1 hi).1;simp at this;omega
   subst kL;simp only[IA,AE] at hi;subst hi;rw[hc] at hc2;simp only[AE] at hc2;subst hc2;exact hq
 ·rcases AY.1 dE with dE|dE
  ·obtain⟨k1,k2,k3,k4,k5⟩:=h.lie q2 dE
   refine⟨zS q2 (k1.keptI (Z:=fun _=>True) (L:=fun _=>True) (Kept.gr (Ab hg1 hg2)) (fun _ _=>trivial) trivial trivial (fun _=>trivial) trivial) (h.apart q2 dE) k5,⟨k2.1,by omega⟩,⟨k3.1,by omega⟩,⟨k4.1,fun hne=>by have:=k4.2 hne;omega⟩,k5⟩
  ·simp only[AX] at dE
   subst dE;refine⟨zS q2 (hN.keptI (Z:=fun _=>True) (L:=fun _=>True) (Kept.gr hg2) (fun _ _=>trivial) trivial trivial (fun _=>trivial) trivial) (fun b hb=>?_) lz,⟨by omega,by omega⟩,⟨by omega,by omega⟩,⟨by omega,fun hne=>by have:=eJ hne;omega⟩,lz⟩;have:=(kS b hb).2;exact⟨by omega,by omega,fun _=>by omega⟩
 ·rcases hown b hb with e|e
  ·rcases AY.1 dE with dE|dE
   ·exact h.apart q2 dE b e
   ·simp only[AX] at dE
    subst dE;have:=(kS b e).2;exact⟨by omega,by omega,fun _=>by omega⟩
  ·rcases AY.1 dE with dE|dE
   ·obtain⟨k1,k2,k3,k4,k5⟩:=h.lie q2 dE
    exact⟨by omega,by omega,fun hne=>by have:=k4.2 hne;omega⟩
   ·simp only[AX] at dE
    subst dE;exact⟨by omega,by omega,fun hne=>by have:=eJ hne;omega⟩
theorem O4{F:Fence}{n:Nat}{P:Program}{fn:Func}{tmps:Array Value}{R:Ending->World->Prop}{v:Value}(hres:∀w,(results fn tmps).run P w=.ok v w):∀(Ds:List Nat) (w:World),Ds.Nodup->(∀D∈Ds,w.heap[D]?=some (.deferred (some [])))->R (.returned v) w->
  (∀(A:World) (D:Nat),D∈Ds->R (.returned v) A->A.heap[D]?=some (.deferred (some []))->R (.returned v) (A.putObj D (.deferred none)))->LeavesInM F n P fn tmps R (Ds.map (fun D=>{ target:=.collected D,args:=#[] })) .returning w
 | [],w,_,_,h,_=>⟨v,hres w,h⟩
 | D::Ds,w,hn,hD,h,hR=>by
  have hd:=hD D (BF ..);refine⟨by simp,.inl ⟨D,_,rfl,run_takeDeferred hd,?_⟩⟩;rw[IZ] at hn;refine O4 hres Ds _ hn.2 (fun E hE=>?_) (hR w D (BF ..) h hd) (fun A E hE=>hR A E (BG _ hE));rw[ED (fun e=>hn.1 (by rw[<-e];exact hE))];exact hD E (BG _ hE)
theorem Kept.turn{Z:Nat->Prop}{row:Option Nat}(hg:A.grownBy B row)(hr:∀r,row=some r->∃o:Obj,A.heap[r]?=some o/\o.isCells=false):Kept Z L A B:=by
 have hne:∀(i:Nat) (cs:Array Value) (ty:TypeId) (fz:Nat×Nat),A.heap[i]?=some (Obj.cells cs ty fz)->some i≠row:=by
  intro i cs ty fz hi e;obtain⟨o,ho,hc⟩:=hr i e.symm;rw[hi] at ho;cases ho
  cases hc
 refine⟨hg.size,fun i cs ty fz _ hi=>?_,fun i k v _ _ hc=>?_⟩
 ·rw[hg.block i (Ad hi) (hne i cs ty fz hi)];exact hi
 ·obtain⟨cs,ty,fz,hb⟩:=M8 hc
  rw[<-hc];exact EC (w:=A) (hg.block i (Ad hb) (hne i cs ty fz hb))
theorem MvsOk.own(m n0:Nat):OwnFrom m (MvsOk n0):=fun _ _ _ _ h hg hr=>h.keptI (Z:=fun _=>True) (L:=fun _=>True) (Kept.turn hg (fun r e=>(hr r e).2)) (fun _ _ _ _=>trivial)
theorem MvsOk.app{n0 n1:Nat}{s t:List Mv}(h1:MvsOk n0 s A)(hk:MvsOk n0 s B)(h2:MvsOk n1 t B)(hn:A.heap.size<=n1)(h0:n0<=n1):MvsOk n0 (s++t) B:=by
 refine⟨fun x hx=>?_,FQ.2 ⟨h1.apart,h2.apart,fun x hx y hy g b hg hb=>?_⟩⟩
 ·rcases AY.1 hx with hx|hx
  ·exact hk.rows x hx
  ·exact(h2.rows x hx).weak h0
 ·have e1:=((h1.rows x hx).own g hg).2
  have e2:=((h2.rows y hy).own b hb).1;omega
def AllS(qs:List Sq)(s:List Mv):Prop:=s.map (fun x=>(x.ru,x.jn,x.tok))=qs.flatMap (fun q=>q.l.map (fun t=>(q.ru,q.jn,t)))
def Q40(qs:List Sq)(s:List Mv):Prop:=s.map (fun x=>(x.ru,x.jn,x.tok)) <+: qs.flatMap (fun q=>q.l.map (fun t=>(q.ru,q.jn,t)))
structure AllSt(U:Nat->Nat)(nb bn n0 m0:Nat)(a8:List Ch)(W:World):Prop where
 net:NetAt U nb a8 W
 box:W.heap[bn]?=some (.cells #[.pointer (some ⟨nb,0,none⟩)] 84 (0,0))
 from0:n0<=W.heap.size
 from1:m0<=W.heap.size
def Pq(a8:List Ch)(qs:List Sq):Prop:=qs.length=a8.length/\∀(i:Nat) (q:Sq) (c:Ch),qs[i]?=some q->a8[i]?=some c->q.ru=i/\q.jn=c.jn/\q.l.Perm c.e.toks/\q.l.Pairwise (fun a b=>cmpL a.nums b.nums<=0)
theorem ChainAt.lastAt{ru jn q b:Nat}{ns:List Nd}{e:En}{w:World}(h:ChainAt U ru jn q b ns e w):∃lb tv wv,w.cell? ⟨b,2,none⟩=some (.pointer (some ⟨lb,0,none⟩))/\LastAt U (q+ns.length) lb ru jn e tv wv w:=by
 obtain⟨nv,hd,hs',lb,m1,m2,m3,m4,m5,m6,m7⟩:=h.ex;obtain⟨b',tv,wv,k1,k2⟩:=m7.bkLast;obtain rfl:=m6.uniq k1;exact⟨lb,tv,wv,by simp[World.cell?,m1],k2⟩
theorem YieldAt.wide{m m':Nat}{P:Program}{l:Nat}{args:Array Value}{W:World}{R:Ending->World->Prop}(h:YieldAt Fence.wide m P l args W R):YieldAt Fence.wide m' P l args W R:=by
 obtain⟨fn,tmps,assign,body,h1,h2,h3⟩:=h;exact⟨fn,tmps,assign,body,h1,h2,fun c cs _=>h3 c cs (room_wide _)⟩
end Go.Proofs.YtolhbeekfjnfmaaGreatDoor

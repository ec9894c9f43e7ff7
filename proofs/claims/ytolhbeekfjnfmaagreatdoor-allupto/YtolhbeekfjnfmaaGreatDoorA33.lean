import Derived.Test.YtolhbeekfjnfmaaGreatDoorA32
namespace Go.Proofs.YtolhbeekfjnfmaaGreatDoor
open Go.RowKit Go.Proofs.Tryz
attribute [local go_sem] Oper.semAt_some
variable {A B:World}{U:Nat->Nat}{L:Nat->Prop}
structure Sq where
 bt:Nat
 bl:Nat
 g:Nat
 lb:Nat
 ru:Nat
 jn:Nat
 l:List Tok
def Sq.val(q:Sq):Value:=.func (.func 116) #[] #[.pointer (some ⟨q.bt,0,none⟩),.pointer (some ⟨q.bl,0,none⟩)]
def Pr(q:Sq):List Value:=[q.val]
theorem Ps(q:Sq):(Pr q).length=1:=rfl
theorem X5(q:Sq):∀c∈Pr q,c.oneCell'=true:=by intro c hc;simp[Pr]at hc;subst hc;rfl
theorem Q5T:(prog.info? 64).map (λi=>(i.zero,i.size,i.bytes))=some (some .nilFunc,1,8):=by kernel_rfl
theorem Kept.of_grs{S:Nat->Prop}(h:GrS S A B):Kept (λi=>¬ S i) (λi=>¬ S i) A B:=
 ⟨h.size,λ_ _ _ _ hz hi=>h.blk hi hz,λ_ _ _ hl _ hc=>h.cellK hc (CL A _ hc) hl⟩
structure Q61(U:Nat->Nat)(L:Nat->Prop)(a8:List Ch)(av:Value)(qs:List Sq)(W wr:World):Prop where
 gr:W.grownBy wr none
 row:Q0B 64 1 Pr 0 av qs wr
 new:∀(b:Nat),av.ownBlock=some b->W.heap.size<=b
 now:∀(i:Nat) (q:Sq) (c:Ch),qs[i]?=some q->a8[i]?=some c->q.ru=i/\q.jn=c.jn/\q.l.Perm c.e.toks/\q.l.Pairwise (λa b=>cmpL a.nums b.nums<=0)/\L q.lb
 lie:∀q∈qs,Q3K U q.bt q.bl q.g q.lb q.ru q.jn q.l wr/\(W.heap.size<=q.bt/\q.bt<wr.heap.size)/\(W.heap.size<=q.bl/\q.bl<wr.heap.size)/\(W.heap.size<=q.g/\(q.l≠[]->q.g<wr.heap.size))/\q.lb<W.heap.size
 apart:∀q∈qs,∀(b:Nat),av.ownBlock=some b->b≠q.bt/\b≠q.bl/\(q.l≠[]->b≠q.g)
theorem Q10{a8:List Ch}{av v':Value}{qs:List Sq}{q:Sq}{c:Ch}{n m:Nat}{W wr w1 w2 w3:World}(h:Q61 U L a8 av qs W wr)(hc:a8[qs.length]?=some c)(hg1:wr.grownBy w1 none) (hq:q.ru=qs.length/\q.jn=c.jn/\q.l.Perm c.e.toks/\q.l.Pairwise (λa b=>cmpL a.nums b.nums<=0)/\L q.lb)(hN:Q3K U q.bt q.bl q.g q.lb q.ru q.jn q.l w1)(vh:wr.heap.size<=q.bt)(hbl:wr.heap.size<=q.bl)(aq:wr.heap.size<=q.g)(nD:q.lb<W.heap.size) (hg2:w1.grownBy w2 none)(hl:Q0O av v' n m w2 w3)(hr:Q0B 64 1 Pr 0 v' (qs++[q]) w3)(px:∀i,U i≠0->i<W.heap.size):Q61 U L a8 v' (qs++[q]) W w3:=by
 have hs0:=h.gr.size;have hs1:=hg1.size;have hs2:=hg2.size;have hG:GrS (λi=>av.ownBlock=some i) w2 w3:=hl.gr (λb hb=>hb);have hs3:=hG.size;have l8:∀b,av.ownBlock=some b->W.heap.size<=b/\b<wr.heap.size:=λb hb=>⟨h.new b hb,(h.row.own b hb).2⟩
 have hown:∀b,v'.ownBlock=some b->av.ownBlock=some b\/w2.heap.size<=b:=hl.own;have hbt1:q.bt<w1.heap.size:=by obtain⟨p,cap,k,_⟩:=hN.toks;exact Ad k
 have hbl1:q.bl<w1.heap.size:=Ad hN.last;have eN:q.l≠[]->q.g<w1.heap.size:=λhne=>by(obtain⟨t,l',e⟩:=List.exists_cons_of_ne_nil hne;have h0:=hN.cells 0 t (by rw[e];rfl) 0 (by omega);have hs:∃v,(A9 t)[0]?=some v:=⟨_,AB (by rw[Bz];omega)⟩);obtain⟨v,hv⟩:=hs;rw[hv]at h0;exact CL w1 _ h0
 have NQ:∀q2:Sq,Q3K U q2.bt q2.bl q2.g q2.lb q2.ru q2.jn q2.l w2->(∀b,av.ownBlock=some b->b≠q2.bt/\b≠q2.bl/\(q2.l≠[]->b≠q2.g))->q2.lb<W.heap.size->Q3K U q2.bt q2.bl q2.g q2.lb q2.ru q2.jn q2.l w3:=by intro q2 hn ha hl2;refine hn.keptI (Kept.of_grs hG) (λi hi e=>?_) (λe=>(ha _ e).1 rfl) (λe=>(ha _ e).2.1 rfl) (λhne e=>(ha _ e).2.2 hne rfl) (λe=>?_);{have:=px i (by omega);have:=(l8 i e).1;omega};{have:=(l8 _ e).1;omega}
 refine⟨?_,hr,λb hb=>?_,λi q2 c2 hi hc2=>?_,λq2 cP=>?_,λq2 cP b hb=>?_⟩;{refine GrS.grown (S:=λi=>W.heap.size<=i) ?_ (λi hi h=>by omega);exact(GrS.of (Ab h.gr (Ab hg1 hg2)) (by simp):GrS (λi=>W.heap.size<=i) W w2).comp hG (λi hi hn hx=>hn (l8 i hx).1)};{rcases hown b hb with e|e;{exact h.new b e};{omega}};{by_cases hlt:i<qs.length;{rw[CP hlt]at hi;exact h.now i q2 c2 hi hc2};{(have kq:i=qs.length:=by have:=(AK.1 hi).1;simp at this;omega);subst kq;simp only[II,AE]at hi;subst hi;rw[hc]at hc2;simp only[AE]at hc2;subst hc2;exact hq}};{rcases BA.1 cP with cP|cP;{obtain⟨k1,k2,k3,k4,k5⟩:=h.lie q2 cP;refine⟨NQ q2 (k1.keptI (Z:=λ_=>True) (L:=λ_=>True) (Kept.gr (Ab hg1 hg2)) (λ_ _=>trivial) trivial trivial (λ_=>trivial) trivial) (h.apart q2 cP) k5,⟨k2.1,by omega⟩,⟨k3.1,by omega⟩,⟨k4.1,λhne=>by have:=k4.2 hne;omega⟩,k5⟩};{simp only[AZ]at cP;subst cP;refine⟨NQ q2 (hN.keptI (Z:=λ_=>True) (L:=λ_=>True) (Kept.gr hg2) (λ_ _=>trivial) trivial trivial (λ_=>trivial) trivial) (λb hb=>?_) nD,⟨by omega,by omega⟩,⟨by omega,by omega⟩,⟨by omega,λhne=>by have:=eN hne;omega⟩,nD⟩;have:=(l8 b hb).2;exact⟨by omega,by omega,λ_=>by omega⟩}};{rcases hown b hb with e|e;{rcases BA.1 cP with cP|cP;{exact h.apart q2 cP b e};{simp only[AZ]at cP;subst cP;have:=(l8 b e).2;exact⟨by omega,by omega,λ_=>by omega⟩}};{rcases BA.1 cP with cP|cP;{obtain⟨k1,k2,k3,k4,k5⟩:=h.lie q2 cP;exact⟨by omega,by omega,λhne=>by have:=k4.2 hne;omega⟩};{simp only[AZ]at cP;subst cP;exact⟨by omega,by omega,λhne=>by have:=eN hne;omega⟩}}}
theorem Kept.turn{Z:Nat->Prop}{row:Option Nat}(hg:A.grownBy B row)(hr:∀r,row=some r->∃o:Obj,A.heap[r]?=some o/\o.isCells=false):Kept Z L A B:=by
 have hne:∀(i:Nat) (cs:Array Value) (ty:TypeId) (fz:Nat×Nat),A.heap[i]?=some (Obj.cells cs ty fz)->some i≠row:=by intro i cs ty fz hi e;obtain⟨o,ho,hc⟩:=hr i e.symm;rw[hi]at ho;cases ho;cases hc
 refine⟨hg.size,λi cs ty fz _ hi=>?_,λi k v _ _ hc=>?_⟩;{rw[hg.block i (Ad hi) (hne i cs ty fz hi)];exact hi};{obtain⟨cs,ty,fz,hb⟩:=Ni hc;rw[<-hc];exact EG (w:=A) (hg.block i (Ad hb) (hne i cs ty fz hb))}
theorem Q0U.own(m n0:Nat):OwnFrom m (Q0U n0):=λ_ _ _ _ h hg hr=>h.keptI (Z:=λ_=>True) (L:=λ_=>True) (Kept.turn hg (λr e=>(hr r e).2)) (λ_ _ _ _=>trivial)
theorem Q0U.app{n0 n1:Nat}{s t:List Mv}(h1:Q0U n0 s A)(hk:Q0U n0 s B)(h2:Q0U n1 t B)(hn:A.heap.size<=n1)(h0:n0<=n1):Q0U n0 (s++t) B:=by refine⟨λx hx=>?_,FK.2 ⟨h1.apart,h2.apart,λx hx y hy g b hg hb=>?_⟩⟩;{rcases BA.1 hx with hx|hx;{exact hk.rows x hx};{exact(h2.rows x hx).weak h0}};{have e1:=((h1.rows x hx).own g hg).2;have e2:=((h2.rows y hy).own b hb).1;omega}
def AllS(qs:List Sq)(s:List Mv):Prop:=s.map (λx=>(x.ru,x.jn,x.tok))=qs.flatMap (λq=>q.l.map (λt=>(q.ru,q.jn,t)))
def Q6m(qs:List Sq)(s:List Mv):Prop:=s.map (λx=>(x.ru,x.jn,x.tok)) <+: qs.flatMap (λq=>q.l.map (λt=>(q.ru,q.jn,t)))
structure Q6F(U:Nat->Nat)(nb bn n0 m0:Nat)(a8:List Ch)(W:World):Prop where
 net:Q1O U nb a8 W
 box:W.heap[bn]?=some (.cells #[.pointer (some ⟨nb,0,none⟩)] 84 (0,0))
 from0:n0<=W.heap.size
 from1:m0<=W.heap.size
def Of(a8:List Ch)(qs:List Sq):Prop:=qs.length=a8.length/\∀(i:Nat) (q:Sq) (c:Ch),qs[i]?=some q->a8[i]?=some c->q.ru=i/\q.jn=c.jn/\q.l.Perm c.e.toks/\q.l.Pairwise (λa b=>cmpL a.nums b.nums<=0)
theorem Q1B.lastAt{ru jn q b:Nat}{ns:List Nd}{e:En}{w:World}(h:Q1B U ru jn q b ns e w):∃lb tv wv,w.cell? ⟨b,2,none⟩=some (.pointer (some ⟨lb,0,none⟩))/\Q0T U (q+ns.length) lb ru jn e tv wv w:=by obtain⟨nv,hd,hs',lb,m1,m2,m3,m4,m5,m6,m7⟩:=h.ex;obtain⟨b',tv,wv,k1,k2⟩:=m7.bkLast;obtain rfl:=m6.uniq k1;exact⟨lb,tv,wv,by simp[World.cell?,m1],k2⟩
theorem YieldAt.wide{m m':Nat}{P:Program}{l:Nat}{args:Array Value}{W:World}{R:Ending->World->Prop}(h:YieldAt Fence.wide m P l args W R):YieldAt Fence.wide m' P l args W R:=by obtain⟨fn,tmps,assign,body,h1,h2,h3⟩:=h;exact⟨fn,tmps,assign,body,h1,h2,λc cs _=>h3 c cs (room_wide _)⟩
end Go.Proofs.YtolhbeekfjnfmaaGreatDoor

import Derived.RangeFuncNested
import Derived.RangeFuncBound
import Derived.RangeFuncCalls
import Derived.RangeFuncLeaves
import Derived.Shelf.RegionOpen
import Derived.OwnWalkIn
import Derived.TacticsInMore
import Derived.LoopNIn
import Derived.LoopIn
import Derived.Test.YtolhbeekfjnfmaaGreatDoorM21
set_option maxHeartbeats 8000000
set_option maxRecDepth 100000
namespace Go.Proofs.YtolhbeekfjnfmaaGreatDoor
open Go.RowKit
attribute [local go_sem] Oper.semAt_some
abbrev ED:=@World.putObj_heap_other
abbrev GI:=@Oper.semAt_some
abbrev KF:=@grownBy_putObj'
variable {α:Type}{e:En}{size B i ru jn q m N j k bc lb:Nat}{v nv hd x y z a b av v' cv fst:Value}{w w2 w1 w' w3 w4 w5:World}{U U' U0 U1:Nat->Nat}{o:Obj}{hs:List Value}{f:Ft}{ns:List Nd}{S:Nat->Prop}{cs:List Sv.Cond}
theorem Tryz.asJoin(xT:TypeId)(v:Value)(w:World):(Instr.typeAssert (.iface 208 v) xT 208 true).run Tryz.prog w=.ok (.tuple #[v,.bool true]) w:=by
 simp[Instr.typeAssert,run_underlying Tryz.underlying208]
theorem Tryz.asHold(xT:TypeId)(v:Value)(w:World):(Instr.typeAssert (.iface 209 v) xT 209 true).run Tryz.prog w=.ok (.tuple #[v,.bool true]) w:=by
 simp[Instr.typeAssert,run_underlying Tryz.underlying209]
theorem Tryz.notJoin(xT:TypeId)(v:Value)(w:World):(Instr.typeAssert (.iface 209 v) xT 208 true).run Tryz.prog w=.ok (.tuple #[.pointer none,.bool false]) w:=by
 simp[Instr.typeAssert,run_underlying Tryz.underlying208]
structure ReU(U U':Nat->Nat)(w:World):Prop where
 cells:∀i cs t fz,w.heap[i]?=some (.cells cs t fz)->U' i=U i
 low:∀i,U' i=U i\/U' i=0
theorem RowAt.blockCells{e:TypeId}{enc:α->List Value}{base:Nat}{l:List α}(h:RowAt e size enc base v l w){g:Nat}(hg:v.ownBlock=some g):∃cs fz,w.heap[g]?=some (.cells cs e fz):=by
 rcases h.2.2 with ⟨h1,_⟩|⟨g',cap',cur,h1,h2,h3,_⟩
 ·rw[h1] at hg;simp[Value.ownBlock] at hg
 ·rw[h1] at hg
  simp[Value.ownBlock] at hg;subst hg;exact⟨_,_,h3⟩
theorem TRow.re{t:Nat}{e:TypeId}{enc:α->List Value}{l:List α}(h:TRow U t e size enc v l w)(hu:ReU U U' w):TRow U' t e size enc v l w:=
 ⟨h.1,fun g hg=>by obtain⟨cs,fz,hc⟩:=h.1.blockCells hg;rw[hu.cells g _ _ _ hc];exact h.2 g hg⟩
theorem FtAt.re{U U':Nat->Nat}{g:Ft}{w:World}(h:FtAt U g w)(hu:ReU U U' w):FtAt U' g w:=by
 obtain⟨h1,h2,v,h3,h4⟩:=h;exact⟨by rw[hu.cells _ _ _ _ h3];exact h1,h2,v,h3,h4.re hu⟩
theorem NodeAt.re{U U':Nat->Nat}{q k b:Nat}{n:Nd}{nx tv lv ov fv:Value}{w:World}(h:NodeAt U q k b n nx tv lv ov fv w)(hu:ReU U U' w):NodeAt U' q k b n nx tv lv ov fv w:=
 ⟨h.blk,by rw[hu.cells _ _ _ _ h.blk];exact h.own,h.terms.re hu,h.links.re hu,h.toks.re hu,h.facts.re hu,fun g hg=>(h.fts g hg).re hu,fun t ht g hg=>(h.tfs t ht g hg).re hu,h.short,fun i hi=>by
  rcases hu.low i with e|e
  ·rw[e];exact h.low i hi
  ·rw[e];omega⟩
theorem LastAt.re{U U':Nat->Nat}{q b ru jn:Nat}{e:En}{tv wv:Value}{w:World}(h:LastAt U q b ru jn e tv wv w)(hu:ReU U U' w):LastAt U' q b ru jn e tv wv w:=
 ⟨h.blk,by rw[hu.cells _ _ _ _ h.blk];exact h.own,h.toks.re hu,h.wait.re hu,fun t ht g hg=>(h.tfs t ht g hg).re hu,fun t ht g hg=>(h.wfs t ht g hg).re hu,fun i hi=>by
  rcases hu.low i with e|e
  ·rw[e];exact h.low i hi
  ·rw[e];omega⟩
theorem SufAt.re{U U':Nat->Nat}{ru jn:Nat}{w:World}(hu:ReU U U' w):∀ {ns:List Nd} {q k:Nat} {e:En} {hd:Value},SufAt U ru jn q k ns e hd w->SufAt U' ru jn q k ns e hd w
 | [],_,_,_,_,⟨b,tv,wv,h1,h2⟩=>⟨b,tv,wv,h1,h2.re hu⟩
 | _::_,_,_,_,_,⟨b,nx,tv,lv,ov,fv,h1,h2,h3⟩=>⟨b,nx,tv,lv,ov,fv,h1,h2.re hu,SufAt.re hu h3⟩
def Ot(B:Nat)(U:Nat->Nat)(w:World):Nat->Nat:=fun i=>if i<B then U i else match w.heap[i]? with|some (.cells ..)=>U i|_=>0
theorem Yx(B:Nat)(U:Nat->Nat)(w:World):ReU U (Ot B U w) w:=
 ⟨fun i cs t fz h=>by simp[Ot,h],fun i=>by unfold Ot;split;exact .inl rfl;split<;>simp⟩
theorem Vf(hB:B<=i)(h:w.heap[i]?=some o)(ho:o.isCells=false):Ot B U w i=0:=by
 unfold Ot;rw[h,AO (by omega)];cases o<;>simp_all [Obj.isCells]
theorem Vg(hB:i<B):Ot B U w i=U i:=by
 unfold Ot;rw[AQ hB]
def HdsAt(U:Nat->Nat)(q:Nat)(ns:List Nd)(hs:List Value):Prop:=
 hs.length=ns.length/\∀p n,ns[p]?=some n->∃b,hs[p]?=some (.iface (C8 n.c.neg) (.pointer (some ⟨b,0,none⟩)))/\Bk U (4+3*(q+p)) b
def venc(v:Value):List Value:=[v]
structure ChainAt(U:Nat->Nat)(ru jn q b:Nat)(ns:List Nd)(e:En)(w:World):Prop where
 ex:∃nv hd hs lb,w.heap[b]?=some (.cells #[nv,hd,.pointer (some ⟨lb,0,none⟩)] 152 (0,0))/\U b=1/\TRow U 1 150 1 venc nv hs.reverse w/\HdsAt U q ns hs/\(∀h∈hs,h.oneCell'=true)/\Bk U (4+3*(q+ns.length)) lb/\SufAt U ru jn q 0 ns e hd w
def BKp(Bs:Nat)(nv:Value)(W W':World):Prop:=W'.heap[Bs]?=W.heap[Bs]?/\∀g,nv.ownBlock=some g->W'.heap[g]?=W.heap[g]?
theorem BKp.trans{Bs:Nat}{nv:Value}{A B C:World}(h:BKp Bs nv A B)(k:BKp Bs nv B C):BKp Bs nv A C:=⟨k.1.trans h.1,fun g hg=>(k.2 g hg).trans (h.2 g hg)⟩
theorem BKp.refl(Bs:Nat)(nv:Value)(A:World):BKp Bs nv A A:=⟨rfl,fun _ _=>rfl⟩
theorem BKp.row{Bs:Nat}{A B:World}(h:BKp Bs nv A B)(hr:RowAt 150 1 venc 0 nv hs A):RowAt 150 1 venc 0 nv hs B:=by
 refine⟨hr.1,hr.2.1,?_⟩;rcases hr.2.2 with h1|⟨g',cap',cur,h1,h2,h3,h4⟩
 ·exact .inl h1
 ·exact .inr ⟨g',cap',cur,h1,h2,by rw[h.2 g' (by rw[h1];rfl)];exact h3,h4⟩
def Yt(m:Nat)(hs:List Value)(x:Fin m):Array Value:=#[.int .i64 ((m:Int)-1-(x.1:Int)),hs[x.1]?.getD undef]
theorem Ys(F:Fence)(n:Nat)(hF:F.fn 135)(hro:F.round=none)(hn:1<=n)(l Bs m:Nat)(nv:Value)(hs:List Value)(hm:hs.length=m)(hm4:m<=1000)(J Jx:List (Fin m)->World->Prop)
 (hY:∀pre x W,J pre W->pre.length<m->YieldAt F (n-1) Tryz.prog l (Yt m hs x) W fun e W'=>
   (e=.returned (.bool true)/\J (pre++[x]) W'/\BKp Bs nv W W')\/(e=.returned (.bool false)/\Jx (pre++[x]) W'))
 (W:World)(QI:W.cell? ⟨Bs,0,none⟩=some nv)(hr:RowAt 150 1 venc 0 nv hs.reverse W)(h0:J [] W) :
  CallsIn F n Tryz.prog 135 #[.func (.yield l) #[] #[],.pointer (some ⟨Bs,0,none⟩)] W fun e W'=>(∃v,e=.returned v)/\
   ((∃ys,ys.map Fin.val=List.range m/\J ys W')\/(∃pre,True/\Jx pre W')):=by
 obtain⟨ao,cap,dw⟩:=hr.slice;rw[GF,hm] at dw;have hB0:=QI;subst dw;refine callsIn_of_wp Tryz.func135 rfl hF ?_ hro;simp only[Tryz.ntmps135,FO,AP,CE,Nat.reduceAdd,Nat.reduceSub,EW,EX,FN,FE,CW,CN];have gH:hs.reverse.length=m:=by rw[GF,hm]
 gi_wp2
 gi_loopw [3] (fun i wr=>∃(j:Nat) (pre:List (Fin m)),j<=m/\i=.int .i64 ((m:Int)-1-j)/\pre.map Fin.val=List.range j/\J pre wr/\BKp Bs (.slice ao m cap) W wr)
  (fun i _=>((intOf i)+1).toNat)
 case atStart=>exact⟨0,[],AG _,by simp,rfl,h0,BKp.refl _ _ _⟩
 case round=>
  obtain⟨j,pre,hj,rfl,hpre,hJs,dM⟩:=hrel;have hpl:pre.length=j:=by have:=BJ List.length hpre;simpa using this
  have hcB:wr.cell? ⟨Bs,0,none⟩=some (.slice ao m cap):=by
   unfold World.cell? at hB0⊢;rw[dM.1];exact hB0
  by_cases hlt:j<m
  ·have pK:=dM.row hr
   have iQ:j<hs.length:=by omega
   have hx:hs.reverse[m-1-j]?=some (hs[j]'iQ):=by
    rw[KX (by omega)];rw[show hs.length-1-(m-1-j)=j by omega,AB iQ]
   have PS:=pK.cells hx;obtain⟨fn,tmps,assign,body,hy,hR⟩:=hY pre ⟨j,hlt⟩ wr hJs (by omega);have hge:hs[j]?.getD undef=hs[j]'iQ:=by rw[AB iQ];rfl
   simp only[Yt,hge] at hy;obtain⟨g,aW,e1,hcg⟩:=PS;simp only[AH] at e1;obtain⟨rfl,hmm,rfl⟩:=e1;clear hmm;have hck:=hcg 0 (by omega);simp only[venc,BU,FB,EG] at hck;obtain⟨k,hk⟩:∃k,k=m-1-j:=⟨_,rfl⟩
   rw[<-hk] at hck;have he:(m:Int)-1-(j:Int)=(k:Int):=by omega
   have gI:k<m:=by omega
   generalize hs[j]'iQ=hv at hy hck;clear hcg hge hx pK;rw[he] at hy⊢;obtain⟨z,hz⟩:∃z:Int,z=(k:Int):=⟨_,rfl⟩
   rw[<-hz] at hy⊢;have hz0:0<=z:=by omega
   have OS:z<m:=by omega
   have YE:z.toNat=k:=by omega
   rw[<-YE] at hck;have HZ:=Ac hz;have HK:=Ac hk;clear hz YE he hk hm gH hpl iQ hY hr hB0;gi_wp2;refine hR.mono ?_;rintro e W3 (⟨rfl,hJ3,hk3⟩|⟨rfl,hJx3⟩)
   ·gi_wp2
    go_roundw
    case rel=>exact⟨j+1,pre++[⟨j,hlt⟩],by omega,by have:=Aa HZ;have:=Aa HK;simp;omega,by simp[hpre,List.range_succ],hJ3,dM.trans hk3⟩
    case measure=>simp[intOf];omega
   ·gi_wp2
    refine BO (results_none rfl _ _ _) rfl ?_;exact⟨⟨_,rfl⟩,.inr ⟨_,trivial,hJx3⟩⟩
  ·obtain rfl:j=m:=by omega
   gi_wp2;go_end0
   exact⟨⟨_,rfl⟩,.inl ⟨pre,hpre,hJs⟩⟩
theorem Tg(F:Fence)(n:Nat)(hF:F.fn 135)(hro:F.round=none)(hn:1<=n)(Bs m:Nat)(nv:Value)(hs:List Value)(hm:hs.length=m)(hm4:m<=1000)(w:World)(hB:Bs<w.heap.size)
 (QI:w.cell? ⟨Bs,0,none⟩=some nv)(hr:RowAt 150 1 venc 0 nv hs.reverse w) :
  SeqStopsK F n Tryz.prog 135 #[.pointer (some ⟨Bs,0,none⟩)] (Yt m hs) (BKp Bs nv) (fun ys=>ys.map Fin.val=List.range m) (fun _=>True) m w:=fun l J Jx W hW _ _ hY h0=>by
 have hk:BKp Bs nv w W:=⟨hW.block Bs hB,fun g hg=>hW.block g (hr.own g hg).2⟩
 refine Ys F n hF hro hn l Bs m nv hs hm hm4 J Jx hY W ?_ (hk.row hr) h0;unfold World.cell? at QI⊢;rw[hk.1];exact QI
theorem Q1j(F:Fence)(n:Nat)(hF:F.fn 101)(hro:F.round=none)(a:Option Addr)(len cap:Nat)(w:World) :
  CallsIn F n Tryz.prog 101 #[.slice a len cap] w fun e w'=>e=.returned (.func (.func 135) #[] #[.pointer (some ⟨w.heap.size,0,none⟩)])/\w'=w.alloc (.cells #[.slice a len cap] 148):=by
 refine callsIn_of_wp Tryz.func101 rfl hF ?_ hro;simp only[Tryz.ntmps101,FO,AP,CE,Nat.reduceAdd,Nat.reduceSub,EW,EX,FN,FE,CW,CN];gi_wp2;go_ret;exact⟨rfl,rfl⟩
theorem SufAt.bk{U:Nat->Nat}{ru jn:Nat}{w:World}:∀ {ns:List Nd} {q k p:Nat} {e:En} {hd:Value} {n:Nd},SufAt U ru jn q k ns e hd w->ns[p]?=some n->∃b,Bk U (4+3*(q+p)) b/\b<w.heap.size
 | [],_,_,_,_,_,_,_,h=>by simp at h
 | n::ns,q,k,0,e,hd,m,⟨b,nx,tv,lv,ov,fv,h1,h2,h3⟩,h=>⟨b,⟨h2.own,h2.low⟩,Ad h2.blk⟩
 | n::ns,q,k,p+1,e,hd,m,⟨b,nx,tv,lv,ov,fv,h1,h2,h3⟩,h=>by
  obtain⟨b',h4,h5⟩:=SufAt.bk (p:=p) h3 (by simpa using h);exact⟨b',by rw[show q+(p+1)=q+1+p by omega];exact h4,h5⟩
theorem SufAt.bkLast{U:Nat->Nat}{ru jn:Nat}{w:World}:∀ {ns:List Nd} {q k:Nat} {e:En} {hd:Value},SufAt U ru jn q k ns e hd w->∃b tv wv,Bk U (4+3*(q+ns.length)) b/\LastAt U (q+ns.length) b ru jn e tv wv w
 | [],_,_,_,_,⟨b,tv,wv,h1,h2⟩=>⟨b,tv,wv,⟨h2.own,h2.low⟩,h2⟩
 | n::ns,q,k,e,hd,⟨b,nx,tv,lv,ov,fv,h1,h2,h3⟩=>by
  obtain⟨b',dc,dT,h4,h5⟩:=SufAt.bkLast h3;rw[AP,show q+(ns.length+1)=q+1+ns.length by omega];exact⟨b',dc,dT,h4,h5⟩
theorem Bd.addAts{f:Ft}{ns:List Nd}{e:En}(h:Bd 16 1 ns e):∀(r:Nat) (ps:List Nat),ps.length=r->r<=4->Bd (16+r) (2 ^ r) (Dd f ps ns e).1 (Dd f ps ns e).2
 | 0,ps,hp,_=>by
  obtain rfl:=CM.1 hp;exact h
 | r+1,ps,hp,hr=>by
  have hne:ps≠[]:=by intro h;rw[h] at hp;simp at hp
  obtain⟨l,x,rfl⟩:∃l x,ps=l++[x]:=⟨_,_,(List.dropLast_concat_getLast hne).symm⟩
  rw[G7];have:=(Bd.addAts (f:=f) h r l (by simpa using hp) (by omega)).addAt (f:=f) (by omega) x;rw[GD,FZ];exact this
theorem WF.addAts{f:Ft}{A:List Nat}:∀(ps:List Nat) {ns:List Nd} {e:En},WF A ns->EndOk A ns e->WF A (Dd f ps ns e).1/\EndOk A (Dd f ps ns e).1 (Dd f ps ns e).2
 | [],_,_,h,he=>⟨h,he⟩
 | p::ps,ns,e,h,he=>by
  obtain⟨h1,h2⟩:=h.addAt (f:=f) p he;exact WF.addAts ps h1 h2
def CaddI(U0:Nat->Nat)(ru jn q:Nat)(hd:Value)(f:Ft)(ns:List Nd)(e:En)(w2:World)(m:Nat)(pre:List (Fin m))(W:World):Prop:=
 ∃U',SufAt U' ru jn q 0 (Dd f (pre.map Fin.val) ns e).1 (Dd f (pre.map Fin.val) ns e).2 hd W/\GrS (Am U0 q ns.length) w2 W/\(∀i,i<w2.heap.size->U' i=U0 i)/\∀i o,w2.heap.size<=i->W.heap[i]?=some o->o.isCells=false->U' i=0
theorem CaddI.own:OwnFrom w2.heap.size (CaddI U0 ru jn q hd f ns e w2 m):=by
 rintro pre W W' row⟨U',h1,h2,h3,h4⟩ hg hr
 have h0:∀r,row=some r->w2.heap.size<=r/\U' r=0:=fun r e=>by
  obtain⟨k1,o,k2,k3⟩:=hr r e;exact⟨k1,h4 r o k1 k2 k3⟩
 refine⟨Cj U' W 0,h1.keep (S:=fun i=>row=some i) (GrS.of hg (fun g e=>e)) (fun i hi hx=>?_) (fun i hi _=>Ak hi),h2.then hg (fun g e=>.inl (h0 g e).1),fun i hi=>?_,fun i o hi ho hc=>?_⟩
 ·have:=(h0 i hx).2
  omega
 ·rw[Ak (AZ hi h2.size)];exact h3 i hi
 ·by_cases hlt:i<W.heap.size
  ·rw[Ak hlt]
   by_cases hx:row=some i
   ·exact(h0 i hx).2
   ·exact h4 i o hi (by rw[<-hg.block i hlt (fun e=>hx e.symm)];exact ho) hc
  ·exact Bh (by omega)
theorem CaddI.step{W W':World}{pre:List (Fin m)}(x:Fin m)
 (h2:GrS (Am U0 q ns.length) w2 W)(h3:∀i,i<w2.heap.size->U1 i=U0 i)(h4:∀i o,w2.heap.size<=i->W.heap[i]?=some o->o.isCells=false->U1 i=0)
 (hp:Iu U1 ru jn q 0 (Dq f x.1 (Dd f (pre.map Fin.val) ns e).1 (Dd f (pre.map Fin.val) ns e).2) ns.length hd W W') :
  CaddI U0 ru jn q hd f ns e w2 m (pre++[x]) W'/\KeepsFrom w2.heap.size W W'/\∀i,i<w2.heap.size->¬ Am U0 q ns.length i->W'.heap[i]?=W.heap[i]?:=by
 obtain⟨U2,a1,a2,a3⟩:=hp;refine⟨⟨Ot w2.heap.size U2 W',?_,?_,fun i hi=>?_,fun i o hi ho hc=>Vf hi ho hc⟩,⟨a2.size,fun k o hk ho hc=>?_⟩,fun i hi hn=>?_⟩
 ·rw[CG,DN,KT,G7]
  exact a1.re (Yx w2.heap.size U2 W')
 ·refine h2.comp a2 (fun i hi hn hc=>hn ?_)
  unfold Am at hc⊢;rw[<-h3 i hi];exact hc
 ·rw[Vg hi,a3 i (AZ hi h2.size)];exact h3 i hi
 ·rw[a2.block k (Ad ho) (fun hx=>?_)]
  ·exact ho
  ·have:=h4 k o hk ho hc
   unfold Am at hx;omega
 ·refine a2.block i (AZ hi h2.size) (fun hx=>hn ?_)
  unfold Am at hx⊢;rw[<-h3 i hi];exact hx
theorem Q3b(ru jn:Nat)(U:Nat->Nat)(q b:Nat)(ns:List Nd)(e:En)(f:Ft)(w:World)(hC:ChainAt U ru jn q b ns e w)(hW:WF [] ns)(hE:EndOk [] ns e)(hB:Bd 16 1 ns e)(hl:ns.length<=4)(hf:FtAt U f w) :
  Calls Tryz.prog 69 #[.pointer (some ⟨b,0,none⟩),Ee f] w fun e' w'=>e'=.returned (.tuple #[])/\∃U',ChainAt U' ru jn q b (Da f ns.length ns e).1 (Da f ns.length ns e).2 w'/\GrS (Am U q ns.length) w w'/\∀i,i<w.heap.size->U' i=U i:=by
 obtain⟨nv,hd,hs,lb,c1,c2,c3,c4,c5,c6,c7⟩:=hC.ex;obtain⟨ao,cap,dw⟩:=c3.1.slice;have hcell:w.cell? ⟨b,0,none⟩=some nv:=by simp[World.cell?,c1]
 have HNV:=Ac dw;generalize hs.reverse.length=m0 at dw;subst dw;clear hC;refine(callsIn_wide (n:=3)).1 ?_;refine callsIn_of_wp_marks Tryz.func69 rfl trivial ?_ rfl;simp only[Tryz.ntmps69,FO,AP,CE,Nat.reduceAdd,Nat.reduceSub,EW,EX,FN,FE,CW,CN];unfold Ee;have wD:(w.alloc (.cells #[.pointer (some ⟨f.blk,0,none⟩)] 90)).cell? ⟨b,0,none⟩=some (.slice ao m0 cap):=(AA w _ none).cell hcell (by simp);have HW:=Ac hW;have HE:=Ac hE;have HB:=Ac hB;have HL:=Ac hl;have HF:=Ac hf;have H3:=Ac c3;have H4:=Ac c4;have H5:=Ac c5;have H6:=Ac c6;have H7:=Ac c7;clear hW hE hB hl hf c3 c4 c5 c6 c7
 gi_wp2_with (refine⟨trivial,?_⟩;gi_at_call 101;refine(Q1j Fence.wide _ trivial rfl _ _ _ _).mono ?_;rintro e w'⟨rfl,rfl⟩)
 have a7:=Dm w (.cells #[.pointer (some ⟨f.blk,0,none⟩)] 90) (.cells #[.slice ao m0 cap] 148);have hx1:((w.alloc (.cells #[.pointer (some ⟨f.blk,0,none⟩)] 90)).alloc (.cells #[.slice ao m0 cap] 148)).heap[w.heap.size]?=some (.cells #[.pointer (some ⟨f.blk,0,none⟩)] 90 (0,0)):=by rw[CY _ _ _ (by simp)];exact AR _ _
 have hx2:((w.alloc (.cells #[.pointer (some ⟨f.blk,0,none⟩)] 90)).alloc (.cells #[.slice ao m0 cap] 148)).heap[w.heap.size+1]?=some (.cells #[.slice ao m0 cap] 148 (0,0)):=by
  have:=AR (w.alloc (.cells #[.pointer (some ⟨f.blk,0,none⟩)] 90)) (.cells #[.slice ao m0 cap] 148);simpa using this
 have hsz:((w.alloc (.cells #[.pointer (some ⟨f.blk,0,none⟩)] 90)).alloc (.cells #[.slice ao m0 cap] 148)).heap.size=w.heap.size+2:=by simp
 obtain⟨w2,hw2⟩:∃w2,(w.alloc (.cells #[.pointer (some ⟨f.blk,0,none⟩)] 90)).alloc (.cells #[.slice ao m0 cap] 148)=w2:=⟨_,rfl⟩
 rw[hw2] at a7 hx1 hx2 hsz⊢;clear hw2 wD hcell;have hs0:SufAt (Cj U w 0) ru jn q 0 ns e hd w2:=(Aa H7).keep (S:=fun _=>False) (GrS.of a7 (by simp)) (by simp) (fun i hi _=>Ak hi);have oG:FtAt (Cj U w 0) f w2:=(Aa HF).keep (S:=fun _=>False) (GrS.of a7 (by simp)) (by simp) (fun i hi h=>by rw[Ak hi];exact h);have hrow:=(Aa H3).1.gr a7;have TM:=(Aa H4).1;have hl4:=Aa HL;have hcB:w2.cell? ⟨w.heap.size+1,0,none⟩=some (.slice ao m0 cap):=by simp[World.cell?,hx2]
 refine wpIn_rangeFunc_ownG rfl (by omega) (gf:=135) (lb:=#[.pointer (some ⟨w.heap.size+1,0,none⟩)]) rfl trivial (enters_of Tryz.func135 (by kernel_rfl) rfl)
  (Tg Fence.wide _ trivial rfl (by omega) (w.heap.size+1) ns.length (.slice ao m0 cap) hs TM (by omega) w2 (by omega) hcB hrow) BKp.trans ?hkb (Below.refl _ _) (fun _=>rfl)
  (CaddI (Cj U w 0) ru jn q hd f ns e w2 ns.length) (fun _ _ _=>False) CaddI.own (fun _ _ _ _ _ hs _ _=>hs)
  ⟨Cj U w 0,hs0,GrS.refl _ _,fun _ _=>rfl,fun i o hi _ _=>Bh (by omega)⟩
  (fun x=>{ tmps:=#[.pointer (some ⟨b,0,none⟩),.pointer (some ⟨f.blk,0,none⟩),undef,.pointer (some ⟨w.heap.size,0,none⟩),undef,hs[x.1]?.getD undef,undef,undef,.pointer (some ⟨b,0,none⟩),.pointer (some ⟨b,0,none⟩),.pointer (some ⟨b,0,none⟩),.slice ao m0 cap,.func (.func 135) #[] #[.pointer (some ⟨w.heap.size+1,0,none⟩)],.int .i64 ((ns.length:Int)-1-(x.1:Int)),hs[x.1]?.getD undef,undef,undef,undef,undef,undef,undef,undef,undef,undef,undef,undef,undef,undef],defers:=[] }) ?assign ?body ?done ?stop
 case hkb=>
  intro W l o o' hl ho _ _;have hne:∀i,i<w2.heap.size->(W.putObj l o').heap[i]?=W.heap[i]?:=fun i hi=>ED (by omega)
  exact⟨hne _ (by omega),fun g hg=>hne g (hrow.own g hg).2⟩
 case assign=>
  intro l x W K hK;unfold Yt;dsimp only at hK⊢;generalize hs[x.1]?.getD undef=hv at hK⊢;gi_wp2;exact hK
 case body=>
  rintro l pre x W⟨U1,i1,i2,i3,i4⟩ hpl;have yu:pre.length<=3:=by omega
  obtain⟨wf,eo⟩:=(Aa HW).addAts (f:=f) (pre.map Fin.val) (Aa HE);have bd:=(Aa HB).addAts (f:=f) pre.length (pre.map Fin.val) (by simp) (by omega);have hlen:=Lv f (pre.map Fin.val) ns e;obtain⟨n,hn⟩:∃n,(Dd f (pre.map Fin.val) ns e).1[x.1]?=some n:=⟨_,AB (by rw[hlen];exact x.2)⟩
  obtain⟨n0,gD⟩:∃n0,ns[x.1]?=some n0:=⟨_,AB x.2⟩
  have aJ:n.c.neg=n0.c.neg:=by
   have h:=BJ (fun l:List Bool=>l[x.1]?) (Kl f (pre.map Fin.val) ns e);simp only[Ma,BR,hn,gD,DZ,AE] at h;exact h
  obtain⟨bx,hb1,hb2⟩:=(Aa H4).2 x.1 n0 gD;obtain⟨wu,hb3,hb4⟩:=(Aa H7).bk gD;obtain rfl:bx=wu:=hb2.uniq hb3;have aH:Bk U1 (4+3*(q+x.1)) bx:=hb2.old hb4 (fun i hi=>by rw[i3 i (by omega),Ak hi]);have zt:FtAt U1 f W:=oG.keep i2 (fun i hi hc=>by unfold Am at hc;omega) (fun i hi h=>by rw[i3 i hi];exact h)
  have hbound:2*2 ^ pre.length*20 ^ (Dd f (pre.map Fin.val) ns e).1.length<=1000000000:=by
   rw[hlen];have e1:2 ^ pre.length<=2 ^ 3:=DL (by omega) yu;have e2:20 ^ ns.length<=20 ^ 4:=DL (by omega) hl4;have e3:2*2 ^ pre.length*20 ^ ns.length<=16*20 ^ 4:=Nat.mul_le_mul (by omega) e2;omega
  have hA:=U5 ru jn U1 f W zt x.1 [] q bx (16+pre.length) (2 ^ pre.length) n _ _ hd hn aH i1 wf eo bd (by omega) (by rw[hlen];exact hl4) hbound;rw[hlen,aJ] at hA
  have UK:W.cell? ⟨w.heap.size,0,none⟩=some (.pointer (some ⟨f.blk,0,none⟩)):=by
   have:=i2.blk hx1 (by unfold Am;rw[Bh (AW _)];omega);simp[World.cell?,this]
  have hend:∀W',Iu U1 ru jn q 0 (Dq f x.1 (Dd f (pre.map Fin.val) ns e).1 (Dd f (pre.map Fin.val) ns e).2) ns.length hd W W'->
    KeepsFrom w2.heap.size W W'/\BKp (w.heap.size+1) (.slice ao m0 cap) W W'/\CaddI (Cj U w 0) ru jn q hd f ns e w2 ns.length (pre++[x]) W':=by
   intro W' hp;obtain⟨s1,s2,s3⟩:=CaddI.step x i2 i3 i4 hp;refine⟨s2,⟨s3 _ (by omega) (by unfold Am;rw[Bh (by omega)];omega),fun g hg=>s3 g (hrow.own g hg).2 ?_⟩,s1⟩;have h1:=(Aa H3).2 g hg;have h2:=((Aa H3).1.own g hg).2;unfold Am;rw[Ak h2];omega
  have bD:=Ac hend;have rG:hs[x.1]?.getD undef=.iface (C8 n0.c.neg) (.pointer (some ⟨bx,0,none⟩)):=by rw[hb1];rfl
  clear hend wf eo bd hlen aH zt hbound hb1 hb2 hb3 hb4 hn gD aJ i1 i2 i3 i4 hs0 oG hrow a7 hx1 hx2 hpl yu hl4 TM hcB hsz;rw[rG];clear rG;unfold Ee at hA;have tJ:=Tryz.asJoin;have tH:=Tryz.asHold;have tN:=Tryz.notJoin;cases et:n0.c.neg with
  | true=>
   rw[et] at hA;simp only[U8,if_true] at hA;unfold C8;rw[AQ rfl];clear et
   gi_wp2_with (refine⟨trivial,?_⟩;gi_at_call 103;refine(CallsIn.inRound l (callsIn_wide.2 hA)).mono ?_;rintro e w'⟨rfl,hp⟩)
   exact Aa bD _ hp
  | false=>
   rw[et] at hA;simp only[U8,BZ,if_false] at hA;unfold C8;rw[AO (by simp)];clear et
   gi_wp2_with (refine⟨trivial,?_⟩;gi_at_call 102;refine(CallsIn.inRound l (callsIn_wide.2 hA)).mono ?_;rintro e w'⟨rfl,hp⟩)
   exact Aa bD _ hp
 case done=>
  rintro D ys W hD RP⟨U1,i1,i2,i3,i4⟩ hK;gi_wp2;refine⟨by simp,.inl ⟨_,_,rfl,run_takeDeferred hK,?_⟩⟩;refine⟨_,results_none rfl _ _ _,rfl,?_⟩;obtain⟨U2,j1,j2,j3,_⟩:=CaddI.own ys W _ (some D) ⟨U1,i1,i2,i3,i4⟩ (KF W D (.deferred none)) (fun r hr=>by cases hr;exact⟨hD,_,hK,rfl⟩);rw[RP,Ga] at j1;have hold:∀i,i<w.heap.size->U2 i=U i:=fun i hi=>by rw[j3 i (by omega),Ak hi]
  have hG:GrS (Am U q ns.length) w (W.putObj D (.deferred none)):=by
   refine(GrS.of a7 (by simp)).comp j2 (fun i hi hn hc=>hn ?_);unfold Am at hc⊢;rw[Ak hi] at hc;exact hc
  have aJ:=Kl f (List.range ns.length) ns e;have hlen:=Lv f (List.range ns.length) ns e;rw[Ga] at aJ hlen;have dF:∀i,U i=1->¬ Am U q ns.length i:=fun i hi hc=>by unfold Am at hc;omega
  refine⟨U2,⟨.slice ao m0 cap,hd,hs,lb,hG.blk c1 (dF b c2),by rw[hold b (Ad c1)];exact c2,(Aa H3).keep2 hG dF (fun i hi h=>by rw[hold i hi];exact h),⟨by rw[hlen];exact TM,fun p n hn=>?_⟩,Aa H5,?_,j1⟩,hG,hold⟩
  ·have hp:p<ns.length:=by rw[<-hlen];exact(AL.1 hn).1
   have gD:ns[p]?=some (ns[p]'hp):=AB hp;have h:=BJ (fun l:List Bool=>l[p]?) aJ;simp only[Ma,BR,hn,gD,DZ,AE] at h;obtain⟨bx,hb1,hb2⟩:=(Aa H4).2 p _ gD;obtain⟨wu,hb3,hb4⟩:=(Aa H7).bk gD;obtain rfl:bx=wu:=hb2.uniq hb3;exact⟨bx,by rw[h];exact hb1,hb2.old hb4 hold⟩
  ·obtain⟨b',dc,dT,hb3,hb4⟩:=(Aa H7).bkLast
   obtain rfl:=(Aa H6).uniq hb3;rw[hlen];exact(Aa H6).old (Ad hb4.blk) hold
 case stop=>
  rintro D c pre W _ _ h _;exact h.elim
end Go.Proofs.YtolhbeekfjnfmaaGreatDoor
namespace Go.Proofs.YtolhbeekfjnfmaaGreatDoor
open Go.RowKit
variable {α:Type}{e:En}{size B i ru jn q m N j k bc lb:Nat}{v nv hd x y z a b av v' cv fst:Value}{w w2 w1 w' w3 w4 w5:World}{U U' U0 U1:Nat->Nat}{o:Obj}{hs:List Value}{f:Ft}{ns:List Nd}{S:Nat->Prop}{cs:List Sv.Cond}
def SAt(N:Nat)(x y z:Value)(w:World):Prop:=w.heap[N]?=some (.cells #[x,y,z] 289 (0,0))
theorem SAt.c(h:SAt N x y z w):w.cell? ⟨N,0,none⟩=some x/\w.cell? ⟨N,1,none⟩=some y/\w.cell? ⟨N,2,none⟩=some z:=by
 unfold SAt at h;simp[World.cell?,h]
theorem SAt.fz(h:SAt N x y z w)(o:Nat):w.frozen? ⟨N,o,none⟩=false:=by
 unfold SAt at h;simp[World.frozen?,h]
theorem SAt.set3{c:Value}(h:SAt N a b c w)(x y z:Value):SAt N x y z (((w.setCell ⟨N,0,none⟩ x).setCell ⟨N,1,none⟩ y).setCell ⟨N,2,none⟩ z):=by
 unfold SAt at h⊢;have h1:=BB w N 0 _ _ x h;have h2:=BB _ N 1 _ _ y h1;have h3:=BB _ N 2 _ _ z h2;rw[h3];rfl
theorem SAt.al(h:SAt N x y z w)(o:Obj):SAt N x y z (w.alloc o):=by
 unfold SAt at h⊢;rw[CY _ _ _ (Ad h)];exact h
abbrev SsAt(v:Value)(ss:List Site)(w:World):Prop:=RowAt 289 3 Q32 0 v ss w
theorem Z9(s:Site):∀c∈Q32 s,c.oneCell'=true:=by
 intro c hc;simp[Q32] at hc;rcases hc with rfl|rfl|rfl<;>rfl
def Qq(r:Option Site):Value:=match r with
 | none=>.tuple #[.agg #[.int .u8 0,.int .i64 0,.int .i64 0],.bool false]
 | some s=>.tuple #[.agg #[.int .u8 s.letter.toNat,.int .i64 s.fact,.int .i64 s.place],.bool true]
theorem Q3g(v:Value)(ss:List Site)(n:UInt8)(w:World)(hb:SsAt v ss w)(hl:ss.length<=1000) :
  Calls Tryz.prog 160 #[v,.int .u8 n.toNat] w fun e w'=>e=.returned (Qq (Site.find ss n))/\w.grownBy w' none:=by
 obtain⟨ao,cap,rfl⟩:=hb.slice;obtain⟨r,hr⟩:∃r,Site.find ss n=r:=⟨_,rfl⟩
 have HR:=Ac hr;rw[hr];clear hr;go_enter Tryz.func160,Tryz.ntmps160;go_wp2;go_loopw [10] (fun x w'=>∃k:Nat,k<=ss.length/\x=.int .i64 k/\Site.find (ss.drop k) n=r/\w.grownBy w' none/\SAt w.heap.size (.int .u8 0) (.int .i64 0) (.int .i64 0) w') (fun x _=>ss.length-(intOf x).toNat)
 case atStart=>exact⟨0,AG _,rfl,Aa HR,AA _ _ _,AR _ _⟩
 case round=>
  clear HR;obtain⟨k,hk,rfl,hr,hg,hS⟩:=hrel;by_cases hlt:k<ss.length
  ·have hd:decide (k<ss.length)=true:=by simpa using hlt
   obtain⟨p,hp⟩:∃p,ss[k]?=some p:=⟨ss[k],AB hlt⟩
   rw[A0 hp] at hr;obtain⟨g,cap',hv,hc⟩:=(hb.gr hg).cells hp;simp only[AH,BP] at hv;obtain⟨rfl,rfl⟩:=hv;have c0:wr.cell? ⟨g,k*3,none⟩=some (.int .u8 p.letter.toNat):=hc 0 (by omega);have c1:wr.cell? ⟨g,k*3+1,none⟩=some (.int .i64 p.fact):=hc 1 (by omega);have c2:wr.cell? ⟨g,k*3+2,none⟩=some (.int .i64 p.place):=hc 2 (by omega);unfold Site.find at hr;have HR:=Ac hr;have hS1:=hS.al (.cells #[.int .u8 p.letter.toNat,.int .i64 p.fact,.int .i64 p.place] 289);obtain⟨d0,d1,d2⟩:=hS1.c;have z0:=hS1.fz 0;have z1:=hS1.fz 1;have z2:=hS1.fz 2;have HS:=Ac hS;have xy:=Ac hS1;clear hr hc hp hS hS1;by_cases he:p.letter=n
   ·have hr:=Aa HR
    rw[AQ he] at hr;subst hr;clear HR;subst he;have bZ:((p.letter.toNat:Int)==(p.letter.toNat:Int))=true:=by simp
    go_wp2;have k3:=Cg (wr.alloc (.cells #[.int .u8 p.letter.toNat,.int .i64 p.fact,.int .i64 p.place] 289)) w.heap.size (.int .u8 p.letter.toNat) (.int .i64 p.fact) (.int .i64 p.place);obtain⟨q0,q1,q2⟩:=((Aa xy).set3 (.int .u8 p.letter.toNat) (.int .i64 p.fact) (.int .i64 p.place)).c;refine BO (v:=Qq (some p)) (by simp[Qq,results,Tryz.results160,go_sem,q0,q1,q2]) rfl ⟨rfl,Bi (Ab hg (AA _ _ _)) k3 (AW _)⟩
   ·have hr:=Aa HR
    rw[AO he] at hr;have cD:=Ac hr;clear hr HR
    have bZ:((p.letter.toNat:Int)==(n.toNat:Int))=false:=by
     simp only[beq_eq_false_iff_ne,ne_eq];intro h;exact he (JB.1 (by omega))
    go_wp2;go_roundw
    case rel=>exact⟨k+1,by omega,by go_num,Aa cD,Ab hg (AA _ _ _),Aa xy⟩
    case measure=>simp[intOf];omega
  ·have hd:decide (k<ss.length)=false:=by simpa using hlt
   have e:ss.drop k=[]:=BD (by omega);rw[e] at hr;have hr2:none=r:=hr;subst hr2;obtain⟨d0,d1,d2⟩:=hS.c;have z0:=hS.fz 0;have z1:=hS.fz 1;have z2:=hS.fz 2;have HS:=Ac hS;clear hS hr;go_wp2;have k3:=Cg wr w.heap.size (.int .u8 0) (.int .i64 0) (.int .i64 0);obtain⟨q0,q1,q2⟩:=((Aa HS).set3 (.int .u8 0) (.int .i64 0) (.int .i64 0)).c;refine BO (v:=Qq none) (by simp[Qq,results,Tryz.results160,go_sem,q0,q1,q2]) rfl ⟨rfl,Bi hg k3 (AW _)⟩
theorem Ly(k:Nat)(t:Sv.Term):∀(ts:List Sv.Term) (p:Nat),Site.bindT k p (ts++[t])=Site.bindT k p ts++(if t.sort=1 then [⟨t.letter,k,p+ts.length⟩] else [])
 | [],p=>by simp[Site.bindT]
 | u::ts,p=>by
  rw[CN,Site.bindT,Site.bindT,Ly k t ts (p+1),BQ,AP,show p+1+ts.length=p+(ts.length+1) by omega]
theorem Ko(k:Nat):∀(ts:List Sv.Term) (p:Nat),(Site.bindT k p ts).length<=ts.length
 | [],p=>by simp[Site.bindT]
 | u::ts,p=>by
  have:=Ko k ts (p+1);unfold Site.bindT;rw[AK,AP];split<;>simp<;>omega
theorem Hz{l:List α}{t:α}(h:l[j]?=some t):l.take (j+1)=l.take j++[t]:=by
 rw[CZ,h];rfl
theorem Tryz.infoSite:(Tryz.prog.info? 289).map (fun i=>(i.zero,i.size,i.bytes))=some (some (.agg #[.int .u8 0,.int .i64 0,.int .i64 0]),3,24):=by kernel_rfl
def BindPost(av:Value)(l:List Site)(w w':World)(v':Value):Prop:=
 SsAt v' l w'/\GrS (fun i=>av.ownBlock=some i) w w'/\∀g,v'.ownBlock=some g->av.ownBlock=some g\/w.heap.size<=g
theorem BindPost.step{l l':List Site}(h:BindPost av l w w1 v)(h2:BindPost v l' w1 w2 v'):BindPost av l' w w2 v':=by
 obtain⟨a1,a2,a3⟩:=h;obtain⟨b1,b2,b3⟩:=h2;refine⟨b1,a2.comp b2 (fun i hi hn hx=>?_),fun g hg=>?_⟩
 ·rcases a3 i hx with h|h
  ·exact hn h
  ·omega
 ·rcases b3 g hg with h|h
  ·exact a3 g h
  ·exact .inr (AU a2.size h)
theorem BindPost.al{l:List Site}(h:BindPost av l w w1 v)(hg:w1.grownBy w2 none):BindPost av l w w2 v:=
 ⟨h.1.gr hg,h.2.1.then hg (by simp),h.2.2⟩
theorem Yu(av:Value)(ss:List Site)(k:Nat)(tv:Value)(ts:List Sv.Term)(w:World)(hA:SsAt av ss w)(hT:RowAt 258 3 tmenc 0 tv ts w)(hne:∀g,av.ownBlock=some g->tv.ownBlock≠some g)(hl:ss.length<=1000)(ht:ts.length<=1000) :
  Calls Tryz.prog 134 #[av,.int .i64 k,tv] w fun e w'=>∃v',e=.returned v'/\BindPost av (ss++Site.bindT k 0 ts) w w' v':=by
 obtain⟨ao,cap,rfl⟩:=hT.slice;obtain⟨bf,aC,kS⟩:=hA.slice;obtain⟨WH,qJ⟩:∃x,x=av:=⟨_,rfl⟩
 have hB0:BindPost WH (ss++Site.bindT k 0 (ts.take 0)) w w av:=by rw[qJ];exact⟨by simpa[Site.bindT] using hA,GrS.refl _ _,fun g hg=>.inl hg⟩
 rw[<-qJ] at hne;have HX:=Ac qJ;clear qJ;subst kS;go_enter Tryz.func134,Tryz.ntmps134;go_wp2;have jh:=Ac hne;clear hne hA;go_loopw [0,11] (fun a x w'=>∃j:Nat,j<=ts.length/\x=.int .i64 j/\BindPost WH (ss++Site.bindT k 0 (ts.take j)) w w' a) (fun _ x _=>ts.length-(intOf x).toNat)
 case atStart=>exact⟨0,AG _,rfl,hB0⟩
 case round=>
  clear hB0;obtain⟨j,hj,rfl,hB⟩:=hrel;by_cases hlt:j<ts.length
  ·have hd:decide (j<ts.length)=true:=by simpa using hlt
   obtain⟨t,hp⟩:∃t,ts[j]?=some t:=⟨ts[j],AB hlt⟩
   have fM:RowAt 258 3 tmenc 0 (.slice ao ts.length cap) ts wr:=hB.2.1.row hT (fun g hg hx=>Aa jh g hx hg);obtain⟨g,cap',hv,hc⟩:=fM.cells hp;simp only[AH,BP] at hv;obtain⟨rfl,rfl⟩:=hv;have c0:wr.cell? ⟨g,j*3,none⟩=some (.int .i64 t.sort):=hc 0 (by omega);have c1:wr.cell? ⟨g,j*3+1,none⟩=some (.int .u8 t.letter.toNat):=hc 1 (by omega);have c2:wr.cell? ⟨g,j*3+2,none⟩=some (.int .i64 t.value):=hc 2 (by omega);have e1:=Hz hp;have e2:=Ly k t (ts.take j) 0;rw[BL,CB hj,BV,<-e1] at e2;have hbl:=Ko k (ts.take j) 0;rw[BL,CB hj] at hbl;obtain⟨mo,b8,LQ⟩:=hB.1.slice;generalize VL:(ss++Site.bindT k 0 (ts.take j)).length=LL at LQ;have hLL2:LL<=2000:=by rw[<-VL,AK];omega
   subst LQ;have HB:=Ac hB;have E2:=Ac e2;have yB:=Ac VL;clear fM hc hB e1 e2 hbl hp hT VL;by_cases hs:t.sort=1
   ·have bZ:((t.sort:Int)==1)=true:=by simp[hs]
    have e2:=Aa E2;rw[AQ hs] at e2;have aj:=Dm wr (.cells #[.int .i64 t.sort,.int .u8 t.letter.toNat,.int .i64 t.value] 258) (.cells #[.int .u8 t.letter.toNat,.int .i64 k,.int .i64 j] 289);have hB2:=(Aa HB).al aj
    have aG:SsAt (.slice (some ⟨wr.heap.size+1,0,none⟩) 1 1) [⟨t.letter,k,j⟩] ((wr.alloc (.cells #[.int .i64 t.sort,.int .u8 t.letter.toNat,.int .i64 t.value] 258)).alloc (.cells #[.int .u8 t.letter.toNat,.int .i64 k,.int .i64 j] 289)):=by
     have:=(RowAt.lit1 (e:=289) Sh (wr.alloc (.cells #[.int .i64 t.sort,.int .u8 t.letter.toNat,.int .i64 t.value] 258)) ⟨t.letter,k,j⟩ #[.int .u8 t.letter.toNat,.int .i64 k,.int .i64 j] rfl).weak (AG _);simpa using this
    have hr2:=hB2.1;have fQ:=Ac hB2;have hE3:=Ac e2;clear aj hB2 e2 hs
    go_wp2_with (at_builtin;refine Cb rfl _ _ 260 rfl Tryz.underlying260 Tryz.infoSite rfl (by decide) rfl hr2 rfl aG (by simp) (fun y hy=>Z9 y) (by unfold maxLen;rw[Aa yB];simp;omega) (by rw[Aa yB];simp;omega) ?_)
    intro v5 w5 ax aP
    have xq:BindPost WH (ss++Site.bindT k 0 (ts.take (j+1))) w w5 v5:=by
     rw[Aa hE3];exact(Aa fQ).step ⟨ax,aP.gr (fun g hg=>hg),aP.own⟩
    have OI:=Ac xq;clear xq ax aP hr2 aG;go_wp2;go_roundw
    case rel=>exact⟨j+1,by omega,by go_num,Aa OI⟩
    case measure=>simp[intOf];omega
   ·have bZ:((t.sort:Int)==1)=false:=by simp;omega
    have e2:=Aa E2;rw[AO hs,BM] at e2;have aj:=AA wr (.cells #[.int .i64 t.sort,.int .u8 t.letter.toNat,.int .i64 t.value] 258) none;have xq:=(Aa HB).al aj;rw[<-e2] at xq;have OI:=Ac xq;clear xq aj e2 hs;go_wp2;go_roundw
    case rel=>exact⟨j+1,by omega,by go_num,Aa OI⟩
    case measure=>simp[intOf];omega
  ·have hd:decide (j<ts.length)=false:=by simpa using hlt
   have e:ts.take j=ts:=CA (by omega);rw[e] at hB;have HB:=Ac hB;clear hB;go_wp2;go_ret;have h:=Aa HX;rw[h] at HB;exact⟨_,rfl,Aa HB⟩
theorem Xa(ss:List Site)(t:Sv.Term):∀(ts:List Sv.Term) (p:Nat),Lnk.of ss p (ts++[t])=Lnk.of ss p ts++(if t.sort=1 then (match Site.find ss t.letter with|none=>[]|some s=>[⟨p+ts.length,s⟩]) else [])
 | [],p=>by
  by_cases h:t.sort=1
  ·cases hf:Site.find ss t.letter<;>simp[Lnk.of,h,hf]
  ·simp[Lnk.of,h]
 | u::ts,p=>by
  rw[CN,Lnk.of,Lnk.of,Xa ss t ts (p+1),BQ,AP,show p+1+ts.length=p+(ts.length+1) by omega]
theorem Q03(ss:List Site):∀(ts:List Sv.Term) (p:Nat),(Lnk.of ss p ts).length<=ts.length
 | [],p=>by simp[Lnk.of]
 | u::ts,p=>by
  have:=Q03 ss ts (p+1);unfold Lnk.of;rw[AK,AP];split
  ·split<;>simp<;>omega
  ·simp;omega
theorem Zq(l:Lnk):∀c∈Q15 l,c.oneCell'=true:=by
 intro c hc;simp[Q15] at hc;rcases hc with rfl|rfl|rfl|rfl<;>rfl
theorem Tryz.infoLink:(Tryz.prog.info? 293).map (fun i=>(i.zero,i.size,i.bytes))=some (some (.agg #[.int .i64 0,.int .u8 0,.int .i64 0,.int .i64 0]),4,32):=by kernel_rfl
abbrev LsAt(v:Value)(l:List Lnk)(w:World):Prop:=RowAt 293 4 Q15 0 v l w
def MAt(N:Nat)(x y z:Value)(w:World):Prop:=w.heap[N]?=some (.cells #[x,y,z] 216 (0,0))
theorem MAt.c(h:MAt N x y z w):w.cell? ⟨N,0,none⟩=some x/\w.cell? ⟨N,1,none⟩=some y/\w.cell? ⟨N,2,none⟩=some z:=by
 unfold MAt at h;simp[World.cell?,h]
theorem MAt.fz(h:MAt N x y z w)(o:Nat):w.frozen? ⟨N,o,none⟩=false:=by
 unfold MAt at h;simp[World.frozen?,h]
theorem MAt.set3{c:Value}(h:MAt N a b c w)(x y z:Value):MAt N x y z (((w.setCell ⟨N,0,none⟩ x).setCell ⟨N,1,none⟩ y).setCell ⟨N,2,none⟩ z):=by
 unfold MAt at h⊢;have h1:=BB w N 0 _ _ x h;have h2:=BB _ N 1 _ _ y h1;have h3:=BB _ N 2 _ _ z h2;rw[h3];rfl
theorem MAt.set2{c:Value}(h:MAt N a b c w)(z:Value):MAt N a b z (w.setCell ⟨N,2,none⟩ z):=by
 unfold MAt at h⊢;rw[BB w N 2 _ _ z h];rfl
theorem MAt.gr{row:Option Nat}(h:MAt N x y z w)(hg:w.grownBy w' row)(hr:row≠some N):MAt N x y z w':=by
 unfold MAt at h⊢;rw[hg.block N (Ad h) (fun e=>hr e.symm)];exact h
theorem Longer.grown{n:Nat}{a c:World}(hl:Longer v v' n m a c)(h:w.grownBy a none)(ho:∀g,v.ownBlock=some g->w.heap.size<=g):w.grownBy c none:=by
 rcases hl with ⟨g,cap,h1,h2,h3⟩|⟨h1,_⟩
 ·exact Bi h h3 (ho g (by rw[h1];rfl))
 ·exact Ab h h1
def NcI(w:World)(kd:Nat)(tv:Value)(l:List Lnk)(w':World):Prop:=
 ∃lv,w.grownBy w' none/\MAt (w.heap.size+1) (.int .i64 0) (.slice none 0 0) (.slice none 0 0) w'/\MAt (w.heap.size+1+1) (.int .i64 kd) tv lv w'/\LsAt lv l w'/\(∀g,lv.ownBlock=some g->w.heap.size+3<=g)
theorem O6(av:Value)(ss:List Site)(c:Sv.Cond)(tv:Value)(w:World)(hA:SsAt av ss w)(hT:RowAt 258 3 tmenc 0 tv c.terms w)(hl:ss.length<=1000)(ht:c.terms.length<=1000) :
  Calls Tryz.prog 133 #[.agg #[.bool c.neg,.int .i64 c.kind,tv],av] w fun e w'=>∃lv,e=.returned (.agg #[.int .i64 c.kind,tv,lv])/\w.grownBy w' none/\LsAt lv (Lnk.of ss 0 c.terms) w'/\∀g,lv.ownBlock=some g->w.heap.size<=g:=by
 obtain⟨ts,bm⟩:∃ts,c.terms=ts:=⟨_,rfl⟩
 obtain⟨kd,tR⟩:∃kd,c.kind=kd:=⟨_,rfl⟩
 obtain⟨ng,et⟩:∃ng,c.neg=ng:=⟨_,rfl⟩
 rw[bm] at hT ht⊢;rw[tR,et];clear bm tR et c;obtain⟨ao,cap,rfl⟩:=hT.slice;obtain⟨bf,aC,rfl⟩:=hA.slice;go_enter Tryz.func133,Tryz.ntmps133;go_wp2;have a7:w.grownBy (((w.alloc (.cells #[.bool ng,.int .i64 kd,.slice ao ts.length cap] 200)).alloc (.cells #[.int .i64 0,.slice none 0 0,.slice none 0 0] 216)).alloc (.cells #[.int .i64 kd,.slice ao ts.length cap,.slice none 0 0] 216)) none:=Ab (Dm w _ _) (AA _ _ none)
 have uO:NcI w kd (.slice ao ts.length cap) (Lnk.of ss 0 (ts.take 0)) (((w.alloc (.cells #[.bool ng,.int .i64 kd,.slice ao ts.length cap] 200)).alloc (.cells #[.int .i64 0,.slice none 0 0,.slice none 0 0] 216)).alloc (.cells #[.int .i64 kd,.slice ao ts.length cap,.slice none 0 0] 216)):=by
  refine⟨.slice none 0 0,a7,?_,?_,RowAt.nil 0 _ R4,by simp[Value.ownBlock]⟩
  ·unfold MAt
   rw[CY _ _ _ (by simp)];have:=AR (w.alloc (.cells #[.bool ng,.int .i64 kd,.slice ao ts.length cap] 200)) (.cells #[.int .i64 0,.slice none 0 0,.slice none 0 0] 216);simpa using this
  ·have:=AR ((w.alloc (.cells #[.bool ng,.int .i64 kd,.slice ao ts.length cap] 200)).alloc (.cells #[.int .i64 0,.slice none 0 0,.slice none 0 0] 216)) (.cells #[.int .i64 kd,.slice ao ts.length cap,.slice none 0 0] 216)
   simpa[MAt] using this
 have HA:=Ac hA;have HT:=Ac hT;clear a7 hA hT;go_loopw [18] (fun x w'=>∃j:Nat,j<=ts.length/\x=.int .i64 j/\NcI w kd (.slice ao ts.length cap) (Lnk.of ss 0 (ts.take j)) w') (fun x _=>ts.length-(intOf x).toNat)
 case atStart=>exact⟨0,AG _,rfl,uO⟩
 case round=>
  clear uO;obtain⟨j,hj,rfl,hI⟩:=hrel;by_cases hlt:j<ts.length
  ·have hd:decide (j<ts.length)=true:=by simpa using hlt
   obtain⟨t,hp⟩:∃t,ts[j]?=some t:=⟨ts[j],AB hlt⟩
   obtain⟨lv,hg,sJ,hM,hL,how⟩:=hI;obtain⟨g,cap',hv,hc⟩:=((Aa HT).gr hg).cells hp;simp only[AH,BP] at hv;obtain⟨rfl,rfl⟩:=hv;have c0:wr.cell? ⟨g,j*3,none⟩=some (.int .i64 t.sort):=hc 0 (by omega);have c1:wr.cell? ⟨g,j*3+1,none⟩=some (.int .u8 t.letter.toNat):=hc 1 (by omega);have c2:wr.cell? ⟨g,j*3+2,none⟩=some (.int .i64 t.value):=hc 2 (by omega);have e1:=Hz hp;have e2:=Xa ss t (ts.take j) 0;rw[BL,CB hj,BV,<-e1] at e2;have hbl:=Q03 ss (ts.take j) 0;rw[BL,CB hj] at hbl;have E2:=Ac e2;have HI:=Ac (show w.grownBy wr none/\MAt (w.heap.size+1) (.int .i64 0) (.slice none 0 0) (.slice none 0 0) wr/\MAt (w.heap.size+1+1) (.int .i64 kd) (.slice (some ⟨g,0,none⟩) ts.length cap) lv wr/\LsAt lv (Lnk.of ss 0 (ts.take j)) wr/\(∀g,lv.ownBlock=some g->w.heap.size+3<=g) from⟨hg,sJ,hM,hL,how⟩);have sY:=Ac hbl;clear hc e1 e2 hbl hp sJ hM hL how;have aj:=AA wr (.cells #[.int .i64 t.sort,.int .u8 t.letter.toNat,.int .i64 t.value] 258) none;by_cases hs:t.sort=1
   ·have bZ:((t.sort:Int) !=1)=false:=by simp[hs]
    have hF:=Q3g (.slice bf ss.length aC) ss t.letter (wr.alloc (.cells #[.int .i64 t.sort,.int .u8 t.letter.toNat,.int .i64 t.value] 258)) ((Aa HA).gr (Ab hg aj)) hl;have e2:=Aa E2;rw[AQ hs] at e2;cases hf:Site.find ss t.letter with
    | none=>
     rw[hf] at hF e2;rw[BM] at e2;unfold Qq at hF;dsimp only at hF;have HE:=Ac e2;clear e2 hf hs E2
     go_wp2_with (go_at_call 160;refine hF.mono ?_;rintro e w1⟨rfl,hg1⟩)
     have tV:=Ab aj (Ab hg1 (AA w1 (.cells #[.int .u8 0,.int .i64 0,.int .i64 0] 289) none));go_roundw
     case rel=>
      obtain⟨k1,k2,k3,k4,k5⟩:=Aa HI;exact⟨j+1,by omega,by go_num,lv,Ab k1 tV,k2.gr tV (by simp),k3.gr tV (by simp),by rw[Aa HE];exact k4.gr tV,k5⟩
     case measure=>simp[intOf];omega
    | some st=>
     rw[hf] at hF e2;unfold Qq at hF;dsimp only at hF e2;have HE:=Ac e2;clear e2 hf hs E2;obtain⟨ei,bF,hlv⟩:=(Aa HI).2.2.2.1.slice;generalize im:(Lnk.of ss 0 (ts.take j)).length=ln at hlv;have r9:=Ac im;clear im;subst hlv
     go_wp2_with (first|(go_at_call 160;refine hF.mono ?_;rintro e w1⟨rfl,hg1⟩;have tV:=Ab aj (Ab hg1 (AA w1 (.cells #[.int .u8 st.letter.toNat,.int .i64 st.fact,.int .i64 st.place] 289) none));obtain⟨k1,k2,k3,k4,k5⟩:=Aa HI;obtain⟨y0,y1,y2⟩:=(k3.gr tV (by simp)).c;have aG:LsAt (.slice (some ⟨w1.heap.size+1,0,none⟩) 1 1) [⟨j,st⟩] ((w1.alloc (.cells #[.int .u8 st.letter.toNat,.int .i64 st.fact,.int .i64 st.place] 289)).alloc (.cells #[.int .i64 j,.int .u8 st.letter.toNat,.int .i64 st.fact,.int .i64 st.place] 293)):=(by have:=(RowAt.lit1 (e:=293) R4 (w1.alloc (.cells #[.int .u8 st.letter.toNat,.int .i64 st.fact,.int .i64 st.place] 289)) ⟨j,st⟩ #[.int .i64 j,.int .u8 st.letter.toNat,.int .i64 st.fact,.int .i64 st.place] rfl).weak (AG _);simpa using this);clear k1 k2 k3 k4 k5 hF y0 y1)|(at_builtin;refine Cb rfl _ _ 214 rfl Tryz.underlying214 Tryz.infoLink rfl (by decide) rfl ((Aa HI).2.2.2.1.gr (Ab tV (AA _ (.cells #[.int .i64 j,.int .u8 st.letter.toNat,.int .i64 st.fact,.int .i64 st.place] 293) none))) rfl aG (by simp) (fun y hy=>Zq y) (by unfold maxLen;rw[Aa r9];simp;have:=Aa sY;rw[Aa r9] at this;omega) (by rw[Aa r9];simp;have:=Aa sY;rw[Aa r9] at this;omega) ?_))
     intro v5 w5 ax aP;obtain⟨g5,aI,rfl⟩:=aP.form;obtain⟨k1,k2,k3,k4,k5⟩:=Aa HI;have pk:=Ab tV (AA (w1.alloc (.cells #[.int .u8 st.letter.toNat,.int .i64 st.fact,.int .i64 st.place] 289)) (.cells #[.int .i64 j,.int .u8 st.letter.toNat,.int .i64 st.fact,.int .i64 st.place] 293) none);have hsz:=pk.size;have hrl:=Ad k3;have QE:MAt (w.heap.size+1+1) (.int .i64 kd) (.slice (some ⟨g,0,none⟩) ts.length cap) (.slice ei ln bF) w5:=aP.block (k3.gr pk (by simp)) (fun hx=>by have:=k5 _ hx;omega);have MF:MAt (w.heap.size+1) (.int .i64 0) (.slice none 0 0) (.slice none 0 0) w5:=aP.block (k2.gr pk (by simp)) (fun hx=>by have:=k5 _ hx;omega);have aY:w.grownBy w5 none:=aP.grown (Ab k1 pk) (fun g hx=>by have:=k5 _ hx;omega)
     have vP:∀g,(Value.slice (some ⟨g5,0,none⟩) ((Lnk.of ss 0 (ts.take j)).length+1) aI).ownBlock=some g->w.heap.size+3<=g:=by
      intro g hx;rcases aP.own g hx with h|h
      ·exact k5 g h
      ·omega
     have y5:=QE.c.2.2;have z5:=QE.fz 2;have aZ:=Aj w5 (w.heap.size+1+1) 2 (.slice (some ⟨g5,0,none⟩) ((Lnk.of ss 0 (ts.take j)).length+1) aI)
     have hend:NcI w kd (.slice (some ⟨g,0,none⟩) ts.length cap) (Lnk.of ss 0 (ts.take (j+1))) (w5.setCell ⟨w.heap.size+1+1,2,none⟩ (.slice (some ⟨g5,0,none⟩) ((Lnk.of ss 0 (ts.take j)).length+1) aI)):=by
      refine⟨_,Bi aY aZ (by omega),MF.gr aZ (by simp),QE.set2 _,?_,vP⟩;rw[Aa HE];refine ax.other aZ (fun g hx e=>?_);have:=vP g hx;simp only[AE] at e;omega
     have bD:=Ac hend;clear hend vP aY QE MF hsz hrl pk k1 k2 k3 k4 k5 aP ax aG y2 aZ;rw[Aa r9] at bD⊢;go_wp2;go_roundw
     case rel=>exact⟨j+1,by omega,by go_num,Aa bD⟩
     case measure=>simp[intOf];omega
   ·have bZ:((t.sort:Int) !=1)=true:=by simp;omega
    have e2:=Aa E2;rw[AO hs,BM] at e2;have HE:=Ac e2;clear e2 hs E2;go_wp2;go_roundw
    case rel=>
     obtain⟨k1,k2,k3,k4,k5⟩:=Aa HI;exact⟨j+1,by omega,by go_num,lv,Ab k1 aj,k2.gr aj (by simp),k3.gr aj (by simp),by rw[Aa HE];exact k4.gr aj,k5⟩
    case measure=>simp[intOf];omega
  ·have hd:decide (j<ts.length)=false:=by simpa using hlt
   have e:ts.take j=ts:=CA (by omega);rw[e] at hI;obtain⟨lv,hg,sJ,hM,hL,how⟩:=hI;obtain⟨ei,bF,hlv⟩:=hL.slice;obtain⟨d0,d1,d2⟩:=hM.c;obtain⟨b0,b1,b2⟩:=sJ.c;have z0:=sJ.fz 0;have z1:=sJ.fz 1;have z2:=sJ.fz 2;have HM0:=Ac sJ;have HL:=Ac hL;have HLV:=Ac hlv;have HOW:=Ac how;clear sJ hM hL how e;generalize im:(Lnk.of ss 0 ts).length=ln at hlv;clear im;subst hlv;go_wp2;have k3:=Cg wr (w.heap.size+1) (.int .i64 kd) (.slice ao ts.length cap) (.slice ei ln bF);obtain⟨q0,q1,q2⟩:=((Aa HM0).set3 (.int .i64 kd) (.slice ao ts.length cap) (.slice ei ln bF)).c;refine BO (v:=.agg #[.int .i64 kd,.slice ao ts.length cap,.slice ei ln bF]) (by simp[results,Tryz.results133,go_sem,q0,q1,q2]) rfl ⟨_,rfl,Bi hg k3 (by omega),(Aa HL).other k3 (fun g hx e=>?_),fun g hx=>by have:=Aa HOW g hx;omega⟩;have:=Aa HOW g hx;simp only[AE] at e;omega
def Ff:List Site->Nat->List Sv.Cond->List Nd
 | _,_,[]=>[]
 | ss,k,c::cs=>⟨c,Lnk.of ss 0 c.terms,[],[]⟩::Ff (if c.neg=true then ss else ss++Site.bindT k 0 c.terms) (if c.neg=true then k else k+1) cs
theorem Fs:∀(cs:List Sv.Cond) (ss:List Site) (k:Nat),(Ff ss k cs).length=cs.length
 | [],_,_=>rfl
 | c::cs,ss,k=>by unfold Ff;rw[AP,AP,Fs cs]
theorem Hu:∀(cs:List Sv.Cond) (ss:List Site) (k:Nat),Good [] ss k (Ff ss k cs) cs
 | [],_,_=>trivial
 | _::cs,_,_=>⟨rfl,rfl,rfl,Hu cs _ _⟩
def O3:Nat->List Sv.Cond->Nat
 | k,[]=>k
 | k,c::cs=>O3 (if c.neg=true then k else k+1) cs
structure CsIn(U:Nat->Nat)(cv:Value)(cs:List Sv.Cond)(w:World):Prop where
 ex:∃ao cap,cv=.slice ao cs.length cap/\cs.length<=cap/\cap<=maxLen/\(cs≠[]->∃g off,ao=some ⟨g,off,none⟩/\U g=1/\g<w.heap.size/\∀j c,cs[j]?=some c->∃u,w.cell? ⟨g,off+j*3,none⟩=some (.bool c.neg)/\w.cell? ⟨g,off+j*3+1,none⟩=some (.int .i64 c.kind)/\w.cell? ⟨g,off+j*3+2,none⟩=some u/\TRow U 1 258 3 tmenc u c.terms w)
theorem GrS.cellK(h:GrS S w w'){a:Addr}(hc:w.cell? a=some v)(hb:a.block<w.heap.size)(hs:¬ S a.block):w'.cell? a=some v:=by
 rw[<-hc];exact EC (w:=w) (h.block a.block hb hs)
theorem CsIn.keep(h:CsIn U cv cs w)(hg:GrS S w w')(hs:∀i,U i=1->¬ S i)(ho:∀i,i<w.heap.size->U i=1->U' i=1):CsIn U' cv cs w':=by
 obtain⟨ao,cap,h1,h2,h3,h4⟩:=h.ex;refine⟨ao,cap,h1,h2,h3,fun hne=>?_⟩;obtain⟨g,off,k1,k2,k3,k4⟩:=h4 hne;refine⟨g,off,k1,ho g k3 k2,AZ k3 hg.size,fun j c hj=>?_⟩;obtain⟨u,m1,m2,m3,m4⟩:=k4 j c hj;exact⟨u,hg.cellK m1 k3 (hs g k2),hg.cellK m2 k3 (hs g k2),hg.cellK m3 k3 (hs g k2),m4.keep2 hg hs ho⟩
theorem CsIn.head{c:Sv.Cond}(h:CsIn U cv (c::cs) w) :
  ∃g off cap u,cv=.slice (some ⟨g,off,none⟩) (cs.length+1) cap/\cs.length+1<=cap/\cap<=maxLen/\U g=1/\g<w.heap.size/\w.cell? ⟨g,off,none⟩=some (.bool c.neg)/\w.cell? ⟨g,off+1,none⟩=some (.int .i64 c.kind)/\w.cell? ⟨g,off+2,none⟩=some u/\TRow U 1 258 3 tmenc u c.terms w/\∀ta,(ta=some ⟨g,off+3,none⟩\/cap=1)->CsIn U (.slice ta cs.length (cap-1)) cs w:=by
 obtain⟨ao,cap,h1,h2,h3,h4⟩:=h.ex;obtain⟨g,off,k1,k2,k3,k4⟩:=h4 (by simp);subst k1;obtain⟨u,m1,m2,m3,m4⟩:=k4 0 c rfl;rw[AP] at h1 h2;refine⟨g,off,cap,u,h1,h2,h3,k2,k3,by simpa using m1,by simpa using m2,by simpa using m3,m4,fun ta yX=>⟨_,_,rfl,by omega,by omega,fun hne=>⟨g,off+3,?_,k2,k3,fun j c' hj=>?_⟩⟩⟩
 ·rcases yX with h|h
  ·exact h
  ·exact absurd (CM.1 (by omega)) hne
 obtain⟨u',n1,n2,n3,n4⟩:=k4 (j+1) c' (by simpa using hj);have e:off+(j+1)*3=off+3+j*3:=by omega
 rw[e] at n1 n2 n3;exact⟨u',n1,n2,n3,n4⟩
structure BuildPre(U:Nat->Nat)(ru q k bc lb:Nat)(fst av cv:Value)(ss:List Site)(cs:List Sv.Cond)(w:World):Prop where
 chain:w.heap[bc]?=some (.cells #[.slice none 0 0,fst,.pointer (some ⟨lb,0,none⟩)] 152 (0,0))
 last:w.heap[lb]?=some (.cells #[.slice none 0 0,.slice none 0 0,.int .i64 ru,.int .i64 k] 147 (0,0))
 uc:U bc=2
 ul:U lb=4+3*(q+cs.length)
 fresh:∀i,i<w.heap.size->i≠lb->U i<4+3*q
 ahead:TRow U 3 289 3 Q32 av ss w
 conds:CsIn U cv cs w
 short:∀c∈cs,c.terms.length<=4
 few:k+cs.length<=1000
 sites:ss.length+4*cs.length<=1000
def BuildPost(U:Nat->Nat)(ru q k bc lb:Nat)(fst:Value)(ss:List Site)(cs:List Sv.Cond)(w w':World)(hd:Value):Prop:=
 ∃U' nv hs,w'.heap[bc]?=some (.cells #[nv,fst,.pointer (some ⟨lb,0,none⟩)] 152 (0,0))/\TRow U' 2 150 1 venc nv hs.reverse w'/\HdsAt U' q (Ff ss k cs) hs/\(∀h∈hs,h.oneCell'=true)/\(nv.ownBlock≠some bc)/\
  SufAt U' ru (O3 k cs) q k (Ff ss k cs) ⟨[],[]⟩ hd w'/\GrS (fun i=>U i=2\/U i=3\/i=lb) w w'/\(∀i,i<w.heap.size->U' i=U i)/\∀i,w.heap.size<=i->i<w'.heap.size->(U' i<4\/4+3*q<=U' i)/\U' i<4+3*(q+cs.length)
theorem Vd(U:Nat->Nat)(ru q k bc lb:Nat)(fst av cv:Value)(ss:List Site)(w:World)(h:BuildPre U ru q k bc lb fst av cv ss [] w) :
  Calls Tryz.prog 100 #[.pointer (some ⟨bc,0,none⟩),cv,av] w fun e w'=>∃hd,e=.returned hd/\BuildPost U ru q k bc lb fst ss [] w w' hd:=by
 obtain⟨ao,cap,rfl,_⟩:=h.conds.ex;have hc2:w.cell? ⟨bc,2,none⟩=some (.pointer (some ⟨lb,0,none⟩)):=by simp[World.cell?,h.chain]
 have H:=Ac h;clear h;go_enter Tryz.func100,Tryz.ntmps100;go_wp2;go_ret;have hh:=Aa H;have hl:=hh.last;have gB:=hh.ul;rw[CE,EG] at gB;refine⟨_,rfl,U,.slice none 0 0,[],hh.chain,⟨RowAt.nil 0 _ (fun _=>rfl),by simp[Value.ownBlock]⟩,⟨rfl,fun p n hn=>by simp[Ff] at hn⟩,by simp,by simp[Value.ownBlock],⟨lb,.slice none 0 0,.slice none 0 0,rfl,⟨hl,gB,⟨RowAt.nil 0 _ Br,by simp[Value.ownBlock]⟩,⟨RowAt.nil 0 _ Br,by simp[Value.ownBlock]⟩,by simp,by simp,fun i hi=>?_⟩⟩,GrS.refl _ _,fun _ _=>rfl,fun i hi hlt=>by omega⟩;have:=hh.fresh i (FY hi (Ad hl)) (by omega);omega
def Gl(U:Nat->Nat)(ru q k bc lb:Nat)(fst:Value)(ss:List Site)(cs:List Sv.Cond)(w w':World)(hd:Value):Prop:=
 ∃U' nv hs,w'.heap[bc]?=some (.cells #[nv,fst,.pointer (some ⟨lb,0,none⟩)] 152 (0,0))/\TRow U' 2 150 1 venc nv hs.reverse w'/\HdsAt U' q (Ff ss k cs) (hd::hs)/\(∀h∈hd::hs,h.oneCell'=true)/\(nv.ownBlock≠some bc)/\
  SufAt U' ru (O3 k cs) q k (Ff ss k cs) ⟨[],[]⟩ hd w'/\GrS (fun i=>U i=2\/U i=3\/i=lb) w w'/\(∀i,i<w.heap.size->U' i=U i)/\∀i,w.heap.size<=i->i<w'.heap.size->(U' i<4\/4+3*q<=U' i)/\U' i<4+3*(q+cs.length)
theorem Rg{Ux:Nat->Nat}{ss:List Site}{c:Sv.Cond}{wx:World}{u lv:Value}{b:Nat}
 (h:BuildPre U ru q k bc lb fst av cv ss (c::cs) w)(hG:GrS (fun i=>U i=2\/U i=3\/i=lb) w wx)(ho:∀i,i<w.heap.size->Ux i=U i)(hn:∀i,w.heap.size<=i->i<wx.heap.size->Ux i<4)
 (hP:BuildPost Ux ru (q+1) (if c.neg=true then k else k+1) bc lb fst (if c.neg=true then ss else ss++Site.bindT k 0 c.terms) cs wx w3 hd)
 (hT:TRow Ux 1 258 3 tmenc u c.terms wx)(hL:TRow Ux 1 293 4 Q15 lv (Lnk.of ss 0 c.terms) wx)
 (hb:w4.heap[b]?=some (.cells (Bb ⟨c,Lnk.of ss 0 c.terms,[],[]⟩ k u lv (.slice none 0 0) (.slice none 0 0) hd) (Lj c.neg) (0,0)))(hbl:w3.heap.size<=b)(hg4:w3.grownBy w4 none) :
  Gl U ru q k bc lb fst ss (c::cs) w w4 (.iface (C8 c.neg) (.pointer (some ⟨b,0,none⟩))):=by
 obtain⟨U',nv,hs,p1,p2,p3,p4,p5,p6,p7,p8,p9⟩:=hP;obtain⟨U4,wM⟩:∃U4:Nat->Nat,U4=fun i=>if i=b then 4+3*q else if i<w3.heap.size then U' i else 1:=⟨_,rfl⟩
 have o4:∀i,i<w3.heap.size->U4 i=U' i:=fun i hi=>by rw[wM];dsimp only;rw[AO (by omega),AQ hi]
 have b4:U4 b=4+3*q:=by rw[wM];dsimp only;rw[AQ rfl]
 have n4:∀i,w3.heap.size<=i->i≠b->U4 i=1:=fun i hi hne=>by rw[wM];dsimp only;rw[AO hne,AO (by omega)]
 clear wM;have SC:=hG.size;have hsx3:=p7.size;have gB:=h.ul;rw[AP] at gB
 have zJ:∀i,i<b->U4 i≠4+3*q:=by
  intro i hi;by_cases h3:i<w3.heap.size
  ·rw[o4 i h3]
   by_cases hx:i<wx.heap.size
   ·rw[p8 i hx]
    by_cases hw:i<w.heap.size
    ·rw[ho i hw]
     by_cases hl:i=lb
     ·subst hl;omega
     ·have:=h.fresh i hw hl;omega
    ·have:=hn i (by omega) hx;omega
   ·have:=(p9 i (by omega) h3).1;omega
  ·rw[n4 i (by omega) (by omega)];omega
 have ML:GrS (fun _:Nat=>False) w3 w4:=GrS.of hg4 (by simp);have SX:∀c' i,U' i=c'->¬ (fun _:Nat=>False) i:=fun _ _ _ hf=>hf
 have hk4:∀c' i,i<w3.heap.size->U' i=c'->U4 i=c':=fun c' i hi e=>by rw[o4 i hi];exact e
 have bg:∀i,Ux i=1->¬ (Ux i=2\/Ux i=3\/i=lb):=by
  intro i hi hx;rcases hx with hx|hx|rfl
  ·omega
  ·omega
  ·rw[ho i (Ad h.last)] at hi;omega
 have hN:NodeAt U4 q k b ⟨c,Lnk.of ss 0 c.terms,[],[]⟩ hd u lv (.slice none 0 0) (.slice none 0 0) w4:=by
  refine⟨hb,b4,?_,?_,⟨RowAt.nil 0 _ Br,by simp[Value.ownBlock]⟩,⟨RowAt.nil 0 _ Ji,by simp[Value.ownBlock]⟩,by simp,by simp,h.short c (BF ..),zJ⟩
  ·exact(hT.keep2 (T':=U') p7 bg (fun i hi e=>by rw[p8 i hi];exact e)).keep2 ML (SX 1) (hk4 1)
  ·exact(hL.keep2 (T':=U') p7 bg (fun i hi e=>by rw[p8 i hi];exact e)).keep2 ML (SX 1) (hk4 1)
 refine⟨U4,nv,hs,ML.blk p1 (by simp),p2.keep2 ML (SX 2) (hk4 2),?_,?_,p5,?_,?_,?_,?_⟩
 ·refine⟨by unfold Ff;rw[AP,AP,p3.1],fun p n hn'=>?_⟩
  cases p with
  | zero=>
   unfold Ff at hn';simp only[BU,AE] at hn';subst hn';exact⟨b,rfl,b4,zJ⟩
  | succ p=>
   unfold Ff at hn';simp only[BS] at hn'⊢;obtain⟨b',h1,h2⟩:=p3.2 p n hn';obtain⟨b2,h3,h4⟩:=p6.bk hn';obtain rfl:=h2.uniq h3;exact⟨b',h1,by rw[show q+(p+1)=q+1+p by omega];exact h2.old h4 o4⟩
 ·intro x hx
  rcases CQ.1 hx with rfl|hx
  ·rfl
  ·exact p4 x hx
 ·unfold Ff O3
  exact⟨b,hd,u,lv,_,_,rfl,hN,p6.keep ML (by simp) (fun i hi _=>o4 i hi)⟩
 ·refine(hG.comp p7 (fun i hi hn' hx=>hn' ?_)).then hg4 (by simp)
  rw[ho i hi] at hx;exact hx
 ·intro i hi
  rw[o4 i (by omega),p8 i (by omega),ho i hi]
 ·intro i hi hlt
  rw[AP];by_cases h3:i<w3.heap.size
  ·rw[o4 i h3]
   by_cases hx:i<wx.heap.size
   ·rw[p8 i hx]
    have:=hn i hi hx;omega
   ·have:=p9 i (by omega) h3;omega
  ·by_cases hib:i=b
   ·subst hib;omega
   ·rw[n4 i (by omega) hib];omega
theorem Sm(v:Value):(venc v).length=1:=rfl
theorem Rf{ss:List Site}(hb:bc<w.heap.size)(hu:U bc=2)
 (hM:∃U' hs,w4.heap[bc]?=some (.cells #[nv,fst,.pointer (some ⟨lb,0,none⟩)] 152 (0,0))/\TRow U' 2 150 1 venc nv hs.reverse w4/\HdsAt U' q (Ff ss k cs) (hd::hs)/\(∀h∈hd::hs,h.oneCell'=true)/\(nv.ownBlock≠some bc)/\
   SufAt U' ru (O3 k cs) q k (Ff ss k cs) ⟨[],[]⟩ hd w4/\GrS (fun i=>U i=2\/U i=3\/i=lb) w w4/\(∀i,i<w.heap.size->U' i=U i)/\(∀i,w.heap.size<=i->i<w4.heap.size->(U' i<4\/4+3*q<=U' i)/\U' i<4+3*(q+cs.length))/\
   RowAt 150 1 venc 0 v' (hs.reverse++[hd]) w5)
 (hl:∃n m wx,w4.grownBy wx none/\Longer nv v' n m wx w5):BuildPost U ru q k bc lb fst ss cs w (w5.setCell ⟨bc,0,none⟩ v') hd:=by
 obtain⟨U',hs,p1,p2,p3,p4,p5,p6,p7,p8,p9,p10⟩:=hM;obtain⟨n,m,wx,hgx,hlo⟩:=hl;have cC:GrS (fun i=>U' i=2) w4 w5:=(GrS.of hgx (by simp)).trans (hlo.gr (fun g hg=>p2.2 g hg));have UL:w5.heap[bc]?=some (.cells #[nv,fst,.pointer (some ⟨lb,0,none⟩)] 152 (0,0)):=hlo.block (by rw[hgx.block bc (Ad p1) (by simp)];exact p1) p5;have aV:=Aj w5 bc 0 v';have uu:U' bc=2:=by rw[p8 bc hb];exact hu
 have dh:GrS (fun i=>U' i=2) w4 (w5.setCell ⟨bc,0,none⟩ v'):=cC.then aV (fun g hg=>by simp at hg;subst hg;exact .inr uu)
 have hown:∀g,v'.ownBlock=some g->nv.ownBlock=some g\/w4.heap.size<=g:=fun g hg=>by
  rcases hlo.own g hg with h|h
  ·exact .inl h
  ·exact .inr (AU hgx.size h)
 have hne:v'.ownBlock≠some bc:=fun hx=>by
  rcases hown bc hx with h|h
  ·exact p5 h
  ·have:=Ad p1;omega
 have o6:∀i,i<w4.heap.size->Cj U' w4 2 i=U' i:=fun i hi=>Ak hi
 refine⟨Cj U' w4 2,v',hd::hs,?_,⟨?_,?_⟩,⟨p3.1,fun p n hn=>?_⟩,p4,hne,p6.keep dh (fun i hi hx=>by omega) (fun i hi _=>o6 i hi),?_,?_,?_⟩
 ·rw[BB w5 bc 0 _ _ _ UL];rfl
 ·rw[List.reverse_cons]
  refine p10.other aV (fun g hg e=>?_);simp only[AE] at e;exact hne (by rw[hg,e])
 ·intro g hg
  rcases hown g hg with h|h
  ·rw[o6 g (p2.1.own g h).2];exact p2.2 g h
  ·exact Bh h
 ·obtain⟨b',h1,h2⟩:=p3.2 p n hn
  obtain⟨b2,h3,h4⟩:=p6.bk hn;obtain rfl:=h2.uniq h3;exact⟨b',h1,h2.old h4 o6⟩
 ·refine p7.comp dh (fun i hi hn hx=>hn (.inl ?_))
  rw[<-p8 i hi];exact hx
 ·intro i hi
  rw[o6 i (AZ hi p7.size)];exact p8 i hi
 ·intro i hi hlt
  by_cases h4:i<w4.heap.size
  ·rw[o6 i h4];exact p9 i hi h4
  ·rw[Bh (by omega)];omega
theorem FtAt.reg{g:Ft}(h:FtAt U g w)(h1:∀i,U i=1->U' i=1):FtAt U' g w:=h.keep (S:=fun _=>False) (GrS.refl _ _) (by simp) (fun i _ e=>h1 i e)
theorem TRow.reg{c c' e:Nat}{enc:α->List Value}{l:List α}(h:TRow U c e k enc v l w)(h1:∀i,U i=c->U' i=c'):TRow U' c' e k enc v l w:=⟨h.1,fun g hg=>h1 g (h.2 g hg)⟩
structure Reg(U U':Nat->Nat)(a z:Nat):Prop where
 one:∀i,U i=1->U' i=1
 node:∀i,a<=U i->U i<z->U' i=U i
 rest:∀i,U' i=U i\/U' i=1
theorem Reg.sub{a z a' z':Nat}(h:Reg U U' a z)(ha:a<=a')(hz:z'<=z):Reg U U' a' z':=⟨h.one,fun i h1 h2=>h.node i (by omega) (by omega),h.rest⟩
theorem Reg.low{a z:Nat}(h:Reg U U' a z){c:Nat}(hc:c≠1)(hi:U i≠c):U' i≠c:=by
 rcases h.rest i with e|e
 ·rw[e];exact hi
 ·rw[e];omega
theorem Reg.bk{a z c b:Nat}(h:Reg U U' a z)(hb:Bk U c b)(h1:a<=c)(h2:c<z)(hc:c≠1):Bk U' c b:=
 ⟨by rw[h.node b (by rw[hb.1];exact h1) (by rw[hb.1];exact h2)];exact hb.1,fun i hi=>h.low hc (hb.2 i hi)⟩
theorem LastAt.reg{U U':Nat->Nat}{q b ru jn:Nat}{e:En}{tv wv:Value}{w:World}(h:LastAt U q b ru jn e tv wv w)(hu:Reg U U' (4+3*q) (7+3*q)):LastAt U' q b ru jn e tv wv w:=
 ⟨h.blk,by rw[hu.node b (by rw[h.own];omega) (by rw[h.own];omega)];exact h.own,h.toks.reg (fun i hi=>by rw[hu.node i (by omega) (by omega)];exact hi),h.wait.reg (fun i hi=>by rw[hu.node i (by omega) (by omega)];exact hi),
  fun t ht g hg=>(h.tfs t ht g hg).reg hu.one,fun t ht g hg=>(h.wfs t ht g hg).reg hu.one,fun i hi=>hu.low (by omega) (h.low i hi)⟩
theorem NodeAt.reg{U U':Nat->Nat}{q k b:Nat}{n:Nd}{nx tv lv ov fv:Value}{w:World}(h:NodeAt U q k b n nx tv lv ov fv w)(hu:Reg U U' (4+3*q) (7+3*q)):NodeAt U' q k b n nx tv lv ov fv w:=
 ⟨h.blk,by rw[hu.node b (by rw[h.own];omega) (by rw[h.own];omega)];exact h.own,h.terms.reg hu.one,h.links.reg hu.one,h.toks.reg (fun i hi=>by rw[hu.node i (by omega) (by omega)];exact hi),h.facts.reg (fun i hi=>by rw[hu.node i (by omega) (by omega)];exact hi),
  fun g hg=>(h.fts g hg).reg hu.one,fun t ht g hg=>(h.tfs t ht g hg).reg hu.one,h.short,fun i hi=>hu.low (by omega) (h.low i hi)⟩
theorem SufAt.reg{U U':Nat->Nat}{ru jn:Nat}{w:World}{e:En}:∀ {ns:List Nd} {q k:Nat} {hd:Value},SufAt U ru jn q k ns e hd w->Reg U U' (4+3*q) (7+3*(q+ns.length))->SufAt U' ru jn q k ns e hd w
 | [],q,k,hd,h,hu=>by
  obtain⟨b,tv,wv,h1,h2⟩:=h;exact⟨b,tv,wv,h1,h2.reg (hu.sub (by omega) (by simp))⟩
 | n::ns,q,k,hd,h,hu=>by
  obtain⟨b,nx,tv,lv,ov,fv,h1,h2,h3⟩:=h;rw[AP] at hu;exact⟨b,nx,tv,lv,ov,fv,h1,h2.reg (hu.sub (by omega) (by omega)),SufAt.reg h3 (hu.sub (by omega) (by omega))⟩
theorem HdsAt.reg(h:HdsAt U q ns hs)(hu:Reg U U' (4+3*q) (7+3*(q+ns.length))):HdsAt U' q ns hs:=by
 refine⟨h.1,fun p n hn=>?_⟩;obtain⟨b,h1,h2⟩:=h.2 p n hn;have:=(AL.1 hn).1;exact⟨b,h1,hu.bk h2 (by omega) (by omega) (by omega)⟩
theorem GrS.grown(h:GrS S w w')(hs:∀i,i<w.heap.size->¬ S i):w.grownBy w' none:=
 ⟨h.os,h.tape,h.output,h.size,fun k hk _=>h.block k hk (hs k hk)⟩
def Q2(U U':Nat->Nat)(q m:Nat)(w w':World):Prop:=(∀i,i<w.heap.size->U' i=U i)/\∀i,w.heap.size<=i->i<w'.heap.size->(U' i=1\/4+3*q<=U' i)/\U' i<4+3*(q+m+1)
def Qy(Ua U:Nat->Nat)(ru q bc:Nat)(cs:List Sv.Cond)(w w4:World)(hd:Value):Prop:=
 ∃nv hs lb,w4.heap[bc]?=some (.cells #[nv,hd,.pointer (some ⟨lb,0,none⟩)] 152 (0,0))/\Ua bc=1/\TRow Ua 1 150 1 venc nv hs.reverse w4/\HdsAt Ua q (Ff [] 0 cs) hs/\(∀h∈hs,h.oneCell'=true)/\Bk Ua (4+3*(q+cs.length)) lb/\
  SufAt Ua ru (O3 0 cs) q 0 (Ff [] 0 cs) ⟨[],[]⟩ hd w4/\w.grownBy w4 none/\Q2 U Ua q cs.length w w4
theorem Y2(hP:BuildPost U1 ru q 0 bc lb fst [] cs w2 w3 hd)(hg:w.grownBy w2 none)
 (ho:∀i,i<w.heap.size->U1 i=U i)(hU:∀i,i<w.heap.size->U i<2\/4<=U i/\U i<4+3*q)(hn:∀i,w.heap.size<=i->i<w2.heap.size->i≠lb->U1 i<4)
 (hbc:w.heap.size<=bc)(hbl:bc<w2.heap.size)(uu:U1 bc=2)(lz:w.heap.size<=lb)(kH:lb<w2.heap.size)(gB:U1 lb=4+3*(q+cs.length)) :
  ∃Ua,Qy Ua U ru q bc cs w (w3.setCell ⟨bc,1,none⟩ hd) hd:=by
 obtain⟨U',nv,hs,p1,p2,p3,p4,p5,p6,p7,p8,p9⟩:=hP;have cG:=Fs cs [] 0;obtain⟨Ua,VB⟩:∃Ua:Nat->Nat,Ua=fun i=>if i<w.heap.size then U i else if U' i=2\/U' i=3\/U' i=0\/4+3*(q+cs.length+1)<=U' i then 1 else U' i:=⟨_,rfl⟩
 have hsz:=hg.size;have hs2:=p7.size;have hold:∀i,i<w.heap.size->Ua i=U i:=fun i hi=>by rw[VB];dsimp only;rw[AQ hi]
 have nD:∀i,i<w.heap.size->U' i=U i:=fun i hi=>by rw[p8 i (by omega),ho i hi]
 have hnew:∀i,w.heap.size<=i->Ua i=if U' i=2\/U' i=3\/U' i=0\/4+3*(q+cs.length+1)<=U' i then 1 else U' i:=fun i hi=>by rw[VB];dsimp only;rw[AO (by omega)]
 clear VB
 have nr:Reg U' Ua (4+3*q) (7+3*(q+(Ff [] 0 cs).length)):=by
  rw[cG];refine⟨fun i hi=>?_,fun i h1 h2=>?_,fun i=>?_⟩
  ·by_cases hw:i<w.heap.size
   ·rw[hold i hw,<-nD i hw];exact hi
   ·rw[hnew i (by omega)];split<;>omega
  ·by_cases hw:i<w.heap.size
   ·rw[hold i hw,<-nD i hw]
   ·rw[hnew i (by omega),AO (by omega)]
  ·by_cases hw:i<w.heap.size
   ·rw[hold i hw,<-nD i hw];exact .inl rfl
   ·rw[hnew i (by omega)];split
    ·exact .inr rfl
    ·exact .inl rfl
 have RV:U' bc=2:=by rw[p8 bc hbl];exact uu
 have yT:U' lb=4+3*(q+cs.length):=by rw[p8 lb kH];exact gB
 have aV:=Aj w3 bc 1 hd;have hG:GrS (fun i=>i=bc) w3 (w3.setCell ⟨bc,1,none⟩ hd):=GrS.of aV (fun g hg=>by simp at hg;exact hg.symm);refine⟨Ua,nv,hs,lb,?_,?_,?_,p3.reg nr,p4,?_,?_,?_,hold,?_⟩
 ·rw[BB w3 bc 1 _ _ _ p1];rfl
 ·rw[hnew bc hbc,AQ (.inl RV)]
 ·refine TRow.reg (c:=2) ⟨hG.row p2.1 (fun g hg e=>p5 (by rw[hg,e])),p2.2⟩ (fun i hi=>?_)
  by_cases hw:i<w.heap.size
  ·have:=nD i hw;have:=hU i hw;omega
  ·rw[hnew i (by omega),AQ (.inl hi)]
 ·refine⟨?_,fun i hi=>?_⟩
  ·rw[nr.node lb (by omega) (by omega)];exact yT
  ·refine nr.low (by omega) ?_
   rw[p8 i (by omega)];by_cases hw:i<w.heap.size
   ·rw[ho i hw];have:=hU i hw;omega
   ·have:=hn i (by omega) (by omega) (by omega);omega
 ·refine(p6.keep hG (fun i hi e=>?_) (fun i _ _=>rfl)).reg nr
  subst e;omega
 ·refine GrS.grown (S:=fun i=>w.heap.size<=i) ?_ (fun i hi h=>by omega)
  refine((GrS.of hg (by simp):GrS (fun i=>w.heap.size<=i) w w2).comp p7 (fun i hi hn' hx=>?_)).then aV (fun g hg=>by simp at hg;exact .inl (by omega))
  have h1:=ho i hi;have h2:=hU i hi;rcases hx with h|h|h<;>omega
 ·intro i hi hlt
  rw[hnew i hi];by_cases h3:i<w2.heap.size
  ·by_cases hl:i=lb
   ·subst hl;rw[yT];split<;>omega
   ·have:=p8 i h3;have:=hn i hi h3 hl
    split<;>omega
  ·have hlt3:i<w3.heap.size:=by rw[<-(show (w3.setCell ⟨bc,1,none⟩ hd).heap.size=w3.heap.size by simp)];exact hlt
   have:=p9 i (by omega) hlt3;split<;>omega
def Fg(U:Nat->Nat)(ru q bc:Nat)(cs:List Sv.Cond)(w w':World):Prop:=
 ∃U',ChainAt U' ru (O3 0 cs) q bc (arr (Ff [] 0 cs) ⟨[],[]⟩ [[]]).1 (arr (Ff [] 0 cs) ⟨[],[]⟩ [[]]).2 w'/\w.grownBy w' none/\Q2 U U' q cs.length w w'
theorem HdsAt.same{U:Nat->Nat}{q:Nat}{ns iF:List Nd}{hs:List Value}(h:HdsAt U q ns hs)(hn:ns.map (fun n=>(n.c,n.links,n.K))=iF.map (fun n=>(n.c,n.links,n.K))):HdsAt U q iF hs:=by
 have hl:ns.length=iF.length:=by have:=BJ List.length hn;simpa using this
 refine⟨by rw[h.1,hl],fun p n hp=>?_⟩;have hp':(iF.map (fun n=>(n.c,n.links,n.K)))[p]?=some (n.c,n.links,n.K):=by rw[BR,hp];rfl
 rw[<-hn,BR] at hp';cases hx:ns[p]? with
 | none=>rw[hx] at hp';simp at hp'
 | some m=>
  rw[hx] at hp';simp only[DZ,AE,CH] at hp';obtain⟨b,h1,h2⟩:=h.2 p m hx;exact⟨b,by rw[<-hp'.1];exact h1,h2⟩
theorem Y0{Ua:Nat->Nat}(hU:∀i,i<w.heap.size->U i<2\/4<=U i/\U i<4+3*q)
 (hM:Qy Ua U ru q bc cs w w4 hd)(hA:Dn Ua ru (O3 0 cs) q 0 (Ff [] 0 cs) ⟨[],[]⟩ hd [[]] w4 w5):Fg U ru q bc cs w w5:=by
 obtain⟨nv,hs,lb,m1,m2,m3,m4,m5,m6,m7,m8,m9,m10⟩:=hM;have cG:=Fs cs [] 0;obtain⟨Ub,b1,b2,b3⟩:=hA;have uC:=Hm (Ff [] 0 cs) ⟨[],[]⟩ [[]];have kH:(arr (Ff [] 0 cs) ⟨[],[]⟩ [[]]).1.length=cs.length:=by rw[Cq,cG]
 obtain⟨Uc,VA⟩:∃Uc:Nat->Nat,Uc=fun i=>if i<w4.heap.size then Ub i else if Ub i<4+3*q\/7+3*(q+cs.length)<=Ub i then 1 else Ub i:=⟨_,rfl⟩
 have co:∀i,i<w4.heap.size->Uc i=Ub i:=fun i hi=>by rw[VA];dsimp only;rw[AQ hi]
 have cn:∀i,w4.heap.size<=i->Uc i=if Ub i<4+3*q\/7+3*(q+cs.length)<=Ub i then 1 else Ub i:=fun i hi=>by rw[VA];dsimp only;rw[AO (by omega)]
 clear VA
 have nr:Reg Ub Uc (4+3*q) (7+3*(q+(arr (Ff [] 0 cs) ⟨[],[]⟩ [[]]).1.length)):=by
  rw[kH];refine⟨fun i hi=>?_,fun i h1 h2=>?_,fun i=>?_⟩
  ·by_cases hw:i<w4.heap.size
   ·rw[co i hw];exact hi
   ·rw[cn i (by omega)];split<;>omega
  ·by_cases hw:i<w4.heap.size
   ·exact co i hw
   ·rw[cn i (by omega),AO (by omega)]
  ·by_cases hw:i<w4.heap.size
   ·exact .inl (co i hw)
   ·rw[cn i (by omega)];split
    ·exact .inr rfl
    ·exact .inl rfl
 have xr:∀i,i<w4.heap.size->Uc i=Ua i:=fun i hi=>by rw[co i hi,b3 i hi]
 have hbl:=Ad m1
 have lz:lb<w4.heap.size:=by
  obtain⟨b,tv,wv,k1,k2⟩:=m7.bkLast;rw[cG] at k1;rw[m6.uniq k1];exact Ad k2.blk
 refine⟨Uc,⟨nv,hd,hs,lb,b2.blk m1 (fun h=>by unfold Am at h;omega),by rw[xr bc hbl];exact m2,m3.keep2 b2 (fun i hi h=>by unfold Am at h;omega) (fun i hi e=>by rw[xr i hi];exact e),?_,m5,?_,b1.reg nr⟩,?_,?_,?_⟩
 ·refine HdsAt.same ⟨m4.1,fun p n hn=>?_⟩ uC
  obtain⟨b',h1,h2⟩:=m4.2 p n hn;obtain⟨b2',h3,h4⟩:=m7.bk hn;obtain rfl:=h2.uniq h3;exact⟨b',h1,h2.old h4 xr⟩
 ·rw[kH]
  exact m6.old lz xr
 ·refine GrS.grown (S:=fun i=>w.heap.size<=i) ?_ (fun i hi h=>by omega)
  refine(GrS.of m8 (by simp):GrS (fun i=>w.heap.size<=i) w w4).comp b2 (fun i hi hn h=>?_);have:=m9 i hi;have:=hU i hi;unfold Am at h;omega
 ·intro i hi
  rw[xr i (AZ hi m8.size),m9 i hi]
 ·intro i hi hlt
  by_cases h4:i<w4.heap.size
  ·rw[xr i h4];exact m10 i hi h4
  ·rw[cn i (by omega)];split<;>omega
end Go.Proofs.YtolhbeekfjnfmaaGreatDoor
namespace Go.Proofs.YtolhbeekfjnfmaaGreatDoor
variable {α:Type}{e:En}{size B i ru jn q m N j k bc lb:Nat}{v nv hd x y z a b av v' cv fst:Value}{w w2 w1 w' w3 w4 w5:World}{U U' U0 U1:Nat->Nat}{o:Obj}{hs:List Value}{f:Ft}{ns:List Nd}{S:Nat->Prop}{cs:List Sv.Cond}
def SiteOk(A:List Nat)(ss:List Site):Prop:=∀s∈ss,∃a,A[s.fact]?=some a/\s.place<a
theorem Lnk.of_ok{A:List Nat}{ss:List Site}(h:SiteOk A ss):∀(ts:List Sv.Term) (p:Nat),∀l∈Lnk.of ss p ts,l.place<p+ts.length/\∃a,A[l.at'.fact]?=some a/\l.at'.place<a
 | [],p,l,hl=>by simp[Lnk.of] at hl
 | t::ts,p,l,hl=>by
  unfold Lnk.of at hl;rw[AP];rcases AY.1 hl with hl|hl
  ·split at hl
   ·split at hl
    ·simp at hl
    ·rename_i s hs
     simp at hl;rw[hl];exact⟨by dsimp only;omega,h s (Site.find_mem ss _ s hs)⟩
   ·simp at hl
  ·obtain⟨h1,h2⟩:=Lnk.of_ok h ts (p+1) l hl
   exact⟨by omega,h2⟩
theorem Site.bindT_place(k:Nat):∀(ts:List Sv.Term) (p:Nat),∀s∈Site.bindT k p ts,s.place<p+ts.length
 | [],p,s,hs=>by simp[Site.bindT] at hs
 | t::ts,p,s,hs=>by
  unfold Site.bindT at hs;rw[AP];rcases AY.1 hs with hs|hs
  ·split at hs
   ·simp at hs;rw[hs];dsimp only;omega
   ·simp at hs
  ·have:=Site.bindT_place k ts (p+1) s hs;omega
theorem SiteOk.next{A:List Nat}{ss:List Site}(h:SiteOk A ss)(c:Sv.Cond):SiteOk (if c.neg=true then A else A++[c.terms.length]) (if c.neg=true then ss else ss++Site.bindT A.length 0 c.terms):=by
 split
 ·exact h
 ·intro s hs
  rcases AY.1 hs with hs|hs
  ·obtain⟨a,h1,h2⟩:=h s hs
   exact⟨a,by rw[CL (AL.1 h1).1];exact h1,h2⟩
  ·refine⟨c.terms.length,?_,by simpa using Site.bindT_place _ _ _ s hs⟩
   rw[Site.bindT_fact _ _ _ s hs];simp
theorem HasAr.ext{A:List Nat}{n:Nd}{t u:Tok}(h:HasAr A t)(hK:∀g∈n.K,g.f.vals.length=n.c.terms.length)(hu:u∈n.ext t):HasAr (if n.c.neg=true then A else A++[n.c.terms.length]) u:=by
 unfold Nd.ext at hu;split at hu
 ·rename_i hn
  rw[AQ hn];split at hu
  ·simp at hu
  ·simp at hu;subst hu;exact h
 ·rename_i hn
  rw[AO hn];obtain⟨g,hg,rfl⟩:=CJ.1 hu;rw[<-hK g (BH.1 hg).1];exact h.snoc g
theorem Good.wf{F:List Ft}:∀ {ns:List Nd} {cs:List Sv.Cond} {ss:List Site} {A:List Nat} {B:List Tok} {e:En},Good F ss A.length ns cs->SiteOk A ss->(∀t∈B,HasAr A t)->Inv B ns e->A.length+cs.length<=4->WF A ns/\∀t∈e.toks,HasAr (Hq A ns) t
 | [],[],ss,A,B,e,_,_,hB,hi,hl=>⟨by unfold WF;simp at hl;exact hl,fun t ht=>hB t ((List.Perm.mem_iff hi).1 ht)⟩
 | [],_::_,_,_,_,_,h,_,_,_,_=>h.elim
 | _::_,[],_,_,_,_,h,_,_,_,_=>h.elim
 | n::ns,c::cs,ss,A,B,e,h,hs,hB,hi,hl=>by
  obtain⟨h1,h2,h3,h4⟩:=h;obtain⟨i1,i2⟩:=hi;subst h1;rw[AP] at hl;have hK:∀g∈n.K,g.f.vals.length=n.c.terms.length:=fun g hg=>by rw[h3] at hg;exact Jj (BH.1 hg).2
  have e1:(if n.c.neg=true then A.length else A.length+1)=(if n.c.neg=true then A else A++[n.c.terms.length]).length:=by split<;>simp
  rw[e1] at h4
  obtain⟨r1,r2⟩:=Good.wf h4 (hs.next n.c) (B:=B.flatMap n.ext) (fun t ht=>by
   obtain⟨u,hu,hv⟩:=CT.1 ht;exact(hB u hu).ext hK hv) i2 (by rw[<-e1];split<;>omega)
  refine⟨⟨by split<;>omega,?_,hK,fun t ht=>hB t ((List.Perm.mem_iff i1).1 ht),r1⟩,r2⟩;rw[h2];intro l hl';obtain⟨a1,a2⟩:=Lnk.of_ok hs n.c.terms 0 l hl';exact⟨by omega,a2⟩
theorem Good.bd{F:List Ft}{κ:Nat}(hF:F.length<=κ)(hk:κ<=20):∀ {ns:List Nd} {cs:List Sv.Cond} {ss:List Site} {k c:Nat} {B:List Tok} {e:En},Good F ss k ns cs->Inv B ns e->B.length<=c->e.wait.length<=e.toks.length->Bd κ c ns e
 | [],[],_,_,_,_,_,_,hi,hB,hw=>by have:=List.Perm.length_eq hi;exact⟨by omega,by omega⟩
 | [],_::_,_,_,_,_,_,h,_,_,_=>h.elim
 | _::_,[],_,_,_,_,_,h,_,_,_=>h.elim
 | n::ns,c::cs,ss,k,d,B,e,h,hi,hB,hw=>by
  obtain⟨h1,h2,h3,h4⟩:=h;obtain⟨i1,i2⟩:=hi;have hK:n.K.length<=κ:=by rw[h3];exact AU (CR _ _) hF
  refine⟨hK,by rw[i1.length_eq];exact hB,Good.bd hF hk h4 i2 ?_ hw⟩;have:=Nf n.ext 20 (Oy (by omega)) B;have:=BW 20 hB;omega
def Fd(Z:List Tok)(e:En):Prop:=e.toks.Perm (e.wait++Z)
theorem Fd.le{Z:List Tok}(h:Fd Z e):e.wait.length<=e.toks.length:=by
 have:=List.Perm.length_eq h;rw[AK] at this;omega
theorem Fd.arr{Z:List Tok}:∀(ns:List Nd) {e:En} (ts:List Tok),Fd Z e->Fd Z (arr ns e ts).2
 | [],e,ts,h=>by
  show (e.toks++ts).Perm (ts.foldl (Hp.push Tok.less) e.wait++Z)
  refine(h.append_right ts).trans ?_;refine List.Perm.trans ?_ ((Hp.fold_perm Tok.less ts e.wait).symm.append_right Z);rw[BQ,BQ];exact GR _ JF
 | n::ns,e,ts,h=>Fd.arr ns (ts.flatMap n.ext) h
theorem Fd.drop{Z:List Tok}{e:En}(p:Tok->Bool)(h:Fd Z e):Fd (Z.filter (fun t=>!p t)) (e.drop p):=by
 show (e.toks.filter _).Perm (Hp.init Tok.less (e.wait.filter _)++_)
 refine(JW _ h).trans ?_;rw[DI];exact(Hp.init_perm _ _).symm.append_right _
theorem Jl:∀(ns:List Nd) {e:En} (ts:List Tok),Hp.Is Tok.less e.wait->Hp.Is Tok.less (arr ns e ts).2.wait
 | [],_,ts,h=>Hp.fold_ok Tok.less_ord ts h
 | n::ns,_,ts,h=>Jl ns (ts.flatMap n.ext) h
theorem O0(p:Tok->Bool):Hp.Is Tok.less (e.drop p).wait:=Hp.init_ok Tok.less_ord _
theorem Tok.has_app{t:Tok}(g:Ft)(h:Tok.has f t=true):Tok.has f (t++[g])=true:=by
 unfold Tok.has at h⊢;rw[ES,h];rfl
theorem Tok.has_snoc(f:Ft)(t:Tok):Tok.has f (t++[f])=true:=by
 unfold Tok.has;rw[ES];simp
theorem Vb{f:Ft}:∀(ns:List Nd) {e:En} (ts:List Tok),(∀t∈ts,Tok.has f t=true)->∀u∈(arr ns e ts).2.wait,u∈e.wait\/Tok.has f u=true
 | [],e,ts,h,u,hu=>by
  have:u∈ts.foldl (Hp.push Tok.less) e.wait:=hu;rcases AY.1 ((Hp.fold_perm Tok.less ts e.wait).mem_iff.1 this) with h1|h1
  ·exact .inl h1
  ·exact .inr (h u h1)
 | n::ns,e,ts,h,u,hu=>Vb ns (ts.flatMap n.ext) (fun t ht=>by
   obtain⟨x,hx,hy⟩:=CT.1 ht;rcases Nd.ext_mem hy with rfl|⟨g,_,rfl⟩
   ·exact h _ hx
   ·exact Tok.has_app g (h x hx)) u hu
structure Comes(f:Ft)(Z:List Tok)(e e':En):Prop where
 ex:∃Z',Fd Z' e'/\(∀z∈Z',z∈Z)
 heap:Hp.Is Tok.less e'.wait
 new:∀t∈e'.wait,t∈e.wait\/Tok.has f t=true
theorem M3{Z:List Tok}(n:Nd)(ns:List Nd)(h:Fd Z e)(hh:Hp.Is Tok.less e.wait):Comes f Z e (Ao f n ns e).2.2:=by
 unfold Ao;split
 ·split
  ·refine⟨⟨_,h.drop _,fun z hz=>(BH.1 hz).1⟩,O0 _,fun t ht=>.inl ?_⟩
   have:=(Hp.init_perm Tok.less _).mem_iff.1 ht;exact(BH.1 this).1
  ·refine⟨⟨Z,h.arr _ _,fun z hz=>hz⟩,Jl _ _ hh,Vb _ _ (fun t ht=>?_)⟩
   obtain⟨u,_,rfl⟩:=CJ.1 ht;exact Tok.has_snoc f u
 ·exact⟨⟨Z,h,fun z hz=>hz⟩,hh,fun t ht=>.inl ht⟩
theorem I2{f:Ft}:∀(k:Nat) (ns:List Nd) {Z:List Tok} {e:En},Fd Z e->Hp.Is Tok.less e.wait->Comes f Z e (Da f k ns e).2
 | 0,_,Z,_,h,hh=>⟨⟨Z,h,fun z hz=>hz⟩,hh,fun t ht=>.inl ht⟩
 | _+1,[],Z,_,h,hh=>⟨⟨Z,h,fun z hz=>hz⟩,hh,fun t ht=>.inl ht⟩
 | k+1,n::ns,Z,e,h,hh=>by
  obtain⟨⟨Z1,a1,a2⟩,a3,a4⟩:=M3 (f:=f) n ns h hh;obtain⟨⟨Z2,b1,b2⟩,b3,b4⟩:=I2 (f:=f) k (Ao f n ns e).2.1 a1 a3;refine⟨⟨Z2,b1,fun z hz=>a2 z (b2 z hz)⟩,b3,fun t ht=>?_⟩;rcases b4 t ht with h1|h1
  ·exact a4 t h1
  ·exact .inr h1
theorem Kq{f:Ft}:∀(ns:List Nd) {Z:List Tok} {e:En},Fd Z e->Hp.Is Tok.less e.wait->Fd Z (B5 f ns e).2/\Hp.Is Tok.less (B5 f ns e).2.wait
 | [],_,_,h,hh=>⟨h,hh⟩
 | n::ns,Z,e,h,hh=>by
  obtain⟨a1,a2⟩:=Kq (f:=f) ns h hh;unfold B5 Aw;split
  ·dsimp only
   split
   ·exact⟨a1.arr _ _,Jl _ _ a2⟩
   ·exact⟨a1,a2⟩
  ·exact⟨a1,a2⟩
theorem Vs{Z:List Tok}(h:Fd Z e):Fd (Z.filter (fun t=>!Tok.has f t)) (Ti f ns e).2/\Hp.Is Tok.less (Ti f ns e).2.wait:=
 Kq _ (h.drop _) (O0 _)
end Go.Proofs.YtolhbeekfjnfmaaGreatDoor
namespace Go.Proofs.YtolhbeekfjnfmaaGreatDoor
open Go.RowKit
variable {α:Type}{e:En}{size B i ru jn q m N j k bc lb:Nat}{v nv hd x y z a b av v' cv fst:Value}{w w2 w1 w' w3 w4 w5:World}{U U' U0 U1:Nat->Nat}{o:Obj}{hs:List Value}{f:Ft}{ns:List Nd}{S:Nat->Prop}{cs:List Sv.Cond}
theorem ChainAt.keep{U U':Nat->Nat}{ru jn q b:Nat}{ns:List Nd}{e:En}{w w':World}{S:Nat->Prop}(h:ChainAt U ru jn q b ns e w)(hg:GrS S w w')(hs:∀i,(U i=1\/Am U q ns.length i)->¬ S i)(ho:∀i,i<w.heap.size->U' i=U i):ChainAt U' ru jn q b ns e w':=by
 obtain⟨nv,hd,hs',lb,m1,m2,m3,m4,m5,m6,m7⟩:=h.ex;have hbl:=Ad m1
 have lz:lb<w.heap.size:=by
  obtain⟨b',tv,wv,k1,k2⟩:=m7.bkLast;rw[m6.uniq k1];exact Ad k2.blk
 refine⟨nv,hd,hs',lb,hg.blk m1 (hs b (.inl m2)),by rw[ho b hbl];exact m2,m3.keep2 hg (fun i hi=>hs i (.inl hi)) (fun i hi e=>by rw[ho i hi];exact e),⟨m4.1,fun p n hn=>?_⟩,m5,m6.old lz ho,m7.keep hg (fun i hi=>hs i ?_) (fun i hi _=>ho i hi)⟩
 ·obtain⟨b',h1,h2⟩:=m4.2 p n hn
  obtain⟨b2',h3,h4⟩:=m7.bk hn;obtain rfl:=h2.uniq h3;exact⟨b',h1,h2.old h4 ho⟩
 ·unfold Am
  omega
theorem ChainAt.reg{U U':Nat->Nat}{ru jn q b:Nat}{ns:List Nd}{e:En}{w:World}(h:ChainAt U ru jn q b ns e w)(hu:Reg U U' (4+3*q) (7+3*(q+ns.length))):ChainAt U' ru jn q b ns e w:=by
 obtain⟨nv,hd,hs',lb,m1,m2,m3,m4,m5,m6,m7⟩:=h.ex;exact⟨nv,hd,hs',lb,m1,hu.one b m2,m3.reg hu.one,m4.reg hu,m5,hu.bk m6 (by omega) (by omega) (by omega),m7.reg hu⟩
structure Ch where
 jn:Nat
 ns:List Nd
 e:En
def Eu(cs:List Sv.Cond):Ch:=⟨O3 0 cs,(arr (Ff [] 0 cs) ⟨[],[]⟩ [[]]).1,(arr (Ff [] 0 cs) ⟨[],[]⟩ [[]]).2⟩
theorem Ww(cs:List Sv.Cond):(Eu cs).ns.length=cs.length:=by unfold Eu;rw[Cq,Fs]
def ChsAt(U:Nat->Nat):Nat->Nat->List Ch->List Nat->World->Prop
 | _,_,[],[],_=>True
 | ru,q,c::cs,b::bs,w=>ChainAt U ru c.jn q b c.ns c.e w/\ChsAt U (ru+1) (q+c.ns.length+1) cs bs w
 | _,_,_,_,_=>False
def Cs:Nat->List Ch->Nat
 | q,[]=>q
 | q,c::cs=>Cs (q+c.ns.length+1) cs
theorem Jo:∀(cs:List Ch) (q:Nat),q<=Cs q cs
 | [],_=>AW _
 | c::cs,q=>by have:=Jo cs (q+c.ns.length+1);unfold Cs;omega
theorem O8:∀(cs ds:List Ch) (q:Nat),Cs q (cs++ds)=Cs (Cs q cs) ds
 | [],_,_=>rfl
 | c::cs,ds,q=>O8 cs ds (q+c.ns.length+1)
theorem ChsAt.len{U:Nat->Nat}{w:World}:∀ {cs:List Ch} {bs:List Nat} {ru q:Nat},ChsAt U ru q cs bs w->bs.length=cs.length
 | [],[],_,_,_=>rfl
 | [],_::_,_,_,h=>h.elim
 | _::_,[],_,_,h=>h.elim
 | _::cs,_::bs,_,_,h=>by rw[AP,AP,ChsAt.len h.2]
theorem ChsAt.keep{U U':Nat->Nat}{w w':World}{S:Nat->Prop}(hg:GrS S w w')(ho:∀i,i<w.heap.size->U' i=U i):∀ {cs:List Ch} {bs:List Nat} {ru q:Nat},ChsAt U ru q cs bs w->(∀i,(U i=1\/(4+3*q<=U i/\U i<4+3*Cs q cs))->¬ S i)->ChsAt U' ru q cs bs w'
 | [],[],_,_,_,_=>trivial
 | [],_::_,_,_,h,_=>h.elim
 | _::_,[],_,_,h,_=>h.elim
 | c::cs,b::bs,ru,q,h,hs=>by
  have hq:=Jo cs (q+c.ns.length+1);unfold Cs at hs;refine⟨h.1.keep hg (fun i hi=>hs i ?_) ho,ChsAt.keep hg ho h.2 (fun i hi=>hs i ?_)⟩
  ·unfold Am at hi;omega
  ·omega
theorem ChsAt.reg{U U':Nat->Nat}{w:World}:∀ {cs:List Ch} {bs:List Nat} {ru q:Nat},ChsAt U ru q cs bs w->Reg U U' (4+3*q) (4+3*Cs q cs)->ChsAt U' ru q cs bs w
 | [],[],_,_,_,_=>trivial
 | [],_::_,_,_,h,_=>h.elim
 | _::_,[],_,_,h,_=>h.elim
 | c::cs,b::bs,ru,q,h,hu=>by
  have hq:=Jo cs (q+c.ns.length+1);unfold Cs at hu;exact⟨h.1.reg (hu.sub (by omega) (by omega)),ChsAt.reg h.2 (hu.sub (by omega) (by omega))⟩
theorem ChsAt.snoc{U:Nat->Nat}{w:World}{c:Ch}{b:Nat}:∀ {cs:List Ch} {bs:List Nat} {ru q:Nat},ChsAt U ru q cs bs w->ChainAt U (ru+cs.length) c.jn (Cs q cs) b c.ns c.e w->ChsAt U ru q (cs++[c]) (bs++[b]) w
 | [],[],_,_,_,h=>⟨h,trivial⟩
 | [],_::_,_,_,h,_=>h.elim
 | _::_,[],_,_,h,_=>h.elim
 | d::cs,_::bs,ru,q,h,hc=>⟨h.1,ChsAt.snoc h.2 (by rw[show ru+1+cs.length=ru+(d::cs).length by rw[AP];omega];exact hc)⟩
theorem ChsAt.get{U:Nat->Nat}{w:World}:∀ {cs:List Ch} {bs:List Nat} {ru q j:Nat} {c:Ch},ChsAt U ru q cs bs w->cs[j]?=some c->∃b,bs[j]?=some b/\ChainAt U (ru+j) c.jn (Cs q (cs.take j)) b c.ns c.e w
 | [],_,_,_,_,_,_,h=>by simp at h
 | _::_,[],_,_,_,_,h,_=>h.elim
 | d::cs,b::bs,ru,q,0,c,h,hj=>by
  simp only[BU,AE] at hj;subst hj;exact⟨b,rfl,h.1⟩
 | d::cs,b::bs,ru,q,j+1,c,h,hj=>by
  rw[BS] at hj;obtain⟨b',h1,h2⟩:=ChsAt.get h.2 hj;refine⟨b',by rw[BS];exact h1,?_⟩;rw[show ru+(j+1)=ru+1+j by omega,GG];exact h2
theorem ChsAt.set{U U':Nat->Nat}{w w':World}(ho:∀i,i<w.heap.size->U' i=U i):∀ {cs:List Ch} {bs:List Nat} {ru q j b:Nat} {c c':Ch},ChsAt U ru q cs bs w->cs[j]?=some c->bs[j]?=some b->c'.ns.length=c.ns.length->GrS (Am U (Cs q (cs.take j)) c.ns.length) w w'->ChainAt U' (ru+j) c'.jn (Cs q (cs.take j)) b c'.ns c'.e w'->ChsAt U' ru q (cs.set j c') bs w'
 | [],_,_,_,_,_,_,_,_,h,_,_,_,_=>by simp at h
 | _::_,[],_,_,_,_,_,_,h,_,_,_,_,_=>h.elim
 | d::cs,b::bs,ru,q,0,b',c,c',h,hj,hb,hl,hg,hc=>by
  simp only[BU,AE] at hj hb;subst hj;subst hb;refine⟨hc,?_⟩;rw[hl];refine ChsAt.keep hg ho h.2 (fun i hi hx=>?_);unfold Am at hx;rw[FR] at hx;unfold Cs at hx;omega
 | d::cs,b::bs,ru,q,j+1,b',c,c',h,hj,hb,hl,hg,hc=>by
  rw[BS] at hj hb;rw[GG] at hg hc;refine⟨h.1.keep hg (fun i hi hx=>?_) ho,ChsAt.set ho h.2 hj hb hl hg (by rw[show ru+1+j=ru+(j+1) by omega];exact hc)⟩;have hq:=Jo (cs.take j) (q+d.ns.length+1);unfold Am at hi hx;unfold Cs at hx;omega
def Po(b:Nat):List Value:=[.pointer (some ⟨b,0,none⟩)]
theorem Se(b:Nat):(Po b).length=1:=rfl
theorem Zx(b:Nat):∀c∈Po b,c.oneCell'=true:=by intro c hc;simp[Po] at hc;subst hc;rfl
def NetAt(U:Nat->Nat)(b:Nat)(a8:List Ch)(w:World):Prop:=
 ∃cv bs,w.heap[b]?=some (.cells #[cv] 133 (0,0))/\U b=1/\TRow U 1 134 1 Po cv bs w/\ChsAt U 0 0 a8 bs w
structure RsIn(U:Nat->Nat)(lv:Value)(rs:List Sv.Rule)(w:World):Prop where
 ex:∃ao cap,lv=.slice ao rs.length cap/\(rs≠[]->∃g,ao=some ⟨g,0,none⟩/\U g=1/\g<w.heap.size/\∀j r,rs[j]?=some r->∃u,w.cell? ⟨g,j*2,none⟩=some (.string ⟨r.name.toArray⟩)/\w.cell? ⟨g,j*2+1,none⟩=some u/\CsIn U u r.conds w)
theorem PsAt.cell{e:TypeId}{v:Value}{l:List Nat}{w:World}(h:RowAt e 1 Po 0 v l w){k b:Nat}(hk:l[k]?=some b):∃g cap,v=.slice (some ⟨g,0,none⟩) l.length cap/\w.cell? ⟨g,k,none⟩=some (.pointer (some ⟨b,0,none⟩)):=by
 obtain⟨g,cap,h1,h2⟩:=h.cells hk;have:=h2 0 (by omega);rw[FB,EG] at this;exact⟨g,cap,h1,this⟩
def G8(f:Ft)(c:Ch):Ch:=⟨c.jn,(Da f c.ns.length c.ns c.e).1,(Da f c.ns.length c.ns c.e).2⟩
theorem Lt(f:Ft):∀(k:Nat) (ns:List Nd) (e:En),(Da f k ns e).1.length=ns.length
 | 0,_,_=>rfl
 | _+1,[],_=>rfl
 | k+1,n::ns,e=>by
  show (Da f k _ _).1.length+1=_
  rw[Lt f k,Eo,AP]
structure ChFit(c:Ch):Prop where
 wf:WF [] c.ns
 en:EndOk [] c.ns c.e
 bd:Bd 16 1 c.ns c.e
 few:c.ns.length<=4
def Fy(f:Ft)(j:Nat)(a8:List Ch):List Ch:=(a8.take j).map (G8 f)++a8.drop j
theorem Lw{a8:List Ch}{c:Ch}(h:a8[j]?=some c):(Fy f j a8)[j]?=some c:=by
 have hl:=(AL.1 h).1;unfold Fy;rw[DW (by simp;omega)];simp[Nat.min_eq_left (Nat.le_of_lt hl),h]
theorem Qa{a8:List Ch}{c:Ch}(h:a8[j]?=some c):Fy f (j+1) a8=(Fy f j a8).set j (G8 f c):=by
 have hl:=(AL.1 h).1;have hd:a8.drop j=c::a8.drop (j+1):=by rw[CP hl,(AL.1 h).2]
 unfold Fy;rw[GS _ _ (by simp;omega),CZ,h,hd];simp[Nat.min_eq_left (Nat.le_of_lt hl)]
theorem Q3m(U:Nat->Nat)(b:Nat)(a8:List Ch)(f:Ft)(w:World)(hN:NetAt U b a8 w)(aK:∀c∈a8,ChFit c)(hf:FtAt U f w) :
  Calls Tryz.prog 41 #[.pointer (some ⟨b,0,none⟩),Ee f] w fun e w'=>e=.returned (.tuple #[])/\∃U',NetAt U' b (a8.map (G8 f)) w'/\GrS (fun i=>4<=U i) w w'/\FtAt U' f w'/\∀i,i<w.heap.size->U' i=U i:=by
 obtain⟨cv,bs,h1,h2,h3,h4⟩:=hN;obtain⟨ao,cap,rfl⟩:=h3.1.slice;have cj:=h3.1.le;unfold maxLen at cj;have rH:=h4.len;have c0:w.cell? ⟨b,0,none⟩=some (.slice ao bs.length cap):=by simp[World.cell?,h1]
 have HI:=Ac (show ∃U',w.heap[b]?=some (.cells #[.slice ao bs.length cap] 133 (0,0))/\U' b=1/\TRow U' 1 134 1 Po (.slice ao bs.length cap) bs w/\ChsAt U' 0 0 (Fy f 0 a8) bs w/\GrS (fun i=>4<=U i) w w/\FtAt U' f w/\∀i,i<w.heap.size->U' i=U i from⟨U,h1,h2,h3,by simpa[Fy] using h4,GrS.refl _ _,hf,fun _ _=>rfl⟩);have fe:=Ac aK;have iL:=Ac rH;clear h1 h2 h3 h4 hf aK rH;unfold Ee;go_enter Tryz.func41,Tryz.ntmps41;go_wp2;clear c0;go_loopw [11] (fun x w'=>∃j:Nat,j<=bs.length/\x=.int .i64 j/\Hid (∃U',w'.heap[b]?=some (.cells #[.slice ao bs.length cap] 133 (0,0))/\U' b=1/\TRow U' 1 134 1 Po (.slice ao bs.length cap) bs w'/\ChsAt U' 0 0 (Fy f j a8) bs w'/\GrS (fun i=>4<=U i) w w'/\FtAt U' f w'/\∀i,i<w.heap.size->U' i=U i)) (fun x _=>bs.length-(intOf x).toNat)
 case atStart=>exact⟨0,AG _,rfl,HI⟩
 case round=>
  clear HI;obtain⟨j,hj,rfl,HK⟩:=hrel;obtain⟨Ux,x1,x2,x3,x4,x5,x6,x7⟩:=Aa HK;clear HK;by_cases hlt:j<bs.length
  ·have hd:decide (j<bs.length)=true:=by simpa using hlt
   have hlc:j<a8.length:=by rw[<-Aa iL];exact hlt
   obtain⟨c,hc⟩:∃c,a8[j]?=some c:=⟨_,AB hlc⟩
   obtain⟨bj,s7,hch⟩:=x4.get (Lw (f:=f) hc);obtain⟨g,cap',e1,c1⟩:=PsAt.cell x3.1 s7;simp only[AH,BP] at e1;obtain⟨rfl,rfl⟩:=e1;have ag:=Aa fe c (AV hc);rw[BV] at hch;have hA:=Q3b j c.jn Ux _ bj c.ns c.e f wr hch ag.wf ag.en ag.bd ag.few x6
   have gz:Calls Tryz.prog 69 #[.pointer (some ⟨bj,0,none⟩),.pointer (some ⟨f.blk,0,none⟩)] wr fun e' w'=>e'=.returned (.tuple #[])/\Hid (∃U',w'.heap[b]?=some (.cells #[.slice (some ⟨g,0,none⟩) bs.length cap] 133 (0,0))/\U' b=1/\TRow U' 1 134 1 Po (.slice (some ⟨g,0,none⟩) bs.length cap) bs w'/\ChsAt U' 0 0 (Fy f (j+1) a8) bs w'/\GrS (fun i=>4<=U i) w w'/\FtAt U' f w'/\∀i,i<w.heap.size->U' i=U i):=by
    refine hA.mono ?_;rintro e' w'⟨rfl,U',k1,k2,k3⟩;have dF:∀i,Ux i=1->¬ Am Ux (Cs 0 ((Fy f j a8).take j)) c.ns.length i:=fun i hi hx=>by unfold Am at hx;omega
    refine⟨rfl,Ac ⟨U',k2.blk x1 (dF b x2),by rw[k3 b (Ad x1)];exact x2,x3.keep2 k2 dF (fun i hi e=>by rw[k3 i hi];exact e),?_,?_,x6.keep k2 dF (fun i hi e=>by rw[k3 i hi];exact e),fun i hi=>by rw[k3 i (AZ hi x5.size),x7 i hi]⟩⟩
    ·rw[Qa hc]
     refine ChsAt.set k3 x4 (Lw hc) s7 (Lt f _ _ _) k2 ?_;rw[BV];exact k1
    ·refine x5.comp k2 (fun i hi hn hx=>hn ?_)
     rw[<-x7 i hi];unfold Am at hx;omega
   clear hA hch x1 x2 x3 x4 x5 x6 x7 ag
   go_wp2_with (go_at_call 69;refine gz.mono ?_;rintro e' w2⟨rfl,hK2⟩)
   go_roundw
   case rel=>exact⟨j+1,by omega,by go_num,hK2⟩
   case measure=>simp[intOf];omega
  ·have hd:decide (j<bs.length)=false:=by simpa using hlt
   have e:Fy f j a8=a8.map (G8 f):=by
    unfold Fy;rw[CA (by have:=Aa iL;omega),IX (by have:=Aa iL;omega),BM]
   rw[e] at x4;have HF:=Ac (show ∃U',NetAt U' b (a8.map (G8 f)) wr/\GrS (fun i=>4<=U i) w wr/\FtAt U' f wr/\∀i,i<w.heap.size->U' i=U i from⟨Ux,⟨_,bs,x1,x2,x3,x4⟩,x5,x6,x7⟩);clear x1 x2 x3 x4 x5 x6 x7 e;go_wp2;go_end0
   exact⟨rfl,Aa HF⟩
theorem Sn(h:v.oneCell'=true):∀c∈venc v,c.oneCell'=true:=by
 intro c hc;simp[venc] at hc;subst hc;exact h
theorem Tryz.infoNode:(Tryz.prog.info? 150).map (fun i=>(i.zero,i.size,i.bytes))=some (some .nilIface,1,16):=by kernel_rfl
def Mq(m:Nat):Prop:=∀(U:Nat->Nat) (ru q k bc lb:Nat) (fst av cv:Value) (ss:List Site) (cs:List Sv.Cond) (w:World),cs.length=m->BuildPre U ru q k bc lb fst av cv ss cs w->
 Calls Tryz.prog 100 #[.pointer (some ⟨bc,0,none⟩),cv,av] w fun e w'=>∃hd,e=.returned hd/\BuildPost U ru q k bc lb fst ss cs w w' hd
theorem BuildPost.head{U:Nat->Nat}{ru q k bc lb:Nat}{fst:Value}{ss:List Site}{cs:List Sv.Cond}{w w':World}{hd:Value}(h:BuildPost U ru q k bc lb fst ss cs w w' hd):∃ty b,hd=.iface ty (.pointer (some ⟨b,0,none⟩)):=by
 obtain⟨U',nv,hs,p1,p2,p3,p4,p5,p6,_⟩:=h;rcases p6.head with ⟨b,h,_⟩|⟨b,_,_,h,_⟩|⟨b,_,_,h,_⟩
 all_goals exact⟨_,b,h⟩
theorem BuildPost.cells1{ss:List Site}(h:BuildPost U ru q k bc lb fst ss cs w w' hd)(hi:w.heap[i]?=some o)(hu:U i=1)(hl:i≠lb):w'.heap[i]?=some o:=by
 obtain⟨U',nv,hs,p1,p2,p3,p4,p5,p6,p7,_⟩:=h;exact p7.blk hi (by omega)
theorem Nl:∀(cs:List Sv.Cond) (ss:List Site) (k:Nat),Inv [] (Ff ss k cs) ⟨[],[]⟩
 | [],_,_=>DU _
 | c::cs,ss,k=>by unfold Ff;exact⟨DU _,Nl cs _ _⟩
theorem Q17(h:cs.length<=4):WF [] (Ff [] 0 cs):=
 (Good.wf (A:=[]) (B:=[]) (Hu cs [] 0) (fun s hs=>by simp at hs) (by simp) (Nl cs [] 0) (by simpa using h)).1
theorem Tn(h:cs.length<=4):Small 1000000000 (arr (Ff [] 0 cs) ⟨[],[]⟩ [[]]).1 (arr (Ff [] 0 cs) ⟨[],[]⟩ [[]]).2:=by
 have hb:Bd 0 0 (Ff [] 0 cs) ⟨[],[]⟩:=Good.bd (F:=[]) (by simp) (by omega) (Hu cs [] 0) (Nl cs [] 0) (by simp) (by simp);have hl:(arr (Ff [] 0 cs) ⟨[],[]⟩ [[]]).1.length=cs.length:=by rw[Cq,Fs]
 refine(hb.arr (by omega) (ts:=[[]]) (t:=1) (by simp)).small (by rw[hl];exact h) ?_;rw[hl];have:=DL (show 0<20 by omega) h;omega
theorem Q0f:Bt []=.agg #[.pointer none,.pointer none,.pointer none,.pointer none]:=by rfl
def Yi(U:Nat->Nat)(w:World)(c:Nat):Nat->Nat:=fun i=>if i<w.heap.size then U i else if i=w.heap.size+1 then c else if i=w.heap.size+2 then 2 else 1
theorem Q3a{w0:World}(hU:∀i,i<w.heap.size->U i<2\/4<=U i/\U i<4+3*q)(hC:CsIn U cv cs w)(dV:∀c∈cs,c.terms.length<=4)(hl:cs.length<=4)(hg:w.grownBy w0 none)
 (h1:w0.heap[w.heap.size+1]?=some (.cells #[.slice none 0 0,.slice none 0 0,.int .i64 ru,.int .i64 0] 147 (0,0)))(h2:w0.heap[w.heap.size+2]?=some (.cells #[.slice none 0 0,.nilIface,.pointer (some ⟨w.heap.size+1,0,none⟩)] 152 (0,0))) :
  BuildPre (Yi U w (4+3*(q+cs.length))) ru q 0 (w.heap.size+2) (w.heap.size+1) .nilIface (.slice none 0 0) cv [] cs w0:=by
 have hG:GrS (fun _:Nat=>False) w w0:=GrS.of hg (by simp);have ho:∀i,i<w.heap.size->Yi U w (4+3*(q+cs.length)) i=U i:=fun i hi=>by unfold Yi;rw[AQ hi]
 refine⟨h2,h1,?_,?_,fun i hi hne=>?_,⟨RowAt.nil 0 _ Sh,by simp[Value.ownBlock]⟩,hC.keep hG (by simp) (fun i hi e=>by rw[ho i hi];exact e),dV,by omega,by simp;omega⟩
 ·unfold Yi;rw[AO (by omega),AO (by omega),AQ rfl]
 ·unfold Yi;rw[AO (by omega),AQ rfl]
 ·by_cases hw:i<w.heap.size
  ·rw[ho i hw];have:=hU i hw;omega
  ·unfold Yi;rw[AO hw,AO hne];split<;>omega
theorem Tr(buildOK:∀m,Mq m)(U:Nat->Nat)(ru q:Nat)(nm:ByteArray)(cv:Value)(cs:List Sv.Cond)(w:World)(hU:∀i,i<w.heap.size->U i<2\/4<=U i/\U i<4+3*q)(hC:CsIn U cv cs w)(dV:∀c∈cs,c.terms.length<=4)(hl:cs.length<=4) :
  Calls Tryz.prog 68 #[.int .i64 ru,.agg #[.string nm,cv]] w fun e w'=>∃b,e=.returned (.pointer (some ⟨b,0,none⟩))/\w.heap.size<=b/\Fg U ru q b cs w w':=by
 obtain⟨ao,cap,hcv,_⟩:=hC.ex;subst hcv;obtain⟨m,hm⟩:∃m,cs.length=m:=⟨_,rfl⟩
 have hg0:=Ab (Dm w (.cells #[.string nm,.slice ao m cap] 128) (.cells #[.slice none 0 0,.slice none 0 0,.int .i64 ru,.int .i64 0] 147)) (AA _ (.cells #[.slice none 0 0,.nilIface,.pointer (some ⟨w.heap.size+1,0,none⟩)] 152) none);obtain⟨w0,hw0⟩:∃w0,w0=((w.alloc (.cells #[.string nm,.slice ao m cap] 128)).alloc (.cells #[.slice none 0 0,.slice none 0 0,.int .i64 ru,.int .i64 0] 147)).alloc (.cells #[.slice none 0 0,.nilIface,.pointer (some ⟨w.heap.size+1,0,none⟩)] 152):=⟨_,rfl⟩
 rw[<-hw0] at hg0;have hs0:w0.heap.size=w.heap.size+3:=by rw[hw0];simp
 have hb1:w0.heap[w.heap.size+1]?=some (.cells #[.slice none 0 0,.slice none 0 0,.int .i64 ru,.int .i64 0] 147 (0,0)):=by
  rw[hw0];refine Lz (Hn ?_);simp
 have hb2:w0.heap[w.heap.size+2]?=some (.cells #[.slice none 0 0,.nilIface,.pointer (some ⟨w.heap.size+1,0,none⟩)] 152 (0,0)):=by
  rw[hw0];refine Hn ?_;simp
 have hB:=buildOK m _ _ _ _ _ _ _ _ _ _ _ _ hm (Q3a (ru:=ru) hU hC dV hl hg0 hb1 hb2);rw[hm]
 have hB2:Calls Tryz.prog 100 #[.pointer (some ⟨w.heap.size+2,0,none⟩),.slice ao m cap,.slice none 0 0] w0 fun e w3=>∃ty fn b,e=.returned (.iface ty (.pointer (some ⟨b,0,none⟩)))/\ArrFn ty fn/\(w3.cell? ⟨w.heap.size+2,1,none⟩=some .nilIface/\w3.frozen? ⟨w.heap.size+2,1,none⟩=false)/\
   Calls Tryz.prog fn #[.pointer (some ⟨b,0,none⟩),.agg #[.pointer none,.pointer none,.pointer none,.pointer none]] (w3.setCell ⟨w.heap.size+2,1,none⟩ (.iface ty (.pointer (some ⟨b,0,none⟩)))) fun e' w5=>e'=.returned (.tuple #[])/\Fg U ru q (w.heap.size+2) cs w w5:=by
  rw[hm] at hB;refine hB.mono ?_;rintro e w3⟨hd,rfl,hP⟩;obtain⟨ty,b,rfl⟩:=hP.head;obtain⟨Ua,hM⟩:=Y2 hP hg0 (U:=U) (fun i hi=>by unfold Yi;rw[AQ hi]) hU (fun i hi hlt hne=>by unfold Yi;rw[AO (by omega),AO hne];split<;>omega) (by omega) (by omega) (by unfold Yi;rw[AO (by omega),AO (by omega),AQ rfl]) (by omega) (by omega) (by unfold Yi;rw[AO (by omega),AQ rfl,hm])
  obtain⟨fn,hfn⟩:∃fn,ArrFn ty fn:=by
   obtain⟨_,_,_,_,_,_,_,_,_,h7,_⟩:=hM;rcases h7.head with ⟨_,h,_⟩|⟨_,_,_,h,_⟩|⟨_,_,_,h,_⟩
   all_goals
    simp only[DK] at h;rw[h.1]
   ·exact⟨_,.inl ⟨rfl,rfl⟩⟩
   ·exact⟨_,.inr (.inl ⟨rfl,rfl⟩)⟩
   ·exact⟨_,.inr (.inr ⟨rfl,rfl⟩)⟩
  refine⟨ty,fn,b,rfl,hfn,?_,?_⟩
  ·obtain⟨U',nv,hs,p1,_⟩:=hP
   exact⟨by simp[World.cell?,p1],by simp[World.frozen?,p1]⟩
  ·have hM':=hM
   obtain⟨_,_,_,_,_,_,_,_,_,h7,_⟩:=hM';have hA:=Va ru (O3 0 cs) (Ff [] 0 cs).length (Ff [] 0 cs) [] q b ty fn Ua ⟨[],[]⟩ [] _ rfl hfn h7 (Q17 hl) rfl (by simp) (by simp) (Tn hl);rw[Q0f] at hA;refine hA.mono ?_;rintro e w5⟨rfl,hp⟩;exact⟨rfl,Y0 hU hM hp⟩
 have mL:=Tryz.mArrL;have mJ:=Tryz.mArrJ;have mH:=Tryz.mArrH
 have hc0:w0.cell? ⟨w.heap.size,1,none⟩=some (.slice ao m cap):=by
  rw[hw0];have:(((w.alloc (.cells #[.string nm,.slice ao m cap] 128)).alloc (.cells #[.slice none 0 0,.slice none 0 0,.int .i64 ru,.int .i64 0] 147)).alloc (.cells #[.slice none 0 0,.nilIface,.pointer (some ⟨w.heap.size+1,0,none⟩)] 152)).heap[w.heap.size]?=some (.cells #[.string nm,.slice ao m cap] 128 (0,0)):=Lz (Lz (Hn rfl));simp[World.cell?,this]
 have HW0:=Ac hw0;clear hB hb1 hb2 hU hC dV hg0 hm;go_enter Tryz.func68,Tryz.ntmps68;rw[show w.heap.size+2=w.heap.size+1+1 from rfl] at hB2;go_wp2_with fail;rw[<-Aa HW0];refine hB2.mono ?_;rintro e w3⟨ty,fn,b,rfl,hfn,⟨y1,yf⟩,hA⟩;have y2:(w3.setCell ⟨w.heap.size+1+1,1,none⟩ (.iface ty (.pointer (some ⟨b,0,none⟩)))).cell? ⟨w.heap.size+1+1,1,none⟩=some (.iface ty (.pointer (some ⟨b,0,none⟩))):=World.cell?_setCell_same' _ _ _ (by rw[y1];rfl);clear hB2 hw0 hc0 HW0 hs0;rcases hfn with ⟨rfl,rfl⟩|⟨rfl,rfl⟩|⟨rfl,rfl⟩
 ·go_wp2_with (go_at_call 240;refine hA.mono ?_;rintro e w5⟨rfl,hC⟩)
  go_ret;exact⟨_,rfl,by omega,hC⟩
 ·go_wp2_with (go_at_call 257;refine hA.mono ?_;rintro e w5⟨rfl,hC⟩)
  go_ret;exact⟨_,rfl,by omega,hC⟩
 ·go_wp2_with (go_at_call 255;refine hA.mono ?_;rintro e w5⟨rfl,hC⟩)
  go_ret;exact⟨_,rfl,by omega,hC⟩
end Go.Proofs.YtolhbeekfjnfmaaGreatDoor

import Derived.RangeFuncNested
import Derived.RangeFuncBound
import Derived.RangeFuncCalls
import Derived.RangeFuncLeaves
import Derived.Shelf.RegionOpen
import Derived.OwnWalkIn
import Derived.TacticsInMore
import Derived.LoopNIn
import Derived.LoopIn
import Derived.Test.YtolhbeekfjnfmaaGreatDoorA20
set_option maxHeartbeats 8000000
set_option maxRecDepth 100000
namespace Go.Proofs.YtolhbeekfjnfmaaGreatDoor
open Go.RowKit Go.Proofs.Tryz
attribute [local go_sem] Oper.semAt_some
abbrev ES:=@World.putObj_heap_other
abbrev FX:=@Oper.semAt_some
abbrev GP:=@grownBy_putObj'
variable {α:Type}{e:En}{size B i ru jn q m N j k bc lb:Nat}{v nv hd x y z a b av v' cv fst:Value}{w w2 w1 w' w3 w4 w5:World}{U U' U0 U1:Nat->Nat}{o:Obj}{hs:List Value}{f:Ft}{ns:List Nd}{S:Nat->Prop}{cs:List Q0A}
theorem Q4P(xT:TypeId)(v:Value)(w:World):(Instr.typeAssert (.iface 208 v) xT 208 true).run prog w=.ok (.tuple #[v,.bool true]) w:=by simp[Instr.typeAssert,run_underlying underlying208]
theorem Q4O(xT:TypeId)(v:Value)(w:World):(Instr.typeAssert (.iface 209 v) xT 209 true).run prog w=.ok (.tuple #[v,.bool true]) w:=by simp[Instr.typeAssert,run_underlying underlying209]
theorem Q4C(xT:TypeId)(v:Value)(w:World):(Instr.typeAssert (.iface 209 v) xT 208 true).run prog w=.ok (.tuple #[.pointer none,.bool false]) w:=by simp[Instr.typeAssert,run_underlying underlying208]
structure ReU(U U':Nat->Nat)(w:World):Prop where
 cells:∀i cs t fz,w.heap[i]?=some (.cells cs t fz)->U' i=U i
 low:∀i,U' i=U i\/U' i=0
theorem Q0B.blockCells{e:TypeId}{enc:α->List Value}{base:Nat}{l:List α}(h:Q0B e size enc base v l w){g:Nat}(hg:v.ownBlock=some g):∃cs fz,w.heap[g]?=some (.cells cs e fz):=by rcases h.2.2 with ⟨h1,_⟩|⟨g',cap',cur,h1,h2,h3,_⟩;{rw[h1]at hg;simp[Value.ownBlock]at hg};{rw[h1]at hg;simp[Value.ownBlock]at hg;subst hg;exact⟨_,_,h3⟩}
theorem Q0Q.re{t:Nat}{e:TypeId}{enc:α->List Value}{l:List α}(h:Q0Q U t e size enc v l w)(hu:ReU U U' w):Q0Q U' t e size enc v l w:=
 ⟨h.1,λg hg=>by obtain⟨cs,fz,hc⟩:=h.1.blockCells hg;rw[hu.cells g _ _ _ hc];exact h.2 g hg⟩
theorem Q0J.re{U U':Nat->Nat}{g:Ft}{w:World}(h:Q0J U g w)(hu:ReU U U' w):Q0J U' g w:=by obtain⟨h1,h2,v,h3,h4⟩:=h;exact⟨by rw[hu.cells _ _ _ _ h3];exact h1,h2,v,h3,h4.re hu⟩
theorem Q0M.re{U U':Nat->Nat}{q k b:Nat}{n:Nd}{nx tv lv ov fv:Value}{w:World}(h:Q0M U q k b n nx tv lv ov fv w)(hu:ReU U U' w):Q0M U' q k b n nx tv lv ov fv w:=
 ⟨h.blk,by rw[hu.cells _ _ _ _ h.blk];exact h.own,h.terms.re hu,h.links.re hu,h.toks.re hu,h.facts.re hu,λg hg=>(h.fts g hg).re hu,λt ht g hg=>(h.tfs t ht g hg).re hu,h.short,λi hi=>by
  rcases hu.low i with e|e
  ·rw[e];exact h.low i hi
  ·rw[e];omega⟩
theorem Q0T.re{U U':Nat->Nat}{q b ru jn:Nat}{e:En}{tv wv:Value}{w:World}(h:Q0T U q b ru jn e tv wv w)(hu:ReU U U' w):Q0T U' q b ru jn e tv wv w:=
 ⟨h.blk,by rw[hu.cells _ _ _ _ h.blk];exact h.own,h.toks.re hu,h.wait.re hu,λt ht g hg=>(h.tfs t ht g hg).re hu,λt ht g hg=>(h.wfs t ht g hg).re hu,λi hi=>by
  rcases hu.low i with e|e
  ·rw[e];exact h.low i hi
  ·rw[e];omega⟩
theorem Q0K.re{U U':Nat->Nat}{ru jn:Nat}{w:World}(hu:ReU U U' w):∀ {ns:List Nd} {q k:Nat} {e:En} {hd:Value},Q0K U ru jn q k ns e hd w->Q0K U' ru jn q k ns e hd w
 |[],_,_,_,_,⟨b,tv,wv,h1,h2⟩=>⟨b,tv,wv,h1,h2.re hu⟩
 |_::_,_,_,_,_,⟨b,nx,tv,lv,ov,fv,h1,h2,h3⟩=>⟨b,nx,tv,lv,ov,fv,h1,h2.re hu,Q0K.re hu h3⟩
def O8(B:Nat)(U:Nat->Nat)(w:World):Nat->Nat:=λi=>if i<B then U i else match w.heap[i]? with|some (.cells ..)=>U i|_=>0
theorem Zf(B:Nat)(U:Nat->Nat)(w:World):ReU U (O8 B U w) w:=
 ⟨λi cs t fz h=>by simp[O8,h],λi=>by unfold O8;split;exact .inl rfl;split<;>simp⟩
theorem Vw(hB:B<=i)(h:w.heap[i]?=some o)(ho:o.isCells=false):O8 B U w i=0:=by unfold O8;rw[h,AO (by omega)];cases o<;>simp_all [Obj.isCells]
theorem Vx(hB:i<B):O8 B U w i=U i:=by unfold O8;rw[AQ hB]
def Q2J(U:Nat->Nat)(q:Nat)(ns:List Nd)(hs:List Value):Prop:=
 hs.length=ns.length/\∀p n,ns[p]?=some n->∃b,hs[p]?=some (.iface (Dc n.c.neg) (.pointer (some ⟨b,0,none⟩)))/\Bk U (4+3*(q+p)) b
def venc(v:Value):List Value:=[v]
structure Q1B(U:Nat->Nat)(ru jn q b:Nat)(ns:List Nd)(e:En)(w:World):Prop where
 ex:∃nv hd hs lb,w.heap[b]?=some (.cells #[nv,hd,.pointer (some ⟨lb,0,none⟩)] 152 (0,0))/\U b=1/\Q0Q U 1 150 1 venc nv hs.reverse w/\Q2J U q ns hs/\(∀h∈hs,h.oneCell'=true)/\Bk U (4+3*(q+ns.length)) lb/\Q0K U ru jn q 0 ns e hd w
def BKp(Bs:Nat)(nv:Value)(W W':World):Prop:=W'.heap[Bs]?=W.heap[Bs]?/\∀g,nv.ownBlock=some g->W'.heap[g]?=W.heap[g]?
theorem BKp.trans{Bs:Nat}{nv:Value}{A B C:World}(h:BKp Bs nv A B)(k:BKp Bs nv B C):BKp Bs nv A C:=⟨k.1.trans h.1,λg hg=>(k.2 g hg).trans (h.2 g hg)⟩
theorem BKp.refl(Bs:Nat)(nv:Value)(A:World):BKp Bs nv A A:=⟨rfl,λ_ _=>rfl⟩
theorem BKp.row{Bs:Nat}{A B:World}(h:BKp Bs nv A B)(hr:Q0B 150 1 venc 0 nv hs A):Q0B 150 1 venc 0 nv hs B:=by refine⟨hr.1,hr.2.1,?_⟩;rcases hr.2.2 with h1|⟨g',cap',cur,h1,h2,h3,h4⟩;{exact .inl h1};{exact .inr ⟨g',cap',cur,h1,h2,by rw[h.2 g' (by rw[h1];rfl)];exact h3,h4⟩}
def Y9(m:Nat)(hs:List Value)(x:Fin m):Array Value:=#[.int .i64 ((m:Int)-1-(x.1:Int)),hs[x.1]?.getD undef]
theorem Y8(F:Fence)(n:Nat)(hF:F.fn 135)(hro:F.round=none)(hn:1<=n)(l Bs m:Nat)(nv:Value)(hs:List Value)(hm:hs.length=m)(hm4:m<=1000)(J Jx:List (Fin m)->World->Prop) (hY:∀pre x W,J pre W->pre.length<m->YieldAt F (n-1) prog l (Y9 m hs x) W λe W'=>(e=.returned (.bool true)/\J (pre++[x]) W'/\BKp Bs nv W W')\/(e=.returned (.bool false)/\Jx (pre++[x]) W')) (W:World)(UL:W.cell? ⟨Bs,0,none⟩=some nv)(hr:Q0B 150 1 venc 0 nv hs.reverse W)(h0:J [] W):CallsIn F n prog 135 #[.func (.yield l) #[] #[],.pointer (some ⟨Bs,0,none⟩)] W λe W'=>(∃v,e=.returned v)/\((∃ys,ys.map Fin.val=List.range m/\J ys W')\/(∃pre,True/\Jx pre W')):=by
 obtain⟨ao,cap,dT⟩:=hr.slice;rw[GL,hm]at dT;have hB0:=UL;subst dT;refine callsIn_of_wp func135 rfl hF ?_ hro;simp only[ntmps135,FM,AP,CD,Nat.reduceAdd,Nat.reduceSub,EL,EM,FL,EX,CV,CN];have fy:hs.reverse.length=m:=by rw[GL,hm]
 gi_wp2;gi_loopw [3] (λi wr=>∃(j:Nat) (pre:List (Fin m)),j<=m/\i=.int .i64 ((m:Int)-1-j)/\pre.map Fin.val=List.range j/\J pre wr/\BKp Bs (.slice ao m cap) W wr) (λi _=>((intOf i)+1).toNat);case atStart=>exact⟨0,[],AG _,by simp,rfl,h0,BKp.refl _ _ _⟩
 case round=>(obtain⟨j,pre,hj,rfl,hpre,hJs,cR⟩:=hrel;have hpl:pre.length=j:=by have:=BJ List.length hpre;simpa using this);(have hcB:wr.cell? ⟨Bs,0,none⟩=some (.slice ao m cap):=by unfold World.cell? at hB0⊢;rw[cR.1];exact hB0);by_cases hlt:j<m;{have qd:=cR.row hr;(have iC:j<hs.length:=by omega);(have hx:hs.reverse[m-1-j]?=some (hs[j]'iC):=by rw[LC (by omega)];rw[show hs.length-1-(m-1-j)=j by omega,AB iC]);(have TU:=qd.cells hx;obtain⟨fn,tmps,assign,body,hy,hR⟩:=hY pre ⟨j,hlt⟩ wr hJs (by omega);have hge:hs[j]?.getD undef=hs[j]'iC:=by rw[AB iC];rfl);(simp only[Y9,hge]at hy;obtain⟨g,aS,e1,hcg⟩:=TU;simp only[AH]at e1;obtain⟨rfl,hmm,rfl⟩:=e1;clear hmm;have hck:=hcg 0 (by omega);simp only[venc,BW,FN,EI]at hck;obtain⟨k,hk⟩:∃k,k=m-1-j:=⟨_,rfl⟩);(rw[<-hk]at hck;have he:(m:Int)-1-(j:Int)=(k:Int):=by omega);(have gT:k<m:=by omega);(generalize hs[j]'iC=hv at hy hck;clear hcg hge hx qd;rw[he]at hy⊢;obtain⟨z,hz⟩:∃z:Int,z=(k:Int):=⟨_,rfl⟩);(rw[<-hz]at hy⊢;have hz0:0<=z:=by omega);(have zD:z<m:=by omega);(have hzk:z.toNat=k:=by omega);rw[<-hzk]at hck;have HZ:=Ac hz;have HK:=Ac hk;clear hz hzk he hk hm fy hpl iC hY hr hB0;gi_wp2;refine hR.mono ?_;rintro e W3 (⟨rfl,hJ3,hk3⟩|⟨rfl,hJx3⟩);{gi_wp2;go_roundw;(case rel=>exact⟨j+1,pre++[⟨j,hlt⟩],by omega,by have:=Aa HZ;have:=Aa HK;simp;omega,by simp[hpre,List.range_succ],hJ3,cR.trans hk3⟩);case measure=>simp[intOf];omega};{gi_wp2;refine BO (results_none rfl _ _ _) rfl ?_;exact⟨⟨_,rfl⟩,.inr ⟨_,trivial,hJx3⟩⟩}};{(obtain rfl:j=m:=by omega);gi_wp2;go_end0;exact⟨⟨_,rfl⟩,.inl ⟨pre,hpre,hJs⟩⟩}
theorem Ty(F:Fence)(n:Nat)(hF:F.fn 135)(hro:F.round=none)(hn:1<=n)(Bs m:Nat)(nv:Value)(hs:List Value)(hm:hs.length=m)(hm4:m<=1000)(w:World)(hB:Bs<w.heap.size)
 (UL:w.cell? ⟨Bs,0,none⟩=some nv)(hr:Q0B 150 1 venc 0 nv hs.reverse w):
  SeqStopsK F n prog 135 #[.pointer (some ⟨Bs,0,none⟩)] (Y9 m hs) (BKp Bs nv) (λys=>ys.map Fin.val=List.range m) (λ_=>True) m w:=λl J Jx W hW _ _ hY h0=>by
 have hk:BKp Bs nv w W:=⟨hW.block Bs hB,λg hg=>hW.block g (hr.own g hg).2⟩
 refine Y8 F n hF hro hn l Bs m nv hs hm hm4 J Jx hY W ?_ (hk.row hr) h0;unfold World.cell? at UL⊢;rw[hk.1];exact UL
theorem Q11(F:Fence)(n:Nat)(hF:F.fn 101)(hro:F.round=none)(a:Option Addr)(len cap:Nat)(w:World):CallsIn F n prog 101 #[.slice a len cap] w λe w'=>e=.returned (.func (.func 135) #[] #[.pointer (some ⟨w.heap.size,0,none⟩)])/\w'=w.alloc (.cells #[.slice a len cap] 148):=by refine callsIn_of_wp func101 rfl hF ?_ hro;simp only[ntmps101,FM,AP,CD,Nat.reduceAdd,Nat.reduceSub,EL,EM,FL,EX,CV,CN];gi_wp2;go_ret;exact⟨rfl,rfl⟩
theorem Q0K.bk{U:Nat->Nat}{ru jn:Nat}{w:World}:∀ {ns:List Nd} {q k p:Nat} {e:En} {hd:Value} {n:Nd},Q0K U ru jn q k ns e hd w->ns[p]?=some n->∃b,Bk U (4+3*(q+p)) b/\b<w.heap.size
 |[],_,_,_,_,_,_,_,h=>by simp at h
 |n::ns,q,k,0,e,hd,m,⟨b,nx,tv,lv,ov,fv,h1,h2,h3⟩,h=>⟨b,⟨h2.own,h2.low⟩,Ad h2.blk⟩
 |n::ns,q,k,p+1,e,hd,m,⟨b,nx,tv,lv,ov,fv,h1,h2,h3⟩,h=>by
  obtain⟨b',h4,h5⟩:=Q0K.bk (p:=p) h3 (by simpa using h);exact⟨b',by rw[show q+(p+1)=q+1+p by omega];exact h4,h5⟩
theorem Q0K.bkLast{U:Nat->Nat}{ru jn:Nat}{w:World}:∀ {ns:List Nd} {q k:Nat} {e:En} {hd:Value},Q0K U ru jn q k ns e hd w->∃b tv wv,Bk U (4+3*(q+ns.length)) b/\Q0T U (q+ns.length) b ru jn e tv wv w
 |[],_,_,_,_,⟨b,tv,wv,h1,h2⟩=>⟨b,tv,wv,⟨h2.own,h2.low⟩,h2⟩
 |n::ns,q,k,e,hd,⟨b,nx,tv,lv,ov,fv,h1,h2,h3⟩=>by
  obtain⟨b',dt,dZ,h4,h5⟩:=Q0K.bkLast h3;rw[AP,show q+(ns.length+1)=q+1+ns.length by omega];exact⟨b',dt,dZ,h4,h5⟩
theorem Bd.addAts{f:Ft}{ns:List Nd}{e:En}(h:Bd 16 1 ns e):∀(r:Nat) (ps:List Nat),ps.length=r->r<=4->Bd (16+r) (2 ^ r) (Dh f ps ns e).1 (Dh f ps ns e).2
 |0,ps,hp,_=>by
  obtain rfl:=CJ.1 hp;exact h
 |r+1,ps,hp,hr=>by
  have hne:ps≠[]:=by intro h;rw[h]at hp;simp at hp
  obtain⟨l,x,rfl⟩:∃l x,ps=l++[x]:=⟨_,_,(List.dropLast_concat_getLast hne).symm⟩
  rw[Hg];have:=(Bd.addAts (f:=f) h r l (by simpa using hp) (by omega)).addAt (f:=f) (by omega) x;rw[GK,GI];exact this
theorem WF.addAts{f:Ft}{A:List Nat}:∀(ps:List Nat) {ns:List Nd} {e:En},WF A ns->Q1F A ns e->WF A (Dh f ps ns e).1/\Q1F A (Dh f ps ns e).1 (Dh f ps ns e).2
 |[],_,_,h,he=>⟨h,he⟩
 |p::ps,ns,e,h,he=>by
  obtain⟨h1,h2⟩:=h.addAt (f:=f) p he;exact WF.addAts ps h1 h2
def Q3Y(U0:Nat->Nat)(ru jn q:Nat)(hd:Value)(f:Ft)(ns:List Nd)(e:En)(w2:World)(m:Nat)(pre:List (Fin m))(W:World):Prop:=
 ∃U',Q0K U' ru jn q 0 (Dh f (pre.map Fin.val) ns e).1 (Dh f (pre.map Fin.val) ns e).2 hd W/\GrS (Am U0 q ns.length) w2 W/\(∀i,i<w2.heap.size->U' i=U0 i)/\∀i o,w2.heap.size<=i->W.heap[i]?=some o->o.isCells=false->U' i=0
theorem Q3Y.own:OwnFrom w2.heap.size (Q3Y U0 ru jn q hd f ns e w2 m):=by
 rintro pre W W' row⟨U',h1,h2,h3,h4⟩ hg hr;have h0:∀r,row=some r->w2.heap.size<=r/\U' r=0:=λr e=>by obtain⟨k1,o,k2,k3⟩:=hr r e;exact⟨k1,h4 r o k1 k2 k3⟩
 refine⟨Co U' W 0,h1.keep (S:=λi=>row=some i) (GrS.of hg (λg e=>e)) (λi hi hx=>?_) (λi hi _=>Al hi),h2.then hg (λg e=>.inl (h0 g e).1),λi hi=>?_,λi o hi ho hc=>?_⟩;{have:=(h0 i hx).2;omega};{rw[Al (AV hi h2.size)];exact h3 i hi};{by_cases hlt:i<W.heap.size;{rw[Al hlt];by_cases hx:row=some i;{exact(h0 i hx).2};{exact h4 i o hi (by rw[<-hg.block i hlt (λe=>hx e.symm)];exact ho) hc}};{exact Bn (by omega)}}
theorem Q3Y.step{W W':World}{pre:List (Fin m)}(x:Fin m) (h2:GrS (Am U0 q ns.length) w2 W)(h3:∀i,i<w2.heap.size->U1 i=U0 i)(h4:∀i o,w2.heap.size<=i->W.heap[i]?=some o->o.isCells=false->U1 i=0) (hp:I8 U1 ru jn q 0 (Dv f x.1 (Dh f (pre.map Fin.val) ns e).1 (Dh f (pre.map Fin.val) ns e).2) ns.length hd W W'):Q3Y U0 ru jn q hd f ns e w2 m (pre++[x]) W'/\KeepsFrom w2.heap.size W W'/\∀i,i<w2.heap.size->¬ Am U0 q ns.length i->W'.heap[i]?=W.heap[i]?:=by obtain⟨U2,a1,a2,a3⟩:=hp;refine⟨⟨O8 w2.heap.size U2 W',?_,?_,λi hi=>?_,λi o hi ho hc=>Vw hi ho hc⟩,⟨a2.size,λk o hk ho hc=>?_⟩,λi hi hn=>?_⟩;{rw[BZ,DF,KY,Hg];exact a1.re (Zf w2.heap.size U2 W')};{refine h2.comp a2 (λi hi hn hc=>hn ?_);unfold Am at hc⊢;rw[<-h3 i hi];exact hc};{rw[Vx hi,a3 i (AV hi h2.size)];exact h3 i hi};{rw[a2.block k (Ad ho) (λhx=>?_)];{exact ho};{have:=h4 k o hk ho hc;unfold Am at hx;omega}};{refine a2.block i (AV hi h2.size) (λhx=>hn ?_);unfold Am at hx⊢;rw[<-h3 i hi];exact hx}
theorem Q3s(ru jn:Nat)(U:Nat->Nat)(q b:Nat)(ns:List Nd)(e:En)(f:Ft)(w:World)(hC:Q1B U ru jn q b ns e w)(hW:WF [] ns)(hE:Q1F [] ns e)(hB:Bd 16 1 ns e)(hl:ns.length<=4)(hf:Q0J U f w):Calls prog 69 #[.pointer (some ⟨b,0,none⟩),Ei f] w λe' w'=>e'=.returned (.tuple #[])/\∃U',Q1B U' ru jn q b (De f ns.length ns e).1 (De f ns.length ns e).2 w'/\GrS (Am U q ns.length) w w'/\∀i,i<w.heap.size->U' i=U i:=by
 obtain⟨nv,hd,hs,lb,c1,c2,c3,c4,c5,c6,c7⟩:=hC.ex;obtain⟨ao,cap,dT⟩:=c3.1.slice;have hcell:w.cell? ⟨b,0,none⟩=some nv:=by simp[World.cell?,c1]
 have HNV:=Ac dT;generalize hs.reverse.length=m0 at dT;subst dT;clear hC;refine(callsIn_wide (n:=3)).1 ?_;refine callsIn_of_wp_marks func69 rfl trivial ?_ rfl;simp only[ntmps69,FM,AP,CD,Nat.reduceAdd,Nat.reduceSub,EL,EM,FL,EX,CV,CN];unfold Ei;have xx:(w.alloc (.cells #[.pointer (some ⟨f.blk,0,none⟩)] 90)).cell? ⟨b,0,none⟩=some (.slice ao m0 cap):=(AA w _ none).cell hcell (by simp);have HW:=Ac hW;have HE:=Ac hE;have HB:=Ac hB;have HL:=Ac hl;have HF:=Ac hf;have H3:=Ac c3;have H4:=Ac c4;have H5:=Ac c5;have H6:=Ac c6;have H7:=Ac c7;clear hW hE hB hl hf c3 c4 c5 c6 c7;gi_wp2_with (refine⟨trivial,?_⟩;gi_at_call 101;refine(Q11 Fence.wide _ trivial rfl _ _ _ _).mono ?_;rintro e w'⟨rfl,rfl⟩);have a7:=Dq w (.cells #[.pointer (some ⟨f.blk,0,none⟩)] 90) (.cells #[.slice ao m0 cap] 148);have hx1:((w.alloc (.cells #[.pointer (some ⟨f.blk,0,none⟩)] 90)).alloc (.cells #[.slice ao m0 cap] 148)).heap[w.heap.size]?=some (.cells #[.pointer (some ⟨f.blk,0,none⟩)] 90 (0,0)):=by rw[DD _ _ _ (by simp)];exact AR _ _
 have hx2:((w.alloc (.cells #[.pointer (some ⟨f.blk,0,none⟩)] 90)).alloc (.cells #[.slice ao m0 cap] 148)).heap[w.heap.size+1]?=some (.cells #[.slice ao m0 cap] 148 (0,0)):=by have:=AR (w.alloc (.cells #[.pointer (some ⟨f.blk,0,none⟩)] 90)) (.cells #[.slice ao m0 cap] 148);simpa using this
 have hsz:((w.alloc (.cells #[.pointer (some ⟨f.blk,0,none⟩)] 90)).alloc (.cells #[.slice ao m0 cap] 148)).heap.size=w.heap.size+2:=by simp
 obtain⟨w2,hw2⟩:∃w2,(w.alloc (.cells #[.pointer (some ⟨f.blk,0,none⟩)] 90)).alloc (.cells #[.slice ao m0 cap] 148)=w2:=⟨_,rfl⟩
 rw[hw2]at a7 hx1 hx2 hsz⊢;clear hw2 xx hcell;have hs0:Q0K (Co U w 0) ru jn q 0 ns e hd w2:=(Aa H7).keep (S:=λ_=>False) (GrS.of a7 (by simp)) (by simp) (λi hi _=>Al hi);have pE:Q0J (Co U w 0) f w2:=(Aa HF).keep (S:=λ_=>False) (GrS.of a7 (by simp)) (by simp) (λi hi h=>by rw[Al hi];exact h);have hrow:=(Aa H3).1.gr a7;have XW:=(Aa H4).1;have hl4:=Aa HL;have hcB:w2.cell? ⟨w.heap.size+1,0,none⟩=some (.slice ao m0 cap):=by simp[World.cell?,hx2]
 refine wpIn_rangeFunc_ownG rfl (by omega) (gf:=135) (lb:=#[.pointer (some ⟨w.heap.size+1,0,none⟩)]) rfl trivial (enters_of func135 (by kernel_rfl) rfl) (Ty Fence.wide _ trivial rfl (by omega) (w.heap.size+1) ns.length (.slice ao m0 cap) hs XW (by omega) w2 (by omega) hcB hrow) BKp.trans ?hkb (Below.refl _ _) (λ_=>rfl) (Q3Y (Co U w 0) ru jn q hd f ns e w2 ns.length) (λ_ _ _=>False) Q3Y.own (λ_ _ _ _ _ hs _ _=>hs) ⟨Co U w 0,hs0,GrS.refl _ _,λ_ _=>rfl,λi o hi _ _=>Bn (by omega)⟩ (λx=>{ tmps:=#[.pointer (some ⟨b,0,none⟩),.pointer (some ⟨f.blk,0,none⟩),undef,.pointer (some ⟨w.heap.size,0,none⟩),undef,hs[x.1]?.getD undef,undef,undef,.pointer (some ⟨b,0,none⟩),.pointer (some ⟨b,0,none⟩),.pointer (some ⟨b,0,none⟩),.slice ao m0 cap,.func (.func 135) #[] #[.pointer (some ⟨w.heap.size+1,0,none⟩)],.int .i64 ((ns.length:Int)-1-(x.1:Int)),hs[x.1]?.getD undef,undef,undef,undef,undef,undef,undef,undef,undef,undef,undef,undef,undef,undef],defers:=[] }) ?assign ?body ?done ?stop;case hkb=>intro W l o o' hl ho _ _;have hne:∀i,i<w2.heap.size->(W.putObj l o').heap[i]?=W.heap[i]?:=λi hi=>ES (by omega);exact⟨hne _ (by omega),λg hg=>hne g (hrow.own g hg).2⟩
 case assign=>intro l x W K hK;unfold Y9;dsimp only at hK⊢;generalize hs[x.1]?.getD undef=hv at hK⊢;gi_wp2;exact hK
 case body=>(rintro l pre x W⟨U1,i1,i2,i3,i4⟩ hpl;have MN:pre.length<=3:=by omega);(obtain⟨wf,eo⟩:=(Aa HW).addAts (f:=f) (pre.map Fin.val) (Aa HE);have bd:=(Aa HB).addAts (f:=f) pre.length (pre.map Fin.val) (by simp) (by omega);have hlen:=L5 f (pre.map Fin.val) ns e;obtain⟨n,hn⟩:∃n,(Dh f (pre.map Fin.val) ns e).1[x.1]?=some n:=⟨_,AB (by rw[hlen];exact x.2)⟩);(obtain⟨n0,gQ⟩:∃n0,ns[x.1]?=some n0:=⟨_,AB x.2⟩);(have aH:n.c.neg=n0.c.neg:=by have h:=BJ (λl:List Bool=>l[x.1]?) (Kv f (pre.map Fin.val) ns e);simp only[Mj,BR,hn,gQ,DM,AE]at h;exact h);obtain⟨bx,hb1,hb2⟩:=(Aa H4).2 x.1 n0 gQ;obtain⟨yU,hb3,hb4⟩:=(Aa H7).bk gQ;obtain rfl:bx=yU:=hb2.uniq hb3;have aD:Bk U1 (4+3*(q+x.1)) bx:=hb2.old hb4 (λi hi=>by rw[i3 i (by omega),Al hi]);have OP:Q0J U1 f W:=pE.keep i2 (λi hi hc=>by unfold Am at hc;omega) (λi hi h=>by rw[i3 i hi];exact h);(have hbound:2*2 ^ pre.length*20 ^ (Dh f (pre.map Fin.val) ns e).1.length<=1000000000:=by rw[hlen];have e1:2 ^ pre.length<=2 ^ 3:=DR (by omega) MN;have e2:20 ^ ns.length<=20 ^ 4:=DR (by omega) hl4;have e3:2*2 ^ pre.length*20 ^ ns.length<=16*20 ^ 4:=Nat.mul_le_mul (by omega) e2;omega);have hA:=Vn ru jn U1 f W OP x.1 [] q bx (16+pre.length) (2 ^ pre.length) n _ _ hd hn aD i1 wf eo bd (by omega) (by rw[hlen];exact hl4) hbound;rw[hlen,aH]at hA;(have YV:W.cell? ⟨w.heap.size,0,none⟩=some (.pointer (some ⟨f.blk,0,none⟩)):=by have:=i2.blk hx1 (by unfold Am;rw[Bn (AX _)];omega);simp[World.cell?,this]);(have hend:∀W',I8 U1 ru jn q 0 (Dv f x.1 (Dh f (pre.map Fin.val) ns e).1 (Dh f (pre.map Fin.val) ns e).2) ns.length hd W W'->KeepsFrom w2.heap.size W W'/\BKp (w.heap.size+1) (.slice ao m0 cap) W W'/\Q3Y (Co U w 0) ru jn q hd f ns e w2 ns.length (pre++[x]) W':=by intro W' hp;obtain⟨s1,s2,s3⟩:=Q3Y.step x i2 i3 i4 hp;refine⟨s2,⟨s3 _ (by omega) (by unfold Am;rw[Bn (by omega)];omega),λg hg=>s3 g (hrow.own g hg).2 ?_⟩,s1⟩;have h1:=(Aa H3).2 g hg;have h2:=((Aa H3).1.own g hg).2;unfold Am;rw[Al h2];omega);(have bC:=Ac hend;have sU:hs[x.1]?.getD undef=.iface (Dc n0.c.neg) (.pointer (some ⟨bx,0,none⟩)):=by rw[hb1];rfl);clear hend wf eo bd hlen aD OP hbound hb1 hb2 hb3 hb4 hn gQ aH i1 i2 i3 i4 hs0 pE hrow a7 hx1 hx2 hpl MN hl4 XW hcB hsz;rw[sU];clear sU;unfold Ei at hA;have tJ:=Q4P;have tH:=Q4O;have tN:=Q4C;cases fJ:n0.c.neg with|true=>rw[fJ]at hA;simp only[Vo,if_true]at hA;unfold Dc;rw[AQ rfl];clear fJ;gi_wp2_with (refine⟨trivial,?_⟩;gi_at_call 103;refine(CallsIn.inRound l (callsIn_wide.2 hA)).mono ?_;rintro e w'⟨rfl,hp⟩);exact Aa bC _ hp|false=>rw[fJ]at hA;simp only[Vo,CB,if_false]at hA;unfold Dc;rw[AO (by simp)];clear fJ;gi_wp2_with (refine⟨trivial,?_⟩;gi_at_call 102;refine(CallsIn.inRound l (callsIn_wide.2 hA)).mono ?_;rintro e w'⟨rfl,hp⟩);exact Aa bC _ hp
 case done=>(rintro D ys W hD VW⟨U1,i1,i2,i3,i4⟩ hK;gi_wp2;refine⟨by simp,.inl ⟨_,_,rfl,run_takeDeferred hK,?_⟩⟩;refine⟨_,results_none rfl _ _ _,rfl,?_⟩;obtain⟨U2,j1,j2,j3,_⟩:=Q3Y.own ys W _ (some D) ⟨U1,i1,i2,i3,i4⟩ (GP W D (.deferred none)) (λr hr=>by cases hr;exact⟨hD,_,hK,rfl⟩);rw[VW,Gi]at j1;have hold:∀i,i<w.heap.size->U2 i=U i:=λi hi=>by rw[j3 i (by omega),Al hi]);(have hG:GrS (Am U q ns.length) w (W.putObj D (.deferred none)):=by refine(GrS.of a7 (by simp)).comp j2 (λi hi hn hc=>hn ?_);unfold Am at hc⊢;rw[Al hi]at hc;exact hc);(have aH:=Kv f (List.range ns.length) ns e;have hlen:=L5 f (List.range ns.length) ns e;rw[Gi]at aH hlen;have dM:∀i,U i=1->¬ Am U q ns.length i:=λi hi hc=>by unfold Am at hc;omega);refine⟨U2,⟨.slice ao m0 cap,hd,hs,lb,hG.blk c1 (dM b c2),by rw[hold b (Ad c1)];exact c2,(Aa H3).keep2 hG dM (λi hi h=>by rw[hold i hi];exact h),⟨by rw[hlen];exact XW,λp n hn=>?_⟩,Aa H5,?_,j1⟩,hG,hold⟩;{(have hp:p<ns.length:=by rw[<-hlen];exact(AK.1 hn).1);have gQ:ns[p]?=some (ns[p]'hp):=AB hp;have h:=BJ (λl:List Bool=>l[p]?) aH;simp only[Mj,BR,hn,gQ,DM,AE]at h;obtain⟨bx,hb1,hb2⟩:=(Aa H4).2 p _ gQ;obtain⟨yU,hb3,hb4⟩:=(Aa H7).bk gQ;obtain rfl:bx=yU:=hb2.uniq hb3;exact⟨bx,by rw[h];exact hb1,hb2.old hb4 hold⟩};{obtain⟨b',dt,dZ,hb3,hb4⟩:=(Aa H7).bkLast;obtain rfl:=(Aa H6).uniq hb3;rw[hlen];exact(Aa H6).old (Ad hb4.blk) hold}
 case stop=>rintro D c pre W _ _ h _;exact h.elim
end Go.Proofs.YtolhbeekfjnfmaaGreatDoor
namespace Go.Proofs.YtolhbeekfjnfmaaGreatDoor
open Go.RowKit Go.Proofs.Tryz
variable {α:Type}{e:En}{size B i ru jn q m N j k bc lb:Nat}{v nv hd x y z a b av v' cv fst:Value}{w w2 w1 w' w3 w4 w5:World}{U U' U0 U1:Nat->Nat}{o:Obj}{hs:List Value}{f:Ft}{ns:List Nd}{S:Nat->Prop}{cs:List Q0A}
def SAt(N:Nat)(x y z:Value)(w:World):Prop:=w.heap[N]?=some (.cells #[x,y,z] 289 (0,0))
theorem SAt.c(h:SAt N x y z w):w.cell? ⟨N,0,none⟩=some x/\w.cell? ⟨N,1,none⟩=some y/\w.cell? ⟨N,2,none⟩=some z:=by unfold SAt at h;simp[World.cell?,h]
theorem SAt.fz(h:SAt N x y z w)(o:Nat):w.frozen? ⟨N,o,none⟩=false:=by unfold SAt at h;simp[World.frozen?,h]
theorem SAt.set3{c:Value}(h:SAt N a b c w)(x y z:Value):SAt N x y z (((w.setCell ⟨N,0,none⟩ x).setCell ⟨N,1,none⟩ y).setCell ⟨N,2,none⟩ z):=by unfold SAt at h⊢;have h1:=BB w N 0 _ _ x h;have h2:=BB _ N 1 _ _ y h1;have h3:=BB _ N 2 _ _ z h2;rw[h3];rfl
theorem SAt.al(h:SAt N x y z w)(o:Obj):SAt N x y z (w.alloc o):=by unfold SAt at h⊢;rw[DD _ _ _ (Ad h)];exact h
abbrev Q64(v:Value)(ss:List Site)(w:World):Prop:=Q0B 289 3 Q4j 0 v ss w
theorem Q0p(s:Site):∀c∈Q4j s,c.oneCell'=true:=by intro c hc;simp[Q4j]at hc;rcases hc with rfl|rfl|rfl<;>rfl
def Q8(r:Option Site):Value:=match r with
 |none=>.tuple #[.agg #[.int .u8 0,.int .i64 0,.int .i64 0],.bool false]
 |some s=>.tuple #[.agg #[.int .u8 s.letter.toNat,.int .i64 s.fact,.int .i64 s.place],.bool true]
theorem Q3x(v:Value)(ss:List Site)(n:UInt8)(w:World)(hb:Q64 v ss w)(hl:ss.length<=1000):Calls prog 160 #[v,.int .u8 n.toNat] w λe w'=>e=.returned (Q8 (Site.find ss n))/\w.grownBy w' none:=by
 obtain⟨ao,cap,rfl⟩:=hb.slice;obtain⟨r,hr⟩:∃r,Site.find ss n=r:=⟨_,rfl⟩
 have HR:=Ac hr;rw[hr];clear hr;go_enter func160,ntmps160;go_wp2;go_loopw [10] (λx w'=>∃k:Nat,k<=ss.length/\x=.int .i64 k/\Site.find (ss.drop k) n=r/\w.grownBy w' none/\SAt w.heap.size (.int .u8 0) (.int .i64 0) (.int .i64 0) w') (λx _=>ss.length-(intOf x).toNat);case atStart=>exact⟨0,AG _,rfl,Aa HR,AA _ _ _,AR _ _⟩
 case round=>clear HR;obtain⟨k,hk,rfl,hr,hg,hS⟩:=hrel;by_cases hlt:k<ss.length;{(have hd:decide (k<ss.length)=true:=by simpa using hlt);(obtain⟨p,hp⟩:∃p,ss[k]?=some p:=⟨ss[k],AB hlt⟩);rw[A0 hp]at hr;obtain⟨g,cap',hv,hc⟩:=(hb.gr hg).cells hp;simp only[AH,BP]at hv;obtain⟨rfl,rfl⟩:=hv;have c0:wr.cell? ⟨g,k*3,none⟩=some (.int .u8 p.letter.toNat):=hc 0 (by omega);have c1:wr.cell? ⟨g,k*3+1,none⟩=some (.int .i64 p.fact):=hc 1 (by omega);have c2:wr.cell? ⟨g,k*3+2,none⟩=some (.int .i64 p.place):=hc 2 (by omega);unfold Site.find at hr;have HR:=Ac hr;have hS1:=hS.al (.cells #[.int .u8 p.letter.toNat,.int .i64 p.fact,.int .i64 p.place] 289);obtain⟨d0,d1,d2⟩:=hS1.c;have z0:=hS1.fz 0;have z1:=hS1.fz 1;have z2:=hS1.fz 2;have HS:=Ac hS;have zm:=Ac hS1;clear hr hc hp hS hS1;by_cases he:p.letter=n;{have hr:=Aa HR;(rw[AQ he]at hr;subst hr;clear HR;subst he;have bg:((p.letter.toNat:Int)==(p.letter.toNat:Int))=true:=by simp);go_wp2;have k3:=Cm (wr.alloc (.cells #[.int .u8 p.letter.toNat,.int .i64 p.fact,.int .i64 p.place] 289)) w.heap.size (.int .u8 p.letter.toNat) (.int .i64 p.fact) (.int .i64 p.place);obtain⟨q0,q1,q2⟩:=((Aa zm).set3 (.int .u8 p.letter.toNat) (.int .i64 p.fact) (.int .i64 p.place)).c;refine BO (v:=Q8 (some p)) (by simp[Q8,results,results160,go_sem,q0,q1,q2]) rfl ⟨rfl,Bo (Ab hg (AA _ _ _)) k3 (AX _)⟩};{have hr:=Aa HR;rw[AO he]at hr;have cO:=Ac hr;clear hr HR;(have bg:((p.letter.toNat:Int)==(n.toNat:Int))=false:=by simp only[beq_eq_false_iff_ne,ne_eq];intro h;exact he (JF.1 (by omega)));go_wp2;go_roundw;(case rel=>exact⟨k+1,by omega,by go_num,Aa cO,Ab hg (AA _ _ _),Aa zm⟩);case measure=>simp[intOf];omega}};{(have hd:decide (k<ss.length)=false:=by simpa using hlt);have e:ss.drop k=[]:=BD (by omega);rw[e]at hr;have hr2:none=r:=hr;subst hr2;obtain⟨d0,d1,d2⟩:=hS.c;have z0:=hS.fz 0;have z1:=hS.fz 1;have z2:=hS.fz 2;have HS:=Ac hS;clear hS hr;go_wp2;have k3:=Cm wr w.heap.size (.int .u8 0) (.int .i64 0) (.int .i64 0);obtain⟨q0,q1,q2⟩:=((Aa HS).set3 (.int .u8 0) (.int .i64 0) (.int .i64 0)).c;refine BO (v:=Q8 none) (by simp[Q8,results,results160,go_sem,q0,q1,q2]) rfl ⟨rfl,Bo hg k3 (AX _)⟩}
theorem L8(k:Nat)(t:Q0D):∀(ts:List Q0D) (p:Nat),Site.bindT k p (ts++[t])=Site.bindT k p ts++(if t.sort=1 then [⟨t.letter,k,p+ts.length⟩]else [])
 |[],p=>by simp[Site.bindT]
 |u::ts,p=>by
  rw[CN,Site.bindT,Site.bindT,L8 k t ts (p+1),BQ,AP,show p+1+ts.length=p+(ts.length+1) by omega]
theorem Ky(k:Nat):∀(ts:List Q0D) (p:Nat),(Site.bindT k p ts).length<=ts.length
 |[],p=>by simp[Site.bindT]
 |u::ts,p=>by
  have:=Ky k ts (p+1);unfold Site.bindT;rw[AL,AP];split<;>simp<;>omega
theorem Ik{l:List α}{t:α}(h:l[j]?=some t):l.take (j+1)=l.take j++[t]:=by rw[CX,h];rfl
theorem Q5D:(prog.info? 289).map (λi=>(i.zero,i.size,i.bytes))=some (some (.agg #[.int .u8 0,.int .i64 0,.int .i64 0]),3,24):=by kernel_rfl
def Q1L(av:Value)(l:List Site)(w w':World)(v':Value):Prop:=
 Q64 v' l w'/\GrS (λi=>av.ownBlock=some i) w w'/\∀g,v'.ownBlock=some g->av.ownBlock=some g\/w.heap.size<=g
theorem Q1L.step{l l':List Site}(h:Q1L av l w w1 v)(h2:Q1L v l' w1 w2 v'):Q1L av l' w w2 v':=by obtain⟨a1,a2,a3⟩:=h;obtain⟨b1,b2,b3⟩:=h2;refine⟨b1,a2.comp b2 (λi hi hn hx=>?_),λg hg=>?_⟩;{rcases a3 i hx with h|h;{exact hn h};{omega}};{rcases b3 g hg with h|h;{exact a3 g h};{exact .inr (AU a2.size h)}}
theorem Q1L.al{l:List Site}(h:Q1L av l w w1 v)(hg:w1.grownBy w2 none):Q1L av l w w2 v:=
 ⟨h.1.gr hg,h.2.1.then hg (by simp),h.2.2⟩
theorem Za(av:Value)(ss:List Site)(k:Nat)(tv:Value)(ts:List Q0D)(w:World)(hA:Q64 av ss w)(hT:Q0B 258 3 tmenc 0 tv ts w)(hne:∀g,av.ownBlock=some g->tv.ownBlock≠some g)(hl:ss.length<=1000)(ht:ts.length<=1000):Calls prog 134 #[av,.int .i64 k,tv] w λe w'=>∃v',e=.returned v'/\Q1L av (ss++Site.bindT k 0 ts) w w' v':=by
 obtain⟨ao,cap,rfl⟩:=hT.slice;obtain⟨bh,cap2,l8⟩:=hA.slice;obtain⟨avx,rN⟩:∃x,x=av:=⟨_,rfl⟩
 have hB0:Q1L avx (ss++Site.bindT k 0 (ts.take 0)) w w av:=by rw[rN];exact⟨by simpa[Site.bindT]using hA,GrS.refl _ _,λg hg=>.inl hg⟩
 rw[<-rN]at hne;have HX:=Ac rN;clear rN;subst l8;go_enter func134,ntmps134;go_wp2;have kH:=Ac hne;clear hne hA;go_loopw [0,11] (λa x w'=>∃j:Nat,j<=ts.length/\x=.int .i64 j/\Q1L avx (ss++Site.bindT k 0 (ts.take j)) w w' a) (λ_ x _=>ts.length-(intOf x).toNat);case atStart=>exact⟨0,AG _,rfl,hB0⟩
 case round=>clear hB0;obtain⟨j,hj,rfl,hB⟩:=hrel;by_cases hlt:j<ts.length;{(have hd:decide (j<ts.length)=true:=by simpa using hlt);(obtain⟨t,hp⟩:∃t,ts[j]?=some t:=⟨ts[j],AB hlt⟩);(have fY:Q0B 258 3 tmenc 0 (.slice ao ts.length cap) ts wr:=hB.2.1.row hT (λg hg hx=>Aa kH g hx hg);obtain⟨g,cap',hv,hc⟩:=fY.cells hp;simp only[AH,BP]at hv;obtain⟨rfl,rfl⟩:=hv;have c0:wr.cell? ⟨g,j*3,none⟩=some (.int .i64 t.sort):=hc 0 (by omega);have c1:wr.cell? ⟨g,j*3+1,none⟩=some (.int .u8 t.letter.toNat):=hc 1 (by omega);have c2:wr.cell? ⟨g,j*3+2,none⟩=some (.int .i64 t.value):=hc 2 (by omega);have e1:=Ik hp;have e2:=L8 k t (ts.take j) 0;rw[BK,CG hj,BU,<-e1]at e2;have hbl:=Ky k (ts.take j) 0;rw[BK,CG hj]at hbl;obtain⟨nj,b8,PL⟩:=hB.1.slice;generalize ZV:(ss++Site.bindT k 0 (ts.take j)).length=LL at PL;have hLL2:LL<=2000:=by rw[<-ZV,AL];omega);subst PL;have HB:=Ac hB;have E2:=Ac e2;have zt:=Ac ZV;clear fY hc hB e1 e2 hbl hp hT ZV;by_cases hs:t.sort=1;{(have bg:((t.sort:Int)==1)=true:=by simp[hs]);have e2:=Aa E2;rw[AQ hs]at e2;have af:=Dq wr (.cells #[.int .i64 t.sort,.int .u8 t.letter.toNat,.int .i64 t.value] 258) (.cells #[.int .u8 t.letter.toNat,.int .i64 k,.int .i64 j] 289);have hB2:=(Aa HB).al af;(have aC:Q64 (.slice (some ⟨wr.heap.size+1,0,none⟩) 1 1) [⟨t.letter,k,j⟩] ((wr.alloc (.cells #[.int .i64 t.sort,.int .u8 t.letter.toNat,.int .i64 t.value] 258)).alloc (.cells #[.int .u8 t.letter.toNat,.int .i64 k,.int .i64 j] 289)):=by have:=(Q0B.lit1 (e:=289) S2 (wr.alloc (.cells #[.int .i64 t.sort,.int .u8 t.letter.toNat,.int .i64 t.value] 258)) ⟨t.letter,k,j⟩ #[.int .u8 t.letter.toNat,.int .i64 k,.int .i64 j] rfl).weak (AG _);simpa using this);have hr2:=hB2.1;have fq:=Ac hB2;have hE3:=Ac e2;clear af hB2 e2 hs;go_wp2_with (at_builtin;refine Cg rfl _ _ 260 rfl underlying260 Q5D rfl (by decide) rfl hr2 rfl aC (by simp) (λy hy=>Q0p y) (by unfold maxLen;rw[Aa zt];simp;omega) (by rw[Aa zt];simp;omega) ?_);intro v5 w5 aj aK;(have zg:Q1L avx (ss++Site.bindT k 0 (ts.take (j+1))) w w5 v5:=by rw[Aa hE3];exact(Aa fq).step ⟨aj,aK.gr (λg hg=>hg),aK.own⟩);have yx:=Ac zg;clear zg aj aK hr2 aC;go_wp2;go_roundw;(case rel=>exact⟨j+1,by omega,by go_num,Aa yx⟩);case measure=>simp[intOf];omega};{(have bg:((t.sort:Int)==1)=false:=by simp;omega);have e2:=Aa E2;rw[AO hs,BM]at e2;have af:=AA wr (.cells #[.int .i64 t.sort,.int .u8 t.letter.toNat,.int .i64 t.value] 258) none;have zg:=(Aa HB).al af;rw[<-e2]at zg;have yx:=Ac zg;clear zg af e2 hs;go_wp2;go_roundw;(case rel=>exact⟨j+1,by omega,by go_num,Aa yx⟩);case measure=>simp[intOf];omega}};{(have hd:decide (j<ts.length)=false:=by simpa using hlt);have e:ts.take j=ts:=BX (by omega);rw[e]at hB;have HB:=Ac hB;clear hB;go_wp2;go_ret;have h:=Aa HX;rw[h]at HB;exact⟨_,rfl,Aa HB⟩}
theorem Xo(ss:List Site)(t:Q0D):∀(ts:List Q0D) (p:Nat),Lnk.of ss p (ts++[t])=Lnk.of ss p ts++(if t.sort=1 then (match Site.find ss t.letter with|none=>[]|some s=>[⟨p+ts.length,s⟩])else [])
 |[],p=>by
  by_cases h:t.sort=1
  ·cases hf:Site.find ss t.letter<;>simp[Lnk.of,h,hf]
  ·simp[Lnk.of,h]
 |u::ts,p=>by
  rw[CN,Lnk.of,Lnk.of,Xo ss t ts (p+1),BQ,AP,show p+1+ts.length=p+(ts.length+1) by omega]
theorem Q1l(ss:List Site):∀(ts:List Q0D) (p:Nat),(Lnk.of ss p ts).length<=ts.length
 |[],p=>by simp[Lnk.of]
 |u::ts,p=>by
  have:=Q1l ss ts (p+1);unfold Lnk.of;rw[AL,AP];split
  ·split<;>simp<;>omega
  ·simp;omega
theorem Q0b(l:Lnk):∀c∈Q2o l,c.oneCell'=true:=by intro c hc;simp[Q2o]at hc;rcases hc with rfl|rfl|rfl|rfl<;>rfl
theorem Q59:(prog.info? 293).map (λi=>(i.zero,i.size,i.bytes))=some (some (.agg #[.int .i64 0,.int .u8 0,.int .i64 0,.int .i64 0]),4,32):=by kernel_rfl
abbrev Q62(v:Value)(l:List Lnk)(w:World):Prop:=Q0B 293 4 Q2o 0 v l w
def MAt(N:Nat)(x y z:Value)(w:World):Prop:=w.heap[N]?=some (.cells #[x,y,z] 216 (0,0))
theorem MAt.c(h:MAt N x y z w):w.cell? ⟨N,0,none⟩=some x/\w.cell? ⟨N,1,none⟩=some y/\w.cell? ⟨N,2,none⟩=some z:=by unfold MAt at h;simp[World.cell?,h]
theorem MAt.fz(h:MAt N x y z w)(o:Nat):w.frozen? ⟨N,o,none⟩=false:=by unfold MAt at h;simp[World.frozen?,h]
theorem MAt.set3{c:Value}(h:MAt N a b c w)(x y z:Value):MAt N x y z (((w.setCell ⟨N,0,none⟩ x).setCell ⟨N,1,none⟩ y).setCell ⟨N,2,none⟩ z):=by unfold MAt at h⊢;have h1:=BB w N 0 _ _ x h;have h2:=BB _ N 1 _ _ y h1;have h3:=BB _ N 2 _ _ z h2;rw[h3];rfl
theorem MAt.set2{c:Value}(h:MAt N a b c w)(z:Value):MAt N a b z (w.setCell ⟨N,2,none⟩ z):=by unfold MAt at h⊢;rw[BB w N 2 _ _ z h];rfl
theorem MAt.gr{row:Option Nat}(h:MAt N x y z w)(hg:w.grownBy w' row)(hr:row≠some N):MAt N x y z w':=by unfold MAt at h⊢;rw[hg.block N (Ad h) (λe=>hr e.symm)];exact h
theorem Q0O.grown{n:Nat}{a c:World}(hl:Q0O v v' n m a c)(h:w.grownBy a none)(ho:∀g,v.ownBlock=some g->w.heap.size<=g):w.grownBy c none:=by rcases hl with ⟨g,cap,h1,h2,h3⟩|⟨h1,_⟩;{exact Bo h h3 (ho g (by rw[h1];rfl))};{exact Ab h h1}
def NcI(w:World)(kd:Nat)(tv:Value)(l:List Lnk)(w':World):Prop:=
 ∃lv,w.grownBy w' none/\MAt (w.heap.size+1) (.int .i64 0) (.slice none 0 0) (.slice none 0 0) w'/\MAt (w.heap.size+1+1) (.int .i64 kd) tv lv w'/\Q62 lv l w'/\(∀g,lv.ownBlock=some g->w.heap.size+3<=g)
theorem Pk(av:Value)(ss:List Site)(c:Q0A)(tv:Value)(w:World)(hA:Q64 av ss w)(hT:Q0B 258 3 tmenc 0 tv c.terms w)(hl:ss.length<=1000)(ht:c.terms.length<=1000):Calls prog 133 #[.agg #[.bool c.neg,.int .i64 c.kind,tv],av] w λe w'=>∃lv,e=.returned (.agg #[.int .i64 c.kind,tv,lv])/\w.grownBy w' none/\Q62 lv (Lnk.of ss 0 c.terms) w'/\∀g,lv.ownBlock=some g->w.heap.size<=g:=by
 obtain⟨ts,br⟩:∃ts,c.terms=ts:=⟨_,rfl⟩
 obtain⟨kd,vR⟩:∃kd,c.kind=kd:=⟨_,rfl⟩
 obtain⟨ng,fJ⟩:∃ng,c.neg=ng:=⟨_,rfl⟩
 rw[br]at hT ht⊢;rw[vR,fJ];clear br vR fJ c;obtain⟨ao,cap,rfl⟩:=hT.slice;obtain⟨bh,cap2,rfl⟩:=hA.slice;go_enter func133,ntmps133;go_wp2;have a7:w.grownBy (((w.alloc (.cells #[.bool ng,.int .i64 kd,.slice ao ts.length cap] 200)).alloc (.cells #[.int .i64 0,.slice none 0 0,.slice none 0 0] 216)).alloc (.cells #[.int .i64 kd,.slice ao ts.length cap,.slice none 0 0] 216)) none:=Ab (Dq w _ _) (AA _ _ none);have wF:NcI w kd (.slice ao ts.length cap) (Lnk.of ss 0 (ts.take 0)) (((w.alloc (.cells #[.bool ng,.int .i64 kd,.slice ao ts.length cap] 200)).alloc (.cells #[.int .i64 0,.slice none 0 0,.slice none 0 0] 216)).alloc (.cells #[.int .i64 kd,.slice ao ts.length cap,.slice none 0 0] 216)):=by refine⟨.slice none 0 0,a7,?_,?_,Q0B.nil 0 _ Sm,by simp[Value.ownBlock]⟩;{unfold MAt;rw[DD _ _ _ (by simp)];have:=AR (w.alloc (.cells #[.bool ng,.int .i64 kd,.slice ao ts.length cap] 200)) (.cells #[.int .i64 0,.slice none 0 0,.slice none 0 0] 216);simpa using this};{have:=AR ((w.alloc (.cells #[.bool ng,.int .i64 kd,.slice ao ts.length cap] 200)).alloc (.cells #[.int .i64 0,.slice none 0 0,.slice none 0 0] 216)) (.cells #[.int .i64 kd,.slice ao ts.length cap,.slice none 0 0] 216);simpa[MAt]using this}
 have HA:=Ac hA;have HT:=Ac hT;clear a7 hA hT;go_loopw [18] (λx w'=>∃j:Nat,j<=ts.length/\x=.int .i64 j/\NcI w kd (.slice ao ts.length cap) (Lnk.of ss 0 (ts.take j)) w') (λx _=>ts.length-(intOf x).toNat);case atStart=>exact⟨0,AG _,rfl,wF⟩
 case round=>clear wF;obtain⟨j,hj,rfl,hI⟩:=hrel;by_cases hlt:j<ts.length;{(have hd:decide (j<ts.length)=true:=by simpa using hlt);(obtain⟨t,hp⟩:∃t,ts[j]?=some t:=⟨ts[j],AB hlt⟩);obtain⟨lv,hg,uT,hM,hL,how⟩:=hI;obtain⟨g,cap',hv,hc⟩:=((Aa HT).gr hg).cells hp;simp only[AH,BP]at hv;obtain⟨rfl,rfl⟩:=hv;have c0:wr.cell? ⟨g,j*3,none⟩=some (.int .i64 t.sort):=hc 0 (by omega);have c1:wr.cell? ⟨g,j*3+1,none⟩=some (.int .u8 t.letter.toNat):=hc 1 (by omega);have c2:wr.cell? ⟨g,j*3+2,none⟩=some (.int .i64 t.value):=hc 2 (by omega);have e1:=Ik hp;have e2:=Xo ss t (ts.take j) 0;rw[BK,CG hj,BU,<-e1]at e2;have hbl:=Q1l ss (ts.take j) 0;rw[BK,CG hj]at hbl;have E2:=Ac e2;have HI:=Ac (show w.grownBy wr none/\MAt (w.heap.size+1) (.int .i64 0) (.slice none 0 0) (.slice none 0 0) wr/\MAt (w.heap.size+1+1) (.int .i64 kd) (.slice (some ⟨g,0,none⟩) ts.length cap) lv wr/\Q62 lv (Lnk.of ss 0 (ts.take j)) wr/\(∀g,lv.ownBlock=some g->w.heap.size+3<=g) from⟨hg,uT,hM,hL,how⟩);have uk:=Ac hbl;clear hc e1 e2 hbl hp uT hM hL how;have af:=AA wr (.cells #[.int .i64 t.sort,.int .u8 t.letter.toNat,.int .i64 t.value] 258) none;by_cases hs:t.sort=1;{(have bg:((t.sort:Int) !=1)=false:=by simp[hs]);have hF:=Q3x (.slice bh ss.length cap2) ss t.letter (wr.alloc (.cells #[.int .i64 t.sort,.int .u8 t.letter.toNat,.int .i64 t.value] 258)) ((Aa HA).gr (Ab hg af)) hl;have e2:=Aa E2;rw[AQ hs]at e2;cases hf:Site.find ss t.letter with|none=>{rw[hf]at hF e2;rw[BM]at e2;unfold Q8 at hF;dsimp only at hF;have HE:=Ac e2;clear e2 hf hs E2;go_wp2_with (go_at_call 160;refine hF.mono ?_;rintro e w1⟨rfl,hg1⟩);have vU:=Ab af (Ab hg1 (AA w1 (.cells #[.int .u8 0,.int .i64 0,.int .i64 0] 289) none));go_roundw;(case rel=>obtain⟨k1,k2,k3,k4,k5⟩:=Aa HI;exact⟨j+1,by omega,by go_num,lv,Ab k1 vU,k2.gr vU (by simp),k3.gr vU (by simp),by rw[Aa HE];exact k4.gr vU,k5⟩);case measure=>simp[intOf];omega}|some st=>rw[hf]at hF e2;unfold Q8 at hF;dsimp only at hF e2;have HE:=Ac e2;clear e2 hf hs E2;obtain⟨fE,bK,hlv⟩:=(Aa HI).2.2.2.1.slice;generalize ig:(Lnk.of ss 0 (ts.take j)).length=ln at hlv;have sL:=Ac ig;clear ig;subst hlv;go_wp2_with (first|(go_at_call 160;refine hF.mono ?_;rintro e w1⟨rfl,hg1⟩;have vU:=Ab af (Ab hg1 (AA w1 (.cells #[.int .u8 st.letter.toNat,.int .i64 st.fact,.int .i64 st.place] 289) none));obtain⟨k1,k2,k3,k4,k5⟩:=Aa HI;obtain⟨y0,y1,y2⟩:=(k3.gr vU (by simp)).c;have aC:Q62 (.slice (some ⟨w1.heap.size+1,0,none⟩) 1 1) [⟨j,st⟩] ((w1.alloc (.cells #[.int .u8 st.letter.toNat,.int .i64 st.fact,.int .i64 st.place] 289)).alloc (.cells #[.int .i64 j,.int .u8 st.letter.toNat,.int .i64 st.fact,.int .i64 st.place] 293)):=(by have:=(Q0B.lit1 (e:=293) Sm (w1.alloc (.cells #[.int .u8 st.letter.toNat,.int .i64 st.fact,.int .i64 st.place] 289)) ⟨j,st⟩ #[.int .i64 j,.int .u8 st.letter.toNat,.int .i64 st.fact,.int .i64 st.place] rfl).weak (AG _);simpa using this);clear k1 k2 k3 k4 k5 hF y0 y1)|(at_builtin;refine Cg rfl _ _ 214 rfl underlying214 Q59 rfl (by decide) rfl ((Aa HI).2.2.2.1.gr (Ab vU (AA _ (.cells #[.int .i64 j,.int .u8 st.letter.toNat,.int .i64 st.fact,.int .i64 st.place] 293) none))) rfl aC (by simp) (λy hy=>Q0b y) (by unfold maxLen;rw[Aa sL];simp;have:=Aa uk;rw[Aa sL]at this;omega) (by rw[Aa sL];simp;have:=Aa uk;rw[Aa sL]at this;omega) ?_));intro v5 w5 aj aK;obtain⟨g5,aG,rfl⟩:=aK.form;obtain⟨k1,k2,k3,k4,k5⟩:=Aa HI;have r5:=Ab vU (AA (w1.alloc (.cells #[.int .u8 st.letter.toNat,.int .i64 st.fact,.int .i64 st.place] 289)) (.cells #[.int .i64 j,.int .u8 st.letter.toNat,.int .i64 st.fact,.int .i64 st.place] 293) none);have hsz:=r5.size;have hrl:=Ad k3;have UG:MAt (w.heap.size+1+1) (.int .i64 kd) (.slice (some ⟨g,0,none⟩) ts.length cap) (.slice fE ln bK) w5:=aK.block (k3.gr r5 (by simp)) (λhx=>by have:=k5 _ hx;omega);have QH:MAt (w.heap.size+1) (.int .i64 0) (.slice none 0 0) (.slice none 0 0) w5:=aK.block (k2.gr r5 (by simp)) (λhx=>by have:=k5 _ hx;omega);have aW:w.grownBy w5 none:=aK.grown (Ab k1 r5) (λg hx=>by have:=k5 _ hx;omega);(have xO:∀g,(Value.slice (some ⟨g5,0,none⟩) ((Lnk.of ss 0 (ts.take j)).length+1) aG).ownBlock=some g->w.heap.size+3<=g:=by intro g hx;rcases aK.own g hx with h|h;{exact k5 g h};{omega});have y5:=UG.c.2.2;have z5:=UG.fz 2;have aX:=Aj w5 (w.heap.size+1+1) 2 (.slice (some ⟨g5,0,none⟩) ((Lnk.of ss 0 (ts.take j)).length+1) aG);(have hend:NcI w kd (.slice (some ⟨g,0,none⟩) ts.length cap) (Lnk.of ss 0 (ts.take (j+1))) (w5.setCell ⟨w.heap.size+1+1,2,none⟩ (.slice (some ⟨g5,0,none⟩) ((Lnk.of ss 0 (ts.take j)).length+1) aG)):=by refine⟨_,Bo aW aX (by omega),QH.gr aX (by simp),UG.set2 _,?_,xO⟩;rw[Aa HE];refine aj.other aX (λg hx e=>?_);have:=xO g hx;simp only[AE]at e;omega);have bC:=Ac hend;clear hend xO aW UG QH hsz hrl r5 k1 k2 k3 k4 k5 aK aj aC y2 aX;rw[Aa sL]at bC⊢;go_wp2;go_roundw;(case rel=>exact⟨j+1,by omega,by go_num,Aa bC⟩);case measure=>simp[intOf];omega};{(have bg:((t.sort:Int) !=1)=true:=by simp;omega);have e2:=Aa E2;rw[AO hs,BM]at e2;have HE:=Ac e2;clear e2 hs E2;go_wp2;go_roundw;(case rel=>obtain⟨k1,k2,k3,k4,k5⟩:=Aa HI;exact⟨j+1,by omega,by go_num,lv,Ab k1 af,k2.gr af (by simp),k3.gr af (by simp),by rw[Aa HE];exact k4.gr af,k5⟩);case measure=>simp[intOf];omega}};{(have hd:decide (j<ts.length)=false:=by simpa using hlt);have e:ts.take j=ts:=BX (by omega);rw[e]at hI;obtain⟨lv,hg,uT,hM,hL,how⟩:=hI;obtain⟨fE,bK,hlv⟩:=hL.slice;obtain⟨d0,d1,d2⟩:=hM.c;obtain⟨b0,b1,b2⟩:=uT.c;have z0:=uT.fz 0;have z1:=uT.fz 1;have z2:=uT.fz 2;have HM0:=Ac uT;have HL:=Ac hL;have HLV:=Ac hlv;have HOW:=Ac how;clear uT hM hL how e;generalize ig:(Lnk.of ss 0 ts).length=ln at hlv;clear ig;subst hlv;go_wp2;have k3:=Cm wr (w.heap.size+1) (.int .i64 kd) (.slice ao ts.length cap) (.slice fE ln bK);obtain⟨q0,q1,q2⟩:=((Aa HM0).set3 (.int .i64 kd) (.slice ao ts.length cap) (.slice fE ln bK)).c;refine BO (v:=.agg #[.int .i64 kd,.slice ao ts.length cap,.slice fE ln bK]) (by simp[results,results133,go_sem,q0,q1,q2]) rfl ⟨_,rfl,Bo hg k3 (by omega),(Aa HL).other k3 (λg hx e=>?_),λg hx=>by have:=Aa HOW g hx;omega⟩;have:=Aa HOW g hx;simp only[AE]at e;omega}
def Fl:List Site->Nat->List Q0A->List Nd
 |_,_,[]=>[]
 |ss,k,c::cs=>⟨c,Lnk.of ss 0 c.terms,[],[]⟩::Fl (if c.neg=true then ss else ss++Site.bindT k 0 c.terms) (if c.neg=true then k else k+1) cs
theorem F1:∀(cs:List Q0A) (ss:List Site) (k:Nat),(Fl ss k cs).length=cs.length
 |[],_,_=>rfl
 |c::cs,ss,k=>by unfold Fl;rw[AP,AP,F1 cs]
theorem Id:∀(cs:List Q0A) (ss:List Site) (k:Nat),Good [] ss k (Fl ss k cs) cs
 |[],_,_=>trivial
 |_::cs,_,_=>⟨rfl,rfl,rfl,Id cs _ _⟩
def Pi:Nat->List Q0A->Nat
 |k,[]=>k
 |k,c::cs=>Pi (if c.neg=true then k else k+1) cs
structure Q2R(U:Nat->Nat)(cv:Value)(cs:List Q0A)(w:World):Prop where
 ex:∃ao cap,cv=.slice ao cs.length cap/\cs.length<=cap/\cap<=maxLen/\(cs≠[]->∃g off,ao=some ⟨g,off,none⟩/\U g=1/\g<w.heap.size/\∀j c,cs[j]?=some c->∃u,w.cell? ⟨g,off+j*3,none⟩=some (.bool c.neg)/\w.cell? ⟨g,off+j*3+1,none⟩=some (.int .i64 c.kind)/\w.cell? ⟨g,off+j*3+2,none⟩=some u/\Q0Q U 1 258 3 tmenc u c.terms w)
theorem GrS.cellK(h:GrS S w w'){a:Addr}(hc:w.cell? a=some v)(hb:a.block<w.heap.size)(hs:¬ S a.block):w'.cell? a=some v:=by rw[<-hc];exact EG (w:=w) (h.block a.block hb hs)
theorem Q2R.keep(h:Q2R U cv cs w)(hg:GrS S w w')(hs:∀i,U i=1->¬ S i)(ho:∀i,i<w.heap.size->U i=1->U' i=1):Q2R U' cv cs w':=by obtain⟨ao,cap,h1,h2,h3,h4⟩:=h.ex;refine⟨ao,cap,h1,h2,h3,λhne=>?_⟩;obtain⟨g,off,k1,k2,k3,k4⟩:=h4 hne;refine⟨g,off,k1,ho g k3 k2,AV k3 hg.size,λj c hj=>?_⟩;obtain⟨u,m1,m2,m3,m4⟩:=k4 j c hj;exact⟨u,hg.cellK m1 k3 (hs g k2),hg.cellK m2 k3 (hs g k2),hg.cellK m3 k3 (hs g k2),m4.keep2 hg hs ho⟩
theorem Q2R.head{c:Q0A}(h:Q2R U cv (c::cs) w):∃g off cap u,cv=.slice (some ⟨g,off,none⟩) (cs.length+1) cap/\cs.length+1<=cap/\cap<=maxLen/\U g=1/\g<w.heap.size/\w.cell? ⟨g,off,none⟩=some (.bool c.neg)/\w.cell? ⟨g,off+1,none⟩=some (.int .i64 c.kind)/\w.cell? ⟨g,off+2,none⟩=some u/\Q0Q U 1 258 3 tmenc u c.terms w/\∀ta,(ta=some ⟨g,off+3,none⟩\/cap=1)->Q2R U (.slice ta cs.length (cap-1)) cs w:=by
 obtain⟨ao,cap,h1,h2,h3,h4⟩:=h.ex;obtain⟨g,off,k1,k2,k3,k4⟩:=h4 (by simp);subst k1;obtain⟨u,m1,m2,m3,m4⟩:=k4 0 c rfl;rw[AP]at h1 h2;refine⟨g,off,cap,u,h1,h2,h3,k2,k3,by simpa using m1,by simpa using m2,by simpa using m3,m4,λta LX=>⟨_,_,rfl,by omega,by omega,λhne=>⟨g,off+3,?_,k2,k3,λj c' hj=>?_⟩⟩⟩;{rcases LX with h|h;{exact h};{exact absurd (CJ.1 (by omega)) hne}};obtain⟨u',n1,n2,n3,n4⟩:=k4 (j+1) c' (by simpa using hj);have e:off+(j+1)*3=off+3+j*3:=by omega
 rw[e]at n1 n2 n3;exact⟨u',n1,n2,n3,n4⟩
structure Q1X(U:Nat->Nat)(ru q k bc lb:Nat)(fst av cv:Value)(ss:List Site)(cs:List Q0A)(w:World):Prop where
 chain:w.heap[bc]?=some (.cells #[.slice none 0 0,fst,.pointer (some ⟨lb,0,none⟩)] 152 (0,0))
 last:w.heap[lb]?=some (.cells #[.slice none 0 0,.slice none 0 0,.int .i64 ru,.int .i64 k] 147 (0,0))
 uc:U bc=2
 ul:U lb=4+3*(q+cs.length)
 fresh:∀i,i<w.heap.size->i≠lb->U i<4+3*q
 ahead:Q0Q U 3 289 3 Q4j av ss w
 conds:Q2R U cv cs w
 short:∀c∈cs,c.terms.length<=4
 few:k+cs.length<=1000
 sites:ss.length+4*cs.length<=1000
def Q1G(U:Nat->Nat)(ru q k bc lb:Nat)(fst:Value)(ss:List Site)(cs:List Q0A)(w w':World)(hd:Value):Prop:=
 ∃U' nv hs,w'.heap[bc]?=some (.cells #[nv,fst,.pointer (some ⟨lb,0,none⟩)] 152 (0,0))/\Q0Q U' 2 150 1 venc nv hs.reverse w'/\Q2J U' q (Fl ss k cs) hs/\(∀h∈hs,h.oneCell'=true)/\(nv.ownBlock≠some bc)/\
  Q0K U' ru (Pi k cs) q k (Fl ss k cs) ⟨[],[]⟩ hd w'/\GrS (λi=>U i=2\/U i=3\/i=lb) w w'/\(∀i,i<w.heap.size->U' i=U i)/\∀i,w.heap.size<=i->i<w'.heap.size->(U' i<4\/4+3*q<=U' i)/\U' i<4+3*(q+cs.length)
theorem Vu(U:Nat->Nat)(ru q k bc lb:Nat)(fst av cv:Value)(ss:List Site)(w:World)(h:Q1X U ru q k bc lb fst av cv ss [] w):Calls prog 100 #[.pointer (some ⟨bc,0,none⟩),cv,av] w λe w'=>∃hd,e=.returned hd/\Q1G U ru q k bc lb fst ss [] w w' hd:=by
 obtain⟨ao,cap,rfl,_⟩:=h.conds.ex;have hc2:w.cell? ⟨bc,2,none⟩=some (.pointer (some ⟨lb,0,none⟩)):=by simp[World.cell?,h.chain]
 have H:=Ac h;clear h;go_enter func100,ntmps100;go_wp2;go_ret;have hh:=Aa H;have hl:=hh.last;have gO:=hh.ul;rw[CD,EI]at gO;refine⟨_,rfl,U,.slice none 0 0,[],hh.chain,⟨Q0B.nil 0 _ (λ_=>rfl),by simp[Value.ownBlock]⟩,⟨rfl,λp n hn=>by simp[Fl]at hn⟩,by simp,by simp[Value.ownBlock],⟨lb,.slice none 0 0,.slice none 0 0,rfl,⟨hl,gO,⟨Q0B.nil 0 _ Bz,by simp[Value.ownBlock]⟩,⟨Q0B.nil 0 _ Bz,by simp[Value.ownBlock]⟩,by simp,by simp,λi hi=>?_⟩⟩,GrS.refl _ _,λ_ _=>rfl,λi hi hlt=>by omega⟩;have:=hh.fresh i (GH hi (Ad hl)) (by omega);omega
def Gu(U:Nat->Nat)(ru q k bc lb:Nat)(fst:Value)(ss:List Site)(cs:List Q0A)(w w':World)(hd:Value):Prop:=
 ∃U' nv hs,w'.heap[bc]?=some (.cells #[nv,fst,.pointer (some ⟨lb,0,none⟩)] 152 (0,0))/\Q0Q U' 2 150 1 venc nv hs.reverse w'/\Q2J U' q (Fl ss k cs) (hd::hs)/\(∀h∈hd::hs,h.oneCell'=true)/\(nv.ownBlock≠some bc)/\
  Q0K U' ru (Pi k cs) q k (Fl ss k cs) ⟨[],[]⟩ hd w'/\GrS (λi=>U i=2\/U i=3\/i=lb) w w'/\(∀i,i<w.heap.size->U' i=U i)/\∀i,w.heap.size<=i->i<w'.heap.size->(U' i<4\/4+3*q<=U' i)/\U' i<4+3*(q+cs.length)
theorem Rx{Ux:Nat->Nat}{ss:List Site}{c:Q0A}{wx:World}{u lv:Value}{b:Nat} (h:Q1X U ru q k bc lb fst av cv ss (c::cs) w)(hG:GrS (λi=>U i=2\/U i=3\/i=lb) w wx)(ho:∀i,i<w.heap.size->Ux i=U i)(hn:∀i,w.heap.size<=i->i<wx.heap.size->Ux i<4) (hP:Q1G Ux ru (q+1) (if c.neg=true then k else k+1) bc lb fst (if c.neg=true then ss else ss++Site.bindT k 0 c.terms) cs wx w3 hd) (hT:Q0Q Ux 1 258 3 tmenc u c.terms wx)(hL:Q0Q Ux 1 293 4 Q2o lv (Lnk.of ss 0 c.terms) wx) (hb:w4.heap[b]?=some (.cells (Bg ⟨c,Lnk.of ss 0 c.terms,[],[]⟩ k u lv (.slice none 0 0) (.slice none 0 0) hd) (Lt c.neg) (0,0)))(hbl:w3.heap.size<=b)(hg4:w3.grownBy w4 none):Gu U ru q k bc lb fst ss (c::cs) w w4 (.iface (Dc c.neg) (.pointer (some ⟨b,0,none⟩))):=by
 obtain⟨U',nv,hs,p1,p2,p3,p4,p5,p6,p7,p8,p9⟩:=hP;obtain⟨U4,yD⟩:∃U4:Nat->Nat,U4=λi=>if i=b then 4+3*q else if i<w3.heap.size then U' i else 1:=⟨_,rfl⟩
 have o4:∀i,i<w3.heap.size->U4 i=U' i:=λi hi=>by rw[yD];dsimp only;rw[AO (by omega),AQ hi]
 have b4:U4 b=4+3*q:=by rw[yD];dsimp only;rw[AQ rfl]
 have n4:∀i,w3.heap.size<=i->i≠b->U4 i=1:=λi hi hne=>by rw[yD];dsimp only;rw[AO hne,AO (by omega)]
 clear yD;have WM:=hG.size;have hsx3:=p7.size;have gO:=h.ul;rw[AP]at gO;have NH:∀i,i<b->U4 i≠4+3*q:=by intro i hi;by_cases h3:i<w3.heap.size;{rw[o4 i h3];by_cases hx:i<wx.heap.size;{rw[p8 i hx];by_cases hw:i<w.heap.size;{rw[ho i hw];by_cases hl:i=lb;{subst hl;omega};{have:=h.fresh i hw hl;omega}};{have:=hn i (by omega) hx;omega}};{have:=(p9 i (by omega) h3).1;omega}};{rw[n4 i (by omega) (by omega)];omega}
 have QN:GrS (λ_:Nat=>False) w3 w4:=GrS.of hg4 (by simp);have XF:∀c' i,U' i=c'->¬ (λ_:Nat=>False) i:=λ_ _ _ hf=>hf;have hk4:∀c' i,i<w3.heap.size->U' i=c'->U4 i=c':=λc' i hi e=>by rw[o4 i hi];exact e
 have bm:∀i,Ux i=1->¬ (Ux i=2\/Ux i=3\/i=lb):=by intro i hi hx;rcases hx with hx|hx|rfl;{omega};{omega};{rw[ho i (Ad h.last)]at hi;omega}
 have hN:Q0M U4 q k b ⟨c,Lnk.of ss 0 c.terms,[],[]⟩ hd u lv (.slice none 0 0) (.slice none 0 0) w4:=by refine⟨hb,b4,?_,?_,⟨Q0B.nil 0 _ Bz,by simp[Value.ownBlock]⟩,⟨Q0B.nil 0 _ Jt,by simp[Value.ownBlock]⟩,by simp,by simp,h.short c (BF ..),NH⟩;{exact(hT.keep2 (T':=U') p7 bm (λi hi e=>by rw[p8 i hi];exact e)).keep2 QN (XF 1) (hk4 1)};{exact(hL.keep2 (T':=U') p7 bm (λi hi e=>by rw[p8 i hi];exact e)).keep2 QN (XF 1) (hk4 1)}
 refine⟨U4,nv,hs,QN.blk p1 (by simp),p2.keep2 QN (XF 2) (hk4 2),?_,?_,p5,?_,?_,?_,?_⟩;{refine⟨by unfold Fl;rw[AP,AP,p3.1],λp n hn'=>?_⟩;cases p with|zero=>unfold Fl at hn';simp only[BW,AE]at hn';subst hn';exact⟨b,rfl,b4,NH⟩|succ p=>unfold Fl at hn';simp only[BV]at hn'⊢;obtain⟨b',h1,h2⟩:=p3.2 p n hn';obtain⟨b2,h3,h4⟩:=p6.bk hn';obtain rfl:=h2.uniq h3;exact⟨b',h1,by rw[show q+(p+1)=q+1+p by omega];exact h2.old h4 o4⟩};{intro x hx;rcases CQ.1 hx with rfl|hx;{rfl};{exact p4 x hx}};{unfold Fl Pi;exact⟨b,hd,u,lv,_,_,rfl,hN,p6.keep QN (by simp) (λi hi _=>o4 i hi)⟩};{refine(hG.comp p7 (λi hi hn' hx=>hn' ?_)).then hg4 (by simp);rw[ho i hi]at hx;exact hx};{intro i hi;rw[o4 i (by omega),p8 i (by omega),ho i hi]};{intro i hi hlt;rw[AP];by_cases h3:i<w3.heap.size;{rw[o4 i h3];by_cases hx:i<wx.heap.size;{rw[p8 i hx];have:=hn i hi hx;omega};{have:=p9 i (by omega) h3;omega}};{by_cases hib:i=b;{subst hib;omega};{rw[n4 i (by omega) hib];omega}}}
theorem S6(v:Value):(venc v).length=1:=rfl
theorem Rw{ss:List Site}(hb:bc<w.heap.size)(hu:U bc=2) (hM:∃U' hs,w4.heap[bc]?=some (.cells #[nv,fst,.pointer (some ⟨lb,0,none⟩)] 152 (0,0))/\Q0Q U' 2 150 1 venc nv hs.reverse w4/\Q2J U' q (Fl ss k cs) (hd::hs)/\(∀h∈hd::hs,h.oneCell'=true)/\(nv.ownBlock≠some bc)/\Q0K U' ru (Pi k cs) q k (Fl ss k cs) ⟨[],[]⟩ hd w4/\GrS (λi=>U i=2\/U i=3\/i=lb) w w4/\(∀i,i<w.heap.size->U' i=U i)/\(∀i,w.heap.size<=i->i<w4.heap.size->(U' i<4\/4+3*q<=U' i)/\U' i<4+3*(q+cs.length))/\Q0B 150 1 venc 0 v' (hs.reverse++[hd]) w5) (hl:∃n m wx,w4.grownBy wx none/\Q0O nv v' n m wx w5):Q1G U ru q k bc lb fst ss cs w (w5.setCell ⟨bc,0,none⟩ v') hd:=by
 obtain⟨U',hs,p1,p2,p3,p4,p5,p6,p7,p8,p9,p10⟩:=hM;obtain⟨n,m,wx,hgx,hlo⟩:=hl;have bG:GrS (λi=>U' i=2) w4 w5:=(GrS.of hgx (by simp)).trans (hlo.gr (λg hg=>p2.2 g hg));have YW:w5.heap[bc]?=some (.cells #[nv,fst,.pointer (some ⟨lb,0,none⟩)] 152 (0,0)):=hlo.block (by rw[hgx.block bc (Ad p1) (by simp)];exact p1) p5;have aR:=Aj w5 bc 0 v';have wq:U' bc=2:=by rw[p8 bc hb];exact hu
 have dX:GrS (λi=>U' i=2) w4 (w5.setCell ⟨bc,0,none⟩ v'):=bG.then aR (λg hg=>by simp at hg;subst hg;exact .inr wq);have hown:∀g,v'.ownBlock=some g->nv.ownBlock=some g\/w4.heap.size<=g:=λg hg=>by rcases hlo.own g hg with h|h;{exact .inl h};{exact .inr (AU hgx.size h)}
 have hne:v'.ownBlock≠some bc:=λhx=>by rcases hown bc hx with h|h;{exact p5 h};{have:=Ad p1;omega}
 have o6:∀i,i<w4.heap.size->Co U' w4 2 i=U' i:=λi hi=>Al hi;refine⟨Co U' w4 2,v',hd::hs,?_,⟨?_,?_⟩,⟨p3.1,λp n hn=>?_⟩,p4,hne,p6.keep dX (λi hi hx=>by omega) (λi hi _=>o6 i hi),?_,?_,?_⟩;{rw[BB w5 bc 0 _ _ _ YW];rfl};{rw[List.reverse_cons];refine p10.other aR (λg hg e=>?_);simp only[AE]at e;exact hne (by rw[hg,e])};{intro g hg;rcases hown g hg with h|h;{rw[o6 g (p2.1.own g h).2];exact p2.2 g h};{exact Bn h}};{obtain⟨b',h1,h2⟩:=p3.2 p n hn;obtain⟨b2,h3,h4⟩:=p6.bk hn;obtain rfl:=h2.uniq h3;exact⟨b',h1,h2.old h4 o6⟩};{refine p7.comp dX (λi hi hn hx=>hn (.inl ?_));rw[<-p8 i hi];exact hx};{intro i hi;rw[o6 i (AV hi p7.size)];exact p8 i hi};{intro i hi hlt;by_cases h4:i<w4.heap.size;{rw[o6 i h4];exact p9 i hi h4};{rw[Bn (by omega)];omega}}
theorem Q0J.reg{g:Ft}(h:Q0J U g w)(h1:∀i,U i=1->U' i=1):Q0J U' g w:=h.keep (S:=λ_=>False) (GrS.refl _ _) (by simp) (λi _ e=>h1 i e)
theorem Q0Q.reg{c c' e:Nat}{enc:α->List Value}{l:List α}(h:Q0Q U c e k enc v l w)(h1:∀i,U i=c->U' i=c'):Q0Q U' c' e k enc v l w:=⟨h.1,λg hg=>h1 g (h.2 g hg)⟩
structure Reg(U U':Nat->Nat)(a z:Nat):Prop where
 one:∀i,U i=1->U' i=1
 node:∀i,a<=U i->U i<z->U' i=U i
 rest:∀i,U' i=U i\/U' i=1
theorem Reg.sub{a z a' z':Nat}(h:Reg U U' a z)(ha:a<=a')(hz:z'<=z):Reg U U' a' z':=⟨h.one,λi h1 h2=>h.node i (by omega) (by omega),h.rest⟩
theorem Reg.low{a z:Nat}(h:Reg U U' a z){c:Nat}(hc:c≠1)(hi:U i≠c):U' i≠c:=by rcases h.rest i with e|e;{rw[e];exact hi};{rw[e];omega}
theorem Reg.bk{a z c b:Nat}(h:Reg U U' a z)(hb:Bk U c b)(h1:a<=c)(h2:c<z)(hc:c≠1):Bk U' c b:=
 ⟨by rw[h.node b (by rw[hb.1];exact h1) (by rw[hb.1];exact h2)];exact hb.1,λi hi=>h.low hc (hb.2 i hi)⟩
theorem Q0T.reg{U U':Nat->Nat}{q b ru jn:Nat}{e:En}{tv wv:Value}{w:World}(h:Q0T U q b ru jn e tv wv w)(hu:Reg U U' (4+3*q) (7+3*q)):Q0T U' q b ru jn e tv wv w:=
 ⟨h.blk,by rw[hu.node b (by rw[h.own];omega) (by rw[h.own];omega)];exact h.own,h.toks.reg (λi hi=>by rw[hu.node i (by omega) (by omega)];exact hi),h.wait.reg (λi hi=>by rw[hu.node i (by omega) (by omega)];exact hi),
  λt ht g hg=>(h.tfs t ht g hg).reg hu.one,λt ht g hg=>(h.wfs t ht g hg).reg hu.one,λi hi=>hu.low (by omega) (h.low i hi)⟩
theorem Q0M.reg{U U':Nat->Nat}{q k b:Nat}{n:Nd}{nx tv lv ov fv:Value}{w:World}(h:Q0M U q k b n nx tv lv ov fv w)(hu:Reg U U' (4+3*q) (7+3*q)):Q0M U' q k b n nx tv lv ov fv w:=
 ⟨h.blk,by rw[hu.node b (by rw[h.own];omega) (by rw[h.own];omega)];exact h.own,h.terms.reg hu.one,h.links.reg hu.one,h.toks.reg (λi hi=>by rw[hu.node i (by omega) (by omega)];exact hi),h.facts.reg (λi hi=>by rw[hu.node i (by omega) (by omega)];exact hi),
  λg hg=>(h.fts g hg).reg hu.one,λt ht g hg=>(h.tfs t ht g hg).reg hu.one,h.short,λi hi=>hu.low (by omega) (h.low i hi)⟩
theorem Q0K.reg{U U':Nat->Nat}{ru jn:Nat}{w:World}{e:En}:∀ {ns:List Nd} {q k:Nat} {hd:Value},Q0K U ru jn q k ns e hd w->Reg U U' (4+3*q) (7+3*(q+ns.length))->Q0K U' ru jn q k ns e hd w
 |[],q,k,hd,h,hu=>by
  obtain⟨b,tv,wv,h1,h2⟩:=h;exact⟨b,tv,wv,h1,h2.reg (hu.sub (by omega) (by simp))⟩
 |n::ns,q,k,hd,h,hu=>by
  obtain⟨b,nx,tv,lv,ov,fv,h1,h2,h3⟩:=h;rw[AP]at hu;exact⟨b,nx,tv,lv,ov,fv,h1,h2.reg (hu.sub (by omega) (by omega)),Q0K.reg h3 (hu.sub (by omega) (by omega))⟩
theorem Q2J.reg(h:Q2J U q ns hs)(hu:Reg U U' (4+3*q) (7+3*(q+ns.length))):Q2J U' q ns hs:=by refine⟨h.1,λp n hn=>?_⟩;obtain⟨b,h1,h2⟩:=h.2 p n hn;have:=(AK.1 hn).1;exact⟨b,h1,hu.bk h2 (by omega) (by omega) (by omega)⟩
theorem GrS.grown(h:GrS S w w')(hs:∀i,i<w.heap.size->¬ S i):w.grownBy w' none:=
 ⟨h.os,h.tape,h.output,h.size,λk hk _=>h.block k hk (hs k hk)⟩
def Rj(U U':Nat->Nat)(q m:Nat)(w w':World):Prop:=(∀i,i<w.heap.size->U' i=U i)/\∀i,w.heap.size<=i->i<w'.heap.size->(U' i=1\/4+3*q<=U' i)/\U' i<4+3*(q+m+1)
def Rf(Ua U:Nat->Nat)(ru q bc:Nat)(cs:List Q0A)(w w4:World)(hd:Value):Prop:=
 ∃nv hs lb,w4.heap[bc]?=some (.cells #[nv,hd,.pointer (some ⟨lb,0,none⟩)] 152 (0,0))/\Ua bc=1/\Q0Q Ua 1 150 1 venc nv hs.reverse w4/\Q2J Ua q (Fl [] 0 cs) hs/\(∀h∈hs,h.oneCell'=true)/\Bk Ua (4+3*(q+cs.length)) lb/\
  Q0K Ua ru (Pi 0 cs) q 0 (Fl [] 0 cs) ⟨[],[]⟩ hd w4/\w.grownBy w4 none/\Rj U Ua q cs.length w w4
theorem Zk(hP:Q1G U1 ru q 0 bc lb fst [] cs w2 w3 hd)(hg:w.grownBy w2 none) (ho:∀i,i<w.heap.size->U1 i=U i)(hU:∀i,i<w.heap.size->U i<2\/4<=U i/\U i<4+3*q)(hn:∀i,w.heap.size<=i->i<w2.heap.size->i≠lb->U1 i<4) (hbc:w.heap.size<=bc)(hbl:bc<w2.heap.size)(wq:U1 bc=2)(nD:w.heap.size<=lb)(kh:lb<w2.heap.size)(gO:U1 lb=4+3*(q+cs.length)):∃Ua,Rf Ua U ru q bc cs w (w3.setCell ⟨bc,1,none⟩ hd) hd:=by
 obtain⟨U',nv,hs,p1,p2,p3,p4,p5,p6,p7,p8,p9⟩:=hP;have cN:=F1 cs [] 0;obtain⟨Ua,ZK⟩:∃Ua:Nat->Nat,Ua=λi=>if i<w.heap.size then U i else if U' i=2\/U' i=3\/U' i=0\/4+3*(q+cs.length+1)<=U' i then 1 else U' i:=⟨_,rfl⟩
 have hsz:=hg.size;have hs2:=p7.size;have hold:∀i,i<w.heap.size->Ua i=U i:=λi hi=>by rw[ZK];dsimp only;rw[AQ hi]
 have oD:∀i,i<w.heap.size->U' i=U i:=λi hi=>by rw[p8 i (by omega),ho i hi]
 have hnew:∀i,w.heap.size<=i->Ua i=if U' i=2\/U' i=3\/U' i=0\/4+3*(q+cs.length+1)<=U' i then 1 else U' i:=λi hi=>by rw[ZK];dsimp only;rw[AO (by omega)]
 clear ZK;have ou:Reg U' Ua (4+3*q) (7+3*(q+(Fl [] 0 cs).length)):=by rw[cN];refine⟨λi hi=>?_,λi h1 h2=>?_,λi=>?_⟩;{by_cases hw:i<w.heap.size;{rw[hold i hw,<-oD i hw];exact hi};{rw[hnew i (by omega)];split<;>omega}};{by_cases hw:i<w.heap.size;{rw[hold i hw,<-oD i hw]};{rw[hnew i (by omega),AO (by omega)]}};{by_cases hw:i<w.heap.size;{rw[hold i hw,<-oD i hw];exact .inl rfl};{rw[hnew i (by omega)];split;{exact .inr rfl};{exact .inl rfl}}}
 have WE:U' bc=2:=by rw[p8 bc hbl];exact wq
 have LU:U' lb=4+3*(q+cs.length):=by rw[p8 lb kh];exact gO
 have aR:=Aj w3 bc 1 hd;have hG:GrS (λi=>i=bc) w3 (w3.setCell ⟨bc,1,none⟩ hd):=GrS.of aR (λg hg=>by simp at hg;exact hg.symm);refine⟨Ua,nv,hs,lb,?_,?_,?_,p3.reg ou,p4,?_,?_,?_,hold,?_⟩;{rw[BB w3 bc 1 _ _ _ p1];rfl};{rw[hnew bc hbc,AQ (.inl WE)]};{refine Q0Q.reg (c:=2) ⟨hG.row p2.1 (λg hg e=>p5 (by rw[hg,e])),p2.2⟩ (λi hi=>?_);by_cases hw:i<w.heap.size;{have:=oD i hw;have:=hU i hw;omega};{rw[hnew i (by omega),AQ (.inl hi)]}};{refine⟨?_,λi hi=>?_⟩;{rw[ou.node lb (by omega) (by omega)];exact LU};{refine ou.low (by omega) ?_;rw[p8 i (by omega)];by_cases hw:i<w.heap.size;{rw[ho i hw];have:=hU i hw;omega};{have:=hn i (by omega) (by omega) (by omega);omega}}};{refine(p6.keep hG (λi hi e=>?_) (λi _ _=>rfl)).reg ou;subst e;omega};{refine GrS.grown (S:=λi=>w.heap.size<=i) ?_ (λi hi h=>by omega);refine((GrS.of hg (by simp):GrS (λi=>w.heap.size<=i) w w2).comp p7 (λi hi hn' hx=>?_)).then aR (λg hg=>by simp at hg;exact .inl (by omega));have h1:=ho i hi;have h2:=hU i hi;rcases hx with h|h|h<;>omega};{intro i hi hlt;rw[hnew i hi];by_cases h3:i<w2.heap.size;{by_cases hl:i=lb;{subst hl;rw[LU];split<;>omega};{have:=p8 i h3;have:=hn i hi h3 hl;split<;>omega}};{(have hlt3:i<w3.heap.size:=by rw[<-(show (w3.setCell ⟨bc,1,none⟩ hd).heap.size=w3.heap.size by simp)];exact hlt);have:=p9 i (by omega) hlt3;split<;>omega}}
def Fm(U:Nat->Nat)(ru q bc:Nat)(cs:List Q0A)(w w':World):Prop:=
 ∃U',Q1B U' ru (Pi 0 cs) q bc (arr (Fl [] 0 cs) ⟨[],[]⟩ [[]]).1 (arr (Fl [] 0 cs) ⟨[],[]⟩ [[]]).2 w'/\w.grownBy w' none/\Rj U U' q cs.length w w'
theorem Q2J.same{U:Nat->Nat}{q:Nat}{ns iV:List Nd}{hs:List Value}(h:Q2J U q ns hs)(hn:ns.map (λn=>(n.c,n.links,n.K))=iV.map (λn=>(n.c,n.links,n.K))):Q2J U q iV hs:=by
 have hl:ns.length=iV.length:=by have:=BJ List.length hn;simpa using this
 refine⟨by rw[h.1,hl],λp n hp=>?_⟩;have hp':(iV.map (λn=>(n.c,n.links,n.K)))[p]?=some (n.c,n.links,n.K):=by rw[BR,hp];rfl
 rw[<-hn,BR]at hp';cases hx:ns[p]? with|none=>rw[hx]at hp';simp at hp'|some m=>rw[hx]at hp';simp only[DM,AE,CE]at hp';obtain⟨b,h1,h2⟩:=h.2 p m hx;exact⟨b,by rw[<-hp'.1];exact h1,h2⟩
theorem Zj{Ua:Nat->Nat}(hU:∀i,i<w.heap.size->U i<2\/4<=U i/\U i<4+3*q) (hM:Rf Ua U ru q bc cs w w4 hd)(hA:Dr Ua ru (Pi 0 cs) q 0 (Fl [] 0 cs) ⟨[],[]⟩ hd [[]] w4 w5):Fm U ru q bc cs w w5:=by
 obtain⟨nv,hs,lb,m1,m2,m3,m4,m5,m6,m7,m8,m9,m10⟩:=hM;have cN:=F1 cs [] 0;obtain⟨Ub,b1,b2,b3⟩:=hA;have vn:=Hx (Fl [] 0 cs) ⟨[],[]⟩ [[]];have kh:(arr (Fl [] 0 cs) ⟨[],[]⟩ [[]]).1.length=cs.length:=by rw[Cv,cN]
 obtain⟨Uc,ZJ⟩:∃Uc:Nat->Nat,Uc=λi=>if i<w4.heap.size then Ub i else if Ub i<4+3*q\/7+3*(q+cs.length)<=Ub i then 1 else Ub i:=⟨_,rfl⟩
 have co:∀i,i<w4.heap.size->Uc i=Ub i:=λi hi=>by rw[ZJ];dsimp only;rw[AQ hi]
 have cn:∀i,w4.heap.size<=i->Uc i=if Ub i<4+3*q\/7+3*(q+cs.length)<=Ub i then 1 else Ub i:=λi hi=>by rw[ZJ];dsimp only;rw[AO (by omega)]
 clear ZJ;have ou:Reg Ub Uc (4+3*q) (7+3*(q+(arr (Fl [] 0 cs) ⟨[],[]⟩ [[]]).1.length)):=by rw[kh];refine⟨λi hi=>?_,λi h1 h2=>?_,λi=>?_⟩;{by_cases hw:i<w4.heap.size;{rw[co i hw];exact hi};{rw[cn i (by omega)];split<;>omega}};{by_cases hw:i<w4.heap.size;{exact co i hw};{rw[cn i (by omega),AO (by omega)]}};{by_cases hw:i<w4.heap.size;{exact .inl (co i hw)};{rw[cn i (by omega)];split;{exact .inr rfl};{exact .inl rfl}}}
 have zh:∀i,i<w4.heap.size->Uc i=Ua i:=λi hi=>by rw[co i hi,b3 i hi]
 have hbl:=Ad m1;have nD:lb<w4.heap.size:=by obtain⟨b,tv,wv,k1,k2⟩:=m7.bkLast;rw[cN]at k1;rw[m6.uniq k1];exact Ad k2.blk
 refine⟨Uc,⟨nv,hd,hs,lb,b2.blk m1 (λh=>by unfold Am at h;omega),by rw[zh bc hbl];exact m2,m3.keep2 b2 (λi hi h=>by unfold Am at h;omega) (λi hi e=>by rw[zh i hi];exact e),?_,m5,?_,b1.reg ou⟩,?_,?_,?_⟩;{refine Q2J.same ⟨m4.1,λp n hn=>?_⟩ vn;obtain⟨b',h1,h2⟩:=m4.2 p n hn;obtain⟨b2',h3,h4⟩:=m7.bk hn;obtain rfl:=h2.uniq h3;exact⟨b',h1,h2.old h4 zh⟩};{rw[kh];exact m6.old nD zh};{refine GrS.grown (S:=λi=>w.heap.size<=i) ?_ (λi hi h=>by omega);refine(GrS.of m8 (by simp):GrS (λi=>w.heap.size<=i) w w4).comp b2 (λi hi hn h=>?_);have:=m9 i hi;have:=hU i hi;unfold Am at h;omega};{intro i hi;rw[zh i (AV hi m8.size),m9 i hi]};{intro i hi hlt;by_cases h4:i<w4.heap.size;{rw[zh i h4];exact m10 i hi h4};{rw[cn i (by omega)];split<;>omega}}
end Go.Proofs.YtolhbeekfjnfmaaGreatDoor
namespace Go.Proofs.YtolhbeekfjnfmaaGreatDoor
open Go.Proofs.Tryz
variable {α:Type}{e:En}{size B i ru jn q m N j k bc lb:Nat}{v nv hd x y z a b av v' cv fst:Value}{w w2 w1 w' w3 w4 w5:World}{U U' U0 U1:Nat->Nat}{o:Obj}{hs:List Value}{f:Ft}{ns:List Nd}{S:Nat->Prop}{cs:List Q0A}
def Q5s(A:List Nat)(ss:List Site):Prop:=∀s∈ss,∃a,A[s.fact]?=some a/\s.place<a
theorem Lnk.of_ok{A:List Nat}{ss:List Site}(h:Q5s A ss):∀(ts:List Q0D) (p:Nat),∀l∈Lnk.of ss p ts,l.place<p+ts.length/\∃a,A[l.at'.fact]?=some a/\l.at'.place<a
 |[],p,l,hl=>by simp[Lnk.of]at hl
 |t::ts,p,l,hl=>by
  unfold Lnk.of at hl;rw[AP];rcases BA.1 hl with hl|hl
  ·split at hl
   ·split at hl
    ·simp at hl
    ·rename_i s hs
     simp at hl;rw[hl];exact⟨by dsimp only;omega,h s (Site.find_mem ss _ s hs)⟩
   ·simp at hl
  ·obtain⟨h1,h2⟩:=Lnk.of_ok h ts (p+1) l hl
   exact⟨by omega,h2⟩
theorem Site.bindT_place(k:Nat):∀(ts:List Q0D) (p:Nat),∀s∈Site.bindT k p ts,s.place<p+ts.length
 |[],p,s,hs=>by simp[Site.bindT]at hs
 |t::ts,p,s,hs=>by
  unfold Site.bindT at hs;rw[AP];rcases BA.1 hs with hs|hs
  ·split at hs
   ·simp at hs;rw[hs];dsimp only;omega
   ·simp at hs
  ·have:=Site.bindT_place k ts (p+1) s hs;omega
theorem Q5s.next{A:List Nat}{ss:List Site}(h:Q5s A ss)(c:Q0A):Q5s (if c.neg=true then A else A++[c.terms.length]) (if c.neg=true then ss else ss++Site.bindT A.length 0 c.terms):=by split;{exact h};{intro s hs;rcases BA.1 hs with hs|hs;{obtain⟨a,h1,h2⟩:=h s hs;exact⟨a,by rw[CP (AK.1 h1).1];exact h1,h2⟩};{refine⟨c.terms.length,?_,by simpa using Site.bindT_place _ _ _ s hs⟩;rw[Site.bindT_fact _ _ _ s hs];simp}}
theorem Q0W.ext{A:List Nat}{n:Nd}{t u:Tok}(h:Q0W A t)(hK:∀g∈n.K,g.f.vals.length=n.c.terms.length)(hu:u∈n.ext t):Q0W (if n.c.neg=true then A else A++[n.c.terms.length]) u:=by unfold Nd.ext at hu;split at hu;{(rename_i hn);rw[AQ hn];split at hu;{simp at hu};{simp at hu;subst hu;exact h}};{(rename_i hn);rw[AO hn];obtain⟨g,hg,rfl⟩:=CC.1 hu;rw[<-hK g (BI.1 hg).1];exact h.snoc g}
theorem Good.wf{F:List Ft}:∀ {ns:List Nd} {cs:List Q0A} {ss:List Site} {A:List Nat} {B:List Tok} {e:En},Good F ss A.length ns cs->Q5s A ss->(∀t∈B,Q0W A t)->Inv B ns e->A.length+cs.length<=4->WF A ns/\∀t∈e.toks,Q0W (H9 A ns) t
 |[],[],ss,A,B,e,_,_,hB,hi,hl=>⟨by unfold WF;simp at hl;exact hl,λt ht=>hB t ((List.Perm.mem_iff hi).1 ht)⟩
 |[],_::_,_,_,_,_,h,_,_,_,_=>h.elim
 |_::_,[],_,_,_,_,h,_,_,_,_=>h.elim
 |n::ns,c::cs,ss,A,B,e,h,hs,hB,hi,hl=>by
  obtain⟨h1,h2,h3,h4⟩:=h;obtain⟨i1,i2⟩:=hi;subst h1;rw[AP]at hl;have hK:∀g∈n.K,g.f.vals.length=n.c.terms.length:=λg hg=>by rw[h3]at hg;exact Ju (BI.1 hg).2
  have e1:(if n.c.neg=true then A.length else A.length+1)=(if n.c.neg=true then A else A++[n.c.terms.length]).length:=by split<;>simp
  rw[e1]at h4
  obtain⟨r1,r2⟩:=Good.wf h4 (hs.next n.c) (B:=B.flatMap n.ext) (λt ht=>by
   obtain⟨u,hu,hv⟩:=CU.1 ht;exact(hB u hu).ext hK hv) i2 (by rw[<-e1];split<;>omega)
  refine⟨⟨by split<;>omega,?_,hK,λt ht=>hB t ((List.Perm.mem_iff i1).1 ht),r1⟩,r2⟩;rw[h2];intro l hl';obtain⟨a1,a2⟩:=Lnk.of_ok hs n.c.terms 0 l hl';exact⟨by omega,a2⟩
theorem Good.bd{F:List Ft}{κ:Nat}(hF:F.length<=κ)(hk:κ<=20):∀ {ns:List Nd} {cs:List Q0A} {ss:List Site} {k c:Nat} {B:List Tok} {e:En},Good F ss k ns cs->Inv B ns e->B.length<=c->e.wait.length<=e.toks.length->Bd κ c ns e
 |[],[],_,_,_,_,_,_,hi,hB,hw=>by have:=List.Perm.length_eq hi;exact⟨by omega,by omega⟩
 |[],_::_,_,_,_,_,_,h,_,_,_=>h.elim
 |_::_,[],_,_,_,_,_,h,_,_,_=>h.elim
 |n::ns,c::cs,ss,k,d,B,e,h,hi,hB,hw=>by
  obtain⟨h1,h2,h3,h4⟩:=h;obtain⟨i1,i2⟩:=hi;have hK:n.K.length<=κ:=by rw[h3];exact AU (CR _ _) hF
  refine⟨hK,by rw[i1.length_eq];exact hB,Good.bd hF hk h4 i2 ?_ hw⟩;have:=Np n.ext 20 (Pd (by omega)) B;have:=BS 20 hB;omega
def Fd(Z:List Tok)(e:En):Prop:=e.toks.Perm (e.wait++Z)
theorem Fd.le{Z:List Tok}(h:Fd Z e):e.wait.length<=e.toks.length:=by have:=List.Perm.length_eq h;rw[AL]at this;omega
theorem Fd.arr{Z:List Tok}:∀(ns:List Nd) {e:En} (ts:List Tok),Fd Z e->Fd Z (arr ns e ts).2
 |[],e,ts,h=>by
  show (e.toks++ts).Perm (ts.foldl (Hp.push Tok.less) e.wait++Z)
  refine(h.append_right ts).trans ?_;refine List.Perm.trans ?_ ((Hp.fold_perm Tok.less ts e.wait).symm.append_right Z);rw[BQ,BQ];exact IA _ JI
 |n::ns,e,ts,h=>Fd.arr ns (ts.flatMap n.ext) h
theorem Fd.drop{Z:List Tok}{e:En}(p:Tok->Bool)(h:Fd Z e):Fd (Z.filter (λt=>!p t)) (e.drop p):=by show (e.toks.filter _).Perm (Hp.init Tok.less (e.wait.filter _)++_);refine(KE _ h).trans ?_;rw[DJ];exact(Hp.init_perm _ _).symm.append_right _
theorem Jw:∀(ns:List Nd) {e:En} (ts:List Tok),Hp.Is Tok.less e.wait->Hp.Is Tok.less (arr ns e ts).2.wait
 |[],_,ts,h=>Hp.fold_ok Tok.less_ord ts h
 |n::ns,_,ts,h=>Jw ns (ts.flatMap n.ext) h
theorem Pf(p:Tok->Bool):Hp.Is Tok.less (e.drop p).wait:=Hp.init_ok Tok.less_ord _
theorem Tok.has_app{t:Tok}(g:Ft)(h:Tok.has f t=true):Tok.has f (t++[g])=true:=by unfold Tok.has at h⊢;rw[FI,h];rfl
theorem Tok.has_snoc(f:Ft)(t:Tok):Tok.has f (t++[f])=true:=by unfold Tok.has;rw[FI];simp
theorem Vs{f:Ft}:∀(ns:List Nd) {e:En} (ts:List Tok),(∀t∈ts,Tok.has f t=true)->∀u∈(arr ns e ts).2.wait,u∈e.wait\/Tok.has f u=true
 |[],e,ts,h,u,hu=>by
  have:u∈ts.foldl (Hp.push Tok.less) e.wait:=hu;rcases BA.1 ((Hp.fold_perm Tok.less ts e.wait).mem_iff.1 this)with h1|h1
  ·exact .inl h1
  ·exact .inr (h u h1)
 |n::ns,e,ts,h,u,hu=>Vs ns (ts.flatMap n.ext) (λt ht=>by
   obtain⟨x,hx,hy⟩:=CU.1 ht;rcases Nd.ext_mem hy with rfl|⟨g,_,rfl⟩
   ·exact h _ hx
   ·exact Tok.has_app g (h x hx)) u hu
structure Comes(f:Ft)(Z:List Tok)(e e':En):Prop where
 ex:∃Z',Fd Z' e'/\(∀z∈Z',z∈Z)
 heap:Hp.Is Tok.less e'.wait
 new:∀t∈e'.wait,t∈e.wait\/Tok.has f t=true
theorem Nc{Z:List Tok}(n:Nd)(ns:List Nd)(h:Fd Z e)(hh:Hp.Is Tok.less e.wait):Comes f Z e (Ao f n ns e).2.2:=by unfold Ao;split;{split;{refine⟨⟨_,h.drop _,λz hz=>(BI.1 hz).1⟩,Pf _,λt ht=>.inl ?_⟩;have:=(Hp.init_perm Tok.less _).mem_iff.1 ht;exact(BI.1 this).1};{refine⟨⟨Z,h.arr _ _,λz hz=>hz⟩,Jw _ _ hh,Vs _ _ (λt ht=>?_)⟩;obtain⟨u,_,rfl⟩:=CC.1 ht;exact Tok.has_snoc f u}};{exact⟨⟨Z,h,λz hz=>hz⟩,hh,λt ht=>.inl ht⟩}
theorem Jf{f:Ft}:∀(k:Nat) (ns:List Nd) {Z:List Tok} {e:En},Fd Z e->Hp.Is Tok.less e.wait->Comes f Z e (De f k ns e).2
 |0,_,Z,_,h,hh=>⟨⟨Z,h,λz hz=>hz⟩,hh,λt ht=>.inl ht⟩
 |_+1,[],Z,_,h,hh=>⟨⟨Z,h,λz hz=>hz⟩,hh,λt ht=>.inl ht⟩
 |k+1,n::ns,Z,e,h,hh=>by
  obtain⟨⟨Z1,a1,a2⟩,a3,a4⟩:=Nc (f:=f) n ns h hh;obtain⟨⟨Z2,b1,b2⟩,b3,b4⟩:=Jf (f:=f) k (Ao f n ns e).2.1 a1 a3;refine⟨⟨Z2,b1,λz hz=>a2 z (b2 z hz)⟩,b3,λt ht=>?_⟩;rcases b4 t ht with h1|h1
  ·exact a4 t h1
  ·exact .inr h1
theorem K2{f:Ft}:∀(ns:List Nd) {Z:List Tok} {e:En},Fd Z e->Hp.Is Tok.less e.wait->Fd Z (Ca f ns e).2/\Hp.Is Tok.less (Ca f ns e).2.wait
 |[],_,_,h,hh=>⟨h,hh⟩
 |n::ns,Z,e,h,hh=>by
  obtain⟨a1,a2⟩:=K2 (f:=f) ns h hh;unfold Ca Ay;split
  ·dsimp only
   split
   ·exact⟨a1.arr _ _,Jw _ _ a2⟩
   ·exact⟨a1,a2⟩
  ·exact⟨a1,a2⟩
theorem V4{Z:List Tok}(h:Fd Z e):Fd (Z.filter (λt=>!Tok.has f t)) (Ud f ns e).2/\Hp.Is Tok.less (Ud f ns e).2.wait:=
 K2 _ (h.drop _) (Pf _)
end Go.Proofs.YtolhbeekfjnfmaaGreatDoor
namespace Go.Proofs.YtolhbeekfjnfmaaGreatDoor
open Go.RowKit Go.Proofs.Tryz
variable {α:Type}{e:En}{size B i ru jn q m N j k bc lb:Nat}{v nv hd x y z a b av v' cv fst:Value}{w w2 w1 w' w3 w4 w5:World}{U U' U0 U1:Nat->Nat}{o:Obj}{hs:List Value}{f:Ft}{ns:List Nd}{S:Nat->Prop}{cs:List Q0A}
theorem Q1B.keep{U U':Nat->Nat}{ru jn q b:Nat}{ns:List Nd}{e:En}{w w':World}{S:Nat->Prop}(h:Q1B U ru jn q b ns e w)(hg:GrS S w w')(hs:∀i,(U i=1\/Am U q ns.length i)->¬ S i)(ho:∀i,i<w.heap.size->U' i=U i):Q1B U' ru jn q b ns e w':=by
 obtain⟨nv,hd,hs',lb,m1,m2,m3,m4,m5,m6,m7⟩:=h.ex;have hbl:=Ad m1;have nD:lb<w.heap.size:=by obtain⟨b',tv,wv,k1,k2⟩:=m7.bkLast;rw[m6.uniq k1];exact Ad k2.blk
 refine⟨nv,hd,hs',lb,hg.blk m1 (hs b (.inl m2)),by rw[ho b hbl];exact m2,m3.keep2 hg (λi hi=>hs i (.inl hi)) (λi hi e=>by rw[ho i hi];exact e),⟨m4.1,λp n hn=>?_⟩,m5,m6.old nD ho,m7.keep hg (λi hi=>hs i ?_) (λi hi _=>ho i hi)⟩;{obtain⟨b',h1,h2⟩:=m4.2 p n hn;obtain⟨b2',h3,h4⟩:=m7.bk hn;obtain rfl:=h2.uniq h3;exact⟨b',h1,h2.old h4 ho⟩};{unfold Am;omega}
theorem Q1B.reg{U U':Nat->Nat}{ru jn q b:Nat}{ns:List Nd}{e:En}{w:World}(h:Q1B U ru jn q b ns e w)(hu:Reg U U' (4+3*q) (7+3*(q+ns.length))):Q1B U' ru jn q b ns e w:=by obtain⟨nv,hd,hs',lb,m1,m2,m3,m4,m5,m6,m7⟩:=h.ex;exact⟨nv,hd,hs',lb,m1,hu.one b m2,m3.reg hu.one,m4.reg hu,m5,hu.bk m6 (by omega) (by omega) (by omega),m7.reg hu⟩
structure Ch where
 jn:Nat
 ns:List Nd
 e:En
def E0(cs:List Q0A):Ch:=⟨Pi 0 cs,(arr (Fl [] 0 cs) ⟨[],[]⟩ [[]]).1,(arr (Fl [] 0 cs) ⟨[],[]⟩ [[]]).2⟩
theorem Xh(cs:List Q0A):(E0 cs).ns.length=cs.length:=by unfold E0;rw[Cv,F1]
def Q0Y(U:Nat->Nat):Nat->Nat->List Ch->List Nat->World->Prop
 |_,_,[],[],_=>True
 |ru,q,c::cs,b::bs,w=>Q1B U ru c.jn q b c.ns c.e w/\Q0Y U (ru+1) (q+c.ns.length+1) cs bs w
 |_,_,_,_,_=>False
def Cd:Nat->List Ch->Nat
 |q,[]=>q
 |q,c::cs=>Cd (q+c.ns.length+1) cs
theorem J1:∀(cs:List Ch) (q:Nat),q<=Cd q cs
 |[],_=>AX _
 |c::cs,q=>by have:=J1 cs (q+c.ns.length+1);unfold Cd;omega
theorem Pn:∀(cs ds:List Ch) (q:Nat),Cd q (cs++ds)=Cd (Cd q cs) ds
 |[],_,_=>rfl
 |c::cs,ds,q=>Pn cs ds (q+c.ns.length+1)
theorem Q0Y.len{U:Nat->Nat}{w:World}:∀ {cs:List Ch} {bs:List Nat} {ru q:Nat},Q0Y U ru q cs bs w->bs.length=cs.length
 |[],[],_,_,_=>rfl
 |[],_::_,_,_,h=>h.elim
 |_::_,[],_,_,h=>h.elim
 |_::cs,_::bs,_,_,h=>by rw[AP,AP,Q0Y.len h.2]
theorem Q0Y.keep{U U':Nat->Nat}{w w':World}{S:Nat->Prop}(hg:GrS S w w')(ho:∀i,i<w.heap.size->U' i=U i):∀ {cs:List Ch} {bs:List Nat} {ru q:Nat},Q0Y U ru q cs bs w->(∀i,(U i=1\/(4+3*q<=U i/\U i<4+3*Cd q cs))->¬ S i)->Q0Y U' ru q cs bs w'
 |[],[],_,_,_,_=>trivial
 |[],_::_,_,_,h,_=>h.elim
 |_::_,[],_,_,h,_=>h.elim
 |c::cs,b::bs,ru,q,h,hs=>by
  have hq:=J1 cs (q+c.ns.length+1);unfold Cd at hs;refine⟨h.1.keep hg (λi hi=>hs i ?_) ho,Q0Y.keep hg ho h.2 (λi hi=>hs i ?_)⟩
  ·unfold Am at hi;omega
  ·omega
theorem Q0Y.reg{U U':Nat->Nat}{w:World}:∀ {cs:List Ch} {bs:List Nat} {ru q:Nat},Q0Y U ru q cs bs w->Reg U U' (4+3*q) (4+3*Cd q cs)->Q0Y U' ru q cs bs w
 |[],[],_,_,_,_=>trivial
 |[],_::_,_,_,h,_=>h.elim
 |_::_,[],_,_,h,_=>h.elim
 |c::cs,b::bs,ru,q,h,hu=>by
  have hq:=J1 cs (q+c.ns.length+1);unfold Cd at hu;exact⟨h.1.reg (hu.sub (by omega) (by omega)),Q0Y.reg h.2 (hu.sub (by omega) (by omega))⟩
theorem Q0Y.snoc{U:Nat->Nat}{w:World}{c:Ch}{b:Nat}:∀ {cs:List Ch} {bs:List Nat} {ru q:Nat},Q0Y U ru q cs bs w->Q1B U (ru+cs.length) c.jn (Cd q cs) b c.ns c.e w->Q0Y U ru q (cs++[c]) (bs++[b]) w
 |[],[],_,_,_,h=>⟨h,trivial⟩
 |[],_::_,_,_,h,_=>h.elim
 |_::_,[],_,_,h,_=>h.elim
 |d::cs,_::bs,ru,q,h,hc=>⟨h.1,Q0Y.snoc h.2 (by rw[show ru+1+cs.length=ru+(d::cs).length by rw[AP];omega];exact hc)⟩
theorem Q0Y.get{U:Nat->Nat}{w:World}:∀ {cs:List Ch} {bs:List Nat} {ru q j:Nat} {c:Ch},Q0Y U ru q cs bs w->cs[j]?=some c->∃b,bs[j]?=some b/\Q1B U (ru+j) c.jn (Cd q (cs.take j)) b c.ns c.e w
 |[],_,_,_,_,_,_,h=>by simp at h
 |_::_,[],_,_,_,_,h,_=>h.elim
 |d::cs,b::bs,ru,q,0,c,h,hj=>by
  simp only[BW,AE]at hj;subst hj;exact⟨b,rfl,h.1⟩
 |d::cs,b::bs,ru,q,j+1,c,h,hj=>by
  rw[BV]at hj;obtain⟨b',h1,h2⟩:=Q0Y.get h.2 hj;refine⟨b',by rw[BV];exact h1,?_⟩;rw[show ru+(j+1)=ru+1+j by omega,EY];exact h2
theorem Q0Y.set{U U':Nat->Nat}{w w':World}(ho:∀i,i<w.heap.size->U' i=U i):∀ {cs:List Ch} {bs:List Nat} {ru q j b:Nat} {c c':Ch},Q0Y U ru q cs bs w->cs[j]?=some c->bs[j]?=some b->c'.ns.length=c.ns.length->GrS (Am U (Cd q (cs.take j)) c.ns.length) w w'->Q1B U' (ru+j) c'.jn (Cd q (cs.take j)) b c'.ns c'.e w'->Q0Y U' ru q (cs.set j c') bs w'
 |[],_,_,_,_,_,_,_,_,h,_,_,_,_=>by simp at h
 |_::_,[],_,_,_,_,_,_,h,_,_,_,_,_=>h.elim
 |d::cs,b::bs,ru,q,0,b',c,c',h,hj,hb,hl,hg,hc=>by
  simp only[BW,AE]at hj hb;subst hj;subst hb;refine⟨hc,?_⟩;rw[hl];refine Q0Y.keep hg ho h.2 (λi hi hx=>?_);unfold Am at hx;rw[FU]at hx;unfold Cd at hx;omega
 |d::cs,b::bs,ru,q,j+1,b',c,c',h,hj,hb,hl,hg,hc=>by
  rw[BV]at hj hb;rw[EY]at hg hc;refine⟨h.1.keep hg (λi hi hx=>?_) ho,Q0Y.set ho h.2 hj hb hl hg (by rw[show ru+1+j=ru+(j+1) by omega];exact hc)⟩;have hq:=J1 (cs.take j) (q+d.ns.length+1);unfold Am at hi hx;unfold Cd at hx;omega
def P5(b:Nat):List Value:=[.pointer (some ⟨b,0,none⟩)]
theorem S0(b:Nat):(P5 b).length=1:=rfl
theorem Q0h(b:Nat):∀c∈P5 b,c.oneCell'=true:=by intro c hc;simp[P5]at hc;subst hc;rfl
def Q1O(U:Nat->Nat)(b:Nat)(a8:List Ch)(w:World):Prop:=
 ∃cv bs,w.heap[b]?=some (.cells #[cv] 133 (0,0))/\U b=1/\Q0Q U 1 134 1 P5 cv bs w/\Q0Y U 0 0 a8 bs w
structure Q6G(U:Nat->Nat)(lv:Value)(rs:List Q0C)(w:World):Prop where
 ex:∃ao cap,lv=.slice ao rs.length cap/\(rs≠[]->∃g,ao=some ⟨g,0,none⟩/\U g=1/\g<w.heap.size/\∀j r,rs[j]?=some r->∃u,w.cell? ⟨g,j*2,none⟩=some (.string ⟨r.name.toArray⟩)/\w.cell? ⟨g,j*2+1,none⟩=some u/\Q2R U u r.conds w)
theorem PsAt.cell{e:TypeId}{v:Value}{l:List Nat}{w:World}(h:Q0B e 1 P5 0 v l w){k b:Nat}(hk:l[k]?=some b):∃g cap,v=.slice (some ⟨g,0,none⟩) l.length cap/\w.cell? ⟨g,k,none⟩=some (.pointer (some ⟨b,0,none⟩)):=by obtain⟨g,cap,h1,h2⟩:=h.cells hk;have:=h2 0 (by omega);rw[FN,EI]at this;exact⟨g,cap,h1,this⟩
def Hh(f:Ft)(c:Ch):Ch:=⟨c.jn,(De f c.ns.length c.ns c.e).1,(De f c.ns.length c.ns c.e).2⟩
theorem L2(f:Ft):∀(k:Nat) (ns:List Nd) (e:En),(De f k ns e).1.length=ns.length
 |0,_,_=>rfl
 |_+1,[],_=>rfl
 |k+1,n::ns,e=>by
  show (De f k _ _).1.length+1=_
  rw[L2 f k,Eu,AP]
structure Q4N(c:Ch):Prop where
 wf:WF [] c.ns
 en:Q1F [] c.ns c.e
 bd:Bd 16 1 c.ns c.e
 few:c.ns.length<=4
def F8(f:Ft)(j:Nat)(a8:List Ch):List Ch:=(a8.take j).map (Hh f)++a8.drop j
theorem L6{a8:List Ch}{c:Ch}(h:a8[j]?=some c):(F8 f j a8)[j]?=some c:=by have hl:=(AK.1 h).1;unfold F8;rw[DZ (by simp;omega)];simp[Nat.min_eq_left (Nat.le_of_lt hl),h]
theorem Qp{a8:List Ch}{c:Ch}(h:a8[j]?=some c):F8 f (j+1) a8=(F8 f j a8).set j (Hh f c):=by
 have hl:=(AK.1 h).1;have hd:a8.drop j=c::a8.drop (j+1):=by rw[CO hl,(AK.1 h).2]
 unfold F8;rw[IB _ _ (by simp;omega),CX,h,hd];simp[Nat.min_eq_left (Nat.le_of_lt hl)]
theorem Q35(U:Nat->Nat)(b:Nat)(a8:List Ch)(f:Ft)(w:World)(hN:Q1O U b a8 w)(aI:∀c∈a8,Q4N c)(hf:Q0J U f w):Calls prog 41 #[.pointer (some ⟨b,0,none⟩),Ei f] w λe w'=>e=.returned (.tuple #[])/\∃U',Q1O U' b (a8.map (Hh f)) w'/\GrS (λi=>4<=U i) w w'/\Q0J U' f w'/\∀i,i<w.heap.size->U' i=U i:=by
 obtain⟨cv,bs,h1,h2,h3,h4⟩:=hN;obtain⟨ao,cap,rfl⟩:=h3.1.slice;have dE:=h3.1.le;unfold maxLen at dE;have sV:=h4.len;have c0:w.cell? ⟨b,0,none⟩=some (.slice ao bs.length cap):=by simp[World.cell?,h1]
 have HI:=Ac (show ∃U',w.heap[b]?=some (.cells #[.slice ao bs.length cap] 133 (0,0))/\U' b=1/\Q0Q U' 1 134 1 P5 (.slice ao bs.length cap) bs w/\Q0Y U' 0 0 (F8 f 0 a8) bs w/\GrS (λi=>4<=U i) w w/\Q0J U' f w/\∀i,i<w.heap.size->U' i=U i from⟨U,h1,h2,h3,by simpa[F8]using h4,GrS.refl _ _,hf,λ_ _=>rfl⟩);have fj:=Ac aI;have iQ:=Ac sV;clear h1 h2 h3 h4 hf aI sV;unfold Ei;go_enter func41,ntmps41;go_wp2;clear c0;go_loopw [11] (λx w'=>∃j:Nat,j<=bs.length/\x=.int .i64 j/\Hid (∃U',w'.heap[b]?=some (.cells #[.slice ao bs.length cap] 133 (0,0))/\U' b=1/\Q0Q U' 1 134 1 P5 (.slice ao bs.length cap) bs w'/\Q0Y U' 0 0 (F8 f j a8) bs w'/\GrS (λi=>4<=U i) w w'/\Q0J U' f w'/\∀i,i<w.heap.size->U' i=U i)) (λx _=>bs.length-(intOf x).toNat);case atStart=>exact⟨0,AG _,rfl,HI⟩
 case round=>clear HI;obtain⟨j,hj,rfl,HK⟩:=hrel;obtain⟨Ux,x1,x2,x3,x4,x5,x6,x7⟩:=Aa HK;clear HK;by_cases hlt:j<bs.length;{(have hd:decide (j<bs.length)=true:=by simpa using hlt);(have hlc:j<a8.length:=by rw[<-Aa iQ];exact hlt);(obtain⟨c,hc⟩:∃c,a8[j]?=some c:=⟨_,AB hlc⟩);obtain⟨bj,uC,hch⟩:=x4.get (L6 (f:=f) hc);obtain⟨g,cap',e1,c1⟩:=PsAt.cell x3.1 uC;simp only[AH,BP]at e1;obtain⟨rfl,rfl⟩:=e1;have aY:=Aa fj c (AW hc);rw[BU]at hch;have hA:=Q3s j c.jn Ux _ bj c.ns c.e f wr hch aY.wf aY.en aY.bd aY.few x6;(have iN:Calls prog 69 #[.pointer (some ⟨bj,0,none⟩),.pointer (some ⟨f.blk,0,none⟩)] wr λe' w'=>e'=.returned (.tuple #[])/\Hid (∃U',w'.heap[b]?=some (.cells #[.slice (some ⟨g,0,none⟩) bs.length cap] 133 (0,0))/\U' b=1/\Q0Q U' 1 134 1 P5 (.slice (some ⟨g,0,none⟩) bs.length cap) bs w'/\Q0Y U' 0 0 (F8 f (j+1) a8) bs w'/\GrS (λi=>4<=U i) w w'/\Q0J U' f w'/\∀i,i<w.heap.size->U' i=U i):=by(refine hA.mono ?_;rintro e' w'⟨rfl,U',k1,k2,k3⟩;have dM:∀i,Ux i=1->¬ Am Ux (Cd 0 ((F8 f j a8).take j)) c.ns.length i:=λi hi hx=>by unfold Am at hx;omega);refine⟨rfl,Ac ⟨U',k2.blk x1 (dM b x2),by rw[k3 b (Ad x1)];exact x2,x3.keep2 k2 dM (λi hi e=>by rw[k3 i hi];exact e),?_,?_,x6.keep k2 dM (λi hi e=>by rw[k3 i hi];exact e),λi hi=>by rw[k3 i (AV hi x5.size),x7 i hi]⟩⟩;{rw[Qp hc];refine Q0Y.set k3 x4 (L6 hc) uC (L2 f _ _ _) k2 ?_;rw[BU];exact k1};{refine x5.comp k2 (λi hi hn hx=>hn ?_);rw[<-x7 i hi];unfold Am at hx;omega});clear hA hch x1 x2 x3 x4 x5 x6 x7 aY;go_wp2_with (go_at_call 69;refine iN.mono ?_;rintro e' w2⟨rfl,hK2⟩);go_roundw;(case rel=>exact⟨j+1,by omega,by go_num,hK2⟩);case measure=>simp[intOf];omega};{(have hd:decide (j<bs.length)=false:=by simpa using hlt);(have e:F8 f j a8=a8.map (Hh f):=by unfold F8;rw[BX (by have:=Aa iQ;omega),JB (by have:=Aa iQ;omega),BM]);rw[e]at x4;have HF:=Ac (show ∃U',Q1O U' b (a8.map (Hh f)) wr/\GrS (λi=>4<=U i) w wr/\Q0J U' f wr/\∀i,i<w.heap.size->U' i=U i from⟨Ux,⟨_,bs,x1,x2,x3,x4⟩,x5,x6,x7⟩);clear x1 x2 x3 x4 x5 x6 x7 e;go_wp2;go_end0;exact⟨rfl,Aa HF⟩}
theorem S7(h:v.oneCell'=true):∀c∈venc v,c.oneCell'=true:=by intro c hc;simp[venc]at hc;subst hc;exact h
theorem Q3U:(prog.info? 150).map (λi=>(i.zero,i.size,i.bytes))=some (some .nilIface,1,16):=by kernel_rfl
def M0(m:Nat):Prop:=∀(U:Nat->Nat) (ru q k bc lb:Nat) (fst av cv:Value) (ss:List Site) (cs:List Q0A) (w:World),cs.length=m->Q1X U ru q k bc lb fst av cv ss cs w->
 Calls prog 100 #[.pointer (some ⟨bc,0,none⟩),cv,av] w λe w'=>∃hd,e=.returned hd/\Q1G U ru q k bc lb fst ss cs w w' hd
theorem Q1G.head{U:Nat->Nat}{ru q k bc lb:Nat}{fst:Value}{ss:List Site}{cs:List Q0A}{w w':World}{hd:Value}(h:Q1G U ru q k bc lb fst ss cs w w' hd):∃ty b,hd=.iface ty (.pointer (some ⟨b,0,none⟩)):=by obtain⟨U',nv,hs,p1,p2,p3,p4,p5,p6,_⟩:=h;rcases p6.head with ⟨b,h,_⟩|⟨b,_,_,h,_⟩|⟨b,_,_,h,_⟩;all_goals exact⟨_,b,h⟩
theorem Q1G.cells1{ss:List Site}(h:Q1G U ru q k bc lb fst ss cs w w' hd)(hi:w.heap[i]?=some o)(hu:U i=1)(hl:i≠lb):w'.heap[i]?=some o:=by obtain⟨U',nv,hs,p1,p2,p3,p4,p5,p6,p7,_⟩:=h;exact p7.blk hi (by omega)
theorem Nw:∀(cs:List Q0A) (ss:List Site) (k:Nat),Inv [] (Fl ss k cs) ⟨[],[]⟩
 |[],_,_=>DX _
 |c::cs,ss,k=>by unfold Fl;exact⟨DX _,Nw cs _ _⟩
theorem Q2p(h:cs.length<=4):WF [] (Fl [] 0 cs):=
 (Good.wf (A:=[]) (B:=[]) (Id cs [] 0) (λs hs=>by simp at hs) (by simp) (Nw cs [] 0) (by simpa using h)).1
theorem Ui(h:cs.length<=4):Small 1000000000 (arr (Fl [] 0 cs) ⟨[],[]⟩ [[]]).1 (arr (Fl [] 0 cs) ⟨[],[]⟩ [[]]).2:=by
 have hb:Bd 0 0 (Fl [] 0 cs) ⟨[],[]⟩:=Good.bd (F:=[]) (by simp) (by omega) (Id cs [] 0) (Nw cs [] 0) (by simp) (by simp);have hl:(arr (Fl [] 0 cs) ⟨[],[]⟩ [[]]).1.length=cs.length:=by rw[Cv,F1]
 refine(hb.arr (by omega) (ts:=[[]]) (t:=1) (by simp)).small (by rw[hl];exact h) ?_;rw[hl];have:=DR (show 0<20 by omega) h;omega
theorem Q0v:B1 []=.agg #[.pointer none,.pointer none,.pointer none,.pointer none]:=by rfl
def Yy(U:Nat->Nat)(w:World)(c:Nat):Nat->Nat:=λi=>if i<w.heap.size then U i else if i=w.heap.size+1 then c else if i=w.heap.size+2 then 2 else 1
theorem Q3r{w0:World}(hU:∀i,i<w.heap.size->U i<2\/4<=U i/\U i<4+3*q)(hC:Q2R U cv cs w)(dL:∀c∈cs,c.terms.length<=4)(hl:cs.length<=4)(hg:w.grownBy w0 none) (h1:w0.heap[w.heap.size+1]?=some (.cells #[.slice none 0 0,.slice none 0 0,.int .i64 ru,.int .i64 0] 147 (0,0)))(h2:w0.heap[w.heap.size+2]?=some (.cells #[.slice none 0 0,.nilIface,.pointer (some ⟨w.heap.size+1,0,none⟩)] 152 (0,0))):Q1X (Yy U w (4+3*(q+cs.length))) ru q 0 (w.heap.size+2) (w.heap.size+1) .nilIface (.slice none 0 0) cv [] cs w0:=by
 have hG:GrS (λ_:Nat=>False) w w0:=GrS.of hg (by simp);have ho:∀i,i<w.heap.size->Yy U w (4+3*(q+cs.length)) i=U i:=λi hi=>by unfold Yy;rw[AQ hi]
 refine⟨h2,h1,?_,?_,λi hi hne=>?_,⟨Q0B.nil 0 _ S2,by simp[Value.ownBlock]⟩,hC.keep hG (by simp) (λi hi e=>by rw[ho i hi];exact e),dL,by omega,by simp;omega⟩;{unfold Yy;rw[AO (by omega),AO (by omega),AQ rfl]};{unfold Yy;rw[AO (by omega),AQ rfl]};{by_cases hw:i<w.heap.size;{rw[ho i hw];have:=hU i hw;omega};{unfold Yy;rw[AO hw,AO hne];split<;>omega}}
theorem Ul(buildOK:∀m,M0 m)(U:Nat->Nat)(ru q:Nat)(nm:ByteArray)(cv:Value)(cs:List Q0A)(w:World)(hU:∀i,i<w.heap.size->U i<2\/4<=U i/\U i<4+3*q)(hC:Q2R U cv cs w)(dL:∀c∈cs,c.terms.length<=4)(hl:cs.length<=4):Calls prog 68 #[.int .i64 ru,.agg #[.string nm,cv]] w λe w'=>∃b,e=.returned (.pointer (some ⟨b,0,none⟩))/\w.heap.size<=b/\Fm U ru q b cs w w':=by
 obtain⟨ao,cap,hcv,_⟩:=hC.ex;subst hcv;obtain⟨m,hm⟩:∃m,cs.length=m:=⟨_,rfl⟩
 have hg0:=Ab (Dq w (.cells #[.string nm,.slice ao m cap] 128) (.cells #[.slice none 0 0,.slice none 0 0,.int .i64 ru,.int .i64 0] 147)) (AA _ (.cells #[.slice none 0 0,.nilIface,.pointer (some ⟨w.heap.size+1,0,none⟩)] 152) none);obtain⟨w0,hw0⟩:∃w0,w0=((w.alloc (.cells #[.string nm,.slice ao m cap] 128)).alloc (.cells #[.slice none 0 0,.slice none 0 0,.int .i64 ru,.int .i64 0] 147)).alloc (.cells #[.slice none 0 0,.nilIface,.pointer (some ⟨w.heap.size+1,0,none⟩)] 152):=⟨_,rfl⟩
 rw[<-hw0]at hg0;have hs0:w0.heap.size=w.heap.size+3:=by rw[hw0];simp
 have hb1:w0.heap[w.heap.size+1]?=some (.cells #[.slice none 0 0,.slice none 0 0,.int .i64 ru,.int .i64 0] 147 (0,0)):=by rw[hw0];refine L9 (Hy ?_);simp
 have hb2:w0.heap[w.heap.size+2]?=some (.cells #[.slice none 0 0,.nilIface,.pointer (some ⟨w.heap.size+1,0,none⟩)] 152 (0,0)):=by rw[hw0];refine Hy ?_;simp
 have hB:=buildOK m _ _ _ _ _ _ _ _ _ _ _ _ hm (Q3r (ru:=ru) hU hC dL hl hg0 hb1 hb2);rw[hm];have hB2:Calls prog 100 #[.pointer (some ⟨w.heap.size+2,0,none⟩),.slice ao m cap,.slice none 0 0] w0 λe w3=>∃ty fn b,e=.returned (.iface ty (.pointer (some ⟨b,0,none⟩)))/\ArrFn ty fn/\(w3.cell? ⟨w.heap.size+2,1,none⟩=some .nilIface/\w3.frozen? ⟨w.heap.size+2,1,none⟩=false)/\Calls prog fn #[.pointer (some ⟨b,0,none⟩),.agg #[.pointer none,.pointer none,.pointer none,.pointer none]] (w3.setCell ⟨w.heap.size+2,1,none⟩ (.iface ty (.pointer (some ⟨b,0,none⟩)))) λe' w5=>e'=.returned (.tuple #[])/\Fm U ru q (w.heap.size+2) cs w w5:=by rw[hm]at hB;refine hB.mono ?_;rintro e w3⟨hd,rfl,hP⟩;obtain⟨ty,b,rfl⟩:=hP.head;obtain⟨Ua,hM⟩:=Zk hP hg0 (U:=U) (λi hi=>by unfold Yy;rw[AQ hi]) hU (λi hi hlt hne=>by unfold Yy;rw[AO (by omega),AO hne];split<;>omega) (by omega) (by omega) (by unfold Yy;rw[AO (by omega),AO (by omega),AQ rfl]) (by omega) (by omega) (by unfold Yy;rw[AO (by omega),AQ rfl,hm]);(obtain⟨fn,hfn⟩:∃fn,ArrFn ty fn:=by obtain⟨_,_,_,_,_,_,_,_,_,h7,_⟩:=hM;rcases h7.head with ⟨_,h,_⟩|⟨_,_,_,h,_⟩|⟨_,_,_,h,_⟩;(all_goals simp only[DO]at h;rw[h.1]);{exact⟨_,.inl ⟨rfl,rfl⟩⟩};{exact⟨_,.inr (.inl ⟨rfl,rfl⟩)⟩};{exact⟨_,.inr (.inr ⟨rfl,rfl⟩)⟩});refine⟨ty,fn,b,rfl,hfn,?_,?_⟩;{obtain⟨U',nv,hs,p1,_⟩:=hP;exact⟨by simp[World.cell?,p1],by simp[World.frozen?,p1]⟩};{have hM':=hM;obtain⟨_,_,_,_,_,_,_,_,_,h7,_⟩:=hM';have hA:=Vr ru (Pi 0 cs) (Fl [] 0 cs).length (Fl [] 0 cs) [] q b ty fn Ua ⟨[],[]⟩ [] _ rfl hfn h7 (Q2p hl) rfl (by simp) (by simp) (Ui hl);rw[Q0v]at hA;refine hA.mono ?_;rintro e w5⟨rfl,hp⟩;exact⟨rfl,Zj hU hM hp⟩}
 have mL:=Q2H;have mJ:=Q2G;have mH:=Q2F;have hc0:w0.cell? ⟨w.heap.size,1,none⟩=some (.slice ao m cap):=by rw[hw0];have:(((w.alloc (.cells #[.string nm,.slice ao m cap] 128)).alloc (.cells #[.slice none 0 0,.slice none 0 0,.int .i64 ru,.int .i64 0] 147)).alloc (.cells #[.slice none 0 0,.nilIface,.pointer (some ⟨w.heap.size+1,0,none⟩)] 152)).heap[w.heap.size]?=some (.cells #[.string nm,.slice ao m cap] 128 (0,0)):=L9 (L9 (Hy rfl));simp[World.cell?,this]
 have HW0:=Ac hw0;clear hB hb1 hb2 hU hC dL hg0 hm;go_enter func68,ntmps68;rw[show w.heap.size+2=w.heap.size+1+1 from rfl]at hB2;go_wp2_with fail;rw[<-Aa HW0];refine hB2.mono ?_;rintro e w3⟨ty,fn,b,rfl,hfn,⟨y1,yf⟩,hA⟩;have y2:(w3.setCell ⟨w.heap.size+1+1,1,none⟩ (.iface ty (.pointer (some ⟨b,0,none⟩)))).cell? ⟨w.heap.size+1+1,1,none⟩=some (.iface ty (.pointer (some ⟨b,0,none⟩))):=World.cell?_setCell_same' _ _ _ (by rw[y1];rfl);clear hB2 hw0 hc0 HW0 hs0;rcases hfn with ⟨rfl,rfl⟩|⟨rfl,rfl⟩|⟨rfl,rfl⟩;{go_wp2_with (go_at_call 240;refine hA.mono ?_;rintro e w5⟨rfl,hC⟩);go_ret;exact⟨_,rfl,by omega,hC⟩};{go_wp2_with (go_at_call 257;refine hA.mono ?_;rintro e w5⟨rfl,hC⟩);go_ret;exact⟨_,rfl,by omega,hC⟩};{go_wp2_with (go_at_call 255;refine hA.mono ?_;rintro e w5⟨rfl,hC⟩);go_ret;exact⟨_,rfl,by omega,hC⟩}
end Go.Proofs.YtolhbeekfjnfmaaGreatDoor

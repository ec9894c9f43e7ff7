import Derived.Test.YtolhbeekfjnfmaaGreatDoorM46
set_option maxHeartbeats 8000000
set_option maxRecDepth 100000
namespace Go.Proofs.YtolhbeekfjnfmaaGreatDoor
open Go.RowKit
variable {U:Nat->Nat}{f:Ft}{w:World}{q k b j:Nat}{n:Nd}{nx tv lv ov fv:Value}{t:Tok}{ns:List Nd}
theorem FtAt.isBlk(h:FtAt U f w):Um f.blk w:=by
 obtain⟨_,_,v,hb,_⟩:=h;exact⟨_,_,hb⟩
def F0(l:List Ft):Prop:=l.Pairwise (fun g h=>g.blk≠h.blk)
theorem O5{b:Nat}:∀ {l:List Ft},(∀g∈l,g.blk≠b)->l.filter (fun g=>!(g.blk==b))=l
 | l,h=>GY.2 (fun g hg=>by simp[h g hg])
theorem L8(b:Nat):∀(l:List Ft) (k:Nat),F0 l->l.any (fun g=>g.blk==b)=true->∃i,i<l.length/\Le (fun g=>g.blk==b) k l=((k+i:Nat):Int)/\l.eraseIdx i=l.filter (fun g=>!(g.blk==b))
 | [],_,_,h=>by simp at h
 | f::l,k,ho,h=>by
  unfold Le;by_cases hf:f.blk=b
  ·refine⟨0,by simp,by rw[AQ (by simpa using hf)];simp,?_⟩
   rw[List.eraseIdx_zero,List.tail_cons,KN (by simp[hf])];exact(O5 (fun g hg=>by have:=(DX.1 ho).1 g hg;omega)).symm
  ·rw[GH,show (f.blk==b)=false by simpa using hf,EM] at h
   obtain⟨i,h1,h2,h3⟩:=L8 b l (k+1) (DX.1 ho).2 h;refine⟨i+1,by simpa using h1,?_,?_⟩
   ·rw[AO (by simpa using hf),h2]
    congr 1
    omega
   ·rw[KM,h3,KO (by simpa using hf)]
theorem L5(U:Nat->Nat)(b:Nat)(v:Value)(cs:Array Value)(ty:TypeId)(K:List Ft)(f:Ft)(w:World)(hb:w.heap[b]?=some (.cells cs ty (0,0)))(ho:cs[4]?=some v)(hr:FsAt v K w)(hK:∀g∈K,FtAt U g w)(hf:FtAt U f w)(hn:K.any (fun g=>g.blk==f.blk)=false) :
  Calls Tryz.prog 107 #[.pointer (some ⟨b,0,none⟩),Ee f] w fun e w'=>e=.returned (.bool false)/\w'=w:=by
 obtain⟨ao,cap,rfl⟩:=hr.slice;have hI:=Xp f.blk ao _ cap w hf.isBlk (hr.ptrs (fun g hg=>(hK g hg).isBlk));rw[Nk,BA] at hI
 have aJ:Le (fun g=>g.blk==f.blk) 0 K<0:=by
  have:=Jm (fun g=>g.blk==f.blk) K 0;rw[hn] at this;have:=of_decide_eq_false this;omega
 have b0:w.cell? ⟨b,4,none⟩=some (.slice ao K.length cap):=by simp[World.cell?,hb];simpa using ho
 obtain⟨R,hR⟩:∃R,Le (fun g=>g.blk==f.blk) 0 K=R:=⟨_,rfl⟩
 rw[hR] at hI aJ;unfold Ee;clear hR hr hK hf hn hb ho;go_enter Tryz.func107,Tryz.ntmps107;go_wp2_with fail;refine hI.mono ?_;rintro e w1⟨rfl,hw⟩;subst w1;go_wp2;go_ret;exact⟨rfl,rfl⟩
def Ju(b:Nat)(v:Value)(cs:Array Value)(ty:TypeId)(K:List Ft)(f:Ft)(w w':World):Prop:=
 ∃v',w'.heap[b]?=some (.cells (cs.setIfInBounds 4 v') ty (0,0))/\FsAt v' (K.filter (fun g=>!(g.blk==f.blk))) w'/\GrS (fun k=>k=b\/v.ownBlock=some k) w w'/\∀g,v'.ownBlock=some g->v.ownBlock=some g
theorem Kx(U:Nat->Nat)(b:Nat)(v:Value)(cs:Array Value)(ty:TypeId)(K:List Ft)(f:Ft)(w:World)(hb:w.heap[b]?=some (.cells cs ty (0,0)))(ho:cs[4]?=some v)(hr:FsAt v K w)(hne:v.ownBlock≠some b)(hK:∀g∈K,FtAt U g w)(hf:FtAt U f w)(h1:F0 K)(hn:K.any (fun g=>g.blk==f.blk)=true) :
  Calls Tryz.prog 107 #[.pointer (some ⟨b,0,none⟩),Ee f] w fun e w'=>e=.returned (.bool true)/\Ju b v cs ty K f w w':=by
 obtain⟨ao,cap,rfl⟩:=hr.slice;have hI:=Xp f.blk ao _ cap w hf.isBlk (hr.ptrs (fun g hg=>(hK g hg).isBlk));rw[Nk,BA] at hI;obtain⟨i,hi,hix,pz⟩:=L8 f.blk K 0 h1 hn;rw[hix,BV] at hI;obtain⟨g0,hg0⟩:∃g,K[i]?=some g:=⟨_,AB hi⟩
 obtain⟨gb,cap',e1,_⟩:=hr.cell hg0;simp only[AH,BP] at e1;obtain⟨rfl,rfl⟩:=e1;have hD:=Q08 gb cap K i w hr hi;rw[pz] at hD;have cj:=hr.le;unfold maxLen at cj;have b0:w.cell? ⟨b,4,none⟩=some (.slice (some ⟨gb,0,none⟩) K.length cap):=by simp[World.cell?,hb];simpa using ho
 have hgb:gb≠b:=fun e=>hne (by simp[Value.ownBlock,e])
 have aJ:decide ((i:Int)<0)=false:=by simp
 unfold Ee;have HB:=Ac hb;clear hix pz hg0 hr hK hf hn h1 hb ho hne;go_enter Tryz.func107,Tryz.ntmps107;go_wp2_with fail;refine hI.mono ?_;rintro e w1⟨rfl,hw⟩;subst w1;go_wp2_with fail;refine hD.mono ?_;rintro e w2⟨rfl,hg2,hr2⟩;have hb2:w2.heap[b]?=some (.cells cs ty (0,0)):=by rw[hg2.block b (Ad (Aa HB)) (by simp;omega)];exact Aa HB
 have z2:w2.frozen? ⟨b,4,none⟩=false:=by simp[World.frozen?,hb2]
 have b2:w2.cell? ⟨b,4,none⟩=some (.slice (some ⟨gb,0,none⟩) K.length cap):=hg2.cell b0 (by simp;omega);have fQ:=Ac hb2;have cD:=Ac hr2;have sX:=Ac hg2;clear hb2 hr2 hg2;go_wp2;go_ret;have aZ:=Aj w2 b 4 (.slice (some ⟨gb,0,none⟩) (K.length-1) cap);refine⟨rfl,_,by rw[BB w2 b 4 _ _ _ (Aa fQ)],(Aa cD).other aZ (fun g hg e=>?_),?_,fun g hg=>hg⟩
 ·simp only[Value.ownBlock,AE] at hg e
  omega
 ·exact(GrS.of (Aa sX) (fun g ar=>.inr (by simpa[Value.ownBlock] using ar))).then aZ (fun g ar=>by simp at ar;exact .inr (.inl ar.symm))
theorem Kw{w1:World}(h:NodeAt U q k b n nx tv lv ov fv w)(hk:Ju b fv (Bb n k tv lv ov fv nx) (Lj n.c.neg) n.K f w w1) :
  ∃af,NodeAt U q k b (n.less f) nx tv lv ov af w1/\GrS (fun i=>U i=4+3*q\/U i=6+3*q) w w1:=by
 obtain⟨af,k1,k2,k3,k4⟩:=hk;rw[I5 (n:=n) (n':=n.less f) rfl] at k1
 have hsm:∀i,(i=b\/fv.ownBlock=some i)->U i=4+3*q\/U i=6+3*q:=by
  rintro i (rfl|hx)
  ·exact .inl h.own
  ·exact .inr (h.facts.2 i hx)
 have hs:∀i,U i=1\/U i=5+3*q->¬ (i=b\/fv.ownBlock=some i):=fun i hi hx=>by have:=hsm i hx;omega
 have ho:∀c i,i<w.heap.size->U i=c->U i=c:=fun c i hi hx=>hx
 have hF:∀g,FtAt U g w->FtAt U g w1:=fun g hg=>hg.keep k3 (fun i hi=>hs i (.inl hi)) (ho 1)
 exact⟨af,⟨k1,h.own,h.terms.keep2 k3 (fun i hi=>hs i (.inl hi)) (ho 1),h.links.keep2 k3 (fun i hi=>hs i (.inl hi)) (ho 1),h.toks.keep2 k3 (fun i hi=>hs i (.inr hi)) (ho _),⟨k2,fun g hg=>h.facts.2 g (k4 g hg)⟩,fun g hg=>hF g (h.fts g (BH.1 hg).1),fun t ht g hg=>hF g (h.tfs t ht g hg),h.short,h.low⟩,k3.mono hsm⟩
theorem Az{cs:Array Value}{ty:TypeId}{v:Value}(h:w.heap[b]?=some (.cells cs ty (0,0)))(hk:cs[k]?=some v):w.cell? ⟨b,k,none⟩=some v:=by
 simp[World.cell?,h];simpa using hk
def E9(n:Nd)(f:Ft)(j:Nat):List Tok:=(n.toks.take j).filter (fun t=>Ck n.links t f.f && !(n.less f).K.any (fun g=>Ck n.links t g.f))
theorem Xj(h:n.toks[j]?=some t):E9 n f (j+1)=E9 n f j++(if (Ck n.links t f.f && !(n.less f).K.any (fun g=>Ck n.links t g.f))=true then [t] else []):=by
 unfold E9;exact Cr _ h
theorem Z4(n:Nd)(f:Ft)(j:Nat):∃Y,E9 n f n.toks.length=E9 n f j++Y:=by
 refine⟨(n.toks.drop j).filter (fun t=>Ck n.links t f.f && !(n.less f).K.any (fun g=>Ck n.links t g.f)),?_⟩;unfold E9;rw[CV,<-DI,DO]
theorem Q2f{A:List Nat}(h:WF A (n::ns))(j:Nat):∀u∈E9 n f j,HasAr A u:=by
 intro u hu;exact h.2.2.2.1 u (EH (BH.1 hu).1)
def Uk(U:Nat->Nat)(ru jn q k:Nat)(n:Nd)(ns:List Nd)(e:En)(hd:Value)(f:Ft)(w w':World):Prop:=
 ∃U',SufAt U' ru jn q k ((Aw f n ns e).1::(Aw f n ns e).2.1) (Aw f n ns e).2.2 hd w'/\GrS (fun i=>4+3*q<=U i/\U i<7+3*(q+ns.length+1)) w w'/\∀i,i<w.heap.size->U' i=U i
theorem Q2e{Ux:Nat->Nat}{ru jn k':Nat}{n1:Nd}{e:En}{wr wx w5:World}(x1:NodeAt Ux q k b n1 nx tv lv ov fv wr)(x5:FtAt Ux f wr)(hlen:(arr ns e (E9 n f j)).1.length=ns.length)
 (x3:GrS (fun i=>4+3*q<=U i/\U i<7+3*(q+ns.length+1)) w wr)(x4:∀i,i<w.heap.size->Ux i=U i)(hg:wr.grownBy wx none)(hP:Dn Ux ru jn (q+1) k' (arr ns e (E9 n f j)).1 (arr ns e (E9 n f j)).2 nx [t] wx w5)(hX:E9 n f (j+1)=E9 n f j++[t]) :
  ∃Uy,NodeAt Uy q k b n1 nx tv lv ov fv w5/\SufAt Uy ru jn (q+1) k' (arr ns e (E9 n f (j+1))).1 (arr ns e (E9 n f (j+1))).2 nx w5/\GrS (fun i=>4+3*q<=U i/\U i<7+3*(q+ns.length+1)) w w5/\(∀i,i<w.heap.size->Uy i=U i)/\FtAt Uy f w5:=by
 have sI:=hP;obtain⟨Uz,_,z2,z3⟩:=sI;obtain⟨Uy,y1,y2,y3,y4,y5⟩:=Mm (U:=U) x1 (by rw[hlen];exact x3) x4 hg hP;rw[hlen] at y3;refine⟨Uy,y1,?_,y3,y4,x5.keep ((GrS.of hg (by simp)).trans z2) (fun i hi hc=>by unfold Am at hc;omega) (fun i hi hx=>by rw[y5 i hi];exact hx)⟩;rw[hX];unfold arr at y2⊢;rw[Cx];exact y2
theorem Xk(ru jn:Nat)(U:Nat->Nat)(A:List Nat)(q b:Nat)(n:Nd)(ns:List Nd)(e:En)(f:Ft)(w:World)(aJ:n.c.neg=true)(h:SufAt U ru jn q A.length (n::ns) e (.iface 209 (.pointer (some ⟨b,0,none⟩))) w)(hW:WF A (n::ns))(hf:FtAt U f w)(he:∀x∈e.wait,x.length<=4)(bg:F0 n.K)(ie:∀g∈n.K,g.blk=f.blk->g.f=f.f)
 (hS:Small 1000000000 (Aw f n ns e).2.1 (Aw f n ns e).2.2) :
  Calls Tryz.prog 108 #[.pointer (some ⟨b,0,none⟩),Ee f] w fun e' w'=>e'=.returned (.tuple #[])/\Uk U ru jn q A.length n ns e (.iface 209 (.pointer (some ⟨b,0,none⟩))) f w w':=by
 have h0:=h;obtain⟨b',nx,tv,lv,ov,fv,h1,h2,h3⟩:=h;simp only[DK,DC,AE,BK,BX] at h1;obtain⟨iI,rfl⟩:=h1;clear iI;have bh:fv.ownBlock≠some b:=fun hx=>by have:=h2.facts.2 b hx;have:=h2.own;omega
 by_cases fL:n.K.any (fun g=>g.blk==f.blk)=true
 ·have iy:=Kx U b fv (Bb n A.length tv lv ov fv nx) (Lj n.c.neg) n.K f w h2.blk Ci.2.1 h2.facts.1 bh h2.fts hf bg fL
  have hadd:Aw f n ns e=(n.less f,arr ns e (E9 n f n.toks.length)):=by
   unfold Aw E9;rw[AQ fL,AQ aJ,CV]
  rw[hadd] at hS
  have br:f.f.vals.length=n.c.terms.length:=by
   obtain⟨g,hg,hgb⟩:=EB.1 fL;rw[<-ie g hg (by simpa using hgb)];exact hW.2.2.1 g hg
  have gj:=hW.2.2.2.2;rw[AQ aJ] at gj h3;have ag:=fun t (ht:t∈n.toks)=>hW.fit (hW.2.2.2.1 t ht) (f:=f) br
  have tX:=fun t (ht:t∈n.toks) (g:Ft) (hg:g∈n.K)=>hW.fit (hW.2.2.2.1 t ht) (f:=g) (hW.2.2.1 g hg)
  have kI:=fun t (ht:t∈n.toks)=>(hW.2.2.2.1 t ht).len
  have uD:=fun j=>Q2f (f:=f) hW j
  have uS:A.length<=4:=hW.le;have VC:=h2.toks.1.le;unfold maxLen at VC;obtain⟨ta,uh,ry⟩:=h2.toks.1.slice;have HH:=Ac h2;have H3:=Ac h3;have HE:=Ac he;have xI:=Ac hf;have iE:=Ac hadd;have NP:=Ac ry;have HW:=Ac (show WF A ns/\Small 1000000000 (arr ns e (E9 n f n.toks.length)).1 (arr ns e (E9 n f n.toks.length)).2/\(∀j,∀u∈E9 n f j,HasAr A u)/\(∀t∈n.toks,t.length=A.length) from⟨gj,hS,uD,kI⟩);have eD:=Ac (show (∀t∈n.toks,_)/\(∀t∈n.toks,∀g∈n.K,_) from⟨ag,tX⟩);have hKf:(n.less f).K=n.K.filter (fun g=>!(g.blk==f.blk)):=rfl;clear h0 h2 he hW hS gj ag tX uD kI hadd hf br fL ry bg ie;have ik:=h3.head;clear h3;have mL:=Tryz.mArrL;have mJ:=Tryz.mArrJ;have mH:=Tryz.mArrH
  obtain⟨ty2,fP,b2,rfl,eu⟩:∃ty2 fP b2,nx=.iface ty2 (.pointer (some ⟨b2,0,none⟩))/\ArrFn ty2 fP:=by
   rcases ik with ⟨b2,rfl,_⟩|⟨b2,n2,lJ,rfl,_⟩|⟨b2,n2,lJ,rfl,_⟩
   ·exact⟨_,_,b2,rfl,.inl ⟨rfl,rfl⟩⟩
   ·exact⟨_,_,b2,rfl,.inr (.inl ⟨rfl,rfl⟩)⟩
   ·exact⟨_,_,b2,rfl,.inr (.inr ⟨rfl,rfl⟩)⟩
  clear ik;unfold Ee at iy⊢;go_enter Tryz.func108,Tryz.ntmps108;go_wp2_with fail;refine iy.mono ?_;rintro e1 wc⟨rfl,dM⟩;have hh:=Aa HH;obtain⟨af,b9,ae⟩:=Kw hh dM;have cu:SufAt U ru jn (q+1) A.length ns e (.iface ty2 (.pointer (some ⟨b2,0,none⟩))) wc:=(Aa H3).keep ae (fun i hi hx=>by omega) (fun i hi _=>rfl);have c3:=b9.cell 3 (by omega);have hc3:wc.cell? ⟨b,3,none⟩=some (.slice ta n.toks.length uh):=by rw[c3];simp[Aa NP]
  have eR:FtAt U f wc:=(Aa xI).keep ae (fun i hi hx=>by omega) (fun i hi hx=>hx)
  have HF:=Ac (show NodeAt U q A.length b (n.less f) (.iface ty2 (.pointer (some ⟨b2,0,none⟩))) tv lv ov af wc/\SufAt U ru jn (q+1) A.length (arr ns e (E9 n f 0)).1 (arr ns e (E9 n f 0)).2 (.iface ty2 (.pointer (some ⟨b2,0,none⟩))) wc/\GrS (fun i=>4+3*q<=U i/\U i<7+3*(q+ns.length+1)) w wc/\FtAt U f wc from
   ⟨b9,by unfold E9 arr;simp only[FR,IY];rw[Ep];exact cu,ae.mono (fun i hi=>by omega),eR⟩)
  clear iy dM b9 ae cu hh c3 eR;go_wp2;clear hc3;go_loopw [19] (fun x w'=>∃j:Nat,j<=n.toks.length/\x=.int .i64 j/\Hid (∃Ux,NodeAt Ux q A.length b (n.less f) (.iface ty2 (.pointer (some ⟨b2,0,none⟩))) tv lv ov af w'/\SufAt Ux ru jn (q+1) A.length (arr ns e (E9 n f j)).1 (arr ns e (E9 n f j)).2 (.iface ty2 (.pointer (some ⟨b2,0,none⟩))) w'/\GrS (fun i=>4+3*q<=U i/\U i<7+3*(q+ns.length+1)) w w'/\(∀i,i<w.heap.size->Ux i=U i)/\FtAt Ux f w')) (fun x _=>n.toks.length-(intOf x).toNat)
  case atStart=>exact⟨0,AG _,rfl,Ac ⟨U,(Aa HF).1,(Aa HF).2.1,(Aa HF).2.2.1,fun _ _=>rfl,(Aa HF).2.2.2⟩⟩
  case round=>
   clear HF;obtain⟨j,hj,rfl,HK⟩:=hrel;obtain⟨Ux,x1,x2,x3,x4,x5⟩:=Aa HK;clear HK;by_cases hlt:j<n.toks.length
   ·have hd:decide (j<n.toks.length)=true:=by simpa using hlt
    obtain⟨t,cZ⟩:∃t,n.toks[j]?=some t:=⟨_,AB hlt⟩
    obtain⟨p0,p1,p2,p3,hp⟩:=A9 t;have eT:Bt t=.agg #[.pointer p0,.pointer p1,.pointer p2,.pointer p3]:=by unfold Bt;rw[hp]
    obtain⟨g,cap',e1,c0,c1,c2,c3⟩:=Bu x1.toks.1 cZ hp;rw[Aa NP] at e1;simp only[AH] at e1;obtain⟨rfl,pW,rfl⟩:=e1;clear pW;have iK:=AV cZ;have cf:=Xj (n:=n) (f:=f) cZ;obtain⟨w1,w3,w4,w5⟩:=Aa HW;obtain⟨q1,q2⟩:=Aa eD;have hlen:(arr ns e (E9 n f j)).1.length=ns.length:=Cq _ _ _ _;have a7:=AA wr (.cells #[.pointer p0,.pointer p1,.pointer p2,.pointer p3] 139) none;obtain⟨r1,hr1⟩:∃r,Ck n.links t f.f=r:=⟨_,rfl⟩
    obtain⟨r2,hr2⟩:∃r,(n.less f).K.any (fun g=>Ck n.links t g.f)=r:=⟨_,rfl⟩
    have xp:∀wx,(wr.alloc (.cells #[.pointer p0,.pointer p1,.pointer p2,.pointer p3] 139)).grownBy wx none->Calls Tryz.prog 139 #[.pointer (some ⟨b,0,none⟩),.agg #[.pointer p0,.pointer p1,.pointer p2,.pointer p3],.pointer (some ⟨f.blk,0,none⟩)] wx fun e w'=>e=.returned (.bool r1)/\(wr.alloc (.cells #[.pointer p0,.pointer p1,.pointer p2,.pointer p3] 139)).grownBy w' none:=by
     intro wx hg;have ar:=Ab a7 hg;have RB:NodeAt Ux q A.length b (n.less f) (.iface ty2 (.pointer (some ⟨b2,0,none⟩))) tv lv ov af wx:=x1.keep (S:=fun _=>False) (GrS.of ar (by simp)) (by simp) (fun _ _ _=>rfl);have:=Gs Ux b n.c n.links t f wx RB.cd (x5.gr ar) (fun g hg=>(x1.tfs t iK g hg).gr ar) (by rw[w5 t iK];exact uS) (q1 t iK);rw[hr1,eT] at this;exact this.mono (fun e w' ⟨h1,h2⟩=>⟨h1,Ab hg h2⟩)
    have MS:∀wx,(wr.alloc (.cells #[.pointer p0,.pointer p1,.pointer p2,.pointer p3] 139)).grownBy wx none->Calls Tryz.prog 141 #[.pointer (some ⟨b,0,none⟩),.agg #[.pointer p0,.pointer p1,.pointer p2,.pointer p3]] wx fun e w'=>e=.returned (.bool r2)/\(wr.alloc (.cells #[.pointer p0,.pointer p1,.pointer p2,.pointer p3] 139)).grownBy w' none:=by
     intro wx hg;have ar:=Ab a7 hg;have RB:NodeAt Ux q A.length b (n.less f) (.iface ty2 (.pointer (some ⟨b2,0,none⟩))) tv lv ov af wx:=x1.keep (S:=fun _=>False) (GrS.of ar (by simp)) (by simp) (fun _ _ _=>rfl);have:=Oq Ux q A.length b (n.less f) _ tv lv ov af t wx RB (by rw[w5 t iK];exact uS) (fun g hg=>(x1.tfs t iK g hg).gr ar) (fun g hg=>q2 t iK g (BH.1 hg).1);rw[eT] at this;have e2:(n.less f).K.any (fun g=>Ck (n.less f).links t g.f)=r2:=hr2;rw[e2] at this;exact this.mono (fun e w' ⟨h1,h2⟩=>⟨h1,Ab hg h2⟩)
    have dH:(r1 && !r2)=true->∀wx,(wr.alloc (.cells #[.pointer p0,.pointer p1,.pointer p2,.pointer p3] 139)).grownBy wx none->Calls Tryz.prog fP #[.pointer (some ⟨b2,0,none⟩),.agg #[.pointer p0,.pointer p1,.pointer p2,.pointer p3]] wx fun e' w'=>e'=.returned (.tuple #[])/\Dn Ux ru jn (q+1) A.length (arr ns e (E9 n f j)).1 (arr ns e (E9 n f j)).2 (.iface ty2 (.pointer (some ⟨b2,0,none⟩))) [t] wx w':=by
     intro ag wx mC;have hgx:=Ab a7 mC;rw[hr1,hr2,AQ ag] at cf;have hu:HasAr A t:=w4 (j+1) _ (by rw[cf];simp)
     have hsm:Small 1000000000 (arr (arr ns e (E9 n f j)).1 (arr ns e (E9 n f j)).2 [t]).1 (arr (arr ns e (E9 n f j)).1 (arr ns e (E9 n f j)).2 [t]).2:=by
      obtain⟨Y,hY⟩:=Z4 n f (j+1);rw[hY] at w3;have:=w3.part;rw[cf] at this;unfold arr at this⊢;rw[Cx] at this;exact this
     have:=Va ru jn ns.length (arr ns e (E9 n f j)).1 A (q+1) b2 ty2 fP Ux (arr ns e (E9 n f j)).2 t wx hlen eu (x2.gr hgx) (w1.arr (w4 j)) hu (fun g hg=>(x1.tfs t iK g hg).gr hgx) (N1 w1 (w4 j) (Aa HE)) hsm;rw[eT] at this;exact this
    rw[hr1,hr2] at cf;have bU:(wr.alloc (.cells #[.pointer p0,.pointer p1,.pointer p2,.pointer p3] 139)).heap[wr.heap.size]?=some (.cells #[.pointer p0,.pointer p1,.pointer p2,.pointer p3] 139 (0,0)):=AR _ _;have c5:=x1.cell 5 (by omega);have HX:=Ac (show _/\_/\_/\_/\_/\_/\_/\_ from⟨x1,x2,x3,x4,x5,cf,hlen,a7⟩);have OH:=Ac c5;have sU:=Ac bU;have rS:=Ac dH;clear x1 x2 x3 x4 x5 cf hlen w1 w3 w4 w5 cZ hr1 hr2 a7 eT hp q1 q2 c5 bU dH;go_wp2_with fail
    go_cut [19,35] from 19 to 43 (fun z x wx=>z=.int .i64 j/\x=.bool (r1 && !r2)/\(wr.alloc (.cells #[.pointer p0,.pointer p1,.pointer p2,.pointer p3] 139)).grownBy wx none)
    case first=>
     have n0:(wr.alloc (.cells #[.pointer p0,.pointer p1,.pointer p2,.pointer p3] 139)).cell? ⟨wr.heap.size,0,none⟩=some (.pointer p0):=Az (Aa sU) rfl;have n1:(wr.alloc (.cells #[.pointer p0,.pointer p1,.pointer p2,.pointer p3] 139)).cell? ⟨wr.heap.size,1,none⟩=some (.pointer p1):=Az (Aa sU) rfl;have n2:(wr.alloc (.cells #[.pointer p0,.pointer p1,.pointer p2,.pointer p3] 139)).cell? ⟨wr.heap.size,2,none⟩=some (.pointer p2):=Az (Aa sU) rfl;have n3:(wr.alloc (.cells #[.pointer p0,.pointer p1,.pointer p2,.pointer p3] 139)).cell? ⟨wr.heap.size,3,none⟩=some (.pointer p3):=Az (Aa sU) rfl;cases r1 with
     | false=>
      first
       | go_region_with (go_at_call 139;refine(xp _ (by repeat (first|assumption|exact AD _ _|apply Ah))).mono ?_;rintro e1 w1⟨rfl,hg1⟩;have m0:=hg1.cell n0 (by simp);have m1:=hg1.cell n1 (by simp);have m2:=hg1.cell n2 (by simp);have m3:=hg1.cell n3 (by simp))
       | fail
      all_goals
       go_wp2_with fail;go_meet
       exact⟨rfl,rfl,hg1⟩
     | true=>
      go_region_with (first|(go_at_call 139;refine(xp _ (by repeat (first|assumption|exact AD _ _|apply Ah))).mono ?_;rintro e1 w1⟨rfl,hg1⟩;have m0:=hg1.cell n0 (by simp);have m1:=hg1.cell n1 (by simp);have m2:=hg1.cell n2 (by simp);have m3:=hg1.cell n3 (by simp))|(go_at_call 141;refine(MS _ (by repeat (first|assumption|exact AD _ _|apply Ah))).mono ?_;rintro e2 w2⟨rfl,hg2⟩))
      all_goals
       go_wp2_with fail;go_meet
       exact⟨rfl,by simp,hg2⟩
    case rest=>
     obtain⟨rfl,rfl,cX⟩:=hcut;obtain⟨rr,pK⟩:∃r,(r1 && !r2)=r:=⟨_,rfl⟩
     have n0:=cX.cell (Az (Aa sU) (k:=0) rfl) (by simp);have n1:=cX.cell (Az (Aa sU) (k:=1) rfl) (by simp);have n2:=cX.cell (Az (Aa sU) (k:=2) rfl) (by simp);have n3:=cX.cell (Az (Aa sU) (k:=3) rfl) (by simp);have hgx:wr.grownBy wc none:=Ab (Aa HX).2.2.2.2.2.2.2 cX;have c5:=hgx.cell (Aa OH) (by simp);rw[pK];cases rr with
     | false=>
      have HK:Hid (∃Uy,NodeAt Uy q A.length b (n.less f) (.iface ty2 (.pointer (some ⟨b2,0,none⟩))) tv lv ov af wc/\SufAt Uy ru jn (q+1) A.length (arr ns e (E9 n f (j+1))).1 (arr ns e (E9 n f (j+1))).2 (.iface ty2 (.pointer (some ⟨b2,0,none⟩))) wc/\GrS (fun i=>4+3*q<=U i/\U i<7+3*(q+ns.length+1)) w wc/\(∀i,i<w.heap.size->Uy i=U i)/\FtAt Uy f wc):=by
       refine Ac ?_;obtain⟨x1,x2,x3,x4,x5,cf,hlen,a7⟩:=Aa HX;rw[pK,AO (by simp),BM] at cf;rw[cf];exact⟨Ux,x1.keep (S:=fun _=>False) (GrS.of hgx (by simp)) (by simp) (fun _ _ _=>rfl),x2.gr hgx,x3.then hgx (by simp),x4,x5.gr hgx⟩
      clear HX rS xp MS OH c5 n0 n1 n2 n3 c0 c1 c2 c3;go_wp2;go_roundw
      case rel=>exact⟨j+1,by omega,by go_num,HK⟩
      case measure=>simp[intOf];omega
     | true=>
      rcases eu with ⟨rfl,rfl⟩|⟨rfl,rfl⟩|⟨rfl,rfl⟩
      ·go_wp2_with fail
       first
        | go_region_with (go_at_call 240;refine(Aa rS pK _ (by repeat (first|assumption|exact AD _ _|apply Ah))).mono ?_;rintro e3 w5⟨rfl,nR⟩)
        | fail
       all_goals
        have HK:Hid (∃Uy,NodeAt Uy q A.length b (n.less f) (.iface 137 (.pointer (some ⟨b2,0,none⟩))) tv lv ov af w5/\SufAt Uy ru jn (q+1) A.length (arr ns e (E9 n f (j+1))).1 (arr ns e (E9 n f (j+1))).2 (.iface 137 (.pointer (some ⟨b2,0,none⟩))) w5/\GrS (fun i=>4+3*q<=U i/\U i<7+3*(q+ns.length+1)) w w5/\(∀i,i<w.heap.size->Uy i=U i)/\FtAt Uy f w5):=by
         refine Ac ?_;obtain⟨x1,x2,x3,x4,x5,cf,hlen,a7⟩:=Aa HX;rw[pK,AQ rfl] at cf;exact Q2e x1 x5 hlen x3 x4 (Ab a7 (by repeat (first|assumption|exact AD _ _|apply Ah))) nR cf
        clear HX rS xp MS OH c5 n0 n1 n2 n3 c0 c1 c2 c3 nR;go_wp2;go_roundw
        case rel=>exact⟨j+1,by omega,by go_num,HK⟩
        case measure=>simp[intOf];omega
      ·go_wp2_with fail
       first
        | go_region_with (go_at_call 257;refine(Aa rS pK _ (by repeat (first|assumption|exact AD _ _|apply Ah))).mono ?_;rintro e3 w5⟨rfl,nR⟩)
        | fail
       all_goals
        have HK:Hid (∃Uy,NodeAt Uy q A.length b (n.less f) (.iface 209 (.pointer (some ⟨b2,0,none⟩))) tv lv ov af w5/\SufAt Uy ru jn (q+1) A.length (arr ns e (E9 n f (j+1))).1 (arr ns e (E9 n f (j+1))).2 (.iface 209 (.pointer (some ⟨b2,0,none⟩))) w5/\GrS (fun i=>4+3*q<=U i/\U i<7+3*(q+ns.length+1)) w w5/\(∀i,i<w.heap.size->Uy i=U i)/\FtAt Uy f w5):=by
         refine Ac ?_;obtain⟨x1,x2,x3,x4,x5,cf,hlen,a7⟩:=Aa HX;rw[pK,AQ rfl] at cf;exact Q2e x1 x5 hlen x3 x4 (Ab a7 (by repeat (first|assumption|exact AD _ _|apply Ah))) nR cf
        clear HX rS xp MS OH c5 n0 n1 n2 n3 c0 c1 c2 c3 nR;go_wp2;go_roundw
        case rel=>exact⟨j+1,by omega,by go_num,HK⟩
        case measure=>simp[intOf];omega
      ·go_wp2_with fail
       first
        | go_region_with (go_at_call 255;refine(Aa rS pK _ (by repeat (first|assumption|exact AD _ _|apply Ah))).mono ?_;rintro e3 w5⟨rfl,nR⟩)
        | fail
       all_goals
        have HK:Hid (∃Uy,NodeAt Uy q A.length b (n.less f) (.iface 208 (.pointer (some ⟨b2,0,none⟩))) tv lv ov af w5/\SufAt Uy ru jn (q+1) A.length (arr ns e (E9 n f (j+1))).1 (arr ns e (E9 n f (j+1))).2 (.iface 208 (.pointer (some ⟨b2,0,none⟩))) w5/\GrS (fun i=>4+3*q<=U i/\U i<7+3*(q+ns.length+1)) w w5/\(∀i,i<w.heap.size->Uy i=U i)/\FtAt Uy f w5):=by
         refine Ac ?_;obtain⟨x1,x2,x3,x4,x5,cf,hlen,a7⟩:=Aa HX;rw[pK,AQ rfl] at cf;exact Q2e x1 x5 hlen x3 x4 (Ab a7 (by repeat (first|assumption|exact AD _ _|apply Ah))) nR cf
        clear HX rS xp MS OH c5 n0 n1 n2 n3 c0 c1 c2 c3 nR;go_wp2;go_roundw
        case rel=>exact⟨j+1,by omega,by go_num,HK⟩
        case measure=>simp[intOf];omega
   ·have hd:decide (j<n.toks.length)=false:=by simpa using hlt
    have pX:j=n.toks.length:=by omega
    subst pX;have HF:=Ac (show _/\_/\_/\_ from⟨x1,x2,x3,x4⟩);clear x1 x2 x3 x4 x5;go_wp2;go_end0
    obtain⟨x1,x2,x3,x4⟩:=Aa HF;refine⟨rfl,Ux,?_,x3,x4⟩;rw[Aa iE];exact⟨b,_,tv,lv,ov,af,by unfold C8;rw[AQ (show (n.less f).c.neg=true from aJ)],x1,by rw[AQ (show (n.less f).c.neg=true from aJ)];exact x2⟩
 ·have kT:n.K.any (fun g=>g.blk==f.blk)=false:=by simpa using fL
  have iy:=L5 U b fv (Bb n A.length tv lv ov fv nx) (Lj n.c.neg) n.K f w h2.blk Ci.2.1 h2.facts.1 h2.fts hf kT
  have hadd:Aw f n ns e=(n,(ns,e)):=by
   unfold Aw;rw[AO fL]
  have HH:=Ac h0;have iE:=Ac hadd;clear h0 h2 h3 hW hf he bg ie hS fL kT hadd;unfold Ee at iy⊢;go_enter Tryz.func108,Tryz.ntmps108;go_wp2_with fail;refine iy.mono ?_;rintro e1 wc⟨rfl,hw⟩;subst wc;go_wp2;refine BO (v:=.tuple #[]) (by simp[results,Tryz.results108]) rfl ?_;refine⟨rfl,U,?_,GrS.of (AD w none) (by simp),fun i hi=>rfl⟩;rw[Aa iE];exact Aa HH
end Go.Proofs.YtolhbeekfjnfmaaGreatDoor

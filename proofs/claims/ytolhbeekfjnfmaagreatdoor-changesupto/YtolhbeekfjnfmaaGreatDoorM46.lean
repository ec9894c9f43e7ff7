import Derived.Test.YtolhbeekfjnfmaaGreatDoorMA
import Derived.Test.YtolhbeekfjnfmaaGreatDoorM45
import Derived.Test.YtolhbeekfjnfmaaGreatDoorM20
import Derived.Test.YtolhbeekfjnfmaaGreatDoorM13
set_option maxHeartbeats 8000000
set_option maxRecDepth 100000
namespace Go.Proofs.YtolhbeekfjnfmaaGreatDoor
open Go.RowKit
variable {U:Nat->Nat}{f:Ft}{w:World}{q k b j:Nat}{n:Nd}{nx tv lv ov fv:Value}{t:Tok}{ns:List Nd}
theorem FtAt.isBlk(h:FtAt U f w):Wc f.blk w:=by
 obtain⟨_,_,v,hb,_⟩:=h;exact⟨_,_,hb⟩
def Gd(l:List Ft):Prop:=l.Pairwise (fun g h=>g.blk≠h.blk)
theorem Pr{b:Nat}:∀ {l:List Ft},(∀g∈l,g.blk≠b)->l.filter (fun g=>!(g.blk==b))=l
 | l,h=>GY.2 (fun g hg=>by simp[h g hg])
theorem Mt(b:Nat):∀(l:List Ft) (k:Nat),Gd l->l.any (fun g=>g.blk==b)=true->∃i,i<l.length/\Lj (fun g=>g.blk==b) k l=((k+i:Nat):Int)/\l.eraseIdx i=l.filter (fun g=>!(g.blk==b))
 | [],_,_,h=>by simp at h
 | f::l,k,ho,h=>by
  unfold Lj;by_cases hf:f.blk=b
  ·refine⟨0,by simp,by rw[AQ (by simpa using hf)];simp,?_⟩
   rw[List.eraseIdx_zero,List.tail_cons,KN (by simp[hf])];exact(Pr (fun g hg=>by have:=(DY.1 ho).1 g hg;omega)).symm
  ·rw[GH,show (f.blk==b)=false by simpa using hf,EN] at h
   obtain⟨i,h1,h2,h3⟩:=Mt b l (k+1) (DY.1 ho).2 h;refine⟨i+1,by simpa using h1,?_,?_⟩
   ·rw[AO (by simpa using hf),h2]
    congr 1
    omega
   ·rw[KO,h3,KP (by simpa using hf)]
theorem Mn(U:Nat->Nat)(b:Nat)(v:Value)(cs:Array Value)(ty:TypeId)(K:List Ft)(f:Ft)(w:World)(hb:w.heap[b]?=some (.cells cs ty (0,0)))(ho:cs[4]?=some v)(hr:FsAt v K w)(hK:∀g∈K,FtAt U g w)(hf:FtAt U f w)(hn:K.any (fun g=>g.blk==f.blk)=false) :
  Calls Tryz.prog 107 #[.pointer (some ⟨b,0,none⟩),Ei f] w fun e w'=>e=.returned (.bool false)/\w'=w:=by
 obtain⟨ao,cap,rfl⟩:=hr.slice;have hI:=Vf f.blk ao _ cap w hf.isBlk (hr.ptrs (fun g hg=>(hK g hg).isBlk));rw[Nh,BA] at hI
 have aJ:Lj (fun g=>g.blk==f.blk) 0 K<0:=by
  have:=Ju (fun g=>g.blk==f.blk) K 0;rw[hn] at this;have:=of_decide_eq_false this;omega
 have b0:w.cell? ⟨b,4,none⟩=some (.slice ao K.length cap):=by simp[World.cell?,hb];simpa using ho
 obtain⟨R,hR⟩:∃R,Lj (fun g=>g.blk==f.blk) 0 K=R:=⟨_,rfl⟩
 rw[hR] at hI aJ;unfold Ei;clear hR hr hK hf hn hb ho;go_enter Tryz.func107,Tryz.ntmps107;go_wp2_with fail;refine hI.mono ?_;rintro e w1⟨rfl,hw⟩;subst w1;go_wp2;go_ret;exact⟨rfl,rfl⟩
def J7(b:Nat)(v:Value)(cs:Array Value)(ty:TypeId)(K:List Ft)(f:Ft)(w w':World):Prop:=
 ∃v',w'.heap[b]?=some (.cells (cs.setIfInBounds 4 v') ty (0,0))/\FsAt v' (K.filter (fun g=>!(g.blk==f.blk))) w'/\GrS (fun k=>k=b\/v.ownBlock=some k) w w'/\∀g,v'.ownBlock=some g->v.ownBlock=some g
theorem Kd(U:Nat->Nat)(b:Nat)(v:Value)(cs:Array Value)(ty:TypeId)(K:List Ft)(f:Ft)(w:World)(hb:w.heap[b]?=some (.cells cs ty (0,0)))(ho:cs[4]?=some v)(hr:FsAt v K w)(hne:v.ownBlock≠some b)(hK:∀g∈K,FtAt U g w)(hf:FtAt U f w)(h1:Gd K)(hn:K.any (fun g=>g.blk==f.blk)=true) :
  Calls Tryz.prog 107 #[.pointer (some ⟨b,0,none⟩),Ei f] w fun e w'=>e=.returned (.bool true)/\J7 b v cs ty K f w w':=by
 obtain⟨ao,cap,rfl⟩:=hr.slice;have hI:=Vf f.blk ao _ cap w hf.isBlk (hr.ptrs (fun g hg=>(hK g hg).isBlk));rw[Nh,BA] at hI;obtain⟨i,hi,hix,qo⟩:=Mt f.blk K 0 h1 hn;rw[hix,BV] at hI;obtain⟨g0,hg0⟩:∃g,K[i]?=some g:=⟨_,AB hi⟩
 obtain⟨gb,cap',e1,_⟩:=hr.cell hg0;simp only[AH,BP] at e1;obtain⟨rfl,rfl⟩:=e1;have hD:=Q0z gb cap K i w hr hi;rw[qo] at hD;have dK:=hr.le;unfold maxLen at dK;have b0:w.cell? ⟨b,4,none⟩=some (.slice (some ⟨gb,0,none⟩) K.length cap):=by simp[World.cell?,hb];simpa using ho
 have hgb:gb≠b:=fun e=>hne (by simp[Value.ownBlock,e])
 have aJ:decide ((i:Int)<0)=false:=by simp
 unfold Ei;have HB:=Ac hb;clear hix qo hg0 hr hK hf hn h1 hb ho hne;go_enter Tryz.func107,Tryz.ntmps107;go_wp2_with fail;refine hI.mono ?_;rintro e w1⟨rfl,hw⟩;subst w1;go_wp2_with fail;refine hD.mono ?_;rintro e w2⟨rfl,hg2,hr2⟩;have hb2:w2.heap[b]?=some (.cells cs ty (0,0)):=by rw[hg2.block b (Af (Aa HB)) (by simp;omega)];exact Aa HB
 have z2:w2.frozen? ⟨b,4,none⟩=false:=by simp[World.frozen?,hb2]
 have b2:w2.cell? ⟨b,4,none⟩=some (.slice (some ⟨gb,0,none⟩) K.length cap):=hg2.cell b0 (by simp;omega);have gF:=Ac hb2;have cR:=Ac hr2;have tY:=Ac hg2;clear hb2 hr2 hg2;go_wp2;go_ret;have ae:=Aj w2 b 4 (.slice (some ⟨gb,0,none⟩) (K.length-1) cap);refine⟨rfl,_,by rw[BB w2 b 4 _ _ _ (Aa gF)],(Aa cR).other ae (fun g hg e=>?_),?_,fun g hg=>hg⟩
 ·simp only[Value.ownBlock,AE] at hg e
  omega
 ·exact(GrS.of (Aa tY) (fun g aw=>.inr (by simpa[Value.ownBlock] using aw))).then ae (fun g aw=>by simp at aw;exact .inr (.inl aw.symm))
theorem K9{w1:World}(h:NodeAt U q k b n nx tv lv ov fv w)(hk:J7 b fv (Be n k tv lv ov fv nx) (Lk n.c.neg) n.K f w w1) :
  ∃ag,NodeAt U q k b (n.less f) nx tv lv ov ag w1/\GrS (fun i=>U i=4+3*q\/U i=6+3*q) w w1:=by
 obtain⟨ag,k1,k2,k3,k4⟩:=hk;rw[I4 (n:=n) (n':=n.less f) rfl] at k1
 have hsm:∀i,(i=b\/fv.ownBlock=some i)->U i=4+3*q\/U i=6+3*q:=by
  rintro i (rfl|hx)
  ·exact .inl h.own
  ·exact .inr (h.facts.2 i hx)
 have hs:∀i,U i=1\/U i=5+3*q->¬ (i=b\/fv.ownBlock=some i):=fun i hi hx=>by have:=hsm i hx;omega
 have ho:∀c i,i<w.heap.size->U i=c->U i=c:=fun c i hi hx=>hx
 have hF:∀g,FtAt U g w->FtAt U g w1:=fun g hg=>hg.keep k3 (fun i hi=>hs i (.inl hi)) (ho 1)
 exact⟨ag,⟨k1,h.own,h.terms.keep2 k3 (fun i hi=>hs i (.inl hi)) (ho 1),h.links.keep2 k3 (fun i hi=>hs i (.inl hi)) (ho 1),h.toks.keep2 k3 (fun i hi=>hs i (.inr hi)) (ho _),⟨k2,fun g hg=>h.facts.2 g (k4 g hg)⟩,fun g hg=>hF g (h.fts g (BH.1 hg).1),fun t ht g hg=>hF g (h.tfs t ht g hg),h.short,h.low⟩,k3.mono hsm⟩
theorem Az{cs:Array Value}{ty:TypeId}{v:Value}(h:w.heap[b]?=some (.cells cs ty (0,0)))(hk:cs[k]?=some v):w.cell? ⟨b,k,none⟩=some v:=by
 simp[World.cell?,h];simpa using hk
def Fg(n:Nd)(f:Ft)(j:Nat):List Tok:=(n.toks.take j).filter (fun t=>Ck n.links t f.f && !(n.less f).K.any (fun g=>Ck n.links t g.f))
theorem Vr(h:n.toks[j]?=some t):Fg n f (j+1)=Fg n f j++(if (Ck n.links t f.f && !(n.less f).K.any (fun g=>Ck n.links t g.f))=true then [t] else []):=by
 unfold Fg;exact Cw _ h
theorem Zu(n:Nd)(f:Ft)(j:Nat):∃Y,Fg n f n.toks.length=Fg n f j++Y:=by
 refine⟨(n.toks.drop j).filter (fun t=>Ck n.links t f.f && !(n.less f).K.any (fun g=>Ck n.links t g.f)),?_⟩;unfold Fg;rw[CX,<-DK,DL]
theorem Q2j{A:List Nat}(h:WF A (n::ns))(j:Nat):∀u∈Fg n f j,HasAr A u:=by
 intro u hu;exact h.2.2.2.1 u (EI (BH.1 hu).1)
def Wn(U:Nat->Nat)(ru jn q k:Nat)(n:Nd)(ns:List Nd)(e:En)(hd:Value)(f:Ft)(w w':World):Prop:=
 ∃U',SufAt U' ru jn q k ((Av f n ns e).1::(Av f n ns e).2.1) (Av f n ns e).2.2 hd w'/\GrS (fun i=>4+3*q<=U i/\U i<7+3*(q+ns.length+1)) w w'/\∀i,i<w.heap.size->U' i=U i
theorem Q18{Ux:Nat->Nat}{ru jn k':Nat}{n1:Nd}{e:En}{wr wx w5:World}(x1:NodeAt Ux q k b n1 nx tv lv ov fv wr)(x5:FtAt Ux f wr)(hlen:(arr ns e (Fg n f j)).1.length=ns.length)
 (x3:GrS (fun i=>4+3*q<=U i/\U i<7+3*(q+ns.length+1)) w wr)(x4:∀i,i<w.heap.size->Ux i=U i)(hg:wr.grownBy wx none)(hP:Dq Ux ru jn (q+1) k' (arr ns e (Fg n f j)).1 (arr ns e (Fg n f j)).2 nx [t] wx w5)(hX:Fg n f (j+1)=Fg n f j++[t]) :
  ∃Uy,NodeAt Uy q k b n1 nx tv lv ov fv w5/\SufAt Uy ru jn (q+1) k' (arr ns e (Fg n f (j+1))).1 (arr ns e (Fg n f (j+1))).2 nx w5/\GrS (fun i=>4+3*q<=U i/\U i<7+3*(q+ns.length+1)) w w5/\(∀i,i<w.heap.size->Uy i=U i)/\FtAt Uy f w5:=by
 have tD:=hP;obtain⟨Uz,_,z2,z3⟩:=tD;obtain⟨Uy,y1,y2,y3,y4,y5⟩:=Lv (U:=U) x1 (by rw[hlen];exact x3) x4 hg hP;rw[hlen] at y3;refine⟨Uy,y1,?_,y3,y4,x5.keep ((GrS.of hg (by simp)).trans z2) (fun i hi hc=>by unfold An at hc;omega) (fun i hi hx=>by rw[y5 i hi];exact hx)⟩;rw[hX];unfold arr at y2⊢;rw[Cy];exact y2
theorem Wv(ru jn:Nat)(U:Nat->Nat)(A:List Nat)(q b:Nat)(n:Nd)(ns:List Nd)(e:En)(f:Ft)(w:World)(aJ:n.c.neg=true)(h:SufAt U ru jn q A.length (n::ns) e (.iface 209 (.pointer (some ⟨b,0,none⟩))) w)(hW:WF A (n::ns))(hf:FtAt U f w)(he:∀x∈e.wait,x.length<=4)(bw:Gd n.K)(jO:∀g∈n.K,g.blk=f.blk->g.f=f.f)
 (hS:Small 1000000000 (Av f n ns e).2.1 (Av f n ns e).2.2) :
  Calls Tryz.prog 108 #[.pointer (some ⟨b,0,none⟩),Ei f] w fun e' w'=>e'=.returned (.tuple #[])/\Wn U ru jn q A.length n ns e (.iface 209 (.pointer (some ⟨b,0,none⟩))) f w w':=by
 have h0:=h;obtain⟨b',nx,tv,lv,ov,fv,h1,h2,h3⟩:=h;simp only[DN,DG,AE,BK,BX] at h1;obtain⟨iz,rfl⟩:=h1;clear iz;have bz:fv.ownBlock≠some b:=fun hx=>by have:=h2.facts.2 b hx;have:=h2.own;omega
 by_cases fw:n.K.any (fun g=>g.blk==f.blk)=true
 ·have jY:=Kd U b fv (Be n A.length tv lv ov fv nx) (Lk n.c.neg) n.K f w h2.blk Cg.2.1 h2.facts.1 bz h2.fts hf bw fw
  have hadd:Av f n ns e=(n.less f,arr ns e (Fg n f n.toks.length)):=by
   unfold Av Fg;rw[AQ fw,AQ aJ,CX]
  rw[hadd] at hS
  have cH:f.f.vals.length=n.c.terms.length:=by
   obtain⟨g,hg,hgb⟩:=ED.1 fw;rw[<-jO g hg (by simpa using hgb)];exact hW.2.2.1 g hg
  have iX:=hW.2.2.2.2;rw[AQ aJ] at iX h3;have ah:=fun t (ht:t∈n.toks)=>hW.fit (hW.2.2.2.1 t ht) (f:=f) cH
  have uV:=fun t (ht:t∈n.toks) (g:Ft) (hg:g∈n.K)=>hW.fit (hW.2.2.2.1 t ht) (f:=g) (hW.2.2.1 g hg)
  have l4:=fun t (ht:t∈n.toks)=>(hW.2.2.2.1 t ht).len
  have uj:=fun j=>Q2j (f:=f) hW j
  have vM:A.length<=4:=hW.le;have VU:=h2.toks.1.le;unfold maxLen at VU;obtain⟨ta,ve,si⟩:=h2.toks.1.slice;have HH:=Ac h2;have H3:=Ac h3;have HE:=Ac he;have xp:=Ac hf;have iu:=Ac hadd;have OS:=Ac si;have HW:=Ac (show WF A ns/\Small 1000000000 (arr ns e (Fg n f n.toks.length)).1 (arr ns e (Fg n f n.toks.length)).2/\(∀j,∀u∈Fg n f j,HasAr A u)/\(∀t∈n.toks,t.length=A.length) from⟨iX,hS,uj,l4⟩);have eV:=Ac (show (∀t∈n.toks,_)/\(∀t∈n.toks,∀g∈n.K,_) from⟨ah,uV⟩);have hKf:(n.less f).K=n.K.filter (fun g=>!(g.blk==f.blk)):=rfl;clear h0 h2 he hW hS iX ah uV uj l4 hadd hf cH fw si bw jO;have jR:=h3.head;clear h3;have mL:=Tryz.mArrL;have mJ:=Tryz.mArrJ;have mH:=Tryz.mArrH
  obtain⟨ty2,gC,b2,rfl,fS⟩:∃ty2 gC b2,nx=.iface ty2 (.pointer (some ⟨b2,0,none⟩))/\ArrFn ty2 gC:=by
   rcases jR with ⟨b2,rfl,_⟩|⟨b2,n2,mf,rfl,_⟩|⟨b2,n2,mf,rfl,_⟩
   ·exact⟨_,_,b2,rfl,.inl ⟨rfl,rfl⟩⟩
   ·exact⟨_,_,b2,rfl,.inr (.inl ⟨rfl,rfl⟩)⟩
   ·exact⟨_,_,b2,rfl,.inr (.inr ⟨rfl,rfl⟩)⟩
  clear jR;unfold Ei at jY⊢;go_enter Tryz.func108,Tryz.ntmps108;go_wp2_with fail;refine jY.mono ?_;rintro e1 wc⟨rfl,dX⟩;have hh:=Aa HH;obtain⟨ag,bB,af⟩:=K9 hh dX;have dM:SufAt U ru jn (q+1) A.length ns e (.iface ty2 (.pointer (some ⟨b2,0,none⟩))) wc:=(Aa H3).keep af (fun i hi hx=>by omega) (fun i hi _=>rfl);have c3:=bB.cell 3 (by omega);have hc3:wc.cell? ⟨b,3,none⟩=some (.slice ta n.toks.length ve):=by rw[c3];simp[Aa OS]
  have ew:FtAt U f wc:=(Aa xp).keep af (fun i hi hx=>by omega) (fun i hi hx=>hx)
  have HF:=Ac (show NodeAt U q A.length b (n.less f) (.iface ty2 (.pointer (some ⟨b2,0,none⟩))) tv lv ov ag wc/\SufAt U ru jn (q+1) A.length (arr ns e (Fg n f 0)).1 (arr ns e (Fg n f 0)).2 (.iface ty2 (.pointer (some ⟨b2,0,none⟩))) wc/\GrS (fun i=>4+3*q<=U i/\U i<7+3*(q+ns.length+1)) w wc/\FtAt U f wc from
   ⟨bB,by unfold Fg arr;simp only[FR,IZ];rw[Et];exact dM,af.mono (fun i hi=>by omega),ew⟩)
  clear jY dX bB af dM hh c3 ew;go_wp2;clear hc3;go_loopw [19] (fun x w'=>∃j:Nat,j<=n.toks.length/\x=.int .i64 j/\Hid (∃Ux,NodeAt Ux q A.length b (n.less f) (.iface ty2 (.pointer (some ⟨b2,0,none⟩))) tv lv ov ag w'/\SufAt Ux ru jn (q+1) A.length (arr ns e (Fg n f j)).1 (arr ns e (Fg n f j)).2 (.iface ty2 (.pointer (some ⟨b2,0,none⟩))) w'/\GrS (fun i=>4+3*q<=U i/\U i<7+3*(q+ns.length+1)) w w'/\(∀i,i<w.heap.size->Ux i=U i)/\FtAt Ux f w')) (fun x _=>n.toks.length-(intOf x).toNat)
  case atStart=>exact⟨0,AG _,rfl,Ac ⟨U,(Aa HF).1,(Aa HF).2.1,(Aa HF).2.2.1,fun _ _=>rfl,(Aa HF).2.2.2⟩⟩
  case round=>
   clear HF;obtain⟨j,hj,rfl,HK⟩:=hrel;obtain⟨Ux,x1,x2,x3,x4,x5⟩:=Aa HK;clear HK;by_cases hlt:j<n.toks.length
   ·have hd:decide (j<n.toks.length)=true:=by simpa using hlt
    obtain⟨t,dG⟩:∃t,n.toks[j]?=some t:=⟨_,AB hlt⟩
    obtain⟨p0,p1,p2,p3,hp⟩:=Bb t;have eT:Bu t=.agg #[.pointer p0,.pointer p1,.pointer p2,.pointer p3]:=by unfold Bu;rw[hp]
    obtain⟨g,cap',e1,c0,c1,c2,c3⟩:=Bt x1.toks.1 dG hp;rw[Aa OS] at e1;simp only[AH] at e1;obtain⟨rfl,qV,rfl⟩:=e1;clear qV;have j9:=AV dG;have dH:=Vr (n:=n) (f:=f) dG;obtain⟨w1,w3,w4,w5⟩:=Aa HW;obtain⟨q1,q2⟩:=Aa eV;have hlen:(arr ns e (Fg n f j)).1.length=ns.length:=Cs _ _ _ _;have a7:=AA wr (.cells #[.pointer p0,.pointer p1,.pointer p2,.pointer p3] 139) none;obtain⟨r1,hr1⟩:∃r,Ck n.links t f.f=r:=⟨_,rfl⟩
    obtain⟨r2,hr2⟩:∃r,(n.less f).K.any (fun g=>Ck n.links t g.f)=r:=⟨_,rfl⟩
    have yS:∀wx,(wr.alloc (.cells #[.pointer p0,.pointer p1,.pointer p2,.pointer p3] 139)).grownBy wx none->Calls Tryz.prog 139 #[.pointer (some ⟨b,0,none⟩),.agg #[.pointer p0,.pointer p1,.pointer p2,.pointer p3],.pointer (some ⟨f.blk,0,none⟩)] wx fun e w'=>e=.returned (.bool r1)/\(wr.alloc (.cells #[.pointer p0,.pointer p1,.pointer p2,.pointer p3] 139)).grownBy w' none:=by
     intro wx hg;have aw:=Ab a7 hg;have SB:NodeAt Ux q A.length b (n.less f) (.iface ty2 (.pointer (some ⟨b2,0,none⟩))) tv lv ov ag wx:=x1.keep (S:=fun _=>False) (GrS.of aw (by simp)) (by simp) (fun _ _ _=>rfl);have:=Gn Ux b n.c n.links t f wx SB.cd (x5.gr aw) (fun g hg=>(x1.tfs t j9 g hg).gr aw) (by rw[w5 t j9];exact vM) (q1 t j9);rw[hr1,eT] at this;exact this.mono (fun e w' ⟨h1,h2⟩=>⟨h1,Ab hg h2⟩)
    have NQ:∀wx,(wr.alloc (.cells #[.pointer p0,.pointer p1,.pointer p2,.pointer p3] 139)).grownBy wx none->Calls Tryz.prog 141 #[.pointer (some ⟨b,0,none⟩),.agg #[.pointer p0,.pointer p1,.pointer p2,.pointer p3]] wx fun e w'=>e=.returned (.bool r2)/\(wr.alloc (.cells #[.pointer p0,.pointer p1,.pointer p2,.pointer p3] 139)).grownBy w' none:=by
     intro wx hg;have aw:=Ab a7 hg;have SB:NodeAt Ux q A.length b (n.less f) (.iface ty2 (.pointer (some ⟨b2,0,none⟩))) tv lv ov ag wx:=x1.keep (S:=fun _=>False) (GrS.of aw (by simp)) (by simp) (fun _ _ _=>rfl);have:=Or Ux q A.length b (n.less f) _ tv lv ov ag t wx SB (by rw[w5 t j9];exact vM) (fun g hg=>(x1.tfs t j9 g hg).gr aw) (fun g hg=>q2 t j9 g (BH.1 hg).1);rw[eT] at this;have e2:(n.less f).K.any (fun g=>Ck (n.less f).links t g.f)=r2:=hr2;rw[e2] at this;exact this.mono (fun e w' ⟨h1,h2⟩=>⟨h1,Ab hg h2⟩)
    have dS:(r1 && !r2)=true->∀wx,(wr.alloc (.cells #[.pointer p0,.pointer p1,.pointer p2,.pointer p3] 139)).grownBy wx none->Calls Tryz.prog gC #[.pointer (some ⟨b2,0,none⟩),.agg #[.pointer p0,.pointer p1,.pointer p2,.pointer p3]] wx fun e' w'=>e'=.returned (.tuple #[])/\Dq Ux ru jn (q+1) A.length (arr ns e (Fg n f j)).1 (arr ns e (Fg n f j)).2 (.iface ty2 (.pointer (some ⟨b2,0,none⟩))) [t] wx w':=by
     intro ah wx nJ;have hgx:=Ab a7 nJ;rw[hr1,hr2,AQ ah] at dH;have hu:HasAr A t:=w4 (j+1) _ (by rw[dH];simp)
     have hsm:Small 1000000000 (arr (arr ns e (Fg n f j)).1 (arr ns e (Fg n f j)).2 [t]).1 (arr (arr ns e (Fg n f j)).1 (arr ns e (Fg n f j)).2 [t]).2:=by
      obtain⟨Y,hY⟩:=Zu n f (j+1);rw[hY] at w3;have:=w3.part;rw[dH] at this;unfold arr at this⊢;rw[Cy] at this;exact this
     have:=Ul ru jn ns.length (arr ns e (Fg n f j)).1 A (q+1) b2 ty2 gC Ux (arr ns e (Fg n f j)).2 t wx hlen fS (x2.gr hgx) (w1.arr (w4 j)) hu (fun g hg=>(x1.tfs t j9 g hg).gr hgx) (M8 w1 (w4 j) (Aa HE)) hsm;rw[eT] at this;exact this
    rw[hr1,hr2] at dH;have bZ:(wr.alloc (.cells #[.pointer p0,.pointer p1,.pointer p2,.pointer p3] 139)).heap[wr.heap.size]?=some (.cells #[.pointer p0,.pointer p1,.pointer p2,.pointer p3] 139 (0,0)):=AR _ _;have c5:=x1.cell 5 (by omega);have HX:=Ac (show _/\_/\_/\_/\_/\_/\_/\_ from⟨x1,x2,x3,x4,x5,dH,hlen,a7⟩);have PK:=Ac c5;have tV:=Ac bZ;have sN:=Ac dS;clear x1 x2 x3 x4 x5 dH hlen w1 w3 w4 w5 dG hr1 hr2 a7 eT hp q1 q2 c5 bZ dS;go_wp2_with fail
    go_cut [19,35] from 19 to 43 (fun z x wx=>z=.int .i64 j/\x=.bool (r1 && !r2)/\(wr.alloc (.cells #[.pointer p0,.pointer p1,.pointer p2,.pointer p3] 139)).grownBy wx none)
    case first=>
     have n0:(wr.alloc (.cells #[.pointer p0,.pointer p1,.pointer p2,.pointer p3] 139)).cell? ⟨wr.heap.size,0,none⟩=some (.pointer p0):=Az (Aa tV) rfl;have n1:(wr.alloc (.cells #[.pointer p0,.pointer p1,.pointer p2,.pointer p3] 139)).cell? ⟨wr.heap.size,1,none⟩=some (.pointer p1):=Az (Aa tV) rfl;have n2:(wr.alloc (.cells #[.pointer p0,.pointer p1,.pointer p2,.pointer p3] 139)).cell? ⟨wr.heap.size,2,none⟩=some (.pointer p2):=Az (Aa tV) rfl;have n3:(wr.alloc (.cells #[.pointer p0,.pointer p1,.pointer p2,.pointer p3] 139)).cell? ⟨wr.heap.size,3,none⟩=some (.pointer p3):=Az (Aa tV) rfl;cases r1 with
     | false=>
      first
       | go_region_with (go_at_call 139;refine(yS _ (by repeat (first|assumption|exact AD _ _|apply Ah))).mono ?_;rintro e1 w1⟨rfl,hg1⟩;have m0:=hg1.cell n0 (by simp);have m1:=hg1.cell n1 (by simp);have m2:=hg1.cell n2 (by simp);have m3:=hg1.cell n3 (by simp))
       | fail
      all_goals
       go_wp2_with fail;go_meet
       exact⟨rfl,rfl,hg1⟩
     | true=>
      go_region_with (first|(go_at_call 139;refine(yS _ (by repeat (first|assumption|exact AD _ _|apply Ah))).mono ?_;rintro e1 w1⟨rfl,hg1⟩;have m0:=hg1.cell n0 (by simp);have m1:=hg1.cell n1 (by simp);have m2:=hg1.cell n2 (by simp);have m3:=hg1.cell n3 (by simp))|(go_at_call 141;refine(NQ _ (by repeat (first|assumption|exact AD _ _|apply Ah))).mono ?_;rintro e2 w2⟨rfl,hg2⟩))
      all_goals
       go_wp2_with fail;go_meet
       exact⟨rfl,by simp,hg2⟩
    case rest=>
     obtain⟨rfl,rfl,dE⟩:=hcut;obtain⟨rr,qF⟩:∃r,(r1 && !r2)=r:=⟨_,rfl⟩
     have n0:=dE.cell (Az (Aa tV) (k:=0) rfl) (by simp);have n1:=dE.cell (Az (Aa tV) (k:=1) rfl) (by simp);have n2:=dE.cell (Az (Aa tV) (k:=2) rfl) (by simp);have n3:=dE.cell (Az (Aa tV) (k:=3) rfl) (by simp);have hgx:wr.grownBy wc none:=Ab (Aa HX).2.2.2.2.2.2.2 dE;have c5:=hgx.cell (Aa PK) (by simp);rw[qF];cases rr with
     | false=>
      have HK:Hid (∃Uy,NodeAt Uy q A.length b (n.less f) (.iface ty2 (.pointer (some ⟨b2,0,none⟩))) tv lv ov ag wc/\SufAt Uy ru jn (q+1) A.length (arr ns e (Fg n f (j+1))).1 (arr ns e (Fg n f (j+1))).2 (.iface ty2 (.pointer (some ⟨b2,0,none⟩))) wc/\GrS (fun i=>4+3*q<=U i/\U i<7+3*(q+ns.length+1)) w wc/\(∀i,i<w.heap.size->Uy i=U i)/\FtAt Uy f wc):=by
       refine Ac ?_;obtain⟨x1,x2,x3,x4,x5,dH,hlen,a7⟩:=Aa HX;rw[qF,AO (by simp),BM] at dH;rw[dH];exact⟨Ux,x1.keep (S:=fun _=>False) (GrS.of hgx (by simp)) (by simp) (fun _ _ _=>rfl),x2.gr hgx,x3.then hgx (by simp),x4,x5.gr hgx⟩
      clear HX sN yS NQ PK c5 n0 n1 n2 n3 c0 c1 c2 c3;go_wp2;go_roundw
      case rel=>exact⟨j+1,by omega,by go_num,HK⟩
      case measure=>simp[intOf];omega
     | true=>
      rcases fS with ⟨rfl,rfl⟩|⟨rfl,rfl⟩|⟨rfl,rfl⟩
      ·go_wp2_with fail
       first
        | go_region_with (go_at_call 240;refine(Aa sN qF _ (by repeat (first|assumption|exact AD _ _|apply Ah))).mono ?_;rintro e3 w5⟨rfl,oL⟩)
        | fail
       all_goals
        have HK:Hid (∃Uy,NodeAt Uy q A.length b (n.less f) (.iface 137 (.pointer (some ⟨b2,0,none⟩))) tv lv ov ag w5/\SufAt Uy ru jn (q+1) A.length (arr ns e (Fg n f (j+1))).1 (arr ns e (Fg n f (j+1))).2 (.iface 137 (.pointer (some ⟨b2,0,none⟩))) w5/\GrS (fun i=>4+3*q<=U i/\U i<7+3*(q+ns.length+1)) w w5/\(∀i,i<w.heap.size->Uy i=U i)/\FtAt Uy f w5):=by
         refine Ac ?_;obtain⟨x1,x2,x3,x4,x5,dH,hlen,a7⟩:=Aa HX;rw[qF,AQ rfl] at dH;exact Q18 x1 x5 hlen x3 x4 (Ab a7 (by repeat (first|assumption|exact AD _ _|apply Ah))) oL dH
        clear HX sN yS NQ PK c5 n0 n1 n2 n3 c0 c1 c2 c3 oL;go_wp2;go_roundw
        case rel=>exact⟨j+1,by omega,by go_num,HK⟩
        case measure=>simp[intOf];omega
      ·go_wp2_with fail
       first
        | go_region_with (go_at_call 257;refine(Aa sN qF _ (by repeat (first|assumption|exact AD _ _|apply Ah))).mono ?_;rintro e3 w5⟨rfl,oL⟩)
        | fail
       all_goals
        have HK:Hid (∃Uy,NodeAt Uy q A.length b (n.less f) (.iface 209 (.pointer (some ⟨b2,0,none⟩))) tv lv ov ag w5/\SufAt Uy ru jn (q+1) A.length (arr ns e (Fg n f (j+1))).1 (arr ns e (Fg n f (j+1))).2 (.iface 209 (.pointer (some ⟨b2,0,none⟩))) w5/\GrS (fun i=>4+3*q<=U i/\U i<7+3*(q+ns.length+1)) w w5/\(∀i,i<w.heap.size->Uy i=U i)/\FtAt Uy f w5):=by
         refine Ac ?_;obtain⟨x1,x2,x3,x4,x5,dH,hlen,a7⟩:=Aa HX;rw[qF,AQ rfl] at dH;exact Q18 x1 x5 hlen x3 x4 (Ab a7 (by repeat (first|assumption|exact AD _ _|apply Ah))) oL dH
        clear HX sN yS NQ PK c5 n0 n1 n2 n3 c0 c1 c2 c3 oL;go_wp2;go_roundw
        case rel=>exact⟨j+1,by omega,by go_num,HK⟩
        case measure=>simp[intOf];omega
      ·go_wp2_with fail
       first
        | go_region_with (go_at_call 255;refine(Aa sN qF _ (by repeat (first|assumption|exact AD _ _|apply Ah))).mono ?_;rintro e3 w5⟨rfl,oL⟩)
        | fail
       all_goals
        have HK:Hid (∃Uy,NodeAt Uy q A.length b (n.less f) (.iface 208 (.pointer (some ⟨b2,0,none⟩))) tv lv ov ag w5/\SufAt Uy ru jn (q+1) A.length (arr ns e (Fg n f (j+1))).1 (arr ns e (Fg n f (j+1))).2 (.iface 208 (.pointer (some ⟨b2,0,none⟩))) w5/\GrS (fun i=>4+3*q<=U i/\U i<7+3*(q+ns.length+1)) w w5/\(∀i,i<w.heap.size->Uy i=U i)/\FtAt Uy f w5):=by
         refine Ac ?_;obtain⟨x1,x2,x3,x4,x5,dH,hlen,a7⟩:=Aa HX;rw[qF,AQ rfl] at dH;exact Q18 x1 x5 hlen x3 x4 (Ab a7 (by repeat (first|assumption|exact AD _ _|apply Ah))) oL dH
        clear HX sN yS NQ PK c5 n0 n1 n2 n3 c0 c1 c2 c3 oL;go_wp2;go_roundw
        case rel=>exact⟨j+1,by omega,by go_num,HK⟩
        case measure=>simp[intOf];omega
   ·have hd:decide (j<n.toks.length)=false:=by simpa using hlt
    have oy:j=n.toks.length:=by omega
    subst oy;have HF:=Ac (show _/\_/\_/\_ from⟨x1,x2,x3,x4⟩);clear x1 x2 x3 x4 x5;go_wp2;go_end0
    obtain⟨x1,x2,x3,x4⟩:=Aa HF;refine⟨rfl,Ux,?_,x3,x4⟩;rw[Aa iu];exact⟨b,_,tv,lv,ov,ag,by unfold C9;rw[AQ (show (n.less f).c.neg=true from aJ)],x1,by rw[AQ (show (n.less f).c.neg=true from aJ)];exact x2⟩
 ·have lN:n.K.any (fun g=>g.blk==f.blk)=false:=by simpa using fw
  have jY:=Mn U b fv (Be n A.length tv lv ov fv nx) (Lk n.c.neg) n.K f w h2.blk Cg.2.1 h2.facts.1 h2.fts hf lN
  have hadd:Av f n ns e=(n,(ns,e)):=by
   unfold Av;rw[AO fw]
  have HH:=Ac h0;have iu:=Ac hadd;clear h0 h2 h3 hW hf he bw jO hS fw lN hadd;unfold Ei at jY⊢;go_enter Tryz.func108,Tryz.ntmps108;go_wp2_with fail;refine jY.mono ?_;rintro e1 wc⟨rfl,hw⟩;subst wc;go_wp2;refine BN (v:=.tuple #[]) (by simp[results,Tryz.results108]) rfl ?_;refine⟨rfl,U,?_,GrS.of (AD w none) (by simp),fun i hi=>rfl⟩;rw[Aa iu];exact Aa HH
end Go.Proofs.YtolhbeekfjnfmaaGreatDoor

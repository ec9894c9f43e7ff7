import Derived.Test.YtolhbeekfjnfmaaGreatDoorA45
import Derived.Test.YtolhbeekfjnfmaaGreatDoorA42
namespace Go.Proofs.YtolhbeekfjnfmaaGreatDoor
open Go.RowKit Go.Proofs.Tryz
theorem WF.delStep{A:List Nat}{n:Nd}{ns:List Nd}{e:En}{f:Ft}(h:WF A (n::ns))(he:Q1F A (n::ns) e):WF A ((Ay f n ns e).1::(Ay f n ns e).2.1)/\Q1F A ((Ay f n ns e).1::(Ay f n ns e).2.1) (Ay f n ns e).2.2:=by
 unfold Ay;by_cases hf:n.K.any (λg=>g.blk==f.blk)=true
 ·rw[AQ hf];obtain⟨h1,h2,h3,h4,h5⟩:=h;have hK:∀g∈(n.less f).K,g.f.vals.length=n.c.terms.length:=λg hg=>h3 g (BI.1 hg).1;by_cases hn:n.c.neg=true;{rw[AQ hn];(have ht:∀u∈n.toks.filter (λt=>Cp n.links t f.f && !(n.less f).K.any (λg=>Cp n.links t g.f)),Q0W (if n.c.neg=true then A else A++[n.c.terms.length]) u:=by intro u hu;rw[AQ hn];exact h4 u (BI.1 hu).1);exact⟨⟨h1,h2,hK,h4,h5.arr ht⟩,Q1F.arr (ns:=ns) h5 he ht⟩};{rw[AO hn];exact⟨⟨h1,h2,hK,h4,h5⟩,he⟩}
 {rw[AO hf];exact⟨h,he⟩}
theorem WF.delAt{f:Ft}:∀(p:Nat) {A:List Nat} {ns:List Nd} {e:En},WF A ns->Q1F A ns e->WF A (Gl f p ns e).1/\Q1F A (Gl f p ns e).1 (Gl f p ns e).2
 |_,_,[],_,h,he=>by unfold Gl;exact⟨h,he⟩
 |0,_,n::ns,e,h,he=>by unfold Gl;exact h.delStep he
 |p+1,A,n::ns,e,h,he=>by
  unfold Gl;obtain⟨i1,i2⟩:=WF.delAt (f:=f) p (ns:=ns) (e:=e) h.2.2.2.2 he;exact⟨⟨h.1,h.2.1,h.2.2.1,h.2.2.2.1,i1⟩,i2⟩
def Qs(neg:Bool):Nat:=if neg=true then 108 else 107
theorem V3(ru jn:Nat)(U:Nat->Nat)(f:Ft)(w:World)(hf:Q0J U f w):∀(p:Nat) (A:List Nat) (q b κ c:Nat) (n:Nd) (ns:List Nd) (e:En) (hd:Value),ns[p]?=some n->Bk U (4+3*(q+p)) b->Q0K U ru jn q A.length ns e hd w->WF A ns->Q1F A ns e->Bd κ c ns e->κ<=20->ns.length<=4->2*c*20 ^ ns.length<=1000000000->Ga n.K->(∀g∈n.K,g.blk=f.blk->g.f=f.f)->
  Calls prog (Qs n.c.neg) #[.pointer (some ⟨b,0,none⟩),Ei f] w λe' w'=>(e'=.returned (if n.c.neg=true then .tuple #[]else .bool (n.K.any (λg=>g.blk==f.blk))))/\I8 U ru jn q A.length (Gl f p ns e) ns.length hd w w'
 |_,_,_,_,_,_,_,[],_,_,hn,_,_,_,_,_,_,_,_,_,_=>by simp at hn
 |0,A,q,b,κ,c,n,n0::ns,e,hd,hn,hb,h,hW,hE,hB,hk,hl,hc,ho,hs=>by
  simp only[BW,AE]at hn;subst hn;have h0:=h;obtain⟨b',nx,tv,lv,ov,fv,h1,h2,h3⟩:=h;have:b'=b:=Bk.uniq ⟨h2.own,h2.low⟩ hb;subst this;subst h1;have hS:=(hB.delStep (f:=f) hk).small (by rw[AP,Hi,<-AP (a:=n0)];exact hl) (by rw[AP,Hi,<-AP (a:=n0)];exact hc);cases fJ:n0.c.neg with
  |true=>
   have tX:Dc n0.c.neg=209:=by rw[fJ];rfl
   rw[tX]at h0;have:=Xy ru jn U A q b' n0 ns e f w fJ h0 hW hf (hE.four hW) ho hs hS.tail;unfold Qs;rw[AQ rfl];refine this.mono ?_;rintro e' w'⟨rfl,U',a1,a2,a3⟩;refine⟨by rw[AQ rfl],U',?_,a2.mono (λi hi=>?_),a3⟩
   ·unfold Gl Dc
    rw[AQ rfl];exact a1
   ·unfold Am
    rw[AP];omega
  |false=>
   have bo:fv.ownBlock≠some b':=λhx=>by have:=h2.facts.2 b' hx;have:=h2.own;omega
   unfold Qs;rw[AO (by simp)];by_cases fW:n0.K.any (λg=>g.blk==f.blk)=true
   ·refine(La U b' fv (Bg n0 A.length tv lv ov fv nx) (Lt n0.c.neg) n0.K f w h2.blk Cn.2.1 h2.facts.1 bo h2.fts hf ho fW).mono ?_
    rintro e' w'⟨rfl,hp⟩;obtain⟨ae,a1,a2⟩:=K9 h2 hp;refine⟨by rw[AO (by simp),fW],U,?_,a2.mono (λi hi=>by unfold Am;rw[AP];omega),λ_ _=>rfl⟩
    have e1:Gl f 0 (n0::ns) e=(n0.less f::ns,e):=by
     unfold Gl Ay;rw[AQ fW,AO (by simp[fJ])]
    rw[e1];exact⟨b',nx,tv,lv,ov,ae,by rw[show (n0.less f).c.neg=false from fJ],a1,h3.keep a2 (λi hi hx=>by omega) (λ_ _ _=>rfl)⟩
   ·have l9:n0.K.any (λg=>g.blk==f.blk)=false:=by simpa using fW
    refine(Me U b' fv (Bg n0 A.length tv lv ov fv nx) (Lt n0.c.neg) n0.K f w h2.blk Cn.2.1 h2.facts.1 h2.fts hf l9).mono ?_;rintro e' w'⟨rfl,hw⟩;subst hw
    have e1:Gl f 0 (n0::ns) e=(n0::ns,e):=by
     unfold Gl Ay;rw[AO fW]
    refine⟨by rw[AO (by simp),l9],U,?_,GrS.of (AD w' none) (by simp),λ_ _=>rfl⟩;rw[e1];rw[fJ]at h0;exact h0
 |p+1,A,q,b,κ,c,n,n0::ns,e,hd,hn,hb,h,hW,hE,hB,hk,hl,hc,ho,hs=>by
  obtain⟨b',nx,tv,lv,ov,fv,h1,h2,h3⟩:=h;have hA:(if n0.c.neg=true then A.length else A.length+1)=(if n0.c.neg=true then A else A++[n0.c.terms.length]).length:=by split<;>simp
  rw[hA]at h3;rw[AP]at hl hc;rw[GK,GI (20 ^ _) 20,<-FP,FP 2 c 20]at hc;refine(V3 ru jn U f w hf p (if n0.c.neg=true then A else A++[n0.c.terms.length]) (q+1) b κ (c*20) n ns e nx (by simpa using hn) (by rw[show q+1+p=q+(p+1) by omega];exact hb) h3 hW.2.2.2.2 hE hB.2.2 hk (by omega) hc ho hs).mono ?_;rintro e' w'⟨he,U',a1,a2,a3⟩;refine⟨he,U',?_,a2.mono (λi hi=>?_),a3⟩
  ·unfold Gl
   refine⟨b',nx,tv,lv,ov,fv,h1,h2.keep a2 (λi hi hx=>by unfold Am at hx;omega) (λi hi _=>a3 i hi),?_⟩;rw[hA];exact a1
  ·unfold Am at hi⊢
   rw[AP];omega
theorem K7{f:Ft}{A:List Nat}{κ:Nat}{ns:List Nd}{e:En}(hk:κ<=20)(hW:WF A ns)(hE:Q1F A ns e)(hB:Bd κ 1 ns e):∀i,i<=ns.length->
  WF A (A7 f (ns.length-i) ns e).1/\Q1F A (A7 f (ns.length-i) ns e).1 (A7 f (ns.length-i) ns e).2/\Bd κ (2 ^ i) (A7 f (ns.length-i) ns e).1 (A7 f (ns.length-i) ns e).2
 |0,_=>by
  rw[IJ,Gm];exact⟨hW,hE,hB⟩
 |i+1,hi=>by
  obtain⟨h1,h2,h3⟩:=K7 (f:=f) hk hW hE hB i (by omega);rw[Gn f (ns.length-(i+1)) ns e (by omega),show ns.length-(i+1)+1=ns.length-i by omega];obtain⟨k1,k2⟩:=WF.delAt (f:=f) (ns.length-(i+1)) h1 h2;refine⟨k1,k2,?_⟩;rw[GK,GI];exact Bd.delAt hk _ h3
theorem V6(ru jn:Nat)(U:Nat->Nat)(f:Ft)(w:World)(hf:Q0J U f w)(A:List Nat)(q b κ i:Nat)(n:Nd)(ns:List Nd)(e:En)(hd:Value)(hi:i<ns.length)(hn:ns[ns.length-1-i]?=some n)(hb:Bk U (4+3*(q+(ns.length-1-i))) b) (h:Q0K U ru jn q A.length (A7 f (ns.length-i) ns e).1 (A7 f (ns.length-i) ns e).2 hd w)(hW:WF A ns)(hE:Q1F A ns e)(hB:Bd κ 1 ns e)(hk:κ<=20)(hl:ns.length<=4)(ho:Ga n.K)(hs:∀g∈n.K,g.blk=f.blk->g.f=f.f):Calls prog (Qs n.c.neg) #[.pointer (some ⟨b,0,none⟩),Ei f] w λe' w'=>(e'=.returned (if n.c.neg=true then .tuple #[]else .bool (n.K.any (λg=>g.blk==f.blk))))/\I8 U ru jn q A.length (A7 f (ns.length-(i+1)) ns e) ns.length hd w w':=by
 obtain⟨h1,h2,h3⟩:=K7 (f:=f) hk hW hE hB i (by omega);have hlen:=K8 f (ns.length-i) ns e;have XZ:(A7 f (ns.length-i) ns e).1[ns.length-1-i]?=some n:=by have:=K6 f (ns.length-1-i) ns e n hn;rw[show ns.length-1-i+1=ns.length-i by omega]at this;exact this
 have hc:2*2 ^ i*20 ^ (A7 f (ns.length-i) ns e).1.length<=1000000000:=by rw[hlen];have a1:2 ^ i<=2 ^ 4:=DR (by omega) (by omega);have a2:20 ^ ns.length<=20 ^ 4:=DR (by omega) hl;have a3:2*2 ^ i*20 ^ ns.length<=2*2 ^ 4*20 ^ 4:=Nat.mul_le_mul (IH _ a1) a2;omega
 have:=V3 ru jn U f w hf (ns.length-1-i) A q b κ (2 ^ i) n (A7 f (ns.length-i) ns e).1 (A7 f (ns.length-i) ns e).2 hd XZ hb h h1 h2 h3 hk (by rw[hlen];exact hl) hc ho hs;rw[hlen]at this;have e1:=Gn f (ns.length-(i+1)) ns e (by omega);rw[show ns.length-(i+1)+1=ns.length-i by omega]at e1;rw[e1,show ns.length-(i+1)=ns.length-1-i by omega];exact this
end Go.Proofs.YtolhbeekfjnfmaaGreatDoor

import Derived.Test.YtolhbeekfjnfmaaGreatDoorM23
set_option maxHeartbeats 8000000
set_option maxRecDepth 100000
namespace Go.Proofs.YtolhbeekfjnfmaaGreatDoor
variable {F:List Ft}{cs:List Sv.Cond}{c:Ch}{Z:List Tok}{f:Ft}{a8:List Ch}{U:Nat->Nat}{v x y av cv hd:Value}{w w1 w3 w4 wj w2 w':World}{b t i ru q k bc lb:Nat}{ss:List Site}
structure ChOk(F:List Ft)(cs:List Sv.Cond)(c:Ch):Prop where
 jn:c.jn=O3 0 cs
 good:Good F [] 0 c.ns cs
 inv:Inv [[]] c.ns c.e
 heap:Hp.Is Tok.less c.e.wait
theorem Q3k{α:Type}(lt:α->α->Bool):Hp.Is lt ([]:List α):=by
 intro j h1 h2;simp at h2
theorem ChOk.new(cs:List Sv.Cond):ChOk [] cs (Eu cs)/\Fd [] (Eu cs).e:=by
 refine⟨⟨rfl,Good.same (Hu cs [] 0) (Hm _ _ _),?_,Jl _ _ (Q3k _)⟩,Fd.arr _ _ (by unfold Fd;exact DU _)⟩;have:=Inv.arr (ns:=Ff [] 0 cs) (e:=⟨[],[]⟩) [[]] (Nl cs [] 0);exact this
theorem ChOk.few(h:ChOk F cs c):c.ns.length=cs.length:=h.good.len
theorem ChOk.wf{F:List Ft}{cs:List Sv.Cond}{c:Ch}(h:ChOk F cs c)(hl:cs.length<=4):WF [] c.ns/\∀t∈c.e.toks,HasAr (Hq [] c.ns) t:=
 Good.wf (A:=[]) (B:=[[]]) h.good (fun s hs=>by simp at hs) (fun t ht=>by simp at ht;subst ht;rfl) h.inv (by simpa using hl)
theorem ChOk.fit(h:ChOk F cs c)(hZ:Fd Z c.e)(hl:cs.length<=4)(hF:F.length<=16):ChFit c:=by
 obtain⟨h1,h2⟩:=h.wf hl;refine⟨h1,⟨h2,fun t ht=>h2 t (hZ.mem_iff.2 (AY.2 (.inl ht)))⟩,Good.bd hF (by omega) h.good h.inv (by simp) hZ.le,by rw[h.few];exact hl⟩
theorem ChOk.add(h:ChOk F cs c)(hZ:Fd Z c.e)(f:Ft):ChOk (F++[f]) cs (G8 f c)/\∃Z',Fd Z' (G8 f c).e/\(∀z∈Z',z∈Z)/\∀t∈(G8 f c).e.wait,t∈c.e.wait\/Tok.has f t=true:=by
 obtain⟨h1,h2⟩:=Om f h.good (by simp) (fun t ht=>by simp at ht;subst ht;rfl) h.inv;obtain⟨⟨Z',k1,k2⟩,k3,k4⟩:=I2 (f:=f) c.ns.length c.ns hZ h.heap;exact⟨⟨h.jn,h1,h2,k3⟩,Z',k1,k2,k4⟩
theorem Rp:∀(ns:List Nd) (cs:List Sv.Cond) (A:List Nat) {F:List Ft} {ss:List Site} {k:Nat},Good F ss k ns cs->(Hq A ns).length=O3 A.length cs
 | [],[],_,_,_,_,_=>rfl
 | [],_::_,_,_,_,_,h=>h.elim
 | _::_,[],_,_,_,_,h=>h.elim
 | n::ns,c::cs,A,F,ss,k,h=>by
  obtain⟨h1,h2,h3,h4⟩:=h;subst h1;unfold Hq O3;rw[Rp ns cs _ h4];congr 1
  split<;>simp
theorem ChOk.jlen(h:ChOk F cs c)(hl:cs.length<=4):∀t∈c.e.toks,t.length=c.jn:=fun t ht=>by
 rw[((h.wf hl).2 t ht).len,Rp c.ns cs [] h.good,h.jn];rfl
theorem Qi:∀(cs:List Sv.Cond) (k:Nat),O3 k cs<=k+cs.length
 | [],_=>AW _
 | c::cs,k=>by
  unfold O3;have:=Qi cs (if c.neg=true then k else k+1);rw[AP];split at this<;>rename_i hn
  ·rw[AQ hn];omega
  ·rw[AO hn];omega
theorem Nc:∀(a b z:List Int),a.length=b.length->cmpL (a++z) (b++z)=cmpL a b
 | [],[],z,_=>by rw[CW,Cy];rfl
 | [],_::_,_,h=>by simp at h
 | _::_,[],_,h=>by simp at h
 | x::a,y::b,z,h=>by
  rw[CN,CN,Ho,Ho,Nc a b z (by simpa using h)]
theorem ChOk.mats{l:List Tok}(h:ChOk F cs c)(hl:cs.length<=4)(aK:∀d∈cs,∀u∈d.terms,El u)(hF:(F.map (fun g=>(g.id,g.f))).Pairwise (fun p q=>p.1<q.1))(hp:l.Perm c.e.toks)(hs:l.Pairwise (fun a b=>cmpL a.nums b.nums<=0)) :
  l.map Tok.ids=Ar (F.map (fun g=>(g.id,g.f))) cs [] []:=by
 have h1:=Good.outs (ss:=[]) (t:=[]) (b:=[]) h.good (by simp) aK (fun x=>rfl)
 have h2:l.Perm (reach c.ns []):=by
  refine hp.trans ?_;have:=h.inv.toks;simpa using this
 have h3:(l.map Tok.ids).Perm (Ar (F.map (fun g=>(g.id,g.f))) cs [] []):=by
  rw[show ([]:List Int)=([]:Tok).map (fun g=>g.id) from rfl,<-h1];exact h2.map _
 refine(Xr h3.symm (Cw _ hF cs [] []) ?_).symm;rw[GQ];refine hs.imp_of_mem (fun {a b} ha hb hab=>?_);have la:=h.jlen hl a (hp.mem_iff.1 ha);have lb:=h.jlen hl b (hp.mem_iff.1 hb);unfold Tok.nums at hab;rw[la,lb,Nc _ _ _ (by simp[la,lb])] at hab;exact hab
theorem Good.inF{F:List Ft}:∀ {ss:List Site} {k:Nat} {ns:List Nd} {cs:List Sv.Cond} {B:List Tok} {e:En},Good F ss k ns cs->Inv B ns e->(∀t∈B,∀g∈t,g∈F)->∀t∈e.toks,∀g∈t,g∈F
 | _,_,[],[],B,e,_,hi,hB,t,ht=>hB t ((show e.toks.Perm B from hi).mem_iff.1 ht)
 | _,_,[],_::_,_,_,h,_,_,_,_=>h.elim
 | _,_,_::_,[],_,_,h,_,_,_,_=>h.elim
 | ss,k,n::ns,c::cs,B,e,h,hi,hB,t,ht=>by
  obtain⟨_,_,hK,hg⟩:=h;refine Good.inF hg hi.2 (fun u hu g ZP=>?_) t ht;obtain⟨v,hv,huv⟩:=CT.1 hu;rcases Nd.ext_mem huv with rfl|⟨f,hf,rfl⟩
  ·exact hB _ hv g ZP
  ·rcases AY.1 ZP with h|h
   ·exact hB v hv g h
   ·rw[AX] at h
    subst h;rw[hK] at hf;exact(BH.1 hf).1
theorem ChOk.inF{F:List Ft}{cs:List Sv.Cond}{c:Ch}(h:ChOk F cs c):∀t∈c.e.toks,∀g∈t,g∈F:=
 h.good.inF h.inv (fun t ht=>by simp at ht;subst ht;simp)
theorem ChOk.perm(h:ChOk F cs c)(aK:∀d∈cs,∀u∈d.terms,El u):(c.e.toks.map Tok.ids).Perm (Ar (F.map (fun g=>(g.id,g.f))) cs [] []):=by
 have h1:=Good.outs (ss:=[]) (t:=[]) (b:=[]) h.good (by simp) aK (fun x=>rfl);have h2:c.e.toks.Perm (reach c.ns []):=by have:=h.inv.toks;simpa using this
 rw[show ([]:List Int)=([]:Tok).map (fun g=>g.id) from rfl,<-h1];exact h2.map _
def FtAsc(F:List Ft):Prop:=F.Pairwise (fun a b=>a.id<b.id/\a.blk<b.blk)
theorem FtAsc.one{F:List Ft}(h:FtAsc F){a b:Ft}(ha:a∈F)(hb:b∈F)(he:a.id=b.id\/a.blk=b.blk):a=b:=by
 induction F with
 | nil=>simp at ha
 | cons x F ih=>
  obtain⟨h1,h2⟩:=DX.1 h;rcases CQ.1 ha with rfl|ha'<;>rcases CQ.1 hb with rfl|hb'
  ·rfl
  ·have:=h1 b hb';omega
  ·have:=h1 a ha';omega
  ·exact ih h2 ha' hb'
theorem FtAsc.ids{F:List Ft}(h:FtAsc F):∀ {t u:Tok},(∀g∈t,g∈F)->(∀g∈u,g∈F)->t.ids=u.ids->t=u
 | [],[],_,_,_=>rfl
 | [],_::_,_,_,he=>by simp[Tok.ids] at he
 | _::_,[],_,_,he=>by simp[Tok.ids] at he
 | a::t,b::u,ht,hu,he=>by
  simp only[Tok.ids,DN,GX] at he;rw[h.one (ht a (BF ..)) (hu b (BF ..)) (.inl he.1),FtAsc.ids h (t:=t) (u:=u) (fun g hg=>ht g (BG _ hg)) (fun g hg=>hu g (BG _ hg)) he.2]
theorem FtAsc.fst(h:FtAsc F):(F.map (fun g=>(g.id,g.f))).Pairwise (fun p q=>p.1<q.1):=by
 rw[GQ];exact h.imp (fun h=>h.1)
theorem Wq:∀(a:List Int),¬ Fh a a:=fun a h=>by have:=Ht a a h;rw[Cy] at this;omega
theorem ChOk.nodup(h:ChOk F cs c)(aK:∀d∈cs,∀u∈d.terms,El u)(hF:FtAsc F):c.e.toks.Nodup:=by
 have h1:(Ar (F.map (fun g=>(g.id,g.f))) cs [] []).Nodup:=by
  rw[IJ];refine(Cw _ hF.fst cs [] []).imp (fun {a b} hab e=>?_);subst e;exact Wq a hab
 have h2:=(h.perm aK).nodup_iff.2 h1;rw[IJ,GQ] at h2;rw[IJ];exact h2.imp (fun {a b} hab e=>hab (by rw[e]))
structure ChSt(F:List Ft)(cs:List Sv.Cond)(c:Ch)(Z:List Tok):Prop where
 ok:ChOk F cs c
 fd:Fd Z c.e
 few:cs.length<=4
 terms:∀d∈cs,∀u∈d.terms,El u
theorem FtAsc.snoc(h:FtAsc F)(hf:∀g∈F,g.id<f.id/\g.blk<f.blk):FtAsc (F++[f]):=FQ.2 ⟨h,IW _ _,fun a ha b hb=>by rw[AX] at hb;subst hb;exact hf a ha⟩
theorem ChSt.add{F:List Ft}{cs:List Sv.Cond}{c:Ch}{Z:List Tok}(h:ChSt F cs c Z)(hF:FtAsc F){f:Ft}(hf:∀g∈F,g.id<f.id/\g.blk<f.blk):∃Z',ChSt (F++[f]) cs (G8 f c) Z'/\∀t,t∈Z'↔t∈Z/\t∈(G8 f c).e.toks:=by
 obtain⟨h1,Z',h2,h3,h4⟩:=h.ok.add h.fd f;refine⟨Z',⟨h1,h2,h.few,h.terms⟩,fun t=>⟨fun ht=>⟨h3 t ht,h2.mem_iff.2 (AY.2 (.inr ht))⟩,fun⟨ht,fh⟩=>?_⟩⟩;rcases AY.1 (h2.mem_iff.1 fh) with hw|hz
 ·exfalso
  rcases h4 t hw with hw2|hh
  ·have hn:=h.fd.nodup_iff.1 (h.ok.nodup h.terms hF)
   exact(JO.1 hn).2.2 t hw2 t ht rfl
  ·unfold Tok.has at hh
   rw[EB] at hh;obtain⟨g,hg,he⟩:=hh;have iR:=h.ok.inF t (h.fd.mem_iff.2 (AY.2 (.inr ht))) g hg;have:=(hf g iR).2;rw[beq_iff_eq] at he;omega
 ·exact hz
def ChsSt(F:List Ft):List Sv.Rule->List Ch->List (List Tok)->Prop
 | [],[],[]=>True
 | r::rs,c::a8,Z::Zs=>ChSt F r.conds c Z/\ChsSt F rs a8 Zs
 | _,_,_=>False
theorem ChsSt.len{F:List Ft}:∀ {rs:List Sv.Rule} {a8:List Ch} {Zs:List (List Tok)},ChsSt F rs a8 Zs->a8.length=rs.length/\Zs.length=rs.length
 | [],[],[],_=>⟨rfl,rfl⟩
 | r::rs,c::a8,Z::Zs,h=>by
  obtain⟨h1,h2⟩:=ChsSt.len h.2;exact⟨by rw[AP,AP,h1],by rw[AP,AP,h2]⟩
 | [],[],_::_,h=>h.elim
 | [],_::_,[],h=>h.elim
 | [],_::_,_::_,h=>h.elim
 | _::_,[],[],h=>h.elim
 | _::_,[],_::_,h=>h.elim
 | _::_,_::_,[],h=>h.elim
theorem ChsSt.get{F:List Ft}:∀ {rs:List Sv.Rule} {a8:List Ch} {Zs:List (List Tok)} {i:Nat} {r:Sv.Rule},ChsSt F rs a8 Zs->rs[i]?=some r->∃c Z,a8[i]?=some c/\Zs[i]?=some Z/\ChSt F r.conds c Z
 | [],_,_,_,_,_,h=>by simp at h
 | r::rs,c::a8,Z::Zs,0,q,h,hi=>by
  simp only[BU,AE] at hi;subst hi;exact⟨c,Z,rfl,rfl,h.1⟩
 | r::rs,c::a8,Z::Zs,i+1,q,h,hi=>by
  rw[BS] at hi;obtain⟨c',Z',h1,h2,h3⟩:=ChsSt.get h.2 hi;exact⟨c',Z',by rw[BS];exact h1,by rw[BS];exact h2,h3⟩
 | _::_,[],[],_,_,h,_=>h.elim
 | _::_,[],_::_,_,_,h,_=>h.elim
 | _::_,_::_,[],_,_,h,_=>h.elim
theorem ChsSt.add{F:List Ft}(hF:FtAsc F){f:Ft}(hf:∀g∈F,g.id<f.id/\g.blk<f.blk):∀ {rs:List Sv.Rule} {a8:List Ch} {Zs:List (List Tok)},ChsSt F rs a8 Zs->
  ∃eZ,ChsSt (F++[f]) rs (a8.map (G8 f)) eZ/\∀(i:Nat) (t:Tok),(∃Z',eZ[i]?=some Z'/\t∈Z')↔∃Z c',Zs[i]?=some Z/\(a8.map (G8 f))[i]?=some c'/\t∈Z/\t∈c'.e.toks
 | [],[],[],_=>⟨[],trivial,fun i t=>⟨fun⟨_,h,_⟩=>by simp at h,fun⟨_,_,h,_⟩=>by simp at h⟩⟩
 | r::rs,c::a8,Z::Zs,h=>by
  obtain⟨Z',h1,h2⟩:=h.1.add hF hf;obtain⟨eZ,h3,h4⟩:=ChsSt.add hF hf h.2;refine⟨Z'::eZ,⟨h1,h3⟩,fun i t=>?_⟩;cases i with
  | zero=>
   simp only[BU,DN,AE,exists_eq_left'];rw[h2 t];constructor
   ·rintro⟨k1,k2⟩
    exact⟨Z,G8 f c,rfl,rfl,k1,k2⟩
   ·rintro⟨_,_,rfl,rfl,k1,k2⟩
    exact⟨k1,k2⟩
  | succ i=>
   rw[DN];simp only[BS];exact h4 i t
 | [],[],_::_,h=>h.elim
 | [],_::_,[],h=>h.elim
 | [],_::_,_::_,h=>h.elim
 | _::_,[],[],h=>h.elim
 | _::_,[],_::_,h=>h.elim
 | _::_,_::_,[],h=>h.elim
theorem Ka(L:List (Int×Sv.Fact))(m:Int×List Int):∀(rs:List Sv.Rule) (k:Nat),m∈Bo L k rs↔∃i r,rs[i]?=some r/\m.1=((k+i:Nat):Int)/\m.2∈Ar L r.conds [] []
 | [],k=>by simp[Bo]
 | r::rs,k=>by
  unfold Bo;rw[AY,Ka L m rs (k+1)];constructor
  ·rintro(h|⟨i,q,h1,h2,h3⟩)
   ·obtain⟨ids,h1,rfl⟩:=CJ.1 h
    exact⟨0,r,rfl,rfl,h1⟩
   ·exact⟨i+1,q,by rw[BS];exact h1,by rw[h2];congr 1;omega,h3⟩
  ·rintro⟨i,q,h1,h2,h3⟩
   cases i with
   | zero=>
    simp only[BU,AE] at h1;subst h1;exact .inl (CJ.2 ⟨m.2,h3,by rw[<-show m.1=(k:Int) from h2]⟩)
   | succ i=>
    rw[BS] at h1;exact .inr ⟨i,q,h1,by rw[h2];congr 1;omega,h3⟩
theorem Dz(L:List (Int×Sv.Fact))(m:Int×List Int)(rs:List Sv.Rule):m∈Al rs L↔∃(i:Nat) (r:Sv.Rule),rs[i]?=some r/\m.1=(i:Int)/\m.2∈Ar L r.conds [] []:=by
 unfold Al;rw[Ka];simp only[BV]
theorem Od(ms fd:List (Int×List Int))(m:Int×List Int):m∈Bp ms fd↔m∈fd/\m∈ms:=by
 unfold Bp Dv;rw[BH,EB];constructor
 ·rintro⟨h1,k,h2,h3⟩
  rw[DF] at h3;subst h3;exact⟨h1,h2⟩
 ·rintro⟨h1,h2⟩
  exact⟨h1,m,h2,by rw[DF]⟩
structure XSt(s:Sv.St)(F:List Ft)(a8:List Ch)(Zs:List (List Tok)):Prop where
 facts:F.map (fun g=>(g.id,g.f))=s.L
 asc:FtAsc F
 cnt:∀g∈F,1<=g.id/\g.id<=s.cnt
 c0:0<=s.cnt
 few:F.length<=16
 rules:ChsSt F s.rs a8 Zs
 eight:s.rs.length<=8
 fired:∀m,m∈s.fired↔∃(i:Nat) (Z:List Tok) (t:Tok),Zs[i]?=some Z/\t∈Z/\m=((i:Int),t.ids)
theorem ChsSt.new:∀(rs:List Sv.Rule),(∀r∈rs,r.conds.length<=4/\∀d∈r.conds,∀u∈d.terms,El u)->ChsSt [] rs (rs.map (fun r=>Eu r.conds)) (rs.map (fun _=>[]))
 | [],_=>trivial
 | r::rs,h=>⟨⟨(ChOk.new r.conds).1,(ChOk.new r.conds).2,(h r (BF ..)).1,(h r (BF ..)).2⟩,ChsSt.new rs (fun q hq=>h q (BG _ hq))⟩
theorem XSt.new(rs:List Sv.Rule)(h8:rs.length<=8)(h:∀r∈rs,r.conds.length<=4/\∀d∈r.conds,∀u∈d.terms,El u):XSt ⟨rs,[],0,[]⟩ [] (rs.map (fun r=>Eu r.conds)) (rs.map (fun _=>[])):=by
 refine⟨rfl,List.Pairwise.nil,by simp,FP _,by simp,ChsSt.new rs h,h8,fun m=>⟨fun hm=>by simp at hm,fun⟨i,Z,t,h1,h2,_⟩=>?_⟩⟩;rw[BR] at h1;cases hr:rs[i]? with
 | none=>rw[hr] at h1;simp at h1
 | some r=>rw[hr] at h1;simp at h1;subst h1;simp at h2
theorem L6{F' G:List Ft}{rs:List Sv.Rule}{MW:List Ch}{Zs eZ:List (List Tok)}{fired:List (Int×List Int)}{L':List (Int×Sv.Fact)}(hG:FtAsc G)(hFG:∀g∈F,g∈G)(VR:∀g∈F',g∈G)(h0:ChsSt F rs a8 Zs)(h1:ChsSt F' rs MW eZ)(hmap:F'.map (fun g=>(g.id,g.f))=L')
 (h2:∀(i:Nat) (t:Tok),(∃Z',eZ[i]?=some Z'/\t∈Z')↔∃Z c',Zs[i]?=some Z/\MW[i]?=some c'/\t∈Z/\t∈c'.e.toks)
 (hf:∀m,m∈fired↔∃(i:Nat) (Z:List Tok) (t:Tok),Zs[i]?=some Z/\t∈Z/\m=((i:Int),t.ids))(m:Int×List Int) :
  m∈Bp (Al rs L') fired↔∃(i:Nat) (Z:List Tok) (t:Tok),eZ[i]?=some Z/\t∈Z/\m=((i:Int),t.ids):=by
 rw[Od,hf m,Dz];constructor
 ·rintro⟨⟨i,Z,t,k1,k2,rfl⟩,j,r,k3,k4,k5⟩
  have l8:j=i:=by have:((i:Nat):Int)=(j:Int):=k4;omega
  subst l8;obtain⟨c',Z',q1,q2,q3⟩:=h1.get k3;obtain⟨c,Z2,q4,q5,q6⟩:=h0.get k3;rw[k1] at q5;simp only[AE] at q5;subst q5;have hp:=q3.ok.perm q3.terms;rw[hmap] at hp;obtain⟨u,hu,he⟩:=CJ.1 (hp.mem_iff.2 k5);have hut:=hG.ids (fun g hg=>VR g (q3.ok.inF u hu g hg)) (fun g hg=>hFG g (q6.ok.inF t (q6.fd.mem_iff.2 (AY.2 (.inr k2))) g hg)) he;subst hut;obtain⟨Z3,q7,q8⟩:=(h2 j u).2 ⟨Z,c',k1,q1,k2,hu⟩;exact⟨j,Z3,u,q7,q8,rfl⟩
 ·rintro⟨i,Z',t,k1,k2,rfl⟩
  obtain⟨Z,c',q1,q2,q3,q4⟩:=(h2 i t).1 ⟨Z',k1,k2⟩
  have hi:i<rs.length:=by
   have:=(AL.1 q2).1;rw[h1.len.1] at this;exact this
  refine⟨⟨i,Z,t,q1,q3,rfl⟩,i,rs[i],AB hi,rfl,?_⟩;obtain⟨c2,Z2,p1,p2,p3⟩:=h1.get (AB hi);rw[q2] at p1;simp only[AE] at p1;subst p1;have hp:=p3.ok.perm p3.terms;rw[hmap] at hp;exact hp.mem_iff.1 (CJ.2 ⟨t,q4,rfl⟩)
theorem XSt.add{s:Sv.St}{F:List Ft}{a8:List Ch}{Zs:List (List Tok)}(h:XSt s F a8 Zs){f:Sv.Fact}{blk:Nat}(hb:∀g∈F,g.blk<blk)(QK:s.L.length<16) :
  ∃eZ,XSt ⟨s.rs,s.L++[(s.cnt+1,f)],s.cnt+1,Bp (Al s.rs (s.L++[(s.cnt+1,f)])) s.fired⟩ (F++[⟨blk,s.cnt+1,f⟩]) (a8.map (G8 ⟨blk,s.cnt+1,f⟩)) eZ:=by
 have hf:∀g∈F,g.id<(⟨blk,s.cnt+1,f⟩:Ft).id/\g.blk<(⟨blk,s.cnt+1,f⟩:Ft).blk:=fun g hg=>⟨by have:=(h.cnt g hg).2;show g.id<s.cnt+1;omega,hb g hg⟩
 obtain⟨eZ,h1,h2⟩:=h.rules.add h.asc hf;have hmap:(F++[(⟨blk,s.cnt+1,f⟩:Ft)]).map (fun g=>(g.id,g.f))=s.L++[(s.cnt+1,f)]:=by rw[CG,h.facts];rfl
 have hl:F.length=s.L.length:=by rw[<-h.facts,BA]
 have LR:=h.asc.snoc hf;have hc0:=h.c0;refine⟨eZ,hmap,LR,fun g hg=>?_,by show (0:Int)<=s.cnt+1;omega,by rw[AK,BC];omega,h1,h.eight,L6 LR (fun g hg=>AY.2 (.inl hg)) (fun g hg=>hg) h.rules h1 hmap h2 h.fired⟩;rcases AY.1 hg with hg|hg
 ·have:=h.cnt g hg;exact⟨this.1,by show g.id<=s.cnt+1;omega⟩
 ·rw[AX] at hg
  subst hg;exact⟨by show 1<=s.cnt+1;omega,FP _⟩
def Ij(f:Ft)(c:Ch):Ch:=⟨c.jn,(Ti f c.ns c.e).1,(Ti f c.ns c.e).2⟩
def K9(f:Ft)(F:List Ft):List Ft:=F.filter (fun g=>!(g.blk==f.blk))
theorem ChSt.del(h:ChSt F cs c Z)(hF:FtAsc F)(hf:f∈F):ChSt (K9 f F) cs (Ij f c) (Z.filter (fun t=>!Tok.has f t))/\∀t,t∈Z.filter (fun t=>!Tok.has f t)↔t∈Z/\t∈(Ij f c).e.toks:=by
 obtain⟨h1,h2⟩:=Q1q h.ok.good (fun g hg he=>by rw[hF.one hg hf (.inr he)]) h.ok.inv (fun t ht=>by simp at ht;subst ht;rfl);obtain⟨h3,h4⟩:=Vs (f:=f) (ns:=c.ns) h.fd;have aK:ChOk (K9 f F) cs (Ij f c):=⟨h.ok.jn,h1,h2,h4⟩
 refine⟨⟨aK,h3,h.few,h.terms⟩,fun t=>⟨fun ht=>⟨(BH.1 ht).1,h3.mem_iff.2 (AY.2 (.inr ht))⟩,fun⟨ht,fh⟩=>BH.2 ⟨ht,?_⟩⟩⟩;have hin:=aK.inF t fh;unfold Tok.has;rw[EY,EI];intro g hg he;have:=(BH.1 (hin g hg)).2;rw[he] at this;cases this
theorem ChsSt.del{F:List Ft}(hF:FtAsc F){f:Ft}(hf:f∈F):∀ {rs:List Sv.Rule} {a8:List Ch} {Zs:List (List Tok)},ChsSt F rs a8 Zs->
  ∃eZ,ChsSt (K9 f F) rs (a8.map (Ij f)) eZ/\∀(i:Nat) (t:Tok),(∃Z',eZ[i]?=some Z'/\t∈Z')↔∃Z c',Zs[i]?=some Z/\(a8.map (Ij f))[i]?=some c'/\t∈Z/\t∈c'.e.toks
 | [],[],[],_=>⟨[],trivial,fun i t=>⟨fun⟨_,h,_⟩=>by simp at h,fun⟨_,_,h,_⟩=>by simp at h⟩⟩
 | r::rs,c::a8,Z::Zs,h=>by
  obtain⟨h1,h2⟩:=h.1.del hF hf;obtain⟨eZ,h3,h4⟩:=ChsSt.del hF hf h.2;refine⟨_::eZ,⟨h1,h3⟩,fun i t=>?_⟩;cases i with
  | zero=>
   simp only[BU,DN,AE,exists_eq_left'];rw[h2 t];constructor
   ·rintro⟨k1,k2⟩
    exact⟨Z,Ij f c,rfl,rfl,k1,k2⟩
   ·rintro⟨_,_,rfl,rfl,k1,k2⟩
    exact⟨k1,k2⟩
  | succ i=>
   rw[DN];simp only[BS];exact h4 i t
 | [],[],_::_,h=>h.elim
 | [],_::_,[],h=>h.elim
 | [],_::_,_::_,h=>h.elim
 | _::_,[],[],h=>h.elim
 | _::_,[],_::_,h=>h.elim
 | _::_,_::_,[],h=>h.elim
theorem XSt.del{s:Sv.St}{F:List Ft}{a8:List Ch}{Zs:List (List Tok)}(h:XSt s F a8 Zs){f:Ft}(hf:f∈F) :
  ∃eZ,XSt ⟨s.rs,s.L.filter (fun p=>!(p.1==f.id)),s.cnt,Bp (Al s.rs (s.L.filter (fun p=>!(p.1==f.id)))) s.fired⟩ (K9 f F) (a8.map (Ij f)) eZ:=by
 obtain⟨eZ,h1,h2⟩:=h.rules.del h.asc hf;have cg:∀g∈K9 f F,g∈F:=fun g hg=>(BH.1 hg).1
 have hmap:(K9 f F).map (fun g=>(g.id,g.f))=s.L.filter (fun p=>!(p.1==f.id)):=by
  rw[<-h.facts,KC];unfold K9;congr 1
  refine List.filter_congr (fun g hg=>?_);simp only[Function.comp];congr 1
  by_cases he:g=f
  ·subst he;simp
  ·have e1:(g.blk==f.blk)=false:=by cases hx:g.blk==f.blk;rfl;rw[beq_iff_eq] at hx;exact absurd (h.asc.one hg hf (.inr hx)) he
   have e2:(g.id==f.id)=false:=by cases hx:g.id==f.id;rfl;rw[beq_iff_eq] at hx;exact absurd (h.asc.one hg hf (.inl hx)) he
   rw[e1,e2]
 refine⟨eZ,hmap,h.asc.sublist List.filter_sublist,fun g hg=>h.cnt g (cg g hg),h.c0,AU (CR _ _) h.few,h1,h.eight,L6 h.asc (fun g hg=>hg) cg h.rules h1 hmap h2 h.fired⟩
theorem Tb(p:Sv.Term->Prop)(hp:∀l i t j,A8 l i=.inr (t,j)->p t)(n:Nat)(l:List UInt8)(acc:List Sv.Term)(i:Nat)(ts:List Sv.Term)(j:Nat)(h:Dr n l acc i=.inr (ts,j))(ha:∀t∈acc,p t):∀t∈ts,p t:=by
 induction n generalizing acc i with
 | zero=>cases h
 | succ n ih=>
  rw[Em] at h;split at h
  ·simp only[CC,CH] at h
   rw[<-h.1];exact ha
  ·cases hr:A8 l (Ag l i) with
   | inl k=>rw[hr] at h;cases h
   | inr q=>
    obtain⟨t,k⟩:=q;rw[hr] at h;refine ih (acc++[t]) k h (fun x hx=>?_);rcases AY.1 hx with hx|hx
    ·exact ha x hx
    ·rw[AX] at hx
     rw[hx];exact hp l _ t k hr
theorem J1(p:Sv.Term->Prop)(hp:∀l i t j,A8 l i=.inr (t,j)->p t)(l:List UInt8)(i:Nat)(c:Sv.Cond)(j:Nat)(h:An l i=.inr (c,j)):∀t∈c.terms,p t:=by
 unfold An at h;simp only at h;split at h
 ·split at h
  ·cases ht:Cl l (Ag l (Ag l i+1)+1) with
   | inl m=>rw[ht] at h;cases h
   | inr q=>
    obtain⟨ts,m⟩:=q;rw[ht] at h;simp only[CC,CH] at h;obtain⟨rfl,_⟩:=h;exact Tb p hp _ l [] _ ts m ht (by simp)
  ·cases h
 ·cases h
theorem So(p:Sv.Term->Prop)(hp:∀l i t j,A8 l i=.inr (t,j)->p t)(n:Nat)(l:List UInt8)(acc:List Sv.Cond)(i:Nat)(cs:List Sv.Cond)(j:Nat)(h:Dk n l acc i=.inr (cs,j))(ha:∀c∈acc,∀t∈c.terms,p t):∀c∈cs,∀t∈c.terms,p t:=by
 induction n generalizing acc i with
 | zero=>cases h
 | succ n ih=>
  rw[De] at h;split at h
  ·simp only[CC,CH] at h
   rw[<-h.1];exact ha
  ·generalize (if (Ai l (Ag l i)==33)=true then Ag l i+1 else Ag l i)=x at h
   cases hr:An l x with
   | inl k=>rw[hr] at h;cases h
   | inr q=>
    obtain⟨c,k⟩:=q;rw[hr] at h;refine ih _ k h (fun y hy=>?_);rcases AY.1 hy with hy|hy
    ·exact ha y hy
    ·rw[AX] at hy
     rw[hy];exact J1 p hp l x c k hr
theorem Pz(p:Sv.Term->Prop)(hp:∀l i t j,A8 l i=.inr (t,j)->p t)(l:List UInt8)(i:Nat)(q:Sv.Rule)(j:Nat)(h:A1 l i=.inr (q,j)):∀c∈q.conds,∀t∈c.terms,p t:=by
 unfold A1 at h;simp only at h;split at h
 ·cases h
 ·split at h
  ·cases hr:Bl l (Ag l (Aq 8 l i)+1) with
   | inl m=>rw[hr] at h;cases h
   | inr q2=>
    obtain⟨cs,m⟩:=q2;rw[hr] at h;simp only[CC,CH] at h;obtain⟨rfl,_⟩:=h;unfold Bl at hr;cases hc:An l (Ag l (Aq 8 l i)+1) with
    | inl k=>rw[hc] at hr;cases hr
    | inr q3=>
     obtain⟨c,k⟩:=q3;rw[hc] at hr;refine So p hp _ l [c] k cs m hr (fun y hy=>?_);rw[AX] at hy;rw[hy];exact J1 p hp l _ c k hc
  ·cases h
theorem S7(p:Sv.Term->Prop)(hp:∀l i t j,A8 l i=.inr (t,j)->p t)(n:Nat)(l:List UInt8)(acc:List Sv.Rule)(i:Nat)(rs:List Sv.Rule)(h:F8 n l acc i=.inr rs)(ha:∀q∈acc,∀c∈q.conds,∀t∈c.terms,p t):∀q∈rs,∀c∈q.conds,∀t∈c.terms,p t:=by
 induction n generalizing acc i with
 | zero=>cases h
 | succ n ih=>
  rw[Df] at h;split at h
  ·cases hr:A1 l i with
   | inl k=>rw[hr] at h;cases h
   | inr q2=>
    obtain⟨q,k⟩:=q2;rw[hr] at h;refine ih _ (Ag l k) h (fun y hy=>?_);rcases AY.1 hy with hy|hy
    ·exact ha y hy
    ·rw[AX] at hy
     rw[hy];exact Pz p hp l i q k hr
  ·simp only[CC] at h
   rw[<-h];exact ha
theorem Oj(l:List UInt8)(i:Nat)(t:Sv.Term)(j:Nat)(h:A8 l i=.inr (t,j)):El t:=by
 unfold A8 at h;split at h
 ·simp only[CC,CH] at h
  obtain⟨rfl,_⟩:=h;exact⟨AG _,fun h=>by cases h⟩
 ·split at h
  ·simp only[CC,CH] at h
   obtain⟨rfl,_⟩:=h;exact⟨FT _,fun _=>rfl⟩
  ·split at h
   ·have h3:=(Cn _ _ _ _ h).1
    rw[h3];exact⟨AW _,fun h=>by cases h⟩
   ·cases h
theorem Oh(l:List UInt8)(rs:List Sv.Rule)(h:Bn l=.inr rs):∀q∈rs,∀c∈q.conds,∀t∈c.terms,El t:=S7 El Oj _ l [] _ rs h (by simp)
end Go.Proofs.YtolhbeekfjnfmaaGreatDoor
namespace Go.Proofs.YtolhbeekfjnfmaaGreatDoor
open Go.RowKit
variable {F:List Ft}{cs:List Sv.Cond}{c:Ch}{Z:List Tok}{f:Ft}{a8:List Ch}{U:Nat->Nat}{v x y av cv hd:Value}{w w1 w3 w4 wj w2 w':World}{b t i ru q k bc lb:Nat}{ss:List Site}
theorem NetAt.keep{U U':Nat->Nat}{nb:Nat}{a8:List Ch}{w w':World}{S:Nat->Prop}(h:NetAt U nb a8 w)(hg:GrS S w w')(hs:∀i,(U i=1\/4<=U i)->¬ S i)(ho:∀i,i<w.heap.size->U' i=U i):NetAt U' nb a8 w':=by
 obtain⟨cv,bs,h1,h2,h3,h4⟩:=h;exact⟨cv,bs,hg.blk h1 (hs nb (.inl h2)),by rw[ho nb (Ad h1)];exact h2,h3.keep2 hg (fun i hi=>hs i (.inl hi)) (fun i hi e=>by rw[ho i hi];exact e),ChsAt.keep hg ho h4 (fun i hi=>hs i (by omega))⟩
structure XAt(U:Nat->Nat)(x nb:Nat)(fv:Value)(F:List Ft)(cnt:Int)(a8:List Ch)(w:World):Prop where
 blk:w.heap[x]?=some (.cells #[.pointer (some ⟨nb,0,none⟩),fv,.int .i64 cnt] 88 (0,0))
 ux:U x=2
 facts:TRow U 3 90 1 Qf fv F w
 fts:∀g∈F,FtAt U g w
 net:NetAt U nb a8 w
theorem XAt.keep{U U':Nat->Nat}{x nb:Nat}{fv:Value}{F:List Ft}{cnt:Int}{a8:List Ch}{w w':World}{S:Nat->Prop}(h:XAt U x nb fv F cnt a8 w)(hg:GrS S w w')(hs:∀i,U i≠0->¬ S i)(ho:∀i,i<w.heap.size->U' i=U i):XAt U' x nb fv F cnt a8 w':=
 ⟨hg.blk h.blk (hs x (by rw[h.ux];omega)),by rw[ho x (Ad h.blk)];exact h.ux,h.facts.keep2 hg (fun i hi=>hs i (by omega)) (fun i hi e=>by rw[ho i hi];exact e),fun g bE=>(h.fts g bE).keep hg (fun i hi=>hs i (by omega)) (fun i hi e=>by rw[ho i hi];exact e),h.net.keep hg (fun i hi=>hs i (by omega)) ho⟩
theorem Q2t{x nb blk n m:Nat}{fv v':Value}{cnt:Int}{f:Sv.Fact}{w5:World}(h:XAt U x nb fv F cnt a8 w)(hg1:w.grownBy w1 none)(hg3:(w1.setCell ⟨x,2,none⟩ (.int .i64 (cnt+1))).grownBy w3 none)
 (hb:w.heap.size<=blk)(aH:w3.heap[blk]?=some (.cells #[.int .i64 f.kind,v,.int .i64 (cnt+1)] 93 (0,0)))(h4:f.vals.length<=4)(hv:IsAt w.heap.size v f.vals w3)(hg4:w3.grownBy w4 none)(hl:Longer fv v' n m w4 w5)(hr:RowAt 90 1 Qf 0 v' (F++[⟨blk,cnt+1,f⟩]) w5) :
  ∃U6,XAt U6 x nb v' (F++[⟨blk,cnt+1,f⟩]) (cnt+1) a8 (w5.setCell ⟨x,1,none⟩ v')/\FtAt U6 ⟨blk,cnt+1,f⟩ (w5.setCell ⟨x,1,none⟩ v')/\GrS (fun i=>2<=U i) w (w5.setCell ⟨x,1,none⟩ v')/\∀i,i<w.heap.size->U6 i=U i:=by
 have gO:=Ad h.blk;have hsc:(w1.setCell ⟨x,2,none⟩ (.int .i64 (cnt+1))).heap.size=w1.heap.size:=by simp
 have hs1:=hg1.size;have hs3:=hg3.size;have nB:=hg4.size;rw[hsc] at hs3;have yh:=Aj w1 x 2 (.int .i64 (cnt+1));have pI:=Aj w5 x 1 v';have br:∀g,fv.ownBlock=some g->g<w.heap.size:=fun g hg=>(h.facts.1.own g hg).2
 have oZ:∀g,fv.ownBlock=some g->U g=3:=h.facts.2;have fw:GrS (fun i=>i=x) w w4:=(((GrS.of hg1 (by simp):GrS (fun i=>i=x) w w1).then yh (fun g hg=>by simp at hg;exact .inr hg.symm)).then hg3 (by simp)).then hg4 (by simp)
 have cC:GrS (fun i=>i=x\/fv.ownBlock=some i) w w5:=(fw.mono (fun i hi=>.inl hi):GrS (fun i=>i=x\/fv.ownBlock=some i) w w4).trans (hl.gr (fun g hg=>.inr hg));have dh:GrS (fun i=>i=x\/fv.ownBlock=some i) w (w5.setCell ⟨x,1,none⟩ v'):=cC.then pI (fun g hg=>by simp at hg;exact .inr (.inl hg.symm))
 have OU:fv.ownBlock≠some x:=fun e=>by have:=oZ x e;have:=h.ux;omega
 have hx3:w3.heap[x]?=some (.cells #[.pointer (some ⟨nb,0,none⟩),fv,.int .i64 (cnt+1)] 88 (0,0)):=by
  have hx1:w1.heap[x]?=some (.cells #[.pointer (some ⟨nb,0,none⟩),fv,.int .i64 cnt] 88 (0,0)):=by rw[hg1.block x gO (by simp)];exact h.blk
  rw[hg3.block x (by rw[hsc];omega) (by simp),BB w1 x 2 _ _ _ hx1];rfl
 have ky:w5.heap[x]?=some (.cells #[.pointer (some ⟨nb,0,none⟩),fv,.int .i64 (cnt+1)] 88 (0,0)):=hl.block (by rw[hg4.block x (by omega) (by simp)];exact hx3) OU;obtain⟨U6,wL⟩:∃U6:Nat->Nat,U6=fun i=>if i<w.heap.size then U i else if i<w3.heap.size then 1 else 3:=⟨_,rfl⟩
 have o6:∀i,i<w.heap.size->U6 i=U i:=fun i hi=>by rw[wL];dsimp only;rw[AQ hi]
 have m6:∀i,w.heap.size<=i->i<w3.heap.size->U6 i=1:=fun i hi h3=>by rw[wL];dsimp only;rw[AO (by omega),AQ h3]
 have n6:∀i,w3.heap.size<=i->U6 i=3:=fun i hi=>by rw[wL];dsimp only;rw[AO (by omega),AO (by omega)]
 clear wL
 have yS:∀g,v'.ownBlock=some g->U6 g=3/\g≠x:=by
  intro g hg;rcases hl.own g hg with e|e
  ·exact⟨by rw[o6 g (br g e)];exact oZ g e,fun e'=>OU (by rw[<-e'];exact e)⟩
  ·exact⟨n6 g (by omega),by omega⟩
 have MM:GrS (fun i=>i=x\/fv.ownBlock=some i) w3 (w5.setCell ⟨x,1,none⟩ v'):=(((GrS.of hg4 (by simp):GrS (fun i=>i=x\/fv.ownBlock=some i) w3 w4)).trans (hl.gr (fun g hg=>.inr hg))).then pI (fun g hg=>by simp at hg;exact .inr (.inl hg.symm))
 have hfn:FtAt U6 ⟨blk,cnt+1,f⟩ (w5.setCell ⟨x,1,none⟩ v'):=by
  refine⟨m6 blk hb (Ad aH),h4,v,MM.blk aH (fun e=>?_),⟨MM.row (hv.weak (AG _)) (fun g hg e=>?_),fun g hg=>?_⟩⟩
  ·rcases e with e|e
   ·have e':blk=x:=e
    omega
   ·have e':blk<w.heap.size:=br _ e
    omega
  ·have:=(hv.own g hg).1
   rcases e with e|e
   ·omega
   ·have:=br _ e;omega
  ·exact m6 g (hv.own g hg).1 (hv.own g hg).2
 have dF:∀i,U i=1\/4<=U i->¬ (i=x\/fv.ownBlock=some i):=by
  rintro i hi (e|e)
  ·rw[e,h.ux] at hi;omega
  ·rw[oZ i e] at hi;omega
 refine⟨U6,⟨?_,by rw[o6 x gO];exact h.ux,⟨?_,fun g hg=>(yS g hg).1⟩,fun g hg=>?_,h.net.keep dh dF o6⟩,hfn,dh.mono (fun i hi=>?_),o6⟩
 ·rw[BB w5 x 1 _ _ _ ky];rfl
 ·exact hr.other pI (fun g hg e=>(yS g hg).2 (by simp at e;exact e.symm))
 ·rcases AY.1 hg with hg|hg
  ·exact(h.fts g hg).keep dh (fun i hi=>dF i (.inl hi)) (fun i hi e=>by rw[o6 i hi];exact e)
  ·simp only[AX] at hg
   subst hg;exact hfn
 ·rcases hi with e|e
  ·rw[e,h.ux];omega
  ·rw[oZ i e];omega
theorem Ou(h:w.heap[b]?=some (.cells #[x,y] t (0,0))):w.cell? ⟨b,0,none⟩=some x:=by simp[World.cell?,h]
theorem Ov(h:w.heap[b]?=some (.cells #[x,y] t (0,0))):w.cell? ⟨b,1,none⟩=some y:=by simp[World.cell?,h]
theorem Tryz.infopNFact:(Tryz.prog.info? 90).map (fun i=>(i.zero,i.size,i.bytes))=some (some (.pointer none),1,8):=by kernel_rfl
def Q8(U:Nat->Nat)(x nb:Nat)(F:List Ft)(cnt:Int)(a8:List Ch)(f:Sv.Fact)(w w':World):Prop:=
 ∃U' af blk,w.heap.size<=blk/\XAt U' x nb af (F++[⟨blk,cnt+1,f⟩]) (cnt+1) (a8.map (G8 ⟨blk,cnt+1,f⟩)) w'/\GrS (fun i=>2<=U i) w w'/\∀i,i<w.heap.size->U' i=U i
theorem Q2u(x:Nat)(f:Sv.Fact)(fa:Option Addr)(fc:Nat)(w:World)(hin:InAt (.slice fa f.vals.length fc) f.vals w)(hl:f.vals.length<=maxLen)(hno:Av f=false) :
  Calls Tryz.prog 18 #[.pointer (some ⟨x,0,none⟩),.agg #[.int .i64 f.kind,.slice fa f.vals.length fc]] w fun e w'=>e=.returned (.tuple #[.int .i64 0,.int .i64 3])/\w.grownBy w' none:=by
 have a7:=AA w (.cells #[.int .i64 f.kind,.slice fa f.vals.length fc] 37) none;have hI:=Nn f fa fc _ (hin.gr a7) hl;rw[hno] at hI;clear hin hno;go_enter Tryz.func18,Tryz.ntmps18
 go_wp2_with (go_at_call 39;refine hI.mono ?_;rintro e w1⟨rfl,hg1⟩)
 go_ret2
 exact⟨rfl,Ab a7 hg1⟩
theorem Yf(U:Nat->Nat)(x nb:Nat)(fv:Value)(F:List Ft)(cnt:Int)(a8:List Ch)(f:Sv.Fact)(fa:Option Addr)(fc:Nat)(w:World)(h:XAt U x nb fv F cnt a8 w)(hin:InAt (.slice fa f.vals.length fc) f.vals w)(hl:f.vals.length<=maxLen)(dm:Av f=true)(hF:F.length=16) :
  Calls Tryz.prog 18 #[.pointer (some ⟨x,0,none⟩),.agg #[.int .i64 f.kind,.slice fa f.vals.length fc]] w fun e w'=>e=.returned (.tuple #[.int .i64 0,.int .i64 4])/\w.grownBy w' none:=by
 have a7:=AA w (.cells #[.int .i64 f.kind,.slice fa f.vals.length fc] 37) none;have hI:=Nn f fa fc _ (hin.gr a7) hl;rw[dm] at hI;obtain⟨ao,cap,fK⟩:=h.facts.1.slice;rw[hF] at fK;have c1:w.cell? ⟨x,1,none⟩=some (.slice ao 16 cap):=by simp[World.cell?,h.blk,fK]
 clear h hin dm;go_enter Tryz.func18,Tryz.ntmps18
 go_wp2_with (go_at_call 39;refine hI.mono ?_;rintro e w1⟨rfl,hg1⟩;have d1:=(Ab a7 hg1).cell c1 (by simp))
 go_ret2
 exact⟨rfl,Ab a7 hg1⟩
theorem Q0p(U:Nat->Nat)(x nb:Nat)(fv:Value)(F:List Ft)(cnt:Int)(a8:List Ch)(f:Sv.Fact)(fa:Option Addr)(fc:Nat)(w:World)(h:XAt U x nb fv F cnt a8 w)(hin:InAt (.slice fa f.vals.length fc) f.vals w)(hl:f.vals.length<=4)(dm:Av f=true)(hF:F.length<16)(ag:∀c∈a8,ChFit c)(hc0:0<=cnt)(hc1:cnt<=4611686018427387904)(hne:(Value.slice fa f.vals.length fc).ownBlock≠some x) :
  Calls Tryz.prog 18 #[.pointer (some ⟨x,0,none⟩),.agg #[.int .i64 f.kind,.slice fa f.vals.length fc]] w fun e w'=>e=.returned (.tuple #[.int .i64 (cnt+1),.int .i64 0])/\Q8 U x nb F cnt a8 f w w':=by
 have a7:=AA w (.cells #[.int .i64 f.kind,.slice fa f.vals.length fc] 37) none;have hx0:=AR w (.cells #[.int .i64 f.kind,.slice fa f.vals.length fc] 37);have hI:=Nn f fa fc _ (hin.gr a7) (by unfold maxLen;omega);rw[dm] at hI;obtain⟨ao,cap,fK⟩:=h.facts.1.slice;subst fK;have c0:w.cell? ⟨x,0,none⟩=some (.pointer (some ⟨nb,0,none⟩)):=by simp[World.cell?,h.blk]
 have c1:w.cell? ⟨x,1,none⟩=some (.slice ao F.length cap):=by simp[World.cell?,h.blk]
 have c2:w.cell? ⟨x,2,none⟩=some (.int .i64 cnt):=by simp[World.cell?,h.blk]
 have gO:=Ad h.blk;have H:=Ac h;have XC:=Ac hin;have eD:=Ac ag;have hd:decide ((16:Int)<=(F.length:Int))=false:=by simp;omega
 clear hin dm ag h;go_enter Tryz.func18,Tryz.ntmps18
 go_wp2_with (go_at_call 39;refine hI.mono ?_;rintro e w1⟨rfl,hg1⟩;have d1:=(Ab a7 hg1).cell c1 (by simp);have d2:=(Ab a7 hg1).cell c2 (by simp);have df:w1.frozen? ⟨x,2,none⟩=false:=(by simp[World.frozen?,(Ab a7 hg1).block x gO (by simp),(Aa H).blk]))
 have bY:=Ab a7 hg1;have aV:=Aj w1 x 2 (.int .i64 (cnt+1));have hb1:w1.heap[w.heap.size]?=some (.cells #[.int .i64 f.kind,.slice fa f.vals.length fc] 37 (0,0)):=by rw[hg1.block _ (Ad hx0) (by simp)];exact hx0
 have hx1:w1.heap[x]?=some (.cells #[.pointer (some ⟨nb,0,none⟩),.slice ao F.length cap,.int .i64 cnt] 88 (0,0)):=by rw[bY.block x gO (by simp)];exact(Aa H).blk
 have PU:(w1.setCell ⟨x,2,none⟩ (.int .i64 (cnt+1))).heap[w.heap.size]?=some (.cells #[.int .i64 f.kind,.slice fa f.vals.length fc] 37 (0,0)):=by rw[aV.block _ (Ad hb1) (by simp;omega)];exact hb1
 have yN:(w1.setCell ⟨x,2,none⟩ (.int .i64 (cnt+1))).heap[x]?=some (.cells #[.pointer (some ⟨nb,0,none⟩),.slice ao F.length cap,.int .i64 (cnt+1)] 88 (0,0)):=by rw[BB w1 x 2 _ _ _ hx1];rfl
 have TL:=((Aa XC).gr bY).kept aV (fun g hg e=>hne (by rw[hg];exact e.symm));have SD:w.heap.size<=(w1.setCell ⟨x,2,none⟩ (.int .i64 (cnt+1))).heap.size:=by simp;exact bY.size
 have OB:=Ac bY;have xH:=Ac (fun(w3 w4 w5:World) (blk n m:Nat) (v v':Value) (hg3:(w1.setCell ⟨x,2,none⟩ (.int .i64 (cnt+1))).grownBy w3 none) hb aH hv (hg4:w3.grownBy w4 none) (aP:Longer (.slice ao F.length cap) v' n m w4 w5) hr=>Q2t (f:=f) (blk:=blk) (v:=v) (Aa H) bY hg3 hb aH hl hv hg4 aP hr);have xy:=Ac (show GrS (fun i=>i=x) w1 (w1.setCell ⟨x,2,none⟩ (.int .i64 (cnt+1))) from GrS.of aV (fun g hg=>by simp at hg;exact hg.symm));clear aV hb1 hx1 hI a7 hx0 hg1 bY d1 d2 df c0 c1 c2;generalize w1.setCell ⟨x,2,none⟩ (.int .i64 (cnt+1))=wS at PU yN TL SD xH xy⊢;have s0:=Ou PU;have s1:=Ov PU;have s2:wS.cell? ⟨x,2,none⟩=some (.int .i64 (cnt+1)):=by simp[World.cell?,yN]
 have vw:∀wx,wS.grownBy wx none->Calls Tryz.prog 40 #[.agg #[.int .i64 f.kind,.slice fa f.vals.length fc]] wx fun e w'=>∃ao cap,e=.returned (.agg #[.int .i64 f.kind,.slice ao f.vals.length cap])/\wS.grownBy w' none/\IsAt w.heap.size (.slice ao f.vals.length cap) f.vals w'/\w'.cell? ⟨w.heap.size,0,none⟩=some (.int .i64 f.kind)/\w'.cell? ⟨w.heap.size,1,none⟩=some (.slice fa f.vals.length fc)/\w'.cell? ⟨x,2,none⟩=some (.int .i64 (cnt+1)):=by
  intro wx hx;refine(Rk f fa fc wx (TL.gr hx) hl).mono ?_;rintro e w'⟨bf,aC,rfl,hg2,hv2⟩;have hg:=Ab hx hg2;exact⟨bf,aC,rfl,hg,hv2.weak (AU SD hx.size),hg.cell s0 (by simp),hg.cell s1 (by simp),hg.cell s2 (by simp)⟩
 clear PU TL
 go_cut [6] (fun z wx=>∃blk v,z=.pointer (some ⟨blk,0,none⟩)/\Hid (wS.grownBy wx none/\w.heap.size<=blk/\wx.heap[blk]?=some (.cells #[.int .i64 f.kind,v,.int .i64 (cnt+1)] 93 (0,0))/\IsAt w.heap.size v f.vals wx))
 case first=>
  go_region_held3 (fun w'=>w'.cell? ⟨w.heap.size,0,none⟩=some (.int .i64 f.kind)/\w'.cell? ⟨w.heap.size,1,none⟩=some (.slice fa f.vals.length fc)/\w'.cell? ⟨x,2,none⟩=some (.int .i64 (cnt+1))) (first|exact z2|go_keep)
   (first|(go_at_call 40;refine(vw _ (by repeat (first|with_reducible exact AD _ _|with_reducible apply Ah))).mono ?_;rintro e w2⟨bf,aC,rfl,hg2,hv2,z2⟩))
  all_goals
   go_wp2_with fail;go_meet
   have dO:=AA w2 (.cells #[.int .i64 f.kind,.slice bf f.vals.length aC,.int .i64 (cnt+1)] 93) none;exact⟨_,_,rfl,Ac ⟨Ab hg2 dO,AU SD hg2.size,AR _ _,hv2.gr dO⟩⟩
 case rest=>
  obtain⟨blk,v,rfl,HF⟩:=hcut;obtain⟨hg3,hb,aH,hv⟩:=Aa HF;clear vw s0 s1 s2;have OV:wc.heap[x]?=some (.cells #[.pointer (some ⟨nb,0,none⟩),.slice ao F.length cap,.int .i64 (cnt+1)] 88 (0,0)):=by rw[hg3.block x (Ad yN) (by simp)];exact yN
  have q1:wc.cell? ⟨x,1,none⟩=some (.slice ao F.length cap):=by simp[World.cell?,OV]
  have aj:=AA wc (.cells #[.pointer (some ⟨blk,0,none⟩)] 90) none
  have hr2:RowAt 90 1 Qf 0 (.slice ao F.length cap) F (wc.alloc (.cells #[.pointer (some ⟨blk,0,none⟩)] 90)):=by
   have h0:=(Aa H).facts.1;have hG:GrS (fun i=>i=x) w wc:=(((GrS.of (Aa OB) (by simp):GrS (fun i=>i=x) w w1))).comp (S':=fun i=>i=x) ?_ (fun i _ hn=>hn)
   ·exact(hG.row h0 (fun g hg e=>by have:=(Aa H).facts.2 g hg;rw[e,(Aa H).ux] at this;omega)).gr aj
   ·exact Aa xy |>.then hg3 (by simp)
  have aG:RowAt 90 1 Qf 0 (.slice (some ⟨wc.heap.size,0,none⟩) 1 1) [(⟨blk,cnt+1,f⟩:Ft)] (wc.alloc (.cells #[.pointer (some ⟨blk,0,none⟩)] 90)):=(RowAt.lit1 (e:=90) Ji wc (⟨blk,cnt+1,f⟩:Ft) #[.pointer (some ⟨blk,0,none⟩)] rfl).weak (AG _);have OU:(Value.slice ao F.length cap).ownBlock≠some x:=fun e=>by have:=(Aa H).facts.2 x e;have:=(Aa H).ux;omega
  have hkey:∀v5 w5,RowAt 90 1 Qf 0 v5 (F++[(⟨blk,cnt+1,f⟩:Ft)]) w5->Longer (.slice ao F.length cap) v5 F.length [(⟨blk,cnt+1,f⟩:Ft)].length (wc.alloc (.cells #[.pointer (some ⟨blk,0,none⟩)] 90)) w5->
    (w5.cell? ⟨x,1,none⟩=some (.slice ao F.length cap)/\w5.frozen? ⟨x,1,none⟩=false/\(w5.setCell ⟨x,1,none⟩ v5).cell? ⟨x,0,none⟩=some (.pointer (some ⟨nb,0,none⟩)))/\
    Calls Tryz.prog 41 #[.pointer (some ⟨nb,0,none⟩),.pointer (some ⟨blk,0,none⟩)] (w5.setCell ⟨x,1,none⟩ v5) fun e w'=>e=.returned (.tuple #[])/\w'.cell? ⟨blk,2,none⟩=some (.int .i64 (cnt+1))/\Hid (Q8 U x nb F cnt a8 f w w'):=by
   intro v5 w5 ax aP;obtain⟨U6,rM,hF6,dh,ZH⟩:=Aa xH wc _ w5 blk _ _ v v5 hg3 hb aH hv aj aP ax;have ky:w5.heap[x]?=some (.cells #[.pointer (some ⟨nb,0,none⟩),.slice ao F.length cap,.int .i64 (cnt+1)] 88 (0,0)):=aP.block (by rw[aj.block x (Ad OV) (by simp)];exact OV) OU;refine⟨⟨by simp[World.cell?,ky],by simp[World.frozen?,ky],by simp[World.cell?,rM.blk]⟩,?_⟩;refine(Q3m U6 nb a8 ⟨blk,cnt+1,f⟩ _ rM.net (Aa eD) hF6).mono ?_;rintro e w7⟨rfl,U7,k1,k2,k3,k4⟩;have kB:∀i,U6 i<4->¬ (4<=U6 i):=fun i hi h=>by omega
   obtain⟨_,_,v7,rL,_⟩:=k3;refine⟨rfl,by have UO:w7.heap[blk]?=_:=rL;simp[World.cell?,UO],Ac ⟨U7,v5,blk,hb,⟨k2.blk rM.blk (kB x (by rw[rM.ux];omega)),by rw[k4 x (Ad rM.blk)];exact rM.ux,rM.facts.keep2 k2 (fun i hi=>kB i (by omega)) (fun i hi e=>by rw[k4 i hi];exact e),fun g hg=>(rM.fts g hg).keep k2 (fun i hi=>kB i (by omega)) (fun i hi e=>by rw[k4 i hi];exact e),k1⟩,dh.comp k2 (fun i hi hn h=>hn ?_),fun i hi=>by rw[k4 i (AZ hi dh.size),ZH i hi]⟩⟩;have h':4<=U6 i:=h;rw[ZH i hi] at h';show 2<=U i
   omega
  have HKEY:=Ac hkey;clear hkey OV hg3 hb aH hv HF xH OB xy yN aj
  go_wp2_with (at_builtin;refine Cb rfl _ _ 86 rfl Tryz.underlying86 Tryz.infopNFact rfl (by decide) rfl hr2 rfl aG (by simp) (fun y _=>Rr y) (by unfold maxLen;simp;omega) (by simp;omega) ?_)
  intro v5 w5 ax aP;obtain⟨⟨y1,yf,y0⟩,hA⟩:=Aa HKEY v5 w5 ax aP;obtain⟨g5,aI,rfl⟩:=aP.form;clear ax aP hr2 aG HKEY q1
  go_wp2_with (go_at_call 41;refine hA.mono ?_;rintro e w7⟨rfl,hid,HP⟩)
  go_ret2
  exact⟨rfl,Aa HP⟩
theorem Vc(m:Nat)(ih:Mq m)(U:Nat->Nat)(ru q k bc lb:Nat)(fst av cv:Value)(ss:List Site)(c:Sv.Cond)(cs:List Sv.Cond)(w:World)(hm:cs.length=m)(h:BuildPre U ru q k bc lb fst av cv ss (c::cs) w)(aJ:c.neg=true) :
  Calls Tryz.prog 100 #[.pointer (some ⟨bc,0,none⟩),cv,av] w fun e w'=>∃hd,e=.returned hd/\BuildPost U ru q k bc lb fst ss (c::cs) w w' hd:=by
 obtain⟨g,off,cap,u,rfl,ew,hcm,OX,im,c0,c1,c2,hT,oL⟩:=h.conds.head;have dV:=h.short c (BF ..);have yg:=h.sites;have pw:=h.few;rw[AP] at yg pw;have hN:=O6 av ss c u w h.ahead.1 hT.1 (by omega) (by omega);rw[aJ] at c0 hN;obtain⟨fZ,bS,hu⟩:=hT.1.slice;generalize cH:c.terms.length=tn at hu;subst hu;obtain⟨uU,kY,ha⟩:=h.ahead.1.slice;generalize dO:ss.length=sn at ha;have HA:=Ac ha;obtain⟨mc,hmc⟩:∃mc,cs.length=mc:=⟨_,rfl⟩
 rw[hmc] at ew oL yg pw⊢;have H:=Ac h;have HT:=Ac hT;have NR:=Ac hmc;have XE:=Ac cH
 have ju:(¬ cap=1/\CsIn U (.slice (some ⟨g,off+3,none⟩) mc (cap-1)) cs w)\/(cap=1/\mc=0/\CsIn U (.slice (some ⟨g,off,none⟩) 0 0) cs w):=by
  by_cases hc1:cap=1
  ·have hm0:mc=0:=by omega
   have:=oL (some ⟨g,off,none⟩) (.inr hc1);rw[hc1,hm0] at this;exact .inr ⟨hc1,hm0,this⟩
  ·exact .inl ⟨hc1,oL _ (.inl rfl)⟩
 have HM:Hid (mc=m):=by rw[<-hmc];exact Ac hm
 clear h hT oL hmc cH dO hm;subst ha;go_enter Tryz.func100,Tryz.ntmps100
 go_wp2_with (go_at_call 133;refine hN.mono ?_;rintro e w1⟨lv,rfl,hg1,eY,ho1⟩;have d0:=hg1.cell c0 (by simp);have d1:=hg1.cell c1 (by simp);have d2:=hg1.cell c2 (by simp);obtain⟨ei,bF,hlv⟩:=eY.slice;generalize pg:(Lnk.of ss 0 c.terms).length=ln at hlv;have r9:=Ac pg;have HL:=Ac eY;have HO:=Ac ho1;clear pg eY ho1;subst hlv;have e0:=(AA w1 (.cells #[.int .i64 c.kind,.slice fZ tn bS,.slice ei ln bF] 216) none).cell d0 (by simp))
 have a7:=Ab hg1 (AA w1 (.cells #[.int .i64 c.kind,.slice fZ tn bS,.slice ei ln bF] 216) none);have gh:=AA w1 (.cells #[.int .i64 c.kind,.slice fZ tn bS,.slice ei ln bF] 216) none;have oV:=AR w1 (.cells #[.int .i64 c.kind,.slice fZ tn bS,.slice ei ln bF] 216);generalize w1.alloc (.cells #[.int .i64 c.kind,.slice fZ tn bS,.slice ei ln bF] 216)=w2 at a7 gh oV e0⊢;have m0:w2.cell? ⟨w1.heap.size,0,none⟩=some (.int .i64 c.kind):=by simp[World.cell?,oV]
 have m1:w2.cell? ⟨w1.heap.size,1,none⟩=some (.slice fZ tn bS):=by simp[World.cell?,oV]
 have m2:w2.cell? ⟨w1.heap.size,2,none⟩=some (.slice ei ln bF):=by simp[World.cell?,oV]
 have dH:∀tv,CsIn U tv cs w->∀wx,w2.grownBy wx none->Calls Tryz.prog 100 #[.pointer (some ⟨bc,0,none⟩),tv,.slice uU sn kY] wx fun e w'=>∃ty b,e=.returned (.iface ty (.pointer (some ⟨b,0,none⟩)))/\BuildPost (Cj U w 1) ru (q+1) k bc lb fst ss cs wx w' (.iface ty (.pointer (some ⟨b,0,none⟩)))/\(w'.cell? ⟨w1.heap.size,0,none⟩=some (.int .i64 c.kind)/\w'.cell? ⟨w1.heap.size,1,none⟩=some (.slice fZ tn bS)/\w'.cell? ⟨w1.heap.size,2,none⟩=some (.slice ei ln bF)):=by
  intro ta yX wx hgx;have ar:=Ab a7 hgx;have hh:=Aa H;have hmc:=Aa NR;have mf:GrS (fun _:Nat=>False) w wx:=GrS.of ar (by simp);have fj:=hg1.size;refine(ih (Cj U w 1) ru (q+1) k bc lb fst _ _ ss cs wx (by rw[hmc];exact Aa HM) ⟨mf.blk hh.chain (by simp),mf.blk hh.last (by simp),?_,?_,?_,hh.ahead.keep2 mf (by simp) (fun i hi e=>by rw[Ak hi];exact e),yX.keep mf (by simp) (fun i hi e=>by rw[Ak hi];exact e),fun c' hc'=>hh.short c' (BG _ hc'),by rw[hmc];omega,by rw[hmc];omega⟩).mono ?_
  ·rw[Ak (Ad hh.chain)];exact hh.uc
  ·rw[Ak (Ad hh.last)]
   have:=hh.ul;rw[AP] at this;omega
  ·intro i hi hne
   by_cases hw:i<w.heap.size
   ·rw[Ak hw]
    have:=hh.fresh i hw hne;omega
   ·rw[Bh (by omega)];omega
  ·rintro e w'⟨hd,rfl,hP⟩
   obtain⟨ty,b,rfl⟩:=hP.head;have hc:=hP.cells1 (i:=w1.heap.size) (by rw[hgx.block _ (Ad oV) (by simp)];exact oV) (Bh fj) (by have:=Ad hh.last;omega);exact⟨ty,b,rfl,hP,by simp[World.cell?,hc]⟩
 have dW:∀wx w3 w4 hd b,w2.grownBy wx none->BuildPost (Cj U w 1) ru (q+1) k bc lb fst ss cs wx w3 hd->
   w4.heap[b]?=some (.cells #[.int .i64 c.kind,.slice fZ tn bS,.slice ei ln bF,.slice none 0 0,.slice none 0 0,hd] 263 (0,0))->w3.heap.size<=b->w3.grownBy w4 none->Gl U ru q k bc lb fst ss (c::cs) w w4 (.iface (C8 c.neg) (.pointer (some ⟨b,0,none⟩))):=by
  intro wx w3 w4 hd b hgx hP hb hbl hg4;have ar:=Ab a7 hgx;have mf:GrS (fun _:Nat=>False) w wx:=GrS.of ar (by simp);have im:=Ab gh hgx;have fj:=hg1.size;refine Rg (Aa H) (mf.mono (by simp)) (fun i hi=>Ak hi) (fun i hi _=>by rw[Bh hi];omega) (by rw[AQ aJ,AQ aJ];exact hP) ((Aa HT).keep2 mf (by simp) (fun i hi e=>by rw[Ak hi];exact e)) (lv:=.slice ei ln bF) ⟨(Aa HL).gr im,fun g hg=>Bh (Aa HO g hg)⟩ ?_ hbl hg4;unfold Bb Lj;rw[AQ aJ,AQ aJ];exact hb
 have kq:=Ac dW;clear dW;have di:=Ac a7;have HX7:=Ac oV;clear hN c0 c1 c2 d0 d1 d2 e0 oV a7 gh dV OX im;have xA:=Ac ju;clear ju
 go_cut [8] (fun z wx=>∃b,z=.iface 209 (.pointer (some ⟨b,0,none⟩))/\Gl U ru q k bc lb fst ss (c::cs) w wx (.iface (C8 c.neg) (.pointer (some ⟨b,0,none⟩))))
 case first=>
  rcases Aa xA with ⟨hc1,wY⟩|⟨hc1,hm0,wY⟩
  all_goals
   have MK:=dH _ wY;clear dH wY xA
   try (subst hc1;subst hm0)
   go_region_with (go_at_call 100;refine(MK _ (by repeat (first|with_reducible exact AD _ _|with_reducible apply Ah))).mono ?_;rintro e w3⟨ty3,b3,rfl,hP,k0,k1,k2⟩)
   all_goals
    go_wp2_with fail;go_meet
    exact⟨_,rfl,Aa kq _ _ _ _ _ (by repeat (first|with_reducible exact AD _ _|with_reducible apply Ah)) hP (AR _ _) (AW _) (by repeat (first|with_reducible exact AD _ _|with_reducible apply Ah|with_reducible refine E1 ?_ _))⟩
 case rest=>
  obtain⟨b,rfl,U',nv,hs,p1,p2,p3,p4,p5,p6,p7,p8,p9⟩:=hcut;have hh:=Aa H;have hbl:=Ad hh.chain;have uu:=hh.uc;have rq:C8 c.neg=209:=by rw[aJ];rfl
  rw[rq] at p3 p4 p6
  have hlen:hs.reverse.length<=2000:=by
   have h1:=p3.1;rw[Fs,AP,AP,Aa NR] at h1;rw[GF];omega
  obtain⟨wz,mn,dw⟩:=p2.1.slice;generalize zZ:hs.reverse.length=nn at dw;have HGN:=Ac zZ;have HLEN:=Ac hlen;clear zZ hlen;have q0:wc.cell? ⟨bc,0,none⟩=some nv:=by simp[World.cell?,p1]
  subst dw;have aj:=AA wc (.cells #[.iface 209 (.pointer (some ⟨b,0,none⟩))] 150) none;have hr2:=p2.1.gr aj;have aG:RowAt 150 1 venc 0 (.slice (some ⟨wc.heap.size,0,none⟩) 1 1) [.iface 209 (.pointer (some ⟨b,0,none⟩))] (wc.alloc (.cells #[.iface 209 (.pointer (some ⟨b,0,none⟩))] 150)):=(RowAt.lit1 (e:=150) Sm wc (.iface 209 (.pointer (some ⟨b,0,none⟩))) #[.iface 209 (.pointer (some ⟨b,0,none⟩))] rfl).weak (AG _);have P2:=Ac (show TRow U' 2 150 1 venc (.slice wz nn mn) hs.reverse wc/\HdsAt U' q (Ff ss k (c::cs)) (.iface 209 (.pointer (some ⟨b,0,none⟩))::hs)/\(∀h∈Value.iface 209 (.pointer (some ⟨b,0,none⟩))::hs,h.oneCell'=true)/\((Value.slice wz nn mn).ownBlock≠some bc)/\SufAt U' ru (O3 k (c::cs)) q k (Ff ss k (c::cs)) ⟨[],[]⟩ (.iface 209 (.pointer (some ⟨b,0,none⟩))) wc/\GrS (fun i=>U i=2\/U i=3\/i=lb) w wc/\(∀i,i<w.heap.size->U' i=U i)/\∀i,w.heap.size<=i->i<wc.heap.size->(U' i<4\/4+3*q<=U' i)/\U' i<4+3*(q+(c::cs).length) from⟨p2,p3,p4,p5,p6,p7,p8,p9⟩);have P1:=Ac p1;clear p1 p2 p3 p4 p5 p6 p7 p8 p9 kq xA dH hh HX7 HT HL HO r9 di HM XE
  go_wp2_with (at_builtin;refine Cb rfl _ _ 148 rfl Tryz.underlying148 Tryz.infoNode rfl (by decide) rfl hr2 rfl aG (by simp) (fun y hy=>by simp only[AX] at hy;subst hy;exact Sn rfl) (by unfold maxLen;have:=Aa HLEN;simp only[BC];omega) (by have:=Aa HLEN;simp only[BC];omega) ?_)
  intro v5 w5 ax aP;obtain⟨g5,aI,rfl⟩:=aP.form;obtain⟨p2,p3,p4,p5,p6,p7,p8,p9⟩:=Aa P2;have hend:=Rf (bc:=bc) (w5:=w5) hbl uu ⟨U',hs,Aa P1,p2,p3,p4,p5,p6,p7,p8,p9,ax⟩ ⟨_,_,_,aj,aP⟩;have hb5:=aP.block (by rw[aj.block bc (Ad (Aa P1)) (by simp)];exact Aa P1) p5;have q5:w5.cell? ⟨bc,0,none⟩=some (.slice wz nn mn):=by simp[World.cell?,hb5]
  have z5:w5.frozen? ⟨bc,0,none⟩=false:=by simp[World.frozen?,hb5]
  have bD:=Ac hend;clear hend hb5 p2 p3 p4 p5 p6 p7 p8 p9 aP ax aG hr2 aj q0 P1 P2;generalize hs.reverse.length + [Value.iface 209 (.pointer (some ⟨b,0,none⟩))].length=l5 at bD⊢;go_wp2;go_ret;exact⟨_,rfl,Aa bD⟩
def Ui(U:Nat->Nat)(w wj:World):Nat->Nat:=Cj (Cj U w 1) wj 3
theorem Jr(h:w.heap.size<=wj.heap.size)(hi:i<w.heap.size):Ui U w wj i=U i:=by unfold Ui;rw[Ak (by omega),Ak hi]
theorem Hx(hi:w.heap.size<=i)(hj:i<wj.heap.size):Ui U w wj i=1:=by unfold Ui;rw[Ak hj,Bh hi]
theorem Nw(hi:wj.heap.size<=i):Ui U w wj i=3:=by unfold Ui;rw[Bh hi]
structure PosPre(U:Nat->Nat)(ru q k bc lb:Nat)(fst av cv:Value)(ss:List Site)(c:Sv.Cond)(cs:List Sv.Cond)(w wj wy:World)(v:Value):Prop where
 gr:GrS (fun i=>U i=2\/U i=3\/i=lb) w wy
 one:∀i,i<wj.heap.size->Ui U w wj i=1->wy.heap[i]?=wj.heap[i]?
 size:wj.heap.size<=wy.heap.size
 pre:BuildPre (Ui U w wj) ru (q+1) (k+1) bc lb fst v cv (ss++Site.bindT k 0 c.terms) cs wy
theorem Q3w{fst cv0:Value}{c:Sv.Cond}{wx wy:World}
 (h:BuildPre U ru q k bc lb fst av cv0 ss (c::cs) w)(hC:CsIn U cv cs w)(hg2:w.grownBy w2 none)(hx:(w2.setCell ⟨lb,3,none⟩ (.int .i64 ((k:Int)+1))).grownBy wx none)(hb:BindPost av (ss++Site.bindT k 0 c.terms) wx w3 v)(hy:w3.grownBy wy none) :
  PosPre U ru q k bc lb fst av cv ss c cs w (w2.setCell ⟨lb,3,none⟩ (.int .i64 ((k:Int)+1))) wy v:=by
 have gB:=h.ul;rw[AP] at gB;have hs2:=hg2.size;have aV:=Aj w2 lb 3 (.int .i64 ((k:Int)+1));have hsj:(w2.setCell ⟨lb,3,none⟩ (.int .i64 ((k:Int)+1))).heap.size=w2.heap.size:=by simp
 generalize hwj:w2.setCell ⟨lb,3,none⟩ (.int .i64 ((k:Int)+1))=wj at hx hsj aV⊢;have SC:=hx.size;have hs3:=hb.2.1.size;have hsy:=hy.size;have kS:∀i,av.ownBlock=some i->U i=3:=fun i hi=>h.ahead.2 i hi
 have LP:∀i,av.ownBlock=some i->i<w.heap.size:=fun i hi=>(h.ahead.1.own i hi).2
 have hGj:GrS (fun i=>i=lb) w wj:=((GrS.of hg2 (by simp):GrS (fun i=>i=lb) w w2)).then aV (fun g hg=>by simp at hg;exact .inr hg.symm)
 have hG:GrS (fun i=>U i=3\/i=lb) w wy:=by
  refine((((hGj.mono (fun i hi=>.inr hi):GrS (fun i=>U i=3\/i=lb) w wj)).then hx (by simp)).comp hb.2.1 (fun i hi hn hx'=>hn (.inl (kS i hx')))).then hy (by simp)
 have jO:wj.heap[lb]?=some (.cells #[.slice none 0 0,.slice none 0 0,.int .i64 ru,.int .i64 ((k:Int)+1)] 147 (0,0)):=by
  have hb2:w2.heap[lb]?=some (.cells #[.slice none 0 0,.slice none 0 0,.int .i64 ru,.int .i64 k] 147 (0,0)):=by rw[hg2.block lb (Ad h.last) (by simp)];exact h.last
  rw[<-hwj,BB w2 lb 3 _ _ _ hb2];rfl
 refine⟨hG.mono (fun i hi=>by rcases hi with h|h;exact .inr (.inl h);exact .inr (.inr h)),fun i hi h1=>?_,by omega,?_⟩
 ·rw[hy.block i (by omega) (by simp),hb.2.1.block i (by omega) (fun e=>?_),hx.block i hi (by simp)]
  have:=kS i e;rw[Jr (by omega) (LP i e)] at h1;omega
 have sw:∀i,i<w.heap.size->Ui U w wj i=U i:=fun i hi=>Jr (by omega) hi
 refine⟨hG.blk h.chain (fun e=>?_),?_,by rw[sw bc (Ad h.chain)];exact h.uc,?_,?_,⟨hb.1.gr hy,fun g hg=>?_⟩,hC.keep hG (fun i hi e=>?_) (fun i hi e=>by rw[sw i hi];exact e),fun c' hc'=>h.short c' (BG _ hc'),?_,?_⟩
 ·have:=h.uc
  rcases e with e|e
  ·omega
  ·rw[e] at this;omega
 ·rw[hy.block lb (by have:=Ad jO;omega) (by simp),hb.2.1.block lb (by have:=Ad jO;omega) (fun e=>by have:=kS lb e;omega),hx.block lb (Ad jO) (by simp)]
  exact jO
 ·rw[sw lb (Ad h.last)];omega
 ·intro i hi hne
  by_cases hw:i<w.heap.size
  ·rw[sw i hw];have:=h.fresh i hw hne;omega
  ·by_cases hj:i<wj.heap.size
   ·rw[Hx (by omega) hj];omega
   ·rw[Nw (by omega)];omega
 ·rcases hb.2.2 g hg with e|e
  ·rw[sw g (LP g e)];exact kS g e
  ·exact Nw (by omega)
 ·rcases e with e|e
  ·omega
  ·rw[e] at hi;omega
 ·have:=h.few;rw[AP] at this;omega
 ·have:=h.sites
  have h4:=h.short c (BF ..);have h5:=Ko k c.terms 0;rw[AP] at this;rw[AK];omega
def PosPost(U:Nat->Nat)(ru q k bc lb:Nat)(fst av:Value)(ss:List Site)(c:Sv.Cond)(cs:List Sv.Cond)(w wj w':World)(hd:Value):Prop:=
 ∃cv wy v,PosPre U ru q k bc lb fst av cv ss c cs w wj wy v/\BuildPost (Ui U w wj) ru (q+1) (k+1) bc lb fst (ss++Site.bindT k 0 c.terms) cs wy w' hd
theorem PosPost.made{fst:Value}{c:Sv.Cond}(h:PosPost U ru q k bc lb fst av ss c cs w wj w' hd){o:Obj}(hi:wj.heap[i]?=some o)(hw:w.heap.size<=i)(hl:i≠lb):w'.heap[i]?=some o:=by
 obtain⟨cv,wy,v,p1,p2⟩:=h;have h1:=Hx (U:=U) hw (Ad hi);exact p2.cells1 (by rw[p1.one i (Ad hi) h1];exact hi) h1 hl
theorem PosPost.cellg{fst:Value}{c:Sv.Cond}(h:PosPost U ru q k bc lb fst av ss c cs w wj w' hd){a:Addr}(hc:wj.cell? a=some v)(hg:a.block<w.heap.size)(hs:w.heap.size<=wj.heap.size)(hu:U a.block=1)(hl:a.block≠lb):w'.cell? a=some v:=by
 obtain⟨cv,wy,v',p1,U',nv,hs',p21,p22,p23,p24,p25,p26,p27,_⟩:=h;have h1:Ui U w wj a.block=1:=by rw[Jr hs hg];exact hu
 have h2:=p1.one a.block (by omega) h1;have h3:=p27.block a.block (by have:=p1.size;omega) (by omega);rw[<-hc];exact EC (w:=wj) (h3.trans h2)
theorem Q3v{fst u lv:Value}{c:Sv.Cond}(h:BuildPre U ru q k bc lb fst av cv ss (c::cs) w)(aJ:c.neg=false)(hT:TRow U 1 258 3 tmenc u c.terms w)
 (hg1:w.grownBy w1 none)(hL:LsAt lv (Lnk.of ss 0 c.terms) w1)(ho:∀g,lv.ownBlock=some g->w.heap.size<=g)(hg2:w1.grownBy w2 none)(hj:w2.grownBy wj (some lb))(hP:PosPost U ru q k bc lb fst av ss c cs w wj w3 hd)
 (hb:w4.heap[b]?=some (.cells #[.int .i64 c.kind,u,lv,.slice none 0 0,.slice none 0 0,hd,.int .i64 k] 220 (0,0)))(hbl:w3.heap.size<=b)(hg4:w3.grownBy w4 none) :
  Gl U ru q k bc lb fst ss (c::cs) w w4 (.iface (C8 c.neg) (.pointer (some ⟨b,0,none⟩))):=by
 obtain⟨cv',wy,v,p1,p2⟩:=hP;have hs1:=hg1.size;have hs2:=hg2.size;have hsj:=hj.size;have gB:=h.ul;rw[AP] at gB;have kH:=Ad h.last;have sw:∀i,i<w.heap.size->Ui U w wj i=U i:=fun i hi=>Jr (by omega) hi
 refine Rg h p1.gr sw (fun i hi hlt=>?_) (by rw[AO (by simp[aJ]),AO (by simp[aJ])];exact p2) (hT.keep2 p1.gr (fun i hi hx=>?_) (fun i hi e=>by rw[sw i hi];exact e)) (lv:=lv) ⟨?_,fun g hg=>?_⟩ ?_ hbl hg4
 ·by_cases hx:i<wj.heap.size
  ·rw[Hx hi hx];omega
  ·rw[Nw (by omega)];omega
 ·rcases hx with hx|hx|hx
  ·omega
  ·omega
  ·rw[hx] at hi;omega
 ·have hG:GrS (fun i=>¬ (w.heap.size<=i)) w1 wy:=by
   refine⟨by rw[p1.gr.os,hg1.os],by rw[p1.gr.tape,hg1.tape],by rw[p1.gr.output,hg1.output],by have:=p1.size;omega,fun i hi hn=>?_⟩;have hwi:w.heap.size<=i:=by simpa using hn
   rw[p1.one i (by omega) (Hx hwi (by omega)),hj.block i (by omega) (by simp;omega),hg2.block i hi (by simp)]
  exact hG.row hL (fun g hg hx=>hx (ho g hg))
 ·exact Hx (ho g hg) (by have:=(hL.own g hg).2;omega)
 ·unfold Bb Lj
  rw[AO (by simp[aJ]),AO (by simp[aJ])];exact hb
theorem Ve(m:Nat)(ih:Mq m)(U:Nat->Nat)(ru q k bc lb:Nat)(fst av cv:Value)(ss:List Site)(c:Sv.Cond)(cs:List Sv.Cond)(w:World)(hm:cs.length=m)(h:BuildPre U ru q k bc lb fst av cv ss (c::cs) w)(aJ:c.neg=false) :
  Calls Tryz.prog 100 #[.pointer (some ⟨bc,0,none⟩),cv,av] w fun e w'=>∃hd,e=.returned hd/\BuildPost U ru q k bc lb fst ss (c::cs) w w' hd:=by
 obtain⟨g,off,cap,u,rfl,ew,hcm,OX,im,c0,c1,c2,hT,oL⟩:=h.conds.head;have dV:=h.short c (BF ..);have yg:=h.sites;have pw:=h.few;rw[AP] at yg pw;have hN:=O6 av ss c u w h.ahead.1 hT.1 (by omega) (by omega);rw[aJ] at c0 hN;obtain⟨fZ,bS,hu⟩:=hT.1.slice;generalize cH:c.terms.length=tn at hu;subst hu;obtain⟨uU,kY,ha⟩:=h.ahead.1.slice;generalize dO:ss.length=sn at ha;have HA:=Ac ha;obtain⟨mc,hmc⟩:∃mc,cs.length=mc:=⟨_,rfl⟩
 rw[hmc] at ew oL yg pw⊢;have z2:w.cell? ⟨bc,2,none⟩=some (.pointer (some ⟨lb,0,none⟩)):=by simp[World.cell?,h.chain]
 have z3:w.cell? ⟨lb,3,none⟩=some (.int .i64 k):=by simp[World.cell?,h.last]
 have zf:w.frozen? ⟨lb,3,none⟩=false:=by simp[World.frozen?,h.last]
 have LG:=Ad h.chain;have hlx:=Ad h.last;have H:=Ac h;have HT:=Ac hT;have NR:=Ac hmc;have XE:=Ac cH
 have ju:(¬ cap=1/\CsIn U (.slice (some ⟨g,off+3,none⟩) mc (cap-1)) cs w)\/(cap=1/\mc=0/\CsIn U (.slice (some ⟨g,off,none⟩) 0 0) cs w):=by
  by_cases hc1:cap=1
  ·have hm0:mc=0:=by omega
   have:=oL (some ⟨g,off,none⟩) (.inr hc1);rw[hc1,hm0] at this;exact .inr ⟨hc1,hm0,this⟩
  ·exact .inl ⟨hc1,oL _ (.inl rfl)⟩
 have HM:Hid (mc=m):=by rw[<-hmc];exact Ac hm
 clear h hT oL hmc cH dO hm;subst ha;go_enter Tryz.func100,Tryz.ntmps100
 go_wp2_with (go_at_call 133;refine hN.mono ?_;rintro e w1⟨lv,rfl,hg1,eY,ho1⟩;have d0:=hg1.cell c0 (by simp);have d1:=hg1.cell c1 (by simp);have d2:=hg1.cell c2 (by simp);obtain⟨ei,bF,hlv⟩:=eY.slice;generalize pg:(Lnk.of ss 0 c.terms).length=ln at hlv;have r9:=Ac pg;have HL:=Ac eY;have HO:=Ac ho1;clear pg eY ho1;subst hlv;have f2:=hg1.cell z2 (by simp);have f3:=hg1.cell z3 (by simp);have ff:w1.frozen? ⟨lb,3,none⟩=false:=(by simp[World.frozen?,hg1.block lb hlx (by simp),(Aa H).last]);have e2:=(AA w1 (.cells #[.int .i64 c.kind,.slice fZ tn bS,.slice ei ln bF] 216) none).cell f2 (by simp);have e3:=(AA w1 (.cells #[.int .i64 c.kind,.slice fZ tn bS,.slice ei ln bF] 216) none).cell f3 (by simp);have ef:(w1.alloc (.cells #[.int .i64 c.kind,.slice fZ tn bS,.slice ei ln bF] 216)).frozen? ⟨lb,3,none⟩=false:=(by simp[World.frozen?,(AA w1 (.cells #[.int .i64 c.kind,.slice fZ tn bS,.slice ei ln bF] 216) none).block lb (AZ hlx hg1.size) (by simp),hg1.block lb hlx (by simp),(Aa H).last]);have e0:=(AA w1 (.cells #[.int .i64 c.kind,.slice fZ tn bS,.slice ei ln bF] 216) none).cell d0 (by simp))
 have a7:=Ab hg1 (AA w1 (.cells #[.int .i64 c.kind,.slice fZ tn bS,.slice ei ln bF] 216) none);have gh:=AA w1 (.cells #[.int .i64 c.kind,.slice fZ tn bS,.slice ei ln bF] 216) none;have oV:=AR w1 (.cells #[.int .i64 c.kind,.slice fZ tn bS,.slice ei ln bF] 216);have bZ:=gh.cell d2 (by simp);have lX:(w1.alloc (.cells #[.int .i64 c.kind,.slice fZ tn bS,.slice ei ln bF] 216)).heap.size=w1.heap.size+1:=by simp
 generalize w1.alloc (.cells #[.int .i64 c.kind,.slice fZ tn bS,.slice ei ln bF] 216)=w2 at a7 gh oV bZ lX e2 e3 ef e0⊢;have gB:=(Aa H).ul;have aV:=Aj w2 lb 3 (.int .i64 ((k:Int)+1));have hs1:=hg1.size;have j2:=aV.cell bZ (by simp;rintro rfl;omega);have oB:(w2.setCell ⟨lb,3,none⟩ (.int .i64 ((k:Int)+1))).heap[w1.heap.size]?=some (.cells #[.int .i64 c.kind,.slice fZ tn bS,.slice ei ln bF] 216 (0,0)):=by rw[aV.block _ (by omega) (by simp;omega)];exact oV
 have dH:∀tv,CsIn U tv cs w->∀wx w3 wy v',(w2.setCell ⟨lb,3,none⟩ (.int .i64 ((k:Int)+1))).grownBy wx none->BindPost (.slice uU sn kY) (ss++Site.bindT k 0 c.terms) wx w3 v'->w3.grownBy wy none->
   Calls Tryz.prog 100 #[.pointer (some ⟨bc,0,none⟩),tv,v'] wy fun e w'=>∃ty b,e=.returned (.iface ty (.pointer (some ⟨b,0,none⟩)))/\Hid (PosPost U ru q k bc lb fst (.slice uU sn kY) ss c cs w (w2.setCell ⟨lb,3,none⟩ (.int .i64 ((k:Int)+1))) w' (.iface ty (.pointer (some ⟨b,0,none⟩))))/\(w'.cell? ⟨w1.heap.size,0,none⟩=some (.int .i64 c.kind)/\w'.cell? ⟨w1.heap.size,1,none⟩=some (.slice fZ tn bS)/\w'.cell? ⟨w1.heap.size,2,none⟩=some (.slice ei ln bF))/\w'.cell? ⟨g,off+2,none⟩=some (.slice fZ tn bS):=by
  intro ta yX wx w3 wy v' hx hb hy;have LZ:=Q3w (Aa H) yX a7 hx hb hy;refine(ih _ _ _ _ _ _ _ _ _ _ cs wy (by rw[Aa NR];exact Aa HM) LZ.pre).mono ?_;rintro e w'⟨hd,rfl,hP⟩;obtain⟨ty,b,rfl⟩:=hP.head;have sH:PosPost U ru q k bc lb fst (.slice uU sn kY) ss c cs w (w2.setCell ⟨lb,3,none⟩ (.int .i64 ((k:Int)+1))) w' (.iface ty (.pointer (some ⟨b,0,none⟩))):=⟨_,wy,v',LZ,hP⟩
  have hc:=sH.made oB (by omega) (by omega);exact⟨ty,b,rfl,Ac sH,by simp[World.cell?,hc],sH.cellg j2 im (by have:=a7.size;simp;omega) OX (by show g≠lb;rintro rfl;omega)⟩
 have hB:∀wx,(w2.setCell ⟨lb,3,none⟩ (.int .i64 ((k:Int)+1))).grownBy wx none->Calls Tryz.prog 134 #[.slice uU sn kY,.int .i64 k,.slice fZ tn bS] wx fun e w3=>∃v',e=.returned v'/\BindPost (.slice uU sn kY) (ss++Site.bindT k 0 c.terms) wx w3 v'/\w3.cell? ⟨g,off+2,none⟩=some (.slice fZ tn bS):=by
  intro wx hx;have hh:=Aa H;have hG:GrS (fun i=>i=lb) w wx:=((GrS.of a7 (by simp):GrS (fun i=>i=lb) w w2).then aV (fun g hg=>by simp at hg;exact .inr hg.symm)).then hx (by simp)
  refine(Yu _ ss k _ c.terms wx (hG.row hh.ahead.1 (fun g hg e=>?_)) (hG.row (Aa HT).1 (fun g hg e=>?_)) (fun g hg bE=>?_) (by omega) (by omega)).mono ?_
  ·have:=hh.ahead.2 g hg;rw[e] at this;omega
  ·have:=(Aa HT).2 g hg;rw[e] at this;omega
  ·have h3:=hh.ahead.2 g hg;have h1:=(Aa HT).2 g bE;omega
  ·rintro e w3⟨v',rfl,hb⟩
   refine⟨v',rfl,hb,hb.2.1.cellK (hx.cell j2 (by simp)) (AZ im hG.size) (fun e=>?_)⟩;have:=hh.ahead.2 g e;omega
 have di:=Ac a7;have OD:=Ac gh;have xB:=Ac aV;generalize w2.setCell ⟨lb,3,none⟩ (.int .i64 ((k:Int)+1))=wj at dH hB xB j2 oB⊢;clear hN c0 c1 c2 d0 d1 d2 e0 e2 e3 ef f2 f3 ff z2 z3 zf oV a7 gh bZ lX aV dV OX im gB hs1 oB;have xA:=Ac ju;clear ju
 go_cut [10] (fun z wx=>∃ty b,z=.iface ty (.pointer (some ⟨b,0,none⟩))/\Hid (PosPost U ru q k bc lb fst (.slice uU sn kY) ss c cs w wj wx (.iface ty (.pointer (some ⟨b,0,none⟩))))/\(wx.cell? ⟨w1.heap.size,0,none⟩=some (.int .i64 c.kind)/\wx.cell? ⟨w1.heap.size,1,none⟩=some (.slice fZ tn bS)/\wx.cell? ⟨w1.heap.size,2,none⟩=some (.slice ei ln bF)))
 case first=>
  rcases Aa xA with ⟨hc1,wY⟩|⟨hc1,hm0,wY⟩
  all_goals
   have MK:=dH _ wY;clear dH wY xA
   try (subst hc1;subst hm0)
   go_region_with
    (first
     | (go_at_call 134;refine(hB _ (by repeat (first|with_reducible exact AD _ _|with_reducible apply Ah))).mono ?_;rintro e w3⟨v3,rfl,hb3,z3⟩)
     | (go_at_call 100;refine(MK _ _ _ _ (by repeat (first|with_reducible exact AD _ _|with_reducible apply Ah)) hb3 (by repeat (first|with_reducible exact AD _ _|with_reducible apply Ah))).mono ?_;rintro e w4⟨ty4,b4,rfl,QD,⟨k0,k1,k2⟩,z4⟩))
   all_goals
    go_wp2_with fail;go_meet
    exact⟨_,_,rfl,QD,k0,k1,k2⟩
 case rest=>
  obtain⟨ty0,b0,rfl,mr,k0,k1,k2⟩:=hcut
  have dW:∀w4 b,w4.heap[b]?=some (.cells #[.int .i64 c.kind,.slice fZ tn bS,.slice ei ln bF,.slice none 0 0,.slice none 0 0,.iface ty0 (.pointer (some ⟨b0,0,none⟩)),.int .i64 k] 220 (0,0))->wc.heap.size<=b->wc.grownBy w4 none->Gl U ru q k bc lb fst ss (c::cs) w w4 (.iface (C8 c.neg) (.pointer (some ⟨b,0,none⟩))):=
   fun w4 b hb hbl hg4=>Q3v (Aa H) aJ (Aa HT) hg1 (Aa HL) (Aa HO) (Aa OD) (Aa xB) (Aa mr) hb hbl hg4
  have kq:=Ac dW;clear dW mr dH hB xA
  rename_i K1 hK1 K0 hK0
  refine hK0 _ _ ?_;clear hK0 K0
  go_cut [8] (fun z wx=>∃b,z=.iface 208 (.pointer (some ⟨b,0,none⟩))/\Gl U ru q k bc lb fst ss (c::cs) w wx (.iface (C8 c.neg) (.pointer (some ⟨b,0,none⟩))))
  case first=>
   go_wp2;go_meet
   exact⟨_,rfl,Aa kq _ _ (AR _ _) (AW _) (AA _ _ _)⟩
  case rest=>
   obtain⟨b,rfl,U',nv,hs,p1,p2,p3,p4,p5,p6,p7,p8,p9⟩:=hcut;have hh:=Aa H;have hbl:=Ad hh.chain;have uu:=hh.uc;have rq:C8 c.neg=208:=by rw[aJ];rfl
   rw[rq] at p3 p4 p6
   have hlen:hs.reverse.length<=2000:=by
    have h1:=p3.1;rw[Fs,AP,AP,Aa NR] at h1;rw[GF];omega
   obtain⟨wz,mn,dw⟩:=p2.1.slice;generalize zZ:hs.reverse.length=nn at dw;have HGN:=Ac zZ;have HLEN:=Ac hlen;clear zZ hlen;have q0:wc.cell? ⟨bc,0,none⟩=some nv:=by simp[World.cell?,p1]
   subst dw;have aj:=AA wc (.cells #[.iface 208 (.pointer (some ⟨b,0,none⟩))] 150) none;have hr2:=p2.1.gr aj;have aG:RowAt 150 1 venc 0 (.slice (some ⟨wc.heap.size,0,none⟩) 1 1) [.iface 208 (.pointer (some ⟨b,0,none⟩))] (wc.alloc (.cells #[.iface 208 (.pointer (some ⟨b,0,none⟩))] 150)):=(RowAt.lit1 (e:=150) Sm wc (.iface 208 (.pointer (some ⟨b,0,none⟩))) #[.iface 208 (.pointer (some ⟨b,0,none⟩))] rfl).weak (AG _);have P2:=Ac (show TRow U' 2 150 1 venc (.slice wz nn mn) hs.reverse wc/\HdsAt U' q (Ff ss k (c::cs)) (.iface 208 (.pointer (some ⟨b,0,none⟩))::hs)/\(∀h∈Value.iface 208 (.pointer (some ⟨b,0,none⟩))::hs,h.oneCell'=true)/\((Value.slice wz nn mn).ownBlock≠some bc)/\SufAt U' ru (O3 k (c::cs)) q k (Ff ss k (c::cs)) ⟨[],[]⟩ (.iface 208 (.pointer (some ⟨b,0,none⟩))) wc/\GrS (fun i=>U i=2\/U i=3\/i=lb) w wc/\(∀i,i<w.heap.size->U' i=U i)/\∀i,w.heap.size<=i->i<wc.heap.size->(U' i<4\/4+3*q<=U' i)/\U' i<4+3*(q+(c::cs).length) from⟨p2,p3,p4,p5,p6,p7,p8,p9⟩);have P1:=Ac p1;clear p1 p2 p3 p4 p5 p6 p7 p8 p9 kq hh HT HL HO r9 di HM XE OD xB k0 k1 k2
   go_wp2_with (at_builtin;refine Cb rfl _ _ 148 rfl Tryz.underlying148 Tryz.infoNode rfl (by decide) rfl hr2 rfl aG (by simp) (fun y hy=>by simp only[AX] at hy;subst hy;exact Sn rfl) (by unfold maxLen;have:=Aa HLEN;simp only[BC];omega) (by have:=Aa HLEN;simp only[BC];omega) ?_)
   intro v5 w5 ax aP;obtain⟨g5,aI,rfl⟩:=aP.form;obtain⟨p2,p3,p4,p5,p6,p7,p8,p9⟩:=Aa P2;have hend:=Rf (bc:=bc) (w5:=w5) hbl uu ⟨U',hs,Aa P1,p2,p3,p4,p5,p6,p7,p8,p9,ax⟩ ⟨_,_,_,aj,aP⟩;have hb5:=aP.block (by rw[aj.block bc (Ad (Aa P1)) (by simp)];exact Aa P1) p5;have q5:w5.cell? ⟨bc,0,none⟩=some (.slice wz nn mn):=by simp[World.cell?,hb5]
   have z5:w5.frozen? ⟨bc,0,none⟩=false:=by simp[World.frozen?,hb5]
   have bD:=Ac hend;clear hend hb5 p2 p3 p4 p5 p6 p7 p8 p9 aP ax aG hr2 aj q0 P1 P2;generalize hs.reverse.length + [Value.iface 208 (.pointer (some ⟨b,0,none⟩))].length=l5 at bD⊢;go_wp2;go_ret;exact⟨_,rfl,Aa bD⟩
end Go.Proofs.YtolhbeekfjnfmaaGreatDoor

import Derived.Test.YtolhbeekfjnfmaaGreatDoorM37
import Derived.Test.YtolhbeekfjnfmaaGreatDoorM38
namespace Go.Proofs.YtolhbeekfjnfmaaGreatDoor
open Go.RowKit
variable {F:List Ft}{c:Ch}{a8:List Ch}{Zs:List (List Tok)}{s:Sv.St}
theorem ChSt.few'{cs:List Sv.Cond}{Z:List Tok}(h:ChSt F cs c Z)(hF:F.length<=16):(∀t∈c.e.toks,t.length=c.jn)/\c.jn<=4/\c.e.toks.length<=1000000:=by
 refine⟨h.ok.jlen h.few,?_,?_⟩
 ·rw[h.ok.jn]
  have:=Qi cs 0;have:=h.few;omega
 ·have h1:=(h.ok.perm h.terms).length_eq
  rw[BA] at h1;have h2:=D3 (F.map (fun g=>(g.id,g.f))) (by rw[BA];exact hF) cs [] [];have h3:16 ^ cs.length<=16 ^ 4:=DL (by omega) h.few;have h4:(16:Nat) ^ 4=65536:=by decide
  omega
theorem ChsSt.ch{rs:List Sv.Rule}(h:ChsSt F rs a8 Zs)(hc:c∈a8):∃r Z,r∈rs/\ChSt F r.conds c Z:=by
 obtain⟨i,hi⟩:=EZ hc;have eE:i<rs.length:=by have:=(AL.1 hi).1;rw[h.len.1] at this;exact this
 obtain⟨c2,Z,p1,p2,p3⟩:=h.get (AB eE);rw[hi] at p1;simp only[AE] at p1;subst p1;exact⟨_,Z,FW eE,p3⟩
theorem XSt.chsFew(h:XSt s F a8 Zs):Q0s a8:=by
 refine⟨fun c hc=>?_,by rw[h.rules.len.1];exact h.eight⟩;obtain⟨r,Z,_,h1⟩:=h.rules.ch hc;exact h1.few' h.few
theorem Sk{F:List Ft}(hF:FtAsc F):∀ {rs:List Sv.Rule} {a8:List Ch} {Zs:List (List Tok)} {qs:List Sq} (k:Nat),ChsSt F rs a8 Zs->qs.length=a8.length->(∀(i:Nat) (q:Sq) (c:Ch),qs[i]?=some q->a8[i]?=some c->q.ru=k+i/\q.l.Perm c.e.toks/\q.l.Pairwise (fun a b=>cmpL a.nums b.nums<=0))->
  qs.flatMap (fun q=>q.l.map (fun t=>((q.ru:Int),t.ids)))=Bo (F.map (fun g=>(g.id,g.f))) k rs
 | [],[],[],[],_,_,_,_=>rfl
 | r::rs,c::a8,Z::Zs,q::qs,k,h,hl,hq=>by
  obtain⟨h1,h2,h3⟩:=hq 0 q c rfl rfl;have h4:=h.1.ok.mats h.1.few h.1.terms hF.fst h2 h3
  have ih:=Sk hF (k+1) h.2 (by simpa using hl) (fun i q' c' hq' hc'=>by
   have:=hq (i+1) q' c' hq' hc';exact⟨by omega,this.2⟩)
  rw[BI,ih,show Bo (F.map (fun g=>(g.id,g.f))) k (r::rs)=(Ar (F.map (fun g=>(g.id,g.f))) r.conds [] []).map (fun ids=>((k:Int),ids))++Bo (F.map (fun g=>(g.id,g.f))) (k+1) rs from rfl];congr 1
  rw[<-h4,EF,show k=q.ru by omega];rfl
 | _,[],_,_::_,_,_,hl,_=>by simp at hl
 | _,_::_,_,[],_,_,hl,_=>by simp at hl
 | [],_::_,_,_::_,_,h,_,_=>h.elim
 | _::_,[],_,[],_,h,_,_=>by cases h
 | _::_,_::_,[],_,_,h,_,_=>h.elim
 | [],[],_::_,_,_,h,_,_=>h.elim
theorem AllS.mats(h:XSt s F a8 Zs){qs:List Sq}{ms:List Mv}(hq:Pq a8 qs)(ha:AllS qs ms):ms.map (fun x=>((x.ru:Int),x.tok.ids))=Al s.rs s.L:=by
 have h1:=Sk h.asc 0 h.rules hq.1 (fun i q c hi hc=>by
  obtain⟨k1,_,k3,k4⟩:=hq.2 i q c hi hc;exact⟨by omega,k3,k4⟩)
 unfold Al;rw[<-h.facts,<-h1];unfold AllS at ha;have h2:=BJ (List.map (fun p:Nat×Nat×Tok=>((p.1:Int),p.2.2.ids))) ha;rw[EF] at h2;refine Eq.trans ?_ (h2.trans ?_)
 ·rfl
 ·rw[JY]
  congr 1
  funext q;rw[EF];rfl
def Mv.ft(x:Mv):VFt:=⟨x.ru,x.sl,x.tok.ids⟩
theorem Zr(T:Nat->Nat){w w':World}{v:Value}{s:List Mv}(hr:RowAt 52 2 mrow 0 v s w')(hv:∀g,v.ownBlock=some g->w.heap.size<g)(hm:MvsOk w.heap.size s w')(h4:∀x∈s,x.tok.ids.length<=1000000) :
  ∃T',Hand T' 52 v (s.map Mv.ft) w'/\∀k,k<w.heap.size->T' k=T k:=by
 obtain⟨T',bR⟩:∃T':Nat->Nat,T'=fun k=>if k<w.heap.size then T k else if v.ownBlock=some k then 13 else 13+3*(s.findIdx (fun x=>decide (x.sl.ownBlock=some k))+1):=⟨_,rfl⟩
 refine⟨T',⟨⟨⟨Cz,?_⟩,fun g hg=>?_⟩,fun i x hx=>?_⟩,fun k hk=>by rw[bR];dsimp only;rw[AQ hk]⟩
 ·have e:(s.map Mv.ft).flatMap ftenc=s.flatMap mrow:=by rw[IV];rfl
  rw[e,BA];exact hr.2
 ·rw[bR]
  dsimp only;rw[AO (by have:=hv g hg;omega),AQ hg]
 ·rw[BR] at hx
  cases hy:s[i]? with
  | none=>rw[hy] at hx;simp at hx
  | some y=>
   rw[hy] at hx;simp only[DZ,AE] at hx;subst hx;have YF:=AV hy;have hrow:=hm.rows y YF;refine⟨⟨hrow.weak (AG _),fun g hg=>?_⟩,h4 y YF⟩;have hg0:=hrow.own g hg
   have hvg:v.ownBlock≠some g:=fun e=>by
    obtain⟨c1,f1,k1⟩:=hr.blockCells e;obtain⟨c2,f2,k2⟩:=hrow.blockCells hg;rw[k1] at k2;simp only[AE,KD] at k2;exact absurd k2.2.1 (by decide)
   rw[bR];dsimp only;rw[AO (by omega),AO hvg]
   have TK:s.findIdx (fun x=>decide (x.sl.ownBlock=some g))=i:=by
    have eE:=(AL.1 hy).1;rw[List.findIdx_eq eE];have YH:=(AL.1 hy).2;refine⟨by rw[YH];exact IL hg,fun j hj=>?_⟩;rw[decide_eq_false_iff_not];intro e;have:=KI.1 hm.apart j i (by omega) eE hj g g e (by rw[YH];exact hg);omega
   rw[TK]
theorem Q1b(T:Nat->Nat)(t x:Nat)(s:Sv.St)(w:World)(h:XT T t x s w) :
  Calls Tryz.prog 21 #[.pointer (some ⟨x,0,none⟩)] w fun e w'=>∃T' l xs,e=.returned l/\w.grownBy w' none/\Hand T' 52 l xs w'/\xs.map (fun x=>(x.kind,x.vals))=Al s.rs s.L/\∀k,k<w.heap.size->T' k=T k:=by
 obtain⟨U,nb,fv,F,a8,Zs,h1,h2,h3,h4,h5⟩:=h;have hM:=Tp U nb a8 w h1.net h5 h2.chsFew;have c0:w.cell? ⟨x,0,none⟩=some (.pointer (some ⟨nb,0,none⟩)):=by simp[World.cell?,h1.blk]
 have HE:=Ac (fun(w':World) (v:Value) (ms:List Mv) (qs:List Sq) (hr:RowAt 52 2 mrow 0 v ms w') (hm:MvsOk w.heap.size ms w') (hq:Pq a8 qs) (ha:AllS qs ms) (hv:∀g,v.ownBlock=some g->w.heap.size<g)=>show ∃T' xs,Hand T' 52 v xs w'/\xs.map (fun x=>(x.kind,x.vals))=Al s.rs s.L/\∀k,k<w.heap.size->T' k=T k by
  have hl:∀x∈ms,x.tok.ids.length<=1000000:=by
   intro x hx;have hmem:((x.ru:Int),x.tok.ids)∈Al s.rs s.L:=by rw[<-AllS.mats h2 hq ha];exact CJ.2 ⟨x,hx,rfl⟩
   obtain⟨i,r,k1,_,k3⟩:=(Dz _ _ _).1 hmem;obtain⟨t',e1,e2⟩:=Dl _ _ _ _ _ k3;obtain⟨c,Z,q1,q2,q3⟩:=h2.rules.get k1;have hp:=q3.ok.perm q3.terms;rw[h2.facts] at hp;obtain⟨u,hu,he⟩:=CJ.1 (hp.mem_iff.2 k3);have iQ:=q3.ok.jlen q3.few u hu;have hjn:=(q3.few' h2.few).2.1;simp only at he;rw[<-he];unfold Tok.ids;rw[BA];omega
  obtain⟨T',k1,k2⟩:=Zr T hr hv hm hl;refine⟨T',ms.map Mv.ft,k1,?_,k2⟩;rw[EF,<-AllS.mats h2 hq ha];rfl)
 clear h1 h2 h3 h4 h5;go_enter Tryz.func21,Tryz.ntmps21
 go_wp2_with (go_at_call 42;refine hM.mono ?_;rintro e w1⟨v,ms,qs,rfl,hg,hr,hm,hq,ha,hv⟩)
 go_ret;obtain⟨T',xs,k1,k2,k3⟩:=Aa HE w1 v ms qs hr hm hq ha hv;exact⟨T',v,xs,rfl,hg,k1,k2,k3⟩
theorem Q2v(T:Nat->Nat)(t x:Nat)(s:Sv.St)(w:World)(h:XT T t x s w) :
  Calls Tryz.prog 24 #[.pointer (some ⟨x,0,none⟩)] w fun e w'=>∃T' a l xs,e=.returned (.tuple #[a,l])/\w.grownBy w' none/\Hand T' 37 l xs w'/\TRow T' (13+3*(xs.length+1)) 3 1 C1 a (s.L.map Prod.fst) w'/\xs.map (fun x=>(⟨x.kind,x.vals⟩:Sv.Fact))=s.L.map Prod.snd/\∀k,k<w.heap.size->T' k=T k:=by
 obtain⟨U,nb,fv,F,a8,Zs,h1,h2,h3,h4,h5⟩:=h;refine(Q0q T U x nb fv F s.cnt a8 w h1 h2.few).mono ?_;rintro e w'⟨T',a,l,xs,rfl,hI⟩;have hl:=hI.len (AW _);have bq:=hI.ids;have ie:=hI.same;rw[CA (AW _)] at bq ie;refine⟨T',a,l,xs,rfl,hI.gr,⟨hI.row,hI.els⟩,?_,?_,hI.old⟩
 ·rw[hl,<-h2.facts,EF]
  exact bq
 ·rw[ie,<-h2.facts,EF]
  rfl
end Go.Proofs.YtolhbeekfjnfmaaGreatDoor

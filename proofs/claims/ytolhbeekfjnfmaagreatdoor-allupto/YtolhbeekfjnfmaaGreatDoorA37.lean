import Derived.Test.YtolhbeekfjnfmaaGreatDoorA35
import Derived.Test.YtolhbeekfjnfmaaGreatDoorA36
namespace Go.Proofs.YtolhbeekfjnfmaaGreatDoor
open Go.RowKit Go.Proofs.Tryz
variable {F:List Ft}{c:Ch}{a8:List Ch}{Zs:List (List Tok)}{s:Q0F}
theorem Q3I.few'{cs:List Q0A}{Z:List Tok}(h:Q3I F cs c Z)(hF:F.length<=16):(∀t∈c.e.toks,t.length=c.jn)/\c.jn<=4/\c.e.toks.length<=1000000:=by refine⟨h.ok.jlen h.few,?_,?_⟩;{rw[h.ok.jn];have:=Qx cs 0;have:=h.few;omega};{have h1:=(h.ok.perm h.terms).length_eq;(rw[AY]at h1;have h2:=D7 (F.map (λg=>(g.id,g.f))) (by rw[AY];exact hF) cs [] [];have h3:16 ^ cs.length<=16 ^ 4:=DR (by omega) h.few;have h4:(16:Nat) ^ 4=65536:=by decide);omega}
theorem Q1D.ch{rs:List Q0C}(h:Q1D F rs a8 Zs)(hc:c∈a8):∃r Z,r∈rs/\Q3I F r.conds c Z:=by
 obtain⟨i,hi⟩:=EN hc;have dN:i<rs.length:=by have:=(AK.1 hi).1;rw[h.len.1]at this;exact this
 obtain⟨c2,Z,p1,p2,p3⟩:=h.get (AB dN);rw[hi]at p1;simp only[AE]at p1;subst p1;exact⟨_,Z,FD dN,p3⟩
theorem XSt.chsFew(h:XSt s F a8 Zs):Q09 a8:=by refine⟨λc hc=>?_,by rw[h.rules.len.1];exact h.eight⟩;obtain⟨r,Z,_,h1⟩:=h.rules.ch hc;exact h1.few' h.few
theorem N9{F:List Ft}(hF:Q1M F):∀ {rs:List Q0C} {a8:List Ch} {Zs:List (List Tok)} {qs:List Sq} (k:Nat),Q1D F rs a8 Zs->qs.length=a8.length->(∀(i:Nat) (q:Sq) (c:Ch),qs[i]?=some q->a8[i]?=some c->q.ru=k+i/\q.l.Perm c.e.toks/\q.l.Pairwise (λa b=>cmpL a.nums b.nums<=0))->
  qs.flatMap (λq=>q.l.map (λt=>((q.ru:Int),t.ids)))=Bu (F.map (λg=>(g.id,g.f))) k rs
 |[],[],[],[],_,_,_,_=>rfl
 |r::rs,c::a8,Z::Zs,q::qs,k,h,hl,hq=>by
  obtain⟨h1,h2,h3⟩:=hq 0 q c rfl rfl;have h4:=h.1.ok.mats h.1.few h.1.terms hF.fst h2 h3
  have ih:=N9 hF (k+1) h.2 (by simpa using hl) (λi q' c' hq' hc'=>by
   have:=hq (i+1) q' c' hq' hc';exact⟨by omega,this.2⟩)
  rw[BG,ih,show Bu (F.map (λg=>(g.id,g.f))) k (r::rs)=(As (F.map (λg=>(g.id,g.f))) r.conds [] []).map (λids=>((k:Int),ids))++Bu (F.map (λg=>(g.id,g.f))) (k+1) rs from rfl];congr 1
  rw[<-h4,DL,show k=q.ru by omega];rfl
 |_,[],_,_::_,_,_,hl,_=>by simp at hl
 |_,_::_,_,[],_,_,hl,_=>by simp at hl
 |[],_::_,_,_::_,_,h,_,_=>h.elim
 |_::_,[],_,[],_,h,_,_=>by cases h
 |_::_,_::_,[],_,_,h,_,_=>h.elim
 |[],[],_::_,_,_,h,_,_=>h.elim
theorem AllS.mats(h:XSt s F a8 Zs){qs:List Sq}{ms:List Mv}(hq:Of a8 qs)(ha:AllS qs ms):ms.map (λx=>((x.ru:Int),x.tok.ids))=Ak s.rs s.L:=by have h1:=N9 h.asc 0 h.rules hq.1 (λi q c hi hc=>by obtain⟨k1,_,k3,k4⟩:=hq.2 i q c hi hc;exact⟨by omega,k3,k4⟩);unfold Ak;rw[<-h.facts,<-h1];unfold AllS at ha;have h2:=BJ (List.map (λp:Nat×Nat×Tok=>((p.1:Int),p.2.2.ids))) ha;rw[DL]at h2;refine Eq.trans ?_ (h2.trans ?_);{rfl};{rw[IZ];congr 1;funext q;rw[DL];rfl}
def Mv.ft(x:Mv):VFt:=⟨x.ru,x.sl,x.tok.ids⟩
theorem Q0c(T:Nat->Nat){w w':World}{v:Value}{s:List Mv}(hr:Q0B 52 2 mrow 0 v s w')(hv:∀g,v.ownBlock=some g->w.heap.size<g)(hm:Q0U w.heap.size s w')(h4:∀x∈s,x.tok.ids.length<=1000000):∃T',Hand T' 52 v (s.map Mv.ft) w'/\∀k,k<w.heap.size->T' k=T k:=by
 obtain⟨T',bH⟩:∃T':Nat->Nat,T'=λk=>if k<w.heap.size then T k else if v.ownBlock=some k then 13 else 13+3*(s.findIdx (λx=>decide (x.sl.ownBlock=some k))+1):=⟨_,rfl⟩
 refine⟨T',⟨⟨⟨Cx,?_⟩,λg hg=>?_⟩,λi x hx=>?_⟩,λk hk=>by rw[bH];dsimp only;rw[AQ hk]⟩;{(have e:(s.map Mv.ft).flatMap ftenc=s.flatMap mrow:=by rw[GF];rfl);rw[e,AY];exact hr.2};{rw[bH];dsimp only;rw[AO (by have:=hv g hg;omega),AQ hg]};{rw[BR]at hx;cases hy:s[i]? with|none=>rw[hy]at hx;simp at hx|some y=>rw[hy]at hx;simp only[DM,AE]at hx;subst hx;have zF:=AW hy;have hrow:=hm.rows y zF;refine⟨⟨hrow.weak (AG _),λg hg=>?_⟩,h4 y zF⟩;have hg0:=hrow.own g hg;(have WC:v.ownBlock≠some g:=λe=>by obtain⟨c1,f1,k1⟩:=hr.blockCells e;obtain⟨c2,f2,k2⟩:=hrow.blockCells hg;rw[k1]at k2;simp only[AE,KJ]at k2;exact absurd k2.2.1 (by decide));rw[bH];dsimp only;rw[AO (by omega),AO WC];(have xZ:s.findIdx (λx=>decide (x.sl.ownBlock=some g))=i:=by have dN:=(AK.1 hy).1;rw[List.findIdx_eq dN];have LI:=(AK.1 hy).2;refine⟨by rw[LI];exact GD hg,λj hj=>?_⟩;rw[decide_eq_false_iff_not];intro e;have:=IU.1 hm.apart j i (by omega) dN hj g g e (by rw[LI];exact hg);omega);rw[xZ]}
theorem Yv(T:Nat->Nat)(t x:Nat)(s:Q0F)(w:World)(h:XT T t x s w):Calls prog 21 #[.pointer (some ⟨x,0,none⟩)] w λe w'=>∃T' l xs,e=.returned l/\w.grownBy w' none/\Hand T' 52 l xs w'/\xs.map (λx=>(x.kind,x.vals))=Ak s.rs s.L/\∀k,k<w.heap.size->T' k=T k:=by
 obtain⟨U,nb,fv,F,a8,Zs,h1,h2,h3,h4,h5⟩:=h;have hM:=Uj U nb a8 w h1.net h5 h2.chsFew;have c0:w.cell? ⟨x,0,none⟩=some (.pointer (some ⟨nb,0,none⟩)):=by simp[World.cell?,h1.blk]
 have HE:=Ac (λ(w':World) (v:Value) (ms:List Mv) (qs:List Sq) (hr:Q0B 52 2 mrow 0 v ms w') (hm:Q0U w.heap.size ms w') (hq:Of a8 qs) (ha:AllS qs ms) (hv:∀g,v.ownBlock=some g->w.heap.size<g)=>show ∃T' xs,Hand T' 52 v xs w'/\xs.map (λx=>(x.kind,x.vals))=Ak s.rs s.L/\∀k,k<w.heap.size->T' k=T k by(have hl:∀x∈ms,x.tok.ids.length<=1000000:=by(intro x hx;have hmem:((x.ru:Int),x.tok.ids)∈Ak s.rs s.L:=by rw[<-AllS.mats h2 hq ha];exact CC.2 ⟨x,hx,rfl⟩);obtain⟨i,r,k1,_,k3⟩:=(D3 _ _ _).1 hmem;obtain⟨t',e1,e2⟩:=Dp _ _ _ _ _ k3;obtain⟨c,Z,q1,q2,q3⟩:=h2.rules.get k1;have hp:=q3.ok.perm q3.terms;rw[h2.facts]at hp;obtain⟨u,hu,he⟩:=CC.1 (hp.mem_iff.2 k3);have iC:=q3.ok.jlen q3.few u hu;have hjn:=(q3.few' h2.few).2.1;simp only at he;rw[<-he];unfold Tok.ids;rw[AY];omega);obtain⟨T',k1,k2⟩:=Q0c T hr hv hm hl;refine⟨T',ms.map Mv.ft,k1,?_,k2⟩;rw[DL,<-AllS.mats h2 hq ha];rfl);clear h1 h2 h3 h4 h5;go_enter func21,ntmps21;go_wp2_with (go_at_call 42;refine hM.mono ?_;rintro e w1⟨v,ms,qs,rfl,hg,hr,hm,hq,ha,hv⟩);go_ret;obtain⟨T',xs,k1,k2,k3⟩:=Aa HE w1 v ms qs hr hm hq ha hv;exact⟨T',v,xs,rfl,hg,k1,k2,k3⟩
theorem Yu(T:Nat->Nat)(t x:Nat)(s:Q0F)(w:World)(h:XT T t x s w):Calls prog 24 #[.pointer (some ⟨x,0,none⟩)] w λe w'=>∃T' a l xs,e=.returned (.tuple #[a,l])/\w.grownBy w' none/\Hand T' 37 l xs w'/\Q0Q T' (13+3*(xs.length+1)) 3 1 C8 a (s.L.map Prod.fst) w'/\xs.map (λx=>(⟨x.kind,x.vals⟩:Q0E))=s.L.map Prod.snd/\∀k,k<w.heap.size->T' k=T k:=by obtain⟨U,nb,fv,F,a8,Zs,h1,h2,h3,h4,h5⟩:=h;refine(Q05 T U x nb fv F s.cnt a8 w h1 h2.few).mono ?_;rintro e w'⟨T',a,l,xs,rfl,hI⟩;have hl:=hI.len (AX _);have cC:=hI.ids;have jD:=hI.same;rw[BX (AX _)]at cC jD;refine⟨T',a,l,xs,rfl,hI.gr,⟨hI.row,hI.els⟩,?_,?_,hI.old⟩;{rw[hl,<-h2.facts,DL];exact cC};{rw[jD,<-h2.facts,DL];rfl}
end Go.Proofs.YtolhbeekfjnfmaaGreatDoor

import Derived.Test.YtolhbeekfjnfmaaGreatDoorA29
namespace Go.Proofs.YtolhbeekfjnfmaaGreatDoor
open Go.RowKit
attribute [local go_sem] Oper.semAt_some
variable {Z L:Nat->Prop}{A B:World}
theorem Q0B.keptI{α:Type}{e:TypeId}{size:Nat}{enc:α->List Value}{base:Nat}{v:Value}{l:List α}(h:Q0B e size enc base v l A)(hk:Kept Z L A B)(hz:∀g,v.ownBlock=some g->Z g):Q0B e size enc base v l B:=by refine⟨h.1,h.2.1,?_⟩;rcases h.2.2 with ⟨h1,h2⟩|⟨g,cap,cur,h1,h2,h3,h4⟩;{exact .inl ⟨h1,h2⟩};{exact .inr ⟨g,cap,cur,h1,h2,hk.blks g _ _ _ (hz g (by rw[h1];rfl)) h3,h4⟩}
theorem Q0J.keptI{Z L:Nat->Prop}{A B:World}{U:Nat->Nat}{g:Ft}(h:Q0J U g A)(hk:Kept Z L A B)(hU:∀i,U i=1->Z i):Q0J U g B:=by obtain⟨h1,h2,v,h3,h4⟩:=h;exact⟨h1,h2,v,hk.blks _ _ _ _ (hU _ h1) h3,h4.1.keptI hk (λg hg=>hU g (h4.2 g hg)),h4.2⟩
theorem Q3L.keptI{g:Nat}{l:List Tok}(h:Q3L g l A)(hk:Kept Z L A B)(hz0:l≠[]->Z g):Q3L g l B:=by
 intro i t hi k hk4;have hz:=hz0 (by rintro rfl;simp at hi);have h1:=h i t hi k hk4;have hs:∃v,(A9 t)[k]?=some v:=⟨_,AB (by rw[Bz];exact hk4)⟩
 obtain⟨v,hv⟩:=hs;rw[hv]at h1;obtain⟨cs,ty,fz,hb⟩:=Ni h1;have YY:B.heap[g]?=A.heap[g]?:=(hk.blks g cs ty fz hz hb).trans hb.symm;have h2:B.cell? ⟨g,i*4+k,none⟩=A.cell? ⟨g,i*4+k,none⟩:=EG (w:=A) YY;rw[h2,h1,hv]
theorem Q3K.keptI{Z L:Nat->Prop}{A B:World}{U:Nat->Nat}{bt bl g lb ru jn:Nat}{l:List Tok}(h:Q3K U bt bl g lb ru jn l A)(hk:Kept Z L A B)(hU:∀i,U i=1->Z i)(VU:Z bt)(hzl:Z bl)(zE:l≠[]->Z g)(hl:L lb):Q3K U bt bl g lb ru jn l B:=by obtain⟨p,cap,h1,h2⟩:=h.toks;exact⟨⟨p,cap,hk.blks _ _ _ _ VU h1,h2⟩,hk.blks _ _ _ _ hzl h.last,h.cells.keptI hk zE,h.four,λt ht x hx=>(h.fts t ht x hx).keptI hk hU,hk.lasts _ _ _ hl (.inl rfl) h.ru,hk.lasts _ _ _ hl (.inr rfl) h.jn⟩
structure Mv where
 ru:Nat
 jn:Nat
 ao:Option Addr
 cap:Nat
 tok:Tok
def Q1(x:Mv):Array Value:=#[.agg #[.int .i64 x.ru,.slice x.ao x.jn x.cap]]
def Mv.sl(x:Mv):Value:=.slice x.ao x.jn x.cap
structure Q0U(n0:Nat)(s:List Mv)(W:World):Prop where
 rows:∀x∈s,Q0L n0 x.sl x.tok.ids W
 apart:s.Pairwise (λx y=>∀g h,x.sl.ownBlock=some g->y.sl.ownBlock=some h->g<h)
def Fo(Z:Nat->Prop)(s:List Mv):Prop:=∀x∈s,∀g,x.sl.ownBlock=some g->Z g
theorem Q0U.keptI{Z L:Nat->Prop}{A B:World}{n0:Nat}{s:List Mv}(h:Q0U n0 s A)(hk:Kept Z L A B)(hz:Fo Z s):Q0U n0 s B:=⟨λx hx=>(h.rows x hx).keptI hk (hz x hx),h.apart⟩
theorem Q0U.snoc{n0:Nat}{s:List Mv}{x:Mv}(h:Q0U n0 s A)(hg:A.grownBy B none)(hx:Q0L A.heap.size x.sl x.tok.ids B)(h0:n0<=A.heap.size):Q0U n0 (s++[x]) B:=by refine⟨λy hy=>?_,FK.2 ⟨h.apart,JA _ _,λy hy z hz g b jI hbz=>?_⟩⟩;{rcases BA.1 hy with hy|hy;{exact(h.rows y hy).gr hg};{simp only[AZ]at hy;subst hy;exact hx.weak h0}};{simp only[AZ]at hz;subst hz;have h1:=((h.rows y hy).own g jI).2;have h2:=(hx.own b hbz).1;omega}
end Go.Proofs.YtolhbeekfjnfmaaGreatDoor

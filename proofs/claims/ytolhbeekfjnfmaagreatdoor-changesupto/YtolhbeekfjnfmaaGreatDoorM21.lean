import Derived.Shelf.Abstract
import Derived.Test.YtolhbeekfjnfmaaGreatDoorM20
set_option maxHeartbeats 8000000
set_option maxRecDepth 100000
namespace Go.Proofs.YtolhbeekfjnfmaaGreatDoor
open Go.RowKit
variable {B c k b o q j:Nat}{ns:List Nd}{e:En}{X:List Tok}{U:Nat->Nat}{w wx w' w1:World}{v nx tv lv ov fv:Value}{cs:Array Value}{ty:TypeId}{t:Tok}{n:Nd}{f:Ft}{A:List Nat}
def Le(p:Ft->Bool):Nat->List Ft->Int
 | _,[]=>-1
 | k,t::l=>if p t=true then (k:Int) else Le p (k+1) l
theorem Jm(p:Ft->Bool):∀(l:List Ft) (k:Nat),decide (0<=Le p k l)=l.any p
 | [],_=>rfl
 | t::l,k=>by
  unfold Le;rw[GH];split
  ·rename_i h;rw[h];simp
  ·rename_i h;rw[Jm p l (k+1),JM.2 h,EM]
theorem FsAt.cell{v:Value}{l:List Ft}{w:World}(h:FsAt v l w){k:Nat}{f:Ft}(hk:l[k]?=some f):∃g cap,v=.slice (some ⟨g,0,none⟩) l.length cap/\w.cell? ⟨g,k,none⟩=some (.pointer (some ⟨f.blk,0,none⟩)):=by
 obtain⟨g,cap,h1,h2⟩:=h.cells hk;have:=h2 0 (by omega);exact⟨g,cap,h1,by simpa[Qf,Ee] using this⟩
theorem Wg(N:Nat)(b0:Value)(p:Ft->Bool)(v:Value)(l:List Ft)(w:World)(eg:∀args w,(callFunc N args).run Tryz.prog w=.ok (.enter N args) w)(hr:FsAt v l w)
 (hp:∀wx t,w.grownBy wx none->t∈l->Calls Tryz.prog N #[.pointer (some ⟨t.blk,0,none⟩),b0] wx fun e w'=>e=.returned (.bool (p t))/\wx.grownBy w' none) :
  Calls Tryz.prog 44 #[v,(.func (.func N) #[] #[b0])] w fun e w'=>e=.returned (.int .i64 (Le p 0 l))/\w.grownBy w' none:=by
 obtain⟨ao,cap,rfl⟩:=hr.slice;have cj:=hr.le;unfold maxLen at cj;obtain⟨R,hR⟩:∃R,Le p 0 l=R:=⟨_,rfl⟩
 rw[hR];have HR:=Ac hR;have HP:=Ac hp;have dD:=Ac hr;clear hR hp hr;go_enter Tryz.func44,Tryz.ntmps44;go_wp2;go_loopw [8] (fun x w'=>∃k:Nat,k<=l.length/\x=.int .i64 k/\Le p k (l.drop k)=R/\w.grownBy w' none) (fun x _=>l.length-(intOf x).toNat)
 case atStart=>exact⟨0,AG _,rfl,Aa HR,AD _ _⟩
 case round=>
  clear HR;obtain⟨k,hk,rfl,hr,hg⟩:=hrel;by_cases hlt:k<l.length
  ·have hd:decide (k<l.length)=true:=by simpa using hlt
   obtain⟨t,ht⟩:∃t,l[k]?=some t:=⟨_,AB hlt⟩
   obtain⟨g,cap',e1,c0⟩:=FsAt.cell ((Aa dD).gr hg) ht;simp only[AH,BP] at e1;obtain⟨rfl,rfl⟩:=e1;have hC:=Aa HP wr t hg (AV ht);rw[A0 ht] at hr;unfold Le at hr;obtain⟨r,hr1⟩:∃r,p t=r:=⟨_,rfl⟩
   rw[hr1] at hr hC;have HR:=Ac hr;clear hr hr1 ht;go_wp2_with fail;refine hC.mono ?_;rintro e w1⟨rfl,hg1⟩;have bI:=Ab hg hg1;have hr:=Aa HR;clear HR hC hg1;cases r with
   | true=>
    rw[AQ rfl] at hr;subst hr;go_wp2;go_ret;exact⟨rfl,bI⟩
   | false=>
    rw[AO (by simp)] at hr;have HR:=Ac hr;clear hr;go_wp2;go_roundw
    case rel=>exact⟨k+1,by omega,by go_num,Aa HR,bI⟩
    case measure=>simp[intOf];omega
  ·have hd:decide (k<l.length)=false:=by simpa using hlt
   have e:l.drop k=[]:=BD (by omega);rw[e] at hr;have hr2:-1=R:=hr;subst hr2;clear hr e;go_wp2;go_ret;exact⟨rfl,hg⟩
theorem Q11(N:Nat)(b0 b1:Value)(p:Ft->Bool)(v:Value)(l:List Ft)(w:World)(eg:∀args w,(callFunc N args).run Tryz.prog w=.ok (.enter N args) w)(hr:FsAt v l w)
 (hp:∀wx t,w.grownBy wx none->t∈l->Calls Tryz.prog N #[.pointer (some ⟨t.blk,0,none⟩),b0,b1] wx fun e w'=>e=.returned (.bool (p t))/\wx.grownBy w' none) :
  Calls Tryz.prog 44 #[v,(.func (.func N) #[] #[b0,b1])] w fun e w'=>e=.returned (.int .i64 (Le p 0 l))/\w.grownBy w' none:=by
 obtain⟨ao,cap,rfl⟩:=hr.slice;have cj:=hr.le;unfold maxLen at cj;obtain⟨R,hR⟩:∃R,Le p 0 l=R:=⟨_,rfl⟩
 rw[hR];have HR:=Ac hR;have HP:=Ac hp;have dD:=Ac hr;clear hR hp hr;go_enter Tryz.func44,Tryz.ntmps44;go_wp2;go_loopw [8] (fun x w'=>∃k:Nat,k<=l.length/\x=.int .i64 k/\Le p k (l.drop k)=R/\w.grownBy w' none) (fun x _=>l.length-(intOf x).toNat)
 case atStart=>exact⟨0,AG _,rfl,Aa HR,AD _ _⟩
 case round=>
  clear HR;obtain⟨k,hk,rfl,hr,hg⟩:=hrel;by_cases hlt:k<l.length
  ·have hd:decide (k<l.length)=true:=by simpa using hlt
   obtain⟨t,ht⟩:∃t,l[k]?=some t:=⟨_,AB hlt⟩
   obtain⟨g,cap',e1,c0⟩:=FsAt.cell ((Aa dD).gr hg) ht;simp only[AH,BP] at e1;obtain⟨rfl,rfl⟩:=e1;have hC:=Aa HP wr t hg (AV ht);rw[A0 ht] at hr;unfold Le at hr;obtain⟨r,hr1⟩:∃r,p t=r:=⟨_,rfl⟩
   rw[hr1] at hr hC;have HR:=Ac hr;clear hr hr1 ht;go_wp2_with fail;refine hC.mono ?_;rintro e w1⟨rfl,hg1⟩;have bI:=Ab hg hg1;have hr:=Aa HR;clear HR hC hg1;cases r with
   | true=>
    rw[AQ rfl] at hr;subst hr;go_wp2;go_ret;exact⟨rfl,bI⟩
   | false=>
    rw[AO (by simp)] at hr;have HR:=Ac hr;clear hr;go_wp2;go_roundw
    case rel=>exact⟨k+1,by omega,by go_num,Aa HR,bI⟩
    case measure=>simp[intOf];omega
  ·have hd:decide (k<l.length)=false:=by simpa using hlt
   have e:l.drop k=[]:=BD (by omega);rw[e] at hr;have hr2:-1=R:=hr;subst hr2;clear hr e;go_wp2;go_ret;exact⟨rfl,hg⟩
theorem Tryz.enters1:∀args w,(callFunc 163 args).run Tryz.prog w=.ok (.enter 163 args) w:=enters_of Tryz.func163 (by kernel_rfl) rfl
theorem Q3i(N:Nat)(b0 b1:Value)(p:Ft->Bool)(v:Value)(l:List Ft)(w:World)(eg:∀args w,(callFunc N args).run Tryz.prog w=.ok (.enter N args) w)(hr:FsAt v l w)
 (hp:∀wx t,w.grownBy wx none->t∈l->Calls Tryz.prog N #[.pointer (some ⟨t.blk,0,none⟩),b0,b1] wx fun e w'=>e=.returned (.bool (p t))/\wx.grownBy w' none) :
  Calls Tryz.prog 162 #[v,(.func (.func N) #[] #[b0,b1])] w fun e w'=>e=.returned (.bool (l.any p))/\w.grownBy w' none:=by
 have hI:=Q11 N b0 b1 p v l w eg hr hp;have hA:=Jm p l 0;obtain⟨r,hr1⟩:∃r,Le p 0 l=r:=⟨_,rfl⟩
 rw[hr1] at hI hA;rw[<-hA];clear hp hr hA hr1;go_enter Tryz.func162,Tryz.ntmps162;go_wp2_with fail;refine hI.mono ?_;rintro e w1⟨rfl,hg1⟩;clear hI;go_wp2;go_ret;exact⟨rfl,hg1⟩
theorem Oq(U:Nat->Nat)(q k b:Nat)(n:Nd)(nx tv lv ov fv:Value)(t:Tok)(w:World)(h:NodeAt U q k b n nx tv lv ov fv w)(dR:t.length<=4)(ht:∀g∈t,FtAt U g w)
 (hl:∀f∈n.K,∀l∈n.links,l.place<f.f.vals.length/\∃g,t[l.at'.fact]?=some g/\l.at'.place<g.f.vals.length) :
  Calls Tryz.prog 141 #[.pointer (some ⟨b,0,none⟩),Bt t] w fun e w'=>e=.returned (.bool (n.K.any (fun g=>Ck n.links t g.f)))/\w.grownBy w' none:=by
 obtain⟨p0,p1,p2,p3,hp⟩:=A9 t;have eT:Bt t=.agg #[.pointer p0,.pointer p1,.pointer p2,.pointer p3]:=by unfold Bt;rw[hp]
 have a7:=Dm w (.cells #[.pointer (some ⟨b,0,none⟩)] 209) (.cells #[.pointer p0,.pointer p1,.pointer p2,.pointer p3] 139);have hx1:((w.alloc (.cells #[.pointer (some ⟨b,0,none⟩)] 209)).alloc (.cells #[.pointer p0,.pointer p1,.pointer p2,.pointer p3] 139)).heap[w.heap.size]?=some (.cells #[.pointer (some ⟨b,0,none⟩)] 209 (0,0)):=by rw[CY _ _ _ (by simp)];exact AR _ _
 have hx2:((w.alloc (.cells #[.pointer (some ⟨b,0,none⟩)] 209)).alloc (.cells #[.pointer p0,.pointer p1,.pointer p2,.pointer p3] 139)).heap[w.heap.size+1]?=some (.cells #[.pointer p0,.pointer p1,.pointer p2,.pointer p3] 139 (0,0)):=by
  have:=AR (w.alloc (.cells #[.pointer (some ⟨b,0,none⟩)] 209)) (.cells #[.pointer p0,.pointer p1,.pointer p2,.pointer p3] 139);simpa using this
 have hC:∀wx f,((w.alloc (.cells #[.pointer (some ⟨b,0,none⟩)] 209)).alloc (.cells #[.pointer p0,.pointer p1,.pointer p2,.pointer p3] 139)).grownBy wx none->f∈n.K->Calls Tryz.prog 163 #[.pointer (some ⟨f.blk,0,none⟩),.pointer (some ⟨w.heap.size,0,none⟩),.pointer (some ⟨w.heap.size+1,0,none⟩)] wx fun e w'=>e=.returned (.bool (Ck n.links t f.f))/\wx.grownBy w' none:=by
  intro wx f hg hf;have ah:=Ab a7 hg;have y1:=hg.block _ (Ad hx1) (by simp);have y2:=hg.block _ (Ad hx2) (by simp);rw[hx1] at y1;rw[hx2] at y2;have y0:wx.cell? ⟨w.heap.size,0,none⟩=some (.pointer (some ⟨b,0,none⟩)):=by simp[World.cell?,y1]
  have z0:wx.cell? ⟨w.heap.size+1,0,none⟩=some (.pointer p0):=by simp[World.cell?,y2]
  have z1:wx.cell? ⟨w.heap.size+1,1,none⟩=some (.pointer p1):=by simp[World.cell?,y2]
  have z2:wx.cell? ⟨w.heap.size+1,2,none⟩=some (.pointer p2):=by simp[World.cell?,y2]
  have z3:wx.cell? ⟨w.heap.size+1,3,none⟩=some (.pointer p3):=by simp[World.cell?,y2]
  have hS:∀wy,wx.grownBy wy none->Calls Tryz.prog 139 #[.pointer (some ⟨b,0,none⟩),.agg #[.pointer p0,.pointer p1,.pointer p2,.pointer p3],.pointer (some ⟨f.blk,0,none⟩)] wy fun e w'=>e=.returned (.bool (Ck n.links t f.f))/\wy.grownBy w' none:=by
   intro wy il;have ar:=Ab ah il;have:=Gs U b n.c n.links t f wy (h.cd.gr ar) ((h.fts f hf).gr ar) (fun g cH=>(ht g cH).gr ar) dR (hl f hf);rw[eT] at this;exact this
  clear y1 y2 ah hx1 hx2 a7 h ht hl hp eT hg;go_enter Tryz.func163,Tryz.ntmps163;go_wp2_with fail
  go_region_with (go_at_call 139;refine(hS _ (by repeat (first|exact AD _ _|apply Ah))).mono ?_;rintro e w2⟨rfl,hg2⟩)
  all_goals
   go_wp2;go_ret;exact⟨rfl,Ab (by repeat (first|exact AD _ _|apply Ah)) hg2⟩
 have hS:=Q3i 163 (.pointer (some ⟨w.heap.size,0,none⟩)) (.pointer (some ⟨w.heap.size+1,0,none⟩)) (fun f=>Ck n.links t f.f) fv n.K ((w.alloc (.cells #[.pointer (some ⟨b,0,none⟩)] 209)).alloc (.cells #[.pointer p0,.pointer p1,.pointer p2,.pointer p3] 139)) Tryz.enters1 (h.facts.1.gr a7) hC;have c4:=a7.cell (h.cell 4 (by omega)) (by simp);rw[eT];have HG:=Ac a7;obtain⟨r,hr⟩:∃r,n.K.any (fun g=>Ck n.links t g.f)=r:=⟨_,rfl⟩
 rw[hr] at hS⊢;clear hC hx1 hx2 a7 h ht hl hp eT hr;go_enter Tryz.func141,Tryz.ntmps141;go_wp2_with fail;refine hS.mono ?_;rintro e w1⟨rfl,hg1⟩;clear hS;go_wp2;go_ret;exact⟨rfl,Ab (Aa HG) hg1⟩
end Go.Proofs.YtolhbeekfjnfmaaGreatDoor
namespace Go.Proofs.YtolhbeekfjnfmaaGreatDoor
variable {B c k b o q j:Nat}{ns:List Nd}{e:En}{X:List Tok}{U:Nat->Nat}{w wx w' w1:World}{v nx tv lv ov fv:Value}{cs:Array Value}{ty:TypeId}{t:Tok}{n:Nd}{f:Ft}{A:List Nat}
def Small(B:Nat)(ns:List Nd)(e:En):Prop:=(∀n∈ns,n.toks.length<=B)/\e.toks.length<=B/\e.wait.length<=B
theorem Small.of_arr{B:Nat}:∀ {ns:List Nd} {e:En} {Y:List Tok},Small B (arr ns e Y).1 (arr ns e Y).2->Small B ns e
 | [],e,Y,h=>by
  obtain⟨_,h2,h3⟩:=h;refine⟨by simp,?_,?_⟩
  ·have:(e.toks++Y).length<=B:=h2
   rw[AK] at this;omega
  ·have h4:(Y.foldl (Hp.push Tok.less) e.wait).length<=B:=h3
   rw[(Hp.fold_perm Tok.less Y e.wait).length_eq,AK] at h4;omega
 | n::ns,e,Y,h=>by
  obtain⟨h1,h2,h3⟩:=h;have ih:=Small.of_arr (ns:=ns) (e:=e) (Y:=Y.flatMap n.ext) ⟨fun m hm=>h1 m (BG _ hm),h2,h3⟩;refine⟨fun m hm=>?_,ih.2.1,ih.2.2⟩;rcases CQ.1 hm with rfl|hm
  ·have:(m.toks++Y).length<=B:=h1 _ (BF ..)
   rw[AK] at this;omega
  ·exact ih.1 m hm
theorem Small.part{Y:List Tok}(h:Small B (arr ns e (X++Y)).1 (arr ns e (X++Y)).2):Small B (arr ns e X).1 (arr ns e X).2:=by
 unfold arr at h⊢;rw[Cx] at h;exact Small.of_arr h
end Go.Proofs.YtolhbeekfjnfmaaGreatDoor
namespace Go.Proofs.YtolhbeekfjnfmaaGreatDoor
open Go.RowKit
variable {B c k b o q j:Nat}{ns:List Nd}{e:En}{X:List Tok}{U:Nat->Nat}{w wx w' w1:World}{v nx tv lv ov fv:Value}{cs:Array Value}{ty:TypeId}{t:Tok}{n:Nd}{f:Ft}{A:List Nat}
theorem N1:∀ {ns:List Nd} {A:List Nat} {e:En} {ts:List Tok},WF A ns->(∀t∈ts,HasAr A t)->(∀x∈e.wait,x.length<=4)->∀x∈(arr ns e ts).2.wait,x.length<=4
 | [],A,e,ts,h,ht,he=>by
  intro x hx;have hm:=(Hp.fold_perm Tok.less ts e.wait).mem_iff.1 hx;rcases AY.1 hm with hm|hm
  ·exact he x hm
  ·rw[(ht x hm).len];exact h
 | n::ns,A,e,ts,h,ht,he=>by
  refine N1 (ns:=ns) h.2.2.2.2 ?_ he;intro u hu;obtain⟨t,hm,hx⟩:=CT.1 hu;have:=ht t hm;unfold Nd.ext at hx;by_cases hn:n.c.neg=true
  ·rw[AQ hn] at hx⊢
   split at hx
   ·simp at hx
   ·simp at hx;rw[hx];exact this
  ·rw[AO hn] at hx⊢
   obtain⟨g,hg,rfl⟩:=CJ.1 hx;have hk:=h.2.2.1 g (BH.1 hg).1;rw[<-hk];exact this.snoc g
def Cj(U:Nat->Nat)(w:World)(c:Nat):Nat->Nat:=fun k=>if k<w.heap.size then U k else c
theorem Ak(h:k<w.heap.size):Cj U w c k=U k:=by unfold Cj;rw[AQ h]
theorem Bh(h:w.heap.size<=k):Cj U w c k=c:=by unfold Cj;rw[AO (by omega)]
theorem Jn{v':Value}(h1:∀g,v.ownBlock=some g->U g=c)(hlt:∀g,v.ownBlock=some g->g<w.heap.size)(h2:∀g,v'.ownBlock=some g->v.ownBlock=some g\/w.heap.size<=g):∀g,v'.ownBlock=some g->Cj U w c g=c:=by
 intro g hg;rcases h2 g hg with h|h
 ·rw[Ak (hlt g h)];exact h1 g h
 ·exact Bh h
theorem KeepPost.from{toks:List Tok}(hg:w.grownBy wx none)(h:KeepPost b o v cs ty toks t wx w'):KeepPost b o v cs ty toks t w w':=by
 obtain⟨v',h1,h2,h3,h4⟩:=h;exact⟨v',h1,h2,(GrS.of hg (by simp)).trans h3,fun g hx=>by rcases h4 g hx with h|h;exact .inl h;exact .inr (AU hg.size h)⟩
theorem PutPost.from{l:List Tok}(hg:w.grownBy wx none)(h:PutPost b o v cs ty l t wx w'):PutPost b o v cs ty l t w w':=by
 obtain⟨v',h1,h2,h3,h4⟩:=h;exact⟨v',h1,h2,(GrS.of hg (by simp)).trans h3,fun g hx=>by rcases h4 g hx with h|h;exact .inl h;exact .inr (AU hg.size h)⟩
theorem Wo(U:Nat->Nat)(ru jn q b:Nat)(e:En)(tv wv:Value)(t:Tok)(w:World)(h:LastAt U q b ru jn e tv wv w)(dR:t.length<=4)(ht:∀g∈t,FtAt U g w)(ZW:∀x∈e.wait,x.length<=4)(eI:e.toks.length<=1000000000)(hl2:e.wait.length<=1000000000) :
  Calls Tryz.prog 240 #[.pointer (some ⟨b,0,none⟩),Bt t] w fun e' w'=>e'=.returned (.tuple #[])/\∃U' dc dT,LastAt U' q b ru jn ⟨e.toks++[t],Hp.push Tok.less e.wait t⟩ dc dT w'/\GrS (Am U q 0) w w'/\∀k,k<w.heap.size->U' k=U k:=by
 have bh:tv.ownBlock≠some b:=fun hx=>by have:=h.toks.2 b hx;have:=h.own;omega
 have dL:wv.ownBlock≠some b:=fun hx=>by have:=h.wait.2 b hx;have:=h.own;omega
 obtain⟨p0,p1,p2,p3,hp⟩:=A9 t;have eT:Bt t=.agg #[.pointer p0,.pointer p1,.pointer p2,.pointer p3]:=by unfold Bt;rw[hp]
 have a7:=AA w (.cells #[.pointer p0,.pointer p1,.pointer p2,.pointer p3] 139) none;have hnew:(w.alloc (.cells #[.pointer p0,.pointer p1,.pointer p2,.pointer p3] 139)).heap[w.heap.size]?=some (.cells #[.pointer p0,.pointer p1,.pointer p2,.pointer p3] 139 (0,0)):=AR _ _
 have hS1:∀wx,(w.alloc (.cells #[.pointer p0,.pointer p1,.pointer p2,.pointer p3] 139)).grownBy wx none->Calls Tryz.prog 242 #[.pointer (some ⟨b,0,none⟩),.agg #[.pointer p0,.pointer p1,.pointer p2,.pointer p3]] wx fun e' w'=>e'=.returned (.tuple #[])/\KeepPost b 0 tv #[tv,wv,.int .i64 ru,.int .i64 jn] 147 e.toks t wx w':=by
  intro wx hg;have ar:=Ab a7 hg;have:=R2 b 0 tv #[tv,wv,.int .i64 ru,.int .i64 jn] 147 e.toks t wx (by rw[ar.block b (Ad h.blk) (by simp)];exact h.blk) rfl (h.toks.1.gr ar) bh eI;rw[eT] at this;exact this
 rw[eT];have HH:=Ac h;have HT:=Ac ht;have HE:=Ac ZW;have cI:=Ac hnew;have di:=Ac a7;have ub:=Ac eT;clear h ht ZW hnew a7 eT hp;go_enter Tryz.func240,Tryz.ntmps240;go_wp2_with fail
 go_cut [] (fun wx=>∃wy,(w.alloc (.cells #[.pointer p0,.pointer p1,.pointer p2,.pointer p3] 139)).grownBy wy none/\KeepPost b 0 tv #[tv,wv,.int .i64 ru,.int .i64 jn] 147 e.toks t wy wx)
 case first=>
  go_region_with (go_at_call 242;refine(hS1 _ (by repeat (first|exact AD _ _|apply Ah))).mono ?_;rintro e1 w1⟨rfl,l7⟩)
  all_goals
   go_wp2_with fail;go_meet
   exact⟨_,by repeat (first|exact AD _ _|apply Ah),l7⟩
 case rest=>
  obtain⟨wy,il,dc,hb1,hr1,ae,yx⟩:=hcut;have hh:=Aa HH;have ah:=Ab (Aa di) il;have hsz:=ah.size;have sM:GrS (fun k=>k=b\/tv.ownBlock=some k) w wc:=(GrS.of ah (by simp)).trans ae;have jP:wc.heap[b]?=some (.cells #[dc,wv,.int .i64 ru,.int .i64 jn] 147 (0,0)):=hb1;have tD:∀g,dc.ownBlock=some g->tv.ownBlock=some g\/w.heap.size<=g:=fun g hx=>by rcases yx g hx with h|h;exact .inl h;exact .inr (by omega)
  have uG:∀k,k<w.heap.size->Cj U w (5+3*q) k=U k:=fun k hk=>Ak hk
  have vH:∀k,U k≠4+3*q->U k≠5+3*q->¬ (k=b\/tv.ownBlock=some k):=by
   rintro k h1 h2 (rfl|hx)
   ·exact h1 hh.own
   ·exact h2 (hh.toks.2 k hx)
  have hw1:TRow (Cj U w (5+3*q)) (6+3*q) 139 4 A5 wv e.wait wc:=hh.wait.keep2 sM (fun k hk=>vH k (by omega) (by omega)) (fun k hk hx=>by rw[uG k hk];exact hx);have cZ:∀g,FtAt U g w->FtAt (Cj U w (5+3*q)) g wc:=fun g hg=>hg.keep sM (fun k hk=>vH k (by omega) (by omega)) (fun k hk hx=>by rw[uG k hk];exact hx)
  have eM:=Ad hh.blk
  have je:∀wx,wc.grownBy wx none->Calls Tryz.prog 243 #[.pointer (some ⟨b,1,none⟩),.agg #[.pointer p0,.pointer p1,.pointer p2,.pointer p3]] wx fun e' w'=>e'=.returned (.tuple #[])/\PutPost b 1 wv #[dc,wv,.int .i64 ru,.int .i64 jn] 147 e.wait t wx w':=by
   intro wx hg
   have:=Q4t (Cj U w (5+3*q)) b 1 wv #[dc,wv,.int .i64 ru,.int .i64 jn] 147 e.wait t wx (by rw[hg.block b (Ad jP) (by simp)];exact jP) rfl (hw1.1.gr hg) dL hl2 (by rw[uG b eM,hh.own];omega) (fun g hx=>by rw[hw1.2 g hx];omega)
    (fun x hx=>⟨Aa HE x hx,fun y hy=>(cZ y (hh.wfs x hx y hy)).gr hg⟩) ⟨dR,fun y hy=>(cZ y (Aa HT y hy)).gr hg⟩
   rw[Aa ub] at this;exact this
  have bU:wc.heap[w.heap.size]?=some (.cells #[.pointer p0,.pointer p1,.pointer p2,.pointer p3] 139 (0,0)):=by
   have h1:wy.heap[w.heap.size]?=some (.cells #[.pointer p0,.pointer p1,.pointer p2,.pointer p3] 139 (0,0)):=by rw[il.block _ (Ad (Aa cI)) (by simp)];exact Aa cI
   refine ae.blk h1 ?_;rintro(h2|h2)
   ·omega
   ·have:=(hh.toks.1.own _ h2).2;omega
  have n0:wc.cell? ⟨w.heap.size,0,none⟩=some (.pointer p0):=by simp[World.cell?,bU]
  have n1:wc.cell? ⟨w.heap.size,1,none⟩=some (.pointer p1):=by simp[World.cell?,bU]
  have n2:wc.cell? ⟨w.heap.size,2,none⟩=some (.pointer p2):=by simp[World.cell?,bU]
  have n3:wc.cell? ⟨w.heap.size,3,none⟩=some (.pointer p3):=by simp[World.cell?,bU]
  have HF:=Ac (show GrS (fun k=>k=b\/tv.ownBlock=some k) w wc/\ToksAt dc (e.toks++[t]) wc/\(∀g,dc.ownBlock=some g->tv.ownBlock=some g\/w.heap.size<=g)/\TRow (Cj U w (5+3*q)) (6+3*q) 139 4 A5 wv e.wait wc/\(∀g,FtAt U g w->FtAt (Cj U w (5+3*q)) g wc) from⟨sM,hr1,tD,hw1,cZ⟩);clear hS1 il hb1 hr1 ae yx ah sM jP tD uG vH hw1 cZ bU hh;go_wp2_with fail
  go_region_with (go_at_call 243;refine(je _ (by repeat (first|exact AD _ _|apply Ah))).mono ?_;rintro e2 w2⟨rfl,hk2⟩)
  all_goals
   go_wp2_with fail;go_end0
   obtain⟨dT,hb2,hr2,bW,pM⟩:=PutPost.from (by repeat (first|exact AD wc _|apply Ah)) hk2
   obtain⟨f1,f2,f3,f4,f5⟩:=Aa HF;have hh:=Aa HH;refine⟨rfl,Cj (Cj U w (5+3*q)) wc (6+3*q),dc,dT,⟨hb2,?_,⟨?_,?_⟩,⟨hr2,?_⟩,?_,?_,fun i hi=>by rw[Ak (FY hi (AZ eM f1.size)),Ak (FY hi eM)];exact hh.low i hi⟩,?_,?_⟩
   ·rw[Ak (AZ eM f1.size),Ak eM];exact hh.own
   ·refine bW.row f2 (fun g hx=>?_)
    rintro(rfl|hy)
    ·rcases f3 g hx with h|h
     ·exact bh h
     ·omega
    ·have h1:=(hh.wait.1.own g hy).2
     rcases f3 g hx with h|h
     ·have:=hh.toks.2 g h;have:=hh.wait.2 g hy;omega
     ·omega
   ·intro g hx
    rw[Ak (f2.own g hx).2];exact Jn hh.toks.2 (fun g hx=>(hh.toks.1.own g hx).2) f3 g hx
   ·exact Jn f4.2 (fun g hx=>(f4.1.own g hx).2) pM
   ·intro x hx g hg
    have hF:FtAt (Cj U w (5+3*q)) g wc:=by
     rcases AY.1 hx with hx|hx
     ·exact f5 g (hh.tfs x hx g hg)
     ·simp only[AX] at hx
      subst hx;exact f5 g (Aa HT g hg)
    refine hF.keep bW (fun k hk=>?_) (fun k hk h1=>by rw[Ak hk];exact h1);rintro(rfl|hy)
    ·rw[Ak eM,hh.own] at hk;omega
    ·have:=f4.2 k hy;omega
   ·intro x hx g hg
    have hm:=(Hp.push_perm Tok.less e.wait t).mem_iff.1 hx
    have hF:FtAt (Cj U w (5+3*q)) g wc:=by
     rcases AY.1 hm with hm|hm
     ·exact f5 g (hh.wfs x hm g hg)
     ·simp only[AX] at hm
      subst hm;exact f5 g (Aa HT g hg)
    refine hF.keep bW (fun k hk=>?_) (fun k hk h1=>by rw[Ak hk];exact h1);rintro(rfl|hy)
    ·rw[Ak eM,hh.own] at hk;omega
    ·have:=f4.2 k hy;omega
   ·refine(f1.mono (fun k hk=>?_)).comp bW (fun k hk hn=>?_)
    ·rcases hk with rfl|hy
     ·have:=hh.own;unfold Am;omega
     ·have:=hh.toks.2 k hy;unfold Am;omega
    ·rintro(rfl|hy)
     ·exact hn (by have:=hh.own;unfold Am;omega)
     ·exact hn (by have:=hh.wait.2 k hy;unfold Am;omega)
   ·intro k hk
    rw[Ak (AZ hk f1.size),Ak hk]
def Dn(U:Nat->Nat)(ru jn q k:Nat)(ns:List Nd)(e:En)(hd:Value)(ts:List Tok)(w w':World):Prop:=
 ∃U',SufAt U' ru jn q k (arr ns e ts).1 (arr ns e ts).2 hd w'/\GrS (Am U q ns.length) w w'/\∀i,i<w.heap.size->U' i=U i
def Yk(ru jn m:Nat):Prop:=∀(ns:List Nd) (A:List Nat) (q b ty fn:Nat) (U:Nat->Nat) (e:En) (t:Tok) (w:World),ns.length=m->ArrFn ty fn->SufAt U ru jn q A.length ns e (.iface ty (.pointer (some ⟨b,0,none⟩))) w->WF A ns->HasAr A t->(∀g∈t,FtAt U g w)->(∀x∈e.wait,x.length<=4)->Small 1000000000 (arr ns e [t]).1 (arr ns e [t]).2->
 Calls Tryz.prog fn #[.pointer (some ⟨b,0,none⟩),Bt t] w fun e' w'=>e'=.returned (.tuple #[])/\Dn U ru jn q A.length ns e (.iface ty (.pointer (some ⟨b,0,none⟩))) [t] w w'
theorem Fo(n:Nd)(ns:List Nd)(e:En)(t:Tok):arr (n::ns) e [t]=({ n with toks:=n.toks++[t] } :: (arr ns e (n.ext t)).1,(arr ns e (n.ext t)).2):=by
 simp[arr,Dg]
theorem Q28(ru jn:Nat):Yk ru jn 0:=by
 intro ns A q b ty fn U e t w hm hfn h hW hA ht he hS;have:ns=[]:=CM.1 hm;subst this;obtain⟨b',tv,wv,h1,h2⟩:=h;simp only[DK,DC,AE,BK,BX] at h1;obtain⟨rfl,rfl⟩:=h1
 have hf:fn=240:=by
  rcases hfn with ⟨_,h⟩|⟨h,_⟩|⟨h,_⟩
  ·exact h
  ·exact absurd h (by decide)
  ·exact absurd h (by decide)
 subst hf;obtain⟨_,s1,s2⟩:=Small.of_arr hS;refine(Wo U ru jn q b e tv wv t w h2 (by rw[hA.len];exact hW) ht he s1 s2).mono ?_;rintro e' w'⟨rfl,U',dc,dT,h3,h4,h5⟩;exact⟨rfl,U',⟨b,dc,dT,rfl,h3⟩,h4,h5⟩
theorem R1(h:NodeAt U q k b n nx tv lv ov fv w)(ht:∀g∈t,FtAt U g w)(hg:w.grownBy wx none)(hk:KeepPost b 3 ov (Bb n k tv lv ov fv nx) (Lj n.c.neg) n.toks t wx w1) :
  ∃fE,NodeAt (Cj U w (5+3*q)) q k b { n with toks:=n.toks++[t] } nx tv lv fE fv w1/\GrS (fun i=>4+3*q<=U i/\U i<6+3*q) w w1:=by
 obtain⟨fE,k1,k2,k3,k4⟩:=KeepPost.from hg hk
 rw[Gh (n:=n) (n':={ n with toks:=n.toks++[t] }) rfl] at k1
 have hsm:∀i,(i=b\/ov.ownBlock=some i)->4+3*q<=U i/\U i<6+3*q:=by
  rintro i (rfl|hx)
  ·have:=h.own;omega
  ·have:=h.toks.2 i hx;omega
 have hs:∀i,U i=1\/U i=6+3*q->¬ (i=b\/ov.ownBlock=some i):=fun i hi hx=>by have:=hsm i hx;omega
 have ho:∀c i,i<w.heap.size->U i=c->Cj U w (5+3*q) i=c:=fun c i hi hx=>by rw[Ak hi];exact hx
 have hf:∀g,FtAt U g w->FtAt (Cj U w (5+3*q)) g w1:=fun g hg=>hg.keep k3 (fun i hi=>hs i (.inl hi)) (ho 1)
 refine⟨fE,⟨k1,ho _ b (Ad h.blk) h.own,h.terms.keep2 k3 (fun i hi=>hs i (.inl hi)) (ho 1),h.links.keep2 k3 (fun i hi=>hs i (.inl hi)) (ho 1),⟨k2,Jn h.toks.2 (fun g hx=>(h.toks.1.own g hx).2) k4⟩,h.facts.keep2 k3 (fun i hi=>hs i (.inr hi)) (ho _),fun g hg=>hf g (h.fts g hg),?_,h.short,fun i hi=>by rw[Ak (FY hi (Ad h.blk))];exact h.low i hi⟩,k3.mono hsm⟩;intro x hx g hg;rcases AY.1 hx with hx|hx
 ·exact hf g (h.tfs x hx g hg)
 ·simp only[AX] at hx
  subst hx;exact hf g (ht g hg)
theorem Mm{U1:Nat->Nat}{ru jn k':Nat}{n1:Nd}{w2 w5:World}(h:NodeAt U1 q k b n1 nx tv lv ov fv w2)(hG:GrS (fun i=>4+3*q<=U i/\U i<7+3*(q+ns.length+1)) w w2)(hU:∀i,i<w.heap.size->U1 i=U i)(hg:w2.grownBy wx none)(hP:Dn U1 ru jn (q+1) k' ns e nx X wx w5) :
  ∃U',NodeAt U' q k b n1 nx tv lv ov fv w5/\SufAt U' ru jn (q+1) k' (arr ns e X).1 (arr ns e X).2 nx w5/\GrS (fun i=>4+3*q<=U i/\U i<7+3*(q+ns.length+1)) w w5/\(∀i,i<w.heap.size->U' i=U i)/\∀i,i<w2.heap.size->U' i=U1 i:=by
 obtain⟨U',s1,s2,s3⟩:=hP;have hx:NodeAt U1 q k b n1 nx tv lv ov fv wx:=h.keep (S:=fun _=>False) (GrS.of hg (by simp)) (by simp) (fun _ _ _=>rfl);refine⟨U',hx.keep s2 (fun i hi hc=>by unfold Am at hc;omega) (fun i hi _=>s3 i hi),s1,?_,fun i hi=>?_,fun i hi=>s3 i (AZ hi hg.size)⟩
 ·refine(hG.then hg (by simp)).comp s2 (fun i hi hn hc=>hn ?_)
  unfold Am at hc;rw[hU i hi] at hc;omega
 ·have:=hG.size
  have:=hg.size;rw[s3 i (by omega)];exact hU i hi
theorem Wa(ru jn m:Nat)(ih:Yk ru jn m)(U:Nat->Nat)(A:List Nat)(q b:Nat)(n:Nd)(ns:List Nd)(e:En)(t:Tok)(w:World)(hm:ns.length=m)(aJ:n.c.neg=true)(h:SufAt U ru jn q A.length (n::ns) e (.iface 209 (.pointer (some ⟨b,0,none⟩))) w)(hW:WF A (n::ns))(hA:HasAr A t)(ht:∀g∈t,FtAt U g w)(he:∀x∈e.wait,x.length<=4)
 (hS:Small 1000000000 (arr (n::ns) e [t]).1 (arr (n::ns) e [t]).2) :
  Calls Tryz.prog 257 #[.pointer (some ⟨b,0,none⟩),Bt t] w fun e' w'=>e'=.returned (.tuple #[])/\Dn U ru jn q A.length (n::ns) e (.iface 209 (.pointer (some ⟨b,0,none⟩))) [t] w w':=by
 obtain⟨b',nx,tv,lv,ov,fv,h1,h2,h3⟩:=h;simp only[DK,DC,AE,BK,BX] at h1;obtain⟨iI,rfl⟩:=h1;clear iI;rw[AQ aJ] at h3;have bh:ov.ownBlock≠some b:=fun hx=>by have:=h2.toks.2 b hx;have:=h2.own;omega
 have gj:=hW.2.2.2.2;rw[AQ aJ] at gj;have ag:=fun f (hf:f∈n.K)=>hW.fit hA (f:=f) (hW.2.2.1 f hf)
 rw[Fo] at hS
 have hl3:n.toks.length<=1000000000:=by
  have:(n.toks++[t]).length<=1000000000:=hS.1 _ (BF ..);rw[AK] at this;omega
 have wO:Small 1000000000 (arr ns e (n.ext t)).1 (arr ns e (n.ext t)).2:=⟨fun x hx=>hS.1 x (BG _ hx),hS.2.1,hS.2.2⟩
 obtain⟨p0,p1,p2,p3,hp⟩:=A9 t;have eT:Bt t=.agg #[.pointer p0,.pointer p1,.pointer p2,.pointer p3]:=by unfold Bt;rw[hp]
 have a7:=AA w (.cells #[.pointer p0,.pointer p1,.pointer p2,.pointer p3] 139) none;have hnew:(w.alloc (.cells #[.pointer p0,.pointer p1,.pointer p2,.pointer p3] 139)).heap[w.heap.size]?=some (.cells #[.pointer p0,.pointer p1,.pointer p2,.pointer p3] 139 (0,0)):=AR _ _
 have hS1:∀wx,(w.alloc (.cells #[.pointer p0,.pointer p1,.pointer p2,.pointer p3] 139)).grownBy wx none->Calls Tryz.prog 242 #[.pointer (some ⟨b,3,none⟩),.agg #[.pointer p0,.pointer p1,.pointer p2,.pointer p3]] wx fun e' w'=>e'=.returned (.tuple #[])/\KeepPost b 3 ov (Bb n A.length tv lv ov fv nx) (Lj n.c.neg) n.toks t wx w':=by
  intro wx hg;have ar:=Ab a7 hg;have:=R2 b 3 ov (Bb n A.length tv lv ov fv nx) (Lj n.c.neg) n.toks t wx (by rw[ar.block b (Ad h2.blk) (by simp)];exact h2.blk) Ci.1 (h2.toks.1.gr ar) bh hl3;rw[eT] at this;exact this
 rw[eT];have uS:t.length<=4:=by rw[hA.len];exact hW.le
 have HH:=Ac h2;have H3:=Ac h3;have HT:=Ac ht;have HE:=Ac he;have cI:=Ac hnew;have di:=Ac a7;have ub:=Ac eT;have HW:=Ac (show WF A ns/\HasAr A t/\Small 1000000000 (arr ns e (n.ext t)).1 (arr ns e (n.ext t)).2 from⟨gj,hA,wO⟩);have eD:=Ac ag;clear h2 ht he hnew a7 eT hp hW hA hS wO gj ag;have ik:=h3.head;clear h3;have mL:=Tryz.mArrL;have mJ:=Tryz.mArrJ;have mH:=Tryz.mArrH
 obtain⟨ty2,fP,b2,rfl,eu⟩:∃ty2 fP b2,nx=.iface ty2 (.pointer (some ⟨b2,0,none⟩))/\ArrFn ty2 fP:=by
  rcases ik with ⟨b2,rfl,_⟩|⟨b2,n2,lJ,rfl,_⟩|⟨b2,n2,lJ,rfl,_⟩
  ·exact⟨_,_,b2,rfl,.inl ⟨rfl,rfl⟩⟩
  ·exact⟨_,_,b2,rfl,.inr (.inl ⟨rfl,rfl⟩)⟩
  ·exact⟨_,_,b2,rfl,.inr (.inr ⟨rfl,rfl⟩)⟩
 clear ik;go_enter Tryz.func257,Tryz.ntmps257;go_wp2_with fail
 go_cut [] (fun wx=>∃wy,(w.alloc (.cells #[.pointer p0,.pointer p1,.pointer p2,.pointer p3] 139)).grownBy wy none/\KeepPost b 3 ov (Bb n A.length tv lv ov fv (.iface ty2 (.pointer (some ⟨b2,0,none⟩)))) (Lj n.c.neg) n.toks t wy wx)
 case first=>
  go_region_with (go_at_call 242;refine(hS1 _ (by repeat (first|exact AD _ _|apply Ah))).mono ?_;rintro e1 w1⟨rfl,l7⟩)
  all_goals
   go_wp2_with fail;go_meet
   exact⟨_,by repeat (first|exact AD _ _|apply Ah),l7⟩
 case rest=>
  obtain⟨wy,il,dM⟩:=hcut;have hh:=Aa HH;have ah:=Ab (Aa di) il;obtain⟨fE,b9,ae⟩:=R1 hh (Aa HT) ah dM;have cZ:∀g∈t,FtAt (Cj U w (5+3*q)) g wc:=fun g hg=>(Aa HT g hg).keep ae (fun i hi hx=>by omega) (fun i hi hx=>by rw[Ak hi];exact hx)
  have cu:SufAt (Cj U w (5+3*q)) ru jn (q+1) A.length ns e (.iface ty2 (.pointer (some ⟨b2,0,none⟩))) wc:=(Aa H3).keep ae (fun i hi hx=>by omega) (fun i hi _=>Ak hi);have hB:=Oq (Cj U w (5+3*q)) q A.length b { n with toks:=n.toks++[t] } _ tv lv fE fv t wc b9 uS cZ (Aa eD)
  have bU:wc.heap[w.heap.size]?=some (.cells #[.pointer p0,.pointer p1,.pointer p2,.pointer p3] 139 (0,0)):=by
   obtain⟨v',_,_,k3,_⟩:=dM;have h1:wy.heap[w.heap.size]?=some (.cells #[.pointer p0,.pointer p1,.pointer p2,.pointer p3] 139 (0,0)):=by rw[il.block _ (Ad (Aa cI)) (by simp)];exact Aa cI
   refine k3.blk h1 ?_;rintro(h2|h2)
   ·have:=Ad hh.blk;omega
   ·have:=(hh.toks.1.own _ h2).2;omega
  rw[Aa ub] at hB;have n0:wc.cell? ⟨w.heap.size,0,none⟩=some (.pointer p0):=by simp[World.cell?,bU]
  have n1:wc.cell? ⟨w.heap.size,1,none⟩=some (.pointer p1):=by simp[World.cell?,bU]
  have n2:wc.cell? ⟨w.heap.size,2,none⟩=some (.pointer p2):=by simp[World.cell?,bU]
  have n3:wc.cell? ⟨w.heap.size,3,none⟩=some (.pointer p3):=by simp[World.cell?,bU]
  obtain⟨r,hr⟩:∃r,n.K.any (fun g=>Ck n.links t g.f)=r:=⟨_,rfl⟩
  have hB':Calls Tryz.prog 141 #[.pointer (some ⟨b,0,none⟩),.agg #[.pointer p0,.pointer p1,.pointer p2,.pointer p3]] wc fun e w'=>e=.returned (.bool r)/\wc.grownBy w' none:=by rw[<-hr];exact hB
  have HF:=Ac (show NodeAt (Cj U w (5+3*q)) q A.length b { n with toks:=n.toks++[t] } (.iface ty2 (.pointer (some ⟨b2,0,none⟩))) tv lv fE fv wc/\GrS (fun i=>4+3*q<=U i/\U i<6+3*q) w wc/\(∀g∈t,FtAt (Cj U w (5+3*q)) g wc)/\SufAt (Cj U w (5+3*q)) ru jn (q+1) A.length ns e (.iface ty2 (.pointer (some ⟨b2,0,none⟩))) wc from⟨b9,ae,cZ,cu⟩);have sU:=Ac bU;have HR:=Ac hr;clear hS1 il dM ah b9 ae cZ cu hB bU hh hr;go_wp2_with fail;refine hB'.mono ?_;rintro e1 w2⟨rfl,hg2⟩;clear hB';obtain⟨f1,f2,f3,f4⟩:=Aa HF;cases r with
  | true=>
   have oH:n.ext t=[]:=by unfold Nd.ext;rw[AQ aJ,Aa HR,AQ rfl]
   have HX:=Ac oH;have OE:=Ac (show NodeAt (Cj U w (5+3*q)) q A.length b { n with toks:=n.toks++[t] } (.iface ty2 (.pointer (some ⟨b2,0,none⟩))) tv lv fE fv w2/\GrS (fun i=>4+3*q<=U i/\U i<6+3*q) w w2/\SufAt (Cj U w (5+3*q)) ru jn (q+1) A.length ns e (.iface ty2 (.pointer (some ⟨b2,0,none⟩))) w2 from⟨f1.keep (S:=fun _=>False) (GrS.of hg2 (by simp)) (by simp) (fun _ _ _=>rfl),f2.then hg2 (by simp),f4.gr hg2⟩);clear f1 f2 f3 f4 oH n0 n1 n2 n3;go_wp2;go_end0
   obtain⟨g1,g2,g3⟩:=Aa OE;refine⟨rfl,Cj U w (5+3*q),?_,g2.mono (fun i hi=>by unfold Am;omega),fun i hi=>Ak hi⟩;rw[Fo,Aa HX];unfold arr;rw[Ep];exact⟨b,_,tv,lv,fE,fv,by unfold C8;rw[AQ aJ],g1,by rw[AQ aJ];exact g3⟩
  | false=>
   have oH:n.ext t=[t]:=by unfold Nd.ext;rw[AQ aJ,Aa HR,AO (by simp)]
   obtain⟨w1,XS,w3⟩:=Aa HW;rw[oH] at w3
   have dH:∀wx,w2.grownBy wx none->Calls Tryz.prog fP #[.pointer (some ⟨b2,0,none⟩),.agg #[.pointer p0,.pointer p1,.pointer p2,.pointer p3]] wx fun e' w'=>e'=.returned (.tuple #[])/\Dn (Cj U w (5+3*q)) ru jn (q+1) A.length ns e (.iface ty2 (.pointer (some ⟨b2,0,none⟩))) [t] wx w':=by
    intro wx hgx;have ar:=Ab hg2 hgx;have:=ih ns A (q+1) b2 ty2 fP (Cj U w (5+3*q)) e t wx hm eu (f4.gr ar) w1 XS (fun g hg=>(f3 g hg).gr ar) (Aa HE) w3;rw[Aa ub] at this;exact this
   have m0:=hg2.cell n0 (by simp);have m1:=hg2.cell n1 (by simp);have m2:=hg2.cell n2 (by simp);have m3:=hg2.cell n3 (by simp);have c5:=hg2.cell (f1.cell 5 (by omega)) (by simp);have HX:=Ac oH;have OE:=Ac (show NodeAt (Cj U w (5+3*q)) q A.length b { n with toks:=n.toks++[t] } (.iface ty2 (.pointer (some ⟨b2,0,none⟩))) tv lv fE fv w2/\GrS (fun i=>4+3*q<=U i/\U i<6+3*q) w w2 from⟨f1.keep (S:=fun _=>False) (GrS.of hg2 (by simp)) (by simp) (fun _ _ _=>rfl),f2.then hg2 (by simp)⟩);clear f1 f2 f3 f4 oH n0 n1 n2 n3 w1 XS w3 hg2;rcases eu with ⟨rfl,rfl⟩|⟨rfl,rfl⟩|⟨rfl,rfl⟩
   ·go_wp2
    go_region_with (go_at_call 240;refine(dH _ (by repeat (first|exact AD _ _|apply Ah))).mono ?_;rintro e3 w5⟨rfl,nR⟩)
    all_goals
     go_wp2_with fail;go_end0
     obtain⟨g1,g2⟩:=Aa OE;obtain⟨U',u1,u2,u3,u4,_⟩:=Mm g1 (g2.mono (fun i hi=>by omega)) (fun i hi=>Ak hi) (by repeat (first|exact AD w2 _|apply Ah)) nR;refine⟨rfl,U',?_,u3.mono (fun i hi=>by unfold Am;rw[AP];omega),u4⟩;rw[Fo,Aa HX];exact⟨b,_,tv,lv,fE,fv,by unfold C8;rw[AQ aJ],u1,by rw[AQ aJ];exact u2⟩
   ·go_wp2
    go_region_with (go_at_call 257;refine(dH _ (by repeat (first|exact AD _ _|apply Ah))).mono ?_;rintro e3 w5⟨rfl,nR⟩)
    all_goals
     go_wp2_with fail;go_end0
     obtain⟨g1,g2⟩:=Aa OE;obtain⟨U',u1,u2,u3,u4,_⟩:=Mm g1 (g2.mono (fun i hi=>by omega)) (fun i hi=>Ak hi) (by repeat (first|exact AD w2 _|apply Ah)) nR;refine⟨rfl,U',?_,u3.mono (fun i hi=>by unfold Am;rw[AP];omega),u4⟩;rw[Fo,Aa HX];exact⟨b,_,tv,lv,fE,fv,by unfold C8;rw[AQ aJ],u1,by rw[AQ aJ];exact u2⟩
   ·go_wp2
    go_region_with (go_at_call 255;refine(dH _ (by repeat (first|exact AD _ _|apply Ah))).mono ?_;rintro e3 w5⟨rfl,nR⟩)
    all_goals
     go_wp2_with fail;go_end0
     obtain⟨g1,g2⟩:=Aa OE;obtain⟨U',u1,u2,u3,u4,_⟩:=Mm g1 (g2.mono (fun i hi=>by omega)) (fun i hi=>Ak hi) (by repeat (first|exact AD w2 _|apply Ah)) nR;refine⟨rfl,U',?_,u3.mono (fun i hi=>by unfold Am;rw[AP];omega),u4⟩;rw[Fo,Aa HX];exact⟨b,_,tv,lv,fE,fv,by unfold C8;rw[AQ aJ],u1,by rw[AQ aJ];exact u2⟩
def C7(n:Nd)(t:Tok)(j:Nat):List Tok:=((n.K.take j).filter (fun g=>Ck n.links t g.f)).map (fun g=>t++[g])
theorem Tm(h:n.K[j]?=some f):C7 n t (j+1)=C7 n t j++(if Ck n.links t f.f=true then [t++[f]] else []):=by
 unfold C7;rw[Cr _ h,CG];congr 1
 split<;>rfl
theorem Wn(n:Nd)(t:Tok)(j:Nat):∃Y,C7 n t n.K.length=C7 n t j++Y:=by
 refine⟨((n.K.drop j).filter (fun g=>Ck n.links t g.f)).map (fun g=>t++[g]),?_⟩;unfold C7;rw[CV,<-CG,<-DI,DO]
theorem Zo(h:WF A (n::ns))(hA:HasAr A t)(j:Nat):∀u∈C7 n t j,HasAr (A++[n.c.terms.length]) u:=by
 intro u hu;obtain⟨g,hg,rfl⟩:=CJ.1 hu;have hk:=h.2.2.1 g (EH (BH.1 hg).1);rw[<-hk];exact hA.snoc g
theorem Ox(hn:n.c.neg=false)(t:Tok):n.ext t=C7 n t n.K.length:=by
 unfold Nd.ext C7;rw[AO (by simp[hn]),CV]
theorem Wm(ru jn m:Nat)(ih:Yk ru jn m)(U:Nat->Nat)(A:List Nat)(q b:Nat)(n:Nd)(ns:List Nd)(e:En)(t:Tok)(w:World)(hm:ns.length=m)(aJ:n.c.neg=false)(h:SufAt U ru jn q A.length (n::ns) e (.iface 208 (.pointer (some ⟨b,0,none⟩))) w)(hW:WF A (n::ns))(hA:HasAr A t)(ht:∀g∈t,FtAt U g w)(he:∀x∈e.wait,x.length<=4)
 (hS:Small 1000000000 (arr (n::ns) e [t]).1 (arr (n::ns) e [t]).2) :
  Calls Tryz.prog 255 #[.pointer (some ⟨b,0,none⟩),Bt t] w fun e' w'=>e'=.returned (.tuple #[])/\Dn U ru jn q A.length (n::ns) e (.iface 208 (.pointer (some ⟨b,0,none⟩))) [t] w w':=by
 obtain⟨b',nx,tv,lv,ov,fv,h1,h2,h3⟩:=h;simp only[DK,DC,AE,BK,BX] at h1;obtain⟨iI,rfl⟩:=h1;clear iI;rw[AO (by simp[aJ])] at h3;have bh:ov.ownBlock≠some b:=fun hx=>by have:=h2.toks.2 b hx;have:=h2.own;omega
 have gj:=hW.2.2.2.2;rw[AO (by simp[aJ])] at gj;have ag:=fun f (hf:f∈n.K)=>hW.fit hA (f:=f) (hW.2.2.1 f hf)
 have uD:=fun j=>Zo hW hA j
 rw[Fo,Ox aJ] at hS
 have hl3:n.toks.length<=1000000000:=by
  have:(n.toks++[t]).length<=1000000000:=hS.1 _ (BF ..);rw[AK] at this;omega
 have wO:Small 1000000000 (arr ns e (C7 n t n.K.length)).1 (arr ns e (C7 n t n.K.length)).2:=⟨fun x hx=>hS.1 x (BG _ hx),hS.2.1,hS.2.2⟩
 have uS:A.length<4:=by have:=hW.1;rw[AO (by simp[aJ])] at this;omega
 obtain⟨p0,p1,p2,p3,hp⟩:=A9 t;have eT:Bt t=.agg #[.pointer p0,.pointer p1,.pointer p2,.pointer p3]:=by unfold Bt;rw[hp]
 have a7:=AA w (.cells #[.pointer p0,.pointer p1,.pointer p2,.pointer p3] 139) none;have hnew:(w.alloc (.cells #[.pointer p0,.pointer p1,.pointer p2,.pointer p3] 139)).heap[w.heap.size]?=some (.cells #[.pointer p0,.pointer p1,.pointer p2,.pointer p3] 139 (0,0)):=AR _ _
 have hS1:∀wx,(w.alloc (.cells #[.pointer p0,.pointer p1,.pointer p2,.pointer p3] 139)).grownBy wx none->Calls Tryz.prog 242 #[.pointer (some ⟨b,3,none⟩),.agg #[.pointer p0,.pointer p1,.pointer p2,.pointer p3]] wx fun e' w'=>e'=.returned (.tuple #[])/\KeepPost b 3 ov (Bb n A.length tv lv ov fv nx) (Lj n.c.neg) n.toks t wx w':=by
  intro wx hg;have ar:=Ab a7 hg;have:=R2 b 3 ov (Bb n A.length tv lv ov fv nx) (Lj n.c.neg) n.toks t wx (by rw[ar.block b (Ad h2.blk) (by simp)];exact h2.blk) Ci.1 (h2.toks.1.gr ar) bh hl3;rw[eT] at this;exact this
 rw[eT];have uM:=h2.facts.1.le;unfold maxLen at uM;obtain⟨fa,wk,fK⟩:=h2.facts.1.slice;have HH:=Ac h2;have H3:=Ac h3;have HT:=Ac ht;have HE:=Ac he;have cI:=Ac hnew;have di:=Ac a7;have ub:=Ac eT;have RA:=Ac fK;have HW:=Ac (show WF (A++[n.c.terms.length]) ns/\HasAr A t/\Small 1000000000 (arr ns e (C7 n t n.K.length)).1 (arr ns e (C7 n t n.K.length)).2/\(∀j,∀u∈C7 n t j,HasAr (A++[n.c.terms.length]) u) from⟨gj,hA,wO,uD⟩);have eD:=Ac ag;clear h2 ht he hnew a7 eT hp hW hS wO gj ag uD fK;have ik:=h3.head;clear h3;have mL:=Tryz.mArrL;have mJ:=Tryz.mArrJ;have mH:=Tryz.mArrH
 obtain⟨ty2,fP,b2,rfl,eu⟩:∃ty2 fP b2,nx=.iface ty2 (.pointer (some ⟨b2,0,none⟩))/\ArrFn ty2 fP:=by
  rcases ik with ⟨b2,rfl,_⟩|⟨b2,n2,lJ,rfl,_⟩|⟨b2,n2,lJ,rfl,_⟩
  ·exact⟨_,_,b2,rfl,.inl ⟨rfl,rfl⟩⟩
  ·exact⟨_,_,b2,rfl,.inr (.inl ⟨rfl,rfl⟩)⟩
  ·exact⟨_,_,b2,rfl,.inr (.inr ⟨rfl,rfl⟩)⟩
 clear ik;go_enter Tryz.func255,Tryz.ntmps255;go_wp2_with fail
 go_cut [] (fun wx=>∃wy,(w.alloc (.cells #[.pointer p0,.pointer p1,.pointer p2,.pointer p3] 139)).grownBy wy none/\KeepPost b 3 ov (Bb n A.length tv lv ov fv (.iface ty2 (.pointer (some ⟨b2,0,none⟩)))) (Lj n.c.neg) n.toks t wy wx)
 case first=>
  go_region_with (go_at_call 242;refine(hS1 _ (by repeat (first|exact AD _ _|apply Ah))).mono ?_;rintro e1 w1⟨rfl,l7⟩)
  all_goals
   go_wp2_with fail;go_meet
   exact⟨_,by repeat (first|exact AD _ _|apply Ah),l7⟩
 case rest=>
  obtain⟨wy,il,dM⟩:=hcut;have hh:=Aa HH;have ah:=Ab (Aa di) il;obtain⟨fE,b9,ae⟩:=R1 hh (Aa HT) ah dM;have cu:SufAt (Cj U w (5+3*q)) ru jn (q+1) (A.length+1) ns e (.iface ty2 (.pointer (some ⟨b2,0,none⟩))) wc:=(Aa H3).keep ae (fun i hi hx=>by omega) (fun i hi _=>Ak hi)
  have bU:wc.heap[w.heap.size]?=some (.cells #[.pointer p0,.pointer p1,.pointer p2,.pointer p3] 139 (0,0)):=by
   obtain⟨v',_,_,k3,_⟩:=dM;have h1:wy.heap[w.heap.size]?=some (.cells #[.pointer p0,.pointer p1,.pointer p2,.pointer p3] 139 (0,0)):=by rw[il.block _ (Ad (Aa cI)) (by simp)];exact Aa cI
   refine k3.blk h1 ?_;rintro(h2|h2)
   ·have:=Ad hh.blk;omega
   ·have:=(hh.toks.1.own _ h2).2;omega
  have c4:=b9.cell 4 (by omega);have hc4:wc.cell? ⟨b,4,none⟩=some (.slice fa n.K.length wk):=by rw[c4];simp[Aa RA]
  have HF:=Ac (show NodeAt (Cj U w (5+3*q)) q A.length b { n with toks:=n.toks++[t] } (.iface ty2 (.pointer (some ⟨b2,0,none⟩))) tv lv fE fv wc/\SufAt (Cj U w (5+3*q)) ru jn (q+1) (A.length+1) (arr ns e (C7 n t 0)).1 (arr ns e (C7 n t 0)).2 (.iface ty2 (.pointer (some ⟨b2,0,none⟩))) wc/\GrS (fun i=>4+3*q<=U i/\U i<7+3*(q+ns.length+1)) w wc/\(∀i,i<w.heap.size->Cj U w (5+3*q) i=U i)/\Cj U w (5+3*q) w.heap.size=5+3*q/\wc.heap[w.heap.size]?=some (.cells #[.pointer p0,.pointer p1,.pointer p2,.pointer p3] 139 (0,0)) from
   ⟨b9,by unfold C7 arr;simp only[FR,IY,KT];rw[Ep];exact cu,ae.mono (fun i hi=>by omega),fun i hi=>Ak hi,Bh (AW _),bU⟩)
  clear hS1 il dM ah b9 ae cu bU hh c4;go_wp2;clear hc4;go_loopw [18] (fun x w'=>∃j:Nat,j<=n.K.length/\x=.int .i64 j/\Hid (∃Ux,NodeAt Ux q A.length b { n with toks:=n.toks++[t] } (.iface ty2 (.pointer (some ⟨b2,0,none⟩))) tv lv fE fv w'/\SufAt Ux ru jn (q+1) (A.length+1) (arr ns e (C7 n t j)).1 (arr ns e (C7 n t j)).2 (.iface ty2 (.pointer (some ⟨b2,0,none⟩))) w'/\GrS (fun i=>4+3*q<=U i/\U i<7+3*(q+ns.length+1)) w w'/\(∀i,i<w.heap.size->Ux i=U i)/\Ux w.heap.size=5+3*q/\w'.heap[w.heap.size]?=some (.cells #[.pointer p0,.pointer p1,.pointer p2,.pointer p3] 139 (0,0)))) (fun x _=>n.K.length-(intOf x).toNat)
  case atStart=>exact⟨0,AG _,rfl,Ac ⟨_,Aa HF⟩⟩
  case round=>
   clear HF;obtain⟨j,hj,rfl,HK⟩:=hrel;obtain⟨Ux,x1,x2,x3,x4,x5,x6⟩:=Aa HK;clear HK;by_cases hlt:j<n.K.length
   ·have hd:decide (j<n.K.length)=true:=by simpa using hlt
    obtain⟨f,hf⟩:∃f,n.K[j]?=some f:=⟨_,AB hlt⟩
    obtain⟨g,cap',e1,c0⟩:=FsAt.cell x1.facts.1 hf;rw[Aa RA] at e1;simp only[AH,BP] at e1;obtain⟨rfl,rfl⟩:=e1;have iK:=AV hf;have cf:=Tm (n:=n) (t:=t) hf;have cZ:∀g∈t,FtAt Ux g wr:=fun g hg=>x1.tfs t (AY.2 (.inr (AX.2 rfl))) g hg
    obtain⟨w1,w2,w3,w4⟩:=Aa HW;have vT:(A++[n.c.terms.length]).length=A.length+1:=by simp
    have hlen:(arr ns e (C7 n t j)).1.length=ns.length:=Cq _ _ _ _
    have dH:Ck n.links t f.f=true->∀wx,wr.grownBy wx none->Calls Tryz.prog fP #[.pointer (some ⟨b2,0,none⟩),Bt (t++[f])] wx fun e' w'=>e'=.returned (.tuple #[])/\Dn Ux ru jn (q+1) (A.length+1) (arr ns e (C7 n t j)).1 (arr ns e (C7 n t j)).2 (.iface ty2 (.pointer (some ⟨b2,0,none⟩))) [t++[f]] wx w':=by
     intro ag wx hgx;rw[AQ ag] at cf;have hu:HasAr (A++[n.c.terms.length]) (t++[f]):=w4 (j+1) _ (by rw[cf];simp)
     have hsm:Small 1000000000 (arr (arr ns e (C7 n t j)).1 (arr ns e (C7 n t j)).2 [t++[f]]).1 (arr (arr ns e (C7 n t j)).1 (arr ns e (C7 n t j)).2 [t++[f]]).2:=by
      obtain⟨Y,hY⟩:=Wn n t (j+1);rw[hY] at w3;have:=w3.part;rw[cf] at this;unfold arr at this⊢;rw[Cx] at this;exact this
     have:=ih (arr ns e (C7 n t j)).1 (A++[n.c.terms.length]) (q+1) b2 ty2 fP Ux (arr ns e (C7 n t j)).2 (t++[f]) wx (by rw[hlen];exact hm) eu (by rw[vT];exact x2.gr hgx) (w1.arr (w4 j)) hu (fun g hg=>by
      rcases AY.1 hg with hg|hg
      ·exact(cZ g hg).gr hgx
      ·simp only[AX] at hg
       subst hg;exact(x1.fts g iK).gr hgx) (N1 w1 (w4 j) (Aa HE)) hsm
     rw[vT] at this;exact this
    have hP:=Q05 Ux q A.length b { n with toks:=n.toks++[t] } ty2 fP b2 tv lv fE fv t f wr (fun wx w'=>Dn Ux ru jn (q+1) (A.length+1) (arr ns e (C7 n t j)).1 (arr ns e (C7 n t j)).2 (.iface ty2 (.pointer (some ⟨b2,0,none⟩))) [t++[f]] wx w') eu x1 aJ w2.len uS (x1.fts f iK) cZ (Aa eD f iK) dH;rw[Aa ub] at hP;have n0:wr.cell? ⟨w.heap.size,0,none⟩=some (.pointer p0):=by simp[World.cell?,x6]
    have n1:wr.cell? ⟨w.heap.size,1,none⟩=some (.pointer p1):=by simp[World.cell?,x6]
    have n2:wr.cell? ⟨w.heap.size,2,none⟩=some (.pointer p2):=by simp[World.cell?,x6]
    have n3:wr.cell? ⟨w.heap.size,3,none⟩=some (.pointer p3):=by simp[World.cell?,x6]
    unfold Ee at hP;obtain⟨r,hr⟩:∃r,Ck n.links t f.f=r:=⟨_,rfl⟩
    have sI:Calls Tryz.prog 137 #[.pointer (some ⟨b,0,none⟩),.agg #[.pointer p0,.pointer p1,.pointer p2,.pointer p3],.pointer (some ⟨f.blk,0,none⟩)] wr fun e' w'=>e'=.returned (.tuple #[])/\Ms r (fun wx w'=>Dn Ux ru jn (q+1) (A.length+1) (arr ns e (C7 n t j)).1 (arr ns e (C7 n t j)).2 (.iface ty2 (.pointer (some ⟨b2,0,none⟩))) [t++[f]] wx w') wr w':=by rw[<-hr];exact hP
    rw[hr] at cf;have HX:=Ac (show _/\_/\_/\_/\_/\_/\_/\_ from⟨x1,x2,x3,x4,x5,x6,cf,hlen⟩);clear hP dH x1 x2 x3 x4 x5 x6 cf hlen cZ w1 w2 w3 w4 vT hf hr;go_wp2_with fail;refine sI.mono ?_;rintro e1 w7⟨rfl,sH⟩;have mr:=Ac sH;clear sI sH n0 n1 n2 n3 c0
    have HK:Hid (∃Uy,NodeAt Uy q A.length b { n with toks:=n.toks++[t] } (.iface ty2 (.pointer (some ⟨b2,0,none⟩))) tv lv fE fv w7/\SufAt Uy ru jn (q+1) (A.length+1) (arr ns e (C7 n t (j+1))).1 (arr ns e (C7 n t (j+1))).2 (.iface ty2 (.pointer (some ⟨b2,0,none⟩))) w7/\GrS (fun i=>4+3*q<=U i/\U i<7+3*(q+ns.length+1)) w w7/\(∀i,i<w.heap.size->Uy i=U i)/\Uy w.heap.size=5+3*q/\w7.heap[w.heap.size]?=some (.cells #[.pointer p0,.pointer p1,.pointer p2,.pointer p3] 139 (0,0))):=by
     refine Ac ?_;obtain⟨x1,x2,x3,x4,x5,x6,cf,hlen⟩:=Aa HX;rcases Aa mr with ⟨rfl,wx,hgx,fy⟩|⟨rfl,hgx⟩
     ·rw[AQ rfl] at cf
      obtain⟨Uy,y1,y2,y3,y4,y5⟩:=Mm (U:=U) x1 (by rw[hlen];exact x3) x4 hgx fy;rw[hlen] at y3;refine⟨Uy,y1,?_,y3,y4,?_,?_⟩
      ·rw[cf]
       unfold arr at y2⊢;rw[Cx];exact y2
      ·rw[y5 _ (Ad x6)];exact x5
      ·obtain⟨_,_,s2,_⟩:=fy
       refine s2.blk (by rw[hgx.block _ (Ad x6) (by simp)];exact x6) ?_;unfold Am;omega
     ·rw[AO (by simp),BM] at cf
      rw[cf];exact⟨Ux,x1.keep (S:=fun _=>False) (GrS.of hgx (by simp)) (by simp) (fun _ _ _=>rfl),x2.gr hgx,x3.then hgx (by simp),x4,x5,by rw[hgx.block _ (Ad x6) (by simp)];exact x6⟩
    clear HX mr;go_wp2;go_roundw
    case rel=>exact⟨j+1,by omega,by go_num,HK⟩
    case measure=>simp[intOf];omega
   ·have hd:decide (j<n.K.length)=false:=by simpa using hlt
    have pX:j=n.K.length:=by omega
    subst pX;have HF:=Ac (show _/\_/\_/\_ from⟨x1,x2,x3,x4⟩);clear x1 x2 x3 x4 x5 x6;go_wp2;go_end0
    obtain⟨x1,x2,x3,x4⟩:=Aa HF;refine⟨rfl,Ux,?_,x3.mono (fun i hi=>by unfold Am;rw[AP];omega),x4⟩;rw[Fo,Ox aJ];exact⟨b,_,tv,lv,fE,fv,by unfold C8;rw[AO (by simp[aJ])],x1,by rw[AO (by simp[aJ])];exact x2⟩
theorem Va(ru jn:Nat):∀m,Yk ru jn m
 | 0=>Q28 ru jn
 | m+1=>by
  intro ns A q b ty fn U e t w hm hfn h hW hA ht he hS;cases ns with
  | nil=>simp at hm
  | cons n ns=>
   have gH:ns.length=m:=by simpa using hm
   have h0:=h;obtain⟨b',nx,tv,lv,ov,fv,h1,_⟩:=h0;simp only[DK,DC,AE,BK,BX] at h1;obtain⟨iI,rfl⟩:=h1;unfold C8 at iI;cases hn:n.c.neg with
   | true=>
    rw[hn,AQ rfl] at iI;subst iI
    have hf:fn=257:=by
     rcases hfn with ⟨h,_⟩|⟨_,h⟩|⟨h,_⟩
     ·exact absurd h (by decide)
     ·exact h
     ·exact absurd h (by decide)
    subst hf;exact Wa ru jn m (Va ru jn m) U A q b n ns e t w gH hn h hW hA ht he hS
   | false=>
    rw[hn,AO (by simp)] at iI;subst iI
    have hf:fn=255:=by
     rcases hfn with ⟨h,_⟩|⟨h,_⟩|⟨_,h⟩
     ·exact absurd h (by decide)
     ·exact absurd h (by decide)
     ·exact h
    subst hf;exact Wm ru jn m (Va ru jn m) U A q b n ns e t w gH hn h hW hA ht he hS
def Gw(n:Nd)(f:Ft)(j:Nat):List Tok:=((n.toks.take j).filter (fun t=>Ck n.links t f.f)).map (fun t=>t++[f])
theorem Vx(h:n.toks[j]?=some t):Gw n f (j+1)=Gw n f j++(if Ck n.links t f.f=true then [t++[f]] else []):=by
 unfold Gw;rw[Cr _ h,CG];congr 1
 split<;>rfl
theorem Y9(n:Nd)(f:Ft)(j:Nat):∃Y,Gw n f n.toks.length=Gw n f j++Y:=by
 refine⟨((n.toks.drop j).filter (fun t=>Ck n.links t f.f)).map (fun t=>t++[f]),?_⟩;unfold Gw;rw[CV,<-CG,<-DI,DO]
theorem Q1t(h:WF A (n::ns))(hf:f.f.vals.length=n.c.terms.length)(j:Nat):∀u∈Gw n f j,HasAr (A++[n.c.terms.length]) u:=by
 intro u hu;obtain⟨t,hg,rfl⟩:=CJ.1 hu;rw[<-hf];exact(h.2.2.2.1 t (EH (BH.1 hg).1)).snoc f
theorem Jj{c:Sv.Cond}{f:Sv.Fact}(h:Ia c f=true):f.vals.length=c.terms.length:=by
 unfold Ia at h;simp only[EA,beq_iff_eq] at h;exact h.1.2
theorem Oo(h:NodeAt U q k b n nx tv lv ov fv w)(hf:FtAt U f w)(hg:w.grownBy wx none)(hk:He b fv (Bb n k tv lv ov fv nx) (Lj n.c.neg) n.K f wx w1) :
  ∃af,NodeAt (Cj U w (6+3*q)) q k b { n with K:=n.K++[f] } nx tv lv ov af w1/\GrS (fun i=>U i=4+3*q\/U i=6+3*q) w w1:=by
 obtain⟨af,k1,k2,k3',k4'⟩:=hk;have k3:GrS (fun i=>i=b\/fv.ownBlock=some i) w w1:=(GrS.of hg (by simp)).trans k3';have k4:∀g,af.ownBlock=some g->fv.ownBlock=some g\/w.heap.size<=g:=fun g hx=>by rcases k4' g hx with h|h;exact .inl h;exact .inr (AU hg.size h)
 rw[I5 (n:=n) (n':={ n with K:=n.K++[f] }) rfl] at k1
 have hsm:∀i,(i=b\/fv.ownBlock=some i)->U i=4+3*q\/U i=6+3*q:=by
  rintro i (rfl|hx)
  ·exact .inl h.own
  ·exact .inr (h.facts.2 i hx)
 have hs:∀i,U i=1\/U i=5+3*q->¬ (i=b\/fv.ownBlock=some i):=fun i hi hx=>by have:=hsm i hx;omega
 have ho:∀c i,i<w.heap.size->U i=c->Cj U w (6+3*q) i=c:=fun c i hi hx=>by rw[Ak hi];exact hx
 have hF:∀g,FtAt U g w->FtAt (Cj U w (6+3*q)) g w1:=fun g hg=>hg.keep k3 (fun i hi=>hs i (.inl hi)) (ho 1)
 refine⟨af,⟨k1,ho _ b (Ad h.blk) h.own,h.terms.keep2 k3 (fun i hi=>hs i (.inl hi)) (ho 1),h.links.keep2 k3 (fun i hi=>hs i (.inl hi)) (ho 1),h.toks.keep2 k3 (fun i hi=>hs i (.inr hi)) (ho _),⟨k2,Jn h.facts.2 (fun g hx=>(h.facts.1.own g hx).2) k4⟩,?_,fun t ht g hg=>hF g (h.tfs t ht g hg),h.short,fun i hi=>by rw[Ak (FY hi (Ad h.blk))];exact h.low i hi⟩,k3.mono hsm⟩;intro g hg;rcases AY.1 hg with hg|hg
 ·exact hF g (h.fts g hg)
 ·simp only[AX] at hg
  subst hg;exact hF g hf
def Pp(U:Nat->Nat)(ru jn q k:Nat)(n:Nd)(ns:List Nd)(e:En)(hd:Value)(f:Ft)(w w':World):Prop:=
 ∃U',SufAt U' ru jn q k ((Ao f n ns e).1::(Ao f n ns e).2.1) (Ao f n ns e).2.2 hd w'/\GrS (fun i=>4+3*q<=U i/\U i<7+3*(q+ns.length+1)) w w'/\∀i,i<w.heap.size->U' i=U i
theorem Zf(ru jn:Nat)(U:Nat->Nat)(A:List Nat)(q b:Nat)(n:Nd)(ns:List Nd)(e:En)(f:Ft)(w:World)(aJ:n.c.neg=false)(h:SufAt U ru jn q A.length (n::ns) e (.iface 208 (.pointer (some ⟨b,0,none⟩))) w)(hW:WF A (n::ns))(hf:FtAt U f w)(he:∀x∈e.wait,x.length<=4)(uM:n.K.length<=1000000000)
 (hS:Small 1000000000 (Ao f n ns e).2.1 (Ao f n ns e).2.2) :
  Calls Tryz.prog 102 #[.pointer (some ⟨b,0,none⟩),Ee f] w fun e' w'=>e'=.returned (.tuple #[])/\Pp U ru jn q A.length n ns e (.iface 208 (.pointer (some ⟨b,0,none⟩))) f w w':=by
 have h0:=h;obtain⟨b',nx,tv,lv,ov,fv,h1,h2,h3⟩:=h;simp only[DK,DC,AE,BK,BX] at h1;obtain⟨iI,rfl⟩:=h1;clear iI;have bh:fv.ownBlock≠some b:=fun hx=>by have:=h2.facts.2 b hx;have:=h2.own;omega
 by_cases eR:Ia n.c f.f=true
 ·have iy:=Op U b fv (Bb n A.length tv lv ov fv nx) (Lj n.c.neg) n.c n.links n.K f w h2.blk Ci.2.1 h2.facts.1 bh uM h2.cd hf eR
  have hadd:Ao f n ns e=({ n with K:=n.K++[f] },arr ns e (Gw n f n.toks.length)):=by
   unfold Ao Gw;rw[AQ eR,AO (by simp[aJ]),CV]
  rw[hadd] at hS;have br:=Jj eR;have gj:=hW.2.2.2.2;rw[AO (by simp[aJ])] at gj h3;have ag:=fun t (ht:t∈n.toks)=>hW.fit (hW.2.2.2.1 t ht) (f:=f) br
  have kI:=fun t (ht:t∈n.toks)=>(hW.2.2.2.1 t ht).len
  have uD:=fun j=>Q1t hW br j
  have uS:A.length<4:=by have:=hW.1;rw[AO (by simp[aJ])] at this;omega
  have VC:=h2.toks.1.le;unfold maxLen at VC;obtain⟨ta,uh,ry⟩:=h2.toks.1.slice;have HH:=Ac h2;have H3:=Ac h3;have HE:=Ac he;have xI:=Ac hf;have iE:=Ac hadd;have NP:=Ac ry;have HW:=Ac (show WF (A++[n.c.terms.length]) ns/\Small 1000000000 (arr ns e (Gw n f n.toks.length)).1 (arr ns e (Gw n f n.toks.length)).2/\(∀j,∀u∈Gw n f j,HasAr (A++[n.c.terms.length]) u)/\(∀t∈n.toks,t.length=A.length) from⟨gj,hS,uD,kI⟩);have eD:=Ac ag;clear h0 h2 he hW hS gj ag uD kI hadd hf br eR ry;have ik:=h3.head;clear h3
  obtain⟨ty2,fP,b2,rfl,eu⟩:∃ty2 fP b2,nx=.iface ty2 (.pointer (some ⟨b2,0,none⟩))/\ArrFn ty2 fP:=by
   rcases ik with ⟨b2,rfl,_⟩|⟨b2,n2,lJ,rfl,_⟩|⟨b2,n2,lJ,rfl,_⟩
   ·exact⟨_,_,b2,rfl,.inl ⟨rfl,rfl⟩⟩
   ·exact⟨_,_,b2,rfl,.inr (.inl ⟨rfl,rfl⟩)⟩
   ·exact⟨_,_,b2,rfl,.inr (.inr ⟨rfl,rfl⟩)⟩
  clear ik;unfold Ee at iy⊢;go_enter Tryz.func102,Tryz.ntmps102;go_wp2_with fail;refine iy.mono ?_;rintro e1 wc⟨rfl,dM⟩;have hh:=Aa HH;obtain⟨af,b9,ae⟩:=Oo hh (Aa xI) (AD w none) dM;have cu:SufAt (Cj U w (6+3*q)) ru jn (q+1) (A.length+1) ns e (.iface ty2 (.pointer (some ⟨b2,0,none⟩))) wc:=(Aa H3).keep ae (fun i hi hx=>by omega) (fun i hi _=>Ak hi);have c3:=b9.cell 3 (by omega);have hc3:wc.cell? ⟨b,3,none⟩=some (.slice ta n.toks.length uh):=by rw[c3];simp[Aa NP]
  have HF:=Ac (show NodeAt (Cj U w (6+3*q)) q A.length b { n with K:=n.K++[f] } (.iface ty2 (.pointer (some ⟨b2,0,none⟩))) tv lv ov af wc/\SufAt (Cj U w (6+3*q)) ru jn (q+1) (A.length+1) (arr ns e (Gw n f 0)).1 (arr ns e (Gw n f 0)).2 (.iface ty2 (.pointer (some ⟨b2,0,none⟩))) wc/\GrS (fun i=>4+3*q<=U i/\U i<7+3*(q+ns.length+1)) w wc/\(∀i,i<w.heap.size->Cj U w (6+3*q) i=U i) from
   ⟨b9,by unfold Gw arr;simp only[FR,IY,KT];rw[Ep];exact cu,ae.mono (fun i hi=>by omega),fun i hi=>Ak hi⟩)
  clear iy dM b9 ae cu hh c3;go_wp2;clear hc3;go_loopw [19] (fun x w'=>∃j:Nat,j<=n.toks.length/\x=.int .i64 j/\Hid (∃Ux,NodeAt Ux q A.length b { n with K:=n.K++[f] } (.iface ty2 (.pointer (some ⟨b2,0,none⟩))) tv lv ov af w'/\SufAt Ux ru jn (q+1) (A.length+1) (arr ns e (Gw n f j)).1 (arr ns e (Gw n f j)).2 (.iface ty2 (.pointer (some ⟨b2,0,none⟩))) w'/\GrS (fun i=>4+3*q<=U i/\U i<7+3*(q+ns.length+1)) w w'/\(∀i,i<w.heap.size->Ux i=U i))) (fun x _=>n.toks.length-(intOf x).toNat)
  case atStart=>exact⟨0,AG _,rfl,Ac ⟨_,Aa HF⟩⟩
  case round=>
   clear HF;obtain⟨j,hj,rfl,HK⟩:=hrel;obtain⟨Ux,x1,x2,x3,x4⟩:=Aa HK;clear HK;by_cases hlt:j<n.toks.length
   ·have hd:decide (j<n.toks.length)=true:=by simpa using hlt
    obtain⟨t,cZ⟩:∃t,n.toks[j]?=some t:=⟨_,AB hlt⟩
    obtain⟨p0,p1,p2,p3,hp⟩:=A9 t;have eT:Bt t=.agg #[.pointer p0,.pointer p1,.pointer p2,.pointer p3]:=by unfold Bt;rw[hp]
    obtain⟨g,cap',e1,c0,c1,c2,c3⟩:=Bu x1.toks.1 cZ hp;rw[Aa NP] at e1;simp only[AH,BP] at e1;obtain⟨rfl,rfl⟩:=e1;have iK:=AV cZ;have cf:=Vx (n:=n) (f:=f) cZ;obtain⟨w1,w3,w4,w5⟩:=Aa HW;have vT:(A++[n.c.terms.length]).length=A.length+1:=by simp
    have hlen:(arr ns e (Gw n f j)).1.length=ns.length:=Cq _ _ _ _;have a7:=AA wr (.cells #[.pointer p0,.pointer p1,.pointer p2,.pointer p3] 139) none;have oG:FtAt Ux f wr:=x1.fts f (AY.2 (.inr (AX.2 rfl)))
    have dH:Ck n.links t f.f=true->∀wx,(wr.alloc (.cells #[.pointer p0,.pointer p1,.pointer p2,.pointer p3] 139)).grownBy wx none->Calls Tryz.prog fP #[.pointer (some ⟨b2,0,none⟩),Bt (t++[f])] wx fun e' w'=>e'=.returned (.tuple #[])/\Dn Ux ru jn (q+1) (A.length+1) (arr ns e (Gw n f j)).1 (arr ns e (Gw n f j)).2 (.iface ty2 (.pointer (some ⟨b2,0,none⟩))) [t++[f]] wx w':=by
     intro ag wx mC;have hgx:=Ab a7 mC;rw[AQ ag] at cf;have hu:HasAr (A++[n.c.terms.length]) (t++[f]):=w4 (j+1) _ (by rw[cf];simp)
     have hsm:Small 1000000000 (arr (arr ns e (Gw n f j)).1 (arr ns e (Gw n f j)).2 [t++[f]]).1 (arr (arr ns e (Gw n f j)).1 (arr ns e (Gw n f j)).2 [t++[f]]).2:=by
      obtain⟨Y,hY⟩:=Y9 n f (j+1);rw[hY] at w3;have:=w3.part;rw[cf] at this;unfold arr at this⊢;rw[Cx] at this;exact this
     have:=Va ru jn ns.length (arr ns e (Gw n f j)).1 (A++[n.c.terms.length]) (q+1) b2 ty2 fP Ux (arr ns e (Gw n f j)).2 (t++[f]) wx hlen eu (by rw[vT];exact x2.gr hgx) (w1.arr (w4 j)) hu (fun g hg=>by
      rcases AY.1 hg with hg|hg
      ·exact(x1.tfs t iK g hg).gr hgx
      ·simp only[AX] at hg
       subst hg;exact oG.gr hgx) (N1 w1 (w4 j) (Aa HE)) hsm
     rw[vT] at this;exact this
    have XP:NodeAt Ux q A.length b { n with K:=n.K++[f] } (.iface ty2 (.pointer (some ⟨b2,0,none⟩))) tv lv ov af (wr.alloc (.cells #[.pointer p0,.pointer p1,.pointer p2,.pointer p3] 139)):=x1.keep (S:=fun _=>False) (GrS.of a7 (by simp)) (by simp) (fun _ _ _=>rfl);have hP:=Q05 Ux q A.length b { n with K:=n.K++[f] } ty2 fP b2 tv lv ov af t f (wr.alloc (.cells #[.pointer p0,.pointer p1,.pointer p2,.pointer p3] 139)) (fun wx w'=>Dn Ux ru jn (q+1) (A.length+1) (arr ns e (Gw n f j)).1 (arr ns e (Gw n f j)).2 (.iface ty2 (.pointer (some ⟨b2,0,none⟩))) [t++[f]] wx w') eu XP aJ (w5 t iK) uS (oG.gr a7) (fun g hg=>(x1.tfs t iK g hg).gr a7) (Aa eD t iK) dH;rw[eT] at hP;unfold Ee at hP;obtain⟨r,hr⟩:∃r,Ck n.links t f.f=r:=⟨_,rfl⟩
    have sI:Calls Tryz.prog 137 #[.pointer (some ⟨b,0,none⟩),.agg #[.pointer p0,.pointer p1,.pointer p2,.pointer p3],.pointer (some ⟨f.blk,0,none⟩)] (wr.alloc (.cells #[.pointer p0,.pointer p1,.pointer p2,.pointer p3] 139)) fun e' w'=>e'=.returned (.tuple #[])/\Ms r (fun wx w'=>Dn Ux ru jn (q+1) (A.length+1) (arr ns e (Gw n f j)).1 (arr ns e (Gw n f j)).2 (.iface ty2 (.pointer (some ⟨b2,0,none⟩))) [t++[f]] wx w') (wr.alloc (.cells #[.pointer p0,.pointer p1,.pointer p2,.pointer p3] 139)) w':=by rw[<-hr];exact hP
    rw[hr] at cf;have HX:=Ac (show _/\_/\_/\_/\_/\_/\_ from⟨x1,x2,x3,x4,cf,hlen,a7⟩);clear hP dH x1 x2 x3 x4 cf hlen w1 w3 w4 w5 vT cZ hr XP oG a7 eT hp;go_wp2_with fail;refine sI.mono ?_;rintro e1 w7⟨rfl,sH⟩;have mr:=Ac sH;clear sI sH c0 c1 c2 c3
    have HK:Hid (∃Uy,NodeAt Uy q A.length b { n with K:=n.K++[f] } (.iface ty2 (.pointer (some ⟨b2,0,none⟩))) tv lv ov af w7/\SufAt Uy ru jn (q+1) (A.length+1) (arr ns e (Gw n f (j+1))).1 (arr ns e (Gw n f (j+1))).2 (.iface ty2 (.pointer (some ⟨b2,0,none⟩))) w7/\GrS (fun i=>4+3*q<=U i/\U i<7+3*(q+ns.length+1)) w w7/\(∀i,i<w.heap.size->Uy i=U i)):=by
     refine Ac ?_;obtain⟨x1,x2,x3,x4,cf,hlen,a7⟩:=Aa HX;rcases Aa mr with ⟨rfl,wx,mC,fy⟩|⟨rfl,mC⟩
     ·have hgx:=Ab a7 mC
      rw[AQ rfl] at cf;obtain⟨Uy,y1,y2,y3,y4,y5⟩:=Mm (U:=U) x1 (by rw[hlen];exact x3) x4 hgx fy;rw[hlen] at y3;refine⟨Uy,y1,?_,y3,y4⟩;rw[cf];unfold arr at y2⊢;rw[Cx];exact y2
     ·have hgx:=Ab a7 mC
      rw[AO (by simp),BM] at cf;rw[cf];exact⟨Ux,x1.keep (S:=fun _=>False) (GrS.of hgx (by simp)) (by simp) (fun _ _ _=>rfl),x2.gr hgx,x3.then hgx (by simp),x4⟩
    clear HX mr;go_wp2;go_roundw
    case rel=>exact⟨j+1,by omega,by go_num,HK⟩
    case measure=>simp[intOf];omega
   ·have hd:decide (j<n.toks.length)=false:=by simpa using hlt
    have pX:j=n.toks.length:=by omega
    subst pX;have HF:=Ac (show _/\_/\_/\_ from⟨x1,x2,x3,x4⟩);clear x1 x2 x3 x4;go_wp2;go_end0
    obtain⟨x1,x2,x3,x4⟩:=Aa HF;refine⟨rfl,Ux,?_,x3,x4⟩;rw[Aa iE];exact⟨b,_,tv,lv,ov,af,by unfold C8;rw[AO (by simp[aJ])],x1,by rw[AO (by simp[aJ])];exact x2⟩
 ·have jK:Ia n.c f.f=false:=by simpa using eR
  have iy:=Rb U b n.c n.links f w h2.cd hf jK;have hadd:Ao f n ns e=(n,(ns,e)):=by unfold Ao;rw[AO eR]
  have iE:=Ac hadd;have H0:=Ac h0;clear h0 h2 h3 he hW hS hadd hf eR jK;unfold Ee at iy⊢;go_enter Tryz.func102,Tryz.ntmps102;go_wp2_with fail;refine iy.mono ?_;rintro e1 wc⟨rfl,hg1⟩;clear iy;go_wp2;refine BO (v:=.tuple #[]) (by simp[results,Tryz.results102]) rfl ?_;refine⟨rfl,U,?_,GrS.of hg1 (by simp),fun _ _=>rfl⟩;rw[Aa iE];exact(Aa H0).gr hg1
def Hq:List Nat->List Nd->List Nat
 | A,[]=>A
 | A,n::ns=>Hq (if n.c.neg=true then A else A++[n.c.terms.length]) ns
def EndOk(A:List Nat)(ns:List Nd)(e:En):Prop:=(∀t∈e.toks,HasAr (Hq A ns) t)/\∀t∈e.wait,HasAr (Hq A ns) t
def Begins(A:List Nat)(t:Tok):Prop:=∃A',HasAr (A++A') t/\t.length<=4
theorem Rq:∀ {ns:List Nd} {A:List Nat},WF A ns->(Hq A ns).length<=4
 | [],_,h=>h
 | _::ns,_,h=>Rq (ns:=ns) h.2.2.2.2
theorem Begins.of{B:List Nat}(h:Begins B t)(hp:∃A',B=A++A'):Begins A t:=by
 obtain⟨A',rfl⟩:=hp;obtain⟨C,h1,h2⟩:=h;exact⟨A'++C,by rw[<-BQ];exact h1,h2⟩
theorem Ye:∀ {ns:List Nd} {A:List Nat} {e:En},WF A ns->EndOk A ns e->Q2y (Begins A) ns e
 | [],A,e,h,he=>⟨by simp,fun t ht=>⟨[],by rw[BM];exact he.1 t ht,by rw[(he.1 t ht).len];exact h⟩,fun t ht=>⟨[],by rw[BM];exact he.2 t ht,by rw[(he.2 t ht).len];exact h⟩⟩
 | n::ns,A,e,h,he=>by
  obtain⟨i1,i2,i3⟩:=Ye (ns:=ns) (e:=e) h.2.2.2.2 he
  have hp:∃A',(if n.c.neg=true then A else A++[n.c.terms.length])=A++A':=by
   split
   ·exact⟨[],by simp⟩
   ·exact⟨_,rfl⟩
  refine⟨fun m hm t ht=>?_,fun t ht=>(i2 t ht).of hp,fun t ht=>(i3 t ht).of hp⟩;rcases CQ.1 hm with rfl|hm
  ·exact⟨[],by rw[BM];exact h.2.2.2.1 t ht,by rw[(h.2.2.2.1 t ht).len];exact h.le⟩
  ·exact(i1 m hm t ht).of hp
theorem Begins.fit(h:WF A (n::ns))(ht:Begins A t)(hf:f.f.vals.length=n.c.terms.length):∀l∈n.links,l.place<f.f.vals.length/\∃g,t[l.at'.fact]?=some g/\l.at'.place<g.f.vals.length:=by
 intro l hl;obtain⟨A',h1,_⟩:=ht;obtain⟨k1,a,k2,k3⟩:=h.2.1 l hl;have hi:=(AL.1 k2).1;obtain⟨g,hg,he⟩:=h1.get (i:=l.at'.fact) (a:=a) (by rw[CL hi];exact k2);exact⟨by rw[hf];exact k1,g,hg,by rw[he];exact k3⟩
theorem Tryz.enters2:∀args w,(callFunc 138 args).run Tryz.prog w=.ok (.enter 138 args) w:=enters_of Tryz.func138 (by kernel_rfl) rfl
theorem Yv(U:Nat->Nat)(q k b:Nat)(n:Nd)(nx tv lv ov fv:Value)(t:Tok)(f:Ft)(h1 h2:Nat)(w:World)(h:NodeAt U q k b n nx tv lv ov fv w)(hf:FtAt U f w)(dR:t.length<=4)(ht:∀g∈t,FtAt U g w)
 (hl:∀l∈n.links,l.place<f.f.vals.length/\∃g,t[l.at'.fact]?=some g/\l.at'.place<g.f.vals.length)
 (c1:w.cell? ⟨h1,0,none⟩=some (.pointer (some ⟨b,0,none⟩)))(c2:w.cell? ⟨h2,0,none⟩=some (.pointer (some ⟨f.blk,0,none⟩))) :
  Calls Tryz.prog 138 #[Bt t,.pointer (some ⟨h1,0,none⟩),.pointer (some ⟨h2,0,none⟩)] w fun e w'=>e=.returned (.bool (Ck n.links t f.f))/\w.grownBy w' none:=by
 obtain⟨p0,p1,p2,p3,hp⟩:=A9 t;have eT:Bt t=.agg #[.pointer p0,.pointer p1,.pointer p2,.pointer p3]:=by unfold Bt;rw[hp]
 have a7:=AA w (.cells #[.pointer p0,.pointer p1,.pointer p2,.pointer p3] 139) none;have c1':=a7.cell c1 (by simp);have c2':=a7.cell c2 (by simp)
 have hS:∀wy,w.grownBy wy none->Calls Tryz.prog 139 #[.pointer (some ⟨b,0,none⟩),.agg #[.pointer p0,.pointer p1,.pointer p2,.pointer p3],.pointer (some ⟨f.blk,0,none⟩)] wy fun e w'=>e=.returned (.bool (Ck n.links t f.f))/\wy.grownBy w' none:=by
  intro wy ar;have:=Gs U b n.c n.links t f wy (h.cd.gr ar) (hf.gr ar) (fun g cH=>(ht g cH).gr ar) dR hl;rw[eT] at this;exact this
 rw[eT];clear h hf ht hl hp eT c1 c2;go_enter Tryz.func138,Tryz.ntmps138;go_wp2_with fail
 go_region_with (go_at_call 139;refine(hS _ (by repeat (first|exact a7|apply Ah))).mono ?_;rintro e w2⟨rfl,hg2⟩)
 all_goals
  go_wp2;go_ret;exact⟨rfl,Ab (by repeat (first|exact a7|apply Ah)) hg2⟩
theorem Q1l(ru jn:Nat)(U:Nat->Nat)(A:List Nat)(q b:Nat)(n:Nd)(ns:List Nd)(e:En)(f:Ft)(w:World)(aJ:n.c.neg=true)(h:SufAt U ru jn q A.length (n::ns) e (.iface 209 (.pointer (some ⟨b,0,none⟩))) w)(hW:WF A (n::ns))(MQ:EndOk A (n::ns) e)(hf:FtAt U f w)(uM:n.K.length<=1000000000)(hwl:e.wait.length<=1000000000) :
  Calls Tryz.prog 103 #[.pointer (some ⟨b,0,none⟩),Ee f] w fun e' w'=>e'=.returned (.tuple #[])/\Pp U ru jn q A.length n ns e (.iface 209 (.pointer (some ⟨b,0,none⟩))) f w w':=by
 have h0:=h;obtain⟨b',nx,tv,lv,ov,fv,h1,h2,h3⟩:=h;simp only[DK,DC,AE,BK,BX] at h1;obtain⟨iI,rfl⟩:=h1;clear iI;rw[AQ aJ] at h3;have bh:fv.ownBlock≠some b:=fun hx=>by have:=h2.facts.2 b hx;have:=h2.own;omega
 have a7:=Dm w (.cells #[.pointer (some ⟨b,0,none⟩)] 209) (.cells #[.pointer (some ⟨f.blk,0,none⟩)] 90);have hx1:((w.alloc (.cells #[.pointer (some ⟨b,0,none⟩)] 209)).alloc (.cells #[.pointer (some ⟨f.blk,0,none⟩)] 90)).heap[w.heap.size]?=some (.cells #[.pointer (some ⟨b,0,none⟩)] 209 (0,0)):=by rw[CY _ _ _ (by simp)];exact AR _ _
 have hx2:((w.alloc (.cells #[.pointer (some ⟨b,0,none⟩)] 209)).alloc (.cells #[.pointer (some ⟨f.blk,0,none⟩)] 90)).heap[w.heap.size+1]?=some (.cells #[.pointer (some ⟨f.blk,0,none⟩)] 90 (0,0)):=by
  have:=AR (w.alloc (.cells #[.pointer (some ⟨b,0,none⟩)] 209)) (.cells #[.pointer (some ⟨f.blk,0,none⟩)] 90);simpa using this
 by_cases eR:Ia n.c f.f=true
 ·have iy:∀wx,((w.alloc (.cells #[.pointer (some ⟨b,0,none⟩)] 209)).alloc (.cells #[.pointer (some ⟨f.blk,0,none⟩)] 90)).grownBy wx none->Calls Tryz.prog 136 #[.pointer (some ⟨b,0,none⟩),.pointer (some ⟨f.blk,0,none⟩)] wx fun e' w'=>e'=.returned (.bool true)/\He b fv (Bb n A.length tv lv ov fv nx) (Lj n.c.neg) n.K f wx w':=by
   intro wx hg;have ar:=Ab a7 hg;exact Op U b fv (Bb n A.length tv lv ov fv nx) (Lj n.c.neg) n.c n.links n.K f wx (by rw[ar.block b (Ad h2.blk) (by simp)];exact h2.blk) Ci.2.1 (h2.facts.1.gr ar) bh uM (h2.cd.gr ar) (hf.gr ar) eR
  have hadd:Ao f n ns e=({ n with K:=n.K++[f] },(ns.map (Nd.drop (fun t=>Ck n.links t f.f)),e.drop (fun t=>Ck n.links t f.f))):=by
   unfold Ao;rw[AQ eR,AQ aJ]
  have br:=Jj eR;have gj:=hW.2.2.2.2;rw[AQ aJ] at gj
  have MP:EndOk A ns e:=by
   unfold EndOk Hq at MQ;rw[AQ aJ] at MQ;exact MQ
  have MT:=Ye gj MP;have ag:=fun t (ht:Begins A t)=>Begins.fit hW ht (f:=f) br
  have HH:=Ac h2;have H3:=Ac h3;have xI:=Ac hf;have iE:=Ac hadd;have XM:=Ac MT;have eD:=Ac ag;have HX:=Ac (show _/\_ from⟨hx1,hx2⟩);have di:=Ac a7;clear h0 h2 hW MQ hadd hf br eR gj MP MT ag hx1 hx2 a7;have ik:=h3.head;clear h3;have mL:=Tryz.mForL;have mJ:=Tryz.mForJ;have mH:=Tryz.mForH;unfold Ee;go_enter Tryz.func103,Tryz.ntmps103;go_wp2_with fail
  go_cut [8] (fun z wx=>z=.bool true/\∃wy,((w.alloc (.cells #[.pointer (some ⟨b,0,none⟩)] 209)).alloc (.cells #[.pointer (some ⟨f.blk,0,none⟩)] 90)).grownBy wy none/\He b fv (Bb n A.length tv lv ov fv nx) (Lj n.c.neg) n.K f wy wx)
  case first=>
   go_region_with (go_at_call 136;refine(iy _ (by repeat (first|exact AD _ _|apply Ah))).mono ?_;rintro e1 w1⟨rfl,l7⟩)
   all_goals
    go_wp2_with fail;go_meet
    exact⟨rfl,_,by repeat (first|exact AD _ _|apply Ah),l7⟩
  case rest=>
   obtain⟨rfl,wy,il,dM⟩:=hcut;have hh:=Aa HH;have ah:=Ab (Aa di) il;obtain⟨af,b9,ae⟩:=Oo hh (Aa xI) ah dM;have cu:=(Aa H3).keep (U':=Cj U w (6+3*q)) ae (fun i hi hx=>by omega) (fun i hi _=>Ak hi);have oG:FtAt (Cj U w (6+3*q)) f wc:=b9.fts f (AY.2 (.inr (AX.2 rfl)))
   have hb1:wc.heap[w.heap.size]?=some (.cells #[.pointer (some ⟨b,0,none⟩)] 209 (0,0)):=by
    obtain⟨v',_,_,k3,_⟩:=dM;refine k3.blk (by rw[il.block _ (Ad (Aa HX).1) (by simp)];exact(Aa HX).1) ?_;rintro(h2|h2)
    ·have:=Ad hh.blk;omega
    ·have:=(hh.facts.1.own _ h2).2;omega
   have hb2:wc.heap[w.heap.size+1]?=some (.cells #[.pointer (some ⟨f.blk,0,none⟩)] 90 (0,0)):=by
    obtain⟨v',_,_,k3,_⟩:=dM;refine k3.blk (by rw[il.block _ (Ad (Aa HX).2) (by simp)];exact(Aa HX).2) ?_;rintro(h2|h2)
    ·have:=Ad hh.blk;omega
    ·have:=(hh.facts.1.own _ h2).2;omega
   have hu1:Cj U w (6+3*q) w.heap.size=6+3*q:=Bh (AW _);have hu2:Cj U w (6+3*q) (w.heap.size+1)=6+3*q:=Bh (by omega)
   have hcon:∀wx t,GrS (Am (Cj U w (6+3*q)) (q+1) ns.length) wc wx->Begins A t->(∀g∈t,FtAt (Cj U w (6+3*q)) g wx)->Calls Tryz.prog 138 #[Bt t,.pointer (some ⟨w.heap.size,0,none⟩),.pointer (some ⟨w.heap.size+1,0,none⟩)] wx fun e w'=>e=.returned (.bool (Ck n.links t f.f))/\wx.grownBy w' none:=by
    intro wx t hg hB cZ;have y1:=hg.blk hb1 (by unfold Am;omega);have y2:=hg.blk hb2 (by unfold Am;omega);exact Yv (Cj U w (6+3*q)) q A.length b { n with K:=n.K++[f] } nx tv lv ov af t f _ _ wx (b9.keep hg (fun i hi hc=>by unfold Am at hc;omega) (fun _ _ _=>rfl)) (oG.codes hg) (by obtain⟨_,_,h⟩:=hB;exact h) cZ (Aa eD t hB) (by simp[World.cell?,y1]) (by simp[World.cell?,y2])
   have d1:wc.cell? ⟨w.heap.size,0,none⟩=some (.pointer (some ⟨b,0,none⟩)):=by simp[World.cell?,hb1]
   have c5:=b9.cell 5 (by omega);have HF:=Ac (show NodeAt (Cj U w (6+3*q)) q A.length b { n with K:=n.K++[f] } nx tv lv ov af wc/\GrS (fun i=>U i=4+3*q\/U i=6+3*q) w wc from⟨b9,ae⟩);have uX:=Ac cu;have HC:=Ac hcon;clear iy il dM ah b9 ae oG hb1 hb2 hu1 hu2 hcon hh cu;rcases ik with ⟨b2,rfl,gY⟩|⟨b2,n2,lJ,rfl,gY,_⟩|⟨b2,n2,lJ,rfl,gY,_⟩
   all_goals
    have MN:=V5 (Cj U w (6+3*q)) ru jn 138 (.pointer (some ⟨w.heap.size,0,none⟩)) (.pointer (some ⟨w.heap.size+1,0,none⟩)) (fun t=>Ck n.links t f.f) (Begins A) Tryz.enters2 (fun t ht=>by obtain⟨_,_,h⟩:=ht;exact h) ns (q+1) A.length b2 _ e wc (Aa uX) (Aa XM) hwl (Aa HC);rw[gY] at MN;simp only[V0] at MN;rw[<-gY] at MN;clear uX HC;go_wp2_with fail;refine MN.mono ?_;rintro e2 w5⟨rfl,s1,s2⟩;clear MN;go_wp2;go_end0
    obtain⟨g1,g2⟩:=Aa HF;refine⟨rfl,Cj U w (6+3*q),?_,?_,fun i hi=>Ak hi⟩
    ·rw[Aa iE]
     exact⟨b,_,tv,lv,ov,af,by unfold C8;rw[AQ aJ],g1.keep s2 (fun i hi hc=>by unfold Am at hc;omega) (fun _ _ _=>rfl),by rw[AQ aJ];exact s1⟩
    ·refine(g2.mono (fun i hi=>by omega)).comp s2 (fun i hi hn hc=>hn ?_)
     unfold Am at hc;rw[Ak hi] at hc;omega
 ·have jK:Ia n.c f.f=false:=by simpa using eR
  have iy:∀wx,((w.alloc (.cells #[.pointer (some ⟨b,0,none⟩)] 209)).alloc (.cells #[.pointer (some ⟨f.blk,0,none⟩)] 90)).grownBy wx none->Calls Tryz.prog 136 #[.pointer (some ⟨b,0,none⟩),.pointer (some ⟨f.blk,0,none⟩)] wx fun e' w'=>e'=.returned (.bool false)/\wx.grownBy w' none:=by
   intro wx hg;have ar:=Ab a7 hg;exact Rb U b n.c n.links f wx (h2.cd.gr ar) (hf.gr ar) jK
  have hadd:Ao f n ns e=(n,(ns,e)):=by unfold Ao;rw[AO eR]
  have iE:=Ac hadd;have H0:=Ac h0;have di:=Ac a7;clear h0 h2 h3 hW MQ hadd hf eR jK hx1 hx2 a7;unfold Ee;go_enter Tryz.func103,Tryz.ntmps103;go_wp2_with fail
  go_cut [8] (fun z wx=>z=.bool false/\((w.alloc (.cells #[.pointer (some ⟨b,0,none⟩)] 209)).alloc (.cells #[.pointer (some ⟨f.blk,0,none⟩)] 90)).grownBy wx none)
  case first=>
   go_region_with (go_at_call 136;refine(iy _ (by repeat (first|exact AD _ _|apply Ah))).mono ?_;rintro e1 w1⟨rfl,l7⟩)
   all_goals
    go_wp2_with fail;go_meet
    exact⟨rfl,Ab (by repeat (first|exact AD _ _|apply Ah)) l7⟩
  case rest=>
   obtain⟨rfl,hg1⟩:=hcut;have ar:=Ab (Aa di) hg1;clear iy hg1;go_wp2;go_end0
   refine⟨rfl,U,?_,GrS.of ar (by simp),fun _ _=>rfl⟩;rw[Aa iE];exact(Aa H0).gr ar
end Go.Proofs.YtolhbeekfjnfmaaGreatDoor
namespace Go.Proofs.YtolhbeekfjnfmaaGreatDoor
variable {B c k b o q j:Nat}{ns:List Nd}{e:En}{X:List Tok}{U:Nat->Nat}{w wx w' w1:World}{v nx tv lv ov fv:Value}{cs:Array Value}{ty:TypeId}{t:Tok}{n:Nd}{f:Ft}{A:List Nat}
def Dq(f:Ft):Nat->List Nd->En->List Nd×En
 | _,[],e=>([],e)
 | 0,n::ns,e=>((Ao f n ns e).1::(Ao f n ns e).2.1,(Ao f n ns e).2.2)
 | p+1,n::ns,e=>(n::(Dq f p ns e).1,(Dq f p ns e).2)
theorem On(f:Ft):∀(p:Nat) (ns:List Nd) (e:En),(Dq f p ns e).1.length=ns.length
 | _,[],_=>by unfold Dq;rfl
 | 0,n::ns,e=>by unfold Dq;simp[Eo]
 | p+1,n::ns,e=>by unfold Dq;simp[On f p ns e]
theorem Kk(f:Ft):∀(k:Nat) (ns:List Nd) (e:En),Da f (k+1) ns e=Dq f k (Da f k ns e).1 (Da f k ns e).2
 | 0,[],e=>by simp[Da,Dq]
 | 0,n::ns,e=>by simp[Da,Dq]
 | k+1,[],e=>by simp[Da,Dq]
 | k+1,n::ns,e=>by
  have ih:=Kk f k (Ao f n ns e).2.1 (Ao f n ns e).2.2;rw[Da,ih];simp only[Da,Dq]
def Dd(f:Ft)(ps:List Nat)(ns:List Nd)(e:En):List Nd×En:=ps.foldl (fun s p=>Dq f p s.1 s.2) (ns,e)
theorem G7(f:Ft)(ps:List Nat)(p:Nat)(ns:List Nd)(e:En):Dd f (ps++[p]) ns e=Dq f p (Dd f ps ns e).1 (Dd f ps ns e).2:=by
 simp[Dd]
theorem Ga(f:Ft)(ns:List Nd)(e:En):∀k,Dd f (List.range k) ns e=Da f k ns e
 | 0=>by simp[Dd,Da]
 | k+1=>by rw[List.range_succ,G7,Ga f ns e k,Kk]
theorem Lv(f:Ft)(ps:List Nat)(ns:List Nd)(e:En):(Dd f ps ns e).1.length=ns.length:=by
 induction ps generalizing ns e with
 | nil=>rfl
 | cons p ps ih=>exact(ih _ _).trans (On f p ns e)
def Ma(ns:List Nd):List Bool:=ns.map (fun n=>n.c.neg)
theorem I6{iF:List Nd}(h:ns.map (fun n=>(n.c,n.links,n.K))=iF.map (fun n=>(n.c,n.links,n.K))):Ma iF=Ma ns:=by
 have:=BJ (List.map (fun x:Sv.Cond×List Lnk×List Ft=>x.1.neg)) h;simp only[EF] at this;exact this.symm
theorem U9(f:Ft)(n:Nd)(ns:List Nd)(e:En):(Ao f n ns e).1.c=n.c/\(Ao f n ns e).1.links=n.links/\(Ao f n ns e).1.toks=n.toks:=by
 unfold Ao;split<;>exact⟨rfl,rfl,rfl⟩
theorem Lu(f:Ft):∀(p:Nat) (ns:List Nd) (e:En),Ma (Dq f p ns e).1=Ma ns
 | _,[],_=>by unfold Dq;rfl
 | 0,n::ns,e=>by
  unfold Dq;have h1:=I6 (I3 f n ns e);have h2:=(U9 f n ns e).1;unfold Ma at h1⊢;simp[h1,h2]
 | p+1,n::ns,e=>by
  unfold Dq;have:=Lu f p ns e;unfold Ma at this⊢;simp[this]
theorem Kl(f:Ft)(ps:List Nat)(ns:List Nd)(e:En):Ma (Dd f ps ns e).1=Ma ns:=by
 induction ps generalizing ns e with
 | nil=>rfl
 | cons p ps ih=>exact(ih _ _).trans (Lu f p ns e)
def Bd(κ:Nat):Nat->List Nd->En->Prop
 | c,[],e=>e.toks.length<=c/\e.wait.length<=c
 | c,n::ns,e=>n.K.length<=κ/\n.toks.length<=c/\Bd κ (c*20) ns e
theorem Bd.mono{κ κ':Nat}(hk:κ<=κ'):∀ {ns:List Nd} {c c':Nat} {e:En},c<=c'->Bd κ c ns e->Bd κ' c' ns e
 | [],_,_,_,hc,h=>⟨AU h.1 hc,AU h.2 hc⟩
 | _::_,_,_,_,hc,h=>⟨AU h.1 hk,AU h.2.1 hc,Bd.mono hk (BW _ hc) h.2.2⟩
theorem Oy(hk:n.K.length<=20)(t:Tok):(n.ext t).length<=20:=by
 unfold Nd.ext;split
 ·split<;>simp
 ·rw[BA]
  exact AU (CR _ _) hk
theorem Nf{α β:Type}(g:α->List β)(m:Nat)(h:∀a,(g a).length<=m):∀l:List α,(l.flatMap g).length<=l.length*m
 | []=>by simp
 | a::l=>by
  rw[BI,AK,AP,GV];have:=Nf g m h l;have:=h a;omega
theorem Bd.arr{κ:Nat}(hk:κ<=20):∀ {ns:List Nd} {c t:Nat} {e:En} {ts:List Tok},Bd κ c ns e->ts.length<=t->Bd κ (c+t) (arr ns e ts).1 (arr ns e ts).2
 | [],c,t,e,ts,h,ht=>by
  obtain⟨h1,h2⟩:=h;refine⟨?_,?_⟩
  ·show (e.toks++ts).length<=c+t
   rw[AK];omega
  ·show (ts.foldl (Hp.push Tok.less) e.wait).length<=c+t
   rw[(Hp.fold_perm Tok.less ts e.wait).length_eq,AK];omega
 | n::ns,c,t,e,ts,h,ht=>by
  obtain⟨h1,h2,h3⟩:=h;refine⟨h1,?_,?_⟩
  ·show (n.toks++ts).length<=c+t
   rw[AK];omega
  ·have hf:=Nf n.ext 20 (Oy (AU h1 hk)) ts
   have:=Bd.arr hk (ts:=ts.flatMap n.ext) (t:=t*20) h3 (AU hf (BW _ ht));rw[<-GV] at this;exact this
theorem Bd.drop{κ:Nat}(p:Tok->Bool):∀ {ns:List Nd} {c:Nat} {e:En},Bd κ c ns e->Bd κ c (ns.map (Nd.drop p)) (e.drop p)
 | [],c,e,h=>by
  refine⟨AU (CR _ _) h.1,?_⟩;show (Hp.init Tok.less _).length<=c
  rw[(Hp.init_perm _ _).length_eq];exact AU (CR _ _) h.2
 | n::ns,c,e,h=>⟨h.1,AU (CR _ _) h.2.1,Bd.drop p h.2.2⟩
theorem Bd.addStep{κ c:Nat}{n:Nd}{ns:List Nd}{e:En}{f:Ft}(hk:κ<20)(h:Bd κ c (n::ns) e):Bd (κ+1) (2*c) ((Ao f n ns e).1::(Ao f n ns e).2.1) (Ao f n ns e).2.2:=by
 obtain⟨h1,h2,h3⟩:=h;unfold Ao;split
 ·refine⟨by simp;omega,by show n.toks.length<=_;omega,?_⟩
  split
  ·exact(Bd.drop _ h3).mono (by omega) (by omega)
  ·have:=Bd.arr (by omega) h3 (ts:=(n.toks.filter (fun t=>Ck n.links t f.f)).map (fun t=>t++[f])) (t:=c) (by rw[BA];exact AU (CR _ _) h2)
   exact this.mono (by omega) (by omega)
 ·exact⟨by show n.K.length<=_;omega,by show n.toks.length<=_;omega,h3.mono (by omega) (by omega)⟩
theorem Bd.addAt{κ:Nat}{f:Ft}(hk:κ<20):∀(p:Nat) {ns:List Nd} {c:Nat} {e:En},Bd κ c ns e->Bd (κ+1) (2*c) (Dq f p ns e).1 (Dq f p ns e).2
 | _,[],_,e,h=>by unfold Dq;exact⟨by show e.toks.length<=_;have:=h.1;omega,by show e.wait.length<=_;have:=h.2;omega⟩
 | 0,n::ns,c,e,h=>by unfold Dq;exact h.addStep hk
 | p+1,n::ns,c,e,h=>by
  unfold Dq;have ih:=Bd.addAt (f:=f) hk p h.2.2;exact⟨by have:=h.1;omega,by have:=h.2.1;omega,by rw[FD];exact ih⟩
theorem Bd.small{κ:Nat}:∀ {ns:List Nd} {c:Nat} {e:En},Bd κ c ns e->ns.length<=4->c*20 ^ ns.length<=1000000000->Small 1000000000 ns e
 | [],c,e,h,_,hc=>⟨by simp,by have:=h.1;simp at hc;omega,by have:=h.2;simp at hc;omega⟩
 | n::ns,c,e,h,hl,hc=>by
  rw[AP] at hl hc;rw[GD,FZ (20 ^ _) 20,<-FD] at hc;have ih:=Bd.small (ns:=ns) h.2.2 (by omega) hc;refine⟨fun m hm=>?_,ih.2.1,ih.2.2⟩;rcases CQ.1 hm with rfl|hm
  ·have h1:1<=20 ^ ns.length:=KA (by omega)
   have h2:=h.2.1;have h3:c*20*1<=c*20*20 ^ ns.length:=GZ _ h1;omega
  ·exact ih.1 m hm
theorem Small.tail(h:Small B (n::ns) e):Small B ns e:=⟨fun m hm=>h.1 m (BG _ hm),h.2.1,h.2.2⟩
end Go.Proofs.YtolhbeekfjnfmaaGreatDoor
namespace Go.Proofs.YtolhbeekfjnfmaaGreatDoor
open Go.RowKit
variable {B c k b o q j:Nat}{ns:List Nd}{e:En}{X:List Tok}{U:Nat->Nat}{w wx w' w1:World}{v nx tv lv ov fv:Value}{cs:Array Value}{ty:TypeId}{t:Tok}{n:Nd}{f:Ft}{A:List Nat}
def Bk(U:Nat->Nat)(c b:Nat):Prop:=U b=c/\∀i,i<b->U i≠c
theorem Bk.uniq{b':Nat}(h:Bk U c b)(h':Bk U c b'):b=b':=by
 rcases JR b b' with h1|h1|h1
 ·exact absurd h.1 (h'.2 b h1)
 ·exact h1
 ·exact absurd h'.1 (h.2 b' h1)
theorem Bk.old{U':Nat->Nat}{m:Nat}(h:Bk U c b)(hb:b<m)(ho:∀i,i<m->U' i=U i):Bk U' c b:=
 ⟨by rw[ho b hb];exact h.1,fun i hi=>by rw[ho i (FY hi hb)];exact h.2 i hi⟩
theorem Ro:∀ {ns iF:List Nd} {A:List Nat},ns.map (fun n=>n.c)=iF.map (fun n=>n.c)->Hq A ns=Hq A iF
 | [],[],_,_=>rfl
 | [],_::_,_,h=>by simp at h
 | _::_,[],_,h=>by simp at h
 | n::ns,n'::iF,A,h=>by
  simp only[DN,GX] at h;unfold Hq;rw[h.1];exact Ro h.2
theorem Q3e(h3:∀g∈n.K,g.f.vals.length=n.c.terms.length){u:Tok}(ht:HasAr A t)(hx:u∈n.ext t):HasAr (if n.c.neg=true then A else A++[n.c.terms.length]) u:=by
 unfold Nd.ext at hx;by_cases hn:n.c.neg=true
 ·rw[AQ hn] at hx⊢
  split at hx
  ·simp at hx
  ·simp at hx;rw[hx];exact ht
 ·rw[AO hn] at hx⊢
  obtain⟨g,hg,rfl⟩:=CJ.1 hx;have hk:=h3 g (BH.1 hg).1;rw[<-hk];exact ht.snoc g
theorem EndOk.arr:∀ {ns:List Nd} {A:List Nat} {e:En} {ts:List Tok},WF A ns->EndOk A ns e->(∀t∈ts,HasAr A t)->EndOk A (arr ns e ts).1 (arr ns e ts).2
 | [],A,e,ts,_,h,ht=>by
  refine⟨fun t hm=>?_,fun t hm=>?_⟩
  ·have gH:t∈e.toks++ts:=hm
   rcases AY.1 gH with gH|gH
   ·exact h.1 t gH
   ·exact ht t gH
  ·have gH:t∈ts.foldl (Hp.push Tok.less) e.wait:=hm
   rcases AY.1 ((Hp.fold_perm Tok.less ts e.wait).mem_iff.1 gH) with gH|gH
   ·exact h.2 t gH
   ·exact ht t gH
 | n::ns,A,e,ts,hW,h,ht=>by
  refine EndOk.arr (ns:=ns) (A:=if n.c.neg=true then A else A++[n.c.terms.length]) (ts:=ts.flatMap n.ext) hW.2.2.2.2 h ?_;intro u hu;obtain⟨t,hm,hx⟩:=CT.1 hu;exact Q3e hW.2.2.1 (ht t hm) hx
theorem WF.drop(p:Tok->Bool):∀ {ns:List Nd} {A:List Nat},WF A ns->WF A (ns.map (Nd.drop p))
 | [],_,h=>h
 | _::_,_,h=>⟨h.1,h.2.1,h.2.2.1,fun t ht=>h.2.2.2.1 t (BH.1 ht).1,WF.drop p h.2.2.2.2⟩
theorem EndOk.drop{ns:List Nd}{A:List Nat}{e:En}(p:Tok->Bool)(h:EndOk A ns e):EndOk A (ns.map (Nd.drop p)) (e.drop p):=by
 have:Hq A (ns.map (Nd.drop p))=Hq A ns:=Ro (by rw[EF];rfl);unfold EndOk;rw[this];refine⟨fun t ht=>h.1 t (BH.1 ht).1,fun t ht=>?_⟩;have hm:t∈e.wait.filter (fun t=>!p t):=(Hp.init_perm _ _).mem_iff.1 ht;exact h.2 t (BH.1 hm).1
theorem WF.addStep{A:List Nat}{n:Nd}{ns:List Nd}{e:En}{f:Ft}(h:WF A (n::ns))(he:EndOk A (n::ns) e) :
  WF A ((Ao f n ns e).1::(Ao f n ns e).2.1)/\EndOk A ((Ao f n ns e).1::(Ao f n ns e).2.1) (Ao f n ns e).2.2:=by
 unfold Ao;by_cases hf:Ia n.c f.f=true
 ·rw[AQ hf]
  have br:=Jj hf;obtain⟨h1,h2,h3,h4,h5⟩:=h
  have hK:∀g∈n.K++[f],g.f.vals.length=n.c.terms.length:=by
   intro g hg;rcases AY.1 hg with hg|hg
   ·exact h3 g hg
   ·simp only[AX] at hg;rw[hg];exact br
  by_cases hn:n.c.neg=true
  ·rw[AQ hn]
   exact⟨⟨h1,h2,hK,h4,h5.drop _⟩,EndOk.drop (ns:=ns) (A:=if n.c.neg=true then A else A++[n.c.terms.length]) _ he⟩
  ·rw[AO hn]
   have ht:∀u∈(n.toks.filter (fun t=>Ck n.links t f.f)).map (fun t=>t++[f]),HasAr (if n.c.neg=true then A else A++[n.c.terms.length]) u:=by
    intro u hu;obtain⟨t,hg,rfl⟩:=CJ.1 hu;rw[AO hn,<-br];exact(h4 t (BH.1 hg).1).snoc f
   exact⟨⟨h1,h2,hK,h4,h5.arr ht⟩,EndOk.arr (ns:=ns) h5 he ht⟩
 ·rw[AO hf]
  exact⟨h,he⟩
theorem WF.addAt{f:Ft}:∀(p:Nat) {A:List Nat} {ns:List Nd} {e:En},WF A ns->EndOk A ns e->WF A (Dq f p ns e).1/\EndOk A (Dq f p ns e).1 (Dq f p ns e).2
 | _,_,[],_,h,he=>by unfold Dq;exact⟨h,he⟩
 | 0,_,n::ns,e,h,he=>by unfold Dq;exact h.addStep he
 | p+1,A,n::ns,e,h,he=>by
  unfold Dq;obtain⟨i1,i2⟩:=WF.addAt (f:=f) p (ns:=ns) (e:=e) h.2.2.2.2 he;exact⟨⟨h.1,h.2.1,h.2.2.1,h.2.2.2.1,i1⟩,i2⟩
theorem EndOk.four(h:EndOk A ns e)(hW:WF A ns):∀x∈e.wait,x.length<=4:=fun x hx=>by
 rw[(h.2 x hx).len];exact Rq hW
def U8(neg:Bool):Nat:=if neg=true then 103 else 102
def Iu(U:Nat->Nat)(ru jn q k:Nat)(r:List Nd×En)(m:Nat)(hd:Value)(w w':World):Prop:=
 ∃U',SufAt U' ru jn q k r.1 r.2 hd w'/\GrS (Am U q m) w w'/\∀i,i<w.heap.size->U' i=U i
theorem U5(ru jn:Nat)(U:Nat->Nat)(f:Ft)(w:World)(hf:FtAt U f w):∀(p:Nat) (A:List Nat) (q b κ c:Nat) (n:Nd) (ns:List Nd) (e:En) (hd:Value),ns[p]?=some n->Bk U (4+3*(q+p)) b->SufAt U ru jn q A.length ns e hd w->WF A ns->EndOk A ns e->Bd κ c ns e->κ<20->ns.length<=4->2*c*20 ^ ns.length<=1000000000->
  Calls Tryz.prog (U8 n.c.neg) #[.pointer (some ⟨b,0,none⟩),Ee f] w fun e' w'=>e'=.returned (.tuple #[])/\Iu U ru jn q A.length (Dq f p ns e) ns.length hd w w'
 | _,_,_,_,_,_,_,[],_,_,hn,_,_,_,_,_,_,_,_=>by simp at hn
 | 0,A,q,b,κ,c,n,n0::ns,e,hd,hn,hb,h,hW,hE,hB,hk,hl,hc=>by
  simp only[BU,AE] at hn;subst hn;have h0:=h;obtain⟨b',nx,tv,lv,ov,fv,h1,h2,_⟩:=h;have:b'=b:=Bk.uniq ⟨h2.own,h2.low⟩ hb;subst this;subst h1;have hS:=(hB.addStep (f:=f) hk).small (by rw[AP,Eo,<-AP (a:=n0)];exact hl) (by rw[AP,Eo,<-AP (a:=n0)];exact hc);have uM:n0.K.length<=1000000000:=by have:=hB.1;omega
  have aN:∀w',Pp U ru jn q A.length n0 ns e (.iface (C8 n0.c.neg) (.pointer (some ⟨b',0,none⟩))) f w w'->Iu U ru jn q A.length (Dq f 0 (n0::ns) e) (n0::ns).length (.iface (C8 n0.c.neg) (.pointer (some ⟨b',0,none⟩))) w w':=by
   rintro w'⟨U',a1,a2,a3⟩;refine⟨U',by unfold Dq;exact a1,a2.mono (fun i hi=>?_),a3⟩;unfold Am;rw[AP];omega
  cases et:n0.c.neg with
  | true=>
   have hwl:e.wait.length<=1000000000:=by
    have h5:=((hB.mono (AW κ) (show c<=2*c by omega)).small hl hc).2.2;exact h5
   have rq:C8 n0.c.neg=209:=by rw[et];rfl
   rw[rq] at h0 aN;have:=Q1l ru jn U A q b' n0 ns e f w et h0 hW hE hf uM hwl;unfold U8;rw[AQ rfl];refine this.mono ?_;rintro e' w'⟨rfl,hp⟩;refine⟨rfl,?_⟩;have:=aN w' hp;unfold C8;rw[AQ rfl];exact this
  | false=>
   have rq:C8 n0.c.neg=208:=by rw[et];rfl
   rw[rq] at h0 aN;have:=Zf ru jn U A q b' n0 ns e f w et h0 hW hf (hE.four hW) uM hS.tail;unfold U8;rw[AO (by simp)];refine this.mono ?_;rintro e' w'⟨rfl,hp⟩;refine⟨rfl,?_⟩;have:=aN w' hp;unfold C8;rw[AO (by simp)];exact this
 | p+1,A,q,b,κ,c,n,n0::ns,e,hd,hn,hb,h,hW,hE,hB,hk,hl,hc=>by
  obtain⟨b',nx,tv,lv,ov,fv,h1,h2,h3⟩:=h;have hA:(if n0.c.neg=true then A.length else A.length+1)=(if n0.c.neg=true then A else A++[n0.c.terms.length]).length:=by split<;>simp
  rw[hA] at h3;rw[AP] at hl hc;rw[GD,FZ (20 ^ _) 20,<-FD,FD 2 c 20] at hc;refine(U5 ru jn U f w hf p (if n0.c.neg=true then A else A++[n0.c.terms.length]) (q+1) b κ (c*20) n ns e nx (by simpa using hn) (by rw[show q+1+p=q+(p+1) by omega];exact hb) h3 hW.2.2.2.2 hE hB.2.2 hk (by omega) hc).mono ?_;rintro e' w'⟨rfl,U',a1,a2,a3⟩;refine⟨rfl,U',?_,a2.mono (fun i hi=>?_),a3⟩
  ·unfold Dq
   refine⟨b',nx,tv,lv,ov,fv,h1,h2.keep a2 (fun i hi hx=>by unfold Am at hx;omega) (fun i hi _=>a3 i hi),?_⟩;rw[hA];exact a1
  ·unfold Am at hi⊢
   rw[AP];omega
end Go.Proofs.YtolhbeekfjnfmaaGreatDoor

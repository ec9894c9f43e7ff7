import Derived.Test.YtolhbeekfjnfmaaGreatDoorMA
import Derived.Shelf.Abstract
import Derived.Test.YtolhbeekfjnfmaaGreatDoorM19
import Derived.Test.YtolhbeekfjnfmaaGreatDoorM13
set_option maxHeartbeats 8000000
set_option maxRecDepth 100000
namespace Go.Proofs.YtolhbeekfjnfmaaGreatDoor
open Go.RowKit
variable {B c k b o q j:Nat}{ns:List Nd}{e:En}{X:List Tok}{U:Nat->Nat}{w wx w' w1:World}{v nx tv lv ov fv:Value}{cs:Array Value}{ty:TypeId}{t:Tok}{n:Nd}{f:Ft}{A:List Nat}
def Lj(p:Ft->Bool):Nat->List Ft->Int
 | _,[]=>-1
 | k,t::l=>if p t=true then (k:Int) else Lj p (k+1) l
theorem Ju(p:Ft->Bool):∀(l:List Ft) (k:Nat),decide (0<=Lj p k l)=l.any p
 | [],_=>rfl
 | t::l,k=>by
  unfold Lj;rw[GH];split
  ·rename_i h;rw[h];simp
  ·rename_i h;rw[Ju p l (k+1),JR.2 h,EN]
theorem FsAt.cell{v:Value}{l:List Ft}{w:World}(h:FsAt v l w){k:Nat}{f:Ft}(hk:l[k]?=some f):∃g cap,v=.slice (some ⟨g,0,none⟩) l.length cap/\w.cell? ⟨g,k,none⟩=some (.pointer (some ⟨f.blk,0,none⟩)):=by
 obtain⟨g,cap,h1,h2⟩:=h.cells hk;have:=h2 0 (by omega);exact⟨g,cap,h1,by simpa[Pv,Ei] using this⟩
theorem X8(N:Nat)(b0:Value)(p:Ft->Bool)(v:Value)(l:List Ft)(w:World)(eg:∀args w,(callFunc N args).run Tryz.prog w=.ok (.enter N args) w)(hr:FsAt v l w)
 (hp:∀wx t,w.grownBy wx none->t∈l->Calls Tryz.prog N #[.pointer (some ⟨t.blk,0,none⟩),b0] wx fun e w'=>e=.returned (.bool (p t))/\wx.grownBy w' none) :
  Calls Tryz.prog 44 #[v,(.func (.func N) #[] #[b0])] w fun e w'=>e=.returned (.int .i64 (Lj p 0 l))/\w.grownBy w' none:=by
 obtain⟨ao,cap,rfl⟩:=hr.slice;have dK:=hr.le;unfold maxLen at dK;obtain⟨R,hR⟩:∃R,Lj p 0 l=R:=⟨_,rfl⟩
 rw[hR];have HR:=Ac hR;have HP:=Ac hp;have dP:=Ac hr;clear hR hp hr;go_enter Tryz.func44,Tryz.ntmps44;go_wp2;go_loopw [8] (fun x w'=>∃k:Nat,k<=l.length/\x=.int .i64 k/\Lj p k (l.drop k)=R/\w.grownBy w' none) (fun x _=>l.length-(intOf x).toNat)
 case atStart=>exact⟨0,AG _,rfl,Aa HR,AD _ _⟩
 case round=>
  clear HR;obtain⟨k,hk,rfl,hr,hg⟩:=hrel;by_cases hlt:k<l.length
  ·have hd:decide (k<l.length)=true:=by simpa using hlt
   obtain⟨t,ht⟩:∃t,l[k]?=some t:=⟨_,AB hlt⟩
   obtain⟨g,cap',e1,c0⟩:=FsAt.cell ((Aa dP).gr hg) ht;simp only[AH,BP] at e1;obtain⟨rfl,rfl⟩:=e1;have hC:=Aa HP wr t hg (AV ht);rw[A0 ht] at hr;unfold Lj at hr;obtain⟨r,hr1⟩:∃r,p t=r:=⟨_,rfl⟩
   rw[hr1] at hr hC;have HR:=Ac hr;clear hr hr1 ht;go_wp2_with fail;refine hC.mono ?_;rintro e w1⟨rfl,hg1⟩;have bP:=Ab hg hg1;have hr:=Aa HR;clear HR hC hg1;cases r with
   | true=>
    rw[AQ rfl] at hr;subst hr;go_wp2;go_ret;exact⟨rfl,bP⟩
   | false=>
    rw[AO (by simp)] at hr;have HR:=Ac hr;clear hr;go_wp2;go_roundw
    case rel=>exact⟨k+1,by omega,by go_num,Aa HR,bP⟩
    case measure=>simp[intOf];omega
  ·have hd:decide (k<l.length)=false:=by simpa using hlt
   have e:l.drop k=[]:=BD (by omega);rw[e] at hr;have hr2:-1=R:=hr;subst hr2;clear hr e;go_wp2;go_ret;exact⟨rfl,hg⟩
theorem Q2g(N:Nat)(b0 b1:Value)(p:Ft->Bool)(v:Value)(l:List Ft)(w:World)(eg:∀args w,(callFunc N args).run Tryz.prog w=.ok (.enter N args) w)(hr:FsAt v l w)
 (hp:∀wx t,w.grownBy wx none->t∈l->Calls Tryz.prog N #[.pointer (some ⟨t.blk,0,none⟩),b0,b1] wx fun e w'=>e=.returned (.bool (p t))/\wx.grownBy w' none) :
  Calls Tryz.prog 44 #[v,(.func (.func N) #[] #[b0,b1])] w fun e w'=>e=.returned (.int .i64 (Lj p 0 l))/\w.grownBy w' none:=by
 obtain⟨ao,cap,rfl⟩:=hr.slice;have dK:=hr.le;unfold maxLen at dK;obtain⟨R,hR⟩:∃R,Lj p 0 l=R:=⟨_,rfl⟩
 rw[hR];have HR:=Ac hR;have HP:=Ac hp;have dP:=Ac hr;clear hR hp hr;go_enter Tryz.func44,Tryz.ntmps44;go_wp2;go_loopw [8] (fun x w'=>∃k:Nat,k<=l.length/\x=.int .i64 k/\Lj p k (l.drop k)=R/\w.grownBy w' none) (fun x _=>l.length-(intOf x).toNat)
 case atStart=>exact⟨0,AG _,rfl,Aa HR,AD _ _⟩
 case round=>
  clear HR;obtain⟨k,hk,rfl,hr,hg⟩:=hrel;by_cases hlt:k<l.length
  ·have hd:decide (k<l.length)=true:=by simpa using hlt
   obtain⟨t,ht⟩:∃t,l[k]?=some t:=⟨_,AB hlt⟩
   obtain⟨g,cap',e1,c0⟩:=FsAt.cell ((Aa dP).gr hg) ht;simp only[AH,BP] at e1;obtain⟨rfl,rfl⟩:=e1;have hC:=Aa HP wr t hg (AV ht);rw[A0 ht] at hr;unfold Lj at hr;obtain⟨r,hr1⟩:∃r,p t=r:=⟨_,rfl⟩
   rw[hr1] at hr hC;have HR:=Ac hr;clear hr hr1 ht;go_wp2_with fail;refine hC.mono ?_;rintro e w1⟨rfl,hg1⟩;have bP:=Ab hg hg1;have hr:=Aa HR;clear HR hC hg1;cases r with
   | true=>
    rw[AQ rfl] at hr;subst hr;go_wp2;go_ret;exact⟨rfl,bP⟩
   | false=>
    rw[AO (by simp)] at hr;have HR:=Ac hr;clear hr;go_wp2;go_roundw
    case rel=>exact⟨k+1,by omega,by go_num,Aa HR,bP⟩
    case measure=>simp[intOf];omega
  ·have hd:decide (k<l.length)=false:=by simpa using hlt
   have e:l.drop k=[]:=BD (by omega);rw[e] at hr;have hr2:-1=R:=hr;subst hr2;clear hr e;go_wp2;go_ret;exact⟨rfl,hg⟩
theorem Tryz.enters1:∀args w,(callFunc 163 args).run Tryz.prog w=.ok (.enter 163 args) w:=enters_of Tryz.func163 (by kernel_rfl) rfl
theorem Q3q(N:Nat)(b0 b1:Value)(p:Ft->Bool)(v:Value)(l:List Ft)(w:World)(eg:∀args w,(callFunc N args).run Tryz.prog w=.ok (.enter N args) w)(hr:FsAt v l w)
 (hp:∀wx t,w.grownBy wx none->t∈l->Calls Tryz.prog N #[.pointer (some ⟨t.blk,0,none⟩),b0,b1] wx fun e w'=>e=.returned (.bool (p t))/\wx.grownBy w' none) :
  Calls Tryz.prog 162 #[v,(.func (.func N) #[] #[b0,b1])] w fun e w'=>e=.returned (.bool (l.any p))/\w.grownBy w' none:=by
 have hI:=Q2g N b0 b1 p v l w eg hr hp;have hA:=Ju p l 0;obtain⟨r,hr1⟩:∃r,Lj p 0 l=r:=⟨_,rfl⟩
 rw[hr1] at hI hA;rw[<-hA];clear hp hr hA hr1;go_enter Tryz.func162,Tryz.ntmps162;go_wp2_with fail;refine hI.mono ?_;rintro e w1⟨rfl,hg1⟩;clear hI;go_wp2;go_ret;exact⟨rfl,hg1⟩
theorem Or(U:Nat->Nat)(q k b:Nat)(n:Nd)(nx tv lv ov fv:Value)(t:Tok)(w:World)(h:NodeAt U q k b n nx tv lv ov fv w)(di:t.length<=4)(ht:∀g∈t,FtAt U g w)
 (hl:∀f∈n.K,∀l∈n.links,l.place<f.f.vals.length/\∃g,t[l.at'.fact]?=some g/\l.at'.place<g.f.vals.length) :
  Calls Tryz.prog 141 #[.pointer (some ⟨b,0,none⟩),Bu t] w fun e w'=>e=.returned (.bool (n.K.any (fun g=>Ck n.links t g.f)))/\w.grownBy w' none:=by
 obtain⟨p0,p1,p2,p3,hp⟩:=Bb t;have eT:Bu t=.agg #[.pointer p0,.pointer p1,.pointer p2,.pointer p3]:=by unfold Bu;rw[hp]
 have a7:=Dp w (.cells #[.pointer (some ⟨b,0,none⟩)] 209) (.cells #[.pointer p0,.pointer p1,.pointer p2,.pointer p3] 139);have hx1:((w.alloc (.cells #[.pointer (some ⟨b,0,none⟩)] 209)).alloc (.cells #[.pointer p0,.pointer p1,.pointer p2,.pointer p3] 139)).heap[w.heap.size]?=some (.cells #[.pointer (some ⟨b,0,none⟩)] 209 (0,0)):=by rw[DF _ _ _ (by simp)];exact AR _ _
 have hx2:((w.alloc (.cells #[.pointer (some ⟨b,0,none⟩)] 209)).alloc (.cells #[.pointer p0,.pointer p1,.pointer p2,.pointer p3] 139)).heap[w.heap.size+1]?=some (.cells #[.pointer p0,.pointer p1,.pointer p2,.pointer p3] 139 (0,0)):=by
  have:=AR (w.alloc (.cells #[.pointer (some ⟨b,0,none⟩)] 209)) (.cells #[.pointer p0,.pointer p1,.pointer p2,.pointer p3] 139);simpa using this
 have hC:∀wx f,((w.alloc (.cells #[.pointer (some ⟨b,0,none⟩)] 209)).alloc (.cells #[.pointer p0,.pointer p1,.pointer p2,.pointer p3] 139)).grownBy wx none->f∈n.K->Calls Tryz.prog 163 #[.pointer (some ⟨f.blk,0,none⟩),.pointer (some ⟨w.heap.size,0,none⟩),.pointer (some ⟨w.heap.size+1,0,none⟩)] wx fun e w'=>e=.returned (.bool (Ck n.links t f.f))/\wx.grownBy w' none:=by
  intro wx f hg hf;have ai:=Ab a7 hg;have y1:=hg.block _ (Af hx1) (by simp);have y2:=hg.block _ (Af hx2) (by simp);rw[hx1] at y1;rw[hx2] at y2;have y0:wx.cell? ⟨w.heap.size,0,none⟩=some (.pointer (some ⟨b,0,none⟩)):=by simp[World.cell?,y1]
  have z0:wx.cell? ⟨w.heap.size+1,0,none⟩=some (.pointer p0):=by simp[World.cell?,y2]
  have z1:wx.cell? ⟨w.heap.size+1,1,none⟩=some (.pointer p1):=by simp[World.cell?,y2]
  have z2:wx.cell? ⟨w.heap.size+1,2,none⟩=some (.pointer p2):=by simp[World.cell?,y2]
  have z3:wx.cell? ⟨w.heap.size+1,3,none⟩=some (.pointer p3):=by simp[World.cell?,y2]
  have hS:∀wy,wx.grownBy wy none->Calls Tryz.prog 139 #[.pointer (some ⟨b,0,none⟩),.agg #[.pointer p0,.pointer p1,.pointer p2,.pointer p3],.pointer (some ⟨f.blk,0,none⟩)] wy fun e w'=>e=.returned (.bool (Ck n.links t f.f))/\wy.grownBy w' none:=by
   intro wy jS;have aw:=Ab ai jS;have:=Gn U b n.c n.links t f wy (h.cd.gr aw) ((h.fts f hf).gr aw) (fun g cV=>(ht g cV).gr aw) di (hl f hf);rw[eT] at this;exact this
  clear y1 y2 ai hx1 hx2 a7 h ht hl hp eT hg;go_enter Tryz.func163,Tryz.ntmps163;go_wp2_with fail
  go_region_with (go_at_call 139;refine(hS _ (by repeat (first|exact AD _ _|apply Ah))).mono ?_;rintro e w2⟨rfl,hg2⟩)
  all_goals
   go_wp2;go_ret;exact⟨rfl,Ab (by repeat (first|exact AD _ _|apply Ah)) hg2⟩
 have hS:=Q3q 163 (.pointer (some ⟨w.heap.size,0,none⟩)) (.pointer (some ⟨w.heap.size+1,0,none⟩)) (fun f=>Ck n.links t f.f) fv n.K ((w.alloc (.cells #[.pointer (some ⟨b,0,none⟩)] 209)).alloc (.cells #[.pointer p0,.pointer p1,.pointer p2,.pointer p3] 139)) Tryz.enters1 (h.facts.1.gr a7) hC;have c4:=a7.cell (h.cell 4 (by omega)) (by simp);rw[eT];have HG:=Ac a7;obtain⟨r,hr⟩:∃r,n.K.any (fun g=>Ck n.links t g.f)=r:=⟨_,rfl⟩
 rw[hr] at hS⊢;clear hC hx1 hx2 a7 h ht hl hp eT hr;go_enter Tryz.func141,Tryz.ntmps141;go_wp2_with fail;refine hS.mono ?_;rintro e w1⟨rfl,hg1⟩;clear hS;go_wp2;go_ret;exact⟨rfl,Ab (Aa HG) hg1⟩
end Go.Proofs.YtolhbeekfjnfmaaGreatDoor
namespace Go.Proofs.YtolhbeekfjnfmaaGreatDoor
variable {B c k b o q j:Nat}{ns:List Nd}{e:En}{X:List Tok}{U:Nat->Nat}{w wx w' w1:World}{v nx tv lv ov fv:Value}{cs:Array Value}{ty:TypeId}{t:Tok}{n:Nd}{f:Ft}{A:List Nat}
def Small(B:Nat)(ns:List Nd)(e:En):Prop:=(∀n∈ns,n.toks.length<=B)/\e.toks.length<=B/\e.wait.length<=B
theorem Small.of_arr{B:Nat}:∀ {ns:List Nd} {e:En} {Y:List Tok},Small B (arr ns e Y).1 (arr ns e Y).2->Small B ns e
 | [],e,Y,h=>by
  obtain⟨_,h2,h3⟩:=h;refine⟨by simp,?_,?_⟩
  ·have:(e.toks++Y).length<=B:=h2
   rw[AK] at this;omega
  ·have h4:(Y.foldl (Hp.push Tok.less) e.wait).length<=B:=h3
   rw[(Hp.fold_perm Tok.less Y e.wait).length_eq,AK] at h4;omega
 | n::ns,e,Y,h=>by
  obtain⟨h1,h2,h3⟩:=h;have ih:=Small.of_arr (ns:=ns) (e:=e) (Y:=Y.flatMap n.ext) ⟨fun m hm=>h1 m (BG _ hm),h2,h3⟩;refine⟨fun m hm=>?_,ih.2.1,ih.2.2⟩;rcases CR.1 hm with rfl|hm
  ·have:(m.toks++Y).length<=B:=h1 _ (BF ..)
   rw[AK] at this;omega
  ·exact ih.1 m hm
theorem Small.part{Y:List Tok}(h:Small B (arr ns e (X++Y)).1 (arr ns e (X++Y)).2):Small B (arr ns e X).1 (arr ns e X).2:=by
 unfold arr at h⊢;rw[Cy] at h;exact Small.of_arr h
end Go.Proofs.YtolhbeekfjnfmaaGreatDoor
namespace Go.Proofs.YtolhbeekfjnfmaaGreatDoor
open Go.RowKit
variable {B c k b o q j:Nat}{ns:List Nd}{e:En}{X:List Tok}{U:Nat->Nat}{w wx w' w1:World}{v nx tv lv ov fv:Value}{cs:Array Value}{ty:TypeId}{t:Tok}{n:Nd}{f:Ft}{A:List Nat}
theorem M8:∀ {ns:List Nd} {A:List Nat} {e:En} {ts:List Tok},WF A ns->(∀t∈ts,HasAr A t)->(∀x∈e.wait,x.length<=4)->∀x∈(arr ns e ts).2.wait,x.length<=4
 | [],A,e,ts,h,ht,he=>by
  intro x hx;have hm:=(Hp.fold_perm Tok.less ts e.wait).mem_iff.1 hx;rcases AY.1 hm with hm|hm
  ·exact he x hm
  ·rw[(ht x hm).len];exact h
 | n::ns,A,e,ts,h,ht,he=>by
  refine M8 (ns:=ns) h.2.2.2.2 ?_ he;intro u hu;obtain⟨t,hm,hx⟩:=CU.1 hu;have:=ht t hm;unfold Nd.ext at hx;by_cases hn:n.c.neg=true
  ·rw[AQ hn] at hx⊢
   split at hx
   ·simp at hx
   ·simp at hx;rw[hx];exact this
  ·rw[AO hn] at hx⊢
   obtain⟨g,hg,rfl⟩:=CL.1 hx;have hk:=h.2.2.1 g (BH.1 hg).1;rw[<-hk];exact this.snoc g
def Cj(U:Nat->Nat)(w:World)(c:Nat):Nat->Nat:=fun k=>if k<w.heap.size then U k else c
theorem Ak(h:k<w.heap.size):Cj U w c k=U k:=by unfold Cj;rw[AQ h]
theorem Bi(h:w.heap.size<=k):Cj U w c k=c:=by unfold Cj;rw[AO (by omega)]
theorem Jp{v':Value}(h1:∀g,v.ownBlock=some g->U g=c)(hlt:∀g,v.ownBlock=some g->g<w.heap.size)(h2:∀g,v'.ownBlock=some g->v.ownBlock=some g\/w.heap.size<=g):∀g,v'.ownBlock=some g->Cj U w c g=c:=by
 intro g hg;rcases h2 g hg with h|h
 ·rw[Ak (hlt g h)];exact h1 g h
 ·exact Bi h
theorem KeepPost.from{toks:List Tok}(hg:w.grownBy wx none)(h:KeepPost b o v cs ty toks t wx w'):KeepPost b o v cs ty toks t w w':=by
 obtain⟨v',h1,h2,h3,h4⟩:=h;exact⟨v',h1,h2,(GrS.of hg (by simp)).trans h3,fun g hx=>by rcases h4 g hx with h|h;exact .inl h;exact .inr (AU hg.size h)⟩
theorem PutPost.from{l:List Tok}(hg:w.grownBy wx none)(h:PutPost b o v cs ty l t wx w'):PutPost b o v cs ty l t w w':=by
 obtain⟨v',h1,h2,h3,h4⟩:=h;exact⟨v',h1,h2,(GrS.of hg (by simp)).trans h3,fun g hx=>by rcases h4 g hx with h|h;exact .inl h;exact .inr (AU hg.size h)⟩
theorem Xk(U:Nat->Nat)(ru jn q b:Nat)(e:En)(tv wv:Value)(t:Tok)(w:World)(h:LastAt U q b ru jn e tv wv w)(di:t.length<=4)(ht:∀g∈t,FtAt U g w)(he4:∀x∈e.wait,x.length<=4)(ea:e.toks.length<=1000000000)(hl2:e.wait.length<=1000000000) :
  Calls Tryz.prog 240 #[.pointer (some ⟨b,0,none⟩),Bu t] w fun e' w'=>e'=.returned (.tuple #[])/\∃U' eD dn,LastAt U' q b ru jn ⟨e.toks++[t],Hp.push Tok.less e.wait t⟩ eD dn w'/\GrS (An U q 0) w w'/\∀k,k<w.heap.size->U' k=U k:=by
 have bz:tv.ownBlock≠some b:=fun hx=>by have:=h.toks.2 b hx;have:=h.own;omega
 have dW:wv.ownBlock≠some b:=fun hx=>by have:=h.wait.2 b hx;have:=h.own;omega
 obtain⟨p0,p1,p2,p3,hp⟩:=Bb t;have eT:Bu t=.agg #[.pointer p0,.pointer p1,.pointer p2,.pointer p3]:=by unfold Bu;rw[hp]
 have a7:=AA w (.cells #[.pointer p0,.pointer p1,.pointer p2,.pointer p3] 139) none;have hnew:(w.alloc (.cells #[.pointer p0,.pointer p1,.pointer p2,.pointer p3] 139)).heap[w.heap.size]?=some (.cells #[.pointer p0,.pointer p1,.pointer p2,.pointer p3] 139 (0,0)):=AR _ _
 have hS1:∀wx,(w.alloc (.cells #[.pointer p0,.pointer p1,.pointer p2,.pointer p3] 139)).grownBy wx none->Calls Tryz.prog 242 #[.pointer (some ⟨b,0,none⟩),.agg #[.pointer p0,.pointer p1,.pointer p2,.pointer p3]] wx fun e' w'=>e'=.returned (.tuple #[])/\KeepPost b 0 tv #[tv,wv,.int .i64 ru,.int .i64 jn] 147 e.toks t wx w':=by
  intro wx hg;have aw:=Ab a7 hg;have:=Rv b 0 tv #[tv,wv,.int .i64 ru,.int .i64 jn] 147 e.toks t wx (by rw[aw.block b (Af h.blk) (by simp)];exact h.blk) rfl (h.toks.1.gr aw) bz ea;rw[eT] at this;exact this
 rw[eT];have HH:=Ac h;have HT:=Ac ht;have HE:=Ac he4;have cX:=Ac hnew;have eF:=Ac a7;have vV:=Ac eT;clear h ht he4 hnew a7 eT hp;go_enter Tryz.func240,Tryz.ntmps240;go_wp2_with fail
 go_cut [] (fun wx=>∃wy,(w.alloc (.cells #[.pointer p0,.pointer p1,.pointer p2,.pointer p3] 139)).grownBy wy none/\KeepPost b 0 tv #[tv,wv,.int .i64 ru,.int .i64 jn] 147 e.toks t wy wx)
 case first=>
  go_region_with (go_at_call 242;refine(hS1 _ (by repeat (first|exact AD _ _|apply Ah))).mono ?_;rintro e1 w1⟨rfl,mF⟩)
  all_goals
   go_wp2_with fail;go_meet
   exact⟨_,by repeat (first|exact AD _ _|apply Ah),mF⟩
 case rest=>
  obtain⟨wy,jS,eD,hb1,hr1,af,zY⟩:=hcut;have hh:=Aa HH;have ai:=Ab (Aa eF) jS;have hsz:=ai.size;have tI:GrS (fun k=>k=b\/tv.ownBlock=some k) w wc:=(GrS.of ai (by simp)).trans af;have jt:wc.heap[b]?=some (.cells #[eD,wv,.int .i64 ru,.int .i64 jn] 147 (0,0)):=hb1;have uH:∀g,eD.ownBlock=some g->tv.ownBlock=some g\/w.heap.size<=g:=fun g hx=>by rcases zY g hx with h|h;exact .inl h;exact .inr (by omega)
  have uu:∀k,k<w.heap.size->Cj U w (5+3*q) k=U k:=fun k hk=>Ak hk
  have wH:∀k,U k≠4+3*q->U k≠5+3*q->¬ (k=b\/tv.ownBlock=some k):=by
   rintro k h1 h2 (rfl|hx)
   ·exact h1 hh.own
   ·exact h2 (hh.toks.2 k hx)
  have hw1:TRow (Cj U w (5+3*q)) (6+3*q) 139 4 A6 wv e.wait wc:=hh.wait.keep2 tI (fun k hk=>wH k (by omega) (by omega)) (fun k hk hx=>by rw[uu k hk];exact hx);have dG:∀g,FtAt U g w->FtAt (Cj U w (5+3*q)) g wc:=fun g hg=>hg.keep tI (fun k hk=>wH k (by omega) (by omega)) (fun k hk hx=>by rw[uu k hk];exact hx)
  have eh:=Af hh.blk
  have kI:∀wx,wc.grownBy wx none->Calls Tryz.prog 243 #[.pointer (some ⟨b,1,none⟩),.agg #[.pointer p0,.pointer p1,.pointer p2,.pointer p3]] wx fun e' w'=>e'=.returned (.tuple #[])/\PutPost b 1 wv #[eD,wv,.int .i64 ru,.int .i64 jn] 147 e.wait t wx w':=by
   intro wx hg
   have:=Q4v (Cj U w (5+3*q)) b 1 wv #[eD,wv,.int .i64 ru,.int .i64 jn] 147 e.wait t wx (by rw[hg.block b (Af jt) (by simp)];exact jt) rfl (hw1.1.gr hg) dW hl2 (by rw[uu b eh,hh.own];omega) (fun g hx=>by rw[hw1.2 g hx];omega)
    (fun x hx=>⟨Aa HE x hx,fun y hy=>(dG y (hh.wfs x hx y hy)).gr hg⟩) ⟨di,fun y hy=>(dG y (Aa HT y hy)).gr hg⟩
   rw[Aa vV] at this;exact this
  have bZ:wc.heap[w.heap.size]?=some (.cells #[.pointer p0,.pointer p1,.pointer p2,.pointer p3] 139 (0,0)):=by
   have h1:wy.heap[w.heap.size]?=some (.cells #[.pointer p0,.pointer p1,.pointer p2,.pointer p3] 139 (0,0)):=by rw[jS.block _ (Af (Aa cX)) (by simp)];exact Aa cX
   refine af.blk h1 ?_;rintro(h2|h2)
   ·omega
   ·have:=(hh.toks.1.own _ h2).2;omega
  have n0:wc.cell? ⟨w.heap.size,0,none⟩=some (.pointer p0):=by simp[World.cell?,bZ]
  have n1:wc.cell? ⟨w.heap.size,1,none⟩=some (.pointer p1):=by simp[World.cell?,bZ]
  have n2:wc.cell? ⟨w.heap.size,2,none⟩=some (.pointer p2):=by simp[World.cell?,bZ]
  have n3:wc.cell? ⟨w.heap.size,3,none⟩=some (.pointer p3):=by simp[World.cell?,bZ]
  have HF:=Ac (show GrS (fun k=>k=b\/tv.ownBlock=some k) w wc/\ToksAt eD (e.toks++[t]) wc/\(∀g,eD.ownBlock=some g->tv.ownBlock=some g\/w.heap.size<=g)/\TRow (Cj U w (5+3*q)) (6+3*q) 139 4 A6 wv e.wait wc/\(∀g,FtAt U g w->FtAt (Cj U w (5+3*q)) g wc) from⟨tI,hr1,uH,hw1,dG⟩);clear hS1 jS hb1 hr1 af zY ai tI jt uH uu wH hw1 dG bZ hh;go_wp2_with fail
  go_region_with (go_at_call 243;refine(kI _ (by repeat (first|exact AD _ _|apply Ah))).mono ?_;rintro e2 w2⟨rfl,hk2⟩)
  all_goals
   go_wp2_with fail;go_end0
   obtain⟨dn,hb2,hr2,bf,qH⟩:=PutPost.from(by repeat (first|exact AD wc _|apply Ah)) hk2
   obtain⟨f1,f2,f3,f4,f5⟩:=Aa HF;have hh:=Aa HH;refine⟨rfl,Cj (Cj U w (5+3*q)) wc (6+3*q),eD,dn,⟨hb2,?_,⟨?_,?_⟩,⟨hr2,?_⟩,?_,?_,fun i hi=>by rw[Ak (GD hi (AZ eh f1.size)),Ak (GD hi eh)];exact hh.low i hi⟩,?_,?_⟩
   ·rw[Ak (AZ eh f1.size),Ak eh];exact hh.own
   ·refine bf.row f2 (fun g hx=>?_)
    rintro(rfl|hy)
    ·rcases f3 g hx with h|h
     ·exact bz h
     ·omega
    ·have h1:=(hh.wait.1.own g hy).2
     rcases f3 g hx with h|h
     ·have:=hh.toks.2 g h;have:=hh.wait.2 g hy;omega
     ·omega
   ·intro g hx
    rw[Ak (f2.own g hx).2];exact Jp hh.toks.2 (fun g hx=>(hh.toks.1.own g hx).2) f3 g hx
   ·exact Jp f4.2 (fun g hx=>(f4.1.own g hx).2) qH
   ·intro x hx g hg
    have hF:FtAt (Cj U w (5+3*q)) g wc:=by
     rcases AY.1 hx with hx|hx
     ·exact f5 g (hh.tfs x hx g hg)
     ·simp only[AX] at hx
      subst hx;exact f5 g (Aa HT g hg)
    refine hF.keep bf (fun k hk=>?_) (fun k hk h1=>by rw[Ak hk];exact h1);rintro(rfl|hy)
    ·rw[Ak eh,hh.own] at hk;omega
    ·have:=f4.2 k hy;omega
   ·intro x hx g hg
    have hm:=(Hp.push_perm Tok.less e.wait t).mem_iff.1 hx
    have hF:FtAt (Cj U w (5+3*q)) g wc:=by
     rcases AY.1 hm with hm|hm
     ·exact f5 g (hh.wfs x hm g hg)
     ·simp only[AX] at hm
      subst hm;exact f5 g (Aa HT g hg)
    refine hF.keep bf (fun k hk=>?_) (fun k hk h1=>by rw[Ak hk];exact h1);rintro(rfl|hy)
    ·rw[Ak eh,hh.own] at hk;omega
    ·have:=f4.2 k hy;omega
   ·refine(f1.mono (fun k hk=>?_)).comp bf (fun k hk hn=>?_)
    ·rcases hk with rfl|hy
     ·have:=hh.own;unfold An;omega
     ·have:=hh.toks.2 k hy;unfold An;omega
    ·rintro(rfl|hy)
     ·exact hn (by have:=hh.own;unfold An;omega)
     ·exact hn (by have:=hh.wait.2 k hy;unfold An;omega)
   ·intro k hk
    rw[Ak (AZ hk f1.size),Ak hk]
def Dq(U:Nat->Nat)(ru jn q k:Nat)(ns:List Nd)(e:En)(hd:Value)(ts:List Tok)(w w':World):Prop:=
 ∃U',SufAt U' ru jn q k (arr ns e ts).1 (arr ns e ts).2 hd w'/\GrS (An U q ns.length) w w'/\∀i,i<w.heap.size->U' i=U i
def Q0j(ru jn m:Nat):Prop:=∀(ns:List Nd) (A:List Nat) (q b ty fn:Nat) (U:Nat->Nat) (e:En) (t:Tok) (w:World),ns.length=m->ArrFn ty fn->SufAt U ru jn q A.length ns e (.iface ty (.pointer (some ⟨b,0,none⟩))) w->WF A ns->HasAr A t->(∀g∈t,FtAt U g w)->(∀x∈e.wait,x.length<=4)->Small 1000000000 (arr ns e [t]).1 (arr ns e [t]).2->
 Calls Tryz.prog fn #[.pointer (some ⟨b,0,none⟩),Bu t] w fun e' w'=>e'=.returned (.tuple #[])/\Dq U ru jn q A.length ns e (.iface ty (.pointer (some ⟨b,0,none⟩))) [t] w w'
theorem Fr(n:Nd)(ns:List Nd)(e:En)(t:Tok):arr (n::ns) e [t]=({ n with toks:=n.toks++[t] } :: (arr ns e (n.ext t)).1,(arr ns e (n.ext t)).2):=by
 simp[arr,Dk]
theorem Q34(ru jn:Nat):Q0j ru jn 0:=by
 intro ns A q b ty fn U e t w hm hfn h hW hA ht he hS;have:ns=[]:=CO.1 hm;subst this;obtain⟨b',tv,wv,h1,h2⟩:=h;simp only[DN,DG,AE,BK,BX] at h1;obtain⟨rfl,rfl⟩:=h1
 have hf:fn=240:=by
  rcases hfn with ⟨_,h⟩|⟨h,_⟩|⟨h,_⟩
  ·exact h
  ·exact absurd h (by decide)
  ·exact absurd h (by decide)
 subst hf;obtain⟨_,s1,s2⟩:=Small.of_arr hS;refine(Xk U ru jn q b e tv wv t w h2 (by rw[hA.len];exact hW) ht he s1 s2).mono ?_;rintro e' w'⟨rfl,U',eD,dn,h3,h4,h5⟩;exact⟨rfl,U',⟨b,eD,dn,rfl,h3⟩,h4,h5⟩
theorem Rq(h:NodeAt U q k b n nx tv lv ov fv w)(ht:∀g∈t,FtAt U g w)(hg:w.grownBy wx none)(hk:KeepPost b 3 ov (Be n k tv lv ov fv nx) (Lk n.c.neg) n.toks t wx w1) :
  ∃fZ,NodeAt (Cj U w (5+3*q)) q k b { n with toks:=n.toks++[t] } nx tv lv fZ fv w1/\GrS (fun i=>4+3*q<=U i/\U i<6+3*q) w w1:=by
 obtain⟨fZ,k1,k2,k3,k4⟩:=KeepPost.from hg hk
 rw[Gk (n:=n) (n':={ n with toks:=n.toks++[t] }) rfl] at k1
 have hsm:∀i,(i=b\/ov.ownBlock=some i)->4+3*q<=U i/\U i<6+3*q:=by
  rintro i (rfl|hx)
  ·have:=h.own;omega
  ·have:=h.toks.2 i hx;omega
 have hs:∀i,U i=1\/U i=6+3*q->¬ (i=b\/ov.ownBlock=some i):=fun i hi hx=>by have:=hsm i hx;omega
 have ho:∀c i,i<w.heap.size->U i=c->Cj U w (5+3*q) i=c:=fun c i hi hx=>by rw[Ak hi];exact hx
 have hf:∀g,FtAt U g w->FtAt (Cj U w (5+3*q)) g w1:=fun g hg=>hg.keep k3 (fun i hi=>hs i (.inl hi)) (ho 1)
 refine⟨fZ,⟨k1,ho _ b (Af h.blk) h.own,h.terms.keep2 k3 (fun i hi=>hs i (.inl hi)) (ho 1),h.links.keep2 k3 (fun i hi=>hs i (.inl hi)) (ho 1),⟨k2,Jp h.toks.2 (fun g hx=>(h.toks.1.own g hx).2) k4⟩,h.facts.keep2 k3 (fun i hi=>hs i (.inr hi)) (ho _),fun g hg=>hf g (h.fts g hg),?_,h.short,fun i hi=>by rw[Ak (GD hi (Af h.blk))];exact h.low i hi⟩,k3.mono hsm⟩;intro x hx g hg;rcases AY.1 hx with hx|hx
 ·exact hf g (h.tfs x hx g hg)
 ·simp only[AX] at hx
  subst hx;exact hf g (ht g hg)
theorem Lv{U1:Nat->Nat}{ru jn k':Nat}{n1:Nd}{w2 w5:World}(h:NodeAt U1 q k b n1 nx tv lv ov fv w2)(hG:GrS (fun i=>4+3*q<=U i/\U i<7+3*(q+ns.length+1)) w w2)(hU:∀i,i<w.heap.size->U1 i=U i)(hg:w2.grownBy wx none)(hP:Dq U1 ru jn (q+1) k' ns e nx X wx w5) :
  ∃U',NodeAt U' q k b n1 nx tv lv ov fv w5/\SufAt U' ru jn (q+1) k' (arr ns e X).1 (arr ns e X).2 nx w5/\GrS (fun i=>4+3*q<=U i/\U i<7+3*(q+ns.length+1)) w w5/\(∀i,i<w.heap.size->U' i=U i)/\∀i,i<w2.heap.size->U' i=U1 i:=by
 obtain⟨U',s1,s2,s3⟩:=hP;have hx:NodeAt U1 q k b n1 nx tv lv ov fv wx:=h.keep (S:=fun _=>False) (GrS.of hg (by simp)) (by simp) (fun _ _ _=>rfl);refine⟨U',hx.keep s2 (fun i hi hc=>by unfold An at hc;omega) (fun i hi _=>s3 i hi),s1,?_,fun i hi=>?_,fun i hi=>s3 i (AZ hi hg.size)⟩
 ·refine(hG.then hg (by simp)).comp s2 (fun i hi hn hc=>hn ?_)
  unfold An at hc;rw[hU i hi] at hc;omega
 ·have:=hG.size
  have:=hg.size;rw[s3 i (by omega)];exact hU i hi
theorem X7(ru jn m:Nat)(ih:Q0j ru jn m)(U:Nat->Nat)(A:List Nat)(q b:Nat)(n:Nd)(ns:List Nd)(e:En)(t:Tok)(w:World)(hm:ns.length=m)(aJ:n.c.neg=true)(h:SufAt U ru jn q A.length (n::ns) e (.iface 209 (.pointer (some ⟨b,0,none⟩))) w)(hW:WF A (n::ns))(hA:HasAr A t)(ht:∀g∈t,FtAt U g w)(he:∀x∈e.wait,x.length<=4)
 (hS:Small 1000000000 (arr (n::ns) e [t]).1 (arr (n::ns) e [t]).2) :
  Calls Tryz.prog 257 #[.pointer (some ⟨b,0,none⟩),Bu t] w fun e' w'=>e'=.returned (.tuple #[])/\Dq U ru jn q A.length (n::ns) e (.iface 209 (.pointer (some ⟨b,0,none⟩))) [t] w w':=by
 obtain⟨b',nx,tv,lv,ov,fv,h1,h2,h3⟩:=h;simp only[DN,DG,AE,BK,BX] at h1;obtain⟨iz,rfl⟩:=h1;clear iz;rw[AQ aJ] at h3;have bz:ov.ownBlock≠some b:=fun hx=>by have:=h2.toks.2 b hx;have:=h2.own;omega
 have iX:=hW.2.2.2.2;rw[AQ aJ] at iX;have ah:=fun f (hf:f∈n.K)=>hW.fit hA (f:=f) (hW.2.2.1 f hf)
 rw[Fr] at hS
 have hl3:n.toks.length<=1000000000:=by
  have:(n.toks++[t]).length<=1000000000:=hS.1 _ (BF ..);rw[AK] at this;omega
 have xM:Small 1000000000 (arr ns e (n.ext t)).1 (arr ns e (n.ext t)).2:=⟨fun x hx=>hS.1 x (BG _ hx),hS.2.1,hS.2.2⟩
 obtain⟨p0,p1,p2,p3,hp⟩:=Bb t;have eT:Bu t=.agg #[.pointer p0,.pointer p1,.pointer p2,.pointer p3]:=by unfold Bu;rw[hp]
 have a7:=AA w (.cells #[.pointer p0,.pointer p1,.pointer p2,.pointer p3] 139) none;have hnew:(w.alloc (.cells #[.pointer p0,.pointer p1,.pointer p2,.pointer p3] 139)).heap[w.heap.size]?=some (.cells #[.pointer p0,.pointer p1,.pointer p2,.pointer p3] 139 (0,0)):=AR _ _
 have hS1:∀wx,(w.alloc (.cells #[.pointer p0,.pointer p1,.pointer p2,.pointer p3] 139)).grownBy wx none->Calls Tryz.prog 242 #[.pointer (some ⟨b,3,none⟩),.agg #[.pointer p0,.pointer p1,.pointer p2,.pointer p3]] wx fun e' w'=>e'=.returned (.tuple #[])/\KeepPost b 3 ov (Be n A.length tv lv ov fv nx) (Lk n.c.neg) n.toks t wx w':=by
  intro wx hg;have aw:=Ab a7 hg;have:=Rv b 3 ov (Be n A.length tv lv ov fv nx) (Lk n.c.neg) n.toks t wx (by rw[aw.block b (Af h2.blk) (by simp)];exact h2.blk) Cg.1 (h2.toks.1.gr aw) bz hl3;rw[eT] at this;exact this
 rw[eT];have vM:t.length<=4:=by rw[hA.len];exact hW.le
 have HH:=Ac h2;have H3:=Ac h3;have HT:=Ac ht;have HE:=Ac he;have cX:=Ac hnew;have eF:=Ac a7;have vV:=Ac eT;have HW:=Ac (show WF A ns/\HasAr A t/\Small 1000000000 (arr ns e (n.ext t)).1 (arr ns e (n.ext t)).2 from⟨iX,hA,xM⟩);have eV:=Ac ah;clear h2 ht he hnew a7 eT hp hW hA hS xM iX ah;have jR:=h3.head;clear h3;have mL:=Tryz.mArrL;have mJ:=Tryz.mArrJ;have mH:=Tryz.mArrH
 obtain⟨ty2,gC,b2,rfl,fS⟩:∃ty2 gC b2,nx=.iface ty2 (.pointer (some ⟨b2,0,none⟩))/\ArrFn ty2 gC:=by
  rcases jR with ⟨b2,rfl,_⟩|⟨b2,n2,mf,rfl,_⟩|⟨b2,n2,mf,rfl,_⟩
  ·exact⟨_,_,b2,rfl,.inl ⟨rfl,rfl⟩⟩
  ·exact⟨_,_,b2,rfl,.inr (.inl ⟨rfl,rfl⟩)⟩
  ·exact⟨_,_,b2,rfl,.inr (.inr ⟨rfl,rfl⟩)⟩
 clear jR;go_enter Tryz.func257,Tryz.ntmps257;go_wp2_with fail
 go_cut [] (fun wx=>∃wy,(w.alloc (.cells #[.pointer p0,.pointer p1,.pointer p2,.pointer p3] 139)).grownBy wy none/\KeepPost b 3 ov (Be n A.length tv lv ov fv (.iface ty2 (.pointer (some ⟨b2,0,none⟩)))) (Lk n.c.neg) n.toks t wy wx)
 case first=>
  go_region_with (go_at_call 242;refine(hS1 _ (by repeat (first|exact AD _ _|apply Ah))).mono ?_;rintro e1 w1⟨rfl,mF⟩)
  all_goals
   go_wp2_with fail;go_meet
   exact⟨_,by repeat (first|exact AD _ _|apply Ah),mF⟩
 case rest=>
  obtain⟨wy,jS,dX⟩:=hcut;have hh:=Aa HH;have ai:=Ab (Aa eF) jS;obtain⟨fZ,bB,af⟩:=Rq hh (Aa HT) ai dX;have dG:∀g∈t,FtAt (Cj U w (5+3*q)) g wc:=fun g hg=>(Aa HT g hg).keep af (fun i hi hx=>by omega) (fun i hi hx=>by rw[Ak hi];exact hx)
  have dM:SufAt (Cj U w (5+3*q)) ru jn (q+1) A.length ns e (.iface ty2 (.pointer (some ⟨b2,0,none⟩))) wc:=(Aa H3).keep af (fun i hi hx=>by omega) (fun i hi _=>Ak hi);have hB:=Or (Cj U w (5+3*q)) q A.length b { n with toks:=n.toks++[t] } _ tv lv fZ fv t wc bB vM dG (Aa eV)
  have bZ:wc.heap[w.heap.size]?=some (.cells #[.pointer p0,.pointer p1,.pointer p2,.pointer p3] 139 (0,0)):=by
   obtain⟨v',_,_,k3,_⟩:=dX;have h1:wy.heap[w.heap.size]?=some (.cells #[.pointer p0,.pointer p1,.pointer p2,.pointer p3] 139 (0,0)):=by rw[jS.block _ (Af (Aa cX)) (by simp)];exact Aa cX
   refine k3.blk h1 ?_;rintro(h2|h2)
   ·have:=Af hh.blk;omega
   ·have:=(hh.toks.1.own _ h2).2;omega
  rw[Aa vV] at hB;have n0:wc.cell? ⟨w.heap.size,0,none⟩=some (.pointer p0):=by simp[World.cell?,bZ]
  have n1:wc.cell? ⟨w.heap.size,1,none⟩=some (.pointer p1):=by simp[World.cell?,bZ]
  have n2:wc.cell? ⟨w.heap.size,2,none⟩=some (.pointer p2):=by simp[World.cell?,bZ]
  have n3:wc.cell? ⟨w.heap.size,3,none⟩=some (.pointer p3):=by simp[World.cell?,bZ]
  obtain⟨r,hr⟩:∃r,n.K.any (fun g=>Ck n.links t g.f)=r:=⟨_,rfl⟩
  have hB':Calls Tryz.prog 141 #[.pointer (some ⟨b,0,none⟩),.agg #[.pointer p0,.pointer p1,.pointer p2,.pointer p3]] wc fun e w'=>e=.returned (.bool r)/\wc.grownBy w' none:=by rw[<-hr];exact hB
  have HF:=Ac (show NodeAt (Cj U w (5+3*q)) q A.length b { n with toks:=n.toks++[t] } (.iface ty2 (.pointer (some ⟨b2,0,none⟩))) tv lv fZ fv wc/\GrS (fun i=>4+3*q<=U i/\U i<6+3*q) w wc/\(∀g∈t,FtAt (Cj U w (5+3*q)) g wc)/\SufAt (Cj U w (5+3*q)) ru jn (q+1) A.length ns e (.iface ty2 (.pointer (some ⟨b2,0,none⟩))) wc from⟨bB,af,dG,dM⟩);have tV:=Ac bZ;have HR:=Ac hr;clear hS1 jS dX ai bB af dG dM hB bZ hh hr;go_wp2_with fail;refine hB'.mono ?_;rintro e1 w2⟨rfl,hg2⟩;clear hB';obtain⟨f1,f2,f3,f4⟩:=Aa HF;cases r with
  | true=>
   have pB:n.ext t=[]:=by unfold Nd.ext;rw[AQ aJ,Aa HR,AQ rfl]
   have HX:=Ac pB;have PH:=Ac (show NodeAt (Cj U w (5+3*q)) q A.length b { n with toks:=n.toks++[t] } (.iface ty2 (.pointer (some ⟨b2,0,none⟩))) tv lv fZ fv w2/\GrS (fun i=>4+3*q<=U i/\U i<6+3*q) w w2/\SufAt (Cj U w (5+3*q)) ru jn (q+1) A.length ns e (.iface ty2 (.pointer (some ⟨b2,0,none⟩))) w2 from⟨f1.keep (S:=fun _=>False) (GrS.of hg2 (by simp)) (by simp) (fun _ _ _=>rfl),f2.then hg2 (by simp),f4.gr hg2⟩);clear f1 f2 f3 f4 pB n0 n1 n2 n3;go_wp2;go_end0
   obtain⟨g1,g2,g3⟩:=Aa PH;refine⟨rfl,Cj U w (5+3*q),?_,g2.mono (fun i hi=>by unfold An;omega),fun i hi=>Ak hi⟩;rw[Fr,Aa HX];unfold arr;rw[Et];exact⟨b,_,tv,lv,fZ,fv,by unfold C9;rw[AQ aJ],g1,by rw[AQ aJ];exact g3⟩
  | false=>
   have pB:n.ext t=[t]:=by unfold Nd.ext;rw[AQ aJ,Aa HR,AO (by simp)]
   obtain⟨w1,YH,w3⟩:=Aa HW;rw[pB] at w3
   have dS:∀wx,w2.grownBy wx none->Calls Tryz.prog gC #[.pointer (some ⟨b2,0,none⟩),.agg #[.pointer p0,.pointer p1,.pointer p2,.pointer p3]] wx fun e' w'=>e'=.returned (.tuple #[])/\Dq (Cj U w (5+3*q)) ru jn (q+1) A.length ns e (.iface ty2 (.pointer (some ⟨b2,0,none⟩))) [t] wx w':=by
    intro wx hgx;have aw:=Ab hg2 hgx;have:=ih ns A (q+1) b2 ty2 gC (Cj U w (5+3*q)) e t wx hm fS (f4.gr aw) w1 YH (fun g hg=>(f3 g hg).gr aw) (Aa HE) w3;rw[Aa vV] at this;exact this
   have m0:=hg2.cell n0 (by simp);have m1:=hg2.cell n1 (by simp);have m2:=hg2.cell n2 (by simp);have m3:=hg2.cell n3 (by simp);have c5:=hg2.cell (f1.cell 5 (by omega)) (by simp);have HX:=Ac pB;have PH:=Ac (show NodeAt (Cj U w (5+3*q)) q A.length b { n with toks:=n.toks++[t] } (.iface ty2 (.pointer (some ⟨b2,0,none⟩))) tv lv fZ fv w2/\GrS (fun i=>4+3*q<=U i/\U i<6+3*q) w w2 from⟨f1.keep (S:=fun _=>False) (GrS.of hg2 (by simp)) (by simp) (fun _ _ _=>rfl),f2.then hg2 (by simp)⟩);clear f1 f2 f3 f4 pB n0 n1 n2 n3 w1 YH w3 hg2;rcases fS with ⟨rfl,rfl⟩|⟨rfl,rfl⟩|⟨rfl,rfl⟩
   ·go_wp2
    go_region_with (go_at_call 240;refine(dS _ (by repeat (first|exact AD _ _|apply Ah))).mono ?_;rintro e3 w5⟨rfl,oL⟩)
    all_goals
     go_wp2_with fail;go_end0
     obtain⟨g1,g2⟩:=Aa PH;obtain⟨U',u1,u2,u3,u4,_⟩:=Lv g1 (g2.mono (fun i hi=>by omega)) (fun i hi=>Ak hi) (by repeat (first|exact AD w2 _|apply Ah)) oL;refine⟨rfl,U',?_,u3.mono (fun i hi=>by unfold An;rw[AP];omega),u4⟩;rw[Fr,Aa HX];exact⟨b,_,tv,lv,fZ,fv,by unfold C9;rw[AQ aJ],u1,by rw[AQ aJ];exact u2⟩
   ·go_wp2
    go_region_with (go_at_call 257;refine(dS _ (by repeat (first|exact AD _ _|apply Ah))).mono ?_;rintro e3 w5⟨rfl,oL⟩)
    all_goals
     go_wp2_with fail;go_end0
     obtain⟨g1,g2⟩:=Aa PH;obtain⟨U',u1,u2,u3,u4,_⟩:=Lv g1 (g2.mono (fun i hi=>by omega)) (fun i hi=>Ak hi) (by repeat (first|exact AD w2 _|apply Ah)) oL;refine⟨rfl,U',?_,u3.mono (fun i hi=>by unfold An;rw[AP];omega),u4⟩;rw[Fr,Aa HX];exact⟨b,_,tv,lv,fZ,fv,by unfold C9;rw[AQ aJ],u1,by rw[AQ aJ];exact u2⟩
   ·go_wp2
    go_region_with (go_at_call 255;refine(dS _ (by repeat (first|exact AD _ _|apply Ah))).mono ?_;rintro e3 w5⟨rfl,oL⟩)
    all_goals
     go_wp2_with fail;go_end0
     obtain⟨g1,g2⟩:=Aa PH;obtain⟨U',u1,u2,u3,u4,_⟩:=Lv g1 (g2.mono (fun i hi=>by omega)) (fun i hi=>Ak hi) (by repeat (first|exact AD w2 _|apply Ah)) oL;refine⟨rfl,U',?_,u3.mono (fun i hi=>by unfold An;rw[AP];omega),u4⟩;rw[Fr,Aa HX];exact⟨b,_,tv,lv,fZ,fv,by unfold C9;rw[AQ aJ],u1,by rw[AQ aJ];exact u2⟩
def Dc(n:Nd)(t:Tok)(j:Nat):List Tok:=((n.K.take j).filter (fun g=>Ck n.links t g.f)).map (fun g=>t++[g])
theorem S3(h:n.K[j]?=some f):Dc n t (j+1)=Dc n t j++(if Ck n.links t f.f=true then [t++[f]] else []):=by
 unfold Dc;rw[Cw _ h,CA];congr 1
 split<;>rfl
theorem Wz(n:Nd)(t:Tok)(j:Nat):∃Y,Dc n t n.K.length=Dc n t j++Y:=by
 refine⟨((n.K.drop j).filter (fun g=>Ck n.links t g.f)).map (fun g=>t++[g]),?_⟩;unfold Dc;rw[CX,<-CA,<-DK,DL]
theorem Zz(h:WF A (n::ns))(hA:HasAr A t)(j:Nat):∀u∈Dc n t j,HasAr (A++[n.c.terms.length]) u:=by
 intro u hu;obtain⟨g,hg,rfl⟩:=CL.1 hu;have hk:=h.2.2.1 g (EI (BH.1 hg).1);rw[<-hk];exact hA.snoc g
theorem Pb(hn:n.c.neg=false)(t:Tok):n.ext t=Dc n t n.K.length:=by
 unfold Nd.ext Dc;rw[AO (by simp[hn]),CX]
theorem Vw(ru jn m:Nat)(ih:Q0j ru jn m)(U:Nat->Nat)(A:List Nat)(q b:Nat)(n:Nd)(ns:List Nd)(e:En)(t:Tok)(w:World)(hm:ns.length=m)(aJ:n.c.neg=false)(h:SufAt U ru jn q A.length (n::ns) e (.iface 208 (.pointer (some ⟨b,0,none⟩))) w)(hW:WF A (n::ns))(hA:HasAr A t)(ht:∀g∈t,FtAt U g w)(he:∀x∈e.wait,x.length<=4)
 (hS:Small 1000000000 (arr (n::ns) e [t]).1 (arr (n::ns) e [t]).2) :
  Calls Tryz.prog 255 #[.pointer (some ⟨b,0,none⟩),Bu t] w fun e' w'=>e'=.returned (.tuple #[])/\Dq U ru jn q A.length (n::ns) e (.iface 208 (.pointer (some ⟨b,0,none⟩))) [t] w w':=by
 obtain⟨b',nx,tv,lv,ov,fv,h1,h2,h3⟩:=h;simp only[DN,DG,AE,BK,BX] at h1;obtain⟨iz,rfl⟩:=h1;clear iz;rw[AO (by simp[aJ])] at h3;have bz:ov.ownBlock≠some b:=fun hx=>by have:=h2.toks.2 b hx;have:=h2.own;omega
 have iX:=hW.2.2.2.2;rw[AO (by simp[aJ])] at iX;have ah:=fun f (hf:f∈n.K)=>hW.fit hA (f:=f) (hW.2.2.1 f hf)
 have uj:=fun j=>Zz hW hA j
 rw[Fr,Pb aJ] at hS
 have hl3:n.toks.length<=1000000000:=by
  have:(n.toks++[t]).length<=1000000000:=hS.1 _ (BF ..);rw[AK] at this;omega
 have xM:Small 1000000000 (arr ns e (Dc n t n.K.length)).1 (arr ns e (Dc n t n.K.length)).2:=⟨fun x hx=>hS.1 x (BG _ hx),hS.2.1,hS.2.2⟩
 have vM:A.length<4:=by have:=hW.1;rw[AO (by simp[aJ])] at this;omega
 obtain⟨p0,p1,p2,p3,hp⟩:=Bb t;have eT:Bu t=.agg #[.pointer p0,.pointer p1,.pointer p2,.pointer p3]:=by unfold Bu;rw[hp]
 have a7:=AA w (.cells #[.pointer p0,.pointer p1,.pointer p2,.pointer p3] 139) none;have hnew:(w.alloc (.cells #[.pointer p0,.pointer p1,.pointer p2,.pointer p3] 139)).heap[w.heap.size]?=some (.cells #[.pointer p0,.pointer p1,.pointer p2,.pointer p3] 139 (0,0)):=AR _ _
 have hS1:∀wx,(w.alloc (.cells #[.pointer p0,.pointer p1,.pointer p2,.pointer p3] 139)).grownBy wx none->Calls Tryz.prog 242 #[.pointer (some ⟨b,3,none⟩),.agg #[.pointer p0,.pointer p1,.pointer p2,.pointer p3]] wx fun e' w'=>e'=.returned (.tuple #[])/\KeepPost b 3 ov (Be n A.length tv lv ov fv nx) (Lk n.c.neg) n.toks t wx w':=by
  intro wx hg;have aw:=Ab a7 hg;have:=Rv b 3 ov (Be n A.length tv lv ov fv nx) (Lk n.c.neg) n.toks t wx (by rw[aw.block b (Af h2.blk) (by simp)];exact h2.blk) Cg.1 (h2.toks.1.gr aw) bz hl3;rw[eT] at this;exact this
 rw[eT];have vG:=h2.facts.1.le;unfold maxLen at vG;obtain⟨fa,xX,fu⟩:=h2.facts.1.slice;have HH:=Ac h2;have H3:=Ac h3;have HT:=Ac ht;have HE:=Ac he;have cX:=Ac hnew;have eF:=Ac a7;have vV:=Ac eT;have SA:=Ac fu;have HW:=Ac (show WF (A++[n.c.terms.length]) ns/\HasAr A t/\Small 1000000000 (arr ns e (Dc n t n.K.length)).1 (arr ns e (Dc n t n.K.length)).2/\(∀j,∀u∈Dc n t j,HasAr (A++[n.c.terms.length]) u) from⟨iX,hA,xM,uj⟩);have eV:=Ac ah;clear h2 ht he hnew a7 eT hp hW hS xM iX ah uj fu;have jR:=h3.head;clear h3;have mL:=Tryz.mArrL;have mJ:=Tryz.mArrJ;have mH:=Tryz.mArrH
 obtain⟨ty2,gC,b2,rfl,fS⟩:∃ty2 gC b2,nx=.iface ty2 (.pointer (some ⟨b2,0,none⟩))/\ArrFn ty2 gC:=by
  rcases jR with ⟨b2,rfl,_⟩|⟨b2,n2,mf,rfl,_⟩|⟨b2,n2,mf,rfl,_⟩
  ·exact⟨_,_,b2,rfl,.inl ⟨rfl,rfl⟩⟩
  ·exact⟨_,_,b2,rfl,.inr (.inl ⟨rfl,rfl⟩)⟩
  ·exact⟨_,_,b2,rfl,.inr (.inr ⟨rfl,rfl⟩)⟩
 clear jR;go_enter Tryz.func255,Tryz.ntmps255;go_wp2_with fail
 go_cut [] (fun wx=>∃wy,(w.alloc (.cells #[.pointer p0,.pointer p1,.pointer p2,.pointer p3] 139)).grownBy wy none/\KeepPost b 3 ov (Be n A.length tv lv ov fv (.iface ty2 (.pointer (some ⟨b2,0,none⟩)))) (Lk n.c.neg) n.toks t wy wx)
 case first=>
  go_region_with (go_at_call 242;refine(hS1 _ (by repeat (first|exact AD _ _|apply Ah))).mono ?_;rintro e1 w1⟨rfl,mF⟩)
  all_goals
   go_wp2_with fail;go_meet
   exact⟨_,by repeat (first|exact AD _ _|apply Ah),mF⟩
 case rest=>
  obtain⟨wy,jS,dX⟩:=hcut;have hh:=Aa HH;have ai:=Ab (Aa eF) jS;obtain⟨fZ,bB,af⟩:=Rq hh (Aa HT) ai dX;have dM:SufAt (Cj U w (5+3*q)) ru jn (q+1) (A.length+1) ns e (.iface ty2 (.pointer (some ⟨b2,0,none⟩))) wc:=(Aa H3).keep af (fun i hi hx=>by omega) (fun i hi _=>Ak hi)
  have bZ:wc.heap[w.heap.size]?=some (.cells #[.pointer p0,.pointer p1,.pointer p2,.pointer p3] 139 (0,0)):=by
   obtain⟨v',_,_,k3,_⟩:=dX;have h1:wy.heap[w.heap.size]?=some (.cells #[.pointer p0,.pointer p1,.pointer p2,.pointer p3] 139 (0,0)):=by rw[jS.block _ (Af (Aa cX)) (by simp)];exact Aa cX
   refine k3.blk h1 ?_;rintro(h2|h2)
   ·have:=Af hh.blk;omega
   ·have:=(hh.toks.1.own _ h2).2;omega
  have c4:=bB.cell 4 (by omega);have hc4:wc.cell? ⟨b,4,none⟩=some (.slice fa n.K.length xX):=by rw[c4];simp[Aa SA]
  have HF:=Ac (show NodeAt (Cj U w (5+3*q)) q A.length b { n with toks:=n.toks++[t] } (.iface ty2 (.pointer (some ⟨b2,0,none⟩))) tv lv fZ fv wc/\SufAt (Cj U w (5+3*q)) ru jn (q+1) (A.length+1) (arr ns e (Dc n t 0)).1 (arr ns e (Dc n t 0)).2 (.iface ty2 (.pointer (some ⟨b2,0,none⟩))) wc/\GrS (fun i=>4+3*q<=U i/\U i<7+3*(q+ns.length+1)) w wc/\(∀i,i<w.heap.size->Cj U w (5+3*q) i=U i)/\Cj U w (5+3*q) w.heap.size=5+3*q/\wc.heap[w.heap.size]?=some (.cells #[.pointer p0,.pointer p1,.pointer p2,.pointer p3] 139 (0,0)) from
   ⟨bB,by unfold Dc arr;simp only[FR,IZ,KU];rw[Et];exact dM,af.mono (fun i hi=>by omega),fun i hi=>Ak hi,Bi (AW _),bZ⟩)
  clear hS1 jS dX ai bB af dM bZ hh c4;go_wp2;clear hc4;go_loopw [18] (fun x w'=>∃j:Nat,j<=n.K.length/\x=.int .i64 j/\Hid (∃Ux,NodeAt Ux q A.length b { n with toks:=n.toks++[t] } (.iface ty2 (.pointer (some ⟨b2,0,none⟩))) tv lv fZ fv w'/\SufAt Ux ru jn (q+1) (A.length+1) (arr ns e (Dc n t j)).1 (arr ns e (Dc n t j)).2 (.iface ty2 (.pointer (some ⟨b2,0,none⟩))) w'/\GrS (fun i=>4+3*q<=U i/\U i<7+3*(q+ns.length+1)) w w'/\(∀i,i<w.heap.size->Ux i=U i)/\Ux w.heap.size=5+3*q/\w'.heap[w.heap.size]?=some (.cells #[.pointer p0,.pointer p1,.pointer p2,.pointer p3] 139 (0,0)))) (fun x _=>n.K.length-(intOf x).toNat)
  case atStart=>exact⟨0,AG _,rfl,Ac ⟨_,Aa HF⟩⟩
  case round=>
   clear HF;obtain⟨j,hj,rfl,HK⟩:=hrel;obtain⟨Ux,x1,x2,x3,x4,x5,x6⟩:=Aa HK;clear HK;by_cases hlt:j<n.K.length
   ·have hd:decide (j<n.K.length)=true:=by simpa using hlt
    obtain⟨f,hf⟩:∃f,n.K[j]?=some f:=⟨_,AB hlt⟩
    obtain⟨g,cap',e1,c0⟩:=FsAt.cell x1.facts.1 hf;rw[Aa SA] at e1;simp only[AH,BP] at e1;obtain⟨rfl,rfl⟩:=e1;have j9:=AV hf;have dH:=S3 (n:=n) (t:=t) hf;have dG:∀g∈t,FtAt Ux g wr:=fun g hg=>x1.tfs t (AY.2 (.inr (AX.2 rfl))) g hg
    obtain⟨w1,w2,w3,w4⟩:=Aa HW;have wT:(A++[n.c.terms.length]).length=A.length+1:=by simp
    have hlen:(arr ns e (Dc n t j)).1.length=ns.length:=Cs _ _ _ _
    have dS:Ck n.links t f.f=true->∀wx,wr.grownBy wx none->Calls Tryz.prog gC #[.pointer (some ⟨b2,0,none⟩),Bu (t++[f])] wx fun e' w'=>e'=.returned (.tuple #[])/\Dq Ux ru jn (q+1) (A.length+1) (arr ns e (Dc n t j)).1 (arr ns e (Dc n t j)).2 (.iface ty2 (.pointer (some ⟨b2,0,none⟩))) [t++[f]] wx w':=by
     intro ah wx hgx;rw[AQ ah] at dH;have hu:HasAr (A++[n.c.terms.length]) (t++[f]):=w4 (j+1) _ (by rw[dH];simp)
     have hsm:Small 1000000000 (arr (arr ns e (Dc n t j)).1 (arr ns e (Dc n t j)).2 [t++[f]]).1 (arr (arr ns e (Dc n t j)).1 (arr ns e (Dc n t j)).2 [t++[f]]).2:=by
      obtain⟨Y,hY⟩:=Wz n t (j+1);rw[hY] at w3;have:=w3.part;rw[dH] at this;unfold arr at this⊢;rw[Cy] at this;exact this
     have:=ih (arr ns e (Dc n t j)).1 (A++[n.c.terms.length]) (q+1) b2 ty2 gC Ux (arr ns e (Dc n t j)).2 (t++[f]) wx (by rw[hlen];exact hm) fS (by rw[wT];exact x2.gr hgx) (w1.arr (w4 j)) hu (fun g hg=>by
      rcases AY.1 hg with hg|hg
      ·exact(dG g hg).gr hgx
      ·simp only[AX] at hg
       subst hg;exact(x1.fts g j9).gr hgx) (M8 w1 (w4 j) (Aa HE)) hsm
     rw[wT] at this;exact this
    have hP:=Q0y Ux q A.length b { n with toks:=n.toks++[t] } ty2 gC b2 tv lv fZ fv t f wr (fun wx w'=>Dq Ux ru jn (q+1) (A.length+1) (arr ns e (Dc n t j)).1 (arr ns e (Dc n t j)).2 (.iface ty2 (.pointer (some ⟨b2,0,none⟩))) [t++[f]] wx w') fS x1 aJ w2.len vM (x1.fts f j9) dG (Aa eV f j9) dS;rw[Aa vV] at hP;have n0:wr.cell? ⟨w.heap.size,0,none⟩=some (.pointer p0):=by simp[World.cell?,x6]
    have n1:wr.cell? ⟨w.heap.size,1,none⟩=some (.pointer p1):=by simp[World.cell?,x6]
    have n2:wr.cell? ⟨w.heap.size,2,none⟩=some (.pointer p2):=by simp[World.cell?,x6]
    have n3:wr.cell? ⟨w.heap.size,3,none⟩=some (.pointer p3):=by simp[World.cell?,x6]
    unfold Ei at hP;obtain⟨r,hr⟩:∃r,Ck n.links t f.f=r:=⟨_,rfl⟩
    have tD:Calls Tryz.prog 137 #[.pointer (some ⟨b,0,none⟩),.agg #[.pointer p0,.pointer p1,.pointer p2,.pointer p3],.pointer (some ⟨f.blk,0,none⟩)] wr fun e' w'=>e'=.returned (.tuple #[])/\Na r (fun wx w'=>Dq Ux ru jn (q+1) (A.length+1) (arr ns e (Dc n t j)).1 (arr ns e (Dc n t j)).2 (.iface ty2 (.pointer (some ⟨b2,0,none⟩))) [t++[f]] wx w') wr w':=by rw[<-hr];exact hP
    rw[hr] at dH;have HX:=Ac (show _/\_/\_/\_/\_/\_/\_/\_ from⟨x1,x2,x3,x4,x5,x6,dH,hlen⟩);clear hP dS x1 x2 x3 x4 x5 x6 dH hlen dG w1 w2 w3 w4 wT hf hr;go_wp2_with fail;refine tD.mono ?_;rintro e1 w7⟨rfl,tC⟩;have fX:=Ac tC;clear tD tC n0 n1 n2 n3 c0
    have HK:Hid (∃Uy,NodeAt Uy q A.length b { n with toks:=n.toks++[t] } (.iface ty2 (.pointer (some ⟨b2,0,none⟩))) tv lv fZ fv w7/\SufAt Uy ru jn (q+1) (A.length+1) (arr ns e (Dc n t (j+1))).1 (arr ns e (Dc n t (j+1))).2 (.iface ty2 (.pointer (some ⟨b2,0,none⟩))) w7/\GrS (fun i=>4+3*q<=U i/\U i<7+3*(q+ns.length+1)) w w7/\(∀i,i<w.heap.size->Uy i=U i)/\Uy w.heap.size=5+3*q/\w7.heap[w.heap.size]?=some (.cells #[.pointer p0,.pointer p1,.pointer p2,.pointer p3] 139 (0,0))):=by
     refine Ac ?_;obtain⟨x1,x2,x3,x4,x5,x6,dH,hlen⟩:=Aa HX;rcases Aa fX with ⟨rfl,wx,hgx,gZ⟩|⟨rfl,hgx⟩
     ·rw[AQ rfl] at dH
      obtain⟨Uy,y1,y2,y3,y4,y5⟩:=Lv (U:=U) x1 (by rw[hlen];exact x3) x4 hgx gZ;rw[hlen] at y3;refine⟨Uy,y1,?_,y3,y4,?_,?_⟩
      ·rw[dH]
       unfold arr at y2⊢;rw[Cy];exact y2
      ·rw[y5 _ (Af x6)];exact x5
      ·obtain⟨_,_,s2,_⟩:=gZ
       refine s2.blk (by rw[hgx.block _ (Af x6) (by simp)];exact x6) ?_;unfold An;omega
     ·rw[AO (by simp),BM] at dH
      rw[dH];exact⟨Ux,x1.keep (S:=fun _=>False) (GrS.of hgx (by simp)) (by simp) (fun _ _ _=>rfl),x2.gr hgx,x3.then hgx (by simp),x4,x5,by rw[hgx.block _ (Af x6) (by simp)];exact x6⟩
    clear HX fX;go_wp2;go_roundw
    case rel=>exact⟨j+1,by omega,by go_num,HK⟩
    case measure=>simp[intOf];omega
   ·have hd:decide (j<n.K.length)=false:=by simpa using hlt
    have oy:j=n.K.length:=by omega
    subst oy;have HF:=Ac (show _/\_/\_/\_ from⟨x1,x2,x3,x4⟩);clear x1 x2 x3 x4 x5 x6;go_wp2;go_end0
    obtain⟨x1,x2,x3,x4⟩:=Aa HF;refine⟨rfl,Ux,?_,x3.mono (fun i hi=>by unfold An;rw[AP];omega),x4⟩;rw[Fr,Pb aJ];exact⟨b,_,tv,lv,fZ,fv,by unfold C9;rw[AO (by simp[aJ])],x1,by rw[AO (by simp[aJ])];exact x2⟩
theorem Ul(ru jn:Nat):∀m,Q0j ru jn m
 | 0=>Q34 ru jn
 | m+1=>by
  intro ns A q b ty fn U e t w hm hfn h hW hA ht he hS;cases ns with
  | nil=>simp at hm
  | cons n ns=>
   have gz:ns.length=m:=by simpa using hm
   have h0:=h;obtain⟨b',nx,tv,lv,ov,fv,h1,_⟩:=h0;simp only[DN,DG,AE,BK,BX] at h1;obtain⟨iz,rfl⟩:=h1;unfold C9 at iz;cases hn:n.c.neg with
   | true=>
    rw[hn,AQ rfl] at iz;subst iz
    have hf:fn=257:=by
     rcases hfn with ⟨h,_⟩|⟨_,h⟩|⟨h,_⟩
     ·exact absurd h (by decide)
     ·exact h
     ·exact absurd h (by decide)
    subst hf;exact X7 ru jn m (Ul ru jn m) U A q b n ns e t w gz hn h hW hA ht he hS
   | false=>
    rw[hn,AO (by simp)] at iz;subst iz
    have hf:fn=255:=by
     rcases hfn with ⟨h,_⟩|⟨h,_⟩|⟨_,h⟩
     ·exact absurd h (by decide)
     ·exact absurd h (by decide)
     ·exact h
    subst hf;exact Vw ru jn m (Ul ru jn m) U A q b n ns e t w gz hn h hW hA ht he hS
def Gw(n:Nd)(f:Ft)(j:Nat):List Tok:=((n.toks.take j).filter (fun t=>Ck n.links t f.f)).map (fun t=>t++[f])
theorem Vb(h:n.toks[j]?=some t):Gw n f (j+1)=Gw n f j++(if Ck n.links t f.f=true then [t++[f]] else []):=by
 unfold Gw;rw[Cw _ h,CA];congr 1
 split<;>rfl
theorem Zj(n:Nd)(f:Ft)(j:Nat):∃Y,Gw n f n.toks.length=Gw n f j++Y:=by
 refine⟨((n.toks.drop j).filter (fun t=>Ck n.links t f.f)).map (fun t=>t++[f]),?_⟩;unfold Gw;rw[CX,<-CA,<-DK,DL]
theorem Q12(h:WF A (n::ns))(hf:f.f.vals.length=n.c.terms.length)(j:Nat):∀u∈Gw n f j,HasAr (A++[n.c.terms.length]) u:=by
 intro u hu;obtain⟨t,hg,rfl⟩:=CL.1 hu;rw[<-hf];exact(h.2.2.2.1 t (EI (BH.1 hg).1)).snoc f
theorem Ji{c:Sv.Cond}{f:Sv.Fact}(h:Ia c f=true):f.vals.length=c.terms.length:=by
 unfold Ia at h;simp only[EC,beq_iff_eq] at h;exact h.1.2
theorem N9(h:NodeAt U q k b n nx tv lv ov fv w)(hf:FtAt U f w)(hg:w.grownBy wx none)(hk:Hm b fv (Be n k tv lv ov fv nx) (Lk n.c.neg) n.K f wx w1) :
  ∃ag,NodeAt (Cj U w (6+3*q)) q k b { n with K:=n.K++[f] } nx tv lv ov ag w1/\GrS (fun i=>U i=4+3*q\/U i=6+3*q) w w1:=by
 obtain⟨ag,k1,k2,k3',k4'⟩:=hk;have k3:GrS (fun i=>i=b\/fv.ownBlock=some i) w w1:=(GrS.of hg (by simp)).trans k3';have k4:∀g,ag.ownBlock=some g->fv.ownBlock=some g\/w.heap.size<=g:=fun g hx=>by rcases k4' g hx with h|h;exact .inl h;exact .inr (AU hg.size h)
 rw[I4 (n:=n) (n':={ n with K:=n.K++[f] }) rfl] at k1
 have hsm:∀i,(i=b\/fv.ownBlock=some i)->U i=4+3*q\/U i=6+3*q:=by
  rintro i (rfl|hx)
  ·exact .inl h.own
  ·exact .inr (h.facts.2 i hx)
 have hs:∀i,U i=1\/U i=5+3*q->¬ (i=b\/fv.ownBlock=some i):=fun i hi hx=>by have:=hsm i hx;omega
 have ho:∀c i,i<w.heap.size->U i=c->Cj U w (6+3*q) i=c:=fun c i hi hx=>by rw[Ak hi];exact hx
 have hF:∀g,FtAt U g w->FtAt (Cj U w (6+3*q)) g w1:=fun g hg=>hg.keep k3 (fun i hi=>hs i (.inl hi)) (ho 1)
 refine⟨ag,⟨k1,ho _ b (Af h.blk) h.own,h.terms.keep2 k3 (fun i hi=>hs i (.inl hi)) (ho 1),h.links.keep2 k3 (fun i hi=>hs i (.inl hi)) (ho 1),h.toks.keep2 k3 (fun i hi=>hs i (.inr hi)) (ho _),⟨k2,Jp h.facts.2 (fun g hx=>(h.facts.1.own g hx).2) k4⟩,?_,fun t ht g hg=>hF g (h.tfs t ht g hg),h.short,fun i hi=>by rw[Ak (GD hi (Af h.blk))];exact h.low i hi⟩,k3.mono hsm⟩;intro g hg;rcases AY.1 hg with hg|hg
 ·exact hF g (h.fts g hg)
 ·simp only[AX] at hg
  subst hg;exact hF g hf
def Qi(U:Nat->Nat)(ru jn q k:Nat)(n:Nd)(ns:List Nd)(e:En)(hd:Value)(f:Ft)(w w':World):Prop:=
 ∃U',SufAt U' ru jn q k ((Aq f n ns e).1::(Aq f n ns e).2.1) (Aq f n ns e).2.2 hd w'/\GrS (fun i=>4+3*q<=U i/\U i<7+3*(q+ns.length+1)) w w'/\∀i,i<w.heap.size->U' i=U i
theorem Ze(ru jn:Nat)(U:Nat->Nat)(A:List Nat)(q b:Nat)(n:Nd)(ns:List Nd)(e:En)(f:Ft)(w:World)(aJ:n.c.neg=false)(h:SufAt U ru jn q A.length (n::ns) e (.iface 208 (.pointer (some ⟨b,0,none⟩))) w)(hW:WF A (n::ns))(hf:FtAt U f w)(he:∀x∈e.wait,x.length<=4)(vG:n.K.length<=1000000000)
 (hS:Small 1000000000 (Aq f n ns e).2.1 (Aq f n ns e).2.2) :
  Calls Tryz.prog 102 #[.pointer (some ⟨b,0,none⟩),Ei f] w fun e' w'=>e'=.returned (.tuple #[])/\Qi U ru jn q A.length n ns e (.iface 208 (.pointer (some ⟨b,0,none⟩))) f w w':=by
 have h0:=h;obtain⟨b',nx,tv,lv,ov,fv,h1,h2,h3⟩:=h;simp only[DN,DG,AE,BK,BX] at h1;obtain⟨iz,rfl⟩:=h1;clear iz;have bz:fv.ownBlock≠some b:=fun hx=>by have:=h2.facts.2 b hx;have:=h2.own;omega
 by_cases ew:Ia n.c f.f=true
 ·have jY:=Pi U b fv (Be n A.length tv lv ov fv nx) (Lk n.c.neg) n.c n.links n.K f w h2.blk Cg.2.1 h2.facts.1 bz vG h2.cd hf ew
  have hadd:Aq f n ns e=({ n with K:=n.K++[f] },arr ns e (Gw n f n.toks.length)):=by
   unfold Aq Gw;rw[AQ ew,AO (by simp[aJ]),CX]
  rw[hadd] at hS;have cH:=Ji ew;have iX:=hW.2.2.2.2;rw[AO (by simp[aJ])] at iX h3;have ah:=fun t (ht:t∈n.toks)=>hW.fit (hW.2.2.2.1 t ht) (f:=f) cH
  have l4:=fun t (ht:t∈n.toks)=>(hW.2.2.2.1 t ht).len
  have uj:=fun j=>Q12 hW cH j
  have vM:A.length<4:=by have:=hW.1;rw[AO (by simp[aJ])] at this;omega
  have VU:=h2.toks.1.le;unfold maxLen at VU;obtain⟨ta,ve,si⟩:=h2.toks.1.slice;have HH:=Ac h2;have H3:=Ac h3;have HE:=Ac he;have xp:=Ac hf;have iu:=Ac hadd;have OS:=Ac si;have HW:=Ac (show WF (A++[n.c.terms.length]) ns/\Small 1000000000 (arr ns e (Gw n f n.toks.length)).1 (arr ns e (Gw n f n.toks.length)).2/\(∀j,∀u∈Gw n f j,HasAr (A++[n.c.terms.length]) u)/\(∀t∈n.toks,t.length=A.length) from⟨iX,hS,uj,l4⟩);have eV:=Ac ah;clear h0 h2 he hW hS iX ah uj l4 hadd hf cH ew si;have jR:=h3.head;clear h3
  obtain⟨ty2,gC,b2,rfl,fS⟩:∃ty2 gC b2,nx=.iface ty2 (.pointer (some ⟨b2,0,none⟩))/\ArrFn ty2 gC:=by
   rcases jR with ⟨b2,rfl,_⟩|⟨b2,n2,mf,rfl,_⟩|⟨b2,n2,mf,rfl,_⟩
   ·exact⟨_,_,b2,rfl,.inl ⟨rfl,rfl⟩⟩
   ·exact⟨_,_,b2,rfl,.inr (.inl ⟨rfl,rfl⟩)⟩
   ·exact⟨_,_,b2,rfl,.inr (.inr ⟨rfl,rfl⟩)⟩
  clear jR;unfold Ei at jY⊢;go_enter Tryz.func102,Tryz.ntmps102;go_wp2_with fail;refine jY.mono ?_;rintro e1 wc⟨rfl,dX⟩;have hh:=Aa HH;obtain⟨ag,bB,af⟩:=N9 hh (Aa xp) (AD w none) dX;have dM:SufAt (Cj U w (6+3*q)) ru jn (q+1) (A.length+1) ns e (.iface ty2 (.pointer (some ⟨b2,0,none⟩))) wc:=(Aa H3).keep af (fun i hi hx=>by omega) (fun i hi _=>Ak hi);have c3:=bB.cell 3 (by omega);have hc3:wc.cell? ⟨b,3,none⟩=some (.slice ta n.toks.length ve):=by rw[c3];simp[Aa OS]
  have HF:=Ac (show NodeAt (Cj U w (6+3*q)) q A.length b { n with K:=n.K++[f] } (.iface ty2 (.pointer (some ⟨b2,0,none⟩))) tv lv ov ag wc/\SufAt (Cj U w (6+3*q)) ru jn (q+1) (A.length+1) (arr ns e (Gw n f 0)).1 (arr ns e (Gw n f 0)).2 (.iface ty2 (.pointer (some ⟨b2,0,none⟩))) wc/\GrS (fun i=>4+3*q<=U i/\U i<7+3*(q+ns.length+1)) w wc/\(∀i,i<w.heap.size->Cj U w (6+3*q) i=U i) from
   ⟨bB,by unfold Gw arr;simp only[FR,IZ,KU];rw[Et];exact dM,af.mono (fun i hi=>by omega),fun i hi=>Ak hi⟩)
  clear jY dX bB af dM hh c3;go_wp2;clear hc3;go_loopw [19] (fun x w'=>∃j:Nat,j<=n.toks.length/\x=.int .i64 j/\Hid (∃Ux,NodeAt Ux q A.length b { n with K:=n.K++[f] } (.iface ty2 (.pointer (some ⟨b2,0,none⟩))) tv lv ov ag w'/\SufAt Ux ru jn (q+1) (A.length+1) (arr ns e (Gw n f j)).1 (arr ns e (Gw n f j)).2 (.iface ty2 (.pointer (some ⟨b2,0,none⟩))) w'/\GrS (fun i=>4+3*q<=U i/\U i<7+3*(q+ns.length+1)) w w'/\(∀i,i<w.heap.size->Ux i=U i))) (fun x _=>n.toks.length-(intOf x).toNat)
  case atStart=>exact⟨0,AG _,rfl,Ac ⟨_,Aa HF⟩⟩
  case round=>
   clear HF;obtain⟨j,hj,rfl,HK⟩:=hrel;obtain⟨Ux,x1,x2,x3,x4⟩:=Aa HK;clear HK;by_cases hlt:j<n.toks.length
   ·have hd:decide (j<n.toks.length)=true:=by simpa using hlt
    obtain⟨t,dG⟩:∃t,n.toks[j]?=some t:=⟨_,AB hlt⟩
    obtain⟨p0,p1,p2,p3,hp⟩:=Bb t;have eT:Bu t=.agg #[.pointer p0,.pointer p1,.pointer p2,.pointer p3]:=by unfold Bu;rw[hp]
    obtain⟨g,cap',e1,c0,c1,c2,c3⟩:=Bt x1.toks.1 dG hp;rw[Aa OS] at e1;simp only[AH,BP] at e1;obtain⟨rfl,rfl⟩:=e1;have j9:=AV dG;have dH:=Vb (n:=n) (f:=f) dG;obtain⟨w1,w3,w4,w5⟩:=Aa HW;have wT:(A++[n.c.terms.length]).length=A.length+1:=by simp
    have hlen:(arr ns e (Gw n f j)).1.length=ns.length:=Cs _ _ _ _;have a7:=AA wr (.cells #[.pointer p0,.pointer p1,.pointer p2,.pointer p3] 139) none;have pA:FtAt Ux f wr:=x1.fts f (AY.2 (.inr (AX.2 rfl)))
    have dS:Ck n.links t f.f=true->∀wx,(wr.alloc (.cells #[.pointer p0,.pointer p1,.pointer p2,.pointer p3] 139)).grownBy wx none->Calls Tryz.prog gC #[.pointer (some ⟨b2,0,none⟩),Bu (t++[f])] wx fun e' w'=>e'=.returned (.tuple #[])/\Dq Ux ru jn (q+1) (A.length+1) (arr ns e (Gw n f j)).1 (arr ns e (Gw n f j)).2 (.iface ty2 (.pointer (some ⟨b2,0,none⟩))) [t++[f]] wx w':=by
     intro ah wx nJ;have hgx:=Ab a7 nJ;rw[AQ ah] at dH;have hu:HasAr (A++[n.c.terms.length]) (t++[f]):=w4 (j+1) _ (by rw[dH];simp)
     have hsm:Small 1000000000 (arr (arr ns e (Gw n f j)).1 (arr ns e (Gw n f j)).2 [t++[f]]).1 (arr (arr ns e (Gw n f j)).1 (arr ns e (Gw n f j)).2 [t++[f]]).2:=by
      obtain⟨Y,hY⟩:=Zj n f (j+1);rw[hY] at w3;have:=w3.part;rw[dH] at this;unfold arr at this⊢;rw[Cy] at this;exact this
     have:=Ul ru jn ns.length (arr ns e (Gw n f j)).1 (A++[n.c.terms.length]) (q+1) b2 ty2 gC Ux (arr ns e (Gw n f j)).2 (t++[f]) wx hlen fS (by rw[wT];exact x2.gr hgx) (w1.arr (w4 j)) hu (fun g hg=>by
      rcases AY.1 hg with hg|hg
      ·exact(x1.tfs t j9 g hg).gr hgx
      ·simp only[AX] at hg
       subst hg;exact pA.gr hgx) (M8 w1 (w4 j) (Aa HE)) hsm
     rw[wT] at this;exact this
    have YE:NodeAt Ux q A.length b { n with K:=n.K++[f] } (.iface ty2 (.pointer (some ⟨b2,0,none⟩))) tv lv ov ag (wr.alloc (.cells #[.pointer p0,.pointer p1,.pointer p2,.pointer p3] 139)):=x1.keep (S:=fun _=>False) (GrS.of a7 (by simp)) (by simp) (fun _ _ _=>rfl);have hP:=Q0y Ux q A.length b { n with K:=n.K++[f] } ty2 gC b2 tv lv ov ag t f (wr.alloc (.cells #[.pointer p0,.pointer p1,.pointer p2,.pointer p3] 139)) (fun wx w'=>Dq Ux ru jn (q+1) (A.length+1) (arr ns e (Gw n f j)).1 (arr ns e (Gw n f j)).2 (.iface ty2 (.pointer (some ⟨b2,0,none⟩))) [t++[f]] wx w') fS YE aJ (w5 t j9) vM (pA.gr a7) (fun g hg=>(x1.tfs t j9 g hg).gr a7) (Aa eV t j9) dS;rw[eT] at hP;unfold Ei at hP;obtain⟨r,hr⟩:∃r,Ck n.links t f.f=r:=⟨_,rfl⟩
    have tD:Calls Tryz.prog 137 #[.pointer (some ⟨b,0,none⟩),.agg #[.pointer p0,.pointer p1,.pointer p2,.pointer p3],.pointer (some ⟨f.blk,0,none⟩)] (wr.alloc (.cells #[.pointer p0,.pointer p1,.pointer p2,.pointer p3] 139)) fun e' w'=>e'=.returned (.tuple #[])/\Na r (fun wx w'=>Dq Ux ru jn (q+1) (A.length+1) (arr ns e (Gw n f j)).1 (arr ns e (Gw n f j)).2 (.iface ty2 (.pointer (some ⟨b2,0,none⟩))) [t++[f]] wx w') (wr.alloc (.cells #[.pointer p0,.pointer p1,.pointer p2,.pointer p3] 139)) w':=by rw[<-hr];exact hP
    rw[hr] at dH;have HX:=Ac (show _/\_/\_/\_/\_/\_/\_ from⟨x1,x2,x3,x4,dH,hlen,a7⟩);clear hP dS x1 x2 x3 x4 dH hlen w1 w3 w4 w5 wT dG hr YE pA a7 eT hp;go_wp2_with fail;refine tD.mono ?_;rintro e1 w7⟨rfl,tC⟩;have fX:=Ac tC;clear tD tC c0 c1 c2 c3
    have HK:Hid (∃Uy,NodeAt Uy q A.length b { n with K:=n.K++[f] } (.iface ty2 (.pointer (some ⟨b2,0,none⟩))) tv lv ov ag w7/\SufAt Uy ru jn (q+1) (A.length+1) (arr ns e (Gw n f (j+1))).1 (arr ns e (Gw n f (j+1))).2 (.iface ty2 (.pointer (some ⟨b2,0,none⟩))) w7/\GrS (fun i=>4+3*q<=U i/\U i<7+3*(q+ns.length+1)) w w7/\(∀i,i<w.heap.size->Uy i=U i)):=by
     refine Ac ?_;obtain⟨x1,x2,x3,x4,dH,hlen,a7⟩:=Aa HX;rcases Aa fX with ⟨rfl,wx,nJ,gZ⟩|⟨rfl,nJ⟩
     ·have hgx:=Ab a7 nJ
      rw[AQ rfl] at dH;obtain⟨Uy,y1,y2,y3,y4,y5⟩:=Lv (U:=U) x1 (by rw[hlen];exact x3) x4 hgx gZ;rw[hlen] at y3;refine⟨Uy,y1,?_,y3,y4⟩;rw[dH];unfold arr at y2⊢;rw[Cy];exact y2
     ·have hgx:=Ab a7 nJ
      rw[AO (by simp),BM] at dH;rw[dH];exact⟨Ux,x1.keep (S:=fun _=>False) (GrS.of hgx (by simp)) (by simp) (fun _ _ _=>rfl),x2.gr hgx,x3.then hgx (by simp),x4⟩
    clear HX fX;go_wp2;go_roundw
    case rel=>exact⟨j+1,by omega,by go_num,HK⟩
    case measure=>simp[intOf];omega
   ·have hd:decide (j<n.toks.length)=false:=by simpa using hlt
    have oy:j=n.toks.length:=by omega
    subst oy;have HF:=Ac (show _/\_/\_/\_ from⟨x1,x2,x3,x4⟩);clear x1 x2 x3 x4;go_wp2;go_end0
    obtain⟨x1,x2,x3,x4⟩:=Aa HF;refine⟨rfl,Ux,?_,x3,x4⟩;rw[Aa iu];exact⟨b,_,tv,lv,ov,ag,by unfold C9;rw[AO (by simp[aJ])],x1,by rw[AO (by simp[aJ])];exact x2⟩
 ·have jm:Ia n.c f.f=false:=by simpa using ew
  have jY:=Re U b n.c n.links f w h2.cd hf jm;have hadd:Aq f n ns e=(n,(ns,e)):=by unfold Aq;rw[AO ew]
  have iu:=Ac hadd;have H0:=Ac h0;clear h0 h2 h3 he hW hS hadd hf ew jm;unfold Ei at jY⊢;go_enter Tryz.func102,Tryz.ntmps102;go_wp2_with fail;refine jY.mono ?_;rintro e1 wc⟨rfl,hg1⟩;clear jY;go_wp2;refine BN (v:=.tuple #[]) (by simp[results,Tryz.results102]) rfl ?_;refine⟨rfl,U,?_,GrS.of hg1 (by simp),fun _ _=>rfl⟩;rw[Aa iu];exact(Aa H0).gr hg1
def Hg:List Nat->List Nd->List Nat
 | A,[]=>A
 | A,n::ns=>Hg (if n.c.neg=true then A else A++[n.c.terms.length]) ns
def EndOk(A:List Nat)(ns:List Nd)(e:En):Prop:=(∀t∈e.toks,HasAr (Hg A ns) t)/\∀t∈e.wait,HasAr (Hg A ns) t
def Begins(A:List Nat)(t:Tok):Prop:=∃A',HasAr (A++A') t/\t.length<=4
theorem Rr:∀ {ns:List Nd} {A:List Nat},WF A ns->(Hg A ns).length<=4
 | [],_,h=>h
 | _::ns,_,h=>Rr (ns:=ns) h.2.2.2.2
theorem Begins.of{B:List Nat}(h:Begins B t)(hp:∃A',B=A++A'):Begins A t:=by
 obtain⟨A',rfl⟩:=hp;obtain⟨C,h1,h2⟩:=h;exact⟨A'++C,by rw[<-BQ];exact h1,h2⟩
theorem Xr:∀ {ns:List Nd} {A:List Nat} {e:En},WF A ns->EndOk A ns e->Q38 (Begins A) ns e
 | [],A,e,h,he=>⟨by simp,fun t ht=>⟨[],by rw[BM];exact he.1 t ht,by rw[(he.1 t ht).len];exact h⟩,fun t ht=>⟨[],by rw[BM];exact he.2 t ht,by rw[(he.2 t ht).len];exact h⟩⟩
 | n::ns,A,e,h,he=>by
  obtain⟨i1,i2,i3⟩:=Xr (ns:=ns) (e:=e) h.2.2.2.2 he
  have hp:∃A',(if n.c.neg=true then A else A++[n.c.terms.length])=A++A':=by
   split
   ·exact⟨[],by simp⟩
   ·exact⟨_,rfl⟩
  refine⟨fun m hm t ht=>?_,fun t ht=>(i2 t ht).of hp,fun t ht=>(i3 t ht).of hp⟩;rcases CR.1 hm with rfl|hm
  ·exact⟨[],by rw[BM];exact h.2.2.2.1 t ht,by rw[(h.2.2.2.1 t ht).len];exact h.le⟩
  ·exact(i1 m hm t ht).of hp
theorem Begins.fit(h:WF A (n::ns))(ht:Begins A t)(hf:f.f.vals.length=n.c.terms.length):∀l∈n.links,l.place<f.f.vals.length/\∃g,t[l.at'.fact]?=some g/\l.at'.place<g.f.vals.length:=by
 intro l hl;obtain⟨A',h1,_⟩:=ht;obtain⟨k1,a,k2,k3⟩:=h.2.1 l hl;have hi:=(AL.1 k2).1;obtain⟨g,hg,he⟩:=h1.get (i:=l.at'.fact) (a:=a) (by rw[CN hi];exact k2);exact⟨by rw[hf];exact k1,g,hg,by rw[he];exact k3⟩
theorem Tryz.enters2:∀args w,(callFunc 138 args).run Tryz.prog w=.ok (.enter 138 args) w:=enters_of Tryz.func138 (by kernel_rfl) rfl
theorem Q0n(U:Nat->Nat)(q k b:Nat)(n:Nd)(nx tv lv ov fv:Value)(t:Tok)(f:Ft)(h1 h2:Nat)(w:World)(h:NodeAt U q k b n nx tv lv ov fv w)(hf:FtAt U f w)(di:t.length<=4)(ht:∀g∈t,FtAt U g w)
 (hl:∀l∈n.links,l.place<f.f.vals.length/\∃g,t[l.at'.fact]?=some g/\l.at'.place<g.f.vals.length)
 (c1:w.cell? ⟨h1,0,none⟩=some (.pointer (some ⟨b,0,none⟩)))(c2:w.cell? ⟨h2,0,none⟩=some (.pointer (some ⟨f.blk,0,none⟩))) :
  Calls Tryz.prog 138 #[Bu t,.pointer (some ⟨h1,0,none⟩),.pointer (some ⟨h2,0,none⟩)] w fun e w'=>e=.returned (.bool (Ck n.links t f.f))/\w.grownBy w' none:=by
 obtain⟨p0,p1,p2,p3,hp⟩:=Bb t;have eT:Bu t=.agg #[.pointer p0,.pointer p1,.pointer p2,.pointer p3]:=by unfold Bu;rw[hp]
 have a7:=AA w (.cells #[.pointer p0,.pointer p1,.pointer p2,.pointer p3] 139) none;have c1':=a7.cell c1 (by simp);have c2':=a7.cell c2 (by simp)
 have hS:∀wy,w.grownBy wy none->Calls Tryz.prog 139 #[.pointer (some ⟨b,0,none⟩),.agg #[.pointer p0,.pointer p1,.pointer p2,.pointer p3],.pointer (some ⟨f.blk,0,none⟩)] wy fun e w'=>e=.returned (.bool (Ck n.links t f.f))/\wy.grownBy w' none:=by
  intro wy aw;have:=Gn U b n.c n.links t f wy (h.cd.gr aw) (hf.gr aw) (fun g cV=>(ht g cV).gr aw) di hl;rw[eT] at this;exact this
 rw[eT];clear h hf ht hl hp eT c1 c2;go_enter Tryz.func138,Tryz.ntmps138;go_wp2_with fail
 go_region_with (go_at_call 139;refine(hS _ (by repeat (first|exact a7|apply Ah))).mono ?_;rintro e w2⟨rfl,hg2⟩)
 all_goals
  go_wp2;go_ret;exact⟨rfl,Ab (by repeat (first|exact a7|apply Ah)) hg2⟩
theorem Q1g(ru jn:Nat)(U:Nat->Nat)(A:List Nat)(q b:Nat)(n:Nd)(ns:List Nd)(e:En)(f:Ft)(w:World)(aJ:n.c.neg=true)(h:SufAt U ru jn q A.length (n::ns) e (.iface 209 (.pointer (some ⟨b,0,none⟩))) w)(hW:WF A (n::ns))(NN:EndOk A (n::ns) e)(hf:FtAt U f w)(vG:n.K.length<=1000000000)(hwl:e.wait.length<=1000000000) :
  Calls Tryz.prog 103 #[.pointer (some ⟨b,0,none⟩),Ei f] w fun e' w'=>e'=.returned (.tuple #[])/\Qi U ru jn q A.length n ns e (.iface 209 (.pointer (some ⟨b,0,none⟩))) f w w':=by
 have h0:=h;obtain⟨b',nx,tv,lv,ov,fv,h1,h2,h3⟩:=h;simp only[DN,DG,AE,BK,BX] at h1;obtain⟨iz,rfl⟩:=h1;clear iz;rw[AQ aJ] at h3;have bz:fv.ownBlock≠some b:=fun hx=>by have:=h2.facts.2 b hx;have:=h2.own;omega
 have a7:=Dp w (.cells #[.pointer (some ⟨b,0,none⟩)] 209) (.cells #[.pointer (some ⟨f.blk,0,none⟩)] 90);have hx1:((w.alloc (.cells #[.pointer (some ⟨b,0,none⟩)] 209)).alloc (.cells #[.pointer (some ⟨f.blk,0,none⟩)] 90)).heap[w.heap.size]?=some (.cells #[.pointer (some ⟨b,0,none⟩)] 209 (0,0)):=by rw[DF _ _ _ (by simp)];exact AR _ _
 have hx2:((w.alloc (.cells #[.pointer (some ⟨b,0,none⟩)] 209)).alloc (.cells #[.pointer (some ⟨f.blk,0,none⟩)] 90)).heap[w.heap.size+1]?=some (.cells #[.pointer (some ⟨f.blk,0,none⟩)] 90 (0,0)):=by
  have:=AR (w.alloc (.cells #[.pointer (some ⟨b,0,none⟩)] 209)) (.cells #[.pointer (some ⟨f.blk,0,none⟩)] 90);simpa using this
 by_cases ew:Ia n.c f.f=true
 ·have jY:∀wx,((w.alloc (.cells #[.pointer (some ⟨b,0,none⟩)] 209)).alloc (.cells #[.pointer (some ⟨f.blk,0,none⟩)] 90)).grownBy wx none->Calls Tryz.prog 136 #[.pointer (some ⟨b,0,none⟩),.pointer (some ⟨f.blk,0,none⟩)] wx fun e' w'=>e'=.returned (.bool true)/\Hm b fv (Be n A.length tv lv ov fv nx) (Lk n.c.neg) n.K f wx w':=by
   intro wx hg;have aw:=Ab a7 hg;exact Pi U b fv (Be n A.length tv lv ov fv nx) (Lk n.c.neg) n.c n.links n.K f wx (by rw[aw.block b (Af h2.blk) (by simp)];exact h2.blk) Cg.2.1 (h2.facts.1.gr aw) bz vG (h2.cd.gr aw) (hf.gr aw) ew
  have hadd:Aq f n ns e=({ n with K:=n.K++[f] },(ns.map (Nd.drop (fun t=>Ck n.links t f.f)),e.drop (fun t=>Ck n.links t f.f))):=by
   unfold Aq;rw[AQ ew,AQ aJ]
  have cH:=Ji ew;have iX:=hW.2.2.2.2;rw[AQ aJ] at iX
  have NM:EndOk A ns e:=by
   unfold EndOk Hg at NN;rw[AQ aJ] at NN;exact NN
  have NR:=Xr iX NM;have ah:=fun t (ht:Begins A t)=>Begins.fit hW ht (f:=f) cH
  have HH:=Ac h2;have H3:=Ac h3;have xp:=Ac hf;have iu:=Ac hadd;have YB:=Ac NR;have eV:=Ac ah;have HX:=Ac (show _/\_ from⟨hx1,hx2⟩);have eF:=Ac a7;clear h0 h2 hW NN hadd hf cH ew iX NM NR ah hx1 hx2 a7;have jR:=h3.head;clear h3;have mL:=Tryz.mForL;have mJ:=Tryz.mForJ;have mH:=Tryz.mForH;unfold Ei;go_enter Tryz.func103,Tryz.ntmps103;go_wp2_with fail
  go_cut [8] (fun z wx=>z=.bool true/\∃wy,((w.alloc (.cells #[.pointer (some ⟨b,0,none⟩)] 209)).alloc (.cells #[.pointer (some ⟨f.blk,0,none⟩)] 90)).grownBy wy none/\Hm b fv (Be n A.length tv lv ov fv nx) (Lk n.c.neg) n.K f wy wx)
  case first=>
   go_region_with (go_at_call 136;refine(jY _ (by repeat (first|exact AD _ _|apply Ah))).mono ?_;rintro e1 w1⟨rfl,mF⟩)
   all_goals
    go_wp2_with fail;go_meet
    exact⟨rfl,_,by repeat (first|exact AD _ _|apply Ah),mF⟩
  case rest=>
   obtain⟨rfl,wy,jS,dX⟩:=hcut;have hh:=Aa HH;have ai:=Ab (Aa eF) jS;obtain⟨ag,bB,af⟩:=N9 hh (Aa xp) ai dX;have dM:=(Aa H3).keep (U':=Cj U w (6+3*q)) af (fun i hi hx=>by omega) (fun i hi _=>Ak hi);have pA:FtAt (Cj U w (6+3*q)) f wc:=bB.fts f (AY.2 (.inr (AX.2 rfl)))
   have hb1:wc.heap[w.heap.size]?=some (.cells #[.pointer (some ⟨b,0,none⟩)] 209 (0,0)):=by
    obtain⟨v',_,_,k3,_⟩:=dX;refine k3.blk (by rw[jS.block _ (Af (Aa HX).1) (by simp)];exact(Aa HX).1) ?_;rintro(h2|h2)
    ·have:=Af hh.blk;omega
    ·have:=(hh.facts.1.own _ h2).2;omega
   have hb2:wc.heap[w.heap.size+1]?=some (.cells #[.pointer (some ⟨f.blk,0,none⟩)] 90 (0,0)):=by
    obtain⟨v',_,_,k3,_⟩:=dX;refine k3.blk (by rw[jS.block _ (Af (Aa HX).2) (by simp)];exact(Aa HX).2) ?_;rintro(h2|h2)
    ·have:=Af hh.blk;omega
    ·have:=(hh.facts.1.own _ h2).2;omega
   have hu1:Cj U w (6+3*q) w.heap.size=6+3*q:=Bi (AW _);have hu2:Cj U w (6+3*q) (w.heap.size+1)=6+3*q:=Bi (by omega)
   have hcon:∀wx t,GrS (An (Cj U w (6+3*q)) (q+1) ns.length) wc wx->Begins A t->(∀g∈t,FtAt (Cj U w (6+3*q)) g wx)->Calls Tryz.prog 138 #[Bu t,.pointer (some ⟨w.heap.size,0,none⟩),.pointer (some ⟨w.heap.size+1,0,none⟩)] wx fun e w'=>e=.returned (.bool (Ck n.links t f.f))/\wx.grownBy w' none:=by
    intro wx t hg hB dG;have y1:=hg.blk hb1 (by unfold An;omega);have y2:=hg.blk hb2 (by unfold An;omega);exact Q0n (Cj U w (6+3*q)) q A.length b { n with K:=n.K++[f] } nx tv lv ov ag t f _ _ wx (bB.keep hg (fun i hi hc=>by unfold An at hc;omega) (fun _ _ _=>rfl)) (pA.codes hg) (by obtain⟨_,_,h⟩:=hB;exact h) dG (Aa eV t hB) (by simp[World.cell?,y1]) (by simp[World.cell?,y2])
   have d1:wc.cell? ⟨w.heap.size,0,none⟩=some (.pointer (some ⟨b,0,none⟩)):=by simp[World.cell?,hb1]
   have c5:=bB.cell 5 (by omega);have HF:=Ac (show NodeAt (Cj U w (6+3*q)) q A.length b { n with K:=n.K++[f] } nx tv lv ov ag wc/\GrS (fun i=>U i=4+3*q\/U i=6+3*q) w wc from⟨bB,af⟩);have vQ:=Ac dM;have HC:=Ac hcon;clear jY jS dX ai bB af pA hb1 hb2 hu1 hu2 hcon hh dM;rcases jR with ⟨b2,rfl,iP⟩|⟨b2,n2,mf,rfl,iP,_⟩|⟨b2,n2,mf,rfl,iP,_⟩
   all_goals
    have NK:=Yc (Cj U w (6+3*q)) ru jn 138 (.pointer (some ⟨w.heap.size,0,none⟩)) (.pointer (some ⟨w.heap.size+1,0,none⟩)) (fun t=>Ck n.links t f.f) (Begins A) Tryz.enters2 (fun t ht=>by obtain⟨_,_,h⟩:=ht;exact h) ns (q+1) A.length b2 _ e wc (Aa vQ) (Aa YB) hwl (Aa HC);rw[iP] at NK;simp only[Xv] at NK;rw[<-iP] at NK;clear vQ HC;go_wp2_with fail;refine NK.mono ?_;rintro e2 w5⟨rfl,s1,s2⟩;clear NK;go_wp2;go_end0
    obtain⟨g1,g2⟩:=Aa HF;refine⟨rfl,Cj U w (6+3*q),?_,?_,fun i hi=>Ak hi⟩
    ·rw[Aa iu]
     exact⟨b,_,tv,lv,ov,ag,by unfold C9;rw[AQ aJ],g1.keep s2 (fun i hi hc=>by unfold An at hc;omega) (fun _ _ _=>rfl),by rw[AQ aJ];exact s1⟩
    ·refine(g2.mono (fun i hi=>by omega)).comp s2 (fun i hi hn hc=>hn ?_)
     unfold An at hc;rw[Ak hi] at hc;omega
 ·have jm:Ia n.c f.f=false:=by simpa using ew
  have jY:∀wx,((w.alloc (.cells #[.pointer (some ⟨b,0,none⟩)] 209)).alloc (.cells #[.pointer (some ⟨f.blk,0,none⟩)] 90)).grownBy wx none->Calls Tryz.prog 136 #[.pointer (some ⟨b,0,none⟩),.pointer (some ⟨f.blk,0,none⟩)] wx fun e' w'=>e'=.returned (.bool false)/\wx.grownBy w' none:=by
   intro wx hg;have aw:=Ab a7 hg;exact Re U b n.c n.links f wx (h2.cd.gr aw) (hf.gr aw) jm
  have hadd:Aq f n ns e=(n,(ns,e)):=by unfold Aq;rw[AO ew]
  have iu:=Ac hadd;have H0:=Ac h0;have eF:=Ac a7;clear h0 h2 h3 hW NN hadd hf ew jm hx1 hx2 a7;unfold Ei;go_enter Tryz.func103,Tryz.ntmps103;go_wp2_with fail
  go_cut [8] (fun z wx=>z=.bool false/\((w.alloc (.cells #[.pointer (some ⟨b,0,none⟩)] 209)).alloc (.cells #[.pointer (some ⟨f.blk,0,none⟩)] 90)).grownBy wx none)
  case first=>
   go_region_with (go_at_call 136;refine(jY _ (by repeat (first|exact AD _ _|apply Ah))).mono ?_;rintro e1 w1⟨rfl,mF⟩)
   all_goals
    go_wp2_with fail;go_meet
    exact⟨rfl,Ab (by repeat (first|exact AD _ _|apply Ah)) mF⟩
  case rest=>
   obtain⟨rfl,hg1⟩:=hcut;have aw:=Ab (Aa eF) hg1;clear jY hg1;go_wp2;go_end0
   refine⟨rfl,U,?_,GrS.of aw (by simp),fun _ _=>rfl⟩;rw[Aa iu];exact(Aa H0).gr aw
end Go.Proofs.YtolhbeekfjnfmaaGreatDoor
namespace Go.Proofs.YtolhbeekfjnfmaaGreatDoor
variable {B c k b o q j:Nat}{ns:List Nd}{e:En}{X:List Tok}{U:Nat->Nat}{w wx w' w1:World}{v nx tv lv ov fv:Value}{cs:Array Value}{ty:TypeId}{t:Tok}{n:Nd}{f:Ft}{A:List Nat}
def Dv(f:Ft):Nat->List Nd->En->List Nd×En
 | _,[],e=>([],e)
 | 0,n::ns,e=>((Aq f n ns e).1::(Aq f n ns e).2.1,(Aq f n ns e).2.2)
 | p+1,n::ns,e=>(n::(Dv f p ns e).1,(Dv f p ns e).2)
theorem O9(f:Ft):∀(p:Nat) (ns:List Nd) (e:En),(Dv f p ns e).1.length=ns.length
 | _,[],_=>by unfold Dv;rfl
 | 0,n::ns,e=>by unfold Dv;simp[Es]
 | p+1,n::ns,e=>by unfold Dv;simp[O9 f p ns e]
theorem Li(f:Ft):∀(k:Nat) (ns:List Nd) (e:En),De f (k+1) ns e=Dv f k (De f k ns e).1 (De f k ns e).2
 | 0,[],e=>by simp[De,Dv]
 | 0,n::ns,e=>by simp[De,Dv]
 | k+1,[],e=>by simp[De,Dv]
 | k+1,n::ns,e=>by
  have ih:=Li f k (Aq f n ns e).2.1 (Aq f n ns e).2.2;rw[De,ih];simp only[De,Dv]
def Dg(f:Ft)(ps:List Nat)(ns:List Nd)(e:En):List Nd×En:=ps.foldl (fun s p=>Dv f p s.1 s.2) (ns,e)
theorem G6(f:Ft)(ps:List Nat)(p:Nat)(ns:List Nd)(e:En):Dg f (ps++[p]) ns e=Dv f p (Dg f ps ns e).1 (Dg f ps ns e).2:=by
 simp[Dg]
theorem Gj(f:Ft)(ns:List Nd)(e:En):∀k,Dg f (List.range k) ns e=De f k ns e
 | 0=>by simp[Dg,De]
 | k+1=>by rw[List.range_succ,G6,Gj f ns e k,Li]
theorem Mr(f:Ft)(ps:List Nat)(ns:List Nd)(e:En):(Dg f ps ns e).1.length=ns.length:=by
 induction ps generalizing ns e with
 | nil=>rfl
 | cons p ps ih=>exact(ih _ _).trans (O9 f p ns e)
def Mb(ns:List Nd):List Bool:=ns.map (fun n=>n.c.neg)
theorem Iw{iw:List Nd}(h:ns.map (fun n=>(n.c,n.links,n.K))=iw.map (fun n=>(n.c,n.links,n.K))):Mb iw=Mb ns:=by
 have:=BJ (List.map (fun x:Sv.Cond×List Lnk×List Ft=>x.1.neg)) h;simp only[EA] at this;exact this.symm
theorem Vx(f:Ft)(n:Nd)(ns:List Nd)(e:En):(Aq f n ns e).1.c=n.c/\(Aq f n ns e).1.links=n.links/\(Aq f n ns e).1.toks=n.toks:=by
 unfold Aq;split<;>exact⟨rfl,rfl,rfl⟩
theorem Lz(f:Ft):∀(p:Nat) (ns:List Nd) (e:En),Mb (Dv f p ns e).1=Mb ns
 | _,[],_=>by unfold Dv;rfl
 | 0,n::ns,e=>by
  unfold Dv;have h1:=Iw (I0 f n ns e);have h2:=(Vx f n ns e).1;unfold Mb at h1⊢;simp[h1,h2]
 | p+1,n::ns,e=>by
  unfold Dv;have:=Lz f p ns e;unfold Mb at this⊢;simp[this]
theorem Kf(f:Ft)(ps:List Nat)(ns:List Nd)(e:En):Mb (Dg f ps ns e).1=Mb ns:=by
 induction ps generalizing ns e with
 | nil=>rfl
 | cons p ps ih=>exact(ih _ _).trans (Lz f p ns e)
def Bd(κ:Nat):Nat->List Nd->En->Prop
 | c,[],e=>e.toks.length<=c/\e.wait.length<=c
 | c,n::ns,e=>n.K.length<=κ/\n.toks.length<=c/\Bd κ (c*20) ns e
theorem Bd.mono{κ κ':Nat}(hk:κ<=κ'):∀ {ns:List Nd} {c c':Nat} {e:En},c<=c'->Bd κ c ns e->Bd κ' c' ns e
 | [],_,_,_,hc,h=>⟨AU h.1 hc,AU h.2 hc⟩
 | _::_,_,_,_,hc,h=>⟨AU h.1 hk,AU h.2.1 hc,Bd.mono hk (BW _ hc) h.2.2⟩
theorem Ob(hk:n.K.length<=20)(t:Tok):(n.ext t).length<=20:=by
 unfold Nd.ext;split
 ·split<;>simp
 ·rw[BA]
  exact AU (CS _ _) hk
theorem Nv{α β:Type}(g:α->List β)(m:Nat)(h:∀a,(g a).length<=m):∀l:List α,(l.flatMap g).length<=l.length*m
 | []=>by simp
 | a::l=>by
  rw[BI,AK,AP,GS];have:=Nv g m h l;have:=h a;omega
theorem Bd.arr{κ:Nat}(hk:κ<=20):∀ {ns:List Nd} {c t:Nat} {e:En} {ts:List Tok},Bd κ c ns e->ts.length<=t->Bd κ (c+t) (arr ns e ts).1 (arr ns e ts).2
 | [],c,t,e,ts,h,ht=>by
  obtain⟨h1,h2⟩:=h;refine⟨?_,?_⟩
  ·show (e.toks++ts).length<=c+t
   rw[AK];omega
  ·show (ts.foldl (Hp.push Tok.less) e.wait).length<=c+t
   rw[(Hp.fold_perm Tok.less ts e.wait).length_eq,AK];omega
 | n::ns,c,t,e,ts,h,ht=>by
  obtain⟨h1,h2,h3⟩:=h;refine⟨h1,?_,?_⟩
  ·show (n.toks++ts).length<=c+t
   rw[AK];omega
  ·have hf:=Nv n.ext 20 (Ob (AU h1 hk)) ts
   have:=Bd.arr hk (ts:=ts.flatMap n.ext) (t:=t*20) h3 (AU hf (BW _ ht));rw[<-GS] at this;exact this
theorem Bd.drop{κ:Nat}(p:Tok->Bool):∀ {ns:List Nd} {c:Nat} {e:En},Bd κ c ns e->Bd κ c (ns.map (Nd.drop p)) (e.drop p)
 | [],c,e,h=>by
  refine⟨AU (CS _ _) h.1,?_⟩;show (Hp.init Tok.less _).length<=c
  rw[(Hp.init_perm _ _).length_eq];exact AU (CS _ _) h.2
 | n::ns,c,e,h=>⟨h.1,AU (CS _ _) h.2.1,Bd.drop p h.2.2⟩
theorem Bd.addStep{κ c:Nat}{n:Nd}{ns:List Nd}{e:En}{f:Ft}(hk:κ<20)(h:Bd κ c (n::ns) e):Bd (κ+1) (2*c) ((Aq f n ns e).1::(Aq f n ns e).2.1) (Aq f n ns e).2.2:=by
 obtain⟨h1,h2,h3⟩:=h;unfold Go.Proofs.YtolhbeekfjnfmaaGreatDoor.addStep;split
 ·refine⟨by simp;omega,by show n.toks.length<=_;omega,?_⟩
  split
  ·exact(Bd.drop _ h3).mono (by omega) (by omega)
  ·have:=Bd.arr (by omega) h3 (ts:=(n.toks.filter (fun t=>Ck n.links t f.f)).map (fun t=>t++[f])) (t:=c) (by rw[BA];exact AU (CS _ _) h2)
   exact this.mono (by omega) (by omega)
 ·exact⟨by show n.K.length<=_;omega,by show n.toks.length<=_;omega,h3.mono (by omega) (by omega)⟩
theorem Bd.addAt{κ:Nat}{f:Ft}(hk:κ<20):∀(p:Nat) {ns:List Nd} {c:Nat} {e:En},Bd κ c ns e->Bd (κ+1) (2*c) (Dv f p ns e).1 (Dv f p ns e).2
 | _,[],_,e,h=>by unfold Go.Proofs.YtolhbeekfjnfmaaGreatDoor.addAt;exact⟨by show e.toks.length<=_;have:=h.1;omega,by show e.wait.length<=_;have:=h.2;omega⟩
 | 0,n::ns,c,e,h=>by unfold Go.Proofs.YtolhbeekfjnfmaaGreatDoor.addAt;exact h.addStep hk
 | p+1,n::ns,c,e,h=>by
  unfold Go.Proofs.YtolhbeekfjnfmaaGreatDoor.addAt;have ih:=Bd.addAt (f:=f) hk p h.2.2;exact⟨by have:=h.1;omega,by have:=h.2.1;omega,by rw[FD];exact ih⟩
theorem Bd.small{κ:Nat}:∀ {ns:List Nd} {c:Nat} {e:En},Bd κ c ns e->ns.length<=4->c*20 ^ ns.length<=1000000000->Small 1000000000 ns e
 | [],c,e,h,_,hc=>⟨by simp,by have:=h.1;simp at hc;omega,by have:=h.2;simp at hc;omega⟩
 | n::ns,c,e,h,hl,hc=>by
  rw[AP] at hl hc;rw[FW,FX (20 ^ _) 20,<-FD] at hc;have ih:=Bd.small (ns:=ns) h.2.2 (by omega) hc;refine⟨fun m hm=>?_,ih.2.1,ih.2.2⟩;rcases CR.1 hm with rfl|hm
  ·have h1:1<=20 ^ ns.length:=KA (by omega)
   have h2:=h.2.1;have h3:c*20*1<=c*20*20 ^ ns.length:=GX _ h1;omega
  ·exact ih.1 m hm
theorem Small.tail(h:Small B (n::ns) e):Small B ns e:=⟨fun m hm=>h.1 m (BG _ hm),h.2.1,h.2.2⟩
end Go.Proofs.YtolhbeekfjnfmaaGreatDoor
namespace Go.Proofs.YtolhbeekfjnfmaaGreatDoor
open Go.RowKit
variable {B c k b o q j:Nat}{ns:List Nd}{e:En}{X:List Tok}{U:Nat->Nat}{w wx w' w1:World}{v nx tv lv ov fv:Value}{cs:Array Value}{ty:TypeId}{t:Tok}{n:Nd}{f:Ft}{A:List Nat}
def Bk(U:Nat->Nat)(c b:Nat):Prop:=U b=c/\∀i,i<b->U i≠c
theorem Bk.uniq{b':Nat}(h:Bk U c b)(h':Bk U c b'):b=b':=by
 rcases JQ b b' with h1|h1|h1
 ·exact absurd h.1 (h'.2 b h1)
 ·exact h1
 ·exact absurd h'.1 (h.2 b' h1)
theorem Bk.old{U':Nat->Nat}{m:Nat}(h:Bk U c b)(hb:b<m)(ho:∀i,i<m->U' i=U i):Bk U' c b:=
 ⟨by rw[ho b hb];exact h.1,fun i hi=>by rw[ho i (GD hi hb)];exact h.2 i hi⟩
theorem R4:∀ {ns iw:List Nd} {A:List Nat},ns.map (fun n=>n.c)=iw.map (fun n=>n.c)->Hg A ns=Hg A iw
 | [],[],_,_=>rfl
 | [],_::_,_,h=>by simp at h
 | _::_,[],_,h=>by simp at h
 | n::ns,n'::iw,A,h=>by
  simp only[DR,GV] at h;unfold Hg;rw[h.1];exact R4 h.2
theorem Q3p(h3:∀g∈n.K,g.f.vals.length=n.c.terms.length){u:Tok}(ht:HasAr A t)(hx:u∈n.ext t):HasAr (if n.c.neg=true then A else A++[n.c.terms.length]) u:=by
 unfold Nd.ext at hx;by_cases hn:n.c.neg=true
 ·rw[AQ hn] at hx⊢
  split at hx
  ·simp at hx
  ·simp at hx;rw[hx];exact ht
 ·rw[AO hn] at hx⊢
  obtain⟨g,hg,rfl⟩:=CL.1 hx;have hk:=h3 g (BH.1 hg).1;rw[<-hk];exact ht.snoc g
theorem EndOk.arr:∀ {ns:List Nd} {A:List Nat} {e:En} {ts:List Tok},WF A ns->EndOk A ns e->(∀t∈ts,HasAr A t)->EndOk A (arr ns e ts).1 (arr ns e ts).2
 | [],A,e,ts,_,h,ht=>by
  refine⟨fun t hm=>?_,fun t hm=>?_⟩
  ·have gz:t∈e.toks++ts:=hm
   rcases AY.1 gz with gz|gz
   ·exact h.1 t gz
   ·exact ht t gz
  ·have gz:t∈ts.foldl (Hp.push Tok.less) e.wait:=hm
   rcases AY.1 ((Hp.fold_perm Tok.less ts e.wait).mem_iff.1 gz) with gz|gz
   ·exact h.2 t gz
   ·exact ht t gz
 | n::ns,A,e,ts,hW,h,ht=>by
  refine EndOk.arr (ns:=ns) (A:=if n.c.neg=true then A else A++[n.c.terms.length]) (ts:=ts.flatMap n.ext) hW.2.2.2.2 h ?_;intro u hu;obtain⟨t,hm,hx⟩:=CU.1 hu;exact Q3p hW.2.2.1 (ht t hm) hx
theorem WF.drop(p:Tok->Bool):∀ {ns:List Nd} {A:List Nat},WF A ns->WF A (ns.map (Nd.drop p))
 | [],_,h=>h
 | _::_,_,h=>⟨h.1,h.2.1,h.2.2.1,fun t ht=>h.2.2.2.1 t (BH.1 ht).1,WF.drop p h.2.2.2.2⟩
theorem EndOk.drop{ns:List Nd}{A:List Nat}{e:En}(p:Tok->Bool)(h:EndOk A ns e):EndOk A (ns.map (Nd.drop p)) (e.drop p):=by
 have:Hg A (ns.map (Nd.drop p))=Hg A ns:=R4 (by rw[EA];rfl);unfold EndOk;rw[this];refine⟨fun t ht=>h.1 t (BH.1 ht).1,fun t ht=>?_⟩;have hm:t∈e.wait.filter (fun t=>!p t):=(Hp.init_perm _ _).mem_iff.1 ht;exact h.2 t (BH.1 hm).1
theorem WF.addStep{A:List Nat}{n:Nd}{ns:List Nd}{e:En}{f:Ft}(h:WF A (n::ns))(he:EndOk A (n::ns) e) :
  WF A ((Aq f n ns e).1::(Aq f n ns e).2.1)/\EndOk A ((Aq f n ns e).1::(Aq f n ns e).2.1) (Aq f n ns e).2.2:=by
 unfold Go.Proofs.YtolhbeekfjnfmaaGreatDoor.addStep;by_cases hf:Ia n.c f.f=true
 ·rw[AQ hf]
  have cH:=Ji hf;obtain⟨h1,h2,h3,h4,h5⟩:=h
  have hK:∀g∈n.K++[f],g.f.vals.length=n.c.terms.length:=by
   intro g hg;rcases AY.1 hg with hg|hg
   ·exact h3 g hg
   ·simp only[AX] at hg;rw[hg];exact cH
  by_cases hn:n.c.neg=true
  ·rw[AQ hn]
   exact⟨⟨h1,h2,hK,h4,h5.drop _⟩,EndOk.drop (ns:=ns) (A:=if n.c.neg=true then A else A++[n.c.terms.length]) _ he⟩
  ·rw[AO hn]
   have ht:∀u∈(n.toks.filter (fun t=>Ck n.links t f.f)).map (fun t=>t++[f]),HasAr (if n.c.neg=true then A else A++[n.c.terms.length]) u:=by
    intro u hu;obtain⟨t,hg,rfl⟩:=CL.1 hu;rw[AO hn,<-cH];exact(h4 t (BH.1 hg).1).snoc f
   exact⟨⟨h1,h2,hK,h4,h5.arr ht⟩,EndOk.arr (ns:=ns) h5 he ht⟩
 ·rw[AO hf]
  exact⟨h,he⟩
theorem WF.addAt{f:Ft}:∀(p:Nat) {A:List Nat} {ns:List Nd} {e:En},WF A ns->EndOk A ns e->WF A (Dv f p ns e).1/\EndOk A (Dv f p ns e).1 (Dv f p ns e).2
 | _,_,[],_,h,he=>by unfold Go.Proofs.YtolhbeekfjnfmaaGreatDoor.addAt;exact⟨h,he⟩
 | 0,_,n::ns,e,h,he=>by unfold Go.Proofs.YtolhbeekfjnfmaaGreatDoor.addAt;exact h.addStep he
 | p+1,A,n::ns,e,h,he=>by
  unfold Go.Proofs.YtolhbeekfjnfmaaGreatDoor.addAt;obtain⟨i1,i2⟩:=WF.addAt (f:=f) p (ns:=ns) (e:=e) h.2.2.2.2 he;exact⟨⟨h.1,h.2.1,h.2.2.1,h.2.2.2.1,i1⟩,i2⟩
theorem EndOk.four(h:EndOk A ns e)(hW:WF A ns):∀x∈e.wait,x.length<=4:=fun x hx=>by
 rw[(h.2 x hx).len];exact Rr hW
def Yh(neg:Bool):Nat:=if neg=true then 103 else 102
def Ja(U:Nat->Nat)(ru jn q k:Nat)(r:List Nd×En)(m:Nat)(hd:Value)(w w':World):Prop:=
 ∃U',SufAt U' ru jn q k r.1 r.2 hd w'/\GrS (An U q m) w w'/\∀i,i<w.heap.size->U' i=U i
theorem Xm(ru jn:Nat)(U:Nat->Nat)(f:Ft)(w:World)(hf:FtAt U f w):∀(p:Nat) (A:List Nat) (q b κ c:Nat) (n:Nd) (ns:List Nd) (e:En) (hd:Value),ns[p]?=some n->Bk U (4+3*(q+p)) b->SufAt U ru jn q A.length ns e hd w->WF A ns->EndOk A ns e->Bd κ c ns e->κ<20->ns.length<=4->2*c*20 ^ ns.length<=1000000000->
  Calls Tryz.prog (Yh n.c.neg) #[.pointer (some ⟨b,0,none⟩),Ei f] w fun e' w'=>e'=.returned (.tuple #[])/\Ja U ru jn q A.length (Dv f p ns e) ns.length hd w w'
 | _,_,_,_,_,_,_,[],_,_,hn,_,_,_,_,_,_,_,_=>by simp at hn
 | 0,A,q,b,κ,c,n,n0::ns,e,hd,hn,hb,h,hW,hE,hB,hk,hl,hc=>by
  simp only[BS,AE] at hn;subst hn;have h0:=h;obtain⟨b',nx,tv,lv,ov,fv,h1,h2,_⟩:=h;have:b'=b:=Bk.uniq ⟨h2.own,h2.low⟩ hb;subst this;subst h1;have hS:=(hB.addStep (f:=f) hk).small (by rw[AP,Es,<-AP (a:=n0)];exact hl) (by rw[AP,Es,<-AP (a:=n0)];exact hc);have vG:n0.K.length<=1000000000:=by have:=hB.1;omega
  have aN:∀w',Qi U ru jn q A.length n0 ns e (.iface (C9 n0.c.neg) (.pointer (some ⟨b',0,none⟩))) f w w'->Ja U ru jn q A.length (Dv f 0 (n0::ns) e) (n0::ns).length (.iface (C9 n0.c.neg) (.pointer (some ⟨b',0,none⟩))) w w':=by
   rintro w'⟨U',a1,a2,a3⟩;refine⟨U',by unfold Dv;exact a1,a2.mono (fun i hi=>?_),a3⟩;unfold An;rw[AP];omega
  cases fQ:n0.c.neg with
  | true=>
   have hwl:e.wait.length<=1000000000:=by
    have h5:=((hB.mono (AW κ) (show c<=2*c by omega)).small hl hc).2.2;exact h5
   have sg:C9 n0.c.neg=209:=by rw[fQ];rfl
   rw[sg] at h0 aN;have:=Q1g ru jn U A q b' n0 ns e f w fQ h0 hW hE hf vG hwl;unfold Yh;rw[AQ rfl];refine this.mono ?_;rintro e' w'⟨rfl,hp⟩;refine⟨rfl,?_⟩;have:=aN w' hp;unfold C9;rw[AQ rfl];exact this
  | false=>
   have sg:C9 n0.c.neg=208:=by rw[fQ];rfl
   rw[sg] at h0 aN;have:=Ze ru jn U A q b' n0 ns e f w fQ h0 hW hf (hE.four hW) vG hS.tail;unfold Yh;rw[AO (by simp)];refine this.mono ?_;rintro e' w'⟨rfl,hp⟩;refine⟨rfl,?_⟩;have:=aN w' hp;unfold C9;rw[AO (by simp)];exact this
 | p+1,A,q,b,κ,c,n,n0::ns,e,hd,hn,hb,h,hW,hE,hB,hk,hl,hc=>by
  obtain⟨b',nx,tv,lv,ov,fv,h1,h2,h3⟩:=h;have hA:(if n0.c.neg=true then A.length else A.length+1)=(if n0.c.neg=true then A else A++[n0.c.terms.length]).length:=by split<;>simp
  rw[hA] at h3;rw[AP] at hl hc;rw[FW,FX (20 ^ _) 20,<-FD,FD 2 c 20] at hc;refine(Xm ru jn U f w hf p (if n0.c.neg=true then A else A++[n0.c.terms.length]) (q+1) b κ (c*20) n ns e nx (by simpa using hn) (by rw[show q+1+p=q+(p+1) by omega];exact hb) h3 hW.2.2.2.2 hE hB.2.2 hk (by omega) hc).mono ?_;rintro e' w'⟨rfl,U',a1,a2,a3⟩;refine⟨rfl,U',?_,a2.mono (fun i hi=>?_),a3⟩
  ·unfold Dv
   refine⟨b',nx,tv,lv,ov,fv,h1,h2.keep a2 (fun i hi hx=>by unfold An at hx;omega) (fun i hi _=>a3 i hi),?_⟩;rw[hA];exact a1
  ·unfold An at hi⊢
   rw[AP];omega
end Go.Proofs.YtolhbeekfjnfmaaGreatDoor

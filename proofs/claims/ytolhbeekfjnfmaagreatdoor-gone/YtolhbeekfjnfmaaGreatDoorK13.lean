import Derived.Shelf.Abstract
import Derived.Test.YtolhbeekfjnfmaaGreatDoorK12
import Derived.Test.YtolhbeekfjnfmaaGreatDoorK06
namespace Go.Proofs.YtolhbeekfjnfmaaGreatDoor
open Go.RowKit
def idxG (p:Ft→Bool):Nat→List Ft→Int
 | _,[]=>-1
 | k,t :: l=>if p t=true then (k:Int) else idxG p (k+1) l
theorem idxG_any (p:Ft→Bool):∀ (l:List Ft) (k:Nat),decide (0≤idxG p k l)=l.any p
 | [],_=>rfl
 | t :: l,k=>by
  unfold idxG
  rw [List.any_cons]
  split
  ·rename_i h; rw [h]; simp
  ·rename_i h; rw [idxG_any p l (k+1),Bool.eq_false_iff.2 h,Bool.false_or]
theorem FsAt.cell {v:Value} {l:List Ft} {w:World} (h:FsAt v l w) {k:Nat} {f:Ft} (hk:l[k]?=some f):∃ g cap,v=.slice (some ⟨g,0,none⟩) l.length cap∧w.cell? ⟨g,k,none⟩=some (.pointer (some ⟨f.blk,0,none⟩)):=by
 obtain ⟨g,cap,h1,h2⟩:=h.cells hk
 have:=h2 0 (by omega)
 exact ⟨g,cap,h1,by simpa [fenc,fptr] using this⟩
set_option maxRecDepth 100000 in
set_option maxHeartbeats 2000000 in
theorem idxP1_w (N:Nat) (b0:Value) (p:Ft→Bool) (v:Value) (l:List Ft) (w:World) (eg:∀ args w,(callFunc N args).run Tryz.prog w=.ok (.enter N args) w) (hr:FsAt v l w)
  (hp:∀ wx t,w.grownBy wx none→t∈l→Calls Tryz.prog N #[.pointer (some ⟨t.blk,0,none⟩),b0] wx fun e w'=>e=.returned (.bool (p t))∧wx.grownBy w' none) :
  Calls Tryz.prog 44 #[v,(.func (.func N) #[] #[b0])] w fun e w'=>e=.returned (.int .i64 (idxG p 0 l))∧w.grownBy w' none:=by
 obtain ⟨ao,cap,rfl⟩:=hr.slice
 have hlm:=hr.le
 unfold maxLen at hlm
 obtain ⟨R,hR⟩:∃ R,idxG p 0 l=R:=⟨_,rfl⟩
 rw [hR]
 have HR:=hide hR
 have HP:=hide hp
 have HROW:=hide hr
 clear hR hp hr
 go_enter Tryz.func44,Tryz.ntmps44
 go_wp2
 go_loopw [8] (fun x w'=>∃ k:Nat,k≤l.length∧x=.int .i64 k∧idxG p k (l.drop k)=R∧w.grownBy w' none) (fun x _=>l.length - (intOf x).toNat)
 case atStart=>exact ⟨0,Nat.zero_le _,rfl,unhide HR,World.grownBy.refl _ _⟩
 case round=>
  clear HR
  obtain ⟨k,hk,rfl,hr,hg⟩:=hrel
  by_cases hlt:k < l.length
  ·have hd:decide (k < l.length)=true:=by simpa using hlt
   obtain ⟨t,ht⟩:∃ t,l[k]?=some t:=⟨_,List.getElem?_eq_getElem hlt⟩
   obtain ⟨g,cap',e1,c0⟩:=FsAt.cell ((unhide HROW).gr hg) ht
   simp only [Value.slice.injEq,true_and] at e1
   obtain ⟨rfl,rfl⟩:=e1
   have hC:=unhide HP wr t hg (List.mem_of_getElem? ht)
   rw [drop_get ht] at hr
   unfold idxG at hr
   obtain ⟨r,hr1⟩:∃ r,p t=r:=⟨_,rfl⟩
   rw [hr1] at hr hC
   have HR:=hide hr
   clear hr hr1 ht
   go_wp2_with fail
   refine hC.mono ?_
   rintro e w1 ⟨rfl,hg1⟩
   have hgc:=gr_trans hg hg1
   have hr:=unhide HR
   clear HR hC hg1
   cases r with
   | true=>
    rw [if_pos rfl] at hr
    subst hr
    go_wp2
    go_ret
    exact ⟨rfl,hgc⟩
   | false=>
    rw [if_neg (by simp)] at hr
    have HR:=hide hr
    clear hr
    go_wp2
    go_roundw
    case rel=>exact ⟨k+1,by omega,by go_num,unhide HR,hgc⟩
    case measure=>simp [intOf]; omega
  ·have hd:decide (k < l.length)=false:=by simpa using hlt
   have e:l.drop k=[]:=List.drop_of_length_le (by omega)
   rw [e] at hr
   have hr2:-1=R:=hr
   subst hr2
   clear hr e
   go_wp2
   go_ret
   exact ⟨rfl,hg⟩
set_option maxRecDepth 100000 in
set_option maxHeartbeats 2000000 in
theorem idxP2_w (N:Nat) (b0 b1:Value) (p:Ft→Bool) (v:Value) (l:List Ft) (w:World) (eg:∀ args w,(callFunc N args).run Tryz.prog w=.ok (.enter N args) w) (hr:FsAt v l w)
  (hp:∀ wx t,w.grownBy wx none→t∈l→Calls Tryz.prog N #[.pointer (some ⟨t.blk,0,none⟩),b0,b1] wx fun e w'=>e=.returned (.bool (p t))∧wx.grownBy w' none) :
  Calls Tryz.prog 44 #[v,(.func (.func N) #[] #[b0,b1])] w fun e w'=>e=.returned (.int .i64 (idxG p 0 l))∧w.grownBy w' none:=by
 obtain ⟨ao,cap,rfl⟩:=hr.slice
 have hlm:=hr.le
 unfold maxLen at hlm
 obtain ⟨R,hR⟩:∃ R,idxG p 0 l=R:=⟨_,rfl⟩
 rw [hR]
 have HR:=hide hR
 have HP:=hide hp
 have HROW:=hide hr
 clear hR hp hr
 go_enter Tryz.func44,Tryz.ntmps44
 go_wp2
 go_loopw [8] (fun x w'=>∃ k:Nat,k≤l.length∧x=.int .i64 k∧idxG p k (l.drop k)=R∧w.grownBy w' none) (fun x _=>l.length - (intOf x).toNat)
 case atStart=>exact ⟨0,Nat.zero_le _,rfl,unhide HR,World.grownBy.refl _ _⟩
 case round=>
  clear HR
  obtain ⟨k,hk,rfl,hr,hg⟩:=hrel
  by_cases hlt:k < l.length
  ·have hd:decide (k < l.length)=true:=by simpa using hlt
   obtain ⟨t,ht⟩:∃ t,l[k]?=some t:=⟨_,List.getElem?_eq_getElem hlt⟩
   obtain ⟨g,cap',e1,c0⟩:=FsAt.cell ((unhide HROW).gr hg) ht
   simp only [Value.slice.injEq,true_and] at e1
   obtain ⟨rfl,rfl⟩:=e1
   have hC:=unhide HP wr t hg (List.mem_of_getElem? ht)
   rw [drop_get ht] at hr
   unfold idxG at hr
   obtain ⟨r,hr1⟩:∃ r,p t=r:=⟨_,rfl⟩
   rw [hr1] at hr hC
   have HR:=hide hr
   clear hr hr1 ht
   go_wp2_with fail
   refine hC.mono ?_
   rintro e w1 ⟨rfl,hg1⟩
   have hgc:=gr_trans hg hg1
   have hr:=unhide HR
   clear HR hC hg1
   cases r with
   | true=>
    rw [if_pos rfl] at hr
    subst hr
    go_wp2
    go_ret
    exact ⟨rfl,hgc⟩
   | false=>
    rw [if_neg (by simp)] at hr
    have HR:=hide hr
    clear hr
    go_wp2
    go_roundw
    case rel=>exact ⟨k+1,by omega,by go_num,unhide HR,hgc⟩
    case measure=>simp [intOf]; omega
  ·have hd:decide (k < l.length)=false:=by simpa using hlt
   have e:l.drop k=[]:=List.drop_of_length_le (by omega)
   rw [e] at hr
   have hr2:-1=R:=hr
   subst hr2
   clear hr e
   go_wp2
   go_ret
   exact ⟨rfl,hg⟩
theorem Tryz.enters1:∀ args w,(callFunc 163 args).run Tryz.prog w=.ok (.enter 163 args) w:=enters_of Tryz.func163 (by kernel_rfl) rfl
set_option maxRecDepth 100000 in
set_option maxHeartbeats 2000000 in
theorem hasF_w (N:Nat) (b0 b1:Value) (p:Ft→Bool) (v:Value) (l:List Ft) (w:World) (eg:∀ args w,(callFunc N args).run Tryz.prog w=.ok (.enter N args) w) (hr:FsAt v l w)
  (hp:∀ wx t,w.grownBy wx none→t∈l→Calls Tryz.prog N #[.pointer (some ⟨t.blk,0,none⟩),b0,b1] wx fun e w'=>e=.returned (.bool (p t))∧wx.grownBy w' none) :
  Calls Tryz.prog 162 #[v,(.func (.func N) #[] #[b0,b1])] w fun e w'=>e=.returned (.bool (l.any p))∧w.grownBy w' none:=by
 have hI:=idxP2_w N b0 b1 p v l w eg hr hp
 have hA:=idxG_any p l 0
 obtain ⟨r,hr1⟩:∃ r,idxG p 0 l=r:=⟨_,rfl⟩
 rw [hr1] at hI hA
 rw [←hA]
 clear hp hr hA hr1
 go_enter Tryz.func162,Tryz.ntmps162
 go_wp2_with fail
 refine hI.mono ?_
 rintro e w1 ⟨rfl,hg1⟩
 clear hI
 go_wp2
 go_ret
 exact ⟨rfl,hg1⟩
set_option maxRecDepth 100000 in
set_option maxHeartbeats 2000000 in
theorem blocked_w (U:Nat→Nat) (q k b:Nat) (n:Nd) (nx tv lv ov fv:Value) (t:Tok) (w:World) (h:NodeAt U q k b n nx tv lv ov fv w) (ht4:t.length≤4) (ht:∀ g∈t,FtAt U g w)
  (hl:∀ f∈n.K,∀ l∈n.links,l.place < f.f.vals.length∧∃ g,t[l.at'.fact]?=some g∧l.at'.place < g.f.vals.length) :
  Calls Tryz.prog 141 #[.pointer (some ⟨b,0,none⟩),tokV t] w fun e w'=>e=.returned (.bool (n.K.any (fun g=>fitL n.links t g.f)))∧w.grownBy w' none:=by
 obtain ⟨p0,p1,p2,p3,hp⟩:=tok_four t
 have eT:tokV t=.agg #[.pointer p0,.pointer p1,.pointer p2,.pointer p3]:=by unfold tokV; rw [hp]
 have hgA:=gr_al2 w (.cells #[.pointer (some ⟨b,0,none⟩)] 209) (.cells #[.pointer p0,.pointer p1,.pointer p2,.pointer p3] 139)
 have hx1:((w.alloc (.cells #[.pointer (some ⟨b,0,none⟩)] 209)).alloc (.cells #[.pointer p0,.pointer p1,.pointer p2,.pointer p3] 139)).heap[w.heap.size]?=some (.cells #[.pointer (some ⟨b,0,none⟩)] 209 (0,0)):=by rw [Below.heap_alloc _ _ _ (by simp)]; exact heap_alloc_new _ _
 have hx2:((w.alloc (.cells #[.pointer (some ⟨b,0,none⟩)] 209)).alloc (.cells #[.pointer p0,.pointer p1,.pointer p2,.pointer p3] 139)).heap[w.heap.size+1]?=some (.cells #[.pointer p0,.pointer p1,.pointer p2,.pointer p3] 139 (0,0)):=by
  have:=heap_alloc_new (w.alloc (.cells #[.pointer (some ⟨b,0,none⟩)] 209)) (.cells #[.pointer p0,.pointer p1,.pointer p2,.pointer p3] 139)
  simpa using this
 have hC:∀ wx f,((w.alloc (.cells #[.pointer (some ⟨b,0,none⟩)] 209)).alloc (.cells #[.pointer p0,.pointer p1,.pointer p2,.pointer p3] 139)).grownBy wx none→f∈n.K→Calls Tryz.prog 163 #[.pointer (some ⟨f.blk,0,none⟩),.pointer (some ⟨w.heap.size,0,none⟩),.pointer (some ⟨w.heap.size+1,0,none⟩)] wx fun e w'=>e=.returned (.bool (fitL n.links t f.f))∧wx.grownBy w' none:=by
  intro wx f hg hf
  have hgw:=gr_trans hgA hg
  have y1:=hg.block _ (row_lt hx1) (by simp)
  have y2:=hg.block _ (row_lt hx2) (by simp)
  rw [hx1] at y1
  rw [hx2] at y2
  have y0:wx.cell? ⟨w.heap.size,0,none⟩=some (.pointer (some ⟨b,0,none⟩)):=by simp [World.cell?,y1]
  have z0:wx.cell? ⟨w.heap.size+1,0,none⟩=some (.pointer p0):=by simp [World.cell?,y2]
  have z1:wx.cell? ⟨w.heap.size+1,1,none⟩=some (.pointer p1):=by simp [World.cell?,y2]
  have z2:wx.cell? ⟨w.heap.size+1,2,none⟩=some (.pointer p2):=by simp [World.cell?,y2]
  have z3:wx.cell? ⟨w.heap.size+1,3,none⟩=some (.pointer p3):=by simp [World.cell?,y2]
  have hS:∀ wy,wx.grownBy wy none→Calls Tryz.prog 139 #[.pointer (some ⟨b,0,none⟩),.agg #[.pointer p0,.pointer p1,.pointer p2,.pointer p3],.pointer (some ⟨f.blk,0,none⟩)] wy fun e w'=>e=.returned (.bool (fitL n.links t f.f))∧wy.grownBy w' none:=by
   intro wy hgy
   have hgg:=gr_trans hgw hgy
   have:=fitsWith_w U b n.c n.links t f wy (h.cd.gr hgg) ((h.fts f hf).gr hgg) (fun g hgt=>(ht g hgt).gr hgg) ht4 (hl f hf)
   rw [eT] at this
   exact this
  clear y1 y2 hgw hx1 hx2 hgA h ht hl hp eT hg
  go_enter Tryz.func163,Tryz.ntmps163
  go_wp2_with fail
  go_region_with (go_at_call 139; refine (hS _ (by repeat (first | exact World.grownBy.refl _ _ | apply gr_drew))).mono ?_; rintro e w2 ⟨rfl,hg2⟩)
  all_goals
   go_wp2
   go_ret
   exact ⟨rfl,gr_trans (by repeat (first | exact World.grownBy.refl _ _ | apply gr_drew)) hg2⟩
 have hS:=hasF_w 163 (.pointer (some ⟨w.heap.size,0,none⟩)) (.pointer (some ⟨w.heap.size+1,0,none⟩)) (fun f=>fitL n.links t f.f) fv n.K ((w.alloc (.cells #[.pointer (some ⟨b,0,none⟩)] 209)).alloc (.cells #[.pointer p0,.pointer p1,.pointer p2,.pointer p3] 139)) Tryz.enters1 (h.facts.1.gr hgA) hC
 have c4:=hgA.cell (h.cell 4 (by omega)) (by simp)
 rw [eT]
 have HG:=hide hgA
 obtain ⟨r,hr⟩:∃ r,n.K.any (fun g=>fitL n.links t g.f)=r:=⟨_,rfl⟩
 rw [hr] at hS ⊢
 clear hC hx1 hx2 hgA h ht hl hp eT hr
 go_enter Tryz.func141,Tryz.ntmps141
 go_wp2_with fail
 refine hS.mono ?_
 rintro e w1 ⟨rfl,hg1⟩
 clear hS
 go_wp2
 go_ret
 exact ⟨rfl,gr_trans (unhide HG) hg1⟩
end Go.Proofs.YtolhbeekfjnfmaaGreatDoor
namespace Go.Proofs.YtolhbeekfjnfmaaGreatDoor
def Small (B:Nat) (ns:List Nd) (e:En):Prop:=(∀ n∈ns,n.toks.length≤B)∧e.toks.length≤B∧e.wait.length≤B
theorem Small.of_arr {B:Nat}:∀ {ns:List Nd} {e:En} {Y:List Tok},Small B (arr ns e Y).1 (arr ns e Y).2→Small B ns e
 | [],e,Y,h=>by
  obtain ⟨_,h2,h3⟩:=h
  refine ⟨by simp,?_,?_⟩
  ·have:(e.toks ++ Y).length≤B:=h2
   rw [List.length_append] at this
   omega
  ·have h4:(Y.foldl (Hp.push Tok.less) e.wait).length≤B:=h3
   rw [(Hp.fold_perm Tok.less Y e.wait).length_eq,List.length_append] at h4
   omega
 | n :: ns,e,Y,h=>by
  obtain ⟨h1,h2,h3⟩:=h
  have ih:=Small.of_arr (ns:=ns) (e:=e) (Y:=Y.flatMap n.ext) ⟨fun m hm=>h1 m (List.mem_cons_of_mem _ hm),h2,h3⟩
  refine ⟨fun m hm=>?_,ih.2.1,ih.2.2⟩
  rcases List.mem_cons.1 hm with rfl | hm
  ·have:(m.toks ++ Y).length≤B:=h1 _ (List.mem_cons_self ..)
   rw [List.length_append] at this
   omega
  ·exact ih.1 m hm
theorem Small.part {B:Nat} {ns:List Nd} {e:En} {X Y:List Tok} (h:Small B (arr ns e (X ++ Y)).1 (arr ns e (X ++ Y)).2):Small B (arr ns e X).1 (arr ns e X).2:=by
 unfold arr at h ⊢
 rw [arrives_app] at h
 exact Small.of_arr h
end Go.Proofs.YtolhbeekfjnfmaaGreatDoor
namespace Go.Proofs.YtolhbeekfjnfmaaGreatDoor
open Go.RowKit
theorem wf_wait:∀ {ns:List Nd} {A:List Nat} {e:En} {ts:List Tok},WF A ns→(∀ t∈ts,HasAr A t)→(∀ x∈e.wait,x.length≤4)→∀ x∈(arr ns e ts).2.wait,x.length≤4
 | [],A,e,ts,h,ht,he=>by
  intro x hx
  have hm:=(Hp.fold_perm Tok.less ts e.wait).mem_iff.1 hx
  rcases List.mem_append.1 hm with hm | hm
  ·exact he x hm
  ·rw [(ht x hm).len]; exact h
 | n :: ns,A,e,ts,h,ht,he=>by
  refine wf_wait (ns:=ns) h.2.2.2.2 ?_ he
  intro u hu
  obtain ⟨t,hm,hx⟩:=List.mem_flatMap.1 hu
  have:=ht t hm
  unfold Nd.ext at hx
  by_cases hn:n.c.neg=true
  ·rw [if_pos hn] at hx ⊢
   split at hx
   ·simp at hx
   ·simp at hx; rw [hx]; exact this
  ·rw [if_neg hn] at hx ⊢
   obtain ⟨g,hg,rfl⟩:=List.mem_map.1 hx
   have hk:=h.2.2.1 g (List.mem_filter.1 hg).1
   rw [←hk]
   exact this.snoc g
def newU (U:Nat→Nat) (w:World) (c:Nat):Nat→Nat:=fun k=>if k < w.heap.size then U k else c
theorem newU_old {U:Nat→Nat} {w:World} {c k:Nat} (h:k < w.heap.size):newU U w c k=U k:=by unfold newU; rw [if_pos h]
theorem newU_new {U:Nat→Nat} {w:World} {c k:Nat} (h:w.heap.size≤k):newU U w c k=c:=by unfold newU; rw [if_neg (by omega)]
theorem newU_own {U:Nat→Nat} {w:World} {c:Nat} {v v':Value} (h1:∀ g,v.ownBlock=some g→U g=c) (hlt:∀ g,v.ownBlock=some g→g < w.heap.size) (h2:∀ g,v'.ownBlock=some g→v.ownBlock=some g∨w.heap.size≤g):∀ g,v'.ownBlock=some g→newU U w c g=c:=by
 intro g hg
 rcases h2 g hg with h | h
 ·rw [newU_old (hlt g h)]; exact h1 g h
 ·exact newU_new h
theorem KeepPost.from {b o:Nat} {v:Value} {cs:Array Value} {ty:TypeId} {toks:List Tok} {t:Tok} {w wx w':World} (hg:w.grownBy wx none) (h:KeepPost b o v cs ty toks t wx w'):KeepPost b o v cs ty toks t w w':=by
 obtain ⟨v',h1,h2,h3,h4⟩:=h
 exact ⟨v',h1,h2,(GrS.of hg (by simp)).trans h3,fun g hx=>by rcases h4 g hx with h | h; exact .inl h; exact .inr (Nat.le_trans hg.size h)⟩
theorem PutPost.from {b o:Nat} {v:Value} {cs:Array Value} {ty:TypeId} {l:List Tok} {t:Tok} {w wx w':World} (hg:w.grownBy wx none) (h:PutPost b o v cs ty l t wx w'):PutPost b o v cs ty l t w w':=by
 obtain ⟨v',h1,h2,h3,h4⟩:=h
 exact ⟨v',h1,h2,(GrS.of hg (by simp)).trans h3,fun g hx=>by rcases h4 g hx with h | h; exact .inl h; exact .inr (Nat.le_trans hg.size h)⟩
set_option maxRecDepth 100000 in
set_option maxHeartbeats 4000000 in
theorem lastArr_w (U:Nat→Nat) (ru jn q b:Nat) (e:En) (tv wv:Value) (t:Tok) (w:World) (h:LastAt U q b ru jn e tv wv w) (ht4:t.length≤4) (ht:∀ g∈t,FtAt U g w) (he4:∀ x∈e.wait,x.length≤4) (hl1:e.toks.length≤1000000000) (hl2:e.wait.length≤1000000000) :
  Calls Tryz.prog 240 #[.pointer (some ⟨b,0,none⟩),tokV t] w fun e' w'=>e'=.returned (.tuple #[])∧∃ U' tv' wv',LastAt U' q b ru jn ⟨e.toks ++ [t],Hp.push Tok.less e.wait t⟩ tv' wv' w'∧GrS (Codes U q 0) w w'∧∀ k,k < w.heap.size→U' k=U k:=by
 have hne1:tv.ownBlock≠some b:=fun hx=>by have:=h.toks.2 b hx; have:=h.own; omega
 have hne2:wv.ownBlock≠some b:=fun hx=>by have:=h.wait.2 b hx; have:=h.own; omega
 obtain ⟨p0,p1,p2,p3,hp⟩:=tok_four t
 have eT:tokV t=.agg #[.pointer p0,.pointer p1,.pointer p2,.pointer p3]:=by unfold tokV; rw [hp]
 have hgA:=World.grownBy_alloc w (.cells #[.pointer p0,.pointer p1,.pointer p2,.pointer p3] 139) none
 have hnew:(w.alloc (.cells #[.pointer p0,.pointer p1,.pointer p2,.pointer p3] 139)).heap[w.heap.size]?=some (.cells #[.pointer p0,.pointer p1,.pointer p2,.pointer p3] 139 (0,0)):=heap_alloc_new _ _
 have hS1:∀ wx,(w.alloc (.cells #[.pointer p0,.pointer p1,.pointer p2,.pointer p3] 139)).grownBy wx none→Calls Tryz.prog 242 #[.pointer (some ⟨b,0,none⟩),.agg #[.pointer p0,.pointer p1,.pointer p2,.pointer p3]] wx fun e' w'=>e'=.returned (.tuple #[])∧KeepPost b 0 tv #[tv,wv,.int .i64 ru,.int .i64 jn] 147 e.toks t wx w':=by
  intro wx hg
  have hgg:=gr_trans hgA hg
  have:=keep_w b 0 tv #[tv,wv,.int .i64 ru,.int .i64 jn] 147 e.toks t wx (by rw [hgg.block b (row_lt h.blk) (by simp)]; exact h.blk) rfl (h.toks.1.gr hgg) hne1 hl1
  rw [eT] at this
  exact this
 rw [eT]
 have HH:=hide h
 have HT:=hide ht
 have HE:=hide he4
 have HNEW:=hide hnew
 have HGA:=hide hgA
 have HET:=hide eT
 clear h ht he4 hnew hgA eT hp
 go_enter Tryz.func240,Tryz.ntmps240
 go_wp2_with fail
 go_cut [] (fun wx=>∃ wy,(w.alloc (.cells #[.pointer p0,.pointer p1,.pointer p2,.pointer p3] 139)).grownBy wy none∧KeepPost b 0 tv #[tv,wv,.int .i64 ru,.int .i64 jn] 147 e.toks t wy wx)
 case first=>
  go_region_with (go_at_call 242; refine (hS1 _ (by repeat (first | exact World.grownBy.refl _ _ | apply gr_drew))).mono ?_; rintro e1 w1 ⟨rfl,hk1⟩)
  all_goals
   go_wp2_with fail
   go_meet
   exact ⟨_,by repeat (first | exact World.grownBy.refl _ _ | apply gr_drew),hk1⟩
 case rest=>
  obtain ⟨wy,hgy,tv',hb1,hr1,hG1,how1⟩:=hcut
  have hh:=unhide HH
  have hgw:=gr_trans (unhide HGA) hgy
  have hsz:=hgw.size
  have hG1w:GrS (fun k=>k=b∨tv.ownBlock=some k) w wc:=(GrS.of hgw (by simp)).trans hG1
  have hb1':wc.heap[b]?=some (.cells #[tv',wv,.int .i64 ru,.int .i64 jn] 147 (0,0)):=hb1
  have how1w:∀ g,tv'.ownBlock=some g→tv.ownBlock=some g∨w.heap.size≤g:=fun g hx=>by rcases how1 g hx with h | h; exact .inl h; exact .inr (by omega)
  have hU1:∀ k,k < w.heap.size→newU U w (5+3 * q) k=U k:=fun k hk=>newU_old hk
  have hsep:∀ k,U k≠4+3 * q→U k≠5+3 * q→¬ (k=b∨tv.ownBlock=some k):=by
   rintro k h1 h2 (rfl | hx)
   ·exact h1 hh.own
   ·exact h2 (hh.toks.2 k hx)
  have hw1:TRow (newU U w (5+3 * q)) (6+3 * q) 139 4 tokEnc wv e.wait wc:=hh.wait.keep2 hG1w (fun k hk=>hsep k (by omega) (by omega)) (fun k hk hx=>by rw [hU1 k hk]; exact hx)
  have hft:∀ g,FtAt U g w→FtAt (newU U w (5+3 * q)) g wc:=fun g hg=>hg.keep hG1w (fun k hk=>hsep k (by omega) (by omega)) (fun k hk hx=>by rw [hU1 k hk]; exact hx)
  have hblt:=row_lt hh.blk
  have hS2:∀ wx,wc.grownBy wx none→Calls Tryz.prog 243 #[.pointer (some ⟨b,1,none⟩),.agg #[.pointer p0,.pointer p1,.pointer p2,.pointer p3]] wx fun e' w'=>e'=.returned (.tuple #[])∧PutPost b 1 wv #[tv',wv,.int .i64 ru,.int .i64 jn] 147 e.wait t wx w':=by
   intro wx hg
   have:=put_w (newU U w (5+3 * q)) b 1 wv #[tv',wv,.int .i64 ru,.int .i64 jn] 147 e.wait t wx (by rw [hg.block b (row_lt hb1') (by simp)]; exact hb1') rfl (hw1.1.gr hg) hne2 hl2 (by rw [hU1 b hblt,hh.own]; omega) (fun g hx=>by rw [hw1.2 g hx]; omega)
    (fun x hx=>⟨unhide HE x hx,fun y hy=>(hft y (hh.wfs x hx y hy)).gr hg⟩) ⟨ht4,fun y hy=>(hft y (unhide HT y hy)).gr hg⟩
   rw [unhide HET] at this
   exact this
  have hnb:wc.heap[w.heap.size]?=some (.cells #[.pointer p0,.pointer p1,.pointer p2,.pointer p3] 139 (0,0)):=by
   have h1:wy.heap[w.heap.size]?=some (.cells #[.pointer p0,.pointer p1,.pointer p2,.pointer p3] 139 (0,0)):=by rw [hgy.block _ (row_lt (unhide HNEW)) (by simp)]; exact unhide HNEW
   refine hG1.blk h1 ?_
   rintro (h2 | h2)
   ·omega
   ·have:=(hh.toks.1.own _ h2).2; omega
  have n0:wc.cell? ⟨w.heap.size,0,none⟩=some (.pointer p0):=by simp [World.cell?,hnb]
  have n1:wc.cell? ⟨w.heap.size,1,none⟩=some (.pointer p1):=by simp [World.cell?,hnb]
  have n2:wc.cell? ⟨w.heap.size,2,none⟩=some (.pointer p2):=by simp [World.cell?,hnb]
  have n3:wc.cell? ⟨w.heap.size,3,none⟩=some (.pointer p3):=by simp [World.cell?,hnb]
  have HF:=hide (show GrS (fun k=>k=b∨tv.ownBlock=some k) w wc∧ToksAt tv' (e.toks ++ [t]) wc∧(∀ g,tv'.ownBlock=some g→tv.ownBlock=some g∨w.heap.size≤g)∧TRow (newU U w (5+3 * q)) (6+3 * q) 139 4 tokEnc wv e.wait wc∧(∀ g,FtAt U g w→FtAt (newU U w (5+3 * q)) g wc) from ⟨hG1w,hr1,how1w,hw1,hft⟩)
  clear hS1 hgy hb1 hr1 hG1 how1 hgw hG1w hb1' how1w hU1 hsep hw1 hft hnb hh
  go_wp2_with fail
  go_region_with (go_at_call 243; refine (hS2 _ (by repeat (first | exact World.grownBy.refl _ _ | apply gr_drew))).mono ?_; rintro e2 w2 ⟨rfl,hk2⟩)
  all_goals
   go_wp2_with fail
   go_end0
   obtain ⟨wv',hb2,hr2,hG2,how2⟩:=PutPost.from (by repeat (first | exact World.grownBy.refl wc _ | apply gr_drew)) hk2
   obtain ⟨f1,f2,f3,f4,f5⟩:=unhide HF
   have hh:=unhide HH
   refine ⟨rfl,newU (newU U w (5+3 * q)) wc (6+3 * q),tv',wv',⟨hb2,?_,⟨?_,?_⟩,⟨hr2,?_⟩,?_,?_,fun i hi=>by rw [newU_old (Nat.lt_trans hi (Nat.lt_of_lt_of_le hblt f1.size)),newU_old (Nat.lt_trans hi hblt)]; exact hh.low i hi⟩,?_,?_⟩
   ·rw [newU_old (Nat.lt_of_lt_of_le hblt f1.size),newU_old hblt]; exact hh.own
   ·refine hG2.row f2 (fun g hx=>?_)
    rintro (rfl | hy)
    ·rcases f3 g hx with h | h
     ·exact hne1 h
     ·omega
    ·have h1:=(hh.wait.1.own g hy).2
     rcases f3 g hx with h | h
     ·have:=hh.toks.2 g h; have:=hh.wait.2 g hy; omega
     ·omega
   ·intro g hx
    rw [newU_old (f2.own g hx).2]
    exact newU_own hh.toks.2 (fun g hx=>(hh.toks.1.own g hx).2) f3 g hx
   ·exact newU_own f4.2 (fun g hx=>(f4.1.own g hx).2) how2
   ·intro x hx g hg
    have hF:FtAt (newU U w (5+3 * q)) g wc:=by
     rcases List.mem_append.1 hx with hx | hx
     ·exact f5 g (hh.tfs x hx g hg)
     ·simp only [List.mem_singleton] at hx
      subst hx
      exact f5 g (unhide HT g hg)
    refine hF.keep hG2 (fun k hk=>?_) (fun k hk h1=>by rw [newU_old hk]; exact h1)
    rintro (rfl | hy)
    ·rw [newU_old hblt,hh.own] at hk; omega
    ·have:=f4.2 k hy; omega
   ·intro x hx g hg
    have hm:=(Hp.push_perm Tok.less e.wait t).mem_iff.1 hx
    have hF:FtAt (newU U w (5+3 * q)) g wc:=by
     rcases List.mem_append.1 hm with hm | hm
     ·exact f5 g (hh.wfs x hm g hg)
     ·simp only [List.mem_singleton] at hm
      subst hm
      exact f5 g (unhide HT g hg)
    refine hF.keep hG2 (fun k hk=>?_) (fun k hk h1=>by rw [newU_old hk]; exact h1)
    rintro (rfl | hy)
    ·rw [newU_old hblt,hh.own] at hk; omega
    ·have:=f4.2 k hy; omega
   ·refine (f1.mono (fun k hk=>?_)).comp hG2 (fun k hk hn=>?_)
    ·rcases hk with rfl | hy
     ·have:=hh.own; unfold Codes; omega
     ·have:=hh.toks.2 k hy; unfold Codes; omega
    ·rintro (rfl | hy)
     ·exact hn (by have:=hh.own; unfold Codes; omega)
     ·exact hn (by have:=hh.wait.2 k hy; unfold Codes; omega)
   ·intro k hk
    rw [newU_old (Nat.lt_of_lt_of_le hk f1.size),newU_old hk]
end Go.Proofs.YtolhbeekfjnfmaaGreatDoor
namespace Go.Proofs.YtolhbeekfjnfmaaGreatDoor
open Go.RowKit
def ArrPost (U:Nat→Nat) (ru jn q k:Nat) (ns:List Nd) (e:En) (hd:Value) (ts:List Tok) (w w':World):Prop:=
 ∃ U',SufAt U' ru jn q k (arr ns e ts).1 (arr ns e ts).2 hd w'∧GrS (Codes U q ns.length) w w'∧∀ i,i < w.heap.size→U' i=U i
def ArrOK (ru jn m:Nat):Prop:=∀ (ns:List Nd) (A:List Nat) (q b ty fn:Nat) (U:Nat→Nat) (e:En) (t:Tok) (w:World),ns.length=m→ArrFn ty fn→SufAt U ru jn q A.length ns e (.iface ty (.pointer (some ⟨b,0,none⟩))) w→WF A ns→HasAr A t→(∀ g∈t,FtAt U g w)→(∀ x∈e.wait,x.length≤4)→Small 1000000000 (arr ns e [t]).1 (arr ns e [t]).2→
 Calls Tryz.prog fn #[.pointer (some ⟨b,0,none⟩),tokV t] w fun e' w'=>e'=.returned (.tuple #[])∧ArrPost U ru jn q A.length ns e (.iface ty (.pointer (some ⟨b,0,none⟩))) [t] w w'
theorem arr_cons (n:Nd) (ns:List Nd) (e:En) (t:Tok):arr (n :: ns) e [t]=({ n with toks:=n.toks ++ [t] } :: (arr ns e (n.ext t)).1,(arr ns e (n.ext t)).2):=by
 simp [arr,arrives]
theorem arrOK0 (ru jn:Nat):ArrOK ru jn 0:=by
 intro ns A q b ty fn U e t w hm hfn h hW hA ht he hS
 have:ns=[]:=List.length_eq_zero_iff.1 hm
 subst this
 obtain ⟨b',tv,wv,h1,h2⟩:=h
 simp only [Value.iface.injEq,Value.pointer.injEq,Option.some.injEq,Addr.mk.injEq,and_true] at h1
 obtain ⟨rfl,rfl⟩:=h1
 have hf:fn=240:=by
  rcases hfn with ⟨_,h⟩ | ⟨h,_⟩ | ⟨h,_⟩
  ·exact h
  ·exact absurd h (by decide)
  ·exact absurd h (by decide)
 subst hf
 obtain ⟨_,s1,s2⟩:=Small.of_arr hS
 refine (lastArr_w U ru jn q b e tv wv t w h2 (by rw [hA.len]; exact hW) ht he s1 s2).mono ?_
 rintro e' w' ⟨rfl,U',tv',wv',h3,h4,h5⟩
 exact ⟨rfl,U',⟨b,tv',wv',rfl,h3⟩,h4,h5⟩
theorem keepNode {U:Nat→Nat} {q k b:Nat} {n:Nd} {nx tv lv ov fv:Value} {t:Tok} {w wx w1:World} (h:NodeAt U q k b n nx tv lv ov fv w) (ht:∀ g∈t,FtAt U g w) (hg:w.grownBy wx none) (hk:KeepPost b 3 ov (ndCells n k tv lv ov fv nx) (ndTy n.c.neg) n.toks t wx w1) :
  ∃ ov',NodeAt (newU U w (5+3 * q)) q k b { n with toks:=n.toks ++ [t] } nx tv lv ov' fv w1∧GrS (fun i=>4+3 * q≤U i∧U i < 6+3 * q) w w1:=by
 obtain ⟨ov',k1,k2,k3,k4⟩:=KeepPost.from hg hk
 rw [ndCells_set3 (n:=n) (n':={ n with toks:=n.toks ++ [t] }) rfl] at k1
 have hsm:∀ i,(i=b∨ov.ownBlock=some i)→4+3 * q≤U i∧U i < 6+3 * q:=by
  rintro i (rfl | hx)
  ·have:=h.own; omega
  ·have:=h.toks.2 i hx; omega
 have hs:∀ i,U i=1∨U i=6+3 * q→¬ (i=b∨ov.ownBlock=some i):=fun i hi hx=>by have:=hsm i hx; omega
 have ho:∀ c i,i < w.heap.size→U i=c→newU U w (5+3 * q) i=c:=fun c i hi hx=>by rw [newU_old hi]; exact hx
 have hf:∀ g,FtAt U g w→FtAt (newU U w (5+3 * q)) g w1:=fun g hg=>hg.keep k3 (fun i hi=>hs i (.inl hi)) (ho 1)
 refine ⟨ov',⟨k1,ho _ b (row_lt h.blk) h.own,h.terms.keep2 k3 (fun i hi=>hs i (.inl hi)) (ho 1),h.links.keep2 k3 (fun i hi=>hs i (.inl hi)) (ho 1),⟨k2,newU_own h.toks.2 (fun g hx=>(h.toks.1.own g hx).2) k4⟩,h.facts.keep2 k3 (fun i hi=>hs i (.inr hi)) (ho _),fun g hg=>hf g (h.fts g hg),?_,h.short,fun i hi=>by rw [newU_old (Nat.lt_trans hi (row_lt h.blk))]; exact h.low i hi⟩,k3.mono hsm⟩
 intro x hx g hg
 rcases List.mem_append.1 hx with hx | hx
 ·exact hf g (h.tfs x hx g hg)
 ·simp only [List.mem_singleton] at hx
  subst hx
  exact hf g (ht g hg)
theorem upNode {U U1:Nat→Nat} {ru jn q k k' b:Nat} {n1:Nd} {ns:List Nd} {e:En} {X:List Tok} {nx tv lv ov fv:Value} {w w2 wx w5:World} (h:NodeAt U1 q k b n1 nx tv lv ov fv w2) (hG:GrS (fun i=>4+3 * q≤U i∧U i < 7+3 * (q+ns.length+1)) w w2) (hU:∀ i,i < w.heap.size→U1 i=U i) (hg:w2.grownBy wx none) (hP:ArrPost U1 ru jn (q+1) k' ns e nx X wx w5) :
  ∃ U',NodeAt U' q k b n1 nx tv lv ov fv w5∧SufAt U' ru jn (q+1) k' (arr ns e X).1 (arr ns e X).2 nx w5∧GrS (fun i=>4+3 * q≤U i∧U i < 7+3 * (q+ns.length+1)) w w5∧(∀ i,i < w.heap.size→U' i=U i)∧∀ i,i < w2.heap.size→U' i=U1 i:=by
 obtain ⟨U',s1,s2,s3⟩:=hP
 have hx:NodeAt U1 q k b n1 nx tv lv ov fv wx:=h.keep (S:=fun _=>False) (GrS.of hg (by simp)) (by simp) (fun _ _ _=>rfl)
 refine ⟨U',hx.keep s2 (fun i hi hc=>by unfold Codes at hc; omega) (fun i hi _=>s3 i hi),s1,?_,fun i hi=>?_,fun i hi=>s3 i (Nat.lt_of_lt_of_le hi hg.size)⟩
 ·refine (hG.then hg (by simp)).comp s2 (fun i hi hn hc=>hn ?_)
  unfold Codes at hc
  rw [hU i hi] at hc
  omega
 ·have:=hG.size
  have:=hg.size
  rw [s3 i (by omega)]; exact hU i hi
set_option maxRecDepth 100000 in
set_option maxHeartbeats 4000000 in
theorem holdArr_w (ru jn m:Nat) (ih:ArrOK ru jn m) (U:Nat→Nat) (A:List Nat) (q b:Nat) (n:Nd) (ns:List Nd) (e:En) (t:Tok) (w:World) (hm:ns.length=m) (hneg:n.c.neg=true) (h:SufAt U ru jn q A.length (n :: ns) e (.iface 209 (.pointer (some ⟨b,0,none⟩))) w) (hW:WF A (n :: ns)) (hA:HasAr A t) (ht:∀ g∈t,FtAt U g w) (he:∀ x∈e.wait,x.length≤4)
  (hS:Small 1000000000 (arr (n :: ns) e [t]).1 (arr (n :: ns) e [t]).2) :
  Calls Tryz.prog 257 #[.pointer (some ⟨b,0,none⟩),tokV t] w fun e' w'=>e'=.returned (.tuple #[])∧ArrPost U ru jn q A.length (n :: ns) e (.iface 209 (.pointer (some ⟨b,0,none⟩))) [t] w w':=by
 obtain ⟨b',nx,tv,lv,ov,fv,h1,h2,h3⟩:=h
 simp only [Value.iface.injEq,Value.pointer.injEq,Option.some.injEq,Addr.mk.injEq,and_true] at h1
 obtain ⟨hty,rfl⟩:=h1
 clear hty
 rw [if_pos hneg] at h3
 have hne1:ov.ownBlock≠some b:=fun hx=>by have:=h2.toks.2 b hx; have:=h2.own; omega
 have hW':=hW.2.2.2.2
 rw [if_pos hneg] at hW'
 have hfit:=fun f (hf:f∈n.K)=>hW.fit hA (f:=f) (hW.2.2.1 f hf)
 rw [arr_cons] at hS
 have hl3:n.toks.length≤1000000000:=by
  have:(n.toks ++ [t]).length≤1000000000:=hS.1 _ (List.mem_cons_self ..)
  rw [List.length_append] at this
  omega
 have hS':Small 1000000000 (arr ns e (n.ext t)).1 (arr ns e (n.ext t)).2:=⟨fun x hx=>hS.1 x (List.mem_cons_of_mem _ hx),hS.2.1,hS.2.2⟩
 obtain ⟨p0,p1,p2,p3,hp⟩:=tok_four t
 have eT:tokV t=.agg #[.pointer p0,.pointer p1,.pointer p2,.pointer p3]:=by unfold tokV; rw [hp]
 have hgA:=World.grownBy_alloc w (.cells #[.pointer p0,.pointer p1,.pointer p2,.pointer p3] 139) none
 have hnew:(w.alloc (.cells #[.pointer p0,.pointer p1,.pointer p2,.pointer p3] 139)).heap[w.heap.size]?=some (.cells #[.pointer p0,.pointer p1,.pointer p2,.pointer p3] 139 (0,0)):=heap_alloc_new _ _
 have hS1:∀ wx,(w.alloc (.cells #[.pointer p0,.pointer p1,.pointer p2,.pointer p3] 139)).grownBy wx none→Calls Tryz.prog 242 #[.pointer (some ⟨b,3,none⟩),.agg #[.pointer p0,.pointer p1,.pointer p2,.pointer p3]] wx fun e' w'=>e'=.returned (.tuple #[])∧KeepPost b 3 ov (ndCells n A.length tv lv ov fv nx) (ndTy n.c.neg) n.toks t wx w':=by
  intro wx hg
  have hgg:=gr_trans hgA hg
  have:=keep_w b 3 ov (ndCells n A.length tv lv ov fv nx) (ndTy n.c.neg) n.toks t wx (by rw [hgg.block b (row_lt h2.blk) (by simp)]; exact h2.blk) ndCells_get.1 (h2.toks.1.gr hgg) hne1 hl3
  rw [eT] at this
  exact this
 rw [eT]
 have hA4:t.length≤4:=by rw [hA.len]; exact hW.le
 have HH:=hide h2
 have H3:=hide h3
 have HT:=hide ht
 have HE:=hide he
 have HNEW:=hide hnew
 have HGA:=hide hgA
 have HET:=hide eT
 have HW:=hide (show WF A ns∧HasAr A t∧Small 1000000000 (arr ns e (n.ext t)).1 (arr ns e (n.ext t)).2 from ⟨hW',hA,hS'⟩)
 have HFIT:=hide hfit
 clear h2 ht he hnew hgA eT hp hW hA hS hS' hW' hfit
 have hhd:=h3.head
 clear h3
 have mL:=Tryz.mArrL
 have mJ:=Tryz.mArrJ
 have mH:=Tryz.mArrH
 obtain ⟨ty2,fn2,b2,rfl,hfn2⟩:∃ ty2 fn2 b2,nx=.iface ty2 (.pointer (some ⟨b2,0,none⟩))∧ArrFn ty2 fn2:=by
  rcases hhd with ⟨b2,rfl,_⟩ | ⟨b2,n2,ns2,rfl,_⟩ | ⟨b2,n2,ns2,rfl,_⟩
  ·exact ⟨_,_,b2,rfl,.inl ⟨rfl,rfl⟩⟩
  ·exact ⟨_,_,b2,rfl,.inr (.inl ⟨rfl,rfl⟩)⟩
  ·exact ⟨_,_,b2,rfl,.inr (.inr ⟨rfl,rfl⟩)⟩
 clear hhd
 go_enter Tryz.func257,Tryz.ntmps257
 go_wp2_with fail
 go_cut [] (fun wx=>∃ wy,(w.alloc (.cells #[.pointer p0,.pointer p1,.pointer p2,.pointer p3] 139)).grownBy wy none∧KeepPost b 3 ov (ndCells n A.length tv lv ov fv (.iface ty2 (.pointer (some ⟨b2,0,none⟩)))) (ndTy n.c.neg) n.toks t wy wx)
 case first=>
  go_region_with (go_at_call 242; refine (hS1 _ (by repeat (first | exact World.grownBy.refl _ _ | apply gr_drew))).mono ?_; rintro e1 w1 ⟨rfl,hk1⟩)
  all_goals
   go_wp2_with fail
   go_meet
   exact ⟨_,by repeat (first | exact World.grownBy.refl _ _ | apply gr_drew),hk1⟩
 case rest=>
  obtain ⟨wy,hgy,hkp⟩:=hcut
  have hh:=unhide HH
  have hgw:=gr_trans (unhide HGA) hgy
  obtain ⟨ov',hN1,hG1⟩:=keepNode hh (unhide HT) hgw hkp
  have hft:∀ g∈t,FtAt (newU U w (5+3 * q)) g wc:=fun g hg=>(unhide HT g hg).keep hG1 (fun i hi hx=>by omega) (fun i hi hx=>by rw [newU_old hi]; exact hx)
  have hS31:SufAt (newU U w (5+3 * q)) ru jn (q+1) A.length ns e (.iface ty2 (.pointer (some ⟨b2,0,none⟩))) wc:=(unhide H3).keep hG1 (fun i hi hx=>by omega) (fun i hi _=>newU_old hi)
  have hB:=blocked_w (newU U w (5+3 * q)) q A.length b { n with toks:=n.toks ++ [t] } _ tv lv ov' fv t wc hN1 hA4 hft (unhide HFIT)
  have hnb:wc.heap[w.heap.size]?=some (.cells #[.pointer p0,.pointer p1,.pointer p2,.pointer p3] 139 (0,0)):=by
   obtain ⟨v',_,_,k3,_⟩:=hkp
   have h1:wy.heap[w.heap.size]?=some (.cells #[.pointer p0,.pointer p1,.pointer p2,.pointer p3] 139 (0,0)):=by rw [hgy.block _ (row_lt (unhide HNEW)) (by simp)]; exact unhide HNEW
   refine k3.blk h1 ?_
   rintro (h2 | h2)
   ·have:=row_lt hh.blk; omega
   ·have:=(hh.toks.1.own _ h2).2; omega
  rw [unhide HET] at hB
  have n0:wc.cell? ⟨w.heap.size,0,none⟩=some (.pointer p0):=by simp [World.cell?,hnb]
  have n1:wc.cell? ⟨w.heap.size,1,none⟩=some (.pointer p1):=by simp [World.cell?,hnb]
  have n2:wc.cell? ⟨w.heap.size,2,none⟩=some (.pointer p2):=by simp [World.cell?,hnb]
  have n3:wc.cell? ⟨w.heap.size,3,none⟩=some (.pointer p3):=by simp [World.cell?,hnb]
  obtain ⟨r,hr⟩:∃ r,n.K.any (fun g=>fitL n.links t g.f)=r:=⟨_,rfl⟩
  have hB':Calls Tryz.prog 141 #[.pointer (some ⟨b,0,none⟩),.agg #[.pointer p0,.pointer p1,.pointer p2,.pointer p3]] wc fun e w'=>e=.returned (.bool r)∧wc.grownBy w' none:=by rw [←hr]; exact hB
  have HF:=hide (show NodeAt (newU U w (5+3 * q)) q A.length b { n with toks:=n.toks ++ [t] } (.iface ty2 (.pointer (some ⟨b2,0,none⟩))) tv lv ov' fv wc∧GrS (fun i=>4+3 * q≤U i∧U i < 6+3 * q) w wc∧(∀ g∈t,FtAt (newU U w (5+3 * q)) g wc)∧SufAt (newU U w (5+3 * q)) ru jn (q+1) A.length ns e (.iface ty2 (.pointer (some ⟨b2,0,none⟩))) wc from ⟨hN1,hG1,hft,hS31⟩)
  have HNB:=hide hnb
  have HR:=hide hr
  clear hS1 hgy hkp hgw hN1 hG1 hft hS31 hB hnb hh hr
  go_wp2_with fail
  refine hB'.mono ?_
  rintro e1 w2 ⟨rfl,hg2⟩
  clear hB'
  obtain ⟨f1,f2,f3,f4⟩:=unhide HF
  cases r with
  | true=>
   have hext:n.ext t=[]:=by unfold Nd.ext; rw [if_pos hneg,unhide HR,if_pos rfl]
   have HX:=hide hext
   have HFF:=hide (show NodeAt (newU U w (5+3 * q)) q A.length b { n with toks:=n.toks ++ [t] } (.iface ty2 (.pointer (some ⟨b2,0,none⟩))) tv lv ov' fv w2∧GrS (fun i=>4+3 * q≤U i∧U i < 6+3 * q) w w2∧SufAt (newU U w (5+3 * q)) ru jn (q+1) A.length ns e (.iface ty2 (.pointer (some ⟨b2,0,none⟩))) w2 from ⟨f1.keep (S:=fun _=>False) (GrS.of hg2 (by simp)) (by simp) (fun _ _ _=>rfl),f2.then hg2 (by simp),f4.gr hg2⟩)
   clear f1 f2 f3 f4 hext n0 n1 n2 n3
   go_wp2
   go_end0
   obtain ⟨g1,g2,g3⟩:=unhide HFF
   refine ⟨rfl,newU U w (5+3 * q),?_,g2.mono (fun i hi=>by unfold Codes; omega),fun i hi=>newU_old hi⟩
   rw [arr_cons,unhide HX]
   unfold arr
   rw [arrives_nil]
   exact ⟨b,_,tv,lv,ov',fv,by unfold ndPTy; rw [if_pos hneg],g1,by rw [if_pos hneg]; exact g3⟩
  | false=>
   have hext:n.ext t=[t]:=by unfold Nd.ext; rw [if_pos hneg,unhide HR,if_neg (by simp)]
   obtain ⟨w1,w2',w3⟩:=unhide HW
   rw [hext] at w3
   have hIH:∀ wx,w2.grownBy wx none→Calls Tryz.prog fn2 #[.pointer (some ⟨b2,0,none⟩),.agg #[.pointer p0,.pointer p1,.pointer p2,.pointer p3]] wx fun e' w'=>e'=.returned (.tuple #[])∧ArrPost (newU U w (5+3 * q)) ru jn (q+1) A.length ns e (.iface ty2 (.pointer (some ⟨b2,0,none⟩))) [t] wx w':=by
    intro wx hgx
    have hgg:=gr_trans hg2 hgx
    have:=ih ns A (q+1) b2 ty2 fn2 (newU U w (5+3 * q)) e t wx hm hfn2 (f4.gr hgg) w1 w2' (fun g hg=>(f3 g hg).gr hgg) (unhide HE) w3
    rw [unhide HET] at this
    exact this
   have m0:=hg2.cell n0 (by simp)
   have m1:=hg2.cell n1 (by simp)
   have m2:=hg2.cell n2 (by simp)
   have m3:=hg2.cell n3 (by simp)
   have c5:=hg2.cell (f1.cell 5 (by omega)) (by simp)
   have HX:=hide hext
   have HFF:=hide (show NodeAt (newU U w (5+3 * q)) q A.length b { n with toks:=n.toks ++ [t] } (.iface ty2 (.pointer (some ⟨b2,0,none⟩))) tv lv ov' fv w2∧GrS (fun i=>4+3 * q≤U i∧U i < 6+3 * q) w w2 from ⟨f1.keep (S:=fun _=>False) (GrS.of hg2 (by simp)) (by simp) (fun _ _ _=>rfl),f2.then hg2 (by simp)⟩)
   clear f1 f2 f3 f4 hext n0 n1 n2 n3 w1 w2' w3 hg2
   rcases hfn2 with ⟨rfl,rfl⟩ | ⟨rfl,rfl⟩ | ⟨rfl,rfl⟩
   ·go_wp2
    go_region_with (go_at_call 240; refine (hIH _ (by repeat (first | exact World.grownBy.refl _ _ | apply gr_drew))).mono ?_; rintro e3 w5 ⟨rfl,hP5⟩)
    all_goals
     go_wp2_with fail
     go_end0
     obtain ⟨g1,g2⟩:=unhide HFF
     obtain ⟨U',u1,u2,u3,u4,_⟩:=upNode g1 (g2.mono (fun i hi=>by omega)) (fun i hi=>newU_old hi) (by repeat (first | exact World.grownBy.refl w2 _ | apply gr_drew)) hP5
     refine ⟨rfl,U',?_,u3.mono (fun i hi=>by unfold Codes; rw [List.length_cons]; omega),u4⟩
     rw [arr_cons,unhide HX]
     exact ⟨b,_,tv,lv,ov',fv,by unfold ndPTy; rw [if_pos hneg],u1,by rw [if_pos hneg]; exact u2⟩
   ·go_wp2
    go_region_with (go_at_call 257; refine (hIH _ (by repeat (first | exact World.grownBy.refl _ _ | apply gr_drew))).mono ?_; rintro e3 w5 ⟨rfl,hP5⟩)
    all_goals
     go_wp2_with fail
     go_end0
     obtain ⟨g1,g2⟩:=unhide HFF
     obtain ⟨U',u1,u2,u3,u4,_⟩:=upNode g1 (g2.mono (fun i hi=>by omega)) (fun i hi=>newU_old hi) (by repeat (first | exact World.grownBy.refl w2 _ | apply gr_drew)) hP5
     refine ⟨rfl,U',?_,u3.mono (fun i hi=>by unfold Codes; rw [List.length_cons]; omega),u4⟩
     rw [arr_cons,unhide HX]
     exact ⟨b,_,tv,lv,ov',fv,by unfold ndPTy; rw [if_pos hneg],u1,by rw [if_pos hneg]; exact u2⟩
   ·go_wp2
    go_region_with (go_at_call 255; refine (hIH _ (by repeat (first | exact World.grownBy.refl _ _ | apply gr_drew))).mono ?_; rintro e3 w5 ⟨rfl,hP5⟩)
    all_goals
     go_wp2_with fail
     go_end0
     obtain ⟨g1,g2⟩:=unhide HFF
     obtain ⟨U',u1,u2,u3,u4,_⟩:=upNode g1 (g2.mono (fun i hi=>by omega)) (fun i hi=>newU_old hi) (by repeat (first | exact World.grownBy.refl w2 _ | apply gr_drew)) hP5
     refine ⟨rfl,U',?_,u3.mono (fun i hi=>by unfold Codes; rw [List.length_cons]; omega),u4⟩
     rw [arr_cons,unhide HX]
     exact ⟨b,_,tv,lv,ov',fv,by unfold ndPTy; rw [if_pos hneg],u1,by rw [if_pos hneg]; exact u2⟩
end Go.Proofs.YtolhbeekfjnfmaaGreatDoor
namespace Go.Proofs.YtolhbeekfjnfmaaGreatDoor
open Go.RowKit
def joinX (n:Nd) (t:Tok) (j:Nat):List Tok:=((n.K.take j).filter (fun g=>fitL n.links t g.f)).map (fun g=>t ++ [g])
theorem joinX_succ {n:Nd} {t:Tok} {j:Nat} {f:Ft} (h:n.K[j]?=some f):joinX n t (j+1)=joinX n t j ++ (if fitL n.links t f.f=true then [t ++ [f]] else []):=by
 unfold joinX
 rw [filter_take_succ _ h,List.map_append]
 congr 1
 split<;>rfl
theorem joinX_pre (n:Nd) (t:Tok) (j:Nat):∃ Y,joinX n t n.K.length=joinX n t j ++ Y:=by
 refine ⟨((n.K.drop j).filter (fun g=>fitL n.links t g.f)).map (fun g=>t ++ [g]),?_⟩
 unfold joinX
 rw [List.take_length,←List.map_append,←List.filter_append,List.take_append_drop]
theorem joinX_ar {n:Nd} {ns:List Nd} {A:List Nat} {t:Tok} (h:WF A (n :: ns)) (hA:HasAr A t) (j:Nat):∀ u∈joinX n t j,HasAr (A ++ [n.c.terms.length]) u:=by
 intro u hu
 obtain ⟨g,hg,rfl⟩:=List.mem_map.1 hu
 have hk:=h.2.2.1 g (List.mem_of_mem_take (List.mem_filter.1 hg).1)
 rw [←hk]
 exact hA.snoc g
theorem ext_joinX {n:Nd} (hn:n.c.neg=false) (t:Tok):n.ext t=joinX n t n.K.length:=by
 unfold Nd.ext joinX
 rw [if_neg (by simp [hn]),List.take_length]
set_option maxRecDepth 100000 in
set_option maxHeartbeats 8000000 in
theorem joinArr_w (ru jn m:Nat) (ih:ArrOK ru jn m) (U:Nat→Nat) (A:List Nat) (q b:Nat) (n:Nd) (ns:List Nd) (e:En) (t:Tok) (w:World) (hm:ns.length=m) (hneg:n.c.neg=false) (h:SufAt U ru jn q A.length (n :: ns) e (.iface 208 (.pointer (some ⟨b,0,none⟩))) w) (hW:WF A (n :: ns)) (hA:HasAr A t) (ht:∀ g∈t,FtAt U g w) (he:∀ x∈e.wait,x.length≤4)
  (hS:Small 1000000000 (arr (n :: ns) e [t]).1 (arr (n :: ns) e [t]).2) :
  Calls Tryz.prog 255 #[.pointer (some ⟨b,0,none⟩),tokV t] w fun e' w'=>e'=.returned (.tuple #[])∧ArrPost U ru jn q A.length (n :: ns) e (.iface 208 (.pointer (some ⟨b,0,none⟩))) [t] w w':=by
 obtain ⟨b',nx,tv,lv,ov,fv,h1,h2,h3⟩:=h
 simp only [Value.iface.injEq,Value.pointer.injEq,Option.some.injEq,Addr.mk.injEq,and_true] at h1
 obtain ⟨hty,rfl⟩:=h1
 clear hty
 rw [if_neg (by simp [hneg])] at h3
 have hne1:ov.ownBlock≠some b:=fun hx=>by have:=h2.toks.2 b hx; have:=h2.own; omega
 have hW':=hW.2.2.2.2
 rw [if_neg (by simp [hneg])] at hW'
 have hfit:=fun f (hf:f∈n.K)=>hW.fit hA (f:=f) (hW.2.2.1 f hf)
 have hXA:=fun j=>joinX_ar hW hA j
 rw [arr_cons,ext_joinX hneg] at hS
 have hl3:n.toks.length≤1000000000:=by
  have:(n.toks ++ [t]).length≤1000000000:=hS.1 _ (List.mem_cons_self ..)
  rw [List.length_append] at this
  omega
 have hS':Small 1000000000 (arr ns e (joinX n t n.K.length)).1 (arr ns e (joinX n t n.K.length)).2:=⟨fun x hx=>hS.1 x (List.mem_cons_of_mem _ hx),hS.2.1,hS.2.2⟩
 have hA4:A.length < 4:=by have:=hW.1; rw [if_neg (by simp [hneg])] at this; omega
 obtain ⟨p0,p1,p2,p3,hp⟩:=tok_four t
 have eT:tokV t=.agg #[.pointer p0,.pointer p1,.pointer p2,.pointer p3]:=by unfold tokV; rw [hp]
 have hgA:=World.grownBy_alloc w (.cells #[.pointer p0,.pointer p1,.pointer p2,.pointer p3] 139) none
 have hnew:(w.alloc (.cells #[.pointer p0,.pointer p1,.pointer p2,.pointer p3] 139)).heap[w.heap.size]?=some (.cells #[.pointer p0,.pointer p1,.pointer p2,.pointer p3] 139 (0,0)):=heap_alloc_new _ _
 have hS1:∀ wx,(w.alloc (.cells #[.pointer p0,.pointer p1,.pointer p2,.pointer p3] 139)).grownBy wx none→Calls Tryz.prog 242 #[.pointer (some ⟨b,3,none⟩),.agg #[.pointer p0,.pointer p1,.pointer p2,.pointer p3]] wx fun e' w'=>e'=.returned (.tuple #[])∧KeepPost b 3 ov (ndCells n A.length tv lv ov fv nx) (ndTy n.c.neg) n.toks t wx w':=by
  intro wx hg
  have hgg:=gr_trans hgA hg
  have:=keep_w b 3 ov (ndCells n A.length tv lv ov fv nx) (ndTy n.c.neg) n.toks t wx (by rw [hgg.block b (row_lt h2.blk) (by simp)]; exact h2.blk) ndCells_get.1 (h2.toks.1.gr hgg) hne1 hl3
  rw [eT] at this
  exact this
 rw [eT]
 have hKl:=h2.facts.1.le
 unfold maxLen at hKl
 obtain ⟨fa,fcap,hfv⟩:=h2.facts.1.slice
 have HH:=hide h2
 have H3:=hide h3
 have HT:=hide ht
 have HE:=hide he
 have HNEW:=hide hnew
 have HGA:=hide hgA
 have HET:=hide eT
 have HFV:=hide hfv
 have HW:=hide (show WF (A ++ [n.c.terms.length]) ns∧HasAr A t∧Small 1000000000 (arr ns e (joinX n t n.K.length)).1 (arr ns e (joinX n t n.K.length)).2∧(∀ j,∀ u∈joinX n t j,HasAr (A ++ [n.c.terms.length]) u) from ⟨hW',hA,hS',hXA⟩)
 have HFIT:=hide hfit
 clear h2 ht he hnew hgA eT hp hW hS hS' hW' hfit hXA hfv
 have hhd:=h3.head
 clear h3
 have mL:=Tryz.mArrL
 have mJ:=Tryz.mArrJ
 have mH:=Tryz.mArrH
 obtain ⟨ty2,fn2,b2,rfl,hfn2⟩:∃ ty2 fn2 b2,nx=.iface ty2 (.pointer (some ⟨b2,0,none⟩))∧ArrFn ty2 fn2:=by
  rcases hhd with ⟨b2,rfl,_⟩ | ⟨b2,n2,ns2,rfl,_⟩ | ⟨b2,n2,ns2,rfl,_⟩
  ·exact ⟨_,_,b2,rfl,.inl ⟨rfl,rfl⟩⟩
  ·exact ⟨_,_,b2,rfl,.inr (.inl ⟨rfl,rfl⟩)⟩
  ·exact ⟨_,_,b2,rfl,.inr (.inr ⟨rfl,rfl⟩)⟩
 clear hhd
 go_enter Tryz.func255,Tryz.ntmps255
 go_wp2_with fail
 go_cut [] (fun wx=>∃ wy,(w.alloc (.cells #[.pointer p0,.pointer p1,.pointer p2,.pointer p3] 139)).grownBy wy none∧KeepPost b 3 ov (ndCells n A.length tv lv ov fv (.iface ty2 (.pointer (some ⟨b2,0,none⟩)))) (ndTy n.c.neg) n.toks t wy wx)
 case first=>
  go_region_with (go_at_call 242; refine (hS1 _ (by repeat (first | exact World.grownBy.refl _ _ | apply gr_drew))).mono ?_; rintro e1 w1 ⟨rfl,hk1⟩)
  all_goals
   go_wp2_with fail
   go_meet
   exact ⟨_,by repeat (first | exact World.grownBy.refl _ _ | apply gr_drew),hk1⟩
 case rest=>
  obtain ⟨wy,hgy,hkp⟩:=hcut
  have hh:=unhide HH
  have hgw:=gr_trans (unhide HGA) hgy
  obtain ⟨ov',hN1,hG1⟩:=keepNode hh (unhide HT) hgw hkp
  have hS31:SufAt (newU U w (5+3 * q)) ru jn (q+1) (A.length+1) ns e (.iface ty2 (.pointer (some ⟨b2,0,none⟩))) wc:=(unhide H3).keep hG1 (fun i hi hx=>by omega) (fun i hi _=>newU_old hi)
  have hnb:wc.heap[w.heap.size]?=some (.cells #[.pointer p0,.pointer p1,.pointer p2,.pointer p3] 139 (0,0)):=by
   obtain ⟨v',_,_,k3,_⟩:=hkp
   have h1:wy.heap[w.heap.size]?=some (.cells #[.pointer p0,.pointer p1,.pointer p2,.pointer p3] 139 (0,0)):=by rw [hgy.block _ (row_lt (unhide HNEW)) (by simp)]; exact unhide HNEW
   refine k3.blk h1 ?_
   rintro (h2 | h2)
   ·have:=row_lt hh.blk; omega
   ·have:=(hh.toks.1.own _ h2).2; omega
  have c4:=hN1.cell 4 (by omega)
  have hc4:wc.cell? ⟨b,4,none⟩=some (.slice fa n.K.length fcap):=by rw [c4]; simp [unhide HFV]
  have HF:=hide (show NodeAt (newU U w (5+3 * q)) q A.length b { n with toks:=n.toks ++ [t] } (.iface ty2 (.pointer (some ⟨b2,0,none⟩))) tv lv ov' fv wc∧SufAt (newU U w (5+3 * q)) ru jn (q+1) (A.length+1) (arr ns e (joinX n t 0)).1 (arr ns e (joinX n t 0)).2 (.iface ty2 (.pointer (some ⟨b2,0,none⟩))) wc∧GrS (fun i=>4+3 * q≤U i∧U i < 7+3 * (q+ns.length+1)) w wc∧(∀ i,i < w.heap.size→newU U w (5+3 * q) i=U i)∧newU U w (5+3 * q) w.heap.size=5+3 * q∧wc.heap[w.heap.size]?=some (.cells #[.pointer p0,.pointer p1,.pointer p2,.pointer p3] 139 (0,0)) from
   ⟨hN1,by unfold joinX arr; simp only [List.take_zero,List.filter_nil,List.map_nil]; rw [arrives_nil]; exact hS31,hG1.mono (fun i hi=>by omega),fun i hi=>newU_old hi,newU_new (Nat.le_refl _),hnb⟩)
  clear hS1 hgy hkp hgw hN1 hG1 hS31 hnb hh c4
  go_wp2
  clear hc4
  go_loopw [18] (fun x w'=>∃ j:Nat,j≤n.K.length∧x=.int .i64 j∧Hid (∃ Ux,NodeAt Ux q A.length b { n with toks:=n.toks ++ [t] } (.iface ty2 (.pointer (some ⟨b2,0,none⟩))) tv lv ov' fv w'∧SufAt Ux ru jn (q+1) (A.length+1) (arr ns e (joinX n t j)).1 (arr ns e (joinX n t j)).2 (.iface ty2 (.pointer (some ⟨b2,0,none⟩))) w'∧GrS (fun i=>4+3 * q≤U i∧U i < 7+3 * (q+ns.length+1)) w w'∧(∀ i,i < w.heap.size→Ux i=U i)∧Ux w.heap.size=5+3 * q∧w'.heap[w.heap.size]?=some (.cells #[.pointer p0,.pointer p1,.pointer p2,.pointer p3] 139 (0,0)))) (fun x _=>n.K.length - (intOf x).toNat)
  case atStart=>exact ⟨0,Nat.zero_le _,rfl,hide ⟨_,unhide HF⟩⟩
  case round=>
   clear HF
   obtain ⟨j,hj,rfl,HK⟩:=hrel
   obtain ⟨Ux,x1,x2,x3,x4,x5,x6⟩:=unhide HK
   clear HK
   by_cases hlt:j < n.K.length
   ·have hd:decide (j < n.K.length)=true:=by simpa using hlt
    obtain ⟨f,hf⟩:∃ f,n.K[j]?=some f:=⟨_,List.getElem?_eq_getElem hlt⟩
    obtain ⟨g,cap',e1,c0⟩:=FsAt.cell x1.facts.1 hf
    rw [unhide HFV] at e1
    simp only [Value.slice.injEq,true_and] at e1
    obtain ⟨rfl,rfl⟩:=e1
    have hfm:=List.mem_of_getElem? hf
    have hXs:=joinX_succ (n:=n) (t:=t) hf
    have hft:∀ g∈t,FtAt Ux g wr:=fun g hg=>x1.tfs t (List.mem_append.2 (.inr (List.mem_singleton.2 rfl))) g hg
    obtain ⟨w1,w2,w3,w4⟩:=unhide HW
    have hlA:(A ++ [n.c.terms.length]).length=A.length+1:=by simp
    have hlen:(arr ns e (joinX n t j)).1.length=ns.length:=arrives_len _ _ _ _
    have hIH:fitL n.links t f.f=true→∀ wx,wr.grownBy wx none→Calls Tryz.prog fn2 #[.pointer (some ⟨b2,0,none⟩),tokV (t ++ [f])] wx fun e' w'=>e'=.returned (.tuple #[])∧ArrPost Ux ru jn (q+1) (A.length+1) (arr ns e (joinX n t j)).1 (arr ns e (joinX n t j)).2 (.iface ty2 (.pointer (some ⟨b2,0,none⟩))) [t ++ [f]] wx w':=by
     intro hfit wx hgx
     rw [if_pos hfit] at hXs
     have hu:HasAr (A ++ [n.c.terms.length]) (t ++ [f]):=w4 (j+1) _ (by rw [hXs]; simp)
     have hsm:Small 1000000000 (arr (arr ns e (joinX n t j)).1 (arr ns e (joinX n t j)).2 [t ++ [f]]).1 (arr (arr ns e (joinX n t j)).1 (arr ns e (joinX n t j)).2 [t ++ [f]]).2:=by
      obtain ⟨Y,hY⟩:=joinX_pre n t (j+1)
      rw [hY] at w3
      have:=w3.part
      rw [hXs] at this
      unfold arr at this ⊢
      rw [arrives_app] at this
      exact this
     have:=ih (arr ns e (joinX n t j)).1 (A ++ [n.c.terms.length]) (q+1) b2 ty2 fn2 Ux (arr ns e (joinX n t j)).2 (t ++ [f]) wx (by rw [hlen]; exact hm) hfn2 (by rw [hlA]; exact x2.gr hgx) (w1.arr (w4 j)) hu (fun g hg=>by
      rcases List.mem_append.1 hg with hg | hg
      ·exact (hft g hg).gr hgx
      ·simp only [List.mem_singleton] at hg
       subst hg
       exact (x1.fts g hfm).gr hgx) (wf_wait w1 (w4 j) (unhide HE)) hsm
     rw [hlA] at this
     exact this
    have hP:=pair_w Ux q A.length b { n with toks:=n.toks ++ [t] } ty2 fn2 b2 tv lv ov' fv t f wr (fun wx w'=>ArrPost Ux ru jn (q+1) (A.length+1) (arr ns e (joinX n t j)).1 (arr ns e (joinX n t j)).2 (.iface ty2 (.pointer (some ⟨b2,0,none⟩))) [t ++ [f]] wx w') hfn2 x1 hneg w2.len hA4 (x1.fts f hfm) hft (unhide HFIT f hfm) hIH
    rw [unhide HET] at hP
    have n0:wr.cell? ⟨w.heap.size,0,none⟩=some (.pointer p0):=by simp [World.cell?,x6]
    have n1:wr.cell? ⟨w.heap.size,1,none⟩=some (.pointer p1):=by simp [World.cell?,x6]
    have n2:wr.cell? ⟨w.heap.size,2,none⟩=some (.pointer p2):=by simp [World.cell?,x6]
    have n3:wr.cell? ⟨w.heap.size,3,none⟩=some (.pointer p3):=by simp [World.cell?,x6]
    unfold fptr at hP
    obtain ⟨r,hr⟩:∃ r,fitL n.links t f.f=r:=⟨_,rfl⟩
    have hP':Calls Tryz.prog 137 #[.pointer (some ⟨b,0,none⟩),.agg #[.pointer p0,.pointer p1,.pointer p2,.pointer p3],.pointer (some ⟨f.blk,0,none⟩)] wr fun e' w'=>e'=.returned (.tuple #[])∧PairPost r (fun wx w'=>ArrPost Ux ru jn (q+1) (A.length+1) (arr ns e (joinX n t j)).1 (arr ns e (joinX n t j)).2 (.iface ty2 (.pointer (some ⟨b2,0,none⟩))) [t ++ [f]] wx w') wr w':=by rw [←hr]; exact hP
    rw [hr] at hXs
    have HX:=hide (show _∧_∧_∧_∧_∧_∧_∧_ from ⟨x1,x2,x3,x4,x5,x6,hXs,hlen⟩)
    clear hP hIH x1 x2 x3 x4 x5 x6 hXs hlen hft w1 w2 w3 w4 hlA hf hr
    go_wp2_with fail
    refine hP'.mono ?_
    rintro e1 w7 ⟨rfl,hPP⟩
    have HPP:=hide hPP
    clear hP' hPP n0 n1 n2 n3 c0
    have HK:Hid (∃ Uy,NodeAt Uy q A.length b { n with toks:=n.toks ++ [t] } (.iface ty2 (.pointer (some ⟨b2,0,none⟩))) tv lv ov' fv w7∧SufAt Uy ru jn (q+1) (A.length+1) (arr ns e (joinX n t (j+1))).1 (arr ns e (joinX n t (j+1))).2 (.iface ty2 (.pointer (some ⟨b2,0,none⟩))) w7∧GrS (fun i=>4+3 * q≤U i∧U i < 7+3 * (q+ns.length+1)) w w7∧(∀ i,i < w.heap.size→Uy i=U i)∧Uy w.heap.size=5+3 * q∧w7.heap[w.heap.size]?=some (.cells #[.pointer p0,.pointer p1,.pointer p2,.pointer p3] 139 (0,0))):=by
     refine hide ?_
     obtain ⟨x1,x2,x3,x4,x5,x6,hXs,hlen⟩:=unhide HX
     rcases unhide HPP with ⟨rfl,wx,hgx,hA5⟩ | ⟨rfl,hgx⟩
     ·rw [if_pos rfl] at hXs
      obtain ⟨Uy,y1,y2,y3,y4,y5⟩:=upNode (U:=U) x1 (by rw [hlen]; exact x3) x4 hgx hA5
      rw [hlen] at y3
      refine ⟨Uy,y1,?_,y3,y4,?_,?_⟩
      ·rw [hXs]
       unfold arr at y2 ⊢
       rw [arrives_app]
       exact y2
      ·rw [y5 _ (row_lt x6)]; exact x5
      ·obtain ⟨_,_,s2,_⟩:=hA5
       refine s2.blk (by rw [hgx.block _ (row_lt x6) (by simp)]; exact x6) ?_
       unfold Codes
       omega
     ·rw [if_neg (by simp),List.append_nil] at hXs
      rw [hXs]
      exact ⟨Ux,x1.keep (S:=fun _=>False) (GrS.of hgx (by simp)) (by simp) (fun _ _ _=>rfl),x2.gr hgx,x3.then hgx (by simp),x4,x5,by rw [hgx.block _ (row_lt x6) (by simp)]; exact x6⟩
    clear HX HPP
    go_wp2
    go_roundw
    case rel=>exact ⟨j+1,by omega,by go_num,HK⟩
    case measure=>simp [intOf]; omega
   ·have hd:decide (j < n.K.length)=false:=by simpa using hlt
    have hje:j=n.K.length:=by omega
    subst hje
    have HF:=hide (show _∧_∧_∧_ from ⟨x1,x2,x3,x4⟩)
    clear x1 x2 x3 x4 x5 x6
    go_wp2
    go_end0
    obtain ⟨x1,x2,x3,x4⟩:=unhide HF
    refine ⟨rfl,Ux,?_,x3.mono (fun i hi=>by unfold Codes; rw [List.length_cons]; omega),x4⟩
    rw [arr_cons,ext_joinX hneg]
    exact ⟨b,_,tv,lv,ov',fv,by unfold ndPTy; rw [if_neg (by simp [hneg])],x1,by rw [if_neg (by simp [hneg])]; exact x2⟩
theorem arrOK (ru jn:Nat):∀ m,ArrOK ru jn m
 | 0=>arrOK0 ru jn
 | m+1=>by
  intro ns A q b ty fn U e t w hm hfn h hW hA ht he hS
  cases ns with
  | nil=>simp at hm
  | cons n ns=>
   have hm':ns.length=m:=by simpa using hm
   have h0:=h
   obtain ⟨b',nx,tv,lv,ov,fv,h1,_⟩:=h0
   simp only [Value.iface.injEq,Value.pointer.injEq,Option.some.injEq,Addr.mk.injEq,and_true] at h1
   obtain ⟨hty,rfl⟩:=h1
   unfold ndPTy at hty
   cases hn:n.c.neg with
   | true=>
    rw [hn,if_pos rfl] at hty
    subst hty
    have hf:fn=257:=by
     rcases hfn with ⟨h,_⟩ | ⟨_,h⟩ | ⟨h,_⟩
     ·exact absurd h (by decide)
     ·exact h
     ·exact absurd h (by decide)
    subst hf
    exact holdArr_w ru jn m (arrOK ru jn m) U A q b n ns e t w hm' hn h hW hA ht he hS
   | false=>
    rw [hn,if_neg (by simp)] at hty
    subst hty
    have hf:fn=255:=by
     rcases hfn with ⟨h,_⟩ | ⟨h,_⟩ | ⟨_,h⟩
     ·exact absurd h (by decide)
     ·exact absurd h (by decide)
     ·exact h
    subst hf
    exact joinArr_w ru jn m (arrOK ru jn m) U A q b n ns e t w hm' hn h hW hA ht he hS
end Go.Proofs.YtolhbeekfjnfmaaGreatDoor
namespace Go.Proofs.YtolhbeekfjnfmaaGreatDoor
open Go.RowKit
def extX (n:Nd) (f:Ft) (j:Nat):List Tok:=((n.toks.take j).filter (fun t=>fitL n.links t f.f)).map (fun t=>t ++ [f])
theorem extX_succ {n:Nd} {f:Ft} {j:Nat} {t:Tok} (h:n.toks[j]?=some t):extX n f (j+1)=extX n f j ++ (if fitL n.links t f.f=true then [t ++ [f]] else []):=by
 unfold extX
 rw [filter_take_succ _ h,List.map_append]
 congr 1
 split<;>rfl
theorem extX_pre (n:Nd) (f:Ft) (j:Nat):∃ Y,extX n f n.toks.length=extX n f j ++ Y:=by
 refine ⟨((n.toks.drop j).filter (fun t=>fitL n.links t f.f)).map (fun t=>t ++ [f]),?_⟩
 unfold extX
 rw [List.take_length,←List.map_append,←List.filter_append,List.take_append_drop]
theorem extX_ar {n:Nd} {ns:List Nd} {A:List Nat} {f:Ft} (h:WF A (n :: ns)) (hf:f.f.vals.length=n.c.terms.length) (j:Nat):∀ u∈extX n f j,HasAr (A ++ [n.c.terms.length]) u:=by
 intro u hu
 obtain ⟨t,hg,rfl⟩:=List.mem_map.1 hu
 rw [←hf]
 exact (h.2.2.2.1 t (List.mem_of_mem_take (List.mem_filter.1 hg).1)).snoc f
theorem fitC_len {c:Sv.Cond} {f:Sv.Fact} (h:fitC c f=true):f.vals.length=c.terms.length:=by
 unfold fitC at h
 simp only [Bool.and_eq_true,beq_iff_eq] at h
 exact h.1.2
theorem admitNode {U:Nat→Nat} {q k b:Nat} {n:Nd} {nx tv lv ov fv:Value} {f:Ft} {w wx w1:World} (h:NodeAt U q k b n nx tv lv ov fv w) (hf:FtAt U f w) (hg:w.grownBy wx none) (hk:AdmitPost b fv (ndCells n k tv lv ov fv nx) (ndTy n.c.neg) n.K f wx w1) :
  ∃ fv',NodeAt (newU U w (6+3 * q)) q k b { n with K:=n.K ++ [f] } nx tv lv ov fv' w1∧GrS (fun i=>U i=4+3 * q∨U i=6+3 * q) w w1:=by
 obtain ⟨fv',k1,k2,k3',k4'⟩:=hk
 have k3:GrS (fun i=>i=b∨fv.ownBlock=some i) w w1:=(GrS.of hg (by simp)).trans k3'
 have k4:∀ g,fv'.ownBlock=some g→fv.ownBlock=some g∨w.heap.size≤g:=fun g hx=>by rcases k4' g hx with h | h; exact .inl h; exact .inr (Nat.le_trans hg.size h)
 rw [ndCells_set4 (n:=n) (n':={ n with K:=n.K ++ [f] }) rfl] at k1
 have hsm:∀ i,(i=b∨fv.ownBlock=some i)→U i=4+3 * q∨U i=6+3 * q:=by
  rintro i (rfl | hx)
  ·exact .inl h.own
  ·exact .inr (h.facts.2 i hx)
 have hs:∀ i,U i=1∨U i=5+3 * q→¬ (i=b∨fv.ownBlock=some i):=fun i hi hx=>by have:=hsm i hx; omega
 have ho:∀ c i,i < w.heap.size→U i=c→newU U w (6+3 * q) i=c:=fun c i hi hx=>by rw [newU_old hi]; exact hx
 have hF:∀ g,FtAt U g w→FtAt (newU U w (6+3 * q)) g w1:=fun g hg=>hg.keep k3 (fun i hi=>hs i (.inl hi)) (ho 1)
 refine ⟨fv',⟨k1,ho _ b (row_lt h.blk) h.own,h.terms.keep2 k3 (fun i hi=>hs i (.inl hi)) (ho 1),h.links.keep2 k3 (fun i hi=>hs i (.inl hi)) (ho 1),h.toks.keep2 k3 (fun i hi=>hs i (.inr hi)) (ho _),⟨k2,newU_own h.facts.2 (fun g hx=>(h.facts.1.own g hx).2) k4⟩,?_,fun t ht g hg=>hF g (h.tfs t ht g hg),h.short,fun i hi=>by rw [newU_old (Nat.lt_trans hi (row_lt h.blk))]; exact h.low i hi⟩,k3.mono hsm⟩
 intro g hg
 rcases List.mem_append.1 hg with hg | hg
 ·exact hF g (h.fts g hg)
 ·simp only [List.mem_singleton] at hg
  subst hg
  exact hF g hf
def AddPost (U:Nat→Nat) (ru jn q k:Nat) (n:Nd) (ns:List Nd) (e:En) (hd:Value) (f:Ft) (w w':World):Prop:=
 ∃ U',SufAt U' ru jn q k ((addStep f n ns e).1 :: (addStep f n ns e).2.1) (addStep f n ns e).2.2 hd w'∧GrS (fun i=>4+3 * q≤U i∧U i < 7+3 * (q+ns.length+1)) w w'∧∀ i,i < w.heap.size→U' i=U i
set_option maxRecDepth 100000 in
set_option maxHeartbeats 8000000 in
theorem extend_w (ru jn:Nat) (U:Nat→Nat) (A:List Nat) (q b:Nat) (n:Nd) (ns:List Nd) (e:En) (f:Ft) (w:World) (hneg:n.c.neg=false) (h:SufAt U ru jn q A.length (n :: ns) e (.iface 208 (.pointer (some ⟨b,0,none⟩))) w) (hW:WF A (n :: ns)) (hf:FtAt U f w) (he:∀ x∈e.wait,x.length≤4) (hKl:n.K.length≤1000000000)
  (hS:Small 1000000000 (addStep f n ns e).2.1 (addStep f n ns e).2.2) :
  Calls Tryz.prog 102 #[.pointer (some ⟨b,0,none⟩),fptr f] w fun e' w'=>e'=.returned (.tuple #[])∧AddPost U ru jn q A.length n ns e (.iface 208 (.pointer (some ⟨b,0,none⟩))) f w w':=by
 have h0:=h
 obtain ⟨b',nx,tv,lv,ov,fv,h1,h2,h3⟩:=h
 simp only [Value.iface.injEq,Value.pointer.injEq,Option.some.injEq,Addr.mk.injEq,and_true] at h1
 obtain ⟨hty,rfl⟩:=h1
 clear hty
 have hne1:fv.ownBlock≠some b:=fun hx=>by have:=h2.facts.2 b hx; have:=h2.own; omega
 by_cases hfc:fitC n.c f.f=true
 ·have hAd:=admit_yes U b fv (ndCells n A.length tv lv ov fv nx) (ndTy n.c.neg) n.c n.links n.K f w h2.blk ndCells_get.2.1 h2.facts.1 hne1 hKl h2.cd hf hfc
  have hadd:addStep f n ns e=({ n with K:=n.K ++ [f] },arr ns e (extX n f n.toks.length)):=by
   unfold addStep extX
   rw [if_pos hfc,if_neg (by simp [hneg]),List.take_length]
  rw [hadd] at hS
  have hfl:=fitC_len hfc
  have hW':=hW.2.2.2.2
  rw [if_neg (by simp [hneg])] at hW' h3
  have hfit:=fun t (ht:t∈n.toks)=>hW.fit (hW.2.2.2.1 t ht) (f:=f) hfl
  have hlenT:=fun t (ht:t∈n.toks)=>(hW.2.2.2.1 t ht).len
  have hXA:=fun j=>extX_ar hW hfl j
  have hA4:A.length < 4:=by have:=hW.1; rw [if_neg (by simp [hneg])] at this; omega
  have hTl:=h2.toks.1.le
  unfold maxLen at hTl
  obtain ⟨ta,tcap,hov⟩:=h2.toks.1.slice
  have HH:=hide h2
  have H3:=hide h3
  have HE:=hide he
  have HFA:=hide hf
  have HADD:=hide hadd
  have HOV:=hide hov
  have HW:=hide (show WF (A ++ [n.c.terms.length]) ns∧Small 1000000000 (arr ns e (extX n f n.toks.length)).1 (arr ns e (extX n f n.toks.length)).2∧(∀ j,∀ u∈extX n f j,HasAr (A ++ [n.c.terms.length]) u)∧(∀ t∈n.toks,t.length=A.length) from ⟨hW',hS,hXA,hlenT⟩)
  have HFIT:=hide hfit
  clear h0 h2 he hW hS hW' hfit hXA hlenT hadd hf hfl hfc hov
  have hhd:=h3.head
  clear h3
  obtain ⟨ty2,fn2,b2,rfl,hfn2⟩:∃ ty2 fn2 b2,nx=.iface ty2 (.pointer (some ⟨b2,0,none⟩))∧ArrFn ty2 fn2:=by
   rcases hhd with ⟨b2,rfl,_⟩ | ⟨b2,n2,ns2,rfl,_⟩ | ⟨b2,n2,ns2,rfl,_⟩
   ·exact ⟨_,_,b2,rfl,.inl ⟨rfl,rfl⟩⟩
   ·exact ⟨_,_,b2,rfl,.inr (.inl ⟨rfl,rfl⟩)⟩
   ·exact ⟨_,_,b2,rfl,.inr (.inr ⟨rfl,rfl⟩)⟩
  clear hhd
  unfold fptr at hAd ⊢
  go_enter Tryz.func102,Tryz.ntmps102
  go_wp2_with fail
  refine hAd.mono ?_
  rintro e1 wc ⟨rfl,hkp⟩
  have hh:=unhide HH
  obtain ⟨fv',hN1,hG1⟩:=admitNode hh (unhide HFA) (World.grownBy.refl w none) hkp
  have hS31:SufAt (newU U w (6+3 * q)) ru jn (q+1) (A.length+1) ns e (.iface ty2 (.pointer (some ⟨b2,0,none⟩))) wc:=(unhide H3).keep hG1 (fun i hi hx=>by omega) (fun i hi _=>newU_old hi)
  have c3:=hN1.cell 3 (by omega)
  have hc3:wc.cell? ⟨b,3,none⟩=some (.slice ta n.toks.length tcap):=by rw [c3]; simp [unhide HOV]
  have HF:=hide (show NodeAt (newU U w (6+3 * q)) q A.length b { n with K:=n.K ++ [f] } (.iface ty2 (.pointer (some ⟨b2,0,none⟩))) tv lv ov fv' wc∧SufAt (newU U w (6+3 * q)) ru jn (q+1) (A.length+1) (arr ns e (extX n f 0)).1 (arr ns e (extX n f 0)).2 (.iface ty2 (.pointer (some ⟨b2,0,none⟩))) wc∧GrS (fun i=>4+3 * q≤U i∧U i < 7+3 * (q+ns.length+1)) w wc∧(∀ i,i < w.heap.size→newU U w (6+3 * q) i=U i) from
   ⟨hN1,by unfold extX arr; simp only [List.take_zero,List.filter_nil,List.map_nil]; rw [arrives_nil]; exact hS31,hG1.mono (fun i hi=>by omega),fun i hi=>newU_old hi⟩)
  clear hAd hkp hN1 hG1 hS31 hh c3
  go_wp2
  clear hc3
  go_loopw [19] (fun x w'=>∃ j:Nat,j≤n.toks.length∧x=.int .i64 j∧Hid (∃ Ux,NodeAt Ux q A.length b { n with K:=n.K ++ [f] } (.iface ty2 (.pointer (some ⟨b2,0,none⟩))) tv lv ov fv' w'∧SufAt Ux ru jn (q+1) (A.length+1) (arr ns e (extX n f j)).1 (arr ns e (extX n f j)).2 (.iface ty2 (.pointer (some ⟨b2,0,none⟩))) w'∧GrS (fun i=>4+3 * q≤U i∧U i < 7+3 * (q+ns.length+1)) w w'∧(∀ i,i < w.heap.size→Ux i=U i))) (fun x _=>n.toks.length - (intOf x).toNat)
  case atStart=>exact ⟨0,Nat.zero_le _,rfl,hide ⟨_,unhide HF⟩⟩
  case round=>
   clear HF
   obtain ⟨j,hj,rfl,HK⟩:=hrel
   obtain ⟨Ux,x1,x2,x3,x4⟩:=unhide HK
   clear HK
   by_cases hlt:j < n.toks.length
   ·have hd:decide (j < n.toks.length)=true:=by simpa using hlt
    obtain ⟨t,hft⟩:∃ t,n.toks[j]?=some t:=⟨_,List.getElem?_eq_getElem hlt⟩
    obtain ⟨p0,p1,p2,p3,hp⟩:=tok_four t
    have eT:tokV t=.agg #[.pointer p0,.pointer p1,.pointer p2,.pointer p3]:=by unfold tokV; rw [hp]
    obtain ⟨g,cap',e1,c0,c1,c2,c3⟩:=toks_cells x1.toks.1 hft hp
    rw [unhide HOV] at e1
    simp only [Value.slice.injEq,true_and] at e1
    obtain ⟨rfl,rfl⟩:=e1
    have hfm:=List.mem_of_getElem? hft
    have hXs:=extX_succ (n:=n) (f:=f) hft
    obtain ⟨w1,w3,w4,w5⟩:=unhide HW
    have hlA:(A ++ [n.c.terms.length]).length=A.length+1:=by simp
    have hlen:(arr ns e (extX n f j)).1.length=ns.length:=arrives_len _ _ _ _
    have hgA:=World.grownBy_alloc wr (.cells #[.pointer p0,.pointer p1,.pointer p2,.pointer p3] 139) none
    have hfF:FtAt Ux f wr:=x1.fts f (List.mem_append.2 (.inr (List.mem_singleton.2 rfl)))
    have hIH:fitL n.links t f.f=true→∀ wx,(wr.alloc (.cells #[.pointer p0,.pointer p1,.pointer p2,.pointer p3] 139)).grownBy wx none→Calls Tryz.prog fn2 #[.pointer (some ⟨b2,0,none⟩),tokV (t ++ [f])] wx fun e' w'=>e'=.returned (.tuple #[])∧ArrPost Ux ru jn (q+1) (A.length+1) (arr ns e (extX n f j)).1 (arr ns e (extX n f j)).2 (.iface ty2 (.pointer (some ⟨b2,0,none⟩))) [t ++ [f]] wx w':=by
     intro hfit wx hgx'
     have hgx:=gr_trans hgA hgx'
     rw [if_pos hfit] at hXs
     have hu:HasAr (A ++ [n.c.terms.length]) (t ++ [f]):=w4 (j+1) _ (by rw [hXs]; simp)
     have hsm:Small 1000000000 (arr (arr ns e (extX n f j)).1 (arr ns e (extX n f j)).2 [t ++ [f]]).1 (arr (arr ns e (extX n f j)).1 (arr ns e (extX n f j)).2 [t ++ [f]]).2:=by
      obtain ⟨Y,hY⟩:=extX_pre n f (j+1)
      rw [hY] at w3
      have:=w3.part
      rw [hXs] at this
      unfold arr at this ⊢
      rw [arrives_app] at this
      exact this
     have:=arrOK ru jn ns.length (arr ns e (extX n f j)).1 (A ++ [n.c.terms.length]) (q+1) b2 ty2 fn2 Ux (arr ns e (extX n f j)).2 (t ++ [f]) wx hlen hfn2 (by rw [hlA]; exact x2.gr hgx) (w1.arr (w4 j)) hu (fun g hg=>by
      rcases List.mem_append.1 hg with hg | hg
      ·exact (x1.tfs t hfm g hg).gr hgx
      ·simp only [List.mem_singleton] at hg
       subst hg
       exact hfF.gr hgx) (wf_wait w1 (w4 j) (unhide HE)) hsm
     rw [hlA] at this
     exact this
    have x1A:NodeAt Ux q A.length b { n with K:=n.K ++ [f] } (.iface ty2 (.pointer (some ⟨b2,0,none⟩))) tv lv ov fv' (wr.alloc (.cells #[.pointer p0,.pointer p1,.pointer p2,.pointer p3] 139)):=x1.keep (S:=fun _=>False) (GrS.of hgA (by simp)) (by simp) (fun _ _ _=>rfl)
    have hP:=pair_w Ux q A.length b { n with K:=n.K ++ [f] } ty2 fn2 b2 tv lv ov fv' t f (wr.alloc (.cells #[.pointer p0,.pointer p1,.pointer p2,.pointer p3] 139)) (fun wx w'=>ArrPost Ux ru jn (q+1) (A.length+1) (arr ns e (extX n f j)).1 (arr ns e (extX n f j)).2 (.iface ty2 (.pointer (some ⟨b2,0,none⟩))) [t ++ [f]] wx w') hfn2 x1A hneg (w5 t hfm) hA4 (hfF.gr hgA) (fun g hg=>(x1.tfs t hfm g hg).gr hgA) (unhide HFIT t hfm) hIH
    rw [eT] at hP
    unfold fptr at hP
    obtain ⟨r,hr⟩:∃ r,fitL n.links t f.f=r:=⟨_,rfl⟩
    have hP':Calls Tryz.prog 137 #[.pointer (some ⟨b,0,none⟩),.agg #[.pointer p0,.pointer p1,.pointer p2,.pointer p3],.pointer (some ⟨f.blk,0,none⟩)] (wr.alloc (.cells #[.pointer p0,.pointer p1,.pointer p2,.pointer p3] 139)) fun e' w'=>e'=.returned (.tuple #[])∧PairPost r (fun wx w'=>ArrPost Ux ru jn (q+1) (A.length+1) (arr ns e (extX n f j)).1 (arr ns e (extX n f j)).2 (.iface ty2 (.pointer (some ⟨b2,0,none⟩))) [t ++ [f]] wx w') (wr.alloc (.cells #[.pointer p0,.pointer p1,.pointer p2,.pointer p3] 139)) w':=by rw [←hr]; exact hP
    rw [hr] at hXs
    have HX:=hide (show _∧_∧_∧_∧_∧_∧_ from ⟨x1,x2,x3,x4,hXs,hlen,hgA⟩)
    clear hP hIH x1 x2 x3 x4 hXs hlen w1 w3 w4 w5 hlA hft hr x1A hfF hgA eT hp
    go_wp2_with fail
    refine hP'.mono ?_
    rintro e1 w7 ⟨rfl,hPP⟩
    have HPP:=hide hPP
    clear hP' hPP c0 c1 c2 c3
    have HK:Hid (∃ Uy,NodeAt Uy q A.length b { n with K:=n.K ++ [f] } (.iface ty2 (.pointer (some ⟨b2,0,none⟩))) tv lv ov fv' w7∧SufAt Uy ru jn (q+1) (A.length+1) (arr ns e (extX n f (j+1))).1 (arr ns e (extX n f (j+1))).2 (.iface ty2 (.pointer (some ⟨b2,0,none⟩))) w7∧GrS (fun i=>4+3 * q≤U i∧U i < 7+3 * (q+ns.length+1)) w w7∧(∀ i,i < w.heap.size→Uy i=U i)):=by
     refine hide ?_
     obtain ⟨x1,x2,x3,x4,hXs,hlen,hgA⟩:=unhide HX
     rcases unhide HPP with ⟨rfl,wx,hgx',hA5⟩ | ⟨rfl,hgx'⟩
     ·have hgx:=gr_trans hgA hgx'
      rw [if_pos rfl] at hXs
      obtain ⟨Uy,y1,y2,y3,y4,y5⟩:=upNode (U:=U) x1 (by rw [hlen]; exact x3) x4 hgx hA5
      rw [hlen] at y3
      refine ⟨Uy,y1,?_,y3,y4⟩
      rw [hXs]
      unfold arr at y2 ⊢
      rw [arrives_app]
      exact y2
     ·have hgx:=gr_trans hgA hgx'
      rw [if_neg (by simp),List.append_nil] at hXs
      rw [hXs]
      exact ⟨Ux,x1.keep (S:=fun _=>False) (GrS.of hgx (by simp)) (by simp) (fun _ _ _=>rfl),x2.gr hgx,x3.then hgx (by simp),x4⟩
    clear HX HPP
    go_wp2
    go_roundw
    case rel=>exact ⟨j+1,by omega,by go_num,HK⟩
    case measure=>simp [intOf]; omega
   ·have hd:decide (j < n.toks.length)=false:=by simpa using hlt
    have hje:j=n.toks.length:=by omega
    subst hje
    have HF:=hide (show _∧_∧_∧_ from ⟨x1,x2,x3,x4⟩)
    clear x1 x2 x3 x4
    go_wp2
    go_end0
    obtain ⟨x1,x2,x3,x4⟩:=unhide HF
    refine ⟨rfl,Ux,?_,x3,x4⟩
    rw [unhide HADD]
    exact ⟨b,_,tv,lv,ov,fv',by unfold ndPTy; rw [if_neg (by simp [hneg])],x1,by rw [if_neg (by simp [hneg])]; exact x2⟩
 ·have hfc':fitC n.c f.f=false:=by simpa using hfc
  have hAd:=admit_no U b n.c n.links f w h2.cd hf hfc'
  have hadd:addStep f n ns e=(n,(ns,e)):=by unfold addStep; rw [if_neg hfc]
  have HADD:=hide hadd
  have H0:=hide h0
  clear h0 h2 h3 he hW hS hadd hf hfc hfc'
  unfold fptr at hAd ⊢
  go_enter Tryz.func102,Tryz.ntmps102
  go_wp2_with fail
  refine hAd.mono ?_
  rintro e1 wc ⟨rfl,hg1⟩
  clear hAd
  go_wp2
  refine bodyPost_ret (v:=.tuple #[]) (by simp [results,Tryz.results102]) rfl ?_
  refine ⟨rfl,U,?_,GrS.of hg1 (by simp),fun _ _=>rfl⟩
  rw [unhide HADD]
  exact (unhide H0).gr hg1
end Go.Proofs.YtolhbeekfjnfmaaGreatDoor

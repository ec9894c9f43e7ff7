import Derived.Test.YtolhbeekfjnfmaaGreatDoorK13
import Derived.Test.YtolhbeekfjnfmaaGreatDoorK06
namespace Go.Proofs.YtolhbeekfjnfmaaGreatDoor
open Go.RowKit
def endAr:List Nat→List Nd→List Nat
 | A,[]=>A
 | A,n :: ns=>endAr (if n.c.neg=true then A else A ++ [n.c.terms.length]) ns
def EndOk (A:List Nat) (ns:List Nd) (e:En):Prop:=(∀ t∈e.toks,HasAr (endAr A ns) t)∧∀ t∈e.wait,HasAr (endAr A ns) t
def Begins (A:List Nat) (t:Tok):Prop:=∃ A',HasAr (A ++ A') t∧t.length≤4
theorem endAr_le:∀ {ns:List Nd} {A:List Nat},WF A ns→(endAr A ns).length≤4
 | [],_,h=>h
 | _ :: ns,_,h=>endAr_le (ns:=ns) h.2.2.2.2
theorem Begins.of {A B:List Nat} {t:Tok} (h:Begins B t) (hp:∃ A',B=A ++ A'):Begins A t:=by
 obtain ⟨A',rfl⟩:=hp
 obtain ⟨C,h1,h2⟩:=h
 exact ⟨A' ++ C,by rw [←List.append_assoc]; exact h1,h2⟩
theorem wf_all:∀ {ns:List Nd} {A:List Nat} {e:En},WF A ns→EndOk A ns e→AllT (Begins A) ns e
 | [],A,e,h,he=>⟨by simp,fun t ht=>⟨[],by rw [List.append_nil]; exact he.1 t ht,by rw [(he.1 t ht).len]; exact h⟩,fun t ht=>⟨[],by rw [List.append_nil]; exact he.2 t ht,by rw [(he.2 t ht).len]; exact h⟩⟩
 | n :: ns,A,e,h,he=>by
  obtain ⟨i1,i2,i3⟩:=wf_all (ns:=ns) (e:=e) h.2.2.2.2 he
  have hp:∃ A',(if n.c.neg=true then A else A ++ [n.c.terms.length])=A ++ A':=by
   split
   ·exact ⟨[],by simp⟩
   ·exact ⟨_,rfl⟩
  refine ⟨fun m hm t ht=>?_,fun t ht=>(i2 t ht).of hp,fun t ht=>(i3 t ht).of hp⟩
  rcases List.mem_cons.1 hm with rfl | hm
  ·exact ⟨[],by rw [List.append_nil]; exact h.2.2.2.1 t ht,by rw [(h.2.2.2.1 t ht).len]; exact h.le⟩
  ·exact (i1 m hm t ht).of hp
theorem Begins.fit {A:List Nat} {n:Nd} {ns:List Nd} (h:WF A (n :: ns)) {t:Tok} (ht:Begins A t) {f:Ft} (hf:f.f.vals.length=n.c.terms.length):∀ l∈n.links,l.place < f.f.vals.length∧∃ g,t[l.at'.fact]?=some g∧l.at'.place < g.f.vals.length:=by
 intro l hl
 obtain ⟨A',h1,_⟩:=ht
 obtain ⟨k1,a,k2,k3⟩:=h.2.1 l hl
 have hi:=(List.getElem?_eq_some_iff.1 k2).1
 obtain ⟨g,hg,he⟩:=h1.get (i:=l.at'.fact) (a:=a) (by rw [List.getElem?_append_left hi]; exact k2)
 exact ⟨by rw [hf]; exact k1,g,hg,by rw [he]; exact k3⟩
theorem Tryz.enters2:∀ args w,(callFunc 138 args).run Tryz.prog w=.ok (.enter 138 args) w:=enters_of Tryz.func138 (by kernel_rfl) rfl
set_option maxRecDepth 100000 in
set_option maxHeartbeats 4000000 in
theorem block1_w (U:Nat→Nat) (q k b:Nat) (n:Nd) (nx tv lv ov fv:Value) (t:Tok) (f:Ft) (h1 h2:Nat) (w:World) (h:NodeAt U q k b n nx tv lv ov fv w) (hf:FtAt U f w) (ht4:t.length≤4) (ht:∀ g∈t,FtAt U g w)
  (hl:∀ l∈n.links,l.place < f.f.vals.length∧∃ g,t[l.at'.fact]?=some g∧l.at'.place < g.f.vals.length)
  (c1:w.cell? ⟨h1,0,none⟩=some (.pointer (some ⟨b,0,none⟩))) (c2:w.cell? ⟨h2,0,none⟩=some (.pointer (some ⟨f.blk,0,none⟩))) :
  Calls Tryz.prog 138 #[tokV t,.pointer (some ⟨h1,0,none⟩),.pointer (some ⟨h2,0,none⟩)] w fun e w'=>e=.returned (.bool (fitL n.links t f.f))∧w.grownBy w' none:=by
 obtain ⟨p0,p1,p2,p3,hp⟩:=tok_four t
 have eT:tokV t=.agg #[.pointer p0,.pointer p1,.pointer p2,.pointer p3]:=by unfold tokV; rw [hp]
 have hgA:=World.grownBy_alloc w (.cells #[.pointer p0,.pointer p1,.pointer p2,.pointer p3] 139) none
 have c1':=hgA.cell c1 (by simp)
 have c2':=hgA.cell c2 (by simp)
 have hS:∀ wy,w.grownBy wy none→Calls Tryz.prog 139 #[.pointer (some ⟨b,0,none⟩),.agg #[.pointer p0,.pointer p1,.pointer p2,.pointer p3],.pointer (some ⟨f.blk,0,none⟩)] wy fun e w'=>e=.returned (.bool (fitL n.links t f.f))∧wy.grownBy w' none:=by
  intro wy hgg
  have:=fitsWith_w U b n.c n.links t f wy (h.cd.gr hgg) (hf.gr hgg) (fun g hgt=>(ht g hgt).gr hgg) ht4 hl
  rw [eT] at this
  exact this
 rw [eT]
 clear h hf ht hl hp eT c1 c2
 go_enter Tryz.func138,Tryz.ntmps138
 go_wp2_with fail
 go_region_with (go_at_call 139; refine (hS _ (by repeat (first | exact hgA | apply gr_drew))).mono ?_; rintro e w2 ⟨rfl,hg2⟩)
 all_goals
  go_wp2
  go_ret
  exact ⟨rfl,gr_trans (by repeat (first | exact hgA | apply gr_drew)) hg2⟩
set_option maxRecDepth 100000 in
set_option maxHeartbeats 8000000 in
theorem block_w (ru jn:Nat) (U:Nat→Nat) (A:List Nat) (q b:Nat) (n:Nd) (ns:List Nd) (e:En) (f:Ft) (w:World) (hneg:n.c.neg=true) (h:SufAt U ru jn q A.length (n :: ns) e (.iface 209 (.pointer (some ⟨b,0,none⟩))) w) (hW:WF A (n :: ns)) (hEn:EndOk A (n :: ns) e) (hf:FtAt U f w) (hKl:n.K.length≤1000000000) (hwl:e.wait.length≤1000000000) :
  Calls Tryz.prog 103 #[.pointer (some ⟨b,0,none⟩),fptr f] w fun e' w'=>e'=.returned (.tuple #[])∧AddPost U ru jn q A.length n ns e (.iface 209 (.pointer (some ⟨b,0,none⟩))) f w w':=by
 have h0:=h
 obtain ⟨b',nx,tv,lv,ov,fv,h1,h2,h3⟩:=h
 simp only [Value.iface.injEq,Value.pointer.injEq,Option.some.injEq,Addr.mk.injEq,and_true] at h1
 obtain ⟨hty,rfl⟩:=h1
 clear hty
 rw [if_pos hneg] at h3
 have hne1:fv.ownBlock≠some b:=fun hx=>by have:=h2.facts.2 b hx; have:=h2.own; omega
 have hgA:=gr_al2 w (.cells #[.pointer (some ⟨b,0,none⟩)] 209) (.cells #[.pointer (some ⟨f.blk,0,none⟩)] 90)
 have hx1:((w.alloc (.cells #[.pointer (some ⟨b,0,none⟩)] 209)).alloc (.cells #[.pointer (some ⟨f.blk,0,none⟩)] 90)).heap[w.heap.size]?=some (.cells #[.pointer (some ⟨b,0,none⟩)] 209 (0,0)):=by rw [Below.heap_alloc _ _ _ (by simp)]; exact heap_alloc_new _ _
 have hx2:((w.alloc (.cells #[.pointer (some ⟨b,0,none⟩)] 209)).alloc (.cells #[.pointer (some ⟨f.blk,0,none⟩)] 90)).heap[w.heap.size+1]?=some (.cells #[.pointer (some ⟨f.blk,0,none⟩)] 90 (0,0)):=by
  have:=heap_alloc_new (w.alloc (.cells #[.pointer (some ⟨b,0,none⟩)] 209)) (.cells #[.pointer (some ⟨f.blk,0,none⟩)] 90)
  simpa using this
 by_cases hfc:fitC n.c f.f=true
 ·have hAd:∀ wx,((w.alloc (.cells #[.pointer (some ⟨b,0,none⟩)] 209)).alloc (.cells #[.pointer (some ⟨f.blk,0,none⟩)] 90)).grownBy wx none→Calls Tryz.prog 136 #[.pointer (some ⟨b,0,none⟩),.pointer (some ⟨f.blk,0,none⟩)] wx fun e' w'=>e'=.returned (.bool true)∧AdmitPost b fv (ndCells n A.length tv lv ov fv nx) (ndTy n.c.neg) n.K f wx w':=by
   intro wx hg
   have hgg:=gr_trans hgA hg
   exact admit_yes U b fv (ndCells n A.length tv lv ov fv nx) (ndTy n.c.neg) n.c n.links n.K f wx (by rw [hgg.block b (row_lt h2.blk) (by simp)]; exact h2.blk) ndCells_get.2.1 (h2.facts.1.gr hgg) hne1 hKl (h2.cd.gr hgg) (hf.gr hgg) hfc
  have hadd:addStep f n ns e=({ n with K:=n.K ++ [f] },(ns.map (Nd.drop (fun t=>fitL n.links t f.f)),e.drop (fun t=>fitL n.links t f.f))):=by
   unfold addStep
   rw [if_pos hfc,if_pos hneg]
  have hfl:=fitC_len hfc
  have hW':=hW.2.2.2.2
  rw [if_pos hneg] at hW'
  have hEn':EndOk A ns e:=by
   unfold EndOk endAr at hEn
   rw [if_pos hneg] at hEn
   exact hEn
  have hAll:=wf_all hW' hEn'
  have hfit:=fun t (ht:Begins A t)=>Begins.fit hW ht (f:=f) hfl
  have HH:=hide h2
  have H3:=hide h3
  have HFA:=hide hf
  have HADD:=hide hadd
  have HALL:=hide hAll
  have HFIT:=hide hfit
  have HX:=hide (show _∧_ from ⟨hx1,hx2⟩)
  have HGA:=hide hgA
  clear h0 h2 hW hEn hadd hf hfl hfc hW' hEn' hAll hfit hx1 hx2 hgA
  have hhd:=h3.head
  clear h3
  have mL:=Tryz.mForL
  have mJ:=Tryz.mForJ
  have mH:=Tryz.mForH
  unfold fptr
  go_enter Tryz.func103,Tryz.ntmps103
  go_wp2_with fail
  go_cut [8] (fun z wx=>z=.bool true∧∃ wy,((w.alloc (.cells #[.pointer (some ⟨b,0,none⟩)] 209)).alloc (.cells #[.pointer (some ⟨f.blk,0,none⟩)] 90)).grownBy wy none∧AdmitPost b fv (ndCells n A.length tv lv ov fv nx) (ndTy n.c.neg) n.K f wy wx)
  case first=>
   go_region_with (go_at_call 136; refine (hAd _ (by repeat (first | exact World.grownBy.refl _ _ | apply gr_drew))).mono ?_; rintro e1 w1 ⟨rfl,hk1⟩)
   all_goals
    go_wp2_with fail
    go_meet
    exact ⟨rfl,_,by repeat (first | exact World.grownBy.refl _ _ | apply gr_drew),hk1⟩
  case rest=>
   obtain ⟨rfl,wy,hgy,hkp⟩:=hcut
   have hh:=unhide HH
   have hgw:=gr_trans (unhide HGA) hgy
   obtain ⟨fv',hN1,hG1⟩:=admitNode hh (unhide HFA) hgw hkp
   have hS31:=(unhide H3).keep (U':=newU U w (6+3 * q)) hG1 (fun i hi hx=>by omega) (fun i hi _=>newU_old hi)
   have hfF:FtAt (newU U w (6+3 * q)) f wc:=hN1.fts f (List.mem_append.2 (.inr (List.mem_singleton.2 rfl)))
   have hb1:wc.heap[w.heap.size]?=some (.cells #[.pointer (some ⟨b,0,none⟩)] 209 (0,0)):=by
    obtain ⟨v',_,_,k3,_⟩:=hkp
    refine k3.blk (by rw [hgy.block _ (row_lt (unhide HX).1) (by simp)]; exact (unhide HX).1) ?_
    rintro (h2 | h2)
    ·have:=row_lt hh.blk; omega
    ·have:=(hh.facts.1.own _ h2).2; omega
   have hb2:wc.heap[w.heap.size+1]?=some (.cells #[.pointer (some ⟨f.blk,0,none⟩)] 90 (0,0)):=by
    obtain ⟨v',_,_,k3,_⟩:=hkp
    refine k3.blk (by rw [hgy.block _ (row_lt (unhide HX).2) (by simp)]; exact (unhide HX).2) ?_
    rintro (h2 | h2)
    ·have:=row_lt hh.blk; omega
    ·have:=(hh.facts.1.own _ h2).2; omega
   have hu1:newU U w (6+3 * q) w.heap.size=6+3 * q:=newU_new (Nat.le_refl _)
   have hu2:newU U w (6+3 * q) (w.heap.size+1)=6+3 * q:=newU_new (by omega)
   have hcon:∀ wx t,GrS (Codes (newU U w (6+3 * q)) (q+1) ns.length) wc wx→Begins A t→(∀ g∈t,FtAt (newU U w (6+3 * q)) g wx)→Calls Tryz.prog 138 #[tokV t,.pointer (some ⟨w.heap.size,0,none⟩),.pointer (some ⟨w.heap.size+1,0,none⟩)] wx fun e w'=>e=.returned (.bool (fitL n.links t f.f))∧wx.grownBy w' none:=by
    intro wx t hg hB hft
    have y1:=hg.blk hb1 (by unfold Codes; omega)
    have y2:=hg.blk hb2 (by unfold Codes; omega)
    exact block1_w (newU U w (6+3 * q)) q A.length b { n with K:=n.K ++ [f] } nx tv lv ov fv' t f _ _ wx (hN1.keep hg (fun i hi hc=>by unfold Codes at hc; omega) (fun _ _ _=>rfl)) (hfF.codes hg) (by obtain ⟨_,_,h⟩:=hB; exact h) hft (unhide HFIT t hB) (by simp [World.cell?,y1]) (by simp [World.cell?,y2])
   have d1:wc.cell? ⟨w.heap.size,0,none⟩=some (.pointer (some ⟨b,0,none⟩)):=by simp [World.cell?,hb1]
   have c5:=hN1.cell 5 (by omega)
   have HF:=hide (show NodeAt (newU U w (6+3 * q)) q A.length b { n with K:=n.K ++ [f] } nx tv lv ov fv' wc∧GrS (fun i=>U i=4+3 * q∨U i=6+3 * q) w wc from ⟨hN1,hG1⟩)
   have HS3:=hide hS31
   have HC:=hide hcon
   clear hAd hgy hkp hgw hN1 hG1 hfF hb1 hb2 hu1 hu2 hcon hh hS31
   rcases hhd with ⟨b2,rfl,hns⟩ | ⟨b2,n2,ns2,rfl,hns,_⟩ | ⟨b2,n2,ns2,rfl,hns,_⟩
   all_goals
    have hFo:=forS2_w (newU U w (6+3 * q)) ru jn 138 (.pointer (some ⟨w.heap.size,0,none⟩)) (.pointer (some ⟨w.heap.size+1,0,none⟩)) (fun t=>fitL n.links t f.f) (Begins A) Tryz.enters2 (fun t ht=>by obtain ⟨_,_,h⟩:=ht; exact h) ns (q+1) A.length b2 _ e wc (unhide HS3) (unhide HALL) hwl (unhide HC)
    rw [hns] at hFo
    simp only [fgFn] at hFo
    rw [←hns] at hFo
    clear HS3 HC
    go_wp2_with fail
    refine hFo.mono ?_
    rintro e2 w5 ⟨rfl,s1,s2⟩
    clear hFo
    go_wp2
    go_end0
    obtain ⟨g1,g2⟩:=unhide HF
    refine ⟨rfl,newU U w (6+3 * q),?_,?_,fun i hi=>newU_old hi⟩
    ·rw [unhide HADD]
     exact ⟨b,_,tv,lv,ov,fv',by unfold ndPTy; rw [if_pos hneg],g1.keep s2 (fun i hi hc=>by unfold Codes at hc; omega) (fun _ _ _=>rfl),by rw [if_pos hneg]; exact s1⟩
    ·refine (g2.mono (fun i hi=>by omega)).comp s2 (fun i hi hn hc=>hn ?_)
     unfold Codes at hc
     rw [newU_old hi] at hc
     omega
 ·have hfc':fitC n.c f.f=false:=by simpa using hfc
  have hAd:∀ wx,((w.alloc (.cells #[.pointer (some ⟨b,0,none⟩)] 209)).alloc (.cells #[.pointer (some ⟨f.blk,0,none⟩)] 90)).grownBy wx none→Calls Tryz.prog 136 #[.pointer (some ⟨b,0,none⟩),.pointer (some ⟨f.blk,0,none⟩)] wx fun e' w'=>e'=.returned (.bool false)∧wx.grownBy w' none:=by
   intro wx hg
   have hgg:=gr_trans hgA hg
   exact admit_no U b n.c n.links f wx (h2.cd.gr hgg) (hf.gr hgg) hfc'
  have hadd:addStep f n ns e=(n,(ns,e)):=by unfold addStep; rw [if_neg hfc]
  have HADD:=hide hadd
  have H0:=hide h0
  have HGA:=hide hgA
  clear h0 h2 h3 hW hEn hadd hf hfc hfc' hx1 hx2 hgA
  unfold fptr
  go_enter Tryz.func103,Tryz.ntmps103
  go_wp2_with fail
  go_cut [8] (fun z wx=>z=.bool false∧((w.alloc (.cells #[.pointer (some ⟨b,0,none⟩)] 209)).alloc (.cells #[.pointer (some ⟨f.blk,0,none⟩)] 90)).grownBy wx none)
  case first=>
   go_region_with (go_at_call 136; refine (hAd _ (by repeat (first | exact World.grownBy.refl _ _ | apply gr_drew))).mono ?_; rintro e1 w1 ⟨rfl,hk1⟩)
   all_goals
    go_wp2_with fail
    go_meet
    exact ⟨rfl,gr_trans (by repeat (first | exact World.grownBy.refl _ _ | apply gr_drew)) hk1⟩
  case rest=>
   obtain ⟨rfl,hg1⟩:=hcut
   have hgg:=gr_trans (unhide HGA) hg1
   clear hAd hg1
   go_wp2
   go_end0
   refine ⟨rfl,U,?_,GrS.of hgg (by simp),fun _ _=>rfl⟩
   rw [unhide HADD]
   exact (unhide H0).gr hgg
end Go.Proofs.YtolhbeekfjnfmaaGreatDoor
namespace Go.Proofs.YtolhbeekfjnfmaaGreatDoor
def addAt (f:Ft):Nat→List Nd→En→List Nd×En
 | _,[],e=>([],e)
 | 0,n :: ns,e=>((addStep f n ns e).1 :: (addStep f n ns e).2.1,(addStep f n ns e).2.2)
 | p+1,n :: ns,e=>(n :: (addAt f p ns e).1,(addAt f p ns e).2)
theorem addAt_len (f:Ft):∀ (p:Nat) (ns:List Nd) (e:En),(addAt f p ns e).1.length=ns.length
 | _,[],_=>by unfold addAt; rfl
 | 0,n :: ns,e=>by unfold addAt; simp [addStep_len]
 | p+1,n :: ns,e=>by unfold addAt; simp [addAt_len f p ns e]
theorem addAll_succ (f:Ft):∀ (k:Nat) (ns:List Nd) (e:En),addAll f (k+1) ns e=addAt f k (addAll f k ns e).1 (addAll f k ns e).2
 | 0,[],e=>by simp [addAll,addAt]
 | 0,n :: ns,e=>by simp [addAll,addAt]
 | k+1,[],e=>by simp [addAll,addAt]
 | k+1,n :: ns,e=>by
  have ih:=addAll_succ f k (addStep f n ns e).2.1 (addStep f n ns e).2.2
  rw [addAll,ih]
  simp only [addAll,addAt]
def addAts (f:Ft) (ps:List Nat) (ns:List Nd) (e:En):List Nd×En:=ps.foldl (fun s p=>addAt f p s.1 s.2) (ns,e)
theorem addAts_snoc (f:Ft) (ps:List Nat) (p:Nat) (ns:List Nd) (e:En):addAts f (ps ++ [p]) ns e=addAt f p (addAts f ps ns e).1 (addAts f ps ns e).2:=by
 simp [addAts]
theorem addAts_range (f:Ft) (ns:List Nd) (e:En):∀ k,addAts f (List.range k) ns e=addAll f k ns e
 | 0=>by simp [addAts,addAll]
 | k+1=>by rw [List.range_succ,addAts_snoc,addAts_range f ns e k,addAll_succ]
theorem addAts_len (f:Ft) (ps:List Nat) (ns:List Nd) (e:En):(addAts f ps ns e).1.length=ns.length:=by
 induction ps generalizing ns e with
 | nil=>rfl
 | cons p ps ih=>exact (ih _ _).trans (addAt_len f p ns e)
def negs (ns:List Nd):List Bool:=ns.map (fun n=>n.c.neg)
theorem negs_of_same {ns ns':List Nd} (h:ns.map (fun n=>(n.c,n.links,n.K))=ns'.map (fun n=>(n.c,n.links,n.K))):negs ns'=negs ns:=by
 have:=congrArg (List.map (fun x:Sv.Cond×List Lnk×List Ft=>x.1.neg)) h
 simp only [List.map_map] at this
 exact this.symm
theorem addStep_c (f:Ft) (n:Nd) (ns:List Nd) (e:En):(addStep f n ns e).1.c=n.c∧(addStep f n ns e).1.links=n.links∧(addStep f n ns e).1.toks=n.toks:=by
 unfold addStep
 split<;>exact ⟨rfl,rfl,rfl⟩
theorem addAt_negs (f:Ft):∀ (p:Nat) (ns:List Nd) (e:En),negs (addAt f p ns e).1=negs ns
 | _,[],_=>by unfold addAt; rfl
 | 0,n :: ns,e=>by
  unfold addAt
  have h1:=negs_of_same (addStep_same f n ns e)
  have h2:=(addStep_c f n ns e).1
  unfold negs at h1 ⊢
  simp [h1,h2]
 | p+1,n :: ns,e=>by
  unfold addAt
  have:=addAt_negs f p ns e
  unfold negs at this ⊢
  simp [this]
theorem addAts_negs (f:Ft) (ps:List Nat) (ns:List Nd) (e:En):negs (addAts f ps ns e).1=negs ns:=by
 induction ps generalizing ns e with
 | nil=>rfl
 | cons p ps ih=>exact (ih _ _).trans (addAt_negs f p ns e)
def Bd (κ:Nat):Nat→List Nd→En→Prop
 | c,[],e=>e.toks.length≤c∧e.wait.length≤c
 | c,n :: ns,e=>n.K.length≤κ∧n.toks.length≤c∧Bd κ (c * 20) ns e
theorem Bd.mono {κ κ':Nat} (hk:κ≤κ'):∀ {ns:List Nd} {c c':Nat} {e:En},c≤c'→Bd κ c ns e→Bd κ' c' ns e
 | [],_,_,_,hc,h=>⟨Nat.le_trans h.1 hc,Nat.le_trans h.2 hc⟩
 | _ :: _,_,_,_,hc,h=>⟨Nat.le_trans h.1 hk,Nat.le_trans h.2.1 hc,Bd.mono hk (Nat.mul_le_mul_right _ hc) h.2.2⟩
theorem ext_len20 {n:Nd} (hk:n.K.length≤20) (t:Tok):(n.ext t).length≤20:=by
 unfold Nd.ext
 split
 ·split<;>simp
 ·rw [List.length_map]
  exact Nat.le_trans (List.length_filter_le _ _) hk
theorem flat_len {α β:Type} (g:α→List β) (m:Nat) (h:∀ a,(g a).length≤m):∀ l:List α,(l.flatMap g).length≤l.length * m
 | []=>by simp
 | a :: l=>by
  rw [List.flatMap_cons,List.length_append,List.length_cons,Nat.add_mul]
  have:=flat_len g m h l
  have:=h a
  omega
theorem Bd.arr {κ:Nat} (hk:κ≤20):∀ {ns:List Nd} {c t:Nat} {e:En} {ts:List Tok},Bd κ c ns e→ts.length≤t→Bd κ (c+t) (arr ns e ts).1 (arr ns e ts).2
 | [],c,t,e,ts,h,ht=>by
  obtain ⟨h1,h2⟩:=h
  refine ⟨?_,?_⟩
  ·show (e.toks ++ ts).length≤c+t
   rw [List.length_append]; omega
  ·show (ts.foldl (Hp.push Tok.less) e.wait).length≤c+t
   rw [(Hp.fold_perm Tok.less ts e.wait).length_eq,List.length_append]; omega
 | n :: ns,c,t,e,ts,h,ht=>by
  obtain ⟨h1,h2,h3⟩:=h
  refine ⟨h1,?_,?_⟩
  ·show (n.toks ++ ts).length≤c+t
   rw [List.length_append]; omega
  ·have hf:=flat_len n.ext 20 (ext_len20 (Nat.le_trans h1 hk)) ts
   have:=Bd.arr hk (ts:=ts.flatMap n.ext) (t:=t * 20) h3 (Nat.le_trans hf (Nat.mul_le_mul_right _ ht))
   rw [←Nat.add_mul] at this
   exact this
theorem Bd.drop {κ:Nat} (p:Tok→Bool):∀ {ns:List Nd} {c:Nat} {e:En},Bd κ c ns e→Bd κ c (ns.map (Nd.drop p)) (e.drop p)
 | [],c,e,h=>by
  refine ⟨Nat.le_trans (List.length_filter_le _ _) h.1,?_⟩
  show (Hp.init Tok.less _).length≤c
  rw [(Hp.init_perm _ _).length_eq]
  exact Nat.le_trans (List.length_filter_le _ _) h.2
 | n :: ns,c,e,h=>⟨h.1,Nat.le_trans (List.length_filter_le _ _) h.2.1,Bd.drop p h.2.2⟩
theorem Bd.addStep {κ c:Nat} {n:Nd} {ns:List Nd} {e:En} {f:Ft} (hk:κ < 20) (h:Bd κ c (n :: ns) e):Bd (κ+1) (2 * c) ((addStep f n ns e).1 :: (addStep f n ns e).2.1) (addStep f n ns e).2.2:=by
 obtain ⟨h1,h2,h3⟩:=h
 unfold Go.Proofs.YtolhbeekfjnfmaaGreatDoor.addStep
 split
 ·refine ⟨by simp; omega,by show n.toks.length≤_; omega,?_⟩
  split
  ·exact (Bd.drop _ h3).mono (by omega) (by omega)
  ·have:=Bd.arr (by omega) h3 (ts:=(n.toks.filter (fun t=>fitL n.links t f.f)).map (fun t=>t ++ [f])) (t:=c) (by rw [List.length_map]; exact Nat.le_trans (List.length_filter_le _ _) h2)
   exact this.mono (by omega) (by omega)
 ·exact ⟨by show n.K.length≤_; omega,by show n.toks.length≤_; omega,h3.mono (by omega) (by omega)⟩
theorem Bd.addAt {κ:Nat} {f:Ft} (hk:κ < 20):∀ (p:Nat) {ns:List Nd} {c:Nat} {e:En},Bd κ c ns e→Bd (κ+1) (2 * c) (addAt f p ns e).1 (addAt f p ns e).2
 | _,[],_,e,h=>by unfold Go.Proofs.YtolhbeekfjnfmaaGreatDoor.addAt; exact ⟨by show e.toks.length≤_; have:=h.1; omega,by show e.wait.length≤_; have:=h.2; omega⟩
 | 0,n :: ns,c,e,h=>by unfold Go.Proofs.YtolhbeekfjnfmaaGreatDoor.addAt; exact h.addStep hk
 | p+1,n :: ns,c,e,h=>by
  unfold Go.Proofs.YtolhbeekfjnfmaaGreatDoor.addAt
  have ih:=Bd.addAt (f:=f) hk p h.2.2
  exact ⟨by have:=h.1; omega,by have:=h.2.1; omega,by rw [Nat.mul_assoc]; exact ih⟩
theorem Bd.small {κ:Nat}:∀ {ns:List Nd} {c:Nat} {e:En},Bd κ c ns e→ns.length≤4→c * 20 ^ ns.length≤1000000000→Small 1000000000 ns e
 | [],c,e,h,_,hc=>⟨by simp,by have:=h.1; simp at hc; omega,by have:=h.2; simp at hc; omega⟩
 | n :: ns,c,e,h,hl,hc=>by
  rw [List.length_cons] at hl hc
  rw [Nat.pow_succ,Nat.mul_comm (20 ^ _) 20,←Nat.mul_assoc] at hc
  have ih:=Bd.small (ns:=ns) h.2.2 (by omega) hc
  refine ⟨fun m hm=>?_,ih.2.1,ih.2.2⟩
  rcases List.mem_cons.1 hm with rfl | hm
  ·have h1:1≤20 ^ ns.length:=Nat.pow_pos (by omega)
   have h2:=h.2.1
   have h3:c * 20 * 1≤c * 20 * 20 ^ ns.length:=Nat.mul_le_mul_left _ h1
   omega
  ·exact ih.1 m hm
theorem Small.tail {B:Nat} {n:Nd} {ns:List Nd} {e:En} (h:Small B (n :: ns) e):Small B ns e:=⟨fun m hm=>h.1 m (List.mem_cons_of_mem _ hm),h.2.1,h.2.2⟩
end Go.Proofs.YtolhbeekfjnfmaaGreatDoor
namespace Go.Proofs.YtolhbeekfjnfmaaGreatDoor
open Go.RowKit
def Bk (U:Nat→Nat) (c b:Nat):Prop:=U b=c∧∀ i,i < b→U i≠c
theorem Bk.uniq {U:Nat→Nat} {c b b':Nat} (h:Bk U c b) (h':Bk U c b'):b=b':=by
 rcases Nat.lt_trichotomy b b' with h1 | h1 | h1
 ·exact absurd h.1 (h'.2 b h1)
 ·exact h1
 ·exact absurd h'.1 (h.2 b' h1)
theorem Bk.old {U U':Nat→Nat} {c b m:Nat} (h:Bk U c b) (hb:b < m) (ho:∀ i,i < m→U' i=U i):Bk U' c b:=
 ⟨by rw [ho b hb]; exact h.1,fun i hi=>by rw [ho i (Nat.lt_trans hi hb)]; exact h.2 i hi⟩
theorem endAr_cs:∀ {ns ns':List Nd} {A:List Nat},ns.map (fun n=>n.c)=ns'.map (fun n=>n.c)→endAr A ns=endAr A ns'
 | [],[],_,_=>rfl
 | [],_ :: _,_,h=>by simp at h
 | _ :: _,[],_,h=>by simp at h
 | n :: ns,n' :: ns',A,h=>by
  simp only [List.map_cons,List.cons.injEq] at h
  unfold endAr
  rw [h.1]
  exact endAr_cs h.2
theorem ext_ar {A:List Nat} {n:Nd} (h3:∀ g∈n.K,g.f.vals.length=n.c.terms.length) {t u:Tok} (ht:HasAr A t) (hx:u∈n.ext t):HasAr (if n.c.neg=true then A else A ++ [n.c.terms.length]) u:=by
 unfold Nd.ext at hx
 by_cases hn:n.c.neg=true
 ·rw [if_pos hn] at hx ⊢
  split at hx
  ·simp at hx
  ·simp at hx; rw [hx]; exact ht
 ·rw [if_neg hn] at hx ⊢
  obtain ⟨g,hg,rfl⟩:=List.mem_map.1 hx
  have hk:=h3 g (List.mem_filter.1 hg).1
  rw [←hk]
  exact ht.snoc g
theorem EndOk.arr:∀ {ns:List Nd} {A:List Nat} {e:En} {ts:List Tok},WF A ns→EndOk A ns e→(∀ t∈ts,HasAr A t)→EndOk A (arr ns e ts).1 (arr ns e ts).2
 | [],A,e,ts,_,h,ht=>by
  refine ⟨fun t hm=>?_,fun t hm=>?_⟩
  ·have hm':t∈e.toks ++ ts:=hm
   rcases List.mem_append.1 hm' with hm' | hm'
   ·exact h.1 t hm'
   ·exact ht t hm'
  ·have hm':t∈ts.foldl (Hp.push Tok.less) e.wait:=hm
   rcases List.mem_append.1 ((Hp.fold_perm Tok.less ts e.wait).mem_iff.1 hm') with hm' | hm'
   ·exact h.2 t hm'
   ·exact ht t hm'
 | n :: ns,A,e,ts,hW,h,ht=>by
  refine EndOk.arr (ns:=ns) (A:=if n.c.neg=true then A else A ++ [n.c.terms.length]) (ts:=ts.flatMap n.ext) hW.2.2.2.2 h ?_
  intro u hu
  obtain ⟨t,hm,hx⟩:=List.mem_flatMap.1 hu
  exact ext_ar hW.2.2.1 (ht t hm) hx
theorem WF.drop (p:Tok→Bool):∀ {ns:List Nd} {A:List Nat},WF A ns→WF A (ns.map (Nd.drop p))
 | [],_,h=>h
 | _ :: _,_,h=>⟨h.1,h.2.1,h.2.2.1,fun t ht=>h.2.2.2.1 t (List.mem_filter.1 ht).1,WF.drop p h.2.2.2.2⟩
theorem EndOk.drop {ns:List Nd} {A:List Nat} {e:En} (p:Tok→Bool) (h:EndOk A ns e):EndOk A (ns.map (Nd.drop p)) (e.drop p):=by
 have:endAr A (ns.map (Nd.drop p))=endAr A ns:=endAr_cs (by rw [List.map_map]; rfl)
 unfold EndOk
 rw [this]
 refine ⟨fun t ht=>h.1 t (List.mem_filter.1 ht).1,fun t ht=>?_⟩
 have hm:t∈e.wait.filter (fun t=>!p t):=(Hp.init_perm _ _).mem_iff.1 ht
 exact h.2 t (List.mem_filter.1 hm).1
theorem WF.addStep {A:List Nat} {n:Nd} {ns:List Nd} {e:En} {f:Ft} (h:WF A (n :: ns)) (he:EndOk A (n :: ns) e) :
  WF A ((addStep f n ns e).1 :: (addStep f n ns e).2.1)∧EndOk A ((addStep f n ns e).1 :: (addStep f n ns e).2.1) (addStep f n ns e).2.2:=by
 unfold Go.Proofs.YtolhbeekfjnfmaaGreatDoor.addStep
 by_cases hf:fitC n.c f.f=true
 ·rw [if_pos hf]
  have hfl:=fitC_len hf
  obtain ⟨h1,h2,h3,h4,h5⟩:=h
  have hK:∀ g∈n.K ++ [f],g.f.vals.length=n.c.terms.length:=by
   intro g hg
   rcases List.mem_append.1 hg with hg | hg
   ·exact h3 g hg
   ·simp only [List.mem_singleton] at hg; rw [hg]; exact hfl
  by_cases hn:n.c.neg=true
  ·rw [if_pos hn]
   exact ⟨⟨h1,h2,hK,h4,h5.drop _⟩,EndOk.drop (ns:=ns) (A:=if n.c.neg=true then A else A ++ [n.c.terms.length]) _ he⟩
  ·rw [if_neg hn]
   have ht:∀ u∈(n.toks.filter (fun t=>fitL n.links t f.f)).map (fun t=>t ++ [f]),HasAr (if n.c.neg=true then A else A ++ [n.c.terms.length]) u:=by
    intro u hu
    obtain ⟨t,hg,rfl⟩:=List.mem_map.1 hu
    rw [if_neg hn,←hfl]
    exact (h4 t (List.mem_filter.1 hg).1).snoc f
   exact ⟨⟨h1,h2,hK,h4,h5.arr ht⟩,EndOk.arr (ns:=ns) h5 he ht⟩
 ·rw [if_neg hf]
  exact ⟨h,he⟩
theorem WF.addAt {f:Ft}:∀ (p:Nat) {A:List Nat} {ns:List Nd} {e:En},WF A ns→EndOk A ns e→WF A (addAt f p ns e).1∧EndOk A (addAt f p ns e).1 (addAt f p ns e).2
 | _,_,[],_,h,he=>by unfold Go.Proofs.YtolhbeekfjnfmaaGreatDoor.addAt; exact ⟨h,he⟩
 | 0,_,n :: ns,e,h,he=>by unfold Go.Proofs.YtolhbeekfjnfmaaGreatDoor.addAt; exact h.addStep he
 | p+1,A,n :: ns,e,h,he=>by
  unfold Go.Proofs.YtolhbeekfjnfmaaGreatDoor.addAt
  obtain ⟨i1,i2⟩:=WF.addAt (f:=f) p (ns:=ns) (e:=e) h.2.2.2.2 he
  exact ⟨⟨h.1,h.2.1,h.2.2.1,h.2.2.2.1,i1⟩,i2⟩
theorem EndOk.four {A:List Nat} {ns:List Nd} {e:En} (h:EndOk A ns e) (hW:WF A ns):∀ x∈e.wait,x.length≤4:=fun x hx=>by
 rw [(h.2 x hx).len]
 exact endAr_le hW
def addFn (neg:Bool):Nat:=if neg=true then 103 else 102
def AtPost (U:Nat→Nat) (ru jn q k:Nat) (r:List Nd×En) (m:Nat) (hd:Value) (w w':World):Prop:=
 ∃ U',SufAt U' ru jn q k r.1 r.2 hd w'∧GrS (Codes U q m) w w'∧∀ i,i < w.heap.size→U' i=U i
theorem addAt_w (ru jn:Nat) (U:Nat→Nat) (f:Ft) (w:World) (hf:FtAt U f w):∀ (p:Nat) (A:List Nat) (q b κ c:Nat) (n:Nd) (ns:List Nd) (e:En) (hd:Value),ns[p]?=some n→Bk U (4+3 * (q+p)) b→SufAt U ru jn q A.length ns e hd w→WF A ns→EndOk A ns e→Bd κ c ns e→κ < 20→ns.length≤4→2 * c * 20 ^ ns.length≤1000000000→
  Calls Tryz.prog (addFn n.c.neg) #[.pointer (some ⟨b,0,none⟩),fptr f] w fun e' w'=>e'=.returned (.tuple #[])∧AtPost U ru jn q A.length (addAt f p ns e) ns.length hd w w'
 | _,_,_,_,_,_,_,[],_,_,hn,_,_,_,_,_,_,_,_=>by simp at hn
 | 0,A,q,b,κ,c,n,n0 :: ns,e,hd,hn,hb,h,hW,hE,hB,hk,hl,hc=>by
  simp only [List.getElem?_cons_zero,Option.some.injEq] at hn
  subst hn
  have h0:=h
  obtain ⟨b',nx,tv,lv,ov,fv,h1,h2,_⟩:=h
  have:b'=b:=Bk.uniq ⟨h2.own,h2.low⟩ hb
  subst this
  subst h1
  have hS:=(hB.addStep (f:=f) hk).small (by rw [List.length_cons,addStep_len,←List.length_cons (a:=n0)]; exact hl) (by rw [List.length_cons,addStep_len,←List.length_cons (a:=n0)]; exact hc)
  have hKl:n0.K.length≤1000000000:=by have:=hB.1; omega
  have hpost:∀ w',AddPost U ru jn q A.length n0 ns e (.iface (ndPTy n0.c.neg) (.pointer (some ⟨b',0,none⟩))) f w w'→AtPost U ru jn q A.length (addAt f 0 (n0 :: ns) e) (n0 :: ns).length (.iface (ndPTy n0.c.neg) (.pointer (some ⟨b',0,none⟩))) w w':=by
   rintro w' ⟨U',a1,a2,a3⟩
   refine ⟨U',by unfold addAt; exact a1,a2.mono (fun i hi=>?_),a3⟩
   unfold Codes
   rw [List.length_cons]
   omega
  cases hng:n0.c.neg with
  | true=>
   have hwl:e.wait.length≤1000000000:=by
    have h5:=((hB.mono (Nat.le_refl κ) (show c≤2 * c by omega)).small hl hc).2.2
    exact h5
   have hpt:ndPTy n0.c.neg=209:=by rw [hng]; rfl
   rw [hpt] at h0 hpost
   have:=block_w ru jn U A q b' n0 ns e f w hng h0 hW hE hf hKl hwl
   unfold addFn
   rw [if_pos rfl]
   refine this.mono ?_
   rintro e' w' ⟨rfl,hp⟩
   refine ⟨rfl,?_⟩
   have:=hpost w' hp
   unfold ndPTy
   rw [if_pos rfl]
   exact this
  | false=>
   have hpt:ndPTy n0.c.neg=208:=by rw [hng]; rfl
   rw [hpt] at h0 hpost
   have:=extend_w ru jn U A q b' n0 ns e f w hng h0 hW hf (hE.four hW) hKl hS.tail
   unfold addFn
   rw [if_neg (by simp)]
   refine this.mono ?_
   rintro e' w' ⟨rfl,hp⟩
   refine ⟨rfl,?_⟩
   have:=hpost w' hp
   unfold ndPTy
   rw [if_neg (by simp)]
   exact this
 | p+1,A,q,b,κ,c,n,n0 :: ns,e,hd,hn,hb,h,hW,hE,hB,hk,hl,hc=>by
  obtain ⟨b',nx,tv,lv,ov,fv,h1,h2,h3⟩:=h
  have hA:(if n0.c.neg=true then A.length else A.length+1)=(if n0.c.neg=true then A else A ++ [n0.c.terms.length]).length:=by split<;>simp
  rw [hA] at h3
  rw [List.length_cons] at hl hc
  rw [Nat.pow_succ,Nat.mul_comm (20 ^ _) 20,←Nat.mul_assoc,Nat.mul_assoc 2 c 20] at hc
  refine (addAt_w ru jn U f w hf p (if n0.c.neg=true then A else A ++ [n0.c.terms.length]) (q+1) b κ (c * 20) n ns e nx (by simpa using hn) (by rw [show q+1+p=q+(p+1) by omega]; exact hb) h3 hW.2.2.2.2 hE hB.2.2 hk (by omega) hc).mono ?_
  rintro e' w' ⟨rfl,U',a1,a2,a3⟩
  refine ⟨rfl,U',?_,a2.mono (fun i hi=>?_),a3⟩
  ·unfold addAt
   refine ⟨b',nx,tv,lv,ov,fv,h1,h2.keep a2 (fun i hi hx=>by unfold Codes at hx; omega) (fun i hi _=>a3 i hi),?_⟩
   rw [hA]
   exact a1
  ·unfold Codes at hi ⊢
   rw [List.length_cons]
   omega
end Go.Proofs.YtolhbeekfjnfmaaGreatDoor

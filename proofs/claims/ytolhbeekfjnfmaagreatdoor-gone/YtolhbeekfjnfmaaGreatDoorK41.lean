import Derived.BigQuiet
import Derived.Test.YtolhbeekfjnfmaaGreatDoorK40
import Derived.Test.YtolhbeekfjnfmaaGreatDoorK24
namespace Go.Proofs.YtolhbeekfjnfmaaGreatDoor
open Go.RowKit
theorem Tryz.entersXR:∀ args w,(callFunc 45 args).run Tryz.prog w=.ok (.enter 45 args) w:=enters_of Tryz.func45 (by kernel_rfl) rfl
set_option maxRecDepth 100000 in
set_option maxHeartbeats 1000000 in
theorem xremove1_w (U:Nat→Nat) (x:Nat) (id:Int) (f:Ft) (w:World) (hx:w.cell? ⟨x,0,none⟩=some (.int .i64 id)) (hf:FtAt U f w) :
  Calls Tryz.prog 45 #[.pointer (some ⟨f.blk,0,none⟩),.pointer (some ⟨x,0,none⟩)] w fun e w'=>e=.returned (.bool (f.id == id))∧w.grownBy w' none:=by
 obtain ⟨_,_,v,hb,_⟩:=hf
 have c2:w.cell? ⟨f.blk,2,none⟩=some (.int .i64 f.id):=by simp [World.cell?,hb]
 clear hb
 go_enter Tryz.func45,Tryz.ntmps45
 go_wp2
 go_quiet (fail)
 go_wp2
 go_ret
 exact ⟨rfl,gr_drewN _ _ _⟩
theorem idxG_id {f:Ft}:∀ {F:List Ft} (k:Nat),FtAsc F→f∈F→∃ i,F[i]?=some f∧idxG (fun g=>g.id == f.id) k F=((k+i:Nat):Int)∧F.eraseIdx i=lessF f F
 | [],_,_,h=>by simp at h
 | g :: F,k,hF,h=>by
  obtain ⟨h1,h2⟩:=List.pairwise_cons.1 hF
  unfold idxG
  by_cases hg:g=f
  ·subst hg
   refine ⟨0,rfl,by rw [if_pos (by simp)]; simp,?_⟩
   unfold lessF
   rw [List.eraseIdx_zero,List.tail_cons,List.filter_cons_of_neg (by simp)]
   exact (less_none (fun y hy=>by have:=h1 y hy; omega)).symm
  ·have hm:f∈F:=by rcases List.mem_cons.1 h with e | e; exact absurd e.symm hg; exact e
   have hlt:=h1 f hm
   obtain ⟨i,p1,p2,p3⟩:=idxG_id (k+1) h2 hm
   refine ⟨i+1,by rw [List.getElem?_cons_succ]; exact p1,?_,?_⟩
   ·rw [if_neg (by simp; omega),p2]
    congr 1
    omega
   ·rw [List.eraseIdx_cons_succ,p3]
    unfold lessF
    rw [List.filter_cons_of_pos (by simp; omega)]
theorem idxG_none (p:Ft→Bool) (l:List Ft) (h:∀ g∈l,p g=false):idxG p 0 l < 0:=by
 have h1:=idxG_any p l 0
 have h2:l.any p=false:=by rw [List.any_eq_false]; exact fun g hg=>by rw [h g hg]; simp
 rw [h2] at h1
 have:=of_decide_eq_false h1
 omega
theorem xRemMem {U:Nat→Nat} {x nb g cap n:Nat} {F F':List Ft} {cnt:Int} {chs:List Ch} {w w1 w2:World} (h:XAt U x nb (.slice (some ⟨g,0,none⟩) F.length cap) F cnt chs w) (hg1:w.grownBy w1 none) (hg2:w1.grownBy w2 (some g)) (hr2:FsAt (.slice (some ⟨g,0,none⟩) n cap) F' w2) (hsub:∀ y∈F',y∈F) :
  XAt U x nb (.slice (some ⟨g,0,none⟩) n cap) F' cnt chs (w2.setCell ⟨x,1,none⟩ (.slice (some ⟨g,0,none⟩) n cap))∧GrS (fun i=>U i=2∨U i=3) w (w2.setCell ⟨x,1,none⟩ (.slice (some ⟨g,0,none⟩) n cap))∧(w2.cell? ⟨x,1,none⟩=some (.slice (some ⟨g,0,none⟩) F.length cap)∧w2.frozen? ⟨x,1,none⟩=false)∧∀ f,FtAt U f w→FtAt U f (w2.setCell ⟨x,1,none⟩ (.slice (some ⟨g,0,none⟩) n cap)):=by
 have hUg:U g=3:=h.facts.2 g rfl
 have hxg:x≠g:=fun e=>by have:=h.ux; rw [e] at this; omega
 have hset:=gr_set w2 x 1 (.slice (some ⟨g,0,none⟩) n cap)
 have hx1:=row_lt h.blk
 have hx2:w2.heap[x]?=some (.cells #[.pointer (some ⟨nb,0,none⟩),.slice (some ⟨g,0,none⟩) F.length cap,.int .i64 cnt] 88 (0,0)):=by
  rw [hg2.block x (Nat.lt_of_lt_of_le hx1 hg1.size) (by simp; omega),hg1.block x hx1 (by simp)]
  exact h.blk
 have hG:GrS (fun i=>U i=2∨U i=3) w (w2.setCell ⟨x,1,none⟩ (.slice (some ⟨g,0,none⟩) n cap)):=
  (((GrS.of hg1 (by simp):GrS (fun i=>U i=2∨U i=3) w w1)).then hg2 (fun k hk=>by simp at hk; subst hk; exact .inr (.inr hUg))).then hset (fun k hk=>by simp at hk; subst hk; exact .inr (.inl h.ux))
 have hn:∀ i,U i=1∨4≤U i→¬ (U i=2∨U i=3):=fun i hi he=>by omega
 have hF:∀ f,FtAt U f w→FtAt U f (w2.setCell ⟨x,1,none⟩ (.slice (some ⟨g,0,none⟩) n cap)):=fun f hf=>hf.keep hG (fun i hi=>hn i (.inl hi)) (fun _ _ e=>e)
 refine ⟨⟨?_,h.ux,⟨hr2.other hset (fun k hk e=>?_),fun k hk=>h.facts.2 k hk⟩,fun y hy=>hF y (h.fts y (hsub y hy)),h.net.keep hG hn (fun _ _=>rfl)⟩,hG,⟨by simp [World.cell?,hx2],by simp [World.frozen?,hx2]⟩,hF⟩
 ·rw [heap_setCell_same w2 x 1 _ _ _ hx2]; rfl
 ·simp only [Value.ownBlock,Option.some.injEq] at hk e
  omega
def XRemPost (U:Nat→Nat) (x nb:Nat) (F:List Ft) (cnt:Int) (chs:List Ch) (f:Ft) (w w':World):Prop:=
 ∃ U' fv',XAt U' x nb fv' (lessF f F) cnt (chs.map (delCh f)) w'∧GrS (fun i=>2≤U i) w w'∧∀ i,i < w.heap.size→U' i=U i
set_option maxRecDepth 100000 in
set_option maxHeartbeats 2000000 in
theorem xRemove_no (U:Nat→Nat) (x nb:Nat) (fv:Value) (F:List Ft) (cnt:Int) (chs:List Ch) (id:Int) (w:World) (h:XAt U x nb fv F cnt chs w) (hno:∀ g∈F,(g.id == id)=false) :
  Calls Tryz.prog 27 #[.pointer (some ⟨x,0,none⟩),.int .i64 id] w fun e w'=>e=.returned (.int .i64 5)∧w.grownBy w' none:=by
 have hgA:=World.grownBy_alloc w (.cells #[.int .i64 id] 3) none
 have hnb:(w.alloc (.cells #[.int .i64 id] 3)).heap[w.heap.size]?=some (.cells #[.int .i64 id] 3 (0,0)):=heap_alloc_new _ _
 have hc0:(w.alloc (.cells #[.int .i64 id] 3)).cell? ⟨w.heap.size,0,none⟩=some (.int .i64 id):=cell_of hnb rfl
 have hI:=idxP1_w 45 (.pointer (some ⟨w.heap.size,0,none⟩)) (fun g=>g.id == id) fv F (w.alloc (.cells #[.int .i64 id] 3)) Tryz.entersXR (h.facts.1.gr hgA) (fun wx t hg ht=>xremove1_w U _ id t wx (hg.cell hc0 (by simp)) ((h.fts t ht).gr (gr_trans hgA hg)))
 have hneg:=idxG_none (fun g:Ft=>g.id == id) F hno
 obtain ⟨R,hR⟩:∃ R,idxG (fun g:Ft=>g.id == id) 0 F=R:=⟨_,rfl⟩
 rw [hR] at hI hneg
 have c1:w.cell? ⟨x,1,none⟩=some fv:=by simp [World.cell?,h.blk]
 have c1':=hgA.cell c1 (by simp)
 have hd:decide (R < 0)=true:=by simpa using hneg
 have HG:=hide hgA
 clear hR h hno hnb hc0 hgA
 go_enter Tryz.func27,Tryz.ntmps27
 go_wp2_with fail
 refine hI.mono ?_
 rintro e w1 ⟨rfl,hg1⟩
 go_wp2
 go_ret
 exact ⟨rfl,gr_trans (unhide HG) hg1⟩
set_option maxRecDepth 100000 in
set_option maxHeartbeats 4000000 in
theorem xRemove_yes (U:Nat→Nat) (x nb:Nat) (fv:Value) (F:List Ft) (cnt:Int) (chs:List Ch) (f:Ft) (w:World) (h:XAt U x nb fv F cnt chs w) (hF:FtAsc F) (hf:f∈F) (hfit:∀ c∈chs,ChFit c∧∀ n∈c.ns,OneBlk n.K∧∀ g∈n.K,g.blk=f.blk→g.f=f.f) :
  Calls Tryz.prog 27 #[.pointer (some ⟨x,0,none⟩),.int .i64 f.id] w fun e w'=>e=.returned (.int .i64 0)∧XRemPost U x nb F cnt chs f w w':=by
 have hgA:=World.grownBy_alloc w (.cells #[.int .i64 f.id] 3) none
 have hnb:(w.alloc (.cells #[.int .i64 f.id] 3)).heap[w.heap.size]?=some (.cells #[.int .i64 f.id] 3 (0,0)):=heap_alloc_new _ _
 have hc0:(w.alloc (.cells #[.int .i64 f.id] 3)).cell? ⟨w.heap.size,0,none⟩=some (.int .i64 f.id):=cell_of hnb rfl
 have hI:=idxP1_w 45 (.pointer (some ⟨w.heap.size,0,none⟩)) (fun g=>g.id == f.id) fv F (w.alloc (.cells #[.int .i64 f.id] 3)) Tryz.entersXR (h.facts.1.gr hgA) (fun wx t hg ht=>xremove1_w U _ f.id t wx (hg.cell hc0 (by simp)) ((h.fts t ht).gr (gr_trans hgA hg)))
 obtain ⟨i,hi,hix,hers⟩:=idxG_id 0 hF hf
 rw [hix,Nat.zero_add] at hI
 have hil:i < F.length:=(List.getElem?_eq_some_iff.1 hi).1
 obtain ⟨g,cap,hfv,hc⟩:=FsAt.cell h.facts.1 hi
 subst hfv
 have hlm:=h.facts.1.le
 unfold maxLen at hlm
 have c1:w.cell? ⟨x,1,none⟩=some (.slice (some ⟨g,0,none⟩) F.length cap):=by simp [World.cell?,h.blk]
 have c1':=hgA.cell c1 (by simp)
 have hkey:∀ w1,(w.alloc (.cells #[.int .i64 f.id] 3)).grownBy w1 none→(w1.cell? ⟨x,1,none⟩=some (.slice (some ⟨g,0,none⟩) F.length cap)∧w1.cell? ⟨g,i,none⟩=some (.pointer (some ⟨f.blk,0,none⟩)))∧
   Calls Tryz.prog 46 #[.slice (some ⟨g,0,none⟩) F.length cap,.int .i64 i,.int .i64 ((i:Int)+1)] w1 fun e w2=>e=.returned (.slice (some ⟨g,0,none⟩) (F.length - 1) cap)∧(w2.cell? ⟨x,1,none⟩=some (.slice (some ⟨g,0,none⟩) F.length cap)∧w2.frozen? ⟨x,1,none⟩=false∧(w2.setCell ⟨x,1,none⟩ (.slice (some ⟨g,0,none⟩) (F.length - 1) cap)).cell? ⟨x,0,none⟩=some (.pointer (some ⟨nb,0,none⟩)))∧
    Calls Tryz.prog 47 #[.pointer (some ⟨nb,0,none⟩),.pointer (some ⟨f.blk,0,none⟩)] (w2.setCell ⟨x,1,none⟩ (.slice (some ⟨g,0,none⟩) (F.length - 1) cap)) fun e w3=>e=.returned (.tuple #[])∧XRemPost U x nb F cnt chs f w w3:=by
  intro w1 hg1
  have hg01:=gr_trans hgA hg1
  refine ⟨⟨hg1.cell c1' (by simp),hg01.cell hc (by simp)⟩,?_⟩
  refine (sDel_w g cap F i w1 (h.facts.1.gr hg01) hil).mono ?_
  rintro e w2 ⟨rfl,hg2,hr2⟩
  rw [hers] at hr2
  obtain ⟨m1,m2,m3,m4⟩:=xRemMem h hg01 hg2 hr2 (fun y hy=>(List.mem_filter.1 hy).1)
  refine ⟨rfl,⟨m3.1,m3.2,by simp [World.cell?,m1.blk]⟩,?_⟩
  refine (nRemove_w U nb chs f _ m1.net hfit (m4 f (h.fts f hf))).mono ?_
  rintro e w3 ⟨rfl,U3,k1,k2,k3,k4⟩
  have hn7:∀ i,U i < 4→¬ (4≤U i):=fun i hi h=>by omega
  refine ⟨rfl,U3,_,⟨k2.blk m1.blk (hn7 x (by rw [m1.ux]; omega)),by rw [k4 x (row_lt m1.blk)]; exact m1.ux,m1.facts.keep2 k2 (fun i hi=>hn7 i (by omega)) (fun i hi e=>by rw [k4 i hi]; exact e),fun y hy=>(m1.fts y hy).keep k2 (fun i hi=>hn7 i (by omega)) (fun i hi e=>by rw [k4 i hi]; exact e),k1⟩,(m2.mono (fun i hi=>by show 2≤U i; omega):GrS (fun i=>2≤U i) w _).comp k2 (fun i hi hn hx=>hn (by show 2≤U i; have hx':4≤U i:=hx; omega)),fun i hi=>k4 i (Nat.lt_of_lt_of_le hi m2.size)⟩
 have HKEY:=hide hkey
 have hd:decide ((i:Int) < 0)=false:=by simp
 clear hkey h hF hf hfit hnb hc0 hgA hix hers hi hc
 go_enter Tryz.func27,Tryz.ntmps27
 go_wp2_with fail
 refine hI.mono ?_
 rintro e w1 ⟨rfl,hg1⟩
 obtain ⟨⟨a1,a2⟩,hD⟩:=unhide HKEY w1 hg1
 clear HKEY hI hg1
 go_wp2_with fail
 refine hD.mono ?_
 rintro e w2 ⟨rfl,⟨b1,b2,b3⟩,hR⟩
 clear hD
 go_wp2_with fail
 refine hR.mono ?_
 rintro e w3 ⟨rfl,hP⟩
 have HP:=hide hP
 clear hP hR
 go_wp2
 go_ret
 exact ⟨rfl,unhide HP⟩
theorem XSt.fits {s:Sv.St} {F:List Ft} {chs:List Ch} {Zs:List (List Tok)} (h:XSt s F chs Zs):∀ c∈chs,ChFit c∧∀ f∈F,∀ n∈c.ns,OneBlk n.K∧∀ g∈n.K,g.blk=f.blk→g.f=f.f:=by
 intro c hc
 obtain ⟨i,hi⟩:=List.getElem?_of_mem hc
 have hil:i < s.rs.length:=by have:=(List.getElem?_eq_some_iff.1 hi).1; rw [h.rules.len.1] at this; exact this
 obtain ⟨c2,Z,p1,p2,p3⟩:=h.rules.get (List.getElem?_eq_getElem hil)
 rw [hi] at p1
 simp only [Option.some.injEq] at p1
 subst p1
 exact ⟨p3.ok.fit p3.fd p3.few h.few,fun f hf=>p3.ok.apart h.asc hf⟩
theorem xRemoveT (T:Nat→Nat) (t x:Nat) (s:Sv.St) (id:Int) (w:World) (h:XT T t x s w) :
  Calls Tryz.prog 27 #[.pointer (some ⟨x,0,none⟩),.int .i64 id] w fun e w'=>e=.returned (.int .i64 (s.del id).1)∧GrS (fun k=>T k=t) w w'∧∃ T',XT T' t x (s.del id).2 w'∧∀ k,k < w.heap.size→T' k=T k:=by
 have h0:=h
 obtain ⟨U,nb,fv,F,chs,Zs,h1,h2,h3,h4,h5⟩:=h
 cases ha:s.L.any (fun p=>p.1 == id)
 ·have hdel:s.del id=(5,s):=by unfold Sv.St.del; rw [ha,if_neg (by simp)]
  rw [hdel]
  refine (xRemove_no U x nb fv F s.cnt chs id w h1 (fun g hg=>?_)).mono ?_
  ·rw [←h2.facts,List.any_eq_false] at ha
   have:=ha _ (List.mem_map.2 ⟨g,hg,rfl⟩)
   simpa using this
  ·rintro e w' ⟨rfl,hg⟩
   exact ⟨rfl,GrS.of hg (by simp),T,h0.gr hg (fun _ _=>rfl),fun _ _=>rfl⟩
 ·obtain ⟨f,hf,hid⟩:∃ f∈F,f.id=id:=by
   rw [←h2.facts,List.any_eq_true] at ha
   obtain ⟨p,hp,he⟩:=ha
   obtain ⟨f,hf,rfl⟩:=List.mem_map.1 hp
   exact ⟨f,hf,by simpa using he⟩
  subst hid
  have hdel:s.del f.id=(0,⟨s.rs,s.L.filter (fun p=>!(p.1 == f.id)),s.cnt,Sv.keepF (Sv.matches s.rs (s.L.filter (fun p=>!(p.1 == f.id)))) s.fired⟩):=by unfold Sv.St.del; rw [ha,if_pos rfl]
  rw [hdel]
  refine (xRemove_yes U x nb fv F s.cnt chs f w h1 h2.asc hf (fun c hc=>⟨(h2.fits c hc).1,(h2.fits c hc).2 f hf⟩)).mono ?_
  rintro e w' ⟨rfl,U',fv',hX,hG,ho⟩
  obtain ⟨Zs',hS⟩:=h2.del hf
  refine ⟨rfl,hG.mono (fun k hk=>h4 k hk),?_⟩
  exact XT.mk' (s:=⟨s.rs,s.L.filter (fun p=>!(p.1 == f.id)),s.cnt,Sv.keepF (Sv.matches s.rs (s.L.filter (fun p=>!(p.1 == f.id)))) s.fired⟩) hX hS (fun i hi e=>by rw [ho i hi] at e; exact h3 i e) (fun i hi e=>by rw [ho i hi] at e; exact h4 i e)
end Go.Proofs.YtolhbeekfjnfmaaGreatDoor

import Derived.Test.YtolhbeekfjnfmaaGreatDoorK38
import Derived.Test.YtolhbeekfjnfmaaGreatDoorK13
import Derived.Test.YtolhbeekfjnfmaaGreatDoorK06
namespace Go.Proofs.YtolhbeekfjnfmaaGreatDoor
open Go.RowKit
theorem FtAt.isBlk {U:Nat→Nat} {f:Ft} {w:World} (h:FtAt U f w):IsBlk f.blk w:=by
 obtain ⟨_,_,v,hb,_⟩:=h
 exact ⟨_,_,hb⟩
def OneBlk (l:List Ft):Prop:=l.Pairwise (fun g h=>g.blk≠h.blk)
theorem less_none {b:Nat}:∀ {l:List Ft},(∀ g∈l,g.blk≠b)→l.filter (fun g=>!(g.blk == b))=l
 | l,h=>List.filter_eq_self.2 (fun g hg=>by simp [h g hg])
theorem idxG_erase (b:Nat):∀ (l:List Ft) (k:Nat),OneBlk l→l.any (fun g=>g.blk == b)=true→∃ i,i < l.length∧idxG (fun g=>g.blk == b) k l=((k+i:Nat):Int)∧l.eraseIdx i=l.filter (fun g=>!(g.blk == b))
 | [],_,_,h=>by simp at h
 | f :: l,k,ho,h=>by
  unfold idxG
  by_cases hf:f.blk=b
  ·refine ⟨0,by simp,by rw [if_pos (by simpa using hf)]; simp,?_⟩
   rw [List.eraseIdx_zero,List.tail_cons,List.filter_cons_of_neg (by simp [hf])]
   exact (less_none (fun g hg=>by have:=(List.pairwise_cons.1 ho).1 g hg; omega)).symm
  ·rw [List.any_cons,show (f.blk == b)=false by simpa using hf,Bool.false_or] at h
   obtain ⟨i,h1,h2,h3⟩:=idxG_erase b l (k+1) (List.pairwise_cons.1 ho).2 h
   refine ⟨i+1,by simpa using h1,?_,?_⟩
   ·rw [if_neg (by simpa using hf),h2]
    congr 1
    omega
   ·rw [List.eraseIdx_cons_succ,h3,List.filter_cons_of_pos (by simpa using hf)]
set_option maxRecDepth 100000 in
set_option maxHeartbeats 2000000 in
theorem dismiss_no (U:Nat→Nat) (b:Nat) (v:Value) (cs:Array Value) (ty:TypeId) (K:List Ft) (f:Ft) (w:World) (hb:w.heap[b]?=some (.cells cs ty (0,0))) (ho:cs[4]?=some v) (hr:FsAt v K w) (hK:∀ g∈K,FtAt U g w) (hf:FtAt U f w) (hn:K.any (fun g=>g.blk == f.blk)=false) :
  Calls Tryz.prog 107 #[.pointer (some ⟨b,0,none⟩),fptr f] w fun e w'=>e=.returned (.bool false)∧w'=w:=by
 obtain ⟨ao,cap,rfl⟩:=hr.slice
 have hI:=sIdx_w f.blk ao _ cap w hf.isBlk (hr.ptrs (fun g hg=>(hK g hg).isBlk))
 rw [idxP_blk,List.length_map] at hI
 have hneg:idxG (fun g=>g.blk == f.blk) 0 K < 0:=by
  have:=idxG_any (fun g=>g.blk == f.blk) K 0
  rw [hn] at this
  have:=of_decide_eq_false this
  omega
 have b0:w.cell? ⟨b,4,none⟩=some (.slice ao K.length cap):=by simp [World.cell?,hb]; simpa using ho
 obtain ⟨R,hR⟩:∃ R,idxG (fun g=>g.blk == f.blk) 0 K=R:=⟨_,rfl⟩
 rw [hR] at hI hneg
 unfold fptr
 clear hR hr hK hf hn hb ho
 go_enter Tryz.func107,Tryz.ntmps107
 go_wp2_with fail
 refine hI.mono ?_
 rintro e w1 ⟨rfl,hw⟩
 subst w1
 go_wp2
 go_ret
 exact ⟨rfl,rfl⟩
def DismissPost (b:Nat) (v:Value) (cs:Array Value) (ty:TypeId) (K:List Ft) (f:Ft) (w w':World):Prop:=
 ∃ v',w'.heap[b]?=some (.cells (cs.setIfInBounds 4 v') ty (0,0))∧FsAt v' (K.filter (fun g=>!(g.blk == f.blk))) w'∧GrS (fun k=>k=b∨v.ownBlock=some k) w w'∧∀ g,v'.ownBlock=some g→v.ownBlock=some g
set_option maxRecDepth 100000 in
set_option maxHeartbeats 2000000 in
theorem dismiss_yes (U:Nat→Nat) (b:Nat) (v:Value) (cs:Array Value) (ty:TypeId) (K:List Ft) (f:Ft) (w:World) (hb:w.heap[b]?=some (.cells cs ty (0,0))) (ho:cs[4]?=some v) (hr:FsAt v K w) (hne:v.ownBlock≠some b) (hK:∀ g∈K,FtAt U g w) (hf:FtAt U f w) (h1:OneBlk K) (hn:K.any (fun g=>g.blk == f.blk)=true) :
  Calls Tryz.prog 107 #[.pointer (some ⟨b,0,none⟩),fptr f] w fun e w'=>e=.returned (.bool true)∧DismissPost b v cs ty K f w w':=by
 obtain ⟨ao,cap,rfl⟩:=hr.slice
 have hI:=sIdx_w f.blk ao _ cap w hf.isBlk (hr.ptrs (fun g hg=>(hK g hg).isBlk))
 rw [idxP_blk,List.length_map] at hI
 obtain ⟨i,hi,hix,hers⟩:=idxG_erase f.blk K 0 h1 hn
 rw [hix,Nat.zero_add] at hI
 obtain ⟨g0,hg0⟩:∃ g,K[i]?=some g:=⟨_,List.getElem?_eq_getElem hi⟩
 obtain ⟨gb,cap',e1,_⟩:=hr.cell hg0
 simp only [Value.slice.injEq,true_and] at e1
 obtain ⟨rfl,rfl⟩:=e1
 have hD:=sDel_w gb cap K i w hr hi
 rw [hers] at hD
 have hlm:=hr.le
 unfold maxLen at hlm
 have b0:w.cell? ⟨b,4,none⟩=some (.slice (some ⟨gb,0,none⟩) K.length cap):=by simp [World.cell?,hb]; simpa using ho
 have hgb:gb≠b:=fun e=>hne (by simp [Value.ownBlock,e])
 have hneg:decide ((i:Int) < 0)=false:=by simp
 unfold fptr
 have HB:=hide hb
 clear hix hers hg0 hr hK hf hn h1 hb ho hne
 go_enter Tryz.func107,Tryz.ntmps107
 go_wp2_with fail
 refine hI.mono ?_
 rintro e w1 ⟨rfl,hw⟩
 subst w1
 go_wp2_with fail
 refine hD.mono ?_
 rintro e w2 ⟨rfl,hg2,hr2⟩
 have hb2:w2.heap[b]?=some (.cells cs ty (0,0)):=by rw [hg2.block b (row_lt (unhide HB)) (by simp; omega)]; exact unhide HB
 have z2:w2.frozen? ⟨b,4,none⟩=false:=by simp [World.frozen?,hb2]
 have b2:w2.cell? ⟨b,4,none⟩=some (.slice (some ⟨gb,0,none⟩) K.length cap):=hg2.cell b0 (by simp; omega)
 have HB2:=hide hb2
 have HR2:=hide hr2
 have HG2:=hide hg2
 clear hb2 hr2 hg2
 go_wp2
 go_ret
 have hgs:=gr_set w2 b 4 (.slice (some ⟨gb,0,none⟩) (K.length - 1) cap)
 refine ⟨rfl,_,by rw [heap_setCell_same w2 b 4 _ _ _ (unhide HB2)],(unhide HR2).other hgs (fun g hg e=>?_),?_,fun g hg=>hg⟩
 ·simp only [Value.ownBlock,Option.some.injEq] at hg e
  omega
 ·exact (GrS.of (unhide HG2) (fun g hgg=>.inr (by simpa [Value.ownBlock] using hgg))).then hgs (fun g hgg=>by simp at hgg; exact .inr (.inl hgg.symm))
theorem dismissNode {U:Nat→Nat} {q k b:Nat} {n:Nd} {nx tv lv ov fv:Value} {f:Ft} {w w1:World} (h:NodeAt U q k b n nx tv lv ov fv w) (hk:DismissPost b fv (ndCells n k tv lv ov fv nx) (ndTy n.c.neg) n.K f w w1) :
  ∃ fv',NodeAt U q k b (n.less f) nx tv lv ov fv' w1∧GrS (fun i=>U i=4+3 * q∨U i=6+3 * q) w w1:=by
 obtain ⟨fv',k1,k2,k3,k4⟩:=hk
 rw [ndCells_set4 (n:=n) (n':=n.less f) rfl] at k1
 have hsm:∀ i,(i=b∨fv.ownBlock=some i)→U i=4+3 * q∨U i=6+3 * q:=by
  rintro i (rfl | hx)
  ·exact .inl h.own
  ·exact .inr (h.facts.2 i hx)
 have hs:∀ i,U i=1∨U i=5+3 * q→¬ (i=b∨fv.ownBlock=some i):=fun i hi hx=>by have:=hsm i hx; omega
 have ho:∀ c i,i < w.heap.size→U i=c→U i=c:=fun c i hi hx=>hx
 have hF:∀ g,FtAt U g w→FtAt U g w1:=fun g hg=>hg.keep k3 (fun i hi=>hs i (.inl hi)) (ho 1)
 exact ⟨fv',⟨k1,h.own,h.terms.keep2 k3 (fun i hi=>hs i (.inl hi)) (ho 1),h.links.keep2 k3 (fun i hi=>hs i (.inl hi)) (ho 1),h.toks.keep2 k3 (fun i hi=>hs i (.inr hi)) (ho _),⟨k2,fun g hg=>h.facts.2 g (k4 g hg)⟩,fun g hg=>hF g (h.fts g (List.mem_filter.1 hg).1),fun t ht g hg=>hF g (h.tfs t ht g hg),h.short,h.low⟩,k3.mono hsm⟩
end Go.Proofs.YtolhbeekfjnfmaaGreatDoor
namespace Go.Proofs.YtolhbeekfjnfmaaGreatDoor
open Go.RowKit
theorem cell_of {w:World} {b k:Nat} {cs:Array Value} {ty:TypeId} {v:Value} (h:w.heap[b]?=some (.cells cs ty (0,0))) (hk:cs[k]?=some v):w.cell? ⟨b,k,none⟩=some v:=by
 simp [World.cell?,h]
 simpa using hk
def relX (n:Nd) (f:Ft) (j:Nat):List Tok:=(n.toks.take j).filter (fun t=>fitL n.links t f.f && !(n.less f).K.any (fun g=>fitL n.links t g.f))
theorem relX_succ {n:Nd} {f:Ft} {j:Nat} {t:Tok} (h:n.toks[j]?=some t):relX n f (j+1)=relX n f j ++ (if (fitL n.links t f.f && !(n.less f).K.any (fun g=>fitL n.links t g.f))=true then [t] else []):=by
 unfold relX
 exact filter_take_succ _ h
theorem relX_pre (n:Nd) (f:Ft) (j:Nat):∃ Y,relX n f n.toks.length=relX n f j ++ Y:=by
 refine ⟨(n.toks.drop j).filter (fun t=>fitL n.links t f.f && !(n.less f).K.any (fun g=>fitL n.links t g.f)),?_⟩
 unfold relX
 rw [List.take_length,←List.filter_append,List.take_append_drop]
theorem relX_ar {n:Nd} {ns:List Nd} {A:List Nat} {f:Ft} (h:WF A (n :: ns)) (j:Nat):∀ u∈relX n f j,HasAr A u:=by
 intro u hu
 exact h.2.2.2.1 u (List.mem_of_mem_take (List.mem_filter.1 hu).1)
def DelAtPost (U:Nat→Nat) (ru jn q k:Nat) (n:Nd) (ns:List Nd) (e:En) (hd:Value) (f:Ft) (w w':World):Prop:=
 ∃ U',SufAt U' ru jn q k ((delStep f n ns e).1 :: (delStep f n ns e).2.1) (delStep f n ns e).2.2 hd w'∧GrS (fun i=>4+3 * q≤U i∧U i < 7+3 * (q+ns.length+1)) w w'∧∀ i,i < w.heap.size→U' i=U i
theorem relUp {U Ux:Nat→Nat} {ru jn q k k' b j:Nat} {n n1:Nd} {ns:List Nd} {e:En} {f:Ft} {t:Tok} {nx tv lv ov fv:Value} {w wr wx w5:World} (x1:NodeAt Ux q k b n1 nx tv lv ov fv wr) (x5:FtAt Ux f wr) (hlen:(arr ns e (relX n f j)).1.length=ns.length)
  (x3:GrS (fun i=>4+3 * q≤U i∧U i < 7+3 * (q+ns.length+1)) w wr) (x4:∀ i,i < w.heap.size→Ux i=U i) (hg:wr.grownBy wx none) (hP:ArrPost Ux ru jn (q+1) k' (arr ns e (relX n f j)).1 (arr ns e (relX n f j)).2 nx [t] wx w5) (hX:relX n f (j+1)=relX n f j ++ [t]) :
  ∃ Uy,NodeAt Uy q k b n1 nx tv lv ov fv w5∧SufAt Uy ru jn (q+1) k' (arr ns e (relX n f (j+1))).1 (arr ns e (relX n f (j+1))).2 nx w5∧GrS (fun i=>4+3 * q≤U i∧U i < 7+3 * (q+ns.length+1)) w w5∧(∀ i,i < w.heap.size→Uy i=U i)∧FtAt Uy f w5:=by
 have hP':=hP
 obtain ⟨Uz,_,z2,z3⟩:=hP'
 obtain ⟨Uy,y1,y2,y3,y4,y5⟩:=upNode (U:=U) x1 (by rw [hlen]; exact x3) x4 hg hP
 rw [hlen] at y3
 refine ⟨Uy,y1,?_,y3,y4,x5.keep ((GrS.of hg (by simp)).trans z2) (fun i hi hc=>by unfold Codes at hc; omega) (fun i hi hx=>by rw [y5 i hi]; exact hx)⟩
 rw [hX]
 unfold arr at y2 ⊢
 rw [arrives_app]
 exact y2
set_option maxRecDepth 100000 in
set_option maxHeartbeats 8000000 in
theorem release_w (ru jn:Nat) (U:Nat→Nat) (A:List Nat) (q b:Nat) (n:Nd) (ns:List Nd) (e:En) (f:Ft) (w:World) (hneg:n.c.neg=true) (h:SufAt U ru jn q A.length (n :: ns) e (.iface 209 (.pointer (some ⟨b,0,none⟩))) w) (hW:WF A (n :: ns)) (hf:FtAt U f w) (he:∀ x∈e.wait,x.length≤4) (hone:OneBlk n.K) (hsame:∀ g∈n.K,g.blk=f.blk→g.f=f.f)
  (hS:Small 1000000000 (delStep f n ns e).2.1 (delStep f n ns e).2.2) :
  Calls Tryz.prog 108 #[.pointer (some ⟨b,0,none⟩),fptr f] w fun e' w'=>e'=.returned (.tuple #[])∧DelAtPost U ru jn q A.length n ns e (.iface 209 (.pointer (some ⟨b,0,none⟩))) f w w':=by
 have h0:=h
 obtain ⟨b',nx,tv,lv,ov,fv,h1,h2,h3⟩:=h
 simp only [Value.iface.injEq,Value.pointer.injEq,Option.some.injEq,Addr.mk.injEq,and_true] at h1
 obtain ⟨hty,rfl⟩:=h1
 clear hty
 have hne1:fv.ownBlock≠some b:=fun hx=>by have:=h2.facts.2 b hx; have:=h2.own; omega
 by_cases hany:n.K.any (fun g=>g.blk == f.blk)=true
 ·have hAd:=dismiss_yes U b fv (ndCells n A.length tv lv ov fv nx) (ndTy n.c.neg) n.K f w h2.blk ndCells_get.2.1 h2.facts.1 hne1 h2.fts hf hone hany
  have hadd:delStep f n ns e=(n.less f,arr ns e (relX n f n.toks.length)):=by
   unfold delStep relX
   rw [if_pos hany,if_pos hneg,List.take_length]
  rw [hadd] at hS
  have hfl:f.f.vals.length=n.c.terms.length:=by
   obtain ⟨g,hg,hgb⟩:=List.any_eq_true.1 hany
   rw [←hsame g hg (by simpa using hgb)]
   exact hW.2.2.1 g hg
  have hW':=hW.2.2.2.2
  rw [if_pos hneg] at hW' h3
  have hfit:=fun t (ht:t∈n.toks)=>hW.fit (hW.2.2.2.1 t ht) (f:=f) hfl
  have hfitK:=fun t (ht:t∈n.toks) (g:Ft) (hg:g∈n.K)=>hW.fit (hW.2.2.2.1 t ht) (f:=g) (hW.2.2.1 g hg)
  have hlenT:=fun t (ht:t∈n.toks)=>(hW.2.2.2.1 t ht).len
  have hXA:=fun j=>relX_ar (f:=f) hW j
  have hA4:A.length≤4:=hW.le
  have hTl:=h2.toks.1.le
  unfold maxLen at hTl
  obtain ⟨ta,tcap,hov⟩:=h2.toks.1.slice
  have HH:=hide h2
  have H3:=hide h3
  have HE:=hide he
  have HFA:=hide hf
  have HADD:=hide hadd
  have HOV:=hide hov
  have HW:=hide (show WF A ns∧Small 1000000000 (arr ns e (relX n f n.toks.length)).1 (arr ns e (relX n f n.toks.length)).2∧(∀ j,∀ u∈relX n f j,HasAr A u)∧(∀ t∈n.toks,t.length=A.length) from ⟨hW',hS,hXA,hlenT⟩)
  have HFIT:=hide (show (∀ t∈n.toks,_)∧(∀ t∈n.toks,∀ g∈n.K,_) from ⟨hfit,hfitK⟩)
  have hKf:(n.less f).K=n.K.filter (fun g=>!(g.blk == f.blk)):=rfl
  clear h0 h2 he hW hS hW' hfit hfitK hXA hlenT hadd hf hfl hany hov hone hsame
  have hhd:=h3.head
  clear h3
  have mL:=Tryz.mArrL
  have mJ:=Tryz.mArrJ
  have mH:=Tryz.mArrH
  obtain ⟨ty2,fn2,b2,rfl,hfn2⟩:∃ ty2 fn2 b2,nx=.iface ty2 (.pointer (some ⟨b2,0,none⟩))∧ArrFn ty2 fn2:=by
   rcases hhd with ⟨b2,rfl,_⟩ | ⟨b2,n2,ns2,rfl,_⟩ | ⟨b2,n2,ns2,rfl,_⟩
   ·exact ⟨_,_,b2,rfl,.inl ⟨rfl,rfl⟩⟩
   ·exact ⟨_,_,b2,rfl,.inr (.inl ⟨rfl,rfl⟩)⟩
   ·exact ⟨_,_,b2,rfl,.inr (.inr ⟨rfl,rfl⟩)⟩
  clear hhd
  unfold fptr at hAd ⊢
  go_enter Tryz.func108,Tryz.ntmps108
  go_wp2_with fail
  refine hAd.mono ?_
  rintro e1 wc ⟨rfl,hkp⟩
  have hh:=unhide HH
  obtain ⟨fv',hN1,hG1⟩:=dismissNode hh hkp
  have hS31:SufAt U ru jn (q+1) A.length ns e (.iface ty2 (.pointer (some ⟨b2,0,none⟩))) wc:=(unhide H3).keep hG1 (fun i hi hx=>by omega) (fun i hi _=>rfl)
  have c3:=hN1.cell 3 (by omega)
  have hc3:wc.cell? ⟨b,3,none⟩=some (.slice ta n.toks.length tcap):=by rw [c3]; simp [unhide HOV]
  have hfc:FtAt U f wc:=(unhide HFA).keep hG1 (fun i hi hx=>by omega) (fun i hi hx=>hx)
  have HF:=hide (show NodeAt U q A.length b (n.less f) (.iface ty2 (.pointer (some ⟨b2,0,none⟩))) tv lv ov fv' wc∧SufAt U ru jn (q+1) A.length (arr ns e (relX n f 0)).1 (arr ns e (relX n f 0)).2 (.iface ty2 (.pointer (some ⟨b2,0,none⟩))) wc∧GrS (fun i=>4+3 * q≤U i∧U i < 7+3 * (q+ns.length+1)) w wc∧FtAt U f wc from
   ⟨hN1,by unfold relX arr; simp only [List.take_zero,List.filter_nil]; rw [arrives_nil]; exact hS31,hG1.mono (fun i hi=>by omega),hfc⟩)
  clear hAd hkp hN1 hG1 hS31 hh c3 hfc
  go_wp2
  clear hc3
  go_loopw [19] (fun x w'=>∃ j:Nat,j≤n.toks.length∧x=.int .i64 j∧Hid (∃ Ux,NodeAt Ux q A.length b (n.less f) (.iface ty2 (.pointer (some ⟨b2,0,none⟩))) tv lv ov fv' w'∧SufAt Ux ru jn (q+1) A.length (arr ns e (relX n f j)).1 (arr ns e (relX n f j)).2 (.iface ty2 (.pointer (some ⟨b2,0,none⟩))) w'∧GrS (fun i=>4+3 * q≤U i∧U i < 7+3 * (q+ns.length+1)) w w'∧(∀ i,i < w.heap.size→Ux i=U i)∧FtAt Ux f w')) (fun x _=>n.toks.length - (intOf x).toNat)
  case atStart=>exact ⟨0,Nat.zero_le _,rfl,hide ⟨U,(unhide HF).1,(unhide HF).2.1,(unhide HF).2.2.1,fun _ _=>rfl,(unhide HF).2.2.2⟩⟩
  case round=>
   clear HF
   obtain ⟨j,hj,rfl,HK⟩:=hrel
   obtain ⟨Ux,x1,x2,x3,x4,x5⟩:=unhide HK
   clear HK
   by_cases hlt:j < n.toks.length
   ·have hd:decide (j < n.toks.length)=true:=by simpa using hlt
    obtain ⟨t,hft⟩:∃ t,n.toks[j]?=some t:=⟨_,List.getElem?_eq_getElem hlt⟩
    obtain ⟨p0,p1,p2,p3,hp⟩:=tok_four t
    have eT:tokV t=.agg #[.pointer p0,.pointer p1,.pointer p2,.pointer p3]:=by unfold tokV; rw [hp]
    obtain ⟨g,cap',e1,c0,c1,c2,c3⟩:=toks_cells x1.toks.1 hft hp
    rw [unhide HOV] at e1
    simp only [Value.slice.injEq] at e1
    obtain ⟨rfl,hjunk,rfl⟩:=e1
    clear hjunk
    have hfm:=List.mem_of_getElem? hft
    have hXs:=relX_succ (n:=n) (f:=f) hft
    obtain ⟨w1,w3,w4,w5⟩:=unhide HW
    obtain ⟨q1,q2⟩:=unhide HFIT
    have hlen:(arr ns e (relX n f j)).1.length=ns.length:=arrives_len _ _ _ _
    have hgA:=World.grownBy_alloc wr (.cells #[.pointer p0,.pointer p1,.pointer p2,.pointer p3] 139) none
    obtain ⟨r1,hr1⟩:∃ r,fitL n.links t f.f=r:=⟨_,rfl⟩
    obtain ⟨r2,hr2⟩:∃ r,(n.less f).K.any (fun g=>fitL n.links t g.f)=r:=⟨_,rfl⟩
    have hFW:∀ wx,(wr.alloc (.cells #[.pointer p0,.pointer p1,.pointer p2,.pointer p3] 139)).grownBy wx none→Calls Tryz.prog 139 #[.pointer (some ⟨b,0,none⟩),.agg #[.pointer p0,.pointer p1,.pointer p2,.pointer p3],.pointer (some ⟨f.blk,0,none⟩)] wx fun e w'=>e=.returned (.bool r1)∧(wr.alloc (.cells #[.pointer p0,.pointer p1,.pointer p2,.pointer p3] 139)).grownBy w' none:=by
     intro wx hg
     have hgg:=gr_trans hgA hg
     have x1x:NodeAt Ux q A.length b (n.less f) (.iface ty2 (.pointer (some ⟨b2,0,none⟩))) tv lv ov fv' wx:=x1.keep (S:=fun _=>False) (GrS.of hgg (by simp)) (by simp) (fun _ _ _=>rfl)
     have:=fitsWith_w Ux b n.c n.links t f wx x1x.cd (x5.gr hgg) (fun g hg=>(x1.tfs t hfm g hg).gr hgg) (by rw [w5 t hfm]; exact hA4) (q1 t hfm)
     rw [hr1,eT] at this
     exact this.mono (fun e w' ⟨h1,h2⟩=>⟨h1,gr_trans hg h2⟩)
    have hBL:∀ wx,(wr.alloc (.cells #[.pointer p0,.pointer p1,.pointer p2,.pointer p3] 139)).grownBy wx none→Calls Tryz.prog 141 #[.pointer (some ⟨b,0,none⟩),.agg #[.pointer p0,.pointer p1,.pointer p2,.pointer p3]] wx fun e w'=>e=.returned (.bool r2)∧(wr.alloc (.cells #[.pointer p0,.pointer p1,.pointer p2,.pointer p3] 139)).grownBy w' none:=by
     intro wx hg
     have hgg:=gr_trans hgA hg
     have x1x:NodeAt Ux q A.length b (n.less f) (.iface ty2 (.pointer (some ⟨b2,0,none⟩))) tv lv ov fv' wx:=x1.keep (S:=fun _=>False) (GrS.of hgg (by simp)) (by simp) (fun _ _ _=>rfl)
     have:=blocked_w Ux q A.length b (n.less f) _ tv lv ov fv' t wx x1x (by rw [w5 t hfm]; exact hA4) (fun g hg=>(x1.tfs t hfm g hg).gr hgg) (fun g hg=>q2 t hfm g (List.mem_filter.1 hg).1)
     rw [eT] at this
     have e2:(n.less f).K.any (fun g=>fitL (n.less f).links t g.f)=r2:=hr2
     rw [e2] at this
     exact this.mono (fun e w' ⟨h1,h2⟩=>⟨h1,gr_trans hg h2⟩)
    have hIH:(r1 && !r2)=true→∀ wx,(wr.alloc (.cells #[.pointer p0,.pointer p1,.pointer p2,.pointer p3] 139)).grownBy wx none→Calls Tryz.prog fn2 #[.pointer (some ⟨b2,0,none⟩),.agg #[.pointer p0,.pointer p1,.pointer p2,.pointer p3]] wx fun e' w'=>e'=.returned (.tuple #[])∧ArrPost Ux ru jn (q+1) A.length (arr ns e (relX n f j)).1 (arr ns e (relX n f j)).2 (.iface ty2 (.pointer (some ⟨b2,0,none⟩))) [t] wx w':=by
     intro hfit wx hgx'
     have hgx:=gr_trans hgA hgx'
     rw [hr1,hr2,if_pos hfit] at hXs
     have hu:HasAr A t:=w4 (j+1) _ (by rw [hXs]; simp)
     have hsm:Small 1000000000 (arr (arr ns e (relX n f j)).1 (arr ns e (relX n f j)).2 [t]).1 (arr (arr ns e (relX n f j)).1 (arr ns e (relX n f j)).2 [t]).2:=by
      obtain ⟨Y,hY⟩:=relX_pre n f (j+1)
      rw [hY] at w3
      have:=w3.part
      rw [hXs] at this
      unfold arr at this ⊢
      rw [arrives_app] at this
      exact this
     have:=arrOK ru jn ns.length (arr ns e (relX n f j)).1 A (q+1) b2 ty2 fn2 Ux (arr ns e (relX n f j)).2 t wx hlen hfn2 (x2.gr hgx) (w1.arr (w4 j)) hu (fun g hg=>(x1.tfs t hfm g hg).gr hgx) (wf_wait w1 (w4 j) (unhide HE)) hsm
     rw [eT] at this
     exact this
    rw [hr1,hr2] at hXs
    have hnb:(wr.alloc (.cells #[.pointer p0,.pointer p1,.pointer p2,.pointer p3] 139)).heap[wr.heap.size]?=some (.cells #[.pointer p0,.pointer p1,.pointer p2,.pointer p3] 139 (0,0)):=heap_alloc_new _ _
    have c5:=x1.cell 5 (by omega)
    have HX:=hide (show _∧_∧_∧_∧_∧_∧_∧_ from ⟨x1,x2,x3,x4,x5,hXs,hlen,hgA⟩)
    have HC5:=hide c5
    have HNB:=hide hnb
    have HIH:=hide hIH
    clear x1 x2 x3 x4 x5 hXs hlen w1 w3 w4 w5 hft hr1 hr2 hgA eT hp q1 q2 c5 hnb hIH
    go_wp2_with fail
    go_cut [19,35] from 19 to 43 (fun z x wx=>z=.int .i64 j∧x=.bool (r1 && !r2)∧(wr.alloc (.cells #[.pointer p0,.pointer p1,.pointer p2,.pointer p3] 139)).grownBy wx none)
    case first=>
     have n0:(wr.alloc (.cells #[.pointer p0,.pointer p1,.pointer p2,.pointer p3] 139)).cell? ⟨wr.heap.size,0,none⟩=some (.pointer p0):=cell_of (unhide HNB) rfl
     have n1:(wr.alloc (.cells #[.pointer p0,.pointer p1,.pointer p2,.pointer p3] 139)).cell? ⟨wr.heap.size,1,none⟩=some (.pointer p1):=cell_of (unhide HNB) rfl
     have n2:(wr.alloc (.cells #[.pointer p0,.pointer p1,.pointer p2,.pointer p3] 139)).cell? ⟨wr.heap.size,2,none⟩=some (.pointer p2):=cell_of (unhide HNB) rfl
     have n3:(wr.alloc (.cells #[.pointer p0,.pointer p1,.pointer p2,.pointer p3] 139)).cell? ⟨wr.heap.size,3,none⟩=some (.pointer p3):=cell_of (unhide HNB) rfl
     cases r1 with
     | false=>
      first
       | go_region_with (go_at_call 139; refine (hFW _ (by repeat (first | assumption | exact World.grownBy.refl _ _ | apply gr_drew))).mono ?_; rintro e1 w1 ⟨rfl,hg1⟩; have m0:=hg1.cell n0 (by simp); have m1:=hg1.cell n1 (by simp); have m2:=hg1.cell n2 (by simp); have m3:=hg1.cell n3 (by simp))
       | fail
      all_goals
       go_wp2_with fail
       go_meet
       exact ⟨rfl,rfl,hg1⟩
     | true=>
      go_region_with (first | (go_at_call 139; refine (hFW _ (by repeat (first | assumption | exact World.grownBy.refl _ _ | apply gr_drew))).mono ?_; rintro e1 w1 ⟨rfl,hg1⟩; have m0:=hg1.cell n0 (by simp); have m1:=hg1.cell n1 (by simp); have m2:=hg1.cell n2 (by simp); have m3:=hg1.cell n3 (by simp)) | (go_at_call 141; refine (hBL _ (by repeat (first | assumption | exact World.grownBy.refl _ _ | apply gr_drew))).mono ?_; rintro e2 w2 ⟨rfl,hg2⟩))
      all_goals
       go_wp2_with fail
       go_meet
       exact ⟨rfl,by simp,hg2⟩
    case rest=>
     obtain ⟨rfl,rfl,hg6⟩:=hcut
     obtain ⟨rr,hrr⟩:∃ r,(r1 && !r2)=r:=⟨_,rfl⟩
     have n0:=hg6.cell (cell_of (unhide HNB) (k:=0) rfl) (by simp)
     have n1:=hg6.cell (cell_of (unhide HNB) (k:=1) rfl) (by simp)
     have n2:=hg6.cell (cell_of (unhide HNB) (k:=2) rfl) (by simp)
     have n3:=hg6.cell (cell_of (unhide HNB) (k:=3) rfl) (by simp)
     have hgx:wr.grownBy wc none:=gr_trans (unhide HX).2.2.2.2.2.2.2 hg6
     have c5:=hgx.cell (unhide HC5) (by simp)
     rw [hrr]
     cases rr with
     | false=>
      have HK:Hid (∃ Uy,NodeAt Uy q A.length b (n.less f) (.iface ty2 (.pointer (some ⟨b2,0,none⟩))) tv lv ov fv' wc∧SufAt Uy ru jn (q+1) A.length (arr ns e (relX n f (j+1))).1 (arr ns e (relX n f (j+1))).2 (.iface ty2 (.pointer (some ⟨b2,0,none⟩))) wc∧GrS (fun i=>4+3 * q≤U i∧U i < 7+3 * (q+ns.length+1)) w wc∧(∀ i,i < w.heap.size→Uy i=U i)∧FtAt Uy f wc):=by
       refine hide ?_
       obtain ⟨x1,x2,x3,x4,x5,hXs,hlen,hgA⟩:=unhide HX
       rw [hrr,if_neg (by simp),List.append_nil] at hXs
       rw [hXs]
       exact ⟨Ux,x1.keep (S:=fun _=>False) (GrS.of hgx (by simp)) (by simp) (fun _ _ _=>rfl),x2.gr hgx,x3.then hgx (by simp),x4,x5.gr hgx⟩
      clear HX HIH hFW hBL HC5 c5 n0 n1 n2 n3 c0 c1 c2 c3
      go_wp2
      go_roundw
      case rel=>exact ⟨j+1,by omega,by go_num,HK⟩
      case measure=>simp [intOf]; omega
     | true=>
      rcases hfn2 with ⟨rfl,rfl⟩ | ⟨rfl,rfl⟩ | ⟨rfl,rfl⟩
      ·go_wp2_with fail
       first
        | go_region_with (go_at_call 240; refine (unhide HIH hrr _ (by repeat (first | assumption | exact World.grownBy.refl _ _ | apply gr_drew))).mono ?_; rintro e3 w5 ⟨rfl,hP5⟩)
        | fail
       all_goals
        have HK:Hid (∃ Uy,NodeAt Uy q A.length b (n.less f) (.iface 137 (.pointer (some ⟨b2,0,none⟩))) tv lv ov fv' w5∧SufAt Uy ru jn (q+1) A.length (arr ns e (relX n f (j+1))).1 (arr ns e (relX n f (j+1))).2 (.iface 137 (.pointer (some ⟨b2,0,none⟩))) w5∧GrS (fun i=>4+3 * q≤U i∧U i < 7+3 * (q+ns.length+1)) w w5∧(∀ i,i < w.heap.size→Uy i=U i)∧FtAt Uy f w5):=by
         refine hide ?_
         obtain ⟨x1,x2,x3,x4,x5,hXs,hlen,hgA⟩:=unhide HX
         rw [hrr,if_pos rfl] at hXs
         exact relUp x1 x5 hlen x3 x4 (gr_trans hgA (by repeat (first | assumption | exact World.grownBy.refl _ _ | apply gr_drew))) hP5 hXs
        clear HX HIH hFW hBL HC5 c5 n0 n1 n2 n3 c0 c1 c2 c3 hP5
        go_wp2
        go_roundw
        case rel=>exact ⟨j+1,by omega,by go_num,HK⟩
        case measure=>simp [intOf]; omega
      ·go_wp2_with fail
       first
        | go_region_with (go_at_call 257; refine (unhide HIH hrr _ (by repeat (first | assumption | exact World.grownBy.refl _ _ | apply gr_drew))).mono ?_; rintro e3 w5 ⟨rfl,hP5⟩)
        | fail
       all_goals
        have HK:Hid (∃ Uy,NodeAt Uy q A.length b (n.less f) (.iface 209 (.pointer (some ⟨b2,0,none⟩))) tv lv ov fv' w5∧SufAt Uy ru jn (q+1) A.length (arr ns e (relX n f (j+1))).1 (arr ns e (relX n f (j+1))).2 (.iface 209 (.pointer (some ⟨b2,0,none⟩))) w5∧GrS (fun i=>4+3 * q≤U i∧U i < 7+3 * (q+ns.length+1)) w w5∧(∀ i,i < w.heap.size→Uy i=U i)∧FtAt Uy f w5):=by
         refine hide ?_
         obtain ⟨x1,x2,x3,x4,x5,hXs,hlen,hgA⟩:=unhide HX
         rw [hrr,if_pos rfl] at hXs
         exact relUp x1 x5 hlen x3 x4 (gr_trans hgA (by repeat (first | assumption | exact World.grownBy.refl _ _ | apply gr_drew))) hP5 hXs
        clear HX HIH hFW hBL HC5 c5 n0 n1 n2 n3 c0 c1 c2 c3 hP5
        go_wp2
        go_roundw
        case rel=>exact ⟨j+1,by omega,by go_num,HK⟩
        case measure=>simp [intOf]; omega
      ·go_wp2_with fail
       first
        | go_region_with (go_at_call 255; refine (unhide HIH hrr _ (by repeat (first | assumption | exact World.grownBy.refl _ _ | apply gr_drew))).mono ?_; rintro e3 w5 ⟨rfl,hP5⟩)
        | fail
       all_goals
        have HK:Hid (∃ Uy,NodeAt Uy q A.length b (n.less f) (.iface 208 (.pointer (some ⟨b2,0,none⟩))) tv lv ov fv' w5∧SufAt Uy ru jn (q+1) A.length (arr ns e (relX n f (j+1))).1 (arr ns e (relX n f (j+1))).2 (.iface 208 (.pointer (some ⟨b2,0,none⟩))) w5∧GrS (fun i=>4+3 * q≤U i∧U i < 7+3 * (q+ns.length+1)) w w5∧(∀ i,i < w.heap.size→Uy i=U i)∧FtAt Uy f w5):=by
         refine hide ?_
         obtain ⟨x1,x2,x3,x4,x5,hXs,hlen,hgA⟩:=unhide HX
         rw [hrr,if_pos rfl] at hXs
         exact relUp x1 x5 hlen x3 x4 (gr_trans hgA (by repeat (first | assumption | exact World.grownBy.refl _ _ | apply gr_drew))) hP5 hXs
        clear HX HIH hFW hBL HC5 c5 n0 n1 n2 n3 c0 c1 c2 c3 hP5
        go_wp2
        go_roundw
        case rel=>exact ⟨j+1,by omega,by go_num,HK⟩
        case measure=>simp [intOf]; omega
   ·have hd:decide (j < n.toks.length)=false:=by simpa using hlt
    have hje:j=n.toks.length:=by omega
    subst hje
    have HF:=hide (show _∧_∧_∧_ from ⟨x1,x2,x3,x4⟩)
    clear x1 x2 x3 x4 x5
    go_wp2
    go_end0
    obtain ⟨x1,x2,x3,x4⟩:=unhide HF
    refine ⟨rfl,Ux,?_,x3,x4⟩
    rw [unhide HADD]
    exact ⟨b,_,tv,lv,ov,fv',by unfold ndPTy; rw [if_pos (show (n.less f).c.neg=true from hneg)],x1,by rw [if_pos (show (n.less f).c.neg=true from hneg)]; exact x2⟩
 ·have hany':n.K.any (fun g=>g.blk == f.blk)=false:=by simpa using hany
  have hAd:=dismiss_no U b fv (ndCells n A.length tv lv ov fv nx) (ndTy n.c.neg) n.K f w h2.blk ndCells_get.2.1 h2.facts.1 h2.fts hf hany'
  have hadd:delStep f n ns e=(n,(ns,e)):=by
   unfold delStep
   rw [if_neg hany]
  have HH:=hide h0
  have HADD:=hide hadd
  clear h0 h2 h3 hW hf he hone hsame hS hany hany' hadd
  unfold fptr at hAd ⊢
  go_enter Tryz.func108,Tryz.ntmps108
  go_wp2_with fail
  refine hAd.mono ?_
  rintro e1 wc ⟨rfl,hw⟩
  subst wc
  go_wp2
  refine bodyPost_ret (v:=.tuple #[]) (by simp [results,Tryz.results108]) rfl ?_
  refine ⟨rfl,U,?_,GrS.of (World.grownBy.refl w none) (by simp),fun i hi=>rfl⟩
  rw [unhide HADD]
  exact unhide HH
end Go.Proofs.YtolhbeekfjnfmaaGreatDoor

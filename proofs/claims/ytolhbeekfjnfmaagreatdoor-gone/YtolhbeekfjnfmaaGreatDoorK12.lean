import Derived.Laws.IdiomCopy
import Derived.Test.YtolhbeekfjnfmaaGreatDoorK11
namespace Go.Proofs.YtolhbeekfjnfmaaGreatDoor
open Go.RowKit
theorem gr_setCells (g:Nat):∀ (vs:List Value) (o:Nat) (w:World),w.grownBy (w.setCells g o vs) (some g)
 | [],_,w=>World.grownBy.refl w _
 | v :: vs,o,w=>gr_trans (gr_set w g o v) (gr_setCells g vs (o+1) _)
theorem ToksAt.far {g n cap:Nat} {l:List Tok} (hn:n=l.length):∀ (vs:List Value) (o:Nat) (w:World),ToksAt (.slice (some ⟨g,0,none⟩) n cap) l w→l.length * 4≤o→ToksAt (.slice (some ⟨g,0,none⟩) n cap) l (w.setCells g o vs)
 | [],_,_,h,_=>h
 | v :: vs,o,w,h,ho=>by
  refine ToksAt.far hn vs (o+1) _ ?_ (by omega)
  subst hn
  have h1:=(World.ownsRow.stored h.2 o v).1
  refine ⟨h.1,?_⟩
  rw [List.set_eq_of_length_le (by rw [h.2.1]; exact ho)] at h1
  exact h1
theorem ToksAt.cut {g n cap:Nat} {l:List Tok} {w:World} (h:ToksAt (.slice (some ⟨g,0,none⟩) n cap) l w) (i:Nat) (hi:i≤l.length):ToksAt (.slice (some ⟨g,0,none⟩) i cap) (l.take i) w:=by
 have e:l=l.take i ++ l.drop i:=(List.take_append_drop i l).symm
 rw [e] at h
 have:=h.prefix
 rw [List.length_take,Nat.min_eq_left hi] at this
 exact this
theorem ToksAt.there {g n cap:Nat} {l:List Tok} {w:World} (h:ToksAt (.slice (some ⟨g,0,none⟩) n cap) l w) (q:Nat) (hq:q < l.length * 4):(w.cell? ⟨g,q,none⟩).isSome=true:=by
 obtain ⟨t,ht⟩:∃ t,l[q / 4]?=some t:=⟨_,List.getElem?_eq_getElem (by omega)⟩
 obtain ⟨g',cap',e,hc⟩:=h.cells ht
 simp only [Value.slice.injEq,Option.some.injEq,Addr.mk.injEq,and_true] at e
 obtain ⟨rfl,_,_⟩:=e
 have:=hc (q % 4) (by omega)
 rw [show q / 4 * 4+q % 4=q from by omega] at this
 rw [this,List.getElem?_eq_getElem (by rw [tokEnc_len]; omega)]
 rfl
theorem run_clearT (w:World) (ty:TypeId) (g o n c:Nat) (hn:0 < n) (hc:∀ j,j < n * 4→(w.cell? ⟨g,o+j,none⟩).isSome=true) (hf:∀ j,w.frozen? ⟨g,j,none⟩=false) :
  (Builtin.clear_ #[141] ty #[.slice (some ⟨g,o,none⟩) n c]).run Tryz.prog w=.ok (.tuple #[]) (w.setCells g o (List.replicate (n * 4) (.pointer none))):=by
 have hzc:(Builtin.zeroCells (Value.cells (.agg #[.pointer none,.pointer none,.pointer none,.pointer none])) n).toList=List.replicate (n * 4) (.pointer none):=by
  simp only [Builtin.zeroCells,Value.cells]
  apply List.ext_getElem
  ·simp
  ·intro i h1 h2
   simp
   have:i % 4=0∨i % 4=1∨i % 4=2∨i % 4=3:=by omega
   rcases this with h | h | h | h<;>simp [h]
 have hst:=run_storeCells_cells (P:=Tryz.prog) g o (List.replicate (n * 4) (.pointer none)) 0 w (by simpa using hc) (fun j _=>hf _) (by intro v hv'; rw [List.eq_of_mem_replicate hv']; rfl)
 simp only [Nat.add_zero] at hst
 obtain ⟨m,rfl⟩:∃ m,n=m+1:=⟨n - 1,by omega⟩
 simp [Builtin.clear_,run_underlying Tryz.underlying141,hzc,hst]
def idxT (p:Tok→Bool):Nat→List Tok→Int
 | _,[]=>-1
 | k,t :: l=>if p t=true then (k:Int) else idxT p (k+1) l
theorem idxT_none (p:Tok→Bool):∀ (l:List Tok) (k:Nat),idxT p k l=-1→l.filter (fun t=>!p t)=l
 | [],_,_=>rfl
 | t :: l,k,h=>by
  unfold idxT at h
  split at h
  ·omega
  ·rename_i hp
   rw [List.filter_cons,if_pos (by simpa using hp),idxT_none p l (k+1) h]
theorem idxT_some (p:Tok→Bool):∀ (l:List Tok) (k i:Nat),idxT p k l=(i:Int)→k≤i∧i < k+l.length∧(l.take (i - k+1)).filter (fun t=>!p t)=l.take (i - k)
 | [],_,_,h=>by unfold idxT at h; omega
 | t :: l,k,i,h=>by
  unfold idxT at h
  split at h
  ·rename_i hp
   have e:i=k:=by omega
   subst e
   simp [hp]
  ·rename_i hp
   obtain ⟨h1,h2,h3⟩:=idxT_some p l (k+1) i h
   refine ⟨by omega,by rw [List.length_cons]; omega,?_⟩
   rw [show i - k+1=(i - (k+1)+1)+1 from by omega,show i - k=(i - (k+1))+1 from by omega,List.take_succ_cons,List.take_succ_cons,List.filter_cons,if_pos (by simpa using hp),h3]
theorem idxT_or (p:Tok→Bool) (k:Nat) (l:List Tok):idxT p k l=-1∨∃ i:Nat,idxT p k l=(i:Int):=by
 induction l generalizing k with
 | nil=>exact .inl rfl
 | cons t l ih=>
  unfold idxT
  split
  ·exact .inr ⟨k,rfl⟩
  ·exact ih (k+1)
def DelPost (p:Tok→Bool) (g cap:Nat) (l:List Tok) (w:World) (e:Ending) (w':World):Prop:=
 e=.returned (.slice (some ⟨g,0,none⟩) (l.filter (fun t=>!p t)).length cap)∧w.grownBy w' (some g)∧ToksAt (.slice (some ⟨g,0,none⟩) (l.filter (fun t=>!p t)).length cap) (l.filter (fun t=>!p t)) w'
theorem filter_take_succ {α:Type} (q:α→Bool) {l:List α} {j:Nat} {t:α} (h:l[j]?=some t):(l.take (j+1)).filter q=(l.take j).filter q ++ (if q t=true then [t] else []):=by
 rw [List.take_add_one,h,List.filter_append]
 congr 1
 simp only [Option.toList_some,List.filter_cons,List.filter_nil]
theorem take_set_succ {α:Type}:∀ (m:List α) (i:Nat) (t:α),i < m.length→(m.set i t).take (i+1)=m.take i ++ [t]
 | [],i,t,h=>by simp at h
 | _ :: m,0,t,_=>by simp
 | _ :: m,i+1,t,h=>by simp [take_set_succ m i t (by simpa using h)]
set_option maxRecDepth 100000 in
set_option maxHeartbeats 2000000 in
theorem idxF1_w (N:Nat) (b0:Value) (p:Tok→Bool) (v:Value) (l:List Tok) (w:World) (eg:∀ args w,(callFunc N args).run Tryz.prog w=.ok (.enter N args) w) (hr:ToksAt v l w)
  (hp:∀ wx t,w.grownBy wx none→t∈l→Calls Tryz.prog N #[tokV t,b0] wx fun e w'=>e=.returned (.bool (p t))∧wx.grownBy w' none) :
  Calls Tryz.prog 250 #[v,(.func (.func N) #[] #[b0])] w fun e w'=>e=.returned (.int .i64 (idxT p 0 l))∧w.grownBy w' none:=by
 obtain ⟨ao,cap,rfl⟩:=hr.slice
 have hlm:=hr.le
 unfold maxLen at hlm
 obtain ⟨R,hR⟩:∃ R,idxT p 0 l=R:=⟨_,rfl⟩
 rw [hR]
 have HR:=hide hR
 have HP:=hide hp
 have HROW:=hide hr
 clear hR hp hr
 go_enter Tryz.func250,Tryz.ntmps250
 go_wp2
 go_loopw [8] (fun x w'=>∃ k:Nat,k≤l.length∧x=.int .i64 k∧idxT p k (l.drop k)=R∧w.grownBy w' none) (fun x _=>l.length - (intOf x).toNat)
 case atStart=>exact ⟨0,Nat.zero_le _,rfl,unhide HR,World.grownBy.refl _ _⟩
 case round=>
  clear HR
  obtain ⟨k,hk,rfl,hr,hg⟩:=hrel
  by_cases hlt:k < l.length
  ·have hd:decide (k < l.length)=true:=by simpa using hlt
   obtain ⟨t,ht⟩:∃ t,l[k]?=some t:=⟨_,List.getElem?_eq_getElem hlt⟩
   obtain ⟨p0,p1,p2,p3,hq⟩:=tok_four t
   obtain ⟨g,cap',e1,c0,c1,c2,c3⟩:=toks_cells ((unhide HROW).gr hg) ht hq
   simp only [Value.slice.injEq,true_and] at e1
   obtain ⟨rfl,rfl⟩:=e1
   have hC:=unhide HP wr t hg (List.mem_of_getElem? ht)
   rw [show tokV t=.agg #[.pointer p0,.pointer p1,.pointer p2,.pointer p3] from by unfold tokV; rw [hq]] at hC
   rw [drop_get ht] at hr
   unfold idxT at hr
   obtain ⟨r,hr1⟩:∃ r,p t=r:=⟨_,rfl⟩
   rw [hr1] at hr hC
   have HR:=hide hr
   clear hr hr1 ht hq
   go_wp2_with fail
   refine hC.mono ?_
   rintro e w1 ⟨rfl,hg1⟩
   have hgc:=gr_trans hg hg1
   have hr:=unhide HR
   clear HR hC hg1
   cases r with
   | true=>
    rw [if_pos rfl] at hr
    subst hr
    go_wp2
    go_ret
    exact ⟨rfl,hgc⟩
   | false=>
    rw [if_neg (by simp)] at hr
    have HR:=hide hr
    clear hr
    go_wp2
    go_roundw
    case rel=>exact ⟨k+1,by omega,by go_num,unhide HR,hgc⟩
    case measure=>simp [intOf]; omega
  ·have hd:decide (k < l.length)=false:=by simpa using hlt
   have e:l.drop k=[]:=List.drop_of_length_le (by omega)
   rw [e] at hr
   have hr2:-1=R:=hr
   subst hr2
   clear hr e
   go_wp2
   go_ret
   exact ⟨rfl,hg⟩
set_option maxRecDepth 100000 in
set_option maxHeartbeats 2000000 in
theorem idxF2_w (N:Nat) (b0 b1:Value) (p:Tok→Bool) (v:Value) (l:List Tok) (w:World) (eg:∀ args w,(callFunc N args).run Tryz.prog w=.ok (.enter N args) w) (hr:ToksAt v l w)
  (hp:∀ wx t,w.grownBy wx none→t∈l→Calls Tryz.prog N #[tokV t,b0,b1] wx fun e w'=>e=.returned (.bool (p t))∧wx.grownBy w' none) :
  Calls Tryz.prog 250 #[v,(.func (.func N) #[] #[b0,b1])] w fun e w'=>e=.returned (.int .i64 (idxT p 0 l))∧w.grownBy w' none:=by
 obtain ⟨ao,cap,rfl⟩:=hr.slice
 have hlm:=hr.le
 unfold maxLen at hlm
 obtain ⟨R,hR⟩:∃ R,idxT p 0 l=R:=⟨_,rfl⟩
 rw [hR]
 have HR:=hide hR
 have HP:=hide hp
 have HROW:=hide hr
 clear hR hp hr
 go_enter Tryz.func250,Tryz.ntmps250
 go_wp2
 go_loopw [8] (fun x w'=>∃ k:Nat,k≤l.length∧x=.int .i64 k∧idxT p k (l.drop k)=R∧w.grownBy w' none) (fun x _=>l.length - (intOf x).toNat)
 case atStart=>exact ⟨0,Nat.zero_le _,rfl,unhide HR,World.grownBy.refl _ _⟩
 case round=>
  clear HR
  obtain ⟨k,hk,rfl,hr,hg⟩:=hrel
  by_cases hlt:k < l.length
  ·have hd:decide (k < l.length)=true:=by simpa using hlt
   obtain ⟨t,ht⟩:∃ t,l[k]?=some t:=⟨_,List.getElem?_eq_getElem hlt⟩
   obtain ⟨p0,p1,p2,p3,hq⟩:=tok_four t
   obtain ⟨g,cap',e1,c0,c1,c2,c3⟩:=toks_cells ((unhide HROW).gr hg) ht hq
   simp only [Value.slice.injEq,true_and] at e1
   obtain ⟨rfl,rfl⟩:=e1
   have hC:=unhide HP wr t hg (List.mem_of_getElem? ht)
   rw [show tokV t=.agg #[.pointer p0,.pointer p1,.pointer p2,.pointer p3] from by unfold tokV; rw [hq]] at hC
   rw [drop_get ht] at hr
   unfold idxT at hr
   obtain ⟨r,hr1⟩:∃ r,p t=r:=⟨_,rfl⟩
   rw [hr1] at hr hC
   have HR:=hide hr
   clear hr hr1 ht hq
   go_wp2_with fail
   refine hC.mono ?_
   rintro e w1 ⟨rfl,hg1⟩
   have hgc:=gr_trans hg hg1
   have hr:=unhide HR
   clear HR hC hg1
   cases r with
   | true=>
    rw [if_pos rfl] at hr
    subst hr
    go_wp2
    go_ret
    exact ⟨rfl,hgc⟩
   | false=>
    rw [if_neg (by simp)] at hr
    have HR:=hide hr
    clear hr
    go_wp2
    go_roundw
    case rel=>exact ⟨k+1,by omega,by go_num,unhide HR,hgc⟩
    case measure=>simp [intOf]; omega
  ·have hd:decide (k < l.length)=false:=by simpa using hlt
   have e:l.drop k=[]:=List.drop_of_length_le (by omega)
   rw [e] at hr
   have hr2:-1=R:=hr
   subst hr2
   clear hr e
   go_wp2
   go_ret
   exact ⟨rfl,hg⟩
set_option maxRecDepth 100000 in
set_option maxHeartbeats 4000000 in
theorem delF1_w (N:Nat) (b0:Value) (p:Tok→Bool) (g cap:Nat) (l:List Tok) (w:World) (eg:∀ args w,(callFunc N args).run Tryz.prog w=.ok (.enter N args) w) (hr:ToksAt (.slice (some ⟨g,0,none⟩) l.length cap) l w)
  (hp:∀ wx t,w.grownBy wx (some g)→t∈l→Calls Tryz.prog N #[tokV t,b0] wx fun e w'=>e=.returned (.bool (p t))∧wx.grownBy w' none) :
  Calls Tryz.prog 247 #[.slice (some ⟨g,0,none⟩) l.length cap,(.func (.func N) #[] #[b0])] w fun e w'=>DelPost p g cap l w e w':=by
 have hI:=idxF1_w N b0 p _ l w eg hr (fun wx t h ht=>hp wx t (gr_any h (some g)) ht)
 have hlm:=hr.le
 unfold maxLen at hlm
 have HP:=hide hp
 have HROW:=hide hr
 clear hp hr
 go_enter Tryz.func247,Tryz.ntmps247
 go_wp2_with fail
 refine hI.mono ?_
 rintro e w1 ⟨rfl,hg1⟩
 have hr1:=(unhide HROW).gr hg1
 clear hI HROW
 rcases idxT_or p 0 l with h0 | ⟨i0,h0⟩
 ·rw [h0]
  have hf:=idxT_none p l 0 h0
  have HF:=hide hf
  have HR1:=hide hr1
  clear hf hr1 h0
  go_wp2
  go_ret
  unfold DelPost
  rw [unhide HF]
  exact ⟨rfl,gr_any hg1 (some g),unhide HR1⟩
 ·rw [h0]
  obtain ⟨_,hi1,hi2⟩:=idxT_some p l 0 i0 h0
  rw [Nat.sub_zero,Nat.zero_add] at *
  have hd0:((i0:Int) == -1)=false:=by simp
  have HI2:=hide hi2
  have HR1:=hide hr1
  have HG1:=hide (gr_any hg1 (some g))
  clear h0 hi2 hr1 hg1
  go_wp2
  go_loopw [5,6] (fun x y w'=>∃ (i j:Nat) (m:List Tok),x=.int .i64 i∧y=.int .i64 j∧i < j∧j≤l.length∧Hid (m.length=l.length∧m.take i=(l.take j).filter (fun t=>!p t)∧m.drop j=l.drop j∧w.grownBy w' (some g)∧ToksAt (.slice (some ⟨g,0,none⟩) l.length cap) m w')) (fun _ y _=>l.length - (intOf y).toNat)
  case atStart=>exact ⟨i0,i0+1,l,rfl,by go_num,by omega,by omega,hide ⟨rfl,(unhide HI2).symm,rfl,unhide HG1,unhide HR1⟩⟩
  case round=>
   clear HI2 HR1 HG1 hd0
   obtain ⟨i,j,m,rfl,rfl,hij,hjl,HK⟩:=hrel
   obtain ⟨hml,hmt,hmd,hg,hm⟩:=unhide HK
   clear HK
   by_cases hlt:j < l.length
   ·have hd:decide (j < l.length)=true:=by simpa using hlt
    obtain ⟨t,ht⟩:∃ t,l[j]?=some t:=⟨_,List.getElem?_eq_getElem hlt⟩
    have hmj:m[j]?=some t:=by
     have e1:=congrArg (fun q=>q[0]?) hmd
     simpa [ht] using e1
    obtain ⟨p0,p1,p2,p3,hq⟩:=tok_four t
    have hm':ToksAt (.slice (some ⟨g,0,none⟩) m.length cap) m wr:=by rw [hml]; exact hm
    obtain ⟨g',cap',e1,c0,c1,c2,c3⟩:=toks_cells hm' hmj hq
    simp only [Value.slice.injEq,Option.some.injEq,Addr.mk.injEq,and_true] at e1
    obtain ⟨rfl,_,rfl⟩:=e1
    have hgA:=World.grownBy_alloc wr (.cells #[.pointer p0,.pointer p1,.pointer p2,.pointer p3] 139) none
    have hC:=unhide HP (wr.alloc (.cells #[.pointer p0,.pointer p1,.pointer p2,.pointer p3] 139)) t (gr_trans hg (gr_any hgA (some g))) (List.mem_of_getElem? ht)
    rw [show tokV t=.agg #[.pointer p0,.pointer p1,.pointer p2,.pointer p3] from by unfold tokV; rw [hq]] at hC
    have hnew:(wr.alloc (.cells #[.pointer p0,.pointer p1,.pointer p2,.pointer p3] 139)).heap[wr.heap.size]?=some (.cells #[.pointer p0,.pointer p1,.pointer p2,.pointer p3] 139 (0,0)):=heap_alloc_new _ _
    have hgl:g < wr.heap.size:=(hm.own g rfl).2
    have hmA:=hm.gr hgA
    have hFT:=filter_take_succ (fun t=>!p t) ht
    have hMT:m.drop (j+1)=l.drop (j+1):=by
     have e1:=congrArg (List.drop 1) hmd
     simpa [List.drop_drop,Nat.add_comm] using e1
    obtain ⟨r,hr1⟩:∃ r,p t=r:=⟨_,rfl⟩
    rw [hr1] at hC hFT
    have HS:=hide (show m.length=l.length∧m.take i=(l.take j).filter (fun t=>!p t)∧m.drop (j+1)=l.drop (j+1)∧tokEnc t=[.pointer p0,.pointer p1,.pointer p2,.pointer p3]∧(l.take (j+1)).filter (fun t=>!p t)=(l.take j).filter (fun t=>!p t) ++ (if (!r)=true then [t] else []) from ⟨hml,hmt,hMT,hq,hFT⟩)
    have HGA:=hide (gr_trans hg (gr_any hgA (some g)))
    have HMA:=hide hmA
    have HNEW:=hide hnew
    clear hml hmt hmd hg hm hm' hmj ht hq hFT hMT hgA hmA hnew hr1
    go_wp2_with fail
    refine hC.mono ?_
    rintro e w2 ⟨rfl,hg2⟩
    have hmB:=(unhide HMA).gr hg2
    have hG2:=gr_trans (unhide HGA) (gr_any hg2 (some g))
    have hnb:w2.heap[wr.heap.size]?=some (.cells #[.pointer p0,.pointer p1,.pointer p2,.pointer p3] 139 (0,0)):=by rw [hg2.block _ (row_lt (unhide HNEW)) (by simp)]; exact unhide HNEW
    clear hC hg2 HGA HMA HNEW
    obtain ⟨hml,hmt,hMT,hq,hFT⟩:=unhide HS
    clear HS
    cases r with
    | true=>
     rw [if_neg (by simp),List.append_nil] at hFT
     have HK:=hide (show m.length=l.length∧m.take i=(l.take (j+1)).filter (fun t=>!p t)∧m.drop (j+1)=l.drop (j+1)∧w.grownBy w2 (some g)∧ToksAt (.slice (some ⟨g,0,none⟩) l.length cap) m w2 from ⟨hml,by rw [hFT]; exact hmt,hMT,hG2,hmB⟩)
     clear hml hmt hMT hq hFT hG2 hmB hnb
     go_wp2
     go_roundw
     case rel=>exact ⟨i,j+1,m,rfl,by go_num,by omega,by omega,HK⟩
     case measure=>simp [intOf]; omega
    | false=>
     rw [if_pos (by simp)] at hFT
     have n0:w2.cell? ⟨wr.heap.size,0,none⟩=some (.pointer p0):=by simp [World.cell?,hnb]
     have n1:w2.cell? ⟨wr.heap.size,1,none⟩=some (.pointer p1):=by simp [World.cell?,hnb]
     have n2:w2.cell? ⟨wr.heap.size,2,none⟩=some (.pointer p2):=by simp [World.cell?,hnb]
     have n3:w2.cell? ⟨wr.heap.size,3,none⟩=some (.pointer p3):=by simp [World.cell?,hnb]
     obtain ⟨u,hu⟩:∃ u,m[i]?=some u:=⟨_,List.getElem?_eq_getElem (by omega)⟩
     obtain ⟨s0,s1,s2,s3,hs⟩:=tok_four u
     have hmB':ToksAt (.slice (some ⟨g,0,none⟩) m.length cap) m w2:=by rw [hml]; exact hmB
     obtain ⟨g',cap',e1,d0,d1,d2,d3⟩:=toks_cells hmB' hu hs
     simp only [Value.slice.injEq,Option.some.injEq,Addr.mk.injEq,and_true] at e1
     obtain ⟨rfl,_,rfl⟩:=e1
     have z0:=hmB.fz
     have hst:=ToksAt.stored hmB i t (by omega) hq
     have hgs:=gr_set4 w2 g (i * 4) (.pointer p0) (.pointer p1) (.pointer p2) (.pointer p3)
     have HK:=hide (show (m.set i t).length=l.length∧(m.set i t).take (i+1)=(l.take (j+1)).filter (fun t=>!p t)∧(m.set i t).drop (j+1)=l.drop (j+1)∧w.grownBy (set4 w2 g (i * 4) (.pointer p0) (.pointer p1) (.pointer p2) (.pointer p3)) (some g)∧ToksAt (.slice (some ⟨g,0,none⟩) l.length cap) (m.set i t) (set4 w2 g (i * 4) (.pointer p0) (.pointer p1) (.pointer p2) (.pointer p3)) from ⟨by simpa using hml,by rw [hFT,←hmt]; exact take_set_succ m i t (by omega),by rw [List.drop_set_of_lt (by omega)]; exact hMT,gr_trans hG2 hgs,hst⟩)
     unfold set4 at HK
     clear hml hmt hMT hq hFT hG2 hmB hnb hmB' hu hs hst hgs
     go_wp2
     go_roundw
     case rel=>exact ⟨i+1,j+1,_,by go_num,by go_num,by omega,by omega,HK⟩
     case measure=>simp [intOf]; omega
   ·have hd:decide (j < l.length)=false:=by simpa using hlt
    have hjl2:j=l.length:=by omega
    subst hjl2
    rw [List.take_length] at hmt
    have hfl:(l.filter (fun t=>!p t)).length=i:=by rw [←hmt,List.length_take]; omega
    have z0:=hm.fz
    have hcl:∀ ty,(Builtin.clear_ #[141] ty #[.slice (some ⟨g,i * 4,none⟩) (l.length - i) (cap - i)]).run Tryz.prog wr=.ok (.tuple #[]) (wr.setCells g (i * 4) (List.replicate ((l.length - i) * 4) (.pointer none))):=
     fun ty=>run_clearT wr ty g (i * 4) (l.length - i) (cap - i) (by omega) (fun q hq=>hm.there _ (by rw [hml]; omega)) z0
    have hcap:l.length≤cap:=by
     rcases hm.2.2 with ⟨h1,_⟩ | ⟨g',cap',cur,h1,_,_,h4,_⟩
     ·simp at h1
     ·simp only [Value.slice.injEq,Option.some.injEq,Addr.mk.injEq,and_true] at h1
      omega
    have hcut:=hm.cut i (by omega)
    have hfar:=ToksAt.far (by rw [List.length_take]; omega) (List.replicate ((l.length - i) * 4) (.pointer none)) (i * 4) wr hcut (by rw [List.length_take]; omega)
    rw [hmt] at hfar
    have HF:=hide (show w.grownBy (wr.setCells g (i * 4) (List.replicate ((l.length - i) * 4) (.pointer none))) (some g)∧ToksAt (.slice (some ⟨g,0,none⟩) i cap) (l.filter (fun t=>!p t)) (wr.setCells g (i * 4) (List.replicate ((l.length - i) * 4) (.pointer none))) from ⟨gr_trans hg (gr_setCells g _ _ wr),hfar⟩)
    have HFL:=hide hfl
    clear hcut hfar hm hg hmt hmd hml z0 hfl
    go_wp2
    go_ret
    unfold DelPost
    rw [unhide HFL]
    exact ⟨rfl,(unhide HF).1,(unhide HF).2⟩
set_option maxRecDepth 100000 in
set_option maxHeartbeats 4000000 in
theorem delF2_w (N:Nat) (b0 b1:Value) (p:Tok→Bool) (g cap:Nat) (l:List Tok) (w:World) (eg:∀ args w,(callFunc N args).run Tryz.prog w=.ok (.enter N args) w) (hr:ToksAt (.slice (some ⟨g,0,none⟩) l.length cap) l w)
  (hp:∀ wx t,w.grownBy wx (some g)→t∈l→Calls Tryz.prog N #[tokV t,b0,b1] wx fun e w'=>e=.returned (.bool (p t))∧wx.grownBy w' none) :
  Calls Tryz.prog 247 #[.slice (some ⟨g,0,none⟩) l.length cap,(.func (.func N) #[] #[b0,b1])] w fun e w'=>DelPost p g cap l w e w':=by
 have hI:=idxF2_w N b0 b1 p _ l w eg hr (fun wx t h ht=>hp wx t (gr_any h (some g)) ht)
 have hlm:=hr.le
 unfold maxLen at hlm
 have HP:=hide hp
 have HROW:=hide hr
 clear hp hr
 go_enter Tryz.func247,Tryz.ntmps247
 go_wp2_with fail
 refine hI.mono ?_
 rintro e w1 ⟨rfl,hg1⟩
 have hr1:=(unhide HROW).gr hg1
 clear hI HROW
 rcases idxT_or p 0 l with h0 | ⟨i0,h0⟩
 ·rw [h0]
  have hf:=idxT_none p l 0 h0
  have HF:=hide hf
  have HR1:=hide hr1
  clear hf hr1 h0
  go_wp2
  go_ret
  unfold DelPost
  rw [unhide HF]
  exact ⟨rfl,gr_any hg1 (some g),unhide HR1⟩
 ·rw [h0]
  obtain ⟨_,hi1,hi2⟩:=idxT_some p l 0 i0 h0
  rw [Nat.sub_zero,Nat.zero_add] at *
  have hd0:((i0:Int) == -1)=false:=by simp
  have HI2:=hide hi2
  have HR1:=hide hr1
  have HG1:=hide (gr_any hg1 (some g))
  clear h0 hi2 hr1 hg1
  go_wp2
  go_loopw [5,6] (fun x y w'=>∃ (i j:Nat) (m:List Tok),x=.int .i64 i∧y=.int .i64 j∧i < j∧j≤l.length∧Hid (m.length=l.length∧m.take i=(l.take j).filter (fun t=>!p t)∧m.drop j=l.drop j∧w.grownBy w' (some g)∧ToksAt (.slice (some ⟨g,0,none⟩) l.length cap) m w')) (fun _ y _=>l.length - (intOf y).toNat)
  case atStart=>exact ⟨i0,i0+1,l,rfl,by go_num,by omega,by omega,hide ⟨rfl,(unhide HI2).symm,rfl,unhide HG1,unhide HR1⟩⟩
  case round=>
   clear HI2 HR1 HG1 hd0
   obtain ⟨i,j,m,rfl,rfl,hij,hjl,HK⟩:=hrel
   obtain ⟨hml,hmt,hmd,hg,hm⟩:=unhide HK
   clear HK
   by_cases hlt:j < l.length
   ·have hd:decide (j < l.length)=true:=by simpa using hlt
    obtain ⟨t,ht⟩:∃ t,l[j]?=some t:=⟨_,List.getElem?_eq_getElem hlt⟩
    have hmj:m[j]?=some t:=by
     have e1:=congrArg (fun q=>q[0]?) hmd
     simpa [ht] using e1
    obtain ⟨p0,p1,p2,p3,hq⟩:=tok_four t
    have hm':ToksAt (.slice (some ⟨g,0,none⟩) m.length cap) m wr:=by rw [hml]; exact hm
    obtain ⟨g',cap',e1,c0,c1,c2,c3⟩:=toks_cells hm' hmj hq
    simp only [Value.slice.injEq,Option.some.injEq,Addr.mk.injEq,and_true] at e1
    obtain ⟨rfl,_,rfl⟩:=e1
    have hgA:=World.grownBy_alloc wr (.cells #[.pointer p0,.pointer p1,.pointer p2,.pointer p3] 139) none
    have hC:=unhide HP (wr.alloc (.cells #[.pointer p0,.pointer p1,.pointer p2,.pointer p3] 139)) t (gr_trans hg (gr_any hgA (some g))) (List.mem_of_getElem? ht)
    rw [show tokV t=.agg #[.pointer p0,.pointer p1,.pointer p2,.pointer p3] from by unfold tokV; rw [hq]] at hC
    have hnew:(wr.alloc (.cells #[.pointer p0,.pointer p1,.pointer p2,.pointer p3] 139)).heap[wr.heap.size]?=some (.cells #[.pointer p0,.pointer p1,.pointer p2,.pointer p3] 139 (0,0)):=heap_alloc_new _ _
    have hgl:g < wr.heap.size:=(hm.own g rfl).2
    have hmA:=hm.gr hgA
    have hFT:=filter_take_succ (fun t=>!p t) ht
    have hMT:m.drop (j+1)=l.drop (j+1):=by
     have e1:=congrArg (List.drop 1) hmd
     simpa [List.drop_drop,Nat.add_comm] using e1
    obtain ⟨r,hr1⟩:∃ r,p t=r:=⟨_,rfl⟩
    rw [hr1] at hC hFT
    have HS:=hide (show m.length=l.length∧m.take i=(l.take j).filter (fun t=>!p t)∧m.drop (j+1)=l.drop (j+1)∧tokEnc t=[.pointer p0,.pointer p1,.pointer p2,.pointer p3]∧(l.take (j+1)).filter (fun t=>!p t)=(l.take j).filter (fun t=>!p t) ++ (if (!r)=true then [t] else []) from ⟨hml,hmt,hMT,hq,hFT⟩)
    have HGA:=hide (gr_trans hg (gr_any hgA (some g)))
    have HMA:=hide hmA
    have HNEW:=hide hnew
    clear hml hmt hmd hg hm hm' hmj ht hq hFT hMT hgA hmA hnew hr1
    go_wp2_with fail
    refine hC.mono ?_
    rintro e w2 ⟨rfl,hg2⟩
    have hmB:=(unhide HMA).gr hg2
    have hG2:=gr_trans (unhide HGA) (gr_any hg2 (some g))
    have hnb:w2.heap[wr.heap.size]?=some (.cells #[.pointer p0,.pointer p1,.pointer p2,.pointer p3] 139 (0,0)):=by rw [hg2.block _ (row_lt (unhide HNEW)) (by simp)]; exact unhide HNEW
    clear hC hg2 HGA HMA HNEW
    obtain ⟨hml,hmt,hMT,hq,hFT⟩:=unhide HS
    clear HS
    cases r with
    | true=>
     rw [if_neg (by simp),List.append_nil] at hFT
     have HK:=hide (show m.length=l.length∧m.take i=(l.take (j+1)).filter (fun t=>!p t)∧m.drop (j+1)=l.drop (j+1)∧w.grownBy w2 (some g)∧ToksAt (.slice (some ⟨g,0,none⟩) l.length cap) m w2 from ⟨hml,by rw [hFT]; exact hmt,hMT,hG2,hmB⟩)
     clear hml hmt hMT hq hFT hG2 hmB hnb
     go_wp2
     go_roundw
     case rel=>exact ⟨i,j+1,m,rfl,by go_num,by omega,by omega,HK⟩
     case measure=>simp [intOf]; omega
    | false=>
     rw [if_pos (by simp)] at hFT
     have n0:w2.cell? ⟨wr.heap.size,0,none⟩=some (.pointer p0):=by simp [World.cell?,hnb]
     have n1:w2.cell? ⟨wr.heap.size,1,none⟩=some (.pointer p1):=by simp [World.cell?,hnb]
     have n2:w2.cell? ⟨wr.heap.size,2,none⟩=some (.pointer p2):=by simp [World.cell?,hnb]
     have n3:w2.cell? ⟨wr.heap.size,3,none⟩=some (.pointer p3):=by simp [World.cell?,hnb]
     obtain ⟨u,hu⟩:∃ u,m[i]?=some u:=⟨_,List.getElem?_eq_getElem (by omega)⟩
     obtain ⟨s0,s1,s2,s3,hs⟩:=tok_four u
     have hmB':ToksAt (.slice (some ⟨g,0,none⟩) m.length cap) m w2:=by rw [hml]; exact hmB
     obtain ⟨g',cap',e1,d0,d1,d2,d3⟩:=toks_cells hmB' hu hs
     simp only [Value.slice.injEq,Option.some.injEq,Addr.mk.injEq,and_true] at e1
     obtain ⟨rfl,_,rfl⟩:=e1
     have z0:=hmB.fz
     have hst:=ToksAt.stored hmB i t (by omega) hq
     have hgs:=gr_set4 w2 g (i * 4) (.pointer p0) (.pointer p1) (.pointer p2) (.pointer p3)
     have HK:=hide (show (m.set i t).length=l.length∧(m.set i t).take (i+1)=(l.take (j+1)).filter (fun t=>!p t)∧(m.set i t).drop (j+1)=l.drop (j+1)∧w.grownBy (set4 w2 g (i * 4) (.pointer p0) (.pointer p1) (.pointer p2) (.pointer p3)) (some g)∧ToksAt (.slice (some ⟨g,0,none⟩) l.length cap) (m.set i t) (set4 w2 g (i * 4) (.pointer p0) (.pointer p1) (.pointer p2) (.pointer p3)) from ⟨by simpa using hml,by rw [hFT,←hmt]; exact take_set_succ m i t (by omega),by rw [List.drop_set_of_lt (by omega)]; exact hMT,gr_trans hG2 hgs,hst⟩)
     unfold set4 at HK
     clear hml hmt hMT hq hFT hG2 hmB hnb hmB' hu hs hst hgs
     go_wp2
     go_roundw
     case rel=>exact ⟨i+1,j+1,_,by go_num,by go_num,by omega,by omega,HK⟩
     case measure=>simp [intOf]; omega
   ·have hd:decide (j < l.length)=false:=by simpa using hlt
    have hjl2:j=l.length:=by omega
    subst hjl2
    rw [List.take_length] at hmt
    have hfl:(l.filter (fun t=>!p t)).length=i:=by rw [←hmt,List.length_take]; omega
    have z0:=hm.fz
    have hcl:∀ ty,(Builtin.clear_ #[141] ty #[.slice (some ⟨g,i * 4,none⟩) (l.length - i) (cap - i)]).run Tryz.prog wr=.ok (.tuple #[]) (wr.setCells g (i * 4) (List.replicate ((l.length - i) * 4) (.pointer none))):=
     fun ty=>run_clearT wr ty g (i * 4) (l.length - i) (cap - i) (by omega) (fun q hq=>hm.there _ (by rw [hml]; omega)) z0
    have hcap:l.length≤cap:=by
     rcases hm.2.2 with ⟨h1,_⟩ | ⟨g',cap',cur,h1,_,_,h4,_⟩
     ·simp at h1
     ·simp only [Value.slice.injEq,Option.some.injEq,Addr.mk.injEq,and_true] at h1
      omega
    have hcut:=hm.cut i (by omega)
    have hfar:=ToksAt.far (by rw [List.length_take]; omega) (List.replicate ((l.length - i) * 4) (.pointer none)) (i * 4) wr hcut (by rw [List.length_take]; omega)
    rw [hmt] at hfar
    have HF:=hide (show w.grownBy (wr.setCells g (i * 4) (List.replicate ((l.length - i) * 4) (.pointer none))) (some g)∧ToksAt (.slice (some ⟨g,0,none⟩) i cap) (l.filter (fun t=>!p t)) (wr.setCells g (i * 4) (List.replicate ((l.length - i) * 4) (.pointer none))) from ⟨gr_trans hg (gr_setCells g _ _ wr),hfar⟩)
    have HFL:=hide hfl
    clear hcut hfar hm hg hmt hmd hml z0 hfl
    go_wp2
    go_ret
    unfold DelPost
    rw [unhide HFL]
    exact ⟨rfl,(unhide HF).1,(unhide HF).2⟩
end Go.Proofs.YtolhbeekfjnfmaaGreatDoor
namespace Go.Proofs.YtolhbeekfjnfmaaGreatDoor
open Go.RowKit
theorem ToksAt.shape {v:Value} {l:List Tok} {w:World} (h:ToksAt v l w):(v=.slice none 0 0∧l=[])∨∃ g cap,v=.slice (some ⟨g,0,none⟩) l.length cap:=by
 rcases h.2.2 with ⟨h1,h2⟩ | ⟨g,cap,cur,h1,_⟩
 ·exact .inl ⟨h1,List.length_eq_zero_iff.1 h2⟩
 ·exact .inr ⟨g,cap,h1⟩
def FgPost (b o:Nat) (v:Value) (cs:Array Value) (ty:TypeId) (l:List Tok) (w w':World):Prop:=
 ∃ v',w'.heap[b]?=some (.cells (cs.setIfInBounds o v') ty (0,0))∧ToksAt v' l w'∧GrS (fun k=>k=b∨v.ownBlock=some k) w w'∧v'.ownBlock=v.ownBlock
set_option maxHeartbeats 1000000 in
theorem hInit0_w (b o cap:Nat) (ao:Option Addr) (w:World) (hb:w.cell? ⟨b,o,none⟩=some (.slice ao 0 cap)) :
  Calls Tryz.prog 248 #[.iface 221 (.pointer (some ⟨b,o,none⟩))] w fun e w'=>e=.returned (.tuple #[])∧w'=w:=by
 have hN:=aLen_w b o ao 0 cap w hb
 have mN:=Tryz.mLen
 go_enter Tryz.func248,Tryz.ntmps248
 go_wp2_with fail
 refine hN.mono ?_
 rintro e w1 ⟨rfl,rfl⟩
 clear hN
 go_wp2
 go_loopw [3] (fun x w'=>x=.int .i64 (-1)∧w'=w1) (fun _ _=>0)
 case atStart=>exact ⟨rfl,rfl⟩
 case round=>
  obtain ⟨rfl,rfl⟩:=hrel
  go_wp2
  go_end0
  exact ⟨rfl,rfl⟩
theorem Tryz.mForL (v:Value) (w:World):(Go.method 482 137 v "sieve/nodes.forget").run Tryz.prog w=.ok (241,v) w:=by kernel_rfl
theorem Tryz.mForJ (b:Nat) (w:World):(Go.method 482 208 (.pointer (some ⟨b,0,none⟩)) "sieve/nodes.forget").run Tryz.prog w=.ok (256,.pointer (some ⟨b,0,none⟩)) w:=by kernel_rfl
theorem Tryz.mForH (b:Nat) (w:World):(Go.method 482 209 (.pointer (some ⟨b,0,none⟩)) "sieve/nodes.forget").run Tryz.prog w=.ok (256,.pointer (some ⟨b,0,none⟩)) w:=by kernel_rfl
def fgFn:List Nd→Nat
 | []=>241
 | _ :: _=>256
set_option maxRecDepth 100000 in
set_option maxHeartbeats 2000000 in
theorem delA1_w (N:Nat) (b0:Value) (p:Tok→Bool) (v:Value) (l:List Tok) (w:World) (eg:∀ args w,(callFunc N args).run Tryz.prog w=.ok (.enter N args) w) (hr:ToksAt v l w)
  (hp:(∀ wx t,GrS (fun k=>v.ownBlock=some k) w wx→t∈l→Calls Tryz.prog N #[tokV t,b0] wx fun e w'=>e=.returned (.bool (p t))∧wx.grownBy w' none)) :
  Calls Tryz.prog 247 #[v,(.func (.func N) #[] #[b0])] w fun e w'=>∃ v',e=.returned v'∧ToksAt v' (l.filter (fun t=>!p t)) w'∧GrS (fun k=>v.ownBlock=some k) w w'∧v'.ownBlock=v.ownBlock:=by
 rcases hr.shape with ⟨rfl,rfl⟩ | ⟨g,cap,rfl⟩
 ·have hI:=idxF1_w N b0 p _ [] w eg hr (fun wx t _ ht=>by simp at ht)
  clear hp
  go_enter Tryz.func247,Tryz.ntmps247
  go_wp2_with fail
  refine hI.mono ?_
  rintro e w1 ⟨rfl,hg1⟩
  have hr1:=hr.gr hg1
  clear hI hr
  go_wp2
  go_ret
  exact ⟨_,rfl,hr1,GrS.of hg1 (by simp),rfl⟩
 ·refine (delF1_w N b0 p g cap l w eg hr (fun wx t h ht=>hp wx t (GrS.of h (fun k hk=>by rw [←hk]; rfl)) ht)).mono ?_
  rintro e w' ⟨rfl,h1,h2⟩
  exact ⟨_,rfl,h2,GrS.of h1 (fun k hk=>by rw [←hk]; rfl),rfl⟩
set_option maxRecDepth 100000 in
set_option maxHeartbeats 2000000 in
theorem mfor1_w (N:Nat) (b0:Value) (p:Tok→Bool) (b o:Nat) (v:Value) (cs:Array Value) (ty:TypeId) (l:List Tok) (w:World) (eg:∀ args w,(callFunc N args).run Tryz.prog w=.ok (.enter N args) w) (hb:w.heap[b]?=some (.cells cs ty (0,0))) (ho:cs[o]?=some v) (hr:ToksAt v l w) (hne:v.ownBlock≠some b)
  (hp:(∀ wx t,GrS (fun k=>v.ownBlock=some k) w wx→t∈l→Calls Tryz.prog N #[tokV t,b0] wx fun e w'=>e=.returned (.bool (p t))∧wx.grownBy w' none)) :
  Calls Tryz.prog 244 #[.pointer (some ⟨b,o,none⟩),(.func (.func N) #[] #[b0])] w fun e w'=>e=.returned (.tuple #[])∧FgPost b o v cs ty (l.filter (fun t=>!p t)) w w':=by
 have hD:=delA1_w N b0 p v l w eg hr hp
 have b0:w.cell? ⟨b,o,none⟩=some v:=by simp [World.cell?,hb]; simpa using ho
 have hblt:=row_lt hb
 obtain ⟨ao,cap,rfl⟩:=hr.slice
 have HB:=hide hb
 have HO:=hide ho
 have HNE:=hide hne
 clear hp hb ho hr hne
 go_enter Tryz.func244,Tryz.ntmps244
 go_wp2_with fail
 refine hD.mono ?_
 rintro e w1 ⟨v',rfl,hr1,hG1,how⟩
 have hb1:w1.heap[b]?=some (.cells cs ty (0,0)):=by rw [hG1.block b hblt (unhide HNE)]; exact unhide HB
 obtain ⟨ao1,cap1,rfl⟩:=hr1.slice
 have b1:w1.cell? ⟨b,o,none⟩=some (.slice ao l.length cap):=by simp [World.cell?,hb1]; simpa using unhide HO
 have z1:w1.frozen? ⟨b,o,none⟩=false:=by simp [World.frozen?,hb1]
 have HB1:=hide hb1
 have HR1:=hide hr1
 have HG1:=hide hG1
 have HOW:=hide how
 clear hD hb1 hr1 hG1 how
 go_wp2
 go_end0
 have hgs:=gr_set w1 b o (.slice ao1 (l.filter (fun t=>!p t)).length cap1)
 refine ⟨rfl,_,by rw [heap_setCell_same w1 b o _ _ _ (unhide HB1)],(unhide HR1).other hgs (fun g hg e=>?_),?_,unhide HOW⟩
 ·rw [unhide HOW] at hg
  simp only [Option.some.injEq] at e
  exact unhide HNE (by rw [hg,e])
 ·exact ((unhide HG1).mono (fun k hk=>.inr hk)).then hgs (fun g hg=>by simp at hg; exact .inr (.inl hg.symm))
set_option maxRecDepth 100000 in
set_option maxHeartbeats 2000000 in
theorem afor1_w (U:Nat→Nat) (N:Nat) (b0:Value) (p:Tok→Bool) (b o:Nat) (v:Value) (cs:Array Value) (ty:TypeId) (l:List Tok) (w:World) (eg:∀ args w,(callFunc N args).run Tryz.prog w=.ok (.enter N args) w) (hb:w.heap[b]?=some (.cells cs ty (0,0))) (ho:cs[o]?=some v) (hr:ToksAt v l w) (hne:v.ownBlock≠some b) (hlen:l.length≤1000000000)
  (hUb:U b≠1) (hUv:∀ g,v.ownBlock=some g→U g≠1) (hl4:∀ x∈l,x.length≤4∧∀ y∈x,FtAt U y w)
  (hp:(∀ wx t,GrS (fun k=>v.ownBlock=some k) w wx→t∈l→Calls Tryz.prog N #[tokV t,b0] wx fun e w'=>e=.returned (.bool (p t))∧wx.grownBy w' none)) :
  Calls Tryz.prog 245 #[.pointer (some ⟨b,o,none⟩),(.func (.func N) #[] #[b0])] w fun e w'=>e=.returned (.tuple #[])∧FgPost b o v cs ty (Hp.init Tok.less (l.filter (fun t=>!p t))) w w':=by
 have hD:=mfor1_w N b0 p b o v cs ty l w eg hb ho hr hne hp
 have hosz:o < cs.size:=(Array.getElem?_eq_some_iff.1 ho).1
 have HB:=hide hb
 have HV:=hide hUv
 have HL:=hide hl4
 have HNE:=hide hne
 clear hp hb ho hr hne hUv hl4
 go_enter Tryz.func245,Tryz.ntmps245
 go_wp2_with fail
 refine hD.mono ?_
 rintro e w1 ⟨rfl,v',hb1,hr1,hG1,how⟩
 have hc1:w1.cell? ⟨b,o,none⟩=some v':=by
  simp [World.cell?,hb1]
  rw [Array.getElem?_setIfInBounds,if_pos rfl,if_pos hosz]
 rcases hr1.shape with ⟨rfl,hnil⟩ | ⟨g,cap,rfl⟩
 ·rw [hnil] at hr1
  have HNIL:=hide hnil
  have hI:=hInit0_w b o 0 none w1 hc1
  have HF:=hide (show w1.heap[b]?=some (.cells (cs.setIfInBounds o (.slice none 0 0)) ty (0,0))∧ToksAt (.slice none 0 0) [] w1∧GrS (fun k=>k=b∨v.ownBlock=some k) w w1∧(Value.slice none 0 0).ownBlock=v.ownBlock from ⟨hb1,hr1,hG1,how⟩)
  clear hD hb1 hr1 hG1 how hnil
  go_wp2_with fail
  refine hI.mono ?_
  rintro e w2 ⟨rfl,rfl⟩
  clear hI
  go_wp2
  go_end0
  obtain ⟨f1,f2,f3,f4⟩:=unhide HF
  exact ⟨rfl,.slice none 0 0,f1,by rw [unhide HNIL]; exact f2,f3,f4⟩
 ·have hbg:b≠g:=fun e=>unhide HNE (by rw [←how,←e]; rfl)
  have hUg:U g≠1:=unhide HV g (by rw [←how]; rfl)
  have hA:AgAt U b o g cap (l.filter (fun t=>!p t)) w1:=by
   refine ⟨hc1,hbg,hr1,hUg,fun t ht=>?_⟩
   have hm:=(List.mem_filter.1 ht).1
   exact ⟨(unhide HL t hm).1,fun x hx=>((unhide HL t hm).2 x hx).keep hG1 (fun k hk=>by rintro (rfl | h); exact hUb hk; exact unhide HV k h hk) (fun _ _ h=>h)⟩
  have hI:=hInit_w U b o g cap (l.filter (fun t=>!p t)) w1 hA (by have:=List.length_filter_le (fun t=>!p t) l; omega)
  have HF:=hide (show w1.heap[b]?=some (.cells (cs.setIfInBounds o (.slice (some ⟨g,0,none⟩) (l.filter (fun t=>!p t)).length cap)) ty (0,0))∧GrS (fun k=>k=b∨v.ownBlock=some k) w w1∧v.ownBlock=some g from ⟨hb1,hG1,by rw [←how]; rfl⟩)
  clear hD hb1 hr1 hG1 how hA hc1
  go_wp2_with fail
  refine hI.mono ?_
  rintro e w2 ⟨rfl,hg2,hA2⟩
  clear hI
  go_wp2
  go_end0
  obtain ⟨f1,f2,f3⟩:=unhide HF
  refine ⟨rfl,.slice (some ⟨g,0,none⟩) (l.filter (fun t=>!p t)).length cap,?_,?_,f2.then hg2 (fun k hk=>.inr (.inr (by rw [←hk]; exact f3))),by rw [f3]; rfl⟩
  ·rw [hg2.block b (row_lt f1) (by simpa using hbg)]; exact f1
  ·have:=hA2.row
   rw [(Hp.init_perm _ _).length_eq] at this
   exact this
set_option maxRecDepth 100000 in
set_option maxHeartbeats 2000000 in
theorem delA2_w (N:Nat) (b0 b1:Value) (p:Tok→Bool) (v:Value) (l:List Tok) (w:World) (eg:∀ args w,(callFunc N args).run Tryz.prog w=.ok (.enter N args) w) (hr:ToksAt v l w)
  (hp:(∀ wx t,GrS (fun k=>v.ownBlock=some k) w wx→t∈l→Calls Tryz.prog N #[tokV t,b0,b1] wx fun e w'=>e=.returned (.bool (p t))∧wx.grownBy w' none)) :
  Calls Tryz.prog 247 #[v,(.func (.func N) #[] #[b0,b1])] w fun e w'=>∃ v',e=.returned v'∧ToksAt v' (l.filter (fun t=>!p t)) w'∧GrS (fun k=>v.ownBlock=some k) w w'∧v'.ownBlock=v.ownBlock:=by
 rcases hr.shape with ⟨rfl,rfl⟩ | ⟨g,cap,rfl⟩
 ·have hI:=idxF2_w N b0 b1 p _ [] w eg hr (fun wx t _ ht=>by simp at ht)
  clear hp
  go_enter Tryz.func247,Tryz.ntmps247
  go_wp2_with fail
  refine hI.mono ?_
  rintro e w1 ⟨rfl,hg1⟩
  have hr1:=hr.gr hg1
  clear hI hr
  go_wp2
  go_ret
  exact ⟨_,rfl,hr1,GrS.of hg1 (by simp),rfl⟩
 ·refine (delF2_w N b0 b1 p g cap l w eg hr (fun wx t h ht=>hp wx t (GrS.of h (fun k hk=>by rw [←hk]; rfl)) ht)).mono ?_
  rintro e w' ⟨rfl,h1,h2⟩
  exact ⟨_,rfl,h2,GrS.of h1 (fun k hk=>by rw [←hk]; rfl),rfl⟩
set_option maxRecDepth 100000 in
set_option maxHeartbeats 2000000 in
theorem mfor2_w (N:Nat) (b0 b1:Value) (p:Tok→Bool) (b o:Nat) (v:Value) (cs:Array Value) (ty:TypeId) (l:List Tok) (w:World) (eg:∀ args w,(callFunc N args).run Tryz.prog w=.ok (.enter N args) w) (hb:w.heap[b]?=some (.cells cs ty (0,0))) (ho:cs[o]?=some v) (hr:ToksAt v l w) (hne:v.ownBlock≠some b)
  (hp:(∀ wx t,GrS (fun k=>v.ownBlock=some k) w wx→t∈l→Calls Tryz.prog N #[tokV t,b0,b1] wx fun e w'=>e=.returned (.bool (p t))∧wx.grownBy w' none)) :
  Calls Tryz.prog 244 #[.pointer (some ⟨b,o,none⟩),(.func (.func N) #[] #[b0,b1])] w fun e w'=>e=.returned (.tuple #[])∧FgPost b o v cs ty (l.filter (fun t=>!p t)) w w':=by
 have hD:=delA2_w N b0 b1 p v l w eg hr hp
 have b0:w.cell? ⟨b,o,none⟩=some v:=by simp [World.cell?,hb]; simpa using ho
 have hblt:=row_lt hb
 obtain ⟨ao,cap,rfl⟩:=hr.slice
 have HB:=hide hb
 have HO:=hide ho
 have HNE:=hide hne
 clear hp hb ho hr hne
 go_enter Tryz.func244,Tryz.ntmps244
 go_wp2_with fail
 refine hD.mono ?_
 rintro e w1 ⟨v',rfl,hr1,hG1,how⟩
 have hb1:w1.heap[b]?=some (.cells cs ty (0,0)):=by rw [hG1.block b hblt (unhide HNE)]; exact unhide HB
 obtain ⟨ao1,cap1,rfl⟩:=hr1.slice
 have b1:w1.cell? ⟨b,o,none⟩=some (.slice ao l.length cap):=by simp [World.cell?,hb1]; simpa using unhide HO
 have z1:w1.frozen? ⟨b,o,none⟩=false:=by simp [World.frozen?,hb1]
 have HB1:=hide hb1
 have HR1:=hide hr1
 have HG1:=hide hG1
 have HOW:=hide how
 clear hD hb1 hr1 hG1 how
 go_wp2
 go_end0
 have hgs:=gr_set w1 b o (.slice ao1 (l.filter (fun t=>!p t)).length cap1)
 refine ⟨rfl,_,by rw [heap_setCell_same w1 b o _ _ _ (unhide HB1)],(unhide HR1).other hgs (fun g hg e=>?_),?_,unhide HOW⟩
 ·rw [unhide HOW] at hg
  simp only [Option.some.injEq] at e
  exact unhide HNE (by rw [hg,e])
 ·exact ((unhide HG1).mono (fun k hk=>.inr hk)).then hgs (fun g hg=>by simp at hg; exact .inr (.inl hg.symm))
set_option maxRecDepth 100000 in
set_option maxHeartbeats 2000000 in
theorem afor2_w (U:Nat→Nat) (N:Nat) (b0 b1:Value) (p:Tok→Bool) (b o:Nat) (v:Value) (cs:Array Value) (ty:TypeId) (l:List Tok) (w:World) (eg:∀ args w,(callFunc N args).run Tryz.prog w=.ok (.enter N args) w) (hb:w.heap[b]?=some (.cells cs ty (0,0))) (ho:cs[o]?=some v) (hr:ToksAt v l w) (hne:v.ownBlock≠some b) (hlen:l.length≤1000000000)
  (hUb:U b≠1) (hUv:∀ g,v.ownBlock=some g→U g≠1) (hl4:∀ x∈l,x.length≤4∧∀ y∈x,FtAt U y w)
  (hp:(∀ wx t,GrS (fun k=>v.ownBlock=some k) w wx→t∈l→Calls Tryz.prog N #[tokV t,b0,b1] wx fun e w'=>e=.returned (.bool (p t))∧wx.grownBy w' none)) :
  Calls Tryz.prog 245 #[.pointer (some ⟨b,o,none⟩),(.func (.func N) #[] #[b0,b1])] w fun e w'=>e=.returned (.tuple #[])∧FgPost b o v cs ty (Hp.init Tok.less (l.filter (fun t=>!p t))) w w':=by
 have hD:=mfor2_w N b0 b1 p b o v cs ty l w eg hb ho hr hne hp
 have hosz:o < cs.size:=(Array.getElem?_eq_some_iff.1 ho).1
 have HB:=hide hb
 have HV:=hide hUv
 have HL:=hide hl4
 have HNE:=hide hne
 clear hp hb ho hr hne hUv hl4
 go_enter Tryz.func245,Tryz.ntmps245
 go_wp2_with fail
 refine hD.mono ?_
 rintro e w1 ⟨rfl,v',hb1,hr1,hG1,how⟩
 have hc1:w1.cell? ⟨b,o,none⟩=some v':=by
  simp [World.cell?,hb1]
  rw [Array.getElem?_setIfInBounds,if_pos rfl,if_pos hosz]
 rcases hr1.shape with ⟨rfl,hnil⟩ | ⟨g,cap,rfl⟩
 ·rw [hnil] at hr1
  have HNIL:=hide hnil
  have hI:=hInit0_w b o 0 none w1 hc1
  have HF:=hide (show w1.heap[b]?=some (.cells (cs.setIfInBounds o (.slice none 0 0)) ty (0,0))∧ToksAt (.slice none 0 0) [] w1∧GrS (fun k=>k=b∨v.ownBlock=some k) w w1∧(Value.slice none 0 0).ownBlock=v.ownBlock from ⟨hb1,hr1,hG1,how⟩)
  clear hD hb1 hr1 hG1 how hnil
  go_wp2_with fail
  refine hI.mono ?_
  rintro e w2 ⟨rfl,rfl⟩
  clear hI
  go_wp2
  go_end0
  obtain ⟨f1,f2,f3,f4⟩:=unhide HF
  exact ⟨rfl,.slice none 0 0,f1,by rw [unhide HNIL]; exact f2,f3,f4⟩
 ·have hbg:b≠g:=fun e=>unhide HNE (by rw [←how,←e]; rfl)
  have hUg:U g≠1:=unhide HV g (by rw [←how]; rfl)
  have hA:AgAt U b o g cap (l.filter (fun t=>!p t)) w1:=by
   refine ⟨hc1,hbg,hr1,hUg,fun t ht=>?_⟩
   have hm:=(List.mem_filter.1 ht).1
   exact ⟨(unhide HL t hm).1,fun x hx=>((unhide HL t hm).2 x hx).keep hG1 (fun k hk=>by rintro (rfl | h); exact hUb hk; exact unhide HV k h hk) (fun _ _ h=>h)⟩
  have hI:=hInit_w U b o g cap (l.filter (fun t=>!p t)) w1 hA (by have:=List.length_filter_le (fun t=>!p t) l; omega)
  have HF:=hide (show w1.heap[b]?=some (.cells (cs.setIfInBounds o (.slice (some ⟨g,0,none⟩) (l.filter (fun t=>!p t)).length cap)) ty (0,0))∧GrS (fun k=>k=b∨v.ownBlock=some k) w w1∧v.ownBlock=some g from ⟨hb1,hG1,by rw [←how]; rfl⟩)
  clear hD hb1 hr1 hG1 how hA hc1
  go_wp2_with fail
  refine hI.mono ?_
  rintro e w2 ⟨rfl,hg2,hA2⟩
  clear hI
  go_wp2
  go_end0
  obtain ⟨f1,f2,f3⟩:=unhide HF
  refine ⟨rfl,.slice (some ⟨g,0,none⟩) (l.filter (fun t=>!p t)).length cap,?_,?_,f2.then hg2 (fun k hk=>.inr (.inr (by rw [←hk]; exact f3))),by rw [f3]; rfl⟩
  ·rw [hg2.block b (row_lt f1) (by simpa using hbg)]; exact f1
  ·have:=hA2.row
   rw [(Hp.init_perm _ _).length_eq] at this
   exact this
end Go.Proofs.YtolhbeekfjnfmaaGreatDoor
namespace Go.Proofs.YtolhbeekfjnfmaaGreatDoor
open Go.RowKit
theorem ndCells_get {n:Nd} {k:Nat} {tv lv ov fv nx:Value}:(ndCells n k tv lv ov fv nx)[3]?=some ov∧(ndCells n k tv lv ov fv nx)[4]?=some fv∧(ndCells n k tv lv ov fv nx)[5]?=some nx:=⟨ndCells_cell 3 (by omega),ndCells_cell 4 (by omega),ndCells_cell 5 (by omega)⟩
theorem ndCells_set3 {n n':Nd} {k:Nat} {tv lv ov ov' fv nx:Value} (h:n'.c=n.c):(ndCells n k tv lv ov fv nx).setIfInBounds 3 ov'=ndCells n' k tv lv ov' fv nx:=by
 unfold ndCells
 rw [h]
 split<;>rfl
theorem ndCells_set4 {n n':Nd} {k:Nat} {tv lv ov fv fv' nx:Value} (h:n'.c=n.c):(ndCells n k tv lv ov fv nx).setIfInBounds 4 fv'=ndCells n' k tv lv ov fv' nx:=by
 unfold ndCells
 rw [h]
 split<;>rfl
theorem SufAt.head {U:Nat→Nat} {ru jn q k:Nat} {ns:List Nd} {e:En} {hd:Value} {w:World} (h:SufAt U ru jn q k ns e hd w) :
  (∃ b,hd=.iface 137 (.pointer (some ⟨b,0,none⟩))∧ns=[])∨(∃ b n ns',hd=.iface 209 (.pointer (some ⟨b,0,none⟩))∧ns=n :: ns'∧n.c.neg=true)∨(∃ b n ns',hd=.iface 208 (.pointer (some ⟨b,0,none⟩))∧ns=n :: ns'∧n.c.neg=false):=by
 cases ns with
 | nil=>obtain ⟨b,tv,wv,h1,_⟩:=h; exact .inl ⟨b,h1,rfl⟩
 | cons n ns'=>
  obtain ⟨b,nx,tv,lv,ov,fv,h1,_⟩:=h
  unfold ndPTy at h1
  cases hn:n.c.neg with
  | true=>rw [hn,if_pos rfl] at h1; exact .inr (.inl ⟨b,n,ns',h1,rfl,hn⟩)
  | false=>rw [hn,if_neg (by simp)] at h1; exact .inr (.inr ⟨b,n,ns',h1,rfl,hn⟩)
def Codes (U:Nat→Nat) (q m k:Nat):Prop:=4+3 * q≤U k∧U k < 7+3 * (q+m)
def AllT (D:Tok→Prop) (ns:List Nd) (e:En):Prop:=(∀ n∈ns,∀ t∈n.toks,D t)∧(∀ t∈e.toks,D t)∧∀ t∈e.wait,D t
theorem FtAt.codes {U:Nat→Nat} {q m:Nat} {g:Ft} {w w':World} (h:FtAt U g w) (hg:GrS (Codes U q m) w w'):FtAt U g w':=h.keep hg (fun k hk e=>by unfold Codes at e; omega) (fun _ _ h=>h)
set_option maxRecDepth 100000 in
set_option maxHeartbeats 4000000 in
theorem forL1_w (U:Nat→Nat) (ru jn N:Nat) (b0:Value) (p:Tok→Bool) (D:Tok→Prop) (eg:∀ args w,(callFunc N args).run Tryz.prog w=.ok (.enter N args) w) (q b:Nat) (e:En) (tv wv:Value) (w:World) (hD4:∀ t,D t→t.length≤4)
  (h:LastAt U q b ru jn e tv wv w) (hT:AllT D [] e) (hlen:e.wait.length≤1000000000) (hp:(∀ wx t,GrS (Codes U q 0) w wx→D t→(∀ g∈t,FtAt U g wx)→Calls Tryz.prog N #[tokV t,b0] wx fun e w'=>e=.returned (.bool (p t))∧wx.grownBy w' none)) :
  Calls Tryz.prog 241 #[.pointer (some ⟨b,0,none⟩),(.func (.func N) #[] #[b0])] w fun e' w'=>e'=.returned (.tuple #[])∧(∃ tv' wv',LastAt U q b ru jn (e.drop p) tv' wv' w')∧GrS (Codes U q 0) w w':=by
 have hne1:tv.ownBlock≠some b:=fun hx=>by have:=h.toks.2 b hx; have:=h.own; omega
 have hne2:wv.ownBlock≠some b:=fun hx=>by have:=h.wait.2 b hx; have:=h.own; omega
 have hS1:=mfor1_w N b0 p b 0 tv _ 147 e.toks w eg h.blk rfl h.toks.1 hne1 (fun wx t hg ht=>hp wx t (hg.mono (fun k hk=>by have:=h.toks.2 k hk; unfold Codes; omega)) (hT.2.1 t ht) (fun g hgt=>(h.tfs t ht g hgt).keep hg (fun k hk hx=>by have:=h.toks.2 k hx; omega) (fun _ _ h=>h)))
 have HH:=hide h
 have HT:=hide hT
 have HP:=hide hp
 have HD:=hide hD4
 clear h hT hp hD4
 go_enter Tryz.func241,Tryz.ntmps241
 go_wp2_with fail
 refine hS1.mono ?_
 rintro e1 w1 ⟨rfl,tv',hb1,hr1,hG1,how⟩
 have hb1':w1.heap[b]?=some (.cells #[tv',wv,.int .i64 ru,.int .i64 jn] 147 (0,0)):=hb1
 have hsm:∀ k,(k=b∨tv.ownBlock=some k)→Codes U q 0 k:=by
  rintro k (rfl | hk)
  ·have:=(unhide HH).own; unfold Codes; omega
  ·have:=(unhide HH).toks.2 k hk; unfold Codes; omega
 have hG1c:GrS (Codes U q 0) w w1:=hG1.mono hsm
 have hw1:TRow U (6+3 * q) 139 4 tokEnc wv e.wait w1:=(unhide HH).wait.keep2 hG1 (fun k hk=>by rintro (rfl | hx); have:=(unhide HH).own; omega; have:=(unhide HH).toks.2 k hx; omega) (fun _ _ h=>h)
 have hS2:=afor1_w U N b0 p b 1 wv _ 147 e.wait w1 eg hb1' rfl hw1.1 hne2 hlen (by have:=(unhide HH).own; omega) (fun g hx=>by have:=hw1.2 g hx; omega) (fun x hx=>⟨unhide HD x ((unhide HT).2.2 x hx),fun y hy=>((unhide HH).wfs x hx y hy).codes hG1c⟩)
  (fun wx t hg ht=>unhide HP wx t (hG1c.trans (hg.mono (fun k hk=>by have:=hw1.2 k hk; unfold Codes; omega))) ((unhide HT).2.2 t ht) (fun g hgt=>(((unhide HH).wfs t ht g hgt).codes hG1c).keep hg (fun k hk hx=>by have:=hw1.2 k hx; omega) (fun _ _ h=>h)))
 have HF1:=hide (show ToksAt tv' (e.toks.filter (fun t=>!p t)) w1∧tv'.ownBlock=tv.ownBlock from ⟨hr1,how⟩)
 have HG1:=hide hG1c
 have HW1:=hide hw1
 clear hS1 hb1 hr1 hG1 how hb1' hsm hG1c hw1
 go_wp2_with fail
 refine hS2.mono ?_
 rintro e2 w2 ⟨rfl,wv',hb2,hr2,hG2,how2⟩
 clear hS2
 go_wp2
 go_end0
 obtain ⟨f1,f2⟩:=unhide HF1
 have hh:=unhide HH
 have hG2c:GrS (Codes U q 0) w1 w2:=hG2.mono (by
  rintro k (rfl | hk)
  ·have:=hh.own; unfold Codes; omega
  ·have:=(unhide HW1).2 k hk; unfold Codes; omega)
 have hGG:=(unhide HG1).trans hG2c
 refine ⟨rfl,⟨tv',wv',hb2,hh.own,⟨?_,fun g hx=>hh.toks.2 g (by rw [←f2]; exact hx)⟩,⟨hr2,fun g hx=>(unhide HW1).2 g (by rw [←how2]; exact hx)⟩,?_,?_,hh.low⟩,hGG⟩
 ·refine hG2.row f1 (fun g hx=>?_)
  rintro (rfl | hy)
  ·exact hne1 (by rw [←f2]; exact hx)
  ·have h1:=hh.toks.2 g (by rw [←f2]; exact hx)
   have h2:=(unhide HW1).2 g hy
   omega
 ·intro t ht g hg
  exact (hh.tfs t (List.mem_filter.1 ht).1 g hg).codes hGG
 ·intro t ht g hg
  have hm:t∈e.wait.filter (fun t=>!p t):=(Hp.init_perm _ _).mem_iff.1 ht
  exact (hh.wfs t (List.mem_filter.1 hm).1 g hg).codes hGG
set_option maxRecDepth 100000 in
set_option maxHeartbeats 4000000 in
theorem forS1_w (U:Nat→Nat) (ru jn N:Nat) (b0:Value) (p:Tok→Bool) (D:Tok→Prop) (eg:∀ args w,(callFunc N args).run Tryz.prog w=.ok (.enter N args) w) (hD4:∀ t,D t→t.length≤4) :
  ∀ (ns:List Nd) (q k b:Nat) (ty:TypeId) (e:En) (w:World),SufAt U ru jn q k ns e (.iface ty (.pointer (some ⟨b,0,none⟩))) w→AllT D ns e→e.wait.length≤1000000000→(∀ wx t,GrS (Codes U q ns.length) w wx→D t→(∀ g∈t,FtAt U g wx)→Calls Tryz.prog N #[tokV t,b0] wx fun e w'=>e=.returned (.bool (p t))∧wx.grownBy w' none)→
   Calls Tryz.prog (fgFn ns) #[.pointer (some ⟨b,0,none⟩),(.func (.func N) #[] #[b0])] w fun e' w'=>e'=.returned (.tuple #[])∧SufAt U ru jn q k (ns.map (Nd.drop p)) (e.drop p) (.iface ty (.pointer (some ⟨b,0,none⟩))) w'∧GrS (Codes U q ns.length) w w'
 | [],q,k,b,ty,e,w,h,hT,hlen,hp=>by
  obtain ⟨b',tv,wv,h1,h2⟩:=h
  simp only [Value.iface.injEq,Value.pointer.injEq,Option.some.injEq,Addr.mk.injEq,and_true] at h1
  obtain ⟨rfl,rfl⟩:=h1
  refine (forL1_w U ru jn N b0 p D eg q b e tv wv w hD4 h2 hT hlen hp).mono ?_
  rintro e' w' ⟨rfl,⟨tv',wv',h3⟩,h4⟩
  exact ⟨rfl,⟨b,tv',wv',rfl,h3⟩,h4⟩
 | n :: ns,q,k,b,ty,e,w,h,hT,hlen,hp=>by
  obtain ⟨b',nx,tv,lv,ov,fv,h1,h2,h3⟩:=h
  simp only [Value.iface.injEq,Value.pointer.injEq,Option.some.injEq,Addr.mk.injEq,and_true] at h1
  obtain ⟨rfl,rfl⟩:=h1
  rw [List.length_cons] at hp
  have hne1:ov.ownBlock≠some b:=fun hx=>by have:=h2.toks.2 b hx; have:=h2.own; omega
  have hS1:=mfor1_w N b0 p b 3 ov _ _ n.toks w eg h2.blk ndCells_get.1 h2.toks.1 hne1 (fun wx t hg ht=>hp wx t (hg.mono (fun k hk=>by have:=h2.toks.2 k hk; unfold Codes; omega)) (hT.1 n (List.mem_cons_self ..) t ht) (fun g hgt=>(h2.tfs t ht g hgt).keep hg (fun k hk hx=>by have:=h2.toks.2 k hx; omega) (fun _ _ h=>h)))
  have c5:=h2.cell 5 (by omega)
  have HH:=hide h2
  have HT:=hide hT
  have HP:=hide hp
  have HS3:=hide h3
  clear h2 hT hp
  have hhd:=h3.head
  clear h3
  show Calls Tryz.prog 256 _ w _
  have mL:=Tryz.mForL
  have mJ:=Tryz.mForJ
  have mH:=Tryz.mForH
  rcases hhd with ⟨b2,rfl,hns⟩ | ⟨b2,n2,ns2,rfl,hns,hneg⟩ | ⟨b2,n2,ns2,rfl,hns,hneg⟩
  all_goals
   have hfn:∀ f,f=fgFn ns→fgFn ns=f:=fun _ h=>h.symm
   go_enter Tryz.func256,Tryz.ntmps256
   go_wp2_with fail
   refine hS1.mono ?_
   rintro e1 w1 ⟨rfl,ov',hb1,hr1,hG1,how⟩
   rw [ndCells_set3 (n:=n) (n':=n.drop p) rfl] at hb1
   have hsm:∀ k,(k=b∨ov.ownBlock=some k)→4+3 * q≤U k∧U k < 6+3 * q:=by
    rintro k (rfl | hk)
    ·have:=(unhide HH).own; omega
    ·have:=(unhide HH).toks.2 k hk; omega
   have hG1c:GrS (Codes U q (ns.length+1)) w w1:=hG1.mono (fun k hk=>by have:=hsm k hk; unfold Codes; omega)
   have hS31:=(unhide HS3).keep hG1 (fun i hi hx=>by have:=hsm i hx; omega) (fun _ _ _=>rfl)
   have hIH:=forS1_w U ru jn N b0 p D eg hD4 ns (q+1) _ b2 _ e w1 hS31 ⟨fun m hm=>(unhide HT).1 m (List.mem_cons_of_mem _ hm),(unhide HT).2.1,(unhide HT).2.2⟩ hlen (fun wx t hg hd hf=>unhide HP wx t (hG1c.trans (hg.mono (fun k hk=>by unfold Codes at hk ⊢; omega))) hd hf)
   rw [hns] at hIH
   simp only [fgFn] at hIH
   rw [←hns] at hIH
   have hN1:NodeAt U q k b (n.drop p) _ tv lv ov' fv w1:=⟨hb1,(unhide HH).own,(unhide HH).terms.keep2 hG1 (fun i hi hx=>by have:=hsm i hx; omega) (fun _ _ h=>h),(unhide HH).links.keep2 hG1 (fun i hi hx=>by have:=hsm i hx; omega) (fun _ _ h=>h),⟨hr1,fun g hx=>(unhide HH).toks.2 g (by rw [←how]; exact hx)⟩,
    (unhide HH).facts.keep2 hG1 (fun i hi hx=>by have:=hsm i hx; omega) (fun _ _ h=>h),fun g hg=>((unhide HH).fts g hg).codes hG1c,fun t ht g hg=>((unhide HH).tfs t (List.mem_filter.1 ht).1 g hg).codes hG1c,(unhide HH).short,(unhide HH).low⟩
   have c51:=hN1.cell 5 (by omega)
   have HN1:=hide hN1
   have HG1:=hide hG1c
   clear hS1 hb1 hr1 hG1 how hsm hG1c hS31 hN1 hfn
   go_wp2_with fail
   refine hIH.mono ?_
   rintro e2 w2 ⟨rfl,hSS,hG2⟩
   clear hIH
   go_wp2
   go_end0
   have hG2c:GrS (Codes U q (ns.length+1)) w1 w2:=hG2.mono (fun k hk=>by unfold Codes at hk ⊢; omega)
   refine ⟨rfl,⟨b,_,tv,lv,ov',fv,rfl,(unhide HN1).keep hG2 (fun i hi hx=>by unfold Codes at hx; omega) (fun _ _ _=>rfl),hSS⟩,?_⟩
   exact (unhide HG1).trans hG2c
set_option maxRecDepth 100000 in
set_option maxHeartbeats 4000000 in
theorem forL2_w (U:Nat→Nat) (ru jn N:Nat) (b0 b1:Value) (p:Tok→Bool) (D:Tok→Prop) (eg:∀ args w,(callFunc N args).run Tryz.prog w=.ok (.enter N args) w) (q b:Nat) (e:En) (tv wv:Value) (w:World) (hD4:∀ t,D t→t.length≤4)
  (h:LastAt U q b ru jn e tv wv w) (hT:AllT D [] e) (hlen:e.wait.length≤1000000000) (hp:(∀ wx t,GrS (Codes U q 0) w wx→D t→(∀ g∈t,FtAt U g wx)→Calls Tryz.prog N #[tokV t,b0,b1] wx fun e w'=>e=.returned (.bool (p t))∧wx.grownBy w' none)) :
  Calls Tryz.prog 241 #[.pointer (some ⟨b,0,none⟩),(.func (.func N) #[] #[b0,b1])] w fun e' w'=>e'=.returned (.tuple #[])∧(∃ tv' wv',LastAt U q b ru jn (e.drop p) tv' wv' w')∧GrS (Codes U q 0) w w':=by
 have hne1:tv.ownBlock≠some b:=fun hx=>by have:=h.toks.2 b hx; have:=h.own; omega
 have hne2:wv.ownBlock≠some b:=fun hx=>by have:=h.wait.2 b hx; have:=h.own; omega
 have hS1:=mfor2_w N b0 b1 p b 0 tv _ 147 e.toks w eg h.blk rfl h.toks.1 hne1 (fun wx t hg ht=>hp wx t (hg.mono (fun k hk=>by have:=h.toks.2 k hk; unfold Codes; omega)) (hT.2.1 t ht) (fun g hgt=>(h.tfs t ht g hgt).keep hg (fun k hk hx=>by have:=h.toks.2 k hx; omega) (fun _ _ h=>h)))
 have HH:=hide h
 have HT:=hide hT
 have HP:=hide hp
 have HD:=hide hD4
 clear h hT hp hD4
 go_enter Tryz.func241,Tryz.ntmps241
 go_wp2_with fail
 refine hS1.mono ?_
 rintro e1 w1 ⟨rfl,tv',hb1,hr1,hG1,how⟩
 have hb1':w1.heap[b]?=some (.cells #[tv',wv,.int .i64 ru,.int .i64 jn] 147 (0,0)):=hb1
 have hsm:∀ k,(k=b∨tv.ownBlock=some k)→Codes U q 0 k:=by
  rintro k (rfl | hk)
  ·have:=(unhide HH).own; unfold Codes; omega
  ·have:=(unhide HH).toks.2 k hk; unfold Codes; omega
 have hG1c:GrS (Codes U q 0) w w1:=hG1.mono hsm
 have hw1:TRow U (6+3 * q) 139 4 tokEnc wv e.wait w1:=(unhide HH).wait.keep2 hG1 (fun k hk=>by rintro (rfl | hx); have:=(unhide HH).own; omega; have:=(unhide HH).toks.2 k hx; omega) (fun _ _ h=>h)
 have hS2:=afor2_w U N b0 b1 p b 1 wv _ 147 e.wait w1 eg hb1' rfl hw1.1 hne2 hlen (by have:=(unhide HH).own; omega) (fun g hx=>by have:=hw1.2 g hx; omega) (fun x hx=>⟨unhide HD x ((unhide HT).2.2 x hx),fun y hy=>((unhide HH).wfs x hx y hy).codes hG1c⟩)
  (fun wx t hg ht=>unhide HP wx t (hG1c.trans (hg.mono (fun k hk=>by have:=hw1.2 k hk; unfold Codes; omega))) ((unhide HT).2.2 t ht) (fun g hgt=>(((unhide HH).wfs t ht g hgt).codes hG1c).keep hg (fun k hk hx=>by have:=hw1.2 k hx; omega) (fun _ _ h=>h)))
 have HF1:=hide (show ToksAt tv' (e.toks.filter (fun t=>!p t)) w1∧tv'.ownBlock=tv.ownBlock from ⟨hr1,how⟩)
 have HG1:=hide hG1c
 have HW1:=hide hw1
 clear hS1 hb1 hr1 hG1 how hb1' hsm hG1c hw1
 go_wp2_with fail
 refine hS2.mono ?_
 rintro e2 w2 ⟨rfl,wv',hb2,hr2,hG2,how2⟩
 clear hS2
 go_wp2
 go_end0
 obtain ⟨f1,f2⟩:=unhide HF1
 have hh:=unhide HH
 have hG2c:GrS (Codes U q 0) w1 w2:=hG2.mono (by
  rintro k (rfl | hk)
  ·have:=hh.own; unfold Codes; omega
  ·have:=(unhide HW1).2 k hk; unfold Codes; omega)
 have hGG:=(unhide HG1).trans hG2c
 refine ⟨rfl,⟨tv',wv',hb2,hh.own,⟨?_,fun g hx=>hh.toks.2 g (by rw [←f2]; exact hx)⟩,⟨hr2,fun g hx=>(unhide HW1).2 g (by rw [←how2]; exact hx)⟩,?_,?_,hh.low⟩,hGG⟩
 ·refine hG2.row f1 (fun g hx=>?_)
  rintro (rfl | hy)
  ·exact hne1 (by rw [←f2]; exact hx)
  ·have h1:=hh.toks.2 g (by rw [←f2]; exact hx)
   have h2:=(unhide HW1).2 g hy
   omega
 ·intro t ht g hg
  exact (hh.tfs t (List.mem_filter.1 ht).1 g hg).codes hGG
 ·intro t ht g hg
  have hm:t∈e.wait.filter (fun t=>!p t):=(Hp.init_perm _ _).mem_iff.1 ht
  exact (hh.wfs t (List.mem_filter.1 hm).1 g hg).codes hGG
set_option maxRecDepth 100000 in
set_option maxHeartbeats 4000000 in
theorem forS2_w (U:Nat→Nat) (ru jn N:Nat) (b0 b1:Value) (p:Tok→Bool) (D:Tok→Prop) (eg:∀ args w,(callFunc N args).run Tryz.prog w=.ok (.enter N args) w) (hD4:∀ t,D t→t.length≤4) :
  ∀ (ns:List Nd) (q k b:Nat) (ty:TypeId) (e:En) (w:World),SufAt U ru jn q k ns e (.iface ty (.pointer (some ⟨b,0,none⟩))) w→AllT D ns e→e.wait.length≤1000000000→(∀ wx t,GrS (Codes U q ns.length) w wx→D t→(∀ g∈t,FtAt U g wx)→Calls Tryz.prog N #[tokV t,b0,b1] wx fun e w'=>e=.returned (.bool (p t))∧wx.grownBy w' none)→
   Calls Tryz.prog (fgFn ns) #[.pointer (some ⟨b,0,none⟩),(.func (.func N) #[] #[b0,b1])] w fun e' w'=>e'=.returned (.tuple #[])∧SufAt U ru jn q k (ns.map (Nd.drop p)) (e.drop p) (.iface ty (.pointer (some ⟨b,0,none⟩))) w'∧GrS (Codes U q ns.length) w w'
 | [],q,k,b,ty,e,w,h,hT,hlen,hp=>by
  obtain ⟨b',tv,wv,h1,h2⟩:=h
  simp only [Value.iface.injEq,Value.pointer.injEq,Option.some.injEq,Addr.mk.injEq,and_true] at h1
  obtain ⟨rfl,rfl⟩:=h1
  refine (forL2_w U ru jn N b0 b1 p D eg q b e tv wv w hD4 h2 hT hlen hp).mono ?_
  rintro e' w' ⟨rfl,⟨tv',wv',h3⟩,h4⟩
  exact ⟨rfl,⟨b,tv',wv',rfl,h3⟩,h4⟩
 | n :: ns,q,k,b,ty,e,w,h,hT,hlen,hp=>by
  obtain ⟨b',nx,tv,lv,ov,fv,h1,h2,h3⟩:=h
  simp only [Value.iface.injEq,Value.pointer.injEq,Option.some.injEq,Addr.mk.injEq,and_true] at h1
  obtain ⟨rfl,rfl⟩:=h1
  rw [List.length_cons] at hp
  have hne1:ov.ownBlock≠some b:=fun hx=>by have:=h2.toks.2 b hx; have:=h2.own; omega
  have hS1:=mfor2_w N b0 b1 p b 3 ov _ _ n.toks w eg h2.blk ndCells_get.1 h2.toks.1 hne1 (fun wx t hg ht=>hp wx t (hg.mono (fun k hk=>by have:=h2.toks.2 k hk; unfold Codes; omega)) (hT.1 n (List.mem_cons_self ..) t ht) (fun g hgt=>(h2.tfs t ht g hgt).keep hg (fun k hk hx=>by have:=h2.toks.2 k hx; omega) (fun _ _ h=>h)))
  have c5:=h2.cell 5 (by omega)
  have HH:=hide h2
  have HT:=hide hT
  have HP:=hide hp
  have HS3:=hide h3
  clear h2 hT hp
  have hhd:=h3.head
  clear h3
  show Calls Tryz.prog 256 _ w _
  have mL:=Tryz.mForL
  have mJ:=Tryz.mForJ
  have mH:=Tryz.mForH
  rcases hhd with ⟨b2,rfl,hns⟩ | ⟨b2,n2,ns2,rfl,hns,hneg⟩ | ⟨b2,n2,ns2,rfl,hns,hneg⟩
  all_goals
   have hfn:∀ f,f=fgFn ns→fgFn ns=f:=fun _ h=>h.symm
   go_enter Tryz.func256,Tryz.ntmps256
   go_wp2_with fail
   refine hS1.mono ?_
   rintro e1 w1 ⟨rfl,ov',hb1,hr1,hG1,how⟩
   rw [ndCells_set3 (n:=n) (n':=n.drop p) rfl] at hb1
   have hsm:∀ k,(k=b∨ov.ownBlock=some k)→4+3 * q≤U k∧U k < 6+3 * q:=by
    rintro k (rfl | hk)
    ·have:=(unhide HH).own; omega
    ·have:=(unhide HH).toks.2 k hk; omega
   have hG1c:GrS (Codes U q (ns.length+1)) w w1:=hG1.mono (fun k hk=>by have:=hsm k hk; unfold Codes; omega)
   have hS31:=(unhide HS3).keep hG1 (fun i hi hx=>by have:=hsm i hx; omega) (fun _ _ _=>rfl)
   have hIH:=forS2_w U ru jn N b0 b1 p D eg hD4 ns (q+1) _ b2 _ e w1 hS31 ⟨fun m hm=>(unhide HT).1 m (List.mem_cons_of_mem _ hm),(unhide HT).2.1,(unhide HT).2.2⟩ hlen (fun wx t hg hd hf=>unhide HP wx t (hG1c.trans (hg.mono (fun k hk=>by unfold Codes at hk ⊢; omega))) hd hf)
   rw [hns] at hIH
   simp only [fgFn] at hIH
   rw [←hns] at hIH
   have hN1:NodeAt U q k b (n.drop p) _ tv lv ov' fv w1:=⟨hb1,(unhide HH).own,(unhide HH).terms.keep2 hG1 (fun i hi hx=>by have:=hsm i hx; omega) (fun _ _ h=>h),(unhide HH).links.keep2 hG1 (fun i hi hx=>by have:=hsm i hx; omega) (fun _ _ h=>h),⟨hr1,fun g hx=>(unhide HH).toks.2 g (by rw [←how]; exact hx)⟩,
    (unhide HH).facts.keep2 hG1 (fun i hi hx=>by have:=hsm i hx; omega) (fun _ _ h=>h),fun g hg=>((unhide HH).fts g hg).codes hG1c,fun t ht g hg=>((unhide HH).tfs t (List.mem_filter.1 ht).1 g hg).codes hG1c,(unhide HH).short,(unhide HH).low⟩
   have c51:=hN1.cell 5 (by omega)
   have HN1:=hide hN1
   have HG1:=hide hG1c
   clear hS1 hb1 hr1 hG1 how hsm hG1c hS31 hN1 hfn
   go_wp2_with fail
   refine hIH.mono ?_
   rintro e2 w2 ⟨rfl,hSS,hG2⟩
   clear hIH
   go_wp2
   go_end0
   have hG2c:GrS (Codes U q (ns.length+1)) w1 w2:=hG2.mono (fun k hk=>by unfold Codes at hk ⊢; omega)
   refine ⟨rfl,⟨b,_,tv,lv,ov',fv,rfl,(unhide HN1).keep hG2 (fun i hi hx=>by unfold Codes at hx; omega) (fun _ _ _=>rfl),hSS⟩,?_⟩
   exact (unhide HG1).trans hG2c
end Go.Proofs.YtolhbeekfjnfmaaGreatDoor
namespace Go.Proofs.YtolhbeekfjnfmaaGreatDoor
open Go.RowKit
theorem Tryz.mArrL (v:Value) (w:World):(Go.method 482 137 v "sieve/nodes.arrive").run Tryz.prog w=.ok (240,v) w:=by kernel_rfl
theorem Tryz.mArrJ (v:Value) (w:World):(Go.method 482 208 v "sieve/nodes.arrive").run Tryz.prog w=.ok (255,v) w:=by kernel_rfl
theorem Tryz.mArrH (v:Value) (w:World):(Go.method 482 209 v "sieve/nodes.arrive").run Tryz.prog w=.ok (257,v) w:=by kernel_rfl
def ArrFn (ty fn:Nat):Prop:=(ty=137∧fn=240)∨(ty=209∧fn=257)∨(ty=208∧fn=255)
theorem tokEnc_snoc {t:Tok} (f:Ft) (h:t.length < 4):tokEnc (t ++ [f])=(tokEnc t).set t.length (fptr f):=by
 match t,h with
 | [],_=>rfl
 | [_],_=>rfl
 | [_,_],_=>rfl
 | [_,_,_],_=>rfl
 | _ :: _ :: _ :: _ :: _,h=>simp at h; omega
def PairPost (r:Bool) (P:World→World→Prop) (w w':World):Prop:=(r=true∧∃ wx,w.grownBy wx none∧P wx w')∨(r=false∧w.grownBy w' none)
set_option maxRecDepth 100000 in
set_option maxHeartbeats 4000000 in
theorem pair_w (U:Nat→Nat) (q k b:Nat) (n:Nd) (ty:TypeId) (fn b2:Nat) (tv lv ov fv:Value) (t:Tok) (f:Ft) (w:World) (P:World→World→Prop) (hfn:ArrFn ty fn)
  (h:NodeAt U q k b n (.iface ty (.pointer (some ⟨b2,0,none⟩))) tv lv ov fv w) (hneg:n.c.neg=false) (hk:t.length=k) (hk4:k < 4) (hf:FtAt U f w) (ht:∀ g∈t,FtAt U g w)
  (hl:∀ l∈n.links,l.place < f.f.vals.length∧∃ g,t[l.at'.fact]?=some g∧l.at'.place < g.f.vals.length)
  (hN:fitL n.links t f.f=true→∀ wx,w.grownBy wx none→Calls Tryz.prog fn #[.pointer (some ⟨b2,0,none⟩),tokV (t ++ [f])] wx fun e w'=>e=.returned (.tuple #[])∧P wx w') :
  Calls Tryz.prog 137 #[.pointer (some ⟨b,0,none⟩),tokV t,fptr f] w fun e w'=>e=.returned (.tuple #[])∧PairPost (fitL n.links t f.f) P w w':=by
 obtain ⟨p0,p1,p2,p3,hp⟩:=tok_four t
 have eT:tokV t=.agg #[.pointer p0,.pointer p1,.pointer p2,.pointer p3]:=by unfold tokV; rw [hp]
 have hgA:=World.grownBy_alloc w (.cells #[.pointer p0,.pointer p1,.pointer p2,.pointer p3] 139) none
 have hS:∀ wx,w.grownBy wx none→Calls Tryz.prog 139 #[.pointer (some ⟨b,0,none⟩),.agg #[.pointer p0,.pointer p1,.pointer p2,.pointer p3],.pointer (some ⟨f.blk,0,none⟩)] wx fun e w'=>e=.returned (.bool (fitL n.links t f.f))∧wx.grownBy w' none:=by
  intro wx hg
  have:=fitsWith_w U b n.c n.links t f wx (h.cd.gr hg) (hf.gr hg) (fun g hgt=>(ht g hgt).gr hg) (by omega) hl
  rw [eT] at this
  exact this
 rw [eT]
 unfold fptr
 have c5:=h.cell 5 (by omega)
 have c6:=h.place hneg
 have hnew:(w.alloc (.cells #[.pointer p0,.pointer p1,.pointer p2,.pointer p3] 139)).heap[w.heap.size]?=some (.cells #[.pointer p0,.pointer p1,.pointer p2,.pointer p3] 139 (0,0)):=heap_alloc_new _ _
 obtain ⟨r,hr⟩:∃ r,fitL n.links t f.f=r:=⟨_,rfl⟩
 rw [hr] at hS hN ⊢
 have HP:=hide hp
 have HN:=hide hN
 have HNEW:=hide hnew
 clear h hf ht hl hp eT hN hnew hr hneg
 go_enter Tryz.func137,Tryz.ntmps137
 go_wp2_with fail
 go_cut [12] (fun z wx=>z=.bool r∧(w.alloc (.cells #[.pointer p0,.pointer p1,.pointer p2,.pointer p3] 139)).grownBy wx none)
 case first=>
  go_region_with (go_at_call 139; refine (hS _ (by repeat (first | exact hgA | apply gr_drew))).mono ?_; rintro e w2 ⟨rfl,hg2⟩)
  all_goals
   go_wp2_with fail
   go_meet
   exact ⟨rfl,gr_trans (by repeat (first | exact World.grownBy.refl _ _ | apply gr_drew)) hg2⟩
 case rest=>
  obtain ⟨rfl,hg2⟩:=hcut
  have hgw:=gr_trans hgA hg2
  have hnb:wc.heap[w.heap.size]?=some (.cells #[.pointer p0,.pointer p1,.pointer p2,.pointer p3] 139 (0,0)):=by rw [hg2.block _ (row_lt (unhide HNEW)) (by simp)]; exact unhide HNEW
  clear hS hg2 HNEW hgA
  cases r with
  | false=>
   clear c5 c6 hnb
   go_wp2
   go_end0
   exact ⟨rfl,.inr ⟨rfl,hgw⟩⟩
  | true=>
   have c61:=hgw.cell c6 (by simp)
   have c51:=hgw.cell c5 (by simp)
   obtain ⟨s0,s1,s2,s3,hs⟩:=tok_four (t ++ [f])
   have hset:(wc.setCell ⟨w.heap.size,k,none⟩ (.pointer (some ⟨f.blk,0,none⟩))).heap[w.heap.size]?=some (.cells (#[Value.pointer p0,.pointer p1,.pointer p2,.pointer p3].setIfInBounds k (.pointer (some ⟨f.blk,0,none⟩))) 139 (0,0)):=heap_setCell_same wc w.heap.size k _ _ _ hnb
   have hcs:(#[Value.pointer p0,.pointer p1,.pointer p2,.pointer p3].setIfInBounds k (.pointer (some ⟨f.blk,0,none⟩)))=#[.pointer s0,.pointer s1,.pointer s2,.pointer s3]:=by
    have e1:=tokEnc_snoc f (show t.length < 4 by omega)
    rw [hs,unhide HP,hk] at e1
    have:k=0∨k=1∨k=2∨k=3:=by omega
    rcases this with rfl | rfl | rfl | rfl<;>simp [fptr] at e1 ⊢<;>simp [e1]
   rw [hcs] at hset
   have hgs:=gr_set wc w.heap.size k (.pointer (some ⟨f.blk,0,none⟩))
   have hgw2:=gr_app hgw hgs (fun x hx=>by simp at hx; omega)
   have n0:∃ x,wc.cell? ⟨w.heap.size,k,none⟩=some x:=by
    have:k=0∨k=1∨k=2∨k=3:=by omega
    rcases this with rfl | rfl | rfl | rfl<;>simp [World.cell?,hnb]
   obtain ⟨x0,n0⟩:=n0
   have z0:wc.frozen? ⟨w.heap.size,k,none⟩=false:=by simp [World.frozen?,hnb]
   have c52:=hgs.cell c51 (by have:=World.block_lt_of_cell? w _ c5; simp at this; simp; omega)
   have d0:(wc.setCell ⟨w.heap.size,k,none⟩ (.pointer (some ⟨f.blk,0,none⟩))).cell? ⟨w.heap.size,0,none⟩=some (.pointer s0):=by simp [World.cell?,hset]
   have d1:(wc.setCell ⟨w.heap.size,k,none⟩ (.pointer (some ⟨f.blk,0,none⟩))).cell? ⟨w.heap.size,1,none⟩=some (.pointer s1):=by simp [World.cell?,hset]
   have d2:(wc.setCell ⟨w.heap.size,k,none⟩ (.pointer (some ⟨f.blk,0,none⟩))).cell? ⟨w.heap.size,2,none⟩=some (.pointer s2):=by simp [World.cell?,hset]
   have d3:(wc.setCell ⟨w.heap.size,k,none⟩ (.pointer (some ⟨f.blk,0,none⟩))).cell? ⟨w.heap.size,3,none⟩=some (.pointer s3):=by simp [World.cell?,hset]
   have hC:=fun wx (hg:w.grownBy wx none)=>unhide HN rfl wx hg
   rw [show tokV (t ++ [f])=.agg #[.pointer s0,.pointer s1,.pointer s2,.pointer s3] from by unfold tokV; rw [hs]] at hC
   have l0:(0:Int)≤(k:Int):=by omega
   have l1:(k:Int) < 4:=by omega
   have mL:=Tryz.mArrL
   have mJ:=Tryz.mArrJ
   have mH:=Tryz.mArrH
   clear hset hcs hs hnb c5 c6 c51 HN hgs HP
   rcases hfn with ⟨rfl,rfl⟩ | ⟨rfl,rfl⟩ | ⟨rfl,rfl⟩
   ·go_wp2
    go_region_with (go_at_call 240; refine (hC _ (by repeat (first | exact hgw2 | apply gr_drew))).mono ?_; rintro e w3 ⟨rfl,hP3⟩)
    all_goals
     go_wp2_with fail
     go_end0
     exact ⟨rfl,.inl ⟨rfl,_,gr_drew hgw2,hP3⟩⟩
   ·go_wp2
    go_region_with (go_at_call 257; refine (hC _ (by repeat (first | exact hgw2 | apply gr_drew))).mono ?_; rintro e w3 ⟨rfl,hP3⟩)
    all_goals
     go_wp2_with fail
     go_end0
     exact ⟨rfl,.inl ⟨rfl,_,gr_drew hgw2,hP3⟩⟩
   ·go_wp2
    go_region_with (go_at_call 255; refine (hC _ (by repeat (first | exact hgw2 | apply gr_drew))).mono ?_; rintro e w3 ⟨rfl,hP3⟩)
    all_goals
     go_wp2_with fail
     go_end0
     exact ⟨rfl,.inl ⟨rfl,_,gr_drew hgw2,hP3⟩⟩
end Go.Proofs.YtolhbeekfjnfmaaGreatDoor

import Derived.Test.YtolhbeekfjnfmaaGreatDoorK29
import Derived.Test.YtolhbeekfjnfmaaGreatDoorK15
namespace Go.Proofs.YtolhbeekfjnfmaaGreatDoor
open Go.RowKit
attribute [local go_sem] Oper.semAt_some
structure Sq where
 bt:Nat
 bl:Nat
 g:Nat
 lb:Nat
 ru:Nat
 jn:Nat
 l:List Tok
def Sq.val (q:Sq):Value:=.func (.func 116) #[] #[.pointer (some ⟨q.bt,0,none⟩),.pointer (some ⟨q.bl,0,none⟩)]
def sqenc (q:Sq):List Value:=[q.val]
theorem sqenc_len (q:Sq):(sqenc q).length=1:=rfl
theorem sqenc_one (q:Sq):∀ c∈sqenc q,c.oneCell'=true:=by intro c hc; simp [sqenc] at hc; subst hc; rfl
theorem Tryz.infoSeq:(Tryz.prog.info? 64).map (fun i=>(i.zero,i.size,i.bytes))=some (some .nilFunc,1,8):=by kernel_rfl
theorem Kept.of_grs {S:Nat→Prop} {A B:World} (h:GrS S A B):Kept (fun i=>¬ S i) (fun i=>¬ S i) A B:=
 ⟨h.size,fun _ _ _ _ hz hi=>h.blk hi hz,fun _ _ _ hl _ hc=>h.cellK hc (World.block_lt_of_cell? A _ hc) hl⟩
structure AllI (U:Nat→Nat) (L:Nat→Prop) (chs:List Ch) (av:Value) (qs:List Sq) (W wr:World):Prop where
 gr:W.grownBy wr none
 row:RowAt 64 1 sqenc 0 av qs wr
 new:∀ (b:Nat),av.ownBlock=some b→W.heap.size≤b
 now:∀ (i:Nat) (q:Sq) (c:Ch),qs[i]?=some q→chs[i]?=some c→q.ru=i∧q.jn=c.jn∧q.l.Perm c.e.toks∧q.l.Pairwise (fun a b=>cmpL a.nums b.nums≤0)∧L q.lb
 lie:∀ q∈qs,NowAt U q.bt q.bl q.g q.lb q.ru q.jn q.l wr∧(W.heap.size≤q.bt∧q.bt < wr.heap.size)∧(W.heap.size≤q.bl∧q.bl < wr.heap.size)∧(W.heap.size≤q.g∧(q.l≠[]→q.g < wr.heap.size))∧q.lb < W.heap.size
 apart:∀ q∈qs,∀ (b:Nat),av.ownBlock=some b→b≠q.bt∧b≠q.bl∧(q.l≠[]→b≠q.g)
theorem allStep {U:Nat→Nat} {L:Nat→Prop} {chs:List Ch} {av v':Value} {qs:List Sq} {q:Sq} {c:Ch} {n m:Nat} {W wr w1 w2 w3:World} (h:AllI U L chs av qs W wr) (hc:chs[qs.length]?=some c) (hg1:wr.grownBy w1 none)
  (hq:q.ru=qs.length∧q.jn=c.jn∧q.l.Perm c.e.toks∧q.l.Pairwise (fun a b=>cmpL a.nums b.nums≤0)∧L q.lb) (hN:NowAt U q.bt q.bl q.g q.lb q.ru q.jn q.l w1) (hbt:wr.heap.size≤q.bt) (hbl:wr.heap.size≤q.bl) (hgg:wr.heap.size≤q.g) (hlb:q.lb < W.heap.size)
  (hg2:w1.grownBy w2 none) (hl:Longer av v' n m w2 w3) (hr:RowAt 64 1 sqenc 0 v' (qs ++ [q]) w3) (hUb:∀ i,U i≠0→i < W.heap.size):AllI U L chs v' (qs ++ [q]) W w3:=by
 have hs0:=h.gr.size
 have hs1:=hg1.size
 have hs2:=hg2.size
 have hG:GrS (fun i=>av.ownBlock=some i) w2 w3:=hl.gr (fun b hb=>hb)
 have hs3:=hG.size
 have hav:∀ b,av.ownBlock=some b→W.heap.size≤b∧b < wr.heap.size:=fun b hb=>⟨h.new b hb,(h.row.own b hb).2⟩
 have hown:∀ b,v'.ownBlock=some b→av.ownBlock=some b∨w2.heap.size≤b:=hl.own
 have hbt1:q.bt < w1.heap.size:=by obtain ⟨p,cap,k,_⟩:=hN.toks; exact row_lt k
 have hbl1:q.bl < w1.heap.size:=row_lt hN.last
 have hg1':q.l≠[]→q.g < w1.heap.size:=fun hne=>by
  obtain ⟨t,l',e⟩:=List.exists_cons_of_ne_nil hne
  have h0:=hN.cells 0 t (by rw [e]; rfl) 0 (by omega)
  have hs:∃ v,(tokEnc t)[0]?=some v:=⟨_,List.getElem?_eq_getElem (by rw [tokEnc_len]; omega)⟩
  obtain ⟨v,hv⟩:=hs
  rw [hv] at h0
  exact World.block_lt_of_cell? w1 _ h0
 have hk23:∀ q2:Sq,NowAt U q2.bt q2.bl q2.g q2.lb q2.ru q2.jn q2.l w2→(∀ b,av.ownBlock=some b→b≠q2.bt∧b≠q2.bl∧(q2.l≠[]→b≠q2.g))→q2.lb < W.heap.size→NowAt U q2.bt q2.bl q2.g q2.lb q2.ru q2.jn q2.l w3:=by
  intro q2 hn ha hl2
  refine hn.keptI (Kept.of_grs hG) (fun i hi e=>?_) (fun e=>(ha _ e).1 rfl) (fun e=>(ha _ e).2.1 rfl) (fun hne e=>(ha _ e).2.2 hne rfl) (fun e=>?_)
  ·have:=hUb i (by omega)
   have:=(hav i e).1
   omega
  ·have:=(hav _ e).1
   omega
 refine ⟨?_,hr,fun b hb=>?_,fun i q2 c2 hi hc2=>?_,fun q2 hq2=>?_,fun q2 hq2 b hb=>?_⟩
 ·refine GrS.grown (S:=fun i=>W.heap.size≤i) ?_ (fun i hi h=>by omega)
  exact (GrS.of (gr_trans h.gr (gr_trans hg1 hg2)) (by simp):GrS (fun i=>W.heap.size≤i) W w2).comp hG (fun i hi hn hx=>hn (hav i hx).1)
 ·rcases hown b hb with e | e
  ·exact h.new b e
  ·omega
 ·by_cases hlt:i < qs.length
  ·rw [List.getElem?_append_left hlt] at hi
   exact h.now i q2 c2 hi hc2
  ·have hie:i=qs.length:=by have:=(List.getElem?_eq_some_iff.1 hi).1; simp at this; omega
   subst hie
   simp only [List.getElem?_concat_length,Option.some.injEq] at hi
   subst hi
   rw [hc] at hc2
   simp only [Option.some.injEq] at hc2
   subst hc2
   exact hq
 ·rcases List.mem_append.1 hq2 with hq2 | hq2
  ·obtain ⟨k1,k2,k3,k4,k5⟩:=h.lie q2 hq2
   refine ⟨hk23 q2 (k1.keptI (Z:=fun _=>True) (L:=fun _=>True) (Kept.gr (gr_trans hg1 hg2)) (fun _ _=>trivial) trivial trivial (fun _=>trivial) trivial) (h.apart q2 hq2) k5,⟨k2.1,by omega⟩,⟨k3.1,by omega⟩,⟨k4.1,fun hne=>by have:=k4.2 hne; omega⟩,k5⟩
  ·simp only [List.mem_singleton] at hq2
   subst hq2
   refine ⟨hk23 q2 (hN.keptI (Z:=fun _=>True) (L:=fun _=>True) (Kept.gr hg2) (fun _ _=>trivial) trivial trivial (fun _=>trivial) trivial) (fun b hb=>?_) hlb,⟨by omega,by omega⟩,⟨by omega,by omega⟩,⟨by omega,fun hne=>by have:=hg1' hne; omega⟩,hlb⟩
   have:=(hav b hb).2
   exact ⟨by omega,by omega,fun _=>by omega⟩
 ·rcases hown b hb with e | e
  ·rcases List.mem_append.1 hq2 with hq2 | hq2
   ·exact h.apart q2 hq2 b e
   ·simp only [List.mem_singleton] at hq2
    subst hq2
    have:=(hav b e).2
    exact ⟨by omega,by omega,fun _=>by omega⟩
  ·rcases List.mem_append.1 hq2 with hq2 | hq2
   ·obtain ⟨k1,k2,k3,k4,k5⟩:=h.lie q2 hq2
    exact ⟨by omega,by omega,fun hne=>by have:=k4.2 hne; omega⟩
   ·simp only [List.mem_singleton] at hq2
    subst hq2
    exact ⟨by omega,by omega,fun hne=>by have:=hg1' hne; omega⟩
theorem leaves_marks {F:Fence} {n:Nat} {P:Program} {fn:Func} {tmps:Array Value} {R:Ending→World→Prop} {v:Value} (hres:∀ w,(results fn tmps).run P w=.ok v w):∀ (Ds:List Nat) (w:World),Ds.Nodup→(∀ D∈Ds,w.heap[D]?=some (.deferred (some [])))→R (.returned v) w→
  (∀ (A:World) (D:Nat),D∈Ds→R (.returned v) A→A.heap[D]?=some (.deferred (some []))→R (.returned v) (A.putObj D (.deferred none)))→LeavesInM F n P fn tmps R (Ds.map (fun D=>{ target:=.collected D,args:=#[] })) .returning w
 | [],w,_,_,h,_=>⟨v,hres w,h⟩
 | D :: Ds,w,hn,hD,h,hR=>by
  have hd:=hD D (List.mem_cons_self ..)
  refine ⟨by simp,.inl ⟨D,_,rfl,run_takeDeferred hd,?_⟩⟩
  rw [List.nodup_cons] at hn
  refine leaves_marks hres Ds _ hn.2 (fun E hE=>?_) (hR w D (List.mem_cons_self ..) h hd) (fun A E hE=>hR A E (List.mem_cons_of_mem _ hE))
  rw [World.putObj_heap_other (fun e=>hn.1 (by rw [←e]; exact hE))]
  exact hD E (List.mem_cons_of_mem _ hE)
theorem Kept.turn {Z L:Nat→Prop} {A B:World} {row:Option Nat} (hg:A.grownBy B row) (hr:∀ r,row=some r→∃ o:Obj,A.heap[r]?=some o∧o.isCells=false):Kept Z L A B:=by
 have hne:∀ (i:Nat) (cs:Array Value) (ty:TypeId) (fz:Nat×Nat),A.heap[i]?=some (Obj.cells cs ty fz)→some i≠row:=by
  intro i cs ty fz hi e
  obtain ⟨o,ho,hc⟩:=hr i e.symm
  rw [hi] at ho
  cases ho
  cases hc
 refine ⟨hg.size,fun i cs ty fz _ hi=>?_,fun i k v _ _ hc=>?_⟩
 ·rw [hg.block i (row_lt hi) (hne i cs ty fz hi)]; exact hi
 ·obtain ⟨cs,ty,fz,hb⟩:=cells_of hc
  rw [←hc]
  exact World.cell?_of_block (w:=A) (hg.block i (row_lt hb) (hne i cs ty fz hb))
theorem MvsOk.own (m n0:Nat):OwnFrom m (MvsOk n0):=fun _ _ _ _ h hg hr=>h.keptI (Z:=fun _=>True) (L:=fun _=>True) (Kept.turn hg (fun r e=>(hr r e).2)) (fun _ _ _ _=>trivial)
theorem MvsOk.app {n0 n1:Nat} {s t:List Mv} {A B:World} (h1:MvsOk n0 s A) (hk:MvsOk n0 s B) (h2:MvsOk n1 t B) (hn:A.heap.size≤n1) (h0:n0≤n1):MvsOk n0 (s ++ t) B:=by
 refine ⟨fun x hx=>?_,List.pairwise_append.2 ⟨h1.apart,h2.apart,fun x hx y hy g b hg hb=>?_⟩⟩
 ·rcases List.mem_append.1 hx with hx | hx
  ·exact hk.rows x hx
  ·exact (h2.rows x hx).weak h0
 ·have e1:=((h1.rows x hx).own g hg).2
  have e2:=((h2.rows y hy).own b hb).1
  omega
end Go.Proofs.YtolhbeekfjnfmaaGreatDoor
namespace Go.Proofs.YtolhbeekfjnfmaaGreatDoor
open Go.RowKit
attribute [local go_sem] Oper.semAt_some
def AllS (qs:List Sq) (s:List Mv):Prop:=s.map (fun x=>(x.ru,x.jn,x.tok))=qs.flatMap (fun q=>q.l.map (fun t=>(q.ru,q.jn,t)))
def AllP (qs:List Sq) (s:List Mv):Prop:=s.map (fun x=>(x.ru,x.jn,x.tok)) <+: qs.flatMap (fun q=>q.l.map (fun t=>(q.ru,q.jn,t)))
structure AllSt (U:Nat→Nat) (nb bn n0 m0:Nat) (chs:List Ch) (W:World):Prop where
 net:NetAt U nb chs W
 box:W.heap[bn]?=some (.cells #[.pointer (some ⟨nb,0,none⟩)] 84 (0,0))
 from0:n0≤W.heap.size
 from1:m0≤W.heap.size
def SqsOk (chs:List Ch) (qs:List Sq):Prop:=qs.length=chs.length∧∀ (i:Nat) (q:Sq) (c:Ch),qs[i]?=some q→chs[i]?=some c→q.ru=i∧q.jn=c.jn∧q.l.Perm c.e.toks∧q.l.Pairwise (fun a b=>cmpL a.nums b.nums≤0)
theorem ChainAt.lastAt {U:Nat→Nat} {ru jn q b:Nat} {ns:List Nd} {e:En} {w:World} (h:ChainAt U ru jn q b ns e w):∃ lb tv wv,w.cell? ⟨b,2,none⟩=some (.pointer (some ⟨lb,0,none⟩))∧LastAt U (q+ns.length) lb ru jn e tv wv w:=by
 obtain ⟨nv,hd,hs',lb,m1,m2,m3,m4,m5,m6,m7⟩:=h.ex
 obtain ⟨b',tv,wv,k1,k2⟩:=m7.bkLast
 obtain rfl:=m6.uniq k1
 exact ⟨lb,tv,wv,by simp [World.cell?,m1],k2⟩
structure All2 (n0 sz0:Nat) (L Zc:Nat→Prop) (J:(Nat→Prop)→List Mv→World→Prop) (qs:List Sq) (w1:World) (j:Nat) (s0:List Mv) (Ds:List Nat) (wr:World):Prop where
 map:s0.map (fun x=>(x.ru,x.jn,x.tok))=(qs.take j).flatMap (fun q=>q.l.map (fun t=>(q.ru,q.jn,t)))
 mv:MvsOk n0 s0 wr
 zs:∃ Z:Nat→Prop,(∀ i,Zc i→Z i)∧MvsIn Z s0∧J Z s0 wr
 kept:Kept Zc L w1 wr
 nodup:Ds.Nodup
 marks:∀ D∈Ds,sz0≤D∧wr.heap[D]?=some (.deferred (some []))
def InI (J:(Nat→Prop)→List Mv→World→Prop) (Z L:Nat→Prop) (Ds:List Nat) (s0:List Mv) (wr:World) (Zi:Nat→Prop) (s:List Mv) (W:World):Prop:=
 (∀ i,Z i→Zi i)∧Kept Z L wr W∧(∀ D∈Ds,W.heap[D]?=some (.deferred (some [])))∧J Zi (s0 ++ s) W
theorem InI.bears {J:(Nat→Prop)→List Mv→World→Prop} {Z L:Nat→Prop} {Ds:List Nat} {s0:List Mv} {wr:World} {m:Nat} (hJ:Bears m J) (hm:m≤wr.heap.size) (hD:∀ D∈Ds,D < wr.heap.size):Bears wr.heap.size (InI J Z L Ds s0 wr):=by
 rintro Zi Zi' s A B row ⟨h1,h2,h3,h4⟩ hg hr hmz hz
 refine ⟨fun i hi=>hmz i (h1 i hi),h2.trans (Kept.turn hg (fun r e=>(hr r e).2)),fun D hd=>?_,hJ Zi Zi' _ A B row h4 hg (fun r e=>⟨Nat.le_trans hm (hr r e).1,(hr r e).2⟩) hmz hz⟩
 rw [hg.block D (Nat.lt_of_lt_of_le (hD D hd) h2.size) (fun e=>by have:=(hr D e.symm).1; have:=hD D hd; omega)]
 exact h3 D hd
theorem InI.step {J J':(Nat→Prop)→List Mv→World→Prop} {Z L:Nat→Prop} {Ds:List Nat} {s0 s:List Mv} {wr W B:World} {Zi:Nat→Prop} {x:Mv} {m:Nat} (h:InI J Z L Ds s0 wr Zi s W) (hm:m≤wr.heap.size) (hD:∀ D∈Ds,m≤D) (hf:KeepsFrom m W B) (hk:Kept Zi L W B) (hj:J' Zi (s0 ++ s ++ [x]) B) :
  KeepsFrom wr.heap.size W B∧Kept Zi L W B∧InI J' Z L Ds s0 wr Zi (s ++ [x]) B:=by
 obtain ⟨h1,h2,h3,h4⟩:=h
 refine ⟨⟨hf.size,fun k o hk'=>hf.same k o (by omega)⟩,hk,h1,h2.trans (hk.mono h1),fun D hd=>hf.same D _ (hD D hd) (h3 D hd) rfl,?_⟩
 rw [←List.append_assoc]
 exact hj
theorem All2.next {n0 sz0:Nat} {L Zc:Nat→Prop} {J:(Nat→Prop)→List Mv→World→Prop} {qs:List Sq} {w1:World} {j:Nat} {s0 s:List Mv} {Ds:List Nat} {wr W:World} {Z Zi:Nat→Prop} {q:Sq} (h:All2 n0 sz0 L Zc J qs w1 j s0 Ds wr) (hz:∀ i,Zc i→Z i) (hin:MvsIn Z s0) (hq:qs[j]?=some q) (hi:InI J Z L Ds s0 wr Zi s W)
  (hs:((s.map (fun x=>x.tok)=q.l∧∀ x∈s,x.ru=q.ru∧x.jn=q.jn)∧MvsOk wr.heap.size s W)∧MvsIn Zi s) (hd:W.heap[wr.heap.size]?=some (.deferred (some []))) (h0:n0≤wr.heap.size) (h1:sz0≤wr.heap.size) :
  All2 n0 sz0 L Zc J qs w1 (j+1) (s0 ++ s) (wr.heap.size :: Ds) W:=by
 obtain ⟨i1,i2,i3,i4⟩:=hi
 obtain ⟨⟨⟨k1,k2⟩,k3⟩,k4⟩:=hs
 refine ⟨?_,h.mv.app (h.mv.keptI i2 hin) k3 (Nat.le_refl _) h0,⟨Zi,fun i hi=>i1 i (hz i hi),fun x hx g hg=>?_,i4⟩,h.kept.trans (i2.mono hz),List.nodup_cons.2 ⟨fun hm=>?_,h.nodup⟩,fun D hD=>?_⟩
 ·rw [List.map_append,h.map,List.take_add_one,hq,List.flatMap_append]
  congr 1
  simp only [Option.toList_some,List.flatMap_cons,List.flatMap_nil,List.append_nil]
  rw [←k1,List.map_map]
  exact List.map_congr_left (fun x hx=>by simp [(k2 x hx).1,(k2 x hx).2])
 ·rcases List.mem_append.1 hx with hx | hx
  ·exact i1 g (hin x hx g hg)
  ·exact k4 x hx g hg
 ·have:=row_lt (h.marks _ hm).2
  omega
 ·rcases List.mem_cons.1 hD with rfl | hD
  ·exact ⟨h1,hd⟩
  ·exact ⟨(h.marks D hD).1,i3 D hD⟩
theorem All2.left {n0 sz0:Nat} {L Zc:Nat→Prop} {J Jx:(Nat→Prop)→List Mv→World→Prop} {qs:List Sq} {w1:World} {j:Nat} {s0 s:List Mv} {Ds:List Nat} {wr W:World} {Z Zi:Nat→Prop} {q:Sq} (h:All2 n0 sz0 L Zc J qs w1 j s0 Ds wr) (hin:MvsIn Z s0) (hq:qs[j]?=some q) (hi:InI Jx Z L Ds s0 wr Zi s W)
  (hs:(((∃ k,s.map (fun x=>x.tok)=q.l.take k)∧∀ x∈s,x.ru=q.ru∧x.jn=q.jn)∧MvsOk wr.heap.size s W)∧MvsIn Zi s) (h0:n0≤wr.heap.size) :
  AllP qs (s0 ++ s)∧MvsOk n0 (s0 ++ s) W∧MvsIn Zi (s0 ++ s)∧Jx Zi (s0 ++ s) W:=by
 obtain ⟨i1,i2,i3,i4⟩:=hi
 obtain ⟨⟨⟨⟨k,k1⟩,k2⟩,k3⟩,k4⟩:=hs
 refine ⟨?_,h.mv.app (h.mv.keptI i2 hin) k3 (Nat.le_refl _) h0,fun x hx g hg=>?_,i4⟩
 ·unfold AllP
  have hj:=(List.getElem?_eq_some_iff.1 hq)
  have e:qs=qs.take j ++ q :: qs.drop (j+1):=by
   obtain ⟨hjl,hje⟩:=hj
   rw [←hje,←List.drop_eq_getElem_cons hjl,List.take_append_drop]
  rw [e,List.flatMap_append,List.map_append,h.map]
  refine (List.prefix_append_right_inj _).2 ?_
  rw [List.flatMap_cons]
  refine List.IsPrefix.trans ?_ (List.prefix_append _ _)
  have:s.map (fun x=>(x.ru,x.jn,x.tok))=(q.l.take k).map (fun t=>(q.ru,q.jn,t)):=by
   rw [←k1,List.map_map]
   exact List.map_congr_left (fun x hx=>by simp [(k2 x hx).1,(k2 x hx).2])
  rw [this]
  exact (List.take_prefix k q.l).map _
 ·rcases List.mem_append.1 hx with hx | hx
  ·exact i1 g (hin x hx g hg)
  ·exact k4 x hx g hg
theorem YieldAt.wide {m m':Nat} {P:Program} {l:Nat} {args:Array Value} {W:World} {R:Ending→World→Prop} (h:YieldAt Fence.wide m P l args W R):YieldAt Fence.wide m' P l args W R:=by
 obtain ⟨fn,tmps,assign,body,h1,h2,h3⟩:=h
 exact ⟨fn,tmps,assign,body,h1,h2,fun c cs _=>h3 c cs (room_wide _)⟩
set_option maxRecDepth 100000 in
set_option maxHeartbeats 2000000 in
theorem all1_prom (n:Nat) (L Zb:Nat→Prop) (U:Nat→Nat) (nb bn n0 m0 N:Nat) (chs:List Ch) (hUz:∀ i,U i=1→Zb i) (hUl:∀ (j:Nat) (c:Ch) (i:Nat),chs[j]?=some c→U i=4+3 * (nextQ 0 (chs.take j)+c.ns.length)→(∀ k,k < i→U k≠U i)→L i) (hUb:∀ i,U i≠0→i < m0) (hch:∀ c∈chs,(∀ t∈c.e.toks,t.length=c.jn)∧c.jn≤4∧c.e.toks.length≤1000000) (hlen:chs.length≤1000) (hN:(chs.map (fun c=>c.e.toks.length)).sum≤N) :
  Promises Fence.wide n Tryz.prog 76 #[.pointer (some ⟨bn,0,none⟩)] mvenc L Zb (AllSt U nb bn n0 m0 chs)
   (fun Z s W=>((∃ qs,SqsOk chs qs∧AllS qs s)∧MvsOk n0 s W)∧MvsIn Z s) (fun Z s W=>((∃ qs,SqsOk chs qs∧AllP qs s)∧MvsOk n0 s W)∧MvsIn Z s) N:=by
 intro lp J Jx Z1 W hJ hJx hY hSt hZ1 h0
 obtain ⟨cv,bs,h1,h2,h3,h4⟩:=hSt.net
 obtain ⟨ao,cap,hcv⟩:=h3.1.slice
 subst hcv
 have hbl:=h4.len
 have c0:W.cell? ⟨bn,0,none⟩=some (.pointer (some ⟨nb,0,none⟩)):=by simp [World.cell?,hSt.box]
 have c1:W.cell? ⟨nb,0,none⟩=some (.slice ao bs.length cap):=by simp [World.cell?,h1]
 have hgA:=World.grownBy_alloc W (.cells #[.func (.yield lp) #[] #[]] 156) none
 have hx0:=heap_alloc_new W (.cells #[.func (.yield lp) #[] #[]] 156)
 have hsA:(W.alloc (.cells #[.func (.yield lp) #[] #[]] 156)).heap.size=W.heap.size+1:=by simp
 have d0:=hgA.cell c0 (by simp)
 have d1:=hgA.cell c1 (by simp)
 have HST:=hide hSt
 have H3:=hide h3
 have H4:=hide h4
 have HJ:=hide hJ
 have HJX:=hide hJx
 have HBL:=hide hbl
 clear hSt h1 h2 h3 h4 hJ hJx hbl c0 c1
 refine callsIn_wide.2 ((callsIn_wide (n:=5)).1 ?_)
 refine callsIn_of_wp_marks Tryz.func76 rfl trivial ?_ rfl
 simp only [Tryz.ntmps76,List.size_toArray,List.length_cons,List.length_nil,Nat.reduceAdd,Nat.reduceSub,Array.replicate_succ,Array.replicate_zero,List.push_toArray,List.append_toArray,List.nil_append,List.cons_append]
 gi_wp2
 generalize W.alloc (.cells #[.func (.yield lp) #[] #[]] 156)=w0 at hgA hx0 hsA d0 d1 ⊢
 have hbm:bs.length≤1000:=by rw [unhide HBL]; exact hlen
 have HI0:=hide (show AllI U L chs (.slice none 0 0) [] w0 w0 from ⟨World.grownBy.refl _ _,RowAt.nil 0 _ sqenc_len,by simp [Value.ownBlock],by simp,by simp,by simp⟩)
 gi_loopw [3,14] (fun a z wr=>∃ (j:Nat) (qs:List Sq),j≤bs.length∧z=.int .i64 j∧qs.length=j∧Hid (AllI U L chs a qs w0 wr)) (fun _ z _=>bs.length - (intOf z).toNat)
 case atStart=>exact ⟨0,[],Nat.zero_le _,rfl,rfl,HI0⟩
 case round=>
  clear HI0
  obtain ⟨j,qs,hj,rfl,hql,HK⟩:=hrel
  by_cases hlt:j < bs.length
  ·have hd:decide (j < bs.length)=true:=by simpa using hlt
   have hI:=unhide HK
   clear HK
   have hgr:=gr_trans hgA hI.gr
   obtain ⟨c,hc⟩:∃ c,chs[j]?=some c:=⟨_,List.getElem?_eq_getElem (by rw [←unhide HBL]; exact hlt)⟩
   obtain ⟨bj,hbj,hca⟩:=(unhide H4).get hc
   rw [Nat.zero_add] at hca
   obtain ⟨g,cap',e1,q0⟩:=PsAt.cell ((unhide H3).1.gr hgr) hbj
   simp only [Value.slice.injEq,true_and] at e1
   obtain ⟨rfl,rfl⟩:=e1
   have hcr:=hca.keep (U':=U) (GrS.of hgr (by simp):GrS (fun _=>False) W wr) (by simp) (fun _ _=>rfl)
   obtain ⟨lb,tv,wv,q2,hla⟩:=hcr.lastAt
   have hcc:=hch c (List.mem_of_getElem? hc)
   have hNow:=now_w U _ lb j c.jn c.e tv wv wr hla hcc.1 hcc.2.1 (by have:=hcc.2.2; omega)
   have hlbL:L lb:=hUl j c lb hc hla.own (fun k hk=>by rw [hla.own]; exact hla.low k hk)
   have hlbm:=hUb lb (by rw [hla.own]; omega)
   have hW:=(unhide HST).from1
   obtain ⟨aa,acap,hav⟩:=hI.row.slice
   rw [hql] at hav
   subst hav
   have hNow2:Calls Tryz.prog 77 #[.pointer (some ⟨lb,0,none⟩)] wr fun r w1=>∃ bt bl,r=.returned (.func (.func 116) #[] #[.pointer (some ⟨bt,0,none⟩),.pointer (some ⟨bl,0,none⟩)])∧RowAt 64 1 sqenc 0 (.slice aa j acap) qs (w1.alloc (.cells #[.func (.func 116) #[] #[.pointer (some ⟨bt,0,none⟩),.pointer (some ⟨bl,0,none⟩)]] 64))∧
     ∃ q:Sq,q.bt=bt∧q.bl=bl∧RowAt 64 1 sqenc 0 (.slice (some ⟨w1.heap.size,0,none⟩) 1 1) [q] (w1.alloc (.cells #[.func (.func 116) #[] #[.pointer (some ⟨bt,0,none⟩),.pointer (some ⟨bl,0,none⟩)]] 64))∧
     ∀ v5 w5 n m,RowAt 64 1 sqenc 0 v5 (qs ++ [q]) w5→Longer (.slice aa j acap) v5 n m (w1.alloc (.cells #[.func (.func 116) #[] #[.pointer (some ⟨bt,0,none⟩),.pointer (some ⟨bl,0,none⟩)]] 64)) w5→Hid (AllI U L chs v5 (qs ++ [q]) w0 w5):=by
    refine hNow.mono ?_
    rintro r w1 ⟨bt,bl,g',l,rfl,f1,f2,f3,f4,f5,f6,f7⟩
    have hga:=World.grownBy_alloc w1 (.cells #[.func (.func 116) #[] #[.pointer (some ⟨bt,0,none⟩),.pointer (some ⟨bl,0,none⟩)]] 64) none
    refine ⟨bt,bl,rfl,hI.row.gr (gr_trans f1 hga),⟨bt,bl,g',lb,j,c.jn,l⟩,rfl,rfl,(RowAt.lit1 (e:=64) sqenc_len w1 ⟨bt,bl,g',lb,j,c.jn,l⟩ #[.func (.func 116) #[] #[.pointer (some ⟨bt,0,none⟩),.pointer (some ⟨bl,0,none⟩)]] rfl).weak (Nat.zero_le _),?_⟩
    intro v5 w5 n m hv5 hl5
    exact hide (allStep (q:=⟨bt,bl,g',lb,j,c.jn,l⟩) hI (by rw [hql]; exact hc) f1 ⟨hql.symm,rfl,f5,f6,hlbL⟩ f7 f2 f3 f4 (by show lb < _; omega) hga hl5 hv5 (fun i hi=>by have:=hUb i hi; omega))
   have HQL:=hide hql
   clear hNow hla hcr hca hI hgr hcc hql
   gi_wp2_with (first
    | (refine ⟨trivial,?_⟩; refine (callsIn_wide.2 hNow2).mono ?_; rintro r w1 ⟨bt,bl,rfl,hr2,q,rfl,rfl,hsrc,HE⟩)
    | (gi_at_builtin; refine app_two_in rfl _ _ 157 rfl Tryz.underlying157 Tryz.infoSeq rfl (by decide) rfl hr2 rfl hsrc (by simp) (fun y _=>sqenc_one y) (by rw [unhide HQL]; unfold maxLen; simp; omega) (by rw [unhide HQL]; simp; omega) ?_))
   intro v5 w5 hv5 hl5
   have HN:=HE v5 w5 _ _ hv5 hl5
   obtain ⟨g5,cap5,rfl⟩:=hl5.form
   clear hv5 hl5 hr2 hsrc HE hNow2
   gi_wp2
   go_roundw
   case rel=>exact ⟨j+1,qs ++ [q],by omega,by go_num,by rw [List.length_append,unhide HQL]; rfl,HN⟩
   case measure=>simp [intOf]; omega
  ·have hd:decide (j < bs.length)=false:=by simpa using hlt
   have hI:=unhide HK
   clear HK
   subst hql
   have hqs:qs.length≤1000:=by omega
   have hql:qs.length=chs.length:=by have:=unhide HBL; omega
   obtain ⟨aa,acap,hav⟩:=hI.row.slice
   subst hav
   have hgr:=gr_trans hgA hI.gr
   have hszr:=hgr.size
   have hSt:=unhide HST
   obtain ⟨Zc,hZc⟩:∃ Zc:Nat→Prop,Zc=fun i=>Zb i∨(W.heap.size≤i∧i < wr.heap.size):=⟨_,rfl⟩
   have zb:∀ i,Zb i→Zc i:=fun i hi=>by rw [hZc]; exact .inl hi
   have zn:∀ i,W.heap.size≤i→i < wr.heap.size→Zc i:=fun i h1 h2=>by rw [hZc]; exact .inr ⟨h1,h2⟩
   have hA0:All2 n0 W.heap.size L Zc J qs wr 0 [] [] wr:=by
    refine ⟨rfl,⟨by simp,List.Pairwise.nil⟩,⟨fun i=>Z1 i∨(W.heap.size≤i∧i < wr.heap.size),fun i hi=>?_,fun x hx=>by simp at hx,unhide HJ Z1 _ [] W wr none h0 hgr (by simp) (fun i hi=>.inl hi) (fun i hi=>hi)⟩,Kept.gr (World.grownBy.refl _ _),List.nodup_nil,by simp⟩
    rw [hZc] at hi
    rcases hi with hi | hi
    ·exact .inl (hZ1 i hi)
    ·exact .inr hi
   have hyb:wr.heap[W.heap.size]?=some (.cells #[.func (.yield lp) #[] #[]] 156 (0,0)):=by rw [hI.gr.block _ (row_lt hx0) (by simp)]; exact hx0
   have hzav:∀ b,(Value.slice aa qs.length acap).ownBlock=some b→Zc b:=fun b hb=>zn b (by have:=hI.new b hb; omega) (hI.row.own b hb).2
   have hlie:∀ (i:Nat) (q:Sq),qs[i]?=some q→NowAt U q.bt q.bl q.g q.lb q.ru q.jn q.l wr∧Zc q.bt∧Zc q.bl∧(q.l≠[]→Zc q.g)∧L q.lb∧q.jn≤4∧q.l.length≤1000000000:=by
    intro i q hq
    obtain ⟨k1,k2,k3,k4,k5⟩:=hI.lie q (List.mem_of_getElem? hq)
    obtain ⟨c,hc⟩:∃ c,chs[i]?=some c:=⟨_,List.getElem?_eq_getElem (by rw [←hql]; exact (List.getElem?_eq_some_iff.1 hq).1)⟩
    obtain ⟨m1,m2,m3,m4,m5⟩:=hI.now i q c hq hc
    have hcc:=hch c (List.mem_of_getElem? hc)
    exact ⟨k1,zn _ (by omega) k2.2,zn _ (by omega) k3.2,fun hne=>zn _ (by omega) (k4.2 hne),m5,by rw [m2]; exact hcc.2.1,by rw [m3.length_eq]; have:=hcc.2.2; omega⟩
   have hsum:∀ (j:Nat) (q:Sq) (s0 s:List Mv),qs[j]?=some q→s0.map (fun x=>(x.ru,x.jn,x.tok))=(qs.take j).flatMap (fun q=>q.l.map (fun t=>(q.ru,q.jn,t)))→s.length < q.l.length→(s0 ++ s).length < N:=by
    intro j q s0 s hq hm hs
    have h1:=congrArg List.length hm
    rw [List.length_map,List.length_flatMap] at h1
    simp only [List.length_map] at h1
    have h2:(qs.map (fun q=>q.l.length)).sum=(chs.map (fun c=>c.e.toks.length)).sum:=by
     congr 1
     refine List.ext_getElem? (fun i=>?_)
     rw [List.getElem?_map,List.getElem?_map]
     cases hqi:qs[i]? with
     | none=>
      rw [List.getElem?_eq_none_iff] at hqi
      rw [List.getElem?_eq_none (by omega)]
      rfl
     | some q2=>
      obtain ⟨c,hc⟩:∃ c,chs[i]?=some c:=⟨_,List.getElem?_eq_getElem (by rw [←hql]; exact (List.getElem?_eq_some_iff.1 hqi).1)⟩
      obtain ⟨m1,m2,m3,m4,m5⟩:=hI.now i q2 c hqi hc
      rw [hc]
      simp only [Option.map_some]
      rw [m3.length_eq]
    have h3:(qs.map (fun q=>q.l.length)).sum=((qs.take j).map (fun q=>q.l.length)).sum+((qs.drop j).map (fun q=>q.l.length)).sum:=by
     rw [←List.sum_append,←List.map_append,List.take_append_drop]
    have h4:q.l.length≤((qs.drop j).map (fun q=>q.l.length)).sum:=by
     obtain ⟨hjl,hje⟩:=List.getElem?_eq_some_iff.1 hq
     rw [List.drop_eq_getElem_cons hjl,hje,List.map_cons,List.sum_cons]
     omega
    rw [List.length_append]
    omega
   have hok:SqsOk chs qs:=⟨hql,fun i q c hq hc=>by obtain ⟨m1,m2,m3,m4,m5⟩:=hI.now i q c hq hc; exact ⟨m1,m2,m3,m4⟩⟩
   have hput:∀ (A:World) (D:Nat),W.heap.size≤D→((∃ Z s,(((∃ qs,SqsOk chs qs∧AllS qs s)∧MvsOk n0 s A)∧MvsIn Z s)∧J Z s A)∨∃ Z s,(((∃ qs,SqsOk chs qs∧AllP qs s)∧MvsOk n0 s A)∧MvsIn Z s)∧Jx Z s A)→A.heap[D]?=some (.deferred (some []))→((∃ Z s,(((∃ qs,SqsOk chs qs∧AllS qs s)∧MvsOk n0 s (A.putObj D (.deferred none)))∧MvsIn Z s)∧J Z s (A.putObj D (.deferred none)))∨∃ Z s,(((∃ qs,SqsOk chs qs∧AllP qs s)∧MvsOk n0 s (A.putObj D (.deferred none)))∧MvsIn Z s)∧Jx Z s (A.putObj D (.deferred none))):=by
    intro A D hD hA hb
    rcases hA with ⟨Z,s,⟨⟨k1,k2⟩,k3⟩,k4⟩ | ⟨Z,s,⟨⟨k1,k2⟩,k3⟩,k4⟩
    ·exact .inl ⟨Z,s,⟨⟨k1,(MvsOk.own W.heap.size n0).putObj _ k2 hD hb rfl⟩,k3⟩,((unhide HJ).own Z).putObj _ k4 hD hb rfl⟩
    ·exact .inr ⟨Z,s,⟨⟨k1,(MvsOk.own W.heap.size n0).putObj _ k2 hD hb rfl⟩,k3⟩,((unhide HJX).own Z).putObj _ k4 hD hb rfl⟩
   have HPUT:=hide hput
   have HA0:=hide hA0
   have HROW:=hide hI.row
   have HYB:=hide hyb
   have HZAV:=hide hzav
   have HLIE:=hide hlie
   have HSUM:=hide hsum
   have HOK:=hide hok
   have HY:=hide hY
   have hn0:=hSt.from0
   clear hA0 hI hyb hzav hlie hsum hok hY hSt d0 d1 hql hput
   gi_wp2
   refine wpIn_loop (fun a' w'=>∃ (j:Nat) (s0:List Mv) (Ds:List Nat) (u7 u30 u31 u32 u33 u39:Value),j≤qs.length∧Hid (All2 n0 W.heap.size L Zc J qs wr j s0 Ds w')∧a'={ tmps:=#[Value.func (Fn.yield lp) #[] #[],.pointer (some ⟨bn,0,none⟩),.pointer (some ⟨W.heap.size,0,none⟩),.slice aa qs.length acap,undef,u5,undef,u7,undef,.pointer (some ⟨nb,0,none⟩),.pointer (some ⟨nb,0,none⟩),.pointer (some ⟨nb,0,none⟩),.slice ao bs.length cap,.int .i64 bs.length,.int .i64 qs.length,.bool false,u16,u17,u18,u19,u20,u21,u22,u23,u24,u25,u26,.slice aa qs.length acap,.int .i64 qs.length,.int .i64 j,u30,u31,u32,u33,undef,undef,undef,undef,undef,u39],defers:=Ds.map (fun D=>{ target:=.collected D,args:=#[] }) }) (fun a' _=>qs.length - (intOf (a'.tmps.getD 29 undef)).toNat) ?_ ?_
   ·exact ⟨0,[],[],undef,undef,undef,undef,undef,undef,Nat.zero_le _,HA0,rfl⟩
   ·clear HA0
    rintro a' w2 ⟨j,s0,Ds,u7,u30,u31,u32,u33,u39,hj,HA,rfl⟩
    by_cases hlt:j < qs.length
    ·have hd2:decide (j < qs.length)=true:=by simpa using hlt
     have hA:=unhide HA
     clear HA
     obtain ⟨q,hq⟩:∃ q,qs[j]?=some q:=⟨_,List.getElem?_eq_getElem hlt⟩
     obtain ⟨g,cp,hv,hcs⟩:=((unhide HROW).keptI hA.kept (unhide HZAV)).cells hq
     simp only [Value.slice.injEq,true_and] at hv
     obtain ⟨rfl,rfl⟩:=hv
     have q0:w2.cell? ⟨g,j,none⟩=some (.func (.func 116) #[] #[.pointer (some ⟨q.bt,0,none⟩),.pointer (some ⟨q.bl,0,none⟩)]):=by have:=hcs 0 (by omega); rw [Nat.mul_one,Nat.add_zero] at this; exact this
     have HAA:=hide hA
     clear hcs hA
     gi_wp2
     have hA:=unhide HAA
     obtain ⟨Z,hzc,hin,hJ0⟩:=hA.zs
     have hsw:=hA.kept.size
     obtain ⟨n1,n2,n3,n4,n5,n6,n7⟩:=unhide HLIE j q hq
     have hNq:=n1.keptI hA.kept (fun i hi=>zb i (hUz i hi)) n2 n3 n4 n5
     have hDl:∀ D∈Ds,D < w2.heap.size:=fun D hD=>row_lt (hA.marks D hD).2
     refine range_w rfl (by omega) (f:=116) (caught:=#[.pointer (some ⟨q.bt,0,none⟩),.pointer (some ⟨q.bl,0,none⟩)]) rfl trivial (enters_of Tryz.func116 (by kernel_rfl) rfl)
      (now1_prom _ Z L U q.bt q.bl q.g q.lb q.ru q.jn w2.heap.size q.l n6 n7 (fun i hi=>hzc i (zb i (hUz i hi))) (hzc _ n2) (hzc _ n3) (fun hne=>hzc _ (n4 hne)) n5) (fun _=>rfl)
      (fun B hB=>⟨hNq.keptI (Z:=fun _=>True) (L:=fun _=>True) (Kept.gr hB) (fun _ _=>trivial) trivial trivial (fun _=>trivial) trivial,hB.size⟩)
      (fun Z' s A B row h hg hr=>⟨⟨h.1.1,MvsOk.own _ _ s A B row h.1.2 hg hr⟩,h.2⟩) (fun Z' s A B row h hg hr=>⟨⟨h.1.1,MvsOk.own _ _ s A B row h.1.2 hg hr⟩,h.2⟩)
      (InI J Z L Ds s0 w2) (fun c Zi s W'=>c=.ret∧InI Jx Z L Ds s0 w2 Zi s W') (InI.bears (unhide HJ) (by omega) hDl) (fun c Zi Zi' s A B row h hg hr hm hz=>⟨h.1,InI.bears (unhide HJX) (by omega) hDl Zi Zi' s A B row h.2 hg hr hm hz⟩) Z (fun _ h=>h) ?h0
      (fun x b W'=>∃ Bx,W'.heap[Bx]?=some (.cells #[.int .i64 x.ru,.slice x.ao x.jn x.cap] 52 (0,0))∧b={ tmps:=#[Value.func (Fn.yield lp) #[] #[],.pointer (some ⟨bn,0,none⟩),.pointer (some ⟨W.heap.size,0,none⟩),.slice (some ⟨g,0,none⟩) qs.length acap,undef,u5,undef,.func (.func 116) #[] #[.pointer (some ⟨q.bt,0,none⟩),.pointer (some ⟨q.bl,0,none⟩)],.pointer (some ⟨Bx,0,none⟩),.pointer (some ⟨nb,0,none⟩),.pointer (some ⟨nb,0,none⟩),.pointer (some ⟨nb,0,none⟩),.slice ao bs.length cap,.int .i64 bs.length,.int .i64 qs.length,.bool false,u16,u17,u18,u19,u20,u21,u22,u23,u24,u25,u26,.slice (some ⟨g,0,none⟩) qs.length acap,.int .i64 qs.length,.int .i64 j,.bool true,.pointer (some ⟨g,j,none⟩),.func (.func 116) #[] #[.pointer (some ⟨q.bt,0,none⟩),.pointer (some ⟨q.bl,0,none⟩)],.func (.func 116) #[] #[.pointer (some ⟨q.bt,0,none⟩),.pointer (some ⟨q.bl,0,none⟩)],.agg #[.int .i64 x.ru,.slice x.ao x.jn x.cap],undef,undef,undef,undef,u39],defers:=[] }) ?hAx ?assign ?body ?done ?left
     case h0=>exact ⟨fun i hi=>hi,Kept.gr (World.grownBy.refl _ _),fun D hD=>(hA.marks D hD).2,by rw [List.append_nil]; exact hJ0⟩
     case hAx=>
      rintro x b _ A B row ⟨Bx,h1,h2⟩ hg hr
      refine ⟨Bx,?_,h2⟩
      rw [hg.block Bx (row_lt h1) (fun e=>?_)]
      ·exact h1
      ·obtain ⟨_,o,ho,hc⟩:=hr Bx e.symm
       rw [h1] at ho
       cases ho
       cases hc
     case assign=>
      rintro l Zi s x W' K hi hK
      have hga:=World.grownBy_alloc W' (.cells #[.int .i64 x.ru,.slice x.ao x.jn x.cap] 52) none
      have hk:=hK _ _ ((KeepsOthers.alloc W' (.cells #[.int .i64 x.ru,.slice x.ao x.jn x.cap] 52)).from _) (Kept.gr hga) (InI.bears (unhide HJ) (by omega) hDl Zi Zi s _ _ none hi hga (by simp) (fun i h=>h) (fun i h=>.inl h)) ⟨W'.heap.size,heap_alloc_new _ _,rfl⟩
      unfold mvenc
      clear hK hA HAA n1 hNq HLIE HSUM
      gi_wp2
      exact hk
     case body=>
      rintro l Zi s x b W' hl hr hI ⟨Bx,hBx,rfl⟩ hlen
      have hyb:=((hA.kept.trans (hI.2.1.mono hzc)).blks _ _ _ _ (zn W.heap.size (Nat.le_refl _) (row_lt (unhide HYB))) (unhide HYB))
      have y0:W'.cell? ⟨W.heap.size,0,none⟩=some (.func (.yield lp) #[] #[]):=by simp [World.cell?,hyb]
      have x0:W'.cell? ⟨Bx,0,none⟩=some (.int .i64 x.ru):=by simp [World.cell?,hBx]
      have x1:W'.cell? ⟨Bx,1,none⟩=some (.slice x.ao x.jn x.cap):=by simp [World.cell?,hBx]
      have hyield:=YieldAt.wide (m':=2) (unhide HY Zi (s0 ++ s) x W' hI.2.2.2 (unhide HSUM j q s0 s hq hA.map hlen))
      have hDm:∀ D∈Ds,W.heap.size≤D:=fun D hD=>(hA.marks D hD).1
      have hend:∀ B,KeepsFrom W.heap.size W' B→Kept Zi L W' B→(J Zi (s0 ++ s ++ [x]) B→KeepsFrom w2.heap.size W' B∧Kept Zi L W' B∧InI J Z L Ds s0 w2 Zi (s ++ [x]) B)∧(Jx Zi (s0 ++ s ++ [x]) B→KeepsFrom w2.heap.size W' B∧Kept Zi L W' B∧InI Jx Z L Ds s0 w2 Zi (s ++ [x]) B):=fun B h1 h2=>⟨fun h=>hI.step (by omega) hDm h1 h2 h,fun h=>hI.step (by omega) hDm h1 h2 h⟩
      unfold mvenc at hyield
      obtain ⟨fn,tmps,assign,body,hy,hR⟩:=hyield
      have HEND:=hide hend
      clear hend hA HAA n1 hNq HLIE HSUM hI hBx hyb HY hlen hr
      gi_wp2
      refine (show RoundIn (Fence.wide.inRound l) 2 Tryz.prog lp fn tmps assign body W' _ from hR).mono ?_
      rintro e B ⟨k1,k2,⟨rfl,h3⟩ | ⟨rfl,h3⟩⟩
      ·have HF:=hide ((unhide HEND B k1 k2).1 h3)
       clear k1 k2 h3 HEND hR hy
       gi_wp2
       exact unhide HF
      ·have HF:=hide ((unhide HEND B k1 k2).2 h3)
       clear k1 k2 h3 HEND hR hy
       gi_wp2
       obtain ⟨f1,f2,f3⟩:=unhide HF
       exact ⟨f1,f2,rfl,f3⟩
     case done=>
      rintro Zi s W' hS hI hD
      have hN:=hA.next hzc hin hq hI hS hD (by omega) (by omega)
      have HN:=hide hN
      clear hN hS hI hA HAA n1 hNq HLIE HSUM
      gi_wp2
      exact ⟨⟨j+1,s0 ++ s,w2.heap.size :: Ds,_,_,_,_,_,_,by omega,HN,rfl⟩,by simp [intOf]; omega⟩
     case left=>
      rintro c Zi s W' hS ⟨rfl,hI⟩ hD
      have hN:=hA.left hin hq hI hS (by omega)
      have hmk:∀ D∈w2.heap.size :: Ds,W.heap.size≤D∧W'.heap[D]?=some (.deferred (some [])):=by
       intro D hDD
       rcases List.mem_cons.1 hDD with rfl | hDD
       ·exact ⟨by omega,hD⟩
       ·exact ⟨(hA.marks D hDD).1,hI.2.2.1 D hDD⟩
      have hnd:(w2.heap.size :: Ds).Nodup:=List.nodup_cons.2 ⟨fun h=>by have:=hDl _ h; omega,hA.nodup⟩
      have HN:=hide hN
      have HMK:=hide hmk
      have HND:=hide hnd
      clear hN hS hI hA HAA n1 hNq HLIE HSUM hmk hnd
      gi_wp2
      obtain ⟨f1,f2,f3,f4⟩:=unhide HN
      exact leaves_marks (fun _=>results_none rfl _ _ _) (w2.heap.size :: Ds) W' (unhide HND) (fun D hD=>(unhide HMK D hD).2) ⟨⟨_,rfl⟩,.inr ⟨Zi,s0 ++ s,⟨⟨⟨qs,unhide HOK,f1⟩,f2⟩,f3⟩,f4⟩⟩ (fun A D hD h hb=>⟨h.1,unhide HPUT A D (unhide HMK D hD).1 h.2 hb⟩)
    ·have hd2:decide (j < qs.length)=false:=by simpa using hlt
     gi_wp2
     have hA:=unhide HA
     have hjq:j=qs.length:=by omega
     obtain ⟨Z,hzc,hin,hJ0⟩:=hA.zs
     refine leaves_marks (fun _=>results_none rfl _ _ _) Ds w2 hA.nodup (fun D hD=>(hA.marks D hD).2) ⟨⟨_,rfl⟩,.inl ⟨Z,s0,⟨⟨⟨qs,unhide HOK,?_⟩,hA.mv⟩,hin⟩,hJ0⟩⟩ (fun A D hD h hb=>⟨h.1,unhide HPUT A D (hA.marks D hD).1 h.2 hb⟩)
     unfold AllS
     rw [hA.map,hjq,List.take_of_length_le (Nat.le_refl _)]
end Go.Proofs.YtolhbeekfjnfmaaGreatDoor

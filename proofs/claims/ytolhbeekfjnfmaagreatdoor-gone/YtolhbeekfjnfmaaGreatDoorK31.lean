import Derived.Test.YtolhbeekfjnfmaaGreatDoorK30
import Derived.Test.YtolhbeekfjnfmaaGreatDoorK20
import Derived.Test.YtolhbeekfjnfmaaGreatDoorK06
namespace Go.Proofs.YtolhbeekfjnfmaaGreatDoor
open Go.RowKit
theorem nAll_w (nb:Nat) (w:World):Calls Tryz.prog 49 #[.pointer (some ⟨nb,0,none⟩)] w fun e w'=>e=.returned (.func (.func 76) #[] #[.pointer (some ⟨w.heap.size,0,none⟩)])∧w'=w.alloc (.cells #[.pointer (some ⟨nb,0,none⟩)] 84):=by
 go_enter Tryz.func49,Tryz.ntmps49
 go_wp2
 go_ret
 exact ⟨rfl,rfl⟩
theorem collect_w (f:Nat) (caught:Array Value) (w:World) (R:Ending→World→Prop) (h:Calls Tryz.prog 104 #[.slice none 0 0,.func (.func f) #[] caught] w fun e w'=>∃ v,e=.returned v∧R (.returned v) w'):Calls Tryz.prog 70 #[.func (.func f) #[] caught] w R:=by
 go_enter Tryz.func70,Tryz.ntmps70
 go_wp2_with (go_at_call 104; refine h.mono ?_; rintro e w1 ⟨v,rfl,hR⟩)
 exact hR
def ChsFew (chs:List Ch):Prop:=(∀ c∈chs,(∀ t∈c.e.toks,t.length=c.jn)∧c.jn≤4∧c.e.toks.length≤1000000)∧chs.length≤8
theorem sum_le (chs:List Ch) (h:∀ c∈chs,c.e.toks.length≤1000000):(chs.map (fun c=>c.e.toks.length)).sum≤chs.length * 1000000:=by
 induction chs with
 | nil=>simp
 | cons c chs ih=>
  have h1:=h c (List.mem_cons_self ..)
  have h2:=ih (fun d hd=>h d (List.mem_cons_of_mem _ hd))
  simp only [List.map_cons,List.sum_cons,List.length_cons]
  omega
theorem nMatches_w (U:Nat→Nat) (nb:Nat) (chs:List Ch) (w:World) (hN:NetAt U nb chs w) (hU:∀ i,w.heap.size≤i→U i=0) (hch:ChsFew chs) :
  Calls Tryz.prog 42 #[.pointer (some ⟨nb,0,none⟩)] w fun e w'=>∃ v s qs,e=.returned v∧w.grownBy w' none∧RowAt 52 2 mrow 0 v s w'∧MvsOk w.heap.size s w'∧SqsOk chs qs∧AllS qs s∧∀ g,v.ownBlock=some g→w.heap.size < g:=by
 have hga:=World.grownBy_alloc w (.cells #[.pointer (some ⟨nb,0,none⟩)] 84) none
 have hx0:=heap_alloc_new w (.cells #[.pointer (some ⟨nb,0,none⟩)] 84)
 have hlt:∀ i,U i≠0→i < w.heap.size:=fun i hi=>by
  rcases Nat.lt_or_ge i w.heap.size with h | h
  ·exact h
  ·exact absurd (hU i h) hi
 have hs1:(w.alloc (.cells #[.pointer (some ⟨nb,0,none⟩)] 84)).heap.size=w.heap.size+1:=by simp
 have hC:=collect_w 76 #[.pointer (some ⟨w.heap.size,0,none⟩)] (w.alloc (.cells #[.pointer (some ⟨nb,0,none⟩)] 84)) (fun e w'=>∃ v s qs,e=.returned v∧w.grownBy w' none∧RowAt 52 2 mrow 0 v s w'∧MvsOk w.heap.size s w'∧SqsOk chs qs∧AllS qs s∧∀ g,v.ownBlock=some g→w.heap.size < g) (by
  refine (appSeq_w 76 #[.pointer (some ⟨w.heap.size,0,none⟩)] (fun i=>i < w.heap.size+1) (fun i=>i < w.heap.size+1) (AllSt U nb w.heap.size w.heap.size w.heap.size chs) _ _ 1000000000 _ (Nat.le_refl _)
   (fun n=>all1_prom n (fun i=>i < w.heap.size+1) (fun i=>i < w.heap.size+1) U nb w.heap.size w.heap.size w.heap.size 1000000000 chs (fun i hi=>by have:=hlt i (by omega); show i < w.heap.size+1; omega) (fun j c i _ hi _=>by have:=hlt i (by omega); show i < w.heap.size+1; omega) (fun i hi=>hlt i hi) hch.1 (by have:=hch.2; omega) (by have:=sum_le chs (fun c hc=>(hch.1 c hc).2.2); have:=hch.2; have:chs.length * 1000000≤8 * 1000000:=Nat.mul_le_mul_right _ this; omega))
   (enters_of Tryz.func76 (by kernel_rfl) rfl) ?_ (fun Z s A B row h hg hr=>⟨⟨h.1.1,MvsOk.own _ _ s A B row h.1.2 hg hr⟩,h.2⟩) (fun Z s A B row h hg hr=>⟨⟨h.1.1,MvsOk.own _ _ s A B row h.1.2 hg hr⟩,h.2⟩) (fun i hi=>by rw [hs1]; exact hi) (fun i hi=>by rw [hs1]; exact hi)).mono ?_
  ·intro B hB
   have hg:=gr_trans hga hB
   refine ⟨hN.keep (GrS.of hg (by simp):GrS (fun _=>False) w B) (by simp) (fun _ _=>rfl),by rw [hB.block _ (row_lt hx0) (by simp)]; exact hx0,hg.size,hg.size⟩
  ·rintro e w' ⟨v,Z,s,rfl,⟨⟨⟨qs,h1,h2⟩,h3⟩,h4⟩,h5,h6,h7⟩
   refine ⟨v,rfl,v,s,qs,rfl,gr_trans hga h5,h6,h3,h1,h2,fun g hg=>?_⟩
   have:=h7 g hg
   rw [hs1] at this
   omega)
 clear hN hch
 go_enter Tryz.func42,Tryz.ntmps42
 go_wp2_with (first | (go_at_call 49; refine (nAll_w nb w).mono ?_; rintro e w1 ⟨rfl,rfl⟩) | (go_at_call 70; refine hC.mono ?_; rintro e w2 ⟨v,s,qs,rfl,hR⟩))
 go_ret
 exact ⟨v,s,qs,rfl,hR⟩
end Go.Proofs.YtolhbeekfjnfmaaGreatDoor
namespace Go.Proofs.YtolhbeekfjnfmaaGreatDoor
open Go.RowKit
structure VFt where
 kind:Int
 v:Value
 vals:List Int
def ftenc (f:VFt):List Value:=[.int .i64 f.kind,f.v]
theorem ftenc_len (f:VFt):(ftenc f).length=2:=rfl
theorem Tryz.infoFact:(Tryz.prog.info? 37).map (fun i=>(i.zero,i.size,i.bytes))=some (some (.agg #[.int .i64 0,.slice none 0 0]),2,32):=by kernel_rfl
structure Hand (T:Nat→Nat) (e:TypeId) (v:Value) (xs:List VFt) (w:World):Prop where
 row:TRow T 13 e 2 ftenc v xs w
 els:∀ i x,xs[i]?=some x→TRow T (13+3 * (i+1)) 3 1 ienc x.v x.vals w∧x.vals.length≤1000000
end Go.Proofs.YtolhbeekfjnfmaaGreatDoor
namespace Go.Proofs.YtolhbeekfjnfmaaGreatDoor
open Go.RowKit
structure FactsI (T T':Nat→Nat) (F:List Ft) (a l:Value) (xs:List VFt) (j:Nat) (w w':World):Prop where
 gr:w.grownBy w' none
 old:∀ i,i < w.heap.size→T' i=T i
 row:TRow T' 13 37 2 ftenc l xs w'
 els:∀ i y,xs[i]?=some y→TRow T' (13+3 * (i+1)) 3 1 ienc y.v y.vals w'∧y.vals.length≤1000000
 ids:TRow T' (13+3 * (F.length+1)) 3 1 ienc a ((F.take j).map (fun g=>g.id)) w'
 same:xs.map (fun y=>(⟨y.kind,y.vals⟩:Sv.Fact))=(F.take j).map (fun g=>g.f)
 ao:∀ g,a.ownBlock=some g→w.heap.size≤g
 lo:∀ g,l.ownBlock=some g→w.heap.size≤g
theorem FactsI.len {T T':Nat→Nat} {F:List Ft} {a l:Value} {xs:List VFt} {j:Nat} {w w':World} (h:FactsI T T' F a l xs j w w') (hj:j≤F.length):xs.length=j:=by
 have:=congrArg List.length h.same
 rw [List.length_map,List.length_map,List.length_take,Nat.min_eq_left hj] at this
 exact this
theorem factsStep {T T':Nat→Nat} {F:List Ft} {a l v5 v2 v7:Value} {xs:List VFt} {j n m n' m':Nat} {g:Ft} {w wr w4 w5 w6 w6b w7:World} (h:FactsI T T' F a l xs j w wr) (hg:F[j]?=some g) (h4:g.f.vals.length≤4)
  (hg4:wr.grownBy w4 none) (hl5:Longer a v5 n m w4 w5) (hv5:RowAt 3 1 ienc 0 v5 ((F.take j).map (fun g=>g.id) ++ [g.id]) w5) (hg6:w5.grownBy w6 none) (hv2:IsAt w5.heap.size v2 g.f.vals w6) (hg6b:w6.grownBy w6b none) (hl7:Longer l v7 n' m' w6b w7) (hv7:RowAt 37 2 ftenc 0 v7 (xs ++ [⟨g.f.kind,v2,g.f.vals⟩]) w7) :
  ∃ T7,FactsI T T7 F v5 v7 (xs ++ [⟨g.f.kind,v2,g.f.vals⟩]) (j+1) w w7:=by
 have hj:j < F.length:=(List.getElem?_eq_some_iff.1 hg).1
 have hxl:=h.len (Nat.le_of_lt hj)
 have hs4:=hg4.size
 have hG5:GrS (fun i=>a.ownBlock=some i) wr w5:=(GrS.of hg4 (by simp):GrS (fun i=>a.ownBlock=some i) wr w4).trans (hl5.gr (fun g hg=>hg))
 have hs5:=hG5.size
 have hs6:=hg6.size
 have hs6b:=hg6b.size
 have hG7:GrS (fun i=>l.ownBlock=some i) w5 w7:=((GrS.of hg6 (by simp):GrS (fun i=>l.ownBlock=some i) w5 w6).then hg6b (by simp)).trans (hl7.gr (fun g hg=>hg))
 have hal:∀ i,a.ownBlock=some i→i < wr.heap.size∧T' i=13+3 * (F.length+1):=fun i hi=>⟨(h.ids.1.own i hi).2,h.ids.2 i hi⟩
 have hll:∀ i,l.ownBlock=some i→i < wr.heap.size∧T' i=13:=fun i hi=>⟨(h.row.1.own i hi).2,h.row.2 i hi⟩
 obtain ⟨T7,hT7⟩:∃ T7:Nat→Nat,T7=fun i=>if i < wr.heap.size then T' i else if i < w5.heap.size then 13+3 * (F.length+1) else if i < w6.heap.size then 13+3 * (j+1) else 13:=⟨_,rfl⟩
 have t0:∀ i,i < wr.heap.size→T7 i=T' i:=fun i hi=>by rw [hT7]; dsimp only; rw [if_pos hi]
 have t1:∀ i,wr.heap.size≤i→i < w5.heap.size→T7 i=13+3 * (F.length+1):=fun i hi h5=>by rw [hT7]; dsimp only; rw [if_neg (by omega),if_pos h5]
 have t2:∀ i,w5.heap.size≤i→i < w6.heap.size→T7 i=13+3 * (j+1):=fun i hi h6=>by rw [hT7]; dsimp only; rw [if_neg (by omega),if_neg (by omega),if_pos h6]
 have t3:∀ i,w6.heap.size≤i→T7 i=13:=fun i hi=>by rw [hT7]; dsimp only; rw [if_neg (by omega),if_neg (by omega),if_neg (by omega)]
 clear hT7
 have hws:=h.gr.size
 refine ⟨T7,?_,fun i hi=>by rw [t0 i (by omega)]; exact h.old i hi,⟨hv7,fun i hi=>?_⟩,fun i y hy=>?_,⟨?_,fun i hi=>?_⟩,?_,fun i hi=>?_,fun i hi=>?_⟩
 ·refine GrS.grown (S:=fun i=>w.heap.size≤i) ?_ (fun i hi h=>by omega)
  refine ((GrS.of h.gr (by simp):GrS (fun i=>w.heap.size≤i) w wr).comp hG5 (fun i hi hn hx=>hn (h.ao i hx))).comp hG7 (fun i hi hn hx=>hn (h.lo i hx))
 ·rcases hl7.own i hi with e | e
  ·rw [t0 i (hll i e).1]; exact (hll i e).2
  ·exact t3 i (by omega)
 ·by_cases hi:i < xs.length
  ·rw [List.getElem?_append_left hi] at hy
   obtain ⟨k1,k2⟩:=h.els i y hy
   refine ⟨(k1.keep2 (T':=T7) hG5 (fun b hb e=>?_) (fun b hb e=>by rw [t0 b hb]; exact e)).keep2 (T':=T7) hG7 (fun b hb e=>?_) (fun _ _ e=>e),k2⟩
   ·have:=(hal b e).2; omega
   ·have h1:=hll b e
    rw [t0 b h1.1] at hb
    omega
  ·have hie:i=xs.length:=by have:=(List.getElem?_eq_some_iff.1 hy).1; simp at this; omega
   subst hie
   simp only [List.getElem?_concat_length,Option.some.injEq] at hy
   subst hy
   refine ⟨⟨?_,fun b hb=>?_⟩,by show g.f.vals.length≤_; omega⟩
   ·have hG67:GrS (fun i=>l.ownBlock=some i) w6 w7:=(GrS.of hg6b (by simp):GrS (fun i=>l.ownBlock=some i) w6 w6b).trans (hl7.gr (fun g hg=>hg))
    exact (hG67.row hv2 (fun b hb e=>by have:=(hv2.own b hb).1; have:=(hll b e).1; omega)).weak (Nat.zero_le _)
   ·have:=hv2.own b hb
    rw [t2 b this.1 this.2,hxl]
 ·have e:(F.take (j+1)).map (fun g=>g.id)=(F.take j).map (fun g=>g.id) ++ [g.id]:=by rw [List.take_add_one,hg,List.map_append]; rfl
  rw [e]
  refine hG7.row hv5 (fun b hb e=>?_)
  have h1:=hll b e
  rcases hl5.own b hb with e2 | e2
  ·have:=(hal b e2).2; omega
  ·omega
 ·rcases hl5.own i hi with e | e
  ·rw [t0 i (hal i e).1]; exact (hal i e).2
  ·exact t1 i (by omega) (hv5.own i hi).2
 ·rw [List.map_append,h.same,List.take_add_one,hg,List.map_append]; rfl
 ·rcases hl5.own i hi with e | e
  ·exact h.ao i e
  ·omega
 ·rcases hl7.own i hi with e | e
  ·exact h.lo i e
  ·omega
set_option maxRecDepth 100000 in
set_option maxHeartbeats 4000000 in
theorem xFacts_w (T U:Nat→Nat) (x nb:Nat) (fv:Value) (F:List Ft) (cnt:Int) (chs:List Ch) (w:World) (h:XAt U x nb fv F cnt chs w) (hF:F.length≤16) :
  Calls Tryz.prog 24 #[.pointer (some ⟨x,0,none⟩)] w fun e w'=>∃ T' a l xs,e=.returned (.tuple #[a,l])∧FactsI T T' F a l xs F.length w w':=by
 obtain ⟨fo,fcap,hfv⟩:=h.facts.1.slice
 have c1:w.cell? ⟨x,1,none⟩=some (.slice fo F.length fcap):=by simp [World.cell?,h.blk,hfv]
 have hI0:∃ T' xs,FactsI T T' F (.slice none 0 0) (.slice none 0 0) xs 0 w w:=⟨T,[],World.grownBy.refl _ _,fun _ _=>rfl,⟨RowAt.nil 0 _ ftenc_len,by simp [Value.ownBlock]⟩,by simp,⟨by simpa using RowAt.nil 0 w ienc_len,by simp [Value.ownBlock]⟩,rfl,by simp [Value.ownBlock],by simp [Value.ownBlock]⟩
 have HI0:=hide hI0
 have HFV:=hide hfv
 have H:=hide h
 clear h hI0 hfv
 go_enter Tryz.func24,Tryz.ntmps24
 go_wp2
 clear c1
 go_loopw [4,5,13] (fun a l z w'=>∃ j:Nat,j≤F.length∧z=.int .i64 j∧Hid (∃ T' xs,FactsI T T' F a l xs j w w')) (fun _ _ z _=>F.length - (intOf z).toNat)
 case atStart=>exact ⟨0,Nat.zero_le _,rfl,HI0⟩
 case round=>
  clear HI0
  obtain ⟨j,hj,rfl,HK⟩:=hrel
  by_cases hlt:j < F.length
  ·have hd:decide (j < F.length)=true:=by simpa using hlt
   obtain ⟨T',xs,hI⟩:=unhide HK
   clear HK
   obtain ⟨g,hg⟩:∃ g,F[j]?=some g:=⟨_,List.getElem?_eq_getElem hlt⟩
   have hxl:=hI.len hj
   have hh:=unhide H
   obtain ⟨gf,cap',e1,q0⟩:=FsAt.cell (hh.facts.1.gr hI.gr) hg
   rw [unhide HFV] at e1
   simp only [Value.slice.injEq,true_and] at e1
   obtain ⟨rfl,rfl⟩:=e1
   have hft:=hh.fts g (List.mem_of_getElem? hg)
   obtain ⟨_,h4,v,hb,hvr⟩:=hft.gr hI.gr
   obtain ⟨va,vcap,hvv⟩:=hvr.1.slice
   subst hvv
   have k2:wr.cell? ⟨g.blk,2,none⟩=some (.int .i64 g.id):=by simp [World.cell?,hb]
   obtain ⟨ia,icap,hia⟩:=hI.ids.1.slice
   have hil:((F.take j).map (fun g=>g.id)).length=j:=by rw [List.length_map,List.length_take,Nat.min_eq_left hj]
   rw [hil] at hia
   subst hia
   obtain ⟨la,lcap,hla⟩:=hI.row.1.slice
   rw [hxl] at hla
   subst hla
   have hgL:=World.grownBy_alloc wr (.cells #[.int .i64 g.id] 3) none
   have hr5:=hI.ids.1.gr hgL
   have hs5:RowAt 3 1 ienc 0 (.slice (some ⟨wr.heap.size,0,none⟩) 1 1) [g.id] (wr.alloc (.cells #[.int .i64 g.id] 3)):=(RowAt.lit1 (e:=3) ienc_len wr g.id #[.int .i64 g.id] rfl).weak (Nat.zero_le _)
   have hkey5:∀ v5 w5 n m,Longer (.slice ia j icap) v5 n m (wr.alloc (.cells #[.int .i64 g.id] 3)) w5→(w5.cell? ⟨g.blk,0,none⟩=some (.int .i64 g.f.kind)∧w5.cell? ⟨g.blk,1,none⟩=some (.slice va g.f.vals.length vcap))∧
     Calls Tryz.prog 40 #[.agg #[.int .i64 g.f.kind,.slice va g.f.vals.length vcap]] w5 fun e w6=>∃ ao cap,e=.returned (.agg #[.int .i64 g.f.kind,.slice ao g.f.vals.length cap])∧w5.grownBy w6 none∧IsAt w5.heap.size (.slice ao g.f.vals.length cap) g.f.vals w6∧RowAt 37 2 ftenc 0 (.slice la j lcap) xs w6:=by
    intro v5 w5 n m hl5
    have hG5:GrS (fun i=>(Value.slice ia j icap).ownBlock=some i) wr w5:=(GrS.of hgL (by simp):GrS (fun i=>(Value.slice ia j icap).ownBlock=some i) wr _).trans (hl5.gr (fun g hg=>hg))
    have hgw:w.grownBy w5 none:=GrS.grown (S:=fun i=>w.heap.size≤i) ((GrS.of hI.gr (by simp):GrS (fun i=>w.heap.size≤i) w wr).comp hG5 (fun i hi hn hx=>hn (hI.ao i hx))) (fun i hi h=>by omega)
    obtain ⟨_,_,v',hb',hvr'⟩:=hft.gr hgw
    have hb2:w5.heap[g.blk]?=some (.cells #[.int .i64 g.f.kind,.slice va g.f.vals.length vcap,.int .i64 g.id] 93 (0,0)):=by
     refine hG5.blk hb (fun e=>?_)
     have h1:=hI.ao _ e
     have h2:=row_lt (w:=w) hft.2.2.choose_spec.1
     omega
    have hvv:v'=.slice va g.f.vals.length vcap:=by
     rw [hb2] at hb'
     simp only [Option.some.injEq,Obj.cells.injEq,and_true] at hb'
     have:=congrArg (fun a:Array Value=>a[1]?) hb'
     simpa using this.symm
    subst hvv
    refine ⟨⟨by simp [World.cell?,hb2],by simp [World.cell?,hb2]⟩,?_⟩
    refine (copyOf_w g.f va vcap w5 hvr'.1.inAt h4).mono ?_
    rintro e w6 ⟨ao,cap,rfl,hg6,hv2⟩
    refine ⟨ao,cap,rfl,hg6,hv2,(hG5.row hI.row.1 (fun b hb e=>?_)).gr hg6⟩
    have h1:=hI.ids.2 b e
    have h2:=hI.row.2 b hb
    omega
   have hend:∀ v5 w5 w6 ao cap v7 w7 n m n' m',RowAt 3 1 ienc 0 v5 ((F.take j).map (fun g=>g.id) ++ [g.id]) w5→Longer (.slice ia j icap) v5 n m (wr.alloc (.cells #[.int .i64 g.id] 3)) w5→w5.grownBy w6 none→IsAt w5.heap.size (.slice ao g.f.vals.length cap) g.f.vals w6→RowAt 37 2 ftenc 0 v7 (xs ++ [⟨g.f.kind,.slice ao g.f.vals.length cap,g.f.vals⟩]) w7→Longer (.slice la j lcap) v7 n' m' (w6.alloc (.cells #[.int .i64 g.f.kind,.slice ao g.f.vals.length cap] 37)) w7→∃ T' xs,FactsI T T' F v5 v7 xs (j+1) w w7:=by
    intro v5 w5 w6 ao cap v7 w7 n m n' m' e1 e2 e3 e4 e5 e6
    obtain ⟨T7,h7⟩:=factsStep hI hg h4 hgL e2 e1 e3 e4 (World.grownBy_alloc w6 _ none) e6 e5
    exact ⟨T7,_,h7⟩
   have HKEY5:=hide hkey5
   have HEND:=hide hend
   have HXL:=hide hxl
   have HIL:=hide hil
   clear hkey5 hend hI hh hft hb hvr hxl hil hgL
   go_wp2_with (at_builtin; refine app_two rfl _ _ 35 rfl Tryz.underlying35 Tryz.infoInt rfl (by decide) rfl hr5 rfl hs5 (by simp) (fun y _=>ienc_one y) (by rw [unhide HIL]; unfold maxLen; simp; omega) (by rw [unhide HIL]; simp; omega) ?_)
   intro v5 w5 hv5 hl5
   obtain ⟨⟨y0,y1⟩,hC⟩:=unhide HKEY5 v5 w5 _ _ hl5
   obtain ⟨g5,cap5,hv⟩:=hl5.form
   subst hv
   rw [←List.map_take] at hv5
   have HV5:=hide hv5
   have HL5:=hide hl5
   clear hr5 hs5 HKEY5 hv5 hl5
   go_wp2_with (first
    | (go_at_call 40; refine hC.mono ?_; rintro e w6 ⟨ao2,cap2,rfl,hg6,hv2,hr6⟩; have hr7:=hr6.gr (World.grownBy_alloc w6 (.cells #[.int .i64 g.f.kind,.slice ao2 g.f.vals.length cap2] 37) none); have hs7:RowAt 37 2 ftenc 0 (.slice (some ⟨w6.heap.size,0,none⟩) 1 1) [(⟨g.f.kind,.slice ao2 g.f.vals.length cap2,g.f.vals⟩:VFt)] (w6.alloc (.cells #[.int .i64 g.f.kind,.slice ao2 g.f.vals.length cap2] 37)):=((RowAt.lit1 (e:=37) ftenc_len w6 (⟨g.f.kind,.slice ao2 g.f.vals.length cap2,g.f.vals⟩:VFt) #[.int .i64 g.f.kind,.slice ao2 g.f.vals.length cap2] rfl).weak (Nat.zero_le _)))
    | (at_builtin; refine app_two rfl _ _ 47 rfl Tryz.underlying47 Tryz.infoFact rfl (by decide) rfl hr7 rfl hs7 (by simp) (fun y hy=>by simp only [List.mem_singleton] at hy; subst hy; intro c hc; simp [ftenc] at hc; rcases hc with rfl | rfl<;>rfl) (by rw [unhide HXL]; unfold maxLen; simp; omega) (by rw [unhide HXL]; simp; omega) ?_))
   intro v7 w7 hv7 hl7
   have HN:=hide (unhide HEND _ _ _ _ _ _ _ _ _ _ _ (unhide HV5) (unhide HL5) hg6 hv2 hv7 hl7)
   obtain ⟨g7,cap7,rfl⟩:=hl7.form
   clear HV5 HL5 hg6 hv2 hv7 hl7 hr7 hs7 hr6 HEND hC y0 y1 q0 k2
   go_wp2
   go_roundw
   case rel=>exact ⟨j+1,by omega,by go_num,HN⟩
   case measure=>simp [intOf]; omega
  ·have hd:decide (j < F.length)=false:=by simpa using hlt
   obtain ⟨T',xs,hI⟩:=unhide HK
   have hjn:j=F.length:=by omega
   subst hjn
   have HI:=hide hI
   clear HK hI
   go_wp2
   go_ret2
   exact ⟨T',_,_,xs,rfl,unhide HI⟩
end Go.Proofs.YtolhbeekfjnfmaaGreatDoor

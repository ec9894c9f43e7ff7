import Derived.Deep.DrawnRows
import Derived.Test.YtolhbeekfjnfmaaGreatDoorK15
namespace Go.Proofs.YtolhbeekfjnfmaaGreatDoor
open Go.RowKit
attribute [local go_sem ↓] Go.wp_at_zero Go.wp_at_succ
structure NewI (U Ux:Nat→Nat) (nb:Nat) (cv:Value) (bs:List Nat) (chs:List Ch) (w w':World):Prop where
 blk:w'.heap[nb]?=some (.cells #[cv] 133 (0,0))
 unb:Ux nb=0
 row:TRow Ux 0 134 1 penc cv bs w'
 ne:cv.ownBlock≠some nb
 own:∀ g,cv.ownBlock=some g→w.heap.size≤g
 cha:ChsAt Ux 0 0 chs bs w'
 gr:w.grownBy w' none
 old:∀ i,i < w.heap.size→Ux i=U i
 new:∀ i,w.heap.size≤i→i < w'.heap.size→Ux i < 2∨4≤Ux i∧Ux i < 4+3 * nextQ 0 chs
theorem newEnd {U Ux:Nat→Nat} {nb b n m:Nat} {cv v':Value} {bs:List Nat} {chs:List Ch} {cs:List Sv.Cond} {w wr wx w3 w4 w5:World} (h:NewI U Ux nb cv bs chs w wr) (hnb:w.heap.size≤nb) (hx:wr.grownBy wx none) (hC:ChainNew (newU Ux wr 0) chs.length (nextQ 0 chs) b cs wx w3)
  (h4:w3.grownBy w4 none) (hr:RowAt 134 1 penc 0 v' (bs ++ [b]) w5) (hl:Longer cv v' n m w4 w5):∃ U',NewI U U' nb v' (bs ++ [b]) (chs ++ [newCh cs]) w (w5.setCell ⟨nb,0,none⟩ v'):=by
 obtain ⟨U3,k1,k2,k3,k4⟩:=hC
 have hsx:=hx.size
 have hs3:=k2.size
 have hs4:=h4.size
 have hnr:=row_lt h.blk
 have ho3:∀ i,i < wr.heap.size→U3 i=Ux i:=fun i hi=>by rw [k3 i (by omega),newU_old hi]
 have hset:=gr_set w5 nb 0 v'
 have hown:∀ g,v'.ownBlock=some g→cv.ownBlock=some g∨w4.heap.size≤g:=hl.own
 have hcl:∀ g,cv.ownBlock=some g→g < wr.heap.size:=fun g hg=>(h.row.1.own g hg).2
 have hG5:GrS (fun i=>i=nb∨cv.ownBlock=some i) w3 w5:=(GrS.of h4 (by simp):GrS (fun i=>i=nb∨cv.ownBlock=some i) w3 w4).trans (hl.gr (fun g hg=>.inr hg))
 have hG:GrS (fun i=>i=nb∨cv.ownBlock=some i) w3 (w5.setCell ⟨nb,0,none⟩ v'):=hG5.then hset (fun g hg=>by simp at hg; exact .inr (.inl hg.symm))
 have hS:∀ i,i=nb∨cv.ownBlock=some i→U3 i=0:=by
  rintro i (rfl | hi)
  ·rw [ho3 _ hnr]; exact h.unb
  ·rw [ho3 i (hcl i hi)]; exact h.row.2 i hi
 have hne:v'.ownBlock≠some nb:=fun hx'=>by
  rcases hown nb hx' with h' | h'
  ·exact h.ne h'
  ·omega
 have hb3:w3.heap[nb]?=some (.cells #[cv] 133 (0,0)):=by rw [k2.block nb (by omega) (by simp),hx.block nb hnr (by simp)]; exact h.blk
 have hb5:w5.heap[nb]?=some (.cells #[cv] 133 (0,0)):=hl.block (by rw [h4.block nb (row_lt hb3) (by simp)]; exact hb3) h.ne
 have hq:nextQ 0 (chs ++ [newCh cs])=nextQ 0 chs+cs.length+1:=by rw [nextQ_app]; show nextQ 0 chs+(newCh cs).ns.length+1=_; rw [newCh_len]
 have hgr3:w.grownBy w3 none:=gr_trans h.gr (gr_trans hx k2)
 have o5:∀ i,i < w3.heap.size→newU U3 w3 0 i=U3 i:=fun i hi=>newU_old hi
 refine ⟨newU U3 w3 0,?_,by rw [o5 nb (by omega)]; exact hS nb (.inl rfl),⟨?_,?_⟩,hne,?_,?_,?_,?_,?_⟩
 ·rw [heap_setCell_same w5 nb 0 _ _ _ hb5]; rfl
 ·exact hr.other hset (fun g hg e=>hne (by rw [hg]; simp only [Option.some.injEq] at e; rw [e]))
 ·intro g hg
  rcases hown g hg with h' | h'
  ·rw [o5 g (by have:=hcl g h'; omega)]; exact hS g (.inr h')
  ·exact newU_new (by omega)
 ·intro g hg
  rcases hown g hg with h' | h'
  ·exact h.own g h'
  ·have:=h.gr.size; omega
 ·refine ChsAt.snoc ?_ ?_
  ·refine ChsAt.keep hG o5 (ChsAt.keep (GrS.of (gr_trans hx k2) (by simp):GrS (fun _=>False) wr w3) ho3 h.cha (by simp)) (fun i hi hs=>?_)
   have:=hS i hs
   omega
  ·rw [Nat.zero_add]
   refine k1.keep hG (fun i hi hs=>?_) o5
   have:=hS i hs
   unfold Codes at hi
   omega
 ·refine GrS.grown (S:=fun i=>w.heap.size≤i) ?_ (fun i hi h=>by omega)
  refine (GrS.of hgr3 (by simp):GrS (fun i=>w.heap.size≤i) w w3).comp hG (fun i hi hn hs=>hn ?_)
  rcases hs with rfl | hs
  ·exact hnb
  ·exact h.own i hs
 ·intro i hi
  have:=h.gr.size
  rw [o5 i (by omega),ho3 i (by omega),h.old i hi]
 ·intro i hi hlt
  rw [hq]
  by_cases h3:i < w3.heap.size
  ·rw [o5 i h3]
   by_cases hr':i < wr.heap.size
   ·rw [ho3 i hr']; have:=h.new i hi hr'; omega
   ·by_cases hx':i < wx.heap.size
    ·rw [k3 i hx',newU_new (by omega)]; omega
    ·have:=k4 i (by omega) h3; omega
  ·rw [newU_new (by omega)]; omega
def NewChainOK:Prop:=∀ (U:Nat→Nat) (ru q:Nat) (nm:ByteArray) (cv:Value) (cs:List Sv.Cond) (w:World),(∀ i,i < w.heap.size→U i < 2∨4≤U i∧U i < 4+3 * q)→CsIn U cv cs w→(∀ c∈cs,c.terms.length≤4)→cs.length≤4→
  Calls Tryz.prog 68 #[.int .i64 ru,.agg #[.string nm,cv]] w fun e w'=>∃ b,e=.returned (.pointer (some ⟨b,0,none⟩))∧w.heap.size≤b∧ChainNew U ru q b cs w w'
theorem cell_at_new0 {w:World} {b t:Nat} {x y:Value} (h:w.heap[b]?=some (.cells #[x,y] t (0,0))):w.cell? ⟨b,0,none⟩=some x:=by simp [World.cell?,h]
theorem cell_at_new1 {w:World} {b t:Nat} {x y:Value} (h:w.heap[b]?=some (.cells #[x,y] t (0,0))):w.cell? ⟨b,1,none⟩=some y:=by simp [World.cell?,h]
theorem Tryz.infopChain:(Tryz.prog.info? 134).map (fun i=>(i.zero,i.size,i.bytes))=some (some (.pointer none),1,8):=by kernel_rfl
theorem rsIn_get {U:Nat→Nat} {lv:Value} {rs:List Sv.Rule} {w:World} (h:RsIn U lv rs w) {j:Nat} {r:Sv.Rule} (hj:rs[j]?=some r):∃ g cap u,lv=.slice (some ⟨g,0,none⟩) rs.length cap∧w.cell? ⟨g,j * 2,none⟩=some (.string ⟨r.name.toArray⟩)∧w.cell? ⟨g,j * 2+1,none⟩=some u∧CsIn U u r.conds w:=by
 obtain ⟨ao,cap,h1,h2⟩:=h.ex
 obtain ⟨g,rfl,k2,k3,k4⟩:=h2 (by rintro rfl; simp at hj)
 obtain ⟨u,m1,m2,m3⟩:=k4 j r hj
 exact ⟨g,cap,u,h1,m1,m2,m3⟩
theorem newDone {U Ux:Nat→Nat} {nb:Nat} {cv:Value} {bs:List Nat} {chs:List Ch} {w w':World} (h:NewI U Ux nb cv bs chs w w') (hnb:w.heap.size≤nb) :
  ∃ U',NetAt U' nb chs w'∧w.grownBy w' none∧(∀ i,i < w.heap.size→U' i=U i)∧∀ i,w.heap.size≤i→U' i=1∨4≤U' i:=by
 obtain ⟨U',hU'⟩:∃ U':Nat→Nat,U'=fun i=>if i < w.heap.size then U i else if Ux i < 4 then 1 else Ux i:=⟨_,rfl⟩
 have ho:∀ i,i < w.heap.size→U' i=U i:=fun i hi=>by rw [hU']; dsimp only; rw [if_pos hi]
 have hn:∀ i,w.heap.size≤i→U' i=if Ux i < 4 then 1 else Ux i:=fun i hi=>by rw [hU']; dsimp only; rw [if_neg (by omega)]
 clear hU'
 refine ⟨U',⟨cv,bs,h.blk,by rw [hn nb hnb,h.unb]; rfl,⟨h.row.1,fun g hg=>?_⟩,h.cha.reg ⟨fun i hi=>?_,fun i h1 h2=>?_,fun i=>?_⟩⟩,h.gr,ho,fun i hi=>by rw [hn i hi]; split<;>omega⟩
 ·rw [hn g (h.own g hg),h.row.2 g hg]; rfl
 ·by_cases hw:i < w.heap.size
  ·rw [ho i hw,←h.old i hw]; exact hi
  ·rw [hn i (by omega)]; split<;>omega
 ·by_cases hw:i < w.heap.size
  ·rw [ho i hw,←h.old i hw]
  ·rw [hn i (by omega),if_neg (by omega)]
 ·by_cases hw:i < w.heap.size
  ·rw [ho i hw,←h.old i hw]; exact .inl rfl
  ·rw [hn i (by omega)]
   split
   ·exact .inr rfl
   ·exact .inl rfl
set_option maxRecDepth 100000 in
set_option maxHeartbeats 4000000 in
theorem nNew_w (hNC:NewChainOK) (U:Nat→Nat) (lv:Value) (rs:List Sv.Rule) (w:World) (hU:∀ i,i < w.heap.size→U i < 2) (hR:RsIn U lv rs w) (hsh:∀ r∈rs,r.conds.length≤4∧∀ c∈r.conds,c.terms.length≤4) (hl:rs.length≤1000) :
  Calls Tryz.prog 38 #[lv] w fun e w'=>∃ b U',e=.returned (.pointer (some ⟨b,0,none⟩))∧w.heap.size≤b∧NetAt U' b (rs.map (fun r=>newCh r.conds)) w'∧w.grownBy w' none∧(∀ i,i < w.heap.size→U' i=U i)∧∀ i,w.heap.size≤i→U' i=1∨4≤U' i:=by
 obtain ⟨ao,cap,hlv,_⟩:=hR.ex
 have HLV:=hide hlv
 have hg0:=World.grownBy_alloc w (.cells #[.slice none 0 0] 133) none
 have hI0:∃ Ux cv bs,NewI U Ux w.heap.size cv bs ((rs.take 0).map (fun r=>newCh r.conds)) w (w.alloc (.cells #[.slice none 0 0] 133)):=by
  refine ⟨newU U w 0,.slice none 0 0,[],heap_alloc_new _ _,newU_new (Nat.le_refl _),⟨RowAt.nil 0 _ penc_len,by simp [Value.ownBlock]⟩,by simp [Value.ownBlock],by simp [Value.ownBlock],trivial,hg0,fun i hi=>newU_old hi,fun i hi _=>by rw [newU_new hi]; omega⟩
 have HI0:=hide hI0
 have HU:=hide hU
 have HR:=hide hR
 have HSH:=hide hsh
 clear hI0 hU hR hsh hg0
 subst hlv
 go_enter Tryz.func38,Tryz.ntmps38
 go_wp2
 go_loopw [10] (fun x w'=>∃ j:Nat,j≤rs.length∧x=.int .i64 j∧Hid (∃ Ux cv bs,NewI U Ux w.heap.size cv bs ((rs.take j).map (fun r=>newCh r.conds)) w w')) (fun x _=>rs.length - (intOf x).toNat)
 case atStart=>exact ⟨0,Nat.zero_le _,rfl,HI0⟩
 case round=>
  clear HI0
  obtain ⟨j,hj,rfl,HK⟩:=hrel
  by_cases hlt:j < rs.length
  ·have hd:decide (j < rs.length)=true:=by simpa using hlt
   obtain ⟨r,hr⟩:∃ r,rs[j]?=some r:=⟨_,List.getElem?_eq_getElem hlt⟩
   obtain ⟨Ux,cv,bs,hI⟩:=unhide HK
   clear HK
   obtain ⟨g,cap',u,e1,c0,c1,hCs⟩:=rsIn_get (unhide HR) hr
   simp only [Value.slice.injEq,true_and] at e1
   obtain ⟨rfl,rfl⟩:=e1
   obtain ⟨uo,ucap,hu,_⟩:=hCs.ex
   obtain ⟨cn,hcn⟩:∃ cn,r.conds.length=cn:=⟨_,rfl⟩
   rw [hcn] at hu
   subst hu
   obtain ⟨nm,hnm⟩:∃ nm:ByteArray,nm=⟨r.name.toArray⟩:=⟨_,rfl⟩
   rw [←hnm] at c0
   clear hnm
   have d0:=hI.gr.cell c0 (by simp)
   have d1:=hI.gr.cell c1 (by simp)
   have hbl:bs.length=j:=by rw [hI.cha.len,List.length_map,List.length_take,Nat.min_eq_left hj]
   have hcl:((rs.take j).map (fun r=>newCh r.conds)).length=j:=by rw [List.length_map,List.length_take,Nat.min_eq_left hj]
   obtain ⟨cao,ccap,hcv⟩:=hI.row.1.slice
   rw [hbl] at hcv
   subst hcv
   have y0:wr.cell? ⟨w.heap.size,0,none⟩=some (.slice cao j ccap):=by simp [World.cell?,hI.blk]
   have yf:wr.frozen? ⟨w.heap.size,0,none⟩=false:=by simp [World.frozen?,hI.blk]
   have hga:=World.grownBy_alloc wr (.cells #[.string nm,.slice uo cn ucap] 128) none
   have hx5:=heap_alloc_new wr (.cells #[.string nm,.slice uo cn ucap] 128)
   have hsh:=unhide HSH r (List.mem_of_getElem? hr)
   have hC:∀ wx,(wr.alloc (.cells #[.string nm,.slice uo cn ucap] 128)).grownBy wx none→Calls Tryz.prog 68 #[.int .i64 j,.agg #[.string nm,.slice uo cn ucap]] wx fun e w3=>∃ bj,e=.returned (.pointer (some ⟨bj,0,none⟩))∧Hid (ChainNew (newU Ux wr 0) ((rs.take j).map (fun r=>newCh r.conds)).length (nextQ 0 ((rs.take j).map (fun r=>newCh r.conds))) bj r.conds wx w3)∧wx.grownBy w3 none∧w3.cell? ⟨w.heap.size,0,none⟩=some (.slice cao j ccap)∧w3.frozen? ⟨w.heap.size,0,none⟩=false∧w3.cell? ⟨wr.heap.size,0,none⟩=some (.string nm)∧w3.cell? ⟨wr.heap.size,1,none⟩=some (.slice uo cn ucap):=by
    intro wx hx
    have hwx:=gr_trans hga hx
    have hsx:=hwx.size
    have h1:=hNC (newU Ux wr 0) j (nextQ 0 ((rs.take j).map (fun r=>newCh r.conds))) nm (.slice uo cn ucap) r.conds wx (fun i hi=>?_) ?_ hsh.2 hsh.1
    ·refine h1.mono ?_
     rintro e w3 ⟨bj,rfl,_,hCN⟩
     have hCN':=hCN
     obtain ⟨_,_,hg3,_⟩:=hCN'
     have hb3:w3.heap[w.heap.size]?=some (.cells #[.slice cao j ccap] 133 (0,0)):=by rw [(gr_trans hwx hg3).block _ (row_lt hI.blk) (by simp)]; exact hI.blk
     refine ⟨bj,rfl,hide (by rw [hcl]; exact hCN),hg3,by simp [World.cell?,hb3],by simp [World.frozen?,hb3],(gr_trans hx hg3).cell (cell_at_new0 hx5) (by simp),(gr_trans hx hg3).cell (cell_at_new1 hx5) (by simp)⟩
    ·by_cases hw:i < wr.heap.size
     ·rw [newU_old hw]
      by_cases hw2:i < w.heap.size
      ·rw [hI.old i hw2]; have:=unhide HU i hw2; omega
      ·have:=hI.new i (by omega) hw; omega
     ·rw [newU_new (by omega)]; omega
    ·exact hCs.keep (GrS.of (gr_trans hI.gr hwx) (by simp):GrS (fun _=>False) w wx) (by simp) (fun i hi e=>by rw [newU_old (Nat.lt_of_lt_of_le hi hI.gr.size),hI.old i hi]; exact e)
   have hrow:∀ wy,wr.grownBy wy none→RowAt 134 1 penc 0 (.slice cao j ccap) bs wy:=fun wy h=>hI.row.1.gr h
   have hsrc:∀ (w3:World) (bj:Nat),RowAt 134 1 penc 0 (.slice (some ⟨w3.heap.size,0,none⟩) 1 1) [bj] (w3.alloc (.cells #[.pointer (some ⟨bj,0,none⟩)] 134)):=fun w3 bj=>(RowAt.lit1 (e:=134) penc_len w3 bj #[.pointer (some ⟨bj,0,none⟩)] rfl).weak (Nat.zero_le _)
   have hend:∀ wx w3 w4 w5 bj v',(wr.alloc (.cells #[.string nm,.slice uo cn ucap] 128)).grownBy wx none→ChainNew (newU Ux wr 0) ((rs.take j).map (fun r=>newCh r.conds)).length (nextQ 0 ((rs.take j).map (fun r=>newCh r.conds))) bj r.conds wx w3→w3.grownBy w4 none→RowAt 134 1 penc 0 v' (bs ++ [bj]) w5→(∃ n m,Longer (.slice cao j ccap) v' n m w4 w5)→∃ Ux cv bs,NewI U Ux w.heap.size cv bs ((rs.take (j+1)).map (fun r=>newCh r.conds)) w (w5.setCell ⟨w.heap.size,0,none⟩ v'):=by
    rintro wx w3 w4 w5 bj v' hx hCN h4 hv ⟨n,m,hl5⟩
    obtain ⟨U',h⟩:=newEnd hI (Nat.le_refl _) (gr_trans hga hx) hCN h4 hv hl5
    refine ⟨U',v',bs ++ [bj],?_⟩
    rw [List.take_add_one,hr,List.map_append]
    exact h
   have hkeep:∀ w4 w5 v' n m,(wr.alloc (.cells #[.string nm,.slice uo cn ucap] 128)).grownBy w4 none→Longer (.slice cao j ccap) v' n m w4 w5→w5.cell? ⟨w.heap.size,0,none⟩=some (.slice cao j ccap)∧w5.frozen? ⟨w.heap.size,0,none⟩=false∧w5.cell? ⟨wr.heap.size,0,none⟩=some (.string nm)∧w5.cell? ⟨wr.heap.size,1,none⟩=some (.slice uo cn ucap):=by
    intro w4 w5 v' n m h4 hl5
    have hb5:w5.heap[w.heap.size]?=some (.cells #[.slice cao j ccap] 133 (0,0)):=hl5.block (by rw [(gr_trans hga h4).block _ (row_lt hI.blk) (by simp)]; exact hI.blk) hI.ne
    have hb6:w5.heap[wr.heap.size]?=some (.cells #[.string nm,.slice uo cn ucap] 128 (0,0)):=hl5.block (by rw [h4.block _ (row_lt hx5) (by simp)]; exact hx5) (fun hx=>by have:=(hI.row.1.own _ hx).2; omega)
    exact ⟨by simp [World.cell?,hb5],by simp [World.frozen?,hb5],cell_at_new0 hb6,cell_at_new1 hb6⟩
   have HEND:=hide hend
   have HKEEP:=hide hkeep
   have HROW:=hide hrow
   have HSRC:=hide hsrc
   have HBL:=hide hbl
   clear hend hkeep hrow hsrc hI hCs hsh c0 c1 hbl hcl
   go_wp2_with fail
   have a0:=cell_at_new0 hx5
   have a1:=cell_at_new1 hx5
   have ya:=hga.cell y0 (by simp)
   have HGA:=hide hga
   clear hga hx5 d0 d1 y0 yf
   generalize wr.alloc (.cells #[.string nm,.slice uo cn ucap] 128)=wa at HGA hC HEND HKEEP a0 a1 ya ⊢
   go_region_law
    (first
     | (go_simp; go_at_call 68; refine (hC _ (by repeat (first | with_reducible exact World.grownBy.refl _ _ | with_reducible apply gr_drew))).mono ?_; rintro e w3 ⟨bj,rfl,HC3,hg3,y3,yf3,z3⟩; have y4:=(World.grownBy_alloc w3 (.cells #[.pointer (some ⟨bj,0,none⟩)] 134) none).cell y3 (by simp))
     | (refine app_two_step (by rfl) _ _ 131 (by rfl) Tryz.underlying131 Tryz.infopChain rfl (by decide) (by simp [Act.eval]) (unhide HROW _ (gr_al (gr_trans (unhide HGA) (gr_trans (by repeat (first | with_reducible exact World.grownBy.refl _ _ | with_reducible apply gr_drew)) hg3)) _)) (by simp [Act.eval]) (unhide HSRC _ _) (by simp) (fun y _=>penc_one y) (by unfold maxLen; rw [unhide HBL]; simp; omega) (by rw [unhide HBL]; simp; omega) ?_; intro v5 w5 hv5 hl5; obtain ⟨g5,cap5,rfl⟩:=hl5.form; obtain ⟨y5,yf5,z5⟩:=unhide HKEEP _ _ _ _ _ (gr_al (gr_trans (by repeat (first | with_reducible exact World.grownBy.refl _ _ | with_reducible apply gr_drew)) hg3) _) hl5))
   all_goals
    have HN:=hide (unhide HEND _ _ _ _ _ _ (by repeat (first | with_reducible exact World.grownBy.refl _ _ | with_reducible apply gr_drew)) (unhide HC3) (World.grownBy_alloc w3 _ none) hv5 ⟨_,_,hl5⟩)
    clear hv5 hl5 HEND HKEEP HROW HSRC hC y3 y4 y5 yf3 yf5 z3 z5 a0 a1 ya HC3
    go_wp2
    go_roundw
    case rel=>exact ⟨j+1,by omega,by go_num,HN⟩
    case measure=>simp [intOf]; omega
  ·have hd:decide (j < rs.length)=false:=by simpa using hlt
   go_wp2
   go_ret
   obtain ⟨Ux,cv,bs,h⟩:=unhide HK
   rw [List.take_of_length_le (by omega)] at h
   obtain ⟨U',h1,h2⟩:=newDone h (Nat.le_refl _)
   exact ⟨_,U',rfl,Nat.le_refl _,h1,h2⟩
end Go.Proofs.YtolhbeekfjnfmaaGreatDoor

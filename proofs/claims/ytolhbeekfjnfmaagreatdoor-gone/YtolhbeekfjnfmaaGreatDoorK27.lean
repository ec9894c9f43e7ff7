import Derived.Test.YtolhbeekfjnfmaaGreatDoorK26
import Derived.Test.YtolhbeekfjnfmaaGreatDoorK19
namespace Go.Proofs.YtolhbeekfjnfmaaGreatDoor
open Go.RowKit
set_option maxRecDepth 100000 in
set_option maxHeartbeats 1000000 in
theorem cloneT_w (base:Nat) (v:Value) (l:List Tok) (w:World) (h:RowAt 139 4 tokEnc base v l w) (hl:l.length≤1000000000) :
  Calls Tryz.prog 113 #[v] w fun e w'=>∃ v',e=.returned v'∧RowAt 139 4 tokEnc w.heap.size v' l w'∧w.grownBy w' none:=by
 rcases h.2.2 with ⟨rfl,h2⟩ | ⟨g,cap,cur,rfl,h3,h4,h5⟩
 ·obtain rfl:l=[]:=List.length_eq_zero_iff.1 h2
  have hE:∀ w,(binOp .eql 141 (.slice none 0 0) (.slice none 0 0)).run Tryz.prog w=.ok (.bool true) w:=fun w=>Lib.run_eql_slice_nil w 141 139 none 0 0 0 0 Tryz.underlying141
  go_enter Tryz.func113,Tryz.ntmps113
  go_wp2
  go_ret
  exact ⟨_,rfl,RowAt.nil _ _ tokEnc_len,World.grownBy.refl _ _⟩
 ·have HH:=hide h
  clear h h3 h4 h5
  have hE:∀ w,(binOp .eql 141 (.slice (some ⟨g,0,none⟩) l.length cap) (.slice none 0 0)).run Tryz.prog w=.ok (.bool false) w:=fun w=>Lib.run_eql_slice_nil w 141 139 (some ⟨g,0,none⟩) l.length cap 0 0 Tryz.underlying141
  go_enter Tryz.func113,Tryz.ntmps113
  have hg1:=World.grownBy_alloc w (.cells #[] 139) none
  have hown:=(RowAt.lit0 (e:=139) tokEnc_len w)
  have hsrc:=(unhide HH).gr hg1
  go_wp2_with (at_builtin; refine app_row rfl _ _ 141 rfl Tryz.underlying141 Tryz.infoToken rfl (by decide) rfl hown rfl hsrc (fun y _=>tokEnc_one y) (by unfold maxLen; simp; omega) (by simp; omega) (by simp) ?_)
  intro v5 w5 hv5 hg5
  obtain ⟨ao,cap5,rfl⟩:=hv5.slice
  go_wp2
  go_ret
  exact ⟨_,rfl,hv5,gr_app hg1 hg5 (fun x hx=>by simp [Value.ownBlock] at hx; omega)⟩
theorem sort0_w (p:Option Addr) (cap:Nat) (fv:Value) (w:World):Calls Tryz.prog 114 #[.slice p 0 cap,fv] w fun e w'=>e=.returned (.tuple #[])∧w'=w:=AnyF.slices_SortFunc_none (P:=Tryz.prog) (ρ:=Tryz.laysSF_ren) { Tryz.laysSF with } p cap fv w
structure NowAt (U:Nat→Nat) (bt bl g lb ru jn:Nat) (l:List Tok) (w:World):Prop where
 toks:∃ p cap,w.heap[bt]?=some (.cells #[.slice p l.length cap] 141 (0,0))∧(l≠[]→p=some ⟨g,0,none⟩)
 last:w.heap[bl]?=some (.cells #[.pointer (some ⟨lb,0,none⟩)] 137 (0,0))
 cells:TokCells g l w
 four:∀ t∈l,t.length=jn
 fts:∀ t∈l,∀ x∈t,FtAt U x w
 ru:w.cell? ⟨lb,2,none⟩=some (.int .i64 ru)
 jn:w.cell? ⟨lb,3,none⟩=some (.int .i64 jn)
set_option maxRecDepth 100000 in
set_option maxHeartbeats 2000000 in
theorem now_w (U:Nat→Nat) (q b ru jn:Nat) (e:En) (tv wv:Value) (w:World) (h:LastAt U q b ru jn e tv wv w) (h4:∀ t∈e.toks,t.length=jn) (hj:jn≤4) (hl:e.toks.length≤1000000000) :
  Calls Tryz.prog 77 #[.pointer (some ⟨b,0,none⟩)] w fun r w'=>∃ bt bl g l,r=.returned (.func (.func 116) #[] #[.pointer (some ⟨bt,0,none⟩),.pointer (some ⟨bl,0,none⟩)])∧w.grownBy w' none∧w.heap.size≤bt∧w.heap.size≤bl∧w.heap.size≤g∧l.Perm e.toks∧l.Pairwise (fun a b=>cmpL a.nums b.nums≤0)∧NowAt U bt bl g b ru jn l w':=by
 have c0:w.cell? ⟨b,0,none⟩=some tv:=by simp [World.cell?,h.blk]
 have hgA:=World.grownBy_alloc w (.cells #[.pointer (some ⟨b,0,none⟩)] 137) none
 have hC:=cloneT_w 0 tv e.toks _ (h.toks.1.gr hgA) hl
 obtain ⟨ao,cap,htv⟩:=h.toks.1.slice
 have d0:=hgA.cell c0 (by simp)
 have hS:∀ v1 w1,RowAt 139 4 tokEnc (w.alloc (.cells #[.pointer (some ⟨b,0,none⟩)] 137)).heap.size v1 e.toks w1→(w.alloc (.cells #[.pointer (some ⟨b,0,none⟩)] 137)).grownBy w1 none→∃ ao1 cap1,v1=.slice ao1 e.toks.length cap1∧
   Calls Tryz.prog 114 #[v1,.func (.func 115) #[] #[]] (w1.alloc (.cells #[v1] 141)) fun r w'=>r=.returned (.tuple #[])∧Hid (∃ g l,w.grownBy w' none∧w.heap.size≤w1.heap.size∧w.heap.size≤g∧l.Perm e.toks∧l.Pairwise (fun a b=>cmpL a.nums b.nums≤0)∧NowAt U w1.heap.size w.heap.size g b ru jn l w'):=by
  intro v1 w1 hv1 hg1
  obtain ⟨ao1,cap1,hvv⟩:=hv1.slice
  refine ⟨ao1,cap1,hvv,?_⟩
  subst hvv
  have hsA:(w.alloc (.cells #[.pointer (some ⟨b,0,none⟩)] 137)).heap.size=w.heap.size+1:=by simp
  have hs1:=hg1.size
  rw [hsA] at hs1
  have hgw1:=gr_trans hgA hg1
  have hg2:=World.grownBy_alloc w1 (.cells #[.slice ao1 e.toks.length cap1] 141) none
  have hgw2:=gr_trans hgw1 hg2
  have hbl:(w1.alloc (.cells #[.slice ao1 e.toks.length cap1] 141)).heap[w.heap.size]?=some (.cells #[.pointer (some ⟨b,0,none⟩)] 137 (0,0)):=by
   rw [(gr_trans hg1 hg2).block _ (by rw [hsA]; omega) (by simp)]
   exact heap_alloc_new _ _
  have hbt:(w1.alloc (.cells #[.slice ao1 e.toks.length cap1] 141)).heap[w1.heap.size]?=some (.cells #[.slice ao1 e.toks.length cap1] 141 (0,0)):=heap_alloc_new _ _
  have hfts:∀ t∈e.toks,∀ x∈t,FtAt U x w:=h.tfs
  have hlb:b < w.heap.size:=row_lt h.blk
  have r2:w.cell? ⟨b,2,none⟩=some (.int .i64 ru):=by simp [World.cell?,h.blk]
  have r3:w.cell? ⟨b,3,none⟩=some (.int .i64 jn):=by simp [World.cell?,h.blk]
  by_cases hne:e.toks=[]
  ·rw [hne,List.length_nil]
   refine (sort0_w ao1 cap1 _ _).mono ?_
   rintro r w' ⟨rfl,rfl⟩
   rw [hne,List.length_nil] at hbt hgw2 hbl
   refine ⟨rfl,hide ⟨w.heap.size,[],hgw2,by omega,Nat.le_refl _,List.Perm.refl _,List.Pairwise.nil,⟨⟨ao1,cap1,hbt,fun h=>absurd rfl h⟩,hbl,fun i t hi=>by simp at hi,by simp,by simp,hgw2.cell r2 (by simp),hgw2.cell r3 (by simp)⟩⟩⟩
  ·have hlen:0 < e.toks.length:=List.length_pos_iff.2 hne
   obtain ⟨g,hg⟩:∃ g,ao1=some ⟨g,0,none⟩:=by
    rcases hv1.2.2 with ⟨k1,k2⟩ | ⟨g,cap',cur,k1,_⟩
    ·omega
    ·simp only [Value.slice.injEq] at k1
     exact ⟨g,k1.1⟩
   subst hg
   have hgo:=hv1.own g rfl
   rw [hsA] at hgo
   have hv2:=hv1.gr hg2
   have hS:=sortT_w (newU U w 0) g cap1 e.toks (w1.alloc (.cells #[.slice (some ⟨g,0,none⟩) e.toks.length cap1] 141)) (hv2.weak (Nat.zero_le _)) (fun t ht=>⟨by rw [h4 t ht]; exact hj,fun x hx=>(hfts t ht x hx).keep (GrS.of hgw2 (by simp):GrS (fun _=>False) w _) (by simp) (fun k hk e=>by rw [newU_old hk]; exact e)⟩) (by rw [newU_new (by omega)]; omega) hl
   refine hS.mono ?_
   rintro r w' ⟨rfl,l,hp,hso,hcl,hgs⟩
   have hgw3:w.grownBy w' none:=gr_app hgw2 hgs (fun x hx=>by simp at hx; omega)
   refine ⟨rfl,hide ⟨g,l,hgw3,by omega,by omega,hp,hso,⟨⟨_,cap1,?_,fun _=>rfl⟩,?_,hcl,fun t ht=>h4 t (hp.mem_iff.1 ht),fun t ht x hx=>(hfts t (hp.mem_iff.1 ht) x hx).gr hgw3,hgw3.cell r2 (by simp),hgw3.cell r3 (by simp)⟩⟩⟩
   ·rw [hp.length_eq,hgs.block _ (row_lt hbt) (by simp; omega)]
    exact hbt
   ·rw [hgs.block _ (row_lt hbl) (by simp; omega)]
    exact hbl
 have HS:=hide hS
 clear h hS
 subst htv
 go_enter Tryz.func77,Tryz.ntmps77
 go_wp2_with (go_at_call 113; refine hC.mono ?_; rintro r w1 ⟨v1,rfl,hv1,hg1⟩; obtain ⟨ao1,cap1,hvv,hS1⟩:=unhide HS v1 w1 hv1 hg1; subst hvv)
 refine hS1.mono ?_
 rintro r w2 ⟨rfl,HF⟩
 clear hS1 HS hC hv1 hg1 c0 d0 hgA
 go_wp2
 go_ret
 obtain ⟨g,l,f1,f2,f3,f4,f5,f6⟩:=unhide HF
 exact ⟨_,_,g,l,rfl,f1,f2,Nat.le_refl _,f3,f4,f5,f6⟩
end Go.Proofs.YtolhbeekfjnfmaaGreatDoor

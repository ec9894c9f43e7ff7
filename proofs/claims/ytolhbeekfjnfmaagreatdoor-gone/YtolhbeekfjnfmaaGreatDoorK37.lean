import Derived.LaidEqlPtr
import Derived.Test.YtolhbeekfjnfmaaGreatDoorK13
namespace Go.Proofs.YtolhbeekfjnfmaaGreatDoor
open Go.RowKit
def IsBlk (b:Nat) (w:World):Prop:=∃ c t,w.heap[b]?=some (.cells c t (0,0))
def PtrsAt (ao:Option Addr) (ps:List (Option Addr)) (w:World):Prop:=ps.length≤maxLen∧∀ i p,ps[i]?=some p→(∃ g,ao=some ⟨g,0,none⟩∧w.cell? ⟨g,i,none⟩=some (.pointer p))∧(p=none∨∃ b,p=some ⟨b,0,none⟩∧IsBlk b w)
theorem FsAt.ptrs {ao:Option Addr} {n cap:Nat} {l:List Ft} {w:World} (h:FsAt (.slice ao n cap) l w) (hb:∀ f∈l,IsBlk f.blk w):PtrsAt ao (l.map (fun f=>some ⟨f.blk,0,none⟩)) w:=by
 refine ⟨by rw [List.length_map]; exact h.le,fun i p hp=>?_⟩
 rw [List.getElem?_map] at hp
 cases hf:l[i]? with
 | none=>rw [hf] at hp; cases hp
 | some f=>
  rw [hf] at hp
  simp only [Option.map_some,Option.some.injEq] at hp
  subst hp
  obtain ⟨g,cap',e1,c0⟩:=h.cell hf
  simp only [Value.slice.injEq] at e1
  exact ⟨⟨g,e1.1,c0⟩,.inr ⟨f.blk,rfl,hb f (List.mem_of_getElem? hf)⟩⟩
def idxP (a:Option Addr):Nat→List (Option Addr)→Int
 | _,[]=>-1
 | k,p :: l=>if a=p then (k:Int) else idxP a (k+1) l
theorem idxP_blk (b:Nat):∀ (l:List Ft) (k:Nat),idxP (some ⟨b,0,none⟩) k (l.map (fun f=>some ⟨f.blk,0,none⟩))=idxG (fun g=>g.blk == b) k l
 | [],_=>rfl
 | f :: l,k=>by
  rw [List.map_cons]
  unfold idxP idxG
  rw [idxP_blk b l (k+1)]
  by_cases h:f.blk=b
  ·simp [h]
  ·have h2:¬ b=f.blk:=fun e=>h e.symm
   rw [if_neg (by intro e; simp only [Option.some.injEq,Addr.mk.injEq,and_true] at e; exact h2 e),if_neg (by simp [h])]
theorem Tryz.infoNFactS:(Tryz.prog.info? 93).map (fun i=>i.size)=some 3:=by kernel_rfl
set_option maxRecDepth 100000 in
set_option maxHeartbeats 1000000 in
theorem sIdx_w (b:Nat) (ao:Option Addr) (ps:List (Option Addr)) (cap:Nat) (w:World) (hb:IsBlk b w) (hr:PtrsAt ao ps w) :
  Calls Tryz.prog 140 #[.slice ao ps.length cap,.pointer (some ⟨b,0,none⟩)] w fun e w'=>e=.returned (.int .i64 (idxP (some ⟨b,0,none⟩) 0 ps))∧w'=w:=by
 have hlm:=hr.1
 unfold maxLen at hlm
 obtain ⟨inf,hinf,hsz⟩:∃ j,Tryz.prog.info? 93=some j∧j.size≠0:=by
  have:=Tryz.infoNFactS
  cases hj:Tryz.prog.info? 93 with
  | none=>rw [hj] at this; cases this
  | some j=>rw [hj] at this; simp at this; exact ⟨j,rfl,by omega⟩
 obtain ⟨cb,tb,hbb⟩:=hb
 have HINF:=hide hinf
 clear hinf
 obtain ⟨R,hR⟩:∃ R,idxP (some ⟨b,0,none⟩) 0 ps=R:=⟨_,rfl⟩
 rw [hR]
 have HR:=hide hR
 have HROW:=hide hr
 clear hR hr
 go_enter Tryz.func140,Tryz.ntmps140
 go_wp2
 go_loopw [8] (fun x w'=>∃ k:Nat,k≤ps.length∧x=.int .i64 k∧w'=w∧idxP (some ⟨b,0,none⟩) k (ps.drop k)=R) (fun x _=>ps.length - (intOf x).toNat)
 case atStart=>exact ⟨0,Nat.zero_le _,rfl,rfl,unhide HR⟩
 case round=>
  clear HR
  obtain ⟨k,hk,rfl,hw,hr⟩:=hrel
  subst wr
  by_cases hlt:k < ps.length
  ·have hd:decide (k < ps.length)=true:=by simpa using hlt
   obtain ⟨p,hp⟩:∃ p,ps[k]?=some p:=⟨_,List.getElem?_eq_getElem hlt⟩
   obtain ⟨⟨g,rfl,c0⟩,hpp⟩:=(unhide HROW).2 k p hp
   rw [drop_get hp] at hr
   unfold idxP at hr
   clear hp
   rcases hpp with rfl | ⟨b',rfl,cb',tb',hbb'⟩
   ·rw [if_neg (by simp)] at hr
    have HR:=hide hr
    clear hr
    go_wp2
    go_roundw
    case rel=>exact ⟨k+1,by omega,by go_num,by first | trivial | rfl,unhide HR⟩
    case measure=>simp [intOf]; omega
   ·by_cases hap:b=b'
    ·subst hap
     rw [if_pos rfl] at hr
     subst hr
     have he:=run_eql_ptr_same (P:=Tryz.prog) w ⟨b,0,none⟩ Tryz.underlying90 (unhide HINF)
     go_wp2
     go_ret
     exact ⟨rfl,rfl⟩
    ·rw [if_neg (by intro e; simp only [Option.some.injEq,Addr.mk.injEq,and_true] at e; exact hap e)] at hr
     have he:=run_eql_ptr_other (P:=Tryz.prog) w (a:=⟨b,0,none⟩) (b:=⟨b',0,none⟩) Tryz.underlying90 (unhide HINF) hsz (by intro e; simp only [Addr.mk.injEq,and_true] at e; exact hap e) hbb hbb'
     have HR:=hide hr
     clear hr
     go_wp2
     go_roundw
     case rel=>exact ⟨k+1,by omega,by go_num,by first | trivial | rfl,unhide HR⟩
     case measure=>simp [intOf]; omega
  ·have hd:decide (k < ps.length)=false:=by simpa using hlt
   rw [List.drop_of_length_le (by omega)] at hr
   unfold idxP at hr
   subst hr
   go_wp2
   go_ret
   exact ⟨rfl,rfl⟩
theorem sHas_w (b:Nat) (ao:Option Addr) (ps:List (Option Addr)) (cap:Nat) (w:World) (hb:IsBlk b w) (hr:PtrsAt ao ps w) :
  Calls Tryz.prog 106 #[.slice ao ps.length cap,.pointer (some ⟨b,0,none⟩)] w fun e w'=>e=.returned (.bool (decide (0≤idxP (some ⟨b,0,none⟩) 0 ps)))∧w'=w:=by
 have hI:=sIdx_w b ao ps cap w hb hr
 clear hr hb
 obtain ⟨R,hR⟩:∃ R,idxP (some ⟨b,0,none⟩) 0 ps=R:=⟨_,rfl⟩
 rw [hR] at hI ⊢
 clear hR
 go_enter Tryz.func106,Tryz.ntmps106
 go_wp2_with fail
 refine hI.mono ?_
 rintro e w1 ⟨rfl,hw⟩
 subst w1
 go_wp2
 go_ret
 exact ⟨rfl,rfl⟩
end Go.Proofs.YtolhbeekfjnfmaaGreatDoor

import Derived.LaidEqlPtr
import Derived.Test.YtolhbeekfjnfmaaGreatDoorM21
set_option maxHeartbeats 8000000
set_option maxRecDepth 100000
namespace Go.Proofs.YtolhbeekfjnfmaaGreatDoor
open Go.RowKit
def Um(b:Nat)(w:World):Prop:=∃c t,w.heap[b]?=some (.cells c t (0,0))
def Uo(ao:Option Addr)(ps:List (Option Addr))(w:World):Prop:=ps.length<=maxLen/\∀i p,ps[i]?=some p->(∃g,ao=some ⟨g,0,none⟩/\w.cell? ⟨g,i,none⟩=some (.pointer p))/\(p=none\/∃b,p=some ⟨b,0,none⟩/\Um b w)
theorem FsAt.ptrs{ao:Option Addr}{n cap:Nat}{l:List Ft}{w:World}(h:FsAt (.slice ao n cap) l w)(hb:∀f∈l,Um f.blk w):Uo ao (l.map (fun f=>some ⟨f.blk,0,none⟩)) w:=by
 refine⟨by rw[BA];exact h.le,fun i p hp=>?_⟩;rw[BR] at hp;cases hf:l[i]? with
 | none=>rw[hf] at hp;cases hp
 | some f=>
  rw[hf] at hp;simp only[DZ,AE] at hp;subst hp;obtain⟨g,cap',e1,c0⟩:=h.cell hf;simp only[AH] at e1;exact⟨⟨g,e1.1,c0⟩,.inr ⟨f.blk,rfl,hb f (AV hf)⟩⟩
def Rz(a:Option Addr):Nat->List (Option Addr)->Int
 | _,[]=>-1
 | k,p::l=>if a=p then (k:Int) else Rz a (k+1) l
theorem Nk(b:Nat):∀(l:List Ft) (k:Nat),Rz (some ⟨b,0,none⟩) k (l.map (fun f=>some ⟨f.blk,0,none⟩))=Le (fun g=>g.blk==b) k l
 | [],_=>rfl
 | f::l,k=>by
  rw[DN];unfold Rz Le;rw[Nk b l (k+1)];by_cases h:f.blk=b
  ·simp[h]
  ·have h2:¬ b=f.blk:=fun e=>h e.symm
   rw[AO (by intro e;simp only[AE,BK,BX] at e;exact h2 e),AO (by simp[h])]
theorem Tryz.infoNFactS:(Tryz.prog.info? 93).map (fun i=>i.size)=some 3:=by kernel_rfl
theorem Xp(b:Nat)(ao:Option Addr)(ps:List (Option Addr))(cap:Nat)(w:World)(hb:Um b w)(hr:Uo ao ps w) :
  Calls Tryz.prog 140 #[.slice ao ps.length cap,.pointer (some ⟨b,0,none⟩)] w fun e w'=>e=.returned (.int .i64 (Rz (some ⟨b,0,none⟩) 0 ps))/\w'=w:=by
 have cj:=hr.1;unfold maxLen at cj
 obtain⟨inf,aq,hsz⟩:∃j,Tryz.prog.info? 93=some j/\j.size≠0:=by
  have:=Tryz.infoNFactS;cases hj:Tryz.prog.info? 93 with
  | none=>rw[hj] at this;cases this
  | some j=>rw[hj] at this;simp at this;exact⟨j,rfl,by omega⟩
 obtain⟨cb,tb,UN⟩:=hb;have sW:=Ac aq;clear aq;obtain⟨R,hR⟩:∃R,Rz (some ⟨b,0,none⟩) 0 ps=R:=⟨_,rfl⟩
 rw[hR];have HR:=Ac hR;have dD:=Ac hr;clear hR hr;go_enter Tryz.func140,Tryz.ntmps140;go_wp2;go_loopw [8] (fun x w'=>∃k:Nat,k<=ps.length/\x=.int .i64 k/\w'=w/\Rz (some ⟨b,0,none⟩) k (ps.drop k)=R) (fun x _=>ps.length-(intOf x).toNat)
 case atStart=>exact⟨0,AG _,rfl,rfl,Aa HR⟩
 case round=>
  clear HR;obtain⟨k,hk,rfl,hw,hr⟩:=hrel;subst wr;by_cases hlt:k<ps.length
  ·have hd:decide (k<ps.length)=true:=by simpa using hlt
   obtain⟨p,hp⟩:∃p,ps[k]?=some p:=⟨_,AB hlt⟩
   obtain⟨⟨g,rfl,c0⟩,vO⟩:=(Aa dD).2 k p hp;rw[A0 hp] at hr;unfold Rz at hr;clear hp;rcases vO with rfl|⟨b',rfl,cb',tb',UM⟩
   ·rw[AO (by simp)] at hr
    have HR:=Ac hr;clear hr;go_wp2;go_roundw
    case rel=>exact⟨k+1,by omega,by go_num,by first|trivial|rfl,Aa HR⟩
    case measure=>simp[intOf];omega
   ·by_cases hap:b=b'
    ·subst hap
     rw[AQ rfl] at hr;subst hr;have he:=run_eql_ptr_same (P:=Tryz.prog) w ⟨b,0,none⟩ Tryz.underlying90 (Aa sW);go_wp2;go_ret;exact⟨rfl,rfl⟩
    ·rw[AO (by intro e;simp only[AE,BK,BX] at e;exact hap e)] at hr
     have he:=run_eql_ptr_other (P:=Tryz.prog) w (a:=⟨b,0,none⟩) (b:=⟨b',0,none⟩) Tryz.underlying90 (Aa sW) hsz (by intro e;simp only[BK,BX] at e;exact hap e) UN UM;have HR:=Ac hr;clear hr;go_wp2;go_roundw
     case rel=>exact⟨k+1,by omega,by go_num,by first|trivial|rfl,Aa HR⟩
     case measure=>simp[intOf];omega
  ·have hd:decide (k<ps.length)=false:=by simpa using hlt
   rw[BD (by omega)] at hr;unfold Rz at hr;subst hr;go_wp2;go_ret;exact⟨rfl,rfl⟩
theorem Q31(b:Nat)(ao:Option Addr)(ps:List (Option Addr))(cap:Nat)(w:World)(hb:Um b w)(hr:Uo ao ps w) :
  Calls Tryz.prog 106 #[.slice ao ps.length cap,.pointer (some ⟨b,0,none⟩)] w fun e w'=>e=.returned (.bool (decide (0<=Rz (some ⟨b,0,none⟩) 0 ps)))/\w'=w:=by
 have hI:=Xp b ao ps cap w hb hr;clear hr hb;obtain⟨R,hR⟩:∃R,Rz (some ⟨b,0,none⟩) 0 ps=R:=⟨_,rfl⟩
 rw[hR] at hI⊢;clear hR;go_enter Tryz.func106,Tryz.ntmps106;go_wp2_with fail;refine hI.mono ?_;rintro e w1⟨rfl,hw⟩;subst w1;go_wp2;go_ret;exact⟨rfl,rfl⟩
end Go.Proofs.YtolhbeekfjnfmaaGreatDoor

import Derived.LaidEqlPtr
import Derived.Test.YtolhbeekfjnfmaaGreatDoorA20
set_option maxHeartbeats 8000000
set_option maxRecDepth 100000
namespace Go.Proofs.YtolhbeekfjnfmaaGreatDoor
open Go.RowKit Go.Proofs.Tryz
def Vd(b:Nat)(w:World):Prop:=∃c t,w.heap[b]?=some (.cells c t (0,0))
def Ve(ao:Option Addr)(ps:List (Option Addr))(w:World):Prop:=ps.length<=maxLen/\∀i p,ps[i]?=some p->(∃g,ao=some ⟨g,0,none⟩/\w.cell? ⟨g,i,none⟩=some (.pointer p))/\(p=none\/∃b,p=some ⟨b,0,none⟩/\Vd b w)
theorem Q2A.ptrs{ao:Option Addr}{n cap:Nat}{l:List Ft}{w:World}(h:Q2A (.slice ao n cap) l w)(hb:∀f∈l,Vd f.blk w):Ve ao (l.map (λf=>some ⟨f.blk,0,none⟩)) w:=by refine⟨by rw[AY];exact h.le,λi p hp=>?_⟩;rw[BR]at hp;cases hf:l[i]? with|none=>{rw[hf]at hp;cases hp}|some f=>rw[hf]at hp;simp only[DM,AE]at hp;subst hp;obtain⟨g,cap',e1,c0⟩:=h.cell hf;simp only[AH]at e1;exact⟨⟨g,e1.1,c0⟩,.inr ⟨f.blk,rfl,hb f (AW hf)⟩⟩
def Sh(a:Option Addr):Nat->List (Option Addr)->Int
 |_,[]=>-1
 |k,p::l=>if a=p then (k:Int)else Sh a (k+1) l
theorem Nv(b:Nat):∀(l:List Ft) (k:Nat),Sh (some ⟨b,0,none⟩) k (l.map (λf=>some ⟨f.blk,0,none⟩))=Lp (λg=>g.blk==b) k l
 |[],_=>rfl
 |f::l,k=>by
  rw[DF];unfold Sh Lp;rw[Nv b l (k+1)];by_cases h:f.blk=b
  ·simp[h]
  ·have h2:¬ b=f.blk:=λe=>h e.symm
   rw[AO (by intro e;simp only[AE,BL,CA]at e;exact h2 e),AO (by simp[h])]
theorem Q4U:(prog.info? 93).map (λi=>i.size)=some 3:=by kernel_rfl
theorem X3(b:Nat)(ao:Option Addr)(ps:List (Option Addr))(cap:Nat)(w:World)(hb:Vd b w)(hr:Ve ao ps w):Calls prog 140 #[.slice ao ps.length cap,.pointer (some ⟨b,0,none⟩)] w λe w'=>e=.returned (.int .i64 (Sh (some ⟨b,0,none⟩) 0 ps))/\w'=w:=by
 have dE:=hr.1;unfold maxLen at dE;obtain⟨inf,ak,hsz⟩:∃j,prog.info? 93=some j/\j.size≠0:=by have:=Q4U;cases hj:prog.info? 93 with|none=>{rw[hj]at this;cases this}|some j=>rw[hj]at this;simp at this;exact⟨j,rfl,by omega⟩
 obtain⟨cb,tb,YY⟩:=hb;have uh:=Ac ak;clear ak;obtain⟨R,hR⟩:∃R,Sh (some ⟨b,0,none⟩) 0 ps=R:=⟨_,rfl⟩
 rw[hR];have HR:=Ac hR;have dK:=Ac hr;clear hR hr;go_enter func140,ntmps140;go_wp2;go_loopw [8] (λx w'=>∃k:Nat,k<=ps.length/\x=.int .i64 k/\w'=w/\Sh (some ⟨b,0,none⟩) k (ps.drop k)=R) (λx _=>ps.length-(intOf x).toNat);case atStart=>exact⟨0,AG _,rfl,rfl,Aa HR⟩
 case round=>clear HR;obtain⟨k,hk,rfl,hw,hr⟩:=hrel;subst wr;by_cases hlt:k<ps.length;{(have hd:decide (k<ps.length)=true:=by simpa using hlt);(obtain⟨p,hp⟩:∃p,ps[k]?=some p:=⟨_,AB hlt⟩);obtain⟨⟨g,rfl,c0⟩,xN⟩:=(Aa dK).2 k p hp;rw[A0 hp]at hr;unfold Sh at hr;clear hp;rcases xN with rfl|⟨b',rfl,cb',tb',YX⟩;{rw[AO (by simp)]at hr;have HR:=Ac hr;clear hr;go_wp2;go_roundw;(case rel=>exact⟨k+1,by omega,by go_num,by first|trivial|rfl,Aa HR⟩);case measure=>simp[intOf];omega};{by_cases hap:b=b';{subst hap;rw[AQ rfl]at hr;subst hr;have he:=run_eql_ptr_same (P:=prog) w ⟨b,0,none⟩ underlying90 (Aa uh);go_wp2;go_ret;exact⟨rfl,rfl⟩};{rw[AO (by intro e;simp only[AE,BL,CA]at e;exact hap e)]at hr;have he:=run_eql_ptr_other (P:=prog) w (a:=⟨b,0,none⟩) (b:=⟨b',0,none⟩) underlying90 (Aa uh) hsz (by intro e;simp only[BL,CA]at e;exact hap e) YY YX;have HR:=Ac hr;clear hr;go_wp2;go_roundw;(case rel=>exact⟨k+1,by omega,by go_num,by first|trivial|rfl,Aa HR⟩);case measure=>simp[intOf];omega}}};{(have hd:decide (k<ps.length)=false:=by simpa using hlt);rw[BD (by omega)]at hr;unfold Sh at hr;subst hr;go_wp2;go_ret;exact⟨rfl,rfl⟩}
theorem Q4i(b:Nat)(ao:Option Addr)(ps:List (Option Addr))(cap:Nat)(w:World)(hb:Vd b w)(hr:Ve ao ps w):Calls prog 106 #[.slice ao ps.length cap,.pointer (some ⟨b,0,none⟩)] w λe w'=>e=.returned (.bool (decide (0<=Sh (some ⟨b,0,none⟩) 0 ps)))/\w'=w:=by
 have hI:=X3 b ao ps cap w hb hr;clear hr hb;obtain⟨R,hR⟩:∃R,Sh (some ⟨b,0,none⟩) 0 ps=R:=⟨_,rfl⟩
 rw[hR]at hI⊢;clear hR;go_enter func106,ntmps106;go_wp2_with fail;refine hI.mono ?_;rintro e w1⟨rfl,hw⟩;subst w1;go_wp2;go_ret;exact⟨rfl,rfl⟩
end Go.Proofs.YtolhbeekfjnfmaaGreatDoor

import Derived.Test.YtolhbeekfjnfmaaGreatDoorK32
import Derived.Test.YtolhbeekfjnfmaaGreatDoorK42
import Derived.BigQuiet
namespace Go.Proofs.YtolhbeekfjnfmaaGreatDoor
open Go.RowKit
def NsT (T:Nat→Nat) (v:Value) (l:List Int) (w:World):Prop:=IsAt 0 v l w∧∀ g,v.ownBlock=some g→9 < T g
structure LsT (e:TypeId) (T:Nat→Nat) (v:Value) (ms:List VFt) (w:World):Prop where
 row:RowAt e 2 ftenc 0 v ms w
 els:∀ m∈ms,NsT T m.v m.vals w
 own:∀ g,v.ownBlock=some g→9 < T g
theorem NsT.go {T T':Nat→Nat} {v:Value} {l:List Int} {w w':World} {S:Nat→Prop} (h:NsT T v l w) (hg:GrS S w w') (hs:∀ k,S k→T k≤9) (ho:∀ k,k < w.heap.size→T' k=T k):NsT T' v l w':=
 ⟨hg.row h.1 (fun g hx hS=>by have:=h.2 g hx; have:=hs g hS; omega),fun g hx=>by rw [ho g (h.1.own g hx).2]; exact h.2 g hx⟩
theorem LsT.go {e:TypeId} {T T':Nat→Nat} {v:Value} {ms:List VFt} {w w':World} {S:Nat→Prop} (h:LsT e T v ms w) (hg:GrS S w w') (hs:∀ k,S k→T k≤9) (ho:∀ k,k < w.heap.size→T' k=T k):LsT e T' v ms w':=
 ⟨hg.row h.row (fun g hx hS=>by have:=h.own g hx; have:=hs g hS; omega),fun m hm=>(h.els m hm).go hg hs ho,fun g hx=>by rw [ho g (h.row.own g hx).2]; exact h.own g hx⟩
theorem gone_of {S:Nat→Prop} {w w':World} (hg:w.grownBy w' none):GrS S w w':=GrS.of hg (by simp)
theorem NsT.gr {T T':Nat→Nat} {v:Value} {l:List Int} {w w':World} (h:NsT T v l w) (hg:w.grownBy w' none) (ho:∀ k,k < w.heap.size→T' k=T k):NsT T' v l w':=h.go (gone_of (S:=fun _=>False) hg) (by simp) ho
theorem LsT.gr {e:TypeId} {T T':Nat→Nat} {v:Value} {ms:List VFt} {w w':World} (h:LsT e T v ms w) (hg:w.grownBy w' none) (ho:∀ k,k < w.heap.size→T' k=T k):LsT e T' v ms w':=h.go (gone_of (S:=fun _=>False) hg) (by simp) ho
theorem LsT.mtAt {T:Nat→Nat} {v:Value} {ms:List VFt} {w:World} (h:LsT 52 T v ms w):MtAt v ms w:=⟨h.row,fun m hm=>(h.els m hm).1⟩
theorem Hand.lsT {e:TypeId} {T:Nat→Nat} {v:Value} {xs:List VFt} {w:World} (h:Hand T e v xs w):LsT e T v xs w:=
 ⟨h.row.1,fun m hm=>by
  obtain ⟨i,hi⟩:=List.getElem?_of_mem hm
  exact ⟨(h.els i m hi).1.1,fun g hg=>by rw [(h.els i m hi).1.2 g hg]; omega⟩,fun g hg=>by rw [h.row.2 g hg]; omega⟩
theorem one_le {T:Nat→Nat}:∀ k,T k=1→T k≤9:=fun k hk=>by omega
structure Kn (w:World) (x:Nat) (rs:List Sv.Rule) (m n:Nat) (s:Sv.St) (T:Nat→Nat) (wr:World):Prop where
 net:XT T 1 x s wr
 ok:Sv.KOk rs m n s
 old:∀ k,k < w.heap.size→T k=0
 gr:w.grownBy wr none
theorem Kn.go {w:World} {x:Nat} {rs:List Sv.Rule} {m n m' n':Nat} {s s':Sv.St} {T T':Nat→Nat} {wr w':World} (h:Kn w x rs m n s T wr) (hX:XT T' 1 x s' w') (hK:Sv.KOk rs m' n' s') (hG:GrS (fun k=>T k=1) wr w') (ho:∀ k,k < wr.heap.size→T' k=T k):Kn w x rs m' n' s' T' w':=
 ⟨hX,hK,fun k hk=>by rw [ho k (Nat.lt_of_lt_of_le hk h.gr.size),h.old k hk],grown_of h.gr hG (fun k hk=>by rw [h.old k hk]; decide)⟩
theorem Kn.more {w:World} {x:Nat} {rs:List Sv.Rule} {m n:Nat} {s:Sv.St} {T T':Nat→Nat} {wr w':World} (h:Kn w x rs m n s T wr) (hg:wr.grownBy w' none) (ho:∀ k,k < wr.heap.size→T' k=T k):Kn w x rs m n s T' w':=
 h.go (h.net.gr hg ho) h.ok (gone_of hg) ho
def Stp.idOf (p:Stp) (s:Sv.St):Int:=(s.L.map Prod.fst)[(Sv.pick p.a s.L.length).toNat]?.getD 0
def Stp.step (p:Stp) (s:Sv.St):Sv.St:=
 if Sv.pick p.kd 5 < 3∧s.L.length < 6 then (s.add p.fact).2
 else if Sv.pick p.kd 5=3∧0 < s.L.length then (s.del (p.idOf s)).2
 else if Sv.pick p.kd 5=4 then s.fire.2 else s
theorem Stp.step_ok {p:Stp} {rs:List Sv.Rule} {n:Nat} {s:Sv.St} (h:Sv.KOk rs 6 n s):Sv.KOk rs 6 (n+1) (p.step s):=by
 unfold Stp.step
 split
 ·rename_i hc
  exact h.add p.fact hc.2
 ·split
  ·exact (h.del _).more (Nat.le_refl _) (Nat.le_succ _)
  ·split
   ·exact h.fire.more (Nat.le_refl _) (Nat.le_succ _)
   ·exact h.more (Nat.le_refl _) (Nat.le_succ _)
theorem Stp.idOf_mem {p:Stp} {s:Sv.St} (h:0 < s.L.length):∃ q∈s.L,q.1=p.idOf s∧(s.L.map Prod.fst)[(Sv.pick p.a s.L.length).toNat]?=some (p.idOf s):=by
 have hr:=Sv.pick_rng p.a s.L.length (by omega)
 have hl:(Sv.pick p.a s.L.length).toNat < s.L.length:=by omega
 refine ⟨s.L[(Sv.pick p.a s.L.length).toNat],List.getElem_mem hl,?_,?_⟩
 ·unfold Stp.idOf
  rw [List.getElem?_map,List.getElem?_eq_getElem hl]
  rfl
 ·unfold Stp.idOf
  rw [List.getElem?_map,List.getElem?_eq_getElem hl]
  rfl
def Stp.agg (p:Stp):Value:=.agg #[.int .i64 p.kd,.int .i64 p.a,.int .i64 p.v0,.int .i64 p.v1,.int .i64 p.v2,.int .i64 p.v3]
end Go.Proofs.YtolhbeekfjnfmaaGreatDoor
namespace Go.Proofs.YtolhbeekfjnfmaaGreatDoor
open Go.RowKit
theorem kfin {T T1 T':Nat→Nat} {w w1 w':World} (hg:w.grownBy w1 none) (hT1:∀ k,k < w.heap.size→T1 k=T k) (hG:GrS (fun k=>T1 k=1) w1 w') (hT':∀ k,k < w1.heap.size→T' k=T1 k):GrS (fun k=>T k=1) w w'∧∀ k,k < w.heap.size→T' k=T k:=
 ⟨(gone_of hg:GrS (fun k=>T k=1) w w1).comp hG (fun i hi hn hx=>hn (by rw [←hT1 i hi]; exact hx)),fun k hk=>by rw [hT' k (Nat.lt_of_lt_of_le hk hg.size),hT1 k hk]⟩
theorem IsAt.at {base:Nat} {v:Value} {l:List Int} {w:World} (h:IsAt base v l w) {k:Nat} {z:Int} (hk:l[k]?=some z):∃ g cap,v=.slice (some ⟨g,0,none⟩) l.length cap∧w.cell? ⟨g,k,none⟩=some (.int .i64 z):=by
 obtain ⟨g,cap,h1,h2⟩:=RowAt.cells h hk
 have:=h2 0 (by omega)
 rw [Nat.mul_one,Nat.add_zero] at this
 exact ⟨g,cap,h1,this⟩
set_option maxRecDepth 100000 in
set_option maxHeartbeats 4000000 in
theorem kstep_w (T:Nat→Nat) (x n:Nat) (rs:List Sv.Rule) (s:Sv.St) (p:Stp) (w:World) (h:XT T 1 x s w) (hK:Sv.KOk rs 6 n s) (hn:n≤900) (hp:p.ok) :
  Calls Tryz.prog 28 #[.pointer (some ⟨x,0,none⟩),p.agg] w fun e w'=>e=.returned (.bool true)∧GrS (fun k=>T k=1) w w'∧∃ T',XT T' 1 x (p.step s) w'∧∀ k,k < w.heap.size→T' k=T k:=by
 obtain ⟨i0,i1,i2,i3,i4,i5⟩:=hp
 have hgA:=World.grownBy_alloc w (.cells #[.int .i64 p.kd,.int .i64 p.a,.int .i64 p.v0,.int .i64 p.v1,.int .i64 p.v2,.int .i64 p.v3] 41) none
 have hnb:(w.alloc (.cells #[.int .i64 p.kd,.int .i64 p.a,.int .i64 p.v0,.int .i64 p.v1,.int .i64 p.v2,.int .i64 p.v3] 41)).heap[w.heap.size]?=some (.cells #[.int .i64 p.kd,.int .i64 p.a,.int .i64 p.v0,.int .i64 p.v1,.int .i64 p.v2,.int .i64 p.v3] 41 (0,0)):=heap_alloc_new _ _
 have hXA:=h.gr hgA (T':=T) (fun _ _=>rfl)
 have hF:=xFactsT T 1 x s _ hXA
 have hcn:s.cnt≤1000:=by have:=hK.cn; omega
 have hl6:=hK.len
 have HXA:=hide hXA
 have HGA:=hide hgA
 have HNB:=hide hnb
 unfold Stp.agg
 obtain ⟨S',hS'⟩:∃ S',p.step s=S':=⟨_,rfl⟩
 rw [hS']
 have HS:=hide hS'
 clear hXA hgA hnb h hK hS'
 go_enter Tryz.func28,Tryz.ntmps28
 go_wp2_with fail
 refine hF.mono ?_
 rintro e w1 ⟨T1,a,l,xs,rfl,hg1,hH,hrow,hxs,hT1⟩
 have hX1:=(unhide HXA).gr hg1 hT1
 have hnb1:w1.heap[w.heap.size]?=some (.cells #[.int .i64 p.kd,.int .i64 p.a,.int .i64 p.v0,.int .i64 p.v1,.int .i64 p.v2,.int .i64 p.v3] 41 (0,0)):=by rw [hg1.block _ (row_lt (unhide HNB)) (by simp)]; exact unhide HNB
 have c0:w1.cell? ⟨w.heap.size,0,none⟩=some (.int .i64 p.kd):=by simp [World.cell?,hnb1]
 have c1:w1.cell? ⟨w.heap.size,1,none⟩=some (.int .i64 p.a):=by simp [World.cell?,hnb1]
 have c2:w1.cell? ⟨w.heap.size,2,none⟩=some (.int .i64 p.v0):=by simp [World.cell?,hnb1]
 have c3:w1.cell? ⟨w.heap.size,3,none⟩=some (.int .i64 p.v1):=by simp [World.cell?,hnb1]
 have c4:w1.cell? ⟨w.heap.size,4,none⟩=some (.int .i64 p.v2):=by simp [World.cell?,hnb1]
 have c5:w1.cell? ⟨w.heap.size,5,none⟩=some (.int .i64 p.v3):=by simp [World.cell?,hnb1]
 have hgF:=gr_trans (unhide HGA) hg1
 have hTF:∀ k,k < w.heap.size→T1 k=T k:=fun k hk=>hT1 k (Nat.lt_of_lt_of_le hk (unhide HGA).size)
 obtain ⟨ao,cap,hao⟩:=hrow.1.slice
 rw [List.length_map] at hao
 subst hao
 have hpk:=kpick_w p.kd 5 i0 (by omega) (by omega) w1
 have hrg:=Sv.pick_rng p.kd 5 (by omega)
 have HX1:=hide hX1
 have HROW:=hide hrow.1
 have HGT:=hide (show w.grownBy w1 none∧∀ k,k < w.heap.size→T1 k=T k from ⟨hgF,hTF⟩)
 clear hF hX1 hnb1 hgF hTF hrow hH hxs hg1 hT1 HXA HGA HNB
 go_wp2_with fail
 refine hpk.mono ?_
 rintro e w2 ⟨rfl,hw2⟩
 subst w2
 clear hpk
 obtain ⟨k,hk⟩:∃ k,Sv.pick p.kd 5=k:=⟨_,rfl⟩
 rw [hk] at hrg ⊢
 have hE:=unhide HS
 unfold Stp.step at hE
 rw [hk] at hE
 clear hk HS
 by_cases hA:k < 3
 ·have hd1:decide (k < 3)=true:=by simpa using hA
  have hd3:(k == 3)=false:=by simp; omega
  have hd4:(k == 4)=false:=by simp; omega
  by_cases hB:s.L.length < 6
  ·have hd2:decide ((s.L.length:Int) < 6)=true:=by simp; omega
   rw [if_pos ⟨hA,hB⟩] at hE
   have HE:=hide hE
   clear hE
   have hk1:=kfact_w p.kd p.a p.v0 p.v1 p.v2 p.v3 i1 i2 i3 i4 i5 w1
   go_wp2_with fail
   refine hk1.mono ?_
   rintro e w3 ⟨fa,fc,rfl,hg3,hv3⟩
   have hA1:=kadd p (unhide HX1) (by decide) hcn (by omega) hg3 hv3
   unfold Stp.fact at hA1
   clear hk1 hg3 hv3 c0 c1 c2 c3 c4 c5
   go_wp2_with fail
   refine hA1.mono ?_
   rintro e w4 ⟨rfl,hG4,T4,hX4,hT4⟩
   have HX4:=hide hX4
   have HF:=hide (kfin (unhide HGT).1 (unhide HGT).2 hG4 hT4)
   clear hA1 hG4 hX4 hT4
   go_wp2
   go_ret
   exact ⟨rfl,(unhide HF).1,T4,by rw [←unhide HE]; exact unhide HX4,(unhide HF).2⟩
  ·have hd2:decide ((s.L.length:Int) < 6)=false:=by simp; omega
   rw [if_neg (fun hx=>hB hx.2),if_neg (fun hx=>by omega),if_neg (by omega)] at hE
   have HE:=hide hE
   clear hE
   have HF:=hide (kfin (unhide HGT).1 (unhide HGT).2 (gone_of (World.grownBy.refl w1 none)) (T':=T1) (fun _ _=>rfl))
   go_wp2
   go_ret
   exact ⟨rfl,(unhide HF).1,T1,by rw [←unhide HE]; exact unhide HX1,(unhide HF).2⟩
 ·have hd1:decide (k < 3)=false:=by simpa using hA
  rw [if_neg (fun hx=>hA hx.1)] at hE
  by_cases h3:k=3
  ·subst h3
   by_cases hB:0 < s.L.length
   ·have hd2:decide ((0:Int) < (s.L.length:Int))=true:=by simp; omega
    rw [if_pos ⟨rfl,hB⟩] at hE
    have HE:=hide hE
    clear hE
    obtain ⟨q,hq,hqi,hidx⟩:=Stp.idOf_mem (p:=p) hB
    have hpa:=kpick_w p.a s.L.length i1 (by omega) (by omega) w1
    have hpr:=Sv.pick_rng p.a s.L.length (by omega)
    obtain ⟨m,hm⟩:∃ m:Nat,Sv.pick p.a s.L.length=(m:Int):=⟨(Sv.pick p.a s.L.length).toNat,by omega⟩
    rw [hm] at hpa hpr hidx
    rw [Int.toNat_natCast] at hidx
    obtain ⟨g,cap',hg',cm⟩:=IsAt.at (unhide HROW) hidx
    rw [List.length_map] at hg'
    simp only [Value.slice.injEq,true_and] at hg'
    obtain ⟨rfl,rfl⟩:=hg'
    have hR:=xRemoveT T1 1 x s (p.idOf s) w1 (unhide HX1)
    rw [show (s.del (p.idOf s)).1=0 by rw [←hqi]; exact Sv.St.del_num s q hq] at hR
    have hml:(m:Int) < (s.L.length:Int):=hpr.2
    have hm0:(0:Int)≤(m:Int):=by omega
    clear hidx hq hqi hm
    go_wp2_with fail
    refine hpa.mono ?_
    rintro e w3 ⟨rfl,hw3⟩
    subst w3
    clear hpa
    go_wp2_with fail
    refine hR.mono ?_
    rintro e w4 ⟨rfl,hG4,T4,hX4,hT4⟩
    have HX4:=hide hX4
    have HF:=hide (kfin (unhide HGT).1 (unhide HGT).2 hG4 hT4)
    clear hR hG4 hX4 hT4 c0 c1 c2 c3 c4 c5 cm
    go_wp2
    go_ret
    exact ⟨rfl,(unhide HF).1,T4,by rw [←unhide HE]; exact unhide HX4,(unhide HF).2⟩
   ·have hd2:decide ((0:Int) < (s.L.length:Int))=false:=decide_eq_false (by omega)
    rw [if_neg (fun hx=>hB hx.2),if_neg (by omega)] at hE
    have HE:=hide hE
    clear hE
    have HF:=hide (kfin (unhide HGT).1 (unhide HGT).2 (gone_of (World.grownBy.refl w1 none)) (T':=T1) (fun _ _=>rfl))
    go_wp2
    go_ret
    exact ⟨rfl,(unhide HF).1,T1,by rw [←unhide HE]; exact unhide HX1,(unhide HF).2⟩
  ·have hk4:k=4:=by omega
   subst hk4
   rw [if_neg (fun hx=>absurd hx.1 (by decide)),if_pos rfl] at hE
   have HE:=hide hE
   clear hE
   have hR:=xFireT T1 1 13 x s w1 (unhide HX1)
   have hnum:=Sv.St.fire_num s
   obtain ⟨⟨m1,e1⟩,hm⟩:∃ z,s.fire.1=z:=⟨_,rfl⟩
   rw [hm] at hR hnum
   simp only at hnum hR
   clear c0 c1 c2 c3 c4 c5 hm
   go_wp2_with fail
   refine hR.mono ?_
   rintro e w4 ⟨fa,fc,T4,rfl,hG4,_,hX4,hT4,_⟩
   have hX5:∀ w5,w4.grownBy w5 none→XT T4 1 x s.fire.2 w5:=fun w5 hg=>hX4.gr hg (fun _ _=>rfl)
   have hF:∀ w5,w4.grownBy w5 none→GrS (fun k=>T k=1) w w5∧∀ k,k < w.heap.size→T4 k=T k:=fun w5 hg=>by
    obtain ⟨q1,q2⟩:=kfin (unhide HGT).1 (unhide HGT).2 hG4 hT4
    exact ⟨q1.then hg (by simp),q2⟩
   have HX5:=hide hX5
   have HF:=hide hF
   clear hR hX4 hG4 hT4 hX5 hF
   rcases hnum with rfl | rfl
   ·go_wp2
    go_ret
    exact ⟨rfl,(unhide HF _ (World.grownBy_alloc _ _ _)).1,T4,by rw [←unhide HE]; exact unhide HX5 _ (World.grownBy_alloc _ _ _),(unhide HF w4 (World.grownBy.refl _ _)).2⟩
   ·go_wp2
    go_ret
    exact ⟨rfl,(unhide HF _ (World.grownBy_alloc _ _ _)).1,T4,by rw [←unhide HE]; exact unhide HX5 _ (World.grownBy_alloc _ _ _),(unhide HF w4 (World.grownBy.refl _ _)).2⟩
end Go.Proofs.YtolhbeekfjnfmaaGreatDoor
namespace Go.Proofs.YtolhbeekfjnfmaaGreatDoor
open Go.RowKit
theorem Kn.weak {w:World} {x:Nat} {rs:List Sv.Rule} {m n m' n':Nat} {s:Sv.St} {T:Nat→Nat} {wr:World} (h:Kn w x rs m n s T wr) (hm:m≤m') (hn:n≤n'):Kn w x rs m' n' s T wr:=⟨h.net,h.ok.more hm hn,h.old,h.gr⟩
set_option maxRecDepth 100000 in
set_option maxHeartbeats 2000000 in
theorem krun_w (s:ByteArray) (aT aL:Addr) (w:World) (hL:LD aT aL w) (hP:3 < w.heap.size) (hm:s.size≤maxLen) (ao:Option Addr) (len cap:Nat) (hst:StpsAt ao len w) (rs:List Sv.Rule) (hrs:Sv.netOf (Sv.ktext s).data.toList=.inr rs) :
  Calls Tryz.prog 23 #[.string s,.slice ao len cap] w fun e w'=>∃ T x st,e=.returned (.pointer (some ⟨x,0,none⟩))∧Kn w x rs 6 40 st T w':=by
 have hF:=kfresh_w (fun _=>0) 1 s aT aL w hL hP hm rs hrs
 have HST:=hide hst
 clear hL hP hm hst hrs
 go_enter Tryz.func23,Tryz.ntmps23
 go_wp2_with fail
 refine hF.mono ?_
 rintro e w1 ⟨hg1,T1,x,rfl,hX,hx,hT⟩
 have H0:=hide (show Kn w x rs 6 0 ⟨rs,[],0,[]⟩ T1 w1 from ⟨hX,Sv.KOk.new rs 6,hT,hg1⟩)
 clear hF hX hx hT hg1
 go_wp2
 go_loopw [6] (fun z w'=>∃ (i:Nat) (st:Sv.St) (T:Nat→Nat),i≤len∧i≤40∧z=.int .i64 i∧Hid (Kn w x rs 6 i st T w')) (fun z _=>len - (intOf z).toNat)
 case atStart=>exact ⟨0,_,_,Nat.zero_le _,Nat.zero_le _,rfl,H0⟩
 case round=>
  clear H0
  obtain ⟨i,st,T,hi,hi40,rfl,HT⟩:=hrel
  by_cases hlt:i < len
  ·have hd:decide (i < len)=true:=by simpa using hlt
   by_cases hlt40:i < 40
   ·have hd40:decide ((i:Int) < 40)=true:=by simp; omega
    obtain ⟨g,off,p,rfl,hpok,hp⟩:=unhide HST i hlt
    obtain ⟨c0,c1,c2,c3,c4,c5⟩:=StpAt.kept hp (unhide HT).gr
    have hS:=kstep_w T x i rs st p wr (unhide HT).net (unhide HT).ok (by omega) hpok
    unfold Stp.agg at hS
    clear hp
    go_wp2_with fail
    refine hS.mono ?_
    rintro e w2 ⟨rfl,hG2,T2,hX2,hT2⟩
    have HN:=hide ((unhide HT).go hX2 (Stp.step_ok (p:=p) (unhide HT).ok) hG2 hT2)
    clear hS hG2 hX2 hT2 c0 c1 c2 c3 c4 c5
    go_wp2
    go_roundw
    case rel=>exact ⟨i+1,_,_,by omega,by omega,by go_num,HN⟩
    case measure=>simp [intOf]; omega
   ·have hd40:decide ((i:Int) < 40)=false:=by simp; omega
    go_wp2
    go_ret
    exact ⟨T,x,st,rfl,(unhide HT).weak (Nat.le_refl _) hi40⟩
  ·have hd:decide (i < len)=false:=by simpa using hlt
   go_wp2
   go_ret
   exact ⟨T,x,st,rfl,(unhide HT).weak (Nat.le_refl _) hi40⟩
def Sv.en1:Sv.St:=⟨Sv.exR2,[(1,⟨1,[7,7]⟩)],1,[]⟩
def Sv.en2:Sv.St:=⟨Sv.exR2,[(1,⟨1,[7,7]⟩),(2,⟨2,[7]⟩)],2,[]⟩
def Sv.en3:Sv.St:=⟨Sv.exR2,[(1,⟨1,[7,7]⟩),(2,⟨2,[7]⟩)],2,[(0,[1,2])]⟩
def Sv.en4:Sv.St:=⟨Sv.exR2,[(1,⟨1,[7,7]⟩)],2,[]⟩
def Sv.en5:Sv.St:=⟨Sv.exR2,[(1,⟨1,[7,7]⟩)],2,[(1,[1])]⟩
theorem Sv.en0_add:Sv.ex0.add ⟨1,[7,7]⟩=((1,0),Sv.en1):=by rfl
theorem Sv.en1_add:Sv.en1.add ⟨2,[7]⟩=((2,0),Sv.en2):=by rfl
theorem Sv.en2_fire:Sv.en2.fire=(((0,[1,2]),0),Sv.en3):=by rfl
theorem Sv.en3_del:Sv.en3.del 2=(0,Sv.en4):=by rfl
theorem Sv.en4_fire:Sv.en4.fire=(((1,[1]),0),Sv.en5):=by rfl
theorem Sv.en5_fire:Sv.en5.fire=(((0,[]),5),Sv.en5):=by rfl
theorem XT.cut {T:Nat→Nat} {t x:Nat} {s:Sv.St} {w w':World} (h:XT T t x s w) (hg:w.grownBy w' none):∃ T',XT T' t x s w'∧(∀ k,k < w.heap.size→T' k=T k)∧∀ k,w.heap.size≤k→T' k=10:=by
 obtain ⟨T',hT'⟩:∃ T':Nat→Nat,T'=fun k=>if k < w.heap.size then T k else 10:=⟨_,rfl⟩
 have h0:∀ k,k < w.heap.size→T' k=T k:=fun k hk=>by rw [hT']; dsimp only; rw [if_pos hk]
 exact ⟨T',h.gr hg h0,h0,fun k hk=>by rw [hT']; dsimp only; rw [if_neg (by omega)]⟩
end Go.Proofs.YtolhbeekfjnfmaaGreatDoor
namespace Go.Proofs.YtolhbeekfjnfmaaGreatDoor
open Go.RowKit
structure Ei (w:World) (x:Nat) (s:Sv.St) (T:Nat→Nat) (wr:World):Prop where
 net:XT T 1 x s wr
 old:∀ k,k < w.heap.size→T k=0
 gr:w.grownBy wr none
theorem Ei.go {w:World} {x:Nat} {s s':Sv.St} {T T':Nat→Nat} {wr w':World} (h:Ei w x s T wr) (hX:XT T' 1 x s' w') (hG:GrS (fun k=>T k=1) wr w') (ho:∀ k,k < wr.heap.size→T' k=T k):Ei w x s' T' w':=
 ⟨hX,fun k hk=>by rw [ho k (Nat.lt_of_lt_of_le hk h.gr.size),h.old k hk],grown_of h.gr hG (fun k hk=>by rw [h.old k hk]; decide)⟩
theorem Ei.cut {w:World} {x:Nat} {s:Sv.St} {T:Nat→Nat} {wr w':World} (h:Ei w x s T wr) (hg:wr.grownBy w' none):∃ T',Ei w x s T' w'∧(∀ k,k < wr.heap.size→T' k=T k)∧∀ k,wr.heap.size≤k→T' k=10:=by
 obtain ⟨T',h1,h2,h3⟩:=h.net.cut hg
 exact ⟨T',h.go h1 (gone_of hg) h2,h2,h3⟩
set_option maxRecDepth 100000 in
set_option maxHeartbeats 4000000 in
theorem kended_w (aT aL:Addr) (w:World) (hL:LD aT aL w) (hP:3 < w.heap.size) :
  Calls Tryz.prog 22 #[] w fun e w'=>e=.returned (.bool true)∧w.grownBy w' none:=by
 have hB:=kbegun_w aT aL w hL hP
 have hN:=fun (w1:World) (hg:w.grownBy w1 none)=>xNewT (fun _=>0) 1 ⟨Sv.exT.toArray⟩ aT aL w1 (hL.kept hg hP) (Nat.lt_of_lt_of_le hP hg.size) (by decide)
 rw [show Sv.netOf (ByteArray.mk Sv.exT.toArray).data.toList=.inr Sv.exR2 from Sv.exT_net] at hN
 simp only at hN
 unfold Sv.exT at hN
 clear hL hP
 go_enter Tryz.func22,Tryz.ntmps22
 go_wp2_with fail
 refine hB.mono ?_
 rintro e w1 ⟨rfl,hg1⟩
 have hN1:=hN w1 hg1
 clear hB hN
 go_wp2_with fail
 refine hN1.mono ?_
 rintro e w2 ⟨hg2,T2,x,rfl,hX2,hxw,hT2⟩
 have hE2:Ei w x Sv.ex0 T2 w2:=⟨hX2,fun k hk=>hT2 k (Nat.lt_of_lt_of_le hk hg1.size),gr_trans hg1 hg2⟩
 have hA1:=addNew T2 1 x Sv.ex0 ⟨1,[7,7]⟩ _ _ w2 _ hX2 (by decide) (by decide) (World.grownBy_alloc w2 (.cells #[.int .i64 7,.int .i64 7] 3) none) (inAt_lit2 w2 7 7) (by unfold maxLen; decide) (fun g hg=>by cases hg; exact Nat.le_refl _)
 rw [Sv.en0_add] at hA1
 replace hA1:Calls Tryz.prog 18 #[.pointer (some ⟨x,0,none⟩),.agg #[.int .i64 1,.slice (some ⟨w2.heap.size,0,none⟩) 2 2]] (w2.alloc (.cells #[.int .i64 7,.int .i64 7] 3)) fun e w3=>e=.returned (.tuple #[.int .i64 1,.int .i64 0])∧GrS (fun k=>T2 k=1) w2 w3∧∃ T',XT T' 1 x Sv.en1 w3∧∀ k,k < w2.heap.size→T' k=T2 k:=hA1
 have HE2:=hide hE2
 clear hE2 hX2 hxw hT2 hg1 hg2 hN1
 go_wp2_with fail
 refine hA1.mono ?_
 rintro e w3 ⟨rfl,hG3,T3,hX3,hT3⟩
 have hE3:=(unhide HE2).go hX3 hG3 hT3
 have hA2:=addNew T3 1 x Sv.en1 ⟨2,[7]⟩ _ _ w3 _ hX3 (by decide) (by decide) (World.grownBy_alloc w3 (.cells #[.int .i64 7] 3) none) (inAt_lit1 w3 7) (by unfold maxLen; decide) (fun g hg=>by cases hg; exact Nat.le_refl _)
 rw [Sv.en1_add] at hA2
 replace hA2:Calls Tryz.prog 18 #[.pointer (some ⟨x,0,none⟩),.agg #[.int .i64 2,.slice (some ⟨w3.heap.size,0,none⟩) 1 1]] (w3.alloc (.cells #[.int .i64 7] 3)) fun e w4=>e=.returned (.tuple #[.int .i64 2,.int .i64 0])∧GrS (fun k=>T3 k=1) w3 w4∧∃ T',XT T' 1 x Sv.en2 w4∧∀ k,k < w3.heap.size→T' k=T3 k:=hA2
 have HE3:=hide hE3
 clear hE3 hX3 hG3 hT3 hA1 HE2
 go_wp2_with fail
 refine hA2.mono ?_
 rintro e w4 ⟨rfl,hG4,T4,hX4,hT4⟩
 have hE4:=(unhide HE3).go hX4 hG4 hT4
 have hF1:=xFireT T4 1 10 x Sv.en2 w4 hX4
 rw [Sv.en2_fire] at hF1
 replace hF1:Calls Tryz.prog 29 #[.pointer (some ⟨x,0,none⟩)] w4 fun e w'=>∃ ao cap T',e=.returned (.tuple #[.agg #[.int .i64 0,.slice ao 2 cap],.int .i64 0])∧GrS (fun k=>T4 k=1) w4 w'∧IsAt w4.heap.size (.slice ao 2 cap) [1,2] w'∧XT T' 1 x Sv.en3 w'∧(∀ k,k < w4.heap.size→T' k=T4 k)∧∀ k,w4.heap.size≤k→T' k=10:=hF1
 have HE4:=hide hE4
 clear hE4 hX4 hG4 hT4 hA2 HE3
 go_wp2_with fail
 refine hF1.mono ?_
 rintro e w5 ⟨ao5,cap5,T5,rfl,hG5,_,hX5,hT5,_⟩
 have hE5:=(unhide HE4).go hX5 hG5 hT5
 have hgm:=World.grownBy_alloc w5 (.cells #[.int .i64 0,.slice ao5 2 cap5] 52) none
 obtain ⟨T5',hE5',_,hn5⟩:=hE5.cut hgm
 have hm5:=heap_alloc_new w5 (.cells #[.int .i64 0,.slice ao5 2 cap5] 52)
 have hR:=xRemoveT T5' 1 x Sv.en3 2 _ hE5'.net
 rw [Sv.en3_del] at hR
 simp only at hR
 have HE5:=hide (show _∧_∧_ from ⟨hE5',hm5,hn5⟩)
 clear hF1 HE4 hE5 hE5' hG5 hX5 hT5 hgm hm5 hn5
 go_wp2_with fail
 refine hR.mono ?_
 rintro e w6 ⟨rfl,hG6,T6,hX6,hT6⟩
 obtain ⟨hE5',hm5,hn5⟩:=unhide HE5
 have hE6:=hE5'.go hX6 hG6 hT6
 have hm6:=hG6.blk hm5 (by rw [hn5 _ (Nat.le_refl _)]; decide)
 have hs6:T6 w5.heap.size=10:=by rw [hT6 _ (row_lt hm5),hn5 _ (Nat.le_refl _)]
 have hF2:=xFireT T6 1 10 x Sv.en4 w6 hX6
 rw [Sv.en4_fire] at hF2
 replace hF2:Calls Tryz.prog 29 #[.pointer (some ⟨x,0,none⟩)] w6 fun e w'=>∃ ao cap T',e=.returned (.tuple #[.agg #[.int .i64 1,.slice ao 1 cap],.int .i64 0])∧GrS (fun k=>T6 k=1) w6 w'∧IsAt w6.heap.size (.slice ao 1 cap) [1] w'∧XT T' 1 x Sv.en5 w'∧(∀ k,k < w6.heap.size→T' k=T6 k)∧∀ k,w6.heap.size≤k→T' k=10:=hF2
 have HE6:=hide (show _∧_∧_ from ⟨hE6,hm6,hs6⟩)
 clear hR HE5 hE5' hE6 hG6 hX6 hT6 hm5 hn5 hm6 hs6
 go_wp2_with fail
 refine hF2.mono ?_
 rintro e w7 ⟨ao7,cap7,T7,rfl,hG7,hv7,hX7,hT7,hn7⟩
 obtain ⟨hE6,hm6,hs6⟩:=unhide HE6
 have hE7:=hE6.go hX7 hG7 hT7
 have hm7:=hG7.blk hm6 (by rw [hs6]; decide)
 have hs7:T7 w5.heap.size=10:=by rw [hT7 _ (row_lt hm6),hs6]
 have hgk:=World.grownBy_alloc w7 (.cells #[.int .i64 1,.slice ao7 1 cap7] 52) none
 obtain ⟨T7',hE7',ho7,hn7'⟩:=hE7.cut hgk
 have hk7:=heap_alloc_new w7 (.cells #[.int .i64 1,.slice ao7 1 cap7] 52)
 have hm7':=(hgk.block w5.heap.size (row_lt hm7) (by simp)).trans hm7
 have hF3:=xFireT T7' 1 10 x Sv.en5 _ hE7'.net
 rw [Sv.en5_fire] at hF3
 replace hF3:Calls Tryz.prog 29 #[.pointer (some ⟨x,0,none⟩)] (w7.alloc (.cells #[.int .i64 1,.slice ao7 1 cap7] 52)) fun e w'=>∃ ao cap T',e=.returned (.tuple #[.agg #[.int .i64 0,.slice ao 0 cap],.int .i64 5])∧GrS (fun k=>T7' k=1) (w7.alloc (.cells #[.int .i64 1,.slice ao7 1 cap7] 52)) w'∧IsAt (w7.alloc (.cells #[.int .i64 1,.slice ao7 1 cap7] 52)).heap.size (.slice ao 0 cap) [] w'∧XT T' 1 x Sv.en5 w'∧(∀ k,k < (w7.alloc (.cells #[.int .i64 1,.slice ao7 1 cap7] 52)).heap.size→T' k=T7' k)∧∀ k,(w7.alloc (.cells #[.int .i64 1,.slice ao7 1 cap7] 52)).heap.size≤k→T' k=10:=hF3
 have hv7':=hv7.gr hgk
 have hvn:∀ g,(Value.slice ao7 1 cap7).ownBlock=some g→T7' g≠1:=fun g hg=>by
  rw [ho7 g (hv7.own g hg).2,hn7 g (hv7.own g hg).1]
  decide
 have HE7:=hide (show _∧_∧_∧_∧_∧_∧_ from ⟨hE7',hm7',show T7' w5.heap.size=10 by rw [ho7 _ (row_lt hm7),hs7],hk7,hn7' w7.heap.size (Nat.le_refl _),hv7',hvn⟩)
 clear hF2 HE6 hE6 hE7 hE7' hG7 hX7 hT7 hm6 hs6 hm7 hs7 hm7' hk7 hn7 hn7' hv7 hv7' hvn ho7 hgk
 go_wp2_with fail
 refine hF3.mono ?_
 rintro e w8 ⟨ao8,cap8,T8,rfl,hG8,_,_,_,_⟩
 obtain ⟨hE7,hm7,hs7,hk7,hk7',hv7,hvn⟩:=unhide HE7
 have hm8:=hG8.blk hm7 (by rw [hs7]; decide)
 have hk8:=hG8.blk hk7 (by rw [hk7']; decide)
 have hv8:=hG8.row hv7 hvn
 have hgF:w.grownBy w8 none:=grown_of hE7.gr hG8 (fun k hk=>by rw [hE7.old k hk]; decide)
 have hgl:=World.grownBy_alloc w8 (.cells #[.int .i64 0,.slice ao8 0 cap8] 52) none
 have hm9:=(hgl.block w5.heap.size (row_lt hm8) (by simp)).trans hm8
 have hk9:=(hgl.block w7.heap.size (row_lt hk8) (by simp)).trans hk8
 have m0:=cell_of hm9 (k:=0) rfl
 have m1:=cell_of hm9 (k:=1) rfl
 have k0:=cell_of hk9 (k:=0) rfl
 have k1:=cell_of hk9 (k:=1) rfl
 obtain ⟨g,cp,hg',cm⟩:=IsAt.at (hv8.gr hgl) (k:=0) (z:=1) rfl
 simp only [List.length_cons,List.length_nil,Nat.zero_add,Value.slice.injEq,true_and] at hg'
 obtain ⟨rfl,rfl⟩:=hg'
 have HGF:=hide (gr_trans hgF hgl)
 clear hF3 HE7 hE7 hm7 hs7 hk7 hk7' hv7 hvn hm8 hk8 hv8 hgF hgl hm9 hk9 hG8
 go_wp2
 go_ret
 exact ⟨rfl,unhide HGF⟩
end Go.Proofs.YtolhbeekfjnfmaaGreatDoor
namespace Go.Proofs.YtolhbeekfjnfmaaGreatDoor
open Go.RowKit
set_option maxRecDepth 100000 in
set_option maxHeartbeats 2000000 in
theorem kless_w (a b:VFt) (w:World) (ha:IsAt 0 a.v a.vals w) (hb:IsAt 0 b.v b.vals w) (h:Sv.mLt a.mof b.mof) :
  Calls Tryz.prog 25 #[.agg #[.int .i64 a.kind,a.v],.agg #[.int .i64 b.kind,b.v]] w fun e w'=>e=.returned (.bool true)∧w.grownBy w' none:=by
 obtain ⟨ka,va,la⟩:=a
 obtain ⟨kb,vb,lb⟩:=b
 simp only at ha hb ⊢
 obtain ⟨aa,ac,rfl⟩:=ha.slice
 obtain ⟨ba,bc,rfl⟩:=hb.slice
 have hgA:=gr_al2 w (.cells #[.int .i64 ka,.slice aa la.length ac] 52) (.cells #[.int .i64 kb,.slice ba lb.length bc] 52)
 have hA0:C2 52 w.heap.size (.int .i64 ka) (.slice aa la.length ac) ((w.alloc (.cells #[.int .i64 ka,.slice aa la.length ac] 52)).alloc (.cells #[.int .i64 kb,.slice ba lb.length bc] 52)):=by
  have h1:=heap_alloc_new w (.cells #[.int .i64 ka,.slice aa la.length ac] 52)
  have h2:=World.grownBy_alloc (w.alloc (.cells #[.int .i64 ka,.slice aa la.length ac] 52)) (.cells #[.int .i64 kb,.slice ba lb.length bc] 52) none
  show _=_
  rw [h2.block _ (row_lt h1) (by simp)]
  exact h1
 have hA1:C2 52 (w.heap.size+1) (.int .i64 kb) (.slice ba lb.length bc) ((w.alloc (.cells #[.int .i64 ka,.slice aa la.length ac] 52)).alloc (.cells #[.int .i64 kb,.slice ba lb.length bc] 52)):=blk_nw (by simp)
 obtain ⟨x0,x1⟩:=hA0.c
 obtain ⟨y0,y1⟩:=hA1.c
 have hla:=ha.le
 have hlb:=hb.le
 unfold maxLen at hla hlb
 have HG:=hide hgA
 have HA:=hide (ha.gr hgA)
 have HB:=hide (hb.gr hgA)
 unfold Sv.mLt VFt.mof at h
 simp only at h
 clear hA0 hA1 ha hb hgA
 by_cases hk:ka=kb
 ·have hlex:Sv.lexLt la lb:=by
   rcases h with h | h
   ·omega
   ·exact h.2
  subst hk
  have hne:(ka != ka)=false:=by simp
  clear h
  go_enter Tryz.func25,Tryz.ntmps25
  go_wp2
  go_loopw [5] (fun z w'=>∃ i:Nat,i≤la.length∧i≤lb.length∧z=.int .i64 i∧((w.alloc (.cells #[.int .i64 ka,.slice aa la.length ac] 52)).alloc (.cells #[.int .i64 ka,.slice ba lb.length bc] 52)).grownBy w' none∧Sv.lexLt (la.drop i) (lb.drop i)) (fun z _=>la.length - (intOf z).toNat)
  case atStart=>exact ⟨0,Nat.zero_le _,Nat.zero_le _,rfl,World.grownBy.refl _ _,by simpa using hlex⟩
  case round=>
   clear hlex
   obtain ⟨i,hi,hj,rfl,hg,hlex⟩:=hrel
   have x1':=hg.cell x1 (by simp)
   have y1':=hg.cell y1 (by simp)
   by_cases hia:i < la.length
   ·have hd1:decide (i < la.length)=true:=by simpa using hia
    obtain ⟨x,hx⟩:∃ x,la[i]?=some x:=⟨la[i],List.getElem?_eq_getElem hia⟩
    by_cases hib:i < lb.length
    ·have hd2:decide (i < lb.length)=true:=by simpa using hib
     obtain ⟨y,hy⟩:∃ y,lb[i]?=some y:=⟨lb[i],List.getElem?_eq_getElem hib⟩
     rw [drop_get hx,drop_get hy] at hlex
     obtain ⟨g,cp,hv,hcs⟩:=((unhide HA).gr hg).cells hx
     obtain ⟨g2,cp2,hv2,hcs2⟩:=((unhide HB).gr hg).cells hy
     simp only [Value.slice.injEq,true_and] at hv hv2
     obtain ⟨rfl,rfl⟩:=hv
     obtain ⟨rfl,rfl⟩:=hv2
     have u0:wr.cell? ⟨g,i,none⟩=some (.int .i64 x):=by have:=hcs 0 (by omega); simpa [ienc] using this
     have v0:wr.cell? ⟨g2,i,none⟩=some (.int .i64 y):=by have:=hcs2 0 (by omega); simpa [ienc] using this
     clear hcs hcs2 hx hy
     unfold Sv.lexLt at hlex
     by_cases hxy:x=y
     ·have hlex2:Sv.lexLt (la.drop (i+1)) (lb.drop (i+1)):=by
       rcases hlex with h | h
       ·omega
       ·exact h.2
      have hdx:(x != y)=false:=by simpa using hxy
      clear hlex hxy
      go_wp2
      go_quiet (fail)
      go_wp2
      go_roundw
      case rel=>exact ⟨i+1,by omega,by omega,by go_num,gr_trans hg (gr_drewN _ _ _),hlex2⟩
      case measure=>simp [intOf]; omega
     ·have hdx:(x != y)=true:=by simpa using hxy
      have hlt:decide (x < y)=true:=by
       rcases hlex with h | h
       ·simpa using h
       ·exact absurd h.1 hxy
      have HGR:=hide (gr_trans (unhide HG) hg)
      clear hlex hxy
      go_wp2
      go_quiet (fail)
      go_wp2
      go_quiet (fail)
      go_wp2
      go_ret
      exact ⟨rfl,gr_trans (unhide HGR) (gr_trans (gr_drewN _ _ _) (gr_drewN _ _ _))⟩
    ·exfalso
     rw [drop_get hx,List.drop_of_length_le (show lb.length≤i by omega)] at hlex
     exact hlex
   ·have hd1:decide (i < la.length)=false:=by simpa using hia
    have hlt:decide (la.length < lb.length)=true:=by
     rw [decide_eq_true_eq]
     rcases Nat.lt_or_ge i lb.length with h | h
     ·omega
     ·rw [List.drop_of_length_le (show la.length≤i by omega),List.drop_of_length_le h] at hlex
      exact hlex.elim
    have HGR:=hide (gr_trans (unhide HG) hg)
    clear hlex
    go_wp2
    go_ret
    exact ⟨rfl,unhide HGR⟩
 ·have hlt:decide (ka < kb)=true:=by
   rcases h with h | h
   ·simpa using h
   ·exact absurd h.1 hk
  have hne:(ka != kb)=true:=by simpa using hk
  clear h
  go_enter Tryz.func25,Tryz.ntmps25
  go_wp2
  go_ret
  exact ⟨rfl,unhide HG⟩
end Go.Proofs.YtolhbeekfjnfmaaGreatDoor
namespace Go.Proofs.YtolhbeekfjnfmaaGreatDoor
open Go.RowKit
theorem Kn.from {w w1:World} {x:Nat} {rs:List Sv.Rule} {m n:Nat} {s:Sv.St} {T:Nat→Nat} {wr:World} (h:Kn w1 x rs m n s T wr) (hg:w.grownBy w1 none):Kn w x rs m n s T wr:=⟨h.net,h.ok,fun k hk=>h.old k (Nat.lt_of_lt_of_le hk hg.size),gr_trans hg h.gr⟩
theorem StpsAt.kept {ao:Option Addr} {len:Nat} {w w':World} (h:StpsAt ao len w) (hg:w.grownBy w' none):StpsAt ao len w':=fun k hk=>by
 obtain ⟨g,off,p,h1,h2,h3⟩:=h k hk
 exact ⟨g,off,p,h1,h2,StpAt.kept h3 hg⟩
theorem MtAt.at {v:Value} {ms:List VFt} {w:World} (h:MtAt v ms w) {i:Nat} {m:VFt} (hi:ms[i]?=some m):∃ g cap,v=.slice (some ⟨g,0,none⟩) ms.length cap∧w.cell? ⟨g,i * 2,none⟩=some (.int .i64 m.kind)∧w.cell? ⟨g,i * 2+1,none⟩=some m.v∧IsAt 0 m.v m.vals w:=by
 obtain ⟨g,cap,h1,h2⟩:=h.1.cells hi
 exact ⟨g,cap,h1,h2 0 (by omega),h2 1 (by omega),h.2 m (List.mem_of_getElem? hi)⟩
structure OrdI (st:Sv.St) (l:Value) (xs:List VFt) (a:Value) (W:World):Prop where
 ms:MtAt l xs W
 ids:IsAt 0 a (st.L.map Prod.fst) W
 sorted:∀ k x y,xs[k]?=some x→xs[k+1]?=some y→Sv.mLt x.mof y.mof
 there:∀ x∈xs,∀ y∈x.vals,y∈st.L.map Prod.fst
 asc:∀ k x y,(st.L.map Prod.fst)[k]?=some x→(st.L.map Prod.fst)[k+1]?=some y→x < y
theorem OrdI.mk' {rs:List Sv.Rule} {m n:Nat} {st:Sv.St} {l a:Value} {xs:List VFt} {W:World} (hK:Sv.KOk rs m n st) (h1:MtAt l xs W) (h2:IsAt 0 a (st.L.map Prod.fst) W) (hx:xs.map VFt.mof=Sv.matches st.rs st.L):OrdI st l xs a W:=by
 refine ⟨h1,h2,fun k x y hk hk1=>?_,fun x hm y hy=>?_,fun k x y hk hk1=>?_⟩
 ·have hs:=Sv.matches_sorted st.rs st.L hK.asc
  rw [←hx,List.pairwise_map,List.pairwise_iff_getElem] at hs
  obtain ⟨l1,e1⟩:=List.getElem?_eq_some_iff.1 hk
  obtain ⟨l2,e2⟩:=List.getElem?_eq_some_iff.1 hk1
  have:=hs k (k+1) l1 l2 (by omega)
  rw [e1,e2] at this
  exact this
 ·have hin:x.mof∈Sv.matches st.rs st.L:=by rw [←hx]; exact List.mem_map.2 ⟨x,hm,rfl⟩
  obtain ⟨p,hp,e⟩:=Sv.matches_ids st.rs st.L _ hin y hy
  exact List.mem_map.2 ⟨p,hp,e⟩
 ·have hs:=hK.asc
  rw [List.getElem?_map] at hk hk1
  cases e1:st.L[k]? with
  | none=>rw [e1] at hk; simp at hk
  | some p=>
   cases e2:st.L[k+1]? with
   | none=>rw [e2] at hk1; simp at hk1
   | some q=>
    rw [e1] at hk
    rw [e2] at hk1
    simp only [Option.map_some,Option.some.injEq] at hk hk1
    subst hk hk1
    obtain ⟨l1,f1⟩:=List.getElem?_eq_some_iff.1 e1
    obtain ⟨l2,f2⟩:=List.getElem?_eq_some_iff.1 e2
    have:=(List.pairwise_iff_getElem.1 hs) k (k+1) l1 l2 (by omega)
    rw [f1,f2] at this
    exact this
set_option maxRecDepth 100000 in
set_option maxHeartbeats 8000000 in
theorem ordered_w (w:World) (aT aL:Addr) (hL:LD aT aL w) (hP:3 < w.heap.size) (s:ByteArray) (hs:s.size≤maxLen) (ao:Option Addr) (len cap:Nat) (hst:StpsAt ao len w) :
  Calls Tryz.prog 7 #[.string s,.slice ao len cap] w fun e w'=>e=.returned (.bool true)∧w.grownBy w' none:=by
 obtain ⟨rs,hrs⟩:=Sv.ktext_net s
 have hE:=kended_w aT aL w hL hP
 have hR:=fun (w1:World) (hg:w.grownBy w1 none)=>krun_w s aT aL w1 (hL.kept hg hP) (Nat.lt_of_lt_of_le hP hg.size) hs ao len cap (hst.kept hg) rs hrs
 clear hL hP hst hs hrs
 go_enter Tryz.func7,Tryz.ntmps7
 go_wp2_with fail
 refine hE.mono ?_
 rintro e w1 ⟨rfl,hg1⟩
 have hR1:=hR w1 hg1
 clear hE hR
 go_wp2_with fail
 refine hR1.mono ?_
 rintro e w2 ⟨T2,x,st,rfl,hK1⟩
 have hK:=hK1.from hg1
 have hM:=xMatsT T2 1 x st w2 hK.net
 have HK:=hide hK
 clear hR1 hK1 hg1 hK
 go_wp2_with fail
 refine hM.mono ?_
 rintro e w3 ⟨T3,l,xs,rfl,hg3,hH3,hx3,hT3⟩
 have hK3:=(unhide HK).more hg3 hT3
 have hF:=xFactsT T3 1 x st w3 hK3.net
 obtain ⟨lo,lc,hl⟩:=hH3.mtAt.slice
 subst hl
 have HM:=hide (show _∧_∧_ from ⟨hK3,hH3.mtAt,(show xs.map VFt.mof=Sv.matches st.rs st.L from hx3)⟩)
 clear hM HK hK3 hH3 hx3 hT3 hg3
 go_wp2_with fail
 refine hF.mono ?_
 rintro e w4 ⟨T4,a,l4,xs4,rfl,hg4,hH4,hrow,hx4,hT4⟩
 obtain ⟨hK3,hM3,hx3⟩:=unhide HM
 have hO:=OrdI.mk' hK3.ok (hM3.gr hg4) hrow.1 hx3
 have hn4:xs4.length=st.L.length:=by have:=congrArg List.length hx4; simpa using this
 obtain ⟨f4,c4,hl4⟩:=hH4.row.1.slice
 rw [hn4] at hl4
 subst hl4
 obtain ⟨ia,ic,ha⟩:=hrow.1.slice
 rw [List.length_map] at ha
 subst ha
 have hgW:=gr_trans hK3.gr hg4
 have hl6:st.L.length≤6:=hK3.ok.len
 have hd6:decide ((6:Int) < (st.L.length:Int))=false:=decide_eq_false (by omega)
 have HO:=hide hO
 have HGW:=hide hgW
 have hxl:=hM3.1.le
 unfold maxLen at hxl
 clear hF HM hK3 hM3 hx3 hO hgW hH4 hrow hx4 hT4 hg4 hn4
 go_wp2
 go_loopw [10] (fun z w'=>∃ i:Nat,i≤xs.length∧z=.int .i64 i∧w4.grownBy w' none) (fun z _=>xs.length - (intOf z).toNat)
 case atStart=>exact ⟨0,Nat.zero_le _,rfl,World.grownBy.refl _ _⟩
 case round=>
  obtain ⟨i,hi,rfl,hg⟩:=hrel
  by_cases hlt:i < xs.length
  ·have hd:decide (i < xs.length)=true:=by simpa using hlt
   obtain ⟨⟨mk,mv,ml⟩,hm⟩:∃ m,xs[i]?=some m:=⟨_,List.getElem?_eq_getElem hlt⟩
   obtain ⟨g,cp,hv,x0,x1,hrow⟩:=(unhide HO).ms.at hm
   simp only [Value.slice.injEq,true_and] at hv
   obtain ⟨rfl,rfl⟩:=hv
   simp only at x0 x1 hrow
   obtain ⟨mo,mc,hmv⟩:=hrow.slice
   subst hmv
   have hml:ml.length≤9223372036854775807:=by have:=hrow.le; unfold maxLen at this; omega
   have hthere:=(unhide HO).there _ (List.mem_of_getElem? hm)
   simp only at hthere
   have hrest:∀ wx,w4.grownBy wx none→wx.cell? ⟨g,i * 2+1,none⟩=some (.slice mo ml.length mc)∧IsAt 0 (.slice mo ml.length mc) ml wx:=fun wx hx=>⟨hx.cell x1 (by simp),hrow.gr hx⟩
   have HREST:=hide hrest
   have HTH:=hide hthere
   have HX:=hide (show _∧_∧_ from ⟨hm,x0,x1⟩)
   clear hrest hthere x0 x1 hrow hm
   rcases Nat.eq_zero_or_pos i with h0 | h0
   ·have hd0:decide (0 < i)=false:=decide_eq_false (by omega)
    clear h0
    go_wp2
    go_loopw [12] (fun z w'=>∃ k:Nat,k≤ml.length∧z=.int .i64 k∧w4.grownBy w' none) (fun z _=>ml.length - (intOf z).toNat)
    case atStart=>exact ⟨0,Nat.zero_le _,rfl,hg⟩
    case round=>
     clear hg
     obtain ⟨q,hq,rfl,hg⟩:=hrel
     obtain ⟨x1,hrow⟩:=unhide HREST _ hg
     by_cases hlq:q < ml.length
     ·have hdq:decide (q < ml.length)=true:=by simpa using hlq
      obtain ⟨y,hy⟩:∃ y,ml[q]?=some y:=⟨_,List.getElem?_eq_getElem hlq⟩
      have hin:=unhide HTH y (List.mem_of_getElem? hy)
      have HY:=hide (show _∧_ from ⟨hy,hin⟩)
      clear hy hin hrow
      go_wp2
      go_loopw [13,14] (fun b z w'=>∃ j:Nat,j≤st.L.length∧b=.bool (((st.L.map Prod.fst).take j).any (fun v=>v == y))∧z=.int .i64 j∧w4.grownBy w' none) (fun _ z _=>st.L.length - (intOf z).toNat)
      case atStart=>exact ⟨0,Nat.zero_le _,by simp,rfl,hg⟩
      case round=>
       clear hg x1
       obtain ⟨j,hj,rfl,rfl,hg⟩:=hrel
       obtain ⟨x1,hrow⟩:=unhide HREST _ hg
       obtain ⟨gy,cy,hvy,y0⟩:=IsAt.at hrow (unhide HY).1
       simp only [Value.slice.injEq,true_and] at hvy
       obtain ⟨rfl,rfl⟩:=hvy
       by_cases hlj:j < st.L.length
       ·have hdj:decide (j < st.L.length)=true:=by simpa using hlj
        obtain ⟨v,hv⟩:∃ v,(st.L.map Prod.fst)[j]?=some v:=⟨_,List.getElem?_eq_getElem (by rw [List.length_map]; exact hlj)⟩
        obtain ⟨gi,ci,hvi,d0⟩:=IsAt.at ((unhide HO).ids.gr hg) hv
        simp only [List.length_map,Value.slice.injEq,true_and] at hvi
        obtain ⟨rfl,rfl⟩:=hvi
        have hnext:((st.L.map Prod.fst).take (j+1)).any (fun v=>v == y)=(((st.L.map Prod.fst).take j).any (fun v=>v == y) || (v == y)):=by rw [List.take_add_one,hv,List.any_append]; simp
        have HNX:=hide hnext
        clear hv hnext hrow
        cases hb:((st.L.map Prod.fst).take j).any (fun v=>v == y) with
        | true=>
         have HB:=hide hb
         clear hb
         go_wp2
         go_quiet (fail)
         go_wp2
         go_roundw
         case rel=>exact ⟨j+1,by omega,by rw [unhide HNX,unhide HB]; rfl,by go_num,gr_trans hg (gr_drewN _ _ _)⟩
         case measure=>simp [intOf]; omega
        | false=>
         have HB:=hide hb
         clear hb
         cases hvy:(v == y) with
         | true=>
          go_wp2
          go_quiet (fail)
          go_wp2
          go_roundw
          case rel=>exact ⟨j+1,by omega,by rw [unhide HNX,unhide HB,hvy]; rfl,by go_num,gr_trans hg (gr_drewN _ _ _)⟩
          case measure=>simp [intOf]; omega
         | false=>
          go_wp2
          go_quiet (fail)
          go_wp2
          go_roundw
          case rel=>exact ⟨j+1,by omega,by rw [unhide HNX,unhide HB,hvy]; rfl,by go_num,gr_trans hg (gr_drewN _ _ _)⟩
          case measure=>simp [intOf]; omega
       ·have hdj:decide (j < st.L.length)=false:=by simpa using hlj
        have hany:((st.L.map Prod.fst).take j).any (fun v=>v == y)=true:=by
         rw [List.take_of_length_le (by rw [List.length_map]; omega),List.any_eq_true]
         exact ⟨y,(unhide HY).2,by simp⟩
        rw [hany]
        clear hany hrow
        go_wp2
        go_roundw
        case rel=>exact ⟨q+1,by omega,by go_num,hg⟩
        case measure=>simp [intOf]; omega
     ·have hdq:decide (q < ml.length)=false:=by simpa using hlq
      go_wp2
      go_roundw
      case rel=>exact ⟨i+1,by omega,by go_num,hg⟩
      case measure=>simp [intOf]; omega
   ·obtain ⟨k,hk⟩:∃ k,i=k+1:=⟨i - 1,by omega⟩
    obtain ⟨⟨nk,nv,nl⟩,hn⟩:∃ m,xs[k]?=some m:=⟨_,List.getElem?_eq_getElem (by omega)⟩
    obtain ⟨hm,x0,x1⟩:=unhide HX
    obtain ⟨g',cp',hv',z0,z1,hrow'⟩:=(unhide HO).ms.at hn
    simp only [Value.slice.injEq,Option.some.injEq,Addr.mk.injEq,and_true,true_and] at hv'
    obtain ⟨rfl,rfl⟩:=hv'
    simp only at z0 z1 hrow'
    have hls:=fun (wx:World) (hx:w4.grownBy wx none)=>kless_w ⟨nk,nv,nl⟩ ⟨mk,.slice mo ml.length mc,ml⟩ wx (hrow'.gr hx) (unhide HREST wx hx).2 ((unhide HO).sorted k _ _ hn (by rw [←hk]; exact hm))
    obtain ⟨no,nc,hnv⟩:=hrow'.slice
    subst hnv
    simp only at hls
    have a0:=hg.cell x0 (by simp)
    have a1:=hg.cell x1 (by simp)
    have b0:=hg.cell z0 (by simp)
    have b1:=hg.cell z1 (by simp)
    have hd0:decide (0 < i)=true:=decide_eq_true (by omega)
    have hk0:(k:Int)+1 - 1=(k:Int):=by omega
    have hb1:(k:Int) < (xs.length:Int):=by omega
    have hb2:(i:Int) < (xs.length:Int):=by omega
    have HKK:=hide hk
    clear hm x0 x1 z0 z1 hrow' hn hk h0 hk0
    go_wp2_with fail
    go_cut [11] (fun r wx=>r=.bool true∧w4.grownBy wx none)
    case first=>
     have hk:=unhide HKK
     have hk0:(i:Int) - 1=(k:Int):=by omega
     have hb3:(0:Int)≤(i:Int):=by omega
     have hb5:(0:Int)≤(k:Int):=by omega
     have hwk:IntKind.i64.wrap (k:Int)=(k:Int):=by rw [IntKind.wrap_i64]; omega
     clear hk
     go_region_with (go_at_call 25; refine (hls _ (by repeat (first | assumption | apply gr_drew))).mono ?_; rintro e w7 ⟨rfl,hg7⟩)
     all_goals
      go_wp2
      go_meet
      exact ⟨rfl,gr_trans hg (gr_trans (by repeat (first | exact World.grownBy.refl _ _ | apply gr_drew)) hg7)⟩
    case rest=>
    obtain ⟨rfl,hg9⟩:=hcut
    clear hg a0 a1 b0 b1 hls
    have hg:=hg9
    clear hg9
    go_wp2
    go_loopw [12] (fun z w'=>∃ k:Nat,k≤ml.length∧z=.int .i64 k∧w4.grownBy w' none) (fun z _=>ml.length - (intOf z).toNat)
    case atStart=>exact ⟨0,Nat.zero_le _,rfl,hg⟩
    case round=>
     clear hg
     obtain ⟨q,hq,rfl,hg⟩:=hrel
     obtain ⟨x1,hrow⟩:=unhide HREST _ hg
     by_cases hlq:q < ml.length
     ·have hdq:decide (q < ml.length)=true:=by simpa using hlq
      obtain ⟨y,hy⟩:∃ y,ml[q]?=some y:=⟨_,List.getElem?_eq_getElem hlq⟩
      have hin:=unhide HTH y (List.mem_of_getElem? hy)
      have HY:=hide (show _∧_ from ⟨hy,hin⟩)
      clear hy hin hrow
      go_wp2
      go_loopw [13,14] (fun b z w'=>∃ j:Nat,j≤st.L.length∧b=.bool (((st.L.map Prod.fst).take j).any (fun v=>v == y))∧z=.int .i64 j∧w4.grownBy w' none) (fun _ z _=>st.L.length - (intOf z).toNat)
      case atStart=>exact ⟨0,Nat.zero_le _,by simp,rfl,hg⟩
      case round=>
       clear hg x1
       obtain ⟨j,hj,rfl,rfl,hg⟩:=hrel
       obtain ⟨x1,hrow⟩:=unhide HREST _ hg
       obtain ⟨gy,cy,hvy,y0⟩:=IsAt.at hrow (unhide HY).1
       simp only [Value.slice.injEq,true_and] at hvy
       obtain ⟨rfl,rfl⟩:=hvy
       by_cases hlj:j < st.L.length
       ·have hdj:decide (j < st.L.length)=true:=by simpa using hlj
        obtain ⟨v,hv⟩:∃ v,(st.L.map Prod.fst)[j]?=some v:=⟨_,List.getElem?_eq_getElem (by rw [List.length_map]; exact hlj)⟩
        obtain ⟨gi,ci,hvi,d0⟩:=IsAt.at ((unhide HO).ids.gr hg) hv
        simp only [List.length_map,Value.slice.injEq,true_and] at hvi
        obtain ⟨rfl,rfl⟩:=hvi
        have hnext:((st.L.map Prod.fst).take (j+1)).any (fun v=>v == y)=(((st.L.map Prod.fst).take j).any (fun v=>v == y) || (v == y)):=by rw [List.take_add_one,hv,List.any_append]; simp
        have HNX:=hide hnext
        clear hv hnext hrow
        cases hb:((st.L.map Prod.fst).take j).any (fun v=>v == y) with
        | true=>
         have HB:=hide hb
         clear hb
         go_wp2
         go_quiet (fail)
         go_wp2
         go_roundw
         case rel=>exact ⟨j+1,by omega,by rw [unhide HNX,unhide HB]; rfl,by go_num,gr_trans hg (gr_drewN _ _ _)⟩
         case measure=>simp [intOf]; omega
        | false=>
         have HB:=hide hb
         clear hb
         cases hvy:(v == y) with
         | true=>
          go_wp2
          go_quiet (fail)
          go_wp2
          go_roundw
          case rel=>exact ⟨j+1,by omega,by rw [unhide HNX,unhide HB,hvy]; rfl,by go_num,gr_trans hg (gr_drewN _ _ _)⟩
          case measure=>simp [intOf]; omega
         | false=>
          go_wp2
          go_quiet (fail)
          go_wp2
          go_roundw
          case rel=>exact ⟨j+1,by omega,by rw [unhide HNX,unhide HB,hvy]; rfl,by go_num,gr_trans hg (gr_drewN _ _ _)⟩
          case measure=>simp [intOf]; omega
       ·have hdj:decide (j < st.L.length)=false:=by simpa using hlj
        have hany:((st.L.map Prod.fst).take j).any (fun v=>v == y)=true:=by
         rw [List.take_of_length_le (by rw [List.length_map]; omega),List.any_eq_true]
         exact ⟨y,(unhide HY).2,by simp⟩
        rw [hany]
        clear hany hrow
        go_wp2
        go_roundw
        case rel=>exact ⟨q+1,by omega,by go_num,hg⟩
        case measure=>simp [intOf]; omega
     ·have hdq:decide (q < ml.length)=false:=by simpa using hlq
      go_wp2
      go_roundw
      case rel=>exact ⟨i+1,by omega,by go_num,hg⟩
      case measure=>simp [intOf]; omega
  ·have hd:decide (i < xs.length)=false:=by simpa using hlt
   go_wp2
   go_loopw [15] (fun z w'=>∃ k:Nat,k≤st.L.length∧z=.int .i64 ((k:Int)+1)∧w4.grownBy w' none) (fun z _=>st.L.length - (intOf z).toNat)
   case atStart=>exact ⟨0,Nat.zero_le _,rfl,hg⟩
   case round=>
    clear hg
    obtain ⟨k,hk,rfl,hg⟩:=hrel
    by_cases hlk:k+1 < st.L.length
    ·have hdk:decide ((k:Int)+1 < (st.L.length:Int))=true:=decide_eq_true (by omega)
     obtain ⟨y0,hy0⟩:∃ y,(st.L.map Prod.fst)[k]?=some y:=⟨_,List.getElem?_eq_getElem (by rw [List.length_map]; omega)⟩
     obtain ⟨y1,hy1⟩:∃ y,(st.L.map Prod.fst)[k+1]?=some y:=⟨_,List.getElem?_eq_getElem (by rw [List.length_map]; omega)⟩
     have hlt1:=(unhide HO).asc k y0 y1 hy0 hy1
     obtain ⟨gi,ci,hvi,d0⟩:=IsAt.at ((unhide HO).ids.gr hg) hy0
     obtain ⟨gj,cj,hvj,d1⟩:=IsAt.at ((unhide HO).ids.gr hg) hy1
     simp only [List.length_map,Value.slice.injEq,true_and] at hvi hvj
     obtain ⟨rfl,rfl⟩:=hvi
     simp only [Option.some.injEq,Addr.mk.injEq,and_true] at hvj
     obtain ⟨rfl,rfl⟩:=hvj
     have hdy:decide (y1≤y0)=false:=decide_eq_false (by omega)
     have hk0:(k:Int)+1 - 1=(k:Int):=by omega
     have hb1:(k:Int) < (st.L.length:Int):=by omega
     clear hy0 hy1 hlt1
     go_wp2
     go_quiet (fail)
     go_wp2
     go_roundw
     case rel=>exact ⟨k+1,by omega,by go_num,gr_trans hg (gr_drewN _ _ _)⟩
     case measure=>simp [intOf]; omega
    ·have hdk:decide ((k:Int)+1 < (st.L.length:Int))=false:=decide_eq_false (by omega)
     have HGF:=hide (gr_trans (unhide HGW) hg)
     go_wp2
     go_ret
     exact ⟨rfl,unhide HGF⟩
end Go.Proofs.YtolhbeekfjnfmaaGreatDoor
namespace Go.Proofs.YtolhbeekfjnfmaaGreatDoor
open Go.RowKit
theorem xRemN (T:Nat→Nat) (t x:Nat) (s:Sv.St) (id:Int) (w:World) (h:XT T t x s w) (hno:∀ p∈s.L,p.1≠id) :
  Calls Tryz.prog 27 #[.pointer (some ⟨x,0,none⟩),.int .i64 id] w fun e w'=>e=.returned (.int .i64 5)∧w.grownBy w' none:=by
 obtain ⟨U,nb,fv,F,chs,Zs,h1,h2,h3,h4,h5⟩:=h
 refine xRemove_no U x nb fv F s.cnt chs id w h1 (fun g hg=>?_)
 have:=hno (g.id,g.f) (by rw [←h2.facts]; exact List.mem_map.2 ⟨g,hg,rfl⟩)
 simpa using this
theorem Tryz.mk5 (w:World):(Instr.makeSlice 35 (.int .i64 5) (.int .i64 5)).run Tryz.prog w=.ok (.slice (some ⟨w.heap.size,0,none⟩) 5 5) (w.alloc (.cells #[.int .i64 0,.int .i64 0,.int .i64 0,.int .i64 0,.int .i64 0] 3)):=by kernel_rfl
theorem badSpec (w:World) (i:Nat) (hi:i < 5):∃ (f:Sv.Fact) (fa:Option Addr) (fc:Nat),Sv.factOk f=false∧f.vals.length≤5∧InAt (.slice fa f.vals.length fc) f.vals ((((w.alloc (.cells #[.int .i64 0,.int .i64 0,.int .i64 0,.int .i64 0,.int .i64 0] 3)).alloc (.cells #[.int .i64 1000000000] 3)).alloc (.cells #[.int .i64 0,.int .i64 (-1000000000)] 3)).alloc (.cells #[.int .i64 (-1),.slice none 0 0,.int .i64 10,.slice none 0 0,.int .i64 1,.slice (some ⟨w.heap.size,0,none⟩) 5 5,.int .i64 1,.slice (some ⟨w.heap.size+1,0,none⟩) 1 1,.int .i64 1,.slice (some ⟨w.heap.size+1+1,0,none⟩) 2 2] 37))∧
  ((((w.alloc (.cells #[.int .i64 0,.int .i64 0,.int .i64 0,.int .i64 0,.int .i64 0] 3)).alloc (.cells #[.int .i64 1000000000] 3)).alloc (.cells #[.int .i64 0,.int .i64 (-1000000000)] 3)).alloc (.cells #[.int .i64 (-1),.slice none 0 0,.int .i64 10,.slice none 0 0,.int .i64 1,.slice (some ⟨w.heap.size,0,none⟩) 5 5,.int .i64 1,.slice (some ⟨w.heap.size+1,0,none⟩) 1 1,.int .i64 1,.slice (some ⟨w.heap.size+1+1,0,none⟩) 2 2] 37)).cell? ⟨w.heap.size+1+1+1,i * 2,none⟩=some (.int .i64 f.kind)∧((((w.alloc (.cells #[.int .i64 0,.int .i64 0,.int .i64 0,.int .i64 0,.int .i64 0] 3)).alloc (.cells #[.int .i64 1000000000] 3)).alloc (.cells #[.int .i64 0,.int .i64 (-1000000000)] 3)).alloc (.cells #[.int .i64 (-1),.slice none 0 0,.int .i64 10,.slice none 0 0,.int .i64 1,.slice (some ⟨w.heap.size,0,none⟩) 5 5,.int .i64 1,.slice (some ⟨w.heap.size+1,0,none⟩) 1 1,.int .i64 1,.slice (some ⟨w.heap.size+1+1,0,none⟩) 2 2] 37)).cell? ⟨w.heap.size+1+1+1,i * 2+1,none⟩=some (.slice fa f.vals.length fc):=by
 obtain ⟨w1,h1⟩:∃ w1,w.alloc (.cells #[.int .i64 0,.int .i64 0,.int .i64 0,.int .i64 0,.int .i64 0] 3)=w1:=⟨_,rfl⟩
 have i1:=inAt_lit w [0,0,0,0,0] #[.int .i64 0,.int .i64 0,.int .i64 0,.int .i64 0,.int .i64 0] rfl (by unfold maxLen; decide)
 have s1:w1.heap.size=w.heap.size+1:=by rw [←h1]; simp
 rw [h1] at i1 ⊢
 obtain ⟨w2,h2⟩:∃ w2,w1.alloc (.cells #[.int .i64 1000000000] 3)=w2:=⟨_,rfl⟩
 have i2:=inAt_lit w1 [1000000000] #[.int .i64 1000000000] rfl (by unfold maxLen; decide)
 have g2:w1.grownBy w2 none:=by rw [←h2]; exact World.grownBy_alloc _ _ _
 have s2:w2.heap.size=w.heap.size+1+1:=by rw [←h2,←s1]; simp
 rw [h2] at i2 ⊢
 obtain ⟨w3,h3⟩:∃ w3,w2.alloc (.cells #[.int .i64 0,.int .i64 (-1000000000)] 3)=w3:=⟨_,rfl⟩
 have i3:=inAt_lit w2 [0,-1000000000] #[.int .i64 0,.int .i64 (-1000000000)] rfl (by unfold maxLen; decide)
 have g3:w2.grownBy w3 none:=by rw [←h3]; exact World.grownBy_alloc _ _ _
 have s3:w3.heap.size=w.heap.size+1+1+1:=by rw [←h3,←s2]; simp
 rw [h3] at i3 ⊢
 rw [s1] at i2
 rw [s2] at i3
 have g4:=World.grownBy_alloc w3 (.cells #[.int .i64 (-1),.slice none 0 0,.int .i64 10,.slice none 0 0,.int .i64 1,.slice (some ⟨w.heap.size,0,none⟩) 5 5,.int .i64 1,.slice (some ⟨w.heap.size+1,0,none⟩) 1 1,.int .i64 1,.slice (some ⟨w.heap.size+1+1,0,none⟩) 2 2] 37) none
 have hb:=heap_alloc_new w3 (.cells #[.int .i64 (-1),.slice none 0 0,.int .i64 10,.slice none 0 0,.int .i64 1,.slice (some ⟨w.heap.size,0,none⟩) 5 5,.int .i64 1,.slice (some ⟨w.heap.size+1,0,none⟩) 1 1,.int .i64 1,.slice (some ⟨w.heap.size+1+1,0,none⟩) 2 2] 37)
 rw [s3] at hb
 match i,hi with
 | 0,_=>exact ⟨⟨-1,[]⟩,none,0,rfl,by decide,.inl ⟨rfl,rfl⟩,cell_of hb rfl,cell_of hb rfl⟩
 | 1,_=>exact ⟨⟨10,[]⟩,none,0,rfl,by decide,.inl ⟨rfl,rfl⟩,cell_of hb rfl,cell_of hb rfl⟩
 | 2,_=>exact ⟨⟨1,[0,0,0,0,0]⟩,_,5,rfl,by decide,i1.gr (gr_trans g2 (gr_trans g3 g4)),cell_of hb rfl,cell_of hb rfl⟩
 | 3,_=>exact ⟨⟨1,[1000000000]⟩,_,1,rfl,by decide,i2.gr (gr_trans g3 g4),cell_of hb rfl,cell_of hb rfl⟩
 | 4,_=>exact ⟨⟨1,[0,-1000000000]⟩,_,2,rfl,by decide,i3.gr g4,cell_of hb rfl,cell_of hb rfl⟩
theorem badGr (w:World):w.grownBy ((((w.alloc (.cells #[.int .i64 0,.int .i64 0,.int .i64 0,.int .i64 0,.int .i64 0] 3)).alloc (.cells #[.int .i64 1000000000] 3)).alloc (.cells #[.int .i64 0,.int .i64 (-1000000000)] 3)).alloc (.cells #[.int .i64 (-1),.slice none 0 0,.int .i64 10,.slice none 0 0,.int .i64 1,.slice (some ⟨w.heap.size,0,none⟩) 5 5,.int .i64 1,.slice (some ⟨w.heap.size+1,0,none⟩) 1 1,.int .i64 1,.slice (some ⟨w.heap.size+1+1,0,none⟩) 2 2] 37)) none:=gr_trans (World.grownBy_alloc _ _ none) (gr_trans (World.grownBy_alloc _ _ none) (gr_trans (World.grownBy_alloc _ _ none) (World.grownBy_alloc _ _ none)))
theorem Sv.St.add_full (s:Sv.St) (f:Sv.Fact) (hf:Sv.factOk f=true) (hl:16≤s.L.length):s.add f=((0,4),s):=by
 unfold Sv.St.add
 rw [if_neg (by rw [hf]; simp),if_pos hl]
set_option maxRecDepth 100000 in
set_option maxHeartbeats 8000000 in
theorem full_w (w:World) (aT aL:Addr) (hL:LD aT aL w) (hP:3 < w.heap.size) (s:ByteArray) (hs:s.size≤maxLen) (ao:Option Addr) (len cap:Nat) (hst:StpsAt ao len w) (wrong:Int) (hwr:I64 wrong) :
  Calls Tryz.prog 11 #[.string s,.slice ao len cap,.int .i64 wrong] w fun e w'=>e=.returned (.bool true)∧w.grownBy w' none:=by
 obtain ⟨rs,hrs⟩:=Sv.ktext_net s
 have hE:=kended_w aT aL w hL hP
 have hR:=fun (w1:World) (hg:w.grownBy w1 none)=>krun_w s aT aL w1 (hL.kept hg hP) (Nat.lt_of_lt_of_le hP hg.size) hs ao len cap (hst.kept hg) rs hrs
 have HWR:=hide hwr
 clear hL hP hst hs hrs hwr
 go_enter Tryz.func11,Tryz.ntmps11
 go_wp2_with fail
 refine hE.mono ?_
 rintro e w1 ⟨rfl,hg1⟩
 have hR1:=hR w1 hg1
 clear hE hR
 go_wp2_with fail
 refine hR1.mono ?_
 rintro e w2 ⟨T2,x,st,rfl,hK1⟩
 have hK:=hK1.from hg1
 have hM:=xMatsT T2 1 x st w2 hK.net
 have HK:=hide hK
 clear hR1 hK1 hg1 hK
 go_wp2_with fail
 refine hM.mono ?_
 rintro e w3 ⟨T3,l,xs,rfl,hg3,hH3,hx3,hT3⟩
 have hK3:=(unhide HK).more hg3 hT3
 have hF:=xFactsT T3 1 x st w3 hK3.net
 obtain ⟨lo,lc,hl⟩:=hH3.mtAt.slice
 subst hl
 have HM:=hide (show _∧_∧_ from ⟨hK3,hH3.lsT,(show xs.map VFt.mof=Sv.matches st.rs st.L from hx3)⟩)
 clear hM HK hK3 hH3 hx3 hT3 hg3
 go_wp2_with fail
 refine hF.mono ?_
 rintro e w4 ⟨T4,a,l4,xs4,rfl,hg4,hH4,hrow,hx4,hT4⟩
 obtain ⟨hK3,hM3,hx3⟩:=unhide HM
 have hK4:=hK3.more hg4 hT4
 have hn4:xs4.length=st.L.length:=by have:=congrArg List.length hx4; simpa using this
 obtain ⟨f4,c4,hl4⟩:=hH4.row.1.slice
 rw [hn4] at hl4
 subst hl4
 have hids:NsT T4 a (st.L.map Prod.fst) w4:=⟨hrow.1,fun g hg=>by rw [hrow.2 g hg]; omega⟩
 obtain ⟨ia,ic,ha⟩:=hrow.1.slice
 rw [List.length_map] at ha
 subst ha
 have hl6:st.L.length≤6:=hK3.ok.len
 have HF:=hide (show _∧_∧_∧_ from ⟨hK4,hM3.gr hg4 hT4,hx3,hids⟩)
 clear hF HM hK3 hM3 hx3 hK4 hids hH4 hrow hx4 hT4 hg4 hn4
 have hmk:=Tryz.mk5
 have hsp:=badSpec w4
 have hbg:=badGr w4
 obtain ⟨WB,hWB⟩:∃ WB,((((w4.alloc (.cells #[.int .i64 0,.int .i64 0,.int .i64 0,.int .i64 0,.int .i64 0] 3)).alloc (.cells #[.int .i64 1000000000] 3)).alloc (.cells #[.int .i64 0,.int .i64 (-1000000000)] 3)).alloc (.cells #[.int .i64 (-1),.slice none 0 0,.int .i64 10,.slice none 0 0,.int .i64 1,.slice (some ⟨w4.heap.size,0,none⟩) 5 5,.int .i64 1,.slice (some ⟨w4.heap.size+1,0,none⟩) 1 1,.int .i64 1,.slice (some ⟨w4.heap.size+1+1,0,none⟩) 2 2] 37))=WB:=⟨_,rfl⟩
 rw [hWB] at hsp hbg
 have HSP:=hide hsp
 have HBG:=hide hbg
 clear hsp hbg
 go_wp2
 clear hWB
 have HID:=hide (show ∀ (j:Nat) (y:Int),(st.L.map Prod.fst)[j]?=some y→1≤y from by
  intro j y hy
  have hm:=List.mem_of_getElem? hy
  obtain ⟨p,hp,rfl⟩:=List.mem_map.1 hm
  exact ((unhide HF).1.ok.rng p hp).1)
 go_loopw [13] (fun z w'=>∃ i:Nat,i≤5∧z=.int .i64 i∧WB.grownBy w' none) (fun z _=>5 - (intOf z).toNat)
 case atStart=>exact ⟨0,Nat.zero_le _,rfl,World.grownBy.refl _ _⟩
 case round=>
  obtain ⟨i,hi,rfl,hg⟩:=hrel
  by_cases hlt:i < 5
  ·have hd:decide ((i:Int) < 5)=true:=decide_eq_true (by omega)
   obtain ⟨f,fa,fc,hno,hfl,hin,b0,b1⟩:=unhide HSP i hlt
   have c0:=hg.cell b0 (by simp)
   have c1:=hg.cell b1 (by simp)
   have hA:=xAdd_no x f fa fc wr (hin.gr hg) (by unfold maxLen; omega) hno
   clear hno hin b0 b1
   go_wp2_with fail
   refine hA.mono ?_
   rintro e w5 ⟨rfl,hg5⟩
   clear hA c0 c1
   go_wp2
   go_roundw
   case rel=>exact ⟨i+1,by omega,by go_num,gr_trans hg hg5⟩
   case measure=>simp [intOf]; omega
  ·have hd:decide ((i:Int) < 5)=false:=decide_eq_false (by omega)
   have hpk:=kpick_w wrong 1000 (unhide HWR) (by omega) (by omega) wr
   have hprg:=Sv.pick_rng wrong 1000 (by omega)
   obtain ⟨g0,hg0⟩:∃ g0,Sv.pick wrong 1000=g0:=⟨_,rfl⟩
   rw [hg0] at hpk hprg
   clear hg0
   go_wp2_with fail
   refine hpk.mono ?_
   rintro e w5 ⟨rfl,hw5⟩
   subst w5
   clear hpk
   go_wp2
   go_loopw [16,17] (fun gv z w'=>∃ (G:Int) (k:Nat),k≤st.L.length∧gv=.int .i64 G∧z=.int .i64 k∧-1≤G∧G < 1000∧(∀ j y,j < k→(st.L.map Prod.fst)[j]?=some y→y≠G)∧WB.grownBy w' none) (fun _ z _=>st.L.length - (intOf z).toNat)
   case atStart=>exact ⟨g0,0,Nat.zero_le _,rfl,rfl,by omega,by omega,fun j y hj _=>by omega,hg⟩
   case round=>
    clear hg
    obtain ⟨G,k,hk,rfl,rfl,hG1,hG2,hGn,hg⟩:=hrel
    have hgW:=gr_trans (unhide HBG) hg
    by_cases hlk:k < st.L.length
    ·have hdk:decide (k < st.L.length)=true:=by simpa using hlk
     obtain ⟨y,hy⟩:∃ y,(st.L.map Prod.fst)[k]?=some y:=⟨_,List.getElem?_eq_getElem (by rw [List.length_map]; exact hlk)⟩
     have hy1:=unhide HID k y hy
     obtain ⟨gi,ci,hvi,d0⟩:=IsAt.at ((unhide HF).2.2.2.1.gr hgW) hy
     simp only [List.length_map,Value.slice.injEq,true_and] at hvi
     obtain ⟨rfl,rfl⟩:=hvi
     have HGN:=hide hGn
     have HY:=hide hy
     clear hGn hy hgW
     cases hyG:(y == G) with
     | true=>
      have HN:=hide (show ∀ j z,j < k+1→(st.L.map Prod.fst)[j]?=some z→z≠(-1:Int) from fun j z _ hz e=>by have:=unhide HID j z hz; omega)
      go_wp2
      go_roundw
      case rel=>exact ⟨-1,k+1,by omega,rfl,by go_num,by omega,by omega,unhide HN,hg⟩
      case measure=>simp [intOf]; omega
     | false=>
      have HN:=hide (show ∀ j z,j < k+1→(st.L.map Prod.fst)[j]?=some z→z≠G from fun j z hj hz=>by
       by_cases hjk:j < k
       ·exact unhide HGN j z hjk hz
       ·have:j=k:=by omega
        subst this
        rw [unhide HY] at hz
        simp only [Option.some.injEq] at hz
        subst hz
        intro e
        rw [e] at hyG
        simp at hyG)
      go_wp2
      go_roundw
      case rel=>exact ⟨G,k+1,by omega,rfl,by go_num,hG1,hG2,unhide HN,hg⟩
      case measure=>simp [intOf]; omega
    ·have hdk:decide (k < st.L.length)=false:=by simpa using hlk
     have hno1:∀ p∈st.L,p.1≠G:=fun p hp=>by
      obtain ⟨j,hj⟩:=List.getElem?_of_mem hp
      have hjl:=(List.getElem?_eq_some_iff.1 hj).1
      exact hGn j p.1 (by omega) (by rw [List.getElem?_map,hj]; rfl)
     have hno2:∀ p∈st.L,p.1≠-1 - G:=fun p hp=>by
      obtain ⟨j,hj⟩:=List.getElem?_of_mem hp
      have:=unhide HID j p.1 (by rw [List.getElem?_map,hj]; rfl)
      omega
     have hR1:=xRemN T4 1 x st G wr ((unhide HF).1.net.gr hgW (fun _ _=>rfl)) hno1
     have HNO:=hide hno2
     clear hGn hno1 hno2
     go_wp2_with fail
     refine hR1.mono ?_
     rintro e w6 ⟨rfl,hg6⟩
     have hgW6:=gr_trans hgW hg6
     have hR2:=xRemN T4 1 x st (-1 - G) w6 ((unhide HF).1.net.gr hgW6 (fun _ _=>rfl)) (unhide HNO)
     clear hR1 HNO hgW
     go_wp2_with fail
     refine hR2.mono ?_
     rintro e w7 ⟨rfl,hg7⟩
     have hgW7:=gr_trans hgW6 hg7
     have hFa:=xFactsT T4 1 x st w7 ((unhide HF).1.net.gr hgW7 (fun _ _=>rfl))
     clear hR2 hgW6 hg7 hg6
     go_wp2_with fail
     refine hFa.mono ?_
     rintro e w8 ⟨T8,a8,l8,xs8,rfl,hg8,hH8,hrow8,hx8,hT8⟩
     have hn8:xs8.length=st.L.length:=by have:=congrArg List.length hx8; simpa using this
     obtain ⟨f8,c8,hl8⟩:=hH8.row.1.slice
     rw [hn8] at hl8
     subst hl8
     have hgW8:=gr_trans hgW7 hg8
     have hS1:=ksameN_w (st.L.map Prod.fst) (st.L.map Prod.fst) _ _ w8 ((unhide HF).2.2.2.1.gr hgW8) hrow8.1
     rw [show decide (st.L.map Prod.fst=st.L.map Prod.fst)=true from decide_eq_true rfl] at hS1
     obtain ⟨ja,jc,ha⟩:=hrow8.1.slice
     rw [List.length_map] at ha
     subst ha
     have hT8':∀ q,q < w4.heap.size→T8 q=T4 q:=fun q hq=>hT8 q (Nat.lt_of_lt_of_le hq hgW7.size)
     have HT8:=hide hT8'
     clear hFa hH8 hrow8 hx8 hT8 hT8' hn8 hg8 hgW7
     go_wp2_with fail
     refine hS1.mono ?_
     rintro e w9 ⟨rfl,hg9⟩
     have hgW9:=gr_trans hgW8 hg9
     have hM9:=xMatsT T8 1 x st w9 ((unhide HF).1.net.gr hgW9 (unhide HT8))
     clear hS1 hg9 hgW8
     go_wp2_with fail
     refine hM9.mono ?_
     rintro e w10 ⟨T10,l10,xs10,rfl,hg10,hH10,hx10,hT10⟩
     have hgW10:=gr_trans hgW9 hg10
     have hS2:=ksame_w xs10 xs _ _ w10 hH10.mtAt ((unhide HF).2.1.mtAt.gr hgW10)
     have hdS:decide (xs10.map VFt.mof=xs.map VFt.mof)=true:=decide_eq_true ((show xs10.map VFt.mof=Sv.matches st.rs st.L from hx10).trans (unhide HF).2.2.1.symm)
     rw [hdS] at hS2
     obtain ⟨mo,mc,hm10⟩:=hH10.mtAt.slice
     subst hm10
     clear hM9 hH10 hx10 hdS hT10 hg10 hgW9
     go_wp2_with fail
     refine hS2.mono ?_
     rintro e w11 ⟨rfl,hg11⟩
     have hgW11:=gr_trans hgW10 hg11
     have H0:=hide (show Kn w x rs 16 (40+st.L.length) st T4 w11∧st.L.length=st.L.length from ⟨((unhide HF).1.more hgW11 (fun _ _=>rfl)).weak (by omega) (by omega),rfl⟩)
     clear hS2 hg11 hgW10 hgW11
     go_wp2
     go_loopw [23] (fun z w'=>∃ (n:Nat) (s':Sv.St) (T':Nat→Nat),n≤16∧z=.int .i64 n∧Hid (Kn w x rs 16 (40+n) s' T' w'∧s'.L.length=n)) (fun z _=>16 - (intOf z).toNat)
     case atStart=>exact ⟨_,st,T4,by omega,rfl,hide ⟨(unhide H0).1,rfl⟩⟩
     case round=>
      clear H0
      obtain ⟨n,s',T',hn,rfl,HN⟩:=hrel
      by_cases hln:n < 16
      ·have hdn:decide ((n:Int) < 16)=true:=decide_eq_true (by omega)
       obtain ⟨hKN,hNL⟩:=unhide HN
       have hcn:=hKN.ok.cn
       have hfo:Sv.factOk ⟨9,[(n:Int),n,n,n]⟩=true:=by
        unfold Sv.factOk Sv.valOk
        simp
        omega
       have hA:=addNew T' 1 x s' ⟨9,[(n:Int),n,n,n]⟩ _ _ wr _ hKN.net (by decide) (by omega) (World.grownBy_alloc wr (.cells #[.int .i64 n,.int .i64 n,.int .i64 n,.int .i64 n] 3) none) (inAt_lit wr [(n:Int),n,n,n] #[.int .i64 n,.int .i64 n,.int .i64 n,.int .i64 n] rfl (by unfold maxLen; simp)) (by unfold maxLen; simp) (fun g hg=>by cases hg; exact Nat.le_refl _)
       have hy:=Sv.St.add_yes s' ⟨9,[(n:Int),n,n,n]⟩ hfo (by omega)
       have hKA:=hKN.ok.add ⟨9,[(n:Int),n,n,n]⟩ (by omega)
       rw [hy.1] at hA
       obtain ⟨S',hS'⟩:∃ S',(s'.add ⟨9,[(n:Int),n,n,n]⟩).2=S':=⟨_,rfl⟩
       rw [hS'] at hA hy hKA
       simp only [List.length_cons,List.length_nil] at hA
       have HKN:=hide hKN
       have HY:=hide (show _∧_ from ⟨hy.2.2.1,hKA⟩)
       clear hKN hy hfo hS' HN hcn hKA
       go_wp2_with fail
       refine hA.mono ?_
       rintro e w12 ⟨rfl,hG12,T12,hX12,hT12⟩
       have HN2:=hide (show Kn w x rs 16 (40+(n+1)) S' T12 w12∧S'.L.length=n+1 from ⟨(unhide HKN).go hX12 (unhide HY).2 hG12 hT12,by rw [(unhide HY).1,hNL]⟩)
       clear hA hG12 hX12 hT12
       go_wp2
       go_roundw
       case rel=>exact ⟨n+1,_,_,by omega,by go_num,HN2⟩
       case measure=>simp [intOf]; omega
      ·have hdn:decide ((n:Int) < 16)=false:=decide_eq_false (by omega)
       obtain ⟨hKN,hNL⟩:=unhide HN
       have hcn:=hKN.ok.cn
       have hA:=addNew T' 1 x s' ⟨9,[]⟩ none 0 wr wr hKN.net (by decide) (by omega) (World.grownBy.refl _ _) (.inl ⟨rfl,rfl⟩) (by unfold maxLen; simp) (fun g hg=>by cases hg)
       rw [Sv.St.add_full s' ⟨9,[]⟩ rfl (by omega)] at hA
       simp only [List.length_nil] at hA
       have HKN:=hide hKN
       clear hKN hcn HN
       go_wp2_with fail
       refine hA.mono ?_
       rintro e w12 ⟨rfl,hG12,T12,hX12,hT12⟩
       have HGF:=hide (grown_of (unhide HKN).gr hG12 (fun q hq=>by rw [(unhide HKN).old q hq]; decide))
       clear hA hG12 hX12 hT12
       go_wp2
       go_ret
       exact ⟨rfl,unhide HGF⟩
end Go.Proofs.YtolhbeekfjnfmaaGreatDoor
namespace Go.Proofs.YtolhbeekfjnfmaaGreatDoor
open Go.RowKit
structure Un (w:World) (x y:Nat) (st u:Sv.St) (a l4 l:Value) (xs4 xs:List VFt) (T:Nat→Nat) (wr:World):Prop where
 nx:XT T 1 x st wr
 ny:XT T 2 y u wr
 old:∀ k,k < w.heap.size→T k=0
 gr:w.grownBy wr none
 ids:NsT T a (st.L.map Prod.fst) wr
 fs:LsT 37 T l4 xs4 wr
 ms:LsT 52 T l xs wr
theorem Un.more {w:World} {x y:Nat} {st u:Sv.St} {a l4 l:Value} {xs4 xs:List VFt} {T T':Nat→Nat} {wr w':World} (h:Un w x y st u a l4 l xs4 xs T wr) (hg:wr.grownBy w' none) (ho:∀ k,k < wr.heap.size→T' k=T k):Un w x y st u a l4 l xs4 xs T' w':=
 ⟨h.nx.gr hg ho,h.ny.gr hg ho,fun k hk=>by rw [ho k (Nat.lt_of_lt_of_le hk h.gr.size),h.old k hk],gr_trans h.gr hg,h.ids.gr hg ho,h.fs.gr hg ho,h.ms.gr hg ho⟩
theorem Un.second {w:World} {x y:Nat} {st u u':Sv.St} {a l4 l:Value} {xs4 xs:List VFt} {T T':Nat→Nat} {wr w':World} (h:Un w x y st u a l4 l xs4 xs T wr) (hX:XT T' 2 y u' w') (hG:GrS (fun k=>T k=2) wr w') (ho:∀ k,k < wr.heap.size→T' k=T k):Un w x y st u' a l4 l xs4 xs T' w':=
 ⟨h.nx.keep hG (fun k hk e=>by rcases hk with hk | hk<;>omega) (fun k hk _=>ho k hk),hX,fun k hk=>by rw [ho k (Nat.lt_of_lt_of_le hk h.gr.size),h.old k hk],grown_of h.gr hG (fun k hk=>by rw [h.old k hk]; decide),h.ids.go hG (fun k hk=>by omega) ho,h.fs.go hG (fun k hk=>by omega) ho,h.ms.go hG (fun k hk=>by omega) ho⟩
theorem LsT.at {e:TypeId} {T:Nat→Nat} {v:Value} {ms:List VFt} {w:World} (h:LsT e T v ms w) {i:Nat} {m:VFt} (hi:ms[i]?=some m):∃ g cap,v=.slice (some ⟨g,0,none⟩) ms.length cap∧w.cell? ⟨g,i * 2,none⟩=some (.int .i64 m.kind)∧w.cell? ⟨g,i * 2+1,none⟩=some m.v∧NsT T m.v m.vals w:=by
 obtain ⟨g,cap,h1,h2⟩:=h.row.cells hi
 exact ⟨g,cap,h1,h2 0 (by omega),h2 1 (by omega),h.els m (List.mem_of_getElem? hi)⟩
structure Nu (rs:List Sv.Rule) (fs:List Sv.Fact) (i:Nat) (u:Sv.St):Prop where
 rs:u.rs=rs
 L:u.L=Sv.numb 0 (fs.take i)
 cnt:u.cnt=i
theorem Nu.add {rs:List Sv.Rule} {fs:List Sv.Fact} {i:Nat} {u:Sv.St} (h:Nu rs fs i u) {f:Sv.Fact} (hf:fs[i]?=some f) (hok:Sv.factOk f=true) (hi:i < 16):(u.add f).1=((i:Int)+1,0)∧Nu rs fs (i+1) (u.add f).2:=by
 have hil:=(List.getElem?_eq_some_iff.1 hf).1
 have hlen:u.L.length=i:=by rw [h.L,Sv.numb_len,List.length_take]; omega
 unfold Sv.St.add
 rw [if_neg (by rw [hok]; simp),if_neg (by omega)]
 refine ⟨by rw [h.cnt],h.rs,?_,by show u.cnt+1=_; rw [h.cnt]; omega⟩
 show u.L ++ [(u.cnt+1,f)]=_
 rw [h.L,h.cnt,List.take_add_one,hf]
 have:=Sv.numb_snoc f (fs.take i) 0
 rw [List.length_take,Nat.min_eq_left (Nat.le_of_lt hil),Nat.zero_add] at this
 exact this.symm
structure Two2 (st:Sv.St) (xs xs6:List VFt):Prop where
 len:xs6.length=xs.length
 pl:∀ (i:Nat) (m k:VFt),xs[i]?=some m→xs6[i]?=some k→k.kind=m.kind∧k.vals.length=m.vals.length∧∀ (j:Nat) (p:Int),k.vals[j]?=some p→∃ (q:Nat) (z:Int),p=(q:Int)+1∧q < st.L.length∧(st.L.map Prod.fst)[q]?=some z∧m.vals[j]?=some z
theorem Two2.mk' {st u:Sv.St} {xs xs6:List VFt} (hx:xs.map VFt.mof=Sv.matches st.rs st.L) (hx6:xs6.map VFt.mof=Sv.matches u.rs u.L) (hu:Nu st.rs (st.L.map Prod.snd) st.L.length u):Two2 st xs xs6:=by
 have hL:u.L=Sv.numb 0 (st.L.map Prod.snd):=by rw [hu.L,List.take_of_length_le (by rw [List.length_map]; exact Nat.le_refl _)]
 have key:xs.map VFt.mof=(xs6.map VFt.mof).map (fun m=>(m.1,m.2.map (Sv.idAt (st.L.map Prod.fst)))):=by rw [hx,hx6,hu.rs,hL]; exact Sv.matches_numb st.rs st.L
 have hlen:xs6.length=xs.length:=by have:=congrArg List.length key; simpa using this.symm
 refine ⟨hlen,fun i m k hm hk=>?_⟩
 have hi:=congrArg (fun l:List (Int×List Int)=>l[i]?) key
 simp only [List.getElem?_map,hm,hk,Option.map_some,Option.some.injEq,VFt.mof,Prod.mk.injEq] at hi
 refine ⟨hi.1.symm,by rw [hi.2,List.length_map],fun j p hp=>?_⟩
 have hin:k.mof∈Sv.matches u.rs u.L:=by rw [←hx6]; exact List.mem_map.2 ⟨k,List.mem_of_getElem? hk,rfl⟩
 obtain ⟨r,hr,e⟩:=Sv.matches_ids u.rs u.L _ hin p (List.mem_of_getElem? hp)
 rw [hL] at hr
 have hrg:=Sv.numb_fst _ 0 r hr
 rw [e,List.length_map] at hrg
 obtain ⟨q,hq⟩:∃ q:Nat,p=(q:Int)+1:=⟨(p - 1).toNat,by omega⟩
 have hql:q < st.L.length:=by omega
 obtain ⟨z,hz⟩:∃ z,(st.L.map Prod.fst)[q]?=some z:=⟨_,List.getElem?_eq_getElem (by rw [List.length_map]; exact hql)⟩
 refine ⟨q,z,hq,hql,hz,?_⟩
 rw [hi.2,List.getElem?_map,hp]
 simp only [Option.map_some,Option.some.injEq]
 unfold Sv.idAt
 rw [hq,show ((q:Int)+1 - 1).toNat=q by omega,hz]
 rfl
set_option maxRecDepth 100000 in
set_option maxHeartbeats 8000000 in
theorem undone_w (w:World) (aT aL:Addr) (hL:LD aT aL w) (hP:3 < w.heap.size) (s:ByteArray) (hs:s.size≤maxLen) (ao:Option Addr) (len cap:Nat) (hst:StpsAt ao len w) (p:Stp) (hp:p.ok) :
  Calls Tryz.prog 8 #[.string s,.slice ao len cap,p.agg] w fun e w'=>e=.returned (.bool true)∧w.grownBy w' none:=by
 obtain ⟨rs,hrs⟩:=Sv.ktext_net s
 have hgA:=World.grownBy_alloc w (.cells #[.int .i64 p.kd,.int .i64 p.a,.int .i64 p.v0,.int .i64 p.v1,.int .i64 p.v2,.int .i64 p.v3] 41) none
 have hnb:=heap_alloc_new w (.cells #[.int .i64 p.kd,.int .i64 p.a,.int .i64 p.v0,.int .i64 p.v1,.int .i64 p.v2,.int .i64 p.v3] 41)
 have hE:=kended_w aT aL _ (hL.kept hgA hP) (Nat.lt_of_lt_of_le hP hgA.size)
 have hR:=fun (w1:World) (hg:w.grownBy w1 none)=>krun_w s aT aL w1 (hL.kept hg hP) (Nat.lt_of_lt_of_le hP hg.size) hs ao len cap (hst.kept hg) rs hrs
 have hU:=fun (T:Nat→Nat) (w1:World) (hg:w.grownBy w1 none)=>kfresh_w T 2 s aT aL w1 (hL.kept hg hP) (Nat.lt_of_lt_of_le hP hg.size) hs rs hrs
 obtain ⟨WA,hWA⟩:∃ WA,w.alloc (.cells #[.int .i64 p.kd,.int .i64 p.a,.int .i64 p.v0,.int .i64 p.v1,.int .i64 p.v2,.int .i64 p.v3] 41)=WA:=⟨_,rfl⟩
 rw [hWA] at hgA hnb hE
 have HP:=hide hp
 have HGA:=hide hgA
 have HNB:=hide hnb
 unfold Stp.agg
 clear hL hP hst hs hrs hp hgA hnb
 go_enter Tryz.func8,Tryz.ntmps8
 go_wp2_with fail
 refine hE.mono ?_
 rintro e w1 ⟨rfl,hg1⟩
 have hR1:=hR w1 (gr_trans (unhide HGA) hg1)
 clear hE hR hWA
 go_wp2_with fail
 refine hR1.mono ?_
 rintro e w2 ⟨T2,x,st,rfl,hK1⟩
 have hK:=hK1.from hg1
 have hU1:=hU T2 w2 (gr_trans (unhide HGA) hK.gr)
 have HK:=hide hK
 clear hR1 hK1 hg1 hK hU
 go_wp2_with fail
 refine hU1.mono ?_
 rintro e w3 ⟨hg3,T3,y,rfl,hY3,_,hT3⟩
 have hK3:=(unhide HK).more hg3 hT3
 have hF:=xFactsT T3 1 x st w3 hK3.net
 have HK3:=hide (show _∧_ from ⟨hK3,hY3⟩)
 clear hU1 HK hK3 hY3 hT3 hg3
 go_wp2_with fail
 refine hF.mono ?_
 rintro e w4 ⟨T4,a,l4,xs4,rfl,hg4,hH4,hrow,hx4,hT4⟩
 have hK4:=(unhide HK3).1.more hg4 hT4
 have hM:=xMatsT T4 1 x st w4 hK4.net
 have hn4:xs4.length=st.L.length:=by have:=congrArg List.length hx4; simpa using this
 obtain ⟨f4,c4,hl4⟩:=hH4.row.1.slice
 subst hl4
 obtain ⟨ia,ic,ha⟩:=hrow.1.slice
 rw [List.length_map] at ha
 subst ha
 have HK4:=hide (show _∧_∧_∧_∧_ from ⟨hK4,(unhide HK3).2.gr hg4 hT4,hH4.lsT,(show NsT T4 _ _ w4 from ⟨hrow.1,fun g hg=>by rw [hrow.2 g hg]; omega⟩),hx4⟩)
 clear hF HK3 hK4 hH4 hrow hx4 hT4 hg4
 go_wp2_with fail
 refine hM.mono ?_
 rintro e w5 ⟨T5,l,xs,rfl,hg5,hH5,hx5,hT5⟩
 obtain ⟨lo,lc,hl⟩:=hH5.mtAt.slice
 subst hl
 have hlx:=hH5.mtAt.1.le
 unfold maxLen at hlx
 have HK5:=hide (show _∧_∧_ from ⟨(unhide HK4).1.ok,(unhide HK4).2.2.2.2,(show xs.map VFt.mof=Sv.matches st.rs st.L from hx5)⟩)
 have H0:=hide (show Un WA x y st ⟨rs,[],0,[]⟩ (.slice ia st.L.length ic) (.slice f4 xs4.length c4) (.slice lo xs.length lc) xs4 xs T5 w5 from by
  obtain ⟨k1,k2,k3,k4,_⟩:=unhide HK4
  exact ⟨k1.net.gr hg5 hT5,k2.gr hg5 hT5,fun k hk=>by rw [hT5 k (Nat.lt_of_lt_of_le hk k1.gr.size),k1.old k hk],gr_trans k1.gr hg5,k4.gr hg5 hT5,k3.gr hg5 hT5,hH5.lsT⟩)
 have hl6:st.L.length≤6:=(unhide HK5).1.len
 clear hM HK4 hH5 hx5 hT5 hg5
 go_wp2
 go_loopw [13] (fun z w'=>∃ (i:Nat) (u:Sv.St) (T:Nat→Nat),i≤st.L.length∧z=.int .i64 i∧Hid (Un WA x y st u (.slice ia st.L.length ic) (.slice f4 xs4.length c4) (.slice lo xs.length lc) xs4 xs T w'∧Nu rs (st.L.map Prod.snd) i u)) (fun z _=>st.L.length - (intOf z).toNat)
 case atStart=>exact ⟨0,_,_,Nat.zero_le _,rfl,hide ⟨unhide H0,rfl,rfl,rfl⟩⟩
 case round=>
  clear H0
  obtain ⟨i,u,T,hi,rfl,HN⟩:=hrel
  by_cases hlt:i < st.L.length
  ·have hd:decide (i < xs4.length)=true:=by rw [hn4]; simpa using hlt
   obtain ⟨hUn,hNu⟩:=unhide HN
   obtain ⟨hok,hx4,_⟩:=unhide HK5
   obtain ⟨⟨fk,fv,fl⟩,hf⟩:∃ m,xs4[i]?=some m:=⟨_,List.getElem?_eq_getElem (by rw [hn4]; exact hlt)⟩
   obtain ⟨g,cp,hv,x0,x1,hrow⟩:=hUn.fs.at hf
   simp only [Value.slice.injEq,true_and] at hv
   obtain ⟨rfl,rfl⟩:=hv
   simp only at x0 x1 hrow
   obtain ⟨fo,fc,hfv⟩:=hrow.1.slice
   subst hfv
   have hfi:(st.L.map Prod.snd)[i]?=some ⟨fk,fl⟩:=by rw [←hx4,List.getElem?_map,hf]; rfl
   have hfo:Sv.factOk ⟨fk,fl⟩=true:=by
    obtain ⟨q,hq,e⟩:=List.mem_map.1 (List.mem_of_getElem? hfi)
    rw [←e]
    exact hok.fok q hq
   obtain ⟨hn1,hNu2⟩:=hNu.add hfi hfo (by omega)
   have hA:=xAddT T 2 y u ⟨fk,fl⟩ fo fc wr hUn.ny (by rw [hNu.cnt]; omega) hrow.1.inAt hrow.1.le (fun g hg=>by have:=hrow.2 g hg; omega)
   rw [hn1] at hA
   simp only at hA
   have HU:=hide (show _∧_ from ⟨hUn,hNu2⟩)
   clear hUn hNu hok hx4 hrow hfi hfo hn1 hNu2 HN hf
   go_wp2_with fail
   refine hA.mono ?_
   rintro e w6 ⟨rfl,hG6,T6,hX6,hT6⟩
   have HN2:=hide (show Un WA x y st (u.add ⟨fk,fl⟩).2 _ _ _ _ _ T6 w6∧Nu rs (st.L.map Prod.snd) (i+1) (u.add ⟨fk,fl⟩).2 from ⟨(unhide HU).1.second hX6 hG6 hT6,(unhide HU).2⟩)
   clear hA hG6 hX6 hT6 x0 x1 HU
   go_wp2
   go_roundw
   case rel=>exact ⟨i+1,_,_,by omega,by go_num,HN2⟩
   case measure=>simp [intOf]; omega
  ·have hd:decide (i < xs4.length)=false:=by rw [hn4]; simpa using hlt
   have hie:i=st.L.length:=by omega
   obtain ⟨hUn,hNu⟩:=unhide HN
   obtain ⟨hok,hx4,hx⟩:=unhide HK5
   have hM6:=xMatsT T 2 y u wr hUn.ny
   have HU:=hide (show _∧_ from ⟨hUn,hNu⟩)
   have HIE:=hide hie
   clear hUn hNu hok hx4 hx HN hie
   go_wp2_with fail
   refine hM6.mono ?_
   rintro e w6 ⟨T6,l6,xs6,rfl,hg6,hH6,hx6,hT6⟩
   obtain ⟨hUn,hNu⟩:=unhide HU
   rw [unhide HIE] at hNu
   obtain ⟨hok,_,hx⟩:=unhide HK5
   have hrs:st.rs=rs:=hok.rs
   have h22:Two2 st xs xs6:=Two2.mk' hx hx6 (by rw [hrs]; exact hNu)
   have hUn6:=hUn.more hg6 hT6
   obtain ⟨mo,mc,hl6'⟩:=hH6.mtAt.slice
   subst hl6'
   have hlen6:=h22.len
   have hneq:((xs6.length:Int) != (xs.length:Int))=false:=by simp; omega
   have HU6:=hide (show _∧_∧_ from ⟨hUn6,hH6.mtAt,h22⟩)
   clear hM6 hUn hNu hok hx hrs h22 hUn6 hH6 hx6 hT6 hg6 HU HIE
   go_wp2
   go_loopw [17] (fun z w'=>∃ i:Nat,i≤xs6.length∧z=.int .i64 i∧w6.grownBy w' none) (fun z _=>xs6.length - (intOf z).toNat)
   case atStart=>exact ⟨0,Nat.zero_le _,rfl,World.grownBy.refl _ _⟩
   case round=>
    obtain ⟨i,hi,rfl,hg⟩:=hrel
    by_cases hlt:i < xs6.length
    ·have hd:decide (i < xs6.length)=true:=by simpa using hlt
     obtain ⟨hUn,hM6,h22⟩:=unhide HU6
     obtain ⟨⟨kk,kv,kl⟩,hk⟩:∃ m,xs6[i]?=some m:=⟨_,List.getElem?_eq_getElem hlt⟩
     obtain ⟨⟨mk,mv,ml⟩,hm⟩:∃ m,xs[i]?=some m:=⟨_,List.getElem?_eq_getElem (by omega)⟩
     obtain ⟨e1,e2,e3⟩:=h22.pl i _ _ hm hk
     simp only at e1 e2 e3
     subst e1
     obtain ⟨g6,cp6,hv6,x0,x1,hrk⟩:=hM6.at hk
     simp only [Value.slice.injEq,true_and] at hv6
     obtain ⟨rfl,rfl⟩:=hv6
     obtain ⟨gl,cpl,hvl,y0,y1,hrm⟩:=hUn.ms.at hm
     simp only [Value.slice.injEq,true_and] at hvl
     obtain ⟨rfl,rfl⟩:=hvl
     simp only at x0 x1 hrk y0 y1 hrm
     obtain ⟨ko,kc,hkv⟩:=hrk.slice
     obtain ⟨no,nc,hmv⟩:=hrm.1.slice
     subst hkv hmv
     have hkl:kl.length≤9223372036854775807:=by have:=hrk.le; unfold maxLen at this; omega
     have hb1:(i:Int) < (xs.length:Int):=by omega
     have hne2:((kl.length:Int) != (ml.length:Int))=false:=by simp; omega
     have HC:=hide (fun (wx:World) (hx:w6.grownBy wx none)=>show (wx.cell? ⟨g6,i * 2,none⟩=some (.int .i64 kk)∧wx.cell? ⟨g6,i * 2+1,none⟩=some (.slice ko kl.length kc)∧wx.cell? ⟨gl,i * 2,none⟩=some (.int .i64 kk)∧wx.cell? ⟨gl,i * 2+1,none⟩=some (.slice no ml.length nc))∧IsAt 0 (.slice ko kl.length kc) kl wx∧IsAt 0 (.slice no ml.length nc) ml wx∧IsAt 0 (.slice ia st.L.length ic) (st.L.map Prod.fst) wx from ⟨⟨hx.cell x0 (by simp),hx.cell x1 (by simp),hx.cell y0 (by simp),hx.cell y1 (by simp)⟩,hrk.gr hx,hrm.1.gr hx,hUn.ids.1.gr hx⟩)
     have HE3:=hide e3
     have HE2:=hide e2
     clear hUn hM6 h22 hk hm x0 x1 y0 y1 hrk hrm e2 e3
     obtain ⟨⟨z0,z1,z2,z3⟩,_,_,_⟩:=unhide HC _ hg
     go_wp2
     go_quiet (fail)
     have hgd:=hide (fun n=>gr_trans hg (gr_drewN wr n none))
     clear hg z0 z1 z2 z3
     go_wp2
     go_loopw [18] (fun z w'=>∃ j:Nat,j≤kl.length∧z=.int .i64 j∧w6.grownBy w' none) (fun z _=>kl.length - (intOf z).toNat)
     case atStart=>exact ⟨0,Nat.zero_le _,rfl,unhide hgd _⟩
     case round=>
      clear hgd
      obtain ⟨j,hj,rfl,hg⟩:=hrel
      obtain ⟨⟨z0,z1,z2,z3⟩,hrk,hrm,hri⟩:=unhide HC _ hg
      by_cases hlj:j < kl.length
      ·have hdj:decide (j < kl.length)=true:=by simpa using hlj
       obtain ⟨pv,hpv⟩:∃ pv,kl[j]?=some pv:=⟨_,List.getElem?_eq_getElem hlj⟩
       obtain ⟨q,z,rfl,hq,hz,hmz⟩:=unhide HE3 j pv hpv
       obtain ⟨gk,ck,hvk,d0⟩:=IsAt.at hrk hpv
       obtain ⟨gm,cm,hvm,d1⟩:=IsAt.at hrm hmz
       obtain ⟨gi,ci,hvi,d2⟩:=IsAt.at hri hz
       simp only [List.length_map,Value.slice.injEq,true_and] at hvk hvm hvi
       obtain ⟨rfl,rfl⟩:=hvk
       obtain ⟨rfl,rfl⟩:=hvm
       obtain ⟨rfl,rfl⟩:=hvi
       have hp1:decide ((q:Int)+1 < 1)=false:=decide_eq_false (by omega)
       have hp2:decide ((st.L.length:Int) < (q:Int)+1)=false:=decide_eq_false (by omega)
       have hq0:(q:Int)+1 - 1=(q:Int):=by omega
       have hq1:(q:Int) < (st.L.length:Int):=by omega
       have hq2:(0:Int)≤(q:Int):=by omega
       have hq3:IntKind.i64.wrap (q:Int)=(q:Int):=by rw [IntKind.wrap_i64]; omega
       have hml:j < ml.length:=by rw [←unhide HE2]; exact hlj
       have hq4:(j:Int) < (ml.length:Int):=by omega
       have hzz:(z != z)=false:=by simp
       clear hrk hrm hri hpv hz hmz
       go_wp2
       go_quiet (fail)
       go_wp2
       go_roundw
       case rel=>exact ⟨j+1,by omega,by go_num,gr_trans hg (gr_drewN _ _ _)⟩
       case measure=>simp [intOf]; omega
      ·have hdj:decide (j < kl.length)=false:=by simpa using hlj
       clear hrk hrm hri
       go_wp2
       go_roundw
       case rel=>exact ⟨i+1,by omega,by go_num,hg⟩
       case measure=>simp [intOf]; omega
    ·have hd:decide (i < xs6.length)=false:=by simpa using hlt
     obtain ⟨hUn,_,_⟩:=unhide HU6
     obtain ⟨hok,_,hx⟩:=unhide HK5
     have hUn7:=hUn.more hg (T':=T6) (fun _ _=>rfl)
     have hnb:wr.heap[w.heap.size]?=_:=(hUn7.gr.block w.heap.size (row_lt (unhide HNB)) (by simp)).trans (unhide HNB)
     have c0:=cell_of hnb (k:=0) rfl
     have c1:=cell_of hnb (k:=1) rfl
     have c2:=cell_of hnb (k:=2) rfl
     have c3:=cell_of hnb (k:=3) rfl
     have c4':=cell_of hnb (k:=4) rfl
     have c5:=cell_of hnb (k:=5) rfl
     obtain ⟨i0,i1,i2,i3,i4,i5⟩:=unhide HP
     have hc40:=hok.cn
     have hk1:=kfact_w p.kd p.a p.v0 p.v1 p.v2 p.v3 i1 i2 i3 i4 i5 wr
     have HUn7:=hide hUn7
     clear hUn hok hx hUn7 hnb hg
     go_wp2_with fail
     refine hk1.mono ?_
     rintro e w7 ⟨fa,fc,rfl,hg7,hv7⟩
     have hA1:=kadd p (unhide HUn7).nx (by decide) (by omega) (by omega) hg7 hv7
     unfold Stp.fact at hA1
     clear hk1 hg7 hv7 c0 c1 c2 c3 c4' c5
     go_wp2_with fail
     refine hA1.mono ?_
     rintro e w8 ⟨rfl,hG8,T8,hX8,hT8⟩
     have hms8:=(unhide HUn7).ms.go hG8 one_le hT8
     have hgr8:WA.grownBy w8 none:=grown_of (unhide HUn7).gr hG8 (fun k hk=>by rw [(unhide HUn7).old k hk]; decide)
     have hold8:∀ k,k < WA.heap.size→T8 k=0:=fun k hk=>by rw [hT8 k (Nat.lt_of_lt_of_le hk (unhide HUn7).gr.size),(unhide HUn7).old k hk]
     obtain ⟨hok,_,hx⟩:=unhide HK5
     have had:=Sv.St.add_del st p.fact (Sv.kfact_ok _ _ _ _ _) (by omega) (fun q hq=>(hok.rng q hq).2)
     have hR9:=xRemoveT T8 1 x (st.add p.fact).2 (st.cnt+1) w8 hX8
     rw [had.1] at hR9
     have HX8:=hide (show _∧_∧_∧_ from ⟨hms8,hgr8,hold8,had.2⟩)
     clear hA1 hG8 hX8 hT8 hms8 hgr8 hold8 had hok hx HUn7
     go_wp2_with fail
     refine hR9.mono ?_
     rintro e w9 ⟨rfl,hG9,T9,hX9,hT9⟩
     obtain ⟨hms8,hgr8,hold8,had⟩:=unhide HX8
     have hms9:=hms8.go hG9 one_le hT9
     have hgr9:WA.grownBy w9 none:=grown_of hgr8 hG9 (fun k hk=>by rw [hold8 k hk]; decide)
     have hM10:=xMatsT T9 1 x _ w9 hX9
     rw [had.1,had.2] at hM10
     have HX9:=hide (show _∧_ from ⟨hms9,hgr9⟩)
     clear hR9 hG9 hX9 hT9 hms8 hgr8 hold8 had hms9 hgr9 HX8
     go_wp2_with fail
     refine hM10.mono ?_
     rintro e w10 ⟨T10,l10,xs10,rfl,hg10,hH10,hx10,hT10⟩
     obtain ⟨hms9,hgr9⟩:=unhide HX9
     obtain ⟨_,_,hx⟩:=unhide HK5
     have hS:=ksame_w xs10 xs _ _ w10 hH10.mtAt (hms9.mtAt.gr hg10)
     have hdS:decide (xs10.map VFt.mof=xs.map VFt.mof)=true:=decide_eq_true ((show xs10.map VFt.mof=Sv.matches st.rs st.L from hx10).trans hx.symm)
     rw [hdS] at hS
     obtain ⟨mo',mc',hm10⟩:=hH10.mtAt.slice
     subst hm10
     have hgF:=gr_trans (unhide HGA) (gr_trans hgr9 hg10)
     clear hM10 hH10 hx10 hdS hT10 hg10 hms9 hgr9 hx HX9
     go_wp2_with fail
     refine hS.mono ?_
     rintro e w11 ⟨rfl,hg11⟩
     have HGF:=hide (gr_trans hgF hg11)
     clear hS hg11 hgF
     go_wp2
     go_ret
     exact ⟨rfl,unhide HGF⟩
end Go.Proofs.YtolhbeekfjnfmaaGreatDoor

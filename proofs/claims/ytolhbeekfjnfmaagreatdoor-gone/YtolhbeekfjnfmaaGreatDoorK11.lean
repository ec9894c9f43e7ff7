import Derived.BigRegion
import Derived.Test.YtolhbeekfjnfmaaGreatDoorK10
namespace Go.Proofs.YtolhbeekfjnfmaaGreatDoor
open Go.RowKit
theorem tokEnc_set:∀ (l:List Tok) (i:Nat) (a:Tok) (x0 x1 x2 x3:Value),i < l.length→tokEnc a=[x0,x1,x2,x3]→
  (l.set i a).flatMap tokEnc=((((l.flatMap tokEnc).set (i * 4) x0).set (i * 4+1) x1).set (i * 4+2) x2).set (i * 4+3) x3
 | [],i,a,x0,x1,x2,x3,h,_=>by simp at h
 | b :: l,0,a,x0,x1,x2,x3,_,ha=>by
  obtain ⟨c0,c1,c2,c3,hb⟩:=four_of (tokEnc_len b)
  rw [List.set_cons_zero,List.flatMap_cons,List.flatMap_cons,ha,hb]
  rfl
 | b :: l,i+1,a,x0,x1,x2,x3,h,ha=>by
  have ih:=tokEnc_set l i a x0 x1 x2 x3 (by simpa using h) ha
  obtain ⟨c0,c1,c2,c3,hb⟩:=four_of (tokEnc_len b)
  rw [List.set_cons_succ,List.flatMap_cons,List.flatMap_cons,ih,hb]
  rw [show (i+1) * 4=i * 4+1+1+1+1 from by omega,show i * 4+1+1+1+1+1=(i * 4+1)+1+1+1+1 from by omega,show i * 4+1+1+1+1+2=(i * 4+2)+1+1+1+1 from by omega,show i * 4+1+1+1+1+3=(i * 4+3)+1+1+1+1 from by omega]
  rfl
def set4 (w:World) (g o:Nat) (x0 x1 x2 x3:Value):World:=(((w.setCell ⟨g,o,none⟩ x0).setCell ⟨g,o+1,none⟩ x1).setCell ⟨g,o+2,none⟩ x2).setCell ⟨g,o+3,none⟩ x3
theorem gr_set4 (w:World) (g o:Nat) (x0 x1 x2 x3:Value):w.grownBy (set4 w g o x0 x1 x2 x3) (some g):=gr_trans (gr_trans (gr_trans (gr_set w g o x0) (gr_set _ g (o+1) x1)) (gr_set _ g (o+2) x2)) (gr_set _ g (o+3) x3)
theorem ToksAt.stored {g n cap:Nat} {l:List Tok} {w:World} (h:ToksAt (.slice (some ⟨g,0,none⟩) n cap) l w) (i:Nat) (a:Tok) (hi:i < l.length) {x0 x1 x2 x3:Value} (ha:tokEnc a=[x0,x1,x2,x3]) :
  ToksAt (.slice (some ⟨g,0,none⟩) n cap) (l.set i a) (set4 w g (i * 4) x0 x1 x2 x3):=by
 have hn:=h.len
 subst hn
 have h1:=(World.ownsRow.stored h.2 (i * 4) x0).1
 have h2:=(World.ownsRow.stored h1 (i * 4+1) x1).1
 have h3:=(World.ownsRow.stored h2 (i * 4+2) x2).1
 have h4:=(World.ownsRow.stored h3 (i * 4+3) x3).1
 refine ⟨h.1,?_⟩
 rw [List.length_set,tokEnc_set l i a x0 x1 x2 x3 hi ha]
 exact h4
set_option maxRecDepth 100000 in
set_option maxHeartbeats 8000000 in
theorem aSwap_w (b o:Nat) (g cap:Nat) (l:List Tok) (i j:Nat) (w:World) (hb:w.cell? ⟨b,o,none⟩=some (.slice (some ⟨g,0,none⟩) l.length cap)) (hbg:b≠g) (hr:ToksAt (.slice (some ⟨g,0,none⟩) l.length cap) l w) (hi:i < l.length) (hj:j < l.length) :
  Calls Tryz.prog 262 #[.pointer (some ⟨b,o,none⟩),.int .i64 i,.int .i64 j] w fun e w'=>e=.returned (.tuple #[])∧w.grownBy w' (some g)∧ToksAt (.slice (some ⟨g,0,none⟩) l.length cap) (Hp.swap l i j) w':=by
 obtain ⟨t,ht⟩:∃ t,l[i]?=some t:=⟨_,List.getElem?_eq_getElem hi⟩
 obtain ⟨u,hu⟩:∃ u,l[j]?=some u:=⟨_,List.getElem?_eq_getElem hj⟩
 obtain ⟨p0,p1,p2,p3,hp⟩:=tok_four t
 obtain ⟨q0,q1,q2,q3,hq⟩:=tok_four u
 obtain ⟨g',cap',e1,a0,a1,a2,a3⟩:=toks_cells hr ht hp
 simp only [Value.slice.injEq,Option.some.injEq,Addr.mk.injEq,and_true,true_and] at e1
 obtain ⟨rfl,rfl⟩:=e1
 obtain ⟨g',cap',e1,c0,c1,c2,c3⟩:=toks_cells hr hu hq
 simp only [Value.slice.injEq,Option.some.injEq,Addr.mk.injEq,and_true,true_and] at e1
 obtain ⟨rfl,rfl⟩:=e1
 have hsw:Hp.swap l i j=(l.set i u).set j t:=by unfold Hp.swap; rw [ht,hu]
 have hr1:=hr.stored i u hi hq
 have hr2:=hr1.stored j t (by simpa using hj) hp
 have hg1:=gr_set4 w g (i * 4) (.pointer q0) (.pointer q1) (.pointer q2) (.pointer q3)
 have hg2:=gr_set4 (set4 w g (i * 4) (.pointer q0) (.pointer q1) (.pointer q2) (.pointer q3)) g (j * 4) (.pointer p0) (.pointer p1) (.pointer p2) (.pointer p3)
 have hgg:=gr_trans hg1 hg2
 obtain ⟨u',hu'⟩:∃ u',(l.set i u)[j]?=some u':=⟨_,List.getElem?_eq_getElem (by simpa using hj)⟩
 obtain ⟨s0,s1,s2,s3,hs⟩:=tok_four u'
 have hr1':ToksAt (.slice (some ⟨g,0,none⟩) (l.set i u).length cap) (l.set i u) (set4 w g (i * 4) (.pointer q0) (.pointer q1) (.pointer q2) (.pointer q3)):=by rw [List.length_set]; exact hr1
 obtain ⟨g',cap',e1,d0,d1,d2,d3⟩:=toks_cells hr1' hu' hs
 simp only [Value.slice.injEq,Option.some.injEq,Addr.mk.injEq,and_true] at e1
 obtain ⟨rfl,_,rfl⟩:=e1
 have z0:=hr.fz
 have z1:=hr1.fz
 have b1:=hg1.cell hb (by simpa using hbg)
 have HR2:=hide hr2
 have HGG:=hide hgg
 have HSW:=hide hsw
 have l0:(0:Int)≤(i:Int):=by omega
 have l1:(i:Int) < (l.length:Int):=by omega
 have l2:(0:Int)≤(j:Int):=by omega
 have l3:(j:Int) < (l.length:Int):=by omega
 have hlm:=hr.le
 unfold maxLen at hlm
 clear hr hr1 hr2 hg1 hg2 hgg hsw ht hu hu' hs hp hq hr1'
 simp only [set4] at d0 d1 d2 d3 b1 z1
 go_enter Tryz.func262,Tryz.ntmps262
 go_wp2_with fail
 go_region
 all_goals
  go_wp2_with fail
  go_end0
  exact ⟨rfl,gr_drew (unhide HGG),by rw [unhide HSW]; exact (unhide HR2).gr (gr_drew (World.grownBy.refl _ _))⟩
set_option maxHeartbeats 400000 in
theorem aLen_w (b o:Nat) (ao:Option Addr) (n cap:Nat) (w:World) (hb:w.cell? ⟨b,o,none⟩=some (.slice ao n cap)) :
  Calls Tryz.prog 258 #[.pointer (some ⟨b,o,none⟩)] w fun e w'=>e=.returned (.int .i64 n)∧w'=w:=by
 go_enter Tryz.func258,Tryz.ntmps258
 go_wp2
 go_ret
 exact ⟨rfl,rfl⟩
theorem Tryz.asTok (xT:TypeId) (v:Value) (w:World):(Instr.typeAssert (.iface 139 v) xT 139 false).run Tryz.prog w=.ok v w:=by
 simp [Instr.typeAssert,run_underlying Tryz.underlying139]
set_option maxRecDepth 100000 in
set_option maxHeartbeats 2000000 in
theorem aPush_w (b o:Nat) (v:Value) (cs:Array Value) (ty:TypeId) (toks:List Tok) (t:Tok) (w:World) (hb:w.heap[b]?=some (.cells cs ty (0,0))) (ho:cs[o]?=some v) (hr:ToksAt v toks w) (hne:v.ownBlock≠some b) (hlen:toks.length≤1000000000) :
  Calls Tryz.prog 261 #[.pointer (some ⟨b,o,none⟩),.iface 139 (tokV t)] w fun e w'=>e=.returned (.tuple #[])∧KeepPost b o v cs ty toks t w w':=by
 have hS:=keep_w b o v cs ty toks t
 obtain ⟨pa,pb,pc,pd,hT⟩:=tok_four t
 have eT:tokV t=.agg #[.pointer pa,.pointer pb,.pointer pc,.pointer pd]:=by unfold tokV; rw [hT]
 rw [eT] at hS ⊢
 have hS':∀ wx,w.grownBy wx none→Calls Tryz.prog 242 #[.pointer (some ⟨b,o,none⟩),.agg #[.pointer pa,.pointer pb,.pointer pc,.pointer pd]] wx fun e w'=>e=.returned (.tuple #[])∧KeepPost b o v cs ty toks t wx w':=
  fun wx hg=>hS wx (by rw [hg.block b (row_lt hb) (by simp)]; exact hb) ho (hr.gr hg) hne hlen
 clear hS hT eT hb ho hr hne hlen
 have hAs:=Tryz.asTok
 go_enter Tryz.func261,Tryz.ntmps261
 go_wp2_with fail
 go_region_with (go_at_call 242; refine (hS' _ (by repeat (first | exact World.grownBy.refl _ _ | apply gr_drew))).mono ?_; rintro e w1 ⟨rfl,hk⟩)
 all_goals
  go_wp2_with fail
  go_end0
  obtain ⟨v',k1,k2,k3,k4⟩:=hk
  exact ⟨rfl,v',k1,k2,⟨k3.os,k3.tape,k3.output,k3.size,k3.block⟩,k4⟩
end Go.Proofs.YtolhbeekfjnfmaaGreatDoor
namespace Go.Proofs.YtolhbeekfjnfmaaGreatDoor
open Go.RowKit
theorem Tryz.mLess (v:Value) (w:World):(Go.method 482 221 v "Less").run Tryz.prog w=.ok (259,v) w:=by kernel_rfl
theorem Tryz.mSwap (v:Value) (w:World):(Go.method 482 221 v "Swap").run Tryz.prog w=.ok (262,v) w:=by kernel_rfl
theorem Tryz.mLen (v:Value) (w:World):(Go.method 482 221 v "Len").run Tryz.prog w=.ok (258,v) w:=by kernel_rfl
theorem Tryz.mPush (v:Value) (w:World):(Go.method 482 221 v "Push").run Tryz.prog w=.ok (261,v) w:=by kernel_rfl
theorem Tryz.mPop (v:Value) (w:World):(Go.method 482 221 v "Pop").run Tryz.prog w=.ok (260,v) w:=by kernel_rfl
structure AgAt (U:Nat→Nat) (b o g cap:Nat) (l:List Tok) (w:World):Prop where
 cell:w.cell? ⟨b,o,none⟩=some (.slice (some ⟨g,0,none⟩) l.length cap)
 ne:b≠g
 row:ToksAt (.slice (some ⟨g,0,none⟩) l.length cap) l w
 own:U g≠1
 toks:∀ t∈l,t.length≤4∧∀ x∈t,FtAt U x w
theorem AgAt.gr {U:Nat→Nat} {b o g cap:Nat} {l:List Tok} {w w':World} (h:AgAt U b o g cap l w) (hg:w.grownBy w' none):AgAt U b o g cap l w':=
 ⟨hg.cell h.cell (by simp),h.ne,h.row.gr hg,h.own,fun t ht=>⟨(h.toks t ht).1,fun x hx=>((h.toks t ht).2 x hx).gr hg⟩⟩
theorem AgAt.swapped {U:Nat→Nat} {b o g cap:Nat} {l:List Tok} {w w':World} (h:AgAt U b o g cap l w) (hg:w.grownBy w' (some g)) {i j:Nat} (hr:ToksAt (.slice (some ⟨g,0,none⟩) l.length cap) (Hp.swap l i j) w'):AgAt U b o g cap (Hp.swap l i j) w':=by
 have hl:(Hp.swap l i j).length=l.length:=Hp.swap_len l i j
 refine ⟨?_,h.ne,?_,h.own,fun t ht=>?_⟩
 ·rw [hl]; exact hg.cell h.cell (by have:=h.ne; simpa using this)
 ·rw [hl]; exact hr
 ·have hm:=(Hp.swap_perm l i j).mem_iff.1 ht
  refine ⟨(h.toks t hm).1,fun x hx=>((h.toks t hm).2 x hx).keep (S:=fun k=>k=g) (GrS.of hg (fun k hk=>by simp at hk; exact hk.symm)) (fun k hk e=>h.own (by rw [←e]; exact hk)) (fun _ _ h=>h)⟩
theorem AgAt.max {U:Nat→Nat} {b o g cap:Nat} {l:List Tok} {w:World} (h:AgAt U b o g cap l w):l.length≤9223372036854775807:=by
 have:=h.row.le
 unfold maxLen at this
 omega
theorem AgAt.less {U:Nat→Nat} {b o g cap:Nat} {l:List Tok} {w:World} (h:AgAt U b o g cap l w) {i j:Nat} (hi:i < l.length) (hj:j < l.length) :
  Calls Tryz.prog 259 #[.pointer (some ⟨b,o,none⟩),.int .i64 i,.int .i64 j] w fun e w'=>e=.returned (.bool (Hp.lt Tok.less l i j))∧w.grownBy w' none:=by
 have h1:=List.getElem?_eq_getElem hi
 have h2:=List.getElem?_eq_getElem hj
 have:=aLess_w U b o _ l i j _ _ w h.cell h.row h1 h2 (h.toks _ (List.getElem_mem hi)).1 (h.toks _ (List.getElem_mem hj)).1 (h.toks _ (List.getElem_mem hi)).2 (h.toks _ (List.getElem_mem hj)).2
 rw [Hp.lt_get h1 h2]
 exact this
set_option maxRecDepth 100000 in
set_option maxHeartbeats 4000000 in
theorem hup_w (U:Nat→Nat) (b o g cap:Nat) (l:List Tok) (j:Nat) (w:World) (h:AgAt U b o g cap l w) (hj:j < l.length) :
  Calls Tryz.prog 249 #[.iface 221 (.pointer (some ⟨b,o,none⟩)),.int .i64 j] w fun e w'=>e=.returned (.tuple #[])∧w.grownBy w' (some g)∧AgAt U b o g cap (Hp.up Tok.less l j) w':=by
 obtain ⟨R,hR⟩:∃ R,Hp.up Tok.less l j=R:=⟨_,rfl⟩
 rw [hR]
 have HR:=hide hR
 have HH:=hide h
 have hmax:=h.max
 have HJ:=hide hj
 clear hR h hj
 have mL:=Tryz.mLess
 have mS:=Tryz.mSwap
 go_enter Tryz.func249,Tryz.ntmps249
 go_wp2
 go_loopw [1] (fun x w'=>∃ (k:Nat) (m:List Tok),x=.int .i64 k∧Hid (k < m.length∧m.length=l.length∧Hp.up Tok.less m k=R∧w.grownBy w' (some g)∧AgAt U b o g cap m w')) (fun x _=>(intOf x).toNat)
 case atStart=>exact ⟨j,l,rfl,hide ⟨unhide HJ,rfl,unhide HR,World.grownBy.refl _ _,unhide HH⟩⟩
 case round=>
  clear HR HH HJ
  obtain ⟨k,m,rfl,HK⟩:=hrel
  have hkl:k < 9223372036854775807:=by have:=unhide HK; omega
  by_cases h0:k=0
  ·subst h0
   obtain ⟨_,_,e1,hg,hA⟩:=unhide HK
   unfold Hp.up at e1
   rw [dif_pos rfl] at e1
   subst e1
   go_wp2
   go_end0
   exact ⟨rfl,hg,hA⟩
  ·obtain ⟨hk,hml,e1,hg,hA⟩:=unhide HK
   obtain ⟨p,hp⟩:∃ p,(k - 1) / 2=p:=⟨_,rfl⟩
   have hpk:p < k:=by omega
   have hpi:Int.tdiv ((k:Int) - 1) 2=(p:Int):=by
    rw [←hp,show ((k:Int) - 1)=((k - 1:Nat):Int) from by omega,Int.tdiv_eq_ediv_of_nonneg (by omega)]
    omega
   have hne:((p:Int) == (k:Int))=false:=by simp; omega
   have hL:=hA.less hk (show p < m.length by omega)
   unfold Hp.up at e1
   rw [dif_neg h0,hp] at e1
   obtain ⟨r,hr⟩:∃ r,Hp.lt Tok.less m k p=r:=⟨_,rfl⟩
   rw [hr] at e1 hL
   have HE:=hide e1
   have HG:=hide hg
   have HA:=hide hA
   have HP:=hide hp
   clear e1 hr hg hA HK hp
   go_wp2_with fail
   refine hL.mono ?_
   rintro e w1 ⟨rfl,hg1⟩
   have hA1:=(unhide HA).gr hg1
   have hG1:=gr_trans (unhide HG) (gr_any hg1 (some g))
   have HE1:=unhide HE
   clear hL hg1 HA HG HE
   cases r with
   | false=>
    rw [if_neg (by simp)] at HE1
    subst HE1
    go_wp2
    go_end0
    exact ⟨rfl,hG1,hA1⟩
   | true=>
    rw [if_pos rfl] at HE1
    have hS:=aSwap_w b o g cap m p k w1 hA1.cell hA1.ne hA1.row (by omega) hk
    have HA1:=hide hA1
    have HE2:=hide HE1
    clear hA1 HE1
    go_wp2_with fail
    refine hS.mono ?_
    rintro e w2 ⟨rfl,hg2,hr2⟩
    have hA2:=(unhide HA1).swapped hg2 hr2
    have hG2:=gr_trans hG1 hg2
    have HR:=hide (show p < (Hp.swap m p k).length∧(Hp.swap m p k).length=l.length∧Hp.up Tok.less (Hp.swap m p k) p=R∧w.grownBy w2 (some g)∧AgAt U b o g cap (Hp.swap m p k) w2 from ⟨by rw [Hp.swap_len]; omega,by rw [Hp.swap_len]; exact hml,unhide HE2,hG2,hA2⟩)
    clear hS hg2 hr2 hA2 hG2 HA1 HE2 hG1 hk hml
    go_wp2
    go_roundw
    case rel=>exact ⟨p,_,rfl,HR⟩
    case measure=>simp [intOf]; omega
end Go.Proofs.YtolhbeekfjnfmaaGreatDoor
namespace Go.Proofs.YtolhbeekfjnfmaaGreatDoor
open Go.RowKit
theorem ToksAt.lies {v:Value} {l:List Tok} {w:World} (h:ToksAt v l w) (hl:0 < l.length):∃ g cap,v=.slice (some ⟨g,0,none⟩) l.length cap:=by
 rcases h.2.2 with ⟨_,h2⟩ | ⟨g,cap,cur,h1,_⟩
 ·omega
 ·exact ⟨g,cap,h1⟩
def PutPost (b o:Nat) (v:Value) (cs:Array Value) (ty:TypeId) (l:List Tok) (t:Tok) (w w':World):Prop:=
 ∃ v',w'.heap[b]?=some (.cells (cs.setIfInBounds o v') ty (0,0))∧ToksAt v' (Hp.push Tok.less l t) w'∧GrS (fun k=>k=b∨v.ownBlock=some k) w w'∧∀ g,v'.ownBlock=some g→v.ownBlock=some g∨w.heap.size≤g
set_option maxRecDepth 100000 in
set_option maxHeartbeats 4000000 in
theorem hPush_w (U:Nat→Nat) (b o:Nat) (v:Value) (cs:Array Value) (ty:TypeId) (l:List Tok) (t:Tok) (w:World) (hb:w.heap[b]?=some (.cells cs ty (0,0))) (ho:cs[o]?=some v) (hr:ToksAt v l w) (hne:v.ownBlock≠some b) (hlen:l.length≤1000000000)
  (hUb:U b≠1) (hUv:∀ g,v.ownBlock=some g→U g≠1) (hl4:∀ x∈l,x.length≤4∧∀ y∈x,FtAt U y w) (ht4:t.length≤4∧∀ y∈t,FtAt U y w) :
  Calls Tryz.prog 246 #[.iface 221 (.pointer (some ⟨b,o,none⟩)),.iface 139 (tokV t)] w fun e w'=>e=.returned (.tuple #[])∧PutPost b o v cs ty l t w w':=by
 have hS:=aPush_w b o v cs ty l t w hb ho hr hne hlen
 obtain ⟨x,hx⟩:∃ x,tokV t=x:=⟨_,rfl⟩
 rw [hx] at hS ⊢
 have hosz:o < cs.size:=(Array.getElem?_eq_some_iff.1 ho).1
 have HB:=hide hb
 have HO:=hide ho
 have HV:=hide hUv
 have HL:=hide hl4
 have HT:=hide ht4
 have HNE:=hide hne
 clear hb ho hr hne hUv hl4 ht4 hx
 have mP:=Tryz.mPush
 have mN:=Tryz.mLen
 go_enter Tryz.func246,Tryz.ntmps246
 go_wp2_with fail
 refine hS.mono ?_
 rintro e w1 ⟨rfl,v',hb1,hr1,hG1,hown⟩
 obtain ⟨g,cap,rfl⟩:=hr1.lies (by simp)
 rw [List.length_append,List.length_singleton] at hb1 hr1 hown
 have hc1:w1.cell? ⟨b,o,none⟩=some (.slice (some ⟨g,0,none⟩) (l.length+1) cap):=by
  simp [World.cell?,hb1]
  rw [Array.getElem?_setIfInBounds,if_pos rfl,if_pos hosz]
 have hbg:b≠g:=by
  rintro rfl
  rcases hown b rfl with h | h
  ·exact unhide HNE h
  ·have:=row_lt (unhide HB); omega
 obtain ⟨U',hU'⟩:∃ U':Nat→Nat,∀ k,U' k=if k < w.heap.size then U k else 0:=⟨_,fun _=>rfl⟩
 have hft:∀ y,FtAt U y w→FtAt U' y w1:=fun y hy=>hy.keep hG1 (fun k hk=>by rintro (rfl | h); exact hUb hk; exact unhide HV k h hk) (fun k hk hk2=>by rw [hU' k,if_pos hk]; exact hk2)
 have hA:AgAt U' b o g cap (l ++ [t]) w1:=by
  refine ⟨by rw [List.length_append,List.length_singleton]; exact hc1,hbg,by rw [List.length_append,List.length_singleton]; exact hr1,?_,?_⟩
  ·rw [hU']
   split
   ·rename_i h
    rcases hown g rfl with k | k
    ·exact unhide HV g k
    ·omega
   ·simp
  ·intro y hy
   rcases List.mem_append.1 hy with hy | hy
   ·exact ⟨(unhide HL y hy).1,fun z hz=>hft z ((unhide HL y hy).2 z hz)⟩
   ·simp only [List.mem_singleton] at hy
    subst hy
    exact ⟨(unhide HT).1,fun z hz=>hft z ((unhide HT).2 z hz)⟩
 have hN:=aLen_w b o _ _ cap w1 hc1
 have hUp:=hup_w U' b o g cap (l ++ [t]) l.length w1 hA (by simp)
 have HF:=hide (show w1.heap[b]?=some (.cells (cs.setIfInBounds o (.slice (some ⟨g,0,none⟩) (l.length+1) cap)) ty (0,0))∧GrS (fun k=>k=b∨v.ownBlock=some k) w w1∧(v.ownBlock=some g∨w.heap.size≤g) from ⟨hb1,hG1,hown g rfl⟩)
 clear hS hb1 hr1 hG1 hown hA hft hU' hc1
 go_wp2_with fail
 refine hN.mono ?_
 rintro e w2 ⟨rfl,rfl⟩
 clear hN
 go_wp2_with fail
 refine hUp.mono ?_
 rintro e w3 ⟨rfl,hg3,hA3⟩
 clear hUp
 go_wp2
 go_end0
 obtain ⟨f1,f2,f3⟩:=unhide HF
 refine ⟨rfl,.slice (some ⟨g,0,none⟩) (l.length+1) cap,?_,?_,f2.then hg3 (fun k hk=>?_),?_⟩
 ·rw [hg3.block b (row_lt f1) (by simpa using hbg)]; exact f1
 ·have:=hA3.row
  rw [show (Hp.up Tok.less (l ++ [t]) l.length).length=l.length+1 from by rw [(Hp.up_perm _ _ _).length_eq]; simp] at this
  exact this
 ·simp only [Option.some.injEq] at hk
  subst hk
  rcases f3 with h | h
  ·exact .inr (.inr h)
  ·exact .inl h
 ·intro k hk
  simp only [Value.ownBlock,Option.some.injEq] at hk
  subst hk
  exact f3
set_option maxRecDepth 100000 in
set_option maxHeartbeats 2000000 in
theorem put_w (U:Nat→Nat) (b o:Nat) (v:Value) (cs:Array Value) (ty:TypeId) (l:List Tok) (t:Tok) (w:World) (hb:w.heap[b]?=some (.cells cs ty (0,0))) (ho:cs[o]?=some v) (hr:ToksAt v l w) (hne:v.ownBlock≠some b) (hlen:l.length≤1000000000)
  (hUb:U b≠1) (hUv:∀ g,v.ownBlock=some g→U g≠1) (hl4:∀ x∈l,x.length≤4∧∀ y∈x,FtAt U y w) (ht4:t.length≤4∧∀ y∈t,FtAt U y w) :
  Calls Tryz.prog 243 #[.pointer (some ⟨b,o,none⟩),tokV t] w fun e w'=>e=.returned (.tuple #[])∧PutPost b o v cs ty l t w w':=by
 obtain ⟨pa,pb,pc,pd,hT⟩:=tok_four t
 have eT:tokV t=.agg #[.pointer pa,.pointer pb,.pointer pc,.pointer pd]:=by unfold tokV; rw [hT]
 have hgA:=World.grownBy_alloc w (.cells #[.pointer pa,.pointer pb,.pointer pc,.pointer pd] 139) none
 have hS:=hPush_w U b o v cs ty l t (w.alloc (.cells #[.pointer pa,.pointer pb,.pointer pc,.pointer pd] 139)) (by rw [hgA.block b (row_lt hb) (by simp)]; exact hb) ho (hr.gr hgA) hne hlen hUb hUv (fun x hx=>⟨(hl4 x hx).1,fun y hy=>((hl4 x hx).2 y hy).gr hgA⟩) ⟨ht4.1,fun y hy=>(ht4.2 y hy).gr hgA⟩
 rw [eT] at hS ⊢
 have HG:=hide hgA
 clear hb ho hr hne hUv hl4 ht4 hT eT hgA
 go_enter Tryz.func243,Tryz.ntmps243
 go_wp2_with fail
 refine hS.mono ?_
 rintro e w1 ⟨rfl,v',h1,h2,h3,h4⟩
 clear hS
 go_wp2
 go_end0
 refine ⟨rfl,v',h1,h2,?_,fun g hg=>?_⟩
 ·exact (GrS.of (unhide HG) (by simp)).trans h3
 ·rcases h4 g hg with h | h
  ·exact .inl h
  ·exact .inr (Nat.le_trans (unhide HG).size h)
end Go.Proofs.YtolhbeekfjnfmaaGreatDoor
namespace Go.Proofs.YtolhbeekfjnfmaaGreatDoor
open Go.RowKit
set_option maxRecDepth 100000 in
set_option maxHeartbeats 8000000 in
theorem hdown_w (U:Nat→Nat) (b o g cap:Nat) (l:List Tok) (i n:Nat) (w:World) (h:AgAt U b o g cap l w) (hi:i < l.length) (hn:n≤l.length) (hlen:l.length≤2000000000) :
  Calls Tryz.prog 145 #[.iface 221 (.pointer (some ⟨b,o,none⟩)),.int .i64 i,.int .i64 n] w fun e w'=>∃ r,e=.returned (.bool r)∧w.grownBy w' (some g)∧AgAt U b o g cap (Hp.down Tok.less n l i) w':=by
 obtain ⟨R,hR⟩:∃ R,Hp.down Tok.less n l i=R:=⟨_,rfl⟩
 rw [hR]
 have HR:=hide hR
 have HH:=hide h
 clear hR h
 have mL:=Tryz.mLess
 have mS:=Tryz.mSwap
 go_enter Tryz.func145,Tryz.ntmps145
 go_wp2
 go_loopw [7] (fun x w'=>∃ (k:Nat) (m:List Tok),x=.int .i64 k∧Hid (k < l.length∧m.length=l.length∧Hp.down Tok.less n m k=R∧w.grownBy w' (some g)∧AgAt U b o g cap m w')) (fun x _=>n - (intOf x).toNat)
 case atStart=>exact ⟨i,l,rfl,hide ⟨hi,rfl,unhide HR,World.grownBy.refl _ _,unhide HH⟩⟩
 case round=>
  clear HR HH
  obtain ⟨k,m,rfl,HK⟩:=hrel
  obtain ⟨hk,hml,e1,hg,hA⟩:=unhide HK
  have hkl:k < m.length:=by omega
  clear HK
  unfold Hp.down at e1
  by_cases h1:2 * k+1 < n
  ·rw [dif_pos h1] at e1
   have hd1:decide ((n:Int)≤2 * (k:Int)+1)=false:=by simp; omega
   have hd0:decide (2 * (k:Int)+1 < 0)=false:=by simp; omega
   by_cases h2:2 * k+2 < n
   ·have hd2:decide (2 * (k:Int)+1+1 < (n:Int))=true:=by simp; omega
    have hL1:=hA.less (show 2 * k+2 < m.length by omega) (show 2 * k+1 < m.length by omega)
    obtain ⟨r1,hr1⟩:∃ r1,Hp.lt Tok.less m (2 * k+2) (2 * k+1)=r1:=⟨_,rfl⟩
    rw [hr1] at hL1
    rw [show ((2 * k+2:Nat):Int)=2 * (k:Int)+1+1 from by omega,show ((2 * k+1:Nat):Int)=2 * (k:Int)+1 from by omega] at hL1
    have HR1:=hide hr1
    have HA0:=hide hA
    have HE0:=hide e1
    clear hA e1 hr1
    go_wp2_with fail
    refine hL1.mono ?_
    rintro e w4 ⟨rfl,hg4⟩
    have hA:=(unhide HA0).gr hg4
    have hG4:=gr_trans hg (gr_any hg4 (some g))
    have e1:=unhide HE0
    clear hL1 hg4 HA0 HE0
    cases r1 with
    | false=>
     have hK:Hp.kid Tok.less n m k=2 * k+1:=by unfold Hp.kid; rw [unhide HR1,if_neg (by simp)]
     rw [hK] at e1
     have hL2:=hA.less (show 2 * k+1 < m.length by omega) hkl
     obtain ⟨r2,hr2⟩:∃ r2,Hp.lt Tok.less m (2 * k+1) k=r2:=⟨_,rfl⟩
     rw [hr2] at e1 hL2
     rw [show ((2 * k+1:Nat):Int)=2 * (k:Int)+1 from by omega] at hL2
     have HE:=hide e1
     have HA:=hide hA
     have hjn:2 * k+1 < n:=by omega
     clear hK e1 hr2 hA
     go_wp2_with fail
     refine hL2.mono ?_
     rintro e w5 ⟨rfl,hg5⟩
     have hA5:=(unhide HA).gr hg5
     have hG5:=gr_trans hG4 (gr_any hg5 (some g))
     have e1:=unhide HE
     clear hL2 hg5 HA HE
     cases r2 with
     | false=>
      rw [if_neg (by simp)] at e1
      subst e1
      go_wp2
      go_ret
      exact ⟨_,rfl,hG5,hA5⟩
     | true=>
      rw [if_pos rfl] at e1
      have hS:=aSwap_w b o g cap m k (2 * k+1) w5 hA5.cell hA5.ne hA5.row hkl (by omega)
      rw [show ((2 * k+1:Nat):Int)=2 * (k:Int)+1 from by omega] at hS
      have HA5:=hide hA5
      have HE2:=hide e1
      clear hA5 e1
      go_wp2_with fail
      refine hS.mono ?_
      rintro e w6 ⟨rfl,hg6,hr6⟩
      have hA6:=(unhide HA5).swapped hg6 hr6
      have hG6:=gr_trans hG5 hg6
      have HR:=hide (show 2 * k+1 < l.length∧(Hp.swap m k (2 * k+1)).length=l.length∧Hp.down Tok.less n (Hp.swap m k (2 * k+1)) (2 * k+1)=R∧w.grownBy w6 (some g)∧AgAt U b o g cap (Hp.swap m k (2 * k+1)) w6 from ⟨by omega,by rw [Hp.swap_len]; exact hml,unhide HE2,hG6,hA6⟩)
      clear hS hg6 hr6 hA6 hG6 HA5 HE2 hG5
      go_wp2
      go_roundw
      case rel=>exact ⟨2 * k+1,_,by rw [show ((2 * k+1:Nat):Int)=2 * (k:Int)+1 from by omega],HR⟩
      case measure=>simp [intOf]; omega
    | true=>
     have hK:Hp.kid Tok.less n m k=2 * k+2:=by unfold Hp.kid; rw [unhide HR1,if_pos ⟨h2,rfl⟩]
     rw [hK] at e1
     have hL2:=hA.less (show 2 * k+2 < m.length by omega) hkl
     obtain ⟨r2,hr2⟩:∃ r2,Hp.lt Tok.less m (2 * k+2) k=r2:=⟨_,rfl⟩
     rw [hr2] at e1 hL2
     rw [show ((2 * k+2:Nat):Int)=2 * (k:Int)+1+1 from by omega] at hL2
     have HE:=hide e1
     have HA:=hide hA
     have hjn:2 * k+2 < n:=by omega
     clear hK e1 hr2 hA
     go_wp2_with fail
     refine hL2.mono ?_
     rintro e w5 ⟨rfl,hg5⟩
     have hA5:=(unhide HA).gr hg5
     have hG5:=gr_trans hG4 (gr_any hg5 (some g))
     have e1:=unhide HE
     clear hL2 hg5 HA HE
     cases r2 with
     | false=>
      rw [if_neg (by simp)] at e1
      subst e1
      go_wp2
      go_ret
      exact ⟨_,rfl,hG5,hA5⟩
     | true=>
      rw [if_pos rfl] at e1
      have hS:=aSwap_w b o g cap m k (2 * k+2) w5 hA5.cell hA5.ne hA5.row hkl (by omega)
      rw [show ((2 * k+2:Nat):Int)=2 * (k:Int)+1+1 from by omega] at hS
      have HA5:=hide hA5
      have HE2:=hide e1
      clear hA5 e1
      go_wp2_with fail
      refine hS.mono ?_
      rintro e w6 ⟨rfl,hg6,hr6⟩
      have hA6:=(unhide HA5).swapped hg6 hr6
      have hG6:=gr_trans hG5 hg6
      have HR:=hide (show 2 * k+2 < l.length∧(Hp.swap m k (2 * k+2)).length=l.length∧Hp.down Tok.less n (Hp.swap m k (2 * k+2)) (2 * k+2)=R∧w.grownBy w6 (some g)∧AgAt U b o g cap (Hp.swap m k (2 * k+2)) w6 from ⟨by omega,by rw [Hp.swap_len]; exact hml,unhide HE2,hG6,hA6⟩)
      clear hS hg6 hr6 hA6 hG6 HA5 HE2 hG5
      go_wp2
      go_roundw
      case rel=>exact ⟨2 * k+2,_,by rw [show ((2 * k+2:Nat):Int)=2 * (k:Int)+1+1 from by omega],HR⟩
      case measure=>simp [intOf]; omega
   ·have hd2:decide (2 * (k:Int)+1+1 < (n:Int))=false:=by simp; omega
    have hK:Hp.kid Tok.less n m k=2 * k+1:=by unfold Hp.kid; rw [if_neg (fun q=>h2 q.1)]
    rw [hK] at e1
    have hL2:=hA.less (show 2 * k+1 < m.length by omega) hkl
    obtain ⟨r2,hr2⟩:∃ r2,Hp.lt Tok.less m (2 * k+1) k=r2:=⟨_,rfl⟩
    rw [hr2] at e1 hL2
    rw [show ((2 * k+1:Nat):Int)=2 * (k:Int)+1 from by omega] at hL2
    have HE:=hide e1
    have HA:=hide hA
    have hjn:2 * k+1 < n:=by omega
    clear hK e1 hr2 hA
    go_wp2_with fail
    refine hL2.mono ?_
    rintro e w5 ⟨rfl,hg5⟩
    have hA5:=(unhide HA).gr hg5
    have hG5:=gr_trans hg (gr_any hg5 (some g))
    have e1:=unhide HE
    clear hL2 hg5 HA HE
    cases r2 with
    | false=>
     rw [if_neg (by simp)] at e1
     subst e1
     go_wp2
     go_ret
     exact ⟨_,rfl,hG5,hA5⟩
    | true=>
     rw [if_pos rfl] at e1
     have hS:=aSwap_w b o g cap m k (2 * k+1) w5 hA5.cell hA5.ne hA5.row hkl (by omega)
     rw [show ((2 * k+1:Nat):Int)=2 * (k:Int)+1 from by omega] at hS
     have HA5:=hide hA5
     have HE2:=hide e1
     clear hA5 e1
     go_wp2_with fail
     refine hS.mono ?_
     rintro e w6 ⟨rfl,hg6,hr6⟩
     have hA6:=(unhide HA5).swapped hg6 hr6
     have hG6:=gr_trans hG5 hg6
     have HR:=hide (show 2 * k+1 < l.length∧(Hp.swap m k (2 * k+1)).length=l.length∧Hp.down Tok.less n (Hp.swap m k (2 * k+1)) (2 * k+1)=R∧w.grownBy w6 (some g)∧AgAt U b o g cap (Hp.swap m k (2 * k+1)) w6 from ⟨by omega,by rw [Hp.swap_len]; exact hml,unhide HE2,hG6,hA6⟩)
     clear hS hg6 hr6 hA6 hG6 HA5 HE2 hG5
     go_wp2
     go_roundw
     case rel=>exact ⟨2 * k+1,_,by rw [show ((2 * k+1:Nat):Int)=2 * (k:Int)+1 from by omega],HR⟩
     case measure=>simp [intOf]; omega
  ·rw [dif_neg h1] at e1
   subst e1
   have hd1:decide ((n:Int)≤2 * (k:Int)+1)=true:=by simp; omega
   have HA:=hide hA
   clear hA
   go_wp2
   go_ret
   exact ⟨_,rfl,hg,unhide HA⟩
theorem AgAt.same {U:Nat→Nat} {b o g cap:Nat} {l l':List Tok} {w:World} (h:AgAt U b o g cap l w) (e:l=l'):AgAt U b o g cap l' w:=by rw [←e]; exact h
set_option maxRecDepth 100000 in
set_option maxHeartbeats 4000000 in
theorem hInit_w (U:Nat→Nat) (b o g cap:Nat) (l:List Tok) (w:World) (h:AgAt U b o g cap l w) (hlen:l.length≤2000000000) :
  Calls Tryz.prog 248 #[.iface 221 (.pointer (some ⟨b,o,none⟩))] w fun e w'=>e=.returned (.tuple #[])∧w.grownBy w' (some g)∧AgAt U b o g cap (Hp.init Tok.less l) w':=by
 obtain ⟨R,hR⟩:∃ R,Hp.init Tok.less l=R:=⟨_,rfl⟩
 rw [hR]
 unfold Hp.init at hR
 have HR:=hide hR
 have HH:=hide h
 have hN:=aLen_w b o _ _ cap w h.cell
 clear hR h
 have mN:=Tryz.mLen
 have hq:Int.tdiv (l.length:Int) 2=((l.length / 2:Nat):Int):=by rw [Int.tdiv_eq_ediv_of_nonneg (by omega)]; omega
 go_enter Tryz.func248,Tryz.ntmps248
 go_wp2_with fail
 refine hN.mono ?_
 rintro e w1 ⟨rfl,rfl⟩
 clear hN
 go_wp2
 go_loopw [3] (fun x w'=>∃ (k:Nat) (m:List Tok),x=.int .i64 ((k:Int) - 1)∧Hid (k≤l.length / 2∧m.length=l.length∧Hp.initF Tok.less k m=R∧w1.grownBy w' (some g)∧AgAt U b o g cap m w')) (fun x _=>(intOf x+1).toNat)
 case atStart=>exact ⟨l.length / 2,l,rfl,hide ⟨Nat.le_refl _,rfl,unhide HR,World.grownBy.refl _ _,unhide HH⟩⟩
 case round=>
  clear HR HH
  obtain ⟨k,m,rfl,HK⟩:=hrel
  obtain ⟨hk,hml,e1,hg,hA⟩:=unhide HK
  clear HK
  cases k with
  | zero=>
   have e2:m=R:=e1
   subst e2
   have hd:decide ((0:Int)≤((0:Nat):Int) - 1)=false:=by simp
   have HA:=hide hA
   clear hA e1
   go_wp2
   go_end0
   exact ⟨rfl,hg,unhide HA⟩
  | succ k=>
   have hd:decide ((0:Int)≤((k+1:Nat):Int) - 1)=true:=by simp
   have ek:(((k+1:Nat):Int) - 1)=(k:Int):=by omega
   rw [ek] at hd
   unfold Hp.initF at e1
   have hD:=hdown_w U b o g cap m k l.length wr hA (by omega) (by omega) (by omega)
   rw [hml] at e1
   have HE:=hide e1
   have HG:=hide hg
   clear e1 hg hA
   rw [ek]
   go_wp2_with fail
   refine hD.mono ?_
   rintro e w2 ⟨r,rfl,hg2,hA2⟩
   have HR:=hide (show k≤l.length / 2∧(Hp.down Tok.less l.length m k).length=l.length∧Hp.initF Tok.less k (Hp.down Tok.less l.length m k)=R∧w1.grownBy w2 (some g)∧AgAt U b o g cap (Hp.down Tok.less l.length m k) w2 from ⟨by omega,by rw [Hp.down_len]; exact hml,unhide HE,gr_trans (unhide HG) hg2,hA2⟩)
   clear hD hg2 hA2 HE HG ek
   go_wp2
   go_roundw
   case rel=>exact ⟨k,_,rfl,HR⟩
   case measure=>simp [intOf]
end Go.Proofs.YtolhbeekfjnfmaaGreatDoor

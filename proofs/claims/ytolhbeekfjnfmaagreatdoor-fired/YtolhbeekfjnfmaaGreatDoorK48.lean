import Derived.Test.YtolhbeekfjnfmaaGreatDoorK43
import Derived.BigQuiet
namespace Go.Proofs.YtolhbeekfjnfmaaGreatDoor
open Go.RowKit
theorem Sv.FireI.start (s0:Sv.St) (z:Int):Sv.FireI s0 s0 [] z:=⟨rfl,rfl,by simp,by simp,List.nodup_nil,fun h=>absurd rfl h⟩
end Go.Proofs.YtolhbeekfjnfmaaGreatDoor
namespace Go.Proofs.YtolhbeekfjnfmaaGreatDoor
open Go.RowKit
theorem Sv.topF_snoc (y:Int):∀ (l:List Int) (a:Int),Sv.topF a (l ++ [y])=if Sv.topF a l < y then y else Sv.topF a l
 | [],a=>rfl
 | x :: l,a=>by
  show Sv.topF (if a < x then x else a) (l ++ [y])=_
  exact Sv.topF_snoc y l _
theorem Sv.top_take {l:List Int} {k:Nat} {y:Int} (h:l[k]?=some y):Sv.top (l.take (k+1))=if Sv.top (l.take k) < y then y else Sv.top (l.take k):=by
 unfold Sv.top
 rw [List.take_add_one,h]
 exact Sv.topF_snoc y _ _
def Off (T:Nat→Nat) (v:Value) (ms:List VFt):Prop:=(∀ g,v.ownBlock=some g→T g≠11)∧∀ m∈ms,∀ g,m.v.ownBlock=some g→T g≠11
def On (T:Nat→Nat) (v:Value) (ms:List VFt):Prop:=(∀ g,v.ownBlock=some g→T g=11)∧∀ m∈ms,∀ g,m.v.ownBlock=some g→T g≠11
theorem Off.old {e:TypeId} {T T':Nat→Nat} {v:Value} {ms:List VFt} {w:World} (h:Off T v ms) (hl:LsT e T v ms w) (ho:∀ k,k < w.heap.size→T' k=T k):Off T' v ms:=
 ⟨fun g hg=>by rw [ho g (hl.row.own g hg).2]; exact h.1 g hg,fun m hm g hg=>by rw [ho g ((hl.els m hm).1.own g hg).2]; exact h.2 m hm g hg⟩
theorem On.old {e:TypeId} {T T':Nat→Nat} {v:Value} {ms:List VFt} {w:World} (h:On T v ms) (hl:LsT e T v ms w) (ho:∀ k,k < w.heap.size→T' k=T k):On T' v ms:=
 ⟨fun g hg=>by rw [ho g (hl.row.own g hg).2]; exact h.1 g hg,fun m hm g hg=>by rw [ho g ((hl.els m hm).1.own g hg).2]; exact h.2 m hm g hg⟩
structure FdI (w:World) (x:Nat) (st:Sv.St) (l fv:Value) (xs fs:List VFt) (T:Nat→Nat) (wr:World):Prop where
 net:XT T 1 x st wr
 old:∀ k,k < w.heap.size→T k=0
 gr:w.grownBy wr none
 all:LsT 52 T l xs wr
 fired:LsT 52 T fv fs wr
 off:Off T l xs
 on:On T fv fs
theorem FdI.go {w:World} {x:Nat} {st st':Sv.St} {l fv:Value} {xs fs:List VFt} {T T':Nat→Nat} {wr w':World} (h:FdI w x st l fv xs fs T wr) (hX:XT T' 1 x st' w') (hG:GrS (fun k=>T k=1) wr w') (ho:∀ k,k < wr.heap.size→T' k=T k):FdI w x st' l fv xs fs T' w':=
 ⟨hX,fun k hk=>by rw [ho k (Nat.lt_of_lt_of_le hk h.gr.size),h.old k hk],grown_of h.gr hG (fun k hk=>by rw [h.old k hk]; decide),h.all.go hG one_le ho,h.fired.go hG one_le ho,h.off.old h.all ho,h.on.old h.fired ho⟩
theorem FdI.more {w:World} {x:Nat} {st:Sv.St} {l fv:Value} {xs fs:List VFt} {T T':Nat→Nat} {wr w':World} (h:FdI w x st l fv xs fs T wr) (hg:wr.grownBy w' none) (ho:∀ k,k < wr.heap.size→T' k=T k):FdI w x st l fv xs fs T' w':=h.go (h.net.gr hg ho) (gone_of hg) ho
theorem FdI.app {w:World} {x n m:Nat} {st:Sv.St} {l fv fv':Value} {xs fs:List VFt} {k:VFt} {T:Nat→Nat} {wA w9:World} (h:FdI w x st l fv xs fs T wA) (hk:NsT T k.v k.vals wA) (hk11:∀ g,k.v.ownBlock=some g→T g≠11) (hr:RowAt 52 2 ftenc 0 fv' (fs ++ [k]) w9) (hl:Longer fv fv' n m wA w9):∃ T9,FdI w x st l fv' xs (fs ++ [k]) T9 w9:=by
 obtain ⟨T9,hT9⟩:∃ T9:Nat→Nat,T9=fun q=>if q < wA.heap.size then T q else 11:=⟨_,rfl⟩
 have t0:∀ q,q < wA.heap.size→T9 q=T q:=fun q hq=>by rw [hT9]; dsimp only; rw [if_pos hq]
 have t1:∀ q,wA.heap.size≤q→T9 q=11:=fun q hq=>by rw [hT9]; dsimp only; rw [if_neg (by omega)]
 have hG:GrS (fun q=>fv.ownBlock=some q) wA w9:=hl.gr (fun g hg=>hg)
 have h11:∀ q,fv.ownBlock=some q→T q=11:=h.on.1
 have hGg:w.grownBy w9 none:=GrS.grown ((gone_of h.gr:GrS (fun _=>False) w wA).comp hG (fun i hi _ e=>by have:=h11 i e; rw [h.old i hi] at this; omega)) (fun _ _ h=>h)
 have hels:∀ v l,NsT T v l wA→(∀ g,v.ownBlock=some g→T g≠11)→NsT T9 v l w9:=fun v l hv hn=>⟨hG.row hv.1 (fun g hg e=>hn g hg (h11 g e)),fun g hg=>by rw [t0 g (hv.1.own g hg).2]; exact hv.2 g hg⟩
 have hown':∀ g,fv'.ownBlock=some g→T9 g=11:=fun g hg=>by
  rcases hl.own g hg with e | e
  ·rw [t0 g (h.fired.row.own g e).2]; exact h11 g e
  ·exact t1 g e
 refine ⟨T9,h.net.keep hG (fun q hq e=>by have:=h11 q e; omega) (fun q hq _=>t0 q hq),fun q hq=>by rw [t0 q (Nat.lt_of_lt_of_le hq h.gr.size),h.old q hq],hGg,⟨hG.row h.all.row (fun g hg e=>h.off.1 g hg (h11 g e)),fun m hm=>hels _ _ (h.all.els m hm) (h.off.2 m hm),fun g hg=>by rw [t0 g (h.all.row.own g hg).2]; exact h.all.own g hg⟩,⟨hr,fun m hm=>?_,fun g hg=>by rw [hown' g hg]; omega⟩,h.off.old h.all t0,hown',fun m hm g hg=>?_⟩
 ·rcases List.mem_append.1 hm with hm | hm
  ·exact hels _ _ (h.fired.els m hm) (h.on.2 m hm)
  ·rw [List.mem_singleton] at hm
   subst hm
   exact hels _ _ hk hk11
 ·rcases List.mem_append.1 hm with hm | hm
  ·rw [t0 g ((h.fired.els m hm).1.own g hg).2]; exact h.on.2 m hm g hg
  ·rw [List.mem_singleton] at hm
   subst hm
   rw [t0 g (hk.1.own g hg).2]; exact hk11 g hg
theorem Hand.off {e:TypeId} {T:Nat→Nat} {v:Value} {xs:List VFt} {w:World} (h:Hand T e v xs w):Off T v xs:=
 ⟨fun g hg=>by rw [h.row.2 g hg]; omega,fun m hm g hg=>by
  obtain ⟨i,hi⟩:=List.getElem?_of_mem hm
  rw [(h.els i m hi).1.2 g hg]
  omega⟩
theorem Sv.matF_few (L:List (Int×Sv.Fact)) (hL:L.length≤16):∀ (rs:List Sv.Rule) (k:Nat),(∀ q∈rs,q.conds.length≤4)→(Sv.matF L k rs).length≤rs.length * 65536
 | [],_,_=>Nat.zero_le _
 | r :: rs,k,h=>by
  unfold Sv.matF
  rw [List.length_append,List.length_map,List.length_cons,Nat.succ_mul]
  have h1:=Sv.fromD_len L hL r.conds [] []
  have h2:16 ^ r.conds.length≤16 ^ 4:=Nat.pow_le_pow_right (by omega) (h r (List.mem_cons_self ..))
  have h3:=Sv.matF_few L hL rs (k+1) (fun q hq=>h q (List.mem_cons_of_mem _ hq))
  have h4:(16:Nat) ^ 4=65536:=by decide
  omega
theorem KOk.small {rs:List Sv.Rule} {m n:Nat} {st:Sv.St} (h:Sv.KOk rs m n st) (hr:Sv.RsOk rs):∀ k∈Sv.matches st.rs st.L,k.2.length≤4∧∀ y∈k.2,0≤y:=by
 intro k hk
 refine ⟨?_,fun y hy=>?_⟩
 ·obtain ⟨i,r,h1,_,h3⟩:=(Sv.mem_matches st.L k st.rs).1 hk
  obtain ⟨t,e1,e2⟩:=Sv.fromD_ext _ _ _ _ _ h3
  rw [e1,List.nil_append,e2]
  have hc:=hr.conds r (by rw [←h.rs]; exact List.mem_of_getElem? h1)
  have:Sv.pos r.conds≤r.conds.length:=by
   generalize r.conds=cs
   induction cs with
   | nil=>exact Nat.le_refl _
   | cons c cs ih=>
    unfold Sv.pos
    rw [List.length_cons]
    split<;>omega
  omega
 ·obtain ⟨p,hp,e⟩:=Sv.matches_ids st.rs st.L k hk y hy
  have:=(h.rng p hp).1
  omega
theorem gr_alD {w w':World} (h:w.grownBy w' none) (o:Obj):w.grownBy (w'.alloc o) none:=gr_trans h (World.grownBy_alloc w' o none)
end Go.Proofs.YtolhbeekfjnfmaaGreatDoor
namespace Go.Proofs.YtolhbeekfjnfmaaGreatDoor
open Go.RowKit
theorem mof_dec (a:VFt) (mr:Int) (mi:List Int):decide (a.mof=(mr,mi))=(decide (a.vals=mi) && (a.kind == mr)):=by
 unfold VFt.mof
 by_cases h1:a.kind=mr<;>by_cases h2:a.vals=mi<;>simp [h1,h2]
set_option maxRecDepth 100000 in
set_option maxHeartbeats 16000000 in
theorem fired_w (w:World) (aT aL:Addr) (hL:LD aT aL w) (hP:3 < w.heap.size) (s:ByteArray) (hs:s.size≤maxLen) (ao:Option Addr) (len cap:Nat) (hst:StpsAt ao len w) :
  Calls Tryz.prog 10 #[.string s,.slice ao len cap] w fun e w'=>e=.returned (.bool true)∧w.grownBy w' none:=by
 obtain ⟨rs,hrs⟩:=Sv.ktext_net s
 have hE:=kended_w aT aL w hL hP
 have hR:=fun (w1:World) (hg:w.grownBy w1 none)=>krun_w s aT aL w1 (hL.kept hg hP) (Nat.lt_of_lt_of_le hP hg.size) hs ao len cap (hst.kept hg) rs hrs
 have HRS:=hide (Sv.netOf_ok _ rs hrs)
 clear hL hP hst hs hrs
 go_enter Tryz.func10,Tryz.ntmps10
 go_wp2_with fail
 refine hE.mono ?_
 rintro e w1 ⟨rfl,hg1⟩
 have hR1:=hR w1 hg1
 clear hE hR
 go_wp2_with fail
 refine hR1.mono ?_
 rintro e w2 ⟨T2,x,s0,rfl,hK1⟩
 have hK:=hK1.from hg1
 have hM:=xMatsT T2 1 x s0 w2 hK.net
 have HK:=hide hK
 clear hR1 hK1 hg1 hK
 go_wp2_with fail
 refine hM.mono ?_
 rintro e w3 ⟨T3,l,xs,rfl,hg3,hH3,hx3,hT3⟩
 have hK3:=(unhide HK).more hg3 hT3
 have hsz:=KOk.small hK3.ok (unhide HRS)
 obtain ⟨lo,lc,hl⟩:=hH3.mtAt.slice
 subst hl
 have hxl:=hH3.mtAt.1.le
 unfold maxLen at hxl
 have HXS:=hide (show _∧_ from ⟨(show xs.map VFt.mof=Sv.matches s0.rs s0.L from hx3),hsz⟩)
 have hnil:LsT 52 T3 (.slice none 0 0) [] w3:=⟨RowAt.nil 0 _ ftenc_len,by simp,by simp [Value.ownBlock]⟩
 have H0:=hide (show FdI w x s0 (.slice lo xs.length lc) (.slice none 0 0) xs [] T3 w3∧Sv.FireI s0 s0 (([]:List VFt).map VFt.mof) 0 from ⟨⟨hK3.net,hK3.old,hK3.gr,hH3.lsT,hnil,hH3.off,by simp [Value.ownBlock],by simp⟩,Sv.FireI.start s0 0⟩)
 have hmx:xs.length≤1000000:=by
  have h1:xs.length=(Sv.matches s0.rs s0.L).length:=by rw [←hx3,List.length_map]
  have h2:=Sv.matF_few s0.L (by have:=hK3.ok.len; omega) s0.rs 0 (fun q hq=>(unhide HRS).conds q (by rw [←hK3.ok.rs]; exact hq))
  have h3:s0.rs.length≤8:=by rw [hK3.ok.rs]; exact (unhide HRS).len
  unfold Sv.matches at h1
  omega
 clear hM HK hK3 hH3 hx3 hT3 hg3 hsz hnil HRS
 go_wp2
 go_loopw [8,9,10] (fun fx la z w'=>∃ (fv:Value) (st:Sv.St) (fs:List VFt) (last:Int) (T:Nat→Nat),fx=fv∧la=.int .i64 last∧z=.int .i64 fs.length∧fs.length≤xs.length∧Hid (FdI w x st (.slice lo xs.length lc) fv xs fs T w'∧Sv.FireI s0 st (fs.map VFt.mof) last)) (fun _ _ z _=>xs.length+1 - (intOf z).toNat)
 case atStart=>exact ⟨_,s0,[],0,T3,rfl,rfl,rfl,Nat.zero_le _,H0⟩
 case round=>
  clear H0
  obtain ⟨fv,st,fs,last,T,hfv,rfl,rfl,hfl,HI⟩:=hrel
  replace hfv:=hfv.symm
  subst hfv
  have hd:decide (fs.length≤xs.length)=true:=decide_eq_true hfl
  have hI:=unhide HI
  have hF:=xFireT T 1 13 x st wr hI.1.net
  obtain ⟨⟨⟨⟨mr,mi⟩,me⟩,S'⟩,hfire⟩:∃ z,st.fire=z:=⟨_,rfl⟩
  have hnx:=hI.2.next (unhide HXS).2
  rw [hfire] at hF hnx
  simp only at hF hnx
  have HNX:=hide hnx
  have HFIRE:=hide hfire
  clear hI hnx hfire
  go_wp2_with fail
  refine hF.mono ?_
  rintro e w5 ⟨mo,mc,T5,rfl,hG5,hv5,hX5,hT5,hn5⟩
  have hgo:=(unhide HI).1.go hX5 hG5 hT5
  clear hF
  rcases unhide HNX with ⟨rfl,hsame⟩ | ⟨m,hm,hin,hnf,hlast,hfi⟩
  ·subst hsame
   have hI6:=hgo.more (World.grownBy_alloc w5 (.cells #[.int .i64 mr,.slice mo mi.length mc] 52) none) (T':=T5) (fun _ _=>rfl)
   have hF6:=xFireT T5 1 13 x S' _ hI6.net
   rw [unhide HFIRE] at hF6
   simp only at hF6
   have HI6:=hide hI6
   clear hgo hX5 hG5 hT5 hn5 hv5 HNX hI6
   go_wp2_with fail
   refine hF6.mono ?_
   rintro e w7 ⟨mo7,mc7,T7,rfl,hG7,_,hX7,hT7,_⟩
   have hI8:=((unhide HI6).go hX7 hG7 hT7).more (World.grownBy_alloc w7 (.cells #[.int .i64 mr,.slice mo7 mi.length mc7] 52) none) (T':=T7) (fun _ _=>rfl)
   have hF8:=xFireT T7 1 13 x S' _ hI8.net
   rw [unhide HFIRE] at hF8
   simp only at hF8
   have HI8:=hide hI8
   clear hF6 hG7 hX7 hT7 HI6 hI8
   go_wp2_with fail
   refine hF8.mono ?_
   rintro e w9 ⟨mo9,mc9,T9,rfl,hG9,_,hX9,hT9,_⟩
   have hI10:=((unhide HI8).go hX9 hG9 hT9).more (World.grownBy_alloc w9 (.cells #[.int .i64 mr,.slice mo9 mi.length mc9] 52) none) (T':=T9) (fun _ _=>rfl)
   have hM10:=xMatsT T9 1 x S' _ hI10.net
   have HI10:=hide hI10
   clear hF8 hG9 hX9 hT9 HI8 hI10
   go_wp2_with fail
   refine hM10.mono ?_
   rintro e w11 ⟨T11,l11,xs11,rfl,hg11,hH11,hx11,hT11⟩
   have hfi:=(unhide HI).2
   have hS:=ksame_w xs11 xs _ _ w11 hH11.mtAt ((unhide HI10).all.mtAt.gr hg11)
   have hdS:decide (xs11.map VFt.mof=xs.map VFt.mof)=true:=decide_eq_true ((show xs11.map VFt.mof=Sv.matches S'.rs S'.L from hx11).trans (by rw [hfi.rs,hfi.L]; exact (unhide HXS).1.symm))
   rw [hdS] at hS
   obtain ⟨ko,kc,hk11⟩:=hH11.mtAt.slice
   subst hk11
   have hgF:=gr_trans (unhide HI10).gr hg11
   clear hM10 hH11 hx11 hT11 hdS hg11 HI10 hfi
   go_wp2_with fail
   refine hS.mono ?_
   rintro e w12 ⟨rfl,hg12⟩
   have HGF:=hide (gr_trans hgF hg12)
   clear hS hg12 hgF
   go_wp2
   go_ret
   exact ⟨rfl,unhide HGF⟩
  ·simp only [Prod.mk.injEq] at hm
   obtain ⟨rfl,rfl⟩:=hm
   simp only at hlast hfi
   have hgA:=World.grownBy_alloc w5 (.cells #[.int .i64 mr,.slice mo mi.length mc] 52) none
   have hM0:=heap_alloc_new w5 (.cells #[.int .i64 mr,.slice mo mi.length mc] 52)
   obtain ⟨T6,hX6,hT6,hn6⟩:=hX5.cut hgA
   have hI6:=hgo.more hgA hT6
   have hmi:NsT T6 (.slice mo mi.length mc) mi (w5.alloc (.cells #[.int .i64 mr,.slice mo mi.length mc] 52)):=⟨(hv5.gr hgA).weak (Nat.zero_le _),fun g hg=>by rw [hT6 g (hv5.own g hg).2,hn5 g (hv5.own g hg).1]; omega⟩
   have hmi11:∀ g,(Value.slice mo mi.length mc).ownBlock=some g→T6 g≠11:=fun g hg=>by rw [hT6 g (hv5.own g hg).2,hn5 g (hv5.own g hg).1]; omega
   have hml:mi.length≤9223372036854775807:=by have:=hv5.le; unfold maxLen at this; omega
   obtain ⟨W6,hW6⟩:∃ W6,w5.alloc (.cells #[.int .i64 mr,.slice mo mi.length mc] 52)=W6:=⟨_,rfl⟩
   rw [hW6] at hgA hM0 hI6 hmi
   obtain ⟨fo,fcp,hfv⟩:=hI6.fired.row.slice
   subst hfv
   have HC:=hide (fun (wx:World) (hx:W6.grownBy wx none)=>show (wx.cell? ⟨w5.heap.size,0,none⟩=some (.int .i64 mr)∧wx.cell? ⟨w5.heap.size,1,none⟩=some (.slice mo mi.length mc))∧IsAt 0 (.slice mo mi.length mc) mi wx∧MtAt (.slice lo xs.length lc) xs wx∧MtAt (.slice fo fs.length fcp) fs wx from ⟨⟨hx.cell (cell_of hM0 rfl) (by simp),hx.cell (cell_of hM0 rfl) (by simp)⟩,hmi.1.gr hx,hI6.all.mtAt.gr hx,hI6.fired.mtAt.gr hx⟩)
   have HI6:=hide (show _∧_∧_ from ⟨hI6,hmi,hmi11⟩)
   have HFI:=hide (show _∧_∧_∧_ from ⟨hin,hnf,hlast,hfi⟩)
   have hflt:fs.length < xs.length:=by
    have:=hfi.len
    rw [List.length_append,List.length_map,List.length_singleton,←(unhide HXS).1,List.length_map] at this
    omega
   clear hgo hX5 hG5 hT5 hn5 hv5 HNX HI hX6 hT6 hn6 hI6 hmi hmi11 hM0 hgA hin hnf hlast hfi HFIRE
   go_wp2
   go_loopw [13,14] (fun nv z w'=>∃ k:Nat,k≤mi.length∧nv=.int .i64 (Sv.top (mi.take k))∧z=.int .i64 k∧W6.grownBy w' none) (fun _ z _=>mi.length - (intOf z).toNat)
   case atStart=>exact ⟨0,Nat.zero_le _,rfl,rfl,World.grownBy.refl _ _⟩
   case round=>
    clear hW6
    obtain ⟨k,hk,rfl,rfl,hg⟩:=hrel
    obtain ⟨⟨m0,m1⟩,hmi,_,_⟩:=unhide HC _ hg
    by_cases hlk:k < mi.length
    ·have hdk:decide (k < mi.length)=true:=by simpa using hlk
     obtain ⟨y,hy⟩:∃ y,mi[k]?=some y:=⟨_,List.getElem?_eq_getElem hlk⟩
     obtain ⟨gy,cy,hvy,y0⟩:=IsAt.at hmi hy
     simp only [Value.slice.injEq,true_and] at hvy
     obtain ⟨rfl,rfl⟩:=hvy
     have htk:=Sv.top_take hy
     obtain ⟨tp,htp⟩:∃ tp,Sv.top (mi.take k)=tp:=⟨_,rfl⟩
     rw [htp] at htk ⊢
     by_cases hty:tp < y
     ·have hdy:decide (tp < y)=true:=by simpa using hty
      rw [if_pos hty] at htk
      have HTK:=hide htk
      clear htk hy hmi htp
      go_wp2
      go_roundw
      case rel=>exact ⟨k+1,by omega,by rw [unhide HTK],by go_num,hg⟩
      case measure=>simp [intOf]; omega
     ·have hdy:decide (tp < y)=false:=by simpa using hty
      rw [if_neg hty] at htk
      have HTK:=hide htk
      clear htk hy hmi htp
      go_wp2
      go_roundw
      case rel=>exact ⟨k+1,by omega,by rw [unhide HTK],by go_num,hg⟩
      case measure=>simp [intOf]; omega
    ·have hdk:decide (k < mi.length)=false:=by simpa using hlk
     rw [List.take_of_length_le (by omega)]
     clear hmi
     go_wp2
     clear m0 m1
     go_loopw [15,16] (fun b z w'=>∃ k:Nat,k≤xs.length∧b=.bool ((xs.take k).any (fun a=>decide (a.mof=(mr,mi))))∧z=.int .i64 k∧W6.grownBy w' none) (fun _ z _=>xs.length - (intOf z).toNat)
     case atStart=>exact ⟨0,Nat.zero_le _,by simp,rfl,hg⟩
     case round=>
      clear hg
      obtain ⟨k,hk,rfl,rfl,hg⟩:=hrel
      obtain ⟨⟨m0,m1⟩,hmi,hall,_⟩:=unhide HC _ hg
      by_cases hlk:k < xs.length
      ·have hdk:decide (k < xs.length)=true:=by simpa using hlk
       obtain ⟨⟨ak,av,al⟩,ha⟩:∃ a,xs[k]?=some a:=⟨_,List.getElem?_eq_getElem hlk⟩
       obtain ⟨ga,ca,hva,a0,a1,hra⟩:=hall.at ha
       simp only [Value.slice.injEq,true_and] at hva
       obtain ⟨rfl,rfl⟩:=hva
       simp only at a0 a1 hra
       obtain ⟨po,pc,hav⟩:=hra.slice
       subst hav
       have hsm:=fun (wx:World) (hx:wr.grownBy wx none)=>ksameN_w al mi _ _ wx (hra.gr hx) (hmi.gr hx)
       have hnext:(xs.take (k+1)).any (fun a=>decide (a.mof=(mr,mi)))=((xs.take k).any (fun a=>decide (a.mof=(mr,mi))) || (decide (al=mi) && (ak == mr))):=by
        rw [List.take_add_one,ha,List.any_append]
        simp only [Option.toList_some,List.any_cons,List.any_nil,Bool.or_false]
        rw [mof_dec]
       obtain ⟨r1,hr1⟩:∃ r1,decide (al=mi)=r1:=⟨_,rfl⟩
       rw [hr1] at hsm hnext
       have HNX:=hide hnext
       have HC2:=hide (fun (wx:World) (hx:wr.grownBy wx none)=>show wx.cell? ⟨w5.heap.size,0,none⟩=some (.int .i64 mr)∧wx.cell? ⟨w5.heap.size,1,none⟩=some (.slice mo mi.length mc)∧wx.cell? ⟨ga,k * 2,none⟩=some (.int .i64 ak)∧wx.cell? ⟨ga,k * 2+1,none⟩=some (.slice po al.length pc) from ⟨hx.cell m0 (by simp),hx.cell m1 (by simp),hx.cell a0 (by simp),hx.cell a1 (by simp)⟩)
       clear hall ha hra hmi hnext hr1
       go_wp2_with fail
       go_cut [17] (fun r wx=>r=.bool r1∧wr.grownBy wx none)
       case first=>
        go_region_with (go_at_call 30; refine (hsm _ (by repeat (first | exact World.grownBy.refl _ _ | assumption | apply gr_drew))).mono ?_; rintro e w7 ⟨rfl,hg7⟩)
        all_goals
         go_wp2
         go_meet
         exact ⟨rfl,gr_trans (by repeat (first | exact World.grownBy.refl _ _ | apply gr_drew)) hg7⟩
       case rest=>
       obtain ⟨rfl,hg9⟩:=hcut
       obtain ⟨m0',m1',a0',a1'⟩:=unhide HC2 _ hg9
       have hgc:=gr_trans hg hg9
       clear hsm m0 m1 a0 a1 hg hg9 HC2
       cases hb:(xs.take k).any (fun a=>decide (a.mof=(mr,mi))) with
       | true=>
        have HB:=hide hb
        clear hb
        go_wp2
        go_quiet (fail)
        go_wp2
        go_roundw
        case rel=>exact ⟨k+1,by omega,by rw [unhide HNX,unhide HB]; rfl,by go_num,gr_trans hgc (gr_drewN _ _ _)⟩
        case measure=>simp [intOf]; omega
       | false=>
        have HB:=hide hb
        clear hb
        cases r1 with
        | false=>
         go_wp2
         go_quiet (fail)
         go_wp2
         go_roundw
         case rel=>exact ⟨k+1,by omega,by rw [unhide HNX,unhide HB]; rfl,by go_num,gr_trans hgc (gr_drewN _ _ _)⟩
         case measure=>simp [intOf]; omega
        | true=>
         cases hak:(ak == mr) with
         | true=>
          go_wp2
          go_quiet (fail)
          go_wp2
          go_roundw
          case rel=>exact ⟨k+1,by omega,by rw [unhide HNX,unhide HB,hak]; rfl,by go_num,gr_trans hgc (gr_drewN _ _ _)⟩
          case measure=>simp [intOf]; omega
         | false=>
          go_wp2
          go_quiet (fail)
          go_wp2
          go_roundw
          case rel=>exact ⟨k+1,by omega,by rw [unhide HNX,unhide HB,hak]; rfl,by go_num,gr_trans hgc (gr_drewN _ _ _)⟩
          case measure=>simp [intOf]; omega
      ·have hdk:decide (k < xs.length)=false:=by simpa using hlk
       have hany:(xs.take k).any (fun a=>decide (a.mof=(mr,mi)))=true:=by
        rw [List.take_of_length_le (by omega),List.any_eq_true]
        have hin:=(unhide HFI).1
        rw [←(unhide HXS).1] at hin
        obtain ⟨a,ha,e⟩:=List.mem_map.1 hin
        exact ⟨a,ha,decide_eq_true e⟩
       rw [hany]
       clear hany hmi hall m0 m1
       go_wp2
       go_loopw [18] (fun z w'=>∃ k:Nat,k≤fs.length∧z=.int .i64 k∧W6.grownBy w' none) (fun z _=>fs.length - (intOf z).toNat)
       case atStart=>exact ⟨0,Nat.zero_le _,rfl,hg⟩
       case round=>
        clear hg
        obtain ⟨k,hk,rfl,hg⟩:=hrel
        obtain ⟨⟨m0,m1⟩,hmi,_,hfd⟩:=unhide HC _ hg
        by_cases hlk:k < fs.length
        ·have hdk:decide (k < fs.length)=true:=by simpa using hlk
         obtain ⟨⟨ak,av,al⟩,ha⟩:∃ a,fs[k]?=some a:=⟨_,List.getElem?_eq_getElem hlk⟩
         obtain ⟨ga,ca,hva,a0,a1,hra⟩:=hfd.at ha
         simp only [Value.slice.injEq,true_and] at hva
         obtain ⟨rfl,rfl⟩:=hva
         simp only at a0 a1 hra
         obtain ⟨po,pc,hav⟩:=hra.slice
         subst hav
         have hsm:=fun (wx:World) (hx:wr.grownBy wx none)=>ksameN_w al mi _ _ wx (hra.gr hx) (hmi.gr hx)
         have hno:decide (al=mi)=true→(ak == mr)=false:=fun h=>by
          cases hx:(ak == mr)
          ·rfl
          ·exfalso
           have e1:=of_decide_eq_true h
           have e2:=eq_of_beq hx
           refine (unhide HFI).2.1 (List.mem_map.2 ⟨_,List.mem_of_getElem? ha,?_⟩)
           show (ak,al)=(mr,mi)
           rw [e1,e2]
         obtain ⟨r1,hr1⟩:∃ r1,decide (al=mi)=r1:=⟨_,rfl⟩
         rw [hr1] at hsm hno
         have HNO:=hide hno
         have HC2:=hide (fun (wx:World) (hx:wr.grownBy wx none)=>show wx.cell? ⟨w5.heap.size,0,none⟩=some (.int .i64 mr)∧wx.cell? ⟨w5.heap.size,1,none⟩=some (.slice mo mi.length mc)∧wx.cell? ⟨ga,k * 2,none⟩=some (.int .i64 ak)∧wx.cell? ⟨ga,k * 2+1,none⟩=some (.slice po al.length pc) from ⟨hx.cell m0 (by simp),hx.cell m1 (by simp),hx.cell a0 (by simp),hx.cell a1 (by simp)⟩)
         clear hfd ha hra hmi hno hr1
         go_wp2_with fail
         go_cut [19] (fun r wx=>r=.bool r1∧wr.grownBy wx none)
         case first=>
          go_region_with (go_at_call 30; refine (hsm _ (by repeat (first | exact World.grownBy.refl _ _ | assumption | apply gr_drew))).mono ?_; rintro e w7 ⟨rfl,hg7⟩)
          all_goals
           go_wp2
           go_meet
           exact ⟨rfl,gr_trans (by repeat (first | exact World.grownBy.refl _ _ | apply gr_drew)) hg7⟩
         case rest=>
         obtain ⟨rfl,hg9⟩:=hcut
         obtain ⟨m0',m1',a0',a1'⟩:=unhide HC2 _ hg9
         have hgc:=gr_trans hg hg9
         clear hsm m0 m1 a0 a1 hg hg9 HC2
         cases r1 with
         | false=>
          go_wp2
          go_quiet (fail)
          go_wp2
          go_roundw
          case rel=>exact ⟨k+1,by omega,by go_num,gr_trans hgc (gr_drewN _ _ _)⟩
          case measure=>simp [intOf]; omega
         | true=>
          have hak:=unhide HNO rfl
          go_wp2
          go_quiet (fail)
          go_wp2
          go_roundw
          case rel=>exact ⟨k+1,by omega,by go_num,gr_trans hgc (gr_drewN _ _ _)⟩
          case measure=>simp [intOf]; omega
        ·have hdk:decide (k < fs.length)=false:=by simpa using hlk
         have hgB:=gr_trans hg (World.grownBy_alloc wr (.cells #[.int .i64 mr,.slice mo mi.length mc] 52) none)
         have hIA:=(unhide HI6).1.more hgB (T':=T6) (fun _ _=>rfl)
         have hmiA:=(unhide HI6).2.1.gr hgB (T':=T6) (fun _ _=>rfl)
         have hrowF:=hIA.fired.row
         have hsrc:RowAt 52 2 ftenc 0 (.slice (some ⟨wr.heap.size,0,none⟩) 1 1) [(⟨mr,.slice mo mi.length mc,mi⟩:VFt)] (wr.alloc (.cells #[.int .i64 mr,.slice mo mi.length mc] 52)):=(RowAt.lit1 (e:=52) ftenc_len wr (⟨mr,.slice mo mi.length mc,mi⟩:VFt) #[.int .i64 mr,.slice mo mi.length mc] rfl).weak (Nat.zero_le _)
         have HKEY:=hide (fun (v9:Value) (w9:World) hv9 (hl9:Longer (.slice fo fs.length fcp) v9 fs.length [(⟨mr,.slice mo mi.length mc,mi⟩:VFt)].length (wr.alloc (.cells #[.int .i64 mr,.slice mo mi.length mc] 52)) w9)=>hIA.app (k:=⟨mr,.slice mo mi.length mc,mi⟩) hmiA (unhide HI6).2.2 hv9 hl9)
         have HEND:=hide (show Sv.FireI s0 S' ((fs ++ [(⟨mr,.slice mo mi.length mc,mi⟩:VFt)]).map VFt.mof) (Sv.top mi) from by rw [List.map_append]; exact (unhide HFI).2.2.2)
         have hlast:=(unhide HFI).2.2.1
         obtain ⟨tp,htp⟩:∃ tp,Sv.top mi=tp:=⟨_,rfl⟩
         rw [htp] at hlast HEND ⊢
         clear hIA hmiA hmi hfd hgB htp
         rcases Nat.eq_zero_or_pos fs.length with h0 | h0
         ·have hd0:decide (0 < fs.length)=false:=decide_eq_false (by omega)
          clear h0 hlast
          go_wp2_with (at_builtin; refine app_two rfl _ _ 43 rfl Tryz.underlying43 Tryz.infoMatch2 rfl (by decide) rfl hrowF rfl hsrc (by simp) (fun y hy=>by simp only [List.mem_singleton] at hy; subst hy; intro c hc; simp [ftenc] at hc; rcases hc with rfl | rfl<;>rfl) (by unfold maxLen; simp; omega) (by simp; omega) ?_)
          intro v9 w9 hv9 hl9
          obtain ⟨T9,hI9⟩:=unhide HKEY v9 w9 hv9 hl9
          have HI9:=hide (show _∧_ from ⟨hI9,unhide HEND⟩)
          obtain ⟨g9,cap9,rfl⟩:=hl9.form
          clear hI9 hv9 hl9 hrowF hsrc HKEY
          go_wp2
          go_roundw
          case rel=>exact ⟨_,S',_,tp,T9,rfl,rfl,by simp,by rw [List.length_append,List.length_singleton]; omega,HI9⟩
          case measure=>simp [intOf]; omega
         ·have hd0:decide (0 < fs.length)=true:=decide_eq_true h0
          have hdl:decide (last < tp)=false:=decide_eq_false (by have:=hlast (fun e=>by have e2:=congrArg List.length e; simp at e2; rw [e2] at h0; simp at h0); omega)
          clear h0 hlast
          go_wp2_with (at_builtin; refine app_two rfl _ _ 43 rfl Tryz.underlying43 Tryz.infoMatch2 rfl (by decide) rfl hrowF rfl hsrc (by simp) (fun y hy=>by simp only [List.mem_singleton] at hy; subst hy; intro c hc; simp [ftenc] at hc; rcases hc with rfl | rfl<;>rfl) (by unfold maxLen; simp; omega) (by simp; omega) ?_)
          intro v9 w9 hv9 hl9
          obtain ⟨T9,hI9⟩:=unhide HKEY v9 w9 hv9 hl9
          have HI9:=hide (show _∧_ from ⟨hI9,unhide HEND⟩)
          obtain ⟨g9,cap9,rfl⟩:=hl9.form
          clear hI9 hv9 hl9 hrowF hsrc HKEY
          go_wp2
          go_roundw
          case rel=>exact ⟨_,S',_,tp,T9,rfl,rfl,by simp,by rw [List.length_append,List.length_singleton]; omega,HI9⟩
          case measure=>simp [intOf]; omega
end Go.Proofs.YtolhbeekfjnfmaaGreatDoor

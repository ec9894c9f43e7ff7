import Derived.Test.YtolhbeekfjnfmaaGreatDoorK43
import Derived.BigQuiet
namespace Go.Proofs.YtolhbeekfjnfmaaGreatDoor
def Sv.jR:List Sv.Rule:=[⟨[112],[⟨false,1,[⟨1,120,0⟩,⟨1,121,0⟩]⟩,⟨false,2,[⟨1,121,0⟩,⟨1,122,0⟩]⟩]⟩,⟨[113],[⟨false,1,[⟨1,120,0⟩,⟨1,121,0⟩]⟩,⟨true,2,[⟨1,121,0⟩,⟨0,0,0⟩]⟩]⟩]
def Sv.jA (f:Sv.Fact):Bool:=decide (f.kind=1) && decide (f.vals.length=2)
def Sv.jB (f g:Sv.Fact):Bool:=decide (g.kind=2) && (decide (g.vals.length=2) && decide (g.vals[0]?.getD 0=f.vals[1]?.getD 0))
theorem two_of {l:List Int} (h:l.length=2):∃ a b,l=[a,b]:=by
 match l,h with
 | [a,b],_=>exact ⟨a,b,rfl⟩
theorem Sv.j_first (f:Sv.Fact):Sv.meets f ⟨false,1,[⟨1,120,0⟩,⟨1,121,0⟩]⟩ []=if Sv.jA f=true then some [(120,f.vals[0]?.getD 0),(121,f.vals[1]?.getD 0)] else none:=by
 unfold Sv.meets Sv.jA
 by_cases h:f.kind=1∧f.vals.length=2
 ·obtain ⟨a,b,hv⟩:=two_of h.2
  rw [if_pos (by exact ⟨h.1,h.2⟩),if_pos (by simp [h.1,h.2]),hv]
  rfl
 ·rw [if_neg (by exact h),if_neg (by simpa using h)]
theorem Sv.j_second (f g:Sv.Fact):Sv.meets g ⟨false,2,[⟨1,121,0⟩,⟨1,122,0⟩]⟩ [(120,f.vals[0]?.getD 0),(121,f.vals[1]?.getD 0)]=if Sv.jB f g=true then some [(120,f.vals[0]?.getD 0),(121,f.vals[1]?.getD 0),(122,g.vals[1]?.getD 0)] else none:=by
 unfold Sv.meets Sv.jB
 by_cases h:g.kind=2∧g.vals.length=2
 ·obtain ⟨a,b,hv⟩:=two_of h.2
  rw [if_pos (by exact ⟨h.1,h.2⟩),hv,decide_eq_true h.1,decide_eq_true (by rfl:([a,b]:List Int).length=2),Bool.true_and,Bool.true_and]
  show (if a=f.vals[1]?.getD 0 then some [(120,f.vals[0]?.getD 0),(121,f.vals[1]?.getD 0),(122,b)] else none)=_
  by_cases he:a=f.vals[1]?.getD 0
  ·rw [if_pos he,if_pos (by simpa using he)]; rfl
  ·rw [if_neg he,if_neg (by simpa using he)]
 ·rw [if_neg (by exact h),if_neg (by
   intro hx
   rw [Bool.and_eq_true,Bool.and_eq_true,decide_eq_true_eq,decide_eq_true_eq] at hx
   exact h ⟨hx.1,hx.2.1⟩)]
theorem Sv.j_third (f g:Sv.Fact):(Sv.meets g ⟨true,2,[⟨1,121,0⟩,⟨0,0,0⟩]⟩ [(120,f.vals[0]?.getD 0),(121,f.vals[1]?.getD 0)]).isSome=Sv.jB f g:=by
 unfold Sv.meets Sv.jB
 by_cases h:g.kind=2∧g.vals.length=2
 ·obtain ⟨a,b,hv⟩:=two_of h.2
  rw [if_pos (by exact ⟨h.1,h.2⟩),hv,decide_eq_true h.1,decide_eq_true (by rfl:([a,b]:List Int).length=2),Bool.true_and,Bool.true_and]
  show (if a=f.vals[1]?.getD 0 then some [(120,f.vals[0]?.getD 0),(121,f.vals[1]?.getD 0)] else none).isSome=_
  by_cases he:a=f.vals[1]?.getD 0
  ·rw [if_pos he,decide_eq_true (by simpa using he)]; rfl
  ·rw [if_neg he,decide_eq_false (by simpa using he)]; rfl
 ·rw [if_neg (by exact h)]
  cases hx:(decide (g.kind=2) && (decide (g.vals.length=2) && decide (g.vals[0]?.getD 0=f.vals[1]?.getD 0)))
  ·rfl
  ·rw [Bool.and_eq_true,Bool.and_eq_true,decide_eq_true_eq,decide_eq_true_eq] at hx
   exact absurd ⟨hx.1,hx.2.1⟩ h
def Sv.jW (L:List (Int×Sv.Fact)) (p:Int×Sv.Fact):List (Int×List Int):=if Sv.jA p.2=true then (L.filter (fun q=>Sv.jB p.2 q.2)).map (fun q=>((0:Int),[p.1,q.1])) else []
def Sv.jU (L:List (Int×Sv.Fact)) (p:Int×Sv.Fact):List (Int×List Int):=if Sv.jA p.2=true∧L.any (fun q=>Sv.jB p.2 q.2)=false then [((1:Int),[p.1])] else []
theorem flat_filter {α β:Type} (q:α→Bool) (g:α→β):∀ (l:List α),l.flatMap (fun x=>if q x=true then [g x] else [])=(l.filter q).map g
 | []=>rfl
 | x :: l=>by
  rw [List.flatMap_cons,flat_filter q g l]
  cases h:q x
  ·rw [if_neg (by simp),List.filter_cons_of_neg (by rw [h]; simp)]; rfl
  ·rw [if_pos rfl,List.filter_cons_of_pos h]; rfl
theorem Sv.jR_mats (L:List (Int×Sv.Fact)):Sv.matches Sv.jR L=L.flatMap (Sv.jW L) ++ L.flatMap (Sv.jU L):=by
 show (Sv.fromD L _ [] []).map _ ++ ((Sv.fromD L _ [] []).map _ ++ [])=_
 rw [List.append_nil]
 congr 1
 ·unfold Sv.fromD
  rw [if_neg (by simp),List.map_flatMap]
  congr 1
  funext p
  rw [Sv.j_first]
  unfold Sv.jW
  cases hA:Sv.jA p.2
  ·rfl
  ·rw [if_pos rfl,if_pos rfl]
   show (Sv.fromD L [⟨false,2,[⟨1,121,0⟩,⟨1,122,0⟩]⟩] _ ([] ++ [p.1])).map _=_
   unfold Sv.fromD
   rw [if_neg (by simp),List.map_flatMap,←flat_filter (fun q:Int×Sv.Fact=>Sv.jB p.2 q.2) (fun q:Int×Sv.Fact=>((0:Int),[p.1,q.1]))]
   congr 1
   funext q
   rw [Sv.j_second]
   cases Sv.jB p.2 q.2
   ·rfl
   ·rfl
 ·unfold Sv.fromD
  rw [if_neg (by simp),List.map_flatMap]
  congr 1
  funext p
  rw [Sv.j_first]
  unfold Sv.jU
  cases hA:Sv.jA p.2
  ·rfl
  ·rw [if_pos rfl]
   show (Sv.fromD L [⟨true,2,[⟨1,121,0⟩,⟨0,0,0⟩]⟩] _ ([] ++ [p.1])).map _=_
   unfold Sv.fromD
   rw [if_pos rfl]
   have e:L.any (fun q=>(Sv.meets q.2 ⟨true,2,[⟨1,121,0⟩,⟨0,0,0⟩]⟩ [(120,p.2.vals[0]?.getD 0),(121,p.2.vals[1]?.getD 0)]).isSome)=L.any (fun q=>Sv.jB p.2 q.2):=by
    congr 1
    funext q
    exact Sv.j_third p.2 q.2
   rw [e]
   cases L.any (fun q=>Sv.jB p.2 q.2)
   ·rfl
   ·rfl
end Go.Proofs.YtolhbeekfjnfmaaGreatDoor
namespace Go.Proofs.YtolhbeekfjnfmaaGreatDoor
open Go.RowKit
structure LG (aT aL:Addr) (w:World):Prop where
 cT:w.cell? ⟨2,0,none⟩=some (.iface 345 (.pointer (some aT)))
 cL:w.cell? ⟨0,0,none⟩=some (.iface 345 (.pointer (some aL)))
theorem LG.kept {aT aL:Addr} {w w':World} (h:LG aT aL w) (g:w.grownBy w' none):LG aT aL w':=⟨g.cell h.cT (by simp),g.cell h.cL (by simp)⟩
set_option maxHeartbeats 1000000 in
theorem xNewG (s:ByteArray) (aT aL:Addr) (w:World) (hL:LG aT aL w) (hm:s.size≤maxLen) (hs:¬ 400 < s.size) (rs:List Sv.Rule) (hr:Sv.rules s.data.toList=.inr rs) (hx:Sv.ex rs=false) (hok:Sv.RsOk rs) :
  Calls Tryz.prog 17 #[.string s] w fun e w'=>XNewPost (.inr rs) w e w':=by
 obtain ⟨U0,hU0⟩:∃ U0:Nat→Nat,U0=fun i=>if i < w.heap.size then 0 else 1:=⟨_,rfl⟩
 have u0:∀ i,i < w.heap.size→U0 i=0:=fun i hi=>by rw [hU0]; dsimp only; rw [if_pos hi]
 have u1:∀ i,w.heap.size≤i→U0 i=1:=fun i hi=>by rw [hU0]; dsimp only; rw [if_neg (by omega)]
 have HR:=hide hr
 have HX:=hide hx
 clear hr hx hU0
 go_enter Tryz.func17,Tryz.ntmps17
 go_wp2_with fail
 refine (parse_w s w _ aT _ aL hL.cT hL.cL hm).mono ?_
 rintro e w1 ⟨hg1,hpost⟩
 rw [if_neg hs,unhide HR] at hpost
 simp only at hpost
 rw [unhide HX,if_neg (by simp)] at hpost
 obtain ⟨u,rfl,hrs⟩:=hpost
 have hN:=nNew_w newChainOK U0 u rs w1 (fun i hi=>by by_cases h:i < w.heap.size; rw [u0 i h]; omega; rw [u1 i (by omega)]; omega) (rsIn_of u1 hrs) (fun r hr=>⟨hok.conds r hr,hok.terms r hr⟩) (by have:=hok.len; omega)
 obtain ⟨ao,cap,rfl⟩:=hrs.slice
 have hs1:=hg1.size
 have HOK:=hide hok
 clear hrs hok
 go_wp2_with (go_at_call 38; refine hN.mono ?_; rintro e w2 ⟨nb,U,rfl,hb,hNet,hg2,ho,hn⟩)
 go_ret2
 have hb2:nb < w2.heap.size:=by obtain ⟨cv,bs,k1,_⟩:=hNet; exact row_lt k1
 have hg3:=World.grownBy_alloc w2 (.cells #[.pointer (some ⟨nb,0,none⟩),.slice none 0 0,.int .i64 0] 88) none
 have hs2:=hg2.size
 refine ⟨gr_trans hg1 (gr_trans hg2 hg3),w2.heap.size,nb,U,rfl,by omega,by simp,hb2,heap_alloc_new _ _,⟨w2,hNet,Nat.le_refl _,hg3⟩,fun i hi=>by rw [ho i (by omega)]; exact u0 i hi,fun i hi=>?_⟩
 by_cases h:i < w1.heap.size
 ·rw [ho i h]; exact .inl (u1 i hi)
 ·exact hn i (by omega)
theorem xNewTG (T:Nat→Nat) (t:Nat) (s:ByteArray) (aT aL:Addr) (w:World) (hL:LG aT aL w) (hm:s.size≤maxLen) (rs:List Sv.Rule) (hrs:Sv.netOf s.data.toList=.inr rs) :
  Calls Tryz.prog 17 #[.string s] w fun e w'=>w.grownBy w' none∧∃ T' x,e=.returned (.tuple #[.pointer (some ⟨x,0,none⟩),.int .i64 0])∧XT T' t x ⟨rs,[],0,[]⟩ w'∧w.heap.size≤x∧∀ k,k < w.heap.size→T' k=T k:=by
 have hlen:¬ 400 < s.size:=by
  intro h
  unfold Sv.netOf at hrs
  rw [size_list,if_pos h] at hrs
  cases hrs
 have hr:=Sv.netOf_rules _ rs hrs
 have hx:Sv.ex rs=false:=by
  unfold Sv.netOf at hrs
  split at hrs
  ·cases hrs
  ·rw [hr] at hrs
   simp only at hrs
   cases hx:Sv.ex rs
   ·rfl
   ·rw [hx] at hrs; cases hrs
 refine (xNewG s aT aL w hL hm hlen rs hr hx (Sv.netOf_ok _ rs hrs)).mono ?_
 rintro e w' ⟨hg,hp⟩
 refine ⟨hg,?_⟩
 ·have hr:=hrs
  obtain ⟨x,nb,U,rfl,hx,hxw,hnx,hb,⟨w1,hN,h1,hg1⟩,hU0,hU1⟩:=hp
  have hok:=Sv.netOf_ok _ rs hr
  have htk:=Sv.rules_tOk _ rs (Sv.netOf_rules _ rs hr)
  have hst:XSt ⟨rs,[],0,[]⟩ [] (rs.map (fun r=>newCh r.conds)) (rs.map (fun _=>[])):=XSt.new rs hok.len (fun r hr=>⟨hok.conds r hr,htk r hr⟩)
  obtain ⟨U',hU'⟩:∃ U':Nat→Nat,U'=fun i=>if i=x then 2 else U i:=⟨_,rfl⟩
  have hX:XAt U' x nb (.slice none 0 0) [] (0:Int) (rs.map (fun r=>newCh r.conds)) w':=by
   refine ⟨hb,by rw [hU']; dsimp only; rw [if_pos rfl],⟨RowAt.nil _ _ fenc_len,by simp [Value.ownBlock]⟩,by simp,?_⟩
   exact hN.keep (GrS.of hg1 (by simp):GrS (fun _=>False) w1 w') (by simp) (fun i hi=>by rw [hU']; dsimp only; rw [if_neg (by omega)])
  obtain ⟨T',h2,h3⟩:=XT.mk' (T:=T) (t:=t) (w:=w) (s:=⟨rs,[],0,[]⟩) hX hst (fun i hi h=>by rw [hU'] at h; dsimp only at h; rw [if_neg (by omega),hU0 i hi] at h; cases h) (fun i hi h=>by rw [hU'] at h; dsimp only at h; rw [if_neg (by omega),hU0 i hi] at h; omega)
  exact ⟨T',x,rfl,h2,hx,h3⟩
set_option maxRecDepth 100000 in
set_option maxHeartbeats 1000000 in
theorem kbegunG_w (aT aL:Addr) (w:World) (hL:LG aT aL w) :
  Calls Tryz.prog 15 #[] w fun e w'=>e=.returned (.bool true)∧w.grownBy w' none:=by
 have hN:=xNewTG (fun _=>0) 1 ⟨Sv.exT.toArray⟩ aT aL w hL (by decide) Sv.exR2 Sv.exT_net
 unfold Sv.exT at hN
 clear hL
 go_enter Tryz.func15,Tryz.ntmps15
 go_wp2_with (go_at_call 17; refine hN.mono ?_; rintro e w1 ⟨hg1,T1,x,rfl,hX1,hxw,hT1⟩)
 clear hN
 have hA1:=addNew T1 1 x Sv.ex0 ⟨1,[5,6]⟩ _ _ w1 _ hX1 (by decide) (by decide) (World.grownBy_alloc w1 (.cells #[.int .i64 5,.int .i64 6] 3) none) (inAt_lit2 w1 5 6) (by unfold maxLen; decide) (fun g hg=>by cases hg; exact Nat.le_refl _)
 rw [Sv.ex0_add] at hA1
 replace hA1:Calls Tryz.prog 18 #[.pointer (some ⟨x,0,none⟩),.agg #[.int .i64 1,.slice (some ⟨w1.heap.size,0,none⟩) 2 2]] (w1.alloc (.cells #[.int .i64 5,.int .i64 6] 3)) fun e w3=>e=.returned (.tuple #[.int .i64 1,.int .i64 0])∧GrS (fun k=>T1 k=1) w1 w3∧∃ T',XT T' 1 x Sv.ex1 w3∧∀ k,k < w1.heap.size→T' k=T1 k:=hA1
 have HB1:=hide (show w.grownBy w1 none∧w.heap.size≤x∧∀ k,k < w.heap.size→T1 k=0 from ⟨hg1,hxw,hT1⟩)
 clear hX1 hg1 hxw hT1
 refine hA1.mono ?_
 rintro e w2 ⟨rfl,hG2,T2,hX2,hT2⟩
 obtain ⟨hg1,hxw,hT1⟩:=unhide HB1
 have hg2:w.grownBy w2 none:=grown_of hg1 hG2 (fun k hk=>by rw [hT1 k hk]; decide)
 have hT2':∀ k,k < w.heap.size→T2 k=0:=fun k hk=>by rw [hT2 k (Nat.lt_of_lt_of_le hk hg1.size),hT1 k hk]
 have hA2:=addNew T2 1 x Sv.ex1 ⟨2,[6]⟩ _ _ w2 _ hX2 (by decide) (by decide) (World.grownBy_alloc w2 (.cells #[.int .i64 6] 3) none) (inAt_lit1 w2 6) (by unfold maxLen; decide) (fun g hg=>by cases hg; exact Nat.le_refl _)
 rw [Sv.ex1_add] at hA2
 replace hA2:Calls Tryz.prog 18 #[.pointer (some ⟨x,0,none⟩),.agg #[.int .i64 2,.slice (some ⟨w2.heap.size,0,none⟩) 1 1]] (w2.alloc (.cells #[.int .i64 6] 3)) fun e w3=>e=.returned (.tuple #[.int .i64 2,.int .i64 0])∧GrS (fun k=>T2 k=1) w2 w3∧∃ T',XT T' 1 x Sv.ex2 w3∧∀ k,k < w2.heap.size→T' k=T2 k:=hA2
 have HB2:=hide (show w.grownBy w2 none∧∀ k,k < w.heap.size→T2 k=0 from ⟨hg2,hT2'⟩)
 clear hA1 hX2 hg1 hxw hT1 hG2 hT2 hg2 hT2' HB1
 go_wp2_with fail
 refine hA2.mono ?_
 rintro e w3 ⟨rfl,hG3,T3,hX3,hT3⟩
 obtain ⟨hg2,hT2⟩:=unhide HB2
 have hg3:w.grownBy w3 none:=grown_of hg2 hG3 (fun k hk=>by rw [hT2 k hk]; decide)
 have hM:=xMatsT T3 1 x Sv.ex2 w3 hX3
 rw [Sv.ex2_mats] at hM
 clear hA2 hX3 HB2 hG3 hT3 hg2 hT2
 go_wp2_with fail
 refine hM.mono ?_
 rintro e w4 ⟨T4,l,xs,rfl,hg4,hH,hxs,hT4⟩
 have hgF:=gr_trans hg3 hg4
 obtain ⟨m,rfl⟩:∃ m,xs=[m]:=by
  have:=congrArg List.length hxs
  rw [List.length_map] at this
  exact List.length_eq_one_iff.1 this
 simp only [List.map_cons,List.map_nil,List.cons.injEq,Prod.mk.injEq,and_true] at hxs
 obtain ⟨hk,hv⟩:=hxs
 obtain ⟨g,cap,rfl,hcs⟩:=hH.row.1.cells (k:=0) (a:=m) rfl
 have q0:w4.cell? ⟨g,0,none⟩=some (.int .i64 0):=by have:w4.cell? ⟨g,0,none⟩=some (.int .i64 m.kind):=hcs 0 (by omega); rw [hk] at this; exact this
 have q1:w4.cell? ⟨g,1,none⟩=some m.v:=hcs 1 (by omega)
 have hrow:=(hH.els 0 m rfl).1.1
 rw [hv] at hrow
 obtain ⟨g2,cap2,hm2,hcs2⟩:=hrow.cells (k:=0) (a:=1) rfl
 obtain ⟨g3,cap3,hm3,hcs3⟩:=hrow.cells (k:=1) (a:=2) rfl
 rw [hm2] at q1 hm3
 simp only [Value.slice.injEq,Option.some.injEq,Addr.mk.injEq,and_true,true_and] at hm3
 obtain ⟨rfl,rfl⟩:=hm3
 have r0:w4.cell? ⟨g2,0,none⟩=some (.int .i64 1):=hcs2 0 (by omega)
 have r1:w4.cell? ⟨g2,1,none⟩=some (.int .i64 2):=hcs3 0 (by omega)
 simp only [List.length_cons,List.length_nil,Nat.zero_add,Nat.reduceAdd] at q1 ⊢
 clear hH hcs hcs2 hcs3 hrow hM hT4 hg3 hg4 hm2 hk hv
 go_wp2
 go_ret
 exact ⟨rfl,hgF⟩
set_option maxRecDepth 100000 in
set_option maxHeartbeats 4000000 in
theorem kendedG_w (aT aL:Addr) (w:World) (hL:LG aT aL w) :
  Calls Tryz.prog 22 #[] w fun e w'=>e=.returned (.bool true)∧w.grownBy w' none:=by
 have hB:=kbegunG_w aT aL w hL
 have hN:=fun (w1:World) (hg:w.grownBy w1 none)=>xNewTG (fun _=>0) 1 ⟨Sv.exT.toArray⟩ aT aL w1 (hL.kept hg) (by decide) Sv.exR2 Sv.exT_net
 unfold Sv.exT at hN
 clear hL
 go_enter Tryz.func22,Tryz.ntmps22
 go_wp2_with fail
 refine hB.mono ?_
 rintro e w1 ⟨rfl,hg1⟩
 have hN1:=hN w1 hg1
 clear hB hN
 go_wp2_with fail
 refine hN1.mono ?_
 rintro e w2 ⟨hg2,T2,x,rfl,hX2,hxw,hT2⟩
 have hE2:Ei w x Sv.ex0 T2 w2:=⟨hX2,fun k hk=>hT2 k (Nat.lt_of_lt_of_le hk hg1.size),gr_trans hg1 hg2⟩
 have hA1:=addNew T2 1 x Sv.ex0 ⟨1,[7,7]⟩ _ _ w2 _ hX2 (by decide) (by decide) (World.grownBy_alloc w2 (.cells #[.int .i64 7,.int .i64 7] 3) none) (inAt_lit2 w2 7 7) (by unfold maxLen; decide) (fun g hg=>by cases hg; exact Nat.le_refl _)
 rw [Sv.en0_add] at hA1
 replace hA1:Calls Tryz.prog 18 #[.pointer (some ⟨x,0,none⟩),.agg #[.int .i64 1,.slice (some ⟨w2.heap.size,0,none⟩) 2 2]] (w2.alloc (.cells #[.int .i64 7,.int .i64 7] 3)) fun e w3=>e=.returned (.tuple #[.int .i64 1,.int .i64 0])∧GrS (fun k=>T2 k=1) w2 w3∧∃ T',XT T' 1 x Sv.en1 w3∧∀ k,k < w2.heap.size→T' k=T2 k:=hA1
 have HE2:=hide hE2
 clear hE2 hX2 hxw hT2 hg1 hg2 hN1
 go_wp2_with fail
 refine hA1.mono ?_
 rintro e w3 ⟨rfl,hG3,T3,hX3,hT3⟩
 have hE3:=(unhide HE2).go hX3 hG3 hT3
 have hA2:=addNew T3 1 x Sv.en1 ⟨2,[7]⟩ _ _ w3 _ hX3 (by decide) (by decide) (World.grownBy_alloc w3 (.cells #[.int .i64 7] 3) none) (inAt_lit1 w3 7) (by unfold maxLen; decide) (fun g hg=>by cases hg; exact Nat.le_refl _)
 rw [Sv.en1_add] at hA2
 replace hA2:Calls Tryz.prog 18 #[.pointer (some ⟨x,0,none⟩),.agg #[.int .i64 2,.slice (some ⟨w3.heap.size,0,none⟩) 1 1]] (w3.alloc (.cells #[.int .i64 7] 3)) fun e w4=>e=.returned (.tuple #[.int .i64 2,.int .i64 0])∧GrS (fun k=>T3 k=1) w3 w4∧∃ T',XT T' 1 x Sv.en2 w4∧∀ k,k < w3.heap.size→T' k=T3 k:=hA2
 have HE3:=hide hE3
 clear hE3 hX3 hG3 hT3 hA1 HE2
 go_wp2_with fail
 refine hA2.mono ?_
 rintro e w4 ⟨rfl,hG4,T4,hX4,hT4⟩
 have hE4:=(unhide HE3).go hX4 hG4 hT4
 have hF1:=xFireT T4 1 10 x Sv.en2 w4 hX4
 rw [Sv.en2_fire] at hF1
 replace hF1:Calls Tryz.prog 29 #[.pointer (some ⟨x,0,none⟩)] w4 fun e w'=>∃ ao cap T',e=.returned (.tuple #[.agg #[.int .i64 0,.slice ao 2 cap],.int .i64 0])∧GrS (fun k=>T4 k=1) w4 w'∧IsAt w4.heap.size (.slice ao 2 cap) [1,2] w'∧XT T' 1 x Sv.en3 w'∧(∀ k,k < w4.heap.size→T' k=T4 k)∧∀ k,w4.heap.size≤k→T' k=10:=hF1
 have HE4:=hide hE4
 clear hE4 hX4 hG4 hT4 hA2 HE3
 go_wp2_with fail
 refine hF1.mono ?_
 rintro e w5 ⟨ao5,cap5,T5,rfl,hG5,_,hX5,hT5,_⟩
 have hE5:=(unhide HE4).go hX5 hG5 hT5
 have hgm:=World.grownBy_alloc w5 (.cells #[.int .i64 0,.slice ao5 2 cap5] 52) none
 obtain ⟨T5',hE5',_,hn5⟩:=hE5.cut hgm
 have hm5:=heap_alloc_new w5 (.cells #[.int .i64 0,.slice ao5 2 cap5] 52)
 have hR:=xRemoveT T5' 1 x Sv.en3 2 _ hE5'.net
 rw [Sv.en3_del] at hR
 simp only at hR
 have HE5:=hide (show _∧_∧_ from ⟨hE5',hm5,hn5⟩)
 clear hF1 HE4 hE5 hE5' hG5 hX5 hT5 hgm hm5 hn5
 go_wp2_with fail
 refine hR.mono ?_
 rintro e w6 ⟨rfl,hG6,T6,hX6,hT6⟩
 obtain ⟨hE5',hm5,hn5⟩:=unhide HE5
 have hE6:=hE5'.go hX6 hG6 hT6
 have hm6:=hG6.blk hm5 (by rw [hn5 _ (Nat.le_refl _)]; decide)
 have hs6:T6 w5.heap.size=10:=by rw [hT6 _ (row_lt hm5),hn5 _ (Nat.le_refl _)]
 have hF2:=xFireT T6 1 10 x Sv.en4 w6 hX6
 rw [Sv.en4_fire] at hF2
 replace hF2:Calls Tryz.prog 29 #[.pointer (some ⟨x,0,none⟩)] w6 fun e w'=>∃ ao cap T',e=.returned (.tuple #[.agg #[.int .i64 1,.slice ao 1 cap],.int .i64 0])∧GrS (fun k=>T6 k=1) w6 w'∧IsAt w6.heap.size (.slice ao 1 cap) [1] w'∧XT T' 1 x Sv.en5 w'∧(∀ k,k < w6.heap.size→T' k=T6 k)∧∀ k,w6.heap.size≤k→T' k=10:=hF2
 have HE6:=hide (show _∧_∧_ from ⟨hE6,hm6,hs6⟩)
 clear hR HE5 hE5' hE6 hG6 hX6 hT6 hm5 hn5 hm6 hs6
 go_wp2_with fail
 refine hF2.mono ?_
 rintro e w7 ⟨ao7,cap7,T7,rfl,hG7,hv7,hX7,hT7,hn7⟩
 obtain ⟨hE6,hm6,hs6⟩:=unhide HE6
 have hE7:=hE6.go hX7 hG7 hT7
 have hm7:=hG7.blk hm6 (by rw [hs6]; decide)
 have hs7:T7 w5.heap.size=10:=by rw [hT7 _ (row_lt hm6),hs6]
 have hgk:=World.grownBy_alloc w7 (.cells #[.int .i64 1,.slice ao7 1 cap7] 52) none
 obtain ⟨T7',hE7',ho7,hn7'⟩:=hE7.cut hgk
 have hk7:=heap_alloc_new w7 (.cells #[.int .i64 1,.slice ao7 1 cap7] 52)
 have hm7':=(hgk.block w5.heap.size (row_lt hm7) (by simp)).trans hm7
 have hF3:=xFireT T7' 1 10 x Sv.en5 _ hE7'.net
 rw [Sv.en5_fire] at hF3
 replace hF3:Calls Tryz.prog 29 #[.pointer (some ⟨x,0,none⟩)] (w7.alloc (.cells #[.int .i64 1,.slice ao7 1 cap7] 52)) fun e w'=>∃ ao cap T',e=.returned (.tuple #[.agg #[.int .i64 0,.slice ao 0 cap],.int .i64 5])∧GrS (fun k=>T7' k=1) (w7.alloc (.cells #[.int .i64 1,.slice ao7 1 cap7] 52)) w'∧IsAt (w7.alloc (.cells #[.int .i64 1,.slice ao7 1 cap7] 52)).heap.size (.slice ao 0 cap) [] w'∧XT T' 1 x Sv.en5 w'∧(∀ k,k < (w7.alloc (.cells #[.int .i64 1,.slice ao7 1 cap7] 52)).heap.size→T' k=T7' k)∧∀ k,(w7.alloc (.cells #[.int .i64 1,.slice ao7 1 cap7] 52)).heap.size≤k→T' k=10:=hF3
 have hv7':=hv7.gr hgk
 have hvn:∀ g,(Value.slice ao7 1 cap7).ownBlock=some g→T7' g≠1:=fun g hg=>by
  rw [ho7 g (hv7.own g hg).2,hn7 g (hv7.own g hg).1]
  decide
 have HE7:=hide (show _∧_∧_∧_∧_∧_∧_ from ⟨hE7',hm7',show T7' w5.heap.size=10 by rw [ho7 _ (row_lt hm7),hs7],hk7,hn7' w7.heap.size (Nat.le_refl _),hv7',hvn⟩)
 clear hF2 HE6 hE6 hE7 hE7' hG7 hX7 hT7 hm6 hs6 hm7 hs7 hm7' hk7 hn7 hn7' hv7 hv7' hvn ho7 hgk
 go_wp2_with fail
 refine hF3.mono ?_
 rintro e w8 ⟨ao8,cap8,T8,rfl,hG8,_,_,_,_⟩
 obtain ⟨hE7,hm7,hs7,hk7,hk7',hv7,hvn⟩:=unhide HE7
 have hm8:=hG8.blk hm7 (by rw [hs7]; decide)
 have hk8:=hG8.blk hk7 (by rw [hk7']; decide)
 have hv8:=hG8.row hv7 hvn
 have hgF:w.grownBy w8 none:=grown_of hE7.gr hG8 (fun k hk=>by rw [hE7.old k hk]; decide)
 have hgl:=World.grownBy_alloc w8 (.cells #[.int .i64 0,.slice ao8 0 cap8] 52) none
 have hm9:=(hgl.block w5.heap.size (row_lt hm8) (by simp)).trans hm8
 have hk9:=(hgl.block w7.heap.size (row_lt hk8) (by simp)).trans hk8
 have m0:=cell_of hm9 (k:=0) rfl
 have m1:=cell_of hm9 (k:=1) rfl
 have k0:=cell_of hk9 (k:=0) rfl
 have k1:=cell_of hk9 (k:=1) rfl
 obtain ⟨g,cp,hg',cm⟩:=IsAt.at (hv8.gr hgl) (k:=0) (z:=1) rfl
 simp only [List.length_cons,List.length_nil,Nat.zero_add,Value.slice.injEq,true_and] at hg'
 obtain ⟨rfl,rfl⟩:=hg'
 have HGF:=hide (gr_trans hgF hgl)
 clear hF3 HE7 hE7 hm7 hs7 hk7 hk7' hv7 hvn hm8 hk8 hv8 hgF hgl hm9 hk9 hG8
 go_wp2
 go_ret
 exact ⟨rfl,unhide HGF⟩
end Go.Proofs.YtolhbeekfjnfmaaGreatDoor
namespace Go.Proofs.YtolhbeekfjnfmaaGreatDoor
open Go.RowKit
def Sv.jT:List UInt8:=[112,58,40,49,32,120,32,121,41,40,50,32,121,32,122,41,59,113,58,40,49,32,120,32,121,41,33,40,50,32,121,32,95,41,59]
theorem Sv.jT_net:Sv.netOf Sv.jT=.inr Sv.jR:=by rfl
structure JI (p q:Nat) (w4:World) (T:Nat→Nat) (wv uv:Value) (ws us:List VFt) (wr:World):Prop where
 gr:w4.grownBy wr none
 old:∀ k,k < w4.heap.size→T k=0
 wrow:RowAt 52 2 ftenc 0 wv ws wr
 wown:∀ g,wv.ownBlock=some g→T g=p
 urow:RowAt 52 2 ftenc 0 uv us wr
 uown:∀ g,uv.ownBlock=some g→T g=q
 wels:∀ m∈ws,IsAt 0 m.v m.vals wr∧∀ g,m.v.ownBlock=some g→T g=14
 uels:∀ m∈us,IsAt 0 m.v m.vals wr∧∀ g,m.v.ownBlock=some g→T g=14
theorem JI.swap {p q:Nat} {w4:World} {T:Nat→Nat} {wv uv:Value} {ws us:List VFt} {wr:World} (h:JI p q w4 T wv uv ws us wr):JI q p w4 T uv wv us ws wr:=⟨h.gr,h.old,h.urow,h.uown,h.wrow,h.wown,h.uels,h.wels⟩
theorem JI.more {p q:Nat} {w4:World} {T:Nat→Nat} {wv uv:Value} {ws us:List VFt} {wr w':World} (h:JI p q w4 T wv uv ws us wr) (hg:wr.grownBy w' none):JI p q w4 T wv uv ws us w':=⟨gr_trans h.gr hg,h.old,h.wrow.gr hg,h.wown,h.urow.gr hg,h.uown,fun m hm=>⟨(h.wels m hm).1.gr hg,(h.wels m hm).2⟩,fun m hm=>⟨(h.uels m hm).1.gr hg,(h.uels m hm).2⟩⟩
theorem JI.app {p q n m:Nat} {w4:World} {T:Nat→Nat} {wv wv' uv:Value} {ws us:List VFt} {k:VFt} {wr wA w9:World} (h:JI p q w4 T wv uv ws us wr) (hpq:p≠q∧p≠0∧p≠14) (hg:wr.grownBy wA none) (hk:IsAt wr.heap.size k.v k.vals wA) (hr:RowAt 52 2 ftenc 0 wv' (ws ++ [k]) w9) (hl:Longer wv wv' n m wA w9):∃ T9,JI p q w4 T9 wv' uv (ws ++ [k]) us w9:=by
 have hA:=h.more hg
 obtain ⟨T9,hT9⟩:∃ T9:Nat→Nat,T9=fun i=>if i < wr.heap.size then T i else if k.v.ownBlock=some i then 14 else p:=⟨_,rfl⟩
 have t0:∀ i,i < wr.heap.size→T9 i=T i:=fun i hi=>by rw [hT9]; dsimp only; rw [if_pos hi]
 have t1:∀ i,k.v.ownBlock=some i→T9 i=14:=fun i hi=>by rw [hT9]; dsimp only; rw [if_neg (by have:=(hk.own i hi).1; omega),if_pos hi]
 have t2:∀ i,wA.heap.size≤i→T9 i=p:=fun i hi=>by rw [hT9]; dsimp only; rw [if_neg (by have:=hg.size; omega),if_neg (fun e=>by have:=(hk.own i e).2; omega)]
 have hG:GrS (fun i=>wv.ownBlock=some i) wA w9:=hl.gr (fun g hg=>hg)
 have hw4:=h.gr.size
 have hgr:w4.grownBy w9 none:=GrS.grown ((gone_of hA.gr:GrS (fun _=>False) w4 wA).comp hG (fun i hi _ e=>by have e1:=h.wown i e; rw [h.old i hi] at e1; exact hpq.2.1 e1.symm)) (fun _ _ h=>h)
 have hels:∀ v l,(IsAt 0 v l wr∧∀ g,v.ownBlock=some g→T g=14)→IsAt 0 v l w9∧∀ g,v.ownBlock=some g→T9 g=14:=fun v l hv=>⟨hG.row (hv.1.gr hg) (fun g hg' e=>by have e1:=h.wown g e; rw [hv.2 g hg'] at e1; exact hpq.2.2 e1.symm),fun g hg'=>by rw [t0 g (hv.1.own g hg').2]; exact hv.2 g hg'⟩
 refine ⟨T9,hgr,fun i hi=>by rw [t0 i (Nat.lt_of_lt_of_le hi hw4)]; exact h.old i hi,hr,fun g hg'=>?_,hG.row hA.urow (fun g hg' e=>by have e1:=h.wown g e; rw [h.uown g hg'] at e1; exact hpq.1 e1.symm),fun g hg'=>by rw [t0 g (h.urow.own g hg').2]; exact h.uown g hg',fun m hm=>?_,fun m hm=>hels _ _ (h.uels m hm)⟩
 ·rcases hl.own g hg' with e | e
  ·rw [t0 g (h.wrow.own g e).2]; exact h.wown g e
  ·exact t2 g e
 ·rcases List.mem_append.1 hm with hm | hm
  ·exact hels _ _ (h.wels m hm)
  ·rw [List.mem_singleton] at hm
   subst hm
   refine ⟨hG.row (hk.weak (Nat.zero_le _)) (fun g hg' e=>?_),fun g hg'=>t1 g hg'⟩
   have:=(hk.own g hg').1
   have:=(h.wrow.own g e).2
   omega
theorem Stp.two_ok {p:Stp} (h:p.ok):(⟨p.kd,p.a,p.v0,p.v1,p.v2,2⟩:Stp).ok:=⟨h.1,h.2.1,h.2.2.1,h.2.2.2.1,h.2.2.2.2.1,by show I64 2; unfold I64; omega⟩
theorem jW_none {L:List (Int×Sv.Fact)} {q:Int×Sv.Fact} (h:Sv.jA q.2=false):Sv.jW L q=[]∧Sv.jU L q=[]:=by
 unfold Sv.jW Sv.jU
 rw [if_neg (by rw [h]; simp),if_neg (by rw [h]; simp)]
 exact ⟨rfl,rfl⟩
theorem take_flat {α β:Type} (f:α→List β) {L:List α} {i:Nat} {q:α} (h:L[i]?=some q):(L.take (i+1)).flatMap f=(L.take i).flatMap f ++ f q:=by
 rw [List.take_add_one,h,List.flatMap_append]
 simp
theorem take_filt {α:Type} (f:α→Bool) {L:List α} {i:Nat} {q:α} (h:L[i]?=some q):(L.take (i+1)).filter f=(L.take i).filter f ++ (if f q=true then [q] else []):=by
 rw [List.take_add_one,h,List.filter_append]
 simp only [Option.toList_some,List.filter_cons,List.filter_nil]
theorem take_any {α:Type} (f:α→Bool) {L:List α} {i:Nat} {q:α} (h:L[i]?=some q):(L.take (i+1)).any f=((L.take i).any f || f q):=by
 rw [List.take_add_one,h,List.any_append]
 simp
theorem jW_len (L:List (Int×Sv.Fact)) (q:Int×Sv.Fact):(Sv.jW L q).length≤L.length:=by
 unfold Sv.jW
 split
 ·rw [List.length_map]; exact List.length_filter_le _ _
 ·exact Nat.zero_le _
theorem jU_len (L:List (Int×Sv.Fact)) (q:Int×Sv.Fact):(Sv.jU L q).length≤1:=by
 unfold Sv.jU
 split
 ·exact Nat.le_refl _
 ·exact Nat.zero_le _
theorem jWs_len (L:List (Int×Sv.Fact)) (i:Nat) (hL:L.length≤6):((L.take i).flatMap (Sv.jW L)).length≤36:=by
 have h1:=Sv.flatMap_len (Sv.jW L) 6 (L.take i) (fun q _=>Nat.le_trans (jW_len L q) hL)
 have h2:(L.take i).length≤6:=by rw [List.length_take]; omega
 omega
theorem jUs_len (L:List (Int×Sv.Fact)) (i:Nat) (hL:L.length≤6):((L.take i).flatMap (Sv.jU L)).length≤6:=by
 have h1:=Sv.flatMap_len (Sv.jU L) 1 (L.take i) (fun q _=>jU_len L q)
 have h2:(L.take i).length≤6:=by rw [List.length_take]; omega
 omega
theorem isAt_lit1 (w:World) (a:Int):IsAt w.heap.size (.slice (some ⟨w.heap.size,0,none⟩) 1 1) [a] (w.alloc (.cells #[.int .i64 a] 3)):=RowAt.lit1 ienc_len w a #[.int .i64 a] rfl
theorem isAt_lit2 (w:World) (a b:Int):IsAt w.heap.size (.slice (some ⟨w.heap.size,0,none⟩) 2 2) [a,b] (w.alloc (.cells #[.int .i64 a,.int .i64 b] 3)):=by
 refine ⟨ienc_len,?_⟩
 have h:=World.ownsRow_lit (base:=w.heap.size) (e:=3) (size:=1) w #[.int .i64 a,.int .i64 b] 2 (Nat.le_refl _) (by decide) (by simp)
 simpa [ienc] using h
theorem mrow_lit (w:World) (r:Int) (v:Value) (l:List Int):RowAt 52 2 ftenc 0 (.slice (some ⟨w.heap.size,0,none⟩) 1 1) [(⟨r,v,l⟩:VFt)] (w.alloc (.cells #[.int .i64 r,v] 52)):=(RowAt.lit1 (e:=52) ftenc_len w (⟨r,v,l⟩:VFt) #[.int .i64 r,v] rfl).weak (Nat.zero_le _)
theorem mrow_one (r:Int) (ao:Option Addr) (n cap:Nat) (l:List Int):∀ y∈[(⟨r,.slice ao n cap,l⟩:VFt)],∀ c∈ftenc y,c.oneCell'=true:=by
 intro y hy
 simp only [List.mem_singleton] at hy
 subst hy
 intro c hc
 simp [ftenc] at hc
 rcases hc with rfl | rfl<;>rfl
theorem factCells {T:Nat→Nat} {f4 ia:Option Addr} {c4 ic n:Nat} {L:List (Int×Sv.Fact)} {xs4:List VFt} {w4 wx:World} (h1:LsT 37 T (.slice f4 xs4.length c4) xs4 w4) (h2:IsAt 0 (.slice ia n ic) (L.map Prod.fst) w4) (hx:xs4.map (fun x=>(⟨x.kind,x.vals⟩:Sv.Fact))=L.map Prod.snd) (hg:w4.grownBy wx none) {i:Nat} {q:Int×Sv.Fact} (hq:L[i]?=some q) :
  ∃ gf gi fo fc,f4=some ⟨gf,0,none⟩∧ia=some ⟨gi,0,none⟩∧wx.cell? ⟨gf,i * 2,none⟩=some (.int .i64 q.2.kind)∧wx.cell? ⟨gf,i * 2+1,none⟩=some (.slice fo q.2.vals.length fc)∧IsAt 0 (.slice fo q.2.vals.length fc) q.2.vals wx∧wx.cell? ⟨gi,i,none⟩=some (.int .i64 q.1):=by
 have hlen:xs4.length=L.length:=by have:=congrArg List.length hx; simpa using this
 have hil:=(List.getElem?_eq_some_iff.1 hq).1
 obtain ⟨m,hm⟩:∃ m,xs4[i]?=some m:=⟨_,List.getElem?_eq_getElem (by omega)⟩
 have he:=congrArg (fun l:List Sv.Fact=>l[i]?) hx
 simp only [List.getElem?_map,hm,hq,Option.map_some,Option.some.injEq] at he
 obtain ⟨gf,cf,hv,x0,x1,hr⟩:=h1.at hm
 simp only [Value.slice.injEq,true_and] at hv
 obtain ⟨gi,ci,hv2,y0⟩:=IsAt.at h2 (k:=i) (z:=q.1) (by rw [List.getElem?_map,hq]; rfl)
 simp only [Value.slice.injEq] at hv2
 obtain ⟨fo,fc,hfv⟩:=hr.1.slice
 rw [hfv] at x1 hr
 rw [←he]
 exact ⟨gf,gi,fo,fc,hv.1,hv2.1,hg.cell x0 (by simp),hg.cell x1 (by simp),hr.1.gr hg,hg.cell y0 (by simp)⟩
set_option maxRecDepth 100000 in
set_option maxHeartbeats 16000000 in
theorem joined_w (w:World) (aT aL:Addr) (hL:LG aT aL w) (ao:Option Addr) (len cap:Nat) (hst:StpsAt ao len w) :
  Calls Tryz.prog 9 #[.slice ao len cap] w fun e w'=>e=.returned (.bool true)∧w.grownBy w' none:=by
 have hE:=kendedG_w aT aL w hL
 have hN:=fun (w1:World) (hg:w.grownBy w1 none)=>xNewTG (fun _=>0) 1 ⟨Sv.jT.toArray⟩ aT aL w1 (hL.kept hg) (by decide) Sv.jR Sv.jT_net
 unfold Sv.jT at hN
 have HST:=hide hst
 clear hL hst
 go_enter Tryz.func9,Tryz.ntmps9
 go_wp2_with fail
 refine hE.mono ?_
 rintro e w1 ⟨rfl,hg1⟩
 have hN1:=hN w1 hg1
 clear hE hN
 go_wp2_with fail
 refine hN1.mono ?_
 rintro e w2 ⟨hg2,T2,x,rfl,hX2,_,hT2⟩
 have H0:=hide (show Kn w x Sv.jR 6 0 ⟨Sv.jR,[],0,[]⟩ T2 w2 from ⟨hX2,Sv.KOk.new _ 6,fun k hk=>hT2 k (Nat.lt_of_lt_of_le hk hg1.size),gr_trans hg1 hg2⟩)
 clear hN1 hX2 hT2 hg1 hg2
 go_wp2
 go_loopw [6] (fun z w'=>∃ (i:Nat) (st:Sv.St) (T:Nat→Nat),i≤len∧i≤40∧z=.int .i64 i∧Hid (Kn w x Sv.jR 6 i st T w')) (fun z _=>len - (intOf z).toNat)
 case atStart=>exact ⟨0,_,_,Nat.zero_le _,Nat.zero_le _,rfl,H0⟩
 case round=>
  clear H0
  obtain ⟨i,st,T,hi,hi40,rfl,HT⟩:=hrel
  have hcont:i < len∧i < 40∨¬ (i < len∧i < 40):=by omega
  rcases hcont with ⟨hlt,hlt40⟩ | hstop
  ·have hd:decide (i < len)=true:=by simpa using hlt
   have hd40:decide ((i:Int) < 40)=true:=decide_eq_true (by omega)
   obtain ⟨g,off,p,rfl,hpok,hp⟩:=unhide HST i hlt
   obtain ⟨c0,c1,c2,c3,c4,c5⟩:=StpAt.kept hp (unhide HT).gr
   clear hp
   have hgP:=World.grownBy_alloc wr (.cells #[.int .i64 p.kd,.int .i64 p.a,.int .i64 p.v0,.int .i64 p.v1,.int .i64 p.v2,.int .i64 2] 41) none
   have hKP:=(unhide HT).more hgP (T':=T) (fun _ _=>rfl)
   have hS:=kstep_w T x i Sv.jR st ⟨p.kd,p.a,p.v0,p.v1,p.v2,2⟩ _ hKP.net hKP.ok (by omega) (Stp.two_ok hpok)
   unfold Stp.agg at hS
   simp only at hS
   have HKP:=hide hKP
   clear hKP hgP
   go_wp2_with fail
   refine hS.mono ?_
   rintro e w3 ⟨rfl,hG3,T3,hX3,hT3⟩
   have HN:=hide ((unhide HKP).go hX3 (Stp.step_ok (p:=⟨p.kd,p.a,p.v0,p.v1,p.v2,2⟩) (unhide HKP).ok) hG3 hT3)
   clear hS hG3 hX3 hT3 c0 c1 c2 c3 c4 c5 HKP
   go_wp2
   go_roundw
   case rel=>exact ⟨i+1,_,_,by omega,by omega,by go_num,HN⟩
   case measure=>simp [intOf]; omega
  ·have hF:=xFactsT T 1 x st wr (unhide HT).net
   have hl6:=(unhide HT).ok.len
   have hwhich:decide (i < len)=false∨(decide (i < len)=true∧decide ((i:Int) < 40)=false):=by
    by_cases h:i < len
    ·exact .inr ⟨decide_eq_true h,decide_eq_false (by omega)⟩
    ·exact .inl (decide_eq_false h)
   clear hstop
   have hreach:∀ Q:Prop,(decide (i < len)=false→Q)→(decide (i < len)=true→decide ((i:Int) < 40)=false→Q)→Q:=fun Q h1 h2=>by
    rcases hwhich with h | ⟨h,h'⟩
    ·exact h1 h
    ·exact h2 h h'
   clear hwhich
   apply hreach
   all_goals
    intros
    clear hreach
    go_wp2_with fail
    refine hF.mono ?_
    rintro e w4 ⟨T4,a,l4,xs4,rfl,hg4,hH4,hrow,hx4,hT4⟩
    have hn4:xs4.length=st.L.length:=by have:=congrArg List.length hx4; simpa using this
    obtain ⟨f4,c4,hl4⟩:=hH4.row.1.slice
    obtain ⟨ia,ic,ha⟩:=hrow.1.slice
    rw [List.length_map] at ha
    subst hl4 ha
    have HFC:=hide (fun (wx:World) (hx:w4.grownBy wx none) (k:Nat) (q:Int×Sv.Fact) (hq:st.L[k]?=some q)=>factCells hH4.lsT hrow.1 hx4 hx hq)
    have HK4:=hide ((unhide HT).more hg4 hT4)
    have H0:=hide (show JI 11 12 w4 (fun _=>0) (.slice none 0 0) (.slice none 0 0) [] [] w4 from ⟨World.grownBy.refl _ _,fun _ _=>rfl,RowAt.nil 0 _ ftenc_len,by simp [Value.ownBlock],RowAt.nil 0 _ ftenc_len,by simp [Value.ownBlock],by simp,by simp⟩)
    clear hF hH4 hrow hx4 hT4 hg4
    go_wp2
    go_loopw [11,12,13] (fun wx ux z w'=>∃ (wv uv:Value) (ws us:List VFt) (k:Nat) (Tj:Nat→Nat),wx=wv∧ux=uv∧k≤st.L.length∧z=.int .i64 k∧Hid (JI 11 12 w4 Tj wv uv ws us w'∧ws.map VFt.mof=(st.L.take k).flatMap (Sv.jW st.L)∧us.map VFt.mof=(st.L.take k).flatMap (Sv.jU st.L))) (fun _ _ z _=>st.L.length - (intOf z).toNat)
    case atStart=>exact ⟨_,_,[],[],0,_,rfl,rfl,Nat.zero_le _,rfl,hide ⟨unhide H0,by simp,by simp⟩⟩
    case round=>
     clear H0
     obtain ⟨wv,uv,ws,us,k,Tj,hwv,huv,hk,rfl,HJ⟩:=hrel
     replace hwv:=hwv.symm
     replace huv:=huv.symm
     subst hwv huv
     by_cases hlk:k < st.L.length
     ·have hdk:decide (k < xs4.length)=true:=decide_eq_true (by omega)
      obtain ⟨⟨qi,qk,qv⟩,hq⟩:∃ q,st.L[k]?=some q:=⟨_,List.getElem?_eq_getElem hlk⟩
      obtain ⟨hJ,hws,hus⟩:=unhide HJ
      obtain ⟨gf,gi,fo,fc,rfl,rfl,x0,x1,hqr,y0⟩:=unhide HFC _ hJ.gr k _ hq
      simp only at x0 x1 hqr y0
      have hb4:(k:Int) < (xs4.length:Int):=by omega
      by_cases hk1:qk=1
      ·by_cases hq2:qv.length=2
       ·subst hk1
        obtain ⟨b0,b1,rfl⟩:=two_of hq2
        have hA:Sv.jA ⟨1,[b0,b1]⟩=true:=by rfl
        simp only [List.length_cons,List.length_nil,Nat.zero_add,Nat.reduceAdd] at x1 hqr
        have HQ:=hide (show _∧_∧_ from ⟨hq,hws,hus⟩)
        have hJ0:=hide hJ
        clear hq hws hus hJ hq2 HJ hqr x0 x1 y0
        obtain ⟨hqA,_,_⟩:=unhide HQ
        obtain ⟨gf',gi',fo',fc',e1,e2,x0,x1,hqr,y0⟩:=unhide HFC _ (unhide hJ0).gr k _ hqA
        simp only [Option.some.injEq,Addr.mk.injEq,and_true] at e1 e2
        subst e1 e2
        simp only [List.length_cons,List.length_nil,Nat.zero_add,Nat.reduceAdd] at x0 x1 hqr y0
        clear hqA hqr
        go_wp2
        go_loopw [11,14,15] (fun wx nv z w'=>∃ (wvk:Value) (wsk:List VFt) (j:Nat) (Tk:Nat→Nat),wx=wvk∧nv=.bool (!((st.L.take j).any (fun r=>Sv.jB ⟨1,[b0,b1]⟩ r.2)))∧j≤st.L.length∧z=.int .i64 j∧Hid (JI 11 12 w4 Tk wvk uv wsk us w'∧wsk.map VFt.mof=(st.L.take k).flatMap (Sv.jW st.L) ++ ((st.L.take j).filter (fun r=>Sv.jB ⟨1,[b0,b1]⟩ r.2)).map (fun r=>((0:Int),[qi,r.1])))) (fun _ _ z _=>st.L.length - (intOf z).toNat)
        case atStart=>exact ⟨_,ws,0,Tj,rfl,by simp,Nat.zero_le _,rfl,hide ⟨unhide hJ0,by simpa using (unhide HQ).2.1⟩⟩
        case round=>
         clear x0 x1 y0
         obtain ⟨wvk,wsk,j,Tk,hwvk,rfl,hj,rfl,HJ3⟩:=hrel
         replace hwvk:=hwvk.symm
         subst hwvk
         obtain ⟨hJ3,hws3⟩:=unhide HJ3
         obtain ⟨gf2,gi2,fo2,fc2,e1,e2,x0,x1,hqr3,y0⟩:=unhide HFC _ hJ3.gr k _ (unhide HQ).1
         simp only [Option.some.injEq,Addr.mk.injEq,and_true] at e1 e2
         subst e1 e2
         simp only [List.length_cons,List.length_nil,Nat.zero_add,Nat.reduceAdd] at x0 x1 hqr3 y0
         by_cases hlj:j < st.L.length
         ·have hdj:decide (j < xs4.length)=true:=decide_eq_true (by omega)
          have hb5:(j:Int) < (xs4.length:Int):=by omega
          obtain ⟨gq,cq,hvq,d1⟩:=IsAt.at hqr3 (k:=1) (z:=b1) rfl
          simp only [List.length_cons,List.length_nil,Nat.zero_add,Nat.reduceAdd,Value.slice.injEq,true_and] at hvq
          obtain ⟨rfl,rfl⟩:=hvq
          obtain ⟨⟨ri,rk,rv⟩,hr⟩:∃ r,st.L[j]?=some r:=⟨_,List.getElem?_eq_getElem hlj⟩
          obtain ⟨gf3,gi3,ro,rc,e1,e2,u0,u1,hrr,z0⟩:=unhide HFC _ hJ3.gr j _ hr
          simp only [Option.some.injEq,Addr.mk.injEq,and_true] at e1 e2
          subst e1 e2
          simp only at u0 u1 hrr z0
          have hrvl:rv.length≤9223372036854775807:=by have:=hrr.le; unfold maxLen at this; omega
          by_cases hrk:rk=2
          ·have hdr:(rk == 2)=true:=by simpa using hrk
           by_cases hrl:rv.length=2
           ·obtain ⟨r0,r1,rfl⟩:=two_of hrl
            simp only [List.length_cons,List.length_nil,Nat.zero_add,Nat.reduceAdd] at u1 hrr
            obtain ⟨gr',cr,hvr,d0⟩:=IsAt.at hrr (k:=0) (z:=r0) rfl
            simp only [List.length_cons,List.length_nil,Nat.zero_add,Nat.reduceAdd,Value.slice.injEq,true_and] at hvr
            obtain ⟨rfl,rfl⟩:=hvr
            clear hrl hrvl
            by_cases hr0:r0=b1
            ·have hdb:(r0 == b1)=true:=by simpa using hr0
             have hB:Sv.jB ⟨1,[b0,b1]⟩ ⟨rk,[r0,r1]⟩=true:=by unfold Sv.jB; simp [hr0,hrk]
             obtain ⟨wo,wc,hwo⟩:=hJ3.wrow.slice
             subst hwo
             have hwl:wsk.length≤100:=by
              have h1:=congrArg List.length hws3
              rw [List.length_append,List.length_map,List.length_map] at h1
              have h2:=jWs_len st.L k hl6
              have h3:=List.length_filter_le (fun r:Int×Sv.Fact=>Sv.jB ⟨1,[b0,b1]⟩ r.2) (st.L.take j)
              rw [List.length_take] at h3
              omega
             have HROW:=hide (fun (wy:World) (h:wr.grownBy wy none)=>hJ3.wrow.gr h)
             have HSRC:=hide (fun (w3:World) (v:Value)=>mrow_lit w3 0 v [qi,ri])
             have HEND:=hide (fun (wB w5:World) (v':Value) (n m:Nat) (hgB:wr.grownBy wB none) (hl5:Longer (.slice wo wsk.length wc) v' n m ((wB.alloc (.cells #[.int .i64 qi,.int .i64 ri] 3)).alloc (.cells #[.int .i64 0,.slice (some ⟨wB.heap.size,0,none⟩) 2 2] 52)) w5) (hr5:RowAt 52 2 ftenc 0 v' (wsk ++ [(⟨0,.slice (some ⟨wB.heap.size,0,none⟩) 2 2,[qi,ri]⟩:VFt)]) w5)=>hJ3.app (k:=⟨0,.slice (some ⟨wB.heap.size,0,none⟩) 2 2,[qi,ri]⟩) (by decide) (gr_alK (gr_alK hgB _) _) (((isAt_lit2 wB qi ri).gr (World.grownBy_alloc _ _ none)).weak hgB.size) hr5 hl5)
             have HMAP:=hide (fun (v:Value)=>show (wsk ++ [(⟨0,v,[qi,ri]⟩:VFt)]).map VFt.mof=(st.L.take k).flatMap (Sv.jW st.L) ++ ((st.L.take (j+1)).filter (fun r=>Sv.jB ⟨1,[b0,b1]⟩ r.2)).map (fun r=>((0:Int),[qi,r.1]))∧(st.L.take (j+1)).any (fun r=>Sv.jB ⟨1,[b0,b1]⟩ r.2)=true from by
              rw [take_filt _ hr,take_any _ hr,if_pos (by simp only; exact hB),List.map_append,List.map_append,hws3]
              simp only
              rw [hB,Bool.or_true,List.append_assoc]
              exact ⟨rfl,rfl⟩)
             have hb7:(k:Int) < (st.L.length:Int):=by omega
             have hb8:(j:Int) < (st.L.length:Int):=by omega
             have hb9:(0:Int)≤(k:Int):=by omega
             have hb10:(0:Int)≤(j:Int):=by omega
             clear hB hJ3 hws3 hr hrr hqr3
             go_wp2
             go_quiet (fail)
             go_wp2_with fail
             clear x0 x1 u0 u1 d0 d1 hdb hdr hdj hA
             go_region_law
              (refine app_two_step (by rfl) _ _ 43 (by rfl) Tryz.underlying43 Tryz.infoMatch2 rfl (by decide) (by simp [Act.eval]) (unhide HROW _ (gr_alK (gr_alK (by repeat (first | with_reducible exact World.grownBy.refl _ _ | with_reducible exact gr_drewN _ _ _ | with_reducible apply gr_drew)) _) _)) (by simp [Act.eval]) (unhide HSRC _ _) (by simp) (mrow_one _ _ _ _ _) (by unfold maxLen; simp; omega) (by simp; omega) ?_; intro v5 w5 hv5 hl5; obtain ⟨g5,cap5,rfl⟩:=hl5.form; obtain ⟨T9,hJ9⟩:=unhide HEND _ _ _ _ _ (by repeat (first | with_reducible exact World.grownBy.refl _ _ | with_reducible exact gr_drewN _ _ _ | with_reducible apply gr_drew)) hl5 hv5; have HJ9:=hide hJ9; clear hJ9)
             all_goals
              clear hv5 hl5 HEND HROW HSRC
              go_wp2
              go_roundw
              case rel=>exact ⟨_,_,j+1,T9,rfl,by rw [(unhide HMAP (.slice none 0 0)).2]; rfl,by omega,by go_num,hide ⟨unhide HJ9,(unhide HMAP _).1⟩⟩
              case measure=>simp [intOf]; omega
            ·have hdb:(r0 == b1)=false:=by simpa using hr0
             have hB:Sv.jB ⟨1,[b0,b1]⟩ ⟨rk,[r0,r1]⟩=false:=by unfold Sv.jB; simp [hr0]
             have HN3:=hide (show ∀ n,JI 11 12 w4 Tk wvk uv wsk us (wr.drewN n)∧wsk.map VFt.mof=(st.L.take k).flatMap (Sv.jW st.L) ++ ((st.L.take (j+1)).filter (fun r=>Sv.jB ⟨1,[b0,b1]⟩ r.2)).map (fun r=>((0:Int),[qi,r.1]))∧(st.L.take (j+1)).any (fun r=>Sv.jB ⟨1,[b0,b1]⟩ r.2)=(st.L.take j).any (fun r=>Sv.jB ⟨1,[b0,b1]⟩ r.2) from fun n=>by
              rw [take_filt _ hr,take_any _ hr,if_neg (by simp only; rw [hB]; simp),List.append_nil]
              simp only
              rw [hB,Bool.or_false]
              exact ⟨hJ3.more (gr_drewN _ _ _),hws3,rfl⟩)
             clear hB hJ3 hws3 hr hrr hqr3
             go_wp2
             go_quiet (fail)
             go_wp2
             go_roundw
             case rel=>exact ⟨_,wsk,j+1,Tk,rfl,by rw [(unhide HN3 0).2.2],by omega,by go_num,hide ⟨(unhide HN3 _).1,(unhide HN3 0).2.1⟩⟩
             case measure=>simp [intOf]; omega
           ·have hdl:((rv.length:Int) == 2)=false:=by simp; omega
            have hB:Sv.jB ⟨1,[b0,b1]⟩ ⟨rk,rv⟩=false:=by unfold Sv.jB; simp [hrl]
            have HN3:=hide (show ∀ n,JI 11 12 w4 Tk wvk uv wsk us (wr.drewN n)∧wsk.map VFt.mof=(st.L.take k).flatMap (Sv.jW st.L) ++ ((st.L.take (j+1)).filter (fun r=>Sv.jB ⟨1,[b0,b1]⟩ r.2)).map (fun r=>((0:Int),[qi,r.1]))∧(st.L.take (j+1)).any (fun r=>Sv.jB ⟨1,[b0,b1]⟩ r.2)=(st.L.take j).any (fun r=>Sv.jB ⟨1,[b0,b1]⟩ r.2) from fun n=>by
             rw [take_filt _ hr,take_any _ hr,if_neg (by simp only; rw [hB]; simp),List.append_nil]
             simp only
             rw [hB,Bool.or_false]
             exact ⟨hJ3.more (gr_drewN _ _ _),hws3,rfl⟩)
            clear hB hJ3 hws3 hr hrr hqr3
            go_wp2
            go_quiet (fail)
            go_wp2
            go_roundw
            case rel=>exact ⟨_,wsk,j+1,Tk,rfl,by rw [(unhide HN3 0).2.2],by omega,by go_num,hide ⟨(unhide HN3 _).1,(unhide HN3 0).2.1⟩⟩
            case measure=>simp [intOf]; omega
          ·have hdr:(rk == 2)=false:=by simpa using hrk
           have hB:Sv.jB ⟨1,[b0,b1]⟩ ⟨rk,rv⟩=false:=by unfold Sv.jB; simp [hrk]
           have HN3:=hide (show ∀ n,JI 11 12 w4 Tk wvk uv wsk us (wr.drewN n)∧wsk.map VFt.mof=(st.L.take k).flatMap (Sv.jW st.L) ++ ((st.L.take (j+1)).filter (fun r=>Sv.jB ⟨1,[b0,b1]⟩ r.2)).map (fun r=>((0:Int),[qi,r.1]))∧(st.L.take (j+1)).any (fun r=>Sv.jB ⟨1,[b0,b1]⟩ r.2)=(st.L.take j).any (fun r=>Sv.jB ⟨1,[b0,b1]⟩ r.2) from fun n=>by
            rw [take_filt _ hr,take_any _ hr,if_neg (by simp only; rw [hB]; simp),List.append_nil]
            simp only
            rw [hB,Bool.or_false]
            exact ⟨hJ3.more (gr_drewN _ _ _),hws3,rfl⟩)
           clear hB hJ3 hws3 hr hrr hqr3
           go_wp2
           go_quiet (fail)
           go_wp2
           go_roundw
           case rel=>exact ⟨_,wsk,j+1,Tk,rfl,by rw [(unhide HN3 0).2.2],by omega,by go_num,hide ⟨(unhide HN3 _).1,(unhide HN3 0).2.1⟩⟩
           case measure=>simp [intOf]; omega
         ·have hdj:decide (j < xs4.length)=false:=decide_eq_false (by omega)
          have htk:st.L.take j=st.L:=List.take_of_length_le (by omega)
          rw [htk] at hws3 ⊢
          obtain ⟨hqA,hws,hus⟩:=unhide HQ
          have hw2:wsk.map VFt.mof=(st.L.take (k+1)).flatMap (Sv.jW st.L):=by
           rw [take_flat _ hqA,hws3]
           congr 1
          cases hany:st.L.any (fun r=>Sv.jB ⟨1,[b0,b1]⟩ r.2) with
          | true=>
           have hu2:us.map VFt.mof=(st.L.take (k+1)).flatMap (Sv.jU st.L):=by
            rw [take_flat _ hqA,hus]
            unfold Sv.jU
            simp only
            rw [if_neg (fun h=>by rw [hany] at h; exact absurd h.2 (by simp)),List.append_nil]
           have HN2:=hide (show _∧_∧_ from ⟨hJ3,hw2,hu2⟩)
           clear hany hu2 hw2 hJ3 hws3 hqr3 hqA hws hus htk
           go_wp2
           go_roundw
           case rel=>exact ⟨_,_,wsk,us,k+1,Tk,rfl,rfl,by omega,by go_num,HN2⟩
           case measure=>simp [intOf]; omega
          | false=>
           obtain ⟨uo,uc,huo⟩:=hJ3.urow.slice
           subst huo
           have hul:us.length≤100:=by
            have h1:=congrArg List.length hus
            rw [List.length_map] at h1
            have h2:=jUs_len st.L k hl6
            omega
           have hrowU:=hJ3.urow.gr (gr_alK (gr_alK (World.grownBy.refl wr none) (.cells #[.int .i64 qi] 3)) (.cells #[.int .i64 1,.slice (some ⟨wr.heap.size,0,none⟩) 1 1] 52))
           have hsrc:=mrow_lit (wr.alloc (.cells #[.int .i64 qi] 3)) 1 (.slice (some ⟨wr.heap.size,0,none⟩) 1 1) [qi]
           rw [show (wr.alloc (.cells #[.int .i64 qi] 3)).heap.size=wr.heap.size+1 by simp] at hsrc
           have HEND:=hide (fun (w5:World) (v':Value) (n m:Nat) (hl5:Longer (.slice uo us.length uc) v' n m ((wr.alloc (.cells #[.int .i64 qi] 3)).alloc (.cells #[.int .i64 1,.slice (some ⟨wr.heap.size,0,none⟩) 1 1] 52)) w5) (hr5:RowAt 52 2 ftenc 0 v' (us ++ [(⟨1,.slice (some ⟨wr.heap.size,0,none⟩) 1 1,[qi]⟩:VFt)]) w5)=>hJ3.swap.app (k:=⟨1,.slice (some ⟨wr.heap.size,0,none⟩) 1 1,[qi]⟩) (by decide) (gr_alK (gr_alK (World.grownBy.refl wr none) _) _) ((isAt_lit1 wr qi).gr (World.grownBy_alloc _ _ none)) hr5 hl5)
           have hu2:(us ++ [(⟨1,.slice (some ⟨wr.heap.size,0,none⟩) 1 1,[qi]⟩:VFt)]).map VFt.mof=(st.L.take (k+1)).flatMap (Sv.jU st.L):=by
            rw [take_flat _ hqA,List.map_append,hus]
            unfold Sv.jU
            simp only
            rw [if_pos ⟨hA,hany⟩]
            rfl
           have HN2:=hide (show _∧_ from ⟨hw2,hu2⟩)
           have hb7:(k:Int) < (st.L.length:Int):=by omega
           clear hany hu2 hw2 hJ3 hws3 hqr3 hqA hws hus htk
           go_wp2_with (at_builtin; refine app_two rfl _ _ 43 rfl Tryz.underlying43 Tryz.infoMatch2 rfl (by decide) rfl hrowU rfl hsrc (by simp) (mrow_one _ _ _ _ _) (by unfold maxLen; simp; omega) (by simp; omega) ?_)
           intro v9 w9 hv9 hl9
           obtain ⟨T9,hJ9⟩:=unhide HEND w9 v9 _ _ hl9 hv9
           have HJ9:=hide hJ9
           obtain ⟨g9,cap9,rfl⟩:=hl9.form
           clear hJ9 hv9 hl9 hrowU hsrc HEND
           go_wp2
           go_roundw
           case rel=>exact ⟨_,_,wsk,_,k+1,T9,rfl,rfl,by omega,by go_num,hide ⟨(unhide HJ9).swap,unhide HN2⟩⟩
           case measure=>simp [intOf]; omega
       ·have hdl:((qv.length:Int) != 2)=true:=by simp; omega
        have hql:qv.length≤9223372036854775807:=by have:=hqr.le; unfold maxLen at this; omega
        have hA:Sv.jA ⟨qk,qv⟩=false:=by unfold Sv.jA; simp [hq2]
        subst hk1
        have hN2:JI 11 12 w4 Tj wv uv ws us wr∧ws.map VFt.mof=(st.L.take (k+1)).flatMap (Sv.jW st.L)∧us.map VFt.mof=(st.L.take (k+1)).flatMap (Sv.jU st.L):=by
         rw [take_flat _ hq,take_flat _ hq,(jW_none hA).1,(jW_none hA).2,List.append_nil,List.append_nil]
         exact ⟨hJ,hws,hus⟩
        have HN2:=hide hN2
        clear hN2 hJ hws hus hq hqr hA HJ
        go_wp2
        go_roundw
        case rel=>exact ⟨_,_,ws,us,k+1,Tj,rfl,rfl,by omega,by go_num,HN2⟩
        case measure=>simp [intOf]; omega
      ·have hd1:(qk != 1)=true:=by simpa using hk1
       have hA:Sv.jA ⟨qk,qv⟩=false:=by unfold Sv.jA; simp [hk1]
       have hN2:JI 11 12 w4 Tj wv uv ws us wr∧ws.map VFt.mof=(st.L.take (k+1)).flatMap (Sv.jW st.L)∧us.map VFt.mof=(st.L.take (k+1)).flatMap (Sv.jU st.L):=by
        rw [take_flat _ hq,take_flat _ hq,(jW_none hA).1,(jW_none hA).2,List.append_nil,List.append_nil]
        exact ⟨hJ,hws,hus⟩
       have HN2:=hide hN2
       clear hN2 hJ hws hus hq hqr hA HJ
       go_wp2
       go_roundw
       case rel=>exact ⟨_,_,ws,us,k+1,Tj,rfl,rfl,by omega,by go_num,HN2⟩
       case measure=>simp [intOf]; omega
     ·have hdk:decide (k < xs4.length)=false:=decide_eq_false (by omega)
      have htk:st.L.take k=st.L:=List.take_of_length_le (by omega)
      obtain ⟨hJ,hws,hus⟩:=unhide HJ
      rw [htk] at hws hus
      obtain ⟨wo,wc,hwo⟩:=hJ.wrow.slice
      obtain ⟨uo,uc,huo⟩:=hJ.urow.slice
      subst hwo huo
      have hwl:ws.length≤100:=by
       have h1:=congrArg List.length hws
       have h2:=jWs_len st.L st.L.length hl6
       rw [List.take_of_length_le (Nat.le_refl _)] at h2
       rw [List.length_map] at h1
       omega
      have hul:us.length≤100:=by
       have h1:=congrArg List.length hus
       have h2:=jUs_len st.L st.L.length hl6
       rw [List.take_of_length_le (Nat.le_refl _)] at h2
       rw [List.length_map] at h1
       omega
      have hrowW:=hJ.wrow
      have hrowU:=hJ.urow
      have HONE:=hide (show ∀ y∈us,∀ c∈ftenc y,c.oneCell'=true from fun y hy c hc=>by
       obtain ⟨ya,yc,e⟩:=(hJ.uels y hy).1.slice
       simp [ftenc] at hc
       rcases hc with rfl | rfl
       ·rfl
       ·rw [e]; rfl)
      have HB1:=hide (show ws.length+us.length≤maxLen by unfold maxLen; omega)
      have HB2:=hide (show (ws.length+us.length) * 32≤140737488355328 by omega)
      have HFIN:=hide (show _∧_∧_ from ⟨hJ,hws,hus⟩)
      clear hJ hws hus htk HJ
      go_wp2_with (at_builtin; refine app_row rfl _ _ 43 rfl Tryz.underlying43 Tryz.infoMatch2 rfl (by decide) rfl hrowW rfl hrowU (unhide HONE) (unhide HB1) (unhide HB2) (Nat.zero_le _) ?_)
      intro v9 w9 hv9 hg9
      obtain ⟨hJ,hws,hus⟩:=unhide HFIN
      have hg49:w4.grownBy w9 none:=gr_app hJ.gr hg9 (fun g hg=>by
       rcases Nat.lt_or_ge g w4.heap.size with h | h
       ·have e1:=hJ.wown g hg
        rw [hJ.old g h] at e1
        omega
       ·exact h)
      have hM9:=xMatsT T4 1 x st w9 ((unhide HK4).net.gr hg49 (fun _ _=>rfl))
      have hmt9:MtAt v9 (ws ++ us) w9:=⟨hv9,fun m hm=>by
       have he:IsAt 0 m.v m.vals wr∧∀ g,m.v.ownBlock=some g→Tj g=14:=by
        rcases List.mem_append.1 hm with hm | hm
        ·exact hJ.wels m hm
        ·exact hJ.uels m hm
       refine he.1.other hg9 (fun g hg e=>?_)
       have e1:=hJ.wown g e
       rw [he.2 g hg] at e1
       omega⟩
      have hmap:(ws ++ us).map VFt.mof=Sv.matches st.rs st.L:=by rw [List.map_append,hws,hus,(unhide HK4).ok.rs,Sv.jR_mats]
      obtain ⟨vo,vc,hvo⟩:=hv9.slice
      rw [List.length_append] at hvo
      subst hvo
      have HMT:=hide (show _∧_∧_ from ⟨hmt9,hmap,gr_trans (unhide HK4).gr hg49⟩)
      clear hv9 hg9 hJ hws hus hg49 hmt9 hmap HFIN HONE HB1 HB2 hrowW hrowU
      go_wp2_with fail
      refine hM9.mono ?_
      rintro e w10 ⟨T10,l10,xs10,rfl,hg10,hH10,hx10,hT10⟩
      obtain ⟨hmt9,hmap,hgw⟩:=unhide HMT
      have hS:=ksame_w xs10 (ws ++ us) _ _ w10 hH10.mtAt (hmt9.gr hg10)
      have hdS:decide (xs10.map VFt.mof=(ws ++ us).map VFt.mof)=true:=decide_eq_true ((show xs10.map VFt.mof=Sv.matches st.rs st.L from hx10).trans hmap.symm)
      rw [hdS] at hS
      obtain ⟨ko,kc,hk10⟩:=hH10.mtAt.slice
      subst hk10
      have hgF:=gr_trans hgw hg10
      clear hM9 hH10 hx10 hT10 hdS hg10 hmt9 hmap hgw HMT
      go_wp2_with fail
      refine hS.mono ?_
      rintro e w11 ⟨rfl,hg11⟩
      have HGF:=hide (gr_trans hgF hg11)
      clear hS hg11 hgF
      go_wp2
      go_ret
      exact ⟨rfl,unhide HGF⟩
end Go.Proofs.YtolhbeekfjnfmaaGreatDoor

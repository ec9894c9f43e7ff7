import Derived.Test.YtolhbeekfjnfmaaGreatDoorK40
import Derived.Test.YtolhbeekfjnfmaaGreatDoorK41
namespace Go.Proofs.YtolhbeekfjnfmaaGreatDoor
open Go.RowKit
theorem XSt.fireFit {s:Sv.St} {F:List Ft} {chs:List Ch} {Zs:List (List Tok)} (h:XSt s F chs Zs):∀ c∈chs,FireFit c:=by
 intro c hc
 obtain ⟨i,hi⟩:=List.getElem?_of_mem hc
 have hil:i < s.rs.length:=by have:=(List.getElem?_eq_some_iff.1 hi).1; rw [h.rules.len.1] at this; exact this
 obtain ⟨c2,Z,p1,p2,p3⟩:=h.rules.get (List.getElem?_eq_getElem hil)
 rw [hi] at p1
 simp only [Option.some.injEq] at p1
 subst p1
 have hb:=(p3.ok.fit p3.fd p3.few h.few).bd
 have hns:=(p3.ok.fit p3.fd p3.few h.few).few
 have hwl:c.e.wait.length≤1000000000:=(hb.small hns (by have:20 ^ c.ns.length≤20 ^ 4:=Nat.pow_le_pow_right (by omega) hns; omega)).2.2
 refine ⟨p3.ok.heap,fun t ht=>p3.ok.jlen p3.few t (p3.fd.mem_iff.2 (List.mem_append.2 (.inl ht))),?_,hwl⟩
 rw [p3.ok.jn]
 have:=jnOf_le s.rs[i].conds 0
 have:=p3.few
 omega
theorem Sv.fire_next {s:Sv.St} {F:List Ft} {chs:List Ch} {Zs:List (List Tok)} (h:XSt s F chs Zs):s.fire=match nextF none 0 chs with
  | none=>(((0,[]),5),s)
  | some (i,t)=>((((i:Int),t.ids),0),⟨s.rs,s.L,s.cnt,s.fired ++ [((i:Int),t.ids)]⟩):=by
 have hn:=h.next
 unfold Sv.St.fire
 rw [←hn]
 cases nextF none 0 chs with
 | none=>rfl
 | some p=>rfl
theorem resMem2 {b:Nat} {x y x0 y0:Value} {ty ty2:Nat} {w:World} (h:w.heap[b]?=some (.cells #[x0,y0] ty (0,0))) :
  ((w.alloc (.cells #[x,y] ty2)).cell? ⟨b,0,none⟩=some x0∧(w.alloc (.cells #[x,y] ty2)).cell? ⟨b,1,none⟩=some y0∧∀ k,(w.alloc (.cells #[x,y] ty2)).frozen? ⟨b,k,none⟩=false)∧
  ((((w.alloc (.cells #[x,y] ty2)).setCell ⟨b,0,none⟩ x).setCell ⟨b,1,none⟩ y).cell? ⟨b,0,none⟩=some x∧(((w.alloc (.cells #[x,y] ty2)).setCell ⟨b,0,none⟩ x).setCell ⟨b,1,none⟩ y).cell? ⟨b,1,none⟩=some y∧((w.alloc (.cells #[x,y] ty2)).setCell ⟨b,0,none⟩ x).cell? ⟨b,0,none⟩=some x)∧
  w.grownBy (((w.alloc (.cells #[x,y] ty2)).setCell ⟨b,0,none⟩ x).setCell ⟨b,1,none⟩ y) (some b):=by
 have hg1:=World.grownBy_alloc w (.cells #[x,y] ty2) none
 have a1:=(hg1.block b (row_lt h) (by simp)).trans h
 have k1:=heap_setCell_same _ b 0 _ _ x a1
 have k2:=heap_setCell_same _ b 1 _ _ y k1
 exact ⟨⟨cell_of a1 rfl,cell_of a1 rfl,fun k=>by simp [World.frozen?,a1]⟩,⟨cell_of k2 rfl,cell_of k2 rfl,cell_of k1 rfl⟩,gr_trans (gr_any hg1 (some b)) (gr_trans (gr_set _ b 0 x) (gr_set _ b 1 y))⟩
theorem resMem {x y x0 y0:Value} {ty ty2:Nat} {w w1:World} (hg:w.grownBy w1 none) (h:w1.heap[w.heap.size]?=some (.cells #[x0,y0] ty (0,0))) :
  ((w1.alloc (.cells #[x,y] ty2)).cell? ⟨w.heap.size,0,none⟩=some x0∧(w1.alloc (.cells #[x,y] ty2)).cell? ⟨w.heap.size,1,none⟩=some y0∧∀ k,(w1.alloc (.cells #[x,y] ty2)).frozen? ⟨w.heap.size,k,none⟩=false)∧
  ((((w1.alloc (.cells #[x,y] ty2)).setCell ⟨w.heap.size,0,none⟩ x).setCell ⟨w.heap.size,1,none⟩ y).cell? ⟨w.heap.size,0,none⟩=some x∧(((w1.alloc (.cells #[x,y] ty2)).setCell ⟨w.heap.size,0,none⟩ x).setCell ⟨w.heap.size,1,none⟩ y).cell? ⟨w.heap.size,1,none⟩=some y∧((w1.alloc (.cells #[x,y] ty2)).setCell ⟨w.heap.size,0,none⟩ x).cell? ⟨w.heap.size,0,none⟩=some x)∧
  w.grownBy (((w1.alloc (.cells #[x,y] ty2)).setCell ⟨w.heap.size,0,none⟩ x).setCell ⟨w.heap.size,1,none⟩ y) none:=by
 obtain ⟨h1,h2,h3⟩:=resMem2 (x:=x) (y:=y) (ty2:=ty2) h
 exact ⟨h1,h2,gr_own hg h3 (Nat.le_refl _)⟩
set_option maxRecDepth 100000 in
set_option maxHeartbeats 2000000 in
theorem xFireT (T:Nat→Nat) (t c x:Nat) (s:Sv.St) (w:World) (h:XT T t x s w) :
  Calls Tryz.prog 29 #[.pointer (some ⟨x,0,none⟩)] w fun e w'=>∃ ao cap T',e=.returned (.tuple #[.agg #[.int .i64 s.fire.1.1.1,.slice ao s.fire.1.1.2.length cap],.int .i64 s.fire.1.2])∧GrS (fun k=>T k=t) w w'∧IsAt w.heap.size (.slice ao s.fire.1.1.2.length cap) s.fire.1.1.2 w'∧XT T' t x s.fire.2 w'∧(∀ k,k < w.heap.size→T' k=T k)∧∀ k,w.heap.size≤k→T' k=c:=by
 obtain ⟨U,nb,fv,F,chs,Zs,h1,h2,h3,h4,h5⟩:=h
 have hgA:=World.grownBy_alloc w (.cells #[.int .i64 0,.slice none 0 0] 52) none
 obtain ⟨U',hU'⟩:∃ U':Nat→Nat,U'=fun k=>if k < w.heap.size then U k else 0:=⟨_,rfl⟩
 have c0:w.cell? ⟨x,0,none⟩=some (.pointer (some ⟨nb,0,none⟩)):=by simp [World.cell?,h1.blk]
 have c0A:=hgA.cell c0 (by simp)
 have hNA:NetAt U nb chs (w.alloc (.cells #[.int .i64 0,.slice none 0 0] 52)):=h1.net.keep (gone_ofB hgA:GrS (fun _=>False) _ _) (by simp) (fun _ _=>rfl)
 have hF:=nFire_w U nb chs _ hNA (fun k hk=>h5 k (Nat.le_trans hgA.size hk)) h2.fireFit
 have hfn:=Sv.fire_next h2
 have hR0:=heap_alloc_new w (.cells #[.int .i64 0,.slice none 0 0] 52)
 unfold FirePost at hF
 rw [hfn]
 have hkeep:∀ w',GrS (fun k=>4≤U k) w w'→(∀ ch',NetAt U nb ch' w'→XAt U x nb fv F s.cnt ch' w'):=by
  intro w' hG ch' hN
  have hn7:∀ i,U i < 4→¬ (4≤U i):=fun i hi h=>by omega
  exact ⟨hG.blk h1.blk (hn7 x (by rw [h1.ux]; omega)),h1.ux,h1.facts.keep2 hG (fun i hi=>hn7 i (by omega)) (fun _ _ e=>e),fun g hg=>(h1.fts g hg).keep hG (fun i hi=>hn7 i (by omega)) (fun _ _ e=>e),hN⟩
 obtain ⟨T',hT'⟩:∃ T':Nat→Nat,T'=fun k=>if k < w.heap.size then T k else c:=⟨_,rfl⟩
 have t0:∀ k,k < w.heap.size→T' k=T k:=fun k hk=>by rw [hT']; dsimp only; rw [if_pos hk]
 have t1:∀ k,w.heap.size≤k→T' k=c:=fun k hk=>by rw [hT']; dsimp only; rw [if_neg (by omega)]
 have hlt:∀ i,U i≠0→i < w.heap.size:=fun i hi=>by
  rcases Nat.lt_or_ge i w.heap.size with h | h
  ·exact h
  ·exact absurd (h5 i h) hi
 have hXT:∀ w' s' ch' Zs',GrS (fun k=>4≤U k) w w'→NetAt U nb ch' w'→XSt s' F ch' Zs'→s'.cnt=s.cnt→XT T' t x s' w':=by
  intro w' s' ch' Zs' hG hN hS hc
  refine ⟨U,nb,fv,F,ch',Zs',by rw [hc]; exact hkeep w' hG ch' hN,hS,fun i hi=>?_,fun i hi=>?_,fun i hi=>h5 i (Nat.le_trans hG.size hi)⟩
  ·rw [t0 i (hlt i (by omega))]; exact h3 i hi
  ·rw [t0 i (hlt i (by omega))]; exact h4 i hi
 have hT4:∀ k,4≤U k→T k=t:=fun k hk=>h4 k (by omega)
 cases hb:nextF none 0 chs with
 | none=>
  rw [hb] at hF
  simp only at hF ⊢
  have HE:=hide (fun (w':World) (hg:w.grownBy w' none)=>show GrS (fun k=>T k=t) w w'∧XT T' t x s w' from ⟨gone_ofB hg,hXT w' s chs Zs (gone_ofB hg) (h1.net.keep (gone_ofB hg:GrS (fun _=>False) _ _) (by simp) (fun _ _=>rfl)) h2 rfl⟩)
  have HGA:=hide hgA
  have HR0:=hide hR0
  clear h1 h2 h3 h4 h5 hNA hfn hkeep hXT hT4 hlt hb hR0 hgA c0
  go_enter Tryz.func29,Tryz.ntmps29
  go_wp2_with fail
  refine hF.mono ?_
  rintro e w1 ⟨rfl,hg1⟩
  have hr1:=(hg1.block w.heap.size (row_lt (unhide HR0)) (by simp)).trans (unhide HR0)
  obtain ⟨⟨y0,y1,yf⟩,⟨z0,z1,_⟩,hgF⟩:=resMem (x:=.int .i64 0) (y:=.slice none 0 0) (ty2:=52) (gr_trans (unhide HGA) hg1) hr1
  obtain ⟨e1,e2⟩:=unhide HE _ hgF
  have HF:=hide (show _∧_∧_ from ⟨e1,e2,hgF⟩)
  clear hF c0A e1 e2 hgF hr1 HE hg1
  go_wp2_with fail
  exact bodyPost_ret (v:=.tuple #[.agg #[.int .i64 0,.slice none 0 0],.int .i64 5]) (by simp [results,Tryz.results29,go_sem,z0,z1]) rfl ⟨none,0,T',rfl,(unhide HF).1,RowAt.nil _ _ ienc_len,(unhide HF).2.1,t0,t1⟩
 | some pr=>
  obtain ⟨i,u⟩:=pr
  rw [hb] at hF
  simp only at hF ⊢
  have HE:=hide (fun (w1 w':World) (c2:Ch) (hc:chs[i]?=some c2) (hu:c2.e.wait[0]?=some u) (hN:NetAt U nb (chs.set i (fireCh c2)) w1) (hG:GrS (fun k=>4≤U k) (w.alloc (.cells #[.int .i64 0,.slice none 0 0] 52)) w1) (hg:w1.grownBy w' (some w.heap.size))=>show GrS (fun k=>T k=t) w w'∧XT T' t x ⟨s.rs,s.L,s.cnt,s.fired ++ [((i:Int),u.ids)]⟩ w' from by
   obtain ⟨Zs',hS⟩:=h2.fire hc hu
   have hGw:GrS (fun k=>4≤U k) w w':=((gone_ofB hgA:GrS (fun k=>4≤U k) w _).trans hG).then hg (fun k hk=>by simp at hk; subst hk; exact .inl (Nat.le_refl _))
   have hN':NetAt U nb (chs.set i (fireCh c2)) w':=hN.keep (GrS.of hg (fun k hk=>by simp at hk; exact hk.symm):GrS (fun k=>k=w.heap.size) w1 w') (fun k hk e=>by have:=h5 k (by rw [e]; exact Nat.le_refl _); omega) (fun _ _=>rfl)
   exact ⟨hGw.mono hT4,hXT w' _ _ Zs' hGw hN' hS rfl⟩)
  have HGA:=hide hgA
  have HR0:=hide (show _∧U w.heap.size=0 from ⟨hR0,h5 _ (Nat.le_refl _)⟩)
  clear h1 h2 h3 h4 h5 hNA hfn hkeep hXT hT4 hlt hb hR0 hgA c0
  go_enter Tryz.func29,Tryz.ntmps29
  go_wp2_with fail
  refine hF.mono ?_
  rintro e w1 ⟨ao2,cap2,c2,rfl,hv,hc,hu,hN,hG⟩
  have hr1:=hG.blk (unhide HR0).1 (fun e=>by have:=(unhide HR0).2; have e':4≤U w.heap.size:=e; omega)
  obtain ⟨⟨y0,y1,yf⟩,⟨z0,z1,_⟩,hgF⟩:=resMem2 (x:=.int .i64 i) (y:=.slice ao2 u.length cap2) (ty2:=52) hr1
  obtain ⟨e1,e2⟩:=unhide HE w1 _ c2 hc hu hN hG hgF
  have hsz:w.heap.size < (w.alloc (.cells #[.int .i64 0,.slice none 0 0] 52)).heap.size:=row_lt (unhide HR0).1
  have hv2:IsAt w.heap.size (.slice ao2 u.length cap2) u.ids _:=(hv.other hgF (fun g hg e=>by have:=(hv.own g hg).1; simp at e; omega)).weak (by omega)
  have HF:=hide (show _∧_∧_ from ⟨e1,e2,hv2⟩)
  have hul:u.ids.length=u.length:=by unfold Tok.ids; rw [List.length_map]
  clear hF c0A e1 e2 hgF hr1 HE hv hc hu hN hG hv2
  go_wp2_with fail
  exact bodyPost_ret (v:=.tuple #[.agg #[.int .i64 i,.slice ao2 u.length cap2],.int .i64 0]) (by simp [results,Tryz.results29,go_sem,z0,z1]) rfl ⟨ao2,cap2,T',by rw [hul],(unhide HF).1,by rw [hul]; exact (unhide HF).2.2,(unhide HF).2.1,t0,t1⟩
end Go.Proofs.YtolhbeekfjnfmaaGreatDoor
namespace Go.Proofs.YtolhbeekfjnfmaaGreatDoor
theorem Sv.fromD_map (h:Int→Int) (L:List (Int×Sv.Fact)):∀ (cs:List Sv.Cond) (b:Sv.Bs) (ids:List Int),Sv.fromD (L.map (fun p=>(h p.1,p.2))) cs b (ids.map h)=(Sv.fromD L cs b ids).map (List.map h)
 | [],b,ids=>rfl
 | c :: cs,b,ids=>by
  unfold Sv.fromD
  by_cases hn:c.neg=true
  ·rw [if_pos hn,if_pos hn]
   have e:(L.map (fun p=>(h p.1,p.2))).any (fun p=>(Sv.meets p.2 c b).isSome)=L.any (fun p=>(Sv.meets p.2 c b).isSome):=by rw [List.any_map]; rfl
   rw [e]
   split
   ·rfl
   ·exact Sv.fromD_map h L cs b ids
  ·rw [if_neg hn,if_neg hn,List.flatMap_map,List.map_flatMap]
   congr 1
   funext p
   cases hm:Sv.meets p.2 c b with
   | none=>rfl
   | some b'=>
    show Sv.fromD _ cs b' (ids.map h ++ [h p.1])=_
    rw [show ids.map h ++ [h p.1]=(ids ++ [p.1]).map h by simp]
    exact Sv.fromD_map h L cs b' (ids ++ [p.1])
theorem Sv.matF_map (h:Int→Int) (L:List (Int×Sv.Fact)):∀ (rs:List Sv.Rule) (k:Nat),Sv.matF (L.map (fun p=>(h p.1,p.2))) k rs=(Sv.matF L k rs).map (fun m=>(m.1,m.2.map h))
 | [],_=>rfl
 | r :: rs,k=>by
  unfold Sv.matF
  rw [List.map_append,Sv.matF_map h L rs (k+1)]
  congr 1
  have:=Sv.fromD_map h L r.conds [] []
  rw [List.map_nil] at this
  rw [this,List.map_map,List.map_map]
  rfl
theorem Sv.matches_map (h:Int→Int) (L:List (Int×Sv.Fact)) (rs:List Sv.Rule):Sv.matches rs (L.map (fun p=>(h p.1,p.2)))=(Sv.matches rs L).map (fun m=>(m.1,m.2.map h)):=Sv.matF_map h L rs 0
def Sv.numb:Nat→List Sv.Fact→List (Int×Sv.Fact)
 | _,[]=>[]
 | k,f :: fs=>((k:Int)+1,f) :: Sv.numb (k+1) fs
theorem Sv.numb_len:∀ (fs:List Sv.Fact) (k:Nat),(Sv.numb k fs).length=fs.length
 | [],_=>rfl
 | f :: fs,k=>by unfold Sv.numb; rw [List.length_cons,List.length_cons,Sv.numb_len fs (k+1)]
theorem Sv.numb_snoc (f:Sv.Fact):∀ (fs:List Sv.Fact) (k:Nat),Sv.numb k (fs ++ [f])=Sv.numb k fs ++ [(((k+fs.length:Nat):Int)+1,f)]
 | [],k=>rfl
 | g :: fs,k=>by
  show _ :: Sv.numb (k+1) (fs ++ [f])=_ :: (Sv.numb (k+1) fs ++ _)
  rw [Sv.numb_snoc f fs (k+1),List.length_cons,show k+1+fs.length=k+(fs.length+1) by omega]
theorem Sv.numb_fst:∀ (fs:List Sv.Fact) (k:Nat) (p:Int×Sv.Fact),p∈Sv.numb k fs→(k:Int)+1≤p.1∧p.1≤(k+fs.length:Nat)
 | [],_,_,h=>by simp [Sv.numb] at h
 | f :: fs,k,p,h=>by
  unfold Sv.numb at h
  rw [List.length_cons]
  rcases List.mem_cons.1 h with rfl | h
  ·exact ⟨Int.le_refl _,by show (k:Int)+1≤_; omega⟩
  ·have:=Sv.numb_fst fs (k+1) p h
   omega
def Sv.idAt (ids:List Int) (p:Int):Int:=ids[(p - 1).toNat]?.getD 0
theorem Sv.numb_map:∀ (L:List (Int×Sv.Fact)) (pre:List Int),(Sv.numb pre.length (L.map Prod.snd)).map (fun p=>(Sv.idAt (pre ++ L.map Prod.fst) p.1,p.2))=L
 | [],_=>rfl
 | q :: L,pre=>by
  have ih:=Sv.numb_map L (pre ++ [q.1])
  rw [List.length_append,List.length_singleton,List.append_assoc,List.singleton_append] at ih
  rw [List.map_cons,List.map_cons]
  unfold Sv.numb
  rw [List.map_cons,ih]
  congr 1
  unfold Sv.idAt
  simp only
  rw [show (((pre.length:Int)+1 - 1)).toNat=pre.length by omega,List.getElem?_append_right (Nat.le_refl _),Nat.sub_self]
  rfl
theorem Sv.matches_numb (rs:List Sv.Rule) (L:List (Int×Sv.Fact)):Sv.matches rs L=(Sv.matches rs (Sv.numb 0 (L.map Prod.snd))).map (fun m=>(m.1,m.2.map (Sv.idAt (L.map Prod.fst)))):=by
 have h:=Sv.numb_map L []
 rw [List.length_nil,List.nil_append] at h
 rw [←Sv.matches_map,h]
theorem Sv.fromD_ids (L:List (Int×Sv.Fact)):∀ (cs:List Sv.Cond) (b:Sv.Bs) (ids:List Int) (m:List Int),m∈Sv.fromD L cs b ids→∀ x∈m,x∈ids∨∃ p∈L,p.1=x
 | [],b,ids,m,h,x,hx=>by
  unfold Sv.fromD at h
  rw [List.mem_singleton] at h
  subst h
  exact .inl hx
 | c :: cs,b,ids,m,h,x,hx=>by
  unfold Sv.fromD at h
  split at h
  ·split at h
   ·simp at h
   ·exact Sv.fromD_ids L cs b ids m h x hx
  ·obtain ⟨p,hp,hm⟩:=List.mem_flatMap.1 h
   cases hb:Sv.meets p.2 c b with
   | none=>rw [hb] at hm; simp at hm
   | some b'=>
    rw [hb] at hm
    rcases Sv.fromD_ids L cs b' (ids ++ [p.1]) m hm x hx with h1 | h1
    ·rcases List.mem_append.1 h1 with h2 | h2
     ·exact .inl h2
     ·rw [List.mem_singleton] at h2
      exact .inr ⟨p,hp,h2.symm⟩
    ·exact .inr h1
theorem Sv.matches_ids (rs:List Sv.Rule) (L:List (Int×Sv.Fact)) (m:Int×List Int) (h:m∈Sv.matches rs L):∀ x∈m.2,∃ p∈L,p.1=x:=by
 obtain ⟨i,r,_,_,h3⟩:=(Sv.mem_matches L m rs).1 h
 intro x hx
 rcases Sv.fromD_ids L r.conds [] [] m.2 h3 x hx with h1 | h1
 ·simp at h1
 ·exact h1
def Sv.mLt (a b:Int×List Int):Prop:=a.1 < b.1∨(a.1=b.1∧Sv.lexLt a.2 b.2)
theorem Sv.matF_ge (L:List (Int×Sv.Fact)) (rs:List Sv.Rule) (k:Nat) (m:Int×List Int) (h:m∈Sv.matF L k rs):(k:Int)≤m.1:=by
 obtain ⟨i,r,_,h2,_⟩:=(Sv.mem_matF L m rs k).1 h
 omega
theorem Sv.matF_sorted (L:List (Int×Sv.Fact)) (hL:L.Pairwise (fun p q=>p.1 < q.1)):∀ (rs:List Sv.Rule) (k:Nat),(Sv.matF L k rs).Pairwise Sv.mLt
 | [],_=>List.Pairwise.nil
 | r :: rs,k=>by
  unfold Sv.matF
  refine List.pairwise_append.2 ⟨?_,Sv.matF_sorted L hL rs (k+1),fun a ha b hb=>?_⟩
  ·rw [List.pairwise_map]
   exact (Sv.fromD_sorted L hL r.conds [] []).imp (fun h=>.inr ⟨rfl,h⟩)
  ·obtain ⟨ids,_,rfl⟩:=List.mem_map.1 ha
   have:=Sv.matF_ge L rs (k+1) b hb
   exact .inl (by show (k:Int) < b.1; omega)
theorem Sv.matches_sorted (rs:List Sv.Rule) (L:List (Int×Sv.Fact)) (hL:L.Pairwise (fun p q=>p.1 < q.1)):(Sv.matches rs L).Pairwise Sv.mLt:=Sv.matF_sorted L hL rs 0
end Go.Proofs.YtolhbeekfjnfmaaGreatDoor
namespace Go.Proofs.YtolhbeekfjnfmaaGreatDoor
def Sv.topF (a:Int):List Int→Int
 | []=>a
 | x :: l=>Sv.topF (if a < x then x else a) l
def Sv.top (l:List Int):Int:=Sv.topF 0 l
theorem Sv.topF_ge:∀ (l:List Int) (a:Int),a≤Sv.topF a l∧∀ x∈l,x≤Sv.topF a l
 | [],a=>⟨Int.le_refl _,by simp⟩
 | y :: l,a=>by
  obtain ⟨h1,h2⟩:=Sv.topF_ge l (if a < y then y else a)
  have e:Sv.topF a (y :: l)=Sv.topF (if a < y then y else a) l:=rfl
  rw [e]
  have h3:a≤(if a < y then y else a)∧y≤(if a < y then y else a):=by split<;>omega
  refine ⟨by omega,fun x hx=>?_⟩
  rcases List.mem_cons.1 hx with rfl | hx
  ·omega
  ·exact h2 x hx
theorem Sv.topF_mem:∀ (l:List Int) (a:Int),Sv.topF a l=a∨Sv.topF a l∈l
 | [],a=>.inl rfl
 | y :: l,a=>by
  have e:Sv.topF a (y :: l)=Sv.topF (if a < y then y else a) l:=rfl
  rw [e]
  rcases Sv.topF_mem l (if a < y then y else a) with h | h
  ·rw [h]
   split
   ·exact .inr (List.mem_cons_self ..)
   ·exact .inl rfl
  ·exact .inr (List.mem_cons_of_mem _ h)
theorem sortI_le (l:List Int):(sortI l).Pairwise (fun a b=>a≤b):=by
 unfold sortI
 have h:=List.pairwise_mergeSort (le:=fun a b:Int=>decide (a≤b)) (by simp; omega) (by simp; omega) l
 exact h.imp (fun h=>by simpa using h)
theorem sortI_perm (l:List Int):(sortI l).Perm l:=List.mergeSort_perm ..
theorem Sv.age_head (ids:List Int) (h4:ids.length≤4) (h0:∀ x∈ids,0≤x):∃ l,Sv.age ids=Sv.top ids :: l:=by
 have hp:(Sv.age ids).Perm (Sv.pad ids):=(List.reverse_perm _).trans (sortI_perm _)
 have hs:(Sv.age ids).Pairwise (fun a b=>b≤a):=by unfold Sv.age; rw [List.pairwise_reverse]; exact sortI_le _
 have hl:(Sv.age ids).length=4:=by rw [hp.length_eq]; unfold Sv.pad; simp; omega
 cases he:Sv.age ids with
 | nil=>rw [he] at hl; simp at hl
 | cons h l=>
  rw [he] at hp hs
  refine ⟨l,?_⟩
  congr 1
  have hmax:∀ x∈Sv.pad ids,x≤h:=fun x hx=>by
   rcases List.mem_cons.1 (hp.mem_iff.2 hx) with rfl | hx
   ·exact Int.le_refl _
   ·exact (List.pairwise_cons.1 hs).1 x hx
  have hin:h∈Sv.pad ids:=hp.mem_iff.1 (List.mem_cons_self ..)
  obtain ⟨t1,t2⟩:=Sv.topF_ge ids 0
  have k1:h≤Sv.top ids:=by
   unfold Sv.pad at hin
   rcases List.mem_append.1 hin with h1 | h1
   ·exact t2 h h1
   ·rw [List.eq_of_mem_replicate h1]; exact t1
  have k2:0≤h:=by
   unfold Sv.pad at hin
   rcases List.mem_append.1 hin with h1 | h1
   ·exact h0 h h1
   ·rw [List.eq_of_mem_replicate h1]; exact Int.le_refl _
  have k3:Sv.top ids≤h:=by
   rcases Sv.topF_mem ids 0 with h1 | h1
   ·show Sv.topF 0 ids≤h; rw [h1]; exact k2
   ·exact hmax _ (List.mem_append.2 (.inl h1))
  omega
theorem Sv.top_le (a b:List Int) (ha:a.length≤4) (hb:b.length≤4) (ha0:∀ x∈a,0≤x) (hb0:∀ x∈b,0≤x) (h:cmpL (Sv.age a) (Sv.age b)≤0):Sv.top a≤Sv.top b:=by
 obtain ⟨l,e1⟩:=Sv.age_head a ha ha0
 obtain ⟨k,e2⟩:=Sv.age_head b hb hb0
 rw [e1,e2] at h
 unfold cmpL at h
 split at h
 ·omega
 ·split at h
  ·omega
  ·omega
theorem nodup_len {α:Type} [DecidableEq α]:∀ {l k:List α},l.Nodup→(∀ x∈l,x∈k)→l.length≤k.length
 | [],_,_,_=>Nat.zero_le _
 | x :: l,k,hn,h=>by
  obtain ⟨h1,h2⟩:=List.nodup_cons.1 hn
  have hx:=h x (List.mem_cons_self ..)
  have ih:=nodup_len (k:=k.erase x) h2 (fun y hy=>(List.mem_erase_of_ne (fun e=>h1 (by rw [←e]; exact hy))).2 (h y (List.mem_cons_of_mem _ hy)))
  rw [List.length_erase_of_mem hx] at ih
  have:=List.length_pos_of_mem hx
  rw [List.length_cons]
  omega
structure Sv.FireI (s0 st:Sv.St) (fs:List (Int×List Int)) (last:Int):Prop where
 rs:st.rs=s0.rs
 L:st.L=s0.L
 sub:∀ m∈fs,m∈st.fired
 inn:∀ m∈fs,m∈Sv.matches s0.rs s0.L
 nd:fs.Nodup
 top:fs≠[]→∀ m∈Sv.waits st,Sv.top m.2≤last
theorem Sv.FireI.len {s0 st:Sv.St} {fs:List (Int×List Int)} {last:Int} (h:Sv.FireI s0 st fs last):fs.length≤(Sv.matches s0.rs s0.L).length:=nodup_len h.nd h.inn
theorem Sv.FireI.next {s0 st:Sv.St} {fs:List (Int×List Int)} {last:Int} (h:Sv.FireI s0 st fs last) (hsz:∀ m∈Sv.matches s0.rs s0.L,m.2.length≤4∧∀ x∈m.2,0≤x) :
  (st.fire.1.2=5∧st.fire.2=st)∨∃ m,st.fire.1=(m,0)∧m∈Sv.matches s0.rs s0.L∧m ∉ fs∧(fs≠[]→Sv.top m.2≤last)∧Sv.FireI s0 st.fire.2 (fs ++ [m]) (Sv.top m.2):=by
 cases hb:Sv.best none (Sv.waits st) with
 | none=>
  left
  unfold Sv.St.fire
  rw [hb]
  exact ⟨rfl,rfl⟩
 | some m=>
  right
  have hm:=Sv.best_mem _ _ hb
  have htop:=Sv.best_top0 _ _ hb
  have hw:=(Sv.mem_waits st m).1 hm
  have hw1:=hw.1
  rw [h.rs,h.L] at hw1
  have e:st.fire=((m,0),⟨st.rs,st.L,st.cnt,st.fired ++ [m]⟩):=by unfold Sv.St.fire; rw [hb]
  have hnf:m ∉ fs:=fun hx=>hw.2 (h.sub m hx)
  rw [e]
  refine ⟨m,rfl,hw1,hnf,fun hne=>h.top hne m hm,h.rs,h.L,fun k hk=>?_,fun k hk=>?_,?_,fun _ k hk=>?_⟩
  ·rcases List.mem_append.1 hk with hk | hk
   ·exact List.mem_append.2 (.inl (h.sub k hk))
   ·exact List.mem_append.2 (.inr hk)
  ·rcases List.mem_append.1 hk with hk | hk
   ·exact h.inn k hk
   ·rw [List.mem_singleton] at hk; subst hk; exact hw1
  ·refine List.nodup_append.2 ⟨h.nd,by simp,fun a ha b hb'=>?_⟩
   rw [List.mem_singleton] at hb'
   subst hb'
   exact fun e=>hnf (by rw [←e]; exact ha)
  ·have hk2:=(Sv.mem_waits _ k).1 hk
   have hk3:k∈Sv.waits st:=(Sv.mem_waits st k).2 ⟨hk2.1,fun hx=>hk2.2 (List.mem_append.2 (.inl hx))⟩
   have hk4:k∈Sv.matches s0.rs s0.L:=by have:=hk2.1; rw [←h.rs,←h.L]; exact this
   have:=htop k hk3
   rw [Sv.newer_no] at this
   exact Sv.top_le k.2 m.2 (hsz k hk4).1 (hsz m hw1).1 (hsz k hk4).2 (hsz m hw1).2 this
end Go.Proofs.YtolhbeekfjnfmaaGreatDoor

import Derived.Test.YtolhbeekfjnfmaaGreatDoorK24
import Derived.Test.YtolhbeekfjnfmaaGreatDoorK31
import Derived.Deep.DeepCutAuto
import Derived.Deep.RegionLaw
import Derived.Test.YtolhbeekfjnfmaaGreatDoorK18
import Derived.Test.YtolhbeekfjnfmaaGreatDoorK20
import Derived.Test.YtolhbeekfjnfmaaGreatDoorK17
import Derived.Test.YtolhbeekfjnfmaaGreatDoorK15
import Derived.Test.YtolhbeekfjnfmaaGreatDoorK12
namespace Go.Proofs.YtolhbeekfjnfmaaGreatDoor
open Go.RowKit
theorem ChSt.few' {F:List Ft} {cs:List Sv.Cond} {c:Ch} {Z:List Tok} (h:ChSt F cs c Z) (hF:F.length≤16):(∀ t∈c.e.toks,t.length=c.jn)∧c.jn≤4∧c.e.toks.length≤1000000:=by
 refine ⟨h.ok.jlen h.few,?_,?_⟩
 ·rw [h.ok.jn]
  have:=jnOf_le cs 0
  have:=h.few
  omega
 ·have h1:=(h.ok.perm h.terms).length_eq
  rw [List.length_map] at h1
  have h2:=Sv.fromD_len (F.map (fun g=>(g.id,g.f))) (by rw [List.length_map]; exact hF) cs [] []
  have h3:16 ^ cs.length≤16 ^ 4:=Nat.pow_le_pow_right (by omega) h.few
  have h4:(16:Nat) ^ 4=65536:=by decide
  omega
theorem ChsSt.ch {F:List Ft} {rs:List Sv.Rule} {chs:List Ch} {Zs:List (List Tok)} (h:ChsSt F rs chs Zs) {c:Ch} (hc:c∈chs):∃ r Z,r∈rs∧ChSt F r.conds c Z:=by
 obtain ⟨i,hi⟩:=List.getElem?_of_mem hc
 have hil:i < rs.length:=by have:=(List.getElem?_eq_some_iff.1 hi).1; rw [h.len.1] at this; exact this
 obtain ⟨c2,Z,p1,p2,p3⟩:=h.get (List.getElem?_eq_getElem hil)
 rw [hi] at p1
 simp only [Option.some.injEq] at p1
 subst p1
 exact ⟨_,Z,List.getElem_mem hil,p3⟩
theorem XSt.chsFew {s:Sv.St} {F:List Ft} {chs:List Ch} {Zs:List (List Tok)} (h:XSt s F chs Zs):ChsFew chs:=by
 refine ⟨fun c hc=>?_,by rw [h.rules.len.1]; exact h.eight⟩
 obtain ⟨r,Z,_,h1⟩:=h.rules.ch hc
 exact h1.few' h.few
theorem sqs_mats {F:List Ft} (hF:FtAsc F):∀ {rs:List Sv.Rule} {chs:List Ch} {Zs:List (List Tok)} {qs:List Sq} (k:Nat),ChsSt F rs chs Zs→qs.length=chs.length→(∀ (i:Nat) (q:Sq) (c:Ch),qs[i]?=some q→chs[i]?=some c→q.ru=k+i∧q.l.Perm c.e.toks∧q.l.Pairwise (fun a b=>cmpL a.nums b.nums≤0))→
  qs.flatMap (fun q=>q.l.map (fun t=>((q.ru:Int),t.ids)))=Sv.matF (F.map (fun g=>(g.id,g.f))) k rs
 | [],[],[],[],_,_,_,_=>rfl
 | r :: rs,c :: chs,Z :: Zs,q :: qs,k,h,hl,hq=>by
  obtain ⟨h1,h2,h3⟩:=hq 0 q c rfl rfl
  have h4:=h.1.ok.mats h.1.few h.1.terms hF.fst h2 h3
  have ih:=sqs_mats hF (k+1) h.2 (by simpa using hl) (fun i q' c' hq' hc'=>by
   have:=hq (i+1) q' c' hq' hc'
   exact ⟨by omega,this.2⟩)
  rw [List.flatMap_cons,ih,show Sv.matF (F.map (fun g=>(g.id,g.f))) k (r :: rs)=(Sv.fromD (F.map (fun g=>(g.id,g.f))) r.conds [] []).map (fun ids=>((k:Int),ids)) ++ Sv.matF (F.map (fun g=>(g.id,g.f))) (k+1) rs from rfl]
  congr 1
  rw [←h4,List.map_map,show k=q.ru by omega]
  rfl
 | _,[],_,_ :: _,_,_,hl,_=>by simp at hl
 | _,_ :: _,_,[],_,_,hl,_=>by simp at hl
 | [],_ :: _,_,_ :: _,_,h,_,_=>h.elim
 | _ :: _,[],_,[],_,h,_,_=>by cases h
 | _ :: _,_ :: _,[],_,_,h,_,_=>h.elim
 | [],[],_ :: _,_,_,h,_,_=>h.elim
theorem AllS.mats {s:Sv.St} {F:List Ft} {chs:List Ch} {Zs:List (List Tok)} (h:XSt s F chs Zs) {qs:List Sq} {ms:List Mv} (hq:SqsOk chs qs) (ha:AllS qs ms):ms.map (fun x=>((x.ru:Int),x.tok.ids))=Sv.matches s.rs s.L:=by
 have h1:=sqs_mats h.asc 0 h.rules hq.1 (fun i q c hi hc=>by
  obtain ⟨k1,_,k3,k4⟩:=hq.2 i q c hi hc
  exact ⟨by omega,k3,k4⟩)
 unfold Sv.matches
 rw [←h.facts,←h1]
 unfold AllS at ha
 have h2:=congrArg (List.map (fun p:Nat×Nat×Tok=>((p.1:Int),p.2.2.ids))) ha
 rw [List.map_map] at h2
 refine Eq.trans ?_ (h2.trans ?_)
 ·rfl
 ·rw [List.map_flatMap]
  congr 1
  funext q
  rw [List.map_map]
  rfl
def Mv.ft (x:Mv):VFt:=⟨x.ru,x.sl,x.tok.ids⟩
theorem mvs_hand (T:Nat→Nat) {w w':World} {v:Value} {s:List Mv} (hr:RowAt 52 2 mrow 0 v s w') (hv:∀ g,v.ownBlock=some g→w.heap.size < g) (hm:MvsOk w.heap.size s w') (h4:∀ x∈s,x.tok.ids.length≤1000000) :
  ∃ T',Hand T' 52 v (s.map Mv.ft) w'∧∀ k,k < w.heap.size→T' k=T k:=by
 obtain ⟨T',hT'⟩:∃ T':Nat→Nat,T'=fun k=>if k < w.heap.size then T k else if v.ownBlock=some k then 13 else 13+3 * (s.findIdx (fun x=>decide (x.sl.ownBlock=some k))+1):=⟨_,rfl⟩
 refine ⟨T',⟨⟨⟨ftenc_len,?_⟩,fun g hg=>?_⟩,fun i x hx=>?_⟩,fun k hk=>by rw [hT']; dsimp only; rw [if_pos hk]⟩
 ·have e:(s.map Mv.ft).flatMap ftenc=s.flatMap mrow:=by rw [List.flatMap_map]; rfl
  rw [e,List.length_map]
  exact hr.2
 ·rw [hT']
  dsimp only
  rw [if_neg (by have:=hv g hg; omega),if_pos hg]
 ·rw [List.getElem?_map] at hx
  cases hy:s[i]? with
  | none=>rw [hy] at hx; simp at hx
  | some y=>
   rw [hy] at hx
   simp only [Option.map_some,Option.some.injEq] at hx
   subst hx
   have hym:=List.mem_of_getElem? hy
   have hrow:=hm.rows y hym
   refine ⟨⟨hrow.weak (Nat.zero_le _),fun g hg=>?_⟩,h4 y hym⟩
   have hg0:=hrow.own g hg
   have hvg:v.ownBlock≠some g:=fun e=>by
    obtain ⟨c1,f1,k1⟩:=hr.blockCells e
    obtain ⟨c2,f2,k2⟩:=hrow.blockCells hg
    rw [k1] at k2
    simp only [Option.some.injEq,Obj.cells.injEq] at k2
    exact absurd k2.2.1 (by decide)
   rw [hT']
   dsimp only
   rw [if_neg (by omega),if_neg hvg]
   have hidx:s.findIdx (fun x=>decide (x.sl.ownBlock=some g))=i:=by
    have hil:=(List.getElem?_eq_some_iff.1 hy).1
    rw [List.findIdx_eq hil]
    have hye:=(List.getElem?_eq_some_iff.1 hy).2
    refine ⟨by rw [hye]; exact decide_eq_true hg,fun j hj=>?_⟩
    rw [decide_eq_false_iff_not]
    intro e
    have:=List.pairwise_iff_getElem.1 hm.apart j i (by omega) hil hj g g e (by rw [hye]; exact hg)
    omega
   rw [hidx]
theorem xMatsT (T:Nat→Nat) (t x:Nat) (s:Sv.St) (w:World) (h:XT T t x s w) :
  Calls Tryz.prog 21 #[.pointer (some ⟨x,0,none⟩)] w fun e w'=>∃ T' l xs,e=.returned l∧w.grownBy w' none∧Hand T' 52 l xs w'∧xs.map (fun x=>(x.kind,x.vals))=Sv.matches s.rs s.L∧∀ k,k < w.heap.size→T' k=T k:=by
 obtain ⟨U,nb,fv,F,chs,Zs,h1,h2,h3,h4,h5⟩:=h
 have hM:=nMatches_w U nb chs w h1.net h5 h2.chsFew
 have c0:w.cell? ⟨x,0,none⟩=some (.pointer (some ⟨nb,0,none⟩)):=by simp [World.cell?,h1.blk]
 have HE:=hide (fun (w':World) (v:Value) (ms:List Mv) (qs:List Sq) (hr:RowAt 52 2 mrow 0 v ms w') (hm:MvsOk w.heap.size ms w') (hq:SqsOk chs qs) (ha:AllS qs ms) (hv:∀ g,v.ownBlock=some g→w.heap.size < g)=>show ∃ T' xs,Hand T' 52 v xs w'∧xs.map (fun x=>(x.kind,x.vals))=Sv.matches s.rs s.L∧∀ k,k < w.heap.size→T' k=T k by
  have hl:∀ x∈ms,x.tok.ids.length≤1000000:=by
   intro x hx
   have hmem:((x.ru:Int),x.tok.ids)∈Sv.matches s.rs s.L:=by rw [←AllS.mats h2 hq ha]; exact List.mem_map.2 ⟨x,hx,rfl⟩
   obtain ⟨i,r,k1,_,k3⟩:=(Sv.mem_matches _ _ _).1 hmem
   obtain ⟨t',e1,e2⟩:=Sv.fromD_ext _ _ _ _ _ k3
   obtain ⟨c,Z,q1,q2,q3⟩:=h2.rules.get k1
   have hp:=q3.ok.perm q3.terms
   rw [h2.facts] at hp
   obtain ⟨u,hu,he⟩:=List.mem_map.1 (hp.mem_iff.2 k3)
   have hjl:=q3.ok.jlen q3.few u hu
   have hjn:=(q3.few' h2.few).2.1
   simp only at he
   rw [←he]
   unfold Tok.ids
   rw [List.length_map]
   omega
  obtain ⟨T',k1,k2⟩:=mvs_hand T hr hv hm hl
  refine ⟨T',ms.map Mv.ft,k1,?_,k2⟩
  rw [List.map_map,←AllS.mats h2 hq ha]
  rfl)
 clear h1 h2 h3 h4 h5
 go_enter Tryz.func21,Tryz.ntmps21
 go_wp2_with (go_at_call 42; refine hM.mono ?_; rintro e w1 ⟨v,ms,qs,rfl,hg,hr,hm,hq,ha,hv⟩)
 go_ret
 obtain ⟨T',xs,k1,k2,k3⟩:=unhide HE w1 v ms qs hr hm hq ha hv
 exact ⟨T',v,xs,rfl,hg,k1,k2,k3⟩
theorem xFactsT (T:Nat→Nat) (t x:Nat) (s:Sv.St) (w:World) (h:XT T t x s w) :
  Calls Tryz.prog 24 #[.pointer (some ⟨x,0,none⟩)] w fun e w'=>∃ T' a l xs,e=.returned (.tuple #[a,l])∧w.grownBy w' none∧Hand T' 37 l xs w'∧TRow T' (13+3 * (xs.length+1)) 3 1 ienc a (s.L.map Prod.fst) w'∧xs.map (fun x=>(⟨x.kind,x.vals⟩:Sv.Fact))=s.L.map Prod.snd∧∀ k,k < w.heap.size→T' k=T k:=by
 obtain ⟨U,nb,fv,F,chs,Zs,h1,h2,h3,h4,h5⟩:=h
 refine (xFacts_w T U x nb fv F s.cnt chs w h1 h2.few).mono ?_
 rintro e w' ⟨T',a,l,xs,rfl,hI⟩
 have hl:=hI.len (Nat.le_refl _)
 have hids:=hI.ids
 have hsame:=hI.same
 rw [List.take_of_length_le (Nat.le_refl _)] at hids hsame
 refine ⟨T',a,l,xs,rfl,hI.gr,⟨hI.row,hI.els⟩,?_,?_,hI.old⟩
 ·rw [hl,←h2.facts,List.map_map]
  exact hids
 ·rw [hsame,←h2.facts,List.map_map]
  rfl
end Go.Proofs.YtolhbeekfjnfmaaGreatDoor
namespace Go.Proofs.YtolhbeekfjnfmaaGreatDoor
open Go.RowKit
def VFt.mof (m:VFt):Int×List Int:=(m.kind,m.vals)
def MtAt (v:Value) (ms:List VFt) (w:World):Prop:=RowAt 52 2 ftenc 0 v ms w∧∀ m∈ms,IsAt 0 m.v m.vals w
theorem MtAt.slice {v:Value} {ms:List VFt} {w:World} (h:MtAt v ms w):∃ ao cap,v=.slice ao ms.length cap:=h.1.slice
theorem MtAt.gr {v:Value} {ms:List VFt} {w w':World} (h:MtAt v ms w) (hg:w.grownBy w' none):MtAt v ms w':=⟨h.1.gr hg,fun m hm=>(h.2 m hm).gr hg⟩
theorem kdec_drop {x y:Int} {a b:List Int}:decide (x :: a=y :: b)=(decide (x=y) && decide (a=b)):=by
 by_cases h1:x=y<;>by_cases h2:a=b<;>simp [h1,h2]
theorem kdec_of (m k:VFt):decide (m.mof=k.mof)=(decide (m.kind=k.kind) && decide (m.vals=k.vals)):=by
 unfold VFt.mof
 by_cases h1:m.kind=k.kind<;>by_cases h2:m.vals=k.vals<;>simp [h1,h2]
set_option maxRecDepth 100000 in
set_option maxHeartbeats 1000000 in
theorem ksameN_w (a b:List Int) (u v:Value) (w:World) (ha:IsAt 0 u a w) (hb:IsAt 0 v b w) :
  Calls Tryz.prog 30 #[u,v] w fun e w'=>e=.returned (.bool (decide (a=b)))∧w.grownBy w' none:=by
 obtain ⟨aa,ac,rfl⟩:=ha.slice
 obtain ⟨ba,bc,rfl⟩:=hb.slice
 have hla:=ha.le
 unfold maxLen at hla
 by_cases hl:a.length=b.length
 ·have hd2:((a.length:Int) != (b.length:Int))=false:=by simp; omega
  have HL:=hide hl
  have HA:=hide ha
  have HB:=hide hb
  obtain ⟨R,hR⟩:∃ R,decide (a=b)=R:=⟨_,rfl⟩
  rw [hR]
  have HR:=hide hR
  clear hl ha hb hR
  go_enter Tryz.func30,Tryz.ntmps30
  go_wp2
  go_loopw [5] (fun x w'=>∃ i:Nat,i≤a.length∧x=.int .i64 i∧w.grownBy w' none∧decide (a.drop i=b.drop i)=R) (fun x _=>a.length - (intOf x).toNat)
  case atStart=>exact ⟨0,Nat.zero_le _,rfl,World.grownBy.refl _ _,unhide HR⟩
  case round=>
   clear HR
   obtain ⟨i,hi,rfl,hg,hR⟩:=hrel
   by_cases hlt:i < a.length
   ·have hdi:decide (i < a.length)=true:=by simpa using hlt
    have hL:=unhide HL
    have hltb:i < b.length:=by omega
    obtain ⟨x,hx⟩:∃ x,a[i]?=some x:=⟨a[i],List.getElem?_eq_getElem hlt⟩
    obtain ⟨y,hy⟩:∃ y,b[i]?=some y:=⟨b[i],List.getElem?_eq_getElem hltb⟩
    rw [drop_get hx,drop_get hy,kdec_drop] at hR
    obtain ⟨g,cp,hv,hcs⟩:=((unhide HA).gr hg).cells hx
    obtain ⟨g2,cp2,hv2,hcs2⟩:=((unhide HB).gr hg).cells hy
    simp only [Value.slice.injEq,true_and] at hv hv2
    obtain ⟨rfl,rfl⟩:=hv
    obtain ⟨rfl,rfl⟩:=hv2
    have x0:wr.cell? ⟨g,i,none⟩=some (.int .i64 x):=by have:=hcs 0 (by omega); simpa [ienc] using this
    have y0:wr.cell? ⟨g2,i,none⟩=some (.int .i64 y):=by have:=hcs2 0 (by omega); simpa [ienc] using this
    clear hcs hcs2 hx hy hL
    by_cases hxy:x=y
    ·have hdx:(x != y)=false:=by simpa using hxy
     have e2:decide (x=y)=true:=by simpa using hxy
     rw [e2,Bool.true_and] at hR
     have HR:=hide hR
     clear hR e2 hxy
     go_wp2
     go_quiet (fail)
     go_wp2
     go_roundw
     case rel=>exact ⟨i+1,by omega,by go_num,gr_trans hg (gr_drewN _ _ _),unhide HR⟩
     case measure=>simp [intOf]; omega
    ·have hdx:(x != y)=true:=by simpa using hxy
     have e2:decide (x=y)=false:=by simpa using hxy
     rw [e2,Bool.false_and] at hR
     subst hR
     clear e2 hxy
     go_wp2
     go_quiet (fail)
     go_wp2
     go_ret
     exact ⟨rfl,gr_trans hg (gr_drewN _ _ _)⟩
   ·have hdi:decide (i < a.length)=false:=by simpa using hlt
    have hL:=unhide HL
    rw [List.drop_of_length_le (by omega),List.drop_of_length_le (by omega)] at hR
    have hR2:true=R:=by simpa using hR
    subst hR2
    clear hR hL
    go_wp2
    go_ret
    exact ⟨rfl,hg⟩
 ·have hd2:((a.length:Int) != (b.length:Int))=true:=by simp; omega
  have e1:decide (a=b)=false:=by
   simp only [decide_eq_false_iff_not]
   intro h
   exact hl (by rw [h])
  rw [e1]
  clear e1 hl ha hb
  go_enter Tryz.func30,Tryz.ntmps30
  go_wp2
  go_ret
  exact ⟨rfl,World.grownBy.refl _ _⟩
theorem kdec_dropM {x y:Int×List Int} {a b:List (Int×List Int)}:decide (x :: a=y :: b)=(decide (x=y) && decide (a=b)):=by
 by_cases h1:x=y<;>by_cases h2:a=b<;>simp [h1,h2]
set_option maxRecDepth 100000 in
set_option maxHeartbeats 1000000 in
theorem ksame_w (a b:List VFt) (u v:Value) (w:World) (ha:MtAt u a w) (hb:MtAt v b w) :
  Calls Tryz.prog 20 #[u,v] w fun e w'=>e=.returned (.bool (decide (a.map VFt.mof=b.map VFt.mof)))∧w.grownBy w' none:=by
 obtain ⟨aa,ac,rfl⟩:=ha.slice
 obtain ⟨ba,bc,rfl⟩:=hb.slice
 have hla:=ha.1.le
 unfold maxLen at hla
 by_cases hl:a.length=b.length
 ·have hd2:((a.length:Int) != (b.length:Int))=false:=by simp; omega
  have HL:=hide hl
  have HA:=hide ha
  have HB:=hide hb
  obtain ⟨R,hR⟩:∃ R,decide (a.map VFt.mof=b.map VFt.mof)=R:=⟨_,rfl⟩
  rw [hR]
  have HR:=hide hR
  clear hl ha hb hR
  go_enter Tryz.func20,Tryz.ntmps20
  go_wp2
  go_loopw [5] (fun x w'=>∃ i:Nat,i≤a.length∧x=.int .i64 i∧w.grownBy w' none∧decide ((a.drop i).map VFt.mof=(b.drop i).map VFt.mof)=R) (fun x _=>a.length - (intOf x).toNat)
  case atStart=>exact ⟨0,Nat.zero_le _,rfl,World.grownBy.refl _ _,unhide HR⟩
  case round=>
   clear HR
   obtain ⟨i,hi,rfl,hg,hR⟩:=hrel
   by_cases hlt:i < a.length
   ·have hdi:decide (i < a.length)=true:=by simpa using hlt
    have hL:=unhide HL
    have hltb:i < b.length:=by omega
    obtain ⟨x,hx⟩:∃ x,a[i]?=some x:=⟨a[i],List.getElem?_eq_getElem hlt⟩
    obtain ⟨y,hy⟩:∃ y,b[i]?=some y:=⟨b[i],List.getElem?_eq_getElem hltb⟩
    rw [drop_get hx,drop_get hy,List.map_cons,List.map_cons,kdec_dropM,kdec_of] at hR
    obtain ⟨g,cp,hv,hcs⟩:=((unhide HA).1.gr hg).cells hx
    obtain ⟨g2,cp2,hv2,hcs2⟩:=((unhide HB).1.gr hg).cells hy
    simp only [Value.slice.injEq,true_and] at hv hv2
    obtain ⟨rfl,rfl⟩:=hv
    obtain ⟨rfl,rfl⟩:=hv2
    have x0:wr.cell? ⟨g,i * 2,none⟩=some (.int .i64 x.kind):=hcs 0 (by omega)
    have x1:wr.cell? ⟨g,i * 2+1,none⟩=some x.v:=hcs 1 (by omega)
    have y0:wr.cell? ⟨g2,i * 2,none⟩=some (.int .i64 y.kind):=hcs2 0 (by omega)
    have y1:wr.cell? ⟨g2,i * 2+1,none⟩=some y.v:=hcs2 1 (by omega)
    have hxi:=(unhide HA).2 x (List.mem_of_getElem? hx)
    have hyi:=(unhide HB).2 y (List.mem_of_getElem? hy)
    have hS:=fun (W:World) (hW:wr.grownBy W none)=>ksameN_w x.vals y.vals x.v y.v W (hxi.gr (gr_trans hg hW)) (hyi.gr (gr_trans hg hW))
    obtain ⟨xa,xc,hxv⟩:=hxi.slice
    obtain ⟨ya,yc,hyv⟩:=hyi.slice
    rw [hxv] at x1
    rw [hyv] at y1
    rw [hxv,hyv] at hS
    obtain ⟨d,hd⟩:∃ d,decide (x.vals=y.vals)=d:=⟨_,rfl⟩
    rw [hd] at hR hS
    have HR:=hide hR
    clear hR hd hcs hcs2 hx hy hL hxi hyi hxv hyv
    go_wp2_with fail
    go_cut [6] (fun s wx=>s=.bool d∧wr.grownBy wx none)
    case first=>
     go_region_with (go_at_call 30; refine (hS _ (by repeat (first | exact World.grownBy.refl _ _ | apply gr_drew))).mono ?_; rintro e w2 ⟨rfl,hg2⟩)
     all_goals
      go_wp2_with fail
      go_meet
      exact ⟨rfl,gr_trans (gr_drew (World.grownBy.refl _ _)) hg2⟩
    case rest=>
     obtain ⟨rfl,hg2⟩:=hcut
     have hgc:=gr_trans hg hg2
     have x02:=hg2.cell x0 (by simp)
     have y02:=hg2.cell y0 (by simp)
     clear hS hg2 x0 x1 y0 y1
     have hRR:=unhide HR
     clear HR
     cases d
     ·rw [Bool.and_false,Bool.false_and] at hRR
      subst hRR
      go_wp2
      go_quiet (fail)
      go_wp2
      go_ret
      exact ⟨rfl,gr_trans hgc (gr_drewN _ _ _)⟩
     ·rw [Bool.and_true] at hRR
      by_cases hxy:x.kind=y.kind
      ·have hdx:(x.kind != y.kind)=false:=by simpa using hxy
       have e2:decide (x.kind=y.kind)=true:=by simpa using hxy
       rw [e2,Bool.true_and] at hRR
       have HR:=hide hRR
       clear hRR e2 hxy
       go_wp2
       go_quiet (fail)
       go_wp2
       go_roundw
       case rel=>exact ⟨i+1,by omega,by go_num,gr_trans hgc (gr_drewN _ _ _),unhide HR⟩
       case measure=>simp [intOf]; omega
      ·have hdx:(x.kind != y.kind)=true:=by simpa using hxy
       have e2:decide (x.kind=y.kind)=false:=by simpa using hxy
       rw [e2,Bool.false_and] at hRR
       subst hRR
       clear e2 hxy
       go_wp2
       go_quiet (fail)
       go_wp2
       go_ret
       exact ⟨rfl,gr_trans hgc (gr_drewN _ _ _)⟩
   ·have hdi:decide (i < a.length)=false:=by simpa using hlt
    have hL:=unhide HL
    rw [List.drop_of_length_le (by omega),List.drop_of_length_le (by omega)] at hR
    have hR2:true=R:=by simpa using hR
    subst hR2
    clear hR hL
    go_wp2
    go_ret
    exact ⟨rfl,hg⟩
 ·have hd2:((a.length:Int) != (b.length:Int))=true:=by simp; omega
  have e1:decide (a.map VFt.mof=b.map VFt.mof)=false:=by
   simp only [decide_eq_false_iff_not]
   intro h
   have:=congrArg List.length h
   simp only [List.length_map] at this
   exact hl this
  rw [e1]
  clear e1 hl ha hb
  go_enter Tryz.func20,Tryz.ntmps20
  go_wp2
  go_ret
  exact ⟨rfl,World.grownBy.refl _ _⟩
end Go.Proofs.YtolhbeekfjnfmaaGreatDoor
namespace Go.Proofs.YtolhbeekfjnfmaaGreatDoor
open Go.RowKit
def Sv.pick (c n:Int):Int:=(if c < 0 then -(c+1) else c) % n
theorem Sv.pick_rng (c n:Int) (hn:0 < n):0≤Sv.pick c n∧Sv.pick c n < n:=by
 unfold Sv.pick
 exact ⟨Int.emod_nonneg _ (by omega),Int.emod_lt_of_pos _ hn⟩
def I64 (c:Int):Prop:=-9223372036854775808≤c∧c≤9223372036854775807
set_option maxRecDepth 100000 in
set_option maxHeartbeats 400000 in
theorem kpick_w (c n:Int) (hc:I64 c) (hn:0 < n) (hn2:n≤4611686018427387904) (w:World) :
  Calls Tryz.prog 31 #[.int .i64 c,.int .i64 n] w fun e w'=>e=.returned (.int .i64 (Sv.pick c n))∧w'=w:=by
 obtain ⟨h1,h2⟩:=hc
 have hr:=Sv.pick_rng c n hn
 unfold Sv.pick at hr ⊢
 by_cases h:c < 0
 ·have hd:decide (c < 0)=true:=by simpa using h
  rw [if_pos h] at hr ⊢
  have e1:-(c+1) % n=-((c+1).tmod n):=by rw [←Int.neg_tmod,Int.tmod_eq_emod_of_nonneg (by omega)]
  rw [e1]
  clear e1 hr
  go_enter Tryz.func31,Tryz.ntmps31
  go_wp2
  go_ret
  exact ⟨rfl,rfl⟩
 ·have hd:decide (c < 0)=false:=by simpa using h
  rw [if_neg h] at hr ⊢
  go_enter Tryz.func31,Tryz.ntmps31
  go_wp2
  go_ret
  exact ⟨rfl,rfl⟩
def Sv.kfact (a v0 v1 v2 v3:Int):Sv.Fact:=⟨Sv.pick a 3,(([v0,v1,v2].map (fun v=>Sv.pick v 3)).take (Sv.pick v3 4).toNat)⟩
theorem Sv.kfact_len (a v0 v1 v2 v3:Int):(Sv.kfact a v0 v1 v2 v3).vals.length=(Sv.pick v3 4).toNat:=by
 unfold Sv.kfact
 have:=Sv.pick_rng v3 4 (by omega)
 simp
 omega
theorem Sv.kfact_ok (a v0 v1 v2 v3:Int):Sv.factOk (Sv.kfact a v0 v1 v2 v3)=true:=by
 have h1:=Sv.pick_rng a 3 (by omega)
 have h2:=Sv.pick_rng v3 4 (by omega)
 have hl:=Sv.kfact_len a v0 v1 v2 v3
 unfold Sv.factOk
 rw [Bool.and_eq_true]
 refine ⟨?_,?_⟩
 ·rw [hl]
  unfold Sv.kfact
  simp
  omega
 ·rw [List.all_eq_true]
  intro x hx
  have hx2:=List.mem_of_mem_take (show x∈(([v0,v1,v2].map (fun v=>Sv.pick v 3)).take (Sv.pick v3 4).toNat) from hx)
  obtain ⟨v,_,rfl⟩:=List.mem_map.1 hx2
  have:=Sv.pick_rng v 3 (by omega)
  unfold Sv.valOk
  simp
  omega
structure KfI (w:World) (kd a v0 v1 v2 v3 k:Int) (l:List Int) (v:Value) (wr:World):Prop where
 gr:w.grownBy wr none
 sb:wr.heap[w.heap.size]?=some (.cells #[.int .i64 kd,.int .i64 a,.int .i64 v0,.int .i64 v1,.int .i64 v2,.int .i64 v3] 41 (0,0))
 rb:wr.heap[w.heap.size+1]?=some (.cells #[.int .i64 0,.slice none 0 0] 37 (0,0))
 box:wr.heap[w.heap.size+1+1]?=some (.cells #[.int .i64 k,v] 37 (0,0))
 row:RowAt 3 1 ienc 0 v l wr
 own:∀ g,v.ownBlock=some g→w.heap.size+1+1 < g
theorem gr_alK {w w':World} (h:w.grownBy w' none) (o:Obj):w.grownBy (w'.alloc o) none:=gr_trans h (World.grownBy_alloc w' o none)
theorem GrS.grownK {S:Nat→Prop} {w w':World} (h:GrS S w w') (hs:∀ i,i < w.heap.size→¬ S i):w.grownBy w' none:=⟨h.os,h.tape,h.output,h.size,fun k hk _=>h.block k hk (hs k hk)⟩
theorem KfI.step {w wr w4 w5:World} {kd a v0 v1 v2 v3 k x:Int} {l:List Int} {v v':Value} {n m:Nat} (h:KfI w kd a v0 v1 v2 v3 k l v wr) (hg:wr.grownBy w4 none) (hl:Longer v v' n m w4 w5) (hr:RowAt 3 1 ienc 0 v' (l ++ [x]) w5) :
  (w5.cell? ⟨w.heap.size+1+1,1,none⟩=some v∧w5.frozen? ⟨w.heap.size+1+1,1,none⟩=false)∧KfI w kd a v0 v1 v2 v3 k (l ++ [x]) v' (w5.setCell ⟨w.heap.size+1+1,1,none⟩ v'):=by
 have hs:=row_lt h.box
 have hne:∀ b,b≤w.heap.size+1+1→v.ownBlock≠some b:=fun b hb e=>by have:=h.own b e; omega
 have k0:w5.heap[w.heap.size]?=_:=hl.block (by rw [hg.block _ (row_lt h.sb) (by simp)]; exact h.sb) (hne _ (by omega))
 have k1:w5.heap[w.heap.size+1]?=_:=hl.block (by rw [hg.block _ (row_lt h.rb) (by simp)]; exact h.rb) (hne _ (by omega))
 have k2:w5.heap[w.heap.size+1+1]?=_:=hl.block (by rw [hg.block _ (row_lt h.box) (by simp)]; exact h.box) (hne _ (by omega))
 have hset:=gr_set w5 (w.heap.size+1+1) 1 v'
 have hown:∀ g,v'.ownBlock=some g→w.heap.size+1+1 < g:=fun g hg'=>by
  rcases hl.own g hg' with e | e
  ·exact h.own g e
  ·have:=hg.size; omega
 refine ⟨⟨by simp [World.cell?,k2],by simp [World.frozen?,k2]⟩,?_,?_,?_,?_,?_,hown⟩
 ·refine GrS.grownK (S:=fun i=>w.heap.size≤i) ?_ (fun i hi h=>by omega)
  have e1:GrS (fun i=>w.heap.size≤i) w w4:=GrS.of (gr_trans h.gr hg) (by simp)
  have e2:GrS (fun i=>w.heap.size≤i) w w5:=e1.trans (hl.gr (fun g hg'=>by have:=h.own g hg'; show w.heap.size≤g; omega))
  exact e2.then hset (fun g hg'=>by simp at hg'; subst hg'; exact .inl (by omega))
 ·rw [hset.block _ (row_lt k0) (by simp; omega)]; exact k0
 ·rw [hset.block _ (row_lt k1) (by simp)]; exact k1
 ·rw [heap_setCell_same w5 _ 1 _ _ _ k2]; rfl
 ·exact hr.other hset (fun g hg' e=>by have:=hown g hg'; simp at e; omega)
set_option maxRecDepth 100000 in
set_option maxHeartbeats 2000000 in
theorem kfact_w (kd a v0 v1 v2 v3:Int) (ha:I64 a) (h0:I64 v0) (h1:I64 v1) (h2:I64 v2) (h3:I64 v3) (w:World) :
  Calls Tryz.prog 19 #[.agg #[.int .i64 kd,.int .i64 a,.int .i64 v0,.int .i64 v1,.int .i64 v2,.int .i64 v3]] w fun e w'=>∃ ao cap,e=.returned (.agg #[.int .i64 (Sv.kfact a v0 v1 v2 v3).kind,.slice ao (Sv.kfact a v0 v1 v2 v3).vals.length cap])∧w.grownBy w' none∧IsAt w.heap.size (.slice ao (Sv.kfact a v0 v1 v2 v3).vals.length cap) (Sv.kfact a v0 v1 v2 v3).vals w':=by
 have hp:=fun (wx:World)=>kpick_w a 3 ha (by omega) (by omega) wx
 have hp3:=fun (wx:World)=>kpick_w v3 4 h3 (by omega) (by omega) wx
 have hr3:=Sv.pick_rng v3 4 (by omega)
 obtain ⟨n,hn⟩:∃ n:Nat,Sv.pick v3 4=n:=⟨(Sv.pick v3 4).toNat,by omega⟩
 have hkl:(Sv.kfact a v0 v1 v2 v3).vals.length=n:=by rw [Sv.kfact_len,hn]; rfl
 have hkv:∀ i,i < n→∃ v,[v0,v1,v2][i]?=some v∧I64 v∧(Sv.kfact a v0 v1 v2 v3).vals.take (i+1)=(Sv.kfact a v0 v1 v2 v3).vals.take i ++ [Sv.pick v 3]:=by
  intro i hi
  have hg:∀ i,i < 3→∃ v,[v0,v1,v2][i]?=some v∧I64 v:=by
   intro i hi
   match i,hi with
   | 0,_=>exact ⟨v0,rfl,h0⟩
   | 1,_=>exact ⟨v1,rfl,h1⟩
   | 2,_=>exact ⟨v2,rfl,h2⟩
  obtain ⟨v,k1,k2⟩:=hg i (by omega)
  refine ⟨v,k1,k2,?_⟩
  rw [List.take_add_one]
  congr 1
  unfold Sv.kfact
  simp only
  rw [List.getElem?_take_of_lt (by omega),List.getElem?_map,k1]
  rfl
 rw [hn] at hp3 hr3
 have hI0:KfI w kd a v0 v1 v2 v3 (Sv.kfact a v0 v1 v2 v3).kind ((Sv.kfact a v0 v1 v2 v3).vals.take 0) (.slice none 0 0) (((w.alloc (.cells #[.int .i64 kd,.int .i64 a,.int .i64 v0,.int .i64 v1,.int .i64 v2,.int .i64 v3] 41)).alloc (.cells #[.int .i64 0,.slice none 0 0] 37)).alloc (.cells #[.int .i64 (Sv.pick a 3),.slice none 0 0] 37)):=by
  have g1:=World.grownBy_alloc w (.cells #[.int .i64 kd,.int .i64 a,.int .i64 v0,.int .i64 v1,.int .i64 v2,.int .i64 v3] 41) none
  have x1:=heap_alloc_new w (.cells #[.int .i64 kd,.int .i64 a,.int .i64 v0,.int .i64 v1,.int .i64 v2,.int .i64 v3] 41)
  have s1:(w.alloc (.cells #[.int .i64 kd,.int .i64 a,.int .i64 v0,.int .i64 v1,.int .i64 v2,.int .i64 v3] 41)).heap.size=w.heap.size+1:=by simp
  generalize w.alloc (.cells #[.int .i64 kd,.int .i64 a,.int .i64 v0,.int .i64 v1,.int .i64 v2,.int .i64 v3] 41)=w1 at g1 x1 s1 ⊢
  have g2:=World.grownBy_alloc w1 (.cells #[.int .i64 0,.slice none 0 0] 37) none
  have x2:=heap_alloc_new w1 (.cells #[.int .i64 0,.slice none 0 0] 37)
  have s2:(w1.alloc (.cells #[.int .i64 0,.slice none 0 0] 37)).heap.size=w.heap.size+1+1:=by simp [s1]
  rw [s1] at x2
  generalize w1.alloc (.cells #[.int .i64 0,.slice none 0 0] 37)=w2 at g2 x2 s2 ⊢
  have g3:=World.grownBy_alloc w2 (.cells #[.int .i64 (Sv.pick a 3),.slice none 0 0] 37) none
  have x3:=heap_alloc_new w2 (.cells #[.int .i64 (Sv.pick a 3),.slice none 0 0] 37)
  rw [s2] at x3
  exact ⟨gr_trans g1 (gr_trans g2 g3),by rw [(gr_trans g2 g3).block _ (row_lt x1) (by simp)]; exact x1,by rw [g3.block _ (row_lt x2) (by simp)]; exact x2,x3,RowAt.nil 0 _ ienc_len,by simp [Value.ownBlock]⟩
 have HI0:=hide hI0
 have HKV:=hide hkv
 have HKL:=hide hkl
 clear hI0 hkv hkl hn
 go_enter Tryz.func19,Tryz.ntmps19
 go_wp2_with (first | (go_at_call 31; refine (hp _).mono ?_; rintro e w1 ⟨rfl,rfl⟩))
 go_loopw [4] (fun x w'=>∃ (i:Nat) (v:Value),i≤n∧x=.int .i64 i∧Hid (KfI w kd a v0 v1 v2 v3 (Sv.kfact a v0 v1 v2 v3).kind ((Sv.kfact a v0 v1 v2 v3).vals.take i) v w')) (fun x _=>n - (intOf x).toNat)
 case atStart=>exact ⟨0,_,Nat.zero_le _,rfl,HI0⟩
 case round=>
  clear HI0 hp
  obtain ⟨i,v,hi,rfl,HK⟩:=hrel
  have hI:=unhide HK
  have c5:wr.cell? ⟨w.heap.size,5,none⟩=some (.int .i64 v3):=by simp [World.cell?,hI.sb]
  by_cases hlt:i < n
  ·have hd:decide (i < n)=true:=by simpa using hlt
   obtain ⟨x,hx,hx64,htake⟩:=unhide HKV i hlt
   have hil:((Sv.kfact a v0 v1 v2 v3).vals.take i).length=i:=by rw [List.length_take,unhide HKL]; omega
   obtain ⟨ao,cap,hv⟩:=hI.row.slice
   rw [hil] at hv
   subst hv
   have cx:wr.cell? ⟨w.heap.size,2+i,none⟩=some (.int .i64 x):=by
    simp only [World.cell?,hI.sb]
    match i,hlt with
    | 0,_=>simpa using hx
    | 1,_=>simpa using hx
    | 2,_=>simpa using hx
    | i+3,h=>omega
   have cv:wr.cell? ⟨w.heap.size+1+1,1,none⟩=some (.slice ao i cap):=by simp [World.cell?,hI.box]
   have hpx:∀ wx,wr.grownBy wx none→Calls Tryz.prog 31 #[.int .i64 x,.int .i64 3] wx fun e w3=>e=.returned (.int .i64 (Sv.pick x 3))∧wx.grownBy w3 none∧w3.cell? ⟨w.heap.size+1+1,1,none⟩=some (.slice ao i cap)∧w3.cell? ⟨w.heap.size,2+i,none⟩=some (.int .i64 x):=by
    intro wx hwx
    refine (kpick_w x 3 hx64 (by omega) (by omega) wx).mono ?_
    rintro e w3 ⟨rfl,rfl⟩
    exact ⟨rfl,World.grownBy.refl _ _,hwx.cell cv (by simp),hwx.cell cx (by simp)⟩
   have hi4:(i:Int) < 4:=by omega
   obtain ⟨l,hll⟩:∃ l,(Sv.kfact a v0 v1 v2 v3).vals.take i=l:=⟨_,rfl⟩
   rw [hll] at hI htake hil
   have hrow:∀ wy,wr.grownBy wy none→RowAt 3 1 ienc 0 (.slice ao i cap) l wy:=fun wy h=>hI.row.gr h
   have hsrc:∀ (w3:World) (z:Int),RowAt 3 1 ienc 0 (.slice (some ⟨w3.heap.size,0,none⟩) 1 1) [z] (w3.alloc (.cells #[.int .i64 z] 3)):=fun w3 z=>(RowAt.lit1 (e:=3) ienc_len w3 z #[.int .i64 z] rfl).weak (Nat.zero_le _)
   have hend:∀ w4 w5 v' n m,wr.grownBy w4 none→Longer (.slice ao i cap) v' n m w4 w5→RowAt 3 1 ienc 0 v' (l ++ [Sv.pick x 3]) w5→(w5.cell? ⟨w.heap.size+1+1,1,none⟩=some (.slice ao i cap)∧w5.frozen? ⟨w.heap.size+1+1,1,none⟩=false)∧KfI w kd a v0 v1 v2 v3 (Sv.kfact a v0 v1 v2 v3).kind ((Sv.kfact a v0 v1 v2 v3).vals.take (i+1)) v' (w5.setCell ⟨w.heap.size+1+1,1,none⟩ v'):=fun w4 w5 v' n m hg4 hl5 hr5=>by
    rw [htake]
    exact hI.step hg4 hl5 hr5
   have HROW:=hide hrow
   have HSRC:=hide hsrc
   have HEND:=hide hend
   have HIL:=hide hil
   clear hrow hsrc hend hil hI HK htake hx hx64 hll
   go_wp2_with (first | (go_at_call 31; refine (hp3 _).mono ?_; rintro e w1 ⟨rfl,rfl⟩))
   go_region_law
    (first
     | (go_simp; go_at_call 31; refine (hpx _ (by repeat (first | with_reducible exact World.grownBy.refl _ _ | with_reducible apply gr_drew))).mono ?_; rintro e w3 ⟨rfl,hg3,y3,z3⟩; have y4:=(World.grownBy_alloc w3 (.cells #[.int .i64 (Sv.pick x 3)] 3) none).cell y3 (by simp))
     | (refine app_two_step (by rfl) _ _ 35 (by rfl) Tryz.underlying35 Tryz.infoInt rfl (by decide) (by simp [Act.eval]) (unhide HROW _ (gr_alK (gr_trans (by repeat (first | with_reducible exact World.grownBy.refl _ _ | with_reducible apply gr_drew)) hg3) _)) (by simp [Act.eval]) (unhide HSRC _ _) (by simp) (fun y _=>ienc_one y) (by unfold maxLen; rw [unhide HIL]; simp; omega) (by rw [unhide HIL]; simp; omega) ?_; intro v5 w5 hv5 hl5; obtain ⟨g5,cap5,rfl⟩:=hl5.form; obtain ⟨⟨y5,yf5⟩,hI5⟩:=unhide HEND _ _ _ _ _ (gr_alK (gr_trans (by repeat (first | with_reducible exact World.grownBy.refl _ _ | with_reducible apply gr_drew)) hg3) _) hl5 hv5; have HI5:=hide hI5; clear hI5))
   all_goals
    clear hv5 hl5 HEND HROW HSRC hpx y5 yf5 y3 y4 z3 hg3
    go_wp2
    go_roundw
    case rel=>exact ⟨i+1,_,by omega,by go_num,HI5⟩
    case measure=>simp [intOf]; omega
  ·have hd:decide (i < n)=false:=by simpa using hlt
   have hin:i=n:=by omega
   subst hin
   rw [List.take_of_length_le (by rw [unhide HKL]; exact Nat.le_refl _)] at hI
   obtain ⟨ao,cap,hv⟩:=hI.row.slice
   rw [unhide HKL] at hv
   subst hv
   have b0:wr.cell? ⟨w.heap.size+1+1,0,none⟩=some (.int .i64 (Sv.kfact a v0 v1 v2 v3).kind):=by simp [World.cell?,hI.box]
   have b1:wr.cell? ⟨w.heap.size+1+1,1,none⟩=some (.slice ao i cap):=by simp [World.cell?,hI.box]
   have r0:wr.cell? ⟨w.heap.size+1,0,none⟩=some (.int .i64 0):=by simp [World.cell?,hI.rb]
   have r1:wr.cell? ⟨w.heap.size+1,1,none⟩=some (.slice none 0 0):=by simp [World.cell?,hI.rb]
   have f0:wr.frozen? ⟨w.heap.size+1,0,none⟩=false:=by simp [World.frozen?,hI.rb]
   have f1:wr.frozen? ⟨w.heap.size+1,1,none⟩=false:=by simp [World.frozen?,hI.rb]
   have k2:=gr_set2 wr (w.heap.size+1) (.int .i64 (Sv.kfact a v0 v1 v2 v3).kind) (.slice ao i cap)
   have hRb:C2 37 (w.heap.size+1) (.int .i64 0) (.slice none 0 0) wr:=hI.rb
   obtain ⟨z0,z1⟩:=(hRb.set2 (.int .i64 (Sv.kfact a v0 v1 v2 v3).kind) (.slice ao i cap)).c
   have hown:=hI.own
   have hv2:IsAt w.heap.size (.slice ao i cap) (Sv.kfact a v0 v1 v2 v3).vals ((wr.setCell ⟨w.heap.size+1,0,none⟩ (.int .i64 (Sv.kfact a v0 v1 v2 v3).kind)).setCell ⟨w.heap.size+1,1,none⟩ (.slice ao i cap)):=by
    have h:=hI.row.other k2 (fun g hg e=>by have:=hown g hg; simp at e; omega)
    refine ⟨h.1,h.2.1,?_⟩
    rcases h.2.2 with ⟨e1,e2⟩ | ⟨g,cp,cur,e1,e2,e3,e4⟩
    ·exact .inl ⟨e1,e2⟩
    ·exact .inr ⟨g,cp,cur,e1,by have:=hown g (by rw [e1]; rfl); omega,e3,e4⟩
   have HG:=hide (gr_own hI.gr k2 (by omega))
   have HV:=hide hv2
   clear hv2 hown k2 hRb hI HK
   go_wp2_with (first | (go_at_call 31; refine (hp3 _).mono ?_; rintro e w1 ⟨rfl,rfl⟩))
   exact bodyPost_ret (v:=.agg #[.int .i64 (Sv.kfact a v0 v1 v2 v3).kind,.slice ao i cap]) (by simp [results,Tryz.results19,go_sem,z0,z1]) rfl ⟨ao,cap,by rw [unhide HKL],unhide HG,by rw [unhide HKL]; exact unhide HV⟩
end Go.Proofs.YtolhbeekfjnfmaaGreatDoor
namespace Go.Proofs.YtolhbeekfjnfmaaGreatDoor
open Go.RowKit
def Sv.exT:List UInt8:=[112,58,40,49,32,120,32,121,41,40,50,32,121,41,59,113,58,40,49,32,120,32,120,41,33,40,50,32,120,41,59]
def Sv.exR2:List Sv.Rule:=[⟨[112],[⟨false,1,[⟨1,120,0⟩,⟨1,121,0⟩]⟩,⟨false,2,[⟨1,121,0⟩]⟩]⟩,⟨[113],[⟨false,1,[⟨1,120,0⟩,⟨1,120,0⟩]⟩,⟨true,2,[⟨1,120,0⟩]⟩]⟩]
theorem Sv.exT_net:Sv.netOf Sv.exT=.inr Sv.exR2:=by rfl
def Sv.ex0:Sv.St:=⟨Sv.exR2,[],0,[]⟩
def Sv.ex1:Sv.St:=⟨Sv.exR2,[(1,⟨1,[5,6]⟩)],1,[]⟩
def Sv.ex2:Sv.St:=⟨Sv.exR2,[(1,⟨1,[5,6]⟩),(2,⟨2,[6]⟩)],2,[]⟩
theorem Sv.ex0_add:Sv.ex0.add ⟨1,[5,6]⟩=((1,0),Sv.ex1):=by rfl
theorem Sv.ex1_add:Sv.ex1.add ⟨2,[6]⟩=((2,0),Sv.ex2):=by rfl
theorem Sv.ex2_mats:Sv.matches Sv.ex2.rs Sv.ex2.L=[(0,[1,2])]:=by rfl
theorem addNew (T:Nat→Nat) (t x:Nat) (s:Sv.St) (f:Sv.Fact) (fa:Option Addr) (fc:Nat) (w1 w2:World) (h:XT T t x s w1) (ht:t≠0) (hc1:s.cnt≤4611686018427387904) (hg:w1.grownBy w2 none) (hin:InAt (.slice fa f.vals.length fc) f.vals w2) (hl:f.vals.length≤maxLen) (hnew:∀ g,(Value.slice fa f.vals.length fc).ownBlock=some g→w1.heap.size≤g) :
  Calls Tryz.prog 18 #[.pointer (some ⟨x,0,none⟩),.agg #[.int .i64 f.kind,.slice fa f.vals.length fc]] w2 fun e w3=>e=.returned (.tuple #[.int .i64 (s.add f).1.1,.int .i64 (s.add f).1.2])∧GrS (fun k=>T k=t) w1 w3∧∃ T',XT T' t x (s.add f).2 w3∧∀ k,k < w1.heap.size→T' k=T k:=by
 obtain ⟨T2,hT2⟩:∃ T2:Nat→Nat,T2=fun k=>if k < w1.heap.size then T k else 0:=⟨_,rfl⟩
 have t0:∀ k,k < w1.heap.size→T2 k=T k:=fun k hk=>by rw [hT2]; dsimp only; rw [if_pos hk]
 have t1:∀ k,w1.heap.size≤k→T2 k=0:=fun k hk=>by rw [hT2]; dsimp only; rw [if_neg (by omega)]
 refine (xAddT T2 t x s f fa fc w2 (h.gr hg t0) hc1 hin hl (fun g hg'=>by rw [t1 g (hnew g hg')]; exact fun e=>ht e.symm)).mono ?_
 rintro e w3 ⟨rfl,hG,T',hX,hT'⟩
 refine ⟨rfl,(GrS.of hg (by simp):GrS (fun k=>T k=t) w1 w2).comp hG (fun i hi hn=>by rw [t0 i hi]; exact hn),T',hX,fun k hk=>by rw [hT' k (Nat.lt_of_lt_of_le hk hg.size),t0 k hk]⟩
theorem inAt_lit (w:World) (l:List Int) (cs:Array Value) (hc:cs.toList=l.map (fun z=>Value.int .i64 z)) (hl:l.length≤maxLen):InAt (.slice (some ⟨w.heap.size,0,none⟩) l.length l.length) l (w.alloc (.cells cs 3)):=by
 refine .inr ⟨_,_,rfl,hl,fun i x hx=>⟨w.heap.size,0,rfl,?_⟩⟩
 have h:=heap_alloc_new w (.cells cs 3)
 simp only [World.cell?,h,Nat.zero_add]
 have:cs[i]?=cs.toList[i]?:=by simp
 rw [this,hc,List.getElem?_map,hx]
 rfl
theorem inAt_lit2 (w:World) (a b:Int):InAt (.slice (some ⟨w.heap.size,0,none⟩) 2 2) [a,b] (w.alloc (.cells #[.int .i64 a,.int .i64 b] 3)):=inAt_lit w [a,b] _ rfl (by unfold maxLen; simp)
theorem inAt_lit1 (w:World) (a:Int):InAt (.slice (some ⟨w.heap.size,0,none⟩) 1 1) [a] (w.alloc (.cells #[.int .i64 a] 3)):=inAt_lit w [a] _ rfl (by unfold maxLen; simp)
theorem Hand.mtAt {T:Nat→Nat} {v:Value} {xs:List VFt} {w:World} (h:Hand T 52 v xs w):MtAt v xs w:=⟨h.row.1,fun m hm=>by
 obtain ⟨i,hi⟩:=List.getElem?_of_mem hm
 exact (h.els i m hi).1.1⟩
theorem grown_of {T:Nat→Nat} {t:Nat} {w w1 w2:World} (hg:w.grownBy w1 none) (hG:GrS (fun k=>T k=t) w1 w2) (hT:∀ k,k < w.heap.size→T k≠t):w.grownBy w2 none:=
 GrS.grown ((GrS.of hg (by simp):GrS (fun _=>False) w w1).comp hG (fun i hi _ h=>hT i hi h)) (fun _ _ h=>h)
set_option maxRecDepth 100000 in
set_option maxHeartbeats 1000000 in
theorem kbegun_w (aT aL:Addr) (w:World) (hL:LD aT aL w) (hP:3 < w.heap.size) :
  Calls Tryz.prog 15 #[] w fun e w'=>e=.returned (.bool true)∧w.grownBy w' none:=by
 have hN:=xNewT (fun _=>0) 1 ⟨Sv.exT.toArray⟩ aT aL w hL hP (by decide)
 rw [show Sv.netOf (ByteArray.mk Sv.exT.toArray).data.toList=.inr Sv.exR2 from Sv.exT_net] at hN
 simp only at hN
 unfold Sv.exT at hN
 clear hL hP
 go_enter Tryz.func15,Tryz.ntmps15
 go_wp2_with (go_at_call 17; refine hN.mono ?_; rintro e w1 ⟨hg1,T1,x,rfl,hX1,hxw,hT1⟩)
 clear hN
 have hA1:=addNew T1 1 x Sv.ex0 ⟨1,[5,6]⟩ _ _ w1 _ hX1 (by decide) (by decide) (World.grownBy_alloc w1 (.cells #[.int .i64 5,.int .i64 6] 3) none) (inAt_lit2 w1 5 6) (by unfold maxLen; decide) (fun g hg=>by cases hg; exact Nat.le_refl _)
 rw [Sv.ex0_add] at hA1
 replace hA1:Calls Tryz.prog 18 #[.pointer (some ⟨x,0,none⟩),.agg #[.int .i64 1,.slice (some ⟨w1.heap.size,0,none⟩) 2 2]] (w1.alloc (.cells #[.int .i64 5,.int .i64 6] 3)) fun e w3=>e=.returned (.tuple #[.int .i64 1,.int .i64 0])∧GrS (fun k=>T1 k=1) w1 w3∧∃ T',XT T' 1 x Sv.ex1 w3∧∀ k,k < w1.heap.size→T' k=T1 k:=hA1
 have HB1:=hide (show w.grownBy w1 none∧w.heap.size≤x∧∀ k,k < w.heap.size→T1 k=0 from ⟨hg1,hxw,hT1⟩)
 clear hX1 hg1 hxw hT1
 refine hA1.mono ?_
 rintro e w2 ⟨rfl,hG2,T2,hX2,hT2⟩
 obtain ⟨hg1,hxw,hT1⟩:=unhide HB1
 have hg2:w.grownBy w2 none:=grown_of hg1 hG2 (fun k hk=>by rw [hT1 k hk]; decide)
 have hT2':∀ k,k < w.heap.size→T2 k=0:=fun k hk=>by rw [hT2 k (Nat.lt_of_lt_of_le hk hg1.size),hT1 k hk]
 have hA2:=addNew T2 1 x Sv.ex1 ⟨2,[6]⟩ _ _ w2 _ hX2 (by decide) (by decide) (World.grownBy_alloc w2 (.cells #[.int .i64 6] 3) none) (inAt_lit1 w2 6) (by unfold maxLen; decide) (fun g hg=>by cases hg; exact Nat.le_refl _)
 rw [Sv.ex1_add] at hA2
 replace hA2:Calls Tryz.prog 18 #[.pointer (some ⟨x,0,none⟩),.agg #[.int .i64 2,.slice (some ⟨w2.heap.size,0,none⟩) 1 1]] (w2.alloc (.cells #[.int .i64 6] 3)) fun e w3=>e=.returned (.tuple #[.int .i64 2,.int .i64 0])∧GrS (fun k=>T2 k=1) w2 w3∧∃ T',XT T' 1 x Sv.ex2 w3∧∀ k,k < w2.heap.size→T' k=T2 k:=hA2
 have HB2:=hide (show w.grownBy w2 none∧∀ k,k < w.heap.size→T2 k=0 from ⟨hg2,hT2'⟩)
 clear hA1 hX2 hg1 hxw hT1 hG2 hT2 hg2 hT2' HB1
 go_wp2_with fail
 refine hA2.mono ?_
 rintro e w3 ⟨rfl,hG3,T3,hX3,hT3⟩
 obtain ⟨hg2,hT2⟩:=unhide HB2
 have hg3:w.grownBy w3 none:=grown_of hg2 hG3 (fun k hk=>by rw [hT2 k hk]; decide)
 have hM:=xMatsT T3 1 x Sv.ex2 w3 hX3
 rw [Sv.ex2_mats] at hM
 clear hA2 hX3 HB2 hG3 hT3 hg2 hT2
 go_wp2_with fail
 refine hM.mono ?_
 rintro e w4 ⟨T4,l,xs,rfl,hg4,hH,hxs,hT4⟩
 have hgF:=gr_trans hg3 hg4
 obtain ⟨m,rfl⟩:∃ m,xs=[m]:=by
  have:=congrArg List.length hxs
  rw [List.length_map] at this
  exact List.length_eq_one_iff.1 this
 simp only [List.map_cons,List.map_nil,List.cons.injEq,Prod.mk.injEq,and_true] at hxs
 obtain ⟨hk,hv⟩:=hxs
 obtain ⟨g,cap,rfl,hcs⟩:=hH.row.1.cells (k:=0) (a:=m) rfl
 have q0:w4.cell? ⟨g,0,none⟩=some (.int .i64 0):=by have:w4.cell? ⟨g,0,none⟩=some (.int .i64 m.kind):=hcs 0 (by omega); rw [hk] at this; exact this
 have q1:w4.cell? ⟨g,1,none⟩=some m.v:=hcs 1 (by omega)
 have hrow:=(hH.els 0 m rfl).1.1
 rw [hv] at hrow
 obtain ⟨g2,cap2,hm2,hcs2⟩:=hrow.cells (k:=0) (a:=1) rfl
 obtain ⟨g3,cap3,hm3,hcs3⟩:=hrow.cells (k:=1) (a:=2) rfl
 rw [hm2] at q1 hm3
 simp only [Value.slice.injEq,Option.some.injEq,Addr.mk.injEq,and_true,true_and] at hm3
 obtain ⟨rfl,rfl⟩:=hm3
 have r0:w4.cell? ⟨g2,0,none⟩=some (.int .i64 1):=hcs2 0 (by omega)
 have r1:w4.cell? ⟨g2,1,none⟩=some (.int .i64 2):=hcs3 0 (by omega)
 simp only [List.length_cons,List.length_nil,Nat.zero_add,Nat.reduceAdd] at q1 ⊢
 clear hH hcs hcs2 hcs3 hrow hM hT4 hg3 hg4 hm2 hk hv
 go_wp2
 go_ret
 exact ⟨rfl,hgF⟩
end Go.Proofs.YtolhbeekfjnfmaaGreatDoor
namespace Go.Proofs.YtolhbeekfjnfmaaGreatDoor
def Sv.rd (l:List UInt8) (i:Nat) (xs:List UInt8):Prop:=xs <+: l.drop i
theorem Sv.rd_app {l xs ys:List UInt8} {i:Nat} (h:Sv.rd l i (xs ++ ys)):Sv.rd l i xs∧Sv.rd l (i+xs.length) ys:=by
 obtain ⟨t,ht⟩:=h
 refine ⟨⟨ys ++ t,by rw [←ht,List.append_assoc]⟩,⟨t,?_⟩⟩
 rw [←List.drop_drop,←ht,List.append_assoc,List.drop_left']
 rfl
theorem Sv.rd_cons {l xs:List UInt8} {x:UInt8} {i:Nat} (h:Sv.rd l i (x :: xs)):Sv.pk l i=x∧i < l.length∧Sv.rd l (i+1) xs:=by
 have h2:=Sv.rd_app (xs:=[x]) (ys:=xs) h
 obtain ⟨t,ht⟩:=h
 have hi:i < l.length:=by
  have:=congrArg List.length ht
  simp at this
  omega
 refine ⟨?_,hi,h2.2⟩
 rw [Sv.pk_at l i hi]
 rw [List.drop_eq_getElem_cons hi,List.cons_append] at ht
 exact (List.cons.inj ht).1.symm
theorem Sv.rd_len {l xs:List UInt8} {i:Nat} (h:Sv.rd l i xs):xs.length≤l.length - i:=by
 have:=h.length_le
 rw [List.length_drop] at this
 exact this
theorem Sv.rd_self (l:List UInt8):Sv.rd l 0 l:=by unfold Sv.rd; rw [List.drop_zero]; exact List.prefix_refl _
def Sv.dv (v:Nat) (ds:List UInt8):Nat:=ds.foldl (fun v c=>v * 10+(c.toNat - 48)) v
theorem Sv.dig_of (d:Nat) (h:d < 10):Sv.digB (UInt8.ofNat (48+d))=true∧(UInt8.ofNat (48+d)).toNat=48+d:=by
 have e:(UInt8.ofNat (48+d)).toNat=48+d:=by rw [UInt8.toNat_ofNat']; omega
 refine ⟨?_,e⟩
 unfold Sv.digB
 rw [e]
 simp
 omega
theorem Sv.dd_dig (n:Nat):∀ c∈Lib.decDigits n,Sv.digB c=true:=by
 induction n using Nat.strongRecOn with
 | _ n ih=>
  intro c hc
  rw [Lib.decDigits] at hc
  split at hc
  ·simp only [List.mem_singleton] at hc
   rw [hc]
   exact (Sv.dig_of n (by omega)).1
  ·rcases List.mem_append.1 hc with h | h
   ·exact ih (n / 10) (by omega) c h
   ·simp only [List.mem_singleton] at h
    rw [h]
    exact (Sv.dig_of (n % 10) (by omega)).1
theorem Sv.dd_val (n:Nat):Sv.dv 0 (Lib.decDigits n)=n:=by
 induction n using Nat.strongRecOn with
 | _ n ih=>
  rw [Lib.decDigits]
  split
  ·unfold Sv.dv
   simp only [List.foldl_cons,List.foldl_nil]
   rw [(Sv.dig_of n (by omega)).2]
   omega
  ·unfold Sv.dv
   rw [List.foldl_append]
   have:=ih (n / 10) (by omega)
   unfold Sv.dv at this
   rw [this]
   simp only [List.foldl_cons,List.foldl_nil]
   rw [(Sv.dig_of (n % 10) (by omega)).2]
   omega
theorem Sv.dd_len (k:Nat):∀ n,n < 10 ^ (k+1)→(Lib.decDigits n).length≤k+1:=by
 induction k with
 | zero=>
  intro n hn
  rw [Lib.decDigits]
  rw [dif_pos (by omega)]
  exact Nat.le_refl _
 | succ k ih=>
  intro n hn
  rw [Lib.decDigits]
  split
  ·simp
  ·have:n / 10 < 10 ^ (k+1):=by rw [Nat.div_lt_iff_lt_mul (by omega)]; rw [Nat.pow_succ] at hn; exact hn
   have:=ih (n / 10) this
   rw [List.length_append,List.length_singleton]
   omega
theorem Sv.dd_ne (n:Nat):Lib.decDigits n≠[]:=by
 rw [Lib.decDigits]
 split<;>simp
theorem Sv.nd_run (m:Nat) (l:List UInt8):∀ (ds:List UInt8) (v i:Nat),(∀ c∈ds,Sv.digB c=true)→Sv.rd l i ds→Sv.ndF (ds.length+m) l v i=Sv.ndF m l (Sv.dv v ds) (i+ds.length)
 | [],v,i,_,_=>by rw [List.length_nil,Nat.zero_add]; rfl
 | d :: ds,v,i,hd,hr=>by
  obtain ⟨h1,_,h3⟩:=Sv.rd_cons hr
  rw [List.length_cons,show ds.length+1+m=(ds.length+m)+1 by omega,Sv.ndF_step,h1,if_pos (hd d (List.mem_cons_self ..)),Sv.nd_run m l ds _ (i+1) (fun c hc=>hd c (List.mem_cons_of_mem _ hc)) h3]
  unfold Sv.dv
  rw [List.foldl_cons,show i+1+ds.length=i+(ds.length+1) by omega]
theorem Sv.nd_stop (m:Nat) (l:List UInt8) (v i:Nat) (h:Sv.digB (Sv.pk l i)=false):Sv.ndF m l v i=(v,i):=by
 cases m with
 | zero=>rfl
 | succ m=>rw [Sv.ndF_step,h,if_neg (by simp)]
theorem Sv.nd_dd (l:List UInt8) (n i:Nat) (hn:n < 1000000000) (hr:Sv.rd l i (Lib.decDigits n)) (he:Sv.digB (Sv.pk l (i+(Lib.decDigits n).length))=false):Sv.ndF 9 l 0 i=(n,i+(Lib.decDigits n).length):=by
 have h1:=Sv.dd_len 8 n hn
 rw [show 9=(Lib.decDigits n).length+(9 - (Lib.decDigits n).length) by omega,Sv.nd_run _ l _ 0 i (Sv.dd_dig n) hr,Sv.nd_stop _ _ _ _ he,Sv.dd_val]
theorem Sv.number_rd (l:List UInt8) (z:Int) (i:Nat) (h1:-1000000000 < z) (h2:z < 1000000000) (hr:Sv.rd l i (Lib.itoa z)) (he:Sv.digB (Sv.pk l (i+(Lib.itoa z).length))=false) :
  (Sv.pk l i == 45 || Sv.digB (Sv.pk l i))=true∧Sv.number l i=.inr (⟨2,0,z⟩,i+(Lib.itoa z).length):=by
 unfold Lib.itoa at hr he ⊢
 have hl:∀ n,0 < (Lib.decDigits n).length:=fun n=>List.length_pos_iff.2 (Sv.dd_ne n)
 by_cases hz:z < 0
 ·rw [if_pos hz] at hr he ⊢
  obtain ⟨k1,_,k3⟩:=Sv.rd_cons hr
  rw [List.length_cons] at he ⊢
  have hnd:=Sv.nd_dd l z.natAbs (i+1) (by omega) k3 (by rw [show i+1+(Lib.decDigits z.natAbs).length=i+((Lib.decDigits z.natAbs).length+1) by omega]; exact he)
  refine ⟨by rw [k1]; rfl,?_⟩
  unfold Sv.number
  rw [k1]
  simp only [beq_self_eq_true,if_true]
  rw [hnd]
  have:=hl z.natAbs
  rw [if_neg (by simp only; omega)]
  simp only [Sum.inr.injEq,Prod.mk.injEq,Sv.Term.mk.injEq,true_and]
  exact ⟨by omega,by omega⟩
 ·rw [if_neg hz] at hr he ⊢
  have hd:Sv.digB (Sv.pk l i)=true:=by
   cases hx:Lib.decDigits z.toNat with
   | nil=>exact absurd hx (Sv.dd_ne _)
   | cons c cs=>
    rw [hx] at hr
    rw [(Sv.rd_cons hr).1]
    exact Sv.dd_dig z.toNat c (by rw [hx]; exact List.mem_cons_self ..)
  have h45:(Sv.pk l i == 45)=false:=by
   cases hx:Sv.pk l i == 45
   ·rfl
   ·rw [beq_iff_eq] at hx
    rw [hx] at hd
    simp [Sv.digB] at hd
  have hnd:=Sv.nd_dd l z.toNat i (by omega) hr he
  refine ⟨by rw [hd,Bool.or_true],?_⟩
  unfold Sv.number
  rw [h45]
  simp only [Bool.false_eq_true,if_false]
  rw [hnd]
  have:=hl z.toNat
  rw [if_neg (by simp only; omega)]
  simp only [Sum.inr.injEq,Prod.mk.injEq,Sv.Term.mk.injEq,true_and,and_true]
  omega
def Sv.tCan (t:Sv.Term):Prop:=t=⟨0,0,0⟩∨(∃ c,Sv.letB c=true∧t=⟨1,c,0⟩)∨∃ z:Int,-1000000000 < z∧z < 1000000000∧t=⟨2,0,z⟩
theorem Sv.let_rng' (c:UInt8) (h:Sv.letB c=true):97≤c.toNat∧c.toNat≤122:=by simpa [Sv.letB] using h
theorem Sv.ne_of_toNat {c d:UInt8} (h:c.toNat≠d.toNat):(c == d)=false:=by
 cases hx:c == d
 ·rfl
 ·rw [beq_iff_eq] at hx
  exact absurd (by rw [hx]) h
theorem Sv.term_rd (l:List UInt8) (t:Sv.Term) (i:Nat) (ht:Sv.tCan t) (hr:Sv.rd l (i+1) (Sv.plT t)) (hb:Sv.pk l i=32) (he:Sv.digB (Sv.pk l (i+1+(Sv.plT t).length))=false) :
  Sv.blB (Sv.pk l (i+1))=false∧(Sv.pk l (i+1) == 41)=false∧Sv.term l (i+1)=.inr (t,i+1+(Sv.plT t).length):=by
 rcases ht with rfl | ⟨c,hc,rfl⟩ | ⟨z,h1,h2,rfl⟩
 ·have e:Sv.plT ⟨0,0,0⟩=[95]:=rfl
  rw [e] at hr ⊢
  have k:=(Sv.rd_cons hr).1
  rw [k]
  refine ⟨rfl,rfl,?_⟩
  unfold Sv.term
  rw [k]
  rfl
 ·have e:Sv.plT ⟨1,c,0⟩=[c]:=rfl
  rw [e] at hr ⊢
  have k:=(Sv.rd_cons hr).1
  have hn:=Sv.let_rng' c hc
  rw [k]
  refine ⟨?_,Sv.ne_of_toNat (by show c.toNat≠41; omega),?_⟩
  ·unfold Sv.blB
   rw [Sv.ne_of_toNat (show c.toNat≠(32:UInt8).toNat by show c.toNat≠32; omega),Sv.ne_of_toNat (show c.toNat≠(10:UInt8).toNat by show c.toNat≠10; omega)]
   rfl
  ·unfold Sv.term
   rw [k,Sv.ne_of_toNat (show c.toNat≠(95:UInt8).toNat by show c.toNat≠95; omega),hc]
   rfl
 ·have e:Sv.plT ⟨2,0,z⟩=Lib.itoa z:=rfl
  rw [e] at hr he ⊢
  obtain ⟨k1,k2⟩:=Sv.number_rd l z (i+1) h1 h2 hr he
  have hrng:(Sv.pk l (i+1)).toNat=45∨48≤(Sv.pk l (i+1)).toNat∧(Sv.pk l (i+1)).toNat≤57:=by
   rw [Bool.or_eq_true] at k1
   rcases k1 with k | k
   ·rw [beq_iff_eq] at k
    rw [k]
    exact .inl rfl
   ·exact .inr (Sv.dig_rng _ k)
  refine ⟨?_,Sv.ne_of_toNat (by show _≠41; omega),?_⟩
  ·unfold Sv.blB
   rw [Sv.ne_of_toNat (show (Sv.pk l (i+1)).toNat≠(32:UInt8).toNat by show _≠32; omega),Sv.ne_of_toNat (show (Sv.pk l (i+1)).toNat≠(10:UInt8).toNat by show _≠10; omega)]
   rfl
  ·have hlet:Sv.letB (Sv.pk l (i+1))=false:=by
    unfold Sv.letB
    simp
    omega
   have hbe:Sv.behind l (i+1)=false:=by
    unfold Sv.behind
    rw [show i+1 - 1=i by omega,hb]
    rfl
   unfold Sv.term
   rw [Sv.ne_of_toNat (show (Sv.pk l (i+1)).toNat≠(95:UInt8).toNat by show _≠95; omega),hlet,hbe]
   simp only [Bool.false_eq_true,if_false,Bool.not_false,Bool.and_true]
   rw [if_pos k1]
   exact k2
theorem Sv.sk_at {l:List UInt8} {i:Nat} {c:UInt8} (h:Sv.pk l i=c) (hc:Sv.blB c=false):Sv.sk l i=i:=Sv.sk_no l i (by rw [h]; exact hc)
theorem Sv.tms_geX (ts:List Sv.Term):ts.length≤(Sv.tms ts).length:=by
 induction ts with
 | nil=>exact Nat.le_refl _
 | cons t ts ih=>
  unfold Sv.tms at ih ⊢
  rw [List.flatMap_cons,List.length_append,List.length_cons,List.length_cons]
  omega
theorem Sv.tmF_rd (l:List UInt8):∀ (ts:List Sv.Term) (acc:List Sv.Term) (n i:Nat),(∀ t∈ts,Sv.tCan t)→ts.length < n→Sv.rd l i (Sv.tms ts ++ [41])→Sv.tmF n l acc i=.inr (acc ++ ts,i+(Sv.tms ts).length+1)
 | _,_,0,_,_,h,_=>absurd h (by omega)
 | [],acc,n+1,i,_,_,hr=>by
  have k:=(Sv.rd_cons (xs:=[]) hr).1
  rw [Sv.tmF_step,Sv.sk_at k rfl,k,List.append_nil]
  rfl
 | t :: ts,acc,n+1,i,hc,hn,hr=>by
  have e:Sv.tms (t :: ts) ++ [41]=32 :: (Sv.plT t ++ (Sv.tms ts ++ [41])):=by unfold Sv.tms; simp
  rw [e] at hr
  obtain ⟨k1,_,k3⟩:=Sv.rd_cons hr
  obtain ⟨k4,k5⟩:=Sv.rd_app k3
  have hd:Sv.digB (Sv.pk l (i+1+(Sv.plT t).length))=false:=by
   cases ts with
   | nil=>rw [(Sv.rd_cons (xs:=[]) k5).1]; rfl
   | cons u us=>
    have e2:Sv.tms (u :: us) ++ [41]=32 :: (Sv.plT u ++ (Sv.tms us ++ [41])):=by unfold Sv.tms; simp
    rw [e2] at k5
    rw [(Sv.rd_cons k5).1]
    rfl
  obtain ⟨q1,q2,q3⟩:=Sv.term_rd l t i (hc t (List.mem_cons_self ..)) k4 k1 hd
  have hs:Sv.sk l i=i+1:=by rw [(Sv.sk_yes l i (by rw [k1]; rfl)).1,Sv.sk_no l (i+1) q1]
  rw [Sv.tmF_step,hs,q2,if_neg (by simp),q3]
  simp only
  rw [Sv.tmF_rd l ts (acc ++ [t]) n _ (fun u hu=>hc u (List.mem_cons_of_mem _ hu)) (by rw [List.length_cons] at hn; omega) k5]
  have e3:(Sv.tms (t :: ts)).length=1+(Sv.plT t).length+(Sv.tms ts).length:=by unfold Sv.tms; simp; omega
  rw [e3,List.append_assoc]
  simp only [Sum.inr.injEq,Prod.mk.injEq,List.cons_append,List.nil_append,true_and]
  omega
def Sv.cCan (c:Sv.Cond):Prop:=c.kind≤9∧∀ t∈c.terms,Sv.tCan t
theorem Sv.kind_one (k:Nat) (h:k≤9):Lib.itoa (k:Int)=[UInt8.ofNat (48+k)]:=by
 unfold Lib.itoa
 rw [if_neg (by omega),Int.toNat_natCast,Lib.decDigits,dif_pos (by omega)]
theorem Sv.cond_rd (l:List UInt8) (c:Sv.Cond) (i:Nat) (hc:Sv.cCan c) (hr:Sv.rd l i ([40] ++ Lib.itoa c.kind ++ Sv.tms c.terms ++ [41])) :
  Sv.cond l i=.inr (⟨false,c.kind,c.terms⟩,i+([40] ++ Lib.itoa c.kind ++ Sv.tms c.terms ++ [41]).length):=by
 rw [Sv.kind_one c.kind hc.1] at hr ⊢
 have e:[40] ++ [UInt8.ofNat (48+c.kind)] ++ Sv.tms c.terms ++ [41]=40 :: UInt8.ofNat (48+c.kind) :: (Sv.tms c.terms ++ [41]):=by simp
 rw [e] at hr ⊢
 obtain ⟨k1,_,k3⟩:=Sv.rd_cons hr
 obtain ⟨k4,_,k6⟩:=Sv.rd_cons k3
 obtain ⟨d1,d2⟩:=Sv.dig_of c.kind (by have:=hc.1; omega)
 have hb:Sv.blB (UInt8.ofNat (48+c.kind))=false:=by
  unfold Sv.blB
  rw [Sv.ne_of_toNat (show (UInt8.ofNat (48+c.kind)).toNat≠(32:UInt8).toNat by rw [d2]; show _≠32; omega),Sv.ne_of_toNat (show (UInt8.ofNat (48+c.kind)).toNat≠(10:UInt8).toNat by rw [d2]; show _≠10; omega)]
  rfl
 have hlen:=Sv.rd_len k6
 have hge:=Sv.tms_geX c.terms
 rw [List.length_append,List.length_singleton] at hlen
 have ht:=Sv.tmF_rd l c.terms [] (l.length+1) (i+1+1) hc.2 (by omega) k6
 unfold Sv.cond
 rw [Sv.sk_at k1 rfl,k1]
 simp only [beq_self_eq_true,if_true]
 rw [Sv.sk_at k4 hb,k4,d1]
 simp only [if_true]
 unfold Sv.terms
 rw [ht,d2]
 simp only [List.nil_append,Sum.inr.injEq,Prod.mk.injEq,Sv.Cond.mk.injEq,true_and,and_true,List.length_cons,List.length_append,List.length_nil]
 omega
theorem Sv.plC_head (c:Sv.Cond):Sv.plC c=(if c.neg=true then [33] else []) ++ ([40] ++ Lib.itoa c.kind ++ Sv.tms c.terms ++ [41]):=by unfold Sv.plC Sv.tms; simp
theorem Sv.cdF_rd (l:List UInt8):∀ (cs:List Sv.Cond) (acc:List Sv.Cond) (n i:Nat),(∀ c∈cs,Sv.cCan c)→cs.length < n→Sv.rd l i (cs.flatMap Sv.plC ++ [59])→Sv.cdF n l acc i=.inr (acc ++ cs,i+(cs.flatMap Sv.plC).length+1)
 | _,_,0,_,_,h,_=>absurd h (by omega)
 | [],acc,n+1,i,_,_,hr=>by
  have k:=(Sv.rd_cons (xs:=[]) hr).1
  rw [Sv.cdF_step,Sv.sk_at k rfl,k,List.append_nil]
  rfl
 | c :: cs,acc,n+1,i,hc,hn,hr=>by
  rw [List.flatMap_cons,List.append_assoc] at hr
  obtain ⟨k1,k2⟩:=Sv.rd_app hr
  rw [Sv.plC_head] at k1
  have hcd:=hc c (List.mem_cons_self ..)
  have ih:=Sv.cdF_rd l cs (acc ++ [c]) n (i+(Sv.plC c).length) (fun u hu=>hc u (List.mem_cons_of_mem _ hu)) (by rw [List.length_cons] at hn; omega) k2
  have hlen:(Sv.plC c).length=(if c.neg=true then 1 else 0)+([40] ++ Lib.itoa c.kind ++ Sv.tms c.terms ++ [41]).length:=by rw [Sv.plC_head,List.length_append]; split<;>rfl
  rw [List.flatMap_cons,List.length_append]
  obtain ⟨neg,kind,terms⟩:=c
  cases neg
  ·simp only [Bool.false_eq_true,if_false,List.nil_append] at k1
   have h40:=(Sv.rd_cons (xs:=Lib.itoa kind ++ Sv.tms terms ++ [41]) (by simpa using k1)).1
   have hcr:=Sv.cond_rd l ⟨false,kind,terms⟩ i hcd (by simpa using k1)
   rw [Sv.cdF_step,Sv.sk_at h40 rfl,h40]
   simp only [show ((40:UInt8) == 59)=false from rfl,show ((40:UInt8) == 33)=false from rfl,Bool.false_eq_true,if_false]
   rw [hcr]
   simp only
   simp only [Bool.false_eq_true,if_false,Nat.zero_add] at hlen
   rw [←hlen,ih,List.append_assoc]
   simp only [Sum.inr.injEq,Prod.mk.injEq,List.cons_append,List.nil_append,true_and]
   omega
  ·simp only [if_true] at k1
   obtain ⟨h33,_,k3⟩:=Sv.rd_cons (xs:=[40] ++ Lib.itoa kind ++ Sv.tms terms ++ [41]) (by simpa using k1)
   have hcr:=Sv.cond_rd l ⟨true,kind,terms⟩ (i+1) hcd k3
   rw [Sv.cdF_step,Sv.sk_at h33 rfl,h33]
   simp only [show ((33:UInt8) == 59)=false from rfl,beq_self_eq_true,Bool.false_eq_true,if_false,if_true]
   rw [hcr]
   simp only
   simp only [if_true] at hlen
   have he:i+1+([40] ++ Lib.itoa (kind:Int) ++ Sv.tms terms ++ [41]).length=i+(Sv.plC ⟨true,kind,terms⟩).length:=by rw [hlen]; omega
   rw [he,ih,List.append_assoc]
   simp only [Sum.inr.injEq,Prod.mk.injEq,List.cons_append,List.nil_append,true_and]
   omega
structure Sv.rCan (q:Sv.Rule):Prop where
 name:∀ c∈q.name,Sv.letB c=true
 len:0 < q.name.length∧q.name.length≤8
 conds:∀ c∈q.conds,Sv.cCan c
 first:∃ c cs,q.conds=c :: cs∧c.neg=false
theorem Sv.nm_run (l:List UInt8):∀ (xs:List UInt8) (m i:Nat),(∀ c∈xs,Sv.letB c=true)→Sv.rd l i xs→Sv.nmF (xs.length+m) l i=Sv.nmF m l (i+xs.length)
 | [],m,i,_,_=>by rw [List.length_nil,Nat.zero_add]; rfl
 | x :: xs,m,i,hx,hr=>by
  obtain ⟨k1,_,k3⟩:=Sv.rd_cons hr
  rw [List.length_cons,show xs.length+1+m=(xs.length+m)+1 by omega,Sv.nmF_step,k1,if_pos (hx x (List.mem_cons_self ..)),Sv.nm_run l xs m (i+1) (fun c hc=>hx c (List.mem_cons_of_mem _ hc)) k3]
  congr 1
  omega
theorem Sv.cs_ge (cs:List Sv.Cond):cs.length≤(cs.flatMap Sv.plC).length:=by
 induction cs with
 | nil=>exact Nat.le_refl _
 | cons c cs ih=>
  rw [List.flatMap_cons,List.length_append,List.length_cons]
  have:0 < (Sv.plC c).length:=by rw [Sv.plC_head]; simp; omega
  omega
theorem Sv.rule_rd (l:List UInt8) (q:Sv.Rule) (i:Nat) (hq:Sv.rCan q) (hr:Sv.rd l i (q.name ++ [58] ++ q.conds.flatMap Sv.plC ++ [59])):Sv.rule l i=.inr (q,i+(q.name ++ [58] ++ q.conds.flatMap Sv.plC ++ [59]).length):=by
 have hr0:Sv.rd l i (q.name ++ ([58] ++ q.conds.flatMap Sv.plC ++ [59])):=by rw [List.append_assoc,List.append_assoc] at hr; rw [List.append_assoc]; exact hr
 obtain ⟨k1,k2⟩:=Sv.rd_app hr0
 obtain ⟨k3,_,k4⟩:=Sv.rd_cons (xs:=q.conds.flatMap Sv.plC ++ [59]) (by simpa using k2)
 have hnm:Sv.nmF 8 l i=i+q.name.length:=by
  have h1:=hq.len.2
  rw [show 8=q.name.length+(8 - q.name.length) by omega,Sv.nm_run l q.name _ i hq.name k1]
  cases h:8 - q.name.length with
  | zero=>rfl
  | succ m=>rw [Sv.nmF_step,k3]; rfl
 have hcut:(l.take (i+q.name.length)).drop i=q.name:=by
  rw [List.drop_take]
  have:=List.prefix_iff_eq_take.1 k1
  rw [show i+q.name.length - i=q.name.length by omega]
  exact this.symm
 obtain ⟨c,cs,e,hneg⟩:=hq.first
 obtain ⟨nm,conds⟩:=q
 simp only at e
 subst e
 have hcc:=hq.conds c (List.mem_cons_self ..)
 rw [List.flatMap_cons,List.append_assoc] at k4
 obtain ⟨k5,k6⟩:=Sv.rd_app k4
 have hpl:Sv.plC c=[40] ++ Lib.itoa c.kind ++ Sv.tms c.terms ++ [41]:=by rw [Sv.plC_head,hneg]; rfl
 rw [hpl] at k5
 have hcr:=Sv.cond_rd l c _ hcc k5
 have hlen:=Sv.rd_len k6
 have hge:=Sv.cs_ge cs
 rw [List.length_append,List.length_singleton] at hlen
 have hcd:=Sv.cdF_rd l cs [c] (l.length+1) _ (fun u hu=>hq.conds u (List.mem_cons_of_mem _ hu)) (by omega) k6
 have hce:(⟨false,c.kind,c.terms⟩:Sv.Cond)=c:=by obtain ⟨n,k,t⟩:=c; simp only at hneg; rw [hneg]
 have hpos:=hq.len.1
 unfold Sv.rule
 simp only
 simp only at hnm hpos hcut k3 hcr hcd
 rw [hnm,if_neg (by omega),Sv.sk_at k3 rfl,k3]
 simp only [beq_self_eq_true,if_true]
 unfold Sv.conds
 rw [hcr]
 simp only
 rw [hce,←hpl,hcd]
 simp only [List.cons_append,List.nil_append]
 rw [hcut]
 simp only [Sum.inr.injEq,Prod.mk.injEq,true_and,List.length_append,List.length_cons,List.length_nil,List.flatMap_cons]
 omega
theorem Sv.rlF_rd (l:List UInt8):∀ (rs acc:List Sv.Rule) (n i:Nat),(∀ q∈rs,Sv.rCan q)→rs.length < n→Sv.rd l i (Sv.pl rs)→l.length=i+(Sv.pl rs).length→Sv.rlF n l acc i=.inr (acc ++ rs)
 | _,_,0,_,_,h,_,_=>absurd h (by omega)
 | [],acc,n+1,i,_,_,_,hl=>by
  rw [Sv.rlF_step,if_neg (by simp [Sv.pl] at hl; omega),List.append_nil]
 | q :: rs,acc,n+1,i,hc,hn,hr,hl=>by
  have hq:=hc q (List.mem_cons_self ..)
  have e:Sv.pl (q :: rs)=(q.name ++ [58] ++ q.conds.flatMap Sv.plC ++ [59]) ++ (10 :: Sv.pl rs):=by unfold Sv.pl; rw [List.flatMap_cons]; unfold Sv.plR; simp
  rw [e] at hr hl
  obtain ⟨k1,k2⟩:=Sv.rd_app hr
  obtain ⟨k3,k4,k5⟩:=Sv.rd_cons k2
  have hrule:=Sv.rule_rd l q i hq k1
  generalize hN:(q.name ++ [58] ++ q.conds.flatMap Sv.plC ++ [59]).length=N at hrule k3 k4 k5
  rw [List.length_append,List.length_cons,hN] at hl
  have hs:Sv.sk l (i+N)=i+N+1:=by
   rw [(Sv.sk_yes l _ (by rw [k3]; rfl)).1]
   refine Sv.sk_no l _ ?_
   cases rs with
   | nil=>
    rw [Sv.pk_end l _ (by simp [Sv.pl] at hl; omega)]
    rfl
   | cons r rs=>
    have hr1:=hc r (by simp)
    cases hnm:r.name with
    | nil=>have:=hr1.len.1; rw [hnm] at this; simp at this
    | cons c cs=>
     have e2:Sv.pl (r :: rs)=c :: (cs ++ [58] ++ r.conds.flatMap Sv.plC ++ [59,10] ++ Sv.pl rs):=by unfold Sv.pl; rw [List.flatMap_cons]; unfold Sv.plR; rw [hnm]; simp
     rw [e2] at k5
     rw [(Sv.rd_cons k5).1]
     have:=Sv.let_rng' c (hr1.name c (by rw [hnm]; exact List.mem_cons_self ..))
     unfold Sv.blB
     rw [Sv.ne_of_toNat (show c.toNat≠(32:UInt8).toNat by show c.toNat≠32; omega),Sv.ne_of_toNat (show c.toNat≠(10:UInt8).toNat by show c.toNat≠10; omega)]
     rfl
  rw [Sv.rlF_step,if_pos (by omega),hrule]
  simp only
  rw [hs,Sv.rlF_rd l rs (acc ++ [q]) n _ (fun u hu=>hc u (List.mem_cons_of_mem _ hu)) (by rw [List.length_cons] at hn; omega) k5 (by omega),List.append_assoc]
  rfl
theorem Sv.pl_ge (rs:List Sv.Rule):rs.length≤(Sv.pl rs).length:=by
 induction rs with
 | nil=>exact Nat.le_refl _
 | cons q rs ih=>
  unfold Sv.pl at ih ⊢
  rw [List.flatMap_cons,List.length_append,List.length_cons]
  have:0 < (Sv.plR q).length:=by unfold Sv.plR; simp; omega
  omega
theorem Sv.rules_pl (rs:List Sv.Rule) (h:∀ q∈rs,Sv.rCan q):Sv.rules (Sv.pl rs)=.inr rs:=by
 unfold Sv.rules
 have h0:Sv.sk (Sv.pl rs) 0=0:=by
  refine Sv.sk_no _ _ ?_
  cases rs with
  | nil=>rfl
  | cons r rs=>
   have hr1:=h r (by simp)
   cases hnm:r.name with
   | nil=>have:=hr1.len.1; rw [hnm] at this; simp at this
   | cons c cs=>
    have e2:Sv.pl (r :: rs)=c :: (cs ++ [58] ++ r.conds.flatMap Sv.plC ++ [59,10] ++ Sv.pl rs):=by unfold Sv.pl; rw [List.flatMap_cons]; unfold Sv.plR; rw [hnm]; simp
    rw [e2]
    show Sv.blB c=false
    have:=Sv.let_rng' c (hr1.name c (by rw [hnm]; exact List.mem_cons_self ..))
    unfold Sv.blB
    rw [Sv.ne_of_toNat (show c.toNat≠(32:UInt8).toNat by show c.toNat≠32; omega),Sv.ne_of_toNat (show c.toNat≠(10:UInt8).toNat by show c.toNat≠10; omega)]
    rfl
 rw [h0,Sv.rlF_rd (Sv.pl rs) rs [] _ 0 h (by have:=Sv.pl_ge rs; omega) (Sv.rd_self _) (by omega)]
 rfl
theorem Sv.term_tCan (l:List UInt8) (i:Nat) (t:Sv.Term) (j:Nat) (h:Sv.term l i=.inr (t,j)):Sv.tCan t:=by
 unfold Sv.term at h
 split at h
 ·simp only [Sum.inr.injEq,Prod.mk.injEq] at h
  exact .inl h.1.symm
 ·split at h
  ·rename_i hl
   simp only [Sum.inr.injEq,Prod.mk.injEq] at h
   exact .inr (.inl ⟨_,hl,h.1.symm⟩)
  ·split at h
   ·unfold Sv.number at h
    simp only at h
    have e:(0+1) * 10 ^ 9=1000000000:=by decide
    have hv:=Sv.ndF_val 9 l 0 (if (Sv.pk l i == 45)=true then i+1 else i)
    rw [e] at hv
    by_cases hz:(Sv.ndF 9 l 0 (if (Sv.pk l i == 45)=true then i+1 else i)).2=(if (Sv.pk l i == 45)=true then i+1 else i)
    ·rw [if_pos hz] at h
     cases h
    ·rw [if_neg hz] at h
     simp only [Sum.inr.injEq,Prod.mk.injEq] at h
     generalize (Sv.ndF 9 l 0 (if (Sv.pk l i == 45)=true then i+1 else i)).1=v at h hv
     refine .inr (.inr ⟨_,?_,?_,h.1.symm⟩)
     ·split<;>omega
     ·split<;>omega
   ·cases h
theorem Sv.nm_let (l:List UInt8):∀ (n i k:Nat),i≤k→k < Sv.nmF n l i→Sv.letB (Sv.pk l k)=true
 | 0,i,k,h1,h2=>by unfold Sv.nmF at h2; omega
 | n+1,i,k,h1,h2=>by
  rw [Sv.nmF_step] at h2
  split at h2
  ·rename_i hc
   by_cases he:i=k
   ·rw [←he]; exact hc
   ·exact Sv.nm_let l n (i+1) k (by omega) h2
  ·omega
theorem Sv.cdF_pre (n:Nat) (l:List UInt8) (acc:List Sv.Cond) (i:Nat) (cs:List Sv.Cond) (j:Nat) (h:Sv.cdF n l acc i=.inr (cs,j)):acc <+: cs:=by
 induction n generalizing acc i with
 | zero=>cases h
 | succ n ih=>
  rw [Sv.cdF_step] at h
  split at h
  ·simp only [Sum.inr.injEq,Prod.mk.injEq] at h
   rw [h.1]
   exact List.prefix_refl _
  ·generalize (if (Sv.pk l (Sv.sk l i) == 33)=true then Sv.sk l i+1 else Sv.sk l i)=x at h
   cases hr:Sv.cond l x with
   | inl k=>rw [hr] at h; cases h
   | inr q=>
    obtain ⟨c,k⟩:=q
    rw [hr] at h
    exact (List.prefix_append _ _).trans (ih _ k h)
theorem Sv.cond_negX (l:List UInt8) (i:Nat) (c:Sv.Cond) (j:Nat) (h:Sv.cond l i=.inr (c,j)):c.neg=false:=by
 unfold Sv.cond at h
 simp only at h
 split at h
 ·split at h
  ·cases ht:Sv.terms l (Sv.sk l (Sv.sk l i+1)+1) with
   | inl m=>rw [ht] at h; cases h
   | inr q=>
    rw [ht] at h
    simp only [Sum.inr.injEq,Prod.mk.injEq] at h
    rw [←h.1]
  ·cases h
 ·cases h
theorem Sv.rule_can (l:List UInt8) (i:Nat) (q:Sv.Rule) (j:Nat) (h:Sv.rule l i=.inr (q,j)):(∀ c∈q.name,Sv.letB c=true)∧(0 < q.name.length∧q.name.length≤8)∧∃ c cs,q.conds=c :: cs∧c.neg=false:=by
 unfold Sv.rule at h
 simp only at h
 split at h
 ·cases h
 ·rename_i hne
  have hi:i≤l.length:=by
   rcases Nat.lt_or_ge l.length i with hl | hl
   ·exact absurd (by rw [show (8:Nat)=7+1 from rfl,Sv.nmF_step,Sv.pk_end l i (by omega)]; rfl) hne
   ·exact hl
  have hn:=Sv.nmF_le 8 l i hi
  split at h
  ·cases hr:Sv.conds l (Sv.sk l (Sv.nmF 8 l i)+1) with
   | inl m=>rw [hr] at h; cases h
   | inr q2=>
    obtain ⟨cs,m⟩:=q2
    rw [hr] at h
    simp only [Sum.inr.injEq,Prod.mk.injEq] at h
    obtain ⟨rfl,_⟩:=h
    have hlen:((l.take (Sv.nmF 8 l i)).drop i).length=Sv.nmF 8 l i - i:=by rw [List.length_drop,List.length_take]; omega
    refine ⟨fun c hc=>?_,⟨?_,?_⟩,?_⟩
    ·obtain ⟨k,hk,e⟩:=List.getElem_of_mem hc
     simp only at hk e
     rw [hlen] at hk
     have h1:i+k < l.length:=by omega
     have:=Sv.nm_let l 8 i (i+k) (by omega) (by omega)
     rw [Sv.pk_at l _ h1] at this
     rw [←e]
     simpa using this
    ·show 0 < ((l.take (Sv.nmF 8 l i)).drop i).length
     omega
    ·show ((l.take (Sv.nmF 8 l i)).drop i).length≤8
     omega
    ·unfold Sv.conds at hr
     cases hc:Sv.cond l (Sv.sk l (Sv.nmF 8 l i)+1) with
     | inl k=>rw [hc] at hr; cases hr
     | inr q3=>
      obtain ⟨c,k⟩:=q3
      rw [hc] at hr
      obtain ⟨t,ht⟩:=Sv.cdF_pre _ l [c] k cs m hr
      exact ⟨c,t,ht.symm,Sv.cond_negX l _ c k hc⟩
  ·cases h
theorem Sv.rlF_any (p:Sv.Rule→Prop) (hp:∀ l i q j,Sv.rule l i=.inr (q,j)→p q) (n:Nat) (l:List UInt8) (acc:List Sv.Rule) (i:Nat) (rs:List Sv.Rule) (h:Sv.rlF n l acc i=.inr rs) (ha:∀ q∈acc,p q):∀ q∈rs,p q:=by
 induction n generalizing acc i with
 | zero=>cases h
 | succ n ih=>
  rw [Sv.rlF_step] at h
  split at h
  ·cases hr:Sv.rule l i with
   | inl k=>rw [hr] at h; cases h
   | inr q2=>
    obtain ⟨q,k⟩:=q2
    rw [hr] at h
    refine ih _ (Sv.sk l k) h (fun y hy=>?_)
    rcases List.mem_append.1 hy with hy | hy
    ·exact ha y hy
    ·rw [List.mem_singleton] at hy
     rw [hy]
     exact hp l i q k hr
  ·simp only [Sum.inr.injEq] at h
   rw [←h]; exact ha
theorem Sv.rules_can (l:List UInt8) (rs:List Sv.Rule) (h:Sv.rules l=.inr rs):∀ q∈rs,Sv.rCan q:=by
 intro q hq
 obtain ⟨h1,h2,h3⟩:=Sv.rlF_any _ Sv.rule_can _ l [] _ rs h (by simp) q hq
 have h4:=Sv.rlF_all Sv.tCan Sv.term_tCan _ l [] _ rs h (by simp) q hq
 have h5:=(Sv.rules_rSh l rs h q hq).1
 exact ⟨h1,h2,fun c hc=>⟨(h5 c hc).1,h4 c hc⟩,h3⟩
theorem Sv.face_again (l:List UInt8) (h0:(Sv.face l).2.2=0):∃ rs,Sv.netOf l=.inr rs∧Sv.face l=(Sv.pl rs,rs.length,0)∧((Sv.pl rs).length≤400→Sv.face (Sv.pl rs)=(Sv.pl rs,rs.length,0)∧Sv.netOf (Sv.pl rs)=.inr rs):=by
 unfold Sv.face at h0 ⊢
 unfold Sv.netOf
 by_cases hl:400 < l.length
 ·rw [if_pos hl] at h0; cases h0
 ·rw [if_neg hl] at h0 ⊢
  rw [if_neg hl]
  cases hr:Sv.rules l with
  | inl k=>rw [hr] at h0; cases h0
  | inr rs=>
   rw [hr] at h0
   simp only at h0 ⊢
   cases hx:Sv.ex rs
   ·refine ⟨rs,rfl,rfl,fun hle=>?_⟩
    have hp:=Sv.rules_pl rs (Sv.rules_can l rs hr)
    rw [if_neg (by omega),if_neg (by omega),hp]
    simp only
    rw [hx]
    exact ⟨rfl,rfl⟩
   ·rw [hx] at h0; cases h0
theorem Sv.rlF_place (n:Nat) (l:List UInt8) (acc:List Sv.Rule) (i k:Nat) (hi:i≤l.length) (h:Sv.rlF n l acc i=.inl k):k≤l.length:=by
 induction n generalizing acc i with
 | zero=>unfold Sv.rlF at h; cases h; exact hi
 | succ n ih=>
  rw [Sv.rlF_step] at h
  split at h
  ·have hok:=Sv.rule_ok l i hi
   cases hr:Sv.rule l i with
   | inl m=>rw [hr] at h hok; cases h; exact hok
   | inr q2=>
    obtain ⟨q,m⟩:=q2
    rw [hr] at h hok
    exact ih _ (Sv.sk l m) (Sv.sk_le l m hok.2).2 h
  ·cases h
theorem Sv.rules_place (l:List UInt8) (k:Nat) (h:Sv.rules l=.inl k):k≤l.length:=Sv.rlF_place _ l [] _ k (Sv.sk_le l 0 (Nat.zero_le _)).2 h
theorem Sv.face_bad_place (l:List UInt8) (h0:(Sv.face l).2.2≠0):(Sv.face l).1=[]∧(Sv.face l).2.1≤l.length∧((Sv.face l).2.2=1∨(Sv.face l).2.2=2∧(Sv.face l).2.1=0):=by
 unfold Sv.face at h0 ⊢
 by_cases hl:400 < l.length
 ·rw [if_pos hl]; exact ⟨rfl,Nat.zero_le _,.inr ⟨rfl,rfl⟩⟩
 ·rw [if_neg hl] at h0 ⊢
  cases hr:Sv.rules l with
  | inl k=>exact ⟨rfl,Sv.rules_place l k hr,.inl rfl⟩
  | inr rs=>
   rw [hr] at h0
   simp only at h0 ⊢
   cases hx:Sv.ex rs
   ·rw [hx] at h0; exact absurd rfl h0
   ·exact ⟨rfl,Nat.zero_le _,.inr ⟨rfl,rfl⟩⟩
end Go.Proofs.YtolhbeekfjnfmaaGreatDoor
namespace Go.Proofs.YtolhbeekfjnfmaaGreatDoor
open Go.RowKit
def StpAt (g o:Nat) (kd a v0 v1 v2 v3:Int) (w:World):Prop:=
 w.cell? ⟨g,o,none⟩=some (.int .i64 kd)∧w.cell? ⟨g,o+1,none⟩=some (.int .i64 a)∧w.cell? ⟨g,o+2,none⟩=some (.int .i64 v0)∧w.cell? ⟨g,o+3,none⟩=some (.int .i64 v1)∧w.cell? ⟨g,o+4,none⟩=some (.int .i64 v2)∧w.cell? ⟨g,o+5,none⟩=some (.int .i64 v3)
theorem StpAt.kept {g o:Nat} {kd a v0 v1 v2 v3:Int} {w w':World} (h:StpAt g o kd a v0 v1 v2 v3 w) (hg:w.grownBy w' none):StpAt g o kd a v0 v1 v2 v3 w':=by
 obtain ⟨h0,h1,h2,h3,h4,h5⟩:=h
 exact ⟨hg.cell h0 (by simp),hg.cell h1 (by simp),hg.cell h2 (by simp),hg.cell h3 (by simp),hg.cell h4 (by simp),hg.cell h5 (by simp)⟩
structure Stp where
 kd:Int
 a:Int
 v0:Int
 v1:Int
 v2:Int
 v3:Int
def Stp.ok (p:Stp):Prop:=I64 p.kd∧I64 p.a∧I64 p.v0∧I64 p.v1∧I64 p.v2∧I64 p.v3
def Stp.fact (p:Stp):Sv.Fact:=Sv.kfact p.a p.v0 p.v1 p.v2 p.v3
def Stp.at (p:Stp) (g o:Nat) (w:World):Prop:=StpAt g o p.kd p.a p.v0 p.v1 p.v2 p.v3 w
def StpsAt (ao:Option Addr) (len:Nat) (w:World):Prop:=∀ k,k < len→∃ (g off:Nat) (p:Stp),ao=some ⟨g,off,none⟩∧p.ok∧p.at g (off+k * 6) w
theorem Sv.St.add_yes (s:Sv.St) (f:Sv.Fact) (hf:Sv.factOk f=true) (hl:s.L.length < 16):s.add f=((s.cnt+1,0),(s.add f).2)∧(s.add f).2.cnt=s.cnt+1∧(s.add f).2.L.length=s.L.length+1∧(s.add f).2.rs=s.rs:=by
 have h:s.add f=((s.cnt+1,0),⟨s.rs,s.L ++ [(s.cnt+1,f)],s.cnt+1,Sv.keepF (Sv.matches s.rs (s.L ++ [(s.cnt+1,f)])) s.fired⟩):=by
  unfold Sv.St.add
  rw [if_neg (by rw [hf]; simp),if_neg (by omega)]
 rw [h]
 exact ⟨rfl,rfl,by simp,rfl⟩
theorem kadd {T:Nat→Nat} {t x:Nat} {s:Sv.St} {wr w1:World} (p:Stp) (h:XT T t x s wr) (ht:t≠0) (hc:s.cnt≤1000) (hl:s.L.length < 16) (hg:wr.grownBy w1 none) {ao:Option Addr} {cap:Nat} (hv:IsAt wr.heap.size (.slice ao p.fact.vals.length cap) p.fact.vals w1) :
  Calls Tryz.prog 18 #[.pointer (some ⟨x,0,none⟩),.agg #[.int .i64 p.fact.kind,.slice ao p.fact.vals.length cap]] w1 fun e w3=>e=.returned (.tuple #[.int .i64 (s.cnt+1),.int .i64 0])∧GrS (fun k=>T k=t) wr w3∧∃ T',XT T' t x (s.add p.fact).2 w3∧∀ k,k < wr.heap.size→T' k=T k:=by
 have hA:=addNew T t x s p.fact ao cap wr w1 h ht (by omega) hg hv.inAt (hv.le) (fun g hg'=>(hv.own g hg').1)
 rw [(Sv.St.add_yes s p.fact (Sv.kfact_ok _ _ _ _ _) hl).1] at hA
 exact hA
structure Two (w:World) (a b i:Nat) (s:Sv.St) (T:Nat→Nat) (wr:World):Prop where
 na:XT T 1 a s wr
 nb:XT T 2 b s wr
 len:s.L.length=i
 cnt:s.cnt=i
 old:∀ k,k < w.heap.size→T k=0
 gr:w.grownBy wr none
theorem Two.first {w:World} {a b i:Nat} {s:Sv.St} {T T':Nat→Nat} {wr w3:World} (h:Two w a b i s T wr) (hG:GrS (fun k=>T k=1) wr w3) (hT:∀ k,k < wr.heap.size→T' k=T k) :
  XT T' 2 b s w3∧w.grownBy w3 none∧∀ k,k < w.heap.size→T' k=0:=by
 refine ⟨h.nb.keep hG (fun k hk e=>by rcases hk with hk | hk<;>(rw [hk] at e; cases e)) (fun k hk _=>hT k hk),grown_of h.gr hG (fun k hk=>by rw [h.old k hk]; decide),fun k hk=>by rw [hT k (Nat.lt_of_lt_of_le hk h.gr.size),h.old k hk]⟩
end Go.Proofs.YtolhbeekfjnfmaaGreatDoor
namespace Go.Proofs.YtolhbeekfjnfmaaGreatDoor
open Go.RowKit
def Sv.exK:List UInt8:=[112,58,40,49,32,120,32,121,41,40,50,32,121,41,59]
def Sv.exKR:List Sv.Rule:=[⟨[112],[⟨false,1,[⟨1,120,0⟩,⟨1,121,0⟩]⟩,⟨false,2,[⟨1,121,0⟩]⟩]⟩]
theorem Sv.exK_net:Sv.netOf Sv.exK=.inr Sv.exKR:=by rfl
def Sv.ktext (s:ByteArray):ByteArray:=if (Sv.face s.data.toList).2.2=0∧(Sv.face s.data.toList).1≠[] then s else ⟨Sv.exK.toArray⟩
theorem Sv.ktext_net (s:ByteArray):∃ rs,Sv.netOf (Sv.ktext s).data.toList=.inr rs:=by
 unfold Sv.ktext
 split
 ·rename_i h
  obtain ⟨rs,h1,_⟩:=Sv.face_again _ h.1
  exact ⟨rs,h1⟩
 ·exact ⟨_,Sv.exK_net⟩
theorem Sv.ktext_size (s:ByteArray) (hm:s.size≤maxLen):(Sv.ktext s).size≤maxLen:=by
 unfold Sv.ktext
 split
 ·exact hm
 ·exact (by decide:(15:Nat)≤maxLen)
set_option maxRecDepth 100000 in
set_option maxHeartbeats 1000000 in
theorem krules_w (s:ByteArray) (aT aL:Addr) (w:World) (hL:LD aT aL w) (hP:3 < w.heap.size) (hm:s.size≤maxLen) :
  Calls Tryz.prog 43 #[.string s] w fun e w'=>e=.returned (.string (Sv.ktext s))∧w.grownBy w' none:=by
 have hF:=face_w s aT aL w hL hP hm
 unfold Sv.ktext
 by_cases h0:(Sv.face s.data.toList).2.2=0
 ·by_cases h1:(Sv.face s.data.toList).1=[]
  ·rw [if_neg (fun h=>h.2 h1)]
   rw [h0,h1] at hF
   obtain ⟨n,hn⟩:∃ n,(Sv.face s.data.toList).2.1=n:=⟨_,rfl⟩
   rw [hn] at hF
   unfold Sv.exK
   clear hL hP hm h0 h1 hn
   go_enter Tryz.func43,Tryz.ntmps43
   go_wp2_with (go_at_call 16; refine hF.mono ?_; rintro e w1 ⟨rfl,hg1⟩)
   go_ret
   exact ⟨rfl,hg1⟩
  ·rw [if_pos ⟨h0,h1⟩]
   rw [h0] at hF
   obtain ⟨n,hn⟩:∃ n,(Sv.face s.data.toList).2.1=n:=⟨_,rfl⟩
   obtain ⟨pt,hpt⟩:∃ pt:ByteArray,pt=⟨(Sv.face s.data.toList).1.toArray⟩:=⟨_,rfl⟩
   have hne:pt.toList.isEmpty=false:=by
    rw [hpt,ByteArray.toList_eq]
    cases hx:(Sv.face s.data.toList).1 with
    | nil=>exact absurd hx h1
    | cons a l=>rfl
   rw [hn,←hpt] at hF
   clear hL hP hm h0 h1 hn hpt
   go_enter Tryz.func43,Tryz.ntmps43
   go_wp2_with (go_at_call 16; refine hF.mono ?_; rintro e w1 ⟨rfl,hg1⟩)
   go_ret
   exact ⟨rfl,hg1⟩
 ·rw [if_neg (fun h=>h0 h.1)]
  obtain ⟨h1,h2,h3⟩:=Sv.face_bad_place _ h0
  rw [h1] at hF
  obtain ⟨n,hn⟩:∃ n,(Sv.face s.data.toList).2.1=n:=⟨_,rfl⟩
  obtain ⟨m,hmm⟩:∃ m,(Sv.face s.data.toList).2.2=m:=⟨_,rfl⟩
  rw [hn,hmm] at hF
  rw [hmm] at h0
  have hne:((m:Int) != 0)=true:=by simp; omega
  unfold Sv.exK
  clear hL hP hm h1 h2 h3 hn hmm
  go_enter Tryz.func43,Tryz.ntmps43
  go_wp2_with (go_at_call 16; refine hF.mono ?_; rintro e w1 ⟨rfl,hg1⟩)
  go_ret
  exact ⟨rfl,hg1⟩
set_option maxRecDepth 100000 in
set_option maxHeartbeats 1000000 in
theorem kfresh_w (T:Nat→Nat) (t:Nat) (s:ByteArray) (aT aL:Addr) (w:World) (hL:LD aT aL w) (hP:3 < w.heap.size) (hm:s.size≤maxLen) (rs:List Sv.Rule) (hrs:Sv.netOf (Sv.ktext s).data.toList=.inr rs) :
  Calls Tryz.prog 26 #[.string s] w fun e w'=>w.grownBy w' none∧∃ T' x,e=.returned (.pointer (some ⟨x,0,none⟩))∧XT T' t x ⟨rs,[],0,[]⟩ w'∧w.heap.size≤x∧∀ k,k < w.heap.size→T' k=T k:=by
 have hR:=krules_w s aT aL w hL hP hm
 have hN:=fun (w1:World) (hg:w.grownBy w1 none)=>xNewT T t (Sv.ktext s) aT aL w1 (hL.kept hg hP) (Nat.lt_of_lt_of_le hP hg.size) (Sv.ktext_size s hm)
 rw [hrs] at hN
 simp only at hN
 obtain ⟨r,hr⟩:∃ r,Sv.ktext s=r:=⟨_,rfl⟩
 rw [hr] at hR hN
 clear hL hP hm hrs hr
 go_enter Tryz.func26,Tryz.ntmps26
 go_wp2_with fail
 refine hR.mono ?_
 rintro e w1 ⟨rfl,hg1⟩
 clear hR
 have hN1:=hN w1 hg1
 clear hN
 go_wp2_with fail
 refine hN1.mono ?_
 rintro e w2 ⟨hg2,T2,x,rfl,hX,hx,hT⟩
 have HE:=hide (show w.grownBy w2 none∧XT T2 t x ⟨rs,[],0,[]⟩ w2∧w.heap.size≤x∧∀ k,k < w.heap.size→T2 k=T k from ⟨gr_trans hg1 hg2,hX,Nat.le_trans hg1.size hx,fun k hk=>hT k (Nat.lt_of_lt_of_le hk hg1.size)⟩)
 clear hN1 hX hT hx hg1 hg2
 go_wp2
 go_ret
 exact ⟨(unhide HE).1,T2,x,rfl,(unhide HE).2⟩
end Go.Proofs.YtolhbeekfjnfmaaGreatDoor
namespace Go.Proofs.YtolhbeekfjnfmaaGreatDoor
def Sv.pad (ids:List Int):List Int:=ids ++ List.replicate (4 - ids.length) 0
def Sv.age (ids:List Int):List Int:=(sortI (Sv.pad ids)).reverse
theorem Tok.nums_pad (t:Tok):t.nums=Sv.pad t.ids:=by unfold Tok.nums Sv.pad Tok.ids; rw [List.length_map]
theorem Tok.age_ids (t:Tok):t.age=Sv.age t.ids:=by unfold Tok.age Sv.age; rw [Tok.nums_pad]
def Sv.newer (a b:Int×List Int):Bool:=decide (0 < cmpL (Sv.age a.2) (Sv.age b.2))
def Sv.pickB (b:Option (Int×List Int)) (m:Int×List Int):Option (Int×List Int):=
 match b with
 | none=>some m
 | some k=>if Sv.newer m k=true then some m else some k
def Sv.best (b:Option (Int×List Int)) (l:List (Int×List Int)):Option (Int×List Int):=l.foldl Sv.pickB b
theorem Sv.best_app (b:Option (Int×List Int)) (l k:List (Int×List Int)):Sv.best b (l ++ k)=Sv.best (Sv.best b l) k:=List.foldl_append
theorem Sv.newer_no {a b:Int×List Int}:Sv.newer a b=false↔cmpL (Sv.age a.2) (Sv.age b.2)≤0:=by unfold Sv.newer; simp
theorem Sv.newer_yes {a b:Int×List Int}:Sv.newer a b=true↔0 < cmpL (Sv.age a.2) (Sv.age b.2):=by unfold Sv.newer; simp
theorem Sv.newer_le {a b c:Int×List Int} (h1:Sv.newer a b=false) (h2:Sv.newer b c=false):Sv.newer a c=false:=by
 rw [Sv.newer_no] at *
 exact cmpL_trans _ _ _ h1 h2
theorem Sv.best_stay (k:Int×List Int):∀ (l:List (Int×List Int)),(∀ x∈l,Sv.newer x k=false)→Sv.best (some k) l=some k
 | [],_=>rfl
 | x :: l,h=>by
  have e:Sv.best (some k) (x :: l)=Sv.best (Sv.pickB (some k) x) l:=rfl
  rw [e]
  unfold Sv.pickB
  simp only
  rw [h x (List.mem_cons_self ..),if_neg (by simp)]
  exact Sv.best_stay k l (fun y hy=>h y (List.mem_cons_of_mem _ hy))
theorem Sv.best_some (k:Int×List Int):∀ (l:List (Int×List Int)),∃ k',Sv.best (some k) l=some k'∧(k'=k∨k'∈l)∧Sv.newer k k'=false
 | []=>⟨k,rfl,.inl rfl,by rw [Sv.newer_no,cmpL_self]; exact Int.le_refl _⟩
 | x :: l=>by
  have e:Sv.best (some k) (x :: l)=Sv.best (Sv.pickB (some k) x) l:=rfl
  rw [e]
  unfold Sv.pickB
  simp only
  cases hx:Sv.newer x k
  ·rw [if_neg (by simp)]
   obtain ⟨k',h1,h2,h3⟩:=Sv.best_some k l
   exact ⟨k',h1,by rcases h2 with h | h; exact .inl h; exact .inr (List.mem_cons_of_mem _ h),h3⟩
  ·rw [if_pos rfl]
   obtain ⟨k',h1,h2,h3⟩:=Sv.best_some x l
   refine ⟨k',h1,.inr ?_,?_⟩
   ·rcases h2 with h | h
    ·rw [h]; exact List.mem_cons_self ..
    ·exact List.mem_cons_of_mem _ h
   ·have hk:Sv.newer k x=false:=by
     rw [Sv.newer_no]
     rw [Sv.newer_yes] at hx
     rw [cmpL_flip]
     omega
    exact Sv.newer_le hk h3
theorem Sv.best_first (m:Int×List Int) (l1 l2:List (Int×List Int)) (h1:∀ x∈l1,Sv.newer m x=true) (h2:∀ x∈l2,Sv.newer x m=false) (b:Option (Int×List Int)):Sv.best b (l1 ++ m :: l2)=Sv.pickB b m:=by
 rw [Sv.best_app]
 have e:∀ b,Sv.best b (m :: l2)=Sv.best (Sv.pickB b m) l2:=fun _=>rfl
 rw [e]
 have hm:Sv.best (some m) l2=some m:=Sv.best_stay m l2 h2
 cases b with
 | none=>
  cases l1 with
  | nil=>exact hm
  | cons x l1=>
   have e2:Sv.best none (x :: l1)=Sv.best (some x) l1:=rfl
   rw [e2]
   obtain ⟨k',k1,k2,_⟩:=Sv.best_some x l1
   have:Sv.newer m k'=true:=by
    rcases k2 with rfl | h
    ·exact h1 _ (List.mem_cons_self ..)
    ·exact h1 _ (List.mem_cons_of_mem _ h)
   rw [k1]
   unfold Sv.pickB
   simp only
   rw [this,if_pos rfl]
   exact hm
 | some k=>
  cases hmk:Sv.newer m k
  ·have hl1:∀ x∈l1,Sv.newer x k=false:=fun x hx=>by
    cases hxk:Sv.newer x k
    ·rfl
    ·have hxm:Sv.newer x m=false:=by
      have:=h1 x hx
      rw [Sv.newer_yes] at this
      rw [Sv.newer_no,cmpL_flip]
      omega
     rw [Sv.newer_le hxm hmk] at hxk
     cases hxk
   rw [Sv.best_stay k l1 hl1]
   unfold Sv.pickB
   simp only
   rw [hmk,if_neg (by simp)]
   exact Sv.best_stay k l2 (fun x hx=>Sv.newer_le (h2 x hx) hmk)
  ·obtain ⟨k',k1,k2,k3⟩:=Sv.best_some k l1
   have:Sv.newer m k'=true:=by
    rcases k2 with rfl | h
    ·exact hmk
    ·exact h1 _ h
   rw [k1]
   unfold Sv.pickB
   simp only
   rw [this,hmk,if_pos rfl,if_pos rfl]
   exact hm
def Sv.waitR (L:List (Int×Sv.Fact)) (fired:List (Int×List Int)) (i:Nat) (cs:List Sv.Cond):List (Int×List Int):=((Sv.fromD L cs [] []).map (fun ids=>((i:Int),ids))).filter (fun m=>!Sv.hasM fired m)
def Sv.waits (s:Sv.St):List (Int×List Int):=(Sv.matches s.rs s.L).filter (fun m=>!Sv.hasM s.fired m)
theorem Sv.hasM_iff (l:List (Int×List Int)) (m:Int×List Int):Sv.hasM l m=true↔m∈l:=by
 unfold Sv.hasM
 rw [List.any_eq_true]
 constructor
 ·rintro ⟨k,h1,h2⟩
  rw [decide_eq_true_eq] at h2
  rw [←h2]
  exact h1
 ·exact fun h=>⟨m,h,by rw [decide_eq_true_eq]⟩
def Sv.waitF (L:List (Int×Sv.Fact)) (fired:List (Int×List Int)):Nat→List Sv.Rule→List (Int×List Int)
 | _,[]=>[]
 | i,q :: rs=>Sv.waitR L fired i q.conds ++ Sv.waitF L fired (i+1) rs
theorem Sv.waitF_eq (L:List (Int×Sv.Fact)) (fired:List (Int×List Int)):∀ (rs:List Sv.Rule) (i:Nat),Sv.waitF L fired i rs=(Sv.matF L i rs).filter (fun m=>!Sv.hasM fired m)
 | [],_=>rfl
 | q :: rs,i=>by
  unfold Sv.waitF Sv.matF
  rw [List.filter_append,Sv.waitF_eq L fired rs (i+1)]
  rfl
theorem Sv.waits_eq (s:Sv.St):Sv.waits s=Sv.waitF s.L s.fired 0 s.rs:=by
 rw [Sv.waitF_eq]
 rfl
theorem ChSt.next {F:List Ft} {cs:List Sv.Cond} {c:Ch} {Z:List Tok} (h:ChSt F cs c Z) (hF:FtAsc F) (hjl:∀ t∈c.e.toks,t.length=c.jn) {fired:List (Int×List Int)} {i:Nat} (hf:∀ t∈c.e.toks,((i:Int),t.ids)∈fired↔t∈Z) (b:Option (Int×List Int)) :
  Sv.best b (Sv.waitR (F.map (fun g=>(g.id,g.f))) fired i cs)=match c.e.wait[0]? with
   | none=>b
   | some t=>Sv.pickB b ((i:Int),t.ids):=by
 have hp:=h.ok.perm h.terms
 have hnd:=h.fd.nodup_iff.1 (h.ok.nodup h.terms hF)
 have hsort:(Sv.waitR (F.map (fun g=>(g.id,g.f))) fired i cs).Pairwise (fun a b=>Sv.lexLt a.2 b.2):=by
  unfold Sv.waitR
  refine List.Pairwise.filter _ ?_
  rw [List.pairwise_map]
  exact Sv.fromD_sorted _ hF.fst cs [] []
 have hmem:∀ m,m∈Sv.waitR (F.map (fun g=>(g.id,g.f))) fired i cs↔∃ t∈c.e.wait,m=((i:Int),t.ids):=by
  intro m
  unfold Sv.waitR
  rw [List.mem_filter,List.mem_map,Bool.not_eq_true',←Bool.not_eq_true,Sv.hasM_iff]
  constructor
  ·rintro ⟨⟨ids,h1,rfl⟩,h2⟩
   obtain ⟨t,ht,rfl⟩:=List.mem_map.1 (hp.mem_iff.2 h1)
   refine ⟨t,?_,rfl⟩
   rcases List.mem_append.1 (h.fd.mem_iff.1 ht) with hw | hz
   ·exact hw
   ·exact absurd ((hf t ht).2 hz) h2
  ·rintro ⟨t,ht,rfl⟩
   have htt:=h.fd.mem_iff.2 (List.mem_append.2 (.inl ht))
   refine ⟨⟨t.ids,hp.mem_iff.1 (List.mem_map.2 ⟨t,htt,rfl⟩),rfl⟩,fun hx=>?_⟩
   exact (List.nodup_append.1 hnd).2.2 t ht t ((hf t htt).1 hx) rfl
 cases hw:c.e.wait[0]? with
 | none=>
  have he:c.e.wait=[]:=by
   cases hl:c.e.wait with
   | nil=>rfl
   | cons a l=>rw [hl] at hw; simp at hw
  have:Sv.waitR (F.map (fun g=>(g.id,g.f))) fired i cs=[]:=by
   cases hl:Sv.waitR (F.map (fun g=>(g.id,g.f))) fired i cs with
   | nil=>rfl
   | cons a l=>
    obtain ⟨t,ht,_⟩:=(hmem a).1 (by rw [hl]; exact List.mem_cons_self ..)
    rw [he] at ht
    simp at ht
  rw [this]
  rfl
 | some t=>
  have ht:t∈c.e.wait:=List.mem_of_getElem? hw
  have hfirst:∀ u∈c.e.wait,Tok.less u t=false:=fun u hu=>by
   obtain ⟨j,hj⟩:=List.getElem?_of_mem hu
   exact Hp.first Tok.less_ord Tok.less_self h.ok.heap hw j u hj
  obtain ⟨l1,l2,e⟩:=List.append_of_mem ((hmem ((i:Int),t.ids)).2 ⟨t,ht,rfl⟩)
  show Sv.best b (Sv.waitR (F.map (fun g=>(g.id,g.f))) fired i cs)=Sv.pickB b ((i:Int),t.ids)
  have hle:∀ u∈c.e.wait,Sv.newer ((i:Int),u.ids) ((i:Int),t.ids)=false:=fun u hu=>by
   rw [Sv.newer_no,←Tok.age_ids,←Tok.age_ids]
   have h1:=hfirst u hu
   by_cases h2:0 < cmpL u.age t.age
   ·rw [(Tok.less_iff u t).2 (.inl h2)] at h1
    cases h1
   ·omega
  rw [e] at hsort ⊢
  rw [List.pairwise_append,List.pairwise_cons] at hsort
  refine Sv.best_first _ l1 l2 (fun x hx=>?_) (fun x hx=>?_) b
  ·obtain ⟨u,hu,rfl⟩:=(hmem x).1 (by rw [e]; exact List.mem_append.2 (.inl hx))
   have hlt:=hsort.2.2 _ hx _ (List.mem_cons_self ..)
   have h1:=hfirst u hu
   rw [Sv.newer_yes,←Tok.age_ids,←Tok.age_ids]
   have h2:=hle u hu
   rw [Sv.newer_no,←Tok.age_ids,←Tok.age_ids] at h2
   by_cases h3:cmpL u.age t.age=0
   ·exfalso
    have h4:=cmpL_eq _ _ h3
    have h5:cmpL u.nums t.nums < 0:=by
     have:=lexLt_cmp _ _ hlt
     unfold Tok.nums
     rw [hjl u (h.fd.mem_iff.2 (List.mem_append.2 (.inl hu))),hjl t (h.fd.mem_iff.2 (List.mem_append.2 (.inl ht))),cmpL_pad _ _ _ (by simp [hjl u (h.fd.mem_iff.2 (List.mem_append.2 (.inl hu))),hjl t (h.fd.mem_iff.2 (List.mem_append.2 (.inl ht)))])]
     exact this
    rw [(Tok.less_iff u t).2 (.inr ⟨h4,h5⟩)] at h1
    cases h1
   ·rw [cmpL_flip]
    omega
  ·obtain ⟨u,hu,rfl⟩:=(hmem x).1 (by rw [e]; exact List.mem_append.2 (.inr (List.mem_cons_of_mem _ hx)))
   exact hle u hu
def nextC (b:Option (Nat×Tok)) (i:Nat) (c:Ch):Option (Nat×Tok):=
 match c.e.wait[0]? with
 | none=>b
 | some t=>match b with
  | none=>some (i,t)
  | some (k,u)=>if 0 < cmpL t.age u.age then some (i,t) else some (k,u)
def nextF:Option (Nat×Tok)→Nat→List Ch→Option (Nat×Tok)
 | b,_,[]=>b
 | b,i,c :: chs=>nextF (nextC b i c) (i+1) chs
theorem nextF_app:∀ (chs ds:List Ch) (b:Option (Nat×Tok)) (i:Nat),nextF b i (chs ++ ds)=nextF (nextF b i chs) (i+chs.length) ds
 | [],_,_,_=>rfl
 | c :: chs,ds,b,i=>by
  have:=nextF_app chs ds (nextC b i c) (i+1)
  show nextF (nextC b i c) (i+1) (chs ++ ds)=_
  rw [this,List.length_cons,show i+1+chs.length=i+(chs.length+1) by omega]
  rfl
def Nx (p:Nat×Tok):Int×List Int:=((p.1:Int),p.2.ids)
theorem nextF_best {F:List Ft} (hF:FtAsc F) {fired:List (Int×List Int)}:∀ {rs:List Sv.Rule} {chs:List Ch} {Zs:List (List Tok)} (i:Nat) (b:Option (Nat×Tok)),ChsSt F rs chs Zs→(∀ (j:Nat) (c:Ch) (Z:List Tok),chs[j]?=some c→Zs[j]?=some Z→∀ t∈c.e.toks,(((i+j:Nat):Int),t.ids)∈fired↔t∈Z)→
  (nextF b i chs).map Nx=Sv.best (b.map Nx) (Sv.waitF (F.map (fun g=>(g.id,g.f))) fired i rs)
 | [],[],[],i,b,_,_=>rfl
 | r :: rs,c :: chs,Z :: Zs,i,b,h,hf=>by
  have h1:=h.1.next hF (h.1.ok.jlen h.1.few) (fired:=fired) (i:=i) (hf 0 c Z rfl rfl) (b.map Nx)
  have h2:=nextF_best hF (i+1) (nextC b i c) h.2 (fired:=fired) (fun j d Y hd hY t ht=>by rw [show i+1+j=i+(j+1) by omega]; exact hf (j+1) d Y hd hY t ht)
  unfold Sv.waitF
  rw [Sv.best_app,h1]
  show (nextF (nextC b i c) (i+1) chs).map Nx=_
  rw [h2]
  congr 1
  unfold nextC
  cases c.e.wait[0]? with
  | none=>rfl
  | some t=>
   cases b with
   | none=>rfl
   | some p=>
    obtain ⟨k,u⟩:=p
    simp only [Option.map_some]
    unfold Sv.pickB
    simp only
    have e:Sv.newer ((i:Int),t.ids) (Nx (k,u))=decide (0 < cmpL t.age u.age):=by unfold Sv.newer Nx; rw [←Tok.age_ids,←Tok.age_ids]
    rw [e]
    by_cases hd:0 < cmpL t.age u.age
    ·rw [if_pos hd,decide_eq_true hd,if_pos rfl]; rfl
    ·rw [if_neg hd,decide_eq_false hd,if_neg (by simp)]; rfl
 | [],[],_ :: _,_,_,h,_=>h.elim
 | [],_ :: _,[],_,_,h,_=>h.elim
 | [],_ :: _,_ :: _,_,_,h,_=>h.elim
 | _ :: _,[],[],_,_,h,_=>h.elim
 | _ :: _,[],_ :: _,_,_,h,_=>h.elim
 | _ :: _,_ :: _,[],_,_,h,_=>h.elim
theorem FtAsc.tok {F:List Ft} (h:FtAsc F) {rs:List Sv.Rule} {chs:List Ch} {Zs:List (List Tok)} (hc:ChsSt F rs chs Zs) {fired:List (Int×List Int)} (hf:∀ m,m∈fired↔∃ (i:Nat) (Z:List Tok) (t:Tok),Zs[i]?=some Z∧t∈Z∧m=((i:Int),t.ids)) (j:Nat) (c:Ch) (Z:List Tok) (h1:chs[j]?=some c) (h2:Zs[j]?=some Z) (t:Tok) (ht:t∈c.e.toks):((j:Int),t.ids)∈fired↔t∈Z:=by
 rw [hf]
 constructor
 ·rintro ⟨i,Z',u,k1,k2,k3⟩
  simp only [Prod.mk.injEq] at k3
  obtain ⟨k3,k4⟩:=k3
  have hij:j=i:=by omega
  subst hij
  rw [h2] at k1
  simp only [Option.some.injEq] at k1
  subst k1
  have hj:j < rs.length:=by have:=(List.getElem?_eq_some_iff.1 h1).1; rw [hc.len.1] at this; exact this
  obtain ⟨c2,Z2,p1,p2,p3⟩:=hc.get (List.getElem?_eq_getElem hj)
  rw [h1] at p1
  rw [h2] at p2
  simp only [Option.some.injEq] at p1 p2
  subst p1
  subst p2
  rw [h.ids (p3.ok.inF t ht) (p3.ok.inF u (p3.fd.mem_iff.2 (List.mem_append.2 (.inr k2)))) k4]
  exact k2
 ·exact fun hz=>⟨j,Z,t,h2,hz,rfl⟩
theorem XSt.next {s:Sv.St} {F:List Ft} {chs:List Ch} {Zs:List (List Tok)} (h:XSt s F chs Zs):(nextF none 0 chs).map Nx=Sv.best none (Sv.waits s):=by
 rw [Sv.waits_eq,←h.facts]
 exact nextF_best h.asc 0 none h.rules (fun j c Z h1 h2 t ht=>by rw [Nat.zero_add]; exact h.asc.tok h.rules h.fired j c Z h1 h2 t ht)
theorem Inv.wait {e e':En} (he:e'.toks=e.toks):∀ {B:List Tok} {ns:List Nd},Inv B ns e→Inv B ns e'
 | B,[],h=>by show e'.toks.Perm B; rw [he]; exact h
 | B,n :: ns,h=>⟨h.1,Inv.wait he h.2⟩
def fireCh (c:Ch):Ch:=⟨c.jn,c.ns,⟨c.e.toks,(Hp.popL Tok.less c.e.wait).take (c.e.wait.length - 1)⟩⟩
theorem ChSt.fire {F:List Ft} {cs:List Sv.Cond} {c:Ch} {Z:List Tok} (h:ChSt F cs c Z) {t:Tok} (ht:c.e.wait[0]?=some t):ChSt F cs (fireCh c) (Z ++ [t]):=by
 obtain ⟨_,_,h3,h4⟩:=Hp.pop_ok Tok.less_ord h.ok.heap ht
 refine ⟨⟨h.ok.jn,h.ok.good,Inv.wait (e:=c.e) (e':=(fireCh c).e) rfl h.ok.inv,h3⟩,?_,h.few,h.terms⟩
 show c.e.toks.Perm _
 refine h.fd.trans ((h4.append_right Z).trans ?_)
 rw [List.cons_append,←List.append_assoc]
 exact (List.perm_append_singleton t _).symm
theorem ChsSt.set {F:List Ft}:∀ {rs:List Sv.Rule} {chs:List Ch} {Zs:List (List Tok)} {i:Nat} {r:Sv.Rule} {c':Ch} {Z':List Tok},ChsSt F rs chs Zs→rs[i]?=some r→ChSt F r.conds c' Z'→ChsSt F rs (chs.set i c') (Zs.set i Z')
 | [],_,_,_,_,_,_,_,h,_=>by simp at h
 | r :: rs,c :: chs,Z :: Zs,0,q,_,_,h,hi,hc=>by
  simp only [List.getElem?_cons_zero,Option.some.injEq] at hi
  subst hi
  exact ⟨hc,h.2⟩
 | r :: rs,c :: chs,Z :: Zs,i+1,q,_,_,h,hi,hc=>by
  rw [List.getElem?_cons_succ] at hi
  exact ⟨h.1,ChsSt.set h.2 hi hc⟩
 | _ :: _,[],[],_,_,_,_,h,_,_=>h.elim
 | _ :: _,[],_ :: _,_,_,_,_,h,_,_=>h.elim
 | _ :: _,_ :: _,[],_,_,_,_,h,_,_=>h.elim
theorem XSt.fire {s:Sv.St} {F:List Ft} {chs:List Ch} {Zs:List (List Tok)} (h:XSt s F chs Zs) {i:Nat} {c:Ch} {t:Tok} (hc:chs[i]?=some c) (ht:c.e.wait[0]?=some t) :
  ∃ Zs',XSt ⟨s.rs,s.L,s.cnt,s.fired ++ [((i:Int),t.ids)]⟩ F (chs.set i (fireCh c)) Zs':=by
 have hi:i < s.rs.length:=by have:=(List.getElem?_eq_some_iff.1 hc).1; rw [h.rules.len.1] at this; exact this
 obtain ⟨c2,Z,p1,p2,p3⟩:=h.rules.get (List.getElem?_eq_getElem hi)
 rw [hc] at p1
 simp only [Option.some.injEq] at p1
 subst p1
 have hZl:i < Zs.length:=by rw [h.rules.len.2]; exact hi
 refine ⟨Zs.set i (Z ++ [t]),h.facts,h.asc,h.cnt,h.c0,h.few,h.rules.set (List.getElem?_eq_getElem hi) (p3.fire ht),h.eight,fun m=>?_⟩
 show m∈s.fired ++ [((i:Int),t.ids)]↔_
 rw [List.mem_append,h.fired m,List.mem_singleton]
 constructor
 ·rintro (⟨j,Z',u,k1,k2,rfl⟩ | rfl)
  ·by_cases hij:i=j
   ·subst hij
    rw [p2] at k1
    simp only [Option.some.injEq] at k1
    subst k1
    exact ⟨i,Z ++ [t],u,by rw [List.getElem?_set_self hZl],List.mem_append.2 (.inl k2),rfl⟩
   ·exact ⟨j,Z',u,by rw [List.getElem?_set_ne hij]; exact k1,k2,rfl⟩
  ·exact ⟨i,Z ++ [t],t,by rw [List.getElem?_set_self hZl],List.mem_append.2 (.inr (List.mem_singleton.2 rfl)),rfl⟩
 ·rintro ⟨j,Z',u,k1,k2,rfl⟩
  by_cases hij:i=j
  ·subst hij
   rw [List.getElem?_set_self hZl] at k1
   simp only [Option.some.injEq] at k1
   subst k1
   rcases List.mem_append.1 k2 with k | k
   ·exact .inl ⟨i,Z,u,p2,k,rfl⟩
   ·rw [List.mem_singleton] at k
    subst k
    exact .inr rfl
  ·rw [List.getElem?_set_ne hij] at k1
   exact .inl ⟨j,Z',u,k1,k2,rfl⟩
end Go.Proofs.YtolhbeekfjnfmaaGreatDoor
namespace Go.Proofs.YtolhbeekfjnfmaaGreatDoor
open Go.RowKit
theorem SufAt.takes {U:Nat→Nat} {ru jn Q:Nat} {S:Nat→Prop} {w w':World} (hg:GrS S w w') (hS:∀ i,S i→U i=4+3 * Q∨U i=6+3 * Q) {e e':En} (hl:∀ b tv wv,LastAt U Q b ru jn e tv wv w→∃ wv',LastAt U Q b ru jn e' tv wv' w'):∀ {ns:List Nd} {q k:Nat} {hd:Value},q+ns.length=Q→SufAt U ru jn q k ns e hd w→SufAt U ru jn q k ns e' hd w'
 | [],q,k,hd,hq,h=>by
  obtain ⟨b,tv,wv,rfl,h⟩:=h
  have hq':q=Q:=by simpa using hq
  subst hq'
  obtain ⟨wv',h2⟩:=hl b tv wv h
  exact ⟨b,tv,wv',rfl,h2⟩
 | n :: ns,q,k,hd,hq,h=>by
  obtain ⟨b,nx,tv,lv,ov,fv,rfl,h1,h2⟩:=h
  rw [List.length_cons] at hq
  refine ⟨b,nx,tv,lv,ov,fv,rfl,h1.keep hg (fun i hi hs=>?_) (fun _ _ _=>rfl),SufAt.takes hg hS hl (by omega) h2⟩
  have:=hS i hs
  omega
theorem LastAt.one {U:Nat→Nat} {Q b b' ru jn ru' jn':Nat} {e e':En} {tv wv tv' wv':Value} {w:World} (h:LastAt U Q b ru jn e tv wv w) (h':LastAt U Q b' ru' jn' e' tv' wv' w):b=b':=by
 have h1:=h.own
 have h2:=h'.own
 rcases Nat.lt_trichotomy b b' with hl | hl | hl
 ·exact absurd h1 (h'.low b hl)
 ·exact hl
 ·exact absurd h2 (h.low b' hl)
theorem ChainAt.takes {U:Nat→Nat} {ru jn q b lb:Nat} {ns:List Nd} {e e':En} {tv wv wv':Value} {S:Nat→Prop} {w w':World} (h:ChainAt U ru jn q b ns e w) (hl:LastAt U (q+ns.length) lb ru jn e tv wv w) (hl':LastAt U (q+ns.length) lb ru jn e' tv wv' w') (hg:GrS S w w') (hS:∀ i,S i→U i=4+3 * (q+ns.length)∨U i=6+3 * (q+ns.length)):ChainAt U ru jn q b ns e' w':=by
 obtain ⟨nv,hd,hs,lb',c1,c2,c3,c4,c5,c6,c7⟩:=h.ex
 have hn1:∀ i,U i=1→¬ S i:=fun i hi hx=>by have:=hS i hx; omega
 refine ⟨nv,hd,hs,lb',hg.blk c1 (hn1 b c2),c2,c3.keep2 hg hn1 (fun _ _ e=>e),c4,c5,c6,SufAt.takes hg hS (fun b2 tv2 wv2 h2=>?_) rfl c7⟩
 obtain rfl:=hl.one h2
 have e1:=hl.blk.symm.trans h2.blk
 simp only [Option.some.injEq,Obj.cells.injEq,Array.mk.injEq,List.cons.injEq] at e1
 obtain ⟨⟨rfl,_⟩,_⟩:=e1
 exact ⟨wv',hl'⟩
set_option maxRecDepth 100000 in
set_option maxHeartbeats 2000000 in
theorem aPop_w (b o g cap n:Nat) (cs:Array Value) (ty:TypeId) (l:List Tok) (t:Tok) (w:World) (hb:w.heap[b]?=some (.cells cs ty (0,0))) (ho:cs[o]?=some (.slice (some ⟨g,0,none⟩) (n+1) cap)) (hr:ToksAt (.slice (some ⟨g,0,none⟩) (n+1) cap) l w) (hbg:b≠g) (hl:l.length=n+1) (ht:l[n]?=some t) (hn:n≤2000000000) :
  Calls Tryz.prog 260 #[.pointer (some ⟨b,o,none⟩)] w fun e w'=>e=.returned (.iface 139 (tokV t))∧w.grownBy w' (some b)∧w'.heap[b]?=some (.cells (cs.setIfInBounds o (.slice (some ⟨g,0,none⟩) n cap)) ty (0,0))∧ToksAt (.slice (some ⟨g,0,none⟩) n cap) (l.take n) w':=by
 obtain ⟨p0,p1,p2,p3,hp⟩:=tok_four t
 have eT:tokV t=.agg #[.pointer p0,.pointer p1,.pointer p2,.pointer p3]:=by unfold tokV; rw [hp]
 have hr0:ToksAt (.slice (some ⟨g,0,none⟩) l.length cap) l w:=by rw [hl]; exact hr
 obtain ⟨g',cap',e1,a0,a1,a2,a3⟩:=toks_cells hr0 ht hp
 simp only [Value.slice.injEq,Option.some.injEq,Addr.mk.injEq,and_true,true_and] at e1
 obtain ⟨rfl,rfl⟩:=e1
 have hcap:n+1≤cap:=by
  rcases hr.2.2 with ⟨h1,_⟩ | ⟨g',cap',cur,h1,_,_,h4,_⟩
  ·simp at h1
  ·simp only [Value.slice.injEq,Option.some.injEq,Addr.mk.injEq,and_true] at h1
   omega
 have c0:w.cell? ⟨b,o,none⟩=some (.slice (some ⟨g,0,none⟩) (n+1) cap):=by simp [World.cell?,hb]; simpa using ho
 have z0:w.frozen? ⟨b,o,none⟩=false:=by simp [World.frozen?,hb]
 have hgA:=World.grownBy_alloc w (.cells #[.pointer p0,.pointer p1,.pointer p2,.pointer p3] 139) none
 have hbA:(w.alloc (.cells #[.pointer p0,.pointer p1,.pointer p2,.pointer p3] 139)).heap[b]?=some (.cells cs ty (0,0)):=by rw [hgA.block b (row_lt hb) (by simp)]; exact hb
 have c0A:=hgA.cell c0 (by simp)
 have z0A:(w.alloc (.cells #[.pointer p0,.pointer p1,.pointer p2,.pointer p3] 139)).frozen? ⟨b,o,none⟩=false:=by simp [World.frozen?,hbA]
 have hcut:=hr0.cut n (by omega)
 have hset:=gr_set w b o (.slice (some ⟨g,0,none⟩) n cap)
 have hbs:=row_lt hb
 have hgB:=World.grownBy_alloc (w.setCell ⟨b,o,none⟩ (.slice (some ⟨g,0,none⟩) n cap)) (.cells #[.pointer p0,.pointer p1,.pointer p2,.pointer p3] 139) none
 have HE:=hide (show w.grownBy ((w.setCell ⟨b,o,none⟩ (.slice (some ⟨g,0,none⟩) n cap)).alloc (.cells #[.pointer p0,.pointer p1,.pointer p2,.pointer p3] 139)) (some b)∧((w.setCell ⟨b,o,none⟩ (.slice (some ⟨g,0,none⟩) n cap)).alloc (.cells #[.pointer p0,.pointer p1,.pointer p2,.pointer p3] 139)).heap[b]?=some (.cells (cs.setIfInBounds o (.slice (some ⟨g,0,none⟩) n cap)) ty (0,0))∧ToksAt (.slice (some ⟨g,0,none⟩) n cap) (l.take n) ((w.setCell ⟨b,o,none⟩ (.slice (some ⟨g,0,none⟩) n cap)).alloc (.cells #[.pointer p0,.pointer p1,.pointer p2,.pointer p3] 139)) from by
  refine ⟨gr_trans hset (gr_any hgB (some b)),by rw [hgB.block b (by simp; exact hbs) (by simp),heap_setCell_same _ b o _ _ _ hb],(hcut.other hset (fun k hk e=>?_)).gr hgB⟩
  simp only [Value.ownBlock,Option.some.injEq] at hk e
  omega)
 rw [eT]
 clear hset hcut hb ho hr hr0 ht hp eT hl hgA hgB hbA
 go_enter Tryz.func260,Tryz.ntmps260
 go_wp2
 go_ret
 exact ⟨rfl,unhide HE⟩
def TakePost (b o:Nat) (v:Value) (cs:Array Value) (ty:TypeId) (l:List Tok) (w w':World):Prop:=
 ∃ v',w'.heap[b]?=some (.cells (cs.setIfInBounds o v') ty (0,0))∧ToksAt v' ((Hp.popL Tok.less l).take (l.length - 1)) w'∧GrS (fun k=>k=b∨v.ownBlock=some k) w w'∧∀ g,v'.ownBlock=some g→v.ownBlock=some g
set_option maxRecDepth 100000 in
set_option maxHeartbeats 4000000 in
theorem hPop_w (U:Nat→Nat) (b o g cap n:Nat) (cs:Array Value) (ty:TypeId) (l:List Tok) (t:Tok) (w:World) (h:AgAt U b o g cap l w) (hb:w.heap[b]?=some (.cells cs ty (0,0))) (ho:cs[o]?=some (.slice (some ⟨g,0,none⟩) l.length cap)) (hl:l.length=n+1) (hn:n≤1000000000) (hH:Hp.Is Tok.less l) (ht:l[0]?=some t) :
  Calls Tryz.prog 112 #[.iface 221 (.pointer (some ⟨b,o,none⟩))] w fun e w'=>e=.returned (.iface 139 (tokV t))∧TakePost b o (.slice (some ⟨g,0,none⟩) l.length cap) cs ty l w w':=by
 obtain ⟨p1,p2,_,_⟩:=Hp.pop_ok Tok.less_ord hH ht
 have hN:=aLen_w b o _ _ cap w h.cell
 have hS:=aSwap_w b o g cap l 0 n w h.cell h.ne h.row (by omega) (by omega)
 rw [hl,show ((n+1:Nat):Int)=(n:Int)+1 from by omega] at hN
 rw [show ((0:Nat):Int)=0 from rfl] at hS
 have hkey:∀ w2,w.grownBy w2 (some g)→ToksAt (.slice (some ⟨g,0,none⟩) l.length cap) (Hp.swap l 0 n) w2→Calls Tryz.prog 145 #[.iface 221 (.pointer (some ⟨b,o,none⟩)),.int .i64 0,.int .i64 n] w2 fun e w3=>∃ r,e=.returned (.bool r)∧
   Calls Tryz.prog 260 #[.pointer (some ⟨b,o,none⟩)] w3 fun e w4=>e=.returned (.iface 139 (tokV t))∧TakePost b o (.slice (some ⟨g,0,none⟩) l.length cap) cs ty l w w4:=by
  intro w2 hg2 hr2
  have hA2:=h.swapped hg2 hr2
  have hD:=hdown_w U b o g cap (Hp.swap l 0 n) 0 n w2 hA2 (by rw [Hp.swap_len]; omega) (by rw [Hp.swap_len]; omega) (by rw [Hp.swap_len]; omega)
  rw [show ((0:Nat):Int)=0 from rfl] at hD
  refine hD.mono ?_
  rintro e w3 ⟨r,rfl,hg3,hA3⟩
  have hpop:Hp.down Tok.less n (Hp.swap l 0 n) 0=Hp.popL Tok.less l:=by unfold Hp.popL; rw [hl]; rfl
  rw [hpop] at hA3
  have hr3:=hA3.row
  rw [p1,hl] at hr3
  have hbg:=h.ne
  have hb3:w3.heap[b]?=some (.cells cs ty (0,0)):=by
   rw [hg3.block b (Nat.lt_of_lt_of_le (row_lt hb) hg2.size) (by simpa using hbg),hg2.block b (row_lt hb) (by simpa using hbg)]
   exact hb
  rw [hl] at p2 ho
  refine ⟨r,rfl,?_⟩
  refine (aPop_w b o g cap n cs ty (Hp.popL Tok.less l) t w3 hb3 ho hr3 hbg (by rw [p1,hl]) p2 (by omega)).mono ?_
  rintro e w4 ⟨rfl,hg4,hb4,hr4⟩
  refine ⟨rfl,_,hb4,by rw [hl]; exact hr4,?_,fun k hk=>by simpa [Value.ownBlock] using hk⟩
  exact ((GrS.of hg2 (fun k hk=>.inr (by simpa [Value.ownBlock] using hk)):GrS (fun k=>k=b∨(Value.slice (some ⟨g,0,none⟩) l.length cap).ownBlock=some k) w w2).then hg3 (fun k hk=>.inr (.inr (by simpa [Value.ownBlock] using hk)))).then hg4 (fun k hk=>by simp at hk; exact .inr (.inl hk.symm))
 have HKEY:=hide hkey
 have mN:=Tryz.mLen
 have mS:=Tryz.mSwap
 have mP:=Tryz.mPop
 clear hkey h hb ho hH ht p1 p2
 go_enter Tryz.func112,Tryz.ntmps112
 go_wp2_with fail
 refine hN.mono ?_
 rintro e w1 ⟨rfl,rfl⟩
 clear hN
 go_wp2_with fail
 refine hS.mono ?_
 rintro e w2 ⟨rfl,hg2,hr2⟩
 have hD:=unhide HKEY w2 hg2 hr2
 clear hS HKEY hg2 hr2
 go_wp2_with fail
 refine hD.mono ?_
 rintro e w3 ⟨r,rfl,hP⟩
 clear hD
 go_wp2_with fail
 refine hP.mono ?_
 rintro e w4 ⟨rfl,hT⟩
 have HT:=hide hT
 clear hP hT
 go_wp2
 go_ret
 exact ⟨rfl,unhide HT⟩
set_option maxRecDepth 100000 in
set_option maxHeartbeats 2000000 in
theorem take_w (U:Nat→Nat) (b o g cap n:Nat) (cs:Array Value) (ty:TypeId) (l:List Tok) (t:Tok) (w:World) (h:AgAt U b o g cap l w) (hb:w.heap[b]?=some (.cells cs ty (0,0))) (ho:cs[o]?=some (.slice (some ⟨g,0,none⟩) l.length cap)) (hl:l.length=n+1) (hn:n≤1000000000) (hH:Hp.Is Tok.less l) (ht:l[0]?=some t) :
  Calls Tryz.prog 74 #[.pointer (some ⟨b,o,none⟩)] w fun e w'=>e=.returned (.tuple #[])∧TakePost b o (.slice (some ⟨g,0,none⟩) l.length cap) cs ty l w w':=by
 have hP:=hPop_w U b o g cap n cs ty l t w h hb ho hl hn hH ht
 clear h hb ho hH ht
 go_enter Tryz.func74,Tryz.ntmps74
 go_wp2_with fail
 refine hP.mono ?_
 rintro e w1 ⟨rfl,hT⟩
 have HT:=hide hT
 clear hP hT
 go_wp2
 go_end0
 exact ⟨rfl,unhide HT⟩
set_option maxRecDepth 100000 in
set_option maxHeartbeats 1000000 in
theorem next_none (b o:Nat) (ao:Option Addr) (cap:Nat) (w:World) (hc:w.cell? ⟨b,o,none⟩=some (.slice ao 0 cap)) :
  Calls Tryz.prog 72 #[.pointer (some ⟨b,o,none⟩)] w fun e w'=>e=.returned (.tuple #[.agg #[.pointer none,.pointer none,.pointer none,.pointer none],.bool false])∧w.grownBy w' none:=by
 have hgA:=World.grownBy_alloc w (.cells #[.pointer none,.pointer none,.pointer none,.pointer none] 139) none
 have hcA:=hgA.cell hc (by simp)
 clear hgA
 go_enter Tryz.func72,Tryz.ntmps72
 go_wp2
 refine bodyPost_ret (v:=.tuple #[.agg #[.pointer none,.pointer none,.pointer none,.pointer none],.bool false]) (by simp [results,Tryz.results72,go_sem]) rfl ⟨rfl,?_⟩
 exact World.grownBy_alloc _ _ _
set_option maxRecDepth 100000 in
set_option maxHeartbeats 1000000 in
theorem next_some (b o g cap:Nat) (l:List Tok) (t:Tok) (w:World) (hc:w.cell? ⟨b,o,none⟩=some (.slice (some ⟨g,0,none⟩) l.length cap)) (hr:ToksAt (.slice (some ⟨g,0,none⟩) l.length cap) l w) (ht:l[0]?=some t) :
  Calls Tryz.prog 72 #[.pointer (some ⟨b,o,none⟩)] w fun e w'=>e=.returned (.tuple #[tokV t,.bool true])∧w.grownBy w' none:=by
 obtain ⟨p0,p1,p2,p3,hp⟩:=tok_four t
 have eT:tokV t=.agg #[.pointer p0,.pointer p1,.pointer p2,.pointer p3]:=by unfold tokV; rw [hp]
 obtain ⟨g',cap',e1,a0,a1,a2,a3⟩:=toks_cells hr ht hp
 simp only [Value.slice.injEq,Option.some.injEq,Addr.mk.injEq,and_true,true_and] at e1
 obtain ⟨rfl,rfl⟩:=e1
 have hlm:=hr.le
 unfold maxLen at hlm
 have hl0:0 < l.length:=(List.getElem?_eq_some_iff.1 ht).1
 obtain ⟨n,hn⟩:∃ n,l.length=n+1:=⟨l.length - 1,by omega⟩
 rw [hn] at hc hlm
 have hne:(((n+1:Nat):Int) == 0)=false:=by simp; omega
 rw [eT]
 simp only [Nat.zero_mul,Nat.zero_add] at a0 a1 a2 a3
 have hgA:=World.grownBy_alloc w (.cells #[.pointer none,.pointer none,.pointer none,.pointer none] 139) none
 have hcA:=hgA.cell hc (by simp)
 have b0:=hgA.cell a0 (by simp)
 have b1:=hgA.cell a1 (by simp)
 have b2:=hgA.cell a2 (by simp)
 have b3:=hgA.cell a3 (by simp)
 clear hr ht hp eT hl0 hn hgA
 go_enter Tryz.func72,Tryz.ntmps72
 go_wp2
 refine bodyPost_ret (v:=.tuple #[.agg #[.pointer p0,.pointer p1,.pointer p2,.pointer p3],.bool true]) (by simp [results,Tryz.results72,go_sem]) rfl ⟨rfl,?_⟩
 exact World.grownBy_alloc _ _ _
end Go.Proofs.YtolhbeekfjnfmaaGreatDoor

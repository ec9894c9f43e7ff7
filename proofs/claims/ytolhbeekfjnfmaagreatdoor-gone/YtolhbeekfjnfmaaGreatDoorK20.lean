import Derived.Test.YtolhbeekfjnfmaaGreatDoorK15
import Derived.Test.YtolhbeekfjnfmaaGreatDoorK19
import Derived.Test.YtolhbeekfjnfmaaGreatDoorK18
import Derived.Test.YtolhbeekfjnfmaaGreatDoorK06
namespace Go.Proofs.YtolhbeekfjnfmaaGreatDoor
structure ChOk (F:List Ft) (cs:List Sv.Cond) (c:Ch):Prop where
 jn:c.jn=jnOf 0 cs
 good:Good F [] 0 c.ns cs
 inv:Inv [[]] c.ns c.e
 heap:Hp.Is Tok.less c.e.wait
theorem hp_nil {α:Type} (lt:α→α→Bool):Hp.Is lt ([]:List α):=by
 intro j h1 h2
 simp at h2
theorem ChOk.new (cs:List Sv.Cond):ChOk [] cs (newCh cs)∧Fd [] (newCh cs).e:=by
 refine ⟨⟨rfl,Good.same (mkNs_good cs [] 0) (arr_same _ _ _),?_,heap_arr _ _ (hp_nil _)⟩,Fd.arr _ _ (by unfold Fd; exact List.Perm.refl _)⟩
 have:=Inv.arr (ns:=mkNs [] 0 cs) (e:=⟨[],[]⟩) [[]] (inv_nil cs [] 0)
 exact this
theorem ChOk.few {F:List Ft} {cs:List Sv.Cond} {c:Ch} (h:ChOk F cs c):c.ns.length=cs.length:=h.good.len
theorem ChOk.wf {F:List Ft} {cs:List Sv.Cond} {c:Ch} (h:ChOk F cs c) (hl:cs.length≤4):WF [] c.ns∧∀ t∈c.e.toks,HasAr (endAr [] c.ns) t:=
 Good.wf (A:=[]) (B:=[[]]) h.good (fun s hs=>by simp at hs) (fun t ht=>by simp at ht; subst ht; rfl) h.inv (by simpa using hl)
theorem ChOk.fit {F:List Ft} {cs:List Sv.Cond} {c:Ch} {Z:List Tok} (h:ChOk F cs c) (hZ:Fd Z c.e) (hl:cs.length≤4) (hF:F.length≤16):ChFit c:=by
 obtain ⟨h1,h2⟩:=h.wf hl
 refine ⟨h1,⟨h2,fun t ht=>h2 t (hZ.mem_iff.2 (List.mem_append.2 (.inl ht)))⟩,Good.bd hF (by omega) h.good h.inv (by simp) hZ.le,by rw [h.few]; exact hl⟩
theorem ChOk.add {F:List Ft} {cs:List Sv.Cond} {c:Ch} {Z:List Tok} (h:ChOk F cs c) (hZ:Fd Z c.e) (f:Ft):ChOk (F ++ [f]) cs (addCh f c)∧∃ Z',Fd Z' (addCh f c).e∧(∀ z∈Z',z∈Z)∧∀ t∈(addCh f c).e.wait,t∈c.e.wait∨Tok.has f t=true:=by
 obtain ⟨h1,h2⟩:=addAll_ok f h.good (by simp) (fun t ht=>by simp at ht; subst ht; rfl) h.inv
 obtain ⟨⟨Z',k1,k2⟩,k3,k4⟩:=addAll_comes (f:=f) c.ns.length c.ns hZ h.heap
 exact ⟨⟨h.jn,h1,h2,k3⟩,Z',k1,k2,k4⟩
theorem endAr_jn:∀ (ns:List Nd) (cs:List Sv.Cond) (A:List Nat) {F:List Ft} {ss:List Site} {k:Nat},Good F ss k ns cs→(endAr A ns).length=jnOf A.length cs
 | [],[],_,_,_,_,_=>rfl
 | [],_ :: _,_,_,_,_,h=>h.elim
 | _ :: _,[],_,_,_,_,h=>h.elim
 | n :: ns,c :: cs,A,F,ss,k,h=>by
  obtain ⟨h1,h2,h3,h4⟩:=h
  subst h1
  unfold endAr jnOf
  rw [endAr_jn ns cs _ h4]
  congr 1
  split<;>simp
theorem ChOk.jlen {F:List Ft} {cs:List Sv.Cond} {c:Ch} (h:ChOk F cs c) (hl:cs.length≤4):∀ t∈c.e.toks,t.length=c.jn:=fun t ht=>by
 rw [((h.wf hl).2 t ht).len,endAr_jn c.ns cs [] h.good,h.jn]
 rfl
theorem jnOf_le:∀ (cs:List Sv.Cond) (k:Nat),jnOf k cs≤k+cs.length
 | [],_=>Nat.le_refl _
 | c :: cs,k=>by
  unfold jnOf
  have:=jnOf_le cs (if c.neg=true then k else k+1)
  rw [List.length_cons]
  split at this<;>rename_i hn
  ·rw [if_pos hn]; omega
  ·rw [if_neg hn]; omega
theorem cmpL_pad:∀ (a b z:List Int),a.length=b.length→cmpL (a ++ z) (b ++ z)=cmpL a b
 | [],[],z,_=>by rw [List.nil_append,cmpL_self]; rfl
 | [],_ :: _,_,h=>by simp at h
 | _ :: _,[],_,h=>by simp at h
 | x :: a,y :: b,z,h=>by
  rw [List.cons_append,List.cons_append,cmpL_cons,cmpL_cons,cmpL_pad a b z (by simpa using h)]
theorem ChOk.mats {F:List Ft} {cs:List Sv.Cond} {c:Ch} {l:List Tok} (h:ChOk F cs c) (hl:cs.length≤4) (hok:∀ d∈cs,∀ u∈d.terms,Sv.tOk u) (hF:(F.map (fun g=>(g.id,g.f))).Pairwise (fun p q=>p.1 < q.1)) (hp:l.Perm c.e.toks) (hs:l.Pairwise (fun a b=>cmpL a.nums b.nums≤0)) :
  l.map Tok.ids=Sv.fromD (F.map (fun g=>(g.id,g.f))) cs [] []:=by
 have h1:=Good.outs (ss:=[]) (t:=[]) (b:=[]) h.good (by simp) hok (fun x=>rfl)
 have h2:l.Perm (reach c.ns []):=by
  refine hp.trans ?_
  have:=h.inv.toks
  simpa using this
 have h3:(l.map Tok.ids).Perm (Sv.fromD (F.map (fun g=>(g.id,g.f))) cs [] []):=by
  rw [show ([]:List Int)=([]:Tok).map (fun g=>g.id) from rfl,←h1]
  exact h2.map _
 refine (sorted_eq h3.symm (Sv.fromD_sorted _ hF cs [] []) ?_).symm
 rw [List.pairwise_map]
 refine hs.imp_of_mem (fun {a b} ha hb hab=>?_)
 have la:=h.jlen hl a (hp.mem_iff.1 ha)
 have lb:=h.jlen hl b (hp.mem_iff.1 hb)
 unfold Tok.nums at hab
 rw [la,lb,cmpL_pad _ _ _ (by simp [la,lb])] at hab
 exact hab
end Go.Proofs.YtolhbeekfjnfmaaGreatDoor
namespace Go.Proofs.YtolhbeekfjnfmaaGreatDoor
theorem Good.inF {F:List Ft}:∀ {ss:List Site} {k:Nat} {ns:List Nd} {cs:List Sv.Cond} {B:List Tok} {e:En},Good F ss k ns cs→Inv B ns e→(∀ t∈B,∀ g∈t,g∈F)→∀ t∈e.toks,∀ g∈t,g∈F
 | _,_,[],[],B,e,_,hi,hB,t,ht=>hB t ((show e.toks.Perm B from hi).mem_iff.1 ht)
 | _,_,[],_ :: _,_,_,h,_,_,_,_=>h.elim
 | _,_,_ :: _,[],_,_,h,_,_,_,_=>h.elim
 | ss,k,n :: ns,c :: cs,B,e,h,hi,hB,t,ht=>by
  obtain ⟨_,_,hK,hg⟩:=h
  refine Good.inF hg hi.2 (fun u hu g hgu=>?_) t ht
  obtain ⟨v,hv,huv⟩:=List.mem_flatMap.1 hu
  rcases Nd.ext_mem huv with rfl | ⟨f,hf,rfl⟩
  ·exact hB _ hv g hgu
  ·rcases List.mem_append.1 hgu with h | h
   ·exact hB v hv g h
   ·rw [List.mem_singleton] at h
    subst h
    rw [hK] at hf
    exact (List.mem_filter.1 hf).1
theorem ChOk.inF {F:List Ft} {cs:List Sv.Cond} {c:Ch} (h:ChOk F cs c):∀ t∈c.e.toks,∀ g∈t,g∈F:=
 h.good.inF h.inv (fun t ht=>by simp at ht; subst ht; simp)
theorem ChOk.perm {F:List Ft} {cs:List Sv.Cond} {c:Ch} (h:ChOk F cs c) (hok:∀ d∈cs,∀ u∈d.terms,Sv.tOk u):(c.e.toks.map Tok.ids).Perm (Sv.fromD (F.map (fun g=>(g.id,g.f))) cs [] []):=by
 have h1:=Good.outs (ss:=[]) (t:=[]) (b:=[]) h.good (by simp) hok (fun x=>rfl)
 have h2:c.e.toks.Perm (reach c.ns []):=by have:=h.inv.toks; simpa using this
 rw [show ([]:List Int)=([]:Tok).map (fun g=>g.id) from rfl,←h1]
 exact h2.map _
def FtAsc (F:List Ft):Prop:=F.Pairwise (fun a b=>a.id < b.id∧a.blk < b.blk)
theorem FtAsc.one {F:List Ft} (h:FtAsc F) {a b:Ft} (ha:a∈F) (hb:b∈F) (he:a.id=b.id∨a.blk=b.blk):a=b:=by
 induction F with
 | nil=>simp at ha
 | cons x F ih=>
  obtain ⟨h1,h2⟩:=List.pairwise_cons.1 h
  rcases List.mem_cons.1 ha with rfl | ha'<;>rcases List.mem_cons.1 hb with rfl | hb'
  ·rfl
  ·have:=h1 b hb'; omega
  ·have:=h1 a ha'; omega
  ·exact ih h2 ha' hb'
theorem FtAsc.ids {F:List Ft} (h:FtAsc F):∀ {t u:Tok},(∀ g∈t,g∈F)→(∀ g∈u,g∈F)→t.ids=u.ids→t=u
 | [],[],_,_,_=>rfl
 | [],_ :: _,_,_,he=>by simp [Tok.ids] at he
 | _ :: _,[],_,_,he=>by simp [Tok.ids] at he
 | a :: t,b :: u,ht,hu,he=>by
  simp only [Tok.ids,List.map_cons,List.cons.injEq] at he
  rw [h.one (ht a (List.mem_cons_self ..)) (hu b (List.mem_cons_self ..)) (.inl he.1),FtAsc.ids h (t:=t) (u:=u) (fun g hg=>ht g (List.mem_cons_of_mem _ hg)) (fun g hg=>hu g (List.mem_cons_of_mem _ hg)) he.2]
theorem FtAsc.fst {F:List Ft} (h:FtAsc F):(F.map (fun g=>(g.id,g.f))).Pairwise (fun p q=>p.1 < q.1):=by
 rw [List.pairwise_map]
 exact h.imp (fun h=>h.1)
theorem lexLt_irr:∀ (a:List Int),¬ Sv.lexLt a a:=fun a h=>by have:=lexLt_cmp a a h; rw [cmpL_self] at this; omega
theorem ChOk.nodup {F:List Ft} {cs:List Sv.Cond} {c:Ch} (h:ChOk F cs c) (hok:∀ d∈cs,∀ u∈d.terms,Sv.tOk u) (hF:FtAsc F):c.e.toks.Nodup:=by
 have h1:(Sv.fromD (F.map (fun g=>(g.id,g.f))) cs [] []).Nodup:=by
  rw [List.nodup_iff_pairwise_ne]
  refine (Sv.fromD_sorted _ hF.fst cs [] []).imp (fun {a b} hab e=>?_)
  subst e
  exact lexLt_irr a hab
 have h2:=(h.perm hok).nodup_iff.2 h1
 rw [List.nodup_iff_pairwise_ne,List.pairwise_map] at h2
 rw [List.nodup_iff_pairwise_ne]
 exact h2.imp (fun {a b} hab e=>hab (by rw [e]))
structure ChSt (F:List Ft) (cs:List Sv.Cond) (c:Ch) (Z:List Tok):Prop where
 ok:ChOk F cs c
 fd:Fd Z c.e
 few:cs.length≤4
 terms:∀ d∈cs,∀ u∈d.terms,Sv.tOk u
theorem FtAsc.snoc {F:List Ft} (h:FtAsc F) {f:Ft} (hf:∀ g∈F,g.id < f.id∧g.blk < f.blk):FtAsc (F ++ [f]):=List.pairwise_append.2 ⟨h,List.pairwise_singleton _ _,fun a ha b hb=>by rw [List.mem_singleton] at hb; subst hb; exact hf a ha⟩
theorem ChSt.add {F:List Ft} {cs:List Sv.Cond} {c:Ch} {Z:List Tok} (h:ChSt F cs c Z) (hF:FtAsc F) {f:Ft} (hf:∀ g∈F,g.id < f.id∧g.blk < f.blk):∃ Z',ChSt (F ++ [f]) cs (addCh f c) Z'∧∀ t,t∈Z'↔t∈Z∧t∈(addCh f c).e.toks:=by
 obtain ⟨h1,Z',h2,h3,h4⟩:=h.ok.add h.fd f
 refine ⟨Z',⟨h1,h2,h.few,h.terms⟩,fun t=>⟨fun ht=>⟨h3 t ht,h2.mem_iff.2 (List.mem_append.2 (.inr ht))⟩,fun ⟨ht,ht2⟩=>?_⟩⟩
 rcases List.mem_append.1 (h2.mem_iff.1 ht2) with hw | hz
 ·exfalso
  rcases h4 t hw with hw2 | hh
  ·have hn:=h.fd.nodup_iff.1 (h.ok.nodup h.terms hF)
   exact (List.nodup_append.1 hn).2.2 t hw2 t ht rfl
  ·unfold Tok.has at hh
   rw [List.any_eq_true] at hh
   obtain ⟨g,hg,he⟩:=hh
   have hgF:=h.ok.inF t (h.fd.mem_iff.2 (List.mem_append.2 (.inr ht))) g hg
   have:=(hf g hgF).2
   rw [beq_iff_eq] at he
   omega
 ·exact hz
def ChsSt (F:List Ft):List Sv.Rule→List Ch→List (List Tok)→Prop
 | [],[],[]=>True
 | r :: rs,c :: chs,Z :: Zs=>ChSt F r.conds c Z∧ChsSt F rs chs Zs
 | _,_,_=>False
theorem ChsSt.len {F:List Ft}:∀ {rs:List Sv.Rule} {chs:List Ch} {Zs:List (List Tok)},ChsSt F rs chs Zs→chs.length=rs.length∧Zs.length=rs.length
 | [],[],[],_=>⟨rfl,rfl⟩
 | r :: rs,c :: chs,Z :: Zs,h=>by
  obtain ⟨h1,h2⟩:=ChsSt.len h.2
  exact ⟨by rw [List.length_cons,List.length_cons,h1],by rw [List.length_cons,List.length_cons,h2]⟩
 | [],[],_ :: _,h=>h.elim
 | [],_ :: _,[],h=>h.elim
 | [],_ :: _,_ :: _,h=>h.elim
 | _ :: _,[],[],h=>h.elim
 | _ :: _,[],_ :: _,h=>h.elim
 | _ :: _,_ :: _,[],h=>h.elim
theorem ChsSt.get {F:List Ft}:∀ {rs:List Sv.Rule} {chs:List Ch} {Zs:List (List Tok)} {i:Nat} {r:Sv.Rule},ChsSt F rs chs Zs→rs[i]?=some r→∃ c Z,chs[i]?=some c∧Zs[i]?=some Z∧ChSt F r.conds c Z
 | [],_,_,_,_,_,h=>by simp at h
 | r :: rs,c :: chs,Z :: Zs,0,q,h,hi=>by
  simp only [List.getElem?_cons_zero,Option.some.injEq] at hi
  subst hi
  exact ⟨c,Z,rfl,rfl,h.1⟩
 | r :: rs,c :: chs,Z :: Zs,i+1,q,h,hi=>by
  rw [List.getElem?_cons_succ] at hi
  obtain ⟨c',Z',h1,h2,h3⟩:=ChsSt.get h.2 hi
  exact ⟨c',Z',by rw [List.getElem?_cons_succ]; exact h1,by rw [List.getElem?_cons_succ]; exact h2,h3⟩
 | _ :: _,[],[],_,_,h,_=>h.elim
 | _ :: _,[],_ :: _,_,_,h,_=>h.elim
 | _ :: _,_ :: _,[],_,_,h,_=>h.elim
theorem ChsSt.add {F:List Ft} (hF:FtAsc F) {f:Ft} (hf:∀ g∈F,g.id < f.id∧g.blk < f.blk):∀ {rs:List Sv.Rule} {chs:List Ch} {Zs:List (List Tok)},ChsSt F rs chs Zs→
  ∃ Zs',ChsSt (F ++ [f]) rs (chs.map (addCh f)) Zs'∧∀ (i:Nat) (t:Tok),(∃ Z',Zs'[i]?=some Z'∧t∈Z')↔∃ Z c',Zs[i]?=some Z∧(chs.map (addCh f))[i]?=some c'∧t∈Z∧t∈c'.e.toks
 | [],[],[],_=>⟨[],trivial,fun i t=>⟨fun ⟨_,h,_⟩=>by simp at h,fun ⟨_,_,h,_⟩=>by simp at h⟩⟩
 | r :: rs,c :: chs,Z :: Zs,h=>by
  obtain ⟨Z',h1,h2⟩:=h.1.add hF hf
  obtain ⟨Zs',h3,h4⟩:=ChsSt.add hF hf h.2
  refine ⟨Z' :: Zs',⟨h1,h3⟩,fun i t=>?_⟩
  cases i with
  | zero=>
   simp only [List.getElem?_cons_zero,List.map_cons,Option.some.injEq,exists_eq_left']
   rw [h2 t]
   constructor
   ·rintro ⟨k1,k2⟩
    exact ⟨Z,addCh f c,rfl,rfl,k1,k2⟩
   ·rintro ⟨_,_,rfl,rfl,k1,k2⟩
    exact ⟨k1,k2⟩
  | succ i=>
   rw [List.map_cons]
   simp only [List.getElem?_cons_succ]
   exact h4 i t
 | [],[],_ :: _,h=>h.elim
 | [],_ :: _,[],h=>h.elim
 | [],_ :: _,_ :: _,h=>h.elim
 | _ :: _,[],[],h=>h.elim
 | _ :: _,[],_ :: _,h=>h.elim
 | _ :: _,_ :: _,[],h=>h.elim
theorem Sv.mem_matF (L:List (Int×Sv.Fact)) (m:Int×List Int):∀ (rs:List Sv.Rule) (k:Nat),m∈Sv.matF L k rs↔∃ i r,rs[i]?=some r∧m.1=((k+i:Nat):Int)∧m.2∈Sv.fromD L r.conds [] []
 | [],k=>by simp [Sv.matF]
 | r :: rs,k=>by
  unfold Sv.matF
  rw [List.mem_append,Sv.mem_matF L m rs (k+1)]
  constructor
  ·rintro (h | ⟨i,q,h1,h2,h3⟩)
   ·obtain ⟨ids,h1,rfl⟩:=List.mem_map.1 h
    exact ⟨0,r,rfl,rfl,h1⟩
   ·exact ⟨i+1,q,by rw [List.getElem?_cons_succ]; exact h1,by rw [h2]; congr 1; omega,h3⟩
  ·rintro ⟨i,q,h1,h2,h3⟩
   cases i with
   | zero=>
    simp only [List.getElem?_cons_zero,Option.some.injEq] at h1
    subst h1
    exact .inl (List.mem_map.2 ⟨m.2,h3,by rw [←show m.1=(k:Int) from h2]⟩)
   | succ i=>
    rw [List.getElem?_cons_succ] at h1
    exact .inr ⟨i,q,h1,by rw [h2]; congr 1; omega,h3⟩
theorem Sv.mem_matches (L:List (Int×Sv.Fact)) (m:Int×List Int) (rs:List Sv.Rule):m∈Sv.matches rs L↔∃ (i:Nat) (r:Sv.Rule),rs[i]?=some r∧m.1=(i:Int)∧m.2∈Sv.fromD L r.conds [] []:=by
 unfold Sv.matches
 rw [Sv.mem_matF]
 simp only [Nat.zero_add]
theorem Sv.mem_keepF (ms fd:List (Int×List Int)) (m:Int×List Int):m∈Sv.keepF ms fd↔m∈fd∧m∈ms:=by
 unfold Sv.keepF Sv.hasM
 rw [List.mem_filter,List.any_eq_true]
 constructor
 ·rintro ⟨h1,k,h2,h3⟩
  rw [decide_eq_true_eq] at h3
  subst h3
  exact ⟨h1,h2⟩
 ·rintro ⟨h1,h2⟩
  exact ⟨h1,m,h2,by rw [decide_eq_true_eq]⟩
structure XSt (s:Sv.St) (F:List Ft) (chs:List Ch) (Zs:List (List Tok)):Prop where
 facts:F.map (fun g=>(g.id,g.f))=s.L
 asc:FtAsc F
 cnt:∀ g∈F,1≤g.id∧g.id≤s.cnt
 c0:0≤s.cnt
 few:F.length≤16
 rules:ChsSt F s.rs chs Zs
 eight:s.rs.length≤8
 fired:∀ m,m∈s.fired↔∃ (i:Nat) (Z:List Tok) (t:Tok),Zs[i]?=some Z∧t∈Z∧m=((i:Int),t.ids)
theorem ChsSt.new:∀ (rs:List Sv.Rule),(∀ r∈rs,r.conds.length≤4∧∀ d∈r.conds,∀ u∈d.terms,Sv.tOk u)→ChsSt [] rs (rs.map (fun r=>newCh r.conds)) (rs.map (fun _=>[]))
 | [],_=>trivial
 | r :: rs,h=>⟨⟨(ChOk.new r.conds).1,(ChOk.new r.conds).2,(h r (List.mem_cons_self ..)).1,(h r (List.mem_cons_self ..)).2⟩,ChsSt.new rs (fun q hq=>h q (List.mem_cons_of_mem _ hq))⟩
theorem XSt.new (rs:List Sv.Rule) (h8:rs.length≤8) (h:∀ r∈rs,r.conds.length≤4∧∀ d∈r.conds,∀ u∈d.terms,Sv.tOk u):XSt ⟨rs,[],0,[]⟩ [] (rs.map (fun r=>newCh r.conds)) (rs.map (fun _=>[])):=by
 refine ⟨rfl,List.Pairwise.nil,by simp,Int.le_refl _,by simp,ChsSt.new rs h,h8,fun m=>⟨fun hm=>by simp at hm,fun ⟨i,Z,t,h1,h2,_⟩=>?_⟩⟩
 rw [List.getElem?_map] at h1
 cases hr:rs[i]? with
 | none=>rw [hr] at h1; simp at h1
 | some r=>rw [hr] at h1; simp at h1; subst h1; simp at h2
theorem fired_next {F F' G:List Ft} {rs:List Sv.Rule} {chs chs':List Ch} {Zs Zs':List (List Tok)} {fired:List (Int×List Int)} {L':List (Int×Sv.Fact)} (hG:FtAsc G) (hFG:∀ g∈F,g∈G) (hFG':∀ g∈F',g∈G) (h0:ChsSt F rs chs Zs) (h1:ChsSt F' rs chs' Zs') (hmap:F'.map (fun g=>(g.id,g.f))=L')
  (h2:∀ (i:Nat) (t:Tok),(∃ Z',Zs'[i]?=some Z'∧t∈Z')↔∃ Z c',Zs[i]?=some Z∧chs'[i]?=some c'∧t∈Z∧t∈c'.e.toks)
  (hf:∀ m,m∈fired↔∃ (i:Nat) (Z:List Tok) (t:Tok),Zs[i]?=some Z∧t∈Z∧m=((i:Int),t.ids)) (m:Int×List Int) :
  m∈Sv.keepF (Sv.matches rs L') fired↔∃ (i:Nat) (Z:List Tok) (t:Tok),Zs'[i]?=some Z∧t∈Z∧m=((i:Int),t.ids):=by
 rw [Sv.mem_keepF,hf m,Sv.mem_matches]
 constructor
 ·rintro ⟨⟨i,Z,t,k1,k2,rfl⟩,j,r,k3,k4,k5⟩
  have hij:j=i:=by have:((i:Nat):Int)=(j:Int):=k4; omega
  subst hij
  obtain ⟨c',Z',q1,q2,q3⟩:=h1.get k3
  obtain ⟨c,Z2,q4,q5,q6⟩:=h0.get k3
  rw [k1] at q5
  simp only [Option.some.injEq] at q5
  subst q5
  have hp:=q3.ok.perm q3.terms
  rw [hmap] at hp
  obtain ⟨u,hu,he⟩:=List.mem_map.1 (hp.mem_iff.2 k5)
  have hut:=hG.ids (fun g hg=>hFG' g (q3.ok.inF u hu g hg)) (fun g hg=>hFG g (q6.ok.inF t (q6.fd.mem_iff.2 (List.mem_append.2 (.inr k2))) g hg)) he
  subst hut
  obtain ⟨Z3,q7,q8⟩:=(h2 j u).2 ⟨Z,c',k1,q1,k2,hu⟩
  exact ⟨j,Z3,u,q7,q8,rfl⟩
 ·rintro ⟨i,Z',t,k1,k2,rfl⟩
  obtain ⟨Z,c',q1,q2,q3,q4⟩:=(h2 i t).1 ⟨Z',k1,k2⟩
  have hi:i < rs.length:=by
   have:=(List.getElem?_eq_some_iff.1 q2).1
   rw [h1.len.1] at this
   exact this
  refine ⟨⟨i,Z,t,q1,q3,rfl⟩,i,rs[i],List.getElem?_eq_getElem hi,rfl,?_⟩
  obtain ⟨c2,Z2,p1,p2,p3⟩:=h1.get (List.getElem?_eq_getElem hi)
  rw [q2] at p1
  simp only [Option.some.injEq] at p1
  subst p1
  have hp:=p3.ok.perm p3.terms
  rw [hmap] at hp
  exact hp.mem_iff.1 (List.mem_map.2 ⟨t,q4,rfl⟩)
theorem XSt.add {s:Sv.St} {F:List Ft} {chs:List Ch} {Zs:List (List Tok)} (h:XSt s F chs Zs) {f:Sv.Fact} {blk:Nat} (hb:∀ g∈F,g.blk < blk) (h16:s.L.length < 16) :
  ∃ Zs',XSt ⟨s.rs,s.L ++ [(s.cnt+1,f)],s.cnt+1,Sv.keepF (Sv.matches s.rs (s.L ++ [(s.cnt+1,f)])) s.fired⟩ (F ++ [⟨blk,s.cnt+1,f⟩]) (chs.map (addCh ⟨blk,s.cnt+1,f⟩)) Zs':=by
 have hf:∀ g∈F,g.id < (⟨blk,s.cnt+1,f⟩:Ft).id∧g.blk < (⟨blk,s.cnt+1,f⟩:Ft).blk:=fun g hg=>⟨by have:=(h.cnt g hg).2; show g.id < s.cnt+1; omega,hb g hg⟩
 obtain ⟨Zs',h1,h2⟩:=h.rules.add h.asc hf
 have hmap:(F ++ [(⟨blk,s.cnt+1,f⟩:Ft)]).map (fun g=>(g.id,g.f))=s.L ++ [(s.cnt+1,f)]:=by rw [List.map_append,h.facts]; rfl
 have hl:F.length=s.L.length:=by rw [←h.facts,List.length_map]
 have hasc:=h.asc.snoc hf
 have hc0:=h.c0
 refine ⟨Zs',hmap,hasc,fun g hg=>?_,by show (0:Int)≤s.cnt+1; omega,by rw [List.length_append,List.length_singleton]; omega,h1,h.eight,fired_next hasc (fun g hg=>List.mem_append.2 (.inl hg)) (fun g hg=>hg) h.rules h1 hmap h2 h.fired⟩
 rcases List.mem_append.1 hg with hg | hg
 ·have:=h.cnt g hg; exact ⟨this.1,by show g.id≤s.cnt+1; omega⟩
 ·rw [List.mem_singleton] at hg
  subst hg
  exact ⟨by show 1≤s.cnt+1; omega,Int.le_refl _⟩
def delCh (f:Ft) (c:Ch):Ch:=⟨c.jn,(delC f c.ns c.e).1,(delC f c.ns c.e).2⟩
def lessF (f:Ft) (F:List Ft):List Ft:=F.filter (fun g=>!(g.blk == f.blk))
theorem ChSt.del {F:List Ft} {cs:List Sv.Cond} {c:Ch} {Z:List Tok} (h:ChSt F cs c Z) (hF:FtAsc F) {f:Ft} (hf:f∈F):ChSt (lessF f F) cs (delCh f c) (Z.filter (fun t=>!Tok.has f t))∧∀ t,t∈Z.filter (fun t=>!Tok.has f t)↔t∈Z∧t∈(delCh f c).e.toks:=by
 obtain ⟨h1,h2⟩:=delC_ok h.ok.good (fun g hg he=>by rw [hF.one hg hf (.inr he)]) h.ok.inv (fun t ht=>by simp at ht; subst ht; rfl)
 obtain ⟨h3,h4⟩:=delC_goes (f:=f) (ns:=c.ns) h.fd
 have hok:ChOk (lessF f F) cs (delCh f c):=⟨h.ok.jn,h1,h2,h4⟩
 refine ⟨⟨hok,h3,h.few,h.terms⟩,fun t=>⟨fun ht=>⟨(List.mem_filter.1 ht).1,h3.mem_iff.2 (List.mem_append.2 (.inr ht))⟩,fun ⟨ht,ht2⟩=>List.mem_filter.2 ⟨ht,?_⟩⟩⟩
 have hin:=hok.inF t ht2
 unfold Tok.has
 rw [Bool.not_eq_true',List.any_eq_false]
 intro g hg he
 have:=(List.mem_filter.1 (hin g hg)).2
 rw [he] at this
 cases this
theorem ChsSt.del {F:List Ft} (hF:FtAsc F) {f:Ft} (hf:f∈F):∀ {rs:List Sv.Rule} {chs:List Ch} {Zs:List (List Tok)},ChsSt F rs chs Zs→
  ∃ Zs',ChsSt (lessF f F) rs (chs.map (delCh f)) Zs'∧∀ (i:Nat) (t:Tok),(∃ Z',Zs'[i]?=some Z'∧t∈Z')↔∃ Z c',Zs[i]?=some Z∧(chs.map (delCh f))[i]?=some c'∧t∈Z∧t∈c'.e.toks
 | [],[],[],_=>⟨[],trivial,fun i t=>⟨fun ⟨_,h,_⟩=>by simp at h,fun ⟨_,_,h,_⟩=>by simp at h⟩⟩
 | r :: rs,c :: chs,Z :: Zs,h=>by
  obtain ⟨h1,h2⟩:=h.1.del hF hf
  obtain ⟨Zs',h3,h4⟩:=ChsSt.del hF hf h.2
  refine ⟨_ :: Zs',⟨h1,h3⟩,fun i t=>?_⟩
  cases i with
  | zero=>
   simp only [List.getElem?_cons_zero,List.map_cons,Option.some.injEq,exists_eq_left']
   rw [h2 t]
   constructor
   ·rintro ⟨k1,k2⟩
    exact ⟨Z,delCh f c,rfl,rfl,k1,k2⟩
   ·rintro ⟨_,_,rfl,rfl,k1,k2⟩
    exact ⟨k1,k2⟩
  | succ i=>
   rw [List.map_cons]
   simp only [List.getElem?_cons_succ]
   exact h4 i t
 | [],[],_ :: _,h=>h.elim
 | [],_ :: _,[],h=>h.elim
 | [],_ :: _,_ :: _,h=>h.elim
 | _ :: _,[],[],h=>h.elim
 | _ :: _,[],_ :: _,h=>h.elim
 | _ :: _,_ :: _,[],h=>h.elim
theorem XSt.del {s:Sv.St} {F:List Ft} {chs:List Ch} {Zs:List (List Tok)} (h:XSt s F chs Zs) {f:Ft} (hf:f∈F) :
  ∃ Zs',XSt ⟨s.rs,s.L.filter (fun p=>!(p.1 == f.id)),s.cnt,Sv.keepF (Sv.matches s.rs (s.L.filter (fun p=>!(p.1 == f.id)))) s.fired⟩ (lessF f F) (chs.map (delCh f)) Zs':=by
 obtain ⟨Zs',h1,h2⟩:=h.rules.del h.asc hf
 have hsub:∀ g∈lessF f F,g∈F:=fun g hg=>(List.mem_filter.1 hg).1
 have hmap:(lessF f F).map (fun g=>(g.id,g.f))=s.L.filter (fun p=>!(p.1 == f.id)):=by
  rw [←h.facts,List.filter_map]
  unfold lessF
  congr 1
  refine List.filter_congr (fun g hg=>?_)
  simp only [Function.comp]
  congr 1
  by_cases he:g=f
  ·subst he; simp
  ·have e1:(g.blk == f.blk)=false:=by cases hx:g.blk == f.blk; rfl; rw [beq_iff_eq] at hx; exact absurd (h.asc.one hg hf (.inr hx)) he
   have e2:(g.id == f.id)=false:=by cases hx:g.id == f.id; rfl; rw [beq_iff_eq] at hx; exact absurd (h.asc.one hg hf (.inl hx)) he
   rw [e1,e2]
 refine ⟨Zs',hmap,h.asc.sublist List.filter_sublist,fun g hg=>h.cnt g (hsub g hg),h.c0,Nat.le_trans (List.length_filter_le _ _) h.few,h1,h.eight,fired_next h.asc (fun g hg=>hg) hsub h.rules h1 hmap h2 h.fired⟩
end Go.Proofs.YtolhbeekfjnfmaaGreatDoor
namespace Go.Proofs.YtolhbeekfjnfmaaGreatDoor
theorem Sv.tmF_all (p:Sv.Term→Prop) (hp:∀ l i t j,Sv.term l i=.inr (t,j)→p t) (n:Nat) (l:List UInt8) (acc:List Sv.Term) (i:Nat) (ts:List Sv.Term) (j:Nat) (h:Sv.tmF n l acc i=.inr (ts,j)) (ha:∀ t∈acc,p t):∀ t∈ts,p t:=by
 induction n generalizing acc i with
 | zero=>cases h
 | succ n ih=>
  rw [Sv.tmF_step] at h
  split at h
  ·simp only [Sum.inr.injEq,Prod.mk.injEq] at h
   rw [←h.1]; exact ha
  ·cases hr:Sv.term l (Sv.sk l i) with
   | inl k=>rw [hr] at h; cases h
   | inr q=>
    obtain ⟨t,k⟩:=q
    rw [hr] at h
    refine ih (acc ++ [t]) k h (fun x hx=>?_)
    rcases List.mem_append.1 hx with hx | hx
    ·exact ha x hx
    ·rw [List.mem_singleton] at hx
     rw [hx]
     exact hp l _ t k hr
theorem Sv.cond_all (p:Sv.Term→Prop) (hp:∀ l i t j,Sv.term l i=.inr (t,j)→p t) (l:List UInt8) (i:Nat) (c:Sv.Cond) (j:Nat) (h:Sv.cond l i=.inr (c,j)):∀ t∈c.terms,p t:=by
 unfold Sv.cond at h
 simp only at h
 split at h
 ·split at h
  ·cases ht:Sv.terms l (Sv.sk l (Sv.sk l i+1)+1) with
   | inl m=>rw [ht] at h; cases h
   | inr q=>
    obtain ⟨ts,m⟩:=q
    rw [ht] at h
    simp only [Sum.inr.injEq,Prod.mk.injEq] at h
    obtain ⟨rfl,_⟩:=h
    exact Sv.tmF_all p hp _ l [] _ ts m ht (by simp)
  ·cases h
 ·cases h
theorem Sv.cdF_all (p:Sv.Term→Prop) (hp:∀ l i t j,Sv.term l i=.inr (t,j)→p t) (n:Nat) (l:List UInt8) (acc:List Sv.Cond) (i:Nat) (cs:List Sv.Cond) (j:Nat) (h:Sv.cdF n l acc i=.inr (cs,j)) (ha:∀ c∈acc,∀ t∈c.terms,p t):∀ c∈cs,∀ t∈c.terms,p t:=by
 induction n generalizing acc i with
 | zero=>cases h
 | succ n ih=>
  rw [Sv.cdF_step] at h
  split at h
  ·simp only [Sum.inr.injEq,Prod.mk.injEq] at h
   rw [←h.1]; exact ha
  ·generalize (if (Sv.pk l (Sv.sk l i) == 33)=true then Sv.sk l i+1 else Sv.sk l i)=x at h
   cases hr:Sv.cond l x with
   | inl k=>rw [hr] at h; cases h
   | inr q=>
    obtain ⟨c,k⟩:=q
    rw [hr] at h
    refine ih _ k h (fun y hy=>?_)
    rcases List.mem_append.1 hy with hy | hy
    ·exact ha y hy
    ·rw [List.mem_singleton] at hy
     rw [hy]
     exact Sv.cond_all p hp l x c k hr
theorem Sv.rule_all (p:Sv.Term→Prop) (hp:∀ l i t j,Sv.term l i=.inr (t,j)→p t) (l:List UInt8) (i:Nat) (q:Sv.Rule) (j:Nat) (h:Sv.rule l i=.inr (q,j)):∀ c∈q.conds,∀ t∈c.terms,p t:=by
 unfold Sv.rule at h
 simp only at h
 split at h
 ·cases h
 ·split at h
  ·cases hr:Sv.conds l (Sv.sk l (Sv.nmF 8 l i)+1) with
   | inl m=>rw [hr] at h; cases h
   | inr q2=>
    obtain ⟨cs,m⟩:=q2
    rw [hr] at h
    simp only [Sum.inr.injEq,Prod.mk.injEq] at h
    obtain ⟨rfl,_⟩:=h
    unfold Sv.conds at hr
    cases hc:Sv.cond l (Sv.sk l (Sv.nmF 8 l i)+1) with
    | inl k=>rw [hc] at hr; cases hr
    | inr q3=>
     obtain ⟨c,k⟩:=q3
     rw [hc] at hr
     refine Sv.cdF_all p hp _ l [c] k cs m hr (fun y hy=>?_)
     rw [List.mem_singleton] at hy
     rw [hy]
     exact Sv.cond_all p hp l _ c k hc
  ·cases h
theorem Sv.rlF_all (p:Sv.Term→Prop) (hp:∀ l i t j,Sv.term l i=.inr (t,j)→p t) (n:Nat) (l:List UInt8) (acc:List Sv.Rule) (i:Nat) (rs:List Sv.Rule) (h:Sv.rlF n l acc i=.inr rs) (ha:∀ q∈acc,∀ c∈q.conds,∀ t∈c.terms,p t):∀ q∈rs,∀ c∈q.conds,∀ t∈c.terms,p t:=by
 induction n generalizing acc i with
 | zero=>cases h
 | succ n ih=>
  rw [Sv.rlF_step] at h
  split at h
  ·cases hr:Sv.rule l i with
   | inl k=>rw [hr] at h; cases h
   | inr q2=>
    obtain ⟨q,k⟩:=q2
    rw [hr] at h
    refine ih _ (Sv.sk l k) h (fun y hy=>?_)
    rcases List.mem_append.1 hy with hy | hy
    ·exact ha y hy
    ·rw [List.mem_singleton] at hy
     rw [hy]
     exact Sv.rule_all p hp l i q k hr
  ·simp only [Sum.inr.injEq] at h
   rw [←h]; exact ha
theorem Sv.term_tOk' (l:List UInt8) (i:Nat) (t:Sv.Term) (j:Nat) (h:Sv.term l i=.inr (t,j)):Sv.tOk t:=by
 unfold Sv.term at h
 split at h
 ·simp only [Sum.inr.injEq,Prod.mk.injEq] at h
  obtain ⟨rfl,_⟩:=h
  exact ⟨Nat.zero_le _,fun h=>by cases h⟩
 ·split at h
  ·simp only [Sum.inr.injEq,Prod.mk.injEq] at h
   obtain ⟨rfl,_⟩:=h
   exact ⟨Nat.le_succ _,fun _=>rfl⟩
  ·split at h
   ·have h3:=(Sv.number_shape _ _ _ _ h).1
    rw [h3]
    exact ⟨Nat.le_refl _,fun h=>by cases h⟩
   ·cases h
theorem Sv.rules_tOk (l:List UInt8) (rs:List Sv.Rule) (h:Sv.rules l=.inr rs):∀ q∈rs,∀ c∈q.conds,∀ t∈c.terms,Sv.tOk t:=Sv.rlF_all Sv.tOk Sv.term_tOk' _ l [] _ rs h (by simp)
end Go.Proofs.YtolhbeekfjnfmaaGreatDoor
namespace Go.Proofs.YtolhbeekfjnfmaaGreatDoor
open Go.RowKit
theorem NetAt.keep {U U':Nat→Nat} {nb:Nat} {chs:List Ch} {w w':World} {S:Nat→Prop} (h:NetAt U nb chs w) (hg:GrS S w w') (hs:∀ i,(U i=1∨4≤U i)→¬ S i) (ho:∀ i,i < w.heap.size→U' i=U i):NetAt U' nb chs w':=by
 obtain ⟨cv,bs,h1,h2,h3,h4⟩:=h
 exact ⟨cv,bs,hg.blk h1 (hs nb (.inl h2)),by rw [ho nb (row_lt h1)]; exact h2,h3.keep2 hg (fun i hi=>hs i (.inl hi)) (fun i hi e=>by rw [ho i hi]; exact e),ChsAt.keep hg ho h4 (fun i hi=>hs i (by omega))⟩
structure XAt (U:Nat→Nat) (x nb:Nat) (fv:Value) (F:List Ft) (cnt:Int) (chs:List Ch) (w:World):Prop where
 blk:w.heap[x]?=some (.cells #[.pointer (some ⟨nb,0,none⟩),fv,.int .i64 cnt] 88 (0,0))
 ux:U x=2
 facts:TRow U 3 90 1 fenc fv F w
 fts:∀ g∈F,FtAt U g w
 net:NetAt U nb chs w
theorem XAt.keep {U U':Nat→Nat} {x nb:Nat} {fv:Value} {F:List Ft} {cnt:Int} {chs:List Ch} {w w':World} {S:Nat→Prop} (h:XAt U x nb fv F cnt chs w) (hg:GrS S w w') (hs:∀ i,U i≠0→¬ S i) (ho:∀ i,i < w.heap.size→U' i=U i):XAt U' x nb fv F cnt chs w':=
 ⟨hg.blk h.blk (hs x (by rw [h.ux]; omega)),by rw [ho x (row_lt h.blk)]; exact h.ux,h.facts.keep2 hg (fun i hi=>hs i (by omega)) (fun i hi e=>by rw [ho i hi]; exact e),fun g hg'=>(h.fts g hg').keep hg (fun i hi=>hs i (by omega)) (fun i hi e=>by rw [ho i hi]; exact e),h.net.keep hg (fun i hi=>hs i (by omega)) ho⟩
theorem xAddMem {U:Nat→Nat} {x nb blk n m:Nat} {fv v v':Value} {F:List Ft} {cnt:Int} {chs:List Ch} {f:Sv.Fact} {w w1 w3 w4 w5:World} (h:XAt U x nb fv F cnt chs w) (hg1:w.grownBy w1 none) (hg3:(w1.setCell ⟨x,2,none⟩ (.int .i64 (cnt+1))).grownBy w3 none)
  (hb:w.heap.size≤blk) (hbk:w3.heap[blk]?=some (.cells #[.int .i64 f.kind,v,.int .i64 (cnt+1)] 93 (0,0))) (h4:f.vals.length≤4) (hv:IsAt w.heap.size v f.vals w3) (hg4:w3.grownBy w4 none) (hl:Longer fv v' n m w4 w5) (hr:RowAt 90 1 fenc 0 v' (F ++ [⟨blk,cnt+1,f⟩]) w5) :
  ∃ U6,XAt U6 x nb v' (F ++ [⟨blk,cnt+1,f⟩]) (cnt+1) chs (w5.setCell ⟨x,1,none⟩ v')∧FtAt U6 ⟨blk,cnt+1,f⟩ (w5.setCell ⟨x,1,none⟩ v')∧GrS (fun i=>2≤U i) w (w5.setCell ⟨x,1,none⟩ v')∧∀ i,i < w.heap.size→U6 i=U i:=by
 have hxl:=row_lt h.blk
 have hsc:(w1.setCell ⟨x,2,none⟩ (.int .i64 (cnt+1))).heap.size=w1.heap.size:=by simp
 have hs1:=hg1.size
 have hs3:=hg3.size
 have hs4:=hg4.size
 rw [hsc] at hs3
 have hset2:=gr_set w1 x 2 (.int .i64 (cnt+1))
 have hset1:=gr_set w5 x 1 v'
 have hfl:∀ g,fv.ownBlock=some g→g < w.heap.size:=fun g hg=>(h.facts.1.own g hg).2
 have hfo:∀ g,fv.ownBlock=some g→U g=3:=h.facts.2
 have hG4:GrS (fun i=>i=x) w w4:=(((GrS.of hg1 (by simp):GrS (fun i=>i=x) w w1).then hset2 (fun g hg=>by simp at hg; exact .inr hg.symm)).then hg3 (by simp)).then hg4 (by simp)
 have hG5:GrS (fun i=>i=x∨fv.ownBlock=some i) w w5:=(hG4.mono (fun i hi=>.inl hi):GrS (fun i=>i=x∨fv.ownBlock=some i) w w4).trans (hl.gr (fun g hg=>.inr hg))
 have hG6:GrS (fun i=>i=x∨fv.ownBlock=some i) w (w5.setCell ⟨x,1,none⟩ v'):=hG5.then hset1 (fun g hg=>by simp at hg; exact .inr (.inl hg.symm))
 have hxo:fv.ownBlock≠some x:=fun e=>by have:=hfo x e; have:=h.ux; omega
 have hx3:w3.heap[x]?=some (.cells #[.pointer (some ⟨nb,0,none⟩),fv,.int .i64 (cnt+1)] 88 (0,0)):=by
  have hx1:w1.heap[x]?=some (.cells #[.pointer (some ⟨nb,0,none⟩),fv,.int .i64 cnt] 88 (0,0)):=by rw [hg1.block x hxl (by simp)]; exact h.blk
  rw [hg3.block x (by rw [hsc]; omega) (by simp),heap_setCell_same w1 x 2 _ _ _ hx1]
  rfl
 have hx5:w5.heap[x]?=some (.cells #[.pointer (some ⟨nb,0,none⟩),fv,.int .i64 (cnt+1)] 88 (0,0)):=hl.block (by rw [hg4.block x (by omega) (by simp)]; exact hx3) hxo
 obtain ⟨U6,hU6⟩:∃ U6:Nat→Nat,U6=fun i=>if i < w.heap.size then U i else if i < w3.heap.size then 1 else 3:=⟨_,rfl⟩
 have o6:∀ i,i < w.heap.size→U6 i=U i:=fun i hi=>by rw [hU6]; dsimp only; rw [if_pos hi]
 have m6:∀ i,w.heap.size≤i→i < w3.heap.size→U6 i=1:=fun i hi h3=>by rw [hU6]; dsimp only; rw [if_neg (by omega),if_pos h3]
 have n6:∀ i,w3.heap.size≤i→U6 i=3:=fun i hi=>by rw [hU6]; dsimp only; rw [if_neg (by omega),if_neg (by omega)]
 clear hU6
 have hv'o:∀ g,v'.ownBlock=some g→U6 g=3∧g≠x:=by
  intro g hg
  rcases hl.own g hg with e | e
  ·exact ⟨by rw [o6 g (hfl g e)]; exact hfo g e,fun e'=>hxo (by rw [←e']; exact e)⟩
  ·exact ⟨n6 g (by omega),by omega⟩
 have hG36:GrS (fun i=>i=x∨fv.ownBlock=some i) w3 (w5.setCell ⟨x,1,none⟩ v'):=(((GrS.of hg4 (by simp):GrS (fun i=>i=x∨fv.ownBlock=some i) w3 w4)).trans (hl.gr (fun g hg=>.inr hg))).then hset1 (fun g hg=>by simp at hg; exact .inr (.inl hg.symm))
 have hfn:FtAt U6 ⟨blk,cnt+1,f⟩ (w5.setCell ⟨x,1,none⟩ v'):=by
  refine ⟨m6 blk hb (row_lt hbk),h4,v,hG36.blk hbk (fun e=>?_),⟨hG36.row (hv.weak (Nat.zero_le _)) (fun g hg e=>?_),fun g hg=>?_⟩⟩
  ·rcases e with e | e
   ·have e':blk=x:=e
    omega
   ·have e':blk < w.heap.size:=hfl _ e
    omega
  ·have:=(hv.own g hg).1
   rcases e with e | e
   ·omega
   ·have:=hfl _ e; omega
  ·exact m6 g (hv.own g hg).1 (hv.own g hg).2
 have hn1:∀ i,U i=1∨4≤U i→¬ (i=x∨fv.ownBlock=some i):=by
  rintro i hi (e | e)
  ·rw [e,h.ux] at hi; omega
  ·rw [hfo i e] at hi; omega
 refine ⟨U6,⟨?_,by rw [o6 x hxl]; exact h.ux,⟨?_,fun g hg=>(hv'o g hg).1⟩,fun g hg=>?_,h.net.keep hG6 hn1 o6⟩,hfn,hG6.mono (fun i hi=>?_),o6⟩
 ·rw [heap_setCell_same w5 x 1 _ _ _ hx5]; rfl
 ·exact hr.other hset1 (fun g hg e=>(hv'o g hg).2 (by simp at e; exact e.symm))
 ·rcases List.mem_append.1 hg with hg | hg
  ·exact (h.fts g hg).keep hG6 (fun i hi=>hn1 i (.inl hi)) (fun i hi e=>by rw [o6 i hi]; exact e)
  ·simp only [List.mem_singleton] at hg
   subst hg
   exact hfn
 ·rcases hi with e | e
  ·rw [e,h.ux]; omega
  ·rw [hfo i e]; omega
theorem cell_at_two0 {w:World} {b t:Nat} {x y:Value} (h:w.heap[b]?=some (.cells #[x,y] t (0,0))):w.cell? ⟨b,0,none⟩=some x:=by simp [World.cell?,h]
theorem cell_at_two1 {w:World} {b t:Nat} {x y:Value} (h:w.heap[b]?=some (.cells #[x,y] t (0,0))):w.cell? ⟨b,1,none⟩=some y:=by simp [World.cell?,h]
theorem Tryz.infopNFact:(Tryz.prog.info? 90).map (fun i=>(i.zero,i.size,i.bytes))=some (some (.pointer none),1,8):=by kernel_rfl
def XAddPost (U:Nat→Nat) (x nb:Nat) (F:List Ft) (cnt:Int) (chs:List Ch) (f:Sv.Fact) (w w':World):Prop:=
 ∃ U' fv' blk,w.heap.size≤blk∧XAt U' x nb fv' (F ++ [⟨blk,cnt+1,f⟩]) (cnt+1) (chs.map (addCh ⟨blk,cnt+1,f⟩)) w'∧GrS (fun i=>2≤U i) w w'∧∀ i,i < w.heap.size→U' i=U i
set_option maxRecDepth 100000 in
set_option maxHeartbeats 1000000 in
theorem xAdd_no (x:Nat) (f:Sv.Fact) (fa:Option Addr) (fc:Nat) (w:World) (hin:InAt (.slice fa f.vals.length fc) f.vals w) (hl:f.vals.length≤maxLen) (hno:Sv.factOk f=false) :
  Calls Tryz.prog 18 #[.pointer (some ⟨x,0,none⟩),.agg #[.int .i64 f.kind,.slice fa f.vals.length fc]] w fun e w'=>e=.returned (.tuple #[.int .i64 0,.int .i64 3])∧w.grownBy w' none:=by
 have hgA:=World.grownBy_alloc w (.cells #[.int .i64 f.kind,.slice fa f.vals.length fc] 37) none
 have hI:=isFact_w f fa fc _ (hin.gr hgA) hl
 rw [hno] at hI
 clear hin hno
 go_enter Tryz.func18,Tryz.ntmps18
 go_wp2_with (go_at_call 39; refine hI.mono ?_; rintro e w1 ⟨rfl,hg1⟩)
 go_ret2
 exact ⟨rfl,gr_trans hgA hg1⟩
set_option maxRecDepth 100000 in
set_option maxHeartbeats 1000000 in
theorem xAdd_full (U:Nat→Nat) (x nb:Nat) (fv:Value) (F:List Ft) (cnt:Int) (chs:List Ch) (f:Sv.Fact) (fa:Option Addr) (fc:Nat) (w:World) (h:XAt U x nb fv F cnt chs w) (hin:InAt (.slice fa f.vals.length fc) f.vals w) (hl:f.vals.length≤maxLen) (hyes:Sv.factOk f=true) (hF:F.length=16) :
  Calls Tryz.prog 18 #[.pointer (some ⟨x,0,none⟩),.agg #[.int .i64 f.kind,.slice fa f.vals.length fc]] w fun e w'=>e=.returned (.tuple #[.int .i64 0,.int .i64 4])∧w.grownBy w' none:=by
 have hgA:=World.grownBy_alloc w (.cells #[.int .i64 f.kind,.slice fa f.vals.length fc] 37) none
 have hI:=isFact_w f fa fc _ (hin.gr hgA) hl
 rw [hyes] at hI
 obtain ⟨ao,cap,hfv⟩:=h.facts.1.slice
 rw [hF] at hfv
 have c1:w.cell? ⟨x,1,none⟩=some (.slice ao 16 cap):=by simp [World.cell?,h.blk,hfv]
 clear h hin hyes
 go_enter Tryz.func18,Tryz.ntmps18
 go_wp2_with (go_at_call 39; refine hI.mono ?_; rintro e w1 ⟨rfl,hg1⟩; have d1:=(gr_trans hgA hg1).cell c1 (by simp))
 go_ret2
 exact ⟨rfl,gr_trans hgA hg1⟩
set_option maxRecDepth 100000 in
set_option maxHeartbeats 4000000 in
theorem xAdd_yes (U:Nat→Nat) (x nb:Nat) (fv:Value) (F:List Ft) (cnt:Int) (chs:List Ch) (f:Sv.Fact) (fa:Option Addr) (fc:Nat) (w:World) (h:XAt U x nb fv F cnt chs w) (hin:InAt (.slice fa f.vals.length fc) f.vals w) (hl:f.vals.length≤4) (hyes:Sv.factOk f=true) (hF:F.length < 16) (hfit:∀ c∈chs,ChFit c) (hc0:0≤cnt) (hc1:cnt≤4611686018427387904) (hne:(Value.slice fa f.vals.length fc).ownBlock≠some x) :
  Calls Tryz.prog 18 #[.pointer (some ⟨x,0,none⟩),.agg #[.int .i64 f.kind,.slice fa f.vals.length fc]] w fun e w'=>e=.returned (.tuple #[.int .i64 (cnt+1),.int .i64 0])∧XAddPost U x nb F cnt chs f w w':=by
 have hgA:=World.grownBy_alloc w (.cells #[.int .i64 f.kind,.slice fa f.vals.length fc] 37) none
 have hx0:=heap_alloc_new w (.cells #[.int .i64 f.kind,.slice fa f.vals.length fc] 37)
 have hI:=isFact_w f fa fc _ (hin.gr hgA) (by unfold maxLen; omega)
 rw [hyes] at hI
 obtain ⟨ao,cap,hfv⟩:=h.facts.1.slice
 subst hfv
 have c0:w.cell? ⟨x,0,none⟩=some (.pointer (some ⟨nb,0,none⟩)):=by simp [World.cell?,h.blk]
 have c1:w.cell? ⟨x,1,none⟩=some (.slice ao F.length cap):=by simp [World.cell?,h.blk]
 have c2:w.cell? ⟨x,2,none⟩=some (.int .i64 cnt):=by simp [World.cell?,h.blk]
 have hxl:=row_lt h.blk
 have H:=hide h
 have HIN:=hide hin
 have HFIT:=hide hfit
 have hd:decide ((16:Int)≤(F.length:Int))=false:=by simp; omega
 clear hin hyes hfit h
 go_enter Tryz.func18,Tryz.ntmps18
 go_wp2_with (go_at_call 39; refine hI.mono ?_; rintro e w1 ⟨rfl,hg1⟩; have d1:=(gr_trans hgA hg1).cell c1 (by simp); have d2:=(gr_trans hgA hg1).cell c2 (by simp); have df:w1.frozen? ⟨x,2,none⟩=false:=(by simp [World.frozen?,(gr_trans hgA hg1).block x hxl (by simp),(unhide H).blk]))
 have hgw1:=gr_trans hgA hg1
 have hset:=gr_set w1 x 2 (.int .i64 (cnt+1))
 have hb1:w1.heap[w.heap.size]?=some (.cells #[.int .i64 f.kind,.slice fa f.vals.length fc] 37 (0,0)):=by rw [hg1.block _ (row_lt hx0) (by simp)]; exact hx0
 have hx1:w1.heap[x]?=some (.cells #[.pointer (some ⟨nb,0,none⟩),.slice ao F.length cap,.int .i64 cnt] 88 (0,0)):=by rw [hgw1.block x hxl (by simp)]; exact (unhide H).blk
 have hbS:(w1.setCell ⟨x,2,none⟩ (.int .i64 (cnt+1))).heap[w.heap.size]?=some (.cells #[.int .i64 f.kind,.slice fa f.vals.length fc] 37 (0,0)):=by rw [hset.block _ (row_lt hb1) (by simp; omega)]; exact hb1
 have hxS:(w1.setCell ⟨x,2,none⟩ (.int .i64 (cnt+1))).heap[x]?=some (.cells #[.pointer (some ⟨nb,0,none⟩),.slice ao F.length cap,.int .i64 (cnt+1)] 88 (0,0)):=by rw [heap_setCell_same w1 x 2 _ _ _ hx1]; rfl
 have hiS:=((unhide HIN).gr hgw1).kept hset (fun g hg e=>hne (by rw [hg]; exact e.symm))
 have hsS:w.heap.size≤(w1.setCell ⟨x,2,none⟩ (.int .i64 (cnt+1))).heap.size:=by simp; exact hgw1.size
 have HGW1:=hide hgw1
 have HMEM:=hide (fun (w3 w4 w5:World) (blk n m:Nat) (v v':Value) (hg3:(w1.setCell ⟨x,2,none⟩ (.int .i64 (cnt+1))).grownBy w3 none) hb hbk hv (hg4:w3.grownBy w4 none) (hl5:Longer (.slice ao F.length cap) v' n m w4 w5) hr=>xAddMem (f:=f) (blk:=blk) (v:=v) (unhide H) hgw1 hg3 hb hbk hl hv hg4 hl5 hr)
 have HS1:=hide (show GrS (fun i=>i=x) w1 (w1.setCell ⟨x,2,none⟩ (.int .i64 (cnt+1))) from GrS.of hset (fun g hg=>by simp at hg; exact hg.symm))
 clear hset hb1 hx1 hI hgA hx0 hg1 hgw1 d1 d2 df c0 c1 c2
 generalize w1.setCell ⟨x,2,none⟩ (.int .i64 (cnt+1))=wS at hbS hxS hiS hsS HMEM HS1 ⊢
 have s0:=cell_at_two0 hbS
 have s1:=cell_at_two1 hbS
 have s2:wS.cell? ⟨x,2,none⟩=some (.int .i64 (cnt+1)):=by simp [World.cell?,hxS]
 have hcp:∀ wx,wS.grownBy wx none→Calls Tryz.prog 40 #[.agg #[.int .i64 f.kind,.slice fa f.vals.length fc]] wx fun e w'=>∃ ao cap,e=.returned (.agg #[.int .i64 f.kind,.slice ao f.vals.length cap])∧wS.grownBy w' none∧IsAt w.heap.size (.slice ao f.vals.length cap) f.vals w'∧w'.cell? ⟨w.heap.size,0,none⟩=some (.int .i64 f.kind)∧w'.cell? ⟨w.heap.size,1,none⟩=some (.slice fa f.vals.length fc)∧w'.cell? ⟨x,2,none⟩=some (.int .i64 (cnt+1)):=by
  intro wx hx
  refine (copyOf_w f fa fc wx (hiS.gr hx) hl).mono ?_
  rintro e w' ⟨ao2,cap2,rfl,hg2,hv2⟩
  have hg:=gr_trans hx hg2
  exact ⟨ao2,cap2,rfl,hg,hv2.weak (Nat.le_trans hsS hx.size),hg.cell s0 (by simp),hg.cell s1 (by simp),hg.cell s2 (by simp)⟩
 clear hbS hiS
 go_cut [6] (fun z wx=>∃ blk v,z=.pointer (some ⟨blk,0,none⟩)∧Hid (wS.grownBy wx none∧w.heap.size≤blk∧wx.heap[blk]?=some (.cells #[.int .i64 f.kind,v,.int .i64 (cnt+1)] 93 (0,0))∧IsAt w.heap.size v f.vals wx))
 case first=>
  go_region_held3 (fun w'=>w'.cell? ⟨w.heap.size,0,none⟩=some (.int .i64 f.kind)∧w'.cell? ⟨w.heap.size,1,none⟩=some (.slice fa f.vals.length fc)∧w'.cell? ⟨x,2,none⟩=some (.int .i64 (cnt+1))) (first | exact z2 | go_keep)
   (first | (go_at_call 40; refine (hcp _ (by repeat (first | with_reducible exact World.grownBy.refl _ _ | with_reducible apply gr_drew))).mono ?_; rintro e w2 ⟨ao2,cap2,rfl,hg2,hv2,z2⟩))
  all_goals
   go_wp2_with fail
   go_meet
   have hga:=World.grownBy_alloc w2 (.cells #[.int .i64 f.kind,.slice ao2 f.vals.length cap2,.int .i64 (cnt+1)] 93) none
   exact ⟨_,_,rfl,hide ⟨gr_trans hg2 hga,Nat.le_trans hsS hg2.size,heap_alloc_new _ _,hv2.gr hga⟩⟩
 case rest=>
  obtain ⟨blk,v,rfl,HF⟩:=hcut
  obtain ⟨hg3,hb,hbk,hv⟩:=unhide HF
  clear hcp s0 s1 s2
  have hxc:wc.heap[x]?=some (.cells #[.pointer (some ⟨nb,0,none⟩),.slice ao F.length cap,.int .i64 (cnt+1)] 88 (0,0)):=by rw [hg3.block x (row_lt hxS) (by simp)]; exact hxS
  have q1:wc.cell? ⟨x,1,none⟩=some (.slice ao F.length cap):=by simp [World.cell?,hxc]
  have hgL:=World.grownBy_alloc wc (.cells #[.pointer (some ⟨blk,0,none⟩)] 90) none
  have hr2:RowAt 90 1 fenc 0 (.slice ao F.length cap) F (wc.alloc (.cells #[.pointer (some ⟨blk,0,none⟩)] 90)):=by
   have h0:=(unhide H).facts.1
   have hG:GrS (fun i=>i=x) w wc:=(((GrS.of (unhide HGW1) (by simp):GrS (fun i=>i=x) w w1))).comp (S':=fun i=>i=x) ?_ (fun i _ hn=>hn)
   ·exact (hG.row h0 (fun g hg e=>by have:=(unhide H).facts.2 g hg; rw [e,(unhide H).ux] at this; omega)).gr hgL
   ·exact unhide HS1 |>.then hg3 (by simp)
  have hsrc:RowAt 90 1 fenc 0 (.slice (some ⟨wc.heap.size,0,none⟩) 1 1) [(⟨blk,cnt+1,f⟩:Ft)] (wc.alloc (.cells #[.pointer (some ⟨blk,0,none⟩)] 90)):=(RowAt.lit1 (e:=90) fenc_len wc (⟨blk,cnt+1,f⟩:Ft) #[.pointer (some ⟨blk,0,none⟩)] rfl).weak (Nat.zero_le _)
  have hxo:(Value.slice ao F.length cap).ownBlock≠some x:=fun e=>by have:=(unhide H).facts.2 x e; have:=(unhide H).ux; omega
  have hkey:∀ v5 w5,RowAt 90 1 fenc 0 v5 (F ++ [(⟨blk,cnt+1,f⟩:Ft)]) w5→Longer (.slice ao F.length cap) v5 F.length [(⟨blk,cnt+1,f⟩:Ft)].length (wc.alloc (.cells #[.pointer (some ⟨blk,0,none⟩)] 90)) w5→
    (w5.cell? ⟨x,1,none⟩=some (.slice ao F.length cap)∧w5.frozen? ⟨x,1,none⟩=false∧(w5.setCell ⟨x,1,none⟩ v5).cell? ⟨x,0,none⟩=some (.pointer (some ⟨nb,0,none⟩)))∧
    Calls Tryz.prog 41 #[.pointer (some ⟨nb,0,none⟩),.pointer (some ⟨blk,0,none⟩)] (w5.setCell ⟨x,1,none⟩ v5) fun e w'=>e=.returned (.tuple #[])∧w'.cell? ⟨blk,2,none⟩=some (.int .i64 (cnt+1))∧Hid (XAddPost U x nb F cnt chs f w w'):=by
   intro v5 w5 hv5 hl5
   obtain ⟨U6,hX6,hF6,hG6,ho6⟩:=unhide HMEM wc _ w5 blk _ _ v v5 hg3 hb hbk hv hgL hl5 hv5
   have hx5:w5.heap[x]?=some (.cells #[.pointer (some ⟨nb,0,none⟩),.slice ao F.length cap,.int .i64 (cnt+1)] 88 (0,0)):=hl5.block (by rw [hgL.block x (row_lt hxc) (by simp)]; exact hxc) hxo
   refine ⟨⟨by simp [World.cell?,hx5],by simp [World.frozen?,hx5],by simp [World.cell?,hX6.blk]⟩,?_⟩
   refine (nAdd_w U6 nb chs ⟨blk,cnt+1,f⟩ _ hX6.net (unhide HFIT) hF6).mono ?_
   rintro e w7 ⟨rfl,U7,k1,k2,k3,k4⟩
   have hn7:∀ i,U6 i < 4→¬ (4≤U6 i):=fun i hi h=>by omega
   obtain ⟨_,_,v7,hb7,_⟩:=k3
   refine ⟨rfl,by have hb7':w7.heap[blk]?=_:=hb7; simp [World.cell?,hb7'],hide ⟨U7,v5,blk,hb,⟨k2.blk hX6.blk (hn7 x (by rw [hX6.ux]; omega)),by rw [k4 x (row_lt hX6.blk)]; exact hX6.ux,hX6.facts.keep2 k2 (fun i hi=>hn7 i (by omega)) (fun i hi e=>by rw [k4 i hi]; exact e),fun g hg=>(hX6.fts g hg).keep k2 (fun i hi=>hn7 i (by omega)) (fun i hi e=>by rw [k4 i hi]; exact e),k1⟩,hG6.comp k2 (fun i hi hn h=>hn ?_),fun i hi=>by rw [k4 i (Nat.lt_of_lt_of_le hi hG6.size),ho6 i hi]⟩⟩
   have h':4≤U6 i:=h
   rw [ho6 i hi] at h'
   show 2≤U i
   omega
  have HKEY:=hide hkey
  clear hkey hxc hg3 hb hbk hv HF HMEM HGW1 HS1 hxS hgL
  go_wp2_with (at_builtin; refine app_two rfl _ _ 86 rfl Tryz.underlying86 Tryz.infopNFact rfl (by decide) rfl hr2 rfl hsrc (by simp) (fun y _=>fenc_one y) (by unfold maxLen; simp; omega) (by simp; omega) ?_)
  intro v5 w5 hv5 hl5
  obtain ⟨⟨y1,yf,y0⟩,hA⟩:=unhide HKEY v5 w5 hv5 hl5
  obtain ⟨g5,cap5,rfl⟩:=hl5.form
  clear hv5 hl5 hr2 hsrc HKEY q1
  go_wp2_with (go_at_call 41; refine hA.mono ?_; rintro e w7 ⟨rfl,hid,HP⟩)
  go_ret2
  exact ⟨rfl,unhide HP⟩
end Go.Proofs.YtolhbeekfjnfmaaGreatDoor
namespace Go.Proofs.YtolhbeekfjnfmaaGreatDoor
open Go.RowKit
set_option maxRecDepth 100000 in
set_option maxHeartbeats 8000000 in
theorem build_neg (m:Nat) (ih:BuildOK m) (U:Nat→Nat) (ru q k bc lb:Nat) (fst av cv:Value) (ss:List Site) (c:Sv.Cond) (cs:List Sv.Cond) (w:World) (hm:cs.length=m) (h:BuildPre U ru q k bc lb fst av cv ss (c :: cs) w) (hneg:c.neg=true) :
  Calls Tryz.prog 100 #[.pointer (some ⟨bc,0,none⟩),cv,av] w fun e w'=>∃ hd,e=.returned hd∧BuildPost U ru q k bc lb fst ss (c :: cs) w w' hd:=by
 obtain ⟨g,off,cap,u,rfl,hcap,hcm,hug,hgl,c0,c1,c2,hT,hCs⟩:=h.conds.head
 have hsh:=h.short c (List.mem_cons_self ..)
 have hss:=h.sites
 have hfew:=h.few
 rw [List.length_cons] at hss hfew
 have hN:=newCond_w av ss c u w h.ahead.1 hT.1 (by omega) (by omega)
 rw [hneg] at c0 hN
 obtain ⟨aot,capt,hu⟩:=hT.1.slice
 generalize hgt:c.terms.length=tn at hu
 subst hu
 obtain ⟨aoa,capa,ha⟩:=h.ahead.1.slice
 generalize hga:ss.length=sn at ha
 have HA:=hide ha
 obtain ⟨mc,hmc⟩:∃ mc,cs.length=mc:=⟨_,rfl⟩
 rw [hmc] at hcap hCs hss hfew ⊢
 have H:=hide h
 have HT:=hide hT
 have HMC:=hide hmc
 have HGT:=hide hgt
 have htw:(¬ cap=1∧CsIn U (.slice (some ⟨g,off+3,none⟩) mc (cap - 1)) cs w)∨(cap=1∧mc=0∧CsIn U (.slice (some ⟨g,off,none⟩) 0 0) cs w):=by
  by_cases hc1:cap=1
  ·have hm0:mc=0:=by omega
   have:=hCs (some ⟨g,off,none⟩) (.inr hc1)
   rw [hc1,hm0] at this
   exact .inr ⟨hc1,hm0,this⟩
  ·exact .inl ⟨hc1,hCs _ (.inl rfl)⟩
 have HM:Hid (mc=m):=by rw [←hmc]; exact hide hm
 clear h hT hCs hmc hgt hga hm
 subst ha
 go_enter Tryz.func100,Tryz.ntmps100
 go_wp2_with (go_at_call 133; refine hN.mono ?_; rintro e w1 ⟨lv,rfl,hg1,hL1,ho1⟩; have d0:=hg1.cell c0 (by simp); have d1:=hg1.cell c1 (by simp); have d2:=hg1.cell c2 (by simp); obtain ⟨aol,capl,hlv⟩:=hL1.slice; generalize hgl2:(Lnk.of ss 0 c.terms).length=ln at hlv; have HGL:=hide hgl2; have HL:=hide hL1; have HO:=hide ho1; clear hgl2 hL1 ho1; subst hlv; have e0:=(World.grownBy_alloc w1 (.cells #[.int .i64 c.kind,.slice aot tn capt,.slice aol ln capl] 216) none).cell d0 (by simp))
 have hgA:=gr_trans hg1 (World.grownBy_alloc w1 (.cells #[.int .i64 c.kind,.slice aot tn capt,.slice aol ln capl] 216) none)
 have hg12:=World.grownBy_alloc w1 (.cells #[.int .i64 c.kind,.slice aot tn capt,.slice aol ln capl] 216) none
 have hx7:=heap_alloc_new w1 (.cells #[.int .i64 c.kind,.slice aot tn capt,.slice aol ln capl] 216)
 generalize w1.alloc (.cells #[.int .i64 c.kind,.slice aot tn capt,.slice aol ln capl] 216)=w2 at hgA hg12 hx7 e0 ⊢
 have m0:w2.cell? ⟨w1.heap.size,0,none⟩=some (.int .i64 c.kind):=by simp [World.cell?,hx7]
 have m1:w2.cell? ⟨w1.heap.size,1,none⟩=some (.slice aot tn capt):=by simp [World.cell?,hx7]
 have m2:w2.cell? ⟨w1.heap.size,2,none⟩=some (.slice aol ln capl):=by simp [World.cell?,hx7]
 have hIH:∀ tv,CsIn U tv cs w→∀ wx,w2.grownBy wx none→Calls Tryz.prog 100 #[.pointer (some ⟨bc,0,none⟩),tv,.slice aoa sn capa] wx fun e w'=>∃ ty b,e=.returned (.iface ty (.pointer (some ⟨b,0,none⟩)))∧BuildPost (newU U w 1) ru (q+1) k bc lb fst ss cs wx w' (.iface ty (.pointer (some ⟨b,0,none⟩)))∧(w'.cell? ⟨w1.heap.size,0,none⟩=some (.int .i64 c.kind)∧w'.cell? ⟨w1.heap.size,1,none⟩=some (.slice aot tn capt)∧w'.cell? ⟨w1.heap.size,2,none⟩=some (.slice aol ln capl)):=by
  intro ta hta wx hgx
  have hgg:=gr_trans hgA hgx
  have hh:=unhide H
  have hmc:=unhide HMC
  have hGG:GrS (fun _:Nat=>False) w wx:=GrS.of hgg (by simp)
  have hsz1:=hg1.size
  refine (ih (newU U w 1) ru (q+1) k bc lb fst _ _ ss cs wx (by rw [hmc]; exact unhide HM) ⟨hGG.blk hh.chain (by simp),hGG.blk hh.last (by simp),?_,?_,?_,hh.ahead.keep2 hGG (by simp) (fun i hi e=>by rw [newU_old hi]; exact e),hta.keep hGG (by simp) (fun i hi e=>by rw [newU_old hi]; exact e),fun c' hc'=>hh.short c' (List.mem_cons_of_mem _ hc'),by rw [hmc]; omega,by rw [hmc]; omega⟩).mono ?_
  ·rw [newU_old (row_lt hh.chain)]; exact hh.uc
  ·rw [newU_old (row_lt hh.last)]
   have:=hh.ul
   rw [List.length_cons] at this
   omega
  ·intro i hi hne
   by_cases hw:i < w.heap.size
   ·rw [newU_old hw]
    have:=hh.fresh i hw hne
    omega
   ·rw [newU_new (by omega)]; omega
  ·rintro e w' ⟨hd,rfl,hP⟩
   obtain ⟨ty,b,rfl⟩:=hP.head
   have hc:=hP.cells1 (i:=w1.heap.size) (by rw [hgx.block _ (row_lt hx7) (by simp)]; exact hx7) (newU_new hsz1) (by have:=row_lt hh.last; omega)
   exact ⟨ty,b,rfl,hP,by simp [World.cell?,hc]⟩
 have hmid:∀ wx w3 w4 hd b,w2.grownBy wx none→BuildPost (newU U w 1) ru (q+1) k bc lb fst ss cs wx w3 hd→
   w4.heap[b]?=some (.cells #[.int .i64 c.kind,.slice aot tn capt,.slice aol ln capl,.slice none 0 0,.slice none 0 0,hd] 263 (0,0))→w3.heap.size≤b→w3.grownBy w4 none→BuildMid U ru q k bc lb fst ss (c :: cs) w w4 (.iface (ndPTy c.neg) (.pointer (some ⟨b,0,none⟩))):=by
  intro wx w3 w4 hd b hgx hP hb hbl hg4
  have hgg:=gr_trans hgA hgx
  have hGG:GrS (fun _:Nat=>False) w wx:=GrS.of hgg (by simp)
  have hgl:=gr_trans hg12 hgx
  have hsz1:=hg1.size
  refine buildMid (unhide H) (hGG.mono (by simp)) (fun i hi=>newU_old hi) (fun i hi _=>by rw [newU_new hi]; omega) (by rw [if_pos hneg,if_pos hneg]; exact hP) ((unhide HT).keep2 hGG (by simp) (fun i hi e=>by rw [newU_old hi]; exact e)) (lv:=.slice aol ln capl) ⟨(unhide HL).gr hgl,fun g hg=>newU_new (unhide HO g hg)⟩ ?_ hbl hg4
  unfold ndCells ndTy
  rw [if_pos hneg,if_pos hneg]
  exact hb
 have HMID:=hide hmid
 clear hmid
 have HGA:=hide hgA
 have HX7:=hide hx7
 clear hN c0 c1 c2 d0 d1 d2 e0 hx7 hgA hg12 hsh hug hgl
 have HTW:=hide htw
 clear htw
 go_cut [8] (fun z wx=>∃ b,z=.iface 209 (.pointer (some ⟨b,0,none⟩))∧BuildMid U ru q k bc lb fst ss (c :: cs) w wx (.iface (ndPTy c.neg) (.pointer (some ⟨b,0,none⟩))))
 case first=>
  rcases unhide HTW with ⟨hc1,hCS⟩ | ⟨hc1,hm0,hCS⟩
  all_goals
   have hI2:=hIH _ hCS
   clear hIH hCS HTW
   try (subst hc1; subst hm0)
   go_region_with (go_at_call 100; refine (hI2 _ (by repeat (first | with_reducible exact World.grownBy.refl _ _ | with_reducible apply gr_drew))).mono ?_; rintro e w3 ⟨ty3,b3,rfl,hP,k0,k1,k2⟩)
   all_goals
    go_wp2_with fail
    go_meet
    exact ⟨_,rfl,unhide HMID _ _ _ _ _ (by repeat (first | with_reducible exact World.grownBy.refl _ _ | with_reducible apply gr_drew)) hP (heap_alloc_new _ _) (Nat.le_refl _) (by repeat (first | with_reducible exact World.grownBy.refl _ _ | with_reducible apply gr_drew | with_reducible refine gr_al ?_ _))⟩
 case rest=>
  obtain ⟨b,rfl,U',nv,hs,p1,p2,p3,p4,p5,p6,p7,p8,p9⟩:=hcut
  have hh:=unhide H
  have hbl:=row_lt hh.chain
  have hub:=hh.uc
  have hpt:ndPTy c.neg=209:=by rw [hneg]; rfl
  rw [hpt] at p3 p4 p6
  have hlen:hs.reverse.length≤2000:=by
   have h1:=p3.1
   rw [mkNs_len,List.length_cons,List.length_cons,unhide HMC] at h1
   rw [List.length_reverse]
   omega
  obtain ⟨aon,capn,hnv⟩:=p2.1.slice
  generalize hgn:hs.reverse.length=nn at hnv
  have HGN:=hide hgn
  have HLEN:=hide hlen
  clear hgn hlen
  have q0:wc.cell? ⟨bc,0,none⟩=some nv:=by simp [World.cell?,p1]
  subst hnv
  have hgL:=World.grownBy_alloc wc (.cells #[.iface 209 (.pointer (some ⟨b,0,none⟩))] 150) none
  have hr2:=p2.1.gr hgL
  have hsrc:RowAt 150 1 venc 0 (.slice (some ⟨wc.heap.size,0,none⟩) 1 1) [.iface 209 (.pointer (some ⟨b,0,none⟩))] (wc.alloc (.cells #[.iface 209 (.pointer (some ⟨b,0,none⟩))] 150)):=(RowAt.lit1 (e:=150) venc_len wc (.iface 209 (.pointer (some ⟨b,0,none⟩))) #[.iface 209 (.pointer (some ⟨b,0,none⟩))] rfl).weak (Nat.zero_le _)
  have P2:=hide (show TRow U' 2 150 1 venc (.slice aon nn capn) hs.reverse wc∧HdsAt U' q (mkNs ss k (c :: cs)) (.iface 209 (.pointer (some ⟨b,0,none⟩)) :: hs)∧(∀ h∈Value.iface 209 (.pointer (some ⟨b,0,none⟩)) :: hs,h.oneCell'=true)∧((Value.slice aon nn capn).ownBlock≠some bc)∧SufAt U' ru (jnOf k (c :: cs)) q k (mkNs ss k (c :: cs)) ⟨[],[]⟩ (.iface 209 (.pointer (some ⟨b,0,none⟩))) wc∧GrS (fun i=>U i=2∨U i=3∨i=lb) w wc∧(∀ i,i < w.heap.size→U' i=U i)∧∀ i,w.heap.size≤i→i < wc.heap.size→(U' i < 4∨4+3 * q≤U' i)∧U' i < 4+3 * (q+(c :: cs).length) from ⟨p2,p3,p4,p5,p6,p7,p8,p9⟩)
  have P1:=hide p1
  clear p1 p2 p3 p4 p5 p6 p7 p8 p9 HMID HTW hIH hh HX7 HT HL HO HGL HGA HM HGT
  go_wp2_with (at_builtin; refine app_two rfl _ _ 148 rfl Tryz.underlying148 Tryz.infoNode rfl (by decide) rfl hr2 rfl hsrc (by simp) (fun y hy=>by simp only [List.mem_singleton] at hy; subst hy; exact venc_one rfl) (by unfold maxLen; have:=unhide HLEN; simp only [List.length_singleton]; omega) (by have:=unhide HLEN; simp only [List.length_singleton]; omega) ?_)
  intro v5 w5 hv5 hl5
  obtain ⟨g5,cap5,rfl⟩:=hl5.form
  obtain ⟨p2,p3,p4,p5,p6,p7,p8,p9⟩:=unhide P2
  have hend:=buildEnd (bc:=bc) (w5:=w5) hbl hub ⟨U',hs,unhide P1,p2,p3,p4,p5,p6,p7,p8,p9,hv5⟩ ⟨_,_,_,hgL,hl5⟩
  have hb5:=hl5.block (by rw [hgL.block bc (row_lt (unhide P1)) (by simp)]; exact unhide P1) p5
  have q5:w5.cell? ⟨bc,0,none⟩=some (.slice aon nn capn):=by simp [World.cell?,hb5]
  have z5:w5.frozen? ⟨bc,0,none⟩=false:=by simp [World.frozen?,hb5]
  have HEND:=hide hend
  clear hend hb5 p2 p3 p4 p5 p6 p7 p8 p9 hl5 hv5 hsrc hr2 hgL q0 P1 P2
  generalize hs.reverse.length + [Value.iface 209 (.pointer (some ⟨b,0,none⟩))].length=l5 at HEND ⊢
  go_wp2
  go_ret
  exact ⟨_,rfl,unhide HEND⟩
end Go.Proofs.YtolhbeekfjnfmaaGreatDoor
namespace Go.Proofs.YtolhbeekfjnfmaaGreatDoor
open Go.RowKit
theorem BindPost.kept {av v:Value} {l:List Site} {w w1:World} (h:BindPost av l w w1 v) {i:Nat} {o:Obj} (hi:w.heap[i]?=some o) (hn:av.ownBlock≠some i):w1.heap[i]?=some o:=h.2.1.blk hi hn
def posU (U:Nat→Nat) (w wj:World):Nat→Nat:=newU (newU U w 1) wj 3
theorem posU_old {U:Nat→Nat} {w wj:World} (h:w.heap.size≤wj.heap.size) {i:Nat} (hi:i < w.heap.size):posU U w wj i=U i:=by unfold posU; rw [newU_old (by omega),newU_old hi]
theorem posU_mid {U:Nat→Nat} {w wj:World} {i:Nat} (hi:w.heap.size≤i) (hj:i < wj.heap.size):posU U w wj i=1:=by unfold posU; rw [newU_old hj,newU_new hi]
theorem posU_new {U:Nat→Nat} {w wj:World} {i:Nat} (hi:wj.heap.size≤i):posU U w wj i=3:=by unfold posU; rw [newU_new hi]
structure PosPre (U:Nat→Nat) (ru q k bc lb:Nat) (fst av cv:Value) (ss:List Site) (c:Sv.Cond) (cs:List Sv.Cond) (w wj wy:World) (v:Value):Prop where
 gr:GrS (fun i=>U i=2∨U i=3∨i=lb) w wy
 one:∀ i,i < wj.heap.size→posU U w wj i=1→wy.heap[i]?=wj.heap[i]?
 size:wj.heap.size≤wy.heap.size
 pre:BuildPre (posU U w wj) ru (q+1) (k+1) bc lb fst v cv (ss ++ Site.bindT k 0 c.terms) cs wy
theorem posPre {U:Nat→Nat} {ru q k bc lb:Nat} {fst av cv0 cv:Value} {ss:List Site} {c:Sv.Cond} {cs:List Sv.Cond} {w w2 wx w3 wy:World} {v:Value}
  (h:BuildPre U ru q k bc lb fst av cv0 ss (c :: cs) w) (hC:CsIn U cv cs w) (hg2:w.grownBy w2 none) (hx:(w2.setCell ⟨lb,3,none⟩ (.int .i64 ((k:Int)+1))).grownBy wx none) (hb:BindPost av (ss ++ Site.bindT k 0 c.terms) wx w3 v) (hy:w3.grownBy wy none) :
  PosPre U ru q k bc lb fst av cv ss c cs w (w2.setCell ⟨lb,3,none⟩ (.int .i64 ((k:Int)+1))) wy v:=by
 have hul:=h.ul
 rw [List.length_cons] at hul
 have hs2:=hg2.size
 have hset:=gr_set w2 lb 3 (.int .i64 ((k:Int)+1))
 have hsj:(w2.setCell ⟨lb,3,none⟩ (.int .i64 ((k:Int)+1))).heap.size=w2.heap.size:=by simp
 generalize hwj:w2.setCell ⟨lb,3,none⟩ (.int .i64 ((k:Int)+1))=wj at hx hsj hset ⊢
 have hsx:=hx.size
 have hs3:=hb.2.1.size
 have hsy:=hy.size
 have hav:∀ i,av.ownBlock=some i→U i=3:=fun i hi=>h.ahead.2 i hi
 have havl:∀ i,av.ownBlock=some i→i < w.heap.size:=fun i hi=>(h.ahead.1.own i hi).2
 have hGj:GrS (fun i=>i=lb) w wj:=((GrS.of hg2 (by simp):GrS (fun i=>i=lb) w w2)).then hset (fun g hg=>by simp at hg; exact .inr hg.symm)
 have hG:GrS (fun i=>U i=3∨i=lb) w wy:=by
  refine ((((hGj.mono (fun i hi=>.inr hi):GrS (fun i=>U i=3∨i=lb) w wj)).then hx (by simp)).comp hb.2.1 (fun i hi hn hx'=>hn (.inl (hav i hx')))).then hy (by simp)
 have hblast:wj.heap[lb]?=some (.cells #[.slice none 0 0,.slice none 0 0,.int .i64 ru,.int .i64 ((k:Int)+1)] 147 (0,0)):=by
  have hb2:w2.heap[lb]?=some (.cells #[.slice none 0 0,.slice none 0 0,.int .i64 ru,.int .i64 k] 147 (0,0)):=by rw [hg2.block lb (row_lt h.last) (by simp)]; exact h.last
  rw [←hwj,heap_setCell_same w2 lb 3 _ _ _ hb2]
  rfl
 refine ⟨hG.mono (fun i hi=>by rcases hi with h | h; exact .inr (.inl h); exact .inr (.inr h)),fun i hi h1=>?_,by omega,?_⟩
 ·rw [hy.block i (by omega) (by simp),hb.2.1.block i (by omega) (fun e=>?_),hx.block i hi (by simp)]
  have:=hav i e
  rw [posU_old (by omega) (havl i e)] at h1
  omega
 have hpo:∀ i,i < w.heap.size→posU U w wj i=U i:=fun i hi=>posU_old (by omega) hi
 refine ⟨hG.blk h.chain (fun e=>?_),?_,by rw [hpo bc (row_lt h.chain)]; exact h.uc,?_,?_,⟨hb.1.gr hy,fun g hg=>?_⟩,hC.keep hG (fun i hi e=>?_) (fun i hi e=>by rw [hpo i hi]; exact e),fun c' hc'=>h.short c' (List.mem_cons_of_mem _ hc'),?_,?_⟩
 ·have:=h.uc
  rcases e with e | e
  ·omega
  ·rw [e] at this; omega
 ·rw [hy.block lb (by have:=row_lt hblast; omega) (by simp),hb.2.1.block lb (by have:=row_lt hblast; omega) (fun e=>by have:=hav lb e; omega),hx.block lb (row_lt hblast) (by simp)]
  exact hblast
 ·rw [hpo lb (row_lt h.last)]; omega
 ·intro i hi hne
  by_cases hw:i < w.heap.size
  ·rw [hpo i hw]; have:=h.fresh i hw hne; omega
  ·by_cases hj:i < wj.heap.size
   ·rw [posU_mid (by omega) hj]; omega
   ·rw [posU_new (by omega)]; omega
 ·rcases hb.2.2 g hg with e | e
  ·rw [hpo g (havl g e)]; exact hav g e
  ·exact posU_new (by omega)
 ·rcases e with e | e
  ·omega
  ·rw [e] at hi; omega
 ·have:=h.few; rw [List.length_cons] at this; omega
 ·have:=h.sites
  have h4:=h.short c (List.mem_cons_self ..)
  have h5:=bindT_len k c.terms 0
  rw [List.length_cons] at this
  rw [List.length_append]
  omega
def PosPost (U:Nat→Nat) (ru q k bc lb:Nat) (fst av:Value) (ss:List Site) (c:Sv.Cond) (cs:List Sv.Cond) (w wj w':World) (hd:Value):Prop:=
 ∃ cv wy v,PosPre U ru q k bc lb fst av cv ss c cs w wj wy v∧BuildPost (posU U w wj) ru (q+1) (k+1) bc lb fst (ss ++ Site.bindT k 0 c.terms) cs wy w' hd
theorem PosPost.made {U:Nat→Nat} {ru q k bc lb:Nat} {fst av:Value} {ss:List Site} {c:Sv.Cond} {cs:List Sv.Cond} {w wj w':World} {hd:Value} (h:PosPost U ru q k bc lb fst av ss c cs w wj w' hd) {i:Nat} {o:Obj} (hi:wj.heap[i]?=some o) (hw:w.heap.size≤i) (hl:i≠lb):w'.heap[i]?=some o:=by
 obtain ⟨cv,wy,v,p1,p2⟩:=h
 have h1:=posU_mid (U:=U) hw (row_lt hi)
 exact p2.cells1 (by rw [p1.one i (row_lt hi) h1]; exact hi) h1 hl
theorem PosPost.cellg {U:Nat→Nat} {ru q k bc lb:Nat} {fst av:Value} {ss:List Site} {c:Sv.Cond} {cs:List Sv.Cond} {w wj w':World} {hd:Value} (h:PosPost U ru q k bc lb fst av ss c cs w wj w' hd) {a:Addr} {v:Value} (hc:wj.cell? a=some v) (hg:a.block < w.heap.size) (hs:w.heap.size≤wj.heap.size) (hu:U a.block=1) (hl:a.block≠lb):w'.cell? a=some v:=by
 obtain ⟨cv,wy,v',p1,U',nv,hs',p21,p22,p23,p24,p25,p26,p27,_⟩:=h
 have h1:posU U w wj a.block=1:=by rw [posU_old hs hg]; exact hu
 have h2:=p1.one a.block (by omega) h1
 have h3:=p27.block a.block (by have:=p1.size; omega) (by omega)
 rw [←hc]
 exact World.cell?_of_block (w:=wj) (h3.trans h2)
theorem posMid {U:Nat→Nat} {ru q k bc lb b:Nat} {fst av cv u lv:Value} {ss:List Site} {c:Sv.Cond} {cs:List Sv.Cond} {w w1 w2 wj w3 w4:World} {hd:Value} (h:BuildPre U ru q k bc lb fst av cv ss (c :: cs) w) (hneg:c.neg=false) (hT:TRow U 1 258 3 tmenc u c.terms w)
  (hg1:w.grownBy w1 none) (hL:LsAt lv (Lnk.of ss 0 c.terms) w1) (ho:∀ g,lv.ownBlock=some g→w.heap.size≤g) (hg2:w1.grownBy w2 none) (hj:w2.grownBy wj (some lb)) (hP:PosPost U ru q k bc lb fst av ss c cs w wj w3 hd)
  (hb:w4.heap[b]?=some (.cells #[.int .i64 c.kind,u,lv,.slice none 0 0,.slice none 0 0,hd,.int .i64 k] 220 (0,0))) (hbl:w3.heap.size≤b) (hg4:w3.grownBy w4 none) :
  BuildMid U ru q k bc lb fst ss (c :: cs) w w4 (.iface (ndPTy c.neg) (.pointer (some ⟨b,0,none⟩))):=by
 obtain ⟨cv',wy,v,p1,p2⟩:=hP
 have hs1:=hg1.size
 have hs2:=hg2.size
 have hsj:=hj.size
 have hul:=h.ul
 rw [List.length_cons] at hul
 have hll:=row_lt h.last
 have hpo:∀ i,i < w.heap.size→posU U w wj i=U i:=fun i hi=>posU_old (by omega) hi
 refine buildMid h p1.gr hpo (fun i hi hlt=>?_) (by rw [if_neg (by simp [hneg]),if_neg (by simp [hneg])]; exact p2) (hT.keep2 p1.gr (fun i hi hx=>?_) (fun i hi e=>by rw [hpo i hi]; exact e)) (lv:=lv) ⟨?_,fun g hg=>?_⟩ ?_ hbl hg4
 ·by_cases hx:i < wj.heap.size
  ·rw [posU_mid hi hx]; omega
  ·rw [posU_new (by omega)]; omega
 ·rcases hx with hx | hx | hx
  ·omega
  ·omega
  ·rw [hx] at hi; omega
 ·have hG:GrS (fun i=>¬ (w.heap.size≤i)) w1 wy:=by
   refine ⟨by rw [p1.gr.os,hg1.os],by rw [p1.gr.tape,hg1.tape],by rw [p1.gr.output,hg1.output],by have:=p1.size; omega,fun i hi hn=>?_⟩
   have hwi:w.heap.size≤i:=by simpa using hn
   rw [p1.one i (by omega) (posU_mid hwi (by omega)),hj.block i (by omega) (by simp; omega),hg2.block i hi (by simp)]
  exact hG.row hL (fun g hg hx=>hx (ho g hg))
 ·exact posU_mid (ho g hg) (by have:=(hL.own g hg).2; omega)
 ·unfold ndCells ndTy
  rw [if_neg (by simp [hneg]),if_neg (by simp [hneg])]
  exact hb
set_option maxRecDepth 100000 in
set_option maxHeartbeats 8000000 in
theorem build_pos (m:Nat) (ih:BuildOK m) (U:Nat→Nat) (ru q k bc lb:Nat) (fst av cv:Value) (ss:List Site) (c:Sv.Cond) (cs:List Sv.Cond) (w:World) (hm:cs.length=m) (h:BuildPre U ru q k bc lb fst av cv ss (c :: cs) w) (hneg:c.neg=false) :
  Calls Tryz.prog 100 #[.pointer (some ⟨bc,0,none⟩),cv,av] w fun e w'=>∃ hd,e=.returned hd∧BuildPost U ru q k bc lb fst ss (c :: cs) w w' hd:=by
 obtain ⟨g,off,cap,u,rfl,hcap,hcm,hug,hgl,c0,c1,c2,hT,hCs⟩:=h.conds.head
 have hsh:=h.short c (List.mem_cons_self ..)
 have hss:=h.sites
 have hfew:=h.few
 rw [List.length_cons] at hss hfew
 have hN:=newCond_w av ss c u w h.ahead.1 hT.1 (by omega) (by omega)
 rw [hneg] at c0 hN
 obtain ⟨aot,capt,hu⟩:=hT.1.slice
 generalize hgt:c.terms.length=tn at hu
 subst hu
 obtain ⟨aoa,capa,ha⟩:=h.ahead.1.slice
 generalize hga:ss.length=sn at ha
 have HA:=hide ha
 obtain ⟨mc,hmc⟩:∃ mc,cs.length=mc:=⟨_,rfl⟩
 rw [hmc] at hcap hCs hss hfew ⊢
 have z2:w.cell? ⟨bc,2,none⟩=some (.pointer (some ⟨lb,0,none⟩)):=by simp [World.cell?,h.chain]
 have z3:w.cell? ⟨lb,3,none⟩=some (.int .i64 k):=by simp [World.cell?,h.last]
 have zf:w.frozen? ⟨lb,3,none⟩=false:=by simp [World.frozen?,h.last]
 have hbx:=row_lt h.chain
 have hlx:=row_lt h.last
 have H:=hide h
 have HT:=hide hT
 have HMC:=hide hmc
 have HGT:=hide hgt
 have htw:(¬ cap=1∧CsIn U (.slice (some ⟨g,off+3,none⟩) mc (cap - 1)) cs w)∨(cap=1∧mc=0∧CsIn U (.slice (some ⟨g,off,none⟩) 0 0) cs w):=by
  by_cases hc1:cap=1
  ·have hm0:mc=0:=by omega
   have:=hCs (some ⟨g,off,none⟩) (.inr hc1)
   rw [hc1,hm0] at this
   exact .inr ⟨hc1,hm0,this⟩
  ·exact .inl ⟨hc1,hCs _ (.inl rfl)⟩
 have HM:Hid (mc=m):=by rw [←hmc]; exact hide hm
 clear h hT hCs hmc hgt hga hm
 subst ha
 go_enter Tryz.func100,Tryz.ntmps100
 go_wp2_with (go_at_call 133; refine hN.mono ?_; rintro e w1 ⟨lv,rfl,hg1,hL1,ho1⟩; have d0:=hg1.cell c0 (by simp); have d1:=hg1.cell c1 (by simp); have d2:=hg1.cell c2 (by simp); obtain ⟨aol,capl,hlv⟩:=hL1.slice; generalize hgl2:(Lnk.of ss 0 c.terms).length=ln at hlv; have HGL:=hide hgl2; have HL:=hide hL1; have HO:=hide ho1; clear hgl2 hL1 ho1; subst hlv; have f2:=hg1.cell z2 (by simp); have f3:=hg1.cell z3 (by simp); have ff:w1.frozen? ⟨lb,3,none⟩=false:=(by simp [World.frozen?,hg1.block lb hlx (by simp),(unhide H).last]); have e2:=(World.grownBy_alloc w1 (.cells #[.int .i64 c.kind,.slice aot tn capt,.slice aol ln capl] 216) none).cell f2 (by simp); have e3:=(World.grownBy_alloc w1 (.cells #[.int .i64 c.kind,.slice aot tn capt,.slice aol ln capl] 216) none).cell f3 (by simp); have ef:(w1.alloc (.cells #[.int .i64 c.kind,.slice aot tn capt,.slice aol ln capl] 216)).frozen? ⟨lb,3,none⟩=false:=(by simp [World.frozen?,(World.grownBy_alloc w1 (.cells #[.int .i64 c.kind,.slice aot tn capt,.slice aol ln capl] 216) none).block lb (Nat.lt_of_lt_of_le hlx hg1.size) (by simp),hg1.block lb hlx (by simp),(unhide H).last]); have e0:=(World.grownBy_alloc w1 (.cells #[.int .i64 c.kind,.slice aot tn capt,.slice aol ln capl] 216) none).cell d0 (by simp))
 have hgA:=gr_trans hg1 (World.grownBy_alloc w1 (.cells #[.int .i64 c.kind,.slice aot tn capt,.slice aol ln capl] 216) none)
 have hg12:=World.grownBy_alloc w1 (.cells #[.int .i64 c.kind,.slice aot tn capt,.slice aol ln capl] 216) none
 have hx7:=heap_alloc_new w1 (.cells #[.int .i64 c.kind,.slice aot tn capt,.slice aol ln capl] 216)
 have hd2:=hg12.cell d2 (by simp)
 have hsz2:(w1.alloc (.cells #[.int .i64 c.kind,.slice aot tn capt,.slice aol ln capl] 216)).heap.size=w1.heap.size+1:=by simp
 generalize w1.alloc (.cells #[.int .i64 c.kind,.slice aot tn capt,.slice aol ln capl] 216)=w2 at hgA hg12 hx7 hd2 hsz2 e2 e3 ef e0 ⊢
 have hul:=(unhide H).ul
 have hset:=gr_set w2 lb 3 (.int .i64 ((k:Int)+1))
 have hs1:=hg1.size
 have j2:=hset.cell hd2 (by simp; rintro rfl; omega)
 have hmd:(w2.setCell ⟨lb,3,none⟩ (.int .i64 ((k:Int)+1))).heap[w1.heap.size]?=some (.cells #[.int .i64 c.kind,.slice aot tn capt,.slice aol ln capl] 216 (0,0)):=by rw [hset.block _ (by omega) (by simp; omega)]; exact hx7
 have hIH:∀ tv,CsIn U tv cs w→∀ wx w3 wy v',(w2.setCell ⟨lb,3,none⟩ (.int .i64 ((k:Int)+1))).grownBy wx none→BindPost (.slice aoa sn capa) (ss ++ Site.bindT k 0 c.terms) wx w3 v'→w3.grownBy wy none→
   Calls Tryz.prog 100 #[.pointer (some ⟨bc,0,none⟩),tv,v'] wy fun e w'=>∃ ty b,e=.returned (.iface ty (.pointer (some ⟨b,0,none⟩)))∧Hid (PosPost U ru q k bc lb fst (.slice aoa sn capa) ss c cs w (w2.setCell ⟨lb,3,none⟩ (.int .i64 ((k:Int)+1))) w' (.iface ty (.pointer (some ⟨b,0,none⟩))))∧(w'.cell? ⟨w1.heap.size,0,none⟩=some (.int .i64 c.kind)∧w'.cell? ⟨w1.heap.size,1,none⟩=some (.slice aot tn capt)∧w'.cell? ⟨w1.heap.size,2,none⟩=some (.slice aol ln capl))∧w'.cell? ⟨g,off+2,none⟩=some (.slice aot tn capt):=by
  intro ta hta wx w3 wy v' hx hb hy
  have hPre:=posPre (unhide H) hta hgA hx hb hy
  refine (ih _ _ _ _ _ _ _ _ _ _ cs wy (by rw [unhide HMC]; exact unhide HM) hPre.pre).mono ?_
  rintro e w' ⟨hd,rfl,hP⟩
  obtain ⟨ty,b,rfl⟩:=hP.head
  have hPP:PosPost U ru q k bc lb fst (.slice aoa sn capa) ss c cs w (w2.setCell ⟨lb,3,none⟩ (.int .i64 ((k:Int)+1))) w' (.iface ty (.pointer (some ⟨b,0,none⟩))):=⟨_,wy,v',hPre,hP⟩
  have hc:=hPP.made hmd (by omega) (by omega)
  exact ⟨ty,b,rfl,hide hPP,by simp [World.cell?,hc],hPP.cellg j2 hgl (by have:=hgA.size; simp; omega) hug (by show g≠lb; rintro rfl; omega)⟩
 have hB:∀ wx,(w2.setCell ⟨lb,3,none⟩ (.int .i64 ((k:Int)+1))).grownBy wx none→Calls Tryz.prog 134 #[.slice aoa sn capa,.int .i64 k,.slice aot tn capt] wx fun e w3=>∃ v',e=.returned v'∧BindPost (.slice aoa sn capa) (ss ++ Site.bindT k 0 c.terms) wx w3 v'∧w3.cell? ⟨g,off+2,none⟩=some (.slice aot tn capt):=by
  intro wx hx
  have hh:=unhide H
  have hG:GrS (fun i=>i=lb) w wx:=((GrS.of hgA (by simp):GrS (fun i=>i=lb) w w2).then hset (fun g hg=>by simp at hg; exact .inr hg.symm)).then hx (by simp)
  refine (bindAt_w _ ss k _ c.terms wx (hG.row hh.ahead.1 (fun g hg e=>?_)) (hG.row (unhide HT).1 (fun g hg e=>?_)) (fun g hg hg'=>?_) (by omega) (by omega)).mono ?_
  ·have:=hh.ahead.2 g hg; rw [e] at this; omega
  ·have:=(unhide HT).2 g hg; rw [e] at this; omega
  ·have h3:=hh.ahead.2 g hg; have h1:=(unhide HT).2 g hg'; omega
  ·rintro e w3 ⟨v',rfl,hb⟩
   refine ⟨v',rfl,hb,hb.2.1.cellK (hx.cell j2 (by simp)) (Nat.lt_of_lt_of_le hgl hG.size) (fun e=>?_)⟩
   have:=hh.ahead.2 g e
   omega
 have HGA:=hide hgA
 have HG12:=hide hg12
 have HSET:=hide hset
 generalize w2.setCell ⟨lb,3,none⟩ (.int .i64 ((k:Int)+1))=wj at hIH hB HSET j2 hmd ⊢
 clear hN c0 c1 c2 d0 d1 d2 e0 e2 e3 ef f2 f3 ff z2 z3 zf hx7 hgA hg12 hd2 hsz2 hset hsh hug hgl hul hs1 hmd
 have HTW:=hide htw
 clear htw
 go_cut [10] (fun z wx=>∃ ty b,z=.iface ty (.pointer (some ⟨b,0,none⟩))∧Hid (PosPost U ru q k bc lb fst (.slice aoa sn capa) ss c cs w wj wx (.iface ty (.pointer (some ⟨b,0,none⟩))))∧(wx.cell? ⟨w1.heap.size,0,none⟩=some (.int .i64 c.kind)∧wx.cell? ⟨w1.heap.size,1,none⟩=some (.slice aot tn capt)∧wx.cell? ⟨w1.heap.size,2,none⟩=some (.slice aol ln capl)))
 case first=>
  rcases unhide HTW with ⟨hc1,hCS⟩ | ⟨hc1,hm0,hCS⟩
  all_goals
   have hI2:=hIH _ hCS
   clear hIH hCS HTW
   try (subst hc1; subst hm0)
   go_region_with
    (first
     | (go_at_call 134; refine (hB _ (by repeat (first | with_reducible exact World.grownBy.refl _ _ | with_reducible apply gr_drew))).mono ?_; rintro e w3 ⟨v3,rfl,hb3,z3⟩)
     | (go_at_call 100; refine (hI2 _ _ _ _ (by repeat (first | with_reducible exact World.grownBy.refl _ _ | with_reducible apply gr_drew)) hb3 (by repeat (first | with_reducible exact World.grownBy.refl _ _ | with_reducible apply gr_drew))).mono ?_; rintro e w4 ⟨ty4,b4,rfl,hP4,⟨k0,k1,k2⟩,z4⟩))
   all_goals
    go_wp2_with fail
    go_meet
    exact ⟨_,_,rfl,hP4,k0,k1,k2⟩
 case rest=>
  obtain ⟨ty0,b0,rfl,HPP,k0,k1,k2⟩:=hcut
  have hmid:∀ w4 b,w4.heap[b]?=some (.cells #[.int .i64 c.kind,.slice aot tn capt,.slice aol ln capl,.slice none 0 0,.slice none 0 0,.iface ty0 (.pointer (some ⟨b0,0,none⟩)),.int .i64 k] 220 (0,0))→wc.heap.size≤b→wc.grownBy w4 none→BuildMid U ru q k bc lb fst ss (c :: cs) w w4 (.iface (ndPTy c.neg) (.pointer (some ⟨b,0,none⟩))):=
   fun w4 b hb hbl hg4=>posMid (unhide H) hneg (unhide HT) hg1 (unhide HL) (unhide HO) (unhide HG12) (unhide HSET) (unhide HPP) hb hbl hg4
  have HMID:=hide hmid
  clear hmid HPP hIH hB HTW
  rename_i K1 hK1 K0 hK0
  refine hK0 _ _ ?_
  clear hK0 K0
  go_cut [8] (fun z wx=>∃ b,z=.iface 208 (.pointer (some ⟨b,0,none⟩))∧BuildMid U ru q k bc lb fst ss (c :: cs) w wx (.iface (ndPTy c.neg) (.pointer (some ⟨b,0,none⟩))))
  case first=>
   go_wp2
   go_meet
   exact ⟨_,rfl,unhide HMID _ _ (heap_alloc_new _ _) (Nat.le_refl _) (World.grownBy_alloc _ _ _)⟩
  case rest=>
   obtain ⟨b,rfl,U',nv,hs,p1,p2,p3,p4,p5,p6,p7,p8,p9⟩:=hcut
   have hh:=unhide H
   have hbl:=row_lt hh.chain
   have hub:=hh.uc
   have hpt:ndPTy c.neg=208:=by rw [hneg]; rfl
   rw [hpt] at p3 p4 p6
   have hlen:hs.reverse.length≤2000:=by
    have h1:=p3.1
    rw [mkNs_len,List.length_cons,List.length_cons,unhide HMC] at h1
    rw [List.length_reverse]
    omega
   obtain ⟨aon,capn,hnv⟩:=p2.1.slice
   generalize hgn:hs.reverse.length=nn at hnv
   have HGN:=hide hgn
   have HLEN:=hide hlen
   clear hgn hlen
   have q0:wc.cell? ⟨bc,0,none⟩=some nv:=by simp [World.cell?,p1]
   subst hnv
   have hgL:=World.grownBy_alloc wc (.cells #[.iface 208 (.pointer (some ⟨b,0,none⟩))] 150) none
   have hr2:=p2.1.gr hgL
   have hsrc:RowAt 150 1 venc 0 (.slice (some ⟨wc.heap.size,0,none⟩) 1 1) [.iface 208 (.pointer (some ⟨b,0,none⟩))] (wc.alloc (.cells #[.iface 208 (.pointer (some ⟨b,0,none⟩))] 150)):=(RowAt.lit1 (e:=150) venc_len wc (.iface 208 (.pointer (some ⟨b,0,none⟩))) #[.iface 208 (.pointer (some ⟨b,0,none⟩))] rfl).weak (Nat.zero_le _)
   have P2:=hide (show TRow U' 2 150 1 venc (.slice aon nn capn) hs.reverse wc∧HdsAt U' q (mkNs ss k (c :: cs)) (.iface 208 (.pointer (some ⟨b,0,none⟩)) :: hs)∧(∀ h∈Value.iface 208 (.pointer (some ⟨b,0,none⟩)) :: hs,h.oneCell'=true)∧((Value.slice aon nn capn).ownBlock≠some bc)∧SufAt U' ru (jnOf k (c :: cs)) q k (mkNs ss k (c :: cs)) ⟨[],[]⟩ (.iface 208 (.pointer (some ⟨b,0,none⟩))) wc∧GrS (fun i=>U i=2∨U i=3∨i=lb) w wc∧(∀ i,i < w.heap.size→U' i=U i)∧∀ i,w.heap.size≤i→i < wc.heap.size→(U' i < 4∨4+3 * q≤U' i)∧U' i < 4+3 * (q+(c :: cs).length) from ⟨p2,p3,p4,p5,p6,p7,p8,p9⟩)
   have P1:=hide p1
   clear p1 p2 p3 p4 p5 p6 p7 p8 p9 HMID hh HT HL HO HGL HGA HM HGT HG12 HSET k0 k1 k2
   go_wp2_with (at_builtin; refine app_two rfl _ _ 148 rfl Tryz.underlying148 Tryz.infoNode rfl (by decide) rfl hr2 rfl hsrc (by simp) (fun y hy=>by simp only [List.mem_singleton] at hy; subst hy; exact venc_one rfl) (by unfold maxLen; have:=unhide HLEN; simp only [List.length_singleton]; omega) (by have:=unhide HLEN; simp only [List.length_singleton]; omega) ?_)
   intro v5 w5 hv5 hl5
   obtain ⟨g5,cap5,rfl⟩:=hl5.form
   obtain ⟨p2,p3,p4,p5,p6,p7,p8,p9⟩:=unhide P2
   have hend:=buildEnd (bc:=bc) (w5:=w5) hbl hub ⟨U',hs,unhide P1,p2,p3,p4,p5,p6,p7,p8,p9,hv5⟩ ⟨_,_,_,hgL,hl5⟩
   have hb5:=hl5.block (by rw [hgL.block bc (row_lt (unhide P1)) (by simp)]; exact unhide P1) p5
   have q5:w5.cell? ⟨bc,0,none⟩=some (.slice aon nn capn):=by simp [World.cell?,hb5]
   have z5:w5.frozen? ⟨bc,0,none⟩=false:=by simp [World.frozen?,hb5]
   have HEND:=hide hend
   clear hend hb5 p2 p3 p4 p5 p6 p7 p8 p9 hl5 hv5 hsrc hr2 hgL q0 P1 P2
   generalize hs.reverse.length + [Value.iface 208 (.pointer (some ⟨b,0,none⟩))].length=l5 at HEND ⊢
   go_wp2
   go_ret
   exact ⟨_,rfl,unhide HEND⟩
end Go.Proofs.YtolhbeekfjnfmaaGreatDoor

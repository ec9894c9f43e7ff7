import Derived.Test.YtolhbeekfjnfmaaGreatDoorM07
namespace Go.Proofs.YtolhbeekfjnfmaaGreatDoor
open Go.RowKit
theorem vrule_any (b:Nat) (s:ByteArray) (i:Nat) (w:World) (hi:i≤s.size) (hs:s.size≤400) (hb:VAt b s i false w) :
  Calls Tryz.prog 118 #[.pointer (some ⟨b,0,none⟩)] w fun e w'=>∃ (nm:ByteArray) (ao:Option Addr) (n cap j:Nat) (bd:Bool),e=.returned (.agg #[.string nm,.slice ao n cap])∧VAt b s j bd w'∧w.grownBy w' (some b)∧j≤s.size∧
   Hid ((bd=true∧Sv.rule s.data.toList i=.inl j)∨(bd=false∧∃ (q:Sv.Rule),Sv.rule s.data.toList i=.inr (q,j)∧nm=⟨q.name.toArray⟩∧i < j∧VCsAt w.heap.size (.slice ao n cap) q.conds w')):=by
 refine (vrule_w b s i w hi hs hb _ rfl).mono ?_
 intro e w' hp
 have hok:=Sv.rule_ok s.data.toList i (by rw [size_list]; exact hi)
 cases hr:Sv.rule s.data.toList i with
 | inl k=>
  rw [hr] at hp hok
  obtain ⟨nm,ao,n,cap,rfl,h1,h2⟩:=hp
  have hk:k≤s.data.toList.length:=hok
  rw [size_list] at hk
  exact ⟨nm,ao,n,cap,k,true,rfl,h1,h2,hk,.inl ⟨rfl,rfl⟩⟩
 | inr q=>
  obtain ⟨q,j⟩:=q
  rw [hr] at hp hok
  obtain ⟨u,rfl,h1,h2,h3⟩:=hp
  obtain ⟨hok1,hok2⟩:i < j∧j≤s.data.toList.length:=hok
  rw [size_list] at hok2
  obtain ⟨ao,cap,rfl⟩:=h1.slice
  exact ⟨_,ao,_,cap,j,false,rfl,h2,h3,hok2,.inr ⟨rfl,q,rfl,rfl,hok1,h1⟩⟩
def VRsCells (B:Nat) (w:World):List Sv.Rule→List Value→Prop
 | [],xs=>xs=[]
 | q :: rs,xs=>∃ u ys,xs=.string ⟨q.name.toArray⟩ :: u :: ys∧VCsAt B u q.conds w∧VRsCells B w rs ys
theorem VRsCells.row {B:Nat} {w w':World} {base':Nat} {e':TypeId} {row:Option Nat} (hg:w.grownBy w' row) (hr:RowOk base' e' row w) (hne:e'≠169) (hne2:e'≠166):∀ (rs:List Sv.Rule) (xs:List Value),VRsCells B w rs xs→VRsCells B w' rs xs
 | [],_,h=>h
 | _ :: rs,_,⟨u,ys,h1,h2,h3⟩=>⟨u,ys,h1,h2.row hg hr hne hne2,VRsCells.row hg hr hne hne2 rs ys h3⟩
theorem VRsCells.snoc {B:Nat} {w:World} (q:Sv.Rule) (u:Value) (hu:VCsAt B u q.conds w):∀ (rs:List Sv.Rule) (xs:List Value),VRsCells B w rs xs→VRsCells B w (rs ++ [q]) (xs ++ [.string ⟨q.name.toArray⟩,u])
 | [],xs,h=>⟨u,[],by rw [show xs=[] from h]; rfl,hu,rfl⟩
 | _ :: rs,_,⟨v,ys,h1,h2,h3⟩=>⟨v,ys ++ [.string ⟨q.name.toArray⟩,u],by rw [h1]; rfl,h2,VRsCells.snoc q u hu rs ys h3⟩
def VRsAt (base:Nat) (v:Value) (rs:List Sv.Rule) (w:World):Prop:=∃ xs,w.ownsRow base 163 2 v rs.length xs∧VRsCells base w rs xs
theorem VRsAt.slice {base:Nat} {u:Value} {rs:List Sv.Rule} {w:World} (h:VRsAt base u rs w):∃ ao cap,u=.slice ao rs.length cap:=by
 obtain ⟨xs,h,_⟩:=h
 rcases h.2 with ⟨h1,h2⟩ | ⟨g,cap,cur,h1,_⟩
 ·exact ⟨none,0,by rw [h2]; exact h1⟩
 ·exact ⟨_,_,h1⟩
theorem VRsAt.row {w w':World} {base base':Nat} {e':TypeId} {v:Value} {rs:List Sv.Rule} {row:Option Nat} (h:VRsAt base v rs w) (hg:w.grownBy w' row) (hr:RowOk base' e' row w) (hne:e'≠169) (hne2:e'≠166) (hne3:e'≠163):VRsAt base v rs w':=by
 obtain ⟨xs,h1,h2⟩:=h
 exact ⟨xs,own_row h1 hg hr hne3,VRsCells.row hg hr hne hne2 rs xs h2⟩
theorem VCsCells.weak {B B':Nat} {w:World} (hb:B'≤B):∀ (cs:List Sv.Cond) (xs:List Value),VCsCells B w cs xs→VCsCells B' w cs xs
 | [],_,h=>h
 | _ :: cs,_,⟨u,ys,h1,h2,h3⟩=>⟨u,ys,h1,own_weak h2 hb,VCsCells.weak hb cs ys h3⟩
theorem VCsAt.weak {base base':Nat} {v:Value} {cs:List Sv.Cond} {w:World} (h:VCsAt base v cs w) (hb:base'≤base):VCsAt base' v cs w:=by
 obtain ⟨xs,h1,h2⟩:=h
 exact ⟨xs,own_weak h1 hb,VCsCells.weak hb cs xs h2⟩
theorem VRsCells.weak {B B':Nat} {w:World} (hb:B'≤B):∀ (rs:List Sv.Rule) (xs:List Value),VRsCells B w rs xs→VRsCells B' w rs xs
 | [],_,h=>h
 | _ :: rs,_,⟨u,ys,h1,h2,h3⟩=>⟨u,ys,h1,h2.weak hb,VRsCells.weak hb rs ys h3⟩
theorem VRsAt.weak {base base':Nat} {v:Value} {rs:List Sv.Rule} {w:World} (h:VRsAt base v rs w) (hb:base'≤base):VRsAt base' v rs w:=by
 obtain ⟨xs,h1,h2⟩:=h
 exact ⟨xs,own_weak h1 hb,VRsCells.weak hb rs xs h2⟩
theorem Tryz.infoVRule:(Tryz.prog.info? 163).map (fun i=>(i.zero,i.size,i.bytes))=some (some (.agg #[.string ⟨#[]⟩,.slice none 0 0]),2,40):=by kernel_rfl
theorem VTsAt.cells {base:Nat} {v:Value} {ts:List Sv.Term} {w:World} (h:VTsAt base v ts w) {k:Nat} {t:Sv.Term} (hk:ts[k]?=some t) :
  ∃ g cap,v=.slice (some ⟨g,0,none⟩) ts.length cap∧w.cell? ⟨g,k * 3,none⟩=some (.int .u8 t.letter.toNat)∧w.cell? ⟨g,k * 3+1,none⟩=some (.int .i64 t.value)∧w.cell? ⟨g,k * 3+2,none⟩=some (.bool (t.sort == 0)):=by
 have hlt:k < ts.length:=(List.getElem?_eq_some_iff.1 hk).1
 rcases h.2 with ⟨_,h2⟩ | ⟨g,cap,cur,h1,h2⟩
 ·omega
 ·subst h1
  have h3:=World.ownsRow.cellAt (w:=w) (base:=base) (e:=169) (size:=3) (g:=g) (n:=ts.length) (cap:=cap) (xs:=ts.flatMap vtcells) h
  refine ⟨g,cap,rfl,?_,?_,?_⟩
  ·rw [h3 (k * 3) (by omega)]; exact flat3 vtcells (fun _=>rfl) ts k t hk 0 (by omega)
  ·rw [h3 (k * 3+1) (by omega)]; exact flat3 vtcells (fun _=>rfl) ts k t hk 1 (by omega)
  ·rw [h3 (k * 3+2) (by omega)]; exact flat3 vtcells (fun _=>rfl) ts k t hk 2 (by omega)
theorem VCsCells.at {B:Nat} {w:World}:∀ (cs:List Sv.Cond) (xs:List Value) (k:Nat) (c:Sv.Cond),VCsCells B w cs xs→cs[k]?=some c→∃ u,xs[k * 3]?=some (.bool c.neg)∧xs[k * 3+1]?=some (.int .i64 c.kind)∧xs[k * 3+2]?=some u∧VTsAt 0 u c.terms w
 | [],_,k,c,_,h=>by simp at h
 | a :: cs,xs,0,c,⟨u,ys,h1,h2,_⟩,h=>by
  simp at h
  subst h
  exact ⟨u,by rw [h1]; rfl,by rw [h1]; rfl,by rw [h1]; rfl,own_weak h2 (Nat.zero_le _)⟩
 | a :: cs,xs,k+1,c,⟨u,ys,h1,_,h3⟩,h=>by
  obtain ⟨v,g1,g2,g3,g4⟩:=VCsCells.at cs ys k c h3 (by simpa using h)
  refine ⟨v,?_,?_,?_,g4⟩
  ·rw [h1,show (k+1) * 3=k * 3+3 from by omega]; exact g1
  ·rw [h1,show (k+1) * 3+1=k * 3+1+3 from by omega]; exact g2
  ·rw [h1,show (k+1) * 3+2=k * 3+2+3 from by omega]; exact g3
theorem VRsCells.at {B:Nat} {w:World}:∀ (rs:List Sv.Rule) (xs:List Value) (k:Nat) (q:Sv.Rule),VRsCells B w rs xs→rs[k]?=some q→∃ u,xs[k * 2]?=some (.string ⟨q.name.toArray⟩)∧xs[k * 2+1]?=some u∧VCsAt 0 u q.conds w
 | [],_,k,c,_,h=>by simp at h
 | a :: cs,xs,0,c,⟨u,ys,h1,h2,_⟩,h=>by
  simp at h
  subst h
  exact ⟨u,by rw [h1]; rfl,by rw [h1]; rfl,h2.weak (Nat.zero_le _)⟩
 | a :: cs,xs,k+1,c,⟨u,ys,h1,_,h3⟩,h=>by
  obtain ⟨v,g1,g2,g4⟩:=VRsCells.at cs ys k c h3 (by simpa using h)
  refine ⟨v,?_,?_,g4⟩
  ·rw [h1,show (k+1) * 2=k * 2+2 from by omega]; exact g1
  ·rw [h1,show (k+1) * 2+1=k * 2+1+2 from by omega]; exact g2
theorem VCsAt.cells {base:Nat} {v:Value} {cs:List Sv.Cond} {w:World} (h:VCsAt base v cs w) {k:Nat} {c:Sv.Cond} (hk:cs[k]?=some c) :
  ∃ g cap ao cap2,v=.slice (some ⟨g,0,none⟩) cs.length cap∧w.cell? ⟨g,k * 3,none⟩=some (.bool c.neg)∧w.cell? ⟨g,k * 3+1,none⟩=some (.int .i64 c.kind)∧w.cell? ⟨g,k * 3+2,none⟩=some (.slice ao c.terms.length cap2)∧VTsAt 0 (.slice ao c.terms.length cap2) c.terms w:=by
 obtain ⟨xs,h,hc⟩:=h
 have hlt:k < cs.length:=(List.getElem?_eq_some_iff.1 hk).1
 obtain ⟨u,g1,g2,g3,g4⟩:=VCsCells.at cs xs k c hc hk
 obtain ⟨ao,cap2,rfl⟩:=g4.slice
 rcases h.2 with ⟨_,h2⟩ | ⟨g,cap,cur,h1,h2⟩
 ·omega
 ·subst h1
  have h3:=World.ownsRow.cellAt (w:=w) (base:=base) (e:=166) (size:=3) (g:=g) (n:=cs.length) (cap:=cap) (xs:=xs) h
  exact ⟨g,cap,ao,cap2,rfl,(h3 (k * 3) (by omega)).trans g1,(h3 (k * 3+1) (by omega)).trans g2,(h3 (k * 3+2) (by omega)).trans g3,g4⟩
theorem VRsAt.cells {base:Nat} {v:Value} {rs:List Sv.Rule} {w:World} (h:VRsAt base v rs w) {k:Nat} {q:Sv.Rule} (hk:rs[k]?=some q) :
  ∃ g cap ao cap2,v=.slice (some ⟨g,0,none⟩) rs.length cap∧w.cell? ⟨g,k * 2,none⟩=some (.string ⟨q.name.toArray⟩)∧w.cell? ⟨g,k * 2+1,none⟩=some (.slice ao q.conds.length cap2)∧VCsAt 0 (.slice ao q.conds.length cap2) q.conds w:=by
 obtain ⟨xs,h,hc⟩:=h
 have hlt:k < rs.length:=(List.getElem?_eq_some_iff.1 hk).1
 obtain ⟨u,g1,g2,g4⟩:=VRsCells.at rs xs k q hc hk
 obtain ⟨ao,cap2,rfl⟩:=g4.slice
 rcases h.2 with ⟨_,h2⟩ | ⟨g,cap,cur,h1,h2⟩
 ·omega
 ·subst h1
  have h3:=World.ownsRow.cellAt (w:=w) (base:=base) (e:=163) (size:=2) (g:=g) (n:=rs.length) (cap:=cap) (xs:=xs) h
  exact ⟨g,cap,ao,cap2,rfl,(h3 (k * 2) (by omega)).trans g1,(h3 (k * 2+1) (by omega)).trans g2,g4⟩
theorem Sv.cdF_len (n:Nat) (l:List UInt8) (acc:List Sv.Cond) (i:Nat) (hi:i≤l.length) (ha:acc.length≤i) (cs:List Sv.Cond) (m:Nat) (h:Sv.cdF n l acc i=.inr (cs,m)):cs.length≤l.length:=by
 induction n generalizing acc i with
 | zero=>cases h
 | succ n ih=>
  have hs:=Sv.sk_le l i hi
  rw [Sv.cdF_step] at h
  cases h59:Sv.pk l (Sv.sk l i) == 59
  ·rw [h59,if_neg (by simp)] at h
   have hx:Sv.sk l i≤(if (Sv.pk l (Sv.sk l i) == 33)=true then Sv.sk l i+1 else Sv.sk l i)∧(if (Sv.pk l (Sv.sk l i) == 33)=true then Sv.sk l i+1 else Sv.sk l i)≤l.length:=by
    split
    ·rename_i h; have:=Sv.byte_pos l _ 33 (by decide) h; omega
    ·omega
   generalize (if (Sv.pk l (Sv.sk l i) == 33)=true then Sv.sk l i+1 else Sv.sk l i)=x at hx h
   have ht:=Sv.cond_ok l x hx.2
   cases hr:Sv.cond l x with
   | inl k=>rw [hr] at h; cases h
   | inr p=>
    obtain ⟨c,j⟩:=p
    rw [hr] at ht h
    obtain ⟨h1,h2⟩:x < j∧j≤l.length:=ht
    exact ih _ j h2 (by simp; omega) h
  ·rw [h59,if_pos rfl] at h
   simp only [Sum.inr.injEq,Prod.mk.injEq] at h
   rw [←h.1]
   omega
theorem Sv.rule_len (l:List UInt8) (i:Nat) (hi:i≤l.length) (q:Sv.Rule) (m:Nat) (h:Sv.rule l i=.inr (q,m)):q.conds.length≤l.length:=by
 have hn:=Sv.nmF_le 8 l i hi
 by_cases h1:Sv.nmF 8 l i=i
 ·rw [show Sv.rule l i=.inl i from by unfold Sv.rule; simp only; rw [if_pos h1]] at h; cases h
 ·cases h2:Sv.pk l (Sv.sk l (Sv.nmF 8 l i)) == 58
  ·rw [show Sv.rule l i=.inl (Sv.sk l (Sv.nmF 8 l i)) from by unfold Sv.rule; simp only; rw [if_neg h1,h2]; rfl] at h; cases h
  ·rw [Sv.rule_eq l i h1 h2] at h
   have hp:=Sv.byte_pos l _ 58 (by decide) h2
   cases hc:Sv.conds l (Sv.sk l (Sv.nmF 8 l i)+1) with
   | inl k=>rw [hc] at h; cases h
   | inr p=>
    obtain ⟨cs,j⟩:=p
    rw [hc] at h
    simp only [Sum.inr.injEq,Prod.mk.injEq] at h
    rw [←h.1]
    show cs.length≤l.length
    unfold Sv.conds at hc
    have hco:=Sv.cond_ok l (Sv.sk l (Sv.nmF 8 l i)+1) hp
    cases hd:Sv.cond l (Sv.sk l (Sv.nmF 8 l i)+1) with
    | inl k=>rw [hd] at hc; cases hc
    | inr p2=>
     obtain ⟨c,j2⟩:=p2
     rw [hd] at hc hco
     obtain ⟨h5,h6⟩:Sv.sk l (Sv.nmF 8 l i)+1 < j2∧j2≤l.length:=hco
     exact Sv.cdF_len _ l [c] j2 h6 (by simp; omega) cs j hc
theorem Sv.rlF_len (n:Nat) (l:List UInt8) (acc:List Sv.Rule) (i:Nat) (hi:i≤l.length) (ha:∀ q∈acc,q.conds.length≤l.length) (rs:List Sv.Rule) (h:Sv.rlF n l acc i=.inr rs):∀ q∈rs,q.conds.length≤l.length:=by
 induction n generalizing acc i with
 | zero=>cases h
 | succ n ih=>
  rw [Sv.rlF_step] at h
  by_cases hlt:i < l.length
  ·rw [if_pos hlt] at h
   have hok:=Sv.rule_ok l i hi
   cases hr:Sv.rule l i with
   | inl k=>rw [hr] at h; cases h
   | inr p=>
    obtain ⟨q,j⟩:=p
    rw [hr] at h hok
    obtain ⟨_,h2⟩:i < j∧j≤l.length:=hok
    refine ih _ _ (Sv.sk_le l j h2).2 ?_ h
    intro q2 hq2
    rw [List.mem_append,List.mem_singleton] at hq2
    rcases hq2 with h3 | rfl
    ·exact ha _ h3
    ·exact Sv.rule_len l i hi _ _ hr
  ·rw [if_neg hlt] at h
   simp only [Sum.inr.injEq] at h
   rw [←h]
   exact ha
theorem Sv.rules_len (l:List UInt8) (rs:List Sv.Rule) (h:Sv.rules l=.inr rs):∀ q∈rs,q.conds.length≤l.length:=
 Sv.rlF_len _ l [] _ (Sv.sk_le l 0 (Nat.zero_le _)).2 (by intro q hq; cases hq) rs h
theorem dec_cast (a n:Nat):decide ((a:Int) < (n:Int))=decide (a < n):=by
 by_cases h:a < n
 ·rw [decide_eq_true h,decide_eq_true (by omega)]
 ·rw [decide_eq_false h,decide_eq_false (by omega)]
theorem dec8 (n:Nat):decide ((8:Int) < (n:Int))=decide (8 < n):=dec_cast 8 n
theorem dec4 (n:Nat):decide ((4:Int) < (n:Int))=decide (4 < n):=dec_cast 4 n
def VParsePost (w:World) (s:ByteArray) (e:Ending) (w':World):Prop:=
 w.grownBy w' none∧
 if 400 < s.size then e=.returned (.tuple #[.slice none 0 0,.int .i64 0,.int .i64 2])
 else match Sv.rules s.data.toList with
  | .inl k=>e=.returned (.tuple #[.slice none 0 0,.int .i64 k,.int .i64 1])
  | .inr rs=>
   if Sv.ex rs=true then e=.returned (.tuple #[.slice none 0 0,.int .i64 0,.int .i64 2])
   else ∃ u,e=.returned (.tuple #[u,.int .i64 rs.length,.int .i64 0])∧VRsAt w.heap.size u rs w'
def VPLoop (b:Nat) (s:ByteArray) (base:Nat) (w:World) (r:Nat ⊕ List Sv.Rule) (u:Value) (w':World):Prop:=
 ∃ (p:Nat) (bad:Bool),VAt b s p bad w'∧p≤s.size∧w.grownBy w' (some b)∧
  ((bad=true∧r=.inl p∧∃ ao n cap,u=.slice ao n cap)∨(bad=false∧∃ (n:Nat) (acc:List Sv.Rule),s.size < p+n∧acc.length≤p∧VRsAt base u acc w'∧Sv.rlF n s.data.toList acc p=r))
set_option maxHeartbeats 400000 in
theorem vparse_long (s:ByteArray) (w:World) (hm:s.size≤maxLen) (hs:400 < s.size) :
  Calls Tryz.prog 78 #[.string s] w fun e w'=>VParsePost w s e w':=by
 unfold maxLen at hm
 have hd:decide ((400:Int) < (s.size:Int))=true:=by simp; omega
 go_enter Tryz.func78,Tryz.ntmps78
 go_wp2
 go_ret3
 refine ⟨World.grownBy.refl _ _,?_⟩
 rw [if_pos hs]
 rfl
set_option maxRecDepth 100000 in
set_option maxHeartbeats 1000000 in
theorem vparse_short (s:ByteArray) (w:World) (hs:¬ 400 < s.size) :
  Calls Tryz.prog 78 #[.string s] w fun e w'=>VParsePost w s e w':=by
 obtain ⟨i0,hinf,hz0,hz1,hz2⟩:=info_parts Tryz.infoVRule
 have hd:decide ((400:Int) < (s.size:Int))=false:=by simp; omega
 have hs':s.size≤400:=by omega
 have HS:=hide hs
 clear hs
 obtain ⟨r,hr⟩:∃ r,Sv.rules s.data.toList=r:=⟨_,rfl⟩
 have HR:=hide hr
 clear hr
 have hb0:VAt w.heap.size s 0 false (w.alloc (.cells #[.string s,.int .i64 0,.bool false] 229)):=heap_alloc_new _ _
 have hgA:=World.grownBy_alloc w (.cells #[.string s,.int .i64 0,.bool false] 229) none
 have hle:=Sv.sk_le s.data.toList 0 (by simp)
 rw [size_list] at hle
 go_enter Tryz.func78,Tryz.ntmps78
 go_wp2_with fail
 refine (vblanks_w _ s 0 _ (Nat.zero_le _) hs' hb0).mono ?_
 rintro e w1 ⟨rfl,hb1,hg1⟩
 go_wp2_with fail
 go_loopw [6] (fun u w'=>VPLoop w.heap.size s w.heap.size (w.alloc (.cells #[.string s,.int .i64 0,.bool false] 229)) r u w') (fun _ w'=>msOf w.heap.size s.size w')
 case atStart=>
  exact ⟨_,false,hb1,hle.2,hg1,.inr ⟨rfl,s.data.toList.length+1,[],by simp; omega,Nat.zero_le _,⟨[],World.ownsRow_nil _ _ _ _,rfl⟩,unhide HR⟩⟩
 case round=>
  clear hb1 hg1 hle
  obtain ⟨p,bad,hbk,hp,hg,hcase⟩:=hrel
  have HM:=hide (hbk.ms s.size)
  have c1:=hbk.c1
  have c2:=hbk.c2
  rcases hcase with ⟨rfl,hr,ao,nn,cap,rfl⟩ | ⟨rfl,m,acc,hm,hacc,hrs,hnm⟩
  ·have hdec:∃ x,decide (p < s.size)=x:=⟨_,rfl⟩
   obtain ⟨x,hx⟩:=hdec
   cases x
   all_goals
    go_wp2
    go_quiet (fail)
    go_wp2
    go_ret3
    refine ⟨gr_own hgA (gr_trans hg (gr_drewN _ _ _)) (Nat.le_refl _),?_⟩
    rw [if_neg (unhide HS),unhide HR,hr]
    rfl
  ·have HN:=hide hnm
   clear hnm
   obtain ⟨ao,cap,rfl⟩:=hrs.slice
   by_cases hlt:p < s.size
   ·have hx:decide (p < s.size)=true:=by simpa using hlt
    have HN2:Hid ((match Sv.rule s.data.toList p with
      | .inl k=>.inl k
      | .inr (q,j)=>Sv.rlF (m - 1) s.data.toList (acc ++ [q]) (Sv.sk s.data.toList j))=r):=by
     have h0:=unhide HN
     obtain ⟨m2,rfl⟩:∃ m2,m=m2+1:=⟨m - 1,by omega⟩
     rw [Sv.rlF_step,size_list,if_pos hlt] at h0
     exact h0
    clear HN
    go_wp2_with fail
    refine (vrule_any _ s p _ hp hs' (by first | exact hbk | exact hbk.drewN _)).mono ?_
    rintro e w5 ⟨nm,ao5,n5,cap5,j5,bd5,rfl,hb5,hg5,hj5,HV⟩
    have hrs5:=hrs.row hg5 hbk.rowOk (by decide) (by decide) (by decide)
    have hg05:=gr_trans hg hg5
    have hsz5:w.heap.size+1≤w5.heap.size:=by
     have:=hg05.size
     rwa [World.size_alloc] at this
    have hszR:w.heap.size≤wr.heap.size:=by
     have:=hg.size
     rw [World.size_alloc] at this
     omega
    clear hrs hbk hg hg5 c1 c2
    obtain ⟨xs,hown5,hcells5⟩:=hrs5
    have hgB1:=World.grownBy_alloc w5 (.cells #[.string nm,.slice ao5 n5 cap5] 163) none
    have hgB:=gr_trans hgB1 (World.grownBy_alloc (w5.alloc (.cells #[.string nm,.slice ao5 n5 cap5] 163)) (.cells #[.string nm,.slice ao5 n5 cap5] 163) none)
    have hrow:=RowOk.of ((hown5.alloc (.cells #[.string nm,.slice ao5 n5 cap5] 163)).alloc (.cells #[.string nm,.slice ao5 n5 cap5] 163))
    have hb6:=hb5.kept hgB (by simp)
    have hcells6:=VRsCells.row hgB (RowOk.none 0 0 w5) (by decide) (by decide) acc xs hcells5
    have hg06:=gr_trans hg05 (gr_any hgB (some w.heap.size))
    go_wp2_with (at_builtin; refine wpList_append_own _ rfl _ _ 158 rfl w.heap.size 163 i0 (.agg #[.string ⟨#[]⟩,.slice none 0 0]) 2 40 Tryz.underlying158 hinf hz0 hz1 hz2 rfl (by decide) _ acc.length xs rfl ((hown5.alloc _).alloc _) ⟨w5.heap.size+1,0,none⟩ 1 1 [.string nm,.slice ao5 n5 cap5] rfl rfl ?c1 ?c2 ?c3 ?c4 ?c5 ?_)
    case c1=>
     intro jj u hu
     match jj,hu with
     | 0,hu=>simp at hu; subst hu; simp [Addr.add]
     | 1,hu=>simp at hu; subst hu; simp [Addr.add]
     | n+2,hu=>simp at hu
    case c2=>
     intro u hu
     simp at hu
     rcases hu with rfl | rfl<;>rfl
    case c3=>unfold maxLen; omega
    case c4=>omega
    case c5=>simp; omega
    intro v' w7 hown hgrow _
    have hb7:=hb6.row hgrow hrow (by decide)
    have hcells7:=VRsCells.row hgrow hrow (by decide) (by decide) acc xs hcells6
    have hg07:(w.alloc (.cells #[.string s,.int .i64 0,.bool false] 229)).grownBy w7 (some w.heap.size):=by
     refine ⟨hgrow.os.trans hg06.os,hgrow.tape.trans hg06.tape,hgrow.output.trans hg06.output,Nat.le_trans hg06.size hgrow.size,fun k hk hne=>?_⟩
     refine (hgrow.block k (Nat.lt_of_lt_of_le hk hg06.size) (fun e1=>?_)).trans (hg06.block k hk hne)
     have h1:=(hrow k e1.symm).1
     rw [World.size_alloc] at hk
     exact hne (by rw [show k=w.heap.size from by omega])
    obtain ⟨aoA,capA,rfl⟩:∃ ao cap,v'=.slice ao (acc.length+1) cap:=by
     rcases hown.2 with ⟨h1,h2⟩ | ⟨g,cap,cur,h1,_⟩
     ·omega
     ·exact ⟨_,_,h1⟩
    have HV7:Hid ((bd5=true∧Sv.rule s.data.toList p=.inl j5)∨(bd5=false∧∃ (q:Sv.Rule),Sv.rule s.data.toList p=.inr (q,j5)∧p < j5∧VRsAt w.heap.size (.slice aoA (acc.length+1) capA) (acc ++ [q]) w7)):=by
     rcases unhide HV with h1 | ⟨h1,q,h2,rfl,h3,h4⟩
     ·exact .inl h1
     ·have h5:=((VCsAt.row h4 hgB (RowOk.none 0 0 w5) (by decide) (by decide)).row hgrow hrow (by decide) (by decide)).weak hszR
      exact .inr ⟨h1,q,h2,h3,_,by rw [List.length_append]; exact hown,VRsCells.snoc q _ h5 acc xs hcells7⟩
    clear hown hgrow hrow hcells7 hcells6 hcells5 hown5 hb6 hb5 hgB hgB1 hg06 hg05 HV
    go_wp2_with fail
    refine (vblanks_any _ s j5 bd5 _ hj5 hs' hb7).mono ?_
    rintro e w8 ⟨rfl,hb8,hg8⟩
    go_wp2
    go_roundw
    case rel=>
     refine ⟨_,bd5,hb8,?_,gr_trans hg07 hg8,?_⟩
     ·have:=(Sv.sk_le s.data.toList j5 (by rw [size_list]; exact hj5)).2
      rw [size_list] at this
      split<;>omega
     ·have h0:=unhide HN2
      rcases unhide HV7 with ⟨rfl,h2⟩ | ⟨rfl,q,h2,h3,h4⟩
      ·rw [h2] at h0
       exact .inl ⟨rfl,h0.symm,_,_,_,rfl⟩
      ·rw [h2] at h0
       have:=(Sv.sk_le s.data.toList j5 (by rw [size_list]; exact hj5)).1
       refine .inr ⟨rfl,m - 1,acc ++ [q],?_,?_,h4.row hg8 hb7.rowOk (by decide) (by decide) (by decide),h0⟩
       ·rw [if_neg (by simp)]; omega
       ·rw [if_neg (by simp)]; simp; omega
    case measure=>
     refine Nat.lt_of_le_of_lt (Nat.le_of_eq (hb8.ms s.size)) ?_
     rw [unhide HM]
     rcases unhide HV7 with ⟨rfl,h2⟩ | ⟨rfl,q,h2,h3,h4⟩
     ·simp
     ·have:=Sv.sk_le s.data.toList j5 (by rw [size_list]; exact hj5)
      rw [size_list] at this
      simp; omega
   ·have hx:decide (p < s.size)=false:=by simpa using hlt
    have hr:r=.inr acc:=by
     have h0:=unhide HN
     obtain ⟨m2,rfl⟩:∃ m2,m=m2+1:=⟨m - 1,by omega⟩
     rw [Sv.rlF_step,size_list,if_neg hlt] at h0
     exact h0.symm
    subst hr
    clear HN
    have hg1:=gr_own hgA hg (Nat.le_refl _)
    obtain ⟨wo,rfl⟩:∃ wo:World,wo=wr:=⟨_,rfl⟩
    go_wp2
    clear c1 c2 hx hlt HM
    go_loopw [8,9] (fun x y w'=>∃ (k:Nat) (lg:Bool),k≤acc.length∧x=.bool lg∧y=.int .i64 k∧(lg || (acc.drop k).any Sv.exR)=Sv.ex acc∧w'=wo) (fun _ y _=>acc.length - (intOf y).toNat)
    case atStart=>
     refine ⟨0,_,Nat.zero_le _,rfl,rfl,?_,rfl⟩
     unfold Sv.ex
     rw [List.drop_zero,dec8]
    case round=>
     obtain ⟨k,lg,hk,rfl,rfl,hlg,hw⟩:=hrel
     subst wr
     have HL:=hide hlg
     clear hlg
     by_cases hlt:k < acc.length
     ·have hd:decide (k < acc.length)=true:=by simpa using hlt
      obtain ⟨q,hq⟩:∃ q,acc[k]?=some q:=⟨acc[k],List.getElem?_eq_getElem hlt⟩
      have hdr:acc.drop k=q :: acc.drop (k+1):=by
       obtain ⟨h1,h2⟩:=List.getElem?_eq_some_iff.1 hq
       rw [List.drop_eq_getElem_cons h1,h2]
      have HL2:Hid ((lg || Sv.exR q || (acc.drop (k+1)).any Sv.exR)=Sv.ex acc):=by
       have h0:=unhide HL
       rw [hdr,List.any_cons,←Bool.or_assoc] at h0
       exact h0
      clear HL hdr
      obtain ⟨g,cap',ao2,cap2,hv,q0,q1,hcs⟩:=hrs.cells hq
      simp only [Value.slice.injEq,true_and] at hv
      obtain ⟨rfl,rfl⟩:=hv
      have hql:=Sv.rules_len _ _ (unhide HR) q (List.mem_of_getElem? hq)
      rw [size_list] at hql
      clear hq
      obtain ⟨T,hT⟩:∃ T,(lg || Sv.exR q)=T:=⟨_,rfl⟩
      rw [hT] at HL2
      have HT:=hide hT
      clear hT
      cases lg
      all_goals
       go_wp2
       go_loopw [8,10] (fun x z w'=>∃ (k2:Nat) (lg2:Bool),k2≤q.conds.length∧x=.bool lg2∧z=.int .i64 k2∧(lg2 || (q.conds.drop k2).any Sv.exC)=T∧w'=wo) (fun _ z _=>q.conds.length - (intOf z).toNat)
       case atStart=>
        refine ⟨0,_,Nat.zero_le _,rfl,rfl,?_,rfl⟩
        rw [List.drop_zero,←unhide HT]
        first
        | (unfold Sv.exR; rw [dec4,Bool.false_or])
        | simp
       case round=>
        obtain ⟨k2,lg2,hk2,rfl,rfl,hlg2,hw⟩:=hrel
        subst wr
        have HL3:=hide hlg2
        clear hlg2
        by_cases hlt2:k2 < q.conds.length
        ·have hd2:decide (k2 < q.conds.length)=true:=by simpa using hlt2
         obtain ⟨c,hc⟩:∃ c,q.conds[k2]?=some c:=⟨q.conds[k2],List.getElem?_eq_getElem hlt2⟩
         have HL4:Hid ((lg2 || Sv.exC c || (q.conds.drop (k2+1)).any Sv.exC)=T):=by
          have h0:=unhide HL3
          obtain ⟨h1,h2⟩:=List.getElem?_eq_some_iff.1 hc
          rw [List.drop_eq_getElem_cons h1,h2,List.any_cons,←Bool.or_assoc] at h0
          exact h0
         clear HL3
         obtain ⟨g2,cap3,ao3,cap4,hv2,p0,p1,p2,hts⟩:=hcs.cells hc
         simp only [Value.slice.injEq,true_and] at hv2
         obtain ⟨rfl,rfl⟩:=hv2
         clear hc
         cases lg2
         all_goals
          go_wp2
          go_roundw
          case rel=>
           refine ⟨k2+1,_,by omega,rfl,by go_num,?_,by first | trivial | rfl⟩
           rw [←unhide HL4]
           first
           | (unfold Sv.exC; rw [dec4,Bool.false_or])
           | simp
          case measure=>simp [intOf]; omega
        ·have hd2:decide (k2 < q.conds.length)=false:=by simpa using hlt2
         have hlg:lg2=T:=by
          have h0:=unhide HL3
          rw [List.drop_of_length_le (by omega),List.any_nil,Bool.or_false] at h0
          exact h0
         subst hlg
         clear HL3
         go_wp2
         go_roundw
         case rel=>exact ⟨k+1,_,by omega,rfl,by go_num,unhide HL2,by first | trivial | rfl⟩
         case measure=>simp [intOf]; omega
     ·have hd:decide (k < acc.length)=false:=by simpa using hlt
      have hlg:lg=Sv.ex acc:=by
       have h0:=unhide HL
       rw [List.drop_of_length_le (by omega),List.any_nil,Bool.or_false] at h0
       exact h0
      have HE:=hide hlg
      clear HL hlg
      cases lg
      ·go_wp2
       go_ret3
       refine ⟨hg1,?_⟩
       rw [if_neg (unhide HS),unhide HR]
       simp only
       rw [←unhide HE,if_neg (by simp)]
       exact ⟨_,rfl,hrs⟩
      ·go_wp2
       go_ret3
       refine ⟨hg1,?_⟩
       rw [if_neg (unhide HS),unhide HR]
       simp only
       rw [←unhide HE,if_pos rfl]
       rfl
theorem vparse_w (s:ByteArray) (w:World) (hm:s.size≤maxLen) :
  Calls Tryz.prog 78 #[.string s] w fun e w'=>VParsePost w s e w':=by
 by_cases hs:400 < s.size
 ·exact vparse_long s w hm hs
 ·exact vparse_short s w hs
end Go.Proofs.YtolhbeekfjnfmaaGreatDoor
namespace Go.Proofs.YtolhbeekfjnfmaaGreatDoor
open Go.RowKit
theorem one_byteN (w:World) (c:UInt8) (z:Int) (hz:z=c.toNat):Sem.run Tryz.prog (convert 123 9 (.slice (some ⟨w.heap.size,0,none⟩) 1 1)) (w.alloc (.cells #[.int .u8 z] 5))=.ok (.string ⟨#[c]⟩) (w.alloc (.cells #[.int .u8 z] 5)):=by
 subst hz
 exact one_byte w c
set_option maxRecDepth 100000 in
set_option maxHeartbeats 1000000 in
theorem digits_nat (n:Nat) (hn:n≤1000000000) (w:World) :
  Calls Tryz.prog 79 #[.int .i64 n] w fun e w'=>e=.returned (.string ⟨(Lib.decDigits n).toArray⟩)∧w.grownBy w' none:=by
 induction n using Nat.strongRecOn generalizing w with
 | _ n ih=>
  have e0:decide ((n:Int) < 0)=false:=by simp
  obtain ⟨d,hd⟩:∃ d,n % 10=d:=⟨_,rfl⟩
  have hd9:d < 10:=by omega
  have hrem:((n:Int) % 10)=(d:Int):=by omega
  have hrem2:((n:Int).tmod 10)=(d:Int):=by rw [Int.tmod_eq_emod_of_nonneg (by omega)]; exact hrem
  obtain ⟨c,hcc⟩:∃ c:UInt8,UInt8.ofNat (48+d)=c:=⟨_,rfl⟩
  have hc:((c.toNat:Nat):Int)=48+(d:Int):=by
   rw [←hcc,UInt8.toNat_ofNat']; omega
  have hcv:=one_byteN w c (48+(d:Int)) hc.symm
  by_cases h10:n < 10
  ·have e1:decide ((n:Int) < 10)=true:=by simp; omega
   have ed:Lib.decDigits n=[c]:=by rw [Lib.decDigits,dif_pos h10,←hcc]; rw [show d=n from by omega]
   rw [ed]
   clear ih hc hcc ed
   go_enter Tryz.func79,Tryz.ntmps79
   go_wp2
   go_ret
   exact ⟨rfl,World.grownBy_alloc w _ none⟩
  ·have e1:decide ((n:Int) < 10)=false:=by simp; omega
   have ed:Lib.decDigits n=Lib.decDigits (n / 10) ++ [c]:=by rw [Lib.decDigits,dif_neg h10,hd,hcc]
   rw [ed]
   have hq:(n:Int).tdiv 10=((n / 10:Nat):Int):=by rw [Int.tdiv_eq_ediv_of_nonneg (by omega)]; omega
   have hq2:(n:Int) / 10=((n / 10:Nat):Int):=by omega
   have ihq:=fun w=>ih (n / 10) (by omega) (by omega) w
   rw [←hq2] at ihq
   have hL:=Lib.itoa_length_le ((n / 10:Nat):Int) (by omega) (by omega)
   rw [Lib.itoa_nonneg] at hL
   generalize Lib.decDigits (n / 10)=L at ihq hL ⊢
   clear ih hc hcc ed hq2
   go_enter Tryz.func79,Tryz.ntmps79
   go_wp2_with fail
   refine (ihq _).mono ?_
   rintro e w2 ⟨rfl,hg2⟩
   have hg:=gr_trans (World.grownBy_alloc w (.cells #[.int .u8 (48+(d:Int))] 5) none) hg2
   obtain ⟨t,ht⟩:∃ t:ByteArray,t=⟨L.toArray⟩:=⟨_,rfl⟩
   rw [←ht]
   have hts:t.size≤21:=by rw [ht,size_of]; exact hL
   have HT:=hide ht
   clear ht hL ihq
   go_wp2
   go_ret
   exact ⟨by rw [unhide HT,←ba_app]; rfl,hg⟩
set_option maxRecDepth 100000 in
set_option maxHeartbeats 1000000 in
theorem digits_w (z:Int) (h1:-1000000000≤z) (h2:z≤1000000000) (w:World) :
  Calls Tryz.prog 79 #[.int .i64 z] w fun e w'=>e=.returned (.string ⟨(Lib.itoa z).toArray⟩)∧w.grownBy w' none:=by
 by_cases hz:z < 0
 ·obtain ⟨n,rfl⟩:∃ n:Nat,z=-(n:Int):=⟨z.natAbs,by omega⟩
  have hn1:1≤n:=by omega
  rw [Lib.itoa_neg n hn1]
  have e0:decide (-(n:Int) < 0)=true:=by simp; omega
  have hd:=fun w=>digits_nat n (by omega) w
  have hL:=Lib.itoa_length_le (n:Int) (by omega) (by omega)
  rw [Lib.itoa_nonneg] at hL
  generalize Lib.decDigits n=L at hd hL ⊢
  go_enter Tryz.func79,Tryz.ntmps79
  go_wp2_with fail
  refine (hd _).mono ?_
  rintro e w2 ⟨rfl,hg2⟩
  obtain ⟨t,ht⟩:∃ t:ByteArray,t=⟨L.toArray⟩:=⟨_,rfl⟩
  rw [←ht]
  have hts:t.size≤21:=by rw [ht,size_of]; exact hL
  have HT:=hide ht
  clear ht hL hd
  go_wp2
  go_ret
  exact ⟨by rw [unhide HT,show (45 :: L)=[45] ++ L from rfl,←ba_app]; rfl,hg2⟩
 ·obtain ⟨n,rfl⟩:∃ n:Nat,z=(n:Int):=⟨z.toNat,by omega⟩
  rw [Lib.itoa_nonneg]
  exact digits_nat n (by omega) w
end Go.Proofs.YtolhbeekfjnfmaaGreatDoor
namespace Go.Proofs.YtolhbeekfjnfmaaGreatDoor
end Go.Proofs.YtolhbeekfjnfmaaGreatDoor
namespace Go.Proofs.YtolhbeekfjnfmaaGreatDoor
open Go.RowKit
set_option maxRecDepth 100000 in
set_option maxHeartbeats 400000 in
theorem vplain_bad (s:ByteArray) (w:World) (hm:s.size≤maxLen) (n m:Nat)
  (hp:∀ e w',VParsePost w s e w'→e=.returned (.tuple #[.slice none 0 0,.int .i64 n,.int .i64 m])∧w.grownBy w' none) :
  Calls Tryz.prog 50 #[.string s] w fun e w'=>e=.returned (.tuple #[.string ⟨#[]⟩,.int .i64 n,.int .i64 m])∧w.grownBy w' none:=by
 go_enter Tryz.func50,Tryz.ntmps50
 go_wp2_with fail
 refine (vparse_w s w hm).mono ?_
 intro e w1 hpost
 obtain ⟨rfl,hg1⟩:=hp e w1 hpost
 clear hp hpost
 go_wp2
 go_loopw [8,9] (fun x y w'=>x=.string ⟨#[]⟩∧y=.int .i64 0∧w'=w1) (fun _ _ _=>0)
 case atStart=>exact ⟨rfl,rfl,rfl⟩
 case round=>
  obtain ⟨rfl,rfl,rfl⟩:=hrel
  go_wp2
  go_ret3
  exact ⟨rfl,hg1⟩
theorem ba3 (a b c:List UInt8):(⟨a.toArray⟩:ByteArray) ++ ⟨b.toArray⟩ ++ ⟨c.toArray⟩=⟨(a ++ (b ++ c)).toArray⟩:=by rw [ba_app,ba_app,List.append_assoc]
theorem ba33 (a:List UInt8):(⟨a.toArray⟩:ByteArray) ++ ⟨#[33]⟩=⟨(a ++ [33]).toArray⟩:=ba_app a [33]
theorem ba40 (a:List UInt8):(⟨a.toArray⟩:ByteArray) ++ ⟨#[40]⟩=⟨(a ++ [40]).toArray⟩:=ba_app a [40]
theorem VRsAt.none {base:Nat} {v:Value} {rs:List Sv.Rule} {w w':World} (h:VRsAt base v rs w) (hg:w.grownBy w' none):VRsAt base v rs w':=h.row hg (RowOk.none 0 0 w) (by decide) (by decide) (by decide)
theorem VTsAt.none {base:Nat} {v:Value} {ts:List Sv.Term} {w w':World} (h:VTsAt base v ts w) (hg:w.grownBy w' none):VTsAt base v ts w':=h.row hg (RowOk.none 0 0 w) (by decide)
set_option maxRecDepth 100000 in
set_option maxHeartbeats 1000000 in
theorem vplain_good (s:ByteArray) (w:World) (hm:s.size≤maxLen) (hs:¬ 400 < s.size) (rs:List Sv.Rule) (hr:Sv.rules s.data.toList=.inr rs) (hx:Sv.ex rs=false) :
  Calls Tryz.prog 50 #[.string s] w fun e w'=>e=.returned (.tuple #[.string ⟨(Sv.pl rs).toArray⟩,.int .i64 rs.length,.int .i64 0])∧w.grownBy w' none:=by
 have hbd:=Sv.rules_rBd _ rs hr
 have hsh:=Sv.rules_rSh _ rs hr
 have hlen:=Sv.pl_len rs hbd hx
 have hrl:rs.length≤8:=by
  unfold Sv.ex at hx
  rw [Bool.or_eq_false_iff] at hx
  simpa using hx.1
 have HR:=hide hr
 have HX:=hide hx
 have HS:=hide hs
 have HB:=hide hbd
 have HH:=hide hsh
 have HL:=hide hlen
 clear hr hx hs hbd hsh hlen
 go_enter Tryz.func50,Tryz.ntmps50
 go_wp2_with fail
 refine (vparse_w s w hm).mono ?_
 rintro e w1 ⟨hg1,hpost⟩
 rw [if_neg (unhide HS),unhide HR] at hpost
 simp only at hpost
 rw [unhide HX,if_neg (by simp)] at hpost
 obtain ⟨u,rfl,hrs⟩:=hpost
 obtain ⟨ao,cap,rfl⟩:=hrs.slice
 have hrs':VRsAt 0 (.slice ao rs.length cap) rs w1:=hrs.weak (Nat.zero_le _)
 clear hrs
 go_wp2
 go_loopw [8,9] (fun x y w'=>∃ (k:Nat) (t:ByteArray),k≤rs.length∧x=.string t∧y=.int .i64 k∧t=⟨((rs.take k).flatMap Sv.plR).toArray⟩∧w.grownBy w' none∧VRsAt 0 (.slice ao rs.length cap) rs w') (fun _ y _=>rs.length - (intOf y).toNat)
 case atStart=>exact ⟨0,_,Nat.zero_le _,rfl,rfl,by simp,hg1,hrs'⟩
 case round=>
  clear hg1 hrs'
  obtain ⟨k,t,hk,rfl,rfl,ht,hg,hrs⟩:=hrel
  by_cases hlt:k < rs.length
  ·have hd:decide (k < rs.length)=true:=by simpa using hlt
   obtain ⟨q,hq⟩:∃ q,rs[k]?=some q:=⟨rs[k],List.getElem?_eq_getElem hlt⟩
   have hqm:=List.mem_of_getElem? hq
   have hqb:=unhide HB q hqm
   have hqs:=(unhide HH q hqm).1
   have hsn:=fm_snoc Sv.plR rs k q hq
   have hle:=fm_le Sv.plR rs (k+1)
   have hle2:(rs.flatMap Sv.plR).length≤8000:=unhide HL
   rw [hsn,List.length_append] at hle
   have HSN:=hide hsn
   clear hsn
   generalize hXX:(rs.take k).flatMap Sv.plR=X at *
   have hXq:X.length+(Sv.plR q).length≤8000:=by omega
   have HPR:Hid (Sv.plR q=q.name ++ [58] ++ q.conds.flatMap Sv.plC ++ [59,10]):=rfl
   have hXn:X.length+q.name.length+(q.conds.flatMap Sv.plC).length+3≤8000:=by
    have:=congrArg List.length (unhide HPR)
    simp only [List.length_append,List.length_cons,List.length_nil] at this
    omega
   have hcl:q.conds.length≤8000:=by
    have:=fm_ge Sv.plC plC_ge q.conds
    omega
   obtain ⟨g,cap',ao2,cap2,hv,q0,q1,hcs⟩:=hrs.cells hq
   simp only [Value.slice.injEq,true_and] at hv
   obtain ⟨rfl,rfl⟩:=hv
   obtain ⟨nm,hnm⟩:∃ nm:ByteArray,nm=⟨q.name.toArray⟩:=⟨_,rfl⟩
   rw [←hnm] at q0
   have hnms:nm.size≤8000:=by rw [hnm,size_of]; omega
   have hts:t.size≤8000:=by rw [ht,size_of]; omega
   have HNM:=hide hnm
   have HT:=hide ht
   have HQ:=hide hq
   have HXE:=hide hXX
   clear hnm ht hq hXX hle hle2 hqm
   obtain ⟨wo,rfl⟩:∃ wo:World,wo=wr:=⟨_,rfl⟩
   go_wp2
   go_loopw [8,10] (fun x z w'=>∃ (k2:Nat) (t2:ByteArray),k2≤q.conds.length∧x=.string t2∧z=.int .i64 k2∧t2=⟨(X ++ q.name ++ [58] ++ (q.conds.take k2).flatMap Sv.plC).toArray⟩∧w.grownBy w' none∧VRsAt 0 (.slice (some ⟨g,0,none⟩) rs.length cap) rs w') (fun _ z _=>q.conds.length - (intOf z).toNat)
   case atStart=>
    refine ⟨0,_,Nat.zero_le _,rfl,rfl,?_,hg,hrs⟩
    rw [unhide HT,unhide HNM,ba_app,List.take_zero,List.flatMap_nil,List.append_nil]
    exact ba_app _ _
   case round=>
    clear hg hrs q0 q1 hcs HT hts
    obtain ⟨k2,t2,hk2,rfl,rfl,ht2,hg,hrs⟩:=hrel
    obtain ⟨g',cap'',ao2,cap2,hv,q0,q1,hcs⟩:=hrs.cells (unhide HQ)
    simp only [Value.slice.injEq,true_and,Option.some.injEq,Addr.mk.injEq,and_true] at hv
    obtain ⟨rfl,rfl⟩:=hv
    by_cases hlt2:k2 < q.conds.length
    ·have hd2:decide (k2 < q.conds.length)=true:=by simpa using hlt2
     obtain ⟨c,hc⟩:∃ c,q.conds[k2]?=some c:=⟨q.conds[k2],List.getElem?_eq_getElem hlt2⟩
     have hcm:=List.mem_of_getElem? hc
     obtain ⟨hckd,hctok⟩:=hqb.1 c hcm
     have hcsh:=(hqs c hcm).2
     have hsn2:=fm_snoc Sv.plC q.conds k2 c hc
     have hle3:=fm_le Sv.plC q.conds (k2+1)
     rw [hsn2,List.length_append] at hle3
     obtain ⟨g2,cap3,ao3,cap4,hv2,p0,p1,p2,hts⟩:=hcs.cells hc
     simp only [Value.slice.injEq,true_and] at hv2
     obtain ⟨rfl,rfl⟩:=hv2
     have hts2:t2.size≤8000:=by
      rw [ht2,size_of]; simp only [List.length_append,List.length_singleton]; omega
     have HSN2:=hide hsn2
     have HT2:=hide ht2
     have HPC:Hid (Sv.plC c=(if c.neg=true then [33] else []) ++ [40] ++ Lib.itoa c.kind ++ Sv.tms c.terms ++ [41]):=rfl
     have htg:=Sv.tms_ge c.terms
     have hilk:=Lib.itoa_length_le (c.kind:Int) (by omega) (by omega)
     clear hc hcm hsn2 ht2
     cases hneg:c.neg
     ·rw [hneg] at p0
      have hg3w:=World.grownBy_alloc wr (.cells #[.bool false,.int .i64 c.kind,.slice ao3 c.terms.length cap4] 166) none
      have hC0:C3 166 wr.heap.size (.bool false) (.int .i64 c.kind) (.slice ao3 c.terms.length cap4) (wr.alloc (.cells #[.bool false,.int .i64 c.kind,.slice ao3 c.terms.length cap4] 166)):=heap_alloc_new _ _
      go_wp2_with fail
      refine (digits_w (c.kind:Int) (by omega) (by omega) _).mono ?_
      rintro e w3 ⟨rfl,hg3⟩
      have hC3:=hC0.kept hg3 (by simp)
      have hts3:=(hts.none hg3w).none hg3
      have hrs3:=(hrs.none hg3w).none hg3
      have hg03:=gr_trans (gr_trans hg hg3w) hg3
      have hNlt:wr.heap.size < w3.heap.size:=hC3.lt
      clear hC0 hg3w hg3 hts hrs hg q0 q1 hcs p0 p1 p2
      generalize wr.heap.size=N at *
      obtain ⟨dk,hdk⟩:∃ dk:ByteArray,dk=⟨(Lib.itoa c.kind).toArray⟩:=⟨_,rfl⟩
      rw [←hdk]
      have hdks:dk.size≤21:=by rw [hdk,size_of]; exact hilk
      have HDK:=hide hdk
      clear hdk
      obtain ⟨Y1,hY1⟩:∃ Y1,X ++ q.name ++ [58] ++ (q.conds.take k2).flatMap Sv.plC ++ [] ++ [40] ++ Lib.itoa c.kind=Y1:=⟨_,rfl⟩
      have hY1l:Y1.length+(Sv.tms c.terms).length+1≤8000:=by
       rw [←hY1]
       have h8:=congrArg List.length (unhide HPC)
       simp only [List.length_append,List.length_cons,List.length_nil] at h8 ⊢
       rw [hneg] at h8
       simp at h8
       omega
      have HY1:=hide hY1
      clear hY1
      go_wp2
      go_loopw [8,12] (fun x y w'=>∃ (k3:Nat) (t3:ByteArray),k3≤c.terms.length∧x=.string t3∧y=.int .i64 k3∧t3=⟨(Y1 ++ Sv.tms (c.terms.take k3)).toArray⟩∧w.grownBy w' none∧VRsAt 0 (.slice (some ⟨g,0,none⟩) rs.length cap) rs w'∧C3 166 N (.bool false) (.int .i64 c.kind) (.slice ao3 c.terms.length cap4) w'∧VTsAt 0 (.slice ao3 c.terms.length cap4) c.terms w') (fun _ y _=>c.terms.length - (intOf y).toNat)
      case atStart=>
       refine ⟨0,_,Nat.zero_le _,rfl,rfl,?_,hg03,hrs3,hC3,hts3⟩
       rw [unhide HT2,unhide HDK,←unhide HY1]
       simp only [List.take_zero,Sv.tms,List.flatMap_nil,List.append_nil]
       rw [ba40,ba_app]
      case round=>
       clear hg03 hrs3 hC3 hts3 hts2
       obtain ⟨k3,t3,hk3,rfl,rfl,ht3,hg,hrs,hC,hts⟩:=hrel
       have dC:=hC.c.2.2
       by_cases hlt3:k3 < c.terms.length
       ·have hd3:decide (k3 < c.terms.length)=true:=by simpa using hlt3
        obtain ⟨tm,htm⟩:∃ tm,c.terms[k3]?=some tm:=⟨c.terms[k3],List.getElem?_eq_getElem hlt3⟩
        have htmm:=List.mem_of_getElem? htm
        obtain ⟨hv1,hv2⟩:=hctok tm htmm
        have hshp:=hcsh tm htmm
        have hsn3:=Sv.tms_snoc c.terms k3 tm htm
        have hle3:=Sv.tms_le c.terms (k3+1)
        have hl3:t3.size=Y1.length+(Sv.tms (c.terms.take k3)).length:=by rw [ht3,size_of,List.length_append]
        have hl4:(Sv.tms (c.terms.take (k3+1))).length=(Sv.tms (c.terms.take k3)).length+1+(Sv.plT tm).length:=by
         rw [hsn3,List.length_append,List.length_cons,Nat.add_comm (Sv.plT tm).length 1,Nat.add_assoc]
        have hl5:(Sv.plT tm).length≤8000:=by omega
        have hl6:t3.size≤8000:=by omega
        obtain ⟨g3,cap5,hv3,r0,r1,r2⟩:=hts.cells htm
        simp only [Value.slice.injEq,true_and] at hv3
        obtain ⟨rfl,rfl⟩:=hv3
        have HSN3:=hide hsn3
        have HT3:=hide ht3
        clear hsn3 ht3 htm htmm hle3 hl3 hl4
        have hgt:=World.grownBy_alloc wr (.cells #[.int .u8 tm.letter.toNat,.int .i64 tm.value,.bool (tm.sort == 0)] 169) none
        rcases hshp with h0 | ⟨h0,h1⟩ | ⟨h0,h1⟩
        ·have hpl:Sv.plT tm=[95]:=by unfold Sv.plT; rw [if_pos h0]
         have hb0:(tm.sort == 0)=true:=by rw [h0]; rfl
         rw [hb0] at r2 hgt
         have HPL:=hide hpl
         clear hpl h0 hb0 hl5
         go_wp2
         go_roundw
         case rel=>
          refine ⟨k3+1,_,by omega,rfl,by go_num,?_,gr_trans hg hgt,hrs.none hgt,hC.kept hgt (by simp),hts.none hgt⟩
          rw [unhide HSN3,unhide HPL,unhide HT3,←List.append_assoc]
          exact ba_app _ _
         case measure=>simp [intOf]; omega
        ·have hpl:Sv.plT tm=[tm.letter]:=by unfold Sv.plT; rw [if_neg (by omega),if_pos h0]
         have hb0:(tm.sort == 0)=false:=by rw [h0]; rfl
         rw [hb0] at r2 hgt
         have hlet:decide ((0:Int) < (tm.letter.toNat:Int))=true:=by simp; omega
         have HPL:=hide hpl
         have hcv:=one_byte (wr.alloc (.cells #[.int .u8 tm.letter.toNat,.int .i64 tm.value,.bool false] 169)) tm.letter
         rw [World.size_alloc] at hcv
         clear hpl h0 hb0 hl5
         go_wp2
         go_roundw
         case rel=>
          have hgt2:=gr_trans hgt (World.grownBy_alloc _ (.cells #[.int .u8 tm.letter.toNat] 5) none)
          refine ⟨k3+1,_,by omega,rfl,by go_num,?_,gr_trans hg hgt2,hrs.none hgt2,hC.kept hgt2 (by simp),hts.none hgt2⟩
          rw [unhide HSN3,unhide HPL,unhide HT3,←List.append_assoc]
          exact ba3 _ [32] [tm.letter]
         case measure=>simp [intOf]; omega
        ·have hpl:Sv.plT tm=Lib.itoa tm.value:=by unfold Sv.plT; rw [if_neg (by omega),if_neg (by omega),if_pos h0]
         have hb0:(tm.sort == 0)=false:=by rw [h0]; rfl
         rw [hb0] at r2 hgt
         rw [h1] at r0 hgt
         rw [hpl] at hl5
         have HPL:=hide hpl
         clear hpl h0 hb0
         go_wp2_with fail
         refine (digits_w tm.value (by omega) (by omega) _).mono ?_
         rintro e w4 ⟨rfl,hg4⟩
         have hgt2:=gr_trans hgt hg4
         obtain ⟨dv,hdv⟩:∃ dv:ByteArray,dv=⟨(Lib.itoa tm.value).toArray⟩:=⟨_,rfl⟩
         rw [←hdv]
         have hdvs:dv.size≤8000:=by rw [hdv,size_of]; exact hl5
         have HDV:=hide hdv
         clear hdv
         go_wp2
         go_roundw
         case rel=>
          refine ⟨k3+1,_,by omega,rfl,by go_num,?_,gr_trans hg hgt2,hrs.none hgt2,hC.kept hgt2 (by simp),hts.none hgt2⟩
          rw [unhide HSN3,unhide HPL,unhide HT3,unhide HDV,←List.append_assoc]
          exact ba3 _ [32] (Lib.itoa tm.value)
         case measure=>simp [intOf]; omega
       ·obtain rfl:k3=c.terms.length:=by omega
        have hd3:decide (c.terms.length < c.terms.length)=false:=by simp
        rw [List.take_length] at ht3
        have hl3:t3.size≤8000:=by rw [ht3,size_of,List.length_append]; omega
        have HT3:=hide ht3
        clear ht3 hlt3
        go_wp2
        go_roundw
        case rel=>
         refine ⟨k2+1,_,by omega,rfl,by go_num,?_,hg,hrs⟩
         rw [unhide HSN2,unhide HPC,hneg,unhide HT3,←unhide HY1]
         refine (ba_app _ _).trans ?_
         simp only [List.append_assoc,if_false,Bool.false_eq_true,List.nil_append]
        case measure=>simp [intOf]; omega
     ·rw [hneg] at p0
      have hg3w:=World.grownBy_alloc wr (.cells #[.bool true,.int .i64 c.kind,.slice ao3 c.terms.length cap4] 166) none
      have hC0:C3 166 wr.heap.size (.bool true) (.int .i64 c.kind) (.slice ao3 c.terms.length cap4) (wr.alloc (.cells #[.bool true,.int .i64 c.kind,.slice ao3 c.terms.length cap4] 166)):=heap_alloc_new _ _
      go_wp2_with fail
      refine (digits_w (c.kind:Int) (by omega) (by omega) _).mono ?_
      rintro e w3 ⟨rfl,hg3⟩
      have hC3:=hC0.kept hg3 (by simp)
      have hts3:=(hts.none hg3w).none hg3
      have hrs3:=(hrs.none hg3w).none hg3
      have hg03:=gr_trans (gr_trans hg hg3w) hg3
      have hNlt:wr.heap.size < w3.heap.size:=hC3.lt
      clear hC0 hg3w hg3 hts hrs hg q0 q1 hcs p0 p1 p2
      generalize wr.heap.size=N at *
      obtain ⟨dk,hdk⟩:∃ dk:ByteArray,dk=⟨(Lib.itoa c.kind).toArray⟩:=⟨_,rfl⟩
      rw [←hdk]
      have hdks:dk.size≤21:=by rw [hdk,size_of]; exact hilk
      have HDK:=hide hdk
      clear hdk
      obtain ⟨Y1,hY1⟩:∃ Y1,X ++ q.name ++ [58] ++ (q.conds.take k2).flatMap Sv.plC ++ [33] ++ [40] ++ Lib.itoa c.kind=Y1:=⟨_,rfl⟩
      have hY1l:Y1.length+(Sv.tms c.terms).length+1≤8000:=by
       rw [←hY1]
       have h8:=congrArg List.length (unhide HPC)
       simp only [List.length_append,List.length_cons,List.length_nil] at h8 ⊢
       rw [hneg] at h8
       simp at h8
       omega
      have HY1:=hide hY1
      clear hY1
      go_wp2
      go_loopw [8,12] (fun x y w'=>∃ (k3:Nat) (t3:ByteArray),k3≤c.terms.length∧x=.string t3∧y=.int .i64 k3∧t3=⟨(Y1 ++ Sv.tms (c.terms.take k3)).toArray⟩∧w.grownBy w' none∧VRsAt 0 (.slice (some ⟨g,0,none⟩) rs.length cap) rs w'∧C3 166 N (.bool true) (.int .i64 c.kind) (.slice ao3 c.terms.length cap4) w'∧VTsAt 0 (.slice ao3 c.terms.length cap4) c.terms w') (fun _ y _=>c.terms.length - (intOf y).toNat)
      case atStart=>
       refine ⟨0,_,Nat.zero_le _,rfl,rfl,?_,hg03,hrs3,hC3,hts3⟩
       rw [unhide HT2,unhide HDK,←unhide HY1]
       simp only [List.take_zero,Sv.tms,List.flatMap_nil,List.append_nil]
       rw [ba33,ba40,ba_app]
      case round=>
       clear hg03 hrs3 hC3 hts3 hts2
       obtain ⟨k3,t3,hk3,rfl,rfl,ht3,hg,hrs,hC,hts⟩:=hrel
       have dC:=hC.c.2.2
       by_cases hlt3:k3 < c.terms.length
       ·have hd3:decide (k3 < c.terms.length)=true:=by simpa using hlt3
        obtain ⟨tm,htm⟩:∃ tm,c.terms[k3]?=some tm:=⟨c.terms[k3],List.getElem?_eq_getElem hlt3⟩
        have htmm:=List.mem_of_getElem? htm
        obtain ⟨hv1,hv2⟩:=hctok tm htmm
        have hshp:=hcsh tm htmm
        have hsn3:=Sv.tms_snoc c.terms k3 tm htm
        have hle3:=Sv.tms_le c.terms (k3+1)
        have hl3:t3.size=Y1.length+(Sv.tms (c.terms.take k3)).length:=by rw [ht3,size_of,List.length_append]
        have hl4:(Sv.tms (c.terms.take (k3+1))).length=(Sv.tms (c.terms.take k3)).length+1+(Sv.plT tm).length:=by
         rw [hsn3,List.length_append,List.length_cons,Nat.add_comm (Sv.plT tm).length 1,Nat.add_assoc]
        have hl5:(Sv.plT tm).length≤8000:=by omega
        have hl6:t3.size≤8000:=by omega
        obtain ⟨g3,cap5,hv3,r0,r1,r2⟩:=hts.cells htm
        simp only [Value.slice.injEq,true_and] at hv3
        obtain ⟨rfl,rfl⟩:=hv3
        have HSN3:=hide hsn3
        have HT3:=hide ht3
        clear hsn3 ht3 htm htmm hle3 hl3 hl4
        have hgt:=World.grownBy_alloc wr (.cells #[.int .u8 tm.letter.toNat,.int .i64 tm.value,.bool (tm.sort == 0)] 169) none
        rcases hshp with h0 | ⟨h0,h1⟩ | ⟨h0,h1⟩
        ·have hpl:Sv.plT tm=[95]:=by unfold Sv.plT; rw [if_pos h0]
         have hb0:(tm.sort == 0)=true:=by rw [h0]; rfl
         rw [hb0] at r2 hgt
         have HPL:=hide hpl
         clear hpl h0 hb0 hl5
         go_wp2
         go_roundw
         case rel=>
          refine ⟨k3+1,_,by omega,rfl,by go_num,?_,gr_trans hg hgt,hrs.none hgt,hC.kept hgt (by simp),hts.none hgt⟩
          rw [unhide HSN3,unhide HPL,unhide HT3,←List.append_assoc]
          exact ba_app _ _
         case measure=>simp [intOf]; omega
        ·have hpl:Sv.plT tm=[tm.letter]:=by unfold Sv.plT; rw [if_neg (by omega),if_pos h0]
         have hb0:(tm.sort == 0)=false:=by rw [h0]; rfl
         rw [hb0] at r2 hgt
         have hlet:decide ((0:Int) < (tm.letter.toNat:Int))=true:=by simp; omega
         have HPL:=hide hpl
         have hcv:=one_byte (wr.alloc (.cells #[.int .u8 tm.letter.toNat,.int .i64 tm.value,.bool false] 169)) tm.letter
         rw [World.size_alloc] at hcv
         clear hpl h0 hb0 hl5
         go_wp2
         go_roundw
         case rel=>
          have hgt2:=gr_trans hgt (World.grownBy_alloc _ (.cells #[.int .u8 tm.letter.toNat] 5) none)
          refine ⟨k3+1,_,by omega,rfl,by go_num,?_,gr_trans hg hgt2,hrs.none hgt2,hC.kept hgt2 (by simp),hts.none hgt2⟩
          rw [unhide HSN3,unhide HPL,unhide HT3,←List.append_assoc]
          exact ba3 _ [32] [tm.letter]
         case measure=>simp [intOf]; omega
        ·have hpl:Sv.plT tm=Lib.itoa tm.value:=by unfold Sv.plT; rw [if_neg (by omega),if_neg (by omega),if_pos h0]
         have hb0:(tm.sort == 0)=false:=by rw [h0]; rfl
         rw [hb0] at r2 hgt
         rw [h1] at r0 hgt
         rw [hpl] at hl5
         have HPL:=hide hpl
         clear hpl h0 hb0
         go_wp2_with fail
         refine (digits_w tm.value (by omega) (by omega) _).mono ?_
         rintro e w4 ⟨rfl,hg4⟩
         have hgt2:=gr_trans hgt hg4
         obtain ⟨dv,hdv⟩:∃ dv:ByteArray,dv=⟨(Lib.itoa tm.value).toArray⟩:=⟨_,rfl⟩
         rw [←hdv]
         have hdvs:dv.size≤8000:=by rw [hdv,size_of]; exact hl5
         have HDV:=hide hdv
         clear hdv
         go_wp2
         go_roundw
         case rel=>
          refine ⟨k3+1,_,by omega,rfl,by go_num,?_,gr_trans hg hgt2,hrs.none hgt2,hC.kept hgt2 (by simp),hts.none hgt2⟩
          rw [unhide HSN3,unhide HPL,unhide HT3,unhide HDV,←List.append_assoc]
          exact ba3 _ [32] (Lib.itoa tm.value)
         case measure=>simp [intOf]; omega
       ·obtain rfl:k3=c.terms.length:=by omega
        have hd3:decide (c.terms.length < c.terms.length)=false:=by simp
        rw [List.take_length] at ht3
        have hl3:t3.size≤8000:=by rw [ht3,size_of,List.length_append]; omega
        have HT3:=hide ht3
        clear ht3 hlt3
        go_wp2
        go_roundw
        case rel=>
         refine ⟨k2+1,_,by omega,rfl,by go_num,?_,hg,hrs⟩
         rw [unhide HSN2,unhide HPC,hneg,unhide HT3,←unhide HY1]
         refine (ba_app _ _).trans ?_
         simp only [List.append_assoc,if_true]
        case measure=>simp [intOf]; omega
    ·obtain rfl:k2=q.conds.length:=by omega
     have hd2:decide (q.conds.length < q.conds.length)=false:=by simp
     rw [List.take_length] at ht2
     have HT2:=hide ht2
     have hts2:t2.size≤8000:=by
      rw [ht2,size_of]; simp only [List.length_append,List.length_singleton]; omega
     clear ht2 hlt2
     go_wp2
     go_roundw
     case rel=>
      refine ⟨k+1,_,by omega,rfl,by go_num,?_,hg,hrs⟩
      rw [unhide HSN,unhide HPR,unhide HT2]
      refine (ba_app _ _).trans ?_
      simp only [List.append_assoc]
     case measure=>simp [intOf]; omega
  ·obtain rfl:k=rs.length:=by omega
   have hd:decide (rs.length < rs.length)=false:=by simp
   rw [List.take_length] at ht
   have HT:=hide ht
   clear ht hlt
   go_wp2
   go_ret3
   exact ⟨by rw [show Sv.pl rs=rs.flatMap Sv.plR from rfl,←unhide HT]; rfl,hg⟩
end Go.Proofs.YtolhbeekfjnfmaaGreatDoor

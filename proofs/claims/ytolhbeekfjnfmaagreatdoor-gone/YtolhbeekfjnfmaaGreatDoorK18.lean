import Derived.Test.YtolhbeekfjnfmaaGreatDoorK17
import Derived.Test.YtolhbeekfjnfmaaGreatDoorK03
namespace Go.Proofs.YtolhbeekfjnfmaaGreatDoor
theorem Sv.let_rng (c:UInt8) (h:Sv.letB c=true):97≤c.toNat∧c.toNat≤122:=by simpa [Sv.letB] using h
theorem Sv.nd_last (n:Nat) (l:List UInt8) (v i:Nat):(Sv.ndF n l v i).2=i∨Sv.digB (Sv.pk l ((Sv.ndF n l v i).2 - 1))=true:=by
 induction n generalizing v i with
 | zero=>exact .inl rfl
 | succ n ih=>
  rw [Sv.ndF_step]
  split
  ·rename_i hc
   rcases ih (v * 10+((Sv.pk l i).toNat - 48)) (i+1) with h | h
   ·exact .inr (by rw [h]; exact hc)
   ·exact .inr h
  ·exact .inl rfl
theorem Sv.number_shape (l:List UInt8) (i:Nat) (t:Sv.Term) (j:Nat) (h:Sv.number l i=.inr (t,j)):t=⟨2,0,t.value⟩∧Sv.digB (Sv.pk l (j - 1))=true:=by
 unfold Sv.number at h
 cases hm:Sv.pk l i == 45
 ·rw [hm] at h
  simp only [Bool.false_eq_true,if_false] at h
  by_cases hne:(Sv.ndF 9 l 0 i).2=i
  ·rw [if_pos hne] at h; cases h
  ·rw [if_neg hne] at h
   simp only [Sum.inr.injEq,Prod.mk.injEq] at h
   obtain ⟨rfl,rfl⟩:=h
   refine ⟨rfl,?_⟩
   rcases Sv.nd_last 9 l 0 i with h | h
   ·exact absurd h hne
   ·exact h
 ·rw [hm] at h
  simp only [if_true] at h
  by_cases hne:(Sv.ndF 9 l 0 (i+1)).2=i+1
  ·rw [if_pos hne] at h; cases h
  ·rw [if_neg hne] at h
   simp only [Sum.inr.injEq,Prod.mk.injEq] at h
   obtain ⟨rfl,rfl⟩:=h
   refine ⟨rfl,?_⟩
   rcases Sv.nd_last 9 l 0 (i+1) with h | h
   ·exact absurd h hne
   ·exact h
def Sv.tSh (t:Sv.Term):Prop:=t.sort=0∨(t.sort=1∧0 < t.letter.toNat)∨(t.sort=2∧t.letter=0)
def Sv.cSh (c:Sv.Cond):Prop:=c.kind≤9∧∀ t∈c.terms,Sv.tSh t
def Sv.rShO (q:Sv.Rule):Prop:=∀ c∈q.conds,Sv.cSh c
theorem Sv.term_tSh (l:List UInt8) (i:Nat) (t:Sv.Term) (j:Nat) (h:Sv.term l i=.inr (t,j)):Sv.tSh t:=by
 unfold Sv.term at h
 split at h
 ·simp only [Sum.inr.injEq,Prod.mk.injEq] at h
  obtain ⟨rfl,_⟩:=h
  exact .inl rfl
 ·split at h
  ·rename_i hl
   simp only [Sum.inr.injEq,Prod.mk.injEq] at h
   obtain ⟨rfl,_⟩:=h
   exact .inr (.inl ⟨rfl,by have:=Sv.let_rng _ hl; show 0 < (Sv.pk l i).toNat; omega⟩)
  ·split at h
   ·have h3:=(Sv.number_shape _ _ _ _ h).1
    exact .inr (.inr ⟨by rw [h3],by rw [h3]⟩)
   ·cases h
theorem Sv.tmF_tSh (n:Nat) (l:List UInt8) (acc:List Sv.Term) (i:Nat) (ts:List Sv.Term) (j:Nat) (h:Sv.tmF n l acc i=.inr (ts,j)) (ha:∀ t∈acc,Sv.tSh t):∀ t∈ts,Sv.tSh t:=by
 induction n generalizing acc i with
 | zero=>cases h
 | succ n ih=>
  rw [Sv.tmF_step] at h
  split at h
  ·simp only [Sum.inr.injEq,Prod.mk.injEq] at h
   rw [←h.1]; exact ha
  ·cases hr:Sv.term l (Sv.sk l i) with
   | inl k=>rw [hr] at h; cases h
   | inr p=>
    obtain ⟨t,k⟩:=p
    rw [hr] at h
    refine ih (acc ++ [t]) k h ?_
    intro x hx
    rcases List.mem_append.1 hx with hx | hx
    ·exact ha x hx
    ·rw [List.mem_singleton] at hx
     rw [hx]
     exact Sv.term_tSh l _ t k hr
theorem Sv.cond_cSh (l:List UInt8) (i:Nat) (c:Sv.Cond) (j:Nat) (h:Sv.cond l i=.inr (c,j)):Sv.cSh c:=by
 unfold Sv.cond at h
 simp only at h
 split at h
 ·split at h
  ·rename_i hd
   have hr:=Sv.dig_rng _ hd
   cases ht:Sv.terms l (Sv.sk l (Sv.sk l i+1)+1) with
   | inl m=>rw [ht] at h; cases h
   | inr p=>
    obtain ⟨ts,m⟩:=p
    rw [ht] at h
    simp only [Sum.inr.injEq,Prod.mk.injEq] at h
    obtain ⟨rfl,_⟩:=h
    refine ⟨?_,Sv.tmF_tSh _ l [] _ ts m ht (by simp)⟩
    show (Sv.pk l (Sv.sk l (Sv.sk l i+1))).toNat - 48≤9
    omega
  ·cases h
 ·cases h
theorem Sv.cdF_cSh (n:Nat) (l:List UInt8) (acc:List Sv.Cond) (i:Nat) (cs:List Sv.Cond) (j:Nat) (h:Sv.cdF n l acc i=.inr (cs,j)) (ha:∀ c∈acc,Sv.cSh c):∀ c∈cs,Sv.cSh c:=by
 induction n generalizing acc i with
 | zero=>cases h
 | succ n ih=>
  rw [Sv.cdF_step] at h
  split at h
  ·simp only [Sum.inr.injEq,Prod.mk.injEq] at h
   rw [←h.1]; exact ha
  ·generalize (if (Sv.pk l (Sv.sk l i) == 33)=true then Sv.sk l i+1 else Sv.sk l i)=x at h
   cases hr:Sv.cond l x with
   | inl k=>rw [hr] at h; cases h
   | inr p=>
    obtain ⟨c,k⟩:=p
    rw [hr] at h
    refine ih _ k h ?_
    intro y hy
    rcases List.mem_append.1 hy with hy | hy
    ·exact ha y hy
    ·rw [List.mem_singleton] at hy
     rw [hy]
     exact Sv.cond_cSh l x c k hr
theorem Sv.conds_cSh (l:List UInt8) (i:Nat) (cs:List Sv.Cond) (j:Nat) (h:Sv.conds l i=.inr (cs,j)):∀ c∈cs,Sv.cSh c:=by
 unfold Sv.conds at h
 cases hr:Sv.cond l i with
 | inl k=>rw [hr] at h; cases h
 | inr p=>
  obtain ⟨c,k⟩:=p
  rw [hr] at h
  refine Sv.cdF_cSh _ l [c] k cs j h ?_
  intro y hy
  rw [List.mem_singleton] at hy
  rw [hy]
  exact Sv.cond_cSh l i c k hr
def Sv.rSh (q:Sv.Rule):Prop:=Sv.rShO q∧q.name.length≤8
theorem Sv.rule_rSh (l:List UInt8) (i:Nat) (hi:i≤l.length) (q:Sv.Rule) (j:Nat) (h:Sv.rule l i=.inr (q,j)):Sv.rSh q:=by
 have hn:=Sv.nmF_le 8 l i hi
 unfold Sv.rule at h
 simp only at h
 split at h
 ·cases h
 ·split at h
  ·cases hr:Sv.conds l (Sv.sk l (Sv.nmF 8 l i)+1) with
   | inl m=>rw [hr] at h; cases h
   | inr p=>
    obtain ⟨cs,m⟩:=p
    rw [hr] at h
    simp only [Sum.inr.injEq,Prod.mk.injEq] at h
    obtain ⟨rfl,_⟩:=h
    refine ⟨Sv.conds_cSh l _ cs m hr,?_⟩
    simp
    omega
  ·cases h
theorem Sv.rlF_rSh (n:Nat) (l:List UInt8) (acc:List Sv.Rule) (i:Nat) (rs:List Sv.Rule) (h:Sv.rlF n l acc i=.inr rs) (ha:∀ q∈acc,Sv.rSh q):∀ q∈rs,Sv.rSh q:=by
 induction n generalizing acc i with
 | zero=>cases h
 | succ n ih=>
  rw [Sv.rlF_step] at h
  split at h
  ·rename_i hlt
   cases hr:Sv.rule l i with
   | inl k=>rw [hr] at h; cases h
   | inr p=>
    obtain ⟨q,k⟩:=p
    rw [hr] at h
    refine ih _ (Sv.sk l k) h ?_
    intro y hy
    rcases List.mem_append.1 hy with hy | hy
    ·exact ha y hy
    ·rw [List.mem_singleton] at hy
     rw [hy]
     exact Sv.rule_rSh l i (by omega) q k hr
  ·simp only [Sum.inr.injEq] at h
   rw [←h]; exact ha
theorem Sv.rules_rSh (l:List UInt8) (rs:List Sv.Rule) (h:Sv.rules l=.inr rs):∀ q∈rs,Sv.rSh q:=Sv.rlF_rSh _ l [] _ rs h (by simp)
def Sv.tmOk (t:Sv.Term):Prop:=t.sort=0∨(t.sort=1∧0 < t.letter.toNat)∨(t.sort=2∧t.letter=0)
structure Sv.RsOk (rs:List Sv.Rule):Prop where
 len:rs.length≤8
 conds:∀ q∈rs,q.conds.length≤4
 terms:∀ q∈rs,∀ c∈q.conds,c.terms.length≤4
 shape:∀ q∈rs,∀ c∈q.conds,∀ t∈c.terms,Sv.tmOk t
def Sv.valOk (x:Int):Bool:=!(decide (x < -999999999) || decide (999999999 < x))
def Sv.factOk (f:Sv.Fact):Bool:=!(decide (f.kind < 0) || decide (9 < f.kind) || decide (4 < f.vals.length)) && f.vals.all Sv.valOk
def Sv.netOf (l:List UInt8):Nat ⊕ List Sv.Rule:=
 if 400 < l.length then .inl 2 else match Sv.rules l with
  | .inl _=>.inl 1
  | .inr rs=>if Sv.ex rs=true then .inl 2 else .inr rs
theorem Sv.netOf_ok (l:List UInt8) (rs:List Sv.Rule) (h:Sv.netOf l=.inr rs):Sv.RsOk rs:=by
 unfold Sv.netOf at h
 split at h
 ·cases h
 ·cases hr:Sv.rules l with
  | inl k=>rw [hr] at h; cases h
  | inr rs'=>
   rw [hr] at h
   simp only at h
   split at h
   ·cases h
   ·rename_i hx
    cases h
    have hsh:=Sv.rules_rSh l rs hr
    simp only [Bool.not_eq_true] at hx
    unfold Sv.ex at hx
    rw [Bool.or_eq_false_iff,List.any_eq_false] at hx
    obtain ⟨h8,hx⟩:=hx
    have hq:∀ q∈rs,q.conds.length≤4∧∀ c∈q.conds,c.terms.length≤4:=by
     intro q hq
     have h1:=hx q hq
     simp only [Bool.not_eq_true] at h1
     unfold Sv.exR at h1
     rw [Bool.or_eq_false_iff,List.any_eq_false] at h1
     refine ⟨by simpa using h1.1,fun c hc=>?_⟩
     have h2:=h1.2 c hc
     simpa [Sv.exC] using h2
    exact ⟨by simpa using h8,fun q hm=>(hq q hm).1,fun q hm=>(hq q hm).2,fun q hm c hc t ht=>((hsh q hm).1 c hc).2 t ht⟩
def Sv.hasM (ms:List (Int×List Int)) (m:Int×List Int):Bool:=ms.any (fun k=>decide (k=m))
def Sv.keepF (ms fd:List (Int×List Int)):List (Int×List Int):=fd.filter (fun f=>Sv.hasM ms f)
structure Sv.St where
 rs:List Sv.Rule
 L:List (Int×Sv.Fact)
 cnt:Int
 fired:List (Int×List Int)
def Sv.St.add (s:Sv.St) (f:Sv.Fact):(Int×Int)×Sv.St:=
 if Sv.factOk f=false then ((0,3),s)
 else if 16≤s.L.length then ((0,4),s)
 else ((s.cnt+1,0),⟨s.rs,s.L ++ [(s.cnt+1,f)],s.cnt+1,Sv.keepF (Sv.matches s.rs (s.L ++ [(s.cnt+1,f)])) s.fired⟩)
structure Sv.StOk (s:Sv.St):Prop where
 rules:Sv.RsOk s.rs
 facts:s.L.length≤16
 c0:0≤s.cnt
 fired:s.fired.length≤1000000
end Go.Proofs.YtolhbeekfjnfmaaGreatDoor

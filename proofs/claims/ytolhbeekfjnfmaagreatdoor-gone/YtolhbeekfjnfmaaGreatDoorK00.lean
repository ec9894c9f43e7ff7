namespace Go.Proofs.YtolhbeekfjnfmaaGreatDoor
def Sv.pk (l:List UInt8) (i:Nat):UInt8:=l.getD i 0
def Sv.letB (c:UInt8):Bool:=decide (97≤c.toNat) && decide (c.toNat≤122)
def Sv.digB (c:UInt8):Bool:=decide (48≤c.toNat) && decide (c.toNat≤57)
def Sv.blB (c:UInt8):Bool:=c == 32 || c == 10
def Sv.sk (l:List UInt8) (i:Nat):Nat:=i+((l.drop i).takeWhile Sv.blB).length
theorem Sv.pk_end (l:List UInt8) (i:Nat) (h:l.length≤i):Sv.pk l i=0:=by
 unfold Sv.pk; rw [List.getD_eq_getElem?_getD,List.getElem?_eq_none h]; rfl
theorem Sv.pk_at (l:List UInt8) (i:Nat) (h:i < l.length):Sv.pk l i=l[i]:=by
 unfold Sv.pk; rw [List.getD_eq_getElem?_getD,List.getElem?_eq_getElem h]; rfl
theorem Sv.sk_no (l:List UInt8) (i:Nat) (h:Sv.blB (Sv.pk l i)=false):Sv.sk l i=i:=by
 unfold Sv.sk
 rcases Nat.lt_or_ge i l.length with hi | hi
 ·rw [List.drop_eq_getElem_cons hi,List.takeWhile_cons]
  rw [Sv.pk_at l i hi] at h
  simp [h]
 ·rw [List.drop_of_length_le hi]; simp
theorem Sv.sk_yes (l:List UInt8) (i:Nat) (h:Sv.blB (Sv.pk l i)=true):Sv.sk l i=Sv.sk l (i+1)∧i < l.length:=by
 rcases Nat.lt_or_ge i l.length with hi | hi
 ·refine ⟨?_,hi⟩
  unfold Sv.sk
  rw [List.drop_eq_getElem_cons hi,List.takeWhile_cons]
  rw [Sv.pk_at l i hi] at h
  simp [h]
  omega
 ·rw [Sv.pk_end l i hi] at h; simp [Sv.blB] at h
theorem Sv.sk_le (l:List UInt8) (i:Nat) (h:i≤l.length):i≤Sv.sk l i∧Sv.sk l i≤l.length:=by
 unfold Sv.sk
 have h1:=(List.takeWhile_prefix Sv.blB (l:=l.drop i)).length_le
 rw [List.length_drop] at h1
 omega
theorem Sv.sk_pk (l:List UInt8) (i:Nat):Sv.blB (Sv.pk l (Sv.sk l i))=false:=by
 unfold Sv.pk Sv.sk
 rw [List.getD_eq_getElem?_getD,←List.getElem?_drop]
 generalize l.drop i=m
 induction m with
 | nil=>rfl
 | cons a m ih=>
  rw [List.takeWhile_cons]
  cases ha:Sv.blB a
  ·simpa using ha
  ·simpa using ih
theorem Sv.sk_sk (l:List UInt8) (i:Nat):Sv.sk l (Sv.sk l i)=Sv.sk l i:=Sv.sk_no _ _ (Sv.sk_pk _ _)
structure Sv.Term where
 sort:Nat
 letter:UInt8
 value:Int
structure Sv.Cond where
 neg:Bool
 kind:Nat
 terms:List Sv.Term
structure Sv.Rule where
 name:List UInt8
 conds:List Sv.Cond
def Sv.nmF:Nat→List UInt8→Nat→Nat
 | 0,_,i=>i
 | n+1,l,i=>if Sv.letB (Sv.pk l i)=true then Sv.nmF n l (i+1) else i
def Sv.ndF:Nat→List UInt8→Nat→Nat→Nat×Nat
 | 0,_,v,i=>(v,i)
 | n+1,l,v,i=>if Sv.digB (Sv.pk l i)=true then Sv.ndF n l (v * 10+((Sv.pk l i).toNat - 48)) (i+1) else (v,i)
def Sv.number (l:List UInt8) (i:Nat):Nat ⊕ (Sv.Term×Nat):=
 let neg:=Sv.pk l i == 45
 let j:=if neg=true then i+1 else i
 let r:=Sv.ndF 9 l 0 j
 if r.2=j then .inl j else .inr (⟨2,0,if neg=true then -(r.1:Int) else (r.1:Int)⟩,r.2)
def Sv.behind (l:List UInt8) (i:Nat):Bool:=decide (0 < i) && Sv.digB (Sv.pk l (i - 1))
def Sv.term (l:List UInt8) (i:Nat):Nat ⊕ (Sv.Term×Nat):=
 if (Sv.pk l i == 95)=true then .inr (⟨0,0,0⟩,i+1)
 else if Sv.letB (Sv.pk l i)=true then .inr (⟨1,Sv.pk l i,0⟩,i+1)
 else if (Sv.pk l i == 45 || (Sv.digB (Sv.pk l i) && !Sv.behind l i))=true then Sv.number l i
 else .inl i
def Sv.tmF:Nat→List UInt8→List Sv.Term→Nat→Nat ⊕ (List Sv.Term×Nat)
 | 0,_,_,i=>.inl i
 | n+1,l,acc,i=>
  if (Sv.pk l (Sv.sk l i) == 41)=true then .inr (acc,Sv.sk l i+1)
  else match Sv.term l (Sv.sk l i) with
   | .inl k=>.inl k
   | .inr (t,j)=>Sv.tmF n l (acc ++ [t]) j
def Sv.terms (l:List UInt8) (i:Nat):Nat ⊕ (List Sv.Term×Nat):=Sv.tmF (l.length+1) l [] i
def Sv.cond (l:List UInt8) (i:Nat):Nat ⊕ (Sv.Cond×Nat):=
 if (Sv.pk l (Sv.sk l i) == 40)=true then
  let k:=Sv.sk l (Sv.sk l i+1)
  if Sv.digB (Sv.pk l k)=true then
   match Sv.terms l (k+1) with
   | .inl m=>.inl m
   | .inr (ts,m)=>.inr (⟨false,(Sv.pk l k).toNat - 48,ts⟩,m)
  else .inl k
 else .inl (Sv.sk l i)
def Sv.cdF:Nat→List UInt8→List Sv.Cond→Nat→Nat ⊕ (List Sv.Cond×Nat)
 | 0,_,_,i=>.inl i
 | n+1,l,acc,i=>
  if (Sv.pk l (Sv.sk l i) == 59)=true then .inr (acc,Sv.sk l i+1)
  else
   let neg:=Sv.pk l (Sv.sk l i) == 33
   match Sv.cond l (if neg=true then Sv.sk l i+1 else Sv.sk l i) with
   | .inl k=>.inl k
   | .inr (c,j)=>Sv.cdF n l (acc ++ [⟨neg,c.kind,c.terms⟩]) j
def Sv.conds (l:List UInt8) (i:Nat):Nat ⊕ (List Sv.Cond×Nat):=
 match Sv.cond l i with
 | .inl k=>.inl k
 | .inr (c,j)=>Sv.cdF (l.length+1) l [c] j
def Sv.rule (l:List UInt8) (i:Nat):Nat ⊕ (Sv.Rule×Nat):=
 let j:=Sv.nmF 8 l i
 if j=i then .inl i
 else if (Sv.pk l (Sv.sk l j) == 58)=true then
  match Sv.conds l (Sv.sk l j+1) with
  | .inl m=>.inl m
  | .inr (cs,m)=>.inr (⟨(l.take j).drop i,cs⟩,m)
 else .inl (Sv.sk l j)
def Sv.rlF:Nat→List UInt8→List Sv.Rule→Nat→Nat ⊕ (List Sv.Rule)
 | 0,_,_,i=>.inl i
 | n+1,l,acc,i=>
  if i < l.length then
   match Sv.rule l i with
   | .inl k=>.inl k
   | .inr (r,j)=>Sv.rlF n l (acc ++ [r]) (Sv.sk l j)
  else .inr acc
def Sv.rules (l:List UInt8):Nat ⊕ (List Sv.Rule):=Sv.rlF (l.length+1) l [] (Sv.sk l 0)
def Sv.exC (c:Sv.Cond):Bool:=decide (4 < c.terms.length)
def Sv.exR (r:Sv.Rule):Bool:=decide (4 < r.conds.length) || r.conds.any Sv.exC
def Sv.ex (rs:List Sv.Rule):Bool:=decide (8 < rs.length) || rs.any Sv.exR
theorem Sv.let_pos (l:List UInt8) (i:Nat) (h:Sv.letB (Sv.pk l i)=true):i < l.length:=by
 rcases Nat.lt_or_ge i l.length with hi | hi
 ·exact hi
 ·rw [Sv.pk_end l i hi] at h; simp [Sv.letB] at h
theorem Sv.dig_pos (l:List UInt8) (i:Nat) (h:Sv.digB (Sv.pk l i)=true):i < l.length:=by
 rcases Nat.lt_or_ge i l.length with hi | hi
 ·exact hi
 ·rw [Sv.pk_end l i hi] at h; simp [Sv.digB] at h
theorem Sv.byte_pos (l:List UInt8) (i:Nat) (c:UInt8) (hc:c≠0) (h:(Sv.pk l i == c)=true):i < l.length:=by
 rcases Nat.lt_or_ge i l.length with hi | hi
 ·exact hi
 ·rw [Sv.pk_end l i hi] at h; simp at h; exact absurd h.symm hc
theorem Sv.dig_rng (c:UInt8) (h:Sv.digB c=true):48≤c.toNat∧c.toNat≤57:=by simpa [Sv.digB] using h
theorem Sv.nmF_le (n:Nat) (l:List UInt8) (i:Nat) (h:i≤l.length):i≤Sv.nmF n l i∧Sv.nmF n l i≤l.length∧Sv.nmF n l i≤i+n:=by
 induction n generalizing i with
 | zero=>simp [Sv.nmF,h]
 | succ n ih=>
  unfold Sv.nmF
  split
  ·rename_i hc
   have:=ih (i+1) (Sv.let_pos l i hc)
   omega
  ·omega
theorem Sv.ndF_le (n:Nat) (l:List UInt8) (v i:Nat) (h:i≤l.length):i≤(Sv.ndF n l v i).2∧(Sv.ndF n l v i).2≤l.length:=by
 induction n generalizing i v with
 | zero=>simp [Sv.ndF,h]
 | succ n ih=>
  unfold Sv.ndF
  split
  ·rename_i hc
   have:=ih (v * 10+((Sv.pk l i).toNat - 48)) (i+1) (Sv.dig_pos l i hc)
   omega
  ·omega
theorem Sv.ndF_val (n:Nat) (l:List UInt8) (v i:Nat):(Sv.ndF n l v i).1 < (v+1) * 10 ^ n:=by
 induction n generalizing i v with
 | zero=>simp [Sv.ndF]
 | succ n ih=>
  unfold Sv.ndF
  split
  ·rename_i hc
   have h1:=ih (v * 10+((Sv.pk l i).toNat - 48)) (i+1)
   have h2:=Sv.dig_rng _ hc
   have h3:(v * 10+((Sv.pk l i).toNat - 48)+1) * 10 ^ n≤((v+1) * 10) * 10 ^ n:=Nat.mul_le_mul_right _ (by omega)
   rw [Nat.pow_succ,Nat.mul_comm (10 ^ n) 10,←Nat.mul_assoc]
   omega
  ·have:0 < 10 ^ (n+1):=Nat.pow_pos (by omega)
   have:(v+1) * 1≤(v+1) * 10 ^ (n+1):=Nat.mul_le_mul_left _ this
   omega
def Sv.Ok {α:Type} (l:List UInt8) (i:Nat) (r:Nat ⊕ (α×Nat)):Prop:=
 match r with
 | .inl k=>k≤l.length
 | .inr (_,j)=>i < j∧j≤l.length
theorem Sv.number_ok (l:List UInt8) (i:Nat) (hi:i≤l.length):Sv.Ok l i (Sv.number l i):=by
 unfold Sv.number
 cases hm:Sv.pk l i == 45
 ·have h:=Sv.ndF_le 9 l 0 i hi
  simp only [Bool.false_eq_true,if_false]
  split
  ·exact hi
  ·exact ⟨by omega,h.2⟩
 ·have hp:=Sv.byte_pos l i 45 (by decide) hm
  have h:=Sv.ndF_le 9 l 0 (i+1) hp
  simp only [if_true]
  split
  ·exact hp
  ·exact ⟨by omega,h.2⟩
theorem Sv.term_ok (l:List UInt8) (i:Nat) (hi:i≤l.length):Sv.Ok l i (Sv.term l i):=by
 unfold Sv.term
 split
 ·rename_i h; have:=Sv.byte_pos l i 95 (by decide) h; exact ⟨by omega,this⟩
 ·split
  ·rename_i h; have:=Sv.let_pos l i h; exact ⟨by omega,this⟩
  ·split
   ·exact Sv.number_ok l i hi
   ·exact hi
theorem Sv.tmF_ok (n:Nat) (l:List UInt8) (acc:List Sv.Term) (i:Nat) (hi:i≤l.length):Sv.Ok l i (Sv.tmF n l acc i):=by
 induction n generalizing acc i with
 | zero=>exact hi
 | succ n ih=>
  unfold Sv.tmF
  have hs:=Sv.sk_le l i hi
  split
  ·rename_i h; have:=Sv.byte_pos l _ 41 (by decide) h; exact ⟨by omega,this⟩
  ·have ht:=Sv.term_ok l (Sv.sk l i) hs.2
   cases hr:Sv.term l (Sv.sk l i) with
   | inl k=>rw [hr] at ht; exact ht
   | inr p=>
    obtain ⟨t,j⟩:=p
    rw [hr] at ht
    have h2:=ih (acc ++ [t]) j ht.2
    have h3:=ht.1
    show Sv.Ok l i (Sv.tmF n l (acc ++ [t]) j)
    cases hq:Sv.tmF n l (acc ++ [t]) j with
    | inl k=>rw [hq] at h2; exact h2
    | inr q=>rw [hq] at h2; exact ⟨by have:=h2.1; omega,h2.2⟩
theorem Sv.terms_ok (l:List UInt8) (i:Nat) (hi:i≤l.length):Sv.Ok l i (Sv.terms l i):=Sv.tmF_ok _ _ _ _ hi
theorem Sv.cond_ok (l:List UInt8) (i:Nat) (hi:i≤l.length):Sv.Ok l i (Sv.cond l i):=by
 have hs:=Sv.sk_le l i hi
 unfold Sv.cond
 split
 ·rename_i h
  have hp:=Sv.byte_pos l _ 40 (by decide) h
  have hk:=Sv.sk_le l (Sv.sk l i+1) hp
  simp only
  split
  ·rename_i hd
   have hdp:=Sv.dig_pos l _ hd
   have ht:=Sv.terms_ok l (Sv.sk l (Sv.sk l i+1)+1) hdp
   cases hr:Sv.terms l (Sv.sk l (Sv.sk l i+1)+1) with
   | inl k=>rw [hr] at ht; exact ht
   | inr q=>rw [hr] at ht; exact ⟨by have:=ht.1; omega,ht.2⟩
  ·exact hk.2
 ·exact hs.2
theorem Sv.cdF_ok (n:Nat) (l:List UInt8) (acc:List Sv.Cond) (i:Nat) (hi:i≤l.length):Sv.Ok l i (Sv.cdF n l acc i):=by
 induction n generalizing acc i with
 | zero=>exact hi
 | succ n ih=>
  unfold Sv.cdF
  have hs:=Sv.sk_le l i hi
  split
  ·rename_i h; have:=Sv.byte_pos l _ 59 (by decide) h; exact ⟨by omega,this⟩
  ·simp only
   have hx:Sv.sk l i≤(if (Sv.pk l (Sv.sk l i) == 33)=true then Sv.sk l i+1 else Sv.sk l i)∧(if (Sv.pk l (Sv.sk l i) == 33)=true then Sv.sk l i+1 else Sv.sk l i)≤l.length:=by
    split
    ·rename_i h; have:=Sv.byte_pos l _ 33 (by decide) h; omega
    ·omega
   generalize (if (Sv.pk l (Sv.sk l i) == 33)=true then Sv.sk l i+1 else Sv.sk l i)=x at hx ⊢
   have ht:=Sv.cond_ok l x hx.2
   cases hr:Sv.cond l x with
   | inl k=>rw [hr] at ht; exact ht
   | inr p=>
    obtain ⟨c,j⟩:=p
    rw [hr] at ht
    have h2:=ih (acc ++ [⟨Sv.pk l (Sv.sk l i) == 33,c.kind,c.terms⟩]) j ht.2
    have h3:=ht.1
    show Sv.Ok l i (Sv.cdF n l _ j)
    cases hq:Sv.cdF n l (acc ++ [⟨Sv.pk l (Sv.sk l i) == 33,c.kind,c.terms⟩]) j with
    | inl k=>rw [hq] at h2; exact h2
    | inr q=>rw [hq] at h2; exact ⟨by have:=h2.1; omega,h2.2⟩
theorem Sv.conds_ok (l:List UInt8) (i:Nat) (hi:i≤l.length):Sv.Ok l i (Sv.conds l i):=by
 have ht:=Sv.cond_ok l i hi
 unfold Sv.conds
 cases hr:Sv.cond l i with
 | inl k=>rw [hr] at ht; exact ht
 | inr p=>
  obtain ⟨c,j⟩:=p
  rw [hr] at ht
  have h2:=Sv.cdF_ok (l.length+1) l [c] j ht.2
  have h3:=ht.1
  show Sv.Ok l i (Sv.cdF (l.length+1) l [c] j)
  cases hq:Sv.cdF (l.length+1) l [c] j with
  | inl k=>rw [hq] at h2; exact h2
  | inr q=>rw [hq] at h2; exact ⟨by have:=h2.1; omega,h2.2⟩
theorem Sv.rule_ok (l:List UInt8) (i:Nat) (hi:i≤l.length):Sv.Ok l i (Sv.rule l i):=by
 have hn:=Sv.nmF_le 8 l i hi
 have hs:=Sv.sk_le l _ hn.2.1
 unfold Sv.rule
 simp only
 split
 ·exact hi
 ·split
  ·rename_i h
   have hp:=Sv.byte_pos l _ 58 (by decide) h
   have ht:=Sv.conds_ok l _ hp
   cases hr:Sv.conds l (Sv.sk l (Sv.nmF 8 l i)+1) with
   | inl k=>rw [hr] at ht; exact ht
   | inr q=>rw [hr] at ht; exact ⟨by have:=ht.1; omega,ht.2⟩
  ·exact hs.2
end Go.Proofs.YtolhbeekfjnfmaaGreatDoor

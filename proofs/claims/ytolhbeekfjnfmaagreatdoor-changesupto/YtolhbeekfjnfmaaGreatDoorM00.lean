import Derived.Test.YtolhbeekfjnfmaaGreatDoorMA
namespace Go.Proofs.YtolhbeekfjnfmaaGreatDoor
def Ai(l:List UInt8)(i:Nat):UInt8:=l.getD i 0
def B9(c:UInt8):Bool:=decide (97<=c.toNat)&&decide (c.toNat<=122)
def As(c:UInt8):Bool:=decide (48<=c.toNat)&&decide (c.toNat<=57)
def Di(c:UInt8):Bool:=c==32||c==10
def Ag(l:List UInt8)(i:Nat):Nat:=i+((l.drop i).takeWhile Di).length
theorem E3(l:List UInt8)(i:Nat)(h:l.length<=i):Ai l i=0:=by
 unfold Ai;rw[DV,JE h];rfl
theorem Hi(l:List UInt8)(i:Nat)(h:i<l.length):Ai l i=l[i]:=by
 unfold Ai;rw[DV,AB h];rfl
theorem M0(l:List UInt8)(i:Nat)(h:Di (Ai l i)=false):Ag l i=i:=by
 unfold Ag;rcases FL i l.length with hi|hi
 ·rw[CP hi,JI]
  rw[Hi l i hi] at h;simp[h]
 ·rw[BD hi];simp
theorem Hj(l:List UInt8)(i:Nat)(h:Di (Ai l i)=true):Ag l i=Ag l (i+1)/\i<l.length:=by
 rcases FL i l.length with hi|hi
 ·refine⟨?_,hi⟩
  unfold Ag;rw[CP hi,JI];rw[Hi l i hi] at h;simp[h];omega
 ·rw[E3 l i hi] at h;simp[Di] at h
theorem Be(l:List UInt8)(i:Nat)(h:i<=l.length):i<=Ag l i/\Ag l i<=l.length:=by
 unfold Ag;have h1:=(JG Di (l:=l.drop i)).length_le;rw[DJ] at h1;omega
theorem Yn(l:List UInt8)(i:Nat):Di (Ai l (Ag l i))=false:=by
 unfold Ai Ag;rw[DV,<-GM];generalize l.drop i=m
 induction m with
 | nil=>rfl
 | cons a m ih=>
  rw[JI];cases ha:Di a
  ·simpa using ha
  ·simpa using ih
theorem Fj(l:List UInt8)(i:Nat):Ag l (Ag l i)=Ag l i:=M0 _ _ (Yn _ _)
structure Sv.Term where
 sort:Nat
 letter:UInt8
 value:Int
structure Sv.Cond where
 neg:Bool
 kind:Nat
 terms:List Sv.Term
structure Sv.Rule where
 name:List UInt8
 conds:List Sv.Cond
def Aq:Nat->List UInt8->Nat->Nat
 | 0,_,i=>i
 | n+1,l,i=>if B9 (Ai l i)=true then Aq n l (i+1) else i
def A3:Nat->List UInt8->Nat->Nat->Nat×Nat
 | 0,_,v,i=>(v,i)
 | n+1,l,v,i=>if As (Ai l i)=true then A3 n l (v*10+((Ai l i).toNat-48)) (i+1) else (v,i)
def Bj(l:List UInt8)(i:Nat):Nat ⊕ (Sv.Term×Nat):=
 let neg:=Ai l i==45
 let j:=if neg=true then i+1 else i
 let r:=A3 9 l 0 j
 if r.2=j then .inl j else .inr (⟨2,0,if neg=true then -(r.1:Int) else (r.1:Int)⟩,r.2)
def Bf(l:List UInt8)(i:Nat):Bool:=decide (0<i)&&As (Ai l (i-1))
def A8(l:List UInt8)(i:Nat):Nat ⊕ (Sv.Term×Nat):=
 if (Ai l i==95)=true then .inr (⟨0,0,0⟩,i+1)
 else if B9 (Ai l i)=true then .inr (⟨1,Ai l i,0⟩,i+1)
 else if (Ai l i==45||(As (Ai l i) && !Bf l i))=true then Bj l i
 else .inl i
def Dr:Nat->List UInt8->List Sv.Term->Nat->Nat ⊕ (List Sv.Term×Nat)
 | 0,_,_,i=>.inl i
 | n+1,l,acc,i=>
  if (Ai l (Ag l i)==41)=true then .inr (acc,Ag l i+1)
  else match A8 l (Ag l i) with
   | .inl k=>.inl k
   | .inr (t,j)=>Dr n l (acc++[t]) j
def Cl(l:List UInt8)(i:Nat):Nat ⊕ (List Sv.Term×Nat):=Dr (l.length+1) l [] i
def An(l:List UInt8)(i:Nat):Nat ⊕ (Sv.Cond×Nat):=
 if (Ai l (Ag l i)==40)=true then
  let k:=Ag l (Ag l i+1)
  if As (Ai l k)=true then
   match Cl l (k+1) with
   | .inl m=>.inl m
   | .inr (ts,m)=>.inr (⟨false,(Ai l k).toNat-48,ts⟩,m)
  else .inl k
 else .inl (Ag l i)
def Dk:Nat->List UInt8->List Sv.Cond->Nat->Nat ⊕ (List Sv.Cond×Nat)
 | 0,_,_,i=>.inl i
 | n+1,l,acc,i=>
  if (Ai l (Ag l i)==59)=true then .inr (acc,Ag l i+1)
  else
   let neg:=Ai l (Ag l i)==33
   match An l (if neg=true then Ag l i+1 else Ag l i) with
   | .inl k=>.inl k
   | .inr (c,j)=>Dk n l (acc++[⟨neg,c.kind,c.terms⟩]) j
def Bl(l:List UInt8)(i:Nat):Nat ⊕ (List Sv.Cond×Nat):=
 match An l i with
 | .inl k=>.inl k
 | .inr (c,j)=>Dk (l.length+1) l [c] j
def A1(l:List UInt8)(i:Nat):Nat ⊕ (Sv.Rule×Nat):=
 let j:=Aq 8 l i
 if j=i then .inl i
 else if (Ai l (Ag l j)==58)=true then
  match Bl l (Ag l j+1) with
  | .inl m=>.inl m
  | .inr (cs,m)=>.inr (⟨(l.take j).drop i,cs⟩,m)
 else .inl (Ag l j)
def F8:Nat->List UInt8->List Sv.Rule->Nat->Nat ⊕ (List Sv.Rule)
 | 0,_,_,i=>.inl i
 | n+1,l,acc,i=>
  if i<l.length then
   match A1 l i with
   | .inl k=>.inl k
   | .inr (r,j)=>F8 n l (acc++[r]) (Ag l j)
  else .inr acc
def Bn(l:List UInt8):Nat ⊕ (List Sv.Rule):=F8 (l.length+1) l [] (Ag l 0)
def D2(c:Sv.Cond):Bool:=decide (4<c.terms.length)
def Ej(r:Sv.Rule):Bool:=decide (4<r.conds.length)||r.conds.any D2
def D6(rs:List Sv.Rule):Bool:=decide (8<rs.length)||rs.any Ej
theorem Dw(l:List UInt8)(i:Nat)(h:B9 (Ai l i)=true):i<l.length:=by
 rcases FL i l.length with hi|hi
 ·exact hi
 ·rw[E3 l i hi] at h;simp[B9] at h
theorem C5(l:List UInt8)(i:Nat)(h:As (Ai l i)=true):i<l.length:=by
 rcases FL i l.length with hi|hi
 ·exact hi
 ·rw[E3 l i hi] at h;simp[As] at h
theorem Ap(l:List UInt8)(i:Nat)(c:UInt8)(hc:c≠0)(h:(Ai l i==c)=true):i<l.length:=by
 rcases FL i l.length with hi|hi
 ·exact hi
 ·rw[E3 l i hi] at h;simp at h;exact absurd h.symm hc
theorem Cm(c:UInt8)(h:As c=true):48<=c.toNat/\c.toNat<=57:=by simpa[As] using h
theorem Dc(n:Nat)(l:List UInt8)(i:Nat)(h:i<=l.length):i<=Aq n l i/\Aq n l i<=l.length/\Aq n l i<=i+n:=by
 induction n generalizing i with
 | zero=>simp[Aq,h]
 | succ n ih=>
  unfold Aq;split
  ·rename_i hc
   have:=ih (i+1) (Dw l i hc);omega
  ·omega
theorem Kb(n:Nat)(l:List UInt8)(v i:Nat)(h:i<=l.length):i<=(A3 n l v i).2/\(A3 n l v i).2<=l.length:=by
 induction n generalizing i v with
 | zero=>simp[A3,h]
 | succ n ih=>
  unfold A3;split
  ·rename_i hc
   have:=ih (v*10+((Ai l i).toNat-48)) (i+1) (C5 l i hc);omega
  ·omega
theorem S3(n:Nat)(l:List UInt8)(v i:Nat):(A3 n l v i).1<(v+1)*10 ^ n:=by
 induction n generalizing i v with
 | zero=>simp[A3]
 | succ n ih=>
  unfold A3;split
  ·rename_i hc
   have h1:=ih (v*10+((Ai l i).toNat-48)) (i+1);have h2:=Cm _ hc;have h3:(v*10+((Ai l i).toNat-48)+1)*10 ^ n<=((v+1)*10)*10 ^ n:=BW _ (by omega);rw[GD,FZ (10 ^ n) 10,<-FD];omega
  ·have:0<10 ^ (n+1):=KA (by omega)
   have:(v+1)*1<=(v+1)*10 ^ (n+1):=GZ _ this;omega
def Jw{α:Type}(l:List UInt8)(i:Nat)(r:Nat ⊕ (α×Nat)):Prop:=
 match r with
 | .inl k=>k<=l.length
 | .inr (_,j)=>i<j/\j<=l.length
theorem B3(l:List UInt8)(i:Nat)(hi:i<=l.length):Jw l i (Bj l i):=by
 unfold Bj;cases hm:Ai l i==45
 ·have h:=Kb 9 l 0 i hi
  simp only[BZ,if_false];split
  ·exact hi
  ·exact⟨by omega,h.2⟩
 ·have hp:=Ap l i 45 (by decide) hm
  have h:=Kb 9 l 0 (i+1) hp;simp only[if_true];split
  ·exact hp
  ·exact⟨by omega,h.2⟩
theorem Ls(l:List UInt8)(i:Nat)(hi:i<=l.length):Jw l i (A8 l i):=by
 unfold A8;split
 ·rename_i h;have:=Ap l i 95 (by decide) h;exact⟨by omega,this⟩
 ·split
  ·rename_i h;have:=Dw l i h;exact⟨by omega,this⟩
  ·split
   ·exact B3 l i hi
   ·exact hi
theorem Uv(n:Nat)(l:List UInt8)(acc:List Sv.Term)(i:Nat)(hi:i<=l.length):Jw l i (Dr n l acc i):=by
 induction n generalizing acc i with
 | zero=>exact hi
 | succ n ih=>
  unfold Dr;have hs:=Be l i hi;split
  ·rename_i h;have:=Ap l _ 41 (by decide) h;exact⟨by omega,this⟩
  ·have ht:=Ls l (Ag l i) hs.2
   cases hr:A8 l (Ag l i) with
   | inl k=>rw[hr] at ht;exact ht
   | inr p=>
    obtain⟨t,j⟩:=p;rw[hr] at ht;have h2:=ih (acc++[t]) j ht.2;have h3:=ht.1;show Jw l i (Dr n l (acc++[t]) j)
    cases hq:Dr n l (acc++[t]) j with
    | inl k=>rw[hq] at h2;exact h2
    | inr q=>rw[hq] at h2;exact⟨by have:=h2.1;omega,h2.2⟩
theorem P8(l:List UInt8)(i:Nat)(hi:i<=l.length):Jw l i (Cl l i):=Uv _ _ _ _ hi
theorem Dt(l:List UInt8)(i:Nat)(hi:i<=l.length):Jw l i (An l i):=by
 have hs:=Be l i hi;unfold An;split
 ·rename_i h
  have hp:=Ap l _ 40 (by decide) h;have hk:=Be l (Ag l i+1) hp;simp only;split
  ·rename_i hd
   have hdp:=C5 l _ hd;have ht:=P8 l (Ag l (Ag l i+1)+1) hdp;cases hr:Cl l (Ag l (Ag l i+1)+1) with
   | inl k=>rw[hr] at ht;exact ht
   | inr q=>rw[hr] at ht;exact⟨by have:=ht.1;omega,ht.2⟩
  ·exact hk.2
 ·exact hs.2
theorem Ur(n:Nat)(l:List UInt8)(acc:List Sv.Cond)(i:Nat)(hi:i<=l.length):Jw l i (Dk n l acc i):=by
 induction n generalizing acc i with
 | zero=>exact hi
 | succ n ih=>
  unfold Dk;have hs:=Be l i hi;split
  ·rename_i h;have:=Ap l _ 59 (by decide) h;exact⟨by omega,this⟩
  ·simp only
   have hx:Ag l i<=(if (Ai l (Ag l i)==33)=true then Ag l i+1 else Ag l i)/\(if (Ai l (Ag l i)==33)=true then Ag l i+1 else Ag l i)<=l.length:=by
    split
    ·rename_i h;have:=Ap l _ 33 (by decide) h;omega
    ·omega
   generalize (if (Ai l (Ag l i)==33)=true then Ag l i+1 else Ag l i)=x at hx⊢;have ht:=Dt l x hx.2;cases hr:An l x with
   | inl k=>rw[hr] at ht;exact ht
   | inr p=>
    obtain⟨c,j⟩:=p;rw[hr] at ht;have h2:=ih (acc++[⟨Ai l (Ag l i)==33,c.kind,c.terms⟩]) j ht.2;have h3:=ht.1;show Jw l i (Dk n l _ j)
    cases hq:Dk n l (acc++[⟨Ai l (Ag l i)==33,c.kind,c.terms⟩]) j with
    | inl k=>rw[hq] at h2;exact h2
    | inr q=>rw[hq] at h2;exact⟨by have:=h2.1;omega,h2.2⟩
theorem Pr(l:List UInt8)(i:Nat)(hi:i<=l.length):Jw l i (Bl l i):=by
 have ht:=Dt l i hi;unfold Bl;cases hr:An l i with
 | inl k=>rw[hr] at ht;exact ht
 | inr p=>
  obtain⟨c,j⟩:=p;rw[hr] at ht;have h2:=Ur (l.length+1) l [c] j ht.2;have h3:=ht.1;show Jw l i (Dk (l.length+1) l [c] j)
  cases hq:Dk (l.length+1) l [c] j with
  | inl k=>rw[hq] at h2;exact h2
  | inr q=>rw[hq] at h2;exact⟨by have:=h2.1;omega,h2.2⟩
theorem Ig(l:List UInt8)(i:Nat)(hi:i<=l.length):Jw l i (A1 l i):=by
 have hn:=Dc 8 l i hi;have hs:=Be l _ hn.2.1;unfold A1;simp only;split
 ·exact hi
 ·split
  ·rename_i h
   have hp:=Ap l _ 58 (by decide) h;have ht:=Pr l _ hp;cases hr:Bl l (Ag l (Aq 8 l i)+1) with
   | inl k=>rw[hr] at ht;exact ht
   | inr q=>rw[hr] at ht;exact⟨by have:=ht.1;omega,ht.2⟩
  ·exact hs.2
end Go.Proofs.YtolhbeekfjnfmaaGreatDoor

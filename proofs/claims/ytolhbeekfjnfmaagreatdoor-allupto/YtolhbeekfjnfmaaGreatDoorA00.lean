import Derived.Test.YtolhbeekfjnfmaaGreatDoorAA
namespace Go.Proofs.YtolhbeekfjnfmaaGreatDoor
def Ai(l:List UInt8)(i:Nat):UInt8:=l.getD i 0
def Ce(c:UInt8):Bool:=decide (97<=c.toNat)&&decide (c.toNat<=122)
def At(c:UInt8):Bool:=decide (48<=c.toNat)&&decide (c.toNat<=57)
def Dm(c:UInt8):Bool:=c==32||c==10
def Ag(l:List UInt8)(i:Nat):Nat:=i+((l.drop i).takeWhile Dm).length
theorem E8(l:List UInt8)(i:Nat)(h:l.length<=i):Ai l i=0:=by unfold Ai;rw[DY,JH h];rfl
theorem Ht(l:List UInt8)(i:Nat)(h:i<l.length):Ai l i=l[i]:=by unfold Ai;rw[DY,AB h];rfl
theorem M9(l:List UInt8)(i:Nat)(h:Dm (Ai l i)=false):Ag l i=i:=by unfold Ag;rcases EF i l.length with hi|hi;{rw[CO hi,JO];rw[Ht l i hi]at h;simp[h]};{rw[BD hi];simp}
theorem Hu(l:List UInt8)(i:Nat)(h:Dm (Ai l i)=true):Ag l i=Ag l (i+1)/\i<l.length:=by rcases EF i l.length with hi|hi;{refine⟨?_,hi⟩;unfold Ag;rw[CO hi,JO];rw[Ht l i hi]at h;simp[h];omega};{rw[E8 l i hi]at h;simp[Dm]at h}
theorem Bj(l:List UInt8)(i:Nat)(h:i<=l.length):i<=Ag l i/\Ag l i<=l.length:=by unfold Ag;have h1:=(JJ Dm (l:=l.drop i)).length_le;rw[DN]at h1;omega
theorem Y3(l:List UInt8)(i:Nat):Dm (Ai l (Ag l i))=false:=by unfold Ai Ag;rw[DY,<-GS];generalize l.drop i=m;induction m with|nil=>rfl|cons a m ih=>rw[JO];cases ha:Dm a;{simpa using ha};{simpa using ih}
theorem Fr(l:List UInt8)(i:Nat):Ag l (Ag l i)=Ag l i:=M9 _ _ (Y3 _ _)
structure Q0D where
 sort:Nat
 letter:UInt8
 value:Int
structure Q0A where
 neg:Bool
 kind:Nat
 terms:List Q0D
structure Q0C where
 name:List UInt8
 conds:List Q0A
def Ar:Nat->List UInt8->Nat->Nat
 |0,_,i=>i
 |n+1,l,i=>if Ce (Ai l i)=true then Ar n l (i+1)else i
def A8:Nat->List UInt8->Nat->Nat->Nat×Nat
 |0,_,v,i=>(v,i)
 |n+1,l,v,i=>if At (Ai l i)=true then A8 n l (v*10+((Ai l i).toNat-48)) (i+1)else (v,i)
def Bp(l:List UInt8)(i:Nat):Nat ⊕ (Q0D×Nat):=
 let neg:=Ai l i==45
 let j:=if neg=true then i+1 else i
 let r:=A8 9 l 0 j
 if r.2=j then .inl j else .inr (⟨2,0,if neg=true then -(r.1:Int)else (r.1:Int)⟩,r.2)
def Bl(l:List UInt8)(i:Nat):Bool:=decide (0<i)&&At (Ai l (i-1))
def Bc(l:List UInt8)(i:Nat):Nat ⊕ (Q0D×Nat):=
 if (Ai l i==95)=true then .inr (⟨0,0,0⟩,i+1)
 else if Ce (Ai l i)=true then .inr (⟨1,Ai l i,0⟩,i+1)
 else if (Ai l i==45||(At (Ai l i) && !Bl l i))=true then Bp l i
 else .inl i
def Dw:Nat->List UInt8->List Q0D->Nat->Nat ⊕ (List Q0D×Nat)
 |0,_,_,i=>.inl i
 |n+1,l,acc,i=>
  if (Ai l (Ag l i)==41)=true then .inr (acc,Ag l i+1)
  else match Bc l (Ag l i)with
   |.inl k=>.inl k
   |.inr (t,j)=>Dw n l (acc++[t]) j
def Cq(l:List UInt8)(i:Nat):Nat ⊕ (List Q0D×Nat):=Dw (l.length+1) l [] i
def An(l:List UInt8)(i:Nat):Nat ⊕ (Q0A×Nat):=
 if (Ai l (Ag l i)==40)=true then
  let k:=Ag l (Ag l i+1)
  if At (Ai l k)=true then
   match Cq l (k+1)with
   |.inl m=>.inl m
   |.inr (ts,m)=>.inr (⟨false,(Ai l k).toNat-48,ts⟩,m)
  else .inl k
 else .inl (Ag l i)
def Do:Nat->List UInt8->List Q0A->Nat->Nat ⊕ (List Q0A×Nat)
 |0,_,_,i=>.inl i
 |n+1,l,acc,i=>
  if (Ai l (Ag l i)==59)=true then .inr (acc,Ag l i+1)
  else
   let neg:=Ai l (Ag l i)==33
   match An l (if neg=true then Ag l i+1 else Ag l i)with
   |.inl k=>.inl k
   |.inr (c,j)=>Do n l (acc++[⟨neg,c.kind,c.terms⟩]) j
def Bq(l:List UInt8)(i:Nat):Nat ⊕ (List Q0A×Nat):=
 match An l i with
 |.inl k=>.inl k
 |.inr (c,j)=>Do (l.length+1) l [c] j
def A3(l:List UInt8)(i:Nat):Nat ⊕ (Q0C×Nat):=
 let j:=Ar 8 l i
 if j=i then .inl i
 else if (Ai l (Ag l j)==58)=true then
  match Bq l (Ag l j+1)with
  |.inl m=>.inl m
  |.inr (cs,m)=>.inr (⟨(l.take j).drop i,cs⟩,m)
 else .inl (Ag l j)
def Gg:Nat->List UInt8->List Q0C->Nat->Nat ⊕ (List Q0C)
 |0,_,_,i=>.inl i
 |n+1,l,acc,i=>
  if i<l.length then
   match A3 l i with
   |.inl k=>.inl k
   |.inr (r,j)=>Gg n l (acc++[r]) (Ag l j)
  else .inr acc
def Bt(l:List UInt8):Nat ⊕ (List Q0C):=Gg (l.length+1) l [] (Ag l 0)
def D6(c:Q0A):Bool:=decide (4<c.terms.length)
def Eo(r:Q0C):Bool:=decide (4<r.conds.length)||r.conds.any D6
def Ea(rs:List Q0C):Bool:=decide (8<rs.length)||rs.any Eo
theorem D0(l:List UInt8)(i:Nat)(h:Ce (Ai l i)=true):i<l.length:=by rcases EF i l.length with hi|hi;{exact hi};{rw[E8 l i hi]at h;simp[Ce]at h}
theorem C9(l:List UInt8)(i:Nat)(h:At (Ai l i)=true):i<l.length:=by rcases EF i l.length with hi|hi;{exact hi};{rw[E8 l i hi]at h;simp[At]at h}
theorem Ap(l:List UInt8)(i:Nat)(c:UInt8)(hc:c≠0)(h:(Ai l i==c)=true):i<l.length:=by rcases EF i l.length with hi|hi;{exact hi};{rw[E8 l i hi]at h;simp at h;exact absurd h.symm hc}
theorem Cr(c:UInt8)(h:At c=true):48<=c.toNat/\c.toNat<=57:=by simpa[At]using h
theorem Dg(n:Nat)(l:List UInt8)(i:Nat)(h:i<=l.length):i<=Ar n l i/\Ar n l i<=l.length/\Ar n l i<=i+n:=by induction n generalizing i with|zero=>simp[Ar,h]|succ n ih=>unfold Ar;split;{(rename_i hc);have:=ih (i+1) (D0 l i hc);omega};{omega}
theorem Km(n:Nat)(l:List UInt8)(v i:Nat)(h:i<=l.length):i<=(A8 n l v i).2/\(A8 n l v i).2<=l.length:=by induction n generalizing i v with|zero=>simp[A8,h]|succ n ih=>unfold A8;split;{(rename_i hc);have:=ih (v*10+((Ai l i).toNat-48)) (i+1) (C9 l i hc);omega};{omega}
theorem Tk(n:Nat)(l:List UInt8)(v i:Nat):(A8 n l v i).1<(v+1)*10 ^ n:=by induction n generalizing i v with|zero=>simp[A8]|succ n ih=>unfold A8;split;{(rename_i hc);have h1:=ih (v*10+((Ai l i).toNat-48)) (i+1);have h2:=Cr _ hc;have h3:(v*10+((Ai l i).toNat-48)+1)*10 ^ n<=((v+1)*10)*10 ^ n:=BS _ (by omega);rw[GK,GI (10 ^ n) 10,<-FP];omega};{have:0<10 ^ (n+1):=KG (by omega);have:(v+1)*1<=(v+1)*10 ^ (n+1):=IH _ this;omega}
def J8{α:Type}(l:List UInt8)(i:Nat)(r:Nat ⊕ (α×Nat)):Prop:=
 match r with
 |.inl k=>k<=l.length
 |.inr (_,j)=>i<j/\j<=l.length
theorem B8(l:List UInt8)(i:Nat)(hi:i<=l.length):J8 l i (Bp l i):=by unfold Bp;cases hm:Ai l i==45;{have h:=Km 9 l 0 i hi;simp only[CB,if_false];split;{exact hi};{exact⟨by omega,h.2⟩}};{have hp:=Ap l i 45 (by decide) hm;have h:=Km 9 l 0 (i+1) hp;simp only[if_true];split;{exact hp};{exact⟨by omega,h.2⟩}}
theorem L1(l:List UInt8)(i:Nat)(hi:i<=l.length):J8 l i (Bc l i):=by unfold Bc;split;{rename_i h;have:=Ap l i 95 (by decide) h;exact⟨by omega,this⟩};{split;{rename_i h;have:=D0 l i h;exact⟨by omega,this⟩};{split;{exact B8 l i hi};{exact hi}}}
theorem Vl(n:Nat)(l:List UInt8)(acc:List Q0D)(i:Nat)(hi:i<=l.length):J8 l i (Dw n l acc i):=by induction n generalizing acc i with|zero=>exact hi|succ n ih=>unfold Dw;have hs:=Bj l i hi;split;{rename_i h;have:=Ap l _ 41 (by decide) h;exact⟨by omega,this⟩};{have ht:=L1 l (Ag l i) hs.2;cases hr:Bc l (Ag l i)with|inl k=>rw[hr]at ht;exact ht|inr p=>obtain⟨t,j⟩:=p;rw[hr]at ht;have h2:=ih (acc++[t]) j ht.2;have h3:=ht.1;show J8 l i (Dw n l (acc++[t]) j);cases hq:Dw n l (acc++[t]) j with|inl k=>rw[hq]at h2;exact h2|inr q=>rw[hq]at h2;exact⟨by have:=h2.1;omega,h2.2⟩}
theorem Qn(l:List UInt8)(i:Nat)(hi:i<=l.length):J8 l i (Cq l i):=Vl _ _ _ _ hi
theorem Dx(l:List UInt8)(i:Nat)(hi:i<=l.length):J8 l i (An l i):=by have hs:=Bj l i hi;unfold An;split;{(rename_i h);have hp:=Ap l _ 40 (by decide) h;have hk:=Bj l (Ag l i+1) hp;simp only;split;{(rename_i hd);have hdp:=C9 l _ hd;have ht:=Qn l (Ag l (Ag l i+1)+1) hdp;cases hr:Cq l (Ag l (Ag l i+1)+1)with|inl k=>rw[hr]at ht;exact ht|inr q=>rw[hr]at ht;exact⟨by have:=ht.1;omega,ht.2⟩};{exact hk.2}};{exact hs.2}
theorem Vh(n:Nat)(l:List UInt8)(acc:List Q0A)(i:Nat)(hi:i<=l.length):J8 l i (Do n l acc i):=by induction n generalizing acc i with|zero=>exact hi|succ n ih=>unfold Do;have hs:=Bj l i hi;split;{rename_i h;have:=Ap l _ 59 (by decide) h;exact⟨by omega,this⟩};{simp only;(have hx:Ag l i<=(if (Ai l (Ag l i)==33)=true then Ag l i+1 else Ag l i)/\(if (Ai l (Ag l i)==33)=true then Ag l i+1 else Ag l i)<=l.length:=by split;{rename_i h;have:=Ap l _ 33 (by decide) h;omega};{omega});generalize (if (Ai l (Ag l i)==33)=true then Ag l i+1 else Ag l i)=x at hx⊢;have ht:=Dx l x hx.2;cases hr:An l x with|inl k=>rw[hr]at ht;exact ht|inr p=>obtain⟨c,j⟩:=p;rw[hr]at ht;have h2:=ih (acc++[⟨Ai l (Ag l i)==33,c.kind,c.terms⟩]) j ht.2;have h3:=ht.1;show J8 l i (Do n l _ j);cases hq:Do n l (acc++[⟨Ai l (Ag l i)==33,c.kind,c.terms⟩]) j with|inl k=>rw[hq]at h2;exact h2|inr q=>rw[hq]at h2;exact⟨by have:=h2.1;omega,h2.2⟩}
theorem P8(l:List UInt8)(i:Nat)(hi:i<=l.length):J8 l i (Bq l i):=by have ht:=Dx l i hi;unfold Bq;cases hr:An l i with|inl k=>rw[hr]at ht;exact ht|inr p=>obtain⟨c,j⟩:=p;rw[hr]at ht;have h2:=Vh (l.length+1) l [c] j ht.2;have h3:=ht.1;show J8 l i (Do (l.length+1) l [c] j);cases hq:Do (l.length+1) l [c] j with|inl k=>rw[hq]at h2;exact h2|inr q=>rw[hq]at h2;exact⟨by have:=h2.1;omega,h2.2⟩
theorem Iu(l:List UInt8)(i:Nat)(hi:i<=l.length):J8 l i (A3 l i):=by have hn:=Dg 8 l i hi;have hs:=Bj l _ hn.2.1;unfold A3;simp only;split;{exact hi};{split;{(rename_i h);have hp:=Ap l _ 58 (by decide) h;have ht:=P8 l _ hp;cases hr:Bq l (Ag l (Ar 8 l i)+1)with|inl k=>rw[hr]at ht;exact ht|inr q=>rw[hr]at ht;exact⟨by have:=ht.1;omega,ht.2⟩};{exact hs.2}}
end Go.Proofs.YtolhbeekfjnfmaaGreatDoor

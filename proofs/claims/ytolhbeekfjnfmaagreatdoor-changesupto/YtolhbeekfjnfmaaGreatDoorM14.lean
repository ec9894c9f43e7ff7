import Derived.Test.YtolhbeekfjnfmaaGreatDoorM13
namespace Go.Proofs.YtolhbeekfjnfmaaGreatDoor
variable {α:Type}{i:Nat}
structure Hp.Ord{α:Type}(lt:α->α->Bool):Prop where
 asym:∀a b,lt a b=true->lt b a=false
 trans:∀a b c,lt b a=false->lt c b=false->lt c a=false
def Hp.From{α:Type}(lt:α->α->Bool)(n k:Nat)(l:List α):Prop:=∀j,0<j->j<n->k<=(j-1) / 2->∀a b,l[j]?=some a->l[(j-1) / 2]?=some b->lt a b=false
theorem Hp.swap_get(l:List α)(i j k:Nat)(hi:i<l.length)(hj:j<l.length):(Hp.swap l i j)[k]?=if k=j then l[i]? else if k=i then l[j]? else l[k]?:=by
 unfold Hp.swap;rw[AB hi,AB hj];simp only;by_cases h1:k=j
 ·subst h1
  rw[AQ rfl,EE (by simpa using hj)]
 ·rw[AO h1,FA (by omega)]
  by_cases h2:k=i
  ·subst h2
   rw[AQ rfl,EE hi]
  ·rw[AO h2,FA (by omega)]
theorem Hp.swap_len(l:List α)(i j:Nat):(Hp.swap l i j).length=l.length:=(Hp.swap_perm l i j).length_eq
theorem Hp.lt_get{lt:α->α->Bool}{l:List α}{j:Nat}{a b:α}(h1:l[i]?=some a)(h2:l[j]?=some b):Hp.lt lt l i j=lt a b:=by
 unfold Hp.lt;rw[h1,h2]
theorem Hs{l:List α}(h:i<l.length):∃a,l[i]?=some a:=⟨l[i],AB h⟩
theorem Hp.down_ok{α:Type}{lt:α->α->Bool}(ho:Hp.Ord lt)(n k:Nat):∀(m:Nat) (l:List α) (i:Nat),n-i<=m->n<=l.length->k<=i->
  (∀j,0<j->j<n->k<=(j-1) / 2->(j-1) / 2≠i->∀a b,l[j]?=some a->l[(j-1) / 2]?=some b->lt a b=false)->
  (0<i->k<=(i-1) / 2->∀j,0<j->j<n->(j-1) / 2=i->∀a b,l[j]?=some a->l[(i-1) / 2]?=some b->lt a b=false)->
  Hp.From lt n k (Hp.down lt n l i)
 | 0,l,i,hm,hn,hk,h1,h2=>by
  unfold Hp.down;rw[dif_neg (by omega)];intro j a b c;exact h1 j a b c (by omega)
 | m+1,l,i,hm,hn,hk,h1,h2=>by
  unfold Hp.down;by_cases hi:2*i+1<n
  ·rw[dif_pos hi]
   have hc1:=Hp.kid_gt lt n l i;have hc2:=Hp.kid_lt lt n l i hi;obtain⟨c,hc⟩:∃c,Hp.kid lt n l i=c:=⟨_,rfl⟩
   have vw:(c-1) / 2=i/\0<c:=by
    rw[<-hc];unfold Hp.kid;split<;>omega
   rw[hc] at hc1 hc2⊢;obtain⟨x,hx⟩:=Hs (l:=l) (i:=i) (by omega);obtain⟨y,hy⟩:=Hs (l:=l) (i:=c) (by omega)
   have yz:∀d,0<d->d<n->(d-1) / 2=i->d≠c->∀z,l[d]?=some z->lt z y=false:=by
    intro d xh UF cY hdc z hz;unfold Hp.kid at hc;by_cases hq:2*i+2<n/\Hp.lt lt l (2*i+2) (2*i+1)=true
    ·rw[AQ hq] at hc
     have hd:d=2*i+1:=by omega
     subst hd;subst hc;rw[Hp.lt_get hy hz] at hq;exact ho.asym _ _ hq.2
    ·rw[AO hq] at hc
     have hd:d=2*i+2:=by omega
     subst hd;subst hc;rw[Hp.lt_get hz hy] at hq;have:¬ lt z y=true:=fun h=>hq ⟨UF,h⟩
     simpa using this
   by_cases hl:Hp.lt lt l c i=true
   ·rw[AQ hl]
    rw[Hp.lt_get hy hx] at hl;have hg:=fun q=>Hp.swap_get l i c q (by omega) (by omega)
    refine Hp.down_ok ho n k m _ c (by omega) (by rw[Hp.swap_len];exact hn) (by omega) ?_ ?_
    ·intro j hj0 hjn hjk PM a b ha hb
     rw[hg] at ha hb;rw[AO PM] at hb;by_cases e1:j=c
     ·subst e1
      rw[AQ rfl,hx] at ha;rw[AQ vw.1,hy] at hb;cases ha
      cases hb
      exact ho.asym _ _ hl
     ·rw[AO e1] at ha
      by_cases e2:(j-1) / 2=i
      ·rw[AQ e2,hy] at hb
       cases hb
       rw[AO (by omega)] at ha;exact yz j hj0 hjn e2 e1 a ha
      ·rw[AO e2] at hb
       by_cases e3:j=i
       ·subst e3
        rw[AQ rfl,hy] at ha;cases ha
        exact h2 hj0 hjk c vw.2 hc2 vw.1 _ _ hy hb
       ·rw[AO e3] at ha
        exact h1 j hj0 hjn hjk e2 a b ha hb
    ·intro _ hck j hj0 hjn PM a b ha hb
     rw[hg] at ha hb;rw[AO (by omega),AO (by omega)] at ha;rw[AO (by omega),AQ vw.1,hy] at hb;cases hb
     exact h1 j hj0 hjn (by omega) (by omega) a y ha (by rw[PM];exact hy)
   ·rw[AO hl]
    rw[Hp.lt_get hy hx] at hl;have hl2:lt y x=false:=by simpa using hl
    intro j hj0 hjn hjk a b ha hb;by_cases e2:(j-1) / 2=i
    ·rw[e2,hx] at hb
     cases hb
     by_cases e1:j=c
     ·subst e1
      rw[hy] at ha;cases ha
      exact hl2
     ·exact ho.trans _ _ _ hl2 (yz j hj0 hjn e2 e1 a ha)
    ·exact h1 j hj0 hjn hjk e2 a b ha hb
  ·rw[dif_neg hi]
   intro j hj0 hjn hjk a b ha hb;exact h1 j hj0 hjn hjk (by omega) a b ha hb
theorem Hp.up_ok{α:Type}{lt:α->α->Bool}(ho:Hp.Ord lt)(l:List α)(i:Nat)(hi:i<l.length)
 (h1:∀j,0<j->j<l.length->j≠i->∀a b,l[j]?=some a->l[(j-1) / 2]?=some b->lt a b=false)
 (h2:0<i->∀j,0<j->j<l.length->(j-1) / 2=i->∀a b,l[j]?=some a->l[(i-1) / 2]?=some b->lt a b=false) :
  Hp.From lt l.length 0 (Hp.up lt l i):=by
 induction i using Nat.strongRecOn generalizing l with
 | _ i ih=>
  unfold Hp.up;by_cases h0:i=0
  ·rw[dif_pos h0]
   intro j hj0 hjn _ a b ha hb;exact h1 j hj0 hjn (by omega) a b ha hb
  ·rw[dif_neg h0]
   obtain⟨p,hp⟩:∃p,(i-1) / 2=p:=⟨_,rfl⟩
   have ZB:p<i:=by omega
   rw[hp] at h2⊢;obtain⟨x,hx⟩:=Hs (l:=l) (i:=i) hi;obtain⟨y,hy⟩:=Hs (l:=l) (i:=p) (by omega);by_cases hl:Hp.lt lt l i p=true
   ·rw[AQ hl]
    rw[Hp.lt_get hx hy] at hl;have hg:=fun q=>Hp.swap_get l p i q (by omega) (by omega)
    have hlen:=Hp.swap_len l p i;have:=ih p ZB (Hp.swap l p i) (by rw[hlen];omega) ?_ ?_
    ·rw[hlen] at this;exact this
    ·intro j hj0 hjn PL a b ha hb
     rw[hlen] at hjn;rw[hg] at ha hb;rw[AO PL] at ha;by_cases e1:j=i
     ·subst e1
      rw[AQ rfl,hy] at ha;rw[hp,AO (by omega),AQ rfl,hx] at hb;cases ha
      cases hb
      exact ho.asym _ _ hl
     ·rw[AO e1] at ha
      by_cases e2:(j-1) / 2=i
      ·rw[AQ e2,hy] at hb
       cases hb
       exact h2 (by omega) j hj0 hjn e2 a y ha hy
      ·rw[AO e2] at hb
       by_cases e3:(j-1) / 2=p
       ·rw[AQ e3,hx] at hb
        cases hb
        have k1:=h1 j hj0 hjn e1 a y ha (by rw[e3];exact hy);exact ho.trans _ _ _ (ho.asym _ _ hl) k1
       ·rw[AO e3] at hb
        exact h1 j hj0 hjn e1 a b ha hb
    ·intro b7 j hj0 hjn PL a b ha hb
     rw[hlen] at hjn;rw[hg] at ha hb;rw[AO (by omega),AO (by omega)] at hb;have kp:=h1 p b7 (by omega) (by omega) y b hy hb;by_cases e1:j=i
     ·subst e1
      rw[AQ rfl,hy] at ha;cases ha
      exact kp
     ·rw[AO e1,AO (by omega)] at ha
      have k1:=h1 j hj0 hjn e1 a y ha (by rw[PL];exact hy);exact ho.trans _ _ _ kp k1
   ·rw[AO hl]
    rw[Hp.lt_get hx hy] at hl;intro j hj0 hjn _ a b ha hb;by_cases e1:j=i
    ·subst e1
     rw[hx] at ha;rw[hp,hy] at hb;cases ha
     cases hb
     simpa using hl
    ·exact h1 j hj0 hjn e1 a b ha hb
def Hp.Is{α:Type}(lt:α->α->Bool)(l:List α):Prop:=Hp.From lt l.length 0 l
theorem Hp.push_ok{lt:α->α->Bool}(ho:Hp.Ord lt){l:List α}(h:Hp.Is lt l)(t:α):Hp.Is lt (Hp.push lt l t):=by
 have e:(Hp.push lt l t).length=(l++[t]).length:=(Hp.up_perm lt _ _).length_eq;unfold Hp.Is;rw[e];refine Hp.up_ok ho (l++[t]) l.length (by simp) ?_ ?_
 ·intro j hj0 hjn hne a b ha hb
  have hj:j<l.length:=by simp at hjn;omega
  rw[CL hj] at ha;rw[CL (by omega)] at hb;exact h j hj0 hj (AG _) a b ha hb
 ·intro _ j hj0 hjn PL a b ha hb
  simp at hjn;omega
theorem Hp.fold_ok{α:Type}{lt:α->α->Bool}(ho:Hp.Ord lt):∀(ts:List α) {l:List α},Hp.Is lt l->Hp.Is lt (ts.foldl (Hp.push lt) l)
 | [],_,h=>h
 | t::ts,_,h=>Hp.fold_ok ho ts (Hp.push_ok ho h t)
theorem Hp.down_len(lt:α->α->Bool)(n:Nat)(l:List α)(i:Nat):(Hp.down lt n l i).length=l.length:=(Hp.down_perm lt n _ l i (AW _)).length_eq
theorem Hp.initF_ok{α:Type}{lt:α->α->Bool}(ho:Hp.Ord lt):∀(i:Nat) (l:List α),Hp.From lt l.length i l->Hp.Is lt (Hp.initF lt i l)
 | 0,_,h=>h
 | i+1,l,h=>by
  unfold Hp.initF;refine Hp.initF_ok ho i _ ?_;rw[Hp.down_len];refine Hp.down_ok ho l.length i _ l i (AW _) (AW _) (AW _) ?_ ?_
  ·intro j hj0 hjn hjk hne a b ha hb
   exact h j hj0 hjn (by omega) a b ha hb
  ·intro h0 hk
   omega
theorem Hp.init_ok{lt:α->α->Bool}(ho:Hp.Ord lt)(l:List α):Hp.Is lt (Hp.init lt l):=by
 refine Hp.initF_ok ho _ l ?_;intro j hj0 hjn hk;omega
theorem Hp.first{α:Type}{lt:α->α->Bool}(ho:Hp.Ord lt)(hr:∀a,lt a a=false){l:List α}(h:Hp.Is lt l){x:α}(hx:l[0]?=some x):∀(j:Nat) (a:α),l[j]?=some a->lt a x=false:=by
 intro j
 induction j using Nat.strongRecOn with
 | _ j ih=>
  intro a ha;by_cases h0:j=0
  ·subst h0
   rw[hx] at ha;cases ha
   exact hr _
  ·have hj:=(AL.1 ha).1
   obtain⟨b,hb⟩:=Hs (l:=l) (i:=(j-1) / 2) (by omega);exact ho.trans _ _ _ (ih _ (by omega) b hb) (h j (by omega) hj (AG _) a b ha hb)
theorem Hp.down_get{α:Type}(lt:α->α->Bool)(n:Nat):∀(m:Nat) (l:List α) (i:Nat),n-i<=m->n<=l.length->∀q,n<=q->(Hp.down lt n l i)[q]?=l[q]?
 | 0,l,i,h,_,q,_=>by
  unfold Hp.down;rw[dif_neg (by omega)]
 | m+1,l,i,h,hn,q,hq=>by
  unfold Hp.down;split
  ·rename_i hi
   split
   ·have h1:=Hp.kid_gt lt n l i
    have h2:=Hp.kid_lt lt n l i hi;rw[Hp.down_get lt n m _ _ (by omega) (by rw[Hp.swap_len];exact hn) q hq,Hp.swap_get _ _ _ _ (by omega) (by omega),AO (by omega),AO (by omega)]
   ·rfl
  ·rfl
def Hp.popL{α:Type}(lt:α->α->Bool)(l:List α):List α:=Hp.down lt (l.length-1) (Hp.swap l 0 (l.length-1)) 0
theorem Hp.pop_ok{lt:α->α->Bool}(ho:Hp.Ord lt){l:List α}(h:Hp.Is lt l){x:α}(hx:l[0]?=some x) :
  (Hp.popL lt l).length=l.length/\(Hp.popL lt l)[l.length-1]?=some x/\Hp.Is lt ((Hp.popL lt l).take (l.length-1))/\l.Perm (x::(Hp.popL lt l).take (l.length-1)):=by
 have hl:0<l.length:=(AL.1 hx).1;have hlen:(Hp.popL lt l).length=l.length:=by unfold Hp.popL;rw[Hp.down_len,Hp.swap_len]
 have tP:(Hp.popL lt l)[l.length-1]?=some x:=by
  unfold Hp.popL;rw[Hp.down_get lt _ _ _ 0 (AW _) (by rw[Hp.swap_len];omega) _ (AW _),Hp.swap_get _ _ _ _ (by omega) (by omega),AQ rfl,hx]
 refine⟨hlen,tP,?_,?_⟩
 ·have hd:Hp.From lt (l.length-1) 0 (Hp.popL lt l):=by
   unfold Hp.popL;refine Hp.down_ok ho _ 0 _ _ 0 (AW _) (by rw[Hp.swap_len];omega) (AW _) ?_ (by omega);intro j hj0 hjn _ hne a b ha hb;rw[Hp.swap_get _ _ _ _ (by omega) (by omega),AO (by omega),AO (by omega)] at ha hb;exact h j hj0 (by omega) (AG _) a b ha hb
  unfold Hp.Is;have e:((Hp.popL lt l).take (l.length-1)).length=l.length-1:=by rw[BL,hlen];omega
  rw[e];intro j hj0 hjn hk a b ha hb;rw[IQ hjn] at ha;rw[IQ (by omega)] at hb;exact hd j hj0 hjn hk a b ha hb
 ·have hp:(Hp.popL lt l).Perm l:=(Hp.down_perm lt _ _ _ _ (AW _)).trans (Hp.swap_perm _ _ _)
  refine hp.symm.trans ?_
  have e:Hp.popL lt l=(Hp.popL lt l).take (l.length-1)++[x]:=by
   have h1:=DO (l.length-1) (Hp.popL lt l)
   have h2:(Hp.popL lt l).drop (l.length-1)=[x]:=by
    obtain⟨h3,h4⟩:=AL.1 tP;rw[CP h3,h4,BD (by rw[hlen];omega)]
   rw[h2] at h1;exact h1.symm
  rw[e];simp only[List.take_append_of_le_length (show l.length-1<=((Hp.popL lt l).take (l.length-1)).length by rw[BL,hlen];omega),List.take_take,Nat.min_self];exact JF
theorem Bz:∀(a b:List Int),cmpL b a=- cmpL a b
 | [],[]=>rfl
 | [],_::_=>rfl
 | _::_,[]=>rfl
 | a::x,b::y=>by
  unfold cmpL;have ih:=Bz x y;by_cases h1:a<b
  ·rw[AQ h1,AO (by omega),AQ h1];rfl
  ·by_cases h2:b<a
   ·rw[AQ h2,AO h1,AQ h2]
   ·rw[AO h1,AO h2,AO h2,AO h1];exact ih
theorem Kp:∀(a b:List Int),cmpL a b=0->a=b
 | [],[],_=>rfl
 | [],_::_,h=>by simp[cmpL] at h
 | _::_,[],h=>by simp[cmpL] at h
 | a::x,b::y,h=>by
  unfold cmpL at h;split at h
  ·omega
  ·split at h
   ·omega
   ·rw[Kp x y h,show a=b from by omega]
theorem Cy:∀(a:List Int),cmpL a a=0
 | []=>rfl
 | a::x=>by
  unfold cmpL;rw[AO (by omega),AO (by omega)];exact Cy x
theorem Ei:∀(a b c:List Int),cmpL a b<=0->cmpL b c<=0->cmpL a c<=0
 | [],_,[],_,_=>by simp[cmpL]
 | [],_,_::_,_,_=>by simp[cmpL]
 | _::_,[],_,h,_=>by simp[cmpL] at h
 | _::_,_::_,[],_,h=>by simp[cmpL] at h
 | a::x,b::y,c::z,h1,h2=>by
  unfold cmpL at h1 h2⊢;by_cases k1:a<b
  ·by_cases k2:b<c
   ·rw[AQ (by omega)];omega
   ·rw[AO k2] at h2
    by_cases k3:c<b
    ·rw[AQ k3] at h2;omega
    ·rw[AQ (by omega)];omega
  ·rw[AO k1] at h1
   by_cases k4:b<a
   ·rw[AQ k4] at h1;omega
   ·rw[AO k4] at h1
    by_cases k2:b<c
    ·rw[AQ (by omega)];omega
    ·rw[AO k2] at h2
     by_cases k3:c<b
     ·rw[AQ k3] at h2;omega
     ·rw[AO k3] at h2
      rw[AO (by omega),AO (by omega)];exact Ei x y z h1 h2
theorem Tok.less_iff(t u:Tok):Tok.less t u=true↔0<cmpL t.age u.age\/(t.age=u.age/\cmpL t.nums u.nums<0):=by
 unfold Tok.less;by_cases h:cmpL t.age u.age=0
 ·rw[AQ h]
  simp only[DF];constructor
  ·intro k;exact .inr ⟨Kp _ _ h,k⟩
  ·rintro(k|k)
   ·omega
   ·exact k.2
 ·rw[AO h]
  simp only[DF];constructor
  ·exact fun k=>.inl k
  ·rintro(k|k)
   ·exact k
   ·rw[k.1,Cy] at h;exact absurd rfl h
theorem Tok.less_ord:Hp.Ord Tok.less where
 asym:=by
  intro a b h;rw[Tok.less_iff] at h;rw[<-FH,Tok.less_iff];rintro(k|⟨k1,k2⟩)
  ·rw[Bz] at k
   rcases h with h|⟨h,_⟩
   ·omega
   ·rw[h,Cy] at k;omega
  ·rw[Bz] at k2
   rcases h with h|⟨h,h3⟩
   ·rw[k1,Cy] at h;omega
   ·omega
 trans:=by
  intro a b c h1 h2;rw[<-FH,Tok.less_iff] at h1 h2⊢
  have e1:cmpL b.age a.age<=0:=by
   by_cases h:0<cmpL b.age a.age
   ·exact absurd (.inl h) h1
   ·omega
  have e2:cmpL c.age b.age<=0:=by
   by_cases h:0<cmpL c.age b.age
   ·exact absurd (.inl h) h2
   ·omega
  have e3:=Ei _ _ _ e2 e1;rintro(k|⟨k1,k2⟩)
  ·omega
  ·have e4:cmpL a.age b.age<=0:=by rw[<-k1];exact e2
   rw[Bz] at e4;have e5:b.age=a.age:=Kp _ _ (by omega);have e6:c.age=b.age:=by rw[k1,e5]
   have f1:¬ cmpL b.nums a.nums<0:=fun h=>h1 (.inr ⟨e5,h⟩)
   have f2:¬ cmpL c.nums b.nums<0:=fun h=>h2 (.inr ⟨e6,h⟩)
   have g1:cmpL a.nums b.nums<=0:=by rw[Bz];omega
   have g2:cmpL b.nums c.nums<=0:=by rw[Bz];omega
   have:=Ei _ _ _ g1 g2;rw[Bz] at this;omega
theorem Tok.less_self(t:Tok):Tok.less t t=false:=by
 rw[<-FH,Tok.less_iff];rintro(k|⟨_,k⟩)
 ·rw[Cy] at k;omega
 ·rw[Cy] at k;omega
theorem Ht:∀(a b:List Int),Fh a b->cmpL a b<0
 | [],[],h=>h.elim
 | [],_::_,_=>by simp[cmpL]
 | _::_,[],h=>h.elim
 | a::x,b::y,h=>by
  unfold cmpL;rcases h with h|⟨rfl,h⟩
  ·rw[AQ h];omega
  ·rw[AO (by omega),AO (by omega)]
   exact Ht x y h
theorem Xr{l k:List (List Int)}(hp:l.Perm k)(h1:l.Pairwise Fh)(h2:k.Pairwise (fun a b=>cmpL a b<=0)):l=k:=by
 refine List.Perm.eq_of_pairwise (le:=fun a b=>cmpL a b<=0) ?_ ?_ h2 hp
 ·intro a b _ _ h1 h2
  rw[Bz] at h2;exact Kp _ _ (by omega)
 ·exact h1.imp (fun {a b} h=>by have:=Ht a b h;omega)
end Go.Proofs.YtolhbeekfjnfmaaGreatDoor

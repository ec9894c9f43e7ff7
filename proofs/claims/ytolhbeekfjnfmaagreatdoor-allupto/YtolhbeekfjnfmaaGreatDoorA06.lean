import Derived.Lib.ItoaLen
import Derived.Test.YtolhbeekfjnfmaaGreatDoorA05
set_option maxHeartbeats 8000000
namespace Go.Proofs.YtolhbeekfjnfmaaGreatDoor
open Go.RowKit Go.Proofs.Tryz
abbrev GQ:=@Lib.itoa_length_le
variable {b i:Nat}{s:ByteArray}{v:Bool}{w w':World}
theorem M8(l:List UInt8)(i:Nat)(t:Q0D)(j:Nat)(h:Bp l i=.inr (t,j)):Fu t:=by
 unfold Bp at h;simp only at h;have hv:=Tk 9 l 0 (if (Ai l i==45)=true then i+1 else i);generalize (if (Ai l i==45)=true then i+1 else i)=x at h hv;generalize A8 9 l 0 x=r at h hv;have:r.1<1000000000:=by simpa using hv
 by_cases hx:r.2=x;{rw[AQ hx]at h;cases h};{rw[AO hx]at h;simp only[CH,CE]at h;obtain⟨rfl,_⟩:=h;unfold Fu;simp only;split<;>omega}
theorem Ql(l:List UInt8)(i:Nat)(t:Q0D)(j:Nat)(h:Bc l i=.inr (t,j)):Fu t:=by unfold Bc at h;split at h;{simp only[CH,CE]at h;obtain⟨rfl,_⟩:=h;exact⟨by decide,by decide⟩};{split at h;{simp only[CH,CE]at h;obtain⟨rfl,_⟩:=h;exact⟨by simp,by simp⟩};{split at h;{exact M8 l i t j h};{cases h}}}
theorem Tu(n:Nat)(l:List UInt8)(acc:List Q0D)(i:Nat)(ts:List Q0D)(j:Nat)(h:Dw n l acc i=.inr (ts,j))(ha:∀t∈acc,Fu t):∀t∈ts,Fu t:=by induction n generalizing acc i with|zero=>{cases h}|succ n ih=>rw[Et]at h;split at h;{simp only[CH,CE]at h;rw[<-h.1];exact ha};{cases hr:Bc l (Ag l i)with|inl k=>{rw[hr]at h;cases h}|inr p=>obtain⟨t,k⟩:=p;rw[hr]at h;refine ih (acc++[t]) k h ?_;intro x hx;rcases BA.1 hx with hx|hx;{exact ha x hx};{rw[AZ]at hx;rw[hx];exact Ql l _ t k hr}}
theorem Kd(l:List UInt8)(i:Nat)(c:Q0A)(j:Nat)(h:An l i=.inr (c,j)):Kb c:=by unfold An at h;simp only at h;split at h;{split at h;{(rename_i hd);have hr:=Cr _ hd;cases ht:Cq l (Ag l (Ag l i+1)+1)with|inl m=>{rw[ht]at h;cases h}|inr p=>obtain⟨ts,m⟩:=p;rw[ht]at h;simp only[CH,CE]at h;obtain⟨rfl,_⟩:=h;refine⟨?_,Tu _ l [] _ ts m ht (by simp)⟩;show (Ai l (Ag l (Ag l i+1))).toNat-48<=9;omega};{cases h}};{cases h}
theorem Ta(n:Nat)(l:List UInt8)(acc:List Q0A)(i:Nat)(cs:List Q0A)(j:Nat)(h:Do n l acc i=.inr (cs,j))(ha:∀c∈acc,Kb c):∀c∈cs,Kb c:=by induction n generalizing acc i with|zero=>{cases h}|succ n ih=>rw[Di]at h;split at h;{simp only[CH,CE]at h;rw[<-h.1];exact ha};{generalize (if (Ai l (Ag l i)==33)=true then Ag l i+1 else Ag l i)=x at h;cases hr:An l x with|inl k=>{rw[hr]at h;cases h}|inr p=>obtain⟨c,k⟩:=p;rw[hr]at h;refine ih _ k h ?_;intro y hy;rcases BA.1 hy with hy|hy;{exact ha y hy};{rw[AZ]at hy;rw[hy];exact Kd l x c k hr}}
theorem Oj(l:List UInt8)(i:Nat)(cs:List Q0A)(j:Nat)(h:Bq l i=.inr (cs,j)):∀c∈cs,Kb c:=by unfold Bq at h;cases hr:An l i with|inl k=>{rw[hr]at h;cases h}|inr p=>obtain⟨c,k⟩:=p;rw[hr]at h;refine Ta _ l [c] k cs j h ?_;intro y hy;rw[AZ]at hy;rw[hy];exact Kd l i c k hr
def Ly(q:Q0C):Prop:=Q1c q/\q.name.length<=8
theorem Qi(l:List UInt8)(i:Nat)(hi:i<=l.length)(q:Q0C)(j:Nat)(h:A3 l i=.inr (q,j)):Ly q:=by have hn:=Dg 8 l i hi;unfold A3 at h;simp only at h;split at h;{cases h};{split at h;{cases hr:Bq l (Ag l (Ar 8 l i)+1)with|inl m=>{rw[hr]at h;cases h}|inr p=>obtain⟨cs,m⟩:=p;rw[hr]at h;simp only[CH,CE]at h;obtain⟨rfl,_⟩:=h;refine⟨Oj l _ cs m hr,?_⟩;simp;omega};{cases h}}
theorem Tq(n:Nat)(l:List UInt8)(acc:List Q0C)(i:Nat)(rs:List Q0C)(h:Gg n l acc i=.inr rs)(ha:∀q∈acc,Ly q):∀q∈rs,Ly q:=by induction n generalizing acc i with|zero=>{cases h}|succ n ih=>rw[Dj]at h;split at h;{(rename_i hlt);cases hr:A3 l i with|inl k=>{rw[hr]at h;cases h}|inr p=>obtain⟨q,k⟩:=p;rw[hr]at h;refine ih _ (Ag l k) h ?_;intro y hy;rcases BA.1 hy with hy|hy;{exact ha y hy};{rw[AZ]at hy;rw[hy];exact Qi l i (by omega) q k hr}};{simp only[CH]at h;rw[<-h];exact ha}
theorem Jd(l:List UInt8)(rs:List Q0C)(h:Bt l=.inr rs):∀q∈rs,Ly q:=Tq _ l [] _ rs h (by simp)
theorem Jv{α:Type}(f:α->List UInt8)(M:Nat):∀(ts:List α),(∀a∈ts,(f a).length<=M)->(ts.flatMap f).length<=ts.length*M
 |[],_=>by simp
 |a::ts,h=>by
  rw[BG,AL,AP];have h1:=h a (BF);have h2:=Jv f M ts (λx hx=>h x (BH _ hx));rw[GU];omega
theorem Tn(t:Q0D)(h:Fu t):(B3 t).length<=21:=by unfold B3;obtain⟨h1,h2⟩:=h;split;{simp};{split;{simp};{split;{exact GQ _ (by omega) (by omega)};{simp}}}
theorem Tl(c:Q0A)(h:Kb c)(hx:D6 c=false):(Ci c).length<=200:=by
 obtain⟨h1,h2⟩:=h;have h3:c.terms.length<=4:=by simpa[D6]using hx
 have h4:=GQ (c.kind:Int) (by omega) (by omega);have h5:=Jv (λt=>32::B3 t) 22 c.terms (λt ht=>by have:=Tn t (h2 t ht);simp;omega);have h6:c.terms.length*22<=4*22:=BS _ h3;unfold Ci;have h7:(if c.neg=true then [33]else ([]:List UInt8)).length<=1:=by split<;>simp
 simp only[AL,BC];omega
theorem Tm(q:Q0C)(h:Ly q)(hx:Eo q=false):(Ct q).length<=1000:=by
 obtain⟨h1,h2⟩:=h;unfold Eo at hx;rw[CZ]at hx;have h3:q.conds.length<=4:=by simpa using hx.1
 have h5:=Jv Ci 200 q.conds (λc hc=>Tl c (h1 c hc) (by have:=hx.2;rw[EH]at this;simpa using this c hc));have h6:q.conds.length*200<=4*200:=BS _ h3;unfold Ct;simp only[AL,AP,CD];omega
theorem Ov(rs:List Q0C)(h:∀q∈rs,Ly q)(hx:Ea rs=false):(Jm rs).length<=8000:=by
 unfold Ea at hx;rw[CZ]at hx;have h3:rs.length<=8:=by simpa using hx.1
 have h5:=Jv Ct 1000 rs (λq hq=>Tm q (h q hq) (by have:=hx.2;rw[EH]at this;simpa using this q hq));have h6:rs.length*1000<=8*1000:=BS _ h3;unfold Jm;omega
def B9(l:List UInt8):List UInt8×Nat×Nat:=
 if 400<l.length then ([],0,2)
 else match Bt l with
  |.inl k=>([],k,1)
  |.inr rs=>if Ea rs=true then ([],0,2)else (Jm rs,rs.length,0)
theorem Nn(s:ByteArray)(aT aL:Addr)(w:World)(hL:LD aT aL w)(hP:3<w.heap.size)(hm:s.size<=maxLen)(n m:Nat)(hmm:(m=2/\n=0)\/m=1) (hp:∀e w',Gb (.iface 345 (.pointer (some aT))) (.iface 345 (.pointer (some aL))) w s e w'->∃g i,e=.returned (.tuple #[.slice none 0 0,.iface 112 (.pointer (some ⟨g,0,none⟩))])/\w.grownBy w' none/\((m=2/\FAt g i (.iface 345 (.pointer (some aL))) w')\/(m=1/\i=n/\FAt g i (.iface 345 (.pointer (some aT))) w'))):Calls prog 16 #[.string s] w λe w'=>e=.returned (.tuple #[.string ⟨#[]⟩,.int .i64 n,.int .i64 m])/\w.grownBy w' none:=by go_enter func16,ntmps16;go_wp2_with fail;refine(N6 s w _ aT _ aL hL.cT hL.cL hm).mono ?_;intro e w1 aJ;obtain⟨g,i,rfl,hg1,hF⟩:=hp e w1 aJ;clear hp aJ;have dn:=hL.kept hg1 hP;rcases hF with ⟨rfl,hF⟩|⟨rfl,rfl,hF⟩;{(obtain rfl:n=0:=by rcases hmm with h|h<;>omega);clear hmm;go_wp2_with fail;refine(Ij g i aT aL w1 dn hF).mono ?_;rintro e w2⟨rfl,rfl⟩;go_wp2;go_ret3;exact⟨rfl,hg1⟩};{clear hmm;go_wp2_with fail;refine(Jk g i aT aL w1 dn hF).mono ?_;rintro e w2⟨rfl,hg2⟩;have hg3:=Ab hg1 hg2;go_wp2;go_ret3;exact⟨rfl,hg3⟩}
theorem Wa(s:ByteArray)(aT aL:Addr)(w:World)(hL:LD aT aL w)(hP:3<w.heap.size)(hm:s.size<=maxLen)(hs:¬ 400<s.size)(rs:List Q0C)(hr:Bt s.data.toList=.inr rs)(hx:Ea rs=false):Calls prog 16 #[.string s] w λe w'=>e=.returned (.tuple #[.string ⟨(Jm rs).toArray⟩,.int .i64 rs.length,.int .i64 0])/\w.grownBy w' none:=by have dF:=Jd _ rs hr;have hlen:=Ov rs dF hx;have HR:=Ac hr;have HX:=Ac hx;clear hr hx;go_enter func16,ntmps16;go_wp2_with fail;refine(N6 s w _ aT _ aL hL.cT hL.cL hm).mono ?_;rintro e w1⟨hg1,aJ⟩;rw[AO hs,Aa HR]at aJ;simp only at aJ;rw[Aa HX,AO (by simp)]at aJ;obtain⟨u,rfl,bO⟩:=aJ;obtain⟨ao,cap,rfl⟩:=bO.slice;have dn:=hL.kept hg1 hP;have tS:Q2O 0 (.slice ao rs.length cap) rs w1:=bO.weak (AG _);go_wp2_with fail;refine(Q2x rs _ w1 dn.tab (AV hP hg1.size) tS (λq hq=>(dF q hq).1) (by omega)).mono ?_;rintro e w2⟨rfl,hg2⟩;have hg3:=Ab hg1 hg2;go_wp2;go_ret3;exact⟨rfl,hg3⟩
theorem Q3w(s:ByteArray)(aT aL:Addr)(w:World)(hL:LD aT aL w)(hP:3<w.heap.size)(hm:s.size<=maxLen):Calls prog 16 #[.string s] w λe w'=>e=.returned (.tuple #[.string ⟨(B9 s.data.toList).1.toArray⟩,.int .i64 (B9 s.data.toList).2.1,.int .i64 (B9 s.data.toList).2.2])/\w.grownBy w' none:=by by_cases hs:400<s.size;{(have e:B9 s.data.toList=([],0,2):=by unfold B9;rw[Ae,AQ hs]);rw[e];refine Nn s aT aL w hL hP hm 0 2 (.inl ⟨rfl,rfl⟩) ?_;rintro e w'⟨hg,hp⟩;rw[AQ hs]at hp;obtain⟨g,i,he,hF⟩:=hp;exact⟨g,i,he,hg,.inl ⟨rfl,hF⟩⟩};{cases hr:Bt s.data.toList with|inl k=>{(have e:B9 s.data.toList=([],k,1):=by unfold B9;rw[Ae,AO hs,hr]);rw[e];refine Nn s aT aL w hL hP hm k 1 (.inr rfl) ?_;rintro e w'⟨hg,hp⟩;rw[AO hs,hr]at hp;obtain⟨g,he,hF⟩:=hp;exact⟨g,k,he,hg,.inr ⟨rfl,rfl,hF⟩⟩}|inr rs=>cases hx:Ea rs;{(have e:B9 s.data.toList=(Jm rs,rs.length,0):=by unfold B9;rw[Ae,AO hs,hr];simp only;rw[hx];rfl);rw[e];exact Wa s aT aL w hL hP hm hs rs hr hx};{(have e:B9 s.data.toList=([],0,2):=by unfold B9;rw[Ae,AO hs,hr];simp only;rw[hx];rfl);rw[e];refine Nn s aT aL w hL hP hm 0 2 (.inl ⟨rfl,rfl⟩) ?_;rintro e w'⟨hg,hp⟩;rw[AO hs,hr]at hp;simp only at hp;rw[hx,AQ rfl]at hp;obtain⟨g,i,he,hF⟩:=hp;exact⟨g,i,he,hg,.inl ⟨rfl,hF⟩⟩}}
end Go.Proofs.YtolhbeekfjnfmaaGreatDoor
namespace Go.Proofs.YtolhbeekfjnfmaaGreatDoor
open Go.Proofs.Tryz
variable {b i:Nat}{s:ByteArray}{v:Bool}{w w':World}
structure Q0E where
 kind:Int
 vals:List Int
abbrev Q0X:=List (UInt8×Int)
def Bi:Q0X->UInt8->Option Int
 |[],_=>none
 |p::b,n=>if p.1=n then some p.2 else Bi b n
def B6:List Q0D->List Int->Q0X->Option Q0X
 |t::ts,v::vs,b=>
  if t.sort=0 then B6 ts vs b
  else if t.sort=1 then
   match Bi b t.letter with
   |none=>B6 ts vs (b++[(t.letter,v)])
   |some u=>if v=u then B6 ts vs b else none
  else if v=t.value then B6 ts vs b else none
 |_,_,b=>some b
def Az(f:Q0E)(c:Q0A)(b:Q0X):Option Q0X:=
 if f.kind=(c.kind:Int)/\f.vals.length=c.terms.length then B6 c.terms f.vals b else none
def As(L:List (Int×Q0E)):List Q0A->Q0X->List Int->List (List Int)
 |[],_,ids=>[ids]
 |c::cs,b,ids=>
  if c.neg=true then (if L.any (λp=>(Az p.2 c b).isSome)=true then []else As L cs b ids)
  else L.flatMap λp=>match Az p.2 c b with
   |none=>[]
   |some b'=>As L cs b' (ids++[p.1])
def Bu(L:List (Int×Q0E)):Nat->List Q0C->List (Int×List Int)
 |_,[]=>[]
 |r,q::rs=>(As L q.conds [] []).map (λids=>((r:Int),ids))++Bu L (r+1) rs
def Ak(rs:List Q0C)(L:List (Int×Q0E)):List (Int×List Int):=Bu L 0 rs
theorem E6{α β:Type}(f:α->List β)(k:Nat):∀(L:List α),(∀x∈L,(f x).length<=k)->(L.flatMap f).length<=L.length*k
 |[],_=>by simp
 |x::L,h=>by
  have h1:=E6 f k L (λy hy=>h y (BH _ hy));have h2:=h x (BF ..);rw[BG,AL,AP,GZ];omega
theorem D7(L:List (Int×Q0E))(hL:L.length<=16):∀(cs:List Q0A) (b:Q0X) (ids:List Int),(As L cs b ids).length<=16 ^ cs.length
 |[],b,ids=>by simp[As]
 |c::cs,b,ids=>by
  have hp:0<16 ^ cs.length:=KG (by omega);have e:16 ^ (c::cs).length=16*16 ^ cs.length:=by rw[AP,GK,GI]
  rw[e];unfold As;split
  ·split
   ·simp
   ·have:=D7 L hL cs b ids
    omega
  ·refine AU (E6 _ (16 ^ cs.length) L ?_) (BS _ hL)
   intro p _;cases Az p.2 c b with
   |none=>simp
   |some b'=>exact D7 L hL cs b' _
def Fp:List Int->List Int->Prop
 |[],[]=>False
 |[],_::_=>True
 |_::_,[]=>False
 |a::x,b::y=>a<b\/(a=b/\Fp x y)
theorem Or(p:List Int)(a b:Int)(x y:List Int)(h:a<b):Fp (p++a::x) (p++b::y):=by induction p with|nil=>exact .inl h|cons c p ih=>exact .inr ⟨rfl,ih⟩
def Ow:List Q0A->Nat
 |[]=>0
 |c::cs=>(if c.neg=true then 0 else 1)+Ow cs
theorem Dp(L:List (Int×Q0E)):∀(cs:List Q0A) (b:Q0X) (ids:List Int) (x:List Int),x∈As L cs b ids->∃t,x=ids++t/\t.length=Ow cs
 |[],b,ids,x,h=>⟨[],by simp[As]at h;simp[h],rfl⟩
 |c::cs,b,ids,x,h=>by
  unfold As at h;unfold Ow;split at h
  ·rename_i hn
   split at h
   ·simp at h
   ·obtain⟨t,h1,h2⟩:=Dp L cs b ids x h
    exact⟨t,h1,by rw[AQ hn];omega⟩
  ·rename_i hn
   obtain⟨p,_,hp⟩:=CU.1 h;cases hm:Az p.2 c b with
   |none=>rw[hm]at hp;simp at hp
   |some b'=>
    rw[hm]at hp;obtain⟨t,h1,h2⟩:=Dp L cs b' _ x hp;exact⟨p.1::t,by rw[h1];simp,by rw[AO hn,AP];omega⟩
theorem C4(L:List (Int×Q0E))(hL:L.Pairwise (λp q=>p.1<q.1)):∀(cs:List Q0A) (b:Q0X) (ids:List Int),(As L cs b ids).Pairwise Fp
 |[],b,ids=>by simp[As]
 |c::cs,b,ids=>by
  unfold As;split
  ·split
   ·exact List.Pairwise.nil
   ·exact C4 L hL cs b ids
  ·rw[List.pairwise_flatMap]
   refine⟨λp _=>?_,hL.imp ?_⟩
   ·cases Az p.2 c b with
    |none=>exact List.Pairwise.nil
    |some b'=>exact C4 L hL cs b' _
   ·intro p q hpq x hx y hy
    cases hm:Az p.2 c b with
    |none=>rw[hm]at hx;simp at hx
    |some b1=>
     cases ND:Az q.2 c b with
     |none=>rw[ND]at hy;simp at hy
     |some b2=>
      rw[hm]at hx;rw[ND]at hy;obtain⟨t1,h1,_⟩:=Dp L cs b1 _ x hx;obtain⟨t2,h2,_⟩:=Dp L cs b2 _ y hy;rw[h1,h2,BQ,BQ];exact Or ids p.1 q.1 t1 t2 hpq
theorem D9:∀(ts:List Q0D) (vs:List Int) (b b':Q0X),B6 ts vs b=some b'->b'.length<=b.length+ts.length
 |[],vs,b,b',h=>by simp[B6]at h;subst h;simp
 |t::ts,[],b,b',h=>by simp[B6]at h;subst h;simp
 |t::ts,v::vs,b,b',h=>by
  unfold B6 at h;rw[AP];split at h
  ·have:=D9 ts vs b b' h;omega
  ·split at h
   ·split at h
    ·have:=D9 ts vs _ b' h
     rw[AL,BC]at this;omega
    ·split at h
     ·have:=D9 ts vs b b' h;omega
     ·cases h
   ·split at h
    ·have:=D9 ts vs b b' h;omega
    ·cases h
theorem Ot(f:Q0E)(c:Q0A)(b b':Q0X)(h:Az f c b=some b'):b'.length<=b.length+c.terms.length:=by unfold Az at h;split at h;{exact D9 _ _ _ _ h};{cases h}
theorem It(c:UInt8)(h:Ce c=true):97<=c.toNat/\c.toNat<=122:=by simpa[Ce]using h
theorem Lx(n:Nat)(l:List UInt8)(v i:Nat):(A8 n l v i).2=i\/At (Ai l ((A8 n l v i).2-1))=true:=by induction n generalizing v i with|zero=>exact .inl rfl|succ n ih=>rw[Cl];split;{(rename_i hc);rcases ih (v*10+((Ai l i).toNat-48)) (i+1)with h|h;{exact .inr (by rw[h];exact hc)};{exact .inr h}};{exact .inl rfl}
theorem Cs(l:List UInt8)(i:Nat)(t:Q0D)(j:Nat)(h:Bp l i=.inr (t,j)):t=⟨2,0,t.value⟩/\At (Ai l (j-1))=true:=by unfold Bp at h;cases hm:Ai l i==45;{rw[hm]at h;simp only[CB,if_false]at h;by_cases hne:(A8 9 l 0 i).2=i;{rw[AQ hne]at h;cases h};{rw[AO hne]at h;simp only[CH,CE]at h;obtain⟨rfl,rfl⟩:=h;refine⟨rfl,?_⟩;rcases Lx 9 l 0 i with h|h;{exact absurd h hne};{exact h}}};{rw[hm]at h;simp only[if_true]at h;by_cases hne:(A8 9 l 0 (i+1)).2=i+1;{rw[AQ hne]at h;cases h};{rw[AO hne]at h;simp only[CH,CE]at h;obtain⟨rfl,rfl⟩:=h;refine⟨rfl,?_⟩;rcases Lx 9 l 0 (i+1)with h|h;{exact absurd h hne};{exact h}}}
def Ro(t:Q0D):Prop:=t.sort=0\/(t.sort=1/\0<t.letter.toNat)\/(t.sort=2/\t.letter=0)
def Oi(c:Q0A):Prop:=c.kind<=9/\∀t∈c.terms,Ro t
def Q1v(q:Q0C):Prop:=∀c∈q.conds,Oi c
theorem Qm(l:List UInt8)(i:Nat)(t:Q0D)(j:Nat)(h:Bc l i=.inr (t,j)):Ro t:=by unfold Bc at h;split at h;{simp only[CH,CE]at h;obtain⟨rfl,_⟩:=h;exact .inl rfl};{split at h;{(rename_i hl);simp only[CH,CE]at h;obtain⟨rfl,_⟩:=h;exact .inr (.inl ⟨rfl,by have:=It _ hl;show 0<(Ai l i).toNat;omega⟩)};{split at h;{have h3:=(Cs _ _ _ _ h).1;exact .inr (.inr ⟨by rw[h3],by rw[h3]⟩)};{cases h}}}
theorem Tv(n:Nat)(l:List UInt8)(acc:List Q0D)(i:Nat)(ts:List Q0D)(j:Nat)(h:Dw n l acc i=.inr (ts,j))(ha:∀t∈acc,Ro t):∀t∈ts,Ro t:=by induction n generalizing acc i with|zero=>{cases h}|succ n ih=>rw[Et]at h;split at h;{simp only[CH,CE]at h;rw[<-h.1];exact ha};{cases hr:Bc l (Ag l i)with|inl k=>{rw[hr]at h;cases h}|inr p=>obtain⟨t,k⟩:=p;rw[hr]at h;refine ih (acc++[t]) k h ?_;intro x hx;rcases BA.1 hx with hx|hx;{exact ha x hx};{rw[AZ]at hx;rw[hx];exact Qm l _ t k hr}}
theorem Ke(l:List UInt8)(i:Nat)(c:Q0A)(j:Nat)(h:An l i=.inr (c,j)):Oi c:=by unfold An at h;simp only at h;split at h;{split at h;{(rename_i hd);have hr:=Cr _ hd;cases ht:Cq l (Ag l (Ag l i+1)+1)with|inl m=>{rw[ht]at h;cases h}|inr p=>obtain⟨ts,m⟩:=p;rw[ht]at h;simp only[CH,CE]at h;obtain⟨rfl,_⟩:=h;refine⟨?_,Tv _ l [] _ ts m ht (by simp)⟩;show (Ai l (Ag l (Ag l i+1))).toNat-48<=9;omega};{cases h}};{cases h}
theorem Tb(n:Nat)(l:List UInt8)(acc:List Q0A)(i:Nat)(cs:List Q0A)(j:Nat)(h:Do n l acc i=.inr (cs,j))(ha:∀c∈acc,Oi c):∀c∈cs,Oi c:=by induction n generalizing acc i with|zero=>{cases h}|succ n ih=>rw[Di]at h;split at h;{simp only[CH,CE]at h;rw[<-h.1];exact ha};{generalize (if (Ai l (Ag l i)==33)=true then Ag l i+1 else Ag l i)=x at h;cases hr:An l x with|inl k=>{rw[hr]at h;cases h}|inr p=>obtain⟨c,k⟩:=p;rw[hr]at h;refine ih _ k h ?_;intro y hy;rcases BA.1 hy with hy|hy;{exact ha y hy};{rw[AZ]at hy;rw[hy];exact Ke l x c k hr}}
theorem Ol(l:List UInt8)(i:Nat)(cs:List Q0A)(j:Nat)(h:Bq l i=.inr (cs,j)):∀c∈cs,Oi c:=by unfold Bq at h;cases hr:An l i with|inl k=>{rw[hr]at h;cases h}|inr p=>obtain⟨c,k⟩:=p;rw[hr]at h;refine Tb _ l [c] k cs j h ?_;intro y hy;rw[AZ]at hy;rw[hy];exact Ke l i c k hr
def Rn(q:Q0C):Prop:=Q1v q/\q.name.length<=8
theorem Qj(l:List UInt8)(i:Nat)(hi:i<=l.length)(q:Q0C)(j:Nat)(h:A3 l i=.inr (q,j)):Rn q:=by have hn:=Dg 8 l i hi;unfold A3 at h;simp only at h;split at h;{cases h};{split at h;{cases hr:Bq l (Ag l (Ar 8 l i)+1)with|inl m=>{rw[hr]at h;cases h}|inr p=>obtain⟨cs,m⟩:=p;rw[hr]at h;simp only[CH,CE]at h;obtain⟨rfl,_⟩:=h;refine⟨Ol l _ cs m hr,?_⟩;simp;omega};{cases h}}
theorem Tr(n:Nat)(l:List UInt8)(acc:List Q0C)(i:Nat)(rs:List Q0C)(h:Gg n l acc i=.inr rs)(ha:∀q∈acc,Rn q):∀q∈rs,Rn q:=by induction n generalizing acc i with|zero=>{cases h}|succ n ih=>rw[Dj]at h;split at h;{(rename_i hlt);cases hr:A3 l i with|inl k=>{rw[hr]at h;cases h}|inr p=>obtain⟨q,k⟩:=p;rw[hr]at h;refine ih _ (Ag l k) h ?_;intro y hy;rcases BA.1 hy with hy|hy;{exact ha y hy};{rw[AZ]at hy;rw[hy];exact Qj l i (by omega) q k hr}};{simp only[CH]at h;rw[<-h];exact ha}
theorem Je(l:List UInt8)(rs:List Q0C)(h:Bt l=.inr rs):∀q∈rs,Rn q:=Tr _ l [] _ rs h (by simp)
def Na(t:Q0D):Prop:=t.sort=0\/(t.sort=1/\0<t.letter.toNat)\/(t.sort=2/\t.letter=0)
structure Q1S(rs:List Q0C):Prop where
 len:rs.length<=8
 conds:∀q∈rs,q.conds.length<=4
 terms:∀q∈rs,∀c∈q.conds,c.terms.length<=4
 shape:∀q∈rs,∀c∈q.conds,∀t∈c.terms,Na t
def B7(x:Int):Bool:=!(decide (x < -999999999)||decide (999999999<x))
def Au(f:Q0E):Bool:=!(decide (f.kind<0)||decide (9<f.kind)||decide (4<f.vals.length))&&f.vals.all B7
def Bm(l:List UInt8):Nat ⊕ List Q0C:=
 if 400<l.length then .inl 2 else match Bt l with
  |.inl _=>.inl 1
  |.inr rs=>if Ea rs=true then .inl 2 else .inr rs
theorem Hd(l:List UInt8)(rs:List Q0C)(h:Bm l=.inr rs):Q1S rs:=by unfold Bm at h;split at h;{cases h};{cases hr:Bt l with|inl k=>{rw[hr]at h;cases h}|inr rs'=>rw[hr]at h;simp only at h;split at h;{cases h};{(rename_i hx);cases h;have dL:=Je l rs hr;simp only[FQ]at hx;unfold Ea at hx;rw[CZ,EH]at hx;obtain⟨h8,hx⟩:=hx;(have hq:∀q∈rs,q.conds.length<=4/\∀c∈q.conds,c.terms.length<=4:=by intro q hq;have h1:=hx q hq;simp only[FQ]at h1;unfold Eo at h1;rw[CZ,EH]at h1;refine⟨by simpa using h1.1,λc hc=>?_⟩;have h2:=h1.2 c hc;simpa[D6]using h2);exact⟨by simpa using h8,λq hm=>(hq q hm).1,λq hm=>(hq q hm).2,λq hm c hc t ht=>((dL q hm).1 c hc).2 t ht⟩}}
def Dz(ms:List (Int×List Int))(m:Int×List Int):Bool:=ms.any (λk=>decide (k=m))
def Bh(ms fd:List (Int×List Int)):List (Int×List Int):=fd.filter (λf=>Dz ms f)
structure Q0F where
 rs:List Q0C
 L:List (Int×Q0E)
 cnt:Int
 fired:List (Int×List Int)
def Q0F.add(s:Q0F)(f:Q0E):(Int×Int)×Q0F:=
 if Au f=false then ((0,3),s)
 else if 16<=s.L.length then ((0,4),s)
 else ((s.cnt+1,0),⟨s.rs,s.L++[(s.cnt+1,f)],s.cnt+1,Bh (Ak s.rs (s.L++[(s.cnt+1,f)])) s.fired⟩)
structure Q2L(s:Q0F):Prop where
 rules:Q1S s.rs
 facts:s.L.length<=16
 c0:0<=s.cnt
 fired:s.fired.length<=1000000
end Go.Proofs.YtolhbeekfjnfmaaGreatDoor
namespace Go.Proofs.YtolhbeekfjnfmaaGreatDoor
open Go.RowKit Go.Proofs.Tryz
variable {b i:Nat}{s:ByteArray}{v:Bool}{w w':World}
def VAt(b:Nat)(s:ByteArray)(i:Nat)(bad:Bool)(w:World):Prop:=w.heap[b]?=some (.cells #[.string s,.int .i64 i,.bool bad] 229 (0,0))
theorem VAt.c0(h:VAt b s i v w):w.cell? ⟨b,0,none⟩=some (.string s):=by unfold VAt at h;simp[World.cell?,h]
theorem VAt.c1(h:VAt b s i v w):w.cell? ⟨b,1,none⟩=some (.int .i64 i):=by unfold VAt at h;simp[World.cell?,h]
theorem VAt.c2(h:VAt b s i v w):w.cell? ⟨b,2,none⟩=some (.bool v):=by unfold VAt at h;simp[World.cell?,h]
theorem VAt.fz(h:VAt b s i v w)(o:Nat):w.frozen? ⟨b,o,none⟩=false:=by unfold VAt at h;simp[World.frozen?,h]
theorem VAt.lt(h:VAt b s i v w):b<w.heap.size:=Ad h
theorem VAt.kept{row:Option Nat}(h:VAt b s i v w)(g:w.grownBy w' row)(hne:some b≠row):VAt b s i v w':=by unfold VAt;rw[g.block b h.lt hne];exact h
theorem VAt.set1(h:VAt b s i v w)(j:Nat):VAt b s j v (w.setCell ⟨b,1,none⟩ (.int .i64 j)):=by unfold VAt at h⊢;rw[BB w b 1 _ _ _ h];rfl
theorem VAt.set2(h:VAt b s i v w)(u:Bool):VAt b s i u (w.setCell ⟨b,2,none⟩ (.bool u)):=by unfold VAt at h⊢;rw[BB w b 2 _ _ _ h];rfl
theorem VAt.drewN{b:Nat}{s:ByteArray}{i:Nat}{v:Bool}{w:World}(h:VAt b s i v w)(n:Nat):VAt b s i v (w.drewN n):=h
theorem VAt.at(h:VAt b s i v w):El b w=i:=by unfold El;rw[h.c1];simp
theorem VAt.rowOk(h:VAt b s i v w):Q0H 0 229 (some b) w:=by intro g hg;cases hg;exact⟨AG _,_,_,h⟩
theorem VAt.row{j:Nat}{row:Option Nat}{base:Nat}{e:TypeId}(h:VAt b s j v w)(hg:w.grownBy w' row)(hr:Q0H base e row w)(he:e≠229):VAt b s j v w':=by refine h.kept hg (λe1=>?_);obtain⟨_,cur,fz,h2⟩:=hr b e1.symm;unfold VAt at h;rw[h]at h2;simp at h2;exact he h2.2.1.symm
theorem Cz(c:UInt8)(w:World):Calls prog 176 #[.int .u8 c.toNat] w λe w'=>e=.returned (.bool (Ce c))/\w'=w:=by unfold Ce;by_cases h1:97<=c.toNat;{by_cases h2:c.toNat<=122;{(have e1:decide ((97:Int)<=c.toNat)=true:=by simp;omega);(have e2:decide ((c.toNat:Int)<=122)=true:=by simp;omega);go_enter func176,ntmps176;go_wp2;go_ret;exact⟨by simp[h1,h2],rfl⟩};{(have e1:decide ((97:Int)<=c.toNat)=true:=by simp;omega);(have e2:decide ((c.toNat:Int)<=122)=false:=by simp;omega);go_enter func176,ntmps176;go_wp2;go_ret;exact⟨by simp[h2],rfl⟩}};{(have e1:decide ((97:Int)<=c.toNat)=false:=by simp;omega);go_enter func176,ntmps176;go_wp2;go_ret;exact⟨by simp[h1],rfl⟩}
theorem Cc(c:UInt8)(w:World):Calls prog 177 #[.int .u8 c.toNat] w λe w'=>e=.returned (.bool (At c))/\w'=w:=by unfold At;by_cases h1:48<=c.toNat;{by_cases h2:c.toNat<=57;{(have e1:decide ((48:Int)<=c.toNat)=true:=by simp;omega);(have e2:decide ((c.toNat:Int)<=57)=true:=by simp;omega);go_enter func177,ntmps177;go_wp2;go_ret;exact⟨by simp[h1,h2],rfl⟩};{(have e1:decide ((48:Int)<=c.toNat)=true:=by simp;omega);(have e2:decide ((c.toNat:Int)<=57)=false:=by simp;omega);go_enter func177,ntmps177;go_wp2;go_ret;exact⟨by simp[h2],rfl⟩}};{(have e1:decide ((48:Int)<=c.toNat)=false:=by simp;omega);go_enter func177,ntmps177;go_wp2;go_ret;exact⟨by simp[h1],rfl⟩}
theorem Bf(b:Nat)(s:ByteArray)(i:Nat)(w:World)(hi:i<=s.size)(_hs:s.size<=400)(hb:VAt b s i false w):Calls prog 148 #[.pointer (some ⟨b,0,none⟩)] w λe w'=>e=.returned (.int .u8 (Ai s.data.toList i).toNat)/\∃n,w'=w.drewN n:=by have c0:=hb.c0;have c1:=hb.c1;have c2:=hb.c2;by_cases h:i=s.size;{(have e:decide ((s.size:Int)<=(i:Int))=true:=by simp;omega);go_enter func148,ntmps148;go_wp2;go_quiet (fail);go_wp2;go_ret;exact⟨by rw[E8 _ _ (by simp;omega)];rfl,_,rfl⟩};{(have e:decide ((s.size:Int)<=(i:Int))=false:=by simp;omega);(have hlt:i<s.size:=by omega);go_enter func148,ntmps148;go_wp2;go_quiet (fail);go_wp2;go_quiet (fail);go_wp2;go_ret;exact⟨by rw[Xv _ _ hlt];rfl,_,World.drewN_drewN _ _ _⟩}
theorem Im(b:Nat)(s:ByteArray)(i:Nat)(w:World)(hb:VAt b s i true w):Calls prog 148 #[.pointer (some ⟨b,0,none⟩)] w λe w'=>e=.returned (.int .u8 0)/\∃n,w'=w.drewN n:=by have c2:=hb.c2;go_enter func148,ntmps148;go_wp2;go_quiet (fail);go_wp2;go_ret;exact⟨rfl,_,rfl⟩
theorem Lm(b:Nat)(s:ByteArray)(i:Nat)(w:World)(hb:VAt b s i true w):Calls prog 117 #[.pointer (some ⟨b,0,none⟩)] w λe w'=>e=.returned (.tuple #[])/\VAt b s i true w'/\w.grownBy w' (some b):=by
 go_enter func117,ntmps117;go_wp2;go_loopw [] (λw'=>w'=w) (λ_=>0);case atStart=>rfl
 case round=>subst hrel;go_wp2_with (go_at_call 148;refine(Im b s i _ (by first|exact hb|exact hb.drewN _)).mono ?_;rintro e w'⟨rfl,n,rfl⟩);go_end0;exact⟨rfl,hb,Af _ _ _⟩
theorem Fk(b:Nat)(s:ByteArray)(i:Nat)(w:World)(hi:i<=s.size)(hs:s.size<=400)(hb:VAt b s i false w):Calls prog 117 #[.pointer (some ⟨b,0,none⟩)] w λe w'=>e=.returned (.tuple #[])/\VAt b s (Ag s.data.toList i) false w'/\w.grownBy w' (some b):=by
 go_enter func117,ntmps117;go_wp2;go_loopw [] (λw'=>∃k:Nat,k<=s.size/\VAt b s k false w'/\w.grownBy w' (some b)/\Ag s.data.toList k=Ag s.data.toList i) (λw'=>s.size-El b w');case atStart=>exact⟨i,hi,hb,AD _ _,rfl⟩
 case round=>obtain⟨k,hk,aD,hg,hsk⟩:=hrel;have HS:Hid (Ag s.data.toList k=Ag s.data.toList i):=hsk;clear hsk;have HA:Hid (El b wr=k):=aD.at;cases h1:Ai s.data.toList k==32;{cases h2:Ai s.data.toList k==10;{have hno:=M9 s.data.toList k (by simp[Dm,h1,h2]);have HN:Hid (Ag s.data.toList k=k):=hno;clear hno;have e1:=(Uv (Ai s.data.toList k)).trans h1;have e2:=(Q0w (Ai s.data.toList k)).trans h2;clear h1 h2;go_wp2_with (go_at_call 148;refine(Bf b s k _ hk hs (by first|exact aD|exact aD.drewN _)).mono ?_;rintro e w'⟨rfl,n,rfl⟩);go_end0;refine⟨rfl,?_,?_⟩;{rw[<-HS.out,HN.out];exact aD};{exact Ab hg (Af _ _ _)}};{have dz:=Hu s.data.toList k (by simp[Dm,h2]);rw[Ae]at dz;obtain⟨hn,hlt⟩:=dz;have HN:Hid (Ag s.data.toList k=Ag s.data.toList (k+1)):=hn;clear hn;have e1:=(Uv (Ai s.data.toList k)).trans h1;have e2:=(Q0w (Ai s.data.toList k)).trans h2;clear h1 h2;have c1:=aD.c1;have f1:=aD.fz 1;go_wp2_with (go_at_call 148;refine(Bf b s k _ hk hs (by first|exact aD|exact aD.drewN _)).mono ?_;rintro e w'⟨rfl,n,rfl⟩);go_roundw;(case rel=>exact⟨k+1,by omega,(VAt.set1 aD (k+1)),Ab hg (Ab (Aj wr b 1 _) (Af _ _ _)),by rw[<-HN.out];exact HS.out⟩);case measure=>have h2:El b ((wr.setCell ⟨b,1,none⟩ (.int .i64 ((k+1:Nat):Int))))=k+1:=(VAt.set1 aD (k+1)).at;show s.size-El b ((wr.setCell ⟨b,1,none⟩ (.int .i64 ((k+1:Nat):Int))))<s.size-El b wr;rw[h2,HA.out];omega}};{have dz:=Hu s.data.toList k (by simp[Dm,h1]);rw[Ae]at dz;obtain⟨hn,hlt⟩:=dz;have HN:Hid (Ag s.data.toList k=Ag s.data.toList (k+1)):=hn;clear hn;have e1:=(Uv (Ai s.data.toList k)).trans h1;clear h1;have c1:=aD.c1;have f1:=aD.fz 1;go_wp2_with (go_at_call 148;refine(Bf b s k _ hk hs (by first|exact aD|exact aD.drewN _)).mono ?_;rintro e w'⟨rfl,n,rfl⟩);go_roundw;(case rel=>exact⟨k+1,by omega,(VAt.set1 aD (k+1)),Ab hg (Ab (Aj wr b 1 _) (Af _ _ _)),by rw[<-HN.out];exact HS.out⟩);case measure=>have h2:El b ((wr.setCell ⟨b,1,none⟩ (.int .i64 ((k+1:Nat):Int))))=k+1:=(VAt.set1 aD (k+1)).at;show s.size-El b ((wr.setCell ⟨b,1,none⟩ (.int .i64 ((k+1:Nat):Int))))<s.size-El b wr;rw[h2,HA.out];omega}
theorem Ob(b:Nat)(s:ByteArray)(i:Nat)(c:UInt8)(x:Int)(hx:x=c.toNat)(w:World)(hi:i<=s.size)(hs:s.size<=400)(h:(Ai s.data.toList i==c)=true)(hb:VAt b s i false w):Calls prog 150 #[.pointer (some ⟨b,0,none⟩),.int .u8 x] w λe w'=>e=.returned (.tuple #[])/\VAt b s (i+1) false w'/\w.grownBy w' (some b):=by subst hx;have e1:=Q0x _ _ h;clear h;have c1:=hb.c1;have c2:=hb.c2;have f1:=hb.fz 1;go_enter func150,ntmps150;go_wp2_with (go_at_call 148;refine(Bf b s i _ hi hs hb).mono ?_;rintro e w'⟨rfl,n,rfl⟩);go_end0;exact⟨rfl,VAt.set1 hb _,Ab (Af w n _) (Aj _ b 1 _)⟩
theorem Yq(b:Nat)(s:ByteArray)(i:Nat)(c:UInt8)(x:Int)(hx:x=c.toNat)(w:World)(hi:i<=s.size)(hs:s.size<=400)(h:(Ai s.data.toList i==c)=false)(hb:VAt b s i false w):Calls prog 150 #[.pointer (some ⟨b,0,none⟩),.int .u8 x] w λe w'=>e=.returned (.tuple #[])/\VAt b s i true w'/\w.grownBy w' (some b):=by subst hx;have e1:=Yb _ _ h;clear h;have c2:=hb.c2;have f2:=hb.fz 2;have d2:=(hb.set2 true).c2;go_enter func150,ntmps150;go_wp2_with (go_at_call 148;refine(Bf b s i _ hi hs hb).mono ?_;rintro e w'⟨rfl,n,rfl⟩);go_end0;exact⟨rfl,VAt.set2 hb _,Ab (Af w n _) (Aj _ b 2 _)⟩
theorem Q04(b:Nat)(s:ByteArray)(i:Nat)(c:UInt8)(hc:c≠0)(x:Int)(hx:x=c.toNat)(w:World)(hb:VAt b s i true w):Calls prog 150 #[.pointer (some ⟨b,0,none⟩),.int .u8 x] w λe w'=>e=.returned (.tuple #[])/\VAt b s i true w'/\w.grownBy w' (some b):=by subst hx;have e1:((0:Int) !=(c.toNat:Int))=true:=Yb 0 c (by simpa using hc.symm);have c2:=hb.c2;have f2:=hb.fz 2;have d2:=(hb.set2 true).c2;go_enter func150,ntmps150;go_wp2_with (go_at_call 148;refine(Im b s i _ hb).mono ?_;rintro e w'⟨rfl,n,rfl⟩);go_end0;exact⟨rfl,VAt.set2 hb _,Ab (Af w n _) (Aj _ b 2 _)⟩
end Go.Proofs.YtolhbeekfjnfmaaGreatDoor

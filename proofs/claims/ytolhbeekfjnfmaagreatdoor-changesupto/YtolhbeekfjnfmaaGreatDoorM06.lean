import Derived.Lib.ItoaLen
import Derived.Test.YtolhbeekfjnfmaaGreatDoorM05
set_option maxHeartbeats 8000000
namespace Go.Proofs.YtolhbeekfjnfmaaGreatDoor
open Go.RowKit
abbrev GK:=@Lib.itoa_length_le
variable {b i:Nat}{s:ByteArray}{v:Bool}{w w':World}
theorem Mz(l:List UInt8)(i:Nat)(t:Sv.Term)(j:Nat)(h:Bj l i=.inr (t,j)):Fl t:=by
 unfold Bj at h;simp only at h;have hv:=S3 9 l 0 (if (Ai l i==45)=true then i+1 else i);generalize (if (Ai l i==45)=true then i+1 else i)=x at h hv;generalize A3 9 l 0 x=r at h hv;have:r.1<1000000000:=by simpa using hv
 by_cases hx:r.2=x
 ·rw[AQ hx] at h;cases h
 ·rw[AO hx] at h
  simp only[CC,CH] at h;obtain⟨rfl,_⟩:=h;unfold Fl;simp only;split<;>omega
theorem P6(l:List UInt8)(i:Nat)(t:Sv.Term)(j:Nat)(h:A8 l i=.inr (t,j)):Fl t:=by
 unfold A8 at h;split at h
 ·simp only[CC,CH] at h
  obtain⟨rfl,_⟩:=h;exact⟨by decide,by decide⟩
 ·split at h
  ·simp only[CC,CH] at h
   obtain⟨rfl,_⟩:=h;exact⟨by simp,by simp⟩
  ·split at h
   ·exact Mz l i t j h
   ·cases h
theorem Tc(n:Nat)(l:List UInt8)(acc:List Sv.Term)(i:Nat)(ts:List Sv.Term)(j:Nat)(h:Dr n l acc i=.inr (ts,j))(ha:∀t∈acc,Fl t):∀t∈ts,Fl t:=by
 induction n generalizing acc i with
 | zero=>cases h
 | succ n ih=>
  rw[Em] at h;split at h
  ·simp only[CC,CH] at h
   rw[<-h.1];exact ha
  ·cases hr:A8 l (Ag l i) with
   | inl k=>rw[hr] at h;cases h
   | inr p=>
    obtain⟨t,k⟩:=p;rw[hr] at h;refine ih (acc++[t]) k h ?_;intro x hx;rcases AY.1 hx with hx|hx
    ·exact ha x hx
    ·rw[AX] at hx
     rw[hx];exact P6 l _ t k hr
theorem J2(l:List UInt8)(i:Nat)(c:Sv.Cond)(j:Nat)(h:An l i=.inr (c,j)):J0 c:=by
 unfold An at h;simp only at h;split at h
 ·split at h
  ·rename_i hd
   have hr:=Cm _ hd;cases ht:Cl l (Ag l (Ag l i+1)+1) with
   | inl m=>rw[ht] at h;cases h
   | inr p=>
    obtain⟨ts,m⟩:=p;rw[ht] at h;simp only[CC,CH] at h;obtain⟨rfl,_⟩:=h;refine⟨?_,Tc _ l [] _ ts m ht (by simp)⟩;show (Ai l (Ag l (Ag l i+1))).toNat-48<=9
    omega
  ·cases h
 ·cases h
theorem Sr(n:Nat)(l:List UInt8)(acc:List Sv.Cond)(i:Nat)(cs:List Sv.Cond)(j:Nat)(h:Dk n l acc i=.inr (cs,j))(ha:∀c∈acc,J0 c):∀c∈cs,J0 c:=by
 induction n generalizing acc i with
 | zero=>cases h
 | succ n ih=>
  rw[De] at h;split at h
  ·simp only[CC,CH] at h
   rw[<-h.1];exact ha
  ·generalize (if (Ai l (Ag l i)==33)=true then Ag l i+1 else Ag l i)=x at h
   cases hr:An l x with
   | inl k=>rw[hr] at h;cases h
   | inr p=>
    obtain⟨c,k⟩:=p;rw[hr] at h;refine ih _ k h ?_;intro y hy;rcases AY.1 hy with hy|hy
    ·exact ha y hy
    ·rw[AX] at hy
     rw[hy];exact J2 l x c k hr
theorem N5(l:List UInt8)(i:Nat)(cs:List Sv.Cond)(j:Nat)(h:Bl l i=.inr (cs,j)):∀c∈cs,J0 c:=by
 unfold Bl at h;cases hr:An l i with
 | inl k=>rw[hr] at h;cases h
 | inr p=>
  obtain⟨c,k⟩:=p;rw[hr] at h;refine Sr _ l [c] k cs j h ?_;intro y hy;rw[AX] at hy;rw[hy];exact J2 l i c k hr
def Lp(q:Sv.Rule):Prop:=Q0u q/\q.name.length<=8
theorem P3(l:List UInt8)(i:Nat)(hi:i<=l.length)(q:Sv.Rule)(j:Nat)(h:A1 l i=.inr (q,j)):Lp q:=by
 have hn:=Dc 8 l i hi;unfold A1 at h;simp only at h;split at h
 ·cases h
 ·split at h
  ·cases hr:Bl l (Ag l (Aq 8 l i)+1) with
   | inl m=>rw[hr] at h;cases h
   | inr p=>
    obtain⟨cs,m⟩:=p;rw[hr] at h;simp only[CC,CH] at h;obtain⟨rfl,_⟩:=h;refine⟨N5 l _ cs m hr,?_⟩;simp;omega
  ·cases h
theorem S9(n:Nat)(l:List UInt8)(acc:List Sv.Rule)(i:Nat)(rs:List Sv.Rule)(h:F8 n l acc i=.inr rs)(ha:∀q∈acc,Lp q):∀q∈rs,Lp q:=by
 induction n generalizing acc i with
 | zero=>cases h
 | succ n ih=>
  rw[Df] at h;split at h
  ·rename_i hlt
   cases hr:A1 l i with
   | inl k=>rw[hr] at h;cases h
   | inr p=>
    obtain⟨q,k⟩:=p;rw[hr] at h;refine ih _ (Ag l k) h ?_;intro y hy;rcases AY.1 hy with hy|hy
    ·exact ha y hy
    ·rw[AX] at hy
     rw[hy];exact P3 l i (by omega) q k hr
  ·simp only[CC] at h
   rw[<-h];exact ha
theorem I0(l:List UInt8)(rs:List Sv.Rule)(h:Bn l=.inr rs):∀q∈rs,Lp q:=S9 _ l [] _ rs h (by simp)
theorem Jk{α:Type}(f:α->List UInt8)(M:Nat):∀(ts:List α),(∀a∈ts,(f a).length<=M)->(ts.flatMap f).length<=ts.length*M
 | [],_=>by simp
 | a::ts,h=>by
  rw[BI,AK,AP];have h1:=h a (BF);have h2:=Jk f M ts (fun x hx=>h x (BG _ hx));rw[GV];omega
theorem S6(t:Sv.Term)(h:Fl t):(Bv t).length<=21:=by
 unfold Bv;obtain⟨h1,h2⟩:=h;split
 ·simp
 ·split
  ·simp
  ·split
   ·exact GK _ (by omega) (by omega)
   ·simp
theorem S4(c:Sv.Cond)(h:J0 c)(hx:D2 c=false):(Cc c).length<=200:=by
 obtain⟨h1,h2⟩:=h;have h3:c.terms.length<=4:=by simpa[D2] using hx
 have h4:=GK (c.kind:Int) (by omega) (by omega);have h5:=Jk (fun t=>32::Bv t) 22 c.terms (fun t ht=>by have:=S6 t (h2 t ht);simp;omega);have h6:c.terms.length*22<=4*22:=BW _ h3;unfold Cc;have h7:(if c.neg=true then [33] else ([]:List UInt8)).length<=1:=by split<;>simp
 simp only[AK,BC];omega
theorem S5(q:Sv.Rule)(h:Lp q)(hx:Ej q=false):(Co q).length<=1000:=by
 obtain⟨h1,h2⟩:=h;unfold Ej at hx;rw[DD] at hx;have h3:q.conds.length<=4:=by simpa using hx.1
 have h5:=Jk Cc 200 q.conds (fun c hc=>S4 c (h1 c hc) (by
  have:=hx.2;rw[EI] at this;simpa using this c hc))
 have h6:q.conds.length*200<=4*200:=BW _ h3;unfold Co;simp only[AK,AP,CE];omega
theorem Oe(rs:List Sv.Rule)(h:∀q∈rs,Lp q)(hx:D6 rs=false):(I9 rs).length<=8000:=by
 unfold D6 at hx;rw[DD] at hx;have h3:rs.length<=8:=by simpa using hx.1
 have h5:=Jk Co 1000 rs (fun q hq=>S5 q (h q hq) (by
  have:=hx.2;rw[EI] at this;simpa using this q hq))
 have h6:rs.length*1000<=8*1000:=BW _ h3;unfold I9;omega
def B4(l:List UInt8):List UInt8×Nat×Nat:=
 if 400<l.length then ([],0,2)
 else match Bn l with
  | .inl k=>([],k,1)
  | .inr rs=>if D6 rs=true then ([],0,2) else (I9 rs,rs.length,0)
theorem Ne(s:ByteArray)(aT aL:Addr)(w:World)(hL:LD aT aL w)(hP:3<w.heap.size)(hm:s.size<=maxLen)(n m:Nat)(hmm:(m=2/\n=0)\/m=1)
 (hp:∀e w',F1 (.iface 345 (.pointer (some aT))) (.iface 345 (.pointer (some aL))) w s e w'->∃g i,e=.returned (.tuple #[.slice none 0 0,.iface 112 (.pointer (some ⟨g,0,none⟩))])/\w.grownBy w' none/\((m=2/\FAt g i (.iface 345 (.pointer (some aL))) w')\/(m=1/\i=n/\FAt g i (.iface 345 (.pointer (some aT))) w'))) :
  Calls Tryz.prog 16 #[.string s] w fun e w'=>e=.returned (.tuple #[.string ⟨#[]⟩,.int .i64 n,.int .i64 m])/\w.grownBy w' none:=by
 go_enter Tryz.func16,Tryz.ntmps16;go_wp2_with fail;refine(Nv s w _ aT _ aL hL.cT hL.cL hm).mono ?_;intro e w1 aN;obtain⟨g,i,rfl,hg1,hF⟩:=hp e w1 aN;clear hp aN;have eY:=hL.kept hg1 hP;rcases hF with ⟨rfl,hF⟩|⟨rfl,rfl,hF⟩
 ·obtain rfl:n=0:=by rcases hmm with h|h<;>omega
  clear hmm;go_wp2_with fail;refine(Hy g i aT aL w1 eY hF).mono ?_;rintro e w2⟨rfl,rfl⟩;go_wp2
  go_ret3
  exact⟨rfl,hg1⟩
 ·clear hmm
  go_wp2_with fail;refine(I7 g i aT aL w1 eY hF).mono ?_;rintro e w2⟨rfl,hg2⟩;have hg3:=Ab hg1 hg2;go_wp2
  go_ret3
  exact⟨rfl,hg3⟩
theorem Vy(s:ByteArray)(aT aL:Addr)(w:World)(hL:LD aT aL w)(hP:3<w.heap.size)(hm:s.size<=maxLen)(hs:¬ 400<s.size)(rs:List Sv.Rule)(hr:Bn s.data.toList=.inr rs)(hx:D6 rs=false) :
  Calls Tryz.prog 16 #[.string s] w fun e w'=>e=.returned (.tuple #[.string ⟨(I9 rs).toArray⟩,.int .i64 rs.length,.int .i64 0])/\w.grownBy w' none:=by
 have cm:=I0 _ rs hr;have hlen:=Oe rs cm hx;have HR:=Ac hr;have HX:=Ac hx;clear hr hx;go_enter Tryz.func16,Tryz.ntmps16;go_wp2_with fail;refine(Nv s w _ aT _ aL hL.cT hL.cL hm).mono ?_;rintro e w1⟨hg1,aN⟩;rw[AO hs,Aa HR] at aN;simp only at aN;rw[Aa HX,AO (by simp)] at aN;obtain⟨u,rfl,bX⟩:=aN;obtain⟨ao,cap,rfl⟩:=bX.slice;have eY:=hL.kept hg1 hP;have rh:RsAt 0 (.slice ao rs.length cap) rs w1:=bX.weak (AG _);go_wp2_with fail;refine(Q2d rs _ w1 eY.tab (AZ hP hg1.size) rh (fun q hq=>(cm q hq).1) (by omega)).mono ?_;rintro e w2⟨rfl,hg2⟩;have hg3:=Ab hg1 hg2;go_wp2
 go_ret3
 exact⟨rfl,hg3⟩
theorem Q3f(s:ByteArray)(aT aL:Addr)(w:World)(hL:LD aT aL w)(hP:3<w.heap.size)(hm:s.size<=maxLen) :
  Calls Tryz.prog 16 #[.string s] w fun e w'=>e=.returned (.tuple #[.string ⟨(B4 s.data.toList).1.toArray⟩,.int .i64 (B4 s.data.toList).2.1,.int .i64 (B4 s.data.toList).2.2])/\w.grownBy w' none:=by
 by_cases hs:400<s.size
 ·have e:B4 s.data.toList=([],0,2):=by unfold B4;rw[Ae,AQ hs]
  rw[e];refine Ne s aT aL w hL hP hm 0 2 (.inl ⟨rfl,rfl⟩) ?_;rintro e w'⟨hg,hp⟩;rw[AQ hs] at hp;obtain⟨g,i,he,hF⟩:=hp;exact⟨g,i,he,hg,.inl ⟨rfl,hF⟩⟩
 ·cases hr:Bn s.data.toList with
  | inl k=>
   have e:B4 s.data.toList=([],k,1):=by unfold B4;rw[Ae,AO hs,hr]
   rw[e];refine Ne s aT aL w hL hP hm k 1 (.inr rfl) ?_;rintro e w'⟨hg,hp⟩;rw[AO hs,hr] at hp;obtain⟨g,he,hF⟩:=hp;exact⟨g,k,he,hg,.inr ⟨rfl,rfl,hF⟩⟩
  | inr rs=>
   cases hx:D6 rs
   ·have e:B4 s.data.toList=(I9 rs,rs.length,0):=by unfold B4;rw[Ae,AO hs,hr];simp only;rw[hx];rfl
    rw[e];exact Vy s aT aL w hL hP hm hs rs hr hx
   ·have e:B4 s.data.toList=([],0,2):=by unfold B4;rw[Ae,AO hs,hr];simp only;rw[hx];rfl
    rw[e];refine Ne s aT aL w hL hP hm 0 2 (.inl ⟨rfl,rfl⟩) ?_;rintro e w'⟨hg,hp⟩;rw[AO hs,hr] at hp;simp only at hp;rw[hx,AQ rfl] at hp;obtain⟨g,i,he,hF⟩:=hp;exact⟨g,i,he,hg,.inl ⟨rfl,hF⟩⟩
end Go.Proofs.YtolhbeekfjnfmaaGreatDoor
namespace Go.Proofs.YtolhbeekfjnfmaaGreatDoor
variable {b i:Nat}{s:ByteArray}{v:Bool}{w w':World}
structure Sv.Fact where
 kind:Int
 vals:List Int
abbrev Sv.Bs:=List (UInt8×Int)
def Bc:Sv.Bs->UInt8->Option Int
 | [],_=>none
 | p::b,n=>if p.1=n then some p.2 else Bc b n
def B1:List Sv.Term->List Int->Sv.Bs->Option Sv.Bs
 | t::ts,v::vs,b=>
  if t.sort=0 then B1 ts vs b
  else if t.sort=1 then
   match Bc b t.letter with
   | none=>B1 ts vs (b++[(t.letter,v)])
   | some u=>if v=u then B1 ts vs b else none
  else if v=t.value then B1 ts vs b else none
 | _,_,b=>some b
def Ay(f:Sv.Fact)(c:Sv.Cond)(b:Sv.Bs):Option Sv.Bs:=
 if f.kind=(c.kind:Int)/\f.vals.length=c.terms.length then B1 c.terms f.vals b else none
def Ar(L:List (Int×Sv.Fact)):List Sv.Cond->Sv.Bs->List Int->List (List Int)
 | [],_,ids=>[ids]
 | c::cs,b,ids=>
  if c.neg=true then (if L.any (fun p=>(Ay p.2 c b).isSome)=true then [] else Ar L cs b ids)
  else L.flatMap fun p=>match Ay p.2 c b with
   | none=>[]
   | some b'=>Ar L cs b' (ids++[p.1])
def Bo(L:List (Int×Sv.Fact)):Nat->List Sv.Rule->List (Int×List Int)
 | _,[]=>[]
 | r,q::rs=>(Ar L q.conds [] []).map (fun ids=>((r:Int),ids))++Bo L (r+1) rs
def Al(rs:List Sv.Rule)(L:List (Int×Sv.Fact)):List (Int×List Int):=Bo L 0 rs
theorem E0{α β:Type}(f:α->List β)(k:Nat):∀(L:List α),(∀x∈L,(f x).length<=k)->(L.flatMap f).length<=L.length*k
 | [],_=>by simp
 | x::L,h=>by
  have h1:=E0 f k L (fun y hy=>h y (BG _ hy));have h2:=h x (BF ..);rw[BI,AK,AP,IC];omega
theorem D3(L:List (Int×Sv.Fact))(hL:L.length<=16):∀(cs:List Sv.Cond) (b:Sv.Bs) (ids:List Int),(Ar L cs b ids).length<=16 ^ cs.length
 | [],b,ids=>by simp[Ar]
 | c::cs,b,ids=>by
  have hp:0<16 ^ cs.length:=KA (by omega);have e:16 ^ (c::cs).length=16*16 ^ cs.length:=by rw[AP,GD,FZ]
  rw[e];unfold Ar;split
  ·split
   ·simp
   ·have:=D3 L hL cs b ids
    omega
  ·refine AU (E0 _ (16 ^ cs.length) L ?_) (BW _ hL)
   intro p _;cases Ay p.2 c b with
   | none=>simp
   | some b'=>exact D3 L hL cs b' _
def Fh:List Int->List Int->Prop
 | [],[]=>False
 | [],_::_=>True
 | _::_,[]=>False
 | a::x,b::y=>a<b\/(a=b/\Fh x y)
theorem Ob(p:List Int)(a b:Int)(x y:List Int)(h:a<b):Fh (p++a::x) (p++b::y):=by
 induction p with
 | nil=>exact .inl h
 | cons c p ih=>exact .inr ⟨rfl,ih⟩
def Of:List Sv.Cond->Nat
 | []=>0
 | c::cs=>(if c.neg=true then 0 else 1)+Of cs
theorem Dl(L:List (Int×Sv.Fact)):∀(cs:List Sv.Cond) (b:Sv.Bs) (ids:List Int) (x:List Int),x∈Ar L cs b ids->∃t,x=ids++t/\t.length=Of cs
 | [],b,ids,x,h=>⟨[],by simp[Ar] at h;simp[h],rfl⟩
 | c::cs,b,ids,x,h=>by
  unfold Ar at h;unfold Of;split at h
  ·rename_i hn
   split at h
   ·simp at h
   ·obtain⟨t,h1,h2⟩:=Dl L cs b ids x h
    exact⟨t,h1,by rw[AQ hn];omega⟩
  ·rename_i hn
   obtain⟨p,_,hp⟩:=CT.1 h;cases hm:Ay p.2 c b with
   | none=>rw[hm] at hp;simp at hp
   | some b'=>
    rw[hm] at hp;obtain⟨t,h1,h2⟩:=Dl L cs b' _ x hp;exact⟨p.1::t,by rw[h1];simp,by rw[AO hn,AP];omega⟩
theorem Cw(L:List (Int×Sv.Fact))(hL:L.Pairwise (fun p q=>p.1<q.1)):∀(cs:List Sv.Cond) (b:Sv.Bs) (ids:List Int),(Ar L cs b ids).Pairwise Fh
 | [],b,ids=>by simp[Ar]
 | c::cs,b,ids=>by
  unfold Ar;split
  ·split
   ·exact List.Pairwise.nil
   ·exact Cw L hL cs b ids
  ·rw[List.pairwise_flatMap]
   refine⟨fun p _=>?_,hL.imp ?_⟩
   ·cases Ay p.2 c b with
    | none=>exact List.Pairwise.nil
    | some b'=>exact Cw L hL cs b' _
   ·intro p q hpq x hx y hy
    cases hm:Ay p.2 c b with
    | none=>rw[hm] at hx;simp at hx
    | some b1=>
     cases zG:Ay q.2 c b with
     | none=>rw[zG] at hy;simp at hy
     | some b2=>
      rw[hm] at hx;rw[zG] at hy;obtain⟨t1,h1,_⟩:=Dl L cs b1 _ x hx;obtain⟨t2,h2,_⟩:=Dl L cs b2 _ y hy;rw[h1,h2,BQ,BQ];exact Ob ids p.1 q.1 t1 t2 hpq
theorem D5:∀(ts:List Sv.Term) (vs:List Int) (b b':Sv.Bs),B1 ts vs b=some b'->b'.length<=b.length+ts.length
 | [],vs,b,b',h=>by simp[B1] at h;subst h;simp
 | t::ts,[],b,b',h=>by simp[B1] at h;subst h;simp
 | t::ts,v::vs,b,b',h=>by
  unfold B1 at h;rw[AP];split at h
  ·have:=D5 ts vs b b' h;omega
  ·split at h
   ·split at h
    ·have:=D5 ts vs _ b' h
     rw[AK,BC] at this;omega
    ·split at h
     ·have:=D5 ts vs b b' h;omega
     ·cases h
   ·split at h
    ·have:=D5 ts vs b b' h;omega
    ·cases h
theorem Oc(f:Sv.Fact)(c:Sv.Cond)(b b':Sv.Bs)(h:Ay f c b=some b'):b'.length<=b.length+c.terms.length:=by
 unfold Ay at h;split at h
 ·exact D5 _ _ _ _ h
 ·cases h
theorem Ie(c:UInt8)(h:B9 c=true):97<=c.toNat/\c.toNat<=122:=by simpa[B9] using h
theorem Lo(n:Nat)(l:List UInt8)(v i:Nat):(A3 n l v i).2=i\/As (Ai l ((A3 n l v i).2-1))=true:=by
 induction n generalizing v i with
 | zero=>exact .inl rfl
 | succ n ih=>
  rw[Cf];split
  ·rename_i hc
   rcases ih (v*10+((Ai l i).toNat-48)) (i+1) with h|h
   ·exact .inr (by rw[h];exact hc)
   ·exact .inr h
  ·exact .inl rfl
theorem Cn(l:List UInt8)(i:Nat)(t:Sv.Term)(j:Nat)(h:Bj l i=.inr (t,j)):t=⟨2,0,t.value⟩/\As (Ai l (j-1))=true:=by
 unfold Bj at h;cases hm:Ai l i==45
 ·rw[hm] at h
  simp only[BZ,if_false] at h;by_cases hne:(A3 9 l 0 i).2=i
  ·rw[AQ hne] at h;cases h
  ·rw[AO hne] at h
   simp only[CC,CH] at h;obtain⟨rfl,rfl⟩:=h;refine⟨rfl,?_⟩;rcases Lo 9 l 0 i with h|h
   ·exact absurd h hne
   ·exact h
 ·rw[hm] at h
  simp only[if_true] at h;by_cases hne:(A3 9 l 0 (i+1)).2=i+1
  ·rw[AQ hne] at h;cases h
  ·rw[AO hne] at h
   simp only[CC,CH] at h;obtain⟨rfl,rfl⟩:=h;refine⟨rfl,?_⟩;rcases Lo 9 l 0 (i+1) with h|h
   ·exact absurd h hne
   ·exact h
def Q7(t:Sv.Term):Prop:=t.sort=0\/(t.sort=1/\0<t.letter.toNat)\/(t.sort=2/\t.letter=0)
def N4(c:Sv.Cond):Prop:=c.kind<=9/\∀t∈c.terms,Q7 t
def Q1d(q:Sv.Rule):Prop:=∀c∈q.conds,N4 c
theorem P7(l:List UInt8)(i:Nat)(t:Sv.Term)(j:Nat)(h:A8 l i=.inr (t,j)):Q7 t:=by
 unfold A8 at h;split at h
 ·simp only[CC,CH] at h
  obtain⟨rfl,_⟩:=h;exact .inl rfl
 ·split at h
  ·rename_i hl
   simp only[CC,CH] at h;obtain⟨rfl,_⟩:=h;exact .inr (.inl ⟨rfl,by have:=Ie _ hl;show 0<(Ai l i).toNat;omega⟩)
  ·split at h
   ·have h3:=(Cn _ _ _ _ h).1
    exact .inr (.inr ⟨by rw[h3],by rw[h3]⟩)
   ·cases h
theorem Td(n:Nat)(l:List UInt8)(acc:List Sv.Term)(i:Nat)(ts:List Sv.Term)(j:Nat)(h:Dr n l acc i=.inr (ts,j))(ha:∀t∈acc,Q7 t):∀t∈ts,Q7 t:=by
 induction n generalizing acc i with
 | zero=>cases h
 | succ n ih=>
  rw[Em] at h;split at h
  ·simp only[CC,CH] at h
   rw[<-h.1];exact ha
  ·cases hr:A8 l (Ag l i) with
   | inl k=>rw[hr] at h;cases h
   | inr p=>
    obtain⟨t,k⟩:=p;rw[hr] at h;refine ih (acc++[t]) k h ?_;intro x hx;rcases AY.1 hx with hx|hx
    ·exact ha x hx
    ·rw[AX] at hx
     rw[hx];exact P7 l _ t k hr
theorem J3(l:List UInt8)(i:Nat)(c:Sv.Cond)(j:Nat)(h:An l i=.inr (c,j)):N4 c:=by
 unfold An at h;simp only at h;split at h
 ·split at h
  ·rename_i hd
   have hr:=Cm _ hd;cases ht:Cl l (Ag l (Ag l i+1)+1) with
   | inl m=>rw[ht] at h;cases h
   | inr p=>
    obtain⟨ts,m⟩:=p;rw[ht] at h;simp only[CC,CH] at h;obtain⟨rfl,_⟩:=h;refine⟨?_,Td _ l [] _ ts m ht (by simp)⟩;show (Ai l (Ag l (Ag l i+1))).toNat-48<=9
    omega
  ·cases h
 ·cases h
theorem Ss(n:Nat)(l:List UInt8)(acc:List Sv.Cond)(i:Nat)(cs:List Sv.Cond)(j:Nat)(h:Dk n l acc i=.inr (cs,j))(ha:∀c∈acc,N4 c):∀c∈cs,N4 c:=by
 induction n generalizing acc i with
 | zero=>cases h
 | succ n ih=>
  rw[De] at h;split at h
  ·simp only[CC,CH] at h
   rw[<-h.1];exact ha
  ·generalize (if (Ai l (Ag l i)==33)=true then Ag l i+1 else Ag l i)=x at h
   cases hr:An l x with
   | inl k=>rw[hr] at h;cases h
   | inr p=>
    obtain⟨c,k⟩:=p;rw[hr] at h;refine ih _ k h ?_;intro y hy;rcases AY.1 hy with hy|hy
    ·exact ha y hy
    ·rw[AX] at hy
     rw[hy];exact J3 l x c k hr
theorem N6(l:List UInt8)(i:Nat)(cs:List Sv.Cond)(j:Nat)(h:Bl l i=.inr (cs,j)):∀c∈cs,N4 c:=by
 unfold Bl at h;cases hr:An l i with
 | inl k=>rw[hr] at h;cases h
 | inr p=>
  obtain⟨c,k⟩:=p;rw[hr] at h;refine Ss _ l [c] k cs j h ?_;intro y hy;rw[AX] at hy;rw[hy];exact J3 l i c k hr
def Q6(q:Sv.Rule):Prop:=Q1d q/\q.name.length<=8
theorem P4(l:List UInt8)(i:Nat)(hi:i<=l.length)(q:Sv.Rule)(j:Nat)(h:A1 l i=.inr (q,j)):Q6 q:=by
 have hn:=Dc 8 l i hi;unfold A1 at h;simp only at h;split at h
 ·cases h
 ·split at h
  ·cases hr:Bl l (Ag l (Aq 8 l i)+1) with
   | inl m=>rw[hr] at h;cases h
   | inr p=>
    obtain⟨cs,m⟩:=p;rw[hr] at h;simp only[CC,CH] at h;obtain⟨rfl,_⟩:=h;refine⟨N6 l _ cs m hr,?_⟩;simp;omega
  ·cases h
theorem Ta(n:Nat)(l:List UInt8)(acc:List Sv.Rule)(i:Nat)(rs:List Sv.Rule)(h:F8 n l acc i=.inr rs)(ha:∀q∈acc,Q6 q):∀q∈rs,Q6 q:=by
 induction n generalizing acc i with
 | zero=>cases h
 | succ n ih=>
  rw[Df] at h;split at h
  ·rename_i hlt
   cases hr:A1 l i with
   | inl k=>rw[hr] at h;cases h
   | inr p=>
    obtain⟨q,k⟩:=p;rw[hr] at h;refine ih _ (Ag l k) h ?_;intro y hy;rcases AY.1 hy with hy|hy
    ·exact ha y hy
    ·rw[AX] at hy
     rw[hy];exact P4 l i (by omega) q k hr
  ·simp only[CC] at h
   rw[<-h];exact ha
theorem I1(l:List UInt8)(rs:List Sv.Rule)(h:Bn l=.inr rs):∀q∈rs,Q6 q:=Ta _ l [] _ rs h (by simp)
def M1(t:Sv.Term):Prop:=t.sort=0\/(t.sort=1/\0<t.letter.toNat)\/(t.sort=2/\t.letter=0)
structure Sv.RsOk(rs:List Sv.Rule):Prop where
 len:rs.length<=8
 conds:∀q∈rs,q.conds.length<=4
 terms:∀q∈rs,∀c∈q.conds,c.terms.length<=4
 shape:∀q∈rs,∀c∈q.conds,∀t∈c.terms,M1 t
def B2(x:Int):Bool:=!(decide (x < -999999999)||decide (999999999<x))
def Av(f:Sv.Fact):Bool:=!(decide (f.kind<0)||decide (9<f.kind)||decide (4<f.vals.length))&&f.vals.all B2
def Bg(l:List UInt8):Nat ⊕ List Sv.Rule:=
 if 400<l.length then .inl 2 else match Bn l with
  | .inl _=>.inl 1
  | .inr rs=>if D6 rs=true then .inl 2 else .inr rs
theorem G4(l:List UInt8)(rs:List Sv.Rule)(h:Bg l=.inr rs):Sv.RsOk rs:=by
 unfold Bg at h;split at h
 ·cases h
 ·cases hr:Bn l with
  | inl k=>rw[hr] at h;cases h
  | inr rs'=>
   rw[hr] at h;simp only at h;split at h
   ·cases h
   ·rename_i hx
    cases h
    have dV:=I1 l rs hr;simp only[FH] at hx;unfold D6 at hx;rw[DD,EI] at hx;obtain⟨h8,hx⟩:=hx
    have hq:∀q∈rs,q.conds.length<=4/\∀c∈q.conds,c.terms.length<=4:=by
     intro q hq;have h1:=hx q hq;simp only[FH] at h1;unfold Ej at h1;rw[DD,EI] at h1;refine⟨by simpa using h1.1,fun c hc=>?_⟩;have h2:=h1.2 c hc;simpa[D2] using h2
    exact⟨by simpa using h8,fun q hm=>(hq q hm).1,fun q hm=>(hq q hm).2,fun q hm c hc t ht=>((dV q hm).1 c hc).2 t ht⟩
def Dv(ms:List (Int×List Int))(m:Int×List Int):Bool:=ms.any (fun k=>decide (k=m))
def Bp(ms fd:List (Int×List Int)):List (Int×List Int):=fd.filter (fun f=>Dv ms f)
structure Sv.St where
 rs:List Sv.Rule
 L:List (Int×Sv.Fact)
 cnt:Int
 fired:List (Int×List Int)
def Sv.St.add(s:Sv.St)(f:Sv.Fact):(Int×Int)×Sv.St:=
 if Av f=false then ((0,3),s)
 else if 16<=s.L.length then ((0,4),s)
 else ((s.cnt+1,0),⟨s.rs,s.L++[(s.cnt+1,f)],s.cnt+1,Bp (Al s.rs (s.L++[(s.cnt+1,f)])) s.fired⟩)
structure Sv.StOk(s:Sv.St):Prop where
 rules:Sv.RsOk s.rs
 facts:s.L.length<=16
 c0:0<=s.cnt
 fired:s.fired.length<=1000000
end Go.Proofs.YtolhbeekfjnfmaaGreatDoor
namespace Go.Proofs.YtolhbeekfjnfmaaGreatDoor
open Go.RowKit
variable {b i:Nat}{s:ByteArray}{v:Bool}{w w':World}
def VAt(b:Nat)(s:ByteArray)(i:Nat)(bad:Bool)(w:World):Prop:=w.heap[b]?=some (.cells #[.string s,.int .i64 i,.bool bad] 229 (0,0))
theorem VAt.c0(h:VAt b s i v w):w.cell? ⟨b,0,none⟩=some (.string s):=by
 unfold VAt at h;simp[World.cell?,h]
theorem VAt.c1(h:VAt b s i v w):w.cell? ⟨b,1,none⟩=some (.int .i64 i):=by
 unfold VAt at h;simp[World.cell?,h]
theorem VAt.c2(h:VAt b s i v w):w.cell? ⟨b,2,none⟩=some (.bool v):=by
 unfold VAt at h;simp[World.cell?,h]
theorem VAt.fz(h:VAt b s i v w)(o:Nat):w.frozen? ⟨b,o,none⟩=false:=by
 unfold VAt at h;simp[World.frozen?,h]
theorem VAt.lt(h:VAt b s i v w):b<w.heap.size:=Ad h
theorem VAt.kept{row:Option Nat}(h:VAt b s i v w)(g:w.grownBy w' row)(hne:some b≠row):VAt b s i v w':=by
 unfold VAt;rw[g.block b h.lt hne];exact h
theorem VAt.set1(h:VAt b s i v w)(j:Nat):VAt b s j v (w.setCell ⟨b,1,none⟩ (.int .i64 j)):=by
 unfold VAt at h⊢;rw[BB w b 1 _ _ _ h];rfl
theorem VAt.set2(h:VAt b s i v w)(u:Bool):VAt b s i u (w.setCell ⟨b,2,none⟩ (.bool u)):=by
 unfold VAt at h⊢;rw[BB w b 2 _ _ _ h];rfl
theorem VAt.drewN{b:Nat}{s:ByteArray}{i:Nat}{v:Bool}{w:World}(h:VAt b s i v w)(n:Nat):VAt b s i v (w.drewN n):=h
theorem VAt.at(h:VAt b s i v w):Eh b w=i:=by
 unfold Eh;rw[h.c1];simp
theorem VAt.rowOk(h:VAt b s i v w):RowOk 0 229 (some b) w:=by
 intro g hg;cases hg;exact⟨AG _,_,_,h⟩
theorem VAt.row{j:Nat}{row:Option Nat}{base:Nat}{e:TypeId}(h:VAt b s j v w)(hg:w.grownBy w' row)(hr:RowOk base e row w)(he:e≠229):VAt b s j v w':=by
 refine h.kept hg (fun e1=>?_);obtain⟨_,cur,fz,h2⟩:=hr b e1.symm;unfold VAt at h;rw[h] at h2;simp at h2;exact he h2.2.1.symm
theorem Ct(c:UInt8)(w:World) :
  Calls Tryz.prog 176 #[.int .u8 c.toNat] w fun e w'=>e=.returned (.bool (B9 c))/\w'=w:=by
 unfold B9;by_cases h1:97<=c.toNat
 ·by_cases h2:c.toNat<=122
  ·have e1:decide ((97:Int)<=c.toNat)=true:=by simp;omega
   have e2:decide ((c.toNat:Int)<=122)=true:=by simp;omega
   go_enter Tryz.func176,Tryz.ntmps176;go_wp2;go_ret;exact⟨by simp[h1,h2],rfl⟩
  ·have e1:decide ((97:Int)<=c.toNat)=true:=by simp;omega
   have e2:decide ((c.toNat:Int)<=122)=false:=by simp;omega
   go_enter Tryz.func176,Tryz.ntmps176;go_wp2;go_ret;exact⟨by simp[h2],rfl⟩
 ·have e1:decide ((97:Int)<=c.toNat)=false:=by simp;omega
  go_enter Tryz.func176,Tryz.ntmps176;go_wp2;go_ret;exact⟨by simp[h1],rfl⟩
theorem B8(c:UInt8)(w:World) :
  Calls Tryz.prog 177 #[.int .u8 c.toNat] w fun e w'=>e=.returned (.bool (As c))/\w'=w:=by
 unfold As;by_cases h1:48<=c.toNat
 ·by_cases h2:c.toNat<=57
  ·have e1:decide ((48:Int)<=c.toNat)=true:=by simp;omega
   have e2:decide ((c.toNat:Int)<=57)=true:=by simp;omega
   go_enter Tryz.func177,Tryz.ntmps177;go_wp2;go_ret;exact⟨by simp[h1,h2],rfl⟩
  ·have e1:decide ((48:Int)<=c.toNat)=true:=by simp;omega
   have e2:decide ((c.toNat:Int)<=57)=false:=by simp;omega
   go_enter Tryz.func177,Tryz.ntmps177;go_wp2;go_ret;exact⟨by simp[h2],rfl⟩
 ·have e1:decide ((48:Int)<=c.toNat)=false:=by simp;omega
  go_enter Tryz.func177,Tryz.ntmps177;go_wp2;go_ret;exact⟨by simp[h1],rfl⟩
theorem Ba(b:Nat)(s:ByteArray)(i:Nat)(w:World)(hi:i<=s.size)(_hs:s.size<=400)(hb:VAt b s i false w) :
  Calls Tryz.prog 148 #[.pointer (some ⟨b,0,none⟩)] w fun e w'=>e=.returned (.int .u8 (Ai s.data.toList i).toNat)/\∃n,w'=w.drewN n:=by
 have c0:=hb.c0;have c1:=hb.c1;have c2:=hb.c2;by_cases h:i=s.size
 ·have e:decide ((s.size:Int)<=(i:Int))=true:=by simp;omega
  go_enter Tryz.func148,Tryz.ntmps148;go_wp2;go_quiet (fail);go_wp2;go_ret;exact⟨by rw[E3 _ _ (by simp;omega)];rfl,_,rfl⟩
 ·have e:decide ((s.size:Int)<=(i:Int))=false:=by simp;omega
  have hlt:i<s.size:=by omega
  go_enter Tryz.func148,Tryz.ntmps148;go_wp2;go_quiet (fail);go_wp2;go_quiet (fail);go_wp2;go_ret;exact⟨by rw[Xh _ _ hlt];rfl,_,World.drewN_drewN _ _ _⟩
theorem H9(b:Nat)(s:ByteArray)(i:Nat)(w:World)(hb:VAt b s i true w) :
  Calls Tryz.prog 148 #[.pointer (some ⟨b,0,none⟩)] w fun e w'=>e=.returned (.int .u8 0)/\∃n,w'=w.drewN n:=by
 have c2:=hb.c2;go_enter Tryz.func148,Tryz.ntmps148;go_wp2;go_quiet (fail);go_wp2;go_ret;exact⟨rfl,_,rfl⟩
theorem Lc(b:Nat)(s:ByteArray)(i:Nat)(w:World)(hb:VAt b s i true w) :
  Calls Tryz.prog 117 #[.pointer (some ⟨b,0,none⟩)] w fun e w'=>e=.returned (.tuple #[])/\VAt b s i true w'/\w.grownBy w' (some b):=by
 go_enter Tryz.func117,Tryz.ntmps117;go_wp2;go_loopw [] (fun w'=>w'=w) (fun _=>0)
 case atStart=>rfl
 case round=>
  subst hrel
  go_wp2_with (go_at_call 148;refine(H9 b s i _ (by first|exact hb|exact hb.drewN _)).mono ?_;rintro e w'⟨rfl,n,rfl⟩)
  go_end0
  exact⟨rfl,hb,Af _ _ _⟩
theorem Fe(b:Nat)(s:ByteArray)(i:Nat)(w:World)(hi:i<=s.size)(hs:s.size<=400)(hb:VAt b s i false w) :
  Calls Tryz.prog 117 #[.pointer (some ⟨b,0,none⟩)] w fun e w'=>e=.returned (.tuple #[])/\VAt b s (Ag s.data.toList i) false w'/\w.grownBy w' (some b):=by
 go_enter Tryz.func117,Tryz.ntmps117;go_wp2;go_loopw [] (fun w'=>∃k:Nat,k<=s.size/\VAt b s k false w'/\w.grownBy w' (some b)/\Ag s.data.toList k=Ag s.data.toList i) (fun w'=>s.size-Eh b w')
 case atStart=>exact⟨i,hi,hb,AD _ _,rfl⟩
 case round=>
  obtain⟨k,hk,aH,hg,hsk⟩:=hrel;have HS:Hid (Ag s.data.toList k=Ag s.data.toList i):=hsk;clear hsk;have HA:Hid (Eh b wr=k):=aH.at;cases h1:Ai s.data.toList k==32
  ·cases h2:Ai s.data.toList k==10
   ·have hno:=M0 s.data.toList k (by simp[Di,h1,h2])
    have HN:Hid (Ag s.data.toList k=k):=hno;clear hno;have e1:=(Ud (Ai s.data.toList k)).trans h1;have e2:=(Q0g (Ai s.data.toList k)).trans h2;clear h1 h2
    go_wp2_with (go_at_call 148;refine(Ba b s k _ hk hs (by first|exact aH|exact aH.drewN _)).mono ?_;rintro e w'⟨rfl,n,rfl⟩)
    go_end0
    refine⟨rfl,?_,?_⟩
    ·rw[<-HS.out,HN.out];exact aH
    ·exact Ab hg (Af _ _ _)
   ·have dm:=Hj s.data.toList k (by simp[Di,h2])
    rw[Ae] at dm;obtain⟨hn,hlt⟩:=dm;have HN:Hid (Ag s.data.toList k=Ag s.data.toList (k+1)):=hn;clear hn;have e1:=(Ud (Ai s.data.toList k)).trans h1;have e2:=(Q0g (Ai s.data.toList k)).trans h2;clear h1 h2;have c1:=aH.c1;have f1:=aH.fz 1
    go_wp2_with (go_at_call 148;refine(Ba b s k _ hk hs (by first|exact aH|exact aH.drewN _)).mono ?_;rintro e w'⟨rfl,n,rfl⟩)
    go_roundw
    case rel=>exact⟨k+1,by omega,(VAt.set1 aH (k+1)),Ab hg (Ab (Aj wr b 1 _) (Af _ _ _)),by rw[<-HN.out];exact HS.out⟩
    case measure=>
     have h2:Eh b ((wr.setCell ⟨b,1,none⟩ (.int .i64 ((k+1:Nat):Int))))=k+1:=(VAt.set1 aH (k+1)).at;show s.size-Eh b ((wr.setCell ⟨b,1,none⟩ (.int .i64 ((k+1:Nat):Int))))<s.size-Eh b wr
     rw[h2,HA.out];omega
  ·have dm:=Hj s.data.toList k (by simp[Di,h1])
   rw[Ae] at dm;obtain⟨hn,hlt⟩:=dm;have HN:Hid (Ag s.data.toList k=Ag s.data.toList (k+1)):=hn;clear hn;have e1:=(Ud (Ai s.data.toList k)).trans h1;clear h1;have c1:=aH.c1;have f1:=aH.fz 1
   go_wp2_with (go_at_call 148;refine(Ba b s k _ hk hs (by first|exact aH|exact aH.drewN _)).mono ?_;rintro e w'⟨rfl,n,rfl⟩)
   go_roundw
   case rel=>exact⟨k+1,by omega,(VAt.set1 aH (k+1)),Ab hg (Ab (Aj wr b 1 _) (Af _ _ _)),by rw[<-HN.out];exact HS.out⟩
   case measure=>
    have h2:Eh b ((wr.setCell ⟨b,1,none⟩ (.int .i64 ((k+1:Nat):Int))))=k+1:=(VAt.set1 aH (k+1)).at;show s.size-Eh b ((wr.setCell ⟨b,1,none⟩ (.int .i64 ((k+1:Nat):Int))))<s.size-Eh b wr
    rw[h2,HA.out];omega
theorem Nz(b:Nat)(s:ByteArray)(i:Nat)(c:UInt8)(x:Int)(hx:x=c.toNat)(w:World)(hi:i<=s.size)(hs:s.size<=400)(h:(Ai s.data.toList i==c)=true)(hb:VAt b s i false w) :
  Calls Tryz.prog 150 #[.pointer (some ⟨b,0,none⟩),.int .u8 x] w fun e w'=>e=.returned (.tuple #[])/\VAt b s (i+1) false w'/\w.grownBy w' (some b):=by
 subst hx;have e1:=Q0h _ _ h;clear h;have c1:=hb.c1;have c2:=hb.c2;have f1:=hb.fz 1;go_enter Tryz.func150,Tryz.ntmps150
 go_wp2_with (go_at_call 148;refine(Ba b s i _ hi hs hb).mono ?_;rintro e w'⟨rfl,n,rfl⟩)
 go_end0
 exact⟨rfl,VAt.set1 hb _,Ab (Af w n _) (Aj _ b 1 _)⟩
theorem Yc(b:Nat)(s:ByteArray)(i:Nat)(c:UInt8)(x:Int)(hx:x=c.toNat)(w:World)(hi:i<=s.size)(hs:s.size<=400)(h:(Ai s.data.toList i==c)=false)(hb:VAt b s i false w) :
  Calls Tryz.prog 150 #[.pointer (some ⟨b,0,none⟩),.int .u8 x] w fun e w'=>e=.returned (.tuple #[])/\VAt b s i true w'/\w.grownBy w' (some b):=by
 subst hx;have e1:=Xx _ _ h;clear h;have c2:=hb.c2;have f2:=hb.fz 2;have d2:=(hb.set2 true).c2;go_enter Tryz.func150,Tryz.ntmps150
 go_wp2_with (go_at_call 148;refine(Ba b s i _ hi hs hb).mono ?_;rintro e w'⟨rfl,n,rfl⟩)
 go_end0
 exact⟨rfl,VAt.set2 hb _,Ab (Af w n _) (Aj _ b 2 _)⟩
theorem Q0o(b:Nat)(s:ByteArray)(i:Nat)(c:UInt8)(hc:c≠0)(x:Int)(hx:x=c.toNat)(w:World)(hb:VAt b s i true w) :
  Calls Tryz.prog 150 #[.pointer (some ⟨b,0,none⟩),.int .u8 x] w fun e w'=>e=.returned (.tuple #[])/\VAt b s i true w'/\w.grownBy w' (some b):=by
 subst hx;have e1:((0:Int) !=(c.toNat:Int))=true:=Xx 0 c (by simpa using hc.symm);have c2:=hb.c2;have f2:=hb.fz 2;have d2:=(hb.set2 true).c2;go_enter Tryz.func150,Tryz.ntmps150
 go_wp2_with (go_at_call 148;refine(H9 b s i _ hb).mono ?_;rintro e w'⟨rfl,n,rfl⟩)
 go_end0
 exact⟨rfl,VAt.set2 hb _,Ab (Af w n _) (Aj _ b 2 _)⟩
end Go.Proofs.YtolhbeekfjnfmaaGreatDoor

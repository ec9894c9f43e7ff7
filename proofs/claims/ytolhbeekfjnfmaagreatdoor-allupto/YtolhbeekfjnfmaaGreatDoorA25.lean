import Derived.Test.YtolhbeekfjnfmaaGreatDoorA23
import Derived.Test.YtolhbeekfjnfmaaGreatDoorA24
set_option maxHeartbeats 8000000
namespace Go.Proofs.YtolhbeekfjnfmaaGreatDoor
open Go.RowKit Go.Proofs.Tryz
variable {U:Nat->Nat}{base:Nat}{u:Value}{w:World}
theorem buildOK:∀m,M0 m
 |0=>by
  intro U ru q k bc lb fst av cv ss cs w hm h;obtain rfl:=CJ.1 hm;exact Vu U ru q k bc lb fst av cv ss w h
 |m+1=>by
  intro U ru q k bc lb fst av cv ss cs w hm h;cases cs with
  |nil=>simp at hm
  |cons c cs=>
   rw[AP]at hm;by_cases hn:c.neg=true
   ·exact Vt m (buildOK m) U ru q k bc lb fst av cv ss c cs w (by omega) h hn
   ·exact Vv m (buildOK m) U ru q k bc lb fst av cv ss c cs w (by omega) h (by simpa using hn)
theorem Uk:Lu:=λU ru q nm cv cs w h1 h2 h3 h4=>Ul buildOK U ru q nm cv cs w h1 h2 h3 h4
theorem Q24{ts:List Q0D}(hU:∀i,base<=i->U i=1)(h:Q1U base u ts w):Q0Q U 1 258 3 tmenc u ts w:=by
 have h':Q0B 258 3 tmenc base u ts w:=⟨X9,h⟩
 exact⟨h'.weak (AG _),λg hg=>hU g (h'.own g hg).1⟩
theorem Q0R.get{B:Nat}{w:World}:∀ {cs:List Q0A} {xs:List Value} {j:Nat} {c:Q0A},Q0R B w cs xs->cs[j]?=some c->∃u,xs[j*3]?=some (.bool c.neg)/\xs[j*3+1]?=some (.int .i64 c.kind)/\xs[j*3+2]?=some u/\Q1U B u c.terms w
 |[],_,_,_,_,hj=>by simp at hj
 |c::cs,xs,0,d,h,hj=>by
  obtain⟨u,ys,rfl,h2,_⟩:=h;simp only[BW,AE]at hj;subst hj;exact⟨u,rfl,rfl,rfl,h2⟩
 |c::cs,xs,j+1,d,h,hj=>by
  obtain⟨u,ys,rfl,_,h3⟩:=h;rw[BV]at hj;obtain⟨u',k1,k2,k3,k4⟩:=Q0R.get h3 hj;refine⟨u',?_,?_,?_,k4⟩
  ·rw[show (j+1)*3=j*3+1+1+1 by omega];simpa using k1
  ·rw[show (j+1)*3+1=j*3+1+1+1+1 by omega];simpa using k2
  ·rw[show (j+1)*3+2=j*3+2+1+1+1 by omega];simpa using k3
theorem Q15{cs:List Q0A}(hU:∀i,base<=i->U i=1)(h:Q1Z base u cs w):Q2R U u cs w:=by obtain⟨xs,h1,h2⟩:=h;rcases h1.2 with ⟨rfl,h3⟩|⟨g,cap,cur,rfl,h4,h5,h6,h7,h8,h9⟩;{have:cs=[]:=CJ.1 h3;subst this;exact⟨none,0,rfl,AX _,by unfold maxLen;omega,λh=>absurd rfl h⟩};{refine⟨_,cap,rfl,h6,h7,λ_=>⟨g,0,rfl,hU g h4,Ad h5,λj c hj=>?_⟩⟩;obtain⟨v,k1,k2,k3,k4⟩:=h2.get hj;obtain⟨g',cap',e1,e2⟩:=Ll h1 (AK.1 hj).1;simp only[AH,AE,BL,CA,BP]at e1;obtain⟨rfl,rfl⟩:=e1;have q0:=e2 0 (by omega);have q1:=e2 1 (by omega);have q2:=e2 2 (by omega);rw[BU];exact⟨v,by rw[EI]at q0;rw[q0,k1],by rw[q1,k2],by rw[q2,k3],Q24 hU k4⟩}
theorem Q0S.get{B:Nat}{w:World}:∀ {rs:List Q0C} {xs:List Value} {j:Nat} {r:Q0C},Q0S B w rs xs->rs[j]?=some r->∃u,xs[j*2]?=some (.string ⟨r.name.toArray⟩)/\xs[j*2+1]?=some u/\Q1Z B u r.conds w
 |[],_,_,_,_,hj=>by simp at hj
 |c::cs,xs,0,d,h,hj=>by
  obtain⟨u,ys,rfl,h2,_⟩:=h;simp only[BW,AE]at hj;subst hj;exact⟨u,rfl,rfl,h2⟩
 |c::cs,xs,j+1,d,h,hj=>by
  obtain⟨u,ys,rfl,_,h3⟩:=h;rw[BV]at hj;obtain⟨u',k1,k2,k4⟩:=Q0S.get h3 hj;refine⟨u',?_,?_,k4⟩
  ·rw[show (j+1)*2=j*2+1+1 by omega];simpa using k1
  ·rw[show (j+1)*2+1=j*2+1+1+1 by omega];simpa using k2
theorem Q20{rs:List Q0C}(hU:∀i,base<=i->U i=1)(h:Q2O base u rs w):Q6G U u rs w:=by obtain⟨xs,h1,h2⟩:=h;rcases h1.2 with ⟨rfl,h3⟩|⟨g,cap,cur,rfl,h4,h5,h6,h7,h8,h9⟩;{have:rs=[]:=CJ.1 h3;subst this;exact⟨none,0,rfl,λh=>absurd rfl h⟩};{refine⟨_,cap,rfl,λ_=>⟨g,rfl,hU g h4,Ad h5,λj c hj=>?_⟩⟩;obtain⟨v,k1,k2,k4⟩:=h2.get hj;obtain⟨g',cap',e1,e2⟩:=Ll h1 (AK.1 hj).1;simp only[AH,AE,BL,CA,BP]at e1;obtain⟨rfl,rfl⟩:=e1;have q0:=e2 0 (by omega);have q1:=e2 1 (by omega);exact⟨v,by rw[EI]at q0;rw[q0,k1],by rw[q1,k2],Q15 hU k4⟩}
def Nb(r:Nat ⊕ List Q0C)(w:World)(e:Ending)(w':World):Prop:=
 w.grownBy w' none/\match r with
  |.inl k=>e=.returned (.tuple #[.pointer none,.int .i64 k])
  |.inr rs=>∃x nb U,e=.returned (.tuple #[.pointer (some ⟨x,0,none⟩),.int .i64 0])/\w.heap.size<=x/\x<w'.heap.size/\nb<x/\w'.heap[x]?=some (.cells #[.pointer (some ⟨nb,0,none⟩),.slice none 0 0,.int .i64 0] 88 (0,0))/\(∃w1,Q1O U nb (rs.map (λr=>E0 r.conds)) w1/\w1.heap.size<=x/\w1.grownBy w' none)/\(∀i,i<w.heap.size->U i=0)/\∀i,w.heap.size<=i->U i=1\/4<=U i
theorem Oe(s:ByteArray)(aT aL:Addr)(w:World)(hL:LD aT aL w)(hP:3<w.heap.size)(hm:s.size<=maxLen)(n m:Nat)(hmm:(m=2/\n=0)\/m=1) (hp:∀e w',Gb (.iface 345 (.pointer (some aT))) (.iface 345 (.pointer (some aL))) w s e w'->∃g i,e=.returned (.tuple #[.slice none 0 0,.iface 112 (.pointer (some ⟨g,0,none⟩))])/\w.grownBy w' none/\((m=2/\FAt g i (.iface 345 (.pointer (some aL))) w')\/(m=1/\i=n/\FAt g i (.iface 345 (.pointer (some aT))) w'))):Calls prog 17 #[.string s] w λe w'=>Nb (.inl m) w e w':=by go_enter func17,ntmps17;go_wp2_with fail;refine(N6 s w _ aT _ aL hL.cT hL.cL hm).mono ?_;intro e w1 aJ;obtain⟨g,i,rfl,hg1,hF⟩:=hp e w1 aJ;clear hp aJ;have dn:=hL.kept hg1 hP;rcases hF with ⟨rfl,hF⟩|⟨rfl,rfl,hF⟩;{(obtain rfl:n=0:=by rcases hmm with h|h<;>omega);clear hmm;go_wp2_with fail;refine(Ij g i aT aL w1 dn hF).mono ?_;rintro e w2⟨rfl,rfl⟩;go_wp2;go_ret2;exact⟨hg1,rfl⟩};{clear hmm;go_wp2_with fail;refine(Jk g i aT aL w1 dn hF).mono ?_;rintro e w2⟨rfl,hg2⟩;have hg3:=Ab hg1 hg2;go_wp2;go_ret2;exact⟨hg3,rfl⟩}
theorem Yw(s:ByteArray)(aT aL:Addr)(w:World)(hL:LD aT aL w)(hm:s.size<=maxLen)(hs:¬ 400<s.size)(rs:List Q0C)(hr:Bt s.data.toList=.inr rs)(hx:Ea rs=false)(aI:Q1S rs):Calls prog 17 #[.string s] w λe w'=>Nb (.inr rs) w e w':=by
 obtain⟨U0,nO⟩:∃U0:Nat->Nat,U0=λi=>if i<w.heap.size then 0 else 1:=⟨_,rfl⟩
 have u0:∀i,i<w.heap.size->U0 i=0:=λi hi=>by rw[nO];dsimp only;rw[AQ hi]
 have u1:∀i,w.heap.size<=i->U0 i=1:=λi hi=>by rw[nO];dsimp only;rw[AO (by omega)]
 have HR:=Ac hr;have HX:=Ac hx;clear hr hx nO;go_enter func17,ntmps17;go_wp2_with fail;refine(N6 s w _ aT _ aL hL.cT hL.cL hm).mono ?_;rintro e w1⟨hg1,aJ⟩;rw[AO hs,Aa HR]at aJ;simp only at aJ;rw[Aa HX,AO (by simp)]at aJ;obtain⟨u,rfl,bO⟩:=aJ;have hN:=Q36 Uk U0 u rs w1 (λi hi=>by by_cases h:i<w.heap.size;rw[u0 i h];omega;rw[u1 i (by omega)];omega) (Q20 u1 bO) (λr hr=>⟨aI.conds r hr,aI.terms r hr⟩) (by have:=aI.len;omega);obtain⟨ao,cap,rfl⟩:=bO.slice;have hs1:=hg1.size;have fj:=Ac aI;clear bO aI;go_wp2_with (go_at_call 38;refine hN.mono ?_;rintro e w2⟨nb,U,rfl,hb,QE,hg2,ho,hn⟩);go_ret2;have hb2:nb<w2.heap.size:=by obtain⟨cv,bs,k1,_⟩:=QE;exact Ad k1
 have hg3:=AA w2 (.cells #[.pointer (some ⟨nb,0,none⟩),.slice none 0 0,.int .i64 0] 88) none;have hs2:=hg2.size;refine⟨Ab hg1 (Ab hg2 hg3),w2.heap.size,nb,U,rfl,by omega,by simp,hb2,AR _ _,⟨w2,QE,AX _,hg3⟩,λi hi=>by rw[ho i (by omega)];exact u0 i hi,λi hi=>?_⟩;by_cases h:i<w1.heap.size;{rw[ho i h];exact .inl (u1 i hi)};{exact hn i (by omega)}
theorem Q4t(s:ByteArray)(aT aL:Addr)(w:World)(hL:LD aT aL w)(hP:3<w.heap.size)(hm:s.size<=maxLen):Calls prog 17 #[.string s] w λe w'=>Nb (Bm s.data.toList) w e w':=by by_cases hs:400<s.size;{(have e:Bm s.data.toList=.inl 2:=by unfold Bm;rw[Ae,AQ hs]);rw[e];refine Oe s aT aL w hL hP hm 0 2 (.inl ⟨rfl,rfl⟩) ?_;rintro e w'⟨hg,hp⟩;rw[AQ hs]at hp;obtain⟨g,i,he,hF⟩:=hp;exact⟨g,i,he,hg,.inl ⟨rfl,hF⟩⟩};{cases hr:Bt s.data.toList with|inl k=>{(have e:Bm s.data.toList=.inl 1:=by unfold Bm;rw[Ae,AO hs,hr]);rw[e];refine Oe s aT aL w hL hP hm k 1 (.inr rfl) ?_;rintro e w'⟨hg,hp⟩;rw[AO hs,hr]at hp;obtain⟨g,he,hF⟩:=hp;exact⟨g,k,he,hg,.inr ⟨rfl,rfl,hF⟩⟩}|inr rs=>cases hx:Ea rs;{(have e:Bm s.data.toList=.inr rs:=by unfold Bm;rw[Ae,AO hs,hr];simp only;rw[hx];rfl);rw[e];exact Yw s aT aL w hL hm hs rs hr hx (Hd _ rs e)};{(have e:Bm s.data.toList=.inl 2:=by unfold Bm;rw[Ae,AO hs,hr];simp only;rw[hx];rfl);rw[e];refine Oe s aT aL w hL hP hm 0 2 (.inl ⟨rfl,rfl⟩) ?_;rintro e w'⟨hg,hp⟩;rw[AO hs,hr]at hp;simp only at hp;rw[hx,AQ rfl]at hp;obtain⟨g,i,he,hF⟩:=hp;exact⟨g,i,he,hg,.inl ⟨rfl,hF⟩⟩}}
end Go.Proofs.YtolhbeekfjnfmaaGreatDoor

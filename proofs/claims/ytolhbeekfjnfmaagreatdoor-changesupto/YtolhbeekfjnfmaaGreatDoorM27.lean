import Derived.Test.YtolhbeekfjnfmaaGreatDoorM26
set_option maxHeartbeats 8000000
namespace Go.Proofs.YtolhbeekfjnfmaaGreatDoor
open Go.RowKit
variable {U:Nat->Nat}{base:Nat}{u:Value}{w:World}
theorem Q2k{ts:List Sv.Term}(hU:∀i,base<=i->U i=1)(h:TsAt base u ts w):TRow U 1 258 3 tmenc u ts w:=by
 have h':RowAt 258 3 tmenc base u ts w:=⟨Xv,h⟩
 exact⟨h'.weak (AG _),fun g hg=>hU g (h'.own g hg).1⟩
theorem CsCells.get{B:Nat}{w:World}:∀ {cs:List Sv.Cond} {xs:List Value} {j:Nat} {c:Sv.Cond},CsCells B w cs xs->cs[j]?=some c->∃u,xs[j*3]?=some (.bool c.neg)/\xs[j*3+1]?=some (.int .i64 c.kind)/\xs[j*3+2]?=some u/\TsAt B u c.terms w
 | [],_,_,_,_,hj=>by simp at hj
 | c::cs,xs,0,d,h,hj=>by
  obtain⟨u,ys,rfl,h2,_⟩:=h;simp only[BU,AE] at hj;subst hj;exact⟨u,rfl,rfl,rfl,h2⟩
 | c::cs,xs,j+1,d,h,hj=>by
  obtain⟨u,ys,rfl,_,h3⟩:=h;rw[BS] at hj;obtain⟨u',k1,k2,k3,k4⟩:=CsCells.get h3 hj;refine⟨u',?_,?_,?_,k4⟩
  ·rw[show (j+1)*3=j*3+1+1+1 by omega];simpa using k1
  ·rw[show (j+1)*3+1=j*3+1+1+1+1 by omega];simpa using k2
  ·rw[show (j+1)*3+2=j*3+2+1+1+1 by omega];simpa using k3
theorem Q1n{cs:List Sv.Cond}(hU:∀i,base<=i->U i=1)(h:CsAt base u cs w):CsIn U u cs w:=by
 obtain⟨xs,h1,h2⟩:=h;rcases h1.2 with ⟨rfl,h3⟩|⟨g,cap,cur,rfl,h4,h5,h6,h7,h8,h9⟩
 ·have:cs=[]:=CM.1 h3
  subst this;exact⟨none,0,rfl,AW _,by unfold maxLen;omega,fun h=>absurd rfl h⟩
 ·refine⟨_,cap,rfl,h6,h7,fun _=>⟨g,0,rfl,hU g h4,Ad h5,fun j c hj=>?_⟩⟩
  obtain⟨v,k1,k2,k3,k4⟩:=h2.get hj;obtain⟨g',cap',e1,e2⟩:=Lb h1 (AL.1 hj).1;simp only[AH,AE,BK,BX,BP] at e1;obtain⟨rfl,rfl⟩:=e1;have q0:=e2 0 (by omega);have q1:=e2 1 (by omega);have q2:=e2 2 (by omega);rw[BV];exact⟨v,by rw[EG] at q0;rw[q0,k1],by rw[q1,k2],by rw[q2,k3],Q2k hU k4⟩
theorem RsCells.get{B:Nat}{w:World}:∀ {rs:List Sv.Rule} {xs:List Value} {j:Nat} {r:Sv.Rule},RsCells B w rs xs->rs[j]?=some r->∃u,xs[j*2]?=some (.string ⟨r.name.toArray⟩)/\xs[j*2+1]?=some u/\CsAt B u r.conds w
 | [],_,_,_,_,hj=>by simp at hj
 | c::cs,xs,0,d,h,hj=>by
  obtain⟨u,ys,rfl,h2,_⟩:=h;simp only[BU,AE] at hj;subst hj;exact⟨u,rfl,rfl,h2⟩
 | c::cs,xs,j+1,d,h,hj=>by
  obtain⟨u,ys,rfl,_,h3⟩:=h;rw[BS] at hj;obtain⟨u',k1,k2,k4⟩:=RsCells.get h3 hj;refine⟨u',?_,?_,k4⟩
  ·rw[show (j+1)*2=j*2+1+1 by omega];simpa using k1
  ·rw[show (j+1)*2+1=j*2+1+1+1 by omega];simpa using k2
theorem Q2g{rs:List Sv.Rule}(hU:∀i,base<=i->U i=1)(h:RsAt base u rs w):RsIn U u rs w:=by
 obtain⟨xs,h1,h2⟩:=h;rcases h1.2 with ⟨rfl,h3⟩|⟨g,cap,cur,rfl,h4,h5,h6,h7,h8,h9⟩
 ·have:rs=[]:=CM.1 h3
  subst this;exact⟨none,0,rfl,fun h=>absurd rfl h⟩
 ·refine⟨_,cap,rfl,fun _=>⟨g,rfl,hU g h4,Ad h5,fun j c hj=>?_⟩⟩
  obtain⟨v,k1,k2,k4⟩:=h2.get hj;obtain⟨g',cap',e1,e2⟩:=Lb h1 (AL.1 hj).1;simp only[AH,AE,BK,BX,BP] at e1;obtain⟨rfl,rfl⟩:=e1;have q0:=e2 0 (by omega);have q1:=e2 1 (by omega);exact⟨v,by rw[EG] at q0;rw[q0,k1],by rw[q1,k2],Q1n hU k4⟩
def M2(r:Nat ⊕ List Sv.Rule)(w:World)(e:Ending)(w':World):Prop:=
 w.grownBy w' none/\match r with
  | .inl k=>e=.returned (.tuple #[.pointer none,.int .i64 k])
  | .inr rs=>∃x nb U,e=.returned (.tuple #[.pointer (some ⟨x,0,none⟩),.int .i64 0])/\w.heap.size<=x/\x<w'.heap.size/\nb<x/\w'.heap[x]?=some (.cells #[.pointer (some ⟨nb,0,none⟩),.slice none 0 0,.int .i64 0] 88 (0,0))/\(∃w1,NetAt U nb (rs.map (fun r=>Eu r.conds)) w1/\w1.heap.size<=x/\w1.grownBy w' none)/\(∀i,i<w.heap.size->U i=0)/\∀i,w.heap.size<=i->U i=1\/4<=U i
theorem N2(s:ByteArray)(aT aL:Addr)(w:World)(hL:LD aT aL w)(hP:3<w.heap.size)(hm:s.size<=maxLen)(n m:Nat)(hmm:(m=2/\n=0)\/m=1)
 (hp:∀e w',F1 (.iface 345 (.pointer (some aT))) (.iface 345 (.pointer (some aL))) w s e w'->∃g i,e=.returned (.tuple #[.slice none 0 0,.iface 112 (.pointer (some ⟨g,0,none⟩))])/\w.grownBy w' none/\((m=2/\FAt g i (.iface 345 (.pointer (some aL))) w')\/(m=1/\i=n/\FAt g i (.iface 345 (.pointer (some aT))) w'))) :
  Calls Tryz.prog 17 #[.string s] w fun e w'=>M2 (.inl m) w e w':=by
 go_enter Tryz.func17,Tryz.ntmps17;go_wp2_with fail;refine(Nv s w _ aT _ aL hL.cT hL.cL hm).mono ?_;intro e w1 aN;obtain⟨g,i,rfl,hg1,hF⟩:=hp e w1 aN;clear hp aN;have eY:=hL.kept hg1 hP;rcases hF with ⟨rfl,hF⟩|⟨rfl,rfl,hF⟩
 ·obtain rfl:n=0:=by rcases hmm with h|h<;>omega
  clear hmm;go_wp2_with fail;refine(Hy g i aT aL w1 eY hF).mono ?_;rintro e w2⟨rfl,rfl⟩;go_wp2
  go_ret2
  exact⟨hg1,rfl⟩
 ·clear hmm
  go_wp2_with fail;refine(I7 g i aT aL w1 eY hF).mono ?_;rintro e w2⟨rfl,hg2⟩;have hg3:=Ab hg1 hg2;go_wp2
  go_ret2
  exact⟨hg3,rfl⟩
theorem Yg(s:ByteArray)(aT aL:Addr)(w:World)(hL:LD aT aL w)(hm:s.size<=maxLen)(hs:¬ 400<s.size)(rs:List Sv.Rule)(hr:Bn s.data.toList=.inr rs)(hx:D6 rs=false)(aK:Sv.RsOk rs) :
  Calls Tryz.prog 17 #[.string s] w fun e w'=>M2 (.inr rs) w e w':=by
 obtain⟨U0,sB⟩:∃U0:Nat->Nat,U0=fun i=>if i<w.heap.size then 0 else 1:=⟨_,rfl⟩
 have u0:∀i,i<w.heap.size->U0 i=0:=fun i hi=>by rw[sB];dsimp only;rw[AQ hi]
 have u1:∀i,w.heap.size<=i->U0 i=1:=fun i hi=>by rw[sB];dsimp only;rw[AO (by omega)]
 have HR:=Ac hr;have HX:=Ac hx;clear hr hx sB;go_enter Tryz.func17,Tryz.ntmps17;go_wp2_with fail;refine(Nv s w _ aT _ aL hL.cT hL.cL hm).mono ?_;rintro e w1⟨hg1,aN⟩;rw[AO hs,Aa HR] at aN;simp only at aN;rw[Aa HX,AO (by simp)] at aN;obtain⟨u,rfl,bX⟩:=aN;have hN:=Q3o Tq U0 u rs w1 (fun i hi=>by by_cases h:i<w.heap.size;rw[u0 i h];omega;rw[u1 i (by omega)];omega) (Q2g u1 bX) (fun r hr=>⟨aK.conds r hr,aK.terms r hr⟩) (by have:=aK.len;omega);obtain⟨ao,cap,rfl⟩:=bX.slice;have hs1:=hg1.size;have fe:=Ac aK;clear bX aK
 go_wp2_with (go_at_call 38;refine hN.mono ?_;rintro e w2⟨nb,U,rfl,hb,MC,hg2,ho,hn⟩)
 go_ret2
 have hb2:nb<w2.heap.size:=by obtain⟨cv,bs,k1,_⟩:=MC;exact Ad k1
 have hg3:=AA w2 (.cells #[.pointer (some ⟨nb,0,none⟩),.slice none 0 0,.int .i64 0] 88) none;have hs2:=hg2.size;refine⟨Ab hg1 (Ab hg2 hg3),w2.heap.size,nb,U,rfl,by omega,by simp,hb2,AR _ _,⟨w2,MC,AW _,hg3⟩,fun i hi=>by rw[ho i (by omega)];exact u0 i hi,fun i hi=>?_⟩;by_cases h:i<w1.heap.size
 ·rw[ho i h];exact .inl (u1 i hi)
 ·exact hn i (by omega)
theorem Q4c(s:ByteArray)(aT aL:Addr)(w:World)(hL:LD aT aL w)(hP:3<w.heap.size)(hm:s.size<=maxLen) :
  Calls Tryz.prog 17 #[.string s] w fun e w'=>M2 (Bg s.data.toList) w e w':=by
 by_cases hs:400<s.size
 ·have e:Bg s.data.toList=.inl 2:=by unfold Bg;rw[Ae,AQ hs]
  rw[e];refine N2 s aT aL w hL hP hm 0 2 (.inl ⟨rfl,rfl⟩) ?_;rintro e w'⟨hg,hp⟩;rw[AQ hs] at hp;obtain⟨g,i,he,hF⟩:=hp;exact⟨g,i,he,hg,.inl ⟨rfl,hF⟩⟩
 ·cases hr:Bn s.data.toList with
  | inl k=>
   have e:Bg s.data.toList=.inl 1:=by unfold Bg;rw[Ae,AO hs,hr]
   rw[e];refine N2 s aT aL w hL hP hm k 1 (.inr rfl) ?_;rintro e w'⟨hg,hp⟩;rw[AO hs,hr] at hp;obtain⟨g,he,hF⟩:=hp;exact⟨g,k,he,hg,.inr ⟨rfl,rfl,hF⟩⟩
  | inr rs=>
   cases hx:D6 rs
   ·have e:Bg s.data.toList=.inr rs:=by unfold Bg;rw[Ae,AO hs,hr];simp only;rw[hx];rfl
    rw[e];exact Yg s aT aL w hL hm hs rs hr hx (G4 _ rs e)
   ·have e:Bg s.data.toList=.inl 2:=by unfold Bg;rw[Ae,AO hs,hr];simp only;rw[hx];rfl
    rw[e];refine N2 s aT aL w hL hP hm 0 2 (.inl ⟨rfl,rfl⟩) ?_;rintro e w'⟨hg,hp⟩;rw[AO hs,hr] at hp;simp only at hp;rw[hx,AQ rfl] at hp;obtain⟨g,i,he,hF⟩:=hp;exact⟨g,i,he,hg,.inl ⟨rfl,hF⟩⟩
end Go.Proofs.YtolhbeekfjnfmaaGreatDoor

import Derived.Laws.StructEq
import Derived.Test.YtolhbeekfjnfmaaGreatDoorM14
set_option maxHeartbeats 8000000
set_option maxRecDepth 100000
namespace Go.Proofs.YtolhbeekfjnfmaaGreatDoor
open Go.RowKit
variable {g:Ft}{U:Nat->Nat}{w w':World}{k:Nat}{ts:List Sv.Term}{t u:Sv.Term}
def Ee(g:Ft):Value:=.pointer (some ⟨g.blk,0,none⟩)
def A5(t:Tok):List Value:=((t.map Ee)++List.replicate 4 (Value.pointer none)).take 4
theorem Br(t:Tok):(A5 t).length=4:=by
 unfold A5;rw[BL,AK,BN];omega
def Bt(t:Tok):Value:=.agg (A5 t).toArray
theorem Mh{t:Tok}{i:Nat}(h:t[i]?=some g)(hi:i<4):(A5 t)[i]?=some (Ee g):=by
 unfold A5;have hl:=(AL.1 h).1;rw[IQ hi,CL (by simpa using hl),BR,h];rfl
theorem Ni{α:Type}{l:List α}(h:l.length=4):∃a b c d,l=[a,b,c,d]:=by
 match l,h with
 | [a,b,c,d],_=>exact⟨a,b,c,d,rfl⟩
theorem Mj(t:Tok):∀c∈A5 t,∃p,c=.pointer p:=by
 intro c hc;unfold A5 at hc;have h1:=EH hc;rcases AY.1 h1 with h|h
 ·obtain⟨g,_,rfl⟩:=CJ.1 h
  exact⟨_,rfl⟩
 ·rw[CX h]
  exact⟨_,rfl⟩
theorem Iq(t:Tok):∀c∈A5 t,c.oneCell'=true:=by
 intro c hc;obtain⟨p,rfl⟩:=Mj t c hc;rfl
theorem A9(t:Tok):∃a b c d:Option Addr,A5 t=[.pointer a,.pointer b,.pointer c,.pointer d]:=by
 obtain⟨a,b,c,d,h⟩:=Ni (Br t);have hp:=Mj t;rw[h] at hp;obtain⟨pa,rfl⟩:=hp a (by simp);obtain⟨pb,rfl⟩:=hp b (by simp);obtain⟨pc,rfl⟩:=hp c (by simp);obtain⟨pd,rfl⟩:=hp d (by simp);exact⟨pa,pb,pc,pd,h⟩
def FtAt(U:Nat->Nat)(g:Ft)(w:World):Prop:=
 U g.blk=1/\g.f.vals.length<=4/\∃v,w.heap[g.blk]?=some (.cells #[.int .i64 g.f.kind,v,.int .i64 g.id] 93 (0,0))/\TRow U 1 3 1 C1 v g.f.vals w
def Q15(l:Lnk):List Value:=[.int .i64 l.place,.int .u8 l.at'.letter.toNat,.int .i64 l.at'.fact,.int .i64 l.at'.place]
theorem R4(l:Lnk):(Q15 l).length=4:=rfl
def Q32(s:Site):List Value:=[.int .u8 s.letter.toNat,.int .i64 s.fact,.int .i64 s.place]
theorem Sh(s:Site):(Q32 s).length=3:=rfl
def tmenc(t:Sv.Term):List Value:=[.int .i64 t.sort,.int .u8 t.letter.toNat,.int .i64 t.value]
theorem Xv(t:Sv.Term):(tmenc t).length=3:=rfl
theorem FtAt.keep{U':Nat->Nat}{S:Nat->Prop}(h:FtAt U g w)(hg:GrS S w w')(hs:∀k,U k=1->¬ S k)(ho:∀k,k<w.heap.size->U k=1->U' k=1):FtAt U' g w':=by
 obtain⟨h1,h2,v,h3,h4⟩:=h;exact⟨ho _ (Ad h3) h1,h2,v,hg.blk h3 (hs _ h1),h4.keep2 hg hs ho⟩
theorem FtAt.gr(h:FtAt U g w)(hg:w.grownBy w' none):FtAt U g w':=h.keep (S:=fun _=>False) (GrS.of hg (by simp)) (by simp) (fun _ _ h=>h)
structure CdAt(U:Nat->Nat)(b o:Nat)(c:Sv.Cond)(ls:List Lnk)(w:World):Prop where
 kind:w.cell? ⟨b,o,none⟩=some (.int .i64 c.kind)
 terms:∃v,w.cell? ⟨b,o+1,none⟩=some v/\TRow U 1 258 3 tmenc v c.terms w
 links:∃v,w.cell? ⟨b,o+2,none⟩=some v/\TRow U 1 293 4 Q15 v ls w
 short:c.terms.length<=4
theorem CdAt.gr{U:Nat->Nat}{b o:Nat}{c:Sv.Cond}{ls:List Lnk}{w w':World}(h:CdAt U b o c ls w)(hg:w.grownBy w' none):CdAt U b o c ls w':=by
 obtain⟨v,h1,h2⟩:=h.terms;obtain⟨u,h3,h4⟩:=h.links;exact⟨hg.cell h.kind (by simp),⟨v,hg.cell h1 (by simp),h2.1.gr hg,h2.2⟩,⟨u,hg.cell h3 (by simp),h4.1.gr hg,h4.2⟩,h.short⟩
theorem V1{ls:List Lnk}{l:Lnk}(h:ls[k]?=some l)(t:Tok)(f:Sv.Fact):Ck (ls.drop k) t f=((f.vals.getD l.place 0==t.val l.at')&&Ck (ls.drop (k+1)) t f):=by
 unfold Ck;rw[A0 h,KL]
theorem Gs(U:Nat->Nat)(b:Nat)(c:Sv.Cond)(ls:List Lnk)(t:Tok)(f:Ft)(w:World)(hc:CdAt U b 0 c ls w)(hf:FtAt U f w)(ht:∀g∈t,FtAt U g w)(dR:t.length<=4)
 (hl:∀l∈ls,l.place<f.f.vals.length/\∃g,t[l.at'.fact]?=some g/\l.at'.place<g.f.vals.length) :
  Calls Tryz.prog 139 #[.pointer (some ⟨b,0,none⟩),Bt t,Ee f] w fun e w'=>e=.returned (.bool (Ck ls t f.f))/\w.grownBy w' none:=by
 obtain⟨lv,hlv,PI⟩:=hc.links;obtain⟨la,lc,rfl⟩:=PI.1.slice;have hlen:=PI.1.le;unfold maxLen at hlen;obtain⟨pa,pb,pc,pd,hT⟩:=A9 t;have eT:Bt t=.agg #[.pointer pa,.pointer pb,.pointer pc,.pointer pd]:=by unfold Bt;rw[hT]
 rw[eT];obtain⟨R,hR⟩:∃R,Ck ls t f.f=R:=⟨_,rfl⟩
 rw[hR];have HR:=Ac hR;have HT:=Ac hT;have HL:=Ac hl;have HF:=Ac hf;have HTT:=Ac ht;clear hR hl hf ht eT hT;unfold Ee;have a7:=AA w (.cells #[.pointer pa,.pointer pb,.pointer pc,.pointer pd] 139) none;have hB:(w.alloc (.cells #[.pointer pa,.pointer pb,.pointer pc,.pointer pd] 139)).heap[w.heap.size]?=some (.cells #[.pointer pa,.pointer pb,.pointer pc,.pointer pd] 139 (0,0)):=AR _ _;rw[BV] at hlv;have TB:=a7.cell hlv (by simp);go_enter Tryz.func139,Tryz.ntmps139;go_wp2;clear TB;go_loopw [14] (fun x w'=>∃k:Nat,k<=ls.length/\x=.int .i64 k/\Ck (ls.drop k) t f.f=R/\w.grownBy w' none/\w'.heap[w.heap.size]?=some (.cells #[.pointer pa,.pointer pb,.pointer pc,.pointer pd] 139 (0,0))) (fun x _=>ls.length-(intOf x).toNat)
 case atStart=>exact⟨0,AG _,rfl,Aa HR,a7,hB⟩
 case round=>
  clear HR a7 hB;obtain⟨k,hk,rfl,hr,hg,hB⟩:=hrel;by_cases hlt:k<ls.length
  ·have hd:decide (k<ls.length)=true:=by simpa using hlt
   obtain⟨l,hl⟩:∃l,ls[k]?=some l:=⟨ls[k],AB hlt⟩
   rw[V1 hl] at hr;obtain⟨g0,cap',hv,hcl⟩:=(PI.1.gr hg).cells hl;simp only[AH,BP] at hv;obtain⟨rfl,rfl⟩:=hv;have c0:wr.cell? ⟨g0,k*4,none⟩=some (.int .i64 l.place):=hcl 0 (by omega);have c1:wr.cell? ⟨g0,k*4+1,none⟩=some (.int .u8 l.at'.letter.toNat):=hcl 1 (by omega);have c2:wr.cell? ⟨g0,k*4+2,none⟩=some (.int .i64 l.at'.fact):=hcl 2 (by omega);have c3:wr.cell? ⟨g0,k*4+3,none⟩=some (.int .i64 l.at'.place):=hcl 3 (by omega);obtain⟨hp,g,hg1,hg2⟩:=Aa HL l (AV hl);have hFx:=(Aa HF).gr hg;have hGx:=(Aa HTT g (AV hg1)).gr hg;obtain⟨_,f4,fv,fb,fr⟩:=hFx;obtain⟨_,g4,gv,gb,gr⟩:=hGx;obtain⟨fa,fc,rfl⟩:=fr.1.slice;obtain⟨ga,gc,rfl⟩:=gr.1.slice;obtain⟨x,hx⟩:∃x,f.f.vals[l.place]?=some x:=⟨_,AB hp⟩
   obtain⟨y,hy⟩:∃y,g.f.vals[l.at'.place]?=some y:=⟨_,AB hg2⟩
   obtain⟨fg,fc',fK,ZR⟩:=fr.1.cells hx;obtain⟨gg,gc',ZO,hgx⟩:=gr.1.cells hy;simp only[AH,BP] at fK ZO;obtain⟨rfl,rfl⟩:=fK;obtain⟨rfl,rfl⟩:=ZO;have x0:wr.cell? ⟨fg,l.place,none⟩=some (.int .i64 x):=by have:=ZR 0 (by omega);simpa[C1] using this
   have y0:wr.cell? ⟨gg,l.at'.place,none⟩=some (.int .i64 y):=by have:=hgx 0 (by omega);simpa[C1] using this
   have br:=(AL.1 hg1).1
   have tq:wr.cell? ⟨w.heap.size,l.at'.fact,none⟩=some (.pointer (some ⟨g.blk,0,none⟩)):=by
    have:=Mh hg1 (by omega);rw[Aa HT] at this;simp[World.cell?,hB];simpa[Ee] using this
   have f1:wr.cell? ⟨f.blk,1,none⟩=some (.slice (some ⟨fg,0,none⟩) f.f.vals.length fc):=by simp[World.cell?,fb]
   have g1:wr.cell? ⟨g.blk,1,none⟩=some (.slice (some ⟨gg,0,none⟩) g.f.vals.length gc):=by simp[World.cell?,gb]
   have ex:f.f.vals.getD l.place 0=x:=by rw[DV,hx];rfl
   have ey:t.val l.at'=y:=by unfold Tok.val;rw[hg1];simp[List.getD_eq_getElem?_getD,hy]
   rw[ex,ey] at hr;have HR:=Ac hr;have HB:=Ac hB;have hl4:l.at'.fact<4:=by omega
   clear hr hcl hl fb gb fr gr ZR hgx hx hy ex ey hg1 hB;have aj:=AA wr (.cells #[.int .i64 l.place,.int .u8 l.at'.letter.toNat,.int .i64 l.at'.fact,.int .i64 l.at'.place] 293) none;have QL:=aj.cell f1 (by simp);have g1':=aj.cell g1 (by simp);have x0':=aj.cell x0 (by simp);have y0':=aj.cell y0 (by simp);have tq':=aj.cell tq (by simp);have bE:=Ab hg aj;clear f1 g1 x0 y0 tq PI hlv;have HG:=Ac bE;have r9:=Ac aj;clear bE aj hg;by_cases he:x=y
   ·have hne:(x !=y)=false:=by simpa using he
    have hr:=Aa HR;rw[show (x==y)=true from by simpa using he,EN] at hr;have cD:=Ac hr;clear hr HR he;go_wp2;go_quiet (fail);go_wp2;go_roundw
    case rel=>exact⟨k+1,by omega,by go_num,Aa cD,Ab (Aa HG) (Af _ _ _),by rw[(Ab (Aa r9) (Af _ _ _)).block _ (Ad (Aa HB)) (by simp)];exact Aa HB⟩
    case measure=>simp[intOf];omega
   ·have hne:(x !=y)=true:=by simpa using he
    have hr:=Aa HR;rw[show (x==y)=false from by simpa using he,DT] at hr;subst hr;clear HR he;go_wp2;go_quiet (fail);go_wp2;go_ret;exact⟨rfl,Ab (Aa HG) (Af _ _ _)⟩
  ·have hd:decide (k<ls.length)=false:=by simpa using hlt
   have e:ls.drop k=[]:=BD (by omega);rw[e] at hr;have hr2:true=R:=hr;subst hr2;go_wp2;go_ret;exact⟨rfl,hg⟩
theorem Pg{base:Nat}{v:Value}(h:RowAt 258 3 tmenc base v ts w)(hk:ts[k]?=some t) :
  ∃g cap,v=.slice (some ⟨g,0,none⟩) ts.length cap/\w.cell? ⟨g,k*3,none⟩=some (.int .i64 t.sort)/\w.cell? ⟨g,k*3+1,none⟩=some (.int .u8 t.letter.toNat)/\w.cell? ⟨g,k*3+2,none⟩=some (.int .i64 t.value):=by
 obtain⟨g,cap,h1,h2⟩:=h.cells hk;exact⟨g,cap,h1,h2 0 (by omega),h2 1 (by omega),h2 2 (by omega)⟩
theorem Sx(a b:Sv.Term):Sv.Term.eqb a b=(((a.sort:Int)==(b.sort:Int))&&((a.letter.toNat:Int)==(b.letter.toNat:Int))&&(a.value==b.value)):=by
 unfold Sv.Term.eqb;rw[ER];simp only[EA,beq_iff_eq];constructor
 ·rintro⟨⟨h1,h2⟩,h3⟩
  exact⟨⟨by omega,by rw[h2]⟩,h3⟩
 ·rintro⟨⟨h1,h2⟩,h3⟩
  exact⟨⟨by omega,JB.1 (by omega)⟩,h3⟩
theorem Tryz.eqTm(x y:Sv.Term)(w:World):Sem.run Tryz.prog (binOp .eql 258 (.agg #[.int .i64 x.sort,.int .u8 x.letter.toNat,.int .i64 x.value]) (.agg #[.int .i64 y.sort,.int .u8 y.letter.toNat,.int .i64 y.value])) w=.ok (.bool (Sv.Term.eqb x y)) w:=by
 have hS:Tryz.prog.underlying 258=some (.struct (Tryz.prog.fieldsOf 258)):=by kernel_rfl
 have hp:Tryz.prog.stoodInHeld 258=false:=by kernel_rfl
 rw[run_eql_struct,show (10000:Nat)=9999+1 from rfl,run_equalIn_agg w 9999 258 _ _ hS hp];simp only[Program.fieldsOf,Tryz.underlying258]
 go_simp
 rw[Sx];by_cases h1:(x.sort:Int)=(y.sort:Int)<;>by_cases h2:(x.letter.toNat:Int)=(y.letter.toNat:Int)<;>by_cases h3:x.value=y.value<;>simp[h1,h2,h3]
theorem Tryz.gdTm(op:BinOp)(a b:Operand)(x y:Array Value)(w:World):Sem.run Tryz.prog (eqGuard op 258 a b (.agg x) (.agg y)) w=.ok () w:=run_eqGuard_agg w op 258 a b x y (by kernel_rfl)
def D0(k:Nat)(ts:List Sv.Term)(t:Sv.Term):Int:=if ts.any (fun u=>Sv.Term.eqb u t)=true then ((k+Ca ts t:Nat):Int) else -1
theorem J5(a b:Sv.Term):Sv.Term.eqb a b=Sv.Term.eqb b a:=by
 unfold Sv.Term.eqb;rw[ER];simp only[EA,beq_iff_eq];constructor
 ·rintro⟨⟨h1,h2⟩,h3⟩;exact⟨⟨h1.symm,h2.symm⟩,h3.symm⟩
 ·rintro⟨⟨h1,h2⟩,h3⟩;exact⟨⟨h1.symm,h2.symm⟩,h3.symm⟩
theorem Oi(h:Sv.Term.eqb t u=true):D0 k (u::ts) t=k:=by
 rw[J5] at h;unfold D0;rw[AQ (by simp[h])];unfold Ca;rw[AQ h];simp
theorem P5(h:¬ Sv.Term.eqb t u=true):D0 k (u::ts) t=D0 (k+1) ts t:=by
 rw[J5] at h;unfold D0;have e:Ca (u::ts) t=Ca ts t+1:=by rw[Ca,AO h]
 rw[e,GH,JM.2 h,EM];split
 ·congr 1;omega
 ·rfl
theorem Q12(v:Value)(ts:List Sv.Term)(t:Sv.Term)(w:World)(base:Nat)(h:RowAt 258 3 tmenc base v ts w) :
  Calls Tryz.prog 204 #[v,.agg #[.int .i64 t.sort,.int .u8 t.letter.toNat,.int .i64 t.value]] w fun e w'=>e=.returned (.int .i64 (D0 0 ts t))/\w.grownBy w' none:=by
 obtain⟨ao,cap,rfl⟩:=h.slice;have hlen:=h.le;unfold maxLen at hlen;obtain⟨R,hR⟩:∃R,D0 0 ts t=R:=⟨_,rfl⟩
 rw[hR];have HR:=Ac hR;clear hR;have a7:=AA w (.cells #[.int .i64 t.sort,.int .u8 t.letter.toNat,.int .i64 t.value] 258) none;have hB:(w.alloc (.cells #[.int .i64 t.sort,.int .u8 t.letter.toNat,.int .i64 t.value] 258)).heap[w.heap.size]?=some (.cells #[.int .i64 t.sort,.int .u8 t.letter.toNat,.int .i64 t.value] 258 (0,0)):=AR _ _;go_enter Tryz.func204,Tryz.ntmps204;go_wp2;go_loopw [8] (fun x w'=>∃k:Nat,k<=ts.length/\x=.int .i64 k/\D0 k (ts.drop k) t=R/\w.grownBy w' none/\w'.heap[w.heap.size]?=some (.cells #[.int .i64 t.sort,.int .u8 t.letter.toNat,.int .i64 t.value] 258 (0,0))) (fun x _=>ts.length-(intOf x).toNat)
 case atStart=>exact⟨0,AG _,rfl,Aa HR,a7,hB⟩
 case round=>
  clear HR a7 hB;obtain⟨k,hk,rfl,hr,hg,hB⟩:=hrel;have b0:wr.cell? ⟨w.heap.size,0,none⟩=some (.int .i64 t.sort):=by simp[World.cell?,hB]
  have b1:wr.cell? ⟨w.heap.size,1,none⟩=some (.int .u8 t.letter.toNat):=by simp[World.cell?,hB]
  have b2:wr.cell? ⟨w.heap.size,2,none⟩=some (.int .i64 t.value):=by simp[World.cell?,hB]
  have HB:=Ac hB;clear hB;by_cases hlt:k<ts.length
  ·have hd:decide (k<ts.length)=true:=by simpa using hlt
   obtain⟨u,hu⟩:∃u,ts[k]?=some u:=⟨ts[k],AB hlt⟩
   rw[A0 hu] at hr;obtain⟨g,cap',hv,c0,c1,c2⟩:=Pg (h.gr hg) hu;simp only[AH,BP] at hv;obtain⟨rfl,rfl⟩:=hv;have HR:=Ac hr;clear hr hu;have q1:=Tryz.eqTm t u;have q2:=Tryz.gdTm;by_cases he:Sv.Term.eqb t u=true
   ·have hr:=Aa HR
    rw[Oi he] at hr;subst hr;rw[he] at q1;clear HR he;go_wp2;go_quiet (fail);go_wp2;go_ret;exact⟨rfl,Ab hg (Af _ _ _)⟩
   ·have hr:=Aa HR
    rw[P5 he] at hr;have cD:=Ac hr;rw[JM.2 he] at q1;clear HR he hr;go_wp2;go_quiet (fail);go_wp2;go_roundw
    case rel=>exact⟨k+1,by omega,by go_num,Aa cD,Ab hg (Af _ _ _),by rw[(Af _ _ none).block _ (Ad (Aa HB)) (by simp)];exact Aa HB⟩
    case measure=>simp[intOf];omega
  ·have hd:decide (k<ts.length)=false:=by simpa using hlt
   have e:ts.drop k=[]:=BD (by omega);rw[e] at hr;have hr2:-1=R:=hr;subst hr2;go_wp2;go_ret;exact⟨rfl,hg⟩
def V2(all:List Sv.Term)(vs:List Int)(p:Nat)(t:Sv.Term):Bool:=if t.sort=2 then vs.getD p 0==t.value else if t.sort=1 then vs.getD p 0==vs.getD (Ca all t) 0 else true
theorem Lr:∀(ts:List Sv.Term) (t:Sv.Term),t∈ts->Ca ts t<ts.length/\ts.any (fun u=>Sv.Term.eqb u t)=true
 | [],t,h=>by simp at h
 | u::us,t,h=>by
  unfold Ca;by_cases e:Sv.Term.eqb u t=true
  ·rw[AQ e];simp[e]
  ·rw[AO e]
   have e2:Sv.Term.eqb t t=true:=by simp[Sv.Term.eqb]
   rcases CQ.1 h with rfl|h
   ·exact absurd e2 e
   ·obtain⟨h1,h2⟩:=Lr us t h
    exact⟨by simp;omega,by rw[GH,h2,Bool.or_true]⟩
theorem Zj(U:Nat->Nat)(b:Nat)(c:Sv.Cond)(ls:List Lnk)(p:Nat)(t:Sv.Term)(vv:Value)(vs:List Int)(w:World)(hc:CdAt U b 0 c ls w)(ht:c.terms[p]?=some t)(hv:IsAt 0 vv vs w)(hl:vs.length=c.terms.length) :
  Calls Tryz.prog 183 #[.pointer (some ⟨b,0,none⟩),.int .i64 p,.agg #[.int .i64 t.sort,.int .u8 t.letter.toNat,.int .i64 t.value],vv] w fun e w'=>e=.returned (.bool (V2 c.terms vs p t))/\w.grownBy w' none:=by
 obtain⟨ao,cap,rfl⟩:=hv.slice;have hp:=(AL.1 ht).1;have iO:p<vs.length:=by omega
 obtain⟨x,hx⟩:∃x,vs[p]?=some x:=⟨_,AB iO⟩
 have a7:=AA w (.cells #[.int .i64 t.sort,.int .u8 t.letter.toNat,.int .i64 t.value] 258) none;obtain⟨g,cap',e1,PS⟩:=(hv.gr a7).cells hx;simp only[AH,BP] at e1;obtain⟨rfl,rfl⟩:=e1;have x0:(w.alloc (.cells #[.int .i64 t.sort,.int .u8 t.letter.toNat,.int .i64 t.value] 258)).cell? ⟨g,p,none⟩=some (.int .i64 x):=by have:=PS 0 (by omega);simpa[C1] using this
 have nB:=hc.short;have ex:vs.getD p 0=x:=by rw[DV,hx];rfl
 unfold V2;rw[ex];clear PS ex;by_cases h2:t.sort=2
 ·rw[AQ h2]
  have hd:((t.sort:Int)==2)=true:=by simp[h2]
  clear h2;go_enter Tryz.func183,Tryz.ntmps183;go_wp2
  go_region
  all_goals
   go_wp2;go_ret;exact⟨rfl,by repeat (first|exact a7|apply Ah)⟩
 ·rw[AO h2]
  have hd:((t.sort:Int)==2)=false:=by simp;omega
  by_cases h1:t.sort=1
  ·rw[AQ h1]
   have td:((t.sort:Int)==1)=true:=by simp[h1]
   obtain⟨i,hi⟩:∃i,Ca c.terms t=i:=⟨_,rfl⟩
   have hm:=Lr c.terms t (AV ht);have eE:i<vs.length:=by rw[hl,<-hi];exact hm.1
   obtain⟨y,hy⟩:∃y,vs[i]?=some y:=⟨_,AB eE⟩
   have ey:vs.getD (Ca c.terms t) 0=y:=by rw[hi,DV,hy];rfl
   rw[ey];have hF:D0 0 c.terms t=(i:Int):=by unfold D0;rw[AQ hm.2,hi,BV]
   obtain⟨tv,hc1,hc2⟩:=hc.terms;rw[BV] at hc1;have hc1':=a7.cell hc1 (by simp);obtain⟨ta,tc,rfl⟩:=hc2.1.slice;obtain⟨g2,aC,e2,ZY⟩:=(hv.gr a7).cells hy;simp only[AH,AE,BK,BP,BX] at e2;obtain⟨rfl,rfl⟩:=e2;have y0:(w.alloc (.cells #[.int .i64 t.sort,.int .u8 t.letter.toNat,.int .i64 t.value] 258)).cell? ⟨g,i,none⟩=some (.int .i64 y):=by have:=ZY 0 (by omega);simpa[C1] using this
   have hS:∀wx,(w.alloc (.cells #[.int .i64 t.sort,.int .u8 t.letter.toNat,.int .i64 t.value] 258)).grownBy wx none->Calls Tryz.prog 204 #[.slice ta c.terms.length tc,.agg #[.int .i64 t.sort,.int .u8 t.letter.toNat,.int .i64 t.value]] wx fun e w'=>e=.returned (.int .i64 (i:Int))/\wx.grownBy w' none:=by
    intro wx hgx;have:=Q12 _ c.terms t wx 0 ((hc2.1.gr a7).gr hgx);rw[hF] at this;exact this
   clear hm ey hi ht ZY hy hx hv hc2 hF h1 h2;go_enter Tryz.func183,Tryz.ntmps183;go_wp2
   go_region_with (go_at_call 204;refine(hS _ (by repeat (first|exact AD _ _|apply Ah))).mono ?_;rintro e w1⟨rfl,hg1⟩;have hgx:World.grownBy (w.alloc (.cells #[.int .i64 t.sort,.int .u8 t.letter.toNat,.int .i64 t.value] 258)) w1 none:=Ab (by repeat (first|exact AD _ _|apply Ah)) hg1;have x1:=hgx.cell x0 (by simp);have y1:=hgx.cell y0 (by simp))
   all_goals
    go_wp2;go_ret;exact⟨rfl,by repeat (first|exact Ab a7 hgx|apply Ah)⟩
  ·rw[AO h1]
   have td:((t.sort:Int)==1)=false:=by simp;omega
   clear h1 h2;go_enter Tryz.func183,Tryz.ntmps183;go_wp2;go_ret;exact⟨rfl,a7⟩
end Go.Proofs.YtolhbeekfjnfmaaGreatDoor

import Derived.ProofKit
import Derived.Deep.Slices
import Derived.LaidMore
import Derived.LaidHandle
import Derived.Stop.Joined
import Derived.Stop.LaidTwo
import Derived.SizedLaws
import Derived.SevenTiedAt
import Derived.Lib.LaidTab
import Derived.Deep.DeepHandedRow
import Derived.Deep.DeepWitnessRowRef
import Derived.JoinedCond
import Derived.Test.YtolhbeekfjnfmaaGreatDoorA38
import Derived.Test.YtolhbeekfjnfmaaGreatDoorRows
import Derived.Test.YtolhbeekfjnfmaaGreatDoorCards
import Derived.Test.YtolhbeekfjnfmaaGreatDoorTie
set_option maxRecDepth 100000
namespace Go.Proofs.YtolhbeekfjnfmaaGreatDoor
open Go.Proofs.Tryz
open Go.ChangeShapes Go.WideShapes Go.ChangeAt Go.RowKit
open Go.WideMaps Go.WideElems
open Go.ChangeMaps (open_string shut_string)
abbrev IL:=@DataW.trod_int
abbrev KL:=@World.var?_cell
variable {H:Type}{w:World}{spare:Nat->Bool}{held:Bool}{cs:List Value}
theorem Q68:ownKnob prog.godebug=none:=by kernel_rfl
theorem Q66:prog.globalNamed "errors.errorType"=some 1:=by kernel_rfl
theorem Q6g:prog.globalNamed "sieve/rules.ErrText"=some 2:=by kernel_rfl
theorem Q6f:prog.globalNamed "sieve/rules.ErrLimit"=some 0:=by kernel_rfl
theorem Q6B:(prog.globals[2]?).map (·.type)=some 79:=by kernel_rfl
theorem Q69:(prog.globals[0]?).map (·.type)=some 79:=by kernel_rfl
theorem Q6A:(prog.globals[3]?).map (·.type)=some 340:=by kernel_rfl
theorem Q6E:(prog.cutTypes.find? (·.1 == "internal/reflectlite.rtype")).map (·.2)=some 241:=by kernel_rfl
theorem Q6i:((List.range 382).filter λt=>prog.rowNamed t [101,114,114,111,114])=[79]:=by kernel_rfl
theorem Q60:prog.types.size=382:=by kernel_rfl
theorem Q5N:prog.cellsOf 370=1:=by kernel_rfl
theorem Q6d:prog.cellsOf 9=1:=by kernel_rfl
theorem Q5M:prog.cellsOf 309=1:=by kernel_rfl
theorem Q6c:prog.cellsOf 340=20:=by kernel_rfl
theorem Q5v:typeHandle prog 79=.pointer (some ⟨6,79,none⟩):=by kernel_rfl
theorem Q0j:(Rows.laid_internal_strconv_uint64pow10:DataW Unit)=Lib.tabData .u64 Lib.pow10Tab:=by kernel_rfl
def Sl:List (String×DataW Unit):=Rows.growsUptoRow.laid
theorem Zq(os:Os)(args:Array Value):laidMetH prog Sl ((World.doorLaid prog 400 os).forCall (λ_ _=>0) ⟨#[],args,[]⟩).memory:=
 laidMetH_of_parts3 (fuel:=8) (laidMet_of_run' 8 (by kernel_rfl) (by kernel_rfl)) (by kernel_rfl) (by kernel_rfl)
theorem Q5J:("*" ++ "errors.errorString":String)= "*errors.errorString":=by decide +kernel
theorem Q6s(u:TypeId)(h:prog.typeName? 3 u=some "*errors.errorString"):u=345:=
 typeName_ptr_named (nm:= "errors.errorString") (by rw[Q5J];kernel_rfl) (by kernel_rfl) (by decide) u (by rw[Q5J];exact h)
theorem Q2v{W:World}(h:laidMetH prog Sl W):∃aT aL,LD aT aL W/\3<W.heap.size:=by
 have h':laidMet prog [("math/bits.deBruijn32tab",Rows.laid_math_bits_deBruijn32tab),("math/bits.deBruijn64tab",Rows.laid_math_bits_deBruijn64tab),("internal/strconv.uint64pow10",Rows.laid_internal_strconv_uint64pow10),("sieve/rules.ErrText",Rows.laid_sieve_rules_ErrText),("sieve/rules.ErrLimit",Rows.laid_sieve_rules_ErrLimit)] W/\handlesMet prog [("errors.errorType",Rows.laid_errors_errorType)] W:=h;obtain⟨hd,hh⟩:=h';have h3:=hd.tail.tail;have dc:Lib.TabIs prog W "internal/strconv.uint64pow10" .u64 Lib.pow10Tab:=Lib.tabIs_of_head Q1T Q6A underlying340 underlying309 Q5M Q6c (by rw[<-Q0j];exact h3);obtain⟨a0,a1,s0,s1,c0,c1,t0,t1,hv0,aP,hc0,hs0,hz0,hc1,hs1,hz1,hne,hb0,hb1⟩:=laid_sentinels2 h3.tail Q6g Q6B Q6f Q69 underlying79 Q6s underlying345 underlying370 rfl rfl underlying9 Q5N Q6d;obtain⟨name,u,ty,e1,e2,e3,e4,e5⟩:=hh _ (AZ.2 rfl);have en:name=[101,114,114,111,114]:=(JE e1).symm;subst en;obtain rfl:=JE (Q6E.symm.trans e2);have hm:ty∈(List.range 382).filter λt=>prog.rowNamed t [101,114,114,111,114]:=BI.2 ⟨List.mem_range.2 (by rw[<-Q60];exact e3),e4⟩;rw[Q6i]at hm;obtain rfl:=AZ.1 hm;rw[Q5v]at e5;have hpw:3<W.heap.size:=by unfold Lib.TabIs World.var? at dc;rw[Q1T]at dc;simp only[Option.bind_some]at dc;rcases EF 3 W.heap.size with hl|hl;{exact hl};{rw[KU hl]at dc;cases dc}
 exact⟨a0,a1,⟨by simpa using KL Q6g hv0 0,by simpa using KL Q6f aP 0,hne,⟨c0,t0,hb0⟩,⟨c1,t1,hb1⟩,by simpa using KL Q66 e5 0,dc⟩,hpw⟩
theorem Q5V:laidOutB prog=true:=by kernel_rfl
theorem Y5(g o i j:Nat):((⟨g,o,none⟩:Addr).add i).add j=⟨g,o+i+j,none⟩:=by unfold Addr.add;by_cases h1:i=0;{by_cases h2:j=0;{simp[h1,h2]};{simp[h1,h2]}};{by_cases h2:j=0;{simp[h1,h2]};{simp[h1,h2]}}
theorem Pq(w:World)(a:Addr)(v:Value)(h:w.cell? a=some v):a.spot=none:=by unfold World.cell? at h;split at h;{split at h;{cases h};{(rename_i hs);simpa using hs}};{cases h}
theorem Q3Z:prog.cellsOf 76=6:=by kernel_rfl
theorem Q2P:prog.cellsOf 3=1:=by kernel_rfl
theorem Q56:prog.cellsOf 9=1:=by kernel_rfl
theorem Q5t:prog.cellsOf 37=2:=by kernel_rfl
theorem Q5u:prog.cellsOf 35=1:=by kernel_rfl
theorem Wo{n:Int}(h:(Lit.int .i64 n).wf=true):I64 n:=by unfold Lit.wf at h;rw[DU,CT,CT]at h;exact h
theorem Ze{H:Type}(d:DataW H):1<=Rows.uptoBulk d:=by cases d with|lit l=>{cases l<;>simp[Rows.uptoBulk]}|nil=>simp[Rows.uptoBulk]|ptr d=>simp[Rows.uptoBulk]|slice elems spare=>simp[Rows.uptoBulk]|agg parts=>simp[Rows.uptoBulk]|iface t d=>simp[Rows.uptoBulk]|map entries=>simp[Rows.uptoBulk]|held h=>simp[Rows.uptoBulk]
theorem O7{H:Type}{d:DataW H}{l:List (DataW H)}(h:d∈l):Rows.uptoBulk d<=Rows.uptoBulkAll l:=by induction l with|nil=>{cases h}|cons x r ih=>simp only[Rows.uptoBulkAll];rcases CQ.1 h with e|e;{subst e;omega};{have:=ih e;omega}
theorem Rz{H:Type}(l:List (DataW H)):l.length<=Rows.uptoBulkAll l:=by induction l with|nil=>simp[Rows.uptoBulkAll]|cons x r ih=>have:=Ze x;simp only[Rows.uptoBulkAll,AP];omega
theorem Ma(elems spare:List (DataW H)):Rows.uptoBulkAll elems+1<=Rows.uptoBulk (.slice elems spare):=by simp only[Rows.uptoBulk];omega
theorem Ry{d:DataW H}{l:List (DataW H)}(h:d∈l):Rows.uptoBulk d+1<=Rows.uptoBulk (.agg l):=by have:=O7 h;simp only[Rows.uptoBulk];omega
theorem Xn{enc:TypeId×Value->H}{n:Nat}{x:DataW H×List MemPlace}(h:DataW.trod enc prog w 0 spare held n 35 cs=some x):∃(ao:Option Addr) (vals:List Int) (cap:Nat),cs=[.slice ao vals.length cap]/\Q0V (.slice ao vals.length cap) vals w/\(vals≠[]->∀b,(Value.slice ao vals.length cap).ownBlock=some b->b<w.heap.size)/\vals.length<=Rows.uptoBulk x.1:=by rcases Go.Deep.open_slice1 underlying35 Q2P h with ⟨rfl,rfl⟩|⟨a,len,cap,m,n',V,D,Pl,rfl,_,hle,eh,hm,rfl,hel⟩;{exact⟨none,[],0,rfl,.inl ⟨rfl,rfl⟩,λh=>absurd rfl h,AG _⟩};{(have dE:len<=m:=by rw[hm];split<;>omega);(obtain⟨vals,kK,eZ⟩:∃vals:List Int,vals.length=len/\∀i,i<len->∃z,vals[i]?=some z/\V i=.int .i64 z:=by refine⟨(List.range len).map (λi=>match V i with|.int _ z=>z|_=>0),by simp,λi hi=>?_⟩;obtain⟨z,hz,_⟩:=IL underlying3 (hel i (by omega)).2;simp only[GN,CA]at hz;refine⟨z,?_,hz⟩;rw[BR,List.getElem?_range hi];simp[hz]);(have mn:0<len->a.spot=none:=by intro h0;obtain⟨z,h1,h2⟩:=eZ 0 h0;have h3:=(hel 0 (by omega)).1;rw[h2]at h3;have hsp:=Pq w _ _ h3;simpa[Addr.add]using hsp);(have hcell:∀i,i<len->∃z,vals[i]?=some z/\a.spot=none/\w.cell? ⟨a.block,a.off+i,none⟩=some (.int .i64 z):=by intro i hi;obtain⟨z,h1,h2⟩:=eZ i hi;have h3:=(hel i (by omega)).1;rw[h2]at h3;have mn:=mn (by omega);obtain⟨g,off,sp⟩:=a;simp only at mn;subst mn;(have e:(⟨g,off,none⟩:Addr).add i=⟨g,off+i,none⟩:=by unfold Addr.add;by_cases jZ:i=0;{simp[jZ]};{simp[jZ]});rw[e]at h3;exact⟨z,h1,rfl,h3⟩);refine⟨some a,vals,cap,by rw[kK],?_,λhne b hb=>?_,?_⟩;{refine .inr ⟨a,cap,rfl,by rw[kK];omega,λi z hz=>?_⟩;(have dN:i<len:=by rw[<-kK];exact(AK.1 hz).1);obtain⟨z',h1,h2,h3⟩:=hcell i dN;rw[hz]at h1;simp only[AE]at h1;subst h1;obtain⟨g,off,sp⟩:=a;simp only at h2;subst h2;exact⟨g,off,rfl,h3⟩};{(have hl0:0<len:=by rw[<-kK];exact JN.2 hne);(obtain⟨z,_,_,h3⟩:=hcell 0 hl0;have:=CL w _ h3;have e:a.block=b:=by simpa[Value.ownBlock]using hb);rw[<-e];exact this};{rw[kK];have h1:=Ma ((List.range len).map D) ((List.range (m-len)).map λj=>D (len+j));have h2:=Rz ((List.range len).map D);rw[AY,List.length_range]at h2;show len<=Rows.uptoBulk (.slice ((List.range len).map D) ((List.range (m-len)).map λj=>D (len+j)));omega}}
theorem Q0e{H:Type}{enc:TypeId×Value->H}{w:World}{spare:Nat->Bool}{held:Bool}{n:Nat}{cs:List Value}{x:DataW H×List MemPlace}(h:DataW.trod enc prog w 0 spare held n 76 cs=some x):∃(q m:Int) (s:ByteArray) (f:Q0E) (bN:Option Addr) (fc:Nat) (a:Int),cs=[.int .i64 q,.int .i64 m,.string s,.int .i64 f.kind,.slice bN f.vals.length fc,.int .i64 a]/\s.size<=maxLen/\(I64 m/\I64 a)/\Q0V (.slice bN f.vals.length fc) f.vals w/\(f.vals≠[]->∀b,(Value.slice bN f.vals.length fc).ownBlock=some b->b<w.heap.size)/\f.vals.length<=Rows.uptoBulk x.1:=by
 obtain⟨xs,n1,_,hxx,hl,hlen,hf⟩:=DataW.trod_struct underlying76 h;rw[Q3Z]at hl
 match cs,hl with
 |[c0,c1,c2,c3,c4,c5],_=>
  match xs,hlen with
  |[y0,y1,y2,y3,y4],_=>
   have g0:DataW.trod enc prog w 0 spare held n1 3 ((([c0,c1,c2,c3,c4,c5]:List Value).drop 0).take (prog.cellsOf 3))=some y0:=hf 0 _ rfl;have g1:DataW.trod enc prog w 0 spare held n1 3 ((([c0,c1,c2,c3,c4,c5]:List Value).drop 1).take (prog.cellsOf 3))=some y1:=hf 1 _ rfl;have g2:DataW.trod enc prog w 0 spare held n1 9 ((([c0,c1,c2,c3,c4,c5]:List Value).drop 2).take (prog.cellsOf 9))=some y2:=hf 2 _ rfl;have g3:DataW.trod enc prog w 0 spare held n1 37 ((([c0,c1,c2,c3,c4,c5]:List Value).drop 3).take (prog.cellsOf 37))=some y3:=hf 3 _ rfl;have g4:DataW.trod enc prog w 0 spare held n1 3 ((([c0,c1,c2,c3,c4,c5]:List Value).drop 5).take (prog.cellsOf 3))=some y4:=hf 4 _ rfl;rw[Q2P]at g0 g1 g4;rw[Q56]at g2;rw[Q5t]at g3;obtain⟨q,hq,_⟩:=IL underlying3 g0;obtain⟨m,hm,_,MX⟩:=IL underlying3 g1;obtain⟨s,hs,_,hsz⟩:=DataW.trod_string underlying9 g2;obtain⟨a,ha,_,haw⟩:=IL underlying3 g4;obtain⟨ys,n2,_,hyy,hl2,jG,hf2⟩:=DataW.trod_struct underlying37 g3
   match ys,jG with
   |[z0,z1],_=>
    have k0:DataW.trod enc prog w 0 spare held n2 3 (((([c0,c1,c2,c3,c4,c5]:List Value).drop 3).take 2).drop 0 |>.take (prog.cellsOf 3))=some z0:=hf2 0 _ rfl;have k1:DataW.trod enc prog w 0 spare held n2 35 (((([c0,c1,c2,c3,c4,c5]:List Value).drop 3).take 2).drop 1 |>.take (prog.cellsOf 35))=some z1:=hf2 1 _ rfl;rw[Q2P]at k0;rw[Q5u]at k1;obtain⟨fk,hk,_⟩:=IL underlying3 k0;obtain⟨bN,vals,fc,hc4,hin,hlt,aD⟩:=Xn k1;simp at hq hm hs ha hk hc4;subst hq hm hs ha hk hc4;refine⟨q,m,s,⟨fk,vals⟩,bN,fc,a,rfl,hsz,⟨Wo MX,Wo haw⟩,hin,hlt,?_⟩;have b1:Rows.uptoBulk z1.1+1<=Rows.uptoBulk y3.1:=by rw[hyy];exact Ry (by simp)
    have b2:Rows.uptoBulk y3.1+1<=Rows.uptoBulk x.1:=by rw[hxx];exact Ry (by simp)
    show vals.length<=_;omega
theorem Xr{enc:TypeId×Value->H}{fuel:Nat}{x:DataW H×List MemPlace}(h:DataW.trod enc prog w 0 spare held fuel 22 cs=some x)(hb:Rows.uptoBulk x.1<=1048576):∃ao len cap,cs=[.slice ao len cap]/\Q41 ao len w/\len<=1048576:=by rcases Go.Deep.open_slice underlying22 h with ⟨rfl,_⟩|⟨a,len,cap,m,n,D,Pl,rfl,_,hle,eh,hm,hx,hel⟩;{exact⟨none,0,0,rfl,λk hk=>by omega,AG _⟩};{(have cN:len<=m:=by rw[hm];split<;>omega);(have hx1:x.1=.slice ((List.range len).map D) ((List.range (m-len)).map λj=>D (len+j)):=by rw[hx]);have hs1:=Ma ((List.range len).map D) ((List.range (m-len)).map λj=>D (len+j));have hs2:=Rz ((List.range len).map D);rw[<-hx1]at hs1;rw[AY,List.length_range]at hs2;refine⟨some a,len,cap,rfl,?_,by omega⟩;(have key:∀i,i<len->∃(q n:Int) (s:ByteArray) (f:Q0E) (bN:Option Addr) (fc:Nat) (z:Int),s.size<=maxLen/\(I64 n/\I64 z)/\Q0V (.slice bN f.vals.length fc) f.vals w/\(f.vals≠[]->∀b,(Value.slice bN f.vals.length fc).ownBlock=some b->b<w.heap.size)/\f.vals.length<=1048576/\∀j,j<6->w.cell? ((a.add (i*6)).add j)=([.int .i64 q,.int .i64 n,.string s,.int .i64 f.kind,.slice bN f.vals.length fc,.int .i64 z]:List Value)[j]?:=by intro i hi;obtain⟨cs',h1,h2⟩:=hel i (by omega);obtain⟨q,m2,s,f,bN,fc,z,rfl,hsz,nB,hin,hlt,aD⟩:=Q0e h2;rw[Q3Z]at h1;unfold World.cells? at h1;rw[AQ (AG _)]at h1;have hD:Rows.uptoBulk (D i)<=Rows.uptoBulkAll ((List.range len).map D):=O7 (CC.2 ⟨i,List.mem_range.2 hi,rfl⟩);refine⟨q,m2,s,f,bN,fc,z,hsz,nB,hin,hlt,?_,λj hj=>?_⟩;{have hbk2:f.vals.length<=Rows.uptoBulk (D i):=aD;omega};{exact mapM_some_get h1 j j (by simp[hj])});(intro k hk;obtain⟨_,_,_,_,_,_,_,_,_,_,_,_,h0⟩:=key 0 (by omega);have h00:=h0 0 (by omega);have hsp:=Pq w _ _ h00;have mn:a.spot=none:=by simpa[Addr.add]using hsp);(obtain⟨g,off,sp⟩:=a;simp only at mn;subst mn;obtain⟨q,n,s,f,bN,fc,z,hsz,nB,hin,hlt,aD,hc⟩:=key k hk;refine⟨g,off,q,n,s,f,bN,fc,z,rfl,hsz,nB,?_,hin,hlt,aD⟩;have hc':=λj hj=>by have:=hc j hj;rw[Y5]at this;exact this);exact⟨hc' 0 (by omega),hc' 1 (by omega),hc' 2 (by omega),hc' 3 (by omega),hc' 4 (by omega),hc' 5 (by omega)⟩}
end Go.Proofs.YtolhbeekfjnfmaaGreatDoor
namespace Go.Proofs.YtolhbeekfjnfmaaGreatDoor
open Go.Proofs.Tryz
variable {H:Type}{w:World}{spare:Nat->Bool}{held:Bool}{cs:List Value}
def Gl(f:Ft):Nat->List Nd->En->List Nd×En
 |_,[],e=>([],e)
 |0,n::ns,e=>((Ay f n ns e).1::(Ay f n ns e).2.1,(Ay f n ns e).2.2)
 |p+1,n::ns,e=>(n::(Gl f p ns e).1,(Gl f p ns e).2)
def A7(f:Ft):Nat->List Nd->En->List Nd×En
 |0,ns,e=>Ca f ns e
 |_+1,[],e=>([],e)
 |j+1,n::ns,e=>(n::(A7 f j ns e).1,(A7 f j ns e).2)
theorem Gm(f:Ft):∀(ns:List Nd) (e:En),A7 f ns.length ns e=(ns,e)
 |[],e=>by simp[A7,Ca]
 |n::ns,e=>by
  show A7 f (ns.length+1) (n::ns) e=(n::ns,e)
  unfold A7;rw[Gm f ns e]
theorem Gn(f:Ft):∀(j:Nat) (ns:List Nd) (e:En),j<ns.length->A7 f j ns e=Gl f j (A7 f (j+1) ns e).1 (A7 f (j+1) ns e).2
 |_,[],_,h=>by simp at h
 |0,n::ns,e,_=>by simp[A7,Ca,Gl]
 |j+1,n::ns,e,h=>by
  have ih:=Gn f j ns e (by simpa using h);rw[A7,ih];simp only[A7,Gl]
theorem Hi(f:Ft)(n:Nd)(ns:List Nd)(e:En):(Ay f n ns e).2.1.length=ns.length:=by unfold Ay;split;{split;{exact Cv _ _ _ _};{rfl}};{rfl}
theorem G3(f:Ft):∀(ns:List Nd) (e:En),(Ca f ns e).1.length=ns.length
 |[],_=>rfl
 |n::ns,e=>by unfold Ca;simp[Hi,G3 f ns e]
theorem K8(f:Ft):∀(j:Nat) (ns:List Nd) (e:En),(A7 f j ns e).1.length=ns.length
 |0,ns,e=>by unfold A7;exact G3 f ns e
 |_+1,[],_=>by unfold A7;rfl
 |j+1,n::ns,e=>by unfold A7;simp[K8 f j ns e]
theorem K6(f:Ft):∀(j:Nat) (ns:List Nd) (e:En) (n:Nd),ns[j]?=some n->(A7 f (j+1) ns e).1[j]?=some n
 |_,[],_,_,h=>by simp at h
 |0,m::ns,e,n,h=>by simp[A7];simpa using h
 |j+1,m::ns,e,n,h=>by
  rw[A7];simpa using K6 f j ns e n (by simpa using h)
theorem Bd.delStep{κ c:Nat}{n:Nd}{ns:List Nd}{e:En}{f:Ft}(hk:κ<=20)(h:Bd κ c (n::ns) e):Bd κ (2*c) ((Ay f n ns e).1::(Ay f n ns e).2.1) (Ay f n ns e).2.2:=by obtain⟨h1,h2,h3⟩:=h;unfold Ay;split;{refine⟨by show (n.K.filter _).length<=_;exact AU (CR _ _) h1,by show n.toks.length<=_;omega,?_⟩;split;{have:=Bd.arr hk h3 (ts:=n.toks.filter (λt=>Cp n.links t f.f && !(n.less f).K.any (λg=>Cp n.links t g.f))) (t:=c) (AU (CR _ _) h2);exact this.mono (AX _) (by omega)};{exact h3.mono (AX _) (by omega)}};{exact⟨h1,by show n.toks.length<=_;omega,h3.mono (AX _) (by omega)⟩}
theorem Bd.delAt{κ:Nat}{f:Ft}(hk:κ<=20):∀(p:Nat) {ns:List Nd} {c:Nat} {e:En},Bd κ c ns e->Bd κ (2*c) (Gl f p ns e).1 (Gl f p ns e).2
 |_,[],_,e,h=>by unfold Gl;exact⟨by show e.toks.length<=_;have:=h.1;omega,by show e.wait.length<=_;have:=h.2;omega⟩
 |0,n::ns,c,e,h=>by unfold Gl;exact h.delStep hk
 |p+1,n::ns,c,e,h=>by
  unfold Gl;have ih:=Bd.delAt (f:=f) hk p h.2.2;exact⟨h.1,by have:=h.2.1;omega,by rw[FP];exact ih⟩
end Go.Proofs.YtolhbeekfjnfmaaGreatDoor

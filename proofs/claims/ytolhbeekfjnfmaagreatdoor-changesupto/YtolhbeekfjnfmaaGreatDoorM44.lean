import Derived.ProofKit
import Derived.Deep.Slices
import Derived.LaidMore
import Derived.LaidHandle
import Derived.Stop.Joined
import Derived.Stop.LaidTwo
import Derived.SizedLaws
import Derived.SevenTiedAt
import Derived.Lib.LaidTab
import Derived.Deep.DeepHandedRow
import Derived.Deep.DeepWitnessRowRef
import Derived.JoinedCond
import Derived.Test.YtolhbeekfjnfmaaGreatDoorM40
import Derived.Test.YtolhbeekfjnfmaaGreatDoorRows
import Derived.Test.YtolhbeekfjnfmaaGreatDoorCards
import Derived.Test.YtolhbeekfjnfmaaGreatDoorTie
set_option maxHeartbeats 8000000
set_option maxRecDepth 100000
namespace Go.Proofs.YtolhbeekfjnfmaaGreatDoor
open Go.ChangeShapes Go.WideShapes Go.ChangeAt Go.RowKit
open Go.WideMaps Go.WideElems
open Go.ChangeMaps (open_string shut_string)
abbrev IE:=@DataW.trod_int
abbrev KE:=@World.var?_cell
variable {H:Type}{w:World}{spare:Nat->Bool}{held:Bool}{n g cap:Nat}{cs:List Value}{l:List Int}
theorem Tryz.own:ownKnob Tryz.prog.godebug=none:=by kernel_rfl
theorem Tryz.gEt:Tryz.prog.globalNamed "errors.errorType"=some 1:=by kernel_rfl
theorem Tryz.gTx:Tryz.prog.globalNamed "sieve/rules.ErrText"=some 2:=by kernel_rfl
theorem Tryz.gLm:Tryz.prog.globalNamed "sieve/rules.ErrLimit"=some 0:=by kernel_rfl
theorem Tryz.tTx:(Tryz.prog.globals[2]?).map (·.type)=some 79:=by kernel_rfl
theorem Tryz.tLm:(Tryz.prog.globals[0]?).map (·.type)=some 79:=by kernel_rfl
theorem Tryz.tPw:(Tryz.prog.globals[3]?).map (·.type)=some 340:=by kernel_rfl
theorem Tryz.rt:(Tryz.prog.cutTypes.find? (·.1 == "internal/reflectlite.rtype")).map (·.2)=some 241:=by kernel_rfl
theorem Tryz.oneRow:((List.range 382).filter fun t=>Tryz.prog.rowNamed t [101,114,114,111,114])=[79]:=by kernel_rfl
theorem Tryz.size:Tryz.prog.types.size=382:=by kernel_rfl
theorem Tryz.cellsES:Tryz.prog.cellsOf 370=1:=by kernel_rfl
theorem Tryz.cellsS:Tryz.prog.cellsOf 9=1:=by kernel_rfl
theorem Tryz.cells64:Tryz.prog.cellsOf 309=1:=by kernel_rfl
theorem Tryz.cellsA:Tryz.prog.cellsOf 340=20:=by kernel_rfl
theorem Tryz.handleErr:typeHandle Tryz.prog 79=.pointer (some ⟨6,79,none⟩):=by kernel_rfl
theorem Zz:(Rows.laid_internal_strconv_uint64pow10:DataW Unit)=Lib.tabData .u64 Lib.pow10Tab:=by kernel_rfl
def R3:List (String×DataW Unit):=Rows.growsUptoRow.laid
theorem Y8(os:Os)(args:Array Value):laidMetH Tryz.prog R3 ((World.doorLaid Tryz.prog 400 os).forCall (fun _ _=>0) ⟨#[],args,[]⟩).memory:=
 laidMetH_of_parts3 (fuel:=8) (laidMet_of_run' 8 (by kernel_rfl) (by kernel_rfl)) (by kernel_rfl) (by kernel_rfl)
theorem Tryz.star:("*" ++ "errors.errorString":String)= "*errors.errorString":=by decide +kernel
theorem Tryz.rowES(u:TypeId)(h:Tryz.prog.typeName? 3 u=some "*errors.errorString"):u=345:=
 typeName_ptr_named (nm:= "errors.errorString") (by rw[Tryz.star];kernel_rfl) (by kernel_rfl) (by decide) u (by rw[Tryz.star];exact h)
theorem Q2b{W:World}(h:laidMetH Tryz.prog R3 W):∃aT aL,LD aT aL W/\3<W.heap.size:=by
 have h':laidMet Tryz.prog [("math/bits.deBruijn32tab",Rows.laid_math_bits_deBruijn32tab),("math/bits.deBruijn64tab",Rows.laid_math_bits_deBruijn64tab),("internal/strconv.uint64pow10",Rows.laid_internal_strconv_uint64pow10),("sieve/rules.ErrText",Rows.laid_sieve_rules_ErrText),("sieve/rules.ErrLimit",Rows.laid_sieve_rules_ErrLimit)] W/\handlesMet Tryz.prog [("errors.errorType",Rows.laid_errors_errorType)] W:=h;obtain⟨hd,hh⟩:=h';have h3:=hd.tail.tail;have dU:Lib.TabIs Tryz.prog W "internal/strconv.uint64pow10" .u64 Lib.pow10Tab:=Lib.tabIs_of_head Tryz.powIs Tryz.tPw Tryz.underlying340 Tryz.underlying309 Tryz.cells64 Tryz.cellsA (by rw[<-Zz];exact h3);obtain⟨a0,a1,s0,s1,c0,c1,t0,t1,hv0,aS,hc0,hs0,hz0,hc1,hs1,hz1,hne,hb0,hb1⟩:=laid_sentinels2 h3.tail Tryz.gTx Tryz.tTx Tryz.gLm Tryz.tLm Tryz.underlying79 Tryz.rowES Tryz.underlying345 Tryz.underlying370 rfl rfl Tryz.underlying9 Tryz.cellsES Tryz.cellsS;obtain⟨name,u,ty,e1,e2,e3,e4,e5⟩:=hh _ (AX.2 rfl);have en:name=[101,114,114,111,114]:=(JA e1).symm;subst en;obtain rfl:=JA (Tryz.rt.symm.trans e2);have hm:ty∈(List.range 382).filter fun t=>Tryz.prog.rowNamed t [101,114,114,111,114]:=BH.2 ⟨List.mem_range.2 (by rw[<-Tryz.size];exact e3),e4⟩
 rw[Tryz.oneRow] at hm;obtain rfl:=AX.1 hm;rw[Tryz.handleErr] at e5
 have hpw:3<W.heap.size:=by
  unfold Lib.TabIs World.var? at dU;rw[Tryz.powIs] at dU;simp only[Option.bind_some] at dU;rcases FL 3 W.heap.size with hl|hl
  ·exact hl
  ·rw[KP hl] at dU;cases dU
 exact⟨a0,a1,⟨by simpa using KE Tryz.gTx hv0 0,by simpa using KE Tryz.gLm aS 0,hne,⟨c0,t0,hb0⟩,⟨c1,t1,hb1⟩,by simpa using KE Tryz.gEt e5 0,dU⟩,hpw⟩
theorem Tryz.laidOut:laidOutB Tryz.prog=true:=by kernel_rfl
theorem Yp(g o i j:Nat):((⟨g,o,none⟩:Addr).add i).add j=⟨g,o+i+j,none⟩:=by
 unfold Addr.add;by_cases h1:i=0
 ·by_cases h2:j=0
  ·simp[h1,h2]
  ·simp[h1,h2]
 ·by_cases h2:j=0
  ·simp[h1,h2]
  ·simp[h1,h2]
theorem Pc(w:World)(a:Addr)(v:Value)(h:w.cell? a=some v):a.spot=none:=by
 unfold World.cell? at h;split at h
 ·split at h
  ·cases h
  ·rename_i hs
   simpa using hs
 ·cases h
theorem Tryz.cellsOp:Tryz.prog.cellsOf 76=6:=by kernel_rfl
theorem Tryz.cellsInt:Tryz.prog.cellsOf 3=1:=by kernel_rfl
theorem Tryz.cellsStr:Tryz.prog.cellsOf 9=1:=by kernel_rfl
theorem Tryz.cellsFact:Tryz.prog.cellsOf 37=2:=by kernel_rfl
theorem Tryz.cellsInts:Tryz.prog.cellsOf 35=1:=by kernel_rfl
theorem Wb{n:Int}(h:(Lit.int .i64 n).wf=true):I64 n:=by
 unfold Lit.wf at h;rw[EA,DF,DF] at h;exact h
theorem Yw{H:Type}(d:DataW H):1<=Rows.uptoBulk d:=by
 cases d with
 | lit l=>cases l<;>simp[Rows.uptoBulk]
 | nil=>simp[Rows.uptoBulk]
 | ptr d=>simp[Rows.uptoBulk]
 | slice elems spare=>simp[Rows.uptoBulk]
 | agg parts=>simp[Rows.uptoBulk]
 | iface t d=>simp[Rows.uptoBulk]
 | map entries=>simp[Rows.uptoBulk]
 | held h=>simp[Rows.uptoBulk]
theorem Or{H:Type}{d:DataW H}{l:List (DataW H)}(h:d∈l):Rows.uptoBulk d<=Rows.uptoBulkAll l:=by
 induction l with
 | nil=>cases h
 | cons x r ih=>
  simp only[Rows.uptoBulkAll];rcases CQ.1 h with e|e
  ·subst e;omega
  ·have:=ih e;omega
theorem Ri{H:Type}(l:List (DataW H)):l.length<=Rows.uptoBulkAll l:=by
 induction l with
 | nil=>simp[Rows.uptoBulkAll]
 | cons x r ih=>have:=Yw x;simp only[Rows.uptoBulkAll,AP];omega
theorem L0(elems spare:List (DataW H)):Rows.uptoBulkAll elems+1<=Rows.uptoBulk (.slice elems spare):=by
 simp only[Rows.uptoBulk];omega
theorem Rh{d:DataW H}{l:List (DataW H)}(h:d∈l):Rows.uptoBulk d+1<=Rows.uptoBulk (.agg l):=by
 have:=Or h;simp only[Rows.uptoBulk];omega
theorem W9{enc:TypeId×Value->H}{x:DataW H×List MemPlace}(h:DataW.trod enc Tryz.prog w 0 spare held n 35 cs=some x) :
  ∃(ao:Option Addr) (vals:List Int) (cap:Nat),cs=[.slice ao vals.length cap]/\InAt (.slice ao vals.length cap) vals w/\(vals≠[]->∀b,(Value.slice ao vals.length cap).ownBlock=some b->b<w.heap.size)/\vals.length<=Rows.uptoBulk x.1:=by
 rcases Go.Deep.open_slice1 Tryz.underlying35 Tryz.cellsInt h with ⟨rfl,rfl⟩|⟨a,len,cap,m,n',V,D,Pl,rfl,_,hle,ew,hm,rfl,hel⟩
 ·exact⟨none,[],0,rfl,.inl ⟨rfl,rfl⟩,fun h=>absurd rfl h,AG _⟩
 ·have cj:len<=m:=by rw[hm];split<;>omega
  obtain⟨vals,jm,eQ⟩:∃vals:List Int,vals.length=len/\∀i,i<len->∃z,vals[i]?=some z/\V i=.int .i64 z:=by
   refine⟨(List.range len).map (fun i=>match V i with | .int _ z=>z|_=>0),by simp,fun i hi=>?_⟩;obtain⟨z,hz,_⟩:=IE Tryz.underlying3 (hel i (by omega)).2;simp only[GX,BX] at hz;refine⟨z,?_,hz⟩;rw[BR,List.getElem?_range hi];simp[hz]
  have lZ:0<len->a.spot=none:=by
   intro h0;obtain⟨z,h1,h2⟩:=eQ 0 h0;have h3:=(hel 0 (by omega)).1;rw[h2] at h3;have hsp:=Pc w _ _ h3;simpa[Addr.add] using hsp
  have hcell:∀i,i<len->∃z,vals[i]?=some z/\a.spot=none/\w.cell? ⟨a.block,a.off+i,none⟩=some (.int .i64 z):=by
   intro i hi;obtain⟨z,h1,h2⟩:=eQ i hi;have h3:=(hel i (by omega)).1;rw[h2] at h3;have lZ:=lZ (by omega);obtain⟨g,off,sp⟩:=a;simp only at lZ;subst lZ
   have e:(⟨g,off,none⟩:Addr).add i=⟨g,off+i,none⟩:=by
    unfold Addr.add;by_cases pZ:i=0
    ·simp[pZ]
    ·simp[pZ]
   rw[e] at h3;exact⟨z,h1,rfl,h3⟩
  refine⟨some a,vals,cap,by rw[jm],?_,fun hne b hb=>?_,?_⟩
  ·refine .inr ⟨a,cap,rfl,by rw[jm];omega,fun i z hz=>?_⟩
   have eE:i<len:=by rw[<-jm];exact(AL.1 hz).1
   obtain⟨z',h1,h2,h3⟩:=hcell i eE;rw[hz] at h1;simp only[AE] at h1;subst h1;obtain⟨g,off,sp⟩:=a;simp only at h2;subst h2;exact⟨g,off,rfl,h3⟩
  ·have hl0:0<len:=by rw[<-jm];exact List.length_pos_iff.2 hne
   obtain⟨z,_,_,h3⟩:=hcell 0 hl0;have:=CD w _ h3;have e:a.block=b:=by simpa[Value.ownBlock] using hb
   rw[<-e];exact this
  ·rw[jm]
   have h1:=L0 ((List.range len).map D) ((List.range (m-len)).map fun j=>D (len+j));have h2:=Ri ((List.range len).map D);rw[BA,List.length_range] at h2;show len<=Rows.uptoBulk (.slice ((List.range len).map D) ((List.range (m-len)).map fun j=>D (len+j)))
   omega
theorem Zu{H:Type}{enc:TypeId×Value->H}{w:World}{spare:Nat->Bool}{held:Bool}{n:Nat}{cs:List Value}{x:DataW H×List MemPlace}(h:DataW.trod enc Tryz.prog w 0 spare held n 76 cs=some x) :
  ∃(q m:Int) (s:ByteArray) (f:Sv.Fact) (bH:Option Addr) (fc:Nat) (a:Int),cs=[.int .i64 q,.int .i64 m,.string s,.int .i64 f.kind,.slice bH f.vals.length fc,.int .i64 a]/\s.size<=maxLen/\(I64 m/\I64 a)/\InAt (.slice bH f.vals.length fc) f.vals w/\(f.vals≠[]->∀b,(Value.slice bH f.vals.length fc).ownBlock=some b->b<w.heap.size)/\f.vals.length<=Rows.uptoBulk x.1:=by
 obtain⟨xs,n1,_,YK,hl,hlen,hf⟩:=DataW.trod_struct Tryz.underlying76 h;rw[Tryz.cellsOp] at hl
 match cs,hl with
 | [c0,c1,c2,c3,c4,c5],_=>
  match xs,hlen with
  | [y0,y1,y2,y3,y4],_=>
   have g0:DataW.trod enc Tryz.prog w 0 spare held n1 3 ((([c0,c1,c2,c3,c4,c5]:List Value).drop 0).take (Tryz.prog.cellsOf 3))=some y0:=hf 0 _ rfl;have g1:DataW.trod enc Tryz.prog w 0 spare held n1 3 ((([c0,c1,c2,c3,c4,c5]:List Value).drop 1).take (Tryz.prog.cellsOf 3))=some y1:=hf 1 _ rfl;have g2:DataW.trod enc Tryz.prog w 0 spare held n1 9 ((([c0,c1,c2,c3,c4,c5]:List Value).drop 2).take (Tryz.prog.cellsOf 9))=some y2:=hf 2 _ rfl;have g3:DataW.trod enc Tryz.prog w 0 spare held n1 37 ((([c0,c1,c2,c3,c4,c5]:List Value).drop 3).take (Tryz.prog.cellsOf 37))=some y3:=hf 3 _ rfl;have g4:DataW.trod enc Tryz.prog w 0 spare held n1 3 ((([c0,c1,c2,c3,c4,c5]:List Value).drop 5).take (Tryz.prog.cellsOf 3))=some y4:=hf 4 _ rfl;rw[Tryz.cellsInt] at g0 g1 g4;rw[Tryz.cellsStr] at g2;rw[Tryz.cellsFact] at g3;obtain⟨q,hq,_⟩:=IE Tryz.underlying3 g0;obtain⟨m,hm,_,zB⟩:=IE Tryz.underlying3 g1;obtain⟨s,hs,_,hsz⟩:=DataW.trod_string Tryz.underlying9 g2;obtain⟨a,ha,_,haw⟩:=IE Tryz.underlying3 g4;obtain⟨ys,n2,_,hyy,hl2,ij,hf2⟩:=DataW.trod_struct Tryz.underlying37 g3
   match ys,ij with
   | [z0,z1],_=>
    have k0:DataW.trod enc Tryz.prog w 0 spare held n2 3 (((([c0,c1,c2,c3,c4,c5]:List Value).drop 3).take 2).drop 0 |>.take (Tryz.prog.cellsOf 3))=some z0:=hf2 0 _ rfl;have k1:DataW.trod enc Tryz.prog w 0 spare held n2 35 (((([c0,c1,c2,c3,c4,c5]:List Value).drop 3).take 2).drop 1 |>.take (Tryz.prog.cellsOf 35))=some z1:=hf2 1 _ rfl;rw[Tryz.cellsInt] at k0;rw[Tryz.cellsInts] at k1;obtain⟨fk,hk,_⟩:=IE Tryz.underlying3 k0;obtain⟨bH,vals,fc,hc4,hin,hlt,aH⟩:=W9 k1;simp at hq hm hs ha hk hc4;subst hq hm hs ha hk hc4;refine⟨q,m,s,⟨fk,vals⟩,bH,fc,a,rfl,hsz,⟨Wb zB,Wb haw⟩,hin,hlt,?_⟩;have b1:Rows.uptoBulk z1.1+1<=Rows.uptoBulk y3.1:=by rw[hyy];exact Rh (by simp)
    have b2:Rows.uptoBulk y3.1+1<=Rows.uptoBulk x.1:=by rw[YK];exact Rh (by simp)
    show vals.length<=_
    omega
theorem Xd{enc:TypeId×Value->H}{fuel:Nat}{x:DataW H×List MemPlace}(h:DataW.trod enc Tryz.prog w 0 spare held fuel 22 cs=some x)(hb:Rows.uptoBulk x.1<=1048576) :
  ∃ao len cap,cs=[.slice ao len cap]/\Q4k ao len w/\len<=1048576:=by
 rcases Go.Deep.open_slice Tryz.underlying22 h with ⟨rfl,_⟩|⟨a,len,cap,m,n,D,Pl,rfl,_,hle,ew,hm,hx,hel⟩
 ·exact⟨none,0,0,rfl,fun k hk=>by omega,AG _⟩
 ·have cG:len<=m:=by rw[hm];split<;>omega
  have hx1:x.1=.slice ((List.range len).map D) ((List.range (m-len)).map fun j=>D (len+j)):=by rw[hx]
  have hs1:=L0 ((List.range len).map D) ((List.range (m-len)).map fun j=>D (len+j));have hs2:=Ri ((List.range len).map D);rw[<-hx1] at hs1;rw[BA,List.length_range] at hs2;refine⟨some a,len,cap,rfl,?_,by omega⟩
  have key:∀i,i<len->∃(q n:Int) (s:ByteArray) (f:Sv.Fact) (bH:Option Addr) (fc:Nat) (z:Int),s.size<=maxLen/\(I64 n/\I64 z)/\InAt (.slice bH f.vals.length fc) f.vals w/\(f.vals≠[]->∀b,(Value.slice bH f.vals.length fc).ownBlock=some b->b<w.heap.size)/\f.vals.length<=1048576/\∀j,j<6->w.cell? ((a.add (i*6)).add j)=([.int .i64 q,.int .i64 n,.string s,.int .i64 f.kind,.slice bH f.vals.length fc,.int .i64 z]:List Value)[j]?:=by
   intro i hi;obtain⟨cs',h1,h2⟩:=hel i (by omega);obtain⟨q,m2,s,f,bH,fc,z,rfl,hsz,oA,hin,hlt,aH⟩:=Zu h2;rw[Tryz.cellsOp] at h1;unfold World.cells? at h1;rw[AQ (AG _)] at h1;have hD:Rows.uptoBulk (D i)<=Rows.uptoBulkAll ((List.range len).map D):=Or (CJ.2 ⟨i,List.mem_range.2 hi,rfl⟩);refine⟨q,m2,s,f,bH,fc,z,hsz,oA,hin,hlt,?_,fun j hj=>?_⟩
   ·have hbk2:f.vals.length<=Rows.uptoBulk (D i):=aH
    omega
   ·exact mapM_some_get h1 j j (by simp[hj])
  intro k hk;obtain⟨_,_,_,_,_,_,_,_,_,_,_,_,h0⟩:=key 0 (by omega);have h00:=h0 0 (by omega);have hsp:=Pc w _ _ h00;have lZ:a.spot=none:=by simpa[Addr.add] using hsp
  obtain⟨g,off,sp⟩:=a;simp only at lZ;subst lZ;obtain⟨q,n,s,f,bH,fc,z,hsz,oA,hin,hlt,aH,hc⟩:=key k hk;refine⟨g,off,q,n,s,f,bH,fc,z,rfl,hsz,oA,?_,hin,hlt,aH⟩;have hc':=fun j hj=>by have:=hc j hj;rw[Yp] at this;exact this
  exact⟨hc' 0 (by omega),hc' 1 (by omega),hc' 2 (by omega),hc' 3 (by omega),hc' 4 (by omega),hc' 5 (by omega)⟩
end Go.Proofs.YtolhbeekfjnfmaaGreatDoor
namespace Go.Proofs.YtolhbeekfjnfmaaGreatDoor
open Go.RowKit
variable {H:Type}{w:World}{spare:Nat->Bool}{held:Bool}{n g cap:Nat}{cs:List Value}{l:List Int}
theorem Id(x:Int):∀(o:List Int) (a:Nat),(∀(j:Nat) (y:Int),j<a->o[j]?=some y->x<=y)->a<=o.length->(∀y,o[a]?=some y->y<x)->D8 x o=o.take a++x::o.drop a
 | [],a,_,h,_=>by
  have:a=0:=by simpa using h
  subst this;rfl
 | y::o,0,_,_,h=>by
  unfold D8;rw[AO (by have:=h y rfl;omega)];rfl
 | y::o,a+1,h1,h2,h3=>by
  unfold D8;rw[AQ (h1 0 y (by omega) rfl),Id x o a (fun j z hj hz=>h1 (j+1) z (by omega) (by rw[BS];exact hz)) (by simpa using h2) (fun z hz=>h3 z (by rw[BS];exact hz))];rfl
theorem N8{i:Nat}{x:Int}(h:l[i]?=some x):Bm (l.take (i+1))=D8 x (Bm (l.take i)):=by
 unfold Bm Hg;rw[CZ,h,List.foldl_append];rfl
theorem Nm{base:Nat}{v:Value}(h:IsAt base v l w){k:Nat}{z:Int}(hk:l[k]?=some z):∃g cap,v=.slice (some ⟨g,0,none⟩) l.length cap/\w.cell? ⟨g,k,none⟩=some (.int .i64 z):=by
 obtain⟨g,cap,h1,h2⟩:=RowAt.cells h hk;have:=h2 0 (by omega);rw[FB,EG] at this;exact⟨g,cap,h1,this⟩
theorem K8(h:IsAt 0 (.slice (some ⟨g,0,none⟩) n cap) l w)(a:Nat)(ha:a<=l.length):InAt (.slice (some ⟨g,0,none⟩) a cap) (l.take a) w:=by
 have hle:=h.le;refine .inr ⟨⟨g,0,none⟩,cap,by rw[BL,CB ha],by rw[BL];omega,fun i x hx=>⟨g,0,rfl,?_⟩⟩;rw[II] at hx;split at hx
 ·obtain⟨g',cap',h1,h2⟩:=RowAt.cells h hx
  simp only[AH,AE,BK,BX] at h1;have:=h2 0 (by omega);rw[FB,EG,<-h1.1] at this;rw[BV];exact this
 ·cases hx
theorem O2{c:Nat}(h:IsAt 0 (.slice (some ⟨g,0,none⟩) n cap) l w)(a:Nat):InAt (.slice (some ⟨g,a,none⟩) (l.length-a) c) (l.drop a) w:=by
 have hle:=h.le;refine .inr ⟨⟨g,a,none⟩,c,by rw[DJ],by rw[DJ];omega,fun i x hx=>⟨g,a,rfl,?_⟩⟩;rw[GM] at hx;obtain⟨g',cap',h1,h2⟩:=RowAt.cells h hx;simp only[AH,AE,BK,BX] at h1;have:=h2 0 (by omega);rw[FB,EG,<-h1.1] at this;exact this
theorem Mn(l:List Int)(v:Value)(w:World)(hv:IsAt 0 v l w)(hl:l.length<=100) :
  Calls Tryz.prog 123 #[v] w fun e w'=>∃u,e=.returned u/\w.grownBy w' none/\IsAt w.heap.size u (Bm l) w':=by
 obtain⟨la,lc,rfl⟩:=hv.slice;have HV:=Ac hv;clear hv;go_enter Tryz.func123,Tryz.ntmps123;go_wp2;go_loopw [3,4] (fun ox z w'=>∃(ov:Value) (i:Nat),ox=ov/\i<=l.length/\z=.int .i64 i/\w.grownBy w' none/\IsAt w.heap.size ov (Bm (l.take i)) w') (fun _ z _=>l.length-(intOf z).toNat)
 case atStart=>exact⟨_,0,rfl,AG _,rfl,AD _ _,RowAt.nil _ _ At⟩
 case round=>
  obtain⟨ov,i,ry,hi,rfl,hg,ho⟩:=hrel;replace ry:=ry.symm;subst ry;by_cases hlt:i<l.length
  ·have hd:decide (i<l.length)=true:=by simpa using hlt
   obtain⟨x,hx⟩:∃x,l[i]?=some x:=⟨_,AB hlt⟩
   have cZ:=N8 hx;have ZG:(Bm (l.take i)).length=i:=by rw[(Eg _).1.length_eq,BL];omega
   obtain⟨o,ZF⟩:∃o,Bm (l.take i)=o:=⟨_,rfl⟩
   rw[ZF] at ho cZ ZG;obtain⟨oa,oc,hos⟩:=ho.slice;subst hos;have HO:=Ac (show _/\_/\_ from⟨ho,cZ,hx⟩);have ZI:o.length<=100:=by omega
   clear ho cZ ZF hx ZG;go_wp2;go_loopw [5] (fun z w'=>∃a:Nat,a<=o.length/\z=.int .i64 a/\Hid ((∀(j:Nat) (y:Int),j<a->o[j]?=some y->x<=y)/\w.grownBy w' none/\IsAt w.heap.size (.slice oa o.length oc) o w')) (fun z _=>o.length-(intOf z).toNat)
   case atStart=>exact⟨0,AG _,rfl,Ac ⟨fun j y hj=>by omega,hg,(Aa HO).1⟩⟩
   case round=>
    clear hg;obtain⟨a,ha,rfl,HA⟩:=hrel;obtain⟨qJ,hg,ho⟩:=Aa HA;obtain⟨gl,cl,jm,x0⟩:=Nm ((Aa HV).gr hg) (Aa HO).2.2;simp only[AH,BP] at jm;obtain⟨rfl,rfl⟩:=jm;have hb1:(0:Int)<=(i:Int):=by omega
    have hb2:(i:Int)<(l.length:Int):=by omega
    have hb3:(0:Int)<=(a:Int):=by omega
    by_cases fU:a<o.length
    ·have ZX:decide (a<o.length)=true:=by simpa using fU
     have hb4:(a:Int)<(o.length:Int):=by omega
     obtain⟨y,hy⟩:∃y,o[a]?=some y:=⟨_,AB fU⟩
     obtain⟨go,co,YQ,y0⟩:=Nm ho hy;simp only[AH,BP] at YQ;obtain⟨rfl,rfl⟩:=YQ;by_cases dn:x<=y
     ·have kN:decide (x<=y)=true:=by simpa using dn
      have HN:=Ac (fun n=>show (∀(j:Nat) (z:Int),j<a+1->o[j]?=some z->x<=z)/\w.grownBy (wr.drewN n) none/\IsAt w.heap.size (.slice (some ⟨go,0,none⟩) o.length oc) o (wr.drewN n) from⟨fun j z hj hz=>by
       by_cases hja:j<a
       ·exact qJ j z hja hz
       ·have:j=a:=by omega
        subst this;rw[hy] at hz;simp only[AE] at hz;omega,Ab hg (Af _ _ _),ho.gr (Af _ _ _)⟩)
      clear qJ ho hy HA;go_wp2;go_quiet (fail);go_wp2;go_roundw
      case rel=>exact⟨a+1,by omega,by go_num,Ac (Aa HN _)⟩
      case measure=>simp[intOf];omega
     ·have kN:decide (x<=y)=false:=by simpa using dn
      have pY:=Id x o a qJ ha (fun z hz=>by rw[hy] at hz;simp only[AE] at hz;omega);have HI:=Ac pY;clear qJ hy HA pY
      obtain⟨ew,zY⟩:o.length<=oc/\go<wr.heap.size:=by
       refine⟨?_,(ho.own go rfl).2⟩;rcases ho.2.2 with ⟨h1,_⟩|⟨g',cap',cur,h1,_,_,h4,_⟩
       ·simp at h1
       ·simp only[AH,AE,BK,BX] at h1
        omega
      have pO:IsAt 0 (.slice (some ⟨go,0,none⟩) o.length oc) o wr:=ho.weak (AG _);have HS:=Ac (fun n=>show InAt (.slice (some ⟨go,0,none⟩) a oc) (o.take a) (wr.drewN n)/\(wr.drewN n).heap.size=wr.heap.size from⟨(K8 pO a ha).gr (Af _ _ _),rfl⟩);have yV:(o.take a).length<=100:=by rw[BL];omega
      have hb5:(a:Int)<=(oc:Int):=by omega
      have fu:(a:Int)<=(o.length:Int):=by omega
      have rL:(o.length:Int)<=(oc:Int):=by omega
      have qq:=Ac (fun(n:Nat) (w1:World) (h:(wr.drewN n).grownBy w1 none)=>show w1.cell? ⟨gl,i,none⟩=some (.int .i64 x)/\IsAt 0 (.slice (some ⟨go,0,none⟩) o.length oc) o w1/\w.grownBy w1 none/\wr.heap.size<=w1.heap.size from⟨(Ab (Af wr n none) h).cell x0 (by simp),pO.gr (Ab (Af wr n none) h),Ab hg (Ab (Af wr n none) h),h.size⟩);clear ho pO;go_wp2;go_quiet (fail)
      go_wp2_with (at_builtin;refine Gv rfl _ _ 35 rfl Tryz.underlying35 Tryz.infoInt rfl rfl (RowAt.nil wr.heap.size _ At) rfl (Aa HS _).1 (by unfold maxLen;simp;omega) (by simp;omega) (by rw[(Aa HS _).2];exact AW _) ?_)
      intro v1 w1 aS hg1;obtain⟨c1,ho1,bY,hs1⟩:=Aa qq _ w1 hg1;clear x0 y0;replace aS:IsAt wr.heap.size v1 (o.take a) w1:=aS;obtain⟨va,vc,oz⟩:=aS.slice;rw[BL,CB ha] at oz;have lS:=aS.own;subst oz;have aj:=AA w1 (.cells #[.int .i64 x] 3) none;have hr1:=aS.gr aj;have aG:RowAt 3 1 C1 0 (.slice (some ⟨w1.heap.size,0,none⟩) 1 1) [x] (w1.alloc (.cells #[.int .i64 x] 3)):=(RowAt.lit1 At w1 x #[.int .i64 x] rfl).weak (AG _);have HB:=Ac (show wr.heap.size<=(w1.alloc (.cells #[.int .i64 x] 3)).heap.size from AU hs1 aj.size);have qp:=Ac (fun(w2:World) (r:Option Nat) (hr:∀g,r=some g->wr.heap.size<=g) (h:(w1.alloc (.cells #[.int .i64 x] 3)).grownBy w2 r)=>show IsAt 0 (.slice (some ⟨go,0,none⟩) o.length oc) o w2/\w.grownBy w2 none/\wr.heap.size<=w2.heap.size from⟨(ho1.gr aj).other h (fun g bE e=>by have:=hr g e;simp only[Value.ownBlock,AE] at bE;omega),C0 (Ab bY aj) h (fun g e=>by have:=hr g e;have:=hg.size;omega),AU (AU hs1 aj.size) h.size⟩);clear ho1 bY aS aj hg1 qq HS
      go_wp2_with (at_builtin;refine Db rfl _ _ 35 rfl Tryz.underlying35 Tryz.infoInt rfl (by decide) rfl hr1 rfl aG (fun y _=>B7 y) (by unfold maxLen;simp;omega) (by simp;omega) (Aa HB) ?_)
      intro v2 w2 hv2 hg2;obtain⟨ho2,ak,hs2⟩:=Aa qp w2 _ (fun g e=>(lS g e).1) hg2;have lR:=hv2.own;obtain⟨vb,vd,lQ⟩:=hv2.slice;rw[AK,BC,BL,CB ha] at lQ;subst lQ;clear hg2 qp hr1 aG HB c1;have ku:=Ac hs2;have hr2:=hv2;have dt:=O2 (c:=oc-a) ho2 a
      have oP:=Ac (fun(v3:Value) (w3:World) (r:Option Nat) (hr:∀g,r=some g->wr.heap.size<=g) (h3:IsAt wr.heap.size v3 (o.take a++x::o.drop a) w3) (h:w2.grownBy w3 r)=>show w.grownBy w3 none/\IsAt w.heap.size v3 (Bm (l.take (i+1))) w3 from⟨C0 ak h (fun g e=>by have:=hr g e;have:=hg.size;omega),by
       rw[(Aa HO).2.1,Aa HI];exact h3.weak hg.size⟩)
      have YU:(o.drop a).length<=100:=by rw[DJ];omega
      clear hv2 ho2 ak hs2 hg
      go_wp2_with (at_builtin;refine Gv rfl _ _ 35 rfl Tryz.underlying35 Tryz.infoInt rfl rfl hr2 rfl dt (by unfold maxLen;simp;omega) (by simp;omega) (Aa ku) ?_)
      intro v3 w3 hv3 hg3;have HF:=Ac (Aa oP v3 w3 _ (fun g e=>(lR g e).1) hv3 hg3);obtain⟨vx,vy,rG⟩:=hv3.slice;subst rG;clear hv3 hg3 hr2 dt oP ku;go_wp2;go_roundw
      case rel=>exact⟨_,i+1,rfl,by omega,by go_num,Aa HF⟩
      case measure=>simp[intOf];omega
    ·have ZX:decide (a<o.length)=false:=by simpa using fU
     have LS:a=o.length:=by omega
     have pY:=Id x o a qJ ha (fun z hz=>by have:=(AL.1 hz).1;omega);have HI:=Ac pY;clear qJ HA pY;rcases ho.2.2 with ⟨e1,e2⟩|⟨go,cp,cur,e1,_⟩
     ·simp only[AH] at e1
      obtain⟨rfl,e3,rfl⟩:=e1;obtain rfl:o=[]:=CM.1 e3;obtain rfl:a=0:=by simpa using LS
      clear LS e3 e2;simp only[CE] at ZX;have hwsz:=hg.size;have HS:=Ac (fun n=>show InAt (.slice none 0 0) ([]:List Int) (wr.drewN n)/\(wr.drewN n).heap.size=wr.heap.size from⟨.inl ⟨rfl,rfl⟩,rfl⟩);have qq:=Ac (fun(n:Nat) (w1:World) (h:(wr.drewN n).grownBy w1 none)=>show w1.cell? ⟨gl,i,none⟩=some (.int .i64 x)/\w.grownBy w1 none/\wr.heap.size<=w1.heap.size from⟨(Ab (Af wr n none) h).cell x0 (by simp),Ab hg (Ab (Af wr n none) h),h.size⟩);clear ho;go_wp2;go_quiet (fail)
      go_wp2_with (at_builtin;refine Gv rfl _ _ 35 rfl Tryz.underlying35 Tryz.infoInt rfl rfl (RowAt.nil wr.heap.size _ At) rfl (Aa HS _).1 (by unfold maxLen;simp) (by simp) (by rw[(Aa HS _).2];exact AW _) ?_)
      intro v1 w1 aS hg1;obtain⟨c1,bY,hs1⟩:=Aa qq _ w1 hg1;clear x0;replace aS:IsAt wr.heap.size v1 [] w1:=aS;obtain⟨va,vc,oz⟩:=aS.slice;rw[CE] at oz;have lS:=aS.own;subst oz;have aj:=AA w1 (.cells #[.int .i64 x] 3) none;have hr1:=aS.gr aj;have aG:RowAt 3 1 C1 0 (.slice (some ⟨w1.heap.size,0,none⟩) 1 1) [x] (w1.alloc (.cells #[.int .i64 x] 3)):=(RowAt.lit1 At w1 x #[.int .i64 x] rfl).weak (AG _);have HB:=Ac (show wr.heap.size<=(w1.alloc (.cells #[.int .i64 x] 3)).heap.size from AU hs1 aj.size);have qp:=Ac (fun(w2:World) (r:Option Nat) (hr:∀g,r=some g->wr.heap.size<=g) (h:(w1.alloc (.cells #[.int .i64 x] 3)).grownBy w2 r)=>show w.grownBy w2 none/\wr.heap.size<=w2.heap.size from⟨C0 (Ab bY aj) h (fun g e=>by have:=hr g e;have:=hg.size;omega),AU (AU hs1 aj.size) h.size⟩);clear bY aS aj hg1 qq HS
      go_wp2_with (at_builtin;refine Db rfl _ _ 35 rfl Tryz.underlying35 Tryz.infoInt rfl (by decide) rfl hr1 rfl aG (fun y _=>B7 y) (by unfold maxLen;simp) (by simp) (Aa HB) ?_)
      intro v2 w2 hv2 hg2;obtain⟨ak,hs2⟩:=Aa qp w2 _ (fun g e=>(lS g e).1) hg2;have lR:=hv2.own;obtain⟨vb,vd,lQ⟩:=hv2.slice;simp only[AP,CE,BV] at lQ;subst lQ;clear hg2 qp hr1 aG HB c1;have ku:=Ac hs2;have hr2:=hv2;have dt:=(show InAt (.slice none 0 0) ([]:List Int) w2 from .inl ⟨rfl,rfl⟩)
      have oP:=Ac (fun(v3:Value) (w3:World) (r:Option Nat) (hr:∀g,r=some g->wr.heap.size<=g) (h3:IsAt wr.heap.size v3 [x] w3) (h:w2.grownBy w3 r)=>show w.grownBy w3 none/\IsAt w.heap.size v3 (Bm (l.take (i+1))) w3 from⟨C0 ak h (fun g e=>by have:=hr g e;have:=hg.size;omega),by
       rw[(Aa HO).2.1,Aa HI];exact h3.weak hg.size⟩)
      clear hv2 ak hs2 hg
      go_wp2_with (at_builtin;refine Gv rfl _ _ 35 rfl Tryz.underlying35 Tryz.infoInt rfl rfl hr2 rfl dt (by unfold maxLen;simp) (by simp) (Aa ku) ?_)
      intro v3 w3 hv3 hg3;have HF:=Ac (Aa oP v3 w3 _ (fun g e=>(lR g e).1) hv3 hg3);obtain⟨vx,vy,rG⟩:=hv3.slice;subst rG;clear hv3 hg3 hr2 dt oP ku;go_wp2;go_roundw
      case rel=>exact⟨_,i+1,rfl,by omega,by go_num,Aa HF⟩
      case measure=>simp[intOf];omega
     ·simp only[AH,BP] at e1
      obtain⟨rfl,rfl⟩:=e1;by_cases tu:oc=a
      ·replace tu:=tu.symm
       subst tu;have HAE:=Ac LS;clear LS
       obtain⟨ew,zY⟩:o.length<=a/\go<wr.heap.size:=by
        refine⟨?_,(ho.own go rfl).2⟩;rcases ho.2.2 with ⟨h1,_⟩|⟨g',cap',cur,h1,_,_,h4,_⟩
        ·simp at h1
        ·simp only[AH,AE,BK,BX] at h1
         omega
       have pO:IsAt 0 (.slice (some ⟨go,0,none⟩) o.length a) o wr:=ho.weak (AG _);have HS:=Ac (fun n=>show InAt (.slice (some ⟨go,0,none⟩) a a) (o.take a) (wr.drewN n)/\(wr.drewN n).heap.size=wr.heap.size from⟨(K8 pO a ha).gr (Af _ _ _),rfl⟩);have yV:(o.take a).length<=100:=by rw[BL];omega
       have hb5:(a:Int)<=(a:Int):=by omega
       have fu:(a:Int)<=(o.length:Int):=by omega
       have rL:(o.length:Int)<=(a:Int):=by omega
       have qq:=Ac (fun(n:Nat) (w1:World) (h:(wr.drewN n).grownBy w1 none)=>show w1.cell? ⟨gl,i,none⟩=some (.int .i64 x)/\IsAt 0 (.slice (some ⟨go,0,none⟩) o.length a) o w1/\w.grownBy w1 none/\wr.heap.size<=w1.heap.size from⟨(Ab (Af wr n none) h).cell x0 (by simp),pO.gr (Ab (Af wr n none) h),Ab hg (Ab (Af wr n none) h),h.size⟩);clear ho pO;go_wp2;go_quiet (fail)
       go_wp2_with (at_builtin;refine Gv rfl _ _ 35 rfl Tryz.underlying35 Tryz.infoInt rfl rfl (RowAt.nil wr.heap.size _ At) rfl (Aa HS _).1 (by unfold maxLen;simp;omega) (by simp;omega) (by rw[(Aa HS _).2];exact AW _) ?_)
       intro v1 w1 aS hg1;obtain⟨c1,ho1,bY,hs1⟩:=Aa qq _ w1 hg1;clear x0;replace aS:IsAt wr.heap.size v1 (o.take a) w1:=aS;obtain⟨va,vc,oz⟩:=aS.slice;rw[BL,CB ha] at oz;have lS:=aS.own;subst oz;have aj:=AA w1 (.cells #[.int .i64 x] 3) none;have hr1:=aS.gr aj;have aG:RowAt 3 1 C1 0 (.slice (some ⟨w1.heap.size,0,none⟩) 1 1) [x] (w1.alloc (.cells #[.int .i64 x] 3)):=(RowAt.lit1 At w1 x #[.int .i64 x] rfl).weak (AG _);have HB:=Ac (show wr.heap.size<=(w1.alloc (.cells #[.int .i64 x] 3)).heap.size from AU hs1 aj.size);have qp:=Ac (fun(w2:World) (r:Option Nat) (hr:∀g,r=some g->wr.heap.size<=g) (h:(w1.alloc (.cells #[.int .i64 x] 3)).grownBy w2 r)=>show IsAt 0 (.slice (some ⟨go,0,none⟩) o.length a) o w2/\w.grownBy w2 none/\wr.heap.size<=w2.heap.size from⟨(ho1.gr aj).other h (fun g bE e=>by have:=hr g e;simp only[Value.ownBlock,AE] at bE;omega),C0 (Ab bY aj) h (fun g e=>by have:=hr g e;have:=hg.size;omega),AU (AU hs1 aj.size) h.size⟩);clear ho1 bY aS aj hg1 qq HS
       go_wp2_with (at_builtin;refine Db rfl _ _ 35 rfl Tryz.underlying35 Tryz.infoInt rfl (by decide) rfl hr1 rfl aG (fun y _=>B7 y) (by unfold maxLen;simp;omega) (by simp;omega) (Aa HB) ?_)
       intro v2 w2 hv2 hg2;obtain⟨ho2,ak,hs2⟩:=Aa qp w2 _ (fun g e=>(lS g e).1) hg2;have lR:=hv2.own;obtain⟨vb,vd,lQ⟩:=hv2.slice;rw[AK,BC,BL,CB ha] at lQ;subst lQ;clear hg2 qp hr1 aG HB c1;have ku:=Ac hs2;have hr2:=hv2;have dt:=(show InAt (.slice (some ⟨go,0,none⟩) 0 0) (o.drop a) w2 from by rw[IX (DR (Aa HAE).symm)];exact .inr ⟨_,0,rfl,AG _,by simp⟩)
       have oP:=Ac (fun(v3:Value) (w3:World) (r:Option Nat) (hr:∀g,r=some g->wr.heap.size<=g) (h3:IsAt wr.heap.size v3 (o.take a++x::o.drop a) w3) (h:w2.grownBy w3 r)=>show w.grownBy w3 none/\IsAt w.heap.size v3 (Bm (l.take (i+1))) w3 from⟨C0 ak h (fun g e=>by have:=hr g e;have:=hg.size;omega),by
        rw[(Aa HO).2.1,Aa HI];exact h3.weak hg.size⟩)
       have YU:(o.drop a).length<=100:=by rw[DJ];omega
       clear hv2 ho2 ak hs2 hg
       go_wp2_with (at_builtin;refine Gv rfl _ _ 35 rfl Tryz.underlying35 Tryz.infoInt rfl rfl hr2 rfl dt (by unfold maxLen;simp;omega) (by simp;omega) (Aa ku) ?_)
       intro v3 w3 hv3 hg3;have HF:=Ac (Aa oP v3 w3 _ (fun g e=>(lR g e).1) hv3 hg3);obtain⟨vx,vy,rG⟩:=hv3.slice;subst rG;clear hv3 hg3 hr2 dt oP ku;go_wp2;go_roundw
       case rel=>exact⟨_,i+1,rfl,by omega,by go_num,Aa HF⟩
       case measure=>simp[intOf];omega
      ·have hca2:a<oc:=by
        rcases ho.2.2 with ⟨h1,_⟩|⟨g',cap',cur',h1,_,_,h4,_⟩
        ·simp at h1
        ·simp only[AH,AE,BK,BX] at h1
         omega
       clear LS tu
       obtain⟨ew,zY⟩:o.length<=oc/\go<wr.heap.size:=by
        refine⟨?_,(ho.own go rfl).2⟩;rcases ho.2.2 with ⟨h1,_⟩|⟨g',cap',cur,h1,_,_,h4,_⟩
        ·simp at h1
        ·simp only[AH,AE,BK,BX] at h1
         omega
       have pO:IsAt 0 (.slice (some ⟨go,0,none⟩) o.length oc) o wr:=ho.weak (AG _);have HS:=Ac (fun n=>show InAt (.slice (some ⟨go,0,none⟩) a oc) (o.take a) (wr.drewN n)/\(wr.drewN n).heap.size=wr.heap.size from⟨(K8 pO a ha).gr (Af _ _ _),rfl⟩);have yV:(o.take a).length<=100:=by rw[BL];omega
       have hb5:(a:Int)<=(oc:Int):=by omega
       have fu:(a:Int)<=(o.length:Int):=by omega
       have rL:(o.length:Int)<=(oc:Int):=by omega
       have qq:=Ac (fun(n:Nat) (w1:World) (h:(wr.drewN n).grownBy w1 none)=>show w1.cell? ⟨gl,i,none⟩=some (.int .i64 x)/\IsAt 0 (.slice (some ⟨go,0,none⟩) o.length oc) o w1/\w.grownBy w1 none/\wr.heap.size<=w1.heap.size from⟨(Ab (Af wr n none) h).cell x0 (by simp),pO.gr (Ab (Af wr n none) h),Ab hg (Ab (Af wr n none) h),h.size⟩);clear ho pO;go_wp2;go_quiet (fail)
       go_wp2_with (at_builtin;refine Gv rfl _ _ 35 rfl Tryz.underlying35 Tryz.infoInt rfl rfl (RowAt.nil wr.heap.size _ At) rfl (Aa HS _).1 (by unfold maxLen;simp;omega) (by simp;omega) (by rw[(Aa HS _).2];exact AW _) ?_)
       intro v1 w1 aS hg1;obtain⟨c1,ho1,bY,hs1⟩:=Aa qq _ w1 hg1;clear x0;replace aS:IsAt wr.heap.size v1 (o.take a) w1:=aS;obtain⟨va,vc,oz⟩:=aS.slice;rw[BL,CB ha] at oz;have lS:=aS.own;subst oz;have aj:=AA w1 (.cells #[.int .i64 x] 3) none;have hr1:=aS.gr aj;have aG:RowAt 3 1 C1 0 (.slice (some ⟨w1.heap.size,0,none⟩) 1 1) [x] (w1.alloc (.cells #[.int .i64 x] 3)):=(RowAt.lit1 At w1 x #[.int .i64 x] rfl).weak (AG _);have HB:=Ac (show wr.heap.size<=(w1.alloc (.cells #[.int .i64 x] 3)).heap.size from AU hs1 aj.size);have qp:=Ac (fun(w2:World) (r:Option Nat) (hr:∀g,r=some g->wr.heap.size<=g) (h:(w1.alloc (.cells #[.int .i64 x] 3)).grownBy w2 r)=>show IsAt 0 (.slice (some ⟨go,0,none⟩) o.length oc) o w2/\w.grownBy w2 none/\wr.heap.size<=w2.heap.size from⟨(ho1.gr aj).other h (fun g bE e=>by have:=hr g e;simp only[Value.ownBlock,AE] at bE;omega),C0 (Ab bY aj) h (fun g e=>by have:=hr g e;have:=hg.size;omega),AU (AU hs1 aj.size) h.size⟩);clear ho1 bY aS aj hg1 qq HS
       go_wp2_with (at_builtin;refine Db rfl _ _ 35 rfl Tryz.underlying35 Tryz.infoInt rfl (by decide) rfl hr1 rfl aG (fun y _=>B7 y) (by unfold maxLen;simp;omega) (by simp;omega) (Aa HB) ?_)
       intro v2 w2 hv2 hg2;obtain⟨ho2,ak,hs2⟩:=Aa qp w2 _ (fun g e=>(lS g e).1) hg2;have lR:=hv2.own;obtain⟨vb,vd,lQ⟩:=hv2.slice;rw[AK,BC,BL,CB ha] at lQ;subst lQ;clear hg2 qp hr1 aG HB c1;have ku:=Ac hs2;have hr2:=hv2;have dt:=O2 (c:=oc-a) ho2 a
       have oP:=Ac (fun(v3:Value) (w3:World) (r:Option Nat) (hr:∀g,r=some g->wr.heap.size<=g) (h3:IsAt wr.heap.size v3 (o.take a++x::o.drop a) w3) (h:w2.grownBy w3 r)=>show w.grownBy w3 none/\IsAt w.heap.size v3 (Bm (l.take (i+1))) w3 from⟨C0 ak h (fun g e=>by have:=hr g e;have:=hg.size;omega),by
        rw[(Aa HO).2.1,Aa HI];exact h3.weak hg.size⟩)
       have YU:(o.drop a).length<=100:=by rw[DJ];omega
       clear hv2 ho2 ak hs2 hg
       go_wp2_with (at_builtin;refine Gv rfl _ _ 35 rfl Tryz.underlying35 Tryz.infoInt rfl rfl hr2 rfl dt (by unfold maxLen;simp;omega) (by simp;omega) (Aa ku) ?_)
       intro v3 w3 hv3 hg3;have HF:=Ac (Aa oP v3 w3 _ (fun g e=>(lR g e).1) hv3 hg3);obtain⟨vx,vy,rG⟩:=hv3.slice;subst rG;clear hv3 hg3 hr2 dt oP ku;go_wp2;go_roundw
       case rel=>exact⟨_,i+1,rfl,by omega,by go_num,Aa HF⟩
       case measure=>simp[intOf];omega
  ·have hd:decide (i<l.length)=false:=by simpa using hlt
   rw[CA (by omega)] at ho;have HF:=Ac (show _/\_ from⟨hg,ho⟩);clear hg ho;go_wp2;go_ret;exact⟨_,rfl,Aa HF⟩
theorem Kd(a b:List Int)(h:a=[]\/b=[]):Dx a b=decide (b.length<a.length):=by
 rcases h with rfl|rfl
 ·cases b<;>rfl
 ·cases a<;>rfl
theorem Q0m(ka kb:Int)(va vb:Value)(la lb:List Int)(w:World)(ha:IsAt 0 va la w)(hb:IsAt 0 vb lb w)(fU:la.length<=100)(lz:lb.length<=100) :
  Calls Tryz.prog 87 #[.agg #[.int .i64 ka,va],.agg #[.int .i64 kb,vb]] w fun e w'=>e=.returned (.bool (Dx (Bm la) (Bm lb)))/\w.grownBy w' none:=by
 obtain⟨aa,ac,rfl⟩:=ha.slice;obtain⟨ba,bc,rfl⟩:=hb.slice;have a7:=Dm w (.cells #[.int .i64 ka,.slice aa la.length ac] 52) (.cells #[.int .i64 kb,.slice ba lb.length bc] 52)
 have oo:C2 52 w.heap.size (.int .i64 ka) (.slice aa la.length ac) ((w.alloc (.cells #[.int .i64 ka,.slice aa la.length ac] 52)).alloc (.cells #[.int .i64 kb,.slice ba lb.length bc] 52)):=by
  have h1:=AR w (.cells #[.int .i64 ka,.slice aa la.length ac] 52);have h2:=AA (w.alloc (.cells #[.int .i64 ka,.slice aa la.length ac] 52)) (.cells #[.int .i64 kb,.slice ba lb.length bc] 52) none;show _=_
  rw[h2.block _ (Ad h1) (by simp)];exact h1
 have fY:C2 52 (w.heap.size+1) (.int .i64 kb) (.slice ba lb.length bc) ((w.alloc (.cells #[.int .i64 ka,.slice aa la.length ac] 52)).alloc (.cells #[.int .i64 kb,.slice ba lb.length bc] 52)):=Hn (by simp);obtain⟨x0,x1⟩:=oo.c;obtain⟨y0,y1⟩:=fY.c;have iY:=Mn la _ _ (ha.gr a7) fU;obtain⟨R,hR⟩:∃R,Dx (Bm la) (Bm lb)=R:=⟨_,rfl⟩
 rw[hR];have yO:(Bm la).length<=100:=by rw[(Eg la).1.length_eq];exact fU
 have yL:(Bm lb).length<=100:=by rw[(Eg lb).1.length_eq];exact lz
 obtain⟨X,hX⟩:∃X,Bm la=X:=⟨_,rfl⟩
 rw[hX] at iY hR yO;have HB:=Ac (hb.gr a7);have HG:=Ac a7;have HR:=Ac hR;clear oo fY ha hb a7 hX hR;go_enter Tryz.func87,Tryz.ntmps87;go_wp2_with fail;refine iY.mono ?_;rintro e w1⟨xv,rfl,hg1,lN⟩;have sZ:=hg1.cell y1 (by simp);have hF2:=Mn lb _ w1 ((Aa HB).gr hg1) lz;obtain⟨Y,hY⟩:∃Y,Bm lb=Y:=⟨_,rfl⟩
 have hR:=Aa HR;rw[hY] at hF2 hR yL;have cD:=Ac hR;have WM:=Ac (show _/\_ from⟨lN,Ab (Aa HG) hg1⟩);obtain⟨xa,xc,rY⟩:=lN.slice;subst rY;clear iY hg1 lN HB HR hR hY x0 x1 y0 y1;go_wp2_with fail;refine hF2.mono ?_;rintro e w2⟨yv,rfl,hg2,my⟩;obtain⟨ya,yc,RP⟩:=my.slice;subst RP;have H2:=Ac (show IsAt 0 (.slice xa X.length xc) X w2/\IsAt 0 (.slice ya Y.length yc) Y w2/\w.grownBy w2 none from⟨((Aa WM).1.gr hg2).weak (AG _),my.weak (AG _),Ab (Aa WM).2 hg2⟩);clear hF2 hg2 my WM sZ HG;go_wp2;go_loopw [7] (fun z w'=>∃i:Nat,i<=X.length/\i<=Y.length/\z=.int .i64 i/\w2.grownBy w' none/\Hid (Dx (X.drop i) (Y.drop i)=R)) (fun z _=>X.length-(intOf z).toNat)
 case atStart=>exact⟨0,AG _,AG _,rfl,AD _ _,Ac (by simpa using Aa cD)⟩
 case round=>
  clear cD;obtain⟨i,hi,hj,rfl,hg,HR⟩:=hrel;obtain⟨lN,my,ah⟩:=Aa H2;have hR:=Aa HR;clear HR;by_cases xZ:i<X.length
  ·have td:decide (i<X.length)=true:=by simpa using xZ
   obtain⟨x,hx⟩:∃x,X[i]?=some x:=⟨X[i],AB xZ⟩
   by_cases hib:i<Y.length
   ·have bZ:decide (i<Y.length)=true:=by simpa using hib
    obtain⟨y,hy⟩:∃y,Y[i]?=some y:=⟨Y[i],AB hib⟩
    rw[A0 hx,A0 hy] at hR;unfold Dx at hR;obtain⟨g1,c1,aS,u0⟩:=Nm (lN.gr hg) hx;obtain⟨g2,c2,hv2,v0⟩:=Nm (my.gr hg) hy;simp only[AH,BP] at aS hv2;obtain⟨rfl,rfl⟩:=aS;obtain⟨rfl,rfl⟩:=hv2;by_cases dn:x=y
    ·rw[AQ dn] at hR
     have kN:(x !=y)=false:=by simpa using dn
     have HN:=Ac hR;clear hR dn hx hy lN my ah;go_wp2;go_quiet (fail);go_wp2;go_roundw
     case rel=>exact⟨i+1,by omega,by omega,by go_num,Ab hg (Af _ _ _),HN⟩
     case measure=>simp[intOf];omega
    ·rw[AO dn] at hR
     have kN:(x !=y)=true:=by simpa using dn
     have OC:=Ac (Ab ah hg);subst hR;clear dn hx hy lN my ah;go_wp2;go_quiet (fail);go_wp2;go_quiet (fail);go_wp2;go_ret;exact⟨rfl,Ab (Aa OC) (Ab (Af _ _ _) (Af _ _ _))⟩
   ·have bZ:decide (i<Y.length)=false:=by simpa using hib
    rw[Kd _ _ (.inr (BD (by omega))),DJ,DJ] at hR;have hR2:decide (Y.length<X.length)=R:=by rw[<-hR];congr 1;apply propext;omega
    have OC:=Ac (Ab ah hg);subst hR2;clear hR hx lN my ah;go_wp2;go_ret;exact⟨rfl,Aa OC⟩
  ·have td:decide (i<X.length)=false:=by simpa using xZ
   rw[Kd _ _ (.inl (BD (by omega))),DJ,DJ] at hR;have hR2:decide (Y.length<X.length)=R:=by rw[<-hR];congr 1;apply propext;omega
   have OC:=Ac (Ab ah hg);subst hR2;clear hR lN my ah;go_wp2;go_ret;exact⟨rfl,Aa OC⟩
def VTh.left(L:List VTh)(id:Int):List VTh:=L.filter (fun t=>t.id !=id)
theorem Pf(t:VTh)(h:t.v.oneCell'=true):∀c∈Hb t,c.oneCell'=true:=by
 intro c hc;simp[Hb] at hc;rcases hc with rfl|rfl|rfl
 ·rfl
 ·rfl
 ·exact h
theorem YAt.set1{y:Nat}{rv lv cv fv:Value}{rs:List Sv.Rule}{L L':List VTh}(h:YAt y rv lv cv fv rs L w)(u:Value)(hu:RowAt 176 3 Hb 0 u L' w)(hv:∀t∈L',t∈L):YAt y rv u cv fv rs L' (w.setCell ⟨y,1,none⟩ u):=by
 have hg:=Aj w y 1 u;refine⟨?_,h.rules.row hg h.rowOk (by decide) (by decide) (by decide),hu.row hg h.rowOk (by decide),fun t ht=>⟨(h.vals t (hv t ht)).1.row hg h.rowOk (by decide),(h.vals t (hv t ht)).2⟩⟩;rw[BB w y 1 _ _ _ h.blk];rfl
def Gm(y:Nat)(rv cv:Value)(rs:List Sv.Rule)(L:List VTh)(fd:List VMt)(id:Int)(w:World)(e:Ending)(w':World):Prop:=
 if (VTh.left L id).length=L.length then e=.returned (.int .i64 5)/\w.grownBy w' none
 else e=.returned (.int .i64 0)/\w.grownBy w' (some y)/\∃fF af iA,YAt y rv fF cv af rs (VTh.left L id) w'/\MsAt 0 af iA w'/\
  iA.map VMt.of=Bp (Al rs ((VTh.left L id).map VTh.of)) (fd.map VMt.of)/\(∀m∈iA,m∈fd)/\(∀g,fF.ownBlock=some g->w.heap.size<=g)/\(∀g,af.ownBlock=some g->w.heap.size<=g)
theorem Xy(y:Nat)(rv lv cv fv:Value)(rs:List Sv.Rule)(L:List VTh)(fd:List VMt)(id:Int)(w:World)(hy:YAt y rv lv cv fv rs L w)(aK:Sv.RsOk rs)(hL:L.length<=16)(jJ:MsAt 0 fv fd w)(hfb:fd.length<=1000000) :
  Calls Tryz.prog 59 #[.pointer (some ⟨y,0,none⟩),.int .i64 id] w fun e w'=>Gm y rv cv rs L fd id w e w':=by
 obtain⟨oq,gA,rfl⟩:=hy.facts.slice;obtain⟨y0,y1,y2,y3⟩:=hy.c;have HY:=Ac hy;have HO:=Ac aK;have XF:=Ac jJ;clear hy aK jJ y0 y2 y3;go_enter Tryz.func59,Tryz.ntmps59;go_wp2;go_loopw [5,6] (fun v z w'=>∃i:Nat,i<=L.length/\z=.int .i64 i/\w.grownBy w' none/\RowAt 176 3 Hb w.heap.size v (VTh.left (L.take i) id) w') (fun _ z _=>L.length-(intOf z).toNat)
 case atStart=>exact⟨0,AG _,rfl,AD _ _,RowAt.nil _ _ Gi⟩
 case round=>
  obtain⟨i,hi,rfl,hg,hv⟩:=hrel;have sZ:=hg.cell y1 (by simp)
  have kH:(VTh.left (L.take i) id).length<=16:=by
   have h1:=CR (fun t:VTh=>t.id !=id) (L.take i);rw[BL] at h1;unfold VTh.left;omega
  by_cases hlt:i<L.length
  ·have cY:decide (i<L.length)=true:=by simpa using hlt
   obtain⟨t,ht⟩:∃t,L[i]?=some t:=⟨L[i],AB hlt⟩
   obtain⟨g,cp,eQ,hcs⟩:=((Aa HY).facts.gr hg).cells ht;simp only[AH,BP] at eQ;obtain⟨rfl,rfl⟩:=eQ;have t0:wr.cell? ⟨g,i*3,none⟩=some (.int .i64 t.id):=hcs 0 (by omega);have t1:wr.cell? ⟨g,i*3+1,none⟩=some (.int .i64 t.kind):=hcs 1 (by omega);have t2:wr.cell? ⟨g,i*3+2,none⟩=some t.v:=hcs 2 (by omega);obtain⟨ma,mc,kD⟩:=((Aa HY).vals t (AV ht)).1.slice;rw[kD] at t2
   have hst:VTh.left (L.take (i+1)) id=VTh.left (L.take i) id++(if (t.id !=id)=true then [t] else []):=by
    unfold VTh.left;rw[CZ,ht,DI];congr 1
    exact Im _ _
   generalize VTh.left (L.take i) id=A at *;obtain⟨aA,cA,rfl⟩:=hv.slice;have uY:=Ac kD;clear hcs ht kD;cases hd:(t.id !=id)
   ·rw[hd] at hst
    simp only[BZ,if_false,BM] at hst;have HS:=Ac hst;clear hst;go_wp2;go_roundw
    case rel=>exact⟨i+1,by omega,by go_num,hg,by rw[Aa HS];exact hv⟩
    case measure=>simp[intOf];omega
   ·rw[hd] at hst
    simp only[if_true] at hst;have HS:=Ac hst;clear hst;have aR:=AA wr (.cells #[.int .i64 t.id,.int .i64 t.kind,.slice ma t.vals.length mc] 176) none;have l4:=hv.gr aR;have aG:RowAt 176 3 Hb 0 _ [t] (wr.alloc (.cells #[.int .i64 t.id,.int .i64 t.kind,.slice ma t.vals.length mc] 176)):=(RowAt.lit1 Gi wr t #[.int .i64 t.id,.int .i64 t.kind,.slice ma t.vals.length mc] (by unfold Hb;rw[Aa uY])).weak (AG _)
    have bg:∀k∈[t],∀c∈Hb k,c.oneCell'=true:=by
     intro k hk;simp only[AX] at hk;subst hk;exact Pf k (by rw[Aa uY];rfl)
    have eP:=Ac bg;have er:=l4.own;have xx:=Ac er;have hsz:=AU hg.size aR.size;clear bg er
    go_wp2_with (at_builtin;refine Db rfl _ _ 170 rfl Tryz.underlying170 Tryz.infoThere rfl (by decide) rfl l4 rfl aG (Aa eP) (by unfold maxLen;simp;omega) (by simp;omega) hsz ?_)
    intro v5 w5 ax aY;have bQ:=C0 (Ab hg aR) aY (fun k hk=>(Aa xx k hk).1);obtain⟨a5,c5,rfl⟩:=ax.slice;clear aR l4 aG eP xx aY;go_wp2;go_roundw
    case rel=>exact⟨i+1,by omega,by go_num,bQ,by rw[Aa HS];exact ax⟩
    case measure=>simp[intOf];omega
  ·have cY:decide (i<L.length)=false:=by simpa using hlt
   have hall:L.take i=L:=CA (by omega);rw[hall] at hv kH;clear hall hlt hi;obtain⟨aA,cA,rfl⟩:=hv.slice;by_cases hq:(VTh.left L id).length=L.length
   ·have UE:(((VTh.left L id).length:Int)==(L.length:Int))=true:=by simp[hq]
    have HQ:=Ac hq;clear hq;go_wp2;go_ret;unfold Gm;rw[AQ (Aa HQ)];exact⟨rfl,hg⟩
   ·have UE:(((VTh.left L id).length:Int)==(L.length:Int))=false:=Q0y _ _ hq
    have HQ:=Ac hq;clear hq;have my:=(Aa HY).gr hg;have z1:=my.fz 1;have aZ:=Aj wr y 1 (.slice aA (VTh.left L id).length cA);have YI:=my.set1 (.slice aA (VTh.left L id).length cA) (hv.weak (AG _)) (fun t ht=>(BH.1 ht).1);have ZU:=((Aa XF).gr hg).ybl my aZ;have hV:=Pj y rv _ cv fv rs (VTh.left L id) fd _ YI (Aa HO) kH ZU hfb;have hown:=hv.own;have sT:=Ac hown;have RZ:w.heap.size<=(wr.setCell ⟨y,1,none⟩ (.slice aA (VTh.left L id).length cA)).heap.size:=AU hg.size aZ.size;have hgS:=Ab (A6 hg (some y)) aZ;clear hown my YI ZU;go_wp2_with fail;refine hV.mono ?_;rintro e w7⟨rfl,dS,af,iA,yK,ZV,hmap,cg,hnew⟩
    have HR:=Ac (show w.grownBy w7 (some y)/\∃fF af iA,YAt y rv fF cv af rs (VTh.left L id) w7/\MsAt 0 af iA w7/\
     iA.map VMt.of=Bp (Al rs ((VTh.left L id).map VTh.of)) (fd.map VMt.of)/\(∀m∈iA,m∈fd)/\(∀g,fF.ownBlock=some g->w.heap.size<=g)/\(∀g,af.ownBlock=some g->w.heap.size<=g) from
     ⟨Ab hgS dS,_,af,iA,yK,ZV,hmap,cg,fun g h=>(Aa sT g h).1,fun g h=>AU RZ (hnew g h)⟩)
    clear hV dS yK ZV hmap cg hnew;go_wp2;go_ret;unfold Gm;rw[AO (Aa HQ)];exact⟨rfl,Aa HR⟩
theorem SufAt.takes{U:Nat->Nat}{ru jn Q:Nat}{S:Nat->Prop}{w w':World}(hg:GrS S w w')(hS:∀i,S i->U i=4+3*Q\/U i=6+3*Q){e e':En}(hl:∀b tv wv,LastAt U Q b ru jn e tv wv w->∃dT,LastAt U Q b ru jn e' tv dT w'):∀ {ns:List Nd} {q k:Nat} {hd:Value},q+ns.length=Q->SufAt U ru jn q k ns e hd w->SufAt U ru jn q k ns e' hd w'
 | [],q,k,hd,hq,h=>by
  obtain⟨b,tv,wv,rfl,h⟩:=h;have hq':q=Q:=by simpa using hq
  subst hq';obtain⟨dT,h2⟩:=hl b tv wv h;exact⟨b,tv,dT,rfl,h2⟩
 | n::ns,q,k,hd,hq,h=>by
  obtain⟨b,nx,tv,lv,ov,fv,rfl,h1,h2⟩:=h;rw[AP] at hq;refine⟨b,nx,tv,lv,ov,fv,rfl,h1.keep hg (fun i hi hs=>?_) (fun _ _ _=>rfl),SufAt.takes hg hS hl (by omega) h2⟩;have:=hS i hs;omega
theorem LastAt.one{U:Nat->Nat}{Q b b' ru jn ru' jn':Nat}{e e':En}{tv wv dc dT:Value}(h:LastAt U Q b ru jn e tv wv w)(h':LastAt U Q b' ru' jn' e' dc dT w):b=b':=by
 have h1:=h.own;have h2:=h'.own;rcases JR b b' with hl|hl|hl
 ·exact absurd h1 (h'.low b hl)
 ·exact hl
 ·exact absurd h2 (h.low b' hl)
theorem ChainAt.takes{U:Nat->Nat}{ru jn q b lb:Nat}{ns:List Nd}{e e':En}{tv wv dT:Value}{S:Nat->Prop}{w w':World}(h:ChainAt U ru jn q b ns e w)(hl:LastAt U (q+ns.length) lb ru jn e tv wv w)(hl':LastAt U (q+ns.length) lb ru jn e' tv dT w')(hg:GrS S w w')(hS:∀i,S i->U i=4+3*(q+ns.length)\/U i=6+3*(q+ns.length)):ChainAt U ru jn q b ns e' w':=by
 obtain⟨nv,hd,hs,YD,c1,c2,c3,c4,c5,c6,c7⟩:=h.ex;have dF:∀i,U i=1->¬ S i:=fun i hi hx=>by have:=hS i hx;omega
 refine⟨nv,hd,hs,YD,hg.blk c1 (dF b c2),c2,c3.keep2 hg dF (fun _ _ e=>e),c4,c5,c6,SufAt.takes hg hS (fun b2 tv2 wv2 h2=>?_) rfl c7⟩;obtain rfl:=hl.one h2;have e1:=hl.blk.symm.trans h2.blk;simp only[AE,KD,Array.mk.injEq,GX] at e1;obtain⟨⟨rfl,_⟩,_⟩:=e1;exact⟨dT,hl'⟩
theorem Q26(b o g cap n:Nat)(cs:Array Value)(ty:TypeId)(l:List Tok)(t:Tok)(w:World)(hb:w.heap[b]?=some (.cells cs ty (0,0)))(ho:cs[o]?=some (.slice (some ⟨g,0,none⟩) (n+1) cap))(hr:ToksAt (.slice (some ⟨g,0,none⟩) (n+1) cap) l w)(hbg:b≠g)(hl:l.length=n+1)(ht:l[n]?=some t)(hn:n<=2000000000) :
  Calls Tryz.prog 260 #[.pointer (some ⟨b,o,none⟩)] w fun e w'=>e=.returned (.iface 139 (Bt t))/\w.grownBy w' (some b)/\w'.heap[b]?=some (.cells (cs.setIfInBounds o (.slice (some ⟨g,0,none⟩) n cap)) ty (0,0))/\ToksAt (.slice (some ⟨g,0,none⟩) n cap) (l.take n) w':=by
 obtain⟨p0,p1,p2,p3,hp⟩:=A9 t;have eT:Bt t=.agg #[.pointer p0,.pointer p1,.pointer p2,.pointer p3]:=by unfold Bt;rw[hp]
 have su:ToksAt (.slice (some ⟨g,0,none⟩) l.length cap) l w:=by rw[hl];exact hr
 obtain⟨g',cap',e1,a0,a1,a2,a3⟩:=Bu su ht hp;simp only[AH,AE,BK,BX,BP] at e1;obtain⟨rfl,rfl⟩:=e1
 have ew:n+1<=cap:=by
  rcases hr.2.2 with ⟨h1,_⟩|⟨g',cap',cur,h1,_,_,h4,_⟩
  ·simp at h1
  ·simp only[AH,AE,BK,BX] at h1
   omega
 have c0:w.cell? ⟨b,o,none⟩=some (.slice (some ⟨g,0,none⟩) (n+1) cap):=by simp[World.cell?,hb];simpa using ho
 have z0:w.frozen? ⟨b,o,none⟩=false:=by simp[World.frozen?,hb]
 have a7:=AA w (.cells #[.pointer p0,.pointer p1,.pointer p2,.pointer p3] 139) none;have cR:(w.alloc (.cells #[.pointer p0,.pointer p1,.pointer p2,.pointer p3] 139)).heap[b]?=some (.cells cs ty (0,0)):=by rw[a7.block b (Ad hb) (by simp)];exact hb
 have NA:=a7.cell c0 (by simp);have z0A:(w.alloc (.cells #[.pointer p0,.pointer p1,.pointer p2,.pointer p3] 139)).frozen? ⟨b,o,none⟩=false:=by simp[World.frozen?,cR]
 have hcut:=su.cut n (by omega);have aV:=Aj w b o (.slice (some ⟨g,0,none⟩) n cap);have wE:=Ad hb;have aR:=AA (w.setCell ⟨b,o,none⟩ (.slice (some ⟨g,0,none⟩) n cap)) (.cells #[.pointer p0,.pointer p1,.pointer p2,.pointer p3] 139) none
 have HE:=Ac (show w.grownBy ((w.setCell ⟨b,o,none⟩ (.slice (some ⟨g,0,none⟩) n cap)).alloc (.cells #[.pointer p0,.pointer p1,.pointer p2,.pointer p3] 139)) (some b)/\((w.setCell ⟨b,o,none⟩ (.slice (some ⟨g,0,none⟩) n cap)).alloc (.cells #[.pointer p0,.pointer p1,.pointer p2,.pointer p3] 139)).heap[b]?=some (.cells (cs.setIfInBounds o (.slice (some ⟨g,0,none⟩) n cap)) ty (0,0))/\ToksAt (.slice (some ⟨g,0,none⟩) n cap) (l.take n) ((w.setCell ⟨b,o,none⟩ (.slice (some ⟨g,0,none⟩) n cap)).alloc (.cells #[.pointer p0,.pointer p1,.pointer p2,.pointer p3] 139)) from by
  refine⟨Ab aV (A6 aR (some b)),by rw[aR.block b (by simp;exact wE) (by simp),BB _ b o _ _ _ hb],(hcut.other aV (fun k hk e=>?_)).gr aR⟩;simp only[Value.ownBlock,AE] at hk e;omega)
 rw[eT];clear aV hcut hb ho hr su ht hp eT hl a7 aR cR;go_enter Tryz.func260,Tryz.ntmps260;go_wp2;go_ret;exact⟨rfl,Aa HE⟩
def Gq(b o:Nat)(v:Value)(cs:Array Value)(ty:TypeId)(l:List Tok)(w w':World):Prop:=
 ∃v',w'.heap[b]?=some (.cells (cs.setIfInBounds o v') ty (0,0))/\ToksAt v' ((Hp.popL Tok.less l).take (l.length-1)) w'/\GrS (fun k=>k=b\/v.ownBlock=some k) w w'/\∀g,v'.ownBlock=some g->v.ownBlock=some g
theorem Q3h(U:Nat->Nat)(b o g cap n:Nat)(cs:Array Value)(ty:TypeId)(l:List Tok)(t:Tok)(w:World)(h:AgAt U b o g cap l w)(hb:w.heap[b]?=some (.cells cs ty (0,0)))(ho:cs[o]?=some (.slice (some ⟨g,0,none⟩) l.length cap))(hl:l.length=n+1)(hn:n<=1000000000)(hH:Hp.Is Tok.less l)(ht:l[0]?=some t) :
  Calls Tryz.prog 112 #[.iface 221 (.pointer (some ⟨b,o,none⟩))] w fun e w'=>e=.returned (.iface 139 (Bt t))/\Gq b o (.slice (some ⟨g,0,none⟩) l.length cap) cs ty l w w':=by
 obtain⟨p1,p2,_,_⟩:=Hp.pop_ok Tok.less_ord hH ht;have hN:=Ra b o _ _ cap w h.cell;have hS:=Kj b o g cap l 0 n w h.cell h.ne h.row (by omega) (by omega);rw[hl,show ((n+1:Nat):Int)=(n:Int)+1 from by omega] at hN;rw[show ((0:Nat):Int)=0 from rfl] at hS
 have hkey:∀w2,w.grownBy w2 (some g)->ToksAt (.slice (some ⟨g,0,none⟩) l.length cap) (Hp.swap l 0 n) w2->Calls Tryz.prog 145 #[.iface 221 (.pointer (some ⟨b,o,none⟩)),.int .i64 0,.int .i64 n] w2 fun e w3=>∃r,e=.returned (.bool r)/\
   Calls Tryz.prog 260 #[.pointer (some ⟨b,o,none⟩)] w3 fun e w4=>e=.returned (.iface 139 (Bt t))/\Gq b o (.slice (some ⟨g,0,none⟩) l.length cap) cs ty l w w4:=by
  intro w2 hg2 hr2;have gz:=h.swapped hg2 hr2;have hD:=V9 U b o g cap (Hp.swap l 0 n) 0 n w2 gz (by rw[Hp.swap_len];omega) (by rw[Hp.swap_len];omega) (by rw[Hp.swap_len];omega);rw[show ((0:Nat):Int)=0 from rfl] at hD;refine hD.mono ?_;rintro e w3⟨r,rfl,hg3,wh⟩;have SN:Hp.down Tok.less n (Hp.swap l 0 n) 0=Hp.popL Tok.less l:=by unfold Hp.popL;rw[hl];rfl
  rw[SN] at wh;have hr3:=wh.row;rw[p1,hl] at hr3;have hbg:=h.ne
  have hb3:w3.heap[b]?=some (.cells cs ty (0,0)):=by
   rw[hg3.block b (AZ (Ad hb) hg2.size) (by simpa using hbg),hg2.block b (Ad hb) (by simpa using hbg)];exact hb
  rw[hl] at p2 ho;refine⟨r,rfl,?_⟩;refine(Q26 b o g cap n cs ty (Hp.popL Tok.less l) t w3 hb3 ho hr3 hbg (by rw[p1,hl]) p2 (by omega)).mono ?_;rintro e w4⟨rfl,hg4,hb4,hr4⟩;refine⟨rfl,_,hb4,by rw[hl];exact hr4,?_,fun k hk=>by simpa[Value.ownBlock] using hk⟩;exact((GrS.of hg2 (fun k hk=>.inr (by simpa[Value.ownBlock] using hk)):GrS (fun k=>k=b\/(Value.slice (some ⟨g,0,none⟩) l.length cap).ownBlock=some k) w w2).then hg3 (fun k hk=>.inr (.inr (by simpa[Value.ownBlock] using hk)))).then hg4 (fun k hk=>by simp at hk;exact .inr (.inl hk.symm))
 have HKEY:=Ac hkey;have mN:=Tryz.mLen;have mS:=Tryz.mSwap;have mP:=Tryz.mPop;clear hkey h hb ho hH ht p1 p2;go_enter Tryz.func112,Tryz.ntmps112;go_wp2_with fail;refine hN.mono ?_;rintro e w1⟨rfl,rfl⟩;clear hN;go_wp2_with fail;refine hS.mono ?_;rintro e w2⟨rfl,hg2,hr2⟩;have hD:=Aa HKEY w2 hg2 hr2;clear hS HKEY hg2 hr2;go_wp2_with fail;refine hD.mono ?_;rintro e w3⟨r,rfl,hP⟩;clear hD;go_wp2_with fail;refine hP.mono ?_;rintro e w4⟨rfl,hT⟩;have HT:=Ac hT;clear hP hT;go_wp2;go_ret;exact⟨rfl,Aa HT⟩
theorem Q34(U:Nat->Nat)(b o g cap n:Nat)(cs:Array Value)(ty:TypeId)(l:List Tok)(t:Tok)(w:World)(h:AgAt U b o g cap l w)(hb:w.heap[b]?=some (.cells cs ty (0,0)))(ho:cs[o]?=some (.slice (some ⟨g,0,none⟩) l.length cap))(hl:l.length=n+1)(hn:n<=1000000000)(hH:Hp.Is Tok.less l)(ht:l[0]?=some t) :
  Calls Tryz.prog 74 #[.pointer (some ⟨b,o,none⟩)] w fun e w'=>e=.returned (.tuple #[])/\Gq b o (.slice (some ⟨g,0,none⟩) l.length cap) cs ty l w w':=by
 have hP:=Q3h U b o g cap n cs ty l t w h hb ho hl hn hH ht;clear h hb ho hH ht;go_enter Tryz.func74,Tryz.ntmps74;go_wp2_with fail;refine hP.mono ?_;rintro e w1⟨rfl,hT⟩;have HT:=Ac hT;clear hP hT;go_wp2;go_end0
 exact⟨rfl,Aa HT⟩
theorem Wx(b o:Nat)(ao:Option Addr)(cap:Nat)(w:World)(hc:w.cell? ⟨b,o,none⟩=some (.slice ao 0 cap)) :
  Calls Tryz.prog 72 #[.pointer (some ⟨b,o,none⟩)] w fun e w'=>e=.returned (.tuple #[.agg #[.pointer none,.pointer none,.pointer none,.pointer none],.bool false])/\w.grownBy w' none:=by
 have a7:=AA w (.cells #[.pointer none,.pointer none,.pointer none,.pointer none] 139) none;have hcA:=a7.cell hc (by simp);clear a7;go_enter Tryz.func72,Tryz.ntmps72;go_wp2;refine BO (v:=.tuple #[.agg #[.pointer none,.pointer none,.pointer none,.pointer none],.bool false]) (by simp[results,Tryz.results72,go_sem]) rfl ⟨rfl,?_⟩;exact AA _ _ _
theorem Wy(b o g cap:Nat)(l:List Tok)(t:Tok)(w:World)(hc:w.cell? ⟨b,o,none⟩=some (.slice (some ⟨g,0,none⟩) l.length cap))(hr:ToksAt (.slice (some ⟨g,0,none⟩) l.length cap) l w)(ht:l[0]?=some t) :
  Calls Tryz.prog 72 #[.pointer (some ⟨b,o,none⟩)] w fun e w'=>e=.returned (.tuple #[Bt t,.bool true])/\w.grownBy w' none:=by
 obtain⟨p0,p1,p2,p3,hp⟩:=A9 t;have eT:Bt t=.agg #[.pointer p0,.pointer p1,.pointer p2,.pointer p3]:=by unfold Bt;rw[hp]
 obtain⟨g',cap',e1,a0,a1,a2,a3⟩:=Bu hr ht hp;simp only[AH,AE,BK,BX,BP] at e1;obtain⟨rfl,rfl⟩:=e1;have cj:=hr.le;unfold maxLen at cj;have hl0:0<l.length:=(AL.1 ht).1;obtain⟨n,hn⟩:∃n,l.length=n+1:=⟨l.length-1,by omega⟩
 rw[hn] at hc cj;have hne:(((n+1:Nat):Int)==0)=false:=by simp;omega
 rw[eT];simp only[Nat.zero_mul,BV] at a0 a1 a2 a3;have a7:=AA w (.cells #[.pointer none,.pointer none,.pointer none,.pointer none] 139) none;have hcA:=a7.cell hc (by simp);have b0:=a7.cell a0 (by simp);have b1:=a7.cell a1 (by simp);have b2:=a7.cell a2 (by simp);have b3:=a7.cell a3 (by simp);clear hr ht hp eT hl0 hn a7;go_enter Tryz.func72,Tryz.ntmps72;go_wp2;refine BO (v:=.tuple #[.agg #[.pointer p0,.pointer p1,.pointer p2,.pointer p3],.bool true]) (by simp[results,Tryz.results72,go_sem]) rfl ⟨rfl,?_⟩;exact AA _ _ _
end Go.Proofs.YtolhbeekfjnfmaaGreatDoor

import Derived.ProofKit
import Derived.Deep.Slices
import Derived.LaidMore
import Derived.LaidHandle
import Derived.Stop.Joined
import Derived.Stop.LaidTwo
import Derived.SizedLaws
import Derived.SevenTiedAt
import Derived.Lib.LaidTab
import Derived.Deep.DeepHandedRow
import Derived.Deep.DeepWitnessRowRef
import Derived.JoinedCond
import Derived.Test.YtolhbeekfjnfmaaGreatDoorM40
import Derived.Test.YtolhbeekfjnfmaaGreatDoorRows
import Derived.Test.YtolhbeekfjnfmaaGreatDoorCards
import Derived.Test.YtolhbeekfjnfmaaGreatDoorTie
namespace Go.Proofs.YtolhbeekfjnfmaaGreatDoor
open Go.ChangeShapes Go.WideShapes Go.ChangeAt Go.RowKit
open Go.WideMaps Go.WideElems
open Go.ChangeMaps (open_string shut_string)
theorem Tryz.own:ownKnob Tryz.prog.godebug=none:=by kernel_rfl
theorem Tryz.gEt:Tryz.prog.globalNamed "errors.errorType"=some 1:=by kernel_rfl
theorem Tryz.gTx:Tryz.prog.globalNamed "sieve/rules.ErrText"=some 2:=by kernel_rfl
theorem Tryz.gLm:Tryz.prog.globalNamed "sieve/rules.ErrLimit"=some 0:=by kernel_rfl
theorem Tryz.tTx:(Tryz.prog.globals[2]?).map (·.type)=some 79:=by kernel_rfl
theorem Tryz.tLm:(Tryz.prog.globals[0]?).map (·.type)=some 79:=by kernel_rfl
theorem Tryz.tPw:(Tryz.prog.globals[3]?).map (·.type)=some 340:=by kernel_rfl
theorem Tryz.rt:(Tryz.prog.cutTypes.find? (·.1 == "internal/reflectlite.rtype")).map (·.2)=some 241:=by kernel_rfl
theorem Tryz.oneRow:((List.range 382).filter fun t=>Tryz.prog.rowNamed t [101,114,114,111,114])=[79]:=by kernel_rfl
theorem Tryz.size:Tryz.prog.types.size=382:=by kernel_rfl
theorem Tryz.cellsES:Tryz.prog.cellsOf 370=1:=by kernel_rfl
theorem Tryz.cellsS:Tryz.prog.cellsOf 9=1:=by kernel_rfl
theorem Tryz.cells64:Tryz.prog.cellsOf 309=1:=by kernel_rfl
theorem Tryz.cellsA:Tryz.prog.cellsOf 340=20:=by kernel_rfl
theorem Tryz.handleErr:typeHandle Tryz.prog 79=.pointer (some ⟨6,79,none⟩):=by kernel_rfl
theorem pow_data:(Rows.laid_internal_strconv_uint64pow10:DataW Unit)=Lib.tabData .u64 Lib.pow10Tab:=by kernel_rfl
def laidList:List (String×DataW Unit):=Rows.growsUptoRow.laid
theorem door_met (os:Os) (args:Array Value):laidMetH Tryz.prog laidList ((World.doorLaid Tryz.prog 400 os).forCall (fun _ _=>0) ⟨#[],args,[]⟩).memory:=
 laidMetH_of_parts3 (fuel:=8) (laidMet_of_run' 8 (by kernel_rfl) (by kernel_rfl)) (by kernel_rfl) (by kernel_rfl)
theorem Tryz.star:("*" ++ "errors.errorString":String)= "*errors.errorString":=by decide +kernel
theorem Tryz.rowES (u:TypeId) (h:Tryz.prog.typeName? 3 u=some "*errors.errorString"):u=345:=
 typeName_ptr_named (nm:= "errors.errorString") (by rw [Tryz.star]; kernel_rfl) (by kernel_rfl) (by decide) u (by rw [Tryz.star]; exact h)
theorem of_laid {W:World} (h:laidMetH Tryz.prog laidList W):∃ aT aL,LD aT aL W∧3 < W.heap.size:=by
 have h':laidMet Tryz.prog [("math/bits.deBruijn32tab",Rows.laid_math_bits_deBruijn32tab),("math/bits.deBruijn64tab",Rows.laid_math_bits_deBruijn64tab),("internal/strconv.uint64pow10",Rows.laid_internal_strconv_uint64pow10),("sieve/rules.ErrText",Rows.laid_sieve_rules_ErrText),("sieve/rules.ErrLimit",Rows.laid_sieve_rules_ErrLimit)] W∧handlesMet Tryz.prog [("errors.errorType",Rows.laid_errors_errorType)] W:=h
 obtain ⟨hd,hh⟩:=h'
 have h3:=hd.tail.tail
 have htab:Lib.TabIs Tryz.prog W "internal/strconv.uint64pow10" .u64 Lib.pow10Tab:=Lib.tabIs_of_head Tryz.powIs Tryz.tPw Tryz.underlying340 Tryz.underlying309 Tryz.cells64 Tryz.cellsA (by rw [←pow_data]; exact h3)
 obtain ⟨a0,a1,s0,s1,c0,c1,t0,t1,hv0,hv1,hc0,hs0,hz0,hc1,hs1,hz1,hne,hb0,hb1⟩:=laid_sentinels2 h3.tail Tryz.gTx Tryz.tTx Tryz.gLm Tryz.tLm Tryz.underlying79 Tryz.rowES Tryz.underlying345 Tryz.underlying370 rfl rfl Tryz.underlying9 Tryz.cellsES Tryz.cellsS
 obtain ⟨name,u,ty,e1,e2,e3,e4,e5⟩:=hh _ (List.mem_singleton.2 rfl)
 have en:name=[101,114,114,111,114]:=(Option.some.inj e1).symm
 subst en
 obtain rfl:=Option.some.inj (Tryz.rt.symm.trans e2)
 have hm:ty∈(List.range 382).filter fun t=>Tryz.prog.rowNamed t [101,114,114,111,114]:=List.mem_filter.2 ⟨List.mem_range.2 (by rw [←Tryz.size]; exact e3),e4⟩
 rw [Tryz.oneRow] at hm
 obtain rfl:=List.mem_singleton.1 hm
 rw [Tryz.handleErr] at e5
 have hpw:3 < W.heap.size:=by
  unfold Lib.TabIs World.var? at htab
  rw [Tryz.powIs] at htab
  simp only [Option.bind_some] at htab
  rcases Nat.lt_or_ge 3 W.heap.size with hl | hl
  ·exact hl
  ·rw [Array.getElem?_eq_none hl] at htab; cases htab
 exact ⟨a0,a1,⟨by simpa using World.var?_cell Tryz.gTx hv0 0,by simpa using World.var?_cell Tryz.gLm hv1 0,hne,⟨c0,t0,hb0⟩,⟨c1,t1,hb1⟩,by simpa using World.var?_cell Tryz.gEt e5 0,htab⟩,hpw⟩
theorem Tryz.laidOut:laidOutB Tryz.prog=true:=by kernel_rfl
theorem add_none (g o i j:Nat):((⟨g,o,none⟩:Addr).add i).add j=⟨g,o+i+j,none⟩:=by
 unfold Addr.add
 by_cases h1:i=0
 ·by_cases h2:j=0
  ·simp [h1,h2]
  ·simp [h1,h2]
 ·by_cases h2:j=0
  ·simp [h1,h2]
  ·simp [h1,h2]
theorem spot_none (w:World) (a:Addr) (v:Value) (h:w.cell? a=some v):a.spot=none:=by
 unfold World.cell? at h
 split at h
 ·split at h
  ·cases h
  ·rename_i hs
   simpa using hs
 ·cases h
theorem Tryz.cellsOp:Tryz.prog.cellsOf 76=6:=by kernel_rfl
theorem Tryz.cellsInt:Tryz.prog.cellsOf 3=1:=by kernel_rfl
theorem Tryz.cellsStr:Tryz.prog.cellsOf 9=1:=by kernel_rfl
theorem Tryz.cellsFact:Tryz.prog.cellsOf 37=2:=by kernel_rfl
theorem Tryz.cellsInts:Tryz.prog.cellsOf 35=1:=by kernel_rfl
theorem i64_ofG {n:Int} (h:(Lit.int .i64 n).wf=true):I64 n:=by
 unfold Lit.wf at h
 rw [Bool.and_eq_true,decide_eq_true_eq,decide_eq_true_eq] at h
 exact h
theorem bulk_one {H:Type} (d:DataW H):1≤Rows.uptoBulk d:=by
 cases d with
 | lit l=>cases l<;>simp [Rows.uptoBulk]
 | nil=>simp [Rows.uptoBulk]
 | ptr d=>simp [Rows.uptoBulk]
 | slice elems spare=>simp [Rows.uptoBulk]
 | agg parts=>simp [Rows.uptoBulk]
 | iface t d=>simp [Rows.uptoBulk]
 | map entries=>simp [Rows.uptoBulk]
 | held h=>simp [Rows.uptoBulk]
theorem bulk_part {H:Type} {d:DataW H} {l:List (DataW H)} (h:d∈l):Rows.uptoBulk d≤Rows.uptoBulkAll l:=by
 induction l with
 | nil=>cases h
 | cons x r ih=>
  simp only [Rows.uptoBulkAll]
  rcases List.mem_cons.1 h with e | e
  ·subst e; omega
  ·have:=ih e; omega
theorem bulk_len {H:Type} (l:List (DataW H)):l.length≤Rows.uptoBulkAll l:=by
 induction l with
 | nil=>simp [Rows.uptoBulkAll]
 | cons x r ih=>have:=bulk_one x; simp only [Rows.uptoBulkAll,List.length_cons]; omega
theorem bulk_slice {H:Type} (elems spare:List (DataW H)):Rows.uptoBulkAll elems+1≤Rows.uptoBulk (.slice elems spare):=by
 simp only [Rows.uptoBulk]
 omega
theorem bulk_agg {H:Type} {d:DataW H} {l:List (DataW H)} (h:d∈l):Rows.uptoBulk d+1≤Rows.uptoBulk (.agg l):=by
 have:=bulk_part h
 simp only [Rows.uptoBulk]
 omega
theorem nums_open {H:Type} {enc:TypeId×Value→H} {w:World} {spare:Nat→Bool} {held:Bool} {n:Nat} {cs:List Value} {x:DataW H×List MemPlace} (h:DataW.trod enc Tryz.prog w 0 spare held n 35 cs=some x) :
  ∃ (ao:Option Addr) (vals:List Int) (cap:Nat),cs=[.slice ao vals.length cap]∧InAt (.slice ao vals.length cap) vals w∧(vals≠[]→∀ b,(Value.slice ao vals.length cap).ownBlock=some b→b < w.heap.size)∧vals.length≤Rows.uptoBulk x.1:=by
 rcases Go.Deep.open_slice1 Tryz.underlying35 Tryz.cellsInt h with ⟨rfl,rfl⟩ | ⟨a,len,cap,m,n',V,D,Pl,rfl,_,hle,hcap,hm,rfl,hel⟩
 ·exact ⟨none,[],0,rfl,.inl ⟨rfl,rfl⟩,fun h=>absurd rfl h,Nat.zero_le _⟩
 ·have hlm:len≤m:=by rw [hm]; split<;>omega
  obtain ⟨vals,hvl,hvv⟩:∃ vals:List Int,vals.length=len∧∀ i,i < len→∃ z,vals[i]?=some z∧V i=.int .i64 z:=by
   refine ⟨(List.range len).map (fun i=>match V i with | .int _ z=>z | _=>0),by simp,fun i hi=>?_⟩
   obtain ⟨z,hz,_⟩:=DataW.trod_int Tryz.underlying3 (hel i (by omega)).2
   simp only [List.cons.injEq,and_true] at hz
   refine ⟨z,?_,hz⟩
   rw [List.getElem?_map,List.getElem?_range hi]
   simp [hz]
  have hsp2:0 < len→a.spot=none:=by
   intro h0
   obtain ⟨z,h1,h2⟩:=hvv 0 h0
   have h3:=(hel 0 (by omega)).1
   rw [h2] at h3
   have hsp:=spot_none w _ _ h3
   simpa [Addr.add] using hsp
  have hcell:∀ i,i < len→∃ z,vals[i]?=some z∧a.spot=none∧w.cell? ⟨a.block,a.off+i,none⟩=some (.int .i64 z):=by
   intro i hi
   obtain ⟨z,h1,h2⟩:=hvv i hi
   have h3:=(hel i (by omega)).1
   rw [h2] at h3
   have hsp2:=hsp2 (by omega)
   obtain ⟨g,off,sp⟩:=a
   simp only at hsp2
   subst hsp2
   have e:(⟨g,off,none⟩:Addr).add i=⟨g,off+i,none⟩:=by
    unfold Addr.add
    by_cases hi0:i=0
    ·simp [hi0]
    ·simp [hi0]
   rw [e] at h3
   exact ⟨z,h1,rfl,h3⟩
  refine ⟨some a,vals,cap,by rw [hvl],?_,fun hne b hb=>?_,?_⟩
  ·refine .inr ⟨a,cap,rfl,by rw [hvl]; omega,fun i z hz=>?_⟩
   have hil:i < len:=by rw [←hvl]; exact (List.getElem?_eq_some_iff.1 hz).1
   obtain ⟨z',h1,h2,h3⟩:=hcell i hil
   rw [hz] at h1
   simp only [Option.some.injEq] at h1
   subst h1
   obtain ⟨g,off,sp⟩:=a
   simp only at h2
   subst h2
   exact ⟨g,off,rfl,h3⟩
  ·have hl0:0 < len:=by rw [←hvl]; exact List.length_pos_iff.2 hne
   obtain ⟨z,_,_,h3⟩:=hcell 0 hl0
   have:=World.block_lt_of_cell? w _ h3
   have e:a.block=b:=by simpa [Value.ownBlock] using hb
   rw [←e]
   exact this
  ·rw [hvl]
   have h1:=bulk_slice ((List.range len).map D) ((List.range (m - len)).map fun j=>D (len+j))
   have h2:=bulk_len ((List.range len).map D)
   rw [List.length_map,List.length_range] at h2
   show len≤Rows.uptoBulk (.slice ((List.range len).map D) ((List.range (m - len)).map fun j=>D (len+j)))
   omega
set_option maxRecDepth 100000 in
theorem opG_open {H:Type} {enc:TypeId×Value→H} {w:World} {spare:Nat→Bool} {held:Bool} {n:Nat} {cs:List Value} {x:DataW H×List MemPlace} (h:DataW.trod enc Tryz.prog w 0 spare held n 76 cs=some x) :
  ∃ (q m:Int) (s:ByteArray) (f:Sv.Fact) (fao:Option Addr) (fc:Nat) (a:Int),cs=[.int .i64 q,.int .i64 m,.string s,.int .i64 f.kind,.slice fao f.vals.length fc,.int .i64 a]∧s.size≤maxLen∧I64 m∧InAt (.slice fao f.vals.length fc) f.vals w∧(f.vals≠[]→∀ b,(Value.slice fao f.vals.length fc).ownBlock=some b→b < w.heap.size)∧f.vals.length≤Rows.uptoBulk x.1:=by
 obtain ⟨xs,n1,_,hxx,hl,hlen,hf⟩:=DataW.trod_struct Tryz.underlying76 h
 rw [Tryz.cellsOp] at hl
 match cs,hl with
 | [c0,c1,c2,c3,c4,c5],_=>
  match xs,hlen with
  | [y0,y1,y2,y3,y4],_=>
   have g0:DataW.trod enc Tryz.prog w 0 spare held n1 3 ((([c0,c1,c2,c3,c4,c5]:List Value).drop 0).take (Tryz.prog.cellsOf 3))=some y0:=hf 0 _ rfl
   have g1:DataW.trod enc Tryz.prog w 0 spare held n1 3 ((([c0,c1,c2,c3,c4,c5]:List Value).drop 1).take (Tryz.prog.cellsOf 3))=some y1:=hf 1 _ rfl
   have g2:DataW.trod enc Tryz.prog w 0 spare held n1 9 ((([c0,c1,c2,c3,c4,c5]:List Value).drop 2).take (Tryz.prog.cellsOf 9))=some y2:=hf 2 _ rfl
   have g3:DataW.trod enc Tryz.prog w 0 spare held n1 37 ((([c0,c1,c2,c3,c4,c5]:List Value).drop 3).take (Tryz.prog.cellsOf 37))=some y3:=hf 3 _ rfl
   have g4:DataW.trod enc Tryz.prog w 0 spare held n1 3 ((([c0,c1,c2,c3,c4,c5]:List Value).drop 5).take (Tryz.prog.cellsOf 3))=some y4:=hf 4 _ rfl
   rw [Tryz.cellsInt] at g0 g1 g4
   rw [Tryz.cellsStr] at g2
   rw [Tryz.cellsFact] at g3
   obtain ⟨q,hq,_⟩:=DataW.trod_int Tryz.underlying3 g0
   obtain ⟨m,hm,_,hmw⟩:=DataW.trod_int Tryz.underlying3 g1
   obtain ⟨s,hs,_,hsz⟩:=DataW.trod_string Tryz.underlying9 g2
   obtain ⟨a,ha,_⟩:=DataW.trod_int Tryz.underlying3 g4
   obtain ⟨ys,n2,_,hyy,hl2,hlen2,hf2⟩:=DataW.trod_struct Tryz.underlying37 g3
   match ys,hlen2 with
   | [z0,z1],_=>
    have k0:DataW.trod enc Tryz.prog w 0 spare held n2 3 (((([c0,c1,c2,c3,c4,c5]:List Value).drop 3).take 2).drop 0 |>.take (Tryz.prog.cellsOf 3))=some z0:=hf2 0 _ rfl
    have k1:DataW.trod enc Tryz.prog w 0 spare held n2 35 (((([c0,c1,c2,c3,c4,c5]:List Value).drop 3).take 2).drop 1 |>.take (Tryz.prog.cellsOf 35))=some z1:=hf2 1 _ rfl
    rw [Tryz.cellsInt] at k0
    rw [Tryz.cellsInts] at k1
    obtain ⟨fk,hk,_⟩:=DataW.trod_int Tryz.underlying3 k0
    obtain ⟨fao,vals,fc,hc4,hin,hlt,hbk⟩:=nums_open k1
    simp at hq hm hs ha hk hc4
    subst hq hm hs ha hk hc4
    refine ⟨q,m,s,⟨fk,vals⟩,fao,fc,a,rfl,hsz,i64_ofG hmw,hin,hlt,?_⟩
    have b1:Rows.uptoBulk z1.1+1≤Rows.uptoBulk y3.1:=by rw [hyy]; exact bulk_agg (by simp)
    have b2:Rows.uptoBulk y3.1+1≤Rows.uptoBulk x.1:=by rw [hxx]; exact bulk_agg (by simp)
    show vals.length≤_
    omega
theorem opsG_open {H:Type} {enc:TypeId×Value→H} {w:World} {spare:Nat→Bool} {held:Bool} {fuel:Nat} {cs:List Value} {x:DataW H×List MemPlace} (h:DataW.trod enc Tryz.prog w 0 spare held fuel 22 cs=some x) (hb:Rows.uptoBulk x.1≤1048576) :
  ∃ ao len cap,cs=[.slice ao len cap]∧OpsG ao len w∧len≤1048576:=by
 rcases Go.Deep.open_slice Tryz.underlying22 h with ⟨rfl,_⟩ | ⟨a,len,cap,m,n,D,Pl,rfl,_,hle,hcap,hm,hx,hel⟩
 ·exact ⟨none,0,0,rfl,fun k hk=>by omega,Nat.zero_le _⟩
 ·have hml:len≤m:=by rw [hm]; split<;>omega
  have hx1:x.1=.slice ((List.range len).map D) ((List.range (m - len)).map fun j=>D (len+j)):=by rw [hx]
  have hs1:=bulk_slice ((List.range len).map D) ((List.range (m - len)).map fun j=>D (len+j))
  have hs2:=bulk_len ((List.range len).map D)
  rw [←hx1] at hs1
  rw [List.length_map,List.length_range] at hs2
  refine ⟨some a,len,cap,rfl,?_,by omega⟩
  have key:∀ i,i < len→∃ (q n:Int) (s:ByteArray) (f:Sv.Fact) (fao:Option Addr) (fc:Nat) (z:Int),s.size≤maxLen∧I64 n∧InAt (.slice fao f.vals.length fc) f.vals w∧(f.vals≠[]→∀ b,(Value.slice fao f.vals.length fc).ownBlock=some b→b < w.heap.size)∧f.vals.length≤1048576∧∀ j,j < 6→w.cell? ((a.add (i * 6)).add j)=([.int .i64 q,.int .i64 n,.string s,.int .i64 f.kind,.slice fao f.vals.length fc,.int .i64 z]:List Value)[j]?:=by
   intro i hi
   obtain ⟨cs',h1,h2⟩:=hel i (by omega)
   obtain ⟨q,m2,s,f,fao,fc,z,rfl,hsz,hn64,hin,hlt,hbk⟩:=opG_open h2
   rw [Tryz.cellsOp] at h1
   unfold World.cells? at h1
   rw [if_pos (Nat.zero_le _)] at h1
   have hD:Rows.uptoBulk (D i)≤Rows.uptoBulkAll ((List.range len).map D):=bulk_part (List.mem_map.2 ⟨i,List.mem_range.2 hi,rfl⟩)
   refine ⟨q,m2,s,f,fao,fc,z,hsz,hn64,hin,hlt,?_,fun j hj=>?_⟩
   ·have hbk2:f.vals.length≤Rows.uptoBulk (D i):=hbk
    omega
   ·exact mapM_some_get h1 j j (by simp [hj])
  intro k hk
  obtain ⟨_,_,_,_,_,_,_,_,_,_,_,_,h0⟩:=key 0 (by omega)
  have h00:=h0 0 (by omega)
  have hsp:=spot_none w _ _ h00
  have hsp2:a.spot=none:=by simpa [Addr.add] using hsp
  obtain ⟨g,off,sp⟩:=a
  simp only at hsp2
  subst hsp2
  obtain ⟨q,n,s,f,fao,fc,z,hsz,hn64,hin,hlt,hbk,hc⟩:=key k hk
  refine ⟨g,off,q,n,s,f,fao,fc,z,rfl,hsz,hn64,?_,hin,hlt,hbk⟩
  have hc':=fun j hj=>by have:=hc j hj; rw [add_none] at this; exact this
  exact ⟨hc' 0 (by omega),hc' 1 (by omega),hc' 2 (by omega),hc' 3 (by omega),hc' 4 (by omega),hc' 5 (by omega)⟩
end Go.Proofs.YtolhbeekfjnfmaaGreatDoor

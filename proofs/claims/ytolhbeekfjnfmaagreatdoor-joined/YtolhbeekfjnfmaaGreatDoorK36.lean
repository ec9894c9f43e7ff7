import Derived.ProofKit
import Derived.Deep.Slices
import Derived.OpenShut
import Derived.LaidMore
import Derived.LaidHandle
import Derived.Stop.Joined
import Derived.Stop.LaidTwo
import Derived.SizedLaws
import Derived.SevenTiedAt
import Derived.Lib.LaidTab
import Derived.Test.YtolhbeekfjnfmaaGreatDoorK32
import Derived.Test.YtolhbeekfjnfmaaGreatDoorRows
import Derived.Test.YtolhbeekfjnfmaaGreatDoorCards
import Derived.Test.YtolhbeekfjnfmaaGreatDoorTie
namespace Go.Proofs.YtolhbeekfjnfmaaGreatDoor
open Go.ChangeShapes Go.WideShapes Go.ChangeAt Go.RowKit
open Go.WideMaps Go.WideElems
open Go.ChangeMaps (open_string shut_string)
theorem Tryz.own:ownKnob Tryz.prog.godebug=none:=by kernel_rfl
theorem Tryz.gEt:Tryz.prog.globalNamed "errors.errorType"=some 1:=by kernel_rfl
theorem Tryz.gTx:Tryz.prog.globalNamed "sieve/rules.ErrText"=some 2:=by kernel_rfl
theorem Tryz.gLm:Tryz.prog.globalNamed "sieve/rules.ErrLimit"=some 0:=by kernel_rfl
theorem Tryz.tTx:(Tryz.prog.globals[2]?).map (·.type)=some 79:=by kernel_rfl
theorem Tryz.tLm:(Tryz.prog.globals[0]?).map (·.type)=some 79:=by kernel_rfl
theorem Tryz.tPw:(Tryz.prog.globals[3]?).map (·.type)=some 340:=by kernel_rfl
theorem Tryz.rt:(Tryz.prog.cutTypes.find? (·.1 == "internal/reflectlite.rtype")).map (·.2)=some 241:=by kernel_rfl
theorem Tryz.oneRow:((List.range 382).filter fun t=>Tryz.prog.rowNamed t [101,114,114,111,114])=[79]:=by kernel_rfl
theorem Tryz.size:Tryz.prog.types.size=382:=by kernel_rfl
theorem Tryz.cellsES:Tryz.prog.cellsOf 370=1:=by kernel_rfl
theorem Tryz.cellsS:Tryz.prog.cellsOf 9=1:=by kernel_rfl
theorem Tryz.cells64:Tryz.prog.cellsOf 309=1:=by kernel_rfl
theorem Tryz.cellsA:Tryz.prog.cellsOf 340=20:=by kernel_rfl
theorem Tryz.handleErr:typeHandle Tryz.prog 79=.pointer (some ⟨6,79,none⟩):=by kernel_rfl
theorem pow_data:(Rows.laid_internal_strconv_uint64pow10:DataW Unit)=Lib.tabData .u64 Lib.pow10Tab:=by kernel_rfl
def laidList:List (String×DataW Unit):=Rows.writtenRow.laid
theorem door_met (os:Os) (args:Array Value):laidMetH Tryz.prog laidList ((World.doorLaid Tryz.prog 400 os).forCall (fun _ _=>0) ⟨#[],args,[]⟩).memory:=
 laidMetH_of_parts3 (fuel:=8) (laidMet_of_run' 8 (by kernel_rfl) (by kernel_rfl)) (by kernel_rfl) (by kernel_rfl)
theorem Tryz.star:("*" ++ "errors.errorString":String)= "*errors.errorString":=by decide +kernel
theorem Tryz.rowES (u:TypeId) (h:Tryz.prog.typeName? 3 u=some "*errors.errorString"):u=345:=
 typeName_ptr_named (nm:= "errors.errorString") (by rw [Tryz.star]; kernel_rfl) (by kernel_rfl) (by decide) u (by rw [Tryz.star]; exact h)
theorem of_laid {W:World} (h:laidMetH Tryz.prog laidList W):∃ aT aL,LD aT aL W∧3 < W.heap.size:=by
 have h':laidMet Tryz.prog [("math/bits.deBruijn32tab",Rows.laid_math_bits_deBruijn32tab),("math/bits.deBruijn64tab",Rows.laid_math_bits_deBruijn64tab),("internal/strconv.uint64pow10",Rows.laid_internal_strconv_uint64pow10),("sieve/rules.ErrText",Rows.laid_sieve_rules_ErrText),("sieve/rules.ErrLimit",Rows.laid_sieve_rules_ErrLimit)] W∧handlesMet Tryz.prog [("errors.errorType",Rows.laid_errors_errorType)] W:=h
 obtain ⟨hd,hh⟩:=h'
 have h3:=hd.tail.tail
 have htab:Lib.TabIs Tryz.prog W "internal/strconv.uint64pow10" .u64 Lib.pow10Tab:=Lib.tabIs_of_head Tryz.powIs Tryz.tPw Tryz.underlying340 Tryz.underlying309 Tryz.cells64 Tryz.cellsA (by rw [←pow_data]; exact h3)
 obtain ⟨a0,a1,s0,s1,c0,c1,t0,t1,hv0,hv1,hc0,hs0,hz0,hc1,hs1,hz1,hne,hb0,hb1⟩:=laid_sentinels2 h3.tail Tryz.gTx Tryz.tTx Tryz.gLm Tryz.tLm Tryz.underlying79 Tryz.rowES Tryz.underlying345 Tryz.underlying370 rfl rfl Tryz.underlying9 Tryz.cellsES Tryz.cellsS
 obtain ⟨name,u,ty,e1,e2,e3,e4,e5⟩:=hh _ (List.mem_singleton.2 rfl)
 have en:name=[101,114,114,111,114]:=(Option.some.inj e1).symm
 subst en
 obtain rfl:=Option.some.inj (Tryz.rt.symm.trans e2)
 have hm:ty∈(List.range 382).filter fun t=>Tryz.prog.rowNamed t [101,114,114,111,114]:=List.mem_filter.2 ⟨List.mem_range.2 (by rw [←Tryz.size]; exact e3),e4⟩
 rw [Tryz.oneRow] at hm
 obtain rfl:=List.mem_singleton.1 hm
 rw [Tryz.handleErr] at e5
 have hpw:3 < W.heap.size:=by
  unfold Lib.TabIs World.var? at htab
  rw [Tryz.powIs] at htab
  simp only [Option.bind_some] at htab
  rcases Nat.lt_or_ge 3 W.heap.size with hl | hl
  ·exact hl
  ·rw [Array.getElem?_eq_none hl] at htab; cases htab
 exact ⟨a0,a1,⟨by simpa using World.var?_cell Tryz.gTx hv0 0,by simpa using World.var?_cell Tryz.gLm hv1 0,hne,⟨c0,t0,hb0⟩,⟨c1,t1,hb1⟩,by simpa using World.var?_cell Tryz.gEt e5 0,htab⟩,hpw⟩
theorem Tryz.laidOut:laidOutB Tryz.prog=true:=by kernel_rfl
theorem add_none (g o i j:Nat):((⟨g,o,none⟩:Addr).add i).add j=⟨g,o+i+j,none⟩:=by
 unfold Addr.add
 by_cases h1:i=0
 ·by_cases h2:j=0
  ·simp [h1,h2]
  ·simp [h1,h2]
 ·by_cases h2:j=0
  ·simp [h1,h2]
  ·simp [h1,h2]
theorem spot_none (w:World) (a:Addr) (v:Value) (h:w.cell? a=some v):a.spot=none:=by
 unfold World.cell? at h
 split at h
 ·split at h
  ·cases h
  ·rename_i hs
   simpa using hs
 ·cases h
theorem Tryz.cellsStp:Tryz.prog.cellsOf 41=6:=by kernel_rfl
theorem Tryz.cellsInt:Tryz.prog.cellsOf 3=1:=by kernel_rfl
theorem Tryz.cellsA4:Tryz.prog.cellsOf 39=4:=by kernel_rfl
theorem i64_of {n:Int} (h:(Lit.int .i64 n).wf=true):I64 n:=by
 unfold Lit.wf at h
 rw [Bool.and_eq_true,decide_eq_true_eq,decide_eq_true_eq] at h
 exact h
set_option maxRecDepth 100000 in
theorem stp_open {H:Type} {enc:TypeId×Value→H} {w:World} {spare:Nat→Bool} {held:Bool} {n:Nat} {cs:List Value} {x:DataW H×List MemPlace} (h:DataW.trod enc Tryz.prog w 0 spare held n 41 cs=some x) :
  ∃ p:Stp,cs=[.int .i64 p.kd,.int .i64 p.a,.int .i64 p.v0,.int .i64 p.v1,.int .i64 p.v2,.int .i64 p.v3]∧p.ok:=by
 obtain ⟨xs,n1,_,_,hl,hlen,hf⟩:=DataW.trod_struct Tryz.underlying41 h
 rw [Tryz.cellsStp] at hl
 match cs,hl with
 | [c0,c1,c2,c3,c4,c5],_=>
  match xs,hlen with
  | [y0,y1,y2],_=>
   have g0:DataW.trod enc Tryz.prog w 0 spare held n1 3 ((([c0,c1,c2,c3,c4,c5]:List Value).drop 0).take (Tryz.prog.cellsOf 3))=some y0:=hf 0 _ rfl
   have g1:DataW.trod enc Tryz.prog w 0 spare held n1 3 ((([c0,c1,c2,c3,c4,c5]:List Value).drop 1).take (Tryz.prog.cellsOf 3))=some y1:=hf 1 _ rfl
   have g2:DataW.trod enc Tryz.prog w 0 spare held n1 39 ((([c0,c1,c2,c3,c4,c5]:List Value).drop 2).take (Tryz.prog.cellsOf 39))=some y2:=hf 2 _ rfl
   rw [Tryz.cellsInt] at g0 g1
   rw [Tryz.cellsA4] at g2
   obtain ⟨q,hq,_,w0⟩:=DataW.trod_int Tryz.underlying3 g0
   obtain ⟨m,hm,_,w1⟩:=DataW.trod_int Tryz.underlying3 g1
   obtain ⟨ys,n2,_,_,hl2,hlen2,hf2⟩:=DataW.trod_array Tryz.underlying39 g2
   match ys,hlen2 with
   | [z0,z1,z2,z3],_=>
    have k0:DataW.trod enc Tryz.prog w 0 spare held n2 3 (((([c0,c1,c2,c3,c4,c5]:List Value).drop 2).take 4).drop (0 * Tryz.prog.cellsOf 3) |>.take (Tryz.prog.cellsOf 3))=some z0:=hf2 0 (by omega)
    have k1:DataW.trod enc Tryz.prog w 0 spare held n2 3 (((([c0,c1,c2,c3,c4,c5]:List Value).drop 2).take 4).drop (1 * Tryz.prog.cellsOf 3) |>.take (Tryz.prog.cellsOf 3))=some z1:=hf2 1 (by omega)
    have k2:DataW.trod enc Tryz.prog w 0 spare held n2 3 (((([c0,c1,c2,c3,c4,c5]:List Value).drop 2).take 4).drop (2 * Tryz.prog.cellsOf 3) |>.take (Tryz.prog.cellsOf 3))=some z2:=hf2 2 (by omega)
    have k3:DataW.trod enc Tryz.prog w 0 spare held n2 3 (((([c0,c1,c2,c3,c4,c5]:List Value).drop 2).take 4).drop (3 * Tryz.prog.cellsOf 3) |>.take (Tryz.prog.cellsOf 3))=some z3:=hf2 3 (by omega)
    rw [Tryz.cellsInt] at k0 k1 k2 k3
    obtain ⟨a0,e0,_,r0⟩:=DataW.trod_int Tryz.underlying3 k0
    obtain ⟨a1,e1,_,r1⟩:=DataW.trod_int Tryz.underlying3 k1
    obtain ⟨a2,e2,_,r2⟩:=DataW.trod_int Tryz.underlying3 k2
    obtain ⟨a3,e3,_,r3⟩:=DataW.trod_int Tryz.underlying3 k3
    simp at hq hm e0 e1 e2 e3
    subst hq hm e0 e1 e2 e3
    exact ⟨⟨q,m,a0,a1,a2,a3⟩,rfl,i64_of w0,i64_of w1,i64_of r0,i64_of r1,i64_of r2,i64_of r3⟩
theorem stps_open {H:Type} {enc:TypeId×Value→H} {w:World} {spare:Nat→Bool} {held:Bool} {fuel:Nat} {cs:List Value} {x:DataW H×List MemPlace} (h:DataW.trod enc Tryz.prog w 0 spare held fuel 25 cs=some x) :
  ∃ ao len cap,cs=[.slice ao len cap]∧StpsAt ao len w∧len≤maxLen:=by
 rcases Go.Deep.open_slice Tryz.underlying25 h with ⟨rfl,_⟩ | ⟨a,len,cap,m,n,D,Pl,rfl,_,hle,hcap,hm,_,hel⟩
 ·exact ⟨none,0,0,rfl,fun k hk=>by omega,Nat.zero_le _⟩
 ·refine ⟨some a,len,cap,rfl,?_,by omega⟩
  have hml:len≤m:=by rw [hm]; split<;>omega
  have key:∀ i,i < len→∃ p:Stp,p.ok∧∀ j,j < 6→w.cell? ((a.add (i * 6)).add j)=([.int .i64 p.kd,.int .i64 p.a,.int .i64 p.v0,.int .i64 p.v1,.int .i64 p.v2,.int .i64 p.v3]:List Value)[j]?:=by
   intro i hi
   obtain ⟨cs',h1,h2⟩:=hel i (by omega)
   obtain ⟨p,rfl,hok⟩:=stp_open h2
   rw [Tryz.cellsStp] at h1
   unfold World.cells? at h1
   rw [if_pos (Nat.zero_le _)] at h1
   exact ⟨p,hok,fun j hj=>mapM_some_get h1 j j (by simp [hj])⟩
  intro k hk
  obtain ⟨_,_,h0⟩:=key 0 (by omega)
  have h00:=h0 0 (by omega)
  have hsp:=spot_none w _ _ h00
  have hsp2:a.spot=none:=by simpa [Addr.add] using hsp
  obtain ⟨g,off,sp⟩:=a
  simp only at hsp2
  subst hsp2
  obtain ⟨p,hok,hc⟩:=key k hk
  refine ⟨g,off,p,rfl,hok,?_⟩
  have hc':=fun j hj=>by have:=hc j hj; rw [add_none] at this; exact this
  exact ⟨hc' 0 (by omega),hc' 1 (by omega),hc' 2 (by omega),hc' 3 (by omega),hc' 4 (by omega),hc' 5 (by omega)⟩
end Go.Proofs.YtolhbeekfjnfmaaGreatDoor

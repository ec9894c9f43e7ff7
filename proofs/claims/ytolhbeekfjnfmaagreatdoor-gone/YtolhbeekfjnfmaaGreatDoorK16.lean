import Derived.Lib.OthersKept
import Derived.Lib.Builder
import Derived.Lib.AppendStr
import Derived.Test.YtolhbeekfjnfmaaGreatDoorK05
namespace Go.Proofs.YtolhbeekfjnfmaaGreatDoor
open Go.RowKit
theorem Tryz.infoByte:(Tryz.prog.info? 5).map (fun i=>(i.zero,i.size,i.bytes))=some (some (.int .u8 0),1,1):=by kernel_rfl
theorem Tryz.sizeBuilder:(Tryz.prog.info? 125).map (·.size)=some 2:=by kernel_rfl
theorem Tryz.liesBuilder:liesAt Tryz.prog Tryz.prog.depth 125 (2 / Tryz.prog.cellsOf 125) 0 125 1=true:=by kernel_rfl
set_option maxHeartbeats 1000000 in
theorem copy_used (b:Nat) (w:World) (h0:w.cell? ⟨b,0,none⟩=some (.pointer (some ⟨b,0,none⟩))) :
  Calls Tryz.prog 130 #[.pointer (some ⟨b,0,none⟩)] w fun e w'=>e=.returned (.tuple #[])∧w'=w:=by
 obtain ⟨j,hj,_⟩:=Option.map_eq_some_iff.1 Tryz.sizeBuilder
 have hq:=Lib.run_neq_ptr_same (P:=Tryz.prog) w ⟨b,0,none⟩ Tryz.underlying122 hj
 go_enter Tryz.func130,Tryz.ntmps130
 go_wp2
 go_end0
 exact ⟨rfl,rfl⟩
set_option maxHeartbeats 1000000 in
theorem copy_fresh (b:Nat) (w:World) (h0:w.cell? ⟨b,0,none⟩=some (.pointer none)) (hsh:w.shape? b=some (125,2)) (hfz:w.frozen? ⟨b,0,none⟩=false) :
  Calls Tryz.prog 130 #[.pointer (some ⟨b,0,none⟩)] w fun e w'=>e=.returned (.tuple #[])∧w'=w.setCell ⟨b,0,none⟩ (.pointer (some ⟨b,0,none⟩)):=by
 obtain ⟨j,hj,hjs⟩:=Option.map_eq_some_iff.1 Tryz.sizeBuilder
 have k1:=Lib.run_to_unsafe (P:=Tryz.prog) w ⟨b,0,none⟩ Tryz.underlying122 Tryz.underlying185 hj (by rw [hjs]; decide) hsh (Nat.zero_lt_succ 1)
 have k2:=@run_callFunc_extern Tryz.prog 158 _ Extern.AbiNoEscape.same Tryz.func158 (by kernel_rfl) (by kernel_rfl) (by kernel_rfl) (by kernel_rfl)
 have k3:=Lib.run_noEscape (P:=Tryz.prog) w (.pointer (some ⟨b,0,none⟩))
 have k4:=Lib.run_from_unsafe (P:=Tryz.prog) w ⟨b,0,none⟩ Tryz.underlying185 Tryz.underlying122 hj hsh Tryz.liesBuilder
 go_enter Tryz.func130,Tryz.ntmps130
 go_wp2
 go_end0
 exact ⟨rfl,rfl⟩
def Bld (B b:Nat) (l:List UInt8) (w:World):Prop:=Lib.IsBuilder 125 5 B b (Lib.byteCells l) w∧B≤w.heap.size
def Wr (B b:Nat) (w w':World):Prop:=Below B w w'∧Lib.OthersKept 5 (some b) w w'
theorem Wr.refl (B b:Nat) (w:World):Wr B b w w:=⟨Below.refl B w,Lib.OthersKept.refl _ _ w⟩
theorem Wr.trans {B b:Nat} {a c d:World} (h:Wr B b a c) (k:Wr B b c d):Wr B b a d:=⟨h.1.trans k.1,h.2.trans k.2⟩
theorem Wr.alloc {B b:Nat} {a w:World} (h:Wr B b a w) (hB:B≤w.heap.size) (o:Obj):Wr B b a (w.alloc o):=⟨h.1.alloc hB o,h.2.alloc o⟩
theorem Wr.un {B b:Nat} {a w:World} {o:Obj} (h:Wr B b (a.alloc o) w) (hB:B≤a.heap.size):Wr B b a w:=((Wr.refl B b a).alloc hB o).trans h
theorem Wr.gr {B b:Nat} {a w w':World} (h:Wr B b a w) (g:w.grownBy w' none) (hB:B≤w.heap.size):Wr B b a w':=
 ⟨h.1.grown g hB (by simp),h.2.grown g (by simp)⟩
theorem byte_app (l m:List UInt8):Lib.byteCells (l ++ m)=Lib.byteCells l ++ Lib.byteCells m:=by simp [Lib.byteCells]
theorem Bld.alloc {B b:Nat} {l:List UInt8} {w:World} (h:Bld B b l w) (o:Obj):Bld B b l (w.alloc o):=by
 obtain ⟨h1,h2⟩:=h
 refine ⟨?_,by simp; omega⟩
 have key:∀ p,Lib.BuilderAt 125 5 B b p (Lib.byteCells l) w→Lib.BuilderAt 125 5 B b p (Lib.byteCells l) (w.alloc o):=by
  intro p hp
  have hlt:=hp.lt
  obtain ⟨hB,v,hb,hown,hne⟩:=hp
  exact ⟨hB,v,by rw [Below.heap_alloc w o b hlt]; exact hb,hown.alloc o,hne⟩
 rcases h1 with h1 | h1
 ·exact .inl (key _ h1)
 ·exact .inr (key _ h1)
theorem Bld.gr {B b:Nat} {l:List UInt8} {w w':World} (h:Bld B b l w) (g:w.grownBy w' none):Bld B b l w':=by
 obtain ⟨h1,h2⟩:=h
 refine ⟨?_,Nat.le_trans h2 g.size⟩
 have key:∀ p,Lib.BuilderAt 125 5 B b p (Lib.byteCells l) w→Lib.BuilderAt 125 5 B b p (Lib.byteCells l) w':=by
  intro p hp
  have hlt:=hp.lt
  obtain ⟨hB,v,hb,hown,hne⟩:=hp
  exact ⟨hB,v,by rw [g.block b hlt (by simp)]; exact hb,hown.kept g (by cases hv:v.ownBlock<;>simp),hne⟩
 rcases h1 with h1 | h1
 ·exact .inl (key _ h1)
 ·exact .inr (key _ h1)
theorem copy_w (B b:Nat) (bs:List Value) (w:World) (h:Lib.IsBuilder 125 5 B b bs w) :
  Calls Tryz.prog 130 #[.pointer (some ⟨b,0,none⟩)] w fun e w'=>e=.returned (.tuple #[])∧Lib.BuilderAt 125 5 B b (.pointer (some ⟨b,0,none⟩)) bs w'∧Wr B b w w':=by
 rcases h with h | h
 ·refine (copy_fresh b w h.cell0 h.shape h.frozen0).mono ?_
  rintro e w' ⟨rfl,rfl⟩
  exact ⟨rfl,h.used _,(Below.refl B w).setCell (p:=⟨b,0,none⟩) h.1 _,(Lib.OthersKept.refl _ _ w).setCell ⟨b,0,none⟩ rfl _⟩
 ·refine (copy_used b w h.cell0).mono ?_
  rintro e w' ⟨rfl,rfl⟩
  exact ⟨rfl,h,Wr.refl B b _⟩
theorem own_kind {w:World} {B:Nat} {e:TypeId} {v:Value} {n:Nat} {xs:List Value} (h:w.ownsRow B e 1 v n xs):∀ g,v.ownBlock=some g→∃ c fz,w.heap[g]?=some (.cells c e fz):=
 fun g hg=>(RowOk.of h g hg).2
set_option maxHeartbeats 2000000 in
set_option maxRecDepth 100000 in
theorem wb_w (B b:Nat) (l:List UInt8) (c:UInt8) (x:Int) (hx:x=c.toNat) (w:World) (h:Bld B b l w) (hlen:l.length≤1000000) :
  Calls Tryz.prog 98 #[.pointer (some ⟨b,0,none⟩),.int .u8 x] w fun e w'=>e=.returned .nilIface∧Bld B b (l ++ [c]) w'∧Wr B b w w':=by
 subst hx
 obtain ⟨i0,hi,hz0,hz1,hz2⟩:=info_parts Tryz.infoByte
 obtain ⟨hbl,hBw⟩:=h
 have hlen':(Lib.byteCells l).length≤1000000:=by simpa [Lib.byteCells] using hlen
 rw [show Lib.byteCells l=Lib.byteCells l from rfl] at hbl
 generalize hbs:Lib.byteCells l=bs at hbl hlen'
 have HB:=hide hbs
 clear hbs
 go_enter Tryz.func98,Tryz.ntmps98
 go_wp2_with fail
 refine (copy_w B b bs _ hbl).mono ?_
 rintro e w1 ⟨rfl,h1,hb1,hk1⟩
 obtain ⟨hB,v,hbk,hown,hne⟩:=h1
 have c0:w1.cell? ⟨b,0,none⟩=some (.pointer (some ⟨b,0,none⟩)):=by rw [Lib.cell_of_heap hbk]; rfl
 have c1:w1.cell? ⟨b,1,none⟩=some v:=by rw [Lib.cell_of_heap hbk]; rfl
 have hs1:=hb1.size
 go_wp2_with (at_builtin; refine wpList_append_own _ rfl _ _ 123 rfl B 5 i0 (.int .u8 0) 1 1 Tryz.underlying123 hi hz0 hz1 hz2 rfl (by decide) _ _ _ rfl (hown.alloc _) ⟨w1.heap.size,0,none⟩ 1 1 [.int .u8 c.toNat] rfl rfl ?c1 ?c2 ?c3 ?c4 ?c5 ?_)
 case c1=>
  intro j u hj
  match j,hj with
  | 0,hj=>simp at hj; subst hj; simp [Addr.add]
 case c2=>intro u hu; simp at hu; subst hu; rfl
 case c3=>unfold maxLen; omega
 case c4=>omega
 case c5=>simp; omega
 intro v' w2 hown' hgrow _
 have hlt:b < w1.heap.size:=row_lt hbk
 have hb2:w2.heap[b]?=some (.cells #[.pointer (some ⟨b,0,none⟩),v] 125 (0,0)):=by
  rw [hgrow.block b (by simp; omega) (fun e=>hne e.symm),Below.heap_alloc w1 _ b hlt]
  exact hbk
 have d0:w2.cell? ⟨b,0,none⟩=some (.pointer (some ⟨b,0,none⟩)):=by rw [Lib.cell_of_heap hb2]; rfl
 have d1:w2.cell? ⟨b,1,none⟩=some v:=by rw [Lib.cell_of_heap hb2]; rfl
 have f1:w2.frozen? ⟨b,1,none⟩=false:=Lib.frozen_of_heap hb2 1
 obtain ⟨g,cap,rfl⟩:∃ g cap,v'=.slice (some ⟨g,0,none⟩) (bs.length+1) cap:=by
  rcases hown'.2 with ⟨_,h0⟩ | ⟨g,cap,cur,hv,_⟩
  ·omega
  ·exact ⟨g,cap,hv⟩
 go_wp2
 go_ret
 have hbel:=((hb1.alloc (by omega) (.cells #[.int .u8 c.toNat] 5)).grown hgrow (by simp; omega) (fun k hk=>(hown.lt k hk).1)).setCell (p:=⟨b,1,none⟩) hB (.slice (some ⟨g,0,none⟩) (bs.length+1) cap)
 refine ⟨rfl,⟨.inr ?_,?_⟩,hbel,((hk1.alloc _).grown hgrow (own_kind (hown.alloc _))).setCell ⟨b,1,none⟩ rfl _⟩
 ·rw [byte_app,unhide HB]
  exact Lib.BuilderAt.put (T:=125) (e:=5) hB hb2 (bs':=bs ++ [.int .u8 c.toNat]) (by simpa using hown') (by decide)
 ·have:=hbel.size; omega
set_option maxHeartbeats 2000000 in
set_option maxRecDepth 100000 in
theorem ws_w (B b:Nat) (l:List UInt8) (s:ByteArray) (w:World) (h:Bld B b l w) (hlen:l.length≤1000000) (hs:s.size≤1000000) :
  Calls Tryz.prog 97 #[.pointer (some ⟨b,0,none⟩),.string s] w fun e w'=>e=.returned (.tuple #[.int .i64 s.size,.nilIface])∧Bld B b (l ++ s.data.toList) w'∧Wr B b w w':=by
 obtain ⟨i0,hi,hz0,hz1,hz2⟩:=info_parts Tryz.infoByte
 obtain ⟨hbl,hBw⟩:=h
 have hlen':(Lib.byteCells l).length≤1000000:=by simpa [Lib.byteCells] using hlen
 generalize hbs:Lib.byteCells l=bs at hbl hlen'
 have HB:=hide hbs
 clear hbs
 go_enter Tryz.func97,Tryz.ntmps97
 go_wp2_with fail
 refine (copy_w B b bs _ hbl).mono ?_
 rintro e w1 ⟨rfl,h1,hb1,hk1⟩
 obtain ⟨hB,v,hbk,hown,hne⟩:=h1
 have c0:w1.cell? ⟨b,0,none⟩=some (.pointer (some ⟨b,0,none⟩)):=by rw [Lib.cell_of_heap hbk]; rfl
 have c1:w1.cell? ⟨b,1,none⟩=some v:=by rw [Lib.cell_of_heap hbk]; rfl
 have hs1:=hb1.size
 go_wp2_with (at_builtin; refine Lib.wpList_append_own_string _ rfl _ _ 123 9 rfl B 5 i0 Tryz.underlying123 Tryz.underlying9 hi hz0 hz1 hz2 _ _ _ rfl hown s rfl ?c3 ?c4 ?c5 ?_)
 case c3=>unfold maxLen; omega
 case c4=>omega
 case c5=>omega
 intro v' w2 hown' hgrow _
 have hlt:b < w1.heap.size:=row_lt hbk
 have hb2:w2.heap[b]?=some (.cells #[.pointer (some ⟨b,0,none⟩),v] 125 (0,0)):=by
  rw [hgrow.block b hlt (fun e=>hne e.symm)]
  exact hbk
 have d0:w2.cell? ⟨b,0,none⟩=some (.pointer (some ⟨b,0,none⟩)):=by rw [Lib.cell_of_heap hb2]; rfl
 have d1:w2.cell? ⟨b,1,none⟩=some v:=by rw [Lib.cell_of_heap hb2]; rfl
 have f1:w2.frozen? ⟨b,1,none⟩=false:=Lib.frozen_of_heap hb2 1
 obtain ⟨ao,n',cap,rfl⟩:∃ ao n' cap,v'=.slice ao n' cap:=by
  rcases hown'.2 with ⟨hv,_⟩ | ⟨g,cap,cur,hv,_⟩
  ·exact ⟨_,_,_,hv⟩
  ·exact ⟨_,_,_,hv⟩
 go_wp2
 go_ret2
 have hbel:=(hb1.grown hgrow (by omega) (fun k hk=>(hown.lt k hk).1)).setCell (p:=⟨b,1,none⟩) hB (.slice ao n' cap)
 refine ⟨rfl,⟨.inr ?_,?_⟩,hbel,(hk1.grown hgrow (own_kind hown)).setCell ⟨b,1,none⟩ rfl _⟩
 ·rw [byte_app,unhide HB]
  exact Lib.BuilderAt.put (T:=125) (e:=5) hB hb2 (bs':=bs ++ Lib.strCells s) (by simpa [Lib.strCells_length] using hown') (by decide)
 ·have:=hbel.size; omega
theorem itoa_w (n:Int) (h0:-9223372036854775808≤n) (h1:n≤9223372036854775807) (w:World) (htab:Lib.TabIs Tryz.prog w "internal/strconv.uint64pow10" .u64 Lib.pow10Tab) :
  Calls Tryz.prog 131 #[.int .i64 n] w fun e w'=>e=.returned (.string ⟨(Lib.itoa n).toArray⟩)∧w.grownBy w' none:=by
 refine (Tryz.strconv_Itoa n h0 h1 w htab).mono ?_
 rintro e w' ⟨rfl,k,os,rfl⟩
 refine ⟨rfl,rfl,rfl,rfl,?_,fun i hi _=>?_⟩
 ·show w.heap.size≤(w.heap ++ os).size
  simp
 ·show (w.heap ++ os)[i]?=w.heap[i]?
  exact Array.getElem?_append_left hi
end Go.Proofs.YtolhbeekfjnfmaaGreatDoor
namespace Go.Proofs.YtolhbeekfjnfmaaGreatDoor
open Go.RowKit
def Sv.plT (t:Sv.Term):List UInt8:=if t.sort=0 then [95] else if t.sort=1 then [t.letter] else if t.sort=2 then Lib.itoa t.value else []
def Sv.plC (c:Sv.Cond):List UInt8:=(if c.neg=true then [33] else []) ++ [40] ++ Lib.itoa c.kind ++ c.terms.flatMap (fun t=>32 :: Sv.plT t) ++ [41]
def Sv.plR (q:Sv.Rule):List UInt8:=q.name ++ [58] ++ q.conds.flatMap Sv.plC ++ [59,10]
def Sv.pl (rs:List Sv.Rule):List UInt8:=rs.flatMap Sv.plR
theorem size_of (l:List UInt8):(⟨l.toArray⟩:ByteArray).size=l.length:=by simp [ByteArray.size]
def Sv.vlOk (t:Sv.Term):Prop:=-1000000000≤t.value∧t.value≤1000000000
theorem Bld.block {B b:Nat} {l:List UInt8} {w:World} (h:Bld B b l w):∃ p v,w.heap[b]?=some (.cells #[p,v] 125 (0,0)):=by
 rcases h.1 with ⟨_,v,h1,_⟩ | ⟨_,v,h1,_⟩
 ·exact ⟨_,v,h1⟩
 ·exact ⟨_,v,h1⟩
theorem Bld.B {B b:Nat} {l:List UInt8} {w:World} (h:Bld B b l w):B≤b∧b < w.heap.size:=by
 rcases h.1 with h1 | h1
 ·exact ⟨h1.1,h1.lt⟩
 ·exact ⟨h1.1,h1.lt⟩
theorem Wr.keep {B b:Nat} {l:List UInt8} {w w':World} (h:Wr B b w w') (hb:Bld B b l w) {k:Nat} {cs:Array Value} {e:TypeId} {fz:Nat×Nat} (hk:w.heap[k]?=some (.cells cs e fz)) (he:e≠5) (he2:e≠125):w'.heap[k]?=some (.cells cs e fz):=by
 refine h.2 k _ hk (fun e1=>?_) (fun c f e1=>?_)
 ·obtain ⟨p,v,h1⟩:=hb.block
  cases e1
  rw [hk] at h1
  simp at h1
  exact he2 h1.2.1
 ·simp at e1
  exact he e1.2.1
theorem own_wr {w w':World} {B b:Nat} {l:List UInt8} {base:Nat} {e:TypeId} {size:Nat} {v:Value} {n:Nat} {xs:List Value} (h:w.ownsRow base e size v n xs) (hw:Wr B b w w') (hb:Bld B b l w) (he:e≠5) (he2:e≠125):w'.ownsRow base e size v n xs:=by
 refine ⟨h.1,?_⟩
 rcases h.2 with h1 | ⟨g,cap,cur,h1,h2,h3,h4⟩
 ·exact .inl h1
 ·exact .inr ⟨g,cap,cur,h1,h2,hw.keep hb h3 he he2,h4⟩
theorem TsAt.wr {w w':World} {B b:Nat} {l:List UInt8} {base:Nat} {v:Value} {ts:List Sv.Term} (h:TsAt base v ts w) (hw:Wr B b w w') (hb:Bld B b l w):TsAt base v ts w':=own_wr h hw hb (by decide) (by decide)
theorem tab_wr {w w':World} {B b:Nat} (h:Lib.TabIs Tryz.prog w "internal/strconv.uint64pow10" .u64 Lib.pow10Tab) (hw:Wr B b w w') (hB:3 < B):Lib.TabIs Tryz.prog w' "internal/strconv.uint64pow10" .u64 Lib.pow10Tab:=
 var?_below hw.1 Tryz.powIs hB h
theorem tab_al {w:World} (h:Lib.TabIs Tryz.prog w "internal/strconv.uint64pow10" .u64 Lib.pow10Tab) (o:Obj) (hB:3 < w.heap.size):Lib.TabIs Tryz.prog (w.alloc o) "internal/strconv.uint64pow10" .u64 Lib.pow10Tab:=
 var?_below (below_gr (World.grownBy_alloc w o none)) Tryz.powIs hB h
set_option maxHeartbeats 400000 in
theorem writeTerm_w (B b:Nat) (l:List UInt8) (t:Sv.Term) (w:World) (h:Bld B b l w) (htab:Lib.TabIs Tryz.prog w "internal/strconv.uint64pow10" .u64 Lib.pow10Tab) (hP:3 < B) (hok:Sv.vlOk t) (hlen:l.length+(Sv.plT t).length≤900000) :
  Calls Tryz.prog 132 #[.pointer (some ⟨b,0,none⟩),.agg #[.int .i64 t.sort,.int .u8 t.letter.toNat,.int .i64 t.value]] w fun e w'=>e=.returned (.tuple #[])∧Bld B b (l ++ Sv.plT t) w'∧Wr B b w w':=by
 have hBw:=h.2
 by_cases h0:t.sort=0
 ·have e0:((t.sort:Int) == 0)=true:=by simp; omega
  have ep:Sv.plT t=[95]:=by unfold Sv.plT; rw [if_pos h0]
  rw [ep]
  clear h0 ep
  go_enter Tryz.func132,Tryz.ntmps132
  go_wp2_with fail
  refine (wb_w B b l 95 _ rfl _ (h.alloc _) (by omega)).mono ?_
  rintro e w1 ⟨rfl,hb1,hw1⟩
  go_wp2
  go_end0
  exact ⟨rfl,hb1,hw1.un hBw⟩
 ·have e0:((t.sort:Int) == 0)=false:=by simp; omega
  by_cases h1:t.sort=1
  ·have e1:((t.sort:Int) == 1)=true:=by simp; omega
   have ep:Sv.plT t=[t.letter]:=by unfold Sv.plT; rw [if_neg h0,if_pos h1]
   rw [ep]
   clear h0 h1 ep
   go_enter Tryz.func132,Tryz.ntmps132
   go_wp2_with fail
   refine (wb_w B b l t.letter _ rfl _ (h.alloc _) (by omega)).mono ?_
   rintro e w1 ⟨rfl,hb1,hw1⟩
   go_wp2
   go_end0
   exact ⟨rfl,hb1,hw1.un hBw⟩
  ·have e1:((t.sort:Int) == 1)=false:=by simp; omega
   by_cases h2:t.sort=2
   ·have e2:((t.sort:Int) == 2)=true:=by simp; omega
    have ep:Sv.plT t=Lib.itoa t.value:=by unfold Sv.plT; rw [if_neg h0,if_neg h1,if_pos h2]
    rw [ep] at hlen ⊢
    obtain ⟨hv1,hv2⟩:=hok
    clear h0 h1 h2 ep
    go_enter Tryz.func132,Tryz.ntmps132
    go_wp2_with fail
    refine (itoa_w t.value (by omega) (by omega) _ (tab_al htab _ (by omega))).mono ?_
    rintro e w1 ⟨rfl,hg1⟩
    have hb1:=(h.alloc (.cells #[.int .i64 t.sort,.int .u8 t.letter.toNat,.int .i64 t.value] 258)).gr hg1
    go_wp2_with fail
    refine (ws_w B b l ⟨(Lib.itoa t.value).toArray⟩ w1 hb1 (by omega) (by rw [size_of]; omega)).mono ?_
    rintro e w2 ⟨rfl,hb2,hw2⟩
    go_wp2
    go_end0
    exact ⟨rfl,hb2,(((Wr.refl B b w).alloc hBw _).gr hg1 (by simp; omega)).trans hw2⟩
   ·have e2:((t.sort:Int) == 2)=false:=by simp; omega
    have ep:Sv.plT t=[]:=by unfold Sv.plT; rw [if_neg h0,if_neg h1,if_neg h2]
    rw [ep,List.append_nil]
    clear h0 h1 h2 ep
    go_enter Tryz.func132,Tryz.ntmps132
    go_wp2
    go_end0
    exact ⟨rfl,h.alloc _,(Wr.refl B b w).alloc hBw _⟩
theorem flat3 (f:Sv.Term→List Value) (hf:∀ t,(f t).length=3):∀ (ts:List Sv.Term) (k:Nat) (t:Sv.Term),ts[k]?=some t→∀ j,j < 3→(ts.flatMap f)[k * 3+j]?=(f t)[j]?
 | [],k,t,h,_,_=>by simp at h
 | a :: ts,0,t,h,j,hj=>by
  simp at h
  subst h
  rw [List.flatMap_cons,List.getElem?_append_left (by rw [hf]; omega)]
  simp
 | a :: ts,k+1,t,h,j,hj=>by
  rw [List.flatMap_cons,List.getElem?_append_right (by rw [hf]; omega),hf]
  have:=flat3 f hf ts k t (by simpa using h) j hj
  rw [show (k+1) * 3+j - 3=k * 3+j from by omega]
  exact this
theorem TsAt.cells {base:Nat} {v:Value} {ts:List Sv.Term} {w:World} (h:TsAt base v ts w) {k:Nat} {t:Sv.Term} (hk:ts[k]?=some t) :
  ∃ g cap,v=.slice (some ⟨g,0,none⟩) ts.length cap∧w.cell? ⟨g,k * 3,none⟩=some (.int .i64 t.sort)∧w.cell? ⟨g,k * 3+1,none⟩=some (.int .u8 t.letter.toNat)∧w.cell? ⟨g,k * 3+2,none⟩=some (.int .i64 t.value):=by
 have hlt:k < ts.length:=(List.getElem?_eq_some_iff.1 hk).1
 rcases h.2 with ⟨_,h2⟩ | ⟨g,cap,cur,h1,h2⟩
 ·omega
 ·subst h1
  have h3:=World.ownsRow.cellAt (w:=w) (base:=base) (e:=258) (size:=3) (g:=g) (n:=ts.length) (cap:=cap) (xs:=ts.flatMap tcells) h
  refine ⟨g,cap,rfl,?_,?_,?_⟩
  ·rw [h3 (k * 3) (by omega)]; exact flat3 tcells (fun _=>rfl) ts k t hk 0 (by omega)
  ·rw [h3 (k * 3+1) (by omega)]; exact flat3 tcells (fun _=>rfl) ts k t hk 1 (by omega)
  ·rw [h3 (k * 3+2) (by omega)]; exact flat3 tcells (fun _=>rfl) ts k t hk 2 (by omega)
def Sv.tms (ts:List Sv.Term):List UInt8:=ts.flatMap (fun t=>32 :: Sv.plT t)
theorem Sv.tms_snoc (ts:List Sv.Term) (k:Nat) (t:Sv.Term) (h:ts[k]?=some t):Sv.tms (ts.take (k+1))=Sv.tms (ts.take k) ++ (32 :: Sv.plT t):=by
 obtain ⟨hlt,rfl⟩:=List.getElem?_eq_some_iff.1 h
 unfold Sv.tms
 rw [List.take_succ_eq_append_getElem hlt,List.flatMap_append,List.flatMap_cons,List.flatMap_nil,List.append_nil]
theorem Sv.tms_le (ts:List Sv.Term) (k:Nat):(Sv.tms (ts.take k)).length≤(Sv.tms ts).length:=by
 have h:Sv.tms ts=Sv.tms (ts.take k) ++ Sv.tms (ts.drop k):=by
  unfold Sv.tms
  rw [←List.flatMap_append,List.take_append_drop]
 rw [h,List.length_append]
 omega
theorem Sv.tms_ge (ts:List Sv.Term):ts.length≤(Sv.tms ts).length:=by
 unfold Sv.tms
 induction ts with
 | nil=>simp
 | cons a ts ih=>rw [List.flatMap_cons,List.length_append]; simp at ih ⊢; omega
theorem C3.wr {T:TypeId} {N:Nat} {x y z:Value} {w w':World} {B b:Nat} {l:List UInt8} (h:C3 T N x y z w) (hw:Wr B b w w') (hb:Bld B b l w) (he:T≠5) (he2:T≠125):C3 T N x y z w':=hw.keep hb h he he2
set_option maxHeartbeats 1000000 in
theorem writeCond_w (B b:Nat) (l:List UInt8) (ng:Bool) (kd:Nat) (ts:List Sv.Term) (u:Value) (w:World) (h:Bld B b l w) (htab:Lib.TabIs Tryz.prog w "internal/strconv.uint64pow10" .u64 Lib.pow10Tab) (hP:3 < B) (hts:TsAt 0 u ts w) (hok:∀ t∈ts,Sv.vlOk t) (hkd:kd≤9) (hlen:l.length+(Sv.plC ⟨ng,kd,ts⟩).length≤900000) :
  Calls Tryz.prog 99 #[.pointer (some ⟨b,0,none⟩),.agg #[.bool ng,.int .i64 kd,u]] w fun e w'=>e=.returned (.tuple #[])∧Bld B b (l ++ Sv.plC ⟨ng,kd,ts⟩) w'∧Wr B b w w':=by
 have hBw:=h.2
 have hBb:=h.B
 obtain ⟨ao,cap,rfl⟩:=hts.slice
 have hC0:C3 200 w.heap.size (.bool ng) (.int .i64 kd) (.slice ao ts.length cap) (w.alloc (.cells #[.bool ng,.int .i64 kd,.slice ao ts.length cap] 200)):=heap_alloc_new _ _
 have hb0:=h.alloc (.cells #[.bool ng,.int .i64 kd,.slice ao ts.length cap] 200)
 have hw0:=(Wr.refl B b w).alloc hBw (.cells #[.bool ng,.int .i64 kd,.slice ao ts.length cap] 200)
 have ht0:=tab_al htab (.cells #[.bool ng,.int .i64 kd,.slice ao ts.length cap] 200) (by omega)
 have hts0:=hts.row (World.grownBy_alloc w (.cells #[.bool ng,.int .i64 kd,.slice ao ts.length cap] 200) none) (RowOk.none 0 0 w) (by decide)
 obtain ⟨l0,hl0⟩:∃ l0:List UInt8,(if ng=true then [33] else ([]:List UInt8))=l0:=⟨_,rfl⟩
 have hfin:l ++ Sv.plC ⟨ng,kd,ts⟩=l ++ l0 ++ [40] ++ Lib.itoa kd ++ Sv.tms ts ++ [41]:=by
  unfold Sv.plC Sv.tms
  simp only [hl0,List.append_assoc]
 have hsz:l.length+l0.length+(Lib.itoa kd).length+(Sv.tms ts).length+2≤900000:=by
  have:=congrArg List.length hfin
  simp only [List.length_append,List.length_singleton] at this
  omega
 have HF:=hide hfin
 clear hfin hlen
 cases ng
 ·have e0:l0=[]:=by simpa using hl0.symm
  rw [show l=l ++ l0 from by rw [e0,List.append_nil]] at hb0
  clear e0 hl0
  go_enter Tryz.func99,Tryz.ntmps99
  go_wp2_with fail
  generalize (w.alloc (.cells #[.bool false,.int .i64 kd,.slice ao ts.length cap] 200))=W1 at *
  have hb1:=hb0
  have hw1:=hw0
  have hC1:=hC0
  have ht1:=ht0
  have hts1:=hts0
  clear hb0 hw0 hC0 ht0 hts0
  refine (wb_w B b (l ++ l0) 40 _ rfl _ hb1 (by simp; omega)).mono ?_
  rintro e W2 ⟨rfl,hb2,hw12⟩
  have hw2:=hw1.trans hw12
  have hC2:=hC1.wr hw12 hb1 (by decide) (by decide)
  have ht2:=tab_wr ht1 hw12 hP
  have hts2:=hts1.wr hw12 hb1
  clear hb1 hw1 hw12 hC1 ht1 hts1
  obtain ⟨d0,d1,d2⟩:=hC2.c
  go_wp2_with fail
  refine (itoa_w kd (by omega) (by omega) _ ht2).mono ?_
  rintro e W3 ⟨rfl,hg3⟩
  have hb3:=hb2.gr hg3
  have hw3:=hw2.gr hg3 hb2.2
  have hC3:=hC2.kept hg3 (by simp)
  have ht3:Lib.TabIs Tryz.prog W3 "internal/strconv.uint64pow10" .u64 Lib.pow10Tab:=var?_below (below_gr hg3) Tryz.powIs (by have:=hb2.2; omega) ht2
  have hts3:=hts2.row hg3 (RowOk.none 0 0 W2) (by decide)
  clear hb2 hw2 hg3 hC2 ht2 hts2 d0 d1 d2
  go_wp2_with fail
  refine (ws_w B b (l ++ l0 ++ [40]) ⟨(Lib.itoa kd).toArray⟩ W3 hb3 (by simp; omega) (by rw [size_of]; omega)).mono ?_
  rintro e W4 ⟨rfl,hb4,hw34⟩
  have hw4:=hw3.trans hw34
  have hC4:=hC3.wr hw34 hb3 (by decide) (by decide)
  have ht4:=tab_wr ht3 hw34 hP
  have hts4:=hts3.wr hw34 hb3
  clear hb3 hw3 hw34 hC3 ht3 hts3
  obtain ⟨d0,d1,d2⟩:=hC4.c
  go_wp2
  go_loopw [20] (fun x w'=>∃ k:Nat,k≤ts.length∧x=.int .i64 k∧Bld B b (l ++ l0 ++ [40] ++ Lib.itoa kd ++ Sv.tms (ts.take k)) w'∧Wr B b w w'∧Lib.TabIs Tryz.prog w' "internal/strconv.uint64pow10" .u64 Lib.pow10Tab∧TsAt 0 (.slice ao ts.length cap) ts w') (fun x _=>ts.length - (intOf x).toNat)
  case atStart=>exact ⟨0,Nat.zero_le _,rfl,by simpa [Sv.tms] using hb4,hw4,ht4,hts4⟩
  case round=>
   clear hb4 hw4 hC4 ht4 hts4 d0 d1 d2
   obtain ⟨k,hk,rfl,hbk,hwk,htk,htsk⟩:=hrel
   by_cases hlt:k < ts.length
   ·have hd:decide ((k:Int) < (ts.length:Int))=true:=by simp; omega
    obtain ⟨t,htk0⟩:∃ t,ts[k]?=some t:=⟨ts[k],List.getElem?_eq_getElem hlt⟩
    have htok:=hok t (List.mem_of_getElem? htk0)
    have hsn:=Sv.tms_snoc ts k t htk0
    have hle:=Sv.tms_le ts (k+1)
    have hle2:=Sv.tms_le ts k
    obtain ⟨g,cap',hv,q0,q1,q2⟩:=htsk.cells htk0
    simp only [Value.slice.injEq,true_and] at hv
    obtain ⟨rfl,rfl⟩:=hv
    have HT:=hide htk0
    have HSN:=hide hsn
    clear htk0 hsn
    have hmx:ts.length≤900000:=by
     have:ts.length≤(Sv.tms ts).length:=Sv.tms_ge ts
     omega
    go_wp2_with fail
    have hbA:=hbk.alloc (.cells #[.int .i64 t.sort,.int .u8 t.letter.toNat,.int .i64 t.value] 258)
    have hwA:=hwk.alloc hbk.2 (.cells #[.int .i64 t.sort,.int .u8 t.letter.toNat,.int .i64 t.value] 258)
    have htA:=tab_al htk (.cells #[.int .i64 t.sort,.int .u8 t.letter.toNat,.int .i64 t.value] 258) (by have:=hbk.2; omega)
    have htsA:=htsk.row (World.grownBy_alloc wr (.cells #[.int .i64 t.sort,.int .u8 t.letter.toNat,.int .i64 t.value] 258) none) (RowOk.none 0 0 wr) (by decide)
    have hCA:C3 258 wr.heap.size (.int .i64 t.sort) (.int .u8 t.letter.toNat) (.int .i64 t.value) (wr.alloc (.cells #[.int .i64 t.sort,.int .u8 t.letter.toNat,.int .i64 t.value] 258)):=heap_alloc_new _ _
    clear hbk hwk htk htsk q0 q1 q2
    refine (wb_w B b _ 32 _ rfl _ hbA (by simp only [List.length_append,List.length_singleton]; omega)).mono ?_
    rintro e W5 ⟨rfl,hb5,hwA5⟩
    have hw5:=hwA.trans hwA5
    have ht5:=tab_wr htA hwA5 hP
    have hts5:=htsA.wr hwA5 hbA
    obtain ⟨r0,r1,r2⟩:=(hCA.wr hwA5 hbA (by decide) (by decide)).c
    clear hbA hwA htA htsA hCA hwA5
    go_wp2_with fail
    have hsn5:(Sv.tms (List.take (k+1) ts)).length=(Sv.tms (List.take k ts)).length+1+(Sv.plT t).length:=by rw [unhide HSN,List.length_append,List.length_cons]; omega
    refine (writeTerm_w B b _ t W5 hb5 ht5 hP htok (by simp only [List.length_append,List.length_singleton]; omega)).mono ?_
    rintro e W6 ⟨rfl,hb6,hw56⟩
    have hw6:=hw5.trans hw56
    have ht6:=tab_wr ht5 hw56 hP
    have hts6:=hts5.wr hw56 hb5
    clear hb5 hw5 hw56 ht5 hts5 r0 r1 r2 hsn5
    go_wp2
    go_roundw
    case rel=>exact ⟨k+1,by omega,by go_num,by rw [unhide HSN]; simpa only [List.append_assoc,List.cons_append,List.nil_append] using hb6,hw6,ht6,hts6⟩
    case measure=>simp [intOf]; omega
   ·obtain rfl:k=ts.length:=by omega
    have hd:decide ((ts.length:Int) < (ts.length:Int))=false:=by simp
    rw [List.take_length] at hbk
    clear hlt
    go_wp2_with fail
    refine (wb_w B b _ 41 _ rfl _ hbk (by simp only [List.length_append,List.length_singleton]; omega)).mono ?_
    rintro e W5 ⟨rfl,hb5,hw5⟩
    go_wp2
    go_end0
    exact ⟨rfl,by rw [unhide HF]; exact hb5,hwk.trans hw5⟩
 ·have e0:l0=[33]:=by simpa using hl0.symm
  go_enter Tryz.func99,Tryz.ntmps99
  go_wp2_with fail
  refine (wb_w B b l 33 _ rfl _ hb0 (by omega)).mono ?_
  rintro e W1 ⟨rfl,hb1,hw01⟩
  rw [←e0] at hb1
  have hw1:=hw0.trans hw01
  have hC1:=hC0.wr hw01 hb0 (by decide) (by decide)
  have ht1:=tab_wr ht0 hw01 hP
  have hts1:=hts0.wr hw01 hb0
  clear e0 hl0 hb0 hw01 hw0 hC0 ht0 hts0
  go_wp2_with fail
  refine (wb_w B b (l ++ l0) 40 _ rfl _ hb1 (by simp; omega)).mono ?_
  rintro e W2 ⟨rfl,hb2,hw12⟩
  have hw2:=hw1.trans hw12
  have hC2:=hC1.wr hw12 hb1 (by decide) (by decide)
  have ht2:=tab_wr ht1 hw12 hP
  have hts2:=hts1.wr hw12 hb1
  clear hb1 hw1 hw12 hC1 ht1 hts1
  obtain ⟨d0,d1,d2⟩:=hC2.c
  go_wp2_with fail
  refine (itoa_w kd (by omega) (by omega) _ ht2).mono ?_
  rintro e W3 ⟨rfl,hg3⟩
  have hb3:=hb2.gr hg3
  have hw3:=hw2.gr hg3 hb2.2
  have hC3:=hC2.kept hg3 (by simp)
  have ht3:Lib.TabIs Tryz.prog W3 "internal/strconv.uint64pow10" .u64 Lib.pow10Tab:=var?_below (below_gr hg3) Tryz.powIs (by have:=hb2.2; omega) ht2
  have hts3:=hts2.row hg3 (RowOk.none 0 0 W2) (by decide)
  clear hb2 hw2 hg3 hC2 ht2 hts2 d0 d1 d2
  go_wp2_with fail
  refine (ws_w B b (l ++ l0 ++ [40]) ⟨(Lib.itoa kd).toArray⟩ W3 hb3 (by simp; omega) (by rw [size_of]; omega)).mono ?_
  rintro e W4 ⟨rfl,hb4,hw34⟩
  have hw4:=hw3.trans hw34
  have hC4:=hC3.wr hw34 hb3 (by decide) (by decide)
  have ht4:=tab_wr ht3 hw34 hP
  have hts4:=hts3.wr hw34 hb3
  clear hb3 hw3 hw34 hC3 ht3 hts3
  obtain ⟨d0,d1,d2⟩:=hC4.c
  go_wp2
  go_loopw [20] (fun x w'=>∃ k:Nat,k≤ts.length∧x=.int .i64 k∧Bld B b (l ++ l0 ++ [40] ++ Lib.itoa kd ++ Sv.tms (ts.take k)) w'∧Wr B b w w'∧Lib.TabIs Tryz.prog w' "internal/strconv.uint64pow10" .u64 Lib.pow10Tab∧TsAt 0 (.slice ao ts.length cap) ts w') (fun x _=>ts.length - (intOf x).toNat)
  case atStart=>exact ⟨0,Nat.zero_le _,rfl,by simpa [Sv.tms] using hb4,hw4,ht4,hts4⟩
  case round=>
   clear hb4 hw4 hC4 ht4 hts4 d0 d1 d2
   obtain ⟨k,hk,rfl,hbk,hwk,htk,htsk⟩:=hrel
   by_cases hlt:k < ts.length
   ·have hd:decide ((k:Int) < (ts.length:Int))=true:=by simp; omega
    obtain ⟨t,htk0⟩:∃ t,ts[k]?=some t:=⟨ts[k],List.getElem?_eq_getElem hlt⟩
    have htok:=hok t (List.mem_of_getElem? htk0)
    have hsn:=Sv.tms_snoc ts k t htk0
    have hle:=Sv.tms_le ts (k+1)
    have hle2:=Sv.tms_le ts k
    obtain ⟨g,cap',hv,q0,q1,q2⟩:=htsk.cells htk0
    simp only [Value.slice.injEq,true_and] at hv
    obtain ⟨rfl,rfl⟩:=hv
    have HT:=hide htk0
    have HSN:=hide hsn
    clear htk0 hsn
    have hmx:ts.length≤900000:=by
     have:ts.length≤(Sv.tms ts).length:=Sv.tms_ge ts
     omega
    go_wp2_with fail
    have hbA:=hbk.alloc (.cells #[.int .i64 t.sort,.int .u8 t.letter.toNat,.int .i64 t.value] 258)
    have hwA:=hwk.alloc hbk.2 (.cells #[.int .i64 t.sort,.int .u8 t.letter.toNat,.int .i64 t.value] 258)
    have htA:=tab_al htk (.cells #[.int .i64 t.sort,.int .u8 t.letter.toNat,.int .i64 t.value] 258) (by have:=hbk.2; omega)
    have htsA:=htsk.row (World.grownBy_alloc wr (.cells #[.int .i64 t.sort,.int .u8 t.letter.toNat,.int .i64 t.value] 258) none) (RowOk.none 0 0 wr) (by decide)
    have hCA:C3 258 wr.heap.size (.int .i64 t.sort) (.int .u8 t.letter.toNat) (.int .i64 t.value) (wr.alloc (.cells #[.int .i64 t.sort,.int .u8 t.letter.toNat,.int .i64 t.value] 258)):=heap_alloc_new _ _
    clear hbk hwk htk htsk q0 q1 q2
    refine (wb_w B b _ 32 _ rfl _ hbA (by simp only [List.length_append,List.length_singleton]; omega)).mono ?_
    rintro e W5 ⟨rfl,hb5,hwA5⟩
    have hw5:=hwA.trans hwA5
    have ht5:=tab_wr htA hwA5 hP
    have hts5:=htsA.wr hwA5 hbA
    obtain ⟨r0,r1,r2⟩:=(hCA.wr hwA5 hbA (by decide) (by decide)).c
    clear hbA hwA htA htsA hCA hwA5
    go_wp2_with fail
    have hsn5:(Sv.tms (List.take (k+1) ts)).length=(Sv.tms (List.take k ts)).length+1+(Sv.plT t).length:=by rw [unhide HSN,List.length_append,List.length_cons]; omega
    refine (writeTerm_w B b _ t W5 hb5 ht5 hP htok (by simp only [List.length_append,List.length_singleton]; omega)).mono ?_
    rintro e W6 ⟨rfl,hb6,hw56⟩
    have hw6:=hw5.trans hw56
    have ht6:=tab_wr ht5 hw56 hP
    have hts6:=hts5.wr hw56 hb5
    clear hb5 hw5 hw56 ht5 hts5 r0 r1 r2 hsn5
    go_wp2
    go_roundw
    case rel=>exact ⟨k+1,by omega,by go_num,by rw [unhide HSN]; simpa only [List.append_assoc,List.cons_append,List.nil_append] using hb6,hw6,ht6,hts6⟩
    case measure=>simp [intOf]; omega
   ·obtain rfl:k=ts.length:=by omega
    have hd:decide ((ts.length:Int) < (ts.length:Int))=false:=by simp
    rw [List.take_length] at hbk
    clear hlt
    go_wp2_with fail
    refine (wb_w B b _ 41 _ rfl _ hbk (by simp only [List.length_append,List.length_singleton]; omega)).mono ?_
    rintro e W5 ⟨rfl,hb5,hw5⟩
    go_wp2
    go_end0
    exact ⟨rfl,by rw [unhide HF]; exact hb5,hwk.trans hw5⟩
end Go.Proofs.YtolhbeekfjnfmaaGreatDoor
namespace Go.Proofs.YtolhbeekfjnfmaaGreatDoor
open Go.RowKit
def Sv.cOk (c:Sv.Cond):Prop:=c.kind≤9∧∀ t∈c.terms,Sv.vlOk t
def Sv.rOk (q:Sv.Rule):Prop:=∀ c∈q.conds,Sv.cOk c
theorem CsCells.wr {B0:Nat} {w w':World} {B b:Nat} {l:List UInt8} (hw:Wr B b w w') (hb:Bld B b l w):∀ (cs:List Sv.Cond) (xs:List Value),CsCells B0 w cs xs→CsCells B0 w' cs xs
 | [],_,h=>h
 | _ :: cs,_,⟨u,ys,h1,h2,h3⟩=>⟨u,ys,h1,h2.wr hw hb,CsCells.wr hw hb cs ys h3⟩
theorem CsAt.wr {w w':World} {B b:Nat} {l:List UInt8} {base:Nat} {v:Value} {cs:List Sv.Cond} (h:CsAt base v cs w) (hw:Wr B b w w') (hb:Bld B b l w):CsAt base v cs w':=by
 obtain ⟨xs,h1,h2⟩:=h
 exact ⟨xs,own_wr h1 hw hb (by decide) (by decide),CsCells.wr hw hb cs xs h2⟩
theorem RsCells.wr {B0:Nat} {w w':World} {B b:Nat} {l:List UInt8} (hw:Wr B b w w') (hb:Bld B b l w):∀ (rs:List Sv.Rule) (xs:List Value),RsCells B0 w rs xs→RsCells B0 w' rs xs
 | [],_,h=>h
 | _ :: rs,_,⟨u,ys,h1,h2,h3⟩=>⟨u,ys,h1,h2.wr hw hb,RsCells.wr hw hb rs ys h3⟩
theorem RsAt.wr {w w':World} {B b:Nat} {l:List UInt8} {base:Nat} {v:Value} {rs:List Sv.Rule} (h:RsAt base v rs w) (hw:Wr B b w w') (hb:Bld B b l w):RsAt base v rs w':=by
 obtain ⟨xs,h1,h2⟩:=h
 exact ⟨xs,own_wr h1 hw hb (by decide) (by decide),RsCells.wr hw hb rs xs h2⟩
theorem CsCells.at {B0:Nat} {w:World}:∀ (cs:List Sv.Cond) (xs:List Value) (k:Nat) (c:Sv.Cond),CsCells B0 w cs xs→cs[k]?=some c→∃ u,xs[k * 3]?=some (.bool c.neg)∧xs[k * 3+1]?=some (.int .i64 c.kind)∧xs[k * 3+2]?=some u∧TsAt B0 u c.terms w
 | [],_,k,c,_,h=>by simp at h
 | a :: cs,xs,0,c,⟨u,ys,h1,h2,_⟩,h=>by
  simp at h
  subst h
  exact ⟨u,by rw [h1]; rfl,by rw [h1]; rfl,by rw [h1]; rfl,h2⟩
 | a :: cs,xs,k+1,c,⟨u,ys,h1,_,h3⟩,h=>by
  obtain ⟨v,g1,g2,g3,g4⟩:=CsCells.at cs ys k c h3 (by simpa using h)
  refine ⟨v,?_,?_,?_,g4⟩
  ·rw [h1,show (k+1) * 3=k * 3+3 from by omega]; exact g1
  ·rw [h1,show (k+1) * 3+1=k * 3+1+3 from by omega]; exact g2
  ·rw [h1,show (k+1) * 3+2=k * 3+2+3 from by omega]; exact g3
theorem RsCells.at {B0:Nat} {w:World}:∀ (rs:List Sv.Rule) (xs:List Value) (k:Nat) (q:Sv.Rule),RsCells B0 w rs xs→rs[k]?=some q→∃ u,xs[k * 2]?=some (.string ⟨q.name.toArray⟩)∧xs[k * 2+1]?=some u∧CsAt B0 u q.conds w
 | [],_,k,c,_,h=>by simp at h
 | a :: cs,xs,0,c,⟨u,ys,h1,h2,_⟩,h=>by
  simp at h
  subst h
  exact ⟨u,by rw [h1]; rfl,by rw [h1]; rfl,h2⟩
 | a :: cs,xs,k+1,c,⟨u,ys,h1,_,h3⟩,h=>by
  obtain ⟨v,g1,g2,g4⟩:=RsCells.at cs ys k c h3 (by simpa using h)
  refine ⟨v,?_,?_,g4⟩
  ·rw [h1,show (k+1) * 2=k * 2+2 from by omega]; exact g1
  ·rw [h1,show (k+1) * 2+1=k * 2+1+2 from by omega]; exact g2
theorem CsAt.cells {base:Nat} {v:Value} {cs:List Sv.Cond} {w:World} (h:CsAt base v cs w) {k:Nat} {c:Sv.Cond} (hk:cs[k]?=some c) :
  ∃ g cap ao cap2,v=.slice (some ⟨g,0,none⟩) cs.length cap∧w.cell? ⟨g,k * 3,none⟩=some (.bool c.neg)∧w.cell? ⟨g,k * 3+1,none⟩=some (.int .i64 c.kind)∧w.cell? ⟨g,k * 3+2,none⟩=some (.slice ao c.terms.length cap2)∧TsAt base (.slice ao c.terms.length cap2) c.terms w:=by
 obtain ⟨xs,h,hc⟩:=h
 have hlt:k < cs.length:=(List.getElem?_eq_some_iff.1 hk).1
 obtain ⟨u,g1,g2,g3,g4⟩:=CsCells.at cs xs k c hc hk
 obtain ⟨ao,cap2,rfl⟩:=g4.slice
 rcases h.2 with ⟨_,h2⟩ | ⟨g,cap,cur,h1,h2⟩
 ·omega
 ·subst h1
  have h3:=World.ownsRow.cellAt (w:=w) (base:=base) (e:=200) (size:=3) (g:=g) (n:=cs.length) (cap:=cap) (xs:=xs) h
  exact ⟨g,cap,ao,cap2,rfl,(h3 (k * 3) (by omega)).trans g1,(h3 (k * 3+1) (by omega)).trans g2,(h3 (k * 3+2) (by omega)).trans g3,g4⟩
theorem RsAt.cells {base:Nat} {v:Value} {rs:List Sv.Rule} {w:World} (h:RsAt base v rs w) {k:Nat} {q:Sv.Rule} (hk:rs[k]?=some q) :
  ∃ g cap ao cap2,v=.slice (some ⟨g,0,none⟩) rs.length cap∧w.cell? ⟨g,k * 2,none⟩=some (.string ⟨q.name.toArray⟩)∧w.cell? ⟨g,k * 2+1,none⟩=some (.slice ao q.conds.length cap2)∧CsAt base (.slice ao q.conds.length cap2) q.conds w:=by
 obtain ⟨xs,h,hc⟩:=h
 have hlt:k < rs.length:=(List.getElem?_eq_some_iff.1 hk).1
 obtain ⟨u,g1,g2,g4⟩:=RsCells.at rs xs k q hc hk
 obtain ⟨ao,cap2,rfl⟩:=g4.slice
 rcases h.2 with ⟨_,h2⟩ | ⟨g,cap,cur,h1,h2⟩
 ·omega
 ·subst h1
  have h3:=World.ownsRow.cellAt (w:=w) (base:=base) (e:=128) (size:=2) (g:=g) (n:=rs.length) (cap:=cap) (xs:=xs) h
  exact ⟨g,cap,ao,cap2,rfl,(h3 (k * 2) (by omega)).trans g1,(h3 (k * 2+1) (by omega)).trans g2,g4⟩
theorem C2.wr {T:TypeId} {N:Nat} {x y:Value} {w w':World} {B b:Nat} {l:List UInt8} (h:C2 T N x y w) (hw:Wr B b w w') (hb:Bld B b l w) (he:T≠5) (he2:T≠125):C2 T N x y w':=hw.keep hb h he he2
theorem fm_snoc {α:Type} (f:α→List UInt8) (ts:List α) (k:Nat) (t:α) (h:ts[k]?=some t):(ts.take (k+1)).flatMap f=(ts.take k).flatMap f ++ f t:=by
 obtain ⟨hlt,rfl⟩:=List.getElem?_eq_some_iff.1 h
 rw [List.take_succ_eq_append_getElem hlt,List.flatMap_append,List.flatMap_cons,List.flatMap_nil,List.append_nil]
theorem fm_le {α:Type} (f:α→List UInt8) (ts:List α) (k:Nat):((ts.take k).flatMap f).length≤(ts.flatMap f).length:=by
 have h:ts.flatMap f=(ts.take k).flatMap f ++ (ts.drop k).flatMap f:=by rw [←List.flatMap_append,List.take_append_drop]
 rw [h,List.length_append]
 omega
theorem fm_ge {α:Type} (f:α→List UInt8) (hf:∀ a,1≤(f a).length) (ts:List α):ts.length≤(ts.flatMap f).length:=by
 induction ts with
 | nil=>simp
 | cons a ts ih=>rw [List.flatMap_cons,List.length_append]; have:=hf a; simp at ih ⊢; omega
theorem plC_ge (c:Sv.Cond):1≤(Sv.plC c).length:=by unfold Sv.plC; simp; omega
theorem plR_ge (q:Sv.Rule):1≤(Sv.plR q).length:=by unfold Sv.plR; simp; omega
set_option maxHeartbeats 1000000 in
theorem writeRule_w (B b:Nat) (l:List UInt8) (nm:List UInt8) (cs:List Sv.Cond) (u:Value) (w:World) (h:Bld B b l w) (htab:Lib.TabIs Tryz.prog w "internal/strconv.uint64pow10" .u64 Lib.pow10Tab) (hP:3 < B) (hcs:CsAt 0 u cs w) (hok:∀ c∈cs,Sv.cOk c) (hlen:l.length+(Sv.plR ⟨nm,cs⟩).length≤900000) :
  Calls Tryz.prog 66 #[.pointer (some ⟨b,0,none⟩),.agg #[.string ⟨nm.toArray⟩,u]] w fun e w'=>e=.returned (.tuple #[])∧Bld B b (l ++ Sv.plR ⟨nm,cs⟩) w'∧Wr B b w w':=by
 have hBw:=h.2
 have hBb:=h.B
 obtain ⟨ao,cap,rfl⟩:=hcs.slice
 have hC0:C2 128 w.heap.size (.string ⟨nm.toArray⟩) (.slice ao cs.length cap) (w.alloc (.cells #[.string ⟨nm.toArray⟩,.slice ao cs.length cap] 128)):=heap_alloc_new _ _
 have hb0:=h.alloc (.cells #[.string ⟨nm.toArray⟩,.slice ao cs.length cap] 128)
 have hw0:=(Wr.refl B b w).alloc hBw (.cells #[.string ⟨nm.toArray⟩,.slice ao cs.length cap] 128)
 have ht0:=tab_al htab (.cells #[.string ⟨nm.toArray⟩,.slice ao cs.length cap] 128) (by omega)
 have hcs0:=hcs.row (World.grownBy_alloc w (.cells #[.string ⟨nm.toArray⟩,.slice ao cs.length cap] 128) none) (RowOk.none 0 0 w) (by decide) (by decide)
 have hfin:l ++ Sv.plR ⟨nm,cs⟩=l ++ nm ++ [58] ++ cs.flatMap Sv.plC ++ [59,10]:=by
  unfold Sv.plR
  simp only [List.append_assoc]
 have hsz:l.length+nm.length+(cs.flatMap Sv.plC).length+3≤900000:=by
  have:=congrArg List.length hfin
  simp only [List.length_append,List.length_cons,List.length_nil] at this
  omega
 have HF:=hide hfin
 clear hfin hlen
 go_enter Tryz.func66,Tryz.ntmps66
 go_wp2_with fail
 refine (ws_w B b l ⟨nm.toArray⟩ _ hb0 (by omega) (by rw [size_of]; omega)).mono ?_
 rintro e W1 ⟨rfl,hb1,hw01⟩
 have hw1:=hw0.trans hw01
 have hC1:=hC0.wr hw01 hb0 (by decide) (by decide)
 have ht1:=tab_wr ht0 hw01 hP
 have hcs1:=hcs0.wr hw01 hb0
 clear hb0 hw01 hw0 hC0 ht0 hcs0
 go_wp2_with fail
 refine (wb_w B b (l ++ nm) 58 _ rfl _ hb1 (by simp; omega)).mono ?_
 rintro e W2 ⟨rfl,hb2,hw12⟩
 have hw2:=hw1.trans hw12
 have hC2:=hC1.wr hw12 hb1 (by decide) (by decide)
 have ht2:=tab_wr ht1 hw12 hP
 have hcs2:=hcs1.wr hw12 hb1
 clear hb1 hw1 hw12 hC1 ht1 hcs1
 obtain ⟨d0,d1⟩:=hC2.c
 have hmx:cs.length≤900000:=by
  have:=fm_ge Sv.plC plC_ge cs
  omega
 go_wp2
 go_loopw [15] (fun x w'=>∃ k:Nat,k≤cs.length∧x=.int .i64 k∧Bld B b (l ++ nm ++ [58] ++ (cs.take k).flatMap Sv.plC) w'∧Wr B b w w'∧Lib.TabIs Tryz.prog w' "internal/strconv.uint64pow10" .u64 Lib.pow10Tab∧CsAt 0 (.slice ao cs.length cap) cs w') (fun x _=>cs.length - (intOf x).toNat)
 case atStart=>exact ⟨0,Nat.zero_le _,rfl,by simpa using hb2,hw2,ht2,hcs2⟩
 case round=>
  clear hb2 hw2 hC2 ht2 hcs2 d0 d1
  obtain ⟨k,hk,rfl,hbk,hwk,htk,hcsk⟩:=hrel
  by_cases hlt:k < cs.length
  ·have hd:decide ((k:Int) < (cs.length:Int))=true:=by simp; omega
   obtain ⟨c,hck0⟩:∃ c,cs[k]?=some c:=⟨cs[k],List.getElem?_eq_getElem hlt⟩
   obtain ⟨hkd,htok⟩:=hok c (List.mem_of_getElem? hck0)
   have hsn:=fm_snoc Sv.plC cs k c hck0
   have hle:=fm_le Sv.plC cs (k+1)
   have hle2:=fm_le Sv.plC cs k
   obtain ⟨g,cap',ao2,cap2,hv,q0,q1,q2,hts⟩:=hcsk.cells hck0
   simp only [Value.slice.injEq,true_and] at hv
   obtain ⟨rfl,rfl⟩:=hv
   have HSN:=hide hsn
   clear hck0 hsn
   go_wp2_with fail
   have hsn5:((cs.take (k+1)).flatMap Sv.plC).length=((cs.take k).flatMap Sv.plC).length+(Sv.plC ⟨c.neg,c.kind,c.terms⟩).length:=by rw [unhide HSN,List.length_append]
   have hbA:=hbk.alloc (.cells #[.bool c.neg,.int .i64 c.kind,.slice ao2 c.terms.length cap2] 200)
   have hwA:=hwk.alloc hbk.2 (.cells #[.bool c.neg,.int .i64 c.kind,.slice ao2 c.terms.length cap2] 200)
   have htA:=tab_al htk (.cells #[.bool c.neg,.int .i64 c.kind,.slice ao2 c.terms.length cap2] 200) (by have:=hbk.2; omega)
   have hcsA:=hcsk.row (World.grownBy_alloc wr (.cells #[.bool c.neg,.int .i64 c.kind,.slice ao2 c.terms.length cap2] 200) none) (RowOk.none 0 0 wr) (by decide) (by decide)
   have htsA:=hts.row (World.grownBy_alloc wr (.cells #[.bool c.neg,.int .i64 c.kind,.slice ao2 c.terms.length cap2] 200) none) (RowOk.none 0 0 wr) (by decide)
   refine (writeCond_w B b _ c.neg c.kind c.terms _ _ hbA htA hP htsA htok hkd (by simp only [List.length_append,List.length_singleton]; omega)).mono ?_
   rintro e W6 ⟨rfl,hb6,hw56⟩
   have hw6:=hwA.trans hw56
   have ht6:=tab_wr htA hw56 hP
   have hcs6:=hcsA.wr hw56 hbA
   clear hbA hwA hw56 htA hcsA htsA hts hbk hwk htk hcsk q0 q1 q2 hsn5
   go_wp2
   go_roundw
   case rel=>exact ⟨k+1,by omega,by go_num,by rw [unhide HSN]; simpa only [List.append_assoc] using hb6,hw6,ht6,hcs6⟩
   case measure=>simp [intOf]; omega
  ·obtain rfl:k=cs.length:=by omega
   have hd:decide ((cs.length:Int) < (cs.length:Int))=false:=by simp
   rw [List.take_length] at hbk
   clear hlt
   go_wp2_with fail
   refine (ws_w B b _ ⟨#[59,10]⟩ _ hbk (by simp only [List.length_append,List.length_singleton]; omega) (by decide)).mono ?_
   rintro e W5 ⟨rfl,hb5,hw5⟩
   go_wp2
   go_end0
   exact ⟨rfl,by rw [unhide HF]; exact hb5,hwk.trans hw5⟩
set_option maxHeartbeats 1000000 in
theorem plain_w (rs:List Sv.Rule) (u:Value) (w:World) (htab:Lib.TabIs Tryz.prog w "internal/strconv.uint64pow10" .u64 Lib.pow10Tab) (hP:3 < w.heap.size) (hrs:RsAt 0 u rs w) (hok:∀ q∈rs,Sv.rOk q) (hlen:(Sv.pl rs).length≤900000) :
  Calls Tryz.prog 37 #[u] w fun e w'=>e=.returned (.string ⟨(Sv.pl rs).toArray⟩)∧w.grownBy w' none:=by
 obtain ⟨ao,cap,rfl⟩:=hrs.slice
 have hb0:Bld w.heap.size w.heap.size [] (w.alloc (.cells #[.pointer none,.slice none 0 0] 125)):=
  ⟨.inl ⟨Nat.le_refl _,.slice none 0 0,heap_alloc_new _ _,World.ownsRow_nil _ _ _ _,by simp [Value.ownBlock]⟩,by simp⟩
 have hw0:Below w.heap.size w (w.alloc (.cells #[.pointer none,.slice none 0 0] 125)):=below_gr (World.grownBy_alloc w _ none)
 have ht0:=tab_al htab (.cells #[.pointer none,.slice none 0 0] 125) hP
 have hrs0:=hrs.row (World.grownBy_alloc w (.cells #[.pointer none,.slice none 0 0] 125) none) (RowOk.none 0 0 w) (by decide) (by decide) (by decide)
 have hmx:rs.length≤900000:=by
  have:=fm_ge Sv.plR plR_ge rs
  unfold Sv.pl at hlen
  omega
 unfold Sv.pl at hlen ⊢
 go_enter Tryz.func37,Tryz.ntmps37
 go_wp2
 go_loopw [8] (fun x w'=>∃ k:Nat,k≤rs.length∧x=.int .i64 k∧Bld w.heap.size w.heap.size ((rs.take k).flatMap Sv.plR) w'∧Below w.heap.size w w'∧Lib.TabIs Tryz.prog w' "internal/strconv.uint64pow10" .u64 Lib.pow10Tab∧RsAt 0 (.slice ao rs.length cap) rs w') (fun x _=>rs.length - (intOf x).toNat)
 case atStart=>exact ⟨0,Nat.zero_le _,rfl,by simpa using hb0,hw0,ht0,hrs0⟩
 case round=>
  clear hb0 hw0 ht0 hrs0
  obtain ⟨k,hk,rfl,hbk,hwk,htk,hrsk⟩:=hrel
  by_cases hlt:k < rs.length
  ·have hd:decide ((k:Int) < (rs.length:Int))=true:=by simp; omega
   obtain ⟨q,hqk0⟩:∃ q,rs[k]?=some q:=⟨rs[k],List.getElem?_eq_getElem hlt⟩
   have hqok:=hok q (List.mem_of_getElem? hqk0)
   have hsn:=fm_snoc Sv.plR rs k q hqk0
   have hle:=fm_le Sv.plR rs (k+1)
   have hle2:=fm_le Sv.plR rs k
   obtain ⟨g,cap',ao2,cap2,hv,q0,q1,hcs⟩:=hrsk.cells hqk0
   simp only [Value.slice.injEq,true_and] at hv
   obtain ⟨rfl,rfl⟩:=hv
   have HSN:=hide hsn
   clear hqk0 hsn
   go_wp2_with fail
   have hsn5:((rs.take (k+1)).flatMap Sv.plR).length=((rs.take k).flatMap Sv.plR).length+(Sv.plR ⟨q.name,q.conds⟩).length:=by rw [unhide HSN,List.length_append]
   have hbA:=hbk.alloc (.cells #[.string ⟨q.name.toArray⟩,.slice ao2 q.conds.length cap2] 128)
   have hwA:=hwk.alloc hbk.2 (.cells #[.string ⟨q.name.toArray⟩,.slice ao2 q.conds.length cap2] 128)
   have htA:=tab_al htk (.cells #[.string ⟨q.name.toArray⟩,.slice ao2 q.conds.length cap2] 128) (by have:=hbk.2; omega)
   have hrsA:=hrsk.row (World.grownBy_alloc wr (.cells #[.string ⟨q.name.toArray⟩,.slice ao2 q.conds.length cap2] 128) none) (RowOk.none 0 0 wr) (by decide) (by decide) (by decide)
   have hcsA:=hcs.row (World.grownBy_alloc wr (.cells #[.string ⟨q.name.toArray⟩,.slice ao2 q.conds.length cap2] 128) none) (RowOk.none 0 0 wr) (by decide) (by decide)
   refine (writeRule_w _ _ _ q.name q.conds _ _ hbA htA hP hcsA hqok (by omega)).mono ?_
   rintro e W6 ⟨rfl,hb6,hw56⟩
   have hw6:=hwA.trans hw56.1
   have ht6:=tab_wr htA hw56 hP
   have hrs6:=hrsA.wr hw56 hbA
   clear hbA hwA hw56 htA hrsA hcsA hcs hbk hwk htk hrsk q0 q1 hsn5
   go_wp2
   go_roundw
   case rel=>exact ⟨k+1,by omega,by go_num,by rw [unhide HSN]; exact hb6,hw6,ht6,hrs6⟩
   case measure=>simp [intOf]; omega
  ·obtain rfl:k=rs.length:=by omega
   have hd:decide ((rs.length:Int) < (rs.length:Int))=false:=by simp
   rw [List.take_length] at hbk
   clear hlt
   go_wp2_with fail
   refine (Tryz.Builder_String_any_f _ _ (rs.flatMap Sv.plR) _ (Lib.IsBuilderF.of hbk.1) hbk.2).mono ?_
   rintro e W5 ⟨rfl,hb5⟩
   have hg5:=gr_below (hwk.trans hb5.2) none
   go_wp2
   go_ret
   exact ⟨rfl,hg5⟩
end Go.Proofs.YtolhbeekfjnfmaaGreatDoor

import Derived.Lib.OthersKept
import Derived.Lib.Builder
import Derived.Lib.AppendStr
import Derived.Test.YtolhbeekfjnfmaaGreatDoorM04
set_option maxHeartbeats 8000000
set_option maxRecDepth 100000
namespace Go.Proofs.YtolhbeekfjnfmaaGreatDoor
open Go.RowKit
abbrev AH:=@Value.slice.injEq
abbrev EO:=@Lib.cell_of_heap
abbrev FC:=@World.ownsRow.cellAt
variable {b n k base N:Nat}{a w w':World}{l:List UInt8}{e T:TypeId}{v x y:Value}{xs:List Value}{ts:List Sv.Term}{α:Type}
theorem Tryz.infoByte:(Tryz.prog.info? 5).map (fun i=>(i.zero,i.size,i.bytes))=some (some (.int .u8 0),1,1):=by kernel_rfl
theorem Tryz.sizeBuilder:(Tryz.prog.info? 125).map (·.size)=some 2:=by kernel_rfl
theorem Tryz.liesBuilder:liesAt Tryz.prog Tryz.prog.depth 125 (2 / Tryz.prog.cellsOf 125) 0 125 1=true:=by kernel_rfl
theorem Vo(b:Nat)(w:World)(h0:w.cell? ⟨b,0,none⟩=some (.pointer (some ⟨b,0,none⟩))) :
  Calls Tryz.prog 130 #[.pointer (some ⟨b,0,none⟩)] w fun e w'=>e=.returned (.tuple #[])/\w'=w:=by
 obtain⟨j,hj,_⟩:=EL.1 Tryz.sizeBuilder;have hq:=Lib.run_neq_ptr_same (P:=Tryz.prog) w ⟨b,0,none⟩ Tryz.underlying122 hj;go_enter Tryz.func130,Tryz.ntmps130;go_wp2;go_end0
 exact⟨rfl,rfl⟩
theorem Th(b:Nat)(w:World)(h0:w.cell? ⟨b,0,none⟩=some (.pointer none))(dV:w.shape? b=some (125,2))(hfz:w.frozen? ⟨b,0,none⟩=false) :
  Calls Tryz.prog 130 #[.pointer (some ⟨b,0,none⟩)] w fun e w'=>e=.returned (.tuple #[])/\w'=w.setCell ⟨b,0,none⟩ (.pointer (some ⟨b,0,none⟩)):=by
 obtain⟨j,hj,PK⟩:=EL.1 Tryz.sizeBuilder;have k1:=Lib.run_to_unsafe (P:=Tryz.prog) w ⟨b,0,none⟩ Tryz.underlying122 Tryz.underlying185 hj (by rw[PK];decide) dV (Nat.zero_lt_succ 1);have k2:=@CS Tryz.prog 158 _ Extern.AbiNoEscape.same Tryz.func158 (by kernel_rfl) (by kernel_rfl) (by kernel_rfl) (by kernel_rfl);have k3:=Lib.run_noEscape (P:=Tryz.prog) w (.pointer (some ⟨b,0,none⟩));have k4:=Lib.run_from_unsafe (P:=Tryz.prog) w ⟨b,0,none⟩ Tryz.underlying185 Tryz.underlying122 hj dV Tryz.liesBuilder;go_enter Tryz.func130,Tryz.ntmps130;go_wp2;go_end0
 exact⟨rfl,rfl⟩
def Bld(B b:Nat)(l:List UInt8)(w:World):Prop:=Lib.IsBuilder 125 5 B b (Lib.byteCells l) w/\B<=w.heap.size
def Wr(B b:Nat)(w w':World):Prop:=Below B w w'/\Lib.OthersKept 5 (some b) w w'
theorem Wr.refl(B b:Nat)(w:World):Wr B b w w:=⟨Below.refl B w,Lib.OthersKept.refl _ _ w⟩
theorem Wr.trans{B b:Nat}{a c d:World}(h:Wr B b a c)(k:Wr B b c d):Wr B b a d:=⟨h.1.trans k.1,h.2.trans k.2⟩
theorem Wr.alloc{B b:Nat}{a w:World}(h:Wr B b a w)(hB:B<=w.heap.size)(o:Obj):Wr B b a (w.alloc o):=⟨h.1.alloc hB o,h.2.alloc o⟩
theorem Wr.un{B:Nat}{o:Obj}(h:Wr B b (a.alloc o) w)(hB:B<=a.heap.size):Wr B b a w:=((Wr.refl B b a).alloc hB o).trans h
theorem Wr.gr{B:Nat}(h:Wr B b a w)(g:w.grownBy w' none)(hB:B<=w.heap.size):Wr B b a w':=
 ⟨h.1.grown g hB (by simp),h.2.grown g (by simp)⟩
theorem Rj(l m:List UInt8):Lib.byteCells (l++m)=Lib.byteCells l++Lib.byteCells m:=by simp[Lib.byteCells]
theorem Bld.alloc{B b:Nat}{l:List UInt8}{w:World}(h:Bld B b l w)(o:Obj):Bld B b l (w.alloc o):=by
 obtain⟨h1,h2⟩:=h;refine⟨?_,by simp;omega⟩
 have key:∀p,Lib.BuilderAt 125 5 B b p (Lib.byteCells l) w->Lib.BuilderAt 125 5 B b p (Lib.byteCells l) (w.alloc o):=by
  intro p hp;have hlt:=hp.lt;obtain⟨hB,v,hb,hown,hne⟩:=hp;exact⟨hB,v,by rw[CY w o b hlt];exact hb,hown.alloc o,hne⟩
 rcases h1 with h1|h1
 ·exact .inl (key _ h1)
 ·exact .inr (key _ h1)
theorem Bld.gr{B:Nat}(h:Bld B b l w)(g:w.grownBy w' none):Bld B b l w':=by
 obtain⟨h1,h2⟩:=h;refine⟨?_,AU h2 g.size⟩
 have key:∀p,Lib.BuilderAt 125 5 B b p (Lib.byteCells l) w->Lib.BuilderAt 125 5 B b p (Lib.byteCells l) w':=by
  intro p hp;have hlt:=hp.lt;obtain⟨hB,v,hb,hown,hne⟩:=hp;exact⟨hB,v,by rw[g.block b hlt (by simp)];exact hb,hown.kept g (by cases hv:v.ownBlock<;>simp),hne⟩
 rcases h1 with h1|h1
 ·exact .inl (key _ h1)
 ·exact .inr (key _ h1)
theorem Q0x(B b:Nat)(bs:List Value)(w:World)(h:Lib.IsBuilder 125 5 B b bs w) :
  Calls Tryz.prog 130 #[.pointer (some ⟨b,0,none⟩)] w fun e w'=>e=.returned (.tuple #[])/\Lib.BuilderAt 125 5 B b (.pointer (some ⟨b,0,none⟩)) bs w'/\Wr B b w w':=by
 rcases h with h|h
 ·refine(Th b w h.cell0 h.shape h.frozen0).mono ?_
  rintro e w'⟨rfl,rfl⟩;exact⟨rfl,h.used _,(Below.refl B w).setCell (p:=⟨b,0,none⟩) h.1 _,(Lib.OthersKept.refl _ _ w).setCell ⟨b,0,none⟩ rfl _⟩
 ·refine(Vo b w h.cell0).mono ?_
  rintro e w'⟨rfl,rfl⟩;exact⟨rfl,h,Wr.refl B b _⟩
theorem Sc{B:Nat}(h:w.ownsRow B e 1 v n xs):∀g,v.ownBlock=some g->∃c fz,w.heap[g]?=some (.cells c e fz):=
 fun g hg=>(RowOk.of h g hg).2
theorem Yj(B b:Nat)(l:List UInt8)(c:UInt8)(x:Int)(hx:x=c.toNat)(w:World)(h:Bld B b l w)(hlen:l.length<=1000000) :
  Calls Tryz.prog 98 #[.pointer (some ⟨b,0,none⟩),.int .u8 x] w fun e w'=>e=.returned .nilIface/\Bld B b (l++[c]) w'/\Wr B b w w':=by
 subst hx;obtain⟨i0,hi,hz0,hz1,hz2⟩:=info_parts Tryz.infoByte;obtain⟨hbl,om⟩:=h;have pT:(Lib.byteCells l).length<=1000000:=by simpa[Lib.byteCells] using hlen
 rw[show Lib.byteCells l=Lib.byteCells l from rfl] at hbl;generalize wE:Lib.byteCells l=bs at hbl pT;have HB:=Ac wE;clear wE;go_enter Tryz.func98,Tryz.ntmps98;go_wp2_with fail;refine(Q0x B b bs _ hbl).mono ?_;rintro e w1⟨rfl,h1,hb1,l7⟩;obtain⟨hB,v,aH,hown,hne⟩:=h1;have c0:w1.cell? ⟨b,0,none⟩=some (.pointer (some ⟨b,0,none⟩)):=by rw[EO aH];rfl
 have c1:w1.cell? ⟨b,1,none⟩=some v:=by rw[EO aH];rfl
 have hs1:=hb1.size
 go_wp2_with (at_builtin;refine DG _ rfl _ _ 123 rfl B 5 i0 (.int .u8 0) 1 1 Tryz.underlying123 hi hz0 hz1 hz2 rfl (by decide) _ _ _ rfl (hown.alloc _) ⟨w1.heap.size,0,none⟩ 1 1 [.int .u8 c.toNat] rfl rfl ?c1 ?c2 ?c3 ?c4 ?c5 ?_)
 case c1=>
  intro j u hj
  match j,hj with
  | 0,hj=>simp at hj;subst hj;simp[Addr.add]
 case c2=>intro u hu;simp at hu;subst hu;rfl
 case c3=>unfold maxLen;omega
 case c4=>omega
 case c5=>simp;omega
 intro v' w2 hown' hgrow _;have hlt:b<w1.heap.size:=Ad aH
 have hb2:w2.heap[b]?=some (.cells #[.pointer (some ⟨b,0,none⟩),v] 125 (0,0)):=by
  rw[hgrow.block b (by simp;omega) (fun e=>hne e.symm),CY w1 _ b hlt];exact aH
 have d0:w2.cell? ⟨b,0,none⟩=some (.pointer (some ⟨b,0,none⟩)):=by rw[EO hb2];rfl
 have d1:w2.cell? ⟨b,1,none⟩=some v:=by rw[EO hb2];rfl
 have f1:w2.frozen? ⟨b,1,none⟩=false:=Lib.frozen_of_heap hb2 1
 obtain⟨g,cap,rfl⟩:∃g cap,v'=.slice (some ⟨g,0,none⟩) (bs.length+1) cap:=by
  rcases hown'.2 with ⟨_,h0⟩|⟨g,cap,cur,hv,_⟩
  ·omega
  ·exact⟨g,cap,hv⟩
 go_wp2;go_ret;have qG:=((hb1.alloc (by omega) (.cells #[.int .u8 c.toNat] 5)).grown hgrow (by simp;omega) (fun k hk=>(hown.lt k hk).1)).setCell (p:=⟨b,1,none⟩) hB (.slice (some ⟨g,0,none⟩) (bs.length+1) cap);refine⟨rfl,⟨.inr ?_,?_⟩,qG,((l7.alloc _).grown hgrow (Sc (hown.alloc _))).setCell ⟨b,1,none⟩ rfl _⟩
 ·rw[Rj,Aa HB]
  exact Lib.BuilderAt.put (T:=125) (e:=5) hB hb2 (bs':=bs++[.int .u8 c.toNat]) (by simpa using hown') (by decide)
 ·have:=qG.size;omega
theorem Q4a(B b:Nat)(l:List UInt8)(s:ByteArray)(w:World)(h:Bld B b l w)(hlen:l.length<=1000000)(hs:s.size<=1000000) :
  Calls Tryz.prog 97 #[.pointer (some ⟨b,0,none⟩),.string s] w fun e w'=>e=.returned (.tuple #[.int .i64 s.size,.nilIface])/\Bld B b (l++s.data.toList) w'/\Wr B b w w':=by
 obtain⟨i0,hi,hz0,hz1,hz2⟩:=info_parts Tryz.infoByte;obtain⟨hbl,om⟩:=h;have pT:(Lib.byteCells l).length<=1000000:=by simpa[Lib.byteCells] using hlen
 generalize wE:Lib.byteCells l=bs at hbl pT;have HB:=Ac wE;clear wE;go_enter Tryz.func97,Tryz.ntmps97;go_wp2_with fail;refine(Q0x B b bs _ hbl).mono ?_;rintro e w1⟨rfl,h1,hb1,l7⟩;obtain⟨hB,v,aH,hown,hne⟩:=h1;have c0:w1.cell? ⟨b,0,none⟩=some (.pointer (some ⟨b,0,none⟩)):=by rw[EO aH];rfl
 have c1:w1.cell? ⟨b,1,none⟩=some v:=by rw[EO aH];rfl
 have hs1:=hb1.size
 go_wp2_with (at_builtin;refine Lib.wpList_append_own_string _ rfl _ _ 123 9 rfl B 5 i0 Tryz.underlying123 Tryz.underlying9 hi hz0 hz1 hz2 _ _ _ rfl hown s rfl ?c3 ?c4 ?c5 ?_)
 case c3=>unfold maxLen;omega
 case c4=>omega
 case c5=>omega
 intro v' w2 hown' hgrow _;have hlt:b<w1.heap.size:=Ad aH
 have hb2:w2.heap[b]?=some (.cells #[.pointer (some ⟨b,0,none⟩),v] 125 (0,0)):=by
  rw[hgrow.block b hlt (fun e=>hne e.symm)];exact aH
 have d0:w2.cell? ⟨b,0,none⟩=some (.pointer (some ⟨b,0,none⟩)):=by rw[EO hb2];rfl
 have d1:w2.cell? ⟨b,1,none⟩=some v:=by rw[EO hb2];rfl
 have f1:w2.frozen? ⟨b,1,none⟩=false:=Lib.frozen_of_heap hb2 1
 obtain⟨ao,n',cap,rfl⟩:∃ao n' cap,v'=.slice ao n' cap:=by
  rcases hown'.2 with ⟨hv,_⟩|⟨g,cap,cur,hv,_⟩
  ·exact⟨_,_,_,hv⟩
  ·exact⟨_,_,_,hv⟩
 go_wp2
 go_ret2
 have qG:=(hb1.grown hgrow (by omega) (fun k hk=>(hown.lt k hk).1)).setCell (p:=⟨b,1,none⟩) hB (.slice ao n' cap);refine⟨rfl,⟨.inr ?_,?_⟩,qG,(l7.grown hgrow (Sc hown)).setCell ⟨b,1,none⟩ rfl _⟩
 ·rw[Rj,Aa HB]
  exact Lib.BuilderAt.put (T:=125) (e:=5) hB hb2 (bs':=bs++Lib.strCells s) (by simpa[Lib.strCells_length] using hown') (by decide)
 ·have:=qG.size;omega
theorem Wl(n:Int)(h0:-9223372036854775808<=n)(h1:n<=9223372036854775807)(w:World)(dU:Lib.TabIs Tryz.prog w "internal/strconv.uint64pow10" .u64 Lib.pow10Tab) :
  Calls Tryz.prog 131 #[.int .i64 n] w fun e w'=>e=.returned (.string ⟨(Lib.itoa n).toArray⟩)/\w.grownBy w' none:=by
 refine(Tryz.strconv_Itoa n h0 h1 w dU).mono ?_;rintro e w'⟨rfl,k,os,rfl⟩;refine⟨rfl,rfl,rfl,rfl,?_,fun i hi _=>?_⟩
 ·show w.heap.size<=(w.heap++os).size
  simp
 ·show (w.heap++os)[i]?=w.heap[i]?
  exact ID hi
def Bv(t:Sv.Term):List UInt8:=if t.sort=0 then [95] else if t.sort=1 then [t.letter] else if t.sort=2 then Lib.itoa t.value else []
def Cc(c:Sv.Cond):List UInt8:=(if c.neg=true then [33] else [])++[40]++Lib.itoa c.kind++c.terms.flatMap (fun t=>32::Bv t)++[41]
def Co(q:Sv.Rule):List UInt8:=q.name++[58]++q.conds.flatMap Cc++[59,10]
def I9(rs:List Sv.Rule):List UInt8:=rs.flatMap Co
theorem Cu(l:List UInt8):(⟨l.toArray⟩:ByteArray).size=l.length:=by simp[ByteArray.size]
def Fl(t:Sv.Term):Prop:=-1000000000<=t.value/\t.value<=1000000000
theorem Bld.block{B:Nat}(h:Bld B b l w):∃p v,w.heap[b]?=some (.cells #[p,v] 125 (0,0)):=by
 rcases h.1 with ⟨_,v,h1,_⟩|⟨_,v,h1,_⟩
 ·exact⟨_,v,h1⟩
 ·exact⟨_,v,h1⟩
theorem Bld.B{B b:Nat}{l:List UInt8}{w:World}(h:Bld B b l w):B<=b/\b<w.heap.size:=by
 rcases h.1 with h1|h1
 ·exact⟨h1.1,h1.lt⟩
 ·exact⟨h1.1,h1.lt⟩
theorem Wr.keep{B:Nat}(h:Wr B b w w')(hb:Bld B b l w){cs:Array Value}{fz:Nat×Nat}(hk:w.heap[k]?=some (.cells cs e fz))(he:e≠5)(q9:e≠125):w'.heap[k]?=some (.cells cs e fz):=by
 refine h.2 k _ hk (fun e1=>?_) (fun c f e1=>?_)
 ·obtain⟨p,v,h1⟩:=hb.block
  cases e1
  rw[hk] at h1;simp at h1;exact q9 h1.2.1
 ·simp at e1
  exact he e1.2.1
theorem Xg{B:Nat}{size:Nat}(h:w.ownsRow base e size v n xs)(hw:Wr B b w w')(hb:Bld B b l w)(he:e≠5)(q9:e≠125):w'.ownsRow base e size v n xs:=by
 refine⟨h.1,?_⟩;rcases h.2 with h1|⟨g,cap,cur,h1,h2,h3,h4⟩
 ·exact .inl h1
 ·exact .inr ⟨g,cap,cur,h1,h2,hw.keep hb h3 he q9,h4⟩
theorem TsAt.wr{B:Nat}(h:TsAt base v ts w)(hw:Wr B b w w')(hb:Bld B b l w):TsAt base v ts w':=Xg h hw hb (by decide) (by decide)
theorem Fa{B:Nat}(h:Lib.TabIs Tryz.prog w "internal/strconv.uint64pow10" .u64 Lib.pow10Tab)(hw:Wr B b w w')(hB:3<B):Lib.TabIs Tryz.prog w' "internal/strconv.uint64pow10" .u64 Lib.pow10Tab:=
 var?_below hw.1 Tryz.powIs hB h
theorem I8(h:Lib.TabIs Tryz.prog w "internal/strconv.uint64pow10" .u64 Lib.pow10Tab)(o:Obj)(hB:3<w.heap.size):Lib.TabIs Tryz.prog (w.alloc o) "internal/strconv.uint64pow10" .u64 Lib.pow10Tab:=
 var?_below (Fp (AA w o none)) Tryz.powIs hB h
theorem Ld(B b:Nat)(l:List UInt8)(t:Sv.Term)(w:World)(h:Bld B b l w)(dU:Lib.TabIs Tryz.prog w "internal/strconv.uint64pow10" .u64 Lib.pow10Tab)(hP:3<B)(aK:Fl t)(hlen:l.length+(Bv t).length<=900000) :
  Calls Tryz.prog 132 #[.pointer (some ⟨b,0,none⟩),.agg #[.int .i64 t.sort,.int .u8 t.letter.toNat,.int .i64 t.value]] w fun e w'=>e=.returned (.tuple #[])/\Bld B b (l++Bv t) w'/\Wr B b w w':=by
 have om:=h.2;by_cases h0:t.sort=0
 ·have e0:((t.sort:Int)==0)=true:=by simp;omega
  have ep:Bv t=[95]:=by unfold Bv;rw[AQ h0]
  rw[ep];clear h0 ep;go_enter Tryz.func132,Tryz.ntmps132;go_wp2_with fail;refine(Yj B b l 95 _ rfl _ (h.alloc _) (by omega)).mono ?_;rintro e w1⟨rfl,hb1,hw1⟩;go_wp2;go_end0
  exact⟨rfl,hb1,hw1.un om⟩
 ·have e0:((t.sort:Int)==0)=false:=by simp;omega
  by_cases h1:t.sort=1
  ·have e1:((t.sort:Int)==1)=true:=by simp;omega
   have ep:Bv t=[t.letter]:=by unfold Bv;rw[AO h0,AQ h1]
   rw[ep];clear h0 h1 ep;go_enter Tryz.func132,Tryz.ntmps132;go_wp2_with fail;refine(Yj B b l t.letter _ rfl _ (h.alloc _) (by omega)).mono ?_;rintro e w1⟨rfl,hb1,hw1⟩;go_wp2;go_end0
   exact⟨rfl,hb1,hw1.un om⟩
  ·have e1:((t.sort:Int)==1)=false:=by simp;omega
   by_cases h2:t.sort=2
   ·have e2:((t.sort:Int)==2)=true:=by simp;omega
    have ep:Bv t=Lib.itoa t.value:=by unfold Bv;rw[AO h0,AO h1,AQ h2]
    rw[ep] at hlen⊢;obtain⟨aS,hv2⟩:=aK;clear h0 h1 h2 ep;go_enter Tryz.func132,Tryz.ntmps132;go_wp2_with fail;refine(Wl t.value (by omega) (by omega) _ (I8 dU _ (by omega))).mono ?_;rintro e w1⟨rfl,hg1⟩;have hb1:=(h.alloc (.cells #[.int .i64 t.sort,.int .u8 t.letter.toNat,.int .i64 t.value] 258)).gr hg1;go_wp2_with fail;refine(Q4a B b l ⟨(Lib.itoa t.value).toArray⟩ w1 hb1 (by omega) (by rw[Cu];omega)).mono ?_;rintro e w2⟨rfl,hb2,hw2⟩;go_wp2;go_end0
    exact⟨rfl,hb2,(((Wr.refl B b w).alloc om _).gr hg1 (by simp;omega)).trans hw2⟩
   ·have e2:((t.sort:Int)==2)=false:=by simp;omega
    have ep:Bv t=[]:=by unfold Bv;rw[AO h0,AO h1,AO h2]
    rw[ep,BM];clear h0 h1 h2 ep;go_enter Tryz.func132,Tryz.ntmps132;go_wp2;go_end0
    exact⟨rfl,h.alloc _,(Wr.refl B b w).alloc om _⟩
theorem Qg(f:Sv.Term->List Value)(hf:∀t,(f t).length=3):∀(ts:List Sv.Term) (k:Nat) (t:Sv.Term),ts[k]?=some t->∀j,j<3->(ts.flatMap f)[k*3+j]?=(f t)[j]?
 | [],k,t,h,_,_=>by simp at h
 | a::ts,0,t,h,j,hj=>by
  simp at h;subst h;rw[BI,CL (by rw[hf];omega)];simp
 | a::ts,k+1,t,h,j,hj=>by
  rw[BI,DW (by rw[hf];omega),hf];have:=Qg f hf ts k t (by simpa using h) j hj;rw[show (k+1)*3+j-3=k*3+j from by omega];exact this
theorem TsAt.cells(h:TsAt base v ts w){t:Sv.Term}(hk:ts[k]?=some t) :
  ∃g cap,v=.slice (some ⟨g,0,none⟩) ts.length cap/\w.cell? ⟨g,k*3,none⟩=some (.int .i64 t.sort)/\w.cell? ⟨g,k*3+1,none⟩=some (.int .u8 t.letter.toNat)/\w.cell? ⟨g,k*3+2,none⟩=some (.int .i64 t.value):=by
 have hlt:k<ts.length:=(AL.1 hk).1;rcases h.2 with ⟨_,h2⟩|⟨g,cap,cur,h1,h2⟩
 ·omega
 ·subst h1
  have h3:=FC (w:=w) (base:=base) (e:=258) (size:=3) (g:=g) (n:=ts.length) (cap:=cap) (xs:=ts.flatMap Fb) h;refine⟨g,cap,rfl,?_,?_,?_⟩
  ·rw[h3 (k*3) (by omega)];exact Qg Fb (fun _=>rfl) ts k t hk 0 (by omega)
  ·rw[h3 (k*3+1) (by omega)];exact Qg Fb (fun _=>rfl) ts k t hk 1 (by omega)
  ·rw[h3 (k*3+2) (by omega)];exact Qg Fb (fun _=>rfl) ts k t hk 2 (by omega)
def Bq(ts:List Sv.Term):List UInt8:=ts.flatMap (fun t=>32::Bv t)
theorem Fk(ts:List Sv.Term)(k:Nat)(t:Sv.Term)(h:ts[k]?=some t):Bq (ts.take (k+1))=Bq (ts.take k)++(32::Bv t):=by
 obtain⟨hlt,rfl⟩:=AL.1 h;unfold Bq;rw[JP hlt,CO,BI,FV,BM]
theorem E4(ts:List Sv.Term)(k:Nat):(Bq (ts.take k)).length<=(Bq ts).length:=by
 have h:Bq ts=Bq (ts.take k)++Bq (ts.drop k):=by
  unfold Bq;rw[<-CO,DO]
 rw[h,AK];omega
theorem Kg(ts:List Sv.Term):ts.length<=(Bq ts).length:=by
 unfold Bq
 induction ts with
 | nil=>simp
 | cons a ts ih=>rw[BI,AK];simp at ih⊢;omega
theorem C3.wr{z:Value}{B:Nat}(h:C3 T N x y z w)(hw:Wr B b w w')(hb:Bld B b l w)(he:T≠5)(q9:T≠125):C3 T N x y z w':=hw.keep hb h he q9
theorem Qv(B b:Nat)(l:List UInt8)(ng:Bool)(kd:Nat)(ts:List Sv.Term)(u:Value)(w:World)(h:Bld B b l w)(dU:Lib.TabIs Tryz.prog w "internal/strconv.uint64pow10" .u64 Lib.pow10Tab)(hP:3<B)(bm:TsAt 0 u ts w)(aK:∀t∈ts,Fl t)(tR:kd<=9)(hlen:l.length+(Cc ⟨ng,kd,ts⟩).length<=900000) :
  Calls Tryz.prog 99 #[.pointer (some ⟨b,0,none⟩),.agg #[.bool ng,.int .i64 kd,u]] w fun e w'=>e=.returned (.tuple #[])/\Bld B b (l++Cc ⟨ng,kd,ts⟩) w'/\Wr B b w w':=by
 have om:=h.2;have hBb:=h.B;obtain⟨ao,cap,rfl⟩:=bm.slice;have lC:C3 200 w.heap.size (.bool ng) (.int .i64 kd) (.slice ao ts.length cap) (w.alloc (.cells #[.bool ng,.int .i64 kd,.slice ao ts.length cap] 200)):=AR _ _;have hb0:=h.alloc (.cells #[.bool ng,.int .i64 kd,.slice ao ts.length cap] 200);have hw0:=(Wr.refl B b w).alloc om (.cells #[.bool ng,.int .i64 kd,.slice ao ts.length cap] 200);have nA:=I8 dU (.cells #[.bool ng,.int .i64 kd,.slice ao ts.length cap] 200) (by omega);have rb:=bm.row (AA w (.cells #[.bool ng,.int .i64 kd,.slice ao ts.length cap] 200) none) (RowOk.none 0 0 w) (by decide);obtain⟨l0,hl0⟩:∃l0:List UInt8,(if ng=true then [33] else ([]:List UInt8))=l0:=⟨_,rfl⟩
 have dP:l++Cc ⟨ng,kd,ts⟩=l++l0++[40]++Lib.itoa kd++Bq ts++[41]:=by
  unfold Cc Bq;simp only[hl0,BQ]
 have hsz:l.length+l0.length+(Lib.itoa kd).length+(Bq ts).length+2<=900000:=by
  have:=BJ List.length dP;simp only[AK,BC] at this;omega
 have HF:=Ac dP;clear dP hlen;cases ng
 ·have e0:l0=[]:=by simpa using hl0.symm
  rw[show l=l++l0 from by rw[e0,BM]] at hb0;clear e0 hl0;go_enter Tryz.func99,Tryz.ntmps99;go_wp2_with fail;generalize (w.alloc (.cells #[.bool false,.int .i64 kd,.slice ao ts.length cap] 200))=W1 at *;have hb1:=hb0;have hw1:=hw0;have eh:=lC;have sq:=nA;have jv:=rb;clear hb0 hw0 lC nA rb;refine(Yj B b (l++l0) 40 _ rfl _ hb1 (by simp;omega)).mono ?_;rintro e W2⟨rfl,hb2,dp⟩;have hw2:=hw1.trans dp;have hC2:=eh.wr dp hb1 (by decide) (by decide);have fh:=Fa sq dp hP;have fG:=jv.wr dp hb1;clear hb1 hw1 dp eh sq jv;obtain⟨d0,d1,d2⟩:=hC2.c;go_wp2_with fail;refine(Wl kd (by omega) (by omega) _ fh).mono ?_;rintro e W3⟨rfl,hg3⟩;have hb3:=hb2.gr hg3;have hw3:=hw2.gr hg3 hb2.2;have jT:=hC2.kept hg3 (by simp);have iN:Lib.TabIs Tryz.prog W3 "internal/strconv.uint64pow10" .u64 Lib.pow10Tab:=var?_below (Fp hg3) Tryz.powIs (by have:=hb2.2;omega) fh;have eW:=fG.row hg3 (RowOk.none 0 0 W2) (by decide);clear hb2 hw2 hg3 hC2 fh fG d0 d1 d2;go_wp2_with fail;refine(Q4a B b (l++l0++[40]) ⟨(Lib.itoa kd).toArray⟩ W3 hb3 (by simp;omega) (by rw[Cu];omega)).mono ?_;rintro e W4⟨rfl,hb4,gQ⟩;have hw4:=hw3.trans gQ;have eF:=jT.wr gQ hb3 (by decide) (by decide);have dR:=Fa iN gQ hP;have bO:=eW.wr gQ hb3;clear hb3 hw3 gQ jT iN eW;obtain⟨d0,d1,d2⟩:=eF.c;go_wp2;go_loopw [20] (fun x w'=>∃k:Nat,k<=ts.length/\x=.int .i64 k/\Bld B b (l++l0++[40]++Lib.itoa kd++Bq (ts.take k)) w'/\Wr B b w w'/\Lib.TabIs Tryz.prog w' "internal/strconv.uint64pow10" .u64 Lib.pow10Tab/\TsAt 0 (.slice ao ts.length cap) ts w') (fun x _=>ts.length-(intOf x).toNat)
  case atStart=>exact⟨0,AG _,rfl,by simpa[Bq] using hb4,hw4,dR,bO⟩
  case round=>
   clear hb4 hw4 eF dR bO d0 d1 d2;obtain⟨k,hk,rfl,aH,lO,nj,lV⟩:=hrel;by_cases hlt:k<ts.length
   ·have hd:decide ((k:Int)<(ts.length:Int))=true:=by simp;omega
    obtain⟨t,gW⟩:∃t,ts[k]?=some t:=⟨ts[k],AB hlt⟩
    have pE:=aK t (AV gW);have ja:=Fk ts k t gW;have hle:=E4 ts (k+1);have ai:=E4 ts k;obtain⟨g,cap',hv,q0,q1,q2⟩:=lV.cells gW;simp only[AH,BP] at hv;obtain⟨rfl,rfl⟩:=hv;have HT:=Ac gW;have oQ:=Ac ja;clear gW ja
    have hmx:ts.length<=900000:=by
     have:ts.length<=(Bq ts).length:=Kg ts;omega
    go_wp2_with fail;have cR:=aH.alloc (.cells #[.int .i64 t.sort,.int .u8 t.letter.toNat,.int .i64 t.value] 258);have jZ:=lO.alloc aH.2 (.cells #[.int .i64 t.sort,.int .u8 t.letter.toNat,.int .i64 t.value] 258);have nk:=I8 nj (.cells #[.int .i64 t.sort,.int .u8 t.letter.toNat,.int .i64 t.value] 258) (by have:=aH.2;omega);have dJ:=lV.row (AA wr (.cells #[.int .i64 t.sort,.int .u8 t.letter.toNat,.int .i64 t.value] 258) none) (RowOk.none 0 0 wr) (by decide);have MR:C3 258 wr.heap.size (.int .i64 t.sort) (.int .u8 t.letter.toNat) (.int .i64 t.value) (wr.alloc (.cells #[.int .i64 t.sort,.int .u8 t.letter.toNat,.int .i64 t.value] 258)):=AR _ _;clear aH lO nj lV q0 q1 q2;refine(Yj B b _ 32 _ rfl _ cR (by simp only[AK,BC];omega)).mono ?_;rintro e W5⟨rfl,hb5,gP⟩;have oy:=jZ.trans gP;have vB:=Fa nk gP hP;have dK:=dJ.wr gP cR;obtain⟨r0,r1,r2⟩:=(MR.wr gP cR (by decide) (by decide)).c;clear cR jZ nk dJ MR gP;go_wp2_with fail;have lf:(Bq (List.take (k+1) ts)).length=(Bq (List.take k ts)).length+1+(Bv t).length:=by rw[Aa oQ,AK,AP];omega
    refine(Ld B b _ t W5 hb5 vB hP pE (by simp only[AK,BC];omega)).mono ?_;rintro e W6⟨rfl,fu,dI⟩;have iG:=oy.trans dI;have vA:=Fa vB dI hP;have iM:=dK.wr dI hb5;clear hb5 oy dI vB dK r0 r1 r2 lf;go_wp2;go_roundw
    case rel=>exact⟨k+1,by omega,by go_num,by rw[Aa oQ];simpa only[BQ,CN,CW] using fu,iG,vA,iM⟩
    case measure=>simp[intOf];omega
   ·obtain rfl:k=ts.length:=by omega
    have hd:decide ((ts.length:Int)<(ts.length:Int))=false:=by simp
    rw[CV] at aH;clear hlt;go_wp2_with fail;refine(Yj B b _ 41 _ rfl _ aH (by simp only[AK,BC];omega)).mono ?_;rintro e W5⟨rfl,hb5,oy⟩;go_wp2;go_end0
    exact⟨rfl,by rw[Aa HF];exact hb5,lO.trans oy⟩
 ·have e0:l0=[33]:=by simpa using hl0.symm
  go_enter Tryz.func99,Tryz.ntmps99;go_wp2_with fail;refine(Yj B b l 33 _ rfl _ hb0 (by omega)).mono ?_;rintro e W1⟨rfl,hb1,gR⟩;rw[<-e0] at hb1;have hw1:=hw0.trans gR;have eh:=lC.wr gR hb0 (by decide) (by decide);have sq:=Fa nA gR hP;have jv:=rb.wr gR hb0;clear e0 hl0 hb0 gR hw0 lC nA rb;go_wp2_with fail;refine(Yj B b (l++l0) 40 _ rfl _ hb1 (by simp;omega)).mono ?_;rintro e W2⟨rfl,hb2,dp⟩;have hw2:=hw1.trans dp;have hC2:=eh.wr dp hb1 (by decide) (by decide);have fh:=Fa sq dp hP;have fG:=jv.wr dp hb1;clear hb1 hw1 dp eh sq jv;obtain⟨d0,d1,d2⟩:=hC2.c;go_wp2_with fail;refine(Wl kd (by omega) (by omega) _ fh).mono ?_;rintro e W3⟨rfl,hg3⟩;have hb3:=hb2.gr hg3;have hw3:=hw2.gr hg3 hb2.2;have jT:=hC2.kept hg3 (by simp);have iN:Lib.TabIs Tryz.prog W3 "internal/strconv.uint64pow10" .u64 Lib.pow10Tab:=var?_below (Fp hg3) Tryz.powIs (by have:=hb2.2;omega) fh;have eW:=fG.row hg3 (RowOk.none 0 0 W2) (by decide);clear hb2 hw2 hg3 hC2 fh fG d0 d1 d2;go_wp2_with fail;refine(Q4a B b (l++l0++[40]) ⟨(Lib.itoa kd).toArray⟩ W3 hb3 (by simp;omega) (by rw[Cu];omega)).mono ?_;rintro e W4⟨rfl,hb4,gQ⟩;have hw4:=hw3.trans gQ;have eF:=jT.wr gQ hb3 (by decide) (by decide);have dR:=Fa iN gQ hP;have bO:=eW.wr gQ hb3;clear hb3 hw3 gQ jT iN eW;obtain⟨d0,d1,d2⟩:=eF.c;go_wp2;go_loopw [20] (fun x w'=>∃k:Nat,k<=ts.length/\x=.int .i64 k/\Bld B b (l++l0++[40]++Lib.itoa kd++Bq (ts.take k)) w'/\Wr B b w w'/\Lib.TabIs Tryz.prog w' "internal/strconv.uint64pow10" .u64 Lib.pow10Tab/\TsAt 0 (.slice ao ts.length cap) ts w') (fun x _=>ts.length-(intOf x).toNat)
  case atStart=>exact⟨0,AG _,rfl,by simpa[Bq] using hb4,hw4,dR,bO⟩
  case round=>
   clear hb4 hw4 eF dR bO d0 d1 d2;obtain⟨k,hk,rfl,aH,lO,nj,lV⟩:=hrel;by_cases hlt:k<ts.length
   ·have hd:decide ((k:Int)<(ts.length:Int))=true:=by simp;omega
    obtain⟨t,gW⟩:∃t,ts[k]?=some t:=⟨ts[k],AB hlt⟩
    have pE:=aK t (AV gW);have ja:=Fk ts k t gW;have hle:=E4 ts (k+1);have ai:=E4 ts k;obtain⟨g,cap',hv,q0,q1,q2⟩:=lV.cells gW;simp only[AH,BP] at hv;obtain⟨rfl,rfl⟩:=hv;have HT:=Ac gW;have oQ:=Ac ja;clear gW ja
    have hmx:ts.length<=900000:=by
     have:ts.length<=(Bq ts).length:=Kg ts;omega
    go_wp2_with fail;have cR:=aH.alloc (.cells #[.int .i64 t.sort,.int .u8 t.letter.toNat,.int .i64 t.value] 258);have jZ:=lO.alloc aH.2 (.cells #[.int .i64 t.sort,.int .u8 t.letter.toNat,.int .i64 t.value] 258);have nk:=I8 nj (.cells #[.int .i64 t.sort,.int .u8 t.letter.toNat,.int .i64 t.value] 258) (by have:=aH.2;omega);have dJ:=lV.row (AA wr (.cells #[.int .i64 t.sort,.int .u8 t.letter.toNat,.int .i64 t.value] 258) none) (RowOk.none 0 0 wr) (by decide);have MR:C3 258 wr.heap.size (.int .i64 t.sort) (.int .u8 t.letter.toNat) (.int .i64 t.value) (wr.alloc (.cells #[.int .i64 t.sort,.int .u8 t.letter.toNat,.int .i64 t.value] 258)):=AR _ _;clear aH lO nj lV q0 q1 q2;refine(Yj B b _ 32 _ rfl _ cR (by simp only[AK,BC];omega)).mono ?_;rintro e W5⟨rfl,hb5,gP⟩;have oy:=jZ.trans gP;have vB:=Fa nk gP hP;have dK:=dJ.wr gP cR;obtain⟨r0,r1,r2⟩:=(MR.wr gP cR (by decide) (by decide)).c;clear cR jZ nk dJ MR gP;go_wp2_with fail;have lf:(Bq (List.take (k+1) ts)).length=(Bq (List.take k ts)).length+1+(Bv t).length:=by rw[Aa oQ,AK,AP];omega
    refine(Ld B b _ t W5 hb5 vB hP pE (by simp only[AK,BC];omega)).mono ?_;rintro e W6⟨rfl,fu,dI⟩;have iG:=oy.trans dI;have vA:=Fa vB dI hP;have iM:=dK.wr dI hb5;clear hb5 oy dI vB dK r0 r1 r2 lf;go_wp2;go_roundw
    case rel=>exact⟨k+1,by omega,by go_num,by rw[Aa oQ];simpa only[BQ,CN,CW] using fu,iG,vA,iM⟩
    case measure=>simp[intOf];omega
   ·obtain rfl:k=ts.length:=by omega
    have hd:decide ((ts.length:Int)<(ts.length:Int))=false:=by simp
    rw[CV] at aH;clear hlt;go_wp2_with fail;refine(Yj B b _ 41 _ rfl _ aH (by simp only[AK,BC];omega)).mono ?_;rintro e W5⟨rfl,hb5,oy⟩;go_wp2;go_end0
    exact⟨rfl,by rw[Aa HF];exact hb5,lO.trans oy⟩
def J0(c:Sv.Cond):Prop:=c.kind<=9/\∀t∈c.terms,Fl t
def Q0u(q:Sv.Rule):Prop:=∀c∈q.conds,J0 c
theorem CsCells.wr{B0:Nat}{w w':World}{B b:Nat}{l:List UInt8}(hw:Wr B b w w')(hb:Bld B b l w):∀(cs:List Sv.Cond) (xs:List Value),CsCells B0 w cs xs->CsCells B0 w' cs xs
 | [],_,h=>h
 | _::cs,_,⟨u,ys,h1,h2,h3⟩=>⟨u,ys,h1,h2.wr hw hb,CsCells.wr hw hb cs ys h3⟩
theorem CsAt.wr{w w':World}{B b:Nat}{l:List UInt8}{base:Nat}{v:Value}{cs:List Sv.Cond}(h:CsAt base v cs w)(hw:Wr B b w w')(hb:Bld B b l w):CsAt base v cs w':=by
 obtain⟨xs,h1,h2⟩:=h;exact⟨xs,Xg h1 hw hb (by decide) (by decide),CsCells.wr hw hb cs xs h2⟩
theorem RsCells.wr{B0:Nat}{w w':World}{B b:Nat}{l:List UInt8}(hw:Wr B b w w')(hb:Bld B b l w):∀(rs:List Sv.Rule) (xs:List Value),RsCells B0 w rs xs->RsCells B0 w' rs xs
 | [],_,h=>h
 | _::rs,_,⟨u,ys,h1,h2,h3⟩=>⟨u,ys,h1,h2.wr hw hb,RsCells.wr hw hb rs ys h3⟩
theorem RsAt.wr{w w':World}{B b:Nat}{l:List UInt8}{base:Nat}{v:Value}{rs:List Sv.Rule}(h:RsAt base v rs w)(hw:Wr B b w w')(hb:Bld B b l w):RsAt base v rs w':=by
 obtain⟨xs,h1,h2⟩:=h;exact⟨xs,Xg h1 hw hb (by decide) (by decide),RsCells.wr hw hb rs xs h2⟩
theorem CsCells.at{B0:Nat}{w:World}:∀(cs:List Sv.Cond) (xs:List Value) (k:Nat) (c:Sv.Cond),CsCells B0 w cs xs->cs[k]?=some c->∃u,xs[k*3]?=some (.bool c.neg)/\xs[k*3+1]?=some (.int .i64 c.kind)/\xs[k*3+2]?=some u/\TsAt B0 u c.terms w
 | [],_,k,c,_,h=>by simp at h
 | a::cs,xs,0,c,⟨u,ys,h1,h2,_⟩,h=>by
  simp at h;subst h;exact⟨u,by rw[h1];rfl,by rw[h1];rfl,by rw[h1];rfl,h2⟩
 | a::cs,xs,k+1,c,⟨u,ys,h1,_,h3⟩,h=>by
  obtain⟨v,g1,g2,g3,g4⟩:=CsCells.at cs ys k c h3 (by simpa using h);refine⟨v,?_,?_,?_,g4⟩
  ·rw[h1,show (k+1)*3=k*3+3 from by omega];exact g1
  ·rw[h1,show (k+1)*3+1=k*3+1+3 from by omega];exact g2
  ·rw[h1,show (k+1)*3+2=k*3+2+3 from by omega];exact g3
theorem RsCells.at{B0:Nat}{w:World}:∀(rs:List Sv.Rule) (xs:List Value) (k:Nat) (q:Sv.Rule),RsCells B0 w rs xs->rs[k]?=some q->∃u,xs[k*2]?=some (.string ⟨q.name.toArray⟩)/\xs[k*2+1]?=some u/\CsAt B0 u q.conds w
 | [],_,k,c,_,h=>by simp at h
 | a::cs,xs,0,c,⟨u,ys,h1,h2,_⟩,h=>by
  simp at h;subst h;exact⟨u,by rw[h1];rfl,by rw[h1];rfl,h2⟩
 | a::cs,xs,k+1,c,⟨u,ys,h1,_,h3⟩,h=>by
  obtain⟨v,g1,g2,g4⟩:=RsCells.at cs ys k c h3 (by simpa using h);refine⟨v,?_,?_,g4⟩
  ·rw[h1,show (k+1)*2=k*2+2 from by omega];exact g1
  ·rw[h1,show (k+1)*2+1=k*2+1+2 from by omega];exact g2
theorem CsAt.cells{cs:List Sv.Cond}(h:CsAt base v cs w){c:Sv.Cond}(hk:cs[k]?=some c) :
  ∃g cap ao aC,v=.slice (some ⟨g,0,none⟩) cs.length cap/\w.cell? ⟨g,k*3,none⟩=some (.bool c.neg)/\w.cell? ⟨g,k*3+1,none⟩=some (.int .i64 c.kind)/\w.cell? ⟨g,k*3+2,none⟩=some (.slice ao c.terms.length aC)/\TsAt base (.slice ao c.terms.length aC) c.terms w:=by
 obtain⟨xs,h,hc⟩:=h;have hlt:k<cs.length:=(AL.1 hk).1;obtain⟨u,g1,g2,g3,g4⟩:=CsCells.at cs xs k c hc hk;obtain⟨ao,aC,rfl⟩:=g4.slice;rcases h.2 with ⟨_,h2⟩|⟨g,cap,cur,h1,h2⟩
 ·omega
 ·subst h1
  have h3:=FC (w:=w) (base:=base) (e:=200) (size:=3) (g:=g) (n:=cs.length) (cap:=cap) (xs:=xs) h;exact⟨g,cap,ao,aC,rfl,(h3 (k*3) (by omega)).trans g1,(h3 (k*3+1) (by omega)).trans g2,(h3 (k*3+2) (by omega)).trans g3,g4⟩
theorem RsAt.cells{rs:List Sv.Rule}(h:RsAt base v rs w){q:Sv.Rule}(hk:rs[k]?=some q) :
  ∃g cap ao aC,v=.slice (some ⟨g,0,none⟩) rs.length cap/\w.cell? ⟨g,k*2,none⟩=some (.string ⟨q.name.toArray⟩)/\w.cell? ⟨g,k*2+1,none⟩=some (.slice ao q.conds.length aC)/\CsAt base (.slice ao q.conds.length aC) q.conds w:=by
 obtain⟨xs,h,hc⟩:=h;have hlt:k<rs.length:=(AL.1 hk).1;obtain⟨u,g1,g2,g4⟩:=RsCells.at rs xs k q hc hk;obtain⟨ao,aC,rfl⟩:=g4.slice;rcases h.2 with ⟨_,h2⟩|⟨g,cap,cur,h1,h2⟩
 ·omega
 ·subst h1
  have h3:=FC (w:=w) (base:=base) (e:=128) (size:=2) (g:=g) (n:=rs.length) (cap:=cap) (xs:=xs) h;exact⟨g,cap,ao,aC,rfl,(h3 (k*2) (by omega)).trans g1,(h3 (k*2+1) (by omega)).trans g2,g4⟩
theorem C2.wr{B:Nat}(h:C2 T N x y w)(hw:Wr B b w w')(hb:Bld B b l w)(he:T≠5)(q9:T≠125):C2 T N x y w':=hw.keep hb h he q9
theorem Nh(f:α->List UInt8)(ts:List α)(k:Nat)(t:α)(h:ts[k]?=some t):(ts.take (k+1)).flatMap f=(ts.take k).flatMap f++f t:=by
 obtain⟨hlt,rfl⟩:=AL.1 h;rw[JP hlt,CO,BI,FV,BM]
theorem Tk(f:α->List UInt8)(ts:List α)(k:Nat):((ts.take k).flatMap f).length<=(ts.flatMap f).length:=by
 have h:ts.flatMap f=(ts.take k).flatMap f++(ts.drop k).flatMap f:=by rw[<-CO,DO]
 rw[h,AK];omega
theorem Q1v{α:Type}(f:α->List UInt8)(hf:∀a,1<=(f a).length)(ts:List α):ts.length<=(ts.flatMap f).length:=by
 induction ts with
 | nil=>simp
 | cons a ts ih=>rw[BI,AK];have:=hf a;simp at ih⊢;omega
theorem Q06(c:Sv.Cond):1<=(Cc c).length:=by unfold Cc;simp;omega
theorem Q3u(q:Sv.Rule):1<=(Co q).length:=by unfold Co;simp;omega
theorem Qw(B b:Nat)(l:List UInt8)(nm:List UInt8)(cs:List Sv.Cond)(u:Value)(w:World)(h:Bld B b l w)(dU:Lib.TabIs Tryz.prog w "internal/strconv.uint64pow10" .u64 Lib.pow10Tab)(hP:3<B)(hcs:CsAt 0 u cs w)(aK:∀c∈cs,J0 c)(hlen:l.length+(Co ⟨nm,cs⟩).length<=900000) :
  Calls Tryz.prog 66 #[.pointer (some ⟨b,0,none⟩),.agg #[.string ⟨nm.toArray⟩,u]] w fun e w'=>e=.returned (.tuple #[])/\Bld B b (l++Co ⟨nm,cs⟩) w'/\Wr B b w w':=by
 have om:=h.2;have hBb:=h.B;obtain⟨ao,cap,rfl⟩:=hcs.slice;have lC:C2 128 w.heap.size (.string ⟨nm.toArray⟩) (.slice ao cs.length cap) (w.alloc (.cells #[.string ⟨nm.toArray⟩,.slice ao cs.length cap] 128)):=AR _ _;have hb0:=h.alloc (.cells #[.string ⟨nm.toArray⟩,.slice ao cs.length cap] 128);have hw0:=(Wr.refl B b w).alloc om (.cells #[.string ⟨nm.toArray⟩,.slice ao cs.length cap] 128);have nA:=I8 dU (.cells #[.string ⟨nm.toArray⟩,.slice ao cs.length cap] 128) (by omega);have LA:=hcs.row (AA w (.cells #[.string ⟨nm.toArray⟩,.slice ao cs.length cap] 128) none) (RowOk.none 0 0 w) (by decide) (by decide)
 have dP:l++Co ⟨nm,cs⟩=l++nm++[58]++cs.flatMap Cc++[59,10]:=by
  unfold Co;simp only[BQ]
 have hsz:l.length+nm.length+(cs.flatMap Cc).length+3<=900000:=by
  have:=BJ List.length dP;simp only[AK,AP,CE] at this;omega
 have HF:=Ac dP;clear dP hlen;go_enter Tryz.func66,Tryz.ntmps66;go_wp2_with fail;refine(Q4a B b l ⟨nm.toArray⟩ _ hb0 (by omega) (by rw[Cu];omega)).mono ?_;rintro e W1⟨rfl,hb1,gR⟩;have hw1:=hw0.trans gR;have eh:=lC.wr gR hb0 (by decide) (by decide);have sq:=Fa nA gR hP;have KZ:=LA.wr gR hb0;clear hb0 gR hw0 lC nA LA;go_wp2_with fail;refine(Yj B b (l++nm) 58 _ rfl _ hb1 (by simp;omega)).mono ?_;rintro e W2⟨rfl,hb2,dp⟩;have hw2:=hw1.trans dp;have hC2:=eh.wr dp hb1 (by decide) (by decide);have fh:=Fa sq dp hP;have dQ:=KZ.wr dp hb1;clear hb1 hw1 dp eh sq KZ;obtain⟨d0,d1⟩:=hC2.c
 have hmx:cs.length<=900000:=by
  have:=Q1v Cc Q06 cs;omega
 go_wp2;go_loopw [15] (fun x w'=>∃k:Nat,k<=cs.length/\x=.int .i64 k/\Bld B b (l++nm++[58]++(cs.take k).flatMap Cc) w'/\Wr B b w w'/\Lib.TabIs Tryz.prog w' "internal/strconv.uint64pow10" .u64 Lib.pow10Tab/\CsAt 0 (.slice ao cs.length cap) cs w') (fun x _=>cs.length-(intOf x).toNat)
 case atStart=>exact⟨0,AG _,rfl,by simpa using hb2,hw2,fh,dQ⟩
 case round=>
  clear hb2 hw2 hC2 fh dQ d0 d1;obtain⟨k,hk,rfl,aH,lO,nj,vt⟩:=hrel;by_cases hlt:k<cs.length
  ·have hd:decide ((k:Int)<(cs.length:Int))=true:=by simp;omega
   obtain⟨c,s6⟩:∃c,cs[k]?=some c:=⟨cs[k],AB hlt⟩
   obtain⟨tR,pE⟩:=aK c (AV s6);have ja:=Nh Cc cs k c s6;have hle:=Tk Cc cs (k+1);have ai:=Tk Cc cs k;obtain⟨g,cap',bf,aC,hv,q0,q1,q2,bm⟩:=vt.cells s6;simp only[AH,BP] at hv;obtain⟨rfl,rfl⟩:=hv;have oQ:=Ac ja;clear s6 ja;go_wp2_with fail;have lf:((cs.take (k+1)).flatMap Cc).length=((cs.take k).flatMap Cc).length+(Cc ⟨c.neg,c.kind,c.terms⟩).length:=by rw[Aa oQ,AK]
   have cR:=aH.alloc (.cells #[.bool c.neg,.int .i64 c.kind,.slice bf c.terms.length aC] 200);have jZ:=lO.alloc aH.2 (.cells #[.bool c.neg,.int .i64 c.kind,.slice bf c.terms.length aC] 200);have nk:=I8 nj (.cells #[.bool c.neg,.int .i64 c.kind,.slice bf c.terms.length aC] 200) (by have:=aH.2;omega);have qA:=vt.row (AA wr (.cells #[.bool c.neg,.int .i64 c.kind,.slice bf c.terms.length aC] 200) none) (RowOk.none 0 0 wr) (by decide) (by decide);have dJ:=bm.row (AA wr (.cells #[.bool c.neg,.int .i64 c.kind,.slice bf c.terms.length aC] 200) none) (RowOk.none 0 0 wr) (by decide);refine(Qv B b _ c.neg c.kind c.terms _ _ cR nk hP dJ pE tR (by simp only[AK,BC];omega)).mono ?_;rintro e W6⟨rfl,fu,dI⟩;have iG:=jZ.trans dI;have vA:=Fa nk dI hP;have kO:=qA.wr dI cR;clear cR jZ dI nk qA dJ bm aH lO nj vt q0 q1 q2 lf;go_wp2;go_roundw
   case rel=>exact⟨k+1,by omega,by go_num,by rw[Aa oQ];simpa only[BQ] using fu,iG,vA,kO⟩
   case measure=>simp[intOf];omega
  ·obtain rfl:k=cs.length:=by omega
   have hd:decide ((cs.length:Int)<(cs.length:Int))=false:=by simp
   rw[CV] at aH;clear hlt;go_wp2_with fail;refine(Q4a B b _ ⟨#[59,10]⟩ _ aH (by simp only[AK,BC];omega) (by decide)).mono ?_;rintro e W5⟨rfl,hb5,oy⟩;go_wp2;go_end0
   exact⟨rfl,by rw[Aa HF];exact hb5,lO.trans oy⟩
theorem Q2d(rs:List Sv.Rule)(u:Value)(w:World)(dU:Lib.TabIs Tryz.prog w "internal/strconv.uint64pow10" .u64 Lib.pow10Tab)(hP:3<w.heap.size)(bX:RsAt 0 u rs w)(aK:∀q∈rs,Q0u q)(hlen:(I9 rs).length<=900000) :
  Calls Tryz.prog 37 #[u] w fun e w'=>e=.returned (.string ⟨(I9 rs).toArray⟩)/\w.grownBy w' none:=by
 obtain⟨ao,cap,rfl⟩:=bX.slice
 have hb0:Bld w.heap.size w.heap.size [] (w.alloc (.cells #[.pointer none,.slice none 0 0] 125)):=
  ⟨.inl ⟨AW _,.slice none 0 0,AR _ _,EJ _ _ _ _,by simp[Value.ownBlock]⟩,by simp⟩
 have hw0:Below w.heap.size w (w.alloc (.cells #[.pointer none,.slice none 0 0] 125)):=Fp (AA w _ none);have nA:=I8 dU (.cells #[.pointer none,.slice none 0 0] 125) hP;have yo:=bX.row (AA w (.cells #[.pointer none,.slice none 0 0] 125) none) (RowOk.none 0 0 w) (by decide) (by decide) (by decide)
 have hmx:rs.length<=900000:=by
  have:=Q1v Co Q3u rs;unfold I9 at hlen;omega
 unfold I9 at hlen⊢;go_enter Tryz.func37,Tryz.ntmps37;go_wp2;go_loopw [8] (fun x w'=>∃k:Nat,k<=rs.length/\x=.int .i64 k/\Bld w.heap.size w.heap.size ((rs.take k).flatMap Co) w'/\Below w.heap.size w w'/\Lib.TabIs Tryz.prog w' "internal/strconv.uint64pow10" .u64 Lib.pow10Tab/\RsAt 0 (.slice ao rs.length cap) rs w') (fun x _=>rs.length-(intOf x).toNat)
 case atStart=>exact⟨0,AG _,rfl,by simpa using hb0,hw0,nA,yo⟩
 case round=>
  clear hb0 hw0 nA yo;obtain⟨k,hk,rfl,aH,lO,nj,vI⟩:=hrel;by_cases hlt:k<rs.length
  ·have hd:decide ((k:Int)<(rs.length:Int))=true:=by simp;omega
   obtain⟨q,rp⟩:∃q,rs[k]?=some q:=⟨rs[k],AB hlt⟩
   have SL:=aK q (AV rp);have ja:=Nh Co rs k q rp;have hle:=Tk Co rs (k+1);have ai:=Tk Co rs k;obtain⟨g,cap',bf,aC,hv,q0,q1,hcs⟩:=vI.cells rp;simp only[AH,BP] at hv;obtain⟨rfl,rfl⟩:=hv;have oQ:=Ac ja;clear rp ja;go_wp2_with fail;have lf:((rs.take (k+1)).flatMap Co).length=((rs.take k).flatMap Co).length+(Co ⟨q.name,q.conds⟩).length:=by rw[Aa oQ,AK]
   have cR:=aH.alloc (.cells #[.string ⟨q.name.toArray⟩,.slice bf q.conds.length aC] 128);have jZ:=lO.alloc aH.2 (.cells #[.string ⟨q.name.toArray⟩,.slice bf q.conds.length aC] 128);have nk:=I8 nj (.cells #[.string ⟨q.name.toArray⟩,.slice bf q.conds.length aC] 128) (by have:=aH.2;omega);have yn:=vI.row (AA wr (.cells #[.string ⟨q.name.toArray⟩,.slice bf q.conds.length aC] 128) none) (RowOk.none 0 0 wr) (by decide) (by decide) (by decide);have qA:=hcs.row (AA wr (.cells #[.string ⟨q.name.toArray⟩,.slice bf q.conds.length aC] 128) none) (RowOk.none 0 0 wr) (by decide) (by decide);refine(Qw _ _ _ q.name q.conds _ _ cR nk hP qA SL (by omega)).mono ?_;rintro e W6⟨rfl,fu,dI⟩;have iG:=jZ.trans dI.1;have vA:=Fa nk dI hP;have SH:=yn.wr dI cR;clear cR jZ dI nk yn qA hcs aH lO nj vI q0 q1 lf;go_wp2;go_roundw
   case rel=>exact⟨k+1,by omega,by go_num,by rw[Aa oQ];exact fu,iG,vA,SH⟩
   case measure=>simp[intOf];omega
  ·obtain rfl:k=rs.length:=by omega
   have hd:decide ((rs.length:Int)<(rs.length:Int))=false:=by simp
   rw[CV] at aH;clear hlt;go_wp2_with fail;refine(Tryz.Builder_String_any_f _ _ (rs.flatMap Co) _ (Lib.IsBuilderF.of aH.1) aH.2).mono ?_;rintro e W5⟨rfl,hb5⟩;have aY:=Rv (lO.trans hb5.2) none;go_wp2;go_ret;exact⟨rfl,aY⟩
end Go.Proofs.YtolhbeekfjnfmaaGreatDoor

import Derived.Laws.AppendOwnNone
import Derived.Deep.RegionLaw
import Derived.Test.YtolhbeekfjnfmaaGreatDoorM03
import Derived.Test.YtolhbeekfjnfmaaGreatDoorM06
namespace Go.Proofs.YtolhbeekfjnfmaaGreatDoor
open Go.RowKit
theorem own_none {w w':World} {base:Nat} {e:TypeId} {size:Nat} {v:Value} {n:Nat} {xs:List Value} (h:w.ownsRow base e size v n xs) (hg:w.grownBy w' none):w'.ownsRow base e size v n xs:=by
 refine h.kept hg ?_
 cases hv:v.ownBlock
 ·exact .inl rfl
 ·exact .inr (by simp)
theorem own_slice {w:World} {base:Nat} {e:TypeId} {size:Nat} {v:Value} {n:Nat} {xs:List Value} (h:w.ownsRow base e size v n xs):∃ ao cap,v=.slice ao n cap:=by
 rcases h.2 with ⟨h1,h2⟩ | ⟨g,cap,cur,h1,_⟩
 ·exact ⟨none,0,by rw [h2]; exact h1⟩
 ·exact ⟨_,_,h1⟩
theorem own_cells {w:World} {base:Nat} {e:TypeId} {size:Nat} {v:Value} {n:Nat} {xs:List Value} (h:w.ownsRow base e size v n xs) {k:Nat} (hk:k < n) :
  ∃ g cap,v=.slice (some ⟨g,0,none⟩) n cap∧∀ j,j < size→w.cell? ⟨g,k * size+j,none⟩=xs[k * size+j]?:=by
 rcases h.2 with ⟨_,h2⟩ | ⟨g,cap,cur,h1,h2⟩
 ·omega
 ·subst h1
  refine ⟨g,cap,rfl,fun j hj=>h.cellAt _ ?_⟩
  have:(k+1) * size≤n * size:=Nat.mul_le_mul_right _ hk
  rw [Nat.succ_mul] at this
  omega
theorem fm_get {α:Type} (enc:α→List Value) (size:Nat) (hsz:∀ a,(enc a).length=size):∀ (l:List α) (k:Nat) (a:α),l[k]?=some a→∀ j,j < size→(l.flatMap enc)[k * size+j]?=(enc a)[j]?
 | [],k,a,h=>by simp at h
 | b :: l,0,a,h=>by
  intro j hj
  simp at h
  subst h
  rw [List.flatMap_cons,Nat.zero_mul,Nat.zero_add,List.getElem?_append_left (by rw [hsz]; exact hj)]
 | b :: l,k+1,a,h=>by
  intro j hj
  simp at h
  have h1:=fm_get enc size hsz l k a h j hj
  have e:(k+1) * size+j=size+(k * size+j):=by rw [Nat.succ_mul]; omega
  rw [List.flatMap_cons,List.getElem?_append_right (by rw [hsz,e]; omega),hsz,←h1]
  congr 1
  omega
def RowAt {α:Type} (e:TypeId) (size:Nat) (enc:α→List Value) (base:Nat) (v:Value) (l:List α) (w:World):Prop:=
 (∀ a,(enc a).length=size)∧w.ownsRow base e size v l.length (l.flatMap enc)
theorem RowAt.gr {α:Type} {e:TypeId} {size:Nat} {enc:α→List Value} {base:Nat} {v:Value} {l:List α} {w w':World} (h:RowAt e size enc base v l w) (hg:w.grownBy w' none):RowAt e size enc base v l w':=⟨h.1,own_none h.2 hg⟩
theorem RowAt.weak {α:Type} {e:TypeId} {size:Nat} {enc:α→List Value} {base base':Nat} {v:Value} {l:List α} {w:World} (h:RowAt e size enc base v l w) (hb:base'≤base):RowAt e size enc base' v l w:=⟨h.1,own_weak h.2 hb⟩
theorem RowAt.slice {α:Type} {e:TypeId} {size:Nat} {enc:α→List Value} {base:Nat} {v:Value} {l:List α} {w:World} (h:RowAt e size enc base v l w):∃ ao cap,v=.slice ao l.length cap:=own_slice h.2
theorem RowAt.cells {α:Type} {e:TypeId} {size:Nat} {enc:α→List Value} {base:Nat} {v:Value} {l:List α} {w:World} (h:RowAt e size enc base v l w) {k:Nat} {a:α} (hk:l[k]?=some a) :
  ∃ g cap,v=.slice (some ⟨g,0,none⟩) l.length cap∧∀ j,j < size→w.cell? ⟨g,k * size+j,none⟩=(enc a)[j]?:=by
 obtain ⟨g,cap,h1,h2⟩:=own_cells h.2 (List.getElem?_eq_some_iff.1 hk).1
 refine ⟨g,cap,h1,fun j hj=>?_⟩
 rw [h2 j hj,fm_get enc size h.1 l k a hk j hj]
theorem RowAt.nil {α:Type} {e:TypeId} {size:Nat} {enc:α→List Value} (base:Nat) (w:World) (h:∀ a,(enc a).length=size):RowAt e size enc base (.slice none 0 0) [] w:=⟨h,World.ownsRow_nil _ _ _ _⟩
theorem RowAt.row {α:Type} {e e':TypeId} {size:Nat} {enc:α→List Value} {base base':Nat} {v:Value} {l:List α} {w w':World} {row:Option Nat} (h:RowAt e size enc base v l w) (hg:w.grownBy w' row) (hr:RowOk base' e' row w) (hne:e'≠e):RowAt e size enc base v l w':=⟨h.1,own_row h.2 hg hr hne⟩
theorem RowAt.old {α:Type} {e:TypeId} {size:Nat} {enc:α→List Value} {base:Nat} {v:Value} {l:List α} {w w':World} {row:Option Nat} {N:Nat} (h:RowAt e size enc base v l w) (hg:w.grownBy w' row) (hv:∀ g,v.ownBlock=some g→g < N) (hN:∀ g,row=some g→N≤g):RowAt e size enc base v l w':=by
 refine ⟨h.1,h.2.kept hg ?_⟩
 cases hb:v.ownBlock with
 | none=>exact .inl rfl
 | some g=>
  refine .inr (fun e=>?_)
  have h1:=hv g hb
  have h2:=hN g e.symm
  omega
theorem app_row {P:Program} {w:World} {ops:Array Oper} {rest:List Oper} {o:Oper} {a:Act} {Q:Exit→Act→World→Prop} (hgd:o.guard=none) (s x:Operand) (t:TypeId)
  (ho:o.op=.call { callee:=.builtin .append,args:=#[s,x],argTypes:=#[t,t] }) {α:Type} {e:TypeId} {enc:α→List Value} {z:Value} {size bytes:Nat}
  (ht:P.underlying t=some (.slice e)) (hinf:(P.info? e).map (fun i=>(i.zero,i.size,i.bytes))=some (some z,size,bytes)) (hzs:z.cells.size=size) (hsz:0 < size)
  {base base2:Nat} {v u:Value} {l l2:List α} (hs:a.eval s=v) (hown:RowAt e size enc base v l w) (hx:a.eval x=u) (hsrc:RowAt e size enc base2 u l2 w)
  (h1:∀ y∈l2,∀ c∈enc y,c.oneCell'=true) (h63:l.length+l2.length≤maxLen) (hbytes:(l.length+l2.length) * bytes≤140737488355328) (hbase:base≤w.heap.size)
  (h:∀ v' w',RowAt e size enc base v' (l ++ l2) w'→w.grownBy w' v.ownBlock→wpList P ops Q rest (a.put o.dst v') w'):wpList P ops Q (o :: rest) a w:=by
 obtain ⟨i,hi,hz,hsize,hby⟩:=info_parts hinf
 rcases hsrc.2.2 with ⟨rfl,h2⟩ | ⟨g,cap,cur,rfl,h3,h4,h5,h6,h7,h8⟩
 ·have e2:l2=[]:=List.length_eq_zero_iff.1 h2
  subst e2
  refine wpList_append_own_none hgd s x t ho base e i size ht hi v l.length (l.flatMap enc) hs hown.2 hx ?_
  refine h v w ?_ ?_
  ·rw [List.append_nil]; exact hown
  ·exact World.grownBy.refl _ _
 ·refine wpList_append_own w hgd s x t ho base e i z size bytes ht hi hz hsize hby hzs hsz v l.length (l.flatMap enc) hs hown.2 ⟨g,0,none⟩ l2.length cap (l2.flatMap enc) hx hsrc.2.1 ?_ ?_ h63 hbytes hbase ?_
  ·intro j y hj
   exact hsrc.2.cells rfl j y hj
  ·intro c hc
   obtain ⟨y,hm,hy⟩:=List.mem_flatMap.1 hc
   exact h1 y hm c hy
  ·intro v' w' k1 k2 _
   refine h v' w' ⟨hown.1,?_⟩ k2
   rw [List.length_append,List.flatMap_append]
   exact k1
theorem app_step {P:Program} {w:World} {ops:Array Oper} {o:Oper} {a:Act} {K:Act→World→Prop} {Q:Exit→Act→World→Prop} {E:Prop} (hgd:o.guard=none) (s x:Operand) (t:TypeId)
  (ho:o.op=.call { callee:=.builtin .append,args:=#[s,x],argTypes:=#[t,t] }) {α:Type} {e:TypeId} {enc:α→List Value} {z:Value} {size bytes:Nat}
  (ht:P.underlying t=some (.slice e)) (hinf:(P.info? e).map (fun i=>(i.zero,i.size,i.bytes))=some (some z,size,bytes)) (hzs:z.cells.size=size) (hsz:0 < size)
  {base base2:Nat} {v u:Value} {l l2:List α} (hs:a.eval s=v) (hown:RowAt e size enc base v l w) (hx:a.eval x=u) (hsrc:RowAt e size enc base2 u l2 w)
  (h1:∀ y∈l2,∀ c∈enc y,c.oneCell'=true) (h63:l.length+l2.length≤maxLen) (hbytes:(l.length+l2.length) * bytes≤140737488355328) (hbase:base≤w.heap.size)
  (h:∀ v' w',RowAt e size enc base v' (l ++ l2) w'→w.grownBy w' v.ownBlock→K (a.put o.dst v') w') :
  if Region.wanted o (yielded ops a.tmps)=true then Oper.wp P o a w K Q else E:=by
 have hw:Region.wanted o (yielded ops a.tmps)=true:=by simp [Region.wanted,hgd]
 rw [if_pos hw]
 obtain ⟨i,hi,hz,hsize,hby⟩:=info_parts hinf
 rcases hsrc.2.2 with ⟨rfl,h2⟩ | ⟨g,cap,cur,rfl,h3,h4,h5,h6,h7,h8⟩
 ·have e2:l2=[]:=List.length_eq_zero_iff.1 h2
  subst e2
  have hrun:=run_append_owned_none (P:=P) (w:=w) base t o.type e i size ht hi v l.length (l.flatMap enc) hown.2
  unfold Oper.wp
  simp [execOp,ho,resolve,invoke,builtin,hs,hx,hrun,Result.andThen]
  refine h v w ?_ ?_
  ·rw [List.append_nil]; exact hown
  ·exact World.grownBy.refl _ _
 ·refine wp_append_own w s x t ho base e i z size bytes ht hi hz hsize hby hzs hsz v l.length (l.flatMap enc) hs hown.2 ⟨g,0,none⟩ l2.length cap (l2.flatMap enc) hx hsrc.2.1 ?_ ?_ h63 hbytes hbase ?_
  ·intro j y hj
   exact hsrc.2.cells rfl j y hj
  ·intro c hc
   obtain ⟨y,hm,hy⟩:=List.mem_flatMap.1 hc
   exact h1 y hm c hy
  ·intro v' w' k1 k2 _
   refine h v' w' ⟨hown.1,?_⟩ k2
   rw [List.length_append,List.flatMap_append]
   exact k1
theorem RowAt.heap {α:Type} {e:TypeId} {size:Nat} {enc:α→List Value} {base:Nat} {v:Value} {l:List α} {w w':World} (h:RowAt e size enc base v l w) (hw:w'.heap=w.heap):RowAt e size enc base v l w':=by
 refine ⟨h.1,h.2.1,?_⟩
 rw [hw]
 exact h.2.2
theorem RowAt.own {α:Type} {e:TypeId} {size:Nat} {enc:α→List Value} {base:Nat} {v:Value} {l:List α} {w:World} (h:RowAt e size enc base v l w):∀ g,v.ownBlock=some g→base≤g∧g < w.heap.size:=h.2.lt
theorem gr_app {w a c:World} {r row:Option Nat} (h:w.grownBy a r) (k:a.grownBy c row) (hr:∀ g,row=some g→w.heap.size≤g):w.grownBy c r:=
 ⟨k.os.trans h.os,k.tape.trans h.tape,k.output.trans h.output,Nat.le_trans h.size k.size,fun i hi hne=>(k.block i (Nat.lt_of_lt_of_le hi h.size) (fun e=>by have:=hr i e.symm; omega)).trans (h.block i hi hne)⟩
theorem RowAt.lit1 {α:Type} {e:TypeId} {size:Nat} {enc:α→List Value} (hsz:∀ a,(enc a).length=size) (w:World) (a:α) (cs:Array Value) (hc:cs.toList=enc a) :
  RowAt e size enc w.heap.size (.slice (some ⟨w.heap.size,0,none⟩) 1 1) [a] (w.alloc (.cells cs e)):=by
 refine ⟨hsz,?_⟩
 have h:=World.ownsRow_lit (base:=w.heap.size) (e:=e) (size:=size) w cs 1 (Nat.le_refl _) (by decide) (by rw [←Array.length_toList,hc,hsz]; omega)
 rw [hc] at h
 simpa using h
theorem RowAt.lit0 {α:Type} {e:TypeId} {size:Nat} {enc:α→List Value} (hsz:∀ a,(enc a).length=size) (w:World) :
  RowAt e size enc w.heap.size (.slice (some ⟨w.heap.size,0,none⟩) 0 0) ([]:List α) (w.alloc (.cells #[] e)):=by
 refine ⟨hsz,?_⟩
 have h:=World.ownsRow_lit (base:=w.heap.size) (e:=e) (size:=size) w #[] 0 (Nat.le_refl _) (by decide) (by simp)
 simpa using h
def ienc (x:Int):List Value:=[.int .i64 x]
theorem ienc_len (x:Int):(ienc x).length=1:=rfl
theorem ienc_one (x:Int):∀ c∈ienc x,c.oneCell'=true:=by intro c hc; simp [ienc] at hc; subst hc; rfl
abbrev IsAt (base:Nat) (v:Value) (l:List Int) (w:World):Prop:=RowAt 3 1 ienc base v l w
def benc (p:UInt8×Int):List Value:=[.int .u8 p.1.toNat,.int .i64 p.2]
theorem benc_len (p:UInt8×Int):(benc p).length=2:=rfl
theorem benc_one (p:UInt8×Int):∀ c∈benc p,c.oneCell'=true:=by intro c hc; simp [benc] at hc; rcases hc with rfl | rfl<;>rfl
abbrev BsAt (base:Nat) (v:Value) (l:Sv.Bs) (w:World):Prop:=RowAt 283 2 benc base v l w
theorem Tryz.infoBound:(Tryz.prog.info? 283).map (fun i=>(i.zero,i.size,i.bytes))=some (some (.agg #[.int .u8 0,.int .i64 0]),2,16):=by kernel_rfl
theorem Tryz.infoInt:(Tryz.prog.info? 3).map (fun i=>(i.zero,i.size,i.bytes))=some (some (.int .i64 0),1,8):=by kernel_rfl
def InAt (v:Value) (l:List Int) (w:World):Prop:=
 (v=.slice none 0 0∧l=[])∨∃ a cap,v=.slice (some a) l.length cap∧l.length≤maxLen∧∀ i x,l[i]?=some x→∃ g off,a=⟨g,off,none⟩∧w.cell? ⟨g,off+i,none⟩=some (.int .i64 x)
theorem InAt.slice {v:Value} {l:List Int} {w:World} (h:InAt v l w):∃ ao cap,v=.slice ao l.length cap:=by
 rcases h with ⟨h1,h2⟩ | ⟨a,cap,h1,_⟩
 ·exact ⟨none,0,by rw [h2]; exact h1⟩
 ·exact ⟨_,_,h1⟩
theorem InAt.le {v:Value} {l:List Int} {w:World} (h:InAt v l w):l.length≤maxLen:=by
 rcases h with ⟨_,h2⟩ | ⟨a,cap,_,h2,_⟩
 ·rw [h2]; exact Nat.zero_le _
 ·exact h2
theorem InAt.kept {v:Value} {l:List Int} {w w':World} {row:Option Nat} (h:InAt v l w) (hg:w.grownBy w' row) (hne:∀ g,v.ownBlock=some g→row≠some g):InAt v l w':=by
 rcases h with h1 | ⟨a,cap,h1,h2,h3⟩
 ·exact .inl h1
 ·refine .inr ⟨a,cap,h1,h2,fun i x hx=>?_⟩
  obtain ⟨g,off,e1,e2⟩:=h3 i x hx
  refine ⟨g,off,e1,hg.cell e2 (fun e=>?_)⟩
  refine hne g ?_ e.symm
  rw [h1,e1]
  rfl
theorem InAt.gr {v:Value} {l:List Int} {w w':World} (h:InAt v l w) (hg:w.grownBy w' none):InAt v l w':=h.kept hg (by simp)
theorem InAt.cell {ao:Option Addr} {n cap:Nat} {l:List Int} {w:World} (h:InAt (.slice ao n cap) l w) {i:Nat} {x:Int} (hx:l[i]?=some x):∃ g off,ao=some ⟨g,off,none⟩∧w.cell? ⟨g,off+i,none⟩=some (.int .i64 x):=by
 rcases h with ⟨_,h2⟩ | ⟨a,cap',h1,h2,h3⟩
 ·rw [h2] at hx; simp at hx
 ·simp only [Value.slice.injEq] at h1
  obtain ⟨g,off,e1,e2⟩:=h3 i x hx
  exact ⟨g,off,by rw [h1.1,e1],e2⟩
theorem RowAt.inAt {base:Nat} {v:Value} {l:List Int} {w:World} (h:IsAt base v l w):InAt v l w:=by
 rcases h.2.2 with ⟨h1,h2⟩ | ⟨g,cap,cur,h1,_,_,h3,h4,_⟩
 ·exact .inl ⟨h1,List.length_eq_zero_iff.1 h2⟩
 ·refine .inr ⟨_,cap,h1,Nat.le_trans h3 h4,fun i x hx=>⟨g,0,rfl,?_⟩⟩
  obtain ⟨g',cap',e1,e2⟩:=h.cells hx
  rw [h1] at e1
  simp only [Value.slice.injEq,Option.some.injEq,Addr.mk.injEq,and_true,true_and] at e1
  obtain ⟨rfl,_⟩:=e1
  have:=e2 0 (by omega)
  simpa [ienc] using this
theorem app_in {P:Program} {w:World} {ops:Array Oper} {rest:List Oper} {o:Oper} {a:Act} {Q:Exit→Act→World→Prop} (hgd:o.guard=none) (s x:Operand) (t:TypeId)
  (ho:o.op=.call { callee:=.builtin .append,args:=#[s,x],argTypes:=#[t,t] }) {z:Value} {bytes:Nat}
  (ht:P.underlying t=some (.slice 3)) (hinf:(P.info? 3).map (fun i=>(i.zero,i.size,i.bytes))=some (some z,1,bytes)) (hzs:z.cells.size=1)
  {base:Nat} {v u:Value} {l l2:List Int} (hs:a.eval s=v) (hown:IsAt base v l w) (hx:a.eval x=u) (hsrc:InAt u l2 w)
  (h63:l.length+l2.length≤maxLen) (hbytes:(l.length+l2.length) * bytes≤140737488355328) (hbase:base≤w.heap.size)
  (h:∀ v' w',IsAt base v' (l ++ l2) w'→w.grownBy w' v.ownBlock→wpList P ops Q rest (a.put o.dst v') w'):wpList P ops Q (o :: rest) a w:=by
 obtain ⟨i,hi,hz,hsize,hby⟩:=info_parts hinf
 rcases hsrc with ⟨rfl,rfl⟩ | ⟨ad,cap,rfl,h2,h3⟩
 ·refine wpList_append_own_none hgd s x t ho base 3 i 1 ht hi v l.length (l.flatMap ienc) hs hown.2 hx ?_
  refine h v w ?_ ?_
  ·rw [List.append_nil]; exact hown
  ·exact World.grownBy.refl _ _
 ·have hfm:∀ k:List Int,(k.flatMap ienc).length=k.length * 1:=by
   intro k
   induction k with
   | nil=>rfl
   | cons b k ih=>rw [List.flatMap_cons,List.length_append,ih,List.length_cons]; simp [ienc]; omega
  refine wpList_append_own w hgd s x t ho base 3 i z 1 bytes ht hi hz hsize hby hzs (by decide) v l.length (l.flatMap ienc) hs hown.2 ad l2.length cap (l2.flatMap ienc) hx (hfm l2) ?_ ?_ h63 hbytes hbase ?_
  ·intro j y hj
   have hjl:j < l2.length:=by
    have:=(List.getElem?_eq_some_iff.1 hj).1
    rw [hfm l2] at this
    omega
   have hg:=fm_get ienc 1 ienc_len l2 j l2[j] (List.getElem?_eq_getElem hjl) 0 (by omega)
   rw [show j * 1+0=j from by omega,hj] at hg
   have hy:y=.int .i64 l2[j]:=by simpa [ienc] using hg
   obtain ⟨g,off,e1,e2⟩:=h3 j l2[j] (List.getElem?_eq_getElem hjl)
   have hadd:ad.add j=⟨g,off+j,none⟩:=by
    rw [e1]
    unfold Addr.add
    by_cases hj0:j=0
    ·simp [hj0]
    ·simp [hj0]
   rw [hadd,e2,hy]
  ·intro c hc
   obtain ⟨y,_,hy⟩:=List.mem_flatMap.1 hc
   exact ienc_one y c hy
  ·intro v' w' k1 k2 _
   refine h v' w' ⟨hown.1,?_⟩ k2
   rw [List.length_append,List.flatMap_append]
   exact k1
theorem drop_get {α:Type} {l:List α} {k:Nat} {a:α} (h:l[k]?=some a):l.drop k=a :: l.drop (k+1):=by
 obtain ⟨h1,h2⟩:=List.getElem?_eq_some_iff.1 h
 rw [List.drop_eq_getElem_cons h1,h2]
set_option maxRecDepth 100000 in
set_option maxHeartbeats 400000 in
theorem vlook_w (v:Value) (b:Sv.Bs) (n:UInt8) (w:World) (base:Nat) (hb:BsAt base v b w) (hl:b.length≤1000) :
  Calls Tryz.prog 152 #[v,.int .u8 n.toNat] w fun e w'=>e=.returned (.tuple #[.int .i64 ((Sv.lookB b n).getD 0),.bool (Sv.lookB b n).isSome])∧w.grownBy w' none:=by
 obtain ⟨ao,cap,rfl⟩:=hb.slice
 obtain ⟨r,hr⟩:∃ r,Sv.lookB b n=r:=⟨_,rfl⟩
 have HR:=hide hr
 rw [hr]
 clear hr
 go_enter Tryz.func152,Tryz.ntmps152
 go_wp2
 go_loopw [6] (fun x w'=>∃ k:Nat,k≤b.length∧x=.int .i64 k∧Sv.lookB (b.drop k) n=r∧w.grownBy w' none) (fun x _=>b.length - (intOf x).toNat)
 case atStart=>exact ⟨0,Nat.zero_le _,rfl,unhide HR,World.grownBy.refl _ _⟩
 case round=>
  clear HR
  obtain ⟨k,hk,rfl,hr,hg⟩:=hrel
  by_cases hlt:k < b.length
  ·have hd:decide (k < b.length)=true:=by simpa using hlt
   obtain ⟨p,hp⟩:∃ p,b[k]?=some p:=⟨b[k],List.getElem?_eq_getElem hlt⟩
   rw [drop_get hp] at hr
   obtain ⟨g,cap',hv,hc⟩:=(hb.gr hg).cells hp
   simp only [Value.slice.injEq,true_and] at hv
   obtain ⟨rfl,rfl⟩:=hv
   have c0:wr.cell? ⟨g,k * 2,none⟩=some (.int .u8 p.1.toNat):=hc 0 (by omega)
   have c1:wr.cell? ⟨g,k * 2+1,none⟩=some (.int .i64 p.2):=hc 1 (by omega)
   unfold Sv.lookB at hr
   have HR:=hide hr
   clear hr hc hp
   by_cases he:p.1=n
   ·have hr:=unhide HR
    rw [if_pos he] at hr
    subst hr
    clear HR
    have hd2:((p.1.toNat:Int) == (n.toNat:Int))=true:=by simp [he]
    go_wp2
    go_ret2
    exact ⟨rfl,hg⟩
   ·have hr:=unhide HR
    rw [if_neg he] at hr
    have HR2:=hide hr
    clear hr HR
    have hd2:((p.1.toNat:Int) == (n.toNat:Int))=false:=by
     simp only [beq_eq_false_iff_ne,ne_eq]
     intro h
     exact he (UInt8.toNat_inj.1 (by omega))
    go_wp2
    go_roundw
    case rel=>exact ⟨k+1,by omega,by go_num,unhide HR2,hg⟩
    case measure=>simp [intOf]; omega
  ·have hd:decide (k < b.length)=false:=by simpa using hlt
   have e:b.drop k=[]:=List.drop_of_length_le (by omega)
   rw [e] at hr
   have hr2:none=r:=hr
   subst hr2
   go_wp2
   go_ret2
   exact ⟨rfl,hg⟩
end Go.Proofs.YtolhbeekfjnfmaaGreatDoor

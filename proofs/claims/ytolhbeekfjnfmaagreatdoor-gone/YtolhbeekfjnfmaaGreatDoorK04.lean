import Derived.Laws.AppendOwnNone
import Derived.Deep.RegionLaw
import Derived.Test.YtolhbeekfjnfmaaGreatDoorK03
namespace Go.Proofs.YtolhbeekfjnfmaaGreatDoor
open Go.RowKit
theorem own_none {w w':World} {base:Nat} {e:TypeId} {size:Nat} {v:Value} {n:Nat} {xs:List Value} (h:w.ownsRow base e size v n xs) (hg:w.grownBy w' none):w'.ownsRow base e size v n xs:=by
 refine h.kept hg ?_
 cases hv:v.ownBlock
 ·exact .inl rfl
 ·exact .inr (by simp)
theorem own_slice {w:World} {base:Nat} {e:TypeId} {size:Nat} {v:Value} {n:Nat} {xs:List Value} (h:w.ownsRow base e size v n xs):∃ ao cap,v=.slice ao n cap:=by
 rcases h.2 with ⟨h1,h2⟩ | ⟨g,cap,cur,h1,_⟩
 ·exact ⟨none,0,by rw [h2]; exact h1⟩
 ·exact ⟨_,_,h1⟩
theorem own_cells {w:World} {base:Nat} {e:TypeId} {size:Nat} {v:Value} {n:Nat} {xs:List Value} (h:w.ownsRow base e size v n xs) {k:Nat} (hk:k < n) :
  ∃ g cap,v=.slice (some ⟨g,0,none⟩) n cap∧∀ j,j < size→w.cell? ⟨g,k * size+j,none⟩=xs[k * size+j]?:=by
 rcases h.2 with ⟨_,h2⟩ | ⟨g,cap,cur,h1,h2⟩
 ·omega
 ·subst h1
  refine ⟨g,cap,rfl,fun j hj=>h.cellAt _ ?_⟩
  have:(k+1) * size≤n * size:=Nat.mul_le_mul_right _ hk
  rw [Nat.succ_mul] at this
  omega
theorem fm_get {α:Type} (enc:α→List Value) (size:Nat) (hsz:∀ a,(enc a).length=size):∀ (l:List α) (k:Nat) (a:α),l[k]?=some a→∀ j,j < size→(l.flatMap enc)[k * size+j]?=(enc a)[j]?
 | [],k,a,h=>by simp at h
 | b :: l,0,a,h=>by
  intro j hj
  simp at h
  subst h
  rw [List.flatMap_cons,Nat.zero_mul,Nat.zero_add,List.getElem?_append_left (by rw [hsz]; exact hj)]
 | b :: l,k+1,a,h=>by
  intro j hj
  simp at h
  have h1:=fm_get enc size hsz l k a h j hj
  have e:(k+1) * size+j=size+(k * size+j):=by rw [Nat.succ_mul]; omega
  rw [List.flatMap_cons,List.getElem?_append_right (by rw [hsz,e]; omega),hsz,←h1]
  congr 1
  omega
def RowAt {α:Type} (e:TypeId) (size:Nat) (enc:α→List Value) (base:Nat) (v:Value) (l:List α) (w:World):Prop:=
 (∀ a,(enc a).length=size)∧w.ownsRow base e size v l.length (l.flatMap enc)
theorem RowAt.gr {α:Type} {e:TypeId} {size:Nat} {enc:α→List Value} {base:Nat} {v:Value} {l:List α} {w w':World} (h:RowAt e size enc base v l w) (hg:w.grownBy w' none):RowAt e size enc base v l w':=⟨h.1,own_none h.2 hg⟩
theorem RowAt.weak {α:Type} {e:TypeId} {size:Nat} {enc:α→List Value} {base base':Nat} {v:Value} {l:List α} {w:World} (h:RowAt e size enc base v l w) (hb:base'≤base):RowAt e size enc base' v l w:=⟨h.1,own_weak h.2 hb⟩
theorem RowAt.slice {α:Type} {e:TypeId} {size:Nat} {enc:α→List Value} {base:Nat} {v:Value} {l:List α} {w:World} (h:RowAt e size enc base v l w):∃ ao cap,v=.slice ao l.length cap:=own_slice h.2
theorem RowAt.cells {α:Type} {e:TypeId} {size:Nat} {enc:α→List Value} {base:Nat} {v:Value} {l:List α} {w:World} (h:RowAt e size enc base v l w) {k:Nat} {a:α} (hk:l[k]?=some a) :
  ∃ g cap,v=.slice (some ⟨g,0,none⟩) l.length cap∧∀ j,j < size→w.cell? ⟨g,k * size+j,none⟩=(enc a)[j]?:=by
 obtain ⟨g,cap,h1,h2⟩:=own_cells h.2 (List.getElem?_eq_some_iff.1 hk).1
 refine ⟨g,cap,h1,fun j hj=>?_⟩
 rw [h2 j hj,fm_get enc size h.1 l k a hk j hj]
theorem RowAt.nil {α:Type} {e:TypeId} {size:Nat} {enc:α→List Value} (base:Nat) (w:World) (h:∀ a,(enc a).length=size):RowAt e size enc base (.slice none 0 0) [] w:=⟨h,World.ownsRow_nil _ _ _ _⟩
theorem RowAt.row {α:Type} {e e':TypeId} {size:Nat} {enc:α→List Value} {base base':Nat} {v:Value} {l:List α} {w w':World} {row:Option Nat} (h:RowAt e size enc base v l w) (hg:w.grownBy w' row) (hr:RowOk base' e' row w) (hne:e'≠e):RowAt e size enc base v l w':=⟨h.1,own_row h.2 hg hr hne⟩
theorem RowAt.old {α:Type} {e:TypeId} {size:Nat} {enc:α→List Value} {base:Nat} {v:Value} {l:List α} {w w':World} {row:Option Nat} {N:Nat} (h:RowAt e size enc base v l w) (hg:w.grownBy w' row) (hv:∀ g,v.ownBlock=some g→g < N) (hN:∀ g,row=some g→N≤g):RowAt e size enc base v l w':=by
 refine ⟨h.1,h.2.kept hg ?_⟩
 cases hb:v.ownBlock with
 | none=>exact .inl rfl
 | some g=>
  refine .inr (fun e=>?_)
  have h1:=hv g hb
  have h2:=hN g e.symm
  omega
theorem app_row {P:Program} {w:World} {ops:Array Oper} {rest:List Oper} {o:Oper} {a:Act} {Q:Exit→Act→World→Prop} (hgd:o.guard=none) (s x:Operand) (t:TypeId)
  (ho:o.op=.call { callee:=.builtin .append,args:=#[s,x],argTypes:=#[t,t] }) {α:Type} {e:TypeId} {enc:α→List Value} {z:Value} {size bytes:Nat}
  (ht:P.underlying t=some (.slice e)) (hinf:(P.info? e).map (fun i=>(i.zero,i.size,i.bytes))=some (some z,size,bytes)) (hzs:z.cells.size=size) (hsz:0 < size)
  {base base2:Nat} {v u:Value} {l l2:List α} (hs:a.eval s=v) (hown:RowAt e size enc base v l w) (hx:a.eval x=u) (hsrc:RowAt e size enc base2 u l2 w)
  (h1:∀ y∈l2,∀ c∈enc y,c.oneCell'=true) (h63:l.length+l2.length≤maxLen) (hbytes:(l.length+l2.length) * bytes≤140737488355328) (hbase:base≤w.heap.size)
  (h:∀ v' w',RowAt e size enc base v' (l ++ l2) w'→w.grownBy w' v.ownBlock→wpList P ops Q rest (a.put o.dst v') w'):wpList P ops Q (o :: rest) a w:=by
 obtain ⟨i,hi,hz,hsize,hby⟩:=info_parts hinf
 rcases hsrc.2.2 with ⟨rfl,h2⟩ | ⟨g,cap,cur,rfl,h3,h4,h5,h6,h7,h8⟩
 ·have e2:l2=[]:=List.length_eq_zero_iff.1 h2
  subst e2
  refine wpList_append_own_none hgd s x t ho base e i size ht hi v l.length (l.flatMap enc) hs hown.2 hx ?_
  refine h v w ?_ ?_
  ·rw [List.append_nil]; exact hown
  ·exact World.grownBy.refl _ _
 ·refine wpList_append_own w hgd s x t ho base e i z size bytes ht hi hz hsize hby hzs hsz v l.length (l.flatMap enc) hs hown.2 ⟨g,0,none⟩ l2.length cap (l2.flatMap enc) hx hsrc.2.1 ?_ ?_ h63 hbytes hbase ?_
  ·intro j y hj
   exact hsrc.2.cells rfl j y hj
  ·intro c hc
   obtain ⟨y,hm,hy⟩:=List.mem_flatMap.1 hc
   exact h1 y hm c hy
  ·intro v' w' k1 k2 _
   refine h v' w' ⟨hown.1,?_⟩ k2
   rw [List.length_append,List.flatMap_append]
   exact k1
theorem RowAt.heap {α:Type} {e:TypeId} {size:Nat} {enc:α→List Value} {base:Nat} {v:Value} {l:List α} {w w':World} (h:RowAt e size enc base v l w) (hw:w'.heap=w.heap):RowAt e size enc base v l w':=by
 refine ⟨h.1,h.2.1,?_⟩
 rw [hw]
 exact h.2.2
theorem RowAt.own {α:Type} {e:TypeId} {size:Nat} {enc:α→List Value} {base:Nat} {v:Value} {l:List α} {w:World} (h:RowAt e size enc base v l w):∀ g,v.ownBlock=some g→base≤g∧g < w.heap.size:=h.2.lt
theorem gr_app {w a c:World} {r row:Option Nat} (h:w.grownBy a r) (k:a.grownBy c row) (hr:∀ g,row=some g→w.heap.size≤g):w.grownBy c r:=
 ⟨k.os.trans h.os,k.tape.trans h.tape,k.output.trans h.output,Nat.le_trans h.size k.size,fun i hi hne=>(k.block i (Nat.lt_of_lt_of_le hi h.size) (fun e=>by have:=hr i e.symm; omega)).trans (h.block i hi hne)⟩
theorem RowAt.lit1 {α:Type} {e:TypeId} {size:Nat} {enc:α→List Value} (hsz:∀ a,(enc a).length=size) (w:World) (a:α) (cs:Array Value) (hc:cs.toList=enc a) :
  RowAt e size enc w.heap.size (.slice (some ⟨w.heap.size,0,none⟩) 1 1) [a] (w.alloc (.cells cs e)):=by
 refine ⟨hsz,?_⟩
 have h:=World.ownsRow_lit (base:=w.heap.size) (e:=e) (size:=size) w cs 1 (Nat.le_refl _) (by decide) (by rw [←Array.length_toList,hc,hsz]; omega)
 rw [hc] at h
 simpa using h
theorem RowAt.lit0 {α:Type} {e:TypeId} {size:Nat} {enc:α→List Value} (hsz:∀ a,(enc a).length=size) (w:World) :
  RowAt e size enc w.heap.size (.slice (some ⟨w.heap.size,0,none⟩) 0 0) ([]:List α) (w.alloc (.cells #[] e)):=by
 refine ⟨hsz,?_⟩
 have h:=World.ownsRow_lit (base:=w.heap.size) (e:=e) (size:=size) w #[] 0 (Nat.le_refl _) (by decide) (by simp)
 simpa using h
def ienc (x:Int):List Value:=[.int .i64 x]
theorem ienc_len (x:Int):(ienc x).length=1:=rfl
theorem ienc_one (x:Int):∀ c∈ienc x,c.oneCell'=true:=by intro c hc; simp [ienc] at hc; subst hc; rfl
abbrev IsAt (base:Nat) (v:Value) (l:List Int) (w:World):Prop:=RowAt 3 1 ienc base v l w
theorem Tryz.infoInt:(Tryz.prog.info? 3).map (fun i=>(i.zero,i.size,i.bytes))=some (some (.int .i64 0),1,8):=by kernel_rfl
def InAt (v:Value) (l:List Int) (w:World):Prop:=
 (v=.slice none 0 0∧l=[])∨∃ a cap,v=.slice (some a) l.length cap∧l.length≤maxLen∧∀ i x,l[i]?=some x→∃ g off,a=⟨g,off,none⟩∧w.cell? ⟨g,off+i,none⟩=some (.int .i64 x)
theorem InAt.slice {v:Value} {l:List Int} {w:World} (h:InAt v l w):∃ ao cap,v=.slice ao l.length cap:=by
 rcases h with ⟨h1,h2⟩ | ⟨a,cap,h1,_⟩
 ·exact ⟨none,0,by rw [h2]; exact h1⟩
 ·exact ⟨_,_,h1⟩
theorem InAt.le {v:Value} {l:List Int} {w:World} (h:InAt v l w):l.length≤maxLen:=by
 rcases h with ⟨_,h2⟩ | ⟨a,cap,_,h2,_⟩
 ·rw [h2]; exact Nat.zero_le _
 ·exact h2
theorem InAt.kept {v:Value} {l:List Int} {w w':World} {row:Option Nat} (h:InAt v l w) (hg:w.grownBy w' row) (hne:∀ g,v.ownBlock=some g→row≠some g):InAt v l w':=by
 rcases h with h1 | ⟨a,cap,h1,h2,h3⟩
 ·exact .inl h1
 ·refine .inr ⟨a,cap,h1,h2,fun i x hx=>?_⟩
  obtain ⟨g,off,e1,e2⟩:=h3 i x hx
  refine ⟨g,off,e1,hg.cell e2 (fun e=>?_)⟩
  refine hne g ?_ e.symm
  rw [h1,e1]
  rfl
theorem InAt.gr {v:Value} {l:List Int} {w w':World} (h:InAt v l w) (hg:w.grownBy w' none):InAt v l w':=h.kept hg (by simp)
theorem InAt.cell {ao:Option Addr} {n cap:Nat} {l:List Int} {w:World} (h:InAt (.slice ao n cap) l w) {i:Nat} {x:Int} (hx:l[i]?=some x):∃ g off,ao=some ⟨g,off,none⟩∧w.cell? ⟨g,off+i,none⟩=some (.int .i64 x):=by
 rcases h with ⟨_,h2⟩ | ⟨a,cap',h1,h2,h3⟩
 ·rw [h2] at hx; simp at hx
 ·simp only [Value.slice.injEq] at h1
  obtain ⟨g,off,e1,e2⟩:=h3 i x hx
  exact ⟨g,off,by rw [h1.1,e1],e2⟩
theorem RowAt.inAt {base:Nat} {v:Value} {l:List Int} {w:World} (h:IsAt base v l w):InAt v l w:=by
 rcases h.2.2 with ⟨h1,h2⟩ | ⟨g,cap,cur,h1,_,_,h3,h4,_⟩
 ·exact .inl ⟨h1,List.length_eq_zero_iff.1 h2⟩
 ·refine .inr ⟨_,cap,h1,Nat.le_trans h3 h4,fun i x hx=>⟨g,0,rfl,?_⟩⟩
  obtain ⟨g',cap',e1,e2⟩:=h.cells hx
  rw [h1] at e1
  simp only [Value.slice.injEq,Option.some.injEq,Addr.mk.injEq,and_true,true_and] at e1
  obtain ⟨rfl,_⟩:=e1
  have:=e2 0 (by omega)
  simpa [ienc] using this
theorem drop_get {α:Type} {l:List α} {k:Nat} {a:α} (h:l[k]?=some a):l.drop k=a :: l.drop (k+1):=by
 obtain ⟨h1,h2⟩:=List.getElem?_eq_some_iff.1 h
 rw [List.drop_eq_getElem_cons h1,h2]
end Go.Proofs.YtolhbeekfjnfmaaGreatDoor

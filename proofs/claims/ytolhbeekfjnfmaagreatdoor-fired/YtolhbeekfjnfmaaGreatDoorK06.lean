import Derived.ArgAppend
import Derived.Deep.AppendLies
import Derived.Test.YtolhbeekfjnfmaaGreatDoorK04
import Derived.Test.YtolhbeekfjnfmaaGreatDoorK05
import Derived.Test.YtolhbeekfjnfmaaGreatDoorK03
namespace Go.Proofs.YtolhbeekfjnfmaaGreatDoor
open Go.RowKit
structure GrS (S:Nat→Prop) (w w':World):Prop where
 os:w'.os=w.os
 tape:w'.tape=w.tape
 output:w'.output=w.output
 size:w.heap.size≤w'.heap.size
 block:∀ k,k < w.heap.size→¬ S k→w'.heap[k]?=w.heap[k]?
theorem GrS.of {S:Nat→Prop} {w w':World} {row:Option Nat} (h:w.grownBy w' row) (hr:∀ g,row=some g→S g):GrS S w w':=
 ⟨h.os,h.tape,h.output,h.size,fun k hk hs=>h.block k hk (fun e=>hs (hr k e.symm))⟩
theorem GrS.then {S:Nat→Prop} {w a c:World} {row:Option Nat} (h:GrS S w a) (k:a.grownBy c row) (hr:∀ g,row=some g→w.heap.size≤g∨S g):GrS S w c:=
 ⟨k.os.trans h.os,k.tape.trans h.tape,k.output.trans h.output,Nat.le_trans h.size k.size,fun i hi hs=>(k.block i (Nat.lt_of_lt_of_le hi h.size) (fun e=>by rcases hr i e.symm with h1 | h1; omega; exact hs h1)).trans (h.block i hi hs)⟩
theorem GrS.trans {S:Nat→Prop} {a b c:World} (h:GrS S a b) (k:GrS S b c):GrS S a c:=
 ⟨k.os.trans h.os,k.tape.trans h.tape,k.output.trans h.output,Nat.le_trans h.size k.size,fun i hi hs=>(k.block i (Nat.lt_of_lt_of_le hi h.size) hs).trans (h.block i hi hs)⟩
theorem GrS.mono {S S':Nat→Prop} {a b:World} (h:GrS S a b) (hs:∀ k,S k→S' k):GrS S' a b:=⟨h.os,h.tape,h.output,h.size,fun k hk hn=>h.block k hk (fun e=>hn (hs k e))⟩
theorem RowOk.blk {y:Nat} {cs:Array Value} {e:TypeId} {fz:Nat×Nat} {w:World} (h:w.heap[y]?=some (.cells cs e fz)):RowOk 0 e (some y) w:=by
 intro g hg
 simp only [Option.some.injEq] at hg
 subst hg
 exact ⟨Nat.zero_le _,_,_,h⟩
theorem RowAt.prefix {α:Type} {e:TypeId} {size:Nat} {enc:α→List Value} {base g n cap:Nat} {l l2:List α} {w:World} (h:RowAt e size enc base (.slice (some ⟨g,0,none⟩) n cap) (l ++ l2) w):RowAt e size enc base (.slice (some ⟨g,0,none⟩) l.length cap) l w:=by
 have hlen:∀ (k:List α),(k.flatMap enc).length=k.length * size:=by
  intro k
  induction k with
  | nil=>simp
  | cons a k ih=>rw [List.flatMap_cons,List.length_append,h.1,ih,List.length_cons,Nat.succ_mul]; omega
 refine ⟨h.1,hlen l,?_⟩
 rcases h.2.2 with ⟨h1,_⟩ | ⟨g',cap',cur,h1,h2,h3,h4,h5,h6,h7⟩
 ·simp at h1
 ·simp only [Value.slice.injEq,Option.some.injEq,Addr.mk.injEq,and_true] at h1
  obtain ⟨rfl,h1,rfl⟩:=h1
  refine .inr ⟨g,cap,cur,rfl,h2,h3,?_,h5,h6,?_⟩
  ·rw [List.length_append] at h4; omega
  ·have h8:=congrArg (List.take (l.length * size)) h7
   rw [List.take_take,List.flatMap_append,List.take_left' (hlen l),Nat.min_eq_left (Nat.mul_le_mul_right _ (by rw [List.length_append]; omega))] at h8
   exact h8
def Longer (v v':Value) (n m:Nat) (w w':World):Prop:=
 (∃ g cap,v=.slice (some ⟨g,0,none⟩) n cap∧v'=.slice (some ⟨g,0,none⟩) (n+m) cap∧w.grownBy w' (some g))∨
 (w.grownBy w' none∧∃ g cap,v'=.slice (some ⟨g,0,none⟩) (n+m) cap∧w.heap.size≤g)
theorem run_two {P:Program} (w:World) (t ty:TypeId) {α:Type} {e:TypeId} {enc:α→List Value} {z:Value} {size bytes:Nat}
  (ht:P.underlying t=some (.slice e)) (hinf:(P.info? e).map (fun i=>(i.zero,i.size,i.bytes))=some (some z,size,bytes)) (hzs:z.cells.size=size) (hsz:0 < size)
  {base base2:Nat} {v u:Value} {l l2:List α} (hown:RowAt e size enc base v l w) (hsrc:RowAt e size enc base2 u l2 w) (hpos:0 < l2.length)
  (h1:∀ y∈l2,∀ c∈enc y,c.oneCell'=true) (h63:l.length+l2.length≤maxLen) (hbytes:(l.length+l2.length) * bytes≤140737488355328) :
  ∃ v' w',(Builtin.append_ #[t,t] ty #[v,u]).run P w=.ok v' w'∧RowAt e size enc 0 v' (l ++ l2) w'∧Longer v v' l.length l2.length w w':=by
 obtain ⟨i,hi,hz,hsize,hby⟩:=info_parts hinf
 have hone:∀ c∈l2.flatMap enc,c.oneCell'=true:=by
  intro c hc
  obtain ⟨y,hm,hy⟩:=List.mem_flatMap.1 hc
  exact h1 y hm c hy
 have hform:∀ (v':Value) (w':World) (b:Nat),w'.ownsRow b e size v' (l.length+l2.length) (l.flatMap enc ++ l2.flatMap enc)→∃ g cap,v'=.slice (some ⟨g,0,none⟩) (l.length+l2.length) cap∧b≤g:=by
  intro v' w' b hb
  rcases hb.2 with ⟨_,h2⟩ | ⟨g,cap,cur,h2,h3,_⟩
  ·omega
  ·exact ⟨g,cap,h2,h3⟩
 have hrow:∀ (v':Value) (w':World) (b:Nat),w'.ownsRow b e size v' (l.length+l2.length) (l.flatMap enc ++ l2.flatMap enc)→RowAt e size enc 0 v' (l ++ l2) w':=by
  intro v' w' b hb
  refine ⟨hown.1,?_⟩
  rw [List.length_append,List.flatMap_append]
  exact own_weak hb (Nat.zero_le _)
 rcases hsrc.2.2 with ⟨rfl,h2⟩ | ⟨g,cap,cur,rfl,h3,h4,h5,h6,h7,h8⟩
 ·omega
 ·have hnews:∀ j y,(l2.flatMap enc)[j]?=some y→w.cell? ((⟨g,0,none⟩:Addr).add j)=some y:=fun j y hj=>hsrc.2.cells rfl j y hj
  rcases hown.2.2 with ⟨rfl,h2⟩ | ⟨g0,cap0,cur0,rfl,k3,k4,k5,k6,k7,k8⟩
  ·have hn0:=World.ownsRow_nil w w.heap.size e size
   have e2:l=[]:=List.length_eq_zero_iff.1 h2
   subst e2
   obtain ⟨v',w',hr,a1,a2,_⟩:=run_append_own (P:=P) w w.heap.size t ty e i z size bytes ht hi hz hsize hby hzs hsz (.slice none 0 0) 0 [] hn0 ⟨g,0,none⟩ l2.length cap (l2.flatMap enc) hsrc.2.1 hnews hone (by simpa using h63) (by simpa using hbytes) (Nat.le_refl _)
   refine ⟨v',w',hr,hrow v' w' _ a1,.inr ⟨a2,?_⟩⟩
   obtain ⟨g',cap',e1,e2⟩:=hform v' w' _ a1
   exact ⟨g',cap',e1,e2⟩
  ·by_cases hroom:l.length+l2.length≤cap0
   ·obtain ⟨w',hr,a1,a2⟩:=run_append_fits (P:=P) w base t ty e i size ht hi hsize g0 l.length cap0 (l.flatMap enc) hown.2 ⟨g,0,none⟩ l2.length cap (l2.flatMap enc) hsrc.2.1 hnews hone hroom
    exact ⟨_,w',hr,hrow _ w' _ a1,.inl ⟨g0,cap0,rfl,rfl,a2⟩⟩
   ·obtain ⟨v',w',hr,a1,a2⟩:=run_append_arg_grows (P:=P) w t ty e i z size bytes ht hi hz hsize hby hzs hsz ⟨g0,0,none⟩ l.length cap0 (l.flatMap enc) hown.2.1 (fun j y hj=>hown.2.cells rfl j y hj) ⟨g,0,none⟩ l2.length cap (l2.flatMap enc) hsrc.2.1 hnews (by omega) h63 hbytes
    refine ⟨v',w',hr,hrow v' w' _ a1,.inr ⟨a2,?_⟩⟩
    obtain ⟨g',cap',e1,e2⟩:=hform v' w' _ a1
    exact ⟨g',cap',e1,e2⟩
theorem app_two {P:Program} {w:World} {ops:Array Oper} {rest:List Oper} {o:Oper} {a:Act} {Q:Exit→Act→World→Prop} (hgd:o.guard=none) (s x:Operand) (t:TypeId)
  (ho:o.op=.call { callee:=.builtin .append,args:=#[s,x],argTypes:=#[t,t] }) {α:Type} {e:TypeId} {enc:α→List Value} {z:Value} {size bytes:Nat}
  (ht:P.underlying t=some (.slice e)) (hinf:(P.info? e).map (fun i=>(i.zero,i.size,i.bytes))=some (some z,size,bytes)) (hzs:z.cells.size=size) (hsz:0 < size)
  {base base2:Nat} {v u:Value} {l l2:List α} (hs:a.eval s=v) (hown:RowAt e size enc base v l w) (hx:a.eval x=u) (hsrc:RowAt e size enc base2 u l2 w) (hpos:0 < l2.length)
  (h1:∀ y∈l2,∀ c∈enc y,c.oneCell'=true) (h63:l.length+l2.length≤maxLen) (hbytes:(l.length+l2.length) * bytes≤140737488355328)
  (h:∀ v' w',RowAt e size enc 0 v' (l ++ l2) w'→Longer v v' l.length l2.length w w'→wpList P ops Q rest (a.put o.dst v') w'):wpList P ops Q (o :: rest) a w:=by
 obtain ⟨v',w',hr,h2,h3⟩:=run_two w t o.type ht hinf hzs hsz hown hsrc hpos h1 h63 hbytes
 refine wpList_plain hgd fun K hK=>?_
 unfold Oper.wp
 simp [execOp,ho,resolve,invoke,builtin,hs,hx,hr,Result.andThen]
 exact hK _ _ (h v' w' h2 h3)
theorem app_two_step {P:Program} {w:World} {ops:Array Oper} {o:Oper} {a:Act} {K:Act→World→Prop} {Q:Exit→Act→World→Prop} {E:Prop} (hgd:o.guard=none) (s x:Operand) (t:TypeId)
  (ho:o.op=.call { callee:=.builtin .append,args:=#[s,x],argTypes:=#[t,t] }) {α:Type} {e:TypeId} {enc:α→List Value} {z:Value} {size bytes:Nat}
  (ht:P.underlying t=some (.slice e)) (hinf:(P.info? e).map (fun i=>(i.zero,i.size,i.bytes))=some (some z,size,bytes)) (hzs:z.cells.size=size) (hsz:0 < size)
  {base base2:Nat} {v u:Value} {l l2:List α} (hs:a.eval s=v) (hown:RowAt e size enc base v l w) (hx:a.eval x=u) (hsrc:RowAt e size enc base2 u l2 w) (hpos:0 < l2.length)
  (h1:∀ y∈l2,∀ c∈enc y,c.oneCell'=true) (h63:l.length+l2.length≤maxLen) (hbytes:(l.length+l2.length) * bytes≤140737488355328)
  (h:∀ v' w',RowAt e size enc 0 v' (l ++ l2) w'→Longer v v' l.length l2.length w w'→K (a.put o.dst v') w') :
  if Region.wanted o (yielded ops a.tmps)=true then Oper.wp P o a w K Q else E:=by
 have hw:Region.wanted o (yielded ops a.tmps)=true:=by simp [Region.wanted,hgd]
 rw [if_pos hw]
 obtain ⟨v',w',hr,h2,h3⟩:=run_two w t o.type ht hinf hzs hsz hown hsrc hpos h1 h63 hbytes
 unfold Oper.wp
 simp [execOp,ho,resolve,invoke,builtin,hs,hx,hr,Result.andThen]
 exact h v' w' h2 h3
theorem app_lies {P:Program} {w:World} {ops:Array Oper} {o:Oper} {a:Act} {K:Act→World→Prop} {Q:Exit→Act→World→Prop} {E:Prop} (hgd:o.guard=none) (s x:Operand) (t:TypeId)
  (ho:o.op=.call { callee:=.builtin .append,args:=#[s,x],argTypes:=#[t,t] }) {α:Type} {e:TypeId} {enc:α→List Value} {z:Value} {size bytes:Nat}
  (ht:P.underlying t=some (.slice e)) (hinf:(P.info? e).map (fun i=>(i.zero,i.size,i.bytes))=some (some z,size,bytes)) (hzs:z.cells.size=size) (hsz:0 < size)
  {base base2:Nat} {v u:Value} {l l2:List α} (hs:a.eval s=v) (hown:RowAt e size enc base v l w) (hx:a.eval x=u) (hsrc:RowAt e size enc base2 u l2 w) (hpos:0 < l2.length)
  (h1:∀ y∈l2,∀ c∈enc y,c.oneCell'=true) (h63:l.length+l2.length≤maxLen) (hbytes:(l.length+l2.length) * bytes≤140737488355328) (hbase:base≤w.heap.size)
  (h:∀ g cap w',RowAt e size enc base (.slice (some ⟨g,0,none⟩) (l ++ l2).length cap) (l ++ l2) w'→w.grownBy w' v.ownBlock→(v.ownBlock=some g∨g=w.heap.size)→K (a.put o.dst (.slice (some ⟨g,0,none⟩) (l.length+l2.length) cap)) w') :
  if Region.wanted o (yielded ops a.tmps)=true then Oper.wp P o a w K Q else E:=by
 obtain ⟨i,hi,hz,hsize,hby⟩:=info_parts hinf
 rcases hsrc.2.2 with ⟨rfl,h2⟩ | ⟨g,cap,cur,rfl,h3,h4,h5,h6,h7,h8⟩
 ·omega
 ·refine step_append_lies w hgd s x t ho base e i z size bytes ht hi hz hsize hby hzs hsz v l.length (l.flatMap enc) hs hown.2 ⟨g,0,none⟩ l2.length cap (l2.flatMap enc) hx hsrc.2.1 ?_ ?_ hpos h63 hbytes hbase _ rfl ?_
  ·intro j y hj
   exact hsrc.2.cells rfl j y hj
  ·intro c hc
   obtain ⟨y,hm,hy⟩:=List.mem_flatMap.1 hc
   exact h1 y hm c hy
  ·intro g' cap' w' k1 k2 k3 _
   refine h g' cap' w' ⟨hown.1,?_⟩ k2 k3
   rw [List.length_append,List.flatMap_append]
   exact k1
theorem RowAt.le {α:Type} {e:TypeId} {size:Nat} {enc:α→List Value} {base:Nat} {v:Value} {l:List α} {w:World} (h:RowAt e size enc base v l w):l.length≤maxLen:=by
 rcases h.2.2 with ⟨_,h2⟩ | ⟨g,cap,cur,_,_,_,h3,h4,_⟩
 ·rw [h2]; exact Nat.zero_le _
 ·exact Nat.le_trans h3 h4
theorem gr_al2 (w:World) (a b:Obj):w.grownBy ((w.alloc a).alloc b) none:=gr_trans (World.grownBy_alloc w a none) (World.grownBy_alloc _ b none)
theorem RowAt.other {α:Type} {e:TypeId} {size:Nat} {enc:α→List Value} {base:Nat} {v:Value} {l:List α} {w w':World} {row:Option Nat} (h:RowAt e size enc base v l w) (hg:w.grownBy w' row) (hv:∀ g,v.ownBlock=some g→row≠some g):RowAt e size enc base v l w':=by
 refine ⟨h.1,h.2.kept hg ?_⟩
 cases hb:v.ownBlock with
 | none=>exact .inl rfl
 | some g=>exact .inr (fun e=>hv g hb e.symm)
theorem RowAt.fz {α:Type} {e:TypeId} {size:Nat} {enc:α→List Value} {base g n cap:Nat} {l:List α} {w:World} (h:RowAt e size enc base (.slice (some ⟨g,0,none⟩) n cap) l w) (j:Nat):w.frozen? ⟨g,j,none⟩=false:=by
 rcases h.2.2 with ⟨h1,_⟩ | ⟨g',cap',cur,h1,h2,h3,_⟩
 ·simp at h1
 ·simp only [Value.slice.injEq,Option.some.injEq,Addr.mk.injEq,and_true] at h1
  obtain ⟨rfl,_,_⟩:=h1
  simp [World.frozen?,h3]
theorem RowAt.len {α:Type} {e:TypeId} {size:Nat} {enc:α→List Value} {base n cap:Nat} {ao:Option Addr} {l:List α} {w:World} (h:RowAt e size enc base (.slice ao n cap) l w):n=l.length:=by
 obtain ⟨a,c,h1⟩:=h.slice
 simp only [Value.slice.injEq] at h1
 exact h1.2.1
def TRow {α:Type} (T:Nat→Nat) (t:Nat) (e:TypeId) (size:Nat) (enc:α→List Value) (v:Value) (l:List α) (w:World):Prop:=
 RowAt e size enc 0 v l w∧∀ g,v.ownBlock=some g→T g=t
def TOld (w:World) (T T':Nat→Nat):Prop:=∀ k,k < w.heap.size→T' k=T k
theorem TRow.keep {α:Type} {T T':Nat→Nat} {t:Nat} {e:TypeId} {size:Nat} {enc:α→List Value} {v:Value} {l:List α} {w w':World} {S:Nat→Prop} (h:TRow T t e size enc v l w) (hg:GrS S w w') (hs:∀ k,T k=t→¬ S k) (ho:TOld w T T'):TRow T' t e size enc v l w':=by
 have hlt:=h.1.own
 constructor
 ·refine ⟨h.1.1,h.1.2.1,?_⟩
  rcases h.1.2.2 with ⟨h1,h2⟩ | ⟨g,cap,cur,h1,h2,h3,h4⟩
  ·exact .inl ⟨h1,h2⟩
  ·have hb:v.ownBlock=some g:=by rw [h1]; rfl
   refine .inr ⟨g,cap,cur,h1,h2,?_,h4⟩
   rw [hg.block g (hlt g hb).2 (hs g (h.2 g hb))]
   exact h3
 ·intro g hb
  rw [ho g (hlt g hb).2]
  exact h.2 g hb
theorem GrS.blk {S:Nat→Prop} {w w':World} (h:GrS S w w') {k:Nat} {o:Obj} (hb:w.heap[k]?=some o) (hs:¬ S k):w'.heap[k]?=some o:=by
 rw [h.block k (row_lt hb) hs]; exact hb
theorem GrS.refl (S:Nat→Prop) (w:World):GrS S w w:=⟨rfl,rfl,rfl,Nat.le_refl _,fun _ _ _=>rfl⟩
theorem GrS.row {α:Type} {e:TypeId} {size:Nat} {enc:α→List Value} {base:Nat} {v:Value} {l:List α} {w w':World} {S:Nat→Prop} (hg:GrS S w w') (h:RowAt e size enc base v l w) (hs:∀ g,v.ownBlock=some g→¬ S g):RowAt e size enc base v l w':=by
 have hlt:=h.own
 refine ⟨h.1,h.2.1,?_⟩
 rcases h.2.2 with ⟨h1,h2⟩ | ⟨g,cap,cur,h1,h2,h3,h4⟩
 ·exact .inl ⟨h1,h2⟩
 ·have hb:v.ownBlock=some g:=by rw [h1]; rfl
  exact .inr ⟨g,cap,cur,h1,h2,hg.blk h3 (hs g hb),h4⟩
theorem GrS.comp {S S':Nat→Prop} {a b c:World} (h:GrS S a b) (k:GrS S' b c) (hs:∀ i,i < a.heap.size→¬ S i→¬ S' i):GrS S a c:=
 ⟨k.os.trans h.os,k.tape.trans h.tape,k.output.trans h.output,Nat.le_trans h.size k.size,fun i hi hn=>(k.block i (Nat.lt_of_lt_of_le hi h.size) (hs i hi hn)).trans (h.block i hi hn)⟩
theorem Longer.gr {v v1:Value} {n j:Nat} {w w':World} {S:Nat→Prop} (h:Longer v v1 n j w w') (hs:∀ g,v.ownBlock=some g→S g):GrS S w w':=by
 rcases h with ⟨g,cap,e1,_,hg⟩ | ⟨hg,_⟩
 ·exact GrS.of hg (fun g' hg'=>hs g' (by rw [e1]; simp at hg'; rw [hg']; rfl))
 ·exact GrS.of hg (by simp)
theorem Longer.own {v v1:Value} {n j:Nat} {w w':World} (h:Longer v v1 n j w w'):∀ g,v1.ownBlock=some g→v.ownBlock=some g∨w.heap.size≤g:=by
 intro g hg
 rcases h with ⟨g',cap,e1,e2,_⟩ | ⟨_,g',cap,e2,h2⟩
 ·rw [e2] at hg; rw [e1]; exact .inl hg
 ·rw [e2] at hg
  simp only [Value.ownBlock,Option.some.injEq] at hg
  subst hg
  exact .inr h2
theorem Longer.form {v v1:Value} {n j:Nat} {w w':World} (h:Longer v v1 n j w w'):∃ g cap,v1=.slice (some ⟨g,0,none⟩) (n+j) cap:=by
 rcases h with ⟨g,cap,_,e2,_⟩ | ⟨_,g,cap,e2,_⟩
 ·exact ⟨g,cap,e2⟩
 ·exact ⟨g,cap,e2⟩
theorem Longer.block {v v':Value} {n j:Nat} {w w':World} (hl:Longer v v' n j w w') {k:Nat} {o:Obj} (h:w.heap[k]?=some o) (hne:v.ownBlock≠some k):w'.heap[k]?=some o:=by
 rcases hl with ⟨g,cap,e1,_,hg⟩ | ⟨hg,_⟩
 ·rw [hg.block k (row_lt h) (fun e=>hne (by rw [e1]; exact e.symm))]; exact h
 ·rw [hg.block k (row_lt h) (by simp)]; exact h
theorem TRow.keep2 {α:Type} {T T':Nat→Nat} {t:Nat} {e:TypeId} {size:Nat} {enc:α→List Value} {v:Value} {l:List α} {w w':World} {S:Nat→Prop} (h:TRow T t e size enc v l w) (hg:GrS S w w') (hs:∀ k,T k=t→¬ S k) (ho:∀ k,k < w.heap.size→T k=t→T' k=t):TRow T' t e size enc v l w':=by
 have hlt:=h.1.own
 exact ⟨hg.row h.1 (fun g hb=>hs g (h.2 g hb)),fun g hb=>ho g (hlt g hb).2 (h.2 g hb)⟩
end Go.Proofs.YtolhbeekfjnfmaaGreatDoor
namespace Go.Proofs.YtolhbeekfjnfmaaGreatDoor
structure Ft where
 blk:Nat
 id:Int
 f:Sv.Fact
structure Site where
 letter:UInt8
 fact:Nat
 place:Nat
structure Lnk where
 place:Nat
 at':Site
abbrev Tok:=List Ft
def Site.bindT (k:Nat):Nat→List Sv.Term→List Site
 | _,[]=>[]
 | p,t :: ts=>(if t.sort=1 then [⟨t.letter,k,p⟩] else []) ++ Site.bindT k (p+1) ts
def Site.find:List Site→UInt8→Option Site
 | [],_=>none
 | s :: ss,n=>if s.letter=n then some s else Site.find ss n
def Lnk.of (ahead:List Site):Nat→List Sv.Term→List Lnk
 | _,[]=>[]
 | p,t :: ts=>(if t.sort=1 then (match Site.find ahead t.letter with | none=>[] | some s=>[⟨p,s⟩]) else []) ++ Lnk.of ahead (p+1) ts
def Sv.Term.eqb (a b:Sv.Term):Bool:=a.sort == b.sort && a.letter == b.letter && a.value == b.value
def Sv.tIdx:List Sv.Term→Sv.Term→Nat
 | [],_=>0
 | u :: us,t=>if Sv.Term.eqb u t=true then 0 else Sv.tIdx us t+1
def fitT (all:List Sv.Term) (vs:List Int):Nat→List Sv.Term→Bool
 | _,[]=>true
 | p,t :: ts=>(if t.sort=2 then vs.getD p 0 == t.value else if t.sort=1 then vs.getD p 0 == vs.getD (Sv.tIdx all t) 0 else true) && fitT all vs (p+1) ts
def fitC (c:Sv.Cond) (f:Sv.Fact):Bool:=f.kind == (c.kind:Int) && f.vals.length == c.terms.length && fitT c.terms f.vals 0 c.terms
def Tok.val (t:Tok) (s:Site):Int:=((t[s.fact]?.map (fun g=>g.f.vals)).getD []).getD s.place 0
def fitL (ls:List Lnk) (t:Tok) (f:Sv.Fact):Bool:=ls.all fun l=>f.vals.getD l.place 0 == t.val l.at'
structure Nd where
 c:Sv.Cond
 links:List Lnk
 K:List Ft
 toks:List Tok
structure En where
 toks:List Tok
 wait:List Tok
def Nd.ext (n:Nd) (t:Tok):List Tok:=
 if n.c.neg=true then (if n.K.any (fun g=>fitL n.links t g.f)=true then [] else [t])
 else (n.K.filter (fun g=>fitL n.links t g.f)).map (fun g=>t ++ [g])
def arrives (put:List Tok→Tok→List Tok):List Nd→En→List Tok→List Nd×En
 | [],e,ts=>([],⟨e.toks ++ ts,ts.foldl put e.wait⟩)
 | n :: ns,e,ts=>
  let r:=arrives put ns e (ts.flatMap n.ext)
  ({ n with toks:=n.toks ++ ts } :: r.1,r.2)
theorem arrives_nil (put:List Tok→Tok→List Tok):∀ (ns:List Nd) (e:En),arrives put ns e []=(ns,e)
 | [],e=>by simp [arrives]
 | n :: ns,e=>by simp [arrives,arrives_nil put ns e]
theorem arrives_app (put:List Tok→Tok→List Tok):∀ (ns:List Nd) (e:En) (a b:List Tok),arrives put ns e (a ++ b)=arrives put (arrives put ns e a).1 (arrives put ns e a).2 b
 | [],e,a,b=>by simp [arrives]
 | n :: ns,e,a,b=>by
  have h:∀ t,Nd.ext { n with toks:=n.toks ++ a } t=n.ext t:=fun _=>rfl
  have h2:(Nd.ext { n with toks:=n.toks ++ a })=n.ext:=funext h
  simp only [arrives,List.flatMap_append]
  rw [arrives_app put ns e]
  simp [h2]
theorem arrives_len (put:List Tok→Tok→List Tok):∀ (ns:List Nd) (e:En) (a:List Tok),(arrives put ns e a).1.length=ns.length
 | [],e,a=>rfl
 | n :: ns,e,a=>by simp [arrives,arrives_len put ns]
def Nd.drop (gone:Tok→Bool) (n:Nd):Nd:={ n with toks:=n.toks.filter (fun t=>!gone t) }
end Go.Proofs.YtolhbeekfjnfmaaGreatDoor
namespace Go.Proofs.YtolhbeekfjnfmaaGreatDoor
def Sv.fv:List Sv.Term→List Int→UInt8→Option Int
 | t :: ts,v :: vs,x=>if t.sort=1∧t.letter=x then some v else Sv.fv ts vs x
 | _,_,_=>none
theorem Sv.lookB_app (b:Sv.Bs) (x:UInt8) (v:Int) (y:UInt8):Sv.lookB (b ++ [(x,v)]) y=(Sv.lookB b y).or (if x=y then some v else none):=by
 induction b with
 | nil=>simp [Sv.lookB]
 | cons p b ih=>
  simp only [List.cons_append,Sv.lookB]
  split
  ·simp
  ·exact ih
theorem Site.find_app (a b:List Site) (x:UInt8):Site.find (a ++ b) x=(Site.find a x).or (Site.find b x):=by
 induction a with
 | nil=>simp [Site.find]
 | cons p a ih=>
  simp only [List.cons_append,Site.find]
  split
  ·simp
  ·exact ih
theorem or_lem {α:Type} {a:Option α} {u:α} (h:a=some u) (b c:Option α):a.or b=a.or c:=by subst h; simp
theorem Sv.meetT_look:∀ (ts:List Sv.Term) (vs:List Int) (b b':Sv.Bs),Sv.meetT ts vs b=some b'→∀ x,Sv.lookB b' x=(Sv.lookB b x).or (Sv.fv ts vs x)
 | [],vs,b,b',h=>by simp [Sv.meetT] at h; subst h; simp [Sv.fv]
 | t :: ts,[],b,b',h=>by simp [Sv.meetT] at h; subst h; simp [Sv.fv]
 | t :: ts,v :: vs,b,b',h=>by
  intro x
  unfold Sv.meetT at h
  unfold Sv.fv
  split at h
  ·rename_i h0
   rw [Sv.meetT_look ts vs b b' h x,if_neg (by omega)]
  ·split at h
   ·rename_i h1
    split at h
    ·rename_i hn
     rw [Sv.meetT_look ts vs _ b' h x,Sv.lookB_app]
     by_cases e:t.letter=x
     ·rw [if_pos e,if_pos ⟨h1,e⟩,←e,hn]; simp
     ·rw [if_neg e,if_neg (fun k=>e k.2)]; simp
    ·rename_i u hu
     split at h
     ·rw [Sv.meetT_look ts vs b b' h x]
      by_cases e:t.letter=x
      ·rw [←e]; exact or_lem hu _ _
      ·rw [if_neg (fun k=>e k.2)]
     ·cases h
   ·rename_i h1
    split at h
    ·rw [Sv.meetT_look ts vs b b' h x,if_neg (fun k=>h1 k.1)]
    ·cases h
def Sv.CanT (ts:List Sv.Term) (vs:List Int) (b:Sv.Bs):Prop:=
 ∀ i t,ts[i]?=some t→(t.sort=2→vs.getD i 0=t.value)∧(t.sort=1→∀ u,(Sv.lookB b t.letter).or (Sv.fv (ts.take i) (vs.take i) t.letter)=some u→vs.getD i 0=u)
theorem Sv.canT_cons {t:Sv.Term} {ts:List Sv.Term} {v:Int} {vs:List Int} {b b1:Sv.Bs} (hb:∀ x i,(Sv.lookB b1 x).or (Sv.fv (ts.take i) (vs.take i) x)=(Sv.lookB b x).or (Sv.fv ((t :: ts).take (i+1)) ((v :: vs).take (i+1)) x)) :
  Sv.CanT (t :: ts) (v :: vs) b↔((t.sort=2→v=t.value)∧(t.sort=1→∀ u,Sv.lookB b t.letter=some u→v=u))∧Sv.CanT ts vs b1:=by
 constructor
 ·intro h
  refine ⟨?_,fun i s hs=>?_⟩
  ·have:=h 0 t rfl
   simpa [Sv.fv] using this
  ·have:=h (i+1) s (by simpa using hs)
   refine ⟨fun k=>by simpa using this.1 k,fun k u hu=>?_⟩
   rw [hb] at hu
   simpa using this.2 k u hu
 ·rintro ⟨h1,h2⟩ i s hs
  cases i with
  | zero=>
   simp at hs
   subst hs
   simpa [Sv.fv] using h1
  | succ i=>
   have:=h2 i s (by simpa using hs)
   refine ⟨fun k=>by simpa using this.1 k,fun k u hu=>?_⟩
   rw [←hb] at hu
   simpa using this.2 k u hu
theorem Sv.meetT_iff:∀ (ts:List Sv.Term) (vs:List Int) (b:Sv.Bs),ts.length=vs.length→(∀ t∈ts,t.sort≤2)→((Sv.meetT ts vs b).isSome=true↔Sv.CanT ts vs b)
 | [],vs,b,_,_=>by simp [Sv.meetT,Sv.CanT]
 | t :: ts,[],b,h,_=>by simp at h
 | t :: ts,v :: vs,b,hl,hs=>by
  have hl':ts.length=vs.length:=by simpa using hl
  have hs':∀ t∈ts,t.sort≤2:=fun x hx=>hs x (List.mem_cons_of_mem _ hx)
  have ht:=hs t (List.mem_cons_self ..)
  unfold Sv.meetT
  split
  ·rename_i h0
   rw [Sv.meetT_iff ts vs b hl' hs',Sv.canT_cons (b1:=b)]
   ·constructor
    ·intro h; exact ⟨⟨fun k=>by omega,fun k=>by omega⟩,h⟩
    ·exact fun h=>h.2
   ·intro x i
    simp [Sv.fv,h0]
  ·rename_i h0
   split
   ·rename_i h1
    split
    ·rename_i hn
     rw [Sv.meetT_iff ts vs _ hl' hs',Sv.canT_cons (b1:=b ++ [(t.letter,v)])]
     ·constructor
      ·intro h; exact ⟨⟨fun k=>by omega,fun _ u hu=>by rw [hn] at hu; cases hu⟩,h⟩
      ·exact fun h=>h.2
     ·intro x i
      rw [Sv.lookB_app]
      by_cases e:t.letter=x
      ·subst e
       simp [Sv.fv,h1,hn]
      ·simp [Sv.fv,e]
    ·rename_i u hu
     have hb:∀ x i,(Sv.lookB b x).or (Sv.fv (ts.take i) (vs.take i) x)=(Sv.lookB b x).or (Sv.fv ((t :: ts).take (i+1)) ((v :: vs).take (i+1)) x):=by
      intro x i
      by_cases e:t.letter=x
      ·rw [←e]; exact or_lem hu _ _
      ·simp [Sv.fv,e]
     by_cases e:v=u
     ·rw [if_pos e,Sv.meetT_iff ts vs b hl' hs',Sv.canT_cons hb]
      constructor
      ·intro h; exact ⟨⟨fun k=>by omega,fun _ u' hu'=>by rw [hu] at hu'; cases hu'; exact e⟩,h⟩
      ·exact fun h=>h.2
     ·rw [if_neg e]
      constructor
      ·intro h; simp at h
      ·intro h
       exact absurd (((Sv.canT_cons hb).1 h).1.2 h1 u hu) e
   ·rename_i h1
    have h2:t.sort=2:=by omega
    have hb:∀ x i,(Sv.lookB b x).or (Sv.fv (ts.take i) (vs.take i) x)=(Sv.lookB b x).or (Sv.fv ((t :: ts).take (i+1)) ((v :: vs).take (i+1)) x):=by
     intro x i
     simp [Sv.fv,h1]
    by_cases e:v=t.value
    ·rw [if_pos e,Sv.meetT_iff ts vs b hl' hs',Sv.canT_cons hb]
     constructor
     ·intro h; exact ⟨⟨fun _=>e,fun k=>by omega⟩,h⟩
     ·exact fun h=>h.2
    ·rw [if_neg e]
     constructor
     ·intro h; simp at h
     ·intro h
      exact absurd (((Sv.canT_cons hb).1 h).1.1 h2) e
theorem fitT_iff (all:List Sv.Term) (vs:List Int):∀ (ts:List Sv.Term) (p:Nat),fitT all vs p ts=true↔∀ i t,ts[i]?=some t→(t.sort=2→vs.getD (p+i) 0=t.value)∧(t.sort=1→vs.getD (p+i) 0=vs.getD (Sv.tIdx all t) 0)
 | [],p=>by simp [fitT]
 | t :: ts,p=>by
  unfold fitT
  rw [Bool.and_eq_true,fitT_iff all vs ts (p+1)]
  constructor
  ·rintro ⟨h1,h2⟩ i s hs
   cases i with
   | zero=>
    simp only [List.getElem?_cons_zero,Option.some.injEq] at hs
    subst hs
    constructor
    ·intro h; simpa [h] using h1
    ·intro h; simpa [h] using h1
   | succ i=>
    have:=h2 i s (by simpa using hs)
    rw [show p+(i+1)=p+1+i from by omega]
    exact this
  ·intro h
   constructor
   ·have:=h 0 t rfl
    split
    ·rename_i h2; simpa using this.1 h2
    ·split
     ·rename_i h1; simpa using this.2 h1
     ·rfl
   ·intro i s hs
    have:=h (i+1) s (by simpa using hs)
    rw [show p+(i+1)=p+1+i from by omega] at this
    exact this
theorem fitL_iff (ss:List Site) (t:Tok) (f:Sv.Fact):∀ (ts:List Sv.Term) (p:Nat),fitL (Lnk.of ss p ts) t f=true↔∀ i tm,ts[i]?=some tm→tm.sort=1→∀ s,Site.find ss tm.letter=some s→f.vals.getD (p+i) 0=t.val s
 | [],p=>by simp [fitL,Lnk.of]
 | tm :: ts,p=>by
  have ih:=fitL_iff ss t f ts (p+1)
  unfold Lnk.of
  unfold fitL at ih ⊢
  rw [List.all_append,Bool.and_eq_true,ih]
  constructor
  ·rintro ⟨h1,h2⟩ i s hs hv u hu
   cases i with
   | zero=>
    simp only [List.getElem?_cons_zero,Option.some.injEq] at hs
    subst hs
    simpa [hv,hu] using h1
   | succ i=>
    have:=h2 i s (by simpa using hs) hv u hu
    rw [show p+(i+1)=p+1+i from by omega]
    exact this
  ·intro h
   constructor
   ·by_cases hv:tm.sort=1
    ·cases hu:Site.find ss tm.letter with
     | none=>simp [hv]
     | some s=>simpa [hv] using h 0 tm rfl hv s hu
    ·simp [hv]
   ·intro i s hs hv u hu
    have:=h (i+1) s (by simpa using hs) hv u hu
    rw [show p+(i+1)=p+1+i from by omega] at this
    exact this
def Sv.tOk (t:Sv.Term):Prop:=t.sort≤2∧(t.sort=1→t.value=0)
theorem Sv.eqb_var {u t:Sv.Term} (hu:Sv.tOk u) (ht:Sv.tOk t) (h1:t.sort=1):Sv.Term.eqb u t=true↔u.sort=1∧u.letter=t.letter:=by
 unfold Sv.Term.eqb
 simp only [Bool.and_eq_true,beq_iff_eq]
 constructor
 ·rintro ⟨⟨a,b⟩,_⟩; exact ⟨by omega,b⟩
 ·rintro ⟨a,b⟩; exact ⟨⟨by omega,b⟩,by rw [hu.2 a,ht.2 h1]⟩
theorem Sv.tIdx_fv:∀ (ts:List Sv.Term) (vs:List Int) (i:Nat) (t:Sv.Term),(∀ u∈ts,Sv.tOk u)→ts.length=vs.length→ts[i]?=some t→t.sort=1→
  Sv.tIdx ts t≤i∧(∃ u,ts[Sv.tIdx ts t]?=some u∧u.sort=1∧u.letter=t.letter)∧Sv.fv (ts.take i) (vs.take i) t.letter=(if Sv.tIdx ts t < i then some (vs.getD (Sv.tIdx ts t) 0) else none)
 | [],vs,i,t,_,_,h,_=>by simp at h
 | a :: ts,[],i,t,_,h,_,_=>by simp at h
 | a :: ts,v :: vs,i,t,hok,hl,hi,h1=>by
  have hl':ts.length=vs.length:=by simpa using hl
  have hmem:t∈a :: ts:=List.mem_of_getElem? hi
  have hq:=Sv.eqb_var (hok a (List.mem_cons_self ..)) (hok t hmem) h1
  unfold Sv.tIdx
  by_cases e:Sv.Term.eqb a t=true
  ·rw [if_pos e]
   have e2:=hq.1 e
   refine ⟨Nat.zero_le _,⟨a,rfl,e2⟩,?_⟩
   cases i with
   | zero=>simp [Sv.fv]
   | succ i=>simp [Sv.fv,e2.1,e2.2]
  ·rw [if_neg e]
   have e2:¬ (a.sort=1∧a.letter=t.letter):=fun k=>e (hq.2 k)
   cases i with
   | zero=>
    simp only [List.getElem?_cons_zero,Option.some.injEq] at hi
    subst hi
    exact absurd ⟨h1,rfl⟩ e2
   | succ i=>
    obtain ⟨k1,⟨u,k2,k3⟩,k4⟩:=Sv.tIdx_fv ts vs i t (fun u hu=>hok u (List.mem_cons_of_mem _ hu)) hl' (by simpa using hi) h1
    refine ⟨by omega,⟨u,by simpa using k2,k3⟩,?_⟩
    simp only [List.take_succ_cons,Sv.fv,if_neg e2,k4]
    by_cases hlt:Sv.tIdx ts t < i
    ·rw [if_pos hlt,if_pos (by omega)]; simp
    ·rw [if_neg hlt,if_neg (by omega)]
def Bound (ss:List Site) (t:Tok) (b:Sv.Bs):Prop:=∀ x,Sv.lookB b x=(Site.find ss x).map (fun s=>t.val s)
theorem meets_iff {c:Sv.Cond} (hok:∀ u∈c.terms,Sv.tOk u) {ss:List Site} {t:Tok} {b:Sv.Bs} (hb:Bound ss t b) (f:Sv.Fact) :
  (Sv.meets f c b).isSome=(fitC c f && fitL (Lnk.of ss 0 c.terms) t f):=by
 unfold Sv.meets fitC
 by_cases hk:f.kind=(c.kind:Int)
 ·by_cases hl:f.vals.length=c.terms.length
  ·rw [if_pos ⟨hk,hl⟩,Bool.eq_iff_iff,Sv.meetT_iff _ _ _ hl.symm (fun u hu=>(hok u hu).1)]
   simp only [hk,hl,BEq.rfl,Bool.true_and,Bool.and_eq_true]
   rw [fitT_iff,fitL_iff]
   simp only [Nat.zero_add]
   constructor
   ·intro h
    have hL:∀ i tm,c.terms[i]?=some tm→tm.sort=1→∀ u,Sv.lookB b tm.letter=some u→f.vals.getD i 0=u:=fun i tm hi h1 u hu=>(h i tm hi).2 h1 u (by rw [hu]; rfl)
    refine ⟨fun i tm hi=>⟨(h i tm hi).1,fun h1=>?_⟩,fun i tm hi h1 s hs=>hL i tm hi h1 _ (by rw [hb,hs]; rfl)⟩
    obtain ⟨k1,⟨u,k2,k3,k4⟩,k5⟩:=Sv.tIdx_fv c.terms f.vals i tm hok hl.symm hi h1
    cases hu:Sv.lookB b tm.letter with
    | some x=>rw [hL i tm hi h1 x hu,hL _ u k2 k3 x (by rw [k4]; exact hu)]
    | none=>
     by_cases hlt:Sv.tIdx c.terms tm < i
     ·rw [if_pos hlt] at k5
      exact (h i tm hi).2 h1 _ (by rw [hu,k5]; rfl)
     ·rw [show Sv.tIdx c.terms tm=i from by omega]
   ·rintro ⟨h1,h2⟩ i tm hi
    refine ⟨(h1 i tm hi).1,fun h3 u hu=>?_⟩
    obtain ⟨k1,_,k5⟩:=Sv.tIdx_fv c.terms f.vals i tm hok hl.symm hi h3
    cases hx:Sv.lookB b tm.letter with
    | some x=>
     rw [hx] at hu
     simp at hu
     subst hu
     rw [hb] at hx
     cases hs:Site.find ss tm.letter with
     | none=>rw [hs] at hx; simp at hx
     | some s=>
      rw [hs] at hx
      simp at hx
      rw [←hx]
      exact h2 i tm hi h3 s hs
    | none=>
     rw [hx,k5] at hu
     by_cases hlt:Sv.tIdx c.terms tm < i
     ·rw [if_pos hlt] at hu
      simp at hu
      rw [←hu]
      simpa using (h1 i tm hi).2 h3
     ·rw [if_neg hlt] at hu; simp at hu
  ·rw [if_neg (fun h=>hl h.2)]
   simp [hl]
 ·rw [if_neg (fun h=>hk h.1)]
  simp [hk]
theorem Site.bindT_find (k:Nat) (vs:List Int):∀ (ts:List Sv.Term) (p:Nat) (x:UInt8),(Site.find (Site.bindT k p ts) x)=none∧Sv.fv ts (vs.drop p) x=none∨(∃ q,Site.find (Site.bindT k p ts) x=some ⟨x,k,q⟩∧(ts.length≤(vs.drop p).length→Sv.fv ts (vs.drop p) x=some (vs.getD q 0)))∨¬ ts.length≤(vs.drop p).length
 | [],p,x=>.inl ⟨rfl,by simp [Sv.fv]⟩
 | t :: ts,p,x=>by
  by_cases hlen:(t :: ts).length≤(vs.drop p).length
  ·have hp:p < vs.length:=by simp at hlen; omega
   have hd:vs.drop p=vs[p] :: vs.drop (p+1):=List.drop_eq_getElem_cons hp
   have hlen2:ts.length≤(vs.drop (p+1)).length:=by simp at hlen ⊢; omega
   unfold Site.bindT
   rw [hd]
   simp only [Sv.fv]
   by_cases h1:t.sort=1
   ·rw [if_pos h1]
    simp only [List.singleton_append,Site.find]
    by_cases e:t.letter=x
    ·right; left
     refine ⟨p,by simp [e],fun _=>?_⟩
     rw [if_pos ⟨h1,e⟩]
     simp [hp]
    ·rw [if_neg e,if_neg (fun k=>e k.2)]
     rcases Site.bindT_find k vs ts (p+1) x with h | ⟨q,h2,h3⟩ | h
     ·exact .inl h
     ·exact .inr (.inl ⟨q,h2,fun _=>h3 hlen2⟩)
     ·exact absurd hlen2 h
   ·rw [if_neg h1,if_neg (fun k=>h1 k.1)]
    simp only [List.nil_append]
    rcases Site.bindT_find k vs ts (p+1) x with h | ⟨q,h2,h3⟩ | h
    ·exact .inl h
    ·exact .inr (.inl ⟨q,h2,fun _=>h3 hlen2⟩)
    ·exact absurd hlen2 h
  ·exact .inr (.inr hlen)
theorem Tok.val_app (t:Tok) (g:Ft) (s:Site) (h:s.fact < t.length):Tok.val (t ++ [g]) s=t.val s:=by
 unfold Tok.val
 rw [List.getElem?_append_left h]
theorem Site.find_mem:∀ (ss:List Site) (x:UInt8) (s:Site),Site.find ss x=some s→s∈ss
 | [],x,s,h=>by simp [Site.find] at h
 | a :: ss,x,s,h=>by
  unfold Site.find at h
  split at h
  ·cases h; exact List.mem_cons_self ..
  ·exact List.mem_cons_of_mem _ (Site.find_mem ss x s h)
theorem Bound.step {ss:List Site} {t:Tok} {b b':Sv.Bs} (hb:Bound ss t b) (hs:∀ s∈ss,s.fact < t.length) {c:Sv.Cond} {g:Ft} (hm:Sv.meets g.f c b=some b'):Bound (ss ++ Site.bindT t.length 0 c.terms) (t ++ [g]) b':=by
 intro x
 unfold Sv.meets at hm
 split at hm
 ·rename_i hk
  rw [Sv.meetT_look _ _ _ _ hm x,hb x,Site.find_app]
  cases hf:Site.find ss x with
  | some s=>
   simp only [Option.map_some,Option.some_or]
   rw [Tok.val_app t g s (hs s (Site.find_mem ss x s hf))]
  | none=>
   simp only [Option.map_none,Option.none_or]
   rcases Site.bindT_find t.length g.f.vals c.terms 0 x with ⟨h1,h2⟩ | ⟨q,h1,h2⟩ | h
   ·rw [h1]; simpa using h2
   ·rw [h1]
    have:=h2 (by simp [hk.2])
    rw [List.drop_zero] at this
    rw [this]
    simp [Tok.val]
   ·exact absurd (by simp [hk.2]) h
 ·cases hm
theorem Site.bindT_fact (k:Nat):∀ (ts:List Sv.Term) (p:Nat),∀ s∈Site.bindT k p ts,s.fact=k
 | [],p,s,h=>by simp [Site.bindT] at h
 | t :: ts,p,s,h=>by
  unfold Site.bindT at h
  rcases List.mem_append.1 h with h | h
  ·split at h
   ·simp at h; rw [h]
   ·simp at h
  ·exact Site.bindT_fact k ts (p+1) s h
end Go.Proofs.YtolhbeekfjnfmaaGreatDoor
namespace Go.Proofs.YtolhbeekfjnfmaaGreatDoor
def Tok.nums (t:Tok):List Int:=t.map (fun g=>g.id) ++ List.replicate (4 - t.length) 0
def cmpL:List Int→List Int→Int
 | [],[]=>0
 | [],_ :: _=>-1
 | _ :: _,[]=>1
 | a :: x,b :: y=>if a < b then -1 else if b < a then 1 else cmpL x y
def sortI (l:List Int):List Int:=l.mergeSort (fun a b=>decide (a≤b))
def Tok.age (t:Tok):List Int:=(sortI t.nums).reverse
def Tok.less (t u:Tok):Bool:=if cmpL t.age u.age=0 then decide (cmpL t.nums u.nums < 0) else decide (0 < cmpL t.age u.age)
def Hp.swap {α:Type} (l:List α) (i j:Nat):List α:=
 match l[i]?,l[j]? with
 | some a,some b=>(l.set i b).set j a
 | _,_=>l
def Hp.lt {α:Type} (lt:α→α→Bool) (l:List α) (i j:Nat):Bool:=
 match l[i]?,l[j]? with
 | some a,some b=>lt a b
 | _,_=>false
def Hp.up {α:Type} (lt:α→α→Bool) (l:List α) (j:Nat):List α:=
 if h:j=0 then l
 else if Hp.lt lt l j ((j - 1) / 2)=true then Hp.up lt (Hp.swap l ((j - 1) / 2) j) ((j - 1) / 2) else l
 termination_by j
 decreasing_by omega
def Hp.kid {α:Type} (lt:α→α→Bool) (n:Nat) (l:List α) (i:Nat):Nat:=
 if 2 * i+2 < n∧Hp.lt lt l (2 * i+2) (2 * i+1)=true then 2 * i+2 else 2 * i+1
theorem Hp.kid_gt {α:Type} (lt:α→α→Bool) (n:Nat) (l:List α) (i:Nat):i < Hp.kid lt n l i:=by
 unfold Hp.kid
 split<;>omega
theorem Hp.kid_lt {α:Type} (lt:α→α→Bool) (n:Nat) (l:List α) (i:Nat) (h:2 * i+1 < n):Hp.kid lt n l i < n:=by
 unfold Hp.kid
 split
 ·rename_i k; exact k.1
 ·exact h
def Hp.down {α:Type} (lt:α→α→Bool) (n:Nat) (l:List α) (i:Nat):List α:=
 if _h:2 * i+1 < n then
  (if Hp.lt lt l (Hp.kid lt n l i) i=true then Hp.down lt n (Hp.swap l i (Hp.kid lt n l i)) (Hp.kid lt n l i) else l)
 else l
 termination_by n - i
 decreasing_by
 have h1:=Hp.kid_gt lt n l i
 have h2:=Hp.kid_lt lt n l i _h
 omega
def Hp.initF {α:Type} (lt:α→α→Bool):Nat→List α→List α
 | 0,l=>l
 | i+1,l=>Hp.initF lt i (Hp.down lt l.length l i)
def Hp.init {α:Type} (lt:α→α→Bool) (l:List α):List α:=Hp.initF lt (l.length / 2) l
def Hp.push {α:Type} (lt:α→α→Bool) (l:List α) (t:α):List α:=Hp.up lt (l ++ [t]) l.length
theorem set_perm {α:Type} (a b:α):∀ (l:List α) (j:Nat),l[j]?=some b→(b :: l.set j a).Perm (a :: l)
 | [],j,h=>by simp at h
 | x :: l,0,h=>by
  simp at h
  subst h
  simp only [List.set_cons_zero]
  exact List.Perm.swap _ _ _
 | x :: l,j+1,h=>by
  simp only [List.set_cons_succ]
  have h1:=set_perm a b l j (by simpa using h)
  exact (List.Perm.swap _ _ _).trans ((h1.cons x).trans (List.Perm.swap _ _ _))
theorem swap_perm0 {α:Type}:∀ (l:List α) (i j:Nat) (a b:α),i < j→l[i]?=some a→l[j]?=some b→((l.set i b).set j a).Perm l
 | [],i,j,a,b,_,h,_=>by simp at h
 | x :: l,0,0,a,b,h,_,_=>by omega
 | x :: l,0,j+1,a,b,_,h1,h2=>by
  simp at h1
  subst h1
  simp only [List.set_cons_zero,List.set_cons_succ]
  exact set_perm x b l j (by simpa using h2)
 | x :: l,i+1,0,a,b,h,_,_=>by omega
 | x :: l,i+1,j+1,a,b,h,h1,h2=>by
  simp only [List.set_cons_succ]
  exact (swap_perm0 l i j a b (by omega) (by simpa using h1) (by simpa using h2)).cons x
theorem Hp.swap_perm {α:Type} (l:List α) (i j:Nat):(Hp.swap l i j).Perm l:=by
 unfold Hp.swap
 split
 ·rename_i a b h1 h2
  rcases Nat.lt_trichotomy i j with h | h | h
  ·exact swap_perm0 l i j a b h h1 h2
  ·subst h
   rw [h1] at h2
   cases h2
   have e:l.set i a=l:=by
    obtain ⟨hi,rfl⟩:=List.getElem?_eq_some_iff.1 h1
    exact List.set_getElem_self hi
   rw [e,e]
  ·rw [List.set_comm _ _ (by omega)]
   exact swap_perm0 l j i b a h h2 h1
 ·exact List.Perm.refl _
theorem Hp.up_perm {α:Type} (lt:α→α→Bool) (l:List α) (j:Nat):(Hp.up lt l j).Perm l:=by
 induction j using Nat.strongRecOn generalizing l with
 | _ j ih=>
  unfold Hp.up
  split
  ·exact List.Perm.refl _
  ·split
   ·exact (ih ((j - 1) / 2) (by omega) _).trans (Hp.swap_perm _ _ _)
   ·exact List.Perm.refl _
theorem Hp.down_perm {α:Type} (lt:α→α→Bool) (n:Nat):∀ (m:Nat) (l:List α) (i:Nat),n - i≤m→(Hp.down lt n l i).Perm l
 | 0,l,i,h=>by
  unfold Hp.down
  rw [dif_neg (by omega)]
 | m+1,l,i,h=>by
  unfold Hp.down
  split
  ·rename_i h1
   split
   ·have h2:=Hp.kid_gt lt n l i
    exact (Hp.down_perm lt n m _ _ (by omega)).trans (Hp.swap_perm _ _ _)
   ·exact List.Perm.refl _
  ·exact List.Perm.refl _
theorem Hp.initF_perm {α:Type} (lt:α→α→Bool):∀ (i:Nat) (l:List α),(Hp.initF lt i l).Perm l
 | 0,_=>List.Perm.refl _
 | i+1,l=>(Hp.initF_perm lt i _).trans (Hp.down_perm lt _ _ l i (Nat.le_refl _))
theorem Hp.init_perm {α:Type} (lt:α→α→Bool) (l:List α):(Hp.init lt l).Perm l:=Hp.initF_perm lt _ l
theorem Hp.push_perm {α:Type} (lt:α→α→Bool) (l:List α) (t:α):(Hp.push lt l t).Perm (l ++ [t]):=Hp.up_perm lt _ _
theorem Hp.fold_perm {α:Type} (lt:α→α→Bool):∀ (ts:List α) (l:List α),(ts.foldl (Hp.push lt) l).Perm (l ++ ts)
 | [],l=>by simp
 | t :: ts,l=>by
  simp only [List.foldl_cons]
  refine (Hp.fold_perm lt ts _).trans ?_
  have h:=(Hp.push_perm lt l t).append_right ts
  simpa using h
abbrev arr:=arrives (Hp.push Tok.less)
def En.drop (gone:Tok→Bool) (e:En):En:=⟨e.toks.filter (fun t=>!gone t),Hp.init Tok.less (e.wait.filter (fun t=>!gone t))⟩
def addStep (f:Ft) (n:Nd) (ns:List Nd) (e:En):Nd×(List Nd×En):=
 if fitC n.c f.f=true then
  ({ n with K:=n.K ++ [f] },if n.c.neg=true then (ns.map (Nd.drop (fun t=>fitL n.links t f.f)),e.drop (fun t=>fitL n.links t f.f))
   else arr ns e ((n.toks.filter (fun t=>fitL n.links t f.f)).map (fun t=>t ++ [f])))
 else (n,(ns,e))
def addAll (f:Ft):Nat→List Nd→En→List Nd×En
 | 0,ns,e=>(ns,e)
 | _+1,[],e=>([],e)
 | k+1,n :: ns,e=>((addStep f n ns e).1 :: (addAll f k (addStep f n ns e).2.1 (addStep f n ns e).2.2).1,(addAll f k (addStep f n ns e).2.1 (addStep f n ns e).2.2).2)
theorem addStep_len (f:Ft) (n:Nd) (ns:List Nd) (e:En):(addStep f n ns e).2.1.length=ns.length:=by
 unfold addStep
 split
 ·split
  ·simp
  ·exact arrives_len _ _ _ _
 ·rfl
def Inv:List Tok→List Nd→En→Prop
 | B,[],e=>e.toks.Perm B
 | B,n :: ns,e=>n.toks.Perm B∧Inv (B.flatMap n.ext) ns e
def reach:List Nd→Tok→List Tok
 | [],t=>[t]
 | n :: ns,t=>(n.ext t).flatMap (reach ns)
theorem Inv.toks:∀ {B:List Tok} {ns:List Nd} {e:En},Inv B ns e→e.toks.Perm (B.flatMap (reach ns))
 | B,[],e,h=>by simpa [reach,Inv] using h
 | B,n :: ns,e,h=>by
  have:=Inv.toks h.2
  rw [List.flatMap_assoc] at this
  exact this
theorem Inv.perm:∀ {B B':List Tok} {ns:List Nd} {e:En},Inv B ns e→B.Perm B'→Inv B' ns e
 | _,_,[],_,h,hp=>List.Perm.trans h hp
 | _,_,_ :: _,_,h,hp=>⟨h.1.trans hp,h.2.perm (hp.flatMap_right _)⟩
theorem Inv.arr:∀ {B:List Tok} {ns:List Nd} {e:En} (X:List Tok),Inv B ns e→Inv (B ++ X) (arr ns e X).1 (arr ns e X).2
 | B,[],e,X,h=>List.Perm.append_right X h
 | B,n :: ns,e,X,h=>by
  refine ⟨h.1.append_right X,?_⟩
  have:=Inv.arr (X.flatMap n.ext) h.2
  rw [←List.flatMap_append] at this
  exact this
theorem fitL_app {ls:List Lnk} {t:Tok} {g:Ft} {f:Sv.Fact} (h:∀ l∈ls,l.at'.fact < t.length):fitL ls (t ++ [g]) f=fitL ls t f:=by
 unfold fitL
 rw [Bool.eq_iff_iff,List.all_eq_true,List.all_eq_true]
 constructor
 ·intro k l hl
  rw [←Tok.val_app t g l.at' (h l hl)]
  exact k l hl
 ·intro k l hl
  rw [Tok.val_app t g l.at' (h l hl)]
  exact k l hl
theorem Nd.ext_mem {n:Nd} {t u:Tok} (h:u∈n.ext t):u=t∨∃ g∈n.K,u=t ++ [g]:=by
 unfold Nd.ext at h
 split at h
 ·split at h
  ·simp at h
  ·simp at h; exact .inl h
 ·obtain ⟨g,hg,rfl⟩:=List.mem_map.1 h
  exact .inr ⟨g,(List.mem_filter.1 hg).1,rfl⟩
theorem Nd.ext_len {n:Nd} {t u:Tok} (h:u∈n.ext t):u.length=t.length+(if n.c.neg=true then 0 else 1):=by
 unfold Nd.ext at h
 split at h
 ·rename_i hn
  rw [if_pos hn]
  split at h
  ·simp at h
  ·simp at h; rw [h]; rfl
 ·rename_i hn
  rw [if_neg hn]
  obtain ⟨g,hg,rfl⟩:=List.mem_map.1 h
  simp
theorem flatMap_filter_comm {α β:Type} (p:α→Bool) (q:β→Bool) (g:α→List β):∀ (B:List α),(∀ t∈B,∀ u∈g t,q u=p t)→(B.flatMap g).filter q=(B.filter p).flatMap g
 | [],_=>rfl
 | t :: B,h=>by
  have ih:=flatMap_filter_comm p q g B (fun x hx=>h x (List.mem_cons_of_mem _ hx))
  rw [List.flatMap_cons,List.filter_append,ih]
  by_cases e:p t=true
  ·have h1:(g t).filter q=g t:=List.filter_eq_self.2 (fun u hu=>by rw [h t (List.mem_cons_self ..) u hu]; exact e)
   simp [h1,e]
  ·have e2:p t=false:=by simpa using e
   have h1:(g t).filter q=[]:=List.filter_eq_nil_iff.2 (fun u hu=>by rw [h t (List.mem_cons_self ..) u hu,e2]; simp)
   simp [h1,e2]
theorem Inv.drop {ls:List Lnk} {f:Sv.Fact} {k:Nat} (hk:∀ l∈ls,l.at'.fact < k):∀ {B:List Tok} {ns:List Nd} {e:En},Inv B ns e→(∀ t∈B,k≤t.length)→
  Inv (B.filter (fun t=>!fitL ls t f)) (ns.map (Nd.drop (fun t=>fitL ls t f))) (e.drop (fun t=>fitL ls t f))
 | B,[],e,h,_=>List.Perm.filter _ h
 | B,n :: ns,e,h,hB=>by
  refine ⟨h.1.filter _,?_⟩
  have hB2:∀ t∈B.flatMap n.ext,k≤t.length:=by
   intro t ht
   obtain ⟨u,hu,hv⟩:=List.mem_flatMap.1 ht
   have:=Nd.ext_len hv
   have:=hB u hu
   omega
  have:=Inv.drop (f:=f) hk h.2 hB2
  rw [flatMap_filter_comm (fun t=>!fitL ls t f)] at this
  ·exact this
  ·intro t ht u hu
   rcases Nd.ext_mem hu with rfl | ⟨g,_,rfl⟩
   ·rfl
   ·rw [fitL_app (fun l hl=>Nat.lt_of_lt_of_le (hk l hl) (hB t ht))]
theorem flatMap_app_perm {α β:Type} (a b:α→List β):∀ (B:List α),(B.flatMap (fun t=>a t ++ b t)).Perm (B.flatMap a ++ B.flatMap b)
 | []=>by simp
 | t :: B=>by
  simp only [List.flatMap_cons]
  have ih:=flatMap_app_perm a b B
  have h1:((a t ++ b t) ++ List.flatMap (fun t=>a t ++ b t) B).Perm ((a t ++ b t) ++ (B.flatMap a ++ B.flatMap b)):=ih.append_left _
  refine h1.trans ?_
  rw [List.append_assoc,List.append_assoc]
  refine List.Perm.append_left _ ?_
  rw [←List.append_assoc,←List.append_assoc]
  exact List.perm_append_comm.append_right _
theorem flatMap_if {α β:Type} (p:α→Bool) (g:α→β):∀ (B:List α),B.flatMap (fun t=>if p t=true then [g t] else [])=(B.filter p).map g
 | []=>rfl
 | t :: B=>by
  rw [List.flatMap_cons,flatMap_if p g B]
  by_cases h:p t=true
  ·simp [h]
  ·simp [h]
theorem ext_join (n:Nd) (f:Ft) (hn:n.c.neg=false) (t:Tok):Nd.ext { n with K:=n.K ++ [f] } t=n.ext t ++ (if fitL n.links t f.f=true then [t ++ [f]] else []):=by
 unfold Nd.ext
 simp only [hn,Bool.false_eq_true,if_false,List.filter_append,List.map_append]
 congr 1
 by_cases h:fitL n.links t f.f=true
 ·simp [h]
 ·simp [h]
theorem ext_hold (n:Nd) (f:Ft) (hn:n.c.neg=true) (t:Tok):Nd.ext { n with K:=n.K ++ [f] } t=if fitL n.links t f.f=true then [] else n.ext t:=by
 unfold Nd.ext
 simp only [hn,if_true,List.any_append]
 by_cases h:fitL n.links t f.f=true
 ·simp [h]
 ·simp [h]
theorem flatMap_not {α β:Type} (p:α→Bool) (g:α→List β):∀ (B:List α),B.flatMap (fun t=>if p t=true then [] else g t)=(B.filter (fun t=>!p t)).flatMap g
 | []=>rfl
 | t :: B=>by
  rw [List.flatMap_cons,flatMap_not p g B]
  by_cases h:p t=true
  ·simp [h]
  ·simp [h]
theorem ext_neg_filter (n:Nd) (hn:n.c.neg=true) (p:Tok→Bool) (B:List Tok):(B.filter p).flatMap n.ext=(B.flatMap n.ext).filter p:=by
 symm
 refine flatMap_filter_comm p p n.ext B ?_
 intro t _ u hu
 unfold Nd.ext at hu
 rw [if_pos hn] at hu
 split at hu
 ·simp at hu
 ·simp at hu; rw [hu]
theorem addStep_inv {f:Ft} {n:Nd} {ns:List Nd} {e:En} {B:List Tok} {k:Nat} (h:Inv B (n :: ns) e) (hk:∀ l∈n.links,l.at'.fact < k) (hB:∀ t∈B,t.length=k) :
  Inv B ((addStep f n ns e).1 :: (addStep f n ns e).2.1) (addStep f n ns e).2.2:=by
 unfold addStep
 by_cases hf:fitC n.c f.f=true
 ·rw [if_pos hf]
  by_cases hn:n.c.neg=true
  ·simp only [hn,if_true]
   refine ⟨h.1,?_⟩
   have h2:∀ t∈B.flatMap n.ext,k≤t.length:=by
    intro t ht
    obtain ⟨u,hu,hv⟩:=List.mem_flatMap.1 ht
    have:=Nd.ext_len hv
    have:=hB u hu
    omega
   have:=Inv.drop (f:=f.f) hk h.2 h2
   have e:B.flatMap (Nd.ext { n with K:=n.K ++ [f] })=(B.flatMap n.ext).filter (fun t=>!fitL n.links t f.f):=by
    rw [show Nd.ext { n with K:=n.K ++ [f] }=fun t=>if fitL n.links t f.f=true then [] else n.ext t from funext (ext_hold n f hn),flatMap_not,ext_neg_filter n hn]
   rw [e]
   exact this
  ·have hn2:n.c.neg=false:=by simpa using hn
   simp only [hn2,Bool.false_eq_true,if_false]
   refine ⟨h.1,?_⟩
   have h3:=Inv.arr ((n.toks.filter (fun t=>fitL n.links t f.f)).map (fun t=>t ++ [f])) h.2
   refine h3.perm ?_
   rw [show Nd.ext { n with K:=n.K ++ [f] }=fun t=>n.ext t ++ (if fitL n.links t f.f=true then [t ++ [f]] else []) from funext (ext_join n f hn2)]
   refine List.Perm.symm ((flatMap_app_perm _ _ B).trans ?_)
   rw [flatMap_if]
   exact List.Perm.append_left _ (((h.1.symm).filter _).map _)
 ·rw [if_neg hf]
  exact h
def Good (F:List Ft):List Site→Nat→List Nd→List Sv.Cond→Prop
 | _,_,[],[]=>True
 | ss,k,n :: ns,c :: cs=>n.c=c∧n.links=Lnk.of ss 0 c.terms∧n.K=F.filter (fun g=>fitC c g.f)∧Good F (if c.neg=true then ss else ss ++ Site.bindT k 0 c.terms) (if c.neg=true then k else k+1) ns cs
 | _,_,_,_=>False
theorem Good.len {F:List Ft}:∀ {ss:List Site} {k:Nat} {ns:List Nd} {cs:List Sv.Cond},Good F ss k ns cs→ns.length=cs.length
 | _,_,[],[],_=>rfl
 | _,_,[],_ :: _,h=>h.elim
 | _,_,_ :: _,[],h=>h.elim
 | _,_,_ :: _,_ :: _,h=>by simp [h.2.2.2.len]
theorem Lnk.of_fact (ss:List Site) (k:Nat) (h:∀ s∈ss,s.fact < k):∀ (ts:List Sv.Term) (p:Nat),∀ l∈Lnk.of ss p ts,l.at'.fact < k
 | [],p,l,hl=>by simp [Lnk.of] at hl
 | t :: ts,p,l,hl=>by
  unfold Lnk.of at hl
  rcases List.mem_append.1 hl with hl | hl
  ·split at hl
   ·split at hl
    ·simp at hl
    ·rename_i s hs
     simp at hl
     rw [hl]
     exact h s (Site.find_mem ss _ s hs)
   ·simp at hl
  ·exact Lnk.of_fact ss k h ts (p+1) l hl
theorem sites_next {ss:List Site} {k:Nat} (h:∀ s∈ss,s.fact < k) (c:Sv.Cond):∀ s∈(if c.neg=true then ss else ss ++ Site.bindT k 0 c.terms),s.fact < (if c.neg=true then k else k+1):=by
 split
 ·exact h
 ·intro s hs
  rcases List.mem_append.1 hs with hs | hs
  ·have:=h s hs; omega
  ·have:=Site.bindT_fact k c.terms 0 s hs; omega
theorem Good.same {F:List Ft}:∀ {ss:List Site} {k:Nat} {ns ns':List Nd} {cs:List Sv.Cond},Good F ss k ns cs→ns.map (fun n=>(n.c,n.links,n.K))=ns'.map (fun n=>(n.c,n.links,n.K))→Good F ss k ns' cs
 | _,_,[],[],[],_,_=>trivial
 | _,_,[],_ :: _,_,_,h=>by simp at h
 | _,_,_ :: _,[],_,_,h=>by simp at h
 | _,_,[],[],_ :: _,h,_=>h.elim
 | _,_,_ :: _,_ :: _,[],h,_=>h.elim
 | _,_,n :: ns,m :: ns',c :: cs,h,he=>by
  simp only [List.map_cons,List.cons.injEq,Prod.mk.injEq] at he
  obtain ⟨⟨e1,e2,e3⟩,e4⟩:=he
  exact ⟨by rw [←e1]; exact h.1,by rw [←e2]; exact h.2.1,by rw [←e3]; exact h.2.2.1,h.2.2.2.same e4⟩
theorem arr_same:∀ (ns:List Nd) (e:En) (X:List Tok),ns.map (fun n=>(n.c,n.links,n.K))=(arr ns e X).1.map (fun n=>(n.c,n.links,n.K))
 | [],e,X=>rfl
 | n :: ns,e,X=>by
  simp only [arr,arrives,List.map_cons]
  rw [arr_same ns e]
theorem addStep_same (f:Ft) (n:Nd) (ns:List Nd) (e:En):ns.map (fun n=>(n.c,n.links,n.K))=(addStep f n ns e).2.1.map (fun n=>(n.c,n.links,n.K)):=by
 unfold addStep
 split
 ·split
  ·simp [Nd.drop,List.map_map,Function.comp_def]
  ·exact arr_same _ _ _
 ·rfl
theorem addAll_ok {F:List Ft} (f:Ft):∀ {ss:List Site} {k:Nat} {ns:List Nd} {cs:List Sv.Cond} {B:List Tok} {e:En},Good F ss k ns cs→(∀ s∈ss,s.fact < k)→(∀ t∈B,t.length=k)→Inv B ns e→
  Good (F ++ [f]) ss k (addAll f ns.length ns e).1 cs∧Inv B (addAll f ns.length ns e).1 (addAll f ns.length ns e).2
 | _,_,[],[],_,_,h,_,_,hi=>⟨h,hi⟩
 | _,_,[],_ :: _,_,_,h,_,_,_=>h.elim
 | _,_,_ :: _,[],_,_,h,_,_,_=>h.elim
 | ss,k,n :: ns,c :: cs,B,e,h,hs,hB,hi=>by
  obtain ⟨h1,h2,h3,h4⟩:=h
  have hk:∀ l∈n.links,l.at'.fact < k:=by rw [h2]; exact Lnk.of_fact ss k hs c.terms 0
  have hi2:=addStep_inv (f:=f) hi hk hB
  have hg2:=h4.same (addStep_same f n ns e)
  have hl:=addStep_len f n ns e
  have hc:(addStep f n ns e).1.c=c∧(addStep f n ns e).1.links=Lnk.of ss 0 c.terms∧(addStep f n ns e).1.K=(F ++ [f]).filter (fun g=>fitC c g.f):=by
   unfold addStep
   by_cases hf:fitC n.c f.f=true
   ·rw [if_pos hf]
    rw [h1] at hf
    exact ⟨h1,h2,by simp [h3,hf]⟩
   ·rw [if_neg hf]
    rw [h1] at hf
    exact ⟨h1,h2,by simp [h3,hf]⟩
  have hB2:∀ t∈B.flatMap (addStep f n ns e).1.ext,t.length=(if c.neg=true then k else k+1):=by
   intro t ht
   obtain ⟨u,hu,hv⟩:=List.mem_flatMap.1 ht
   have e1:=Nd.ext_len hv
   rw [hc.1] at e1
   rw [e1,hB u hu]
   split<;>rfl
  have ih:=addAll_ok f (ns:=(addStep f n ns e).2.1) hg2 (sites_next hs c) hB2 hi2.2
  rw [hl] at ih
  exact ⟨⟨hc.1,hc.2.1,hc.2.2,ih.1⟩,hi2.1,ih.2⟩
theorem Good.outs {F:List Ft}:∀ {ss:List Site} {ns:List Nd} {cs:List Sv.Cond} {t:Tok} {b:Sv.Bs},Good F ss t.length ns cs→(∀ s∈ss,s.fact < t.length)→(∀ c∈cs,∀ u∈c.terms,Sv.tOk u)→Bound ss t b→
  (reach ns t).map (List.map (fun g=>g.id))=Sv.fromD (F.map (fun g=>(g.id,g.f))) cs b (t.map (fun g=>g.id))
 | _,[],[],t,b,_,_,_,_=>rfl
 | _,[],_ :: _,_,_,h,_,_,_=>h.elim
 | _,_ :: _,[],_,_,h,_,_,_=>h.elim
 | ss,n :: ns,c :: cs,t,b,h,hs,hok,hb=>by
  obtain ⟨h1,h2,h3,h4⟩:=h
  have hm:=fun f=>meets_iff (hok c (List.mem_cons_self ..)) hb f
  have hok2:∀ c∈cs,∀ u∈c.terms,Sv.tOk u:=fun c hc=>hok c (List.mem_cons_of_mem _ hc)
  unfold reach Sv.fromD Nd.ext
  rw [h1,h2,h3]
  by_cases hn:c.neg=true
  ·simp only [hn,if_true] at h4 ⊢
   have e:(F.map (fun g=>(g.id,g.f))).any (fun p=>(Sv.meets p.2 c b).isSome)=(F.filter (fun g=>fitC c g.f)).any (fun g=>fitL (Lnk.of ss 0 c.terms) t g.f):=by
    rw [List.any_map,List.any_filter]
    congr 1
    funext g
    simp [hm]
   rw [e]
   by_cases ha:(F.filter (fun g=>fitC c g.f)).any (fun g=>fitL (Lnk.of ss 0 c.terms) t g.f)=true
   ·rw [if_pos ha,if_pos ha]; simp
   ·rw [if_neg ha,if_neg ha]
    simp only [List.flatMap_cons,List.flatMap_nil,List.append_nil]
    exact Good.outs h4 hs hok2 hb
  ·have hn2:c.neg=false:=by simpa using hn
   simp only [hn2,Bool.false_eq_true,if_false] at h4 ⊢
   rw [List.filter_filter,List.flatMap_map,List.map_flatMap,List.flatMap_map]
   have:∀ (G:List Ft),(G.filter (fun a=>fitL (Lnk.of ss 0 c.terms) t a.f && fitC c a.f)).flatMap (fun a=>((reach ns (t ++ [a]))).map (List.map (fun g=>g.id)))=G.flatMap (fun a=>match Sv.meets a.f c b with | none=>[] | some b'=>Sv.fromD (F.map (fun g=>(g.id,g.f))) cs b' (t.map (fun g=>g.id) ++ [a.id])):=by
    intro G
    induction G with
    | nil=>rfl
    | cons a G ih=>
     rw [List.flatMap_cons,←ih,List.filter_cons]
     have hma:=hm a.f
     cases hx:Sv.meets a.f c b with
     | none=>
      rw [hx] at hma
      have:¬ ((fitL (Lnk.of ss 0 c.terms) t a.f && fitC c a.f)=true):=by
       rw [Bool.and_comm,←hma]; simp
      rw [if_neg this]
      simp
     | some b'=>
      rw [hx] at hma
      have:(fitL (Lnk.of ss 0 c.terms) t a.f && fitC c a.f)=true:=by
       rw [Bool.and_comm,←hma]; rfl
      rw [if_pos this,List.flatMap_cons]
      congr 1
      have hl:(t ++ [a]).length=t.length+1:=by simp
      have hs2:=sites_next hs c
      simp only [hn2,Bool.false_eq_true,if_false] at hs2
      have:=Good.outs (t:=t ++ [a]) (b:=b') (by rw [hl]; exact h4) (by rw [hl]; exact hs2) hok2 (hb.step hs hx)
      rw [this]
      simp
   exact this F
end Go.Proofs.YtolhbeekfjnfmaaGreatDoor
namespace Go.Proofs.YtolhbeekfjnfmaaGreatDoor
def Tok.has (f:Ft) (t:Tok):Bool:=t.any (fun g=>g.blk == f.blk)
def Nd.less (f:Ft) (n:Nd):Nd:={ n with K:=n.K.filter (fun g=>!(g.blk == f.blk)) }
def delStep (f:Ft) (n:Nd) (ns:List Nd) (e:En):Nd×(List Nd×En):=
 if n.K.any (fun g=>g.blk == f.blk)=true then
  (n.less f,if n.c.neg=true then arr ns e (n.toks.filter (fun t=>fitL n.links t f.f && !(n.less f).K.any (fun g=>fitL n.links t g.f))) else (ns,e))
 else (n,(ns,e))
def delAll (f:Ft):List Nd→En→List Nd×En
 | [],e=>([],e)
 | n :: ns,e=>((delStep f n (delAll f ns e).1 (delAll f ns e).2).1 :: (delStep f n (delAll f ns e).1 (delAll f ns e).2).2.1,(delStep f n (delAll f ns e).1 (delAll f ns e).2).2.2)
def delC (f:Ft) (ns:List Nd) (e:En):List Nd×En:=delAll f (ns.map (Nd.drop (Tok.has f))) (e.drop (Tok.has f))
def Nd.half (f:Ft) (n:Nd) (t:Tok):List Tok:=if n.c.neg=true then n.ext t else (n.less f).ext t
def HInv (f:Ft):List Tok→List Nd→En→Prop
 | B,[],e=>e.toks.Perm B
 | B,n :: ns,e=>n.toks.Perm B∧HInv f (B.flatMap (n.half f)) ns e
theorem filter_flatMap {α β:Type} (q:β→Bool) (g:α→List β) (B:List α):(B.flatMap g).filter q=B.flatMap (fun t=>(g t).filter q):=by
 induction B with
 | nil=>rfl
 | cons t B ih=>rw [List.flatMap_cons,List.flatMap_cons,List.filter_append,ih]
theorem half_filter (f:Ft) (n:Nd) (B:List Tok):(B.flatMap n.ext).filter (fun t=>!Tok.has f t)=(B.filter (fun t=>!Tok.has f t)).flatMap (n.half f):=by
 by_cases hn:n.c.neg=true
 ·rw [←ext_neg_filter n hn]
  have:n.half f=n.ext:=by funext t; unfold Nd.half; rw [if_pos hn]
  rw [this]
 ·have hn2:n.c.neg=false:=by simpa using hn
  rw [filter_flatMap,←flatMap_not]
  congr 1
  funext t
  unfold Nd.half
  rw [if_neg hn]
  unfold Nd.ext Nd.less
  simp only [hn2,Bool.false_eq_true,if_false]
  rw [List.filter_map]
  by_cases ht:Tok.has f t=true
  ·rw [if_pos ht]
   simp only [List.map_eq_nil_iff,List.filter_eq_nil_iff]
   intro g _
   simp only [Function.comp_apply,Tok.has,List.any_append,Bool.not_eq_true']
   unfold Tok.has at ht
   rw [ht]
   simp
  ·rw [if_neg ht]
   have ht2:Tok.has f t=false:=by simpa using ht
   congr 1
   rw [List.filter_filter,List.filter_filter]
   congr 1
   funext g
   unfold Tok.has at ht2
   simp only [Function.comp_apply,Tok.has,List.any_append,ht2,Bool.false_or,List.any_cons,List.any_nil,Bool.or_false]
   rw [Bool.and_comm]
theorem HInv.of (f:Ft):∀ {B:List Tok} {ns:List Nd} {e:En},Inv B ns e→HInv f (B.filter (fun t=>!Tok.has f t)) (ns.map (Nd.drop (Tok.has f))) (e.drop (Tok.has f))
 | B,[],e,h=>List.Perm.filter _ h
 | B,n :: ns,e,h=>by
  refine ⟨h.1.filter _,?_⟩
  have:=HInv.of f h.2
  rw [half_filter] at this
  exact this
theorem ext_less (f:Ft) (n:Nd) (hn:n.c.neg=true) (hf:∃ g∈n.K,g.blk=f.blk) (hu:∀ g∈n.K,g.blk=f.blk→g.f=f.f) (t:Tok) :
  (n.less f).ext t=n.ext t ++ (if (fitL n.links t f.f && !(n.less f).K.any (fun g=>fitL n.links t g.f))=true then [t] else []):=by
 have ha:n.K.any (fun g=>fitL n.links t g.f)=(fitL n.links t f.f || (n.less f).K.any (fun g=>fitL n.links t g.f)):=by
  rw [Bool.eq_iff_iff,Bool.or_eq_true,List.any_eq_true,List.any_eq_true]
  constructor
  ·rintro ⟨g,hg,h⟩
   by_cases e:g.blk=f.blk
   ·left; rw [←hu g hg e]; exact h
   ·right; exact ⟨g,List.mem_filter.2 ⟨hg,by simpa using e⟩,h⟩
  ·rintro (h | ⟨g,hg,h⟩)
   ·obtain ⟨g,hg,e⟩:=hf
    exact ⟨g,hg,by rw [hu g hg e]; exact h⟩
   ·exact ⟨g,(List.mem_filter.1 hg).1,h⟩
 have e1:(n.less f).ext t=if (n.less f).K.any (fun g=>fitL n.links t g.f)=true then [] else [t]:=by
  unfold Nd.ext
  rw [if_pos (by exact hn)]
  rfl
 rw [e1]
 unfold Nd.ext
 rw [if_pos hn,ha]
 cases h1:fitL n.links t f.f<;>cases h2:(n.less f).K.any (fun g=>fitL n.links t g.f)<;>simp
theorem less_no (f:Ft) (n:Nd) (h:¬ n.K.any (fun g=>g.blk == f.blk)=true):n.less f=n:=by
 unfold Nd.less
 have:n.K.filter (fun g=>!(g.blk == f.blk))=n.K:=by
  rw [List.filter_eq_self]
  intro g hg
  simp only [Bool.not_eq_true',beq_eq_false_iff_ne,ne_eq]
  intro e
  exact h (List.any_eq_true.2 ⟨g,hg,by simpa using e⟩)
 rw [this]
theorem delStep_inv {f:Ft} {n:Nd} {ns:List Nd} {e:En} {B:List Tok} (h1:n.toks.Perm B) (h2:Inv (B.flatMap (n.half f)) ns e) (hu:∀ g∈n.K,g.blk=f.blk→g.f=f.f) :
  Inv B ((delStep f n ns e).1 :: (delStep f n ns e).2.1) (delStep f n ns e).2.2:=by
 unfold delStep
 by_cases hk:n.K.any (fun g=>g.blk == f.blk)=true
 ·rw [if_pos hk]
  by_cases hn:n.c.neg=true
  ·simp only [hn,if_true]
   refine ⟨h1,?_⟩
   have hx:∃ g∈n.K,g.blk=f.blk:=by
    obtain ⟨g,hg,h⟩:=List.any_eq_true.1 hk
    exact ⟨g,hg,by simpa using h⟩
   have e1:n.half f=n.ext:=by funext t; unfold Nd.half; rw [if_pos hn]
   rw [e1] at h2
   refine (Inv.arr _ h2).perm ?_
   rw [show (n.less f).ext=fun t=>n.ext t ++ (if (fitL n.links t f.f && !(n.less f).K.any (fun g=>fitL n.links t g.f))=true then [t] else []) from funext (ext_less f n hn hx hu)]
   refine List.Perm.symm ((flatMap_app_perm _ _ B).trans ?_)
   rw [flatMap_if]
   simp only [List.map_id']
   exact List.Perm.append_left _ ((h1.symm).filter _)
  ·have hn2:n.c.neg=false:=by simpa using hn
   simp only [hn2,Bool.false_eq_true,if_false]
   refine ⟨h1,?_⟩
   have e1:n.half f=(n.less f).ext:=by funext t; unfold Nd.half; rw [if_neg hn]
   rw [e1] at h2
   exact h2
 ·rw [if_neg hk]
  refine ⟨h1,?_⟩
  have e1:n.half f=n.ext:=by funext t; unfold Nd.half; rw [less_no f n hk]; simp
  rw [e1] at h2
  exact h2
theorem delAll_inv {f:Ft}:∀ {B:List Tok} {ns:List Nd} {e:En},HInv f B ns e→(∀ n∈ns,∀ g∈n.K,g.blk=f.blk→g.f=f.f)→Inv B (delAll f ns e).1 (delAll f ns e).2
 | _,[],_,h,_=>h
 | _,n :: _,_,h,hu=>delStep_inv h.1 (delAll_inv h.2 (fun m hm=>hu m (List.mem_cons_of_mem _ hm))) (hu n (List.mem_cons_self ..))
theorem delStep_same (f:Ft) (n:Nd) (ns:List Nd) (e:En):ns.map (fun n=>(n.c,n.links,n.K))=(delStep f n ns e).2.1.map (fun n=>(n.c,n.links,n.K)):=by
 unfold delStep
 split
 ·split
  ·exact arr_same _ _ _
  ·rfl
 ·rfl
theorem delStep_nd (f:Ft) (n:Nd) (ns:List Nd) (e:En):(delStep f n ns e).1=n.less f:=by
 unfold delStep
 split
 ·rfl
 ·rename_i h; exact (less_no f n h).symm
theorem delAll_good {F:List Ft} {f:Ft}:∀ {ss:List Site} {k:Nat} {ns:List Nd} {cs:List Sv.Cond} {e:En},Good F ss k ns cs→Good (F.filter (fun g=>!(g.blk == f.blk))) ss k (delAll f ns e).1 cs
 | _,_,[],[],_,h=>h
 | _,_,[],_ :: _,_,h=>h.elim
 | _,_,_ :: _,[],_,h=>h.elim
 | ss,k,n :: ns,c :: cs,e,h=>by
  obtain ⟨h1,h2,h3,h4⟩:=h
  have ih:=delAll_good (f:=f) (e:=e) h4
  have ih2:=ih.same (delStep_same f n (delAll f ns e).1 (delAll f ns e).2)
  refine ⟨?_,?_,?_,ih2⟩
  ·rw [delStep_nd]; exact h1
  ·rw [delStep_nd]; exact h2
  ·rw [delStep_nd]
   show n.K.filter _=_
   rw [h3,List.filter_filter,List.filter_filter]
   congr 1
   funext g
   rw [Bool.and_comm]
theorem delC_ok {F:List Ft} {f:Ft} {ss:List Site} {k:Nat} {ns:List Nd} {cs:List Sv.Cond} {B:List Tok} {e:En} (hg:Good F ss k ns cs) (hu:∀ g∈F,g.blk=f.blk→g.f=f.f) (hi:Inv B ns e) (hB:∀ t∈B,Tok.has f t=false) :
  Good (F.filter (fun g=>!(g.blk == f.blk))) ss k (delC f ns e).1 cs∧Inv B (delC f ns e).1 (delC f ns e).2:=by
 have hg2:Good F ss k (ns.map (Nd.drop (Tok.has f))) cs:=hg.same (by simp [Nd.drop,List.map_map,Function.comp_def])
 refine ⟨delAll_good hg2,?_⟩
 have h:=HInv.of f hi
 rw [List.filter_eq_self.2 (fun t ht=>by rw [hB t ht]; rfl)] at h
 refine delAll_inv h ?_
 have:∀ {ss:List Site} {k:Nat} {ns:List Nd} {cs:List Sv.Cond},Good F ss k ns cs→∀ n∈ns,∀ g∈n.K,g∈F:=by
  intro ss k ns
  induction ns generalizing ss k with
  | nil=>intro cs _ n hn; simp at hn
  | cons m ns ih=>
   intro cs hg n hn g hgk
   cases cs with
   | nil=>exact hg.elim
   | cons c cs=>
    obtain ⟨_,_,h3,h4⟩:=hg
    rcases List.mem_cons.1 hn with rfl | hn
    ·rw [h3] at hgk; exact (List.mem_filter.1 hgk).1
    ·exact ih h4 n hn g hgk
 exact fun n hn g hgk=>hu g (this hg2 n hn g hgk)
end Go.Proofs.YtolhbeekfjnfmaaGreatDoor
namespace Go.Proofs.YtolhbeekfjnfmaaGreatDoor
structure Hp.Ord {α:Type} (lt:α→α→Bool):Prop where
 asym:∀ a b,lt a b=true→lt b a=false
 trans:∀ a b c,lt b a=false→lt c b=false→lt c a=false
def Hp.From {α:Type} (lt:α→α→Bool) (n k:Nat) (l:List α):Prop:=∀ j,0 < j→j < n→k≤(j - 1) / 2→∀ a b,l[j]?=some a→l[(j - 1) / 2]?=some b→lt a b=false
theorem Hp.swap_get {α:Type} (l:List α) (i j k:Nat) (hi:i < l.length) (hj:j < l.length):(Hp.swap l i j)[k]?=if k=j then l[i]? else if k=i then l[j]? else l[k]?:=by
 unfold Hp.swap
 rw [List.getElem?_eq_getElem hi,List.getElem?_eq_getElem hj]
 simp only
 by_cases h1:k=j
 ·subst h1
  rw [if_pos rfl,List.getElem?_set_self (by simpa using hj)]
 ·rw [if_neg h1,List.getElem?_set_ne (by omega)]
  by_cases h2:k=i
  ·subst h2
   rw [if_pos rfl,List.getElem?_set_self hi]
  ·rw [if_neg h2,List.getElem?_set_ne (by omega)]
theorem Hp.swap_len {α:Type} (l:List α) (i j:Nat):(Hp.swap l i j).length=l.length:=(Hp.swap_perm l i j).length_eq
theorem Hp.lt_get {α:Type} {lt:α→α→Bool} {l:List α} {i j:Nat} {a b:α} (h1:l[i]?=some a) (h2:l[j]?=some b):Hp.lt lt l i j=lt a b:=by
 unfold Hp.lt
 rw [h1,h2]
theorem get_some {α:Type} {l:List α} {i:Nat} (h:i < l.length):∃ a,l[i]?=some a:=⟨l[i],List.getElem?_eq_getElem h⟩
theorem Hp.down_ok {α:Type} {lt:α→α→Bool} (ho:Hp.Ord lt) (n k:Nat):∀ (m:Nat) (l:List α) (i:Nat),n - i≤m→n≤l.length→k≤i→
  (∀ j,0 < j→j < n→k≤(j - 1) / 2→(j - 1) / 2≠i→∀ a b,l[j]?=some a→l[(j - 1) / 2]?=some b→lt a b=false)→
  (0 < i→k≤(i - 1) / 2→∀ j,0 < j→j < n→(j - 1) / 2=i→∀ a b,l[j]?=some a→l[(i - 1) / 2]?=some b→lt a b=false)→
  Hp.From lt n k (Hp.down lt n l i)
 | 0,l,i,hm,hn,hk,h1,h2=>by
  unfold Hp.down
  rw [dif_neg (by omega)]
  intro j a b c
  exact h1 j a b c (by omega)
 | m+1,l,i,hm,hn,hk,h1,h2=>by
  unfold Hp.down
  by_cases hi:2 * i+1 < n
  ·rw [dif_pos hi]
   have hc1:=Hp.kid_gt lt n l i
   have hc2:=Hp.kid_lt lt n l i hi
   obtain ⟨c,hc⟩:∃ c,Hp.kid lt n l i=c:=⟨_,rfl⟩
   have hcp:(c - 1) / 2=i∧0 < c:=by
    rw [←hc]
    unfold Hp.kid
    split<;>omega
   rw [hc] at hc1 hc2 ⊢
   obtain ⟨x,hx⟩:=get_some (l:=l) (i:=i) (by omega)
   obtain ⟨y,hy⟩:=get_some (l:=l) (i:=c) (by omega)
   have hoth:∀ d,0 < d→d < n→(d - 1) / 2=i→d≠c→∀ z,l[d]?=some z→lt z y=false:=by
    intro d hd0 hdn hdi hdc z hz
    unfold Hp.kid at hc
    by_cases hq:2 * i+2 < n∧Hp.lt lt l (2 * i+2) (2 * i+1)=true
    ·rw [if_pos hq] at hc
     have hd:d=2 * i+1:=by omega
     subst hd
     subst hc
     rw [Hp.lt_get hy hz] at hq
     exact ho.asym _ _ hq.2
    ·rw [if_neg hq] at hc
     have hd:d=2 * i+2:=by omega
     subst hd
     subst hc
     rw [Hp.lt_get hz hy] at hq
     have:¬ lt z y=true:=fun h=>hq ⟨hdn,h⟩
     simpa using this
   by_cases hl:Hp.lt lt l c i=true
   ·rw [if_pos hl]
    rw [Hp.lt_get hy hx] at hl
    have hg:=fun q=>Hp.swap_get l i c q (by omega) (by omega)
    refine Hp.down_ok ho n k m _ c (by omega) (by rw [Hp.swap_len]; exact hn) (by omega) ?_ ?_
    ·intro j hj0 hjn hjk hjc a b ha hb
     rw [hg] at ha hb
     rw [if_neg hjc] at hb
     by_cases e1:j=c
     ·subst e1
      rw [if_pos rfl,hx] at ha
      rw [if_pos hcp.1,hy] at hb
      cases ha
      cases hb
      exact ho.asym _ _ hl
     ·rw [if_neg e1] at ha
      by_cases e2:(j - 1) / 2=i
      ·rw [if_pos e2,hy] at hb
       cases hb
       rw [if_neg (by omega)] at ha
       exact hoth j hj0 hjn e2 e1 a ha
      ·rw [if_neg e2] at hb
       by_cases e3:j=i
       ·subst e3
        rw [if_pos rfl,hy] at ha
        cases ha
        exact h2 hj0 hjk c hcp.2 hc2 hcp.1 _ _ hy hb
       ·rw [if_neg e3] at ha
        exact h1 j hj0 hjn hjk e2 a b ha hb
    ·intro _ hck j hj0 hjn hjc a b ha hb
     rw [hg] at ha hb
     rw [if_neg (by omega),if_neg (by omega)] at ha
     rw [if_neg (by omega),if_pos hcp.1,hy] at hb
     cases hb
     exact h1 j hj0 hjn (by omega) (by omega) a y ha (by rw [hjc]; exact hy)
   ·rw [if_neg hl]
    rw [Hp.lt_get hy hx] at hl
    have hl2:lt y x=false:=by simpa using hl
    intro j hj0 hjn hjk a b ha hb
    by_cases e2:(j - 1) / 2=i
    ·rw [e2,hx] at hb
     cases hb
     by_cases e1:j=c
     ·subst e1
      rw [hy] at ha
      cases ha
      exact hl2
     ·exact ho.trans _ _ _ hl2 (hoth j hj0 hjn e2 e1 a ha)
    ·exact h1 j hj0 hjn hjk e2 a b ha hb
  ·rw [dif_neg hi]
   intro j hj0 hjn hjk a b ha hb
   exact h1 j hj0 hjn hjk (by omega) a b ha hb
theorem Hp.up_ok {α:Type} {lt:α→α→Bool} (ho:Hp.Ord lt) (l:List α) (i:Nat) (hi:i < l.length)
  (h1:∀ j,0 < j→j < l.length→j≠i→∀ a b,l[j]?=some a→l[(j - 1) / 2]?=some b→lt a b=false)
  (h2:0 < i→∀ j,0 < j→j < l.length→(j - 1) / 2=i→∀ a b,l[j]?=some a→l[(i - 1) / 2]?=some b→lt a b=false) :
  Hp.From lt l.length 0 (Hp.up lt l i):=by
 induction i using Nat.strongRecOn generalizing l with
 | _ i ih=>
  unfold Hp.up
  by_cases h0:i=0
  ·rw [dif_pos h0]
   intro j hj0 hjn _ a b ha hb
   exact h1 j hj0 hjn (by omega) a b ha hb
  ·rw [dif_neg h0]
   obtain ⟨p,hp⟩:∃ p,(i - 1) / 2=p:=⟨_,rfl⟩
   have hpi:p < i:=by omega
   rw [hp] at h2 ⊢
   obtain ⟨x,hx⟩:=get_some (l:=l) (i:=i) hi
   obtain ⟨y,hy⟩:=get_some (l:=l) (i:=p) (by omega)
   by_cases hl:Hp.lt lt l i p=true
   ·rw [if_pos hl]
    rw [Hp.lt_get hx hy] at hl
    have hg:=fun q=>Hp.swap_get l p i q (by omega) (by omega)
    have hlen:=Hp.swap_len l p i
    have:=ih p hpi (Hp.swap l p i) (by rw [hlen]; omega) ?_ ?_
    ·rw [hlen] at this; exact this
    ·intro j hj0 hjn hjp a b ha hb
     rw [hlen] at hjn
     rw [hg] at ha hb
     rw [if_neg hjp] at ha
     by_cases e1:j=i
     ·subst e1
      rw [if_pos rfl,hy] at ha
      rw [hp,if_neg (by omega),if_pos rfl,hx] at hb
      cases ha
      cases hb
      exact ho.asym _ _ hl
     ·rw [if_neg e1] at ha
      by_cases e2:(j - 1) / 2=i
      ·rw [if_pos e2,hy] at hb
       cases hb
       exact h2 (by omega) j hj0 hjn e2 a y ha hy
      ·rw [if_neg e2] at hb
       by_cases e3:(j - 1) / 2=p
       ·rw [if_pos e3,hx] at hb
        cases hb
        have k1:=h1 j hj0 hjn e1 a y ha (by rw [e3]; exact hy)
        exact ho.trans _ _ _ (ho.asym _ _ hl) k1
       ·rw [if_neg e3] at hb
        exact h1 j hj0 hjn e1 a b ha hb
    ·intro hp0 j hj0 hjn hjp a b ha hb
     rw [hlen] at hjn
     rw [hg] at ha hb
     rw [if_neg (by omega),if_neg (by omega)] at hb
     have kp:=h1 p hp0 (by omega) (by omega) y b hy hb
     by_cases e1:j=i
     ·subst e1
      rw [if_pos rfl,hy] at ha
      cases ha
      exact kp
     ·rw [if_neg e1,if_neg (by omega)] at ha
      have k1:=h1 j hj0 hjn e1 a y ha (by rw [hjp]; exact hy)
      exact ho.trans _ _ _ kp k1
   ·rw [if_neg hl]
    rw [Hp.lt_get hx hy] at hl
    intro j hj0 hjn _ a b ha hb
    by_cases e1:j=i
    ·subst e1
     rw [hx] at ha
     rw [hp,hy] at hb
     cases ha
     cases hb
     simpa using hl
    ·exact h1 j hj0 hjn e1 a b ha hb
def Hp.Is {α:Type} (lt:α→α→Bool) (l:List α):Prop:=Hp.From lt l.length 0 l
theorem Hp.push_ok {α:Type} {lt:α→α→Bool} (ho:Hp.Ord lt) {l:List α} (h:Hp.Is lt l) (t:α):Hp.Is lt (Hp.push lt l t):=by
 have e:(Hp.push lt l t).length=(l ++ [t]).length:=(Hp.up_perm lt _ _).length_eq
 unfold Hp.Is
 rw [e]
 refine Hp.up_ok ho (l ++ [t]) l.length (by simp) ?_ ?_
 ·intro j hj0 hjn hne a b ha hb
  have hj:j < l.length:=by simp at hjn; omega
  rw [List.getElem?_append_left hj] at ha
  rw [List.getElem?_append_left (by omega)] at hb
  exact h j hj0 hj (Nat.zero_le _) a b ha hb
 ·intro _ j hj0 hjn hjp a b ha hb
  simp at hjn
  omega
theorem Hp.fold_ok {α:Type} {lt:α→α→Bool} (ho:Hp.Ord lt):∀ (ts:List α) {l:List α},Hp.Is lt l→Hp.Is lt (ts.foldl (Hp.push lt) l)
 | [],_,h=>h
 | t :: ts,_,h=>Hp.fold_ok ho ts (Hp.push_ok ho h t)
theorem Hp.down_len {α:Type} (lt:α→α→Bool) (n:Nat) (l:List α) (i:Nat):(Hp.down lt n l i).length=l.length:=(Hp.down_perm lt n _ l i (Nat.le_refl _)).length_eq
theorem Hp.initF_ok {α:Type} {lt:α→α→Bool} (ho:Hp.Ord lt):∀ (i:Nat) (l:List α),Hp.From lt l.length i l→Hp.Is lt (Hp.initF lt i l)
 | 0,_,h=>h
 | i+1,l,h=>by
  unfold Hp.initF
  refine Hp.initF_ok ho i _ ?_
  rw [Hp.down_len]
  refine Hp.down_ok ho l.length i _ l i (Nat.le_refl _) (Nat.le_refl _) (Nat.le_refl _) ?_ ?_
  ·intro j hj0 hjn hjk hne a b ha hb
   exact h j hj0 hjn (by omega) a b ha hb
  ·intro h0 hk
   omega
theorem Hp.init_ok {α:Type} {lt:α→α→Bool} (ho:Hp.Ord lt) (l:List α):Hp.Is lt (Hp.init lt l):=by
 refine Hp.initF_ok ho _ l ?_
 intro j hj0 hjn hk
 omega
theorem Hp.first {α:Type} {lt:α→α→Bool} (ho:Hp.Ord lt) (hr:∀ a,lt a a=false) {l:List α} (h:Hp.Is lt l) {x:α} (hx:l[0]?=some x):∀ (j:Nat) (a:α),l[j]?=some a→lt a x=false:=by
 intro j
 induction j using Nat.strongRecOn with
 | _ j ih=>
  intro a ha
  by_cases h0:j=0
  ·subst h0
   rw [hx] at ha
   cases ha
   exact hr _
  ·have hj:=(List.getElem?_eq_some_iff.1 ha).1
   obtain ⟨b,hb⟩:=get_some (l:=l) (i:=(j - 1) / 2) (by omega)
   exact ho.trans _ _ _ (ih _ (by omega) b hb) (h j (by omega) hj (Nat.zero_le _) a b ha hb)
theorem Hp.down_get {α:Type} (lt:α→α→Bool) (n:Nat):∀ (m:Nat) (l:List α) (i:Nat),n - i≤m→n≤l.length→∀ q,n≤q→(Hp.down lt n l i)[q]?=l[q]?
 | 0,l,i,h,_,q,_=>by
  unfold Hp.down
  rw [dif_neg (by omega)]
 | m+1,l,i,h,hn,q,hq=>by
  unfold Hp.down
  split
  ·rename_i hi
   split
   ·have h1:=Hp.kid_gt lt n l i
    have h2:=Hp.kid_lt lt n l i hi
    rw [Hp.down_get lt n m _ _ (by omega) (by rw [Hp.swap_len]; exact hn) q hq,Hp.swap_get _ _ _ _ (by omega) (by omega),if_neg (by omega),if_neg (by omega)]
   ·rfl
  ·rfl
def Hp.popL {α:Type} (lt:α→α→Bool) (l:List α):List α:=Hp.down lt (l.length - 1) (Hp.swap l 0 (l.length - 1)) 0
theorem Hp.pop_ok {α:Type} {lt:α→α→Bool} (ho:Hp.Ord lt) {l:List α} (h:Hp.Is lt l) {x:α} (hx:l[0]?=some x) :
  (Hp.popL lt l).length=l.length∧(Hp.popL lt l)[l.length - 1]?=some x∧Hp.Is lt ((Hp.popL lt l).take (l.length - 1))∧l.Perm (x :: (Hp.popL lt l).take (l.length - 1)):=by
 have hl:0 < l.length:=(List.getElem?_eq_some_iff.1 hx).1
 have hlen:(Hp.popL lt l).length=l.length:=by unfold Hp.popL; rw [Hp.down_len,Hp.swap_len]
 have hlast:(Hp.popL lt l)[l.length - 1]?=some x:=by
  unfold Hp.popL
  rw [Hp.down_get lt _ _ _ 0 (Nat.le_refl _) (by rw [Hp.swap_len]; omega) _ (Nat.le_refl _),Hp.swap_get _ _ _ _ (by omega) (by omega),if_pos rfl,hx]
 refine ⟨hlen,hlast,?_,?_⟩
 ·have hd:Hp.From lt (l.length - 1) 0 (Hp.popL lt l):=by
   unfold Hp.popL
   refine Hp.down_ok ho _ 0 _ _ 0 (Nat.le_refl _) (by rw [Hp.swap_len]; omega) (Nat.le_refl _) ?_ (by omega)
   intro j hj0 hjn _ hne a b ha hb
   rw [Hp.swap_get _ _ _ _ (by omega) (by omega),if_neg (by omega),if_neg (by omega)] at ha hb
   exact h j hj0 (by omega) (Nat.zero_le _) a b ha hb
  unfold Hp.Is
  have e:((Hp.popL lt l).take (l.length - 1)).length=l.length - 1:=by rw [List.length_take,hlen]; omega
  rw [e]
  intro j hj0 hjn hk a b ha hb
  rw [List.getElem?_take_of_lt hjn] at ha
  rw [List.getElem?_take_of_lt (by omega)] at hb
  exact hd j hj0 hjn hk a b ha hb
 ·have hp:(Hp.popL lt l).Perm l:=(Hp.down_perm lt _ _ _ _ (Nat.le_refl _)).trans (Hp.swap_perm _ _ _)
  refine hp.symm.trans ?_
  have e:Hp.popL lt l=(Hp.popL lt l).take (l.length - 1) ++ [x]:=by
   have h1:=List.take_append_drop (l.length - 1) (Hp.popL lt l)
   have h2:(Hp.popL lt l).drop (l.length - 1)=[x]:=by
    obtain ⟨h3,h4⟩:=List.getElem?_eq_some_iff.1 hlast
    rw [List.drop_eq_getElem_cons h3,h4,List.drop_of_length_le (by rw [hlen]; omega)]
   rw [h2] at h1
   exact h1.symm
  rw [e]
  simp only [List.take_append_of_le_length (show l.length - 1≤((Hp.popL lt l).take (l.length - 1)).length by rw [List.length_take,hlen]; omega),List.take_take,Nat.min_self]
  exact List.perm_append_comm
theorem cmpL_flip:∀ (a b:List Int),cmpL b a=- cmpL a b
 | [],[]=>rfl
 | [],_ :: _=>rfl
 | _ :: _,[]=>rfl
 | a :: x,b :: y=>by
  unfold cmpL
  have ih:=cmpL_flip x y
  by_cases h1:a < b
  ·rw [if_pos h1,if_neg (by omega),if_pos h1]; rfl
  ·by_cases h2:b < a
   ·rw [if_pos h2,if_neg h1,if_pos h2]
   ·rw [if_neg h1,if_neg h2,if_neg h2,if_neg h1]; exact ih
theorem cmpL_eq:∀ (a b:List Int),cmpL a b=0→a=b
 | [],[],_=>rfl
 | [],_ :: _,h=>by simp [cmpL] at h
 | _ :: _,[],h=>by simp [cmpL] at h
 | a :: x,b :: y,h=>by
  unfold cmpL at h
  split at h
  ·omega
  ·split at h
   ·omega
   ·rw [cmpL_eq x y h,show a=b from by omega]
theorem cmpL_self:∀ (a:List Int),cmpL a a=0
 | []=>rfl
 | a :: x=>by
  unfold cmpL
  rw [if_neg (by omega),if_neg (by omega)]
  exact cmpL_self x
theorem cmpL_trans:∀ (a b c:List Int),cmpL a b≤0→cmpL b c≤0→cmpL a c≤0
 | [],_,[],_,_=>by simp [cmpL]
 | [],_,_ :: _,_,_=>by simp [cmpL]
 | _ :: _,[],_,h,_=>by simp [cmpL] at h
 | _ :: _,_ :: _,[],_,h=>by simp [cmpL] at h
 | a :: x,b :: y,c :: z,h1,h2=>by
  unfold cmpL at h1 h2 ⊢
  by_cases k1:a < b
  ·by_cases k2:b < c
   ·rw [if_pos (by omega)]; omega
   ·rw [if_neg k2] at h2
    by_cases k3:c < b
    ·rw [if_pos k3] at h2; omega
    ·rw [if_pos (by omega)]; omega
  ·rw [if_neg k1] at h1
   by_cases k4:b < a
   ·rw [if_pos k4] at h1; omega
   ·rw [if_neg k4] at h1
    by_cases k2:b < c
    ·rw [if_pos (by omega)]; omega
    ·rw [if_neg k2] at h2
     by_cases k3:c < b
     ·rw [if_pos k3] at h2; omega
     ·rw [if_neg k3] at h2
      rw [if_neg (by omega),if_neg (by omega)]
      exact cmpL_trans x y z h1 h2
theorem Tok.less_iff (t u:Tok):Tok.less t u=true↔0 < cmpL t.age u.age∨(t.age=u.age∧cmpL t.nums u.nums < 0):=by
 unfold Tok.less
 by_cases h:cmpL t.age u.age=0
 ·rw [if_pos h]
  simp only [decide_eq_true_eq]
  constructor
  ·intro k; exact .inr ⟨cmpL_eq _ _ h,k⟩
  ·rintro (k | k)
   ·omega
   ·exact k.2
 ·rw [if_neg h]
  simp only [decide_eq_true_eq]
  constructor
  ·exact fun k=>.inl k
  ·rintro (k | k)
   ·exact k
   ·rw [k.1,cmpL_self] at h; exact absurd rfl h
theorem Tok.less_ord:Hp.Ord Tok.less where
 asym:=by
  intro a b h
  rw [Tok.less_iff] at h
  rw [←Bool.not_eq_true,Tok.less_iff]
  rintro (k | ⟨k1,k2⟩)
  ·rw [cmpL_flip] at k
   rcases h with h | ⟨h,_⟩
   ·omega
   ·rw [h,cmpL_self] at k; omega
  ·rw [cmpL_flip] at k2
   rcases h with h | ⟨h,h3⟩
   ·rw [k1,cmpL_self] at h; omega
   ·omega
 trans:=by
  intro a b c h1 h2
  rw [←Bool.not_eq_true,Tok.less_iff] at h1 h2 ⊢
  have e1:cmpL b.age a.age≤0:=by
   by_cases h:0 < cmpL b.age a.age
   ·exact absurd (.inl h) h1
   ·omega
  have e2:cmpL c.age b.age≤0:=by
   by_cases h:0 < cmpL c.age b.age
   ·exact absurd (.inl h) h2
   ·omega
  have e3:=cmpL_trans _ _ _ e2 e1
  rintro (k | ⟨k1,k2⟩)
  ·omega
  ·have e4:cmpL a.age b.age≤0:=by rw [←k1]; exact e2
   rw [cmpL_flip] at e4
   have e5:b.age=a.age:=cmpL_eq _ _ (by omega)
   have e6:c.age=b.age:=by rw [k1,e5]
   have f1:¬ cmpL b.nums a.nums < 0:=fun h=>h1 (.inr ⟨e5,h⟩)
   have f2:¬ cmpL c.nums b.nums < 0:=fun h=>h2 (.inr ⟨e6,h⟩)
   have g1:cmpL a.nums b.nums≤0:=by rw [cmpL_flip]; omega
   have g2:cmpL b.nums c.nums≤0:=by rw [cmpL_flip]; omega
   have:=cmpL_trans _ _ _ g1 g2
   rw [cmpL_flip] at this
   omega
theorem Tok.less_self (t:Tok):Tok.less t t=false:=by
 rw [←Bool.not_eq_true,Tok.less_iff]
 rintro (k | ⟨_,k⟩)
 ·rw [cmpL_self] at k; omega
 ·rw [cmpL_self] at k; omega
end Go.Proofs.YtolhbeekfjnfmaaGreatDoor
namespace Go.Proofs.YtolhbeekfjnfmaaGreatDoor
theorem lexLt_cmp:∀ (a b:List Int),Sv.lexLt a b→cmpL a b < 0
 | [],[],h=>h.elim
 | [],_ :: _,_=>by simp [cmpL]
 | _ :: _,[],h=>h.elim
 | a :: x,b :: y,h=>by
  unfold cmpL
  rcases h with h | ⟨rfl,h⟩
  ·rw [if_pos h]; omega
  ·rw [if_neg (by omega),if_neg (by omega)]
   exact lexLt_cmp x y h
theorem sorted_eq {l k:List (List Int)} (hp:l.Perm k) (h1:l.Pairwise Sv.lexLt) (h2:k.Pairwise (fun a b=>cmpL a b≤0)):l=k:=by
 refine List.Perm.eq_of_pairwise (le:=fun a b=>cmpL a b≤0) ?_ ?_ h2 hp
 ·intro a b _ _ h1 h2
  rw [cmpL_flip] at h2
  exact cmpL_eq _ _ (by omega)
 ·exact h1.imp (fun {a b} h=>by have:=lexLt_cmp a b h; omega)
end Go.Proofs.YtolhbeekfjnfmaaGreatDoor

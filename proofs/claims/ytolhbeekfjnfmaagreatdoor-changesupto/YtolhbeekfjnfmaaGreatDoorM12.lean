import Derived.ArgAppend
import Derived.Deep.AppendLies
import Derived.Test.YtolhbeekfjnfmaaGreatDoorM09
namespace Go.Proofs.YtolhbeekfjnfmaaGreatDoor
open Go.RowKit
variable {S S':Nat->Prop}{w w' a c b:World}{e:TypeId}{α:Type}{size base g n cap bytes fB j:Nat}{P:Program}{z v u v1:Value}{ops:Array Oper}{o:Oper}{Q:Exit->Act->World->Prop}{K:Act->World->Prop}{E:Prop}
structure GrS(S:Nat->Prop)(w w':World):Prop where
 os:w'.os=w.os
 tape:w'.tape=w.tape
 output:w'.output=w.output
 size:w.heap.size<=w'.heap.size
 block:∀k,k<w.heap.size->¬ S k->w'.heap[k]?=w.heap[k]?
theorem GrS.of{row:Option Nat}(h:w.grownBy w' row)(hr:∀g,row=some g->S g):GrS S w w':=
 ⟨h.os,h.tape,h.output,h.size,fun k hk hs=>h.block k hk (fun e=>hs (hr k e.symm))⟩
theorem GrS.then{row:Option Nat}(h:GrS S w a)(k:a.grownBy c row)(hr:∀g,row=some g->w.heap.size<=g\/S g):GrS S w c:=
 ⟨k.os.trans h.os,k.tape.trans h.tape,k.output.trans h.output,AU h.size k.size,fun i hi hs=>(k.block i (AZ hi h.size) (fun e=>by rcases hr i e.symm with h1|h1;omega;exact hs h1)).trans (h.block i hi hs)⟩
theorem GrS.trans{S:Nat->Prop}{a b c:World}(h:GrS S a b)(k:GrS S b c):GrS S a c:=
 ⟨k.os.trans h.os,k.tape.trans h.tape,k.output.trans h.output,AU h.size k.size,fun i hi hs=>(k.block i (AZ hi h.size) hs).trans (h.block i hi hs)⟩
theorem GrS.mono(h:GrS S a b)(hs:∀k,S k->S' k):GrS S' a b:=⟨h.os,h.tape,h.output,h.size,fun k hk hn=>h.block k hk (fun e=>hn (hs k e))⟩
theorem RowOk.blk{y:Nat}{cs:Array Value}{fz:Nat×Nat}(h:w.heap[y]?=some (.cells cs e fz)):RowOk 0 e (some y) w:=by
 intro g hg;simp only[AE] at hg;subst hg;exact⟨AG _,_,_,h⟩
theorem RowAt.prefix{enc:α->List Value}{l l2:List α}(h:RowAt e size enc base (.slice (some ⟨g,0,none⟩) n cap) (l++l2) w):RowAt e size enc base (.slice (some ⟨g,0,none⟩) l.length cap) l w:=by
 have hlen:∀(k:List α),(k.flatMap enc).length=k.length*size:=by
  intro k
  induction k with
  | nil=>simp
  | cons a k ih=>rw[BI,AK,h.1,ih,AP,IC];omega
 refine⟨h.1,hlen l,?_⟩;rcases h.2.2 with ⟨h1,_⟩|⟨g',cap',cur,h1,h2,h3,h4,h5,h6,h7⟩
 ·simp at h1
 ·simp only[AH,AE,Addr.mk.injEq,BX] at h1
  obtain⟨rfl,h1,rfl⟩:=h1;refine .inr ⟨g,cap,cur,rfl,h2,h3,?_,h5,h6,?_⟩
  ·rw[AK] at h4;omega
  ·have h8:=BJ (List.take (l.length*size)) h7
   rw[List.take_take,CO,List.take_left' (hlen l),CB (BW _ (by rw[AK];omega))] at h8;exact h8
def Longer(v v':Value)(n m:Nat)(w w':World):Prop:=
 (∃g cap,v=.slice (some ⟨g,0,none⟩) n cap/\v'=.slice (some ⟨g,0,none⟩) (n+m) cap/\w.grownBy w' (some g))\/
 (w.grownBy w' none/\∃g cap,v'=.slice (some ⟨g,0,none⟩) (n+m) cap/\w.heap.size<=g)
theorem Qo(w:World)(t ty:TypeId){enc:α->List Value}
 (ht:P.underlying t=some (.slice e))(aq:(P.info? e).map (fun i=>(i.zero,i.size,i.bytes))=some (some z,size,bytes))(hzs:z.cells.size=size)(hsz:0<size)
 {l l2:List α}(hown:RowAt e size enc base v l w)(aG:RowAt e size enc fB u l2 w)(jz:0<l2.length)
 (h1:∀y∈l2,∀c∈enc y,c.oneCell'=true)(h63:l.length+l2.length<=maxLen)(hbytes:(l.length+l2.length)*bytes<=140737488355328) :
  ∃v' w',(Builtin.append_ #[t,t] ty #[v,u]).run P w=.ok v' w'/\RowAt e size enc 0 v' (l++l2) w'/\Longer v v' l.length l2.length w w':=by
 obtain⟨i,hi,hz,hsize,hby⟩:=info_parts aq
 have bg:∀c∈l2.flatMap enc,c.oneCell'=true:=by
  intro c hc;obtain⟨y,hm,hy⟩:=CT.1 hc;exact h1 y hm c hy
 have tW:∀(v':Value) (w':World) (b:Nat),w'.ownsRow b e size v' (l.length+l2.length) (l.flatMap enc++l2.flatMap enc)->∃g cap,v'=.slice (some ⟨g,0,none⟩) (l.length+l2.length) cap/\b<=g:=by
  intro v' w' b hb;rcases hb.2 with ⟨_,h2⟩|⟨g,cap,cur,h2,h3,_⟩
  ·omega
  ·exact⟨g,cap,h2,h3⟩
 have hrow:∀(v':Value) (w':World) (b:Nat),w'.ownsRow b e size v' (l.length+l2.length) (l.flatMap enc++l2.flatMap enc)->RowAt e size enc 0 v' (l++l2) w':=by
  intro v' w' b hb;refine⟨hown.1,?_⟩;rw[AK,CO];exact Cv hb (AG _)
 rcases aG.2.2 with ⟨rfl,h2⟩|⟨g,cap,cur,rfl,h3,h4,h5,h6,h7,h8⟩
 ·omega
 ·have hnews:∀j y,(l2.flatMap enc)[j]?=some y->w.cell? ((⟨g,0,none⟩:Addr).add j)=some y:=fun j y hj=>aG.2.cells rfl j y hj
  rcases hown.2.2 with ⟨rfl,h2⟩|⟨g0,sQ,cur0,rfl,k3,k4,k5,k6,k7,k8⟩
  ·have gD:=EJ w w.heap.size e size
   have e2:l=[]:=CM.1 h2;subst e2;obtain⟨v',w',hr,a1,a2,_⟩:=run_append_own (P:=P) w w.heap.size t ty e i z size bytes ht hi hz hsize hby hzs hsz (.slice none 0 0) 0 [] gD ⟨g,0,none⟩ l2.length cap (l2.flatMap enc) aG.2.1 hnews bg (by simpa using h63) (by simpa using hbytes) (AW _);refine⟨v',w',hr,hrow v' w' _ a1,.inr ⟨a2,?_⟩⟩;obtain⟨g',cap',e1,e2⟩:=tW v' w' _ a1;exact⟨g',cap',e1,e2⟩
  ·by_cases hroom:l.length+l2.length<=sQ
   ·obtain⟨w',hr,a1,a2⟩:=run_append_fits (P:=P) w base t ty e i size ht hi hsize g0 l.length sQ (l.flatMap enc) hown.2 ⟨g,0,none⟩ l2.length cap (l2.flatMap enc) aG.2.1 hnews bg hroom
    exact⟨_,w',hr,hrow _ w' _ a1,.inl ⟨g0,sQ,rfl,rfl,a2⟩⟩
   ·obtain⟨v',w',hr,a1,a2⟩:=run_append_arg_grows (P:=P) w t ty e i z size bytes ht hi hz hsize hby hzs hsz ⟨g0,0,none⟩ l.length sQ (l.flatMap enc) hown.2.1 (fun j y hj=>hown.2.cells rfl j y hj) ⟨g,0,none⟩ l2.length cap (l2.flatMap enc) aG.2.1 hnews (by omega) h63 hbytes
    refine⟨v',w',hr,hrow v' w' _ a1,.inr ⟨a2,?_⟩⟩;obtain⟨g',cap',e1,e2⟩:=tW v' w' _ a1;exact⟨g',cap',e1,e2⟩
theorem Cb{rest:List Oper}{a:Act}(hgd:o.guard=none)(s x:Operand)(t:TypeId)
 (ho:o.op=.call { callee:=.builtin .append,args:=#[s,x],argTypes:=#[t,t] }){enc:α->List Value}
 (ht:P.underlying t=some (.slice e))(aq:(P.info? e).map (fun i=>(i.zero,i.size,i.bytes))=some (some z,size,bytes))(hzs:z.cells.size=size)(hsz:0<size)
 {l l2:List α}(hs:a.eval s=v)(hown:RowAt e size enc base v l w)(hx:a.eval x=u)(aG:RowAt e size enc fB u l2 w)(jz:0<l2.length)
 (h1:∀y∈l2,∀c∈enc y,c.oneCell'=true)(h63:l.length+l2.length<=maxLen)(hbytes:(l.length+l2.length)*bytes<=140737488355328)
 (h:∀v' w',RowAt e size enc 0 v' (l++l2) w'->Longer v v' l.length l2.length w w'->wpList P ops Q rest (a.put o.dst v') w'):wpList P ops Q (o::rest) a w:=by
 obtain⟨v',w',hr,h2,h3⟩:=Qo w t o.type ht aq hzs hsz hown aG jz h1 h63 hbytes;refine wpList_plain hgd fun K hK=>?_
 unfold Oper.wp;simp[execOp,ho,resolve,invoke,builtin,hs,hx,hr,Result.andThen];exact hK _ _ (h v' w' h2 h3)
theorem Ey{a:Act}(hgd:o.guard=none)(s x:Operand)(t:TypeId)
 (ho:o.op=.call { callee:=.builtin .append,args:=#[s,x],argTypes:=#[t,t] }){enc:α->List Value}
 (ht:P.underlying t=some (.slice e))(aq:(P.info? e).map (fun i=>(i.zero,i.size,i.bytes))=some (some z,size,bytes))(hzs:z.cells.size=size)(hsz:0<size)
 {l l2:List α}(hs:a.eval s=v)(hown:RowAt e size enc base v l w)(hx:a.eval x=u)(aG:RowAt e size enc fB u l2 w)(jz:0<l2.length)
 (h1:∀y∈l2,∀c∈enc y,c.oneCell'=true)(h63:l.length+l2.length<=maxLen)(hbytes:(l.length+l2.length)*bytes<=140737488355328)
 (h:∀v' w',RowAt e size enc 0 v' (l++l2) w'->Longer v v' l.length l2.length w w'->K (a.put o.dst v') w') :
  if Region.wanted o (yielded ops a.tmps)=true then Oper.wp P o a w K Q else E:=by
 have hw:Region.wanted o (yielded ops a.tmps)=true:=by simp[Region.wanted,hgd]
 rw[AQ hw];obtain⟨v',w',hr,h2,h3⟩:=Qo w t o.type ht aq hzs hsz hown aG jz h1 h63 hbytes;unfold Oper.wp;simp[execOp,ho,resolve,invoke,builtin,hs,hx,hr,Result.andThen];exact h v' w' h2 h3
theorem M4{a:Act}(hgd:o.guard=none)(s x:Operand)(t:TypeId)
 (ho:o.op=.call { callee:=.builtin .append,args:=#[s,x],argTypes:=#[t,t] }){enc:α->List Value}
 (ht:P.underlying t=some (.slice e))(aq:(P.info? e).map (fun i=>(i.zero,i.size,i.bytes))=some (some z,size,bytes))(hzs:z.cells.size=size)(hsz:0<size)
 {l l2:List α}(hs:a.eval s=v)(hown:RowAt e size enc base v l w)(hx:a.eval x=u)(aG:RowAt e size enc fB u l2 w)(jz:0<l2.length)
 (h1:∀y∈l2,∀c∈enc y,c.oneCell'=true)(h63:l.length+l2.length<=maxLen)(hbytes:(l.length+l2.length)*bytes<=140737488355328)(hbase:base<=w.heap.size)
 (h:∀g cap w',RowAt e size enc base (.slice (some ⟨g,0,none⟩) (l++l2).length cap) (l++l2) w'->w.grownBy w' v.ownBlock->(v.ownBlock=some g\/g=w.heap.size)->K (a.put o.dst (.slice (some ⟨g,0,none⟩) (l.length+l2.length) cap)) w') :
  if Region.wanted o (yielded ops a.tmps)=true then Oper.wp P o a w K Q else E:=by
 obtain⟨i,hi,hz,hsize,hby⟩:=info_parts aq;rcases aG.2.2 with ⟨rfl,h2⟩|⟨g,cap,cur,rfl,h3,h4,h5,h6,h7,h8⟩
 ·omega
 ·refine step_append_lies w hgd s x t ho base e i z size bytes ht hi hz hsize hby hzs hsz v l.length (l.flatMap enc) hs hown.2 ⟨g,0,none⟩ l2.length cap (l2.flatMap enc) hx aG.2.1 ?_ ?_ jz h63 hbytes hbase _ rfl ?_
  ·intro j y hj
   exact aG.2.cells rfl j y hj
  ·intro c hc
   obtain⟨y,hm,hy⟩:=CT.1 hc;exact h1 y hm c hy
  ·intro g' cap' w' k1 k2 k3 _
   refine h g' cap' w' ⟨hown.1,?_⟩ k2 k3;rw[AK,CO];exact k1
theorem RowAt.le{enc:α->List Value}{l:List α}(h:RowAt e size enc base v l w):l.length<=maxLen:=by
 rcases h.2.2 with ⟨_,h2⟩|⟨g,cap,cur,_,_,_,h3,h4,_⟩
 ·rw[h2];exact AG _
 ·exact AU h3 h4
theorem Dm(w:World)(a b:Obj):w.grownBy ((w.alloc a).alloc b) none:=Ab (AA w a none) (AA _ b none)
theorem RowAt.other{α:Type}{e:TypeId}{size:Nat}{enc:α->List Value}{base:Nat}{v:Value}{l:List α}{w w':World}{row:Option Nat}(h:RowAt e size enc base v l w)(hg:w.grownBy w' row)(hv:∀g,v.ownBlock=some g->row≠some g):RowAt e size enc base v l w':=by
 refine⟨h.1,h.2.kept hg ?_⟩;cases hb:v.ownBlock with
 | none=>exact .inl rfl
 | some g=>exact .inr (fun e=>hv g hb e.symm)
theorem RowAt.fz{enc:α->List Value}{l:List α}(h:RowAt e size enc base (.slice (some ⟨g,0,none⟩) n cap) l w)(j:Nat):w.frozen? ⟨g,j,none⟩=false:=by
 rcases h.2.2 with ⟨h1,_⟩|⟨g',cap',cur,h1,h2,h3,_⟩
 ·simp at h1
 ·simp only[AH,AE,Addr.mk.injEq,BX] at h1
  obtain⟨rfl,_,_⟩:=h1;simp[World.frozen?,h3]
theorem RowAt.len{enc:α->List Value}{ao:Option Addr}{l:List α}(h:RowAt e size enc base (.slice ao n cap) l w):n=l.length:=by
 obtain⟨a,c,h1⟩:=h.slice;simp only[AH] at h1;exact h1.2.1
def TRow{α:Type}(T:Nat->Nat)(t:Nat)(e:TypeId)(size:Nat)(enc:α->List Value)(v:Value)(l:List α)(w:World):Prop:=
 RowAt e size enc 0 v l w/\∀g,v.ownBlock=some g->T g=t
theorem GrS.blk(h:GrS S w w'){k:Nat}{o:Obj}(hb:w.heap[k]?=some o)(hs:¬ S k):w'.heap[k]?=some o:=by
 rw[h.block k (Ad hb) hs];exact hb
theorem GrS.refl(S:Nat->Prop)(w:World):GrS S w w:=⟨rfl,rfl,rfl,AW _,fun _ _ _=>rfl⟩
theorem GrS.row{enc:α->List Value}{l:List α}(hg:GrS S w w')(h:RowAt e size enc base v l w)(hs:∀g,v.ownBlock=some g->¬ S g):RowAt e size enc base v l w':=by
 have hlt:=h.own;refine⟨h.1,h.2.1,?_⟩;rcases h.2.2 with ⟨h1,h2⟩|⟨g,cap,cur,h1,h2,h3,h4⟩
 ·exact .inl ⟨h1,h2⟩
 ·have hb:v.ownBlock=some g:=by rw[h1];rfl
  exact .inr ⟨g,cap,cur,h1,h2,hg.blk h3 (hs g hb),h4⟩
theorem GrS.comp(h:GrS S a b)(k:GrS S' b c)(hs:∀i,i<a.heap.size->¬ S i->¬ S' i):GrS S a c:=
 ⟨k.os.trans h.os,k.tape.trans h.tape,k.output.trans h.output,AU h.size k.size,fun i hi hn=>(k.block i (AZ hi h.size) (hs i hi hn)).trans (h.block i hi hn)⟩
theorem Longer.gr(h:Longer v v1 n j w w')(hs:∀g,v.ownBlock=some g->S g):GrS S w w':=by
 rcases h with ⟨g,cap,e1,_,hg⟩|⟨hg,_⟩
 ·exact GrS.of hg (fun g' bE=>hs g' (by rw[e1];simp at bE;rw[bE];rfl))
 ·exact GrS.of hg (by simp)
theorem Longer.own(h:Longer v v1 n j w w'):∀g,v1.ownBlock=some g->v.ownBlock=some g\/w.heap.size<=g:=by
 intro g hg;rcases h with ⟨g',cap,e1,e2,_⟩|⟨_,g',cap,e2,h2⟩
 ·rw[e2] at hg;rw[e1];exact .inl hg
 ·rw[e2] at hg
  simp only[Value.ownBlock,AE] at hg;subst hg;exact .inr h2
theorem Longer.form(h:Longer v v1 n j w w'):∃g cap,v1=.slice (some ⟨g,0,none⟩) (n+j) cap:=by
 rcases h with ⟨g,cap,_,e2,_⟩|⟨_,g,cap,e2,_⟩
 ·exact⟨g,cap,e2⟩
 ·exact⟨g,cap,e2⟩
theorem Longer.block{v v':Value}{n j:Nat}{w w':World}(hl:Longer v v' n j w w'){k:Nat}{o:Obj}(h:w.heap[k]?=some o)(hne:v.ownBlock≠some k):w'.heap[k]?=some o:=by
 rcases hl with ⟨g,cap,e1,_,hg⟩|⟨hg,_⟩
 ·rw[hg.block k (Ad h) (fun e=>hne (by rw[e1];exact e.symm))];exact h
 ·rw[hg.block k (Ad h) (by simp)];exact h
theorem TRow.keep2{T T':Nat->Nat}{t:Nat}{enc:α->List Value}{l:List α}(h:TRow T t e size enc v l w)(hg:GrS S w w')(hs:∀k,T k=t->¬ S k)(ho:∀k,k<w.heap.size->T k=t->T' k=t):TRow T' t e size enc v l w':=by
 have hlt:=h.1.own;exact⟨hg.row h.1 (fun g hb=>hs g (h.2 g hb)),fun g hb=>ho g (hlt g hb).2 (h.2 g hb)⟩
end Go.Proofs.YtolhbeekfjnfmaaGreatDoor

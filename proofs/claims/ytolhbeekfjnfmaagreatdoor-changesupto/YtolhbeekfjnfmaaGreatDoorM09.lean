import Derived.Laws.AppendOwnNone
import Derived.Deep.RegionLaw
import Derived.Test.YtolhbeekfjnfmaaGreatDoorM06
set_option maxHeartbeats 8000000
set_option maxRecDepth 100000
namespace Go.Proofs.YtolhbeekfjnfmaaGreatDoor
open Go.RowKit
variable {w w':World}{base size n k base' bytes fB:Nat}{e:TypeId}{v z u:Value}{xs:List Value}{α:Type}{P:Program}{ops:Array Oper}{rest:List Oper}{o:Oper}{a:Act}{Q:Exit->Act->World->Prop}{l:List Int}
theorem Zw(h:w.ownsRow base e size v n xs)(hg:w.grownBy w' none):w'.ownsRow base e size v n xs:=by
 refine h.kept hg ?_;cases hv:v.ownBlock
 ·exact .inl rfl
 ·exact .inr (by simp)
theorem Xf(h:w.ownsRow base e size v n xs):∃ao cap,v=.slice ao n cap:=by
 rcases h.2 with ⟨h1,h2⟩|⟨g,cap,cur,h1,_⟩
 ·exact⟨none,0,by rw[h2];exact h1⟩
 ·exact⟨_,_,h1⟩
theorem Lb(h:w.ownsRow base e size v n xs)(hk:k<n) :
  ∃g cap,v=.slice (some ⟨g,0,none⟩) n cap/\∀j,j<size->w.cell? ⟨g,k*size+j,none⟩=xs[k*size+j]?:=by
 rcases h.2 with ⟨_,h2⟩|⟨g,cap,cur,h1,h2⟩
 ·omega
 ·subst h1
  refine⟨g,cap,rfl,fun j hj=>h.cellAt _ ?_⟩;have:(k+1)*size<=n*size:=BW _ hk;rw[IC] at this;omega
theorem Ru{α:Type}(enc:α->List Value)(size:Nat)(hsz:∀a,(enc a).length=size):∀(l:List α) (k:Nat) (a:α),l[k]?=some a->∀j,j<size->(l.flatMap enc)[k*size+j]?=(enc a)[j]?
 | [],k,a,h=>by simp at h
 | b::l,0,a,h=>by
  intro j hj;simp at h;subst h;rw[BI,Nat.zero_mul,BV,CL (by rw[hsz];exact hj)]
 | b::l,k+1,a,h=>by
  intro j hj;simp at h;have h1:=Ru enc size hsz l k a h j hj;have e:(k+1)*size+j=size+(k*size+j):=by rw[IC];omega
  rw[BI,DW (by rw[hsz,e];omega),hsz,<-h1];congr 1
  omega
def RowAt{α:Type}(e:TypeId)(size:Nat)(enc:α->List Value)(base:Nat)(v:Value)(l:List α)(w:World):Prop:=
 (∀a,(enc a).length=size)/\w.ownsRow base e size v l.length (l.flatMap enc)
theorem RowAt.gr{enc:α->List Value}{l:List α}(h:RowAt e size enc base v l w)(hg:w.grownBy w' none):RowAt e size enc base v l w':=⟨h.1,Zw h.2 hg⟩
theorem RowAt.weak{enc:α->List Value}{l:List α}(h:RowAt e size enc base v l w)(hb:base'<=base):RowAt e size enc base' v l w:=⟨h.1,Cv h.2 hb⟩
theorem RowAt.slice{α:Type}{e:TypeId}{size:Nat}{enc:α->List Value}{base:Nat}{v:Value}{l:List α}{w:World}(h:RowAt e size enc base v l w):∃ao cap,v=.slice ao l.length cap:=Xf h.2
theorem RowAt.cells{enc:α->List Value}{l:List α}(h:RowAt e size enc base v l w){a:α}(hk:l[k]?=some a) :
  ∃g cap,v=.slice (some ⟨g,0,none⟩) l.length cap/\∀j,j<size->w.cell? ⟨g,k*size+j,none⟩=(enc a)[j]?:=by
 obtain⟨g,cap,h1,h2⟩:=Lb h.2 (AL.1 hk).1;refine⟨g,cap,h1,fun j hj=>?_⟩;rw[h2 j hj,Ru enc size h.1 l k a hk j hj]
theorem RowAt.nil{enc:α->List Value}(base:Nat)(w:World)(h:∀a,(enc a).length=size):RowAt e size enc base (.slice none 0 0) [] w:=⟨h,EJ _ _ _ _⟩
theorem RowAt.row{e':TypeId}{enc:α->List Value}{l:List α}{row:Option Nat}(h:RowAt e size enc base v l w)(hg:w.grownBy w' row)(hr:RowOk base' e' row w)(hne:e'≠e):RowAt e size enc base v l w':=⟨h.1,Fu h.2 hg hr hne⟩
theorem Db(hgd:o.guard=none)(s x:Operand)(t:TypeId)
 (ho:o.op=.call { callee:=.builtin .append,args:=#[s,x],argTypes:=#[t,t] }){enc:α->List Value}
 (ht:P.underlying t=some (.slice e))(aq:(P.info? e).map (fun i=>(i.zero,i.size,i.bytes))=some (some z,size,bytes))(hzs:z.cells.size=size)(hsz:0<size)
 {l l2:List α}(hs:a.eval s=v)(hown:RowAt e size enc base v l w)(hx:a.eval x=u)(aG:RowAt e size enc fB u l2 w)
 (h1:∀y∈l2,∀c∈enc y,c.oneCell'=true)(h63:l.length+l2.length<=maxLen)(hbytes:(l.length+l2.length)*bytes<=140737488355328)(hbase:base<=w.heap.size)
 (h:∀v' w',RowAt e size enc base v' (l++l2) w'->w.grownBy w' v.ownBlock->wpList P ops Q rest (a.put o.dst v') w'):wpList P ops Q (o::rest) a w:=by
 obtain⟨i,hi,hz,hsize,hby⟩:=info_parts aq;rcases aG.2.2 with ⟨rfl,h2⟩|⟨g,cap,cur,rfl,h3,h4,h5,h6,h7,h8⟩
 ·have e2:l2=[]:=CM.1 h2
  subst e2;refine wpList_append_own_none hgd s x t ho base e i size ht hi v l.length (l.flatMap enc) hs hown.2 hx ?_;refine h v w ?_ ?_
  ·rw[BM];exact hown
  ·exact AD _ _
 ·refine DG w hgd s x t ho base e i z size bytes ht hi hz hsize hby hzs hsz v l.length (l.flatMap enc) hs hown.2 ⟨g,0,none⟩ l2.length cap (l2.flatMap enc) hx aG.2.1 ?_ ?_ h63 hbytes hbase ?_
  ·intro j y hj
   exact aG.2.cells rfl j y hj
  ·intro c hc
   obtain⟨y,hm,hy⟩:=CT.1 hc;exact h1 y hm c hy
  ·intro v' w' k1 k2 _
   refine h v' w' ⟨hown.1,?_⟩ k2;rw[AK,CO];exact k1
theorem Yr{K:Act->World->Prop}{E:Prop}(hgd:o.guard=none)(s x:Operand)(t:TypeId)
 (ho:o.op=.call { callee:=.builtin .append,args:=#[s,x],argTypes:=#[t,t] }){enc:α->List Value}
 (ht:P.underlying t=some (.slice e))(aq:(P.info? e).map (fun i=>(i.zero,i.size,i.bytes))=some (some z,size,bytes))(hzs:z.cells.size=size)(hsz:0<size)
 {l l2:List α}(hs:a.eval s=v)(hown:RowAt e size enc base v l w)(hx:a.eval x=u)(aG:RowAt e size enc fB u l2 w)
 (h1:∀y∈l2,∀c∈enc y,c.oneCell'=true)(h63:l.length+l2.length<=maxLen)(hbytes:(l.length+l2.length)*bytes<=140737488355328)(hbase:base<=w.heap.size)
 (h:∀v' w',RowAt e size enc base v' (l++l2) w'->w.grownBy w' v.ownBlock->K (a.put o.dst v') w') :
  if Region.wanted o (yielded ops a.tmps)=true then Oper.wp P o a w K Q else E:=by
 have hw:Region.wanted o (yielded ops a.tmps)=true:=by simp[Region.wanted,hgd]
 rw[AQ hw];obtain⟨i,hi,hz,hsize,hby⟩:=info_parts aq;rcases aG.2.2 with ⟨rfl,h2⟩|⟨g,cap,cur,rfl,h3,h4,h5,h6,h7,h8⟩
 ·have e2:l2=[]:=CM.1 h2
  subst e2;have hrun:=run_append_owned_none (P:=P) (w:=w) base t o.type e i size ht hi v l.length (l.flatMap enc) hown.2;unfold Oper.wp;simp[execOp,ho,resolve,invoke,builtin,hs,hx,hrun,Result.andThen];refine h v w ?_ ?_
  ·rw[BM];exact hown
  ·exact AD _ _
 ·refine wp_append_own w s x t ho base e i z size bytes ht hi hz hsize hby hzs hsz v l.length (l.flatMap enc) hs hown.2 ⟨g,0,none⟩ l2.length cap (l2.flatMap enc) hx aG.2.1 ?_ ?_ h63 hbytes hbase ?_
  ·intro j y hj
   exact aG.2.cells rfl j y hj
  ·intro c hc
   obtain⟨y,hm,hy⟩:=CT.1 hc;exact h1 y hm c hy
  ·intro v' w' k1 k2 _
   refine h v' w' ⟨hown.1,?_⟩ k2;rw[AK,CO];exact k1
theorem RowAt.heap{enc:α->List Value}{l:List α}(h:RowAt e size enc base v l w)(hw:w'.heap=w.heap):RowAt e size enc base v l w':=by
 refine⟨h.1,h.2.1,?_⟩;rw[hw];exact h.2.2
theorem RowAt.own{enc:α->List Value}{l:List α}(h:RowAt e size enc base v l w):∀g,v.ownBlock=some g->base<=g/\g<w.heap.size:=h.2.lt
theorem C0{a c:World}{r row:Option Nat}(h:w.grownBy a r)(k:a.grownBy c row)(hr:∀g,row=some g->w.heap.size<=g):w.grownBy c r:=
 ⟨k.os.trans h.os,k.tape.trans h.tape,k.output.trans h.output,AU h.size k.size,fun i hi hne=>(k.block i (AZ hi h.size) (fun e=>by have:=hr i e.symm;omega)).trans (h.block i hi hne)⟩
theorem RowAt.lit1{enc:α->List Value}(hsz:∀a,(enc a).length=size)(w:World)(a:α)(cs:Array Value)(hc:cs.toList=enc a) :
  RowAt e size enc w.heap.size (.slice (some ⟨w.heap.size,0,none⟩) 1 1) [a] (w.alloc (.cells cs e)):=by
 refine⟨hsz,?_⟩;have h:=IM (base:=w.heap.size) (e:=e) (size:=size) w cs 1 (AW _) (by decide) (by rw[<-Array.length_toList,hc,hsz];omega);rw[hc] at h;simpa using h
theorem RowAt.lit0{enc:α->List Value}(hsz:∀a,(enc a).length=size)(w:World) :
  RowAt e size enc w.heap.size (.slice (some ⟨w.heap.size,0,none⟩) 0 0) ([]:List α) (w.alloc (.cells #[] e)):=by
 refine⟨hsz,?_⟩;have h:=IM (base:=w.heap.size) (e:=e) (size:=size) w #[] 0 (AW _) (by decide) (by simp);simpa using h
def C1(x:Int):List Value:=[.int .i64 x]
theorem At(x:Int):(C1 x).length=1:=rfl
theorem B7(x:Int):∀c∈C1 x,c.oneCell'=true:=by intro c hc;simp[C1] at hc;subst hc;rfl
abbrev IsAt(base:Nat)(v:Value)(l:List Int)(w:World):Prop:=RowAt 3 1 C1 base v l w
def Q4h(p:UInt8×Int):List Value:=[.int .u8 p.1.toNat,.int .i64 p.2]
theorem M7(p:UInt8×Int):(Q4h p).length=2:=rfl
theorem Rd(p:UInt8×Int):∀c∈Q4h p,c.oneCell'=true:=by intro c hc;simp[Q4h] at hc;rcases hc with rfl|rfl<;>rfl
abbrev BsAt(base:Nat)(v:Value)(l:Sv.Bs)(w:World):Prop:=RowAt 283 2 Q4h base v l w
theorem Tryz.infoBound:(Tryz.prog.info? 283).map (fun i=>(i.zero,i.size,i.bytes))=some (some (.agg #[.int .u8 0,.int .i64 0]),2,16):=by kernel_rfl
theorem Tryz.infoInt:(Tryz.prog.info? 3).map (fun i=>(i.zero,i.size,i.bytes))=some (some (.int .i64 0),1,8):=by kernel_rfl
def InAt(v:Value)(l:List Int)(w:World):Prop:=
 (v=.slice none 0 0/\l=[])\/∃a cap,v=.slice (some a) l.length cap/\l.length<=maxLen/\∀i x,l[i]?=some x->∃g off,a=⟨g,off,none⟩/\w.cell? ⟨g,off+i,none⟩=some (.int .i64 x)
theorem InAt.slice{v:Value}{l:List Int}{w:World}(h:InAt v l w):∃ao cap,v=.slice ao l.length cap:=by
 rcases h with ⟨h1,h2⟩|⟨a,cap,h1,_⟩
 ·exact⟨none,0,by rw[h2];exact h1⟩
 ·exact⟨_,_,h1⟩
theorem InAt.le(h:InAt v l w):l.length<=maxLen:=by
 rcases h with ⟨_,h2⟩|⟨a,cap,_,h2,_⟩
 ·rw[h2];exact AG _
 ·exact h2
theorem InAt.kept{row:Option Nat}(h:InAt v l w)(hg:w.grownBy w' row)(hne:∀g,v.ownBlock=some g->row≠some g):InAt v l w':=by
 rcases h with h1|⟨a,cap,h1,h2,h3⟩
 ·exact .inl h1
 ·refine .inr ⟨a,cap,h1,h2,fun i x hx=>?_⟩
  obtain⟨g,off,e1,e2⟩:=h3 i x hx;refine⟨g,off,e1,hg.cell e2 (fun e=>?_)⟩;refine hne g ?_ e.symm;rw[h1,e1];rfl
theorem InAt.gr(h:InAt v l w)(hg:w.grownBy w' none):InAt v l w':=h.kept hg (by simp)
theorem InAt.cell{ao:Option Addr}{n cap:Nat}{l:List Int}{w:World}(h:InAt (.slice ao n cap) l w){i:Nat}{x:Int}(hx:l[i]?=some x):∃g off,ao=some ⟨g,off,none⟩/\w.cell? ⟨g,off+i,none⟩=some (.int .i64 x):=by
 rcases h with ⟨_,h2⟩|⟨a,cap',h1,h2,h3⟩
 ·rw[h2] at hx;simp at hx
 ·simp only[AH] at h1
  obtain⟨g,off,e1,e2⟩:=h3 i x hx;exact⟨g,off,by rw[h1.1,e1],e2⟩
theorem RowAt.inAt(h:IsAt base v l w):InAt v l w:=by
 rcases h.2.2 with ⟨h1,h2⟩|⟨g,cap,cur,h1,_,_,h3,h4,_⟩
 ·exact .inl ⟨h1,CM.1 h2⟩
 ·refine .inr ⟨_,cap,h1,AU h3 h4,fun i x hx=>⟨g,0,rfl,?_⟩⟩
  obtain⟨g',cap',e1,e2⟩:=h.cells hx;rw[h1] at e1;simp only[AH,AE,Addr.mk.injEq,BX,BP] at e1;obtain⟨rfl,_⟩:=e1;have:=e2 0 (by omega);simpa[C1] using this
theorem Gv(hgd:o.guard=none)(s x:Operand)(t:TypeId)
 (ho:o.op=.call { callee:=.builtin .append,args:=#[s,x],argTypes:=#[t,t] })
 (ht:P.underlying t=some (.slice 3))(aq:(P.info? 3).map (fun i=>(i.zero,i.size,i.bytes))=some (some z,1,bytes))(hzs:z.cells.size=1)
 {l2:List Int}(hs:a.eval s=v)(hown:IsAt base v l w)(hx:a.eval x=u)(aG:InAt u l2 w)
 (h63:l.length+l2.length<=maxLen)(hbytes:(l.length+l2.length)*bytes<=140737488355328)(hbase:base<=w.heap.size)
 (h:∀v' w',IsAt base v' (l++l2) w'->w.grownBy w' v.ownBlock->wpList P ops Q rest (a.put o.dst v') w'):wpList P ops Q (o::rest) a w:=by
 obtain⟨i,hi,hz,hsize,hby⟩:=info_parts aq;rcases aG with ⟨rfl,rfl⟩|⟨ad,cap,rfl,h2,h3⟩
 ·refine wpList_append_own_none hgd s x t ho base 3 i 1 ht hi v l.length (l.flatMap C1) hs hown.2 hx ?_
  refine h v w ?_ ?_
  ·rw[BM];exact hown
  ·exact AD _ _
 ·have iK:∀k:List Int,(k.flatMap C1).length=k.length*1:=by
   intro k
   induction k with
   | nil=>rfl
   | cons b k ih=>rw[BI,AK,ih,AP];simp[C1];omega
  refine DG w hgd s x t ho base 3 i z 1 bytes ht hi hz hsize hby hzs (by decide) v l.length (l.flatMap C1) hs hown.2 ad l2.length cap (l2.flatMap C1) hx (iK l2) ?_ ?_ h63 hbytes hbase ?_
  ·intro j y hj
   have iQ:j<l2.length:=by
    have:=(AL.1 hj).1;rw[iK l2] at this;omega
   have hg:=Ru C1 1 At l2 j l2[j] (AB iQ) 0 (by omega);rw[show j*1+0=j from by omega,hj] at hg;have hy:y=.int .i64 l2[j]:=by simpa[C1] using hg
   obtain⟨g,off,e1,e2⟩:=h3 j l2[j] (AB iQ)
   have hadd:ad.add j=⟨g,off+j,none⟩:=by
    rw[e1];unfold Addr.add;by_cases hj0:j=0
    ·simp[hj0]
    ·simp[hj0]
   rw[hadd,e2,hy]
  ·intro c hc
   obtain⟨y,_,hy⟩:=CT.1 hc;exact B7 y c hy
  ·intro v' w' k1 k2 _
   refine h v' w' ⟨hown.1,?_⟩ k2;rw[AK,CO];exact k1
theorem A0{l:List α}{a:α}(h:l[k]?=some a):l.drop k=a::l.drop (k+1):=by
 obtain⟨h1,h2⟩:=AL.1 h;rw[CP h1,h2]
theorem Q2r(v:Value)(b:Sv.Bs)(n:UInt8)(w:World)(base:Nat)(hb:BsAt base v b w)(hl:b.length<=1000) :
  Calls Tryz.prog 152 #[v,.int .u8 n.toNat] w fun e w'=>e=.returned (.tuple #[.int .i64 ((Bc b n).getD 0),.bool (Bc b n).isSome])/\w.grownBy w' none:=by
 obtain⟨ao,cap,rfl⟩:=hb.slice;obtain⟨r,hr⟩:∃r,Bc b n=r:=⟨_,rfl⟩
 have HR:=Ac hr;rw[hr];clear hr;go_enter Tryz.func152,Tryz.ntmps152;go_wp2;go_loopw [6] (fun x w'=>∃k:Nat,k<=b.length/\x=.int .i64 k/\Bc (b.drop k) n=r/\w.grownBy w' none) (fun x _=>b.length-(intOf x).toNat)
 case atStart=>exact⟨0,AG _,rfl,Aa HR,AD _ _⟩
 case round=>
  clear HR;obtain⟨k,hk,rfl,hr,hg⟩:=hrel;by_cases hlt:k<b.length
  ·have hd:decide (k<b.length)=true:=by simpa using hlt
   obtain⟨p,hp⟩:∃p,b[k]?=some p:=⟨b[k],AB hlt⟩
   rw[A0 hp] at hr;obtain⟨g,cap',hv,hc⟩:=(hb.gr hg).cells hp;simp only[AH,BP] at hv;obtain⟨rfl,rfl⟩:=hv;have c0:wr.cell? ⟨g,k*2,none⟩=some (.int .u8 p.1.toNat):=hc 0 (by omega);have c1:wr.cell? ⟨g,k*2+1,none⟩=some (.int .i64 p.2):=hc 1 (by omega);unfold Bc at hr;have HR:=Ac hr;clear hr hc hp;by_cases he:p.1=n
   ·have hr:=Aa HR
    rw[AQ he] at hr;subst hr;clear HR;have bZ:((p.1.toNat:Int)==(n.toNat:Int))=true:=by simp[he]
    go_wp2
    go_ret2
    exact⟨rfl,hg⟩
   ·have hr:=Aa HR
    rw[AO he] at hr;have cD:=Ac hr;clear hr HR
    have bZ:((p.1.toNat:Int)==(n.toNat:Int))=false:=by
     simp only[beq_eq_false_iff_ne,ne_eq];intro h;exact he (JB.1 (by omega))
    go_wp2;go_roundw
    case rel=>exact⟨k+1,by omega,by go_num,Aa cD,hg⟩
    case measure=>simp[intOf];omega
  ·have hd:decide (k<b.length)=false:=by simpa using hlt
   have e:b.drop k=[]:=BD (by omega);rw[e] at hr;have hr2:none=r:=hr;subst hr2;go_wp2
   go_ret2
   exact⟨rfl,hg⟩
end Go.Proofs.YtolhbeekfjnfmaaGreatDoor

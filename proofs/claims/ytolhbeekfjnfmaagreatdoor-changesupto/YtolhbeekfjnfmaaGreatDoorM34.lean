import Derived.Maps.AppendAt
import Derived.Test.YtolhbeekfjnfmaaGreatDoorM32
set_option maxHeartbeats 8000000
set_option maxRecDepth 100000
namespace Go.Proofs.YtolhbeekfjnfmaaGreatDoor
open Go.RowKit
attribute [local go_sem] Oper.semAt_some
variable {α:Type}
def mrow(x:Mv):List Value:=[.int .i64 x.ru,x.sl]
theorem R7(x:Mv):(mrow x).length=2:=rfl
theorem Tryz.infoMatch2:(Tryz.prog.info? 52).map (fun i=>(i.zero,i.size,i.bytes))=some (some (.agg #[.int .i64 0,.slice none 0 0]),2,32):=by kernel_rfl
structure ColI(w:World)(Z:Nat->Prop)(s:List Mv)(W:World):Prop where
 gr:w.grownBy W none
 box:∃v,W.heap[w.heap.size]?=some (.cells #[v] 43 (0,0))/\RowAt 52 2 mrow 0 v s W/\(∀g,v.ownBlock=some g->¬ Z g/\w.heap.size<g)
 nz:¬ Z w.heap.size
 zs:∀i,Z i->i<W.heap.size
theorem ColI.bears(w:World):Bears w.heap.size (ColI w):=by
 intro Z Z' s A B row h hg hr _ hz;obtain⟨v,h1,h2,h3⟩:=h.box
 have hne:∀(i:Nat) (cs:Array Value) (ty:TypeId) (fz:Nat×Nat),A.heap[i]?=some (Obj.cells cs ty fz)->row≠some i:=by
  intro i cs ty fz hi e;obtain⟨_,o,ho,hc⟩:=hr i e;rw[hi] at ho;cases ho
  cases hc
 have hsz:=h.gr.size;refine⟨?_,⟨v,?_,?_,fun g bE=>⟨fun hz'=>?_,(h3 g bE).2⟩⟩,fun hz'=>?_,fun i hi=>?_⟩
 ·exact⟨hg.os.trans h.gr.os,hg.tape.trans h.gr.tape,hg.output.trans h.gr.output,AU hsz hg.size,fun i hi _=>(hg.block i (by omega) (fun e=>by have:=(hr i e.symm).1;omega)).trans (h.gr.block i hi (by simp))⟩
 ·rw[hg.block _ (Ad h1) (fun e=>hne _ _ _ _ h1 e.symm)];exact h1
 ·refine⟨h2.1,h2.2.1,?_⟩
  rcases h2.2.2 with ⟨k1,k2⟩|⟨g,cap,cur,k1,k2,k3,k4⟩
  ·exact .inl ⟨k1,k2⟩
  ·refine .inr ⟨g,cap,cur,k1,k2,?_,k4⟩
   rw[hg.block g (Ad k3) (fun e=>hne _ _ _ _ k3 e.symm)];exact k3
 ·rcases hz g hz' with e|e
  ·exact(h3 g bE).1 e
  ·have:=(h2.own g bE).2;omega
 ·rcases hz _ hz' with e|e
  ·exact h.nz e
  ·have:=Ad h1;omega
 ·rcases hz i hi with e|e
  ·exact AZ (h.zs i e) hg.size
  ·exact e.2
theorem Bears.mono{m m':Nat}{J:(Nat->Prop)->List α->World->Prop}(h:Bears m J)(hm:m<=m'):Bears m' J:=fun Z Z' s A B row hs hg hr PG hz=>h Z Z' s A B row hs hg (fun r e=>⟨AU hm (hr r e).1,(hr r e).2⟩) PG hz
theorem Lx{F:Fence}{n:Nat}{P:Program}{w:World}{ops:Array Oper}{rest:List Oper}{o:Oper}{a:Act}{Q:Exit->Act->World->Prop}(hgd:o.guard=none)(s x:Operand)(t:TypeId)
 (ho:o.op=.call { callee:=.builtin .append,args:=#[s,x],argTypes:=#[t,t] }){e:TypeId}{enc:α->List Value}{z:Value}{size bytes:Nat}
 (ht:P.underlying t=some (.slice e))(aq:(P.info? e).map (fun i=>(i.zero,i.size,i.bytes))=some (some z,size,bytes))(hzs:z.cells.size=size)(hsz:0<size)
 {base fB:Nat}{v u:Value}{l l2:List α}(hs:a.eval s=v)(hown:RowAt e size enc base v l w)(hx:a.eval x=u)(aG:RowAt e size enc fB u l2 w)(jz:0<l2.length)
 (h1:∀y∈l2,∀c∈enc y,c.oneCell'=true)(h63:l.length+l2.length<=maxLen)(hbytes:(l.length+l2.length)*bytes<=140737488355328)
 (h:∀v' w',RowAt e size enc 0 v' (l++l2) w'->Longer v v' l.length l2.length w w'->wpListIn F n P ops Q rest (a.put o.dst v') w'):wpListIn F n P ops Q (o::rest) a w:=by
 obtain⟨v',w',hr,h2,h3⟩:=Qo w t o.type ht aq hzs hsz hown aG jz h1 h63 hbytes;refine wpListIn_plain hgd fun K hK=>?_
 unfold Oper.wpIn;refine⟨by simp[Oper.about,ho,resolve,Target.leads,Sem.run_pure],?_⟩;rw[Oper.semAt_plain F _ _ (by rw[ho];intro c hc;cases hc)];simp[execOp,ho,resolve,invoke,builtin,hs,hx,hr,Result.andThen];exact hK _ _ (h v' w' h2 h3)
theorem Yq(f:Nat)(caught:Array Value)(L Zb:Nat->Prop)(St:World->Prop)(S Sp:(Nat->Prop)->List Mv->World->Prop)(N:Nat)(w:World)(hN:N<=1000000000)(nC:∀n,Hf Fence.wide n Tryz.prog f caught To L Zb St S Sp N)(jL:∀args w,(callFunc f args).run Tryz.prog w=.ok (.enter f args) w)
 (jC:∀B,w.grownBy B none->St B)(LY:∀Z,OwnFrom w.heap.size (S Z))(sG:∀Z,OwnFrom w.heap.size (Sp Z))(UU:∀i,Zb i->i<w.heap.size)(hLb:∀i,L i->i<w.heap.size) :
  Calls Tryz.prog 104 #[.slice none 0 0,.func (.func f) #[] caught] w fun e w'=>∃v Z s,e=.returned v/\S Z s w'/\w.grownBy w' none/\RowAt 52 2 mrow 0 v s w'/\∀g,v.ownBlock=some g->w.heap.size<g:=by
 refine(callsIn_wide (n:=5)).1 ?_;refine callsIn_of_wp_marks Tryz.func104 rfl trivial ?_ rfl;simp only[Tryz.ntmps104,FO,AP,CE,Nat.reduceAdd,Nat.reduceSub,EW,EX,FN,FE,CW,CN];gi_wp2;have vY:=AA w (.cells #[.slice none 0 0] 43) none;have hx0:=AR w (.cells #[.slice none 0 0] 43);have SB:(w.alloc (.cells #[.slice none 0 0] 43)).heap.size=w.heap.size+1:=by simp
 generalize w.alloc (.cells #[.slice none 0 0] 43)=w0 at vY hx0 SB⊢
 refine Sf rfl (by omega) (f:=f) (caught:=caught) rfl trivial jL (nC _) (fun _=>rfl) (fun B hB=>jC B (Ab vY hB))
  (fun Z s W W' row hs hg hr=>LY Z s W W' row hs hg (fun r e=>⟨by have:=(hr r e).1;omega,(hr r e).2⟩)) (fun Z s W W' row hs hg hr=>sG Z s W W' row hs hg (fun r e=>⟨by have:=(hr r e).1;omega,(hr r e).2⟩))
  (ColI w) (fun _ _ _ _=>False) ((ColI.bears w).mono (by omega)).z (fun _ _ _ _ _ _ _ h _ _ _ _=>h) Zb (fun _ h=>h) ?h0
  (fun x b W=>∃Bx,W.heap[Bx]?=some (.cells #[.int .i64 x.ru,.slice x.ao x.jn x.cap] 52 (0,0))/\b={ tmps:=#[.slice none 0 0,.func (.func f) #[] caught,.pointer (some ⟨w.heap.size,0,none⟩),undef,.slice none 0 0,.pointer (some ⟨Bx,0,none⟩),.func (.func f) #[] caught,.agg #[.int .i64 x.ru,.slice x.ao x.jn x.cap],undef,undef,undef,undef,undef],defers:=[] }) ?VX ?assign ?body ?done ?left
 case h0=>
  exact⟨vY,⟨_,hx0,RowAt.nil 0 _ R7,by simp[Value.ownBlock]⟩,fun h=>by have:=UU _ h;omega,fun i hi=>by have:=UU i hi;omega⟩
 case VX=>
  rintro x b _ A B row⟨Bx,h1,h2⟩ hg hr;refine⟨Bx,?_,h2⟩;rw[hg.block Bx (Ad h1) (fun e=>?_)]
  ·exact h1
  ·obtain⟨_,o,ho,hc⟩:=hr Bx e.symm
   rw[h1] at ho;cases ho
   cases hc
 case assign=>
  rintro l Z s x W K hi hK;have dO:=AA W (.cells #[.int .i64 x.ru,.slice x.ao x.jn x.cap] 52) none;have hk:=hK _ _ ((KeepsOthers.alloc W (.cells #[.int .i64 x.ru,.slice x.ao x.jn x.cap] 52)).from _) (Kept.gr dO) (ColI.bears w Z Z s _ _ none hi dO (by simp) (fun i h=>h) (fun i h=>.inl h)) ⟨W.heap.size,AR _ _,rfl⟩;unfold To;clear hK;gi_wp2;exact hk
 case body=>
  rintro l Z s x b W hl hr hI⟨Bx,oh,rfl⟩ hlen;obtain⟨v,hb1,hb2,hb3⟩:=hI.box;obtain⟨ao,cap,rfl⟩:=hb2.slice;have y0:W.cell? ⟨w.heap.size,0,none⟩=some (.slice ao s.length cap):=by simp[World.cell?,hb1]
  have x0:W.cell? ⟨Bx,0,none⟩=some (.int .i64 x.ru):=by simp[World.cell?,oh]
  have x1:W.cell? ⟨Bx,1,none⟩=some (.slice x.ao x.jn x.cap):=by simp[World.cell?,oh]
  have aj:=AA W (.cells #[.int .i64 x.ru,.slice x.ao x.jn x.cap] 52) none;have hr2:=hb2.gr aj;have aG:RowAt 52 2 mrow 0 (.slice (some ⟨W.heap.size,0,none⟩) 1 1) [x] (W.alloc (.cells #[.int .i64 x.ru,.slice x.ao x.jn x.cap] 52)):=(RowAt.lit1 (e:=52) R7 W x #[.int .i64 x.ru,.slice x.ao x.jn x.cap] rfl).weak (AG _);have hwW:=hI.gr.size
  have hend:∀v5 w5 n m,RowAt 52 2 mrow 0 v5 (s++[x]) w5->Longer (.slice ao s.length cap) v5 n m (W.alloc (.cells #[.int .i64 x.ru,.slice x.ao x.jn x.cap] 52)) w5->(w5.cell? ⟨w.heap.size,0,none⟩=some (.slice ao s.length cap)/\w5.frozen? ⟨w.heap.size,0,none⟩=false)/\Hid (KeepsFrom w0.heap.size W (w5.setCell ⟨w.heap.size,0,none⟩ v5)/\Kept Z L W (w5.setCell ⟨w.heap.size,0,none⟩ v5)/\ColI w Z (s++[x]) (w5.setCell ⟨w.heap.size,0,none⟩ v5)):=by
   intro v5 w5 n m ax aP;have hne:(Value.slice ao s.length cap).ownBlock≠some w.heap.size:=fun e=>by have:=(hb3 _ e).2;omega
   have hb5:w5.heap[w.heap.size]?=some (.cells #[.slice ao s.length cap] 43 (0,0)):=aP.block (by rw[aj.block _ (Ad hb1) (by simp)];exact hb1) hne;have aV:=Aj w5 w.heap.size 0 v5;have hG:GrS (fun i=>i=w.heap.size\/(Value.slice ao s.length cap).ownBlock=some i) W (w5.setCell ⟨w.heap.size,0,none⟩ v5):=(((GrS.of aj (by simp):GrS (fun i=>i=w.heap.size\/(Value.slice ao s.length cap).ownBlock=some i) W _)).trans (aP.gr (fun g hg=>.inr hg))).then aV (fun g hg=>by simp at hg;exact .inr (.inl hg.symm))
   have hs5:=hG.size
   have hown:∀g,v5.ownBlock=some g->¬ Z g/\w.heap.size<g:=by
    intro g hg;rcases aP.own g hg with e|e
    ·exact hb3 g e
    ·have e2:=AU aj.size e
     have:=Ad hb1;exact⟨fun hz=>by have:=hI.zs g hz;omega,by omega⟩
   refine⟨⟨by simp[World.cell?,hb5],by simp[World.frozen?,hb5]⟩,Ac ⟨⟨hs5,fun k o hk ho hc=>?_⟩,⟨hs5,fun i cs ty fz hz hi=>?_,fun i k u hLi _ hc=>?_⟩,⟨?_,⟨v5,?_,?_,hown⟩,hI.nz,fun i hi=>AZ (hI.zs i hi) hs5⟩⟩⟩
   ·refine hG.blk ho ?_
    rintro(e|e)
    ·omega
    ·obtain⟨cs,ty,hcs⟩:=hb2.blockCells e
     rw[hcs] at ho;cases ho
     cases hc
   ·refine hG.blk hi ?_
    rintro(e|e)
    ·rw[e] at hz;exact hI.nz hz
    ·exact(hb3 i e).1 hz
   ·have hi:=hLb i hLi
    refine hG.cellK hc (CD W _ hc) ?_;rintro(e|e)
    ·have e':i=w.heap.size:=e
     omega
    ·have:=(hb3 i e).2;omega
   ·refine GrS.grown (S:=fun i=>w.heap.size<=i) ((GrS.of hI.gr (by simp):GrS (fun i=>w.heap.size<=i) w W).comp hG (fun i hi hn hx=>hn ?_)) (fun i hi h=>by omega)
    rcases hx with e|e
    ·show w.heap.size<=i;omega
    ·have:=(hb3 i e).2;show w.heap.size<=i;omega
   ·rw[BB w5 w.heap.size 0 _ _ _ hb5];rfl
   ·exact ax.other aV (fun g hg e=>by have:=(hown g hg).2;simp at e;omega)
  have bD:=Ac hend;clear hend hb1 hb2 hb3 hI oh nC jL jC LY sG UU hLb hr
  gi_wp2_with (gi_at_builtin;refine Lx rfl _ _ 43 rfl Tryz.underlying43 Tryz.infoMatch2 rfl (by decide) rfl hr2 rfl aG (by simp) (fun y hy=>by simp only[AX] at hy;subst hy;intro c hc;simp[mrow,Mv.sl] at hc;rcases hc with rfl|rfl<;>rfl) (by unfold maxLen;simp;omega) (by simp;omega) ?_)
  intro v5 w5 ax aP;obtain⟨⟨q1,q2⟩,HF⟩:=Aa bD v5 w5 _ _ ax aP;obtain⟨g5,aI,rfl⟩:=aP.form;clear ax aP hr2 aG bD;gi_wp2;exact Aa HF
 case done=>
  rintro Z s W hS hI _ hD;obtain⟨v,hb1,hb2,hb3⟩:=hI.box;obtain⟨ao,cap,rfl⟩:=hb2.slice;have y0:W.cell? ⟨w.heap.size,0,none⟩=some (.slice ao s.length cap):=by simp[World.cell?,hb1]
  gi_wp2;refine⟨by simp,.inl ⟨_,_,rfl,run_takeDeferred hD,?_⟩⟩;have hB:=ColI.bears w Z Z s W (W.putObj w0.heap.size (.deferred none)) (some w0.heap.size) hI (KF W _ _) (fun r e=>by cases e;exact⟨by omega,_,hD,rfl⟩) (fun i h=>h) (fun i h=>.inl h);have je:=(LY Z).putObj (.deferred none) hS (by omega) hD rfl;obtain⟨v2,hc1,hc2,hc3⟩:=hB.box
  have hv2:v2=.slice ao s.length cap:=by
   have h3:(W.putObj w0.heap.size (.deferred none)).heap[w.heap.size]?=W.heap[w.heap.size]?:=ED (by omega);rw[h3,hb1] at hc1;simpa using hc1.symm
  subst hv2;exact⟨.slice ao s.length cap,results_tmp (t:=4) rfl _ _ _,.slice ao s.length cap,Z,s,rfl,je,hB.gr,hc2,fun g hg=>(hc3 g hg).2⟩
 case left=>
  rintro c Z s W _ h _ _;exact h.elim
end Go.Proofs.YtolhbeekfjnfmaaGreatDoor

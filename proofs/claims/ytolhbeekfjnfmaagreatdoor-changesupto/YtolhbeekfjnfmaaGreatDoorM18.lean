import Derived.Deep.RegionWith
import Derived.Deep.RegionHeld3
import Derived.Test.YtolhbeekfjnfmaaGreatDoorM16
import Derived.Test.YtolhbeekfjnfmaaGreatDoorM17
set_option maxHeartbeats 8000000
set_option maxRecDepth 100000
namespace Go.Proofs.YtolhbeekfjnfmaaGreatDoor
open Go.RowKit
variable {g b:Nat}{a0 a1 a2 a3:Int}{w:World}{t:Tok}{o x:Obj}
theorem Oz(w:World)(n g:Nat)(d:Array Int):w.grownBy (Sort.putRow (Value.int .i64) (Sort.ahead w n) g 0 d) (some g):=by
 refine⟨rfl,rfl,rfl,by simp,?_⟩;intro k hk hne;have:g≠k:=fun e=>hne (by rw[e])
 simp[Sort.putRow,Sort.mapBlock,Array.getElem?_modify,this]
theorem Nj(w:World)(os:Array Obj):w.grownBy (Sort.grow w os) none:=by
 refine⟨rfl,rfl,rfl,by simp[Sort.grow],?_⟩;intro k hk _;simp[Sort.grow,Array.getElem?_append_left hk]
theorem A4.put{r0 r1 r2 r3:Int}(h:A4 g a0 a1 a2 a3 w)(n:Nat):A4 g r0 r1 r2 r3 (Sort.putRow (Value.int .i64) (Sort.ahead w n) g 0 [r0,r1,r2,r3].toArray):=by
 unfold A4 at h⊢;simp[Sort.putRow,Sort.mapBlock,Array.getElem?_modify,h,Sort.onCells,Sort.putCells]
theorem A4.holds(h:A4 g a0 a1 a2 a3 w):Sort.Holds (Value.int .i64) w g 0 [a0,a1,a2,a3].toArray:=by
 obtain⟨c0,c1,c2,c3,cz⟩:=h.c;intro j hj;have:j=0\/j=1\/j=2\/j=3:=by simp at hj;omega
 rcases this with rfl|rfl|rfl|rfl
 ·exact⟨c0,cz _⟩
 ·exact⟨c1,cz _⟩
 ·exact⟨c2,cz _⟩
 ·exact⟨c3,cz _⟩
theorem A4.inAt(h:A4 g a0 a1 a2 a3 w):InAt (.slice (some ⟨g,0,none⟩) 4 4) [a0,a1,a2,a3] w:=by
 obtain⟨c0,c1,c2,c3,_⟩:=h.c;refine .inr ⟨_,4,rfl,by unfold maxLen;simp,fun i x hx=>⟨g,0,rfl,?_⟩⟩;have hi:=(AL.1 hx).1;have:i=0\/i=1\/i=2\/i=3:=by simp at hi;omega
 rcases this with rfl|rfl|rfl|rfl
 ·simp at hx;subst hx;exact c0
 ·simp at hx;subst hx;exact c1
 ·simp at hx;subst hx;exact c2
 ·simp at hx;subst hx;exact c3
theorem L7(g:Nat)(a0 a1 a2 a3:Int)(w:World)(h:A4 g a0 a1 a2 a3 w) :
  Calls Tryz.prog 110 #[.slice (some ⟨g,0,none⟩) 4 4] w fun e w'=>e=.returned (.tuple #[])/\w.grownBy w' (some g)/\∃r0 r1 r2 r3,(Pb [a0,a1,a2,a3]).reverse=[r0,r1,r2,r3]/\A4 g r0 r1 r2 r3 w':=by
 have hS:=Tryz.slices_Sort_int g 0 4 [a0,a1,a2,a3] w h.holds (Ad h) (by simp);obtain⟨b0,b1,b2,b3,hb⟩:=Ni (l:=Pb [a0,a1,a2,a3]) (by unfold Pb;rw[List.length_mergeSort];rfl);have hb':[a0,a1,a2,a3].mergeSort (fun x y=>decide (x<=y))=[b0,b1,b2,b3]:=hb;rw[hb'] at hS;rw[hb];have HH:=Ac h;clear h hb hb';simp only[AP,CE,BV,Nat.reduceAdd] at hS;go_enter Tryz.func110,Tryz.ntmps110;go_wp2_with fail;refine hS.mono ?_;rintro e w1⟨rfl,n,os,rfl⟩;obtain⟨W1,hW1⟩:∃W1,Sort.grow (Sort.putRow (Value.int .i64) (Sort.ahead w n) g 0 [b0,b1,b2,b3].toArray) os=W1:=⟨_,rfl⟩
 have fY:A4 g b0 b1 b2 b3 W1:=by rw[<-hW1];exact((Aa HH).put n).gr (Nj _ os) (by simp)
 have hg1:w.grownBy W1 (some g):=by rw[<-hW1];exact Ab (Oz w n g _) (A6 (Nj _ os) (some g))
 rw[hW1];clear hW1 hS HH;have hR:=Tryz.slices_Reverse_int g 0 4 [b0,b1,b2,b3] W1 fY.holds (by simp);simp only[AP,CE,BV,Nat.reduceAdd] at hR;go_wp2_with fail;refine hR.mono ?_;rintro e w2⟨rfl,m,rfl⟩;obtain⟨W2,hW2⟩:∃W2,Sort.putRow (Value.int .i64) (Sort.ahead W1 m) g 0 [b0,b1,b2,b3].reverse.toArray=W2:=⟨_,rfl⟩
 have gz:A4 g b3 b2 b1 b0 W2:=by rw[<-hW2];exact fY.put m
 have hg2:w.grownBy W2 (some g):=by rw[<-hW2];exact Ab hg1 (Oz W1 m g _)
 rw[hW2];clear hW2 hR fY hg1;go_wp2;go_end0
 exact⟨rfl,hg2,b3,b2,b1,b0,rfl,gz⟩
def Q4m(w0:World)(x y:Value)(t u:Tok)(wx:World):Prop:=
 ∃g1 g2 a0 a1 a2 a3 b0 b1 b2 b3,x=.pointer (some ⟨g1,0,none⟩)/\y=.pointer (some ⟨g2,0,none⟩)/\t.nums=[a0,a1,a2,a3]/\u.nums=[b0,b1,b2,b3]/\A4 g1 a0 a1 a2 a3 wx/\A4 g2 b0 b1 b2 b3 wx/\g1≠g2/\w0.heap.size<=g1/\w0.heap.size<=g2/\w0.grownBy wx none
def pid(w:World)(p:Option Addr):Int:=
 match p with
 | none=>0
 | some a=>match w.cell? ⟨a.block,2,none⟩ with
  | some (.int _ i)=>i
  | _=>0
theorem TC.pid{U:Nat->Nat}{p:Option Addr}{i:Int}{w:World}(h:TC U p i w):pid w p=i:=by
 rcases h with ⟨rfl,rfl⟩|⟨g,rfl,rfl,_,_,v,fb,_⟩
 ·rfl
 ·have:w.cell? ⟨g.blk,2,none⟩=some (.int .i64 g.id):=by simp[World.cell?,fb]
  simp[Go.Proofs.YtolhbeekfjnfmaaGreatDoor.pid,this]
theorem Ef{U:Nat->Nat}(h4:t.length<=4)(hf:∀g∈t,FtAt U g w):∃p0 p1 p2 p3,A5 t=[.pointer p0,.pointer p1,.pointer p2,.pointer p3]/\t.nums=[pid w p0,pid w p1,pid w p2,pid w p3]/\TC U p0 (pid w p0) w/\TC U p1 (pid w p1) w/\TC U p2 (pid w p2) w/\TC U p3 (pid w p3) w:=by
 obtain⟨p0,p1,p2,p3,i0,i1,i2,i3,hp,hi,h0,h1,h2,h3⟩:=Xw h4 hf;refine⟨p0,p1,p2,p3,hp,?_,?_,?_,?_,?_⟩
 ·rw[hi,h0.pid,h1.pid,h2.pid,h3.pid]
 ·rw[h0.pid];exact h0
 ·rw[h1.pid];exact h1
 ·rw[h2.pid];exact h2
 ·rw[h3.pid];exact h3
theorem Fc(w wx:World)(p0 p1 p2 p3 q0 q1 q2 q3:Option Addr)(hg:((w.alloc (.cells #[.pointer p0,.pointer p1,.pointer p2,.pointer p3] 139)).alloc (.cells #[.pointer q0,.pointer q1,.pointer q2,.pointer q3] 139)).grownBy wx none) :
  wx.cell? ⟨w.heap.size,0,none⟩=some (.pointer p0)/\wx.cell? ⟨w.heap.size,1,none⟩=some (.pointer p1)/\wx.cell? ⟨w.heap.size,2,none⟩=some (.pointer p2)/\wx.cell? ⟨w.heap.size,3,none⟩=some (.pointer p3)/\
  wx.cell? ⟨w.heap.size+1,0,none⟩=some (.pointer q0)/\wx.cell? ⟨w.heap.size+1,1,none⟩=some (.pointer q1)/\wx.cell? ⟨w.heap.size+1,2,none⟩=some (.pointer q2)/\wx.cell? ⟨w.heap.size+1,3,none⟩=some (.pointer q3):=by
 have b1:((w.alloc (.cells #[.pointer p0,.pointer p1,.pointer p2,.pointer p3] 139)).alloc (.cells #[.pointer q0,.pointer q1,.pointer q2,.pointer q3] 139)).heap[w.heap.size]?=some (.cells #[.pointer p0,.pointer p1,.pointer p2,.pointer p3] 139 (0,0)):=by
  rw[CY _ _ _ (by simp)];exact AR _ _
 have b2:((w.alloc (.cells #[.pointer p0,.pointer p1,.pointer p2,.pointer p3] 139)).alloc (.cells #[.pointer q0,.pointer q1,.pointer q2,.pointer q3] 139)).heap[w.heap.size+1]?=some (.cells #[.pointer q0,.pointer q1,.pointer q2,.pointer q3] 139 (0,0)):=by
  have:=AR (w.alloc (.cells #[.pointer p0,.pointer p1,.pointer p2,.pointer p3] 139)) (.cells #[.pointer q0,.pointer q1,.pointer q2,.pointer q3] 139);simpa using this
 rw[<-hg.block _ (Ad b1) (by simp)] at b1;rw[<-hg.block _ (Ad b2) (by simp)] at b2;simp[World.cell?,b1,b2]
theorem A4.al(h:A4 b a0 a1 a2 a3 w):A4 b a0 a1 a2 a3 (w.alloc o):=h.gr (AA w o none) (by simp)
theorem A4.dr(h:A4 b a0 a1 a2 a3 w):A4 b a0 a1 a2 a3 w.drew:=h
theorem A4.nw(h:b=w.heap.size):A4 b a0 a1 a2 a3 (w.alloc (.cells #[.int .i64 a0,.int .i64 a1,.int .i64 a2,.int .i64 a3] 39)):=by
 subst h;exact AR _ _
theorem E1{a:World}{r:Option Nat}(h:w.grownBy a r)(o:Obj):w.grownBy (a.alloc o) r:=Ab h (AA a o r)
theorem Q0v(U:Nat->Nat)(t u:Tok)(w:World)(dR:t.length<=4)(nh:u.length<=4)(ht:∀g∈t,FtAt U g w)(hu:∀g∈u,FtAt U g w) :
  Calls Tryz.prog 73 #[Bt t,Bt u] w fun e w'=>e=.returned (.int .i64 (cmpL t.age u.age))/\w.grownBy w' none:=by
 obtain⟨p0,p1,p2,p3,hp,hi,b7,eH,jE,l6⟩:=Ef dR ht;obtain⟨q0,q1,q2,q3,hq,hj,vN,o8,dE,vM⟩:=Ef nh hu;have eT:Bt t=.agg #[.pointer p0,.pointer p1,.pointer p2,.pointer p3]:=by unfold Bt;rw[hp]
 have eU:Bt u=.agg #[.pointer q0,.pointer q1,.pointer q2,.pointer q3]:=by unfold Bt;rw[hq]
 rw[eT,eU];have a7:=Dm w (.cells #[.pointer p0,.pointer p1,.pointer p2,.pointer p3] 139) (.cells #[.pointer q0,.pointer q1,.pointer q2,.pointer q3] 139)
 have hN:∀wx r0 r1 r2 r3,w.grownBy wx none->TC U r0 (pid w r0) w->TC U r1 (pid w r1) w->TC U r2 (pid w r2) w->TC U r3 (pid w r3) w->Calls Tryz.prog 109 #[.agg #[.pointer r0,.pointer r1,.pointer r2,.pointer r3]] wx fun e w'=>e=.returned (.agg #[.int .i64 (pid w r0),.int .i64 (pid w r1),.int .i64 (pid w r2),.int .i64 (pid w r3)])/\w'=((wx.alloc (.cells #[.pointer r0,.pointer r1,.pointer r2,.pointer r3] 139)).alloc (.cells #[.int .i64 (pid w r0),.int .i64 (pid w r1),.int .i64 (pid w r2),.int .i64 (pid w r3)] 39)).alloc (.cells #[.int .i64 (pid w r0),.int .i64 (pid w r1),.int .i64 (pid w r2),.int .i64 (pid w r3)] 39):=
  fun wx r0 r1 r2 r3 hg h0 h1 h2 h3=>Hv U r0 r1 r2 r3 _ _ _ _ wx (h0.gr hg) (h1.gr hg) (h2.gr hg) (h3.gr hg)
 have HI:=Ac hi;have HJ:=Ac hj;clear hp hq eT eU hi hj ht hu;go_enter Tryz.func73,Tryz.ntmps73;go_wp2_with fail
 go_cut [5,6] (fun x y wx=>Q4m w x y t u wx)
 case first=>
  go_region_held3 (fun w'=>w'.cell? ⟨w.heap.size,0,none⟩=some (.pointer p0)/\w'.cell? ⟨w.heap.size,1,none⟩=some (.pointer p1)/\w'.cell? ⟨w.heap.size,2,none⟩=some (.pointer p2)/\w'.cell? ⟨w.heap.size,3,none⟩=some (.pointer p3)/\w'.cell? ⟨w.heap.size+1,0,none⟩=some (.pointer q0)/\w'.cell? ⟨w.heap.size+1,1,none⟩=some (.pointer q1)/\w'.cell? ⟨w.heap.size+1,2,none⟩=some (.pointer q2)/\w'.cell? ⟨w.heap.size+1,3,none⟩=some (.pointer q3)) (first|exact Fc w _ p0 p1 p2 p3 q0 q1 q2 q3 (by(refine Ah ?_;repeat (first|with_reducible exact AD _ _|refine E1 ?_ _)))|exact Fc w _ p0 p1 p2 p3 q0 q1 q2 q3 (by(repeat (first|with_reducible exact AD _ _|refine E1 ?_ _)))|go_keep)
   (first|(go_at_call 109;refine(hN _ _ _ _ _ (by(first|(refine Ah ?_;repeat (first|with_reducible exact a7|refine E1 ?_ _))|(repeat (first|with_reducible exact a7|refine E1 ?_ _)))) (by assumption) (by assumption) (by assumption) (by assumption)).mono ?_;rintro e w1⟨rfl,rfl⟩))
  all_goals
   go_wp2_with fail;go_meet
   exact⟨_,_,_,_,_,_,_,_,_,_,rfl,rfl,Aa HI,Aa HJ,by(refine A4.dr ?_;repeat (first|(refine A4.nw ?_;simp;done)|refine A4.al ?_)),by(refine A4.dr ?_;repeat (first|(refine A4.nw ?_;simp;done)|refine A4.al ?_)),by omega,by omega,by omega,by(refine Ah ?_;repeat (first|with_reducible exact AD _ _|refine E1 ?_ _))⟩
 case rest=>
  obtain⟨g1,g2,a0,a1,a2,a3,b0,b1,b2,b3,rfl,rfl,ha,hb,hA,hB,hne,hg1,hg2,ah⟩:=hcut;have hS1:=L7 g1 a0 a1 a2 a3 wc hA;have ZE:=Ad hA;have ZC:=Ad hB;clear hN a7 HI HJ b7 eH jE l6 vN o8 dE vM;go_wp2_with fail;refine hS1.mono ?_;rintro e w2⟨rfl,hgx,r0,r1,r2,r3,hr,gz⟩;have hB2:=hB.gr hgx (by simp;omega);have ak:=C0 ah hgx (fun x hx=>by simp at hx;omega);have je:=L7 g2 b0 b1 b2 b3 w2 hB2;clear hS1 hgx hA hB ah hB2;go_wp2_with fail;refine je.mono ?_;rintro e w3⟨rfl,hgx,s0,s1,s2,s3,hs,hB3⟩;have wh:=gz.gr hgx (by simp;omega);have oF:=C0 ak hgx (fun x hx=>by simp at hx;omega);have hC:=fun wx (h:w3.grownBy wx none)=>Q07 _ _ _ _ wx (wh.inAt.gr h) (hB3.inAt.gr h)
  have e1:cmpL [r0,r1,r2,r3] [s0,s1,s2,s3]=cmpL t.age u.age:=by unfold Tok.age;rw[ha,hb,hr,hs]
  rw[e1] at hC;clear je hgx gz ak hB3 wh e1 hr hs;go_wp2_with fail
  go_region_with (go_at_call 111;refine(hC _ (by repeat (first|exact AD _ _|apply Ah))).mono ?_;rintro e w4⟨rfl,hg4⟩)
  all_goals
   go_wp2;go_ret;exact⟨rfl,Ab oF (Ab (by repeat (first|exact AD _ _|apply Ah)) hg4)⟩
def Q42(w0:World)(x y:Value)(p0 p1 p2 p3 q0 q1 q2 q3:Option Addr)(wx:World):Prop:=
 ∃g1 g2,x=.pointer (some ⟨g1,0,none⟩)/\y=.pointer (some ⟨g2,0,none⟩)/\wx.heap[g1]?=some (.cells #[.pointer p0,.pointer p1,.pointer p2,.pointer p3] 139 (0,0))/\wx.heap[g2]?=some (.cells #[.pointer q0,.pointer q1,.pointer q2,.pointer q3] 139 (0,0))/\w0.grownBy wx none
theorem Bu{v:Value}{l:List Tok}(h:ToksAt v l w){k:Nat}(hk:l[k]?=some t){p0 p1 p2 p3:Option Addr}(hp:A5 t=[.pointer p0,.pointer p1,.pointer p2,.pointer p3]) :
  ∃g cap,v=.slice (some ⟨g,0,none⟩) l.length cap/\w.cell? ⟨g,k*4,none⟩=some (.pointer p0)/\w.cell? ⟨g,k*4+1,none⟩=some (.pointer p1)/\w.cell? ⟨g,k*4+2,none⟩=some (.pointer p2)/\w.cell? ⟨g,k*4+3,none⟩=some (.pointer p3):=by
 obtain⟨g,cap,h1,h2⟩:=h.cells hk;refine⟨g,cap,h1,?_,?_,?_,?_⟩
 ·have:=h2 0 (by omega);rw[hp] at this;exact this
 ·have:=h2 1 (by omega);rw[hp] at this;exact this
 ·have:=h2 2 (by omega);rw[hp] at this;exact this
 ·have:=h2 3 (by omega);rw[hp] at this;exact this
theorem Lz(h:w.heap[b]?=some x):(w.alloc o).heap[b]?=some x:=by rw[CY _ _ _ (Ad h)];exact h
theorem Re(h:w.heap[b]?=some x):w.drew.heap[b]?=some x:=h
theorem Hn(h:b=w.heap.size):(w.alloc x).heap[b]?=some x:=by subst h;exact AR _ _
theorem Yy(U:Nat->Nat)(t u:Tok)(w:World)(dR:t.length<=4)(nh:u.length<=4)(ht:∀g∈t,FtAt U g w)(hu:∀g∈u,FtAt U g w) :
  Calls Tryz.prog 115 #[Bt t,Bt u] w fun e w'=>e=.returned (.int .i64 (cmpL t.nums u.nums))/\w.grownBy w' none:=by
 obtain⟨p0,p1,p2,p3,hp,hi,b7,eH,jE,l6⟩:=Ef dR ht;obtain⟨q0,q1,q2,q3,hq,hj,vN,o8,dE,vM⟩:=Ef nh hu;have eT:Bt t=.agg #[.pointer p0,.pointer p1,.pointer p2,.pointer p3]:=by unfold Bt;rw[hp]
 have eU:Bt u=.agg #[.pointer q0,.pointer q1,.pointer q2,.pointer q3]:=by unfold Bt;rw[hq]
 rw[eT,eU];have a7:=Dm w (.cells #[.pointer p0,.pointer p1,.pointer p2,.pointer p3] 139) (.cells #[.pointer q0,.pointer q1,.pointer q2,.pointer q3] 139)
 have hN:∀wx r0 r1 r2 r3,w.grownBy wx none->TC U r0 (pid w r0) w->TC U r1 (pid w r1) w->TC U r2 (pid w r2) w->TC U r3 (pid w r3) w->Calls Tryz.prog 109 #[.agg #[.pointer r0,.pointer r1,.pointer r2,.pointer r3]] wx fun e w'=>e=.returned (.agg #[.int .i64 (pid w r0),.int .i64 (pid w r1),.int .i64 (pid w r2),.int .i64 (pid w r3)])/\w'=((wx.alloc (.cells #[.pointer r0,.pointer r1,.pointer r2,.pointer r3] 139)).alloc (.cells #[.int .i64 (pid w r0),.int .i64 (pid w r1),.int .i64 (pid w r2),.int .i64 (pid w r3)] 39)).alloc (.cells #[.int .i64 (pid w r0),.int .i64 (pid w r1),.int .i64 (pid w r2),.int .i64 (pid w r3)] 39):=
  fun wx r0 r1 r2 r3 hg h0 h1 h2 h3=>Hv U r0 r1 r2 r3 _ _ _ _ wx (h0.gr hg) (h1.gr hg) (h2.gr hg) (h3.gr hg)
 have HI:=Ac hi;have HJ:=Ac hj;clear hp hq eT eU hi hj ht hu;go_enter Tryz.func115,Tryz.ntmps115;go_wp2_with fail
 go_cut [5,6] (fun x y wx=>Q4m w x y t u wx)
 case first=>
  go_region_held3 (fun w'=>w'.cell? ⟨w.heap.size,0,none⟩=some (.pointer p0)/\w'.cell? ⟨w.heap.size,1,none⟩=some (.pointer p1)/\w'.cell? ⟨w.heap.size,2,none⟩=some (.pointer p2)/\w'.cell? ⟨w.heap.size,3,none⟩=some (.pointer p3)/\w'.cell? ⟨w.heap.size+1,0,none⟩=some (.pointer q0)/\w'.cell? ⟨w.heap.size+1,1,none⟩=some (.pointer q1)/\w'.cell? ⟨w.heap.size+1,2,none⟩=some (.pointer q2)/\w'.cell? ⟨w.heap.size+1,3,none⟩=some (.pointer q3)) (first|exact Fc w _ p0 p1 p2 p3 q0 q1 q2 q3 (by(refine Ah ?_;repeat (first|with_reducible exact AD _ _|refine E1 ?_ _)))|exact Fc w _ p0 p1 p2 p3 q0 q1 q2 q3 (by(repeat (first|with_reducible exact AD _ _|refine E1 ?_ _)))|go_keep)
   (first|(go_at_call 109;refine(hN _ _ _ _ _ (by(first|(refine Ah ?_;repeat (first|with_reducible exact a7|refine E1 ?_ _))|(repeat (first|with_reducible exact a7|refine E1 ?_ _)))) (by assumption) (by assumption) (by assumption) (by assumption)).mono ?_;rintro e w1⟨rfl,rfl⟩))
  all_goals
   go_wp2_with fail;go_meet
   exact⟨_,_,_,_,_,_,_,_,_,_,rfl,rfl,Aa HI,Aa HJ,by(refine A4.dr ?_;repeat (first|(refine A4.nw ?_;simp;done)|refine A4.al ?_)),by(refine A4.dr ?_;repeat (first|(refine A4.nw ?_;simp;done)|refine A4.al ?_)),by omega,by omega,by omega,by(refine Ah ?_;repeat (first|with_reducible exact AD _ _|refine E1 ?_ _))⟩
 case rest=>
  obtain⟨g1,g2,a0,a1,a2,a3,b0,b1,b2,b3,rfl,rfl,ha,hb,hA,hB,hne,hg1,hg2,ah⟩:=hcut;have hC:=fun wx (h:wc.grownBy wx none)=>Q07 _ _ _ _ wx (hA.inAt.gr h) (hB.inAt.gr h)
  rw[<-ha,<-hb] at hC;have ZE:=Ad hA;have ZC:=Ad hB;clear hN a7 HI HJ b7 eH jE l6 vN o8 dE vM hA hB ha hb;go_wp2_with fail
  go_region_with (go_at_call 111;refine(hC _ (by repeat (first|exact AD _ _|apply Ah))).mono ?_;rintro e w4⟨rfl,hg4⟩)
  all_goals
   go_wp2;go_ret;exact⟨rfl,Ab ah (Ab (by repeat (first|exact AD _ _|apply Ah)) hg4)⟩
theorem Q1e(U:Nat->Nat)(b o:Nat)(v:Value)(l:List Tok)(i j:Nat)(t u:Tok)(w:World)(hb:w.cell? ⟨b,o,none⟩=some v)(hr:ToksAt v l w)(hi:l[i]?=some t)(hj:l[j]?=some u)
 (dR:t.length<=4)(nh:u.length<=4)(ht:∀g∈t,FtAt U g w)(hu:∀g∈u,FtAt U g w) :
  Calls Tryz.prog 259 #[.pointer (some ⟨b,o,none⟩),.int .i64 i,.int .i64 j] w fun e w'=>e=.returned (.bool (Tok.less t u))/\w.grownBy w' none:=by
 obtain⟨p0,p1,p2,p3,hp,hni,b7,eH,jE,l6⟩:=Ef dR ht;obtain⟨q0,q1,q2,q3,hq,hnj,vN,o8,dE,vM⟩:=Ef nh hu;obtain⟨g,cap,rfl,a0,a1,a2,a3⟩:=Bu hr hi hp;obtain⟨g',cap',e1,c0,c1,c2,c3⟩:=Bu hr hj hq;simp only[AH,AE,BK,BX,BP] at e1;obtain⟨rfl,rfl⟩:=e1;have hli:=(AL.1 hi).1;have hlj:=(AL.1 hj).1;have cj:=hr.le;unfold maxLen at cj;have hA:=fun wx (h:w.grownBy wx none)=>Q0v U t u wx dR nh (fun x hx=>(ht x hx).gr h) (fun x hx=>(hu x hx).gr h)
 have eT:Bt t=.agg #[.pointer p0,.pointer p1,.pointer p2,.pointer p3]:=by unfold Bt;rw[hp]
 have eU:Bt u=.agg #[.pointer q0,.pointer q1,.pointer q2,.pointer q3]:=by unfold Bt;rw[hq]
 rw[eT,eU] at hA;have HT:=Ac ht;have HU:=Ac hu;have ET:=Ac eT;have EU:=Ac eU;have l0:(0:Int)<=(i:Int):=by omega
 have l1:(i:Int)<(l.length:Int):=by omega
 have l2:(0:Int)<=(j:Int):=by omega
 have l3:(j:Int)<(l.length:Int):=by omega
 clear hp hq hni hnj b7 eH jE l6 vN o8 dE vM hi hj ht hu eT eU hr;go_enter Tryz.func259,Tryz.ntmps259;go_wp2_with fail
 go_cut [7,8] (fun x y wx=>Q42 w x y p0 p1 p2 p3 q0 q1 q2 q3 wx)
 case first=>
  go_region_held3 (fun w'=>w'.cell? ⟨b,o,none⟩=some (.slice (some ⟨g,0,none⟩) l.length cap)/\w'.cell? ⟨g,i*4,none⟩=some (.pointer p0)/\w'.cell? ⟨g,i*4+1,none⟩=some (.pointer p1)/\w'.cell? ⟨g,i*4+2,none⟩=some (.pointer p2)/\w'.cell? ⟨g,i*4+3,none⟩=some (.pointer p3)/\w'.cell? ⟨g,j*4,none⟩=some (.pointer q0)/\w'.cell? ⟨g,j*4+1,none⟩=some (.pointer q1)/\w'.cell? ⟨g,j*4+2,none⟩=some (.pointer q2)/\w'.cell? ⟨g,j*4+3,none⟩=some (.pointer q3))
   (first|go_keep)
   (fail)
  all_goals
   go_wp2_with fail;go_meet
   exact⟨_,_,rfl,rfl,by(refine Re ?_;repeat (first|(refine Hn ?_;simp;done)|refine Lz ?_)),by(refine Re ?_;repeat (first|(refine Hn ?_;simp;done)|refine Lz ?_)),by(refine Ah ?_;repeat (first|with_reducible exact AD _ _|refine E1 ?_ _))⟩
 case rest=>
  obtain⟨g1,g2,rfl,rfl,hb1,hb2,ah⟩:=hcut
  have hK:∀wx,wc.grownBy wx none->wx.cell? ⟨g1,0,none⟩=some (.pointer p0)/\wx.cell? ⟨g1,1,none⟩=some (.pointer p1)/\wx.cell? ⟨g1,2,none⟩=some (.pointer p2)/\wx.cell? ⟨g1,3,none⟩=some (.pointer p3)/\wx.cell? ⟨g2,0,none⟩=some (.pointer q0)/\wx.cell? ⟨g2,1,none⟩=some (.pointer q1)/\wx.cell? ⟨g2,2,none⟩=some (.pointer q2)/\wx.cell? ⟨g2,3,none⟩=some (.pointer q3):=by
   intro wx hg;have k1:=hg.block _ (Ad hb1) (by simp);have k2:=hg.block _ (Ad hb2) (by simp);rw[hb1] at k1;rw[hb2] at k2;simp[World.cell?,k1,k2]
  obtain⟨y0,y1,y2,y3,y4,y5,y6,y7⟩:=hK wc (AD _ _);have hA':=hA wc ah;obtain⟨r,hr⟩:∃r,cmpL t.age u.age=r:=⟨_,rfl⟩
  rw[hr] at hA';have HR:=Ac hr;clear hr hA hb a0 a1 a2 a3 c0 c1 c2 c3 hb1 hb2 l0 l1 l2 l3;go_wp2_with fail;refine hA'.mono ?_;rintro e w2⟨rfl,hg2⟩;obtain⟨z0,z1,z2,z3,z4,z5,z6,z7⟩:=hK w2 hg2;have hK2:∀wx,w2.grownBy wx none->wx.cell? ⟨g1,0,none⟩=some (.pointer p0)/\wx.cell? ⟨g1,1,none⟩=some (.pointer p1)/\wx.cell? ⟨g1,2,none⟩=some (.pointer p2)/\wx.cell? ⟨g1,3,none⟩=some (.pointer p3)/\wx.cell? ⟨g2,0,none⟩=some (.pointer q0)/\wx.cell? ⟨g2,1,none⟩=some (.pointer q1)/\wx.cell? ⟨g2,2,none⟩=some (.pointer q2)/\wx.cell? ⟨g2,3,none⟩=some (.pointer q3):=fun wx h=>hK wx (Ab hg2 h)
  have ak:=Ab ah hg2;clear hA' y0 y1 y2 y3 y4 y5 y6 y7 hK hg2 ah;by_cases h0:r=0
  ·have hd:(r !=0)=false:=by simpa using h0
   have hF:=Yy U t u w2 dR nh (fun x hx=>(Aa HT x hx).gr ak) (fun x hx=>(Aa HU x hx).gr ak);rw[Aa ET,Aa EU] at hF;obtain⟨x,hx⟩:∃x,cmpL t.nums u.nums=x:=⟨_,rfl⟩
   have hL:Tok.less t u=decide (x<0):=by unfold Tok.less;rw[Aa HR,AQ h0,hx]
   rw[hx] at hF;have HL:=Ac hL;clear hL h0 hx;go_wp2_with fail;refine hF.mono ?_;rintro e w4⟨rfl,hg4⟩;go_wp2;go_ret;exact⟨by rw[Aa HL];rfl,Ab ak hg4⟩
  ·have hd:(r !=0)=true:=by simpa using h0
   have hL:Tok.less t u=decide (0<r):=by unfold Tok.less;rw[Aa HR,AO h0]
   have HL:=Ac hL;clear hL h0;go_wp2;go_ret;exact⟨by rw[Aa HL];rfl,ak⟩
end Go.Proofs.YtolhbeekfjnfmaaGreatDoor

import Derived.Test.YtolhbeekfjnfmaaGreatDoorM48
set_option maxHeartbeats 8000000
set_option maxRecDepth 100000
namespace Go.Proofs.YtolhbeekfjnfmaaGreatDoor
open Go.RowKit
variable {F:List Ft}{a8:List Ch}
theorem Tryz.entersXR:∀args w,(callFunc 45 args).run Tryz.prog w=.ok (.enter 45 args) w:=enters_of Tryz.func45 (by kernel_rfl) rfl
theorem Mp(U:Nat->Nat)(x:Nat)(id:Int)(f:Ft)(w:World)(hx:w.cell? ⟨x,0,none⟩=some (.int .i64 id))(hf:FtAt U f w) :
  Calls Tryz.prog 45 #[.pointer (some ⟨f.blk,0,none⟩),.pointer (some ⟨x,0,none⟩)] w fun e w'=>e=.returned (.bool (f.id==id))/\w.grownBy w' none:=by
 obtain⟨_,_,v,hb,_⟩:=hf;have c2:w.cell? ⟨f.blk,2,none⟩=some (.int .i64 f.id):=by simp[World.cell?,hb]
 clear hb;go_enter Tryz.func45,Tryz.ntmps45;go_wp2;go_quiet (fail);go_wp2;go_ret;exact⟨rfl,Af _ _ _⟩
theorem We{f:Ft}:∀ {F:List Ft} (k:Nat),FtAsc F->f∈F->∃i,F[i]?=some f/\Le (fun g=>g.id==f.id) k F=((k+i:Nat):Int)/\F.eraseIdx i=K9 f F
 | [],_,_,h=>by simp at h
 | g::F,k,hF,h=>by
  obtain⟨h1,h2⟩:=DX.1 hF;unfold Le;by_cases hg:g=f
  ·subst hg
   refine⟨0,rfl,by rw[AQ (by simp)];simp,?_⟩;unfold K9;rw[List.eraseIdx_zero,List.tail_cons,KN (by simp)];exact(O5 (fun y hy=>by have:=h1 y hy;omega)).symm
  ·have hm:f∈F:=by rcases CQ.1 h with e|e;exact absurd e.symm hg;exact e
   have hlt:=h1 f hm;obtain⟨i,p1,p2,p3⟩:=We (k+1) h2 hm;refine⟨i+1,by rw[BS];exact p1,?_,?_⟩
   ·rw[AO (by simp;omega),p2]
    congr 1
    omega
   ·rw[KM,p3]
    unfold K9;rw[KO (by simp;omega)]
theorem Wf(p:Ft->Bool)(l:List Ft)(h:∀g∈l,p g=false):Le p 0 l<0:=by
 have h1:=Jm p l 0;have h2:l.any p=false:=by rw[EI];exact fun g hg=>by rw[h g hg];simp
 rw[h2] at h1;have:=of_decide_eq_false h1;omega
theorem Q2w{U:Nat->Nat}{x nb g cap n:Nat}{F':List Ft}{cnt:Int}{w w1 w2:World}(h:XAt U x nb (.slice (some ⟨g,0,none⟩) F.length cap) F cnt a8 w)(hg1:w.grownBy w1 none)(hg2:w1.grownBy w2 (some g))(hr2:FsAt (.slice (some ⟨g,0,none⟩) n cap) F' w2)(cg:∀y∈F',y∈F) :
  XAt U x nb (.slice (some ⟨g,0,none⟩) n cap) F' cnt a8 (w2.setCell ⟨x,1,none⟩ (.slice (some ⟨g,0,none⟩) n cap))/\GrS (fun i=>U i=2\/U i=3) w (w2.setCell ⟨x,1,none⟩ (.slice (some ⟨g,0,none⟩) n cap))/\(w2.cell? ⟨x,1,none⟩=some (.slice (some ⟨g,0,none⟩) F.length cap)/\w2.frozen? ⟨x,1,none⟩=false)/\∀f,FtAt U f w->FtAt U f (w2.setCell ⟨x,1,none⟩ (.slice (some ⟨g,0,none⟩) n cap)):=by
 have wI:U g=3:=h.facts.2 g rfl;have hxg:x≠g:=fun e=>by have:=h.ux;rw[e] at this;omega
 have aV:=Aj w2 x 1 (.slice (some ⟨g,0,none⟩) n cap);have hx1:=Ad h.blk
 have hx2:w2.heap[x]?=some (.cells #[.pointer (some ⟨nb,0,none⟩),.slice (some ⟨g,0,none⟩) F.length cap,.int .i64 cnt] 88 (0,0)):=by
  rw[hg2.block x (AZ hx1 hg1.size) (by simp;omega),hg1.block x hx1 (by simp)];exact h.blk
 have hG:GrS (fun i=>U i=2\/U i=3) w (w2.setCell ⟨x,1,none⟩ (.slice (some ⟨g,0,none⟩) n cap)):=
  (((GrS.of hg1 (by simp):GrS (fun i=>U i=2\/U i=3) w w1)).then hg2 (fun k hk=>by simp at hk;subst hk;exact .inr (.inr wI))).then aV (fun k hk=>by simp at hk;subst hk;exact .inr (.inl h.ux))
 have hn:∀i,U i=1\/4<=U i->¬ (U i=2\/U i=3):=fun i hi he=>by omega
 have hF:∀f,FtAt U f w->FtAt U f (w2.setCell ⟨x,1,none⟩ (.slice (some ⟨g,0,none⟩) n cap)):=fun f hf=>hf.keep hG (fun i hi=>hn i (.inl hi)) (fun _ _ e=>e)
 refine⟨⟨?_,h.ux,⟨hr2.other aV (fun k hk e=>?_),fun k hk=>h.facts.2 k hk⟩,fun y hy=>hF y (h.fts y (cg y hy)),h.net.keep hG hn (fun _ _=>rfl)⟩,hG,⟨by simp[World.cell?,hx2],by simp[World.frozen?,hx2]⟩,hF⟩
 ·rw[BB w2 x 1 _ _ _ hx2];rfl
 ·simp only[Value.ownBlock,AE] at hk e
  omega
def Q9(U:Nat->Nat)(x nb:Nat)(F:List Ft)(cnt:Int)(a8:List Ch)(f:Ft)(w w':World):Prop:=
 ∃U' af,XAt U' x nb af (K9 f F) cnt (a8.map (Ij f)) w'/\GrS (fun i=>2<=U i) w w'/\∀i,i<w.heap.size->U' i=U i
theorem Uh(U:Nat->Nat)(x nb:Nat)(fv:Value)(F:List Ft)(cnt:Int)(a8:List Ch)(id:Int)(w:World)(h:XAt U x nb fv F cnt a8 w)(hno:∀g∈F,(g.id==id)=false) :
  Calls Tryz.prog 27 #[.pointer (some ⟨x,0,none⟩),.int .i64 id] w fun e w'=>e=.returned (.int .i64 5)/\w.grownBy w' none:=by
 have a7:=AA w (.cells #[.int .i64 id] 3) none;have bU:(w.alloc (.cells #[.int .i64 id] 3)).heap[w.heap.size]?=some (.cells #[.int .i64 id] 3 (0,0)):=AR _ _;have hc0:(w.alloc (.cells #[.int .i64 id] 3)).cell? ⟨w.heap.size,0,none⟩=some (.int .i64 id):=Az bU rfl;have hI:=Wg 45 (.pointer (some ⟨w.heap.size,0,none⟩)) (fun g=>g.id==id) fv F (w.alloc (.cells #[.int .i64 id] 3)) Tryz.entersXR (h.facts.1.gr a7) (fun wx t hg ht=>Mp U _ id t wx (hg.cell hc0 (by simp)) ((h.fts t ht).gr (Ab a7 hg)));have aJ:=Wf (fun g:Ft=>g.id==id) F hno;obtain⟨R,hR⟩:∃R,Le (fun g:Ft=>g.id==id) 0 F=R:=⟨_,rfl⟩
 rw[hR] at hI aJ;have c1:w.cell? ⟨x,1,none⟩=some fv:=by simp[World.cell?,h.blk]
 have c1':=a7.cell c1 (by simp);have hd:decide (R<0)=true:=by simpa using aJ
 have HG:=Ac a7;clear hR h hno bU hc0 a7;go_enter Tryz.func27,Tryz.ntmps27;go_wp2_with fail;refine hI.mono ?_;rintro e w1⟨rfl,hg1⟩;go_wp2;go_ret;exact⟨rfl,Ab (Aa HG) hg1⟩
theorem Qx(U:Nat->Nat)(x nb:Nat)(fv:Value)(F:List Ft)(cnt:Int)(a8:List Ch)(f:Ft)(w:World)(h:XAt U x nb fv F cnt a8 w)(hF:FtAsc F)(hf:f∈F)(ag:∀c∈a8,ChFit c/\∀n∈c.ns,F0 n.K/\∀g∈n.K,g.blk=f.blk->g.f=f.f) :
  Calls Tryz.prog 27 #[.pointer (some ⟨x,0,none⟩),.int .i64 f.id] w fun e w'=>e=.returned (.int .i64 0)/\Q9 U x nb F cnt a8 f w w':=by
 have a7:=AA w (.cells #[.int .i64 f.id] 3) none;have bU:(w.alloc (.cells #[.int .i64 f.id] 3)).heap[w.heap.size]?=some (.cells #[.int .i64 f.id] 3 (0,0)):=AR _ _;have hc0:(w.alloc (.cells #[.int .i64 f.id] 3)).cell? ⟨w.heap.size,0,none⟩=some (.int .i64 f.id):=Az bU rfl;have hI:=Wg 45 (.pointer (some ⟨w.heap.size,0,none⟩)) (fun g=>g.id==f.id) fv F (w.alloc (.cells #[.int .i64 f.id] 3)) Tryz.entersXR (h.facts.1.gr a7) (fun wx t hg ht=>Mp U _ f.id t wx (hg.cell hc0 (by simp)) ((h.fts t ht).gr (Ab a7 hg)));obtain⟨i,hi,hix,pz⟩:=We 0 hF hf;rw[hix,BV] at hI;have eE:i<F.length:=(AL.1 hi).1;obtain⟨g,cap,fK,hc⟩:=FsAt.cell h.facts.1 hi;subst fK;have cj:=h.facts.1.le;unfold maxLen at cj;have c1:w.cell? ⟨x,1,none⟩=some (.slice (some ⟨g,0,none⟩) F.length cap):=by simp[World.cell?,h.blk]
 have c1':=a7.cell c1 (by simp)
 have hkey:∀w1,(w.alloc (.cells #[.int .i64 f.id] 3)).grownBy w1 none->(w1.cell? ⟨x,1,none⟩=some (.slice (some ⟨g,0,none⟩) F.length cap)/\w1.cell? ⟨g,i,none⟩=some (.pointer (some ⟨f.blk,0,none⟩)))/\
   Calls Tryz.prog 46 #[.slice (some ⟨g,0,none⟩) F.length cap,.int .i64 i,.int .i64 ((i:Int)+1)] w1 fun e w2=>e=.returned (.slice (some ⟨g,0,none⟩) (F.length-1) cap)/\(w2.cell? ⟨x,1,none⟩=some (.slice (some ⟨g,0,none⟩) F.length cap)/\w2.frozen? ⟨x,1,none⟩=false/\(w2.setCell ⟨x,1,none⟩ (.slice (some ⟨g,0,none⟩) (F.length-1) cap)).cell? ⟨x,0,none⟩=some (.pointer (some ⟨nb,0,none⟩)))/\
    Calls Tryz.prog 47 #[.pointer (some ⟨nb,0,none⟩),.pointer (some ⟨f.blk,0,none⟩)] (w2.setCell ⟨x,1,none⟩ (.slice (some ⟨g,0,none⟩) (F.length-1) cap)) fun e w3=>e=.returned (.tuple #[])/\Q9 U x nb F cnt a8 f w w3:=by
  intro w1 hg1;have bC:=Ab a7 hg1;refine⟨⟨hg1.cell c1' (by simp),bC.cell hc (by simp)⟩,?_⟩;refine(Q08 g cap F i w1 (h.facts.1.gr bC) eE).mono ?_;rintro e w2⟨rfl,hg2,hr2⟩;rw[pz] at hr2;obtain⟨m1,m2,m3,m4⟩:=Q2w h bC hg2 hr2 (fun y hy=>(BH.1 hy).1);refine⟨rfl,⟨m3.1,m3.2,by simp[World.cell?,m1.blk]⟩,?_⟩;refine(Wu U nb a8 f _ m1.net ag (m4 f (h.fts f hf))).mono ?_;rintro e w3⟨rfl,U3,k1,k2,k3,k4⟩;have kB:∀i,U i<4->¬ (4<=U i):=fun i hi h=>by omega
  refine⟨rfl,U3,_,⟨k2.blk m1.blk (kB x (by rw[m1.ux];omega)),by rw[k4 x (Ad m1.blk)];exact m1.ux,m1.facts.keep2 k2 (fun i hi=>kB i (by omega)) (fun i hi e=>by rw[k4 i hi];exact e),fun y hy=>(m1.fts y hy).keep k2 (fun i hi=>kB i (by omega)) (fun i hi e=>by rw[k4 i hi];exact e),k1⟩,(m2.mono (fun i hi=>by show 2<=U i;omega):GrS (fun i=>2<=U i) w _).comp k2 (fun i hi hn hx=>hn (by show 2<=U i;have hx':4<=U i:=hx;omega)),fun i hi=>k4 i (AZ hi m2.size)⟩
 have HKEY:=Ac hkey;have hd:decide ((i:Int)<0)=false:=by simp
 clear hkey h hF hf ag bU hc0 a7 hix pz hi hc;go_enter Tryz.func27,Tryz.ntmps27;go_wp2_with fail;refine hI.mono ?_;rintro e w1⟨rfl,hg1⟩;obtain⟨⟨a1,a2⟩,hD⟩:=Aa HKEY w1 hg1;clear HKEY hI hg1;go_wp2_with fail;refine hD.mono ?_;rintro e w2⟨rfl,⟨b1,b2,b3⟩,hR⟩;clear hD;go_wp2_with fail;refine hR.mono ?_;rintro e w3⟨rfl,hP⟩;have HP:=Ac hP;clear hP hR;go_wp2;go_ret;exact⟨rfl,Aa HP⟩
theorem XSt.fits{s:Sv.St}{Zs:List (List Tok)}(h:XSt s F a8 Zs):∀c∈a8,ChFit c/\∀f∈F,∀n∈c.ns,F0 n.K/\∀g∈n.K,g.blk=f.blk->g.f=f.f:=by
 intro c hc;obtain⟨i,hi⟩:=EZ hc;have eE:i<s.rs.length:=by have:=(AL.1 hi).1;rw[h.rules.len.1] at this;exact this
 obtain⟨c2,Z,p1,p2,p3⟩:=h.rules.get (AB eE);rw[hi] at p1;simp only[AE] at p1;subst p1;exact⟨p3.ok.fit p3.fd p3.few h.few,fun f hf=>p3.ok.apart h.asc hf⟩
theorem Q0r(T:Nat->Nat)(t x:Nat)(s:Sv.St)(id:Int)(w:World)(h:XT T t x s w) :
  Calls Tryz.prog 27 #[.pointer (some ⟨x,0,none⟩),.int .i64 id] w fun e w'=>e=.returned (.int .i64 (s.del id).1)/\GrS (fun k=>T k=t) w w'/\∃T',XT T' t x (s.del id).2 w'/\∀k,k<w.heap.size->T' k=T k:=by
 have h0:=h;obtain⟨U,nb,fv,F,a8,Zs,h1,h2,h3,h4,h5⟩:=h;cases ha:s.L.any (fun p=>p.1==id)
 ·have hdel:s.del id=(5,s):=by unfold Sv.St.del;rw[ha,AO (by simp)]
  rw[hdel];refine(Uh U x nb fv F s.cnt a8 id w h1 (fun g hg=>?_)).mono ?_
  ·rw[<-h2.facts,EI] at ha
   have:=ha _ (CJ.2 ⟨g,hg,rfl⟩);simpa using this
  ·rintro e w'⟨rfl,hg⟩
   exact⟨rfl,GrS.of hg (by simp),T,h0.gr hg (fun _ _=>rfl),fun _ _=>rfl⟩
 ·obtain⟨f,hf,hid⟩:∃f∈F,f.id=id:=by
   rw[<-h2.facts,EB] at ha;obtain⟨p,hp,he⟩:=ha;obtain⟨f,hf,rfl⟩:=CJ.1 hp;exact⟨f,hf,by simpa using he⟩
  subst hid;have hdel:s.del f.id=(0,⟨s.rs,s.L.filter (fun p=>!(p.1==f.id)),s.cnt,Bp (Al s.rs (s.L.filter (fun p=>!(p.1==f.id)))) s.fired⟩):=by unfold Sv.St.del;rw[ha,AQ rfl]
  rw[hdel];refine(Qx U x nb fv F s.cnt a8 f w h1 h2.asc hf (fun c hc=>⟨(h2.fits c hc).1,(h2.fits c hc).2 f hf⟩)).mono ?_;rintro e w'⟨rfl,U',af,hX,hG,ho⟩;obtain⟨eZ,hS⟩:=h2.del hf;refine⟨rfl,hG.mono (fun k hk=>h4 k hk),?_⟩;exact XT.mk' (s:=⟨s.rs,s.L.filter (fun p=>!(p.1==f.id)),s.cnt,Bp (Al s.rs (s.L.filter (fun p=>!(p.1==f.id)))) s.fired⟩) hX hS (fun i hi e=>by rw[ho i hi] at e;exact h3 i e) (fun i hi e=>by rw[ho i hi] at e;exact h4 i e)
end Go.Proofs.YtolhbeekfjnfmaaGreatDoor

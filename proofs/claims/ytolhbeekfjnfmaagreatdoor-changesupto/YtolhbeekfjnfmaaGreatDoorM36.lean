import Derived.Test.YtolhbeekfjnfmaaGreatDoorM33
import Derived.Test.YtolhbeekfjnfmaaGreatDoorM35
set_option maxHeartbeats 8000000
set_option maxRecDepth 100000
namespace Go.Proofs.YtolhbeekfjnfmaaGreatDoor
open Go.RowKit
attribute [local go_sem] Oper.semAt_some
theorem Fr{F:Fence}{n:Nat}{P:Program}{fn:Func}{tmps:Array Value}{R:Ending->World->Prop}{v:Value}(hres:∀w,(results fn tmps).run P w=.ok v w)(K:World->Prop)(hKR:∀w,K w->R (.returned v) w):∀(Ds:List Nat) (w:World),Ds.Nodup->(∀D∈Ds,w.heap[D]?=some (.deferred (some [])))->K w->
  (∀(A:World) (D:Nat),D∈Ds->K A->A.heap[D]?=some (.deferred (some []))->K (A.putObj D (.deferred none)))->LeavesInM F n P fn tmps R (Ds.map (fun D=>{ target:=.collected D,args:=#[] })) .returning w
 | [],w,_,_,h,_=>⟨v,hres w,hKR w h⟩
 | D::Ds,w,hn,hD,h,hR=>by
  have hd:=hD D (BF ..);refine⟨by simp,.inl ⟨D,_,rfl,run_takeDeferred hd,?_⟩⟩;rw[IZ] at hn;refine Fr hres K hKR Ds _ hn.2 (fun E hE=>?_) (hR w D (BF ..) h hd) (fun A E hE=>hR A E (BG _ hE));rw[ED (fun e=>hn.1 (by rw[<-e];exact hE))];exact hD E (BG _ hE)
structure All3(n0 sz0:Nat)(L Zc:Nat->Prop)(J:(Nat->Prop)->List Mv->World->Prop)(qs:List Sq)(w1:World)(j:Nat)(s0:List Mv)(Ds:List Nat)(wr:World):Prop where
 map:s0.map (fun x=>(x.ru,x.jn,x.tok))=(qs.take j).flatMap (fun q=>q.l.map (fun t=>(q.ru,q.jn,t)))
 mv:MvsOk n0 s0 wr
 zs:∃Z:Nat->Prop,(∀i,Zc i->Z i)/\Jv Z s0/\(∀D∈Ds,Z D)/\J Z s0 wr
 kept:Kept Zc L w1 wr
 nodup:Ds.Nodup
 marks:∀D∈Ds,sz0<=D/\wr.heap[D]?=some (.deferred (some []))
def InZ(J:(Nat->Prop)->List Mv->World->Prop)(Z L:Nat->Prop)(Ds:List Nat)(s0:List Mv)(wr:World)(Zi:Nat->Prop)(s:List Mv)(W:World):Prop:=
 (∀i,Z i->Zi i)/\Kept Z L wr W/\(∀D∈Ds,W.heap[D]?=some (.deferred (some [])))/\J Zi (s0++s) W
theorem InZ.bears{J:(Nat->Prop)->List Mv->World->Prop}{Z L:Nat->Prop}{Ds:List Nat}{s0:List Mv}{wr:World}{m:Nat}(hJ:Lk m J)(hm:m<=wr.heap.size)(hD:∀D∈Ds,D<wr.heap.size):Lk wr.heap.size (InZ J Z L Ds s0 wr):=by
 rintro Zi WJ s A B row⟨h1,h2,h3,h4⟩ hg hr PG hz;refine⟨fun i hi=>PG i (h1 i hi),h2.trans (Kept.turn hg (fun r e=>(hr r e).2.2)),fun D hd=>?_,hJ Zi WJ _ A B row h4 hg (fun r e=>⟨AU hm (hr r e).1,(hr r e).2⟩) PG hz⟩;rw[hg.block D (AZ (hD D hd) h2.size) (fun e=>by have:=(hr D e.symm).1;have:=hD D hd;omega)];exact h3 D hd
theorem InZ.step {J J' : (Nat → Prop) → List Mv → World → Prop} {Z L : Nat → Prop} {Ds : List Nat} {s0 s : List Mv} {wr W B : World} {Zi : Nat → Prop} {x : Mv} {m : Nat} (h : InZ J Z L Ds s0 wr Zi s W) (hm : m ≤ wr.heap.size) (hD : ∀ D ∈ Ds, m ≤ D) (hf : KeepsFrom m W B) (hk : Kept Zi L W B) (hj : J' Zi (s0 ++ s ++ [x]) B) :
    KeepsFrom wr.heap.size W B ∧ Kept Zi L W B ∧ InZ J' Z L Ds s0 wr Zi (s ++ [x]) B := by
  obtain ⟨h1, h2, h3, h4⟩ := h
  refine ⟨⟨hf.size, fun k o hk' => hf.same k o (by omega)⟩, hk, h1, h2.trans (hk.mono h1), fun D hd => hf.same D _ (hD D hd) (h3 D hd) rfl, ?_⟩
  rw [← List.append_assoc]
  exact hj
theorem All3.next {n0 sz0 : Nat} {L Zc : Nat → Prop} {J : (Nat → Prop) → List Mv → World → Prop} {qs : List Sq} {w1 : World} {j : Nat} {s0 s : List Mv} {Ds : List Nat} {wr W : World} {Z Zi : Nat → Prop} {q : Sq} (h : All3 n0 sz0 L Zc J qs w1 j s0 Ds wr) (hz : ∀ i, Zc i → Z i) (hin : Jv Z s0) (hzd : ∀ D ∈ Ds, Z D) (hzm : Zi wr.heap.size) (hq : qs[j]? = some q) (hi : InZ J Z L Ds s0 wr Zi s W)
    (hs : ((s.map (fun x => x.tok) = q.l ∧ ∀ x ∈ s, x.ru = q.ru ∧ x.jn = q.jn) ∧ MvsOk wr.heap.size s W) ∧ Jv Zi s) (hd : W.heap[wr.heap.size]? = some (.deferred (some []))) (h0 : n0 ≤ wr.heap.size) (h1 : sz0 ≤ wr.heap.size) :
    All3 n0 sz0 L Zc J qs w1 (j + 1) (s0 ++ s) (wr.heap.size :: Ds) W := by
  obtain ⟨i1, i2, i3, i4⟩ := hi
  obtain ⟨⟨⟨k1, k2⟩, k3⟩, k4⟩ := hs
  refine ⟨?_, h.mv.app (h.mv.keptI i2 hin) k3 (Nat.le_refl _) h0, ⟨Zi, fun i hi => i1 i (hz i hi), fun x hx g hg => ?_, fun D hD => ?_, i4⟩, h.kept.trans (i2.mono hz), List.nodup_cons.2 ⟨fun hm => ?_, h.nodup⟩, fun D hD => ?_⟩
  · rw [List.map_append, h.map, List.take_add_one, hq, List.flatMap_append]
    congr 1
    simp only [Option.toList_some, List.flatMap_cons, List.flatMap_nil, List.append_nil]
    rw [← k1, List.map_map]
    exact List.map_congr_left (fun x hx => by simp [(k2 x hx).1, (k2 x hx).2])
  · rcases List.mem_append.1 hx with hx | hx
    · exact i1 g (hin x hx g hg)
    · exact k4 x hx g hg
  · rcases List.mem_cons.1 hD with rfl | hD
    · exact hzm
    · exact i1 D (hzd D hD)
  · have := Ad (h.marks _ hm).2
    omega
  · rcases List.mem_cons.1 hD with rfl | hD
    · exact ⟨h1, hd⟩
    · exact ⟨(h.marks D hD).1, i3 D hD⟩
theorem All3.left {n0 sz0 : Nat} {L Zc : Nat → Prop} {J Jx : (Nat → Prop) → List Mv → World → Prop} {qs : List Sq} {w1 : World} {j : Nat} {s0 s : List Mv} {Ds : List Nat} {wr W : World} {Z Zi : Nat → Prop} {q : Sq} (h : All3 n0 sz0 L Zc J qs w1 j s0 Ds wr) (hin : Jv Z s0) (hq : qs[j]? = some q) (hi : InZ Jx Z L Ds s0 wr Zi s W)
    (hs : (((∃ k, s.map (fun x => x.tok) = q.l.take k) ∧ ∀ x ∈ s, x.ru = q.ru ∧ x.jn = q.jn) ∧ MvsOk wr.heap.size s W) ∧ Jv Zi s) (h0 : n0 ≤ wr.heap.size) :
    Q40 qs (s0 ++ s) ∧ MvsOk n0 (s0 ++ s) W ∧ Jv Zi (s0 ++ s) ∧ Jx Zi (s0 ++ s) W := by
  obtain ⟨i1, i2, i3, i4⟩ := hi
  obtain ⟨⟨⟨⟨k, k1⟩, k2⟩, k3⟩, k4⟩ := hs
  refine ⟨?_, h.mv.app (h.mv.keptI i2 hin) k3 (Nat.le_refl _) h0, fun x hx g hg => ?_, i4⟩
  · unfold Q40
    have hj := (List.getElem?_eq_some_iff.1 hq)
    have e : qs = qs.take j ++ q :: qs.drop (j + 1) := by
      obtain ⟨hjl, hje⟩ := hj
      rw [← hje, ← List.drop_eq_getElem_cons hjl, List.take_append_drop]
    rw [e, List.flatMap_append, List.map_append, h.map]
    refine (List.prefix_append_right_inj _).2 ?_
    rw [List.flatMap_cons]
    refine List.IsPrefix.trans ?_ (List.prefix_append _ _)
    have : s.map (fun x => (x.ru, x.jn, x.tok)) = (q.l.take k).map (fun t => (q.ru, q.jn, t)) := by
      rw [← k1, List.map_map]
      exact List.map_congr_left (fun x hx => by simp [(k2 x hx).1, (k2 x hx).2])
    rw [this]
    exact (List.take_prefix k q.l).map _
  · rcases List.mem_append.1 hx with hx | hx
    · exact i1 g (hin x hx g hg)
    · exact k4 x hx g hg
theorem Tf(n:Nat)(L Zb:Nat->Prop)(U:Nat->Nat)(nb bn n0 m0 N:Nat)(a8:List Ch)(hUz:∀i,U i=1->Zb i)(hUl:∀(j:Nat) (c:Ch) (i:Nat),a8[j]?=some c->U i=4+3*(Cs 0 (a8.take j)+c.ns.length)->(∀k,k<i->U k≠U i)->L i)(og:∀i,U i≠0->i<m0)(hch:∀c∈a8,(∀t∈c.e.toks,t.length=c.jn)/\c.jn<=4/\c.e.toks.length<=1000000)(hlen:a8.length<=1000)(hN:(a8.map (fun c=>c.e.toks.length)).sum<=N) :
  Hf Fence.wide n Tryz.prog 76 #[.pointer (some ⟨bn,0,none⟩)] To L Zb (AllSt U nb bn n0 m0 a8)
   (fun Z s W=>((∃qs,Pq a8 qs/\AllS qs s)/\MvsOk n0 s W)/\Jv Z s) (fun Z s W=>((∃qs,Pq a8 qs/\Q40 qs s)/\MvsOk n0 s W)/\Jv Z s) N:=by
 intro lp J Jx Z1 W hJ MG hY qZ UW h0;obtain⟨cv,bs,h1,h2,h3,h4⟩:=qZ.net;obtain⟨ao,cap,hcv⟩:=h3.1.slice;subst hcv;have hbl:=h4.len;have c0:W.cell? ⟨bn,0,none⟩=some (.pointer (some ⟨nb,0,none⟩)):=by simp[World.cell?,qZ.box]
 have c1:W.cell? ⟨nb,0,none⟩=some (.slice ao bs.length cap):=by simp[World.cell?,h1]
 have a7:=AA W (.cells #[.func (.yield lp) #[] #[]] 156) none;have hx0:=AR W (.cells #[.func (.yield lp) #[] #[]] 156);have jx:(W.alloc (.cells #[.func (.yield lp) #[] #[]] 156)).heap.size=W.heap.size+1:=by simp
 have d0:=a7.cell c0 (by simp);have d1:=a7.cell c1 (by simp);have HST:=Ac qZ;have H3:=Ac h3;have H4:=Ac h4;have HJ:=Ac hJ;have XB:=Ac MG;have sY:=Ac hbl;clear qZ h1 h2 h3 h4 hJ MG hbl c0 c1;refine callsIn_wide.2 ((callsIn_wide (n:=5)).1 ?_);refine callsIn_of_wp_marks Tryz.func76 rfl trivial ?_ rfl;simp only[Tryz.ntmps76,FO,AP,CE,Nat.reduceAdd,Nat.reduceSub,EW,EX,FN,FE,CW,CN];gi_wp2;generalize W.alloc (.cells #[.func (.yield lp) #[] #[]] 156)=w0 at a7 hx0 jx d0 d1⊢;have hbm:bs.length<=1000:=by rw[Aa sY];exact hlen
 have r8:=Ac (show AllI U L a8 (.slice none 0 0) [] w0 w0 from⟨AD _ _,RowAt.nil 0 _ Pe,by simp[Value.ownBlock],by simp,by simp,by simp⟩)
 gi_loopw [3,14] (fun a z wr=>∃(j:Nat) (qs:List Sq),j<=bs.length/\z=.int .i64 j/\qs.length=j/\Hid (AllI U L a8 a qs w0 wr)) (fun _ z _=>bs.length-(intOf z).toNat)
 case atStart=>exact⟨0,[],AG _,rfl,rfl,r8⟩
 case round=>
  clear r8;obtain⟨j,qs,hj,rfl,nu,HK⟩:=hrel;by_cases hlt:j<bs.length
  ·have hd:decide (j<bs.length)=true:=by simpa using hlt
   have hI:=Aa HK;clear HK;have hgr:=Ab a7 hI.gr;obtain⟨c,hc⟩:∃c,a8[j]?=some c:=⟨_,AB (by rw[<-Aa sY];exact hlt)⟩
   obtain⟨bj,s7,tu⟩:=(Aa H4).get hc;rw[BV] at tu;obtain⟨g,cap',e1,q0⟩:=PsAt.cell ((Aa H3).1.gr hgr) s7;simp only[AH,BP] at e1;obtain⟨rfl,rfl⟩:=e1;have hcr:=tu.keep (U':=U) (GrS.of hgr (by simp):GrS (fun _=>False) W wr) (by simp) (fun _ _=>rfl);obtain⟨lb,tv,wv,q2,fU⟩:=hcr.lastAt;have hcc:=hch c (AV hc);have MB:=Q4r U _ lb j c.jn c.e tv wv wr fU hcc.1 hcc.2.1 (by have:=hcc.2.2;omega);have TE:L lb:=hUl j c lb hc fU.own (fun k hk=>by rw[fU.own];exact fU.low k hk);have hlbm:=og lb (by rw[fU.own];omega);have hW:=(Aa HST).from1;obtain⟨aa,ke,kS⟩:=hI.row.slice;rw[nu] at kS;subst kS
   have uI:Calls Tryz.prog 77 #[.pointer (some ⟨lb,0,none⟩)] wr fun r w1=>∃bt bl,r=.returned (.func (.func 116) #[] #[.pointer (some ⟨bt,0,none⟩),.pointer (some ⟨bl,0,none⟩)])/\RowAt 64 1 Pd 0 (.slice aa j ke) qs (w1.alloc (.cells #[.func (.func 116) #[] #[.pointer (some ⟨bt,0,none⟩),.pointer (some ⟨bl,0,none⟩)]] 64))/\
     ∃q:Sq,q.bt=bt/\q.bl=bl/\RowAt 64 1 Pd 0 (.slice (some ⟨w1.heap.size,0,none⟩) 1 1) [q] (w1.alloc (.cells #[.func (.func 116) #[] #[.pointer (some ⟨bt,0,none⟩),.pointer (some ⟨bl,0,none⟩)]] 64))/\
     ∀v5 w5 n m,RowAt 64 1 Pd 0 v5 (qs++[q]) w5->Longer (.slice aa j ke) v5 n m (w1.alloc (.cells #[.func (.func 116) #[] #[.pointer (some ⟨bt,0,none⟩),.pointer (some ⟨bl,0,none⟩)]] 64)) w5->Hid (AllI U L a8 v5 (qs++[q]) w0 w5):=by
    refine MB.mono ?_;rintro r w1⟨bt,bl,g',l,rfl,f1,f2,f3,f4,f5,f6,f7⟩;have dO:=AA w1 (.cells #[.func (.func 116) #[] #[.pointer (some ⟨bt,0,none⟩),.pointer (some ⟨bl,0,none⟩)]] 64) none;refine⟨bt,bl,rfl,hI.row.gr (Ab f1 dO),⟨bt,bl,g',lb,j,c.jn,l⟩,rfl,rfl,(RowAt.lit1 (e:=64) Pe w1 ⟨bt,bl,g',lb,j,c.jn,l⟩ #[.func (.func 116) #[] #[.pointer (some ⟨bt,0,none⟩),.pointer (some ⟨bl,0,none⟩)]] rfl).weak (AG _),?_⟩;intro v5 w5 n m ax aP;exact Ac (Q1i (q:=⟨bt,bl,g',lb,j,c.jn,l⟩) hI (by rw[nu];exact hc) f1 ⟨nu.symm,rfl,f5,f6,TE⟩ f7 f2 f3 f4 (by show lb<_;omega) dO aP ax (fun i hi=>by have:=og i hi;omega))
   have WT:=Ac nu;clear MB fU hcr tu hI hgr hcc nu
   gi_wp2_with (first
    | (refine⟨trivial,?_⟩;refine(callsIn_wide.2 uI).mono ?_;rintro r w1⟨bt,bl,rfl,hr2,q,rfl,rfl,aG,HE⟩)
    | (gi_at_builtin;refine Lx rfl _ _ 157 rfl Tryz.underlying157 Tryz.infoSeq rfl (by decide) rfl hr2 rfl aG (by simp) (fun y _=>Xs y) (by rw[Aa WT];unfold maxLen;simp;omega) (by rw[Aa WT];simp;omega) ?_))
   intro v5 w5 ax aP;have HN:=HE v5 w5 _ _ ax aP;obtain⟨g5,aI,rfl⟩:=aP.form;clear ax aP hr2 aG HE uI;gi_wp2;go_roundw
   case rel=>exact⟨j+1,qs++[q],by omega,by go_num,by rw[AK,Aa WT];rfl,HN⟩
   case measure=>simp[intOf];omega
  ·have hd:decide (j<bs.length)=false:=by simpa using hlt
   have hI:=Aa HK;clear HK;subst nu;have YZ:qs.length<=1000:=by omega
   have nu:qs.length=a8.length:=by have:=Aa sY;omega
   obtain⟨aa,ke,kS⟩:=hI.row.slice;subst kS;have hgr:=Ab a7 hI.gr;have hszr:=hgr.size;have qZ:=Aa HST;obtain⟨Zc,UT⟩:∃Zc:Nat->Prop,Zc=fun i=>Zb i\/(W.heap.size<=i/\i<wr.heap.size):=⟨_,rfl⟩
   have zb:∀i,Zb i->Zc i:=fun i hi=>by rw[UT];exact .inl hi
   have zn:∀i,W.heap.size<=i->i<wr.heap.size->Zc i:=fun i h1 h2=>by rw[UT];exact .inr ⟨h1,h2⟩
   have oo:All3 n0 W.heap.size L Zc J qs wr 0 [] [] wr:=by
    refine⟨rfl,⟨by simp,List.Pairwise.nil⟩,⟨fun i=>Z1 i\/(W.heap.size<=i/\i<wr.heap.size),fun i hi=>?_,fun x hx=>by simp at hx,fun D hD=>by simp at hD,Aa HJ Z1 _ [] W wr none h0 hgr (by simp) (fun i hi=>.inl hi) (fun i hi=>hi)⟩,Kept.gr (AD _ _),List.nodup_nil,by simp⟩;rw[UT] at hi;rcases hi with hi|hi
    ·exact .inl (UW i hi)
    ·exact .inr hi
   have hyb:wr.heap[W.heap.size]?=some (.cells #[.func (.yield lp) #[] #[]] 156 (0,0)):=by rw[hI.gr.block _ (Ad hx0) (by simp)];exact hx0
   have yJ:∀b,(Value.slice aa qs.length ke).ownBlock=some b->Zc b:=fun b hb=>zn b (by have:=hI.new b hb;omega) (hI.row.own b hb).2
   have zL:∀(i:Nat) (q:Sq),qs[i]?=some q->NowAt U q.bt q.bl q.g q.lb q.ru q.jn q.l wr/\Zc q.bt/\Zc q.bl/\(q.l≠[]->Zc q.g)/\L q.lb/\q.jn<=4/\q.l.length<=1000000000:=by
    intro i q hq;obtain⟨k1,k2,k3,k4,k5⟩:=hI.lie q (AV hq);obtain⟨c,hc⟩:∃c,a8[i]?=some c:=⟨_,AB (by rw[<-nu];exact(AL.1 hq).1)⟩
    obtain⟨m1,m2,m3,m4,m5⟩:=hI.now i q c hq hc;have hcc:=hch c (AV hc);exact⟨k1,zn _ (by omega) k2.2,zn _ (by omega) k3.2,fun hne=>zn _ (by omega) (k4.2 hne),m5,by rw[m2];exact hcc.2.1,by rw[m3.length_eq];have:=hcc.2.2;omega⟩
   have ye:∀(j:Nat) (q:Sq) (s0 s:List Mv),qs[j]?=some q->s0.map (fun x=>(x.ru,x.jn,x.tok))=(qs.take j).flatMap (fun q=>q.l.map (fun t=>(q.ru,q.jn,t)))->s.length<q.l.length->(s0++s).length<N:=by
    intro j q s0 s hq hm hs;have h1:=BJ List.length hm;rw[BA,List.length_flatMap] at h1;simp only[BA] at h1
    have h2:(qs.map (fun q=>q.l.length)).sum=(a8.map (fun c=>c.e.toks.length)).sum:=by
     congr 1
     refine JN (fun i=>?_);rw[BR,BR];cases SM:qs[i]? with
     | none=>
      rw[List.getElem?_eq_none_iff] at SM;rw[JE (by omega)];rfl
     | some q2=>
      obtain⟨c,hc⟩:∃c,a8[i]?=some c:=⟨_,AB (by rw[<-nu];exact(AL.1 SM).1)⟩
      obtain⟨m1,m2,m3,m4,m5⟩:=hI.now i q2 c SM hc;rw[hc];simp only[DZ];rw[m3.length_eq]
    have h3:(qs.map (fun q=>q.l.length)).sum=((qs.take j).map (fun q=>q.l.length)).sum+((qs.drop j).map (fun q=>q.l.length)).sum:=by
     rw[<-List.sum_append,<-CG,DO]
    have h4:q.l.length<=((qs.drop j).map (fun q=>q.l.length)).sum:=by
     obtain⟨iQ,pX⟩:=AL.1 hq;rw[CP iQ,pX,DN,List.sum_cons];omega
    rw[AK];omega
   have aK:Pq a8 qs:=⟨nu,fun i q c hq hc=>by obtain⟨m1,m2,m3,m4,m5⟩:=hI.now i q c hq hc;exact⟨m1,m2,m3,m4⟩⟩
   have OM:=Ac oo;have dD:=Ac hI.row;have HYB:=Ac hyb;have WL:=Ac yJ;have r5:=Ac zL;have qy:=Ac ye;have fe:=Ac aK;have HY:=Ac hY;have gD:=qZ.from0;clear oo hI hyb yJ zL ye aK hY qZ d0 d1 nu;gi_wp2;refine wpIn_loop (fun a' w'=>∃(j:Nat) (s0:List Mv) (Ds:List Nat) (u7 u30 u31 u32 u33 u39:Value),j<=qs.length/\Hid (All3 n0 W.heap.size L Zc J qs wr j s0 Ds w')/\a'={ tmps:=#[Value.func (Fn.yield lp) #[] #[],.pointer (some ⟨bn,0,none⟩),.pointer (some ⟨W.heap.size,0,none⟩),.slice aa qs.length ke,undef,u5,undef,u7,undef,.pointer (some ⟨nb,0,none⟩),.pointer (some ⟨nb,0,none⟩),.pointer (some ⟨nb,0,none⟩),.slice ao bs.length cap,.int .i64 bs.length,.int .i64 qs.length,.bool false,u16,u17,u18,u19,u20,u21,u22,u23,u24,u25,u26,.slice aa qs.length ke,.int .i64 qs.length,.int .i64 j,u30,u31,u32,u33,undef,undef,undef,undef,undef,u39],defers:=Ds.map (fun D=>{ target:=.collected D,args:=#[] }) }) (fun a' _=>qs.length-(intOf (a'.tmps.getD 29 undef)).toNat) ?_ ?_
   ·exact⟨0,[],[],undef,undef,undef,undef,undef,undef,AG _,OM,rfl⟩
   ·clear OM
    rintro a' w2⟨j,s0,Ds,u7,u30,u31,u32,u33,u39,hj,HA,rfl⟩;by_cases hlt:j<qs.length
    ·have bZ:decide (j<qs.length)=true:=by simpa using hlt
     have hA:=Aa HA;clear HA;obtain⟨q,hq⟩:∃q,qs[j]?=some q:=⟨_,AB hlt⟩
     obtain⟨g,cp,hv,hcs⟩:=((Aa dD).keptI hA.kept (Aa WL)).cells hq;simp only[AH,BP] at hv;obtain⟨rfl,rfl⟩:=hv;have q0:w2.cell? ⟨g,j,none⟩=some (.func (.func 116) #[] #[.pointer (some ⟨q.bt,0,none⟩),.pointer (some ⟨q.bl,0,none⟩)]):=by have:=hcs 0 (by omega);rw[FB,EG] at this;exact this
     have OJ:=Ac hA;clear hcs hA;gi_wp2;have hA:=Aa OJ;obtain⟨Z,rU,hin,hzd,VM⟩:=hA.zs;have hsw:=hA.kept.size;obtain⟨n1,n2,n3,n4,n5,n6,n7⟩:=Aa r5 j q hq;have MA:=n1.keptI hA.kept (fun i hi=>zb i (hUz i hi)) n2 n3 n4 n5;have hDl:∀D∈Ds,D<w2.heap.size:=fun D hD=>Ad (hA.marks D hD).2
     refine Sf rfl (by omega) (f:=116) (caught:=#[.pointer (some ⟨q.bt,0,none⟩),.pointer (some ⟨q.bl,0,none⟩)]) rfl trivial (enters_of Tryz.func116 (by kernel_rfl) rfl)
      (Tt _ Z L U q.bt q.bl q.g q.lb q.ru q.jn w2.heap.size q.l n6 n7 (fun i hi=>rU i (zb i (hUz i hi))) (rU _ n2) (rU _ n3) (fun hne=>rU _ (n4 hne)) n5) (fun _=>rfl)
      (fun B hB=>⟨MA.keptI (Z:=fun _=>True) (L:=fun _=>True) (Kept.gr hB) (fun _ _=>trivial) trivial trivial (fun _=>trivial) trivial,hB.size⟩)
      (fun Z' s A B row h hg hr=>⟨⟨h.1.1,MvsOk.own _ _ s A B row h.1.2 hg hr⟩,h.2⟩) (fun Z' s A B row h hg hr=>⟨⟨h.1.1,MvsOk.own _ _ s A B row h.1.2 hg hr⟩,h.2⟩)
      (InZ J Z L Ds s0 w2) (fun c Zi s W'=>c=.ret/\InZ Jx Z L Ds s0 w2 Zi s W') (InZ.bears (Aa HJ) (by omega) hDl) (fun c Zi WJ s A B row h hg hr hm hz=>⟨h.1,InZ.bears (Aa XB) (by omega) hDl Zi WJ s A B row h.2 hg hr hm hz⟩) Z (fun _ h=>h) ?h0
      (fun x b W'=>∃Bx,W'.heap[Bx]?=some (.cells #[.int .i64 x.ru,.slice x.ao x.jn x.cap] 52 (0,0))/\b={ tmps:=#[Value.func (Fn.yield lp) #[] #[],.pointer (some ⟨bn,0,none⟩),.pointer (some ⟨W.heap.size,0,none⟩),.slice (some ⟨g,0,none⟩) qs.length ke,undef,u5,undef,.func (.func 116) #[] #[.pointer (some ⟨q.bt,0,none⟩),.pointer (some ⟨q.bl,0,none⟩)],.pointer (some ⟨Bx,0,none⟩),.pointer (some ⟨nb,0,none⟩),.pointer (some ⟨nb,0,none⟩),.pointer (some ⟨nb,0,none⟩),.slice ao bs.length cap,.int .i64 bs.length,.int .i64 qs.length,.bool false,u16,u17,u18,u19,u20,u21,u22,u23,u24,u25,u26,.slice (some ⟨g,0,none⟩) qs.length ke,.int .i64 qs.length,.int .i64 j,.bool true,.pointer (some ⟨g,j,none⟩),.func (.func 116) #[] #[.pointer (some ⟨q.bt,0,none⟩),.pointer (some ⟨q.bl,0,none⟩)],.func (.func 116) #[] #[.pointer (some ⟨q.bt,0,none⟩),.pointer (some ⟨q.bl,0,none⟩)],.agg #[.int .i64 x.ru,.slice x.ao x.jn x.cap],undef,undef,undef,undef,u39],defers:=[] }) ?VX ?assign ?body ?done ?left
     case h0=>exact⟨fun i hi=>hi,Kept.gr (AD _ _),fun D hD=>(hA.marks D hD).2,by rw[BM];exact VM⟩
     case VX=>
      rintro x b _ A B row⟨Bx,h1,h2⟩ hg hr;refine⟨Bx,?_,h2⟩;rw[hg.block Bx (Ad h1) (fun e=>?_)]
      ·exact h1
      ·obtain⟨_,o,ho,hc⟩:=hr Bx e.symm
       rw[h1] at ho;cases ho
       cases hc
     case assign=>
      rintro l Zi s x W' K hi hK;have dO:=AA W' (.cells #[.int .i64 x.ru,.slice x.ao x.jn x.cap] 52) none;have hk:=hK _ _ ((KeepsOthers.alloc W' (.cells #[.int .i64 x.ru,.slice x.ao x.jn x.cap] 52)).from _) (Kept.gr dO) (InZ.bears (Aa HJ) (by omega) hDl Zi Zi s _ _ none hi dO (by simp) (fun i h=>h) (fun i h=>.inl h)) ⟨W'.heap.size,AR _ _,rfl⟩;unfold To;clear hK hA OJ n1 MA r5 qy;gi_wp2;exact hk
     case body=>
      rintro l Zi s x b W' hl hr hI⟨Bx,oh,rfl⟩ hlen;have hyb:=((hA.kept.trans (hI.2.1.mono rU)).blks _ _ _ _ (zn W.heap.size (AW _) (Ad (Aa HYB))) (Aa HYB))
      have y0:W'.cell? ⟨W.heap.size,0,none⟩=some (.func (.yield lp) #[] #[]):=by simp[World.cell?,hyb]
      have x0:W'.cell? ⟨Bx,0,none⟩=some (.int .i64 x.ru):=by simp[World.cell?,oh]
      have x1:W'.cell? ⟨Bx,1,none⟩=some (.slice x.ao x.jn x.cap):=by simp[World.cell?,oh]
      have ou:=YieldAt.wide (m':=2) (Aa HY Zi (s0++s) x W' hI.2.2.2 (Aa qy j q s0 s hq hA.map hlen));have hDm:∀D∈Ds,W.heap.size<=D:=fun D hD=>(hA.marks D hD).1
      have hend:∀B,KeepsFrom W.heap.size W' B->Kept Zi L W' B->(J Zi (s0++s++[x]) B->KeepsFrom w2.heap.size W' B/\Kept Zi L W' B/\InZ J Z L Ds s0 w2 Zi (s++[x]) B)/\(Jx Zi (s0++s++[x]) B->KeepsFrom w2.heap.size W' B/\Kept Zi L W' B/\InZ Jx Z L Ds s0 w2 Zi (s++[x]) B):=fun B h1 h2=>⟨fun h=>hI.step (by omega) hDm h1 h2 h,fun h=>hI.step (by omega) hDm h1 h2 h⟩
      unfold To at ou;obtain⟨fn,tmps,assign,body,hy,hR⟩:=ou;have bD:=Ac hend;clear hend hA OJ n1 MA r5 qy hI oh hyb HY hlen hr;gi_wp2;refine(show RoundIn (Fence.wide.inRound l) 2 Tryz.prog lp fn tmps assign body W' _ from hR).mono ?_;rintro e B⟨k1,k2,⟨rfl,h3⟩|⟨rfl,h3⟩⟩
      ·have HF:=Ac ((Aa bD B k1 k2).1 h3)
       clear k1 k2 h3 bD hR hy;gi_wp2;exact Aa HF
      ·have HF:=Ac ((Aa bD B k1 k2).2 h3)
       clear k1 k2 h3 bD hR hy;gi_wp2;obtain⟨f1,f2,f3⟩:=Aa HF;exact⟨f1,f2,rfl,f3⟩
     case done=>
      rintro Zi s W' hS hI OS hD;have hN:=hA.next rU hin hzd OS hq hI hS hD (by omega) (by omega);have HN:=Ac hN;clear hN hS hI hA OJ n1 MA r5 qy;gi_wp2;exact⟨⟨j+1,s0++s,w2.heap.size::Ds,_,_,_,_,_,_,by omega,HN,rfl⟩,by simp[intOf];omega⟩
     case left=>
      rintro c Zi s W' hS⟨rfl,hI⟩ OS hD
      have hzz:∀D∈w2.heap.size::Ds,Zi D:=fun D uQ=>by
       rcases CQ.1 uQ with rfl|uQ
       ·exact OS
       ·exact hI.1 D (hzd D uQ)
      have hN:=hA.left hin hq hI hS (by omega)
      have hmk:∀D∈w2.heap.size::Ds,W.heap.size<=D/\W'.heap[D]?=some (.deferred (some [])):=by
       intro D uQ;rcases CQ.1 uQ with rfl|uQ
       ·exact⟨by omega,hD⟩
       ·exact⟨(hA.marks D uQ).1,hI.2.2.1 D uQ⟩
      have tE:(w2.heap.size::Ds).Nodup:=IZ.2 ⟨fun h=>by have:=hDl _ h;omega,hA.nodup⟩;have HN:=Ac hN;have WZ:=Ac hmk;have HND:=Ac tE;have HZZ:=Ac hzz;clear hN hS hI hA OJ n1 MA r5 qy hmk tE;gi_wp2;obtain⟨f1,f2,f3,f4⟩:=Aa HN;exact Fr (fun _=>results_none rfl _ _ _) (fun B=>MvsOk n0 (s0++s) B/\Jx Zi (s0++s) B) (fun B h=>⟨⟨_,rfl⟩,.inr ⟨Zi,s0++s,⟨⟨⟨qs,Aa fe,f1⟩,h.1⟩,f3⟩,h.2⟩⟩) (w2.heap.size::Ds) W' (Aa HND) (fun D hD=>(Aa WZ D hD).2) ⟨f2,f4⟩ (fun A D hD h hb=>⟨(MvsOk.own W.heap.size n0).putObj _ h.1 (Aa WZ D hD).1 hb rfl,(Aa XB).put _ h.2 (Aa WZ D hD).1 (Aa HZZ D hD) hb rfl⟩)
    ·have bZ:decide (j<qs.length)=false:=by simpa using hlt
     gi_wp2;have hA:=Aa HA;have hjq:j=qs.length:=by omega
     obtain⟨Z,rU,hin,hzd,VM⟩:=hA.zs
     have hAS:AllS qs s0:=by
      unfold AllS;rw[hA.map,hjq,CA (AW _)]
     exact Fr (fun _=>results_none rfl _ _ _) (fun B=>MvsOk n0 s0 B/\J Z s0 B) (fun B h=>⟨⟨_,rfl⟩,.inl ⟨Z,s0,⟨⟨⟨qs,Aa fe,hAS⟩,h.1⟩,hin⟩,h.2⟩⟩) Ds w2 hA.nodup (fun D hD=>(hA.marks D hD).2) ⟨hA.mv,VM⟩ (fun A D hD h hb=>⟨(MvsOk.own W.heap.size n0).putObj _ h.1 (hA.marks D hD).1 hb rfl,(Aa HJ).put _ h.2 (hA.marks D hD).1 (hzd D hD) hb rfl⟩)
end Go.Proofs.YtolhbeekfjnfmaaGreatDoor

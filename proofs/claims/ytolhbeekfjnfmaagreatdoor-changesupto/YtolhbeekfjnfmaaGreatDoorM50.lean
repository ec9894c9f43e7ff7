import Derived.Test.YtolhbeekfjnfmaaGreatDoorM49
set_option maxHeartbeats 8000000
set_option maxRecDepth 100000
namespace Go.Proofs.YtolhbeekfjnfmaaGreatDoor
open Go.RowKit
variable {x y x0 y0:Value}{ty ty2:Nat}{w:World}
theorem XSt.fireFit{s:Sv.St}{F:List Ft}{a8:List Ch}{Zs:List (List Tok)}(h:XSt s F a8 Zs):∀c∈a8,FireFit c:=by
 intro c hc;obtain⟨i,hi⟩:=EZ hc;have eE:i<s.rs.length:=by have:=(AL.1 hi).1;rw[h.rules.len.1] at this;exact this
 obtain⟨c2,Z,p1,p2,p3⟩:=h.rules.get (AB eE);rw[hi] at p1;simp only[AE] at p1;subst p1;have hb:=(p3.ok.fit p3.fd p3.few h.few).bd;have gY:=(p3.ok.fit p3.fd p3.few h.few).few;have hwl:c.e.wait.length<=1000000000:=(hb.small gY (by have:20 ^ c.ns.length<=20 ^ 4:=DL (by omega) gY;omega)).2.2;refine⟨p3.ok.heap,fun t ht=>p3.ok.jlen p3.few t (p3.fd.mem_iff.2 (AY.2 (.inl ht))),?_,hwl⟩;rw[p3.ok.jn];have:=Qi s.rs[i].conds 0;have:=p3.few;omega
theorem N9{s:Sv.St}{F:List Ft}{a8:List Ch}{Zs:List (List Tok)}(h:XSt s F a8 Zs):s.fire=match Es none 0 a8 with
  | none=>(((0,[]),5),s)
  | some (i,t)=>((((i:Int),t.ids),0),⟨s.rs,s.L,s.cnt,s.fired++[((i:Int),t.ids)]⟩):=by
 have hn:=h.next;unfold Sv.St.fire;rw[<-hn];cases Es none 0 a8 with
 | none=>rfl
 | some p=>rfl
theorem Xo{b:Nat}(h:w.heap[b]?=some (.cells #[x0,y0] ty (0,0))) :
  ((w.alloc (.cells #[x,y] ty2)).cell? ⟨b,0,none⟩=some x0/\(w.alloc (.cells #[x,y] ty2)).cell? ⟨b,1,none⟩=some y0/\∀k,(w.alloc (.cells #[x,y] ty2)).frozen? ⟨b,k,none⟩=false)/\
  ((((w.alloc (.cells #[x,y] ty2)).setCell ⟨b,0,none⟩ x).setCell ⟨b,1,none⟩ y).cell? ⟨b,0,none⟩=some x/\(((w.alloc (.cells #[x,y] ty2)).setCell ⟨b,0,none⟩ x).setCell ⟨b,1,none⟩ y).cell? ⟨b,1,none⟩=some y/\((w.alloc (.cells #[x,y] ty2)).setCell ⟨b,0,none⟩ x).cell? ⟨b,0,none⟩=some x)/\
  w.grownBy (((w.alloc (.cells #[x,y] ty2)).setCell ⟨b,0,none⟩ x).setCell ⟨b,1,none⟩ y) (some b):=by
 have hg1:=AA w (.cells #[x,y] ty2) none;have a1:=(hg1.block b (Ad h) (by simp)).trans h;have k1:=BB _ b 0 _ _ x a1;have k2:=BB _ b 1 _ _ y k1;exact⟨⟨Az a1 rfl,Az a1 rfl,fun k=>by simp[World.frozen?,a1]⟩,⟨Az k2 rfl,Az k2 rfl,Az k1 rfl⟩,Ab (A6 hg1 (some b)) (Ab (Aj _ b 0 x) (Aj _ b 1 y))⟩
theorem Q3y{w1:World}(hg:w.grownBy w1 none)(h:w1.heap[w.heap.size]?=some (.cells #[x0,y0] ty (0,0))) :
  ((w1.alloc (.cells #[x,y] ty2)).cell? ⟨w.heap.size,0,none⟩=some x0/\(w1.alloc (.cells #[x,y] ty2)).cell? ⟨w.heap.size,1,none⟩=some y0/\∀k,(w1.alloc (.cells #[x,y] ty2)).frozen? ⟨w.heap.size,k,none⟩=false)/\
  ((((w1.alloc (.cells #[x,y] ty2)).setCell ⟨w.heap.size,0,none⟩ x).setCell ⟨w.heap.size,1,none⟩ y).cell? ⟨w.heap.size,0,none⟩=some x/\(((w1.alloc (.cells #[x,y] ty2)).setCell ⟨w.heap.size,0,none⟩ x).setCell ⟨w.heap.size,1,none⟩ y).cell? ⟨w.heap.size,1,none⟩=some y/\((w1.alloc (.cells #[x,y] ty2)).setCell ⟨w.heap.size,0,none⟩ x).cell? ⟨w.heap.size,0,none⟩=some x)/\
  w.grownBy (((w1.alloc (.cells #[x,y] ty2)).setCell ⟨w.heap.size,0,none⟩ x).setCell ⟨w.heap.size,1,none⟩ y) none:=by
 obtain⟨h1,h2,h3⟩:=Xo (x:=x) (y:=y) (ty2:=ty2) h;exact⟨h1,h2,Bi hg h3 (AW _)⟩
theorem Q4b(T:Nat->Nat)(t c x:Nat)(s:Sv.St)(w:World)(h:XT T t x s w) :
  Calls Tryz.prog 29 #[.pointer (some ⟨x,0,none⟩)] w fun e w'=>∃ao cap T',e=.returned (.tuple #[.agg #[.int .i64 s.fire.1.1.1,.slice ao s.fire.1.1.2.length cap],.int .i64 s.fire.1.2])/\GrS (fun k=>T k=t) w w'/\IsAt w.heap.size (.slice ao s.fire.1.1.2.length cap) s.fire.1.1.2 w'/\XT T' t x s.fire.2 w'/\(∀k,k<w.heap.size->T' k=T k)/\∀k,w.heap.size<=k->T' k=c:=by
 obtain⟨U,nb,fv,F,a8,Zs,h1,h2,h3,h4,h5⟩:=h;have a7:=AA w (.cells #[.int .i64 0,.slice none 0 0] 52) none;obtain⟨U',oK⟩:∃U':Nat->Nat,U'=fun k=>if k<w.heap.size then U k else 0:=⟨_,rfl⟩
 have c0:w.cell? ⟨x,0,none⟩=some (.pointer (some ⟨nb,0,none⟩)):=by simp[World.cell?,h1.blk]
 have NA:=a7.cell c0 (by simp);have jf:NetAt U nb a8 (w.alloc (.cells #[.int .i64 0,.slice none 0 0] 52)):=h1.net.keep (gone_ofB a7:GrS (fun _=>False) _ _) (by simp) (fun _ _=>rfl);have hF:=Q18 U nb a8 _ jf (fun k hk=>h5 k (AU a7.size hk)) h2.fireFit;have hfn:=N9 h2;have rO:=AR w (.cells #[.int .i64 0,.slice none 0 0] 52);unfold Jd at hF;rw[hfn]
 have bo:∀w',GrS (fun k=>4<=U k) w w'->(∀sO,NetAt U nb sO w'->XAt U x nb fv F s.cnt sO w'):=by
  intro w' hG sO hN;have kB:∀i,U i<4->¬ (4<=U i):=fun i hi h=>by omega
  exact⟨hG.blk h1.blk (kB x (by rw[h1.ux];omega)),h1.ux,h1.facts.keep2 hG (fun i hi=>kB i (by omega)) (fun _ _ e=>e),fun g hg=>(h1.fts g hg).keep hG (fun i hi=>kB i (by omega)) (fun _ _ e=>e),hN⟩
 obtain⟨T',bR⟩:∃T':Nat->Nat,T'=fun k=>if k<w.heap.size then T k else c:=⟨_,rfl⟩
 have t0:∀k,k<w.heap.size->T' k=T k:=fun k hk=>by rw[bR];dsimp only;rw[AQ hk]
 have t1:∀k,w.heap.size<=k->T' k=c:=fun k hk=>by rw[bR];dsimp only;rw[AO (by omega)]
 have hlt:∀i,U i≠0->i<w.heap.size:=fun i hi=>by
  rcases FL i w.heap.size with h|h
  ·exact h
  ·exact absurd (h5 i h) hi
 have PX:∀w' s' sO eZ,GrS (fun k=>4<=U k) w w'->NetAt U nb sO w'->XSt s' F sO eZ->s'.cnt=s.cnt->XT T' t x s' w':=by
  intro w' s' sO eZ hG hN hS hc;refine⟨U,nb,fv,F,sO,eZ,by rw[hc];exact bo w' hG sO hN,hS,fun i hi=>?_,fun i hi=>?_,fun i hi=>h5 i (AU hG.size hi)⟩
  ·rw[t0 i (hlt i (by omega))];exact h3 i hi
  ·rw[t0 i (hlt i (by omega))];exact h4 i hi
 have qV:∀k,4<=U k->T k=t:=fun k hk=>h4 k (by omega)
 cases hb:Es none 0 a8 with
 | none=>
  rw[hb] at hF;simp only at hF⊢;have HE:=Ac (fun(w':World) (hg:w.grownBy w' none)=>show GrS (fun k=>T k=t) w w'/\XT T' t x s w' from⟨gone_ofB hg,PX w' s a8 Zs (gone_ofB hg) (h1.net.keep (gone_ofB hg:GrS (fun _=>False) _ _) (by simp) (fun _ _=>rfl)) h2 rfl⟩);have di:=Ac a7;have xz:=Ac rO;clear h1 h2 h3 h4 h5 jf hfn bo PX qV hlt hb rO a7 c0;go_enter Tryz.func29,Tryz.ntmps29;go_wp2_with fail;refine hF.mono ?_;rintro e w1⟨rfl,hg1⟩;have hr1:=(hg1.block w.heap.size (Ad (Aa xz)) (by simp)).trans (Aa xz);obtain⟨⟨y0,y1,yf⟩,⟨z0,z1,_⟩,iR⟩:=Q3y (x:=.int .i64 0) (y:=.slice none 0 0) (ty2:=52) (Ab (Aa di) hg1) hr1;obtain⟨e1,e2⟩:=Aa HE _ iR;have HF:=Ac (show _/\_/\_ from⟨e1,e2,iR⟩);clear hF NA e1 e2 iR hr1 HE hg1;go_wp2_with fail;exact BO (v:=.tuple #[.agg #[.int .i64 0,.slice none 0 0],.int .i64 5]) (by simp[results,Tryz.results29,go_sem,z0,z1]) rfl ⟨none,0,T',rfl,(Aa HF).1,RowAt.nil _ _ At,(Aa HF).2.1,t0,t1⟩
 | some pr=>
  obtain⟨i,u⟩:=pr;rw[hb] at hF;simp only at hF⊢
  have HE:=Ac (fun(w1 w':World) (c2:Ch) (hc:a8[i]?=some c2) (hu:c2.e.wait[0]?=some u) (hN:NetAt U nb (a8.set i (Hr c2)) w1) (hG:GrS (fun k=>4<=U k) (w.alloc (.cells #[.int .i64 0,.slice none 0 0] 52)) w1) (hg:w1.grownBy w' (some w.heap.size))=>show GrS (fun k=>T k=t) w w'/\XT T' t x ⟨s.rs,s.L,s.cnt,s.fired++[((i:Int),u.ids)]⟩ w' from by
   obtain⟨eZ,hS⟩:=h2.fire hc hu;have hGw:GrS (fun k=>4<=U k) w w':=((gone_ofB a7:GrS (fun k=>4<=U k) w _).trans hG).then hg (fun k hk=>by simp at hk;subst hk;exact .inl (AW _))
   have hN':NetAt U nb (a8.set i (Hr c2)) w':=hN.keep (GrS.of hg (fun k hk=>by simp at hk;exact hk.symm):GrS (fun k=>k=w.heap.size) w1 w') (fun k hk e=>by have:=h5 k (by rw[e];exact AW _);omega) (fun _ _=>rfl);exact⟨hGw.mono qV,PX w' _ _ eZ hGw hN' hS rfl⟩)
  have di:=Ac a7;have xz:=Ac (show _/\U w.heap.size=0 from⟨rO,h5 _ (AW _)⟩);clear h1 h2 h3 h4 h5 jf hfn bo PX qV hlt hb rO a7 c0;go_enter Tryz.func29,Tryz.ntmps29;go_wp2_with fail;refine hF.mono ?_;rintro e w1⟨bf,aC,c2,rfl,hv,hc,hu,hN,hG⟩;have hr1:=hG.blk (Aa xz).1 (fun e=>by have:=(Aa xz).2;have e':4<=U w.heap.size:=e;omega);obtain⟨⟨y0,y1,yf⟩,⟨z0,z1,_⟩,iR⟩:=Xo (x:=.int .i64 i) (y:=.slice bf u.length aC) (ty2:=52) hr1;obtain⟨e1,e2⟩:=Aa HE w1 _ c2 hc hu hN hG iR;have hsz:w.heap.size<(w.alloc (.cells #[.int .i64 0,.slice none 0 0] 52)).heap.size:=Ad (Aa xz).1;have hv2:IsAt w.heap.size (.slice bf u.length aC) u.ids _:=(hv.other iR (fun g hg e=>by have:=(hv.own g hg).1;simp at e;omega)).weak (by omega);have HF:=Ac (show _/\_/\_ from⟨e1,e2,hv2⟩);have gB:u.ids.length=u.length:=by unfold Tok.ids;rw[BA]
  clear hF NA e1 e2 iR hr1 HE hv hc hu hN hG hv2;go_wp2_with fail;exact BO (v:=.tuple #[.agg #[.int .i64 i,.slice bf u.length aC],.int .i64 0]) (by simp[results,Tryz.results29,go_sem,z0,z1]) rfl ⟨bf,aC,T',by rw[gB],(Aa HF).1,by rw[gB];exact(Aa HF).2.2,(Aa HF).2.1,t0,t1⟩
end Go.Proofs.YtolhbeekfjnfmaaGreatDoor

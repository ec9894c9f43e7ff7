import Derived.Test.YtolhbeekfjnfmaaGreatDoorA50
namespace Go.Proofs.YtolhbeekfjnfmaaGreatDoor
open Go.RowKit Go.Proofs.Tryz
variable {U0 T T' T0:Nat->Nat}{t x nb m W tx ty y lb ob n:Nat}{s:List Mv}{s0 st:Q0F}{F0:List Ft}{fM:List Ch}{wM:List (List Tok)}{w A B:World}{Z:Nat->Prop}{nv uv fv mv k0 k1 k2 v lv:Value}{us fs ms:List (Value×Int)}{fr:Prop}{ls:List Value}
theorem Q1D.shape{F F0:List Ft}:∀(rs:List Q0C) (a8 fM:List Ch) (Zs wM:List (List Tok)),Q1D F rs a8 Zs->Q1D F0 rs fM wM->a8.map (λc=>(c.jn,c.ns.length))=fM.map (λc=>(c.jn,c.ns.length))
 |[],a8,fM,Zs,wM,h,h0=>by
  have h1:=h.len.1;have h2:=h0.len.1;rw[CD,CJ]at h1 h2;rw[h1,h2]
 |r::rs,c::a8,c0::fM,Z::Zs,Z0::wM,h,h0=>by
  rw[DF,DF,Q1D.shape rs a8 fM Zs wM h.2 h0.2,h.1.ok.jn,h0.1.ok.jn,h.1.ok.good.len,h0.1.ok.good.len]
 |_::_,[],_,_,_,h,_=>by have:=h.len.1;simp at this
 |_::_,_,[],_,_,_,h=>by have:=h.len.1;simp at this
 |_::_,_,_,[],_,h,_=>by have:=h.len.2;simp at this
 |_::_,_,_,_,[],_,h=>by have:=h.len.2;simp at this
theorem Lk:∀(cs ds:List Ch) (q:Nat),cs.map (λc=>(c.jn,c.ns.length))=ds.map (λc=>(c.jn,c.ns.length))->Cd q cs=Cd q ds
 |[],[],_,_=>rfl
 |[],_::_,_,h=>by simp at h
 |_::_,[],_,h=>by simp at h
 |c::cs,d::ds,q,h=>by
  simp only[DF,GN,CE]at h;unfold Cd;rw[h.1.2];exact Lk cs ds _ h.2
def Q1b(U:Nat->Nat)(a8:List Ch)(i:Nat):Prop:=∃j c,a8[j]?=some c/\U i=4+3*(Cd 0 (a8.take j)+c.ns.length)/\∀k,k<i->U k≠U i
theorem XU.lastCells{U:Nat->Nat}{i j:Nat}{c:Ch}{s:Q0F}(h:XU U T t x nb s w)(h0:XSt s0 F0 fM wM)(bO:s.rs=s0.rs)(hU:∀k,k<m->U k=U0 k)(hi:i<m)(hc:fM[j]?=some c)(ho:U0 i=4+3*(Cd 0 (fM.take j)+c.ns.length))(hl:∀k,k<i->U0 k≠U0 i):w.cell? ⟨i,2,none⟩=some (.int .i64 j)/\w.cell? ⟨i,3,none⟩=some (.int .i64 c.jn):=by
 obtain⟨fv,F,a8,Zs,h1,h2,h3,h4,h5⟩:=h;have dL:=Q1D.shape s0.rs a8 fM Zs wM (by rw[<-bO];exact h2.rules) h0.rules;have hj:=BJ (λl:List (Nat×Nat)=>l[j]?) dL;simp only[BR,hc,DM]at hj;obtain⟨c1,hc1,he⟩:=EJ.1 hj;simp only[CE]at he;have hq:Cd 0 (a8.take j)=Cd 0 (fM.take j):=Lk _ _ 0 (by rw[JR,JR,dL]);obtain⟨cv,bs,k1,k2,k3,k4⟩:=h1.net;obtain⟨b,hb,sX⟩:=k4.get hc1;obtain⟨lb,tv,wv,_,fC⟩:=sX.lastAt;have how:=fC.own;have hlo:=fC.low;rw[hq,he.2]at how hlo;have hUi:U i=4+3*(Cd 0 (fM.take j)+c.ns.length):=by rw[hU i hi,ho]
 have hle:lb<=i:=by rcases EF i lb with hlt|hge;{exact absurd hUi (hlo i hlt)};{exact hge}
 have e:lb=i:=by rcases EF lb i with hlt|hge;{have:=hl lb hlt;rw[<-hU lb (by omega),<-hU i hi,how,hUi]at this;exact absurd rfl this};{omega}
 subst e;have aD:=fC.blk;rw[he.1,BU]at aD;exact⟨by simp[World.cell?,aD],by simp[World.cell?,aD]⟩
def XN(U0:Nat->Nat)(m nb:Nat)(T:Nat->Nat)(t x:Nat)(s:Q0F)(w:World):Prop:=∃U,XU U T t x nb s w/\m<=w.heap.size/\∀k,k<m->U k=U0 k
theorem XN.xt{U0 T:Nat->Nat}{m nb t x:Nat}{s:Q0F}{w:World}(h:XN U0 m nb T t x s w):XT T t x s w:=by obtain⟨U,h,_⟩:=h;exact h.xt
theorem XN.keep{U0 T T':Nat->Nat}{m nb t x:Nat}{s:Q0F}{w w':World}{S:Nat->Prop}(h:XN U0 m nb T t x s w)(hg:GrS S w w')(hs:∀k,T k=t\/T k=0->¬ S k)(ho:∀k,k<w.heap.size->T k=t\/T k=0->T' k=T k):XN U0 m nb T' t x s w':=by obtain⟨U,h1,h2,h3⟩:=h;exact⟨U,h1.keep hg hs ho,AU h2 hg.size,h3⟩
theorem Q4v(U0:Nat->Nat)(m nb:Nat):Q5K (XN U0 m nb) where
 keep:=λh hg hs ho=>h.keep hg hs ho
 add:=λT t x s f fa fc w _ h _ hc hin hne=>by
  obtain⟨U,h1,h2,h3⟩:=h;refine(Q5j U T t x nb s f fa fc w h1 hc hin.inAt hin.le hne).mono ?_;rintro e w'⟨he,hG,U',T',h4,h5⟩;exact⟨he,hG,T',⟨U',h4,AU h2 hG.size,λk hk=>by rw[(h5 k (AV hk h2)).1,h3 k hk]⟩,λk hk=>(h5 k hk).2⟩
 facts:=λT t x s w _ h _=>Yu T t x s w h.xt
 mats:=λT t x s w _ h _=>Yv T t x s w h.xt
theorem Q06(U0:Nat->Nat)(m nb:Nat)(T:Nat->Nat)(t x:Nat)(s:Q0F)(id:Int)(w:World)(h:XN U0 m nb T t x s w):Calls prog 27 #[.pointer (some ⟨x,0,none⟩),.int .i64 id] w λe w'=>e=.returned (.int .i64 (s.del id).1)/\GrS (λk=>T k=t) w w'/\∃T',XN U0 m nb T' t x (s.del id).2 w'/\∀k,k<w.heap.size->T' k=T k:=by obtain⟨U,h1,h2,h3⟩:=h;refine(Q08 U T t x nb s id w h1).mono ?_;rintro e w'⟨he,hG,U',T',h4,h5⟩;exact⟨he,hG,T',⟨U',h4,AU h2 hG.size,λk hk=>by rw[(h5 k (AV hk h2)).1,h3 k hk]⟩,λk hk=>(h5 k hk).2⟩
theorem W9{s s':Q0F}{S:Nat->Prop}(hG:GrS S A B)(hz:∀i,Z i->¬ S i)(hA:XN U0 m nb T t x s A)(hB:XN U0 m nb T' t x s' B)(h0:XSt s0 F0 fM wM)(hr:s.rs=s0.rs)(hr':s'.rs=s0.rs)(hm:∀i,U0 i≠0->i<m):Kept Z (Q1b U0 fM) A B:=by refine⟨hG.size,λi cs ty fz hzi hi=>hG.blk hi (hz i hzi),?_⟩;rintro i k v⟨j,c,hc,ho,hl⟩ hk hv;have him:=hm i (by omega);obtain⟨U,a1,_,a3⟩:=hA;obtain⟨U',b1,_,b3⟩:=hB;obtain⟨x1,x2⟩:=a1.lastCells h0 hr a3 him hc ho hl;obtain⟨y1,y2⟩:=b1.lastCells h0 hr' b3 him hc ho hl;rcases hk with rfl|rfl;{rw[y1,<-x1];exact hv};{rw[y2,<-x2];exact hv}
abbrev cI:Nat:=3000000000013
theorem Q34:InH cI:=⟨by decide,by decide⟩
structure GoK(T0:Nat->Nat)(tx ty lb ob:Nat)(w:World):Prop where
 ktx:11<=tx/\tx≠cI
 kty:11<=ty/\ty≠cI
 kne:tx≠ty
 klb:T0 lb=cI/\lb<w.heap.size
 kob:T0 ob=cI/\ob<w.heap.size
 kbo:lb≠ob
structure GoS(T0 U0:Nat->Nat)(W tx ty x y nb lb ob n:Nat)(nv uv fv mv k0 k1 k2:Value)(us fs ms:List (Value×Int))(w:World)(fr:Prop)(st:Q0F)(Z:Nat->Prop)(s:List Mv)(T:Nat->Nat)(v lv:Value)(ls:List Value)(A:World):Prop where
 lists:Q1J T W nv uv fv mv k0 k1 k2 lv us fs ms ls A
 lsl:ls.length<=n
 nx:XN U0 w.heap.size nb T tx x st A
 ny:YT T ty y st A
 old:∀k,k<w.heap.size->T k=T0 k
 gr:GrS (λk=>T0 k=1\/T0 k=9\/T0 k=tx\/T0 k=ty\/T0 k=cI) w A
 lbx:A.heap[lb]?=some (.cells #[v] 43 (0,0))
 obx:A.heap[ob]?=some (.cells #[.bool true] 4 (0,0))
 row:Q0B 52 2 mrow 0 v s A
 rown:∀g,v.ownBlock=some g->w.heap.size<=g/\T g=cI/\¬ Z g
 zs:∀i,Z i->i<A.heap.size/\(i<w.heap.size->T0 i=0)/\(w.heap.size<=i->T i=cI)
 fresh:fr->∀k,w.heap.size<=k->k<A.heap.size->T k=cI
theorem GoS.turn{Z':Nat->Prop}{row:Option Nat}(hK:GoK T0 tx ty lb ob w)(h:GoS T0 U0 W tx ty x y nb lb ob n nv uv fv mv k0 k1 k2 us fs ms w fr st Z s T v lv ls A) (hg:A.grownBy B row)(hr:∀r,row=some r->w.heap.size<=r/\Z r/\∃o:Obj,A.heap[r]?=some o/\o.isCells=false)(_hm:∀i,Z i->Z' i)(hz:∀i,Z' i->Z i\/A.heap.size<=i/\i<B.heap.size):∃T',GoS T0 U0 W tx ty x y nb lb ob n nv uv fv mv k0 k1 k2 us fs ms w fr st Z' s T' v lv ls B:=by
 obtain⟨T',bH⟩:∃T':Nat->Nat,T'=λi=>if i<A.heap.size then T i else cI:=⟨_,rfl⟩
 have ot:∀i,i<A.heap.size->T' i=T i:=λi hi=>by rw[bH];dsimp only;rw[AQ hi]
 have tn:∀i,A.heap.size<=i->T' i=cI:=λi hi=>by rw[bH];dsimp only;rw[AO (by omega)]
 clear bH;have hG:GrS (λk=>row=some k) A B:=GrS.of hg (λg hg=>hg);have hrow:∀k,row=some k->T k=cI:=λk e=>(h.zs k (hr k e).2.1).2.2 (hr k e).1;have hno:∀k,T k≠cI->¬ (row=some k):=λk hk e=>hk (hrow k e);have jE:=h.gr.size;have xG:=hg.size;obtain⟨tB,tA⟩:=hK.ktx;obtain⟨sx,sw⟩:=hK.kty;refine⟨T',⟨h.lists.keepS hG (λk h1 h2=>hno k (by unfold cI;omega)) (λk hk _ _=>ot k hk),h.lsl,h.nx.keep hG (λk hk=>hno k (by unfold cI at *;omega)) (λk hk _=>ot k hk),h.ny.keep hG (λk hk=>hno k (by unfold cI at *;omega)) (λk hk _=>ot k hk),λk hk=>by rw[ot k (by omega)];exact h.old k hk,h.gr.then hg (λg e=>.inl (hr g e).1),?_,?_,hG.row h.row (λg aw e=>(h.rown g aw).2.2 (hr g e).2.1),λg aw=>?_,λi hi=>?_,λhf k h1 h2=>?_⟩⟩;{exact hG.blk h.lbx (λe=>by have:=(hr _ e).1;have:=hK.klb.2;omega)};{exact hG.blk h.obx (λe=>by have:=(hr _ e).1;have:=hK.kob.2;omega)};{obtain⟨r1,r2,r3⟩:=h.rown g aw;have ig:=(h.row.own g aw).2;refine⟨r1,by rw[ot g ig];exact r2,λe=>?_⟩;rcases hz g e with e|e;{exact r3 e};{omega}};{rcases hz i hi with e|e;{obtain⟨z1,z2,z3⟩:=h.zs i e;exact⟨by omega,z2,λhw=>by rw[ot i z1];exact z3 hw⟩};{exact⟨e.2,λhw=>by omega,λ_=>tn i e.1⟩}};{by_cases hk:k<A.heap.size;{rw[ot k hk];exact h.fresh hf k h1 hk};{exact tn k (by omega)}}
theorem GoS.app{a b:Nat}{xm:Mv}{v5:Value}{A1 A2:World}(hK:GoK T0 tx ty lb ob w)(h:GoS T0 U0 W tx ty x y nb lb ob n nv uv fv mv k0 k1 k2 us fs ms w fr st Z s T v lv ls A) (af:A.grownBy A1 none)(hl:Q0O v v5 a b A1 A2)(hr:Q0B 52 2 mrow 0 v5 (s++[xm]) A2):(A2.cell? ⟨lb,0,none⟩=some v/\A2.frozen? ⟨lb,0,none⟩=false)/\(∃T',GoS T0 U0 W tx ty x y nb lb ob n nv uv fv mv k0 k1 k2 us fs ms w fr st Z (s++[xm]) T' v5 lv ls (A2.setCell ⟨lb,0,none⟩ v5))/\GrS (λi=>i=lb\/v.ownBlock=some i) A (A2.setCell ⟨lb,0,none⟩ v5)/\KeepsFrom w.heap.size A (A2.setCell ⟨lb,0,none⟩ v5)/\∀i,Z i->¬ (i=lb\/v.ownBlock=some i):=by
 obtain⟨T',bH⟩:∃T':Nat->Nat,T'=λi=>if i<A.heap.size then T i else cI:=⟨_,rfl⟩
 have ot:∀i,i<A.heap.size->T' i=T i:=λi hi=>by rw[bH];dsimp only;rw[AQ hi]
 have tn:∀i,A.heap.size<=i->T' i=cI:=λi hi=>by rw[bH];dsimp only;rw[AO (by omega)]
 clear bH;obtain⟨tB,tA⟩:=hK.ktx;obtain⟨sx,sw⟩:=hK.kty;obtain⟨qG,tD⟩:=hK.klb;obtain⟨qF,tC⟩:=hK.kob;have jE:=h.gr.size;have aR:=Aj A2 lb 0 v5;have hne:v.ownBlock≠some lb:=λe=>by have:=(h.rown lb e).1;omega
 have hb5:A2.heap[lb]?=some (.cells #[v] 43 (0,0)):=hl.block (by rw[af.block _ (Ad h.lbx) (by simp)];exact h.lbx) hne;have hG:GrS (λi=>i=lb\/v.ownBlock=some i) A (A2.setCell ⟨lb,0,none⟩ v5):=(((GrS.of af (by simp):GrS (λi=>i=lb\/v.ownBlock=some i) A A1)).trans (hl.gr (λg hg=>.inr hg))).then aR (λg hg=>by simp at hg;exact .inr (.inl hg.symm));have hs1:=af.size;have hs5:=hG.size;have ZM:T lb=cI:=by rw[h.old lb tD];exact qG
 have hno:∀k,T k≠cI->¬ (k=lb\/v.ownBlock=some k):=by rintro k hk (e|e);{exact hk (by rw[e];exact ZM)};{exact hk (h.rown k e).2.1}
 have hown:∀g,v5.ownBlock=some g->w.heap.size<=g/\T' g=cI/\¬ Z g:=by intro g hg;rcases hl.own g hg with e|e;{obtain⟨r1,r2,r3⟩:=h.rown g e;exact⟨r1,by rw[ot g (h.row.own g e).2];exact r2,r3⟩};{exact⟨by omega,tn g (by omega),λhz=>by have:=(h.zs g hz).1;omega⟩}
 have sS:∀i,Z i->¬ (i=lb\/v.ownBlock=some i):=by rintro i hi (e|e);{rw[e]at hi;have:=(h.zs lb hi).2.1 tD;rw[qG]at this;exact absurd this (by decide)};{exact(h.rown i e).2.2 hi}
 refine⟨⟨by simp[World.cell?,hb5],by simp[World.frozen?,hb5]⟩,⟨T',⟨h.lists.keepS hG (λk h1 h2=>hno k (by unfold cI;omega)) (λk hk _ _=>ot k hk),h.lsl,h.nx.keep hG (λk hk=>hno k (by unfold cI at *;omega)) (λk hk _=>ot k hk),h.ny.keep hG (λk hk=>hno k (by unfold cI at *;omega)) (λk hk _=>ot k hk),λk hk=>by rw[ot k (by omega)];exact h.old k hk,h.gr.comp hG (λi hi hn hx=>?_),?_,hG.blk h.obx (λe=>?_),?_,hown,λi hi=>?_,λhf k h1 h2=>?_⟩⟩,hG,⟨hs5,λk o hk ho hc=>?_⟩,sS⟩;{have:=h.old i hi;rcases hx with e|e;{exact hn (.inr (.inr (.inr (.inr (by rw[e];exact qG)))))};{exact hn (.inr (.inr (.inr (.inr (by rw[<-this];exact(h.rown i e).2.1)))))}};{rw[BB A2 lb 0 _ _ _ hb5];rfl};{rcases e with e|e;{exact hK.kbo e.symm};{have:=(h.rown ob e).1;omega}};{exact hr.other aR (λg hg e=>by have:=(hown g hg).1;simp at e;omega)};{obtain⟨z1,z2,z3⟩:=h.zs i hi;exact⟨by omega,z2,λhw=>by rw[ot i z1];exact z3 hw⟩};{by_cases hk:k<A.heap.size;{rw[ot k hk];exact h.fresh hf k h1 hk};{exact tn k (by omega)}};{refine hG.blk ho ?_;rintro(e|e);{omega};{obtain⟨cs,ty,hcs⟩:=h.row.blockCells e;rw[hcs]at ho;cases ho;cases hc}}
theorem GoS.step{n':Nat}{VN:Q0F}{ew:Value}{uq:List Value}(hK:GoK T0 tx ty lb ob w)(h:GoS T0 U0 W tx ty x y nb lb ob n nv uv fv mv k0 k1 k2 us fs ms w fr st Z s T v lv ls A) (hG:GrS (λk=>T k=1\/T k=9\/T k=tx\/T k=ty) A B)(hL:Q1J T' W nv uv fv mv k0 k1 k2 ew us fs ms uq B)(TJ:uq.length<=n')(nx:XN U0 w.heap.size nb T' tx x VN B)(ny:YT T' ty y VN B)(ho:∀k,k<A.heap.size->T' k=T k):GoS T0 U0 W tx ty x y nb lb ob n' nv uv fv mv k0 k1 k2 us fs ms w False VN Z s T' v ew uq B:=by
 obtain⟨tB,tA⟩:=hK.ktx;obtain⟨sx,sw⟩:=hK.kty;obtain⟨qG,tD⟩:=hK.klb;obtain⟨qF,tC⟩:=hK.kob;have jE:=h.gr.size;have xG:=hG.size;have hno:∀k,T k=cI->¬ (T k=1\/T k=9\/T k=tx\/T k=ty):=by intro k hk;unfold cI at *;omega
 refine⟨hL,TJ,nx,ny,λk hk=>by rw[ho k (by omega)];exact h.old k hk,h.gr.comp hG (λi hi hn hx=>?_),hG.blk h.lbx (hno _ (by rw[h.old lb tD];exact qG)),hG.blk h.obx (hno _ (by rw[h.old ob tC];exact qF)),hG.row h.row (λg hg=>hno g (h.rown g hg).2.1),λg hg=>?_,λi hi=>?_,λhf=>hf.elim⟩;{have:=h.old i hi;rw[this]at hx;rcases hx with e|e|e|e;{exact hn (.inl e)};{exact hn (.inr (.inl e))};{exact hn (.inr (.inr (.inl e)))};{exact hn (.inr (.inr (.inr (.inl e))))}};{obtain⟨r1,r2,r3⟩:=h.rown g hg;exact⟨r1,by rw[ho g (h.row.own g hg).2];exact r2,r3⟩};{obtain⟨z1,z2,z3⟩:=h.zs i hi;exact⟨by omega,z2,λhw=>by rw[ho i z1];exact z3 hw⟩}
theorem GoS.word(hK:GoK T0 tx ty lb ob w)(h:GoS T0 U0 W tx ty x y nb lb ob n nv uv fv mv k0 k1 k2 us fs ms w fr st Z s T v lv ls A):(A.cell? ⟨ob,0,none⟩=some (.bool true)/\A.frozen? ⟨ob,0,none⟩=false)/\GoS T0 U0 W tx ty x y nb lb ob n nv uv fv mv k0 k1 k2 us fs ms w fr st Z s T v lv ls (A.setCell ⟨ob,0,none⟩ (.bool true))/\GrS (λi=>i=ob) A (A.setCell ⟨ob,0,none⟩ (.bool true)):=by
 obtain⟨tB,tA⟩:=hK.ktx;obtain⟨sx,sw⟩:=hK.kty;obtain⟨qF,tC⟩:=hK.kob;have aR:=Aj A ob 0 (.bool true);have hG:GrS (λi=>i=ob) A (A.setCell ⟨ob,0,none⟩ (.bool true)):=GrS.of aR (λg hg=>by simp at hg;exact hg.symm);have ZL:T ob=cI:=by rw[h.old ob tC];exact qF
 have hno:∀k,T k≠cI->¬ (k=ob):=λk hk e=>hk (by rw[e];exact ZL);have hsz:(A.setCell ⟨ob,0,none⟩ (.bool true)).heap.size=A.heap.size:=by simp
 refine⟨⟨by simp[World.cell?,h.obx],by simp[World.frozen?,h.obx]⟩,⟨h.lists.keepS hG (λk h1 h2=>hno k (by unfold cI;omega)) (λ_ _ _ _=>rfl),h.lsl,h.nx.keep hG (λk hk=>hno k (by unfold cI at *;omega)) (λ_ _ _=>rfl),h.ny.keep hG (λk hk=>hno k (by unfold cI at *;omega)) (λ_ _ _=>rfl),h.old,h.gr.comp hG (λi hi hn hx=>hn (.inr (.inr (.inr (.inr (by rw[hx];exact qF)))))),hG.blk h.lbx (λe=>hK.kbo e),?_,hG.row h.row (λg hg e=>by have:=(h.rown g hg).1;have e':g=ob:=e;omega),h.rown,λi hi=>?_,λhf k h1 h2=>h.fresh hf k h1 (by rw[hsz]at h2;exact h2)⟩,hG⟩;{rw[BB A ob 0 _ _ _ h.obx];rfl};{obtain⟨z1,z2,z3⟩:=h.zs i hi;exact⟨by rw[hsz];exact z1,z2,z3⟩}
end Go.Proofs.YtolhbeekfjnfmaaGreatDoor

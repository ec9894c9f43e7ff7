import Derived.Test.YtolhbeekfjnfmaaGreatDoorA14
set_option maxHeartbeats 8000000
set_option maxRecDepth 100000
namespace Go.Proofs.YtolhbeekfjnfmaaGreatDoor
open Go.RowKit Go.Proofs.Tryz
variable {k q b:Nat}{U:Nat->Nat}{w w':World}{ns:List Nd}{n:Nd}{tv lv ov fv nx:Value}{A:List Nat}{t:Tok}{a0 a1 a2 a3:Int}
theorem Wf{all:List Q0D}{vs:List Int}{ts:List Q0D}{t:Q0D}(h:ts[k]?=some t):Zy all vs k (ts.drop k)=(We all vs k t&&Zy all vs (k+1) (ts.drop (k+1))):=by rw[A0 h];rfl
theorem Ld(U:Nat->Nat)(b:Nat)(c:Q0A)(ls:List Lnk)(f:Ft)(w:World)(hc:Q5L U b 0 c ls w)(hf:Q0J U f w):Calls prog 161 #[.pointer (some ⟨b,0,none⟩),Ei f] w λe w'=>e=.returned (.bool (Io c f.f))/\w.grownBy w' none:=by
 have hc0:=hc;have hf0:=hf;obtain⟨ck,⟨tv,ct,zJ⟩,_,jV⟩:=hc;obtain⟨hU,TS,v,fb,fr⟩:=hf;obtain⟨fa,fc,rfl⟩:=fr.1.slice;obtain⟨ta,tc,rfl⟩:=zJ.1.slice;rw[BU]at ct;have f0:w.cell? ⟨f.blk,0,none⟩=some (.int .i64 f.f.kind):=by simp[World.cell?,fb]
 have f1:w.cell? ⟨f.blk,1,none⟩=some (.slice fa f.f.vals.length fc):=by simp[World.cell?,fb]
 unfold Ei;by_cases hk:f.f.kind=(c.kind:Int);{by_cases hl:f.f.vals.length=c.terms.length;{(obtain⟨R,hR⟩:∃R,Io c f.f=R:=⟨_,rfl⟩);rw[hR];(have hR2:Zy c.terms f.f.vals 0 (c.terms.drop 0)=R:=by rw[GW,<-hR];unfold Io;simp[hk,hl]);(have HR:=Ac hR2;have rE:(f.f.kind !=(c.kind:Int))=false:=by simpa using hk);(have bg:((f.f.vals.length:Int) !=(c.terms.length:Int))=false:=by simp;omega);have HL:=Ac hl;have HC:=Ac hc0;have HF:=Ac hf0;have HFR:=Ac fr;clear hR hR2 hk hl hc0 hf0 fr;go_enter func161,ntmps161;go_wp2;go_quiet (fail);go_wp2;go_loopw [36] (λx w'=>∃k:Nat,k<=c.terms.length/\x=.int .i64 k/\Zy c.terms f.f.vals k (c.terms.drop k)=R/\w.grownBy w' none) (λx _=>c.terms.length-(intOf x).toNat);(case atStart=>exact⟨0,AG _,rfl,Aa HR,Af _ _ _⟩);case round=>clear HR;obtain⟨k,hk,rfl,hr,hg⟩:=hrel;by_cases hlt:k<c.terms.length;{(have hd:decide (k<c.terms.length)=true:=by simpa using hlt);(obtain⟨t,ht⟩:∃t,c.terms[k]?=some t:=⟨_,AB hlt⟩);rw[Wf ht]at hr;obtain⟨g,cap',hv,c0,c1,c2⟩:=Pu (zJ.1.gr hg) ht;simp only[AH,BP]at hv;obtain⟨rfl,rfl⟩:=hv;have UQ:=hg.cell f1 (by simp);have a7:=AA wr (.cells #[.int .i64 t.sort,.int .u8 t.letter.toNat,.int .i64 t.value] 258) none;have f1'':=a7.cell UQ (by simp);(have hS:∀wx,(wr.alloc (.cells #[.int .i64 t.sort,.int .u8 t.letter.toNat,.int .i64 t.value] 258)).grownBy wx none->Calls prog 183 #[.pointer (some ⟨b,0,none⟩),.int .i64 k,.agg #[.int .i64 t.sort,.int .u8 t.letter.toNat,.int .i64 t.value],.slice fa f.f.vals.length fc] wx λe w'=>e=.returned (.bool (We c.terms f.f.vals k t))/\wx.grownBy w' none:=by intro wx hgx;have aq:=Ab (Ab hg a7) hgx;exact Zz U b c ls k t _ f.f.vals wx ((Aa HC).gr aq) ht ((Aa HFR).1.gr aq) (Aa HL));(have HG:=Ac (Ab hg a7);obtain⟨r1,hr1⟩:∃r1,We c.terms f.f.vals k t=r1:=⟨_,rfl⟩);rw[hr1]at hr hS;have HRR:=Ac hr;clear hr ht hr1 UQ hg a7;go_wp2_with fail;go_cut [50] (λz wx=>z=.bool (!r1)/\(wr.alloc (.cells #[.int .i64 t.sort,.int .u8 t.letter.toNat,.int .i64 t.value] 258)).grownBy wx none);(case first=>go_region_with (go_at_call 183;refine(hS _ (by repeat (first|exact AD _ _|apply Ah))).mono ?_;rintro e w2⟨rfl,hg2⟩);all_goals go_wp2_with fail;go_meet;exact⟨rfl,Ab (by repeat (first|exact AD _ _|apply Ah)) hg2⟩);case rest=>obtain⟨rfl,hg2⟩:=hcut;have bQ:=Ab (Aa HG) hg2;have hr:=Aa HRR;clear hS hg2 HRR HG f1'';cases r1 with|false=>rw[DW]at hr;subst hr;go_wp2;go_ret;exact⟨rfl,bQ⟩|true=>rw[FB]at hr;have cO:=Ac hr;clear hr;go_wp2;go_roundw;(case rel=>exact⟨k+1,by omega,by go_num,Aa cO,bQ⟩);case measure=>simp[intOf];omega};{(have hd:decide (k<c.terms.length)=false:=by simpa using hlt);have e:c.terms.drop k=[]:=BD (by omega);rw[e]at hr;have hr2:true=R:=hr;subst hr2;go_wp2;go_ret;exact⟨rfl,hg⟩}};{(have e:Io c f.f=false:=by unfold Io;simp[hl]);(rw[e];have rE:(f.f.kind !=(c.kind:Int))=false:=by simpa using hk);(have bg:((f.f.vals.length:Int) !=(c.terms.length:Int))=true:=by simp;omega);clear e hk hl;go_enter func161,ntmps161;go_wp2;go_quiet (fail);go_wp2;go_ret;exact⟨rfl,Af _ _ _⟩}};{(have e:Io c f.f=false:=by unfold Io;simp[hk]);(rw[e];have rE:(f.f.kind !=(c.kind:Int))=true:=by simpa using hk);clear e hk;go_enter func161,ntmps161;go_wp2;go_quiet (fail);go_wp2;go_ret;exact⟨rfl,Af _ _ _⟩}
abbrev Q0G(v:Value)(l:List Tok)(w:World):Prop:=Q0B 139 4 A9 0 v l w
theorem Q3O:(prog.info? 139).map (λi=>(i.zero,i.size,i.bytes))=some (some (.agg #[.pointer none,.pointer none,.pointer none,.pointer none]),4,32):=by kernel_rfl
theorem Q5w:(prog.info? 90).map (λi=>(i.zero,i.size,i.bytes))=some (some (.pointer none),1,8):=by kernel_rfl
def Q1H(b o:Nat)(v:Value)(cs:Array Value)(ty:TypeId)(toks:List Tok)(t:Tok)(w w':World):Prop:=
 ∃v',w'.heap[b]?=some (.cells (cs.setIfInBounds o v') ty (0,0))/\Q0G v' (toks++[t]) w'/\GrS (λk=>k=b\/v.ownBlock=some k) w w'/\∀g,v'.ownBlock=some g->v.ownBlock=some g\/w.heap.size<=g
theorem Sk(b o:Nat)(v:Value)(cs:Array Value)(ty:TypeId)(toks:List Tok)(t:Tok)(w:World)(hb:w.heap[b]?=some (.cells cs ty (0,0)))(ho:cs[o]?=some v)(hr:Q0G v toks w)(hne:v.ownBlock≠some b)(hlen:toks.length<=1000000000):Calls prog 242 #[.pointer (some ⟨b,o,none⟩),B1 t] w λe w'=>e=.returned (.tuple #[])/\Q1H b o v cs ty toks t w w':=by
 obtain⟨ao,cap,rfl⟩:=hr.slice;obtain⟨pa,pb,pc,pd,hT⟩:=Be t;have eT:B1 t=.agg #[.pointer pa,.pointer pb,.pointer pc,.pointer pd]:=by unfold B1;rw[hT]
 rw[eT];have eP:=Ad hb;have b0:w.cell? ⟨b,o,none⟩=some (.slice ao toks.length cap):=by simp[World.cell?,hb];simpa using ho
 have a7:=Dq w (.cells #[.pointer pa,.pointer pb,.pointer pc,.pointer pd] 139) (.cells #[.pointer pa,.pointer pb,.pointer pc,.pointer pd] 139);have OD:=AA w (.cells #[.pointer pa,.pointer pb,.pointer pc,.pointer pd] 139) none;have b1:=OD.cell b0 (by simp);have dO:=Ah a7;have zL:=hr.gr dO;have aC:Q0B 139 4 A9 0 (.slice (some ⟨w.heap.size+1,0,none⟩) 1 1) [t] (((w.alloc (.cells #[.pointer pa,.pointer pb,.pointer pc,.pointer pd] 139)).alloc (.cells #[.pointer pa,.pointer pb,.pointer pc,.pointer pd] 139)).drew):=by have:=((Q0B.lit1 (e:=139) Bz (w.alloc (.cells #[.pointer pa,.pointer pb,.pointer pc,.pointer pd] 139)) t #[.pointer pa,.pointer pb,.pointer pc,.pointer pd] (by rw[hT])).weak (AG _)).gr (Ah (AD _ _));simpa using this
 obtain⟨W5,gC⟩:∃W5,((w.alloc (.cells #[.pointer pa,.pointer pb,.pointer pc,.pointer pd] 139)).alloc (.cells #[.pointer pa,.pointer pb,.pointer pc,.pointer pd] 139)).drew=W5:=⟨_,rfl⟩
 rw[gC]at dO zL aC;have lG:∀g5 aG w5,Q0G (.slice (some ⟨g5,0,none⟩) (toks++[t]).length aG) (toks++[t]) w5->W5.grownBy w5 (Value.slice ao toks.length cap).ownBlock->((Value.slice ao toks.length cap).ownBlock=some g5\/g5=W5.heap.size)->w5.cell? ⟨b,o,none⟩=some (.slice ao toks.length cap)/\w5.frozen? ⟨b,o,none⟩=false/\Q1H b o (.slice ao toks.length cap) cs ty toks t w (w5.setCell ⟨b,o,none⟩ (.slice (some ⟨g5,0,none⟩) (toks.length+1) aG)):=by(intro g5 aG w5 hv hg hl;rw[AL,BC]at hv;have hb5:w5.heap[b]?=some (.cells cs ty (0,0)):=by rw[hg.block b (AV eP dO.size) (λe=>hne e.symm),dO.block b eP (by simp)];exact hb);have aX:=Aj w5 b o (.slice (some ⟨g5,0,none⟩) (toks.length+1) aG);(have YE:g5≠b:=by rintro rfl;rcases hl with hl|hl;{exact hne hl};{have:=dO.size;omega});refine⟨by simp[World.cell?,hb5];simpa using ho,by simp[World.frozen?,hb5],_,?_,hv.other aX (λg hg e=>?_),?_,?_⟩;{rw[BB w5 b o _ _ _ hb5]};{simp only[Value.ownBlock,AE]at hg e;omega};{exact((GrS.of dO (by simp)).then hg (λg aq=>.inr (.inr aq))).then aX (λg aq=>by simp at aq;exact .inr (.inl aq.symm))};{intro g aq;simp only[Value.ownBlock,AE]at aq;subst aq;rcases hl with hl|hl;{exact .inl hl};{right;have:=dO.size;omega}}
 have HKEY:=Ac lG;have fO:=Ac aC;have HR5:=Ac zL;have HW5:=Ac gC;have HT:=Ac hT;have HO:=Ac ho;have HB:=Ac hb;have kH:=Ac hne;clear lG aC zL gC hT eT ho hb hne dO a7 OD hr;go_enter func242,ntmps242;go_wp2;go_region_law (rw[Aa HW5];refine Ne rfl _ _ 141 rfl underlying141 Q3O rfl (by decide) (by simp[Act.eval]) (Aa HR5) (by simp[Act.eval]) (Aa fO) (by simp) (λy hy=>I6 y) (by unfold maxLen;simp;omega) (by simp;omega) (AG _) ?_;intro g5 aG w5 aj aW aK;obtain⟨k1,k2,k3⟩:=Aa HKEY g5 aG w5 aj aW aK;have K3:=Ac k3;clear k3);all_goals go_wp2;go_end0;exact⟨rfl,Aa K3⟩
def Qu(g:Ft):List Value:=[Ei g]
theorem Jt(g:Ft):(Qu g).length=1:=rfl
theorem R8(g:Ft):∀c∈Qu g,c.oneCell'=true:=by intro c hc;simp[Qu]at hc;subst hc;rfl
abbrev Q2A(v:Value)(l:List Ft)(w:World):Prop:=Q0B 90 1 Qu 0 v l w
def Ho(b:Nat)(v:Value)(cs:Array Value)(ty:TypeId)(K:List Ft)(f:Ft)(w w':World):Prop:=
 ∃v',w'.heap[b]?=some (.cells (cs.setIfInBounds 4 v') ty (0,0))/\Q2A v' (K++[f]) w'/\GrS (λk=>k=b\/v.ownBlock=some k) w w'/\∀g,v'.ownBlock=some g->v.ownBlock=some g\/w.heap.size<=g
theorem Rs(U:Nat->Nat)(b:Nat)(c:Q0A)(ls:List Lnk)(f:Ft)(w:World)(hc:Q5L U b 0 c ls w)(hf:Q0J U f w)(hn:Io c f.f=false):Calls prog 136 #[.pointer (some ⟨b,0,none⟩),Ei f] w λe w'=>e=.returned (.bool false)/\w.grownBy w' none:=by have hS:=Ld U b c ls f w hc hf;rw[hn]at hS;unfold Ei at hS⊢;clear hc hf hn;go_enter func136,ntmps136;go_wp2_with fail;refine hS.mono ?_;rintro e w1⟨rfl,hg1⟩;go_wp2;go_ret;exact⟨rfl,hg1⟩
theorem O5(U:Nat->Nat)(b:Nat)(v:Value)(cs:Array Value)(ty:TypeId)(c:Q0A)(ls:List Lnk)(K:List Ft)(f:Ft)(w:World)(hb:w.heap[b]?=some (.cells cs ty (0,0)))(ho:cs[4]?=some v)(hr:Q2A v K w)(hne:v.ownBlock≠some b)(hlen:K.length<=1000000000) (hc:Q5L U b 0 c ls w)(hf:Q0J U f w)(hn:Io c f.f=true):Calls prog 136 #[.pointer (some ⟨b,0,none⟩),Ei f] w λe w'=>e=.returned (.bool true)/\Ho b v cs ty K f w w':=by
 have hS:=Ld U b c ls f w hc hf;rw[hn]at hS;obtain⟨ao,cap,rfl⟩:=hr.slice;have eP:=Ad hb;have b0:w.cell? ⟨b,4,none⟩=some (.slice ao K.length cap):=by simp[World.cell?,hb];simpa using ho
 unfold Ei at hS⊢;have HB:=Ac hb;have HO:=Ac ho;have HR:=Ac hr;have kH:=Ac hne;clear hc hf hn hb ho hr hne;go_enter func136,ntmps136;go_wp2_with fail;refine hS.mono ?_;rintro e w1⟨rfl,hg1⟩;have b1:=hg1.cell b0 (by simp);have af:=AA w1 (.cells #[.pointer (some ⟨f.blk,0,none⟩)] 90) none;have hg2:=Ab hg1 af;have hr2:=(Aa HR).gr hg2;have aC:Q2A (.slice (some ⟨w1.heap.size,0,none⟩) 1 1) [f] (w1.alloc (.cells #[.pointer (some ⟨f.blk,0,none⟩)] 90)):=(Q0B.lit1 (e:=90) Jt w1 f #[.pointer (some ⟨f.blk,0,none⟩)] rfl).weak (AG _);clear hS af;go_wp2_with (at_builtin;refine Cg rfl _ _ 86 rfl underlying86 Q5w rfl (by decide) rfl hr2 rfl aC (by simp) (λy hy=>R8 y) (by unfold maxLen;simp;omega) (by simp;omega) ?_);intro v5 w5 aj aK;obtain⟨g5,aG,rfl⟩:=aK.form;have hb5:w5.heap[b]?=some (.cells cs ty (0,0)):=aK.block (by rw[hg2.block b eP (by simp)];exact Aa HB) (Aa kH);have bG:GrS (λk=>k=b\/(Value.slice ao K.length cap).ownBlock=some k) w w5:=(GrS.of hg2 (by simp)).trans (aK.gr (λg hg=>.inr hg));have cX:=aK.own;have b5:w5.cell? ⟨b,4,none⟩=some (.slice ao K.length cap):=by simp[World.cell?,hb5];simpa using Aa HO
 have z5:w5.frozen? ⟨b,4,none⟩=false:=by simp[World.frozen?,hb5]
 have HG5:=Ac bG;have yx:=Ac hb5;have VA:=Ac aj;have ue:=Ac cX;clear bG hb5 aj cX aK hr2 aC b1;go_wp2;go_ret;have aX:=Aj w5 b 4 (.slice (some ⟨g5,0,none⟩) (K.length+1) aG);have YE:g5≠b:=by rintro rfl;rcases Aa ue g5 rfl with h|h;{exact Aa kH h};{have:=hg2.size;omega}
 refine⟨rfl,_,by rw[BB w5 b 4 _ _ _ (Aa yx)],(Aa VA).other aX (λg hg e=>?_),(Aa HG5).then aX (λg aq=>by simp at aq;exact .inr (.inl aq.symm)),?_⟩;{simp only[Value.ownBlock,AE]at hg e;omega};{intro g aq;rcases Aa ue g aq with h|h;{exact .inl h};{right;have:=hg2.size;omega}}
def Lt(neg:Bool):TypeId:=if neg=true then 263 else 220
def Dc(neg:Bool):TypeId:=if neg=true then 209 else 208
def Bg(n:Nd)(k:Nat)(tv lv ov fv nx:Value):Array Value:=
 if n.c.neg=true then #[.int .i64 n.c.kind,tv,lv,ov,fv,nx]else #[.int .i64 n.c.kind,tv,lv,ov,fv,nx,.int .i64 k]
structure Q0M(U:Nat->Nat)(q k b:Nat)(n:Nd)(nx:Value)(tv lv ov fv:Value)(w:World):Prop where
 blk:w.heap[b]?=some (.cells (Bg n k tv lv ov fv nx) (Lt n.c.neg) (0,0))
 own:U b=4+3*q
 terms:Q0Q U 1 258 3 tmenc tv n.c.terms w
 links:Q0Q U 1 293 4 Q2o lv n.links w
 toks:Q0Q U (5+3*q) 139 4 A9 ov n.toks w
 facts:Q0Q U (6+3*q) 90 1 Qu fv n.K w
 fts:∀g∈n.K,Q0J U g w
 tfs:∀t∈n.toks,∀g∈t,Q0J U g w
 short:n.c.terms.length<=4
 low:∀i,i<b->U i≠4+3*q
structure Q0T(U:Nat->Nat)(q b:Nat)(ru jn:Nat)(e:En)(tv wv:Value)(w:World):Prop where
 blk:w.heap[b]?=some (.cells #[tv,wv,.int .i64 ru,.int .i64 jn] 147 (0,0))
 own:U b=4+3*q
 toks:Q0Q U (5+3*q) 139 4 A9 tv e.toks w
 wait:Q0Q U (6+3*q) 139 4 A9 wv e.wait w
 tfs:∀t∈e.toks,∀g∈t,Q0J U g w
 wfs:∀t∈e.wait,∀g∈t,Q0J U g w
 low:∀i,i<b->U i≠4+3*q
def Q0K(U:Nat->Nat)(ru jn:Nat):Nat->Nat->List Nd->En->Value->World->Prop
 |q,_,[],e,hd,w=>∃b tv wv,hd=.iface 137 (.pointer (some ⟨b,0,none⟩))/\Q0T U q b ru jn e tv wv w
 |q,k,n::ns,e,hd,w=>∃b nx tv lv ov fv,hd=.iface (Dc n.c.neg) (.pointer (some ⟨b,0,none⟩))/\Q0M U q k b n nx tv lv ov fv w/\Q0K U ru jn (q+1) (if n.c.neg=true then k else k+1) ns e nx w
theorem Q0M.keep{U U':Nat->Nat}{q k b:Nat}{n:Nd}{nx tv lv ov fv:Value}{w w':World}{S:Nat->Prop}(h:Q0M U q k b n nx tv lv ov fv w)(hg:GrS S w w')(hs:∀i,(U i=1\/(4+3*q<=U i/\U i<7+3*q))->¬ S i)(ho:∀i,i<w.heap.size->True->U' i=U i):Q0M U' q k b n nx tv lv ov fv w':=by
 have h1:∀i,U i=1->¬ S i:=λi hi=>hs i (.inl hi);have o1:∀i,i<w.heap.size->U i=1->U' i=1:=λi hi e=>by rw[ho i hi trivial];exact e
 exact⟨hg.blk h.blk (hs b (.inr (by have:=h.own;omega))),by rw[ho b (Ad h.blk) trivial];exact h.own,h.terms.keep2 hg h1 o1,h.links.keep2 hg h1 o1,h.toks.keep2 hg (λi hi=>hs i (.inr (by omega))) (λi hi e=>by rw[ho i hi trivial];exact e),h.facts.keep2 hg (λi hi=>hs i (.inr (by omega))) (λi hi e=>by rw[ho i hi trivial];exact e),λg aw=>(h.fts g aw).keep hg h1 o1,λt ht g aw=>(h.tfs t ht g aw).keep hg h1 o1,h.short,λi hi=>by rw[ho i (GH hi (Ad h.blk)) trivial];exact h.low i hi⟩
theorem Q0T.keep{U U':Nat->Nat}{q b ru jn:Nat}{e:En}{tv wv:Value}{w w':World}{S:Nat->Prop}(h:Q0T U q b ru jn e tv wv w)(hg:GrS S w w')(hs:∀i,(U i=1\/(4+3*q<=U i/\U i<7+3*q))->¬ S i)(ho:∀i,i<w.heap.size->True->U' i=U i):Q0T U' q b ru jn e tv wv w':=by
 have h1:∀i,U i=1->¬ S i:=λi hi=>hs i (.inl hi);have o1:∀i,i<w.heap.size->U i=1->U' i=1:=λi hi e=>by rw[ho i hi trivial];exact e
 exact⟨hg.blk h.blk (hs b (.inr (by have:=h.own;omega))),by rw[ho b (Ad h.blk) trivial];exact h.own,h.toks.keep2 hg (λi hi=>hs i (.inr (by omega))) (λi hi e=>by rw[ho i hi trivial];exact e),h.wait.keep2 hg (λi hi=>hs i (.inr (by omega))) (λi hi e=>by rw[ho i hi trivial];exact e),λt ht g aw=>(h.tfs t ht g aw).keep hg h1 o1,λt ht g aw=>(h.wfs t ht g aw).keep hg h1 o1,λi hi=>by rw[ho i (GH hi (Ad h.blk)) trivial];exact h.low i hi⟩
theorem Q0K.keep{U U':Nat->Nat}{ru jn:Nat}{w w':World}{S:Nat->Prop}(hg:GrS S w w'):∀ {ns:List Nd} {q k:Nat} {e:En} {hd:Value},Q0K U ru jn q k ns e hd w->
  (∀i,(U i=1\/(4+3*q<=U i/\U i<7+3*(q+ns.length)))->¬ S i)->(∀i,i<w.heap.size->True->U' i=U i)->Q0K U' ru jn q k ns e hd w'
 |[],_,_,_,_,⟨b,tv,wv,h1,h2⟩,hs,ho=>⟨b,tv,wv,h1,h2.keep hg (λi hi=>hs i (by simpa using hi)) ho⟩
 |n::ns,_,_,_,_,⟨b,nx,tv,lv,ov,fv,h1,h2,h3⟩,hs,ho=>⟨b,nx,tv,lv,ov,fv,h1,h2.keep hg (λi hi=>hs i (by rw[AP];omega)) ho,
  Q0K.keep hg h3 (λi hi=>hs i (by rw[AP];omega)) ho⟩
theorem Q0K.gr{ru jn:Nat}{e:En}{hd:Value}(h:Q0K U ru jn q k ns e hd w)(hg:w.grownBy w' none):Q0K U ru jn q k ns e hd w':=
 h.keep (S:=λ_=>False) (GrS.of hg (by simp)) (by simp) (λ_ _ _=>rfl)
theorem E5(j:Nat)(hj:j<6):(Bg n k tv lv ov fv nx)[j]?=#[.int .i64 n.c.kind,tv,lv,ov,fv,nx][j]?:=by unfold Bg;split;{rfl};{(have:j=0\/j=1\/j=2\/j=3\/j=4\/j=5:=by omega);rcases this with rfl|rfl|rfl|rfl|rfl|rfl<;>rfl}
theorem Q0M.cell{U:Nat->Nat}{q k b:Nat}{n:Nd}{nx tv lv ov fv:Value}{w:World}(h:Q0M U q k b n nx tv lv ov fv w)(j:Nat)(hj:j<6):w.cell? ⟨b,j,none⟩=#[Value.int .i64 n.c.kind,tv,lv,ov,fv,nx][j]?:=by rw[<-E5 (n:=n) (k:=k) j hj];simp[World.cell?,h.blk]
theorem Q0M.cd(h:Q0M U q k b n nx tv lv ov fv w):Q5L U b 0 n.c n.links w:=
 ⟨h.cell 0 (by omega),⟨tv,h.cell 1 (by omega),h.terms⟩,⟨lv,h.cell 2 (by omega),h.links⟩,h.short⟩
theorem Q0M.place(h:Q0M U q k b n nx tv lv ov fv w)(hn:n.c.neg=false):w.cell? ⟨b,6,none⟩=some (.int .i64 k):=by have hb:=h.blk;unfold Bg at hb;rw[AO (by simp[hn])]at hb;simp[World.cell?,hb]
def Q0W(A:List Nat)(t:Tok):Prop:=t.map (λg=>g.f.vals.length)=A
theorem Q0W.len(h:Q0W A t):t.length=A.length:=by rw[<-h,AY]
theorem Q0W.get{A:List Nat}{t:Tok}(h:Q0W A t){i a:Nat}(hi:A[i]?=some a):∃g,t[i]?=some g/\g.f.vals.length=a:=by rw[<-h,BR]at hi;cases hg:t[i]? with|none=>rw[hg]at hi;simp at hi|some g=>rw[hg]at hi;simp at hi;exact⟨g,rfl,hi⟩
theorem Q0W.snoc(h:Q0W A t)(g:Ft):Q0W (A++[g.f.vals.length]) (t++[g]):=by unfold Q0W at h⊢;rw[BZ,h];rfl
def WF:List Nat->List Nd->Prop
 |A,[]=>A.length<=4
 |A,n::ns=>(A.length+(if n.c.neg=true then 0 else 1)<=4)/\(∀l∈n.links,l.place<n.c.terms.length/\∃a,A[l.at'.fact]?=some a/\l.at'.place<a)/\(∀g∈n.K,g.f.vals.length=n.c.terms.length)/\(∀t∈n.toks,Q0W A t)/\WF (if n.c.neg=true then A else A++[n.c.terms.length]) ns
theorem WF.le:∀ {ns:List Nd} {A:List Nat},WF A ns->A.length<=4
 |[],_,h=>h
 |_::_,_,h=>by have:=h.1;omega
theorem WF.arr:∀ {ns:List Nd} {A:List Nat} {e:En} {ts:List Tok},WF A ns->(∀t∈ts,Q0W A t)->WF A (arr ns e ts).1
 |[],_,_,_,h,_=>h
 |n::ns,A,e,ts,h,ht=>by
  obtain⟨h1,h2,h3,h4,h5⟩:=h;refine⟨h1,h2,h3,?_,?_⟩
  ·intro t hm
   rcases BA.1 hm with hm|hm
   ·exact h4 t hm
   ·exact ht t hm
  ·refine WF.arr (ns:=ns) h5 ?_
   intro u hu;obtain⟨t,hm,hx⟩:=CU.1 hu;have:=ht t hm;unfold Nd.ext at hx;by_cases hn:n.c.neg=true
   ·rw[AQ hn]at hx⊢
    split at hx
    ·simp at hx
    ·simp at hx;rw[hx];exact this
   ·rw[AO hn]at hx⊢
    obtain⟨g,hg,rfl⟩:=CC.1 hx;have hk:=h3 g (BI.1 hg).1;rw[<-hk];exact this.snoc g
theorem WF.fit(h:WF A (n::ns))(ht:Q0W A t){f:Ft}(hf:f.f.vals.length=n.c.terms.length):∀l∈n.links,l.place<f.f.vals.length/\∃g,t[l.at'.fact]?=some g/\l.at'.place<g.f.vals.length:=by intro l hl;obtain⟨h1,a,h2,h3⟩:=h.2.1 l hl;obtain⟨g,hg,he⟩:=ht.get h2;exact⟨by rw[hf];exact h1,g,hg,by rw[he];exact h3⟩
def TC(U:Nat->Nat)(p:Option Addr)(i:Int)(w:World):Prop:=(p=none/\i=0)\/∃g,p=some ⟨g.blk,0,none⟩/\i=g.id/\Q0J U g w
theorem TC.gr{U:Nat->Nat}{p:Option Addr}{i:Int}{w w':World}(h:TC U p i w)(hg:w.grownBy w' none):TC U p i w':=by rcases h with h|⟨g,h1,h2,h3⟩;{exact .inl h};{exact .inr ⟨g,h1,h2,h3.gr hg⟩}
theorem Ya{U:Nat->Nat}{t:Tok}{w:World}(h4:t.length<=4)(hf:∀g∈t,Q0J U g w):∃p0 p1 p2 p3 i0 i1 i2 i3,A9 t=[.pointer p0,.pointer p1,.pointer p2,.pointer p3]/\t.nums=[i0,i1,i2,i3]/\TC U p0 i0 w/\TC U p1 i1 w/\TC U p2 i2 w/\TC U p3 i3 w:=by
 have yes:∀g∈t,TC U (some ⟨g.blk,0,none⟩) g.id w:=λg hg=>.inr ⟨g,rfl,rfl,hf g hg⟩;have no:TC U none 0 w:=.inl ⟨rfl,rfl⟩
 match t,h4 with
 |[],_=>exact⟨none,none,none,none,0,0,0,0,rfl,rfl,no,no,no,no⟩
 |[a],_=>exact⟨_,none,none,none,_,0,0,0,rfl,rfl,yes a (by simp),no,no,no⟩
 |[a,b],_=>exact⟨_,_,none,none,_,_,0,0,rfl,rfl,yes a (by simp),yes b (by simp),no,no⟩
 |[a,b,c],_=>exact⟨_,_,_,none,_,_,_,0,rfl,rfl,yes a (by simp),yes b (by simp),yes c (by simp),no⟩
 |[a,b,c,d],_=>exact⟨_,_,_,_,_,_,_,_,rfl,rfl,yes a (by simp),yes b (by simp),yes c (by simp),yes d (by simp)⟩
 |_::_::_::_::_::_,h=>simp at h
def A4(b:Nat)(a0 a1 a2 a3:Int)(w:World):Prop:=w.heap[b]?=some (.cells #[.int .i64 a0,.int .i64 a1,.int .i64 a2,.int .i64 a3] 39 (0,0))
theorem A4.c(h:A4 b a0 a1 a2 a3 w):w.cell? ⟨b,0,none⟩=some (.int .i64 a0)/\w.cell? ⟨b,1,none⟩=some (.int .i64 a1)/\w.cell? ⟨b,2,none⟩=some (.int .i64 a2)/\w.cell? ⟨b,3,none⟩=some (.int .i64 a3)/\(∀j,w.frozen? ⟨b,j,none⟩=false):=by unfold A4 at h;simp[World.cell?,World.frozen?,h]
theorem A4.gr{row:Option Nat}(h:A4 b a0 a1 a2 a3 w)(hg:w.grownBy w' row)(hr:row≠some b):A4 b a0 a1 a2 a3 w':=by unfold A4 at h⊢;rw[hg.block b (Ad h) (λe=>hr e.symm)];exact h
def Ih(k:Nat)(j:Nat)(i:Int):Int:=if j<k then i else 0
theorem Ig(U:Nat->Nat)(p0 p1 p2 p3:Option Addr)(i0 i1 i2 i3:Int)(w:World)(h0:TC U p0 i0 w)(h1:TC U p1 i1 w)(h2:TC U p2 i2 w)(h3:TC U p3 i3 w):Calls prog 109 #[.agg #[.pointer p0,.pointer p1,.pointer p2,.pointer p3]] w λe w'=>e=.returned (.agg #[.int .i64 i0,.int .i64 i1,.int .i64 i2,.int .i64 i3])/\w'=((w.alloc (.cells #[.pointer p0,.pointer p1,.pointer p2,.pointer p3] 139)).alloc (.cells #[.int .i64 i0,.int .i64 i1,.int .i64 i2,.int .i64 i3] 39)).alloc (.cells #[.int .i64 i0,.int .i64 i1,.int .i64 i2,.int .i64 i3] 39):=by
 have H0:=Ac h0;have H1:=Ac h1;have H2:=Ac h2;have H3:=Ac h3;clear h0 h1 h2 h3;have x0:∀(q0 q1 q2 q3:Option Addr) w,(Instr.index 139 (.agg #[.pointer q0,.pointer q1,.pointer q2,.pointer q3]) (.int .i64 0)).run prog w=.ok (.pointer q0) w:=λ_ _ _ _ _=>by kernel_rfl
 have x1:∀(q0 q1 q2 q3:Option Addr) w,(Instr.index 139 (.agg #[.pointer q0,.pointer q1,.pointer q2,.pointer q3]) (.int .i64 1)).run prog w=.ok (.pointer q1) w:=λ_ _ _ _ _=>by kernel_rfl
 have x2:∀(q0 q1 q2 q3:Option Addr) w,(Instr.index 139 (.agg #[.pointer q0,.pointer q1,.pointer q2,.pointer q3]) (.int .i64 2)).run prog w=.ok (.pointer q2) w:=λ_ _ _ _ _=>by kernel_rfl
 have x3:∀(q0 q1 q2 q3:Option Addr) w,(Instr.index 139 (.agg #[.pointer q0,.pointer q1,.pointer q2,.pointer q3]) (.int .i64 3)).run prog w=.ok (.pointer q3) w:=λ_ _ _ _ _=>by kernel_rfl
 go_enter func109,ntmps109;go_wp2;go_loopw [7] (λx w'=>∃k:Nat,k<=4/\x=.int .i64 k/\w'=((w.alloc (.cells #[.pointer p0,.pointer p1,.pointer p2,.pointer p3] 139)).alloc (.cells #[.int .i64 0,.int .i64 0,.int .i64 0,.int .i64 0] 39)).alloc (.cells #[.int .i64 (Ih k 0 i0),.int .i64 (Ih k 1 i1),.int .i64 (Ih k 2 i2),.int .i64 (Ih k 3 i3)] 39)) (λx _=>4-(intOf x).toNat);case atStart=>exact⟨0,by omega,rfl,by simp[Ih]⟩
 case round=>
  obtain⟨k,hk,rfl,rfl⟩:=hrel;have hk4:k=0\/k=1\/k=2\/k=3\/k=4:=by omega
  rcases hk4 with rfl|rfl|rfl|rfl|rfl
  ·rcases Aa H0 with ⟨rfl,rfl⟩|⟨g,rfl,rfl,hF⟩;{go_wp2;go_roundw;(case rel=>exact⟨1,by omega,by go_num,by simp[Ih]⟩);case measure=>simp[intOf]}
   ·obtain⟨_,_,v,fb,_⟩:=hF;have f2:w.cell? ⟨g.blk,2,none⟩=some (.int .i64 g.id):=by simp[World.cell?,fb]
    have hlt:=Ad fb;clear fb;have f3:∀o1 o2 o3,(((w.alloc o1).alloc o2).alloc o3).cell? ⟨g.blk,2,none⟩=some (.int .i64 g.id):=λo1 o2 o3=>(Ab (Dq w o1 o2) (AA _ o3 none)).cell f2 (by simp);simp only[Ih,Nat.not_lt_zero,if_false,JS];go_wp2;go_roundw;case rel=>exact⟨1,by omega,by go_num,by simp⟩
    case measure=>simp[intOf]
  ·rcases Aa H1 with ⟨rfl,rfl⟩|⟨g,rfl,rfl,hF⟩;{go_wp2;go_roundw;(case rel=>exact⟨2,by omega,by go_num,by simp[Ih]⟩);case measure=>simp[intOf]}
   ·obtain⟨_,_,v,fb,_⟩:=hF;have f2:w.cell? ⟨g.blk,2,none⟩=some (.int .i64 g.id):=by simp[World.cell?,fb]
    have hlt:=Ad fb;clear fb;have f3:∀o1 o2 o3,(((w.alloc o1).alloc o2).alloc o3).cell? ⟨g.blk,2,none⟩=some (.int .i64 g.id):=λo1 o2 o3=>(Ab (Dq w o1 o2) (AA _ o3 none)).cell f2 (by simp);simp only[Ih,if_false,Nat.reduceLT,if_true,JS];go_wp2;go_roundw;case rel=>exact⟨2,by omega,by go_num,by simp⟩
    case measure=>simp[intOf]
  ·rcases Aa H2 with ⟨rfl,rfl⟩|⟨g,rfl,rfl,hF⟩;{go_wp2;go_roundw;(case rel=>exact⟨3,by omega,by go_num,by simp[Ih]⟩);case measure=>simp[intOf]}
   ·obtain⟨_,_,v,fb,_⟩:=hF;have f2:w.cell? ⟨g.blk,2,none⟩=some (.int .i64 g.id):=by simp[World.cell?,fb]
    have hlt:=Ad fb;clear fb;have f3:∀o1 o2 o3,(((w.alloc o1).alloc o2).alloc o3).cell? ⟨g.blk,2,none⟩=some (.int .i64 g.id):=λo1 o2 o3=>(Ab (Dq w o1 o2) (AA _ o3 none)).cell f2 (by simp);simp only[Ih,if_false,Nat.reduceLT,if_true,JS];go_wp2;go_roundw;case rel=>exact⟨3,by omega,by go_num,by simp⟩
    case measure=>simp[intOf]
  ·rcases Aa H3 with ⟨rfl,rfl⟩|⟨g,rfl,rfl,hF⟩;{go_wp2;go_roundw;(case rel=>exact⟨4,by omega,by go_num,by simp[Ih]⟩);case measure=>simp[intOf]}
   ·obtain⟨_,_,v,fb,_⟩:=hF;have f2:w.cell? ⟨g.blk,2,none⟩=some (.int .i64 g.id):=by simp[World.cell?,fb]
    have hlt:=Ad fb;clear fb;have f3:∀o1 o2 o3,(((w.alloc o1).alloc o2).alloc o3).cell? ⟨g.blk,2,none⟩=some (.int .i64 g.id):=λo1 o2 o3=>(Ab (Dq w o1 o2) (AA _ o3 none)).cell f2 (by simp);simp only[Ih,if_false,Nat.reduceLT,if_true,JS];go_wp2;go_roundw;case rel=>exact⟨4,by omega,by go_num,by simp⟩
    case measure=>simp[intOf]
  {simp only[Ih];go_wp2;refine BO (v:=.agg #[.int .i64 i0,.int .i64 i1,.int .i64 i2,.int .i64 i3]) (by simp[results,results109,go_sem]) rfl ⟨rfl,rfl⟩}
theorem Wx(a:Int)(w:World):Calls prog 165 #[.int .i64 a] w λe w'=>e=.returned (.bool false)/\w.grownBy w' none:=by
 go_enter func165,ntmps165;have hd:(a !=a)=false:=by simp
 go_wp2;all_goals first|(go_ret;exact⟨rfl,AD _ _⟩)|skip
 all_goals go_quiet (fail);go_wp2;go_ret;exact⟨rfl,Af _ _ _⟩
def cmpI(a b:Int):Int:=if a<b then -1 else if b<a then 1 else 0
theorem Q3t(a b:Int)(w:World):Calls prog 144 #[.int .i64 a,.int .i64 b] w λe w'=>e=.returned (.int .i64 (cmpI a b))/\w.grownBy w' none:=by have b7:=Wx a w;go_enter func144,ntmps144;go_wp2_with fail;refine b7.mono ?_;rintro e w1⟨rfl,hg1⟩;have bJ:=Wx b w1;clear b7;go_wp2_with fail;refine bJ.mono ?_;rintro e w2⟨rfl,hg2⟩;have hg:=Ab hg1 hg2;clear bJ hg1 hg2;by_cases h1:a<b;{(have hd:decide (a<b)=true:=by simpa using h1);have HE:=Ac (show cmpI a b=-1 from by unfold cmpI;rw[AQ h1]);go_wp2;go_ret;exact⟨by rw[Aa HE];rfl,hg⟩};{(have hd:decide (a<b)=false:=by simpa using h1);by_cases h2:b<a;{(have bg:decide (b<a)=true:=by simpa using h2);have HE:=Ac (show cmpI a b=1 from by unfold cmpI;rw[AO h1,AQ h2]);go_wp2;go_ret;exact⟨by rw[Aa HE];rfl,hg⟩};{(have bg:decide (b<a)=false:=by simpa using h2);have HE:=Ac (show cmpI a b=0 from by unfold cmpI;rw[AO h1,AO h2]);go_wp2;go_ret;exact⟨by rw[Aa HE];rfl,hg⟩}}
theorem Hz(a b:Int)(x y:List Int):cmpL (a::x) (b::y)=if cmpI a b=0 then cmpL x y else cmpI a b:=by show (if a<b then (-1:Int)else if b<a then 1 else cmpL x y)=_;unfold cmpI;by_cases h1:a<b;{rw[AQ h1,AQ h1];rfl};{rw[AO h1,AO h1];by_cases h2:b<a;{rw[AQ h2,AQ h2];rfl};{rw[AO h2,AO h2,AQ rfl]}}
theorem Q1q(v u:Value)(x y:List Int)(w:World)(hx:Q0V v x w)(hy:Q0V u y w):Calls prog 111 #[v,u] w λe w'=>e=.returned (.int .i64 (cmpL x y))/\w.grownBy w' none:=by
 obtain⟨va,vc,rfl⟩:=hx.slice;obtain⟨ua,uc,rfl⟩:=hy.slice;have lx:=hx.le;have ly:=hy.le;unfold maxLen at lx ly;obtain⟨R,hR⟩:∃R,cmpL x y=R:=⟨_,rfl⟩
 rw[hR];have HR:=Ac hR;have HX:=Ac hx;have HY:=Ac hy;clear hR hx hy;go_enter func111,ntmps111;go_wp2;go_loopw [11] (λz w'=>∃k:Nat,k<=x.length/\k<=y.length/\z=.int .i64 k/\cmpL (x.drop k) (y.drop k)=R/\w.grownBy w' none) (λz _=>x.length-(intOf z).toNat);case atStart=>exact⟨0,AG _,AG _,rfl,Aa HR,AD _ _⟩
 case round=>clear HR;obtain⟨k,hk,hk2,rfl,hr,hg⟩:=hrel;by_cases hlt:k<x.length;{(have hd:decide (k<x.length)=true:=by simpa using hlt);(obtain⟨a,ha⟩:∃a,x[k]?=some a:=⟨_,AB hlt⟩);obtain⟨g,off,e1,c1⟩:=((Aa HX).gr hg).cell ha;subst e1;rw[A0 ha]at hr;by_cases NF:k<y.length;{(have bg:decide ((y.length:Int)<=(k:Int))=false:=by simp;omega);(obtain⟨b,hb⟩:∃b,y[k]?=some b:=⟨_,AB NF⟩);(obtain⟨g2,wZ,e2,c2⟩:=((Aa HY).gr hg).cell hb;subst e2;rw[A0 hb,Hz]at hr;have hC:=Q3t a b wr;obtain⟨r,hr1⟩:∃r,cmpI a b=r:=⟨_,rfl⟩);rw[hr1]at hr hC;have HR:=Ac hr;clear hr hr1 ha hb;go_wp2_with fail;refine hC.mono ?_;rintro e w1⟨rfl,hg1⟩;have bQ:=Ab hg hg1;clear hg1 hC;have hr:=Aa HR;by_cases h0:r=0;{(have xp:(r !=0)=false:=by simpa using h0);rw[AQ h0]at hr;have cO:=Ac hr;clear hr HR h0;go_wp2;go_roundw;(case rel=>exact⟨k+1,by omega,by omega,by go_num,Aa cO,bQ⟩);case measure=>simp[intOf];omega};{(have xp:(r !=0)=true:=by simpa using h0);rw[AO h0]at hr;subst hr;clear HR h0;go_wp2;go_ret;exact⟨rfl,bQ⟩}};{(have bg:decide ((y.length:Int)<=(k:Int))=true:=by simp;omega);have e:y.drop k=[]:=BD (by omega);rw[e]at hr;have hr2:1=R:=hr;subst hr2;clear e hr ha;go_wp2;go_ret;exact⟨rfl,hg⟩}};{(have hd:decide (k<x.length)=false:=by simpa using hlt);have e:x.drop k=[]:=BD (by omega);rw[e]at hr;by_cases NF:x.length<y.length;{(have bg:decide ((x.length:Int)<(y.length:Int))=true:=by simp;omega);(obtain⟨b,hb⟩:∃b,y[k]?=some b:=⟨_,AB (by omega)⟩);rw[A0 hb]at hr;have hr2:-1=R:=hr;subst hr2;clear e hr hb;go_wp2;go_ret;exact⟨rfl,hg⟩};{(have bg:decide ((x.length:Int)<(y.length:Int))=false:=by simp;omega);have e2:y.drop k=[]:=BD (by omega);rw[e2]at hr;have hr2:0=R:=hr;subst hr2;clear e e2 hr;go_wp2;go_ret;exact⟨rfl,hg⟩}}
end Go.Proofs.YtolhbeekfjnfmaaGreatDoor

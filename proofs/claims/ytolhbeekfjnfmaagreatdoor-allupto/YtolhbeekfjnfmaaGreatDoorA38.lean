import Derived.Test.YtolhbeekfjnfmaaGreatDoorA37
set_option maxHeartbeats 8000000
set_option maxRecDepth 100000
namespace Go.Proofs.YtolhbeekfjnfmaaGreatDoor
open Go.RowKit Go.Proofs.Tryz
variable {v nv uv fv mv k0 k1 k2 lv v':Value}{l:List Int}{w w' wr w5:World}{S:Nat->Prop}{T T' T1 T2 T3:Nat->Nat}{W tx ty x y gb c2 fc n m k:Nat}{us fs ms:List (Value×Int)}{ls:List Value}{fa:Option Addr}{a b:Int×List Int}{F:List Ft}{a8:List Ch}
def Hn(X:(Nat->Nat)->Nat->Nat->Q0F->World->Prop)(T:Nat->Nat)(W:Nat)(nv uv fv mv k0 k1 k2:Value)(us fs ms:List (Value×Int))(ls:List Value)(tx ty x y:Nat)(s:Q0F)(w:World)(e:Ending)(w':World):Prop:=
 e=.returned (.bool true)/\∃T' ew uq,Q1J T' W nv uv fv mv k0 k1 k2 ew us fs ms uq w'/\uq.length=ls.length+1/\X T' tx x s w'/\YT T' ty y s w'/\
  GrS (λk=>T k=1\/T k=9\/T k=tx\/T k=ty) w w'/\∀k,k<w.heap.size->T' k=T k
theorem Q0V.grs(h:Q0V v l w)(hg:GrS S w w')(hs:∀g,v.ownBlock=some g->¬ S g):Q0V v l w':=by rcases h with h1|⟨a,cap,h1,h2,h3⟩;{exact .inl h1};{refine .inr ⟨a,cap,h1,h2,λi x hx=>?_⟩;(obtain⟨g,off,e1,e2⟩:=h3 i x hx;refine⟨g,off,e1,?_⟩;have hb:v.ownBlock=some g:=by rw[h1,e1];rfl);rw[EG (a:=⟨g,off+i,Option.none⟩) (hg.block g (CL w _ e2) (hs g hb))];exact e2}
theorem Q0V.grs'(h:Q0V v l w)(hg:GrS S w w')(hs:l≠[]->∀g,v.ownBlock=some g->¬ S g):Q0V v l w':=by by_cases hl:l=[];{subst hl;exact h.none};{exact h.grs hg (hs hl)}
theorem C2.grs{T:TypeId}{N:Nat}{x y:Value}(h:C2 T N x y w)(hg:GrS S w w')(hs:¬ S N):C2 T N x y w':=hg.blk h hs
theorem Q4u:Q5K XT where
 keep:=λh hg hs ho=>h.keep hg hs ho
 add:=λT t x s f fa fc w _ h _ hc hin hne=>Q5i T t x s f fa fc w h hc hin.inAt hin.le hne
 facts:=λT t x s w _ h _=>Yu T t x s w h
 mats:=λT t x s w _ h _=>Yv T t x s w h
theorem Q1J.keepS(h:Q1J T W nv uv fv mv k0 k1 k2 lv us fs ms ls w)(hg:GrS S w w')(hs:∀k,1<=T k->T k<=10->¬ S k)(ho:∀k,k<w.heap.size->1<=T k->T k<=10->T' k=T k):Q1J T' W nv uv fv mv k0 k1 k2 lv us fs ms ls w':=
 ⟨h.blk.grs hg (hs W (by rw[h.own];omega) (by rw[h.own];omega)),by rw[ho W (Ad h.blk) (by rw[h.own];omega) (by rw[h.own];omega)];exact h.own,
  h.nums.keep hg (λk hk=>hs k (by omega) (by omega)) (λk hk hk2=>ho k hk (by omega) (by omega)),h.lent.keep hg (λk hk=>hs k (by omega) (by omega)) (λk hk hk2=>ho k hk (by omega) (by omega)),
  h.facts.keep hg (λk hk=>hs k (by omega) (by omega)) (λk hk hk2=>ho k hk (by omega) (by omega)),h.mats.keep hg (λk hk=>hs k (by omega) (by omega)) (λk hk hk2=>ho k hk (by omega) (by omega))⟩
structure Q4F(X:(Nat->Nat)->Nat->Nat->Q0F->World->Prop)(T T3:Nat->Nat)(W:Nat)(nv uv fv mv k0 k1 k2 lv:Value)(us fs ms:List (Value×Int))(ls:List Value)(tx ty x y gb c2:Nat)(s2:Q0F)(f:Q0E)(fa:Option Addr)(fc:Nat)(w w5:World):Prop where
 lists:Q1J T3 W nv uv fv mv k0 k1 k2 lv us fs ms ls w5
 nx:X T3 tx x s2 w5
 ny:YT T3 ty y s2 w5
 row:Q0L (w.heap.size+2) (.slice (some ⟨gb,0,none⟩) (f.vals.length+8) c2) (f.vals++List.replicate 8 (-77)) w5
 fin:Q0V (.slice fa f.vals.length fc) f.vals w5
 fb:C2 37 (w.heap.size+1) (.int .i64 f.kind) (.slice fa f.vals.length fc) w5
 ge:w.heap.size+2<=gb
 tg:T3 gb=13
 gr:GrS (λk=>T k=tx\/T k=ty) w w5
 old:∀k,k<w.heap.size->T3 k=T k
theorem Q4F.one{X:(Nat->Nat)->Nat->Nat->Q0F->World->Prop}(hX:Q5K X){s2:Q0F}{f:Q0E}{wx:World} (mC:Q1J T W nv uv fv mv k0 k1 k2 lv us fs ms ls w)(zH:11<=tx)(iZ:11<=ty)(qQ:tx≠ty)(kP:¬ InH tx)(oh:¬ InH ty)(hg:w.grownBy wr none)(j9:∀k,k<w.heap.size->T1 k=T k)(rX:T1 gb=13)(uN:∀k,w.heap.size<=k->k≠gb->T1 k=0)(hgb:w.heap.size+2<=gb/\gb<wr.heap.size) (hv:Q0L (w.heap.size+2) (.slice (some ⟨gb,0,none⟩) (f.vals.length+8) c2) (f.vals++List.replicate 8 (-77)) wr)(hf:Q0V (.slice fa f.vals.length fc) f.vals w)(hf0:f.vals≠[]->∀g,(Value.slice fa f.vals.length fc).ownBlock=some g->g<w.heap.size/\T g=0)(hF:C2 37 (w.heap.size+1) (.int .i64 f.kind) (.slice fa f.vals.length fc) wr) (fL:GrS (λk=>T1 k=tx) wr wx)(UA:X T2 tx x s2 wx)(fX:∀k,k<wr.heap.size->T2 k=T1 k)(bG:GrS (λk=>T2 k=ty) wx w5)(nM:YT T3 ty y s2 w5)(gU:∀k,k<wx.heap.size->T3 k=T2 k):Q4F X T T3 W nv uv fv mv k0 k1 k2 lv us fs ms ls tx ty x y gb c2 s2 f fa fc w w5:=by
 have QX:(13:Nat)≠tx:=λe=>kP ⟨by omega,by omega⟩;have h13y:(13:Nat)≠ty:=λe=>oh ⟨by omega,by omega⟩;have hs0:=hg.size;have jV:=fL.size;have hs5:=bG.size;have ho:∀k,k<w.heap.size->T3 k=T k:=λk hk=>by rw[gU k (by omega),fX k (by omega),j9 k hk]
 have af:GrS (λ_=>False) w wr:=GrS.of hg (by simp);have pw:w.heap.size+1<wr.heap.size:=Ad hF;have hb1:T1 (w.heap.size+1)=0:=uN _ (by omega) (by omega);have hb2:T2 (w.heap.size+1)=0:=by rw[fX _ pw,hb1]
 have YB:T2 gb=13:=by rw[fX gb hgb.2,rX]
 refine⟨?_,hX.keep UA bG (λk hk e=>by rcases hk with hk|hk<;>omega) (λk hk _=>gU k hk),nM,?_,?_,?_,hgb.1,by rw[gU gb (by omega),YB],?_,ho⟩;{refine((mC.keepS (T':=T1) af (by simp) (λk hk _ _=>j9 k hk)).keepS (T':=T2) fL (λk h1 h2 e=>by omega) (λk hk _ _=>fX k hk)).keepS bG (λk h1 h2 e=>by omega) (λk hk _ _=>gU k hk)};{have h1:Q0B 3 1 C8 (w.heap.size+2) (.slice (some ⟨gb,0,none⟩) (f.vals.length+8) c2) (f.vals++List.replicate 8 (-77)) wx:=fL.row hv (λg aw e=>by(have e':gb=g:=by simpa[Value.ownBlock]using aw);subst e';omega);exact bG.row h1 (λg aw e=>by(have e':gb=g:=by simpa[Value.ownBlock]using aw);subst e';omega)};{refine((hf.gr hg).grs' fL (λhne g aw e=>?_)).grs' bG (λhne g aw e=>?_);{obtain⟨k1,k2⟩:=hf0 hne g aw;rw[j9 g k1,k2]at e;omega};{obtain⟨k1,k2⟩:=hf0 hne g aw;rw[fX g (by omega),j9 g k1,k2]at e;omega}};{exact(hF.grs fL (by rw[hb1];omega)).grs bG (by rw[hb2];omega)};{refine((af.mono (S':=λk=>T k=tx\/T k=ty) (by simp)).comp fL (λi hi hn=>?_)).comp bG (λi hi hn=>?_);{rw[j9 i hi];exact λe=>hn (.inl e)};{rw[fX i (by omega),j9 i hi];exact λe=>hn (.inr e)}}
theorem Q5F:(prog.info? 35).map (λi=>(i.zero,i.size,i.bytes))=some (some (.slice none 0 0),1,24):=by kernel_rfl
theorem Q4F.done{X:(Nat->Nat)->Nat->Nat->Q0F->World->Prop}(hX:Q5K X){s2:Q0F}{f:Q0E}{w6 w7 w8:World} (h:Q4F X T T3 W nv uv fv mv k0 k1 k2 lv us fs ms ls tx ty x y gb c2 s2 f fa fc w w5)(zH:11<=tx)(iZ:11<=ty)(kP:¬ InH tx)(oh:¬ InH ty)(bq:w5.grownBy w6 (some gb))(jF:Q0L (w.heap.size+2) (.slice (some ⟨gb,0,none⟩) (f.vals.length+8) c2) (List.replicate (f.vals.length+8) (-99)) w6)(cq:w6.grownBy w7 none) (hl:Q0O lv v' n m w7 w8)(hr8:Q0B 35 1 (λv:Value=>[v]) 0 v' (ls++[.slice (some ⟨gb,0,none⟩) (f.vals.length+8) c2]) w8):(w8.cell? ⟨W,7,none⟩=some lv/\w8.frozen? ⟨W,7,none⟩=false)/\Hn X T W nv uv fv mv k0 k1 k2 us fs ms ls tx ty x y s2 w (.returned (.bool true)) (w8.setCell ⟨W,7,none⟩ v'):=by
 have QX:(13:Nat)≠tx:=λe=>kP ⟨by omega,by omega⟩;have h13y:(13:Nat)≠ty:=λe=>oh ⟨by omega,by omega⟩;have hL:=h.lists;have ig:gb<w5.heap.size:=by have hrow:=(h.row.own gb rfl).2;exact hrow
 have ZH:=Ad hL.blk;have hW1:=hL.own;have x8:=h.tg;have hge:=h.ge;have TD:=bq.size;have WO:=cq.size;have hlv:∀b,lv.ownBlock=some b->T3 b=9/\b<w5.heap.size:=λb hb=>⟨hL.lent.1.2 b hb,(hL.lent.1.1.own b hb).2⟩
 have aR:=Aj w8 W 7 v';have hs8:w7.heap.size<=w8.heap.size:=(hl.gr (S:=λi=>lv.ownBlock=some i) (λb hb=>hb)).size;have xz:lv.ownBlock≠some W:=λe=>by have:=(hlv W e).1;omega
 have hWg:W≠gb:=λe=>by rw[e]at hW1;omega
 have hG:GrS (λk=>k=gb\/lv.ownBlock=some k\/k=W) w5 (w8.setCell ⟨W,7,none⟩ v'):=by refine((((GrS.of bq (λg hg=>by cases hg;exact .inl rfl):GrS (λk=>k=gb\/lv.ownBlock=some k\/k=W) w5 w6).then cq (by simp)).trans (hl.gr (λb hb=>.inr (.inl hb)))).then aR (λg hg=>?_));simp at hg;exact .inr (.inr (.inr hg.symm))
 obtain⟨T',bH⟩:∃T':Nat->Nat,T'=λk=>if k=gb then 10 else if k<w7.heap.size then T3 k else 9:=⟨_,rfl⟩
 have t0:T' gb=10:=by rw[bH];dsimp only;rw[AQ rfl]
 have t1:∀k,k≠gb->k<w7.heap.size->T' k=T3 k:=λk h1 h2=>by rw[bH];dsimp only;rw[AO h1,AQ h2]
 have t2:∀k,w7.heap.size<=k->T' k=9:=λk h1=>by rw[bH];dsimp only;rw[AO (by omega),AO (by omega)]
 have tk:∀k,k<w5.heap.size->T3 k≠13->T' k=T3 k:=λk h1 h2=>t1 k (λe=>h2 (by rw[e];exact x8)) (by omega);have hno:∀k,T3 k≠13->T3 k≠9->T3 k≠1->¬ (k=gb\/lv.ownBlock=some k\/k=W):=by rintro k h1 h2 h3 (e|e|e);{exact h1 (by rw[e];exact x8)};{exact h2 (hlv k e).1};{exact h3 (by rw[e];exact hW1)}
 have ZI:Q1N W #[nv,uv,fv,mv,k0,k1,k2,lv] w8:=hl.block ((hL.blk.gr bq (λe=>hWg (by cases e;rfl))).gr cq (by simp)) xz;have hv':∀b,v'.ownBlock=some b->T' b=9/\b≠W/\b≠gb:=λb hb=>by rcases hl.own b hb with e|e;{obtain⟨k1,k2⟩:=hlv b e;exact⟨by rw[tk b k2 (by omega),k1],λe'=>by rw[e']at k1;omega,λe'=>by rw[e']at k1;omega⟩};{exact⟨t2 b e,by omega,by omega⟩}
 refine⟨⟨by rw[ZI.cell 7];rfl,ZI.fz 7⟩,rfl,T',v',ls++[.slice (some ⟨gb,0,none⟩) (f.vals.length+8) c2],⟨ZI.set 7 v',by rw[tk W ZH (by omega)];exact hW1,?_,⟨⟨hr8.other aR (λg hg e=>by have:=(hv' g hg).2.1;simp at e;omega),λg hg=>(hv' g hg).1⟩,λz hz=>?_⟩,?_,?_⟩,by simp,?_,?_,?_,?_⟩;{exact hL.nums.keep hG (λk hk=>hno k (by omega) (by omega) (by omega)) (λk hk hk2=>tk k hk (by omega))};{rcases BA.1 hz with hz|hz;{obtain⟨nn,hz2⟩:=hL.lent.2 z hz;exact⟨nn,hz2.keep2 hG (λk hk=>hno k (by omega) (by omega) (by omega)) (λk hk hk2=>by rw[tk k hk (by omega)];exact hk2)⟩};{rw[AZ]at hz;subst hz;refine⟨f.vals.length+8,?_,λg hg=>?_⟩;{have h7:=(jF.gr cq).weak (base':=0) (AG _);have h8:Q0B 3 1 C8 0 (.slice (some ⟨gb,0,none⟩) (f.vals.length+8) c2) (List.replicate (f.vals.length+8) (-99)) w8:=(hl.gr (S:=λi=>lv.ownBlock=some i) (λb hb=>hb)).row h7 (λg hg e=>by(have e':gb=g:=by simpa[Value.ownBlock]using hg);subst e';have:=(hlv gb e).1;omega);exact h8.other aR (λg hg e=>by(have e':gb=g:=by simpa[Value.ownBlock]using hg);subst e';simp at e;exact hWg e)};{(have e':gb=g:=by simpa[Value.ownBlock]using hg);subst e';exact t0}}};{exact hL.facts.keep hG (λk hk=>hno k (by omega) (by omega) (by omega)) (λk hk hk2=>tk k hk (by omega))};{exact hL.mats.keep hG (λk hk=>hno k (by omega) (by omega) (by omega)) (λk hk hk2=>tk k hk (by omega))};{exact hX.keep h.nx hG (λk hk=>hno k (by omega) (by omega) (by omega)) (λk hk hk2=>tk k hk (by omega))};{exact h.ny.keep hG (λk hk=>hno k (by omega) (by omega) (by omega)) (λk hk hk2=>tk k hk (by omega))};{refine(h.gr.mono (S':=λk=>T k=1\/T k=9\/T k=tx\/T k=ty) (λk hk=>.inr (.inr hk))).comp hG (λi hi hn hx=>?_);have hi3:=h.old i hi;rcases hx with e|e|e;{omega};{exact hn (.inr (.inl (by rw[<-hi3];exact(hlv i e).1)))};{subst e;exact hn (.inl (by rw[<-hi3];exact hW1))}};{intro k hk;rw[t1 k (by omega) (by have:=h.gr.size;omega)];exact h.old k hk}
end Go.Proofs.YtolhbeekfjnfmaaGreatDoor
namespace Go.Proofs.YtolhbeekfjnfmaaGreatDoor
open Go.Proofs.Tryz
variable {v nv uv fv mv k0 k1 k2 lv v':Value}{l:List Int}{w w' wr w5:World}{S:Nat->Prop}{T T' T1 T2 T3:Nat->Nat}{W tx ty x y gb c2 fc n m k:Nat}{us fs ms:List (Value×Int)}{ls:List Value}{fa:Option Addr}{a b:Int×List Int}{F:List Ft}{a8:List Ch}
def Rm(ids:List Int):List Int:=ids++List.replicate (4-ids.length) 0
def F7(ids:List Int):List Int:=(Pp (Rm ids)).reverse
theorem Tok.nums_pad(t:Tok):t.nums=Rm t.ids:=by unfold Tok.nums Rm Tok.ids;rw[AY]
theorem Tok.age_ids(t:Tok):t.age=F7 t.ids:=by unfold Tok.age F7;rw[Tok.nums_pad]
def Bb(a b:Int×List Int):Bool:=decide (0<cmpL (F7 a.2) (F7 b.2))
def Cu(b:Option (Int×List Int))(m:Int×List Int):Option (Int×List Int):=
 match b with
 |none=>some m
 |some k=>if Bb m k=true then some m else some k
def B4(b:Option (Int×List Int))(l:List (Int×List Int)):Option (Int×List Int):=l.foldl Cu b
theorem Ha(b:Option (Int×List Int))(l k:List (Int×List Int)):B4 b (l++k)=B4 (B4 b l) k:=List.foldl_append
theorem D2:Bb a b=false↔cmpL (F7 a.2) (F7 b.2)<=0:=by unfold Bb;simp
theorem Gf:Bb a b=true↔0<cmpL (F7 a.2) (F7 b.2):=by unfold Bb;simp
theorem He{c:Int×List Int}(h1:Bb a b=false)(h2:Bb b c=false):Bb a c=false:=by rw[D2]at *;exact Em _ _ _ h1 h2
theorem E1(k:Int×List Int):∀(l:List (Int×List Int)),(∀x∈l,Bb x k=false)->B4 (some k) l=some k
 |[],_=>rfl
 |x::l,h=>by
  have e:B4 (some k) (x::l)=B4 (Cu (some k) x) l:=rfl;rw[e];unfold Cu;simp only;rw[h x (BF ..),AO (by simp)];exact E1 k l (λy hy=>h y (BH _ hy))
theorem D5(k:Int×List Int):∀(l:List (Int×List Int)),∃k',B4 (some k) l=some k'/\(k'=k\/k'∈l)/\Bb k k'=false
 |[]=>⟨k,rfl,.inl rfl,by rw[D2,C6];exact FY _⟩
 |x::l=>by
  have e:B4 (some k) (x::l)=B4 (Cu (some k) x) l:=rfl;rw[e];unfold Cu;simp only;cases hx:Bb x k
  ·rw[AO (by simp)]
   obtain⟨k',h1,h2,h3⟩:=D5 k l;exact⟨k',h1,by rcases h2 with h|h;exact .inl h;exact .inr (BH _ h),h3⟩
  ·rw[AQ rfl]
   obtain⟨k',h1,h2,h3⟩:=D5 x l;refine⟨k',h1,.inr ?_,?_⟩
   ·rcases h2 with h|h
    ·rw[h];exact BF ..
    ·exact BH _ h
   ·have hk:Bb k x=false:=by
     rw[D2];rw[Gf]at hx;rw[B5];omega
    exact He hk h3
theorem M4(m:Int×List Int)(l1 l2:List (Int×List Int))(h1:∀x∈l1,Bb m x=true)(h2:∀x∈l2,Bb x m=false)(b:Option (Int×List Int)):B4 b (l1++m::l2)=Cu b m:=by rw[Ha];have e:∀b,B4 b (m::l2)=B4 (Cu b m) l2:=λ_=>rfl;rw[e];have hm:B4 (some m) l2=some m:=E1 m l2 h2;cases b with|none=>{cases l1 with|nil=>exact hm|cons x l1=>have e2:B4 none (x::l1)=B4 (some x) l1:=rfl;rw[e2];obtain⟨k',k1,k2,_⟩:=D5 x l1;(have:Bb m k'=true:=by rcases k2 with rfl|h;{exact h1 _ (BF ..)};{exact h1 _ (BH _ h)});rw[k1];unfold Cu;simp only;rw[this,AQ rfl];exact hm}|some k=>cases hmk:Bb m k;{(have eM:∀x∈l1,Bb x k=false:=λx hx=>by cases hxk:Bb x k;{rfl};{(have hxm:Bb x m=false:=by have:=h1 x hx;rw[Gf]at this;rw[D2,B5];omega);rw[He hxm hmk]at hxk;cases hxk});rw[E1 k l1 eM];unfold Cu;simp only;rw[hmk,AO (by simp)];exact E1 k l2 (λx hx=>He (h2 x hx) hmk)};{obtain⟨k',k1,k2,k3⟩:=D5 k l1;(have:Bb m k'=true:=by rcases k2 with rfl|h;{exact hmk};{exact h1 _ h});rw[k1];unfold Cu;simp only;rw[this,hmk,AQ rfl,AQ rfl];exact hm}
def Eh(L:List (Int×Q0E))(fired:List (Int×List Int))(i:Nat)(cs:List Q0A):List (Int×List Int):=((As L cs [] []).map (λids=>((i:Int),ids))).filter (λm=>!Dz fired m)
def Fv(s:Q0F):List (Int×List Int):=(Ak s.rs s.L).filter (λm=>!Dz s.fired m)
theorem Hc(l:List (Int×List Int))(m:Int×List Int):Dz l m=true↔m∈l:=by unfold Dz;rw[ED];constructor;{rintro⟨k,h1,h2⟩;rw[CT]at h2;rw[<-h2];exact h1};{exact λh=>⟨m,h,by rw[CT]⟩}
def Gz(L:List (Int×Q0E))(fired:List (Int×List Int)):Nat->List Q0C->List (Int×List Int)
 |_,[]=>[]
 |i,q::rs=>Eh L fired i q.conds++Gz L fired (i+1) rs
theorem Kr(L:List (Int×Q0E))(fired:List (Int×List Int)):∀(rs:List Q0C) (i:Nat),Gz L fired i rs=(Bu L i rs).filter (λm=>!Dz fired m)
 |[],_=>rfl
 |q::rs,i=>by
  unfold Gz Bu;rw[DJ,Kr L fired rs (i+1)];rfl
theorem Qo(s:Q0F):Fv s=Gz s.L s.fired 0 s.rs:=by rw[Kr];rfl
theorem Q3I.next{F:List Ft}{cs:List Q0A}{c:Ch}{Z:List Tok}(h:Q3I F cs c Z)(hF:Q1M F)(iC:∀t∈c.e.toks,t.length=c.jn){fired:List (Int×List Int)}{i:Nat}(hf:∀t∈c.e.toks,((i:Int),t.ids)∈fired↔t∈Z)(b:Option (Int×List Int)):
  B4 b (Eh (F.map (λg=>(g.id,g.f))) fired i cs)=match c.e.wait[0]? with
   |none=>b
   |some t=>Cu b ((i:Int),t.ids):=by
 have hp:=h.ok.perm h.terms;have vJ:=h.fd.nodup_iff.1 (h.ok.nodup h.terms hF);have qX:(Eh (F.map (λg=>(g.id,g.f))) fired i cs).Pairwise (λa b=>Fp a.2 b.2):=by unfold Eh;refine List.Pairwise.filter _ ?_;rw[GY];exact C4 _ hF.fst cs [] []
 have hmem:∀m,m∈Eh (F.map (λg=>(g.id,g.f))) fired i cs↔∃t∈c.e.wait,m=((i:Int),t.ids):=by intro m;unfold Eh;rw[BI,CC,EP,<-FQ,Hc];constructor;{rintro⟨⟨ids,h1,rfl⟩,h2⟩;obtain⟨t,ht,rfl⟩:=CC.1 (hp.mem_iff.2 h1);refine⟨t,?_,rfl⟩;rcases BA.1 (h.fd.mem_iff.1 ht)with hw|hz;{exact hw};{exact absurd ((hf t ht).2 hz) h2}};{rintro⟨t,ht,rfl⟩;have qQ:=h.fd.mem_iff.2 (BA.2 (.inl ht));refine⟨⟨t.ids,hp.mem_iff.1 (CC.2 ⟨t,qQ,rfl⟩),rfl⟩,λhx=>?_⟩;exact(JW.1 vJ).2.2 t ht t ((hf t qQ).1 hx) rfl}
 cases hw:c.e.wait[0]? with|none=>(have he:c.e.wait=[]:=by cases hl:c.e.wait with|nil=>rfl|cons a l=>rw[hl]at hw;simp at hw);(have:Eh (F.map (λg=>(g.id,g.f))) fired i cs=[]:=by cases hl:Eh (F.map (λg=>(g.id,g.f))) fired i cs with|nil=>rfl|cons a l=>obtain⟨t,ht,_⟩:=(hmem a).1 (by rw[hl];exact BF ..);rw[he]at ht;simp at ht);rw[this];rfl|some t=>have ht:t∈c.e.wait:=AW hw;(have r8:∀u∈c.e.wait,Tok.less u t=false:=λu hu=>by obtain⟨j,hj⟩:=EN hu;exact Hp.first Tok.less_ord Tok.less_self h.ok.heap hw j u hj);obtain⟨l1,l2,e⟩:=List.append_of_mem ((hmem ((i:Int),t.ids)).2 ⟨t,ht,rfl⟩);show B4 b (Eh (F.map (λg=>(g.id,g.f))) fired i cs)=Cu b ((i:Int),t.ids);(have hle:∀u∈c.e.wait,Bb ((i:Int),u.ids) ((i:Int),t.ids)=false:=λu hu=>by rw[D2,<-Tok.age_ids,<-Tok.age_ids];have h1:=r8 u hu;by_cases h2:0<cmpL u.age t.age;{rw[(Tok.less_iff u t).2 (.inl h2)]at h1;cases h1};{omega});rw[e]at qX⊢;rw[FK,EB]at qX;refine M4 _ l1 l2 (λx hx=>?_) (λx hx=>?_) b;{obtain⟨u,hu,rfl⟩:=(hmem x).1 (by rw[e];exact BA.2 (.inl hx));have hlt:=qX.2.2 _ hx _ (BF ..);have h1:=r8 u hu;rw[Gf,<-Tok.age_ids,<-Tok.age_ids];have h2:=hle u hu;rw[D2,<-Tok.age_ids,<-Tok.age_ids]at h2;by_cases h3:cmpL u.age t.age=0;{exfalso;have h4:=Kz _ _ h3;(have h5:cmpL u.nums t.nums<0:=by have:=Ic _ _ hlt;unfold Tok.nums;rw[iC u (h.fd.mem_iff.2 (BA.2 (.inl hu))),iC t (h.fd.mem_iff.2 (BA.2 (.inl ht))),Nl _ _ _ (by simp[iC u (h.fd.mem_iff.2 (BA.2 (.inl hu))),iC t (h.fd.mem_iff.2 (BA.2 (.inl ht)))])];exact this);rw[(Tok.less_iff u t).2 (.inr ⟨h4,h5⟩)]at h1;cases h1};{rw[B5];omega}};{obtain⟨u,hu,rfl⟩:=(hmem x).1 (by rw[e];exact BA.2 (.inr (BH _ hx)));exact hle u hu}
def N1(b:Option (Nat×Tok))(i:Nat)(c:Ch):Option (Nat×Tok):=
 match c.e.wait[0]? with
 |none=>b
 |some t=>match b with
  |none=>some (i,t)
  |some (k,u)=>if 0<cmpL t.age u.age then some (i,t)else some (k,u)
def Ey:Option (Nat×Tok)->Nat->List Ch->Option (Nat×Tok)
 |b,_,[]=>b
 |b,i,c::a8=>Ey (N1 b i c) (i+1) a8
theorem Pm:∀(a8 ds:List Ch) (b:Option (Nat×Tok)) (i:Nat),Ey b i (a8++ds)=Ey (Ey b i a8) (i+a8.length) ds
 |[],_,_,_=>rfl
 |c::a8,ds,b,i=>by
  have:=Pm a8 ds (N1 b i c) (i+1);show Ey (N1 b i c) (i+1) (a8++ds)=_
  rw[this,AP,show i+1+a8.length=i+(a8.length+1) by omega];rfl
def Nx(p:Nat×Tok):Int×List Int:=((p.1:Int),p.2.ids)
theorem Mk{F:List Ft}(hF:Q1M F){fired:List (Int×List Int)}:∀ {rs:List Q0C} {a8:List Ch} {Zs:List (List Tok)} (i:Nat) (b:Option (Nat×Tok)),Q1D F rs a8 Zs->(∀(j:Nat) (c:Ch) (Z:List Tok),a8[j]?=some c->Zs[j]?=some Z->∀t∈c.e.toks,(((i+j:Nat):Int),t.ids)∈fired↔t∈Z)->
  (Ey b i a8).map Nx=B4 (b.map Nx) (Gz (F.map (λg=>(g.id,g.f))) fired i rs)
 |[],[],[],i,b,_,_=>rfl
 |r::rs,c::a8,Z::Zs,i,b,h,hf=>by
  have h1:=h.1.next hF (h.1.ok.jlen h.1.few) (fired:=fired) (i:=i) (hf 0 c Z rfl rfl) (b.map Nx);have h2:=Mk hF (i+1) (N1 b i c) h.2 (fired:=fired) (λj d Y hd hY t ht=>by rw[show i+1+j=i+(j+1) by omega];exact hf (j+1) d Y hd hY t ht);unfold Gz;rw[Ha,h1];show (Ey (N1 b i c) (i+1) a8).map Nx=_
  rw[h2];congr 1
  unfold N1;cases c.e.wait[0]? with
  |none=>rfl
  |some t=>
   cases b with
   |none=>rfl
   |some p=>
    obtain⟨k,u⟩:=p;simp only[DM];unfold Cu;simp only;have e:Bb ((i:Int),t.ids) (Nx (k,u))=decide (0<cmpL t.age u.age):=by unfold Bb Nx;rw[<-Tok.age_ids,<-Tok.age_ids]
    rw[e];by_cases hd:0<cmpL t.age u.age
    ·rw[AQ hd,GD hd,AQ rfl];rfl
    ·rw[AO hd,IE hd,AO (by simp)];rfl
 |[],[],_::_,_,_,h,_=>h.elim
 |[],_::_,[],_,_,h,_=>h.elim
 |[],_::_,_::_,_,_,h,_=>h.elim
 |_::_,[],[],_,_,h,_=>h.elim
 |_::_,[],_::_,_,_,h,_=>h.elim
 |_::_,_::_,[],_,_,h,_=>h.elim
theorem Q1M.tok(h:Q1M F){rs:List Q0C}{Zs:List (List Tok)}(hc:Q1D F rs a8 Zs){fired:List (Int×List Int)}(hf:∀m,m∈fired↔∃(i:Nat) (Z:List Tok) (t:Tok),Zs[i]?=some Z/\t∈Z/\m=((i:Int),t.ids))(j:Nat)(c:Ch)(Z:List Tok)(h1:a8[j]?=some c)(h2:Zs[j]?=some Z)(t:Tok)(ht:t∈c.e.toks):((j:Int),t.ids)∈fired↔t∈Z:=by rw[hf];constructor;{rintro⟨i,Z',u,k1,k2,k3⟩;(simp only[CE]at k3;obtain⟨k3,k4⟩:=k3;have jY:j=i:=by omega);(subst jY;rw[h2]at k1;simp only[AE]at k1;subst k1;have hj:j<rs.length:=by have:=(AK.1 h1).1;rw[hc.len.1]at this;exact this);obtain⟨c2,Z2,p1,p2,p3⟩:=hc.get (AB hj);rw[h1]at p1;rw[h2]at p2;simp only[AE]at p1 p2;subst p1;subst p2;rw[h.ids (p3.ok.inF t ht) (p3.ok.inF u (p3.fd.mem_iff.2 (BA.2 (.inr k2)))) k4];exact k2};{exact λhz=>⟨j,Z,t,h2,hz,rfl⟩}
theorem XSt.next{s:Q0F}{Zs:List (List Tok)}(h:XSt s F a8 Zs):(Ey none 0 a8).map Nx=B4 none (Fv s):=by rw[Qo,<-h.facts];exact Mk h.asc 0 none h.rules (λj c Z h1 h2 t ht=>by rw[BU];exact h.asc.tok h.rules h.fired j c Z h1 h2 t ht)
theorem Inv.wait{e e':En}(he:e'.toks=e.toks):∀ {B:List Tok} {ns:List Nd},Inv B ns e->Inv B ns e'
 |B,[],h=>by show e'.toks.Perm B;rw[he];exact h
 |B,n::ns,h=>⟨h.1,Inv.wait he h.2⟩
def Ia(c:Ch):Ch:=⟨c.jn,c.ns,⟨c.e.toks,(Hp.popL Tok.less c.e.wait).take (c.e.wait.length-1)⟩⟩
theorem Q3I.fire{cs:List Q0A}{c:Ch}{Z:List Tok}(h:Q3I F cs c Z){t:Tok}(ht:c.e.wait[0]?=some t):Q3I F cs (Ia c) (Z++[t]):=by obtain⟨_,_,h3,h4⟩:=Hp.pop_ok Tok.less_ord h.ok.heap ht;refine⟨⟨h.ok.jn,h.ok.good,Inv.wait (e:=c.e) (e':=(Ia c).e) rfl h.ok.inv,h3⟩,?_,h.few,h.terms⟩;show c.e.toks.Perm _;refine h.fd.trans ((h4.append_right Z).trans ?_);rw[CN,<-BQ];exact(List.perm_append_singleton t _).symm
theorem Q1D.set{F:List Ft}:∀ {rs:List Q0C} {a8:List Ch} {Zs:List (List Tok)} {i:Nat} {r:Q0C} {c':Ch} {Z':List Tok},Q1D F rs a8 Zs->rs[i]?=some r->Q3I F r.conds c' Z'->Q1D F rs (a8.set i c') (Zs.set i Z')
 |[],_,_,_,_,_,_,_,h,_=>by simp at h
 |r::rs,c::a8,Z::Zs,0,q,_,_,h,hi,hc=>by
  simp only[BW,AE]at hi;subst hi;exact⟨hc,h.2⟩
 |r::rs,c::a8,Z::Zs,i+1,q,_,_,h,hi,hc=>by
  rw[BV]at hi;exact⟨h.1,Q1D.set h.2 hi hc⟩
 |_::_,[],[],_,_,_,_,h,_,_=>h.elim
 |_::_,[],_::_,_,_,_,_,h,_,_=>h.elim
 |_::_,_::_,[],_,_,_,_,h,_,_=>h.elim
theorem XSt.fire{s:Q0F}{F:List Ft}{a8:List Ch}{Zs:List (List Tok)}(h:XSt s F a8 Zs){i:Nat}{c:Ch}{t:Tok}(hc:a8[i]?=some c)(ht:c.e.wait[0]?=some t):∃eW,XSt ⟨s.rs,s.L,s.cnt,s.fired++[((i:Int),t.ids)]⟩ F (a8.set i (Ia c)) eW:=by
 have hi:i<s.rs.length:=by have:=(AK.1 hc).1;rw[h.rules.len.1]at this;exact this
 obtain⟨c2,Z,p1,p2,p3⟩:=h.rules.get (AB hi);rw[hc]at p1;simp only[AE]at p1;subst p1;have ZB:i<Zs.length:=by rw[h.rules.len.2];exact hi
 refine⟨Zs.set i (Z++[t]),h.facts,h.asc,h.cnt,h.c0,h.few,h.rules.set (AB hi) (p3.fire ht),h.eight,λm=>?_⟩;show m∈s.fired++[((i:Int),t.ids)]↔_;rw[BA,h.fired m,AZ];constructor;{rintro(⟨j,Z',u,k1,k2,rfl⟩|rfl);{by_cases jY:i=j;{subst jY;rw[p2]at k1;simp only[AE]at k1;subst k1;exact⟨i,Z++[t],u,by rw[EE ZB],BA.2 (.inl k2),rfl⟩};{exact⟨j,Z',u,by rw[EO jY];exact k1,k2,rfl⟩}};{exact⟨i,Z++[t],t,by rw[EE ZB],BA.2 (.inr (AZ.2 rfl)),rfl⟩}};{rintro⟨j,Z',u,k1,k2,rfl⟩;by_cases jY:i=j;{subst jY;rw[EE ZB]at k1;simp only[AE]at k1;subst k1;rcases BA.1 k2 with k|k;{exact .inl ⟨i,Z,u,p2,k,rfl⟩};{rw[AZ]at k;subst k;exact .inr rfl}};{rw[EO jY]at k1;exact .inl ⟨j,Z',u,k1,k2,rfl⟩}}
def Q0F.del(s:Q0F)(id:Int):Int×Q0F:=
 if s.L.any (λp=>p.1==id)then (0,⟨s.rs,s.L.filter (λp=>!(p.1==id)),s.cnt,Bh (Ak s.rs (s.L.filter (λp=>!(p.1==id)))) s.fired⟩)else (5,s)
def Q0F.fire(s:Q0F):((Int×List Int)×Int)×Q0F:=
 match B4 none (Fv s)with
 |none=>(((0,[]),5),s)
 |some m=>((m,0),⟨s.rs,s.L,s.cnt,s.fired++[m]⟩)
theorem Ka:∀(l:List (Int×List Int)) (k:Int×List Int),B4 none l=some k->k∈l
 |[],k,h=>by cases h
 |x::l,k,h=>by
  have e:B4 none (x::l)=B4 (some x) l:=rfl;rw[e]at h;obtain⟨k',h1,h2,_⟩:=D5 x l;rw[h1]at h;cases h
  rcases h2 with rfl|h2
  ·exact BF ..
  ·exact BH _ h2
theorem Jc(s:Q0F)(m:Int×List Int):m∈Fv s↔m∈Ak s.rs s.L/\m ∉ s.fired:=by unfold Fv;rw[BI,EP,<-FQ,Hc]
theorem Gc(L:List (Int×Q0E)):∀(cs:List Q0A) (b:Q0X) (ids:List Int) (m:List Int),m∈As L cs b ids->∀x∈m,x∈ids\/∃p∈L,p.1=x
 |[],b,ids,m,h,x,hx=>by
  unfold As at h;rw[AZ]at h;subst h;exact .inl hx
 |c::cs,b,ids,m,h,x,hx=>by
  unfold As at h;split at h
  ·split at h
   ·simp at h
   ·exact Gc L cs b ids m h x hx
  ·obtain⟨p,hp,hm⟩:=CU.1 h
   cases hb:Az p.2 c b with
   |none=>rw[hb]at hm;simp at hm
   |some b'=>
    rw[hb]at hm;rcases Gc L cs b' (ids++[p.1]) m hm x hx with h1|h1
    ·rcases BA.1 h1 with h2|h2
     ·exact .inl h2
     ·rw[AZ]at h2
      exact .inr ⟨p,hp,h2.symm⟩
    ·exact .inr h1
theorem Lq(rs:List Q0C)(L:List (Int×Q0E))(m:Int×List Int)(h:m∈Ak rs L):∀x∈m.2,∃p∈L,p.1=x:=by obtain⟨i,r,_,_,h3⟩:=(D3 L m rs).1 h;intro x hx;rcases Gc L r.conds [] [] m.2 h3 x hx with h1|h1;{simp at h1};{exact h1}
theorem Q0r(l:List Int):(Pp l).Pairwise (λa b=>a<=b):=by unfold Pp;have h:=List.pairwise_mergeSort (le:=λa b:Int=>decide (a<=b)) (by simp;omega) (by simp;omega) l;exact h.imp (λh=>by simpa using h)
theorem Us(l:List Int):(Pp l).Perm l:=List.mergeSort_perm ..
theorem Po{α:Type}[DecidableEq α]:∀ {l k:List α},l.Nodup->(∀x∈l,x∈k)->l.length<=k.length
 |[],_,_,_=>AG _
 |x::l,k,hn,h=>by
  obtain⟨h1,h2⟩:=JD.1 hn;have hx:=h x (BF ..);have ih:=Po (k:=k.erase x) h2 (λy hy=>(List.mem_erase_of_ne (λe=>h1 (by rw[<-e];exact hy))).2 (h y (BH _ hy)));rw[List.length_erase_of_mem hx]at ih;have:=GX hx;rw[AP];omega
def Ec(x:Int):List Int->List Int
 |[]=>[x]
 |y::l=>if x<=y then y::Ec x l else x::y::l
def Hr(out:List Int)(l:List Int):List Int:=l.foldl (λo x=>Ec x o) out
def Br(l:List Int):List Int:=Hr [] l
theorem Ge(x:Int):∀(l:List Int),(Ec x l).Perm (x::l)
 |[]=>DX _
 |y::l=>by
  unfold Ec;split
  ·exact((Ge x l).cons y).trans (List.Perm.swap x y l)
  ·exact DX _
theorem I9(x:Int):∀(l:List Int),l.Pairwise (λa b=>b<=a)->(Ec x l).Pairwise (λa b=>b<=a)
 |[],_=>JA _ _
 |y::l,h=>by
  obtain⟨h1,h2⟩:=EB.1 h;unfold Ec;split
  ·rename_i hx
   refine EB.2 ⟨λz hz=>?_,I9 x l h2⟩;rcases CQ.1 ((Ge x l).mem_iff.1 hz)with rfl|hz
   ·exact hx
   ·exact h1 z hz
  ·rename_i hx
   refine EB.2 ⟨λz hz=>?_,h⟩;rcases CQ.1 hz with rfl|hz
   ·omega
   ·have:=h1 z hz;omega
theorem Kh:∀(l out:List Int),out.Pairwise (λa b=>b<=a)->(Hr out l).Perm (l++out)/\(Hr out l).Pairwise (λa b=>b<=a)
 |[],out,h=>⟨DX _,h⟩
 |x::l,out,h=>by
  obtain⟨h1,h2⟩:=Kh l (Ec x out) (I9 x out h);refine⟨?_,h2⟩;show (Hr (Ec x out) l).Perm (x::(l++out))
  refine h1.trans ?_;refine((Ge x out).append_left l).trans ?_;exact List.perm_middle
theorem Ek(l:List Int):(Br l).Perm l/\(Br l).Pairwise (λa b=>b<=a):=by obtain⟨h1,h2⟩:=Kh l [] List.Pairwise.nil;rw[BM]at h1;exact⟨h1,h2⟩
theorem R4:∀ {a b:List Int},a.Perm b->a.Pairwise (λx y=>y<=x)->b.Pairwise (λx y=>y<=x)->a=b
 |[],b,h,_,_=>h.nil_eq
 |x::a,[],h,_,_=>by have:=h.length_eq;simp at this
 |x::a,y::b,h,ha,hb=>by
  obtain⟨a1,a2⟩:=EB.1 ha;obtain⟨b1,b2⟩:=EB.1 hb
  have e8:x=y:=by
   have h1:y<=x:=by
    rcases CQ.1 (h.mem_iff.2 (BF ..))with e|e
    ·omega
    ·exact a1 y e
   have h2:x<=y:=by
    rcases CQ.1 (h.mem_iff.1 (BF ..))with e|e
    ·omega
    ·exact b1 x e
   omega
  subst e8;rw[R4 ((List.perm_cons x).1 h) a2 b2]
theorem J9(ids:List Int)(h0:∀x∈ids,0<=x):F7 ids=Br ids++List.replicate (4-(Br ids).length) 0:=by obtain⟨h1,h2⟩:=Ek ids;refine R4 ?_ ?_ ?_;{refine((List.reverse_perm _).trans (Us _)).trans ?_;unfold Rm;rw[h1.length_eq];exact(h1.symm.append_right _)};{unfold F7;rw[List.pairwise_reverse];exact Q0r _};{refine FK.2 ⟨h2,?_,λa ha b hb=>?_⟩;{rw[List.pairwise_replicate];exact .inr (FY _)};{rw[DC hb];exact h0 a (h1.mem_iff.1 ha)}}
def D1:List Int->List Int->Bool
 |x::a,y::b=>if x=y then D1 a b else decide (y<x)
 |a,b=>decide (b.length<a.length)
theorem Kn:∀(n:Nat) (a b:List Int),a.length<=n->b.length<=n->(∀x∈a,1<=x)->(∀x∈b,1<=x)->D1 a b=decide (0<cmpL (a++List.replicate (n-a.length) 0) (b++List.replicate (n-b.length) 0))
 |n,[],[],_,_,_,_=>by
  rw[C6];rfl
 |0,x::a,_,h,_,_,_=>by simp at h
 |0,[],y::b,_,h,_,_=>by simp at h
 |n+1,x::a,[],_,_,ha,_=>by
  have hx:=ha x (BF ..);rw[CN,CV,CD,IJ,List.replicate_succ];unfold cmpL;rw[AO (by omega),AQ (by omega)];simp[D1]
 |n+1,[],y::b,_,_,_,hb=>by
  have hy:=hb y (BF ..);rw[CN,CV,CD,IJ,List.replicate_succ];unfold cmpL;rw[AQ (by omega)];simp[D1]
 |n+1,x::a,y::b,h1,h2,ha,hb=>by
  have ih:=Kn n a b (by simpa using h1) (by simpa using h2) (λz hz=>ha z (BH _ hz)) (λz hz=>hb z (BH _ hz));rw[CN,CN,AP,AP,Nat.succ_sub_succ,Nat.succ_sub_succ];unfold cmpL D1;by_cases e8:x=y
  ·rw[AQ e8,AO (by omega),AO (by omega)]
   exact ih
  ·rw[AO e8]
   by_cases hlt:x<y
   ·rw[AQ hlt]
    rw[IE (by omega)];rfl
   ·rw[AO hlt,AQ (by omega)]
    rw[GD (by omega)];rfl
theorem Qf(a b:List Int)(ZA:a.length<=4)(hb4:b.length<=4)(ha:∀x∈a,1<=x)(hb:∀x∈b,1<=x):D1 (Br a) (Br b)=decide (0<cmpL (F7 a) (F7 b)):=by obtain⟨p1,_⟩:=Ek a;obtain⟨p2,_⟩:=Ek b;rw[J9 a (λx hx=>by have:=ha x hx;omega),J9 b (λx hx=>by have:=hb x hx;omega)];exact Kn 4 _ _ (by rw[p1.length_eq];exact ZA) (by rw[p2.length_eq];exact hb4) (λx hx=>ha x (p1.mem_iff.1 hx)) (λx hx=>hb x (p2.mem_iff.1 hx))
theorem Sn(L:List (Int×Q0E))(hL:L.length<=16):∀(rs:List Q0C) (k:Nat),(∀r∈rs,r.conds.length<=4)->(Bu L k rs).length<=rs.length*65536
 |[],_,_=>by simp[Bu]
 |r::rs,k,h=>by
  have h1:=D7 L hL r.conds [] [];have h2:16 ^ r.conds.length<=16 ^ 4:=DR (by omega) (h r (BF ..));have h3:(16:Nat) ^ 4=65536:=by decide
  have h4:=Sn L hL rs (k+1) (λq hq=>h q (BH _ hq));show ((As L r.conds [] []).map (λids=>((k:Int),ids))++Bu L (k+1) rs).length<=_
  rw[AL,AY,AP,GU,JL];omega
theorem So(rs:List Q0C)(L:List (Int×Q0E))(hr:Q1S rs)(hL:L.length<=16):(Ak rs L).length<=524288:=by have h1:=Sn L hL rs 0 hr.conds;have h2:=hr.len;have h3:rs.length*65536<=8*65536:=BS _ h2;unfold Ak;omega
theorem Vk(cs:List Q0A):Ow cs<=cs.length:=by induction cs with|nil=>exact AX _|cons c cs ih=>unfold Ow;rw[AP];split<;>omega
structure Q1A(s:Q0F):Prop where
 ok:Q2L s
 nd:s.fired.Nodup
 sub:∀m∈s.fired,m∈Ak s.rs s.L
 rng:∀p∈s.L,1<=p.1/\p.1<=s.cnt
theorem Q1A.new(rs:List Q0C)(h:Q1S rs):Q1A ⟨rs,[],0,[]⟩:=⟨⟨h,AG _,FY _,AG _⟩,List.nodup_nil,by simp,by simp⟩
theorem Q1A.ids{s:Q0F}(h:Q1A s):∀m∈Ak s.rs s.L,m.2.length<=4/\∀x∈m.2,1<=x:=by intro k hk;refine⟨?_,λy hy=>?_⟩;{obtain⟨i,r,h1,_,h3⟩:=(D3 s.L k s.rs).1 hk;obtain⟨t,e1,e2⟩:=Dp _ _ _ _ _ h3;rw[e1,CV,e2];have hc:=h.ok.rules.conds r (AW h1);have:=Vk r.conds;omega};{obtain⟨p,hp,e⟩:=Lq s.rs s.L k hk y hy;have:=(h.rng p hp).1;omega}
theorem Q1A.few{s:Q0F}(h:Q1A s):(Ak s.rs s.L).length<=524288:=So s.rs s.L h.ok.rules h.ok.facts
theorem Ja(ms fd:List (Int×List Int)):∀m∈Bh ms fd,m∈ms:=by intro m hm;exact(Hc _ _).1 (BI.1 hm).2
theorem Ki(ms fd:List (Int×List Int)):(Bh ms fd).length<=fd.length:=CR _ _
theorem Q1A.add{s:Q0F}(h:Q1A s)(f:Q0E):Q1A (s.add f).2/\(s.add f).2.cnt<=s.cnt+1:=by have hc:=h.ok.c0;unfold Q0F.add;split;{exact⟨h,by show s.cnt<=_;omega⟩};{split;{exact⟨h,by show s.cnt<=_;omega⟩};{refine⟨⟨⟨h.ok.rules,by simp;omega,by show (0:Int)<=s.cnt+1;omega,AU (Ki _ _) h.ok.fired⟩,h.nd.filter _,Ja _ _,λp hp=>?_⟩,FY _⟩;rcases BA.1 hp with hp|hp;{have:=h.rng p hp;exact⟨this.1,by show p.1<=s.cnt+1;omega⟩};{rw[AZ]at hp;subst hp;exact⟨by show 1<=s.cnt+1;omega,FY _⟩}}}
theorem Q1A.del{s:Q0F}(h:Q1A s)(id:Int):Q1A (s.del id).2/\(s.del id).2.cnt=s.cnt:=by unfold Q0F.del;split;{exact⟨⟨⟨h.ok.rules,AU (CR _ _) h.ok.facts,h.ok.c0,AU (Ki _ _) h.ok.fired⟩,h.nd.filter _,Ja _ _,λp hp=>h.rng p (BI.1 hp).1⟩,rfl⟩};{exact⟨h,rfl⟩}
theorem Q1A.fire{s:Q0F}(h:Q1A s):Q1A s.fire.2/\s.fire.2.cnt=s.cnt:=by unfold Q0F.fire;split;{exact⟨h,rfl⟩};{(rename_i m hm);obtain⟨h1,h2⟩:=(Jc s m).1 (Ka _ _ hm);(have vJ:(s.fired++[m]).Nodup:=by rw[JW];refine⟨h.nd,by simp,λa ha b hb e=>?_⟩;rw[AZ]at hb;subst hb;subst e;exact h2 ha);(have dD:∀k∈s.fired++[m],k∈Ak s.rs s.L:=by intro k hk;rcases BA.1 hk with hk|hk;{exact h.sub k hk};{rw[AZ]at hk;subst hk;exact h1});refine⟨⟨⟨h.ok.rules,h.ok.facts,h.ok.c0,?_⟩,vJ,dD,h.rng⟩,rfl⟩;have:=Po vJ dD;have:=h.few;show (s.fired++[m]).length<=_;omega}
end Go.Proofs.YtolhbeekfjnfmaaGreatDoor
namespace Go.Proofs.YtolhbeekfjnfmaaGreatDoor
open Go.RowKit Go.Proofs.Tryz
variable {v nv uv fv mv k0 k1 k2 lv v':Value}{l:List Int}{w w' wr w5:World}{S:Nat->Prop}{T T' T1 T2 T3:Nat->Nat}{W tx ty x y gb c2 fc n m k:Nat}{us fs ms:List (Value×Int)}{ls:List Value}{fa:Option Addr}{a b:Int×List Int}{F:List Ft}{a8:List Ch}
structure Nt where
 x:Nat
 y:Nat
 s:Q0F
def ntenc(n:Nt):List Value:=[.pointer (some ⟨n.x,0,none⟩),.pointer (some ⟨n.y,0,none⟩)]
theorem Ie(n:Nt):(ntenc n).length=2:=rfl
theorem Xl(n:Nt):∀c∈ntenc n,c.oneCell'=true:=by intro c hc;simp[ntenc]at hc;rcases hc with rfl|rfl<;>rfl
theorem Q5A:(prog.info? 106).map (λi=>(i.zero,i.size,i.bytes))=some (some (.agg #[.pointer none,.pointer none]),2,16):=by kernel_rfl
structure Q0Z(T:Nat->Nat)(nv:Value)(nets:List Nt)(k:Nat)(w:World):Prop where
 row:Q0Q T 2 106 2 ntenc nv nets w
 net:∀(i:Nat) (n:Nt),nets[i]?=some n->XT T (11+3*i) n.x n.s w/\YT T (12+3*i) n.y n.s w/\Q1A n.s/\n.s.cnt<=k
def Yx(t:Nat):Prop:=t=0\/t=2\/(11<=t/\¬ InH t)
theorem Q37(i:Nat):Yx (11+3*i):=.inr (.inr ⟨by omega,λh=>by have:=h.2;omega⟩)
theorem Q38(i:Nat):Yx (12+3*i):=.inr (.inr ⟨by omega,λh=>by have:=h.2;omega⟩)
theorem Su(i:Nat):¬ InH (11+3*i):=λh=>by have:=h.2;omega
theorem Sw(i:Nat):¬ InH (12+3*i):=λh=>by have:=h.2;omega
theorem Q0Z.keep{T T':Nat->Nat}{nv:Value}{nets:List Nt}{k k':Nat}{w w':World}{S:Nat->Prop}(h:Q0Z T nv nets k w)(hk:k<=k')(hg:GrS S w w')(hs:∀j,Yx (T j)->¬ S j)(ho:∀j,j<w.heap.size->Yx (T j)->T' j=T j):Q0Z T' nv nets k' w':=by
 refine⟨h.row.keep2 hg (λj hj=>hs j (by rw[hj];exact .inr (.inl rfl))) (λj hj iD=>by rw[ho j hj (by rw[iD];exact .inr (.inl rfl))];exact iD),λi n hn=>?_⟩;obtain⟨h1,h2,h3,h4⟩:=h.net i n hn;have hx:∀j,T j=11+3*i\/T j=0->Yx (T j):=λj hj=>by rcases hj with hj|hj;rw[hj];exact Q37 i;rw[hj];exact .inl rfl
 have hy:∀j,T j=12+3*i\/T j=0->Yx (T j):=λj hj=>by rcases hj with hj|hj;rw[hj];exact Q38 i;rw[hj];exact .inl rfl
 exact⟨h1.keep hg (λj hj=>hs j (hx j hj)) (λj hj iD=>ho j hj (hx j iD)),h2.keep hg (λj hj=>hs j (hy j hj)) (λj hj iD=>ho j hj (hy j iD)),h3,by omega⟩
theorem I4(x y:Nat)(s':Q0F):∀(nets:List Nt) (i:Nat) (n:Nt),nets[i]?=some n->n.x=x->n.y=y->(nets.set i ⟨x,y,s'⟩).flatMap ntenc=nets.flatMap ntenc
 |[],_,_,h,_,_=>by simp at h
 |m::nets,0,n,h,hx,hy=>by
  simp only[BW,AE]at h;subst h;rw[IQ,BG,BG];unfold ntenc;rw[hx,hy]
 |m::nets,i+1,n,h,hx,hy=>by
  rw[BV]at h;rw[FW,BG,BG,I4 x y s' nets i n h hx hy]
theorem Q0Z.set{T T':Nat->Nat}{nv:Value}{nets:List Nt}{k i:Nat}{n:Nt}{s':Q0F}{w w':World}(h:Q0Z T nv nets k w)(hn:nets[i]?=some n)(hg:GrS (λj=>T j=1\/T j=9\/T j=11+3*i\/T j=12+3*i) w w')(ho:∀j,j<w.heap.size->T' j=T j)(hx:XT T' (11+3*i) n.x s' w')(hy:YT T' (12+3*i) n.y s' w')(aI:Q1A s')(hc:s'.cnt<=((k+1:Nat):Int)):Q0Z T' nv (nets.set i ⟨n.x,n.y,s'⟩) (k+1) w':=by refine⟨⟨?_,λg aw=>?_⟩,λj m hm=>?_⟩;{have h1:=hg.row h.row.1 (λg aw e=>by have:=h.row.2 g aw;omega);refine⟨Ie,?_⟩;rw[EW,I4 n.x n.y s' nets i n hn rfl rfl];exact h1.2};{rw[ho g (h.row.1.own g aw).2];exact h.row.2 g aw};{by_cases jY:i=j;{subst jY;rw[EE (AK.1 hn).1]at hm;simp only[AE]at hm;subst hm;exact⟨hx,hy,aI,hc⟩};{rw[EO jY]at hm;obtain⟨h1,h2,h3,h4⟩:=h.net j m hm;exact⟨h1.keep hg (λq hq e=>by omega) (λq hq _=>ho q hq),h2.keep hg (λq hq e=>by omega) (λq hq _=>ho q hq),h3,by omega⟩}}
theorem Q0Z.snoc{nv':Value}{nets:List Nt}{n:Nt}(h:Q0Z T nv nets k w)(hg:GrS S w w')(hs:∀j,T j=0\/(11<=T j/\¬ InH (T j))->¬ S j)(ho:∀j,j<w.heap.size->T' j=T j)(hr:Q0Q T' 2 106 2 ntenc nv' (nets++[n]) w')(hx:XT T' (11+3*nets.length) n.x n.s w')(hy:YT T' (12+3*nets.length) n.y n.s w')(aI:Q1A n.s)(hc:n.s.cnt<=((k+1:Nat):Int)):Q0Z T' nv' (nets++[n]) (k+1) w':=by refine⟨hr,λi m hm=>?_⟩;by_cases hi:i<nets.length;{rw[CP hi]at hm;obtain⟨h1,h2,h3,h4⟩:=h.net i m hm;exact⟨h1.keep hg (λq hq=>hs q (by rcases hq with hq|hq;exact .inr ⟨by omega,by rw[hq];exact Su i⟩;exact .inl hq)) (λq hq _=>ho q hq),h2.keep hg (λq hq=>hs q (by rcases hq with hq|hq;exact .inr ⟨by omega,by rw[hq];exact Sw i⟩;exact .inl hq)) (λq hq _=>ho q hq),h3,by omega⟩};{(have kq:i=nets.length:=by have:=(AK.1 hm).1;simp at this;omega);subst kq;simp only[II,AE]at hm;subst hm;exact⟨hx,hy,aI,hc⟩}
def WAt(T:Nat->Nat)(W:Nat)(nets:List Nt)(k:Nat)(w:World):Prop:=
 ∃nv uv fv mv k0 k1 k2 lv us fs ms ls,Q1J T W nv uv fv mv k0 k1 k2 lv us fs ms ls w/\Q0Z T nv nets k w/\us.length<=k*2100000/\fs.length<=4*k/\ms.length<=4*k/\ls.length<=k
def Bv(T:Nat->Nat)(W k m:Nat)(w:World)(e:Ending)(w':World):Prop:=
 e=.returned (.bool true)/\∃T' eY,WAt T' W eY (k+1) w'/\eY.length=m/\GrS (λj=>T j≠0) w w'/\∀j,j<w.heap.size->T j=0->T' j=0
theorem WAt.gr{T T':Nat->Nat}{W:Nat}{nets:List Nt}{k k':Nat}{w w':World}(h:WAt T W nets k w)(hk:k<=k')(hg:w.grownBy w' none)(ho:∀j,j<w.heap.size->T' j=T j):WAt T' W nets k' w':=by obtain⟨nv,uv,fv,mv,k0,k1,k2,lv,us,fs,ms,ls,h1,h2,h3,h4,h5,h6⟩:=h;exact⟨nv,uv,fv,mv,k0,k1,k2,lv,us,fs,ms,ls,h1.gr hg ho,h2.keep hk (GrS.of hg (by simp):GrS (λ_=>False) w w') (by simp) (λj hj _=>ho j hj),AU h3 (BS _ hk),by omega,by omega,by omega⟩
theorem WAt.idle{nets:List Nt}(h:WAt T W nets k w)(hg:w.grownBy w' none):Bv T W k nets.length w (.returned (.bool true)) w':=
 ⟨rfl,T,nets,h.gr (FV k) hg (λ_ _=>rfl),rfl,GrS.of hg (by simp),λ_ _ h=>h⟩
def Q6C(v:Value)(ms:List VFt)(w:World):Prop:=Q0B 52 2 ftenc 0 v ms w/\∀m∈ms,Q0L 0 m.v m.vals w
theorem Q6C.gr{v:Value}{ms:List VFt}{w w':World}(h:Q6C v ms w)(hg:w.grownBy w' none):Q6C v ms w':=⟨h.1.gr hg,λm hm=>(h.2 m hm).gr hg⟩
def Er(c n:Int):Int:=(if c<0 then -(c+1)else c)%n
theorem Hf(c n:Int)(hn:0<n):0<=Er c n/\Er c n<n:=by unfold Er;exact⟨Int.emod_nonneg _ (by omega),Int.emod_lt_of_pos _ hn⟩
def I64(c:Int):Prop:=-9223372036854775808<=c/\c<=9223372036854775807
theorem Q3a(s:ByteArray)(w:World)(hm:s.size<=maxLen):Calls prog 50 #[.string s] w λe w'=>e=.returned (.tuple #[.string ⟨(B9 s.data.toList).1.toArray⟩,.int .i64 (B9 s.data.toList).2.1,.int .i64 (B9 s.data.toList).2.2])/\w.grownBy w' none:=by by_cases hs:400<s.size;{(have e:B9 s.data.toList=([],0,2):=by unfold B9;rw[Ae,AQ hs]);rw[e];refine I7 s w hm 0 2 ?_;rintro e w'⟨hg,hp⟩;rw[AQ hs]at hp;exact⟨hp,hg⟩};{cases hr:Bt s.data.toList with|inl k=>{(have e:B9 s.data.toList=([],k,1):=by unfold B9;rw[Ae,AO hs,hr]);rw[e];refine I7 s w hm k 1 ?_;rintro e w'⟨hg,hp⟩;rw[AO hs,hr]at hp;exact⟨hp,hg⟩}|inr rs=>cases hx:Ea rs;{(have e:B9 s.data.toList=(Jm rs,rs.length,0):=by unfold B9;rw[Ae,AO hs,hr];simp only;rw[hx];rfl);rw[e];exact Rc s w hm hs rs hr hx};{(have e:B9 s.data.toList=([],0,2):=by unfold B9;rw[Ae,AO hs,hr];simp only;rw[hx];rfl);rw[e];refine I7 s w hm 0 2 ?_;rintro e w'⟨hg,hp⟩;rw[AO hs,hr]at hp;simp only at hp;rw[hx,AQ rfl]at hp;exact⟨hp,hg⟩}}
theorem N2(x:Int)(w:World):Calls prog 51 #[.int .i64 x] w λe w'=>e=.returned (.int .i64 x)/\w'=w:=by go_enter func51,ntmps51;go_wp2;go_ret;exact⟨rfl,rfl⟩
theorem Mo(W:Nat)(w:World)(aT aL:Addr)(hL:LD aT aL w)(hP:3<w.heap.size)(s:ByteArray)(hm:s.size<=maxLen)(n fk a:Int)(bN:Option Addr)(fn fc:Nat):Calls prog 33 #[.pointer (some ⟨W,0,none⟩),.agg #[.int .i64 1,.int .i64 n,.string s,.int .i64 fk,.slice bN fn fc,.int .i64 a]] w λe w'=>e=.returned (.bool true)/\w.grownBy w' none:=by
 have a7:=AA w (.cells #[.int .i64 1,.int .i64 n,.string s,.int .i64 fk,.slice bN fn fc,.int .i64 a] 76) none;have yM:=hL.kept a7 hP;have zS:(w.alloc (.cells #[.int .i64 1,.int .i64 n,.string s,.int .i64 fk,.slice bN fn fc,.int .i64 a] 76)).cell? ⟨w.heap.size,2,none⟩=some (.string s):=by simp
 go_enter func33,ntmps33;go_wp2_with fail;refine(Q3w s aT aL _ yM (by have:=a7.size;omega) hm).mono ?_;rintro e w1⟨rfl,hg1⟩;have c2:=hg1.cell zS (by simp);obtain⟨F,hF⟩:∃F,B9 s.data.toList=F:=⟨_,rfl⟩
 have SX:=λw=>Q3a s w hm;rw[hF]at SX⊢;clear hF;obtain⟨l,m,k⟩:=F;obtain⟨t,ht⟩:∃t:ByteArray,(⟨l.toArray⟩:ByteArray)=t:=⟨_,rfl⟩
 simp only at SX⊢;rw[ht]at SX⊢;clear ht;go_wp2_with fail;refine(SX _).mono ?_;rintro e w2⟨rfl,hg2⟩;have hg:=Ab a7 (Ab hg1 hg2);go_wp2_with (go_at_call 51;refine(N2 _ _).mono ?_;rintro e w3⟨rfl,rfl⟩);go_ret;exact⟨rfl,hg⟩
def Q6D(g o:Nat)(q n:Int)(s:ByteArray)(fk:Int)(fv:Value)(a:Int)(w:World):Prop:=
 w.cell? ⟨g,o,none⟩=some (.int .i64 q)/\w.cell? ⟨g,o+1,none⟩=some (.int .i64 n)/\w.cell? ⟨g,o+2,none⟩=some (.string s)/\w.cell? ⟨g,o+3,none⟩=some (.int .i64 fk)/\w.cell? ⟨g,o+4,none⟩=some fv/\w.cell? ⟨g,o+5,none⟩=some (.int .i64 a)
theorem Q6D.kept{g o:Nat}{q n:Int}{s:ByteArray}{fk:Int}{a:Int}(h:Q6D g o q n s fk fv a w)(hg:w.grownBy w' none):Q6D g o q n s fk fv a w':=by obtain⟨h0,h1,h2,h3,h4,h5⟩:=h;exact⟨hg.cell h0 (by simp),hg.cell h1 (by simp),hg.cell h2 (by simp),hg.cell h3 (by simp),hg.cell h4 (by simp),hg.cell h5 (by simp)⟩
theorem Qy(c n:Int)(hc:I64 c)(hn:0<n)(fB:n<=4611686018427387904)(w:World):Calls prog 53 #[.int .i64 c,.int .i64 n] w λe w'=>e=.returned (.int .i64 (Er c n))/\w'=w:=by obtain⟨h1,h2⟩:=hc;have hr:=Hf c n hn;unfold Er at hr⊢;by_cases h:c<0;{(have hd:decide (c<0)=true:=by simpa using h);(rw[AQ h]at hr⊢;have e1:-(c+1)%n=-((c+1).tmod n):=by rw[<-Int.neg_tmod,KN (by omega)]);rw[e1];clear e1 hr;go_enter func53,ntmps53;go_wp2;go_ret;exact⟨rfl,rfl⟩};{(have hd:decide (c<0)=false:=by simpa using h);rw[AO h]at hr⊢;go_enter func53,ntmps53;go_wp2;go_ret;exact⟨rfl,rfl⟩}
theorem Q0d{nets:List Nt}{a b:Nat}{n:Nt}{w2 w3 w4:World}(hL:Q1J T2 W nv uv fv mv k0 k1 k2 lv us fs ms ls w2)(hN:Q0Z T2 nv nets k w2)(hx:XT T2 (11+3*nets.length) n.x n.s w2)(hy:YT T2 (12+3*nets.length) n.y n.s w2)(aI:Q1A n.s)(hc:n.s.cnt<=((k+1:Nat):Int)) (hg3:w2.grownBy w3 none)(hl:Q0O nv v' a b w3 w4)(hr:Q0B 106 2 ntenc 0 v' (nets++[n]) w4):(w4.cell? ⟨W,0,none⟩=some nv/\w4.frozen? ⟨W,0,none⟩=false)/\∃T',Q1J T' W v' uv fv mv k0 k1 k2 lv us fs ms ls (w4.setCell ⟨W,0,none⟩ v')/\Q0Z T' v' (nets++[n]) (k+1) (w4.setCell ⟨W,0,none⟩ v')/\GrS (λj=>T2 j=1\/T2 j=2) w2 (w4.setCell ⟨W,0,none⟩ v')/\∀j,j<w2.heap.size->T' j=T2 j:=by
 have ZH:=Ad hL.blk;have hW1:=hL.own;have hs3:=hg3.size;have dT:∀b,nv.ownBlock=some b->T2 b=2/\b<w2.heap.size:=λb hb=>⟨hN.row.2 b hb,(hN.row.1.own b hb).2⟩
 have aR:=Aj w4 W 0 v';have xz:nv.ownBlock≠some W:=λe=>by have:=(dT W e).1;omega
 have hG:GrS (λj=>nv.ownBlock=some j\/j=W) w2 (w4.setCell ⟨W,0,none⟩ v'):=by refine((((GrS.of hg3 (by simp):GrS (λj=>nv.ownBlock=some j\/j=W) w2 w3)).trans (hl.gr (λb hb=>.inl hb))).then aR (λg hg=>?_));simp at hg;exact .inr (.inr hg.symm)
 obtain⟨T',bH⟩:∃T':Nat->Nat,T'=λj=>if j<w3.heap.size then T2 j else 2:=⟨_,rfl⟩
 have t1:∀j,j<w3.heap.size->T' j=T2 j:=λj h=>by rw[bH];dsimp only;rw[AQ h]
 have t2:∀j,w3.heap.size<=j->T' j=2:=λj h=>by rw[bH];dsimp only;rw[AO (by omega)]
 have sQ:∀j,j<w2.heap.size->T' j=T2 j:=λj h=>t1 j (by omega);have hno:∀j,T2 j≠1->T2 j≠2->¬ (nv.ownBlock=some j\/j=W):=by rintro j h1 h2 (e|e);{exact h2 (dT j e).1};{exact h1 (by rw[e];exact hW1)}
 have zU:Q1N W #[nv,uv,fv,mv,k0,k1,k2,lv] w4:=hl.block (hL.blk.gr hg3 (by simp)) xz;have hv':∀b,v'.ownBlock=some b->T' b=2/\b≠W:=λb hb=>by rcases hl.own b hb with e|e;{obtain⟨q1,q2⟩:=dT b e;exact⟨by rw[sQ b q2,q1],λe'=>by rw[e']at q1;omega⟩};{exact⟨t2 b e,by omega⟩}
 refine⟨⟨by rw[zU.cell 0];rfl,zU.fz 0⟩,T',⟨zU.set 0 v',by rw[sQ W ZH];exact hW1,?_,?_,?_,?_⟩,?_,hG.mono (λj hj=>?_),sQ⟩;{exact hL.nums.keep hG (λj hj=>hno j (by omega) (by omega)) (λj hj _=>sQ j hj)};{exact hL.lent.keep hG (λj hj=>hno j (by omega) (by omega)) (λj hj _=>sQ j hj)};{exact hL.facts.keep hG (λj hj=>hno j (by omega) (by omega)) (λj hj _=>sQ j hj)};{exact hL.mats.keep hG (λj hj=>hno j (by omega) (by omega)) (λj hj _=>sQ j hj)};{refine hN.snoc hG (λj hj=>hno j (by omega) (by omega)) sQ ⟨hr.other aR (λg hg e=>by have:=(hv' g hg).2;simp at e;omega),λg hg=>(hv' g hg).1⟩ (hx.keep hG (λj hj=>hno j (by omega) (by omega)) (λj hj _=>sQ j hj)) (hy.keep hG (λj hj=>hno j (by omega) (by omega)) (λj hj _=>sQ j hj)) aI hc};{rcases hj with e|e;{exact .inr (dT j e).1};{exact .inl (by rw[e];exact hW1)}}
theorem S5(T:Nat->Nat)(W:Nat)(nets:List Nt)(k:Nat)(w:World)(hW:WAt T W nets k w)(hk:k<=2000000)(hnl:nets.length<=k)(aT aL:Addr)(hL:LD aT aL w)(hP:3<w.heap.size)(s:ByteArray)(hm:s.size<=maxLen)(n fk a:Int)(bN:Option Addr)(fn fc:Nat):Calls prog 33 #[.pointer (some ⟨W,0,none⟩),.agg #[.int .i64 2,.int .i64 n,.string s,.int .i64 fk,.slice bN fn fc,.int .i64 a]] w λe w'=>Bv T W k (nets.length+(match Bm s.data.toList with|.inl _=>0|.inr _=>1)) w e w':=by
 have a7:=AA w (.cells #[.int .i64 2,.int .i64 n,.string s,.int .i64 fk,.slice bN fn fc,.int .i64 a] 76) none;have yM:=hL.kept a7 hP;have zS:(w.alloc (.cells #[.int .i64 2,.int .i64 n,.string s,.int .i64 fk,.slice bN fn fc,.int .i64 a] 76)).cell? ⟨w.heap.size,2,none⟩=some (.string s):=by simp
 have vu:=Q5k T (11+3*nets.length) s aT aL _ yM (by have:=a7.size;omega) hm;have vt:=λ(T1:Nat->Nat) (w1:World)=>Q4x T1 (12+3*nets.length) s w1 hm;have HW:=Ac hW;clear hW yM hL hP;cases hr:Bm s.data.toList with|inl c=>(rw[hr]at vu vt;simp only[EI]at vu vt⊢;go_enter func33,ntmps33;go_wp2_with fail;refine vu.mono ?_;rintro e w1⟨hg1,rfl⟩;have c2:=hg1.cell zS (by simp);go_wp2_with fail;refine(vt T w1).mono ?_;rintro e w2⟨hg2,rfl⟩;have hg:=Ab a7 (Ab hg1 hg2);have e1:((c:Int) !=(c:Int))=false:=by simp);clear vu vt zS a7 hg1 hg2 c2;go_wp2_with (go_at_call 51;refine(N2 _ _).mono ?_;rintro e w3⟨rfl,hw3⟩;subst w3);go_ret;exact(Aa HW).idle hg|inr rs=>(rw[hr]at vu vt;simp only at vu vt⊢;have bO:=Hd _ rs hr;clear hr;go_enter func33,ntmps33;go_wp2_with fail;refine vu.mono ?_;rintro e w1⟨hg1,T1,x,rfl,PS,hxw,fY⟩;have c2:=hg1.cell zS (by simp);go_wp2_with fail;refine(vt T1 w1).mono ?_;rintro e w2⟨hg2,T2,y,rfl,TX,fX⟩;have iF:=Ab hg1 hg2;have ai:=Ab a7 iF;have ho2:∀j,j<w.heap.size->T2 j=T j:=λj hj=>by rw[fX j (AV hj (AU a7.size hg1.size)),fY j (AV hj a7.size)]);(obtain⟨nv,uv,fv,mv,k0,k1,k2,lv,us,fs,ms,ls,i1,i2,i3,i4,i5,i6⟩:=Aa HW;have hL2:=i1.gr ai ho2;have bJ:=i2.keep (AX k) (GrS.of ai (by simp):GrS (λ_=>False) w w2) (by simp) (λj hj _=>ho2 j hj);have uH:=PS.gr hg2 fX;obtain⟨na,nc,dT⟩:=bJ.row.1.slice;have c0:w2.cell? ⟨W,0,none⟩=some (.slice na nets.length nc):=by rw[hL2.blk.cell 0,<-dT];rfl);(have hrow:Q0B 106 2 ntenc 0 (.slice na nets.length nc) nets w2:=by rw[<-dT];exact bJ.row.1);have hg3:=AA w2 (.cells #[.pointer (some ⟨x,0,none⟩),.pointer (some ⟨y,0,none⟩)] 106) none;have hr3:=hrow.gr hg3;have aC:Q0B 106 2 ntenc 0 (.slice (some ⟨w2.heap.size,0,none⟩) 1 1) [(⟨x,y,⟨rs,[],0,[]⟩⟩:Nt)] (w2.alloc (.cells #[.pointer (some ⟨x,0,none⟩),.pointer (some ⟨y,0,none⟩)] 106)):=(Q0B.lit1 (e:=106) Ie w2 (⟨x,y,⟨rs,[],0,[]⟩⟩:Nt) #[.pointer (some ⟨x,0,none⟩),.pointer (some ⟨y,0,none⟩)] rfl).weak (AG _);have hdone:=λ(v':Value) (w4:World) (p q:Nat) (hl:Q0O (.slice na nets.length nc) v' p q (w2.alloc (.cells #[.pointer (some ⟨x,0,none⟩),.pointer (some ⟨y,0,none⟩)] 106)) w4) (hr:Q0B 106 2 ntenc 0 v' (nets++[(⟨x,y,⟨rs,[],0,[]⟩⟩:Nt)]) w4)=>Q0d (n:=⟨x,y,⟨rs,[],0,[]⟩⟩) hL2 bJ uH TX (Q1A.new rs bO) (by show (0:Int)<=_;omega) hg3 (by rw[dT];exact hl) hr;rw[dT]at hdone;have lf:=Ac hdone;have HI:=Ac (show us.length<=k*2100000/\fs.length<=4*k/\ms.length<=4*k/\ls.length<=k from⟨i3,i4,i5,i6⟩);have HG:=Ac (show w.grownBy w2 none/\∀j,j<w.heap.size->T2 j=T j from⟨ai,ho2⟩);clear hdone uH hL2 bJ dT hrow hg3 ai ho2 iF PS TX fY fX i1 i2 i3 i4 i5 i6 vu vt zS a7 hg1 hg2 c2 bO hxw;go_wp2_with (first|(go_at_call 51;refine(N2 _ _).mono ?_;rintro e w3⟨rfl,hw3⟩;subst w3)|(at_builtin;refine Cg rfl _ _ 67 rfl underlying67 Q5A rfl (by decide) rfl hr3 rfl aC (by simp) (λy _=>Xl y) (by unfold maxLen;simp;omega) (by simp;omega) ?_));intro v8 w8 uu jz;obtain⟨⟨y8,yf8⟩,T9,j1,j2,j3,j4⟩:=Aa lf v8 w8 _ _ jz uu;obtain⟨g8,eV,rfl⟩:=jz.form;(have iM:Bv T W k (nets.length+1) w (.returned (.bool true)) (w8.setCell ⟨W,0,none⟩ (.slice (some ⟨g8,0,none⟩) (nets.length+1) eV)):=by obtain⟨ai,ho2⟩:=Aa HG;obtain⟨i3,i4,i5,i6⟩:=Aa HI;refine⟨rfl,T9,_,⟨_,uv,fv,mv,k0,k1,k2,lv,us,fs,ms,ls,j1,j2,AU i3 (BS _ (FV k)),by omega,by omega,by omega⟩,by simp,?_,λj hj h0=>?_⟩;{refine((GrS.of ai (by simp):GrS (λj=>T j≠0) w w2)).comp j3 (λi hi hn hx=>?_);rw[ho2 i hi]at hx;exact hn (λe=>by omega)};{rw[j4 j (AV hj ai.size),ho2 j hj,h0]});have js:=Ac iM;clear iM j1 j2 j3 j4 lf HI HG uu jz hr3 aC c0;go_wp2;go_ret;exact Aa js
theorem Q1d(X:(Nat->Nat)->Nat->Nat->Q0F->World->Prop)(hX:Q5K X)(T:Nat->Nat)(W:Nat)(nv uv fv mv k0 k1 k2 lv:Value)(us fs ms:List (Value×Int))(ls:List Value)(w:World) (mC:Q1J T W nv uv fv mv k0 k1 k2 lv us fs ms ls w)(tx ty x y:Nat)(s:Q0F)(zH:11<=tx)(iZ:11<=ty)(qQ:tx≠ty)(kP:¬ InH tx)(oh:¬ InH ty)(hx:X T tx x s w)(hy:YT T ty y s w)(aI:Q2L s)(PA:s.cnt<=4611686018427387904) (f:Q0E)(fa:Option Addr)(fc:Nat)(hf:Q0V (.slice fa f.vals.length fc) f.vals w)(hf0:f.vals≠[]->∀g,(Value.slice fa f.vals.length fc).ownBlock=some g->g<w.heap.size/\T g=0)(bZ:f.vals.length<=1048576)(TJ:ls.length<=4398046511104):Calls prog 54 #[.pointer (some ⟨W,0,none⟩),.agg #[.pointer (some ⟨x,0,none⟩),.pointer (some ⟨y,0,none⟩)],.agg #[.int .i64 f.kind,.slice fa f.vals.length fc]] w λe w'=>Hn X T W nv uv fv mv k0 k1 k2 us fs ms ls tx ty x y (s.add f).2 w e w':=by
 have a7:=Dq w (.cells #[.pointer (some ⟨x,0,none⟩),.pointer (some ⟨y,0,none⟩)] 106) (.cells #[.int .i64 f.kind,.slice fa f.vals.length fc] 37);obtain⟨hP,hF⟩:=C2.al2 w (.pointer (some ⟨x,0,none⟩)) (.pointer (some ⟨y,0,none⟩)) (.int .i64 f.kind) (.slice fa f.vals.length fc) 106 37;have vX:=hf.gr a7;have RX:=Ac mC;have HX:=Ac hx;have HY:=Ac hy;have fj:=Ac aI;have HF:=Ac hf;have uj:=Ac hf0;have HC:=Ac PA;have zt:=Ac TJ;clear mC hx hy aI hf hf0 PA TJ;obtain⟨q0,q1⟩:=hF.c;go_enter func54,ntmps54;go_wp2_with (at_builtin;refine G7 rfl _ _ 35 rfl underlying35 Q0I rfl rfl (Q0B.nil (w.heap.size+2) _ Av) rfl vX (by unfold maxLen;simp;omega) (by simp;omega) (by simp) ?_);intro v1 w1 aP hg1;have eN:=Ab a7 (show World.grownBy _ w1 none from hg1);have yK:=hP.kept hg1 (by simp[Value.ownBlock]);have jB:=hF.kept hg1 (by simp[Value.ownBlock]);obtain⟨a1,c1,rfl⟩:=aP.slice;have hs1:w.heap.size+2<=w1.heap.size:=by have:=jB.lt;omega
 clear a7 hP hF vX hg1 q0 q1;go_wp2;go_loopw [7,8] (λv z w'=>∃i:Nat,i<=8/\z=.int .i64 i/\Q0L (w.heap.size+2) v (f.vals++List.replicate i (-77)) w'/\w.grownBy w' none/\C2 106 w.heap.size (.pointer (some ⟨x,0,none⟩)) (.pointer (some ⟨y,0,none⟩)) w'/\C2 37 (w.heap.size+1) (.int .i64 f.kind) (.slice fa f.vals.length fc) w'/\w.heap.size+2<=w'.heap.size) (λ_ z _=>8-(intOf z).toNat);case atStart=>exact⟨0,by omega,rfl,by simpa using aP,eN,yK,jB,hs1⟩
 case round=>(clear aP eN yK jB hs1;obtain⟨i,hi,rfl,hv,hg,hP,hF,hs⟩:=hrel;obtain⟨a2,c2,hv2⟩:=hv.slice;have kK:(f.vals++List.replicate i (-77:Int)).length=f.vals.length+i:=by rw[AL,BN]);rw[kK]at hv2;subst hv2;by_cases hlt:i<8;{(have cu:decide ((i:Int)<8)=true:=by simp;omega);(have aO:=AA wr (.cells #[.int .i64 (-77)] 3) none;have lj:=hv.gr aO;have aC:Q0L 0 (.slice (some ⟨wr.heap.size,0,none⟩) 1 1) [-77] (wr.alloc (.cells #[.int .i64 (-77)] 3)):=(Q0B.lit1 Av wr (-77) #[.int .i64 (-77)] rfl).weak (AG _);have hb1:(f.vals++List.replicate i (-77:Int)).length+([-77]:List Int).length<=maxLen:=by rw[kK];unfold maxLen;simp;omega);(have hb2:((f.vals++List.replicate i (-77:Int)).length+([-77]:List Int).length)*8<=140737488355328:=by rw[kK];simp;omega);have fP:=Ac hb1;have fq:=Ac hb2;have fH:=lj.own;have zl:=Ac fH;have xG:=AU hs aO.size;clear hb1 hb2 fH kK;go_wp2_with (at_builtin;refine Df rfl _ _ 35 rfl underlying35 Q0I rfl (by decide) rfl lj rfl aC (λy _=>Cb y) (Aa fP) (Aa fq) xG ?_);intro v3 w3 hv3 hg3;have yJ:=(hP.kept aO (by simp)).kept hg3 (λe=>by have:=(Aa zl _ e.symm).1;omega);have hF3:=(hF.kept aO (by simp)).kept hg3 (λe=>by have:=(Aa zl _ e.symm).1;omega);have ar:=C7 (Ab hg aO) hg3 (λk hk=>by have:=(Aa zl k hk).1;omega);(have bV:Q0L (w.heap.size+2) v3 (f.vals++List.replicate (i+1) (-77)) w3:=by(have e:f.vals++List.replicate (i+1) (-77:Int)=f.vals++(List.replicate i (-77)++[-77]):=by rw[<-JK]);rw[e];exact hv3);(have hs3:=AU xG hg3.size;obtain⟨a3,c3,rfl⟩:=bV.slice;have WB:(f.vals++List.replicate (i+1) (-77:Int)).length=f.vals.length+(i+1):=by rw[AL,BN]);have HV3:=Ac bV;clear hv3 hg3 bV aC lj aO WB;go_wp2;go_roundw;(case rel=>exact⟨i+1,by omega,by go_num,Aa HV3,ar,yJ,hF3,hs3⟩);case measure=>simp[intOf];omega};{(have cu:decide ((i:Int)<8)=false:=by simp;omega);(have hi8:i=8:=by omega);(subst hi8;clear hi hlt;obtain⟨G,ZZ⟩:∃G,f.vals++List.replicate 8 (-77:Int)=G:=⟨_,rfl⟩);obtain⟨gb,cb,mf,_⟩:=hv.cells (k:=f.vals.length) (a:=-77) (by rw[DZ (AX _)];simp);rw[kK]at mf;simp only[AH,BP]at mf;obtain⟨rfl,rfl⟩:=mf;have hpre:Q0L (w.heap.size+2) (.slice (some ⟨gb,0,none⟩) f.vals.length c2) f.vals wr:=hv.prefix;have hgb:w.heap.size+2<=gb/\gb<wr.heap.size:=hv.own gb rfl;(have eh:f.vals.length+8<=c2:=by rcases hv.2.2 with ⟨h1,_⟩|⟨g',cap',cur,h1,_,_,h3,_⟩;{simp at h1};{simp only[AH]at h1;rw[kK]at h3;omega});(rw[ZZ]at hv;obtain⟨T1,fY⟩:∃T1:Nat->Nat,∀k,T1 k=if k<w.heap.size then T k else if k=gb then 13 else 0:=⟨_,λ_=>rfl⟩);(have j9:∀k,k<w.heap.size->T1 k=T k:=λk hk=>by rw[fY,AQ hk]);(have rX:T1 gb=13:=by rw[fY,AO (by omega),AQ rfl]);(have uN:∀k,w.heap.size<=k->k≠gb->T1 k=0:=λk h1 h2=>by rw[fY,AO (by omega),AO h2]);have hadd:=λ(Z:World) (hZ:wr.grownBy Z none)=>hX.add T1 tx x s f (some ⟨gb,0,none⟩) c2 Z (by omega) (hX.keep (Aa HX) (GrS.of (S:=λ_=>False) (Ab hg hZ) (by simp)) (by simp) (λk hk _=>j9 k hk)) (Aa fj) (Aa HC) ((hpre.weak (AG _)).gr hZ) (λg hg e=>by simp only[Value.ownBlock,AE]at hg;subst hg;rw[rX]at e;exact kP ⟨by omega,by omega⟩);(obtain⟨R,hR⟩:∃R,s.add f=R:=⟨_,rfl⟩);rw[hR]at hadd;have HR:=Ac hR;clear hR;obtain⟨⟨VO,VP⟩,s2⟩:=R;simp only at hadd;obtain⟨p0,p1⟩:=hP.c;obtain⟨q0,q1⟩:=hF.c;have RI:=Ac j9;have RL:=Ac rX;have RJ:=Ac uN;have HGD:=Ac ZZ;have HVL:=Ac kK;clear fY j9 rX uN ZZ kK hpre;go_wp2_with fail;go_cut [9,10] (λa e wx=>a=.int .i64 VO/\e=.int .i64 VP/\GrS (λk=>T1 k=tx) wr wx/\∃T2,X T2 tx x s2 wx/\∀k,k<wr.heap.size->T2 k=T1 k);(case first=>go_region_with (go_at_call 18;refine(hadd _ (by repeat (first|with_reducible exact AD _ _|with_reducible apply Ah))).mono ?_;rintro e w4⟨rfl,fL,rW⟩);all_goals go_wp2_with fail;go_meet;exact⟨rfl,rfl,(GrS.of (S:=λk=>T1 k=tx) (Ah (AD wr none)) (by simp)).trans fL,rW⟩);case rest=>obtain⟨rfl,rfl,fL,T2,UA,fX⟩:=hcut;have QX:(13:Nat)≠tx:=λe=>kP ⟨by omega,by omega⟩;have ho1:=Aa RI;have dM:=Aa RJ;have hs0:=hg.size;have hb0:T1 w.heap.size=0:=dM _ (AX _) (by omega);have hb1:T1 (w.heap.size+1)=0:=dM _ (by omega) (by omega);have UE:=hP.grs fL (by rw[hb0];omega);have hF4:=hF.grs fL (by rw[hb1];omega);have hY4:YT T2 ty y s wc:=((Aa HY).keep (T':=T1) (GrS.of hg (by simp):GrS (λ_=>False) w wr) (by simp) (λk hk _=>ho1 k hk)).keep fL (λk hk e=>by rcases hk with hk|hk<;>omega) (λk hk _=>fX k hk);have OM:=((Aa HF).gr hg).grs' fL (λhne g aw e=>by obtain⟨k1,k2⟩:=Aa uj hne g aw;rw[ho1 g k1,k2]at e;omega);have iz:=Q4w T2 ty y s f fa fc wc (by omega) hY4 (Aa fj) (Aa HC) OM (λhne g aw e=>by obtain⟨k1,k2⟩:=Aa uj hne g aw;rw[fX g (by omega),ho1 g k1,k2]at e;omega);rw[Aa HR]at iz;simp only at iz;have dh:=λ(w5:World) (T3:Nat->Nat) (bG:GrS (λk=>T2 k=ty) wc w5) (nM:YT T3 ty y s2 w5) (gU:∀k,k<wc.heap.size->T3 k=T2 k)=>Q4F.one hX (Aa RX) zH iZ qQ kP oh hg ho1 (Aa RL) dM hgb (by rw[Aa HGD];exact hv) (Aa HF) (Aa uj) hF fL UA fX bG nM gU;(have lX:=Ac dh;obtain⟨wY,VQ⟩:=UE.c;obtain⟨q0',q1'⟩:=hF4.c;clear dh hY4 OM UA fX fL hb0 hb1 UE hF4 hP hF p0 p1 q0 q1 hadd hv eh ho1 dM hs0;go_wp2_with fail;refine iz.mono ?_;rintro e w5⟨rfl,bG,T3,nM,gU⟩;have hM:=Aa lX w5 T3 bG nM gU;obtain⟨n,hn⟩:∃n,f.vals.length=n:=⟨_,rfl⟩);(have HM:=Ac hM;have HN:=Ac hn;have fB:n<=1048576:=by omega);(have h0:w5.grownBy w5 (some gb)/\Q0L (w.heap.size+2) (.slice (some ⟨gb,0,none⟩) (n+8) c2) (List.replicate 0 (-99)++(f.vals++List.replicate 8 (-77)).drop 0) w5:=⟨AD _ _,by have:=hM.row;rw[hn]at this;simpa using this⟩);have H0:=Ac h0;rw[hn]at q1';clear iz lX bG nM gU hM wY VQ q0' q1' h0 HF RX HX HY fj HC RI RL RJ HGD HVL hgb hg;rw[hn];clear hn bZ;go_wp2;go_loopw [13,14] (λb z w'=>∃i:Nat,i<=n+8/\b=.bool true/\z=.int .i64 i/\Hid (w5.grownBy w' (some gb)/\Q0L (w.heap.size+2) (.slice (some ⟨gb,0,none⟩) (n+8) c2) (List.replicate i (-99)++(f.vals++List.replicate 8 (-77)).drop i) w')) (λ_ z _=>n+8-(intOf z).toNat);(case atStart=>exact⟨0,AG _,rfl,rfl,H0⟩);case round=>clear H0;obtain⟨i,hi,rfl,rfl,HK⟩:=hrel;obtain⟨zO,uz⟩:=Aa HK;have hM:=Aa HM;have kX:=Aa HN;have hge:=hM.ge;have UI:=hM.fb.kept zO (λe=>by simp at e;omega);obtain⟨q0,q1⟩:=UI.c;rw[kX]at q1;by_cases hlt:i<n+8;{(have cu:decide ((i:Int)<(n:Int)+8)=true:=by simp;omega);(have YR:decide (i<n+8)=true:=by simpa using hlt);(obtain⟨x,hx⟩:∃x,(f.vals++List.replicate 8 (-77:Int))[i]?=some x:=⟨_,AB (by simp;omega)⟩);(have hx2:(List.replicate i (-99:Int)++(f.vals++List.replicate 8 (-77)).drop i)[i]?=some x:=by rw[DZ (by simp),BN,KZ,GS,EI];exact hx);(obtain⟨g',cp',eZ,hcs⟩:=uz.cells hx2;simp only[AH,AE,BL,CA]at eZ;obtain⟨rfl,hzz,rfl⟩:=eZ;clear hzz;have x0:wr.cell? ⟨gb,i,none⟩=some (.int .i64 x):=by have:=hcs 0 (by omega);simpa[C8]using this);(have z0:=uz.fz i;have hst:=uz.stored i (-99);rw[X0 (-99) _ i (by simp;omega)]at hst;have hN:w5.grownBy (wr.setCell ⟨gb,i,none⟩ (.int .i64 (-99))) (some gb)/\Q0L (w.heap.size+2) (.slice (some ⟨gb,0,none⟩) (n+8) c2) (List.replicate (i+1) (-99)++(f.vals++List.replicate 8 (-77)).drop (i+1)) (wr.setCell ⟨gb,i,none⟩ (.int .i64 (-99))):=⟨Ab zO (Aj wr gb i (.int .i64 (-99))),hst⟩);(have HNX:=Ac hN;have hxx:(x==x)=true:=by simp);by_cases hin:i<n;{(have YP:decide ((i:Int)<(n:Int))=true:=by simp;omega);(have hdm:decide (i<n)=true:=by simpa using hin);rw[CP (by omega)]at hx;(obtain⟨fg,fo,hfa,ea⟩:∃fg fo,fa=some ⟨fg,fo,none⟩/\wr.cell? ⟨fg,fo+i,none⟩=some (.int .i64 x):=by rcases hM.fin with ⟨_,h2⟩|⟨a,cp,h1,_,h3⟩;{rw[h2]at hx;simp at hx};{obtain⟨fg,fo,e1,e2⟩:=h3 i x hx;(simp only[AH]at h1;have hb:(Value.slice fa f.vals.length fc).ownBlock=some fg:=by rw[h1.1,e1];rfl);have hlo:=(Aa uj (by intro h0;rw[h0]at hx;simp at hx) fg hb).1;exact⟨fg,fo,by rw[h1.1,e1],zO.cell e2 (λe=>by simp at e;omega)⟩});subst hfa;clear hcs hx hx2 hN hst uz hM UI HK kX HM;go_wp2;go_roundw;(case rel=>exact⟨i+1,by omega,rfl,by go_num,HNX⟩);case measure=>simp[intOf];omega};{(have YP:decide ((i:Int)<(n:Int))=false:=by simp;omega);(have hdm:decide (i<n)=false:=by simpa using hin);rw[DZ (by omega),FT]at hx;(have hx3:x=-77:=by split at hx;{simpa using hx.symm};{cases hx});subst hx3;clear hcs hx hx2 hN hst uz hM UI HK kX HM;go_wp2;go_roundw;(case rel=>exact⟨i+1,by omega,rfl,by go_num,HNX⟩);case measure=>simp[intOf];omega}};{(have cu:decide ((i:Int)<(n:Int)+8)=false:=by simp;omega);(have YR:decide (i<n+8)=false:=by simpa using hlt);(have hin:i=n+8:=by omega);(have jF:Q0L (w.heap.size+2) (.slice (some ⟨gb,0,none⟩) (f.vals.length+8) c2) (List.replicate (f.vals.length+8) (-99)) wr:=by rw[kX];rw[hin,BD (by simp;omega),BM]at uz;exact uz);obtain⟨la,lc,hlv⟩:=hM.lists.lent.1.1.slice;have x8:=hM.tg;have hWb:=hM.lists.blk.gr zO (λe=>by(have e':gb=W:=by simpa using e);have:=hM.lists.own;rw[<-e',x8]at this;cases this);(have c7:wr.cell? ⟨W,7,none⟩=some (.slice la ls.length lc):=by rw[hWb.cell 7,<-hlv];rfl);(have hrl:Q0B 35 1 (λv:Value=>[v]) 0 (.slice la ls.length lc) ls wr:=by rw[<-hlv];exact hM.lists.lent.1.1.other zO (λg hg e=>by(have e':gb=g:=by simpa using e);have:=hM.lists.lent.1.2 g hg;rw[<-e',x8]at this;cases this));have cq:=AA wr (.cells #[.slice (some ⟨gb,0,none⟩) (n+8) c2] 35) none;have MK:=hrl.gr cq;have aC:Q0B 35 1 (λv:Value=>[v]) 0 (.slice (some ⟨wr.heap.size,0,none⟩) 1 1) [Value.slice (some ⟨gb,0,none⟩) (n+8) c2] (wr.alloc (.cells #[.slice (some ⟨gb,0,none⟩) (n+8) c2] 35)):=(Q0B.lit1 (e:=35) (enc:=λv:Value=>[v]) (λ_=>rfl) wr (Value.slice (some ⟨gb,0,none⟩) (n+8) c2) #[.slice (some ⟨gb,0,none⟩) (n+8) c2] rfl).weak (AG _);have hdone:=λ(v':Value) (w8:World) (a b:Nat) (hl:Q0O (.slice la ls.length lc) v' a b (wr.alloc (.cells #[.slice (some ⟨gb,0,none⟩) (n+8) c2] 35)) w8) (hr:Q0B 35 1 (λv:Value=>[v]) 0 v' (ls++[.slice (some ⟨gb,0,none⟩) (n+8) c2]) w8)=>Q4F.done hX hM zH iZ kP oh zO jF cq (by rw[hlv];exact hl) (by rw[kX];exact hr);(rw[hlv]at hdone;have lf:=Ac hdone;have kh:=Aa zt;have hb1:ls.length + [Value.slice (some ⟨gb,0,none⟩) (n+8) c2].length<=maxLen:=by unfold maxLen;simp;omega);(have hb2:(ls.length + [Value.slice (some ⟨gb,0,none⟩) (n+8) c2].length)*24<=140737488355328:=by simp;omega);have fP:=Ac hb1;have fq:=Ac hb2;clear hdone hrl hWb jF uz hM UI HK kX HM hlv x8 cq kh hb1 hb2 q0 q1;go_wp2_with (first|(at_builtin;refine Cg rfl _ _ 68 rfl underlying68 Q5F rfl (by decide) rfl MK rfl aC (by simp) (λy hy=>by simp only[AZ]at hy;subst hy;intro c hc;simp at hc;subst hc;rfl) (Aa fP) (Aa fq) ?_)|(go_at_call 51;refine(N2 _ _).mono ?_;rintro e w'⟨rfl,rfl⟩));(intro v8 w8 uu jz;obtain⟨⟨y8,yf8⟩,hAP⟩:=Aa lf v8 w8 _ _ jz uu;obtain⟨g8,eV,rfl⟩:=jz.form;have HAP:=Ac hAP;have e1:(VO==VO)=true:=by simp);(have e2:(VP==VP)=true:=by simp);clear hAP uu jz lf MK aC c7;go_wp2_with fail;refine(N2 _ _).mono ?_;rintro e w9⟨rfl,VZ⟩;rw[VZ];clear VZ;go_wp2_with fail;refine(N2 _ _).mono ?_;rintro e w10⟨rfl,LP⟩;rw[LP];clear LP;go_wp2;go_ret;rw[Aa HR];exact Aa HAP}}
theorem Z7(w:World)(l:List Int)(cs:Array Value)(hc:cs.toList=l.map (λz=>Value.int .i64 z))(hl:l.length<=maxLen):Q0V (.slice (some ⟨w.heap.size,0,none⟩) l.length l.length) l (w.alloc (.cells cs 3)):=by
 refine .inr ⟨_,_,rfl,hl,λi x hx=>⟨w.heap.size,0,rfl,?_⟩⟩;have h:=AR w (.cells cs 3);simp only[World.cell?,h,BU];have:cs[i]?=cs.toList[i]?:=by simp
 rw[this,hc,BR,hx];rfl
theorem Ww(w:World)(a:Int):Q0V (.slice (some ⟨w.heap.size,0,none⟩) 1 1) [a] (w.alloc (.cells #[.int .i64 a] 3)):=Z7 w [a] _ rfl (by unfold maxLen;simp)
theorem Hand.mtAt{xs:List VFt}(h:Hand T 52 v xs w):Q6C v xs w:=⟨h.row.1,λm hm=>by
 obtain⟨i,hi⟩:=EN hm;exact(h.els i m hi).1.1⟩
theorem WAt.add{T:Nat->Nat}{W:Nat}{nets:List Nt}{k i:Nat}{n:Nt}{f:Q0E}{w w':World}{nv uv fv mv k0 k1 k2:Value}{us fs ms:List (Value×Int)}{ls:List Value}(hN:Q0Z T nv nets k w)(hn:nets[i]?=some n)(h3:us.length<=k*2100000)(h4:fs.length<=4*k)(h5:ms.length<=4*k)(h6:ls.length<=k)(e:Ending) (hp:Hn XT T W nv uv fv mv k0 k1 k2 us fs ms ls (11+3*i) (12+3*i) n.x n.y (n.s.add f).2 w e w'):Bv T W k nets.length w e w':=by obtain⟨he,T',ew,uq,j1,j2,j3,j4,j5,j6⟩:=hp;obtain⟨_,_,aI,hc⟩:=hN.net i n hn;obtain⟨XE,hc'⟩:=aI.add f;refine⟨he,T',nets.set i ⟨n.x,n.y,(n.s.add f).2⟩,⟨nv,uv,fv,mv,k0,k1,k2,ew,us,fs,ms,uq,j1,hN.set hn j5 j6 j3 j4 XE (by omega),AU h3 (BS _ (FV k)),by omega,by omega,by omega⟩,by simp,j5.mono (λj hj=>by omega),λj hj h0=>by rw[j6 j hj,h0]⟩
theorem WAt.tell{nets:List Nt}(hN:Q0Z T nv nets k w)(h3:us.length<=k*2100000)(h4:fs.length<=4*k)(h5:ms.length<=4*k)(h6:ls.length<=k)(e:Ending) (hp:Ks T W nv mv k2 lv us fs ms ls w e w'):Bv T W k nets.length w e w':=by
 obtain⟨he,T',ik,ae,il,LG,gW,kG,j1,j2,j3,j4,j5⟩:=hp;have ra:∀j,Yx (T j)->¬ (T j=1\/T j=3\/T j=6\/T j=4\/T j=7\/InH (T j)):=by rintro j (h|h|⟨h,h2⟩) (e|e|e|e|e|e)<;>first|omega|exact h2 e|(have:=e.1;omega)
 refine⟨he,T',nets,⟨nv,ik,ae,mv,il,LG,k2,lv,gW,kG,ms,ls,j1,hN.keep (FV k) j4 ra (λj hj h=>j5 j hj (λhi=>ra j h (.inr (.inr (.inr (.inr (.inr hi))))))),?_,by omega,by omega,by omega⟩,rfl,j4.mono (λj hj h0=>?_),λj hj h0=>by rw[j5 j hj (λh=>by have:=h.1;omega),h0]⟩;{(have:(k+1)*2100000=k*2100000+2100000:=by rw[GU,JL]);rw[this];omega};{rcases hj with h|h|h|h|h|h;{omega};{omega};{omega};{omega};{omega};{have:=h.1;omega}}
theorem WAt.mats{nets:List Nt}{w1:World}(hL:Q1J T W nv uv fv mv k0 k1 k2 lv us fs ms ls w)(hN:Q0Z T nv nets k w)(h3:us.length<=k*2100000)(h4:fs.length<=4*k)(h5:ms.length<=4*k)(h6:ls.length<=k)(hg:w.grownBy w1 none)(ho:∀j,j<w.heap.size->T1 j=T j)(hn:n<=524288)(e:Ending) (hp:Gv T1 W nv fv k1 lv us ms n w1 e w'):GrS (λj=>T j≠0) w w'/\∃T' eY,WAt T' W eY (k+1) w'/\eY.length=nets.length/\∀j,j<w.heap.size->T j=0->T' j=0:=by
 obtain⟨_,T',ik,il,gW,sP,sR,kG,j1,j2,j3,j4,j5,j6,j7⟩:=hp;have dn:=hL.gr hg ho;have b7:=hN.keep (T':=T1) (AX k) (GrS.of hg (by simp):GrS (λ_=>False) w w1) (by simp) (λj hj _=>ho j hj);have ra:∀j,Yx (T1 j)->¬ (T1 j=1\/T1 j=3\/T1 j=6\/T1 j=5\/T1 j=8\/InH (T1 j)):=by rintro j (h|h|⟨h,h2⟩) (e|e|e|e|e|e)<;>first|omega|exact h2 e|(have:=e.1;omega)
 have td:∀t:Nat,t<13->¬ InH t:=λt h hI=>by have:=hI.1;omega
 have hno:∀j,(T1 j=4\/T1 j=7\/T1 j=9\/T1 j=10)->¬ (T1 j=1\/T1 j=3\/T1 j=6\/T1 j=5\/T1 j=8\/InH (T1 j)):=by rintro j h (e|e|e|e|e|e)<;>first|omega|(have:=e.1;omega)
 refine⟨?_,T',nets,⟨nv,ik,fv,sP,il,k1,sR,lv,gW,fs,kG,ls,⟨j1,?_,j2,?_,?_,j3⟩,?_,?_,by omega,by omega,by omega⟩,rfl,λj hj h0=>?_⟩;{refine(GrS.of hg (by simp):GrS (λj=>T j≠0) w w1).comp j6 (λi hi fB hx=>?_);rw[ho i hi]at hx;refine fB (λh0=>?_);rcases hx with h|h|h|h|h|h;{omega};{omega};{omega};{omega};{omega};{have:=h.1;omega}};{rw[j7 W (Ad dn.blk) (by rw[dn.own];exact td 1 (by omega))];exact dn.own};{exact dn.lent.keep j6 (λj hj=>hno j (by omega)) (λj hj iD=>j7 j hj (by rcases iD with h|h<;>(rw[h];exact td _ (by omega))))};{exact dn.facts.keep j6 (λj hj=>hno j (by omega)) (λj hj iD=>j7 j hj (by rcases iD with h|h|h<;>(rw[h];exact td _ (by omega))))};{exact b7.keep (FV k) j6 ra (λj hj h=>j7 j hj (λhi=>ra j h (.inr (.inr (.inr (.inr (.inr hi)))))))};{(have:(k+1)*2100000=k*2100000+2100000:=by rw[GU,JL]);rw[this,j4];omega};{rw[j7 j (AV hj hg.size) (by rw[ho j hj,h0];exact td 0 (by omega)),ho j hj,h0]}
theorem Ut(T:Nat->Nat)(W k:Nat)(w:World)(hW:WAt T W [] k w)(q n:Int)(s:ByteArray)(fk:Int)(bN:Option Addr)(fn fc:Nat)(a:Int)(oB:q≠1)(cP:q≠2):Calls prog 33 #[.pointer (some ⟨W,0,none⟩),.agg #[.int .i64 q,.int .i64 n,.string s,.int .i64 fk,.slice bN fn fc,.int .i64 a]] w λe w'=>Bv T W k 0 w e w':=by
 have a7:=AA w (.cells #[.int .i64 q,.int .i64 n,.string s,.int .i64 fk,.slice bN fn fc,.int .i64 a] 76) none;have HW:=Ac hW;obtain⟨nv,uv,fv,mv,k0,k1,k2,lv,us,fs,ms,ls,i1,i2,_⟩:=hW;obtain⟨na,nc,dT⟩:=i2.row.1.slice;have c0:w.cell? ⟨W,0,none⟩=some (.slice na 0 nc):=by rw[i1.blk.cell 0];exact BJ some dT
 have a0:=a7.cell c0 (by simp);have e1:(q==1)=false:=by simpa using oB
 have e2:(q==2)=false:=by simpa using cP
 clear i1 i2 dT c0;go_enter func33,ntmps33;go_wp2;go_ret;exact(Aa HW).idle a7
def Q41(ao:Option Addr)(len:Nat)(w:World):Prop:=
 ∀k,k<len->∃(g off:Nat) (q n:Int) (s:ByteArray) (f:Q0E) (bN:Option Addr) (fc:Nat) (a:Int),ao=some ⟨g,off,none⟩/\s.size<=maxLen/\(I64 n/\I64 a)/\Q6D g (off+k*6) q n s f.kind (.slice bN f.vals.length fc) a w/\Q0V (.slice bN f.vals.length fc) f.vals w/\(f.vals≠[]->∀b,(Value.slice bN f.vals.length fc).ownBlock=some b->b<w.heap.size)/\f.vals.length<=1048576
def Q2B(w:World)(W k m:Nat)(wr:World):Prop:=∃T nets,WAt T W nets k wr/\nets.length=m/\w.grownBy wr none/\∀j,j<w.heap.size->T j=0
theorem Q2B.next{m':Nat}{e:Ending}(hg:w.grownBy wr none)(h0:∀j,j<w.heap.size->T j=0)(hp:Bv T W k m' wr e w'):e=.returned (.bool true)/\Q2B w W (k+1) m' w':=by obtain⟨he,T',eY,j1,j2,j3,j4⟩:=hp;refine⟨he,T',eY,j1,j2,?_,λj hj=>j4 j (AV hj hg.size) (h0 j hj)⟩;exact GrS.grown ((GrS.of hg (by simp):GrS (λ_=>False) w wr).comp j3 (λi hi _ hx=>hx (h0 i hi))) (λ_ _ h=>h)
theorem Q2B.gr{w wr w':World}{W k m:Nat}(h:Q2B w W k m wr)(hg:wr.grownBy w' none):Q2B w W k m w':=by obtain⟨T,nets,h1,h2,h3,h4⟩:=h;exact⟨T,nets,h1.gr (AX _) hg (λ_ _=>rfl),h2,Ab h3 hg,h4⟩
theorem Q2B.looks(h:Q2B w W k m wr):Calls prog 34 #[.pointer (some ⟨W,0,none⟩)] wr λe w'=>e=.returned (.bool true)/\Q2B w W k m w':=by have h0:=h;obtain⟨T,nets,⟨nv,uv,fv,mv,k0,k1,k2,lv,us,fs,ms,ls,i1,_⟩,_⟩:=h;refine(Ff T W nv uv fv mv k0 k1 k2 lv us fs ms ls wr i1.blk i1.nums i1.lent i1.facts i1.mats).mono ?_;rintro e w'⟨rfl,hg⟩;exact⟨rfl,h0.gr hg⟩
def Lw:List UInt8:=[112,58,40,49,32,120,32,121,41,40,50,32,121,41,59]
def Vi:List Q0C:=[⟨[112],[⟨false,1,[⟨1,120,0⟩,⟨1,121,0⟩]⟩,⟨false,2,[⟨1,121,0⟩]⟩]⟩]
theorem Tg:Bm Lw=.inr Vi:=by rfl
theorem Q5e(w:World):Q2B w w.heap.size 0 0 (w.alloc (.cells #[.slice none 0 0,.slice none 0 0,.slice none 0 0,.slice none 0 0,.slice none 0 0,.slice none 0 0,.slice none 0 0,.slice none 0 0] 73)):=by have hg:=AA w (.cells #[.slice none 0 0,.slice none 0 0,.slice none 0 0,.slice none 0 0,.slice none 0 0,.slice none 0 0,.slice none 0 0,.slice none 0 0] 73) none;have hx:=AR w (.cells #[.slice none 0 0,.slice none 0 0,.slice none 0 0,.slice none 0 0,.slice none 0 0,.slice none 0 0,.slice none 0 0,.slice none 0 0] 73);refine⟨λj=>if j=w.heap.size then 1 else 0,[],⟨.slice none 0 0,.slice none 0 0,.slice none 0 0,.slice none 0 0,.slice none 0 0,.slice none 0 0,.slice none 0 0,.slice none 0 0,[],[],[],[],⟨hx,by rw[AQ rfl],⟨⟨Q0B.nil 0 _ (λ_=>rfl),by simp[Value.ownBlock]⟩,Q0Q.nil _ _ _ _ Av _,by simp⟩,⟨⟨Q0B.nil 0 _ (λ_=>rfl),by simp[Value.ownBlock]⟩,by simp⟩,⟨⟨Q0B.nil 0 _ (λ_=>rfl),by simp[Value.ownBlock]⟩,Q0Q.nil _ _ _ _ Av _,by simp⟩,⟨⟨Q0B.nil 0 _ (λ_=>rfl),by simp[Value.ownBlock]⟩,Q0Q.nil _ _ _ _ Av _,by simp⟩⟩,⟨Q0Q.nil _ _ _ _ Ie _,by simp⟩,by simp,by simp,by simp,by simp⟩,rfl,hg,λj hj=>?_⟩;dsimp only;rw[AO (by omega)]
end Go.Proofs.YtolhbeekfjnfmaaGreatDoor

import Derived.Test.YtolhbeekfjnfmaaGreatDoorM39
set_option maxHeartbeats 8000000
set_option maxRecDepth 100000
namespace Go.Proofs.YtolhbeekfjnfmaaGreatDoor
open Go.RowKit
variable {v nv uv fv mv k0 k1 k2 lv v':Value}{l:List Int}{w w' wr w5:World}{S:Nat->Prop}{T T' T1 T2 T3:Nat->Nat}{W tx ty x y gb c2 fc n m k:Nat}{us fs ms:List (Value×Int)}{ls:List Value}{fa:Option Addr}{a b:Int×List Int}{F:List Ft}{a8:List Ch}
def Jc(X:(Nat->Nat)->Nat->Nat->Sv.St->World->Prop)(T:Nat->Nat)(W:Nat)(nv uv fv mv k0 k1 k2:Value)(us fs ms:List (Value×Int))(ls:List Value)(tx ty x y:Nat)(s:Sv.St)(w:World)(e:Ending)(w':World):Prop:=
 e=.returned (.bool true)/\∃T' fF OO,Lists T' W nv uv fv mv k0 k1 k2 fF us fs ms OO w'/\OO.length=ls.length+1/\X T' tx x s w'/\YT T' ty y s w'/\
  GrS (fun k=>T k=1\/T k=9\/T k=tx\/T k=ty) w w'/\∀k,k<w.heap.size->T' k=T k
theorem InAt.grs(h:InAt v l w)(hg:GrS S w w')(hs:∀g,v.ownBlock=some g->¬ S g):InAt v l w':=by
 rcases h with h1|⟨a,cap,h1,h2,h3⟩
 ·exact .inl h1
 ·refine .inr ⟨a,cap,h1,h2,fun i x hx=>?_⟩
  obtain⟨g,off,e1,e2⟩:=h3 i x hx;refine⟨g,off,e1,?_⟩;have hb:v.ownBlock=some g:=by rw[h1,e1];rfl
  rw[EC (a:=⟨g,off+i,Option.none⟩) (hg.block g (CD w _ e2) (hs g hb))];exact e2
theorem InAt.grs'(h:InAt v l w)(hg:GrS S w w')(hs:l≠[]->∀g,v.ownBlock=some g->¬ S g):InAt v l w':=by
 by_cases hl:l=[]
 ·subst hl;exact h.none
 ·exact h.grs hg (hs hl)
theorem C2.grs{T:TypeId}{N:Nat}{x y:Value}(h:C2 T N x y w)(hg:GrS S w w')(hs:¬ S N):C2 T N x y w':=hg.blk h hs
theorem Q4d:XSpec XT where
 keep:=fun h hg hs ho=>h.keep hg hs ho
 add:=fun T t x s f fa fc w _ h _ hc hin hne=>Q4w T t x s f fa fc w h hc hin.inAt hin.le hne
 facts:=fun T t x s w _ h _=>Q2v T t x s w h
 mats:=fun T t x s w _ h _=>Q1b T t x s w h
theorem Lists.keepS(h:Lists T W nv uv fv mv k0 k1 k2 lv us fs ms ls w)(hg:GrS S w w')(hs:∀k,1<=T k->T k<=10->¬ S k)(ho:∀k,k<w.heap.size->1<=T k->T k<=10->T' k=T k):Lists T' W nv uv fv mv k0 k1 k2 lv us fs ms ls w':=
 ⟨h.blk.grs hg (hs W (by rw[h.own];omega) (by rw[h.own];omega)),by rw[ho W (Ad h.blk) (by rw[h.own];omega) (by rw[h.own];omega)];exact h.own,
  h.nums.keep hg (fun k hk=>hs k (by omega) (by omega)) (fun k hk hk2=>ho k hk (by omega) (by omega)),h.lent.keep hg (fun k hk=>hs k (by omega) (by omega)) (fun k hk hk2=>ho k hk (by omega) (by omega)),
  h.facts.keep hg (fun k hk=>hs k (by omega) (by omega)) (fun k hk hk2=>ho k hk (by omega) (by omega)),h.mats.keep hg (fun k hk=>hs k (by omega) (by omega)) (fun k hk hk2=>ho k hk (by omega) (by omega))⟩
structure AddMid(X:(Nat->Nat)->Nat->Nat->Sv.St->World->Prop)(T T3:Nat->Nat)(W:Nat)(nv uv fv mv k0 k1 k2 lv:Value)(us fs ms:List (Value×Int))(ls:List Value)(tx ty x y gb c2:Nat)(s2:Sv.St)(f:Sv.Fact)(fa:Option Addr)(fc:Nat)(w w5:World):Prop where
 lists:Lists T3 W nv uv fv mv k0 k1 k2 lv us fs ms ls w5
 nx:X T3 tx x s2 w5
 ny:YT T3 ty y s2 w5
 row:IsAt (w.heap.size+2) (.slice (some ⟨gb,0,none⟩) (f.vals.length+8) c2) (f.vals++List.replicate 8 (-77)) w5
 fin:InAt (.slice fa f.vals.length fc) f.vals w5
 fb:C2 37 (w.heap.size+1) (.int .i64 f.kind) (.slice fa f.vals.length fc) w5
 ge:w.heap.size+2<=gb
 tg:T3 gb=13
 gr:GrS (fun k=>T k=tx\/T k=ty) w w5
 old:∀k,k<w.heap.size->T3 k=T k
theorem AddMid.one{X:(Nat->Nat)->Nat->Nat->Sv.St->World->Prop}(hX:XSpec X){s2:Sv.St}{f:Sv.Fact}{wx:World}
 (wV:Lists T W nv uv fv mv k0 k1 k2 lv us fs ms ls w)(xQ:11<=tx)(iI:11<=ty)(pC:tx≠ty)(jt:¬ InH tx)(ni:¬ InH ty)(hg:w.grownBy wr none)(iW:∀k,k<w.heap.size->T1 k=T k)(qX:T1 gb=13)(sF:∀k,w.heap.size<=k->k≠gb->T1 k=0)(hgb:w.heap.size+2<=gb/\gb<wr.heap.size)
 (hv:IsAt (w.heap.size+2) (.slice (some ⟨gb,0,none⟩) (f.vals.length+8) c2) (f.vals++List.replicate 8 (-77)) wr)(hf:InAt (.slice fa f.vals.length fc) f.vals w)(hf0:f.vals≠[]->∀g,(Value.slice fa f.vals.length fc).ownBlock=some g->g<w.heap.size/\T g=0)(hF:C2 37 (w.heap.size+1) (.int .i64 f.kind) (.slice fa f.vals.length fc) wr)
 (fw:GrS (fun k=>T1 k=tx) wr wx)(PY:X T2 tx x s2 wx)(iV:∀k,k<wr.heap.size->T2 k=T1 k)(cC:GrS (fun k=>T2 k=ty) wx w5)(mV:YT T3 ty y s2 w5)(gJ:∀k,k<wx.heap.size->T3 k=T2 k) :
  AddMid X T T3 W nv uv fv mv k0 k1 k2 lv us fs ms ls tx ty x y gb c2 s2 f fa fc w w5:=by
 have MV:(13:Nat)≠tx:=fun e=>jt ⟨by omega,by omega⟩
 have VY:(13:Nat)≠ty:=fun e=>ni ⟨by omega,by omega⟩
 have hs0:=hg.size;have nB:=fw.size;have hs5:=cC.size;have ho:∀k,k<w.heap.size->T3 k=T k:=fun k hk=>by rw[gJ k (by omega),iV k (by omega),iW k hk]
 have aj:GrS (fun _=>False) w wr:=GrS.of hg (by simp);have LG:w.heap.size+1<wr.heap.size:=Ad hF;have hb1:T1 (w.heap.size+1)=0:=sF _ (by omega) (by omega);have hb2:T2 (w.heap.size+1)=0:=by rw[iV _ LG,hb1]
 have TR:T2 gb=13:=by rw[iV gb hgb.2,qX]
 refine⟨?_,hX.keep PY cC (fun k hk e=>by rcases hk with hk|hk<;>omega) (fun k hk _=>gJ k hk),mV,?_,?_,?_,hgb.1,by rw[gJ gb (by omega),TR],?_,ho⟩
 ·refine((wV.keepS (T':=T1) aj (by simp) (fun k hk _ _=>iW k hk)).keepS (T':=T2) fw (fun k h1 h2 e=>by omega) (fun k hk _ _=>iV k hk)).keepS cC (fun k h1 h2 e=>by omega) (fun k hk _ _=>gJ k hk)
 ·have h1:RowAt 3 1 C1 (w.heap.size+2) (.slice (some ⟨gb,0,none⟩) (f.vals.length+8) c2) (f.vals++List.replicate 8 (-77)) wx:=fw.row hv (fun g bE e=>by
   have e':gb=g:=by simpa[Value.ownBlock] using bE
   subst e';omega)
  exact cC.row h1 (fun g bE e=>by
   have e':gb=g:=by simpa[Value.ownBlock] using bE
   subst e';omega)
 ·refine((hf.gr hg).grs' fw (fun hne g bE e=>?_)).grs' cC (fun hne g bE e=>?_)
  ·obtain⟨k1,k2⟩:=hf0 hne g bE;rw[iW g k1,k2] at e;omega
  ·obtain⟨k1,k2⟩:=hf0 hne g bE;rw[iV g (by omega),iW g k1,k2] at e;omega
 ·exact(hF.grs fw (by rw[hb1];omega)).grs cC (by rw[hb2];omega)
 ·refine((aj.mono (S':=fun k=>T k=tx\/T k=ty) (by simp)).comp fw (fun i hi hn=>?_)).comp cC (fun i hi hn=>?_)
  ·rw[iW i hi];exact fun e=>hn (.inl e)
  ·rw[iV i (by omega),iW i hi];exact fun e=>hn (.inr e)
theorem Tryz.infosInt:(Tryz.prog.info? 35).map (fun i=>(i.zero,i.size,i.bytes))=some (some (.slice none 0 0),1,24):=by kernel_rfl
theorem AddMid.done{X:(Nat->Nat)->Nat->Nat->Sv.St->World->Prop}(hX:XSpec X){s2:Sv.St}{f:Sv.Fact}{w6 w7 w8:World}
 (h:AddMid X T T3 W nv uv fv mv k0 k1 k2 lv us fs ms ls tx ty x y gb c2 s2 f fa fc w w5)(xQ:11<=tx)(iI:11<=ty)(jt:¬ InH tx)(ni:¬ InH ty)(cX:w5.grownBy w6 (some gb))(ig:IsAt (w.heap.size+2) (.slice (some ⟨gb,0,none⟩) (f.vals.length+8) c2) (List.replicate (f.vals.length+8) (-99)) w6)(dS:w6.grownBy w7 none)
 (hl:Longer lv v' n m w7 w8)(YX:RowAt 35 1 (fun v:Value=>[v]) 0 v' (ls++[.slice (some ⟨gb,0,none⟩) (f.vals.length+8) c2]) w8) :
  (w8.cell? ⟨W,7,none⟩=some lv/\w8.frozen? ⟨W,7,none⟩=false)/\Jc X T W nv uv fv mv k0 k1 k2 us fs ms ls tx ty x y s2 w (.returned (.bool true)) (w8.setCell ⟨W,7,none⟩ v'):=by
 have MV:(13:Nat)≠tx:=fun e=>jt ⟨by omega,by omega⟩
 have VY:(13:Nat)≠ty:=fun e=>ni ⟨by omega,by omega⟩
 have hL:=h.lists
 have im:gb<w5.heap.size:=by
  have hrow:=(h.row.own gb rfl).2;exact hrow
 have UY:=Ad hL.blk;have hW1:=hL.own;have uz:=h.tg;have hge:=h.ge;have PA:=cX.size;have SE:=dS.size;have hlv:∀b,lv.ownBlock=some b->T3 b=9/\b<w5.heap.size:=fun b hb=>⟨hL.lent.1.2 b hb,(hL.lent.1.1.own b hb).2⟩
 have aV:=Aj w8 W 7 v';have hs8:w7.heap.size<=w8.heap.size:=(hl.gr (S:=fun i=>lv.ownBlock=some i) (fun b hb=>hb)).size;have wH:lv.ownBlock≠some W:=fun e=>by have:=(hlv W e).1;omega
 have hWg:W≠gb:=fun e=>by rw[e] at hW1;omega
 have hG:GrS (fun k=>k=gb\/lv.ownBlock=some k\/k=W) w5 (w8.setCell ⟨W,7,none⟩ v'):=by
  refine((((GrS.of cX (fun g hg=>by cases hg;exact .inl rfl):GrS (fun k=>k=gb\/lv.ownBlock=some k\/k=W) w5 w6).then dS (by simp)).trans (hl.gr (fun b hb=>.inr (.inl hb)))).then aV (fun g hg=>?_));simp at hg;exact .inr (.inr (.inr hg.symm))
 obtain⟨T',bR⟩:∃T':Nat->Nat,T'=fun k=>if k=gb then 10 else if k<w7.heap.size then T3 k else 9:=⟨_,rfl⟩
 have t0:T' gb=10:=by rw[bR];dsimp only;rw[AQ rfl]
 have t1:∀k,k≠gb->k<w7.heap.size->T' k=T3 k:=fun k h1 h2=>by rw[bR];dsimp only;rw[AO h1,AQ h2]
 have t2:∀k,w7.heap.size<=k->T' k=9:=fun k h1=>by rw[bR];dsimp only;rw[AO (by omega),AO (by omega)]
 have tk:∀k,k<w5.heap.size->T3 k≠13->T' k=T3 k:=fun k h1 h2=>t1 k (fun e=>h2 (by rw[e];exact uz)) (by omega)
 have hno:∀k,T3 k≠13->T3 k≠9->T3 k≠1->¬ (k=gb\/lv.ownBlock=some k\/k=W):=by
  rintro k h1 h2 h3 (e|e|e)
  ·exact h1 (by rw[e];exact uz)
  ·exact h2 (hlv k e).1
  ·exact h3 (by rw[e];exact hW1)
 have UZ:WBlk W #[nv,uv,fv,mv,k0,k1,k2,lv] w8:=hl.block ((hL.blk.gr cX (fun e=>hWg (by cases e;rfl))).gr dS (by simp)) wH
 have hv':∀b,v'.ownBlock=some b->T' b=9/\b≠W/\b≠gb:=fun b hb=>by
  rcases hl.own b hb with e|e
  ·obtain⟨k1,k2⟩:=hlv b e
   exact⟨by rw[tk b k2 (by omega),k1],fun e'=>by rw[e'] at k1;omega,fun e'=>by rw[e'] at k1;omega⟩
  ·exact⟨t2 b e,by omega,by omega⟩
 refine⟨⟨by rw[UZ.cell 7];rfl,UZ.fz 7⟩,rfl,T',v',ls++[.slice (some ⟨gb,0,none⟩) (f.vals.length+8) c2],⟨UZ.set 7 v',by rw[tk W UY (by omega)];exact hW1,?_,⟨⟨YX.other aV (fun g hg e=>by have:=(hv' g hg).2.1;simp at e;omega),fun g hg=>(hv' g hg).1⟩,fun z hz=>?_⟩,?_,?_⟩,by simp,?_,?_,?_,?_⟩
 ·exact hL.nums.keep hG (fun k hk=>hno k (by omega) (by omega) (by omega)) (fun k hk hk2=>tk k hk (by omega))
 ·rcases AY.1 hz with hz|hz
  ·obtain⟨nn,hz2⟩:=hL.lent.2 z hz
   exact⟨nn,hz2.keep2 hG (fun k hk=>hno k (by omega) (by omega) (by omega)) (fun k hk hk2=>by rw[tk k hk (by omega)];exact hk2)⟩
  ·rw[AX] at hz
   subst hz;refine⟨f.vals.length+8,?_,fun g hg=>?_⟩
   ·have h7:=(ig.gr dS).weak (base':=0) (AG _)
    have h8:RowAt 3 1 C1 0 (.slice (some ⟨gb,0,none⟩) (f.vals.length+8) c2) (List.replicate (f.vals.length+8) (-99)) w8:=(hl.gr (S:=fun i=>lv.ownBlock=some i) (fun b hb=>hb)).row h7 (fun g hg e=>by
     have e':gb=g:=by simpa[Value.ownBlock] using hg
     subst e';have:=(hlv gb e).1;omega)
    exact h8.other aV (fun g hg e=>by
     have e':gb=g:=by simpa[Value.ownBlock] using hg
     subst e';simp at e;exact hWg e)
   ·have e':gb=g:=by simpa[Value.ownBlock] using hg
    subst e';exact t0
 ·exact hL.facts.keep hG (fun k hk=>hno k (by omega) (by omega) (by omega)) (fun k hk hk2=>tk k hk (by omega))
 ·exact hL.mats.keep hG (fun k hk=>hno k (by omega) (by omega) (by omega)) (fun k hk hk2=>tk k hk (by omega))
 ·exact hX.keep h.nx hG (fun k hk=>hno k (by omega) (by omega) (by omega)) (fun k hk hk2=>tk k hk (by omega))
 ·exact h.ny.keep hG (fun k hk=>hno k (by omega) (by omega) (by omega)) (fun k hk hk2=>tk k hk (by omega))
 ·refine(h.gr.mono (S':=fun k=>T k=1\/T k=9\/T k=tx\/T k=ty) (fun k hk=>.inr (.inr hk))).comp hG (fun i hi hn hx=>?_)
  have ZN:=h.old i hi;rcases hx with e|e|e
  ·omega
  ·exact hn (.inr (.inl (by rw[<-ZN];exact(hlv i e).1)))
  ·subst e;exact hn (.inl (by rw[<-ZN];exact hW1))
 ·intro k hk
  rw[t1 k (by omega) (by have:=h.gr.size;omega)];exact h.old k hk
end Go.Proofs.YtolhbeekfjnfmaaGreatDoor
namespace Go.Proofs.YtolhbeekfjnfmaaGreatDoor
variable {v nv uv fv mv k0 k1 k2 lv v':Value}{l:List Int}{w w' wr w5:World}{S:Nat->Prop}{T T' T1 T2 T3:Nat->Nat}{W tx ty x y gb c2 fc n m k:Nat}{us fs ms:List (Value×Int)}{ls:List Value}{fa:Option Addr}{a b:Int×List Int}{F:List Ft}{a8:List Ch}
def Q5(ids:List Int):List Int:=ids++List.replicate (4-ids.length) 0
def Fx(ids:List Int):List Int:=(Pb (Q5 ids)).reverse
theorem Tok.nums_pad(t:Tok):t.nums=Q5 t.ids:=by unfold Tok.nums Q5 Tok.ids;rw[BA]
theorem Tok.age_ids(t:Tok):t.age=Fx t.ids:=by unfold Tok.age Fx;rw[Tok.nums_pad]
def A7(a b:Int×List Int):Bool:=decide (0<cmpL (Fx a.2) (Fx b.2))
def Cp(b:Option (Int×List Int))(m:Int×List Int):Option (Int×List Int):=
 match b with
 | none=>some m
 | some k=>if A7 m k=true then some m else some k
def Bw(b:Option (Int×List Int))(l:List (Int×List Int)):Option (Int×List Int):=l.foldl Cp b
theorem Gz(b:Option (Int×List Int))(l k:List (Int×List Int)):Bw b (l++k)=Bw (Bw b l) k:=List.foldl_append
theorem Dy:A7 a b=false↔cmpL (Fx a.2) (Fx b.2)<=0:=by unfold A7;simp
theorem F7:A7 a b=true↔0<cmpL (Fx a.2) (Fx b.2):=by unfold A7;simp
theorem G5{c:Int×List Int}(h1:A7 a b=false)(h2:A7 b c=false):A7 a c=false:=by
 rw[Dy] at *;exact Ei _ _ _ h1 h2
theorem Ev(k:Int×List Int):∀(l:List (Int×List Int)),(∀x∈l,A7 x k=false)->Bw (some k) l=some k
 | [],_=>rfl
 | x::l,h=>by
  have e:Bw (some k) (x::l)=Bw (Cp (some k) x) l:=rfl;rw[e];unfold Cp;simp only;rw[h x (BF ..),AO (by simp)];exact Ev k l (fun y hy=>h y (BG _ hy))
theorem D1(k:Int×List Int):∀(l:List (Int×List Int)),∃k',Bw (some k) l=some k'/\(k'=k\/k'∈l)/\A7 k k'=false
 | []=>⟨k,rfl,.inl rfl,by rw[Dy,Cy];exact FP _⟩
 | x::l=>by
  have e:Bw (some k) (x::l)=Bw (Cp (some k) x) l:=rfl;rw[e];unfold Cp;simp only;cases hx:A7 x k
  ·rw[AO (by simp)]
   obtain⟨k',h1,h2,h3⟩:=D1 k l;exact⟨k',h1,by rcases h2 with h|h;exact .inl h;exact .inr (BG _ h),h3⟩
  ·rw[AQ rfl]
   obtain⟨k',h1,h2,h3⟩:=D1 x l;refine⟨k',h1,.inr ?_,?_⟩
   ·rcases h2 with h|h
    ·rw[h];exact BF ..
    ·exact BG _ h
   ·have hk:A7 k x=false:=by
     rw[Dy];rw[F7] at hx;rw[Bz];omega
    exact G5 hk h3
theorem Mu(m:Int×List Int)(l1 l2:List (Int×List Int))(h1:∀x∈l1,A7 m x=true)(h2:∀x∈l2,A7 x m=false)(b:Option (Int×List Int)):Bw b (l1++m::l2)=Cp b m:=by
 rw[Gz];have e:∀b,Bw b (m::l2)=Bw (Cp b m) l2:=fun _=>rfl
 rw[e];have hm:Bw (some m) l2=some m:=Ev m l2 h2;cases b with
 | none=>
  cases l1 with
  | nil=>exact hm
  | cons x l1=>
   have e2:Bw none (x::l1)=Bw (some x) l1:=rfl;rw[e2];obtain⟨k',k1,k2,_⟩:=D1 x l1
   have:A7 m k'=true:=by
    rcases k2 with rfl|h
    ·exact h1 _ (BF ..)
    ·exact h1 _ (BG _ h)
   rw[k1];unfold Cp;simp only;rw[this,AQ rfl];exact hm
 | some k=>
  cases hmk:A7 m k
  ·have eI:∀x∈l1,A7 x k=false:=fun x hx=>by
    cases YL:A7 x k
    ·rfl
    ·have hxm:A7 x m=false:=by
      have:=h1 x hx;rw[F7] at this;rw[Dy,Bz];omega
     rw[G5 hxm hmk] at YL;cases YL
   rw[Ev k l1 eI];unfold Cp;simp only;rw[hmk,AO (by simp)];exact Ev k l2 (fun x hx=>G5 (h2 x hx) hmk)
  ·obtain⟨k',k1,k2,k3⟩:=D1 k l1
   have:A7 m k'=true:=by
    rcases k2 with rfl|h
    ·exact hmk
    ·exact h1 _ h
   rw[k1];unfold Cp;simp only;rw[this,hmk,AQ rfl,AQ rfl];exact hm
def Ed(L:List (Int×Sv.Fact))(fired:List (Int×List Int))(i:Nat)(cs:List Sv.Cond):List (Int×List Int):=((Ar L cs [] []).map (fun ids=>((i:Int),ids))).filter (fun m=>!Dv fired m)
def Fm(s:Sv.St):List (Int×List Int):=(Al s.rs s.L).filter (fun m=>!Dv s.fired m)
theorem G3(l:List (Int×List Int))(m:Int×List Int):Dv l m=true↔m∈l:=by
 unfold Dv;rw[EB];constructor
 ·rintro⟨k,h1,h2⟩
  rw[DF] at h2;rw[<-h2];exact h1
 ·exact fun h=>⟨m,h,by rw[DF]⟩
def Gp(L:List (Int×Sv.Fact))(fired:List (Int×List Int)):Nat->List Sv.Rule->List (Int×List Int)
 | _,[]=>[]
 | i,q::rs=>Ed L fired i q.conds++Gp L fired (i+1) rs
theorem Kh(L:List (Int×Sv.Fact))(fired:List (Int×List Int)):∀(rs:List Sv.Rule) (i:Nat),Gp L fired i rs=(Bo L i rs).filter (fun m=>!Dv fired m)
 | [],_=>rfl
 | q::rs,i=>by
  unfold Gp Bo;rw[DI,Kh L fired rs (i+1)];rfl
theorem P9(s:Sv.St):Fm s=Gp s.L s.fired 0 s.rs:=by
 rw[Kh];rfl
theorem ChSt.next{F:List Ft}{cs:List Sv.Cond}{c:Ch}{Z:List Tok}(h:ChSt F cs c Z)(hF:FtAsc F)(iQ:∀t∈c.e.toks,t.length=c.jn){fired:List (Int×List Int)}{i:Nat}(hf:∀t∈c.e.toks,((i:Int),t.ids)∈fired↔t∈Z)(b:Option (Int×List Int)) :
  Bw b (Ed (F.map (fun g=>(g.id,g.f))) fired i cs)=match c.e.wait[0]? with
   | none=>b
   | some t=>Cp b ((i:Int),t.ids):=by
 have hp:=h.ok.perm h.terms;have tE:=h.fd.nodup_iff.1 (h.ok.nodup h.terms hF)
 have pG:(Ed (F.map (fun g=>(g.id,g.f))) fired i cs).Pairwise (fun a b=>Fh a.2 b.2):=by
  unfold Ed;refine List.Pairwise.filter _ ?_;rw[GQ];exact Cw _ hF.fst cs [] []
 have hmem:∀m,m∈Ed (F.map (fun g=>(g.id,g.f))) fired i cs↔∃t∈c.e.wait,m=((i:Int),t.ids):=by
  intro m;unfold Ed;rw[BH,CJ,EY,<-FH,G3];constructor
  ·rintro⟨⟨ids,h1,rfl⟩,h2⟩
   obtain⟨t,ht,rfl⟩:=CJ.1 (hp.mem_iff.2 h1);refine⟨t,?_,rfl⟩;rcases AY.1 (h.fd.mem_iff.1 ht) with hw|hz
   ·exact hw
   ·exact absurd ((hf t ht).2 hz) h2
  ·rintro⟨t,ht,rfl⟩
   have pC:=h.fd.mem_iff.2 (AY.2 (.inl ht));refine⟨⟨t.ids,hp.mem_iff.1 (CJ.2 ⟨t,pC,rfl⟩),rfl⟩,fun hx=>?_⟩;exact(JO.1 tE).2.2 t ht t ((hf t pC).1 hx) rfl
 cases hw:c.e.wait[0]? with
 | none=>
  have he:c.e.wait=[]:=by
   cases hl:c.e.wait with
   | nil=>rfl
   | cons a l=>rw[hl] at hw;simp at hw
  have:Ed (F.map (fun g=>(g.id,g.f))) fired i cs=[]:=by
   cases hl:Ed (F.map (fun g=>(g.id,g.f))) fired i cs with
   | nil=>rfl
   | cons a l=>
    obtain⟨t,ht,_⟩:=(hmem a).1 (by rw[hl];exact BF ..);rw[he] at ht;simp at ht
  rw[this];rfl
 | some t=>
  have ht:t∈c.e.wait:=AV hw
  have pq:∀u∈c.e.wait,Tok.less u t=false:=fun u hu=>by
   obtain⟨j,hj⟩:=EZ hu;exact Hp.first Tok.less_ord Tok.less_self h.ok.heap hw j u hj
  obtain⟨l1,l2,e⟩:=List.append_of_mem ((hmem ((i:Int),t.ids)).2 ⟨t,ht,rfl⟩);show Bw b (Ed (F.map (fun g=>(g.id,g.f))) fired i cs)=Cp b ((i:Int),t.ids)
  have hle:∀u∈c.e.wait,A7 ((i:Int),u.ids) ((i:Int),t.ids)=false:=fun u hu=>by
   rw[Dy,<-Tok.age_ids,<-Tok.age_ids];have h1:=pq u hu;by_cases h2:0<cmpL u.age t.age
   ·rw[(Tok.less_iff u t).2 (.inl h2)] at h1
    cases h1
   ·omega
  rw[e] at pG⊢;rw[FQ,DX] at pG;refine Mu _ l1 l2 (fun x hx=>?_) (fun x hx=>?_) b
  ·obtain⟨u,hu,rfl⟩:=(hmem x).1 (by rw[e];exact AY.2 (.inl hx))
   have hlt:=pG.2.2 _ hx _ (BF ..);have h1:=pq u hu;rw[F7,<-Tok.age_ids,<-Tok.age_ids];have h2:=hle u hu;rw[Dy,<-Tok.age_ids,<-Tok.age_ids] at h2;by_cases h3:cmpL u.age t.age=0
   ·exfalso
    have h4:=Kp _ _ h3
    have h5:cmpL u.nums t.nums<0:=by
     have:=Ht _ _ hlt;unfold Tok.nums;rw[iQ u (h.fd.mem_iff.2 (AY.2 (.inl hu))),iQ t (h.fd.mem_iff.2 (AY.2 (.inl ht))),Nc _ _ _ (by simp[iQ u (h.fd.mem_iff.2 (AY.2 (.inl hu))),iQ t (h.fd.mem_iff.2 (AY.2 (.inl ht)))])];exact this
    rw[(Tok.less_iff u t).2 (.inr ⟨h4,h5⟩)] at h1;cases h1
   ·rw[Bz]
    omega
  ·obtain⟨u,hu,rfl⟩:=(hmem x).1 (by rw[e];exact AY.2 (.inr (BG _ hx)))
   exact hle u hu
def Nq(b:Option (Nat×Tok))(i:Nat)(c:Ch):Option (Nat×Tok):=
 match c.e.wait[0]? with
 | none=>b
 | some t=>match b with
  | none=>some (i,t)
  | some (k,u)=>if 0<cmpL t.age u.age then some (i,t) else some (k,u)
def Es:Option (Nat×Tok)->Nat->List Ch->Option (Nat×Tok)
 | b,_,[]=>b
 | b,i,c::a8=>Es (Nq b i c) (i+1) a8
theorem O7:∀(a8 ds:List Ch) (b:Option (Nat×Tok)) (i:Nat),Es b i (a8++ds)=Es (Es b i a8) (i+a8.length) ds
 | [],_,_,_=>rfl
 | c::a8,ds,b,i=>by
  have:=O7 a8 ds (Nq b i c) (i+1);show Es (Nq b i c) (i+1) (a8++ds)=_
  rw[this,AP,show i+1+a8.length=i+(a8.length+1) by omega];rfl
def Nx(p:Nat×Tok):Int×List Int:=((p.1:Int),p.2.ids)
theorem Mb{F:List Ft}(hF:FtAsc F){fired:List (Int×List Int)}:∀ {rs:List Sv.Rule} {a8:List Ch} {Zs:List (List Tok)} (i:Nat) (b:Option (Nat×Tok)),ChsSt F rs a8 Zs->(∀(j:Nat) (c:Ch) (Z:List Tok),a8[j]?=some c->Zs[j]?=some Z->∀t∈c.e.toks,(((i+j:Nat):Int),t.ids)∈fired↔t∈Z)->
  (Es b i a8).map Nx=Bw (b.map Nx) (Gp (F.map (fun g=>(g.id,g.f))) fired i rs)
 | [],[],[],i,b,_,_=>rfl
 | r::rs,c::a8,Z::Zs,i,b,h,hf=>by
  have h1:=h.1.next hF (h.1.ok.jlen h.1.few) (fired:=fired) (i:=i) (hf 0 c Z rfl rfl) (b.map Nx);have h2:=Mb hF (i+1) (Nq b i c) h.2 (fired:=fired) (fun j d Y hd hY t ht=>by rw[show i+1+j=i+(j+1) by omega];exact hf (j+1) d Y hd hY t ht);unfold Gp;rw[Gz,h1];show (Es (Nq b i c) (i+1) a8).map Nx=_
  rw[h2];congr 1
  unfold Nq;cases c.e.wait[0]? with
  | none=>rfl
  | some t=>
   cases b with
   | none=>rfl
   | some p=>
    obtain⟨k,u⟩:=p;simp only[DZ];unfold Cp;simp only;have e:A7 ((i:Int),t.ids) (Nx (k,u))=decide (0<cmpL t.age u.age):=by unfold A7 Nx;rw[<-Tok.age_ids,<-Tok.age_ids]
    rw[e];by_cases hd:0<cmpL t.age u.age
    ·rw[AQ hd,IL hd,AQ rfl];rfl
    ·rw[AO hd,JC hd,AO (by simp)];rfl
 | [],[],_::_,_,_,h,_=>h.elim
 | [],_::_,[],_,_,h,_=>h.elim
 | [],_::_,_::_,_,_,h,_=>h.elim
 | _::_,[],[],_,_,h,_=>h.elim
 | _::_,[],_::_,_,_,h,_=>h.elim
 | _::_,_::_,[],_,_,h,_=>h.elim
theorem FtAsc.tok(h:FtAsc F){rs:List Sv.Rule}{Zs:List (List Tok)}(hc:ChsSt F rs a8 Zs){fired:List (Int×List Int)}(hf:∀m,m∈fired↔∃(i:Nat) (Z:List Tok) (t:Tok),Zs[i]?=some Z/\t∈Z/\m=((i:Int),t.ids))(j:Nat)(c:Ch)(Z:List Tok)(h1:a8[j]?=some c)(h2:Zs[j]?=some Z)(t:Tok)(ht:t∈c.e.toks):((j:Int),t.ids)∈fired↔t∈Z:=by
 rw[hf];constructor
 ·rintro⟨i,Z',u,k1,k2,k3⟩
  simp only[CH] at k3;obtain⟨k3,k4⟩:=k3;have l8:j=i:=by omega
  subst l8;rw[h2] at k1;simp only[AE] at k1;subst k1;have hj:j<rs.length:=by have:=(AL.1 h1).1;rw[hc.len.1] at this;exact this
  obtain⟨c2,Z2,p1,p2,p3⟩:=hc.get (AB hj);rw[h1] at p1;rw[h2] at p2;simp only[AE] at p1 p2;subst p1;subst p2;rw[h.ids (p3.ok.inF t ht) (p3.ok.inF u (p3.fd.mem_iff.2 (AY.2 (.inr k2)))) k4];exact k2
 ·exact fun hz=>⟨j,Z,t,h2,hz,rfl⟩
theorem XSt.next{s:Sv.St}{Zs:List (List Tok)}(h:XSt s F a8 Zs):(Es none 0 a8).map Nx=Bw none (Fm s):=by
 rw[P9,<-h.facts];exact Mb h.asc 0 none h.rules (fun j c Z h1 h2 t ht=>by rw[BV];exact h.asc.tok h.rules h.fired j c Z h1 h2 t ht)
theorem Inv.wait{e e':En}(he:e'.toks=e.toks):∀ {B:List Tok} {ns:List Nd},Inv B ns e->Inv B ns e'
 | B,[],h=>by show e'.toks.Perm B;rw[he];exact h
 | B,n::ns,h=>⟨h.1,Inv.wait he h.2⟩
def Hr(c:Ch):Ch:=⟨c.jn,c.ns,⟨c.e.toks,(Hp.popL Tok.less c.e.wait).take (c.e.wait.length-1)⟩⟩
theorem ChSt.fire{cs:List Sv.Cond}{c:Ch}{Z:List Tok}(h:ChSt F cs c Z){t:Tok}(ht:c.e.wait[0]?=some t):ChSt F cs (Hr c) (Z++[t]):=by
 obtain⟨_,_,h3,h4⟩:=Hp.pop_ok Tok.less_ord h.ok.heap ht;refine⟨⟨h.ok.jn,h.ok.good,Inv.wait (e:=c.e) (e':=(Hr c).e) rfl h.ok.inv,h3⟩,?_,h.few,h.terms⟩;show c.e.toks.Perm _
 refine h.fd.trans ((h4.append_right Z).trans ?_);rw[CN,<-BQ];exact(List.perm_append_singleton t _).symm
theorem ChsSt.set{F:List Ft}:∀ {rs:List Sv.Rule} {a8:List Ch} {Zs:List (List Tok)} {i:Nat} {r:Sv.Rule} {c':Ch} {Z':List Tok},ChsSt F rs a8 Zs->rs[i]?=some r->ChSt F r.conds c' Z'->ChsSt F rs (a8.set i c') (Zs.set i Z')
 | [],_,_,_,_,_,_,_,h,_=>by simp at h
 | r::rs,c::a8,Z::Zs,0,q,_,_,h,hi,hc=>by
  simp only[BU,AE] at hi;subst hi;exact⟨hc,h.2⟩
 | r::rs,c::a8,Z::Zs,i+1,q,_,_,h,hi,hc=>by
  rw[BS] at hi;exact⟨h.1,ChsSt.set h.2 hi hc⟩
 | _::_,[],[],_,_,_,_,h,_,_=>h.elim
 | _::_,[],_::_,_,_,_,_,h,_,_=>h.elim
 | _::_,_::_,[],_,_,_,_,h,_,_=>h.elim
theorem XSt.fire{s:Sv.St}{F:List Ft}{a8:List Ch}{Zs:List (List Tok)}(h:XSt s F a8 Zs){i:Nat}{c:Ch}{t:Tok}(hc:a8[i]?=some c)(ht:c.e.wait[0]?=some t) :
  ∃eZ,XSt ⟨s.rs,s.L,s.cnt,s.fired++[((i:Int),t.ids)]⟩ F (a8.set i (Hr c)) eZ:=by
 have hi:i<s.rs.length:=by have:=(AL.1 hc).1;rw[h.rules.len.1] at this;exact this
 obtain⟨c2,Z,p1,p2,p3⟩:=h.rules.get (AB hi);rw[hc] at p1;simp only[AE] at p1;subst p1;have UR:i<Zs.length:=by rw[h.rules.len.2];exact hi
 refine⟨Zs.set i (Z++[t]),h.facts,h.asc,h.cnt,h.c0,h.few,h.rules.set (AB hi) (p3.fire ht),h.eight,fun m=>?_⟩;show m∈s.fired++[((i:Int),t.ids)]↔_
 rw[AY,h.fired m,AX];constructor
 ·rintro(⟨j,Z',u,k1,k2,rfl⟩|rfl)
  ·by_cases l8:i=j
   ·subst l8
    rw[p2] at k1;simp only[AE] at k1;subst k1;exact⟨i,Z++[t],u,by rw[EE UR],AY.2 (.inl k2),rfl⟩
   ·exact⟨j,Z',u,by rw[FA l8];exact k1,k2,rfl⟩
  ·exact⟨i,Z++[t],t,by rw[EE UR],AY.2 (.inr (AX.2 rfl)),rfl⟩
 ·rintro⟨j,Z',u,k1,k2,rfl⟩
  by_cases l8:i=j
  ·subst l8
   rw[EE UR] at k1;simp only[AE] at k1;subst k1;rcases AY.1 k2 with k|k
   ·exact .inl ⟨i,Z,u,p2,k,rfl⟩
   ·rw[AX] at k
    subst k;exact .inr rfl
  ·rw[FA l8] at k1
   exact .inl ⟨j,Z',u,k1,k2,rfl⟩
def Sv.St.del(s:Sv.St)(id:Int):Int×Sv.St:=
 if s.L.any (fun p=>p.1==id) then (0,⟨s.rs,s.L.filter (fun p=>!(p.1==id)),s.cnt,Bp (Al s.rs (s.L.filter (fun p=>!(p.1==id)))) s.fired⟩) else (5,s)
def Sv.St.fire(s:Sv.St):((Int×List Int)×Int)×Sv.St:=
 match Bw none (Fm s) with
 | none=>(((0,[]),5),s)
 | some m=>((m,0),⟨s.rs,s.L,s.cnt,s.fired++[m]⟩)
theorem Jz:∀(l:List (Int×List Int)) (k:Int×List Int),Bw none l=some k->k∈l
 | [],k,h=>by cases h
 | x::l,k,h=>by
  have e:Bw none (x::l)=Bw (some x) l:=rfl;rw[e] at h;obtain⟨k',h1,h2,_⟩:=D1 x l;rw[h1] at h;cases h
  rcases h2 with rfl|h2
  ·exact BF ..
  ·exact BG _ h2
theorem Iz(s:Sv.St)(m:Int×List Int):m∈Fm s↔m∈Al s.rs s.L/\m ∉ s.fired:=by
 unfold Fm;rw[BH,EY,<-FH,G3]
theorem F2(L:List (Int×Sv.Fact)):∀(cs:List Sv.Cond) (b:Sv.Bs) (ids:List Int) (m:List Int),m∈Ar L cs b ids->∀x∈m,x∈ids\/∃p∈L,p.1=x
 | [],b,ids,m,h,x,hx=>by
  unfold Ar at h;rw[AX] at h;subst h;exact .inl hx
 | c::cs,b,ids,m,h,x,hx=>by
  unfold Ar at h;split at h
  ·split at h
   ·simp at h
   ·exact F2 L cs b ids m h x hx
  ·obtain⟨p,hp,hm⟩:=CT.1 h
   cases hb:Ay p.2 c b with
   | none=>rw[hb] at hm;simp at hm
   | some b'=>
    rw[hb] at hm;rcases F2 L cs b' (ids++[p.1]) m hm x hx with h1|h1
    ·rcases AY.1 h1 with h2|h2
     ·exact .inl h2
     ·rw[AX] at h2
      exact .inr ⟨p,hp,h2.symm⟩
    ·exact .inr h1
theorem Lf(rs:List Sv.Rule)(L:List (Int×Sv.Fact))(m:Int×List Int)(h:m∈Al rs L):∀x∈m.2,∃p∈L,p.1=x:=by
 obtain⟨i,r,_,_,h3⟩:=(Dz L m rs).1 h;intro x hx;rcases F2 L r.conds [] [] m.2 h3 x hx with h1|h1
 ·simp at h1
 ·exact h1
theorem Q0b(l:List Int):(Pb l).Pairwise (fun a b=>a<=b):=by
 unfold Pb;have h:=List.pairwise_mergeSort (le:=fun a b:Int=>decide (a<=b)) (by simp;omega) (by simp;omega) l;exact h.imp (fun h=>by simpa using h)
theorem Ty(l:List Int):(Pb l).Perm l:=List.mergeSort_perm ..
theorem O9{α:Type}[DecidableEq α]:∀ {l k:List α},l.Nodup->(∀x∈l,x∈k)->l.length<=k.length
 | [],_,_,_=>AG _
 | x::l,k,hn,h=>by
  obtain⟨h1,h2⟩:=IZ.1 hn;have hx:=h x (BF ..);have ih:=O9 (k:=k.erase x) h2 (fun y hy=>(List.mem_erase_of_ne (fun e=>h1 (by rw[<-e];exact hy))).2 (h y (BG _ hy)));rw[List.length_erase_of_mem hx] at ih;have:=GP hx;rw[AP];omega
def D8(x:Int):List Int->List Int
 | []=>[x]
 | y::l=>if x<=y then y::D8 x l else x::y::l
def Hg(out:List Int)(l:List Int):List Int:=l.foldl (fun o x=>D8 x o) out
def Bm(l:List Int):List Int:=Hg [] l
theorem F6(x:Int):∀(l:List Int),(D8 x l).Perm (x::l)
 | []=>DU _
 | y::l=>by
  unfold D8;split
  ·exact((F6 x l).cons y).trans (List.Perm.swap x y l)
  ·exact DU _
theorem Iv(x:Int):∀(l:List Int),l.Pairwise (fun a b=>b<=a)->(D8 x l).Pairwise (fun a b=>b<=a)
 | [],_=>IW _ _
 | y::l,h=>by
  obtain⟨h1,h2⟩:=DX.1 h;unfold D8;split
  ·rename_i hx
   refine DX.2 ⟨fun z hz=>?_,Iv x l h2⟩;rcases CQ.1 ((F6 x l).mem_iff.1 hz) with rfl|hz
   ·exact hx
   ·exact h1 z hz
  ·rename_i hx
   refine DX.2 ⟨fun z hz=>?_,h⟩;rcases CQ.1 hz with rfl|hz
   ·omega
   ·have:=h1 z hz;omega
theorem J6:∀(l out:List Int),out.Pairwise (fun a b=>b<=a)->(Hg out l).Perm (l++out)/\(Hg out l).Pairwise (fun a b=>b<=a)
 | [],out,h=>⟨DU _,h⟩
 | x::l,out,h=>by
  obtain⟨h1,h2⟩:=J6 l (D8 x out) (Iv x out h);refine⟨?_,h2⟩;show (Hg (D8 x out) l).Perm (x::(l++out))
  refine h1.trans ?_;refine((F6 x out).append_left l).trans ?_;exact List.perm_middle
theorem Eg(l:List Int):(Bm l).Perm l/\(Bm l).Pairwise (fun a b=>b<=a):=by
 obtain⟨h1,h2⟩:=J6 l [] List.Pairwise.nil;rw[BM] at h1;exact⟨h1,h2⟩
theorem Rn:∀ {a b:List Int},a.Perm b->a.Pairwise (fun x y=>y<=x)->b.Pairwise (fun x y=>y<=x)->a=b
 | [],b,h,_,_=>h.nil_eq
 | x::a,[],h,_,_=>by have:=h.length_eq;simp at this
 | x::a,y::b,h,ha,hb=>by
  obtain⟨a1,a2⟩:=DX.1 ha;obtain⟨b1,b2⟩:=DX.1 hb
  have dn:x=y:=by
   have h1:y<=x:=by
    rcases CQ.1 (h.mem_iff.2 (BF ..)) with e|e
    ·omega
    ·exact a1 y e
   have h2:x<=y:=by
    rcases CQ.1 (h.mem_iff.1 (BF ..)) with e|e
    ·omega
    ·exact b1 x e
   omega
  subst dn;rw[Rn ((List.perm_cons x).1 h) a2 b2]
theorem Jy(ids:List Int)(h0:∀x∈ids,0<=x):Fx ids=Bm ids++List.replicate (4-(Bm ids).length) 0:=by
 obtain⟨h1,h2⟩:=Eg ids;refine Rn ?_ ?_ ?_
 ·refine((List.reverse_perm _).trans (Ty _)).trans ?_
  unfold Q5;rw[h1.length_eq];exact(h1.symm.append_right _)
 ·unfold Fx
  rw[List.pairwise_reverse];exact Q0b _
 ·refine FQ.2 ⟨h2,?_,fun a ha b hb=>?_⟩
  ·rw[List.pairwise_replicate]
   exact .inr (FP _)
  ·rw[CX hb]
   exact h0 a (h1.mem_iff.1 ha)
def Dx:List Int->List Int->Bool
 | x::a,y::b=>if x=y then Dx a b else decide (y<x)
 | a,b=>decide (b.length<a.length)
theorem Kc:∀(n:Nat) (a b:List Int),a.length<=n->b.length<=n->(∀x∈a,1<=x)->(∀x∈b,1<=x)->Dx a b=decide (0<cmpL (a++List.replicate (n-a.length) 0) (b++List.replicate (n-b.length) 0))
 | n,[],[],_,_,_,_=>by
  rw[Cy];rfl
 | 0,x::a,_,h,_,_,_=>by simp at h
 | 0,[],y::b,_,h,_,_=>by simp at h
 | n+1,x::a,[],_,_,ha,_=>by
  have hx:=ha x (BF ..);rw[CN,CW,CE,IB,List.replicate_succ];unfold cmpL;rw[AO (by omega),AQ (by omega)];simp[Dx]
 | n+1,[],y::b,_,_,_,hb=>by
  have hy:=hb y (BF ..);rw[CN,CW,CE,IB,List.replicate_succ];unfold cmpL;rw[AQ (by omega)];simp[Dx]
 | n+1,x::a,y::b,h1,h2,ha,hb=>by
  have ih:=Kc n a b (by simpa using h1) (by simpa using h2) (fun z hz=>ha z (BG _ hz)) (fun z hz=>hb z (BG _ hz));rw[CN,CN,AP,AP,Nat.succ_sub_succ,Nat.succ_sub_succ];unfold cmpL Dx;by_cases dn:x=y
  ·rw[AQ dn,AO (by omega),AO (by omega)]
   exact ih
  ·rw[AO dn]
   by_cases hlt:x<y
   ·rw[AQ hlt]
    rw[JC (by omega)];rfl
   ·rw[AO hlt,AQ (by omega)]
    rw[IL (by omega)];rfl
theorem Py(a b:List Int)(UQ:a.length<=4)(hb4:b.length<=4)(ha:∀x∈a,1<=x)(hb:∀x∈b,1<=x):Dx (Bm a) (Bm b)=decide (0<cmpL (Fx a) (Fx b)):=by
 obtain⟨p1,_⟩:=Eg a;obtain⟨p2,_⟩:=Eg b;rw[Jy a (fun x hx=>by have:=ha x hx;omega),Jy b (fun x hx=>by have:=hb x hx;omega)];exact Kc 4 _ _ (by rw[p1.length_eq];exact UQ) (by rw[p2.length_eq];exact hb4) (fun x hx=>ha x (p1.mem_iff.1 hx)) (fun x hx=>hb x (p2.mem_iff.1 hx))
theorem R5(L:List (Int×Sv.Fact))(hL:L.length<=16):∀(rs:List Sv.Rule) (k:Nat),(∀r∈rs,r.conds.length<=4)->(Bo L k rs).length<=rs.length*65536
 | [],_,_=>by simp[Bo]
 | r::rs,k,h=>by
  have h1:=D3 L hL r.conds [] [];have h2:16 ^ r.conds.length<=16 ^ 4:=DL (by omega) (h r (BF ..));have h3:(16:Nat) ^ 4=65536:=by decide
  have h4:=R5 L hL rs (k+1) (fun q hq=>h q (BG _ hq));show ((Ar L r.conds [] []).map (fun ids=>((k:Int),ids))++Bo L (k+1) rs).length<=_
  rw[AK,BA,AP,GV,JZ];omega
theorem R6(rs:List Sv.Rule)(L:List (Int×Sv.Fact))(hr:Sv.RsOk rs)(hL:L.length<=16):(Al rs L).length<=524288:=by
 have h1:=R5 L hL rs 0 hr.conds;have h2:=hr.len;have h3:rs.length*65536<=8*65536:=BW _ h2;unfold Al;omega
theorem Uu(cs:List Sv.Cond):Of cs<=cs.length:=by
 induction cs with
 | nil=>exact AW _
 | cons c cs ih=>
  unfold Of;rw[AP];split<;>omega
structure Sv.StG(s:Sv.St):Prop where
 ok:Sv.StOk s
 nd:s.fired.Nodup
 sub:∀m∈s.fired,m∈Al s.rs s.L
 rng:∀p∈s.L,1<=p.1/\p.1<=s.cnt
theorem Sv.StG.new(rs:List Sv.Rule)(h:Sv.RsOk rs):Sv.StG ⟨rs,[],0,[]⟩:=⟨⟨h,AG _,FP _,AG _⟩,List.nodup_nil,by simp,by simp⟩
theorem Sv.StG.ids{s:Sv.St}(h:Sv.StG s):∀m∈Al s.rs s.L,m.2.length<=4/\∀x∈m.2,1<=x:=by
 intro k hk;refine⟨?_,fun y hy=>?_⟩
 ·obtain⟨i,r,h1,_,h3⟩:=(Dz s.L k s.rs).1 hk
  obtain⟨t,e1,e2⟩:=Dl _ _ _ _ _ h3;rw[e1,CW,e2];have hc:=h.ok.rules.conds r (AV h1);have:=Uu r.conds;omega
 ·obtain⟨p,hp,e⟩:=Lf s.rs s.L k hk y hy
  have:=(h.rng p hp).1;omega
theorem Sv.StG.few{s:Sv.St}(h:Sv.StG s):(Al s.rs s.L).length<=524288:=R6 s.rs s.L h.ok.rules h.ok.facts
theorem Iw(ms fd:List (Int×List Int)):∀m∈Bp ms fd,m∈ms:=by
 intro m hm;exact(G3 _ _).1 (BH.1 hm).2
theorem J7(ms fd:List (Int×List Int)):(Bp ms fd).length<=fd.length:=CR _ _
theorem Sv.StG.add{s:Sv.St}(h:Sv.StG s)(f:Sv.Fact):Sv.StG (s.add f).2/\(s.add f).2.cnt<=s.cnt+1:=by
 have hc:=h.ok.c0;unfold Sv.St.add;split
 ·exact⟨h,by show s.cnt<=_;omega⟩
 ·split
  ·exact⟨h,by show s.cnt<=_;omega⟩
  ·refine⟨⟨⟨h.ok.rules,by simp;omega,by show (0:Int)<=s.cnt+1;omega,AU (J7 _ _) h.ok.fired⟩,h.nd.filter _,Iw _ _,fun p hp=>?_⟩,FP _⟩
   rcases AY.1 hp with hp|hp
   ·have:=h.rng p hp
    exact⟨this.1,by show p.1<=s.cnt+1;omega⟩
   ·rw[AX] at hp
    subst hp;exact⟨by show 1<=s.cnt+1;omega,FP _⟩
theorem Sv.StG.del{s:Sv.St}(h:Sv.StG s)(id:Int):Sv.StG (s.del id).2/\(s.del id).2.cnt=s.cnt:=by
 unfold Sv.St.del;split
 ·exact⟨⟨⟨h.ok.rules,AU (CR _ _) h.ok.facts,h.ok.c0,AU (J7 _ _) h.ok.fired⟩,h.nd.filter _,Iw _ _,fun p hp=>h.rng p (BH.1 hp).1⟩,rfl⟩
 ·exact⟨h,rfl⟩
theorem Sv.StG.fire{s:Sv.St}(h:Sv.StG s):Sv.StG s.fire.2/\s.fire.2.cnt=s.cnt:=by
 unfold Sv.St.fire;split
 ·exact⟨h,rfl⟩
 ·rename_i m hm
  obtain⟨h1,h2⟩:=(Iz s m).1 (Jz _ _ hm)
  have tE:(s.fired++[m]).Nodup:=by
   rw[JO];refine⟨h.nd,by simp,fun a ha b hb e=>?_⟩;rw[AX] at hb;subst hb;subst e;exact h2 ha
  have cg:∀k∈s.fired++[m],k∈Al s.rs s.L:=by
   intro k hk;rcases AY.1 hk with hk|hk
   ·exact h.sub k hk
   ·rw[AX] at hk
    subst hk;exact h1
  refine⟨⟨⟨h.ok.rules,h.ok.facts,h.ok.c0,?_⟩,tE,cg,h.rng⟩,rfl⟩;have:=O9 tE cg;have:=h.few;show (s.fired++[m]).length<=_
  omega
end Go.Proofs.YtolhbeekfjnfmaaGreatDoor
namespace Go.Proofs.YtolhbeekfjnfmaaGreatDoor
open Go.RowKit
variable {v nv uv fv mv k0 k1 k2 lv v':Value}{l:List Int}{w w' wr w5:World}{S:Nat->Prop}{T T' T1 T2 T3:Nat->Nat}{W tx ty x y gb c2 fc n m k:Nat}{us fs ms:List (Value×Int)}{ls:List Value}{fa:Option Addr}{a b:Int×List Int}{F:List Ft}{a8:List Ch}
structure Nt where
 x:Nat
 y:Nat
 s:Sv.St
def ntenc(n:Nt):List Value:=[.pointer (some ⟨n.x,0,none⟩),.pointer (some ⟨n.y,0,none⟩)]
theorem La(n:Nt):(ntenc n).length=2:=rfl
theorem W7(n:Nt):∀c∈ntenc n,c.oneCell'=true:=by intro c hc;simp[ntenc] at hc;rcases hc with rfl|rfl<;>rfl
theorem Tryz.infoPair:(Tryz.prog.info? 106).map (fun i=>(i.zero,i.size,i.bytes))=some (some (.agg #[.pointer none,.pointer none]),2,16):=by kernel_rfl
structure NetsAt(T:Nat->Nat)(nv:Value)(aD:List Nt)(k:Nat)(w:World):Prop where
 row:TRow T 2 106 2 ntenc nv aD w
 net:∀(i:Nat) (n:Nt),aD[i]?=some n->XT T (11+3*i) n.x n.s w/\YT T (12+3*i) n.y n.s w/\Sv.StG n.s/\n.s.cnt<=k
def Yl(t:Nat):Prop:=t=0\/t=2\/(11<=t/\¬ InH t)
theorem Q3p(i:Nat):Yl (11+3*i):=.inr (.inr ⟨by omega,fun h=>by have:=h.2;omega⟩)
theorem Q3q(i:Nat):Yl (12+3*i):=.inr (.inr ⟨by omega,fun h=>by have:=h.2;omega⟩)
theorem Q01(i:Nat):¬ InH (11+3*i):=fun h=>by have:=h.2;omega
theorem Q02(i:Nat):¬ InH (12+3*i):=fun h=>by have:=h.2;omega
theorem NetsAt.keep{T T':Nat->Nat}{nv:Value}{aD:List Nt}{k k':Nat}{w w':World}{S:Nat->Prop}(h:NetsAt T nv aD k w)(hk:k<=k')(hg:GrS S w w')(hs:∀j,Yl (T j)->¬ S j)(ho:∀j,j<w.heap.size->Yl (T j)->T' j=T j):NetsAt T' nv aD k' w':=by
 refine⟨h.row.keep2 hg (fun j hj=>hs j (by rw[hj];exact .inr (.inl rfl))) (fun j hj jF=>by rw[ho j hj (by rw[jF];exact .inr (.inl rfl))];exact jF),fun i n hn=>?_⟩;obtain⟨h1,h2,h3,h4⟩:=h.net i n hn;have hx:∀j,T j=11+3*i\/T j=0->Yl (T j):=fun j hj=>by rcases hj with hj|hj;rw[hj];exact Q3p i;rw[hj];exact .inl rfl
 have hy:∀j,T j=12+3*i\/T j=0->Yl (T j):=fun j hj=>by rcases hj with hj|hj;rw[hj];exact Q3q i;rw[hj];exact .inl rfl
 exact⟨h1.keep hg (fun j hj=>hs j (hx j hj)) (fun j hj jF=>ho j hj (hx j jF)),h2.keep hg (fun j hj=>hs j (hy j hj)) (fun j hj jF=>ho j hj (hy j jF)),h3,by omega⟩
theorem Mc(x y:Nat)(s':Sv.St):∀(aD:List Nt) (i:Nat) (n:Nt),aD[i]?=some n->n.x=x->n.y=y->(aD.set i ⟨x,y,s'⟩).flatMap ntenc=aD.flatMap ntenc
 | [],_,_,h,_,_=>by simp at h
 | m::aD,0,n,h,hx,hy=>by
  simp only[BU,AE] at h;subst h;rw[IK,BI,BI];unfold ntenc;rw[hx,hy]
 | m::aD,i+1,n,h,hx,hy=>by
  rw[BS] at h;rw[FK,BI,BI,Mc x y s' aD i n h hx hy]
theorem NetsAt.set{T T':Nat->Nat}{nv:Value}{aD:List Nt}{k i:Nat}{n:Nt}{s':Sv.St}{w w':World}(h:NetsAt T nv aD k w)(hn:aD[i]?=some n)(hg:GrS (fun j=>T j=1\/T j=9\/T j=11+3*i\/T j=12+3*i) w w')(ho:∀j,j<w.heap.size->T' j=T j)(hx:XT T' (11+3*i) n.x s' w')(hy:YT T' (12+3*i) n.y s' w')(aK:Sv.StG s')(hc:s'.cnt<=((k+1:Nat):Int)) :
  NetsAt T' nv (aD.set i ⟨n.x,n.y,s'⟩) (k+1) w':=by
 refine⟨⟨?_,fun g bE=>?_⟩,fun j m hm=>?_⟩
 ·have h1:=hg.row h.row.1 (fun g bE e=>by have:=h.row.2 g bE;omega)
  refine⟨La,?_⟩;rw[FM,Mc n.x n.y s' aD i n hn rfl rfl];exact h1.2
 ·rw[ho g (h.row.1.own g bE).2];exact h.row.2 g bE
 ·by_cases l8:i=j
  ·subst l8
   rw[EE (AL.1 hn).1] at hm;simp only[AE] at hm;subst hm;exact⟨hx,hy,aK,hc⟩
  ·rw[FA l8] at hm
   obtain⟨h1,h2,h3,h4⟩:=h.net j m hm;exact⟨h1.keep hg (fun q hq e=>by omega) (fun q hq _=>ho q hq),h2.keep hg (fun q hq e=>by omega) (fun q hq _=>ho q hq),h3,by omega⟩
theorem NetsAt.snoc{YA:Value}{aD:List Nt}{n:Nt}(h:NetsAt T nv aD k w)(hg:GrS S w w')(hs:∀j,T j=0\/(11<=T j/\¬ InH (T j))->¬ S j)(ho:∀j,j<w.heap.size->T' j=T j)(hr:TRow T' 2 106 2 ntenc YA (aD++[n]) w')(hx:XT T' (11+3*aD.length) n.x n.s w')(hy:YT T' (12+3*aD.length) n.y n.s w')(aK:Sv.StG n.s)(hc:n.s.cnt<=((k+1:Nat):Int)) :
  NetsAt T' YA (aD++[n]) (k+1) w':=by
 refine⟨hr,fun i m hm=>?_⟩;by_cases hi:i<aD.length
 ·rw[CL hi] at hm
  obtain⟨h1,h2,h3,h4⟩:=h.net i m hm;exact⟨h1.keep hg (fun q hq=>hs q (by rcases hq with hq|hq;exact .inr ⟨by omega,by rw[hq];exact Q01 i⟩;exact .inl hq)) (fun q hq _=>ho q hq),h2.keep hg (fun q hq=>hs q (by rcases hq with hq|hq;exact .inr ⟨by omega,by rw[hq];exact Q02 i⟩;exact .inl hq)) (fun q hq _=>ho q hq),h3,by omega⟩
 ·have kL:i=aD.length:=by have:=(AL.1 hm).1;simp at this;omega
  subst kL;simp only[IA,AE] at hm;subst hm;exact⟨hx,hy,aK,hc⟩
def WAt(T:Nat->Nat)(W:Nat)(aD:List Nt)(k:Nat)(w:World):Prop:=
 ∃nv uv fv mv k0 k1 k2 lv us fs ms ls,Lists T W nv uv fv mv k0 k1 k2 lv us fs ms ls w/\NetsAt T nv aD k w/\us.length<=k*2100000/\fs.length<=4*k/\ms.length<=4*k/\ls.length<=k
def B6(T:Nat->Nat)(W k m:Nat)(w:World)(e:Ending)(w':World):Prop:=
 e=.returned (.bool true)/\∃T' gN,WAt T' W gN (k+1) w'/\gN.length=m/\GrS (fun j=>T j≠0) w w'/\∀j,j<w.heap.size->T j=0->T' j=0
theorem WAt.gr{T T':Nat->Nat}{W:Nat}{aD:List Nt}{k k':Nat}{w w':World}(h:WAt T W aD k w)(hk:k<=k')(hg:w.grownBy w' none)(ho:∀j,j<w.heap.size->T' j=T j):WAt T' W aD k' w':=by
 obtain⟨nv,uv,fv,mv,k0,k1,k2,lv,us,fs,ms,ls,h1,h2,h3,h4,h5,h6⟩:=h;exact⟨nv,uv,fv,mv,k0,k1,k2,lv,us,fs,ms,ls,h1.gr hg ho,h2.keep hk (GrS.of hg (by simp):GrS (fun _=>False) w w') (by simp) (fun j hj _=>ho j hj),AU h3 (BW _ hk),by omega,by omega,by omega⟩
theorem WAt.idle{aD:List Nt}(h:WAt T W aD k w)(hg:w.grownBy w' none):B6 T W k aD.length w (.returned (.bool true)) w':=
 ⟨rfl,T,aD,h.gr (FT k) hg (fun _ _=>rfl),rfl,GrS.of hg (by simp),fun _ _ h=>h⟩
def MtAt(v:Value)(ms:List VFt)(w:World):Prop:=RowAt 52 2 ftenc 0 v ms w/\∀m∈ms,IsAt 0 m.v m.vals w
theorem MtAt.gr{v:Value}{ms:List VFt}{w w':World}(h:MtAt v ms w)(hg:w.grownBy w' none):MtAt v ms w':=⟨h.1.gr hg,fun m hm=>(h.2 m hm).gr hg⟩
def G6(c n:Int):Int:=(if c<0 then -(c+1) else c)%n
theorem Kf(c n:Int)(hn:0<n):0<=G6 c n/\G6 c n<n:=by
 unfold G6;exact⟨Int.emod_nonneg _ (by omega),Int.emod_lt_of_pos _ hn⟩
def I64(c:Int):Prop:=-9223372036854775808<=c/\c<=9223372036854775807
theorem Q2q(s:ByteArray)(w:World)(hm:s.size<=maxLen) :
  Calls Tryz.prog 50 #[.string s] w fun e w'=>e=.returned (.tuple #[.string ⟨(B4 s.data.toList).1.toArray⟩,.int .i64 (B4 s.data.toList).2.1,.int .i64 (B4 s.data.toList).2.2])/\w.grownBy w' none:=by
 by_cases hs:400<s.size
 ·have e:B4 s.data.toList=([],0,2):=by unfold B4;rw[Ae,AQ hs]
  rw[e];refine It s w hm 0 2 ?_;rintro e w'⟨hg,hp⟩;rw[AQ hs] at hp;exact⟨hp,hg⟩
 ·cases hr:Bn s.data.toList with
  | inl k=>
   have e:B4 s.data.toList=([],k,1):=by unfold B4;rw[Ae,AO hs,hr]
   rw[e];refine It s w hm k 1 ?_;rintro e w'⟨hg,hp⟩;rw[AO hs,hr] at hp;exact⟨hp,hg⟩
  | inr rs=>
   cases hx:D6 rs
   ·have e:B4 s.data.toList=(I9 rs,rs.length,0):=by unfold B4;rw[Ae,AO hs,hr];simp only;rw[hx];rfl
    rw[e];exact Qu s w hm hs rs hr hx
   ·have e:B4 s.data.toList=([],0,2):=by unfold B4;rw[Ae,AO hs,hr];simp only;rw[hx];rfl
    rw[e];refine It s w hm 0 2 ?_;rintro e w'⟨hg,hp⟩;rw[AO hs,hr] at hp;simp only at hp;rw[hx,AQ rfl] at hp;exact⟨hp,hg⟩
theorem Pa(x:Int)(w:World):Calls Tryz.prog 51 #[.int .i64 x] w fun e w'=>e=.returned (.int .i64 x)/\w'=w:=by
 go_enter Tryz.func51,Tryz.ntmps51;go_wp2;go_ret;exact⟨rfl,rfl⟩
theorem Mg(W:Nat)(w:World)(aT aL:Addr)(hL:LD aT aL w)(hP:3<w.heap.size)(s:ByteArray)(hm:s.size<=maxLen)(n fk a:Int)(bH:Option Addr)(fn fc:Nat) :
  Calls Tryz.prog 33 #[.pointer (some ⟨W,0,none⟩),.agg #[.int .i64 1,.int .i64 n,.string s,.int .i64 fk,.slice bH fn fc,.int .i64 a]] w fun e w'=>e=.returned (.bool true)/\w.grownBy w' none:=by
 have a7:=AA w (.cells #[.int .i64 1,.int .i64 n,.string s,.int .i64 fk,.slice bH fn fc,.int .i64 a] 76) none;have wX:=hL.kept a7 hP;have xi:(w.alloc (.cells #[.int .i64 1,.int .i64 n,.string s,.int .i64 fk,.slice bH fn fc,.int .i64 a] 76)).cell? ⟨w.heap.size,2,none⟩=some (.string s):=by simp
 go_enter Tryz.func33,Tryz.ntmps33;go_wp2_with fail;refine(Q3f s aT aL _ wX (by have:=a7.size;omega) hm).mono ?_;rintro e w1⟨rfl,hg1⟩;have c2:=hg1.cell xi (by simp);obtain⟨F,hF⟩:∃F,B4 s.data.toList=F:=⟨_,rfl⟩
 have OW:=fun w=>Q2q s w hm
 rw[hF] at OW⊢;clear hF;obtain⟨l,m,k⟩:=F;obtain⟨t,ht⟩:∃t:ByteArray,(⟨l.toArray⟩:ByteArray)=t:=⟨_,rfl⟩
 simp only at OW⊢;rw[ht] at OW⊢;clear ht;go_wp2_with fail;refine(OW _).mono ?_;rintro e w2⟨rfl,hg2⟩;have hg:=Ab a7 (Ab hg1 hg2)
 go_wp2_with (go_at_call 51;refine(Pa _ _).mono ?_;rintro e w3⟨rfl,rfl⟩)
 go_ret;exact⟨rfl,hg⟩
def OpAt(g o:Nat)(q n:Int)(s:ByteArray)(fk:Int)(fv:Value)(a:Int)(w:World):Prop:=
 w.cell? ⟨g,o,none⟩=some (.int .i64 q)/\w.cell? ⟨g,o+1,none⟩=some (.int .i64 n)/\w.cell? ⟨g,o+2,none⟩=some (.string s)/\w.cell? ⟨g,o+3,none⟩=some (.int .i64 fk)/\w.cell? ⟨g,o+4,none⟩=some fv/\w.cell? ⟨g,o+5,none⟩=some (.int .i64 a)
theorem OpAt.kept{g o:Nat}{q n:Int}{s:ByteArray}{fk:Int}{a:Int}(h:OpAt g o q n s fk fv a w)(hg:w.grownBy w' none):OpAt g o q n s fk fv a w':=by
 obtain⟨h0,h1,h2,h3,h4,h5⟩:=h;exact⟨hg.cell h0 (by simp),hg.cell h1 (by simp),hg.cell h2 (by simp),hg.cell h3 (by simp),hg.cell h4 (by simp),hg.cell h5 (by simp)⟩
theorem Q16(c n:Int)(hc:I64 c)(hn:0<n)(fT:n<=4611686018427387904)(w:World) :
  Calls Tryz.prog 53 #[.int .i64 c,.int .i64 n] w fun e w'=>e=.returned (.int .i64 (G6 c n))/\w'=w:=by
 obtain⟨h1,h2⟩:=hc;have hr:=Kf c n hn;unfold G6 at hr⊢;by_cases h:c<0
 ·have hd:decide (c<0)=true:=by simpa using h
  rw[AQ h] at hr⊢;have e1:-(c+1)%n=-((c+1).tmod n):=by rw[<-Int.neg_tmod,KH (by omega)]
  rw[e1];clear e1 hr;go_enter Tryz.func53,Tryz.ntmps53;go_wp2;go_ret;exact⟨rfl,rfl⟩
 ·have hd:decide (c<0)=false:=by simpa using h
  rw[AO h] at hr⊢;go_enter Tryz.func53,Tryz.ntmps53;go_wp2;go_ret;exact⟨rfl,rfl⟩
theorem Zt{aD:List Nt}{a b:Nat}{n:Nt}{w2 w3 w4:World}(hL:Lists T2 W nv uv fv mv k0 k1 k2 lv us fs ms ls w2)(hN:NetsAt T2 nv aD k w2)(hx:XT T2 (11+3*aD.length) n.x n.s w2)(hy:YT T2 (12+3*aD.length) n.y n.s w2)(aK:Sv.StG n.s)(hc:n.s.cnt<=((k+1:Nat):Int))
 (hg3:w2.grownBy w3 none)(hl:Longer nv v' a b w3 w4)(hr:RowAt 106 2 ntenc 0 v' (aD++[n]) w4) :
  (w4.cell? ⟨W,0,none⟩=some nv/\w4.frozen? ⟨W,0,none⟩=false)/\∃T',Lists T' W v' uv fv mv k0 k1 k2 lv us fs ms ls (w4.setCell ⟨W,0,none⟩ v')/\NetsAt T' v' (aD++[n]) (k+1) (w4.setCell ⟨W,0,none⟩ v')/\GrS (fun j=>T2 j=1\/T2 j=2) w2 (w4.setCell ⟨W,0,none⟩ v')/\∀j,j<w2.heap.size->T' j=T2 j:=by
 have UY:=Ad hL.blk;have hW1:=hL.own;have hs3:=hg3.size;have dw:∀b,nv.ownBlock=some b->T2 b=2/\b<w2.heap.size:=fun b hb=>⟨hN.row.2 b hb,(hN.row.1.own b hb).2⟩
 have aV:=Aj w4 W 0 v';have wH:nv.ownBlock≠some W:=fun e=>by have:=(dw W e).1;omega
 have hG:GrS (fun j=>nv.ownBlock=some j\/j=W) w2 (w4.setCell ⟨W,0,none⟩ v'):=by
  refine((((GrS.of hg3 (by simp):GrS (fun j=>nv.ownBlock=some j\/j=W) w2 w3)).trans (hl.gr (fun b hb=>.inl hb))).then aV (fun g hg=>?_));simp at hg;exact .inr (.inr hg.symm)
 obtain⟨T',bR⟩:∃T':Nat->Nat,T'=fun j=>if j<w3.heap.size then T2 j else 2:=⟨_,rfl⟩
 have t1:∀j,j<w3.heap.size->T' j=T2 j:=fun j h=>by rw[bR];dsimp only;rw[AQ h]
 have t2:∀j,w3.heap.size<=j->T' j=2:=fun j h=>by rw[bR];dsimp only;rw[AO (by omega)]
 have rE:∀j,j<w2.heap.size->T' j=T2 j:=fun j h=>t1 j (by omega)
 have hno:∀j,T2 j≠1->T2 j≠2->¬ (nv.ownBlock=some j\/j=W):=by
  rintro j h1 h2 (e|e)
  ·exact h2 (dw j e).1
  ·exact h1 (by rw[e];exact hW1)
 have xj:WBlk W #[nv,uv,fv,mv,k0,k1,k2,lv] w4:=hl.block (hL.blk.gr hg3 (by simp)) wH
 have hv':∀b,v'.ownBlock=some b->T' b=2/\b≠W:=fun b hb=>by
  rcases hl.own b hb with e|e
  ·obtain⟨q1,q2⟩:=dw b e
   exact⟨by rw[rE b q2,q1],fun e'=>by rw[e'] at q1;omega⟩
  ·exact⟨t2 b e,by omega⟩
 refine⟨⟨by rw[xj.cell 0];rfl,xj.fz 0⟩,T',⟨xj.set 0 v',by rw[rE W UY];exact hW1,?_,?_,?_,?_⟩,?_,hG.mono (fun j hj=>?_),rE⟩
 ·exact hL.nums.keep hG (fun j hj=>hno j (by omega) (by omega)) (fun j hj _=>rE j hj)
 ·exact hL.lent.keep hG (fun j hj=>hno j (by omega) (by omega)) (fun j hj _=>rE j hj)
 ·exact hL.facts.keep hG (fun j hj=>hno j (by omega) (by omega)) (fun j hj _=>rE j hj)
 ·exact hL.mats.keep hG (fun j hj=>hno j (by omega) (by omega)) (fun j hj _=>rE j hj)
 ·refine hN.snoc hG (fun j hj=>hno j (by omega) (by omega)) rE ⟨hr.other aV (fun g hg e=>by have:=(hv' g hg).2;simp at e;omega),fun g hg=>(hv' g hg).1⟩ (hx.keep hG (fun j hj=>hno j (by omega) (by omega)) (fun j hj _=>rE j hj)) (hy.keep hG (fun j hj=>hno j (by omega) (by omega)) (fun j hj _=>rE j hj)) aK hc
 ·rcases hj with e|e
  ·exact .inr (dw j e).1
  ·exact .inl (by rw[e];exact hW1)
theorem Sl(T:Nat->Nat)(W:Nat)(aD:List Nt)(k:Nat)(w:World)(hW:WAt T W aD k w)(hk:k<=2000000)(hnl:aD.length<=k)(aT aL:Addr)(hL:LD aT aL w)(hP:3<w.heap.size)(s:ByteArray)(hm:s.size<=maxLen)(n fk a:Int)(bH:Option Addr)(fn fc:Nat) :
  Calls Tryz.prog 33 #[.pointer (some ⟨W,0,none⟩),.agg #[.int .i64 2,.int .i64 n,.string s,.int .i64 fk,.slice bH fn fc,.int .i64 a]] w fun e w'=>B6 T W k (aD.length+(match Bg s.data.toList with | .inl _=>0 | .inr _=>1)) w e w':=by
 have a7:=AA w (.cells #[.int .i64 2,.int .i64 n,.string s,.int .i64 fk,.slice bH fn fc,.int .i64 a] 76) none;have wX:=hL.kept a7 hP;have xi:(w.alloc (.cells #[.int .i64 2,.int .i64 n,.string s,.int .i64 fk,.slice bH fn fc,.int .i64 a] 76)).cell? ⟨w.heap.size,2,none⟩=some (.string s):=by simp
 have uK:=Q4x T (11+3*aD.length) s aT aL _ wX (by have:=a7.size;omega) hm;have uJ:=fun(T1:Nat->Nat) (w1:World)=>Q4f T1 (12+3*aD.length) s w1 hm
 have HW:=Ac hW;clear hW wX hL hP;cases hr:Bg s.data.toList with
 | inl c=>
  rw[hr] at uK uJ;simp only[EG] at uK uJ⊢;go_enter Tryz.func33,Tryz.ntmps33;go_wp2_with fail;refine uK.mono ?_;rintro e w1⟨hg1,rfl⟩;have c2:=hg1.cell xi (by simp);go_wp2_with fail;refine(uJ T w1).mono ?_;rintro e w2⟨hg2,rfl⟩;have hg:=Ab a7 (Ab hg1 hg2);have e1:((c:Int) !=(c:Int))=false:=by simp
  clear uK uJ xi a7 hg1 hg2 c2
  go_wp2_with (go_at_call 51;refine(Pa _ _).mono ?_;rintro e w3⟨rfl,hw3⟩;subst w3)
  go_ret;exact(Aa HW).idle hg
 | inr rs=>
  rw[hr] at uK uJ;simp only at uK uJ⊢;have bX:=G4 _ rs hr;clear hr;go_enter Tryz.func33,Tryz.ntmps33;go_wp2_with fail;refine uK.mono ?_;rintro e w1⟨hg1,T1,x,rfl,hX1,hxw,fM⟩;have c2:=hg1.cell xi (by simp);go_wp2_with fail;refine(uJ T1 w1).mono ?_;rintro e w2⟨hg2,T2,y,rfl,hY2,iV⟩;have gh:=Ab hg1 hg2;have ak:=Ab a7 gh;have ho2:∀j,j<w.heap.size->T2 j=T j:=fun j hj=>by rw[iV j (AZ hj (AU a7.size hg1.size)),fM j (AZ hj a7.size)]
  obtain⟨nv,uv,fv,mv,k0,k1,k2,lv,us,fs,ms,ls,i1,i2,i3,i4,i5,i6⟩:=Aa HW;have hL2:=i1.gr ak ho2;have bb:=i2.keep (AW k) (GrS.of ak (by simp):GrS (fun _=>False) w w2) (by simp) (fun j hj _=>ho2 j hj);have PZ:=hX1.gr hg2 iV;obtain⟨na,nc,dw⟩:=bb.row.1.slice;have c0:w2.cell? ⟨W,0,none⟩=some (.slice na aD.length nc):=by rw[hL2.blk.cell 0,<-dw];rfl
  have hrow:RowAt 106 2 ntenc 0 (.slice na aD.length nc) aD w2:=by rw[<-dw];exact bb.row.1
  have hg3:=AA w2 (.cells #[.pointer (some ⟨x,0,none⟩),.pointer (some ⟨y,0,none⟩)] 106) none;have hr3:=hrow.gr hg3;have aG:RowAt 106 2 ntenc 0 (.slice (some ⟨w2.heap.size,0,none⟩) 1 1) [(⟨x,y,⟨rs,[],0,[]⟩⟩:Nt)] (w2.alloc (.cells #[.pointer (some ⟨x,0,none⟩),.pointer (some ⟨y,0,none⟩)] 106)):=(RowAt.lit1 (e:=106) La w2 (⟨x,y,⟨rs,[],0,[]⟩⟩:Nt) #[.pointer (some ⟨x,0,none⟩),.pointer (some ⟨y,0,none⟩)] rfl).weak (AG _);have hdone:=fun(v':Value) (w4:World) (p q:Nat) (hl:Longer (.slice na aD.length nc) v' p q (w2.alloc (.cells #[.pointer (some ⟨x,0,none⟩),.pointer (some ⟨y,0,none⟩)] 106)) w4) (hr:RowAt 106 2 ntenc 0 v' (aD++[(⟨x,y,⟨rs,[],0,[]⟩⟩:Nt)]) w4)=>Zt (n:=⟨x,y,⟨rs,[],0,[]⟩⟩) hL2 bb PZ hY2 (Sv.StG.new rs bX) (by show (0:Int)<=_;omega) hg3 (by rw[dw];exact hl) hr
  rw[dw] at hdone;have kt:=Ac hdone;have HI:=Ac (show us.length<=k*2100000/\fs.length<=4*k/\ms.length<=4*k/\ls.length<=k from⟨i3,i4,i5,i6⟩);have HG:=Ac (show w.grownBy w2 none/\∀j,j<w.heap.size->T2 j=T j from⟨ak,ho2⟩);clear hdone PZ hL2 bb dw hrow hg3 ak ho2 gh hX1 hY2 fM iV i1 i2 i3 i4 i5 i6 uK uJ xi a7 hg1 hg2 c2 bX hxw
  go_wp2_with (first
   | (go_at_call 51;refine(Pa _ _).mono ?_;rintro e w3⟨rfl,hw3⟩;subst w3)
   | (at_builtin;refine Cb rfl _ _ 67 rfl Tryz.underlying67 Tryz.infoPair rfl (by decide) rfl hr3 rfl aG (by simp) (fun y _=>W7 y) (by unfold maxLen;simp;omega) (by simp;omega) ?_))
  intro v8 w8 sj jb;obtain⟨⟨y8,yf8⟩,T9,j1,j2,j3,j4⟩:=Aa kt v8 w8 _ _ jb sj;obtain⟨g8,eO,rfl⟩:=jb.form
  have gy:B6 T W k (aD.length+1) w (.returned (.bool true)) (w8.setCell ⟨W,0,none⟩ (.slice (some ⟨g8,0,none⟩) (aD.length+1) eO)):=by
   obtain⟨ak,ho2⟩:=Aa HG;obtain⟨i3,i4,i5,i6⟩:=Aa HI;refine⟨rfl,T9,_,⟨_,uv,fv,mv,k0,k1,k2,lv,us,fs,ms,ls,j1,j2,AU i3 (BW _ (FT k)),by omega,by omega,by omega⟩,by simp,?_,fun j hj h0=>?_⟩
   ·refine((GrS.of ak (by simp):GrS (fun j=>T j≠0) w w2)).comp j3 (fun i hi hn hx=>?_)
    rw[ho2 i hi] at hx;exact hn (fun e=>by omega)
   ·rw[j4 j (AZ hj ak.size),ho2 j hj,h0]
  have jV:=Ac gy;clear gy j1 j2 j3 j4 kt HI HG sj jb hr3 aG c0;go_wp2;go_ret;exact Aa jV
theorem Q27(X:(Nat->Nat)->Nat->Nat->Sv.St->World->Prop)(hX:XSpec X)(T:Nat->Nat)(W:Nat)(nv uv fv mv k0 k1 k2 lv:Value)(us fs ms:List (Value×Int))(ls:List Value)(w:World)
 (wV:Lists T W nv uv fv mv k0 k1 k2 lv us fs ms ls w)(tx ty x y:Nat)(s:Sv.St)(xQ:11<=tx)(iI:11<=ty)(pC:tx≠ty)(jt:¬ InH tx)(ni:¬ InH ty)(hx:X T tx x s w)(hy:YT T ty y s w)(aK:Sv.StOk s)(LC:s.cnt<=4611686018427387904)
 (f:Sv.Fact)(fa:Option Addr)(fc:Nat)(hf:InAt (.slice fa f.vals.length fc) f.vals w)(hf0:f.vals≠[]->∀g,(Value.slice fa f.vals.length fc).ownBlock=some g->g<w.heap.size/\T g=0)(br:f.vals.length<=1048576)(ZM:ls.length<=4398046511104) :
  Calls Tryz.prog 54 #[.pointer (some ⟨W,0,none⟩),.agg #[.pointer (some ⟨x,0,none⟩),.pointer (some ⟨y,0,none⟩)],.agg #[.int .i64 f.kind,.slice fa f.vals.length fc]] w fun e w'=>Jc X T W nv uv fv mv k0 k1 k2 us fs ms ls tx ty x y (s.add f).2 w e w':=by
 have a7:=Dm w (.cells #[.pointer (some ⟨x,0,none⟩),.pointer (some ⟨y,0,none⟩)] 106) (.cells #[.int .i64 f.kind,.slice fa f.vals.length fc] 37);obtain⟨hP,hF⟩:=C2.al2 w (.pointer (some ⟨x,0,none⟩)) (.pointer (some ⟨y,0,none⟩)) (.int .i64 f.kind) (.slice fa f.vals.length fc) 106 37;have tY:=hf.gr a7;have NU:=Ac wV;have HX:=Ac hx;have HY:=Ac hy;have fe:=Ac aK;have HF:=Ac hf;have xJ:=Ac hf0;have HC:=Ac LC;have yB:=Ac ZM;clear wV hx hy aK hf hf0 LC ZM;obtain⟨q0,q1⟩:=hF.c;go_enter Tryz.func54,Tryz.ntmps54
 go_wp2_with (at_builtin;refine Gv rfl _ _ 35 rfl Tryz.underlying35 Tryz.infoInt rfl rfl (RowAt.nil (w.heap.size+2) _ At) rfl tY (by unfold maxLen;simp;omega) (by simp;omega) (by simp) ?_)
 intro v1 w1 aS hg1;have eJ:=Ab a7 (show World.grownBy _ w1 none from hg1);have wT:=hP.kept hg1 (by simp[Value.ownBlock]);have iY:=hF.kept hg1 (by simp[Value.ownBlock]);obtain⟨a1,c1,rfl⟩:=aS.slice;have hs1:w.heap.size+2<=w1.heap.size:=by have:=iY.lt;omega
 clear a7 hP hF tY hg1 q0 q1;go_wp2;go_loopw [7,8] (fun v z w'=>∃i:Nat,i<=8/\z=.int .i64 i/\IsAt (w.heap.size+2) v (f.vals++List.replicate i (-77)) w'/\w.grownBy w' none/\C2 106 w.heap.size (.pointer (some ⟨x,0,none⟩)) (.pointer (some ⟨y,0,none⟩)) w'/\C2 37 (w.heap.size+1) (.int .i64 f.kind) (.slice fa f.vals.length fc) w'/\w.heap.size+2<=w'.heap.size) (fun _ z _=>8-(intOf z).toNat)
 case atStart=>exact⟨0,by omega,rfl,by simpa using aS,eJ,wT,iY,hs1⟩
 case round=>
  clear aS eJ wT iY hs1;obtain⟨i,hi,rfl,hv,hg,hP,hF,hs⟩:=hrel;obtain⟨a2,c2,hv2⟩:=hv.slice;have jm:(f.vals++List.replicate i (-77:Int)).length=f.vals.length+i:=by rw[AK,BN]
  rw[jm] at hv2;subst hv2;by_cases hlt:i<8
  ·have cY:decide ((i:Int)<8)=true:=by simp;omega
   have aR:=AA wr (.cells #[.int .i64 (-77)] 3) none;have l4:=hv.gr aR;have aG:IsAt 0 (.slice (some ⟨wr.heap.size,0,none⟩) 1 1) [-77] (wr.alloc (.cells #[.int .i64 (-77)] 3)):=(RowAt.lit1 At wr (-77) #[.int .i64 (-77)] rfl).weak (AG _);have hb1:(f.vals++List.replicate i (-77:Int)).length+([-77]:List Int).length<=maxLen:=by rw[jm];unfold maxLen;simp;omega
   have hb2:((f.vals++List.replicate i (-77:Int)).length+([-77]:List Int).length)*8<=140737488355328:=by rw[jm];simp;omega
   have fD:=Ac hb1;have fQ:=Ac hb2;have er:=l4.own;have xx:=Ac er;have yj:=AU hs aR.size;clear hb1 hb2 er jm
   go_wp2_with (at_builtin;refine Db rfl _ _ 35 rfl Tryz.underlying35 Tryz.infoInt rfl (by decide) rfl l4 rfl aG (fun y _=>B7 y) (Aa fD) (Aa fQ) yj ?_)
   intro v3 w3 hv3 hg3;have wR:=(hP.kept aR (by simp)).kept hg3 (fun e=>by have:=(Aa xx _ e.symm).1;omega);have VS:=(hF.kept aR (by simp)).kept hg3 (fun e=>by have:=(Aa xx _ e.symm).1;omega);have au:=C0 (Ab hg aR) hg3 (fun k hk=>by have:=(Aa xx k hk).1;omega)
   have bN:IsAt (w.heap.size+2) v3 (f.vals++List.replicate (i+1) (-77)) w3:=by
    have e:f.vals++List.replicate (i+1) (-77:Int)=f.vals++(List.replicate i (-77)++[-77]):=by rw[<-JH]
    rw[e];exact hv3
   have hs3:=AU yj hg3.size;obtain⟨a3,c3,rfl⟩:=bN.slice;have RT:(f.vals++List.replicate (i+1) (-77:Int)).length=f.vals.length+(i+1):=by rw[AK,BN]
   have HV3:=Ac bN;clear hv3 hg3 bN aG l4 aR RT;go_wp2;go_roundw
   case rel=>exact⟨i+1,by omega,by go_num,Aa HV3,au,wR,VS,hs3⟩
   case measure=>simp[intOf];omega
  ·have cY:decide ((i:Int)<8)=false:=by simp;omega
   have hi8:i=8:=by omega
   subst hi8;clear hi hlt;obtain⟨G,VP⟩:∃G,f.vals++List.replicate 8 (-77:Int)=G:=⟨_,rfl⟩
   obtain⟨gb,cb,lQ,_⟩:=hv.cells (k:=f.vals.length) (a:=-77) (by rw[DW (AW _)];simp);rw[jm] at lQ;simp only[AH,BP] at lQ;obtain⟨rfl,rfl⟩:=lQ;have hpre:IsAt (w.heap.size+2) (.slice (some ⟨gb,0,none⟩) f.vals.length c2) f.vals wr:=hv.prefix;have hgb:w.heap.size+2<=gb/\gb<wr.heap.size:=hv.own gb rfl
   have ew:f.vals.length+8<=c2:=by
    rcases hv.2.2 with ⟨h1,_⟩|⟨g',cap',cur,h1,_,_,h3,_⟩
    ·simp at h1
    ·simp only[AH] at h1
     rw[jm] at h3;omega
   rw[VP] at hv;obtain⟨T1,fM⟩:∃T1:Nat->Nat,∀k,T1 k=if k<w.heap.size then T k else if k=gb then 13 else 0:=⟨_,fun _=>rfl⟩
   have iW:∀k,k<w.heap.size->T1 k=T k:=fun k hk=>by rw[fM,AQ hk]
   have qX:T1 gb=13:=by rw[fM,AO (by omega),AQ rfl]
   have sF:∀k,w.heap.size<=k->k≠gb->T1 k=0:=fun k h1 h2=>by rw[fM,AO (by omega),AO h2]
   have hadd:=fun(Z:World) (hZ:wr.grownBy Z none)=>hX.add T1 tx x s f (some ⟨gb,0,none⟩) c2 Z (by omega) (hX.keep (Aa HX) (GrS.of (S:=fun _=>False) (Ab hg hZ) (by simp)) (by simp) (fun k hk _=>iW k hk)) (Aa fe) (Aa HC) ((hpre.weak (AG _)).gr hZ) (fun g hg e=>by simp only[Value.ownBlock,AE] at hg;subst hg;rw[qX] at e;exact jt ⟨by omega,by omega⟩)
   obtain⟨R,hR⟩:∃R,s.add f=R:=⟨_,rfl⟩
   rw[hR] at hadd;have HR:=Ac hR;clear hR;obtain⟨⟨RH,RI⟩,s2⟩:=R;simp only at hadd;obtain⟨p0,p1⟩:=hP.c;obtain⟨q0,q1⟩:=hF.c;have NG:=Ac iW;have NI:=Ac qX;have NH:=Ac sF;have HGD:=Ac VP;have HVL:=Ac jm;clear fM iW qX sF VP jm hpre;go_wp2_with fail
   go_cut [9,10] (fun a e wx=>a=.int .i64 RH/\e=.int .i64 RI/\GrS (fun k=>T1 k=tx) wr wx/\∃T2,X T2 tx x s2 wx/\∀k,k<wr.heap.size->T2 k=T1 k)
   case first=>
    go_region_with (go_at_call 18;refine(hadd _ (by repeat (first|with_reducible exact AD _ _|with_reducible apply Ah))).mono ?_;rintro e w4⟨rfl,fw,qV⟩)
    all_goals
     go_wp2_with fail;go_meet
     exact⟨rfl,rfl,(GrS.of (S:=fun k=>T1 k=tx) (Ah (AD wr none)) (by simp)).trans fw,qV⟩
   case rest=>
    obtain⟨rfl,rfl,fw,T2,PY,iV⟩:=hcut;have MV:(13:Nat)≠tx:=fun e=>jt ⟨by omega,by omega⟩
    have ho1:=Aa NG;have dF:=Aa NH;have hs0:=hg.size;have hb0:T1 w.heap.size=0:=dF _ (AW _) (by omega);have hb1:T1 (w.heap.size+1)=0:=dF _ (by omega) (by omega);have QD:=hP.grs fw (by rw[hb0];omega);have hF4:=hF.grs fw (by rw[hb1];omega);have hY4:YT T2 ty y s wc:=((Aa HY).keep (T':=T1) (GrS.of hg (by simp):GrS (fun _=>False) w wr) (by simp) (fun k hk _=>ho1 k hk)).keep fw (fun k hk e=>by rcases hk with hk|hk<;>omega) (fun k hk _=>iV k hk);have zq:=((Aa HF).gr hg).grs' fw (fun hne g bE e=>by obtain⟨k1,k2⟩:=Aa xJ hne g bE;rw[ho1 g k1,k2] at e;omega);have jd:=Q4e T2 ty y s f fa fc wc (by omega) hY4 (Aa fe) (Aa HC) zq (fun hne g bE e=>by obtain⟨k1,k2⟩:=Aa xJ hne g bE;rw[iV g (by omega),ho1 g k1,k2] at e;omega);rw[Aa HR] at jd;simp only at jd;have dW:=fun(w5:World) (T3:Nat->Nat) (cC:GrS (fun k=>T2 k=ty) wc w5) (mV:YT T3 ty y s2 w5) (gJ:∀k,k<wc.heap.size->T3 k=T2 k)=>AddMid.one hX (Aa NU) xQ iI pC jt ni hg ho1 (Aa NI) dF hgb (by rw[Aa HGD];exact hv) (Aa HF) (Aa xJ) hF fw PY iV cC mV gJ
    have kq:=Ac dW;obtain⟨ui,RJ⟩:=QD.c;obtain⟨q0',XW⟩:=hF4.c;clear dW hY4 zq PY iV fw hb0 hb1 QD hF4 hP hF p0 p1 q0 q1 hadd hv ew ho1 dF hs0;go_wp2_with fail;refine jd.mono ?_;rintro e w5⟨rfl,cC,T3,mV,gJ⟩;have hM:=Aa kq w5 T3 cC mV gJ;obtain⟨n,hn⟩:∃n,f.vals.length=n:=⟨_,rfl⟩
    have HM:=Ac hM;have HN:=Ac hn;have fT:n<=1048576:=by omega
    have h0:w5.grownBy w5 (some gb)/\IsAt (w.heap.size+2) (.slice (some ⟨gb,0,none⟩) (n+8) c2) (List.replicate 0 (-99)++(f.vals++List.replicate 8 (-77)).drop 0) w5:=⟨AD _ _,by have:=hM.row;rw[hn] at this;simpa using this⟩
    have H0:=Ac h0;rw[hn] at XW;clear jd kq cC mV gJ hM ui RJ q0' XW h0 HF NU HX HY fe HC NG NI NH HGD HVL hgb hg;rw[hn];clear hn br;go_wp2;go_loopw [13,14] (fun b z w'=>∃i:Nat,i<=n+8/\b=.bool true/\z=.int .i64 i/\Hid (w5.grownBy w' (some gb)/\IsAt (w.heap.size+2) (.slice (some ⟨gb,0,none⟩) (n+8) c2) (List.replicate i (-99)++(f.vals++List.replicate 8 (-77)).drop i) w')) (fun _ z _=>n+8-(intOf z).toNat)
    case atStart=>exact⟨0,AG _,rfl,rfl,H0⟩
    case round=>
     clear H0;obtain⟨i,hi,rfl,rfl,HK⟩:=hrel;obtain⟨xd,sr⟩:=Aa HK;have hM:=Aa HM;have kA:=Aa HN;have hge:=hM.ge;have QG:=hM.fb.kept xd (fun e=>by simp at e;omega);obtain⟨q0,q1⟩:=QG.c;rw[kA] at q1;by_cases hlt:i<n+8
     ·have cY:decide ((i:Int)<(n:Int)+8)=true:=by simp;omega
      have UH:decide (i<n+8)=true:=by simpa using hlt
      obtain⟨x,hx⟩:∃x,(f.vals++List.replicate 8 (-77:Int))[i]?=some x:=⟨_,AB (by simp;omega)⟩
      have hx2:(List.replicate i (-99:Int)++(f.vals++List.replicate 8 (-77)).drop i)[i]?=some x:=by
       rw[DW (by simp),BN,KU,GM,EG];exact hx
      obtain⟨g',cp',eQ,hcs⟩:=sr.cells hx2;simp only[AH,AE,BK,BX] at eQ;obtain⟨rfl,hzz,rfl⟩:=eQ;clear hzz;have x0:wr.cell? ⟨gb,i,none⟩=some (.int .i64 x):=by have:=hcs 0 (by omega);simpa[C1] using this
      have z0:=sr.fz i;have hst:=sr.stored i (-99);rw[Xm (-99) _ i (by simp;omega)] at hst;have hN:w5.grownBy (wr.setCell ⟨gb,i,none⟩ (.int .i64 (-99))) (some gb)/\IsAt (w.heap.size+2) (.slice (some ⟨gb,0,none⟩) (n+8) c2) (List.replicate (i+1) (-99)++(f.vals++List.replicate 8 (-77)).drop (i+1)) (wr.setCell ⟨gb,i,none⟩ (.int .i64 (-99))):=⟨Ab xd (Aj wr gb i (.int .i64 (-99))),hst⟩
      have HNX:=Ac hN;have YK:(x==x)=true:=by simp
      by_cases hin:i<n
      ·have UF:decide ((i:Int)<(n:Int))=true:=by simp;omega
       have hdm:decide (i<n)=true:=by simpa using hin
       rw[CL (by omega)] at hx
       obtain⟨fg,fo,hfa,eR⟩:∃fg fo,fa=some ⟨fg,fo,none⟩/\wr.cell? ⟨fg,fo+i,none⟩=some (.int .i64 x):=by
        rcases hM.fin with ⟨_,h2⟩|⟨a,cp,h1,_,h3⟩
        ·rw[h2] at hx;simp at hx
        ·obtain⟨fg,fo,e1,e2⟩:=h3 i x hx
         simp only[AH] at h1;have hb:(Value.slice fa f.vals.length fc).ownBlock=some fg:=by rw[h1.1,e1];rfl
         have hlo:=(Aa xJ (by intro h0;rw[h0] at hx;simp at hx) fg hb).1;exact⟨fg,fo,by rw[h1.1,e1],xd.cell e2 (fun e=>by simp at e;omega)⟩
       subst hfa;clear hcs hx hx2 hN hst sr hM QG HK kA HM;go_wp2;go_roundw
       case rel=>exact⟨i+1,by omega,rfl,by go_num,HNX⟩
       case measure=>simp[intOf];omega
      ·have UF:decide ((i:Int)<(n:Int))=false:=by simp;omega
       have hdm:decide (i<n)=false:=by simpa using hin
       rw[DW (by omega),FI] at hx
       have hx3:x=-77:=by
        split at hx
        ·simpa using hx.symm
        ·cases hx
       subst hx3;clear hcs hx hx2 hN hst sr hM QG HK kA HM;go_wp2;go_roundw
       case rel=>exact⟨i+1,by omega,rfl,by go_num,HNX⟩
       case measure=>simp[intOf];omega
     ·have cY:decide ((i:Int)<(n:Int)+8)=false:=by simp;omega
      have UH:decide (i<n+8)=false:=by simpa using hlt
      have hin:i=n+8:=by omega
      have ig:IsAt (w.heap.size+2) (.slice (some ⟨gb,0,none⟩) (f.vals.length+8) c2) (List.replicate (f.vals.length+8) (-99)) wr:=by
       rw[kA];rw[hin,BD (by simp;omega),BM] at sr;exact sr
      obtain⟨la,lc,hlv⟩:=hM.lists.lent.1.1.slice;have uz:=hM.tg
      have hWb:=hM.lists.blk.gr xd (fun e=>by
       have e':gb=W:=by simpa using e
       have:=hM.lists.own;rw[<-e',uz] at this;cases this)
      have c7:wr.cell? ⟨W,7,none⟩=some (.slice la ls.length lc):=by rw[hWb.cell 7,<-hlv];rfl
      have hrl:RowAt 35 1 (fun v:Value=>[v]) 0 (.slice la ls.length lc) ls wr:=by
       rw[<-hlv]
       exact hM.lists.lent.1.1.other xd (fun g hg e=>by
        have e':gb=g:=by simpa using e
        have:=hM.lists.lent.1.2 g hg;rw[<-e',uz] at this;cases this)
      have dS:=AA wr (.cells #[.slice (some ⟨gb,0,none⟩) (n+8) c2] 35) none;have yq:=hrl.gr dS;have aG:RowAt 35 1 (fun v:Value=>[v]) 0 (.slice (some ⟨wr.heap.size,0,none⟩) 1 1) [Value.slice (some ⟨gb,0,none⟩) (n+8) c2] (wr.alloc (.cells #[.slice (some ⟨gb,0,none⟩) (n+8) c2] 35)):=(RowAt.lit1 (e:=35) (enc:=fun v:Value=>[v]) (fun _=>rfl) wr (Value.slice (some ⟨gb,0,none⟩) (n+8) c2) #[.slice (some ⟨gb,0,none⟩) (n+8) c2] rfl).weak (AG _);have hdone:=fun(v':Value) (w8:World) (a b:Nat) (hl:Longer (.slice la ls.length lc) v' a b (wr.alloc (.cells #[.slice (some ⟨gb,0,none⟩) (n+8) c2] 35)) w8) (hr:RowAt 35 1 (fun v:Value=>[v]) 0 v' (ls++[.slice (some ⟨gb,0,none⟩) (n+8) c2]) w8)=>AddMid.done hX hM xQ iI jt ni xd ig dS (by rw[hlv];exact hl) (by rw[kA];exact hr)
      rw[hlv] at hdone;have kt:=Ac hdone;have kH:=Aa yB;have hb1:ls.length + [Value.slice (some ⟨gb,0,none⟩) (n+8) c2].length<=maxLen:=by unfold maxLen;simp;omega
      have hb2:(ls.length + [Value.slice (some ⟨gb,0,none⟩) (n+8) c2].length)*24<=140737488355328:=by simp;omega
      have fD:=Ac hb1;have fQ:=Ac hb2;clear hdone hrl hWb ig sr hM QG HK kA HM hlv uz dS kH hb1 hb2 q0 q1
      go_wp2_with (first
       | (at_builtin;refine Cb rfl _ _ 68 rfl Tryz.underlying68 Tryz.infosInt rfl (by decide) rfl yq rfl aG (by simp) (fun y hy=>by simp only[AX] at hy;subst hy;intro c hc;simp at hc;subst hc;rfl) (Aa fD) (Aa fQ) ?_)
       | (go_at_call 51;refine(Pa _ _).mono ?_;rintro e w'⟨rfl,rfl⟩))
      intro v8 w8 sj jb;obtain⟨⟨y8,yf8⟩,hAP⟩:=Aa kt v8 w8 _ _ jb sj;obtain⟨g8,eO,rfl⟩:=jb.form;have HAP:=Ac hAP;have e1:(RH==RH)=true:=by simp
      have e2:(RI==RI)=true:=by simp
      clear hAP sj jb kt yq aG c7;go_wp2_with fail;refine(Pa _ _).mono ?_;rintro e w9⟨rfl,YO⟩;rw[YO];clear YO;go_wp2_with fail;refine(Pa _ _).mono ?_;rintro e w10⟨rfl,yP⟩;rw[yP];clear yP;go_wp2;go_ret;rw[Aa HR];exact Aa HAP
theorem Zm(w:World)(l:List Int)(cs:Array Value)(hc:cs.toList=l.map (fun z=>Value.int .i64 z))(hl:l.length<=maxLen):InAt (.slice (some ⟨w.heap.size,0,none⟩) l.length l.length) l (w.alloc (.cells cs 3)):=by
 refine .inr ⟨_,_,rfl,hl,fun i x hx=>⟨w.heap.size,0,rfl,?_⟩⟩;have h:=AR w (.cells cs 3);simp only[World.cell?,h,BV];have:cs[i]?=cs.toList[i]?:=by simp
 rw[this,hc,BR,hx];rfl
theorem Wi(w:World)(a:Int):InAt (.slice (some ⟨w.heap.size,0,none⟩) 1 1) [a] (w.alloc (.cells #[.int .i64 a] 3)):=Zm w [a] _ rfl (by unfold maxLen;simp)
theorem Hand.mtAt{xs:List VFt}(h:Hand T 52 v xs w):MtAt v xs w:=⟨h.row.1,fun m hm=>by
 obtain⟨i,hi⟩:=EZ hm;exact(h.els i m hi).1.1⟩
theorem WAt.add{T:Nat->Nat}{W:Nat}{aD:List Nt}{k i:Nat}{n:Nt}{f:Sv.Fact}{w w':World}{nv uv fv mv k0 k1 k2:Value}{us fs ms:List (Value×Int)}{ls:List Value}(hN:NetsAt T nv aD k w)(hn:aD[i]?=some n)(h3:us.length<=k*2100000)(h4:fs.length<=4*k)(h5:ms.length<=4*k)(h6:ls.length<=k)(e:Ending)
 (hp:Jc XT T W nv uv fv mv k0 k1 k2 us fs ms ls (11+3*i) (12+3*i) n.x n.y (n.s.add f).2 w e w'):B6 T W k aD.length w e w':=by
 obtain⟨he,T',fF,OO,j1,j2,j3,j4,j5,j6⟩:=hp;obtain⟨_,_,aK,hc⟩:=hN.net i n hn;obtain⟨SU,hc'⟩:=aK.add f;refine⟨he,T',aD.set i ⟨n.x,n.y,(n.s.add f).2⟩,⟨nv,uv,fv,mv,k0,k1,k2,fF,us,fs,ms,OO,j1,hN.set hn j5 j6 j3 j4 SU (by omega),AU h3 (BW _ (FT k)),by omega,by omega,by omega⟩,by simp,j5.mono (fun j hj=>by omega),fun j hj h0=>by rw[j6 j hj,h0]⟩
theorem WAt.tell{aD:List Nt}(hN:NetsAt T nv aD k w)(h3:us.length<=k*2100000)(h4:fs.length<=4*k)(h5:ms.length<=4*k)(h6:ls.length<=k)(e:Ending)
 (hp:Ki T W nv mv k2 lv us fs ms ls w e w'):B6 T W k aD.length w e w':=by
 obtain⟨he,T',jX,af,jY,yI,ic,ml,j1,j2,j3,j4,j5⟩:=hp
 have uL:∀j,Yl (T j)->¬ (T j=1\/T j=3\/T j=6\/T j=4\/T j=7\/InH (T j)):=by
  rintro j (h|h|⟨h,h2⟩) (e|e|e|e|e|e)<;>first|omega|exact h2 e|(have:=e.1;omega)
 refine⟨he,T',aD,⟨nv,jX,af,mv,jY,yI,k2,lv,ic,ml,ms,ls,j1,hN.keep (FT k) j4 uL (fun j hj h=>j5 j hj (fun hi=>uL j h (.inr (.inr (.inr (.inr (.inr hi))))))),?_,by omega,by omega,by omega⟩,rfl,j4.mono (fun j hj h0=>?_),fun j hj h0=>by rw[j5 j hj (fun h=>by have:=h.1;omega),h0]⟩
 ·have:(k+1)*2100000=k*2100000+2100000:=by rw[GV,JZ]
  rw[this];omega
 ·rcases hj with h|h|h|h|h|h
  ·omega
  ·omega
  ·omega
  ·omega
  ·omega
  ·have:=h.1;omega
theorem WAt.mats{aD:List Nt}{w1:World}(hL:Lists T W nv uv fv mv k0 k1 k2 lv us fs ms ls w)(hN:NetsAt T nv aD k w)(h3:us.length<=k*2100000)(h4:fs.length<=4*k)(h5:ms.length<=4*k)(h6:ls.length<=k)(hg:w.grownBy w1 none)(ho:∀j,j<w.heap.size->T1 j=T j)(hn:n<=524288)(e:Ending)
 (hp:Je T1 W nv fv k1 lv us ms n w1 e w'):GrS (fun j=>T j≠0) w w'/\∃T' gN,WAt T' W gN (k+1) w'/\gN.length=aD.length/\∀j,j<w.heap.size->T j=0->T' j=0:=by
 obtain⟨_,T',jX,jY,ic,ue,uk,ml,j1,j2,j3,j4,j5,j6,j7⟩:=hp;have eY:=hL.gr hg ho;have b9:=hN.keep (T':=T1) (AW k) (GrS.of hg (by simp):GrS (fun _=>False) w w1) (by simp) (fun j hj _=>ho j hj)
 have uL:∀j,Yl (T1 j)->¬ (T1 j=1\/T1 j=3\/T1 j=6\/T1 j=5\/T1 j=8\/InH (T1 j)):=by
  rintro j (h|h|⟨h,h2⟩) (e|e|e|e|e|e)<;>first|omega|exact h2 e|(have:=e.1;omega)
 have PE:∀t:Nat,t<13->¬ InH t:=fun t h hI=>by have:=hI.1;omega
 have hno:∀j,(T1 j=4\/T1 j=7\/T1 j=9\/T1 j=10)->¬ (T1 j=1\/T1 j=3\/T1 j=6\/T1 j=5\/T1 j=8\/InH (T1 j)):=by
  rintro j h (e|e|e|e|e|e)<;>first|omega|(have:=e.1;omega)
 refine⟨?_,T',aD,⟨nv,jX,fv,ue,jY,k1,uk,lv,ic,fs,ml,ls,⟨j1,?_,j2,?_,?_,j3⟩,?_,?_,by omega,by omega,by omega⟩,rfl,fun j hj h0=>?_⟩
 ·refine(GrS.of hg (by simp):GrS (fun j=>T j≠0) w w1).comp j6 (fun i hi fT hx=>?_)
  rw[ho i hi] at hx;refine fT (fun h0=>?_);rcases hx with h|h|h|h|h|h
  ·omega
  ·omega
  ·omega
  ·omega
  ·omega
  ·have:=h.1;omega
 ·rw[j7 W (Ad eY.blk) (by rw[eY.own];exact PE 1 (by omega))];exact eY.own
 ·exact eY.lent.keep j6 (fun j hj=>hno j (by omega)) (fun j hj jF=>j7 j hj (by rcases jF with h|h<;>(rw[h];exact PE _ (by omega))))
 ·exact eY.facts.keep j6 (fun j hj=>hno j (by omega)) (fun j hj jF=>j7 j hj (by rcases jF with h|h|h<;>(rw[h];exact PE _ (by omega))))
 ·exact b9.keep (FT k) j6 uL (fun j hj h=>j7 j hj (fun hi=>uL j h (.inr (.inr (.inr (.inr (.inr hi)))))))
 ·have:(k+1)*2100000=k*2100000+2100000:=by rw[GV,JZ]
  rw[this,j4];omega
 ·rw[j7 j (AZ hj hg.size) (by rw[ho j hj,h0];exact PE 0 (by omega)),ho j hj,h0]
theorem Tz(T:Nat->Nat)(W k:Nat)(w:World)(hW:WAt T W [] k w)(q n:Int)(s:ByteArray)(fk:Int)(bH:Option Addr)(fn fc:Nat)(a:Int)(o8:q≠1)(dE:q≠2) :
  Calls Tryz.prog 33 #[.pointer (some ⟨W,0,none⟩),.agg #[.int .i64 q,.int .i64 n,.string s,.int .i64 fk,.slice bH fn fc,.int .i64 a]] w fun e w'=>B6 T W k 0 w e w':=by
 have a7:=AA w (.cells #[.int .i64 q,.int .i64 n,.string s,.int .i64 fk,.slice bH fn fc,.int .i64 a] 76) none;have HW:=Ac hW;obtain⟨nv,uv,fv,mv,k0,k1,k2,lv,us,fs,ms,ls,i1,i2,_⟩:=hW;obtain⟨na,nc,dw⟩:=i2.row.1.slice;have c0:w.cell? ⟨W,0,none⟩=some (.slice na 0 nc):=by rw[i1.blk.cell 0];exact BJ some dw
 have a0:=a7.cell c0 (by simp);have e1:(q==1)=false:=by simpa using o8
 have e2:(q==2)=false:=by simpa using dE
 clear i1 i2 dw c0;go_enter Tryz.func33,Tryz.ntmps33;go_wp2;go_ret;exact(Aa HW).idle a7
def Q4k(ao:Option Addr)(len:Nat)(w:World):Prop:=
 ∀k,k<len->∃(g off:Nat) (q n:Int) (s:ByteArray) (f:Sv.Fact) (bH:Option Addr) (fc:Nat) (a:Int),ao=some ⟨g,off,none⟩/\s.size<=maxLen/\(I64 n/\I64 a)/\OpAt g (off+k*6) q n s f.kind (.slice bH f.vals.length fc) a w/\InAt (.slice bH f.vals.length fc) f.vals w/\(f.vals≠[]->∀b,(Value.slice bH f.vals.length fc).ownBlock=some b->b<w.heap.size)/\f.vals.length<=1048576
def PlayI(w:World)(W k m:Nat)(wr:World):Prop:=∃T aD,WAt T W aD k wr/\aD.length=m/\w.grownBy wr none/\∀j,j<w.heap.size->T j=0
theorem PlayI.next{m':Nat}{e:Ending}(hg:w.grownBy wr none)(h0:∀j,j<w.heap.size->T j=0)(hp:B6 T W k m' wr e w'):e=.returned (.bool true)/\PlayI w W (k+1) m' w':=by
 obtain⟨he,T',gN,j1,j2,j3,j4⟩:=hp;refine⟨he,T',gN,j1,j2,?_,fun j hj=>j4 j (AZ hj hg.size) (h0 j hj)⟩;exact GrS.grown ((GrS.of hg (by simp):GrS (fun _=>False) w wr).comp j3 (fun i hi _ hx=>hx (h0 i hi))) (fun _ _ h=>h)
theorem PlayI.gr{w wr w':World}{W k m:Nat}(h:PlayI w W k m wr)(hg:wr.grownBy w' none):PlayI w W k m w':=by
 obtain⟨T,aD,h1,h2,h3,h4⟩:=h;exact⟨T,aD,h1.gr (AW _) hg (fun _ _=>rfl),h2,Ab h3 hg,h4⟩
theorem PlayI.looks(h:PlayI w W k m wr):Calls Tryz.prog 34 #[.pointer (some ⟨W,0,none⟩)] wr fun e w'=>e=.returned (.bool true)/\PlayI w W k m w':=by
 have h0:=h;obtain⟨T,aD,⟨nv,uv,fv,mv,k0,k1,k2,lv,us,fs,ms,ls,i1,_⟩,_⟩:=h;refine(Gt T W nv uv fv mv k0 k1 k2 lv us fs ms ls wr i1.blk i1.nums i1.lent i1.facts i1.mats).mono ?_;rintro e w'⟨rfl,hg⟩;exact⟨rfl,h0.gr hg⟩
def Ln:List UInt8:=[112,58,40,49,32,120,32,121,41,40,50,32,121,41,59]
def Us:List Sv.Rule:=[⟨[112],[⟨false,1,[⟨1,120,0⟩,⟨1,121,0⟩]⟩,⟨false,2,[⟨1,121,0⟩]⟩]⟩]
theorem Sz:Bg Ln=.inr Us:=by rfl
theorem Q4s(w:World):PlayI w w.heap.size 0 0 (w.alloc (.cells #[.slice none 0 0,.slice none 0 0,.slice none 0 0,.slice none 0 0,.slice none 0 0,.slice none 0 0,.slice none 0 0,.slice none 0 0] 73)):=by
 have hg:=AA w (.cells #[.slice none 0 0,.slice none 0 0,.slice none 0 0,.slice none 0 0,.slice none 0 0,.slice none 0 0,.slice none 0 0,.slice none 0 0] 73) none;have hx:=AR w (.cells #[.slice none 0 0,.slice none 0 0,.slice none 0 0,.slice none 0 0,.slice none 0 0,.slice none 0 0,.slice none 0 0,.slice none 0 0] 73);refine⟨fun j=>if j=w.heap.size then 1 else 0,[],⟨.slice none 0 0,.slice none 0 0,.slice none 0 0,.slice none 0 0,.slice none 0 0,.slice none 0 0,.slice none 0 0,.slice none 0 0,[],[],[],[],⟨hx,by rw[AQ rfl],⟨⟨RowAt.nil 0 _ (fun _=>rfl),by simp[Value.ownBlock]⟩,TRow.nil _ _ _ _ At _,by simp⟩,⟨⟨RowAt.nil 0 _ (fun _=>rfl),by simp[Value.ownBlock]⟩,by simp⟩,⟨⟨RowAt.nil 0 _ (fun _=>rfl),by simp[Value.ownBlock]⟩,TRow.nil _ _ _ _ At _,by simp⟩,⟨⟨RowAt.nil 0 _ (fun _=>rfl),by simp[Value.ownBlock]⟩,TRow.nil _ _ _ _ At _,by simp⟩⟩,⟨TRow.nil _ _ _ _ La _,by simp⟩,by simp,by simp,by simp,by simp⟩,rfl,hg,fun j hj=>?_⟩;dsimp only;rw[AO (by omega)]
end Go.Proofs.YtolhbeekfjnfmaaGreatDoor

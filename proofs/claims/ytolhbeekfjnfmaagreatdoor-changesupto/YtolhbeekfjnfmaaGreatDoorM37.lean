import Derived.Test.YtolhbeekfjnfmaaGreatDoorMA
import Derived.Test.YtolhbeekfjnfmaaGreatDoorM13
import Derived.Test.YtolhbeekfjnfmaaGreatDoorM36
import Derived.Test.YtolhbeekfjnfmaaGreatDoorM23
import Derived.Deep.DeepCutAuto
import Derived.Test.YtolhbeekfjnfmaaGreatDoorM12
import Derived.Deep.RegionLaw
import Derived.Test.YtolhbeekfjnfmaaGreatDoorM06
import Derived.Test.YtolhbeekfjnfmaaGreatDoorM07
set_option maxHeartbeats 8000000
set_option maxRecDepth 100000
namespace Go.Proofs.YtolhbeekfjnfmaaGreatDoor
open Go.RowKit
variable {v nv uv fv mv k0 k1 k2 lv v':Value}{l:List Int}{w w' w5:World}{S:Nat->Prop}{T T' T2 T3:Nat->Nat}{W tx ty x y gb c2 fc k:Nat}{us fs ms:List (Value×Int)}{ls:List Value}{X:(Nat->Nat)->Nat->Nat->Sv.St->World->Prop}{s2 s:Sv.St}{f:Sv.Fact}{fa:Option Addr}{a b:Int×List Int}{F:List Ft}{a8:List Ch}{Zs:List (List Tok)}{aH:List Nt}{n:Nt}
def Je(X:(Nat->Nat)->Nat->Nat->Sv.St->World->Prop)(T:Nat->Nat)(W:Nat)(nv uv fv mv k0 k1 k2:Value)(us fs ms:List (Value×Int))(ls:List Value)(tx ty x y:Nat)(s:Sv.St)(w:World)(e:Ending)(w':World):Prop:=
 e=.returned (.bool true)/\∃T' fe PQ,Lists T' W nv uv fv mv k0 k1 k2 fe us fs ms PQ w'/\PQ.length=ls.length+1/\X T' tx x s w'/\YT T' ty y s w'/\
  GrS (fun k=>T k=1\/T k=9\/T k=tx\/T k=ty) w w'/\∀k,k<w.heap.size->T' k=T k
theorem InAt.grs(h:InAt v l w)(hg:GrS S w w')(hs:∀g,v.ownBlock=some g->¬ S g):InAt v l w':=by
 rcases h with h1|⟨a,cap,h1,h2,h3⟩
 ·exact .inl h1
 ·refine .inr ⟨a,cap,h1,h2,fun i x hx=>?_⟩
  obtain⟨g,off,e1,e2⟩:=h3 i x hx;refine⟨g,off,e1,?_⟩;have hb:v.ownBlock=some g:=by rw[h1,e1];rfl
  rw[EB (a:=⟨g,off+i,Option.none⟩) (hg.block g (CE w _ e2) (hs g hb))];exact e2
theorem InAt.grs'(h:InAt v l w)(hg:GrS S w w')(hs:l≠[]->∀g,v.ownBlock=some g->¬ S g):InAt v l w':=by
 by_cases hl:l=[]
 ·subst hl;exact h.none
 ·exact h.grs hg (hs hl)
theorem C2.grs{T:TypeId}{N:Nat}{x y:Value}(h:C2 T N x y w)(hg:GrS S w w')(hs:¬ S N):C2 T N x y w':=hg.blk h hs
theorem Q4a:XSpec XT where
 keep:=fun h hg hs ho=>h.keep hg hs ho
 add:=fun T t x s f fa fc w _ h _ hc hin hne=>Q4h T t x s f fa fc w h hc hin.inAt hin.le hne
 facts:=fun T t x s w _ h _=>Q1o T t x s w h
 mats:=fun T t x s w _ h _=>Q09 T t x s w h
theorem Lists.keepS(h:Lists T W nv uv fv mv k0 k1 k2 lv us fs ms ls w)(hg:GrS S w w')(hs:∀k,1<=T k->T k<=10->¬ S k)(ho:∀k,k<w.heap.size->1<=T k->T k<=10->T' k=T k):Lists T' W nv uv fv mv k0 k1 k2 lv us fs ms ls w':=
 ⟨h.blk.grs hg (hs W (by rw[h.own];omega) (by rw[h.own];omega)),by rw[ho W (Af h.blk) (by rw[h.own];omega) (by rw[h.own];omega)];exact h.own,
  h.nums.keep hg (fun k hk=>hs k (by omega) (by omega)) (fun k hk hk2=>ho k hk (by omega) (by omega)),h.lent.keep hg (fun k hk=>hs k (by omega) (by omega)) (fun k hk hk2=>ho k hk (by omega) (by omega)),
  h.facts.keep hg (fun k hk=>hs k (by omega) (by omega)) (fun k hk hk2=>ho k hk (by omega) (by omega)),h.mats.keep hg (fun k hk=>hs k (by omega) (by omega)) (fun k hk hk2=>ho k hk (by omega) (by omega))⟩
structure AddMid(X:(Nat->Nat)->Nat->Nat->Sv.St->World->Prop)(T T3:Nat->Nat)(W:Nat)(nv uv fv mv k0 k1 k2 lv:Value)(us fs ms:List (Value×Int))(ls:List Value)(tx ty x y gb c2:Nat)(s2:Sv.St)(f:Sv.Fact)(fa:Option Addr)(fc:Nat)(w w5:World):Prop where
 lists:Lists T3 W nv uv fv mv k0 k1 k2 lv us fs ms ls w5
 nx:X T3 tx x s2 w5
 ny:YT T3 ty y s2 w5
 row:IsAt (w.heap.size+2) (.slice (some ⟨gb,0,none⟩) (f.vals.length+8) c2) (f.vals++List.replicate 8 (-77)) w5
 fin:InAt (.slice fa f.vals.length fc) f.vals w5
 fb:C2 37 (w.heap.size+1) (.int .i64 f.kind) (.slice fa f.vals.length fc) w5
 ge:w.heap.size+2<=gb
 tg:T3 gb=13
 gr:GrS (fun k=>T k=tx\/T k=ty) w w5
 old:∀k,k<w.heap.size->T3 k=T k
theorem AddMid.one(hX:XSpec X){T1:Nat->Nat}{wr wx:World}
 (xR:Lists T W nv uv fv mv k0 k1 k2 lv us fs ms ls w)(xz:11<=tx)(iz:11<=ty)(pq:tx≠ty)(kV:¬ InH tx)(oY:¬ InH ty)(hg:w.grownBy wr none)(jJ:∀k,k<w.heap.size->T1 k=T k)(rH:T1 gb=13)(tA:∀k,w.heap.size<=k->k≠gb->T1 k=0)(hgb:w.heap.size+2<=gb/\gb<wr.heap.size)
 (hv:IsAt (w.heap.size+2) (.slice (some ⟨gb,0,none⟩) (f.vals.length+8) c2) (f.vals++List.replicate 8 (-77)) wr)(hf:InAt (.slice fa f.vals.length fc) f.vals w)(hf0:f.vals≠[]->∀g,(Value.slice fa f.vals.length fc).ownBlock=some g->g<w.heap.size/\T g=0)(hF:C2 37 (w.heap.size+1) (.int .i64 f.kind) (.slice fa f.vals.length fc) wr)
 (gY:GrS (fun k=>T1 k=tx) wr wx)(QW:X T2 tx x s2 wx)(jI:∀k,k<wr.heap.size->T2 k=T1 k)(cP:GrS (fun k=>T2 k=ty) wx w5)(nQ:YT T3 ty y s2 w5)(iB:∀k,k<wx.heap.size->T3 k=T2 k) :
  AddMid X T T3 W nv uv fv mv k0 k1 k2 lv us fs ms ls tx ty x y gb c2 s2 f fa fc w w5:=by
 have NS:(13:Nat)≠tx:=fun e=>kV ⟨by omega,by omega⟩
 have WT:(13:Nat)≠ty:=fun e=>oY ⟨by omega,by omega⟩
 have hs0:=hg.size;have oA:=gY.size;have hs5:=cP.size;have ho:∀k,k<w.heap.size->T3 k=T k:=fun k hk=>by rw[iB k (by omega),jI k (by omega),jJ k hk]
 have ak:GrS (fun _=>False) w wr:=GrS.of hg (by simp);have MF:w.heap.size+1<wr.heap.size:=Af hF;have hb1:T1 (w.heap.size+1)=0:=tA _ (by omega) (by omega);have hb2:T2 (w.heap.size+1)=0:=by rw[jI _ MF,hb1]
 have UL:T2 gb=13:=by rw[jI gb hgb.2,rH]
 refine⟨?_,hX.keep QW cP (fun k hk e=>by rcases hk with hk|hk<;>omega) (fun k hk _=>iB k hk),nQ,?_,?_,?_,hgb.1,by rw[iB gb (by omega),UL],?_,ho⟩
 ·refine((xR.keepS (T':=T1) ak (by simp) (fun k hk _ _=>jJ k hk)).keepS (T':=T2) gY (fun k h1 h2 e=>by omega) (fun k hk _ _=>jI k hk)).keepS cP (fun k h1 h2 e=>by omega) (fun k hk _ _=>iB k hk)
 ·have h1:RowAt 3 1 C4 (w.heap.size+2) (.slice (some ⟨gb,0,none⟩) (f.vals.length+8) c2) (f.vals++List.replicate 8 (-77)) wx:=gY.row hv (fun g bJ e=>by
   have e':gb=g:=by simpa[Value.ownBlock] using bJ
   subst e';omega)
  exact cP.row h1 (fun g bJ e=>by
   have e':gb=g:=by simpa[Value.ownBlock] using bJ
   subst e';omega)
 ·refine((hf.gr hg).grs' gY (fun hne g bJ e=>?_)).grs' cP (fun hne g bJ e=>?_)
  ·obtain⟨k1,k2⟩:=hf0 hne g bJ;rw[jJ g k1,k2] at e;omega
  ·obtain⟨k1,k2⟩:=hf0 hne g bJ;rw[jI g (by omega),jJ g k1,k2] at e;omega
 ·exact(hF.grs gY (by rw[hb1];omega)).grs cP (by rw[hb2];omega)
 ·refine((ak.mono (S':=fun k=>T k=tx\/T k=ty) (by simp)).comp gY (fun i hi hn=>?_)).comp cP (fun i hi hn=>?_)
  ·rw[jJ i hi];exact fun e=>hn (.inl e)
  ·rw[jI i (by omega),jJ i hi];exact fun e=>hn (.inr e)
theorem Tryz.infosInt:(Tryz.prog.info? 35).map (fun i=>(i.zero,i.size,i.bytes))=some (some (.slice none 0 0),1,24):=by kernel_rfl
theorem AddMid.done(hX:XSpec X){n m:Nat}{w6 w7 w8:World}
 (h:AddMid X T T3 W nv uv fv mv k0 k1 k2 lv us fs ms ls tx ty x y gb c2 s2 f fa fc w w5)(xz:11<=tx)(iz:11<=ty)(kV:¬ InH tx)(oY:¬ InH ty)(dE:w5.grownBy w6 (some gb))(jP:IsAt (w.heap.size+2) (.slice (some ⟨gb,0,none⟩) (f.vals.length+8) c2) (List.replicate (f.vals.length+8) (-99)) w6)(dm:w6.grownBy w7 none)
 (hl:Longer lv v' n m w7 w8)(ZL:RowAt 35 1 (fun v:Value=>[v]) 0 v' (ls++[.slice (some ⟨gb,0,none⟩) (f.vals.length+8) c2]) w8) :
  (w8.cell? ⟨W,7,none⟩=some lv/\w8.frozen? ⟨W,7,none⟩=false)/\Je X T W nv uv fv mv k0 k1 k2 us fs ms ls tx ty x y s2 w (.returned (.bool true)) (w8.setCell ⟨W,7,none⟩ v'):=by
 have NS:(13:Nat)≠tx:=fun e=>kV ⟨by omega,by omega⟩
 have WT:(13:Nat)≠ty:=fun e=>oY ⟨by omega,by omega⟩
 have hL:=h.lists
 have jT:gb<w5.heap.size:=by
  have hrow:=(h.row.own gb rfl).2;exact hrow
 have VQ:=Af hL.blk;have hW1:=hL.own;have vu:=h.tg;have hge:=h.ge;have QA:=dE.size;have TF:=dm.size;have hlv:∀b,lv.ownBlock=some b->T3 b=9/\b<w5.heap.size:=fun b hb=>⟨hL.lent.1.2 b hb,(hL.lent.1.1.own b hb).2⟩
 have aW:=Aj w8 W 7 v';have hs8:w7.heap.size<=w8.heap.size:=(hl.gr (S:=fun i=>lv.ownBlock=some i) (fun b hb=>hb)).size;have xH:lv.ownBlock≠some W:=fun e=>by have:=(hlv W e).1;omega
 have hWg:W≠gb:=fun e=>by rw[e] at hW1;omega
 have hG:GrS (fun k=>k=gb\/lv.ownBlock=some k\/k=W) w5 (w8.setCell ⟨W,7,none⟩ v'):=by
  refine((((GrS.of dE (fun g hg=>by cases hg;exact .inl rfl):GrS (fun k=>k=gb\/lv.ownBlock=some k\/k=W) w5 w6).then dm (by simp)).trans (hl.gr (fun b hb=>.inr (.inl hb)))).then aW (fun g hg=>?_));simp at hg;exact .inr (.inr (.inr hg.symm))
 obtain⟨T',bX⟩:∃T':Nat->Nat,T'=fun k=>if k=gb then 10 else if k<w7.heap.size then T3 k else 9:=⟨_,rfl⟩
 have t0:T' gb=10:=by rw[bX];dsimp only;rw[AQ rfl]
 have t1:∀k,k≠gb->k<w7.heap.size->T' k=T3 k:=fun k h1 h2=>by rw[bX];dsimp only;rw[AO h1,AQ h2]
 have t2:∀k,w7.heap.size<=k->T' k=9:=fun k h1=>by rw[bX];dsimp only;rw[AO (by omega),AO (by omega)]
 have tk:∀k,k<w5.heap.size->T3 k≠13->T' k=T3 k:=fun k h1 h2=>t1 k (fun e=>h2 (by rw[e];exact vu)) (by omega)
 have hno:∀k,T3 k≠13->T3 k≠9->T3 k≠1->¬ (k=gb\/lv.ownBlock=some k\/k=W):=by
  rintro k h1 h2 h3 (e|e|e)
  ·exact h1 (by rw[e];exact vu)
  ·exact h2 (hlv k e).1
  ·exact h3 (by rw[e];exact hW1)
 have VR:WBlk W #[nv,uv,fv,mv,k0,k1,k2,lv] w8:=hl.block ((hL.blk.gr dE (fun e=>hWg (by cases e;rfl))).gr dm (by simp)) xH
 have hv':∀b,v'.ownBlock=some b->T' b=9/\b≠W/\b≠gb:=fun b hb=>by
  rcases hl.own b hb with e|e
  ·obtain⟨k1,k2⟩:=hlv b e
   exact⟨by rw[tk b k2 (by omega),k1],fun e'=>by rw[e'] at k1;omega,fun e'=>by rw[e'] at k1;omega⟩
  ·exact⟨t2 b e,by omega,by omega⟩
 refine⟨⟨by rw[VR.cell 7];rfl,VR.fz 7⟩,rfl,T',v',ls++[.slice (some ⟨gb,0,none⟩) (f.vals.length+8) c2],⟨VR.set 7 v',by rw[tk W VQ (by omega)];exact hW1,?_,⟨⟨ZL.other aW (fun g hg e=>by have:=(hv' g hg).2.1;simp at e;omega),fun g hg=>(hv' g hg).1⟩,fun z hz=>?_⟩,?_,?_⟩,by simp,?_,?_,?_,?_⟩
 ·exact hL.nums.keep hG (fun k hk=>hno k (by omega) (by omega) (by omega)) (fun k hk hk2=>tk k hk (by omega))
 ·rcases AY.1 hz with hz|hz
  ·obtain⟨nn,hz2⟩:=hL.lent.2 z hz
   exact⟨nn,hz2.keep2 hG (fun k hk=>hno k (by omega) (by omega) (by omega)) (fun k hk hk2=>by rw[tk k hk (by omega)];exact hk2)⟩
  ·rw[AX] at hz
   subst hz;refine⟨f.vals.length+8,?_,fun g hg=>?_⟩
   ·have h7:=(jP.gr dm).weak (base':=0) (AG _)
    have h8:RowAt 3 1 C4 0 (.slice (some ⟨gb,0,none⟩) (f.vals.length+8) c2) (List.replicate (f.vals.length+8) (-99)) w8:=(hl.gr (S:=fun i=>lv.ownBlock=some i) (fun b hb=>hb)).row h7 (fun g hg e=>by
     have e':gb=g:=by simpa[Value.ownBlock] using hg
     subst e';have:=(hlv gb e).1;omega)
    exact h8.other aW (fun g hg e=>by
     have e':gb=g:=by simpa[Value.ownBlock] using hg
     subst e';simp at e;exact hWg e)
   ·have e':gb=g:=by simpa[Value.ownBlock] using hg
    subst e';exact t0
 ·exact hL.facts.keep hG (fun k hk=>hno k (by omega) (by omega) (by omega)) (fun k hk hk2=>tk k hk (by omega))
 ·exact hL.mats.keep hG (fun k hk=>hno k (by omega) (by omega) (by omega)) (fun k hk hk2=>tk k hk (by omega))
 ·exact hX.keep h.nx hG (fun k hk=>hno k (by omega) (by omega) (by omega)) (fun k hk hk2=>tk k hk (by omega))
 ·exact h.ny.keep hG (fun k hk=>hno k (by omega) (by omega) (by omega)) (fun k hk hk2=>tk k hk (by omega))
 ·refine(h.gr.mono (S':=fun k=>T k=1\/T k=9\/T k=tx\/T k=ty) (fun k hk=>.inr (.inr hk))).comp hG (fun i hi hn hx=>?_)
  have hi3:=h.old i hi;rcases hx with e|e|e
  ·omega
  ·exact hn (.inr (.inl (by rw[<-hi3];exact(hlv i e).1)))
  ·subst e;exact hn (.inl (by rw[<-hi3];exact hW1))
 ·intro k hk
  rw[t1 k (by omega) (by have:=h.gr.size;omega)];exact h.old k hk
end Go.Proofs.YtolhbeekfjnfmaaGreatDoor
namespace Go.Proofs.YtolhbeekfjnfmaaGreatDoor
variable {v nv uv fv mv k0 k1 k2 lv v':Value}{l:List Int}{w w' w5:World}{S:Nat->Prop}{T T' T2 T3:Nat->Nat}{W tx ty x y gb c2 fc k:Nat}{us fs ms:List (Value×Int)}{ls:List Value}{X:(Nat->Nat)->Nat->Nat->Sv.St->World->Prop}{s2 s:Sv.St}{f:Sv.Fact}{fa:Option Addr}{a b:Int×List Int}{F:List Ft}{a8:List Ch}{Zs:List (List Tok)}{aH:List Nt}{n:Nt}
def Rs(ids:List Int):List Int:=ids++List.replicate (4-ids.length) 0
def Fz(ids:List Int):List Int:=(Pg (Rs ids)).reverse
theorem Tok.nums_pad(t:Tok):t.nums=Rs t.ids:=by unfold Tok.nums Rs Tok.ids;rw[BA]
theorem Tok.age_ids(t:Tok):t.age=Fz t.ids:=by unfold Tok.age Fz;rw[Tok.nums_pad]
def Bc(a b:Int×List Int):Bool:=decide (0<cmpL (Fz a.2) (Fz b.2))
def Cq(b:Option (Int×List Int))(m:Int×List Int):Option (Int×List Int):=
 match b with
 | none=>some m
 | some k=>if Bc m k=true then some m else some k
def Bw(b:Option (Int×List Int))(l:List (Int×List Int)):Option (Int×List Int):=l.foldl Cq b
theorem G8(b:Option (Int×List Int))(l k:List (Int×List Int)):Bw b (l++k)=Bw (Bw b l) k:=List.foldl_append
theorem Dx:Bc a b=false↔cmpL (Fz a.2) (Fz b.2)<=0:=by unfold Bc;simp
theorem Gb:Bc a b=true↔0<cmpL (Fz a.2) (Fz b.2):=by unfold Bc;simp
theorem He{c:Int×List Int}(h1:Bc a b=false)(h2:Bc b c=false):Bc a c=false:=by
 rw[Dx] at *;exact Ek _ _ _ h1 h2
theorem E5(k:Int×List Int):∀(l:List (Int×List Int)),(∀x∈l,Bc x k=false)->Bw (some k) l=some k
 | [],_=>rfl
 | x::l,h=>by
  have e:Bw (some k) (x::l)=Bw (Cq (some k) x) l:=rfl;rw[e];unfold Cq;simp only;rw[h x (BF ..),AO (by simp)];exact E5 k l (fun y hy=>h y (BG _ hy))
theorem D6(k:Int×List Int):∀(l:List (Int×List Int)),∃k',Bw (some k) l=some k'/\(k'=k\/k'∈l)/\Bc k k'=false
 | []=>⟨k,rfl,.inl rfl,by rw[Dx,C1];exact FU _⟩
 | x::l=>by
  have e:Bw (some k) (x::l)=Bw (Cq (some k) x) l:=rfl;rw[e];unfold Cq;simp only;cases hx:Bc x k
  ·rw[AO (by simp)]
   obtain⟨k',h1,h2,h3⟩:=D6 k l;exact⟨k',h1,by rcases h2 with h|h;exact .inl h;exact .inr (BG _ h),h3⟩
  ·rw[AQ rfl]
   obtain⟨k',h1,h2,h3⟩:=D6 x l;refine⟨k',h1,.inr ?_,?_⟩
   ·rcases h2 with h|h
    ·rw[h];exact BF ..
    ·exact BG _ h
   ·have hk:Bc k x=false:=by
     rw[Dx];rw[Gb] at hx;rw[Bz];omega
    exact He hk h3
theorem Nm(m:Int×List Int)(l1 l2:List (Int×List Int))(h1:∀x∈l1,Bc m x=true)(h2:∀x∈l2,Bc x m=false)(b:Option (Int×List Int)):Bw b (l1++m::l2)=Cq b m:=by
 rw[G8];have e:∀b,Bw b (m::l2)=Bw (Cq b m) l2:=fun _=>rfl
 rw[e];have hm:Bw (some m) l2=some m:=E5 m l2 h2;cases b with
 | none=>
  cases l1 with
  | nil=>exact hm
  | cons x l1=>
   have e2:Bw none (x::l1)=Bw (some x) l1:=rfl;rw[e2];obtain⟨k',k1,k2,_⟩:=D6 x l1
   have:Bc m k'=true:=by
    rcases k2 with rfl|h
    ·exact h1 _ (BF ..)
    ·exact h1 _ (BG _ h)
   rw[k1];unfold Cq;simp only;rw[this,AQ rfl];exact hm
 | some k=>
  cases hmk:Bc m k
  ·have ea:∀x∈l1,Bc x k=false:=fun x hx=>by
    cases YZ:Bc x k
    ·rfl
    ·have hxm:Bc x m=false:=by
      have:=h1 x hx;rw[Gb] at this;rw[Dx,Bz];omega
     rw[He hxm hmk] at YZ;cases YZ
   rw[E5 k l1 ea];unfold Cq;simp only;rw[hmk,AO (by simp)];exact E5 k l2 (fun x hx=>He (h2 x hx) hmk)
  ·obtain⟨k',k1,k2,k3⟩:=D6 k l1
   have:Bc m k'=true:=by
    rcases k2 with rfl|h
    ·exact hmk
    ·exact h1 _ h
   rw[k1];unfold Cq;simp only;rw[this,hmk,AQ rfl,AQ rfl];exact hm
def Eg(L:List (Int×Sv.Fact))(fired:List (Int×List Int))(i:Nat)(cs:List Sv.Cond):List (Int×List Int):=((Ar L cs [] []).map (fun ids=>((i:Int),ids))).filter (fun m=>!Dz fired m)
def Fp(s:Sv.St):List (Int×List Int):=(Am s.rs s.L).filter (fun m=>!Dz s.fired m)
theorem G5(l:List (Int×List Int))(m:Int×List Int):Dz l m=true↔m∈l:=by
 unfold Dz;rw[ED];constructor
 ·rintro⟨k,h1,h2⟩
  rw[DJ] at h2;rw[<-h2];exact h1
 ·exact fun h=>⟨m,h,by rw[DJ]⟩
def Gs(L:List (Int×Sv.Fact))(fired:List (Int×List Int)):Nat->List Sv.Rule->List (Int×List Int)
 | _,[]=>[]
 | i,q::rs=>Eg L fired i q.conds++Gs L fired (i+1) rs
theorem K2(L:List (Int×Sv.Fact))(fired:List (Int×List Int)):∀(rs:List Sv.Rule) (i:Nat),Gs L fired i rs=(Bo L i rs).filter (fun m=>!Dz fired m)
 | [],_=>rfl
 | q::rs,i=>by
  unfold Gs Bo;rw[DK,K2 L fired rs (i+1)];rfl
theorem Qs(s:Sv.St):Fp s=Gs s.L s.fired 0 s.rs:=by
 rw[K2];rfl
theorem ChSt.next{F:List Ft}{cs:List Sv.Cond}{c:Ch}{Z:List Tok}(h:ChSt F cs c Z)(hF:FtAsc F)(iQ:∀t∈c.e.toks,t.length=c.jn){fired:List (Int×List Int)}{i:Nat}(hf:∀t∈c.e.toks,((i:Int),t.ids)∈fired↔t∈Z)(b:Option (Int×List Int)) :
  Bw b (Eg (F.map (fun g=>(g.id,g.f))) fired i cs)=match c.e.wait[0]? with
   | none=>b
   | some t=>Cq b ((i:Int),t.ids):=by
 have hp:=h.ok.perm h.terms;have uI:=h.fd.nodup_iff.1 (h.ok.nodup h.terms hF)
 have q9:(Eg (F.map (fun g=>(g.id,g.f))) fired i cs).Pairwise (fun a b=>Fw a.2 b.2):=by
  unfold Eg;refine List.Pairwise.filter _ ?_;rw[GN];exact C6 _ hF.fst cs [] []
 have hmem:∀m,m∈Eg (F.map (fun g=>(g.id,g.f))) fired i cs↔∃t∈c.e.wait,m=((i:Int),t.ids):=by
  intro m;unfold Eg;rw[BH,CL,EW,<-FI,G5];constructor
  ·rintro⟨⟨ids,h1,rfl⟩,h2⟩
   obtain⟨t,ht,rfl⟩:=CL.1 (hp.mem_iff.2 h1);refine⟨t,?_,rfl⟩;rcases AY.1 (h.fd.mem_iff.1 ht) with hw|hz
   ·exact hw
   ·exact absurd ((hf t ht).2 hz) h2
  ·rintro⟨t,ht,rfl⟩
   have pq:=h.fd.mem_iff.2 (AY.2 (.inl ht));refine⟨⟨t.ids,hp.mem_iff.1 (CL.2 ⟨t,pq,rfl⟩),rfl⟩,fun hx=>?_⟩;exact(JS.1 uI).2.2 t ht t ((hf t pq).1 hx) rfl
 cases hw:c.e.wait[0]? with
 | none=>
  have he:c.e.wait=[]:=by
   cases hl:c.e.wait with
   | nil=>rfl
   | cons a l=>rw[hl] at hw;simp at hw
  have:Eg (F.map (fun g=>(g.id,g.f))) fired i cs=[]:=by
   cases hl:Eg (F.map (fun g=>(g.id,g.f))) fired i cs with
   | nil=>rfl
   | cons a l=>
    obtain⟨t,ht,_⟩:=(hmem a).1 (by rw[hl];exact BF ..);rw[he] at ht;simp at ht
  rw[this];rfl
 | some t=>
  have ht:t∈c.e.wait:=AV hw
  have qi:∀u∈c.e.wait,Tok.less u t=false:=fun u hu=>by
   obtain⟨j,hj⟩:=FC hu;exact Hp.first Tok.less_ord Tok.less_self h.ok.heap hw j u hj
  obtain⟨l1,l2,e⟩:=List.append_of_mem ((hmem ((i:Int),t.ids)).2 ⟨t,ht,rfl⟩);show Bw b (Eg (F.map (fun g=>(g.id,g.f))) fired i cs)=Cq b ((i:Int),t.ids)
  have hle:∀u∈c.e.wait,Bc ((i:Int),u.ids) ((i:Int),t.ids)=false:=fun u hu=>by
   rw[Dx,<-Tok.age_ids,<-Tok.age_ids];have h1:=qi u hu;by_cases h2:0<cmpL u.age t.age
   ·rw[(Tok.less_iff u t).2 (.inl h2)] at h1
    cases h1
   ·omega
  rw[e] at q9⊢;rw[FT,DY] at q9;refine Nm _ l1 l2 (fun x hx=>?_) (fun x hx=>?_) b
  ·obtain⟨u,hu,rfl⟩:=(hmem x).1 (by rw[e];exact AY.2 (.inl hx))
   have hlt:=q9.2.2 _ hx _ (BF ..);have h1:=qi u hu;rw[Gb,<-Tok.age_ids,<-Tok.age_ids];have h2:=hle u hu;rw[Dx,<-Tok.age_ids,<-Tok.age_ids] at h2;by_cases h3:cmpL u.age t.age=0
   ·exfalso
    have h4:=K4 _ _ h3
    have h5:cmpL u.nums t.nums<0:=by
     have:=Ho _ _ hlt;unfold Tok.nums;rw[iQ u (h.fd.mem_iff.2 (AY.2 (.inl hu))),iQ t (h.fd.mem_iff.2 (AY.2 (.inl ht))),N0 _ _ _ (by simp[iQ u (h.fd.mem_iff.2 (AY.2 (.inl hu))),iQ t (h.fd.mem_iff.2 (AY.2 (.inl ht)))])];exact this
    rw[(Tok.less_iff u t).2 (.inr ⟨h4,h5⟩)] at h1;cases h1
   ·rw[Bz]
    omega
  ·obtain⟨u,hu,rfl⟩:=(hmem x).1 (by rw[e];exact AY.2 (.inr (BG _ hx)))
   exact hle u hu
def Nz(b:Option (Nat×Tok))(i:Nat)(c:Ch):Option (Nat×Tok):=
 match c.e.wait[0]? with
 | none=>b
 | some t=>match b with
  | none=>some (i,t)
  | some (k,u)=>if 0<cmpL t.age u.age then some (i,t) else some (k,u)
def Ep:Option (Nat×Tok)->Nat->List Ch->Option (Nat×Tok)
 | b,_,[]=>b
 | b,i,c::a8=>Ep (Nz b i c) (i+1) a8
theorem Oo:∀(a8 ds:List Ch) (b:Option (Nat×Tok)) (i:Nat),Ep b i (a8++ds)=Ep (Ep b i a8) (i+a8.length) ds
 | [],_,_,_=>rfl
 | c::a8,ds,b,i=>by
  have:=Oo a8 ds (Nz b i c) (i+1);show Ep (Nz b i c) (i+1) (a8++ds)=_
  rw[this,AP,show i+1+a8.length=i+(a8.length+1) by omega];rfl
def Nx(p:Nat×Tok):Int×List Int:=((p.1:Int),p.2.ids)
theorem L7{F:List Ft}(hF:FtAsc F){fired:List (Int×List Int)}:∀ {rs:List Sv.Rule} {a8:List Ch} {Zs:List (List Tok)} (i:Nat) (b:Option (Nat×Tok)),ChsSt F rs a8 Zs->(∀(j:Nat) (c:Ch) (Z:List Tok),a8[j]?=some c->Zs[j]?=some Z->∀t∈c.e.toks,(((i+j:Nat):Int),t.ids)∈fired↔t∈Z)->
  (Ep b i a8).map Nx=Bw (b.map Nx) (Gs (F.map (fun g=>(g.id,g.f))) fired i rs)
 | [],[],[],i,b,_,_=>rfl
 | r::rs,c::a8,Z::Zs,i,b,h,hf=>by
  have h1:=h.1.next hF (h.1.ok.jlen h.1.few) (fired:=fired) (i:=i) (hf 0 c Z rfl rfl) (b.map Nx);have h2:=L7 hF (i+1) (Nz b i c) h.2 (fired:=fired) (fun j d Y hd hY t ht=>by rw[show i+1+j=i+(j+1) by omega];exact hf (j+1) d Y hd hY t ht);unfold Gs;rw[G8,h1];show (Ep (Nz b i c) (i+1) a8).map Nx=_
  rw[h2];congr 1
  unfold Nz;cases c.e.wait[0]? with
  | none=>rfl
  | some t=>
   cases b with
   | none=>rfl
   | some p=>
    obtain⟨k,u⟩:=p;simp only[DZ];unfold Cq;simp only;have e:Bc ((i:Int),t.ids) (Nx (k,u))=decide (0<cmpL t.age u.age):=by unfold Bc Nx;rw[<-Tok.age_ids,<-Tok.age_ids]
    rw[e];by_cases hd:0<cmpL t.age u.age
    ·rw[AQ hd,ID hd,AQ rfl];rfl
    ·rw[AO hd,IY hd,AO (by simp)];rfl
 | [],[],_::_,_,_,h,_=>h.elim
 | [],_::_,[],_,_,h,_=>h.elim
 | [],_::_,_::_,_,_,h,_=>h.elim
 | _::_,[],[],_,_,h,_=>h.elim
 | _::_,[],_::_,_,_,h,_=>h.elim
 | _::_,_::_,[],_,_,h,_=>h.elim
theorem FtAsc.tok(h:FtAsc F){rs:List Sv.Rule}(hc:ChsSt F rs a8 Zs){fired:List (Int×List Int)}(hf:∀m,m∈fired↔∃(i:Nat) (Z:List Tok) (t:Tok),Zs[i]?=some Z/\t∈Z/\m=((i:Int),t.ids))(j:Nat)(c:Ch)(Z:List Tok)(h1:a8[j]?=some c)(h2:Zs[j]?=some Z)(t:Tok)(ht:t∈c.e.toks):((j:Int),t.ids)∈fired↔t∈Z:=by
 rw[hf];constructor
 ·rintro⟨i,Z',u,k1,k2,k3⟩
  simp only[CH] at k3;obtain⟨k3,k4⟩:=k3;have mG:j=i:=by omega
  subst mG;rw[h2] at k1;simp only[AE] at k1;subst k1;have hj:j<rs.length:=by have:=(AL.1 h1).1;rw[hc.len.1] at this;exact this
  obtain⟨c2,Z2,p1,p2,p3⟩:=hc.get (AB hj);rw[h1] at p1;rw[h2] at p2;simp only[AE] at p1 p2;subst p1;subst p2;rw[h.ids (p3.ok.inF t ht) (p3.ok.inF u (p3.fd.mem_iff.2 (AY.2 (.inr k2)))) k4];exact k2
 ·exact fun hz=>⟨j,Z,t,h2,hz,rfl⟩
theorem XSt.next(h:XSt s F a8 Zs):(Ep none 0 a8).map Nx=Bw none (Fp s):=by
 rw[Qs,<-h.facts];exact L7 h.asc 0 none h.rules (fun j c Z h1 h2 t ht=>by rw[BV];exact h.asc.tok h.rules h.fired j c Z h1 h2 t ht)
theorem Inv.wait{e e':En}(he:e'.toks=e.toks):∀ {B:List Tok} {ns:List Nd},Inv B ns e->Inv B ns e'
 | B,[],h=>by show e'.toks.Perm B;rw[he];exact h
 | B,n::ns,h=>⟨h.1,Inv.wait he h.2⟩
def Hl(c:Ch):Ch:=⟨c.jn,c.ns,⟨c.e.toks,(Hp.popL Tok.less c.e.wait).take (c.e.wait.length-1)⟩⟩
theorem ChSt.fire{cs:List Sv.Cond}{c:Ch}{Z:List Tok}(h:ChSt F cs c Z){t:Tok}(ht:c.e.wait[0]?=some t):ChSt F cs (Hl c) (Z++[t]):=by
 obtain⟨_,_,h3,h4⟩:=Hp.pop_ok Tok.less_ord h.ok.heap ht;refine⟨⟨h.ok.jn,h.ok.good,Inv.wait (e:=c.e) (e':=(Hl c).e) rfl h.ok.inv,h3⟩,?_,h.few,h.terms⟩;show c.e.toks.Perm _
 refine h.fd.trans ((h4.append_right Z).trans ?_);rw[CP,<-BQ];exact(List.perm_append_singleton t _).symm
theorem ChsSt.set{F:List Ft}:∀ {rs:List Sv.Rule} {a8:List Ch} {Zs:List (List Tok)} {i:Nat} {r:Sv.Rule} {c':Ch} {Z':List Tok},ChsSt F rs a8 Zs->rs[i]?=some r->ChSt F r.conds c' Z'->ChsSt F rs (a8.set i c') (Zs.set i Z')
 | [],_,_,_,_,_,_,_,h,_=>by simp at h
 | r::rs,c::a8,Z::Zs,0,q,_,_,h,hi,hc=>by
  simp only[BS,AE] at hi;subst hi;exact⟨hc,h.2⟩
 | r::rs,c::a8,Z::Zs,i+1,q,_,_,h,hi,hc=>by
  rw[BU] at hi;exact⟨h.1,ChsSt.set h.2 hi hc⟩
 | _::_,[],[],_,_,_,_,h,_,_=>h.elim
 | _::_,[],_::_,_,_,_,_,h,_,_=>h.elim
 | _::_,_::_,[],_,_,_,_,h,_,_=>h.elim
theorem XSt.fire{s:Sv.St}{F:List Ft}{a8:List Ch}{Zs:List (List Tok)}(h:XSt s F a8 Zs){i:Nat}{c:Ch}{t:Tok}(hc:a8[i]?=some c)(ht:c.e.wait[0]?=some t) :
  ∃fG,XSt ⟨s.rs,s.L,s.cnt,s.fired++[((i:Int),t.ids)]⟩ F (a8.set i (Hl c)) fG:=by
 have hi:i<s.rs.length:=by have:=(AL.1 hc).1;rw[h.rules.len.1] at this;exact this
 obtain⟨c2,Z,p1,p2,p3⟩:=h.rules.get (AB hi);rw[hc] at p1;simp only[AE] at p1;subst p1;have VL:i<Zs.length:=by rw[h.rules.len.2];exact hi
 refine⟨Zs.set i (Z++[t]),h.facts,h.asc,h.cnt,h.c0,h.few,h.rules.set (AB hi) (p3.fire ht),h.eight,fun m=>?_⟩;show m∈s.fired++[((i:Int),t.ids)]↔_
 rw[AY,h.fired m,AX];constructor
 ·rintro(⟨j,Z',u,k1,k2,rfl⟩|rfl)
  ·by_cases mG:i=j
   ·subst mG
    rw[p2] at k1;simp only[AE] at k1;subst k1;exact⟨i,Z++[t],u,by rw[EF VL],AY.2 (.inl k2),rfl⟩
   ·exact⟨j,Z',u,by rw[EY mG];exact k1,k2,rfl⟩
  ·exact⟨i,Z++[t],t,by rw[EF VL],AY.2 (.inr (AX.2 rfl)),rfl⟩
 ·rintro⟨j,Z',u,k1,k2,rfl⟩
  by_cases mG:i=j
  ·subst mG
   rw[EF VL] at k1;simp only[AE] at k1;subst k1;rcases AY.1 k2 with k|k
   ·exact .inl ⟨i,Z,u,p2,k,rfl⟩
   ·rw[AX] at k
    subst k;exact .inr rfl
  ·rw[EY mG] at k1
   exact .inl ⟨j,Z',u,k1,k2,rfl⟩
def Sv.St.del(s:Sv.St)(id:Int):Int×Sv.St:=
 if s.L.any (fun p=>p.1==id) then (0,⟨s.rs,s.L.filter (fun p=>!(p.1==id)),s.cnt,Bp (Am s.rs (s.L.filter (fun p=>!(p.1==id)))) s.fired⟩) else (5,s)
def Sv.St.fire(s:Sv.St):((Int×List Int)×Int)×Sv.St:=
 match Bw none (Fp s) with
 | none=>(((0,[]),5),s)
 | some m=>((m,0),⟨s.rs,s.L,s.cnt,s.fired++[m]⟩)
theorem Kb:∀(l:List (Int×List Int)) (k:Int×List Int),Bw none l=some k->k∈l
 | [],k,h=>by cases h
 | x::l,k,h=>by
  have e:Bw none (x::l)=Bw (some x) l:=rfl;rw[e] at h;obtain⟨k',h1,h2,_⟩:=D6 x l;rw[h1] at h;cases h
  rcases h2 with rfl|h2
  ·exact BF ..
  ·exact BG _ h2
theorem I6(s:Sv.St)(m:Int×List Int):m∈Fp s↔m∈Am s.rs s.L/\m ∉ s.fired:=by
 unfold Fp;rw[BH,EW,<-FI,G5]
theorem Ga(L:List (Int×Sv.Fact)):∀(cs:List Sv.Cond) (b:Sv.Bs) (ids:List Int) (m:List Int),m∈Ar L cs b ids->∀x∈m,x∈ids\/∃p∈L,p.1=x
 | [],b,ids,m,h,x,hx=>by
  unfold Ar at h;rw[AX] at h;subst h;exact .inl hx
 | c::cs,b,ids,m,h,x,hx=>by
  unfold Ar at h;split at h
  ·split at h
   ·simp at h
   ·exact Ga L cs b ids m h x hx
  ·obtain⟨p,hp,hm⟩:=CU.1 h
   cases hb:Ay p.2 c b with
   | none=>rw[hb] at hm;simp at hm
   | some b'=>
    rw[hb] at hm;rcases Ga L cs b' (ids++[p.1]) m hm x hx with h1|h1
    ·rcases AY.1 h1 with h2|h2
     ·exact .inl h2
     ·rw[AX] at h2
      exact .inr ⟨p,hp,h2.symm⟩
    ·exact .inr h1
theorem Ln(rs:List Sv.Rule)(L:List (Int×Sv.Fact))(m:Int×List Int)(h:m∈Am rs L):∀x∈m.2,∃p∈L,p.1=x:=by
 obtain⟨i,r,_,_,h3⟩:=(D5 L m rs).1 h;intro x hx;rcases Ga L r.conds [] [] m.2 h3 x hx with h1|h1
 ·simp at h1
 ·exact h1
theorem Y8(l:List Int):(Pg l).Pairwise (fun a b=>a<=b):=by
 unfold Pg;have h:=List.pairwise_mergeSort (le:=fun a b:Int=>decide (a<=b)) (by simp;omega) (by simp;omega) l;exact h.imp (fun h=>by simpa using h)
theorem Tw(l:List Int):(Pg l).Perm l:=List.mergeSort_perm ..
theorem Oi{α:Type}[DecidableEq α]:∀ {l k:List α},l.Nodup->(∀x∈l,x∈k)->l.length<=k.length
 | [],_,_,_=>AG _
 | x::l,k,hn,h=>by
  obtain⟨h1,h2⟩:=JB.1 hn;have hx:=h x (BF ..);have ih:=Oi (k:=k.erase x) h2 (fun y hy=>(List.mem_erase_of_ne (fun e=>h1 (by rw[<-e];exact hy))).2 (h y (BG _ hy)));rw[List.length_erase_of_mem hx] at ih;have:=GP hx;rw[AP];omega
def Ed(x:Int):List Int->List Int
 | []=>[x]
 | y::l=>if x<=y then y::Ed x l else x::y::l
def Hk(out:List Int)(l:List Int):List Int:=l.foldl (fun o x=>Ed x o) out
def Bm(l:List Int):List Int:=Hk [] l
theorem F1(x:Int):∀(l:List Int),(Ed x l).Perm (x::l)
 | []=>DX _
 | y::l=>by
  unfold Ed;split
  ·exact((F1 x l).cons y).trans (List.Perm.swap x y l)
  ·exact DX _
theorem I7(x:Int):∀(l:List Int),l.Pairwise (fun a b=>b<=a)->(Ed x l).Pairwise (fun a b=>b<=a)
 | [],_=>IV _ _
 | y::l,h=>by
  obtain⟨h1,h2⟩:=DY.1 h;unfold Ed;split
  ·rename_i hx
   refine DY.2 ⟨fun z hz=>?_,I7 x l h2⟩;rcases CR.1 ((F1 x l).mem_iff.1 hz) with rfl|hz
   ·exact hx
   ·exact h1 z hz
  ·rename_i hx
   refine DY.2 ⟨fun z hz=>?_,h⟩;rcases CR.1 hz with rfl|hz
   ·omega
   ·have:=h1 z hz;omega
theorem Lb:∀(l out:List Int),out.Pairwise (fun a b=>b<=a)->(Hk out l).Perm (l++out)/\(Hk out l).Pairwise (fun a b=>b<=a)
 | [],out,h=>⟨DX _,h⟩
 | x::l,out,h=>by
  obtain⟨h1,h2⟩:=Lb l (Ed x out) (I7 x out h);refine⟨?_,h2⟩;show (Hk (Ed x out) l).Perm (x::(l++out))
  refine h1.trans ?_;refine((F1 x out).append_left l).trans ?_;exact List.perm_middle
theorem Em(l:List Int):(Bm l).Perm l/\(Bm l).Pairwise (fun a b=>b<=a):=by
 obtain⟨h1,h2⟩:=Lb l [] List.Pairwise.nil;rw[BM] at h1;exact⟨h1,h2⟩
theorem Rn:∀ {a b:List Int},a.Perm b->a.Pairwise (fun x y=>y<=x)->b.Pairwise (fun x y=>y<=x)->a=b
 | [],b,h,_,_=>h.nil_eq
 | x::a,[],h,_,_=>by have:=h.length_eq;simp at this
 | x::a,y::b,h,ha,hb=>by
  obtain⟨a1,a2⟩:=DY.1 ha;obtain⟨b1,b2⟩:=DY.1 hb
  have eH:x=y:=by
   have h1:y<=x:=by
    rcases CR.1 (h.mem_iff.2 (BF ..)) with e|e
    ·omega
    ·exact a1 y e
   have h2:x<=y:=by
    rcases CR.1 (h.mem_iff.1 (BF ..)) with e|e
    ·omega
    ·exact b1 x e
   omega
  subst eH;rw[Rn ((List.perm_cons x).1 h) a2 b2]
theorem Kh(ids:List Int)(h0:∀x∈ids,0<=x):Fz ids=Bm ids++List.replicate (4-(Bm ids).length) 0:=by
 obtain⟨h1,h2⟩:=Em ids;refine Rn ?_ ?_ ?_
 ·refine((List.reverse_perm _).trans (Tw _)).trans ?_
  unfold Rs;rw[h1.length_eq];exact(h1.symm.append_right _)
 ·unfold Fz
  rw[List.pairwise_reverse];exact Y8 _
 ·refine FT.2 ⟨h2,?_,fun a ha b hb=>?_⟩
  ·rw[List.pairwise_replicate]
   exact .inr (FU _)
  ·rw[DD hb]
   exact h0 a (h1.mem_iff.1 ha)
def D3:List Int->List Int->Bool
 | x::a,y::b=>if x=y then D3 a b else decide (y<x)
 | a,b=>decide (b.length<a.length)
theorem Jz:∀(n:Nat) (a b:List Int),a.length<=n->b.length<=n->(∀x∈a,1<=x)->(∀x∈b,1<=x)->D3 a b=decide (0<cmpL (a++List.replicate (n-a.length) 0) (b++List.replicate (n-b.length) 0))
 | n,[],[],_,_,_,_=>by
  rw[C1];rfl
 | 0,x::a,_,h,_,_,_=>by simp at h
 | 0,[],y::b,_,h,_,_=>by simp at h
 | n+1,x::a,[],_,_,ha,_=>by
  have hx:=ha x (BF ..);rw[CP,DC,CJ,IA,List.replicate_succ];unfold cmpL;rw[AO (by omega),AQ (by omega)];simp[D3]
 | n+1,[],y::b,_,_,_,hb=>by
  have hy:=hb y (BF ..);rw[CP,DC,CJ,IA,List.replicate_succ];unfold cmpL;rw[AQ (by omega)];simp[D3]
 | n+1,x::a,y::b,h1,h2,ha,hb=>by
  have ih:=Jz n a b (by simpa using h1) (by simpa using h2) (fun z hz=>ha z (BG _ hz)) (fun z hz=>hb z (BG _ hz));rw[CP,CP,AP,AP,Nat.succ_sub_succ,Nat.succ_sub_succ];unfold cmpL D3;by_cases eH:x=y
  ·rw[AQ eH,AO (by omega),AO (by omega)]
   exact ih
  ·rw[AO eH]
   by_cases hlt:x<y
   ·rw[AQ hlt]
    rw[IY (by omega)];rfl
   ·rw[AO hlt,AQ (by omega)]
    rw[ID (by omega)];rfl
theorem Qc(a b:List Int)(VK:a.length<=4)(hb4:b.length<=4)(ha:∀x∈a,1<=x)(hb:∀x∈b,1<=x):D3 (Bm a) (Bm b)=decide (0<cmpL (Fz a) (Fz b)):=by
 obtain⟨p1,_⟩:=Em a;obtain⟨p2,_⟩:=Em b;rw[Kh a (fun x hx=>by have:=ha x hx;omega),Kh b (fun x hx=>by have:=hb x hx;omega)];exact Jz 4 _ _ (by rw[p1.length_eq];exact VK) (by rw[p2.length_eq];exact hb4) (fun x hx=>ha x (p1.mem_iff.1 hx)) (fun x hx=>hb x (p2.mem_iff.1 hx))
theorem Ru(L:List (Int×Sv.Fact))(hL:L.length<=16):∀(rs:List Sv.Rule) (k:Nat),(∀r∈rs,r.conds.length<=4)->(Bo L k rs).length<=rs.length*65536
 | [],_,_=>by simp[Bo]
 | r::rs,k,h=>by
  have h1:=Ea L hL r.conds [] [];have h2:16 ^ r.conds.length<=16 ^ 4:=DO (by omega) (h r (BF ..));have h3:(16:Nat) ^ 4=65536:=by decide
  have h4:=Ru L hL rs (k+1) (fun q hq=>h q (BG _ hq));show ((Ar L r.conds [] []).map (fun ids=>((k:Int),ids))++Bo L (k+1) rs).length<=_
  rw[AK,BA,AP,GS,KB];omega
theorem Ry(rs:List Sv.Rule)(L:List (Int×Sv.Fact))(hr:Sv.RsOk rs)(hL:L.length<=16):(Am rs L).length<=524288:=by
 have h1:=Ru L hL rs 0 hr.conds;have h2:=hr.len;have h3:rs.length*65536<=8*65536:=BW _ h2;unfold Am;omega
theorem V6(cs:List Sv.Cond):Pm cs<=cs.length:=by
 induction cs with
 | nil=>exact AW _
 | cons c cs ih=>
  unfold Pm;rw[AP];split<;>omega
structure Sv.StG(s:Sv.St):Prop where
 ok:Sv.StOk s
 nd:s.fired.Nodup
 sub:∀m∈s.fired,m∈Am s.rs s.L
 rng:∀p∈s.L,1<=p.1/\p.1<=s.cnt
theorem Sv.StG.new(rs:List Sv.Rule)(h:Sv.RsOk rs):Sv.StG ⟨rs,[],0,[]⟩:=⟨⟨h,AG _,FU _,AG _⟩,List.nodup_nil,by simp,by simp⟩
theorem Sv.StG.ids(h:Sv.StG s):∀m∈Am s.rs s.L,m.2.length<=4/\∀x∈m.2,1<=x:=by
 intro k hk;refine⟨?_,fun y hy=>?_⟩
 ·obtain⟨i,r,h1,_,h3⟩:=(D5 s.L k s.rs).1 hk
  obtain⟨t,e1,e2⟩:=Dm _ _ _ _ _ h3;rw[e1,DC,e2];have hc:=h.ok.rules.conds r (AV h1);have:=V6 r.conds;omega
 ·obtain⟨p,hp,e⟩:=Ln s.rs s.L k hk y hy
  have:=(h.rng p hp).1;omega
theorem Sv.StG.few(h:Sv.StG s):(Am s.rs s.L).length<=524288:=Ry s.rs s.L h.ok.rules h.ok.facts
theorem I5(ms fd:List (Int×List Int)):∀m∈Bp ms fd,m∈ms:=by
 intro m hm;exact(G5 _ _).1 (BH.1 hm).2
theorem J0(ms fd:List (Int×List Int)):(Bp ms fd).length<=fd.length:=CS _ _
theorem Sv.StG.add{s:Sv.St}(h:Sv.StG s)(f:Sv.Fact):Sv.StG (s.add f).2/\(s.add f).2.cnt<=s.cnt+1:=by
 have hc:=h.ok.c0;unfold Sv.St.add;split
 ·exact⟨h,by show s.cnt<=_;omega⟩
 ·split
  ·exact⟨h,by show s.cnt<=_;omega⟩
  ·refine⟨⟨⟨h.ok.rules,by simp;omega,by show (0:Int)<=s.cnt+1;omega,AU (J0 _ _) h.ok.fired⟩,h.nd.filter _,I5 _ _,fun p hp=>?_⟩,FU _⟩
   rcases AY.1 hp with hp|hp
   ·have:=h.rng p hp
    exact⟨this.1,by show p.1<=s.cnt+1;omega⟩
   ·rw[AX] at hp
    subst hp;exact⟨by show 1<=s.cnt+1;omega,FU _⟩
theorem Sv.StG.del{s:Sv.St}(h:Sv.StG s)(id:Int):Sv.StG (s.del id).2/\(s.del id).2.cnt=s.cnt:=by
 unfold Sv.St.del;split
 ·exact⟨⟨⟨h.ok.rules,AU (CS _ _) h.ok.facts,h.ok.c0,AU (J0 _ _) h.ok.fired⟩,h.nd.filter _,I5 _ _,fun p hp=>h.rng p (BH.1 hp).1⟩,rfl⟩
 ·exact⟨h,rfl⟩
theorem Sv.StG.fire{s:Sv.St}(h:Sv.StG s):Sv.StG s.fire.2/\s.fire.2.cnt=s.cnt:=by
 unfold Sv.St.fire;split
 ·exact⟨h,rfl⟩
 ·rename_i m hm
  obtain⟨h1,h2⟩:=(I6 s m).1 (Kb _ _ hm)
  have uI:(s.fired++[m]).Nodup:=by
   rw[JS];refine⟨h.nd,by simp,fun a ha b hb e=>?_⟩;rw[AX] at hb;subst hb;subst e;exact h2 ha
  have dI:∀k∈s.fired++[m],k∈Am s.rs s.L:=by
   intro k hk;rcases AY.1 hk with hk|hk
   ·exact h.sub k hk
   ·rw[AX] at hk
    subst hk;exact h1
  refine⟨⟨⟨h.ok.rules,h.ok.facts,h.ok.c0,?_⟩,uI,dI,h.rng⟩,rfl⟩;have:=Oi uI dI;have:=h.few;show (s.fired++[m]).length<=_
  omega
end Go.Proofs.YtolhbeekfjnfmaaGreatDoor
namespace Go.Proofs.YtolhbeekfjnfmaaGreatDoor
open Go.RowKit
variable {v nv uv fv mv k0 k1 k2 lv v':Value}{l:List Int}{w w' w5:World}{S:Nat->Prop}{T T' T2 T3:Nat->Nat}{W tx ty x y gb c2 fc k:Nat}{us fs ms:List (Value×Int)}{ls:List Value}{X:(Nat->Nat)->Nat->Nat->Sv.St->World->Prop}{s2 s:Sv.St}{f:Sv.Fact}{fa:Option Addr}{a b:Int×List Int}{F:List Ft}{a8:List Ch}{Zs:List (List Tok)}{aH:List Nt}{n:Nt}
structure Nt where
 x:Nat
 y:Nat
 s:Sv.St
def ntenc(n:Nt):List Value:=[.pointer (some ⟨n.x,0,none⟩),.pointer (some ⟨n.y,0,none⟩)]
theorem Kt(n:Nt):(ntenc n).length=2:=rfl
theorem Vk(n:Nt):∀c∈ntenc n,c.oneCell'=true:=by intro c hc;simp[ntenc] at hc;rcases hc with rfl|rfl<;>rfl
theorem Tryz.infoPair:(Tryz.prog.info? 106).map (fun i=>(i.zero,i.size,i.bytes))=some (some (.agg #[.pointer none,.pointer none]),2,16):=by kernel_rfl
structure NetsAt(T:Nat->Nat)(nv:Value)(aH:List Nt)(k:Nat)(w:World):Prop where
 row:TRow T 2 106 2 ntenc nv aH w
 net:∀(i:Nat) (n:Nt),aH[i]?=some n->XT T (11+3*i) n.x n.s w/\YT T (12+3*i) n.y n.s w/\Sv.StG n.s/\n.s.cnt<=k
def Zy(t:Nat):Prop:=t=0\/t=2\/(11<=t/\¬ InH t)
theorem Q3m(i:Nat):Zy (11+3*i):=.inr (.inr ⟨by omega,fun h=>by have:=h.2;omega⟩)
theorem Q3j(i:Nat):Zy (12+3*i):=.inr (.inr ⟨by omega,fun h=>by have:=h.2;omega⟩)
theorem Q0w(i:Nat):¬ InH (11+3*i):=fun h=>by have:=h.2;omega
theorem Q04(i:Nat):¬ InH (12+3*i):=fun h=>by have:=h.2;omega
theorem NetsAt.keep{T T':Nat->Nat}{nv:Value}{aH:List Nt}{k k':Nat}{w w':World}{S:Nat->Prop}(h:NetsAt T nv aH k w)(hk:k<=k')(hg:GrS S w w')(hs:∀j,Zy (T j)->¬ S j)(ho:∀j,j<w.heap.size->Zy (T j)->T' j=T j):NetsAt T' nv aH k' w':=by
 refine⟨h.row.keep2 hg (fun j hj=>hs j (by rw[hj];exact .inr (.inl rfl))) (fun j hj jg=>by rw[ho j hj (by rw[jg];exact .inr (.inl rfl))];exact jg),fun i n hn=>?_⟩;obtain⟨h1,h2,h3,h4⟩:=h.net i n hn;have hx:∀j,T j=11+3*i\/T j=0->Zy (T j):=fun j hj=>by rcases hj with hj|hj;rw[hj];exact Q3m i;rw[hj];exact .inl rfl
 have hy:∀j,T j=12+3*i\/T j=0->Zy (T j):=fun j hj=>by rcases hj with hj|hj;rw[hj];exact Q3j i;rw[hj];exact .inl rfl
 exact⟨h1.keep hg (fun j hj=>hs j (hx j hj)) (fun j hj jg=>ho j hj (hx j jg)),h2.keep hg (fun j hj=>hs j (hy j hj)) (fun j hj jg=>ho j hj (hy j jg)),h3,by omega⟩
theorem L9(x y:Nat)(s':Sv.St):∀(aH:List Nt) (i:Nat) (n:Nt),aH[i]?=some n->n.x=x->n.y=y->(aH.set i ⟨x,y,s'⟩).flatMap ntenc=aH.flatMap ntenc
 | [],_,_,h,_,_=>by simp at h
 | m::aH,0,n,h,hx,hy=>by
  simp only[BS,AE] at h;subst h;rw[IH,BI,BI];unfold ntenc;rw[hx,hy]
 | m::aH,i+1,n,h,hx,hy=>by
  rw[BU] at h;rw[FM,BI,BI,L9 x y s' aH i n h hx hy]
theorem NetsAt.set{T T':Nat->Nat}{nv:Value}{aH:List Nt}{k i:Nat}{n:Nt}{s':Sv.St}{w w':World}(h:NetsAt T nv aH k w)(hn:aH[i]?=some n)(hg:GrS (fun j=>T j=1\/T j=9\/T j=11+3*i\/T j=12+3*i) w w')(ho:∀j,j<w.heap.size->T' j=T j)(hx:XT T' (11+3*i) n.x s' w')(hy:YT T' (12+3*i) n.y s' w')(aK:Sv.StG s')(hc:s'.cnt<=((k+1:Nat):Int)) :
  NetsAt T' nv (aH.set i ⟨n.x,n.y,s'⟩) (k+1) w':=by
 refine⟨⟨?_,fun g bJ=>?_⟩,fun j m hm=>?_⟩
 ·have h1:=hg.row h.row.1 (fun g bJ e=>by have:=h.row.2 g bJ;omega)
  refine⟨Kt,?_⟩;rw[FN,L9 n.x n.y s' aH i n hn rfl rfl];exact h1.2
 ·rw[ho g (h.row.1.own g bJ).2];exact h.row.2 g bJ
 ·by_cases mG:i=j
  ·subst mG
   rw[EF (AL.1 hn).1] at hm;simp only[AE] at hm;subst hm;exact⟨hx,hy,aK,hc⟩
  ·rw[EY mG] at hm
   obtain⟨h1,h2,h3,h4⟩:=h.net j m hm;exact⟨h1.keep hg (fun q hq e=>by omega) (fun q hq _=>ho q hq),h2.keep hg (fun q hq e=>by omega) (fun q hq _=>ho q hq),h3,by omega⟩
theorem NetsAt.snoc{YN:Value}(h:NetsAt T nv aH k w)(hg:GrS S w w')(hs:∀j,T j=0\/(11<=T j/\¬ InH (T j))->¬ S j)(ho:∀j,j<w.heap.size->T' j=T j)(hr:TRow T' 2 106 2 ntenc YN (aH++[n]) w')(hx:XT T' (11+3*aH.length) n.x n.s w')(hy:YT T' (12+3*aH.length) n.y n.s w')(aK:Sv.StG n.s)(hc:n.s.cnt<=((k+1:Nat):Int)) :
  NetsAt T' YN (aH++[n]) (k+1) w':=by
 refine⟨hr,fun i m hm=>?_⟩;by_cases hi:i<aH.length
 ·rw[CN hi] at hm
  obtain⟨h1,h2,h3,h4⟩:=h.net i m hm;exact⟨h1.keep hg (fun q hq=>hs q (by rcases hq with hq|hq;exact .inr ⟨by omega,by rw[hq];exact Q0w i⟩;exact .inl hq)) (fun q hq _=>ho q hq),h2.keep hg (fun q hq=>hs q (by rcases hq with hq|hq;exact .inr ⟨by omega,by rw[hq];exact Q04 i⟩;exact .inl hq)) (fun q hq _=>ho q hq),h3,by omega⟩
 ·have l9:i=aH.length:=by have:=(AL.1 hm).1;simp at this;omega
  subst l9;simp only[IB,AE] at hm;subst hm;exact⟨hx,hy,aK,hc⟩
def WAt(T:Nat->Nat)(W:Nat)(aH:List Nt)(k:Nat)(w:World):Prop:=
 ∃nv uv fv mv k0 k1 k2 lv us fs ms ls,Lists T W nv uv fv mv k0 k1 k2 lv us fs ms ls w/\NetsAt T nv aH k w/\us.length<=k*2100000/\fs.length<=4*k/\ms.length<=4*k/\ls.length<=k
def B8(T:Nat->Nat)(W k m:Nat)(w:World)(e:Ending)(w':World):Prop:=
 e=.returned (.bool true)/\∃T' iE,WAt T' W iE (k+1) w'/\iE.length=m/\GrS (fun j=>T j≠0) w w'/\∀j,j<w.heap.size->T j=0->T' j=0
theorem WAt.gr{T T':Nat->Nat}{W:Nat}{aH:List Nt}{k k':Nat}{w w':World}(h:WAt T W aH k w)(hk:k<=k')(hg:w.grownBy w' none)(ho:∀j,j<w.heap.size->T' j=T j):WAt T' W aH k' w':=by
 obtain⟨nv,uv,fv,mv,k0,k1,k2,lv,us,fs,ms,ls,h1,h2,h3,h4,h5,h6⟩:=h;exact⟨nv,uv,fv,mv,k0,k1,k2,lv,us,fs,ms,ls,h1.gr hg ho,h2.keep hk (GrS.of hg (by simp):GrS (fun _=>False) w w') (by simp) (fun j hj _=>ho j hj),AU h3 (BW _ hk),by omega,by omega,by omega⟩
theorem WAt.idle(h:WAt T W aH k w)(hg:w.grownBy w' none):B8 T W k aH.length w (.returned (.bool true)) w':=
 ⟨rfl,T,aH,h.gr (FV k) hg (fun _ _=>rfl),rfl,GrS.of hg (by simp),fun _ _ h=>h⟩
def MtAt(v:Value)(ms:List VFt)(w:World):Prop:=RowAt 52 2 ftenc 0 v ms w/\∀m∈ms,IsAt 0 m.v m.vals w
theorem MtAt.gr{v:Value}{ms:List VFt}{w w':World}(h:MtAt v ms w)(hg:w.grownBy w' none):MtAt v ms w':=⟨h.1.gr hg,fun m hm=>(h.2 m hm).gr hg⟩
def G0(c n:Int):Int:=(if c<0 then -(c+1) else c)%n
theorem Kx(c n:Int)(hn:0<n):0<=G0 c n/\G0 c n<n:=by
 unfold G0;exact⟨Int.emod_nonneg _ (by omega),Int.emod_lt_of_pos _ hn⟩
def I64(c:Int):Prop:=-9223372036854775808<=c/\c<=9223372036854775807
theorem Q11(s:ByteArray)(w:World)(hm:s.size<=maxLen) :
  Calls Tryz.prog 50 #[.string s] w fun e w'=>e=.returned (.tuple #[.string ⟨(B4 s.data.toList).1.toArray⟩,.int .i64 (B4 s.data.toList).2.1,.int .i64 (B4 s.data.toList).2.2])/\w.grownBy w' none:=by
 by_cases hs:400<s.size
 ·have e:B4 s.data.toList=([],0,2):=by unfold B4;rw[Ae,AQ hs]
  rw[e];refine Iq s w hm 0 2 ?_;rintro e w'⟨hg,hp⟩;rw[AQ hs] at hp;exact⟨hp,hg⟩
 ·cases hr:Bn s.data.toList with
  | inl k=>
   have e:B4 s.data.toList=([],k,1):=by unfold B4;rw[Ae,AO hs,hr]
   rw[e];refine Iq s w hm k 1 ?_;rintro e w'⟨hg,hp⟩;rw[AO hs,hr] at hp;exact⟨hp,hg⟩
  | inr rs=>
   cases hx:Ec rs
   ·have e:B4 s.data.toList=(Jb rs,rs.length,0):=by unfold B4;rw[Ae,AO hs,hr];simp only;rw[hx];rfl
    rw[e];exact Qf s w hm hs rs hr hx
   ·have e:B4 s.data.toList=([],0,2):=by unfold B4;rw[Ae,AO hs,hr];simp only;rw[hx];rfl
    rw[e];refine Iq s w hm 0 2 ?_;rintro e w'⟨hg,hp⟩;rw[AO hs,hr] at hp;simp only at hp;rw[hx,AQ rfl] at hp;exact⟨hp,hg⟩
theorem O1(x:Int)(w:World):Calls Tryz.prog 51 #[.int .i64 x] w fun e w'=>e=.returned (.int .i64 x)/\w'=w:=by
 go_enter Tryz.func51,Tryz.ntmps51;go_wp2;go_ret;exact⟨rfl,rfl⟩
theorem Mk(W:Nat)(w:World)(aT aL:Addr)(hL:LD aT aL w)(hP:3<w.heap.size)(s:ByteArray)(hm:s.size<=maxLen)(n fk a:Int)(bO:Option Addr)(fn fc:Nat) :
  Calls Tryz.prog 33 #[.pointer (some ⟨W,0,none⟩),.agg #[.int .i64 1,.int .i64 n,.string s,.int .i64 fk,.slice bO fn fc,.int .i64 a]] w fun e w'=>e=.returned (.bool true)/\w.grownBy w' none:=by
 have a7:=AA w (.cells #[.int .i64 1,.int .i64 n,.string s,.int .i64 fk,.slice bO fn fc,.int .i64 a] 76) none;have xS:=hL.kept a7 hP;have yL:(w.alloc (.cells #[.int .i64 1,.int .i64 n,.string s,.int .i64 fk,.slice bO fn fc,.int .i64 a] 76)).cell? ⟨w.heap.size,2,none⟩=some (.string s):=by simp
 go_enter Tryz.func33,Tryz.ntmps33;go_wp2_with fail;refine(Q3u s aT aL _ xS (by have:=a7.size;omega) hm).mono ?_;rintro e w1⟨rfl,hg1⟩;have c2:=hg1.cell yL (by simp);obtain⟨F,hF⟩:∃F,B4 s.data.toList=F:=⟨_,rfl⟩
 have PW:=fun w=>Q11 s w hm
 rw[hF] at PW⊢;clear hF;obtain⟨l,m,k⟩:=F;obtain⟨t,ht⟩:∃t:ByteArray,(⟨l.toArray⟩:ByteArray)=t:=⟨_,rfl⟩
 simp only at PW⊢;rw[ht] at PW⊢;clear ht;go_wp2_with fail;refine(PW _).mono ?_;rintro e w2⟨rfl,hg2⟩;have hg:=Ab a7 (Ab hg1 hg2)
 go_wp2_with (go_at_call 51;refine(O1 _ _).mono ?_;rintro e w3⟨rfl,rfl⟩)
 go_ret;exact⟨rfl,hg⟩
def OpAt(g o:Nat)(q n:Int)(s:ByteArray)(fk:Int)(fv:Value)(a:Int)(w:World):Prop:=
 w.cell? ⟨g,o,none⟩=some (.int .i64 q)/\w.cell? ⟨g,o+1,none⟩=some (.int .i64 n)/\w.cell? ⟨g,o+2,none⟩=some (.string s)/\w.cell? ⟨g,o+3,none⟩=some (.int .i64 fk)/\w.cell? ⟨g,o+4,none⟩=some fv/\w.cell? ⟨g,o+5,none⟩=some (.int .i64 a)
theorem OpAt.kept{g o:Nat}{q n:Int}{s:ByteArray}{fk:Int}{a:Int}(h:OpAt g o q n s fk fv a w)(hg:w.grownBy w' none):OpAt g o q n s fk fv a w':=by
 obtain⟨h0,h1,h2,h3,h4,h5⟩:=h;exact⟨hg.cell h0 (by simp),hg.cell h1 (by simp),hg.cell h2 (by simp),hg.cell h3 (by simp),hg.cell h4 (by simp),hg.cell h5 (by simp)⟩
theorem Q2w(c n:Int)(hc:I64 c)(hn:0<n)(gK:n<=4611686018427387904)(w:World) :
  Calls Tryz.prog 53 #[.int .i64 c,.int .i64 n] w fun e w'=>e=.returned (.int .i64 (G0 c n))/\w'=w:=by
 obtain⟨h1,h2⟩:=hc;have hr:=Kx c n hn;unfold G0 at hr⊢;by_cases h:c<0
 ·have hd:decide (c<0)=true:=by simpa using h
  rw[AQ h] at hr⊢;have e1:-(c+1)%n=-((c+1).tmod n):=by rw[<-Int.neg_tmod,KI (by omega)]
  rw[e1];clear e1 hr;go_enter Tryz.func53,Tryz.ntmps53;go_wp2;go_ret;exact⟨rfl,rfl⟩
 ·have hd:decide (c<0)=false:=by simpa using h
  rw[AO h] at hr⊢;go_enter Tryz.func53,Tryz.ntmps53;go_wp2;go_ret;exact⟨rfl,rfl⟩
theorem Ym{a b:Nat}{w2 w3 w4:World}(hL:Lists T2 W nv uv fv mv k0 k1 k2 lv us fs ms ls w2)(hN:NetsAt T2 nv aH k w2)(hx:XT T2 (11+3*aH.length) n.x n.s w2)(hy:YT T2 (12+3*aH.length) n.y n.s w2)(aK:Sv.StG n.s)(hc:n.s.cnt<=((k+1:Nat):Int))
 (hg3:w2.grownBy w3 none)(hl:Longer nv v' a b w3 w4)(hr:RowAt 106 2 ntenc 0 v' (aH++[n]) w4) :
  (w4.cell? ⟨W,0,none⟩=some nv/\w4.frozen? ⟨W,0,none⟩=false)/\∃T',Lists T' W v' uv fv mv k0 k1 k2 lv us fs ms ls (w4.setCell ⟨W,0,none⟩ v')/\NetsAt T' v' (aH++[n]) (k+1) (w4.setCell ⟨W,0,none⟩ v')/\GrS (fun j=>T2 j=1\/T2 j=2) w2 (w4.setCell ⟨W,0,none⟩ v')/\∀j,j<w2.heap.size->T' j=T2 j:=by
 have VQ:=Af hL.blk;have hW1:=hL.own;have hs3:=hg3.size;have eM:∀b,nv.ownBlock=some b->T2 b=2/\b<w2.heap.size:=fun b hb=>⟨hN.row.2 b hb,(hN.row.1.own b hb).2⟩
 have aW:=Aj w4 W 0 v';have xH:nv.ownBlock≠some W:=fun e=>by have:=(eM W e).1;omega
 have hG:GrS (fun j=>nv.ownBlock=some j\/j=W) w2 (w4.setCell ⟨W,0,none⟩ v'):=by
  refine((((GrS.of hg3 (by simp):GrS (fun j=>nv.ownBlock=some j\/j=W) w2 w3)).trans (hl.gr (fun b hb=>.inl hb))).then aW (fun g hg=>?_));simp at hg;exact .inr (.inr hg.symm)
 obtain⟨T',bX⟩:∃T':Nat->Nat,T'=fun j=>if j<w3.heap.size then T2 j else 2:=⟨_,rfl⟩
 have t1:∀j,j<w3.heap.size->T' j=T2 j:=fun j h=>by rw[bX];dsimp only;rw[AQ h]
 have t2:∀j,w3.heap.size<=j->T' j=2:=fun j h=>by rw[bX];dsimp only;rw[AO (by omega)]
 have s7:∀j,j<w2.heap.size->T' j=T2 j:=fun j h=>t1 j (by omega)
 have hno:∀j,T2 j≠1->T2 j≠2->¬ (nv.ownBlock=some j\/j=W):=by
  rintro j h1 h2 (e|e)
  ·exact h2 (eM j e).1
  ·exact h1 (by rw[e];exact hW1)
 have yM:WBlk W #[nv,uv,fv,mv,k0,k1,k2,lv] w4:=hl.block (hL.blk.gr hg3 (by simp)) xH
 have hv':∀b,v'.ownBlock=some b->T' b=2/\b≠W:=fun b hb=>by
  rcases hl.own b hb with e|e
  ·obtain⟨q1,q2⟩:=eM b e
   exact⟨by rw[s7 b q2,q1],fun e'=>by rw[e'] at q1;omega⟩
  ·exact⟨t2 b e,by omega⟩
 refine⟨⟨by rw[yM.cell 0];rfl,yM.fz 0⟩,T',⟨yM.set 0 v',by rw[s7 W VQ];exact hW1,?_,?_,?_,?_⟩,?_,hG.mono (fun j hj=>?_),s7⟩
 ·exact hL.nums.keep hG (fun j hj=>hno j (by omega) (by omega)) (fun j hj _=>s7 j hj)
 ·exact hL.lent.keep hG (fun j hj=>hno j (by omega) (by omega)) (fun j hj _=>s7 j hj)
 ·exact hL.facts.keep hG (fun j hj=>hno j (by omega) (by omega)) (fun j hj _=>s7 j hj)
 ·exact hL.mats.keep hG (fun j hj=>hno j (by omega) (by omega)) (fun j hj _=>s7 j hj)
 ·refine hN.snoc hG (fun j hj=>hno j (by omega) (by omega)) s7 ⟨hr.other aW (fun g hg e=>by have:=(hv' g hg).2;simp at e;omega),fun g hg=>(hv' g hg).1⟩ (hx.keep hG (fun j hj=>hno j (by omega) (by omega)) (fun j hj _=>s7 j hj)) (hy.keep hG (fun j hj=>hno j (by omega) (by omega)) (fun j hj _=>s7 j hj)) aK hc
 ·rcases hj with e|e
  ·exact .inr (eM j e).1
  ·exact .inl (by rw[e];exact hW1)
theorem Sk(T:Nat->Nat)(W:Nat)(aH:List Nt)(k:Nat)(w:World)(hW:WAt T W aH k w)(hk:k<=2000000)(hnl:aH.length<=k)(aT aL:Addr)(hL:LD aT aL w)(hP:3<w.heap.size)(s:ByteArray)(hm:s.size<=maxLen)(n fk a:Int)(bO:Option Addr)(fn fc:Nat) :
  Calls Tryz.prog 33 #[.pointer (some ⟨W,0,none⟩),.agg #[.int .i64 2,.int .i64 n,.string s,.int .i64 fk,.slice bO fn fc,.int .i64 a]] w fun e w'=>B8 T W k (aH.length+(match Bh s.data.toList with | .inl _=>0 | .inr _=>1)) w e w':=by
 have a7:=AA w (.cells #[.int .i64 2,.int .i64 n,.string s,.int .i64 fk,.slice bO fn fc,.int .i64 a] 76) none;have xS:=hL.kept a7 hP;have yL:(w.alloc (.cells #[.int .i64 2,.int .i64 n,.string s,.int .i64 fk,.slice bO fn fc,.int .i64 a] 76)).cell? ⟨w.heap.size,2,none⟩=some (.string s):=by simp
 have vD:=Q4q T (11+3*aH.length) s aT aL _ xS (by have:=a7.size;omega) hm;have vC:=fun(T1:Nat->Nat) (w1:World)=>Q4e T1 (12+3*aH.length) s w1 hm
 have HW:=Ac hW;clear hW xS hL hP;cases hr:Bh s.data.toList with
 | inl c=>
  rw[hr] at vD vC;simp only[EG] at vD vC⊢;go_enter Tryz.func33,Tryz.ntmps33;go_wp2_with fail;refine vD.mono ?_;rintro e w1⟨hg1,rfl⟩;have c2:=hg1.cell yL (by simp);go_wp2_with fail;refine(vC T w1).mono ?_;rintro e w2⟨hg2,rfl⟩;have hg:=Ab a7 (Ab hg1 hg2);have e1:((c:Int) !=(c:Int))=false:=by simp
  clear vD vC yL a7 hg1 hg2 c2
  go_wp2_with (go_at_call 51;refine(O1 _ _).mono ?_;rintro e w3⟨rfl,hw3⟩;subst w3)
  go_ret;exact(Aa HW).idle hg
 | inr rs=>
  rw[hr] at vD vC;simp only at vD vC⊢;have bg:=Hd _ rs hr;clear hr;go_enter Tryz.func33,Tryz.ntmps33;go_wp2_with fail;refine vD.mono ?_;rintro e w1⟨hg1,T1,x,rfl,hX1,hxw,fy⟩;have c2:=hg1.cell yL (by simp);go_wp2_with fail;refine(vC T1 w1).mono ?_;rintro e w2⟨hg2,T2,y,rfl,hY2,jI⟩;have iU:=Ab hg1 hg2;have ar:=Ab a7 iU;have ho2:∀j,j<w.heap.size->T2 j=T j:=fun j hj=>by rw[jI j (AZ hj (AU a7.size hg1.size)),fy j (AZ hj a7.size)]
  obtain⟨nv,uv,fv,mv,k0,k1,k2,lv,us,fs,ms,ls,i1,i2,i3,i4,i5,i6⟩:=Aa HW;have hL2:=i1.gr ar ho2;have bq:=i2.keep (AW k) (GrS.of ar (by simp):GrS (fun _=>False) w w2) (by simp) (fun j hj _=>ho2 j hj);have QX:=hX1.gr hg2 jI;obtain⟨na,nc,eM⟩:=bq.row.1.slice;have c0:w2.cell? ⟨W,0,none⟩=some (.slice na aH.length nc):=by rw[hL2.blk.cell 0,<-eM];rfl
  have hrow:RowAt 106 2 ntenc 0 (.slice na aH.length nc) aH w2:=by rw[<-eM];exact bq.row.1
  have hg3:=AA w2 (.cells #[.pointer (some ⟨x,0,none⟩),.pointer (some ⟨y,0,none⟩)] 106) none;have hr3:=hrow.gr hg3;have aG:RowAt 106 2 ntenc 0 (.slice (some ⟨w2.heap.size,0,none⟩) 1 1) [(⟨x,y,⟨rs,[],0,[]⟩⟩:Nt)] (w2.alloc (.cells #[.pointer (some ⟨x,0,none⟩),.pointer (some ⟨y,0,none⟩)] 106)):=(RowAt.lit1 (e:=106) Kt w2 (⟨x,y,⟨rs,[],0,[]⟩⟩:Nt) #[.pointer (some ⟨x,0,none⟩),.pointer (some ⟨y,0,none⟩)] rfl).weak (AG _);have hdone:=fun(v':Value) (w4:World) (p q:Nat) (hl:Longer (.slice na aH.length nc) v' p q (w2.alloc (.cells #[.pointer (some ⟨x,0,none⟩),.pointer (some ⟨y,0,none⟩)] 106)) w4) (hr:RowAt 106 2 ntenc 0 v' (aH++[(⟨x,y,⟨rs,[],0,[]⟩⟩:Nt)]) w4)=>Ym (n:=⟨x,y,⟨rs,[],0,[]⟩⟩) hL2 bq QX hY2 (Sv.StG.new rs bg) (by show (0:Int)<=_;omega) hg3 (by rw[eM];exact hl) hr
  rw[eM] at hdone;have lr:=Ac hdone;have HI:=Ac (show us.length<=k*2100000/\fs.length<=4*k/\ms.length<=4*k/\ls.length<=k from⟨i3,i4,i5,i6⟩);have HG:=Ac (show w.grownBy w2 none/\∀j,j<w.heap.size->T2 j=T j from⟨ar,ho2⟩);clear hdone QX hL2 bq eM hrow hg3 ar ho2 iU hX1 hY2 fy jI i1 i2 i3 i4 i5 i6 vD vC yL a7 hg1 hg2 c2 bg hxw
  go_wp2_with (first
   | (go_at_call 51;refine(O1 _ _).mono ?_;rintro e w3⟨rfl,hw3⟩;subst w3)
   | (at_builtin;refine Ca rfl _ _ 67 rfl Tryz.underlying67 Tryz.infoPair rfl (by decide) rfl hr3 rfl aG (by simp) (fun y _=>Vk y) (by unfold maxLen;simp;omega) (by simp;omega) ?_))
  intro v8 w8 tu kF;obtain⟨⟨y8,yf8⟩,T9,j1,j2,j3,j4⟩:=Aa lr v8 w8 _ _ kF tu;obtain⟨g8,au,rfl⟩:=kF.form
  have ig:B8 T W k (aH.length+1) w (.returned (.bool true)) (w8.setCell ⟨W,0,none⟩ (.slice (some ⟨g8,0,none⟩) (aH.length+1) au)):=by
   obtain⟨ar,ho2⟩:=Aa HG;obtain⟨i3,i4,i5,i6⟩:=Aa HI;refine⟨rfl,T9,_,⟨_,uv,fv,mv,k0,k1,k2,lv,us,fs,ms,ls,j1,j2,AU i3 (BW _ (FV k)),by omega,by omega,by omega⟩,by simp,?_,fun j hj h0=>?_⟩
   ·refine((GrS.of ar (by simp):GrS (fun j=>T j≠0) w w2)).comp j3 (fun i hi hn hx=>?_)
    rw[ho2 i hi] at hx;exact hn (fun e=>by omega)
   ·rw[j4 j (AZ hj ar.size),ho2 j hj,h0]
  have jy:=Ac ig;clear ig j1 j2 j3 j4 lr HI HG tu kF hr3 aG c0;go_wp2;go_ret;exact Aa jy
theorem Yt(w:World)(l:List Int)(cs:Array Value)(hc:cs.toList=l.map (fun z=>Value.int .i64 z))(hl:l.length<=maxLen):InAt (.slice (some ⟨w.heap.size,0,none⟩) l.length l.length) l (w.alloc (.cells cs 3)):=by
 refine .inr ⟨_,_,rfl,hl,fun i x hx=>⟨w.heap.size,0,rfl,?_⟩⟩;have h:=AR w (.cells cs 3);simp only[World.cell?,h,BV];have:cs[i]?=cs.toList[i]?:=by simp
 rw[this,hc,BR,hx];rfl
theorem V3(w:World)(a:Int):InAt (.slice (some ⟨w.heap.size,0,none⟩) 1 1) [a] (w.alloc (.cells #[.int .i64 a] 3)):=Yt w [a] _ rfl (by unfold maxLen;simp)
theorem Hand.mtAt{xs:List VFt}(h:Hand T 52 v xs w):MtAt v xs w:=⟨h.row.1,fun m hm=>by
 obtain⟨i,hi⟩:=FC hm;exact(h.els i m hi).1.1⟩
end Go.Proofs.YtolhbeekfjnfmaaGreatDoor

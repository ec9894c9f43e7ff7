import Derived.Test.YtolhbeekfjnfmaaGreatDoorM27
set_option maxHeartbeats 8000000
set_option maxRecDepth 100000
namespace Go.Proofs.YtolhbeekfjnfmaaGreatDoor
open Go.RowKit
variable {T U:Nat->Nat}{t x nb B n:Nat}{s:Sv.St}{w w' W W' A a:World}{fv:Value}{F:List Ft}{a8:List Ch}{r:Loop}{Z L:Nat->Prop}{α:Type}
def XT(T:Nat->Nat)(t x:Nat)(s:Sv.St)(w:World):Prop:=
 ∃U nb fv F a8 Zs,XAt U x nb fv F s.cnt a8 w/\XSt s F a8 Zs/\(∀i,U i=1->T i=0)/\(∀i,2<=U i->T i=t)/\∀i,w.heap.size<=i->U i=0
theorem XT.keep{T T':Nat->Nat}{t x:Nat}{s:Sv.St}{w w':World}{S:Nat->Prop}(h:XT T t x s w)(hg:GrS S w w')(hs:∀k,T k=t\/T k=0->¬ S k)(ho:∀k,k<w.heap.size->T k=t\/T k=0->T' k=T k):XT T' t x s w':=by
 obtain⟨U,nb,fv,F,a8,Zs,h1,h2,h3,h4,h5⟩:=h
 have hlt:∀i,U i≠0->i<w.heap.size:=fun i hi=>by
  rcases FL i w.heap.size with h|h
  ·exact h
  ·exact absurd (h5 i h) hi
 have hT:∀i,U i≠0->T i=t\/T i=0:=fun i hi=>by
  by_cases h:U i=1
  ·exact .inr (h3 i h)
  ·exact .inl (h4 i (by omega))
 refine⟨U,nb,fv,F,a8,Zs,h1.keep hg (fun i hi=>hs i (hT i hi)) (fun _ _=>rfl),h2,fun i hi=>?_,fun i hi=>?_,fun i hi=>h5 i (AU hg.size hi)⟩
 ·have hn:U i≠0:=by omega
  rw[ho i (hlt i hn) (hT i hn)];exact h3 i hi
 ·have hn:U i≠0:=by omega
  rw[ho i (hlt i hn) (hT i hn)];exact h4 i hi
theorem XT.gr{T':Nat->Nat}(h:XT T t x s w)(hg:w.grownBy w' none)(ho:∀k,k<w.heap.size->T' k=T k):XT T' t x s w':=
 h.keep (GrS.of hg (by simp):GrS (fun _=>False) w w') (by simp) (fun k hk _=>ho k hk)
theorem XAt.norm{cnt:Int}(h:XAt U x nb fv F cnt a8 w):XAt (fun i=>if i<w.heap.size then U i else 0) x nb fv F cnt a8 w:=
 h.keep (GrS.refl (fun _=>False) w) (by simp) (fun i hi=>by rw[AQ hi])
theorem XT.mk'{Zs:List (List Tok)}(h:XAt U x nb fv F s.cnt a8 w')(h2:XSt s F a8 Zs)(h1:∀i,i<w.heap.size->U i=1->T i=0)(h3:∀i,i<w.heap.size->2<=U i->T i=t) :
  ∃T',XT T' t x s w'/\∀k,k<w.heap.size->T' k=T k:=by
 refine⟨fun i=>if i<w.heap.size then T i else if U i=1 then 0 else t,⟨_,nb,fv,F,a8,Zs,h.norm,h2,fun i hi=>?_,fun i hi=>?_,fun i hi=>?_⟩,fun k hk=>?_⟩
 ·dsimp only at hi⊢
  by_cases hw':i<w'.heap.size
  ·rw[AQ hw'] at hi
   by_cases pZ:i<w.heap.size
   ·rw[AQ pZ];exact h1 i pZ hi
   ·rw[AO pZ,AQ hi]
  ·rw[AO hw'] at hi;cases hi
 ·dsimp only at hi⊢
  by_cases hw':i<w'.heap.size
  ·rw[AQ hw'] at hi
   by_cases pZ:i<w.heap.size
   ·rw[AQ pZ];exact h3 i pZ hi
   ·rw[AO pZ,AO (by omega)]
  ·rw[AO hw'] at hi;omega
 ·rw[AO (by omega)]
 ·dsimp only
  rw[AQ hk]
theorem Lg(l:List UInt8)(rs:List Sv.Rule)(h:Bg l=.inr rs):Bn l=.inr rs:=by
 unfold Bg at h;split at h
 ·cases h
 ·cases hr:Bn l with
  | inl k=>rw[hr] at h;cases h
  | inr rs'=>
   rw[hr] at h;simp only at h;split at h
   ·cases h
   ·cases h;rfl
theorem Q4x(T:Nat->Nat)(t:Nat)(s:ByteArray)(aT aL:Addr)(w:World)(hL:LD aT aL w)(hP:3<w.heap.size)(hm:s.size<=maxLen) :
  Calls Tryz.prog 17 #[.string s] w fun e w'=>w.grownBy w' none/\match Bg s.data.toList with
   | .inl k=>e=.returned (.tuple #[.pointer none,.int .i64 k])
   | .inr rs=>∃T' x,e=.returned (.tuple #[.pointer (some ⟨x,0,none⟩),.int .i64 0])/\XT T' t x ⟨rs,[],0,[]⟩ w'/\w.heap.size<=x/\∀k,k<w.heap.size->T' k=T k:=by
 refine(Q4c s aT aL w hL hP hm).mono ?_;rintro e w'⟨hg,hp⟩;refine⟨hg,?_⟩;cases hr:Bg s.data.toList with
 | inl k=>rw[hr] at hp;exact hp
 | inr rs=>
  rw[hr] at hp;obtain⟨x,nb,U,rfl,hx,hxw,oW,hb,⟨w1,hN,h1,hg1⟩,sB,uG⟩:=hp;have aK:=G4 _ rs hr;have nj:=Oh _ rs (Lg _ rs hr);have hst:XSt ⟨rs,[],0,[]⟩ [] (rs.map (fun r=>Eu r.conds)) (rs.map (fun _=>[])):=XSt.new rs aK.len (fun r hr=>⟨aK.conds r hr,nj r hr⟩);obtain⟨U',oK⟩:∃U':Nat->Nat,U'=fun i=>if i=x then 2 else U i:=⟨_,rfl⟩
  have hX:XAt U' x nb (.slice none 0 0) [] (0:Int) (rs.map (fun r=>Eu r.conds)) w':=by
   refine⟨hb,by rw[oK];dsimp only;rw[AQ rfl],⟨RowAt.nil _ _ Ji,by simp[Value.ownBlock]⟩,by simp,?_⟩;exact hN.keep (GrS.of hg1 (by simp):GrS (fun _=>False) w1 w') (by simp) (fun i hi=>by rw[oK];dsimp only;rw[AO (by omega)])
  obtain⟨T',h2,h3⟩:=XT.mk' (T:=T) (t:=t) (w:=w) (s:=⟨rs,[],0,[]⟩) hX hst (fun i hi h=>by rw[oK] at h;dsimp only at h;rw[AO (by omega),sB i hi] at h;cases h) (fun i hi h=>by rw[oK] at h;dsimp only at h;rw[AO (by omega),sB i hi] at h;omega);exact⟨T',x,rfl,h2,hx,h3⟩
theorem Q4w(T:Nat->Nat)(t x:Nat)(s:Sv.St)(f:Sv.Fact)(fa:Option Addr)(fc:Nat)(w:World)(h:XT T t x s w)(hc1:s.cnt<=4611686018427387904)(hin:InAt (.slice fa f.vals.length fc) f.vals w)(hl:f.vals.length<=maxLen)(hne:∀g,(Value.slice fa f.vals.length fc).ownBlock=some g->T g≠t) :
  Calls Tryz.prog 18 #[.pointer (some ⟨x,0,none⟩),.agg #[.int .i64 f.kind,.slice fa f.vals.length fc]] w fun e w'=>e=.returned (.tuple #[.int .i64 (s.add f).1.1,.int .i64 (s.add f).1.2])/\GrS (fun k=>T k=t) w w'/\∃T',XT T' t x (s.add f).2 w'/\∀k,k<w.heap.size->T' k=T k:=by
 have h0:=h;obtain⟨U,nb,fv,F,a8,Zs,h1,h2,h3,h4,h5⟩:=h;have qd:F.length=s.L.length:=by rw[<-h2.facts,BA]
 cases hF:Av f
 ·refine(Q2u x f fa fc w hin hl hF).mono ?_
  rintro e w'⟨rfl,hg⟩;have hadd:s.add f=((0,3),s):=by unfold Sv.St.add;rw[AQ hF]
  rw[hadd];exact⟨rfl,GrS.of hg (by simp),T,h0.gr hg (fun _ _=>rfl),fun _ _=>rfl⟩
 ·by_cases QK:16<=s.L.length
  ·have UB:F.length=16:=by have:=h2.few;omega
   refine(Yf U x nb fv F s.cnt a8 f fa fc w h1 hin hl hF UB).mono ?_;rintro e w'⟨rfl,hg⟩;have hadd:s.add f=((0,4),s):=by unfold Sv.St.add;rw[AO (by rw[hF];simp),AQ QK]
   rw[hadd];exact⟨rfl,GrS.of hg (by simp),T,h0.gr hg (fun _ _=>rfl),fun _ _=>rfl⟩
  ·have hadd:s.add f=((s.cnt+1,0),⟨s.rs,s.L++[(s.cnt+1,f)],s.cnt+1,Bp (Al s.rs (s.L++[(s.cnt+1,f)])) s.fired⟩):=by unfold Sv.St.add;rw[AO (by rw[hF];simp),AO QK]
   have h4l:f.vals.length<=4:=by
    unfold Av at hF;rw[EA,EY,DD] at hF;have:=hF.1.2;simpa using this
   have ag:∀c∈a8,ChFit c:=by
    intro c hc;obtain⟨i,hi⟩:=EZ hc;have eE:i<s.rs.length:=by have:=(AL.1 hi).1;rw[h2.rules.len.1] at this;exact this
    obtain⟨c2,Z,p1,p2,p3⟩:=h2.rules.get (AB eE);rw[hi] at p1;simp only[AE] at p1;subst p1;exact p3.ok.fit p3.fd p3.few h2.few
   refine(Q0p U x nb fv F s.cnt a8 f fa fc w h1 hin h4l hF (by omega) ag h2.c0 hc1 (fun e=>hne x e (h4 x (by rw[h1.ux];omega)))).mono ?_;rintro e w'⟨rfl,U',af,blk,hb,hX,hG,ho⟩
   have hbl:∀g∈F,g.blk<blk:=fun g hg=>by
    obtain⟨_,_,v,hv,_⟩:=h1.fts g hg;exact AZ (Ad hv) hb
   obtain⟨eZ,hS⟩:=h2.add (f:=f) hbl (by omega);rw[hadd];refine⟨rfl,hG.mono (fun k hk=>h4 k hk),?_⟩;exact XT.mk' (s:=⟨s.rs,s.L++[(s.cnt+1,f)],s.cnt+1,Bp (Al s.rs (s.L++[(s.cnt+1,f)])) s.fired⟩) hX hS (fun i hi e=>by rw[ho i hi] at e;exact h3 i e) (fun i hi e=>by rw[ho i hi] at e;exact h4 i e)
structure Lies(B:Nat)(r:Loop)(W:World):Prop where
 dfr:W.heap[B]?=some (.deferred (some []))
 rcd:W.heap[B+1]?=some (.loop r)
theorem Lies.grown{row:Option Nat}(h:Lies B r W)(hg:W.grownBy W' row)(hr:∀k,row=some k->B+2<=k):Lies B r W':=
 ⟨by rw[hg.block B (Ad h.dfr) (fun e=>by have:=hr B e.symm;omega)];exact h.dfr,by rw[hg.block _ (Ad h.rcd) (fun e=>by have:=hr (B+1) e.symm;omega)];exact h.rcd⟩
theorem Lies.kept(h:Lies B r W)(hk:KeepsFrom B W W'):Lies B r W':=
 ⟨hk.same B _ (AW _) h.dfr rfl,hk.same (B+1) _ (by omega) h.rcd rfl⟩
theorem Lies.turn(h:Lies B r W)(r':Loop):Lies B r' (W.putObj (B+1) (.loop r')):=
 ⟨(ED (by omega)).trans h.dfr,World.putObj_heap_same (Ad h.rcd)⟩
structure Kept(Z L:Nat->Prop)(A B:World):Prop where
 size:A.heap.size<=B.heap.size
 blks:∀(i:Nat) (cs:Array Value) (ty:TypeId) (fz:Nat×Nat),Z i->A.heap[i]?=some (Obj.cells cs ty fz)->B.heap[i]?=some (Obj.cells cs ty fz)
 lasts:∀(i k:Nat) (v:Value),L i->k=2\/k=3->A.cell? ⟨i,k,none⟩=some v->B.cell? ⟨i,k,none⟩=some v
theorem Kept.trans{B C:World}(h:Kept Z L A B)(k:Kept Z L B C):Kept Z L A C:=
 ⟨AU h.size k.size,fun i cs ty fz hz hi=>k.blks i cs ty fz hz (h.blks i cs ty fz hz hi),fun i j v hl hj hc=>k.lasts i j v hl hj (h.lasts i j v hl hj hc)⟩
theorem Kept.mono{Z':Nat->Prop}{B:World}(h:Kept Z L A B)(hz:∀i,Z' i->Z i):Kept Z' L A B:=⟨h.size,fun i cs ty fz hi=>h.blks i cs ty fz (hz i hi),h.lasts⟩
theorem Kept.gr{B:World}(h:A.grownBy B none):Kept Z L A B:=
 ⟨h.size,fun i cs ty fz _ hi=>by rw[h.block i (Ad hi) (by simp)];exact hi,fun i j v _ _ hc=>h.cell hc (by simp)⟩
theorem M8{w:World}{a:Addr}{v:Value}(h:w.cell? a=some v):∃cs ty fz,w.heap[a.block]?=some (Obj.cells cs ty fz):=by
 unfold World.cell? at h;cases hx:w.heap[a.block]? with
 | none=>simp[hx] at h
 | some o=>cases o<;>simp_all
theorem Kept.put(W:World)(l:Nat)(o o':Obj)(h:W.heap[l]?=some o)(ho:o.isCells=false):Kept Z L W (W.putObj l o'):=by
 have hne:∀(i:Nat) (cs:Array Value) (ty:TypeId) (fz:Nat×Nat),W.heap[i]?=some (Obj.cells cs ty fz)->i≠l:=fun i cs ty fz hi e=>by
  subst e;rw[h] at hi;cases hi
  cases ho
 refine⟨by simp,fun i cs ty fz _ hi=>?_,fun i k v _ _ hc=>?_⟩
 ·rw[ED (hne i cs ty fz hi)];exact hi
 ·obtain⟨cs,ty,fz,hb⟩:=M8 hc
  rw[<-hc];exact EC (w:=W) (ED (hne i cs ty fz hb))
def Bears{α:Type}(m:Nat)(J:(Nat->Prop)->List α->World->Prop):Prop:=
 ∀Z Z' s A B row,J Z s A->A.grownBy B row->(∀r,row=some r->m<=r/\∃o:Obj,A.heap[r]?=some o/\o.isCells=false)->(∀i,Z i->Z' i)->(∀i,Z' i->Z i\/A.heap.size<=i/\i<B.heap.size)->J Z' s B
theorem Bears.own{m:Nat}{J:(Nat->Prop)->List α->World->Prop}(h:Bears m J)(Z:Nat->Prop):OwnFrom m (J Z):=fun s A B row hs hg hr=>h Z Z s A B row hs hg hr (fun _ hi=>hi) (fun _ hi=>.inl hi)
def Q4g{α:Type}(F:Fence)(n:Nat)(P:Program)(f:Nat)(caught:Array Value)(encs:α->Array Value)(L Zb:Nat->Prop)(St:World->Prop)(S Sp:(Nat->Prop)->List α->World->Prop)(N:Nat):Prop:=
 ∀(l:Nat) (J Jx:(Nat->Prop)->List α->World->Prop) (Z:Nat->Prop) (W:World),Bears W.heap.size J->Bears W.heap.size Jx->
  (∀Z s x A,J Z s A->s.length<N->YieldAt F (n-1) P l (encs x) A fun e B=>KeepsFrom W.heap.size A B/\Kept Z L A B/\(e=.returned (.bool true)/\J Z (s++[x]) B\/e=.returned (.bool false)/\Jx Z (s++[x]) B))->
  St W->(∀i,Zb i->Z i)->J Z [] W->CallsIn F n P f (#[.func (.yield l) #[] #[]]++caught) W fun e B=>(∃v,e=.returned v)/\((∃Z s,S Z s B/\J Z s B)\/∃Z s,Sp Z s B/\Jx Z s B)
def Q41{α:Type}(B:Nat)(Z L:Nat->Prop)(I:(Nat->Prop)->List α->World->Prop)(Ix:Code->(Nat->Prop)->List α->World->Prop)(s:List α)(W:World):Exit->Act->World->Prop
 | .normal,_,W'=>KeepsFrom B W W'/\Kept Z L W W'/\I Z s W'
 | .ret,_,W'=>KeepsFrom B W W'/\Kept Z L W W'/\Ix .ret Z s W'
 | .exit i,_,W'=>KeepsFrom B W W'/\Kept Z L W W'/\Ix (.exit i) Z s W'
 | _,_,_=>False
def Lk{α:Type}(m:Nat)(J:(Nat->Prop)->List α->World->Prop):Prop:=
 ∀Z Z' s A B row,J Z s A->A.grownBy B row->(∀r,row=some r->m<=r/\Z r/\∃o:Obj,A.heap[r]?=some o/\o.isCells=false)->(∀i,Z i->Z' i)->(∀i,Z' i->Z i\/A.heap.size<=i/\i<B.heap.size)->J Z' s B
theorem Lk.put{α:Type}{m:Nat}{J:(Nat->Prop)->List α->World->Prop}(h:Lk m J){Z:Nat->Prop}{s:List α}{A:World}{r:Nat}{o:Obj}(o':Obj)(hj:J Z s A)(hm:m<=r)(hz:Z r)(ho:A.heap[r]?=some o)(hc:o.isCells=false):J Z s (A.putObj r o'):=
 h Z Z s A _ (some r) hj (grownBy_putObj' A _ _) (fun r' e=>by cases e;exact⟨hm,hz,o,ho,hc⟩) (fun _ h=>h) (fun _ h=>.inl h)
theorem Bears.z{α:Type}{m:Nat}{J:(Nat->Prop)->List α->World->Prop}(h:Bears m J):Lk m J:=fun Z Z' s A B row hs hg hr hm hz=>h Z Z' s A B row hs hg (fun r e=>⟨(hr r e).1,(hr r e).2.2⟩) hm hz
def Hf{α:Type}(F:Fence)(n:Nat)(P:Program)(f:Nat)(caught:Array Value)(encs:α->Array Value)(L Zb:Nat->Prop)(St:World->Prop)(S Sp:(Nat->Prop)->List α->World->Prop)(N:Nat):Prop:=
 ∀(l:Nat) (J Jx:(Nat->Prop)->List α->World->Prop) (Z:Nat->Prop) (W:World),Lk W.heap.size J->Lk W.heap.size Jx->
  (∀Z s x A,J Z s A->s.length<N->YieldAt F (n-1) P l (encs x) A fun e B=>KeepsFrom W.heap.size A B/\Kept Z L A B/\(e=.returned (.bool true)/\J Z (s++[x]) B\/e=.returned (.bool false)/\Jx Z (s++[x]) B))->
  St W->(∀i,Zb i->Z i)->J Z [] W->CallsIn F n P f (#[.func (.yield l) #[] #[]]++caught) W fun e B=>(∃v,e=.returned v)/\((∃Z s,S Z s B/\J Z s B)\/∃Z s,Sp Z s B/\Jx Z s B)
theorem Sf{F:Fence}{P:Program}{g:Operand}{ps:Array Tmp}{assign body:Code}{Q:Exit->Act->World->Prop}{a:Act}{f:Nat}{caught:Array Value}{encs:α->Array Value}{Zb:Nat->Prop}{St:World->Prop}{S Sp:(Nat->Prop)->List α->World->Prop}{N:Nat}
 (lj:F.round=none)(hn:1<=n)(hval:a.eval g=.func (.func f) #[] caught)(hfn:F.fn f)(jL:∀args w,(callFunc f args).run P w=.ok (.enter f args) w)
 (nC:Hf F (n-1) P f caught encs L Zb St S Sp N)(hsize:∀x,(encs x).size=ps.size)(jC:∀B,w.grownBy B none->St B)
 (LY:∀Z,OwnFrom w.heap.size (S Z))(sG:∀Z,OwnFrom w.heap.size (Sp Z))
 (I:(Nat->Prop)->List α->World->Prop)(Ix:Code->(Nat->Prop)->List α->World->Prop)(hB:Lk w.heap.size I)(oh:∀c,Lk w.heap.size (Ix c))
 (Z0:Nat->Prop)(hZ0:∀i,Zb i->Z0 i)(h0:I Z0 [] w)
 (Ax:α->Act->World->Prop)(VX:∀x b,OwnFrom w.heap.size (fun(_:Unit) W=>Ax x b W))
 (s9:∀(l:Nat) (Z:Nat->Prop) (s:List α) (x:α) (W:World) (K:Act->World->Prop),I Z s W->(∀b W',KeepsFrom w.heap.size W W'->Kept Z L W W'->I Z s W'->Ax x b W'->K b W')->
   assign.wpIn (F.inRound l) (n-1-1) P (Exit.then K (fun _ _ _=>False)) { tmps:=(ps.zip (encs x)).foldl (fun t (p,v)=>t.setIfInBounds p v) a.tmps,defers:=[] } W)
 (LI:∀(l:Nat) (Z:Nat->Prop) (s:List α) (x:α) (b:Act) (W:World),w.heap.size<=l->(∃r,W.heap[l]?=some (.loop r))->I Z s W->Ax x b W->s.length<N->body.wpIn (F.inRound l) (n-1-1) P (Q41 w.heap.size Z L I Ix (s++[x]) W) b W)
 (hdone:∀(Z:Nat->Prop) (s:List α) (W:World),S Z s W->I Z s W->Z w.heap.size->W.heap[w.heap.size]?=some (.deferred (some []))->Q .normal { a with defers:={ target:=.collected w.heap.size,args:=#[] } :: a.defers } W)
 (zN:∀(c:Code) (Z:Nat->Prop) (s:List α) (W:World),Sp Z s W->Ix c Z s W->Z w.heap.size->W.heap[w.heap.size]?=some (.deferred (some []))->c.wpIn F n P Q { a with defers:={ target:=.collected w.heap.size,args:=#[] } :: a.defers } W) :
  (Code.rangeFunc g ps assign body).wpIn F n P Q a w:=by
 refine wpIn_rangeFunc (fun fn hin=>?_);rw[lj]
 let R:LoopState->Option Code->Loop:=fun st pe=>{ state:=st,pending:=pe,fn:=fn,tmps:=a.tmps,params:=ps,assign:=assign,body:=body,defers:=w.heap.size }
 have hgrow:w.grownBy ((w.alloc (.deferred (some []))).alloc (.loop (R .ready none))) none:=Ab (AA w _ none) (AA _ _ none)
 have zK:Lies w.heap.size (R .ready none) ((w.alloc (.deferred (some []))).alloc (.loop (R .ready none))):=by
  constructor
  ·rw[CY _ _ _ (by simp)];exact World.alloc_heap_new w _
  ·have:=World.alloc_heap_new (w.alloc (.deferred (some []))) (.loop (R .ready none))
   rw[EP] at this;exact this
 have hsz:((w.alloc (.deferred (some []))).alloc (.loop (R .ready none))).heap.size=w.heap.size+2:=by simp
 have hI1:I (fun i=>Z0 i\/i=w.heap.size\/i=w.heap.size+1) [] ((w.alloc (.deferred (some []))).alloc (.loop (R .ready none))):=hB Z0 _ [] w _ none h0 hgrow (by simp) (fun i h=>.inl h) (fun i hi=>by
  rw[hsz];rcases hi with h|h|h
  ·exact .inl h
  ·exact .inr ⟨by omega,by omega⟩
  ·exact .inr ⟨by omega,by omega⟩)
 refine⟨_,_,(w.alloc (.deferred (some []))).alloc (.loop (R .ready none)),{ target:=.fn (.func f) caught,args:=#[.func (.yield (w.heap.size+1)) #[] #[]] },(w.alloc (.deferred (some []))).alloc (.loop (R .ready none)),f,#[.func (.yield (w.heap.size+1)) #[] #[]]++caught,(w.alloc (.deferred (some []))).alloc (.loop (R .ready none)),run_enterLoop_outer fn a.tmps ps assign body,?_,?_,?_,fun _=>hn,?_⟩
 ·simp only[resolve,hval]
  simp[go_sem]
 ·intro f' hf'
  simp[Target.leads] at hf';rw[<-hf'];exact hfn
 ·simp[invoke,go_sem,jL]
 ·have lj:∀Z s x A,(I Z s A/\Lies w.heap.size (R .ready none) A/\Z w.heap.size/\Z (w.heap.size+1))->s.length<N->YieldAt F (n-1-1) P (w.heap.size+1) (encs x) A fun e B=>KeepsFrom (w.heap.size+2) A B/\Kept Z L A B/\(e=.returned (.bool true)/\(I Z (s++[x]) B/\Lies w.heap.size (R .ready none) B/\Z w.heap.size/\Z (w.heap.size+1))\/e=.returned (.bool false)/\∃c,Ix c Z (s++[x]) B/\Lies w.heap.size (R .done (some c)) B/\Z w.heap.size/\Z (w.heap.size+1)):=by
   rintro Z s x A⟨hi,hl,hz0,hz1⟩ hlen;have hy:=run_yield (P:=P) (args:=encs x) hl.rcd (hsize x);refine⟨fn,_,assign,body,hy,roundIn_of_wpIn hin (s9 _ Z s x A _ hi (fun b B hk dM hib hab=>?_))⟩;have zO:=hl.kept hk;refine⟨_,run_beginRound zO.rcd rfl,?_⟩;have PJ:=zO.turn { R .ready none with state:=.busy };have hfr:∀ {X Y:World},KeepsFrom w.heap.size X Y->KeepsFrom (w.heap.size+2) X Y:=fun h=>⟨h.size,fun k o hk=>h.same k o (by omega)⟩
   have xg:∀(X:World) (o:Obj),KeepsFrom (w.heap.size+2) X (X.putObj (w.heap.size+1) o):=fun X o=>KeepsFrom.of_grownBy (KF X _ _) (fun j e=>by cases e;omega)
   have TH:Kept Z L B (B.putObj (w.heap.size+1) (.loop { R .ready none with state:=.busy })):=Kept.put _ _ _ _ zO.rcd rfl;refine wpIn_mono (LI _ Z s x b _ (by omega) ⟨_,PJ.rcd⟩ (hB.put _ hib (by omega) hz1 zO.rcd rfl) ((VX x b).putObj (s:=()) _ hab (by omega) zO.rcd rfl) hlen) ?_;intro e b' D hout;cases e with
   | normal=>
    obtain⟨o1,o2,o3⟩:=hout;have nG:=PJ.kept o1;exact⟨_,_,run_endRound none nG.rcd,(hfr hk).trans ((xg _ _).trans ((hfr o1).trans (xg _ _))),dM.trans (TH.trans (o2.trans (Kept.put _ _ _ _ nG.rcd rfl))),.inl ⟨rfl,hB.put _ o3 (by omega) hz1 nG.rcd rfl,nG.turn _,hz0,hz1⟩⟩
   | ret=>
    obtain⟨o1,o2,o3⟩:=hout;have nG:=PJ.kept o1;exact⟨_,_,run_endRound (some .ret) nG.rcd,(hfr hk).trans ((xg _ _).trans ((hfr o1).trans (xg _ _))),dM.trans (TH.trans (o2.trans (Kept.put _ _ _ _ nG.rcd rfl))),.inr ⟨rfl,.ret,(oh _).put _ o3 (by omega) hz1 nG.rcd rfl,nG.turn _,hz0,hz1⟩⟩
   | exit i=>
    obtain⟨o1,o2,o3⟩:=hout;have nG:=PJ.kept o1;exact⟨_,_,run_endRound (some (.exit i)) nG.rcd,(hfr hk).trans ((xg _ _).trans ((hfr o1).trans (xg _ _))),dM.trans (TH.trans (o2.trans (Kept.put _ _ _ _ nG.rcd rfl))),.inr ⟨rfl,.exit i,(oh _).put _ o3 (by omega) hz1 nG.rcd rfl,nG.turn _,hz0,hz1⟩⟩
   | goto t=>exact hout.elim
   | panic c=>exact hout.elim
   | outgrown=>exact hout.elim
  refine(nC (w.heap.size+1) (fun Z s A=>I Z s A/\Lies w.heap.size (R .ready none) A/\Z w.heap.size/\Z (w.heap.size+1)) (fun Z s A=>∃c,Ix c Z s A/\Lies w.heap.size (R .done (some c)) A/\Z w.heap.size/\Z (w.heap.size+1)) (fun i=>Z0 i\/i=w.heap.size\/i=w.heap.size+1) _ ?_ ?_ (by rw[hsz];exact lj) (jC _ hgrow) (fun i hi=>.inl (hZ0 i hi)) ⟨hI1,zK,.inr (.inl rfl),.inr (.inr rfl)⟩).mono ?_
  ·intro Z Z' s A B row hs hg hr hm hz
   rw[hsz] at hr;exact⟨hB Z Z' s A B row hs.1 hg (fun r e=>⟨by have:=(hr r e).1;omega,(hr r e).2⟩) hm hz,hs.2.1.grown hg (fun r e=>(hr r e).1),hm _ hs.2.2.1,hm _ hs.2.2.2⟩
  ·intro Z Z' s A B row hs hg hr hm hz
   rw[hsz] at hr;obtain⟨c,h1,h2,h3,h4⟩:=hs;exact⟨c,oh c Z Z' s A B row h1 hg (fun r e=>⟨by have:=(hr r e).1;omega,(hr r e).2⟩) hm hz,h2.grown hg (fun r e=>(hr r e).1),hm _ h3,hm _ h4⟩
  ·rintro e D⟨⟨v,rfl⟩,⟨Z,s,hS,hi,hl,hz0,hz1⟩|⟨Z,s,hS,c,hi,hl,hz0,hz1⟩⟩
   ·exact⟨none,_,run_endLoop hl.rcd (by simp[R]),hdone Z s _ ((LY Z).putObj _ hS (by omega) hl.rcd rfl) (hB.put _ hi (by omega) hz1 hl.rcd rfl) hz0 (hl.turn _).dfr⟩
   ·exact⟨some c,_,run_endLoop hl.rcd (by simp[R]),zN c Z s _ ((sG Z).putObj _ hS (by omega) hl.rcd rfl) ((oh c).put _ hi (by omega) hz1 hl.rcd rfl) hz0 (hl.turn _).dfr⟩
def Gx(w w':World):Prop:=w.grownBy w' none/\w.drawn<=w'.drawn
theorem Gx.refl(w:World):Gx w w:=⟨AD _ _,AW _⟩
theorem Gx.trans{b c:World}(h:Gx a b)(k:Gx b c):Gx a c:=⟨Ab h.1 k.1,AU h.2 k.2⟩
theorem Q4o(h:n<=a.drawn)(o:Obj):n<=(a.alloc o).drawn:=h
theorem Vw(h:n<=a.drawn):n<=a.drew.drawn:=Nat.le_succ_of_le h
theorem Q1y(h:Gx w a):Gx w a.drew:=⟨Ah h.1,Vw h.2⟩
theorem Zk(w:World)(n:Nat):Gx w (w.drewN n):=⟨Af _ _ _,Nat.le_add_right _ _⟩
theorem Gx.form(h:Gx w w'):∃q os,w'=Sort.grow (w.drewN q) os:=by
 obtain⟨⟨h1,h2,h3,h4,h5⟩,hd⟩:=h;refine⟨w'.drawn-w.drawn,w'.heap.extract w.heap.size w'.heap.size,?_⟩
 have hh:w'.heap=w.heap++w'.heap.extract w.heap.size w'.heap.size:=by
  apply Array.ext_getElem?
  intro i;by_cases hi:i<w.heap.size
  ·rw[ID hi]
   exact h5 i hi (by simp)
  ·rw[Array.getElem?_append_right (by omega)]
   simp only[Array.getElem?_extract];split
   ·congr 1
    omega
   ·rename_i hn
    rw[KP (by omega)]
 unfold Sort.grow;cases w'
 cases w
 simp only[World.drewN,World.mk.injEq] at *;exact⟨hh,h2,by omega,h1,h3⟩
theorem Wk(a:Int)(w:World):Calls Tryz.prog 165 #[.int .i64 a] w fun e w'=>e=.returned (.bool false)/\Gx w w':=by
 go_enter Tryz.func165,Tryz.ntmps165;have hd:(a !=a)=false:=by simp
 go_wp2
 all_goals first|(go_ret;exact⟨rfl,Gx.refl _⟩)|skip
 all_goals
  go_quiet (fail);go_wp2;go_ret;exact⟨rfl,Zk _ _⟩
theorem Q3d(a b:Int)(w:World):Calls Tryz.prog 144 #[.int .i64 a,.int .i64 b] w fun e w'=>e=.returned (.int .i64 (cmpI a b))/\Gx w w':=by
 have b9:=Wk a w;go_enter Tryz.func144,Tryz.ntmps144;go_wp2_with fail;refine b9.mono ?_;rintro e w1⟨rfl,hg1⟩;have bb:=Wk b w1;clear b9;go_wp2_with fail;refine bb.mono ?_;rintro e w2⟨rfl,hg2⟩;have hg:=Gx.trans hg1 hg2;clear bb hg1 hg2;by_cases h1:a<b
 ·have hd:decide (a<b)=true:=by simpa using h1
  have HE:=Ac (show cmpI a b=-1 from by unfold cmpI;rw[AQ h1]);go_wp2;go_ret;exact⟨by rw[Aa HE];rfl,hg⟩
 ·have hd:decide (a<b)=false:=by simpa using h1
  by_cases h2:b<a
  ·have bZ:decide (b<a)=true:=by simpa using h2
   have HE:=Ac (show cmpI a b=1 from by unfold cmpI;rw[AO h1,AQ h2]);go_wp2;go_ret;exact⟨by rw[Aa HE];rfl,hg⟩
  ·have bZ:decide (b<a)=false:=by simpa using h2
   have HE:=Ac (show cmpI a b=0 from by unfold cmpI;rw[AO h1,AO h2]);go_wp2;go_ret;exact⟨by rw[Aa HE];rfl,hg⟩
theorem Q30(v u:Value)(x y:List Int)(w:World)(hx:InAt v x w)(hy:InAt u y w) :
  Calls Tryz.prog 111 #[v,u] w fun e w'=>e=.returned (.int .i64 (cmpL x y))/\Gx w w':=by
 obtain⟨va,vc,rfl⟩:=hx.slice;obtain⟨ua,uc,rfl⟩:=hy.slice;have lx:=hx.le;have ly:=hy.le;unfold maxLen at lx ly;obtain⟨R,hR⟩:∃R,cmpL x y=R:=⟨_,rfl⟩
 rw[hR];have HR:=Ac hR;have HX:=Ac hx;have HY:=Ac hy;clear hR hx hy;go_enter Tryz.func111,Tryz.ntmps111;go_wp2;go_loopw [11] (fun z w'=>∃k:Nat,k<=x.length/\k<=y.length/\z=.int .i64 k/\cmpL (x.drop k) (y.drop k)=R/\Gx w w') (fun z _=>x.length-(intOf z).toNat)
 case atStart=>exact⟨0,AG _,AG _,rfl,Aa HR,Gx.refl _⟩
 case round=>
  clear HR;obtain⟨k,hk,hk2,rfl,hr,hg⟩:=hrel;by_cases hlt:k<x.length
  ·have hd:decide (k<x.length)=true:=by simpa using hlt
   obtain⟨a,ha⟩:∃a,x[k]?=some a:=⟨_,AB hlt⟩
   obtain⟨g,off,e1,c1⟩:=((Aa HX).gr hg.1).cell ha;subst e1;rw[A0 ha] at hr;by_cases zH:k<y.length
   ·have bZ:decide ((y.length:Int)<=(k:Int))=false:=by simp;omega
    obtain⟨b,hb⟩:∃b,y[k]?=some b:=⟨_,AB zH⟩
    obtain⟨g2,uj,e2,c2⟩:=((Aa HY).gr hg.1).cell hb;subst e2;rw[A0 hb,Ho] at hr;have hC:=Q3d a b wr;obtain⟨r,hr1⟩:∃r,cmpI a b=r:=⟨_,rfl⟩
    rw[hr1] at hr hC;have HR:=Ac hr;clear hr hr1 ha hb;go_wp2_with fail;refine hC.mono ?_;rintro e w1⟨rfl,hg1⟩;have bI:=Gx.trans hg hg1;clear hg1 hC;have hr:=Aa HR;by_cases h0:r=0
    ·have vr:(r !=0)=false:=by simpa using h0
     rw[AQ h0] at hr;have cD:=Ac hr;clear hr HR h0;go_wp2;go_roundw
     case rel=>exact⟨k+1,by omega,by omega,by go_num,Aa cD,bI⟩
     case measure=>simp[intOf];omega
    ·have vr:(r !=0)=true:=by simpa using h0
     rw[AO h0] at hr;subst hr;clear HR h0;go_wp2;go_ret;exact⟨rfl,bI⟩
   ·have bZ:decide ((y.length:Int)<=(k:Int))=true:=by simp;omega
    have e:y.drop k=[]:=BD (by omega);rw[e] at hr;have hr2:1=R:=hr;subst hr2;clear e hr ha;go_wp2;go_ret;exact⟨rfl,hg⟩
  ·have hd:decide (k<x.length)=false:=by simpa using hlt
   have e:x.drop k=[]:=BD (by omega);rw[e] at hr;by_cases zH:x.length<y.length
   ·have bZ:decide ((x.length:Int)<(y.length:Int))=true:=by simp;omega
    obtain⟨b,hb⟩:∃b,y[k]?=some b:=⟨_,AB (by omega)⟩
    rw[A0 hb] at hr;have hr2:-1=R:=hr;subst hr2;clear e hr hb;go_wp2;go_ret;exact⟨rfl,hg⟩
   ·have bZ:decide ((x.length:Int)<(y.length:Int))=false:=by simp;omega
    have e2:y.drop k=[]:=BD (by omega);rw[e2] at hr;have hr2:0=R:=hr;subst hr2;clear e e2 hr;go_wp2;go_ret;exact⟨rfl,hg⟩
theorem Yz(U:Nat->Nat)(t u:Tok)(w:World)(dR:t.length<=4)(nh:u.length<=4)(ht:∀g∈t,FtAt U g w)(hu:∀g∈u,FtAt U g w) :
  Calls Tryz.prog 115 #[Bt t,Bt u] w fun e w'=>e=.returned (.int .i64 (cmpL t.nums u.nums))/\Gx w w':=by
 obtain⟨p0,p1,p2,p3,hp,hi,b7,eH,jE,l6⟩:=Ef dR ht;obtain⟨q0,q1,q2,q3,hq,hj,vN,o8,dE,vM⟩:=Ef nh hu;have eT:Bt t=.agg #[.pointer p0,.pointer p1,.pointer p2,.pointer p3]:=by unfold Bt;rw[hp]
 have eU:Bt u=.agg #[.pointer q0,.pointer q1,.pointer q2,.pointer q3]:=by unfold Bt;rw[hq]
 rw[eT,eU];have a7:=Dm w (.cells #[.pointer p0,.pointer p1,.pointer p2,.pointer p3] 139) (.cells #[.pointer q0,.pointer q1,.pointer q2,.pointer q3] 139)
 have hN:∀wx r0 r1 r2 r3,w.grownBy wx none->TC U r0 (pid w r0) w->TC U r1 (pid w r1) w->TC U r2 (pid w r2) w->TC U r3 (pid w r3) w->Calls Tryz.prog 109 #[.agg #[.pointer r0,.pointer r1,.pointer r2,.pointer r3]] wx fun e w'=>e=.returned (.agg #[.int .i64 (pid w r0),.int .i64 (pid w r1),.int .i64 (pid w r2),.int .i64 (pid w r3)])/\w'=((wx.alloc (.cells #[.pointer r0,.pointer r1,.pointer r2,.pointer r3] 139)).alloc (.cells #[.int .i64 (pid w r0),.int .i64 (pid w r1),.int .i64 (pid w r2),.int .i64 (pid w r3)] 39)).alloc (.cells #[.int .i64 (pid w r0),.int .i64 (pid w r1),.int .i64 (pid w r2),.int .i64 (pid w r3)] 39):=
  fun wx r0 r1 r2 r3 hg h0 h1 h2 h3=>Hv U r0 r1 r2 r3 _ _ _ _ wx (h0.gr hg) (h1.gr hg) (h2.gr hg) (h3.gr hg)
 have HI:=Ac hi;have HJ:=Ac hj;clear hp hq eT eU hi hj ht hu;go_enter Tryz.func115,Tryz.ntmps115;go_wp2_with fail
 go_cut [5,6] (fun x y wx=>Q4m w x y t u wx/\w.drawn<=wx.drawn)
 case first=>
  go_region_held3 (fun w'=>w'.cell? ⟨w.heap.size,0,none⟩=some (.pointer p0)/\w'.cell? ⟨w.heap.size,1,none⟩=some (.pointer p1)/\w'.cell? ⟨w.heap.size,2,none⟩=some (.pointer p2)/\w'.cell? ⟨w.heap.size,3,none⟩=some (.pointer p3)/\w'.cell? ⟨w.heap.size+1,0,none⟩=some (.pointer q0)/\w'.cell? ⟨w.heap.size+1,1,none⟩=some (.pointer q1)/\w'.cell? ⟨w.heap.size+1,2,none⟩=some (.pointer q2)/\w'.cell? ⟨w.heap.size+1,3,none⟩=some (.pointer q3)) (first|exact Fc w _ p0 p1 p2 p3 q0 q1 q2 q3 (by(refine Ah ?_;repeat (first|with_reducible exact AD _ _|refine E1 ?_ _)))|exact Fc w _ p0 p1 p2 p3 q0 q1 q2 q3 (by(repeat (first|with_reducible exact AD _ _|refine E1 ?_ _)))|go_keep)
   (first|(go_at_call 109;refine(hN _ _ _ _ _ (by(first|(refine Ah ?_;repeat (first|with_reducible exact a7|refine E1 ?_ _))|(repeat (first|with_reducible exact a7|refine E1 ?_ _)))) (by assumption) (by assumption) (by assumption) (by assumption)).mono ?_;rintro e w1⟨rfl,rfl⟩))
  all_goals
   go_wp2_with fail;go_meet
   exact⟨⟨_,_,_,_,_,_,_,_,_,_,rfl,rfl,Aa HI,Aa HJ,by(refine A4.dr ?_;repeat (first|(refine A4.nw ?_;simp;done)|refine A4.al ?_)),by(refine A4.dr ?_;repeat (first|(refine A4.nw ?_;simp;done)|refine A4.al ?_)),by omega,by omega,by omega,by(refine Ah ?_;repeat (first|with_reducible exact AD _ _|refine E1 ?_ _))⟩,by(refine Vw ?_;repeat (first|with_reducible exact AW _|refine Q4o ?_ _))⟩
 case rest=>
  obtain⟨⟨g1,g2,a0,a1,a2,a3,b0,b1,b2,b3,rfl,rfl,ha,hb,hA,hB,hne,hg1,hg2,ah⟩,hdw⟩:=hcut;have hC:=fun wx (h:wc.grownBy wx none)=>Q30 _ _ _ _ wx (hA.inAt.gr h) (hB.inAt.gr h)
  rw[<-ha,<-hb] at hC;have ZE:=Ad hA;have ZC:=Ad hB;clear hN a7 HI HJ b7 eH jE l6 vN o8 dE vM hA hB ha hb;go_wp2_with fail
  go_region_with (go_at_call 111;refine(hC _ (by repeat (first|exact AD _ _|apply Ah))).mono ?_;rintro e w4⟨rfl,hg4⟩)
  all_goals
   go_wp2;go_ret;exact⟨rfl,Gx.trans ⟨ah,hdw⟩ (Gx.trans (by repeat (first|with_reducible exact Gx.refl _|apply Q1y)) hg4)⟩
end Go.Proofs.YtolhbeekfjnfmaaGreatDoor

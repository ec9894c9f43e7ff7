import Derived.Test.YtolhbeekfjnfmaaGreatDoorMA
import Derived.Test.YtolhbeekfjnfmaaGreatDoorM23
import Derived.Test.YtolhbeekfjnfmaaGreatDoorM26
import Derived.Test.YtolhbeekfjnfmaaGreatDoorM21
import Derived.Test.YtolhbeekfjnfmaaGreatDoorM17
set_option maxHeartbeats 8000000
set_option maxRecDepth 100000
namespace Go.Proofs.YtolhbeekfjnfmaaGreatDoor
open Go.RowKit
variable {T U:Nat->Nat}{t x nb B n:Nat}{s:Sv.St}{w w' W W' A a:World}{fv:Value}{F:List Ft}{a8:List Ch}{r:Loop}{Z L:Nat->Prop}{α:Type}
def XT(T:Nat->Nat)(t x:Nat)(s:Sv.St)(w:World):Prop:=
 ∃U nb fv F a8 Zs,XAt U x nb fv F s.cnt a8 w/\XSt s F a8 Zs/\(∀i,U i=1->T i=0)/\(∀i,2<=U i->T i=t)/\∀i,w.heap.size<=i->U i=0
theorem XT.keep{T T':Nat->Nat}{t x:Nat}{s:Sv.St}{w w':World}{S:Nat->Prop}(h:XT T t x s w)(hg:GrS S w w')(hs:∀k,T k=t\/T k=0->¬ S k)(ho:∀k,k<w.heap.size->T k=t\/T k=0->T' k=T k):XT T' t x s w':=by
 obtain⟨U,nb,fv,F,a8,Zs,h1,h2,h3,h4,h5⟩:=h
 have hlt:∀i,U i≠0->i<w.heap.size:=fun i hi=>by
  rcases FL i w.heap.size with h|h
  ·exact h
  ·exact absurd (h5 i h) hi
 have hT:∀i,U i≠0->T i=t\/T i=0:=fun i hi=>by
  by_cases h:U i=1
  ·exact .inr (h3 i h)
  ·exact .inl (h4 i (by omega))
 refine⟨U,nb,fv,F,a8,Zs,h1.keep hg (fun i hi=>hs i (hT i hi)) (fun _ _=>rfl),h2,fun i hi=>?_,fun i hi=>?_,fun i hi=>h5 i (AU hg.size hi)⟩
 ·have hn:U i≠0:=by omega
  rw[ho i (hlt i hn) (hT i hn)];exact h3 i hi
 ·have hn:U i≠0:=by omega
  rw[ho i (hlt i hn) (hT i hn)];exact h4 i hi
theorem XT.gr{T':Nat->Nat}(h:XT T t x s w)(hg:w.grownBy w' none)(ho:∀k,k<w.heap.size->T' k=T k):XT T' t x s w':=
 h.keep (GrS.of hg (by simp):GrS (fun _=>False) w w') (by simp) (fun k hk _=>ho k hk)
theorem XAt.norm{cnt:Int}(h:XAt U x nb fv F cnt a8 w):XAt (fun i=>if i<w.heap.size then U i else 0) x nb fv F cnt a8 w:=
 h.keep (GrS.refl (fun _=>False) w) (by simp) (fun i hi=>by rw[AQ hi])
theorem XT.mk'{Zs:List (List Tok)}(h:XAt U x nb fv F s.cnt a8 w')(h2:XSt s F a8 Zs)(h1:∀i,i<w.heap.size->U i=1->T i=0)(h3:∀i,i<w.heap.size->2<=U i->T i=t) :
  ∃T',XT T' t x s w'/\∀k,k<w.heap.size->T' k=T k:=by
 refine⟨fun i=>if i<w.heap.size then T i else if U i=1 then 0 else t,⟨_,nb,fv,F,a8,Zs,h.norm,h2,fun i hi=>?_,fun i hi=>?_,fun i hi=>?_⟩,fun k hk=>?_⟩
 ·dsimp only at hi⊢
  by_cases hw':i<w'.heap.size
  ·rw[AQ hw'] at hi
   by_cases qY:i<w.heap.size
   ·rw[AQ qY];exact h1 i qY hi
   ·rw[AO qY,AQ hi]
  ·rw[AO hw'] at hi;cases hi
 ·dsimp only at hi⊢
  by_cases hw':i<w'.heap.size
  ·rw[AQ hw'] at hi
   by_cases qY:i<w.heap.size
   ·rw[AQ qY];exact h3 i qY hi
   ·rw[AO qY,AO (by omega)]
  ·rw[AO hw'] at hi;omega
 ·rw[AO (by omega)]
 ·dsimp only
  rw[AQ hk]
theorem Lm(l:List UInt8)(rs:List Sv.Rule)(h:Bh l=.inr rs):Bn l=.inr rs:=by
 unfold Bh at h;split at h
 ·cases h
 ·cases hr:Bn l with
  | inl k=>rw[hr] at h;cases h
  | inr rs'=>
   rw[hr] at h;simp only at h;split at h
   ·cases h
   ·cases h;rfl
theorem Q4q(T:Nat->Nat)(t:Nat)(s:ByteArray)(aT aL:Addr)(w:World)(hL:LD aT aL w)(hP:3<w.heap.size)(hm:s.size<=maxLen) :
  Calls Tryz.prog 17 #[.string s] w fun e w'=>w.grownBy w' none/\match Bh s.data.toList with
   | .inl k=>e=.returned (.tuple #[.pointer none,.int .i64 k])
   | .inr rs=>∃T' x,e=.returned (.tuple #[.pointer (some ⟨x,0,none⟩),.int .i64 0])/\XT T' t x ⟨rs,[],0,[]⟩ w'/\w.heap.size<=x/\∀k,k<w.heap.size->T' k=T k:=by
 refine(Q3a s aT aL w hL hP hm).mono ?_;rintro e w'⟨hg,hp⟩;refine⟨hg,?_⟩;cases hr:Bh s.data.toList with
 | inl k=>rw[hr] at hp;exact hp
 | inr rs=>
  rw[hr] at hp;obtain⟨x,nb,U,rfl,hx,hxw,pN,hb,⟨w1,hN,h1,hg1⟩,rF,uu⟩:=hp;have aK:=Hd _ rs hr;have oZ:=Ox _ rs (Lm _ rs hr);have hst:XSt ⟨rs,[],0,[]⟩ [] (rs.map (fun r=>E0 r.conds)) (rs.map (fun _=>[])):=XSt.new rs aK.len (fun r hr=>⟨aK.conds r hr,oZ r hr⟩);obtain⟨U',pE⟩:∃U':Nat->Nat,U'=fun i=>if i=x then 2 else U i:=⟨_,rfl⟩
  have hX:XAt U' x nb (.slice none 0 0) [] (0:Int) (rs.map (fun r=>E0 r.conds)) w':=by
   refine⟨hb,by rw[pE];dsimp only;rw[AQ rfl],⟨RowAt.nil _ _ Jm,by simp[Value.ownBlock]⟩,by simp,?_⟩;exact hN.keep (GrS.of hg1 (by simp):GrS (fun _=>False) w1 w') (by simp) (fun i hi=>by rw[pE];dsimp only;rw[AO (by omega)])
  obtain⟨T',h2,h3⟩:=XT.mk' (T:=T) (t:=t) (w:=w) (s:=⟨rs,[],0,[]⟩) hX hst (fun i hi h=>by rw[pE] at h;dsimp only at h;rw[AO (by omega),rF i hi] at h;cases h) (fun i hi h=>by rw[pE] at h;dsimp only at h;rw[AO (by omega),rF i hi] at h;omega);exact⟨T',x,rfl,h2,hx,h3⟩
theorem Q4h(T:Nat->Nat)(t x:Nat)(s:Sv.St)(f:Sv.Fact)(fa:Option Addr)(fc:Nat)(w:World)(h:XT T t x s w)(hc1:s.cnt<=4611686018427387904)(hin:InAt (.slice fa f.vals.length fc) f.vals w)(hl:f.vals.length<=maxLen)(hne:∀g,(Value.slice fa f.vals.length fc).ownBlock=some g->T g≠t) :
  Calls Tryz.prog 18 #[.pointer (some ⟨x,0,none⟩),.agg #[.int .i64 f.kind,.slice fa f.vals.length fc]] w fun e w'=>e=.returned (.tuple #[.int .i64 (s.add f).1.1,.int .i64 (s.add f).1.2])/\GrS (fun k=>T k=t) w w'/\∃T',XT T' t x (s.add f).2 w'/\∀k,k<w.heap.size->T' k=T k:=by
 have h0:=h;obtain⟨U,nb,fv,F,a8,Zs,h1,h2,h3,h4,h5⟩:=h;have rL:F.length=s.L.length:=by rw[<-h2.facts,BA]
 cases hF:Aw f
 ·refine(Q1t x f fa fc w hin hl hF).mono ?_
  rintro e w'⟨rfl,hg⟩;have hadd:s.add f=((0,3),s):=by unfold Sv.St.add;rw[AQ hF]
  rw[hadd];exact⟨rfl,GrS.of hg (by simp),T,h0.gr hg (fun _ _=>rfl),fun _ _=>rfl⟩
 ·by_cases RJ:16<=s.L.length
  ·have UX:F.length=16:=by have:=h2.few;omega
   refine(Xc U x nb fv F s.cnt a8 f fa fc w h1 hin hl hF UX).mono ?_;rintro e w'⟨rfl,hg⟩;have hadd:s.add f=((0,4),s):=by unfold Sv.St.add;rw[AO (by rw[hF];simp),AQ RJ]
   rw[hadd];exact⟨rfl,GrS.of hg (by simp),T,h0.gr hg (fun _ _=>rfl),fun _ _=>rfl⟩
  ·have hadd:s.add f=((s.cnt+1,0),⟨s.rs,s.L++[(s.cnt+1,f)],s.cnt+1,Bp (Am s.rs (s.L++[(s.cnt+1,f)])) s.fired⟩):=by unfold Sv.St.add;rw[AO (by rw[hF];simp),AO RJ]
   have h4l:f.vals.length<=4:=by
    unfold Aw at hF;rw[EC,EW,DI] at hF;have:=hF.1.2;simpa using this
   have ah:∀c∈a8,ChFit c:=by
    intro c hc;obtain⟨i,hi⟩:=FC hc;have eW:i<s.rs.length:=by have:=(AL.1 hi).1;rw[h2.rules.len.1] at this;exact this
    obtain⟨c2,Z,p1,p2,p3⟩:=h2.rules.get (AB eW);rw[hi] at p1;simp only[AE] at p1;subst p1;exact p3.ok.fit p3.fd p3.few h2.few
   refine(Z7 U x nb fv F s.cnt a8 f fa fc w h1 hin h4l hF (by omega) ah h2.c0 hc1 (fun e=>hne x e (h4 x (by rw[h1.ux];omega)))).mono ?_;rintro e w'⟨rfl,U',ag,blk,hb,hX,hG,ho⟩
   have hbl:∀g∈F,g.blk<blk:=fun g hg=>by
    obtain⟨_,_,v,hv,_⟩:=h1.fts g hg;exact AZ (Af hv) hb
   obtain⟨fG,hS⟩:=h2.add (f:=f) hbl (by omega);rw[hadd];refine⟨rfl,hG.mono (fun k hk=>h4 k hk),?_⟩;exact XT.mk' (s:=⟨s.rs,s.L++[(s.cnt+1,f)],s.cnt+1,Bp (Am s.rs (s.L++[(s.cnt+1,f)])) s.fired⟩) hX hS (fun i hi e=>by rw[ho i hi] at e;exact h3 i e) (fun i hi e=>by rw[ho i hi] at e;exact h4 i e)
structure Lies(B:Nat)(r:Loop)(W:World):Prop where
 dfr:W.heap[B]?=some (.deferred (some []))
 rcd:W.heap[B+1]?=some (.loop r)
theorem Lies.grown{row:Option Nat}(h:Lies B r W)(hg:W.grownBy W' row)(hr:∀k,row=some k->B+2<=k):Lies B r W':=
 ⟨by rw[hg.block B (Af h.dfr) (fun e=>by have:=hr B e.symm;omega)];exact h.dfr,by rw[hg.block _ (Af h.rcd) (fun e=>by have:=hr (B+1) e.symm;omega)];exact h.rcd⟩
theorem Lies.kept(h:Lies B r W)(hk:KeepsFrom B W W'):Lies B r W':=
 ⟨hk.same B _ (AW _) h.dfr rfl,hk.same (B+1) _ (by omega) h.rcd rfl⟩
theorem Lies.turn(h:Lies B r W)(r':Loop):Lies B r' (W.putObj (B+1) (.loop r')):=
 ⟨(EL (by omega)).trans h.dfr,World.putObj_heap_same (Af h.rcd)⟩
structure Kept(Z L:Nat->Prop)(A B:World):Prop where
 size:A.heap.size<=B.heap.size
 blks:∀(i:Nat) (cs:Array Value) (ty:TypeId) (fz:Nat×Nat),Z i->A.heap[i]?=some (Obj.cells cs ty fz)->B.heap[i]?=some (Obj.cells cs ty fz)
 lasts:∀(i k:Nat) (v:Value),L i->k=2\/k=3->A.cell? ⟨i,k,none⟩=some v->B.cell? ⟨i,k,none⟩=some v
theorem Kept.trans{B C:World}(h:Kept Z L A B)(k:Kept Z L B C):Kept Z L A C:=
 ⟨AU h.size k.size,fun i cs ty fz hz hi=>k.blks i cs ty fz hz (h.blks i cs ty fz hz hi),fun i j v hl hj hc=>k.lasts i j v hl hj (h.lasts i j v hl hj hc)⟩
theorem Kept.mono{Z':Nat->Prop}{B:World}(h:Kept Z L A B)(hz:∀i,Z' i->Z i):Kept Z' L A B:=⟨h.size,fun i cs ty fz hi=>h.blks i cs ty fz (hz i hi),h.lasts⟩
theorem Kept.gr{B:World}(h:A.grownBy B none):Kept Z L A B:=
 ⟨h.size,fun i cs ty fz _ hi=>by rw[h.block i (Af hi) (by simp)];exact hi,fun i j v _ _ hc=>h.cell hc (by simp)⟩
theorem N6{w:World}{a:Addr}{v:Value}(h:w.cell? a=some v):∃cs ty fz,w.heap[a.block]?=some (Obj.cells cs ty fz):=by
 unfold World.cell? at h;cases hx:w.heap[a.block]? with
 | none=>simp[hx] at h
 | some o=>cases o<;>simp_all
theorem Kept.put(W:World)(l:Nat)(o o':Obj)(h:W.heap[l]?=some o)(ho:o.isCells=false):Kept Z L W (W.putObj l o'):=by
 have hne:∀(i:Nat) (cs:Array Value) (ty:TypeId) (fz:Nat×Nat),W.heap[i]?=some (Obj.cells cs ty fz)->i≠l:=fun i cs ty fz hi e=>by
  subst e;rw[h] at hi;cases hi
  cases ho
 refine⟨by simp,fun i cs ty fz _ hi=>?_,fun i k v _ _ hc=>?_⟩
 ·rw[EL (hne i cs ty fz hi)];exact hi
 ·obtain⟨cs,ty,fz,hb⟩:=N6 hc
  rw[<-hc];exact EB (w:=W) (EL (hne i cs ty fz hb))
def Bears{α:Type}(m:Nat)(J:(Nat->Prop)->List α->World->Prop):Prop:=
 ∀Z Z' s A B row,J Z s A->A.grownBy B row->(∀r,row=some r->m<=r/\∃o:Obj,A.heap[r]?=some o/\o.isCells=false)->(∀i,Z i->Z' i)->(∀i,Z' i->Z i\/A.heap.size<=i/\i<B.heap.size)->J Z' s B
theorem Bears.own{m:Nat}{J:(Nat->Prop)->List α->World->Prop}(h:Bears m J)(Z:Nat->Prop):OwnFrom m (J Z):=fun s A B row hs hg hr=>h Z Z s A B row hs hg hr (fun _ hi=>hi) (fun _ hi=>.inl hi)
def Jo{α:Type}(F:Fence)(n:Nat)(P:Program)(f:Nat)(caught:Array Value)(encs:α->Array Value)(L Zb:Nat->Prop)(St:World->Prop)(S Sp:(Nat->Prop)->List α->World->Prop)(N:Nat):Prop:=
 ∀(l:Nat) (J Jx:(Nat->Prop)->List α->World->Prop) (Z:Nat->Prop) (W:World),Bears W.heap.size J->Bears W.heap.size Jx->
  (∀Z s x A,J Z s A->s.length<N->YieldAt F (n-1) P l (encs x) A fun e B=>KeepsFrom W.heap.size A B/\Kept Z L A B/\(e=.returned (.bool true)/\J Z (s++[x]) B\/e=.returned (.bool false)/\Jx Z (s++[x]) B))->
  St W->(∀i,Zb i->Z i)->J Z [] W->CallsIn F n P f (#[.func (.yield l) #[] #[]]++caught) W fun e B=>(∃v,e=.returned v)/\((∃Z s,S Z s B/\J Z s B)\/∃Z s,Sp Z s B/\Jx Z s B)
def Q40{α:Type}(B:Nat)(Z L:Nat->Prop)(I:(Nat->Prop)->List α->World->Prop)(Ix:Code->(Nat->Prop)->List α->World->Prop)(s:List α)(W:World):Exit->Act->World->Prop
 | .normal,_,W'=>KeepsFrom B W W'/\Kept Z L W W'/\I Z s W'
 | .ret,_,W'=>KeepsFrom B W W'/\Kept Z L W W'/\Ix .ret Z s W'
 | .exit i,_,W'=>KeepsFrom B W W'/\Kept Z L W W'/\Ix (.exit i) Z s W'
 | _,_,_=>False
theorem Xw{F:Fence}{P:Program}{g:Operand}{ps:Array Tmp}{assign body:Code}{Q:Exit->Act->World->Prop}{a:Act}{f:Nat}{caught:Array Value}{encs:α->Array Value}{Zb:Nat->Prop}{St:World->Prop}{S Sp:(Nat->Prop)->List α->World->Prop}{N:Nat}
 (nB:F.round=none)(hn:1<=n)(hval:a.eval g=.func (.func f) #[] caught)(hfn:F.fn f)(jo:∀args w,(callFunc f args).run P w=.ok (.enter f args) w)
 (oB:Jo F (n-1) P f caught encs L Zb St S Sp N)(hsize:∀x,(encs x).size=ps.size)(jd:∀B,w.grownBy B none->St B)
 (MU:∀Z,OwnFrom w.heap.size (S Z))(tB:∀Z,OwnFrom w.heap.size (Sp Z))
 (I:(Nat->Prop)->List α->World->Prop)(Ix:Code->(Nat->Prop)->List α->World->Prop)(hB:Bears w.heap.size I)(sK:∀c,Bears w.heap.size (Ix c))
 (Z0:Nat->Prop)(hZ0:∀i,Zb i->Z0 i)(h0:I Z0 [] w)
 (Ax:α->Act->World->Prop)(WS:∀x b,OwnFrom w.heap.size (fun(_:Unit) W=>Ax x b W))
 (su:∀(l:Nat) (Z:Nat->Prop) (s:List α) (x:α) (W:World) (K:Act->World->Prop),I Z s W->(∀b W',KeepsFrom w.heap.size W W'->Kept Z L W W'->I Z s W'->Ax x b W'->K b W')->
   assign.wpIn (F.inRound l) (n-1-1) P (Exit.then K (fun _ _ _=>False)) { tmps:=(ps.zip (encs x)).foldl (fun t (p,v)=>t.setIfInBounds p v) a.tmps,defers:=[] } W)
 (MH:∀(l:Nat) (Z:Nat->Prop) (s:List α) (x:α) (b:Act) (W:World),w.heap.size<=l->(∃r,W.heap[l]?=some (.loop r))->I Z s W->Ax x b W->s.length<N->body.wpIn (F.inRound l) (n-1-1) P (Q40 w.heap.size Z L I Ix (s++[x]) W) b W)
 (hdone:∀(Z:Nat->Prop) (s:List α) (W:World),S Z s W->I Z s W->W.heap[w.heap.size]?=some (.deferred (some []))->Q .normal { a with defers:={ target:=.collected w.heap.size,args:=#[] } :: a.defers } W)
 (zv:∀(c:Code) (Z:Nat->Prop) (s:List α) (W:World),Sp Z s W->Ix c Z s W->W.heap[w.heap.size]?=some (.deferred (some []))->c.wpIn F n P Q { a with defers:={ target:=.collected w.heap.size,args:=#[] } :: a.defers } W) :
  (Code.rangeFunc g ps assign body).wpIn F n P Q a w:=by
 have hI:=hB.own;have WG:=fun c=>(sK c).own
 refine wpIn_rangeFunc (fun fn hin=>?_);rw[nB]
 let R:LoopState->Option Code->Loop:=fun st pe=>{ state:=st,pending:=pe,fn:=fn,tmps:=a.tmps,params:=ps,assign:=assign,body:=body,defers:=w.heap.size }
 have hgrow:w.grownBy ((w.alloc (.deferred (some []))).alloc (.loop (R .ready none))) none:=Ab (AA w _ none) (AA _ _ none)
 have zr:Lies w.heap.size (R .ready none) ((w.alloc (.deferred (some []))).alloc (.loop (R .ready none))):=by
  constructor
  ·rw[DF _ _ _ (by simp)];exact World.alloc_heap_new w _
  ·have:=World.alloc_heap_new (w.alloc (.deferred (some []))) (.loop (R .ready none))
   rw[EO] at this;exact this
 have hI1:I Z0 [] ((w.alloc (.deferred (some []))).alloc (.loop (R .ready none))):=(hI Z0).alloc _ ((hI Z0).alloc _ h0);refine⟨_,_,(w.alloc (.deferred (some []))).alloc (.loop (R .ready none)),{ target:=.fn (.func f) caught,args:=#[.func (.yield (w.heap.size+1)) #[] #[]] },(w.alloc (.deferred (some []))).alloc (.loop (R .ready none)),f,#[.func (.yield (w.heap.size+1)) #[] #[]]++caught,(w.alloc (.deferred (some []))).alloc (.loop (R .ready none)),run_enterLoop_outer fn a.tmps ps assign body,?_,?_,?_,fun _=>hn,?_⟩
 ·simp only[resolve,hval]
  simp[go_sem]
 ·intro f' hf'
  simp[Target.leads] at hf';rw[<-hf'];exact hfn
 ·simp[invoke,go_sem,jo]
 ·have nB:∀Z s x A,(I Z s A/\Lies w.heap.size (R .ready none) A)->s.length<N->YieldAt F (n-1-1) P (w.heap.size+1) (encs x) A fun e B=>KeepsFrom (w.heap.size+2) A B/\Kept Z L A B/\(e=.returned (.bool true)/\(I Z (s++[x]) B/\Lies w.heap.size (R .ready none) B)\/e=.returned (.bool false)/\∃c,Ix c Z (s++[x]) B/\Lies w.heap.size (R .done (some c)) B):=by
   rintro Z s x A⟨hi,hl⟩ hlen;have hy:=run_yield (P:=P) (args:=encs x) hl.rcd (hsize x);refine⟨fn,_,assign,body,hy,roundIn_of_wpIn hin (su _ Z s x A _ hi (fun b B hk dX hib hab=>?_))⟩;have zw:=hl.kept hk;refine⟨_,run_beginRound zw.rcd rfl,?_⟩;have QI:=zw.turn { R .ready none with state:=.busy };have hfr:∀ {X Y:World},KeepsFrom w.heap.size X Y->KeepsFrom (w.heap.size+2) X Y:=fun h=>⟨h.size,fun k o hk=>h.same k o (by omega)⟩
   have yJ:∀(X:World) (o:Obj),KeepsFrom (w.heap.size+2) X (X.putObj (w.heap.size+1) o):=fun X o=>KeepsFrom.of_grownBy (KE X _ _) (fun j e=>by cases e;omega)
   have UC:Kept Z L B (B.putObj (w.heap.size+1) (.loop { R .ready none with state:=.busy })):=Kept.put _ _ _ _ zw.rcd rfl;refine wpIn_mono (MH _ Z s x b _ (by omega) ⟨_,QI.rcd⟩ ((hI Z).putObj _ hib (by omega) zw.rcd rfl) ((WS x b).putObj (s:=()) _ hab (by omega) zw.rcd rfl) hlen) ?_;intro e b' D hout;cases e with
   | normal=>
    obtain⟨o1,o2,o3⟩:=hout;have oD:=QI.kept o1;exact⟨_,_,run_endRound none oD.rcd,(hfr hk).trans ((yJ _ _).trans ((hfr o1).trans (yJ _ _))),dX.trans (UC.trans (o2.trans (Kept.put _ _ _ _ oD.rcd rfl))),.inl ⟨rfl,(hI Z).putObj _ o3 (by omega) oD.rcd rfl,oD.turn _⟩⟩
   | ret=>
    obtain⟨o1,o2,o3⟩:=hout;have oD:=QI.kept o1;exact⟨_,_,run_endRound (some .ret) oD.rcd,(hfr hk).trans ((yJ _ _).trans ((hfr o1).trans (yJ _ _))),dX.trans (UC.trans (o2.trans (Kept.put _ _ _ _ oD.rcd rfl))),.inr ⟨rfl,.ret,(WG _ Z).putObj _ o3 (by omega) oD.rcd rfl,oD.turn _⟩⟩
   | exit i=>
    obtain⟨o1,o2,o3⟩:=hout;have oD:=QI.kept o1;exact⟨_,_,run_endRound (some (.exit i)) oD.rcd,(hfr hk).trans ((yJ _ _).trans ((hfr o1).trans (yJ _ _))),dX.trans (UC.trans (o2.trans (Kept.put _ _ _ _ oD.rcd rfl))),.inr ⟨rfl,.exit i,(WG _ Z).putObj _ o3 (by omega) oD.rcd rfl,oD.turn _⟩⟩
   | goto t=>exact hout.elim
   | panic c=>exact hout.elim
   | outgrown=>exact hout.elim
  have hsz:((w.alloc (.deferred (some []))).alloc (.loop (R .ready none))).heap.size=w.heap.size+2:=by simp
  refine(oB (w.heap.size+1) (fun Z s A=>I Z s A/\Lies w.heap.size (R .ready none) A) (fun Z s A=>∃c,Ix c Z s A/\Lies w.heap.size (R .done (some c)) A) Z0 _ ?_ ?_ (by rw[hsz];exact nB) (jd _ hgrow) hZ0 ⟨hI1,zr⟩).mono ?_
  ·intro Z Z' s A B row hs hg hr hm hz
   rw[hsz] at hr;exact⟨hB Z Z' s A B row hs.1 hg (fun r e=>⟨by have:=(hr r e).1;omega,(hr r e).2⟩) hm hz,hs.2.grown hg (fun r e=>(hr r e).1)⟩
  ·intro Z Z' s A B row hs hg hr hm hz
   rw[hsz] at hr;obtain⟨c,h1,h2⟩:=hs;exact⟨c,sK c Z Z' s A B row h1 hg (fun r e=>⟨by have:=(hr r e).1;omega,(hr r e).2⟩) hm hz,h2.grown hg (fun r e=>(hr r e).1)⟩
  ·rintro e D⟨⟨v,rfl⟩,⟨Z,s,hS,hi,hl⟩|⟨Z,s,hS,c,hi,hl⟩⟩
   ·exact⟨none,_,run_endLoop hl.rcd (by simp[R]),hdone Z s _ ((MU Z).putObj _ hS (by omega) hl.rcd rfl) ((hI Z).putObj _ hi (by omega) hl.rcd rfl) (hl.turn _).dfr⟩
   ·exact⟨some c,_,run_endLoop hl.rcd (by simp[R]),zv c Z s _ ((tB Z).putObj _ hS (by omega) hl.rcd rfl) ((WG c Z).putObj _ hi (by omega) hl.rcd rfl) (hl.turn _).dfr⟩
def Gx(w w':World):Prop:=w.grownBy w' none/\w.drawn<=w'.drawn
theorem Gx.refl(w:World):Gx w w:=⟨AD _ _,AW _⟩
theorem Gx.trans{b c:World}(h:Gx a b)(k:Gx b c):Gx a c:=⟨Ab h.1 k.1,AU h.2 k.2⟩
theorem Q4o(h:n<=a.drawn)(o:Obj):n<=(a.alloc o).drawn:=h
theorem Uo(h:n<=a.drawn):n<=a.drew.drawn:=Nat.le_succ_of_le h
theorem Q1z(h:Gx w a):Gx w a.drew:=⟨Ah h.1,Uo h.2⟩
theorem Zx(w:World)(n:Nat):Gx w (w.drewN n):=⟨Ad _ _ _,Nat.le_add_right _ _⟩
theorem Gx.form(h:Gx w w'):∃q os,w'=Sort.grow (w.drewN q) os:=by
 obtain⟨⟨h1,h2,h3,h4,h5⟩,hd⟩:=h;refine⟨w'.drawn-w.drawn,w'.heap.extract w.heap.size w'.heap.size,?_⟩
 have hh:w'.heap=w.heap++w'.heap.extract w.heap.size w'.heap.size:=by
  apply Array.ext_getElem?
  intro i;by_cases hi:i<w.heap.size
  ·rw[IC hi]
   exact h5 i hi (by simp)
  ·rw[Array.getElem?_append_right (by omega)]
   simp only[Array.getElem?_extract];split
   ·congr 1
    omega
   ·rename_i hn
    rw[KV (by omega)]
 unfold Sort.grow;cases w'
 cases w
 simp only[World.drewN,World.mk.injEq] at *;exact⟨hh,h2,by omega,h1,h3⟩
theorem Uk(a:Int)(w:World):Calls Tryz.prog 165 #[.int .i64 a] w fun e w'=>e=.returned (.bool false)/\Gx w w':=by
 go_enter Tryz.func165,Tryz.ntmps165;have hd:(a !=a)=false:=by simp
 go_wp2
 all_goals first|(go_ret;exact⟨rfl,Gx.refl _⟩)|skip
 all_goals
  go_quiet (fail);go_wp2;go_ret;exact⟨rfl,Zx _ _⟩
theorem Q30(a b:Int)(w:World):Calls Tryz.prog 144 #[.int .i64 a,.int .i64 b] w fun e w'=>e=.returned (.int .i64 (cmpI a b))/\Gx w w':=by
 have bB:=Uk a w;go_enter Tryz.func144,Tryz.ntmps144;go_wp2_with fail;refine bB.mono ?_;rintro e w1⟨rfl,hg1⟩;have bq:=Uk b w1;clear bB;go_wp2_with fail;refine bq.mono ?_;rintro e w2⟨rfl,hg2⟩;have hg:=Gx.trans hg1 hg2;clear bq hg1 hg2;by_cases h1:a<b
 ·have hd:decide (a<b)=true:=by simpa using h1
  have HE:=Ac (show cmpI a b=-1 from by unfold cmpI;rw[AQ h1]);go_wp2;go_ret;exact⟨by rw[Aa HE];rfl,hg⟩
 ·have hd:decide (a<b)=false:=by simpa using h1
  by_cases h2:b<a
  ·have bm:decide (b<a)=true:=by simpa using h2
   have HE:=Ac (show cmpI a b=1 from by unfold cmpI;rw[AO h1,AQ h2]);go_wp2;go_ret;exact⟨by rw[Aa HE];rfl,hg⟩
  ·have bm:decide (b<a)=false:=by simpa using h2
   have HE:=Ac (show cmpI a b=0 from by unfold cmpI;rw[AO h1,AO h2]);go_wp2;go_ret;exact⟨by rw[Aa HE];rfl,hg⟩
theorem Q32(v u:Value)(x y:List Int)(w:World)(hx:InAt v x w)(hy:InAt u y w) :
  Calls Tryz.prog 111 #[v,u] w fun e w'=>e=.returned (.int .i64 (cmpL x y))/\Gx w w':=by
 obtain⟨va,vc,rfl⟩:=hx.slice;obtain⟨ua,uc,rfl⟩:=hy.slice;have lx:=hx.le;have ly:=hy.le;unfold maxLen at lx ly;obtain⟨R,hR⟩:∃R,cmpL x y=R:=⟨_,rfl⟩
 rw[hR];have HR:=Ac hR;have HX:=Ac hx;have HY:=Ac hy;clear hR hx hy;go_enter Tryz.func111,Tryz.ntmps111;go_wp2;go_loopw [11] (fun z w'=>∃k:Nat,k<=x.length/\k<=y.length/\z=.int .i64 k/\cmpL (x.drop k) (y.drop k)=R/\Gx w w') (fun z _=>x.length-(intOf z).toNat)
 case atStart=>exact⟨0,AG _,AG _,rfl,Aa HR,Gx.refl _⟩
 case round=>
  clear HR;obtain⟨k,hk,hk2,rfl,hr,hg⟩:=hrel;by_cases hlt:k<x.length
  ·have hd:decide (k<x.length)=true:=by simpa using hlt
   obtain⟨a,ha⟩:∃a,x[k]?=some a:=⟨_,AB hlt⟩
   obtain⟨g,off,e1,c1⟩:=((Aa HX).gr hg.1).cell ha;subst e1;rw[A0 ha] at hr;by_cases zm:k<y.length
   ·have bm:decide ((y.length:Int)<=(k:Int))=false:=by simp;omega
    obtain⟨b,hb⟩:∃b,y[k]?=some b:=⟨_,AB zm⟩
    obtain⟨g2,vh,e2,c2⟩:=((Aa HY).gr hg.1).cell hb;subst e2;rw[A0 hb,Hh] at hr;have hC:=Q30 a b wr;obtain⟨r,hr1⟩:∃r,cmpI a b=r:=⟨_,rfl⟩
    rw[hr1] at hr hC;have HR:=Ac hr;clear hr hr1 ha hb;go_wp2_with fail;refine hC.mono ?_;rintro e w1⟨rfl,hg1⟩;have bP:=Gx.trans hg hg1;clear hg1 hC;have hr:=Aa HR;by_cases h0:r=0
    ·have x9:(r !=0)=false:=by simpa using h0
     rw[AQ h0] at hr;have cR:=Ac hr;clear hr HR h0;go_wp2;go_roundw
     case rel=>exact⟨k+1,by omega,by omega,by go_num,Aa cR,bP⟩
     case measure=>simp[intOf];omega
    ·have x9:(r !=0)=true:=by simpa using h0
     rw[AO h0] at hr;subst hr;clear HR h0;go_wp2;go_ret;exact⟨rfl,bP⟩
   ·have bm:decide ((y.length:Int)<=(k:Int))=true:=by simp;omega
    have e:y.drop k=[]:=BD (by omega);rw[e] at hr;have hr2:1=R:=hr;subst hr2;clear e hr ha;go_wp2;go_ret;exact⟨rfl,hg⟩
  ·have hd:decide (k<x.length)=false:=by simpa using hlt
   have e:x.drop k=[]:=BD (by omega);rw[e] at hr;by_cases zm:x.length<y.length
   ·have bm:decide ((x.length:Int)<(y.length:Int))=true:=by simp;omega
    obtain⟨b,hb⟩:∃b,y[k]?=some b:=⟨_,AB (by omega)⟩
    rw[A0 hb] at hr;have hr2:-1=R:=hr;subst hr2;clear e hr hb;go_wp2;go_ret;exact⟨rfl,hg⟩
   ·have bm:decide ((x.length:Int)<(y.length:Int))=false:=by simp;omega
    have e2:y.drop k=[]:=BD (by omega);rw[e2] at hr;have hr2:0=R:=hr;subst hr2;clear e e2 hr;go_wp2;go_ret;exact⟨rfl,hg⟩
theorem Y4(U:Nat->Nat)(t u:Tok)(w:World)(di:t.length<=4)(oX:u.length<=4)(ht:∀g∈t,FtAt U g w)(hu:∀g∈u,FtAt U g w) :
  Calls Tryz.prog 115 #[Bu t,Bu u] w fun e w'=>e=.returned (.int .i64 (cmpL t.nums u.nums))/\Gx w w':=by
 obtain⟨p0,p1,p2,p3,hp,hi,b9,eZ,jf,mD⟩:=Ej di ht;obtain⟨q0,q1,q2,q3,hq,hj,wN,oo,dQ,wM⟩:=Ej oX hu;have eT:Bu t=.agg #[.pointer p0,.pointer p1,.pointer p2,.pointer p3]:=by unfold Bu;rw[hp]
 have eU:Bu u=.agg #[.pointer q0,.pointer q1,.pointer q2,.pointer q3]:=by unfold Bu;rw[hq]
 rw[eT,eU];have a7:=Dp w (.cells #[.pointer p0,.pointer p1,.pointer p2,.pointer p3] 139) (.cells #[.pointer q0,.pointer q1,.pointer q2,.pointer q3] 139)
 have hN:∀wx r0 r1 r2 r3,w.grownBy wx none->TC U r0 (pid w r0) w->TC U r1 (pid w r1) w->TC U r2 (pid w r2) w->TC U r3 (pid w r3) w->Calls Tryz.prog 109 #[.agg #[.pointer r0,.pointer r1,.pointer r2,.pointer r3]] wx fun e w'=>e=.returned (.agg #[.int .i64 (pid w r0),.int .i64 (pid w r1),.int .i64 (pid w r2),.int .i64 (pid w r3)])/\w'=((wx.alloc (.cells #[.pointer r0,.pointer r1,.pointer r2,.pointer r3] 139)).alloc (.cells #[.int .i64 (pid w r0),.int .i64 (pid w r1),.int .i64 (pid w r2),.int .i64 (pid w r3)] 39)).alloc (.cells #[.int .i64 (pid w r0),.int .i64 (pid w r1),.int .i64 (pid w r2),.int .i64 (pid w r3)] 39):=
  fun wx r0 r1 r2 r3 hg h0 h1 h2 h3=>H8 U r0 r1 r2 r3 _ _ _ _ wx (h0.gr hg) (h1.gr hg) (h2.gr hg) (h3.gr hg)
 have HI:=Ac hi;have HJ:=Ac hj;clear hp hq eT eU hi hj ht hu;go_enter Tryz.func115,Tryz.ntmps115;go_wp2_with fail
 go_cut [5,6] (fun x y wx=>Q4u w x y t u wx/\w.drawn<=wx.drawn)
 case first=>
  go_region_held3 (fun w'=>w'.cell? ⟨w.heap.size,0,none⟩=some (.pointer p0)/\w'.cell? ⟨w.heap.size,1,none⟩=some (.pointer p1)/\w'.cell? ⟨w.heap.size,2,none⟩=some (.pointer p2)/\w'.cell? ⟨w.heap.size,3,none⟩=some (.pointer p3)/\w'.cell? ⟨w.heap.size+1,0,none⟩=some (.pointer q0)/\w'.cell? ⟨w.heap.size+1,1,none⟩=some (.pointer q1)/\w'.cell? ⟨w.heap.size+1,2,none⟩=some (.pointer q2)/\w'.cell? ⟨w.heap.size+1,3,none⟩=some (.pointer q3)) (first|exact Fk w _ p0 p1 p2 p3 q0 q1 q2 q3 (by(refine Ah ?_;repeat (first|with_reducible exact AD _ _|refine E6 ?_ _)))|exact Fk w _ p0 p1 p2 p3 q0 q1 q2 q3 (by(repeat (first|with_reducible exact AD _ _|refine E6 ?_ _)))|go_keep)
   (first|(go_at_call 109;refine(hN _ _ _ _ _ (by(first|(refine Ah ?_;repeat (first|with_reducible exact a7|refine E6 ?_ _))|(repeat (first|with_reducible exact a7|refine E6 ?_ _)))) (by assumption) (by assumption) (by assumption) (by assumption)).mono ?_;rintro e w1⟨rfl,rfl⟩))
  all_goals
   go_wp2_with fail;go_meet
   exact⟨⟨_,_,_,_,_,_,_,_,_,_,rfl,rfl,Aa HI,Aa HJ,by(refine A4.dr ?_;repeat (first|(refine A4.nw ?_;simp;done)|refine A4.al ?_)),by(refine A4.dr ?_;repeat (first|(refine A4.nw ?_;simp;done)|refine A4.al ?_)),by omega,by omega,by omega,by(refine Ah ?_;repeat (first|with_reducible exact AD _ _|refine E6 ?_ _))⟩,by(refine Uo ?_;repeat (first|with_reducible exact AW _|refine Q4o ?_ _))⟩
 case rest=>
  obtain⟨⟨g1,g2,a0,a1,a2,a3,b0,b1,b2,b3,rfl,rfl,ha,hb,hA,hB,hne,hg1,hg2,ai⟩,hdw⟩:=hcut;have hC:=fun wx (h:wc.grownBy wx none)=>Q32 _ _ _ _ wx (hA.inAt.gr h) (hB.inAt.gr h)
  rw[<-ha,<-hb] at hC;have ZR:=Af hA;have ZQ:=Af hB;clear hN a7 HI HJ b9 eZ jf mD wN oo dQ wM hA hB ha hb;go_wp2_with fail
  go_region_with (go_at_call 111;refine(hC _ (by repeat (first|exact AD _ _|apply Ah))).mono ?_;rintro e w4⟨rfl,hg4⟩)
  all_goals
   go_wp2;go_ret;exact⟨rfl,Gx.trans ⟨ai,hdw⟩ (Gx.trans (by repeat (first|with_reducible exact Gx.refl _|apply Q1z)) hg4)⟩
end Go.Proofs.YtolhbeekfjnfmaaGreatDoor

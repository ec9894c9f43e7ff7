import Derived.Lib.SliceRun
import Derived.Test.YtolhbeekfjnfmaaGreatDoorA43
set_option maxHeartbeats 8000000
set_option maxRecDepth 100000
namespace Go.Proofs.YtolhbeekfjnfmaaGreatDoor
open Go.RowKit Go.Proofs.Tryz
variable {g n cap:Nat}{w:World}{l:List Ft}
theorem Lc(l:List Ft):l.flatMap Qu=l.map (λf=>.pointer (some ⟨f.blk,0,none⟩)):=by induction l with|nil=>rfl|cons f l ih=>rw[BG,ih];rfl
def over{α:Type}(l:List α):Nat->List α->List α
 |_,[]=>l
 |o,x::xs=>over (l.set o x) (o+1) xs
theorem N4{α:Type}:∀(xs l:List α) (o:Nat),(over l o xs).length=l.length
 |[],_,_=>rfl
 |x::xs,l,o=>by unfold over;rw[N4 xs];exact EW
theorem N3{α:Type}:∀(xs l:List α) (o i:Nat),o+xs.length<=l.length->(over l o xs)[i]?=if o<=i/\i<o+xs.length then xs[i-o]? else l[i]?
 |[],l,o,i,_=>by rw[AO (by simp)];rfl
 |x::xs,l,o,i,h=>by
  simp only[AP]at h;unfold over;rw[N3 xs (l.set o x) (o+1) i (by rw[EW];omega)];by_cases h1:i=o
  ·subst h1
   rw[AO (by omega),AQ (by simp only[AP];omega),EE (by omega),KZ];rfl
  ·by_cases h2:o+1<=i/\i<o+1+xs.length
   ·rw[AQ h2,AQ (by simp only[AP];omega),show i-o=(i-(o+1))+1 from by omega]
    rfl
   ·rw[AO h2,AO (by simp only[AP];omega),EO (λe=>h1 e.symm)]
theorem J3{base:Nat}{e:TypeId}{g n cap:Nat}:∀(vs cells:List Value) (o:Nat) (w:World),w.ownsRow base e 1 (.slice (some ⟨g,0,none⟩) n cap) n cells->(w.setCells g o vs).ownsRow base e 1 (.slice (some ⟨g,0,none⟩) n cap) n (over cells o vs)
 |[],_,_,_,h=>h
 |v::vs,_,o,_,h=>J3 vs _ (o+1) _ (EC h o v).1
theorem Ue(l:List Ft)(i:Nat)(hi:i<l.length):(over (l.map (λf=>Value.pointer (some ⟨f.blk,0,none⟩))) i ((l.drop (i+1)).map (λf=>Value.pointer (some ⟨f.blk,0,none⟩)))).take (l.length-1)=(l.eraseIdx i).map (λf=>Value.pointer (some ⟨f.blk,0,none⟩)):=by apply JV;intro k;rw[IM,BR,List.getElem?_eraseIdx];by_cases hk:k<l.length-1;{rw[AQ hk,N3 _ _ _ _ (by simp only[AY,DN];omega)];simp only[AY,DN];by_cases h1:k<i;{rw[AO (by omega),AQ h1,BR]};{rw[AQ (by omega),AO h1,BR,GS,show i+1+(k-i)=k+1 from by omega]}};{rw[AO hk];by_cases h1:k<i;{omega};{rw[AO h1,JH (by omega)];rfl}}
theorem Nq(l:List Value):l.flatMap (λv=>[v])=l:=by induction l with|nil=>rfl|cons v l ih=>rw[BG,ih];rfl
theorem Q2w{base:Nat}{e:TypeId}{cells:List Value}(h:w.ownsRow base e 1 (.slice (some ⟨g,0,none⟩) n cap) n cells)(m:Nat)(hm:m<=n):w.ownsRow base e 1 (.slice (some ⟨g,0,none⟩) m cap) m (cells.take m):=by
 have hl:cells.length=n:=by have:=h.1;omega
 have h1:Q0B e 1 (λv:Value=>[v]) base (.slice (some ⟨g,0,none⟩) n cap) (cells.take m++cells.drop m) w:=by refine⟨λ_=>rfl,?_⟩;rw[DK,Nq,hl];exact h
 have h2:=h1.prefix.2;rw[Nq,BK,hl,CG hm]at h2;exact h2
def ptrOf(f:Ft):Value:=.pointer (some ⟨f.blk,0,none⟩)
theorem Q0f{α:Type}(l:List α)(x:α)(n:Nat)(h:l.length=n+1):(over l n [x]).take n=l.take n:=by apply JV;intro k;rw[IM,IM];by_cases hk:k<n;{rw[AQ hk,AQ hk,N3 _ _ _ _ (by simp only[BC];omega),AO (by omega)]};{rw[AO hk,AO hk]}
theorem Q2A.erased(h:Q2A (.slice (some ⟨g,0,none⟩) l.length cap) l w)(i:Nat)(hi:i<l.length):Q2A (.slice (some ⟨g,0,none⟩) (l.length-1) cap) (l.eraseIdx i) ((w.setCells g i ((l.drop (i+1)).map ptrOf)).setCells g (l.length-1) [.pointer none]):=by refine⟨h.1,?_⟩;have h1:=h.2;rw[Lc]at h1;have h2:=J3 ((l.drop (i+1)).map ptrOf) _ i w h1;have h3:=Q2w (J3 [.pointer none] _ (l.length-1) _ h2) (l.length-1) (by omega);rw[Q0f _ _ _ (by rw[N4,AY];omega)]at h3;have e:=Ue l i hi;unfold ptrOf at h3⊢;rw[e]at h3;rw[Lc,List.length_eraseIdx,AQ hi];exact h3
theorem Q2A.there(h:Q2A (.slice (some ⟨g,0,none⟩) n cap) l w)(q:Nat)(hq:q<l.length):(w.cell? ⟨g,q,none⟩).isSome=true:=by
 obtain⟨f,hf⟩:∃f,l[q]?=some f:=⟨_,AB hq⟩
 obtain⟨g',cap',e,hc⟩:=h.cell hf;simp only[AH,AE,BL,CA]at e;obtain⟨rfl,_,_⟩:=e;rw[hc];rfl
theorem Q4Q:∃j,prog.info? 90=some j/\j.size=1/\j.zero=some (.pointer none):=by
 have h1:(prog.info? 90).map (λi=>i.size)=some 1:=by kernel_rfl
 have h2:(prog.info? 90).bind (λi=>i.zero)=some (.pointer none):=by kernel_rfl
 cases hj:prog.info? 90 with|none=>{rw[hj]at h1;cases h1}|some j=>rw[hj]at h1 h2;simp at h1 h2;exact⟨j,rfl,h1,h2⟩
theorem Ur(w:World)(ty:TypeId)(g o n c:Nat)(hn:0<n)(hc:∀j,j<n->(w.cell? ⟨g,o+j,none⟩).isSome=true)(hf:∀j,w.frozen? ⟨g,j,none⟩=false):(Builtin.clear_ #[86] ty #[.slice (some ⟨g,o,none⟩) n c]).run prog w=.ok (.tuple #[]) (w.setCells g o (List.replicate n (.pointer none))):=by obtain⟨j,hj,hs,hz⟩:=Q4Q;exact Lib.run_clear_slice w _ _ ty _ underlying86 (λw=>by simp[zeroValue,typeInfo,hj,hz]) rfl rfl g o n c hn hc (λj _=>hf _)
theorem Q1r(g cap:Nat)(l:List Ft)(i:Nat)(w:World)(hr:Q2A (.slice (some ⟨g,0,none⟩) l.length cap) l w)(hi:i<l.length):Calls prog 46 #[.slice (some ⟨g,0,none⟩) l.length cap,.int .i64 i,.int .i64 ((i:Int)+1)] w λe w'=>e=.returned (.slice (some ⟨g,0,none⟩) (l.length-1) cap)/\w.grownBy w' (some g)/\Q2A (.slice (some ⟨g,0,none⟩) (l.length-1) cap) (l.eraseIdx i) w':=by
 have dE:=hr.le;unfold maxLen at dE;have eh:l.length<=cap:=by rcases hr.2.2 with ⟨h1,_⟩|⟨g',cap',cur,h1,_,_,h4,_⟩;{simp at h1};{simp only[AH,AE,BL,CA]at h1;omega}
 obtain⟨inf,ak,hsz,_⟩:=Q4Q;obtain⟨news,hnews⟩:∃news,news=(l.drop (i+1)).map ptrOf:=⟨_,rfl⟩
 have hlen:news.length=l.length-(i+1):=by rw[hnews];simp
 have zK:Q2A (.slice (some ⟨g,0,none⟩) l.length cap) l w.drew:=hr.heap rfl;have vT:∀t u,news[t]?=some u->w.drew.cell? ⟨g,i+1+t,none⟩=some u:=by intro t u hu;rw[hnews,BR,GS]at hu;cases hf:l[i+1+t]? with|none=>{rw[hf]at hu;cases hu}|some f=>rw[hf]at hu;obtain⟨g',cap',e,hc⟩:=zK.cell hf;simp only[AH,AE,BL,CA]at e;obtain⟨rfl,_,_⟩:=e;simp only[DM,AE]at hu;rw[hc,<-hu];rfl
 obtain⟨A,hA,aC⟩:∃A:Addr,(if cap=i+1 then some (⟨g,0,none⟩:Addr)else some ⟨g,i+1,none⟩)=some A/\Hid (∀t u,news[t]?=some u->w.drew.cell? (A.add t)=some u):=by by_cases h:cap=i+1;{refine⟨⟨g,0,none⟩,by simp[h],Ac λt u hu=>?_⟩;(have h0:news.length=0:=by rw[hlen];omega);rw[CJ.1 h0]at hu;cases hu};{exact⟨⟨g,i+1,none⟩,by simp[h],Ac λt u hu=>by rw[Addr.add_lit];exact vT t u hu⟩}
 have s1:=Ac (show news.length=(l.length-(i+1))*1 by rw[FN];exact hlen);have s2:=Ac (show ∀u∈news,u.oneCell'=true by intro u hu;rw[hnews]at hu;obtain⟨x,_,rfl⟩:=CC.1 hu;rfl);have s3:=Ac (show ∀t,t<news.length->(w.drew.cell? ⟨g,0+i*1+t,none⟩).isSome=true/\w.drew.frozen? ⟨g,0+i*1+t,none⟩=false by intro t ht;rw[hlen]at ht;rw[FN,BU];exact⟨zK.there _ (by omega),zK.fz _⟩);obtain⟨W1,hW1⟩:∃W1,W1=w.drew.setCells g (0+i*1) news:=⟨_,rfl⟩
 have uJ:W1=w.drew.setCells g i news:=by rw[hW1,FN,BU]
 have hE:=zK.erased i hi;rw[<-hnews,<-uJ]at hE;have hg1:w.grownBy W1 (some g):=by rw[uJ];exact Ab (Ah (AD w (some g))) (Ew g news i w.drew)
 have hcl:∀ty,(Builtin.clear_ #[86] ty #[.slice (some ⟨g,l.length-1,none⟩) 1 (cap-(l.length-1))]).run prog W1=.ok (.tuple #[]) (W1.setCells g (l.length-1) [.pointer none]):=by(intro ty;have h1:=J3 news _ i w.drew zK.2;rw[<-uJ]at h1;have eM:(over (l.flatMap Qu) i news).length=l.length:=by rw[N4,Lc,AY]);(have h2:Q0B 90 1 (λv:Value=>[v]) 0 (.slice (some ⟨g,0,none⟩) l.length cap) (over (l.flatMap Qu) i news) W1:=⟨λ_=>rfl,by rw[Nq,eM];exact h1⟩);(refine Ur W1 ty g (l.length-1) 1 _ (by omega) (λj hj=>?_) (λj=>h2.fz j);obtain rfl:j=0:=by omega);(obtain⟨v,hv⟩:∃v,(over (l.flatMap Qu) i news)[l.length-1]?=some v:=⟨_,AB (by rw[eM];omega)⟩);obtain⟨g',cap',e,hc⟩:=h2.cells hv;simp only[AH,AE,BL,CA]at e;obtain⟨rfl,_,_⟩:=e;have:=hc 0 (by omega);rw[FN]at this;rw[this];rfl
 have HG:=Ac (Ab hg1 (Ew g [.pointer none] (l.length-1) W1));have HE:=Ac hE;have HW:=Ac hW1;have uh:=Ac ak;have hic:i<=cap:=by omega
 have hx1:(0:Int)<=(i:Int)+1:=by omega
 have hx2:(i:Int)+1<=(l.length:Int):=by omega
 have TP:i+1<=cap:=by omega
 have hk:i+(l.length-(i+1))=l.length-1:=by omega
 have hk2:l.length-(l.length-1)=1:=by omega
 clear hW1 uJ hE hg1 zK hr vT hnews hlen ak;go_enter func46,ntmps46;go_wp2_with fail;go_region_law (refine step_append_room rfl (.tmp 22) (.tmp 25) 86 rfl 90 inf 1 underlying86 (Aa uh) hsz g 0 i cap (by simp[Act.eval,Act.put]) A (l.length-(i+1)) (cap-(i+1)) news (by simp[Act.eval,Act.put]) (Aa s1) (Aa aC) (Aa s2) (by omega) (Aa s3) ?_;rw[<-Aa HW]);go_wp2;go_ret;exact⟨rfl,Aa HG,Aa HE⟩
end Go.Proofs.YtolhbeekfjnfmaaGreatDoor

import Derived.Laws.IdiomCopy
import Derived.Test.YtolhbeekfjnfmaaGreatDoorM19
set_option maxHeartbeats 8000000
set_option maxRecDepth 100000
namespace Go.Proofs.YtolhbeekfjnfmaaGreatDoor
open Go.RowKit
abbrev DC:=@Value.pointer.injEq
abbrev DK:=@Value.iface.injEq
variable {g cap k:Nat}{n n':Nd}{l:List Tok}{w:World}{tv lv ov fv nx:Value}
theorem Er(g:Nat):∀(vs:List Value) (o:Nat) (w:World),w.grownBy (w.setCells g o vs) (some g)
 | [],_,w=>AD w _
 | v::vs,o,w=>Ab (Aj w g o v) (Er g vs (o+1) _)
theorem ToksAt.far{g n cap:Nat}{l:List Tok}(hn:n=l.length):∀(vs:List Value) (o:Nat) (w:World),ToksAt (.slice (some ⟨g,0,none⟩) n cap) l w->l.length*4<=o->ToksAt (.slice (some ⟨g,0,none⟩) n cap) l (w.setCells g o vs)
 | [],_,_,h,_=>h
 | v::vs,o,w,h,ho=>by
  refine ToksAt.far hn vs (o+1) _ ?_ (by omega);subst hn;have h1:=(DY h.2 o v).1;refine⟨h.1,?_⟩;rw[List.set_eq_of_length_le (by rw[h.2.1];exact ho)] at h1;exact h1
theorem ToksAt.cut{n:Nat}(h:ToksAt (.slice (some ⟨g,0,none⟩) n cap) l w)(i:Nat)(hi:i<=l.length):ToksAt (.slice (some ⟨g,0,none⟩) i cap) (l.take i) w:=by
 have e:l=l.take i++l.drop i:=(DO i l).symm;rw[e] at h;have:=h.prefix;rw[BL,CB hi] at this;exact this
theorem ToksAt.there{n:Nat}(h:ToksAt (.slice (some ⟨g,0,none⟩) n cap) l w)(q:Nat)(hq:q<l.length*4):(w.cell? ⟨g,q,none⟩).isSome=true:=by
 obtain⟨t,ht⟩:∃t,l[q / 4]?=some t:=⟨_,AB (by omega)⟩
 obtain⟨g',cap',e,hc⟩:=h.cells ht;simp only[AH,AE,BK,BX] at e;obtain⟨rfl,_,_⟩:=e;have:=hc (q%4) (by omega);rw[show q / 4*4+q%4=q from by omega] at this;rw[this,AB (by rw[Br];omega)];rfl
theorem Md(w:World)(ty:TypeId)(g o n c:Nat)(hn:0<n)(hc:∀j,j<n*4->(w.cell? ⟨g,o+j,none⟩).isSome=true)(hf:∀j,w.frozen? ⟨g,j,none⟩=false) :
  (Builtin.clear_ #[141] ty #[.slice (some ⟨g,o,none⟩) n c]).run Tryz.prog w=.ok (.tuple #[]) (w.setCells g o (List.replicate (n*4) (.pointer none))):=by
 have rU:(Builtin.zeroCells (Value.cells (.agg #[.pointer none,.pointer none,.pointer none,.pointer none])) n).toList=List.replicate (n*4) (.pointer none):=by
  simp only[Builtin.zeroCells,Value.cells];apply List.ext_getElem
  ·simp
  ·intro i h1 h2
   simp;have:i%4=0\/i%4=1\/i%4=2\/i%4=3:=by omega
   rcases this with h|h|h|h<;>simp[h]
 have hst:=run_storeCells_cells (P:=Tryz.prog) g o (List.replicate (n*4) (.pointer none)) 0 w (by simpa using hc) (fun j _=>hf _) (by intro v hv';rw[CX hv'];rfl);simp only[EG] at hst;obtain⟨m,rfl⟩:∃m,n=m+1:=⟨n-1,by omega⟩
 simp[Builtin.clear_,run_underlying Tryz.underlying141,rU,hst]
def O1(p:Tok->Bool):Nat->List Tok->Int
 | _,[]=>-1
 | k,t::l=>if p t=true then (k:Int) else O1 p (k+1) l
theorem K6(p:Tok->Bool):∀(l:List Tok) (k:Nat),O1 p k l=-1->l.filter (fun t=>!p t)=l
 | [],_,_=>rfl
 | t::l,k,h=>by
  unfold O1 at h;split at h
  ·omega
  ·rename_i hp
   rw[IU,AQ (by simpa using hp),K6 p l (k+1) h]
theorem K7(p:Tok->Bool):∀(l:List Tok) (k i:Nat),O1 p k l=(i:Int)->k<=i/\i<k+l.length/\(l.take (i-k+1)).filter (fun t=>!p t)=l.take (i-k)
 | [],_,_,h=>by unfold O1 at h;omega
 | t::l,k,i,h=>by
  unfold O1 at h;split at h
  ·rename_i hp
   have e:i=k:=by omega
   subst e;simp[hp]
  ·rename_i hp
   obtain⟨h1,h2,h3⟩:=K7 p l (k+1) i h;refine⟨by omega,by rw[AP];omega,?_⟩;rw[show i-k+1=(i-(k+1)+1)+1 from by omega,show i-k=(i-(k+1))+1 from by omega,GG,GG,IU,AQ (by simpa using hp),h3]
theorem Wh(p:Tok->Bool)(k:Nat)(l:List Tok):O1 p k l=-1\/∃i:Nat,O1 p k l=(i:Int):=by
 induction l generalizing k with
 | nil=>exact .inl rfl
 | cons t l ih=>
  unfold O1;split
  ·exact .inr ⟨k,rfl⟩
  ·exact ih (k+1)
def Ib(p:Tok->Bool)(g cap:Nat)(l:List Tok)(w:World)(e:Ending)(w':World):Prop:=
 e=.returned (.slice (some ⟨g,0,none⟩) (l.filter (fun t=>!p t)).length cap)/\w.grownBy w' (some g)/\ToksAt (.slice (some ⟨g,0,none⟩) (l.filter (fun t=>!p t)).length cap) (l.filter (fun t=>!p t)) w'
theorem Cr{α:Type}(q:α->Bool){l:List α}{j:Nat}{t:α}(h:l[j]?=some t):(l.take (j+1)).filter q=(l.take j).filter q++(if q t=true then [t] else []):=by
 rw[CZ,h,DI];congr 1
 simp only[Option.toList_some,IU,IY]
theorem Fv{α:Type}:∀(m:List α) (i:Nat) (t:α),i<m.length->(m.set i t).take (i+1)=m.take i++[t]
 | [],i,t,h=>by simp at h
 | _::m,0,t,_=>by simp
 | _::m,i+1,t,h=>by simp[Fv m i t (by simpa using h)]
theorem Wc(N:Nat)(b0:Value)(p:Tok->Bool)(v:Value)(l:List Tok)(w:World)(eg:∀args w,(callFunc N args).run Tryz.prog w=.ok (.enter N args) w)(hr:ToksAt v l w)
 (hp:∀wx t,w.grownBy wx none->t∈l->Calls Tryz.prog N #[Bt t,b0] wx fun e w'=>e=.returned (.bool (p t))/\wx.grownBy w' none) :
  Calls Tryz.prog 250 #[v,(.func (.func N) #[] #[b0])] w fun e w'=>e=.returned (.int .i64 (O1 p 0 l))/\w.grownBy w' none:=by
 obtain⟨ao,cap,rfl⟩:=hr.slice;have cj:=hr.le;unfold maxLen at cj;obtain⟨R,hR⟩:∃R,O1 p 0 l=R:=⟨_,rfl⟩
 rw[hR];have HR:=Ac hR;have HP:=Ac hp;have dD:=Ac hr;clear hR hp hr;go_enter Tryz.func250,Tryz.ntmps250;go_wp2;go_loopw [8] (fun x w'=>∃k:Nat,k<=l.length/\x=.int .i64 k/\O1 p k (l.drop k)=R/\w.grownBy w' none) (fun x _=>l.length-(intOf x).toNat)
 case atStart=>exact⟨0,AG _,rfl,Aa HR,AD _ _⟩
 case round=>
  clear HR;obtain⟨k,hk,rfl,hr,hg⟩:=hrel;by_cases hlt:k<l.length
  ·have hd:decide (k<l.length)=true:=by simpa using hlt
   obtain⟨t,ht⟩:∃t,l[k]?=some t:=⟨_,AB hlt⟩
   obtain⟨p0,p1,p2,p3,hq⟩:=A9 t;obtain⟨g,cap',e1,c0,c1,c2,c3⟩:=Bu ((Aa dD).gr hg) ht hq;simp only[AH,BP] at e1;obtain⟨rfl,rfl⟩:=e1;have hC:=Aa HP wr t hg (AV ht);rw[show Bt t=.agg #[.pointer p0,.pointer p1,.pointer p2,.pointer p3] from by unfold Bt;rw[hq]] at hC;rw[A0 ht] at hr;unfold O1 at hr;obtain⟨r,hr1⟩:∃r,p t=r:=⟨_,rfl⟩
   rw[hr1] at hr hC;have HR:=Ac hr;clear hr hr1 ht hq;go_wp2_with fail;refine hC.mono ?_;rintro e w1⟨rfl,hg1⟩;have bI:=Ab hg hg1;have hr:=Aa HR;clear HR hC hg1;cases r with
   | true=>
    rw[AQ rfl] at hr;subst hr;go_wp2;go_ret;exact⟨rfl,bI⟩
   | false=>
    rw[AO (by simp)] at hr;have HR:=Ac hr;clear hr;go_wp2;go_roundw
    case rel=>exact⟨k+1,by omega,by go_num,Aa HR,bI⟩
    case measure=>simp[intOf];omega
  ·have hd:decide (k<l.length)=false:=by simpa using hlt
   have e:l.drop k=[]:=BD (by omega);rw[e] at hr;have hr2:-1=R:=hr;subst hr2;clear hr e;go_wp2;go_ret;exact⟨rfl,hg⟩
theorem Wd(N:Nat)(b0 b1:Value)(p:Tok->Bool)(v:Value)(l:List Tok)(w:World)(eg:∀args w,(callFunc N args).run Tryz.prog w=.ok (.enter N args) w)(hr:ToksAt v l w)
 (hp:∀wx t,w.grownBy wx none->t∈l->Calls Tryz.prog N #[Bt t,b0,b1] wx fun e w'=>e=.returned (.bool (p t))/\wx.grownBy w' none) :
  Calls Tryz.prog 250 #[v,(.func (.func N) #[] #[b0,b1])] w fun e w'=>e=.returned (.int .i64 (O1 p 0 l))/\w.grownBy w' none:=by
 obtain⟨ao,cap,rfl⟩:=hr.slice;have cj:=hr.le;unfold maxLen at cj;obtain⟨R,hR⟩:∃R,O1 p 0 l=R:=⟨_,rfl⟩
 rw[hR];have HR:=Ac hR;have HP:=Ac hp;have dD:=Ac hr;clear hR hp hr;go_enter Tryz.func250,Tryz.ntmps250;go_wp2;go_loopw [8] (fun x w'=>∃k:Nat,k<=l.length/\x=.int .i64 k/\O1 p k (l.drop k)=R/\w.grownBy w' none) (fun x _=>l.length-(intOf x).toNat)
 case atStart=>exact⟨0,AG _,rfl,Aa HR,AD _ _⟩
 case round=>
  clear HR;obtain⟨k,hk,rfl,hr,hg⟩:=hrel;by_cases hlt:k<l.length
  ·have hd:decide (k<l.length)=true:=by simpa using hlt
   obtain⟨t,ht⟩:∃t,l[k]?=some t:=⟨_,AB hlt⟩
   obtain⟨p0,p1,p2,p3,hq⟩:=A9 t;obtain⟨g,cap',e1,c0,c1,c2,c3⟩:=Bu ((Aa dD).gr hg) ht hq;simp only[AH,BP] at e1;obtain⟨rfl,rfl⟩:=e1;have hC:=Aa HP wr t hg (AV ht);rw[show Bt t=.agg #[.pointer p0,.pointer p1,.pointer p2,.pointer p3] from by unfold Bt;rw[hq]] at hC;rw[A0 ht] at hr;unfold O1 at hr;obtain⟨r,hr1⟩:∃r,p t=r:=⟨_,rfl⟩
   rw[hr1] at hr hC;have HR:=Ac hr;clear hr hr1 ht hq;go_wp2_with fail;refine hC.mono ?_;rintro e w1⟨rfl,hg1⟩;have bI:=Ab hg hg1;have hr:=Aa HR;clear HR hC hg1;cases r with
   | true=>
    rw[AQ rfl] at hr;subst hr;go_wp2;go_ret;exact⟨rfl,bI⟩
   | false=>
    rw[AO (by simp)] at hr;have HR:=Ac hr;clear hr;go_wp2;go_roundw
    case rel=>exact⟨k+1,by omega,by go_num,Aa HR,bI⟩
    case measure=>simp[intOf];omega
  ·have hd:decide (k<l.length)=false:=by simpa using hlt
   have e:l.drop k=[]:=BD (by omega);rw[e] at hr;have hr2:-1=R:=hr;subst hr2;clear hr e;go_wp2;go_ret;exact⟨rfl,hg⟩
theorem Q1r(N:Nat)(b0:Value)(p:Tok->Bool)(g cap:Nat)(l:List Tok)(w:World)(eg:∀args w,(callFunc N args).run Tryz.prog w=.ok (.enter N args) w)(hr:ToksAt (.slice (some ⟨g,0,none⟩) l.length cap) l w)
 (hp:∀wx t,w.grownBy wx (some g)->t∈l->Calls Tryz.prog N #[Bt t,b0] wx fun e w'=>e=.returned (.bool (p t))/\wx.grownBy w' none) :
  Calls Tryz.prog 247 #[.slice (some ⟨g,0,none⟩) l.length cap,(.func (.func N) #[] #[b0])] w fun e w'=>Ib p g cap l w e w':=by
 have hI:=Wc N b0 p _ l w eg hr (fun wx t h ht=>hp wx t (A6 h (some g)) ht);have cj:=hr.le;unfold maxLen at cj;have HP:=Ac hp;have dD:=Ac hr;clear hp hr;go_enter Tryz.func247,Tryz.ntmps247;go_wp2_with fail;refine hI.mono ?_;rintro e w1⟨rfl,hg1⟩;have hr1:=(Aa dD).gr hg1;clear hI dD;rcases Wh p 0 l with h0|⟨i0,h0⟩
 ·rw[h0]
  have hf:=K6 p l 0 h0;have HF:=Ac hf;have lH:=Ac hr1;clear hf hr1 h0;go_wp2;go_ret;unfold Ib;rw[Aa HF];exact⟨rfl,A6 hg1 (some g),Aa lH⟩
 ·rw[h0]
  obtain⟨_,l9,oY⟩:=K7 p l 0 i0 h0;rw[IB,BV] at *;have xh:((i0:Int) == -1)=false:=by simp
  have OA:=Ac oY;have lH:=Ac hr1;have ee:=Ac (A6 hg1 (some g));clear h0 oY hr1 hg1;go_wp2;go_loopw [5,6] (fun x y w'=>∃(i j:Nat) (m:List Tok),x=.int .i64 i/\y=.int .i64 j/\i<j/\j<=l.length/\Hid (m.length=l.length/\m.take i=(l.take j).filter (fun t=>!p t)/\m.drop j=l.drop j/\w.grownBy w' (some g)/\ToksAt (.slice (some ⟨g,0,none⟩) l.length cap) m w')) (fun _ y _=>l.length-(intOf y).toNat)
  case atStart=>exact⟨i0,i0+1,l,rfl,by go_num,by omega,by omega,Ac ⟨rfl,(Aa OA).symm,rfl,Aa ee,Aa lH⟩⟩
  case round=>
   clear OA lH ee xh;obtain⟨i,j,m,rfl,rfl,l8,iQ,HK⟩:=hrel;obtain⟨cG,gF,oB,hg,hm⟩:=Aa HK;clear HK;by_cases hlt:j<l.length
   ·have hd:decide (j<l.length)=true:=by simpa using hlt
    obtain⟨t,ht⟩:∃t,l[j]?=some t:=⟨_,AB hlt⟩
    have zD:m[j]?=some t:=by
     have e1:=BJ (fun q=>q[0]?) oB;simpa[ht] using e1
    obtain⟨p0,p1,p2,p3,hq⟩:=A9 t;have gH:ToksAt (.slice (some ⟨g,0,none⟩) m.length cap) m wr:=by rw[cG];exact hm
    obtain⟨g',cap',e1,c0,c1,c2,c3⟩:=Bu gH zD hq;simp only[AH,AE,BK,BX] at e1;obtain⟨rfl,_,rfl⟩:=e1;have a7:=AA wr (.cells #[.pointer p0,.pointer p1,.pointer p2,.pointer p3] 139) none;have hC:=Aa HP (wr.alloc (.cells #[.pointer p0,.pointer p1,.pointer p2,.pointer p3] 139)) t (Ab hg (A6 a7 (some g))) (AV ht);rw[show Bt t=.agg #[.pointer p0,.pointer p1,.pointer p2,.pointer p3] from by unfold Bt;rw[hq]] at hC;have hnew:(wr.alloc (.cells #[.pointer p0,.pointer p1,.pointer p2,.pointer p3] 139)).heap[wr.heap.size]?=some (.cells #[.pointer p0,.pointer p1,.pointer p2,.pointer p3] 139 (0,0)):=AR _ _;have im:g<wr.heap.size:=(hm.own g rfl).2;have zF:=hm.gr a7;have iX:=Cr (fun t=>!p t) ht
    have mZ:m.drop (j+1)=l.drop (j+1):=by
     have e1:=BJ (List.drop 1) oB;simpa[List.drop_drop,Nat.add_comm] using e1
    obtain⟨r,hr1⟩:∃r,p t=r:=⟨_,rfl⟩
    rw[hr1] at hC iX;have HS:=Ac (show m.length=l.length/\m.take i=(l.take j).filter (fun t=>!p t)/\m.drop (j+1)=l.drop (j+1)/\A5 t=[.pointer p0,.pointer p1,.pointer p2,.pointer p3]/\(l.take (j+1)).filter (fun t=>!p t)=(l.take j).filter (fun t=>!p t)++(if (!r)=true then [t] else []) from⟨cG,gF,mZ,hq,iX⟩);have di:=Ac (Ab hg (A6 a7 (some g)));have NS:=Ac zF;have cI:=Ac hnew;clear cG gF oB hg hm gH zD ht hq iX mZ a7 zF hnew hr1;go_wp2_with fail;refine hC.mono ?_;rintro e w2⟨rfl,hg2⟩;have oC:=(Aa NS).gr hg2;have bW:=Ab (Aa di) (A6 hg2 (some g));have bU:w2.heap[wr.heap.size]?=some (.cells #[.pointer p0,.pointer p1,.pointer p2,.pointer p3] 139 (0,0)):=by rw[hg2.block _ (Ad (Aa cI)) (by simp)];exact Aa cI
    clear hC hg2 di NS cI;obtain⟨cG,gF,mZ,hq,iX⟩:=Aa HS;clear HS;cases r with
    | true=>
     rw[AO (by simp),BM] at iX;have HK:=Ac (show m.length=l.length/\m.take i=(l.take (j+1)).filter (fun t=>!p t)/\m.drop (j+1)=l.drop (j+1)/\w.grownBy w2 (some g)/\ToksAt (.slice (some ⟨g,0,none⟩) l.length cap) m w2 from⟨cG,by rw[iX];exact gF,mZ,bW,oC⟩);clear cG gF mZ hq iX bW oC bU;go_wp2;go_roundw
     case rel=>exact⟨i,j+1,m,rfl,by go_num,by omega,by omega,HK⟩
     case measure=>simp[intOf];omega
    | false=>
     rw[AQ (by simp)] at iX;have n0:w2.cell? ⟨wr.heap.size,0,none⟩=some (.pointer p0):=by simp[World.cell?,bU]
     have n1:w2.cell? ⟨wr.heap.size,1,none⟩=some (.pointer p1):=by simp[World.cell?,bU]
     have n2:w2.cell? ⟨wr.heap.size,2,none⟩=some (.pointer p2):=by simp[World.cell?,bU]
     have n3:w2.cell? ⟨wr.heap.size,3,none⟩=some (.pointer p3):=by simp[World.cell?,bU]
     obtain⟨u,hu⟩:∃u,m[i]?=some u:=⟨_,AB (by omega)⟩
     obtain⟨s0,s1,s2,s3,hs⟩:=A9 u;have pQ:ToksAt (.slice (some ⟨g,0,none⟩) m.length cap) m w2:=by rw[cG];exact oC
     obtain⟨g',cap',e1,d0,d1,d2,d3⟩:=Bu pQ hu hs;simp only[AH,AE,BK,BX] at e1;obtain⟨rfl,_,rfl⟩:=e1;have z0:=oC.fz;have hst:=ToksAt.stored oC i t (by omega) hq;have aZ:=K5 w2 g (i*4) (.pointer p0) (.pointer p1) (.pointer p2) (.pointer p3);have HK:=Ac (show (m.set i t).length=l.length/\(m.set i t).take (i+1)=(l.take (j+1)).filter (fun t=>!p t)/\(m.set i t).drop (j+1)=l.drop (j+1)/\w.grownBy (Si w2 g (i*4) (.pointer p0) (.pointer p1) (.pointer p2) (.pointer p3)) (some g)/\ToksAt (.slice (some ⟨g,0,none⟩) l.length cap) (m.set i t) (Si w2 g (i*4) (.pointer p0) (.pointer p1) (.pointer p2) (.pointer p3)) from⟨by simpa using cG,by rw[iX,<-gF];exact Fv m i t (by omega),by rw[List.drop_set_of_lt (by omega)];exact mZ,Ab bW aZ,hst⟩);unfold Si at HK;clear cG gF mZ hq iX bW oC bU pQ hu hs hst aZ;go_wp2;go_roundw
     case rel=>exact⟨i+1,j+1,_,by go_num,by go_num,by omega,by omega,HK⟩
     case measure=>simp[intOf];omega
   ·have hd:decide (j<l.length)=false:=by simpa using hlt
    have vW:j=l.length:=by omega
    subst vW;rw[CV] at gF;have br:(l.filter (fun t=>!p t)).length=i:=by rw[<-gF,BL];omega
    have z0:=hm.fz
    have hcl:∀ty,(Builtin.clear_ #[141] ty #[.slice (some ⟨g,i*4,none⟩) (l.length-i) (cap-i)]).run Tryz.prog wr=.ok (.tuple #[]) (wr.setCells g (i*4) (List.replicate ((l.length-i)*4) (.pointer none))):=
     fun ty=>Md wr ty g (i*4) (l.length-i) (cap-i) (by omega) (fun q hq=>hm.there _ (by rw[cG];omega)) z0
    have ew:l.length<=cap:=by
     rcases hm.2.2 with ⟨h1,_⟩|⟨g',cap',cur,h1,_,_,h4,_⟩
     ·simp at h1
     ·simp only[AH,AE,BK,BX] at h1
      omega
    have hcut:=hm.cut i (by omega);have mM:=ToksAt.far (by rw[BL];omega) (List.replicate ((l.length-i)*4) (.pointer none)) (i*4) wr hcut (by rw[BL];omega);rw[gF] at mM;have HF:=Ac (show w.grownBy (wr.setCells g (i*4) (List.replicate ((l.length-i)*4) (.pointer none))) (some g)/\ToksAt (.slice (some ⟨g,0,none⟩) i cap) (l.filter (fun t=>!p t)) (wr.setCells g (i*4) (List.replicate ((l.length-i)*4) (.pointer none))) from⟨Ab hg (Er g _ _ wr),mM⟩);have nY:=Ac br;clear hcut mM hm hg gF oB cG z0 br;go_wp2;go_ret;unfold Ib;rw[Aa nY];exact⟨rfl,(Aa HF).1,(Aa HF).2⟩
theorem Q1s(N:Nat)(b0 b1:Value)(p:Tok->Bool)(g cap:Nat)(l:List Tok)(w:World)(eg:∀args w,(callFunc N args).run Tryz.prog w=.ok (.enter N args) w)(hr:ToksAt (.slice (some ⟨g,0,none⟩) l.length cap) l w)
 (hp:∀wx t,w.grownBy wx (some g)->t∈l->Calls Tryz.prog N #[Bt t,b0,b1] wx fun e w'=>e=.returned (.bool (p t))/\wx.grownBy w' none) :
  Calls Tryz.prog 247 #[.slice (some ⟨g,0,none⟩) l.length cap,(.func (.func N) #[] #[b0,b1])] w fun e w'=>Ib p g cap l w e w':=by
 have hI:=Wd N b0 b1 p _ l w eg hr (fun wx t h ht=>hp wx t (A6 h (some g)) ht);have cj:=hr.le;unfold maxLen at cj;have HP:=Ac hp;have dD:=Ac hr;clear hp hr;go_enter Tryz.func247,Tryz.ntmps247;go_wp2_with fail;refine hI.mono ?_;rintro e w1⟨rfl,hg1⟩;have hr1:=(Aa dD).gr hg1;clear hI dD;rcases Wh p 0 l with h0|⟨i0,h0⟩
 ·rw[h0]
  have hf:=K6 p l 0 h0;have HF:=Ac hf;have lH:=Ac hr1;clear hf hr1 h0;go_wp2;go_ret;unfold Ib;rw[Aa HF];exact⟨rfl,A6 hg1 (some g),Aa lH⟩
 ·rw[h0]
  obtain⟨_,l9,oY⟩:=K7 p l 0 i0 h0;rw[IB,BV] at *;have xh:((i0:Int) == -1)=false:=by simp
  have OA:=Ac oY;have lH:=Ac hr1;have ee:=Ac (A6 hg1 (some g));clear h0 oY hr1 hg1;go_wp2;go_loopw [5,6] (fun x y w'=>∃(i j:Nat) (m:List Tok),x=.int .i64 i/\y=.int .i64 j/\i<j/\j<=l.length/\Hid (m.length=l.length/\m.take i=(l.take j).filter (fun t=>!p t)/\m.drop j=l.drop j/\w.grownBy w' (some g)/\ToksAt (.slice (some ⟨g,0,none⟩) l.length cap) m w')) (fun _ y _=>l.length-(intOf y).toNat)
  case atStart=>exact⟨i0,i0+1,l,rfl,by go_num,by omega,by omega,Ac ⟨rfl,(Aa OA).symm,rfl,Aa ee,Aa lH⟩⟩
  case round=>
   clear OA lH ee xh;obtain⟨i,j,m,rfl,rfl,l8,iQ,HK⟩:=hrel;obtain⟨cG,gF,oB,hg,hm⟩:=Aa HK;clear HK;by_cases hlt:j<l.length
   ·have hd:decide (j<l.length)=true:=by simpa using hlt
    obtain⟨t,ht⟩:∃t,l[j]?=some t:=⟨_,AB hlt⟩
    have zD:m[j]?=some t:=by
     have e1:=BJ (fun q=>q[0]?) oB;simpa[ht] using e1
    obtain⟨p0,p1,p2,p3,hq⟩:=A9 t;have gH:ToksAt (.slice (some ⟨g,0,none⟩) m.length cap) m wr:=by rw[cG];exact hm
    obtain⟨g',cap',e1,c0,c1,c2,c3⟩:=Bu gH zD hq;simp only[AH,AE,BK,BX] at e1;obtain⟨rfl,_,rfl⟩:=e1;have a7:=AA wr (.cells #[.pointer p0,.pointer p1,.pointer p2,.pointer p3] 139) none;have hC:=Aa HP (wr.alloc (.cells #[.pointer p0,.pointer p1,.pointer p2,.pointer p3] 139)) t (Ab hg (A6 a7 (some g))) (AV ht);rw[show Bt t=.agg #[.pointer p0,.pointer p1,.pointer p2,.pointer p3] from by unfold Bt;rw[hq]] at hC;have hnew:(wr.alloc (.cells #[.pointer p0,.pointer p1,.pointer p2,.pointer p3] 139)).heap[wr.heap.size]?=some (.cells #[.pointer p0,.pointer p1,.pointer p2,.pointer p3] 139 (0,0)):=AR _ _;have im:g<wr.heap.size:=(hm.own g rfl).2;have zF:=hm.gr a7;have iX:=Cr (fun t=>!p t) ht
    have mZ:m.drop (j+1)=l.drop (j+1):=by
     have e1:=BJ (List.drop 1) oB;simpa[List.drop_drop,Nat.add_comm] using e1
    obtain⟨r,hr1⟩:∃r,p t=r:=⟨_,rfl⟩
    rw[hr1] at hC iX;have HS:=Ac (show m.length=l.length/\m.take i=(l.take j).filter (fun t=>!p t)/\m.drop (j+1)=l.drop (j+1)/\A5 t=[.pointer p0,.pointer p1,.pointer p2,.pointer p3]/\(l.take (j+1)).filter (fun t=>!p t)=(l.take j).filter (fun t=>!p t)++(if (!r)=true then [t] else []) from⟨cG,gF,mZ,hq,iX⟩);have di:=Ac (Ab hg (A6 a7 (some g)));have NS:=Ac zF;have cI:=Ac hnew;clear cG gF oB hg hm gH zD ht hq iX mZ a7 zF hnew hr1;go_wp2_with fail;refine hC.mono ?_;rintro e w2⟨rfl,hg2⟩;have oC:=(Aa NS).gr hg2;have bW:=Ab (Aa di) (A6 hg2 (some g));have bU:w2.heap[wr.heap.size]?=some (.cells #[.pointer p0,.pointer p1,.pointer p2,.pointer p3] 139 (0,0)):=by rw[hg2.block _ (Ad (Aa cI)) (by simp)];exact Aa cI
    clear hC hg2 di NS cI;obtain⟨cG,gF,mZ,hq,iX⟩:=Aa HS;clear HS;cases r with
    | true=>
     rw[AO (by simp),BM] at iX;have HK:=Ac (show m.length=l.length/\m.take i=(l.take (j+1)).filter (fun t=>!p t)/\m.drop (j+1)=l.drop (j+1)/\w.grownBy w2 (some g)/\ToksAt (.slice (some ⟨g,0,none⟩) l.length cap) m w2 from⟨cG,by rw[iX];exact gF,mZ,bW,oC⟩);clear cG gF mZ hq iX bW oC bU;go_wp2;go_roundw
     case rel=>exact⟨i,j+1,m,rfl,by go_num,by omega,by omega,HK⟩
     case measure=>simp[intOf];omega
    | false=>
     rw[AQ (by simp)] at iX;have n0:w2.cell? ⟨wr.heap.size,0,none⟩=some (.pointer p0):=by simp[World.cell?,bU]
     have n1:w2.cell? ⟨wr.heap.size,1,none⟩=some (.pointer p1):=by simp[World.cell?,bU]
     have n2:w2.cell? ⟨wr.heap.size,2,none⟩=some (.pointer p2):=by simp[World.cell?,bU]
     have n3:w2.cell? ⟨wr.heap.size,3,none⟩=some (.pointer p3):=by simp[World.cell?,bU]
     obtain⟨u,hu⟩:∃u,m[i]?=some u:=⟨_,AB (by omega)⟩
     obtain⟨s0,s1,s2,s3,hs⟩:=A9 u;have pQ:ToksAt (.slice (some ⟨g,0,none⟩) m.length cap) m w2:=by rw[cG];exact oC
     obtain⟨g',cap',e1,d0,d1,d2,d3⟩:=Bu pQ hu hs;simp only[AH,AE,BK,BX] at e1;obtain⟨rfl,_,rfl⟩:=e1;have z0:=oC.fz;have hst:=ToksAt.stored oC i t (by omega) hq;have aZ:=K5 w2 g (i*4) (.pointer p0) (.pointer p1) (.pointer p2) (.pointer p3);have HK:=Ac (show (m.set i t).length=l.length/\(m.set i t).take (i+1)=(l.take (j+1)).filter (fun t=>!p t)/\(m.set i t).drop (j+1)=l.drop (j+1)/\w.grownBy (Si w2 g (i*4) (.pointer p0) (.pointer p1) (.pointer p2) (.pointer p3)) (some g)/\ToksAt (.slice (some ⟨g,0,none⟩) l.length cap) (m.set i t) (Si w2 g (i*4) (.pointer p0) (.pointer p1) (.pointer p2) (.pointer p3)) from⟨by simpa using cG,by rw[iX,<-gF];exact Fv m i t (by omega),by rw[List.drop_set_of_lt (by omega)];exact mZ,Ab bW aZ,hst⟩);unfold Si at HK;clear cG gF mZ hq iX bW oC bU pQ hu hs hst aZ;go_wp2;go_roundw
     case rel=>exact⟨i+1,j+1,_,by go_num,by go_num,by omega,by omega,HK⟩
     case measure=>simp[intOf];omega
   ·have hd:decide (j<l.length)=false:=by simpa using hlt
    have vW:j=l.length:=by omega
    subst vW;rw[CV] at gF;have br:(l.filter (fun t=>!p t)).length=i:=by rw[<-gF,BL];omega
    have z0:=hm.fz
    have hcl:∀ty,(Builtin.clear_ #[141] ty #[.slice (some ⟨g,i*4,none⟩) (l.length-i) (cap-i)]).run Tryz.prog wr=.ok (.tuple #[]) (wr.setCells g (i*4) (List.replicate ((l.length-i)*4) (.pointer none))):=
     fun ty=>Md wr ty g (i*4) (l.length-i) (cap-i) (by omega) (fun q hq=>hm.there _ (by rw[cG];omega)) z0
    have ew:l.length<=cap:=by
     rcases hm.2.2 with ⟨h1,_⟩|⟨g',cap',cur,h1,_,_,h4,_⟩
     ·simp at h1
     ·simp only[AH,AE,BK,BX] at h1
      omega
    have hcut:=hm.cut i (by omega);have mM:=ToksAt.far (by rw[BL];omega) (List.replicate ((l.length-i)*4) (.pointer none)) (i*4) wr hcut (by rw[BL];omega);rw[gF] at mM;have HF:=Ac (show w.grownBy (wr.setCells g (i*4) (List.replicate ((l.length-i)*4) (.pointer none))) (some g)/\ToksAt (.slice (some ⟨g,0,none⟩) i cap) (l.filter (fun t=>!p t)) (wr.setCells g (i*4) (List.replicate ((l.length-i)*4) (.pointer none))) from⟨Ab hg (Er g _ _ wr),mM⟩);have nY:=Ac br;clear hcut mM hm hg gF oB cG z0 br;go_wp2;go_ret;unfold Ib;rw[Aa nY];exact⟨rfl,(Aa HF).1,(Aa HF).2⟩
theorem ToksAt.shape{v:Value}(h:ToksAt v l w):(v=.slice none 0 0/\l=[])\/∃g cap,v=.slice (some ⟨g,0,none⟩) l.length cap:=by
 rcases h.2.2 with ⟨h1,h2⟩|⟨g,cap,cur,h1,_⟩
 ·exact .inl ⟨h1,CM.1 h2⟩
 ·exact .inr ⟨g,cap,h1⟩
def Q0(b o:Nat)(v:Value)(cs:Array Value)(ty:TypeId)(l:List Tok)(w w':World):Prop:=
 ∃v',w'.heap[b]?=some (.cells (cs.setIfInBounds o v') ty (0,0))/\ToksAt v' l w'/\GrS (fun k=>k=b\/v.ownBlock=some k) w w'/\v'.ownBlock=v.ownBlock
theorem Ry(b o cap:Nat)(ao:Option Addr)(w:World)(hb:w.cell? ⟨b,o,none⟩=some (.slice ao 0 cap)) :
  Calls Tryz.prog 248 #[.iface 221 (.pointer (some ⟨b,o,none⟩))] w fun e w'=>e=.returned (.tuple #[])/\w'=w:=by
 have hN:=Ra b o ao 0 cap w hb;have mN:=Tryz.mLen;go_enter Tryz.func248,Tryz.ntmps248;go_wp2_with fail;refine hN.mono ?_;rintro e w1⟨rfl,rfl⟩;clear hN;go_wp2;go_loopw [3] (fun x w'=>x=.int .i64 (-1)/\w'=w1) (fun _ _=>0)
 case atStart=>exact⟨rfl,rfl⟩
 case round=>
  obtain⟨rfl,rfl⟩:=hrel;go_wp2;go_end0
  exact⟨rfl,rfl⟩
theorem Tryz.mForL(v:Value)(w:World):(Go.method 482 137 v "sieve/nodes.forget").run Tryz.prog w=.ok (241,v) w:=by kernel_rfl
theorem Tryz.mForJ(b:Nat)(w:World):(Go.method 482 208 (.pointer (some ⟨b,0,none⟩)) "sieve/nodes.forget").run Tryz.prog w=.ok (256,.pointer (some ⟨b,0,none⟩)) w:=by kernel_rfl
theorem Tryz.mForH(b:Nat)(w:World):(Go.method 482 209 (.pointer (some ⟨b,0,none⟩)) "sieve/nodes.forget").run Tryz.prog w=.ok (256,.pointer (some ⟨b,0,none⟩)) w:=by kernel_rfl
def V0:List Nd->Nat
 | []=>241
 | _::_=>256
theorem Q1o(N:Nat)(b0:Value)(p:Tok->Bool)(v:Value)(l:List Tok)(w:World)(eg:∀args w,(callFunc N args).run Tryz.prog w=.ok (.enter N args) w)(hr:ToksAt v l w)
 (hp:(∀wx t,GrS (fun k=>v.ownBlock=some k) w wx->t∈l->Calls Tryz.prog N #[Bt t,b0] wx fun e w'=>e=.returned (.bool (p t))/\wx.grownBy w' none)) :
  Calls Tryz.prog 247 #[v,(.func (.func N) #[] #[b0])] w fun e w'=>∃v',e=.returned v'/\ToksAt v' (l.filter (fun t=>!p t)) w'/\GrS (fun k=>v.ownBlock=some k) w w'/\v'.ownBlock=v.ownBlock:=by
 rcases hr.shape with ⟨rfl,rfl⟩|⟨g,cap,rfl⟩
 ·have hI:=Wc N b0 p _ [] w eg hr (fun wx t _ ht=>by simp at ht)
  clear hp;go_enter Tryz.func247,Tryz.ntmps247;go_wp2_with fail;refine hI.mono ?_;rintro e w1⟨rfl,hg1⟩;have hr1:=hr.gr hg1;clear hI hr;go_wp2;go_ret;exact⟨_,rfl,hr1,GrS.of hg1 (by simp),rfl⟩
 ·refine(Q1r N b0 p g cap l w eg hr (fun wx t h ht=>hp wx t (GrS.of h (fun k hk=>by rw[<-hk];rfl)) ht)).mono ?_
  rintro e w'⟨rfl,h1,h2⟩;exact⟨_,rfl,h2,GrS.of h1 (fun k hk=>by rw[<-hk];rfl),rfl⟩
theorem Qj(N:Nat)(b0:Value)(p:Tok->Bool)(b o:Nat)(v:Value)(cs:Array Value)(ty:TypeId)(l:List Tok)(w:World)(eg:∀args w,(callFunc N args).run Tryz.prog w=.ok (.enter N args) w)(hb:w.heap[b]?=some (.cells cs ty (0,0)))(ho:cs[o]?=some v)(hr:ToksAt v l w)(hne:v.ownBlock≠some b)
 (hp:(∀wx t,GrS (fun k=>v.ownBlock=some k) w wx->t∈l->Calls Tryz.prog N #[Bt t,b0] wx fun e w'=>e=.returned (.bool (p t))/\wx.grownBy w' none)) :
  Calls Tryz.prog 244 #[.pointer (some ⟨b,o,none⟩),(.func (.func N) #[] #[b0])] w fun e w'=>e=.returned (.tuple #[])/\Q0 b o v cs ty (l.filter (fun t=>!p t)) w w':=by
 have hD:=Q1o N b0 p v l w eg hr hp;have b0:w.cell? ⟨b,o,none⟩=some v:=by simp[World.cell?,hb];simpa using ho
 have eM:=Ad hb;obtain⟨ao,cap,rfl⟩:=hr.slice;have HB:=Ac hb;have HO:=Ac ho;have jh:=Ac hne;clear hp hb ho hr hne;go_enter Tryz.func244,Tryz.ntmps244;go_wp2_with fail;refine hD.mono ?_;rintro e w1⟨v',rfl,hr1,ae,how⟩;have hb1:w1.heap[b]?=some (.cells cs ty (0,0)):=by rw[ae.block b eM (Aa jh)];exact Aa HB
 obtain⟨lG,aW,rfl⟩:=hr1.slice;have b1:w1.cell? ⟨b,o,none⟩=some (.slice ao l.length cap):=by simp[World.cell?,hb1];simpa using Aa HO
 have z1:w1.frozen? ⟨b,o,none⟩=false:=by simp[World.frozen?,hb1]
 have fD:=Ac hb1;have lH:=Ac hr1;have ee:=Ac ae;have HOW:=Ac how;clear hD hb1 hr1 ae how;go_wp2;go_end0
 have aZ:=Aj w1 b o (.slice lG (l.filter (fun t=>!p t)).length aW);refine⟨rfl,_,by rw[BB w1 b o _ _ _ (Aa fD)],(Aa lH).other aZ (fun g hg e=>?_),?_,Aa HOW⟩
 ·rw[Aa HOW] at hg
  simp only[AE] at e;exact Aa jh (by rw[hg,e])
 ·exact((Aa ee).mono (fun k hk=>.inr hk)).then aZ (fun g hg=>by simp at hg;exact .inr (.inl hg.symm))
theorem Q1g(U:Nat->Nat)(N:Nat)(b0:Value)(p:Tok->Bool)(b o:Nat)(v:Value)(cs:Array Value)(ty:TypeId)(l:List Tok)(w:World)(eg:∀args w,(callFunc N args).run Tryz.prog w=.ok (.enter N args) w)(hb:w.heap[b]?=some (.cells cs ty (0,0)))(ho:cs[o]?=some v)(hr:ToksAt v l w)(hne:v.ownBlock≠some b)(hlen:l.length<=1000000000)
 (og:U b≠1)(qT:∀g,v.ownBlock=some g->U g≠1)(hl4:∀x∈l,x.length<=4/\∀y∈x,FtAt U y w)
 (hp:(∀wx t,GrS (fun k=>v.ownBlock=some k) w wx->t∈l->Calls Tryz.prog N #[Bt t,b0] wx fun e w'=>e=.returned (.bool (p t))/\wx.grownBy w' none)) :
  Calls Tryz.prog 245 #[.pointer (some ⟨b,o,none⟩),(.func (.func N) #[] #[b0])] w fun e w'=>e=.returned (.tuple #[])/\Q0 b o v cs ty (Hp.init Tok.less (l.filter (fun t=>!p t))) w w':=by
 have hD:=Qj N b0 p b o v cs ty l w eg hb ho hr hne hp;have pN:o<cs.size:=(CU.1 ho).1;have HB:=Ac hb;have HV:=Ac qT;have HL:=Ac hl4;have jh:=Ac hne;clear hp hb ho hr hne qT hl4;go_enter Tryz.func245,Tryz.ntmps245;go_wp2_with fail;refine hD.mono ?_;rintro e w1⟨rfl,v',hb1,hr1,ae,how⟩
 have hc1:w1.cell? ⟨b,o,none⟩=some v':=by
  simp[World.cell?,hb1];rw[GW,AQ rfl,AQ pN]
 rcases hr1.shape with ⟨rfl,hnil⟩|⟨g,cap,rfl⟩
 ·rw[hnil] at hr1
  have xE:=Ac hnil;have hI:=Ry b o 0 none w1 hc1;have HF:=Ac (show w1.heap[b]?=some (.cells (cs.setIfInBounds o (.slice none 0 0)) ty (0,0))/\ToksAt (.slice none 0 0) [] w1/\GrS (fun k=>k=b\/v.ownBlock=some k) w w1/\(Value.slice none 0 0).ownBlock=v.ownBlock from⟨hb1,hr1,ae,how⟩);clear hD hb1 hr1 ae how hnil;go_wp2_with fail;refine hI.mono ?_;rintro e w2⟨rfl,rfl⟩;clear hI;go_wp2;go_end0
  obtain⟨f1,f2,f3,f4⟩:=Aa HF;exact⟨rfl,.slice none 0 0,f1,by rw[Aa xE];exact f2,f3,f4⟩
 ·have hbg:b≠g:=fun e=>Aa jh (by rw[<-how,<-e];rfl)
  have wI:U g≠1:=Aa HV g (by rw[<-how];rfl)
  have hA:AgAt U b o g cap (l.filter (fun t=>!p t)) w1:=by
   refine⟨hc1,hbg,hr1,wI,fun t ht=>?_⟩;have hm:=(BH.1 ht).1;exact⟨(Aa HL t hm).1,fun x hx=>((Aa HL t hm).2 x hx).keep ae (fun k hk=>by rintro(rfl|h);exact og hk;exact Aa HV k h hk) (fun _ _ h=>h)⟩
  have hI:=V8 U b o g cap (l.filter (fun t=>!p t)) w1 hA (by have:=CR (fun t=>!p t) l;omega);have HF:=Ac (show w1.heap[b]?=some (.cells (cs.setIfInBounds o (.slice (some ⟨g,0,none⟩) (l.filter (fun t=>!p t)).length cap)) ty (0,0))/\GrS (fun k=>k=b\/v.ownBlock=some k) w w1/\v.ownBlock=some g from⟨hb1,ae,by rw[<-how];rfl⟩);clear hD hb1 hr1 ae how hA hc1;go_wp2_with fail;refine hI.mono ?_;rintro e w2⟨rfl,hg2,gz⟩;clear hI;go_wp2;go_end0
  obtain⟨f1,f2,f3⟩:=Aa HF;refine⟨rfl,.slice (some ⟨g,0,none⟩) (l.filter (fun t=>!p t)).length cap,?_,?_,f2.then hg2 (fun k hk=>.inr (.inr (by rw[<-hk];exact f3))),by rw[f3];rfl⟩
  ·rw[hg2.block b (Ad f1) (by simpa using hbg)];exact f1
  ·have:=gz.row
   rw[(Hp.init_perm _ _).length_eq] at this;exact this
theorem Q1p(N:Nat)(b0 b1:Value)(p:Tok->Bool)(v:Value)(l:List Tok)(w:World)(eg:∀args w,(callFunc N args).run Tryz.prog w=.ok (.enter N args) w)(hr:ToksAt v l w)
 (hp:(∀wx t,GrS (fun k=>v.ownBlock=some k) w wx->t∈l->Calls Tryz.prog N #[Bt t,b0,b1] wx fun e w'=>e=.returned (.bool (p t))/\wx.grownBy w' none)) :
  Calls Tryz.prog 247 #[v,(.func (.func N) #[] #[b0,b1])] w fun e w'=>∃v',e=.returned v'/\ToksAt v' (l.filter (fun t=>!p t)) w'/\GrS (fun k=>v.ownBlock=some k) w w'/\v'.ownBlock=v.ownBlock:=by
 rcases hr.shape with ⟨rfl,rfl⟩|⟨g,cap,rfl⟩
 ·have hI:=Wd N b0 b1 p _ [] w eg hr (fun wx t _ ht=>by simp at ht)
  clear hp;go_enter Tryz.func247,Tryz.ntmps247;go_wp2_with fail;refine hI.mono ?_;rintro e w1⟨rfl,hg1⟩;have hr1:=hr.gr hg1;clear hI hr;go_wp2;go_ret;exact⟨_,rfl,hr1,GrS.of hg1 (by simp),rfl⟩
 ·refine(Q1s N b0 b1 p g cap l w eg hr (fun wx t h ht=>hp wx t (GrS.of h (fun k hk=>by rw[<-hk];rfl)) ht)).mono ?_
  rintro e w'⟨rfl,h1,h2⟩;exact⟨_,rfl,h2,GrS.of h1 (fun k hk=>by rw[<-hk];rfl),rfl⟩
theorem Qk(N:Nat)(b0 b1:Value)(p:Tok->Bool)(b o:Nat)(v:Value)(cs:Array Value)(ty:TypeId)(l:List Tok)(w:World)(eg:∀args w,(callFunc N args).run Tryz.prog w=.ok (.enter N args) w)(hb:w.heap[b]?=some (.cells cs ty (0,0)))(ho:cs[o]?=some v)(hr:ToksAt v l w)(hne:v.ownBlock≠some b)
 (hp:(∀wx t,GrS (fun k=>v.ownBlock=some k) w wx->t∈l->Calls Tryz.prog N #[Bt t,b0,b1] wx fun e w'=>e=.returned (.bool (p t))/\wx.grownBy w' none)) :
  Calls Tryz.prog 244 #[.pointer (some ⟨b,o,none⟩),(.func (.func N) #[] #[b0,b1])] w fun e w'=>e=.returned (.tuple #[])/\Q0 b o v cs ty (l.filter (fun t=>!p t)) w w':=by
 have hD:=Q1p N b0 b1 p v l w eg hr hp;have b0:w.cell? ⟨b,o,none⟩=some v:=by simp[World.cell?,hb];simpa using ho
 have eM:=Ad hb;obtain⟨ao,cap,rfl⟩:=hr.slice;have HB:=Ac hb;have HO:=Ac ho;have jh:=Ac hne;clear hp hb ho hr hne;go_enter Tryz.func244,Tryz.ntmps244;go_wp2_with fail;refine hD.mono ?_;rintro e w1⟨v',rfl,hr1,ae,how⟩;have hb1:w1.heap[b]?=some (.cells cs ty (0,0)):=by rw[ae.block b eM (Aa jh)];exact Aa HB
 obtain⟨lG,aW,rfl⟩:=hr1.slice;have b1:w1.cell? ⟨b,o,none⟩=some (.slice ao l.length cap):=by simp[World.cell?,hb1];simpa using Aa HO
 have z1:w1.frozen? ⟨b,o,none⟩=false:=by simp[World.frozen?,hb1]
 have fD:=Ac hb1;have lH:=Ac hr1;have ee:=Ac ae;have HOW:=Ac how;clear hD hb1 hr1 ae how;go_wp2;go_end0
 have aZ:=Aj w1 b o (.slice lG (l.filter (fun t=>!p t)).length aW);refine⟨rfl,_,by rw[BB w1 b o _ _ _ (Aa fD)],(Aa lH).other aZ (fun g hg e=>?_),?_,Aa HOW⟩
 ·rw[Aa HOW] at hg
  simp only[AE] at e;exact Aa jh (by rw[hg,e])
 ·exact((Aa ee).mono (fun k hk=>.inr hk)).then aZ (fun g hg=>by simp at hg;exact .inr (.inl hg.symm))
theorem Q1h(U:Nat->Nat)(N:Nat)(b0 b1:Value)(p:Tok->Bool)(b o:Nat)(v:Value)(cs:Array Value)(ty:TypeId)(l:List Tok)(w:World)(eg:∀args w,(callFunc N args).run Tryz.prog w=.ok (.enter N args) w)(hb:w.heap[b]?=some (.cells cs ty (0,0)))(ho:cs[o]?=some v)(hr:ToksAt v l w)(hne:v.ownBlock≠some b)(hlen:l.length<=1000000000)
 (og:U b≠1)(qT:∀g,v.ownBlock=some g->U g≠1)(hl4:∀x∈l,x.length<=4/\∀y∈x,FtAt U y w)
 (hp:(∀wx t,GrS (fun k=>v.ownBlock=some k) w wx->t∈l->Calls Tryz.prog N #[Bt t,b0,b1] wx fun e w'=>e=.returned (.bool (p t))/\wx.grownBy w' none)) :
  Calls Tryz.prog 245 #[.pointer (some ⟨b,o,none⟩),(.func (.func N) #[] #[b0,b1])] w fun e w'=>e=.returned (.tuple #[])/\Q0 b o v cs ty (Hp.init Tok.less (l.filter (fun t=>!p t))) w w':=by
 have hD:=Qk N b0 b1 p b o v cs ty l w eg hb ho hr hne hp;have pN:o<cs.size:=(CU.1 ho).1;have HB:=Ac hb;have HV:=Ac qT;have HL:=Ac hl4;have jh:=Ac hne;clear hp hb ho hr hne qT hl4;go_enter Tryz.func245,Tryz.ntmps245;go_wp2_with fail;refine hD.mono ?_;rintro e w1⟨rfl,v',hb1,hr1,ae,how⟩
 have hc1:w1.cell? ⟨b,o,none⟩=some v':=by
  simp[World.cell?,hb1];rw[GW,AQ rfl,AQ pN]
 rcases hr1.shape with ⟨rfl,hnil⟩|⟨g,cap,rfl⟩
 ·rw[hnil] at hr1
  have xE:=Ac hnil;have hI:=Ry b o 0 none w1 hc1;have HF:=Ac (show w1.heap[b]?=some (.cells (cs.setIfInBounds o (.slice none 0 0)) ty (0,0))/\ToksAt (.slice none 0 0) [] w1/\GrS (fun k=>k=b\/v.ownBlock=some k) w w1/\(Value.slice none 0 0).ownBlock=v.ownBlock from⟨hb1,hr1,ae,how⟩);clear hD hb1 hr1 ae how hnil;go_wp2_with fail;refine hI.mono ?_;rintro e w2⟨rfl,rfl⟩;clear hI;go_wp2;go_end0
  obtain⟨f1,f2,f3,f4⟩:=Aa HF;exact⟨rfl,.slice none 0 0,f1,by rw[Aa xE];exact f2,f3,f4⟩
 ·have hbg:b≠g:=fun e=>Aa jh (by rw[<-how,<-e];rfl)
  have wI:U g≠1:=Aa HV g (by rw[<-how];rfl)
  have hA:AgAt U b o g cap (l.filter (fun t=>!p t)) w1:=by
   refine⟨hc1,hbg,hr1,wI,fun t ht=>?_⟩;have hm:=(BH.1 ht).1;exact⟨(Aa HL t hm).1,fun x hx=>((Aa HL t hm).2 x hx).keep ae (fun k hk=>by rintro(rfl|h);exact og hk;exact Aa HV k h hk) (fun _ _ h=>h)⟩
  have hI:=V8 U b o g cap (l.filter (fun t=>!p t)) w1 hA (by have:=CR (fun t=>!p t) l;omega);have HF:=Ac (show w1.heap[b]?=some (.cells (cs.setIfInBounds o (.slice (some ⟨g,0,none⟩) (l.filter (fun t=>!p t)).length cap)) ty (0,0))/\GrS (fun k=>k=b\/v.ownBlock=some k) w w1/\v.ownBlock=some g from⟨hb1,ae,by rw[<-how];rfl⟩);clear hD hb1 hr1 ae how hA hc1;go_wp2_with fail;refine hI.mono ?_;rintro e w2⟨rfl,hg2,gz⟩;clear hI;go_wp2;go_end0
  obtain⟨f1,f2,f3⟩:=Aa HF;refine⟨rfl,.slice (some ⟨g,0,none⟩) (l.filter (fun t=>!p t)).length cap,?_,?_,f2.then hg2 (fun k hk=>.inr (.inr (by rw[<-hk];exact f3))),by rw[f3];rfl⟩
  ·rw[hg2.block b (Ad f1) (by simpa using hbg)];exact f1
  ·have:=gz.row
   rw[(Hp.init_perm _ _).length_eq] at this;exact this
theorem Ci:(Bb n k tv lv ov fv nx)[3]?=some ov/\(Bb n k tv lv ov fv nx)[4]?=some fv/\(Bb n k tv lv ov fv nx)[5]?=some nx:=⟨Ez 3 (by omega),Ez 4 (by omega),Ez 5 (by omega)⟩
theorem Gh{fE:Value}(h:n'.c=n.c):(Bb n k tv lv ov fv nx).setIfInBounds 3 fE=Bb n' k tv lv fE fv nx:=by
 unfold Bb;rw[h];split<;>rfl
theorem I5{af:Value}(h:n'.c=n.c):(Bb n k tv lv ov fv nx).setIfInBounds 4 af=Bb n' k tv lv ov af nx:=by
 unfold Bb;rw[h];split<;>rfl
theorem SufAt.head{U:Nat->Nat}{ru jn q k:Nat}{ns:List Nd}{e:En}{hd:Value}{w:World}(h:SufAt U ru jn q k ns e hd w) :
  (∃b,hd=.iface 137 (.pointer (some ⟨b,0,none⟩))/\ns=[])\/(∃b n iF,hd=.iface 209 (.pointer (some ⟨b,0,none⟩))/\ns=n::iF/\n.c.neg=true)\/(∃b n iF,hd=.iface 208 (.pointer (some ⟨b,0,none⟩))/\ns=n::iF/\n.c.neg=false):=by
 cases ns with
 | nil=>obtain⟨b,tv,wv,h1,_⟩:=h;exact .inl ⟨b,h1,rfl⟩
 | cons n iF=>
  obtain⟨b,nx,tv,lv,ov,fv,h1,_⟩:=h;unfold C8 at h1;cases hn:n.c.neg with
  | true=>rw[hn,AQ rfl] at h1;exact .inr (.inl ⟨b,n,iF,h1,rfl,hn⟩)
  | false=>rw[hn,AO (by simp)] at h1;exact .inr (.inr ⟨b,n,iF,h1,rfl,hn⟩)
def Am(U:Nat->Nat)(q m k:Nat):Prop:=4+3*q<=U k/\U k<7+3*(q+m)
def Q2y(D:Tok->Prop)(ns:List Nd)(e:En):Prop:=(∀n∈ns,∀t∈n.toks,D t)/\(∀t∈e.toks,D t)/\∀t∈e.wait,D t
theorem FtAt.codes{U:Nat->Nat}{q m:Nat}{g:Ft}{w':World}(h:FtAt U g w)(hg:GrS (Am U q m) w w'):FtAt U g w':=h.keep hg (fun k hk e=>by unfold Am at e;omega) (fun _ _ h=>h)
theorem Q1w(U:Nat->Nat)(ru jn N:Nat)(b0:Value)(p:Tok->Bool)(D:Tok->Prop)(eg:∀args w,(callFunc N args).run Tryz.prog w=.ok (.enter N args) w)(q b:Nat)(e:En)(tv wv:Value)(w:World)(qj:∀t,D t->t.length<=4)
 (h:LastAt U q b ru jn e tv wv w)(hT:Q2y D [] e)(hlen:e.wait.length<=1000000000)(hp:(∀wx t,GrS (Am U q 0) w wx->D t->(∀g∈t,FtAt U g wx)->Calls Tryz.prog N #[Bt t,b0] wx fun e w'=>e=.returned (.bool (p t))/\wx.grownBy w' none)) :
  Calls Tryz.prog 241 #[.pointer (some ⟨b,0,none⟩),(.func (.func N) #[] #[b0])] w fun e' w'=>e'=.returned (.tuple #[])/\(∃dc dT,LastAt U q b ru jn (e.drop p) dc dT w')/\GrS (Am U q 0) w w':=by
 have bh:tv.ownBlock≠some b:=fun hx=>by have:=h.toks.2 b hx;have:=h.own;omega
 have dL:wv.ownBlock≠some b:=fun hx=>by have:=h.wait.2 b hx;have:=h.own;omega
 have hS1:=Qj N b0 p b 0 tv _ 147 e.toks w eg h.blk rfl h.toks.1 bh (fun wx t hg ht=>hp wx t (hg.mono (fun k hk=>by have:=h.toks.2 k hk;unfold Am;omega)) (hT.2.1 t ht) (fun g cH=>(h.tfs t ht g cH).keep hg (fun k hk hx=>by have:=h.toks.2 k hx;omega) (fun _ _ h=>h)));have HH:=Ac h;have HT:=Ac hT;have HP:=Ac hp;have HD:=Ac qj;clear h hT hp qj;go_enter Tryz.func241,Tryz.ntmps241;go_wp2_with fail;refine hS1.mono ?_;rintro e1 w1⟨rfl,dc,hb1,hr1,ae,how⟩;have jP:w1.heap[b]?=some (.cells #[dc,wv,.int .i64 ru,.int .i64 jn] 147 (0,0)):=hb1
 have hsm:∀k,(k=b\/tv.ownBlock=some k)->Am U q 0 k:=by
  rintro k (rfl|hk)
  ·have:=(Aa HH).own;unfold Am;omega
  ·have:=(Aa HH).toks.2 k hk;unfold Am;omega
 have bw:GrS (Am U q 0) w w1:=ae.mono hsm;have hw1:TRow U (6+3*q) 139 4 A5 wv e.wait w1:=(Aa HH).wait.keep2 ae (fun k hk=>by rintro(rfl|hx);have:=(Aa HH).own;omega;have:=(Aa HH).toks.2 k hx;omega) (fun _ _ h=>h)
 have je:=Q1g U N b0 p b 1 wv _ 147 e.wait w1 eg jP rfl hw1.1 dL hlen (by have:=(Aa HH).own;omega) (fun g hx=>by have:=hw1.2 g hx;omega) (fun x hx=>⟨Aa HD x ((Aa HT).2.2 x hx),fun y hy=>((Aa HH).wfs x hx y hy).codes bw⟩)
  (fun wx t hg ht=>Aa HP wx t (bw.trans (hg.mono (fun k hk=>by have:=hw1.2 k hk;unfold Am;omega))) ((Aa HT).2.2 t ht) (fun g cH=>(((Aa HH).wfs t ht g cH).codes bw).keep hg (fun k hk hx=>by have:=hw1.2 k hx;omega) (fun _ _ h=>h)))
 have XH:=Ac (show ToksAt dc (e.toks.filter (fun t=>!p t)) w1/\dc.ownBlock=tv.ownBlock from⟨hr1,how⟩);have ee:=Ac bw;have x9:=Ac hw1;clear hS1 hb1 hr1 ae how jP hsm bw hw1;go_wp2_with fail;refine je.mono ?_;rintro e2 w2⟨rfl,dT,hb2,hr2,bW,pM⟩;clear je;go_wp2;go_end0
 obtain⟨f1,f2⟩:=Aa XH;have hh:=Aa HH
 have mh:GrS (Am U q 0) w1 w2:=bW.mono (by
  rintro k (rfl|hk)
  ·have:=hh.own;unfold Am;omega
  ·have:=(Aa x9).2 k hk;unfold Am;omega)
 have mf:=(Aa ee).trans mh;refine⟨rfl,⟨dc,dT,hb2,hh.own,⟨?_,fun g hx=>hh.toks.2 g (by rw[<-f2];exact hx)⟩,⟨hr2,fun g hx=>(Aa x9).2 g (by rw[<-pM];exact hx)⟩,?_,?_,hh.low⟩,mf⟩
 ·refine bW.row f1 (fun g hx=>?_)
  rintro(rfl|hy)
  ·exact bh (by rw[<-f2];exact hx)
  ·have h1:=hh.toks.2 g (by rw[<-f2];exact hx)
   have h2:=(Aa x9).2 g hy;omega
 ·intro t ht g hg
  exact(hh.tfs t (BH.1 ht).1 g hg).codes mf
 ·intro t ht g hg
  have hm:t∈e.wait.filter (fun t=>!p t):=(Hp.init_perm _ _).mem_iff.1 ht;exact(hh.wfs t (BH.1 hm).1 g hg).codes mf
theorem V4(U:Nat->Nat)(ru jn N:Nat)(b0:Value)(p:Tok->Bool)(D:Tok->Prop)(eg:∀args w,(callFunc N args).run Tryz.prog w=.ok (.enter N args) w)(qj:∀t,D t->t.length<=4) :
  ∀(ns:List Nd) (q k b:Nat) (ty:TypeId) (e:En) (w:World),SufAt U ru jn q k ns e (.iface ty (.pointer (some ⟨b,0,none⟩))) w->Q2y D ns e->e.wait.length<=1000000000->(∀wx t,GrS (Am U q ns.length) w wx->D t->(∀g∈t,FtAt U g wx)->Calls Tryz.prog N #[Bt t,b0] wx fun e w'=>e=.returned (.bool (p t))/\wx.grownBy w' none)->
   Calls Tryz.prog (V0 ns) #[.pointer (some ⟨b,0,none⟩),(.func (.func N) #[] #[b0])] w fun e' w'=>e'=.returned (.tuple #[])/\SufAt U ru jn q k (ns.map (Nd.drop p)) (e.drop p) (.iface ty (.pointer (some ⟨b,0,none⟩))) w'/\GrS (Am U q ns.length) w w'
 | [],q,k,b,ty,e,w,h,hT,hlen,hp=>by
  obtain⟨b',tv,wv,h1,h2⟩:=h;simp only[DK,DC,AE,BK,BX] at h1;obtain⟨rfl,rfl⟩:=h1;refine(Q1w U ru jn N b0 p D eg q b e tv wv w qj h2 hT hlen hp).mono ?_;rintro e' w'⟨rfl,⟨dc,dT,h3⟩,h4⟩;exact⟨rfl,⟨b,dc,dT,rfl,h3⟩,h4⟩
 | n::ns,q,k,b,ty,e,w,h,hT,hlen,hp=>by
  obtain⟨b',nx,tv,lv,ov,fv,h1,h2,h3⟩:=h;simp only[DK,DC,AE,BK,BX] at h1;obtain⟨rfl,rfl⟩:=h1;rw[AP] at hp;have bh:ov.ownBlock≠some b:=fun hx=>by have:=h2.toks.2 b hx;have:=h2.own;omega
  have hS1:=Qj N b0 p b 3 ov _ _ n.toks w eg h2.blk Ci.1 h2.toks.1 bh (fun wx t hg ht=>hp wx t (hg.mono (fun k hk=>by have:=h2.toks.2 k hk;unfold Am;omega)) (hT.1 n (BF ..) t ht) (fun g cH=>(h2.tfs t ht g cH).keep hg (fun k hk hx=>by have:=h2.toks.2 k hx;omega) (fun _ _ h=>h)));have c5:=h2.cell 5 (by omega);have HH:=Ac h2;have HT:=Ac hT;have HP:=Ac hp;have uX:=Ac h3;clear h2 hT hp;have ik:=h3.head;clear h3;show Calls Tryz.prog 256 _ w _
  have mL:=Tryz.mForL;have mJ:=Tryz.mForJ;have mH:=Tryz.mForH;rcases ik with ⟨b2,rfl,gY⟩|⟨b2,n2,lJ,rfl,gY,aJ⟩|⟨b2,n2,lJ,rfl,gY,aJ⟩
  all_goals
   have hfn:∀f,f=V0 ns->V0 ns=f:=fun _ h=>h.symm
   go_enter Tryz.func256,Tryz.ntmps256;go_wp2_with fail;refine hS1.mono ?_;rintro e1 w1⟨rfl,fE,hb1,hr1,ae,how⟩;rw[Gh (n:=n) (n':=n.drop p) rfl] at hb1
   have hsm:∀k,(k=b\/ov.ownBlock=some k)->4+3*q<=U k/\U k<6+3*q:=by
    rintro k (rfl|hk)
    ·have:=(Aa HH).own;omega
    ·have:=(Aa HH).toks.2 k hk;omega
   have bw:GrS (Am U q (ns.length+1)) w w1:=ae.mono (fun k hk=>by have:=hsm k hk;unfold Am;omega);have cu:=(Aa uX).keep ae (fun i hi hx=>by have:=hsm i hx;omega) (fun _ _ _=>rfl);have dH:=V4 U ru jn N b0 p D eg qj ns (q+1) _ b2 _ e w1 cu ⟨fun m hm=>(Aa HT).1 m (BG _ hm),(Aa HT).2.1,(Aa HT).2.2⟩ hlen (fun wx t hg hd hf=>Aa HP wx t (bw.trans (hg.mono (fun k hk=>by unfold Am at hk⊢;omega))) hd hf);rw[gY] at dH;simp only[V0] at dH;rw[<-gY] at dH
   have b9:NodeAt U q k b (n.drop p) _ tv lv fE fv w1:=⟨hb1,(Aa HH).own,(Aa HH).terms.keep2 ae (fun i hi hx=>by have:=hsm i hx;omega) (fun _ _ h=>h),(Aa HH).links.keep2 ae (fun i hi hx=>by have:=hsm i hx;omega) (fun _ _ h=>h),⟨hr1,fun g hx=>(Aa HH).toks.2 g (by rw[<-how];exact hx)⟩,
    (Aa HH).facts.keep2 ae (fun i hi hx=>by have:=hsm i hx;omega) (fun _ _ h=>h),fun g hg=>((Aa HH).fts g hg).codes bw,fun t ht g hg=>((Aa HH).tfs t (BH.1 ht).1 g hg).codes bw,(Aa HH).short,(Aa HH).low⟩
   have wq:=b9.cell 5 (by omega);have eb:=Ac b9;have ee:=Ac bw;clear hS1 hb1 hr1 ae how hsm bw cu b9 hfn;go_wp2_with fail;refine dH.mono ?_;rintro e2 w2⟨rfl,VD,bW⟩;clear dH;go_wp2;go_end0
   have mh:GrS (Am U q (ns.length+1)) w1 w2:=bW.mono (fun k hk=>by unfold Am at hk⊢;omega);refine⟨rfl,⟨b,_,tv,lv,fE,fv,rfl,(Aa eb).keep bW (fun i hi hx=>by unfold Am at hx;omega) (fun _ _ _=>rfl),VD⟩,?_⟩;exact(Aa ee).trans mh
theorem Q1x(U:Nat->Nat)(ru jn N:Nat)(b0 b1:Value)(p:Tok->Bool)(D:Tok->Prop)(eg:∀args w,(callFunc N args).run Tryz.prog w=.ok (.enter N args) w)(q b:Nat)(e:En)(tv wv:Value)(w:World)(qj:∀t,D t->t.length<=4)
 (h:LastAt U q b ru jn e tv wv w)(hT:Q2y D [] e)(hlen:e.wait.length<=1000000000)(hp:(∀wx t,GrS (Am U q 0) w wx->D t->(∀g∈t,FtAt U g wx)->Calls Tryz.prog N #[Bt t,b0,b1] wx fun e w'=>e=.returned (.bool (p t))/\wx.grownBy w' none)) :
  Calls Tryz.prog 241 #[.pointer (some ⟨b,0,none⟩),(.func (.func N) #[] #[b0,b1])] w fun e' w'=>e'=.returned (.tuple #[])/\(∃dc dT,LastAt U q b ru jn (e.drop p) dc dT w')/\GrS (Am U q 0) w w':=by
 have bh:tv.ownBlock≠some b:=fun hx=>by have:=h.toks.2 b hx;have:=h.own;omega
 have dL:wv.ownBlock≠some b:=fun hx=>by have:=h.wait.2 b hx;have:=h.own;omega
 have hS1:=Qk N b0 b1 p b 0 tv _ 147 e.toks w eg h.blk rfl h.toks.1 bh (fun wx t hg ht=>hp wx t (hg.mono (fun k hk=>by have:=h.toks.2 k hk;unfold Am;omega)) (hT.2.1 t ht) (fun g cH=>(h.tfs t ht g cH).keep hg (fun k hk hx=>by have:=h.toks.2 k hx;omega) (fun _ _ h=>h)));have HH:=Ac h;have HT:=Ac hT;have HP:=Ac hp;have HD:=Ac qj;clear h hT hp qj;go_enter Tryz.func241,Tryz.ntmps241;go_wp2_with fail;refine hS1.mono ?_;rintro e1 w1⟨rfl,dc,hb1,hr1,ae,how⟩;have jP:w1.heap[b]?=some (.cells #[dc,wv,.int .i64 ru,.int .i64 jn] 147 (0,0)):=hb1
 have hsm:∀k,(k=b\/tv.ownBlock=some k)->Am U q 0 k:=by
  rintro k (rfl|hk)
  ·have:=(Aa HH).own;unfold Am;omega
  ·have:=(Aa HH).toks.2 k hk;unfold Am;omega
 have bw:GrS (Am U q 0) w w1:=ae.mono hsm;have hw1:TRow U (6+3*q) 139 4 A5 wv e.wait w1:=(Aa HH).wait.keep2 ae (fun k hk=>by rintro(rfl|hx);have:=(Aa HH).own;omega;have:=(Aa HH).toks.2 k hx;omega) (fun _ _ h=>h)
 have je:=Q1h U N b0 b1 p b 1 wv _ 147 e.wait w1 eg jP rfl hw1.1 dL hlen (by have:=(Aa HH).own;omega) (fun g hx=>by have:=hw1.2 g hx;omega) (fun x hx=>⟨Aa HD x ((Aa HT).2.2 x hx),fun y hy=>((Aa HH).wfs x hx y hy).codes bw⟩)
  (fun wx t hg ht=>Aa HP wx t (bw.trans (hg.mono (fun k hk=>by have:=hw1.2 k hk;unfold Am;omega))) ((Aa HT).2.2 t ht) (fun g cH=>(((Aa HH).wfs t ht g cH).codes bw).keep hg (fun k hk hx=>by have:=hw1.2 k hx;omega) (fun _ _ h=>h)))
 have XH:=Ac (show ToksAt dc (e.toks.filter (fun t=>!p t)) w1/\dc.ownBlock=tv.ownBlock from⟨hr1,how⟩);have ee:=Ac bw;have x9:=Ac hw1;clear hS1 hb1 hr1 ae how jP hsm bw hw1;go_wp2_with fail;refine je.mono ?_;rintro e2 w2⟨rfl,dT,hb2,hr2,bW,pM⟩;clear je;go_wp2;go_end0
 obtain⟨f1,f2⟩:=Aa XH;have hh:=Aa HH
 have mh:GrS (Am U q 0) w1 w2:=bW.mono (by
  rintro k (rfl|hk)
  ·have:=hh.own;unfold Am;omega
  ·have:=(Aa x9).2 k hk;unfold Am;omega)
 have mf:=(Aa ee).trans mh;refine⟨rfl,⟨dc,dT,hb2,hh.own,⟨?_,fun g hx=>hh.toks.2 g (by rw[<-f2];exact hx)⟩,⟨hr2,fun g hx=>(Aa x9).2 g (by rw[<-pM];exact hx)⟩,?_,?_,hh.low⟩,mf⟩
 ·refine bW.row f1 (fun g hx=>?_)
  rintro(rfl|hy)
  ·exact bh (by rw[<-f2];exact hx)
  ·have h1:=hh.toks.2 g (by rw[<-f2];exact hx)
   have h2:=(Aa x9).2 g hy;omega
 ·intro t ht g hg
  exact(hh.tfs t (BH.1 ht).1 g hg).codes mf
 ·intro t ht g hg
  have hm:t∈e.wait.filter (fun t=>!p t):=(Hp.init_perm _ _).mem_iff.1 ht;exact(hh.wfs t (BH.1 hm).1 g hg).codes mf
theorem V5(U:Nat->Nat)(ru jn N:Nat)(b0 b1:Value)(p:Tok->Bool)(D:Tok->Prop)(eg:∀args w,(callFunc N args).run Tryz.prog w=.ok (.enter N args) w)(qj:∀t,D t->t.length<=4) :
  ∀(ns:List Nd) (q k b:Nat) (ty:TypeId) (e:En) (w:World),SufAt U ru jn q k ns e (.iface ty (.pointer (some ⟨b,0,none⟩))) w->Q2y D ns e->e.wait.length<=1000000000->(∀wx t,GrS (Am U q ns.length) w wx->D t->(∀g∈t,FtAt U g wx)->Calls Tryz.prog N #[Bt t,b0,b1] wx fun e w'=>e=.returned (.bool (p t))/\wx.grownBy w' none)->
   Calls Tryz.prog (V0 ns) #[.pointer (some ⟨b,0,none⟩),(.func (.func N) #[] #[b0,b1])] w fun e' w'=>e'=.returned (.tuple #[])/\SufAt U ru jn q k (ns.map (Nd.drop p)) (e.drop p) (.iface ty (.pointer (some ⟨b,0,none⟩))) w'/\GrS (Am U q ns.length) w w'
 | [],q,k,b,ty,e,w,h,hT,hlen,hp=>by
  obtain⟨b',tv,wv,h1,h2⟩:=h;simp only[DK,DC,AE,BK,BX] at h1;obtain⟨rfl,rfl⟩:=h1;refine(Q1x U ru jn N b0 b1 p D eg q b e tv wv w qj h2 hT hlen hp).mono ?_;rintro e' w'⟨rfl,⟨dc,dT,h3⟩,h4⟩;exact⟨rfl,⟨b,dc,dT,rfl,h3⟩,h4⟩
 | n::ns,q,k,b,ty,e,w,h,hT,hlen,hp=>by
  obtain⟨b',nx,tv,lv,ov,fv,h1,h2,h3⟩:=h;simp only[DK,DC,AE,BK,BX] at h1;obtain⟨rfl,rfl⟩:=h1;rw[AP] at hp;have bh:ov.ownBlock≠some b:=fun hx=>by have:=h2.toks.2 b hx;have:=h2.own;omega
  have hS1:=Qk N b0 b1 p b 3 ov _ _ n.toks w eg h2.blk Ci.1 h2.toks.1 bh (fun wx t hg ht=>hp wx t (hg.mono (fun k hk=>by have:=h2.toks.2 k hk;unfold Am;omega)) (hT.1 n (BF ..) t ht) (fun g cH=>(h2.tfs t ht g cH).keep hg (fun k hk hx=>by have:=h2.toks.2 k hx;omega) (fun _ _ h=>h)));have c5:=h2.cell 5 (by omega);have HH:=Ac h2;have HT:=Ac hT;have HP:=Ac hp;have uX:=Ac h3;clear h2 hT hp;have ik:=h3.head;clear h3;show Calls Tryz.prog 256 _ w _
  have mL:=Tryz.mForL;have mJ:=Tryz.mForJ;have mH:=Tryz.mForH;rcases ik with ⟨b2,rfl,gY⟩|⟨b2,n2,lJ,rfl,gY,aJ⟩|⟨b2,n2,lJ,rfl,gY,aJ⟩
  all_goals
   have hfn:∀f,f=V0 ns->V0 ns=f:=fun _ h=>h.symm
   go_enter Tryz.func256,Tryz.ntmps256;go_wp2_with fail;refine hS1.mono ?_;rintro e1 w1⟨rfl,fE,hb1,hr1,ae,how⟩;rw[Gh (n:=n) (n':=n.drop p) rfl] at hb1
   have hsm:∀k,(k=b\/ov.ownBlock=some k)->4+3*q<=U k/\U k<6+3*q:=by
    rintro k (rfl|hk)
    ·have:=(Aa HH).own;omega
    ·have:=(Aa HH).toks.2 k hk;omega
   have bw:GrS (Am U q (ns.length+1)) w w1:=ae.mono (fun k hk=>by have:=hsm k hk;unfold Am;omega);have cu:=(Aa uX).keep ae (fun i hi hx=>by have:=hsm i hx;omega) (fun _ _ _=>rfl);have dH:=V5 U ru jn N b0 b1 p D eg qj ns (q+1) _ b2 _ e w1 cu ⟨fun m hm=>(Aa HT).1 m (BG _ hm),(Aa HT).2.1,(Aa HT).2.2⟩ hlen (fun wx t hg hd hf=>Aa HP wx t (bw.trans (hg.mono (fun k hk=>by unfold Am at hk⊢;omega))) hd hf);rw[gY] at dH;simp only[V0] at dH;rw[<-gY] at dH
   have b9:NodeAt U q k b (n.drop p) _ tv lv fE fv w1:=⟨hb1,(Aa HH).own,(Aa HH).terms.keep2 ae (fun i hi hx=>by have:=hsm i hx;omega) (fun _ _ h=>h),(Aa HH).links.keep2 ae (fun i hi hx=>by have:=hsm i hx;omega) (fun _ _ h=>h),⟨hr1,fun g hx=>(Aa HH).toks.2 g (by rw[<-how];exact hx)⟩,
    (Aa HH).facts.keep2 ae (fun i hi hx=>by have:=hsm i hx;omega) (fun _ _ h=>h),fun g hg=>((Aa HH).fts g hg).codes bw,fun t ht g hg=>((Aa HH).tfs t (BH.1 ht).1 g hg).codes bw,(Aa HH).short,(Aa HH).low⟩
   have wq:=b9.cell 5 (by omega);have eb:=Ac b9;have ee:=Ac bw;clear hS1 hb1 hr1 ae how hsm bw cu b9 hfn;go_wp2_with fail;refine dH.mono ?_;rintro e2 w2⟨rfl,VD,bW⟩;clear dH;go_wp2;go_end0
   have mh:GrS (Am U q (ns.length+1)) w1 w2:=bW.mono (fun k hk=>by unfold Am at hk⊢;omega);refine⟨rfl,⟨b,_,tv,lv,fE,fv,rfl,(Aa eb).keep bW (fun i hi hx=>by unfold Am at hx;omega) (fun _ _ _=>rfl),VD⟩,?_⟩;exact(Aa ee).trans mh
theorem Tryz.mArrL(v:Value)(w:World):(Go.method 482 137 v "sieve/nodes.arrive").run Tryz.prog w=.ok (240,v) w:=by kernel_rfl
theorem Tryz.mArrJ(v:Value)(w:World):(Go.method 482 208 v "sieve/nodes.arrive").run Tryz.prog w=.ok (255,v) w:=by kernel_rfl
theorem Tryz.mArrH(v:Value)(w:World):(Go.method 482 209 v "sieve/nodes.arrive").run Tryz.prog w=.ok (257,v) w:=by kernel_rfl
def ArrFn(ty fn:Nat):Prop:=(ty=137/\fn=240)\/(ty=209/\fn=257)\/(ty=208/\fn=255)
theorem Qr{t:Tok}(f:Ft)(h:t.length<4):A5 (t++[f])=(A5 t).set t.length (Ee f):=by
 match t,h with
 | [],_=>rfl
 | [_],_=>rfl
 | [_,_],_=>rfl
 | [_,_,_],_=>rfl
 | _::_::_::_::_,h=>simp at h;omega
def Ms(r:Bool)(P:World->World->Prop)(w w':World):Prop:=(r=true/\∃wx,w.grownBy wx none/\P wx w')\/(r=false/\w.grownBy w' none)
theorem Q05(U:Nat->Nat)(q k b:Nat)(n:Nd)(ty:TypeId)(fn b2:Nat)(tv lv ov fv:Value)(t:Tok)(f:Ft)(w:World)(P:World->World->Prop)(hfn:ArrFn ty fn)
 (h:NodeAt U q k b n (.iface ty (.pointer (some ⟨b2,0,none⟩))) tv lv ov fv w)(aJ:n.c.neg=false)(hk:t.length=k)(hk4:k<4)(hf:FtAt U f w)(ht:∀g∈t,FtAt U g w)
 (hl:∀l∈n.links,l.place<f.f.vals.length/\∃g,t[l.at'.fact]?=some g/\l.at'.place<g.f.vals.length)
 (hN:Ck n.links t f.f=true->∀wx,w.grownBy wx none->Calls Tryz.prog fn #[.pointer (some ⟨b2,0,none⟩),Bt (t++[f])] wx fun e w'=>e=.returned (.tuple #[])/\P wx w') :
  Calls Tryz.prog 137 #[.pointer (some ⟨b,0,none⟩),Bt t,Ee f] w fun e w'=>e=.returned (.tuple #[])/\Ms (Ck n.links t f.f) P w w':=by
 obtain⟨p0,p1,p2,p3,hp⟩:=A9 t;have eT:Bt t=.agg #[.pointer p0,.pointer p1,.pointer p2,.pointer p3]:=by unfold Bt;rw[hp]
 have a7:=AA w (.cells #[.pointer p0,.pointer p1,.pointer p2,.pointer p3] 139) none
 have hS:∀wx,w.grownBy wx none->Calls Tryz.prog 139 #[.pointer (some ⟨b,0,none⟩),.agg #[.pointer p0,.pointer p1,.pointer p2,.pointer p3],.pointer (some ⟨f.blk,0,none⟩)] wx fun e w'=>e=.returned (.bool (Ck n.links t f.f))/\wx.grownBy w' none:=by
  intro wx hg;have:=Gs U b n.c n.links t f wx (h.cd.gr hg) (hf.gr hg) (fun g cH=>(ht g cH).gr hg) (by omega) hl;rw[eT] at this;exact this
 rw[eT];unfold Ee;have c5:=h.cell 5 (by omega);have c6:=h.place aJ;have hnew:(w.alloc (.cells #[.pointer p0,.pointer p1,.pointer p2,.pointer p3] 139)).heap[w.heap.size]?=some (.cells #[.pointer p0,.pointer p1,.pointer p2,.pointer p3] 139 (0,0)):=AR _ _;obtain⟨r,hr⟩:∃r,Ck n.links t f.f=r:=⟨_,rfl⟩
 rw[hr] at hS hN⊢;have HP:=Ac hp;have HN:=Ac hN;have cI:=Ac hnew;clear h hf ht hl hp eT hN hnew hr aJ;go_enter Tryz.func137,Tryz.ntmps137;go_wp2_with fail
 go_cut [12] (fun z wx=>z=.bool r/\(w.alloc (.cells #[.pointer p0,.pointer p1,.pointer p2,.pointer p3] 139)).grownBy wx none)
 case first=>
  go_region_with (go_at_call 139;refine(hS _ (by repeat (first|exact a7|apply Ah))).mono ?_;rintro e w2⟨rfl,hg2⟩)
  all_goals
   go_wp2_with fail;go_meet
   exact⟨rfl,Ab (by repeat (first|exact AD _ _|apply Ah)) hg2⟩
 case rest=>
  obtain⟨rfl,hg2⟩:=hcut;have ah:=Ab a7 hg2;have bU:wc.heap[w.heap.size]?=some (.cells #[.pointer p0,.pointer p1,.pointer p2,.pointer p3] 139 (0,0)):=by rw[hg2.block _ (Ad (Aa cI)) (by simp)];exact Aa cI
  clear hS hg2 cI a7;cases r with
  | false=>
   clear c5 c6 bU;go_wp2;go_end0
   exact⟨rfl,.inr ⟨rfl,ah⟩⟩
  | true=>
   have c61:=ah.cell c6 (by simp);have wq:=ah.cell c5 (by simp);obtain⟨s0,s1,s2,s3,hs⟩:=A9 (t++[f]);have aV:(wc.setCell ⟨w.heap.size,k,none⟩ (.pointer (some ⟨f.blk,0,none⟩))).heap[w.heap.size]?=some (.cells (#[Value.pointer p0,.pointer p1,.pointer p2,.pointer p3].setIfInBounds k (.pointer (some ⟨f.blk,0,none⟩))) 139 (0,0)):=BB wc w.heap.size k _ _ _ bU
   have hcs:(#[Value.pointer p0,.pointer p1,.pointer p2,.pointer p3].setIfInBounds k (.pointer (some ⟨f.blk,0,none⟩)))=#[.pointer s0,.pointer s1,.pointer s2,.pointer s3]:=by
    have e1:=Qr f (show t.length<4 by omega);rw[hs,Aa HP,hk] at e1;have:k=0\/k=1\/k=2\/k=3:=by omega
    rcases this with rfl|rfl|rfl|rfl<;>simp[Ee] at e1⊢<;>simp[e1]
   rw[hcs] at aV;have aZ:=Aj wc w.heap.size k (.pointer (some ⟨f.blk,0,none⟩));have ak:=C0 ah aZ (fun x hx=>by simp at hx;omega)
   have n0:∃x,wc.cell? ⟨w.heap.size,k,none⟩=some x:=by
    have:k=0\/k=1\/k=2\/k=3:=by omega
    rcases this with rfl|rfl|rfl|rfl<;>simp[World.cell?,bU]
   obtain⟨x0,n0⟩:=n0;have z0:wc.frozen? ⟨w.heap.size,k,none⟩=false:=by simp[World.frozen?,bU]
   have c52:=aZ.cell wq (by have:=CD w _ c5;simp at this;simp;omega);have d0:(wc.setCell ⟨w.heap.size,k,none⟩ (.pointer (some ⟨f.blk,0,none⟩))).cell? ⟨w.heap.size,0,none⟩=some (.pointer s0):=by simp[World.cell?,aV]
   have d1:(wc.setCell ⟨w.heap.size,k,none⟩ (.pointer (some ⟨f.blk,0,none⟩))).cell? ⟨w.heap.size,1,none⟩=some (.pointer s1):=by simp[World.cell?,aV]
   have d2:(wc.setCell ⟨w.heap.size,k,none⟩ (.pointer (some ⟨f.blk,0,none⟩))).cell? ⟨w.heap.size,2,none⟩=some (.pointer s2):=by simp[World.cell?,aV]
   have d3:(wc.setCell ⟨w.heap.size,k,none⟩ (.pointer (some ⟨f.blk,0,none⟩))).cell? ⟨w.heap.size,3,none⟩=some (.pointer s3):=by simp[World.cell?,aV]
   have hC:=fun wx (hg:w.grownBy wx none)=>Aa HN rfl wx hg
   rw[show Bt (t++[f])=.agg #[.pointer s0,.pointer s1,.pointer s2,.pointer s3] from by unfold Bt;rw[hs]] at hC;have l0:(0:Int)<=(k:Int):=by omega
   have l1:(k:Int)<4:=by omega
   have mL:=Tryz.mArrL;have mJ:=Tryz.mArrJ;have mH:=Tryz.mArrH;clear aV hcs hs bU c5 c6 wq HN aZ HP;rcases hfn with ⟨rfl,rfl⟩|⟨rfl,rfl⟩|⟨rfl,rfl⟩
   ·go_wp2
    go_region_with (go_at_call 240;refine(hC _ (by repeat (first|exact ak|apply Ah))).mono ?_;rintro e w3⟨rfl,wR⟩)
    all_goals
     go_wp2_with fail;go_end0
     exact⟨rfl,.inl ⟨rfl,_,Ah ak,wR⟩⟩
   ·go_wp2
    go_region_with (go_at_call 257;refine(hC _ (by repeat (first|exact ak|apply Ah))).mono ?_;rintro e w3⟨rfl,wR⟩)
    all_goals
     go_wp2_with fail;go_end0
     exact⟨rfl,.inl ⟨rfl,_,Ah ak,wR⟩⟩
   ·go_wp2
    go_region_with (go_at_call 255;refine(hC _ (by repeat (first|exact ak|apply Ah))).mono ?_;rintro e w3⟨rfl,wR⟩)
    all_goals
     go_wp2_with fail;go_end0
     exact⟨rfl,.inl ⟨rfl,_,Ah ak,wR⟩⟩
end Go.Proofs.YtolhbeekfjnfmaaGreatDoor

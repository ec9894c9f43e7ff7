import Derived.Test.YtolhbeekfjnfmaaGreatDoorM44
import Derived.Test.YtolhbeekfjnfmaaGreatDoorM47
set_option maxHeartbeats 8000000
set_option maxRecDepth 100000
namespace Go.Proofs.YtolhbeekfjnfmaaGreatDoor
open Go.RowKit
variable {t nt:Tok}{U:Nat->Nat}{q lb ru jn b j:Nat}{e:En}{tv wv fv:Value}{w w' wr:World}{a8:List Ch}{c:Ch}{p0 p1 p2 p3:Option Addr}{F:List Ft}{f:Ft}
theorem Zy{l:List Tok}{n:Nat}(h:t∈(Hp.popL Tok.less l).take n):t∈l:=by
 have hp:(Hp.popL Tok.less l).Perm l:=(Hp.down_perm Tok.less _ _ _ _ (AW _)).trans (Hp.swap_perm _ _ _);exact hp.mem_iff.1 (EH h)
theorem LastAt.taken(h:LastAt U q lb ru jn e tv wv w)(hk:Gq lb 1 wv #[tv,wv,.int .i64 ru,.int .i64 jn] 147 e.wait w w') :
  ∃dT,LastAt U q lb ru jn ⟨e.toks,(Hp.popL Tok.less e.wait).take (e.wait.length-1)⟩ tv dT w'/\GrS (fun i=>U i=4+3*q\/U i=6+3*q) w w':=by
 obtain⟨dT,k1,k2,k3,k4⟩:=hk
 have hsm:∀i,(i=lb\/wv.ownBlock=some i)->U i=4+3*q\/U i=6+3*q:=by
  rintro i (rfl|hx)
  ·exact .inl h.own
  ·exact .inr (h.wait.2 i hx)
 have hG:=k3.mono hsm;have h1:∀i,U i=1->¬ (U i=4+3*q\/U i=6+3*q):=fun i hi hx=>by omega
 refine⟨dT,⟨k1,h.own,h.toks.keep2 hG (fun i hi hx=>by omega) (fun _ _ e=>e),⟨k2,fun g hg=>h.wait.2 g (k4 g hg)⟩,fun t ht g hg=>(h.tfs t ht g hg).keep hG h1 (fun _ _ e=>e),fun t ht g hg=>(h.wfs t (Zy ht) g hg).keep hG h1 (fun _ _ e=>e),h.low⟩,hG⟩
theorem ChainAt.lastOf{ns:List Nd}(h:ChainAt U ru jn q b ns e w):∃lb tv wv,w.cell? ⟨b,2,none⟩=some (.pointer (some ⟨lb,0,none⟩))/\LastAt U (q+ns.length) lb ru jn e tv wv w:=by
 obtain⟨nv,hd,hs',lb,m1,m2,m3,m4,m5,m6,m7⟩:=h.ex;obtain⟨b',tv,wv,k1,k2⟩:=m7.bkLast;obtain rfl:=m6.uniq k1;exact⟨lb,tv,wv,by simp[World.cell?,m1],k2⟩
structure FireFit(c:Ch):Prop where
 heap:Hp.Is Tok.less c.e.wait
 len:∀t∈c.e.wait,t.length=c.jn
 four:c.jn<=4
 few:c.e.wait.length<=1000000000
def Q2z(U:Nat->Nat)(a8:List Ch)(b:Option (Nat×Tok))(fv:Value)(nt:Tok)(w:World):Prop:=
 match b with
 | none=>fv=.pointer none/\nt=[]
 | some (i,t)=>nt=t/\∃c lb tv wv,a8[i]?=some c/\c.e.wait[0]?=some t/\fv=.pointer (some ⟨lb,0,none⟩)/\LastAt U (Cs 0 (a8.take i)+c.ns.length) lb i c.jn c.e tv wv w
structure FireI(U:Nat->Nat)(a8:List Ch)(w:World)(j:Nat)(fv:Value)(nt:Tok)(p0 p1 p2 p3:Option Addr)(wr:World):Prop where
 gr:w.grownBy wr none
 res:wr.heap[w.heap.size]?=some (.cells #[.int .i64 0,.slice none 0 0] 52 (0,0))
 new:wr.heap[w.heap.size+1]?=some (.cells #[.pointer p0,.pointer p1,.pointer p2,.pointer p3] 139 (0,0))
 enc:A5 nt=[.pointer p0,.pointer p1,.pointer p2,.pointer p3]
 st:Q2z U a8 (Es none 0 (a8.take j)) fv nt w
theorem Ts(h:a8[j]?=some c)(b:Option (Nat×Tok)):Es b 0 (a8.take (j+1))=Nq (Es b 0 (a8.take j)) j c:=by
 have hl:=(AL.1 h).1;rw[CZ,h,O7,BL,CB (EK hl),BV];rfl
def Jd(U:Nat->Nat)(b:Nat)(a8:List Ch)(w:World)(e:Ending)(w':World):Prop:=
 match Es none 0 a8 with
 | none=>e=.returned (.tuple #[.agg #[.int .i64 0,.slice none 0 0],.bool false])/\w.grownBy w' none
 | some (i,t)=>∃ao cap c,e=.returned (.tuple #[.agg #[.int .i64 i,.slice ao t.length cap],.bool true])/\IsAt w.heap.size (.slice ao t.length cap) t.ids w'/\a8[i]?=some c/\c.e.wait[0]?=some t/\NetAt U b (a8.set i (Hr c)) w'/\GrS (fun k=>4<=U k) w w'
theorem FireI.same(h:FireI U a8 w j fv nt p0 p1 p2 p3 wr)(hg:wr.grownBy w' none)(he:Es none 0 (a8.take (j+1))=Es none 0 (a8.take j)):FireI U a8 w (j+1) fv nt p0 p1 p2 p3 w':=
 ⟨Ab h.gr hg,by rw[hg.block _ (Ad h.res) (by simp)];exact h.res,by rw[hg.block _ (Ad h.new) (by simp)];exact h.new,h.enc,by rw[he];exact h.st⟩
theorem FireI.take{q0 q1 q2 q3:Option Addr}(h:FireI U a8 w j fv nt p0 p1 p2 p3 wr)(hg:wr.grownBy w' (some (w.heap.size+1)))(hn:w'.heap[w.heap.size+1]?=some (.cells #[.pointer q0,.pointer q1,.pointer q2,.pointer q3] 139 (0,0)))(hq:A5 t=[.pointer q0,.pointer q1,.pointer q2,.pointer q3])(he:Es none 0 (a8.take (j+1))=some (j,t))(hc:a8[j]?=some c)(ht:c.e.wait[0]?=some t)(hl:LastAt U (Cs 0 (a8.take j)+c.ns.length) lb j c.jn c.e tv wv w):FireI U a8 w (j+1) (.pointer (some ⟨lb,0,none⟩)) t q0 q1 q2 q3 w':=
 ⟨Bi h.gr hg (by omega),by rw[hg.block _ (Ad h.res) (by simp)];exact h.res,hn,hq,by rw[he];exact⟨rfl,c,lb,tv,wv,hc,ht,rfl,hl⟩⟩
theorem gone_ofB{S:Nat->Prop}(hg:w.grownBy w' none):GrS S w w':=GrS.of hg (by simp)
theorem Q1u{i:Nat}{x y:Value}{w1 w2:World}(hN:NetAt U b a8 w)(h0:∀k,w.heap.size<=k->U k=0)(hc:a8[i]?=some c)(hL:LastAt U (Cs 0 (a8.take i)+c.ns.length) lb i c.jn c.e tv wv w)(hgr:w.grownBy wr none)(hT:Gq lb 1 wv #[tv,wv,.int .i64 i,.int .i64 c.jn] 147 c.e.wait wr w1)(hg2:w1.grownBy w2 none) :
  NetAt U b (a8.set i (Hr c)) ((w2.setCell ⟨w.heap.size,0,none⟩ x).setCell ⟨w.heap.size,1,none⟩ y)/\GrS (fun k=>4<=U k) w ((w2.setCell ⟨w.heap.size,0,none⟩ x).setCell ⟨w.heap.size,1,none⟩ y):=by
 obtain⟨cv,bs,h1,h2,h3,h4⟩:=hN;have sK:LastAt U (Cs 0 (a8.take i)+c.ns.length) lb i c.jn c.e tv wv wr:=hL.keep (gone_ofB hgr:GrS (fun _=>False) w wr) (by simp) (fun _ _ _=>rfl);obtain⟨dT,eY,ae⟩:=sK.taken hT;have zk:w2.grownBy ((w2.setCell ⟨w.heap.size,0,none⟩ x).setCell ⟨w.heap.size,1,none⟩ y) (some w.heap.size):=Ab (Aj _ _ _ _) (Aj _ _ _ _)
 have mg:GrS (fun k=>U k=4+3*(Cs 0 (a8.take i)+c.ns.length)\/U k=6+3*(Cs 0 (a8.take i)+c.ns.length)) w ((w2.setCell ⟨w.heap.size,0,none⟩ x).setCell ⟨w.heap.size,1,none⟩ y):=
  (((gone_ofB hgr:GrS _ w wr).trans ae).then hg2 (by simp)).then zk (fun k hk=>by simp at hk;subst hk;exact .inl (AW _))
 have hLF:=eY.keep ((gone_ofB hg2:GrS (fun k=>k=w.heap.size) w1 w2).then zk (fun k hk=>by simp at hk;exact .inr hk.symm)) (fun k hk e=>by have:=h0 k (by rw[e];exact AW _);omega) (fun _ _ _=>rfl);obtain⟨bi,hbi,hch⟩:=h4.get hc;have LF:=hch;rw[BV] at LF;have hCF:=LF.takes hL hLF mg (fun _ h=>h);have dF:∀k,U k=1->¬ (U k=4+3*(Cs 0 (a8.take i)+c.ns.length)\/U k=6+3*(Cs 0 (a8.take i)+c.ns.length)):=fun k hk hx=>by omega
 refine⟨⟨cv,bs,mg.blk h1 (dF b h2),h2,h3.keep2 mg dF (fun _ _ e=>e),?_⟩,mg.mono (fun k hk=>by show 4<=U k;omega)⟩;refine ChsAt.set (c':=Hr c) (fun _ _=>rfl) h4 hc hbi rfl (mg.mono (fun k hk=>by unfold Am;omega)) ?_;rw[BV];exact hCF
theorem Q0a{g ty:Nat}{x0 x1 x2 x3 y0 y1 y2 y3:Value}(h:w.heap[g]?=some (.cells #[x0,x1,x2,x3] ty (0,0))):(Si w g 0 y0 y1 y2 y3).heap[g]?=some (.cells #[y0,y1,y2,y3] ty (0,0)):=by
 unfold Si;have h1:=BB w g 0 _ _ y0 h;have h2:=BB _ g 1 _ _ y1 h1;have h3:=BB _ g 2 _ _ y2 h2;have h4:=BB _ g 3 _ _ y3 h3;exact h4
theorem FireI.drew{U:Nat->Nat}{a8:List Ch}{w:World}{j:Nat}{fv:Value}{nt:Tok}{p0 p1 p2 p3:Option Addr}{wr:World}(h:FireI U a8 w j fv nt p0 p1 p2 p3 wr):FireI U a8 w j fv nt p0 p1 p2 p3 wr.drew:=
 ⟨Ah h.gr,Re h.res,Re h.new,h.enc,h.st⟩
theorem Q18(U:Nat->Nat)(b:Nat)(a8:List Ch)(w:World)(hN:NetAt U b a8 w)(h0:∀k,w.heap.size<=k->U k=0)(ag:∀c∈a8,FireFit c) :
  Calls Tryz.prog 48 #[.pointer (some ⟨b,0,none⟩)] w fun e w'=>Jd U b a8 w e w':=by
 have WW:=Ac hN;obtain⟨cv,bs,h1,h2,h3,h4⟩:=hN;obtain⟨ao,cap,rfl⟩:=h3.1.slice;have cj:=h3.1.le;unfold maxLen at cj;have rH:=h4.len;have c0:w.cell? ⟨b,0,none⟩=some (.slice ao bs.length cap):=by simp[World.cell?,h1]
 have a7:=Dm w (.cells #[.int .i64 0,.slice none 0 0] 52) (.cells #[.pointer none,.pointer none,.pointer none,.pointer none] 139);have NA:=a7.cell c0 (by simp)
 have hres:((w.alloc (.cells #[.int .i64 0,.slice none 0 0] 52)).alloc (.cells #[.pointer none,.pointer none,.pointer none,.pointer none] 139)).heap[w.heap.size]?=some (.cells #[.int .i64 0,.slice none 0 0] 52 (0,0)):=by
  have k1:=AR w (.cells #[.int .i64 0,.slice none 0 0] 52);have k2:=AA (w.alloc (.cells #[.int .i64 0,.slice none 0 0] 52)) (.cells #[.pointer none,.pointer none,.pointer none,.pointer none] 139) none;rw[k2.block _ (Ad k1) (by simp)];exact k1
 have hnew:((w.alloc (.cells #[.int .i64 0,.slice none 0 0] 52)).alloc (.cells #[.pointer none,.pointer none,.pointer none,.pointer none] 139)).heap[w.heap.size+1]?=some (.cells #[.pointer none,.pointer none,.pointer none,.pointer none] 139 (0,0)):=by
  have:=AR (w.alloc (.cells #[.int .i64 0,.slice none 0 0] 52)) (.cells #[.pointer none,.pointer none,.pointer none,.pointer none] 139);simpa using this
 have r8:=Ac (show FireI U a8 w 0 (.pointer none) [] none none none none ((w.alloc (.cells #[.int .i64 0,.slice none 0 0] 52)).alloc (.cells #[.pointer none,.pointer none,.pointer none,.pointer none] 139)) from⟨a7,hres,hnew,rfl,rfl,rfl⟩)
 have rB:=Ac (fun(j:Nat) (hj:j<bs.length)=>show ∃c bj g lb tv wv,a8[j]?=some c/\ao=some ⟨g,0,none⟩/\w.cell? ⟨g,j,none⟩=some (.pointer (some ⟨bj,0,none⟩))/\w.cell? ⟨bj,2,none⟩=some (.pointer (some ⟨lb,0,none⟩))/\w.cell? ⟨lb,1,none⟩=some wv/\LastAt U (Cs 0 (a8.take j)+c.ns.length) lb j c.jn c.e tv wv w from by
  have hlc:j<a8.length:=by rw[<-rH];exact hj
  obtain⟨c,hc⟩:∃c,a8[j]?=some c:=⟨_,AB hlc⟩
  obtain⟨bj,s7,hch⟩:=h4.get hc;obtain⟨g,cap',e1,c1⟩:=PsAt.cell h3.1 s7;simp only[AH,BP] at e1;rw[BV] at hch;obtain⟨lb,tv,wv,k1,k2⟩:=hch.lastOf;exact⟨c,bj,g,lb,tv,wv,hc,e1.1,c1,k1,by simp[World.cell?,k2.blk],k2⟩)
 have eD:=Ac ag;have iL:=Ac rH;clear h1 h2 h3 h4 ag rH c0 hres hnew a7;go_enter Tryz.func48,Tryz.ntmps48;go_wp2;clear NA;go_loopw [4,15] (fun fx z w'=>∃(fv:Value) (j:Nat) (nt:Tok) (p0 p1 p2 p3:Option Addr),fx=fv/\j<=bs.length/\z=.int .i64 j/\Hid (FireI U a8 w j fv nt p0 p1 p2 p3 w')) (fun _ z _=>bs.length-(intOf z).toNat)
 case atStart=>exact⟨_,0,_,_,_,_,_,rfl,AG _,rfl,r8⟩
 case round=>
  clear r8;obtain⟨fv,j,nt,p0,p1,p2,p3,fK,hj,rfl,HK⟩:=hrel;replace fK:=fK.symm;subst fK;by_cases hlt:j<bs.length
  ·have hd:decide (j<bs.length)=true:=by simpa using hlt
   obtain⟨c,bj,g,lb,tv,wv,hc,rfl,a0,a1,a2,hL⟩:=Aa rB j hlt;have hgr:=(Aa HK).gr;have a0':=hgr.cell a0 (by simp);have WI:=hgr.cell a1 (by simp);have QR:=hgr.cell a2 (by simp);have hst:=Ts hc none;have HL:=Ac hL;cases hw:c.e.wait[0]? with
   | none=>
    have YN:c.e.wait=[]:=by
     cases hl:c.e.wait with
     | nil=>rfl
     | cons x l=>rw[hl] at hw;simp at hw
    obtain⟨wo,wc,xP⟩:=hL.wait.1.slice;rw[YN,CE] at xP;subst xP;have oW:=Wx lb 1 wo wc wr QR;unfold Nq at hst;rw[hw] at hst;simp only at hst;have HST:=Ac hst;clear hL YN hw hst a0 a1 a2 hgr hc;go_wp2_with fail;refine oW.mono ?_;rintro e w1⟨rfl,hg1⟩;have ji:=Ac ((Aa HK).same (Ab hg1 (AA w1 (.cells #[.pointer none,.pointer none,.pointer none,.pointer none] 139) none)) (Aa HST));clear oW hg1 a0' WI QR;go_wp2;go_roundw
    case rel=>exact⟨_,j+1,_,_,_,_,_,rfl,by omega,by go_num,ji⟩
    case measure=>simp[intOf];omega
   | some t=>
    obtain⟨q0,q1,q2,q3,hq⟩:=A9 t;have eT:Bt t=.agg #[.pointer q0,.pointer q1,.pointer q2,.pointer q3]:=by unfold Bt;rw[hq]
    have eR:=Aa eD c (AV hc);have ju:t∈c.e.wait:=AV hw;have dR:t.length<=4:=by rw[eR.len t ju];exact eR.four
    obtain⟨gw,jU,xP⟩:=ToksAt.lies hL.wait.1 (GP ju);subst xP;have oW:=Wy lb 1 gw jU c.e.wait t wr QR (hL.wait.1.gr hgr) hw;rw[eT] at oW;unfold Nq at hst;rw[hw] at hst;simp only at hst;have cZ:∀g∈t,FtAt U g w:=hL.wfs t ju;have HX:=Ac (show _/\_/\_/\_ from⟨hc,hw,hq,cZ⟩);have HST:=Ac hst;have ub:=Ac eT;clear hL hst a0 a1 a2 hgr eR ju cZ hc hw hq eT;go_wp2_with fail;refine oW.mono ?_;rintro e w1⟨rfl,hg1⟩;have hgx:wr.grownBy (w1.alloc (.cells #[.pointer q0,.pointer q1,.pointer q2,.pointer q3] 139)) none:=Ab hg1 (AA w1 _ none);have LG:=hgx.cell WI (by simp)
    have HF:=Ac (fun(w3:World) (hg3:(w1.alloc (.cells #[.pointer q0,.pointer q1,.pointer q2,.pointer q3] 139)).grownBy w3 none)=>show (w3.cell? ⟨bj,2,none⟩=some (.pointer (some ⟨lb,0,none⟩))/\(w3.cell? ⟨w1.heap.size,0,none⟩=some (.pointer q0)/\w3.cell? ⟨w1.heap.size,1,none⟩=some (.pointer q1)/\w3.cell? ⟨w1.heap.size,2,none⟩=some (.pointer q2)/\w3.cell? ⟨w1.heap.size,3,none⟩=some (.pointer q3))/\(w3.cell? ⟨w.heap.size+1,0,none⟩=some (.pointer p0)/\w3.cell? ⟨w.heap.size+1,1,none⟩=some (.pointer p1)/\w3.cell? ⟨w.heap.size+1,2,none⟩=some (.pointer p2)/\w3.cell? ⟨w.heap.size+1,3,none⟩=some (.pointer p3))/\∀k,w3.frozen? ⟨w.heap.size+1,k,none⟩=false)/\(Es none 0 (a8.take (j+1))=some (j,t)->FireI U a8 w (j+1) (.pointer (some ⟨lb,0,none⟩)) t q0 q1 q2 q3 (Si w3 (w.heap.size+1) 0 (.pointer q0) (.pointer q1) (.pointer q2) (.pointer q3)).drew)/\(Es none 0 (a8.take (j+1))=Es none 0 (a8.take j)->FireI U a8 w (j+1) fv nt p0 p1 p2 p3 w3)/\w.grownBy w3 none from by
     have hg:=Ab hgx hg3;have fT:w3.heap[w.heap.size+1]?=some (.cells #[.pointer p0,.pointer p1,.pointer p2,.pointer p3] 139 (0,0)):=by rw[hg.block _ (Ad (Aa HK).new) (by simp)];exact(Aa HK).new
     have hx2:w3.heap[w1.heap.size]?=some (.cells #[.pointer q0,.pointer q1,.pointer q2,.pointer q3] 139 (0,0)):=by
      have k:=AR w1 (.cells #[.pointer q0,.pointer q1,.pointer q2,.pointer q3] 139);rw[hg3.block _ (Ad k) (by simp)];exact k
     refine⟨⟨hg3.cell LG (by simp),⟨Az hx2 rfl,Az hx2 rfl,Az hx2 rfl,Az hx2 rfl⟩,⟨Az fT rfl,Az fT rfl,Az fT rfl,Az fT rfl⟩,fun k=>by simp[World.frozen?,fT]⟩,fun he=>?_,fun he=>(Aa HK).same hg he,Ab (Aa HK).gr hg⟩;exact((Aa HK).take (Ab (A6 hg _) (K5 _ _ _ _ _ _ _)) (Q0a fT) (Aa HX).2.2.1 he (Aa HX).1 (Aa HX).2.1 (Aa HL)).drew)
    clear oW a0' WI QR hgx hg1 LG;cases hb:Es none 0 (a8.take j) with
    | none=>
     have fJ:=(Aa HK).st;rw[hb] at fJ;obtain⟨rfl,rfl⟩:=fJ;have ea:=Aa HST;rw[hb] at ea;simp only at ea;obtain⟨⟨y1,_,⟨n0,n1,n2,n3⟩,nf⟩,eN,_,_⟩:=Aa HF _ (AD _ none);have ji:=Ac (eN ea);clear hb eN ea;go_wp2_with fail
     go_region
     all_goals
      go_wp2_with fail;go_roundw
      case rel=>exact⟨_,j+1,_,_,_,_,_,rfl,by omega,by go_num,ji⟩
      case measure=>simp[intOf];omega
    | some pr=>
     obtain⟨i,u⟩:=pr;have fJ:=(Aa HK).st;rw[hb] at fJ;obtain⟨rfl,c',YD,dc,dT,hc',hw',rfl,hL'⟩:=fJ;have eU:Bt nt=.agg #[.pointer p0,.pointer p1,.pointer p2,.pointer p3]:=by unfold Bt;rw[(Aa HK).enc]
     have ea:=Aa HST;rw[hb] at ea;simp only at ea;have jK:=Aa eD c' (AV hc');have zB:=AV hw';have nh:nt.length<=4:=by rw[jK.len nt zB];exact jK.four
     obtain⟨⟨y1,⟨m0,m1,m2,m3⟩,⟨n0,n1,n2,n3⟩,nf⟩,_,_,ah⟩:=Aa HF _ (AD _ none);have hA:=Q0v U t nt (w1.alloc (.cells #[.pointer q0,.pointer q1,.pointer q2,.pointer q3] 139)) dR nh (fun g hg=>((Aa HX).2.2.2 g hg).gr ah) (fun g hg=>(hL'.wfs nt zB g hg).gr ah);rw[Aa ub,eU] at hA;obtain⟨r,hr⟩:∃r,cmpL t.age nt.age=r:=⟨_,rfl⟩
     rw[hr] at hA ea;have HB:=Ac hb;have y9:=Ac ea;clear hb ea hr hL' jK hc' hw' zB eU ah;go_wp2_with fail;refine hA.mono ?_;rintro e w3⟨rfl,hg3⟩;obtain⟨⟨z1,⟨r0,r1,r2,r3⟩,⟨s0,s1,s2,s3⟩,sf⟩,eN,VE,_⟩:=Aa HF w3 hg3;have xn:=Aa y9;clear hA hg3 y1 m0 m1 m2 m3 n0 n1 n2 n3 nf y9;by_cases su:0<r
     ·have bZ:decide (0<r)=true:=by simpa using su
      rw[AQ su] at xn;have ji:=Ac (eN xn);clear eN VE xn;go_wp2_with fail
      go_region
      all_goals
       go_wp2_with fail;go_roundw
       case rel=>exact⟨_,j+1,_,_,_,_,_,rfl,by omega,by go_num,ji⟩
       case measure=>simp[intOf];omega
     ·have bZ:decide (0<r)=false:=by simpa using su
      rw[AO su] at xn;have ji:=Ac (VE (xn.trans (Aa HB).symm));clear eN VE xn;go_wp2_with fail;go_roundw
      case rel=>exact⟨_,j+1,_,_,_,_,_,rfl,by omega,by go_num,ji⟩
      case measure=>simp[intOf];omega
  ·have hd:decide (j<bs.length)=false:=by simpa using hlt
   have pX:a8.take j=a8:=CA (by have:=Aa iL;omega);have hI:=Aa HK;have fJ:=hI.st;rw[pX] at fJ;have r0:=Az hI.res (k:=0) rfl;have r1:=Az hI.res (k:=1) rfl;have rf:∀k,wr.frozen? ⟨w.heap.size,k,none⟩=false:=fun k=>by simp[World.frozen?,hI.res]
   cases hb:Es none 0 a8 with
   | none=>
    rw[hb] at fJ;obtain⟨rfl,rfl⟩:=fJ;have wP:C2 52 w.heap.size (.int .i64 0) (.slice none 0 0) wr:=hI.res;obtain⟨z0,z1⟩:=(wP.set2 (.int .i64 0) (.slice none 0 0)).c;have HG:=Ac (Bi hI.gr (Ea wr w.heap.size (.int .i64 0) (.slice none 0 0)) (AW _));have XL:=Ac hb;clear hI rB eD iL WW wP pX hb;go_wp2_with fail;exact BO (v:=.tuple #[.agg #[.int .i64 0,.slice none 0 0],.bool false]) (by simp[results,Tryz.results48,go_sem,z0,z1]) rfl (by unfold Jd;rw[Aa XL];exact⟨rfl,Aa HG⟩)
   | some pr=>
    obtain⟨i,t⟩:=pr;rw[hb] at fJ;obtain⟨rfl,c,lb,tv,wv,hc,hw,rfl,hL⟩:=fJ;have eR:=Aa eD c (AV hc);have ju:nt∈c.e.wait:=AV hw;obtain⟨gw,jU,xP⟩:=ToksAt.lies hL.wait.1 (GP ju);subst xP;have sK:LastAt U (Cs 0 (a8.take i)+c.ns.length) lb i c.jn c.e tv (.slice (some ⟨gw,0,none⟩) c.e.wait.length jU) wr:=hL.keep (gone_ofB hI.gr:GrS (fun _=>False) w wr) (by simp) (fun _ _ _=>rfl);have lz:=Ad hL.blk;have ah:gw<w.heap.size:=(hL.wait.1.own gw rfl).2;have wI:U gw=6+3*(Cs 0 (a8.take i)+c.ns.length):=hL.wait.2 gw rfl;obtain⟨n,hn⟩:∃n,c.e.wait.length=n+1:=⟨c.e.wait.length-1,by have:=GP ju;omega⟩
    have hAg:AgAt U lb 1 gw jU c.e.wait wr:=⟨by simp[World.cell?,sK.blk],fun e=>by have:=hL.own;rw[e] at this;omega,sK.wait.1,by omega,fun y hy=>⟨by rw[eR.len y hy];exact eR.four,sK.wfs y hy⟩⟩
    have xk:=Q34 U lb 1 gw jU n #[tv,.slice (some ⟨gw,0,none⟩) c.e.wait.length jU,.int .i64 i,.int .i64 c.jn] 147 c.e.wait nt wr hAg sK.blk rfl hn (by have:=eR.few;omega) eR.heap hw;have eT:Bt nt=.agg #[.pointer p0,.pointer p1,.pointer p2,.pointer p3]:=by unfold Bt;rw[hI.enc]
    have hkey:∀w1,Gq lb 1 (.slice (some ⟨gw,0,none⟩) c.e.wait.length jU) #[tv,.slice (some ⟨gw,0,none⟩) c.e.wait.length jU,.int .i64 i,.int .i64 c.jn] 147 c.e.wait wr w1->(w1.cell? ⟨w.heap.size+1,0,none⟩=some (.pointer p0)/\w1.cell? ⟨w.heap.size+1,1,none⟩=some (.pointer p1)/\w1.cell? ⟨w.heap.size+1,2,none⟩=some (.pointer p2)/\w1.cell? ⟨w.heap.size+1,3,none⟩=some (.pointer p3))/\
      Calls Tryz.prog 75 #[.pointer (some ⟨lb,0,none⟩),.agg #[.pointer p0,.pointer p1,.pointer p2,.pointer p3]] w1 fun e w2=>∃bf aC,e=.returned (.agg #[.int .i64 i,.slice bf nt.length aC])/\(C2 52 w.heap.size (.int .i64 0) (.slice none 0 0) w2)/\IsAt w.heap.size (.slice bf nt.length aC) nt.ids ((w2.setCell ⟨w.heap.size,0,none⟩ (.int .i64 i)).setCell ⟨w.heap.size,1,none⟩ (.slice bf nt.length aC))/\NetAt U b (a8.set i (Hr c)) ((w2.setCell ⟨w.heap.size,0,none⟩ (.int .i64 i)).setCell ⟨w.heap.size,1,none⟩ (.slice bf nt.length aC))/\GrS (fun k=>4<=U k) w ((w2.setCell ⟨w.heap.size,0,none⟩ (.int .i64 i)).setCell ⟨w.heap.size,1,none⟩ (.slice bf nt.length aC)):=by
     intro w1 hT;obtain⟨dT,eY,ae⟩:=sK.taken hT;obtain⟨_,_,_,k3,_⟩:=id hT
     have hne:∀k,w.heap.size<=k->¬ (k=lb\/(Value.slice (some ⟨gw,0,none⟩) c.e.wait.length jU).ownBlock=some k):=by
      rintro k hk (e|e)
      ·omega
      ·simp only[Value.ownBlock,AE] at e;omega
     have dF:w1.heap[w.heap.size+1]?=_:=k3.blk hI.new (hne _ (by omega));have hr1:w1.heap[w.heap.size]?=_:=k3.blk hI.res (hne _ (AW _));refine⟨⟨Az dF rfl,Az dF rfl,Az dF rfl,Az dF rfl⟩,?_⟩;have hM:=Ws U lb i c.jn nt w1 (by simp[World.cell?,eY.blk]) (by simp[World.cell?,eY.blk]) (eR.len nt ju) eR.four (fun g hg=>(sK.wfs nt ju g hg).keep ae (fun k hk hx=>by omega) (fun _ _ e=>e));rw[eT] at hM;refine hM.mono ?_;rintro e w2⟨bf,aC,rfl,hg2,hv2⟩;have hlen:=eR.len nt ju;rw[<-hlen] at hv2⊢;obtain⟨hN,hG⟩:=Q1u (x:=.int .i64 i) (y:=.slice bf nt.length aC) (Aa WW) h0 hc hL hI.gr hT hg2;have hr2:=(hg2.block w.heap.size (Ad hr1) (by simp)).trans hr1;have hsz:w.heap.size<w1.heap.size:=Ad hr1;have hv3:=hv2.other (Ea w2 w.heap.size (.int .i64 i) (.slice bf nt.length aC)) (fun g hg e=>by have:=(hv2.own g hg).1;simp at e;omega);exact⟨bf,aC,rfl,hr2,hv3.weak (by omega),hN,hG⟩
    have HKEY:=Ac hkey;have HCW:=Ac (show _/\_ from⟨hc,hw⟩);have XL:=Ac hb;clear hkey sK hAg hI hL eR ju WW eD rB iL pX hb wI ah lz eT hc hw r0 r1 rf HK;go_wp2_with fail;refine xk.mono ?_;rintro e w1⟨rfl,hT⟩;obtain⟨⟨y0,y1,y2,y3⟩,hM⟩:=Aa HKEY w1 hT;clear xk HKEY hT;go_wp2_with fail;refine hM.mono ?_;rintro e w2⟨bf,aC,rfl,wP,hv,hN,hG⟩;obtain⟨x0,x1⟩:=wP.c;have xf:∀k,w2.frozen? ⟨w.heap.size,k,none⟩=false:=fun k=>by have VG:w2.heap[w.heap.size]?=_:=wP;simp[World.frozen?,VG]
    obtain⟨z0,z1⟩:=(wP.set2 (.int .i64 i) (.slice bf nt.length aC)).c;have HF:=Ac (show _/\_/\_ from⟨hv,hN,hG⟩);clear hM hv hN hG wP y0 y1 y2 y3;go_wp2_with fail;exact BO (v:=.tuple #[.agg #[.int .i64 i,.slice bf nt.length aC],.bool true]) (by simp[results,Tryz.results48,go_sem,z0,z1]) rfl (by unfold Jd;rw[Aa XL];exact⟨bf,aC,c,rfl,(Aa HF).1,(Aa HCW).1,(Aa HCW).2,(Aa HF).2⟩)
theorem R0(a:Option Addr):∀(l:List (Option Addr)) (k:Nat),0<=Rz a k l↔a∈l
 | [],k=>by unfold Rz;simp
 | p::l,k=>by
  unfold Rz;by_cases h:a=p
  ·rw[AQ h]
   exact⟨fun _=>by rw[h];exact BF ..,fun _=>by omega⟩
  ·rw[AO h,R0 a l (k+1)]
   exact⟨fun h2=>BG _ h2,fun h2=>by rcases CQ.1 h2 with h3|h3;exact absurd h3 h;exact h3⟩
theorem Mi(v:Value):v∈A5 t->v=.pointer none\/∃g∈t,v=Ee g:=by
 unfold A5;intro hv;rcases AY.1 (EH hv) with h|h
 ·obtain⟨g,hg,rfl⟩:=CJ.1 h
  exact .inr ⟨g,hg,rfl⟩
 ·exact .inl (CX h)
theorem T8(h4:t.length<=4){g:Ft}(hg:g∈t):Ee g∈A5 t:=by
 obtain⟨i,hi,he⟩:=List.getElem_of_mem hg;exact AV (Mh (i:=i) (by rw[<-he];exact AB hi) (by omega))
theorem Q10(h4:t.length<=4)(hp:A5 t=[.pointer p0,.pointer p1,.pointer p2,.pointer p3])(f:Ft):decide (0<=Rz (some ⟨f.blk,0,none⟩) 0 [p0,p1,p2,p3])=Tok.has f t:=by
 have hm:∀p,p∈[p0,p1,p2,p3]↔Value.pointer p∈A5 t:=by
  intro p;rw[hp];simp
 rw[ER,DF,R0,hm];unfold Tok.has;rw[EB];constructor
 ·intro h
  rcases Mi _ h with h|⟨g,hg,he⟩
  ·cases h
  ·refine⟨g,hg,?_⟩
   unfold Ee at he;simp only[DC,AE,BK,BX] at he;simp[he]
 ·rintro⟨g,hg,he⟩
  have:=T8 h4 hg;unfold Ee at this;rw[show g.blk=f.blk by simpa using he] at this;exact this
theorem Xl(U:Nat->Nat)(x:Nat)(f:Ft)(t:Tok)(w:World)(hx:w.cell? ⟨x,0,none⟩=some (.pointer (some ⟨f.blk,0,none⟩)))(hf:FtAt U f w)(h4:t.length<=4)(ht:∀g∈t,FtAt U g w) :
  Calls Tryz.prog 105 #[Bt t,.pointer (some ⟨x,0,none⟩)] w fun e w'=>e=.returned (.bool (Tok.has f t))/\w.grownBy w' none:=by
 obtain⟨p0,p1,p2,p3,hp⟩:=A9 t;have eT:Bt t=.agg #[.pointer p0,.pointer p1,.pointer p2,.pointer p3]:=by unfold Bt;rw[hp]
 have a7:=AA w (.cells #[.pointer p0,.pointer p1,.pointer p2,.pointer p3] 139) none;have bU:(w.alloc (.cells #[.pointer p0,.pointer p1,.pointer p2,.pointer p3] 139)).heap[w.heap.size]?=some (.cells #[.pointer p0,.pointer p1,.pointer p2,.pointer p3] 139 (0,0)):=AR _ _
 have hS:∀wx,(w.alloc (.cells #[.pointer p0,.pointer p1,.pointer p2,.pointer p3] 139)).grownBy wx none->Calls Tryz.prog 106 #[.slice (some ⟨w.heap.size,0,none⟩) 4 4,.pointer (some ⟨f.blk,0,none⟩)] wx fun e w'=>e=.returned (.bool (Tok.has f t))/\w'=wx:=by
  intro wx hg;have ar:=Ab a7 hg;have oW:wx.heap[w.heap.size]?=some (.cells #[.pointer p0,.pointer p1,.pointer p2,.pointer p3] 139 (0,0)):=by rw[hg.block _ (Ad bU) (by simp)];exact bU
  have:=Q31 f.blk (some ⟨w.heap.size,0,none⟩) [p0,p1,p2,p3] 4 wx (hf.gr ar).isBlk ⟨by unfold maxLen;simp,fun i p hi=>⟨⟨w.heap.size,rfl,Az oW (by
   have:(#[Value.pointer p0,.pointer p1,.pointer p2,.pointer p3])[i]?=([p0,p1,p2,p3][i]?).map Value.pointer:=by
    rw[<-BR,<-List.getElem?_toArray];rfl
   rw[this,hi];rfl)⟩,?_⟩⟩
  ·rw[Q10 h4 hp f] at this
   exact this
  ·have hm:Value.pointer p∈A5 t:=by
    rw[hp];have:=AV hi;simpa using this
   rcases Mi _ hm with h|⟨g,bE,he⟩
   ·left
    simpa using h
   ·right
    unfold Ee at he;exact⟨g.blk,by simpa using he,((ht g bE).gr ar).isBlk⟩
 have hx2:=a7.cell hx (by simp);rw[eT];have di:=Ac a7;obtain⟨r,hr⟩:∃r,Tok.has f t=r:=⟨_,rfl⟩
 rw[hr] at hS⊢;clear hp eT a7 bU hf ht hr;go_enter Tryz.func105,Tryz.ntmps105;go_wp2_with fail
 first
  | go_region_with (go_at_call 106;refine(hS _ (by repeat (first|assumption|exact AD _ _|apply Ah))).mono ?_;rintro e1 w1⟨rfl,hw1⟩;subst w1)
  | fail
 all_goals
  go_wp2;go_ret;exact⟨rfl,Ab (Aa di) (by repeat (first|assumption|exact AD _ _|apply Ah))⟩
end Go.Proofs.YtolhbeekfjnfmaaGreatDoor
namespace Go.Proofs.YtolhbeekfjnfmaaGreatDoor
variable {t nt:Tok}{U:Nat->Nat}{q lb ru jn b j:Nat}{e:En}{tv wv fv:Value}{w w' wr:World}{a8:List Ch}{c:Ch}{p0 p1 p2 p3:Option Addr}{F:List Ft}{f:Ft}
def Gd(f:Ft):Nat->List Nd->En->List Nd×En
 | _,[],e=>([],e)
 | 0,n::ns,e=>((Aw f n ns e).1::(Aw f n ns e).2.1,(Aw f n ns e).2.2)
 | p+1,n::ns,e=>(n::(Gd f p ns e).1,(Gd f p ns e).2)
def A2(f:Ft):Nat->List Nd->En->List Nd×En
 | 0,ns,e=>B5 f ns e
 | _+1,[],e=>([],e)
 | j+1,n::ns,e=>(n::(A2 f j ns e).1,(A2 f j ns e).2)
theorem Ge(f:Ft):∀(ns:List Nd) (e:En),A2 f ns.length ns e=(ns,e)
 | [],e=>by simp[A2,B5]
 | n::ns,e=>by
  show A2 f (ns.length+1) (n::ns) e=(n::ns,e)
  unfold A2;rw[Ge f ns e]
theorem Gf(f:Ft):∀(j:Nat) (ns:List Nd) (e:En),j<ns.length->A2 f j ns e=Gd f j (A2 f (j+1) ns e).1 (A2 f (j+1) ns e).2
 | _,[],_,h=>by simp at h
 | 0,n::ns,e,_=>by simp[A2,B5,Gd]
 | j+1,n::ns,e,h=>by
  have ih:=Gf f j ns e (by simpa using h);rw[A2,ih];simp only[A2,Gd]
theorem G9(f:Ft)(n:Nd)(ns:List Nd)(e:En):(Aw f n ns e).2.1.length=ns.length:=by
 unfold Aw;split
 ·split
  ·exact Cq _ _ _ _
  ·rfl
 ·rfl
theorem Gr(f:Ft):∀(ns:List Nd) (e:En),(B5 f ns e).1.length=ns.length
 | [],_=>rfl
 | n::ns,e=>by unfold B5;simp[G9,Gr f ns e]
theorem Kv(f:Ft):∀(j:Nat) (ns:List Nd) (e:En),(A2 f j ns e).1.length=ns.length
 | 0,ns,e=>by unfold A2;exact Gr f ns e
 | _+1,[],_=>by unfold A2;rfl
 | j+1,n::ns,e=>by unfold A2;simp[Kv f j ns e]
theorem Kt(f:Ft):∀(j:Nat) (ns:List Nd) (e:En) (n:Nd),ns[j]?=some n->(A2 f (j+1) ns e).1[j]?=some n
 | _,[],_,_,h=>by simp at h
 | 0,m::ns,e,n,h=>by simp[A2];simpa using h
 | j+1,m::ns,e,n,h=>by
  rw[A2];simpa using Kt f j ns e n (by simpa using h)
theorem Bd.delStep{κ c:Nat}{n:Nd}{ns:List Nd}{e:En}{f:Ft}(hk:κ<=20)(h:Bd κ c (n::ns) e):Bd κ (2*c) ((Aw f n ns e).1::(Aw f n ns e).2.1) (Aw f n ns e).2.2:=by
 obtain⟨h1,h2,h3⟩:=h;unfold Aw;split
 ·refine⟨by show (n.K.filter _).length<=_;exact AU (CR _ _) h1,by show n.toks.length<=_;omega,?_⟩
  split
  ·have:=Bd.arr hk h3 (ts:=n.toks.filter (fun t=>Ck n.links t f.f && !(n.less f).K.any (fun g=>Ck n.links t g.f))) (t:=c) (AU (CR _ _) h2)
   exact this.mono (AW _) (by omega)
  ·exact h3.mono (AW _) (by omega)
 ·exact⟨h1,by show n.toks.length<=_;omega,h3.mono (AW _) (by omega)⟩
theorem Bd.delAt{κ:Nat}{f:Ft}(hk:κ<=20):∀(p:Nat) {ns:List Nd} {c:Nat} {e:En},Bd κ c ns e->Bd κ (2*c) (Gd f p ns e).1 (Gd f p ns e).2
 | _,[],_,e,h=>by unfold Gd;exact⟨by show e.toks.length<=_;have:=h.1;omega,by show e.wait.length<=_;have:=h.2;omega⟩
 | 0,n::ns,c,e,h=>by unfold Gd;exact h.delStep hk
 | p+1,n::ns,c,e,h=>by
  unfold Gd;have ih:=Bd.delAt (f:=f) hk p h.2.2;exact⟨h.1,by have:=h.2.1;omega,by rw[FD];exact ih⟩
end Go.Proofs.YtolhbeekfjnfmaaGreatDoor
namespace Go.Proofs.YtolhbeekfjnfmaaGreatDoor
open Go.RowKit
variable {t nt:Tok}{U:Nat->Nat}{q lb ru jn b j:Nat}{e:En}{tv wv fv:Value}{w w' wr:World}{a8:List Ch}{c:Ch}{p0 p1 p2 p3:Option Addr}{F:List Ft}{f:Ft}
theorem WF.delStep{A:List Nat}{n:Nd}{ns:List Nd}{e:En}{f:Ft}(h:WF A (n::ns))(he:EndOk A (n::ns) e) :
  WF A ((Aw f n ns e).1::(Aw f n ns e).2.1)/\EndOk A ((Aw f n ns e).1::(Aw f n ns e).2.1) (Aw f n ns e).2.2:=by
 unfold Aw;by_cases hf:n.K.any (fun g=>g.blk==f.blk)=true
 ·rw[AQ hf]
  obtain⟨h1,h2,h3,h4,h5⟩:=h;have hK:∀g∈(n.less f).K,g.f.vals.length=n.c.terms.length:=fun g hg=>h3 g (BH.1 hg).1
  by_cases hn:n.c.neg=true
  ·rw[AQ hn]
   have ht:∀u∈n.toks.filter (fun t=>Ck n.links t f.f && !(n.less f).K.any (fun g=>Ck n.links t g.f)),HasAr (if n.c.neg=true then A else A++[n.c.terms.length]) u:=by
    intro u hu;rw[AQ hn];exact h4 u (BH.1 hu).1
   exact⟨⟨h1,h2,hK,h4,h5.arr ht⟩,EndOk.arr (ns:=ns) h5 he ht⟩
  ·rw[AO hn]
   exact⟨⟨h1,h2,hK,h4,h5⟩,he⟩
 ·rw[AO hf]
  exact⟨h,he⟩
theorem WF.delAt{f:Ft}:∀(p:Nat) {A:List Nat} {ns:List Nd} {e:En},WF A ns->EndOk A ns e->WF A (Gd f p ns e).1/\EndOk A (Gd f p ns e).1 (Gd f p ns e).2
 | _,_,[],_,h,he=>by unfold Gd;exact⟨h,he⟩
 | 0,_,n::ns,e,h,he=>by unfold Gd;exact h.delStep he
 | p+1,A,n::ns,e,h,he=>by
  unfold Gd;obtain⟨i1,i2⟩:=WF.delAt (f:=f) p (ns:=ns) (e:=e) h.2.2.2.2 he;exact⟨⟨h.1,h.2.1,h.2.2.1,h.2.2.2.1,i1⟩,i2⟩
def Qd(neg:Bool):Nat:=if neg=true then 108 else 107
theorem Vr(ru jn:Nat)(U:Nat->Nat)(f:Ft)(w:World)(hf:FtAt U f w):∀(p:Nat) (A:List Nat) (q b κ c:Nat) (n:Nd) (ns:List Nd) (e:En) (hd:Value),ns[p]?=some n->Bk U (4+3*(q+p)) b->SufAt U ru jn q A.length ns e hd w->WF A ns->EndOk A ns e->Bd κ c ns e->κ<=20->ns.length<=4->2*c*20 ^ ns.length<=1000000000->F0 n.K->(∀g∈n.K,g.blk=f.blk->g.f=f.f)->
  Calls Tryz.prog (Qd n.c.neg) #[.pointer (some ⟨b,0,none⟩),Ee f] w fun e' w'=>(e'=.returned (if n.c.neg=true then .tuple #[] else .bool (n.K.any (fun g=>g.blk==f.blk))))/\Iu U ru jn q A.length (Gd f p ns e) ns.length hd w w'
 | _,_,_,_,_,_,_,[],_,_,hn,_,_,_,_,_,_,_,_,_,_=>by simp at hn
 | 0,A,q,b,κ,c,n,n0::ns,e,hd,hn,hb,h,hW,hE,hB,hk,hl,hc,ho,hs=>by
  simp only[BU,AE] at hn;subst hn;have h0:=h;obtain⟨b',nx,tv,lv,ov,fv,h1,h2,h3⟩:=h;have:b'=b:=Bk.uniq ⟨h2.own,h2.low⟩ hb;subst this;subst h1;have hS:=(hB.delStep (f:=f) hk).small (by rw[AP,G9,<-AP (a:=n0)];exact hl) (by rw[AP,G9,<-AP (a:=n0)];exact hc);cases et:n0.c.neg with
  | true=>
   have rq:C8 n0.c.neg=209:=by rw[et];rfl
   rw[rq] at h0;have:=Xk ru jn U A q b' n0 ns e f w et h0 hW hf (hE.four hW) ho hs hS.tail;unfold Qd;rw[AQ rfl];refine this.mono ?_;rintro e' w'⟨rfl,U',a1,a2,a3⟩;refine⟨by rw[AQ rfl],U',?_,a2.mono (fun i hi=>?_),a3⟩
   ·unfold Gd C8
    rw[AQ rfl];exact a1
   ·unfold Am
    rw[AP];omega
  | false=>
   have bh:fv.ownBlock≠some b':=fun hx=>by have:=h2.facts.2 b' hx;have:=h2.own;omega
   unfold Qd;rw[AO (by simp)];by_cases fL:n0.K.any (fun g=>g.blk==f.blk)=true
   ·refine(Kx U b' fv (Bb n0 A.length tv lv ov fv nx) (Lj n0.c.neg) n0.K f w h2.blk Ci.2.1 h2.facts.1 bh h2.fts hf ho fL).mono ?_
    rintro e' w'⟨rfl,hp⟩;obtain⟨af,a1,a2⟩:=Kw h2 hp;refine⟨by rw[AO (by simp),fL],U,?_,a2.mono (fun i hi=>by unfold Am;rw[AP];omega),fun _ _=>rfl⟩
    have e1:Gd f 0 (n0::ns) e=(n0.less f::ns,e):=by
     unfold Gd Aw;rw[AQ fL,AO (by simp[et])]
    rw[e1];exact⟨b',nx,tv,lv,ov,af,by rw[show (n0.less f).c.neg=false from et],a1,h3.keep a2 (fun i hi hx=>by omega) (fun _ _ _=>rfl)⟩
   ·have kT:n0.K.any (fun g=>g.blk==f.blk)=false:=by simpa using fL
    refine(L5 U b' fv (Bb n0 A.length tv lv ov fv nx) (Lj n0.c.neg) n0.K f w h2.blk Ci.2.1 h2.facts.1 h2.fts hf kT).mono ?_;rintro e' w'⟨rfl,hw⟩;subst hw
    have e1:Gd f 0 (n0::ns) e=(n0::ns,e):=by
     unfold Gd Aw;rw[AO fL]
    refine⟨by rw[AO (by simp),kT],U,?_,GrS.of (AD w' none) (by simp),fun _ _=>rfl⟩;rw[e1];rw[et] at h0;exact h0
 | p+1,A,q,b,κ,c,n,n0::ns,e,hd,hn,hb,h,hW,hE,hB,hk,hl,hc,ho,hs=>by
  obtain⟨b',nx,tv,lv,ov,fv,h1,h2,h3⟩:=h;have hA:(if n0.c.neg=true then A.length else A.length+1)=(if n0.c.neg=true then A else A++[n0.c.terms.length]).length:=by split<;>simp
  rw[hA] at h3;rw[AP] at hl hc;rw[GD,FZ (20 ^ _) 20,<-FD,FD 2 c 20] at hc;refine(Vr ru jn U f w hf p (if n0.c.neg=true then A else A++[n0.c.terms.length]) (q+1) b κ (c*20) n ns e nx (by simpa using hn) (by rw[show q+1+p=q+(p+1) by omega];exact hb) h3 hW.2.2.2.2 hE hB.2.2 hk (by omega) hc ho hs).mono ?_;rintro e' w'⟨he,U',a1,a2,a3⟩;refine⟨he,U',?_,a2.mono (fun i hi=>?_),a3⟩
  ·unfold Gd
   refine⟨b',nx,tv,lv,ov,fv,h1,h2.keep a2 (fun i hi hx=>by unfold Am at hx;omega) (fun i hi _=>a3 i hi),?_⟩;rw[hA];exact a1
  ·unfold Am at hi⊢
   rw[AP];omega
theorem Ku{f:Ft}{A:List Nat}{κ:Nat}{ns:List Nd}{e:En}(hk:κ<=20)(hW:WF A ns)(hE:EndOk A ns e)(hB:Bd κ 1 ns e):∀i,i<=ns.length->
  WF A (A2 f (ns.length-i) ns e).1/\EndOk A (A2 f (ns.length-i) ns e).1 (A2 f (ns.length-i) ns e).2/\Bd κ (2 ^ i) (A2 f (ns.length-i) ns e).1 (A2 f (ns.length-i) ns e).2
 | 0,_=>by
  rw[IB,Ge];exact⟨hW,hE,hB⟩
 | i+1,hi=>by
  obtain⟨h1,h2,h3⟩:=Ku (f:=f) hk hW hE hB i (by omega);rw[Gf f (ns.length-(i+1)) ns e (by omega),show ns.length-(i+1)+1=ns.length-i by omega];obtain⟨k1,k2⟩:=WF.delAt (f:=f) (ns.length-(i+1)) h1 h2;refine⟨k1,k2,?_⟩;rw[GD,FZ];exact Bd.delAt hk _ h3
theorem Vu(ru jn:Nat)(U:Nat->Nat)(f:Ft)(w:World)(hf:FtAt U f w)(A:List Nat)(q b κ i:Nat)(n:Nd)(ns:List Nd)(e:En)(hd:Value)(hi:i<ns.length)(hn:ns[ns.length-1-i]?=some n)(hb:Bk U (4+3*(q+(ns.length-1-i))) b)
 (h:SufAt U ru jn q A.length (A2 f (ns.length-i) ns e).1 (A2 f (ns.length-i) ns e).2 hd w)(hW:WF A ns)(hE:EndOk A ns e)(hB:Bd κ 1 ns e)(hk:κ<=20)(hl:ns.length<=4)(ho:F0 n.K)(hs:∀g∈n.K,g.blk=f.blk->g.f=f.f) :
  Calls Tryz.prog (Qd n.c.neg) #[.pointer (some ⟨b,0,none⟩),Ee f] w fun e' w'=>(e'=.returned (if n.c.neg=true then .tuple #[] else .bool (n.K.any (fun g=>g.blk==f.blk))))/\Iu U ru jn q A.length (A2 f (ns.length-(i+1)) ns e) ns.length hd w w':=by
 obtain⟨h1,h2,h3⟩:=Ku (f:=f) hk hW hE hB i (by omega);have hlen:=Kv f (ns.length-i) ns e
 have TP:(A2 f (ns.length-i) ns e).1[ns.length-1-i]?=some n:=by
  have:=Kt f (ns.length-1-i) ns e n hn;rw[show ns.length-1-i+1=ns.length-i by omega] at this;exact this
 have hc:2*2 ^ i*20 ^ (A2 f (ns.length-i) ns e).1.length<=1000000000:=by
  rw[hlen];have a1:2 ^ i<=2 ^ 4:=DL (by omega) (by omega);have a2:20 ^ ns.length<=20 ^ 4:=DL (by omega) hl;have a3:2*2 ^ i*20 ^ ns.length<=2*2 ^ 4*20 ^ 4:=Nat.mul_le_mul (GZ _ a1) a2;omega
 have:=Vr ru jn U f w hf (ns.length-1-i) A q b κ (2 ^ i) n (A2 f (ns.length-i) ns e).1 (A2 f (ns.length-i) ns e).2 hd TP hb h h1 h2 h3 hk (by rw[hlen];exact hl) hc ho hs;rw[hlen] at this;have e1:=Gf f (ns.length-(i+1)) ns e (by omega);rw[show ns.length-(i+1)+1=ns.length-i by omega] at e1;rw[e1,show ns.length-(i+1)=ns.length-1-i by omega];exact this
theorem Tryz.entersR:∀args w,(callFunc 105 args).run Tryz.prog w=.ok (.enter 105 args) w:=enters_of Tryz.func105 (by kernel_rfl) rfl
theorem Vv(f:Ft)(n:Nd)(ns:List Nd)(e:En):(Aw f n ns e).1.c=n.c:=by
 unfold Aw;split<;>rfl
theorem Ks(f:Ft):∀(ns:List Nd) (e:En),Ma (B5 f ns e).1=Ma ns
 | [],_=>rfl
 | n::ns,e=>by
  have h1:Ma (Aw f n (B5 f ns e).1 (B5 f ns e).2).2.1=Ma (B5 f ns e).1:=I6 (I4 f n (B5 f ns e).1 (B5 f ns e).2);have h2:=Ks f ns e;unfold B5;show (Aw f n (B5 f ns e).1 (B5 f ns e).2).1.c.neg::Ma (Aw f n (B5 f ns e).1 (B5 f ns e).2).2.1=n.c.neg::Ma ns
  rw[h1,h2,Vv]
theorem Vt(f:Ft)(ns:List Nd)(e:En):Ma (Ti f ns e).1=Ma ns:=by
 unfold Ti;rw[Ks];unfold Ma;rw[EF];rfl
theorem Vp(ru jn:Nat)(U:Nat->Nat)(q b:Nat)(ns:List Nd)(e:En)(f:Ft)(w:World)(hC:ChainAt U ru jn q b ns e w)(hW:WF [] ns)(hE:EndOk [] ns e)(hB:Bd 16 1 ns e)(hl:ns.length<=4)(hf:FtAt U f w)(ho:∀n∈ns,F0 n.K/\∀g∈n.K,g.blk=f.blk->g.f=f.f) :
  Calls Tryz.prog 71 #[.pointer (some ⟨b,0,none⟩),Ee f] w fun e' w'=>e'=.returned (.tuple #[])/\∃U',ChainAt U' ru jn q b (Ti f ns e).1 (Ti f ns e).2 w'/\GrS (Am U q ns.length) w w'/\∀i,i<w.heap.size->U' i=U i:=by
 obtain⟨nv,hd,hs,lb,c1,c2,c3,c4,c5,c6,c7⟩:=hC.ex;obtain⟨ao,cap,dw⟩:=c3.1.slice;have hrl:hs.reverse.length=ns.length:=by rw[GF];exact c4.1
 rw[hrl] at dw;subst dw;clear hC;have hwl:e.wait.length<=1000000000:=(hB.small hl (by have:20 ^ ns.length<=20 ^ 4:=DL (by omega) hl;omega)).2.2;have a7:=AA w (.cells #[.pointer (some ⟨f.blk,0,none⟩)] 90) none;have hx1:(w.alloc (.cells #[.pointer (some ⟨f.blk,0,none⟩)] 90)).heap[w.heap.size]?=some (.cells #[.pointer (some ⟨f.blk,0,none⟩)] 90 (0,0)):=AR _ _;have d0:(w.alloc (.cells #[.pointer (some ⟨f.blk,0,none⟩)] 90)).cell? ⟨b,0,none⟩=some (.slice ao ns.length cap):=a7.cell (by simp[World.cell?,c1]) (by simp);have d1:(w.alloc (.cells #[.pointer (some ⟨f.blk,0,none⟩)] 90)).cell? ⟨b,1,none⟩=some hd:=a7.cell (by simp[World.cell?,c1]) (by simp);have hs0:SufAt (Cj U w 0) ru jn q 0 ns e hd (w.alloc (.cells #[.pointer (some ⟨f.blk,0,none⟩)] 90)):=c7.keep (S:=fun _=>False) (GrS.of a7 (by simp)) (by simp) (fun i hi _=>Ak hi);have oG:FtAt (Cj U w 0) f (w.alloc (.cells #[.pointer (some ⟨f.blk,0,none⟩)] 90)):=hf.keep (S:=fun _=>False) (GrS.of a7 (by simp)) (by simp) (fun i hi h=>by rw[Ak hi];exact h)
 have hcon:∀wx t,GrS (Am (Cj U w 0) q ns.length) (w.alloc (.cells #[.pointer (some ⟨f.blk,0,none⟩)] 90)) wx->Begins [] t->(∀g∈t,FtAt (Cj U w 0) g wx)->Calls Tryz.prog 105 #[Bt t,.pointer (some ⟨w.heap.size,0,none⟩)] wx fun e w'=>e=.returned (.bool (Tok.has f t))/\wx.grownBy w' none:=by
  intro wx t hg hBt cZ;have y1:=hg.blk hx1 (by unfold Am;rw[Bh (AW _)];omega);exact Xl (Cj U w 0) w.heap.size f t wx (Az y1 rfl) (oG.codes hg) (by obtain⟨_,_,h⟩:=hBt;exact h) cZ
 have hF:∀b2 ty,hd=.iface ty (.pointer (some ⟨b2,0,none⟩))->Calls Tryz.prog (V0 ns) #[.pointer (some ⟨b2,0,none⟩),(.func (.func 105) #[] #[.pointer (some ⟨w.heap.size,0,none⟩)])] (w.alloc (.cells #[.pointer (some ⟨f.blk,0,none⟩)] 90)) fun e' w'=>e'=.returned (.tuple #[])/\SufAt (Cj U w 0) ru jn q 0 (ns.map (Nd.drop (Tok.has f))) (e.drop (Tok.has f)) hd w'/\GrS (Am (Cj U w 0) q ns.length) (w.alloc (.cells #[.pointer (some ⟨f.blk,0,none⟩)] 90)) w':=by
  rintro b2 ty rfl;exact V4 (Cj U w 0) ru jn 105 (.pointer (some ⟨w.heap.size,0,none⟩)) (Tok.has f) (Begins []) Tryz.entersR (fun t ht=>by obtain⟨_,_,h⟩:=ht;exact h) ns q 0 b2 ty e _ hs0 (Ye hW hE) hwl hcon
 obtain⟨ty2,fP,b2,ik,eu,hent,gF⟩:∃ty2 fP b2,hd=.iface ty2 (.pointer (some ⟨b2,0,none⟩))/\V0 ns=fP/\(∀args w,(callFunc fP args).run Tryz.prog w=.ok (.enter fP args) w)/\∀(c:Nat) (w:World),(Go.method 482 ty2 (.pointer (some ⟨c,0,none⟩)) "sieve/nodes.forget").run Tryz.prog w=.ok (fP,.pointer (some ⟨c,0,none⟩)) w:=by
  rcases c7.head with ⟨b2,h,gY⟩|⟨b2,n2,lJ,h,gY,et⟩|⟨b2,n2,lJ,h,gY,et⟩
  ·exact⟨_,_,b2,h,by rw[gY];rfl,enters_of Tryz.func241 (by kernel_rfl) rfl,fun c w=>Tryz.mForL _ w⟩
  ·exact⟨_,_,b2,h,by rw[gY];rfl,enters_of Tryz.func256 (by kernel_rfl) rfl,Tryz.mForH⟩
  ·exact⟨_,_,b2,h,by rw[gY];rfl,enters_of Tryz.func256 (by kernel_rfl) rfl,Tryz.mForJ⟩
 have hF':=hF b2 ty2 ik;rw[eu] at hF';subst ik;clear hF eu;have HP:=Ac (show _/\_/\_/\_/\_/\_/\_/\_/\_/\_ from⟨c1,c2,c3,c4,c5,c6,c7,a7,hx1,oG⟩);have HQ:=Ac (show _/\_/\_/\_/\_/\_ from⟨hW,hE,hB,hl,ho,hrl⟩);unfold Ee;clear c1 c2 c3 c4 c5 c6 c7 a7 hx1 oG hW hE hB hl ho hrl hs0 hcon hf hwl;go_enter Tryz.func71,Tryz.ntmps71;go_wp2_with fail;refine hF'.mono ?_;rintro e2 w5⟨rfl,s1,s2⟩
 have d5:w5.cell? ⟨b,0,none⟩=some (.slice ao ns.length cap):=by
  obtain⟨k1,k2,_,_,_,_,_,k8,_⟩:=Aa HP;have cR:=(k8.block b (Ad k1) (by simp)).trans k1;exact Az (s2.blk cR (by unfold Am;rw[Ak (Ad k1),k2];omega)) rfl
 have rH:ns.length<=4:=(Aa HQ).2.2.2.1;have HS:=Ac (show _/\_ from⟨s1,s2⟩);clear hF' s1 s2 d0 d1;go_wp2;clear d5;go_loopw [19] (fun x w'=>∃i:Nat,i<=ns.length/\x=.int .i64 i/\Hid (∃Ux,SufAt Ux ru jn q 0 (A2 f (ns.length-i) (ns.map (Nd.drop (Tok.has f))) (e.drop (Tok.has f))).1 (A2 f (ns.length-i) (ns.map (Nd.drop (Tok.has f))) (e.drop (Tok.has f))).2 (.iface ty2 (.pointer (some ⟨b2,0,none⟩))) w'/\GrS (Am (Cj U w 0) q ns.length) (w.alloc (.cells #[.pointer (some ⟨f.blk,0,none⟩)] 90)) w'/\(∀k,k<(w.alloc (.cells #[.pointer (some ⟨f.blk,0,none⟩)] 90)).heap.size->Ux k=Cj U w 0 k))) (fun x _=>ns.length-(intOf x).toNat)
 case atStart=>
  refine⟨0,AG _,rfl,Ac ⟨Cj U w 0,?_,(Aa HS).2,fun _ _=>rfl⟩⟩;have:=Ge f (ns.map (Nd.drop (Tok.has f))) (e.drop (Tok.has f));rw[BA] at this;rw[IB,this];exact(Aa HS).1
 case round=>
  clear HS;obtain⟨i,hi,rfl,HK⟩:=hrel;obtain⟨Ux,x1,x2,x3⟩:=Aa HK;obtain⟨k1,k2,k3,k4,k5,k6,k7,k8,k9,OP⟩:=Aa HP;obtain⟨qW,qE,qB,qL,qO,qR⟩:=Aa HQ;have hold:∀k,k<w.heap.size->Ux k=U k:=fun k hk=>by rw[x3 k (AZ hk k8.size),Ak hk]
  have hG:GrS (Am U q ns.length) w wr:=by
   refine(GrS.of k8 (by simp)).comp x2 (fun k hk hn hc=>hn ?_);unfold Am at hc⊢;rw[Ak hk] at hc;exact hc
  have dF:∀k,U k=1->¬ Am U q ns.length k:=fun k hk hc=>by unfold Am at hc;omega
  clear HK;by_cases hlt:i<ns.length
  ·have hdd:decide (i<ns.length)=true:=by simpa using hlt
   obtain⟨n0,gD⟩:∃n0,ns[ns.length-1-i]?=some n0:=⟨_,AB (by omega)⟩
   obtain⟨bx,hb1,hb2⟩:=k4.2 _ n0 gD;obtain⟨wu,hb3,hb4⟩:=k7.bk gD;obtain rfl:bx=wu:=hb2.uniq hb3;have aH:Bk Ux (4+3*(q+(ns.length-1-i))) bx:=hb2.old hb4 hold
   have YV:hs.reverse[i]?=some (.iface (C8 n0.c.neg) (.pointer (some ⟨bx,0,none⟩))):=by
    rw[KX (by rw[k4.1];exact hlt),k4.1];exact hb1
   have hrow:=k3.keep2 (T':=Ux) hG dF (fun k hk h=>by rw[hold k hk];exact h);obtain⟨g,cap',e1,hc⟩:=hrow.1.cells YV;simp only[AH] at e1;obtain⟨rfl,pW,rfl⟩:=e1;clear pW;have c0:=hc 0 (by omega);have UK:wr.cell? ⟨w.heap.size,0,none⟩=some (.pointer (some ⟨f.blk,0,none⟩)):=Az (x2.blk k9 (by unfold Am;rw[Bh (AW _)];omega)) rfl;have zt:FtAt Ux f wr:=OP.keep x2 (fun k hk hc=>by unfold Am at hc;omega) (fun k hk h=>by rw[x3 k hk];exact h);have cj:(ns.map (Nd.drop (Tok.has f))).length=ns.length:=BA ..
   have hA:∀wx,wr.grownBy wx none->Calls Tryz.prog (Qd n0.c.neg) #[.pointer (some ⟨bx,0,none⟩),.pointer (some ⟨f.blk,0,none⟩)] wx fun e' w'=>(e'=.returned (if n0.c.neg=true then .tuple #[] else .bool (n0.K.any (fun g=>g.blk==f.blk))))/\Iu Ux ru jn q 0 (A2 f (ns.length-(i+1)) (ns.map (Nd.drop (Tok.has f))) (e.drop (Tok.has f))) ns.length (.iface ty2 (.pointer (some ⟨b2,0,none⟩))) wx w':=by
    intro wx hg;have:=Vu ru jn Ux f wx (zt.gr hg) [] q bx 16 i (Nd.drop (Tok.has f) n0) (ns.map (Nd.drop (Tok.has f))) (e.drop (Tok.has f)) (.iface ty2 (.pointer (some ⟨b2,0,none⟩))) (by rw[cj];exact hlt) (by rw[cj,BR,gD];rfl) (by rw[cj];exact aH) (by rw[cj];exact x1.gr hg) (qW.drop _) (qE.drop _) (qB.drop _) (by omega) (by rw[cj];exact qL) (qO n0 (AV gD)).1 (qO n0 (AV gD)).2;rw[cj] at this;exact this
   have hend:∀wx W',wr.grownBy wx none->Iu Ux ru jn q 0 (A2 f (ns.length-(i+1)) (ns.map (Nd.drop (Tok.has f))) (e.drop (Tok.has f))) ns.length (.iface ty2 (.pointer (some ⟨b2,0,none⟩))) wx W'->Hid (∃Uy,SufAt Uy ru jn q 0 (A2 f (ns.length-(i+1)) (ns.map (Nd.drop (Tok.has f))) (e.drop (Tok.has f))).1 (A2 f (ns.length-(i+1)) (ns.map (Nd.drop (Tok.has f))) (e.drop (Tok.has f))).2 (.iface ty2 (.pointer (some ⟨b2,0,none⟩))) W'/\GrS (Am (Cj U w 0) q ns.length) (w.alloc (.cells #[.pointer (some ⟨f.blk,0,none⟩)] 90)) W'/\(∀k,k<(w.alloc (.cells #[.pointer (some ⟨f.blk,0,none⟩)] 90)).heap.size->Uy k=Cj U w 0 k)):=by
    rintro wx W' hg⟨U',a1,a2,a3⟩;have XO:=x2.then hg (by simp)
    refine Ac ⟨U',a1,XO.comp a2 (fun k hk hn hc=>hn ?_),fun k hk=>?_⟩
    ·unfold Am at hc⊢
     rw[<-x3 k hk];exact hc
    ·rw[a3 k (AZ hk XO.size)]
     exact x3 k hk
   have bD:=Ac hend;have HOLD:=Ac hold;have tJ:=Tryz.asJoin;have tH:=Tryz.asHold;have tN:=Tryz.notJoin;simp only[venc,FB,EG,BU] at c0;clear hend hold hG dF x1 x2 x3 k1 k2 k3 k4 k5 k6 k7 k8 k9 OP qW qE qB qL qO qR gD hb1 hb2 hb3 hb4 aH YV hrow hc zt cj;cases et:n0.c.neg with
   | true=>
    rw[et] at hA c0;simp only[Qd,if_true] at hA;unfold C8 at c0;rw[AQ rfl] at c0;clear et;have fY:=hA wr (AD wr none);go_wp2_with fail;refine fY.mono ?_;rintro e3 w7⟨rfl,hp⟩;have HK:=Aa bD wr w7 (AD wr none) hp;clear hA fY hp bD c0 UK;go_wp2;go_roundw
    case rel=>exact⟨i+1,by omega,by go_num,HK⟩
    case measure=>simp[intOf];omega
   | false=>
    rw[et] at hA c0;simp only[Qd,BZ,if_false] at hA;unfold C8 at c0;rw[AO (by simp)] at c0;clear et;go_wp2_with fail
    first
     | go_region_with (go_at_call 107;refine(hA _ (by repeat (first|assumption|exact AD _ _|apply Ah))).mono ?_;rintro e3 w7⟨rfl,hp⟩)
     | fail
    all_goals
     have HK:=Aa bD _ _ (by repeat (first|assumption|exact AD _ _|apply Ah)) hp;clear hA bD c0 UK hp;go_wp2;go_roundw
     case rel=>exact⟨i+1,by omega,by go_num,HK⟩
     case measure=>simp[intOf];omega
  ·have hdd:decide (i<ns.length)=false:=by simpa using hlt
   have kL:i=ns.length:=by omega
   subst kL;rw[KU] at x1;have HX:=Ac (show _/\_/\_/\_ from⟨x1,x2,hold,hG⟩);have eb:=Ac dF;clear x1 x2 x3 hold hG dF k1 k2 k3 k4 k5 k6 k7 k8 k9 OP qW qE qB qL qO qR;go_wp2;go_end0
   obtain⟨x1,x2,hold,hG⟩:=Aa HX;obtain⟨k1,k2,k3,k4,k5,k6,k7,k8,k9,OP⟩:=Aa HP;have hlen:(Ti f ns e).1.length=ns.length:=(Gr f _ _).trans (BA ..);refine⟨rfl,Ux,⟨.slice ao ns.length cap,_,hs,lb,hG.blk k1 (Aa eb b k2),by rw[hold b (Ad k1)];exact k2,k3.keep2 hG (Aa eb) (fun k hk h=>by rw[hold k hk];exact h),⟨by rw[hlen];exact k4.1,fun p n hn=>?_⟩,k5,?_,x1⟩,hG,hold⟩
   ·have hp:p<ns.length:=by rw[<-hlen];exact(AL.1 hn).1
    have gD:ns[p]?=some (ns[p]'hp):=AB hp;have h:=BJ (fun l:List Bool=>l[p]?) (Vt f ns e);simp only[Ma,BR,hn,gD,DZ,AE] at h;obtain⟨bx,hb1,hb2⟩:=k4.2 p _ gD;obtain⟨wu,hb3,hb4⟩:=k7.bk gD;obtain rfl:bx=wu:=hb2.uniq hb3;exact⟨bx,by rw[h];exact hb1,hb2.old hb4 hold⟩
   ·obtain⟨b',dc,dT,hb3,hb4⟩:=k7.bkLast
    obtain rfl:=k6.uniq hb3;rw[hlen];exact k6.old (Ad hb4.blk) hold
theorem Y7(f:Ft)(ns:List Nd)(e:En):(Ti f ns e).1.length=ns.length:=(Gr f _ _).trans (BA ..)
theorem Good.filt{F:List Ft}:∀ {ss:List Site} {k:Nat} {ns:List Nd} {cs:List Sv.Cond},Good F ss k ns cs->∀n∈ns,∃p:Ft->Bool,n.K=F.filter p
 | _,_,[],_,_,n,hn=>by simp at hn
 | _,_,_::_,[],h,_,_=>h.elim
 | ss,k,m::ns,c::cs,h,n,hn=>by
  obtain⟨_,_,hK,hg⟩:=h;rcases CQ.1 hn with rfl|hn
  ·exact⟨_,hK⟩
  ·exact Good.filt hg n hn
theorem FtAsc.oneBlk(h:FtAsc F)(p:Ft->Bool):F0 (F.filter p):=(List.Pairwise.imp (fun h=>by omega) h).filter p
theorem ChOk.apart{cs:List Sv.Cond}(h:ChOk F cs c)(hF:FtAsc F)(hf:f∈F):∀n∈c.ns,F0 n.K/\∀g∈n.K,g.blk=f.blk->g.f=f.f:=by
 intro n hn;obtain⟨p,hp⟩:=h.good.filt n hn;rw[hp];exact⟨hF.oneBlk p,fun g hg he=>by rw[hF.one (BH.1 hg).1 hf (.inr he)]⟩
def Fz(f:Ft)(j:Nat)(a8:List Ch):List Ch:=(a8.take j).map (Ij f)++a8.drop j
theorem L2(h:a8[j]?=some c):(Fz f j a8)[j]?=some c:=by
 have hl:=(AL.1 h).1;unfold Fz;rw[DW (by simp;omega)];simp[Nat.min_eq_left (Nat.le_of_lt hl),h]
theorem Qc(h:a8[j]?=some c):Fz f (j+1) a8=(Fz f j a8).set j (Ij f c):=by
 have hl:=(AL.1 h).1;have hd:a8.drop j=c::a8.drop (j+1):=by rw[CP hl,(AL.1 h).2]
 unfold Fz;rw[GS _ _ (by simp;omega),CZ,h,hd];simp[Nat.min_eq_left (Nat.le_of_lt hl)]
theorem Wu(U:Nat->Nat)(b:Nat)(a8:List Ch)(f:Ft)(w:World)(hN:NetAt U b a8 w)(aK:∀c∈a8,ChFit c/\∀n∈c.ns,F0 n.K/\∀g∈n.K,g.blk=f.blk->g.f=f.f)(hf:FtAt U f w) :
  Calls Tryz.prog 47 #[.pointer (some ⟨b,0,none⟩),Ee f] w fun e w'=>e=.returned (.tuple #[])/\∃U',NetAt U' b (a8.map (Ij f)) w'/\GrS (fun i=>4<=U i) w w'/\FtAt U' f w'/\∀i,i<w.heap.size->U' i=U i:=by
 obtain⟨cv,bs,h1,h2,h3,h4⟩:=hN;obtain⟨ao,cap,rfl⟩:=h3.1.slice;have cj:=h3.1.le;unfold maxLen at cj;have rH:=h4.len;have c0:w.cell? ⟨b,0,none⟩=some (.slice ao bs.length cap):=by simp[World.cell?,h1]
 have HI:=Ac (show ∃U',w.heap[b]?=some (.cells #[.slice ao bs.length cap] 133 (0,0))/\U' b=1/\TRow U' 1 134 1 Po (.slice ao bs.length cap) bs w/\ChsAt U' 0 0 (Fz f 0 a8) bs w/\GrS (fun i=>4<=U i) w w/\FtAt U' f w/\∀i,i<w.heap.size->U' i=U i from⟨U,h1,h2,h3,by simpa[Fz] using h4,GrS.refl _ _,hf,fun _ _=>rfl⟩);have fe:=Ac aK;have iL:=Ac rH;clear h1 h2 h3 h4 hf aK rH;unfold Ee;go_enter Tryz.func47,Tryz.ntmps47;go_wp2;clear c0;go_loopw [11] (fun x w'=>∃j:Nat,j<=bs.length/\x=.int .i64 j/\Hid (∃U',w'.heap[b]?=some (.cells #[.slice ao bs.length cap] 133 (0,0))/\U' b=1/\TRow U' 1 134 1 Po (.slice ao bs.length cap) bs w'/\ChsAt U' 0 0 (Fz f j a8) bs w'/\GrS (fun i=>4<=U i) w w'/\FtAt U' f w'/\∀i,i<w.heap.size->U' i=U i)) (fun x _=>bs.length-(intOf x).toNat)
 case atStart=>exact⟨0,AG _,rfl,HI⟩
 case round=>
  clear HI;obtain⟨j,hj,rfl,HK⟩:=hrel;obtain⟨Ux,x1,x2,x3,x4,x5,x6,x7⟩:=Aa HK;clear HK;by_cases hlt:j<bs.length
  ·have hd:decide (j<bs.length)=true:=by simpa using hlt
   have hlc:j<a8.length:=by rw[<-Aa iL];exact hlt
   obtain⟨c,hc⟩:∃c,a8[j]?=some c:=⟨_,AB hlc⟩
   obtain⟨bj,s7,hch⟩:=x4.get (L2 (f:=f) hc);obtain⟨g,cap',e1,c1⟩:=PsAt.cell x3.1 s7;simp only[AH,BP] at e1;obtain⟨rfl,rfl⟩:=e1;have ag:=Aa fe c (AV hc);rw[BV] at hch;have hA:=Vp j c.jn Ux _ bj c.ns c.e f wr hch ag.1.wf ag.1.en ag.1.bd ag.1.few x6 ag.2
   have gz:Calls Tryz.prog 71 #[.pointer (some ⟨bj,0,none⟩),.pointer (some ⟨f.blk,0,none⟩)] wr fun e' w'=>e'=.returned (.tuple #[])/\Hid (∃U',w'.heap[b]?=some (.cells #[.slice (some ⟨g,0,none⟩) bs.length cap] 133 (0,0))/\U' b=1/\TRow U' 1 134 1 Po (.slice (some ⟨g,0,none⟩) bs.length cap) bs w'/\ChsAt U' 0 0 (Fz f (j+1) a8) bs w'/\GrS (fun i=>4<=U i) w w'/\FtAt U' f w'/\∀i,i<w.heap.size->U' i=U i):=by
    refine hA.mono ?_;rintro e' w'⟨rfl,U',k1,k2,k3⟩;have dF:∀i,Ux i=1->¬ Am Ux (Cs 0 ((Fz f j a8).take j)) c.ns.length i:=fun i hi hx=>by unfold Am at hx;omega
    refine⟨rfl,Ac ⟨U',k2.blk x1 (dF b x2),by rw[k3 b (Ad x1)];exact x2,x3.keep2 k2 dF (fun i hi e=>by rw[k3 i hi];exact e),?_,?_,x6.keep k2 dF (fun i hi e=>by rw[k3 i hi];exact e),fun i hi=>by rw[k3 i (AZ hi x5.size),x7 i hi]⟩⟩
    ·rw[Qc hc]
     refine ChsAt.set k3 x4 (L2 hc) s7 (Y7 f _ _) k2 ?_;rw[BV];exact k1
    ·refine x5.comp k2 (fun i hi hn hx=>hn ?_)
     rw[<-x7 i hi];unfold Am at hx;omega
   clear hA hch x1 x2 x3 x4 x5 x6 x7 ag
   go_wp2_with (go_at_call 71;refine gz.mono ?_;rintro e' w2⟨rfl,hK2⟩)
   go_roundw
   case rel=>exact⟨j+1,by omega,by go_num,hK2⟩
   case measure=>simp[intOf];omega
  ·have hd:decide (j<bs.length)=false:=by simpa using hlt
   have e:Fz f j a8=a8.map (Ij f):=by
    unfold Fz;rw[CA (by have:=Aa iL;omega),IX (by have:=Aa iL;omega),BM]
   rw[e] at x4;have HF:=Ac (show ∃U',NetAt U' b (a8.map (Ij f)) wr/\GrS (fun i=>4<=U i) w wr/\FtAt U' f wr/\∀i,i<w.heap.size->U' i=U i from⟨Ux,⟨_,bs,x1,x2,x3,x4⟩,x5,x6,x7⟩);clear x1 x2 x3 x4 x5 x6 x7 e;go_wp2;go_end0
   exact⟨rfl,Aa HF⟩
end Go.Proofs.YtolhbeekfjnfmaaGreatDoor

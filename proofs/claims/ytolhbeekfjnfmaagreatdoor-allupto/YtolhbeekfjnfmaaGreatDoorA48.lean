import Derived.Test.YtolhbeekfjnfmaaGreatDoorA47
set_option maxHeartbeats 8000000
set_option maxRecDepth 100000
namespace Go.Proofs.YtolhbeekfjnfmaaGreatDoor
open Go.RowKit Go.Proofs.Tryz
variable {F:List Ft}{c:Ch}{f:Ft}{j:Nat}{a8:List Ch}
theorem Zp(f:Ft)(ns:List Nd)(e:En):(Ud f ns e).1.length=ns.length:=(G3 f _ _).trans (AY ..)
theorem Good.filt{F:List Ft}:∀ {ss:List Site} {k:Nat} {ns:List Nd} {cs:List Q0A},Good F ss k ns cs->∀n∈ns,∃p:Ft->Bool,n.K=F.filter p
 |_,_,[],_,_,n,hn=>by simp at hn
 |_,_,_::_,[],h,_,_=>h.elim
 |ss,k,m::ns,c::cs,h,n,hn=>by
  obtain⟨_,_,hK,hg⟩:=h;rcases CQ.1 hn with rfl|hn
  ·exact⟨_,hK⟩
  ·exact Good.filt hg n hn
theorem Q1M.oneBlk(h:Q1M F)(p:Ft->Bool):Ga (F.filter p):=(List.Pairwise.imp (λh=>by omega) h).filter p
theorem Q1Y.apart{cs:List Q0A}(h:Q1Y F cs c)(hF:Q1M F)(hf:f∈F):∀n∈c.ns,Ga n.K/\∀g∈n.K,g.blk=f.blk->g.f=f.f:=by intro n hn;obtain⟨p,hp⟩:=h.good.filt n hn;rw[hp];exact⟨hF.oneBlk p,λg hg he=>by rw[hF.one (BI.1 hg).1 hf (.inr he)]⟩
def F9(f:Ft)(j:Nat)(a8:List Ch):List Ch:=(a8.take j).map (Iz f)++a8.drop j
theorem Mc(h:a8[j]?=some c):(F9 f j a8)[j]?=some c:=by have hl:=(AK.1 h).1;unfold F9;rw[DZ (by simp;omega)];simp[Nat.min_eq_left (Nat.le_of_lt hl),h]
theorem Qr(h:a8[j]?=some c):F9 f (j+1) a8=(F9 f j a8).set j (Iz f c):=by
 have hl:=(AK.1 h).1;have hd:a8.drop j=c::a8.drop (j+1):=by rw[CO hl,(AK.1 h).2]
 unfold F9;rw[IB _ _ (by simp;omega),CX,h,hd];simp[Nat.min_eq_left (Nat.le_of_lt hl)]
theorem Xf(U:Nat->Nat)(b:Nat)(a8:List Ch)(f:Ft)(w:World)(hN:Q1O U b a8 w)(aI:∀c∈a8,Q4N c/\∀n∈c.ns,Ga n.K/\∀g∈n.K,g.blk=f.blk->g.f=f.f)(hf:Q0J U f w):Calls prog 47 #[.pointer (some ⟨b,0,none⟩),Ei f] w λe w'=>e=.returned (.tuple #[])/\∃U',Q1O U' b (a8.map (Iz f)) w'/\GrS (λi=>4<=U i) w w'/\Q0J U' f w'/\∀i,i<w.heap.size->U' i=U i:=by
 obtain⟨cv,bs,h1,h2,h3,h4⟩:=hN;obtain⟨ao,cap,rfl⟩:=h3.1.slice;have dE:=h3.1.le;unfold maxLen at dE;have sV:=h4.len;have c0:w.cell? ⟨b,0,none⟩=some (.slice ao bs.length cap):=by simp[World.cell?,h1]
 have HI:=Ac (show ∃U',w.heap[b]?=some (.cells #[.slice ao bs.length cap] 133 (0,0))/\U' b=1/\Q0Q U' 1 134 1 P5 (.slice ao bs.length cap) bs w/\Q0Y U' 0 0 (F9 f 0 a8) bs w/\GrS (λi=>4<=U i) w w/\Q0J U' f w/\∀i,i<w.heap.size->U' i=U i from⟨U,h1,h2,h3,by simpa[F9]using h4,GrS.refl _ _,hf,λ_ _=>rfl⟩);have fj:=Ac aI;have iQ:=Ac sV;clear h1 h2 h3 h4 hf aI sV;unfold Ei;go_enter func47,ntmps47;go_wp2;clear c0;go_loopw [11] (λx w'=>∃j:Nat,j<=bs.length/\x=.int .i64 j/\Hid (∃U',w'.heap[b]?=some (.cells #[.slice ao bs.length cap] 133 (0,0))/\U' b=1/\Q0Q U' 1 134 1 P5 (.slice ao bs.length cap) bs w'/\Q0Y U' 0 0 (F9 f j a8) bs w'/\GrS (λi=>4<=U i) w w'/\Q0J U' f w'/\∀i,i<w.heap.size->U' i=U i)) (λx _=>bs.length-(intOf x).toNat);case atStart=>exact⟨0,AG _,rfl,HI⟩
 case round=>clear HI;obtain⟨j,hj,rfl,HK⟩:=hrel;obtain⟨Ux,x1,x2,x3,x4,x5,x6,x7⟩:=Aa HK;clear HK;by_cases hlt:j<bs.length;{(have hd:decide (j<bs.length)=true:=by simpa using hlt);(have hlc:j<a8.length:=by rw[<-Aa iQ];exact hlt);(obtain⟨c,hc⟩:∃c,a8[j]?=some c:=⟨_,AB hlc⟩);obtain⟨bj,uC,hch⟩:=x4.get (Mc (f:=f) hc);obtain⟨g,cap',e1,c1⟩:=PsAt.cell x3.1 uC;simp only[AH,BP]at e1;obtain⟨rfl,rfl⟩:=e1;have aY:=Aa fj c (AW hc);rw[BU]at hch;have hA:=V1 j c.jn Ux _ bj c.ns c.e f wr hch aY.1.wf aY.1.en aY.1.bd aY.1.few x6 aY.2;(have iN:Calls prog 71 #[.pointer (some ⟨bj,0,none⟩),.pointer (some ⟨f.blk,0,none⟩)] wr λe' w'=>e'=.returned (.tuple #[])/\Hid (∃U',w'.heap[b]?=some (.cells #[.slice (some ⟨g,0,none⟩) bs.length cap] 133 (0,0))/\U' b=1/\Q0Q U' 1 134 1 P5 (.slice (some ⟨g,0,none⟩) bs.length cap) bs w'/\Q0Y U' 0 0 (F9 f (j+1) a8) bs w'/\GrS (λi=>4<=U i) w w'/\Q0J U' f w'/\∀i,i<w.heap.size->U' i=U i):=by(refine hA.mono ?_;rintro e' w'⟨rfl,U',k1,k2,k3⟩;have dM:∀i,Ux i=1->¬ Am Ux (Cd 0 ((F9 f j a8).take j)) c.ns.length i:=λi hi hx=>by unfold Am at hx;omega);refine⟨rfl,Ac ⟨U',k2.blk x1 (dM b x2),by rw[k3 b (Ad x1)];exact x2,x3.keep2 k2 dM (λi hi e=>by rw[k3 i hi];exact e),?_,?_,x6.keep k2 dM (λi hi e=>by rw[k3 i hi];exact e),λi hi=>by rw[k3 i (AV hi x5.size),x7 i hi]⟩⟩;{rw[Qr hc];refine Q0Y.set k3 x4 (Mc hc) uC (Zp f _ _) k2 ?_;rw[BU];exact k1};{refine x5.comp k2 (λi hi hn hx=>hn ?_);rw[<-x7 i hi];unfold Am at hx;omega});clear hA hch x1 x2 x3 x4 x5 x6 x7 aY;go_wp2_with (go_at_call 71;refine iN.mono ?_;rintro e' w2⟨rfl,hK2⟩);go_roundw;(case rel=>exact⟨j+1,by omega,by go_num,hK2⟩);case measure=>simp[intOf];omega};{(have hd:decide (j<bs.length)=false:=by simpa using hlt);(have e:F9 f j a8=a8.map (Iz f):=by unfold F9;rw[BX (by have:=Aa iQ;omega),JB (by have:=Aa iQ;omega),BM]);rw[e]at x4;have HF:=Ac (show ∃U',Q1O U' b (a8.map (Iz f)) wr/\GrS (λi=>4<=U i) w wr/\Q0J U' f wr/\∀i,i<w.heap.size->U' i=U i from⟨Ux,⟨_,bs,x1,x2,x3,x4⟩,x5,x6,x7⟩);clear x1 x2 x3 x4 x5 x6 x7 e;go_wp2;go_end0;exact⟨rfl,Aa HF⟩}
end Go.Proofs.YtolhbeekfjnfmaaGreatDoor

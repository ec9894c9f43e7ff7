import Derived.BigRegion
import Derived.Test.YtolhbeekfjnfmaaGreatDoorM18
set_option maxHeartbeats 8000000
set_option maxRecDepth 100000
namespace Go.Proofs.YtolhbeekfjnfmaaGreatDoor
open Go.RowKit
variable {g cap b o:Nat}{l:List Tok}{w:World}{U:Nat->Nat}
theorem Mk:∀(l:List Tok) (i:Nat) (a:Tok) (x0 x1 x2 x3:Value),i<l.length->A5 a=[x0,x1,x2,x3]->
  (l.set i a).flatMap A5=((((l.flatMap A5).set (i*4) x0).set (i*4+1) x1).set (i*4+2) x2).set (i*4+3) x3
 | [],i,a,x0,x1,x2,x3,h,_=>by simp at h
 | b::l,0,a,x0,x1,x2,x3,_,ha=>by
  obtain⟨c0,c1,c2,c3,hb⟩:=Ni (Br b);rw[IK,BI,BI,ha,hb];rfl
 | b::l,i+1,a,x0,x1,x2,x3,h,ha=>by
  have ih:=Mk l i a x0 x1 x2 x3 (by simpa using h) ha;obtain⟨c0,c1,c2,c3,hb⟩:=Ni (Br b);rw[FK,BI,BI,ih,hb];rw[show (i+1)*4=i*4+1+1+1+1 from by omega,show i*4+1+1+1+1+1=(i*4+1)+1+1+1+1 from by omega,show i*4+1+1+1+1+2=(i*4+2)+1+1+1+1 from by omega,show i*4+1+1+1+1+3=(i*4+3)+1+1+1+1 from by omega];rfl
def Si(w:World)(g o:Nat)(x0 x1 x2 x3:Value):World:=(((w.setCell ⟨g,o,none⟩ x0).setCell ⟨g,o+1,none⟩ x1).setCell ⟨g,o+2,none⟩ x2).setCell ⟨g,o+3,none⟩ x3
theorem K5(w:World)(g o:Nat)(x0 x1 x2 x3:Value):w.grownBy (Si w g o x0 x1 x2 x3) (some g):=Ab (Ab (Ab (Aj w g o x0) (Aj _ g (o+1) x1)) (Aj _ g (o+2) x2)) (Aj _ g (o+3) x3)
theorem ToksAt.stored{n:Nat}(h:ToksAt (.slice (some ⟨g,0,none⟩) n cap) l w)(i:Nat)(a:Tok)(hi:i<l.length){x0 x1 x2 x3:Value}(ha:A5 a=[x0,x1,x2,x3]) :
  ToksAt (.slice (some ⟨g,0,none⟩) n cap) (l.set i a) (Si w g (i*4) x0 x1 x2 x3):=by
 have hn:=h.len;subst hn;have h1:=(DY h.2 (i*4) x0).1;have h2:=(DY h1 (i*4+1) x1).1;have h3:=(DY h2 (i*4+2) x2).1;have h4:=(DY h3 (i*4+3) x3).1;refine⟨h.1,?_⟩;rw[FM,Mk l i a x0 x1 x2 x3 hi ha];exact h4
theorem Kj(b o:Nat)(g cap:Nat)(l:List Tok)(i j:Nat)(w:World)(hb:w.cell? ⟨b,o,none⟩=some (.slice (some ⟨g,0,none⟩) l.length cap))(hbg:b≠g)(hr:ToksAt (.slice (some ⟨g,0,none⟩) l.length cap) l w)(hi:i<l.length)(hj:j<l.length) :
  Calls Tryz.prog 262 #[.pointer (some ⟨b,o,none⟩),.int .i64 i,.int .i64 j] w fun e w'=>e=.returned (.tuple #[])/\w.grownBy w' (some g)/\ToksAt (.slice (some ⟨g,0,none⟩) l.length cap) (Hp.swap l i j) w':=by
 obtain⟨t,ht⟩:∃t,l[i]?=some t:=⟨_,AB hi⟩
 obtain⟨u,hu⟩:∃u,l[j]?=some u:=⟨_,AB hj⟩
 obtain⟨p0,p1,p2,p3,hp⟩:=A9 t;obtain⟨q0,q1,q2,q3,hq⟩:=A9 u;obtain⟨g',cap',e1,a0,a1,a2,a3⟩:=Bu hr ht hp;simp only[AH,AE,BK,BX,BP] at e1;obtain⟨rfl,rfl⟩:=e1;obtain⟨g',cap',e1,c0,c1,c2,c3⟩:=Bu hr hu hq;simp only[AH,AE,BK,BX,BP] at e1;obtain⟨rfl,rfl⟩:=e1;have hsw:Hp.swap l i j=(l.set i u).set j t:=by unfold Hp.swap;rw[ht,hu]
 have hr1:=hr.stored i u hi hq;have hr2:=hr1.stored j t (by simpa using hj) hp;have hg1:=K5 w g (i*4) (.pointer q0) (.pointer q1) (.pointer q2) (.pointer q3);have hg2:=K5 (Si w g (i*4) (.pointer q0) (.pointer q1) (.pointer q2) (.pointer q3)) g (j*4) (.pointer p0) (.pointer p1) (.pointer p2) (.pointer p3);have ar:=Ab hg1 hg2;obtain⟨u',uw⟩:∃u',(l.set i u)[j]?=some u':=⟨_,AB (by simpa using hj)⟩
 obtain⟨s0,s1,s2,s3,hs⟩:=A9 u';have yr:ToksAt (.slice (some ⟨g,0,none⟩) (l.set i u).length cap) (l.set i u) (Si w g (i*4) (.pointer q0) (.pointer q1) (.pointer q2) (.pointer q3)):=by rw[FM];exact hr1
 obtain⟨g',cap',e1,d0,d1,d2,d3⟩:=Bu yr uw hs;simp only[AH,AE,BK,BX] at e1;obtain⟨rfl,_,rfl⟩:=e1;have z0:=hr.fz;have z1:=hr1.fz;have b1:=hg1.cell hb (by simpa using hbg);have cD:=Ac hr2;have HGG:=Ac ar;have HSW:=Ac hsw;have l0:(0:Int)<=(i:Int):=by omega
 have l1:(i:Int)<(l.length:Int):=by omega
 have l2:(0:Int)<=(j:Int):=by omega
 have l3:(j:Int)<(l.length:Int):=by omega
 have cj:=hr.le;unfold maxLen at cj;clear hr hr1 hr2 hg1 hg2 ar hsw ht hu uw hs hp hq yr;simp only[Si] at d0 d1 d2 d3 b1 z1;go_enter Tryz.func262,Tryz.ntmps262;go_wp2_with fail
 go_region
 all_goals
  go_wp2_with fail;go_end0
  exact⟨rfl,Ah (Aa HGG),by rw[Aa HSW];exact(Aa cD).gr (Ah (AD _ _))⟩
theorem Ra(b o:Nat)(ao:Option Addr)(n cap:Nat)(w:World)(hb:w.cell? ⟨b,o,none⟩=some (.slice ao n cap)) :
  Calls Tryz.prog 258 #[.pointer (some ⟨b,o,none⟩)] w fun e w'=>e=.returned (.int .i64 n)/\w'=w:=by
 go_enter Tryz.func258,Tryz.ntmps258;go_wp2;go_ret;exact⟨rfl,rfl⟩
theorem Tryz.asTok(xT:TypeId)(v:Value)(w:World):(Instr.typeAssert (.iface 139 v) xT 139 false).run Tryz.prog w=.ok v w:=by
 simp[Instr.typeAssert,run_underlying Tryz.underlying139]
theorem Q1f(b o:Nat)(v:Value)(cs:Array Value)(ty:TypeId)(toks:List Tok)(t:Tok)(w:World)(hb:w.heap[b]?=some (.cells cs ty (0,0)))(ho:cs[o]?=some v)(hr:ToksAt v toks w)(hne:v.ownBlock≠some b)(hlen:toks.length<=1000000000) :
  Calls Tryz.prog 261 #[.pointer (some ⟨b,o,none⟩),.iface 139 (Bt t)] w fun e w'=>e=.returned (.tuple #[])/\KeepPost b o v cs ty toks t w w':=by
 have hS:=R2 b o v cs ty toks t;obtain⟨pa,pb,pc,pd,hT⟩:=A9 t;have eT:Bt t=.agg #[.pointer pa,.pointer pb,.pointer pc,.pointer pd]:=by unfold Bt;rw[hT]
 rw[eT] at hS⊢
 have wO:∀wx,w.grownBy wx none->Calls Tryz.prog 242 #[.pointer (some ⟨b,o,none⟩),.agg #[.pointer pa,.pointer pb,.pointer pc,.pointer pd]] wx fun e w'=>e=.returned (.tuple #[])/\KeepPost b o v cs ty toks t wx w':=
  fun wx hg=>hS wx (by rw[hg.block b (Ad hb) (by simp)];exact hb) ho (hr.gr hg) hne hlen
 clear hS hT eT hb ho hr hne hlen;have hAs:=Tryz.asTok;go_enter Tryz.func261,Tryz.ntmps261;go_wp2_with fail
 go_region_with (go_at_call 242;refine(wO _ (by repeat (first|exact AD _ _|apply Ah))).mono ?_;rintro e w1⟨rfl,hk⟩)
 all_goals
  go_wp2_with fail;go_end0
  obtain⟨v',k1,k2,k3,k4⟩:=hk;exact⟨rfl,v',k1,k2,⟨k3.os,k3.tape,k3.output,k3.size,k3.block⟩,k4⟩
theorem Tryz.mLess(v:Value)(w:World):(Go.method 482 221 v "Less").run Tryz.prog w=.ok (259,v) w:=by kernel_rfl
theorem Tryz.mSwap(v:Value)(w:World):(Go.method 482 221 v "Swap").run Tryz.prog w=.ok (262,v) w:=by kernel_rfl
theorem Tryz.mLen(v:Value)(w:World):(Go.method 482 221 v "Len").run Tryz.prog w=.ok (258,v) w:=by kernel_rfl
theorem Tryz.mPush(v:Value)(w:World):(Go.method 482 221 v "Push").run Tryz.prog w=.ok (261,v) w:=by kernel_rfl
theorem Tryz.mPop(v:Value)(w:World):(Go.method 482 221 v "Pop").run Tryz.prog w=.ok (260,v) w:=by kernel_rfl
structure AgAt(U:Nat->Nat)(b o g cap:Nat)(l:List Tok)(w:World):Prop where
 cell:w.cell? ⟨b,o,none⟩=some (.slice (some ⟨g,0,none⟩) l.length cap)
 ne:b≠g
 row:ToksAt (.slice (some ⟨g,0,none⟩) l.length cap) l w
 own:U g≠1
 toks:∀t∈l,t.length<=4/\∀x∈t,FtAt U x w
theorem AgAt.gr{U:Nat->Nat}{b o g cap:Nat}{l:List Tok}{w w':World}(h:AgAt U b o g cap l w)(hg:w.grownBy w' none):AgAt U b o g cap l w':=
 ⟨hg.cell h.cell (by simp),h.ne,h.row.gr hg,h.own,fun t ht=>⟨(h.toks t ht).1,fun x hx=>((h.toks t ht).2 x hx).gr hg⟩⟩
theorem AgAt.swapped{w':World}(h:AgAt U b o g cap l w)(hg:w.grownBy w' (some g)){i j:Nat}(hr:ToksAt (.slice (some ⟨g,0,none⟩) l.length cap) (Hp.swap l i j) w'):AgAt U b o g cap (Hp.swap l i j) w':=by
 have hl:(Hp.swap l i j).length=l.length:=Hp.swap_len l i j;refine⟨?_,h.ne,?_,h.own,fun t ht=>?_⟩
 ·rw[hl];exact hg.cell h.cell (by have:=h.ne;simpa using this)
 ·rw[hl];exact hr
 ·have hm:=(Hp.swap_perm l i j).mem_iff.1 ht
  refine⟨(h.toks t hm).1,fun x hx=>((h.toks t hm).2 x hx).keep (S:=fun k=>k=g) (GrS.of hg (fun k hk=>by simp at hk;exact hk.symm)) (fun k hk e=>h.own (by rw[<-e];exact hk)) (fun _ _ h=>h)⟩
theorem AgAt.max(h:AgAt U b o g cap l w):l.length<=9223372036854775807:=by
 have:=h.row.le;unfold maxLen at this;omega
theorem AgAt.less{U:Nat->Nat}{b o g cap:Nat}{l:List Tok}{w:World}(h:AgAt U b o g cap l w){i j:Nat}(hi:i<l.length)(hj:j<l.length) :
  Calls Tryz.prog 259 #[.pointer (some ⟨b,o,none⟩),.int .i64 i,.int .i64 j] w fun e w'=>e=.returned (.bool (Hp.lt Tok.less l i j))/\w.grownBy w' none:=by
 have h1:=AB hi;have h2:=AB hj;have:=Q1e U b o _ l i j _ _ w h.cell h.row h1 h2 (h.toks _ (FW hi)).1 (h.toks _ (FW hj)).1 (h.toks _ (FW hi)).2 (h.toks _ (FW hj)).2;rw[Hp.lt_get h1 h2];exact this
theorem Q4q(U:Nat->Nat)(b o g cap:Nat)(l:List Tok)(j:Nat)(w:World)(h:AgAt U b o g cap l w)(hj:j<l.length) :
  Calls Tryz.prog 249 #[.iface 221 (.pointer (some ⟨b,o,none⟩)),.int .i64 j] w fun e w'=>e=.returned (.tuple #[])/\w.grownBy w' (some g)/\AgAt U b o g cap (Hp.up Tok.less l j) w':=by
 obtain⟨R,hR⟩:∃R,Hp.up Tok.less l j=R:=⟨_,rfl⟩
 rw[hR];have HR:=Ac hR;have HH:=Ac h;have hmax:=h.max;have HJ:=Ac hj;clear hR h hj;have mL:=Tryz.mLess;have mS:=Tryz.mSwap;go_enter Tryz.func249,Tryz.ntmps249;go_wp2;go_loopw [1] (fun x w'=>∃(k:Nat) (m:List Tok),x=.int .i64 k/\Hid (k<m.length/\m.length=l.length/\Hp.up Tok.less m k=R/\w.grownBy w' (some g)/\AgAt U b o g cap m w')) (fun x _=>(intOf x).toNat)
 case atStart=>exact⟨j,l,rfl,Ac ⟨Aa HJ,rfl,Aa HR,AD _ _,Aa HH⟩⟩
 case round=>
  clear HR HH HJ;obtain⟨k,m,rfl,HK⟩:=hrel;have vU:k<9223372036854775807:=by have:=Aa HK;omega
  by_cases h0:k=0
  ·subst h0
   obtain⟨_,_,e1,hg,hA⟩:=Aa HK;unfold Hp.up at e1;rw[dif_pos rfl] at e1;subst e1;go_wp2;go_end0
   exact⟨rfl,hg,hA⟩
  ·obtain⟨hk,cG,e1,hg,hA⟩:=Aa HK
   obtain⟨p,hp⟩:∃p,(k-1) / 2=p:=⟨_,rfl⟩
   have PB:p<k:=by omega
   have ZB:Int.tdiv ((k:Int)-1) 2=(p:Int):=by
    rw[<-hp,show ((k:Int)-1)=((k-1:Nat):Int) from by omega,IG (by omega)];omega
   have hne:((p:Int)==(k:Int))=false:=by simp;omega
   have hL:=hA.less hk (show p<m.length by omega);unfold Hp.up at e1;rw[dif_neg h0,hp] at e1;obtain⟨r,hr⟩:∃r,Hp.lt Tok.less m k p=r:=⟨_,rfl⟩
   rw[hr] at e1 hL;have HE:=Ac e1;have HG:=Ac hg;have HA:=Ac hA;have HP:=Ac hp;clear e1 hr hg hA HK hp;go_wp2_with fail;refine hL.mono ?_;rintro e w1⟨rfl,hg1⟩;have fY:=(Aa HA).gr hg1;have ae:=Ab (Aa HG) (A6 hg1 (some g));have xL:=Aa HE;clear hL hg1 HA HG HE;cases r with
   | false=>
    rw[AO (by simp)] at xL;subst xL;go_wp2;go_end0
    exact⟨rfl,ae,fY⟩
   | true=>
    rw[AQ rfl] at xL;have hS:=Kj b o g cap m p k w1 fY.cell fY.ne fY.row (by omega) hk;have OL:=Ac fY;have oU:=Ac xL;clear fY xL;go_wp2_with fail;refine hS.mono ?_;rintro e w2⟨rfl,hg2,hr2⟩;have gz:=(Aa OL).swapped hg2 hr2;have bW:=Ab ae hg2;have HR:=Ac (show p<(Hp.swap m p k).length/\(Hp.swap m p k).length=l.length/\Hp.up Tok.less (Hp.swap m p k) p=R/\w.grownBy w2 (some g)/\AgAt U b o g cap (Hp.swap m p k) w2 from⟨by rw[Hp.swap_len];omega,by rw[Hp.swap_len];exact cG,Aa oU,bW,gz⟩);clear hS hg2 hr2 gz bW OL oU ae hk cG;go_wp2;go_roundw
    case rel=>exact⟨p,_,rfl,HR⟩
    case measure=>simp[intOf];omega
theorem ToksAt.lies{v:Value}(h:ToksAt v l w)(hl:0<l.length):∃g cap,v=.slice (some ⟨g,0,none⟩) l.length cap:=by
 rcases h.2.2 with ⟨_,h2⟩|⟨g,cap,cur,h1,_⟩
 ·omega
 ·exact⟨g,cap,h1⟩
def PutPost(b o:Nat)(v:Value)(cs:Array Value)(ty:TypeId)(l:List Tok)(t:Tok)(w w':World):Prop:=
 ∃v',w'.heap[b]?=some (.cells (cs.setIfInBounds o v') ty (0,0))/\ToksAt v' (Hp.push Tok.less l t) w'/\GrS (fun k=>k=b\/v.ownBlock=some k) w w'/\∀g,v'.ownBlock=some g->v.ownBlock=some g\/w.heap.size<=g
theorem Q1z(U:Nat->Nat)(b o:Nat)(v:Value)(cs:Array Value)(ty:TypeId)(l:List Tok)(t:Tok)(w:World)(hb:w.heap[b]?=some (.cells cs ty (0,0)))(ho:cs[o]?=some v)(hr:ToksAt v l w)(hne:v.ownBlock≠some b)(hlen:l.length<=1000000000)
 (og:U b≠1)(qT:∀g,v.ownBlock=some g->U g≠1)(hl4:∀x∈l,x.length<=4/\∀y∈x,FtAt U y w)(dR:t.length<=4/\∀y∈t,FtAt U y w) :
  Calls Tryz.prog 246 #[.iface 221 (.pointer (some ⟨b,o,none⟩)),.iface 139 (Bt t)] w fun e w'=>e=.returned (.tuple #[])/\PutPost b o v cs ty l t w w':=by
 have hS:=Q1f b o v cs ty l t w hb ho hr hne hlen;obtain⟨x,hx⟩:∃x,Bt t=x:=⟨_,rfl⟩
 rw[hx] at hS⊢;have pN:o<cs.size:=(CU.1 ho).1;have HB:=Ac hb;have HO:=Ac ho;have HV:=Ac qT;have HL:=Ac hl4;have HT:=Ac dR;have jh:=Ac hne;clear hb ho hr hne qT hl4 dR hx;have mP:=Tryz.mPush;have mN:=Tryz.mLen;go_enter Tryz.func246,Tryz.ntmps246;go_wp2_with fail;refine hS.mono ?_;rintro e w1⟨rfl,v',hb1,hr1,ae,hown⟩;obtain⟨g,cap,rfl⟩:=hr1.lies (by simp);rw[AK,BC] at hb1 hr1 hown
 have hc1:w1.cell? ⟨b,o,none⟩=some (.slice (some ⟨g,0,none⟩) (l.length+1) cap):=by
  simp[World.cell?,hb1];rw[GW,AQ rfl,AQ pN]
 have hbg:b≠g:=by
  rintro rfl;rcases hown b rfl with h|h
  ·exact Aa jh h
  ·have:=Ad (Aa HB);omega
 obtain⟨U',oK⟩:∃U':Nat->Nat,∀k,U' k=if k<w.heap.size then U k else 0:=⟨_,fun _=>rfl⟩
 have cZ:∀y,FtAt U y w->FtAt U' y w1:=fun y hy=>hy.keep ae (fun k hk=>by rintro(rfl|h);exact og hk;exact Aa HV k h hk) (fun k hk hk2=>by rw[oK k,AQ hk];exact hk2)
 have hA:AgAt U' b o g cap (l++[t]) w1:=by
  refine⟨by rw[AK,BC];exact hc1,hbg,by rw[AK,BC];exact hr1,?_,?_⟩
  ·rw[oK]
   split
   ·rename_i h
    rcases hown g rfl with k|k
    ·exact Aa HV g k
    ·omega
   ·simp
  ·intro y hy
   rcases AY.1 hy with hy|hy
   ·exact⟨(Aa HL y hy).1,fun z hz=>cZ z ((Aa HL y hy).2 z hz)⟩
   ·simp only[AX] at hy
    subst hy;exact⟨(Aa HT).1,fun z hz=>cZ z ((Aa HT).2 z hz)⟩
 have hN:=Ra b o _ _ cap w1 hc1;have hUp:=Q4q U' b o g cap (l++[t]) l.length w1 hA (by simp);have HF:=Ac (show w1.heap[b]?=some (.cells (cs.setIfInBounds o (.slice (some ⟨g,0,none⟩) (l.length+1) cap)) ty (0,0))/\GrS (fun k=>k=b\/v.ownBlock=some k) w w1/\(v.ownBlock=some g\/w.heap.size<=g) from⟨hb1,ae,hown g rfl⟩);clear hS hb1 hr1 ae hown hA cZ oK hc1;go_wp2_with fail;refine hN.mono ?_;rintro e w2⟨rfl,rfl⟩;clear hN;go_wp2_with fail;refine hUp.mono ?_;rintro e w3⟨rfl,hg3,wh⟩;clear hUp;go_wp2;go_end0
 obtain⟨f1,f2,f3⟩:=Aa HF;refine⟨rfl,.slice (some ⟨g,0,none⟩) (l.length+1) cap,?_,?_,f2.then hg3 (fun k hk=>?_),?_⟩
 ·rw[hg3.block b (Ad f1) (by simpa using hbg)];exact f1
 ·have:=wh.row
  rw[show (Hp.up Tok.less (l++[t]) l.length).length=l.length+1 from by rw[(Hp.up_perm _ _ _).length_eq];simp] at this;exact this
 ·simp only[AE] at hk
  subst hk;rcases f3 with h|h
  ·exact .inr (.inr h)
  ·exact .inl h
 ·intro k hk
  simp only[Value.ownBlock,AE] at hk;subst hk;exact f3
theorem Q4t(U:Nat->Nat)(b o:Nat)(v:Value)(cs:Array Value)(ty:TypeId)(l:List Tok)(t:Tok)(w:World)(hb:w.heap[b]?=some (.cells cs ty (0,0)))(ho:cs[o]?=some v)(hr:ToksAt v l w)(hne:v.ownBlock≠some b)(hlen:l.length<=1000000000)
 (og:U b≠1)(qT:∀g,v.ownBlock=some g->U g≠1)(hl4:∀x∈l,x.length<=4/\∀y∈x,FtAt U y w)(dR:t.length<=4/\∀y∈t,FtAt U y w) :
  Calls Tryz.prog 243 #[.pointer (some ⟨b,o,none⟩),Bt t] w fun e w'=>e=.returned (.tuple #[])/\PutPost b o v cs ty l t w w':=by
 obtain⟨pa,pb,pc,pd,hT⟩:=A9 t;have eT:Bt t=.agg #[.pointer pa,.pointer pb,.pointer pc,.pointer pd]:=by unfold Bt;rw[hT]
 have a7:=AA w (.cells #[.pointer pa,.pointer pb,.pointer pc,.pointer pd] 139) none;have hS:=Q1z U b o v cs ty l t (w.alloc (.cells #[.pointer pa,.pointer pb,.pointer pc,.pointer pd] 139)) (by rw[a7.block b (Ad hb) (by simp)];exact hb) ho (hr.gr a7) hne hlen og qT (fun x hx=>⟨(hl4 x hx).1,fun y hy=>((hl4 x hx).2 y hy).gr a7⟩) ⟨dR.1,fun y hy=>(dR.2 y hy).gr a7⟩;rw[eT] at hS⊢;have HG:=Ac a7;clear hb ho hr hne qT hl4 dR hT eT a7;go_enter Tryz.func243,Tryz.ntmps243;go_wp2_with fail;refine hS.mono ?_;rintro e w1⟨rfl,v',h1,h2,h3,h4⟩;clear hS;go_wp2;go_end0
 refine⟨rfl,v',h1,h2,?_,fun g hg=>?_⟩
 ·exact(GrS.of (Aa HG) (by simp)).trans h3
 ·rcases h4 g hg with h|h
  ·exact .inl h
  ·exact .inr (AU (Aa HG).size h)
theorem V9(U:Nat->Nat)(b o g cap:Nat)(l:List Tok)(i n:Nat)(w:World)(h:AgAt U b o g cap l w)(hi:i<l.length)(hn:n<=l.length)(hlen:l.length<=2000000000) :
  Calls Tryz.prog 145 #[.iface 221 (.pointer (some ⟨b,o,none⟩)),.int .i64 i,.int .i64 n] w fun e w'=>∃r,e=.returned (.bool r)/\w.grownBy w' (some g)/\AgAt U b o g cap (Hp.down Tok.less n l i) w':=by
 obtain⟨R,hR⟩:∃R,Hp.down Tok.less n l i=R:=⟨_,rfl⟩
 rw[hR];have HR:=Ac hR;have HH:=Ac h;clear hR h;have mL:=Tryz.mLess;have mS:=Tryz.mSwap;go_enter Tryz.func145,Tryz.ntmps145;go_wp2;go_loopw [7] (fun x w'=>∃(k:Nat) (m:List Tok),x=.int .i64 k/\Hid (k<l.length/\m.length=l.length/\Hp.down Tok.less n m k=R/\w.grownBy w' (some g)/\AgAt U b o g cap m w')) (fun x _=>n-(intOf x).toNat)
 case atStart=>exact⟨i,l,rfl,Ac ⟨hi,rfl,Aa HR,AD _ _,Aa HH⟩⟩
 case round=>
  clear HR HH;obtain⟨k,m,rfl,HK⟩:=hrel;obtain⟨hk,cG,e1,hg,hA⟩:=Aa HK;have vU:k<m.length:=by omega
  clear HK;unfold Hp.down at e1;by_cases h1:2*k+1<n
  ·rw[dif_pos h1] at e1
   have td:decide ((n:Int)<=2*(k:Int)+1)=false:=by simp;omega
   have xh:decide (2*(k:Int)+1<0)=false:=by simp;omega
   by_cases h2:2*k+2<n
   ·have bZ:decide (2*(k:Int)+1+1<(n:Int))=true:=by simp;omega
    have eY:=hA.less (show 2*k+2<m.length by omega) (show 2*k+1<m.length by omega);obtain⟨r1,hr1⟩:∃r1,Hp.lt Tok.less m (2*k+2) (2*k+1)=r1:=⟨_,rfl⟩
    rw[hr1] at eY;rw[show ((2*k+2:Nat):Int)=2*(k:Int)+1+1 from by omega,show ((2*k+1:Nat):Int)=2*(k:Int)+1 from by omega] at eY;have lH:=Ac hr1;have OM:=Ac hA;have HE0:=Ac e1;clear hA e1 hr1;go_wp2_with fail;refine eY.mono ?_;rintro e w4⟨rfl,hg4⟩;have hA:=(Aa OM).gr hg4;have fw:=Ab hg (A6 hg4 (some g));have e1:=Aa HE0;clear eY hg4 OM HE0;cases r1 with
    | false=>
     have hK:Hp.kid Tok.less n m k=2*k+1:=by unfold Hp.kid;rw[Aa lH,AO (by simp)]
     rw[hK] at e1;have hL2:=hA.less (show 2*k+1<m.length by omega) vU;obtain⟨r2,hr2⟩:∃r2,Hp.lt Tok.less m (2*k+1) k=r2:=⟨_,rfl⟩
     rw[hr2] at e1 hL2;rw[show ((2*k+1:Nat):Int)=2*(k:Int)+1 from by omega] at hL2;have HE:=Ac e1;have HA:=Ac hA;have hjn:2*k+1<n:=by omega
     clear hK e1 hr2 hA;go_wp2_with fail;refine hL2.mono ?_;rintro e w5⟨rfl,aY⟩;have fy:=(Aa HA).gr aY;have cC:=Ab fw (A6 aY (some g));have e1:=Aa HE;clear hL2 aY HA HE;cases r2 with
     | false=>
      rw[AO (by simp)] at e1;subst e1;go_wp2;go_ret;exact⟨_,rfl,cC,fy⟩
     | true=>
      rw[AQ rfl] at e1;have hS:=Kj b o g cap m k (2*k+1) w5 fy.cell fy.ne fy.row vU (by omega);rw[show ((2*k+1:Nat):Int)=2*(k:Int)+1 from by omega] at hS;have ud:=Ac fy;have oU:=Ac e1;clear fy e1;go_wp2_with fail;refine hS.mono ?_;rintro e w6⟨rfl,cX,ig⟩;have ql:=(Aa ud).swapped cX ig;have dh:=Ab cC cX;have HR:=Ac (show 2*k+1<l.length/\(Hp.swap m k (2*k+1)).length=l.length/\Hp.down Tok.less n (Hp.swap m k (2*k+1)) (2*k+1)=R/\w.grownBy w6 (some g)/\AgAt U b o g cap (Hp.swap m k (2*k+1)) w6 from⟨by omega,by rw[Hp.swap_len];exact cG,Aa oU,dh,ql⟩);clear hS cX ig ql dh ud oU cC;go_wp2;go_roundw
      case rel=>exact⟨2*k+1,_,by rw[show ((2*k+1:Nat):Int)=2*(k:Int)+1 from by omega],HR⟩
      case measure=>simp[intOf];omega
    | true=>
     have hK:Hp.kid Tok.less n m k=2*k+2:=by unfold Hp.kid;rw[Aa lH,AQ ⟨h2,rfl⟩]
     rw[hK] at e1;have hL2:=hA.less (show 2*k+2<m.length by omega) vU;obtain⟨r2,hr2⟩:∃r2,Hp.lt Tok.less m (2*k+2) k=r2:=⟨_,rfl⟩
     rw[hr2] at e1 hL2;rw[show ((2*k+2:Nat):Int)=2*(k:Int)+1+1 from by omega] at hL2;have HE:=Ac e1;have HA:=Ac hA;have hjn:2*k+2<n:=by omega
     clear hK e1 hr2 hA;go_wp2_with fail;refine hL2.mono ?_;rintro e w5⟨rfl,aY⟩;have fy:=(Aa HA).gr aY;have cC:=Ab fw (A6 aY (some g));have e1:=Aa HE;clear hL2 aY HA HE;cases r2 with
     | false=>
      rw[AO (by simp)] at e1;subst e1;go_wp2;go_ret;exact⟨_,rfl,cC,fy⟩
     | true=>
      rw[AQ rfl] at e1;have hS:=Kj b o g cap m k (2*k+2) w5 fy.cell fy.ne fy.row vU (by omega);rw[show ((2*k+2:Nat):Int)=2*(k:Int)+1+1 from by omega] at hS;have ud:=Ac fy;have oU:=Ac e1;clear fy e1;go_wp2_with fail;refine hS.mono ?_;rintro e w6⟨rfl,cX,ig⟩;have ql:=(Aa ud).swapped cX ig;have dh:=Ab cC cX;have HR:=Ac (show 2*k+2<l.length/\(Hp.swap m k (2*k+2)).length=l.length/\Hp.down Tok.less n (Hp.swap m k (2*k+2)) (2*k+2)=R/\w.grownBy w6 (some g)/\AgAt U b o g cap (Hp.swap m k (2*k+2)) w6 from⟨by omega,by rw[Hp.swap_len];exact cG,Aa oU,dh,ql⟩);clear hS cX ig ql dh ud oU cC;go_wp2;go_roundw
      case rel=>exact⟨2*k+2,_,by rw[show ((2*k+2:Nat):Int)=2*(k:Int)+1+1 from by omega],HR⟩
      case measure=>simp[intOf];omega
   ·have bZ:decide (2*(k:Int)+1+1<(n:Int))=false:=by simp;omega
    have hK:Hp.kid Tok.less n m k=2*k+1:=by unfold Hp.kid;rw[AO (fun q=>h2 q.1)]
    rw[hK] at e1;have hL2:=hA.less (show 2*k+1<m.length by omega) vU;obtain⟨r2,hr2⟩:∃r2,Hp.lt Tok.less m (2*k+1) k=r2:=⟨_,rfl⟩
    rw[hr2] at e1 hL2;rw[show ((2*k+1:Nat):Int)=2*(k:Int)+1 from by omega] at hL2;have HE:=Ac e1;have HA:=Ac hA;have hjn:2*k+1<n:=by omega
    clear hK e1 hr2 hA;go_wp2_with fail;refine hL2.mono ?_;rintro e w5⟨rfl,aY⟩;have fy:=(Aa HA).gr aY;have cC:=Ab hg (A6 aY (some g));have e1:=Aa HE;clear hL2 aY HA HE;cases r2 with
    | false=>
     rw[AO (by simp)] at e1;subst e1;go_wp2;go_ret;exact⟨_,rfl,cC,fy⟩
    | true=>
     rw[AQ rfl] at e1;have hS:=Kj b o g cap m k (2*k+1) w5 fy.cell fy.ne fy.row vU (by omega);rw[show ((2*k+1:Nat):Int)=2*(k:Int)+1 from by omega] at hS;have ud:=Ac fy;have oU:=Ac e1;clear fy e1;go_wp2_with fail;refine hS.mono ?_;rintro e w6⟨rfl,cX,ig⟩;have ql:=(Aa ud).swapped cX ig;have dh:=Ab cC cX;have HR:=Ac (show 2*k+1<l.length/\(Hp.swap m k (2*k+1)).length=l.length/\Hp.down Tok.less n (Hp.swap m k (2*k+1)) (2*k+1)=R/\w.grownBy w6 (some g)/\AgAt U b o g cap (Hp.swap m k (2*k+1)) w6 from⟨by omega,by rw[Hp.swap_len];exact cG,Aa oU,dh,ql⟩);clear hS cX ig ql dh ud oU cC;go_wp2;go_roundw
     case rel=>exact⟨2*k+1,_,by rw[show ((2*k+1:Nat):Int)=2*(k:Int)+1 from by omega],HR⟩
     case measure=>simp[intOf];omega
  ·rw[dif_neg h1] at e1
   subst e1;have td:decide ((n:Int)<=2*(k:Int)+1)=true:=by simp;omega
   have HA:=Ac hA;clear hA;go_wp2;go_ret;exact⟨_,rfl,hg,Aa HA⟩
theorem V8(U:Nat->Nat)(b o g cap:Nat)(l:List Tok)(w:World)(h:AgAt U b o g cap l w)(hlen:l.length<=2000000000) :
  Calls Tryz.prog 248 #[.iface 221 (.pointer (some ⟨b,o,none⟩))] w fun e w'=>e=.returned (.tuple #[])/\w.grownBy w' (some g)/\AgAt U b o g cap (Hp.init Tok.less l) w':=by
 obtain⟨R,hR⟩:∃R,Hp.init Tok.less l=R:=⟨_,rfl⟩
 rw[hR];unfold Hp.init at hR;have HR:=Ac hR;have HH:=Ac h;have hN:=Ra b o _ _ cap w h.cell;clear hR h;have mN:=Tryz.mLen;have hq:Int.tdiv (l.length:Int) 2=((l.length / 2:Nat):Int):=by rw[IG (by omega)];omega
 go_enter Tryz.func248,Tryz.ntmps248;go_wp2_with fail;refine hN.mono ?_;rintro e w1⟨rfl,rfl⟩;clear hN;go_wp2;go_loopw [3] (fun x w'=>∃(k:Nat) (m:List Tok),x=.int .i64 ((k:Int)-1)/\Hid (k<=l.length / 2/\m.length=l.length/\Hp.initF Tok.less k m=R/\w1.grownBy w' (some g)/\AgAt U b o g cap m w')) (fun x _=>(intOf x+1).toNat)
 case atStart=>exact⟨l.length / 2,l,rfl,Ac ⟨AW _,rfl,Aa HR,AD _ _,Aa HH⟩⟩
 case round=>
  clear HR HH;obtain⟨k,m,rfl,HK⟩:=hrel;obtain⟨hk,cG,e1,hg,hA⟩:=Aa HK;clear HK;cases k with
  | zero=>
   have e2:m=R:=e1;subst e2;have hd:decide ((0:Int)<=((0:Nat):Int)-1)=false:=by simp
   have HA:=Ac hA;clear hA e1;go_wp2;go_end0
   exact⟨rfl,hg,Aa HA⟩
  | succ k=>
   have hd:decide ((0:Int)<=((k+1:Nat):Int)-1)=true:=by simp
   have ek:(((k+1:Nat):Int)-1)=(k:Int):=by omega
   rw[ek] at hd;unfold Hp.initF at e1;have hD:=V9 U b o g cap m k l.length wr hA (by omega) (by omega) (by omega);rw[cG] at e1;have HE:=Ac e1;have HG:=Ac hg;clear e1 hg hA;rw[ek];go_wp2_with fail;refine hD.mono ?_;rintro e w2⟨r,rfl,hg2,gz⟩;have HR:=Ac (show k<=l.length / 2/\(Hp.down Tok.less l.length m k).length=l.length/\Hp.initF Tok.less k (Hp.down Tok.less l.length m k)=R/\w1.grownBy w2 (some g)/\AgAt U b o g cap (Hp.down Tok.less l.length m k) w2 from⟨by omega,by rw[Hp.down_len];exact cG,Aa HE,Ab (Aa HG) hg2,gz⟩);clear hD hg2 gz HE HG ek;go_wp2;go_roundw
   case rel=>exact⟨k,_,rfl,HR⟩
   case measure=>simp[intOf]
end Go.Proofs.YtolhbeekfjnfmaaGreatDoor

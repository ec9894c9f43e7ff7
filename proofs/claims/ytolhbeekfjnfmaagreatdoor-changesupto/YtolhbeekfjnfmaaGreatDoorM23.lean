import Derived.Test.YtolhbeekfjnfmaaGreatDoorM22
set_option maxHeartbeats 8000000
set_option maxRecDepth 100000
namespace Go.Proofs.YtolhbeekfjnfmaaGreatDoor
open Go.RowKit
variable {w:World}
theorem Nn(f:Sv.Fact)(fa:Option Addr)(fc:Nat)(w:World)(hf:InAt (.slice fa f.vals.length fc) f.vals w)(hl:f.vals.length<=maxLen) :
  Calls Tryz.prog 39 #[.agg #[.int .i64 f.kind,.slice fa f.vals.length fc]] w fun e w'=>e=.returned (.bool (Av f))/\w.grownBy w' none:=by
 have a7:=AA w (.cells #[.int .i64 f.kind,.slice fa f.vals.length fc] 37) none;unfold maxLen at hl;by_cases h:(decide (f.kind<0)||decide (9<f.kind)||decide (4<f.vals.length))=true
 ·have e:Av f=false:=by unfold Av;rw[h];rfl
  rw[e];clear e hf;by_cases h1:f.kind<0
  ·have d1:decide (f.kind<0)=true:=by simpa using h1
   go_enter Tryz.func39,Tryz.ntmps39;go_wp2;go_ret;exact⟨rfl,a7⟩
  ·have d1:decide (f.kind<0)=false:=by simpa using h1
   by_cases h2:9<f.kind
   ·have d2:decide (9<f.kind)=true:=by simpa using h2
    go_enter Tryz.func39,Tryz.ntmps39;go_wp2;go_ret;exact⟨rfl,a7⟩
   ·have d2:decide (9<f.kind)=false:=by simpa using h2
    have h3:4<f.vals.length:=by simpa[h1,h2] using h
    have d3:decide ((4:Int)<(f.vals.length:Int))=true:=by simp;omega
    clear h h1 h2;go_enter Tryz.func39,Tryz.ntmps39;go_wp2;go_ret;exact⟨rfl,a7⟩
 ·have hn:(decide (f.kind<0)||decide (9<f.kind)||decide (4<f.vals.length))=false:=by simpa using h
  have e:Av f=f.vals.all B2:=by unfold Av;rw[hn];rfl
  rw[e];rw[DD,DD] at hn;obtain⟨⟨d1,d2⟩,d3⟩:=hn;have h4:f.vals.length<=4:=by simpa using d3
  have d3':decide ((4:Int)<(f.vals.length:Int))=false:=by simp;omega
  obtain⟨R,hR⟩:∃R,f.vals.all B2=R:=⟨_,rfl⟩
  rw[hR];have HR:=Ac hR;have HF:=Ac hf;clear h e d3 hR hf;go_enter Tryz.func39,Tryz.ntmps39;go_wp2;go_loopw [22] (fun x w'=>∃i:Nat,i<=f.vals.length/\x=.int .i64 i/\w.grownBy w' none/\(f.vals.drop i).all B2=R) (fun x _=>f.vals.length-(intOf x).toNat)
  case atStart=>exact⟨0,AG _,rfl,a7,Aa HR⟩
  case round=>
   clear a7 HR;obtain⟨i,hi,rfl,hg,hR⟩:=hrel;by_cases hlt:i<f.vals.length
   ·have hd:decide (i<f.vals.length)=true:=by simpa using hlt
    obtain⟨x,hx⟩:∃x,f.vals[i]?=some x:=⟨f.vals[i],AB hlt⟩
    rw[A0 hx,KL] at hR;obtain⟨g2,uj,rfl,x0⟩:=((Aa HF).gr hg).cell hx;clear hx;by_cases hx1:x < -999999999
    ·have dx:decide (x < -999999999)=true:=by simpa using hx1
     have hv:B2 x=false:=by unfold B2;rw[dx];rfl
     rw[hv,DT] at hR;subst hR;clear hv;go_wp2;go_ret;exact⟨rfl,hg⟩
    ·have dx:decide (x < -999999999)=false:=by simpa using hx1
     by_cases hx2:999999999<x
     ·have dy:decide (999999999<x)=true:=by simpa using hx2
      have hv:B2 x=false:=by unfold B2;rw[dx,dy];rfl
      rw[hv,DT] at hR;subst hR;clear hv;go_wp2;go_ret;exact⟨rfl,hg⟩
     ·have dy:decide (999999999<x)=false:=by simpa using hx2
      have hv:B2 x=true:=by unfold B2;rw[dx,dy];rfl
      rw[hv,EN] at hR;have HR:=Ac hR;clear hR hv;go_wp2;go_roundw
      case rel=>exact⟨i+1,by omega,by go_num,hg,Aa HR⟩
      case measure=>simp[intOf];omega
   ·have hd:decide (i<f.vals.length)=false:=by simpa using hlt
    have e:f.vals.drop i=[]:=BD (by omega);rw[e] at hR;have hR2:true=R:=hR;subst hR2;go_wp2;go_ret;exact⟨rfl,hg⟩
theorem Km{P:Program}{ops:Array Oper}{o:Oper}{a:Act}{K:Act->World->Prop}{Q:Exit->Act->World->Prop}{E:Prop}(hgd:o.guard=none)(s x:Operand)(t:TypeId)
 (ho:o.op=.call { callee:=.builtin .append,args:=#[s,x],argTypes:=#[t,t] }){z:Value}{bytes:Nat}
 (ht:P.underlying t=some (.slice 3))(aq:(P.info? 3).map (fun i=>(i.zero,i.size,i.bytes))=some (some z,1,bytes))(hzs:z.cells.size=1)
 {base:Nat}{v u:Value}{l l2:List Int}(hs:a.eval s=v)(hown:IsAt base v l w)(hx:a.eval x=u)(aG:InAt u l2 w)
 (h63:l.length+l2.length<=maxLen)(hbytes:(l.length+l2.length)*bytes<=140737488355328)(hbase:base<=w.heap.size)
 (h:∀v' w',IsAt base v' (l++l2) w'->w.grownBy w' v.ownBlock->K (a.put o.dst v') w') :
  if Region.wanted o (yielded ops a.tmps)=true then Oper.wp P o a w K Q else E:=by
 have hw:Region.wanted o (yielded ops a.tmps)=true:=by simp[Region.wanted,hgd]
 rw[AQ hw];obtain⟨i,hi,hz,hsize,hby⟩:=info_parts aq;rcases aG with ⟨rfl,rfl⟩|⟨ad,cap,rfl,h2,h3⟩
 ·have hrun:=run_append_owned_none (P:=P) (w:=w) base t o.type 3 i 1 ht hi v l.length (l.flatMap C1) hown.2
  unfold Oper.wp;simp[execOp,ho,resolve,invoke,builtin,hs,hx,hrun,Result.andThen];refine h v w ?_ ?_
  ·rw[BM];exact hown
  ·exact AD _ _
 ·have iK:∀k:List Int,(k.flatMap C1).length=k.length*1:=by
   intro k
   induction k with
   | nil=>rfl
   | cons b k ih=>rw[BI,AK,ih,AP];simp[C1];omega
  refine wp_append_own w s x t ho base 3 i z 1 bytes ht hi hz hsize hby hzs (by decide) v l.length (l.flatMap C1) hs hown.2 ad l2.length cap (l2.flatMap C1) hx (iK l2) ?_ ?_ h63 hbytes hbase ?_
  ·intro j y hj
   have iQ:j<l2.length:=by
    have:=(AL.1 hj).1;rw[iK l2] at this;omega
   have hg:=Ru C1 1 At l2 j l2[j] (AB iQ) 0 (by omega);rw[show j*1+0=j from by omega,hj] at hg;have hy:y=.int .i64 l2[j]:=by simpa[C1] using hg
   obtain⟨g,off,e1,e2⟩:=h3 j l2[j] (AB iQ)
   have hadd:ad.add j=⟨g,off+j,none⟩:=by
    rw[e1];unfold Addr.add;by_cases hj0:j=0
    ·simp[hj0]
    ·simp[hj0]
   rw[hadd,e2,hy]
  ·intro c hc
   obtain⟨y,_,hy⟩:=CT.1 hc;exact B7 y c hy
  ·intro v' w' k1 k2 _
   refine h v' w' ⟨hown.1,?_⟩ k2;rw[AK,CO];exact k1
theorem Rk(f:Sv.Fact)(fa:Option Addr)(fc:Nat)(w:World)(hf:InAt (.slice fa f.vals.length fc) f.vals w)(hl:f.vals.length<=4) :
  Calls Tryz.prog 40 #[.agg #[.int .i64 f.kind,.slice fa f.vals.length fc]] w fun e w'=>∃ao cap,e=.returned (.agg #[.int .i64 f.kind,.slice ao f.vals.length cap])/\w.grownBy w' none/\IsAt w.heap.size (.slice ao f.vals.length cap) f.vals w':=by
 have a7:=Dm w (.cells #[.int .i64 f.kind,.slice fa f.vals.length fc] 37) (.cells #[.int .i64 0,.slice none 0 0] 37);have oo:C2 37 w.heap.size (.int .i64 f.kind) (.slice fa f.vals.length fc) ((w.alloc (.cells #[.int .i64 f.kind,.slice fa f.vals.length fc] 37)).alloc (.cells #[.int .i64 0,.slice none 0 0] 37)):=Lz (Hn rfl);have fY:C2 37 (w.heap.size+1) (.int .i64 0) (.slice none 0 0) ((w.alloc (.cells #[.int .i64 f.kind,.slice fa f.vals.length fc] 37)).alloc (.cells #[.int .i64 0,.slice none 0 0] 37)):=Hn (by simp);have jx:((w.alloc (.cells #[.int .i64 f.kind,.slice fa f.vals.length fc] 37)).alloc (.cells #[.int .i64 0,.slice none 0 0] 37)).heap.size=w.heap.size+2:=by simp
 have tY:=hf.gr a7;go_enter Tryz.func40,Tryz.ntmps40;go_wp2_with fail;obtain⟨a0,a1⟩:=oo.c;generalize (w.alloc (.cells #[.int .i64 f.kind,.slice fa f.vals.length fc] 37)).alloc (.cells #[.int .i64 0,.slice none 0 0] 37)=wA at a7 oo fY jx tY a0 a1⊢
 have hkey:∀v1 w1,IsAt (w.heap.size+2) v1 ([]++f.vals) w1->wA.grownBy w1 none->∃ao cap,v1=.slice ao f.vals.length cap/\(w1.cell? ⟨w.heap.size,0,none⟩=some (.int .i64 f.kind)/\w1.cell? ⟨w.heap.size,1,none⟩=some (.slice fa f.vals.length fc))/\(w1.cell? ⟨w.heap.size+1,0,none⟩=some (.int .i64 0)/\w1.cell? ⟨w.heap.size+1,1,none⟩=some (.slice none 0 0)/\w1.frozen? ⟨w.heap.size+1,0,none⟩=false/\w1.frozen? ⟨w.heap.size+1,1,none⟩=false)/\C2 37 (w.heap.size+1) (.int .i64 0) (.slice none 0 0) w1:=by
  intro v1 w1 aS hg1;obtain⟨ao,cap,rfl⟩:=aS.slice;have hB0:=oo.kept hg1 (by simp);have hB1:=fY.kept hg1 (by simp);obtain⟨b0,b1⟩:=hB0.c;obtain⟨c0,c1⟩:=hB1.c;exact⟨ao,cap,rfl,⟨b0,b1⟩,⟨c0,c1,hB1.fz 0,hB1.fz 1⟩,hB1⟩
 have HKEY:=Ac hkey;have xI:=Ac tY;clear hkey oo fY hf tY
 go_region_held3 (fun w'=>w'.cell? ⟨w.heap.size,0,none⟩=some (.int .i64 f.kind)/\w'.cell? ⟨w.heap.size,1,none⟩=some (.slice fa f.vals.length fc)) (first|exact z1|go_keep)
  ((refine Km (by rfl) _ _ 35 (by rfl) Tryz.underlying35 Tryz.infoInt rfl (by simp[Act.eval]) (RowAt.nil (w.heap.size+2) _ At) (by simp[Act.eval]) ((Aa xI).gr (Ah (AD _ _))) (by(unfold maxLen;simp;omega)) (by(simp;omega)) (DR jx.symm) ?_;intro v1 w1 aS hg1;obtain⟨ao,cap,rfl,z1,⟨y0,y1,yf0,yf1⟩,hB1⟩:=Aa HKEY v1 w1 aS (Ab (Ah (AD _ _)) hg1)))
 rw[CW] at aS;have k2:=Ea w1 (w.heap.size+1) (.int .i64 f.kind) (.slice ao f.vals.length cap);have hR:=hB1.set2 (.int .i64 f.kind) (.slice ao f.vals.length cap);obtain⟨r0,r1⟩:=hR.c;have hown:=aS.own;have hv2:=(aS.other k2 (fun g hg e=>by have:=hown g hg;simp at e;omega)).weak (base':=w.heap.size) (by omega);have hg3:=Bi (Ab a7 (Ab (Ah (AD _ _)) hg1)) k2 (by omega);go_wp2_with fail;exact BO (v:=.agg #[.int .i64 f.kind,.slice ao f.vals.length cap]) (by simp[results,Tryz.results40,go_sem,r0,r1]) rfl ⟨ao,cap,rfl,hg3,hv2⟩
def Tok.ids(t:Tok):List Int:=t.map (fun g=>g.id)
theorem Q3l{t:Tok}{a0 a1 a2 a3:Int}{g jn:Nat}(h:A4 g a0 a1 a2 a3 w)(hn:t.nums=[a0,a1,a2,a3])(hl:t.length=jn)(h4:jn<=4):InAt (.slice (some ⟨g,0,none⟩) jn 4) t.ids w:=by
 have hlen:t.ids.length=jn:=by unfold Tok.ids;rw[BA,hl]
 refine .inr ⟨⟨g,0,none⟩,4,by rw[hlen],by rw[hlen];unfold maxLen;omega,fun i x hx=>⟨g,0,rfl,?_⟩⟩;have hi:i<jn:=by have:=(AL.1 hx).1;omega
 have hx2:([a0,a1,a2,a3]:List Int)[i]?=some x:=by
  rw[<-hn];unfold Tok.nums;rw[CL (by rw[BA];omega)];exact hx
 have hb:w.heap[g]?=some (.cells #[.int .i64 a0,.int .i64 a1,.int .i64 a2,.int .i64 a3] 39 (0,0)):=h;have:i=0\/i=1\/i=2\/i=3:=by omega
 rcases this with rfl|rfl|rfl|rfl<;>simp at hx2<;>subst hx2<;>simp[World.cell?,hb]
theorem Ws(U:Nat->Nat)(b ru jn:Nat)(t:Tok)(w:World)(h2:w.cell? ⟨b,2,none⟩=some (.int .i64 ru))(h3:w.cell? ⟨b,3,none⟩=some (.int .i64 jn))(hl:t.length=jn)(h4:jn<=4)(ht:∀g∈t,FtAt U g w) :
  Calls Tryz.prog 75 #[.pointer (some ⟨b,0,none⟩),Bt t] w fun e w'=>∃ao cap,e=.returned (.agg #[.int .i64 ru,.slice ao jn cap])/\w.grownBy w' none/\IsAt w.heap.size (.slice ao jn cap) t.ids w':=by
 obtain⟨p0,p1,p2,p3,hp,hi,b7,eH,jE,l6⟩:=Ef (by omega) ht;have eT:Bt t=.agg #[.pointer p0,.pointer p1,.pointer p2,.pointer p3]:=by unfold Bt;rw[hp]
 rw[eT];have a7:=Dm w (.cells #[.pointer p0,.pointer p1,.pointer p2,.pointer p3] 139) (.cells #[.int .i64 0,.slice none 0 0] 52);have fY:C2 52 (w.heap.size+1) (.int .i64 0) (.slice none 0 0) ((w.alloc (.cells #[.pointer p0,.pointer p1,.pointer p2,.pointer p3] 139)).alloc (.cells #[.int .i64 0,.slice none 0 0] 52)):=Hn (by simp);have cx:=Hv U p0 p1 p2 p3 _ _ _ _ _ (b7.gr a7) (eH.gr a7) (jE.gr a7) (l6.gr a7)
 have hN:=cx.mono (R':=fun e w'=>e=.returned (.agg #[.int .i64 (pid w p0),.int .i64 (pid w p1),.int .i64 (pid w p2),.int .i64 (pid w p3)])/\((w.alloc (.cells #[.pointer p0,.pointer p1,.pointer p2,.pointer p3] 139)).alloc (.cells #[.int .i64 0,.slice none 0 0] 52)).grownBy w' none) (by
  rintro e w'⟨rfl,rfl⟩;exact⟨rfl,by repeat (first|with_reducible exact AD _ _|refine E1 ?_ _)⟩)
 have hbl:=CD w _ h2;dsimp only at hbl;have hne:b≠w.heap.size+1:=by omega
 clear cx hp eT ht b7 eH jE l6;generalize pid w p0=i0,pid w p1=i1,pid w p2=i2,pid w p3=i3 at hi hN;have HI:=Ac hi;clear hi;go_enter Tryz.func75,Tryz.ntmps75
 go_wp2_with (go_at_call 109;refine hN.mono ?_;rintro e w1⟨rfl,hg1⟩)
 have jx:((w.alloc (.cells #[.pointer p0,.pointer p1,.pointer p2,.pointer p3] 139)).alloc (.cells #[.int .i64 0,.slice none 0 0] 52)).heap.size=w.heap.size+2:=by simp
 have hs1:=hg1.size;rw[jx] at hs1;have aR:=Ab (Ab a7 hg1) (AA w1 (.cells #[.int .i64 i0,.int .i64 i1,.int .i64 i2,.int .i64 i3] 39) none);have hB1:=(fY.kept hg1 (by simp)).kept (AA w1 (.cells #[.int .i64 i0,.int .i64 i1,.int .i64 i2,.int .i64 i3] 39) none) (by simp);have VW:A4 w1.heap.size i0 i1 i2 i3 (w1.alloc (.cells #[.int .i64 i0,.int .i64 i1,.int .i64 i2,.int .i64 i3] 39)):=A4.nw rfl;have yj:(w1.alloc (.cells #[.int .i64 i0,.int .i64 i1,.int .i64 i2,.int .i64 i3] 39)).heap.size=w1.heap.size+1:=by simp
 have c2:=aR.cell h2 (by simp);have c3:=aR.cell h3 (by simp);have aG:=Q3l VW (Aa HI) hl h4;generalize w1.alloc (.cells #[.int .i64 i0,.int .i64 i1,.int .i64 i2,.int .i64 i3] 39)=wB at aR hB1 VW yj c2 c3 aG⊢;have eE:t.ids.length=jn:=by unfold Tok.ids;rw[BA];exact hl
 have hkey:∀v1 w2,IsAt (w1.heap.size+1) v1 ([]++t.ids) w2->wB.grownBy w2 none->∃ao cap,v1=.slice ao jn cap/\(w2.cell? ⟨b,2,none⟩=some (.int .i64 ru)/\w2.cell? ⟨b,3,none⟩=some (.int .i64 jn))/\(w2.cell? ⟨w.heap.size+1,0,none⟩=some (.int .i64 0)/\w2.cell? ⟨w.heap.size+1,1,none⟩=some (.slice none 0 0)/\w2.frozen? ⟨w.heap.size+1,0,none⟩=false/\w2.frozen? ⟨w.heap.size+1,1,none⟩=false)/\C2 52 (w.heap.size+1) (.int .i64 0) (.slice none 0 0) w2/\∀x y,((w2.setCell ⟨w.heap.size+1,0,none⟩ x).setCell ⟨w.heap.size+1,1,none⟩ y).cell? ⟨b,2,none⟩=some (.int .i64 ru)/\((w2.setCell ⟨w.heap.size+1,0,none⟩ x).setCell ⟨w.heap.size+1,1,none⟩ y).cell? ⟨b,3,none⟩=some (.int .i64 jn):=by
  intro v1 w2 aS hg2;obtain⟨ao,cap,hv⟩:=aS.slice;rw[CW,eE] at hv;have eh:=hB1.kept hg2 (by simp);obtain⟨d0,d1⟩:=eh.c;exact⟨ao,cap,hv,⟨hg2.cell c2 (by simp),hg2.cell c3 (by simp)⟩,⟨d0,d1,eh.fz 0,eh.fz 1⟩,eh,fun x y=>⟨(Ea w2 (w.heap.size+1) x y).cell (hg2.cell c2 (by simp)) (by simp;omega),(Ea w2 (w.heap.size+1) x y).cell (hg2.cell c3 (by simp)) (by simp;omega)⟩⟩
 have HKEY:=Ac hkey;have fC:=Ac aG;have HGB:=Ac aR;have l0:(0:Int)<=(jn:Int):=by omega
 have l1:(jn:Int)<=4:=by omega
 have NZ:=Ac eE;clear hkey hB1 VW hN fY a7 hg1 jx h2 h3 aG aR eE
 go_region_held3 (fun w'=>w'.cell? ⟨b,2,none⟩=some (.int .i64 ru)/\w'.cell? ⟨b,3,none⟩=some (.int .i64 jn)) (first|exact z1|exact zs _ _|go_keep)
  ((refine Km (by rfl) _ _ 35 (by rfl) Tryz.underlying35 Tryz.infoInt rfl (by simp[Act.eval]) (RowAt.nil (w1.heap.size+1) _ At) (by simp[Act.eval]) ((Aa fC).gr (Ah (AD _ _))) (by(rw[Aa NZ];unfold maxLen;simp;omega)) (by(rw[Aa NZ];simp;omega)) (DR yj.symm) ?_;intro v1 w2 aS hg2;obtain⟨ao,cap,rfl,z1,⟨y0,y1,yf0,yf1⟩,eh,zs⟩:=Aa HKEY v1 w2 aS (Ab (Ah (AD _ _)) hg2)))
 rw[CW] at aS;have k2:=Ea w2 (w.heap.size+1) (.int .i64 ru) (.slice ao jn cap);have hR:=eh.set2 (.int .i64 ru) (.slice ao jn cap);obtain⟨r0,r1⟩:=hR.c;have hown:=aS.own;have hv2:=(aS.other k2 (fun g hg e=>by have:=hown g hg;simp at e;omega)).weak (base':=w.heap.size) (by omega);have hg3:=Bi (Ab (Aa HGB) (Ab (Ah (AD _ _)) hg2)) k2 (by omega);clear zs z1;go_wp2_with fail;exact BO (v:=.agg #[.int .i64 ru,.slice ao jn cap]) (by simp[results,Tryz.results75,go_sem,r0,r1]) rfl ⟨ao,cap,rfl,hg3,hv2⟩
end Go.Proofs.YtolhbeekfjnfmaaGreatDoor

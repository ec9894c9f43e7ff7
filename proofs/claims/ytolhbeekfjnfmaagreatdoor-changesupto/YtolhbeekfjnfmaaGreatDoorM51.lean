import Derived.Test.YtolhbeekfjnfmaaGreatDoorM50
set_option maxHeartbeats 8000000
set_option maxRecDepth 100000
namespace Go.Proofs.YtolhbeekfjnfmaaGreatDoor
open Go.RowKit
def Hk(fd l:List (Int×List Int)):Option (Int×List Int):=Bw none (l.filter (fun m=>!Dv fd m))
theorem Te(fd l:List (Int×List Int))(m:Int×List Int):Hk fd (l++[m])=if Dv fd m=true then Hk fd l else Cp (Hk fd l) m:=by
 unfold Hk;rw[DI,Im];cases h:Dv fd m
 ·simp only[Bool.not_false,if_true,BZ,if_false]
  rw[Gz];rfl
 ·simp only[Bool.not_true,BZ,if_false,if_true,BM]
theorem My(a b:Int×List Int)(UQ:a.2.length<=4)(hb4:b.2.length<=4)(ha:∀x∈a.2,1<=x)(hb:∀x∈b.2,1<=x):Dx (Bm a.2) (Bm b.2)=A7 a b:=by
 unfold A7;exact Py _ _ UQ hb4 ha hb
theorem YAt.pushF{y:Nat}{rv lv cv fv:Value}{rs:List Sv.Rule}{L:List VTh}{fd:List VMt}{W w5:World}{k:VMt}{nv:Value}(hy:YAt y rv lv cv fv rs L W)(jJ:MsAt 0 fv fd W)(hk:IsAt 0 k.v k.ids W)
 (hv:RowAt 52 2 mtenc 0 nv (fd++[k]) w5)(hg:W.grownBy w5 fv.ownBlock) :
  w5.cell? ⟨y,3,none⟩=some fv/\w5.frozen? ⟨y,3,none⟩=false/\some y≠fv.ownBlock/\YAt y rv lv cv nv rs L (w5.setCell ⟨y,3,none⟩ nv)/\MsAt 0 nv (fd++[k]) (w5.setCell ⟨y,3,none⟩ nv):=by
 have hrow:=RowOk.of jJ.1.2
 have hne:some y≠fv.ownBlock:=by
  intro e;obtain⟨_,cur,fz,h⟩:=hrow y e.symm;rw[hy.blk] at h;simp at h
 have hb:w5.heap[y]?=some (.cells #[rv,lv,cv,fv] 172 (0,0)):=by rw[hg.block y (Ad hy.blk) hne];exact hy.blk
 have hro:=RowOk.blk hb;have aZ:=Aj w5 y 3 nv;refine⟨by simp[World.cell?,hb],by simp[World.frozen?,hb],hne,⟨?_,?_,?_,?_⟩,?_,?_⟩
 ·rw[BB w5 y 3 _ _ _ hb]
  rfl
 ·exact(hy.rules.row hg hrow (by decide) (by decide) (by decide)).row aZ hro (by decide) (by decide) (by decide)
 ·exact(hy.facts.row hg hrow (by decide)).row aZ hro (by decide)
 ·exact fun t ht=>⟨(((hy.vals t ht).1).row hg hrow (by decide)).row aZ hro (by decide),(hy.vals t ht).2⟩
 ·exact hv.row aZ hro (by decide)
 ·intro m hm
  rcases AY.1 hm with h|h
  ·exact((jJ.2 m h).row hg hrow (by decide)).row aZ hro (by decide)
  ·simp only[AX] at h
   subst h;exact(hk.row hg hrow (by decide)).row aZ hro (by decide)
theorem Xn{b:Nat}{x y x0 y0:Value}{ty:Nat}{w:World}(h:w.heap[b]?=some (.cells #[x0,y0] ty (0,0))) :
  (w.cell? ⟨b,0,none⟩=some x0/\w.cell? ⟨b,1,none⟩=some y0/\∀k,w.frozen? ⟨b,k,none⟩=false)/\
  (((w.setCell ⟨b,0,none⟩ x).setCell ⟨b,1,none⟩ y).cell? ⟨b,0,none⟩=some x/\((w.setCell ⟨b,0,none⟩ x).setCell ⟨b,1,none⟩ y).cell? ⟨b,1,none⟩=some y/\(w.setCell ⟨b,0,none⟩ x).cell? ⟨b,0,none⟩=some x/\(w.setCell ⟨b,0,none⟩ x).cell? ⟨b,1,none⟩=some y0/\∀k,(w.setCell ⟨b,0,none⟩ x).frozen? ⟨b,k,none⟩=false)/\
  w.grownBy ((w.setCell ⟨b,0,none⟩ x).setCell ⟨b,1,none⟩ y) (some b):=by
 have k1:=BB _ b 0 _ _ x h;have k2:=BB _ b 1 _ _ y k1;exact⟨⟨Az h rfl,Az h rfl,fun k=>by simp[World.frozen?,h]⟩,⟨Az k2 rfl,Az k2 rfl,Az k1 rfl,Az k1 rfl,fun k=>by simp[World.frozen?,k1]⟩,Ab (Aj _ b 0 x) (Aj _ b 1 y)⟩
def F9(y:Nat)(rv lv cv fv:Value)(rs:List Sv.Rule)(L:List VTh)(fd:List VMt)(w:World)(e:Ending)(w':World):Prop:=
 match Hk (fd.map VMt.of) (Al rs (L.map VTh.of)) with
 | none=>e=.returned (.tuple #[.agg #[.int .i64 0,.slice none 0 0],.int .i64 5])/\w.grownBy w' none
 | some m=>∃af k ao cap,k.of=m/\k.v=.slice ao k.ids.length cap/\e=.returned (.tuple #[.agg #[.int .i64 k.rule,.slice ao k.ids.length cap],.int .i64 0])/\GrS (fun i=>i=y\/fv.ownBlock=some i) w w'/\
  YAt y rv lv cv af rs L w'/\MsAt 0 af (fd++[k]) w'/\(∀g,k.v.ownBlock=some g->w.heap.size<=g)/\∀g,af.ownBlock=some g->fv.ownBlock=some g\/w.heap.size<=g
theorem Q2o(y:Nat)(rv lv cv fv:Value)(rs:List Sv.Rule)(L:List VTh)(fd:List VMt)(w:World)(hy:YAt y rv lv cv fv rs L w)(aK:Sv.RsOk rs)(hL:L.length<=16)(jJ:MsAt 0 fv fd w)(hfb:fd.length<=1000000)
 (cG:(Al rs (L.map VTh.of)).length<=1000000)(bq:∀m∈Al rs (L.map VTh.of),m.2.length<=4/\∀x∈m.2,1<=x) :
  Calls Tryz.prog 60 #[.pointer (some ⟨y,0,none⟩)] w fun e w'=>F9 y rv lv cv fv rs L fd w e w':=by
 obtain⟨rQ,iZ,rfl⟩:=jJ.slice;have a7:=AA w (.cells #[.int .i64 0,.slice none 0 0] 52) none;have rO:=AR w (.cells #[.int .i64 0,.slice none 0 0] 52);have hM:=Ir y rv lv cv _ rs L _ (hy.gr a7) aK hL;have HY:=Ac (show _/\_/\_ from⟨hy,jJ,bq⟩);have di:=Ac (show _/\_ from⟨a7,rO⟩);clear hy jJ aK a7 rO bq;go_enter Tryz.func60,Tryz.ntmps60;go_wp2_with fail;refine hM.mono ?_;rintro e w1⟨u,ms,rfl,cV,hmap,hg1⟩;obtain⟨aoM,wm,rfl⟩:=cV.slice;have eI:ms.length<=1000000:=by rw[<-hmap,BA] at cG;exact cG
 have WY:=Ac (show _/\_/\_ from⟨cV,hmap,Ab (Aa di).1 hg1⟩);have NN:=Ac (show w.heap.size<w1.heap.size/\w1.heap[w.heap.size]?=some (.cells #[.int .i64 0,.slice none 0 0] 52 (0,0))/\w.heap.size<(w.alloc (.cells #[.int .i64 0,.slice none 0 0] 52)).heap.size from⟨AZ (Ad (Aa di).2) hg1.size,(hg1.block w.heap.size (Ad (Aa di).2) (by simp)).trans (Aa di).2,Ad (Aa di).2⟩);clear hM cV hmap cG hg1;go_wp2;go_loopw [5,6] (fun x z w'=>∃i:Nat,i<=ms.length/\z=.int .i64 i/\w1.grownBy w' none/\Hid ((x=.int .i64 (-1)/\Hk (fd.map VMt.of) ((ms.take i).map VMt.of)=none)\/(∃(j:Nat) (k:VMt),x=.int .i64 j/\ms[j]?=some k/\Hk (fd.map VMt.of) ((ms.take i).map VMt.of)=some k.of))) (fun _ z _=>ms.length-(intOf z).toNat)
 case atStart=>exact⟨0,AG _,rfl,AD _ _,Ac (.inl ⟨rfl,rfl⟩)⟩
 case round=>
  obtain⟨i,hi,rfl,hg,HB⟩:=hrel;obtain⟨cV,hmap,bY⟩:=Aa WY;obtain⟨hy,jJ,bq⟩:=Aa HY;have ah:=Ab bY hg;have y3:=(hy.gr ah).c.2.2.2;by_cases hlt:i<ms.length
  ·have cY:decide (i<ms.length)=true:=by simpa using hlt
   obtain⟨m,hm⟩:∃m,ms[i]?=some m:=⟨ms[i],AB hlt⟩
   obtain⟨g,cp,hv,hcs⟩:=(cV.1.gr hg).cells hm;simp only[AH,BP] at hv;obtain⟨rfl,rfl⟩:=hv;have m0:wr.cell? ⟨g,i*2,none⟩=some (.int .i64 m.rule):=hcs 0 (by omega);have m1:wr.cell? ⟨g,i*2+1,none⟩=some m.v:=hcs 1 (by omega);have gG:=((cV.2 m (AV hm)).gr hg).weak (AG _);obtain⟨ma,mc,kD⟩:=gG.slice;rw[kD] at m1 gG;have hH:=fun(W:World) (hW:wr.grownBy W none)=>Q1a fd _ m ma mc W (jJ.gr (Ab ah hW)) (gG.gr hW)
   have hst:=Te (fd.map VMt.of) ((ms.take i).map VMt.of) m.of;rw[<-C9 VMt.of ms i m hm] at hst;have dW:m.of∈Al rs (L.map VTh.of):=by rw[<-hmap];exact CJ.2 ⟨m,AV hm,rfl⟩
   obtain⟨d,hd⟩:∃d,Dv (fd.map VMt.of) m.of=d:=⟨_,rfl⟩
   rw[hd] at hst hH;have HD:=Ac (show _/\_/\_/\_/\_/\_/\_ from⟨hst,cV,bq,hmap,gG,dW,hm⟩);clear hst cV bq hmap gG dW hm hd hcs kD hy jJ ah bY;go_wp2_with fail
   go_cut [7] (fun s wx=>s=.bool d/\wr.grownBy wx none)
   case first=>
    go_region_with (go_at_call 86;refine(hH _ (by repeat (first|exact AD _ _|apply Ah))).mono ?_;rintro e w2⟨rfl,hg2⟩)
    all_goals
     go_wp2_with fail;go_meet
     exact⟨rfl,Ab (Ah (AD _ _)) hg2⟩
   case rest=>
    obtain⟨rfl,hg2⟩:=hcut;obtain⟨hst,cV,bq,hmap,gG,dW,hm⟩:=Aa HD;clear hH HD;have YC:=hg2.cell m0 (by simp);have m12:=hg2.cell m1 (by simp);have bI:=Ab hg hg2;have pj:=hg2;clear m0 m1 y3 hg2;cases d
    ·simp only[BZ,if_false] at hst
     rcases Aa HB with ⟨rfl,hw⟩|⟨j,k,rfl,hk,hw⟩
     ·rw[hw] at hst
      have HN:=Ac (show (Value.int .i64 (i:Int)=.int .i64 (-1)/\Hk (fd.map VMt.of) ((ms.take (i+1)).map VMt.of)=none)\/(∃(j:Nat) (k:VMt),Value.int .i64 (i:Int)=.int .i64 j/\ms[j]?=some k/\Hk (fd.map VMt.of) ((ms.take (i+1)).map VMt.of)=some k.of) from .inr ⟨i,m,rfl,hm,hst⟩);clear hst cV bq hmap gG dW hm hw HB;go_wp2;go_quiet (fail);go_wp2;go_roundw
      case rel=>exact⟨i+1,by omega,by go_num,Ab bI (Af _ _ _),HN⟩
      case measure=>simp[intOf];omega
     ·have iQ:j<ms.length:=(AL.1 hk).1
      have hb1:(0:Int)<=(j:Int):=by omega
      have hb2:(j:Int)<(ms.length:Int):=by omega
      have UH:decide ((j:Int)<0)=false:=by simp
      obtain⟨g',cp',hv',mQ⟩:=(cV.1.gr bI).cells hk;simp only[AH,AE,BK,BP,BX] at hv';obtain⟨rfl,rfl⟩:=hv';have k0:wc.cell? ⟨g,j*2,none⟩=some (.int .i64 k.rule):=mQ 0 (by omega);have k1:wc.cell? ⟨g,j*2+1,none⟩=some k.v:=mQ 1 (by omega);have oX:=((cV.2 k (AV hk)).gr bI).weak (AG _);obtain⟨ka,kc,nH⟩:=oX.slice;rw[nH] at k1 oX;have rz:k.of∈Al rs (L.map VTh.of):=by rw[<-hmap];exact CJ.2 ⟨k,AV hk,rfl⟩
      have zE:=gG.gr pj;have hN:=fun(W:World) (hW:wc.grownBy W none)=>Q0m m.rule k.rule _ _ m.ids k.ids W (zE.gr hW) (oX.gr hW) (by have:=(bq _ dW).1;show m.of.2.length<=100;omega) (by have:=(bq _ rz).1;show k.of.2.length<=100;omega)
      have kA:Dx (Bm m.ids) (Bm k.ids)=A7 m.of k.of:=My m.of k.of (bq _ dW).1 (bq _ rz).1 (bq _ dW).2 (bq _ rz).2;rw[kA] at hN;rw[hw] at hst;unfold Cp at hst;simp only at hst;obtain⟨d,hd⟩:∃d,A7 m.of k.of=d:=⟨_,rfl⟩
      rw[hd] at hst hN;have HD:=Ac (show _/\_/\_ from⟨hst,hm,hk⟩);clear hst cV bq hmap gG zE oX dW rz hm hk hd hw kA mQ HB nH;go_wp2_with fail;have hS:∀W:World,wc.grownBy W none->wc.grownBy W none/\W.cell? ⟨g,i*2,none⟩=some (.int .i64 m.rule)/\W.cell? ⟨g,i*2+1,none⟩=some (.slice ma m.ids.length mc)/\W.cell? ⟨g,j*2,none⟩=some (.int .i64 k.rule)/\W.cell? ⟨g,j*2+1,none⟩=some (.slice ka k.ids.length kc):=fun W hW=>⟨hW,hW.cell YC (by simp),hW.cell m12 (by simp),hW.cell k0 (by simp),hW.cell k1 (by simp)⟩
      go_cut [38] (fun s wx=>s=.bool d/\wc.grownBy wx none)
      case first=>
       go_region_held3 (fun w'=>wc.grownBy w' none/\w'.cell? ⟨g,i*2,none⟩=some (.int .i64 m.rule)/\w'.cell? ⟨g,i*2+1,none⟩=some (.slice ma m.ids.length mc)/\w'.cell? ⟨g,j*2,none⟩=some (.int .i64 k.rule)/\w'.cell? ⟨g,j*2+1,none⟩=some (.slice ka k.ids.length kc))
        (first|exact hS _ (Ab (Ah (AD _ _)) hg2)|exact hS _ (Ah (AD _ _))|exact hS _ (AD _ _)|go_keep)
        (first|(go_at_call 87;refine(hN _ (Ah (AD _ _))).mono ?_;rintro e w2⟨rfl,hg2⟩))
       all_goals
        go_wp2_with fail;go_meet
        exact⟨rfl,Ab (Ah (AD _ _)) hg2⟩
      case rest=>
       obtain⟨rfl,hg3⟩:=hcut;obtain⟨hst,hm,hk⟩:=Aa HD;have hgd:=Ab bI hg3;clear hN HD hg3;cases d
       ·simp only[BZ,if_false] at hst
        have HN:=Ac (show (Value.int .i64 (j:Int)=.int .i64 (-1)/\Hk (fd.map VMt.of) ((ms.take (i+1)).map VMt.of)=none)\/(∃(j':Nat) (k:VMt),Value.int .i64 (j:Int)=.int .i64 j'/\ms[j']?=some k/\Hk (fd.map VMt.of) ((ms.take (i+1)).map VMt.of)=some k.of) from .inr ⟨j,k,rfl,hk,hst⟩);clear hst hm hk;go_wp2;go_roundw
        case rel=>exact⟨i+1,by omega,by go_num,hgd,HN⟩
        case measure=>simp[intOf];omega
       ·simp only[if_true] at hst
        have HN:=Ac (show (Value.int .i64 (i:Int)=.int .i64 (-1)/\Hk (fd.map VMt.of) ((ms.take (i+1)).map VMt.of)=none)\/(∃(j:Nat) (k:VMt),Value.int .i64 (i:Int)=.int .i64 j/\ms[j]?=some k/\Hk (fd.map VMt.of) ((ms.take (i+1)).map VMt.of)=some k.of) from .inr ⟨i,m,rfl,hm,hst⟩);clear hst hm hk;go_wp2;go_roundw
        case rel=>exact⟨i+1,by omega,by go_num,hgd,HN⟩
        case measure=>simp[intOf];omega
    ·simp only[if_true] at hst
     have HN:=HB;rw[<-hst] at HN;clear hst cV bq hmap gG dW hm HB;go_wp2;go_roundw
     case rel=>exact⟨i+1,by omega,by go_num,bI,HN⟩
     case measure=>simp[intOf];omega
  ·have cY:decide (i<ms.length)=false:=by simpa using hlt
   rw[CA (by omega),hmap] at HB;have hres:wr.heap[w.heap.size]?=some (.cells #[.int .i64 0,.slice none 0 0] 52 (0,0)):=(hg.block w.heap.size (Aa NN).1 (by simp)).trans (Aa NN).2.1;rcases Aa HB with ⟨rfl,hw⟩|⟨j,k,rfl,hk,hw⟩
   ·obtain⟨⟨x0,x1,xf⟩,⟨z0,z1,z2,z3,z4⟩,iR⟩:=Xn (x:=.int .i64 0) (y:=.slice none 0 0) hres
    have HF:=Ac (show _/\_ from⟨hw,Bi ah iR (AW _)⟩);have xf0:=xf 0;have z41:=z4 1;clear hw iR hres hy jJ cV hmap bq ah bY HB xf z4;go_wp2_with fail;refine BO (v:=.tuple #[.agg #[.int .i64 0,.slice none 0 0],.int .i64 5]) (by simp[results,Tryz.results60,go_sem,z0,z1]) rfl ?_;unfold F9;rw[(Aa HF).1];exact⟨rfl,(Aa HF).2⟩
   ·have iQ:j<ms.length:=(AL.1 hk).1
    have hb1:(0:Int)<=(j:Int):=by omega
    have hb2:(j:Int)<(ms.length:Int):=by omega
    have UH:decide ((j:Int)<0)=false:=by simp
    obtain⟨g,cp,hv,hcs⟩:=(cV.1.gr hg).cells hk;simp only[AH,BP] at hv;obtain⟨rfl,rfl⟩:=hv;have k0:wr.cell? ⟨g,j*2,none⟩=some (.int .i64 k.rule):=hcs 0 (by omega);have k1:wr.cell? ⟨g,j*2+1,none⟩=some k.v:=hcs 1 (by omega);have oX:=((cV.2 k (AV hk)).gr hg)
    have kK:=oX.own;obtain⟨ka,kc,nH⟩:=oX.slice;rw[nH] at k1;have aR:=Ah (AA wr (.cells #[.int .i64 k.rule,.slice ka k.ids.length kc] 52) none);obtain⟨W5,fX⟩:∃W5,(wr.alloc (.cells #[.int .i64 k.rule,.slice ka k.ids.length kc] 52)).drew=W5:=⟨_,rfl⟩
    have aG:RowAt 52 2 mtenc 0 _ [k] (wr.alloc (.cells #[.int .i64 k.rule,.slice ka k.ids.length kc] 52)).drew:=((RowAt.lit1 C4 wr k #[.int .i64 k.rule,.slice ka k.ids.length kc] (by unfold mtenc;rw[nH])).weak (AG _)).heap rfl;rw[fX] at aR aG;have sg:=(hy.gr ah).gr aR;have kM:=(jJ.gr ah).gr aR;have zP:=(oX.gr aR).weak (AG _);have zW:=Ab ah aR;have kE:=(cV.1.gr hg).gr aR;have jy:=(aR.block w.heap.size (Ad hres) (by simp)).trans hres;have oZ:∀b,(Value.slice rQ fd.length iZ).ownBlock=some b->b<w.heap.size:=fun b hb=>(jJ.1.own b hb).2
    have bg:∀x∈[k],∀c∈mtenc x,c.oneCell'=true:=by
     intro x hx;simp only[AX] at hx;subst hx;exact Gg x (by rw[nH];rfl)
    have rV:y<w.heap.size:=Ad hy.blk
    have kW:∀g5 aI w5,RowAt 52 2 mtenc 0 (.slice (some ⟨g5,0,none⟩) (fd++[k]).length aI) (fd++[k]) w5->W5.grownBy w5 (Value.slice rQ fd.length iZ).ownBlock->((Value.slice rQ fd.length iZ).ownBlock=some g5\/g5=W5.heap.size)->
      w5.cell? ⟨y,3,none⟩=some (.slice rQ fd.length iZ)/\w5.frozen? ⟨y,3,none⟩=false/\
      ∃af,YAt y rv lv cv af rs L (w5.setCell ⟨y,3,none⟩ (.slice (some ⟨g5,0,none⟩) (fd.length+1) aI))/\MsAt 0 af (fd++[k]) (w5.setCell ⟨y,3,none⟩ (.slice (some ⟨g5,0,none⟩) (fd.length+1) aI))/\
       GrS (fun i=>i=y\/(Value.slice rQ fd.length iZ).ownBlock=some i) w (w5.setCell ⟨y,3,none⟩ (.slice (some ⟨g5,0,none⟩) (fd.length+1) aI))/\
       (∀b,af.ownBlock=some b->(Value.slice rQ fd.length iZ).ownBlock=some b\/w.heap.size<b)/\
       RowAt 52 2 mtenc 0 (.slice (some ⟨g,0,none⟩) ms.length wm) ms (w5.setCell ⟨y,3,none⟩ (.slice (some ⟨g5,0,none⟩) (fd.length+1) aI))/\
       (w5.setCell ⟨y,3,none⟩ (.slice (some ⟨g5,0,none⟩) (fd.length+1) aI)).heap[w.heap.size]?=some (.cells #[.int .i64 0,.slice none 0 0] 52 (0,0)):=by
     intro g5 aI w5 hv aY hl;rw[AK,BC] at hv;obtain⟨p1,p2,p3,p4,p5⟩:=sg.pushF kM zP hv aY;have aZ:=Aj w5 y 3 (.slice (some ⟨g5,0,none⟩) (fd.length+1) aI);refine⟨p1,p2,_,p4,p5,((GrS.of zW (by simp)).then aY (fun b hb=>.inr (.inr hb))).then aZ (fun b hb=>by simp at hb;exact .inr (.inl hb.symm)),?_,?_,?_⟩
     ·intro b hb
      simp only[Value.ownBlock,AE] at hb;subst hb;rcases hl with hl|hl
      ·exact .inl hl
      ·right
       have:=Ad jy;omega
     ·refine((kE.other aY (fun b hb e=>?_)).other aZ (fun b hb e=>?_)).weak (AG _)
      ·have h1:=oZ b e
       have h2:=(kE.own b hb).1;have:=(Aa NN).2.2;omega
      ·have h2:=(kE.own b hb).1
       simp only[AE] at e;have:=(Aa NN).2.2;omega
     ·rw[aZ.block w.heap.size (by have:=Ad jy;have:=aY.size;omega) (by simp;omega),aY.block w.heap.size (Ad jy) (fun e=>by have:=oZ _ e.symm;omega)]
      exact jy
    have y3b:=(hy.gr (Ab ah (AA wr (.cells #[.int .i64 k.rule,.slice ka k.ids.length kc] 52) none))).c.2.2.2;have HKEY:=Ac kW;have fC:=Ac (show _/\_/\_/\_ from⟨aG,kM,bg,fX⟩);have LN:fd.length + [k].length<=maxLen:=by unfold maxLen;simp;omega
    have LM:(fd.length + [k].length)*32<=140737488355328:=by simp;omega
    have fD:=Ac (show _/\_ from⟨LN,LM⟩);have HF:=Ac (show _/\_/\_/\_/\_ from⟨hw,hk,nH,kK,oZ⟩);clear kW aG kM bg fX hw hk nH kK LN LM hy jJ bq cV hmap ah bY HB sg oX zP zW kE jy hres oZ hcs aR;go_wp2_with fail
    go_cut [] (fun wx=>∃af,YAt y rv lv cv af rs L wx/\MsAt 0 af (fd++[k]) wx/\GrS (fun i=>i=y\/(Value.slice rQ fd.length iZ).ownBlock=some i) w wx/\
       (∀b,af.ownBlock=some b->(Value.slice rQ fd.length iZ).ownBlock=some b\/w.heap.size<b)/\
       RowAt 52 2 mtenc 0 (.slice (some ⟨g,0,none⟩) ms.length wm) ms wx/\wx.heap[w.heap.size]?=some (.cells #[.int .i64 0,.slice none 0 0] 52 (0,0)))
    case first=>
     go_region_law (rw[(Aa fC).2.2.2];refine M4 rfl _ _ 43 rfl Tryz.underlying43 Tryz.infoMatch rfl (by decide) (by simp[Act.eval]) (Aa fC).2.1.1 (by simp[Act.eval]) (Aa fC).1 (by simp) (Aa fC).2.2.1 (Aa fD).1 (Aa fD).2 (AG _) ?_;intro g5 aI w5 ax aY aP;obtain⟨q1,q2,q3⟩:=Aa HKEY g5 aI w5 ax aY aP;have K3:=Ac q3;clear q3)
     all_goals
      go_wp2_with fail;go_meet
      exact Aa K3
    case rest=>
     obtain⟨af,rW,xX,dh,UA,zC,ig⟩:=hcut;obtain⟨hw,hk,nH,kK,oZ⟩:=Aa HF;obtain⟨g',cp',hv',mQ⟩:=zC.cells hk;simp only[AH,AE,BK,BP,BX] at hv';obtain⟨rfl,rfl⟩:=hv';have n0:wc.cell? ⟨g,j*2,none⟩=some (.int .i64 k.rule):=mQ 0 (by omega);have n1:wc.cell? ⟨g,j*2+1,none⟩=some k.v:=mQ 1 (by omega);rw[nH] at n1;obtain⟨⟨x0,x1,xf⟩,⟨z0,z1,z2,z3,z4⟩,iR⟩:=Xn (x:=.int .i64 k.rule) (y:=.slice ka k.ids.length kc) ig;have xf0:=xf 0;have z41:=z4 1;have hro:=RowOk.blk ig;have mg:GrS (fun i=>i=y\/(Value.slice rQ fd.length iZ).ownBlock=some i) w _:=dh.then iR (fun b hb=>by simp at hb;exact .inl (DR hb))
     have YJ:YAt y rv lv cv af rs L _:=⟨(iR.block y (Ad rW.blk) (by simp;omega)).trans rW.blk,rW.rules.row iR hro (by decide) (by decide) (by decide),rW.facts.row iR hro (by decide),fun t ht=>⟨(rW.vals t ht).1.row iR hro (by decide),(rW.vals t ht).2⟩⟩
     have ZL:MsAt 0 af (fd++[k]) _:=⟨xX.1.other iR (fun b hb e=>by
      simp only[AE] at e;rcases UA b hb with h|h
      ·have:=oZ b h;omega
      ·omega),fun m hm=>(xX.2 m hm).row iR hro (by decide)⟩
     have HP:=Ac (show F9 y rv lv cv (.slice rQ fd.length iZ) rs L fd w (.returned (.tuple #[.agg #[.int .i64 k.rule,.slice ka k.ids.length kc],.int .i64 0])) _ from by
      unfold F9;rw[hw]
      exact⟨af,k,ka,kc,rfl,nH,rfl,mg,YJ,ZL,fun b hb=>by have:=(kK b hb).1;have:=(Aa NN).2.2;omega,fun b hb=>by
       rcases UA b hb with h|h
       ·exact .inl h
       ·exact .inr (by omega)⟩)
     clear mg YJ ZL hro iR rW xX dh UA zC ig mQ hw hk nH kK oZ HF HKEY fC fD xf z4 y3b k0 k1;go_wp2_with fail;exact BO (v:=.tuple #[.agg #[.int .i64 k.rule,.slice ka k.ids.length kc],.int .i64 0]) (by simp[results,Tryz.results60,go_sem,z0,z1]) rfl (Aa HP)
end Go.Proofs.YtolhbeekfjnfmaaGreatDoor

import Derived.Test.YtolhbeekfjnfmaaGreatDoorMA
import Derived.Deep.RegionHeld3
import Derived.Test.YtolhbeekfjnfmaaGreatDoorM43
import Derived.Test.YtolhbeekfjnfmaaGreatDoorM49
set_option maxHeartbeats 8000000
set_option maxRecDepth 100000
namespace Go.Proofs.YtolhbeekfjnfmaaGreatDoor
open Go.RowKit
def Hf(fd l:List (Int×List Int)):Option (Int×List Int):=Bw none (l.filter (fun m=>!Dz fd m))
theorem To(fd l:List (Int×List Int))(m:Int×List Int):Hf fd (l++[m])=if Dz fd m=true then Hf fd l else Cq (Hf fd l) m:=by
 unfold Hf;rw[DK,Ik];cases h:Dz fd m
 ·simp only[Bool.not_false,if_true,BZ,if_false]
  rw[G8];rfl
 ·simp only[Bool.not_true,BZ,if_false,if_true,BM]
theorem N2(a b:Int×List Int)(VK:a.2.length<=4)(hb4:b.2.length<=4)(ha:∀x∈a.2,1<=x)(hb:∀x∈b.2,1<=x):D3 (Bm a.2) (Bm b.2)=Bc a b:=by
 unfold Bc;exact Qc _ _ VK hb4 ha hb
theorem YAt.pushF{y:Nat}{rv lv cv fv:Value}{rs:List Sv.Rule}{L:List VTh}{fd:List VMt}{W w5:World}{k:VMt}{nv:Value}(hy:YAt y rv lv cv fv rs L W)(jk:MsAt 0 fv fd W)(hk:IsAt 0 k.v k.ids W)
 (hv:RowAt 52 2 mtenc 0 nv (fd++[k]) w5)(hg:W.grownBy w5 fv.ownBlock) :
  w5.cell? ⟨y,3,none⟩=some fv/\w5.frozen? ⟨y,3,none⟩=false/\some y≠fv.ownBlock/\YAt y rv lv cv nv rs L (w5.setCell ⟨y,3,none⟩ nv)/\MsAt 0 nv (fd++[k]) (w5.setCell ⟨y,3,none⟩ nv):=by
 have hrow:=RowOk.of jk.1.2
 have hne:some y≠fv.ownBlock:=by
  intro e;obtain⟨_,cur,fz,h⟩:=hrow y e.symm;rw[hy.blk] at h;simp at h
 have hb:w5.heap[y]?=some (.cells #[rv,lv,cv,fv] 172 (0,0)):=by rw[hg.block y (Af hy.blk) hne];exact hy.blk
 have hro:=RowOk.blk hb;have ae:=Aj w5 y 3 nv;refine⟨by simp[World.cell?,hb],by simp[World.frozen?,hb],hne,⟨?_,?_,?_,?_⟩,?_,?_⟩
 ·rw[BB w5 y 3 _ _ _ hb]
  rfl
 ·exact(hy.rules.row hg hrow (by decide) (by decide) (by decide)).row ae hro (by decide) (by decide) (by decide)
 ·exact(hy.facts.row hg hrow (by decide)).row ae hro (by decide)
 ·exact fun t ht=>⟨(((hy.vals t ht).1).row hg hrow (by decide)).row ae hro (by decide),(hy.vals t ht).2⟩
 ·exact hv.row ae hro (by decide)
 ·intro m hm
  rcases AY.1 hm with h|h
  ·exact((jk.2 m h).row hg hrow (by decide)).row ae hro (by decide)
  ·simp only[AX] at h
   subst h;exact(hk.row hg hrow (by decide)).row ae hro (by decide)
theorem Wu{b:Nat}{x y x0 y0:Value}{ty:Nat}{w:World}(h:w.heap[b]?=some (.cells #[x0,y0] ty (0,0))) :
  (w.cell? ⟨b,0,none⟩=some x0/\w.cell? ⟨b,1,none⟩=some y0/\∀k,w.frozen? ⟨b,k,none⟩=false)/\
  (((w.setCell ⟨b,0,none⟩ x).setCell ⟨b,1,none⟩ y).cell? ⟨b,0,none⟩=some x/\((w.setCell ⟨b,0,none⟩ x).setCell ⟨b,1,none⟩ y).cell? ⟨b,1,none⟩=some y/\(w.setCell ⟨b,0,none⟩ x).cell? ⟨b,0,none⟩=some x/\(w.setCell ⟨b,0,none⟩ x).cell? ⟨b,1,none⟩=some y0/\∀k,(w.setCell ⟨b,0,none⟩ x).frozen? ⟨b,k,none⟩=false)/\
  w.grownBy ((w.setCell ⟨b,0,none⟩ x).setCell ⟨b,1,none⟩ y) (some b):=by
 have k1:=BB _ b 0 _ _ x h;have k2:=BB _ b 1 _ _ y k1;exact⟨⟨Az h rfl,Az h rfl,fun k=>by simp[World.frozen?,h]⟩,⟨Az k2 rfl,Az k2 rfl,Az k1 rfl,Az k1 rfl,fun k=>by simp[World.frozen?,k1]⟩,Ab (Aj _ b 0 x) (Aj _ b 1 y)⟩
def Gg(y:Nat)(rv lv cv fv:Value)(rs:List Sv.Rule)(L:List VTh)(fd:List VMt)(w:World)(e:Ending)(w':World):Prop:=
 match Hf (fd.map VMt.of) (Am rs (L.map VTh.of)) with
 | none=>e=.returned (.tuple #[.agg #[.int .i64 0,.slice none 0 0],.int .i64 5])/\w.grownBy w' none
 | some m=>∃ag k ao cap,k.of=m/\k.v=.slice ao k.ids.length cap/\e=.returned (.tuple #[.agg #[.int .i64 k.rule,.slice ao k.ids.length cap],.int .i64 0])/\GrS (fun i=>i=y\/fv.ownBlock=some i) w w'/\
  YAt y rv lv cv ag rs L w'/\MsAt 0 ag (fd++[k]) w'/\(∀g,k.v.ownBlock=some g->w.heap.size<=g)/\∀g,ag.ownBlock=some g->fv.ownBlock=some g\/w.heap.size<=g
theorem Q16(y:Nat)(rv lv cv fv:Value)(rs:List Sv.Rule)(L:List VTh)(fd:List VMt)(w:World)(hy:YAt y rv lv cv fv rs L w)(aK:Sv.RsOk rs)(hL:L.length<=16)(jk:MsAt 0 fv fd w)(hfb:fd.length<=1000000)
 (cS:(Am rs (L.map VTh.of)).length<=1000000)(cG:∀m∈Am rs (L.map VTh.of),m.2.length<=4/\∀x∈m.2,1<=x) :
  Calls Tryz.prog 60 #[.pointer (some ⟨y,0,none⟩)] w fun e w'=>Gg y rv lv cv fv rs L fd w e w':=by
 obtain⟨sL,jM,rfl⟩:=jk.slice;have a7:=AA w (.cells #[.int .i64 0,.slice none 0 0] 52) none;have sI:=AR w (.cells #[.int .i64 0,.slice none 0 0] 52);have hM:=Ie y rv lv cv _ rs L _ (hy.gr a7) aK hL;have HY:=Ac (show _/\_/\_ from⟨hy,jk,cG⟩);have eF:=Ac (show _/\_ from⟨a7,sI⟩);clear hy jk aK a7 sI cG;go_enter Tryz.func60,Tryz.ntmps60;go_wp2_with fail;refine hM.mono ?_;rintro e w1⟨u,ms,rfl,dD,hmap,hg1⟩;obtain⟨aoM,xY,rfl⟩:=dD.slice;have ea:ms.length<=1000000:=by rw[<-hmap,BA] at cS;exact cS
 have XO:=Ac (show _/\_/\_ from⟨dD,hmap,Ab (Aa eF).1 hg1⟩);have OP:=Ac (show w.heap.size<w1.heap.size/\w1.heap[w.heap.size]?=some (.cells #[.int .i64 0,.slice none 0 0] 52 (0,0))/\w.heap.size<(w.alloc (.cells #[.int .i64 0,.slice none 0 0] 52)).heap.size from⟨AZ (Af (Aa eF).2) hg1.size,(hg1.block w.heap.size (Af (Aa eF).2) (by simp)).trans (Aa eF).2,Af (Aa eF).2⟩);clear hM dD hmap cS hg1;go_wp2;go_loopw [5,6] (fun x z w'=>∃i:Nat,i<=ms.length/\z=.int .i64 i/\w1.grownBy w' none/\Hid ((x=.int .i64 (-1)/\Hf (fd.map VMt.of) ((ms.take i).map VMt.of)=none)\/(∃(j:Nat) (k:VMt),x=.int .i64 j/\ms[j]?=some k/\Hf (fd.map VMt.of) ((ms.take i).map VMt.of)=some k.of))) (fun _ z _=>ms.length-(intOf z).toNat)
 case atStart=>exact⟨0,AG _,rfl,AD _ _,Ac (.inl ⟨rfl,rfl⟩)⟩
 case round=>
  obtain⟨i,hi,rfl,hg,HB⟩:=hrel;obtain⟨dD,hmap,bh⟩:=Aa XO;obtain⟨hy,jk,cG⟩:=Aa HY;have ai:=Ab bh hg;have y3:=(hy.gr ai).c.2.2.2;by_cases hlt:i<ms.length
  ·have dF:decide (i<ms.length)=true:=by simpa using hlt
   obtain⟨m,hm⟩:∃m,ms[i]?=some m:=⟨ms[i],AB hlt⟩
   obtain⟨g,cp,hv,hcs⟩:=(dD.1.gr hg).cells hm;simp only[AH,BP] at hv;obtain⟨rfl,rfl⟩:=hv;have m0:wr.cell? ⟨g,i*2,none⟩=some (.int .i64 m.rule):=hcs 0 (by omega);have m1:wr.cell? ⟨g,i*2+1,none⟩=some m.v:=hcs 1 (by omega);have gy:=((dD.2 m (AV hm)).gr hg).weak (AG _);obtain⟨ma,mc,kq⟩:=gy.slice;rw[kq] at m1 gy;have hH:=fun(W:World) (hW:wr.grownBy W none)=>Q07 fd _ m ma mc W (jk.gr (Ab ai hW)) (gy.gr hW)
   have hst:=To (fd.map VMt.of) ((ms.take i).map VMt.of) m.of;rw[<-Da VMt.of ms i m hm] at hst;have dw:m.of∈Am rs (L.map VTh.of):=by rw[<-hmap];exact CL.2 ⟨m,AV hm,rfl⟩
   obtain⟨d,hd⟩:∃d,Dz (fd.map VMt.of) m.of=d:=⟨_,rfl⟩
   rw[hd] at hst hH;have HD:=Ac (show _/\_/\_/\_/\_/\_/\_ from⟨hst,dD,cG,hmap,gy,dw,hm⟩);clear hst dD cG hmap gy dw hm hd hcs kq hy jk ai bh;go_wp2_with fail
   go_cut [7] (fun s wx=>s=.bool d/\wr.grownBy wx none)
   case first=>
    go_region_with (go_at_call 86;refine(hH _ (by repeat (first|exact AD _ _|apply Ah))).mono ?_;rintro e w2⟨rfl,hg2⟩)
    all_goals
     go_wp2_with fail;go_meet
     exact⟨rfl,Ab (Ah (AD _ _)) hg2⟩
   case rest=>
    obtain⟨rfl,hg2⟩:=hcut;obtain⟨hst,dD,cG,hmap,gy,dw,hm⟩:=Aa HD;clear hH HD;have YP:=hg2.cell m0 (by simp);have m12:=hg2.cell m1 (by simp);have bP:=Ab hg hg2;have qb:=hg2;clear m0 m1 y3 hg2;cases d
    ·simp only[BZ,if_false] at hst
     rcases Aa HB with ⟨rfl,hw⟩|⟨j,k,rfl,hk,hw⟩
     ·rw[hw] at hst
      have HN:=Ac (show (Value.int .i64 (i:Int)=.int .i64 (-1)/\Hf (fd.map VMt.of) ((ms.take (i+1)).map VMt.of)=none)\/(∃(j:Nat) (k:VMt),Value.int .i64 (i:Int)=.int .i64 j/\ms[j]?=some k/\Hf (fd.map VMt.of) ((ms.take (i+1)).map VMt.of)=some k.of) from .inr ⟨i,m,rfl,hm,hst⟩);clear hst dD cG hmap gy dw hm hw HB;go_wp2;go_quiet (fail);go_wp2;go_roundw
      case rel=>exact⟨i+1,by omega,by go_num,Ab bP (Ad _ _ _),HN⟩
      case measure=>simp[intOf];omega
     ·have iQ:j<ms.length:=(AL.1 hk).1
      have hb1:(0:Int)<=(j:Int):=by omega
      have hb2:(j:Int)<(ms.length:Int):=by omega
      have VD:decide ((j:Int)<0)=false:=by simp
      obtain⟨g',cp',hv',nP⟩:=(dD.1.gr bP).cells hk;simp only[AH,AE,BK,BP,BX] at hv';obtain⟨rfl,rfl⟩:=hv';have k0:wc.cell? ⟨g,j*2,none⟩=some (.int .i64 k.rule):=nP 0 (by omega);have k1:wc.cell? ⟨g,j*2+1,none⟩=some k.v:=nP 1 (by omega);have pO:=((dD.2 k (AV hk)).gr bP).weak (AG _);obtain⟨ka,kc,oF⟩:=pO.slice;rw[oF] at k1 pO;have sj:k.of∈Am rs (L.map VTh.of):=by rw[<-hmap];exact CL.2 ⟨k,AV hk,rfl⟩
      have zj:=gy.gr qb;have hN:=fun(W:World) (hW:wc.grownBy W none)=>Y2 m.rule k.rule _ _ m.ids k.ids W (zj.gr hW) (pO.gr hW) (by have:=(cG _ dw).1;show m.of.2.length<=100;omega) (by have:=(cG _ sj).1;show k.of.2.length<=100;omega)
      have kj:D3 (Bm m.ids) (Bm k.ids)=Bc m.of k.of:=N2 m.of k.of (cG _ dw).1 (cG _ sj).1 (cG _ dw).2 (cG _ sj).2;rw[kj] at hN;rw[hw] at hst;unfold Cq at hst;simp only at hst;obtain⟨d,hd⟩:∃d,Bc m.of k.of=d:=⟨_,rfl⟩
      rw[hd] at hst hN;have HD:=Ac (show _/\_/\_ from⟨hst,hm,hk⟩);clear hst dD cG hmap gy zj pO dw sj hm hk hd hw kj nP HB oF;go_wp2_with fail;have hS:∀W:World,wc.grownBy W none->wc.grownBy W none/\W.cell? ⟨g,i*2,none⟩=some (.int .i64 m.rule)/\W.cell? ⟨g,i*2+1,none⟩=some (.slice ma m.ids.length mc)/\W.cell? ⟨g,j*2,none⟩=some (.int .i64 k.rule)/\W.cell? ⟨g,j*2+1,none⟩=some (.slice ka k.ids.length kc):=fun W hW=>⟨hW,hW.cell YP (by simp),hW.cell m12 (by simp),hW.cell k0 (by simp),hW.cell k1 (by simp)⟩
      go_cut [38] (fun s wx=>s=.bool d/\wc.grownBy wx none)
      case first=>
       go_region_held3 (fun w'=>wc.grownBy w' none/\w'.cell? ⟨g,i*2,none⟩=some (.int .i64 m.rule)/\w'.cell? ⟨g,i*2+1,none⟩=some (.slice ma m.ids.length mc)/\w'.cell? ⟨g,j*2,none⟩=some (.int .i64 k.rule)/\w'.cell? ⟨g,j*2+1,none⟩=some (.slice ka k.ids.length kc))
        (first|exact hS _ (Ab (Ah (AD _ _)) hg2)|exact hS _ (Ah (AD _ _))|exact hS _ (AD _ _)|go_keep)
        (first|(go_at_call 87;refine(hN _ (Ah (AD _ _))).mono ?_;rintro e w2⟨rfl,hg2⟩))
       all_goals
        go_wp2_with fail;go_meet
        exact⟨rfl,Ab (Ah (AD _ _)) hg2⟩
      case rest=>
       obtain⟨rfl,hg3⟩:=hcut;obtain⟨hst,hm,hk⟩:=Aa HD;have hgd:=Ab bP hg3;clear hN HD hg3;cases d
       ·simp only[BZ,if_false] at hst
        have HN:=Ac (show (Value.int .i64 (j:Int)=.int .i64 (-1)/\Hf (fd.map VMt.of) ((ms.take (i+1)).map VMt.of)=none)\/(∃(j':Nat) (k:VMt),Value.int .i64 (j:Int)=.int .i64 j'/\ms[j']?=some k/\Hf (fd.map VMt.of) ((ms.take (i+1)).map VMt.of)=some k.of) from .inr ⟨j,k,rfl,hk,hst⟩);clear hst hm hk;go_wp2;go_roundw
        case rel=>exact⟨i+1,by omega,by go_num,hgd,HN⟩
        case measure=>simp[intOf];omega
       ·simp only[if_true] at hst
        have HN:=Ac (show (Value.int .i64 (i:Int)=.int .i64 (-1)/\Hf (fd.map VMt.of) ((ms.take (i+1)).map VMt.of)=none)\/(∃(j:Nat) (k:VMt),Value.int .i64 (i:Int)=.int .i64 j/\ms[j]?=some k/\Hf (fd.map VMt.of) ((ms.take (i+1)).map VMt.of)=some k.of) from .inr ⟨i,m,rfl,hm,hst⟩);clear hst hm hk;go_wp2;go_roundw
        case rel=>exact⟨i+1,by omega,by go_num,hgd,HN⟩
        case measure=>simp[intOf];omega
    ·simp only[if_true] at hst
     have HN:=HB;rw[<-hst] at HN;clear hst dD cG hmap gy dw hm HB;go_wp2;go_roundw
     case rel=>exact⟨i+1,by omega,by go_num,bP,HN⟩
     case measure=>simp[intOf];omega
  ·have dF:decide (i<ms.length)=false:=by simpa using hlt
   rw[CB (by omega),hmap] at HB;have hres:wr.heap[w.heap.size]?=some (.cells #[.int .i64 0,.slice none 0 0] 52 (0,0)):=(hg.block w.heap.size (Aa OP).1 (by simp)).trans (Aa OP).2.1;rcases Aa HB with ⟨rfl,hw⟩|⟨j,k,rfl,hk,hw⟩
   ·obtain⟨⟨x0,x1,xf⟩,⟨z0,z1,z2,z3,z4⟩,jF⟩:=Wu (x:=.int .i64 0) (y:=.slice none 0 0) hres
    have HF:=Ac (show _/\_ from⟨hw,A8 ai jF (AW _)⟩);have xf0:=xf 0;have z41:=z4 1;clear hw jF hres hy jk dD hmap cG ai bh HB xf z4;go_wp2_with fail;refine BN (v:=.tuple #[.agg #[.int .i64 0,.slice none 0 0],.int .i64 5]) (by simp[results,Tryz.results60,go_sem,z0,z1]) rfl ?_;unfold Gg;rw[(Aa HF).1];exact⟨rfl,(Aa HF).2⟩
   ·have iQ:j<ms.length:=(AL.1 hk).1
    have hb1:(0:Int)<=(j:Int):=by omega
    have hb2:(j:Int)<(ms.length:Int):=by omega
    have VD:decide ((j:Int)<0)=false:=by simp
    obtain⟨g,cp,hv,hcs⟩:=(dD.1.gr hg).cells hk;simp only[AH,BP] at hv;obtain⟨rfl,rfl⟩:=hv;have k0:wr.cell? ⟨g,j*2,none⟩=some (.int .i64 k.rule):=hcs 0 (by omega);have k1:wr.cell? ⟨g,j*2+1,none⟩=some k.v:=hcs 1 (by omega);have pO:=((dD.2 k (AV hk)).gr hg)
    have l7:=pO.own;obtain⟨ka,kc,oF⟩:=pO.slice;rw[oF] at k1;have aO:=Ah (AA wr (.cells #[.int .i64 k.rule,.slice ka k.ids.length kc] 52) none);obtain⟨W5,gP⟩:∃W5,(wr.alloc (.cells #[.int .i64 k.rule,.slice ka k.ids.length kc] 52)).drew=W5:=⟨_,rfl⟩
    have aG:RowAt 52 2 mtenc 0 _ [k] (wr.alloc (.cells #[.int .i64 k.rule,.slice ka k.ids.length kc] 52)).drew:=((RowAt.lit1 Cz wr k #[.int .i64 k.rule,.slice ka k.ids.length kc] (by unfold mtenc;rw[oF])).weak (AG _)).heap rfl;rw[gP] at aO aG;have tj:=(hy.gr ai).gr aO;have lD:=(jk.gr ai).gr aO;have zx:=(pO.gr aO).weak (AG _);have LC:=Ab ai aO;have kr:=(dD.1.gr hg).gr aO;have ke:=(aO.block w.heap.size (Af hres) (by simp)).trans hres;have pQ:∀b,(Value.slice sL fd.length jM).ownBlock=some b->b<w.heap.size:=fun b hb=>(jk.1.own b hb).2
    have bw:∀x∈[k],∀c∈mtenc x,c.oneCell'=true:=by
     intro x hx;simp only[AX] at hx;subst hx;exact Gf x (by rw[oF];rfl)
    have sQ:y<w.heap.size:=Af hy.blk
    have lO:∀g5 aI w5,RowAt 52 2 mtenc 0 (.slice (some ⟨g5,0,none⟩) (fd++[k]).length aI) (fd++[k]) w5->W5.grownBy w5 (Value.slice sL fd.length jM).ownBlock->((Value.slice sL fd.length jM).ownBlock=some g5\/g5=W5.heap.size)->
      w5.cell? ⟨y,3,none⟩=some (.slice sL fd.length jM)/\w5.frozen? ⟨y,3,none⟩=false/\
      ∃ag,YAt y rv lv cv ag rs L (w5.setCell ⟨y,3,none⟩ (.slice (some ⟨g5,0,none⟩) (fd.length+1) aI))/\MsAt 0 ag (fd++[k]) (w5.setCell ⟨y,3,none⟩ (.slice (some ⟨g5,0,none⟩) (fd.length+1) aI))/\
       GrS (fun i=>i=y\/(Value.slice sL fd.length jM).ownBlock=some i) w (w5.setCell ⟨y,3,none⟩ (.slice (some ⟨g5,0,none⟩) (fd.length+1) aI))/\
       (∀b,ag.ownBlock=some b->(Value.slice sL fd.length jM).ownBlock=some b\/w.heap.size<b)/\
       RowAt 52 2 mtenc 0 (.slice (some ⟨g,0,none⟩) ms.length xY) ms (w5.setCell ⟨y,3,none⟩ (.slice (some ⟨g5,0,none⟩) (fd.length+1) aI))/\
       (w5.setCell ⟨y,3,none⟩ (.slice (some ⟨g5,0,none⟩) (fd.length+1) aI)).heap[w.heap.size]?=some (.cells #[.int .i64 0,.slice none 0 0] 52 (0,0)):=by
     intro g5 aI w5 hv aZ hl;rw[AK,BC] at hv;obtain⟨p1,p2,p3,p4,p5⟩:=tj.pushF lD zx hv aZ;have ae:=Aj w5 y 3 (.slice (some ⟨g5,0,none⟩) (fd.length+1) aI);refine⟨p1,p2,_,p4,p5,((GrS.of LC (by simp)).then aZ (fun b hb=>.inr (.inr hb))).then ae (fun b hb=>by simp at hb;exact .inr (.inl hb.symm)),?_,?_,?_⟩
     ·intro b hb
      simp only[Value.ownBlock,AE] at hb;subst hb;rcases hl with hl|hl
      ·exact .inl hl
      ·right
       have:=Af ke;omega
     ·refine((kr.other aZ (fun b hb e=>?_)).other ae (fun b hb e=>?_)).weak (AG _)
      ·have h1:=pQ b e
       have h2:=(kr.own b hb).1;have:=(Aa OP).2.2;omega
      ·have h2:=(kr.own b hb).1
       simp only[AE] at e;have:=(Aa OP).2.2;omega
     ·rw[ae.block w.heap.size (by have:=Af ke;have:=aZ.size;omega) (by simp;omega),aZ.block w.heap.size (Af ke) (fun e=>by have:=pQ _ e.symm;omega)]
      exact ke
    have y3b:=(hy.gr (Ab ai (AA wr (.cells #[.int .i64 k.rule,.slice ka k.ids.length kc] 52) none))).c.2.2.2;have HKEY:=Ac lO;have fW:=Ac (show _/\_/\_/\_ from⟨aG,lD,bw,gP⟩);have ML:fd.length + [k].length<=maxLen:=by unfold maxLen;simp;omega
    have MK:(fd.length + [k].length)*32<=140737488355328:=by simp;omega
    have fY:=Ac (show _/\_ from⟨ML,MK⟩);have HF:=Ac (show _/\_/\_/\_/\_ from⟨hw,hk,oF,l7,pQ⟩);clear lO aG lD bw gP hw hk oF l7 ML MK hy jk cG dD hmap ai bh HB tj pO zx LC kr ke hres pQ hcs aO;go_wp2_with fail
    go_cut [] (fun wx=>∃ag,YAt y rv lv cv ag rs L wx/\MsAt 0 ag (fd++[k]) wx/\GrS (fun i=>i=y\/(Value.slice sL fd.length jM).ownBlock=some i) w wx/\
       (∀b,ag.ownBlock=some b->(Value.slice sL fd.length jM).ownBlock=some b\/w.heap.size<b)/\
       RowAt 52 2 mtenc 0 (.slice (some ⟨g,0,none⟩) ms.length xY) ms wx/\wx.heap[w.heap.size]?=some (.cells #[.int .i64 0,.slice none 0 0] 52 (0,0)))
    case first=>
     go_region_law (rw[(Aa fW).2.2.2];refine Nj rfl _ _ 43 rfl Tryz.underlying43 Tryz.infoMatch rfl (by decide) (by simp[Act.eval]) (Aa fW).2.1.1 (by simp[Act.eval]) (Aa fW).1 (by simp) (Aa fW).2.2.1 (Aa fY).1 (Aa fY).2 (AG _) ?_;intro g5 aI w5 b7 aZ aR;obtain⟨q1,q2,q3⟩:=Aa HKEY g5 aI w5 b7 aZ aR;have K3:=Ac q3;clear q3)
     all_goals
      go_wp2_with fail;go_meet
      exact Aa K3
    case rest=>
     obtain⟨ag,sR,yE,eE,UW,zh,jP⟩:=hcut;obtain⟨hw,hk,oF,l7,pQ⟩:=Aa HF;obtain⟨g',cp',hv',nP⟩:=zh.cells hk;simp only[AH,AE,BK,BP,BX] at hv';obtain⟨rfl,rfl⟩:=hv';have n0:wc.cell? ⟨g,j*2,none⟩=some (.int .i64 k.rule):=nP 0 (by omega);have n1:wc.cell? ⟨g,j*2+1,none⟩=some k.v:=nP 1 (by omega);rw[oF] at n1;obtain⟨⟨x0,x1,xf⟩,⟨z0,z1,z2,z3,z4⟩,jF⟩:=Wu (x:=.int .i64 k.rule) (y:=.slice ka k.ids.length kc) jP;have xf0:=xf 0;have z41:=z4 1;have hro:=RowOk.blk jP;have nY:GrS (fun i=>i=y\/(Value.slice sL fd.length jM).ownBlock=some i) w _:=eE.then jF (fun b hb=>by simp at hb;exact .inl (CZ hb))
     have YX:YAt y rv lv cv ag rs L _:=⟨(jF.block y (Af sR.blk) (by simp;omega)).trans sR.blk,sR.rules.row jF hro (by decide) (by decide) (by decide),sR.facts.row jF hro (by decide),fun t ht=>⟨(sR.vals t ht).1.row jF hro (by decide),(sR.vals t ht).2⟩⟩
     have ZZ:MsAt 0 ag (fd++[k]) _:=⟨yE.1.other jF (fun b hb e=>by
      simp only[AE] at e;rcases UW b hb with h|h
      ·have:=pQ b h;omega
      ·omega),fun m hm=>(yE.2 m hm).row jF hro (by decide)⟩
     have HP:=Ac (show Gg y rv lv cv (.slice sL fd.length jM) rs L fd w (.returned (.tuple #[.agg #[.int .i64 k.rule,.slice ka k.ids.length kc],.int .i64 0])) _ from by
      unfold Gg;rw[hw]
      exact⟨ag,k,ka,kc,rfl,oF,rfl,nY,YX,ZZ,fun b hb=>by have:=(l7 b hb).1;have:=(Aa OP).2.2;omega,fun b hb=>by
       rcases UW b hb with h|h
       ·exact .inl h
       ·exact .inr (by omega)⟩)
     clear nY YX ZZ hro jF sR yE eE UW zh jP nP hw hk oF l7 pQ HF HKEY fW fY xf z4 y3b k0 k1;go_wp2_with fail;exact BN (v:=.tuple #[.agg #[.int .i64 k.rule,.slice ka k.ids.length kc],.int .i64 0]) (by simp[results,Tryz.results60,go_sem,z0,z1]) rfl (Aa HP)
end Go.Proofs.YtolhbeekfjnfmaaGreatDoor

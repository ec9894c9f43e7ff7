import Derived.Test.YtolhbeekfjnfmaaGreatDoorMA
import Derived.Test.YtolhbeekfjnfmaaGreatDoorM39
import Derived.Test.YtolhbeekfjnfmaaGreatDoorM51
set_option maxHeartbeats 8000000
set_option maxRecDepth 100000
namespace Go.Proofs.YtolhbeekfjnfmaaGreatDoor
open Go.RowKit
abbrev JU:=@World.new_ne
variable {T:Nat->Nat}{W k:Nat}{aH:List Nt}{nv uv fv mv k0 k1 k2 lv:Value}{us fs ms:List (Value×Int)}{ls:List Value}{w w9:World}
theorem GrS.cell{S:Nat->Prop}{w w':World}(h:GrS S w w'){a:Addr}{v:Value}(hc:w.cell? a=some v)(hs:¬ S a.block):w'.cell? a=some v:=by
 rw[EB (h.block a.block (CE w a hc) hs)];exact hc
theorem Sv.StG.fire_len{s:Sv.St}(h:Sv.StG s):s.fire.1.1.2.length<=4:=by
 unfold Sv.St.fire;split
 ·exact AG _
 ·rename_i m hm
  exact(h.ids m ((I6 s m).1 (Kb _ _ hm)).1).1
theorem Vo{T5 T6:Nat->Nat}{i:Nat}{n:Nt}{s':Sv.St}{w5 wa w6:World}(hL:Lists T W nv uv fv mv k0 k1 k2 lv us fs ms ls w)(hN:NetsAt T nv aH k w)(hn:aH[i]?=some n)(hs:Sv.StG s')(hc:s'.cnt<=n.s.cnt)
 (G1:GrS (fun j=>T j=11+3*i) w w5)(hX:XT T5 (11+3*i) n.x s' w5)(o5:∀j,j<w.heap.size->T5 j=T j)(dZ:w5.grownBy wa none)(G2:GrS (fun j=>T5 j=12+3*i) wa w6)(hY:YT T6 (12+3*i) n.y s' w6)(o6:∀j,j<wa.heap.size->T6 j=T5 j)(UM:w6.grownBy w9 none) :
  Lists T6 W nv uv fv mv k0 k1 k2 lv us fs ms ls w9/\NetsAt T6 nv (aH.set i ⟨n.x,n.y,s'⟩) (k+1) w9/\GrS (fun j=>T j=11+3*i\/T j=12+3*i) w w9/\∀j,j<w.heap.size->T6 j=T j:=by
 have hs5:=G1.size;have hsa:=dZ.size;have QA:=G2.size;have o7:∀j,j<w.heap.size->T6 j=T j:=fun j hj=>by rw[o6 j (by omega),o5 j hj]
 have hG:GrS (fun j=>T j=11+3*i\/T j=12+3*i) w w9:=by
  refine((((G1.mono (fun j h=>.inl h)).then dZ (by simp)).comp G2 (fun j hj gK=>?_)).then UM (by simp));rw[o5 j hj];exact fun e=>gK (.inr e)
 have hXa:XT T5 (11+3*i) n.x s' wa:=hX.gr dZ (fun _ _=>rfl);have sG:XT T6 (11+3*i) n.x s' w6:=hXa.keep G2 (fun j hj=>by omega) (fun j hj _=>o6 j hj);obtain⟨_,_,_,sD⟩:=hN.net i n hn;refine⟨hL.keepS hG (fun j h1 h2=>by omega) (fun j hj _ _=>o7 j hj),hN.set hn (hG.mono (fun j hj=>by omega)) o7 (sG.gr UM (fun _ _=>rfl)) (hY.keep (GrS.of UM (by simp):GrS (fun _=>False) w6 w9) (by simp) (fun _ _ _=>rfl)) hs (by omega),hG,o7⟩
theorem X1{T0:Nat->Nat}{m:Nat}{w':World}{e:Ending}(hL:Lists T W nv uv fv mv k0 k1 k2 lv us fs ms ls w9)(hN:NetsAt T nv aH (k+1) w9)(hm:aH.length=m)(h3:us.length<=k*2100000)(h4:fs.length<=4*k)(h5:ms.length<=4*k)(h6:ls.length<=k)
 (hG:GrS (fun j=>T0 j≠0) w w9)(o7:∀j,j<w.heap.size->T j=T0 j)(hp:Jk T 13 W nv fv mv k1 k2 lv us w9 e w'):B8 T0 W k m w (.returned (.bool true)) w':=by
 obtain⟨_,T',kA,kB,jN,j1,j2,j3,j4,j5⟩:=hp;have hI:InH 13:=⟨by omega,by omega⟩
 have vF:∀j,Zy (T j)->¬ (T j=1\/T j=3\/T j=6\/T j=13):=by
  rintro j (h|h|⟨h,h2⟩) (e|e|e|e)<;>first|omega|exact h2 (by rw[e];exact hI)
 have hW1:=hL.own;refine⟨rfl,T',aH,⟨nv,kA,fv,mv,kB,k1,k2,lv,jN,fs,ms,ls,⟨j1,by rw[j5 W (Af hL.blk) (by omega)];exact hW1,j2,?_,?_,?_⟩,hN.keep (AW _) j4 vF (fun j hj h=>j5 j hj (fun e=>vF j h (by omega))),?_,by omega,by omega,by omega⟩,hm,?_,fun j hj h0=>?_⟩
 ·exact hL.lent.keep j4 (fun j hj=>by omega) (fun j hj jg=>j5 j hj (by omega))
 ·exact hL.facts.keep j4 (fun j hj=>by omega) (fun j hj jg=>j5 j hj (by omega))
 ·exact hL.mats.keep j4 (fun j hj=>by omega) (fun j hj jg=>j5 j hj (by omega))
 ·have:(k+1)*2100000=k*2100000+2100000:=by rw[GS,KB]
  rw[this,j3];omega
 ·refine hG.comp j4 (fun j hj hn hx=>?_)
  rw[o7 j hj] at hx;exact hn (fun e=>by omega)
 ·rw[j5 j (AZ hj hG.size) (by rw[o7 j hj,h0];omega),o7 j hj,h0]
theorem Q05(T:Nat->Nat)(W:Nat)(aH:List Nt)(k:Nat)(w:World)(hW:WAt T W aH k w)(hk:k<=2000000)(q n:Int)(hn:I64 n)(s:ByteArray)(f:Sv.Fact)(bO:Option Addr)(fc:Nat)(hf:InAt (.slice bO f.vals.length fc) f.vals w)(hf0:f.vals≠[]->∀g,(Value.slice bO f.vals.length fc).ownBlock=some g->g<w.heap.size/\T g=0)(cH:f.vals.length<=1048576)(a:Int)(oo:q≠1)(dQ:q≠2)(yD:q<=7)(hne:0<aH.length)(hnl:aH.length<=k) :
  Calls Tryz.prog 33 #[.pointer (some ⟨W,0,none⟩),.agg #[.int .i64 q,.int .i64 n,.string s,.int .i64 f.kind,.slice bO f.vals.length fc,.int .i64 a]] w fun e w'=>B8 T W k aH.length w e w':=by
 have a7:=AA w (.cells #[.int .i64 q,.int .i64 n,.string s,.int .i64 f.kind,.slice bO f.vals.length fc,.int .i64 a] 76) none;have ZA:=AR w (.cells #[.int .i64 q,.int .i64 n,.string s,.int .i64 f.kind,.slice bO f.vals.length fc,.int .i64 a] 76);have kZ:(w.alloc (.cells #[.int .i64 q,.int .i64 n,.string s,.int .i64 f.kind,.slice bO f.vals.length fc,.int .i64 a] 76)).heap.size=w.heap.size+1:=by simp
 have sX:=Kx n aH.length (by omega);obtain⟨i,hi⟩:∃i:Nat,G0 n aH.length=i:=⟨(G0 n aH.length).toNat,by omega⟩
 have QB:=fun(wx:World)=>Q2w n aH.length hn (by omega) (by omega) wx
 rw[hi] at QB sX;have eW:i<aH.length:=by omega
 obtain⟨nt,TS⟩:∃nt,aH[i]?=some nt:=⟨_,AB eW⟩
 have hWW:=hW;obtain⟨nv,uv,fv,mv,k0,k1,k2,lv,us,fs,ms,ls,i1,i2,i3,i4,i5,i6⟩:=hWW;obtain⟨g,nc,eM,hcs⟩:=i2.row.1.cells TS;have c0:w.cell? ⟨W,0,none⟩=some (.slice (some ⟨g,0,none⟩) aH.length nc):=by rw[i1.blk.cell 0,<-eM];rfl
 have r0:w.cell? ⟨g,i*2,none⟩=some (.pointer (some ⟨nt.x,0,none⟩)):=hcs 0 (by omega);have r1:w.cell? ⟨g,i*2+1,none⟩=some (.pointer (some ⟨nt.y,0,none⟩)):=hcs 1 (by omega);have e1:(q==1)=false:=by simpa using oo
 have e2:(q==2)=false:=by simpa using dQ
 have e3:((aH.length:Int)==0)=false:=by simp;intro h;rw[h] at hne;simp at hne
 have HF:=Ac hf;have xq:=Ac hf0;have HW:=Ac hW;have HI:=Ac (show Lists T W nv uv fv mv k0 k1 k2 lv us fs ms ls w/\NetsAt T nv aH k w/\us.length<=k*2100000/\fs.length<=4*k/\ms.length<=4*k/\ls.length<=k from⟨i1,i2,i3,i4,i5,i6⟩);have OT:=Ac TS;have a0:=a7.cell c0 (by simp);have a1:=a7.cell r0 (by simp);have a2:=a7.cell r1 (by simp);obtain⟨fl,nN⟩:∃fl,f.vals.length=fl:=⟨_,rfl⟩
 have oV:=Ac nN;rw[nN] at a7 ZA kZ a0 a1 a2;rw[nN];clear hf hf0 hW i1 i2 i3 i4 i5 i6 hcs eM c0 r0 r1 TS hi hn nN;go_enter Tryz.func33,Tryz.ntmps33;go_wp2_with fail;have b0:(w.alloc (.cells #[.int .i64 q,.int .i64 n,.string s,.int .i64 f.kind,.slice bO fl fc,.int .i64 a] 76)).cell? ⟨w.heap.size,0,none⟩=some (.int .i64 q):=by simp
 have b1:(w.alloc (.cells #[.int .i64 q,.int .i64 n,.string s,.int .i64 f.kind,.slice bO fl fc,.int .i64 a] 76)).cell? ⟨w.heap.size,1,none⟩=some (.int .i64 n):=by simp
 have b5:(w.alloc (.cells #[.int .i64 q,.int .i64 n,.string s,.int .i64 f.kind,.slice bO fl fc,.int .i64 a] 76)).cell? ⟨w.heap.size,5,none⟩=some (.int .i64 a):=by simp
 have b3:(w.alloc (.cells #[.int .i64 q,.int .i64 n,.string s,.int .i64 f.kind,.slice bO fl fc,.int .i64 a] 76)).cell? ⟨w.heap.size,3,none⟩=some (.int .i64 f.kind):=by simp
 have b4:(w.alloc (.cells #[.int .i64 q,.int .i64 n,.string s,.int .i64 f.kind,.slice bO fl fc,.int .i64 a] 76)).cell? ⟨w.heap.size,4,none⟩=some (.slice bO fl fc):=by simp
 clear ZA;generalize w.alloc (.cells #[.int .i64 q,.int .i64 n,.string s,.int .i64 f.kind,.slice bO fl fc,.int .i64 a] 76)=wA at a7 kZ a0 a1 a2 b0 b1 b3 b4 b5⊢
 have nD:∀wx,wA.grownBy wx none->Calls Tryz.prog 53 #[.int .i64 n,.int .i64 aH.length] wx fun e w2=>e=.returned (.int .i64 i)/\wA.grownBy w2 none/\w2.cell? ⟨W,0,none⟩=some (.slice (some ⟨g,0,none⟩) aH.length nc)/\w2.cell? ⟨w.heap.size,1,none⟩=some (.int .i64 n)/\w2.cell? ⟨g,i*2,none⟩=some (.pointer (some ⟨nt.x,0,none⟩))/\w2.cell? ⟨g,i*2+1,none⟩=some (.pointer (some ⟨nt.y,0,none⟩)):=by
  intro wx hx;refine(QB wx).mono ?_;rintro e w2⟨rfl,rfl⟩;exact⟨rfl,hx,hx.cell a0 (by simp),hx.cell b1 (by simp),hx.cell a1 (by simp),hx.cell a2 (by simp)⟩
 have hil2:(i:Int)<(aH.length:Int):=by omega
 go_cut [15] (fun z wx=>∃bp,z=.pointer (some ⟨bp,0,none⟩)/\w.heap.size<=bp/\Hid (wA.grownBy wx none/\wx.heap[bp]?=some (.cells #[.pointer (some ⟨nt.x,0,none⟩),.pointer (some ⟨nt.y,0,none⟩)] 106 (0,0))))
 case first=>
  have n0:=JU wA _ a0;have n1:=JU wA _ a1;have n2:=JU wA _ a2;have n3:=JU wA _ b1;have qY:(0:Int)<=(i:Int):=by omega
  clear HF xq HW HI OT oV b0 b3 b4 b5 nD a7
  go_region_held3 (fun w'=>w'.cell? ⟨W,0,none⟩=some (.slice (some ⟨g,0,none⟩) aH.length nc)/\w'.cell? ⟨w.heap.size,1,none⟩=some (.int .i64 n)/\w'.cell? ⟨g,i*2,none⟩=some (.pointer (some ⟨nt.x,0,none⟩))/\w'.cell? ⟨g,i*2+1,none⟩=some (.pointer (some ⟨nt.y,0,none⟩))) (go_keep)
   (first|(go_at_call 53;refine(QB _).mono ?_;rintro e w2⟨rfl,rfl⟩))
  all_goals
   go_wp2_with fail;go_meet
   have hbn:=AR wA (.cells #[.pointer (some ⟨nt.x,0,none⟩),.pointer (some ⟨nt.y,0,none⟩)] 106);rw[kZ] at hbn;exact⟨_,rfl,by omega,Ac ⟨by repeat (first|with_reducible exact AD _ _|with_reducible apply Ah|with_reducible refine E6 ?_ _),hbn⟩⟩
 case rest=>
  obtain⟨bp,rfl,MG,HC⟩:=hcut;obtain⟨bP,ug⟩:=Aa HC;have p0:wc.cell? ⟨bp,0,none⟩=some (.pointer (some ⟨nt.x,0,none⟩)):=by simp[World.cell?,ug]
  have p1:wc.cell? ⟨bp,1,none⟩=some (.pointer (some ⟨nt.y,0,none⟩)):=by simp[World.cell?,ug]
  have d0:=bP.cell b0 (by simp);have d5:=bP.cell b5 (by simp);have d3:=bP.cell b3 (by simp);have d4:=bP.cell b4 (by simp);have ai:=Ab a7 bP;have nM:=Aa oV;obtain⟨T',bX⟩:∃T':Nat->Nat,T'=fun j=>if j<w.heap.size then T j else 0:=⟨_,rfl⟩
  have s8:∀j,j<w.heap.size->T' j=T j:=fun j hj=>by rw[bX];dsimp only;rw[AQ hj]
  have yj:∀j,w.heap.size<=j->T' j=0:=fun j hj=>by rw[bX];dsimp only;rw[AO (by omega)]
  obtain⟨i1,i2,i3,i4,i5,i6⟩:=Aa HI;have oN:=i1.gr ai s8;have nU:=i2.keep (AW k) (GrS.of ai (by simp):GrS (fun _=>False) w wc) (by simp) (fun j hj _=>s8 j hj);obtain⟨hx,hy,jE,sD⟩:=nU.net i nt (Aa OT);have aK:=jE.ok
  have hback:∀e w',B8 T' W k aH.length wc e w'->B8 T W k aH.length w e w':=by
   rintro e w'⟨he,T9,kO,j1,jl,j2,j3⟩;refine⟨he,T9,kO,j1,jl,(GrS.of ai (by simp):GrS (fun j=>T j≠0) w wc).comp j2 (fun j hj hn=>by rw[s8 j hj];exact hn),fun j hj h0=>j3 j (AZ hj ai.size) (by rw[s8 j hj,h0])⟩
  have HB:=Ac hback;have jA:=Ac (show Lists T' W nv uv fv mv k0 k1 k2 lv us fs ms ls wc/\NetsAt T' nv aH k wc/\us.length<=k*2100000/\fs.length<=4*k/\ms.length<=4*k/\ls.length<=k from⟨oN,nU,i3,i4,i5,i6⟩);have HX:=Ac hx;have HY:=Ac hy;have gT:=Ac aK;have XZ:=Ac sD;have HOG:=Ac jE;by_cases h3:q=3
  ·have hA:=Q3r XT Q4a T' W nv uv fv mv k0 k1 k2 lv us fs ms ls wc oN (11+3*i) (12+3*i) nt.x nt.y nt.s (by omega) (by omega) (by omega) (Q0w i) (Q04 i) hx hy aK (by omega) f bO fc ((Aa HF).gr ai) (fun hne g hg=>by obtain⟨q1,q2⟩:=Aa xq hne g hg;exact⟨AZ q1 ai.size,by rw[s8 g q1,q2]⟩) cH (by omega)
   rw[nM] at hA;have dc:∀e w',Je XT T' W nv uv fv mv k0 k1 k2 us fs ms ls (11+3*i) (12+3*i) nt.x nt.y (nt.s.add f).2 wc e w'->B8 T W k aH.length w e w':=fun e w' hp=>hback e w' (WAt.add nU (Aa OT) i3 i4 i5 i6 e hp)
   have s4:=Ac dc;have f1:(q==3)=true:=by simpa using h3
   clear dc hback hx hy aK jE sD oN nU i1 i2 i3 i4 i5 i6 HB jA HX HY gT XZ bX s8 HC ug nM a0 a1 a2 b0 b1 b3 b4 nD bP ai;go_wp2_with fail;refine hA.mono ?_;intro e w5 hp;have hsp:=Aa s4 e w5 hp;obtain⟨he,_⟩:=hp;subst he;have tS:=Ac hsp;clear hsp hA s4;go_wp2;go_ret;exact Aa tS
  ·have f3:(q==3)=false:=by simpa using h3
   by_cases h4:q=4
   ·have hA:=Q2c XT Q4a T' W nv uv fv mv k0 k1 k2 lv us fs ms ls wc oN (11+3*i) (12+3*i) nt.x nt.y nt.s (by omega) hx hy aK (by omega) (by omega)
    have dc:∀e w',Kv T' W nv mv k2 lv us fs ms ls wc e w'->B8 T W k aH.length w e w':=fun e w' hp=>hback e w' (WAt.tell nU i3 i4 i5 i6 e hp)
    have s4:=Ac dc;have f1:(q==4)=true:=by simpa using h4
    clear dc hback hx hy aK jE sD oN nU i1 i2 i3 i4 i5 i6 HB jA HX HY gT XZ bX s8 HC ug nM a0 a1 a2 b0 b1 b3 b4 nD bP ai;go_wp2_with fail;refine hA.mono ?_;intro e w5 hp;have hsp:=Aa s4 e w5 hp;obtain⟨he,_⟩:=hp;subst he;have tS:=Ac hsp;clear hsp hA s4;go_wp2;go_ret;exact Aa tS
   ·have f4:(q==4)=false:=by simpa using h4
    by_cases h5:q=5
    ·have f5:(q==5)=true:=by simpa using h5
     have hXM:=Q09 T' (11+3*i) nt.x nt.s wc hx;clear hback hx hy aK jE sD oN nU i1 i2 i3 i4 i5 i6 bX HC ug nM a0 a1 a2 b0 b1 b3 b4 nD bP;have HGW:=Ac ai;clear ai;go_wp2_with fail;refine hXM.mono ?_;rintro e w5⟨T5,l5,xs,rfl,aZ,yR,lz,xL⟩;obtain⟨la,lc,rfl⟩:=yR.row.1.slice;have yl:=aZ.cell p1 (by simp);have nQ:=(Aa HY).keep (T':=T5) (GrS.of aZ (by simp):GrS (fun _=>False) wc w5) (by simp) (fun j hj _=>xL j hj);obtain⟨rv,lv5,fv5,L,fd,kH,_,tG,_⟩:=nQ.yat;have ju:L.length<=16:=by have:=(Aa gT).facts;rw[<-tG,BA] at this;exact this
     have QT:=Ie nt.y rv lv5 _ fv5 nt.s.rs L w5 kH (Aa gT).rules ju;unfold Wf at QT;rw[tG] at QT
     have iF:xs.length<=524288:=by
      have h1:=BJ List.length lz;rw[BA] at h1;rw[h1];exact Ry _ _ (Aa gT).rules (by have:=(Aa gT).facts;exact this)
     have HX5:=Ac lz;have RZ:=Ac yR;have HT5:=Ac xL;clear hXM nQ kH tG ju lz yR xL;go_wp2_with fail;refine QT.mono ?_;rintro e w6⟨u6,YO,rfl,WC,yE,dE⟩;obtain⟨ua,uc,rfl⟩:=WC.slice
     have rS:MsAt 0 (.slice la xs.length lc) (xs.map (fun x=>(⟨x.kind,x.v,x.vals⟩:VMt))) w6:=by
      have hh:=(Aa RZ).mtAt.gr dE;refine⟨⟨Cz,?_⟩,fun m hm=>?_⟩
      ·have e1:(xs.map (fun x=>(⟨x.kind,x.v,x.vals⟩:VMt))).flatMap mtenc=xs.flatMap ftenc:=by rw[IQ];rfl
       rw[e1,BA];exact hh.1.2
      ·obtain⟨x,hx,rfl⟩:=CL.1 hm
       exact hh.2 x hx
     have hS:=Xl _ YO _ _ w6 rS (WC.weak (AG _))
     have LV:decide ((xs.map (fun x=>(⟨x.kind,x.v,x.vals⟩:VMt))).map VMt.of=YO.map VMt.of)=true:=by
      rw[DJ,yE,<-Aa HX5,EA];rfl
     rw[LV] at hS;have LM:=Ab aZ dE;clear QT rS LV yE WC yl;go_wp2_with fail;refine hS.mono ?_;rintro e w7⟨rfl,dm⟩;have wu:=Ab LM dm;have bb:=(Aa jA).1.gr (T':=T') wu (fun _ _=>rfl);have oM:=Gu T' W nv uv fv mv k0 k1 k2 lv us fs ms ls w7 bb.blk bb.nums bb.lent bb.facts bb.mats;clear hS bb LM;go_wp2_with fail;refine oM.mono ?_;rintro e w8⟨rfl,fL⟩;have wq:=Ab wu fL;have kF:=(Aa jA).1.gr (T':=T5) wq (Aa HT5);have hH8:Hand T5 52 (.slice la xs.length lc) xs w8:=(Aa RZ).keep (GrS.of (Ab dE (Ab dm fL)) (by simp):GrS (fun _=>False) w5 w8) (by simp) (fun _ _ _=>rfl);have hb:=(Aa jA).2.2;have hO:=Q3v T5 W nv uv mv fv k0 k2 k1 lv us ms _ xs w8 kF.blk kF.own kF.nums kF.mats hH8 (by omega) (by omega) (by omega)
     have dc:∀e w',Jt T5 W nv fv k1 lv us ms xs.length w8 e w'->B8 T W k aH.length w (.returned (.bool true)) w':=by
      intro e w' hp;obtain⟨j1,T9,kO,j2,jl,j3⟩:=WAt.mats (Aa jA).1 (Aa jA).2.1 hb.1 hb.2.1 hb.2.2.1 hb.2.2.2 wq (Aa HT5) iF e hp;exact Aa HB _ w' ⟨rfl,T9,kO,j2,jl,j1,j3⟩
     have s4:=Ac dc;clear dc oM kF hH8 hb wu wq;go_wp2_with fail;refine hO.mono ?_;intro e w9 hp;have hsp:=Aa s4 e w9 hp;obtain⟨he,_⟩:=hp;subst he;have tS:=Ac hsp;clear hsp hO s4;go_wp2;go_ret;exact Aa tS
    ·have f5:(q==5)=false:=by simpa using h5
     by_cases h6:q=6
     ·have f6:(q==6)=true:=by simpa using h6
      clear h3 h4 h5 h6 oo dQ yD;have hR:=Q0e T' (11+3*i) nt.x nt.s a wc hx;have hR2:=fun(T5:Nat->Nat) (w5:World) (h:YT T5 (12+3*i) nt.y nt.s w5)=>Yg T5 (12+3*i) nt.y nt.s a w5 (by omega) h aK
      clear hback hx hy aK jE sD oN nU i1 i2 i3 i4 i5 i6 bX HC ug nM a0 a1 a2 b0 b1 b3 b4 b5 nD bP;have HGW:=Ac ai;clear ai;go_wp2_with fail;refine hR.mono ?_;rintro e w5⟨rfl,G1,T5,uk,o5⟩;have nQ:YT T5 (12+3*i) nt.y nt.s w5:=(Aa HY).keep G1 (fun j hj=>by omega) (fun j hj _=>o5 j hj);have yl:=G1.cell p1 (by show ¬ (T' bp=_);rw[yj bp MG];omega);have d55:=G1.cell d5 (by show ¬ (T' w.heap.size=_);rw[yj _ (AW _)];omega);have bo:=hR2 T5 w5 nQ
      have HK:=Ac (fun(w6:World) (T6:Nat->Nat) (G2:GrS (fun j=>T5 j=12+3*i) w5 w6) (xF:YT T6 (12+3*i) nt.y (nt.s.del a).2 w6) (o6:∀j,j<w5.heap.size->T6 j=T5 j)=>show B8 T W k aH.length w (.returned (.bool true)) w6 from by
       obtain⟨oN,nU,i3,i4,i5,i6⟩:=Aa jA;obtain⟨g1,g2⟩:=(Aa HOG).del a;obtain⟨q1,q2,q3,q4⟩:=Vo oN nU (Aa OT) g1 (by rw[g2];exact FU _) G1 uk o5 (AD _ _) G2 xF o6 (AD _ _);refine Aa HB _ w6 ⟨rfl,T6,_,⟨nv,uv,fv,mv,k0,k1,k2,lv,us,fs,ms,ls,q1,q2,AU i3 (BW _ (FV k)),by omega,by omega,by omega⟩,by simp,q3.mono (fun j hj=>by omega),fun j hj h0=>by rw[q4 j hj,h0]⟩)
      obtain⟨z,hz⟩:∃z,(nt.s.del a).1=z:=⟨_,rfl⟩
      rw[hz] at bo;rw[hz];clear hR hR2 G1 uk o5 nQ hz p0 p1 d0 d3 d4 d5 s8 yj;go_wp2_with fail;refine bo.mono ?_;rintro e w6⟨rfl,G2,T6,xF,o6⟩;have tS:=Ac (Aa HK w6 T6 G2 xF o6);clear bo G2 xF o6 yl d55
      go_wp2_with (go_at_call 51;refine(O1 _ _).mono ?_;rintro e w3⟨rfl,hw3⟩;subst w3)
      go_ret;exact Aa tS
     ·have f6:(q==6)=false:=by simpa using h6
      by_cases h7:q=7
      ·have f7:(q==7)=true:=by simpa using h7
       clear h3 h4 h5 h6 h7 oo dQ yD;have hR:=Q3c T' (11+3*i) 13 nt.x nt.s wc hx;have hR2:=fun(T5:Nat->Nat) (w5:World) (h:YT T5 (12+3*i) nt.y nt.s w5)=>Q1h T5 (12+3*i) nt.y nt.s w5 (by omega) h jE
       have hl4:=jE.fire_len;obtain⟨⟨⟨r1,l1⟩,e9⟩,hm⟩:∃z,nt.s.fire.1=z:=⟨_,rfl⟩
       rw[hm] at hR hl4;simp only[hm] at hR2;replace hl4:l1.length<=4:=hl4;have SU:=i3;clear hback hx hy aK jE sD oN nU i1 i2 i3 i4 i5 i6 bX HC ug nM a0 a1 a2 b0 b1 b3 b4 b5 nD bP hm;have HGW:=Ac ai;clear ai;go_wp2_with fail;refine hR.mono ?_;rintro e w5⟨fa,nj,T5,rfl,G1,b7,uk,o5,n5⟩;have dZ:=AA w5 (.cells #[.int .i64 r1,.slice fa l1.length nj] 52) none;have kL:C2 52 w5.heap.size (.int .i64 r1) (.slice fa l1.length nj) (w5.alloc (.cells #[.int .i64 r1,.slice fa l1.length nj] 52)):=AR _ _;have nQ:YT T5 (12+3*i) nt.y nt.s (w5.alloc (.cells #[.int .i64 r1,.slice fa l1.length nj] 52)):=((Aa HY).keep (T':=T5) G1 (fun j hj=>by omega) (fun j hj _=>o5 j hj)).keep (GrS.of dZ (by simp):GrS (fun _=>False) w5 _) (by simp) (fun _ _ _=>rfl);have yl:=dZ.cell (G1.cell p1 (by show ¬ (T' bp=_);rw[yj bp MG];omega)) (by simp);have bo:=hR2 T5 _ nQ;have hs5:=G1.size;have H5:=Ac (show _/\_/\_/\_/\_/\_/\_ from⟨G1,b7,uk,o5,n5,dZ,kL⟩);clear hR hR2 G1 uk o5 n5 b7 nQ dZ kL p0 p1 d0 d3 d4 d5 s8 yj;go_wp2_with fail;refine bo.mono ?_;rintro e w6⟨ga,oP,T6,rfl,G2,zB,xF,o6⟩;obtain⟨G1,b7,uk,o5,n5,dZ,kL⟩:=Aa H5;have xL:∀j,wc.heap.size<=j->¬ (T5 j=12+3*i):=fun j hj=>by rw[n5 j hj];omega
       have xV:=kL.grs G2 (xL _ hs5);have sU:=b7.own;have vp:IsAt 0 (.slice fa l1.length nj) l1 w6:=(G2.row (b7.gr dZ) (fun b hb=>xL b (sU b hb).1)).weak (AG _)
       have hTv:∀b,(Value.slice fa l1.length nj).ownBlock=some b->T6 b=13:=fun b hb=>by
        rw[o6 b (AZ (sU b hb).2 dZ.size),n5 b (sU b hb).1]
       have gk:=AA w6 (.cells #[.int .i64 r1,.slice ga l1.length oP] 52) none;have hCk:C2 52 w6.heap.size (.int .i64 r1) (.slice ga l1.length oP) (w6.alloc (.cells #[.int .i64 r1,.slice ga l1.length oP] 52)):=AR _ _;have gm:=AA (w6.alloc (.cells #[.int .i64 r1,.slice ga l1.length oP] 52)) (.cells #[.int .i64 r1,.slice fa l1.length nj] 52) none;have gn:=AA ((w6.alloc (.cells #[.int .i64 r1,.slice ga l1.length oP] 52)).alloc (.cells #[.int .i64 r1,.slice fa l1.length nj] 52)) (.cells #[.int .i64 r1,.slice ga l1.length oP] 52) none;obtain⟨x0,x1⟩:=(xV.kept gk (by simp)).c;obtain⟨y0,y1⟩:=(hCk.kept gm (by simp)).c;have a7:=Ab gk (Ab gm gn);have ie:=((RowAt.lit1 (e:=52) Cz (w6.alloc (.cells #[.int .i64 r1,.slice ga l1.length oP] 52)) (⟨r1,.slice fa l1.length nj,l1⟩:VMt) #[.int .i64 r1,.slice fa l1.length nj] rfl).gr gn).weak (AG _);have gQ:=(RowAt.lit1 (e:=52) Cz ((w6.alloc (.cells #[.int .i64 r1,.slice ga l1.length oP] 52)).alloc (.cells #[.int .i64 r1,.slice fa l1.length nj] 52)) (⟨r1,.slice ga l1.length oP,l1⟩:VMt) #[.int .i64 r1,.slice ga l1.length oP] rfl).weak (AG _);have hS:=Xl [(⟨r1,.slice fa l1.length nj,l1⟩:VMt)] [(⟨r1,.slice ga l1.length oP,l1⟩:VMt)] _ _ _ ⟨ie,fun m hm=>by rw[AX] at hm;subst hm;exact vp.gr a7⟩ ⟨gQ,fun m hm=>by rw[AX] at hm;subst hm;exact zB.gr a7⟩;have LV:decide ([(⟨r1,.slice fa l1.length nj,l1⟩:VMt)].map VMt.of=[(⟨r1,.slice ga l1.length oP,l1⟩:VMt)].map VMt.of)=true:=by rw[DJ];rfl
       rw[LV] at hS;have z1:(w6.alloc (.cells #[.int .i64 r1,.slice ga l1.length oP] 52)).heap.size=w6.heap.size+1:=by simp
       have z2:((w6.alloc (.cells #[.int .i64 r1,.slice ga l1.length oP] 52)).alloc (.cells #[.int .i64 r1,.slice fa l1.length nj] 52)).heap.size=w6.heap.size+2:=by simp
       rw[z1,z2] at hS;obtain⟨oN,nU,i3,i4,i5,i6⟩:=Aa jA;obtain⟨g1,g2⟩:=(Aa HOG).fire
       have HK:=Ac (fun(w9:World) (hg:w6.grownBy w9 none)=>show Lists T6 W nv uv fv mv k0 k1 k2 lv us fs ms ls w9/\TRow T6 13 3 1 C4 (.slice fa l1.length nj) l1 w9/\∀e w',Jk T6 13 W nv fv mv k1 k2 lv us w9 e w'->B8 T W k aH.length w (.returned (.bool true)) w' from by
        obtain⟨q1,q2,q3,q4⟩:=Vo oN nU (Aa OT) g1 (by rw[g2];exact FU _) G1 uk o5 dZ G2 xF o6 hg;exact⟨q1,⟨vp.gr hg,hTv⟩,fun e w' hp=>Aa HB _ w' (X1 q1 q2 (by simp) i3 i4 i5 i6 (q3.mono (fun j hj=>by omega)) q4 hp)⟩)
       have eF:=Ac a7;have HC6:=Ac xV;clear bo H5 G1 b7 uk o5 n5 dZ kL xL xV sU vp hTv gk hCk gm gn ie gQ LV z1 z2 oN nU i3 i4 i5 i6 g1 g2 G2 zB xF o6 yl a7 hs5;go_wp2_with fail;refine hS.mono ?_;rintro e w7⟨rfl,dm⟩;have wm:=Ab (Aa eF) dm;have bb:=(Aa HK w7 wm).1;have oM:=Gu T6 W nv uv fv mv k0 k1 k2 lv us fs ms ls w7 bb.blk bb.nums bb.lent bb.facts bb.mats;clear hS bb dm x0 x1 y0 y1;go_wp2_with fail;refine oM.mono ?_;rintro e w8⟨rfl,fL⟩;have wk:=Ab wm fL;obtain⟨kF,tu,dc⟩:=Aa HK w8 wk;have x18:=((Aa HC6).kept wk (by simp)).c.2;have hO:=Q5 T6 13 W nv uv fv mv k0 k1 k2 lv us _ l1 w8 kF.blk kF.own kF.nums tu (by omega) (by omega) (by omega);have s4:=Ac dc;clear oM fL wm wk kF tu dc HK eF HC6;go_wp2_with fail;refine hO.mono ?_;intro e w9 hp;have hsp:=Aa s4 e w9 hp;obtain⟨he,_⟩:=hp;subst he;have tS:=Ac hsp;clear hsp hO s4 x18
       go_wp2_with (go_at_call 51;refine(O1 _ _).mono ?_;rintro e w3⟨rfl,hw3⟩;subst w3)
       go_ret;exact Aa tS
      ·have f7:(q==7)=false:=by simpa using h7
       have f8:(q==8)=false:=by simp;omega
       have HG:=Ac ai;clear hback hx hy aK jE sD oN nU i1 i2 i3 i4 i5 i6 HB jA HX HY gT XZ bX s8 HC ug nM a0 a1 a2 b0 b1 b3 b4 nD bP ai;go_wp2;go_ret;exact(Aa HW).idle (Aa HG)
end Go.Proofs.YtolhbeekfjnfmaaGreatDoor

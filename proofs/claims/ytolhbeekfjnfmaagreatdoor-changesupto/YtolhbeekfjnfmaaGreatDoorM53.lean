import Derived.Test.YtolhbeekfjnfmaaGreatDoorM52
set_option maxHeartbeats 8000000
set_option maxRecDepth 100000
namespace Go.Proofs.YtolhbeekfjnfmaaGreatDoor
open Go.RowKit
abbrev JS:=@World.new_ne
variable {T:Nat->Nat}{W k:Nat}{aD:List Nt}{nv uv fv mv k0 k1 k2 lv:Value}{us fs ms:List (Value×Int)}{ls:List Value}{w w9:World}
theorem GrS.cell{S:Nat->Prop}{w w':World}(h:GrS S w w'){a:Addr}{v:Value}(hc:w.cell? a=some v)(hs:¬ S a.block):w'.cell? a=some v:=by
 rw[EC (h.block a.block (CD w a hc) hs)];exact hc
theorem Sv.StG.fire_len{s:Sv.St}(h:Sv.StG s):s.fire.1.1.2.length<=4:=by
 unfold Sv.St.fire;split
 ·exact AG _
 ·rename_i m hm
  exact(h.ids m ((Iz s m).1 (Jz _ _ hm)).1).1
theorem Wv{T5 T6:Nat->Nat}{i:Nat}{n:Nt}{s':Sv.St}{w5 wa w6:World}(hL:Lists T W nv uv fv mv k0 k1 k2 lv us fs ms ls w)(hN:NetsAt T nv aD k w)(hn:aD[i]?=some n)(hs:Sv.StG s')(hc:s'.cnt<=n.s.cnt)
 (G1:GrS (fun j=>T j=11+3*i) w w5)(hX:XT T5 (11+3*i) n.x s' w5)(o5:∀j,j<w.heap.size->T5 j=T j)(dO:w5.grownBy wa none)(G2:GrS (fun j=>T5 j=12+3*i) wa w6)(hY:YT T6 (12+3*i) n.y s' w6)(o6:∀j,j<wa.heap.size->T6 j=T5 j)(TT:w6.grownBy w9 none) :
  Lists T6 W nv uv fv mv k0 k1 k2 lv us fs ms ls w9/\NetsAt T6 nv (aD.set i ⟨n.x,n.y,s'⟩) (k+1) w9/\GrS (fun j=>T j=11+3*i\/T j=12+3*i) w w9/\∀j,j<w.heap.size->T6 j=T j:=by
 have hs5:=G1.size;have hsa:=dO.size;have PA:=G2.size;have o7:∀j,j<w.heap.size->T6 j=T j:=fun j hj=>by rw[o6 j (by omega),o5 j hj]
 have hG:GrS (fun j=>T j=11+3*i\/T j=12+3*i) w w9:=by
  refine((((G1.mono (fun j h=>.inl h)).then dO (by simp)).comp G2 (fun j hj fT=>?_)).then TT (by simp));rw[o5 j hj];exact fun e=>fT (.inr e)
 have hXa:XT T5 (11+3*i) n.x s' wa:=hX.gr dO (fun _ _=>rfl);have rM:XT T6 (11+3*i) n.x s' w6:=hXa.keep G2 (fun j hj=>by omega) (fun j hj _=>o6 j hj);obtain⟨_,_,_,rJ⟩:=hN.net i n hn;refine⟨hL.keepS hG (fun j h1 h2=>by omega) (fun j hj _ _=>o7 j hj),hN.set hn (hG.mono (fun j hj=>by omega)) o7 (rM.gr TT (fun _ _=>rfl)) (hY.keep (GrS.of TT (by simp):GrS (fun _=>False) w6 w9) (by simp) (fun _ _ _=>rfl)) hs (by omega),hG,o7⟩
theorem W8{T0:Nat->Nat}{m:Nat}{w':World}{e:Ending}(hL:Lists T W nv uv fv mv k0 k1 k2 lv us fs ms ls w9)(hN:NetsAt T nv aD (k+1) w9)(hm:aD.length=m)(h3:us.length<=k*2100000)(h4:fs.length<=4*k)(h5:ms.length<=4*k)(h6:ls.length<=k)
 (hG:GrS (fun j=>T0 j≠0) w w9)(o7:∀j,j<w.heap.size->T j=T0 j)(hp:Jf T 13 W nv fv mv k1 k2 lv us w9 e w'):B6 T0 W k m w (.returned (.bool true)) w':=by
 obtain⟨_,T',jX,jY,ic,j1,j2,j3,j4,j5⟩:=hp;have hI:InH 13:=⟨by omega,by omega⟩
 have uL:∀j,Yl (T j)->¬ (T j=1\/T j=3\/T j=6\/T j=13):=by
  rintro j (h|h|⟨h,h2⟩) (e|e|e|e)<;>first|omega|exact h2 (by rw[e];exact hI)
 have hW1:=hL.own;refine⟨rfl,T',aD,⟨nv,jX,fv,mv,jY,k1,k2,lv,ic,fs,ms,ls,⟨j1,by rw[j5 W (Ad hL.blk) (by omega)];exact hW1,j2,?_,?_,?_⟩,hN.keep (AW _) j4 uL (fun j hj h=>j5 j hj (fun e=>uL j h (by omega))),?_,by omega,by omega,by omega⟩,hm,?_,fun j hj h0=>?_⟩
 ·exact hL.lent.keep j4 (fun j hj=>by omega) (fun j hj jF=>j5 j hj (by omega))
 ·exact hL.facts.keep j4 (fun j hj=>by omega) (fun j hj jF=>j5 j hj (by omega))
 ·exact hL.mats.keep j4 (fun j hj=>by omega) (fun j hj jF=>j5 j hj (by omega))
 ·have:(k+1)*2100000=k*2100000+2100000:=by rw[GV,JZ]
  rw[this,j3];omega
 ·refine hG.comp j4 (fun j hj hn hx=>?_)
  rw[o7 j hj] at hx;exact hn (fun e=>by omega)
 ·rw[j5 j (AZ hj hG.size) (by rw[o7 j hj,h0];omega),o7 j hj,h0]
theorem Q09(T:Nat->Nat)(W:Nat)(aD:List Nt)(k:Nat)(w:World)(hW:WAt T W aD k w)(hk:k<=2000000)(q n:Int)(hn:I64 n)(s:ByteArray)(f:Sv.Fact)(bH:Option Addr)(fc:Nat)(hf:InAt (.slice bH f.vals.length fc) f.vals w)(hf0:f.vals≠[]->∀g,(Value.slice bH f.vals.length fc).ownBlock=some g->g<w.heap.size/\T g=0)(br:f.vals.length<=1048576)(a:Int)(o8:q≠1)(dE:q≠2)(xW:q<=7)(hne:0<aD.length)(hnl:aD.length<=k) :
  Calls Tryz.prog 33 #[.pointer (some ⟨W,0,none⟩),.agg #[.int .i64 q,.int .i64 n,.string s,.int .i64 f.kind,.slice bH f.vals.length fc,.int .i64 a]] w fun e w'=>B6 T W k aD.length w e w':=by
 have a7:=AA w (.cells #[.int .i64 q,.int .i64 n,.string s,.int .i64 f.kind,.slice bH f.vals.length fc,.int .i64 a] 76) none;have YM:=AR w (.cells #[.int .i64 q,.int .i64 n,.string s,.int .i64 f.kind,.slice bH f.vals.length fc,.int .i64 a] 76);have jx:(w.alloc (.cells #[.int .i64 q,.int .i64 n,.string s,.int .i64 f.kind,.slice bH f.vals.length fc,.int .i64 a] 76)).heap.size=w.heap.size+1:=by simp
 have ri:=Kf n aD.length (by omega);obtain⟨i,hi⟩:∃i:Nat,G6 n aD.length=i:=⟨(G6 n aD.length).toNat,by omega⟩
 have PB:=fun(wx:World)=>Q16 n aD.length hn (by omega) (by omega) wx
 rw[hi] at PB ri;have eE:i<aD.length:=by omega
 obtain⟨nt,SV⟩:∃nt,aD[i]?=some nt:=⟨_,AB eE⟩
 have hWW:=hW;obtain⟨nv,uv,fv,mv,k0,k1,k2,lv,us,fs,ms,ls,i1,i2,i3,i4,i5,i6⟩:=hWW;obtain⟨g,nc,dw,hcs⟩:=i2.row.1.cells SV;have c0:w.cell? ⟨W,0,none⟩=some (.slice (some ⟨g,0,none⟩) aD.length nc):=by rw[i1.blk.cell 0,<-dw];rfl
 have r0:w.cell? ⟨g,i*2,none⟩=some (.pointer (some ⟨nt.x,0,none⟩)):=hcs 0 (by omega);have r1:w.cell? ⟨g,i*2+1,none⟩=some (.pointer (some ⟨nt.y,0,none⟩)):=hcs 1 (by omega);have e1:(q==1)=false:=by simpa using o8
 have e2:(q==2)=false:=by simpa using dE
 have e3:((aD.length:Int)==0)=false:=by simp;intro h;rw[h] at hne;simp at hne
 have HF:=Ac hf;have xJ:=Ac hf0;have HW:=Ac hW;have HI:=Ac (show Lists T W nv uv fv mv k0 k1 k2 lv us fs ms ls w/\NetsAt T nv aD k w/\us.length<=k*2100000/\fs.length<=4*k/\ms.length<=4*k/\ls.length<=k from⟨i1,i2,i3,i4,i5,i6⟩);have NQ:=Ac SV;have a0:=a7.cell c0 (by simp);have a1:=a7.cell r0 (by simp);have a2:=a7.cell r1 (by simp);obtain⟨fl,mG⟩:∃fl,f.vals.length=fl:=⟨_,rfl⟩
 have nY:=Ac mG;rw[mG] at a7 YM jx a0 a1 a2;rw[mG];clear hf hf0 hW i1 i2 i3 i4 i5 i6 hcs dw c0 r0 r1 SV hi hn mG;go_enter Tryz.func33,Tryz.ntmps33;go_wp2_with fail;have b0:(w.alloc (.cells #[.int .i64 q,.int .i64 n,.string s,.int .i64 f.kind,.slice bH fl fc,.int .i64 a] 76)).cell? ⟨w.heap.size,0,none⟩=some (.int .i64 q):=by simp
 have b1:(w.alloc (.cells #[.int .i64 q,.int .i64 n,.string s,.int .i64 f.kind,.slice bH fl fc,.int .i64 a] 76)).cell? ⟨w.heap.size,1,none⟩=some (.int .i64 n):=by simp
 have b5:(w.alloc (.cells #[.int .i64 q,.int .i64 n,.string s,.int .i64 f.kind,.slice bH fl fc,.int .i64 a] 76)).cell? ⟨w.heap.size,5,none⟩=some (.int .i64 a):=by simp
 have b3:(w.alloc (.cells #[.int .i64 q,.int .i64 n,.string s,.int .i64 f.kind,.slice bH fl fc,.int .i64 a] 76)).cell? ⟨w.heap.size,3,none⟩=some (.int .i64 f.kind):=by simp
 have b4:(w.alloc (.cells #[.int .i64 q,.int .i64 n,.string s,.int .i64 f.kind,.slice bH fl fc,.int .i64 a] 76)).cell? ⟨w.heap.size,4,none⟩=some (.slice bH fl fc):=by simp
 clear YM;generalize w.alloc (.cells #[.int .i64 q,.int .i64 n,.string s,.int .i64 f.kind,.slice bH fl fc,.int .i64 a] 76)=wA at a7 jx a0 a1 a2 b0 b1 b3 b4 b5⊢
 have lq:∀wx,wA.grownBy wx none->Calls Tryz.prog 53 #[.int .i64 n,.int .i64 aD.length] wx fun e w2=>e=.returned (.int .i64 i)/\wA.grownBy w2 none/\w2.cell? ⟨W,0,none⟩=some (.slice (some ⟨g,0,none⟩) aD.length nc)/\w2.cell? ⟨w.heap.size,1,none⟩=some (.int .i64 n)/\w2.cell? ⟨g,i*2,none⟩=some (.pointer (some ⟨nt.x,0,none⟩))/\w2.cell? ⟨g,i*2+1,none⟩=some (.pointer (some ⟨nt.y,0,none⟩)):=by
  intro wx hx;refine(PB wx).mono ?_;rintro e w2⟨rfl,rfl⟩;exact⟨rfl,hx,hx.cell a0 (by simp),hx.cell b1 (by simp),hx.cell a1 (by simp),hx.cell a2 (by simp)⟩
 have hil2:(i:Int)<(aD.length:Int):=by omega
 go_cut [15] (fun z wx=>∃bp,z=.pointer (some ⟨bp,0,none⟩)/\w.heap.size<=bp/\Hid (wA.grownBy wx none/\wx.heap[bp]?=some (.cells #[.pointer (some ⟨nt.x,0,none⟩),.pointer (some ⟨nt.y,0,none⟩)] 106 (0,0))))
 case first=>
  have n0:=JS wA _ a0;have n1:=JS wA _ a1;have n2:=JS wA _ a2;have n3:=JS wA _ b1;have pZ:(0:Int)<=(i:Int):=by omega
  clear HF xJ HW HI NQ nY b0 b3 b4 b5 lq a7
  go_region_held3 (fun w'=>w'.cell? ⟨W,0,none⟩=some (.slice (some ⟨g,0,none⟩) aD.length nc)/\w'.cell? ⟨w.heap.size,1,none⟩=some (.int .i64 n)/\w'.cell? ⟨g,i*2,none⟩=some (.pointer (some ⟨nt.x,0,none⟩))/\w'.cell? ⟨g,i*2+1,none⟩=some (.pointer (some ⟨nt.y,0,none⟩))) (go_keep)
   (first|(go_at_call 53;refine(PB _).mono ?_;rintro e w2⟨rfl,rfl⟩))
  all_goals
   go_wp2_with fail;go_meet
   have hbn:=AR wA (.cells #[.pointer (some ⟨nt.x,0,none⟩),.pointer (some ⟨nt.y,0,none⟩)] 106);rw[jx] at hbn;exact⟨_,rfl,by omega,Ac ⟨by repeat (first|with_reducible exact AD _ _|with_reducible apply Ah|with_reducible refine E1 ?_ _),hbn⟩⟩
 case rest=>
  obtain⟨bp,rfl,LH,HC⟩:=hcut;obtain⟨bI,uA⟩:=Aa HC;have p0:wc.cell? ⟨bp,0,none⟩=some (.pointer (some ⟨nt.x,0,none⟩)):=by simp[World.cell?,uA]
  have p1:wc.cell? ⟨bp,1,none⟩=some (.pointer (some ⟨nt.y,0,none⟩)):=by simp[World.cell?,uA]
  have d0:=bI.cell b0 (by simp);have d5:=bI.cell b5 (by simp);have d3:=bI.cell b3 (by simp);have d4:=bI.cell b4 (by simp);have ah:=Ab a7 bI;have mF:=Aa nY;obtain⟨T',bR⟩:∃T':Nat->Nat,T'=fun j=>if j<w.heap.size then T j else 0:=⟨_,rfl⟩
  have rF:∀j,j<w.heap.size->T' j=T j:=fun j hj=>by rw[bR];dsimp only;rw[AQ hj]
  have yD:∀j,w.heap.size<=j->T' j=0:=fun j hj=>by rw[bR];dsimp only;rw[AO (by omega)]
  obtain⟨i1,i2,i3,i4,i5,i6⟩:=Aa HI;have nU:=i1.gr ah rF;have mY:=i2.keep (AW k) (GrS.of ah (by simp):GrS (fun _=>False) w wc) (by simp) (fun j hj _=>rF j hj);obtain⟨hx,hy,iP,rJ⟩:=mY.net i nt (Aa NQ);have aK:=iP.ok
  have hback:∀e w',B6 T' W k aD.length wc e w'->B6 T W k aD.length w e w':=by
   rintro e w'⟨he,T9,jk,j1,jl,j2,j3⟩;refine⟨he,T9,jk,j1,jl,(GrS.of ah (by simp):GrS (fun j=>T j≠0) w wc).comp j2 (fun j hj hn=>by rw[rF j hj];exact hn),fun j hj h0=>j3 j (AZ hj ah.size) (by rw[rF j hj,h0])⟩
  have HB:=Ac hback;have iL:=Ac (show Lists T' W nv uv fv mv k0 k1 k2 lv us fs ms ls wc/\NetsAt T' nv aD k wc/\us.length<=k*2100000/\fs.length<=4*k/\ms.length<=4*k/\ls.length<=k from⟨nU,mY,i3,i4,i5,i6⟩);have HX:=Ac hx;have HY:=Ac hy;have fe:=Ac aK;have XK:=Ac rJ;have HOG:=Ac iP;by_cases h3:q=3
  ·have hA:=Q27 XT Q4d T' W nv uv fv mv k0 k1 k2 lv us fs ms ls wc nU (11+3*i) (12+3*i) nt.x nt.y nt.s (by omega) (by omega) (by omega) (Q01 i) (Q02 i) hx hy aK (by omega) f bH fc ((Aa HF).gr ah) (fun hne g hg=>by obtain⟨q1,q2⟩:=Aa xJ hne g hg;exact⟨AZ q1 ah.size,by rw[rF g q1,q2]⟩) br (by omega)
   rw[mF] at hA;have dP:∀e w',Jc XT T' W nv uv fv mv k0 k1 k2 us fs ms ls (11+3*i) (12+3*i) nt.x nt.y (nt.s.add f).2 wc e w'->B6 T W k aD.length w e w':=fun e w' hp=>hback e w' (WAt.add mY (Aa NQ) i3 i4 i5 i6 e hp)
   have rA:=Ac dP;have f1:(q==3)=true:=by simpa using h3
   clear dP hback hx hy aK iP rJ nU mY i1 i2 i3 i4 i5 i6 HB iL HX HY fe XK bR rF HC uA mF a0 a1 a2 b0 b1 b3 b4 lq bI ah;go_wp2_with fail;refine hA.mono ?_;intro e w5 hp;have hsp:=Aa rA e w5 hp;obtain⟨he,_⟩:=hp;subst he;have sS:=Ac hsp;clear hsp hA rA;go_wp2;go_ret;exact Aa sS
  ·have f3:(q==3)=false:=by simpa using h3
   by_cases h4:q=4
   ·have hA:=Q2l XT Q4d T' W nv uv fv mv k0 k1 k2 lv us fs ms ls wc nU (11+3*i) (12+3*i) nt.x nt.y nt.s (by omega) hx hy aK (by omega) (by omega)
    have dP:∀e w',Ki T' W nv mv k2 lv us fs ms ls wc e w'->B6 T W k aD.length w e w':=fun e w' hp=>hback e w' (WAt.tell mY i3 i4 i5 i6 e hp)
    have rA:=Ac dP;have f1:(q==4)=true:=by simpa using h4
    clear dP hback hx hy aK iP rJ nU mY i1 i2 i3 i4 i5 i6 HB iL HX HY fe XK bR rF HC uA mF a0 a1 a2 b0 b1 b3 b4 lq bI ah;go_wp2_with fail;refine hA.mono ?_;intro e w5 hp;have hsp:=Aa rA e w5 hp;obtain⟨he,_⟩:=hp;subst he;have sS:=Ac hsp;clear hsp hA rA;go_wp2;go_ret;exact Aa sS
   ·have f4:(q==4)=false:=by simpa using h4
    by_cases h5:q=5
    ·have f5:(q==5)=true:=by simpa using h5
     have hXM:=Q1b T' (11+3*i) nt.x nt.s wc hx;clear hback hx hy aK iP rJ nU mY i1 i2 i3 i4 i5 i6 bR HC uA mF a0 a1 a2 b0 b1 b3 b4 lq bI;have HGW:=Ac ah;clear ah;go_wp2_with fail;refine hXM.mono ?_;rintro e w5⟨T5,l5,xs,rfl,aY,xo,ky,wN⟩;obtain⟨la,lc,rfl⟩:=xo.row.1.slice;have yE:=aY.cell p1 (by simp);have mV:=(Aa HY).keep (T':=T5) (GrS.of aY (by simp):GrS (fun _=>False) wc w5) (by simp) (fun j hj _=>wN j hj);obtain⟨rv,lv5,fv5,L,fd,jd,_,sL,_⟩:=mV.yat;have jR:L.length<=16:=by have:=(Aa fe).facts;rw[<-sL,BA] at this;exact this
     have PV:=Ir nt.y rv lv5 _ fv5 nt.s.rs L w5 jd (Aa fe).rules jR;unfold Un at PV;rw[sL] at PV
     have gO:xs.length<=524288:=by
      have h1:=BJ List.length ky;rw[BA] at h1;rw[h1];exact R6 _ _ (Aa fe).rules (by have:=(Aa fe).facts;exact this)
     have HX5:=Ac ky;have QZ:=Ac xo;have HT5:=Ac wN;clear hXM mV jd sL jR ky xo wN;go_wp2_with fail;refine PV.mono ?_;rintro e w6⟨u6,YB,rfl,VK,xX,cX⟩;obtain⟨ua,uc,rfl⟩:=VK.slice
     have ql:MsAt 0 (.slice la xs.length lc) (xs.map (fun x=>(⟨x.kind,x.v,x.vals⟩:VMt))) w6:=by
      have hh:=(Aa QZ).mtAt.gr cX;refine⟨⟨C4,?_⟩,fun m hm=>?_⟩
      ·have e1:(xs.map (fun x=>(⟨x.kind,x.v,x.vals⟩:VMt))).flatMap mtenc=xs.flatMap ftenc:=by rw[IV];rfl
       rw[e1,BA];exact hh.1.2
      ·obtain⟨x,hx,rfl⟩:=CJ.1 hm
       exact hh.2 x hx
     have hS:=Xq _ YB _ _ w6 ql (VK.weak (AG _))
     have zv:decide ((xs.map (fun x=>(⟨x.kind,x.v,x.vals⟩:VMt))).map VMt.of=YB.map VMt.of)=true:=by
      rw[DF,xX,<-Aa HX5,EF];rfl
     rw[zv] at hS;have zj:=Ab aY cX;clear PV ql zv xX VK yE;go_wp2_with fail;refine hS.mono ?_;rintro e w7⟨rfl,dS⟩;have vn:=Ab zj dS;have bV:=(Aa iL).1.gr (T':=T') vn (fun _ _=>rfl);have nS:=Gt T' W nv uv fv mv k0 k1 k2 lv us fs ms ls w7 bV.blk bV.nums bV.lent bV.facts bV.mats;clear hS bV zj;go_wp2_with fail;refine nS.mono ?_;rintro e w8⟨rfl,jc⟩;have vk:=Ab vn jc;have jb:=(Aa iL).1.gr (T':=T5) vk (Aa HT5);have hH8:Hand T5 52 (.slice la xs.length lc) xs w8:=(Aa QZ).keep (GrS.of (Ab cX (Ab dS jc)) (by simp):GrS (fun _=>False) w5 w8) (by simp) (fun _ _ _=>rfl);have hb:=(Aa iL).2.2;have hO:=Q3t T5 W nv uv mv fv k0 k2 k1 lv us ms _ xs w8 jb.blk jb.own jb.nums jb.mats hH8 (by omega) (by omega) (by omega)
     have dP:∀e w',Je T5 W nv fv k1 lv us ms xs.length w8 e w'->B6 T W k aD.length w (.returned (.bool true)) w':=by
      intro e w' hp;obtain⟨j1,T9,jk,j2,jl,j3⟩:=WAt.mats (Aa iL).1 (Aa iL).2.1 hb.1 hb.2.1 hb.2.2.1 hb.2.2.2 vk (Aa HT5) gO e hp;exact Aa HB _ w' ⟨rfl,T9,jk,j2,jl,j1,j3⟩
     have rA:=Ac dP;clear dP nS jb hH8 hb vn vk;go_wp2_with fail;refine hO.mono ?_;intro e w9 hp;have hsp:=Aa rA e w9 hp;obtain⟨he,_⟩:=hp;subst he;have sS:=Ac hsp;clear hsp hO rA;go_wp2;go_ret;exact Aa sS
    ·have f5:(q==5)=false:=by simpa using h5
     by_cases h6:q=6
     ·have f6:(q==6)=true:=by simpa using h6
      clear h3 h4 h5 h6 o8 dE xW;have hR:=Q0r T' (11+3*i) nt.x nt.s a wc hx;have hR2:=fun(T5:Nat->Nat) (w5:World) (h:YT T5 (12+3*i) nt.y nt.s w5)=>Yh T5 (12+3*i) nt.y nt.s a w5 (by omega) h aK
      clear hback hx hy aK iP rJ nU mY i1 i2 i3 i4 i5 i6 bR HC uA mF a0 a1 a2 b0 b1 b3 b4 b5 lq bI;have HGW:=Ac ah;clear ah;go_wp2_with fail;refine hR.mono ?_;rintro e w5⟨rfl,G1,T5,uF,o5⟩;have mV:YT T5 (12+3*i) nt.y nt.s w5:=(Aa HY).keep G1 (fun j hj=>by omega) (fun j hj _=>o5 j hj);have yE:=G1.cell p1 (by show ¬ (T' bp=_);rw[yD bp LH];omega);have d55:=G1.cell d5 (by show ¬ (T' w.heap.size=_);rw[yD _ (AW _)];omega);have dY:=hR2 T5 w5 mV
      have HK:=Ac (fun(w6:World) (T6:Nat->Nat) (G2:GrS (fun j=>T5 j=12+3*i) w5 w6) (wF:YT T6 (12+3*i) nt.y (nt.s.del a).2 w6) (o6:∀j,j<w5.heap.size->T6 j=T5 j)=>show B6 T W k aD.length w (.returned (.bool true)) w6 from by
       obtain⟨nU,mY,i3,i4,i5,i6⟩:=Aa iL;obtain⟨g1,g2⟩:=(Aa HOG).del a;obtain⟨q1,q2,q3,q4⟩:=Wv nU mY (Aa NQ) g1 (by rw[g2];exact FP _) G1 uF o5 (AD _ _) G2 wF o6 (AD _ _);refine Aa HB _ w6 ⟨rfl,T6,_,⟨nv,uv,fv,mv,k0,k1,k2,lv,us,fs,ms,ls,q1,q2,AU i3 (BW _ (FT k)),by omega,by omega,by omega⟩,by simp,q3.mono (fun j hj=>by omega),fun j hj h0=>by rw[q4 j hj,h0]⟩)
      obtain⟨z,hz⟩:∃z,(nt.s.del a).1=z:=⟨_,rfl⟩
      rw[hz] at dY;rw[hz];clear hR hR2 G1 uF o5 mV hz p0 p1 d0 d3 d4 d5 rF yD;go_wp2_with fail;refine dY.mono ?_;rintro e w6⟨rfl,G2,T6,wF,o6⟩;have sS:=Ac (Aa HK w6 T6 G2 wF o6);clear dY G2 wF o6 yE d55
      go_wp2_with (go_at_call 51;refine(Pa _ _).mono ?_;rintro e w3⟨rfl,hw3⟩;subst w3)
      go_ret;exact Aa sS
     ·have f6:(q==6)=false:=by simpa using h6
      by_cases h7:q=7
      ·have f7:(q==7)=true:=by simpa using h7
       clear h3 h4 h5 h6 h7 o8 dE xW;have hR:=Q4b T' (11+3*i) 13 nt.x nt.s wc hx;have hR2:=fun(T5:Nat->Nat) (w5:World) (h:YT T5 (12+3*i) nt.y nt.s w5)=>Q2x T5 (12+3*i) nt.y nt.s w5 (by omega) h iP
       have hl4:=iP.fire_len;obtain⟨⟨⟨r1,l1⟩,e9⟩,hm⟩:∃z,nt.s.fire.1=z:=⟨_,rfl⟩
       rw[hm] at hR hl4;simp only[hm] at hR2;replace hl4:l1.length<=4:=hl4;have RU:=i3;clear hback hx hy aK iP rJ nU mY i1 i2 i3 i4 i5 i6 bR HC uA mF a0 a1 a2 b0 b1 b3 b4 b5 lq bI hm;have HGW:=Ac ah;clear ah;go_wp2_with fail;refine hR.mono ?_;rintro e w5⟨fa,mm,T5,rfl,G1,ax,uF,o5,n5⟩;have dO:=AA w5 (.cells #[.int .i64 r1,.slice fa l1.length mm] 52) none;have jg:C2 52 w5.heap.size (.int .i64 r1) (.slice fa l1.length mm) (w5.alloc (.cells #[.int .i64 r1,.slice fa l1.length mm] 52)):=AR _ _;have mV:YT T5 (12+3*i) nt.y nt.s (w5.alloc (.cells #[.int .i64 r1,.slice fa l1.length mm] 52)):=((Aa HY).keep (T':=T5) G1 (fun j hj=>by omega) (fun j hj _=>o5 j hj)).keep (GrS.of dO (by simp):GrS (fun _=>False) w5 _) (by simp) (fun _ _ _=>rfl);have yE:=dO.cell (G1.cell p1 (by show ¬ (T' bp=_);rw[yD bp LH];omega)) (by simp);have dY:=hR2 T5 _ mV;have hs5:=G1.size;have H5:=Ac (show _/\_/\_/\_/\_/\_/\_ from⟨G1,ax,uF,o5,n5,dO,jg⟩);clear hR hR2 G1 uF o5 n5 ax mV dO jg p0 p1 d0 d3 d4 d5 rF yD;go_wp2_with fail;refine dY.mono ?_;rintro e w6⟨ga,nX,T6,rfl,G2,yR,wF,o6⟩;obtain⟨G1,ax,uF,o5,n5,dO,jg⟩:=Aa H5;have wN:∀j,wc.heap.size<=j->¬ (T5 j=12+3*i):=fun j hj=>by rw[n5 j hj];omega
       have wZ:=jg.grs G2 (wN _ hs5);have ra:=ax.own;have ur:IsAt 0 (.slice fa l1.length mm) l1 w6:=(G2.row (ax.gr dO) (fun b hb=>wN b (ra b hb).1)).weak (AG _)
       have hTv:∀b,(Value.slice fa l1.length mm).ownBlock=some b->T6 b=13:=fun b hb=>by
        rw[o6 b (AZ (ra b hb).2 dO.size),n5 b (ra b hb).1]
       have gk:=AA w6 (.cells #[.int .i64 r1,.slice ga l1.length nX] 52) none;have hCk:C2 52 w6.heap.size (.int .i64 r1) (.slice ga l1.length nX) (w6.alloc (.cells #[.int .i64 r1,.slice ga l1.length nX] 52)):=AR _ _;have gm:=AA (w6.alloc (.cells #[.int .i64 r1,.slice ga l1.length nX] 52)) (.cells #[.int .i64 r1,.slice fa l1.length mm] 52) none;have gn:=AA ((w6.alloc (.cells #[.int .i64 r1,.slice ga l1.length nX] 52)).alloc (.cells #[.int .i64 r1,.slice fa l1.length mm] 52)) (.cells #[.int .i64 r1,.slice ga l1.length nX] 52) none;obtain⟨x0,x1⟩:=(wZ.kept gk (by simp)).c;obtain⟨y0,y1⟩:=(hCk.kept gm (by simp)).c;have a7:=Ab gk (Ab gm gn);have kV:=((RowAt.lit1 (e:=52) C4 (w6.alloc (.cells #[.int .i64 r1,.slice ga l1.length nX] 52)) (⟨r1,.slice fa l1.length mm,l1⟩:VMt) #[.int .i64 r1,.slice fa l1.length mm] rfl).gr gn).weak (AG _);have iu:=(RowAt.lit1 (e:=52) C4 ((w6.alloc (.cells #[.int .i64 r1,.slice ga l1.length nX] 52)).alloc (.cells #[.int .i64 r1,.slice fa l1.length mm] 52)) (⟨r1,.slice ga l1.length nX,l1⟩:VMt) #[.int .i64 r1,.slice ga l1.length nX] rfl).weak (AG _);have hS:=Xq [(⟨r1,.slice fa l1.length mm,l1⟩:VMt)] [(⟨r1,.slice ga l1.length nX,l1⟩:VMt)] _ _ _ ⟨kV,fun m hm=>by rw[AX] at hm;subst hm;exact ur.gr a7⟩ ⟨iu,fun m hm=>by rw[AX] at hm;subst hm;exact yR.gr a7⟩;have zv:decide ([(⟨r1,.slice fa l1.length mm,l1⟩:VMt)].map VMt.of=[(⟨r1,.slice ga l1.length nX,l1⟩:VMt)].map VMt.of)=true:=by rw[DF];rfl
       rw[zv] at hS;have z1:(w6.alloc (.cells #[.int .i64 r1,.slice ga l1.length nX] 52)).heap.size=w6.heap.size+1:=by simp
       have z2:((w6.alloc (.cells #[.int .i64 r1,.slice ga l1.length nX] 52)).alloc (.cells #[.int .i64 r1,.slice fa l1.length mm] 52)).heap.size=w6.heap.size+2:=by simp
       rw[z1,z2] at hS;obtain⟨nU,mY,i3,i4,i5,i6⟩:=Aa iL;obtain⟨g1,g2⟩:=(Aa HOG).fire
       have HK:=Ac (fun(w9:World) (hg:w6.grownBy w9 none)=>show Lists T6 W nv uv fv mv k0 k1 k2 lv us fs ms ls w9/\TRow T6 13 3 1 C1 (.slice fa l1.length mm) l1 w9/\∀e w',Jf T6 13 W nv fv mv k1 k2 lv us w9 e w'->B6 T W k aD.length w (.returned (.bool true)) w' from by
        obtain⟨q1,q2,q3,q4⟩:=Wv nU mY (Aa NQ) g1 (by rw[g2];exact FP _) G1 uF o5 dO G2 wF o6 hg;exact⟨q1,⟨ur.gr hg,hTv⟩,fun e w' hp=>Aa HB _ w' (W8 q1 q2 (by simp) i3 i4 i5 i6 (q3.mono (fun j hj=>by omega)) q4 hp)⟩)
       have di:=Ac a7;have HC6:=Ac wZ;clear dY H5 G1 ax uF o5 n5 dO jg wN wZ ra ur hTv gk hCk gm gn kV iu zv z1 z2 nU mY i3 i4 i5 i6 g1 g2 G2 yR wF o6 yE a7 hs5;go_wp2_with fail;refine hS.mono ?_;rintro e w7⟨rfl,dS⟩;have vh:=Ab (Aa di) dS;have bV:=(Aa HK w7 vh).1;have nS:=Gt T6 W nv uv fv mv k0 k1 k2 lv us fs ms ls w7 bV.blk bV.nums bV.lent bV.facts bV.mats;clear hS bV dS x0 x1 y0 y1;go_wp2_with fail;refine nS.mono ?_;rintro e w8⟨rfl,jc⟩;have vg:=Ab vh jc;obtain⟨jb,sj,dP⟩:=Aa HK w8 vg;have x18:=((Aa HC6).kept vg (by simp)).c.2;have hO:=Sb T6 13 W nv uv fv mv k0 k1 k2 lv us _ l1 w8 jb.blk jb.own jb.nums sj (by omega) (by omega) (by omega);have rA:=Ac dP;clear nS jc vh vg jb sj dP HK di HC6;go_wp2_with fail;refine hO.mono ?_;intro e w9 hp;have hsp:=Aa rA e w9 hp;obtain⟨he,_⟩:=hp;subst he;have sS:=Ac hsp;clear hsp hO rA x18
       go_wp2_with (go_at_call 51;refine(Pa _ _).mono ?_;rintro e w3⟨rfl,hw3⟩;subst w3)
       go_ret;exact Aa sS
      ·have f7:(q==7)=false:=by simpa using h7
       have f8:(q==8)=false:=by simp;omega
       have HG:=Ac ah;clear hback hx hy aK iP rJ nU mY i1 i2 i3 i4 i5 i6 HB iL HX HY fe XK bR rF HC uA mF a0 a1 a2 b0 b1 b3 b4 lq bI ah;go_wp2;go_ret;exact(Aa HW).idle (Aa HG)
end Go.Proofs.YtolhbeekfjnfmaaGreatDoor

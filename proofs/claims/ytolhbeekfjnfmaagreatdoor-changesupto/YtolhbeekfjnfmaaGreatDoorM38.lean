import Derived.Test.YtolhbeekfjnfmaaGreatDoorMA
import Derived.Test.YtolhbeekfjnfmaaGreatDoorM37
set_option maxHeartbeats 8000000
set_option maxRecDepth 100000
namespace Go.Proofs.YtolhbeekfjnfmaaGreatDoor
open Go.RowKit
theorem Q3r(X:(Nat->Nat)->Nat->Nat->Sv.St->World->Prop)(hX:XSpec X)(T:Nat->Nat)(W:Nat)(nv uv fv mv k0 k1 k2 lv:Value)(us fs ms:List (Value×Int))(ls:List Value)(w:World)
 (xR:Lists T W nv uv fv mv k0 k1 k2 lv us fs ms ls w)(tx ty x y:Nat)(s:Sv.St)(xz:11<=tx)(iz:11<=ty)(pq:tx≠ty)(kV:¬ InH tx)(oY:¬ InH ty)(hx:X T tx x s w)(hy:YT T ty y s w)(aK:Sv.StOk s)(MD:s.cnt<=4611686018427387904)
 (f:Sv.Fact)(fa:Option Addr)(fc:Nat)(hf:InAt (.slice fa f.vals.length fc) f.vals w)(hf0:f.vals≠[]->∀g,(Value.slice fa f.vals.length fc).ownBlock=some g->g<w.heap.size/\T g=0)(cH:f.vals.length<=1048576)(hls:ls.length<=4398046511104) :
  Calls Tryz.prog 54 #[.pointer (some ⟨W,0,none⟩),.agg #[.pointer (some ⟨x,0,none⟩),.pointer (some ⟨y,0,none⟩)],.agg #[.int .i64 f.kind,.slice fa f.vals.length fc]] w fun e w'=>Je X T W nv uv fv mv k0 k1 k2 us fs ms ls tx ty x y (s.add f).2 w e w':=by
 have a7:=Dp w (.cells #[.pointer (some ⟨x,0,none⟩),.pointer (some ⟨y,0,none⟩)] 106) (.cells #[.int .i64 f.kind,.slice fa f.vals.length fc] 37);obtain⟨hP,hF⟩:=C2.al2 w (.pointer (some ⟨x,0,none⟩)) (.pointer (some ⟨y,0,none⟩)) (.int .i64 f.kind) (.slice fa f.vals.length fc) 106 37;have uX:=hf.gr a7;have OW:=Ac xR;have HX:=Ac hx;have HY:=Ac hy;have gT:=Ac aK;have HF:=Ac hf;have xq:=Ac hf0;have HC:=Ac MD;have yh:=Ac hls;clear xR hx hy aK hf hf0 MD hls;obtain⟨q0,q1⟩:=hF.c;go_enter Tryz.func54,Tryz.ntmps54
 go_wp2_with (at_builtin;refine Gv rfl _ _ 35 rfl Tryz.underlying35 Tryz.infoInt rfl rfl (RowAt.nil (w.heap.size+2) _ At) rfl uX (by unfold maxLen;simp;omega) (by simp;omega) (by simp) ?_)
 intro v1 w1 aS hg1;have eb:=Ab a7 (show World.grownBy _ w1 none from hg1);have xP:=hP.kept hg1 (by simp[Value.ownBlock]);have jL:=hF.kept hg1 (by simp[Value.ownBlock]);obtain⟨a1,c1,rfl⟩:=aS.slice;have hs1:w.heap.size+2<=w1.heap.size:=by have:=jL.lt;omega
 clear a7 hP hF uX hg1 q0 q1;go_wp2;go_loopw [7,8] (fun v z w'=>∃i:Nat,i<=8/\z=.int .i64 i/\IsAt (w.heap.size+2) v (f.vals++List.replicate i (-77)) w'/\w.grownBy w' none/\C2 106 w.heap.size (.pointer (some ⟨x,0,none⟩)) (.pointer (some ⟨y,0,none⟩)) w'/\C2 37 (w.heap.size+1) (.int .i64 f.kind) (.slice fa f.vals.length fc) w'/\w.heap.size+2<=w'.heap.size) (fun _ z _=>8-(intOf z).toNat)
 case atStart=>exact⟨0,by omega,rfl,by simpa using aS,eb,xP,jL,hs1⟩
 case round=>
  clear aS eb xP jL hs1;obtain⟨i,hi,rfl,hv,hg,hP,hF,hs⟩:=hrel;obtain⟨a2,c2,hv2⟩:=hv.slice;have kP:(f.vals++List.replicate i (-77:Int)).length=f.vals.length+i:=by rw[AK,BO]
  rw[kP] at hv2;subst hv2;by_cases hlt:i<8
  ·have dF:decide ((i:Int)<8)=true:=by simp;omega
   have aO:=AA wr (.cells #[.int .i64 (-77)] 3) none;have mC:=hv.gr aO;have aG:IsAt 0 (.slice (some ⟨wr.heap.size,0,none⟩) 1 1) [-77] (wr.alloc (.cells #[.int .i64 (-77)] 3)):=(RowAt.lit1 At wr (-77) #[.int .i64 (-77)] rfl).weak (AG _);have hb1:(f.vals++List.replicate i (-77:Int)).length+([-77]:List Int).length<=maxLen:=by rw[kP];unfold maxLen;simp;omega
   have hb2:((f.vals++List.replicate i (-77:Int)).length+([-77]:List Int).length)*8<=140737488355328:=by rw[kP];simp;omega
   have fY:=Ac hb1;have gF:=Ac hb2;have fP:=mC.own;have yZ:=Ac fP;have zP:=AU hs aO.size;clear hb1 hb2 fP kP
   go_wp2_with (at_builtin;refine Df rfl _ _ 35 rfl Tryz.underlying35 Tryz.infoInt rfl (by decide) rfl mC rfl aG (fun y _=>B6 y) (Aa fY) (Aa gF) zP ?_)
   intro v3 w3 hv3 hg3;have xO:=(hP.kept aO (by simp)).kept hg3 (fun e=>by have:=(Aa yZ _ e.symm).1;omega);have WN:=(hF.kept aO (by simp)).kept hg3 (fun e=>by have:=(Aa yZ _ e.symm).1;omega);have ax:=C0 (Ab hg aO) hg3 (fun k hk=>by have:=(Aa yZ k hk).1;omega)
   have bU:IsAt (w.heap.size+2) v3 (f.vals++List.replicate (i+1) (-77)) w3:=by
    have e:f.vals++List.replicate (i+1) (-77:Int)=f.vals++(List.replicate i (-77)++[-77]):=by rw[<-JH]
    rw[e];exact hv3
   have hs3:=AU zP hg3.size;obtain⟨a3,c3,rfl⟩:=bU.slice;have SS:(f.vals++List.replicate (i+1) (-77:Int)).length=f.vals.length+(i+1):=by rw[AK,BO]
   have HV3:=Ac bU;clear hv3 hg3 bU aG mC aO SS;go_wp2;go_roundw
   case rel=>exact⟨i+1,by omega,by go_num,Aa HV3,ax,xO,WN,hs3⟩
   case measure=>simp[intOf];omega
  ·have dF:decide ((i:Int)<8)=false:=by simp;omega
   have hi8:i=8:=by omega
   subst hi8;clear hi hlt;obtain⟨G,WJ⟩:∃G,f.vals++List.replicate 8 (-77:Int)=G:=⟨_,rfl⟩
   obtain⟨gb,cb,mj,_⟩:=hv.cells (k:=f.vals.length) (a:=-77) (by rw[DU (AW _)];simp);rw[kP] at mj;simp only[AH,BP] at mj;obtain⟨rfl,rfl⟩:=mj;have hpre:IsAt (w.heap.size+2) (.slice (some ⟨gb,0,none⟩) f.vals.length c2) f.vals wr:=hv.prefix;have hgb:w.heap.size+2<=gb/\gb<wr.heap.size:=hv.own gb rfl
   have fT:f.vals.length+8<=c2:=by
    rcases hv.2.2 with ⟨h1,_⟩|⟨g',cap',cur,h1,_,_,h3,_⟩
    ·simp at h1
    ·simp only[AH] at h1
     rw[kP] at h3;omega
   rw[WJ] at hv;obtain⟨T1,fy⟩:∃T1:Nat->Nat,∀k,T1 k=if k<w.heap.size then T k else if k=gb then 13 else 0:=⟨_,fun _=>rfl⟩
   have jJ:∀k,k<w.heap.size->T1 k=T k:=fun k hk=>by rw[fy,AQ hk]
   have rH:T1 gb=13:=by rw[fy,AO (by omega),AQ rfl]
   have tA:∀k,w.heap.size<=k->k≠gb->T1 k=0:=fun k h1 h2=>by rw[fy,AO (by omega),AO h2]
   have hadd:=fun(Z:World) (hZ:wr.grownBy Z none)=>hX.add T1 tx x s f (some ⟨gb,0,none⟩) c2 Z (by omega) (hX.keep (Aa HX) (GrS.of (S:=fun _=>False) (Ab hg hZ) (by simp)) (by simp) (fun k hk _=>jJ k hk)) (Aa gT) (Aa HC) ((hpre.weak (AG _)).gr hZ) (fun g hg e=>by simp only[Value.ownBlock,AE] at hg;subst hg;rw[rH] at e;exact kV ⟨by omega,by omega⟩)
   obtain⟨R,hR⟩:∃R,s.add f=R:=⟨_,rfl⟩
   rw[hR] at hadd;have HR:=Ac hR;clear hR;obtain⟨⟨SG,SH⟩,s2⟩:=R;simp only at hadd;obtain⟨p0,p1⟩:=hP.c;obtain⟨q0,q1⟩:=hF.c;have OG:=Ac jJ;have OI:=Ac rH;have OH:=Ac tA;have HGD:=Ac WJ;have HVL:=Ac kP;clear fy jJ rH tA WJ kP hpre;go_wp2_with fail
   go_cut [9,10] (fun a e wx=>a=.int .i64 SG/\e=.int .i64 SH/\GrS (fun k=>T1 k=tx) wr wx/\∃T2,X T2 tx x s2 wx/\∀k,k<wr.heap.size->T2 k=T1 k)
   case first=>
    go_region_with (go_at_call 18;refine(hadd _ (by repeat (first|with_reducible exact AD _ _|with_reducible apply Ah))).mono ?_;rintro e w4⟨rfl,gY,rG⟩)
    all_goals
     go_wp2_with fail;go_meet
     exact⟨rfl,rfl,(GrS.of (S:=fun k=>T1 k=tx) (Ah (AD wr none)) (by simp)).trans gY,rG⟩
   case rest=>
    obtain⟨rfl,rfl,gY,T2,QW,jI⟩:=hcut;have NS:(13:Nat)≠tx:=fun e=>kV ⟨by omega,by omega⟩
    have ho1:=Aa OG;have dR:=Aa OH;have hs0:=hg.size;have hb0:T1 w.heap.size=0:=dR _ (AW _) (by omega);have hb1:T1 (w.heap.size+1)=0:=dR _ (by omega) (by omega);have QZ:=hP.grs gY (by rw[hb0];omega);have hF4:=hF.grs gY (by rw[hb1];omega);have hY4:YT T2 ty y s wc:=((Aa HY).keep (T':=T1) (GrS.of hg (by simp):GrS (fun _=>False) w wr) (by simp) (fun k hk _=>ho1 k hk)).keep gY (fun k hk e=>by rcases hk with hk|hk<;>omega) (fun k hk _=>jI k hk);have LQ:=((Aa HF).gr hg).grs' gY (fun hne g bJ e=>by obtain⟨k1,k2⟩:=Aa xq hne g bJ;rw[ho1 g k1,k2] at e;omega);have kH:=Q3e T2 ty y s f fa fc wc (by omega) hY4 (Aa gT) (Aa HC) LQ (fun hne g bJ e=>by obtain⟨k1,k2⟩:=Aa xq hne g bJ;rw[jI g (by omega),ho1 g k1,k2] at e;omega);rw[Aa HR] at kH;simp only at kH;have dw:=fun(w5:World) (T3:Nat->Nat) (cP:GrS (fun k=>T2 k=ty) wc w5) (nQ:YT T3 ty y s2 w5) (iB:∀k,k<wc.heap.size->T3 k=T2 k)=>AddMid.one hX (Aa OW) xz iz pq kV oY hg ho1 (Aa OI) dR hgb (by rw[Aa HGD];exact hv) (Aa HF) (Aa xq) hF gY QW jI cP nQ iB
    have ll:=Ac dw;obtain⟨vg,SI⟩:=QZ.c;obtain⟨q0',YK⟩:=hF4.c;clear dw hY4 LQ QW jI gY hb0 hb1 QZ hF4 hP hF p0 p1 q0 q1 hadd hv fT ho1 dR hs0;go_wp2_with fail;refine kH.mono ?_;rintro e w5⟨rfl,cP,T3,nQ,iB⟩;have hM:=Aa ll w5 T3 cP nQ iB;obtain⟨n,hn⟩:∃n,f.vals.length=n:=⟨_,rfl⟩
    have HM:=Ac hM;have HN:=Ac hn;have gK:n<=1048576:=by omega
    have h0:w5.grownBy w5 (some gb)/\IsAt (w.heap.size+2) (.slice (some ⟨gb,0,none⟩) (n+8) c2) (List.replicate 0 (-99)++(f.vals++List.replicate 8 (-77)).drop 0) w5:=⟨AD _ _,by have:=hM.row;rw[hn] at this;simpa using this⟩
    have H0:=Ac h0;rw[hn] at YK;clear kH ll cP nQ iB hM vg SI q0' YK h0 HF OW HX HY gT HC OG OI OH HGD HVL hgb hg;rw[hn];clear hn cH;go_wp2;go_loopw [13,14] (fun b z w'=>∃i:Nat,i<=n+8/\b=.bool true/\z=.int .i64 i/\Hid (w5.grownBy w' (some gb)/\IsAt (w.heap.size+2) (.slice (some ⟨gb,0,none⟩) (n+8) c2) (List.replicate i (-99)++(f.vals++List.replicate 8 (-77)).drop i) w')) (fun _ z _=>n+8-(intOf z).toNat)
    case atStart=>exact⟨0,AG _,rfl,rfl,H0⟩
    case round=>
     clear H0;obtain⟨i,hi,rfl,rfl,HK⟩:=hrel;obtain⟨yH,uB⟩:=Aa HK;have hM:=Aa HM;have kj:=Aa HN;have hge:=hM.ge;have RD:=hM.fb.kept yH (fun e=>by simp at e;omega);obtain⟨q0,q1⟩:=RD.c;rw[kj] at q1;by_cases hlt:i<n+8
     ·have dF:decide ((i:Int)<(n:Int)+8)=true:=by simp;omega
      have VD:decide (i<n+8)=true:=by simpa using hlt
      obtain⟨x,hx⟩:∃x,(f.vals++List.replicate 8 (-77:Int))[i]?=some x:=⟨_,AB (by simp;omega)⟩
      have hx2:(List.replicate i (-99:Int)++(f.vals++List.replicate 8 (-77)).drop i)[i]?=some x:=by
       rw[DU (by simp),BO,KW,GI,EG];exact hx
      obtain⟨g',cp',et,hcs⟩:=uB.cells hx2;simp only[AH,AE,BK,BX] at et;obtain⟨rfl,hzz,rfl⟩:=et;clear hzz;have x0:wr.cell? ⟨gb,i,none⟩=some (.int .i64 x):=by have:=hcs 0 (by omega);simpa[C4] using this
      have z0:=uB.fz i;have hst:=uB.stored i (-99);rw[Xu (-99) _ i (by simp;omega)] at hst;have hN:w5.grownBy (wr.setCell ⟨gb,i,none⟩ (.int .i64 (-99))) (some gb)/\IsAt (w.heap.size+2) (.slice (some ⟨gb,0,none⟩) (n+8) c2) (List.replicate (i+1) (-99)++(f.vals++List.replicate 8 (-77)).drop (i+1)) (wr.setCell ⟨gb,i,none⟩ (.int .i64 (-99))):=⟨Ab yH (Aj wr gb i (.int .i64 (-99))),hst⟩
      have HNX:=Ac hN;have YY:(x==x)=true:=by simp
      by_cases hin:i<n
      ·have VB:decide ((i:Int)<(n:Int))=true:=by simp;omega
       have hdm:decide (i<n)=true:=by simpa using hin
       rw[CN (by omega)] at hx
       obtain⟨fg,fo,hfa,ew⟩:∃fg fo,fa=some ⟨fg,fo,none⟩/\wr.cell? ⟨fg,fo+i,none⟩=some (.int .i64 x):=by
        rcases hM.fin with ⟨_,h2⟩|⟨a,cp,h1,_,h3⟩
        ·rw[h2] at hx;simp at hx
        ·obtain⟨fg,fo,e1,e2⟩:=h3 i x hx
         simp only[AH] at h1;have hb:(Value.slice fa f.vals.length fc).ownBlock=some fg:=by rw[h1.1,e1];rfl
         have hlo:=(Aa xq (by intro h0;rw[h0] at hx;simp at hx) fg hb).1;exact⟨fg,fo,by rw[h1.1,e1],yH.cell e2 (fun e=>by simp at e;omega)⟩
       subst hfa;clear hcs hx hx2 hN hst uB hM RD HK kj HM;go_wp2;go_roundw
       case rel=>exact⟨i+1,by omega,rfl,by go_num,HNX⟩
       case measure=>simp[intOf];omega
      ·have VB:decide ((i:Int)<(n:Int))=false:=by simp;omega
       have hdm:decide (i<n)=false:=by simpa using hin
       rw[DU (by omega),FK] at hx
       have hx3:x=-77:=by
        split at hx
        ·simpa using hx.symm
        ·cases hx
       subst hx3;clear hcs hx hx2 hN hst uB hM RD HK kj HM;go_wp2;go_roundw
       case rel=>exact⟨i+1,by omega,rfl,by go_num,HNX⟩
       case measure=>simp[intOf];omega
     ·have dF:decide ((i:Int)<(n:Int)+8)=false:=by simp;omega
      have VD:decide (i<n+8)=false:=by simpa using hlt
      have hin:i=n+8:=by omega
      have jP:IsAt (w.heap.size+2) (.slice (some ⟨gb,0,none⟩) (f.vals.length+8) c2) (List.replicate (f.vals.length+8) (-99)) wr:=by
       rw[kj];rw[hin,BD (by simp;omega),BM] at uB;exact uB
      obtain⟨la,lc,hlv⟩:=hM.lists.lent.1.1.slice;have vu:=hM.tg
      have hWb:=hM.lists.blk.gr yH (fun e=>by
       have e':gb=W:=by simpa using e
       have:=hM.lists.own;rw[<-e',vu] at this;cases this)
      have c7:wr.cell? ⟨W,7,none⟩=some (.slice la ls.length lc):=by rw[hWb.cell 7,<-hlv];rfl
      have hrl:RowAt 35 1 (fun v:Value=>[v]) 0 (.slice la ls.length lc) ls wr:=by
       rw[<-hlv]
       exact hM.lists.lent.1.1.other yH (fun g hg e=>by
        have e':gb=g:=by simpa using e
        have:=hM.lists.lent.1.2 g hg;rw[<-e',vu] at this;cases this)
      have dm:=AA wr (.cells #[.slice (some ⟨gb,0,none⟩) (n+8) c2] 35) none;have zU:=hrl.gr dm;have aG:RowAt 35 1 (fun v:Value=>[v]) 0 (.slice (some ⟨wr.heap.size,0,none⟩) 1 1) [Value.slice (some ⟨gb,0,none⟩) (n+8) c2] (wr.alloc (.cells #[.slice (some ⟨gb,0,none⟩) (n+8) c2] 35)):=(RowAt.lit1 (e:=35) (enc:=fun v:Value=>[v]) (fun _=>rfl) wr (Value.slice (some ⟨gb,0,none⟩) (n+8) c2) #[.slice (some ⟨gb,0,none⟩) (n+8) c2] rfl).weak (AG _);have hdone:=fun(v':Value) (w8:World) (a b:Nat) (hl:Longer (.slice la ls.length lc) v' a b (wr.alloc (.cells #[.slice (some ⟨gb,0,none⟩) (n+8) c2] 35)) w8) (hr:RowAt 35 1 (fun v:Value=>[v]) 0 v' (ls++[.slice (some ⟨gb,0,none⟩) (n+8) c2]) w8)=>AddMid.done hX hM xz iz kV oY yH jP dm (by rw[hlv];exact hl) (by rw[kj];exact hr)
      rw[hlv] at hdone;have lr:=Ac hdone;have ky:=Aa yh;have hb1:ls.length + [Value.slice (some ⟨gb,0,none⟩) (n+8) c2].length<=maxLen:=by unfold maxLen;simp;omega
      have hb2:(ls.length + [Value.slice (some ⟨gb,0,none⟩) (n+8) c2].length)*24<=140737488355328:=by simp;omega
      have fY:=Ac hb1;have gF:=Ac hb2;clear hdone hrl hWb jP uB hM RD HK kj HM hlv vu dm ky hb1 hb2 q0 q1
      go_wp2_with (first
       | (at_builtin;refine Ca rfl _ _ 68 rfl Tryz.underlying68 Tryz.infosInt rfl (by decide) rfl zU rfl aG (by simp) (fun y hy=>by simp only[AX] at hy;subst hy;intro c hc;simp at hc;subst hc;rfl) (Aa fY) (Aa gF) ?_)
       | (go_at_call 51;refine(O1 _ _).mono ?_;rintro e w'⟨rfl,rfl⟩))
      intro v8 w8 tu kF;obtain⟨⟨y8,yf8⟩,hAP⟩:=Aa lr v8 w8 _ _ kF tu;obtain⟨g8,au,rfl⟩:=kF.form;have HAP:=Ac hAP;have e1:(SG==SG)=true:=by simp
      have e2:(SH==SH)=true:=by simp
      clear hAP tu kF lr zU aG c7;go_wp2_with fail;refine(O1 _ _).mono ?_;rintro e w9⟨rfl,ZC⟩;rw[ZC];clear ZC;go_wp2_with fail;refine(O1 _ _).mono ?_;rintro e w10⟨rfl,z8⟩;rw[z8];clear z8;go_wp2;go_ret;rw[Aa HR];exact Aa HAP
end Go.Proofs.YtolhbeekfjnfmaaGreatDoor

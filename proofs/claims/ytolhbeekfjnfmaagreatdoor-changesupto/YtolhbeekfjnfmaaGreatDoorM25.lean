import Derived.Deep.DrawnRows
import Derived.Test.YtolhbeekfjnfmaaGreatDoorM22
set_option maxHeartbeats 8000000
set_option maxRecDepth 100000
namespace Go.Proofs.YtolhbeekfjnfmaaGreatDoor
open Go.RowKit
attribute [local go_sem ↓] Go.wp_at_zero Go.wp_at_succ
variable {U Ux:Nat->Nat}{nb b t:Nat}{cv x y:Value}{bs:List Nat}{a8:List Ch}{w:World}
structure NewI(U Ux:Nat->Nat)(nb:Nat)(cv:Value)(bs:List Nat)(a8:List Ch)(w w':World):Prop where
 blk:w'.heap[nb]?=some (.cells #[cv] 133 (0,0))
 unb:Ux nb=0
 row:TRow Ux 0 134 1 Po cv bs w'
 ne:cv.ownBlock≠some nb
 own:∀g,cv.ownBlock=some g->w.heap.size<=g
 cha:ChsAt Ux 0 0 a8 bs w'
 gr:w.grownBy w' none
 old:∀i,i<w.heap.size->Ux i=U i
 new:∀i,w.heap.size<=i->i<w'.heap.size->Ux i<2\/4<=Ux i/\Ux i<4+3*Cs 0 a8
theorem Q3r{n m:Nat}{v':Value}{cs:List Sv.Cond}{wr wx w3 w4 w5:World}(h:NewI U Ux nb cv bs a8 w wr)(bU:w.heap.size<=nb)(hx:wr.grownBy wx none)(hC:Fg (Cj Ux wr 0) a8.length (Cs 0 a8) b cs wx w3)
 (h4:w3.grownBy w4 none)(hr:RowAt 134 1 Po 0 v' (bs++[b]) w5)(hl:Longer cv v' n m w4 w5):∃U',NewI U U' nb v' (bs++[b]) (a8++[Eu cs]) w (w5.setCell ⟨nb,0,none⟩ v'):=by
 obtain⟨U3,k1,k2,k3,k4⟩:=hC;have SC:=hx.size;have hs3:=k2.size;have nB:=h4.size;have ZJ:=Ad h.blk;have z8:∀i,i<wr.heap.size->U3 i=Ux i:=fun i hi=>by rw[k3 i (by omega),Ak hi]
 have aV:=Aj w5 nb 0 v';have hown:∀g,v'.ownBlock=some g->cv.ownBlock=some g\/w4.heap.size<=g:=hl.own;have hcl:∀g,cv.ownBlock=some g->g<wr.heap.size:=fun g hg=>(h.row.1.own g hg).2
 have cC:GrS (fun i=>i=nb\/cv.ownBlock=some i) w3 w5:=(GrS.of h4 (by simp):GrS (fun i=>i=nb\/cv.ownBlock=some i) w3 w4).trans (hl.gr (fun g hg=>.inr hg));have hG:GrS (fun i=>i=nb\/cv.ownBlock=some i) w3 (w5.setCell ⟨nb,0,none⟩ v'):=cC.then aV (fun g hg=>by simp at hg;exact .inr (.inl hg.symm))
 have hS:∀i,i=nb\/cv.ownBlock=some i->U3 i=0:=by
  rintro i (rfl|hi)
  ·rw[z8 _ ZJ];exact h.unb
  ·rw[z8 i (hcl i hi)];exact h.row.2 i hi
 have hne:v'.ownBlock≠some nb:=fun hx'=>by
  rcases hown nb hx' with h'|h'
  ·exact h.ne h'
  ·omega
 have hb3:w3.heap[nb]?=some (.cells #[cv] 133 (0,0)):=by rw[k2.block nb (by omega) (by simp),hx.block nb ZJ (by simp)];exact h.blk
 have hb5:w5.heap[nb]?=some (.cells #[cv] 133 (0,0)):=hl.block (by rw[h4.block nb (Ad hb3) (by simp)];exact hb3) h.ne;have hq:Cs 0 (a8++[Eu cs])=Cs 0 a8+cs.length+1:=by rw[O8];show Cs 0 a8+(Eu cs).ns.length+1=_;rw[Ww]
 have TN:w.grownBy w3 none:=Ab h.gr (Ab hx k2);have o5:∀i,i<w3.heap.size->Cj U3 w3 0 i=U3 i:=fun i hi=>Ak hi
 refine⟨Cj U3 w3 0,?_,by rw[o5 nb (by omega)];exact hS nb (.inl rfl),⟨?_,?_⟩,hne,?_,?_,?_,?_,?_⟩
 ·rw[BB w5 nb 0 _ _ _ hb5];rfl
 ·exact hr.other aV (fun g hg e=>hne (by rw[hg];simp only[AE] at e;rw[e]))
 ·intro g hg
  rcases hown g hg with h'|h'
  ·rw[o5 g (by have:=hcl g h';omega)];exact hS g (.inr h')
  ·exact Bh (by omega)
 ·intro g hg
  rcases hown g hg with h'|h'
  ·exact h.own g h'
  ·have:=h.gr.size;omega
 ·refine ChsAt.snoc ?_ ?_
  ·refine ChsAt.keep hG o5 (ChsAt.keep (GrS.of (Ab hx k2) (by simp):GrS (fun _=>False) wr w3) z8 h.cha (by simp)) (fun i hi hs=>?_)
   have:=hS i hs;omega
  ·rw[BV]
   refine k1.keep hG (fun i hi hs=>?_) o5;have:=hS i hs;unfold Am at hi;omega
 ·refine GrS.grown (S:=fun i=>w.heap.size<=i) ?_ (fun i hi h=>by omega)
  refine(GrS.of TN (by simp):GrS (fun i=>w.heap.size<=i) w w3).comp hG (fun i hi hn hs=>hn ?_);rcases hs with rfl|hs
  ·exact bU
  ·exact h.own i hs
 ·intro i hi
  have:=h.gr.size;rw[o5 i (by omega),z8 i (by omega),h.old i hi]
 ·intro i hi hlt
  rw[hq];by_cases h3:i<w3.heap.size
  ·rw[o5 i h3]
   by_cases hr':i<wr.heap.size
   ·rw[z8 i hr'];have:=h.new i hi hr';omega
   ·by_cases hx':i<wx.heap.size
    ·rw[k3 i hx',Bh (by omega)];omega
    ·have:=k4 i (by omega) h3;omega
  ·rw[Bh (by omega)];omega
def Ll:Prop:=∀(U:Nat->Nat) (ru q:Nat) (nm:ByteArray) (cv:Value) (cs:List Sv.Cond) (w:World),(∀i,i<w.heap.size->U i<2\/4<=U i/\U i<4+3*q)->CsIn U cv cs w->(∀c∈cs,c.terms.length<=4)->cs.length<=4->
  Calls Tryz.prog 68 #[.int .i64 ru,.agg #[.string nm,cv]] w fun e w'=>∃b,e=.returned (.pointer (some ⟨b,0,none⟩))/\w.heap.size<=b/\Fg U ru q b cs w w'
theorem Gb(h:w.heap[b]?=some (.cells #[x,y] t (0,0))):w.cell? ⟨b,0,none⟩=some x:=by simp[World.cell?,h]
theorem Gc(h:w.heap[b]?=some (.cells #[x,y] t (0,0))):w.cell? ⟨b,1,none⟩=some y:=by simp[World.cell?,h]
theorem Tryz.infopChain:(Tryz.prog.info? 134).map (fun i=>(i.zero,i.size,i.bytes))=some (some (.pointer none),1,8):=by kernel_rfl
theorem Z5{lv:Value}{rs:List Sv.Rule}(h:RsIn U lv rs w){j:Nat}{r:Sv.Rule}(hj:rs[j]?=some r):∃g cap u,lv=.slice (some ⟨g,0,none⟩) rs.length cap/\w.cell? ⟨g,j*2,none⟩=some (.string ⟨r.name.toArray⟩)/\w.cell? ⟨g,j*2+1,none⟩=some u/\CsIn U u r.conds w:=by
 obtain⟨ao,cap,h1,h2⟩:=h.ex;obtain⟨g,rfl,k2,k3,k4⟩:=h2 (by rintro rfl;simp at hj);obtain⟨u,m1,m2,m3⟩:=k4 j r hj;exact⟨g,cap,u,h1,m1,m2,m3⟩
theorem Q2a{w':World}(h:NewI U Ux nb cv bs a8 w w')(bU:w.heap.size<=nb) :
  ∃U',NetAt U' nb a8 w'/\w.grownBy w' none/\(∀i,i<w.heap.size->U' i=U i)/\∀i,w.heap.size<=i->U' i=1\/4<=U' i:=by
 obtain⟨U',oK⟩:∃U':Nat->Nat,U'=fun i=>if i<w.heap.size then U i else if Ux i<4 then 1 else Ux i:=⟨_,rfl⟩
 have ho:∀i,i<w.heap.size->U' i=U i:=fun i hi=>by rw[oK];dsimp only;rw[AQ hi]
 have hn:∀i,w.heap.size<=i->U' i=if Ux i<4 then 1 else Ux i:=fun i hi=>by rw[oK];dsimp only;rw[AO (by omega)]
 clear oK;refine⟨U',⟨cv,bs,h.blk,by rw[hn nb bU,h.unb];rfl,⟨h.row.1,fun g hg=>?_⟩,h.cha.reg ⟨fun i hi=>?_,fun i h1 h2=>?_,fun i=>?_⟩⟩,h.gr,ho,fun i hi=>by rw[hn i hi];split<;>omega⟩
 ·rw[hn g (h.own g hg),h.row.2 g hg];rfl
 ·by_cases hw:i<w.heap.size
  ·rw[ho i hw,<-h.old i hw];exact hi
  ·rw[hn i (by omega)];split<;>omega
 ·by_cases hw:i<w.heap.size
  ·rw[ho i hw,<-h.old i hw]
  ·rw[hn i (by omega),AO (by omega)]
 ·by_cases hw:i<w.heap.size
  ·rw[ho i hw,<-h.old i hw];exact .inl rfl
  ·rw[hn i (by omega)]
   split
   ·exact .inr rfl
   ·exact .inl rfl
theorem Q3o(hNC:Ll)(U:Nat->Nat)(lv:Value)(rs:List Sv.Rule)(w:World)(hU:∀i,i<w.heap.size->U i<2)(hR:RsIn U lv rs w)(dV:∀r∈rs,r.conds.length<=4/\∀c∈r.conds,c.terms.length<=4)(hl:rs.length<=1000) :
  Calls Tryz.prog 38 #[lv] w fun e w'=>∃b U',e=.returned (.pointer (some ⟨b,0,none⟩))/\w.heap.size<=b/\NetAt U' b (rs.map (fun r=>Eu r.conds)) w'/\w.grownBy w' none/\(∀i,i<w.heap.size->U' i=U i)/\∀i,w.heap.size<=i->U' i=1\/4<=U' i:=by
 obtain⟨ao,cap,hlv,_⟩:=hR.ex;have HLV:=Ac hlv;have hg0:=AA w (.cells #[.slice none 0 0] 133) none
 have uO:∃Ux cv bs,NewI U Ux w.heap.size cv bs ((rs.take 0).map (fun r=>Eu r.conds)) w (w.alloc (.cells #[.slice none 0 0] 133)):=by
  refine⟨Cj U w 0,.slice none 0 0,[],AR _ _,Bh (AW _),⟨RowAt.nil 0 _ Se,by simp[Value.ownBlock]⟩,by simp[Value.ownBlock],by simp[Value.ownBlock],trivial,hg0,fun i hi=>Ak hi,fun i hi _=>by rw[Bh hi];omega⟩
 have r8:=Ac uO;have HU:=Ac hU;have HR:=Ac hR;have HSH:=Ac dV;clear uO hU hR dV hg0;subst hlv;go_enter Tryz.func38,Tryz.ntmps38;go_wp2;go_loopw [10] (fun x w'=>∃j:Nat,j<=rs.length/\x=.int .i64 j/\Hid (∃Ux cv bs,NewI U Ux w.heap.size cv bs ((rs.take j).map (fun r=>Eu r.conds)) w w')) (fun x _=>rs.length-(intOf x).toNat)
 case atStart=>exact⟨0,AG _,rfl,r8⟩
 case round=>
  clear r8;obtain⟨j,hj,rfl,HK⟩:=hrel;by_cases hlt:j<rs.length
  ·have hd:decide (j<rs.length)=true:=by simpa using hlt
   obtain⟨r,hr⟩:∃r,rs[j]?=some r:=⟨_,AB hlt⟩
   obtain⟨Ux,cv,bs,hI⟩:=Aa HK;clear HK;obtain⟨g,cap',u,e1,c0,c1,oL⟩:=Z5 (Aa HR) hr;simp only[AH,BP] at e1;obtain⟨rfl,rfl⟩:=e1;obtain⟨uo,gM,hu,_⟩:=oL.ex;obtain⟨cn,rJ⟩:∃cn,r.conds.length=cn:=⟨_,rfl⟩
   rw[rJ] at hu;subst hu;obtain⟨nm,bJ⟩:∃nm:ByteArray,nm=⟨r.name.toArray⟩:=⟨_,rfl⟩
   rw[<-bJ] at c0;clear bJ;have d0:=hI.gr.cell c0 (by simp);have d1:=hI.gr.cell c1 (by simp);have hbl:bs.length=j:=by rw[hI.cha.len,BA,BL,CB hj]
   have hcl:((rs.take j).map (fun r=>Eu r.conds)).length=j:=by rw[BA,BL,CB hj]
   obtain⟨uT,kX,hcv⟩:=hI.row.1.slice;rw[hbl] at hcv;subst hcv;have y0:wr.cell? ⟨w.heap.size,0,none⟩=some (.slice uT j kX):=by simp[World.cell?,hI.blk]
   have yf:wr.frozen? ⟨w.heap.size,0,none⟩=false:=by simp[World.frozen?,hI.blk]
   have dO:=AA wr (.cells #[.string nm,.slice uo cn gM] 128) none;have ky:=AR wr (.cells #[.string nm,.slice uo cn gM] 128);have dV:=Aa HSH r (AV hr)
   have hC:∀wx,(wr.alloc (.cells #[.string nm,.slice uo cn gM] 128)).grownBy wx none->Calls Tryz.prog 68 #[.int .i64 j,.agg #[.string nm,.slice uo cn gM]] wx fun e w3=>∃bj,e=.returned (.pointer (some ⟨bj,0,none⟩))/\Hid (Fg (Cj Ux wr 0) ((rs.take j).map (fun r=>Eu r.conds)).length (Cs 0 ((rs.take j).map (fun r=>Eu r.conds))) bj r.conds wx w3)/\wx.grownBy w3 none/\w3.cell? ⟨w.heap.size,0,none⟩=some (.slice uT j kX)/\w3.frozen? ⟨w.heap.size,0,none⟩=false/\w3.cell? ⟨wr.heap.size,0,none⟩=some (.string nm)/\w3.cell? ⟨wr.heap.size,1,none⟩=some (.slice uo cn gM):=by
    intro wx hx;have hwx:=Ab dO hx;have SC:=hwx.size;have h1:=hNC (Cj Ux wr 0) j (Cs 0 ((rs.take j).map (fun r=>Eu r.conds))) nm (.slice uo cn gM) r.conds wx (fun i hi=>?_) ?_ dV.2 dV.1
    ·refine h1.mono ?_
     rintro e w3⟨bj,rfl,_,QH⟩;have VU:=QH;obtain⟨_,_,hg3,_⟩:=VU;have hb3:w3.heap[w.heap.size]?=some (.cells #[.slice uT j kX] 133 (0,0)):=by rw[(Ab hwx hg3).block _ (Ad hI.blk) (by simp)];exact hI.blk
     refine⟨bj,rfl,Ac (by rw[hcl];exact QH),hg3,by simp[World.cell?,hb3],by simp[World.frozen?,hb3],(Ab hx hg3).cell (Gb ky) (by simp),(Ab hx hg3).cell (Gc ky) (by simp)⟩
    ·by_cases hw:i<wr.heap.size
     ·rw[Ak hw]
      by_cases hw2:i<w.heap.size
      ·rw[hI.old i hw2];have:=Aa HU i hw2;omega
      ·have:=hI.new i (by omega) hw;omega
     ·rw[Bh (by omega)];omega
    ·exact oL.keep (GrS.of (Ab hI.gr hwx) (by simp):GrS (fun _=>False) w wx) (by simp) (fun i hi e=>by rw[Ak (AZ hi hI.gr.size),hI.old i hi];exact e)
   have hrow:∀wy,wr.grownBy wy none->RowAt 134 1 Po 0 (.slice uT j kX) bs wy:=fun wy h=>hI.row.1.gr h
   have aG:∀(w3:World) (bj:Nat),RowAt 134 1 Po 0 (.slice (some ⟨w3.heap.size,0,none⟩) 1 1) [bj] (w3.alloc (.cells #[.pointer (some ⟨bj,0,none⟩)] 134)):=fun w3 bj=>(RowAt.lit1 (e:=134) Se w3 bj #[.pointer (some ⟨bj,0,none⟩)] rfl).weak (AG _)
   have hend:∀wx w3 w4 w5 bj v',(wr.alloc (.cells #[.string nm,.slice uo cn gM] 128)).grownBy wx none->Fg (Cj Ux wr 0) ((rs.take j).map (fun r=>Eu r.conds)).length (Cs 0 ((rs.take j).map (fun r=>Eu r.conds))) bj r.conds wx w3->w3.grownBy w4 none->RowAt 134 1 Po 0 v' (bs++[bj]) w5->(∃n m,Longer (.slice uT j kX) v' n m w4 w5)->∃Ux cv bs,NewI U Ux w.heap.size cv bs ((rs.take (j+1)).map (fun r=>Eu r.conds)) w (w5.setCell ⟨w.heap.size,0,none⟩ v'):=by
    rintro wx w3 w4 w5 bj v' hx QH h4 hv⟨n,m,aP⟩;obtain⟨U',h⟩:=Q3r hI (AW _) (Ab dO hx) QH h4 hv aP;refine⟨U',v',bs++[bj],?_⟩;rw[CZ,hr,CG];exact h
   have bo:∀w4 w5 v' n m,(wr.alloc (.cells #[.string nm,.slice uo cn gM] 128)).grownBy w4 none->Longer (.slice uT j kX) v' n m w4 w5->w5.cell? ⟨w.heap.size,0,none⟩=some (.slice uT j kX)/\w5.frozen? ⟨w.heap.size,0,none⟩=false/\w5.cell? ⟨wr.heap.size,0,none⟩=some (.string nm)/\w5.cell? ⟨wr.heap.size,1,none⟩=some (.slice uo cn gM):=by
    intro w4 w5 v' n m h4 aP;have hb5:w5.heap[w.heap.size]?=some (.cells #[.slice uT j kX] 133 (0,0)):=aP.block (by rw[(Ab dO h4).block _ (Ad hI.blk) (by simp)];exact hI.blk) hI.ne;have fu:w5.heap[wr.heap.size]?=some (.cells #[.string nm,.slice uo cn gM] 128 (0,0)):=aP.block (by rw[h4.block _ (Ad ky) (by simp)];exact ky) (fun hx=>by have:=(hI.row.1.own _ hx).2;omega);exact⟨by simp[World.cell?,hb5],by simp[World.frozen?,hb5],Gb fu,Gc fu⟩
   have bD:=Ac hend;have r6:=Ac bo;have dD:=Ac hrow;have fC:=Ac aG;have sY:=Ac hbl;clear hend bo hrow aG hI oL dV c0 c1 hbl hcl;go_wp2_with fail;have a0:=Gb ky;have a1:=Gc ky;have ya:=dO.cell y0 (by simp);have di:=Ac dO;clear dO ky d0 d1 y0 yf;generalize wr.alloc (.cells #[.string nm,.slice uo cn gM] 128)=wa at di hC bD r6 a0 a1 ya⊢
   go_region_law
    (first
     | (go_simp;go_at_call 68;refine(hC _ (by repeat (first|with_reducible exact AD _ _|with_reducible apply Ah))).mono ?_;rintro e w3⟨bj,rfl,HC3,hg3,y3,yf3,z3⟩;have y4:=(AA w3 (.cells #[.pointer (some ⟨bj,0,none⟩)] 134) none).cell y3 (by simp))
     | (refine Ey (by rfl) _ _ 131 (by rfl) Tryz.underlying131 Tryz.infopChain rfl (by decide) (by simp[Act.eval]) (Aa dD _ (E1 (Ab (Aa di) (Ab (by repeat (first|with_reducible exact AD _ _|with_reducible apply Ah)) hg3)) _)) (by simp[Act.eval]) (Aa fC _ _) (by simp) (fun y _=>Zx y) (by unfold maxLen;rw[Aa sY];simp;omega) (by rw[Aa sY];simp;omega) ?_;intro v5 w5 ax aP;obtain⟨g5,aI,rfl⟩:=aP.form;obtain⟨y5,yf5,z5⟩:=Aa r6 _ _ _ _ _ (E1 (Ab (by repeat (first|with_reducible exact AD _ _|with_reducible apply Ah)) hg3) _) aP))
   all_goals
    have HN:=Ac (Aa bD _ _ _ _ _ _ (by repeat (first|with_reducible exact AD _ _|with_reducible apply Ah)) (Aa HC3) (AA w3 _ none) ax ⟨_,_,aP⟩);clear ax aP bD r6 dD fC hC y3 y4 y5 yf3 yf5 z3 z5 a0 a1 ya HC3;go_wp2;go_roundw
    case rel=>exact⟨j+1,by omega,by go_num,HN⟩
    case measure=>simp[intOf];omega
  ·have hd:decide (j<rs.length)=false:=by simpa using hlt
   go_wp2;go_ret;obtain⟨Ux,cv,bs,h⟩:=Aa HK;rw[CA (by omega)] at h;obtain⟨U',h1,h2⟩:=Q2a h (AW _);exact⟨_,U',rfl,AW _,h1,h2⟩
end Go.Proofs.YtolhbeekfjnfmaaGreatDoor

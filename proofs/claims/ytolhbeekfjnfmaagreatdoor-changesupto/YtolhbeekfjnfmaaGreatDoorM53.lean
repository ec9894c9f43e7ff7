import Derived.Test.YtolhbeekfjnfmaaGreatDoorMA
import Derived.Test.YtolhbeekfjnfmaaGreatDoorM39
import Derived.Test.YtolhbeekfjnfmaaGreatDoorM52
set_option maxHeartbeats 8000000
set_option maxRecDepth 100000
namespace Go.Proofs.YtolhbeekfjnfmaaGreatDoor
open Go.RowKit
theorem Vs(T:Nat->Nat)(W:Nat)(aH:List Nt)(k:Nat)(w:World)(hW:WAt T W aH k w)(hk:k<=2000000)(hnl:aH.length<=k)(aT aL:Addr)(hL:LD aT aL w)(hP:3<w.heap.size)(q n:Int)(hn:I64 n)(s:ByteArray)(hs:s.size<=maxLen)(f:Sv.Fact)(bO:Option Addr)(fc:Nat)(hf:InAt (.slice bO f.vals.length fc) f.vals w)(hf0:f.vals≠[]->∀g,(Value.slice bO f.vals.length fc).ownBlock=some g->g<w.heap.size/\T g=0)(cH:f.vals.length<=1048576)(a:Int)(yD:q<=7) :
  ∃m,m<=aH.length+1/\Calls Tryz.prog 33 #[.pointer (some ⟨W,0,none⟩),.agg #[.int .i64 q,.int .i64 n,.string s,.int .i64 f.kind,.slice bO f.vals.length fc,.int .i64 a]] w fun e w'=>B8 T W k m w e w':=by
 by_cases h1:q=1
 ·subst h1
  refine⟨aH.length,FV _,(Mk W w aT aL hL hP s hs n f.kind a bO _ fc).mono ?_⟩;rintro e w'⟨rfl,hg⟩;exact hW.idle hg
 ·by_cases h2:q=2
  ·subst h2
   refine⟨_,?_,Sk T W aH k w hW hk hnl aT aL hL hP s hs n f.kind a bO _ fc⟩;split<;>omega
  ·cases aH with
   | nil=>exact⟨0,AG _,Ue T W k w hW q n s f.kind bO _ fc a h1 h2⟩
   | cons x xs=>
    exact⟨_,FV _,Q05 T W (x::xs) k w hW hk q n hn s f bO fc hf hf0 cH a h1 h2 yD (by simp) hnl⟩
theorem PlayI.step7{w wr:World}{W k m:Nat}(h:PlayI w W k m wr)(hk:k<=2000000)(hm:m<=k)(aT aL:Addr)(hL:LD aT aL w)(hP:3<w.heap.size)(q n:Int)(hn:I64 n)(s:ByteArray)(hs:s.size<=maxLen)(f:Sv.Fact)(bO:Option Addr)(fc:Nat)(hf:InAt (.slice bO f.vals.length fc) f.vals wr)(hf0:f.vals≠[]->∀g,(Value.slice bO f.vals.length fc).ownBlock=some g->g<w.heap.size)(cH:f.vals.length<=1048576)(a:Int)(yD:q<=7) :
  Calls Tryz.prog 33 #[.pointer (some ⟨W,0,none⟩),.agg #[.int .i64 q,.int .i64 n,.string s,.int .i64 f.kind,.slice bO f.vals.length fc,.int .i64 a]] wr fun e w'=>e=.returned (.bool true)/\∃m',m'<=k+1/\PlayI w W (k+1) m' w':=by
 obtain⟨T,aH,h1,h2,h3,h4⟩:=h;obtain⟨m',gz,hc⟩:=Vs T W aH k wr h1 hk (by omega) aT aL (hL.kept h3 hP) (AZ hP h3.size) q n hn s hs f bO fc hf (fun hne g hg=>⟨AZ (hf0 hne g hg) h3.size,h4 g (hf0 hne g hg)⟩) cH a yD;refine hc.mono ?_;intro e w' hp;obtain⟨he,hN⟩:=PlayI.next h3 h4 hp;exact⟨he,m',by omega,hN⟩
theorem Ya(w:World)(aT aL:Addr)(hL:LD aT aL w)(hP:3<w.heap.size)(ao:Option Addr)(len cap:Nat)(hlen:len<=1048576)(nG:Q4m ao len w) :
  Calls Tryz.prog 14 #[.slice ao len cap,.int .i64 7] w fun e w'=>e=.returned (.bool true)/\w.grownBy w' none:=by
 have h0:=Q4l w;have a7:=AA w (.cells #[.slice none 0 0,.slice none 0 0,.slice none 0 0,.slice none 0 0,.slice none 0 0,.slice none 0 0,.slice none 0 0,.slice none 0 0] 73) none;have xS:=hL.kept a7 hP;have HO:=Ac nG;have H0:=Ac h0;clear nG h0;have VX:=Mk w.heap.size _ aT aL xS (by have:=a7.size;omega) ⟨Mh.toArray⟩ (by decide) 0 0 0 none 0 0;unfold Mh at VX;clear a7 xS;go_enter Tryz.func14,Tryz.ntmps14;go_wp2_with fail;refine VX.mono ?_;rintro e w1⟨rfl,hg1⟩;have h1:=(Aa H0).gr hg1;obtain⟨T1,yn,q1,q2,q3,q4⟩:=h1;have hS1:=Sk T1 w.heap.size yn 0 w1 q1 (by omega) (by omega) aT aL (hL.kept q3 hP) (AZ hP q3.size) ⟨Mh.toArray⟩ (by decide) 0 0 0 none 0 0;rw[show Bh (ByteArray.mk Mh.toArray).data.toList=.inr Vg from Uf,q2] at hS1;simp only[BV] at hS1;unfold Mh at hS1;have HQ:=Ac (show w.grownBy w1 none/\∀j,j<w.heap.size->T1 j=0 from⟨q3,q4⟩);clear VX hg1 q1 q2 q3 q4 H0;go_wp2_with fail;refine hS1.mono ?_;intro e w2 jf;obtain⟨qp,NH⟩:=PlayI.next (Aa HQ).1 (Aa HQ).2 jf;subst qp;obtain⟨T2,ym,q1,q2,q3,q4⟩:=NH
 have c0:∃na nc,w2.cell? ⟨w.heap.size,0,none⟩=some (.slice na 1 nc):=by
  obtain⟨nv,uv,fv,mv,k0,k1,k2,lv,us,fs,ms,ls,i1,i2,_⟩:=q1;obtain⟨na,nc,eM⟩:=i2.row.1.slice;rw[q2] at eM;exact⟨na,nc,by rw[i1.blk.cell 0];exact BJ some eM⟩
 obtain⟨na,nc,c0⟩:=c0;obtain⟨T3,iB⟩:∃T3:Nat->Nat,T3=fun j=>if j<w2.heap.size then T2 j else 0:=⟨_,rfl⟩
 have SD:∀j,j<w2.heap.size->T3 j=T2 j:=fun j hj=>by rw[iB];dsimp only;rw[AQ hj]
 have YJ:∀j,w2.heap.size<=j->T3 j=0:=fun j hj=>by rw[iB];dsimp only;rw[AO (by omega)]
 have ak:=AA w2 (.cells #[.int .i64 6] 3) none
 have kI:=Q05 T3 w.heap.size ym 1 _ (q1.gr (AW _) ak SD) (by omega) 3 0 (by unfold I64;decide) ⟨#[]⟩ ⟨2,[6]⟩ (some ⟨w2.heap.size,0,none⟩) 1 (V3 w2 6) (fun _ g hg=>by
  have e':w2.heap.size=g:=by simpa[Value.ownBlock] using hg
  subst e';exact⟨by simp,YJ _ (AW _)⟩) (by decide) 0 (by decide) (by decide) (by decide) (by omega) (by omega)
 rw[q2] at kI;replace kI:Calls Tryz.prog 33 #[.pointer (some ⟨w.heap.size,0,none⟩),.agg #[.int .i64 3,.int .i64 0,.string ⟨#[]⟩,.int .i64 2,.slice (some ⟨w2.heap.size,0,none⟩) 1 1,.int .i64 0]] (w2.alloc (.cells #[.int .i64 6] 3)) fun e w'=>B8 T3 w.heap.size 1 1 (w2.alloc (.cells #[.int .i64 6] 3)) e w':=kI
 have XM:=Ac (show w.grownBy (w2.alloc (.cells #[.int .i64 6] 3)) none/\∀j,j<w.heap.size->T3 j=0 from⟨Ab q3 ak,fun j hj=>by rw[SD j (AZ hj q3.size),q4 j hj]⟩);clear hS1 jf q1 q2 q3 q4 ak SD YJ iB HQ;go_wp2_with fail;refine kI.mono ?_;intro e w3 mD;obtain⟨he3,hI3⟩:=PlayI.next (Aa XM).1 (Aa XM).2 mD;subst he3;have H3:=Ac hI3;clear kI mD hI3 XM c0;go_wp2;go_loopw [6,7] (fun b z w'=>∃(i m:Nat),i<=len/\b=.bool true/\z=.int .i64 i/\m<=i+2/\Hid (PlayI w w.heap.size (i+2) m w')) (fun _ z _=>len-(intOf z).toNat)
 case atStart=>exact⟨0,1,AG _,rfl,rfl,by omega,H3⟩
 case round=>
  clear H3;obtain⟨i,m,hi,rfl,rfl,hm,HK⟩:=hrel;by_cases hlt:i<len
  ·have hd:decide (i<len)=true:=by simpa using hlt
   obtain⟨g,off,q,n,s,f,bO,fc,a,rfl,hsz,oq,hop,hin,hb,cH⟩:=Aa HO i hlt;have hK:=Aa HK;have hgr:w.grownBy wr none:=by obtain⟨_,_,_,_,h,_⟩:=hK;exact h
   obtain⟨o0,o1,o2,o3,o4,o5⟩:=hop.kept hgr;by_cases hq:q<=7
   ·have VA:decide (q<=7)=true:=by simpa using hq
    have hst:=hK.step7 (by omega) hm aT aL hL hP q n oq.1 s hsz f bO fc (hin.gr hgr) hb cH a hq;obtain⟨fl,nN⟩:∃fl,f.vals.length=fl:=⟨_,rfl⟩
    rw[nN] at hst o4;clear hop hin hb hK HK hgr nN cH oq;go_wp2_with fail;refine hst.mono ?_;rintro e w5⟨rfl,m',gz,hI5⟩;have oM:=hI5.looks;clear hst hI5;go_wp2_with fail;refine oM.mono ?_;rintro e w6⟨rfl,NG⟩;have H6:=Ac NG;clear oM NG;go_wp2;go_roundw
    case rel=>exact⟨i+1,m',by omega,rfl,by go_num,by omega,by rw[show i+1+2=i+2+1 by omega];exact H6⟩
    case measure=>simp[intOf];omega
   ·have VA:decide (q<=7)=false:=by simpa using hq
    have oM:=hK.looks;clear hop hin hb hK HK hgr;go_wp2_with fail;refine oM.mono ?_;rintro e w6⟨rfl,NG⟩
    have hI7:PlayI w w.heap.size (i+1+2) m w6:=by
     obtain⟨T9,kO,j1,j2,j3,j4⟩:=NG;exact⟨T9,kO,j1.gr (by omega) (AD _ _) (fun _ _=>rfl),j2,j3,j4⟩
    have H6:=Ac hI7;clear oM NG hI7;go_wp2;go_roundw
    case rel=>exact⟨i+1,m,by omega,rfl,by go_num,by omega,H6⟩
    case measure=>simp[intOf];omega
  ·have hd:decide (i<len)=false:=by simpa using hlt
   go_wp2;go_ret;obtain⟨_,_,_,_,hg,_⟩:=Aa HK;exact⟨rfl,hg⟩
theorem Wq(w:World)(aT aL:Addr)(hL:LD aT aL w)(hP:3<w.heap.size)(ao:Option Addr)(len cap:Nat)(hlen:len<=1048576)(nG:Q4m ao len w) :
  Calls Tryz.prog 6 #[.slice ao len cap] w fun e w'=>e=.returned (.bool true)/\w.grownBy w' none:=by
 have hp:=Ya w aT aL hL hP ao len cap hlen nG;clear nG hL hP;go_enter Tryz.func6,Tryz.ntmps6;go_wp2_with fail;refine hp.mono ?_;rintro e w1⟨rfl,hg1⟩;go_wp2;go_ret;exact⟨rfl,hg1⟩
end Go.Proofs.YtolhbeekfjnfmaaGreatDoor

import Derived.Test.YtolhbeekfjnfmaaGreatDoorM53
set_option maxHeartbeats 8000000
set_option maxRecDepth 100000
namespace Go.Proofs.YtolhbeekfjnfmaaGreatDoor
open Go.RowKit
theorem Xt(T:Nat->Nat)(W:Nat)(aD:List Nt)(k:Nat)(w:World)(hW:WAt T W aD k w)(hk:k<=2000000)(hnl:aD.length<=k)(aT aL:Addr)(hL:LD aT aL w)(hP:3<w.heap.size)(q n:Int)(hn:I64 n)(s:ByteArray)(hs:s.size<=maxLen)(f:Sv.Fact)(bH:Option Addr)(fc:Nat)(hf:InAt (.slice bH f.vals.length fc) f.vals w)(hf0:f.vals≠[]->∀g,(Value.slice bH f.vals.length fc).ownBlock=some g->g<w.heap.size/\T g=0)(br:f.vals.length<=1048576)(a:Int)(xW:q<=7) :
  ∃m,m<=aD.length+1/\Calls Tryz.prog 33 #[.pointer (some ⟨W,0,none⟩),.agg #[.int .i64 q,.int .i64 n,.string s,.int .i64 f.kind,.slice bH f.vals.length fc,.int .i64 a]] w fun e w'=>B6 T W k m w e w':=by
 by_cases h1:q=1
 ·subst h1
  refine⟨aD.length,FT _,(Mg W w aT aL hL hP s hs n f.kind a bH _ fc).mono ?_⟩;rintro e w'⟨rfl,hg⟩;exact hW.idle hg
 ·by_cases h2:q=2
  ·subst h2
   refine⟨_,?_,Sl T W aD k w hW hk hnl aT aL hL hP s hs n f.kind a bH _ fc⟩;split<;>omega
  ·cases aD with
   | nil=>exact⟨0,AG _,Tz T W k w hW q n s f.kind bH _ fc a h1 h2⟩
   | cons x xs=>
    exact⟨_,FT _,Q09 T W (x::xs) k w hW hk q n hn s f bH fc hf hf0 br a h1 h2 xW (by simp) hnl⟩
theorem PlayI.step7{w wr:World}{W k m:Nat}(h:PlayI w W k m wr)(hk:k<=2000000)(hm:m<=k)(aT aL:Addr)(hL:LD aT aL w)(hP:3<w.heap.size)(q n:Int)(hn:I64 n)(s:ByteArray)(hs:s.size<=maxLen)(f:Sv.Fact)(bH:Option Addr)(fc:Nat)(hf:InAt (.slice bH f.vals.length fc) f.vals wr)(hf0:f.vals≠[]->∀g,(Value.slice bH f.vals.length fc).ownBlock=some g->g<w.heap.size)(br:f.vals.length<=1048576)(a:Int)(xW:q<=7) :
  Calls Tryz.prog 33 #[.pointer (some ⟨W,0,none⟩),.agg #[.int .i64 q,.int .i64 n,.string s,.int .i64 f.kind,.slice bH f.vals.length fc,.int .i64 a]] wr fun e w'=>e=.returned (.bool true)/\∃m',m'<=k+1/\PlayI w W (k+1) m' w':=by
 obtain⟨T,aD,h1,h2,h3,h4⟩:=h;obtain⟨m',gH,hc⟩:=Xt T W aD k wr h1 hk (by omega) aT aL (hL.kept h3 hP) (AZ hP h3.size) q n hn s hs f bH fc hf (fun hne g hg=>⟨AZ (hf0 hne g hg) h3.size,h4 g (hf0 hne g hg)⟩) br a xW;refine hc.mono ?_;intro e w' hp;obtain⟨he,hN⟩:=PlayI.next h3 h4 hp;exact⟨he,m',by omega,hN⟩
theorem Xi(w:World)(aT aL:Addr)(hL:LD aT aL w)(hP:3<w.heap.size)(ao:Option Addr)(len cap:Nat)(hlen:len<=1048576)(lr:Q4k ao len w) :
  Calls Tryz.prog 14 #[.slice ao len cap,.int .i64 7] w fun e w'=>e=.returned (.bool true)/\w.grownBy w' none:=by
 have h0:=Q4s w;have a7:=AA w (.cells #[.slice none 0 0,.slice none 0 0,.slice none 0 0,.slice none 0 0,.slice none 0 0,.slice none 0 0,.slice none 0 0,.slice none 0 0] 73) none;have wX:=hL.kept a7 hP;have HO:=Ac lr;have H0:=Ac h0;clear lr h0;have VF:=Mg w.heap.size _ aT aL wX (by have:=a7.size;omega) ⟨Ln.toArray⟩ (by decide) 0 0 0 none 0 0;unfold Ln at VF;clear a7 wX;go_enter Tryz.func14,Tryz.ntmps14;go_wp2_with fail;refine VF.mono ?_;rintro e w1⟨rfl,hg1⟩;have h1:=(Aa H0).gr hg1;obtain⟨T1,yG,q1,q2,q3,q4⟩:=h1;have hS1:=Sl T1 w.heap.size yG 0 w1 q1 (by omega) (by omega) aT aL (hL.kept q3 hP) (AZ hP q3.size) ⟨Ln.toArray⟩ (by decide) 0 0 0 none 0 0;rw[show Bg (ByteArray.mk Ln.toArray).data.toList=.inr Us from Sz,q2] at hS1;simp only[BV] at hS1;unfold Ln at hS1;have HQ:=Ac (show w.grownBy w1 none/\∀j,j<w.heap.size->T1 j=0 from⟨q3,q4⟩);clear VF hg1 q1 q2 q3 q4 H0;go_wp2_with fail;refine hS1.mono ?_;intro e w2 jE;obtain⟨q9,MK⟩:=PlayI.next (Aa HQ).1 (Aa HQ).2 jE;subst q9;obtain⟨T2,yF,q1,q2,q3,q4⟩:=MK
 have c0:∃na nc,w2.cell? ⟨w.heap.size,0,none⟩=some (.slice na 1 nc):=by
  obtain⟨nv,uv,fv,mv,k0,k1,k2,lv,us,fs,ms,ls,i1,i2,_⟩:=q1;obtain⟨na,nc,dw⟩:=i2.row.1.slice;rw[q2] at dw;exact⟨na,nc,by rw[i1.blk.cell 0];exact BJ some dw⟩
 obtain⟨na,nc,c0⟩:=c0;obtain⟨T3,gJ⟩:∃T3:Nat->Nat,T3=fun j=>if j<w2.heap.size then T2 j else 0:=⟨_,rfl⟩
 have RF:∀j,j<w2.heap.size->T3 j=T2 j:=fun j hj=>by rw[gJ];dsimp only;rw[AQ hj]
 have XV:∀j,w2.heap.size<=j->T3 j=0:=fun j hj=>by rw[gJ];dsimp only;rw[AO (by omega)]
 have aj:=AA w2 (.cells #[.int .i64 6] 3) none
 have je:=Q09 T3 w.heap.size yF 1 _ (q1.gr (AW _) aj RF) (by omega) 3 0 (by unfold I64;decide) ⟨#[]⟩ ⟨2,[6]⟩ (some ⟨w2.heap.size,0,none⟩) 1 (Wi w2 6) (fun _ g hg=>by
  have e':w2.heap.size=g:=by simpa[Value.ownBlock] using hg
  subst e';exact⟨by simp,XV _ (AW _)⟩) (by decide) 0 (by decide) (by decide) (by decide) (by omega) (by omega)
 rw[q2] at je;replace je:Calls Tryz.prog 33 #[.pointer (some ⟨w.heap.size,0,none⟩),.agg #[.int .i64 3,.int .i64 0,.string ⟨#[]⟩,.int .i64 2,.slice (some ⟨w2.heap.size,0,none⟩) 1 1,.int .i64 0]] (w2.alloc (.cells #[.int .i64 6] 3)) fun e w'=>B6 T3 w.heap.size 1 1 (w2.alloc (.cells #[.int .i64 6] 3)) e w':=je
 have WU:=Ac (show w.grownBy (w2.alloc (.cells #[.int .i64 6] 3)) none/\∀j,j<w.heap.size->T3 j=0 from⟨Ab q3 aj,fun j hj=>by rw[RF j (AZ hj q3.size),q4 j hj]⟩);clear hS1 jE q1 q2 q3 q4 aj RF XV gJ HQ;go_wp2_with fail;refine je.mono ?_;intro e w3 l6;obtain⟨he3,hI3⟩:=PlayI.next (Aa WU).1 (Aa WU).2 l6;subst he3;have H3:=Ac hI3;clear je l6 hI3 WU c0;go_wp2;go_loopw [6,7] (fun b z w'=>∃(i m:Nat),i<=len/\b=.bool true/\z=.int .i64 i/\m<=i+2/\Hid (PlayI w w.heap.size (i+2) m w')) (fun _ z _=>len-(intOf z).toNat)
 case atStart=>exact⟨0,1,AG _,rfl,rfl,by omega,H3⟩
 case round=>
  clear H3;obtain⟨i,m,hi,rfl,rfl,hm,HK⟩:=hrel;by_cases hlt:i<len
  ·have hd:decide (i<len)=true:=by simpa using hlt
   obtain⟨g,off,q,n,s,f,bH,fc,a,rfl,hsz,oA,hop,hin,hb,br⟩:=Aa HO i hlt;have hK:=Aa HK;have hgr:w.grownBy wr none:=by obtain⟨_,_,_,_,h,_⟩:=hK;exact h
   obtain⟨o0,o1,o2,o3,o4,o5⟩:=hop.kept hgr;by_cases hq:q<=7
   ·have UE:decide (q<=7)=true:=by simpa using hq
    have hst:=hK.step7 (by omega) hm aT aL hL hP q n oA.1 s hsz f bH fc (hin.gr hgr) hb br a hq;obtain⟨fl,mG⟩:∃fl,f.vals.length=fl:=⟨_,rfl⟩
    rw[mG] at hst o4;clear hop hin hb hK HK hgr mG br oA;go_wp2_with fail;refine hst.mono ?_;rintro e w5⟨rfl,m',gH,hI5⟩;have nS:=hI5.looks;clear hst hI5;go_wp2_with fail;refine nS.mono ?_;rintro e w6⟨rfl,MJ⟩;have H6:=Ac MJ;clear nS MJ;go_wp2;go_roundw
    case rel=>exact⟨i+1,m',by omega,rfl,by go_num,by omega,by rw[show i+1+2=i+2+1 by omega];exact H6⟩
    case measure=>simp[intOf];omega
   ·have UE:decide (q<=7)=false:=by simpa using hq
    have nS:=hK.looks;clear hop hin hb hK HK hgr;go_wp2_with fail;refine nS.mono ?_;rintro e w6⟨rfl,MJ⟩
    have hI7:PlayI w w.heap.size (i+1+2) m w6:=by
     obtain⟨T9,jk,j1,j2,j3,j4⟩:=MJ;exact⟨T9,jk,j1.gr (by omega) (AD _ _) (fun _ _=>rfl),j2,j3,j4⟩
    have H6:=Ac hI7;clear nS MJ hI7;go_wp2;go_roundw
    case rel=>exact⟨i+1,m,by omega,rfl,by go_num,by omega,H6⟩
    case measure=>simp[intOf];omega
  ·have hd:decide (i<len)=false:=by simpa using hlt
   go_wp2;go_ret;obtain⟨_,_,_,_,hg,_⟩:=Aa HK;exact⟨rfl,hg⟩
theorem Vl(w:World)(aT aL:Addr)(hL:LD aT aL w)(hP:3<w.heap.size)(ao:Option Addr)(len cap:Nat)(hlen:len<=1048576)(lr:Q4k ao len w) :
  Calls Tryz.prog 6 #[.slice ao len cap] w fun e w'=>e=.returned (.bool true)/\w.grownBy w' none:=by
 have hp:=Xi w aT aL hL hP ao len cap hlen lr;clear lr hL hP;go_enter Tryz.func6,Tryz.ntmps6;go_wp2_with fail;refine hp.mono ?_;rintro e w1⟨rfl,hg1⟩;go_wp2;go_ret;exact⟨rfl,hg1⟩
end Go.Proofs.YtolhbeekfjnfmaaGreatDoor

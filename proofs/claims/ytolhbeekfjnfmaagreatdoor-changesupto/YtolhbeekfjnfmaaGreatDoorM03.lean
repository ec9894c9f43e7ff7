import Derived.Test.YtolhbeekfjnfmaaGreatDoorMA
import Derived.Test.YtolhbeekfjnfmaaGreatDoorM01
import Derived.Test.YtolhbeekfjnfmaaGreatDoorM02
set_option maxHeartbeats 8000000
set_option maxRecDepth 100000
namespace Go.Proofs.YtolhbeekfjnfmaaGreatDoor
open Go.RowKit
abbrev BN:=@bodyPost_ret
abbrev CE:=@World.block_lt_of_cell?
abbrev CW:=@wpList_append_own
abbrev EJ:=@World.ownsRow_nil
abbrev EO:=@World.size_alloc
abbrev IL:=@World.ownsRow_lit
variable {w w' W W0:World}{N b n j size i f k base':Nat}{x y z a v eT:Value}{s:ByteArray}{e T:TypeId}{xs:List Value}{ts:List Sv.Term}{p:Prop}
theorem Q4(b:Nat)(s:ByteArray)(i:Nat)(v:Value)(w:World)(hi:i<=s.size)(_hs:s.size<=400)(hb:PAt b s i v w) :
  Calls Tryz.prog 209 #[.pointer (some ⟨b,0,none⟩)] w fun e w'=>e=.returned (.bool (Bg s.data.toList i))/\∃n,w'=w.drewN n:=by
 have c0:=hb.c0;have c1:=hb.c1;by_cases h:0<i
 ·have hd:decide ((0:Int)<(i:Int))=true:=by simp;omega
  have hlt:i-1<s.size:=by omega
  obtain⟨j,rfl⟩:∃j,i=j+1:=⟨i-1,by omega⟩
  have hj:j<s.size:=by omega
  have e:Bg s.data.toList (j+1)=As s[j]:=by simp[Bg,Wd s j hj]
  rw[e];clear e;go_enter Tryz.func209,Tryz.ntmps209;go_wp2;go_quiet ((go_at_call 198;exact Calls.quiet_of_same (Cd _ _)));go_wp2;go_ret;exact⟨rfl,_,rfl⟩
 ·have hd:decide ((0:Int)<(i:Int))=false:=by simp;omega
  have e:Bg s.data.toList i=false:=by simp[Bg,h]
  rw[e];clear e;go_enter Tryz.func209,Tryz.ntmps209;go_wp2;go_quiet (fail);go_wp2;go_ret;exact⟨rfl,_,rfl⟩
theorem Ml(c:UInt8)(h:As c=true):48<=(c.toNat:Int)/\(c.toNat:Int)<=57:=by
 have:=Cp c h;omega
theorem Yr(b:Nat)(s:ByteArray)(i:Nat)(v:Value)(w:World)(hi:i<=s.size)(hs:s.size<=400)(h:As (Ai s.data.toList (Ag s.data.toList i))=true)(hb:PAt b s i v w) :
  Calls Tryz.prog 180 #[.pointer (some ⟨b,0,none⟩)] w fun e w'=>e=.returned (.tuple #[.int .i64 ((Ai s.data.toList (Ag s.data.toList i)).toNat-48),.nilIface])/\PAt b s (Ag s.data.toList i+1) v w'/\w.grownBy w' (some b):=by
 have hle:=A7 s.data.toList i (by simpa using hi);rw[Ae] at hle;obtain⟨nH,aj⟩:=hle;have hr:=Ml _ h;obtain⟨hr1,hr2⟩:=hr;go_enter Tryz.func180,Tryz.ntmps180
 go_wp2_with (go_at_call 88;refine(L8 b s i v _ hi hs hb).mono ?_;rintro e w1⟨rfl,hb1,hg1⟩)
 refine(Ce b s _ v _ aj hs hb1).mono ?_;rintro e w2⟨rfl,n,rfl⟩;have c1:=hb1.c1;have f1:=hb1.fz 1
 go_wp2_with (go_at_call 198;refine(Cd _ _).mono ?_;rintro e w3⟨rfl,rfl⟩)
 go_ret2
 exact⟨rfl,PAt.set1 hb1 _,Ab hg1 (Ab (Aj w1 b 1 _) (Ad _ _ _))⟩
theorem Q2v(b:Nat)(s:ByteArray)(i:Nat)(v:Value)(w:World)(tT:TypeId)(aT:Addr)(eL:Value)(hi:i<=s.size)(hs:s.size<=400)(h:As (Ai s.data.toList (Ag s.data.toList i))=false)(hb:PAt b s i v w)(hG:GOk b (.iface tT (.pointer (some aT))) eL w) :
  Calls Tryz.prog 180 #[.pointer (some ⟨b,0,none⟩)] w fun e w'=>∃y,e=.returned (.tuple #[.int .i64 0,y])/\Bad b (Ag s.data.toList i) (.iface tT (.pointer (some aT))) w y w':=by
 have hle:=A7 s.data.toList i (by simpa using hi);rw[Ae] at hle;obtain⟨nH,aj⟩:=hle;go_enter Tryz.func180,Tryz.ntmps180
 go_wp2_with (go_at_call 88;refine(L8 b s i v _ hi hs hb).mono ?_;rintro e w1⟨rfl,hb1,hg1⟩)
 refine(Ce b s _ v _ aj hs hb1).mono ?_;rintro e w2⟨rfl,n,rfl⟩;have cT:=(hG.kept hg1).cT
 go_wp2_with (go_at_call 198;refine(Cd _ _).mono ?_;rintro e w3⟨rfl,rfl⟩)
 refine(G9 b s _ v _ tT aT (hb1.drewN n) cT).mono ?_;rintro e w4⟨f,rfl,hf,hF,hg2⟩;have hg:=Ab hg1 (Ab (Ad w1 n _) (A3 hg2 (some b)));have hf':w.heap.size<=f:=AU hg1.size hf;go_wp2
 go_ret2
 exact⟨_,rfl,f,rfl,hf',hF,hg⟩
theorem Si(h:Below w.heap.size w w')(row:Option Nat):w.grownBy w' row:=⟨h.os,h.tape,h.output,h.size,fun k hk _=>h.block k hk⟩
theorem Vn(s:ByteArray)(w:World)(hs:s.size<=400) :
  Calls Tryz.prog 155 #[.string s] w fun e w'=>e=.returned (.string s)/\w.grownBy w' none:=by
 go_enter Tryz.func155,Tryz.ntmps155
 go_wp2_with (go_at_call 179;refine(Tryz.stringslite_Clone s _ (by omega)).mono ?_;rintro e w1⟨rfl,hb1⟩)
 go_ret;exact⟨rfl,Si hb1 _⟩
theorem Ew(n:Nat)(l:List UInt8)(i:Nat):Ao (n+1) l i=if B9 (Ai l i)=true then Ao n l (i+1) else i:=rfl
theorem Lf(l:List UInt8)(i:Nat)(h:Ao 8 l i=i):B9 (Ai l i)=false:=by
 cases hc:B9 (Ai l i)
 ·rfl
 ·exfalso
  rw[show (8:Nat)=7+1 from rfl,Ew,AQ hc] at h;have:=(Dh 7 l (i+1) (D2 l i hc)).1;omega
theorem Q2p(b:Nat)(s:ByteArray)(i:Nat)(v:Value)(w:World)(tT:TypeId)(aT:Addr)(eL:Value)(hi:i<=s.size)(hs:s.size<=400)(h:Ao 8 s.data.toList i=i)(hb:PAt b s i v w)(hG:GOk b (.iface tT (.pointer (some aT))) eL w) :
  Calls Tryz.prog 125 #[.pointer (some ⟨b,0,none⟩)] w fun e w'=>∃y,e=.returned (.tuple #[.string ⟨#[]⟩,y])/\Bad b i (.iface tT (.pointer (some aT))) w y w':=by
 have hl:=Lf _ _ h;clear h;have c1:=hb.c1;have cT:=hG.cT;have e1:((i:Int)==(i:Int))=true:=by simp
 go_enter Tryz.func125,Tryz.ntmps125;go_wp2;go_loopw [] (fun w'=>w'=w) (fun _=>0)
 case atStart=>rfl
 case round=>
  subst hrel
  go_wp2_with (first|(go_at_call 124;refine(Ce b s i v _ hi hs hb).mono ?_;rintro e w1⟨rfl,n,rfl⟩)|(go_at_call 153;refine(C7 _ _).mono ?_;rintro e w3⟨rfl,rfl⟩))
  refine(G9 b s _ v _ tT aT (hb.drewN n) cT).mono ?_;rintro e w4⟨f,rfl,hf,hF,hg2⟩;have hg:=Ab (Ad wr n _) (A3 hg2 (some b));go_wp2
  go_ret2
  exact⟨_,rfl,f,rfl,hf,hF,hg⟩
def Ct(l:List UInt8)(i j:Nat):List UInt8:=(l.take j).drop i
theorem Kl(s:ByteArray)(i j:Nat):s.extract i j=⟨(Ct s.data.toList i j).toArray⟩:=by
 apply ByteArray.ext
 rw[ByteArray.data_extract];apply Array.ext'
 simp[Ct,Array.toList_extract,List.drop_take]
theorem Rp(b:Nat)(s:ByteArray)(i:Nat)(v:Value)(w:World)(hi:i<=s.size)(hs:s.size<=400)(h:Ao 8 s.data.toList i≠i)(hb:PAt b s i v w) :
  Calls Tryz.prog 125 #[.pointer (some ⟨b,0,none⟩)] w fun e w'=>e=.returned (.tuple #[.string ⟨(Ct s.data.toList i (Ao 8 s.data.toList i)).toArray⟩,.nilIface])/\PAt b s (Ao 8 s.data.toList i) v w'/\w.grownBy w' (some b):=by
 have hnl:=Dh 8 s.data.toList i (by simpa using hi);rw[Ae] at hnl;obtain⟨dR,gK,TU⟩:=hnl;obtain⟨j,hj⟩:∃j,Ao 8 s.data.toList i=j:=⟨_,rfl⟩
 rw[hj] at h dR gK TU⊢;have HJ:Hid (Ao 8 s.data.toList i=j):=hj;clear hj;have c1:=hb.c1;go_enter Tryz.func125,Tryz.ntmps125;go_wp2;go_loopw [] (fun w'=>∃k m:Nat,k+m=i+8/\k<=s.size/\i<=k/\PAt b s k v w'/\w.grownBy w' (some b)/\Ao m s.data.toList k=j) (fun w'=>s.size-El b w')
 case atStart=>exact⟨i,8,rfl,hi,AW _,hb,AD _ _,HJ.out⟩
 case round=>
  obtain⟨k,m,iA,hk,hik,aD,hg,bQ⟩:=hrel;have HN:Hid (Ao m s.data.toList k=j):=bQ;have HK:Hid (k+m=i+8):=iA;have HA:Hid (El b wr=k):=aD.at;clear bQ iA c1;have c1:=aD.c1;have f1:=aD.fz 1;cases hl:B9 (Ai s.data.toList k)
  ·obtain rfl:k=j:=by
    have:=HN.out;cases m with
    | zero=>exact this
    | succ m=>rw[Ew,hl] at this;exact this
   have e1:((k:Int)==(i:Int))=false:=by simp;omega
   go_wp2_with (first|(go_at_call 124;refine(Ce b s k v _ hk hs aD).mono ?_;rintro e w1⟨rfl,n,rfl⟩)|(go_at_call 153;refine(C7 _ _).mono ?_;rintro e w3⟨rfl,rfl⟩))
   have c0:=aD.c0;have UE:(i:Int)<=(k:Int):=by omega
   have UA:(k:Int)<=(s.size:Int):=by omega
   have hcl:(s.extract i k).size<=400:=by rw[KQ];omega
   go_region_with (go_at_call 155;refine(Vn _ _ hcl).mono ?_;rintro e w1⟨rfl,hg1⟩)
   all_goals
    go_wp2
    go_ret2
    exact⟨by rw[<-Kl];rfl,(aD.drewN _).kept hg1 (by simp),Ab hg (Ab (Ad wr _ _) (A3 hg1 _))⟩
  ·have dX:=D2 _ _ hl
   rw[Ae] at dX;cases m with
   | zero=>
    obtain rfl:k=j:=HN.out;have zz:k=i+8:=HK.out;have e1:((k:Int)==(i:Int))=false:=by simp;omega
    have e2:decide ((k:Int)<(i:Int)+8)=false:=by simp;omega
    have HK8:Hid (k=i+8):=zz;clear zz
    go_wp2_with (first|(go_at_call 124;refine(Ce b s k v _ hk hs aD).mono ?_;rintro e w1⟨rfl,n,rfl⟩)|(go_at_call 153;refine(C7 _ _).mono ?_;rintro e w3⟨rfl,rfl⟩))
    have c0:=aD.c0;have UE:(i:Int)<=(k:Int):=by omega
    have UA:(k:Int)<=(s.size:Int):=by omega
    have hcl:(s.extract i k).size<=400:=by rw[KQ];omega
    go_region_with (go_at_call 155;refine(Vn _ _ hcl).mono ?_;rintro e w1⟨rfl,hg1⟩)
    all_goals
     go_wp2
     go_ret2
     exact⟨by rw[<-Kl];rfl,(aD.drewN _).kept hg1 (by simp),Ab hg (Ab (Ad wr _ _) (A3 hg1 _))⟩
   | succ m=>
    have zz:k<i+8:=by have:=HK.out;omega
    have e2:decide ((k:Int)<(i:Int)+8)=true:=by simp;omega
    go_wp2_with (first|(go_at_call 124;refine(Ce b s k v _ hk hs aD).mono ?_;rintro e w1⟨rfl,n,rfl⟩)|(go_at_call 153;refine(C7 _ _).mono ?_;rintro e w3⟨rfl,rfl⟩))
    go_roundw
    case rel=>exact⟨k+1,m,by have:=HK.out;omega,by omega,by omega,(PAt.set1 aD (k+1)),Ab hg (Ab (Aj wr b 1 _) (Ad _ _ _)),by have:=HN.out;rw[Ew,hl] at this;exact this⟩
    case measure=>
     have h2:El b ((wr.setCell ⟨b,1,none⟩ (.int .i64 ((k+1:Nat):Int))))=k+1:=(PAt.set1 aD (k+1)).at;show s.size-El b ((wr.setCell ⟨b,1,none⟩ (.int .i64 ((k+1:Nat):Int))))<s.size-El b wr
     rw[h2,HA.out];omega
theorem Cf(n:Nat)(l:List UInt8)(v i:Nat):A5 (n+1) l v i=if As (Ai l i)=true then A5 n l (v*10+((Ai l i).toNat-48)) (i+1) else (v,i):=rfl
theorem Fq(l:List UInt8)(i:Nat)(h:(A5 9 l 0 i).2=i):As (Ai l i)=false:=by
 cases hc:As (Ai l i)
 ·rfl
 ·exfalso
  rw[show (9:Nat)=8+1 from rfl,Cf,AQ hc] at h;have:=(Lc 8 l (0*10+((Ai l i).toNat-48)) (i+1) (Dd l i hc)).1;omega
theorem Jc(c:UInt8):((c.toNat:Int)==45)=(c==45):=Hn c 45
def TAt(N:Nat)(x y z:Value)(w:World):Prop:=w.heap[N]?=some (.cells #[x,y,z] 258 (0,0))
theorem TAt.kept{row:Option Nat}(h:TAt N x y z w)(g:w.grownBy w' row)(hne:some N≠row):TAt N x y z w':=by
 unfold TAt;rw[g.block N (CV.1 h).1 hne];exact h
theorem TAt.drewN{N:Nat}{x y z:Value}{w:World}(h:TAt N x y z w)(n:Nat):TAt N x y z (w.drewN n):=h
theorem TAt.lt(h:TAt N x y z w):N<w.heap.size:=(CV.1 h).1
theorem TAt.c(h:TAt N x y z w):w.cell? ⟨N,0,none⟩=some x/\w.cell? ⟨N,1,none⟩=some y/\w.cell? ⟨N,2,none⟩=some z:=by
 unfold TAt at h;simp[World.cell?,h]
theorem TAt.fz(h:TAt N x y z w)(o:Nat):w.frozen? ⟨N,o,none⟩=false:=by
 unfold TAt at h;simp[World.frozen?,h]
theorem Ci(w:World)(N:Nat)(x y z:Value):w.grownBy (((w.setCell ⟨N,0,none⟩ x).setCell ⟨N,1,none⟩ y).setCell ⟨N,2,none⟩ z) (some N):=
 Ab (Ab (Aj w N 0 x) (Aj _ N 1 y)) (Aj _ N 2 z)
theorem TAt.set3{b c:Value}(h:TAt N a b c w)(x y z:Value):TAt N x y z (((w.setCell ⟨N,0,none⟩ x).setCell ⟨N,1,none⟩ y).setCell ⟨N,2,none⟩ z):=by
 unfold TAt at h⊢;have h1:=BB w N 0 _ _ x h;have h2:=BB _ N 1 _ _ y h1;have h3:=BB _ N 2 _ _ z h2;rw[h3];rfl
theorem A8{a c:World}{row:Option Nat}(h:w.grownBy a row)(k:a.grownBy c (some N))(hN:w.heap.size<=N):w.grownBy c row:=
 ⟨k.os.trans h.os,k.tape.trans h.tape,k.output.trans h.output,AU h.size k.size,fun i hi hne=>(k.block i (AZ hi h.size) (by simp;omega)).trans (h.block i hi hne)⟩
theorem Jd{row:Option Nat}(h:(w.drewN n).grownBy w' row):w.grownBy w' row:=⟨h.os,h.tape,h.output,h.size,h.block⟩
theorem S1(b:Nat)(s:ByteArray)(i:Nat)(v:Value)(w:World)(tT:TypeId)(aT:Addr)(eL:Value)(hi:i<=s.size)(hs:s.size<=400)(hm:(Ai s.data.toList i==45)=false)(h:(A5 9 s.data.toList 0 i).2=i)(hb:PAt b s i v w)(hG:GOk b (.iface tT (.pointer (some aT))) eL w) :
  Calls Tryz.prog 210 #[.pointer (some ⟨b,0,none⟩)] w fun e w'=>∃y,e=.returned (.tuple #[.agg #[.int .i64 0,.int .u8 0,.int .i64 0],y])/\Bad b i (.iface tT (.pointer (some aT))) w y w':=by
 have hl:=Fq _ _ h;have em:=(Jc (Ai s.data.toList i)).trans hm;clear h hm;have b9:=fun o=>hb.kept (AA w o none) (by simp)
 have c1:=fun o=>(b9 o).c1
 have cT:=fun o=>(hG.kept (AA w o (some b))).cT
 have e1:((i:Int)==(i:Int))=true:=by simp
 go_enter Tryz.func210,Tryz.ntmps210
 go_wp2_with (go_at_call 124;refine(Ce b s i v _ hi hs (b9 _)).mono ?_;rintro e w1⟨rfl,n,rfl⟩)
 go_loopw [6] (fun x w'=>x=.int .i64 0/\w'=(w.alloc (.cells #[.int .i64 0,.int .u8 0,.int .i64 0] 258)).drewN n) (fun _ _=>0)
 case atStart=>exact⟨rfl,rfl⟩
 case round=>
  obtain⟨rfl,rfl⟩:=hrel
  go_wp2_with (first|(go_at_call 124;refine(Ce b s i v _ hi hs ((b9 _).drewN _)).mono ?_;rintro e w1⟨rfl,n2,rfl⟩)|(go_at_call 198;refine(Cd _ _).mono ?_;rintro e w3⟨rfl,rfl⟩))
  refine(G9 b s _ v _ tT aT ((b9 _).drewN _) (cT _)).mono ?_;rintro e w4⟨f,rfl,hf,hF,hg2⟩;have hN:TAt w.heap.size (.int .i64 0) (.int .u8 0) (.int .i64 0) (w.alloc (.cells #[.int .i64 0,.int .u8 0,.int .i64 0] 258)):=AR _ _;have bR:=hN.kept (Jd hg2) (by simp);obtain⟨d0,d1,d2⟩:=bR.c;have z0:=bR.fz 0;have z1:=bR.fz 1;have z2:=bR.fz 2;go_wp2;have k3:=Ci w4 w.heap.size (.int .i64 0) (.int .u8 0) (.int .i64 0);obtain⟨q0,q1,q2⟩:=(bR.set3 (.int .i64 0) (.int .u8 0) (.int .i64 0)).c;have hg:=Ab (AA w (.cells #[.int .i64 0,.int .u8 0,.int .i64 0] 258) (some b)) (A3 (Jd hg2) (some b));have QP:w.heap.size+1<=f:=by simpa using hf
  refine BN (v:=.tuple #[.agg #[.int .i64 0,.int .u8 0,.int .i64 0],.iface 112 (.pointer (some ⟨f,0,none⟩))]) (by simp[results,Tryz.results210,go_sem,q0,q1,q2]) rfl ⟨_,rfl,f,rfl,by omega,hF.kept k3 (by simp;omega),A8 hg k3 (AW _)⟩
theorem L6{k:IntKind}{a b:Int}(h:a=b):Value.int k a=Value.int k b:=by rw[h]
theorem Jw(a n d:Nat)(h:(a+1)*10 ^ (n+1)<=1000000000)(hd:d<=9):(a*10+d+1)*10 ^ n<=1000000000:=by
 have h3:(a*10+d+1)*10 ^ n<=((a+1)*10)*10 ^ n:=BW _ (by omega);rw[FW,FX (10 ^ n) 10,<-FD] at h;omega
theorem Hi(a n:Nat)(h:(a+1)*10 ^ n<=1000000000):a<1000000000:=by
 have:0<10 ^ n:=KA (by omega);have:(a+1)*1<=(a+1)*10 ^ n:=GX _ this;omega
theorem Qr(b:Nat)(s:ByteArray)(i:Nat)(v:Value)(w:World)(hi:i<=s.size)(hs:s.size<=400)(hm:(Ai s.data.toList i==45)=false)(rv rk:Nat)(h:A5 9 s.data.toList 0 i=(rv,rk))(nC:rk≠i)(hb:PAt b s i v w) :
  Calls Tryz.prog 210 #[.pointer (some ⟨b,0,none⟩)] w fun e w'=>e=.returned (.tuple #[.agg #[.int .i64 2,.int .u8 0,.int .i64 rv],.nilIface])/\PAt b s rk v w'/\w.grownBy w' (some b):=by
 have em:=(Jc (Ai s.data.toList i)).trans hm;have HR:Hid (A5 9 s.data.toList 0 i=(rv,rk)):=h;clear h hm;have b9:=fun o=>hb.kept (AA w o none) (by simp)
 have c1:=fun o=>(b9 o).c1
 go_enter Tryz.func210,Tryz.ntmps210
 go_wp2_with (go_at_call 124;refine(Ce b s i v _ hi hs (b9 _)).mono ?_;rintro e w1⟨rfl,n,rfl⟩)
 go_loopw [6] (fun x w'=>∃k n acc:Nat,k+n=i+9/\k<=s.size/\i<=k/\(acc+1)*10 ^ n<=1000000000/\x=.int .i64 acc/\PAt b s k v w'/\TAt w.heap.size (.int .i64 0) (.int .u8 0) (.int .i64 0) w'/\w.grownBy w' (some b)/\A5 n s.data.toList acc k=(rv,rk)) (fun _ w'=>s.size-El b w')
 case atStart=>exact⟨i,9,0,rfl,hi,AW _,by decide,rfl,b9 _,AR _ _,Ab (AA w _ (some b)) (Ad _ _ _),HR.out⟩
 case round=>
  obtain⟨k,m,acc,iA,hk,hik,aY,rfl,aD,hN,hg,bQ⟩:=hrel;have HN:Hid (A5 m s.data.toList acc k=(rv,rk)):=bQ;have HK:Hid (k+m=i+9):=iA;have HC:Hid ((acc+1)*10 ^ m<=1000000000):=aY;have HA:Hid (El b wr=k):=aD.at;have r9:=Hi acc m aY;clear bQ iA c1 aY;have c1:=aD.c1;have f1:=aD.fz 1;have hne:w.heap.size≠b:=by have:=hb.lt;omega
  obtain⟨d0,d1,d2⟩:=hN.c;have z0:=hN.fz 0;have z1:=hN.fz 1;have z2:=hN.fz 2;have r8:(0:Int)<=(acc:Int):=by omega
  have cy:(acc:Int)<1000000000:=by omega
  cases hl:As (Ai s.data.toList k)
  ·obtain⟨rfl,rfl⟩:acc=rv/\k=rk:=by
    have:=HN.out;cases m with
    | zero=>simpa[A5] using this
    | succ m=>rw[Cf,hl] at this;simpa using this
   have e1:((k:Int)==(i:Int))=false:=by simp;omega
   go_wp2_with (first|(go_at_call 124;refine(Ce b s k v _ hk hs aD).mono ?_;rintro e w1⟨rfl,n2,rfl⟩)|(go_at_call 198;refine(Cd _ _).mono ?_;rintro e w3⟨rfl,rfl⟩))
   have k3:=Ci (wr.drewN n2) w.heap.size (.int .i64 2) (.int .u8 0) (.int .i64 acc);obtain⟨q0,q1,q2⟩:=((hN.drewN n2).set3 (.int .i64 2) (.int .u8 0) (.int .i64 acc)).c;refine BN (v:=.tuple #[.agg #[.int .i64 2,.int .u8 0,.int .i64 acc],.nilIface]) (by simp[results,Tryz.results210,go_sem,q0,q1,q2]) rfl ⟨rfl,(aD.drewN n2).kept k3 (by simp;omega),A8 (Ab hg (Ad _ _ _)) k3 (AW _)⟩
  ·have dX:=Dd _ _ hl
   rw[Ae] at dX;cases m with
   | zero=>
    obtain⟨rfl,rfl⟩:acc=rv/\k=rk:=by have:=HN.out;simpa[A5] using this
    have zy:k=i+9:=HK.out;have e1:((k:Int)==(i:Int))=false:=by simp;omega
    have e2:decide ((k:Int)<(i:Int)+9)=false:=by simp;omega
    clear zy
    go_wp2_with (first|(go_at_call 124;refine(Ce b s k v _ hk hs aD).mono ?_;rintro e w1⟨rfl,n2,rfl⟩)|(go_at_call 198;refine(Cd _ _).mono ?_;rintro e w3⟨rfl,rfl⟩))
    have k3:=Ci (wr.drewN n2) w.heap.size (.int .i64 2) (.int .u8 0) (.int .i64 acc);obtain⟨q0,q1,q2⟩:=((hN.drewN n2).set3 (.int .i64 2) (.int .u8 0) (.int .i64 acc)).c;refine BN (v:=.tuple #[.agg #[.int .i64 2,.int .u8 0,.int .i64 acc],.nilIface]) (by simp[results,Tryz.results210,go_sem,q0,q1,q2]) rfl ⟨rfl,(aD.drewN n2).kept k3 (by simp;omega),A8 (Ab hg (Ad _ _ _)) k3 (AW _)⟩
   | succ m=>
    have zy:k<i+9:=by have:=HK.out;omega
    have e2:decide ((k:Int)<(i:Int)+9)=true:=by simp;omega
    obtain⟨hr1,hr2⟩:=Ml _ hl
    go_wp2_with (first|(go_at_call 124;refine(Ce b s k v _ hk hs (by first|exact aD|exact aD.drewN _)).mono ?_;rintro e w1⟨rfl,n2,rfl⟩)|(go_at_call 198;refine(Cd _ _).mono ?_;rintro e w3⟨rfl,rfl⟩))
    go_roundw
    case rel=>exact⟨k+1,m,acc*10+((Ai s.data.toList k).toNat-48),by have:=HK.out;omega,by omega,by omega,Jw _ _ _ HC.out (by have:=Cp _ hl;omega),L6 (by omega),(aD.drewN _).set1 (k+1),(hN.drewN _).kept (Aj _ b 1 _) (by simp;omega),Ab hg (Ab (Ad wr _ _) (Aj _ b 1 _)),by have:=HN.out;rw[Cf,hl] at this;exact this⟩
    case measure=>
     have h2:El b ((wr.setCell ⟨b,1,none⟩ (.int .i64 ((k+1:Nat):Int))))=k+1:=(PAt.set1 aD (k+1)).at;show s.size-El b ((wr.setCell ⟨b,1,none⟩ (.int .i64 ((k+1:Nat):Int))))<s.size-El b wr
     rw[h2,HA.out];omega
theorem P7(b:Nat)(s:ByteArray)(i:Nat)(v:Value)(w:World)(hi:i<=s.size)(hs:s.size<=400)(hm:(Ai s.data.toList i==45)=true)(rv rk:Nat)(h:A5 9 s.data.toList 0 (i+1)=(rv,rk))(nC:rk≠i+1)(hb:PAt b s i v w) :
  Calls Tryz.prog 210 #[.pointer (some ⟨b,0,none⟩)] w fun e w'=>e=.returned (.tuple #[.agg #[.int .i64 2,.int .u8 0,.int .i64 (-(rv:Int))],.nilIface])/\PAt b s rk v w'/\w.grownBy w' (some b):=by
 have mM:=Ap _ _ 45 (by decide) hm;rw[Ae] at mM;have em:=(Jc (Ai s.data.toList i)).trans hm;have HR:Hid (A5 9 s.data.toList 0 (i+1)=(rv,rk)):=h;clear h hm;have b9:=fun o=>hb.kept (AA w o none) (by simp)
 have c1:=fun o=>(b9 o).c1
 have f1:=fun o=>(b9 o).fz 1
 go_enter Tryz.func210,Tryz.ntmps210
 go_wp2_with (go_at_call 124;refine(Ce b s i v _ hi hs (b9 _)).mono ?_;rintro e w1⟨rfl,n,rfl⟩)
 go_loopw [6] (fun x w'=>∃k n acc:Nat,k+n=i+1+9/\k<=s.size/\i+1<=k/\(acc+1)*10 ^ n<=1000000000/\x=.int .i64 acc/\PAt b s k v w'/\TAt w.heap.size (.int .i64 0) (.int .u8 0) (.int .i64 0) w'/\w.grownBy w' (some b)/\A5 n s.data.toList acc k=(rv,rk)) (fun _ w'=>s.size-El b w')
 case atStart=>
  have dN:TAt w.heap.size (.int .i64 0) (.int .u8 0) (.int .i64 0) (w.alloc (.cells #[.int .i64 0,.int .u8 0,.int .i64 0] 258)):=AR _ _;exact⟨i+1,9,0,rfl,by omega,AW _,by decide,rfl,((b9 _).drewN n).set1 (i+1),(dN.drewN n).kept (Aj _ b 1 _) (by simp;have:=hb.lt;omega),Ab (Ab (AA w _ (some b)) (Ad _ n _)) (Aj _ b 1 _),HR.out⟩
 case round=>
  obtain⟨k,m,acc,iA,hk,hik,aY,rfl,aD,hN,hg,bQ⟩:=hrel;have HN:Hid (A5 m s.data.toList acc k=(rv,rk)):=bQ;have HK:Hid (k+m=i+1+9):=iA;have HC:Hid ((acc+1)*10 ^ m<=1000000000):=aY;have HA:Hid (El b wr=k):=aD.at;have r9:=Hi acc m aY;clear bQ iA c1 f1 aY;have c1:=aD.c1;have f1:=aD.fz 1;have hne:w.heap.size≠b:=by have:=hb.lt;omega
  obtain⟨d0,d1,d2⟩:=hN.c;have z0:=hN.fz 0;have z1:=hN.fz 1;have z2:=hN.fz 2;have r8:(0:Int)<=(acc:Int):=by omega
  have cy:(acc:Int)<1000000000:=by omega
  cases hl:As (Ai s.data.toList k)
  ·obtain⟨rfl,rfl⟩:acc=rv/\k=rk:=by
    have:=HN.out;cases m with
    | zero=>simpa[A5] using this
    | succ m=>rw[Cf,hl] at this;simpa using this
   have e1:((k:Int)==(i:Int)+1)=false:=by simp;omega
   go_wp2_with (first|(go_at_call 124;refine(Ce b s k v _ hk hs aD).mono ?_;rintro e w1⟨rfl,n2,rfl⟩)|(go_at_call 198;refine(Cd _ _).mono ?_;rintro e w3⟨rfl,rfl⟩))
   have k3:=Ci (wr.drewN n2) w.heap.size (.int .i64 2) (.int .u8 0) (.int .i64 (-(acc:Int)));obtain⟨q0,q1,q2⟩:=((hN.drewN n2).set3 (.int .i64 2) (.int .u8 0) (.int .i64 (-(acc:Int)))).c;refine BN (v:=.tuple #[.agg #[.int .i64 2,.int .u8 0,.int .i64 (-(acc:Int))],.nilIface]) (by simp[results,Tryz.results210,go_sem,q0,q1,q2]) rfl ⟨rfl,(aD.drewN n2).kept k3 (by simp;omega),A8 (Ab hg (Ad _ _ _)) k3 (AW _)⟩
  ·have dX:=Dd _ _ hl
   rw[Ae] at dX;cases m with
   | zero=>
    obtain⟨rfl,rfl⟩:acc=rv/\k=rk:=by have:=HN.out;simpa[A5] using this
    have zy:k=i+1+9:=HK.out;have e1:((k:Int)==(i:Int)+1)=false:=by simp;omega
    have e2:decide ((k:Int)<(i:Int)+1+9)=false:=by simp;omega
    clear zy
    go_wp2_with (first|(go_at_call 124;refine(Ce b s k v _ hk hs aD).mono ?_;rintro e w1⟨rfl,n2,rfl⟩)|(go_at_call 198;refine(Cd _ _).mono ?_;rintro e w3⟨rfl,rfl⟩))
    have k3:=Ci (wr.drewN n2) w.heap.size (.int .i64 2) (.int .u8 0) (.int .i64 (-(acc:Int)));obtain⟨q0,q1,q2⟩:=((hN.drewN n2).set3 (.int .i64 2) (.int .u8 0) (.int .i64 (-(acc:Int)))).c;refine BN (v:=.tuple #[.agg #[.int .i64 2,.int .u8 0,.int .i64 (-(acc:Int))],.nilIface]) (by simp[results,Tryz.results210,go_sem,q0,q1,q2]) rfl ⟨rfl,(aD.drewN n2).kept k3 (by simp;omega),A8 (Ab hg (Ad _ _ _)) k3 (AW _)⟩
   | succ m=>
    have zy:k<i+1+9:=by have:=HK.out;omega
    have e2:decide ((k:Int)<(i:Int)+1+9)=true:=by simp;omega
    obtain⟨hr1,hr2⟩:=Ml _ hl
    go_wp2_with (first|(go_at_call 124;refine(Ce b s k v _ hk hs (by first|exact aD|exact aD.drewN _)).mono ?_;rintro e w1⟨rfl,n2,rfl⟩)|(go_at_call 198;refine(Cd _ _).mono ?_;rintro e w3⟨rfl,rfl⟩))
    go_roundw
    case rel=>exact⟨k+1,m,acc*10+((Ai s.data.toList k).toNat-48),by have:=HK.out;omega,by omega,by omega,Jw _ _ _ HC.out (by have:=Cp _ hl;omega),L6 (by omega),(aD.drewN _).set1 (k+1),(hN.drewN _).kept (Aj _ b 1 _) (by simp;omega),Ab hg (Ab (Ad wr _ _) (Aj _ b 1 _)),by have:=HN.out;rw[Cf,hl] at this;exact this⟩
    case measure=>
     have h2:El b ((wr.setCell ⟨b,1,none⟩ (.int .i64 ((k+1:Nat):Int))))=k+1:=(PAt.set1 aD (k+1)).at;show s.size-El b ((wr.setCell ⟨b,1,none⟩ (.int .i64 ((k+1:Nat):Int))))<s.size-El b wr
     rw[h2,HA.out];omega
theorem S4(b:Nat)(s:ByteArray)(i:Nat)(v:Value)(w:World)(tT:TypeId)(aT:Addr)(eL:Value)(hi:i<=s.size)(hs:s.size<=400)(hm:(Ai s.data.toList i==45)=true)(h:(A5 9 s.data.toList 0 (i+1)).2=i+1)(hb:PAt b s i v w)(hG:GOk b (.iface tT (.pointer (some aT))) eL w) :
  Calls Tryz.prog 210 #[.pointer (some ⟨b,0,none⟩)] w fun e w'=>∃y,e=.returned (.tuple #[.agg #[.int .i64 0,.int .u8 0,.int .i64 0],y])/\Bad b (i+1) (.iface tT (.pointer (some aT))) w y w':=by
 have hl:=Fq _ _ h;have mM:=Ap _ _ 45 (by decide) hm;rw[Ae] at mM;have em:=(Jc (Ai s.data.toList i)).trans hm;clear h hm;have b9:=fun o=>hb.kept (AA w o none) (by simp)
 have c1:=fun o=>(b9 o).c1
 have f1:=fun o=>(b9 o).fz 1
 have e1:((i:Int)+1==(i:Int)+1)=true:=by simp
 go_enter Tryz.func210,Tryz.ntmps210
 go_wp2_with (go_at_call 124;refine(Ce b s i v _ hi hs (b9 _)).mono ?_;rintro e w1⟨rfl,n,rfl⟩)
 go_loopw [6] (fun x w'=>x=.int .i64 0/\PAt b s (i+1) v w'/\TAt w.heap.size (.int .i64 0) (.int .u8 0) (.int .i64 0) w'/\w.grownBy w' (some b)) (fun _ _=>0)
 case atStart=>
  have dN:TAt w.heap.size (.int .i64 0) (.int .u8 0) (.int .i64 0) (w.alloc (.cells #[.int .i64 0,.int .u8 0,.int .i64 0] 258)):=AR _ _;exact⟨rfl,((b9 _).drewN n).set1 (i+1),(dN.drewN n).kept (Aj _ b 1 _) (by simp;have:=hb.lt;omega),Ab (Ab (AA w _ (some b)) (Ad _ n _)) (Aj _ b 1 _)⟩
 case round=>
  obtain⟨rfl,aD,hN,hg⟩:=hrel;clear c1 f1;have c1:=aD.c1;have cT:=(hG.kept hg).cT
  go_wp2_with (first|(go_at_call 124;refine(Ce b s (i+1) v _ mM hs (by first|exact aD|exact aD.drewN _)).mono ?_;rintro e w1⟨rfl,n2,rfl⟩)|(go_at_call 198;refine(Cd _ _).mono ?_;rintro e w3⟨rfl,rfl⟩))
  refine(G9 b s _ v _ tT aT (aD.drewN _) cT).mono ?_;rintro e w4⟨f,rfl,hf,hF,hg2⟩;have bR:=hN.kept (Jd hg2) (by simp);obtain⟨d0,d1,d2⟩:=bR.c;have z0:=bR.fz 0;have z1:=bR.fz 1;have z2:=bR.fz 2;go_wp2;have k3:=Ci w4 w.heap.size (.int .i64 0) (.int .u8 0) (.int .i64 0);obtain⟨q0,q1,q2⟩:=(bR.set3 (.int .i64 0) (.int .u8 0) (.int .i64 0)).c;have bJ:=Ab hg (A3 (Jd hg2) (some b));have QP:w.heap.size<f:=AZ hN.lt hf;refine BN (v:=.tuple #[.agg #[.int .i64 0,.int .u8 0,.int .i64 0],.iface 112 (.pointer (some ⟨f,0,none⟩))]) (by simp[results,Tryz.results210,go_sem,q0,q1,q2]) rfl ⟨_,rfl,f,rfl,by omega,hF.kept k3 (by simp;omega),A8 bJ k3 (AW _)⟩
def Ff(t:Sv.Term):List Value:=[.int .i64 t.sort,.int .u8 t.letter.toNat,.int .i64 t.value]
def Hj(b:Nat)(s:ByteArray)(v:Value)(eT:Value)(w:World)(r:Nat ⊕ (Sv.Term×Nat))(e:Ending)(w':World):Prop:=
 match r with
 | .inl k=>∃y,e=.returned (.tuple #[.agg #[.int .i64 0,.int .u8 0,.int .i64 0],y])/\Bad b k eT w y w'
 | .inr (t,j)=>e=.returned (.tuple #[.agg (Ff t).toArray,.nilIface])/\PAt b s j v w'/\w.grownBy w' (some b)
theorem Sh(b:Nat)(s:ByteArray)(i:Nat)(v:Value)(w:World)(tT:TypeId)(aT:Addr)(eL:Value)(hi:i<=s.size)(hs:s.size<=400)(hb:PAt b s i v w)(hG:GOk b (.iface tT (.pointer (some aT))) eL w) :
  Calls Tryz.prog 210 #[.pointer (some ⟨b,0,none⟩)] w fun e w'=>Hj b s v (.iface tT (.pointer (some aT))) w (Bj s.data.toList i) e w':=by
 unfold Bj;cases hm:Ai s.data.toList i==45
 ·simp only[BZ,if_false]
  by_cases h:(A5 9 s.data.toList 0 i).2=i
  ·rw[AQ h]
   exact S1 b s i v w tT aT eL hi hs hm h hb hG
  ·rw[AO h]
   exact Qr b s i v w hi hs hm _ _ rfl h hb
 ·simp only[if_true]
  by_cases h:(A5 9 s.data.toList 0 (i+1)).2=i+1
  ·rw[AQ h]
   exact S4 b s i v w tT aT eL hi hs hm h hb hG
  ·rw[AO h]
   exact P7 b s i v w hi hs hm _ _ rfl h hb
theorem S8(c:UInt8):((c.toNat:Int)==95)=(c==95):=Hn c 95
theorem Q4g{p q r:Value}(hT:TAt N p q r W)(hP:PAt b s j v W)(hg:w.grownBy W (some b))(hN:w.heap.size<=N)(hne:N≠b)(x y z:Value) :
  TAt N x y z (((W.setCell ⟨N,0,none⟩ x).setCell ⟨N,1,none⟩ y).setCell ⟨N,2,none⟩ z)/\PAt b s j v (((W.setCell ⟨N,0,none⟩ x).setCell ⟨N,1,none⟩ y).setCell ⟨N,2,none⟩ z)/\w.grownBy (((W.setCell ⟨N,0,none⟩ x).setCell ⟨N,1,none⟩ y).setCell ⟨N,2,none⟩ z) (some b):=
 ⟨hT.set3 x y z,hP.kept (Ci W N x y z) (by simpa using fun e=>hne e.symm),A8 hg (Ci W N x y z) hN⟩
theorem Yp(b:Nat)(s:ByteArray)(i:Nat)(v:Value)(w:World)(hi:i<=s.size)(hs:s.size<=400)(h:(Ai s.data.toList i==95)=true)(hb:PAt b s i v w) :
  Calls Tryz.prog 199 #[.pointer (some ⟨b,0,none⟩)] w fun e w'=>e=.returned (.tuple #[.agg #[.int .i64 0,.int .u8 0,.int .i64 0],.nilIface])/\PAt b s (i+1) v w'/\w.grownBy w' (some b):=by
 have mM:=Ap _ _ 95 (by decide) h;rw[Ae] at mM;have e1:=(S8 (Ai s.data.toList i)).trans h;clear h;have hlt:=hb.lt;have b9:=fun o=>hb.kept (AA w o none) (by simp)
 have c1:=fun o=>(b9 o).c1
 have f1:=fun o=>(b9 o).fz 1
 have dN:TAt w.heap.size (.int .i64 0) (.int .u8 0) (.int .i64 0) (w.alloc (.cells #[.int .i64 0,.int .u8 0,.int .i64 0] 258)):=AR _ _;go_enter Tryz.func199,Tryz.ntmps199
 go_wp2_with (go_at_call 124;refine(Ce b s i v _ hi hs (b9 _)).mono ?_;rintro e w1⟨rfl,n,rfl⟩)
 obtain⟨hT,hP,hg⟩:=Q4g ((dN.drewN n).kept (Aj _ b 1 (.int .i64 ((i:Int)+1))) (by simp;omega)) (((b9 _).drewN n).set1 (i+1)) (Ab (Ab (AA w _ (some b)) (Ad _ n _)) (Aj _ b 1 _)) (AW _) (by omega) (.int .i64 0) (.int .u8 0) (.int .i64 0);obtain⟨q0,q1,q2⟩:=hT.c;exact BN (v:=.tuple #[.agg #[.int .i64 0,.int .u8 0,.int .i64 0],.nilIface]) (by simp[results,Tryz.results199,go_sem,q0,q1,q2]) rfl ⟨rfl,hP,hg⟩
theorem Y9(b:Nat)(s:ByteArray)(i:Nat)(v:Value)(w:World)(hi:i<=s.size)(hs:s.size<=400)(h0:(Ai s.data.toList i==95)=false)(h:B9 (Ai s.data.toList i)=true)(hb:PAt b s i v w) :
  Calls Tryz.prog 199 #[.pointer (some ⟨b,0,none⟩)] w fun e w'=>e=.returned (.tuple #[.agg #[.int .i64 1,.int .u8 (Ai s.data.toList i).toNat,.int .i64 0],.nilIface])/\PAt b s (i+1) v w'/\w.grownBy w' (some b):=by
 have mM:=D2 _ _ h;rw[Ae] at mM;have e1:=(S8 (Ai s.data.toList i)).trans h0;clear h0;have hlt:=hb.lt;have b9:=fun o=>hb.kept (AA w o none) (by simp)
 have c1:=fun o=>(b9 o).c1
 have f1:=fun o=>(b9 o).fz 1
 have dN:TAt w.heap.size (.int .i64 0) (.int .u8 0) (.int .i64 0) (w.alloc (.cells #[.int .i64 0,.int .u8 0,.int .i64 0] 258)):=AR _ _;go_enter Tryz.func199,Tryz.ntmps199
 go_wp2_with (first|(go_at_call 124;refine(Ce b s i v _ hi hs (b9 _)).mono ?_;rintro e w1⟨rfl,n,rfl⟩)|(go_at_call 153;refine(C7 _ _).mono ?_;rintro e w3⟨rfl,rfl⟩))
 obtain⟨hT,hP,hg⟩:=Q4g ((dN.drewN n).kept (Aj _ b 1 (.int .i64 ((i:Int)+1))) (by simp;omega)) (((b9 _).drewN n).set1 (i+1)) (Ab (Ab (AA w _ (some b)) (Ad _ n _)) (Aj _ b 1 _)) (AW _) (by omega) (.int .i64 1) (.int .u8 (Ai s.data.toList i).toNat) (.int .i64 0);obtain⟨q0,q1,q2⟩:=hT.c;exact BN (v:=.tuple #[.agg #[.int .i64 1,.int .u8 (Ai s.data.toList i).toNat,.int .i64 0],.nilIface]) (by simp[results,Tryz.results199,go_sem,q0,q1,q2]) rfl ⟨rfl,hP,hg⟩
theorem We(b:Nat)(s:ByteArray)(i:Nat)(v:Value)(w:World)(tT:TypeId)(aT:Addr)(eL:Value)(hi:i<=s.size)(hs:s.size<=400)(h0:(Ai s.data.toList i==95)=false)(h1:B9 (Ai s.data.toList i)=false)(h2:(Ai s.data.toList i==45)=false)(h3:(As (Ai s.data.toList i) && !Bg s.data.toList i)=false)(hb:PAt b s i v w)(hG:GOk b (.iface tT (.pointer (some aT))) eL w) :
  Calls Tryz.prog 199 #[.pointer (some ⟨b,0,none⟩)] w fun e w'=>∃y,e=.returned (.tuple #[.agg #[.int .i64 0,.int .u8 0,.int .i64 0],y])/\Bad b i (.iface tT (.pointer (some aT))) w y w':=by
 have e1:=(S8 (Ai s.data.toList i)).trans h0;have e2:=(Jc (Ai s.data.toList i)).trans h2;clear h0 h2;have hlt:=hb.lt;have b9:=fun o=>hb.kept (AA w o none) (by simp)
 have cT:=fun o=>(hG.kept (AA w o (some b))).cT
 have dN:TAt w.heap.size (.int .i64 0) (.int .u8 0) (.int .i64 0) (w.alloc (.cells #[.int .i64 0,.int .u8 0,.int .i64 0] 258)):=AR _ _;cases hd:As (Ai s.data.toList i)
 ·clear h3
  go_enter Tryz.func199,Tryz.ntmps199
  go_wp2_with (first|(go_at_call 124;refine(Ce b s i v _ hi hs (b9 _)).mono ?_;rintro e w1⟨rfl,n,rfl⟩)|(go_at_call 153;refine(C7 _ _).mono ?_;rintro e w3⟨rfl,rfl⟩)|(go_at_call 198;refine(Cd _ _).mono ?_;rintro e w3⟨rfl,rfl⟩))
  refine(G9 b s _ v _ tT aT ((b9 _).drewN _) (cT _)).mono ?_;rintro e w4⟨f,rfl,hf,hF,hg2⟩;have bR:=dN.kept (Jd hg2) (by simp);obtain⟨d0,d1,d2⟩:=bR.c;have z0:=bR.fz 0;have z1:=bR.fz 1;have z2:=bR.fz 2;go_wp2;have k3:=Ci w4 w.heap.size (.int .i64 0) (.int .u8 0) (.int .i64 0);obtain⟨q0,q1,q2⟩:=(bR.set3 (.int .i64 0) (.int .u8 0) (.int .i64 0)).c;have hg:=Ab (AA w (.cells #[.int .i64 0,.int .u8 0,.int .i64 0] 258) (some b)) (A3 (Jd hg2) (some b));have QP:w.heap.size+1<=f:=by simpa using hf
  exact BN (v:=.tuple #[.agg #[.int .i64 0,.int .u8 0,.int .i64 0],.iface 112 (.pointer (some ⟨f,0,none⟩))]) (by simp[results,Tryz.results199,go_sem,q0,q1,q2]) rfl ⟨_,rfl,f,rfl,by omega,hF.kept k3 (by simp;omega),A8 hg k3 (AW _)⟩
 ·have aV:Bg s.data.toList i=true:=by simpa[hd] using h3
  clear h3;go_enter Tryz.func199,Tryz.ntmps199
  go_wp2_with (first|(go_at_call 124;refine(Ce b s i v _ hi hs (b9 _)).mono ?_;rintro e w1⟨rfl,n,rfl⟩)|(go_at_call 153;refine(C7 _ _).mono ?_;rintro e w3⟨rfl,rfl⟩)|(go_at_call 198;refine(Cd _ _).mono ?_;rintro e w3⟨rfl,rfl⟩)|(go_at_call 209;refine(Q4 b s i v _ hi hs ((b9 _).drewN _)).mono ?_;rintro e w3⟨rfl,n3,rfl⟩))
  refine(G9 b s _ v _ tT aT ((b9 _).drewN _) (cT _)).mono ?_;rintro e w4⟨f,rfl,hf,hF,hg2⟩;have bR:=dN.kept (Jd hg2) (by simp);obtain⟨d0,d1,d2⟩:=bR.c;have z0:=bR.fz 0;have z1:=bR.fz 1;have z2:=bR.fz 2;go_wp2;have k3:=Ci w4 w.heap.size (.int .i64 0) (.int .u8 0) (.int .i64 0);obtain⟨q0,q1,q2⟩:=(bR.set3 (.int .i64 0) (.int .u8 0) (.int .i64 0)).c;have hg:=Ab (AA w (.cells #[.int .i64 0,.int .u8 0,.int .i64 0] 258) (some b)) (A3 (Jd hg2) (some b));have QP:w.heap.size+1<=f:=by simpa using hf
  exact BN (v:=.tuple #[.agg #[.int .i64 0,.int .u8 0,.int .i64 0],.iface 112 (.pointer (some ⟨f,0,none⟩))]) (by simp[results,Tryz.results199,go_sem,q0,q1,q2]) rfl ⟨_,rfl,f,rfl,by omega,hF.kept k3 (by simp;omega),A8 hg k3 (AW _)⟩
theorem Q0g(b:Nat)(s:ByteArray)(i:Nat)(v:Value)(w:World)(tT:TypeId)(aT:Addr)(eL:Value)(hi:i<=s.size)(hs:s.size<=400)(h0:(Ai s.data.toList i==95)=false)(h1:B9 (Ai s.data.toList i)=false)(h2:(Ai s.data.toList i==45||(As (Ai s.data.toList i) && !Bg s.data.toList i))=true)(hb:PAt b s i v w)(hG:GOk b (.iface tT (.pointer (some aT))) eL w) :
  Calls Tryz.prog 199 #[.pointer (some ⟨b,0,none⟩)] w fun e w'=>Hj b s v (.iface tT (.pointer (some aT))) w (Bj s.data.toList i) e w':=by
 have e1:=(S8 (Ai s.data.toList i)).trans h0;clear h0;have hlt:=hb.lt;have b9:=fun o=>hb.kept (AA w o none) (by simp)
 have mQ:=fun o=>(hG.kept (AA w o (some b)))
 have dN:TAt w.heap.size (.int .i64 0) (.int .u8 0) (.int .i64 0) (w.alloc (.cells #[.int .i64 0,.int .u8 0,.int .i64 0] 258)):=AR _ _;generalize hr:Bj s.data.toList i=r;have HR:Hid (Bj s.data.toList i=r):=hr;clear hr
 have fin:∀(e:Ending) (w4:World) (n:Nat),Hj b s v (.iface tT (.pointer (some aT))) ((w.alloc (.cells #[.int .i64 0,.int .u8 0,.int .i64 0] 258)).drewN n) (Bj s.data.toList i) e w4->
   ∃(x y z:Int) (yy:Value),e=.returned (.tuple #[.agg #[.int .i64 x,.int .u8 y,.int .i64 z],yy])/\TAt w.heap.size (.int .i64 0) (.int .u8 0) (.int .i64 0) w4/\Hj b s v (.iface tT (.pointer (some aT))) w r (.returned (.tuple #[.agg #[.int .i64 x,.int .u8 y,.int .i64 z],yy])) (((w4.setCell ⟨w.heap.size,0,none⟩ (.int .i64 x)).setCell ⟨w.heap.size,1,none⟩ (.int .u8 y)).setCell ⟨w.heap.size,2,none⟩ (.int .i64 z)):=by
  intro e w4 n hp;rw[HR.out] at hp;cases r with
  | inl k=>
   obtain⟨y,rfl,f,rfl,hf,hF,hg⟩:=hp;have bJ:=Ab (AA w (.cells #[.int .i64 0,.int .u8 0,.int .i64 0] 258) (some b)) (Jd hg);have QP:w.heap.size+1<=f:=by simpa using hf
   have k3:=Ci w4 w.heap.size (.int .i64 0) (.int .u8 0) (.int .i64 0);exact⟨_,_,_,_,rfl,(dN.drewN n).kept hg (by simp;omega),_,rfl,f,rfl,by omega,hF.kept k3 (by simp;omega),A8 bJ k3 (AW _)⟩
  | inr q=>
   obtain⟨t,j⟩:=q;obtain⟨rfl,hP,hg⟩:=hp;have bJ:=Ab (AA w (.cells #[.int .i64 0,.int .u8 0,.int .i64 0] 258) (some b)) (Jd hg);have bR:=(dN.drewN n).kept hg (by simp;omega);obtain⟨_,tD,UQ⟩:=Q4g bR hP bJ (AW _) (by omega) (.int .i64 t.sort) (.int .u8 t.letter.toNat) (.int .i64 t.value);exact⟨_,_,_,_,rfl,bR,rfl,tD,UQ⟩
 cases pG:Ai s.data.toList i==45
 ·have e2:=(Jc (Ai s.data.toList i)).trans pG
  rw[pG] at h2;simp only[EN,EC,EW] at h2;obtain⟨hd,aV⟩:=h2;clear pG;go_enter Tryz.func199,Tryz.ntmps199
  go_wp2_with (first|(go_at_call 124;refine(Ce b s i v _ hi hs (b9 _)).mono ?_;rintro e w1⟨rfl,n,rfl⟩)|(go_at_call 153;refine(C7 _ _).mono ?_;rintro e w3⟨rfl,rfl⟩)|(go_at_call 198;refine(Cd _ _).mono ?_;rintro e w3⟨rfl,rfl⟩)|(go_at_call 209;refine(Q4 b s i v _ hi hs ((b9 _).drewN _)).mono ?_;rintro e w3⟨rfl,n3,rfl⟩))
  refine(Sh b s i v _ tT aT eL hi hs ((b9 _).drewN _) ((mQ _).drewN _)).mono ?_;intro e w4 hp;obtain⟨x,y,z,yy,rfl,bR,aN⟩:=fin _ _ _ hp;clear hp fin;obtain⟨d0,d1,d2⟩:=bR.c;have z0:=bR.fz 0;have z1:=bR.fz 1;have z2:=bR.fz 2;go_wp2;obtain⟨q0,q1,q2⟩:=(bR.set3 (.int .i64 x) (.int .u8 y) (.int .i64 z)).c;exact BN (v:=.tuple #[.agg #[.int .i64 x,.int .u8 y,.int .i64 z],yy]) (by simp[results,Tryz.results199,go_sem,q0,q1,q2]) rfl aN
 ·have e2:=(Jc (Ai s.data.toList i)).trans pG
  clear pG h2;go_enter Tryz.func199,Tryz.ntmps199
  go_wp2_with (first|(go_at_call 124;refine(Ce b s i v _ hi hs (b9 _)).mono ?_;rintro e w1⟨rfl,n,rfl⟩)|(go_at_call 153;refine(C7 _ _).mono ?_;rintro e w3⟨rfl,rfl⟩))
  refine(Sh b s i v _ tT aT eL hi hs ((b9 _).drewN _) ((mQ _).drewN _)).mono ?_;intro e w4 hp;obtain⟨x,y,z,yy,rfl,bR,aN⟩:=fin _ _ _ hp;clear hp fin;obtain⟨d0,d1,d2⟩:=bR.c;have z0:=bR.fz 0;have z1:=bR.fz 1;have z2:=bR.fz 2;go_wp2;obtain⟨q0,q1,q2⟩:=(bR.set3 (.int .i64 x) (.int .u8 y) (.int .i64 z)).c;exact BN (v:=.tuple #[.agg #[.int .i64 x,.int .u8 y,.int .i64 z],yy]) (by simp[results,Tryz.results199,go_sem,q0,q1,q2]) rfl aN
theorem Q3d(b:Nat)(s:ByteArray)(i:Nat)(v:Value)(w:World)(tT:TypeId)(aT:Addr)(eL:Value)(hi:i<=s.size)(hs:s.size<=400)(hb:PAt b s i v w)(hG:GOk b (.iface tT (.pointer (some aT))) eL w) :
  Calls Tryz.prog 199 #[.pointer (some ⟨b,0,none⟩)] w fun e w'=>Hj b s v (.iface tT (.pointer (some aT))) w (Ba s.data.toList i) e w':=by
 unfold Ba;cases h0:Ai s.data.toList i==95
 ·rw[AO (by simp)]
  cases h1:B9 (Ai s.data.toList i)
  ·rw[AO (by simp)]
   cases h2:Ai s.data.toList i==45||(As (Ai s.data.toList i) && !Bg s.data.toList i)
   ·rw[AO (by simp)]
    rw[DI] at h2;exact We b s i v w tT aT eL hi hs h0 h1 h2.1 h2.2 hb hG
   ·rw[AQ rfl]
    exact Q0g b s i v w tT aT eL hi hs h0 h1 h2 hb hG
  ·rw[AQ rfl]
   exact Y9 b s i v w hi hs h0 h1 hb
 ·rw[AQ rfl]
  exact Yp b s i v w hi hs h0 hb
def TsAt(base:Nat)(u:Value)(ts:List Sv.Term)(w:World):Prop:=w.ownsRow base 258 3 u ts.length (ts.flatMap Ff)
theorem TsAt.slice{base:Nat}{u:Value}{ts:List Sv.Term}{w:World}(h:TsAt base u ts w):∃ao cap,u=.slice ao ts.length cap:=by
 rcases h.2 with ⟨h1,h2⟩|⟨g,cap,cur,h1,_⟩
 ·exact⟨none,0,by rw[h2];exact h1⟩
 ·exact⟨_,_,h1⟩
theorem Nq{base:Nat}(h:w.ownsRow base e size v n xs)(hg:w.grownBy w' (some b)){cs:Array Value}{fz:Nat×Nat}(hb:w.heap[b]?=some (.cells cs T fz))(hne:T≠e):w'.ownsRow base e size v n xs:=by
 refine h.kept hg ?_;rcases h.2 with ⟨h1,_⟩|⟨g,cap,cur,h1,_,h2,_⟩
 ·exact .inl (by rw[h1];rfl)
 ·refine .inr ?_
  rw[h1];intro e1;have e2:g=b:=by simpa[Value.ownBlock] using e1
  subst e2;rw[h2] at hb;simp at hb;exact hne hb.2.1.symm
theorem TsAt.kept{base:Nat}{u:Value}(h:TsAt base u ts w)(hb:PAt b s i v w)(hg:w.grownBy w' (some b)):TsAt base u ts w':=
 Nq h hg hb (by decide)
def RowOk(base:Nat)(e:TypeId)(row:Option Nat)(w:World):Prop:=∀g,row=some g->base<=g/\∃cur fz,w.heap[g]?=some (.cells cur e fz)
theorem RowOk.of{base:Nat}(h:w.ownsRow base e size v n xs):RowOk base e v.ownBlock w:=by
 intro g hg;rcases h.2 with ⟨h1,_⟩|⟨g',cap,cur,h1,h2,h3,_⟩
 ·rw[h1] at hg;simp[Value.ownBlock] at hg
 ·rw[h1] at hg
  simp[Value.ownBlock] at hg;subst hg;exact⟨h2,cur,_,h3⟩
theorem Ez{a c:World}{r row:Option Nat}(h:w.grownBy a r)(k:a.grownBy c row)(hr:RowOk w.heap.size e row a):w.grownBy c r:=
 ⟨k.os.trans h.os,k.tape.trans h.tape,k.output.trans h.output,AU h.size k.size,fun i hi hne=>(k.block i (AZ hi h.size) (fun e=>by have:=(hr i e.symm).1;omega)).trans (h.block i hi hne)⟩
theorem PAt.row{row:Option Nat}{base:Nat}(h:PAt b s j v w)(hg:w.grownBy w' row)(hr:RowOk base e row w)(he:e≠117):PAt b s j v w':=by
 refine h.kept hg (fun e1=>?_);obtain⟨_,cur,fz,h2⟩:=hr b e1.symm;unfold PAt at h;rw[h] at h2;simp at h2;exact he h2.2.1.symm
theorem FAt.row{row:Option Nat}{base:Nat}(h:FAt f i x w)(hg:w.grownBy w' row)(hr:RowOk base e row w)(he:e≠114):FAt f i x w':=by
 refine h.kept hg (fun e1=>?_);obtain⟨_,cur,fz,h2⟩:=hr f e1.symm;unfold FAt at h;rw[h] at h2;simp at h2;exact he h2.2.1.symm
theorem St.row{b:Nat}{s:ByteArray}{j:Nat}{f:Bool}{eT eL:Value}{w w':World}{row:Option Nat}{base:Nat}{e:TypeId}(h:St b s j f eT eL w)(hg:w.grownBy w' row)(hr:RowOk base e row w)(he:e≠117)(qp:e≠114)(_hT:2<base)(_hL:0<base):St b s j f eT eL w':=by
 obtain⟨v,hp,hx,hG⟩:=h;refine⟨v,hp.row hg hr he,?_,hG.nT,hG.nL,hg.cell hG.cT (fun e=>?_),hg.cell hG.cL (fun e=>?_)⟩
 ·rcases hx with hx|⟨h1,k,i,h2,h3,h4⟩
  ·exact .inl hx
  ·exact .inr ⟨h1,k,i,h2,h3,h4.row hg hr qp⟩
 ·have:=(hr _ e.symm).1;simp at this;omega
 ·have:=(hr _ e.symm).1;simp at this;omega
theorem St.base{f:Bool}{eL:Value}(h:St b s j f eT eL w):2<w.heap.size/\0<w.heap.size/\b<w.heap.size:=by
 obtain⟨v,hp,hx,hG⟩:=h;exact⟨CE w _ hG.cT,CE w _ hG.cL,hp.lt⟩
theorem St.at{b:Nat}{s:ByteArray}{j:Nat}{f:Bool}{eT eL:Value}{w:World}(h:St b s j f eT eL w):El b w=j:=by
 obtain⟨v,hp,_⟩:=h;exact hp.at
theorem RowOk.none(base:Nat)(e:TypeId)(w:World):RowOk base e none w:=by intro g hg;cases hg
theorem Tryz.infoTerm:(Tryz.prog.info? 258).map (fun i=>(i.zero,i.size,i.bytes))=some (some (.agg #[.int .i64 0,.int .u8 0,.int .i64 0]),3,24):=by kernel_rfl
theorem Kq(f:Bool)(m n:Nat):(f||decide (m<n+1))=(f||decide (m<n)||decide (m<=n)):=by
 cases f
 ·rw[ER]
  simp only[EN,Bool.or_eq_true,DJ];omega
 ·simp
theorem Ey(n:Nat)(l:List UInt8)(acc:List Sv.Term)(i:Nat):Dw (n+1) l acc i=
  if (Ai l (Ag l i)==41)=true then .inr (acc,Ag l i+1)
  else match Ba l (Ag l i) with
   | .inl k=>.inl k
   | .inr (t,j)=>Dw n l (acc++[t]) j:=rfl
def Wj(b:Nat)(s:ByteArray)(f:Bool)(eT eL:Value)(w:World)(r:Nat ⊕ (List Sv.Term×Nat))(e:Ending)(w':World):Prop:=
 match r with
 | .inl k=>∃y,e=.returned (.tuple #[.slice none 0 0,y])/\Bad b k eT w y w'
 | .inr (ts,j)=>∃u,e=.returned (.tuple #[u,.nilIface])/\TsAt w.heap.size u ts w'/\St b s j (f||decide (4<ts.length)) eT eL w'/\w.grownBy w' (some b)
theorem Q2h(b:Nat)(s:ByteArray)(i:Nat)(f:Bool)(tT:TypeId)(aT:Addr)(tL:TypeId)(aL:Addr)(w:World)(hi:i<=s.size)(hs:s.size<=400)
 (hb:St b s i f (.iface tT (.pointer (some aT))) (.iface tL (.pointer (some aL))) w) :
  Calls Tryz.prog 181 #[.pointer (some ⟨b,0,none⟩)] w fun e w'=>Wj b s f (.iface tT (.pointer (some aT))) (.iface tL (.pointer (some aL))) w (Cl s.data.toList i) e w':=by
 obtain⟨i0,aq,hz0,hz1,hz2⟩:=info_parts Tryz.infoTerm;generalize hr:Cl s.data.toList i=r;have HR:Hid (Cl s.data.toList i=r):=hr;clear hr;go_enter Tryz.func181,Tryz.ntmps181;go_wp2;go_loopw [4] (fun u w'=>∃(k n:Nat) (acc:List Sv.Term),s.size<k+n/\k<=s.size/\acc.length<=k/\TsAt w.heap.size u acc w'/\St b s k (f||decide (4<acc.length)) (.iface tT (.pointer (some aT))) (.iface tL (.pointer (some aL))) w'/\w.grownBy w' (some b)/\Dw n s.data.toList acc k=r) (fun _ w'=>s.size-El b w')
 case atStart=>exact⟨i,s.data.toList.length+1,[],by simp;omega,hi,AG _,EJ _ _ _ _,by simpa using hb,AD _ _,HR.out⟩
 case round=>
  obtain⟨k,m,acc,iA,hk,aY,cC,hst,hg,bQ⟩:=hrel;obtain⟨m,rfl⟩:∃m',m=m'+1:=⟨m-1,by omega⟩
  rw[Ey] at bQ;obtain⟨vx,aD,hex,hG⟩:=hst;have HA:Hid (El b wr=k):=aD.at;have hle:=A7 s.data.toList k (by simpa using hk);rw[Ae] at hle;obtain⟨nH,aj⟩:=hle;obtain⟨ao,cap,rfl⟩:=cC.slice;cases rT:Ai s.data.toList (Ag s.data.toList k)==41
  ·rw[rT,AO (by simp)] at bQ
   have HN:Hid ((match Ba s.data.toList (Ag s.data.toList k) with
    | .inl k=>.inl k
    | .inr (t,j)=>Dw m s.data.toList (acc++[t]) j)=r):=bQ
   clear bQ;have aK:=L0 s.data.toList (Ag s.data.toList k) (by simpa using aj)
   go_wp2_with (go_at_call 156;refine(Nk b s k vx 41 _ rfl _ hk hs rT aD).mono ?_;rintro e w1⟨rfl,hb1,hg1⟩)
   refine(Vq b s _ _ tT aT tL aL w1 acc.length 4 _ _ rfl rfl (St.step hb1 hex hG hg1)).mono ?_;rintro e w2⟨rfl,⟨vy,hb2,wz,bf⟩,hg2⟩;have fh:=(cC.kept aD hg1).kept hb1 hg2;have bS:=Ab hg (Ab hg1 hg2);clear cC aD hex hG hb1 hg1 hg2 hg;go_wp2_with fail;refine(Q3d b s _ vy _ tT aT _ aj hs hb2 bf).mono ?_;intro e w3 hp;have ja:=HN.out;clear HN;cases hr:Ba s.data.toList (Ag s.data.toList k) with
   | inl q=>
    rw[hr] at hp ja;obtain⟨y,rfl,ff,rfl,hf,hF,hg3⟩:=hp;simp only at ja;subst ja;have hf':w.heap.size<=ff:=AU bS.size hf;have ax:=Ab bS hg3;clear fh wz bf hb2 aK hr;go_wp2
    go_ret2
    exact⟨_,rfl,ff,rfl,hf',hF.kept (AA w3 _ none) (by simp),Ab ax (AA w3 _ _)⟩
   | inr q=>
    obtain⟨tm,j⟩:=q;rw[hr] at hp ja aK;obtain⟨he,hb3,hg3⟩:=hp;have he':e=.returned (.tuple #[.agg #[.int .i64 tm.sort,.int .u8 tm.letter.toNat,.int .i64 tm.value],.nilIface]):=he;clear he;subst he';obtain⟨gW,b8⟩:=aK;rw[Ae] at b8;have HN:Hid (Dw m s.data.toList (acc++[tm]) j=r):=ja;clear ja hr;have fC:=fh.kept hb2 hg3;have fj:St b s j ((f||decide (4<acc.length))||decide (4<=acc.length)) (.iface tT (.pointer (some aT))) (.iface tL (.pointer (some aL))) w3:=St.step hb3 wz bf hg3;have ax:=Ab bS hg3;clear fh wz bf hb2;obtain⟨pC,pD,ei⟩:=hb.base;have hrow:=RowOk.of ((fC.alloc (.cells #[.int .i64 tm.sort,.int .u8 tm.letter.toNat,.int .i64 tm.value] 258)).alloc (.cells #[.int .i64 tm.sort,.int .u8 tm.letter.toNat,.int .i64 tm.value] 258));have a7:=AA w3 (.cells #[.int .i64 tm.sort,.int .u8 tm.letter.toNat,.int .i64 tm.value] 258) none;have aO:=Ab a7 (AA (w3.alloc (.cells #[.int .i64 tm.sort,.int .u8 tm.letter.toNat,.int .i64 tm.value] 258)) (.cells #[.int .i64 tm.sort,.int .u8 tm.letter.toNat,.int .i64 tm.value] 258) none);have kY:=fj.row aO (RowOk.none w.heap.size 258 w3) (by decide) (by decide) pC pD;have bW:=Ab ax (A3 aO (some b));have hsz3:=ax.size;clear a7 aO
    go_wp2_with (at_builtin;refine CW _ rfl _ _ 198 rfl w.heap.size 258 i0 (.agg #[.int .i64 0,.int .u8 0,.int .i64 0]) 3 24 Tryz.underlying198 aq hz0 hz1 hz2 rfl (by decide) _ acc.length (acc.flatMap Ff) rfl ((fC.alloc _).alloc _) ⟨w3.heap.size+1,0,none⟩ 1 1 (Ff tm) rfl rfl ?c1 ?c2 ?c3 ?c4 ?c5 ?_)
    case c1=>
     intro jj u hu
     match jj,hu with
     | 0,hu=>simp[Ff] at hu;subst hu;simp[Addr.add]
     | 1,hu=>simp[Ff] at hu;subst hu;simp[Addr.add]
     | 2,hu=>simp[Ff] at hu;subst hu;simp[Addr.add]
     | n+3,hu=>simp[Ff] at hu
    case c2=>
     intro u hu;simp[Ff] at hu;rcases hu with rfl|rfl|rfl<;>rfl
    case c3=>unfold maxLen;omega
    case c4=>omega
    case c5=>simp;omega
    intro v' w4 hown hgrow _;have mr:=kY.row hgrow hrow (by decide) (by decide) pC pD;have jG:=Ez bW hgrow hrow;have HA4:Hid (El b w4=j):=mr.at
    have bV:TsAt w.heap.size v' (acc++[tm]) w4:=by
     unfold TsAt;rw[AK,CG];simpa using hown
    clear hown hgrow kY bW fj fC hrow;go_wp2;go_roundw
    case rel=>exact⟨j,m,acc++[tm],by omega,by omega,by simp;omega,bV,by rw[AK,BC,Kq];exact mr,jG,HN.out⟩
    case measure=>rw[HA4.out,HA.out];omega
  ·rw[rT,AQ rfl] at bQ
   subst bQ
   go_wp2_with (go_at_call 156;refine(Jj b s k vx 41 _ rfl _ hk hs rT aD).mono ?_;rintro e w1⟨rfl,hb1,hg1⟩)
   go_ret2
   exact⟨_,rfl,cC.kept aD hg1,St.step hb1 hex hG hg1,Ab hg hg1⟩
theorem Ac(h:p):Hid p:=h
theorem Aa(h:Hid p):p:=h
def C3(T:TypeId)(N:Nat)(x y z:Value)(w:World):Prop:=w.heap[N]?=some (.cells #[x,y,z] T (0,0))
theorem C3.lt(h:C3 T N x y z w):N<w.heap.size:=(CV.1 h).1
theorem C3.kept{row:Option Nat}(h:C3 T N x y z w)(g:w.grownBy w' row)(hne:some N≠row):C3 T N x y z w':=by
 unfold C3;rw[g.block N h.lt hne];exact h
theorem C3.c(h:C3 T N x y z w):w.cell? ⟨N,0,none⟩=some x/\w.cell? ⟨N,1,none⟩=some y/\w.cell? ⟨N,2,none⟩=some z:=by
 unfold C3 at h;simp[World.cell?,h]
theorem C3.fz(h:C3 T N x y z w)(o:Nat):w.frozen? ⟨N,o,none⟩=false:=by
 unfold C3 at h;simp[World.frozen?,h]
theorem C3.set3{b c:Value}(h:C3 T N a b c w)(x y z:Value):C3 T N x y z (((w.setCell ⟨N,0,none⟩ x).setCell ⟨N,1,none⟩ y).setCell ⟨N,2,none⟩ z):=by
 unfold C3 at h⊢;have h1:=BB w N 0 _ _ x h;have h2:=BB _ N 1 _ _ y h1;have h3:=BB _ N 2 _ _ z h2;rw[h3];rfl
theorem Mx(hf:W0.heap.size<=f)(hF:FAt f k eT W)(hg:W0.grownBy W (some b))(hg0:w.grownBy W0 (some b))(hlt:N<W0.heap.size)(hN:w.heap.size<=N)(x y z:Value) :
  Bad b k eT w (.iface 112 (.pointer (some ⟨f,0,none⟩))) (((W.setCell ⟨N,0,none⟩ x).setCell ⟨N,1,none⟩ y).setCell ⟨N,2,none⟩ z):=
 ⟨f,rfl,AU hg0.size hf,hF.kept (Ci W N x y z) (by simp;omega),A8 (Ab hg0 hg) (Ci W N x y z) hN⟩
theorem RowOk.one{base:Nat}(h:C3 T N x y z w)(hb:base<=N):RowOk base T (some N) w:=by
 intro g hg;cases hg
 exact⟨hb,_,_,h⟩
theorem Cm{base:Nat}(h:w.ownsRow base e size v n xs)(hb:base'<=base):w.ownsRow base' e size v n xs:=by
 refine⟨h.1,?_⟩;rcases h.2 with h1|⟨g,cap,cur,h1,h2,h3⟩
 ·exact .inl h1
 ·exact .inr ⟨g,cap,cur,h1,AU hb h2,h3⟩
def Rd(b:Nat)(s:ByteArray)(f:Bool)(eT eL:Value)(w:World)(r:Nat ⊕ (Sv.Cond×Nat))(e:Ending)(w':World):Prop:=
 match r with
 | .inl k=>∃y,e=.returned (.tuple #[.agg #[.bool false,.int .i64 0,.slice none 0 0],y])/\Bad b k eT w y w'
 | .inr (c,j)=>∃u,e=.returned (.tuple #[.agg #[.bool c.neg,.int .i64 c.kind,u],.nilIface])/\TsAt w.heap.size u c.terms w'/\St b s j (f||D7 c) eT eL w'/\w.grownBy w' (some b)
theorem Jy(l:List UInt8)(i:Nat)(c:Sv.Cond)(j:Nat)(h:Al l i=.inr (c,j)):c.neg=false:=by
 unfold Al at h;simp only at h;split at h
 ·split at h
  ·split at h
   ·cases h
   ·simp only[CD,CH] at h
    rw[<-h.1]
  ·cases h
 ·cases h
theorem Q0h(b:Nat)(s:ByteArray)(i:Nat)(f:Bool)(tT:TypeId)(aT:Addr)(tL:TypeId)(aL:Addr)(w:World)(hi:i<=s.size)(hs:s.size<=400)
 (hb:St b s i f (.iface tT (.pointer (some aT))) (.iface tL (.pointer (some aL))) w)(h:(Ai s.data.toList (Ag s.data.toList i)==40)=false) :
  Calls Tryz.prog 157 #[.pointer (some ⟨b,0,none⟩)] w fun e w'=>∃y,e=.returned (.tuple #[.agg #[.bool false,.int .i64 0,.slice none 0 0],y])/\Bad b (Ag s.data.toList i) (.iface tT (.pointer (some aT))) w y w':=by
 obtain⟨v,hp,hex,hG⟩:=hb;have b9:=fun o=>hp.kept (AA w o none) (by simp)
 have mQ:=fun o=>hG.kept (AA w o (some b))
 have dN:C3 200 w.heap.size (.bool false) (.int .i64 0) (.slice none 0 0) (w.alloc (.cells #[.bool false,.int .i64 0,.slice none 0 0] 200)):=AR _ _;have hlt:=hp.lt;go_enter Tryz.func157,Tryz.ntmps157;go_wp2_with fail;refine(Ot b s i v 40 _ rfl _ tT aT _ hi hs h (b9 _) (mQ _)).mono ?_;rintro e w1⟨y,rfl,ff,rfl,hf,hF,hg⟩;have bB:=dN.kept hg (by simp;omega);obtain⟨d0,d1,d2⟩:=bB.c;have z0:=bB.fz 0;have z1:=bB.fz 1;have z2:=bB.fz 2;have iW:=Mx hf hF hg (AA w _ (some b)) dN.lt (AW _) (.bool false) (.int .i64 0) (.slice none 0 0);clear hf hF hg;go_wp2;obtain⟨q0,q1,q2⟩:=(bB.set3 (.bool false) (.int .i64 0) (.slice none 0 0)).c;exact BN (v:=.tuple #[.agg #[.bool false,.int .i64 0,.slice none 0 0],.iface 112 (.pointer (some ⟨ff,0,none⟩))]) (by simp[results,Tryz.results157,go_sem,q0,q1,q2]) rfl ⟨_,rfl,iW⟩
theorem Q0c(b:Nat)(s:ByteArray)(i:Nat)(f:Bool)(tT:TypeId)(aT:Addr)(tL:TypeId)(aL:Addr)(w:World)(hi:i<=s.size)(hs:s.size<=400)
 (hb:St b s i f (.iface tT (.pointer (some aT))) (.iface tL (.pointer (some aL))) w)(h:(Ai s.data.toList (Ag s.data.toList i)==40)=true)(h2:As (Ai s.data.toList (Ag s.data.toList (Ag s.data.toList i+1)))=false) :
  Calls Tryz.prog 157 #[.pointer (some ⟨b,0,none⟩)] w fun e w'=>∃y,e=.returned (.tuple #[.agg #[.bool false,.int .i64 0,.slice none 0 0],y])/\Bad b (Ag s.data.toList (Ag s.data.toList i+1)) (.iface tT (.pointer (some aT))) w y w':=by
 obtain⟨v,hp,hex,hG⟩:=hb;have b9:=fun o=>hp.kept (AA w o none) (by simp)
 have mQ:=fun o=>hG.kept (AA w o (some b))
 have dN:C3 200 w.heap.size (.bool false) (.int .i64 0) (.slice none 0 0) (w.alloc (.cells #[.bool false,.int .i64 0,.slice none 0 0] 200)):=AR _ _;have hlt:=hp.lt;have eZ:=Ap _ _ 40 (by decide) h;rw[Ae] at eZ;go_enter Tryz.func157,Tryz.ntmps157
 go_wp2_with (go_at_call 126;refine(Im b s i v 40 _ rfl _ hi hs h (b9 _)).mono ?_;rintro e w1⟨rfl,hb1,hg1⟩)
 refine(Q2v b s _ v w1 tT aT _ eZ hs h2 hb1 ((mQ _).kept hg1)).mono ?_;rintro e w2⟨y,rfl,ff,rfl,hf,hF,hg2⟩;have bB:=dN.kept hg1 (by simp;omega);have bq:=bB.kept hg2 (by simp;omega);obtain⟨d0,d1,d2⟩:=bq.c;have z0:=bq.fz 0;have z1:=bq.fz 1;have z2:=bq.fz 2;have iW:=Mx hf hF hg2 (Ab (AA w _ (some b)) hg1) bB.lt (AW _) (.bool false) (.int .i64 0) (.slice none 0 0);clear hf hF hg1 hg2;go_wp2;obtain⟨q0,q1,q2⟩:=(bq.set3 (.bool false) (.int .i64 0) (.slice none 0 0)).c;exact BN (v:=.tuple #[.agg #[.bool false,.int .i64 0,.slice none 0 0],.iface 112 (.pointer (some ⟨ff,0,none⟩))]) (by simp[results,Tryz.results157,go_sem,q0,q1,q2]) rfl ⟨_,rfl,iW⟩
theorem Yo(b:Nat)(s:ByteArray)(i:Nat)(f:Bool)(tT:TypeId)(aT:Addr)(tL:TypeId)(aL:Addr)(w:World)(hi:i<=s.size)(hs:s.size<=400)
 (hb:St b s i f (.iface tT (.pointer (some aT))) (.iface tL (.pointer (some aL))) w)(h:(Ai s.data.toList (Ag s.data.toList i)==40)=true)(h2:As (Ai s.data.toList (Ag s.data.toList (Ag s.data.toList i+1)))=true)(r:Nat ⊕ (Sv.Cond×Nat))(hR:(match Cl s.data.toList (Ag s.data.toList (Ag s.data.toList i+1)+1) with
   | .inl m=>.inl m
   | .inr (ts,m)=>.inr (⟨false,(Ai s.data.toList (Ag s.data.toList (Ag s.data.toList i+1))).toNat-48,ts⟩,m))=r) :
  Calls Tryz.prog 157 #[.pointer (some ⟨b,0,none⟩)] w fun e w'=>Rd b s f (.iface tT (.pointer (some aT))) (.iface tL (.pointer (some aL))) w r e w':=by
 have HR:=Ac hR;clear hR;obtain⟨pC,pD,ei⟩:=hb.base;obtain⟨v,hp,hex,hG⟩:=hb;have b9:=fun o=>hp.kept (AA w o none) (by simp)
 have mQ:=fun o=>hG.kept (AA w o (some b))
 have qm:=fun o=>hex.kept (AA w o (some b))
 have dN:C3 200 w.heap.size (.bool false) (.int .i64 0) (.slice none 0 0) (w.alloc (.cells #[.bool false,.int .i64 0,.slice none 0 0] 200)):=AR _ _;have hlt:=hp.lt;have eZ:=Ap _ _ 40 (by decide) h;rw[Ae] at eZ;have jf:=Dd _ _ h2;rw[Ae] at jf;have sX:=Cp _ h2;go_enter Tryz.func157,Tryz.ntmps157
 go_wp2_with (go_at_call 126;refine(Im b s i v 40 _ rfl _ hi hs h (b9 _)).mono ?_;rintro e w1⟨rfl,hb1,hg1⟩)
 refine(Yr b s _ v w1 eZ hs h2 hb1).mono ?_;rintro e w2⟨rfl,hb2,hg2⟩;have bB:=dN.kept hg1 (by simp;omega);have bq:=bB.kept hg2 (by simp;omega);have bS:=Ab (Ab (AA w _ (some b)) hg1) hg2;have eY:=St.step hb2 ((qm _).kept hg1) ((mQ _).kept hg1) hg2;have cR:=Aa HR;clear HR;generalize Ai s.data.toList (Ag s.data.toList (Ag s.data.toList i+1))=ck at *;have HR:=Ac cR;clear hb1 hg1 hb2 hg2 bB dN b9 mQ qm hp hex hG cR;go_wp2_with fail;refine(Q2h b s _ _ tT aT tL aL w2 jf hs eY).mono ?_;intro e w3 aN;cases hr:Cl s.data.toList (Ag s.data.toList (Ag s.data.toList i+1)+1) with
 | inl m=>
  have gA:=Aa HR;rw[hr] at aN gA;subst gA;obtain⟨y,rfl,ff,rfl,hf,hF,hg3⟩:=aN;have fD:=bq.kept hg3 (by simp;omega);obtain⟨d0,d1,d2⟩:=fD.c;have z0:=fD.fz 0;have z1:=fD.fz 1;have z2:=fD.fz 2;have iW:=Mx hf hF hg3 bS bq.lt (AW _) (.bool false) (.int .i64 0) (.slice none 0 0);clear hf hF hg3 hr eY;go_wp2;obtain⟨q0,q1,q2⟩:=(fD.set3 (.bool false) (.int .i64 0) (.slice none 0 0)).c;exact BN (v:=.tuple #[.agg #[.bool false,.int .i64 0,.slice none 0 0],.iface 112 (.pointer (some ⟨ff,0,none⟩))]) (by simp[results,Tryz.results157,go_sem,q0,q1,q2]) rfl ⟨_,rfl,iW⟩
 | inr q=>
  obtain⟨ts,m⟩:=q;have gA:=Aa HR;rw[hr] at aN gA;subst gA;obtain⟨u,rfl,cC,fj,hg3⟩:=aN;obtain⟨ao,cap,rfl⟩:=cC.slice;have fD:=bq.kept hg3 (by simp;omega);obtain⟨d0,d1,d2⟩:=fD.c;have z0:=fD.fz 0;have z1:=fD.fz 1;have z2:=fD.fz 2;have ax:=Ab bS hg3;clear hr eY hg3;go_wp2;obtain⟨q0,q1,q2⟩:=(fD.set3 (.bool false) (.int .i64 ((ck.toNat:Int)-48)) (.slice ao ts.length cap)).c;have k3:=Ci w3 w.heap.size (.bool false) (.int .i64 ((ck.toNat:Int)-48)) (.slice ao ts.length cap);refine BN (v:=.tuple #[.agg #[.bool false,.int .i64 ((ck.toNat:Int)-48),.slice ao ts.length cap],.nilIface]) (by simp[results,Tryz.results157,go_sem,q0,q1,q2]) rfl ⟨.slice ao ts.length cap,?_,?_,?_,?_⟩
  ·rw[show (((⟨false,ck.toNat-48,ts⟩:Sv.Cond).kind:Nat):Int)=(ck.toNat:Int)-48 from by show ((ck.toNat-48:Nat):Int)=_;omega]
  ·exact Cm (Nq cC k3 fD (by decide)) (by have:=bS.size;omega)
  ·exact fj.row k3 (RowOk.one fD (AW _)) (by decide) (by decide) pC pD
  ·exact A8 ax k3 (AW _)
theorem Q0v(b:Nat)(s:ByteArray)(i:Nat)(f:Bool)(tT:TypeId)(aT:Addr)(tL:TypeId)(aL:Addr)(w:World)(hi:i<=s.size)(hs:s.size<=400)
 (hb:St b s i f (.iface tT (.pointer (some aT))) (.iface tL (.pointer (some aL))) w) :
  Calls Tryz.prog 157 #[.pointer (some ⟨b,0,none⟩)] w fun e w'=>Rd b s f (.iface tT (.pointer (some aT))) (.iface tL (.pointer (some aL))) w (Al s.data.toList i) e w':=by
 cases h:Ai s.data.toList (Ag s.data.toList i)==40
 ·have e:Al s.data.toList i=.inl (Ag s.data.toList i):=by unfold Al;rw[h];rfl
  rw[e];exact Q0h b s i f tT aT tL aL w hi hs hb h
 ·cases h2:As (Ai s.data.toList (Ag s.data.toList (Ag s.data.toList i+1)))
  ·have e:Al s.data.toList i=.inl (Ag s.data.toList (Ag s.data.toList i+1)):=by unfold Al;simp only;rw[h,AQ rfl,h2];rfl
   rw[e];exact Q0c b s i f tT aT tL aL w hi hs hb h h2
  ·refine Yo b s i f tT aT tL aL w hi hs hb h h2 _ ?_
   unfold Al;simp only;rw[h,AQ rfl,h2,AQ rfl];cases Cl s.data.toList (Ag s.data.toList (Ag s.data.toList i+1)+1)<;>rfl
theorem Dy{w w':World}{base base':Nat}{e e':TypeId}{size:Nat}{v:Value}{n:Nat}{xs:List Value}{row:Option Nat}(h:w.ownsRow base e size v n xs)(hg:w.grownBy w' row)(hr:RowOk base' e' row w)(hne:e'≠e):w'.ownsRow base e size v n xs:=by
 cases row with
 | none=>exact h.kept hg (by cases hv:v.ownBlock<;>simp)
 | some b=>
  obtain⟨_,cur,fz,hb⟩:=hr b rfl;exact Nq h hg hb hne
theorem TsAt.row{base:Nat}{e':TypeId}{row:Option Nat}(h:TsAt base v ts w)(hg:w.grownBy w' row)(hr:RowOk base' e' row w)(hne:e'≠258):TsAt base v ts w':=Dy h hg hr hne
theorem PAt.rowOk(h:PAt b s i v w):RowOk 0 117 (some b) w:=by
 intro g hg;cases hg;exact⟨AG _,_,_,h⟩
theorem St.rowOk{b:Nat}{s:ByteArray}{i:Nat}{f:Bool}{eT eL:Value}{w:World}(h:St b s i f eT eL w):RowOk 0 117 (some b) w:=by
 obtain⟨v,hp,_⟩:=h;exact hp.rowOk
def CsCells(B:Nat)(w:World):List Sv.Cond->List Value->Prop
 | [],xs=>xs=[]
 | c::cs,xs=>∃u ys,xs=.bool c.neg::.int .i64 c.kind::u::ys/\TsAt B u c.terms w/\CsCells B w cs ys
theorem CsCells.row{B:Nat}{w w':World}{base':Nat}{e':TypeId}{row:Option Nat}(hg:w.grownBy w' row)(hr:RowOk base' e' row w)(hne:e'≠258):∀(cs:List Sv.Cond) (xs:List Value),CsCells B w cs xs->CsCells B w' cs xs
 | [],_,h=>h
 | _::cs,_,⟨u,ys,h1,h2,h3⟩=>⟨u,ys,h1,h2.row hg hr hne,CsCells.row hg hr hne cs ys h3⟩
theorem CsCells.snoc{B:Nat}{w:World}(c:Sv.Cond)(u:Value)(hu:TsAt B u c.terms w):∀(cs:List Sv.Cond) (xs:List Value),CsCells B w cs xs->CsCells B w (cs++[c]) (xs++[.bool c.neg,.int .i64 c.kind,u])
 | [],xs,h=>⟨u,[],by rw[show xs=[] from h];rfl,hu,rfl⟩
 | _::cs,_,⟨v,ys,h1,h2,h3⟩=>⟨v,ys++[.bool c.neg,.int .i64 c.kind,u],by rw[h1];rfl,h2,CsCells.snoc c u hu cs ys h3⟩
theorem CsCells.weak{B B':Nat}{w:World}(hB:B'<=B):∀(cs:List Sv.Cond) (xs:List Value),CsCells B w cs xs->CsCells B' w cs xs
 | [],_,h=>h
 | _::cs,_,⟨u,ys,h1,h2,h3⟩=>⟨u,ys,h1,Cm h2 hB,CsCells.weak hB cs ys h3⟩
def CsAt(base:Nat)(v:Value)(cs:List Sv.Cond)(w:World):Prop:=∃xs,w.ownsRow base 200 3 v cs.length xs/\CsCells base w cs xs
theorem CsAt.slice{base:Nat}{u:Value}{cs:List Sv.Cond}{w:World}(h:CsAt base u cs w):∃ao cap,u=.slice ao cs.length cap:=by
 obtain⟨xs,h,_⟩:=h;rcases h.2 with ⟨h1,h2⟩|⟨g,cap,cur,h1,_⟩
 ·exact⟨none,0,by rw[h2];exact h1⟩
 ·exact⟨_,_,h1⟩
theorem CsAt.row{w w':World}{base base':Nat}{e':TypeId}{v:Value}{cs:List Sv.Cond}{row:Option Nat}(h:CsAt base v cs w)(hg:w.grownBy w' row)(hr:RowOk base' e' row w)(hne:e'≠258)(dW:e'≠200):CsAt base v cs w':=by
 obtain⟨xs,h1,h2⟩:=h;exact⟨xs,Dy h1 hg hr dW,CsCells.row hg hr hne cs xs h2⟩
def G3(cs:List Sv.Cond):Bool:=decide (4<cs.length)||cs.any D7
theorem O0(f:Bool)(cs:List Sv.Cond)(c:Sv.Cond)(b:Bool):(f||G3 (cs++[⟨b,c.kind,c.terms⟩]))=(f||G3 cs||decide (4<=cs.length)||D7 c):=by
 unfold G3;rw[AK,BC,ES];have h:=Kq f 4 cs.length;have h2:[(⟨b,c.kind,c.terms⟩:Sv.Cond)].any D7=D7 c:=by simp[D7]
 rw[h2,<-JJ,h];cases f<;>cases decide (4<cs.length)<;>cases decide (4<=cs.length)<;>cases cs.any D7<;>cases D7 c<;>rfl
theorem Q1(f:Bool)(c:Sv.Cond):(f||G3 [c])=(f||D7 c):=by simp[G3]
theorem Cr(n:Nat)(l:List UInt8)(acc:List Sv.Cond)(i:Nat):Dl (n+1) l acc i=
  if (Ai l (Ag l i)==59)=true then .inr (acc,Ag l i+1)
  else
   match Al l (if (Ai l (Ag l i)==33)=true then Ag l i+1 else Ag l i) with
   | .inl k=>.inl k
   | .inr (c,j)=>Dl n l (acc++[⟨Ai l (Ag l i)==33,c.kind,c.terms⟩]) j:=rfl
theorem Tryz.infoCond:(Tryz.prog.info? 200).map (fun i=>(i.zero,i.size,i.bytes))=some (some (.agg #[.bool false,.int .i64 0,.slice none 0 0]),3,40):=by kernel_rfl
def Va(b:Nat)(s:ByteArray)(f:Bool)(eT eL:Value)(w:World)(r:Nat ⊕ (List Sv.Cond×Nat))(e:Ending)(w':World):Prop:=
 match r with
 | .inl k=>∃y,e=.returned (.tuple #[.slice none 0 0,y])/\Bad b k eT w y w'
 | .inr (cs,j)=>∃u,e=.returned (.tuple #[u,.nilIface])/\CsAt w.heap.size u cs w'/\St b s j (f||G3 cs) eT eL w'/\w.grownBy w' (some b)
def Q4k(b:Nat)(s:ByteArray)(f:Bool)(eT eL:Value)(w:World)(r:Nat ⊕ (List Sv.Cond×Nat))(u:Value)(w':World):Prop:=
 ∃(k n:Nat) (cs:List Sv.Cond),s.size<k+n/\k<=s.size/\cs.length<=k/\CsAt w.heap.size u cs w'/\St b s k (f||G3 cs) eT eL w'/\w.grownBy w' (some b)/\Dl n s.data.toList cs k=r
theorem Q2d(b:Nat)(s:ByteArray)(i:Nat)(f:Bool)(tT:TypeId)(aT:Addr)(tL:TypeId)(aL:Addr)(w:World)(hi:i<=s.size)(hs:s.size<=400)
 (hb:St b s i f (.iface tT (.pointer (some aT))) (.iface tL (.pointer (some aL))) w) :
  Calls Tryz.prog 127 #[.pointer (some ⟨b,0,none⟩)] w fun e w'=>Va b s f (.iface tT (.pointer (some aT))) (.iface tL (.pointer (some aL))) w (Bl s.data.toList i) e w':=by
 obtain⟨i0,aq,hz0,hz1,hz2⟩:=info_parts Tryz.infoCond;obtain⟨pC,pD,ei⟩:=hb.base;generalize hr:Bl s.data.toList i=r;unfold Bl at hr;have HR:=Ac hr;clear hr;have aK:=C8 s.data.toList i (by simpa using hi);go_enter Tryz.func127,Tryz.ntmps127;go_wp2_with fail;refine(Q0v b s i f tT aT tL aL w hi hs hb).mono ?_;intro e w1 hp;have OO:=Aa HR;clear HR;cases hc:Al s.data.toList i with
 | inl q=>
  rw[hc] at hp OO;subst OO;obtain⟨y,rfl,ff,rfl,hf,hF,hg1⟩:=hp;go_wp2
  go_ret2
  exact⟨_,rfl,ff,rfl,hf,hF.kept (AA w1 _ none) (by simp),Ab hg1 (AA w1 _ _)⟩
 | inr q=>
  obtain⟨c,j⟩:=q;rw[hc] at hp OO aK;obtain⟨u,rfl,cC,iO,hg1⟩:=hp;obtain⟨ao,cap,rfl⟩:=cC.slice;obtain⟨gW,b8⟩:=aK;rw[Ae] at b8;have HR:=Ac OO;clear OO;have HC:=Ac hc;clear hc;go_wp2_with fail;go_loopw [6] (fun u w'=>Q4k b s f (.iface tT (.pointer (some aT))) (.iface tL (.pointer (some aL))) w r u w') (fun _ w'=>s.size-El b w')
  case atStart=>
   have a7:=AA w1 (.cells #[.bool c.neg,.int .i64 c.kind,.slice ao c.terms.length cap] 200) none;have aO:=Ab a7 (AA (w1.alloc (.cells #[.bool c.neg,.int .i64 c.kind,.slice ao c.terms.length cap] 200)) (.cells #[.bool c.neg,.int .i64 c.kind,.slice ao c.terms.length cap] 200) none);have hsz:=hg1.size;have uG:=IL (base:=w.heap.size) (e:=200) (size:=3) (w1.alloc (.cells #[.bool c.neg,.int .i64 c.kind,.slice ao c.terms.length cap] 200)) #[.bool c.neg,.int .i64 c.kind,.slice ao c.terms.length cap] 1 (by simp;omega) (by decide) rfl;rw[EO] at uG;refine⟨j,s.data.toList.length+1,[c],by simp;omega,b8,by simp;omega,⟨_,uG,?_⟩,?_,Ab hg1 (A3 aO (some b)),HR.out⟩
   ·exact⟨.slice ao c.terms.length cap,[],rfl,Cm (TsAt.row cC aO (RowOk.none 0 0 w1) (by decide)) (by first|exact AW _|omega),rfl⟩
   ·rw[Q1]
    exact iO.row aO (RowOk.none w.heap.size 200 w1) (by decide) (by decide) pC pD
  case round=>
   clear cC iO hg1 gW b8 HR HC;obtain⟨k,m,acc,iA,hk,aY,hcs,hst,hg,bQ⟩:=hrel;obtain⟨m,rfl⟩:∃m',m=m'+1:=⟨m-1,by omega⟩
   rw[Cr] at bQ;have HA:=Ac hst.at;have hle:=A7 s.data.toList k (by simpa using hk);rw[Ae] at hle;obtain⟨nH,aj⟩:=hle;obtain⟨br,aC,rfl⟩:=hcs.slice;cases fF:Ai s.data.toList (Ag s.data.toList k)==59
   ·rw[fF,AO (by simp)] at bQ
    have HN:=Ac bQ;clear bQ;obtain⟨vx,aD,hex,hG⟩:=hst
    go_wp2_with (go_at_call 156;refine(Nk b s k vx 59 _ rfl _ hk hs fF aD).mono ?_;rintro e w2⟨rfl,hb2,hg2⟩)
    refine(Vq b s _ _ tT aT tL aL w2 acc.length 4 _ _ rfl rfl (St.step hb2 hex hG hg2)).mono ?_;rintro e w3⟨rfl,fj,hg3⟩;have LZ:=(hcs.row hg2 aD.rowOk (by decide) (by decide)).row hg3 hb2.rowOk (by decide) (by decide);have ax:=Ab hg (Ab hg2 hg3);clear hcs aD hex hG hb2 hg2 hg3 hg;obtain⟨vy,hb3,LU,jv⟩:=fj;go_wp2_with fail;have qA:=Db s.data.toList k
    have HX:∃x,Hid ((match Al s.data.toList x with
      | .inl k=>.inl k
      | .inr (c,j)=>Dl m s.data.toList (acc++[⟨Ai s.data.toList (Ag s.data.toList k)==33,c.kind,c.terms⟩]) j)=r)/\k<=x/\x<=s.size/\
      Calls Tryz.prog 156 #[.pointer (some ⟨b,0,none⟩),.int .u8 33] w3 fun e w'=>e=.returned (.bool (Ai s.data.toList (Ag s.data.toList k)==33))/\PAt b s x vy w'/\w3.grownBy w' (some b):=by
     cases pH:Ai s.data.toList (Ag s.data.toList k)==33
     ·refine⟨Ag s.data.toList k,?_,nH,aj,?_⟩
      ·have:=Aa HN;rw[pH] at this;exact this
      ·have:=Nk b s (Ag s.data.toList k) vy 33 33 rfl w3 aj hs (by rw[qA];exact pH) hb3
       rw[qA] at this;exact this
     ·have zX:=Ap _ _ 33 (by decide) pH
      rw[Ae] at zX;refine⟨Ag s.data.toList k+1,?_,by omega,zX,?_⟩
      ·have:=Aa HN;rw[pH] at this;exact this
      ·have:=Jj b s (Ag s.data.toList k) vy 33 33 rfl w3 aj hs (by rw[qA];exact pH) hb3
       rw[qA] at this;exact this
    clear qA;obtain⟨x,fH,sB,pZ,ud⟩:=HX;clear HN;generalize (Ai s.data.toList (Ag s.data.toList k)==33)=ng at *;refine ud.mono ?_;rintro e w4⟨rfl,hb4,hg4⟩;have mr:=St.step hb4 LU jv hg4;have xB:=LZ.row hg4 hb3.rowOk (by decide) (by decide);have jG:=Ab ax hg4;clear ud LZ hb3 LU jv hb4 hg4 ax;have aK:=C8 s.data.toList x (by simpa using pZ);go_wp2_with fail;refine(Q0v b s x _ tT aT tL aL w4 pZ hs mr).mono ?_;intro e w5 hp;have ja:=Aa fH;clear fH;cases hc:Al s.data.toList x with
    | inl q=>
     rw[hc] at hp ja;obtain⟨y,rfl,ff,rfl,hf,hF,aZ⟩:=hp;simp only at ja;subst ja;have hf':w.heap.size<=ff:=AU jG.size hf;have bW:=Ab jG aZ;clear mr xB aK hc;go_wp2
     go_ret2
     exact⟨_,rfl,ff,rfl,hf',hF.kept (AA w5 _ none) (by simp),Ab bW (AA w5 _ _)⟩
    | inr q=>
     obtain⟨cc,j2⟩:=q;have aJ:=Jy _ _ _ _ hc;rw[hc] at hp ja aK;obtain⟨u5,he,dV,kY,aZ⟩:=hp;obtain⟨iC,aI,rfl⟩:=dV.slice;rw[aJ] at he;subst he;obtain⟨gW,b8⟩:=aK;rw[Ae] at b8;have HN:=Ac ja;clear ja hc aJ;have jr:=xB.row aZ mr.rowOk (by decide) (by decide);have bW:=Ab jG aZ;have wE:=jG.size;clear mr xB aZ jG;obtain⟨xs,cY,cx⟩:=jr;have a7:=AA w5 (.cells #[.bool ng,.int .i64 cc.kind,.slice iC cc.terms.length aI] 200) none;have aO:=Ab a7 (AA (w5.alloc (.cells #[.bool ng,.int .i64 cc.kind,.slice iC cc.terms.length aI] 200)) (.cells #[.bool ng,.int .i64 cc.kind,.slice iC cc.terms.length aI] 200) none);have hrow:=RowOk.of ((cY.alloc (.cells #[.bool ng,.int .i64 cc.kind,.slice iC cc.terms.length aI] 200)).alloc (.cells #[.bool ng,.int .i64 cc.kind,.slice iC cc.terms.length aI] 200));have pz:=kY.row aO (RowOk.none w.heap.size 200 w5) (by decide) (by decide) pC pD;have cu:=CsCells.row aO (RowOk.none 0 0 w5) (by decide) acc xs cx;have jB:TsAt w.heap.size _ _ _:=Cm (TsAt.row dV aO (RowOk.none 0 0 w5) (by decide)) (by first|exact wE|omega);have ee:=Ab bW (A3 aO (some b));have zK:=bW.size;clear a7 aO cx dV kY
     go_wp2_with (at_builtin;refine CW _ rfl _ _ 126 rfl w.heap.size 200 i0 (.agg #[.bool false,.int .i64 0,.slice none 0 0]) 3 40 Tryz.underlying126 aq hz0 hz1 hz2 rfl (by decide) _ acc.length xs rfl ((cY.alloc _).alloc _) ⟨w5.heap.size+1,0,none⟩ 1 1 [.bool ng,.int .i64 cc.kind,.slice iC cc.terms.length aI] rfl rfl ?c1 ?c2 ?c3 ?c4 ?c5 ?_)
     case c1=>
      intro jj u hu
      match jj,hu with
      | 0,hu=>simp at hu;subst hu;simp[Addr.add]
      | 1,hu=>simp at hu;subst hu;simp[Addr.add]
      | 2,hu=>simp at hu;subst hu;simp[Addr.add]
      | n+3,hu=>simp at hu
     case c2=>
      intro u hu;simp at hu;rcases hu with rfl|rfl|rfl<;>rfl
     case c3=>unfold maxLen;omega
     case c4=>omega
     case c5=>simp;omega
     intro v' w7 hown hgrow _;have og:=pz.row hgrow hrow (by decide) (by decide) pC pD;have qh:=Ez ee hgrow hrow;have HA7:=Ac og.at;have cq:=CsCells.row hgrow hrow (by decide) acc xs cu;have zE:=TsAt.row jB hgrow hrow (by decide);have sk:CsAt w.heap.size v' (acc++[⟨ng,cc.kind,cc.terms⟩]) w7:=⟨_,by rw[AK];exact hown,CsCells.snoc (⟨ng,cc.kind,cc.terms⟩:Sv.Cond) _ zE acc xs cq⟩
     rw[<-O0 f acc cc ng] at og;clear hown hgrow pz ee cY hrow cu cq jB zE;go_wp2;go_roundw
     case rel=>exact⟨j2,m,acc++[⟨ng,cc.kind,cc.terms⟩],by omega,by omega,by simp;omega,sk,og,qh,Aa HN⟩
     case measure=>rw[Aa HA7,Aa HA];omega
   ·rw[fF,AQ rfl] at bQ
    subst bQ;obtain⟨vx,aD,hex,hG⟩:=hst
    go_wp2_with (go_at_call 156;refine(Jj b s k vx 59 _ rfl _ hk hs fF aD).mono ?_;rintro e w2⟨rfl,hb2,hg2⟩)
    go_ret2
    exact⟨_,rfl,hcs.row hg2 aD.rowOk (by decide) (by decide),St.step hb2 hex hG hg2,Ab hg hg2⟩
def C2(T:TypeId)(N:Nat)(x y:Value)(w:World):Prop:=w.heap[N]?=some (.cells #[x,y] T (0,0))
theorem C2.lt(h:C2 T N x y w):N<w.heap.size:=(CV.1 h).1
theorem C2.kept{row:Option Nat}(h:C2 T N x y w)(g:w.grownBy w' row)(hne:some N≠row):C2 T N x y w':=by
 unfold C2;rw[g.block N h.lt hne];exact h
theorem C2.c(h:C2 T N x y w):w.cell? ⟨N,0,none⟩=some x/\w.cell? ⟨N,1,none⟩=some y:=by
 unfold C2 at h;simp[World.cell?,h]
theorem C2.fz(h:C2 T N x y w)(o:Nat):w.frozen? ⟨N,o,none⟩=false:=by
 unfold C2 at h;simp[World.frozen?,h]
theorem C2.set2{b:Value}(h:C2 T N a b w)(x y:Value):C2 T N x y ((w.setCell ⟨N,0,none⟩ x).setCell ⟨N,1,none⟩ y):=by
 unfold C2 at h⊢;have h1:=BB w N 0 _ _ x h;have h2:=BB _ N 1 _ _ y h1;rw[h2];rfl
theorem Du(w:World)(N:Nat)(x y:Value):w.grownBy ((w.setCell ⟨N,0,none⟩ x).setCell ⟨N,1,none⟩ y) (some N):=
 Ab (Aj w N 0 x) (Aj _ N 1 y)
theorem RowOk.one2{base:Nat}(h:C2 T N x y w)(hb:base<=N):RowOk base T (some N) w:=by
 intro g hg;cases hg
 exact⟨hb,_,_,h⟩
theorem Mw(hf:W0.heap.size<=f)(hF:FAt f k eT W)(hg:W0.grownBy W (some b))(hg0:w.grownBy W0 (some b))(hlt:N<W0.heap.size)(hN:w.heap.size<=N)(x y:Value) :
  Bad b k eT w (.iface 112 (.pointer (some ⟨f,0,none⟩))) ((W.setCell ⟨N,0,none⟩ x).setCell ⟨N,1,none⟩ y):=
 ⟨f,rfl,AU hg0.size hf,hF.kept (Du W N x y) (by simp;omega),A8 (Ab hg0 hg) (Du W N x y) hN⟩
def Sr(b:Nat)(s:ByteArray)(f:Bool)(eT eL:Value)(w:World)(r:Nat ⊕ (Sv.Rule×Nat))(e:Ending)(w':World):Prop:=
 match r with
 | .inl k=>∃y,e=.returned (.tuple #[.agg #[.string ⟨#[]⟩,.slice none 0 0],y])/\Bad b k eT w y w'
 | .inr (q,j)=>∃u,e=.returned (.tuple #[.agg #[.string ⟨q.name.toArray⟩,u],.nilIface])/\CsAt w.heap.size u q.conds w'/\St b s j (f||Eu q) eT eL w'/\w.grownBy w' (some b)
theorem Ys(b:Nat)(s:ByteArray)(i:Nat)(f:Bool)(tT:TypeId)(aT:Addr)(tL:TypeId)(aL:Addr)(w:World)(hi:i<=s.size)(hs:s.size<=400)
 (hb:St b s i f (.iface tT (.pointer (some aT))) (.iface tL (.pointer (some aL))) w)(h:Ao 8 s.data.toList i=i) :
  Calls Tryz.prog 90 #[.pointer (some ⟨b,0,none⟩)] w fun e w'=>∃y,e=.returned (.tuple #[.agg #[.string ⟨#[]⟩,.slice none 0 0],y])/\Bad b i (.iface tT (.pointer (some aT))) w y w':=by
 obtain⟨v,hp,hex,hG⟩:=hb;have b9:=fun o=>hp.kept (AA w o none) (by simp)
 have mQ:=fun o=>hG.kept (AA w o (some b))
 have dN:C2 128 w.heap.size (.string ⟨#[]⟩) (.slice none 0 0) (w.alloc (.cells #[.string ⟨#[]⟩,.slice none 0 0] 128)):=AR _ _;have hlt:=hp.lt;have HH:=Ac h;clear h;go_enter Tryz.func90,Tryz.ntmps90;go_wp2_with fail;refine(Q2p b s i v _ tT aT _ hi hs (Aa HH) (b9 _) (mQ _)).mono ?_;rintro e w1⟨y,rfl,ff,rfl,hf,hF,hg⟩;have bB:=dN.kept hg (by simp;omega);obtain⟨d0,d1⟩:=bB.c;have z0:=bB.fz 0;have z1:=bB.fz 1;have iW:=Mw hf hF hg (AA w _ (some b)) dN.lt (AW _) (.string ⟨#[]⟩) (.slice none 0 0);clear hf hF hg;go_wp2;obtain⟨q0,q1⟩:=(bB.set2 (.string ⟨#[]⟩) (.slice none 0 0)).c;exact BN (v:=.tuple #[.agg #[.string ⟨#[]⟩,.slice none 0 0],.iface 112 (.pointer (some ⟨ff,0,none⟩))]) (by simp[results,Tryz.results90,go_sem,q0,q1]) rfl ⟨_,rfl,iW⟩
theorem Q0q(b:Nat)(s:ByteArray)(i:Nat)(f:Bool)(tT:TypeId)(aT:Addr)(tL:TypeId)(aL:Addr)(w:World)(hi:i<=s.size)(hs:s.size<=400)
 (hb:St b s i f (.iface tT (.pointer (some aT))) (.iface tL (.pointer (some aL))) w)(h:Ao 8 s.data.toList i≠i)(h2:(Ai s.data.toList (Ag s.data.toList (Ao 8 s.data.toList i))==58)=false) :
  Calls Tryz.prog 90 #[.pointer (some ⟨b,0,none⟩)] w fun e w'=>∃y,e=.returned (.tuple #[.agg #[.string ⟨#[]⟩,.slice none 0 0],y])/\Bad b (Ag s.data.toList (Ao 8 s.data.toList i)) (.iface tT (.pointer (some aT))) w y w':=by
 obtain⟨v,hp,hex,hG⟩:=hb;have b9:=fun o=>hp.kept (AA w o none) (by simp)
 have mQ:=fun o=>hG.kept (AA w o (some b))
 have dN:C2 128 w.heap.size (.string ⟨#[]⟩) (.slice none 0 0) (w.alloc (.cells #[.string ⟨#[]⟩,.slice none 0 0] 128)):=AR _ _;have hlt:=hp.lt;have hnl:=Dh 8 s.data.toList i (by simpa using hi);rw[Ae] at hnl;go_enter Tryz.func90,Tryz.ntmps90
 go_wp2_with (go_at_call 125;refine(Rp b s i v _ hi hs h (b9 _)).mono ?_;rintro e w1⟨rfl,hb1,hg1⟩)
 refine(Ot b s _ v 58 _ rfl w1 tT aT _ hnl.2.1 hs h2 hb1 ((mQ _).kept hg1)).mono ?_;rintro e w2⟨y,rfl,ff,rfl,hf,hF,hg2⟩;have bB:=dN.kept hg1 (by simp;omega);have bq:=bB.kept hg2 (by simp;omega);obtain⟨d0,d1⟩:=bq.c;have z0:=bq.fz 0;have z1:=bq.fz 1;have iW:=Mw hf hF hg2 (Ab (AA w _ (some b)) hg1) bB.lt (AW _) (.string ⟨#[]⟩) (.slice none 0 0);clear hf hF hg1 hg2;go_wp2;obtain⟨q0,q1⟩:=(bq.set2 (.string ⟨#[]⟩) (.slice none 0 0)).c;exact BN (v:=.tuple #[.agg #[.string ⟨#[]⟩,.slice none 0 0],.iface 112 (.pointer (some ⟨ff,0,none⟩))]) (by simp[results,Tryz.results90,go_sem,q0,q1]) rfl ⟨_,rfl,iW⟩
theorem Yu(b:Nat)(s:ByteArray)(i:Nat)(f:Bool)(tT:TypeId)(aT:Addr)(tL:TypeId)(aL:Addr)(w:World)(hi:i<=s.size)(hs:s.size<=400)
 (hb:St b s i f (.iface tT (.pointer (some aT))) (.iface tL (.pointer (some aL))) w)(h:Ao 8 s.data.toList i≠i)(h2:(Ai s.data.toList (Ag s.data.toList (Ao 8 s.data.toList i))==58)=true)(r:Nat ⊕ (Sv.Rule×Nat))(hR:(match Bl s.data.toList (Ag s.data.toList (Ao 8 s.data.toList i)+1) with
   | .inl m=>.inl m
   | .inr (cs,m)=>.inr (⟨Ct s.data.toList i (Ao 8 s.data.toList i),cs⟩,m))=r) :
  Calls Tryz.prog 90 #[.pointer (some ⟨b,0,none⟩)] w fun e w'=>Sr b s f (.iface tT (.pointer (some aT))) (.iface tL (.pointer (some aL))) w r e w':=by
 have HR:=Ac hR;clear hR;obtain⟨pC,pD,ei⟩:=hb.base;obtain⟨v,hp,hex,hG⟩:=hb;have b9:=fun o=>hp.kept (AA w o none) (by simp)
 have mQ:=fun o=>hG.kept (AA w o (some b))
 have qm:=fun o=>hex.kept (AA w o (some b))
 have dN:C2 128 w.heap.size (.string ⟨#[]⟩) (.slice none 0 0) (w.alloc (.cells #[.string ⟨#[]⟩,.slice none 0 0] 128)):=AR _ _;have hlt:=hp.lt;have hnl:=Dh 8 s.data.toList i (by simpa using hi);rw[Ae] at hnl;have eZ:=Ap _ _ 58 (by decide) h2;rw[Ae] at eZ;go_enter Tryz.func90,Tryz.ntmps90
 go_wp2_with (go_at_call 125;refine(Rp b s i v _ hi hs h (b9 _)).mono ?_;rintro e w1⟨rfl,hb1,hg1⟩)
 refine(Im b s _ v 58 _ rfl w1 hnl.2.1 hs h2 hb1).mono ?_;rintro e w2⟨rfl,hb2,hg2⟩;have bB:=dN.kept hg1 (by simp;omega);have bq:=bB.kept hg2 (by simp;omega);have bS:=Ab (Ab (AA w _ (some b)) hg1) hg2;have eY:=St.step hb2 ((qm _).kept hg1) ((mQ _).kept hg1) hg2;have cR:=Aa HR;clear HR;generalize Ct s.data.toList i (Ao 8 s.data.toList i)=nm at *;have HR:=Ac cR;clear hb1 hg1 hb2 hg2 bB dN b9 mQ qm hp hex hG cR;go_wp2_with fail;refine(Q2d b s _ _ tT aT tL aL w2 eZ hs eY).mono ?_;intro e w3 aN;cases hr:Bl s.data.toList (Ag s.data.toList (Ao 8 s.data.toList i)+1) with
 | inl m=>
  have gA:=Aa HR;rw[hr] at aN gA;subst gA;obtain⟨y,rfl,ff,rfl,hf,hF,hg3⟩:=aN;have fD:=bq.kept hg3 (by simp;omega);obtain⟨d0,d1⟩:=fD.c;have z0:=fD.fz 0;have z1:=fD.fz 1;have iW:=Mw hf hF hg3 bS bq.lt (AW _) (.string ⟨#[]⟩) (.slice none 0 0);clear hf hF hg3 hr eY;go_wp2;obtain⟨q0,q1⟩:=(fD.set2 (.string ⟨#[]⟩) (.slice none 0 0)).c;exact BN (v:=.tuple #[.agg #[.string ⟨#[]⟩,.slice none 0 0],.iface 112 (.pointer (some ⟨ff,0,none⟩))]) (by simp[results,Tryz.results90,go_sem,q0,q1]) rfl ⟨_,rfl,iW⟩
 | inr q=>
  obtain⟨cs,m⟩:=q;have gA:=Aa HR;rw[hr] at aN gA;subst gA;obtain⟨u,rfl,hcs,fj,hg3⟩:=aN;obtain⟨ao,cap,rfl⟩:=hcs.slice;have fD:=bq.kept hg3 (by simp;omega);obtain⟨d0,d1⟩:=fD.c;have z0:=fD.fz 0;have z1:=fD.fz 1;have ax:=Ab bS hg3;clear hr eY hg3;go_wp2;obtain⟨q0,q1⟩:=(fD.set2 (.string ⟨nm.toArray⟩) (.slice ao cs.length cap)).c;have k3:=Du w3 w.heap.size (.string ⟨nm.toArray⟩) (.slice ao cs.length cap);refine BN (v:=.tuple #[.agg #[.string ⟨nm.toArray⟩,.slice ao cs.length cap],.nilIface]) (by simp[results,Tryz.results90,go_sem,q0,q1]) rfl ⟨.slice ao cs.length cap,rfl,?_,?_,?_⟩
  ·obtain⟨xs,h1,h3⟩:=hcs.row k3 (RowOk.one2 fD (AW _)) (by decide) (by decide)
   have hle:w.heap.size<=w2.heap.size:=by have:=bS.size;omega
   exact⟨xs,Cm h1 hle,CsCells.weak hle _ xs h3⟩
  ·exact fj.row k3 (RowOk.one2 fD (AW _)) (by decide) (by decide) pC pD
  ·exact A8 ax k3 (AW _)
theorem Q3b(b:Nat)(s:ByteArray)(i:Nat)(f:Bool)(tT:TypeId)(aT:Addr)(tL:TypeId)(aL:Addr)(w:World)(hi:i<=s.size)(hs:s.size<=400)
 (hb:St b s i f (.iface tT (.pointer (some aT))) (.iface tL (.pointer (some aL))) w) :
  Calls Tryz.prog 90 #[.pointer (some ⟨b,0,none⟩)] w fun e w'=>Sr b s f (.iface tT (.pointer (some aT))) (.iface tL (.pointer (some aL))) w (A1 s.data.toList i) e w':=by
 by_cases h:Ao 8 s.data.toList i=i
 ·have e:A1 s.data.toList i=.inl i:=by unfold A1;simp only;rw[AQ h]
  rw[e];exact Ys b s i f tT aT tL aL w hi hs hb h
 ·cases h2:Ai s.data.toList (Ag s.data.toList (Ao 8 s.data.toList i))==58
  ·have e:A1 s.data.toList i=.inl (Ag s.data.toList (Ao 8 s.data.toList i)):=by unfold A1;simp only;rw[AO h,h2];rfl
   rw[e];exact Q0q b s i f tT aT tL aL w hi hs hb h h2
  ·refine Yu b s i f tT aT tL aL w hi hs hb h h2 _ ?_
   unfold A1;simp only;rw[AO h,h2,AQ rfl];cases Bl s.data.toList (Ag s.data.toList (Ao 8 s.data.toList i)+1)<;>rfl
def RsCells(B:Nat)(w:World):List Sv.Rule->List Value->Prop
 | [],xs=>xs=[]
 | q::rs,xs=>∃u ys,xs=.string ⟨q.name.toArray⟩::u::ys/\CsAt B u q.conds w/\RsCells B w rs ys
theorem RsCells.row{B:Nat}{w w':World}{base':Nat}{e':TypeId}{row:Option Nat}(hg:w.grownBy w' row)(hr:RowOk base' e' row w)(hne:e'≠258)(dW:e'≠200):∀(rs:List Sv.Rule) (xs:List Value),RsCells B w rs xs->RsCells B w' rs xs
 | [],_,h=>h
 | _::rs,_,⟨u,ys,h1,h2,h3⟩=>⟨u,ys,h1,h2.row hg hr hne dW,RsCells.row hg hr hne dW rs ys h3⟩
theorem RsCells.snoc{B:Nat}{w:World}(q:Sv.Rule)(u:Value)(hu:CsAt B u q.conds w):∀(rs:List Sv.Rule) (xs:List Value),RsCells B w rs xs->RsCells B w (rs++[q]) (xs++[.string ⟨q.name.toArray⟩,u])
 | [],xs,h=>⟨u,[],by rw[show xs=[] from h];rfl,hu,rfl⟩
 | _::rs,_,⟨v,ys,h1,h2,h3⟩=>⟨v,ys++[.string ⟨q.name.toArray⟩,u],by rw[h1];rfl,h2,RsCells.snoc q u hu rs ys h3⟩
def RsAt(base:Nat)(v:Value)(rs:List Sv.Rule)(w:World):Prop:=∃xs,w.ownsRow base 128 2 v rs.length xs/\RsCells base w rs xs
theorem RsAt.slice{base:Nat}{u:Value}{rs:List Sv.Rule}{w:World}(h:RsAt base u rs w):∃ao cap,u=.slice ao rs.length cap:=by
 obtain⟨xs,h,_⟩:=h;rcases h.2 with ⟨h1,h2⟩|⟨g,cap,cur,h1,_⟩
 ·exact⟨none,0,by rw[h2];exact h1⟩
 ·exact⟨_,_,h1⟩
theorem RsAt.row{w w':World}{base base':Nat}{e':TypeId}{v:Value}{rs:List Sv.Rule}{row:Option Nat}(h:RsAt base v rs w)(hg:w.grownBy w' row)(hr:RowOk base' e' row w)(hne:e'≠258)(dW:e'≠200)(wP:e'≠128):RsAt base v rs w':=by
 obtain⟨xs,h1,h2⟩:=h;exact⟨xs,Dy h1 hg hr wP,RsCells.row hg hr hne dW rs xs h2⟩
theorem CsAt.weaker{base:Nat}{cs:List Sv.Cond}(h:CsAt base v cs w)(hb:base'<=base):CsAt base' v cs w:=by
 obtain⟨xs,h1,h2⟩:=h;exact⟨xs,Cm h1 hb,CsCells.weak hb cs xs h2⟩
theorem RsCells.weak{B B':Nat}{w:World}(hB:B'<=B):∀(rs:List Sv.Rule) (xs:List Value),RsCells B w rs xs->RsCells B' w rs xs
 | [],_,h=>h
 | _::rs,_,⟨u,ys,h1,h2,h3⟩=>⟨u,ys,h1,h2.weaker hB,RsCells.weak hB rs ys h3⟩
theorem RsAt.weak{base base':Nat}{v:Value}{rs:List Sv.Rule}{w:World}(h:RsAt base v rs w)(hb:base'<=base):RsAt base' v rs w:=by
 obtain⟨xs,h1,h2⟩:=h;exact⟨xs,Cm h1 hb,RsCells.weak hb rs xs h2⟩
theorem Ty(f:Bool)(rs:List Sv.Rule)(q:Sv.Rule):(f||Ec (rs++[q]))=(f||Ec rs||decide (8<=rs.length)||Eu q):=by
 unfold Ec;rw[AK,BC,ES];have h:=Kq f 8 rs.length;have h2:[q].any Eu=Eu q:=by simp
 rw[h2,<-JJ,h];cases f<;>cases decide (8<rs.length)<;>cases decide (8<=rs.length)<;>cases rs.any Eu<;>cases Eu q<;>rfl
theorem Di(n:Nat)(l:List UInt8)(acc:List Sv.Rule)(i:Nat):Gh (n+1) l acc i=
  if i<l.length then
   match A1 l i with
   | .inl k=>.inl k
   | .inr (q,j)=>Gh n l (acc++[q]) (Ag l j)
  else .inr acc:=rfl
theorem Tryz.infoRule:(Tryz.prog.info? 128).map (fun i=>(i.zero,i.size,i.bytes))=some (some (.agg #[.string ⟨#[]⟩,.slice none 0 0]),2,40):=by kernel_rfl
def Wl(b:Nat)(s:ByteArray)(f:Bool)(eT eL:Value)(w:World)(r:Nat ⊕ (List Sv.Rule))(e:Ending)(w':World):Prop:=
 match r with
 | .inl k=>∃y,e=.returned (.tuple #[.slice none 0 0,y])/\Bad b k eT w y w'
 | .inr rs=>∃u j,e=.returned (.tuple #[u,.nilIface])/\RsAt w.heap.size u rs w'/\St b s j (f||Ec rs) eT eL w'/\w.grownBy w' (some b)
def Q4p(b:Nat)(s:ByteArray)(f:Bool)(eT eL:Value)(w:World)(r:Nat ⊕ (List Sv.Rule))(u:Value)(w':World):Prop:=
 ∃(k n:Nat) (rs:List Sv.Rule),s.size<k+n/\k<=s.size/\rs.length<=k/\RsAt w.heap.size u rs w'/\St b s k (f||Ec rs) eT eL w'/\w.grownBy w' (some b)/\Gh n s.data.toList rs k=r
theorem Q1w(b:Nat)(s:ByteArray)(f:Bool)(tT:TypeId)(aT:Addr)(tL:TypeId)(aL:Addr)(w:World)(hs:s.size<=400)
 (hb:St b s 0 f (.iface tT (.pointer (some aT))) (.iface tL (.pointer (some aL))) w) :
  Calls Tryz.prog 63 #[.pointer (some ⟨b,0,none⟩)] w fun e w'=>Wl b s f (.iface tT (.pointer (some aT))) (.iface tL (.pointer (some aL))) w (Bn s.data.toList) e w':=by
 obtain⟨i0,aq,hz0,hz1,hz2⟩:=info_parts Tryz.infoRule;obtain⟨pC,pD,ei⟩:=hb.base;generalize hr:Bn s.data.toList=r;unfold Bn at hr;have HR:=Ac hr;clear hr;obtain⟨v,hp,hex,hG⟩:=hb;have hle:=A7 s.data.toList 0 (by simp);rw[Ae] at hle;go_enter Tryz.func63,Tryz.ntmps63
 go_wp2_with (go_at_call 88;refine(L8 b s 0 v _ (AG _) hs hp).mono ?_;rintro e w1⟨rfl,hb1,hg1⟩)
 go_loopw [4] (fun u w'=>Q4p b s f (.iface tT (.pointer (some aT))) (.iface tL (.pointer (some aL))) w r u w') (fun _ w'=>s.size-El b w')
 case atStart=>
  exact⟨Ag s.data.toList 0,s.data.toList.length+1,[],by simp;omega,hle.2,AG _,⟨[],EJ _ _ _ _,rfl⟩,by simpa[Ec] using St.step hb1 hex hG hg1,hg1,Aa HR⟩
 case round=>
  clear hb1 hg1 hp hex hG HR hle;obtain⟨k,m,acc,iA,hk,aY,bg,hst,hg,bQ⟩:=hrel;obtain⟨m,rfl⟩:∃m',m=m'+1:=⟨m-1,by omega⟩
  rw[Di,Ae] at bQ;have HA:=Ac hst.at;obtain⟨br,aC,rfl⟩:=bg.slice;obtain⟨vx,aD,hex,hG⟩:=hst;have c0:=aD.c0;have c1:=aD.c1;by_cases hlt:k<s.size
  ·rw[AQ hlt] at bQ
   have HN:=Ac bQ;clear bQ;have hd:decide ((k:Int)<(s.size:Int))=true:=by simp;omega
   have aK:=Ih s.data.toList k (by simpa using hk);go_wp2_with fail;go_quiet (fail);go_wp2_with fail;refine(Vq b s _ _ tT aT tL aL _ acc.length 8 _ _ rfl rfl ⟨vx,aD.drewN _,hex.kept (Ad wr _ _),hG.drewN _⟩).mono ?_;rintro e w3⟨rfl,fj,hg3⟩;have je:=bg.row (Jd hg3) aD.rowOk (by decide) (by decide) (by decide);have ax:=Ab hg (Jd hg3);clear bg aD hex hG hg3 hg c0 c1;go_wp2_with fail;refine(Q3b b s k _ tT aT tL aL w3 hk hs fj).mono ?_;intro e w5 hp;have ja:=Aa HN;clear HN;cases hc:A1 s.data.toList k with
   | inl q=>
    rw[hc] at hp ja;obtain⟨y,rfl,ff,rfl,hf,hF,aZ⟩:=hp;simp only at ja;subst ja;have hf':w.heap.size<=ff:=AU ax.size hf;have bW:=Ab ax aZ;clear fj je aK hc;go_wp2
    go_ret2
    exact⟨_,rfl,ff,rfl,hf',hF.kept (AA w5 _ none) (by simp),Ab bW (AA w5 _ _)⟩
   | inr q=>
    obtain⟨ru,j2⟩:=q;rw[hc] at hp ja aK;obtain⟨u5,rfl,jr,kY,aZ⟩:=hp;obtain⟨iC,aI,rfl⟩:=jr.slice;obtain⟨gW,b8⟩:=aK;rw[Ae] at b8;have HN:=Ac ja;clear ja hc;have wK:=je.row aZ fj.rowOk (by decide) (by decide) (by decide);have bW:=Ab ax aZ;have wE:=ax.size;clear fj je aZ ax;obtain⟨xs,cY,cx⟩:=wK;have a7:=AA w5 (.cells #[.string ⟨ru.name.toArray⟩,.slice iC ru.conds.length aI] 128) none;have aO:=Ab a7 (AA (w5.alloc (.cells #[.string ⟨ru.name.toArray⟩,.slice iC ru.conds.length aI] 128)) (.cells #[.string ⟨ru.name.toArray⟩,.slice iC ru.conds.length aI] 128) none);have hrow:=RowOk.of ((cY.alloc (.cells #[.string ⟨ru.name.toArray⟩,.slice iC ru.conds.length aI] 128)).alloc (.cells #[.string ⟨ru.name.toArray⟩,.slice iC ru.conds.length aI] 128));have pz:=kY.row aO (RowOk.none w.heap.size 128 w5) (by decide) (by decide) pC pD;have cu:=RsCells.row aO (RowOk.none 0 0 w5) (by decide) (by decide) acc xs cx;have lI:=(CsAt.row jr aO (RowOk.none 0 0 w5) (by decide) (by decide)).weaker (base':=w.heap.size) (by first|exact wE|omega);have ee:=Ab bW (A3 aO (some b));have zK:=bW.size;clear a7 aO cx jr kY
    go_wp2_with (at_builtin;refine CW _ rfl _ _ 77 rfl w.heap.size 128 i0 (.agg #[.string ⟨#[]⟩,.slice none 0 0]) 2 40 Tryz.underlying77 aq hz0 hz1 hz2 rfl (by decide) _ acc.length xs rfl ((cY.alloc _).alloc _) ⟨w5.heap.size+1,0,none⟩ 1 1 [.string ⟨ru.name.toArray⟩,.slice iC ru.conds.length aI] rfl rfl ?c1 ?c2 ?c3 ?c4 ?c5 ?_)
    case c1=>
     intro jj u hu
     match jj,hu with
     | 0,hu=>simp at hu;subst hu;simp[Addr.add]
     | 1,hu=>simp at hu;subst hu;simp[Addr.add]
     | n+2,hu=>simp at hu
    case c2=>
     intro u hu;simp at hu;rcases hu with rfl|rfl<;>rfl
    case c3=>unfold maxLen;omega
    case c4=>omega
    case c5=>simp;omega
    intro v' w7 hown hgrow _;have og:=pz.row hgrow hrow (by decide) (by decide) pC pD;have qh:=Ez ee hgrow hrow;have cq:=RsCells.row hgrow hrow (by decide) (by decide) acc xs cu;have sk:=CsAt.row lI hgrow hrow (by decide) (by decide);have wJ:RsAt w.heap.size v' (acc++[ru]) w7:=⟨_,by rw[AK];exact hown,RsCells.snoc ru _ sk acc xs cq⟩
    rw[<-Ty f acc ru] at og;clear hown hgrow pz ee cY hrow cu cq lI sk;have hle:=A7 s.data.toList j2 (by simpa using b8);rw[Ae] at hle;obtain⟨vz,sF,UY,jX⟩:=og;obtain⟨aoz,capz,rfl⟩:=wJ.slice
    go_wp2_with (go_at_call 88;refine(L8 b s j2 vz _ b8 hs sF).mono ?_;rintro e w8⟨rfl,oG,fL⟩)
    rw[AK,BC] at wJ;refine⟨⟨Ag s.data.toList j2,m,acc++[ru],by omega,hle.2,by simp;omega,wJ.row fL sF.rowOk (by decide) (by decide) (by decide),St.step oG UY jX fL,Ab qh fL,Aa HN⟩,?_⟩;rw[oG.at,Aa HA];omega
  ·rw[AO hlt] at bQ
   subst bQ;have hd:decide ((k:Int)<(s.size:Int))=false:=by simp;omega
   go_wp2_with fail;go_quiet (fail);go_wp2
   go_ret2
   exact⟨_,k,rfl,bg.row (Ad wr _ none) (RowOk.none 0 0 wr) (by decide) (by decide) (by decide),⟨vx,aD.drewN _,hex.kept (Ad wr _ _),hG.drewN _⟩,Ab hg (Ad _ _ _)⟩
def F7(eT eL:Value)(w:World)(s:ByteArray)(e:Ending)(w':World):Prop:=
 w.grownBy w' none/\
 if 400<s.size then ∃g i,e=.returned (.tuple #[.slice none 0 0,.iface 112 (.pointer (some ⟨g,0,none⟩))])/\FAt g i eL w'
 else match Bn s.data.toList with
  | .inl k=>∃g,e=.returned (.tuple #[.slice none 0 0,.iface 112 (.pointer (some ⟨g,0,none⟩))])/\FAt g k eT w'
  | .inr rs=>
   if Ec rs=true then ∃g i,e=.returned (.tuple #[.slice none 0 0,.iface 112 (.pointer (some ⟨g,0,none⟩))])/\FAt g i eL w'
   else ∃u,e=.returned (.tuple #[u,.nilIface])/\RsAt w.heap.size u rs w'
theorem S0(s:ByteArray)(w:World)(tT:TypeId)(aT:Addr)(tL:TypeId)(aL:Addr)(hL:w.cell? ⟨0,0,none⟩=some (.iface tL (.pointer (some aL))))(hm:s.size<=maxLen)(hs:400<s.size) :
  Calls Tryz.prog 35 #[.string s] w fun e w'=>F7 (.iface tT (.pointer (some aT))) (.iface tL (.pointer (some aL))) w s e w':=by
 unfold maxLen at hm;have hd:decide ((400:Int)<(s.size:Int))=true:=by simp;omega
 go_enter Tryz.func35,Tryz.ntmps35;go_wp2
 go_region
 all_goals
  go_wp2
  go_ret2
  refine⟨Ah (AA w _ none),?_⟩;rw[AQ hs];exact⟨w.heap.size,400,rfl,AR _ _⟩
theorem Pw(s:ByteArray)(w:World)(tT:TypeId)(aT:Addr)(tL:TypeId)(aL:Addr)(hT:w.cell? ⟨2,0,none⟩=some (.iface tT (.pointer (some aT))))(hL:w.cell? ⟨0,0,none⟩=some (.iface tL (.pointer (some aL))))(hs:¬ 400<s.size) :
  Calls Tryz.prog 35 #[.string s] w fun e w'=>F7 (.iface tT (.pointer (some aT))) (.iface tL (.pointer (some aL))) w s e w':=by
 have hd:decide ((400:Int)<(s.size:Int))=false:=by simp;omega
 have hs':s.size<=400:=by omega
 have lT:2<w.heap.size:=CE w _ hT;have lL:0<w.heap.size:=CE w _ hL;have hP0:PAt w.heap.size s 0 (.pointer none) (w.alloc (.cells #[.string s,.int .i64 0,.pointer none] 117)):=AR _ _
 have fq:St w.heap.size s 0 false (.iface tT (.pointer (some aT))) (.iface tL (.pointer (some aL))) (w.alloc (.cells #[.string s,.int .i64 0,.pointer none] 117)):=
  ⟨.pointer none,hP0,.inl ⟨rfl,rfl⟩,by omega,by omega,(Iu w _ _ _ lT).trans hT,(Iu w _ _ _ lL).trans hL⟩
 have a7:=AA w (.cells #[.string s,.int .i64 0,.pointer none] 117) none;have HS:=Ac hs;clear hs;go_enter Tryz.func35,Tryz.ntmps35;go_wp2_with fail;refine(Q1w _ s false tT aT tL aL _ hs' fq).mono ?_;intro e w1 hp;cases hr:Bn s.data.toList with
 | inl k=>
  rw[hr] at hp;obtain⟨y,rfl,ff,rfl,hf,hF,hg⟩:=hp;have hg1:=A8 a7 hg (AW _);have HR:=Ac hr;clear hr;go_wp2
  go_ret2
  refine⟨hg1,?_⟩;rw[AO (Aa HS),Aa HR];exact⟨ff,rfl,hF⟩
 | inr rs=>
  rw[hr] at hp;obtain⟨u,j,rfl,bg,⟨vx,aD,hex,hG⟩,hg⟩:=hp;have hg1:=A8 a7 hg (AW _);obtain⟨ao,cap,rfl⟩:=bg.slice;have HR:=Ac hr;clear hr;have c2:=aD.c2;rw[EN] at hex;rcases hex with ⟨ql,rfl⟩|⟨ql,gg,ii,rfl,hne,hF⟩
  ·have HE:=Ac ql
   clear ql;go_wp2
   go_ret2
   refine⟨hg1,?_⟩;rw[AO (Aa HS),Aa HR];simp only;rw[Aa HE,AO (by simp)];exact⟨_,rfl,bg.weak (by simp)⟩
  ·have HE:=Ac ql
   clear ql;go_wp2;go_quiet (fail);go_wp2
   go_ret2
   refine⟨Ab hg1 (Ad _ _ _),?_⟩;rw[AO (Aa HS),Aa HR];simp only;rw[Aa HE,AQ rfl];exact⟨gg,ii,rfl,hF⟩
theorem M4(s:ByteArray)(w:World)(tT:TypeId)(aT:Addr)(tL:TypeId)(aL:Addr)(hT:w.cell? ⟨2,0,none⟩=some (.iface tT (.pointer (some aT))))(hL:w.cell? ⟨0,0,none⟩=some (.iface tL (.pointer (some aL))))(hm:s.size<=maxLen) :
  Calls Tryz.prog 35 #[.string s] w fun e w'=>F7 (.iface tT (.pointer (some aT))) (.iface tL (.pointer (some aL))) w s e w':=by
 by_cases hs:400<s.size
 ·exact S0 s w tT aT tL aL hL hm hs
 ·exact Pw s w tT aT tL aL hT hL hs
end Go.Proofs.YtolhbeekfjnfmaaGreatDoor

import Derived.Test.YtolhbeekfjnfmaaGreatDoorM01
import Derived.Test.YtolhbeekfjnfmaaGreatDoorM02
set_option maxHeartbeats 8000000
set_option maxRecDepth 100000
namespace Go.Proofs.YtolhbeekfjnfmaaGreatDoor
open Go.RowKit
abbrev BO:=@bodyPost_ret
abbrev CD:=@World.block_lt_of_cell?
abbrev DG:=@wpList_append_own
abbrev EJ:=@World.ownsRow_nil
abbrev EP:=@World.size_alloc
abbrev IM:=@World.ownsRow_lit
variable {w w' W W0:World}{N b n j size i f k base':Nat}{x y z a v eT:Value}{s:ByteArray}{e T:TypeId}{xs:List Value}{ts:List Sv.Term}{p:Prop}
theorem Rc(b:Nat)(s:ByteArray)(i:Nat)(v:Value)(w:World)(hi:i<=s.size)(_hs:s.size<=400)(hb:PAt b s i v w) :
  Calls Tryz.prog 209 #[.pointer (some ⟨b,0,none⟩)] w fun e w'=>e=.returned (.bool (Bf s.data.toList i))/\∃n,w'=w.drewN n:=by
 have c0:=hb.c0;have c1:=hb.c1;by_cases h:0<i
 ·have hd:decide ((0:Int)<(i:Int))=true:=by simp;omega
  have hlt:i-1<s.size:=by omega
  obtain⟨j,rfl⟩:∃j,i=j+1:=⟨i-1,by omega⟩
  have hj:j<s.size:=by omega
  have e:Bf s.data.toList (j+1)=As s[j]:=by simp[Bf,Xh s j hj]
  rw[e];clear e;go_enter Tryz.func209,Tryz.ntmps209;go_wp2;go_quiet ((go_at_call 198;exact Calls.quiet_of_same (Cd _ _)));go_wp2;go_ret;exact⟨rfl,_,rfl⟩
 ·have hd:decide ((0:Int)<(i:Int))=false:=by simp;omega
  have e:Bf s.data.toList i=false:=by simp[Bf,h]
  rw[e];clear e;go_enter Tryz.func209,Tryz.ntmps209;go_wp2;go_quiet (fail);go_wp2;go_ret;exact⟨rfl,_,rfl⟩
theorem Ml(c:UInt8)(h:As c=true):48<=(c.toNat:Int)/\(c.toNat:Int)<=57:=by
 have:=Cm c h;omega
theorem Zp(b:Nat)(s:ByteArray)(i:Nat)(v:Value)(w:World)(hi:i<=s.size)(hs:s.size<=400)(h:As (Ai s.data.toList (Ag s.data.toList i))=true)(hb:PAt b s i v w) :
  Calls Tryz.prog 180 #[.pointer (some ⟨b,0,none⟩)] w fun e w'=>e=.returned (.tuple #[.int .i64 ((Ai s.data.toList (Ag s.data.toList i)).toNat-48),.nilIface])/\PAt b s (Ag s.data.toList i+1) v w'/\w.grownBy w' (some b):=by
 have hle:=Be s.data.toList i (by simpa using hi);rw[Ae] at hle;obtain⟨lu,ai⟩:=hle;have hr:=Ml _ h;obtain⟨hr1,hr2⟩:=hr;go_enter Tryz.func180,Tryz.ntmps180
 go_wp2_with (go_at_call 88;refine(Mf b s i v _ hi hs hb).mono ?_;rintro e w1⟨rfl,hb1,hg1⟩)
 refine(Ce b s _ v _ ai hs hb1).mono ?_;rintro e w2⟨rfl,n,rfl⟩;have c1:=hb1.c1;have f1:=hb1.fz 1
 go_wp2_with (go_at_call 198;refine(Cd _ _).mono ?_;rintro e w3⟨rfl,rfl⟩)
 go_ret2
 exact⟨rfl,PAt.set1 hb1 _,Ab hg1 (Ab (Aj w1 b 1 _) (Af _ _ _))⟩
theorem Q14(b:Nat)(s:ByteArray)(i:Nat)(v:Value)(w:World)(tT:TypeId)(aT:Addr)(eL:Value)(hi:i<=s.size)(hs:s.size<=400)(h:As (Ai s.data.toList (Ag s.data.toList i))=false)(hb:PAt b s i v w)(hG:GOk b (.iface tT (.pointer (some aT))) eL w) :
  Calls Tryz.prog 180 #[.pointer (some ⟨b,0,none⟩)] w fun e w'=>∃y,e=.returned (.tuple #[.int .i64 0,y])/\Bad b (Ag s.data.toList i) (.iface tT (.pointer (some aT))) w y w':=by
 have hle:=Be s.data.toList i (by simpa using hi);rw[Ae] at hle;obtain⟨lu,ai⟩:=hle;go_enter Tryz.func180,Tryz.ntmps180
 go_wp2_with (go_at_call 88;refine(Mf b s i v _ hi hs hb).mono ?_;rintro e w1⟨rfl,hb1,hg1⟩)
 refine(Ce b s _ v _ ai hs hb1).mono ?_;rintro e w2⟨rfl,n,rfl⟩;have cT:=(hG.kept hg1).cT
 go_wp2_with (go_at_call 198;refine(Cd _ _).mono ?_;rintro e w3⟨rfl,rfl⟩)
 refine(Hd b s _ v _ tT aT (hb1.drewN n) cT).mono ?_;rintro e w4⟨f,rfl,hf,hF,hg2⟩;have hg:=Ab hg1 (Ab (Af w1 n _) (A6 hg2 (some b)));have hf':w.heap.size<=f:=AU hg1.size hf;go_wp2
 go_ret2
 exact⟨_,rfl,f,rfl,hf',hF,hg⟩
theorem Rv(h:Below w.heap.size w w')(row:Option Nat):w.grownBy w' row:=⟨h.os,h.tape,h.output,h.size,fun k hk _=>h.block k hk⟩
theorem Vm(s:ByteArray)(w:World)(hs:s.size<=400) :
  Calls Tryz.prog 155 #[.string s] w fun e w'=>e=.returned (.string s)/\w.grownBy w' none:=by
 go_enter Tryz.func155,Tryz.ntmps155
 go_wp2_with (go_at_call 179;refine(Tryz.stringslite_Clone s _ (by omega)).mono ?_;rintro e w1⟨rfl,hb1⟩)
 go_ret;exact⟨rfl,Rv hb1 _⟩
theorem Ek(n:Nat)(l:List UInt8)(i:Nat):Aq (n+1) l i=if B9 (Ai l i)=true then Aq n l (i+1) else i:=rfl
theorem Ke(l:List UInt8)(i:Nat)(h:Aq 8 l i=i):B9 (Ai l i)=false:=by
 cases hc:B9 (Ai l i)
 ·rfl
 ·exfalso
  rw[show (8:Nat)=7+1 from rfl,Ek,AQ hc] at h;have:=(Dc 7 l (i+1) (Dw l i hc)).1;omega
theorem Q19(b:Nat)(s:ByteArray)(i:Nat)(v:Value)(w:World)(tT:TypeId)(aT:Addr)(eL:Value)(hi:i<=s.size)(hs:s.size<=400)(h:Aq 8 s.data.toList i=i)(hb:PAt b s i v w)(hG:GOk b (.iface tT (.pointer (some aT))) eL w) :
  Calls Tryz.prog 125 #[.pointer (some ⟨b,0,none⟩)] w fun e w'=>∃y,e=.returned (.tuple #[.string ⟨#[]⟩,y])/\Bad b i (.iface tT (.pointer (some aT))) w y w':=by
 have hl:=Ke _ _ h;clear h;have c1:=hb.c1;have cT:=hG.cT;have e1:((i:Int)==(i:Int))=true:=by simp
 go_enter Tryz.func125,Tryz.ntmps125;go_wp2;go_loopw [] (fun w'=>w'=w) (fun _=>0)
 case atStart=>rfl
 case round=>
  subst hrel
  go_wp2_with (first|(go_at_call 124;refine(Ce b s i v _ hi hs hb).mono ?_;rintro e w1⟨rfl,n,rfl⟩)|(go_at_call 153;refine(C6 _ _).mono ?_;rintro e w3⟨rfl,rfl⟩))
  refine(Hd b s _ v _ tT aT (hb.drewN n) cT).mono ?_;rintro e w4⟨f,rfl,hf,hF,hg2⟩;have hg:=Ab (Af wr n _) (A6 hg2 (some b));go_wp2
  go_ret2
  exact⟨_,rfl,f,rfl,hf,hF,hg⟩
def Do(l:List UInt8)(i j:Nat):List UInt8:=(l.take j).drop i
theorem Ky(s:ByteArray)(i j:Nat):s.extract i j=⟨(Do s.data.toList i j).toArray⟩:=by
 apply ByteArray.ext
 rw[ByteArray.data_extract];apply Array.ext'
 simp[Do,Array.toList_extract,List.drop_take]
theorem R8(b:Nat)(s:ByteArray)(i:Nat)(v:Value)(w:World)(hi:i<=s.size)(hs:s.size<=400)(h:Aq 8 s.data.toList i≠i)(hb:PAt b s i v w) :
  Calls Tryz.prog 125 #[.pointer (some ⟨b,0,none⟩)] w fun e w'=>e=.returned (.tuple #[.string ⟨(Do s.data.toList i (Aq 8 s.data.toList i)).toArray⟩,.nilIface])/\PAt b s (Aq 8 s.data.toList i) v w'/\w.grownBy w' (some b):=by
 have hnl:=Dc 8 s.data.toList i (by simpa using hi);rw[Ae] at hnl;obtain⟨dF,fT,SY⟩:=hnl;obtain⟨j,hj⟩:∃j,Aq 8 s.data.toList i=j:=⟨_,rfl⟩
 rw[hj] at h dF fT SY⊢;have HJ:Hid (Aq 8 s.data.toList i=j):=hj;clear hj;have c1:=hb.c1;go_enter Tryz.func125,Tryz.ntmps125;go_wp2;go_loopw [] (fun w'=>∃k m:Nat,k+m=i+8/\k<=s.size/\i<=k/\PAt b s k v w'/\w.grownBy w' (some b)/\Aq m s.data.toList k=j) (fun w'=>s.size-Eh b w')
 case atStart=>exact⟨i,8,rfl,hi,AW _,hb,AD _ _,HJ.out⟩
 case round=>
  obtain⟨k,m,gI,hk,hik,aH,hg,bJ⟩:=hrel;have HN:Hid (Aq m s.data.toList k=j):=bJ;have HK:Hid (k+m=i+8):=gI;have HA:Hid (Eh b wr=k):=aH.at;clear bJ gI c1;have c1:=aH.c1;have f1:=aH.fz 1;cases hl:B9 (Ai s.data.toList k)
  ·obtain rfl:k=j:=by
    have:=HN.out;cases m with
    | zero=>exact this
    | succ m=>rw[Ek,hl] at this;exact this
   have e1:((k:Int)==(i:Int))=false:=by simp;omega
   go_wp2_with (first|(go_at_call 124;refine(Ce b s k v _ hk hs aH).mono ?_;rintro e w1⟨rfl,n,rfl⟩)|(go_at_call 153;refine(C6 _ _).mono ?_;rintro e w3⟨rfl,rfl⟩))
   have c0:=aH.c0;have TJ:(i:Int)<=(k:Int):=by omega
   have TF:(k:Int)<=(s.size:Int):=by omega
   have hcl:(s.extract i k).size<=400:=by rw[KQ];omega
   go_region_with (go_at_call 155;refine(Vm _ _ hcl).mono ?_;rintro e w1⟨rfl,hg1⟩)
   all_goals
    go_wp2
    go_ret2
    exact⟨by rw[<-Ky];rfl,(aH.drewN _).kept hg1 (by simp),Ab hg (Ab (Af wr _ _) (A6 hg1 _))⟩
  ·have dM:=Dw _ _ hl
   rw[Ae] at dM;cases m with
   | zero=>
    obtain rfl:k=j:=HN.out;have zR:k=i+8:=HK.out;have e1:((k:Int)==(i:Int))=false:=by simp;omega
    have e2:decide ((k:Int)<(i:Int)+8)=false:=by simp;omega
    have HK8:Hid (k=i+8):=zR;clear zR
    go_wp2_with (first|(go_at_call 124;refine(Ce b s k v _ hk hs aH).mono ?_;rintro e w1⟨rfl,n,rfl⟩)|(go_at_call 153;refine(C6 _ _).mono ?_;rintro e w3⟨rfl,rfl⟩))
    have c0:=aH.c0;have TJ:(i:Int)<=(k:Int):=by omega
    have TF:(k:Int)<=(s.size:Int):=by omega
    have hcl:(s.extract i k).size<=400:=by rw[KQ];omega
    go_region_with (go_at_call 155;refine(Vm _ _ hcl).mono ?_;rintro e w1⟨rfl,hg1⟩)
    all_goals
     go_wp2
     go_ret2
     exact⟨by rw[<-Ky];rfl,(aH.drewN _).kept hg1 (by simp),Ab hg (Ab (Af wr _ _) (A6 hg1 _))⟩
   | succ m=>
    have zR:k<i+8:=by have:=HK.out;omega
    have e2:decide ((k:Int)<(i:Int)+8)=true:=by simp;omega
    go_wp2_with (first|(go_at_call 124;refine(Ce b s k v _ hk hs aH).mono ?_;rintro e w1⟨rfl,n,rfl⟩)|(go_at_call 153;refine(C6 _ _).mono ?_;rintro e w3⟨rfl,rfl⟩))
    go_roundw
    case rel=>exact⟨k+1,m,by have:=HK.out;omega,by omega,by omega,(PAt.set1 aH (k+1)),Ab hg (Ab (Aj wr b 1 _) (Af _ _ _)),by have:=HN.out;rw[Ek,hl] at this;exact this⟩
    case measure=>
     have h2:Eh b ((wr.setCell ⟨b,1,none⟩ (.int .i64 ((k+1:Nat):Int))))=k+1:=(PAt.set1 aH (k+1)).at;show s.size-Eh b ((wr.setCell ⟨b,1,none⟩ (.int .i64 ((k+1:Nat):Int))))<s.size-Eh b wr
     rw[h2,HA.out];omega
theorem Cf(n:Nat)(l:List UInt8)(v i:Nat):A3 (n+1) l v i=if As (Ai l i)=true then A3 n l (v*10+((Ai l i).toNat-48)) (i+1) else (v,i):=rfl
theorem Fi(l:List UInt8)(i:Nat)(h:(A3 9 l 0 i).2=i):As (Ai l i)=false:=by
 cases hc:As (Ai l i)
 ·rfl
 ·exfalso
  rw[show (9:Nat)=8+1 from rfl,Cf,AQ hc] at h;have:=(Kb 8 l (0*10+((Ai l i).toNat-48)) (i+1) (C5 l i hc)).1;omega
theorem Jb(c:UInt8):((c.toNat:Int)==45)=(c==45):=H8 c 45
def TAt(N:Nat)(x y z:Value)(w:World):Prop:=w.heap[N]?=some (.cells #[x,y,z] 258 (0,0))
theorem TAt.kept{row:Option Nat}(h:TAt N x y z w)(g:w.grownBy w' row)(hne:some N≠row):TAt N x y z w':=by
 unfold TAt;rw[g.block N (CU.1 h).1 hne];exact h
theorem TAt.drewN{N:Nat}{x y z:Value}{w:World}(h:TAt N x y z w)(n:Nat):TAt N x y z (w.drewN n):=h
theorem TAt.lt(h:TAt N x y z w):N<w.heap.size:=(CU.1 h).1
theorem TAt.c(h:TAt N x y z w):w.cell? ⟨N,0,none⟩=some x/\w.cell? ⟨N,1,none⟩=some y/\w.cell? ⟨N,2,none⟩=some z:=by
 unfold TAt at h;simp[World.cell?,h]
theorem TAt.fz(h:TAt N x y z w)(o:Nat):w.frozen? ⟨N,o,none⟩=false:=by
 unfold TAt at h;simp[World.frozen?,h]
theorem Cg(w:World)(N:Nat)(x y z:Value):w.grownBy (((w.setCell ⟨N,0,none⟩ x).setCell ⟨N,1,none⟩ y).setCell ⟨N,2,none⟩ z) (some N):=
 Ab (Ab (Aj w N 0 x) (Aj _ N 1 y)) (Aj _ N 2 z)
theorem TAt.set3{b c:Value}(h:TAt N a b c w)(x y z:Value):TAt N x y z (((w.setCell ⟨N,0,none⟩ x).setCell ⟨N,1,none⟩ y).setCell ⟨N,2,none⟩ z):=by
 unfold TAt at h⊢;have h1:=BB w N 0 _ _ x h;have h2:=BB _ N 1 _ _ y h1;have h3:=BB _ N 2 _ _ z h2;rw[h3];rfl
theorem Bi{a c:World}{row:Option Nat}(h:w.grownBy a row)(k:a.grownBy c (some N))(hN:w.heap.size<=N):w.grownBy c row:=
 ⟨k.os.trans h.os,k.tape.trans h.tape,k.output.trans h.output,AU h.size k.size,fun i hi hne=>(k.block i (AZ hi h.size) (by simp;omega)).trans (h.block i hi hne)⟩
theorem Ja{row:Option Nat}(h:(w.drewN n).grownBy w' row):w.grownBy w' row:=⟨h.os,h.tape,h.output,h.size,h.block⟩
theorem Tu(b:Nat)(s:ByteArray)(i:Nat)(v:Value)(w:World)(tT:TypeId)(aT:Addr)(eL:Value)(hi:i<=s.size)(hs:s.size<=400)(hm:(Ai s.data.toList i==45)=false)(h:(A3 9 s.data.toList 0 i).2=i)(hb:PAt b s i v w)(hG:GOk b (.iface tT (.pointer (some aT))) eL w) :
  Calls Tryz.prog 210 #[.pointer (some ⟨b,0,none⟩)] w fun e w'=>∃y,e=.returned (.tuple #[.agg #[.int .i64 0,.int .u8 0,.int .i64 0],y])/\Bad b i (.iface tT (.pointer (some aT))) w y w':=by
 have hl:=Fi _ _ h;have em:=(Jb (Ai s.data.toList i)).trans hm;clear h hm;have b7:=fun o=>hb.kept (AA w o none) (by simp)
 have c1:=fun o=>(b7 o).c1
 have cT:=fun o=>(hG.kept (AA w o (some b))).cT
 have e1:((i:Int)==(i:Int))=true:=by simp
 go_enter Tryz.func210,Tryz.ntmps210
 go_wp2_with (go_at_call 124;refine(Ce b s i v _ hi hs (b7 _)).mono ?_;rintro e w1⟨rfl,n,rfl⟩)
 go_loopw [6] (fun x w'=>x=.int .i64 0/\w'=(w.alloc (.cells #[.int .i64 0,.int .u8 0,.int .i64 0] 258)).drewN n) (fun _ _=>0)
 case atStart=>exact⟨rfl,rfl⟩
 case round=>
  obtain⟨rfl,rfl⟩:=hrel
  go_wp2_with (first|(go_at_call 124;refine(Ce b s i v _ hi hs ((b7 _).drewN _)).mono ?_;rintro e w1⟨rfl,n2,rfl⟩)|(go_at_call 198;refine(Cd _ _).mono ?_;rintro e w3⟨rfl,rfl⟩))
  refine(Hd b s _ v _ tT aT ((b7 _).drewN _) (cT _)).mono ?_;rintro e w4⟨f,rfl,hf,hF,hg2⟩;have hN:TAt w.heap.size (.int .i64 0) (.int .u8 0) (.int .i64 0) (w.alloc (.cells #[.int .i64 0,.int .u8 0,.int .i64 0] 258)):=AR _ _;have bK:=hN.kept (Ja hg2) (by simp);obtain⟨d0,d1,d2⟩:=bK.c;have z0:=bK.fz 0;have z1:=bK.fz 1;have z2:=bK.fz 2;go_wp2;have k3:=Cg w4 w.heap.size (.int .i64 0) (.int .u8 0) (.int .i64 0);obtain⟨q0,q1,q2⟩:=(bK.set3 (.int .i64 0) (.int .u8 0) (.int .i64 0)).c;have hg:=Ab (AA w (.cells #[.int .i64 0,.int .u8 0,.int .i64 0] 258) (some b)) (A6 (Ja hg2) (some b));have PR:w.heap.size+1<=f:=by simpa using hf
  refine BO (v:=.tuple #[.agg #[.int .i64 0,.int .u8 0,.int .i64 0],.iface 112 (.pointer (some ⟨f,0,none⟩))]) (by simp[results,Tryz.results210,go_sem,q0,q1,q2]) rfl ⟨_,rfl,f,rfl,by omega,hF.kept k3 (by simp;omega),Bi hg k3 (AW _)⟩
theorem L9{k:IntKind}{a b:Int}(h:a=b):Value.int k a=Value.int k b:=by rw[h]
theorem Jg(a n d:Nat)(h:(a+1)*10 ^ (n+1)<=1000000000)(hd:d<=9):(a*10+d+1)*10 ^ n<=1000000000:=by
 have h3:(a*10+d+1)*10 ^ n<=((a+1)*10)*10 ^ n:=BW _ (by omega);rw[GD,FZ (10 ^ n) 10,<-FD] at h;omega
theorem Hh(a n:Nat)(h:(a+1)*10 ^ n<=1000000000):a<1000000000:=by
 have:0<10 ^ n:=KA (by omega);have:(a+1)*1<=(a+1)*10 ^ n:=GZ _ this;omega
theorem Ql(b:Nat)(s:ByteArray)(i:Nat)(v:Value)(w:World)(hi:i<=s.size)(hs:s.size<=400)(hm:(Ai s.data.toList i==45)=false)(rv rk:Nat)(h:A3 9 s.data.toList 0 i=(rv,rk))(ll:rk≠i)(hb:PAt b s i v w) :
  Calls Tryz.prog 210 #[.pointer (some ⟨b,0,none⟩)] w fun e w'=>e=.returned (.tuple #[.agg #[.int .i64 2,.int .u8 0,.int .i64 rv],.nilIface])/\PAt b s rk v w'/\w.grownBy w' (some b):=by
 have em:=(Jb (Ai s.data.toList i)).trans hm;have HR:Hid (A3 9 s.data.toList 0 i=(rv,rk)):=h;clear h hm;have b7:=fun o=>hb.kept (AA w o none) (by simp)
 have c1:=fun o=>(b7 o).c1
 go_enter Tryz.func210,Tryz.ntmps210
 go_wp2_with (go_at_call 124;refine(Ce b s i v _ hi hs (b7 _)).mono ?_;rintro e w1⟨rfl,n,rfl⟩)
 go_loopw [6] (fun x w'=>∃k n acc:Nat,k+n=i+9/\k<=s.size/\i<=k/\(acc+1)*10 ^ n<=1000000000/\x=.int .i64 acc/\PAt b s k v w'/\TAt w.heap.size (.int .i64 0) (.int .u8 0) (.int .i64 0) w'/\w.grownBy w' (some b)/\A3 n s.data.toList acc k=(rv,rk)) (fun _ w'=>s.size-Eh b w')
 case atStart=>exact⟨i,9,0,rfl,hi,AW _,by decide,rfl,b7 _,AR _ _,Ab (AA w _ (some b)) (Af _ _ _),HR.out⟩
 case round=>
  obtain⟨k,m,acc,gI,hk,hik,aX,rfl,aH,hN,hg,bJ⟩:=hrel;have HN:Hid (A3 m s.data.toList acc k=(rv,rk)):=bJ;have HK:Hid (k+m=i+9):=gI;have HC:Hid ((acc+1)*10 ^ m<=1000000000):=aX;have HA:Hid (Eh b wr=k):=aH.at;have qN:=Hh acc m aX;clear bJ gI c1 aX;have c1:=aH.c1;have f1:=aH.fz 1;have hne:w.heap.size≠b:=by have:=hb.lt;omega
  obtain⟨d0,d1,d2⟩:=hN.c;have z0:=hN.fz 0;have z1:=hN.fz 1;have z2:=hN.fz 2;have qM:(0:Int)<=(acc:Int):=by omega
  have cS:(acc:Int)<1000000000:=by omega
  cases hl:As (Ai s.data.toList k)
  ·obtain⟨rfl,rfl⟩:acc=rv/\k=rk:=by
    have:=HN.out;cases m with
    | zero=>simpa[A3] using this
    | succ m=>rw[Cf,hl] at this;simpa using this
   have e1:((k:Int)==(i:Int))=false:=by simp;omega
   go_wp2_with (first|(go_at_call 124;refine(Ce b s k v _ hk hs aH).mono ?_;rintro e w1⟨rfl,n2,rfl⟩)|(go_at_call 198;refine(Cd _ _).mono ?_;rintro e w3⟨rfl,rfl⟩))
   have k3:=Cg (wr.drewN n2) w.heap.size (.int .i64 2) (.int .u8 0) (.int .i64 acc);obtain⟨q0,q1,q2⟩:=((hN.drewN n2).set3 (.int .i64 2) (.int .u8 0) (.int .i64 acc)).c;refine BO (v:=.tuple #[.agg #[.int .i64 2,.int .u8 0,.int .i64 acc],.nilIface]) (by simp[results,Tryz.results210,go_sem,q0,q1,q2]) rfl ⟨rfl,(aH.drewN n2).kept k3 (by simp;omega),Bi (Ab hg (Af _ _ _)) k3 (AW _)⟩
  ·have dM:=C5 _ _ hl
   rw[Ae] at dM;cases m with
   | zero=>
    obtain⟨rfl,rfl⟩:acc=rv/\k=rk:=by have:=HN.out;simpa[A3] using this
    have zQ:k=i+9:=HK.out;have e1:((k:Int)==(i:Int))=false:=by simp;omega
    have e2:decide ((k:Int)<(i:Int)+9)=false:=by simp;omega
    clear zQ
    go_wp2_with (first|(go_at_call 124;refine(Ce b s k v _ hk hs aH).mono ?_;rintro e w1⟨rfl,n2,rfl⟩)|(go_at_call 198;refine(Cd _ _).mono ?_;rintro e w3⟨rfl,rfl⟩))
    have k3:=Cg (wr.drewN n2) w.heap.size (.int .i64 2) (.int .u8 0) (.int .i64 acc);obtain⟨q0,q1,q2⟩:=((hN.drewN n2).set3 (.int .i64 2) (.int .u8 0) (.int .i64 acc)).c;refine BO (v:=.tuple #[.agg #[.int .i64 2,.int .u8 0,.int .i64 acc],.nilIface]) (by simp[results,Tryz.results210,go_sem,q0,q1,q2]) rfl ⟨rfl,(aH.drewN n2).kept k3 (by simp;omega),Bi (Ab hg (Af _ _ _)) k3 (AW _)⟩
   | succ m=>
    have zQ:k<i+9:=by have:=HK.out;omega
    have e2:decide ((k:Int)<(i:Int)+9)=true:=by simp;omega
    obtain⟨hr1,hr2⟩:=Ml _ hl
    go_wp2_with (first|(go_at_call 124;refine(Ce b s k v _ hk hs (by first|exact aH|exact aH.drewN _)).mono ?_;rintro e w1⟨rfl,n2,rfl⟩)|(go_at_call 198;refine(Cd _ _).mono ?_;rintro e w3⟨rfl,rfl⟩))
    go_roundw
    case rel=>exact⟨k+1,m,acc*10+((Ai s.data.toList k).toNat-48),by have:=HK.out;omega,by omega,by omega,Jg _ _ _ HC.out (by have:=Cm _ hl;omega),L9 (by omega),(aH.drewN _).set1 (k+1),(hN.drewN _).kept (Aj _ b 1 _) (by simp;omega),Ab hg (Ab (Af wr _ _) (Aj _ b 1 _)),by have:=HN.out;rw[Cf,hl] at this;exact this⟩
    case measure=>
     have h2:Eh b ((wr.setCell ⟨b,1,none⟩ (.int .i64 ((k+1:Nat):Int))))=k+1:=(PAt.set1 aH (k+1)).at;show s.size-Eh b ((wr.setCell ⟨b,1,none⟩ (.int .i64 ((k+1:Nat):Int))))<s.size-Eh b wr
     rw[h2,HA.out];omega
theorem Qm(b:Nat)(s:ByteArray)(i:Nat)(v:Value)(w:World)(hi:i<=s.size)(hs:s.size<=400)(hm:(Ai s.data.toList i==45)=true)(rv rk:Nat)(h:A3 9 s.data.toList 0 (i+1)=(rv,rk))(ll:rk≠i+1)(hb:PAt b s i v w) :
  Calls Tryz.prog 210 #[.pointer (some ⟨b,0,none⟩)] w fun e w'=>e=.returned (.tuple #[.agg #[.int .i64 2,.int .u8 0,.int .i64 (-(rv:Int))],.nilIface])/\PAt b s rk v w'/\w.grownBy w' (some b):=by
 have l9:=Ap _ _ 45 (by decide) hm;rw[Ae] at l9;have em:=(Jb (Ai s.data.toList i)).trans hm;have HR:Hid (A3 9 s.data.toList 0 (i+1)=(rv,rk)):=h;clear h hm;have b7:=fun o=>hb.kept (AA w o none) (by simp)
 have c1:=fun o=>(b7 o).c1
 have f1:=fun o=>(b7 o).fz 1
 go_enter Tryz.func210,Tryz.ntmps210
 go_wp2_with (go_at_call 124;refine(Ce b s i v _ hi hs (b7 _)).mono ?_;rintro e w1⟨rfl,n,rfl⟩)
 go_loopw [6] (fun x w'=>∃k n acc:Nat,k+n=i+1+9/\k<=s.size/\i+1<=k/\(acc+1)*10 ^ n<=1000000000/\x=.int .i64 acc/\PAt b s k v w'/\TAt w.heap.size (.int .i64 0) (.int .u8 0) (.int .i64 0) w'/\w.grownBy w' (some b)/\A3 n s.data.toList acc k=(rv,rk)) (fun _ w'=>s.size-Eh b w')
 case atStart=>
  have cx:TAt w.heap.size (.int .i64 0) (.int .u8 0) (.int .i64 0) (w.alloc (.cells #[.int .i64 0,.int .u8 0,.int .i64 0] 258)):=AR _ _;exact⟨i+1,9,0,rfl,by omega,AW _,by decide,rfl,((b7 _).drewN n).set1 (i+1),(cx.drewN n).kept (Aj _ b 1 _) (by simp;have:=hb.lt;omega),Ab (Ab (AA w _ (some b)) (Af _ n _)) (Aj _ b 1 _),HR.out⟩
 case round=>
  obtain⟨k,m,acc,gI,hk,hik,aX,rfl,aH,hN,hg,bJ⟩:=hrel;have HN:Hid (A3 m s.data.toList acc k=(rv,rk)):=bJ;have HK:Hid (k+m=i+1+9):=gI;have HC:Hid ((acc+1)*10 ^ m<=1000000000):=aX;have HA:Hid (Eh b wr=k):=aH.at;have qN:=Hh acc m aX;clear bJ gI c1 f1 aX;have c1:=aH.c1;have f1:=aH.fz 1;have hne:w.heap.size≠b:=by have:=hb.lt;omega
  obtain⟨d0,d1,d2⟩:=hN.c;have z0:=hN.fz 0;have z1:=hN.fz 1;have z2:=hN.fz 2;have qM:(0:Int)<=(acc:Int):=by omega
  have cS:(acc:Int)<1000000000:=by omega
  cases hl:As (Ai s.data.toList k)
  ·obtain⟨rfl,rfl⟩:acc=rv/\k=rk:=by
    have:=HN.out;cases m with
    | zero=>simpa[A3] using this
    | succ m=>rw[Cf,hl] at this;simpa using this
   have e1:((k:Int)==(i:Int)+1)=false:=by simp;omega
   go_wp2_with (first|(go_at_call 124;refine(Ce b s k v _ hk hs aH).mono ?_;rintro e w1⟨rfl,n2,rfl⟩)|(go_at_call 198;refine(Cd _ _).mono ?_;rintro e w3⟨rfl,rfl⟩))
   have k3:=Cg (wr.drewN n2) w.heap.size (.int .i64 2) (.int .u8 0) (.int .i64 (-(acc:Int)));obtain⟨q0,q1,q2⟩:=((hN.drewN n2).set3 (.int .i64 2) (.int .u8 0) (.int .i64 (-(acc:Int)))).c;refine BO (v:=.tuple #[.agg #[.int .i64 2,.int .u8 0,.int .i64 (-(acc:Int))],.nilIface]) (by simp[results,Tryz.results210,go_sem,q0,q1,q2]) rfl ⟨rfl,(aH.drewN n2).kept k3 (by simp;omega),Bi (Ab hg (Af _ _ _)) k3 (AW _)⟩
  ·have dM:=C5 _ _ hl
   rw[Ae] at dM;cases m with
   | zero=>
    obtain⟨rfl,rfl⟩:acc=rv/\k=rk:=by have:=HN.out;simpa[A3] using this
    have zQ:k=i+1+9:=HK.out;have e1:((k:Int)==(i:Int)+1)=false:=by simp;omega
    have e2:decide ((k:Int)<(i:Int)+1+9)=false:=by simp;omega
    clear zQ
    go_wp2_with (first|(go_at_call 124;refine(Ce b s k v _ hk hs aH).mono ?_;rintro e w1⟨rfl,n2,rfl⟩)|(go_at_call 198;refine(Cd _ _).mono ?_;rintro e w3⟨rfl,rfl⟩))
    have k3:=Cg (wr.drewN n2) w.heap.size (.int .i64 2) (.int .u8 0) (.int .i64 (-(acc:Int)));obtain⟨q0,q1,q2⟩:=((hN.drewN n2).set3 (.int .i64 2) (.int .u8 0) (.int .i64 (-(acc:Int)))).c;refine BO (v:=.tuple #[.agg #[.int .i64 2,.int .u8 0,.int .i64 (-(acc:Int))],.nilIface]) (by simp[results,Tryz.results210,go_sem,q0,q1,q2]) rfl ⟨rfl,(aH.drewN n2).kept k3 (by simp;omega),Bi (Ab hg (Af _ _ _)) k3 (AW _)⟩
   | succ m=>
    have zQ:k<i+1+9:=by have:=HK.out;omega
    have e2:decide ((k:Int)<(i:Int)+1+9)=true:=by simp;omega
    obtain⟨hr1,hr2⟩:=Ml _ hl
    go_wp2_with (first|(go_at_call 124;refine(Ce b s k v _ hk hs (by first|exact aH|exact aH.drewN _)).mono ?_;rintro e w1⟨rfl,n2,rfl⟩)|(go_at_call 198;refine(Cd _ _).mono ?_;rintro e w3⟨rfl,rfl⟩))
    go_roundw
    case rel=>exact⟨k+1,m,acc*10+((Ai s.data.toList k).toNat-48),by have:=HK.out;omega,by omega,by omega,Jg _ _ _ HC.out (by have:=Cm _ hl;omega),L9 (by omega),(aH.drewN _).set1 (k+1),(hN.drewN _).kept (Aj _ b 1 _) (by simp;omega),Ab hg (Ab (Af wr _ _) (Aj _ b 1 _)),by have:=HN.out;rw[Cf,hl] at this;exact this⟩
    case measure=>
     have h2:Eh b ((wr.setCell ⟨b,1,none⟩ (.int .i64 ((k+1:Nat):Int))))=k+1:=(PAt.set1 aH (k+1)).at;show s.size-Eh b ((wr.setCell ⟨b,1,none⟩ (.int .i64 ((k+1:Nat):Int))))<s.size-Eh b wr
     rw[h2,HA.out];omega
theorem Tv(b:Nat)(s:ByteArray)(i:Nat)(v:Value)(w:World)(tT:TypeId)(aT:Addr)(eL:Value)(hi:i<=s.size)(hs:s.size<=400)(hm:(Ai s.data.toList i==45)=true)(h:(A3 9 s.data.toList 0 (i+1)).2=i+1)(hb:PAt b s i v w)(hG:GOk b (.iface tT (.pointer (some aT))) eL w) :
  Calls Tryz.prog 210 #[.pointer (some ⟨b,0,none⟩)] w fun e w'=>∃y,e=.returned (.tuple #[.agg #[.int .i64 0,.int .u8 0,.int .i64 0],y])/\Bad b (i+1) (.iface tT (.pointer (some aT))) w y w':=by
 have hl:=Fi _ _ h;have l9:=Ap _ _ 45 (by decide) hm;rw[Ae] at l9;have em:=(Jb (Ai s.data.toList i)).trans hm;clear h hm;have b7:=fun o=>hb.kept (AA w o none) (by simp)
 have c1:=fun o=>(b7 o).c1
 have f1:=fun o=>(b7 o).fz 1
 have e1:((i:Int)+1==(i:Int)+1)=true:=by simp
 go_enter Tryz.func210,Tryz.ntmps210
 go_wp2_with (go_at_call 124;refine(Ce b s i v _ hi hs (b7 _)).mono ?_;rintro e w1⟨rfl,n,rfl⟩)
 go_loopw [6] (fun x w'=>x=.int .i64 0/\PAt b s (i+1) v w'/\TAt w.heap.size (.int .i64 0) (.int .u8 0) (.int .i64 0) w'/\w.grownBy w' (some b)) (fun _ _=>0)
 case atStart=>
  have cx:TAt w.heap.size (.int .i64 0) (.int .u8 0) (.int .i64 0) (w.alloc (.cells #[.int .i64 0,.int .u8 0,.int .i64 0] 258)):=AR _ _;exact⟨rfl,((b7 _).drewN n).set1 (i+1),(cx.drewN n).kept (Aj _ b 1 _) (by simp;have:=hb.lt;omega),Ab (Ab (AA w _ (some b)) (Af _ n _)) (Aj _ b 1 _)⟩
 case round=>
  obtain⟨rfl,aH,hN,hg⟩:=hrel;clear c1 f1;have c1:=aH.c1;have cT:=(hG.kept hg).cT
  go_wp2_with (first|(go_at_call 124;refine(Ce b s (i+1) v _ l9 hs (by first|exact aH|exact aH.drewN _)).mono ?_;rintro e w1⟨rfl,n2,rfl⟩)|(go_at_call 198;refine(Cd _ _).mono ?_;rintro e w3⟨rfl,rfl⟩))
  refine(Hd b s _ v _ tT aT (aH.drewN _) cT).mono ?_;rintro e w4⟨f,rfl,hf,hF,hg2⟩;have bK:=hN.kept (Ja hg2) (by simp);obtain⟨d0,d1,d2⟩:=bK.c;have z0:=bK.fz 0;have z1:=bK.fz 1;have z2:=bK.fz 2;go_wp2;have k3:=Cg w4 w.heap.size (.int .i64 0) (.int .u8 0) (.int .i64 0);obtain⟨q0,q1,q2⟩:=(bK.set3 (.int .i64 0) (.int .u8 0) (.int .i64 0)).c;have bE:=Ab hg (A6 (Ja hg2) (some b));have PR:w.heap.size<f:=AZ hN.lt hf;refine BO (v:=.tuple #[.agg #[.int .i64 0,.int .u8 0,.int .i64 0],.iface 112 (.pointer (some ⟨f,0,none⟩))]) (by simp[results,Tryz.results210,go_sem,q0,q1,q2]) rfl ⟨_,rfl,f,rfl,by omega,hF.kept k3 (by simp;omega),Bi bE k3 (AW _)⟩
def Fb(t:Sv.Term):List Value:=[.int .i64 t.sort,.int .u8 t.letter.toNat,.int .i64 t.value]
def Hl(b:Nat)(s:ByteArray)(v:Value)(eT:Value)(w:World)(r:Nat ⊕ (Sv.Term×Nat))(e:Ending)(w':World):Prop:=
 match r with
 | .inl k=>∃y,e=.returned (.tuple #[.agg #[.int .i64 0,.int .u8 0,.int .i64 0],y])/\Bad b k eT w y w'
 | .inr (t,j)=>e=.returned (.tuple #[.agg (Fb t).toArray,.nilIface])/\PAt b s j v w'/\w.grownBy w' (some b)
theorem Sa(b:Nat)(s:ByteArray)(i:Nat)(v:Value)(w:World)(tT:TypeId)(aT:Addr)(eL:Value)(hi:i<=s.size)(hs:s.size<=400)(hb:PAt b s i v w)(hG:GOk b (.iface tT (.pointer (some aT))) eL w) :
  Calls Tryz.prog 210 #[.pointer (some ⟨b,0,none⟩)] w fun e w'=>Hl b s v (.iface tT (.pointer (some aT))) w (Bj s.data.toList i) e w':=by
 unfold Bj;cases hm:Ai s.data.toList i==45
 ·simp only[BZ,if_false]
  by_cases h:(A3 9 s.data.toList 0 i).2=i
  ·rw[AQ h]
   exact Tu b s i v w tT aT eL hi hs hm h hb hG
  ·rw[AO h]
   exact Ql b s i v w hi hs hm _ _ rfl h hb
 ·simp only[if_true]
  by_cases h:(A3 9 s.data.toList 0 (i+1)).2=i+1
  ·rw[AQ h]
   exact Tv b s i v w tT aT eL hi hs hm h hb hG
  ·rw[AO h]
   exact Qm b s i v w hi hs hm _ _ rfl h hb
theorem Ue(c:UInt8):((c.toNat:Int)==95)=(c==95):=H8 c 95
theorem Q4p{p q r:Value}(hT:TAt N p q r W)(hP:PAt b s j v W)(hg:w.grownBy W (some b))(hN:w.heap.size<=N)(hne:N≠b)(x y z:Value) :
  TAt N x y z (((W.setCell ⟨N,0,none⟩ x).setCell ⟨N,1,none⟩ y).setCell ⟨N,2,none⟩ z)/\PAt b s j v (((W.setCell ⟨N,0,none⟩ x).setCell ⟨N,1,none⟩ y).setCell ⟨N,2,none⟩ z)/\w.grownBy (((W.setCell ⟨N,0,none⟩ x).setCell ⟨N,1,none⟩ y).setCell ⟨N,2,none⟩ z) (some b):=
 ⟨hT.set3 x y z,hP.kept (Cg W N x y z) (by simpa using fun e=>hne e.symm),Bi hg (Cg W N x y z) hN⟩
theorem Q0c(b:Nat)(s:ByteArray)(i:Nat)(v:Value)(w:World)(hi:i<=s.size)(hs:s.size<=400)(h:(Ai s.data.toList i==95)=true)(hb:PAt b s i v w) :
  Calls Tryz.prog 199 #[.pointer (some ⟨b,0,none⟩)] w fun e w'=>e=.returned (.tuple #[.agg #[.int .i64 0,.int .u8 0,.int .i64 0],.nilIface])/\PAt b s (i+1) v w'/\w.grownBy w' (some b):=by
 have l9:=Ap _ _ 95 (by decide) h;rw[Ae] at l9;have e1:=(Ue (Ai s.data.toList i)).trans h;clear h;have hlt:=hb.lt;have b7:=fun o=>hb.kept (AA w o none) (by simp)
 have c1:=fun o=>(b7 o).c1
 have f1:=fun o=>(b7 o).fz 1
 have cx:TAt w.heap.size (.int .i64 0) (.int .u8 0) (.int .i64 0) (w.alloc (.cells #[.int .i64 0,.int .u8 0,.int .i64 0] 258)):=AR _ _;go_enter Tryz.func199,Tryz.ntmps199
 go_wp2_with (go_at_call 124;refine(Ce b s i v _ hi hs (b7 _)).mono ?_;rintro e w1⟨rfl,n,rfl⟩)
 obtain⟨hT,hP,hg⟩:=Q4p ((cx.drewN n).kept (Aj _ b 1 (.int .i64 ((i:Int)+1))) (by simp;omega)) (((b7 _).drewN n).set1 (i+1)) (Ab (Ab (AA w _ (some b)) (Af _ n _)) (Aj _ b 1 _)) (AW _) (by omega) (.int .i64 0) (.int .u8 0) (.int .i64 0);obtain⟨q0,q1,q2⟩:=hT.c;exact BO (v:=.tuple #[.agg #[.int .i64 0,.int .u8 0,.int .i64 0],.nilIface]) (by simp[results,Tryz.results199,go_sem,q0,q1,q2]) rfl ⟨rfl,hP,hg⟩
theorem Q0e(b:Nat)(s:ByteArray)(i:Nat)(v:Value)(w:World)(hi:i<=s.size)(hs:s.size<=400)(h0:(Ai s.data.toList i==95)=false)(h:B9 (Ai s.data.toList i)=true)(hb:PAt b s i v w) :
  Calls Tryz.prog 199 #[.pointer (some ⟨b,0,none⟩)] w fun e w'=>e=.returned (.tuple #[.agg #[.int .i64 1,.int .u8 (Ai s.data.toList i).toNat,.int .i64 0],.nilIface])/\PAt b s (i+1) v w'/\w.grownBy w' (some b):=by
 have l9:=Dw _ _ h;rw[Ae] at l9;have e1:=(Ue (Ai s.data.toList i)).trans h0;clear h0;have hlt:=hb.lt;have b7:=fun o=>hb.kept (AA w o none) (by simp)
 have c1:=fun o=>(b7 o).c1
 have f1:=fun o=>(b7 o).fz 1
 have cx:TAt w.heap.size (.int .i64 0) (.int .u8 0) (.int .i64 0) (w.alloc (.cells #[.int .i64 0,.int .u8 0,.int .i64 0] 258)):=AR _ _;go_enter Tryz.func199,Tryz.ntmps199
 go_wp2_with (first|(go_at_call 124;refine(Ce b s i v _ hi hs (b7 _)).mono ?_;rintro e w1⟨rfl,n,rfl⟩)|(go_at_call 153;refine(C6 _ _).mono ?_;rintro e w3⟨rfl,rfl⟩))
 obtain⟨hT,hP,hg⟩:=Q4p ((cx.drewN n).kept (Aj _ b 1 (.int .i64 ((i:Int)+1))) (by simp;omega)) (((b7 _).drewN n).set1 (i+1)) (Ab (Ab (AA w _ (some b)) (Af _ n _)) (Aj _ b 1 _)) (AW _) (by omega) (.int .i64 1) (.int .u8 (Ai s.data.toList i).toNat) (.int .i64 0);obtain⟨q0,q1,q2⟩:=hT.c;exact BO (v:=.tuple #[.agg #[.int .i64 1,.int .u8 (Ai s.data.toList i).toNat,.int .i64 0],.nilIface]) (by simp[results,Tryz.results199,go_sem,q0,q1,q2]) rfl ⟨rfl,hP,hg⟩
theorem Xu(b:Nat)(s:ByteArray)(i:Nat)(v:Value)(w:World)(tT:TypeId)(aT:Addr)(eL:Value)(hi:i<=s.size)(hs:s.size<=400)(h0:(Ai s.data.toList i==95)=false)(h1:B9 (Ai s.data.toList i)=false)(h2:(Ai s.data.toList i==45)=false)(h3:(As (Ai s.data.toList i) && !Bf s.data.toList i)=false)(hb:PAt b s i v w)(hG:GOk b (.iface tT (.pointer (some aT))) eL w) :
  Calls Tryz.prog 199 #[.pointer (some ⟨b,0,none⟩)] w fun e w'=>∃y,e=.returned (.tuple #[.agg #[.int .i64 0,.int .u8 0,.int .i64 0],y])/\Bad b i (.iface tT (.pointer (some aT))) w y w':=by
 have e1:=(Ue (Ai s.data.toList i)).trans h0;have e2:=(Jb (Ai s.data.toList i)).trans h2;clear h0 h2;have hlt:=hb.lt;have b7:=fun o=>hb.kept (AA w o none) (by simp)
 have cT:=fun o=>(hG.kept (AA w o (some b))).cT
 have cx:TAt w.heap.size (.int .i64 0) (.int .u8 0) (.int .i64 0) (w.alloc (.cells #[.int .i64 0,.int .u8 0,.int .i64 0] 258)):=AR _ _;cases hd:As (Ai s.data.toList i)
 ·clear h3
  go_enter Tryz.func199,Tryz.ntmps199
  go_wp2_with (first|(go_at_call 124;refine(Ce b s i v _ hi hs (b7 _)).mono ?_;rintro e w1⟨rfl,n,rfl⟩)|(go_at_call 153;refine(C6 _ _).mono ?_;rintro e w3⟨rfl,rfl⟩)|(go_at_call 198;refine(Cd _ _).mono ?_;rintro e w3⟨rfl,rfl⟩))
  refine(Hd b s _ v _ tT aT ((b7 _).drewN _) (cT _)).mono ?_;rintro e w4⟨f,rfl,hf,hF,hg2⟩;have bK:=cx.kept (Ja hg2) (by simp);obtain⟨d0,d1,d2⟩:=bK.c;have z0:=bK.fz 0;have z1:=bK.fz 1;have z2:=bK.fz 2;go_wp2;have k3:=Cg w4 w.heap.size (.int .i64 0) (.int .u8 0) (.int .i64 0);obtain⟨q0,q1,q2⟩:=(bK.set3 (.int .i64 0) (.int .u8 0) (.int .i64 0)).c;have hg:=Ab (AA w (.cells #[.int .i64 0,.int .u8 0,.int .i64 0] 258) (some b)) (A6 (Ja hg2) (some b));have PR:w.heap.size+1<=f:=by simpa using hf
  exact BO (v:=.tuple #[.agg #[.int .i64 0,.int .u8 0,.int .i64 0],.iface 112 (.pointer (some ⟨f,0,none⟩))]) (by simp[results,Tryz.results199,go_sem,q0,q1,q2]) rfl ⟨_,rfl,f,rfl,by omega,hF.kept k3 (by simp;omega),Bi hg k3 (AW _)⟩
 ·have cm:Bf s.data.toList i=true:=by simpa[hd] using h3
  clear h3;go_enter Tryz.func199,Tryz.ntmps199
  go_wp2_with (first|(go_at_call 124;refine(Ce b s i v _ hi hs (b7 _)).mono ?_;rintro e w1⟨rfl,n,rfl⟩)|(go_at_call 153;refine(C6 _ _).mono ?_;rintro e w3⟨rfl,rfl⟩)|(go_at_call 198;refine(Cd _ _).mono ?_;rintro e w3⟨rfl,rfl⟩)|(go_at_call 209;refine(Rc b s i v _ hi hs ((b7 _).drewN _)).mono ?_;rintro e w3⟨rfl,n3,rfl⟩))
  refine(Hd b s _ v _ tT aT ((b7 _).drewN _) (cT _)).mono ?_;rintro e w4⟨f,rfl,hf,hF,hg2⟩;have bK:=cx.kept (Ja hg2) (by simp);obtain⟨d0,d1,d2⟩:=bK.c;have z0:=bK.fz 0;have z1:=bK.fz 1;have z2:=bK.fz 2;go_wp2;have k3:=Cg w4 w.heap.size (.int .i64 0) (.int .u8 0) (.int .i64 0);obtain⟨q0,q1,q2⟩:=(bK.set3 (.int .i64 0) (.int .u8 0) (.int .i64 0)).c;have hg:=Ab (AA w (.cells #[.int .i64 0,.int .u8 0,.int .i64 0] 258) (some b)) (A6 (Ja hg2) (some b));have PR:w.heap.size+1<=f:=by simpa using hf
  exact BO (v:=.tuple #[.agg #[.int .i64 0,.int .u8 0,.int .i64 0],.iface 112 (.pointer (some ⟨f,0,none⟩))]) (by simp[results,Tryz.results199,go_sem,q0,q1,q2]) rfl ⟨_,rfl,f,rfl,by omega,hF.kept k3 (by simp;omega),Bi hg k3 (AW _)⟩
theorem Q0d(b:Nat)(s:ByteArray)(i:Nat)(v:Value)(w:World)(tT:TypeId)(aT:Addr)(eL:Value)(hi:i<=s.size)(hs:s.size<=400)(h0:(Ai s.data.toList i==95)=false)(h1:B9 (Ai s.data.toList i)=false)(h2:(Ai s.data.toList i==45||(As (Ai s.data.toList i) && !Bf s.data.toList i))=true)(hb:PAt b s i v w)(hG:GOk b (.iface tT (.pointer (some aT))) eL w) :
  Calls Tryz.prog 199 #[.pointer (some ⟨b,0,none⟩)] w fun e w'=>Hl b s v (.iface tT (.pointer (some aT))) w (Bj s.data.toList i) e w':=by
 have e1:=(Ue (Ai s.data.toList i)).trans h0;clear h0;have hlt:=hb.lt;have b7:=fun o=>hb.kept (AA w o none) (by simp)
 have lB:=fun o=>(hG.kept (AA w o (some b)))
 have cx:TAt w.heap.size (.int .i64 0) (.int .u8 0) (.int .i64 0) (w.alloc (.cells #[.int .i64 0,.int .u8 0,.int .i64 0] 258)):=AR _ _;generalize hr:Bj s.data.toList i=r;have HR:Hid (Bj s.data.toList i=r):=hr;clear hr
 have fin:∀(e:Ending) (w4:World) (n:Nat),Hl b s v (.iface tT (.pointer (some aT))) ((w.alloc (.cells #[.int .i64 0,.int .u8 0,.int .i64 0] 258)).drewN n) (Bj s.data.toList i) e w4->
   ∃(x y z:Int) (yy:Value),e=.returned (.tuple #[.agg #[.int .i64 x,.int .u8 y,.int .i64 z],yy])/\TAt w.heap.size (.int .i64 0) (.int .u8 0) (.int .i64 0) w4/\Hl b s v (.iface tT (.pointer (some aT))) w r (.returned (.tuple #[.agg #[.int .i64 x,.int .u8 y,.int .i64 z],yy])) (((w4.setCell ⟨w.heap.size,0,none⟩ (.int .i64 x)).setCell ⟨w.heap.size,1,none⟩ (.int .u8 y)).setCell ⟨w.heap.size,2,none⟩ (.int .i64 z)):=by
  intro e w4 n hp;rw[HR.out] at hp;cases r with
  | inl k=>
   obtain⟨y,rfl,f,rfl,hf,hF,hg⟩:=hp;have bE:=Ab (AA w (.cells #[.int .i64 0,.int .u8 0,.int .i64 0] 258) (some b)) (Ja hg);have PR:w.heap.size+1<=f:=by simpa using hf
   have k3:=Cg w4 w.heap.size (.int .i64 0) (.int .u8 0) (.int .i64 0);exact⟨_,_,_,_,rfl,(cx.drewN n).kept hg (by simp;omega),_,rfl,f,rfl,by omega,hF.kept k3 (by simp;omega),Bi bE k3 (AW _)⟩
  | inr q=>
   obtain⟨t,j⟩:=q;obtain⟨rfl,hP,hg⟩:=hp;have bE:=Ab (AA w (.cells #[.int .i64 0,.int .u8 0,.int .i64 0] 258) (some b)) (Ja hg);have bK:=(cx.drewN n).kept hg (by simp;omega);obtain⟨_,sI,TW⟩:=Q4p bK hP bE (AW _) (by omega) (.int .i64 t.sort) (.int .u8 t.letter.toNat) (.int .i64 t.value);exact⟨_,_,_,_,rfl,bK,rfl,sI,TW⟩
 cases oM:Ai s.data.toList i==45
 ·have e2:=(Jb (Ai s.data.toList i)).trans oM
  rw[oM] at h2;simp only[EM,EA,EY] at h2;obtain⟨hd,cm⟩:=h2;clear oM;go_enter Tryz.func199,Tryz.ntmps199
  go_wp2_with (first|(go_at_call 124;refine(Ce b s i v _ hi hs (b7 _)).mono ?_;rintro e w1⟨rfl,n,rfl⟩)|(go_at_call 153;refine(C6 _ _).mono ?_;rintro e w3⟨rfl,rfl⟩)|(go_at_call 198;refine(Cd _ _).mono ?_;rintro e w3⟨rfl,rfl⟩)|(go_at_call 209;refine(Rc b s i v _ hi hs ((b7 _).drewN _)).mono ?_;rintro e w3⟨rfl,n3,rfl⟩))
  refine(Sa b s i v _ tT aT eL hi hs ((b7 _).drewN _) ((lB _).drewN _)).mono ?_;intro e w4 hp;obtain⟨x,y,z,yy,rfl,bK,aN⟩:=fin _ _ _ hp;clear hp fin;obtain⟨d0,d1,d2⟩:=bK.c;have z0:=bK.fz 0;have z1:=bK.fz 1;have z2:=bK.fz 2;go_wp2;obtain⟨q0,q1,q2⟩:=(bK.set3 (.int .i64 x) (.int .u8 y) (.int .i64 z)).c;exact BO (v:=.tuple #[.agg #[.int .i64 x,.int .u8 y,.int .i64 z],yy]) (by simp[results,Tryz.results199,go_sem,q0,q1,q2]) rfl aN
 ·have e2:=(Jb (Ai s.data.toList i)).trans oM
  clear oM h2;go_enter Tryz.func199,Tryz.ntmps199
  go_wp2_with (first|(go_at_call 124;refine(Ce b s i v _ hi hs (b7 _)).mono ?_;rintro e w1⟨rfl,n,rfl⟩)|(go_at_call 153;refine(C6 _ _).mono ?_;rintro e w3⟨rfl,rfl⟩))
  refine(Sa b s i v _ tT aT eL hi hs ((b7 _).drewN _) ((lB _).drewN _)).mono ?_;intro e w4 hp;obtain⟨x,y,z,yy,rfl,bK,aN⟩:=fin _ _ _ hp;clear hp fin;obtain⟨d0,d1,d2⟩:=bK.c;have z0:=bK.fz 0;have z1:=bK.fz 1;have z2:=bK.fz 2;go_wp2;obtain⟨q0,q1,q2⟩:=(bK.set3 (.int .i64 x) (.int .u8 y) (.int .i64 z)).c;exact BO (v:=.tuple #[.agg #[.int .i64 x,.int .u8 y,.int .i64 z],yy]) (by simp[results,Tryz.results199,go_sem,q0,q1,q2]) rfl aN
theorem Q35(b:Nat)(s:ByteArray)(i:Nat)(v:Value)(w:World)(tT:TypeId)(aT:Addr)(eL:Value)(hi:i<=s.size)(hs:s.size<=400)(hb:PAt b s i v w)(hG:GOk b (.iface tT (.pointer (some aT))) eL w) :
  Calls Tryz.prog 199 #[.pointer (some ⟨b,0,none⟩)] w fun e w'=>Hl b s v (.iface tT (.pointer (some aT))) w (A8 s.data.toList i) e w':=by
 unfold A8;cases h0:Ai s.data.toList i==95
 ·rw[AO (by simp)]
  cases h1:B9 (Ai s.data.toList i)
  ·rw[AO (by simp)]
   cases h2:Ai s.data.toList i==45||(As (Ai s.data.toList i) && !Bf s.data.toList i)
   ·rw[AO (by simp)]
    rw[DD] at h2;exact Xu b s i v w tT aT eL hi hs h0 h1 h2.1 h2.2 hb hG
   ·rw[AQ rfl]
    exact Q0d b s i v w tT aT eL hi hs h0 h1 h2 hb hG
  ·rw[AQ rfl]
   exact Q0e b s i v w hi hs h0 h1 hb
 ·rw[AQ rfl]
  exact Q0c b s i v w hi hs h0 hb
def TsAt(base:Nat)(u:Value)(ts:List Sv.Term)(w:World):Prop:=w.ownsRow base 258 3 u ts.length (ts.flatMap Fb)
theorem TsAt.slice{base:Nat}{u:Value}{ts:List Sv.Term}{w:World}(h:TsAt base u ts w):∃ao cap,u=.slice ao ts.length cap:=by
 rcases h.2 with ⟨h1,h2⟩|⟨g,cap,cur,h1,_⟩
 ·exact⟨none,0,by rw[h2];exact h1⟩
 ·exact⟨_,_,h1⟩
theorem Nu{base:Nat}(h:w.ownsRow base e size v n xs)(hg:w.grownBy w' (some b)){cs:Array Value}{fz:Nat×Nat}(hb:w.heap[b]?=some (.cells cs T fz))(hne:T≠e):w'.ownsRow base e size v n xs:=by
 refine h.kept hg ?_;rcases h.2 with ⟨h1,_⟩|⟨g,cap,cur,h1,_,h2,_⟩
 ·exact .inl (by rw[h1];rfl)
 ·refine .inr ?_
  rw[h1];intro e1;have e2:g=b:=by simpa[Value.ownBlock] using e1
  subst e2;rw[h2] at hb;simp at hb;exact hne hb.2.1.symm
theorem TsAt.kept{base:Nat}{u:Value}(h:TsAt base u ts w)(hb:PAt b s i v w)(hg:w.grownBy w' (some b)):TsAt base u ts w':=
 Nu h hg hb (by decide)
def RowOk(base:Nat)(e:TypeId)(row:Option Nat)(w:World):Prop:=∀g,row=some g->base<=g/\∃cur fz,w.heap[g]?=some (.cells cur e fz)
theorem RowOk.of{base:Nat}(h:w.ownsRow base e size v n xs):RowOk base e v.ownBlock w:=by
 intro g hg;rcases h.2 with ⟨h1,_⟩|⟨g',cap,cur,h1,h2,h3,_⟩
 ·rw[h1] at hg;simp[Value.ownBlock] at hg
 ·rw[h1] at hg
  simp[Value.ownBlock] at hg;subst hg;exact⟨h2,cur,_,h3⟩
theorem Fq{a c:World}{r row:Option Nat}(h:w.grownBy a r)(k:a.grownBy c row)(hr:RowOk w.heap.size e row a):w.grownBy c r:=
 ⟨k.os.trans h.os,k.tape.trans h.tape,k.output.trans h.output,AU h.size k.size,fun i hi hne=>(k.block i (AZ hi h.size) (fun e=>by have:=(hr i e.symm).1;omega)).trans (h.block i hi hne)⟩
theorem PAt.row{row:Option Nat}{base:Nat}(h:PAt b s j v w)(hg:w.grownBy w' row)(hr:RowOk base e row w)(he:e≠117):PAt b s j v w':=by
 refine h.kept hg (fun e1=>?_);obtain⟨_,cur,fz,h2⟩:=hr b e1.symm;unfold PAt at h;rw[h] at h2;simp at h2;exact he h2.2.1.symm
theorem FAt.row{row:Option Nat}{base:Nat}(h:FAt f i x w)(hg:w.grownBy w' row)(hr:RowOk base e row w)(he:e≠114):FAt f i x w':=by
 refine h.kept hg (fun e1=>?_);obtain⟨_,cur,fz,h2⟩:=hr f e1.symm;unfold FAt at h;rw[h] at h2;simp at h2;exact he h2.2.1.symm
theorem St.row{b:Nat}{s:ByteArray}{j:Nat}{f:Bool}{eT eL:Value}{w w':World}{row:Option Nat}{base:Nat}{e:TypeId}(h:St b s j f eT eL w)(hg:w.grownBy w' row)(hr:RowOk base e row w)(he:e≠117)(q9:e≠114)(_hT:2<base)(_hL:0<base):St b s j f eT eL w':=by
 obtain⟨v,hp,hx,hG⟩:=h;refine⟨v,hp.row hg hr he,?_,hG.nT,hG.nL,hg.cell hG.cT (fun e=>?_),hg.cell hG.cL (fun e=>?_)⟩
 ·rcases hx with hx|⟨h1,k,i,h2,h3,h4⟩
  ·exact .inl hx
  ·exact .inr ⟨h1,k,i,h2,h3,h4.row hg hr q9⟩
 ·have:=(hr _ e.symm).1;simp at this;omega
 ·have:=(hr _ e.symm).1;simp at this;omega
theorem St.base{f:Bool}{eL:Value}(h:St b s j f eT eL w):2<w.heap.size/\0<w.heap.size/\b<w.heap.size:=by
 obtain⟨v,hp,hx,hG⟩:=h;exact⟨CD w _ hG.cT,CD w _ hG.cL,hp.lt⟩
theorem St.at{b:Nat}{s:ByteArray}{j:Nat}{f:Bool}{eT eL:Value}{w:World}(h:St b s j f eT eL w):Eh b w=j:=by
 obtain⟨v,hp,_⟩:=h;exact hp.at
theorem RowOk.none(base:Nat)(e:TypeId)(w:World):RowOk base e none w:=by intro g hg;cases hg
theorem Tryz.infoTerm:(Tryz.prog.info? 258).map (fun i=>(i.zero,i.size,i.bytes))=some (some (.agg #[.int .i64 0,.int .u8 0,.int .i64 0]),3,24):=by kernel_rfl
theorem K4(f:Bool)(m n:Nat):(f||decide (m<n+1))=(f||decide (m<n)||decide (m<=n)):=by
 cases f
 ·rw[ER]
  simp only[EM,Bool.or_eq_true,DF];omega
 ·simp
theorem Em(n:Nat)(l:List UInt8)(acc:List Sv.Term)(i:Nat):Dr (n+1) l acc i=
  if (Ai l (Ag l i)==41)=true then .inr (acc,Ag l i+1)
  else match A8 l (Ag l i) with
   | .inl k=>.inl k
   | .inr (t,j)=>Dr n l (acc++[t]) j:=rfl
def Uw(b:Nat)(s:ByteArray)(f:Bool)(eT eL:Value)(w:World)(r:Nat ⊕ (List Sv.Term×Nat))(e:Ending)(w':World):Prop:=
 match r with
 | .inl k=>∃y,e=.returned (.tuple #[.slice none 0 0,y])/\Bad b k eT w y w'
 | .inr (ts,j)=>∃u,e=.returned (.tuple #[u,.nilIface])/\TsAt w.heap.size u ts w'/\St b s j (f||decide (4<ts.length)) eT eL w'/\w.grownBy w' (some b)
theorem Q2m(b:Nat)(s:ByteArray)(i:Nat)(f:Bool)(tT:TypeId)(aT:Addr)(tL:TypeId)(aL:Addr)(w:World)(hi:i<=s.size)(hs:s.size<=400)
 (hb:St b s i f (.iface tT (.pointer (some aT))) (.iface tL (.pointer (some aL))) w) :
  Calls Tryz.prog 181 #[.pointer (some ⟨b,0,none⟩)] w fun e w'=>Uw b s f (.iface tT (.pointer (some aT))) (.iface tL (.pointer (some aL))) w (Cl s.data.toList i) e w':=by
 obtain⟨i0,aq,hz0,hz1,hz2⟩:=info_parts Tryz.infoTerm;generalize hr:Cl s.data.toList i=r;have HR:Hid (Cl s.data.toList i=r):=hr;clear hr;go_enter Tryz.func181,Tryz.ntmps181;go_wp2;go_loopw [4] (fun u w'=>∃(k n:Nat) (acc:List Sv.Term),s.size<k+n/\k<=s.size/\acc.length<=k/\TsAt w.heap.size u acc w'/\St b s k (f||decide (4<acc.length)) (.iface tT (.pointer (some aT))) (.iface tL (.pointer (some aL))) w'/\w.grownBy w' (some b)/\Dr n s.data.toList acc k=r) (fun _ w'=>s.size-Eh b w')
 case atStart=>exact⟨i,s.data.toList.length+1,[],by simp;omega,hi,AG _,EJ _ _ _ _,by simpa using hb,AD _ _,HR.out⟩
 case round=>
  obtain⟨k,m,acc,gI,hk,aX,bm,hst,hg,bJ⟩:=hrel;obtain⟨m,rfl⟩:∃m',m=m'+1:=⟨m-1,by omega⟩
  rw[Em] at bJ;obtain⟨vx,aH,hex,hG⟩:=hst;have HA:Hid (Eh b wr=k):=aH.at;have hle:=Be s.data.toList k (by simpa using hk);rw[Ae] at hle;obtain⟨lu,ai⟩:=hle;obtain⟨ao,cap,rfl⟩:=bm.slice;cases qm:Ai s.data.toList (Ag s.data.toList k)==41
  ·rw[qm,AO (by simp)] at bJ
   have HN:Hid ((match A8 s.data.toList (Ag s.data.toList k) with
    | .inl k=>.inl k
    | .inr (t,j)=>Dr m s.data.toList (acc++[t]) j)=r):=bJ
   clear bJ;have aK:=Ls s.data.toList (Ag s.data.toList k) (by simpa using ai)
   go_wp2_with (go_at_call 156;refine(Ny b s k vx 41 _ rfl _ hk hs qm aH).mono ?_;rintro e w1⟨rfl,hb1,hg1⟩)
   refine(Wz b s _ _ tT aT tL aL w1 acc.length 4 _ _ rfl rfl (St.step hb1 hex hG hg1)).mono ?_;rintro e w2⟨rfl,⟨vy,hb2,vp,bW⟩,hg2⟩;have fG:=(bm.kept aH hg1).kept hb1 hg2;have bM:=Ab hg (Ab hg1 hg2);clear bm aH hex hG hb1 hg1 hg2 hg;go_wp2_with fail;refine(Q35 b s _ vy _ tT aT _ ai hs hb2 bW).mono ?_;intro e w3 hp;have j9:=HN.out;clear HN;cases hr:A8 s.data.toList (Ag s.data.toList k) with
   | inl q=>
    rw[hr] at hp j9;obtain⟨y,rfl,ff,rfl,hf,hF,hg3⟩:=hp;simp only at j9;subst j9;have hf':w.heap.size<=ff:=AU bM.size hf;have au:=Ab bM hg3;clear fG vp bW hb2 aK hr;go_wp2
    go_ret2
    exact⟨_,rfl,ff,rfl,hf',hF.kept (AA w3 _ none) (by simp),Ab au (AA w3 _ _)⟩
   | inr q=>
    obtain⟨tm,j⟩:=q;rw[hr] at hp j9 aK;obtain⟨he,hb3,hg3⟩:=hp;have he':e=.returned (.tuple #[.agg #[.int .i64 tm.sort,.int .u8 tm.letter.toNat,.int .i64 tm.value],.nilIface]):=he;clear he;subst he';obtain⟨fq,b6⟩:=aK;rw[Ae] at b6;have HN:Hid (Dr m s.data.toList (acc++[tm]) j=r):=j9;clear j9 hr;have eW:=fG.kept hb2 hg3;have fH:St b s j ((f||decide (4<acc.length))||decide (4<=acc.length)) (.iface tT (.pointer (some aT))) (.iface tL (.pointer (some aL))) w3:=St.step hb3 vp bW hg3;have au:=Ab bM hg3;clear fG vp bW hb2;obtain⟨oI,oJ,kR⟩:=hb.base;have hrow:=RowOk.of ((eW.alloc (.cells #[.int .i64 tm.sort,.int .u8 tm.letter.toNat,.int .i64 tm.value] 258)).alloc (.cells #[.int .i64 tm.sort,.int .u8 tm.letter.toNat,.int .i64 tm.value] 258));have a7:=AA w3 (.cells #[.int .i64 tm.sort,.int .u8 tm.letter.toNat,.int .i64 tm.value] 258) none;have aR:=Ab a7 (AA (w3.alloc (.cells #[.int .i64 tm.sort,.int .u8 tm.letter.toNat,.int .i64 tm.value] 258)) (.cells #[.int .i64 tm.sort,.int .u8 tm.letter.toNat,.int .i64 tm.value] 258) none);have jw:=fH.row aR (RowOk.none w.heap.size 258 w3) (by decide) (by decide) oI oJ;have bQ:=Ab au (A6 aR (some b));have hsz3:=au.size;clear a7 aR
    go_wp2_with (at_builtin;refine DG _ rfl _ _ 198 rfl w.heap.size 258 i0 (.agg #[.int .i64 0,.int .u8 0,.int .i64 0]) 3 24 Tryz.underlying198 aq hz0 hz1 hz2 rfl (by decide) _ acc.length (acc.flatMap Fb) rfl ((eW.alloc _).alloc _) ⟨w3.heap.size+1,0,none⟩ 1 1 (Fb tm) rfl rfl ?c1 ?c2 ?c3 ?c4 ?c5 ?_)
    case c1=>
     intro jj u hu
     match jj,hu with
     | 0,hu=>simp[Fb] at hu;subst hu;simp[Addr.add]
     | 1,hu=>simp[Fb] at hu;subst hu;simp[Addr.add]
     | 2,hu=>simp[Fb] at hu;subst hu;simp[Addr.add]
     | n+3,hu=>simp[Fb] at hu
    case c2=>
     intro u hu;simp[Fb] at hu;rcases hu with rfl|rfl|rfl<;>rfl
    case c3=>unfold maxLen;omega
    case c4=>omega
    case c5=>simp;omega
    intro v' w4 hown hgrow _;have lY:=jw.row hgrow hrow (by decide) (by decide) oI oJ;have iT:=Fq bQ hgrow hrow;have HA4:Hid (Eh b w4=j):=lY.at
    have bO:TsAt w.heap.size v' (acc++[tm]) w4:=by
     unfold TsAt;rw[AK,CO];simpa using hown
    clear hown hgrow jw bQ fH eW hrow;go_wp2;go_roundw
    case rel=>exact⟨j,m,acc++[tm],by omega,by omega,by simp;omega,bO,by rw[AK,BC,K4];exact lY,iT,HN.out⟩
    case measure=>rw[HA4.out,HA.out];omega
  ·rw[qm,AQ rfl] at bJ
   subst bJ
   go_wp2_with (go_at_call 156;refine(Jt b s k vx 41 _ rfl _ hk hs qm aH).mono ?_;rintro e w1⟨rfl,hb1,hg1⟩)
   go_ret2
   exact⟨_,rfl,bm.kept aH hg1,St.step hb1 hex hG hg1,Ab hg hg1⟩
theorem Ac(h:p):Hid p:=h
theorem Aa(h:Hid p):p:=h
def C3(T:TypeId)(N:Nat)(x y z:Value)(w:World):Prop:=w.heap[N]?=some (.cells #[x,y,z] T (0,0))
theorem C3.lt(h:C3 T N x y z w):N<w.heap.size:=(CU.1 h).1
theorem C3.kept{row:Option Nat}(h:C3 T N x y z w)(g:w.grownBy w' row)(hne:some N≠row):C3 T N x y z w':=by
 unfold C3;rw[g.block N h.lt hne];exact h
theorem C3.c(h:C3 T N x y z w):w.cell? ⟨N,0,none⟩=some x/\w.cell? ⟨N,1,none⟩=some y/\w.cell? ⟨N,2,none⟩=some z:=by
 unfold C3 at h;simp[World.cell?,h]
theorem C3.fz(h:C3 T N x y z w)(o:Nat):w.frozen? ⟨N,o,none⟩=false:=by
 unfold C3 at h;simp[World.frozen?,h]
theorem C3.set3{b c:Value}(h:C3 T N a b c w)(x y z:Value):C3 T N x y z (((w.setCell ⟨N,0,none⟩ x).setCell ⟨N,1,none⟩ y).setCell ⟨N,2,none⟩ z):=by
 unfold C3 at h⊢;have h1:=BB w N 0 _ _ x h;have h2:=BB _ N 1 _ _ y h1;have h3:=BB _ N 2 _ _ z h2;rw[h3];rfl
theorem M6(hf:W0.heap.size<=f)(hF:FAt f k eT W)(hg:W0.grownBy W (some b))(hg0:w.grownBy W0 (some b))(hlt:N<W0.heap.size)(hN:w.heap.size<=N)(x y z:Value) :
  Bad b k eT w (.iface 112 (.pointer (some ⟨f,0,none⟩))) (((W.setCell ⟨N,0,none⟩ x).setCell ⟨N,1,none⟩ y).setCell ⟨N,2,none⟩ z):=
 ⟨f,rfl,AU hg0.size hf,hF.kept (Cg W N x y z) (by simp;omega),Bi (Ab hg0 hg) (Cg W N x y z) hN⟩
theorem RowOk.one{base:Nat}(h:C3 T N x y z w)(hb:base<=N):RowOk base T (some N) w:=by
 intro g hg;cases hg
 exact⟨hb,_,_,h⟩
theorem Cv{base:Nat}(h:w.ownsRow base e size v n xs)(hb:base'<=base):w.ownsRow base' e size v n xs:=by
 refine⟨h.1,?_⟩;rcases h.2 with h1|⟨g,cap,cur,h1,h2,h3⟩
 ·exact .inl h1
 ·exact .inr ⟨g,cap,cur,h1,AU hb h2,h3⟩
def Qz(b:Nat)(s:ByteArray)(f:Bool)(eT eL:Value)(w:World)(r:Nat ⊕ (Sv.Cond×Nat))(e:Ending)(w':World):Prop:=
 match r with
 | .inl k=>∃y,e=.returned (.tuple #[.agg #[.bool false,.int .i64 0,.slice none 0 0],y])/\Bad b k eT w y w'
 | .inr (c,j)=>∃u,e=.returned (.tuple #[.agg #[.bool c.neg,.int .i64 c.kind,u],.nilIface])/\TsAt w.heap.size u c.terms w'/\St b s j (f||D2 c) eT eL w'/\w.grownBy w' (some b)
theorem J4(l:List UInt8)(i:Nat)(c:Sv.Cond)(j:Nat)(h:An l i=.inr (c,j)):c.neg=false:=by
 unfold An at h;simp only at h;split at h
 ·split at h
  ·split at h
   ·cases h
   ·simp only[CC,CH] at h
    rw[<-h.1]
  ·cases h
 ·cases h
theorem Y4(b:Nat)(s:ByteArray)(i:Nat)(f:Bool)(tT:TypeId)(aT:Addr)(tL:TypeId)(aL:Addr)(w:World)(hi:i<=s.size)(hs:s.size<=400)
 (hb:St b s i f (.iface tT (.pointer (some aT))) (.iface tL (.pointer (some aL))) w)(h:(Ai s.data.toList (Ag s.data.toList i)==40)=false) :
  Calls Tryz.prog 157 #[.pointer (some ⟨b,0,none⟩)] w fun e w'=>∃y,e=.returned (.tuple #[.agg #[.bool false,.int .i64 0,.slice none 0 0],y])/\Bad b (Ag s.data.toList i) (.iface tT (.pointer (some aT))) w y w':=by
 obtain⟨v,hp,hex,hG⟩:=hb;have b7:=fun o=>hp.kept (AA w o none) (by simp)
 have lB:=fun o=>hG.kept (AA w o (some b))
 have cx:C3 200 w.heap.size (.bool false) (.int .i64 0) (.slice none 0 0) (w.alloc (.cells #[.bool false,.int .i64 0,.slice none 0 0] 200)):=AR _ _;have hlt:=hp.lt;go_enter Tryz.func157,Tryz.ntmps157;go_wp2_with fail;refine(Ow b s i v 40 _ rfl _ tT aT _ hi hs h (b7 _) (lB _)).mono ?_;rintro e w1⟨y,rfl,ff,rfl,hf,hF,hg⟩;have b9:=cx.kept hg (by simp;omega);obtain⟨d0,d1,d2⟩:=b9.c;have z0:=b9.fz 0;have z1:=b9.fz 1;have z2:=b9.fz 2;have gi:=M6 hf hF hg (AA w _ (some b)) cx.lt (AW _) (.bool false) (.int .i64 0) (.slice none 0 0);clear hf hF hg;go_wp2;obtain⟨q0,q1,q2⟩:=(b9.set3 (.bool false) (.int .i64 0) (.slice none 0 0)).c;exact BO (v:=.tuple #[.agg #[.bool false,.int .i64 0,.slice none 0 0],.iface 112 (.pointer (some ⟨ff,0,none⟩))]) (by simp[results,Tryz.results157,go_sem,q0,q1,q2]) rfl ⟨_,rfl,gi⟩
theorem Y5(b:Nat)(s:ByteArray)(i:Nat)(f:Bool)(tT:TypeId)(aT:Addr)(tL:TypeId)(aL:Addr)(w:World)(hi:i<=s.size)(hs:s.size<=400)
 (hb:St b s i f (.iface tT (.pointer (some aT))) (.iface tL (.pointer (some aL))) w)(h:(Ai s.data.toList (Ag s.data.toList i)==40)=true)(h2:As (Ai s.data.toList (Ag s.data.toList (Ag s.data.toList i+1)))=false) :
  Calls Tryz.prog 157 #[.pointer (some ⟨b,0,none⟩)] w fun e w'=>∃y,e=.returned (.tuple #[.agg #[.bool false,.int .i64 0,.slice none 0 0],y])/\Bad b (Ag s.data.toList (Ag s.data.toList i+1)) (.iface tT (.pointer (some aT))) w y w':=by
 obtain⟨v,hp,hex,hG⟩:=hb;have b7:=fun o=>hp.kept (AA w o none) (by simp)
 have lB:=fun o=>hG.kept (AA w o (some b))
 have cx:C3 200 w.heap.size (.bool false) (.int .i64 0) (.slice none 0 0) (w.alloc (.cells #[.bool false,.int .i64 0,.slice none 0 0] 200)):=AR _ _;have hlt:=hp.lt;have eH:=Ap _ _ 40 (by decide) h;rw[Ae] at eH;go_enter Tryz.func157,Tryz.ntmps157
 go_wp2_with (go_at_call 126;refine(Il b s i v 40 _ rfl _ hi hs h (b7 _)).mono ?_;rintro e w1⟨rfl,hb1,hg1⟩)
 refine(Q14 b s _ v w1 tT aT _ eH hs h2 hb1 ((lB _).kept hg1)).mono ?_;rintro e w2⟨y,rfl,ff,rfl,hf,hF,hg2⟩;have b9:=cx.kept hg1 (by simp;omega);have bb:=b9.kept hg2 (by simp;omega);obtain⟨d0,d1,d2⟩:=bb.c;have z0:=bb.fz 0;have z1:=bb.fz 1;have z2:=bb.fz 2;have gi:=M6 hf hF hg2 (Ab (AA w _ (some b)) hg1) b9.lt (AW _) (.bool false) (.int .i64 0) (.slice none 0 0);clear hf hF hg1 hg2;go_wp2;obtain⟨q0,q1,q2⟩:=(bb.set3 (.bool false) (.int .i64 0) (.slice none 0 0)).c;exact BO (v:=.tuple #[.agg #[.bool false,.int .i64 0,.slice none 0 0],.iface 112 (.pointer (some ⟨ff,0,none⟩))]) (by simp[results,Tryz.results157,go_sem,q0,q1,q2]) rfl ⟨_,rfl,gi⟩
theorem Y6(b:Nat)(s:ByteArray)(i:Nat)(f:Bool)(tT:TypeId)(aT:Addr)(tL:TypeId)(aL:Addr)(w:World)(hi:i<=s.size)(hs:s.size<=400)
 (hb:St b s i f (.iface tT (.pointer (some aT))) (.iface tL (.pointer (some aL))) w)(h:(Ai s.data.toList (Ag s.data.toList i)==40)=true)(h2:As (Ai s.data.toList (Ag s.data.toList (Ag s.data.toList i+1)))=true)(r:Nat ⊕ (Sv.Cond×Nat))(hR:(match Cl s.data.toList (Ag s.data.toList (Ag s.data.toList i+1)+1) with
   | .inl m=>.inl m
   | .inr (ts,m)=>.inr (⟨false,(Ai s.data.toList (Ag s.data.toList (Ag s.data.toList i+1))).toNat-48,ts⟩,m))=r) :
  Calls Tryz.prog 157 #[.pointer (some ⟨b,0,none⟩)] w fun e w'=>Qz b s f (.iface tT (.pointer (some aT))) (.iface tL (.pointer (some aL))) w r e w':=by
 have HR:=Ac hR;clear hR;obtain⟨oI,oJ,kR⟩:=hb.base;obtain⟨v,hp,hex,hG⟩:=hb;have b7:=fun o=>hp.kept (AA w o none) (by simp)
 have lB:=fun o=>hG.kept (AA w o (some b))
 have py:=fun o=>hex.kept (AA w o (some b))
 have cx:C3 200 w.heap.size (.bool false) (.int .i64 0) (.slice none 0 0) (w.alloc (.cells #[.bool false,.int .i64 0,.slice none 0 0] 200)):=AR _ _;have hlt:=hp.lt;have eH:=Ap _ _ 40 (by decide) h;rw[Ae] at eH;have jE:=C5 _ _ h2;rw[Ae] at jE;have ri:=Cm _ h2;go_enter Tryz.func157,Tryz.ntmps157
 go_wp2_with (go_at_call 126;refine(Il b s i v 40 _ rfl _ hi hs h (b7 _)).mono ?_;rintro e w1⟨rfl,hb1,hg1⟩)
 refine(Zp b s _ v w1 eH hs h2 hb1).mono ?_;rintro e w2⟨rfl,hb2,hg2⟩;have b9:=cx.kept hg1 (by simp;omega);have bb:=b9.kept hg2 (by simp;omega);have bM:=Ab (Ab (AA w _ (some b)) hg1) hg2;have eG:=St.step hb2 ((py _).kept hg1) ((lB _).kept hg1) hg2;have cD:=Aa HR;clear HR;generalize Ai s.data.toList (Ag s.data.toList (Ag s.data.toList i+1))=ck at *;have HR:=Ac cD;clear hb1 hg1 hb2 hg2 b9 cx b7 lB py hp hex hG cD;go_wp2_with fail;refine(Q2m b s _ _ tT aT tL aL w2 jE hs eG).mono ?_;intro e w3 aN;cases hr:Cl s.data.toList (Ag s.data.toList (Ag s.data.toList i+1)+1) with
 | inl m=>
  have fN:=Aa HR;rw[hr] at aN fN;subst fN;obtain⟨y,rfl,ff,rfl,hf,hF,hg3⟩:=aN;have eX:=bb.kept hg3 (by simp;omega);obtain⟨d0,d1,d2⟩:=eX.c;have z0:=eX.fz 0;have z1:=eX.fz 1;have z2:=eX.fz 2;have gi:=M6 hf hF hg3 bM bb.lt (AW _) (.bool false) (.int .i64 0) (.slice none 0 0);clear hf hF hg3 hr eG;go_wp2;obtain⟨q0,q1,q2⟩:=(eX.set3 (.bool false) (.int .i64 0) (.slice none 0 0)).c;exact BO (v:=.tuple #[.agg #[.bool false,.int .i64 0,.slice none 0 0],.iface 112 (.pointer (some ⟨ff,0,none⟩))]) (by simp[results,Tryz.results157,go_sem,q0,q1,q2]) rfl ⟨_,rfl,gi⟩
 | inr q=>
  obtain⟨ts,m⟩:=q;have fN:=Aa HR;rw[hr] at aN fN;subst fN;obtain⟨u,rfl,bm,fH,hg3⟩:=aN;obtain⟨ao,cap,rfl⟩:=bm.slice;have eX:=bb.kept hg3 (by simp;omega);obtain⟨d0,d1,d2⟩:=eX.c;have z0:=eX.fz 0;have z1:=eX.fz 1;have z2:=eX.fz 2;have au:=Ab bM hg3;clear hr eG hg3;go_wp2;obtain⟨q0,q1,q2⟩:=(eX.set3 (.bool false) (.int .i64 ((ck.toNat:Int)-48)) (.slice ao ts.length cap)).c;have k3:=Cg w3 w.heap.size (.bool false) (.int .i64 ((ck.toNat:Int)-48)) (.slice ao ts.length cap);refine BO (v:=.tuple #[.agg #[.bool false,.int .i64 ((ck.toNat:Int)-48),.slice ao ts.length cap],.nilIface]) (by simp[results,Tryz.results157,go_sem,q0,q1,q2]) rfl ⟨.slice ao ts.length cap,?_,?_,?_,?_⟩
  ·rw[show (((⟨false,ck.toNat-48,ts⟩:Sv.Cond).kind:Nat):Int)=(ck.toNat:Int)-48 from by show ((ck.toNat-48:Nat):Int)=_;omega]
  ·exact Cv (Nu bm k3 eX (by decide)) (by have:=bM.size;omega)
  ·exact fH.row k3 (RowOk.one eX (AW _)) (by decide) (by decide) oI oJ
  ·exact Bi au k3 (AW _)
theorem Q0w(b:Nat)(s:ByteArray)(i:Nat)(f:Bool)(tT:TypeId)(aT:Addr)(tL:TypeId)(aL:Addr)(w:World)(hi:i<=s.size)(hs:s.size<=400)
 (hb:St b s i f (.iface tT (.pointer (some aT))) (.iface tL (.pointer (some aL))) w) :
  Calls Tryz.prog 157 #[.pointer (some ⟨b,0,none⟩)] w fun e w'=>Qz b s f (.iface tT (.pointer (some aT))) (.iface tL (.pointer (some aL))) w (An s.data.toList i) e w':=by
 cases h:Ai s.data.toList (Ag s.data.toList i)==40
 ·have e:An s.data.toList i=.inl (Ag s.data.toList i):=by unfold An;rw[h];rfl
  rw[e];exact Y4 b s i f tT aT tL aL w hi hs hb h
 ·cases h2:As (Ai s.data.toList (Ag s.data.toList (Ag s.data.toList i+1)))
  ·have e:An s.data.toList i=.inl (Ag s.data.toList (Ag s.data.toList i+1)):=by unfold An;simp only;rw[h,AQ rfl,h2];rfl
   rw[e];exact Y5 b s i f tT aT tL aL w hi hs hb h h2
  ·refine Y6 b s i f tT aT tL aL w hi hs hb h h2 _ ?_
   unfold An;simp only;rw[h,AQ rfl,h2,AQ rfl];cases Cl s.data.toList (Ag s.data.toList (Ag s.data.toList i+1)+1)<;>rfl
theorem Fu{w w':World}{base base':Nat}{e e':TypeId}{size:Nat}{v:Value}{n:Nat}{xs:List Value}{row:Option Nat}(h:w.ownsRow base e size v n xs)(hg:w.grownBy w' row)(hr:RowOk base' e' row w)(hne:e'≠e):w'.ownsRow base e size v n xs:=by
 cases row with
 | none=>exact h.kept hg (by cases hv:v.ownBlock<;>simp)
 | some b=>
  obtain⟨_,cur,fz,hb⟩:=hr b rfl;exact Nu h hg hb hne
theorem TsAt.row{base:Nat}{e':TypeId}{row:Option Nat}(h:TsAt base v ts w)(hg:w.grownBy w' row)(hr:RowOk base' e' row w)(hne:e'≠258):TsAt base v ts w':=Fu h hg hr hne
theorem PAt.rowOk(h:PAt b s i v w):RowOk 0 117 (some b) w:=by
 intro g hg;cases hg;exact⟨AG _,_,_,h⟩
theorem St.rowOk{b:Nat}{s:ByteArray}{i:Nat}{f:Bool}{eT eL:Value}{w:World}(h:St b s i f eT eL w):RowOk 0 117 (some b) w:=by
 obtain⟨v,hp,_⟩:=h;exact hp.rowOk
def CsCells(B:Nat)(w:World):List Sv.Cond->List Value->Prop
 | [],xs=>xs=[]
 | c::cs,xs=>∃u ys,xs=.bool c.neg::.int .i64 c.kind::u::ys/\TsAt B u c.terms w/\CsCells B w cs ys
theorem CsCells.row{B:Nat}{w w':World}{base':Nat}{e':TypeId}{row:Option Nat}(hg:w.grownBy w' row)(hr:RowOk base' e' row w)(hne:e'≠258):∀(cs:List Sv.Cond) (xs:List Value),CsCells B w cs xs->CsCells B w' cs xs
 | [],_,h=>h
 | _::cs,_,⟨u,ys,h1,h2,h3⟩=>⟨u,ys,h1,h2.row hg hr hne,CsCells.row hg hr hne cs ys h3⟩
theorem CsCells.snoc{B:Nat}{w:World}(c:Sv.Cond)(u:Value)(hu:TsAt B u c.terms w):∀(cs:List Sv.Cond) (xs:List Value),CsCells B w cs xs->CsCells B w (cs++[c]) (xs++[.bool c.neg,.int .i64 c.kind,u])
 | [],xs,h=>⟨u,[],by rw[show xs=[] from h];rfl,hu,rfl⟩
 | _::cs,_,⟨v,ys,h1,h2,h3⟩=>⟨v,ys++[.bool c.neg,.int .i64 c.kind,u],by rw[h1];rfl,h2,CsCells.snoc c u hu cs ys h3⟩
theorem CsCells.weak{B B':Nat}{w:World}(hB:B'<=B):∀(cs:List Sv.Cond) (xs:List Value),CsCells B w cs xs->CsCells B' w cs xs
 | [],_,h=>h
 | _::cs,_,⟨u,ys,h1,h2,h3⟩=>⟨u,ys,h1,Cv h2 hB,CsCells.weak hB cs ys h3⟩
def CsAt(base:Nat)(v:Value)(cs:List Sv.Cond)(w:World):Prop:=∃xs,w.ownsRow base 200 3 v cs.length xs/\CsCells base w cs xs
theorem CsAt.slice{base:Nat}{u:Value}{cs:List Sv.Cond}{w:World}(h:CsAt base u cs w):∃ao cap,u=.slice ao cs.length cap:=by
 obtain⟨xs,h,_⟩:=h;rcases h.2 with ⟨h1,h2⟩|⟨g,cap,cur,h1,_⟩
 ·exact⟨none,0,by rw[h2];exact h1⟩
 ·exact⟨_,_,h1⟩
theorem CsAt.row{w w':World}{base base':Nat}{e':TypeId}{v:Value}{cs:List Sv.Cond}{row:Option Nat}(h:CsAt base v cs w)(hg:w.grownBy w' row)(hr:RowOk base' e' row w)(hne:e'≠258)(dL:e'≠200):CsAt base v cs w':=by
 obtain⟨xs,h1,h2⟩:=h;exact⟨xs,Fu h1 hg hr dL,CsCells.row hg hr hne cs xs h2⟩
def G0(cs:List Sv.Cond):Bool:=decide (4<cs.length)||cs.any D2
theorem N7(f:Bool)(cs:List Sv.Cond)(c:Sv.Cond)(b:Bool):(f||G0 (cs++[⟨b,c.kind,c.terms⟩]))=(f||G0 cs||decide (4<=cs.length)||D2 c):=by
 unfold G0;rw[AK,BC,ES];have h:=K4 f 4 cs.length;have h2:[(⟨b,c.kind,c.terms⟩:Sv.Cond)].any D2=D2 c:=by simp[D2]
 rw[h2,<-JK,h];cases f<;>cases decide (4<cs.length)<;>cases decide (4<=cs.length)<;>cases cs.any D2<;>cases D2 c<;>rfl
theorem Pt(f:Bool)(c:Sv.Cond):(f||G0 [c])=(f||D2 c):=by simp[G0]
theorem De(n:Nat)(l:List UInt8)(acc:List Sv.Cond)(i:Nat):Dk (n+1) l acc i=
  if (Ai l (Ag l i)==59)=true then .inr (acc,Ag l i+1)
  else
   match An l (if (Ai l (Ag l i)==33)=true then Ag l i+1 else Ag l i) with
   | .inl k=>.inl k
   | .inr (c,j)=>Dk n l (acc++[⟨Ai l (Ag l i)==33,c.kind,c.terms⟩]) j:=rfl
theorem Tryz.infoCond:(Tryz.prog.info? 200).map (fun i=>(i.zero,i.size,i.bytes))=some (some (.agg #[.bool false,.int .i64 0,.slice none 0 0]),3,40):=by kernel_rfl
def Uj(b:Nat)(s:ByteArray)(f:Bool)(eT eL:Value)(w:World)(r:Nat ⊕ (List Sv.Cond×Nat))(e:Ending)(w':World):Prop:=
 match r with
 | .inl k=>∃y,e=.returned (.tuple #[.slice none 0 0,y])/\Bad b k eT w y w'
 | .inr (cs,j)=>∃u,e=.returned (.tuple #[u,.nilIface])/\CsAt w.heap.size u cs w'/\St b s j (f||G0 cs) eT eL w'/\w.grownBy w' (some b)
def Q4j(b:Nat)(s:ByteArray)(f:Bool)(eT eL:Value)(w:World)(r:Nat ⊕ (List Sv.Cond×Nat))(u:Value)(w':World):Prop:=
 ∃(k n:Nat) (cs:List Sv.Cond),s.size<k+n/\k<=s.size/\cs.length<=k/\CsAt w.heap.size u cs w'/\St b s k (f||G0 cs) eT eL w'/\w.grownBy w' (some b)/\Dk n s.data.toList cs k=r
theorem Q1m(b:Nat)(s:ByteArray)(i:Nat)(f:Bool)(tT:TypeId)(aT:Addr)(tL:TypeId)(aL:Addr)(w:World)(hi:i<=s.size)(hs:s.size<=400)
 (hb:St b s i f (.iface tT (.pointer (some aT))) (.iface tL (.pointer (some aL))) w) :
  Calls Tryz.prog 127 #[.pointer (some ⟨b,0,none⟩)] w fun e w'=>Uj b s f (.iface tT (.pointer (some aT))) (.iface tL (.pointer (some aL))) w (Bl s.data.toList i) e w':=by
 obtain⟨i0,aq,hz0,hz1,hz2⟩:=info_parts Tryz.infoCond;obtain⟨oI,oJ,kR⟩:=hb.base;generalize hr:Bl s.data.toList i=r;unfold Bl at hr;have HR:=Ac hr;clear hr;have aK:=Dt s.data.toList i (by simpa using hi);go_enter Tryz.func127,Tryz.ntmps127;go_wp2_with fail;refine(Q0w b s i f tT aT tL aL w hi hs hb).mono ?_;intro e w1 hp;have NM:=Aa HR;clear HR;cases hc:An s.data.toList i with
 | inl q=>
  rw[hc] at hp NM;subst NM;obtain⟨y,rfl,ff,rfl,hf,hF,hg1⟩:=hp;go_wp2
  go_ret2
  exact⟨_,rfl,ff,rfl,hf,hF.kept (AA w1 _ none) (by simp),Ab hg1 (AA w1 _ _)⟩
 | inr q=>
  obtain⟨c,j⟩:=q;rw[hc] at hp NM aK;obtain⟨u,rfl,bm,gX,hg1⟩:=hp;obtain⟨ao,cap,rfl⟩:=bm.slice;obtain⟨fq,b6⟩:=aK;rw[Ae] at b6;have HR:=Ac NM;clear NM;have HC:=Ac hc;clear hc;go_wp2_with fail;go_loopw [6] (fun u w'=>Q4j b s f (.iface tT (.pointer (some aT))) (.iface tL (.pointer (some aL))) w r u w') (fun _ w'=>s.size-Eh b w')
  case atStart=>
   have a7:=AA w1 (.cells #[.bool c.neg,.int .i64 c.kind,.slice ao c.terms.length cap] 200) none;have aR:=Ab a7 (AA (w1.alloc (.cells #[.bool c.neg,.int .i64 c.kind,.slice ao c.terms.length cap] 200)) (.cells #[.bool c.neg,.int .i64 c.kind,.slice ao c.terms.length cap] 200) none);have hsz:=hg1.size;have tC:=IM (base:=w.heap.size) (e:=200) (size:=3) (w1.alloc (.cells #[.bool c.neg,.int .i64 c.kind,.slice ao c.terms.length cap] 200)) #[.bool c.neg,.int .i64 c.kind,.slice ao c.terms.length cap] 1 (by simp;omega) (by decide) rfl;rw[EP] at tC;refine⟨j,s.data.toList.length+1,[c],by simp;omega,b6,by simp;omega,⟨_,tC,?_⟩,?_,Ab hg1 (A6 aR (some b)),HR.out⟩
   ·exact⟨.slice ao c.terms.length cap,[],rfl,Cv (TsAt.row bm aR (RowOk.none 0 0 w1) (by decide)) (by first|exact AW _|omega),rfl⟩
   ·rw[Pt]
    exact gX.row aR (RowOk.none w.heap.size 200 w1) (by decide) (by decide) oI oJ
  case round=>
   clear bm gX hg1 fq b6 HR HC;obtain⟨k,m,acc,gI,hk,aX,hcs,hst,hg,bJ⟩:=hrel;obtain⟨m,rfl⟩:∃m',m=m'+1:=⟨m-1,by omega⟩
   rw[De] at bJ;have HA:=Ac hst.at;have hle:=Be s.data.toList k (by simpa using hk);rw[Ae] at hle;obtain⟨lu,ai⟩:=hle;obtain⟨bf,aC,rfl⟩:=hcs.slice;cases mj:Ai s.data.toList (Ag s.data.toList k)==59
   ·rw[mj,AO (by simp)] at bJ
    have HN:=Ac bJ;clear bJ;obtain⟨vx,aH,hex,hG⟩:=hst
    go_wp2_with (go_at_call 156;refine(Ny b s k vx 59 _ rfl _ hk hs mj aH).mono ?_;rintro e w2⟨rfl,hb2,hg2⟩)
    refine(Wz b s _ _ tT aT tL aL w2 acc.length 4 _ _ rfl rfl (St.step hb2 hex hG hg2)).mono ?_;rintro e w3⟨rfl,fH,hg3⟩;have KY:=(hcs.row hg2 aH.rowOk (by decide) (by decide)).row hg3 hb2.rowOk (by decide) (by decide);have au:=Ab hg (Ab hg2 hg3);clear hcs aH hex hG hb2 hg2 hg3 hg;obtain⟨vy,hb3,zu,jS⟩:=fH;go_wp2_with fail;have pH:=Fj s.data.toList k
    have HX:∃x,Hid ((match An s.data.toList x with
      | .inl k=>.inl k
      | .inr (c,j)=>Dk m s.data.toList (acc++[⟨Ai s.data.toList (Ag s.data.toList k)==33,c.kind,c.terms⟩]) j)=r)/\k<=x/\x<=s.size/\
      Calls Tryz.prog 156 #[.pointer (some ⟨b,0,none⟩),.int .u8 33] w3 fun e w'=>e=.returned (.bool (Ai s.data.toList (Ag s.data.toList k)==33))/\PAt b s x vy w'/\w3.grownBy w' (some b):=by
     cases oN:Ai s.data.toList (Ag s.data.toList k)==33
     ·refine⟨Ag s.data.toList k,?_,lu,ai,?_⟩
      ·have:=Aa HN;rw[oN] at this;exact this
      ·have:=Ny b s (Ag s.data.toList k) vy 33 33 rfl w3 ai hs (by rw[pH];exact oN) hb3
       rw[pH] at this;exact this
     ·have yw:=Ap _ _ 33 (by decide) oN
      rw[Ae] at yw;refine⟨Ag s.data.toList k+1,?_,by omega,yw,?_⟩
      ·have:=Aa HN;rw[oN] at this;exact this
      ·have:=Jt b s (Ag s.data.toList k) vy 33 33 rfl w3 ai hs (by rw[pH];exact oN) hb3
       rw[pH] at this;exact this
    clear pH;obtain⟨x,ea,rI,rY,tr⟩:=HX;clear HN;generalize (Ai s.data.toList (Ag s.data.toList k)==33)=ng at *;refine tr.mono ?_;rintro e w4⟨rfl,hb4,hg4⟩;have lY:=St.step hb4 zu jS hg4;have vu:=KY.row hg4 hb3.rowOk (by decide) (by decide);have iT:=Ab au hg4;clear tr KY hb3 zu jS hb4 hg4 au;have aK:=Dt s.data.toList x (by simpa using rY);go_wp2_with fail;refine(Q0w b s x _ tT aT tL aL w4 rY hs lY).mono ?_;intro e w5 hp;have j9:=Aa ea;clear ea;cases hc:An s.data.toList x with
    | inl q=>
     rw[hc] at hp j9;obtain⟨y,rfl,ff,rfl,hf,hF,aY⟩:=hp;simp only at j9;subst j9;have hf':w.heap.size<=ff:=AU iT.size hf;have bQ:=Ab iT aY;clear lY vu aK hc;go_wp2
     go_ret2
     exact⟨_,rfl,ff,rfl,hf',hF.kept (AA w5 _ none) (by simp),Ab bQ (AA w5 _ _)⟩
    | inr q=>
     obtain⟨cc,j2⟩:=q;have aJ:=J4 _ _ _ _ hc;rw[hc] at hp j9 aK;obtain⟨u5,he,dK,jw,aY⟩:=hp;obtain⟨gK,aI,rfl⟩:=dK.slice;rw[aJ] at he;subst he;obtain⟨fq,b6⟩:=aK;rw[Ae] at b6;have HN:=Ac j9;clear j9 hc aJ;have jN:=vu.row aY lY.rowOk (by decide) (by decide);have bQ:=Ab iT aY;have vC:=iT.size;clear lY vu aY iT;obtain⟨xs,cJ,cP⟩:=jN;have a7:=AA w5 (.cells #[.bool ng,.int .i64 cc.kind,.slice gK cc.terms.length aI] 200) none;have aR:=Ab a7 (AA (w5.alloc (.cells #[.bool ng,.int .i64 cc.kind,.slice gK cc.terms.length aI] 200)) (.cells #[.bool ng,.int .i64 cc.kind,.slice gK cc.terms.length aI] 200) none);have hrow:=RowOk.of ((cJ.alloc (.cells #[.bool ng,.int .i64 cc.kind,.slice gK cc.terms.length aI] 200)).alloc (.cells #[.bool ng,.int .i64 cc.kind,.slice gK cc.terms.length aI] 200));have pF:=jw.row aR (RowOk.none w.heap.size 200 w5) (by decide) (by decide) oI oJ;have cO:=CsCells.row aR (RowOk.none 0 0 w5) (by decide) acc xs cP;have iM:TsAt w.heap.size _ _ _:=Cv (TsAt.row dK aR (RowOk.none 0 0 w5) (by decide)) (by first|exact vC|omega);have eK:=Ab bQ (A6 aR (some b));have yb:=bQ.size;clear a7 aR cP dK jw
     go_wp2_with (at_builtin;refine DG _ rfl _ _ 126 rfl w.heap.size 200 i0 (.agg #[.bool false,.int .i64 0,.slice none 0 0]) 3 40 Tryz.underlying126 aq hz0 hz1 hz2 rfl (by decide) _ acc.length xs rfl ((cJ.alloc _).alloc _) ⟨w5.heap.size+1,0,none⟩ 1 1 [.bool ng,.int .i64 cc.kind,.slice gK cc.terms.length aI] rfl rfl ?c1 ?c2 ?c3 ?c4 ?c5 ?_)
     case c1=>
      intro jj u hu
      match jj,hu with
      | 0,hu=>simp at hu;subst hu;simp[Addr.add]
      | 1,hu=>simp at hu;subst hu;simp[Addr.add]
      | 2,hu=>simp at hu;subst hu;simp[Addr.add]
      | n+3,hu=>simp at hu
     case c2=>
      intro u hu;simp at hu;rcases hu with rfl|rfl|rfl<;>rfl
     case c3=>unfold maxLen;omega
     case c4=>omega
     case c5=>simp;omega
     intro v' w7 hown hgrow _;have np:=pF.row hgrow hrow (by decide) (by decide) oI oJ;have po:=Fq eK hgrow hrow;have HA7:=Ac np.at;have cN:=CsCells.row hgrow hrow (by decide) acc xs cO;have yU:=TsAt.row iM hgrow hrow (by decide);have s5:CsAt w.heap.size v' (acc++[⟨ng,cc.kind,cc.terms⟩]) w7:=⟨_,by rw[AK];exact hown,CsCells.snoc (⟨ng,cc.kind,cc.terms⟩:Sv.Cond) _ yU acc xs cN⟩
     rw[<-N7 f acc cc ng] at np;clear hown hgrow pF eK cJ hrow cO cN iM yU;go_wp2;go_roundw
     case rel=>exact⟨j2,m,acc++[⟨ng,cc.kind,cc.terms⟩],by omega,by omega,by simp;omega,s5,np,po,Aa HN⟩
     case measure=>rw[Aa HA7,Aa HA];omega
   ·rw[mj,AQ rfl] at bJ
    subst bJ;obtain⟨vx,aH,hex,hG⟩:=hst
    go_wp2_with (go_at_call 156;refine(Jt b s k vx 59 _ rfl _ hk hs mj aH).mono ?_;rintro e w2⟨rfl,hb2,hg2⟩)
    go_ret2
    exact⟨_,rfl,hcs.row hg2 aH.rowOk (by decide) (by decide),St.step hb2 hex hG hg2,Ab hg hg2⟩
def C2(T:TypeId)(N:Nat)(x y:Value)(w:World):Prop:=w.heap[N]?=some (.cells #[x,y] T (0,0))
theorem C2.lt(h:C2 T N x y w):N<w.heap.size:=(CU.1 h).1
theorem C2.kept{row:Option Nat}(h:C2 T N x y w)(g:w.grownBy w' row)(hne:some N≠row):C2 T N x y w':=by
 unfold C2;rw[g.block N h.lt hne];exact h
theorem C2.c(h:C2 T N x y w):w.cell? ⟨N,0,none⟩=some x/\w.cell? ⟨N,1,none⟩=some y:=by
 unfold C2 at h;simp[World.cell?,h]
theorem C2.fz(h:C2 T N x y w)(o:Nat):w.frozen? ⟨N,o,none⟩=false:=by
 unfold C2 at h;simp[World.frozen?,h]
theorem C2.set2{b:Value}(h:C2 T N a b w)(x y:Value):C2 T N x y ((w.setCell ⟨N,0,none⟩ x).setCell ⟨N,1,none⟩ y):=by
 unfold C2 at h⊢;have h1:=BB w N 0 _ _ x h;have h2:=BB _ N 1 _ _ y h1;rw[h2];rfl
theorem Ea(w:World)(N:Nat)(x y:Value):w.grownBy ((w.setCell ⟨N,0,none⟩ x).setCell ⟨N,1,none⟩ y) (some N):=
 Ab (Aj w N 0 x) (Aj _ N 1 y)
theorem RowOk.one2{base:Nat}(h:C2 T N x y w)(hb:base<=N):RowOk base T (some N) w:=by
 intro g hg;cases hg
 exact⟨hb,_,_,h⟩
theorem M5(hf:W0.heap.size<=f)(hF:FAt f k eT W)(hg:W0.grownBy W (some b))(hg0:w.grownBy W0 (some b))(hlt:N<W0.heap.size)(hN:w.heap.size<=N)(x y:Value) :
  Bad b k eT w (.iface 112 (.pointer (some ⟨f,0,none⟩))) ((W.setCell ⟨N,0,none⟩ x).setCell ⟨N,1,none⟩ y):=
 ⟨f,rfl,AU hg0.size hf,hF.kept (Ea W N x y) (by simp;omega),Bi (Ab hg0 hg) (Ea W N x y) hN⟩
def Q4(b:Nat)(s:ByteArray)(f:Bool)(eT eL:Value)(w:World)(r:Nat ⊕ (Sv.Rule×Nat))(e:Ending)(w':World):Prop:=
 match r with
 | .inl k=>∃y,e=.returned (.tuple #[.agg #[.string ⟨#[]⟩,.slice none 0 0],y])/\Bad b k eT w y w'
 | .inr (q,j)=>∃u,e=.returned (.tuple #[.agg #[.string ⟨q.name.toArray⟩,u],.nilIface])/\CsAt w.heap.size u q.conds w'/\St b s j (f||Ej q) eT eL w'/\w.grownBy w' (some b)
theorem Z6(b:Nat)(s:ByteArray)(i:Nat)(f:Bool)(tT:TypeId)(aT:Addr)(tL:TypeId)(aL:Addr)(w:World)(hi:i<=s.size)(hs:s.size<=400)
 (hb:St b s i f (.iface tT (.pointer (some aT))) (.iface tL (.pointer (some aL))) w)(h:Aq 8 s.data.toList i=i) :
  Calls Tryz.prog 90 #[.pointer (some ⟨b,0,none⟩)] w fun e w'=>∃y,e=.returned (.tuple #[.agg #[.string ⟨#[]⟩,.slice none 0 0],y])/\Bad b i (.iface tT (.pointer (some aT))) w y w':=by
 obtain⟨v,hp,hex,hG⟩:=hb;have b7:=fun o=>hp.kept (AA w o none) (by simp)
 have lB:=fun o=>hG.kept (AA w o (some b))
 have cx:C2 128 w.heap.size (.string ⟨#[]⟩) (.slice none 0 0) (w.alloc (.cells #[.string ⟨#[]⟩,.slice none 0 0] 128)):=AR _ _;have hlt:=hp.lt;have HH:=Ac h;clear h;go_enter Tryz.func90,Tryz.ntmps90;go_wp2_with fail;refine(Q19 b s i v _ tT aT _ hi hs (Aa HH) (b7 _) (lB _)).mono ?_;rintro e w1⟨y,rfl,ff,rfl,hf,hF,hg⟩;have b9:=cx.kept hg (by simp;omega);obtain⟨d0,d1⟩:=b9.c;have z0:=b9.fz 0;have z1:=b9.fz 1;have gi:=M5 hf hF hg (AA w _ (some b)) cx.lt (AW _) (.string ⟨#[]⟩) (.slice none 0 0);clear hf hF hg;go_wp2;obtain⟨q0,q1⟩:=(b9.set2 (.string ⟨#[]⟩) (.slice none 0 0)).c;exact BO (v:=.tuple #[.agg #[.string ⟨#[]⟩,.slice none 0 0],.iface 112 (.pointer (some ⟨ff,0,none⟩))]) (by simp[results,Tryz.results90,go_sem,q0,q1]) rfl ⟨_,rfl,gi⟩
theorem Z7(b:Nat)(s:ByteArray)(i:Nat)(f:Bool)(tT:TypeId)(aT:Addr)(tL:TypeId)(aL:Addr)(w:World)(hi:i<=s.size)(hs:s.size<=400)
 (hb:St b s i f (.iface tT (.pointer (some aT))) (.iface tL (.pointer (some aL))) w)(h:Aq 8 s.data.toList i≠i)(h2:(Ai s.data.toList (Ag s.data.toList (Aq 8 s.data.toList i))==58)=false) :
  Calls Tryz.prog 90 #[.pointer (some ⟨b,0,none⟩)] w fun e w'=>∃y,e=.returned (.tuple #[.agg #[.string ⟨#[]⟩,.slice none 0 0],y])/\Bad b (Ag s.data.toList (Aq 8 s.data.toList i)) (.iface tT (.pointer (some aT))) w y w':=by
 obtain⟨v,hp,hex,hG⟩:=hb;have b7:=fun o=>hp.kept (AA w o none) (by simp)
 have lB:=fun o=>hG.kept (AA w o (some b))
 have cx:C2 128 w.heap.size (.string ⟨#[]⟩) (.slice none 0 0) (w.alloc (.cells #[.string ⟨#[]⟩,.slice none 0 0] 128)):=AR _ _;have hlt:=hp.lt;have hnl:=Dc 8 s.data.toList i (by simpa using hi);rw[Ae] at hnl;go_enter Tryz.func90,Tryz.ntmps90
 go_wp2_with (go_at_call 125;refine(R8 b s i v _ hi hs h (b7 _)).mono ?_;rintro e w1⟨rfl,hb1,hg1⟩)
 refine(Ow b s _ v 58 _ rfl w1 tT aT _ hnl.2.1 hs h2 hb1 ((lB _).kept hg1)).mono ?_;rintro e w2⟨y,rfl,ff,rfl,hf,hF,hg2⟩;have b9:=cx.kept hg1 (by simp;omega);have bb:=b9.kept hg2 (by simp;omega);obtain⟨d0,d1⟩:=bb.c;have z0:=bb.fz 0;have z1:=bb.fz 1;have gi:=M5 hf hF hg2 (Ab (AA w _ (some b)) hg1) b9.lt (AW _) (.string ⟨#[]⟩) (.slice none 0 0);clear hf hF hg1 hg2;go_wp2;obtain⟨q0,q1⟩:=(bb.set2 (.string ⟨#[]⟩) (.slice none 0 0)).c;exact BO (v:=.tuple #[.agg #[.string ⟨#[]⟩,.slice none 0 0],.iface 112 (.pointer (some ⟨ff,0,none⟩))]) (by simp[results,Tryz.results90,go_sem,q0,q1]) rfl ⟨_,rfl,gi⟩
theorem Z8(b:Nat)(s:ByteArray)(i:Nat)(f:Bool)(tT:TypeId)(aT:Addr)(tL:TypeId)(aL:Addr)(w:World)(hi:i<=s.size)(hs:s.size<=400)
 (hb:St b s i f (.iface tT (.pointer (some aT))) (.iface tL (.pointer (some aL))) w)(h:Aq 8 s.data.toList i≠i)(h2:(Ai s.data.toList (Ag s.data.toList (Aq 8 s.data.toList i))==58)=true)(r:Nat ⊕ (Sv.Rule×Nat))(hR:(match Bl s.data.toList (Ag s.data.toList (Aq 8 s.data.toList i)+1) with
   | .inl m=>.inl m
   | .inr (cs,m)=>.inr (⟨Do s.data.toList i (Aq 8 s.data.toList i),cs⟩,m))=r) :
  Calls Tryz.prog 90 #[.pointer (some ⟨b,0,none⟩)] w fun e w'=>Q4 b s f (.iface tT (.pointer (some aT))) (.iface tL (.pointer (some aL))) w r e w':=by
 have HR:=Ac hR;clear hR;obtain⟨oI,oJ,kR⟩:=hb.base;obtain⟨v,hp,hex,hG⟩:=hb;have b7:=fun o=>hp.kept (AA w o none) (by simp)
 have lB:=fun o=>hG.kept (AA w o (some b))
 have py:=fun o=>hex.kept (AA w o (some b))
 have cx:C2 128 w.heap.size (.string ⟨#[]⟩) (.slice none 0 0) (w.alloc (.cells #[.string ⟨#[]⟩,.slice none 0 0] 128)):=AR _ _;have hlt:=hp.lt;have hnl:=Dc 8 s.data.toList i (by simpa using hi);rw[Ae] at hnl;have eH:=Ap _ _ 58 (by decide) h2;rw[Ae] at eH;go_enter Tryz.func90,Tryz.ntmps90
 go_wp2_with (go_at_call 125;refine(R8 b s i v _ hi hs h (b7 _)).mono ?_;rintro e w1⟨rfl,hb1,hg1⟩)
 refine(Il b s _ v 58 _ rfl w1 hnl.2.1 hs h2 hb1).mono ?_;rintro e w2⟨rfl,hb2,hg2⟩;have b9:=cx.kept hg1 (by simp;omega);have bb:=b9.kept hg2 (by simp;omega);have bM:=Ab (Ab (AA w _ (some b)) hg1) hg2;have eG:=St.step hb2 ((py _).kept hg1) ((lB _).kept hg1) hg2;have cD:=Aa HR;clear HR;generalize Do s.data.toList i (Aq 8 s.data.toList i)=nm at *;have HR:=Ac cD;clear hb1 hg1 hb2 hg2 b9 cx b7 lB py hp hex hG cD;go_wp2_with fail;refine(Q1m b s _ _ tT aT tL aL w2 eH hs eG).mono ?_;intro e w3 aN;cases hr:Bl s.data.toList (Ag s.data.toList (Aq 8 s.data.toList i)+1) with
 | inl m=>
  have fN:=Aa HR;rw[hr] at aN fN;subst fN;obtain⟨y,rfl,ff,rfl,hf,hF,hg3⟩:=aN;have eX:=bb.kept hg3 (by simp;omega);obtain⟨d0,d1⟩:=eX.c;have z0:=eX.fz 0;have z1:=eX.fz 1;have gi:=M5 hf hF hg3 bM bb.lt (AW _) (.string ⟨#[]⟩) (.slice none 0 0);clear hf hF hg3 hr eG;go_wp2;obtain⟨q0,q1⟩:=(eX.set2 (.string ⟨#[]⟩) (.slice none 0 0)).c;exact BO (v:=.tuple #[.agg #[.string ⟨#[]⟩,.slice none 0 0],.iface 112 (.pointer (some ⟨ff,0,none⟩))]) (by simp[results,Tryz.results90,go_sem,q0,q1]) rfl ⟨_,rfl,gi⟩
 | inr q=>
  obtain⟨cs,m⟩:=q;have fN:=Aa HR;rw[hr] at aN fN;subst fN;obtain⟨u,rfl,hcs,fH,hg3⟩:=aN;obtain⟨ao,cap,rfl⟩:=hcs.slice;have eX:=bb.kept hg3 (by simp;omega);obtain⟨d0,d1⟩:=eX.c;have z0:=eX.fz 0;have z1:=eX.fz 1;have au:=Ab bM hg3;clear hr eG hg3;go_wp2;obtain⟨q0,q1⟩:=(eX.set2 (.string ⟨nm.toArray⟩) (.slice ao cs.length cap)).c;have k3:=Ea w3 w.heap.size (.string ⟨nm.toArray⟩) (.slice ao cs.length cap);refine BO (v:=.tuple #[.agg #[.string ⟨nm.toArray⟩,.slice ao cs.length cap],.nilIface]) (by simp[results,Tryz.results90,go_sem,q0,q1]) rfl ⟨.slice ao cs.length cap,rfl,?_,?_,?_⟩
  ·obtain⟨xs,h1,h3⟩:=hcs.row k3 (RowOk.one2 eX (AW _)) (by decide) (by decide)
   have hle:w.heap.size<=w2.heap.size:=by have:=bM.size;omega
   exact⟨xs,Cv h1 hle,CsCells.weak hle _ xs h3⟩
  ·exact fH.row k3 (RowOk.one2 eX (AW _)) (by decide) (by decide) oI oJ
  ·exact Bi au k3 (AW _)
theorem Q3z(b:Nat)(s:ByteArray)(i:Nat)(f:Bool)(tT:TypeId)(aT:Addr)(tL:TypeId)(aL:Addr)(w:World)(hi:i<=s.size)(hs:s.size<=400)
 (hb:St b s i f (.iface tT (.pointer (some aT))) (.iface tL (.pointer (some aL))) w) :
  Calls Tryz.prog 90 #[.pointer (some ⟨b,0,none⟩)] w fun e w'=>Q4 b s f (.iface tT (.pointer (some aT))) (.iface tL (.pointer (some aL))) w (A1 s.data.toList i) e w':=by
 by_cases h:Aq 8 s.data.toList i=i
 ·have e:A1 s.data.toList i=.inl i:=by unfold A1;simp only;rw[AQ h]
  rw[e];exact Z6 b s i f tT aT tL aL w hi hs hb h
 ·cases h2:Ai s.data.toList (Ag s.data.toList (Aq 8 s.data.toList i))==58
  ·have e:A1 s.data.toList i=.inl (Ag s.data.toList (Aq 8 s.data.toList i)):=by unfold A1;simp only;rw[AO h,h2];rfl
   rw[e];exact Z7 b s i f tT aT tL aL w hi hs hb h h2
  ·refine Z8 b s i f tT aT tL aL w hi hs hb h h2 _ ?_
   unfold A1;simp only;rw[AO h,h2,AQ rfl];cases Bl s.data.toList (Ag s.data.toList (Aq 8 s.data.toList i)+1)<;>rfl
def RsCells(B:Nat)(w:World):List Sv.Rule->List Value->Prop
 | [],xs=>xs=[]
 | q::rs,xs=>∃u ys,xs=.string ⟨q.name.toArray⟩::u::ys/\CsAt B u q.conds w/\RsCells B w rs ys
theorem RsCells.row{B:Nat}{w w':World}{base':Nat}{e':TypeId}{row:Option Nat}(hg:w.grownBy w' row)(hr:RowOk base' e' row w)(hne:e'≠258)(dL:e'≠200):∀(rs:List Sv.Rule) (xs:List Value),RsCells B w rs xs->RsCells B w' rs xs
 | [],_,h=>h
 | _::rs,_,⟨u,ys,h1,h2,h3⟩=>⟨u,ys,h1,h2.row hg hr hne dL,RsCells.row hg hr hne dL rs ys h3⟩
theorem RsCells.snoc{B:Nat}{w:World}(q:Sv.Rule)(u:Value)(hu:CsAt B u q.conds w):∀(rs:List Sv.Rule) (xs:List Value),RsCells B w rs xs->RsCells B w (rs++[q]) (xs++[.string ⟨q.name.toArray⟩,u])
 | [],xs,h=>⟨u,[],by rw[show xs=[] from h];rfl,hu,rfl⟩
 | _::rs,_,⟨v,ys,h1,h2,h3⟩=>⟨v,ys++[.string ⟨q.name.toArray⟩,u],by rw[h1];rfl,h2,RsCells.snoc q u hu rs ys h3⟩
def RsAt(base:Nat)(v:Value)(rs:List Sv.Rule)(w:World):Prop:=∃xs,w.ownsRow base 128 2 v rs.length xs/\RsCells base w rs xs
theorem RsAt.slice{base:Nat}{u:Value}{rs:List Sv.Rule}{w:World}(h:RsAt base u rs w):∃ao cap,u=.slice ao rs.length cap:=by
 obtain⟨xs,h,_⟩:=h;rcases h.2 with ⟨h1,h2⟩|⟨g,cap,cur,h1,_⟩
 ·exact⟨none,0,by rw[h2];exact h1⟩
 ·exact⟨_,_,h1⟩
theorem RsAt.row{w w':World}{base base':Nat}{e':TypeId}{v:Value}{rs:List Sv.Rule}{row:Option Nat}(h:RsAt base v rs w)(hg:w.grownBy w' row)(hr:RowOk base' e' row w)(hne:e'≠258)(dL:e'≠200)(vQ:e'≠128):RsAt base v rs w':=by
 obtain⟨xs,h1,h2⟩:=h;exact⟨xs,Fu h1 hg hr vQ,RsCells.row hg hr hne dL rs xs h2⟩
theorem CsAt.weaker{base:Nat}{cs:List Sv.Cond}(h:CsAt base v cs w)(hb:base'<=base):CsAt base' v cs w:=by
 obtain⟨xs,h1,h2⟩:=h;exact⟨xs,Cv h1 hb,CsCells.weak hb cs xs h2⟩
theorem RsCells.weak{B B':Nat}{w:World}(hB:B'<=B):∀(rs:List Sv.Rule) (xs:List Value),RsCells B w rs xs->RsCells B' w rs xs
 | [],_,h=>h
 | _::rs,_,⟨u,ys,h1,h2,h3⟩=>⟨u,ys,h1,h2.weaker hB,RsCells.weak hB rs ys h3⟩
theorem RsAt.weak{base base':Nat}{v:Value}{rs:List Sv.Rule}{w:World}(h:RsAt base v rs w)(hb:base'<=base):RsAt base' v rs w:=by
 obtain⟨xs,h1,h2⟩:=h;exact⟨xs,Cv h1 hb,RsCells.weak hb rs xs h2⟩
theorem S0(f:Bool)(rs:List Sv.Rule)(q:Sv.Rule):(f||D6 (rs++[q]))=(f||D6 rs||decide (8<=rs.length)||Ej q):=by
 unfold D6;rw[AK,BC,ES];have h:=K4 f 8 rs.length;have h2:[q].any Ej=Ej q:=by simp
 rw[h2,<-JK,h];cases f<;>cases decide (8<rs.length)<;>cases decide (8<=rs.length)<;>cases rs.any Ej<;>cases Ej q<;>rfl
theorem Df(n:Nat)(l:List UInt8)(acc:List Sv.Rule)(i:Nat):F8 (n+1) l acc i=
  if i<l.length then
   match A1 l i with
   | .inl k=>.inl k
   | .inr (q,j)=>F8 n l (acc++[q]) (Ag l j)
  else .inr acc:=rfl
theorem Tryz.infoRule:(Tryz.prog.info? 128).map (fun i=>(i.zero,i.size,i.bytes))=some (some (.agg #[.string ⟨#[]⟩,.slice none 0 0]),2,40):=by kernel_rfl
def Up(b:Nat)(s:ByteArray)(f:Bool)(eT eL:Value)(w:World)(r:Nat ⊕ (List Sv.Rule))(e:Ending)(w':World):Prop:=
 match r with
 | .inl k=>∃y,e=.returned (.tuple #[.slice none 0 0,y])/\Bad b k eT w y w'
 | .inr rs=>∃u j,e=.returned (.tuple #[u,.nilIface])/\RsAt w.heap.size u rs w'/\St b s j (f||D6 rs) eT eL w'/\w.grownBy w' (some b)
def Q4l(b:Nat)(s:ByteArray)(f:Bool)(eT eL:Value)(w:World)(r:Nat ⊕ (List Sv.Rule))(u:Value)(w':World):Prop:=
 ∃(k n:Nat) (rs:List Sv.Rule),s.size<k+n/\k<=s.size/\rs.length<=k/\RsAt w.heap.size u rs w'/\St b s k (f||D6 rs) eT eL w'/\w.grownBy w' (some b)/\F8 n s.data.toList rs k=r
theorem Q2h(b:Nat)(s:ByteArray)(f:Bool)(tT:TypeId)(aT:Addr)(tL:TypeId)(aL:Addr)(w:World)(hs:s.size<=400)
 (hb:St b s 0 f (.iface tT (.pointer (some aT))) (.iface tL (.pointer (some aL))) w) :
  Calls Tryz.prog 63 #[.pointer (some ⟨b,0,none⟩)] w fun e w'=>Up b s f (.iface tT (.pointer (some aT))) (.iface tL (.pointer (some aL))) w (Bn s.data.toList) e w':=by
 obtain⟨i0,aq,hz0,hz1,hz2⟩:=info_parts Tryz.infoRule;obtain⟨oI,oJ,kR⟩:=hb.base;generalize hr:Bn s.data.toList=r;unfold Bn at hr;have HR:=Ac hr;clear hr;obtain⟨v,hp,hex,hG⟩:=hb;have hle:=Be s.data.toList 0 (by simp);rw[Ae] at hle;go_enter Tryz.func63,Tryz.ntmps63
 go_wp2_with (go_at_call 88;refine(Mf b s 0 v _ (AG _) hs hp).mono ?_;rintro e w1⟨rfl,hb1,hg1⟩)
 go_loopw [4] (fun u w'=>Q4l b s f (.iface tT (.pointer (some aT))) (.iface tL (.pointer (some aL))) w r u w') (fun _ w'=>s.size-Eh b w')
 case atStart=>
  exact⟨Ag s.data.toList 0,s.data.toList.length+1,[],by simp;omega,hle.2,AG _,⟨[],EJ _ _ _ _,rfl⟩,by simpa[D6] using St.step hb1 hex hG hg1,hg1,Aa HR⟩
 case round=>
  clear hb1 hg1 hp hex hG HR hle;obtain⟨k,m,acc,gI,hk,aX,bX,hst,hg,bJ⟩:=hrel;obtain⟨m,rfl⟩:∃m',m=m'+1:=⟨m-1,by omega⟩
  rw[Df,Ae] at bJ;have HA:=Ac hst.at;obtain⟨bf,aC,rfl⟩:=bX.slice;obtain⟨vx,aH,hex,hG⟩:=hst;have c0:=aH.c0;have c1:=aH.c1;by_cases hlt:k<s.size
  ·rw[AQ hlt] at bJ
   have HN:=Ac bJ;clear bJ;have hd:decide ((k:Int)<(s.size:Int))=true:=by simp;omega
   have aK:=Ig s.data.toList k (by simpa using hk);go_wp2_with fail;go_quiet (fail);go_wp2_with fail;refine(Wz b s _ _ tT aT tL aL _ acc.length 8 _ _ rfl rfl ⟨vx,aH.drewN _,hex.kept (Af wr _ _),hG.drewN _⟩).mono ?_;rintro e w3⟨rfl,fH,hg3⟩;have jD:=bX.row (Ja hg3) aH.rowOk (by decide) (by decide) (by decide);have au:=Ab hg (Ja hg3);clear bX aH hex hG hg3 hg c0 c1;go_wp2_with fail;refine(Q3z b s k _ tT aT tL aL w3 hk hs fH).mono ?_;intro e w5 hp;have j9:=Aa HN;clear HN;cases hc:A1 s.data.toList k with
   | inl q=>
    rw[hc] at hp j9;obtain⟨y,rfl,ff,rfl,hf,hF,aY⟩:=hp;simp only at j9;subst j9;have hf':w.heap.size<=ff:=AU au.size hf;have bQ:=Ab au aY;clear fH jD aK hc;go_wp2
    go_ret2
    exact⟨_,rfl,ff,rfl,hf',hF.kept (AA w5 _ none) (by simp),Ab bQ (AA w5 _ _)⟩
   | inr q=>
    obtain⟨ru,j2⟩:=q;rw[hc] at hp j9 aK;obtain⟨u5,rfl,jN,jw,aY⟩:=hp;obtain⟨gK,aI,rfl⟩:=jN.slice;obtain⟨fq,b6⟩:=aK;rw[Ae] at b6;have HN:=Ac j9;clear j9 hc;have vK:=jD.row aY fH.rowOk (by decide) (by decide) (by decide);have bQ:=Ab au aY;have vC:=au.size;clear fH jD aY au;obtain⟨xs,cJ,cP⟩:=vK;have a7:=AA w5 (.cells #[.string ⟨ru.name.toArray⟩,.slice gK ru.conds.length aI] 128) none;have aR:=Ab a7 (AA (w5.alloc (.cells #[.string ⟨ru.name.toArray⟩,.slice gK ru.conds.length aI] 128)) (.cells #[.string ⟨ru.name.toArray⟩,.slice gK ru.conds.length aI] 128) none);have hrow:=RowOk.of ((cJ.alloc (.cells #[.string ⟨ru.name.toArray⟩,.slice gK ru.conds.length aI] 128)).alloc (.cells #[.string ⟨ru.name.toArray⟩,.slice gK ru.conds.length aI] 128));have pF:=jw.row aR (RowOk.none w.heap.size 128 w5) (by decide) (by decide) oI oJ;have cO:=RsCells.row aR (RowOk.none 0 0 w5) (by decide) (by decide) acc xs cP;have kO:=(CsAt.row jN aR (RowOk.none 0 0 w5) (by decide) (by decide)).weaker (base':=w.heap.size) (by first|exact vC|omega);have eK:=Ab bQ (A6 aR (some b));have yb:=bQ.size;clear a7 aR cP jN jw
    go_wp2_with (at_builtin;refine DG _ rfl _ _ 77 rfl w.heap.size 128 i0 (.agg #[.string ⟨#[]⟩,.slice none 0 0]) 2 40 Tryz.underlying77 aq hz0 hz1 hz2 rfl (by decide) _ acc.length xs rfl ((cJ.alloc _).alloc _) ⟨w5.heap.size+1,0,none⟩ 1 1 [.string ⟨ru.name.toArray⟩,.slice gK ru.conds.length aI] rfl rfl ?c1 ?c2 ?c3 ?c4 ?c5 ?_)
    case c1=>
     intro jj u hu
     match jj,hu with
     | 0,hu=>simp at hu;subst hu;simp[Addr.add]
     | 1,hu=>simp at hu;subst hu;simp[Addr.add]
     | n+2,hu=>simp at hu
    case c2=>
     intro u hu;simp at hu;rcases hu with rfl|rfl<;>rfl
    case c3=>unfold maxLen;omega
    case c4=>omega
    case c5=>simp;omega
    intro v' w7 hown hgrow _;have np:=pF.row hgrow hrow (by decide) (by decide) oI oJ;have po:=Fq eK hgrow hrow;have cN:=RsCells.row hgrow hrow (by decide) (by decide) acc xs cO;have s5:=CsAt.row kO hgrow hrow (by decide) (by decide);have vJ:RsAt w.heap.size v' (acc++[ru]) w7:=⟨_,by rw[AK];exact hown,RsCells.snoc ru _ s5 acc xs cN⟩
    rw[<-S0 f acc ru] at np;clear hown hgrow pF eK cJ hrow cO cN kO s5;have hle:=Be s.data.toList j2 (by simpa using b6);rw[Ae] at hle;obtain⟨vz,rL,UC,ix⟩:=np;obtain⟨aoz,capz,rfl⟩:=vJ.slice
    go_wp2_with (go_at_call 88;refine(Mf b s j2 vz _ b6 hs rL).mono ?_;rintro e w8⟨rfl,uB,jc⟩)
    rw[AK,BC] at vJ;refine⟨⟨Ag s.data.toList j2,m,acc++[ru],by omega,hle.2,by simp;omega,vJ.row jc rL.rowOk (by decide) (by decide) (by decide),St.step uB UC ix jc,Ab po jc,Aa HN⟩,?_⟩;rw[uB.at,Aa HA];omega
  ·rw[AO hlt] at bJ
   subst bJ;have hd:decide ((k:Int)<(s.size:Int))=false:=by simp;omega
   go_wp2_with fail;go_quiet (fail);go_wp2
   go_ret2
   exact⟨_,k,rfl,bX.row (Af wr _ none) (RowOk.none 0 0 wr) (by decide) (by decide) (by decide),⟨vx,aH.drewN _,hex.kept (Af wr _ _),hG.drewN _⟩,Ab hg (Af _ _ _)⟩
def F1(eT eL:Value)(w:World)(s:ByteArray)(e:Ending)(w':World):Prop:=
 w.grownBy w' none/\
 if 400<s.size then ∃g i,e=.returned (.tuple #[.slice none 0 0,.iface 112 (.pointer (some ⟨g,0,none⟩))])/\FAt g i eL w'
 else match Bn s.data.toList with
  | .inl k=>∃g,e=.returned (.tuple #[.slice none 0 0,.iface 112 (.pointer (some ⟨g,0,none⟩))])/\FAt g k eT w'
  | .inr rs=>
   if D6 rs=true then ∃g i,e=.returned (.tuple #[.slice none 0 0,.iface 112 (.pointer (some ⟨g,0,none⟩))])/\FAt g i eL w'
   else ∃u,e=.returned (.tuple #[u,.nilIface])/\RsAt w.heap.size u rs w'
theorem Tw(s:ByteArray)(w:World)(tT:TypeId)(aT:Addr)(tL:TypeId)(aL:Addr)(hL:w.cell? ⟨0,0,none⟩=some (.iface tL (.pointer (some aL))))(hm:s.size<=maxLen)(hs:400<s.size) :
  Calls Tryz.prog 35 #[.string s] w fun e w'=>F1 (.iface tT (.pointer (some aT))) (.iface tL (.pointer (some aL))) w s e w':=by
 unfold maxLen at hm;have hd:decide ((400:Int)<(s.size:Int))=true:=by simp;omega
 go_enter Tryz.func35,Tryz.ntmps35;go_wp2
 go_region
 all_goals
  go_wp2
  go_ret2
  refine⟨Ah (AA w _ none),?_⟩;rw[AQ hs];exact⟨w.heap.size,400,rfl,AR _ _⟩
theorem Qn(s:ByteArray)(w:World)(tT:TypeId)(aT:Addr)(tL:TypeId)(aL:Addr)(hT:w.cell? ⟨2,0,none⟩=some (.iface tT (.pointer (some aT))))(hL:w.cell? ⟨0,0,none⟩=some (.iface tL (.pointer (some aL))))(hs:¬ 400<s.size) :
  Calls Tryz.prog 35 #[.string s] w fun e w'=>F1 (.iface tT (.pointer (some aT))) (.iface tL (.pointer (some aL))) w s e w':=by
 have hd:decide ((400:Int)<(s.size:Int))=false:=by simp;omega
 have hs':s.size<=400:=by omega
 have lT:2<w.heap.size:=CD w _ hT;have lL:0<w.heap.size:=CD w _ hL;have hP0:PAt w.heap.size s 0 (.pointer none) (w.alloc (.cells #[.string s,.int .i64 0,.pointer none] 117)):=AR _ _
 have fJ:St w.heap.size s 0 false (.iface tT (.pointer (some aT))) (.iface tL (.pointer (some aL))) (w.alloc (.cells #[.string s,.int .i64 0,.pointer none] 117)):=
  ⟨.pointer none,hP0,.inl ⟨rfl,rfl⟩,by omega,by omega,(Ii w _ _ _ lT).trans hT,(Ii w _ _ _ lL).trans hL⟩
 have a7:=AA w (.cells #[.string s,.int .i64 0,.pointer none] 117) none;have HS:=Ac hs;clear hs;go_enter Tryz.func35,Tryz.ntmps35;go_wp2_with fail;refine(Q2h _ s false tT aT tL aL _ hs' fJ).mono ?_;intro e w1 hp;cases hr:Bn s.data.toList with
 | inl k=>
  rw[hr] at hp;obtain⟨y,rfl,ff,rfl,hf,hF,hg⟩:=hp;have hg1:=Bi a7 hg (AW _);have HR:=Ac hr;clear hr;go_wp2
  go_ret2
  refine⟨hg1,?_⟩;rw[AO (Aa HS),Aa HR];exact⟨ff,rfl,hF⟩
 | inr rs=>
  rw[hr] at hp;obtain⟨u,j,rfl,bX,⟨vx,aH,hex,hG⟩,hg⟩:=hp;have hg1:=Bi a7 hg (AW _);obtain⟨ao,cap,rfl⟩:=bX.slice;have HR:=Ac hr;clear hr;have c2:=aH.c2;rw[EM] at hex;rcases hex with ⟨px,rfl⟩|⟨px,gg,ii,rfl,hne,hF⟩
  ·have HE:=Ac px
   clear px;go_wp2
   go_ret2
   refine⟨hg1,?_⟩;rw[AO (Aa HS),Aa HR];simp only;rw[Aa HE,AO (by simp)];exact⟨_,rfl,bX.weak (by simp)⟩
  ·have HE:=Ac px
   clear px;go_wp2;go_quiet (fail);go_wp2
   go_ret2
   refine⟨Ab hg1 (Af _ _ _),?_⟩;rw[AO (Aa HS),Aa HR];simp only;rw[Aa HE,AQ rfl];exact⟨gg,ii,rfl,hF⟩
theorem Nv(s:ByteArray)(w:World)(tT:TypeId)(aT:Addr)(tL:TypeId)(aL:Addr)(hT:w.cell? ⟨2,0,none⟩=some (.iface tT (.pointer (some aT))))(hL:w.cell? ⟨0,0,none⟩=some (.iface tL (.pointer (some aL))))(hm:s.size<=maxLen) :
  Calls Tryz.prog 35 #[.string s] w fun e w'=>F1 (.iface tT (.pointer (some aT))) (.iface tL (.pointer (some aL))) w s e w':=by
 by_cases hs:400<s.size
 ·exact Tw s w tT aT tL aL hL hm hs
 ·exact Qn s w tT aT tL aL hT hL hs
end Go.Proofs.YtolhbeekfjnfmaaGreatDoor

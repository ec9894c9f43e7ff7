import Derived.Test.YtolhbeekfjnfmaaGreatDoorMA
import Derived.Laws.IdiomStrings
import Derived.Test.YtolhbeekfjnfmaaGreatDoorM06
set_option maxHeartbeats 8000000
set_option maxRecDepth 100000
namespace Go.Proofs.YtolhbeekfjnfmaaGreatDoor
open Go.RowKit
abbrev BK:=@Addr.mk.injEq
abbrev KC:=@Lib.itoa_nonneg
variable {w w' w4:World}{base N k C kd i:Nat}{v x y a b c v':Value}{ts:List Sv.Term}{T e:TypeId}{s:ByteArray}{bd nt:Bool}{t:Sv.Term}
theorem Jn(w:World)(c:UInt8):Sem.run Tryz.prog (convert 123 9 (.slice (some ⟨w.heap.size,0,none⟩) 1 1)) (w.alloc (.cells #[.int .u8 c.toNat] 5))=.ok (.string ⟨#[c]⟩) (w.alloc (.cells #[.int .u8 c.toNat] 5)):=by
 have h:=run_convert_bytes_back (P:=Tryz.prog) (w.alloc (.cells #[.int .u8 c.toNat] 5)) 123 9 5 ⟨w.heap.size,0,none⟩ 1 [c] Tryz.underlying123 Tryz.underlying5 Tryz.underlying9 (by
  intro j hj;obtain rfl:j=0:=by simp at hj;omega
  simp[Addr.add])
 exact h
theorem Vh(w:World)(n:Nat)(c:UInt8):Sem.run Tryz.prog (convert 123 9 (.slice (some ⟨w.heap.size,0,none⟩) 1 1)) ((w.drewN n).alloc (.cells #[.int .u8 c.toNat] 5))=.ok (.string ⟨#[c]⟩) ((w.drewN n).alloc (.cells #[.int .u8 c.toNat] 5)):=Jn (w.drewN n) c
theorem P0(l:List UInt8)(i k:Nat)(hik:i<=k)(hk:k<l.length):Ct l i (k+1)=Ct l i k++[Ai l k]:=by
 unfold Ct;rw[CY,AB hk,List.drop_append_of_le_length (by simp;omega),H9 l k hk];rfl
theorem Ef(a b:List UInt8):(⟨a.toArray⟩:ByteArray)++⟨b.toArray⟩=⟨(a++b).toArray⟩:=by
 apply ByteArray.ext
 simp
theorem Rg(t:ByteArray)(h:0<t.size):t.toList.isEmpty=false:=by
 rw[Lib.toList_data,List.isEmpty_eq_false_iff];intro e;have:=BJ List.length e;rw[Ae,CJ] at this;omega
theorem Zq(b:Nat)(s:ByteArray)(i:Nat)(w:World)(hi:i<=s.size)(hs:s.size<=400)(h:Ao 8 s.data.toList i=i)(hb:VAt b s i false w) :
  Calls Tryz.prog 149 #[.pointer (some ⟨b,0,none⟩)] w fun e w'=>e=.returned (.string ⟨#[]⟩)/\VAt b s i true w'/\w.grownBy w' (some b):=by
 have hl:=Lf _ _ h;clear h;have f2:=hb.fz 2;have c2:=hb.c2;go_enter Tryz.func149,Tryz.ntmps149;go_wp2;go_loopw [3] (fun x w'=>x=.string ⟨#[]⟩/\w'=w) (fun _ _=>0)
 case atStart=>exact⟨rfl,rfl⟩
 case round=>
  obtain⟨rfl,rfl⟩:=hrel
  go_wp2_with (first|(go_at_call 148;refine(A9 b s i _ hi hs hb).mono ?_;rintro e w1⟨rfl,n,rfl⟩)|(go_at_call 176;refine(Cv _ _).mono ?_;rintro e w3⟨rfl,rfl⟩))
  go_ret;exact⟨rfl,VAt.set2 (hb.drewN n) _,Ab (Ad wr n _) (Aj _ b 2 _)⟩
theorem Vv(b:Nat)(s:ByteArray)(i:Nat)(w:World)(hi:i<=s.size)(hs:s.size<=400)(h:Ao 8 s.data.toList i≠i)(hb:VAt b s i false w) :
  Calls Tryz.prog 149 #[.pointer (some ⟨b,0,none⟩)] w fun e w'=>e=.returned (.string ⟨(Ct s.data.toList i (Ao 8 s.data.toList i)).toArray⟩)/\VAt b s (Ao 8 s.data.toList i) false w'/\w.grownBy w' (some b):=by
 have hnl:=Dh 8 s.data.toList i (by simpa using hi);rw[Ae] at hnl;obtain⟨dR,gK,TU⟩:=hnl;obtain⟨j,hj⟩:∃j,Ao 8 s.data.toList i=j:=⟨_,rfl⟩
 rw[hj] at h dR gK TU⊢;have HJ:Hid (Ao 8 s.data.toList i=j):=hj;clear hj;go_enter Tryz.func149,Tryz.ntmps149;go_wp2;go_loopw [3] (fun x w'=>∃(k m:Nat) (t:ByteArray),k+m=i+8/\k<=s.size/\i<=k/\x=.string t/\t=⟨(Ct s.data.toList i k).toArray⟩/\t.size+i=k/\VAt b s k false w'/\w.grownBy w' (some b)/\Ao m s.data.toList k=j) (fun _ w'=>s.size-El b w')
 case atStart=>exact⟨i,8,⟨#[]⟩,rfl,hi,AW _,rfl,by simp[Ct],by simp[ByteArray.size],hb,AD _ _,HJ.out⟩
 case round=>
  obtain⟨k,m,t,iA,hk,hik,rfl,ht,cC,aD,hg,bQ⟩:=hrel;have HT:Hid (t=⟨(Ct s.data.toList i k).toArray⟩):=ht;have HN:Hid (Ao m s.data.toList k=j):=bQ;have HK:Hid (k+m=i+8):=iA;have HA:Hid (El b wr=k):=aD.at;clear bQ iA ht;have c1:=aD.c1;have f1:=aD.fz 1;cases hl:B9 (Ai s.data.toList k)
  ·obtain rfl:k=j:=by
    have:=HN.out;cases m with
    | zero=>exact this
    | succ m=>rw[Ew,hl] at this;exact this
   have e1:t.toList.isEmpty=false:=Rg t (by omega)
   go_wp2_with (first|(go_at_call 148;refine(A9 b s k _ hk hs aD).mono ?_;rintro e w1⟨rfl,n,rfl⟩)|(go_at_call 176;refine(Cv _ _).mono ?_;rintro e w3⟨rfl,rfl⟩))
   go_ret;exact⟨by rw[<-HT.out];rfl,aD,Ab hg (Ad _ _ _)⟩
  ·have dX:=D2 _ _ hl
   rw[Ae] at dX;cases m with
   | zero=>
    obtain rfl:k=j:=HN.out;have zz:t.size=8:=by have:=HK.out;omega
    have e1:t.toList.isEmpty=false:=Rg t (by omega);have e2:((t.size:Int)==8)=true:=by simp;omega
    go_wp2_with (first|(go_at_call 148;refine(A9 b s k _ hk hs aD).mono ?_;rintro e w1⟨rfl,n,rfl⟩)|(go_at_call 176;refine(Cv _ _).mono ?_;rintro e w3⟨rfl,rfl⟩))
    go_ret;exact⟨by rw[<-HT.out];rfl,aD,Ab hg (Ad _ _ _)⟩
   | succ m=>
    have zz:t.size<8:=by have:=HK.out;omega
    have e2:((t.size:Int)==8)=false:=by simp;omega
    have hcv:=fun n=>Vh wr n (Ai s.data.toList k)
    have hlt:=aD.lt;have c1':=fun n o=>((aD.drewN n).kept (AA (wr.drewN n) o none) (by simp)).c1
    have RL:=fun n o=>((aD.drewN n).kept (AA (wr.drewN n) o none) (by simp)).fz 1
    go_wp2_with (first|(go_at_call 148;refine(A9 b s k _ hk hs aD).mono ?_;rintro e w1⟨rfl,n,rfl⟩)|(go_at_call 176;refine(Cv _ _).mono ?_;rintro e w3⟨rfl,rfl⟩))
    refine⟨⟨k+1,m,_,by have:=HK.out;omega,by omega,by omega,rfl,?_,?_,((aD.drewN n).kept (AA (wr.drewN n) _ none) (by simp)).set1 (k+1),Ab hg (Ab (Ab (Ad wr n _) (AA _ _ _)) (Aj _ b 1 _)),by have:=HN.out;rw[Ew,hl] at this;exact this⟩,?_⟩
    ·rw[HT.out,P0 _ _ _ hik (by simpa using dX)]
     exact Ef _ _
    ·rw[ByteArray.size_append]
     show t.size+1+i=k+1
     omega
    ·have h2:=(((aD.drewN n).kept (AA (wr.drewN n) (Obj.cells #[Value.int IntKind.u8 ↑(Ai s.data.toList k).toNat] 5) none) (by simp)).set1 (k+1)).at
     rw[HA.out];have h3:((k+1:Nat):Int)=(k:Int)+1:=by omega
     rw[h3] at h2;rw[h2];omega
def Q0a(b:Nat)(s:ByteArray)(w:World)(r:Nat ⊕ (Sv.Term×Nat))(e:Ending)(w':World):Prop:=
 match r with
 | .inl k=>∃z,e=.returned (.int .i64 z)/\VAt b s k true w'/\w.grownBy w' (some b)
 | .inr (t,j)=>e=.returned (.int .i64 t.value)/\VAt b s j false w'/\w.grownBy w' (some b)
theorem Qh(b:Nat)(s:ByteArray)(i:Nat)(w:World)(hi:i<=s.size)(hs:s.size<=400)(hm:(Ai s.data.toList i==45)=true)(h:(A5 9 s.data.toList 0 (i+1)).2=i+1)(hb:VAt b s i false w) :
  Calls Tryz.prog 178 #[.pointer (some ⟨b,0,none⟩)] w fun e w'=>∃z,e=.returned (.int .i64 z)/\VAt b s (i+1) true w'/\w.grownBy w' (some b):=by
 have hl:=Fq _ _ h;clear h;have mM:=Ap _ _ 45 (by decide) hm;rw[Ae] at mM;have em:=(Jc (Ai s.data.toList i)).trans hm;clear hm;have c1:=hb.c1;have f1:=hb.fz 1;go_enter Tryz.func178,Tryz.ntmps178
 go_wp2_with (go_at_call 148;refine(A9 b s i _ hi hs hb).mono ?_;rintro e w1⟨rfl,n,rfl⟩)
 go_loopw [4,5] (fun x y w'=>x=.int .i64 0/\y=.int .i64 0/\VAt b s (i+1) false w'/\w.grownBy w' (some b)) (fun _ _ _=>0)
 case atStart=>exact⟨rfl,rfl,(hb.drewN n).set1 (i+1),Ab (Ad w n _) (Aj _ b 1 _)⟩
 case round=>
  obtain⟨rfl,rfl,aD,hg⟩:=hrel;clear c1 f1;have f2:=aD.fz 2;have c2:=aD.c2
  go_wp2_with (first|(go_at_call 148;refine(A9 b s (i+1) _ mM hs aD).mono ?_;rintro e w1⟨rfl,n2,rfl⟩)|(go_at_call 177;refine(B7 _ _).mono ?_;rintro e w3⟨rfl,rfl⟩))
  go_ret;exact⟨_,rfl,(aD.drewN n2).set2 true,Ab hg (Ab (Ad wr n2 _) (Aj _ b 2 _))⟩
theorem Oa(b:Nat)(s:ByteArray)(i:Nat)(w:World)(hi:i<=s.size)(hs:s.size<=400)(hm:(Ai s.data.toList i==45)=false)(rv rk:Nat)(h:A5 9 s.data.toList 0 i=(rv,rk))(nC:rk≠i)(hb:VAt b s i false w) :
  Calls Tryz.prog 178 #[.pointer (some ⟨b,0,none⟩)] w fun e w'=>e=.returned (.int .i64 rv)/\VAt b s rk false w'/\w.grownBy w' (some b):=by
 have em:=(Jc (Ai s.data.toList i)).trans hm;have HR:Hid (A5 9 s.data.toList 0 i=(rv,rk)):=h;clear h hm;go_enter Tryz.func178,Tryz.ntmps178
 go_wp2_with (go_at_call 148;refine(A9 b s i _ hi hs hb).mono ?_;rintro e w1⟨rfl,n,rfl⟩)
 go_loopw [4,5] (fun x y w'=>∃q n acc:Nat,q+n=9/\i+q<=s.size/\(acc+1)*10 ^ n<=1000000000/\x=.int .i64 acc/\y=.int .i64 q/\VAt b s (i+q) false w'/\w.grownBy w' (some b)/\A5 n s.data.toList acc (i+q)=(rv,rk)) (fun _ _ w'=>s.size-El b w')
 case atStart=>exact⟨0,9,0,rfl,hi,by decide,rfl,rfl,hb.drewN n,Ad _ _ _,HR.out⟩
 case round=>
  obtain⟨q,m,acc,iA,hk,aY,rfl,rfl,aD,hg,bQ⟩:=hrel;have HN:Hid (A5 m s.data.toList acc (i+q)=(rv,rk)):=bQ;have HK:Hid (q+m=9):=iA;have HC:Hid ((acc+1)*10 ^ m<=1000000000):=aY;have HA:Hid (El b wr=i+q):=aD.at;have r9:=Hi acc m aY;have hq9:q<=9:=by omega
  clear bQ iA aY;have c1:=aD.c1;have f1:=aD.fz 1;have r8:(0:Int)<=(acc:Int):=by omega
  have cy:(acc:Int)<1000000000:=by omega
  cases hl:As (Ai s.data.toList (i+q))
  ·obtain⟨rfl,rfl⟩:acc=rv/\i+q=rk:=by
    have:=HN.out;cases m with
    | zero=>simpa[A5] using this
    | succ m=>rw[Cf,hl] at this;simpa using this
   have e1:((q:Int)==0)=false:=by simp;omega
   go_wp2_with (first|(go_at_call 148;refine(A9 b s (i+q) _ hk hs aD).mono ?_;rintro e w1⟨rfl,n2,rfl⟩)|(go_at_call 177;refine(B7 _ _).mono ?_;rintro e w3⟨rfl,rfl⟩))
   go_ret;exact⟨rfl,aD,Ab hg (Ad _ _ _)⟩
  ·have dX:=Dd _ _ hl
   rw[Ae] at dX;cases m with
   | zero=>
    obtain⟨rfl,rfl⟩:acc=rv/\i+q=rk:=by have:=HN.out;simpa[A5] using this
    have e1:((q:Int)==0)=false:=by simp;omega
    have e2:((q:Int)==9)=true:=by have:=HK.out;simp;omega
    go_wp2_with (first|(go_at_call 148;refine(A9 b s (i+q) _ hk hs aD).mono ?_;rintro e w1⟨rfl,n2,rfl⟩)|(go_at_call 177;refine(B7 _ _).mono ?_;rintro e w3⟨rfl,rfl⟩))
    go_ret;exact⟨rfl,aD,Ab hg (Ad _ _ _)⟩
   | succ m=>
    have e2:((q:Int)==9)=false:=by have:=HK.out;simp;omega
    obtain⟨hr1,hr2⟩:=Ml _ hl
    go_wp2_with (first|(go_at_call 148;refine(A9 b s (i+q) _ hk hs aD).mono ?_;rintro e w1⟨rfl,n2,rfl⟩)|(go_at_call 177;refine(B7 _ _).mono ?_;rintro e w3⟨rfl,rfl⟩))
    have aW:VAt b s (i+(q+1)) false ((wr.drewN n2).setCell ⟨b,1,none⟩ (.int .i64 ((i:Int)+(q:Int)+1))):=by
     have h0:=(aD.drewN n2).set1 (i+(q+1));rwa[show ((i+(q+1):Nat):Int)=(i:Int)+(q:Int)+1 from by omega] at h0
    refine⟨⟨q+1,m,acc*10+((Ai s.data.toList (i+q)).toNat-48),by have:=HK.out;omega,by omega,Jw _ _ _ HC.out (by have:=Cp _ hl;omega),L6 (by omega),L6 (by omega),aW,Ab hg (Ab (Ad wr n2 _) (Aj _ b 1 _)),by have:=HN.out;rw[Cf,hl] at this;exact this⟩,?_⟩;rw[aW.at,HA.out];omega
theorem O5(b:Nat)(s:ByteArray)(i:Nat)(w:World)(hi:i<=s.size)(hs:s.size<=400)(hm:(Ai s.data.toList i==45)=true)(rv rk:Nat)(h:A5 9 s.data.toList 0 (i+1)=(rv,rk))(nC:rk≠i+1)(hb:VAt b s i false w) :
  Calls Tryz.prog 178 #[.pointer (some ⟨b,0,none⟩)] w fun e w'=>e=.returned (.int .i64 (-(rv:Int)))/\VAt b s rk false w'/\w.grownBy w' (some b):=by
 have em:=(Jc (Ai s.data.toList i)).trans hm;have HR:Hid (A5 9 s.data.toList 0 (i+1)=(rv,rk)):=h;have mM:=Ap _ _ 45 (by decide) hm;rw[Ae] at mM;clear h hm;have c1:=hb.c1;have f1:=hb.fz 1;go_enter Tryz.func178,Tryz.ntmps178
 go_wp2_with (go_at_call 148;refine(A9 b s i _ hi hs hb).mono ?_;rintro e w1⟨rfl,n,rfl⟩)
 go_loopw [4,5] (fun x y w'=>∃q n acc:Nat,q+n=9/\i+1+q<=s.size/\(acc+1)*10 ^ n<=1000000000/\x=.int .i64 acc/\y=.int .i64 q/\VAt b s (i+1+q) false w'/\w.grownBy w' (some b)/\A5 n s.data.toList acc (i+1+q)=(rv,rk)) (fun _ _ w'=>s.size-El b w')
 case atStart=>exact⟨0,9,0,rfl,mM,by decide,rfl,rfl,(hb.drewN n).set1 (i+1),Ab (Ad w n _) (Aj _ b 1 _),HR.out⟩
 case round=>
  obtain⟨q,m,acc,iA,hk,aY,rfl,rfl,aD,hg,bQ⟩:=hrel;have HN:Hid (A5 m s.data.toList acc (i+1+q)=(rv,rk)):=bQ;have HK:Hid (q+m=9):=iA;have HC:Hid ((acc+1)*10 ^ m<=1000000000):=aY;have HA:Hid (El b wr=i+1+q):=aD.at;have r9:=Hi acc m aY;have hq9:q<=9:=by omega
  clear bQ iA aY c1 f1;have c1:=aD.c1;have f1:=aD.fz 1;have r8:(0:Int)<=(acc:Int):=by omega
  have cy:(acc:Int)<1000000000:=by omega
  cases hl:As (Ai s.data.toList (i+1+q))
  ·obtain⟨rfl,rfl⟩:acc=rv/\i+1+q=rk:=by
    have:=HN.out;cases m with
    | zero=>simpa[A5] using this
    | succ m=>rw[Cf,hl] at this;simpa using this
   have e1:((q:Int)==0)=false:=by simp;omega
   go_wp2_with (first|(go_at_call 148;refine(A9 b s (i+1+q) _ hk hs aD).mono ?_;rintro e w1⟨rfl,n2,rfl⟩)|(go_at_call 177;refine(B7 _ _).mono ?_;rintro e w3⟨rfl,rfl⟩))
   go_ret;exact⟨rfl,aD,Ab hg (Ad _ _ _)⟩
  ·have dX:=Dd _ _ hl
   rw[Ae] at dX;cases m with
   | zero=>
    obtain⟨rfl,rfl⟩:acc=rv/\i+1+q=rk:=by have:=HN.out;simpa[A5] using this
    have e1:((q:Int)==0)=false:=by simp;omega
    have e2:((q:Int)==9)=true:=by have:=HK.out;simp;omega
    go_wp2_with (first|(go_at_call 148;refine(A9 b s (i+1+q) _ hk hs aD).mono ?_;rintro e w1⟨rfl,n2,rfl⟩)|(go_at_call 177;refine(B7 _ _).mono ?_;rintro e w3⟨rfl,rfl⟩))
    go_ret;exact⟨rfl,aD,Ab hg (Ad _ _ _)⟩
   | succ m=>
    have e2:((q:Int)==9)=false:=by have:=HK.out;simp;omega
    obtain⟨hr1,hr2⟩:=Ml _ hl
    go_wp2_with (first|(go_at_call 148;refine(A9 b s (i+1+q) _ hk hs aD).mono ?_;rintro e w1⟨rfl,n2,rfl⟩)|(go_at_call 177;refine(B7 _ _).mono ?_;rintro e w3⟨rfl,rfl⟩))
    have aW:VAt b s (i+1+(q+1)) false ((wr.drewN n2).setCell ⟨b,1,none⟩ (.int .i64 ((i:Int)+1+(q:Int)+1))):=by
     have h0:=(aD.drewN n2).set1 (i+1+(q+1));rwa[show ((i+1+(q+1):Nat):Int)=(i:Int)+1+(q:Int)+1 from by omega] at h0
    refine⟨⟨q+1,m,acc*10+((Ai s.data.toList (i+1+q)).toNat-48),by have:=HK.out;omega,by omega,Jw _ _ _ HC.out (by have:=Cp _ hl;omega),L6 (by omega),L6 (by omega),aW,Ab hg (Ab (Ad wr n2 _) (Aj _ b 1 _)),by have:=HN.out;rw[Cf,hl] at this;exact this⟩,?_⟩;rw[aW.at,HA.out];omega
theorem Ut(b:Nat)(s:ByteArray)(i:Nat)(w:World)(hi:i<=s.size)(hs:s.size<=400)(hc:(Ai s.data.toList i==45)=false->As (Ai s.data.toList i)=true)(hb:VAt b s i false w) :
  Calls Tryz.prog 178 #[.pointer (some ⟨b,0,none⟩)] w fun e w'=>Q0a b s w (Bj s.data.toList i) e w':=by
 unfold Bj;cases hm:Ai s.data.toList i==45
 ·simp only[BZ,if_false]
  have h:(A5 9 s.data.toList 0 i).2≠i:=fun h=>by
   have:=Fq _ _ h;rw[hc hm] at this;cases this
  rw[AO h];exact Oa b s i w hi hs hm _ _ rfl h hb
 ·simp only[if_true]
  by_cases h:(A5 9 s.data.toList 0 (i+1)).2=i+1
  ·rw[AQ h]
   exact Qh b s i w hi hs hm h hb
  ·rw[AO h]
   exact O5 b s i w hi hs hm _ _ rfl h hb
def Au(t:Sv.Term):List Value:=[.int .u8 t.letter.toNat,.int .i64 t.value,.bool (t.sort==0)]
def VTsAt(base:Nat)(u:Value)(ts:List Sv.Term)(w:World):Prop:=w.ownsRow base 169 3 u ts.length (ts.flatMap Au)
theorem VTsAt.slice{base:Nat}{u:Value}{ts:List Sv.Term}{w:World}(h:VTsAt base u ts w):∃ao cap,u=.slice ao ts.length cap:=by
 rcases h.2 with ⟨h1,h2⟩|⟨g,cap,cur,h1,_⟩
 ·exact⟨none,0,by rw[h2];exact h1⟩
 ·exact⟨_,_,h1⟩
theorem VTsAt.row{base':Nat}{e':TypeId}{row:Option Nat}(h:VTsAt base v ts w)(hg:w.grownBy w' row)(hr:RowOk base' e' row w)(hne:e'≠169):VTsAt base v ts w':=Dy h hg hr hne
theorem Tryz.infoVTerm:(Tryz.prog.info? 169).map (fun i=>(i.zero,i.size,i.bytes))=some (some (.agg #[.int .u8 0,.int .i64 0,.bool false]),3,24):=by kernel_rfl
theorem Pd(l:List UInt8)(i:Nat)(h:i<Ag l i):Bg l (Ag l i)=false:=by
 have hb:∀j,i<=j->j<Ag l i->Do (Ai l j)=true:=by
  intro j h1 h2;unfold Ag at h2;have h3:j-i<((l.drop i).takeWhile Do).length:=by omega
  have h4:=JX.1 (List.all_takeWhile (l:=l.drop i) (p:=Do)) _ (FY h3)
  have h5:((l.drop i).takeWhile Do)[j-i]=Ai l j:=by
   have h6:=(JE Do (l:=l.drop i)).getElem h3;rw[h6]
   have h7:j<l.length:=by
    have:=(JE Do (l:=l.drop i)).length_le;rw[DM] at this;omega
   rw[H9 l j h7,List.getElem_drop];congr 1
   omega
  rw[h5] at h4;exact h4
 have h1:=hb (Ag l i-1) (by omega) (by omega);unfold Bg
 have h2:As (Ai l (Ag l i-1))=false:=by
  cases hd:As (Ai l (Ag l i-1))
  ·rfl
  ·have h3:=Cp _ hd
   simp[Do] at h1;rcases h1 with h1|h1<;>rw[h1] at h3<;>simp at h3
 rw[h2,KH]
theorem C3.row{z:Value}{row:Option Nat}(h:C3 T N x y z w)(hg:w.grownBy w' row)(hr:RowOk base e row w)(he:e≠T):C3 T N x y z w':=by
 refine h.kept hg (fun e1=>?_);obtain⟨_,cur,fz,h2⟩:=hr N e1.symm;unfold C3 at h;rw[h] at h2;simp at h2;exact he h2.2.1.symm
theorem C3.drewN{T:TypeId}{N:Nat}{x y z:Value}{w:World}(h:C3 T N x y z w)(n:Nat):C3 T N x y z (w.drewN n):=h
theorem C3.put2(h:C3 T N a b c w)(x:Value):C3 T N a b x (w.setCell ⟨N,2,none⟩ x):=by
 unfold C3 at h⊢;rw[BB w N 2 _ _ x h];rfl
theorem C3.put1(h:C3 T N a b c w)(x:Value):C3 T N a x c (w.setCell ⟨N,1,none⟩ x):=by
 unfold C3 at h⊢;rw[BB w N 1 _ _ x h];rfl
theorem Xi(c d:UInt8)(h:B9 c=true)(hd:d.toNat<97):(c==d)=false:=by
 have:=Id c h;rw[beq_eq_false_iff_ne];intro e;rw[e] at this;omega
theorem Te(c:UInt8)(h:B9 c=true):As c=false:=by
 have:=Id c h;cases hd:As c
 ·rfl
 ·have:=Cp c hd;omega
theorem Q37(c:UInt8):((c.toNat:Int)==41)=(c==41):=Hn c 41
theorem Fa(w:World)(n:Nat)(C:Array Value)(T:TypeId)(j:Nat):((w.drewN n).alloc (.cells C T)).cell? ⟨w.heap.size,j,none⟩=C[j]?:=World.cell?_alloc_mark (w.drewN n) C T (0,0) j
theorem F2{b:Nat}{u:Value}(hb4:VAt b s k bd w4)(eX:C3 166 C (.bool nt) (.int .i64 kd) u w4)(mO:C3 166 w.heap.size (.bool false) (.int .i64 0) (.slice none 0 0) w4)(bV:VTsAt w.heap.size v' ts w4)(hg4:w.grownBy w4 (some b))(hR:w.heap.size<C)(hbR:b<w.heap.size) :
  VAt b s k bd (w4.setCell ⟨C,2,none⟩ v')/\C3 166 C (.bool nt) (.int .i64 kd) v' (w4.setCell ⟨C,2,none⟩ v')/\C3 166 w.heap.size (.bool false) (.int .i64 0) (.slice none 0 0) (w4.setCell ⟨C,2,none⟩ v')/\VTsAt w.heap.size v' ts (w4.setCell ⟨C,2,none⟩ v')/\w.grownBy (w4.setCell ⟨C,2,none⟩ v') (some b):=by
 have kC:=Aj w4 C 2 v';exact⟨hb4.kept kC (by simp;omega),eX.put2 v',mO.kept kC (by simp;omega),bV.row kC (RowOk.one eX (EE hR)) (by decide),A8 hg4 kC (EE hR)⟩
theorem L3{b:Nat}(j:Nat)(hb4:VAt b s k bd w4)(eX:C3 166 C (.bool nt) (.int .i64 kd) v' w4)(mO:C3 166 w.heap.size (.bool false) (.int .i64 0) (.slice none 0 0) w4)(bV:VTsAt w.heap.size v' ts w4)(hg4:w.grownBy w4 (some b))(hR:w.heap.size<C)(hbR:b<w.heap.size) :
  VAt b s j bd (w4.setCell ⟨b,1,none⟩ (.int .i64 j))/\C3 166 C (.bool nt) (.int .i64 kd) v' (w4.setCell ⟨b,1,none⟩ (.int .i64 j))/\C3 166 w.heap.size (.bool false) (.int .i64 0) (.slice none 0 0) (w4.setCell ⟨b,1,none⟩ (.int .i64 j))/\VTsAt w.heap.size v' ts (w4.setCell ⟨b,1,none⟩ (.int .i64 j))/\w.grownBy (w4.setCell ⟨b,1,none⟩ (.int .i64 j)) (some b):=by
 have kC:=Aj w4 b 1 (.int .i64 j);exact⟨hb4.set1 j,eX.kept kC (by simp;omega),mO.kept kC (by simp;omega),bV.row kC hb4.rowOk (by decide),Ab hg4 kC⟩
theorem F6{acc:List Sv.Term}(_hg:w.grownBy w4 none\/True)(h:w4.ownsRow base 169 3 v' (acc.length+1) (acc.flatMap Au++Au t)):VTsAt base v' (acc++[t]) w4:=by
 unfold VTsAt;rw[AK,CG];simpa using h
theorem Gz(l:List UInt8)(k:Nat)(v:Bool)(h:As (Ai l k)=v):Bg l (k+1)=v:=by
 unfold Bg;rw[show k+1-1=k from rfl,h];simp
theorem G7(b:Nat)(s:ByteArray)(i:Nat)(w:World)(hi:i<=s.size)(hs:s.size<=400)(hc:(Ai s.data.toList i==45)=false->As (Ai s.data.toList i)=true)(hb:VAt b s i false w) :
  Calls Tryz.prog 178 #[.pointer (some ⟨b,0,none⟩)] w fun e w'=>∃(z:Int) (j:Nat) (bd:Bool),e=.returned (.int .i64 z)/\VAt b s j bd w'/\w.grownBy w' (some b)/\Hid ((bd=true/\Bj s.data.toList i=.inl j)\/(bd=false/\Bj s.data.toList i=.inr (⟨2,0,z⟩,j))):=by
 refine(Ut b s i w hi hs hc hb).mono ?_;intro e w' hp;cases hr:Bj s.data.toList i with
 | inl k=>
  rw[hr] at hp;obtain⟨z,rfl,h1,h2⟩:=hp;exact⟨z,k,true,rfl,h1,h2,.inl ⟨rfl,rfl⟩⟩
 | inr q=>
  obtain⟨t,j⟩:=q;rw[hr] at hp;obtain⟨rfl,h1,h2⟩:=hp;have h3:=(Co _ _ _ _ hr).1;exact⟨_,j,false,rfl,h1,h2,.inr ⟨rfl,by rw[<-h3]⟩⟩
def Q20(b:Nat)(s:ByteArray)(nt:Bool)(kd:Nat)(w:World)(r:Nat ⊕ (List Sv.Term×Nat))(e:Ending)(w':World):Prop:=
 match r with
 | .inl k=>∃(q:Int) (ao:Option Addr) (n cap:Nat),e=.returned (.agg #[.bool nt,.int .i64 q,.slice ao n cap])/\VAt b s k true w'/\w.grownBy w' (some b)
 | .inr (ts,j)=>∃u,e=.returned (.agg #[.bool nt,.int .i64 kd,u])/\VTsAt w.heap.size u ts w'/\VAt b s j false w'/\w.grownBy w' (some b)
def Q2x(b:Nat)(w:World):Bool:=match w.cell? ⟨b,2,none⟩ with|some (.bool q)=>q|_=>false
theorem VAt.bad{b:Nat}{v:Bool}(h:VAt b s i v w):Q2x b w=v:=by
 unfold Q2x;rw[h.c2]
def Q1a(b n:Nat)(w:World):Nat:=if Q2x b w=true then 0 else n-El b w+1
theorem VAt.ms{b:Nat}{v:Bool}(h:VAt b s i v w)(n:Nat):Q1a b n w=if v=true then 0 else n-i+1:=by
 unfold Q1a;rw[h.bad,h.at]
def Q3g(b:Nat)(s:ByteArray)(nt:Bool)(kd:Nat)(R C:Nat)(w:World)(r:Nat ⊕ (List Sv.Term×Nat))(u7:Value)(w':World):Prop:=
 ∃(p:Nat) (u:Value) (bad:Bool),VAt b s p bad w'/\p<=s.size/\C3 166 C (.bool nt) (.int .i64 kd) u w'/\C3 166 R (.bool false) (.int .i64 0) (.slice none 0 0) w'/\w.grownBy w' (some b)/\
  ((bad=true/\r=.inl p/\∃ao n cap,u=.slice ao n cap)\/(bad=false/\∃(n:Nat) (acc:List Sv.Term),s.size<p+n/\acc.length<=p/\0<p/\u7=.bool (Bg s.data.toList p)/\VTsAt w.heap.size u acc w'/\Dw n s.data.toList acc p=r))
theorem Vu(b:Nat)(s:ByteArray)(i:Nat)(nt:Bool)(w:World)(hi:i<=s.size)(hs:s.size<=400)(hb:VAt b s i false w)(h:(Ai s.data.toList i==40)=true)(h2:As (Ai s.data.toList (Ag s.data.toList (i+1)))=true)(r:Nat ⊕ (List Sv.Term×Nat))(hR:Cl s.data.toList (Ag s.data.toList (i+1)+1)=r)(kd:Nat)(uQ:(Ai s.data.toList (Ag s.data.toList (i+1))).toNat-48=kd) :
  Calls Tryz.prog 151 #[.pointer (some ⟨b,0,none⟩),.bool nt] w fun e w'=>Q20 b s nt kd w r e w':=by
 obtain⟨i0,aq,hz0,hz1,hz2⟩:=info_parts Tryz.infoVTerm;obtain⟨k,hk⟩:∃k,Ag s.data.toList (i+1)=k:=⟨_,rfl⟩
 rw[hk] at h2 hR uQ;have HK:=Ac hk;clear hk;have HR:=Ac hR;clear hR;have b9:=fun o=>hb.kept (AA w o none) (by simp)
 have dN:C3 166 w.heap.size (.bool false) (.int .i64 0) (.slice none 0 0) (w.alloc (.cells #[.bool false,.int .i64 0,.slice none 0 0] 166)):=AR _ _;have hlt:=hb.lt;have eZ:=Ap _ _ 40 (by decide) h;rw[Ae] at eZ;have jf:=Dd _ _ h2;rw[Ae] at jf;have sX:=Ml _ h2;go_enter Tryz.func151,Tryz.ntmps151;go_wp2_with fail;refine(Nl b s i 40 _ rfl _ hi hs h (b9 _)).mono ?_;rintro e w1⟨rfl,hb1,hg1⟩;go_wp2_with fail;refine(Fj b s (i+1) w1 eZ hs hb1).mono ?_;rintro e w2⟨rfl,hb2,hg2⟩;have bq:=(dN.kept hg1 (by simp;omega)).kept hg2 (by simp;omega);have bS:=Ab (Ab (AA w _ (some b)) hg1) hg2;clear b9 hb1 hg1 hg2 dN;rw[Aa HK] at hb2;have a7:=AA w2 (.cells #[.bool nt,.int .i64 0,.slice none 0 0] 166) none;have sJ:C3 166 w2.heap.size (.bool nt) (.int .i64 0) (.slice none 0 0) (w2.alloc (.cells #[.bool nt,.int .i64 0,.slice none 0 0] 166)):=AR _ _;have bu:=hb2.kept a7 (by simp);have kK:=bq.kept a7 (by simp);have fM:w.heap.size<w2.heap.size:=bq.lt;have cI:b<w2.heap.size:=hb2.lt;have ax:=Ab bS (A3 a7 (some b));clear a7 hb2 bq bS;go_wp2_with fail;refine(A9 b s k _ (by omega) hs bu).mono ?_;rintro e YG⟨rfl,n,rfl⟩;generalize w2.alloc (.cells #[.bool nt,.int .i64 0,.slice none 0 0] 166)=w3 at *;generalize w2.heap.size=C at *;obtain⟨d0,d1,d2⟩:=sJ.c;have z0:=sJ.fz 0;have z1:=sJ.fz 1;have z2:=sJ.fz 2;have bF:=fun n=>Aj (w3.drewN n) C 1 (.int .i64 (((Ai s.data.toList k).toNat:Int)-48))
 have ei:=fun n=>(bu.drewN n).kept (bF n) (by simp;omega)
 have c1:=fun n=>(ei n).c1
 have f1:=fun n=>(ei n).fz 1
 obtain⟨hr1,hr2⟩:=sX
 go_wp2_with (first|(go_at_call 148;refine(A9 b s k _ (by omega) hs (by first|exact bu|exact bu.drewN _)).mono ?_;rintro e w3⟨rfl,n2,rfl⟩)|(go_at_call 177;refine(B7 _ _).mono ?_;rintro e w3⟨rfl,rfl⟩))
 have wV:((Ai s.data.toList k).toNat:Int)-48=(kd:Int):=by omega
 go_loopw [7] (fun x w'=>Q3g b s nt kd w.heap.size C w r x w') (fun _ w'=>Q1a b s.size w')
 case atStart=>
  have hC2:=(sJ.drewN (n+n2)).put1 (.int .i64 (((Ai s.data.toList k).toNat:Int)-48));have hg4:=A8 (Ab ax (Ad w3 (n+n2) _)) (bF (n+n2)) (EE fM);have bR:=(kK.drewN (n+n2)).kept (bF (n+n2)) (by simp;omega);have kk:=Aj ((w3.drewN (n+n2)).setCell ⟨C,1,none⟩ (.int .i64 (((Ai s.data.toList k).toNat:Int)-48))) b 1 (.int .i64 ((k:Int)+1));rw[wV] at hC2 hg4 bR kk⊢;have hb5:=(ei (n+n2)).set1 (k+1);rw[wV] at hb5;refine⟨k+1,.slice none 0 0,false,hb5,jf,hC2.kept kk (by simp;omega),bR.kept kk (by simp;omega),Ab hg4 kk,.inr ⟨rfl,s.data.toList.length+1,[],by simp;omega,AG _,by omega,?_,EJ _ _ _ _,Aa HR⟩⟩
  have:Bg s.data.toList (k+1)=true:=by
   unfold Bg;rw[show k+1-1=k from rfl,h2];simp
  rw[this]
 case round=>
  clear d0 d1 d2 z0 z1 z2 bF ei c1 f1 bu kK ax sJ hr1 hr2 uQ wV;obtain⟨p,u,bad,aD,hp,hC,kJ,hg,lJ⟩:=hrel
  have HM:Hid (Q1a b s.size wr=if bad=true then 0 else s.size-p+1):=by
   show Q1a b s.size wr=_
   unfold Q1a;rw[aD.bad,aD.at]
  rcases lJ with ⟨rfl,hr,ao,nn,cap,rfl⟩|⟨rfl,m,acc,hm,aY,kh,ZH,cC,bQ⟩
  ·subst hr
   have c2:=aD.c2;obtain⟨d0,d1,d2⟩:=hC.c;obtain⟨q0,q1,q2⟩:=kJ.c;have z0:=kJ.fz 0;have z1:=kJ.fz 1;have z2:=kJ.fz 2;go_wp2;have k3:=Ci wr w.heap.size (.bool nt) (.int .i64 kd) (.slice ao nn cap);obtain⟨q0,q1,q2⟩:=(kJ.set3 (.bool nt) (.int .i64 kd) (.slice ao nn cap)).c;exact BN (v:=.agg #[.bool nt,.int .i64 kd,.slice ao nn cap]) (by simp[results,Tryz.results151,go_sem,q0,q1,q2]) rfl ⟨_,_,_,_,rfl,aD.kept k3 (by simp;omega),A8 hg k3 (AW _)⟩
  ·obtain⟨m,rfl⟩:∃m',m=m'+1:=⟨m-1,by omega⟩
   rw[Ey] at bQ;have HN:=Ac bQ;clear bQ;have hle:=A7 s.data.toList p (by simpa using hp);rw[Ae] at hle;have c1:=aD.c1;have c2:=aD.c2;obtain⟨ao,cap,rfl⟩:=cC.slice
   have hq:∃q x:Bool,u7=.bool q/\decide (p<Ag s.data.toList p)=x/\Hid ((if x=true then false else q)=Bg s.data.toList (Ag s.data.toList p)):=by
    refine⟨_,_,ZH,rfl,?_⟩;by_cases hlt:p<Ag s.data.toList p
    ·rw[AQ (by simp;omega)]
     exact(Pd _ _ hlt).symm
    ·rw[AO (by simp;omega),show Ag s.data.toList p=p from by omega]
     rfl
   obtain⟨q,x,rfl,hx,HB⟩:=hq;clear ZH;go_wp2_with fail;refine(Fj b s p _ hp hs (by first|exact aD|exact aD.drewN _)).mono ?_;rintro e w1⟨rfl,hb1,hg1⟩;have hC2:=hC.row hg1 aD.rowOk (by decide);have hR1:=kJ.row hg1 aD.rowOk (by decide);have kX:=cC.row hg1 aD.rowOk (by decide);have bG:=Ab hg hg1;clear hC kJ cC aD hg hg1 c1 c2;have fH:=Aa HN;have gF:=Aa HB;clear HN HB;generalize Ag s.data.toList p=k2 at *;have HN:=Ac fH;have HB:=Ac gF;clear fH gF;obtain⟨nH,aj⟩:=hle;have c1:=hb1.c1;have f1:=hb1.fz 1;have f2:=hb1.fz 2;have c2:=hb1.c2;obtain⟨d0,d1,d2⟩:=hC2.c;obtain⟨q0,q1,q2⟩:=hR1.c;have z0:=hR1.fz 0;have z1:=hR1.fz 1;have z2:=hR1.fz 2;have y2:=hC2.fz 2;have hsz:=bG.size;cases rT:Ai s.data.toList k2==41
   ·have fJ:Hid ((match Ba s.data.toList k2 with
     | .inl k=>.inl k
     | .inr (t,j)=>Dw m s.data.toList (acc++[t]) j)=r):=by
     have:=Aa HN;rw[rT,AO (by simp)] at this;exact this
    clear HN;have e41:=(Q37 (Ai s.data.toList k2)).trans rT;clear rT;have dU:=fun n=>kX.row (Ad w1 n none) (RowOk.none 0 0 _) (by decide)
    cases hl:B9 (Ai s.data.toList k2)
    ·cases tK:Ai s.data.toList k2==95
     ·have e95:=(S8 (Ai s.data.toList k2)).trans tK
      cases pG:Ai s.data.toList k2==45
      ·have e45:=(Jc (Ai s.data.toList k2)).trans pG
       cases hd:As (Ai s.data.toList k2)
       ·have fH:Hid (Sum.inl k2=r):=by
         have:=Aa fJ
         rw[show Ba s.data.toList k2=.inl k2 from by
          unfold Ba;rw[tK,AO (by simp),hl,AO (by simp),pG,hd];rfl] at this
         exact this
        clear fJ;cases x
        all_goals
         go_wp2_with (first|(go_at_call 148;refine(A9 b s k2 _ aj hs hb1).mono ?_;rintro e w3⟨rfl,n4,rfl⟩)|(go_at_call 176;refine(Cv _ _).mono ?_;rintro e w3⟨rfl,rfl⟩)|(go_at_call 177;refine(B7 _ _).mono ?_;rintro e w3⟨rfl,rfl⟩))
         have hb5:=(hb1.drewN n4).set2 true;have kk:=Aj (w1.drewN n4) b 2 (.bool true);have pK:=Ac (hb5.ms s.size);go_roundw
         case rel=>exact⟨k2,_,true,hb5,aj,(hC2.drewN n4).kept kk (by simp;omega),(hR1.drewN n4).kept kk (by simp;omega),Ab (Ab bG (Ad w1 n4 _)) kk,.inl ⟨rfl,(Aa fH).symm,_,_,_,rfl⟩⟩
         case measure=>refine CQ (CZ (Aa pK)) ?_;rw[HM.out];simp
       ·cases MJ:Bg s.data.toList k2
        ·have HT:Ba s.data.toList k2=Bj s.data.toList k2:=by
          unfold Ba;rw[tK,AO (by simp),hl,AO (by simp),pG,hd,MJ];rfl
         have hc:(Ai s.data.toList k2==45)=false->As (Ai s.data.toList k2)=true:=fun _=>hd
         cases x
         ·obtain rfl:q=false:=by have:=Aa HB;rw[MJ] at this;exact this
          go_wp2_with (first|(go_at_call 148;refine(A9 b s k2 _ aj hs hb1).mono ?_;rintro e w3⟨rfl,n4,rfl⟩)|(go_at_call 176;refine(Cv _ _).mono ?_;rintro e w3⟨rfl,rfl⟩)|(go_at_call 177;refine(B7 _ _).mono ?_;rintro e w3⟨rfl,rfl⟩))
          refine(G7 b s k2 _ aj hs hc (hb1.drewN n4)).mono ?_;rintro e w2⟨z,j,bd,rfl,hb2,hg2,HV⟩;have mq:w1.heap.size<=w2.heap.size:=hg2.size;have vL:=(hC2.drewN n4).row hg2 (hb1.drewN n4).rowOk (by decide);have b2:=vL.c.2.2;have by2:=vL.fz 2
          go_wp2_with (at_builtin;refine CW _ rfl _ _ 164 rfl w.heap.size 169 i0 (.agg #[.int .u8 0,.int .i64 0,.bool false]) 3 24 Tryz.underlying164 aq hz0 hz1 hz2 rfl (by decide) _ acc.length (acc.flatMap Au) rfl (((dU n4).row hg2 (hb1.drewN n4).rowOk (by decide)).alloc _) ⟨w2.heap.size,0,none⟩ 1 1 (Au ⟨2,0,z⟩) rfl rfl ?c1 ?c2 ?c3 ?c4 ?c5 ?_)
          case c1=>
           intro jj u hu
           match jj,hu with
           | 0,hu=>simp[Au] at hu;subst hu;simp[Addr.add]
           | 1,hu=>simp[Au] at hu;subst hu;simp[Addr.add]
           | 2,hu=>simp[Au] at hu;subst hu;simp[Addr.add]
           | n+3,hu=>simp[Au] at hu
          case c2=>
           intro u hu;simp[Au] at hu;rcases hu with rfl|rfl|rfl<;>rfl
          case c3=>unfold maxLen;omega
          case c4=>omega
          case c5=>simp;omega
          intro v' w4 hown hgrow _;have hdr:=hb1.drewN n4;have a7:=AA w2 (.cells #[.int .u8 0,.int .i64 z,.bool false] 169) none;have pw:=(dU n4).row hg2 hdr.rowOk (by decide);have hrow:=RowOk.of (pw.alloc (.cells #[.int .u8 0,.int .i64 z,.bool false] 169));have hb4:=(hb2.kept a7 (by simp)).row hgrow hrow (by decide);have eX:=(((hC2.drewN n4).row hg2 hdr.rowOk (by decide)).kept a7 (by simp)).row hgrow hrow (by decide);have mO:=(((hR1.drewN n4).row hg2 hdr.rowOk (by decide)).kept a7 (by simp)).row hgrow hrow (by decide);have hg4:=Ez (Ab (Ab (Ab bG (Ad w1 n4 _)) hg2) (A3 a7 (some b))) hgrow hrow;have bV:VTsAt w.heap.size v' (acc++[⟨2,0,z⟩]) w4:=F6 (w:=w4) (.inr trivial) hown;obtain⟨RQ,e8,hv⟩:=bV.slice;rw[AK,BC] at hv;subst hv;obtain⟨hb5,kL,nS,dV,aZ⟩:=F2 hb4 eX mO bV hg4 fM hlt;clear c1 f1 f2 c2 d0 d1 d2 q0 q1 q2 z0 z1 z2 y2 hown hgrow a7 hrow;have a2:=eX.c.2.2;have ay:=eX.fz 2;have pK:=Ac (hb5.ms s.size);go_wp2;go_roundw
          case rel=>
           rcases Aa HV with ⟨rfl,aS⟩|⟨rfl,aS⟩
           ·have h9:=Aa fJ
            rw[HT,aS] at h9;have aK:=B3 s.data.toList k2 (by simpa using aj);rw[aS] at aK;have b8:j<=s.size:=by have h8:j<=s.data.toList.length:=aK;rwa[Ae] at h8
            exact⟨j,_,true,hb5,b8,kL,nS,aZ,.inl ⟨rfl,h9.symm,_,_,_,rfl⟩⟩
           ·have h9:=Aa fJ
            rw[HT,aS] at h9;have aK:=B3 s.data.toList k2 (by simpa using aj);rw[aS] at aK;obtain⟨gW,b8⟩:k2<j/\j<=s.data.toList.length:=aK;rw[Ae] at b8;have dt:=(Co _ _ _ _ aS).2;exact⟨j,_,false,hb5,b8,kL,nS,aZ,.inr ⟨rfl,m,acc++[⟨2,0,z⟩],by omega,by simp;omega,by omega,by rw[show Bg s.data.toList j=true from by unfold Bg;rw[dt];simp;omega],dV,h9⟩⟩
          case measure=>
           refine CQ (CZ (Aa pK)) ?_;rw[HM.out];rcases Aa HV with ⟨rfl,aS⟩|⟨rfl,aS⟩
           ·simp
           ·have aK:=B3 s.data.toList k2 (by simpa using aj)
            rw[aS] at aK;obtain⟨gW,b8⟩:k2<j/\j<=s.data.toList.length:=aK;rw[Ae] at b8;simp;omega
         ·skip
          go_wp2_with (first|(go_at_call 148;refine(A9 b s k2 _ aj hs hb1).mono ?_;rintro e w3⟨rfl,n4,rfl⟩)|(go_at_call 176;refine(Cv _ _).mono ?_;rintro e w3⟨rfl,rfl⟩)|(go_at_call 177;refine(B7 _ _).mono ?_;rintro e w3⟨rfl,rfl⟩))
          refine(G7 b s k2 _ aj hs hc (hb1.drewN n4)).mono ?_;rintro e w2⟨z,j,bd,rfl,hb2,hg2,HV⟩;have mq:w1.heap.size<=w2.heap.size:=hg2.size;have vL:=(hC2.drewN n4).row hg2 (hb1.drewN n4).rowOk (by decide);have b2:=vL.c.2.2;have by2:=vL.fz 2
          go_wp2_with (at_builtin;refine CW _ rfl _ _ 164 rfl w.heap.size 169 i0 (.agg #[.int .u8 0,.int .i64 0,.bool false]) 3 24 Tryz.underlying164 aq hz0 hz1 hz2 rfl (by decide) _ acc.length (acc.flatMap Au) rfl (((dU n4).row hg2 (hb1.drewN n4).rowOk (by decide)).alloc _) ⟨w2.heap.size,0,none⟩ 1 1 (Au ⟨2,0,z⟩) rfl rfl ?c1 ?c2 ?c3 ?c4 ?c5 ?_)
          case c1=>
           intro jj u hu
           match jj,hu with
           | 0,hu=>simp[Au] at hu;subst hu;simp[Addr.add]
           | 1,hu=>simp[Au] at hu;subst hu;simp[Addr.add]
           | 2,hu=>simp[Au] at hu;subst hu;simp[Addr.add]
           | n+3,hu=>simp[Au] at hu
          case c2=>
           intro u hu;simp[Au] at hu;rcases hu with rfl|rfl|rfl<;>rfl
          case c3=>unfold maxLen;omega
          case c4=>omega
          case c5=>simp;omega
          intro v' w4 hown hgrow _;have hdr:=hb1.drewN n4;have a7:=AA w2 (.cells #[.int .u8 0,.int .i64 z,.bool false] 169) none;have pw:=(dU n4).row hg2 hdr.rowOk (by decide);have hrow:=RowOk.of (pw.alloc (.cells #[.int .u8 0,.int .i64 z,.bool false] 169));have hb4:=(hb2.kept a7 (by simp)).row hgrow hrow (by decide);have eX:=(((hC2.drewN n4).row hg2 hdr.rowOk (by decide)).kept a7 (by simp)).row hgrow hrow (by decide);have mO:=(((hR1.drewN n4).row hg2 hdr.rowOk (by decide)).kept a7 (by simp)).row hgrow hrow (by decide);have hg4:=Ez (Ab (Ab (Ab bG (Ad w1 n4 _)) hg2) (A3 a7 (some b))) hgrow hrow;have bV:VTsAt w.heap.size v' (acc++[⟨2,0,z⟩]) w4:=F6 (w:=w4) (.inr trivial) hown;obtain⟨RQ,e8,hv⟩:=bV.slice;rw[AK,BC] at hv;subst hv;obtain⟨hb5,kL,nS,dV,aZ⟩:=F2 hb4 eX mO bV hg4 fM hlt;clear c1 f1 f2 c2 d0 d1 d2 q0 q1 q2 z0 z1 z2 y2 hown hgrow a7 hrow;have a2:=eX.c.2.2;have ay:=eX.fz 2;have pK:=Ac (hb5.ms s.size);go_wp2;go_roundw
          case rel=>
           rcases Aa HV with ⟨rfl,aS⟩|⟨rfl,aS⟩
           ·have h9:=Aa fJ
            rw[HT,aS] at h9;have aK:=B3 s.data.toList k2 (by simpa using aj);rw[aS] at aK;have b8:j<=s.size:=by have h8:j<=s.data.toList.length:=aK;rwa[Ae] at h8
            exact⟨j,_,true,hb5,b8,kL,nS,aZ,.inl ⟨rfl,h9.symm,_,_,_,rfl⟩⟩
           ·have h9:=Aa fJ
            rw[HT,aS] at h9;have aK:=B3 s.data.toList k2 (by simpa using aj);rw[aS] at aK;obtain⟨gW,b8⟩:k2<j/\j<=s.data.toList.length:=aK;rw[Ae] at b8;have dt:=(Co _ _ _ _ aS).2;exact⟨j,_,false,hb5,b8,kL,nS,aZ,.inr ⟨rfl,m,acc++[⟨2,0,z⟩],by omega,by simp;omega,by omega,by rw[show Bg s.data.toList j=true from by unfold Bg;rw[dt];simp;omega],dV,h9⟩⟩
          case measure=>
           refine CQ (CZ (Aa pK)) ?_;rw[HM.out];rcases Aa HV with ⟨rfl,aS⟩|⟨rfl,aS⟩
           ·simp
           ·have aK:=B3 s.data.toList k2 (by simpa using aj)
            rw[aS] at aK;obtain⟨gW,b8⟩:k2<j/\j<=s.data.toList.length:=aK;rw[Ae] at b8;simp;omega
        ·have fH:Hid (Sum.inl k2=r):=by
          have:=Aa fJ
          rw[show Ba s.data.toList k2=.inl k2 from by
           unfold Ba;rw[tK,AO (by simp),hl,AO (by simp),pG,hd,MJ];rfl] at this
          exact this
         clear fJ;cases x
         ·obtain rfl:q=true:=by have:=Aa HB;rw[MJ] at this;exact this
          go_wp2_with (first|(go_at_call 148;refine(A9 b s k2 _ aj hs hb1).mono ?_;rintro e w3⟨rfl,n4,rfl⟩)|(go_at_call 176;refine(Cv _ _).mono ?_;rintro e w3⟨rfl,rfl⟩)|(go_at_call 177;refine(B7 _ _).mono ?_;rintro e w3⟨rfl,rfl⟩))
          have hb5:=(hb1.drewN n4).set2 true;have kk:=Aj (w1.drewN n4) b 2 (.bool true);have pK:=Ac (hb5.ms s.size);go_roundw
          case rel=>exact⟨k2,_,true,hb5,aj,(hC2.drewN n4).kept kk (by simp;omega),(hR1.drewN n4).kept kk (by simp;omega),Ab (Ab bG (Ad w1 n4 _)) kk,.inl ⟨rfl,(Aa fH).symm,_,_,_,rfl⟩⟩
          case measure=>refine CQ (CZ (Aa pK)) ?_;rw[HM.out];simp
         ·exfalso;have:=Aa HB;rw[MJ] at this;cases this
      ·have HT:Ba s.data.toList k2=Bj s.data.toList k2:=by
        unfold Ba;rw[tK,AO (by simp),hl,AO (by simp),pG];rfl
       have e45:=(Jc (Ai s.data.toList k2)).trans pG;have hc:(Ai s.data.toList k2==45)=false->As (Ai s.data.toList k2)=true:=fun h=>by rw[pG] at h;cases h
       cases x
       all_goals
        skip
        go_wp2_with (first|(go_at_call 148;refine(A9 b s k2 _ aj hs hb1).mono ?_;rintro e w3⟨rfl,n4,rfl⟩)|(go_at_call 176;refine(Cv _ _).mono ?_;rintro e w3⟨rfl,rfl⟩)|(go_at_call 177;refine(B7 _ _).mono ?_;rintro e w3⟨rfl,rfl⟩))
        refine(G7 b s k2 _ aj hs hc (hb1.drewN n4)).mono ?_;rintro e w2⟨z,j,bd,rfl,hb2,hg2,HV⟩;have mq:w1.heap.size<=w2.heap.size:=hg2.size;have vL:=(hC2.drewN n4).row hg2 (hb1.drewN n4).rowOk (by decide);have b2:=vL.c.2.2;have by2:=vL.fz 2
        go_wp2_with (at_builtin;refine CW _ rfl _ _ 164 rfl w.heap.size 169 i0 (.agg #[.int .u8 0,.int .i64 0,.bool false]) 3 24 Tryz.underlying164 aq hz0 hz1 hz2 rfl (by decide) _ acc.length (acc.flatMap Au) rfl (((dU n4).row hg2 (hb1.drewN n4).rowOk (by decide)).alloc _) ⟨w2.heap.size,0,none⟩ 1 1 (Au ⟨2,0,z⟩) rfl rfl ?c1 ?c2 ?c3 ?c4 ?c5 ?_)
        case c1=>
         intro jj u hu
         match jj,hu with
         | 0,hu=>simp[Au] at hu;subst hu;simp[Addr.add]
         | 1,hu=>simp[Au] at hu;subst hu;simp[Addr.add]
         | 2,hu=>simp[Au] at hu;subst hu;simp[Addr.add]
         | n+3,hu=>simp[Au] at hu
        case c2=>
         intro u hu;simp[Au] at hu;rcases hu with rfl|rfl|rfl<;>rfl
        case c3=>unfold maxLen;omega
        case c4=>omega
        case c5=>simp;omega
        intro v' w4 hown hgrow _;have hdr:=hb1.drewN n4;have a7:=AA w2 (.cells #[.int .u8 0,.int .i64 z,.bool false] 169) none;have pw:=(dU n4).row hg2 hdr.rowOk (by decide);have hrow:=RowOk.of (pw.alloc (.cells #[.int .u8 0,.int .i64 z,.bool false] 169));have hb4:=(hb2.kept a7 (by simp)).row hgrow hrow (by decide);have eX:=(((hC2.drewN n4).row hg2 hdr.rowOk (by decide)).kept a7 (by simp)).row hgrow hrow (by decide);have mO:=(((hR1.drewN n4).row hg2 hdr.rowOk (by decide)).kept a7 (by simp)).row hgrow hrow (by decide);have hg4:=Ez (Ab (Ab (Ab bG (Ad w1 n4 _)) hg2) (A3 a7 (some b))) hgrow hrow;have bV:VTsAt w.heap.size v' (acc++[⟨2,0,z⟩]) w4:=F6 (w:=w4) (.inr trivial) hown;obtain⟨RQ,e8,hv⟩:=bV.slice;rw[AK,BC] at hv;subst hv;obtain⟨hb5,kL,nS,dV,aZ⟩:=F2 hb4 eX mO bV hg4 fM hlt;clear c1 f1 f2 c2 d0 d1 d2 q0 q1 q2 z0 z1 z2 y2 hown hgrow a7 hrow;have a2:=eX.c.2.2;have ay:=eX.fz 2;have pK:=Ac (hb5.ms s.size);go_wp2;go_roundw
        case rel=>
         rcases Aa HV with ⟨rfl,aS⟩|⟨rfl,aS⟩
         ·have h9:=Aa fJ
          rw[HT,aS] at h9;have aK:=B3 s.data.toList k2 (by simpa using aj);rw[aS] at aK;have b8:j<=s.size:=by have h8:j<=s.data.toList.length:=aK;rwa[Ae] at h8
          exact⟨j,_,true,hb5,b8,kL,nS,aZ,.inl ⟨rfl,h9.symm,_,_,_,rfl⟩⟩
         ·have h9:=Aa fJ
          rw[HT,aS] at h9;have aK:=B3 s.data.toList k2 (by simpa using aj);rw[aS] at aK;obtain⟨gW,b8⟩:k2<j/\j<=s.data.toList.length:=aK;rw[Ae] at b8;have dt:=(Co _ _ _ _ aS).2;exact⟨j,_,false,hb5,b8,kL,nS,aZ,.inr ⟨rfl,m,acc++[⟨2,0,z⟩],by omega,by simp;omega,by omega,by rw[show Bg s.data.toList j=true from by unfold Bg;rw[dt];simp;omega],dV,h9⟩⟩
        case measure=>
         refine CQ (CZ (Aa pK)) ?_;rw[HM.out];rcases Aa HV with ⟨rfl,aS⟩|⟨rfl,aS⟩
         ·simp
         ·have aK:=B3 s.data.toList k2 (by simpa using aj)
          rw[aS] at aK;obtain⟨gW,b8⟩:k2<j/\j<=s.data.toList.length:=aK;rw[Ae] at b8;simp;omega
     ·have fH:Hid (Dw m s.data.toList (acc++[⟨0,0,0⟩]) (k2+1)=r):=by
       have:=Aa fJ;unfold Ba at this;rw[tK,AQ rfl] at this;exact this
      clear fJ;have e95:=(S8 (Ai s.data.toList k2)).trans tK
      have VE:As (Ai s.data.toList k2)=false:=by
       rw[show Ai s.data.toList k2=95 from by simpa using tK];rfl
      have hk2:=Ap _ _ 95 (by decide) tK;rw[Ae] at hk2;cases x
      all_goals
       go_wp2_with (first|(go_at_call 148;refine(A9 b s k2 _ aj hs hb1).mono ?_;rintro e w3⟨rfl,n4,rfl⟩)|(go_at_call 176;refine(Cv _ _).mono ?_;rintro e w3⟨rfl,rfl⟩)|(go_at_call 177;refine(B7 _ _).mono ?_;rintro e w3⟨rfl,rfl⟩)|(at_builtin;refine CW _ rfl _ _ 164 rfl w.heap.size 169 i0 (.agg #[.int .u8 0,.int .i64 0,.bool false]) 3 24 Tryz.underlying164 aq hz0 hz1 hz2 rfl (by decide) _ acc.length (acc.flatMap Au) rfl ((dU n4).alloc _) ⟨w1.heap.size,0,none⟩ 1 1 (Au ⟨0,0,0⟩) rfl rfl ?c1 ?c2 ?c3 ?c4 ?c5 ?_))
       case c1=>
        intro jj u hu
        match jj,hu with
        | 0,hu=>simp[Au] at hu;subst hu;exact(Fa w1 n4 _ _ 0).trans rfl
        | 1,hu=>simp[Au] at hu;subst hu;exact(Fa w1 n4 _ _ 1).trans rfl
        | 2,hu=>simp[Au] at hu;subst hu;exact(Fa w1 n4 _ _ 2).trans rfl
        | n+3,hu=>simp[Au] at hu
       case c2=>
        intro u hu;simp[Au] at hu;rcases hu with rfl|rfl|rfl<;>rfl
       case c3=>unfold maxLen;omega
       case c4=>omega
       case c5=>simp;omega
       intro v' w4 hown hgrow _;have a7:=Ab (Ad w1 n4 none) (AA (w1.drewN n4) (.cells #[.int .u8 0,.int .i64 0,.bool true] 169) none);have hrow:=RowOk.of ((dU n4).alloc (.cells #[.int .u8 0,.int .i64 0,.bool true] 169));have hb4:=(hb1.kept a7 (by simp)).row hgrow hrow (by decide);have eX:=(hC2.kept a7 (by simp)).row hgrow hrow (by decide);have mO:=(hR1.kept a7 (by simp)).row hgrow hrow (by decide);have hg4:=Ez (Ab bG (A3 a7 (some b))) hgrow hrow;have bV:VTsAt w.heap.size v' (acc++[⟨0,0,0⟩]) w4:=F6 (w:=w4) (.inr trivial) hown;obtain⟨RQ,e8,hv⟩:=bV.slice;rw[AK,BC] at hv;subst hv;obtain⟨hb5,kL,nS,dV,aZ⟩:=F2 hb4 eX mO bV hg4 fM hlt;clear c1 f1 f2 c2 d0 d1 d2 q0 q1 q2 z0 z1 z2 y2 hown hgrow a7 hrow;have a2:=eX.c.2.2;have ay:=eX.fz 2;have c1:=hb5.c1;have f1:=hb5.fz 1;obtain⟨gX,xV,yP,jB,dE⟩:=L3 (k2+1) hb5 kL nS dV aZ fM hlt;have pK:=Ac (gX.ms s.size);go_wp2;go_roundw
       case rel=>exact⟨k2+1,_,false,gX,by omega,xV,yP,dE,.inr ⟨rfl,m,acc++[⟨0,0,0⟩],by omega,by simp;omega,by omega,by rw[Gz _ _ _ VE],jB,Aa fH⟩⟩
       case measure=>refine CQ (CZ (Aa pK)) ?_;rw[HM.out];simp;omega
    ·have fH:Hid (Dw m s.data.toList (acc++[⟨1,Ai s.data.toList k2,0⟩]) (k2+1)=r):=by
      have:=Aa fJ;unfold Ba at this;rw[Xi _ 95 hl (by decide),AO (by simp),hl,AQ rfl] at this;exact this
     clear fJ;have VE:=Te _ hl;have hk2:=D2 _ _ hl;rw[Ae] at hk2;cases x
     all_goals
      go_wp2_with (first|(go_at_call 148;refine(A9 b s k2 _ aj hs hb1).mono ?_;rintro e w3⟨rfl,n4,rfl⟩)|(go_at_call 176;refine(Cv _ _).mono ?_;rintro e w3⟨rfl,rfl⟩)|(go_at_call 177;refine(B7 _ _).mono ?_;rintro e w3⟨rfl,rfl⟩)|(at_builtin;refine CW _ rfl _ _ 164 rfl w.heap.size 169 i0 (.agg #[.int .u8 0,.int .i64 0,.bool false]) 3 24 Tryz.underlying164 aq hz0 hz1 hz2 rfl (by decide) _ acc.length (acc.flatMap Au) rfl ((dU n4).alloc _) ⟨w1.heap.size,0,none⟩ 1 1 (Au ⟨1,Ai s.data.toList k2,0⟩) rfl rfl ?c1 ?c2 ?c3 ?c4 ?c5 ?_))
      case c1=>
       intro jj u hu
       match jj,hu with
       | 0,hu=>simp[Au] at hu;subst hu;exact(Fa w1 n4 _ _ 0).trans rfl
       | 1,hu=>simp[Au] at hu;subst hu;exact(Fa w1 n4 _ _ 1).trans rfl
       | 2,hu=>simp[Au] at hu;subst hu;exact(Fa w1 n4 _ _ 2).trans rfl
       | n+3,hu=>simp[Au] at hu
      case c2=>
       intro u hu;simp[Au] at hu;rcases hu with rfl|rfl|rfl<;>rfl
      case c3=>unfold maxLen;omega
      case c4=>omega
      case c5=>simp;omega
      intro v' w4 hown hgrow _;have a7:=Ab (Ad w1 n4 none) (AA (w1.drewN n4) (.cells #[.int .u8 (Ai s.data.toList k2).toNat,.int .i64 0,.bool false] 169) none);have hrow:=RowOk.of ((dU n4).alloc (.cells #[.int .u8 (Ai s.data.toList k2).toNat,.int .i64 0,.bool false] 169));have hb4:=(hb1.kept a7 (by simp)).row hgrow hrow (by decide);have eX:=(hC2.kept a7 (by simp)).row hgrow hrow (by decide);have mO:=(hR1.kept a7 (by simp)).row hgrow hrow (by decide);have hg4:=Ez (Ab bG (A3 a7 (some b))) hgrow hrow;have bV:VTsAt w.heap.size v' (acc++[⟨1,Ai s.data.toList k2,0⟩]) w4:=F6 (w:=w4) (.inr trivial) hown;obtain⟨RQ,e8,hv⟩:=bV.slice;rw[AK,BC] at hv;subst hv;obtain⟨hb5,kL,nS,dV,aZ⟩:=F2 hb4 eX mO bV hg4 fM hlt;clear c1 f1 f2 c2 d0 d1 d2 q0 q1 q2 z0 z1 z2 y2 hown hgrow a7 hrow;have a2:=eX.c.2.2;have ay:=eX.fz 2;have c1:=hb5.c1;have f1:=hb5.fz 1;obtain⟨gX,xV,yP,jB,dE⟩:=L3 (k2+1) hb5 kL nS dV aZ fM hlt;have pK:=Ac (gX.ms s.size);go_wp2;go_roundw
      case rel=>exact⟨k2+1,_,false,gX,by omega,xV,yP,dE,.inr ⟨rfl,m,acc++[⟨1,Ai s.data.toList k2,0⟩],by omega,by simp;omega,by omega,by rw[Gz _ _ _ VE],jB,Aa fH⟩⟩
      case measure=>refine CQ (CZ (Aa pK)) ?_;rw[HM.out];simp;omega
   ·have hr:Sum.inr (acc,k2+1)=r:=by have:=Aa HN;rwa[rT,AQ rfl] at this
    subst hr;have hk2:=Ap _ _ 41 (by decide) rT;rw[Ae] at hk2;have e41:=(Q37 (Ai s.data.toList k2)).trans rT;have hb2:=fun n=>(hb1.drewN n).set1 (k2+1)
    have kk:=fun n=>Aj (w1.drewN n) b 1 (.int .i64 ((k2:Int)+1))
    have jw:=fun n=>(hC2.drewN n).kept (kk n) (by simp;omega)
    have bo:=fun n=>(hR1.drewN n).kept (kk n) (by simp;omega)
    have e0:=fun n=>(jw n).c.1
    have e1:=fun n=>(jw n).c.2.1
    have e2:=fun n=>(jw n).c.2.2
    have g0:=fun n=>(bo n).c.1
    have g1:=fun n=>(bo n).c.2.1
    have g2:=fun n=>(bo n).c.2.2
    have y0:=fun n=>(bo n).fz 0
    have y1:=fun n=>(bo n).fz 1
    have y2:=fun n=>(bo n).fz 2
    cases x
    all_goals
     go_wp2_with (first|(go_at_call 148;refine(A9 b s k2 _ aj hs hb1).mono ?_;rintro e w3⟨rfl,n4,rfl⟩)|(go_at_call 176;refine(Cv _ _).mono ?_;rintro e w3⟨rfl,rfl⟩)|(go_at_call 177;refine(B7 _ _).mono ?_;rintro e w3⟨rfl,rfl⟩))
     obtain⟨g0,g1,g2⟩:=((bo n4).set3 (.bool nt) (.int .i64 kd) (.slice ao acc.length cap)).c;have k3:=Ci ((w1.drewN n4).setCell ⟨b,1,none⟩ (.int .i64 ((k2:Int)+1))) w.heap.size (.bool nt) (.int .i64 kd) (.slice ao acc.length cap);exact BN (v:=.agg #[.bool nt,.int .i64 kd,.slice ao acc.length cap]) (by simp[results,Tryz.results151,go_sem,g0,g1,g2]) rfl ⟨_,rfl,((kX.row (Ad w1 n4 none) (RowOk.none 0 0 _) (by decide)).row (kk n4) (hb1.drewN n4).rowOk (by decide)).row k3 (RowOk.one (bo n4) (AW _)) (by decide),(hb2 n4).kept k3 (by simp;omega),A8 (Ab (Ab bG (Ad w1 n4 _)) (kk n4)) k3 (AW _)⟩
theorem Vl(b:Nat)(s:ByteArray)(i:Nat)(nt:Bool)(w:World)(hi:i<=s.size)(hs:s.size<=400)(hb:VAt b s i false w)(h:(Ai s.data.toList i==40)=false) :
  Calls Tryz.prog 151 #[.pointer (some ⟨b,0,none⟩),.bool nt] w fun e w'=>e=.returned (.agg #[.bool nt,.int .i64 0,.slice none 0 0])/\VAt b s i true w'/\w.grownBy w' (some b):=by
 have b9:=fun o=>hb.kept (AA w o none) (by simp)
 have dN:C3 166 w.heap.size (.bool false) (.int .i64 0) (.slice none 0 0) (w.alloc (.cells #[.bool false,.int .i64 0,.slice none 0 0] 166)):=AR _ _;have hlt:=hb.lt;go_enter Tryz.func151,Tryz.ntmps151;go_wp2_with fail;refine(Xb b s i 40 _ rfl _ hi hs h (b9 _)).mono ?_;rintro e w1⟨rfl,hb1,hg1⟩;go_wp2_with fail;refine(J3 b s i w1 hb1).mono ?_;rintro e w2⟨rfl,hb2,hg2⟩;have bq:=(dN.kept hg1 (by simp;omega)).kept hg2 (by simp;omega);have bS:=Ab (Ab (AA w _ (some b)) hg1) hg2;clear b9 hb1 hg1 hg2 dN;have a7:=AA w2 (.cells #[.bool nt,.int .i64 0,.slice none 0 0] 166) none;have sJ:C3 166 w2.heap.size (.bool nt) (.int .i64 0) (.slice none 0 0) (w2.alloc (.cells #[.bool nt,.int .i64 0,.slice none 0 0] 166)):=AR _ _;have bu:=hb2.kept a7 (by simp);have kK:=bq.kept a7 (by simp);have fM:w.heap.size<w2.heap.size:=bq.lt;have cI:b<w2.heap.size:=hb2.lt;have ax:=Ab bS (A3 a7 (some b));clear a7 hb2 bq bS;go_wp2_with fail;refine(Hw b s i _ bu).mono ?_;rintro e YG⟨rfl,n,rfl⟩;generalize w2.alloc (.cells #[.bool nt,.int .i64 0,.slice none 0 0] 166)=w3 at *;generalize w2.heap.size=C at *;have hb4:=(bu.drewN n).set2 true;have kk:=Aj (w3.drewN n) b 2 (.bool true);have eX:=(sJ.drewN n).kept kk (by simp;omega);have bR:=(kK.drewN n).kept kk (by simp;omega);obtain⟨d0,d1,d2⟩:=eX.c;obtain⟨q0,q1,q2⟩:=bR.c;have z0:=bR.fz 0;have z1:=bR.fz 1;have z2:=bR.fz 2;have c2:=bu.c2;have f2:=bu.fz 2
 go_wp2_with (go_at_call 177;refine(B7 0 _).mono ?_;rintro e w3⟨rfl,rfl⟩)
 have k3:=Ci ((w3.drewN n).setCell ⟨b,2,none⟩ (.bool true)) w.heap.size (.bool nt) (.int .i64 0) (.slice none 0 0);obtain⟨g0,g1,g2⟩:=(bR.set3 (.bool nt) (.int .i64 0) (.slice none 0 0)).c;exact BN (v:=.agg #[.bool nt,.int .i64 0,.slice none 0 0]) (by simp[results,Tryz.results151,go_sem,g0,g1,g2]) rfl ⟨rfl,hb4.kept k3 (by simp;omega),A8 (Ab (Ab ax (Ad w3 n _)) kk) k3 (AW _)⟩
theorem Uu(b:Nat)(s:ByteArray)(i:Nat)(nt:Bool)(w:World)(hi:i<=s.size)(hs:s.size<=400)(hb:VAt b s i false w)(h:(Ai s.data.toList i==40)=true)(h2:As (Ai s.data.toList (Ag s.data.toList (i+1)))=false) :
  Calls Tryz.prog 151 #[.pointer (some ⟨b,0,none⟩),.bool nt] w fun e w'=>e=.returned (.agg #[.bool nt,.int .i64 0,.slice none 0 0])/\VAt b s (Ag s.data.toList (i+1)) true w'/\w.grownBy w' (some b):=by
 have b9:=fun o=>hb.kept (AA w o none) (by simp)
 have dN:C3 166 w.heap.size (.bool false) (.int .i64 0) (.slice none 0 0) (w.alloc (.cells #[.bool false,.int .i64 0,.slice none 0 0] 166)):=AR _ _;have hlt:=hb.lt;have eZ:=Ap _ _ 40 (by decide) h;rw[Ae] at eZ;have hle:=(A7 s.data.toList (i+1) (by rw[Ae];exact eZ)).2;rw[Ae] at hle;obtain⟨k,hk⟩:∃k,Ag s.data.toList (i+1)=k:=⟨_,rfl⟩
 rw[hk] at h2 hle⊢;have HK:=Ac hk;clear hk;go_enter Tryz.func151,Tryz.ntmps151;go_wp2_with fail;refine(Nl b s i 40 _ rfl _ hi hs h (b9 _)).mono ?_;rintro e w1⟨rfl,hb1,hg1⟩;go_wp2_with fail;refine(Fj b s (i+1) w1 eZ hs hb1).mono ?_;rintro e w2⟨rfl,hb2,hg2⟩;have bq:=(dN.kept hg1 (by simp;omega)).kept hg2 (by simp;omega);have bS:=Ab (Ab (AA w _ (some b)) hg1) hg2;clear b9 hb1 hg1 hg2 dN;rw[Aa HK] at hb2;have a7:=AA w2 (.cells #[.bool nt,.int .i64 0,.slice none 0 0] 166) none;have sJ:C3 166 w2.heap.size (.bool nt) (.int .i64 0) (.slice none 0 0) (w2.alloc (.cells #[.bool nt,.int .i64 0,.slice none 0 0] 166)):=AR _ _;have bu:=hb2.kept a7 (by simp);have kK:=bq.kept a7 (by simp);have fM:w.heap.size<w2.heap.size:=bq.lt;have cI:b<w2.heap.size:=hb2.lt;have ax:=Ab bS (A3 a7 (some b));clear a7 hb2 bq bS;go_wp2_with fail;refine(A9 b s k _ hle hs bu).mono ?_;rintro e YG⟨rfl,n,rfl⟩;generalize w2.alloc (.cells #[.bool nt,.int .i64 0,.slice none 0 0] 166)=w3 at *;generalize w2.heap.size=C at *;have hb4:=(bu.drewN n).set2 true;have kk:=Aj (w3.drewN n) b 2 (.bool true);have eX:=(sJ.drewN n).kept kk (by simp;omega);have bR:=(kK.drewN n).kept kk (by simp;omega);obtain⟨d0,d1,d2⟩:=eX.c;obtain⟨q0,q1,q2⟩:=bR.c;have z0:=bR.fz 0;have z1:=bR.fz 1;have z2:=bR.fz 2;have c2:=bu.c2;have f2:=bu.fz 2
 go_wp2_with (go_at_call 177;refine(B7 _ _).mono ?_;rintro e w3⟨rfl,rfl⟩)
 have k3:=Ci ((w3.drewN n).setCell ⟨b,2,none⟩ (.bool true)) w.heap.size (.bool nt) (.int .i64 0) (.slice none 0 0);obtain⟨g0,g1,g2⟩:=(bR.set3 (.bool nt) (.int .i64 0) (.slice none 0 0)).c;exact BN (v:=.agg #[.bool nt,.int .i64 0,.slice none 0 0]) (by simp[results,Tryz.results151,go_sem,g0,g1,g2]) rfl ⟨rfl,hb4.kept k3 (by simp;omega),A8 (Ab (Ab ax (Ad w3 n _)) kk) k3 (AW _)⟩
theorem Kr(b:Nat)(s:ByteArray)(i:Nat)(nt:Bool)(w:World)(hi:i<=s.size)(hs:s.size<=400)(hsk:Ag s.data.toList i=i)(hb:VAt b s i false w) :
  Calls Tryz.prog 151 #[.pointer (some ⟨b,0,none⟩),.bool nt] w fun e w'=>∃(kd:Int) (ao:Option Addr) (n cap j:Nat) (bd:Bool),e=.returned (.agg #[.bool nt,.int .i64 kd,.slice ao n cap])/\VAt b s j bd w'/\w.grownBy w' (some b)/\
   Hid ((bd=true/\Al s.data.toList i=.inl j)\/(bd=false/\∃(c:Sv.Cond),Al s.data.toList i=.inr (c,j)/\(c.kind:Int)=kd/\VTsAt w.heap.size (.slice ao n cap) c.terms w')):=by
 cases h:Ai s.data.toList i==40
 ·refine(Vl b s i nt w hi hs hb h).mono ?_
  rintro e w'⟨rfl,h1,h2⟩;refine⟨0,none,0,0,i,true,rfl,h1,h2,.inl ⟨rfl,?_⟩⟩;unfold Al;rw[hsk,h];rfl
 ·cases hd:As (Ai s.data.toList (Ag s.data.toList (i+1)))
  ·refine(Uu b s i nt w hi hs hb h hd).mono ?_
   rintro e w'⟨rfl,h1,h2⟩;refine⟨0,none,0,0,_,true,rfl,h1,h2,.inl ⟨rfl,?_⟩⟩;unfold Al;simp only;rw[hsk,h,AQ rfl,hd];rfl
  ·refine(Vu b s i nt w hi hs hb h hd _ rfl _ rfl).mono ?_
   intro e w' hp
   have e1:Al s.data.toList i=match Cl s.data.toList (Ag s.data.toList (i+1)+1) with
     | .inl m=>.inl m
     | .inr (ts,m)=>.inr (⟨false,(Ai s.data.toList (Ag s.data.toList (i+1))).toNat-48,ts⟩,m):=by
    unfold Al;simp only;rw[hsk,h,AQ rfl,hd,AQ rfl];cases Cl s.data.toList (Ag s.data.toList (i+1)+1)<;>rfl
   cases hr:Cl s.data.toList (Ag s.data.toList (i+1)+1) with
   | inl k=>
    rw[hr] at hp e1;obtain⟨q,ao,n,cap,rfl,h1,h2⟩:=hp;exact⟨q,ao,n,cap,k,true,rfl,h1,h2,.inl ⟨rfl,e1⟩⟩
   | inr q=>
    obtain⟨ts,j⟩:=q;rw[hr] at hp e1;obtain⟨u,rfl,h1,h2,h3⟩:=hp;obtain⟨ao,cap,rfl⟩:=h1.slice;exact⟨_,ao,_,cap,j,false,rfl,h2,h3,.inr ⟨rfl,_,e1,rfl,h1⟩⟩
theorem Mj(l:List UInt8)(i:Nat):Al l (Ag l i)=Al l i:=by
 unfold Al;rw[Db]
def VCsCells(B:Nat)(w:World):List Sv.Cond->List Value->Prop
 | [],xs=>xs=[]
 | c::cs,xs=>∃u ys,xs=.bool c.neg::.int .i64 c.kind::u::ys/\VTsAt B u c.terms w/\VCsCells B w cs ys
theorem VCsCells.row{B:Nat}{w w':World}{base':Nat}{e':TypeId}{row:Option Nat}(hg:w.grownBy w' row)(hr:RowOk base' e' row w)(hne:e'≠169):∀(cs:List Sv.Cond) (xs:List Value),VCsCells B w cs xs->VCsCells B w' cs xs
 | [],_,h=>h
 | _::cs,_,⟨u,ys,h1,h2,h3⟩=>⟨u,ys,h1,h2.row hg hr hne,VCsCells.row hg hr hne cs ys h3⟩
theorem VCsCells.snoc{B:Nat}{w:World}(c:Sv.Cond)(u:Value)(hu:VTsAt B u c.terms w):∀(cs:List Sv.Cond) (xs:List Value),VCsCells B w cs xs->VCsCells B w (cs++[c]) (xs++[.bool c.neg,.int .i64 c.kind,u])
 | [],xs,h=>⟨u,[],by rw[show xs=[] from h];rfl,hu,rfl⟩
 | _::cs,_,⟨v,ys,h1,h2,h3⟩=>⟨v,ys++[.bool c.neg,.int .i64 c.kind,u],by rw[h1];rfl,h2,VCsCells.snoc c u hu cs ys h3⟩
def VCsAt(base:Nat)(v:Value)(cs:List Sv.Cond)(w:World):Prop:=∃xs,w.ownsRow base 166 3 v cs.length xs/\VCsCells base w cs xs
theorem VCsAt.slice{base:Nat}{u:Value}{cs:List Sv.Cond}{w:World}(h:VCsAt base u cs w):∃ao cap,u=.slice ao cs.length cap:=by
 obtain⟨xs,h,_⟩:=h;rcases h.2 with ⟨h1,h2⟩|⟨g,cap,cur,h1,_⟩
 ·exact⟨none,0,by rw[h2];exact h1⟩
 ·exact⟨_,_,h1⟩
theorem VCsAt.row{w w':World}{base base':Nat}{e':TypeId}{v:Value}{cs:List Sv.Cond}{row:Option Nat}(h:VCsAt base v cs w)(hg:w.grownBy w' row)(hr:RowOk base' e' row w)(hne:e'≠169)(dW:e'≠166):VCsAt base v cs w':=by
 obtain⟨xs,h1,h2⟩:=h;exact⟨xs,Dy h1 hg hr dW,VCsCells.row hg hr hne cs xs h2⟩
theorem Tryz.infoVCond:(Tryz.prog.info? 166).map (fun i=>(i.zero,i.size,i.bytes))=some (some (.agg #[.bool false,.int .i64 0,.slice none 0 0]),3,40):=by kernel_rfl
def Q26(b:Nat)(s:ByteArray)(w:World)(r:Nat ⊕ (Sv.Rule×Nat))(e:Ending)(w':World):Prop:=
 match r with
 | .inl k=>∃(nm:ByteArray) (ao:Option Addr) (n cap:Nat),e=.returned (.agg #[.string nm,.slice ao n cap])/\VAt b s k true w'/\w.grownBy w' (some b)
 | .inr (q,j)=>∃u,e=.returned (.agg #[.string ⟨q.name.toArray⟩,u])/\VCsAt w.heap.size u q.conds w'/\VAt b s j false w'/\w.grownBy w' (some b)
theorem D0(b:Nat)(s:ByteArray)(i:Nat)(bd:Bool)(w:World)(hi:i<=s.size)(hs:s.size<=400)(hb:VAt b s i bd w) :
  Calls Tryz.prog 117 #[.pointer (some ⟨b,0,none⟩)] w fun e w'=>e=.returned (.tuple #[])/\VAt b s (if bd=true then i else Ag s.data.toList i) bd w'/\w.grownBy w' (some b):=by
 cases bd
 ·exact Fj b s i w hi hs hb
 ·exact J3 b s i w hb
theorem J8(b:Nat)(s:ByteArray)(i:Nat)(bd:Bool)(w:World)(hi:i<=s.size)(hs:s.size<=400)(hb:VAt b s i bd w) :
  Calls Tryz.prog 148 #[.pointer (some ⟨b,0,none⟩)] w fun e w'=>e=.returned (.int .u8 (if bd=true then (0:UInt8) else Ai s.data.toList i).toNat)/\∃n,w'=w.drewN n:=by
 cases bd
 ·exact A9 b s i w hi hs hb
 ·exact Hw b s i w hb
theorem Yn(b:Nat)(s:ByteArray)(i:Nat)(bd:Bool)(c:UInt8)(hc:c≠0)(x:Int)(hx:x=c.toNat)(w:World)(hi:i<=s.size)(hs:s.size<=400)(hb:VAt b s i bd w) :
  Calls Tryz.prog 150 #[.pointer (some ⟨b,0,none⟩),.int .u8 x] w fun e w'=>∃j RO,e=.returned (.tuple #[])/\VAt b s j RO w'/\w.grownBy w' (some b)/\j<=s.size/\
   Hid ((bd=true/\RO=true/\j=i)\/(bd=false/\RO=false/\(Ai s.data.toList i==c)=true/\j=i+1)\/(bd=false/\RO=true/\(Ai s.data.toList i==c)=false/\j=i)):=by
 cases bd
 ·cases h:Ai s.data.toList i==c
  ·refine(Xb b s i c x hx w hi hs h hb).mono ?_
   rintro e w'⟨rfl,h1,h2⟩;exact⟨i,true,rfl,h1,h2,hi,.inr (.inr ⟨rfl,rfl,rfl,rfl⟩)⟩
  ·refine(Nl b s i c x hx w hi hs h hb).mono ?_
   rintro e w'⟨rfl,h1,h2⟩;have h3:=Ap _ _ c hc h;rw[Ae] at h3;exact⟨i+1,false,rfl,h1,h2,h3,.inr (.inl ⟨rfl,rfl,rfl,rfl⟩)⟩
 ·refine(Zk b s i c hc x hx w hb).mono ?_
  rintro e w'⟨rfl,h1,h2⟩;exact⟨i,true,rfl,h1,h2,hi,.inl ⟨rfl,rfl,rfl⟩⟩
theorem U5(b:Nat)(s:ByteArray)(i:Nat)(w:World)(hi:i<=s.size)(hs:s.size<=400)(hb:VAt b s i false w) :
  Calls Tryz.prog 149 #[.pointer (some ⟨b,0,none⟩)] w fun e w'=>∃(nm:ByteArray) (j:Nat) (bd:Bool),e=.returned (.string nm)/\VAt b s j bd w'/\w.grownBy w' (some b)/\j<=s.size/\
   Hid ((bd=true/\Ao 8 s.data.toList i=i/\j=i)\/(bd=false/\Ao 8 s.data.toList i≠i/\j=Ao 8 s.data.toList i/\nm=⟨(Ct s.data.toList i j).toArray⟩)):=by
 by_cases h:Ao 8 s.data.toList i=i
 ·refine(Zq b s i w hi hs h hb).mono ?_
  rintro e w'⟨rfl,h1,h2⟩;exact⟨_,i,true,rfl,h1,h2,hi,.inl ⟨rfl,h,rfl⟩⟩
 ·refine(Vv b s i w hi hs h hb).mono ?_
  rintro e w'⟨rfl,h1,h2⟩;have h3:=(Dh 8 s.data.toList i (by simpa using hi)).2.1;rw[Ae] at h3;exact⟨_,_,false,rfl,h1,h2,h3,.inr ⟨rfl,h,rfl,rfl⟩⟩
theorem C2.row{row:Option Nat}(h:C2 T N x y w)(hg:w.grownBy w' row)(hr:RowOk base e row w)(he:e≠T):C2 T N x y w':=by
 refine h.kept hg (fun e1=>?_);obtain⟨_,cur,fz,h2⟩:=hr N e1.symm;unfold C2 at h;rw[h] at h2;simp at h2;exact he h2.2.1.symm
theorem C2.drewN{T:TypeId}{N:Nat}{x y:Value}{w:World}(h:C2 T N x y w)(n:Nat):C2 T N x y (w.drewN n):=h
theorem C2.put0(h:C2 T N a b w)(x:Value):C2 T N x b (w.setCell ⟨N,0,none⟩ x):=by
 unfold C2 at h⊢;rw[BB w N 0 _ _ x h];rfl
theorem C2.put1(h:C2 T N a b w)(x:Value):C2 T N a x (w.setCell ⟨N,1,none⟩ x):=by
 unfold C2 at h⊢;rw[BB w N 1 _ _ x h];rfl
theorem Q1d(c:UInt8):((c.toNat:Int)==33)=(c==33):=Hn c 33
theorem Tu(c:UInt8):((c.toNat:Int)==59)=(c==59):=Hn c 59
def Dr(n:Nat)(l:List UInt8)(acc:List Sv.Cond)(p:Nat):Nat ⊕ (List Sv.Cond×Nat):=
 match Al l (if (Ai l p==33&&decide (0<acc.length))=true then p+1 else p) with
 | .inl k=>.inl k
 | .inr (c,j)=>Dl n l (acc++[⟨Ai l p==33&&decide (0<acc.length),c.kind,c.terms⟩]) j
theorem Qz(l:List UInt8)(i:Nat):Dr (l.length+1) l [] (Ag l i)=Bl l i:=by
 unfold Dr Bl;rw[show (Ai l (Ag l i)==33&&decide (0<([]:List Sv.Cond).length))=false from by simp,AO (by simp),Mj];cases hc:Al l i with
 | inl k=>rfl
 | inr q=>
  obtain⟨c,j⟩:=q;have hn:=Jy _ _ _ _ hc;show Dl (l.length+1) l [⟨false,c.kind,c.terms⟩] j=Dl (l.length+1) l [c] j
  rw[<-hn]
theorem Ii(n:Nat)(l:List UInt8)(acc:List Sv.Cond)(j:Nat)(aY:0<acc.length)(h:(Ai l (Ag l j)==59)=false):Dl (n+1) l acc j=Dr n l acc (Ag l j):=by
 rw[Cr,h,AO (by simp)];unfold Dr;rw[show decide (0<acc.length)=true from by simpa using aY,KL];cases Al l (if (Ai l (Ag l j)==33)=true then Ag l j+1 else Ag l j)<;>rfl
theorem It(n:Nat)(l:List UInt8)(acc:List Sv.Cond)(p:Nat)(hsk:Ag l p=p)(h3:(Ai l p==33)=false)(h4:(Ai l p==40)=false):Dr n l acc p=.inl p:=by
 unfold Dr;rw[h3];simp only[DV,BZ,if_false];rw[show Al l p=.inl p from by unfold Al;rw[hsk,h4];rfl]
def Q25(b:Nat)(s:ByteArray)(U:Nat)(w:World)(i:Nat)(r:Nat ⊕ (Sv.Rule×Nat))(w':World):Prop:=
 ∃(p:Nat) (nm:ByteArray) (u:Value) (bad:Bool),VAt b s p bad w'/\p<=s.size/\C2 163 U (.string nm) u w'/\C2 163 w.heap.size (.string ⟨#[]⟩) (.slice none 0 0) w'/\w.grownBy w' (some b)/\
  ((bad=true/\r=.inl p/\∃ao n cap,u=.slice ao n cap)\/(bad=false/\∃(n:Nat) (acc:List Sv.Cond),s.size<p+n+1/\acc.length<=p/\Ag s.data.toList p=p/\VCsAt w.heap.size u acc w'/\nm=⟨(Ct s.data.toList i (Ao 8 s.data.toList i)).toArray⟩/\
   (match Dr n s.data.toList acc p with
    | .inl m=>.inl m
    | .inr (cs,m)=>.inr (⟨Ct s.data.toList i (Ao 8 s.data.toList i),cs⟩,m))=r))
theorem Lt(l:List UInt8)(i:Nat)(h:Ao 8 l i≠i)(h2:(Ai l (Ag l (Ao 8 l i))==58)=true):A1 l i=match Bl l (Ag l (Ao 8 l i)+1) with
  | .inl m=>.inl m
  | .inr (cs,m)=>.inr (⟨Ct l i (Ao 8 l i),cs⟩,m):=by
 unfold A1;simp only;rw[AO h,h2,AQ rfl];cases Bl l (Ag l (Ao 8 l i)+1)<;>rfl
theorem Q2s(b:Nat)(s:ByteArray)(i:Nat)(w:World)(hi:i<=s.size)(hs:s.size<=400)(hb:VAt b s i false w)(r:Nat ⊕ (Sv.Rule×Nat))(hR:A1 s.data.toList i=r) :
  Calls Tryz.prog 118 #[.pointer (some ⟨b,0,none⟩)] w fun e w'=>Q26 b s w r e w':=by
 obtain⟨i0,aq,hz0,hz1,hz2⟩:=info_parts Tryz.infoVCond;have HR:=Ac hR;clear hR;have hlt:=hb.lt;have a7:=AA w (.cells #[.string ⟨#[]⟩,.slice none 0 0] 163) none;have aO:=AA (w.alloc (.cells #[.string ⟨#[]⟩,.slice none 0 0] 163)) (.cells #[.string ⟨#[]⟩,.slice none 0 0] 163) none;have sI:C2 163 w.heap.size (.string ⟨#[]⟩) (.slice none 0 0) (w.alloc (.cells #[.string ⟨#[]⟩,.slice none 0 0] 163)):=AR _ _;have hR1:=sI.kept aO (by simp)
 have uu:C2 163 (w.heap.size+1) (.string ⟨#[]⟩) (.slice none 0 0) ((w.alloc (.cells #[.string ⟨#[]⟩,.slice none 0 0] 163)).alloc (.cells #[.string ⟨#[]⟩,.slice none 0 0] 163)):=by
  have:=AR (w.alloc (.cells #[.string ⟨#[]⟩,.slice none 0 0] 163)) (.cells #[.string ⟨#[]⟩,.slice none 0 0] 163);rwa[EO] at this
 have hb1:=(hb.kept a7 (by simp)).kept aO (by simp);have hg1:=A3 (Ab a7 aO) (some b);clear a7 aO sI;go_enter Tryz.func118,Tryz.ntmps118;go_wp2_with fail;refine(U5 b s i _ hi hs hb1).mono ?_;rintro e w2⟨nm,j,bd,rfl,hb2,hg2,hj,HV⟩;have hR2:=hR1.kept hg2 (by simp;omega);have QY:=uu.kept hg2 (by simp;omega);have bS:=Ab hg1 hg2;clear hR1 uu hg1 hg2 hb1;generalize hUU:w.heap.size+1=U at *;have rF:w.heap.size<U:=by omega
 clear hUU;have kU:=Aj w2 U 0 (.string nm);have rE:=QY.put0 (.string nm);have bo:=hR2.kept kU (by simp;omega);have hb3:=hb2.kept kU (by simp;omega);have ax:=A8 bS kU (EE rF);have a0:=QY.c.1;have az:=QY.fz 0;clear hR2 QY bS hb2 kU;go_wp2_with fail;refine(D0 b s j bd _ hj hs hb3).mono ?_;rintro e w4⟨rfl,hb4,hg4⟩;have mO:=bo.row hg4 hb3.rowOk (by decide);have xK:=rE.row hg4 hb3.rowOk (by decide);have jG:=Ab ax hg4;clear bo rE ax hg4 hb3 a0 az;obtain⟨j2,jg⟩:∃j2,(if bd=true then j else Ag s.data.toList j)=j2:=⟨_,rfl⟩
 rw[jg] at hb4
 have LA:j2<=s.size:=by
  have:=(A7 s.data.toList j (by simpa using hj)).2;rw[Ae] at this;rw[<-jg];split<;>omega
 have RY:=Ac jg;clear jg;go_wp2_with fail;refine(Yn b s j2 bd 58 (by decide) _ rfl _ LA hs hb4).mono ?_;rintro e w5⟨j3,bd3,rfl,hb5,aZ,UD,HV2⟩;have nS:=mO.row aZ hb4.rowOk (by decide);have hU5:=xK.row aZ hb4.rowOk (by decide);have bW:=Ab jG aZ;clear mO xK jG aZ hb4;go_wp2_with fail;refine(D0 b s j3 bd3 _ UD hs hb5).mono ?_;rintro e w6⟨rfl,gX,dE⟩;have yP:=nS.row dE hb5.rowOk (by decide);have xJ:=hU5.row dE hb5.rowOk (by decide);have ee:=Ab bW dE;clear nS hU5 bW dE hb5;go_wp2_with fail;go_loopw [] (fun w'=>Q25 b s U w i r w') (fun w'=>Q1a b s.size w')
 case atStart=>
  refine⟨_,nm,_,bd3,gX,?_,xJ,yP,ee,?_⟩
  ·have:=(A7 s.data.toList j3 (by simpa using UD)).2
   rw[Ae] at this;split<;>omega
  ·rcases Aa HV2 with ⟨rfl,rfl,rfl⟩|⟨rfl,rfl,RI,rfl⟩|⟨rfl,rfl,RI,rfl⟩
   ·refine .inl ⟨rfl,?_,_,_,_,rfl⟩
    rcases Aa HV with ⟨_,h8,rfl⟩|⟨h8,_⟩
    ·have h7:j3=j:=(Aa RY).symm
     rw[AQ rfl,h7,<-Aa HR];unfold A1;simp only;rw[AQ h8]
    ·cases h8
   ·refine .inr ⟨rfl,s.data.toList.length+1,[],by simp;omega,AG _,?_,⟨[],EJ _ _ _ _,rfl⟩,?_,?_⟩
    ·rw[AO (by simp)];exact Db _ _
    ·rcases Aa HV with ⟨h8,_⟩|⟨_,h8,rfl,rfl⟩
     ·cases h8
     ·rfl
    ·rcases Aa HV with ⟨h8,_⟩|⟨_,h8,rfl,rfl⟩
     ·cases h8
     ·have h7:Ag s.data.toList (Ao 8 s.data.toList i)=j2:=Aa RY
      rw[AO (by simp),Qz,<-Aa HR,<-h7];rw[<-h7] at RI;exact(Lt _ _ h8 RI).symm
   ·refine .inl ⟨rfl,?_,_,_,_,rfl⟩
    rcases Aa HV with ⟨h8,_⟩|⟨_,h8,rfl,rfl⟩
    ·cases h8
    ·have h7:Ag s.data.toList (Ao 8 s.data.toList i)=j3:=Aa RY
     rw[AQ rfl,<-Aa HR];unfold A1;simp only;rw[AO h8,h7,RI];rfl
 case round=>
  clear yP xJ ee gX HV HV2 RY HR hj LA UD;obtain⟨p,nm,u,bad,aD,hp,hU,kJ,hg,lJ⟩:=hrel;have HM:=Ac (aD.ms s.size);rcases lJ with ⟨rfl,hr,ao,nn,cap,rfl⟩|⟨rfl,m,acc,hm,aY,hsk,hcs,bQ,pN⟩
  ·subst hr
   have c2:=aD.c2;obtain⟨d0,d1⟩:=hU.c;obtain⟨q0,q1⟩:=kJ.c;have z0:=kJ.fz 0;have z1:=kJ.fz 1;go_wp2;have k3:=Du wr w.heap.size (.string nm) (.slice ao nn cap);obtain⟨q0,q1⟩:=(kJ.set2 (.string nm) (.slice ao nn cap)).c;exact BN (v:=.agg #[.string nm,.slice ao nn cap]) (by simp[results,Tryz.results118,go_sem,q0,q1]) rfl ⟨_,_,_,_,rfl,aD.kept k3 (by simp;omega),A8 hg k3 (AW _)⟩
  ·have HX:=Ac pN
   have oT:=Ac bQ;clear pN bQ;have c2:=aD.c2;have c1:=aD.c1;have f1:=aD.fz 1;obtain⟨d0,d1⟩:=hU.c;obtain⟨ao,cap,rfl⟩:=hcs.slice;cases pH:Ai s.data.toList p==33
   ·have oU:Hid ((Ai s.data.toList p==33&&decide (0<acc.length))=false):=by show (_&&_)=false;rw[pH];rfl
    have PJ:Hid (Al s.data.toList p=Al s.data.toList p):=rfl;have e33:=(Q1d (Ai s.data.toList p)).trans pH;have pZ:p<=s.size:=hp
    go_wp2_with (go_at_call 148;refine(A9 b s p _ hp hs aD).mono ?_;rintro e w7⟨rfl,n7,rfl⟩)
    have kG:=aD.drewN n7;have um:=hU.drewN n7;have uy:=kJ.drewN n7;have qd:=Ab hg (Ad wr n7 _);have lH:=hcs.row (Ad wr n7 none) (RowOk.none 0 0 _) (by decide) (by decide);clear aD hU kJ hg hcs c1 c2 f1 d0 d1;refine(Kr b s p false _ hp hs hsk kG).mono ?_;rintro e w8⟨kd,eC,n8,au,j8,bI,rfl,oG,fL,oQ⟩;have qu:=lH.row fL kG.rowOk (by decide) (by decide);have oK:=um.row fL kG.rowOk (by decide);have vA:=uy.row fL kG.rowOk (by decide);have iV:=Ab qd fL;obtain⟨xs,eK,cm⟩:=qu;have zI:=iV.size;have py:=qd.size;clear lH um uy qd kG fL;have a7:=AA w8 (.cells #[.bool false,.int .i64 kd,.slice eC n8 au] 166) none;have aO:=Ab a7 (AA (w8.alloc (.cells #[.bool false,.int .i64 kd,.slice eC n8 au] 166)) (.cells #[.bool false,.int .i64 kd,.slice eC n8 au] 166) none);have hrow:=RowOk.of ((eK.alloc (.cells #[.bool false,.int .i64 kd,.slice eC n8 au] 166)).alloc (.cells #[.bool false,.int .i64 kd,.slice eC n8 au] 166));have cj:=VCsCells.row aO (RowOk.none 0 0 w8) (by decide) acc xs cm;have ur:=oK.kept aO (by simp);have uz:=vA.kept aO (by simp);have uh:=oG.kept aO (by simp);have lC:=Ab iV (A3 aO (some b));obtain⟨d0,d1⟩:=oK.c;have NW:=(oK.kept a7 (by simp)).c.2
    go_wp2_with (at_builtin;refine CW _ rfl _ _ 161 rfl w.heap.size 166 i0 (.agg #[.bool false,.int .i64 0,.slice none 0 0]) 3 40 Tryz.underlying161 aq hz0 hz1 hz2 rfl (by decide) _ acc.length xs rfl ((eK.alloc _).alloc _) ⟨w8.heap.size+1,0,none⟩ 1 1 [.bool false,.int .i64 kd,.slice eC n8 au] rfl rfl ?c1 ?c2 ?c3 ?c4 ?c5 ?_)
    case c1=>
     intro jj u hu
     match jj,hu with
     | 0,hu=>simp at hu;subst hu;simp[Addr.add]
     | 1,hu=>simp at hu;subst hu;simp[Addr.add]
     | 2,hu=>simp at hu;subst hu;simp[Addr.add]
     | n+3,hu=>simp at hu
    case c2=>
     intro u hu;simp at hu;rcases hu with rfl|rfl|rfl<;>rfl
    case c3=>unfold maxLen;omega
    case c4=>omega
    case c5=>simp;omega
    intro v' wA hown hgrow _;have iY:=ur.row hgrow hrow (by decide);have ie:=uz.row hgrow hrow (by decide);have bu:=uh.row hgrow hrow (by decide);have lB:=Ez lC hgrow hrow;have cg:=VCsCells.row hgrow hrow (by decide) acc xs cj
    obtain⟨eQ,bD,rfl⟩:∃ao cap,v'=.slice ao (acc.length+1) cap:=by
     rcases hown.2 with ⟨h1,h2⟩|⟨g,cap,cur,h1,_⟩
     ·omega
     ·exact⟨_,_,h1⟩
    have vI:Hid (bI=false->∃c:Sv.Cond,Al s.data.toList p=.inr (c,j8)/\(c.kind:Int)=kd/\VTsAt w.heap.size (.slice eC n8 au) c.terms wA):=by
     intro aV;rcases Aa oQ with ⟨h1,_⟩|⟨_,c,h1,h2,h3⟩
     ·rw[aV] at h1;cases h1
     ·exact⟨c,h1,h2,Cm ((VTsAt.row h3 aO (RowOk.none 0 0 w8) (by decide)).row hgrow hrow (by decide)) py⟩
    have NF:Hid (bI=true->Al s.data.toList p=.inl j8):=by
     intro aV;rcases Aa oQ with ⟨_,h1⟩|⟨h1,_⟩
     ·exact h1
     ·rw[aV] at h1;cases h1
    have l8:j8<=s.size/\(bI=false->p<j8):=by
     have aK:=C8 s.data.toList p (by rw[Ae];exact pZ);rcases Aa oQ with ⟨h1,h2⟩|⟨h1,c,h2,_⟩
     ·rw[h2] at aK;have h3:j8<=s.data.toList.length:=aK;rw[Ae] at h3;exact⟨h3,fun h=>by rw[h1] at h;cases h⟩
     ·rw[h2] at aK;obtain⟨h3,h4⟩:p<j8/\j8<=s.data.toList.length:=aK;rw[Ae] at h4;exact⟨h4,fun _=>by omega⟩
    obtain⟨l8,iR⟩:=l8;clear oK vA oG iV eK cm aO hrow cj ur uz uh lC d0 d1 NW hgrow oQ a7;have kU:=Aj wA U 1 (.slice eQ (acc.length+1) bD);have uq:=iY.put1 (.slice eQ (acc.length+1) bD);have gQ:=ie.kept kU (by simp;omega);have ei:=bu.kept kU (by simp;omega);have lA:=A8 lB kU (EE rF);have cf:=VCsCells.row kU (RowOk.one2 iY (AG _)) (by decide) acc xs cg;have gH:=Dy hown kU (RowOk.one2 iY (AG _)) (by decide)
    have lR:Hid (bI=false->∃c:Sv.Cond,Al s.data.toList p=.inr (c,j8)/\(c.kind:Int)=kd/\VTsAt w.heap.size (.slice eC n8 au) c.terms (wA.setCell ⟨U,1,none⟩ (.slice eQ (acc.length+1) bD))):=by
     intro aV;obtain⟨c,h1,h2,h3⟩:=Aa vI aV;exact⟨c,h1,h2,h3.row kU (RowOk.one2 iY (AG _)) (by decide)⟩
    have a1:=iY.c.2;have az:=iY.fz 1;clear ie bu lB cg hown kU vI;go_wp2_with fail;refine(D0 b s j8 bI _ l8 hs ei).mono ?_;rintro e wC⟨rfl,cI,bF⟩;have oJ:=uq.row bF ei.rowOk (by decide);have fU:=gQ.row bF ei.rowOk (by decide);have fR:=Ab lA bF;have cZ:=VCsCells.row bF ei.rowOk (by decide) acc xs cf;have gG:=Dy gH bF ei.rowOk (by decide)
    have lQ:Hid (bI=false->∃c:Sv.Cond,Al s.data.toList p=.inr (c,j8)/\(c.kind:Int)=kd/\VTsAt w.heap.size (.slice eC n8 au) c.terms wC):=by
     intro aV;obtain⟨c,h1,h2,h3⟩:=Aa lR aV;exact⟨c,h1,h2,h3.row bF ei.rowOk (by decide)⟩
    clear iY uq gQ ei lA cf gH bF lR a1 az;obtain⟨pp,kh⟩:∃pp,(if bI=true then j8 else Ag s.data.toList j8)=pp:=⟨_,rfl⟩
    rw[kh] at cI
    have dJ:pp<=s.size/\(bI=false->p<pp):=by
     have h1:=A7 s.data.toList j8 (by rw[Ae];exact l8);rw[Ae] at h1;rw[<-kh];cases bI
     ·rw[AO (by simp)];exact⟨h1.2,fun _=>by have:=iR rfl;omega⟩
     ·rw[AQ rfl];exact⟨l8,fun h=>by cases h⟩
    obtain⟨dJ,kg⟩:=dJ;obtain⟨ch,hch⟩:∃ch,(if bI=true then (0:UInt8) else Ai s.data.toList pp)=ch:=⟨_,rfl⟩
    have fX:=Ac kh;have gD:=Ac hch;clear kh hch;have vS:=Ac kg;have vR:=Ac iR;clear kg iR;have bM:=fun n=>J8 b s pp bI (wC.drewN n) dJ hs (cI.drewN n)
    rw[Aa gD] at bM
    have rR:Hid (bI=false->∃c:Sv.Cond,VCsAt w.heap.size (.slice eQ (acc.length+1) bD) (acc++[⟨false,c.kind,c.terms⟩]) wC/\Al s.data.toList p=.inr (c,j8)):=by
     intro aV;obtain⟨c,h1,h2,h3⟩:=Aa lQ aV;refine⟨c,⟨_,by rw[AK];exact gG,?_⟩,h1⟩;have h4:=VCsCells.snoc (⟨false,c.kind,c.terms⟩:Sv.Cond) (.slice eC n8 au) h3 acc xs cZ;have h5:((c.kind:Nat):Int)=kd:=h2;show VCsCells w.heap.size wC _ (xs++[.bool false,.int .i64 kd,.slice eC n8 au])
     rw[<-h5];exact h4
    clear cZ gG lQ;have c1:=cI.c1;have f1:=cI.fz 1;have c2:=cI.c2;have f2:=cI.fz 2;cases fF:ch==59
    ·have NU:=(Tu ch).trans fF
     have rV:Hid (bI=false->∃c:Sv.Cond,VCsAt w.heap.size (.slice eQ (acc.length+1) bD) (acc++[⟨false,c.kind,c.terms⟩]) wC/\(match Dr (m-1) s.data.toList (acc++[⟨false,c.kind,c.terms⟩]) pp with
       | .inl m=>.inl m
       | .inr (cs,m)=>.inr (⟨Ct s.data.toList i (Ao 8 s.data.toList i),cs⟩,m))=r):=by
      intro aV;obtain⟨c,h1,h2⟩:=Aa rR aV;refine⟨c,h1,?_⟩;have h3:=Aa HX;unfold Dr at h3;rw[Aa oU,AO (by simp),h2] at h3;have h4:=Aa fX;rw[aV,AO (by simp)] at h4;have h5:=Aa gD;rw[aV,AO (by simp)] at h5;have h6:=Aa vR aV;obtain⟨m2,rfl⟩:∃m2,m=m2+1:=⟨m-1,by omega⟩
      rw[<-h4,JM,<-Ii m2 _ _ _ (by simp) (by rw[h4,h5];exact fF)];exact h3
     cases eP:ch==33
     ·have rU:((ch.toNat:Int) !=33)=true:=M1 ch 33 eP
      cases lS:ch==40
      ·have NV:((ch.toNat:Int) !=40)=true:=M1 ch 40 lS
       have xo:Hid (r=.inl pp):=by
        cases aV:bI
        ·obtain⟨c,_,h2⟩:=Aa rV aV
         have h4:=Aa fX;rw[aV,AO (by simp)] at h4;have h5:=Aa gD;rw[aV,AO (by simp)] at h5;rw[It _ _ _ _ (by rw[<-h4];exact Db _ _) (by rw[h5];exact eP) (by rw[h5];exact lS)] at h2;exact h2.symm
        ·have h3:=Aa HX
         unfold Dr at h3;rw[Aa oU,AO (by simp),Aa NF aV] at h3;have h4:=Aa fX;rw[aV,AQ rfl] at h4;rw[<-h4];exact h3.symm
       go_wp2_with (go_at_call 148;refine(by first|exact bM _|exact bM 0:Calls _ _ _ _ _).mono ?_;rintro e w9⟨rfl,n9,rfl⟩)
       go_roundw
       case rel=>exact⟨pp,nm,_,true,(cI.drewN _).set2 true,dJ,(oJ.drewN _).kept (Aj _ b 2 _) (by simp;omega),(fU.drewN _).kept (Aj _ b 2 _) (by simp;omega),Ab (Ab fR (Ad wC _ _)) (Aj _ b 2 _),.inl ⟨rfl,Aa xo,_,_,_,rfl⟩⟩
       case measure=>
        refine CQ (CZ (((cI.drewN _).set2 true).ms s.size)) ?_;rw[Aa HM];simp
      ·have NV:((ch.toNat:Int) !=40)=false:=O6 ch 40 lS
       have aV:bI=false:=by
        cases aV:bI
        ·rfl
        ·have h5:=Aa gD
         rw[aV,AQ rfl] at h5;rw[<-h5] at lS;exact absurd lS (by decide)
       subst aV;have im:=Ac (Aa rV rfl);have eR:=Ac (Aa vS rfl)
       go_wp2_with (go_at_call 148;refine(by first|exact bM _|exact bM 0:Calls _ _ _ _ _).mono ?_;rintro e w9⟨rfl,n9,rfl⟩)
       go_roundw
       case rel=>
        obtain⟨c,h1,h2⟩:=Aa im;have h4:=Aa fX;rw[AO (by simp)] at h4;have h6:=Aa eR;exact⟨pp,nm,_,false,cI.drewN _,dJ,oJ.drewN _,fU.drewN _,Ab fR (Ad wC _ _),.inr ⟨rfl,m-1,_,by omega,by simp;omega,by rw[<-h4];exact Db _ _,h1.row (Ad wC _ none) (RowOk.none 0 0 _) (by decide) (by decide),Aa oT,h2⟩⟩
       case measure=>
        refine CQ (CZ ((cI.drewN _).ms s.size)) ?_;have h6:=Aa eR;rw[Aa HM];simp;omega
     ·have rU:((ch.toNat:Int) !=33)=false:=O6 ch 33 eP
      have aV:bI=false:=by
       cases aV:bI
       ·rfl
       ·have h5:=Aa gD
        rw[aV,AQ rfl] at h5;rw[<-h5] at eP;exact absurd eP (by decide)
      subst aV;have im:=Ac (Aa rV rfl);have eR:=Ac (Aa vS rfl)
      go_wp2_with (go_at_call 148;refine(by first|exact bM _|exact bM 0:Calls _ _ _ _ _).mono ?_;rintro e w9⟨rfl,n9,rfl⟩)
      go_roundw
      case rel=>
       obtain⟨c,h1,h2⟩:=Aa im;have h4:=Aa fX;rw[AO (by simp)] at h4;have h6:=Aa eR;exact⟨pp,nm,_,false,cI.drewN _,dJ,oJ.drewN _,fU.drewN _,Ab fR (Ad wC _ _),.inr ⟨rfl,m-1,_,by omega,by simp;omega,by rw[<-h4];exact Db _ _,h1.row (Ad wC _ none) (RowOk.none 0 0 _) (by decide) (by decide),Aa oT,h2⟩⟩
      case measure=>
       refine CQ (CZ ((cI.drewN _).ms s.size)) ?_;have h6:=Aa eR;rw[Aa HM];simp;omega
    ·have NU:=(Tu ch).trans fF
     have aV:bI=false:=by
      cases aV:bI
      ·rfl
      ·have h5:=Aa gD
       rw[aV,AQ rfl] at h5;rw[<-h5] at fF;exact absurd fF (by decide)
     subst aV;have h5:=Aa gD;rw[AO (by simp)] at h5;have h4:=Aa fX;rw[AO (by simp)] at h4;have qG:=Ap s.data.toList pp 59 (by decide) (by rw[h5];exact fF);rw[Ae] at qG;obtain⟨c,hc1,hc2⟩:=Aa rR rfl
     have hr:r=.inr (⟨Ct s.data.toList i (Ao 8 s.data.toList i),acc++[⟨false,c.kind,c.terms⟩]⟩,pp+1):=by
      have h3:=Aa HX;unfold Dr at h3;rw[Aa oU,AO (by simp),hc2] at h3;have h6:=Aa vR rfl;obtain⟨m2,rfl⟩:∃m2,m=m2+1:=⟨m-1,by omega⟩
      simp only at h3;rw[Cr,h4,h5,fF,AQ rfl] at h3;exact h3.symm
     subst hr;have ri:=Aa oT;subst ri;clear h4 h5 rR hc2 HX oT;have kk:=fun n=>Aj (wC.drewN n) b 1 (.int .i64 ((pp:Int)+1))
     have hb2:=fun n=>(cI.drewN n).set1 (pp+1)
     have rE:=fun n=>(oJ.drewN n).kept (kk n) (by simp;omega)
     have bo:=fun n=>(fU.drewN n).kept (kk n) (by simp;omega)
     have e0:=fun n=>(rE n).c.1
     have e1:=fun n=>(rE n).c.2
     have g0:=fun n=>(bo n).c.1
     have g1:=fun n=>(bo n).c.2
     have y0:=fun n=>(bo n).fz 0
     have y1:=fun n=>(bo n).fz 1
     generalize hcut:Ct s.data.toList i (Ao 8 s.data.toList i)=pX at *
     go_wp2_with (go_at_call 148;refine(by first|exact bM _|exact bM 0:Calls _ _ _ _ _).mono ?_;rintro e w9⟨rfl,n9,rfl⟩)
     have k3:=fun n=>Du ((wC.drewN n).setCell ⟨b,1,none⟩ (.int .i64 ((pp:Int)+1))) w.heap.size (.string ⟨pX.toArray⟩) (.slice eQ (acc.length+1) bD)
     have NT:=fun n=>((bo n).set2 (.string ⟨pX.toArray⟩) (.slice eQ (acc.length+1) bD)).c
     exact BN (v:=.agg #[.string ⟨pX.toArray⟩,.slice eQ (acc.length+1) bD]) (by simp[results,Tryz.results118,go_sem,NT]) rfl ⟨_,by subst hcut;rfl,((hc1.row (Ad wC _ none) (RowOk.none 0 0 _) (by decide) (by decide)).row (kk _) (cI.drewN _).rowOk (by decide) (by decide)).row (k3 _) (RowOk.one2 (bo _) (AW _)) (by decide) (by decide),(hb2 _).kept (k3 _) (by simp;omega),A8 (Ab (Ab fR (Ad wC _ _)) (kk _)) (k3 _) (AW _)⟩
   ·cases hl0:decide (0<acc.length)
    ·have oU:Hid ((Ai s.data.toList p==33&&decide (0<acc.length))=false):=by show (_&&_)=false;rw[pH,EH,hl0]
     have PJ:Hid (Al s.data.toList p=Al s.data.toList p):=rfl;have e33:=(Q1d (Ai s.data.toList p)).trans pH;have pZ:p<=s.size:=hp;have hlen:acc.length=0:=by simpa using hl0
     rw[hlen] at d1;have HLEN:=Ac hlen;clear hlen hl0
     go_wp2_with (go_at_call 148;refine(A9 b s p _ hp hs aD).mono ?_;rintro e w7⟨rfl,n7,rfl⟩)
     have kG:=aD.drewN n7;have um:=hU.drewN n7;have uy:=kJ.drewN n7;have qd:=Ab hg (Ad wr n7 _);have lH:=hcs.row (Ad wr n7 none) (RowOk.none 0 0 _) (by decide) (by decide);clear aD hU kJ hg hcs c1 c2 f1 d0 d1;refine(Kr b s p false _ hp hs hsk kG).mono ?_;rintro e w8⟨kd,eC,n8,au,j8,bI,rfl,oG,fL,oQ⟩;have qu:=lH.row fL kG.rowOk (by decide) (by decide);have oK:=um.row fL kG.rowOk (by decide);have vA:=uy.row fL kG.rowOk (by decide);have iV:=Ab qd fL;obtain⟨xs,eK,cm⟩:=qu;have zI:=iV.size;have py:=qd.size;clear lH um uy qd kG fL;have a7:=AA w8 (.cells #[.bool false,.int .i64 kd,.slice eC n8 au] 166) none;have aO:=Ab a7 (AA (w8.alloc (.cells #[.bool false,.int .i64 kd,.slice eC n8 au] 166)) (.cells #[.bool false,.int .i64 kd,.slice eC n8 au] 166) none);have hrow:=RowOk.of ((eK.alloc (.cells #[.bool false,.int .i64 kd,.slice eC n8 au] 166)).alloc (.cells #[.bool false,.int .i64 kd,.slice eC n8 au] 166));have cj:=VCsCells.row aO (RowOk.none 0 0 w8) (by decide) acc xs cm;have ur:=oK.kept aO (by simp);have uz:=vA.kept aO (by simp);have uh:=oG.kept aO (by simp);have lC:=Ab iV (A3 aO (some b));obtain⟨d0,d1⟩:=oK.c;have NW:=(oK.kept a7 (by simp)).c.2
     go_wp2_with (at_builtin;refine CW _ rfl _ _ 161 rfl w.heap.size 166 i0 (.agg #[.bool false,.int .i64 0,.slice none 0 0]) 3 40 Tryz.underlying161 aq hz0 hz1 hz2 rfl (by decide) _ acc.length xs rfl ((eK.alloc _).alloc _) ⟨w8.heap.size+1,0,none⟩ 1 1 [.bool false,.int .i64 kd,.slice eC n8 au] rfl rfl ?c1 ?c2 ?c3 ?c4 ?c5 ?_)
     case c1=>
      intro jj u hu
      match jj,hu with
      | 0,hu=>simp at hu;subst hu;simp[Addr.add]
      | 1,hu=>simp at hu;subst hu;simp[Addr.add]
      | 2,hu=>simp at hu;subst hu;simp[Addr.add]
      | n+3,hu=>simp at hu
     case c2=>
      intro u hu;simp at hu;rcases hu with rfl|rfl|rfl<;>rfl
     case c3=>unfold maxLen;omega
     case c4=>omega
     case c5=>simp;omega
     intro v' wA hown hgrow _;have iY:=ur.row hgrow hrow (by decide);have ie:=uz.row hgrow hrow (by decide);have bu:=uh.row hgrow hrow (by decide);have lB:=Ez lC hgrow hrow;have cg:=VCsCells.row hgrow hrow (by decide) acc xs cj
     obtain⟨eQ,bD,rfl⟩:∃ao cap,v'=.slice ao (acc.length+1) cap:=by
      rcases hown.2 with ⟨h1,h2⟩|⟨g,cap,cur,h1,_⟩
      ·omega
      ·exact⟨_,_,h1⟩
     have vI:Hid (bI=false->∃c:Sv.Cond,Al s.data.toList p=.inr (c,j8)/\(c.kind:Int)=kd/\VTsAt w.heap.size (.slice eC n8 au) c.terms wA):=by
      intro aV;rcases Aa oQ with ⟨h1,_⟩|⟨_,c,h1,h2,h3⟩
      ·rw[aV] at h1;cases h1
      ·exact⟨c,h1,h2,Cm ((VTsAt.row h3 aO (RowOk.none 0 0 w8) (by decide)).row hgrow hrow (by decide)) py⟩
     have NF:Hid (bI=true->Al s.data.toList p=.inl j8):=by
      intro aV;rcases Aa oQ with ⟨_,h1⟩|⟨h1,_⟩
      ·exact h1
      ·rw[aV] at h1;cases h1
     have l8:j8<=s.size/\(bI=false->p<j8):=by
      have aK:=C8 s.data.toList p (by rw[Ae];exact pZ);rcases Aa oQ with ⟨h1,h2⟩|⟨h1,c,h2,_⟩
      ·rw[h2] at aK;have h3:j8<=s.data.toList.length:=aK;rw[Ae] at h3;exact⟨h3,fun h=>by rw[h1] at h;cases h⟩
      ·rw[h2] at aK;obtain⟨h3,h4⟩:p<j8/\j8<=s.data.toList.length:=aK;rw[Ae] at h4;exact⟨h4,fun _=>by omega⟩
     obtain⟨l8,iR⟩:=l8;clear oK vA oG iV eK cm aO hrow cj ur uz uh lC d0 d1 NW hgrow oQ a7;have kU:=Aj wA U 1 (.slice eQ (acc.length+1) bD);have uq:=iY.put1 (.slice eQ (acc.length+1) bD);have gQ:=ie.kept kU (by simp;omega);have ei:=bu.kept kU (by simp;omega);have lA:=A8 lB kU (EE rF);have cf:=VCsCells.row kU (RowOk.one2 iY (AG _)) (by decide) acc xs cg;have gH:=Dy hown kU (RowOk.one2 iY (AG _)) (by decide)
     have lR:Hid (bI=false->∃c:Sv.Cond,Al s.data.toList p=.inr (c,j8)/\(c.kind:Int)=kd/\VTsAt w.heap.size (.slice eC n8 au) c.terms (wA.setCell ⟨U,1,none⟩ (.slice eQ (acc.length+1) bD))):=by
      intro aV;obtain⟨c,h1,h2,h3⟩:=Aa vI aV;exact⟨c,h1,h2,h3.row kU (RowOk.one2 iY (AG _)) (by decide)⟩
     have a1:=iY.c.2;have az:=iY.fz 1;clear ie bu lB cg hown kU vI;go_wp2_with fail;refine(D0 b s j8 bI _ l8 hs ei).mono ?_;rintro e wC⟨rfl,cI,bF⟩;have oJ:=uq.row bF ei.rowOk (by decide);have fU:=gQ.row bF ei.rowOk (by decide);have fR:=Ab lA bF;have cZ:=VCsCells.row bF ei.rowOk (by decide) acc xs cf;have gG:=Dy gH bF ei.rowOk (by decide)
     have lQ:Hid (bI=false->∃c:Sv.Cond,Al s.data.toList p=.inr (c,j8)/\(c.kind:Int)=kd/\VTsAt w.heap.size (.slice eC n8 au) c.terms wC):=by
      intro aV;obtain⟨c,h1,h2,h3⟩:=Aa lR aV;exact⟨c,h1,h2,h3.row bF ei.rowOk (by decide)⟩
     clear iY uq gQ ei lA cf gH bF lR a1 az;obtain⟨pp,kh⟩:∃pp,(if bI=true then j8 else Ag s.data.toList j8)=pp:=⟨_,rfl⟩
     rw[kh] at cI
     have dJ:pp<=s.size/\(bI=false->p<pp):=by
      have h1:=A7 s.data.toList j8 (by rw[Ae];exact l8);rw[Ae] at h1;rw[<-kh];cases bI
      ·rw[AO (by simp)];exact⟨h1.2,fun _=>by have:=iR rfl;omega⟩
      ·rw[AQ rfl];exact⟨l8,fun h=>by cases h⟩
     obtain⟨dJ,kg⟩:=dJ;obtain⟨ch,hch⟩:∃ch,(if bI=true then (0:UInt8) else Ai s.data.toList pp)=ch:=⟨_,rfl⟩
     have fX:=Ac kh;have gD:=Ac hch;clear kh hch;have vS:=Ac kg;have vR:=Ac iR;clear kg iR;have bM:=fun n=>J8 b s pp bI (wC.drewN n) dJ hs (cI.drewN n)
     rw[Aa gD] at bM
     have rR:Hid (bI=false->∃c:Sv.Cond,VCsAt w.heap.size (.slice eQ (acc.length+1) bD) (acc++[⟨false,c.kind,c.terms⟩]) wC/\Al s.data.toList p=.inr (c,j8)):=by
      intro aV;obtain⟨c,h1,h2,h3⟩:=Aa lQ aV;refine⟨c,⟨_,by rw[AK];exact gG,?_⟩,h1⟩;have h4:=VCsCells.snoc (⟨false,c.kind,c.terms⟩:Sv.Cond) (.slice eC n8 au) h3 acc xs cZ;have h5:((c.kind:Nat):Int)=kd:=h2;show VCsCells w.heap.size wC _ (xs++[.bool false,.int .i64 kd,.slice eC n8 au])
      rw[<-h5];exact h4
     clear cZ gG lQ;have c1:=cI.c1;have f1:=cI.fz 1;have c2:=cI.c2;have f2:=cI.fz 2;cases fF:ch==59
     ·have NU:=(Tu ch).trans fF
      have rV:Hid (bI=false->∃c:Sv.Cond,VCsAt w.heap.size (.slice eQ (acc.length+1) bD) (acc++[⟨false,c.kind,c.terms⟩]) wC/\(match Dr (m-1) s.data.toList (acc++[⟨false,c.kind,c.terms⟩]) pp with
        | .inl m=>.inl m
        | .inr (cs,m)=>.inr (⟨Ct s.data.toList i (Ao 8 s.data.toList i),cs⟩,m))=r):=by
       intro aV;obtain⟨c,h1,h2⟩:=Aa rR aV;refine⟨c,h1,?_⟩;have h3:=Aa HX;unfold Dr at h3;rw[Aa oU,AO (by simp),h2] at h3;have h4:=Aa fX;rw[aV,AO (by simp)] at h4;have h5:=Aa gD;rw[aV,AO (by simp)] at h5;have h6:=Aa vR aV;obtain⟨m2,rfl⟩:∃m2,m=m2+1:=⟨m-1,by omega⟩
       rw[<-h4,JM,<-Ii m2 _ _ _ (by simp) (by rw[h4,h5];exact fF)];exact h3
      cases eP:ch==33
      ·have rU:((ch.toNat:Int) !=33)=true:=M1 ch 33 eP
       cases lS:ch==40
       ·have NV:((ch.toNat:Int) !=40)=true:=M1 ch 40 lS
        have xo:Hid (r=.inl pp):=by
         cases aV:bI
         ·obtain⟨c,_,h2⟩:=Aa rV aV
          have h4:=Aa fX;rw[aV,AO (by simp)] at h4;have h5:=Aa gD;rw[aV,AO (by simp)] at h5;rw[It _ _ _ _ (by rw[<-h4];exact Db _ _) (by rw[h5];exact eP) (by rw[h5];exact lS)] at h2;exact h2.symm
         ·have h3:=Aa HX
          unfold Dr at h3;rw[Aa oU,AO (by simp),Aa NF aV] at h3;have h4:=Aa fX;rw[aV,AQ rfl] at h4;rw[<-h4];exact h3.symm
        go_wp2_with (go_at_call 148;refine(by first|exact bM _|exact bM 0:Calls _ _ _ _ _).mono ?_;rintro e w9⟨rfl,n9,rfl⟩)
        go_roundw
        case rel=>exact⟨pp,nm,_,true,(cI.drewN _).set2 true,dJ,(oJ.drewN _).kept (Aj _ b 2 _) (by simp;omega),(fU.drewN _).kept (Aj _ b 2 _) (by simp;omega),Ab (Ab fR (Ad wC _ _)) (Aj _ b 2 _),.inl ⟨rfl,Aa xo,_,_,_,rfl⟩⟩
        case measure=>
         refine CQ (CZ (((cI.drewN _).set2 true).ms s.size)) ?_;rw[Aa HM];simp
       ·have NV:((ch.toNat:Int) !=40)=false:=O6 ch 40 lS
        have aV:bI=false:=by
         cases aV:bI
         ·rfl
         ·have h5:=Aa gD
          rw[aV,AQ rfl] at h5;rw[<-h5] at lS;exact absurd lS (by decide)
        subst aV;have im:=Ac (Aa rV rfl);have eR:=Ac (Aa vS rfl)
        go_wp2_with (go_at_call 148;refine(by first|exact bM _|exact bM 0:Calls _ _ _ _ _).mono ?_;rintro e w9⟨rfl,n9,rfl⟩)
        go_roundw
        case rel=>
         obtain⟨c,h1,h2⟩:=Aa im;have h4:=Aa fX;rw[AO (by simp)] at h4;have h6:=Aa eR;exact⟨pp,nm,_,false,cI.drewN _,dJ,oJ.drewN _,fU.drewN _,Ab fR (Ad wC _ _),.inr ⟨rfl,m-1,_,by omega,by simp;omega,by rw[<-h4];exact Db _ _,h1.row (Ad wC _ none) (RowOk.none 0 0 _) (by decide) (by decide),Aa oT,h2⟩⟩
        case measure=>
         refine CQ (CZ ((cI.drewN _).ms s.size)) ?_;have h6:=Aa eR;rw[Aa HM];simp;omega
      ·have rU:((ch.toNat:Int) !=33)=false:=O6 ch 33 eP
       have aV:bI=false:=by
        cases aV:bI
        ·rfl
        ·have h5:=Aa gD
         rw[aV,AQ rfl] at h5;rw[<-h5] at eP;exact absurd eP (by decide)
       subst aV;have im:=Ac (Aa rV rfl);have eR:=Ac (Aa vS rfl)
       go_wp2_with (go_at_call 148;refine(by first|exact bM _|exact bM 0:Calls _ _ _ _ _).mono ?_;rintro e w9⟨rfl,n9,rfl⟩)
       go_roundw
       case rel=>
        obtain⟨c,h1,h2⟩:=Aa im;have h4:=Aa fX;rw[AO (by simp)] at h4;have h6:=Aa eR;exact⟨pp,nm,_,false,cI.drewN _,dJ,oJ.drewN _,fU.drewN _,Ab fR (Ad wC _ _),.inr ⟨rfl,m-1,_,by omega,by simp;omega,by rw[<-h4];exact Db _ _,h1.row (Ad wC _ none) (RowOk.none 0 0 _) (by decide) (by decide),Aa oT,h2⟩⟩
       case measure=>
        refine CQ (CZ ((cI.drewN _).ms s.size)) ?_;have h6:=Aa eR;rw[Aa HM];simp;omega
     ·have NU:=(Tu ch).trans fF
      have aV:bI=false:=by
       cases aV:bI
       ·rfl
       ·have h5:=Aa gD
        rw[aV,AQ rfl] at h5;rw[<-h5] at fF;exact absurd fF (by decide)
      subst aV;have h5:=Aa gD;rw[AO (by simp)] at h5;have h4:=Aa fX;rw[AO (by simp)] at h4;have qG:=Ap s.data.toList pp 59 (by decide) (by rw[h5];exact fF);rw[Ae] at qG;obtain⟨c,hc1,hc2⟩:=Aa rR rfl
      have hr:r=.inr (⟨Ct s.data.toList i (Ao 8 s.data.toList i),acc++[⟨false,c.kind,c.terms⟩]⟩,pp+1):=by
       have h3:=Aa HX;unfold Dr at h3;rw[Aa oU,AO (by simp),hc2] at h3;have h6:=Aa vR rfl;obtain⟨m2,rfl⟩:∃m2,m=m2+1:=⟨m-1,by omega⟩
       simp only at h3;rw[Cr,h4,h5,fF,AQ rfl] at h3;exact h3.symm
      subst hr;have ri:=Aa oT;subst ri;clear h4 h5 rR hc2 HX oT;have kk:=fun n=>Aj (wC.drewN n) b 1 (.int .i64 ((pp:Int)+1))
      have hb2:=fun n=>(cI.drewN n).set1 (pp+1)
      have rE:=fun n=>(oJ.drewN n).kept (kk n) (by simp;omega)
      have bo:=fun n=>(fU.drewN n).kept (kk n) (by simp;omega)
      have e0:=fun n=>(rE n).c.1
      have e1:=fun n=>(rE n).c.2
      have g0:=fun n=>(bo n).c.1
      have g1:=fun n=>(bo n).c.2
      have y0:=fun n=>(bo n).fz 0
      have y1:=fun n=>(bo n).fz 1
      generalize hcut:Ct s.data.toList i (Ao 8 s.data.toList i)=pX at *
      go_wp2_with (go_at_call 148;refine(by first|exact bM _|exact bM 0:Calls _ _ _ _ _).mono ?_;rintro e w9⟨rfl,n9,rfl⟩)
      have k3:=fun n=>Du ((wC.drewN n).setCell ⟨b,1,none⟩ (.int .i64 ((pp:Int)+1))) w.heap.size (.string ⟨pX.toArray⟩) (.slice eQ (acc.length+1) bD)
      have NT:=fun n=>((bo n).set2 (.string ⟨pX.toArray⟩) (.slice eQ (acc.length+1) bD)).c
      exact BN (v:=.agg #[.string ⟨pX.toArray⟩,.slice eQ (acc.length+1) bD]) (by simp[results,Tryz.results118,go_sem,NT]) rfl ⟨_,by subst hcut;rfl,((hc1.row (Ad wC _ none) (RowOk.none 0 0 _) (by decide) (by decide)).row (kk _) (cI.drewN _).rowOk (by decide) (by decide)).row (k3 _) (RowOk.one2 (bo _) (AW _)) (by decide) (by decide),(hb2 _).kept (k3 _) (by simp;omega),A8 (Ab (Ab fR (Ad wC _ _)) (kk _)) (k3 _) (AW _)⟩
    ·have oU:Hid ((Ai s.data.toList p==33&&decide (0<acc.length))=true):=by show (_&&_)=true;rw[pH,hl0];rfl
     have e33:=(Q1d (Ai s.data.toList p)).trans pH;have hl2:0<acc.length:=by simpa using hl0
     obtain⟨L,hlen⟩:∃L,acc.length=L+1:=⟨acc.length-1,by omega⟩
     clear hl2;rw[hlen] at d1;have HLEN:=Ac hlen;clear hlen hl0;have eZ:=Ap _ _ 33 (by decide) pH;rw[Ae] at eZ;obtain⟨x,hx⟩:∃x,Ag s.data.toList (p+1)=x:=⟨_,rfl⟩
     have iF:=A7 s.data.toList (p+1) (by rw[Ae];exact eZ);rw[Ae,hx] at iF;obtain⟨hpx,pZ⟩:=iF;have PJ:Hid (Al s.data.toList (p+1)=Al s.data.toList x):=by show Al _ (p+1)=_;rw[<-hx,Mj]
     have TD:Ag s.data.toList x=x:=by rw[<-hx];exact Db _ _
     have HXE:=Ac hx;clear hx
     go_wp2_with (go_at_call 148;refine(A9 b s p _ hp hs aD).mono ?_;rintro e w7⟨rfl,n7,rfl⟩)
     have kk:=Aj (wr.drewN n7) b 1 (.int .i64 ((p:Int)+1));have MM:VAt b s (p+1) false ((wr.drewN n7).setCell ⟨b,1,none⟩ (.int .i64 ((p:Int)+1))):=(aD.drewN n7).set1 (p+1);have hUV:=(hU.drewN n7).kept kk (by simp;omega);have hRV:=(kJ.drewN n7).kept kk (by simp;omega);have hgV:=Ab (Ab hg (Ad wr n7 _)) kk;have LY:=(hcs.row (Ad wr n7 none) (RowOk.none 0 0 _) (by decide) (by decide)).row kk (aD.drewN n7).rowOk (by decide) (by decide);refine(Fj b s (p+1) _ eZ hs MM).mono ?_;rintro e wW⟨rfl,kG,ai⟩;rw[Aa HXE] at kG;have um:=hUV.row ai MM.rowOk (by decide);have uy:=hRV.row ai MM.rowOk (by decide);have qd:=Ab hgV ai;have lH:=LY.row ai MM.rowOk (by decide) (by decide);clear aD hU kJ hg hcs c1 c2 f1 d0 d1 MM hUV hRV hgV LY ai kk;go_wp2_with fail;refine(Kr b s x true _ pZ hs TD kG).mono ?_;rintro e w8⟨kd,eC,n8,au,j8,bI,rfl,oG,fL,oQ⟩;have qu:=lH.row fL kG.rowOk (by decide) (by decide);have oK:=um.row fL kG.rowOk (by decide);have vA:=uy.row fL kG.rowOk (by decide);have iV:=Ab qd fL;obtain⟨xs,eK,cm⟩:=qu;have zI:=iV.size;have py:=qd.size;clear lH um uy qd kG fL;have a7:=AA w8 (.cells #[.bool true,.int .i64 kd,.slice eC n8 au] 166) none;have aO:=Ab a7 (AA (w8.alloc (.cells #[.bool true,.int .i64 kd,.slice eC n8 au] 166)) (.cells #[.bool true,.int .i64 kd,.slice eC n8 au] 166) none);have hrow:=RowOk.of ((eK.alloc (.cells #[.bool true,.int .i64 kd,.slice eC n8 au] 166)).alloc (.cells #[.bool true,.int .i64 kd,.slice eC n8 au] 166));have cj:=VCsCells.row aO (RowOk.none 0 0 w8) (by decide) acc xs cm;have ur:=oK.kept aO (by simp);have uz:=vA.kept aO (by simp);have uh:=oG.kept aO (by simp);have lC:=Ab iV (A3 aO (some b));obtain⟨d0,d1⟩:=oK.c;have NW:=(oK.kept a7 (by simp)).c.2
     go_wp2_with (at_builtin;refine CW _ rfl _ _ 161 rfl w.heap.size 166 i0 (.agg #[.bool false,.int .i64 0,.slice none 0 0]) 3 40 Tryz.underlying161 aq hz0 hz1 hz2 rfl (by decide) _ acc.length xs rfl ((eK.alloc _).alloc _) ⟨w8.heap.size+1,0,none⟩ 1 1 [.bool true,.int .i64 kd,.slice eC n8 au] rfl rfl ?c1 ?c2 ?c3 ?c4 ?c5 ?_)
     case c1=>
      intro jj u hu
      match jj,hu with
      | 0,hu=>simp at hu;subst hu;simp[Addr.add]
      | 1,hu=>simp at hu;subst hu;simp[Addr.add]
      | 2,hu=>simp at hu;subst hu;simp[Addr.add]
      | n+3,hu=>simp at hu
     case c2=>
      intro u hu;simp at hu;rcases hu with rfl|rfl|rfl<;>rfl
     case c3=>unfold maxLen;omega
     case c4=>omega
     case c5=>simp;omega
     intro v' wA hown hgrow _;have iY:=ur.row hgrow hrow (by decide);have ie:=uz.row hgrow hrow (by decide);have bu:=uh.row hgrow hrow (by decide);have lB:=Ez lC hgrow hrow;have cg:=VCsCells.row hgrow hrow (by decide) acc xs cj
     obtain⟨eQ,bD,rfl⟩:∃ao cap,v'=.slice ao (acc.length+1) cap:=by
      rcases hown.2 with ⟨h1,h2⟩|⟨g,cap,cur,h1,_⟩
      ·omega
      ·exact⟨_,_,h1⟩
     have vI:Hid (bI=false->∃c:Sv.Cond,Al s.data.toList x=.inr (c,j8)/\(c.kind:Int)=kd/\VTsAt w.heap.size (.slice eC n8 au) c.terms wA):=by
      intro aV;rcases Aa oQ with ⟨h1,_⟩|⟨_,c,h1,h2,h3⟩
      ·rw[aV] at h1;cases h1
      ·exact⟨c,h1,h2,Cm ((VTsAt.row h3 aO (RowOk.none 0 0 w8) (by decide)).row hgrow hrow (by decide)) py⟩
     have NF:Hid (bI=true->Al s.data.toList x=.inl j8):=by
      intro aV;rcases Aa oQ with ⟨_,h1⟩|⟨h1,_⟩
      ·exact h1
      ·rw[aV] at h1;cases h1
     have l8:j8<=s.size/\(bI=false->p<j8):=by
      have aK:=C8 s.data.toList x (by rw[Ae];exact pZ);rcases Aa oQ with ⟨h1,h2⟩|⟨h1,c,h2,_⟩
      ·rw[h2] at aK;have h3:j8<=s.data.toList.length:=aK;rw[Ae] at h3;exact⟨h3,fun h=>by rw[h1] at h;cases h⟩
      ·rw[h2] at aK;obtain⟨h3,h4⟩:x<j8/\j8<=s.data.toList.length:=aK;rw[Ae] at h4;exact⟨h4,fun _=>by omega⟩
     obtain⟨l8,iR⟩:=l8;clear oK vA oG iV eK cm aO hrow cj ur uz uh lC d0 d1 NW hgrow oQ a7;have kU:=Aj wA U 1 (.slice eQ (acc.length+1) bD);have uq:=iY.put1 (.slice eQ (acc.length+1) bD);have gQ:=ie.kept kU (by simp;omega);have ei:=bu.kept kU (by simp;omega);have lA:=A8 lB kU (EE rF);have cf:=VCsCells.row kU (RowOk.one2 iY (AG _)) (by decide) acc xs cg;have gH:=Dy hown kU (RowOk.one2 iY (AG _)) (by decide)
     have lR:Hid (bI=false->∃c:Sv.Cond,Al s.data.toList x=.inr (c,j8)/\(c.kind:Int)=kd/\VTsAt w.heap.size (.slice eC n8 au) c.terms (wA.setCell ⟨U,1,none⟩ (.slice eQ (acc.length+1) bD))):=by
      intro aV;obtain⟨c,h1,h2,h3⟩:=Aa vI aV;exact⟨c,h1,h2,h3.row kU (RowOk.one2 iY (AG _)) (by decide)⟩
     have a1:=iY.c.2;have az:=iY.fz 1;clear ie bu lB cg hown kU vI;go_wp2_with fail;refine(D0 b s j8 bI _ l8 hs ei).mono ?_;rintro e wC⟨rfl,cI,bF⟩;have oJ:=uq.row bF ei.rowOk (by decide);have fU:=gQ.row bF ei.rowOk (by decide);have fR:=Ab lA bF;have cZ:=VCsCells.row bF ei.rowOk (by decide) acc xs cf;have gG:=Dy gH bF ei.rowOk (by decide)
     have lQ:Hid (bI=false->∃c:Sv.Cond,Al s.data.toList x=.inr (c,j8)/\(c.kind:Int)=kd/\VTsAt w.heap.size (.slice eC n8 au) c.terms wC):=by
      intro aV;obtain⟨c,h1,h2,h3⟩:=Aa lR aV;exact⟨c,h1,h2,h3.row bF ei.rowOk (by decide)⟩
     clear iY uq gQ ei lA cf gH bF lR a1 az;obtain⟨pp,kh⟩:∃pp,(if bI=true then j8 else Ag s.data.toList j8)=pp:=⟨_,rfl⟩
     rw[kh] at cI
     have dJ:pp<=s.size/\(bI=false->p<pp):=by
      have h1:=A7 s.data.toList j8 (by rw[Ae];exact l8);rw[Ae] at h1;rw[<-kh];cases bI
      ·rw[AO (by simp)];exact⟨h1.2,fun _=>by have:=iR rfl;omega⟩
      ·rw[AQ rfl];exact⟨l8,fun h=>by cases h⟩
     obtain⟨dJ,kg⟩:=dJ;obtain⟨ch,hch⟩:∃ch,(if bI=true then (0:UInt8) else Ai s.data.toList pp)=ch:=⟨_,rfl⟩
     have fX:=Ac kh;have gD:=Ac hch;clear kh hch;have vS:=Ac kg;have vR:=Ac iR;clear kg iR;have bM:=fun n=>J8 b s pp bI (wC.drewN n) dJ hs (cI.drewN n)
     rw[Aa gD] at bM
     have rR:Hid (bI=false->∃c:Sv.Cond,VCsAt w.heap.size (.slice eQ (acc.length+1) bD) (acc++[⟨true,c.kind,c.terms⟩]) wC/\Al s.data.toList x=.inr (c,j8)):=by
      intro aV;obtain⟨c,h1,h2,h3⟩:=Aa lQ aV;refine⟨c,⟨_,by rw[AK];exact gG,?_⟩,h1⟩;have h4:=VCsCells.snoc (⟨true,c.kind,c.terms⟩:Sv.Cond) (.slice eC n8 au) h3 acc xs cZ;have h5:((c.kind:Nat):Int)=kd:=h2;show VCsCells w.heap.size wC _ (xs++[.bool true,.int .i64 kd,.slice eC n8 au])
      rw[<-h5];exact h4
     clear cZ gG lQ;have c1:=cI.c1;have f1:=cI.fz 1;have c2:=cI.c2;have f2:=cI.fz 2;cases fF:ch==59
     ·have NU:=(Tu ch).trans fF
      have rV:Hid (bI=false->∃c:Sv.Cond,VCsAt w.heap.size (.slice eQ (acc.length+1) bD) (acc++[⟨true,c.kind,c.terms⟩]) wC/\(match Dr (m-1) s.data.toList (acc++[⟨true,c.kind,c.terms⟩]) pp with
        | .inl m=>.inl m
        | .inr (cs,m)=>.inr (⟨Ct s.data.toList i (Ao 8 s.data.toList i),cs⟩,m))=r):=by
       intro aV;obtain⟨c,h1,h2⟩:=Aa rR aV;refine⟨c,h1,?_⟩;have h3:=Aa HX;unfold Dr at h3;rw[Aa oU,AQ rfl,Aa PJ,h2] at h3;have h4:=Aa fX;rw[aV,AO (by simp)] at h4;have h5:=Aa gD;rw[aV,AO (by simp)] at h5;have h6:=Aa vR aV;obtain⟨m2,rfl⟩:∃m2,m=m2+1:=⟨m-1,by omega⟩
       rw[<-h4,JM,<-Ii m2 _ _ _ (by simp) (by rw[h4,h5];exact fF)];exact h3
      cases eP:ch==33
      ·have rU:((ch.toNat:Int) !=33)=true:=M1 ch 33 eP
       cases lS:ch==40
       ·have NV:((ch.toNat:Int) !=40)=true:=M1 ch 40 lS
        have xo:Hid (r=.inl pp):=by
         cases aV:bI
         ·obtain⟨c,_,h2⟩:=Aa rV aV
          have h4:=Aa fX;rw[aV,AO (by simp)] at h4;have h5:=Aa gD;rw[aV,AO (by simp)] at h5;rw[It _ _ _ _ (by rw[<-h4];exact Db _ _) (by rw[h5];exact eP) (by rw[h5];exact lS)] at h2;exact h2.symm
         ·have h3:=Aa HX
          unfold Dr at h3;rw[Aa oU,AQ rfl,Aa PJ,Aa NF aV] at h3;have h4:=Aa fX;rw[aV,AQ rfl] at h4;rw[<-h4];exact h3.symm
        go_wp2_with (go_at_call 148;refine(by first|exact bM _|exact bM 0:Calls _ _ _ _ _).mono ?_;rintro e w9⟨rfl,n9,rfl⟩)
        go_roundw
        case rel=>exact⟨pp,nm,_,true,(cI.drewN _).set2 true,dJ,(oJ.drewN _).kept (Aj _ b 2 _) (by simp;omega),(fU.drewN _).kept (Aj _ b 2 _) (by simp;omega),Ab (Ab fR (Ad wC _ _)) (Aj _ b 2 _),.inl ⟨rfl,Aa xo,_,_,_,rfl⟩⟩
        case measure=>
         refine CQ (CZ (((cI.drewN _).set2 true).ms s.size)) ?_;rw[Aa HM];simp
       ·have NV:((ch.toNat:Int) !=40)=false:=O6 ch 40 lS
        have aV:bI=false:=by
         cases aV:bI
         ·rfl
         ·have h5:=Aa gD
          rw[aV,AQ rfl] at h5;rw[<-h5] at lS;exact absurd lS (by decide)
        subst aV;have im:=Ac (Aa rV rfl);have eR:=Ac (Aa vS rfl)
        go_wp2_with (go_at_call 148;refine(by first|exact bM _|exact bM 0:Calls _ _ _ _ _).mono ?_;rintro e w9⟨rfl,n9,rfl⟩)
        go_roundw
        case rel=>
         obtain⟨c,h1,h2⟩:=Aa im;have h4:=Aa fX;rw[AO (by simp)] at h4;have h6:=Aa eR;exact⟨pp,nm,_,false,cI.drewN _,dJ,oJ.drewN _,fU.drewN _,Ab fR (Ad wC _ _),.inr ⟨rfl,m-1,_,by omega,by simp;omega,by rw[<-h4];exact Db _ _,h1.row (Ad wC _ none) (RowOk.none 0 0 _) (by decide) (by decide),Aa oT,h2⟩⟩
        case measure=>
         refine CQ (CZ ((cI.drewN _).ms s.size)) ?_;have h6:=Aa eR;rw[Aa HM];simp;omega
      ·have rU:((ch.toNat:Int) !=33)=false:=O6 ch 33 eP
       have aV:bI=false:=by
        cases aV:bI
        ·rfl
        ·have h5:=Aa gD
         rw[aV,AQ rfl] at h5;rw[<-h5] at eP;exact absurd eP (by decide)
       subst aV;have im:=Ac (Aa rV rfl);have eR:=Ac (Aa vS rfl)
       go_wp2_with (go_at_call 148;refine(by first|exact bM _|exact bM 0:Calls _ _ _ _ _).mono ?_;rintro e w9⟨rfl,n9,rfl⟩)
       go_roundw
       case rel=>
        obtain⟨c,h1,h2⟩:=Aa im;have h4:=Aa fX;rw[AO (by simp)] at h4;have h6:=Aa eR;exact⟨pp,nm,_,false,cI.drewN _,dJ,oJ.drewN _,fU.drewN _,Ab fR (Ad wC _ _),.inr ⟨rfl,m-1,_,by omega,by simp;omega,by rw[<-h4];exact Db _ _,h1.row (Ad wC _ none) (RowOk.none 0 0 _) (by decide) (by decide),Aa oT,h2⟩⟩
       case measure=>
        refine CQ (CZ ((cI.drewN _).ms s.size)) ?_;have h6:=Aa eR;rw[Aa HM];simp;omega
     ·have NU:=(Tu ch).trans fF
      have aV:bI=false:=by
       cases aV:bI
       ·rfl
       ·have h5:=Aa gD
        rw[aV,AQ rfl] at h5;rw[<-h5] at fF;exact absurd fF (by decide)
      subst aV;have h5:=Aa gD;rw[AO (by simp)] at h5;have h4:=Aa fX;rw[AO (by simp)] at h4;have qG:=Ap s.data.toList pp 59 (by decide) (by rw[h5];exact fF);rw[Ae] at qG;obtain⟨c,hc1,hc2⟩:=Aa rR rfl
      have hr:r=.inr (⟨Ct s.data.toList i (Ao 8 s.data.toList i),acc++[⟨true,c.kind,c.terms⟩]⟩,pp+1):=by
       have h3:=Aa HX;unfold Dr at h3;rw[Aa oU,AQ rfl,Aa PJ,hc2] at h3;have h6:=Aa vR rfl;obtain⟨m2,rfl⟩:∃m2,m=m2+1:=⟨m-1,by omega⟩
       simp only at h3;rw[Cr,h4,h5,fF,AQ rfl] at h3;exact h3.symm
      subst hr;have ri:=Aa oT;subst ri;clear h4 h5 rR hc2 HX oT;have kk:=fun n=>Aj (wC.drewN n) b 1 (.int .i64 ((pp:Int)+1))
      have hb2:=fun n=>(cI.drewN n).set1 (pp+1)
      have rE:=fun n=>(oJ.drewN n).kept (kk n) (by simp;omega)
      have bo:=fun n=>(fU.drewN n).kept (kk n) (by simp;omega)
      have e0:=fun n=>(rE n).c.1
      have e1:=fun n=>(rE n).c.2
      have g0:=fun n=>(bo n).c.1
      have g1:=fun n=>(bo n).c.2
      have y0:=fun n=>(bo n).fz 0
      have y1:=fun n=>(bo n).fz 1
      generalize hcut:Ct s.data.toList i (Ao 8 s.data.toList i)=pX at *
      go_wp2_with (go_at_call 148;refine(by first|exact bM _|exact bM 0:Calls _ _ _ _ _).mono ?_;rintro e w9⟨rfl,n9,rfl⟩)
      have k3:=fun n=>Du ((wC.drewN n).setCell ⟨b,1,none⟩ (.int .i64 ((pp:Int)+1))) w.heap.size (.string ⟨pX.toArray⟩) (.slice eQ (acc.length+1) bD)
      have NT:=fun n=>((bo n).set2 (.string ⟨pX.toArray⟩) (.slice eQ (acc.length+1) bD)).c
      exact BN (v:=.agg #[.string ⟨pX.toArray⟩,.slice eQ (acc.length+1) bD]) (by simp[results,Tryz.results118,go_sem,NT]) rfl ⟨_,by subst hcut;rfl,((hc1.row (Ad wC _ none) (RowOk.none 0 0 _) (by decide) (by decide)).row (kk _) (cI.drewN _).rowOk (by decide) (by decide)).row (k3 _) (RowOk.one2 (bo _) (AW _)) (by decide) (by decide),(hb2 _).kept (k3 _) (by simp;omega),A8 (Ab (Ab fR (Ad wC _ _)) (kk _)) (k3 _) (AW _)⟩
theorem Uv(b:Nat)(s:ByteArray)(i:Nat)(w:World)(hi:i<=s.size)(hs:s.size<=400)(hb:VAt b s i false w) :
  Calls Tryz.prog 118 #[.pointer (some ⟨b,0,none⟩)] w fun e w'=>∃(nm:ByteArray) (ao:Option Addr) (n cap j:Nat) (bd:Bool),e=.returned (.agg #[.string nm,.slice ao n cap])/\VAt b s j bd w'/\w.grownBy w' (some b)/\j<=s.size/\
   Hid ((bd=true/\A1 s.data.toList i=.inl j)\/(bd=false/\∃(q:Sv.Rule),A1 s.data.toList i=.inr (q,j)/\nm=⟨q.name.toArray⟩/\i<j/\VCsAt w.heap.size (.slice ao n cap) q.conds w')):=by
 refine(Q2s b s i w hi hs hb _ rfl).mono ?_;intro e w' hp;have aK:=Ih s.data.toList i (by rw[Ae];exact hi);cases hr:A1 s.data.toList i with
 | inl k=>
  rw[hr] at hp aK;obtain⟨nm,ao,n,cap,rfl,h1,h2⟩:=hp;have hk:k<=s.data.toList.length:=aK;rw[Ae] at hk;exact⟨nm,ao,n,cap,k,true,rfl,h1,h2,hk,.inl ⟨rfl,rfl⟩⟩
 | inr q=>
  obtain⟨q,j⟩:=q;rw[hr] at hp aK;obtain⟨u,rfl,h1,h2,h3⟩:=hp;obtain⟨gW,b8⟩:i<j/\j<=s.data.toList.length:=aK;rw[Ae] at b8;obtain⟨ao,cap,rfl⟩:=h1.slice;exact⟨_,ao,_,cap,j,false,rfl,h2,h3,b8,.inr ⟨rfl,q,rfl,rfl,gW,h1⟩⟩
def VRsCells(B:Nat)(w:World):List Sv.Rule->List Value->Prop
 | [],xs=>xs=[]
 | q::rs,xs=>∃u ys,xs=.string ⟨q.name.toArray⟩::u::ys/\VCsAt B u q.conds w/\VRsCells B w rs ys
theorem VRsCells.row{B:Nat}{w w':World}{base':Nat}{e':TypeId}{row:Option Nat}(hg:w.grownBy w' row)(hr:RowOk base' e' row w)(hne:e'≠169)(dW:e'≠166):∀(rs:List Sv.Rule) (xs:List Value),VRsCells B w rs xs->VRsCells B w' rs xs
 | [],_,h=>h
 | _::rs,_,⟨u,ys,h1,h2,h3⟩=>⟨u,ys,h1,h2.row hg hr hne dW,VRsCells.row hg hr hne dW rs ys h3⟩
theorem VRsCells.snoc{B:Nat}{w:World}(q:Sv.Rule)(u:Value)(hu:VCsAt B u q.conds w):∀(rs:List Sv.Rule) (xs:List Value),VRsCells B w rs xs->VRsCells B w (rs++[q]) (xs++[.string ⟨q.name.toArray⟩,u])
 | [],xs,h=>⟨u,[],by rw[show xs=[] from h];rfl,hu,rfl⟩
 | _::rs,_,⟨v,ys,h1,h2,h3⟩=>⟨v,ys++[.string ⟨q.name.toArray⟩,u],by rw[h1];rfl,h2,VRsCells.snoc q u hu rs ys h3⟩
def VRsAt(base:Nat)(v:Value)(rs:List Sv.Rule)(w:World):Prop:=∃xs,w.ownsRow base 163 2 v rs.length xs/\VRsCells base w rs xs
theorem VRsAt.slice{base:Nat}{u:Value}{rs:List Sv.Rule}{w:World}(h:VRsAt base u rs w):∃ao cap,u=.slice ao rs.length cap:=by
 obtain⟨xs,h,_⟩:=h;rcases h.2 with ⟨h1,h2⟩|⟨g,cap,cur,h1,_⟩
 ·exact⟨none,0,by rw[h2];exact h1⟩
 ·exact⟨_,_,h1⟩
theorem VRsAt.row{w w':World}{base base':Nat}{e':TypeId}{v:Value}{rs:List Sv.Rule}{row:Option Nat}(h:VRsAt base v rs w)(hg:w.grownBy w' row)(hr:RowOk base' e' row w)(hne:e'≠169)(dW:e'≠166)(wP:e'≠163):VRsAt base v rs w':=by
 obtain⟨xs,h1,h2⟩:=h;exact⟨xs,Dy h1 hg hr wP,VRsCells.row hg hr hne dW rs xs h2⟩
theorem VCsCells.weak{B B':Nat}{w:World}(hb:B'<=B):∀(cs:List Sv.Cond) (xs:List Value),VCsCells B w cs xs->VCsCells B' w cs xs
 | [],_,h=>h
 | _::cs,_,⟨u,ys,h1,h2,h3⟩=>⟨u,ys,h1,Cm h2 hb,VCsCells.weak hb cs ys h3⟩
theorem VCsAt.weak{base base':Nat}{v:Value}{cs:List Sv.Cond}{w:World}(h:VCsAt base v cs w)(hb:base'<=base):VCsAt base' v cs w:=by
 obtain⟨xs,h1,h2⟩:=h;exact⟨xs,Cm h1 hb,VCsCells.weak hb cs xs h2⟩
theorem VRsCells.weak{B B':Nat}{w:World}(hb:B'<=B):∀(rs:List Sv.Rule) (xs:List Value),VRsCells B w rs xs->VRsCells B' w rs xs
 | [],_,h=>h
 | _::rs,_,⟨u,ys,h1,h2,h3⟩=>⟨u,ys,h1,h2.weak hb,VRsCells.weak hb rs ys h3⟩
theorem VRsAt.weak{base base':Nat}{v:Value}{rs:List Sv.Rule}{w:World}(h:VRsAt base v rs w)(hb:base'<=base):VRsAt base' v rs w:=by
 obtain⟨xs,h1,h2⟩:=h;exact⟨xs,Cm h1 hb,VRsCells.weak hb rs xs h2⟩
theorem Tryz.infoVRule:(Tryz.prog.info? 163).map (fun i=>(i.zero,i.size,i.bytes))=some (some (.agg #[.string ⟨#[]⟩,.slice none 0 0]),2,40):=by kernel_rfl
theorem VTsAt.cells(h:VTsAt base v ts w)(hk:ts[k]?=some t) :
  ∃g cap,v=.slice (some ⟨g,0,none⟩) ts.length cap/\w.cell? ⟨g,k*3,none⟩=some (.int .u8 t.letter.toNat)/\w.cell? ⟨g,k*3+1,none⟩=some (.int .i64 t.value)/\w.cell? ⟨g,k*3+2,none⟩=some (.bool (t.sort==0)):=by
 have hlt:k<ts.length:=(AL.1 hk).1;rcases h.2 with ⟨_,h2⟩|⟨g,cap,cur,h1,h2⟩
 ·omega
 ·subst h1
  have h3:=EX (w:=w) (base:=base) (e:=169) (size:=3) (g:=g) (n:=ts.length) (cap:=cap) (xs:=ts.flatMap Au) h;refine⟨g,cap,rfl,?_,?_,?_⟩
  ·rw[h3 (k*3) (by omega)];exact Qd Au (fun _=>rfl) ts k t hk 0 (by omega)
  ·rw[h3 (k*3+1) (by omega)];exact Qd Au (fun _=>rfl) ts k t hk 1 (by omega)
  ·rw[h3 (k*3+2) (by omega)];exact Qd Au (fun _=>rfl) ts k t hk 2 (by omega)
theorem VCsCells.at{B:Nat}{w:World}:∀(cs:List Sv.Cond) (xs:List Value) (k:Nat) (c:Sv.Cond),VCsCells B w cs xs->cs[k]?=some c->∃u,xs[k*3]?=some (.bool c.neg)/\xs[k*3+1]?=some (.int .i64 c.kind)/\xs[k*3+2]?=some u/\VTsAt 0 u c.terms w
 | [],_,k,c,_,h=>by simp at h
 | a::cs,xs,0,c,⟨u,ys,h1,h2,_⟩,h=>by
  simp at h;subst h;exact⟨u,by rw[h1];rfl,by rw[h1];rfl,by rw[h1];rfl,Cm h2 (AG _)⟩
 | a::cs,xs,k+1,c,⟨u,ys,h1,_,h3⟩,h=>by
  obtain⟨v,g1,g2,g3,g4⟩:=VCsCells.at cs ys k c h3 (by simpa using h);refine⟨v,?_,?_,?_,g4⟩
  ·rw[h1,show (k+1)*3=k*3+3 from by omega];exact g1
  ·rw[h1,show (k+1)*3+1=k*3+1+3 from by omega];exact g2
  ·rw[h1,show (k+1)*3+2=k*3+2+3 from by omega];exact g3
theorem VRsCells.at{B:Nat}{w:World}:∀(rs:List Sv.Rule) (xs:List Value) (k:Nat) (q:Sv.Rule),VRsCells B w rs xs->rs[k]?=some q->∃u,xs[k*2]?=some (.string ⟨q.name.toArray⟩)/\xs[k*2+1]?=some u/\VCsAt 0 u q.conds w
 | [],_,k,c,_,h=>by simp at h
 | a::cs,xs,0,c,⟨u,ys,h1,h2,_⟩,h=>by
  simp at h;subst h;exact⟨u,by rw[h1];rfl,by rw[h1];rfl,h2.weak (AG _)⟩
 | a::cs,xs,k+1,c,⟨u,ys,h1,_,h3⟩,h=>by
  obtain⟨v,g1,g2,g4⟩:=VRsCells.at cs ys k c h3 (by simpa using h);refine⟨v,?_,?_,g4⟩
  ·rw[h1,show (k+1)*2=k*2+2 from by omega];exact g1
  ·rw[h1,show (k+1)*2+1=k*2+1+2 from by omega];exact g2
theorem VCsAt.cells{cs:List Sv.Cond}(h:VCsAt base v cs w){c:Sv.Cond}(hk:cs[k]?=some c) :
  ∃g cap ao aC,v=.slice (some ⟨g,0,none⟩) cs.length cap/\w.cell? ⟨g,k*3,none⟩=some (.bool c.neg)/\w.cell? ⟨g,k*3+1,none⟩=some (.int .i64 c.kind)/\w.cell? ⟨g,k*3+2,none⟩=some (.slice ao c.terms.length aC)/\VTsAt 0 (.slice ao c.terms.length aC) c.terms w:=by
 obtain⟨xs,h,hc⟩:=h;have hlt:k<cs.length:=(AL.1 hk).1;obtain⟨u,g1,g2,g3,g4⟩:=VCsCells.at cs xs k c hc hk;obtain⟨ao,aC,rfl⟩:=g4.slice;rcases h.2 with ⟨_,h2⟩|⟨g,cap,cur,h1,h2⟩
 ·omega
 ·subst h1
  have h3:=EX (w:=w) (base:=base) (e:=166) (size:=3) (g:=g) (n:=cs.length) (cap:=cap) (xs:=xs) h;exact⟨g,cap,ao,aC,rfl,(h3 (k*3) (by omega)).trans g1,(h3 (k*3+1) (by omega)).trans g2,(h3 (k*3+2) (by omega)).trans g3,g4⟩
theorem VRsAt.cells{rs:List Sv.Rule}(h:VRsAt base v rs w){q:Sv.Rule}(hk:rs[k]?=some q) :
  ∃g cap ao aC,v=.slice (some ⟨g,0,none⟩) rs.length cap/\w.cell? ⟨g,k*2,none⟩=some (.string ⟨q.name.toArray⟩)/\w.cell? ⟨g,k*2+1,none⟩=some (.slice ao q.conds.length aC)/\VCsAt 0 (.slice ao q.conds.length aC) q.conds w:=by
 obtain⟨xs,h,hc⟩:=h;have hlt:k<rs.length:=(AL.1 hk).1;obtain⟨u,g1,g2,g4⟩:=VRsCells.at rs xs k q hc hk;obtain⟨ao,aC,rfl⟩:=g4.slice;rcases h.2 with ⟨_,h2⟩|⟨g,cap,cur,h1,h2⟩
 ·omega
 ·subst h1
  have h3:=EX (w:=w) (base:=base) (e:=163) (size:=2) (g:=g) (n:=rs.length) (cap:=cap) (xs:=xs) h;exact⟨g,cap,ao,aC,rfl,(h3 (k*2) (by omega)).trans g1,(h3 (k*2+1) (by omega)).trans g2,g4⟩
theorem Tt(n:Nat)(l:List UInt8)(acc:List Sv.Cond)(i:Nat)(hi:i<=l.length)(ha:acc.length<=i)(cs:List Sv.Cond)(m:Nat)(h:Dl n l acc i=.inr (cs,m)):cs.length<=l.length:=by
 induction n generalizing acc i with
 | zero=>cases h
 | succ n ih=>
  have hs:=A7 l i hi;rw[Cr] at h;cases fF:Ai l (Ag l i)==59
  ·rw[fF,AO (by simp)] at h
   have hx:Ag l i<=(if (Ai l (Ag l i)==33)=true then Ag l i+1 else Ag l i)/\(if (Ai l (Ag l i)==33)=true then Ag l i+1 else Ag l i)<=l.length:=by
    split
    ·rename_i h;have:=Ap l _ 33 (by decide) h;omega
    ·omega
   generalize (if (Ai l (Ag l i)==33)=true then Ag l i+1 else Ag l i)=x at hx h;have ht:=C8 l x hx.2;cases hr:Al l x with
   | inl k=>rw[hr] at h;cases h
   | inr p=>
    obtain⟨c,j⟩:=p;rw[hr] at ht h;obtain⟨h1,h2⟩:x<j/\j<=l.length:=ht;exact ih _ j h2 (by simp;omega) h
  ·rw[fF,AQ rfl] at h
   simp only[CD,CH] at h;rw[<-h.1];omega
theorem Qx(l:List UInt8)(i:Nat)(hi:i<=l.length)(q:Sv.Rule)(m:Nat)(h:A1 l i=.inr (q,m)):q.conds.length<=l.length:=by
 have hn:=Dh 8 l i hi;by_cases h1:Ao 8 l i=i
 ·rw[show A1 l i=.inl i from by unfold A1;simp only;rw[AQ h1]] at h;cases h
 ·cases h2:Ai l (Ag l (Ao 8 l i))==58
  ·rw[show A1 l i=.inl (Ag l (Ao 8 l i)) from by unfold A1;simp only;rw[AO h1,h2];rfl] at h;cases h
  ·rw[Lt l i h1 h2] at h
   have hp:=Ap l _ 58 (by decide) h2;cases hc:Bl l (Ag l (Ao 8 l i)+1) with
   | inl k=>rw[hc] at h;cases h
   | inr p=>
    obtain⟨cs,j⟩:=p;rw[hc] at h;simp only[CD,CH] at h;rw[<-h.1];show cs.length<=l.length
    unfold Bl at hc;have hco:=C8 l (Ag l (Ao 8 l i)+1) hp;cases hd:Al l (Ag l (Ao 8 l i)+1) with
    | inl k=>rw[hd] at hc;cases hc
    | inr p2=>
     obtain⟨c,j2⟩:=p2;rw[hd] at hc hco;obtain⟨h5,h6⟩:Ag l (Ao 8 l i)+1<j2/\j2<=l.length:=hco;exact Tt _ l [c] j2 h6 (by simp;omega) cs j hc
theorem S9(n:Nat)(l:List UInt8)(acc:List Sv.Rule)(i:Nat)(hi:i<=l.length)(ha:∀q∈acc,q.conds.length<=l.length)(rs:List Sv.Rule)(h:Gh n l acc i=.inr rs):∀q∈rs,q.conds.length<=l.length:=by
 induction n generalizing acc i with
 | zero=>cases h
 | succ n ih=>
  rw[Di] at h;by_cases hlt:i<l.length
  ·rw[AQ hlt] at h
   have aK:=Ih l i hi;cases hr:A1 l i with
   | inl k=>rw[hr] at h;cases h
   | inr p=>
    obtain⟨q,j⟩:=p;rw[hr] at h aK;obtain⟨_,h2⟩:i<j/\j<=l.length:=aK;refine ih _ _ (A7 l j h2).2 ?_ h;intro q2 dQ;rw[AY,AX] at dQ;rcases dQ with h3|rfl
    ·exact ha _ h3
    ·exact Qx l i hi _ _ hr
  ·rw[AO hlt] at h
   simp only[CD] at h;rw[<-h];exact ha
theorem Oq(l:List UInt8)(rs:List Sv.Rule)(h:Bn l=.inr rs):∀q∈rs,q.conds.length<=l.length:=
 S9 _ l [] _ (A7 l 0 (AG _)).2 (by intro q hq;cases hq) rs h
theorem Sf(a n:Nat):decide ((a:Int)<(n:Int))=decide (a<n):=by
 by_cases h:a<n
 ·rw[ID h,ID (by omega)]
 ·rw[IY h,IY (by omega)]
theorem Q41(n:Nat):decide ((8:Int)<(n:Int))=decide (8<n):=Sf 8 n
theorem Q4w(n:Nat):decide ((4:Int)<(n:Int))=decide (4<n):=Sf 4 n
def Fc(w:World)(s:ByteArray)(e:Ending)(w':World):Prop:=
 w.grownBy w' none/\
 if 400<s.size then e=.returned (.tuple #[.slice none 0 0,.int .i64 0,.int .i64 2])
 else match Bn s.data.toList with
  | .inl k=>e=.returned (.tuple #[.slice none 0 0,.int .i64 k,.int .i64 1])
  | .inr rs=>
   if Ec rs=true then e=.returned (.tuple #[.slice none 0 0,.int .i64 0,.int .i64 2])
   else ∃u,e=.returned (.tuple #[u,.int .i64 rs.length,.int .i64 0])/\VRsAt w.heap.size u rs w'
def Q4d(b:Nat)(s:ByteArray)(base:Nat)(w:World)(r:Nat ⊕ List Sv.Rule)(u:Value)(w':World):Prop:=
 ∃(p:Nat) (bad:Bool),VAt b s p bad w'/\p<=s.size/\w.grownBy w' (some b)/\
  ((bad=true/\r=.inl p/\∃ao n cap,u=.slice ao n cap)\/(bad=false/\∃(n:Nat) (acc:List Sv.Rule),s.size<p+n/\acc.length<=p/\VRsAt base u acc w'/\Gh n s.data.toList acc p=r))
theorem P3(s:ByteArray)(w:World)(hm:s.size<=maxLen)(hs:400<s.size) :
  Calls Tryz.prog 78 #[.string s] w fun e w'=>Fc w s e w':=by
 unfold maxLen at hm;have hd:decide ((400:Int)<(s.size:Int))=true:=by simp;omega
 go_enter Tryz.func78,Tryz.ntmps78;go_wp2
 go_ret3
 refine⟨AD _ _,?_⟩;rw[AQ hs];rfl
theorem O8(s:ByteArray)(w:World)(hs:¬ 400<s.size) :
  Calls Tryz.prog 78 #[.string s] w fun e w'=>Fc w s e w':=by
 obtain⟨i0,aq,hz0,hz1,hz2⟩:=info_parts Tryz.infoVRule;have hd:decide ((400:Int)<(s.size:Int))=false:=by simp;omega
 have hs':s.size<=400:=by omega
 have HS:=Ac hs;clear hs;obtain⟨r,hr⟩:∃r,Bn s.data.toList=r:=⟨_,rfl⟩
 have HR:=Ac hr;clear hr;have hb0:VAt w.heap.size s 0 false (w.alloc (.cells #[.string s,.int .i64 0,.bool false] 229)):=AR _ _;have a7:=AA w (.cells #[.string s,.int .i64 0,.bool false] 229) none;have hle:=A7 s.data.toList 0 (by simp);rw[Ae] at hle;go_enter Tryz.func78,Tryz.ntmps78;go_wp2_with fail;refine(Fj _ s 0 _ (AG _) hs' hb0).mono ?_;rintro e w1⟨rfl,hb1,hg1⟩;go_wp2_with fail;go_loopw [6] (fun u w'=>Q4d w.heap.size s w.heap.size (w.alloc (.cells #[.string s,.int .i64 0,.bool false] 229)) r u w') (fun _ w'=>Q1a w.heap.size s.size w')
 case atStart=>
  exact⟨_,false,hb1,hle.2,hg1,.inr ⟨rfl,s.data.toList.length+1,[],by simp;omega,AG _,⟨[],EJ _ _ _ _,rfl⟩,Aa HR⟩⟩
 case round=>
  clear hb1 hg1 hle;obtain⟨p,bad,aD,hp,hg,lJ⟩:=hrel;have HM:=Ac (aD.ms s.size);have c1:=aD.c1;have c2:=aD.c2;rcases lJ with ⟨rfl,hr,ao,nn,cap,rfl⟩|⟨rfl,m,acc,hm,aY,bg,bQ⟩
  ·have hdec:∃x,decide (p<s.size)=x:=⟨_,rfl⟩
   obtain⟨x,hx⟩:=hdec;cases x
   all_goals
    go_wp2;go_quiet (fail);go_wp2
    go_ret3
    refine⟨A8 a7 (Ab hg (Ad _ _ _)) (AW _),?_⟩;rw[AO (Aa HS),Aa HR,hr];rfl
  ·have HN:=Ac bQ
   clear bQ;obtain⟨ao,cap,rfl⟩:=bg.slice;by_cases hlt:p<s.size
   ·have hx:decide (p<s.size)=true:=by simpa using hlt
    have fH:Hid ((match A1 s.data.toList p with
      | .inl k=>.inl k
      | .inr (q,j)=>Gh (m-1) s.data.toList (acc++[q]) (Ag s.data.toList j))=r):=by
     have h0:=Aa HN;obtain⟨m2,rfl⟩:∃m2,m=m2+1:=⟨m-1,by omega⟩
     rw[Di,Ae,AQ hlt] at h0;exact h0
    clear HN;go_wp2_with fail;refine(Uv _ s p _ hp hs' (by first|exact aD|exact aD.drewN _)).mono ?_;rintro e w5⟨nm,iC,n5,aI,j5,RN,rfl,hb5,aZ,QM,HV⟩;have wK:=bg.row aZ aD.rowOk (by decide) (by decide) (by decide);have bW:=Ab hg aZ
    have zK:w.heap.size+1<=w5.heap.size:=by
     have:=bW.size;rwa[EO] at this
    have SZ:w.heap.size<=wr.heap.size:=by
     have:=hg.size;rw[EO] at this;omega
    clear bg aD hg aZ c1 c2;obtain⟨xs,cY,cx⟩:=wK;have LJ:=AA w5 (.cells #[.string nm,.slice iC n5 aI] 163) none;have aO:=Ab LJ (AA (w5.alloc (.cells #[.string nm,.slice iC n5 aI] 163)) (.cells #[.string nm,.slice iC n5 aI] 163) none);have hrow:=RowOk.of ((cY.alloc (.cells #[.string nm,.slice iC n5 aI] 163)).alloc (.cells #[.string nm,.slice iC n5 aI] 163));have gX:=hb5.kept aO (by simp);have cu:=VRsCells.row aO (RowOk.none 0 0 w5) (by decide) (by decide) acc xs cx;have ee:=Ab bW (A3 aO (some w.heap.size))
    go_wp2_with (at_builtin;refine CW _ rfl _ _ 158 rfl w.heap.size 163 i0 (.agg #[.string ⟨#[]⟩,.slice none 0 0]) 2 40 Tryz.underlying158 aq hz0 hz1 hz2 rfl (by decide) _ acc.length xs rfl ((cY.alloc _).alloc _) ⟨w5.heap.size+1,0,none⟩ 1 1 [.string nm,.slice iC n5 aI] rfl rfl ?c1 ?c2 ?c3 ?c4 ?c5 ?_)
    case c1=>
     intro jj u hu
     match jj,hu with
     | 0,hu=>simp at hu;subst hu;simp[Addr.add]
     | 1,hu=>simp at hu;subst hu;simp[Addr.add]
     | n+2,hu=>simp at hu
    case c2=>
     intro u hu;simp at hu;rcases hu with rfl|rfl<;>rfl
    case c3=>unfold maxLen;omega
    case c4=>omega
    case c5=>simp;omega
    intro v' w7 hown hgrow _;have sF:=gX.row hgrow hrow (by decide);have cq:=VRsCells.row hgrow hrow (by decide) (by decide) acc xs cu
    have qh:(w.alloc (.cells #[.string s,.int .i64 0,.bool false] 229)).grownBy w7 (some w.heap.size):=by
     refine⟨hgrow.os.trans ee.os,hgrow.tape.trans ee.tape,hgrow.output.trans ee.output,AU ee.size hgrow.size,fun k hk hne=>?_⟩;refine(hgrow.block k (AZ hk ee.size) (fun e1=>?_)).trans (ee.block k hk hne);have h1:=(hrow k e1.symm).1;rw[EO] at hk;exact hne (by rw[show k=w.heap.size from by omega])
    obtain⟨eQ,bD,rfl⟩:∃ao cap,v'=.slice ao (acc.length+1) cap:=by
     rcases hown.2 with ⟨h1,h2⟩|⟨g,cap,cur,h1,_⟩
     ·omega
     ·exact⟨_,_,h1⟩
    have HV7:Hid ((RN=true/\A1 s.data.toList p=.inl j5)\/(RN=false/\∃(q:Sv.Rule),A1 s.data.toList p=.inr (q,j5)/\p<j5/\VRsAt w.heap.size (.slice eQ (acc.length+1) bD) (acc++[q]) w7)):=by
     rcases Aa HV with h1|⟨h1,q,h2,rfl,h3,h4⟩
     ·exact .inl h1
     ·have h5:=((VCsAt.row h4 aO (RowOk.none 0 0 w5) (by decide) (by decide)).row hgrow hrow (by decide) (by decide)).weak SZ
      exact .inr ⟨h1,q,h2,h3,_,by rw[AK];exact hown,VRsCells.snoc q _ h5 acc xs cq⟩
    clear hown hgrow hrow cq cu cx cY gX hb5 aO LJ ee bW HV;go_wp2_with fail;refine(D0 _ s j5 RN _ QM hs' sF).mono ?_;rintro e w8⟨rfl,oG,fL⟩;go_wp2;go_roundw
    case rel=>
     refine⟨_,RN,oG,?_,Ab qh fL,?_⟩
     ·have:=(A7 s.data.toList j5 (by rw[Ae];exact QM)).2
      rw[Ae] at this;split<;>omega
     ·have h0:=Aa fH
      rcases Aa HV7 with ⟨rfl,h2⟩|⟨rfl,q,h2,h3,h4⟩
      ·rw[h2] at h0
       exact .inl ⟨rfl,h0.symm,_,_,_,rfl⟩
      ·rw[h2] at h0
       have:=(A7 s.data.toList j5 (by rw[Ae];exact QM)).1;refine .inr ⟨rfl,m-1,acc++[q],?_,?_,h4.row fL sF.rowOk (by decide) (by decide) (by decide),h0⟩
       ·rw[AO (by simp)];omega
       ·rw[AO (by simp)];simp;omega
    case measure=>
     refine CQ (CZ (oG.ms s.size)) ?_;rw[Aa HM];rcases Aa HV7 with ⟨rfl,h2⟩|⟨rfl,q,h2,h3,h4⟩
     ·simp
     ·have:=A7 s.data.toList j5 (by rw[Ae];exact QM)
      rw[Ae] at this;simp;omega
   ·have hx:decide (p<s.size)=false:=by simpa using hlt
    have hr:r=.inr acc:=by
     have h0:=Aa HN;obtain⟨m2,rfl⟩:∃m2,m=m2+1:=⟨m-1,by omega⟩
     rw[Di,Ae,AO hlt] at h0;exact h0.symm
    subst hr;clear HN;have hg1:=A8 a7 hg (AW _);obtain⟨wo,rfl⟩:∃wo:World,wo=wr:=⟨_,rfl⟩
    go_wp2;clear c1 c2 hx hlt HM;go_loopw [8,9] (fun x y w'=>∃(k:Nat) (lg:Bool),k<=acc.length/\x=.bool lg/\y=.int .i64 k/\(lg||(acc.drop k).any Eu)=Ec acc/\w'=wo) (fun _ y _=>acc.length-(intOf y).toNat)
    case atStart=>
     refine⟨0,_,AG _,rfl,rfl,?_,rfl⟩;unfold Ec;rw[IE,Q41]
    case round=>
     obtain⟨k,lg,hk,rfl,rfl,wR,hw⟩:=hrel;subst wr;have HL:=Ac wR;clear wR;by_cases hlt:k<acc.length
     ·have hd:decide (k<acc.length)=true:=by simpa using hlt
      obtain⟨q,hq⟩:∃q,acc[k]?=some q:=⟨acc[k],AB hlt⟩
      have hdr:acc.drop k=q::acc.drop (k+1):=by
       obtain⟨h1,h2⟩:=AL.1 hq;rw[CM h1,h2]
      have OY:Hid ((lg||Eu q||(acc.drop (k+1)).any Eu)=Ec acc):=by
       have h0:=Aa HL;rw[hdr,GH,<-JJ] at h0;exact h0
      clear HL hdr;obtain⟨g,cap',br,aC,hv,q0,q1,hcs⟩:=bg.cells hq;simp only[AH,BP] at hv;obtain⟨rfl,rfl⟩:=hv;have om:=Oq _ _ (Aa HR) q (AV hq);rw[Ae] at om;clear hq;obtain⟨T,hT⟩:∃T,(lg||Eu q)=T:=⟨_,rfl⟩
      rw[hT] at OY;have HT:=Ac hT;clear hT;cases lg
      all_goals
       go_wp2;go_loopw [8,10] (fun x z w'=>∃(k2:Nat) (xx:Bool),k2<=q.conds.length/\x=.bool xx/\z=.int .i64 k2/\(xx||(q.conds.drop k2).any D7)=T/\w'=wo) (fun _ z _=>q.conds.length-(intOf z).toNat)
       case atStart=>
        refine⟨0,_,AG _,rfl,rfl,?_,rfl⟩;rw[IE,<-Aa HT]
        first
        | (unfold Eu;rw[Q4w,EN])
        | simp
       case round=>
        obtain⟨k2,xx,hk2,rfl,rfl,zu,hw⟩:=hrel;subst wr;have RX:=Ac zu;clear zu;by_cases hlt2:k2<q.conds.length
        ·have bm:decide (k2<q.conds.length)=true:=by simpa using hlt2
         obtain⟨c,hc⟩:∃c,q.conds[k2]?=some c:=⟨q.conds[k2],AB hlt2⟩
         have sM:Hid ((xx||D7 c||(q.conds.drop (k2+1)).any D7)=T):=by
          have h0:=Aa RX;obtain⟨h1,h2⟩:=AL.1 hc;rw[CM h1,h2,GH,<-JJ] at h0;exact h0
         clear RX;obtain⟨g2,bA,np,e8,hv2,p0,p1,p2,cC⟩:=hcs.cells hc;simp only[AH,BP] at hv2;obtain⟨rfl,rfl⟩:=hv2;clear hc;cases xx
         all_goals
          go_wp2;go_roundw
          case rel=>
           refine⟨k2+1,_,by omega,rfl,by go_num,?_,by first|trivial|rfl⟩;rw[<-Aa sM]
           first
           | (unfold D7;rw[Q4w,EN])
           | simp
          case measure=>simp[intOf];omega
        ·have bm:decide (k2<q.conds.length)=false:=by simpa using hlt2
         have wR:xx=T:=by
          have h0:=Aa RX;rw[BD (by omega),KS,IM] at h0;exact h0
         subst wR;clear RX;go_wp2;go_roundw
         case rel=>exact⟨k+1,_,by omega,rfl,by go_num,Aa OY,by first|trivial|rfl⟩
         case measure=>simp[intOf];omega
     ·have hd:decide (k<acc.length)=false:=by simpa using hlt
      have wR:lg=Ec acc:=by
       have h0:=Aa HL;rw[BD (by omega),KS,IM] at h0;exact h0
      have HE:=Ac wR;clear HL wR;cases lg
      ·go_wp2
       go_ret3
       refine⟨hg1,?_⟩;rw[AO (Aa HS),Aa HR];simp only;rw[<-Aa HE,AO (by simp)];exact⟨_,rfl,bg⟩
      ·go_wp2
       go_ret3
       refine⟨hg1,?_⟩;rw[AO (Aa HS),Aa HR];simp only;rw[<-Aa HE,AQ rfl];rfl
theorem N5(s:ByteArray)(w:World)(hm:s.size<=maxLen) :
  Calls Tryz.prog 78 #[.string s] w fun e w'=>Fc w s e w':=by
 by_cases hs:400<s.size
 ·exact P3 s w hm hs
 ·exact O8 s w hs
theorem Yd(w:World)(c:UInt8)(z:Int)(hz:z=c.toNat):Sem.run Tryz.prog (convert 123 9 (.slice (some ⟨w.heap.size,0,none⟩) 1 1)) (w.alloc (.cells #[.int .u8 z] 5))=.ok (.string ⟨#[c]⟩) (w.alloc (.cells #[.int .u8 z] 5)):=by
 subst hz;exact Jn w c
theorem Mo(n:Nat)(hn:n<=1000000000)(w:World) :
  Calls Tryz.prog 79 #[.int .i64 n] w fun e w'=>e=.returned (.string ⟨(Lib.decDigits n).toArray⟩)/\w.grownBy w' none:=by
 induction n using Nat.strongRecOn generalizing w with
 | _ n ih=>
  have e0:decide ((n:Int)<0)=false:=by simp
  obtain⟨d,hd⟩:∃d,n%10=d:=⟨_,rfl⟩
  have hd9:d<10:=by omega
  have TI:((n:Int)%10)=(d:Int):=by omega
  have ZK:((n:Int).tmod 10)=(d:Int):=by rw[KI (by omega)];exact TI
  obtain⟨c,hcc⟩:∃c:UInt8,UInt8.ofNat (48+d)=c:=⟨_,rfl⟩
  have hc:((c.toNat:Nat):Int)=48+(d:Int):=by
   rw[<-hcc,UInt8.toNat_ofNat'];omega
  have hcv:=Yd w c (48+(d:Int)) hc.symm;by_cases h10:n<10
  ·have e1:decide ((n:Int)<10)=true:=by simp;omega
   have ed:Lib.decDigits n=[c]:=by rw[Lib.decDigits,dif_pos h10,<-hcc];rw[show d=n from by omega]
   rw[ed];clear ih hc hcc ed;go_enter Tryz.func79,Tryz.ntmps79;go_wp2;go_ret;exact⟨rfl,AA w _ none⟩
  ·have e1:decide ((n:Int)<10)=false:=by simp;omega
   have ed:Lib.decDigits n=Lib.decDigits (n / 10)++[c]:=by rw[Lib.decDigits,dif_neg h10,hd,hcc]
   rw[ed];have hq:(n:Int).tdiv 10=((n / 10:Nat):Int):=by rw[IG (by omega)];omega
   have dQ:(n:Int) / 10=((n / 10:Nat):Int):=by omega
   have PS:=fun w=>ih (n / 10) (by omega) (by omega) w
   rw[<-dQ] at PS;have hL:=GK ((n / 10:Nat):Int) (by omega) (by omega);rw[KC] at hL;generalize Lib.decDigits (n / 10)=L at PS hL⊢;clear ih hc hcc ed dQ;go_enter Tryz.func79,Tryz.ntmps79;go_wp2_with fail;refine(PS _).mono ?_;rintro e w2⟨rfl,hg2⟩;have hg:=Ab (AA w (.cells #[.int .u8 (48+(d:Int))] 5) none) hg2;obtain⟨t,ht⟩:∃t:ByteArray,t=⟨L.toArray⟩:=⟨_,rfl⟩
   rw[<-ht];have cC:t.size<=21:=by rw[ht,Cx];exact hL
   have HT:=Ac ht;clear ht hL PS;go_wp2;go_ret;exact⟨by rw[Aa HT,<-Ef];rfl,hg⟩
theorem Jl(z:Int)(h1:-1000000000<=z)(h2:z<=1000000000)(w:World) :
  Calls Tryz.prog 79 #[.int .i64 z] w fun e w'=>e=.returned (.string ⟨(Lib.itoa z).toArray⟩)/\w.grownBy w' none:=by
 by_cases hz:z<0
 ·obtain⟨n,rfl⟩:∃n:Nat,z=-(n:Int):=⟨z.natAbs,by omega⟩
  have dR:1<=n:=by omega
  rw[Lib.itoa_neg n dR];have e0:decide (-(n:Int)<0)=true:=by simp;omega
  have hd:=fun w=>Mo n (by omega) w
  have hL:=GK (n:Int) (by omega) (by omega);rw[KC] at hL;generalize Lib.decDigits n=L at hd hL⊢;go_enter Tryz.func79,Tryz.ntmps79;go_wp2_with fail;refine(hd _).mono ?_;rintro e w2⟨rfl,hg2⟩;obtain⟨t,ht⟩:∃t:ByteArray,t=⟨L.toArray⟩:=⟨_,rfl⟩
  rw[<-ht];have cC:t.size<=21:=by rw[ht,Cx];exact hL
  have HT:=Ac ht;clear ht hL hd;go_wp2;go_ret;exact⟨by rw[Aa HT,show (45::L)=[45]++L from rfl,<-Ef];rfl,hg2⟩
 ·obtain⟨n,rfl⟩:∃n:Nat,z=(n:Int):=⟨z.toNat,by omega⟩
  rw[KC];exact Mo n (by omega) w
theorem Iq(s:ByteArray)(w:World)(hm:s.size<=maxLen)(n m:Nat)
 (hp:∀e w',Fc w s e w'->e=.returned (.tuple #[.slice none 0 0,.int .i64 n,.int .i64 m])/\w.grownBy w' none) :
  Calls Tryz.prog 50 #[.string s] w fun e w'=>e=.returned (.tuple #[.string ⟨#[]⟩,.int .i64 n,.int .i64 m])/\w.grownBy w' none:=by
 go_enter Tryz.func50,Tryz.ntmps50;go_wp2_with fail;refine(N5 s w hm).mono ?_;intro e w1 aN;obtain⟨rfl,hg1⟩:=hp e w1 aN;clear hp aN;go_wp2;go_loopw [8,9] (fun x y w'=>x=.string ⟨#[]⟩/\y=.int .i64 0/\w'=w1) (fun _ _ _=>0)
 case atStart=>exact⟨rfl,rfl,rfl⟩
 case round=>
  obtain⟨rfl,rfl,rfl⟩:=hrel;go_wp2
  go_ret3
  exact⟨rfl,hg1⟩
theorem ba3(a b c:List UInt8):(⟨a.toArray⟩:ByteArray)++⟨b.toArray⟩++⟨c.toArray⟩=⟨(a++(b++c)).toArray⟩:=by rw[Ef,Ef,BQ]
theorem Q4z(a:List UInt8):(⟨a.toArray⟩:ByteArray)++⟨#[33]⟩=⟨(a++[33]).toArray⟩:=Ef a [33]
theorem Q4x(a:List UInt8):(⟨a.toArray⟩:ByteArray)++⟨#[40]⟩=⟨(a++[40]).toArray⟩:=Ef a [40]
theorem VRsAt.none{base:Nat}{v:Value}{rs:List Sv.Rule}{w w':World}(h:VRsAt base v rs w)(hg:w.grownBy w' none):VRsAt base v rs w':=h.row hg (RowOk.none 0 0 w) (by decide) (by decide) (by decide)
theorem VTsAt.none{base:Nat}{v:Value}{ts:List Sv.Term}{w w':World}(h:VTsAt base v ts w)(hg:w.grownBy w' none):VTsAt base v ts w':=h.row hg (RowOk.none 0 0 w) (by decide)
theorem Qf(s:ByteArray)(w:World)(hm:s.size<=maxLen)(hs:¬ 400<s.size)(rs:List Sv.Rule)(hr:Bn s.data.toList=.inr rs)(hx:Ec rs=false) :
  Calls Tryz.prog 50 #[.string s] w fun e w'=>e=.returned (.tuple #[.string ⟨(Jb rs).toArray⟩,.int .i64 rs.length,.int .i64 0])/\w.grownBy w' none:=by
 have aV:=I1 _ rs hr;have dt:=I2 _ rs hr;have hlen:=Od rs aV hx
 have hrl:rs.length<=8:=by
  unfold Ec at hx;rw[DI] at hx;simpa using hx.1
 have HR:=Ac hr;have HX:=Ac hx;have HS:=Ac hs;have HB:=Ac aV;have HH:=Ac dt;have HL:=Ac hlen;clear hr hx hs aV dt hlen;go_enter Tryz.func50,Tryz.ntmps50;go_wp2_with fail;refine(N5 s w hm).mono ?_;rintro e w1⟨hg1,aN⟩;rw[AO (Aa HS),Aa HR] at aN;simp only at aN;rw[Aa HX,AO (by simp)] at aN;obtain⟨u,rfl,bg⟩:=aN;obtain⟨ao,cap,rfl⟩:=bg.slice;have sW:VRsAt 0 (.slice ao rs.length cap) rs w1:=bg.weak (AG _);clear bg;go_wp2;go_loopw [8,9] (fun x y w'=>∃(k:Nat) (t:ByteArray),k<=rs.length/\x=.string t/\y=.int .i64 k/\t=⟨((rs.take k).flatMap Cn).toArray⟩/\w.grownBy w' none/\VRsAt 0 (.slice ao rs.length cap) rs w') (fun _ y _=>rs.length-(intOf y).toNat)
 case atStart=>exact⟨0,_,AG _,rfl,rfl,by simp,hg1,sW⟩
 case round=>
  clear hg1 sW;obtain⟨k,t,hk,rfl,rfl,ht,hg,bg⟩:=hrel;by_cases hlt:k<rs.length
  ·have hd:decide (k<rs.length)=true:=by simpa using hlt
   obtain⟨q,hq⟩:∃q,rs[k]?=some q:=⟨rs[k],AB hlt⟩
   have sY:=AV hq;have hqb:=Aa HB q sY;have ZN:=(Aa HH q sY).1;have kE:=M3 Cn rs k q hq;have hle:=Su Cn rs (k+1);have aj:(rs.flatMap Cn).length<=8000:=Aa HL;rw[kE,AK] at hle;have pJ:=Ac kE;clear kE;generalize hXX:(rs.take k).flatMap Cn=X at *;have hXq:X.length+(Cn q).length<=8000:=by omega
   have HPR:Hid (Cn q=q.name++[58]++q.conds.flatMap Cc++[59,10]):=rfl
   have hXn:X.length+q.name.length+(q.conds.flatMap Cc).length+3<=8000:=by
    have:=BJ List.length (Aa HPR);simp only[AK,AP,CJ] at this;omega
   have hcl:q.conds.length<=8000:=by
    have:=Q2f Cc Q0u q.conds;omega
   obtain⟨g,cap',br,aC,hv,q0,q1,hcs⟩:=bg.cells hq;simp only[AH,BP] at hv;obtain⟨rfl,rfl⟩:=hv;obtain⟨nm,bQ⟩:∃nm:ByteArray,nm=⟨q.name.toArray⟩:=⟨_,rfl⟩
   rw[<-bQ] at q0;have hnms:nm.size<=8000:=by rw[bQ,Cx];omega
   have cC:t.size<=8000:=by rw[ht,Cx];omega
   have oT:=Ac bQ;have HT:=Ac ht;have HQ:=Ac hq;have HXE:=Ac hXX;clear bQ ht hq hXX hle aj sY;obtain⟨wo,rfl⟩:∃wo:World,wo=wr:=⟨_,rfl⟩
   go_wp2;go_loopw [8,10] (fun x z w'=>∃(k2:Nat) (t2:ByteArray),k2<=q.conds.length/\x=.string t2/\z=.int .i64 k2/\t2=⟨(X++q.name++[58]++(q.conds.take k2).flatMap Cc).toArray⟩/\w.grownBy w' none/\VRsAt 0 (.slice (some ⟨g,0,none⟩) rs.length cap) rs w') (fun _ z _=>q.conds.length-(intOf z).toNat)
   case atStart=>
    refine⟨0,_,AG _,rfl,rfl,?_,hg,bg⟩;rw[Aa HT,Aa oT,Ef,FR,FH,BM];exact Ef _ _
   case round=>
    clear hg bg q0 q1 hcs HT cC;obtain⟨k2,t2,hk2,rfl,rfl,gU,hg,bg⟩:=hrel;obtain⟨g',cap'',br,aC,hv,q0,q1,hcs⟩:=bg.cells (Aa HQ);simp only[AH,BP,AE,BK,BX] at hv;obtain⟨rfl,rfl⟩:=hv;by_cases hlt2:k2<q.conds.length
    ·have bm:decide (k2<q.conds.length)=true:=by simpa using hlt2
     obtain⟨c,hc⟩:∃c,q.conds[k2]?=some c:=⟨q.conds[k2],AB hlt2⟩
     have hcm:=AV hc;obtain⟨hckd,ub⟩:=hqb.1 c hcm;have LW:=(ZN c hcm).2;have wF:=M3 Cc q.conds k2 c hc;have qT:=Su Cc q.conds (k2+1);rw[wF,AK] at qT;obtain⟨g2,bA,np,e8,hv2,p0,p1,p2,cC⟩:=hcs.cells hc;simp only[AH,BP] at hv2;obtain⟨rfl,rfl⟩:=hv2
     have fh:t2.size<=8000:=by
      rw[gU,Cx];simp only[AK,BC];omega
     have OL:=Ac wF;have RT:=Ac gU;have RV:Hid (Cc c=(if c.neg=true then [33] else [])++[40]++Lib.itoa c.kind++Bq c.terms++[41]):=rfl;have vu:=J4 c.terms;have LB:=GK (c.kind:Int) (by omega) (by omega);clear hc hcm wF gU;cases aJ:c.neg
     ·rw[aJ] at p0
      have ji:=AA wr (.cells #[.bool false,.int .i64 c.kind,.slice np c.terms.length e8] 166) none;have mV:C3 166 wr.heap.size (.bool false) (.int .i64 c.kind) (.slice np c.terms.length e8) (wr.alloc (.cells #[.bool false,.int .i64 c.kind,.slice np c.terms.length e8] 166)):=AR _ _;go_wp2_with fail;refine(Jl (c.kind:Int) (by omega) (by omega) _).mono ?_;rintro e w3⟨rfl,hg3⟩;have jw:=mV.kept hg3 (by simp);have fC:=(cC.none ji).none hg3;have je:=(bg.none ji).none hg3;have ax:=Ab (Ab hg ji) hg3;have WA:wr.heap.size<w3.heap.size:=jw.lt;clear mV ji hg3 cC bg hg q0 q1 hcs p0 p1 p2;generalize wr.heap.size=N at *;obtain⟨dk,jq⟩:∃dk:ByteArray,dk=⟨(Lib.itoa c.kind).toArray⟩:=⟨_,rfl⟩
      rw[<-jq];have VC:dk.size<=21:=by rw[jq,Cx];exact LB
      have XY:=Ac jq;clear jq;obtain⟨Y1,xG⟩:∃Y1,X++q.name++[58]++(q.conds.take k2).flatMap Cc++[]++[40]++Lib.itoa c.kind=Y1:=⟨_,rfl⟩
      have VP:Y1.length+(Bq c.terms).length+1<=8000:=by
       rw[<-xG];have h8:=BJ List.length (Aa RV);simp only[AK,AP,CJ] at h8⊢;rw[aJ] at h8;simp at h8;omega
      have OB:=Ac xG;clear xG;go_wp2;go_loopw [8,12] (fun x y w'=>∃(k3:Nat) (t3:ByteArray),k3<=c.terms.length/\x=.string t3/\y=.int .i64 k3/\t3=⟨(Y1++Bq (c.terms.take k3)).toArray⟩/\w.grownBy w' none/\VRsAt 0 (.slice (some ⟨g,0,none⟩) rs.length cap) rs w'/\C3 166 N (.bool false) (.int .i64 c.kind) (.slice np c.terms.length e8) w'/\VTsAt 0 (.slice np c.terms.length e8) c.terms w') (fun _ y _=>c.terms.length-(intOf y).toNat)
      case atStart=>
       refine⟨0,_,AG _,rfl,rfl,?_,ax,je,jw,fC⟩;rw[Aa RT,Aa XY,<-Aa OB];simp only[FR,Bq,FH,BM];rw[Q4x,Ef]
      case round=>
       clear ax je jw fC fh;obtain⟨k3,t3,hk3,rfl,rfl,jC,hg,bg,hC,cC⟩:=hrel;have dC:=hC.c.2.2;by_cases hlt3:k3<c.terms.length
       ·have x9:decide (k3<c.terms.length)=true:=by simpa using hlt3
        obtain⟨tm,j0⟩:∃tm,c.terms[k3]?=some tm:=⟨c.terms[k3],AB hlt3⟩
        have mo:=AV j0;obtain⟨aS,hv2⟩:=ub tm mo;have wG:=LW tm mo;have nA:=Fv c.terms k3 tm j0;have qT:=Fb c.terms (k3+1);have hl3:t3.size=Y1.length+(Bq (c.terms.take k3)).length:=by rw[jC,Cx,AK]
        have hl4:(Bq (c.terms.take (k3+1))).length=(Bq (c.terms.take k3)).length+1+(Bv tm).length:=by
         rw[nA,AK,AP,JO (Bv tm).length 1,Nat.add_assoc]
        have aR:(Bv tm).length<=8000:=by omega
        have yF:t3.size<=8000:=by omega
        obtain⟨g3,aI,hv3,r0,r1,r2⟩:=cC.cells j0;simp only[AH,BP] at hv3;obtain⟨rfl,rfl⟩:=hv3;have nr:=Ac nA;have rY:=Ac jC;clear nA jC j0 mo qT hl3 hl4;have cV:=AA wr (.cells #[.int .u8 tm.letter.toNat,.int .i64 tm.value,.bool (tm.sort==0)] 169) none;rcases wG with h0|⟨h0,h1⟩|⟨h0,h1⟩
        ·have hpl:Bv tm=[95]:=by unfold Bv;rw[AQ h0]
         have hb0:(tm.sort==0)=true:=by rw[h0];rfl
         rw[hb0] at r2 cV;have rh:=Ac hpl;clear hpl h0 hb0 aR;go_wp2;go_roundw
         case rel=>
          refine⟨k3+1,_,by omega,rfl,by go_num,?_,Ab hg cV,bg.none cV,hC.kept cV (by simp),cC.none cV⟩;rw[Aa nr,Aa rh,Aa rY,<-BQ];exact Ef _ _
         case measure=>simp[intOf];omega
        ·have hpl:Bv tm=[tm.letter]:=by unfold Bv;rw[AO (by omega),AQ h0]
         have hb0:(tm.sort==0)=false:=by rw[h0];rfl
         rw[hb0] at r2 cV;have ow:decide ((0:Int)<(tm.letter.toNat:Int))=true:=by simp;omega
         have rh:=Ac hpl;have hcv:=Jn (wr.alloc (.cells #[.int .u8 tm.letter.toNat,.int .i64 tm.value,.bool false] 169)) tm.letter;rw[EO] at hcv;clear hpl h0 hb0 aR;go_wp2;go_roundw
         case rel=>
          have dY:=Ab cV (AA _ (.cells #[.int .u8 tm.letter.toNat] 5) none);refine⟨k3+1,_,by omega,rfl,by go_num,?_,Ab hg dY,bg.none dY,hC.kept dY (by simp),cC.none dY⟩;rw[Aa nr,Aa rh,Aa rY,<-BQ];exact ba3 _ [32] [tm.letter]
         case measure=>simp[intOf];omega
        ·have hpl:Bv tm=Lib.itoa tm.value:=by unfold Bv;rw[AO (by omega),AO (by omega),AQ h0]
         have hb0:(tm.sort==0)=false:=by rw[h0];rfl
         rw[hb0] at r2 cV;rw[h1] at r0 cV;rw[hpl] at aR;have rh:=Ac hpl;clear hpl h0 hb0;go_wp2_with fail;refine(Jl tm.value (by omega) (by omega) _).mono ?_;rintro e w4⟨rfl,hg4⟩;have dY:=Ab cV hg4;obtain⟨dv,pR⟩:∃dv:ByteArray,dv=⟨(Lib.itoa tm.value).toArray⟩:=⟨_,rfl⟩
         rw[<-pR];have UZ:dv.size<=8000:=by rw[pR,Cx];exact aR
         have XX:=Ac pR;clear pR;go_wp2;go_roundw
         case rel=>
          refine⟨k3+1,_,by omega,rfl,by go_num,?_,Ab hg dY,bg.none dY,hC.kept dY (by simp),cC.none dY⟩;rw[Aa nr,Aa rh,Aa rY,Aa XX,<-BQ];exact ba3 _ [32] (Lib.itoa tm.value)
         case measure=>simp[intOf];omega
       ·obtain rfl:k3=c.terms.length:=by omega
        have x9:decide (c.terms.length<c.terms.length)=false:=by simp
        rw[CX] at jC;have hl3:t3.size<=8000:=by rw[jC,Cx,AK];omega
        have rY:=Ac jC;clear jC hlt3;go_wp2;go_roundw
        case rel=>
         refine⟨k2+1,_,by omega,rfl,by go_num,?_,hg,bg⟩;rw[Aa OL,Aa RV,aJ,Aa rY,<-Aa OB];refine(Ef _ _).trans ?_;simp only[BQ,if_false,BZ,DC]
        case measure=>simp[intOf];omega
     ·rw[aJ] at p0
      have ji:=AA wr (.cells #[.bool true,.int .i64 c.kind,.slice np c.terms.length e8] 166) none;have mV:C3 166 wr.heap.size (.bool true) (.int .i64 c.kind) (.slice np c.terms.length e8) (wr.alloc (.cells #[.bool true,.int .i64 c.kind,.slice np c.terms.length e8] 166)):=AR _ _;go_wp2_with fail;refine(Jl (c.kind:Int) (by omega) (by omega) _).mono ?_;rintro e w3⟨rfl,hg3⟩;have jw:=mV.kept hg3 (by simp);have fC:=(cC.none ji).none hg3;have je:=(bg.none ji).none hg3;have ax:=Ab (Ab hg ji) hg3;have WA:wr.heap.size<w3.heap.size:=jw.lt;clear mV ji hg3 cC bg hg q0 q1 hcs p0 p1 p2;generalize wr.heap.size=N at *;obtain⟨dk,jq⟩:∃dk:ByteArray,dk=⟨(Lib.itoa c.kind).toArray⟩:=⟨_,rfl⟩
      rw[<-jq];have VC:dk.size<=21:=by rw[jq,Cx];exact LB
      have XY:=Ac jq;clear jq;obtain⟨Y1,xG⟩:∃Y1,X++q.name++[58]++(q.conds.take k2).flatMap Cc++[33]++[40]++Lib.itoa c.kind=Y1:=⟨_,rfl⟩
      have VP:Y1.length+(Bq c.terms).length+1<=8000:=by
       rw[<-xG];have h8:=BJ List.length (Aa RV);simp only[AK,AP,CJ] at h8⊢;rw[aJ] at h8;simp at h8;omega
      have OB:=Ac xG;clear xG;go_wp2;go_loopw [8,12] (fun x y w'=>∃(k3:Nat) (t3:ByteArray),k3<=c.terms.length/\x=.string t3/\y=.int .i64 k3/\t3=⟨(Y1++Bq (c.terms.take k3)).toArray⟩/\w.grownBy w' none/\VRsAt 0 (.slice (some ⟨g,0,none⟩) rs.length cap) rs w'/\C3 166 N (.bool true) (.int .i64 c.kind) (.slice np c.terms.length e8) w'/\VTsAt 0 (.slice np c.terms.length e8) c.terms w') (fun _ y _=>c.terms.length-(intOf y).toNat)
      case atStart=>
       refine⟨0,_,AG _,rfl,rfl,?_,ax,je,jw,fC⟩;rw[Aa RT,Aa XY,<-Aa OB];simp only[FR,Bq,FH,BM];rw[Q4z,Q4x,Ef]
      case round=>
       clear ax je jw fC fh;obtain⟨k3,t3,hk3,rfl,rfl,jC,hg,bg,hC,cC⟩:=hrel;have dC:=hC.c.2.2;by_cases hlt3:k3<c.terms.length
       ·have x9:decide (k3<c.terms.length)=true:=by simpa using hlt3
        obtain⟨tm,j0⟩:∃tm,c.terms[k3]?=some tm:=⟨c.terms[k3],AB hlt3⟩
        have mo:=AV j0;obtain⟨aS,hv2⟩:=ub tm mo;have wG:=LW tm mo;have nA:=Fv c.terms k3 tm j0;have qT:=Fb c.terms (k3+1);have hl3:t3.size=Y1.length+(Bq (c.terms.take k3)).length:=by rw[jC,Cx,AK]
        have hl4:(Bq (c.terms.take (k3+1))).length=(Bq (c.terms.take k3)).length+1+(Bv tm).length:=by
         rw[nA,AK,AP,JO (Bv tm).length 1,Nat.add_assoc]
        have aR:(Bv tm).length<=8000:=by omega
        have yF:t3.size<=8000:=by omega
        obtain⟨g3,aI,hv3,r0,r1,r2⟩:=cC.cells j0;simp only[AH,BP] at hv3;obtain⟨rfl,rfl⟩:=hv3;have nr:=Ac nA;have rY:=Ac jC;clear nA jC j0 mo qT hl3 hl4;have cV:=AA wr (.cells #[.int .u8 tm.letter.toNat,.int .i64 tm.value,.bool (tm.sort==0)] 169) none;rcases wG with h0|⟨h0,h1⟩|⟨h0,h1⟩
        ·have hpl:Bv tm=[95]:=by unfold Bv;rw[AQ h0]
         have hb0:(tm.sort==0)=true:=by rw[h0];rfl
         rw[hb0] at r2 cV;have rh:=Ac hpl;clear hpl h0 hb0 aR;go_wp2;go_roundw
         case rel=>
          refine⟨k3+1,_,by omega,rfl,by go_num,?_,Ab hg cV,bg.none cV,hC.kept cV (by simp),cC.none cV⟩;rw[Aa nr,Aa rh,Aa rY,<-BQ];exact Ef _ _
         case measure=>simp[intOf];omega
        ·have hpl:Bv tm=[tm.letter]:=by unfold Bv;rw[AO (by omega),AQ h0]
         have hb0:(tm.sort==0)=false:=by rw[h0];rfl
         rw[hb0] at r2 cV;have ow:decide ((0:Int)<(tm.letter.toNat:Int))=true:=by simp;omega
         have rh:=Ac hpl;have hcv:=Jn (wr.alloc (.cells #[.int .u8 tm.letter.toNat,.int .i64 tm.value,.bool false] 169)) tm.letter;rw[EO] at hcv;clear hpl h0 hb0 aR;go_wp2;go_roundw
         case rel=>
          have dY:=Ab cV (AA _ (.cells #[.int .u8 tm.letter.toNat] 5) none);refine⟨k3+1,_,by omega,rfl,by go_num,?_,Ab hg dY,bg.none dY,hC.kept dY (by simp),cC.none dY⟩;rw[Aa nr,Aa rh,Aa rY,<-BQ];exact ba3 _ [32] [tm.letter]
         case measure=>simp[intOf];omega
        ·have hpl:Bv tm=Lib.itoa tm.value:=by unfold Bv;rw[AO (by omega),AO (by omega),AQ h0]
         have hb0:(tm.sort==0)=false:=by rw[h0];rfl
         rw[hb0] at r2 cV;rw[h1] at r0 cV;rw[hpl] at aR;have rh:=Ac hpl;clear hpl h0 hb0;go_wp2_with fail;refine(Jl tm.value (by omega) (by omega) _).mono ?_;rintro e w4⟨rfl,hg4⟩;have dY:=Ab cV hg4;obtain⟨dv,pR⟩:∃dv:ByteArray,dv=⟨(Lib.itoa tm.value).toArray⟩:=⟨_,rfl⟩
         rw[<-pR];have UZ:dv.size<=8000:=by rw[pR,Cx];exact aR
         have XX:=Ac pR;clear pR;go_wp2;go_roundw
         case rel=>
          refine⟨k3+1,_,by omega,rfl,by go_num,?_,Ab hg dY,bg.none dY,hC.kept dY (by simp),cC.none dY⟩;rw[Aa nr,Aa rh,Aa rY,Aa XX,<-BQ];exact ba3 _ [32] (Lib.itoa tm.value)
         case measure=>simp[intOf];omega
       ·obtain rfl:k3=c.terms.length:=by omega
        have x9:decide (c.terms.length<c.terms.length)=false:=by simp
        rw[CX] at jC;have hl3:t3.size<=8000:=by rw[jC,Cx,AK];omega
        have rY:=Ac jC;clear jC hlt3;go_wp2;go_roundw
        case rel=>
         refine⟨k2+1,_,by omega,rfl,by go_num,?_,hg,bg⟩;rw[Aa OL,Aa RV,aJ,Aa rY,<-Aa OB];refine(Ef _ _).trans ?_;simp only[BQ,if_true]
        case measure=>simp[intOf];omega
    ·obtain rfl:k2=q.conds.length:=by omega
     have bm:decide (q.conds.length<q.conds.length)=false:=by simp
     rw[CX] at gU;have RT:=Ac gU
     have fh:t2.size<=8000:=by
      rw[gU,Cx];simp only[AK,BC];omega
     clear gU hlt2;go_wp2;go_roundw
     case rel=>
      refine⟨k+1,_,by omega,rfl,by go_num,?_,hg,bg⟩;rw[Aa pJ,Aa HPR,Aa RT];refine(Ef _ _).trans ?_;simp only[BQ]
     case measure=>simp[intOf];omega
  ·obtain rfl:k=rs.length:=by omega
   have hd:decide (rs.length<rs.length)=false:=by simp
   rw[CX] at ht;have HT:=Ac ht;clear ht hlt;go_wp2
   go_ret3
   exact⟨by rw[show Jb rs=rs.flatMap Cn from rfl,<-Aa HT];rfl,hg⟩
end Go.Proofs.YtolhbeekfjnfmaaGreatDoor

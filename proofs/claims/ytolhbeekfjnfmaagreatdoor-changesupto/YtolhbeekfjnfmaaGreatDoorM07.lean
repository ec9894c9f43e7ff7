import Derived.Laws.IdiomStrings
import Derived.Test.YtolhbeekfjnfmaaGreatDoorM06
set_option maxHeartbeats 8000000
set_option maxRecDepth 100000
namespace Go.Proofs.YtolhbeekfjnfmaaGreatDoor
open Go.RowKit
variable {w w' w4:World}{base N b k C kd i:Nat}{ts:List Sv.Term}{T:TypeId}{a c v':Value}{s:ByteArray}{bd nt v:Bool}
theorem Jp(w:World)(c:UInt8):Sem.run Tryz.prog (convert 123 9 (.slice (some ⟨w.heap.size,0,none⟩) 1 1)) (w.alloc (.cells #[.int .u8 c.toNat] 5))=.ok (.string ⟨#[c]⟩) (w.alloc (.cells #[.int .u8 c.toNat] 5)):=by
 have h:=run_convert_bytes_back (P:=Tryz.prog) (w.alloc (.cells #[.int .u8 c.toNat] 5)) 123 9 5 ⟨w.heap.size,0,none⟩ 1 [c] Tryz.underlying123 Tryz.underlying5 Tryz.underlying9 (by
  intro j hj;obtain rfl:j=0:=by simp at hj;omega
  simp[Addr.add])
 exact h
theorem Xb(w:World)(n:Nat)(c:UInt8):Sem.run Tryz.prog (convert 123 9 (.slice (some ⟨w.heap.size,0,none⟩) 1 1)) ((w.drewN n).alloc (.cells #[.int .u8 c.toNat] 5))=.ok (.string ⟨#[c]⟩) ((w.drewN n).alloc (.cells #[.int .u8 c.toNat] 5)):=Jp (w.drewN n) c
theorem Ps(l:List UInt8)(i k:Nat)(hik:i<=k)(hk:k<l.length):Do l i (k+1)=Do l i k++[Ai l k]:=by
 unfold Do;rw[CZ,AB hk,List.drop_append_of_le_length (by simp;omega),Hi l k hk];rfl
theorem Eb(a b:List UInt8):(⟨a.toArray⟩:ByteArray)++⟨b.toArray⟩=⟨(a++b).toArray⟩:=by
 apply ByteArray.ext
 simp
theorem R9(t:ByteArray)(h:0<t.size):t.toList.isEmpty=false:=by
 rw[Lib.toList_data,List.isEmpty_eq_false_iff];intro e;have:=BJ List.length e;rw[Ae,CE] at this;omega
theorem Q0l(b:Nat)(s:ByteArray)(i:Nat)(w:World)(hi:i<=s.size)(hs:s.size<=400)(h:Aq 8 s.data.toList i=i)(hb:VAt b s i false w) :
  Calls Tryz.prog 149 #[.pointer (some ⟨b,0,none⟩)] w fun e w'=>e=.returned (.string ⟨#[]⟩)/\VAt b s i true w'/\w.grownBy w' (some b):=by
 have hl:=Ke _ _ h;clear h;have f2:=hb.fz 2;have c2:=hb.c2;go_enter Tryz.func149,Tryz.ntmps149;go_wp2;go_loopw [3] (fun x w'=>x=.string ⟨#[]⟩/\w'=w) (fun _ _=>0)
 case atStart=>exact⟨rfl,rfl⟩
 case round=>
  obtain⟨rfl,rfl⟩:=hrel
  go_wp2_with (first|(go_at_call 148;refine(Ba b s i _ hi hs hb).mono ?_;rintro e w1⟨rfl,n,rfl⟩)|(go_at_call 176;refine(Ct _ _).mono ?_;rintro e w3⟨rfl,rfl⟩))
  go_ret;exact⟨rfl,VAt.set2 (hb.drewN n) _,Ab (Af wr n _) (Aj _ b 2 _)⟩
theorem Ya(b:Nat)(s:ByteArray)(i:Nat)(w:World)(hi:i<=s.size)(hs:s.size<=400)(h:Aq 8 s.data.toList i≠i)(hb:VAt b s i false w) :
  Calls Tryz.prog 149 #[.pointer (some ⟨b,0,none⟩)] w fun e w'=>e=.returned (.string ⟨(Do s.data.toList i (Aq 8 s.data.toList i)).toArray⟩)/\VAt b s (Aq 8 s.data.toList i) false w'/\w.grownBy w' (some b):=by
 have hnl:=Dc 8 s.data.toList i (by simpa using hi);rw[Ae] at hnl;obtain⟨dF,fT,SY⟩:=hnl;obtain⟨j,hj⟩:∃j,Aq 8 s.data.toList i=j:=⟨_,rfl⟩
 rw[hj] at h dF fT SY⊢;have HJ:Hid (Aq 8 s.data.toList i=j):=hj;clear hj;go_enter Tryz.func149,Tryz.ntmps149;go_wp2;go_loopw [3] (fun x w'=>∃(k m:Nat) (t:ByteArray),k+m=i+8/\k<=s.size/\i<=k/\x=.string t/\t=⟨(Do s.data.toList i k).toArray⟩/\t.size+i=k/\VAt b s k false w'/\w.grownBy w' (some b)/\Aq m s.data.toList k=j) (fun _ w'=>s.size-Eh b w')
 case atStart=>exact⟨i,8,⟨#[]⟩,rfl,hi,AW _,rfl,by simp[Do],by simp[ByteArray.size],hb,AD _ _,HJ.out⟩
 case round=>
  obtain⟨k,m,t,gI,hk,hik,rfl,ht,bm,aH,hg,bJ⟩:=hrel;have HT:Hid (t=⟨(Do s.data.toList i k).toArray⟩):=ht;have HN:Hid (Aq m s.data.toList k=j):=bJ;have HK:Hid (k+m=i+8):=gI;have HA:Hid (Eh b wr=k):=aH.at;clear bJ gI ht;have c1:=aH.c1;have f1:=aH.fz 1;cases hl:B9 (Ai s.data.toList k)
  ·obtain rfl:k=j:=by
    have:=HN.out;cases m with
    | zero=>exact this
    | succ m=>rw[Ek,hl] at this;exact this
   have e1:t.toList.isEmpty=false:=R9 t (by omega)
   go_wp2_with (first|(go_at_call 148;refine(Ba b s k _ hk hs aH).mono ?_;rintro e w1⟨rfl,n,rfl⟩)|(go_at_call 176;refine(Ct _ _).mono ?_;rintro e w3⟨rfl,rfl⟩))
   go_ret;exact⟨by rw[<-HT.out];rfl,aH,Ab hg (Af _ _ _)⟩
  ·have dM:=Dw _ _ hl
   rw[Ae] at dM;cases m with
   | zero=>
    obtain rfl:k=j:=HN.out;have zR:t.size=8:=by have:=HK.out;omega
    have e1:t.toList.isEmpty=false:=R9 t (by omega);have e2:((t.size:Int)==8)=true:=by simp;omega
    go_wp2_with (first|(go_at_call 148;refine(Ba b s k _ hk hs aH).mono ?_;rintro e w1⟨rfl,n,rfl⟩)|(go_at_call 176;refine(Ct _ _).mono ?_;rintro e w3⟨rfl,rfl⟩))
    go_ret;exact⟨by rw[<-HT.out];rfl,aH,Ab hg (Af _ _ _)⟩
   | succ m=>
    have zR:t.size<8:=by have:=HK.out;omega
    have e2:((t.size:Int)==8)=false:=by simp;omega
    have hcv:=fun n=>Xb wr n (Ai s.data.toList k)
    have hlt:=aH.lt;have c1':=fun n o=>((aH.drewN n).kept (AA (wr.drewN n) o none) (by simp)).c1
    have QL:=fun n o=>((aH.drewN n).kept (AA (wr.drewN n) o none) (by simp)).fz 1
    go_wp2_with (first|(go_at_call 148;refine(Ba b s k _ hk hs aH).mono ?_;rintro e w1⟨rfl,n,rfl⟩)|(go_at_call 176;refine(Ct _ _).mono ?_;rintro e w3⟨rfl,rfl⟩))
    refine⟨⟨k+1,m,_,by have:=HK.out;omega,by omega,by omega,rfl,?_,?_,((aH.drewN n).kept (AA (wr.drewN n) _ none) (by simp)).set1 (k+1),Ab hg (Ab (Ab (Af wr n _) (AA _ _ _)) (Aj _ b 1 _)),by have:=HN.out;rw[Ek,hl] at this;exact this⟩,?_⟩
    ·rw[HT.out,Ps _ _ _ hik (by simpa using dM)]
     exact Eb _ _
    ·rw[ByteArray.size_append]
     show t.size+1+i=k+1
     omega
    ·have h2:=(((aH.drewN n).kept (AA (wr.drewN n) (Obj.cells #[Value.int IntKind.u8 ↑(Ai s.data.toList k).toNat] 5) none) (by simp)).set1 (k+1)).at
     rw[HA.out];have h3:((k+1:Nat):Int)=(k:Int)+1:=by omega
     rw[h3] at h2;rw[h2];omega
def Yo(b:Nat)(s:ByteArray)(w:World)(r:Nat ⊕ (Sv.Term×Nat))(e:Ending)(w':World):Prop:=
 match r with
 | .inl k=>∃z,e=.returned (.int .i64 z)/\VAt b s k true w'/\w.grownBy w' (some b)
 | .inr (t,j)=>e=.returned (.int .i64 t.value)/\VAt b s j false w'/\w.grownBy w' (some b)
theorem Qs(b:Nat)(s:ByteArray)(i:Nat)(w:World)(hi:i<=s.size)(hs:s.size<=400)(hm:(Ai s.data.toList i==45)=true)(h:(A3 9 s.data.toList 0 (i+1)).2=i+1)(hb:VAt b s i false w) :
  Calls Tryz.prog 178 #[.pointer (some ⟨b,0,none⟩)] w fun e w'=>∃z,e=.returned (.int .i64 z)/\VAt b s (i+1) true w'/\w.grownBy w' (some b):=by
 have hl:=Fi _ _ h;clear h;have l9:=Ap _ _ 45 (by decide) hm;rw[Ae] at l9;have em:=(Jb (Ai s.data.toList i)).trans hm;clear hm;have c1:=hb.c1;have f1:=hb.fz 1;go_enter Tryz.func178,Tryz.ntmps178
 go_wp2_with (go_at_call 148;refine(Ba b s i _ hi hs hb).mono ?_;rintro e w1⟨rfl,n,rfl⟩)
 go_loopw [4,5] (fun x y w'=>x=.int .i64 0/\y=.int .i64 0/\VAt b s (i+1) false w'/\w.grownBy w' (some b)) (fun _ _ _=>0)
 case atStart=>exact⟨rfl,rfl,(hb.drewN n).set1 (i+1),Ab (Af w n _) (Aj _ b 1 _)⟩
 case round=>
  obtain⟨rfl,rfl,aH,hg⟩:=hrel;clear c1 f1;have f2:=aH.fz 2;have c2:=aH.c2
  go_wp2_with (first|(go_at_call 148;refine(Ba b s (i+1) _ l9 hs aH).mono ?_;rintro e w1⟨rfl,n2,rfl⟩)|(go_at_call 177;refine(B8 _ _).mono ?_;rintro e w3⟨rfl,rfl⟩))
  go_ret;exact⟨_,rfl,(aH.drewN n2).set2 true,Ab hg (Ab (Af wr n2 _) (Aj _ b 2 _))⟩
theorem Pk(b:Nat)(s:ByteArray)(i:Nat)(w:World)(hi:i<=s.size)(hs:s.size<=400)(hm:(Ai s.data.toList i==45)=false)(rv rk:Nat)(h:A3 9 s.data.toList 0 i=(rv,rk))(ll:rk≠i)(hb:VAt b s i false w) :
  Calls Tryz.prog 178 #[.pointer (some ⟨b,0,none⟩)] w fun e w'=>e=.returned (.int .i64 rv)/\VAt b s rk false w'/\w.grownBy w' (some b):=by
 have em:=(Jb (Ai s.data.toList i)).trans hm;have HR:Hid (A3 9 s.data.toList 0 i=(rv,rk)):=h;clear h hm;go_enter Tryz.func178,Tryz.ntmps178
 go_wp2_with (go_at_call 148;refine(Ba b s i _ hi hs hb).mono ?_;rintro e w1⟨rfl,n,rfl⟩)
 go_loopw [4,5] (fun x y w'=>∃q n acc:Nat,q+n=9/\i+q<=s.size/\(acc+1)*10 ^ n<=1000000000/\x=.int .i64 acc/\y=.int .i64 q/\VAt b s (i+q) false w'/\w.grownBy w' (some b)/\A3 n s.data.toList acc (i+q)=(rv,rk)) (fun _ _ w'=>s.size-Eh b w')
 case atStart=>exact⟨0,9,0,rfl,hi,by decide,rfl,rfl,hb.drewN n,Af _ _ _,HR.out⟩
 case round=>
  obtain⟨q,m,acc,gI,hk,aX,rfl,rfl,aH,hg,bJ⟩:=hrel;have HN:Hid (A3 m s.data.toList acc (i+q)=(rv,rk)):=bJ;have HK:Hid (q+m=9):=gI;have HC:Hid ((acc+1)*10 ^ m<=1000000000):=aX;have HA:Hid (Eh b wr=i+q):=aH.at;have qN:=Hh acc m aX;have hq9:q<=9:=by omega
  clear bJ gI aX;have c1:=aH.c1;have f1:=aH.fz 1;have qM:(0:Int)<=(acc:Int):=by omega
  have cS:(acc:Int)<1000000000:=by omega
  cases hl:As (Ai s.data.toList (i+q))
  ·obtain⟨rfl,rfl⟩:acc=rv/\i+q=rk:=by
    have:=HN.out;cases m with
    | zero=>simpa[A3] using this
    | succ m=>rw[Cf,hl] at this;simpa using this
   have e1:((q:Int)==0)=false:=by simp;omega
   go_wp2_with (first|(go_at_call 148;refine(Ba b s (i+q) _ hk hs aH).mono ?_;rintro e w1⟨rfl,n2,rfl⟩)|(go_at_call 177;refine(B8 _ _).mono ?_;rintro e w3⟨rfl,rfl⟩))
   go_ret;exact⟨rfl,aH,Ab hg (Af _ _ _)⟩
  ·have dM:=C5 _ _ hl
   rw[Ae] at dM;cases m with
   | zero=>
    obtain⟨rfl,rfl⟩:acc=rv/\i+q=rk:=by have:=HN.out;simpa[A3] using this
    have e1:((q:Int)==0)=false:=by simp;omega
    have e2:((q:Int)==9)=true:=by have:=HK.out;simp;omega
    go_wp2_with (first|(go_at_call 148;refine(Ba b s (i+q) _ hk hs aH).mono ?_;rintro e w1⟨rfl,n2,rfl⟩)|(go_at_call 177;refine(B8 _ _).mono ?_;rintro e w3⟨rfl,rfl⟩))
    go_ret;exact⟨rfl,aH,Ab hg (Af _ _ _)⟩
   | succ m=>
    have e2:((q:Int)==9)=false:=by have:=HK.out;simp;omega
    obtain⟨hr1,hr2⟩:=Ml _ hl
    go_wp2_with (first|(go_at_call 148;refine(Ba b s (i+q) _ hk hs aH).mono ?_;rintro e w1⟨rfl,n2,rfl⟩)|(go_at_call 177;refine(B8 _ _).mono ?_;rintro e w3⟨rfl,rfl⟩))
    have aV:VAt b s (i+(q+1)) false ((wr.drewN n2).setCell ⟨b,1,none⟩ (.int .i64 ((i:Int)+(q:Int)+1))):=by
     have h0:=(aH.drewN n2).set1 (i+(q+1));rwa[show ((i+(q+1):Nat):Int)=(i:Int)+(q:Int)+1 from by omega] at h0
    refine⟨⟨q+1,m,acc*10+((Ai s.data.toList (i+q)).toNat-48),by have:=HK.out;omega,by omega,Jg _ _ _ HC.out (by have:=Cm _ hl;omega),L9 (by omega),L9 (by omega),aV,Ab hg (Ab (Af wr n2 _) (Aj _ b 1 _)),by have:=HN.out;rw[Cf,hl] at this;exact this⟩,?_⟩;rw[aV.at,HA.out];omega
theorem Pm(b:Nat)(s:ByteArray)(i:Nat)(w:World)(hi:i<=s.size)(hs:s.size<=400)(hm:(Ai s.data.toList i==45)=true)(rv rk:Nat)(h:A3 9 s.data.toList 0 (i+1)=(rv,rk))(ll:rk≠i+1)(hb:VAt b s i false w) :
  Calls Tryz.prog 178 #[.pointer (some ⟨b,0,none⟩)] w fun e w'=>e=.returned (.int .i64 (-(rv:Int)))/\VAt b s rk false w'/\w.grownBy w' (some b):=by
 have em:=(Jb (Ai s.data.toList i)).trans hm;have HR:Hid (A3 9 s.data.toList 0 (i+1)=(rv,rk)):=h;have l9:=Ap _ _ 45 (by decide) hm;rw[Ae] at l9;clear h hm;have c1:=hb.c1;have f1:=hb.fz 1;go_enter Tryz.func178,Tryz.ntmps178
 go_wp2_with (go_at_call 148;refine(Ba b s i _ hi hs hb).mono ?_;rintro e w1⟨rfl,n,rfl⟩)
 go_loopw [4,5] (fun x y w'=>∃q n acc:Nat,q+n=9/\i+1+q<=s.size/\(acc+1)*10 ^ n<=1000000000/\x=.int .i64 acc/\y=.int .i64 q/\VAt b s (i+1+q) false w'/\w.grownBy w' (some b)/\A3 n s.data.toList acc (i+1+q)=(rv,rk)) (fun _ _ w'=>s.size-Eh b w')
 case atStart=>exact⟨0,9,0,rfl,l9,by decide,rfl,rfl,(hb.drewN n).set1 (i+1),Ab (Af w n _) (Aj _ b 1 _),HR.out⟩
 case round=>
  obtain⟨q,m,acc,gI,hk,aX,rfl,rfl,aH,hg,bJ⟩:=hrel;have HN:Hid (A3 m s.data.toList acc (i+1+q)=(rv,rk)):=bJ;have HK:Hid (q+m=9):=gI;have HC:Hid ((acc+1)*10 ^ m<=1000000000):=aX;have HA:Hid (Eh b wr=i+1+q):=aH.at;have qN:=Hh acc m aX;have hq9:q<=9:=by omega
  clear bJ gI aX c1 f1;have c1:=aH.c1;have f1:=aH.fz 1;have qM:(0:Int)<=(acc:Int):=by omega
  have cS:(acc:Int)<1000000000:=by omega
  cases hl:As (Ai s.data.toList (i+1+q))
  ·obtain⟨rfl,rfl⟩:acc=rv/\i+1+q=rk:=by
    have:=HN.out;cases m with
    | zero=>simpa[A3] using this
    | succ m=>rw[Cf,hl] at this;simpa using this
   have e1:((q:Int)==0)=false:=by simp;omega
   go_wp2_with (first|(go_at_call 148;refine(Ba b s (i+1+q) _ hk hs aH).mono ?_;rintro e w1⟨rfl,n2,rfl⟩)|(go_at_call 177;refine(B8 _ _).mono ?_;rintro e w3⟨rfl,rfl⟩))
   go_ret;exact⟨rfl,aH,Ab hg (Af _ _ _)⟩
  ·have dM:=C5 _ _ hl
   rw[Ae] at dM;cases m with
   | zero=>
    obtain⟨rfl,rfl⟩:acc=rv/\i+1+q=rk:=by have:=HN.out;simpa[A3] using this
    have e1:((q:Int)==0)=false:=by simp;omega
    have e2:((q:Int)==9)=true:=by have:=HK.out;simp;omega
    go_wp2_with (first|(go_at_call 148;refine(Ba b s (i+1+q) _ hk hs aH).mono ?_;rintro e w1⟨rfl,n2,rfl⟩)|(go_at_call 177;refine(B8 _ _).mono ?_;rintro e w3⟨rfl,rfl⟩))
    go_ret;exact⟨rfl,aH,Ab hg (Af _ _ _)⟩
   | succ m=>
    have e2:((q:Int)==9)=false:=by have:=HK.out;simp;omega
    obtain⟨hr1,hr2⟩:=Ml _ hl
    go_wp2_with (first|(go_at_call 148;refine(Ba b s (i+1+q) _ hk hs aH).mono ?_;rintro e w1⟨rfl,n2,rfl⟩)|(go_at_call 177;refine(B8 _ _).mono ?_;rintro e w3⟨rfl,rfl⟩))
    have aV:VAt b s (i+1+(q+1)) false ((wr.drewN n2).setCell ⟨b,1,none⟩ (.int .i64 ((i:Int)+1+(q:Int)+1))):=by
     have h0:=(aH.drewN n2).set1 (i+1+(q+1));rwa[show ((i+1+(q+1):Nat):Int)=(i:Int)+1+(q:Int)+1 from by omega] at h0
    refine⟨⟨q+1,m,acc*10+((Ai s.data.toList (i+1+q)).toNat-48),by have:=HK.out;omega,by omega,Jg _ _ _ HC.out (by have:=Cm _ hl;omega),L9 (by omega),L9 (by omega),aV,Ab hg (Ab (Af wr n2 _) (Aj _ b 1 _)),by have:=HN.out;rw[Cf,hl] at this;exact this⟩,?_⟩;rw[aV.at,HA.out];omega
theorem Yb(b:Nat)(s:ByteArray)(i:Nat)(w:World)(hi:i<=s.size)(hs:s.size<=400)(hc:(Ai s.data.toList i==45)=false->As (Ai s.data.toList i)=true)(hb:VAt b s i false w) :
  Calls Tryz.prog 178 #[.pointer (some ⟨b,0,none⟩)] w fun e w'=>Yo b s w (Bj s.data.toList i) e w':=by
 unfold Bj;cases hm:Ai s.data.toList i==45
 ·simp only[BZ,if_false]
  have h:(A3 9 s.data.toList 0 i).2≠i:=fun h=>by
   have:=Fi _ _ h;rw[hc hm] at this;cases this
  rw[AO h];exact Pk b s i w hi hs hm _ _ rfl h hb
 ·simp only[if_true]
  by_cases h:(A3 9 s.data.toList 0 (i+1)).2=i+1
  ·rw[AQ h]
   exact Qs b s i w hi hs hm h hb
  ·rw[AO h]
   exact Pm b s i w hi hs hm _ _ rfl h hb
def Au(t:Sv.Term):List Value:=[.int .u8 t.letter.toNat,.int .i64 t.value,.bool (t.sort==0)]
def VTsAt(base:Nat)(u:Value)(ts:List Sv.Term)(w:World):Prop:=w.ownsRow base 169 3 u ts.length (ts.flatMap Au)
theorem VTsAt.slice{base:Nat}{u:Value}{ts:List Sv.Term}{w:World}(h:VTsAt base u ts w):∃ao cap,u=.slice ao ts.length cap:=by
 rcases h.2 with ⟨h1,h2⟩|⟨g,cap,cur,h1,_⟩
 ·exact⟨none,0,by rw[h2];exact h1⟩
 ·exact⟨_,_,h1⟩
theorem VTsAt.row{base':Nat}{e':TypeId}{v:Value}{row:Option Nat}(h:VTsAt base v ts w)(hg:w.grownBy w' row)(hr:RowOk base' e' row w)(hne:e'≠169):VTsAt base v ts w':=Fu h hg hr hne
theorem Tryz.infoVTerm:(Tryz.prog.info? 169).map (fun i=>(i.zero,i.size,i.bytes))=some (some (.agg #[.int .u8 0,.int .i64 0,.bool false]),3,24):=by kernel_rfl
theorem N3(l:List UInt8)(i:Nat)(h:i<Ag l i):Bf l (Ag l i)=false:=by
 have hb:∀j,i<=j->j<Ag l i->Di (Ai l j)=true:=by
  intro j h1 h2;unfold Ag at h2;have h3:j-i<((l.drop i).takeWhile Di).length:=by omega
  have h4:=JX.1 (List.all_takeWhile (l:=l.drop i) (p:=Di)) _ (FW h3)
  have h5:((l.drop i).takeWhile Di)[j-i]=Ai l j:=by
   have h6:=(JG Di (l:=l.drop i)).getElem h3;rw[h6]
   have h7:j<l.length:=by
    have:=(JG Di (l:=l.drop i)).length_le;rw[DJ] at this;omega
   rw[Hi l j h7,List.getElem_drop];congr 1
   omega
  rw[h5] at h4;exact h4
 have h1:=hb (Ag l i-1) (by omega) (by omega);unfold Bf
 have h2:As (Ai l (Ag l i-1))=false:=by
  cases hd:As (Ai l (Ag l i-1))
  ·rfl
  ·have h3:=Cm _ hd
   simp[Di] at h1;rcases h1 with h1|h1<;>rw[h1] at h3<;>simp at h3
 rw[h2,KG]
theorem C3.row{x y z:Value}{row:Option Nat}{e:TypeId}(h:C3 T N x y z w)(hg:w.grownBy w' row)(hr:RowOk base e row w)(he:e≠T):C3 T N x y z w':=by
 refine h.kept hg (fun e1=>?_);obtain⟨_,cur,fz,h2⟩:=hr N e1.symm;unfold C3 at h;rw[h] at h2;simp at h2;exact he h2.2.1.symm
theorem C3.drewN{T:TypeId}{N:Nat}{x y z:Value}{w:World}(h:C3 T N x y z w)(n:Nat):C3 T N x y z (w.drewN n):=h
theorem C3.put2{b:Value}(h:C3 T N a b c w)(x:Value):C3 T N a b x (w.setCell ⟨N,2,none⟩ x):=by
 unfold C3 at h⊢;rw[BB w N 2 _ _ x h];rfl
theorem C3.put1{b:Value}(h:C3 T N a b c w)(x:Value):C3 T N a x c (w.setCell ⟨N,1,none⟩ x):=by
 unfold C3 at h⊢;rw[BB w N 1 _ _ x h];rfl
theorem Ut(c d:UInt8)(h:B9 c=true)(hd:d.toNat<97):(c==d)=false:=by
 have:=Ie c h;rw[beq_eq_false_iff_ne];intro e;rw[e] at this;omega
theorem Sw(c:UInt8)(h:B9 c=true):As c=false:=by
 have:=Ie c h;cases hd:As c
 ·rfl
 ·have:=Cm c hd;omega
theorem Q37(c:UInt8):((c.toNat:Int)==41)=(c==41):=H8 c 41
theorem E6(w:World)(n:Nat)(C:Array Value)(T:TypeId)(j:Nat):((w.drewN n).alloc (.cells C T)).cell? ⟨w.heap.size,j,none⟩=C[j]?:=World.cell?_alloc_mark (w.drewN n) C T (0,0) j
theorem Gj{u:Value}(hb4:VAt b s k bd w4)(eF:C3 166 C (.bool nt) (.int .i64 kd) u w4)(lA:C3 166 w.heap.size (.bool false) (.int .i64 0) (.slice none 0 0) w4)(bO:VTsAt w.heap.size v' ts w4)(hg4:w.grownBy w4 (some b))(hR:w.heap.size<C)(hbR:b<w.heap.size) :
  VAt b s k bd (w4.setCell ⟨C,2,none⟩ v')/\C3 166 C (.bool nt) (.int .i64 kd) v' (w4.setCell ⟨C,2,none⟩ v')/\C3 166 w.heap.size (.bool false) (.int .i64 0) (.slice none 0 0) (w4.setCell ⟨C,2,none⟩ v')/\VTsAt w.heap.size v' ts (w4.setCell ⟨C,2,none⟩ v')/\w.grownBy (w4.setCell ⟨C,2,none⟩ v') (some b):=by
 have kC:=Aj w4 C 2 v';exact⟨hb4.kept kC (by simp;omega),eF.put2 v',lA.kept kC (by simp;omega),bO.row kC (RowOk.one eF (EK hR)) (by decide),Bi hg4 kC (EK hR)⟩
theorem Mo(j:Nat)(hb4:VAt b s k bd w4)(eF:C3 166 C (.bool nt) (.int .i64 kd) v' w4)(lA:C3 166 w.heap.size (.bool false) (.int .i64 0) (.slice none 0 0) w4)(bO:VTsAt w.heap.size v' ts w4)(hg4:w.grownBy w4 (some b))(hR:w.heap.size<C)(hbR:b<w.heap.size) :
  VAt b s j bd (w4.setCell ⟨b,1,none⟩ (.int .i64 j))/\C3 166 C (.bool nt) (.int .i64 kd) v' (w4.setCell ⟨b,1,none⟩ (.int .i64 j))/\C3 166 w.heap.size (.bool false) (.int .i64 0) (.slice none 0 0) (w4.setCell ⟨b,1,none⟩ (.int .i64 j))/\VTsAt w.heap.size v' ts (w4.setCell ⟨b,1,none⟩ (.int .i64 j))/\w.grownBy (w4.setCell ⟨b,1,none⟩ (.int .i64 j)) (some b):=by
 have kC:=Aj w4 b 1 (.int .i64 j);exact⟨hb4.set1 j,eF.kept kC (by simp;omega),lA.kept kC (by simp;omega),bO.row kC hb4.rowOk (by decide),Ab hg4 kC⟩
theorem Gk{acc:List Sv.Term}{t:Sv.Term}(_hg:w.grownBy w4 none\/True)(h:w4.ownsRow base 169 3 v' (acc.length+1) (acc.flatMap Au++Au t)):VTsAt base v' (acc++[t]) w4:=by
 unfold VTsAt;rw[AK,CO];simpa using h
theorem Gu(l:List UInt8)(k:Nat)(v:Bool)(h:As (Ai l k)=v):Bf l (k+1)=v:=by
 unfold Bf;rw[show k+1-1=k from rfl,h];simp
theorem Hc(b:Nat)(s:ByteArray)(i:Nat)(w:World)(hi:i<=s.size)(hs:s.size<=400)(hc:(Ai s.data.toList i==45)=false->As (Ai s.data.toList i)=true)(hb:VAt b s i false w) :
  Calls Tryz.prog 178 #[.pointer (some ⟨b,0,none⟩)] w fun e w'=>∃(z:Int) (j:Nat) (bd:Bool),e=.returned (.int .i64 z)/\VAt b s j bd w'/\w.grownBy w' (some b)/\Hid ((bd=true/\Bj s.data.toList i=.inl j)\/(bd=false/\Bj s.data.toList i=.inr (⟨2,0,z⟩,j))):=by
 refine(Yb b s i w hi hs hc hb).mono ?_;intro e w' hp;cases hr:Bj s.data.toList i with
 | inl k=>
  rw[hr] at hp;obtain⟨z,rfl,h1,h2⟩:=hp;exact⟨z,k,true,rfl,h1,h2,.inl ⟨rfl,rfl⟩⟩
 | inr q=>
  obtain⟨t,j⟩:=q;rw[hr] at hp;obtain⟨rfl,h1,h2⟩:=hp;have h3:=(Cn _ _ _ _ hr).1;exact⟨_,j,false,rfl,h1,h2,.inr ⟨rfl,by rw[<-h3]⟩⟩
def Q22(b:Nat)(s:ByteArray)(nt:Bool)(kd:Nat)(w:World)(r:Nat ⊕ (List Sv.Term×Nat))(e:Ending)(w':World):Prop:=
 match r with
 | .inl k=>∃(q:Int) (ao:Option Addr) (n cap:Nat),e=.returned (.agg #[.bool nt,.int .i64 q,.slice ao n cap])/\VAt b s k true w'/\w.grownBy w' (some b)
 | .inr (ts,j)=>∃u,e=.returned (.agg #[.bool nt,.int .i64 kd,u])/\VTsAt w.heap.size u ts w'/\VAt b s j false w'/\w.grownBy w' (some b)
def Q1k(b:Nat)(w:World):Bool:=match w.cell? ⟨b,2,none⟩ with|some (.bool q)=>q|_=>false
theorem VAt.bad(h:VAt b s i v w):Q1k b w=v:=by
 unfold Q1k;rw[h.c2]
def Q00(b n:Nat)(w:World):Nat:=if Q1k b w=true then 0 else n-Eh b w+1
theorem VAt.ms(h:VAt b s i v w)(n:Nat):Q00 b n w=if v=true then 0 else n-i+1:=by
 unfold Q00;rw[h.bad,h.at]
def Q21(b:Nat)(s:ByteArray)(nt:Bool)(kd:Nat)(R C:Nat)(w:World)(r:Nat ⊕ (List Sv.Term×Nat))(u7:Value)(w':World):Prop:=
 ∃(p:Nat) (u:Value) (bad:Bool),VAt b s p bad w'/\p<=s.size/\C3 166 C (.bool nt) (.int .i64 kd) u w'/\C3 166 R (.bool false) (.int .i64 0) (.slice none 0 0) w'/\w.grownBy w' (some b)/\
  ((bad=true/\r=.inl p/\∃ao n cap,u=.slice ao n cap)\/(bad=false/\∃(n:Nat) (acc:List Sv.Term),s.size<p+n/\acc.length<=p/\0<p/\u7=.bool (Bf s.data.toList p)/\VTsAt w.heap.size u acc w'/\Dr n s.data.toList acc p=r))
theorem X2(b:Nat)(s:ByteArray)(i:Nat)(nt:Bool)(w:World)(hi:i<=s.size)(hs:s.size<=400)(hb:VAt b s i false w)(h:(Ai s.data.toList i==40)=true)(h2:As (Ai s.data.toList (Ag s.data.toList (i+1)))=true)(r:Nat ⊕ (List Sv.Term×Nat))(hR:Cl s.data.toList (Ag s.data.toList (i+1)+1)=r)(kd:Nat)(tR:(Ai s.data.toList (Ag s.data.toList (i+1))).toNat-48=kd) :
  Calls Tryz.prog 151 #[.pointer (some ⟨b,0,none⟩),.bool nt] w fun e w'=>Q22 b s nt kd w r e w':=by
 obtain⟨i0,aq,hz0,hz1,hz2⟩:=info_parts Tryz.infoVTerm;obtain⟨k,hk⟩:∃k,Ag s.data.toList (i+1)=k:=⟨_,rfl⟩
 rw[hk] at h2 hR tR;have HK:=Ac hk;clear hk;have HR:=Ac hR;clear hR;have b7:=fun o=>hb.kept (AA w o none) (by simp)
 have cx:C3 166 w.heap.size (.bool false) (.int .i64 0) (.slice none 0 0) (w.alloc (.cells #[.bool false,.int .i64 0,.slice none 0 0] 166)):=AR _ _;have hlt:=hb.lt;have eH:=Ap _ _ 40 (by decide) h;rw[Ae] at eH;have jE:=C5 _ _ h2;rw[Ae] at jE;have ri:=Ml _ h2;go_enter Tryz.func151,Tryz.ntmps151;go_wp2_with fail;refine(Nz b s i 40 _ rfl _ hi hs h (b7 _)).mono ?_;rintro e w1⟨rfl,hb1,hg1⟩;go_wp2_with fail;refine(Fe b s (i+1) w1 eH hs hb1).mono ?_;rintro e w2⟨rfl,hb2,hg2⟩;have bb:=(cx.kept hg1 (by simp;omega)).kept hg2 (by simp;omega);have bM:=Ab (Ab (AA w _ (some b)) hg1) hg2;clear b7 hb1 hg1 hg2 cx;rw[Aa HK] at hb2;have a7:=AA w2 (.cells #[.bool nt,.int .i64 0,.slice none 0 0] 166) none;have rP:C3 166 w2.heap.size (.bool nt) (.int .i64 0) (.slice none 0 0) (w2.alloc (.cells #[.bool nt,.int .i64 0,.slice none 0 0] 166)):=AR _ _;have cR:=hb2.kept a7 (by simp);have jf:=bb.kept a7 (by simp);have eh:w.heap.size<w2.heap.size:=bb.lt;have kQ:b<w2.heap.size:=hb2.lt;have au:=Ab bM (A6 a7 (some b));clear a7 hb2 bb bM;go_wp2_with fail;refine(Ba b s k _ (by omega) hs cR).mono ?_;rintro e XR⟨rfl,n,rfl⟩;generalize w2.alloc (.cells #[.bool nt,.int .i64 0,.slice none 0 0] 166)=w3 at *;generalize w2.heap.size=C at *;obtain⟨d0,d1,d2⟩:=rP.c;have z0:=rP.fz 0;have z1:=rP.fz 1;have z2:=rP.fz 2;have bP:=fun n=>Aj (w3.drewN n) C 1 (.int .i64 (((Ai s.data.toList k).toNat:Int)-48))
 have kR:=fun n=>(cR.drewN n).kept (bP n) (by simp;omega)
 have c1:=fun n=>(kR n).c1
 have f1:=fun n=>(kR n).fz 1
 obtain⟨hr1,hr2⟩:=ri
 go_wp2_with (first|(go_at_call 148;refine(Ba b s k _ (by omega) hs (by first|exact cR|exact cR.drewN _)).mono ?_;rintro e w3⟨rfl,n2,rfl⟩)|(go_at_call 177;refine(B8 _ _).mono ?_;rintro e w3⟨rfl,rfl⟩))
 have vV:((Ai s.data.toList k).toNat:Int)-48=(kd:Int):=by omega
 go_loopw [7] (fun x w'=>Q21 b s nt kd w.heap.size C w r x w') (fun _ w'=>Q00 b s.size w')
 case atStart=>
  have hC2:=(rP.drewN (n+n2)).put1 (.int .i64 (((Ai s.data.toList k).toNat:Int)-48));have hg4:=Bi (Ab au (Af w3 (n+n2) _)) (bP (n+n2)) (EK eh);have bK:=(jf.drewN (n+n2)).kept (bP (n+n2)) (by simp;omega);have kk:=Aj ((w3.drewN (n+n2)).setCell ⟨C,1,none⟩ (.int .i64 (((Ai s.data.toList k).toNat:Int)-48))) b 1 (.int .i64 ((k:Int)+1));rw[vV] at hC2 hg4 bK kk⊢;have hb5:=(kR (n+n2)).set1 (k+1);rw[vV] at hb5;refine⟨k+1,.slice none 0 0,false,hb5,jE,hC2.kept kk (by simp;omega),bK.kept kk (by simp;omega),Ab hg4 kk,.inr ⟨rfl,s.data.toList.length+1,[],by simp;omega,AG _,by omega,?_,EJ _ _ _ _,Aa HR⟩⟩
  have:Bf s.data.toList (k+1)=true:=by
   unfold Bf;rw[show k+1-1=k from rfl,h2];simp
  rw[this]
 case round=>
  clear d0 d1 d2 z0 z1 z2 bP kR c1 f1 cR jf au rP hr1 hr2 tR vV;obtain⟨p,u,bad,aH,hp,hC,nQ,hg,kP⟩:=hrel
  have HM:Hid (Q00 b s.size wr=if bad=true then 0 else s.size-p+1):=by
   show Q00 b s.size wr=_
   unfold Q00;rw[aH.bad,aH.at]
  rcases kP with ⟨rfl,hr,ao,nn,cap,rfl⟩|⟨rfl,m,acc,hm,aX,vO,YS,bm,bJ⟩
  ·subst hr
   have c2:=aH.c2;obtain⟨d0,d1,d2⟩:=hC.c;obtain⟨q0,q1,q2⟩:=nQ.c;have z0:=nQ.fz 0;have z1:=nQ.fz 1;have z2:=nQ.fz 2;go_wp2;have k3:=Cg wr w.heap.size (.bool nt) (.int .i64 kd) (.slice ao nn cap);obtain⟨q0,q1,q2⟩:=(nQ.set3 (.bool nt) (.int .i64 kd) (.slice ao nn cap)).c;exact BO (v:=.agg #[.bool nt,.int .i64 kd,.slice ao nn cap]) (by simp[results,Tryz.results151,go_sem,q0,q1,q2]) rfl ⟨_,_,_,_,rfl,aH.kept k3 (by simp;omega),Bi hg k3 (AW _)⟩
  ·obtain⟨m,rfl⟩:∃m',m=m'+1:=⟨m-1,by omega⟩
   rw[Em] at bJ;have HN:=Ac bJ;clear bJ;have hle:=Be s.data.toList p (by simpa using hp);rw[Ae] at hle;have c1:=aH.c1;have c2:=aH.c2;obtain⟨ao,cap,rfl⟩:=bm.slice
   have hq:∃q x:Bool,u7=.bool q/\decide (p<Ag s.data.toList p)=x/\Hid ((if x=true then false else q)=Bf s.data.toList (Ag s.data.toList p)):=by
    refine⟨_,_,YS,rfl,?_⟩;by_cases hlt:p<Ag s.data.toList p
    ·rw[AQ (by simp;omega)]
     exact(N3 _ _ hlt).symm
    ·rw[AO (by simp;omega),show Ag s.data.toList p=p from by omega]
     rfl
   obtain⟨q,x,rfl,hx,HB⟩:=hq;clear YS;go_wp2_with fail;refine(Fe b s p _ hp hs (by first|exact aH|exact aH.drewN _)).mono ?_;rintro e w1⟨rfl,hb1,hg1⟩;have hC2:=hC.row hg1 aH.rowOk (by decide);have hR1:=nQ.row hg1 aH.rowOk (by decide);have jv:=bm.row hg1 aH.rowOk (by decide);have bC:=Ab hg hg1;clear hC nQ bm aH hg hg1 c1 c2;have ea:=Aa HN;have fQ:=Aa HB;clear HN HB;generalize Ag s.data.toList p=k2 at *;have HN:=Ac ea;have HB:=Ac fQ;clear ea fQ;obtain⟨lu,ai⟩:=hle;have c1:=hb1.c1;have f1:=hb1.fz 1;have f2:=hb1.fz 2;have c2:=hb1.c2;obtain⟨d0,d1,d2⟩:=hC2.c;obtain⟨q0,q1,q2⟩:=hR1.c;have z0:=hR1.fz 0;have z1:=hR1.fz 1;have z2:=hR1.fz 2;have y2:=hC2.fz 2;have hsz:=bC.size;cases qm:Ai s.data.toList k2==41
   ·have eb:Hid ((match A8 s.data.toList k2 with
     | .inl k=>.inl k
     | .inr (t,j)=>Dr m s.data.toList (acc++[t]) j)=r):=by
     have:=Aa HN;rw[qm,AO (by simp)] at this;exact this
    clear HN;have e41:=(Q37 (Ai s.data.toList k2)).trans qm;clear qm;have dJ:=fun n=>jv.row (Af w1 n none) (RowOk.none 0 0 _) (by decide)
    cases hl:B9 (Ai s.data.toList k2)
    ·cases sN:Ai s.data.toList k2==95
     ·have e95:=(Ue (Ai s.data.toList k2)).trans sN
      cases oM:Ai s.data.toList k2==45
      ·have e45:=(Jb (Ai s.data.toList k2)).trans oM
       cases hd:As (Ai s.data.toList k2)
       ·have ea:Hid (Sum.inl k2=r):=by
         have:=Aa eb
         rw[show A8 s.data.toList k2=.inl k2 from by
          unfold A8;rw[sN,AO (by simp),hl,AO (by simp),oM,hd];rfl] at this
         exact this
        clear eb;cases x
        all_goals
         go_wp2_with (first|(go_at_call 148;refine(Ba b s k2 _ ai hs hb1).mono ?_;rintro e w3⟨rfl,n4,rfl⟩)|(go_at_call 176;refine(Ct _ _).mono ?_;rintro e w3⟨rfl,rfl⟩)|(go_at_call 177;refine(B8 _ _).mono ?_;rintro e w3⟨rfl,rfl⟩))
         have hb5:=(hb1.drewN n4).set2 true;have kk:=Aj (w1.drewN n4) b 2 (.bool true);have oT:=Ac (hb5.ms s.size);go_roundw
         case rel=>exact⟨k2,_,true,hb5,ai,(hC2.drewN n4).kept kk (by simp;omega),(hR1.drewN n4).kept kk (by simp;omega),Ab (Ab bC (Af w1 n4 _)) kk,.inl ⟨rfl,(Aa ea).symm,_,_,_,rfl⟩⟩
         case measure=>refine DM (DR (Aa oT)) ?_;rw[HM.out];simp
       ·cases LK:Bf s.data.toList k2
        ·have HT:A8 s.data.toList k2=Bj s.data.toList k2:=by
          unfold A8;rw[sN,AO (by simp),hl,AO (by simp),oM,hd,LK];rfl
         have hc:(Ai s.data.toList k2==45)=false->As (Ai s.data.toList k2)=true:=fun _=>hd
         cases x
         ·obtain rfl:q=false:=by have:=Aa HB;rw[LK] at this;exact this
          go_wp2_with (first|(go_at_call 148;refine(Ba b s k2 _ ai hs hb1).mono ?_;rintro e w3⟨rfl,n4,rfl⟩)|(go_at_call 176;refine(Ct _ _).mono ?_;rintro e w3⟨rfl,rfl⟩)|(go_at_call 177;refine(B8 _ _).mono ?_;rintro e w3⟨rfl,rfl⟩))
          refine(Hc b s k2 _ ai hs hc (hb1.drewN n4)).mono ?_;rintro e w2⟨z,j,bd,rfl,hb2,hg2,HV⟩;have lX:w1.heap.size<=w2.heap.size:=hg2.size;have uR:=(hC2.drewN n4).row hg2 (hb1.drewN n4).rowOk (by decide);have b2:=uR.c.2.2;have by2:=uR.fz 2
          go_wp2_with (at_builtin;refine DG _ rfl _ _ 164 rfl w.heap.size 169 i0 (.agg #[.int .u8 0,.int .i64 0,.bool false]) 3 24 Tryz.underlying164 aq hz0 hz1 hz2 rfl (by decide) _ acc.length (acc.flatMap Au) rfl (((dJ n4).row hg2 (hb1.drewN n4).rowOk (by decide)).alloc _) ⟨w2.heap.size,0,none⟩ 1 1 (Au ⟨2,0,z⟩) rfl rfl ?c1 ?c2 ?c3 ?c4 ?c5 ?_)
          case c1=>
           intro jj u hu
           match jj,hu with
           | 0,hu=>simp[Au] at hu;subst hu;simp[Addr.add]
           | 1,hu=>simp[Au] at hu;subst hu;simp[Addr.add]
           | 2,hu=>simp[Au] at hu;subst hu;simp[Addr.add]
           | n+3,hu=>simp[Au] at hu
          case c2=>
           intro u hu;simp[Au] at hu;rcases hu with rfl|rfl|rfl<;>rfl
          case c3=>unfold maxLen;omega
          case c4=>omega
          case c5=>simp;omega
          intro v' w4 hown hgrow _;have hdr:=hb1.drewN n4;have a7:=AA w2 (.cells #[.int .u8 0,.int .i64 z,.bool false] 169) none;have pD:=(dJ n4).row hg2 hdr.rowOk (by decide);have hrow:=RowOk.of (pD.alloc (.cells #[.int .u8 0,.int .i64 z,.bool false] 169));have hb4:=(hb2.kept a7 (by simp)).row hgrow hrow (by decide);have eF:=(((hC2.drewN n4).row hg2 hdr.rowOk (by decide)).kept a7 (by simp)).row hgrow hrow (by decide);have lA:=(((hR1.drewN n4).row hg2 hdr.rowOk (by decide)).kept a7 (by simp)).row hgrow hrow (by decide);have hg4:=Fq (Ab (Ab (Ab bC (Af w1 n4 _)) hg2) (A6 a7 (some b))) hgrow hrow;have bO:VTsAt w.heap.size v' (acc++[⟨2,0,z⟩]) w4:=Gk (w:=w4) (.inr trivial) hown;obtain⟨QQ,dZ,hv⟩:=bO.slice;rw[AK,BC] at hv;subst hv;obtain⟨hb5,jg,mX,dK,aY⟩:=Gj hb4 eF lA bO hg4 eh hlt;clear c1 f1 f2 c2 d0 d1 d2 q0 q1 q2 z0 z1 z2 y2 hown hgrow a7 hrow;have a2:=eF.c.2.2;have ay:=eF.fz 2;have oT:=Ac (hb5.ms s.size);go_wp2;go_roundw
          case rel=>
           rcases Aa HV with ⟨rfl,aS⟩|⟨rfl,aS⟩
           ·have h9:=Aa eb
            rw[HT,aS] at h9;have aK:=B3 s.data.toList k2 (by simpa using ai);rw[aS] at aK;have b6:j<=s.size:=by have h8:j<=s.data.toList.length:=aK;rwa[Ae] at h8
            exact⟨j,_,true,hb5,b6,jg,mX,aY,.inl ⟨rfl,h9.symm,_,_,_,rfl⟩⟩
           ·have h9:=Aa eb
            rw[HT,aS] at h9;have aK:=B3 s.data.toList k2 (by simpa using ai);rw[aS] at aK;obtain⟨fq,b6⟩:k2<j/\j<=s.data.toList.length:=aK;rw[Ae] at b6;have dV:=(Cn _ _ _ _ aS).2;exact⟨j,_,false,hb5,b6,jg,mX,aY,.inr ⟨rfl,m,acc++[⟨2,0,z⟩],by omega,by simp;omega,by omega,by rw[show Bf s.data.toList j=true from by unfold Bf;rw[dV];simp;omega],dK,h9⟩⟩
          case measure=>
           refine DM (DR (Aa oT)) ?_;rw[HM.out];rcases Aa HV with ⟨rfl,aS⟩|⟨rfl,aS⟩
           ·simp
           ·have aK:=B3 s.data.toList k2 (by simpa using ai)
            rw[aS] at aK;obtain⟨fq,b6⟩:k2<j/\j<=s.data.toList.length:=aK;rw[Ae] at b6;simp;omega
         ·skip
          go_wp2_with (first|(go_at_call 148;refine(Ba b s k2 _ ai hs hb1).mono ?_;rintro e w3⟨rfl,n4,rfl⟩)|(go_at_call 176;refine(Ct _ _).mono ?_;rintro e w3⟨rfl,rfl⟩)|(go_at_call 177;refine(B8 _ _).mono ?_;rintro e w3⟨rfl,rfl⟩))
          refine(Hc b s k2 _ ai hs hc (hb1.drewN n4)).mono ?_;rintro e w2⟨z,j,bd,rfl,hb2,hg2,HV⟩;have lX:w1.heap.size<=w2.heap.size:=hg2.size;have uR:=(hC2.drewN n4).row hg2 (hb1.drewN n4).rowOk (by decide);have b2:=uR.c.2.2;have by2:=uR.fz 2
          go_wp2_with (at_builtin;refine DG _ rfl _ _ 164 rfl w.heap.size 169 i0 (.agg #[.int .u8 0,.int .i64 0,.bool false]) 3 24 Tryz.underlying164 aq hz0 hz1 hz2 rfl (by decide) _ acc.length (acc.flatMap Au) rfl (((dJ n4).row hg2 (hb1.drewN n4).rowOk (by decide)).alloc _) ⟨w2.heap.size,0,none⟩ 1 1 (Au ⟨2,0,z⟩) rfl rfl ?c1 ?c2 ?c3 ?c4 ?c5 ?_)
          case c1=>
           intro jj u hu
           match jj,hu with
           | 0,hu=>simp[Au] at hu;subst hu;simp[Addr.add]
           | 1,hu=>simp[Au] at hu;subst hu;simp[Addr.add]
           | 2,hu=>simp[Au] at hu;subst hu;simp[Addr.add]
           | n+3,hu=>simp[Au] at hu
          case c2=>
           intro u hu;simp[Au] at hu;rcases hu with rfl|rfl|rfl<;>rfl
          case c3=>unfold maxLen;omega
          case c4=>omega
          case c5=>simp;omega
          intro v' w4 hown hgrow _;have hdr:=hb1.drewN n4;have a7:=AA w2 (.cells #[.int .u8 0,.int .i64 z,.bool false] 169) none;have pD:=(dJ n4).row hg2 hdr.rowOk (by decide);have hrow:=RowOk.of (pD.alloc (.cells #[.int .u8 0,.int .i64 z,.bool false] 169));have hb4:=(hb2.kept a7 (by simp)).row hgrow hrow (by decide);have eF:=(((hC2.drewN n4).row hg2 hdr.rowOk (by decide)).kept a7 (by simp)).row hgrow hrow (by decide);have lA:=(((hR1.drewN n4).row hg2 hdr.rowOk (by decide)).kept a7 (by simp)).row hgrow hrow (by decide);have hg4:=Fq (Ab (Ab (Ab bC (Af w1 n4 _)) hg2) (A6 a7 (some b))) hgrow hrow;have bO:VTsAt w.heap.size v' (acc++[⟨2,0,z⟩]) w4:=Gk (w:=w4) (.inr trivial) hown;obtain⟨QQ,dZ,hv⟩:=bO.slice;rw[AK,BC] at hv;subst hv;obtain⟨hb5,jg,mX,dK,aY⟩:=Gj hb4 eF lA bO hg4 eh hlt;clear c1 f1 f2 c2 d0 d1 d2 q0 q1 q2 z0 z1 z2 y2 hown hgrow a7 hrow;have a2:=eF.c.2.2;have ay:=eF.fz 2;have oT:=Ac (hb5.ms s.size);go_wp2;go_roundw
          case rel=>
           rcases Aa HV with ⟨rfl,aS⟩|⟨rfl,aS⟩
           ·have h9:=Aa eb
            rw[HT,aS] at h9;have aK:=B3 s.data.toList k2 (by simpa using ai);rw[aS] at aK;have b6:j<=s.size:=by have h8:j<=s.data.toList.length:=aK;rwa[Ae] at h8
            exact⟨j,_,true,hb5,b6,jg,mX,aY,.inl ⟨rfl,h9.symm,_,_,_,rfl⟩⟩
           ·have h9:=Aa eb
            rw[HT,aS] at h9;have aK:=B3 s.data.toList k2 (by simpa using ai);rw[aS] at aK;obtain⟨fq,b6⟩:k2<j/\j<=s.data.toList.length:=aK;rw[Ae] at b6;have dV:=(Cn _ _ _ _ aS).2;exact⟨j,_,false,hb5,b6,jg,mX,aY,.inr ⟨rfl,m,acc++[⟨2,0,z⟩],by omega,by simp;omega,by omega,by rw[show Bf s.data.toList j=true from by unfold Bf;rw[dV];simp;omega],dK,h9⟩⟩
          case measure=>
           refine DM (DR (Aa oT)) ?_;rw[HM.out];rcases Aa HV with ⟨rfl,aS⟩|⟨rfl,aS⟩
           ·simp
           ·have aK:=B3 s.data.toList k2 (by simpa using ai)
            rw[aS] at aK;obtain⟨fq,b6⟩:k2<j/\j<=s.data.toList.length:=aK;rw[Ae] at b6;simp;omega
        ·have ea:Hid (Sum.inl k2=r):=by
          have:=Aa eb
          rw[show A8 s.data.toList k2=.inl k2 from by
           unfold A8;rw[sN,AO (by simp),hl,AO (by simp),oM,hd,LK];rfl] at this
          exact this
         clear eb;cases x
         ·obtain rfl:q=true:=by have:=Aa HB;rw[LK] at this;exact this
          go_wp2_with (first|(go_at_call 148;refine(Ba b s k2 _ ai hs hb1).mono ?_;rintro e w3⟨rfl,n4,rfl⟩)|(go_at_call 176;refine(Ct _ _).mono ?_;rintro e w3⟨rfl,rfl⟩)|(go_at_call 177;refine(B8 _ _).mono ?_;rintro e w3⟨rfl,rfl⟩))
          have hb5:=(hb1.drewN n4).set2 true;have kk:=Aj (w1.drewN n4) b 2 (.bool true);have oT:=Ac (hb5.ms s.size);go_roundw
          case rel=>exact⟨k2,_,true,hb5,ai,(hC2.drewN n4).kept kk (by simp;omega),(hR1.drewN n4).kept kk (by simp;omega),Ab (Ab bC (Af w1 n4 _)) kk,.inl ⟨rfl,(Aa ea).symm,_,_,_,rfl⟩⟩
          case measure=>refine DM (DR (Aa oT)) ?_;rw[HM.out];simp
         ·exfalso;have:=Aa HB;rw[LK] at this;cases this
      ·have HT:A8 s.data.toList k2=Bj s.data.toList k2:=by
        unfold A8;rw[sN,AO (by simp),hl,AO (by simp),oM];rfl
       have e45:=(Jb (Ai s.data.toList k2)).trans oM;have hc:(Ai s.data.toList k2==45)=false->As (Ai s.data.toList k2)=true:=fun h=>by rw[oM] at h;cases h
       cases x
       all_goals
        skip
        go_wp2_with (first|(go_at_call 148;refine(Ba b s k2 _ ai hs hb1).mono ?_;rintro e w3⟨rfl,n4,rfl⟩)|(go_at_call 176;refine(Ct _ _).mono ?_;rintro e w3⟨rfl,rfl⟩)|(go_at_call 177;refine(B8 _ _).mono ?_;rintro e w3⟨rfl,rfl⟩))
        refine(Hc b s k2 _ ai hs hc (hb1.drewN n4)).mono ?_;rintro e w2⟨z,j,bd,rfl,hb2,hg2,HV⟩;have lX:w1.heap.size<=w2.heap.size:=hg2.size;have uR:=(hC2.drewN n4).row hg2 (hb1.drewN n4).rowOk (by decide);have b2:=uR.c.2.2;have by2:=uR.fz 2
        go_wp2_with (at_builtin;refine DG _ rfl _ _ 164 rfl w.heap.size 169 i0 (.agg #[.int .u8 0,.int .i64 0,.bool false]) 3 24 Tryz.underlying164 aq hz0 hz1 hz2 rfl (by decide) _ acc.length (acc.flatMap Au) rfl (((dJ n4).row hg2 (hb1.drewN n4).rowOk (by decide)).alloc _) ⟨w2.heap.size,0,none⟩ 1 1 (Au ⟨2,0,z⟩) rfl rfl ?c1 ?c2 ?c3 ?c4 ?c5 ?_)
        case c1=>
         intro jj u hu
         match jj,hu with
         | 0,hu=>simp[Au] at hu;subst hu;simp[Addr.add]
         | 1,hu=>simp[Au] at hu;subst hu;simp[Addr.add]
         | 2,hu=>simp[Au] at hu;subst hu;simp[Addr.add]
         | n+3,hu=>simp[Au] at hu
        case c2=>
         intro u hu;simp[Au] at hu;rcases hu with rfl|rfl|rfl<;>rfl
        case c3=>unfold maxLen;omega
        case c4=>omega
        case c5=>simp;omega
        intro v' w4 hown hgrow _;have hdr:=hb1.drewN n4;have a7:=AA w2 (.cells #[.int .u8 0,.int .i64 z,.bool false] 169) none;have pD:=(dJ n4).row hg2 hdr.rowOk (by decide);have hrow:=RowOk.of (pD.alloc (.cells #[.int .u8 0,.int .i64 z,.bool false] 169));have hb4:=(hb2.kept a7 (by simp)).row hgrow hrow (by decide);have eF:=(((hC2.drewN n4).row hg2 hdr.rowOk (by decide)).kept a7 (by simp)).row hgrow hrow (by decide);have lA:=(((hR1.drewN n4).row hg2 hdr.rowOk (by decide)).kept a7 (by simp)).row hgrow hrow (by decide);have hg4:=Fq (Ab (Ab (Ab bC (Af w1 n4 _)) hg2) (A6 a7 (some b))) hgrow hrow;have bO:VTsAt w.heap.size v' (acc++[⟨2,0,z⟩]) w4:=Gk (w:=w4) (.inr trivial) hown;obtain⟨QQ,dZ,hv⟩:=bO.slice;rw[AK,BC] at hv;subst hv;obtain⟨hb5,jg,mX,dK,aY⟩:=Gj hb4 eF lA bO hg4 eh hlt;clear c1 f1 f2 c2 d0 d1 d2 q0 q1 q2 z0 z1 z2 y2 hown hgrow a7 hrow;have a2:=eF.c.2.2;have ay:=eF.fz 2;have oT:=Ac (hb5.ms s.size);go_wp2;go_roundw
        case rel=>
         rcases Aa HV with ⟨rfl,aS⟩|⟨rfl,aS⟩
         ·have h9:=Aa eb
          rw[HT,aS] at h9;have aK:=B3 s.data.toList k2 (by simpa using ai);rw[aS] at aK;have b6:j<=s.size:=by have h8:j<=s.data.toList.length:=aK;rwa[Ae] at h8
          exact⟨j,_,true,hb5,b6,jg,mX,aY,.inl ⟨rfl,h9.symm,_,_,_,rfl⟩⟩
         ·have h9:=Aa eb
          rw[HT,aS] at h9;have aK:=B3 s.data.toList k2 (by simpa using ai);rw[aS] at aK;obtain⟨fq,b6⟩:k2<j/\j<=s.data.toList.length:=aK;rw[Ae] at b6;have dV:=(Cn _ _ _ _ aS).2;exact⟨j,_,false,hb5,b6,jg,mX,aY,.inr ⟨rfl,m,acc++[⟨2,0,z⟩],by omega,by simp;omega,by omega,by rw[show Bf s.data.toList j=true from by unfold Bf;rw[dV];simp;omega],dK,h9⟩⟩
        case measure=>
         refine DM (DR (Aa oT)) ?_;rw[HM.out];rcases Aa HV with ⟨rfl,aS⟩|⟨rfl,aS⟩
         ·simp
         ·have aK:=B3 s.data.toList k2 (by simpa using ai)
          rw[aS] at aK;obtain⟨fq,b6⟩:k2<j/\j<=s.data.toList.length:=aK;rw[Ae] at b6;simp;omega
     ·have ea:Hid (Dr m s.data.toList (acc++[⟨0,0,0⟩]) (k2+1)=r):=by
       have:=Aa eb;unfold A8 at this;rw[sN,AQ rfl] at this;exact this
      clear eb;have e95:=(Ue (Ai s.data.toList k2)).trans sN
      have UI:As (Ai s.data.toList k2)=false:=by
       rw[show Ai s.data.toList k2=95 from by simpa using sN];rfl
      have hk2:=Ap _ _ 95 (by decide) sN;rw[Ae] at hk2;cases x
      all_goals
       go_wp2_with (first|(go_at_call 148;refine(Ba b s k2 _ ai hs hb1).mono ?_;rintro e w3⟨rfl,n4,rfl⟩)|(go_at_call 176;refine(Ct _ _).mono ?_;rintro e w3⟨rfl,rfl⟩)|(go_at_call 177;refine(B8 _ _).mono ?_;rintro e w3⟨rfl,rfl⟩)|(at_builtin;refine DG _ rfl _ _ 164 rfl w.heap.size 169 i0 (.agg #[.int .u8 0,.int .i64 0,.bool false]) 3 24 Tryz.underlying164 aq hz0 hz1 hz2 rfl (by decide) _ acc.length (acc.flatMap Au) rfl ((dJ n4).alloc _) ⟨w1.heap.size,0,none⟩ 1 1 (Au ⟨0,0,0⟩) rfl rfl ?c1 ?c2 ?c3 ?c4 ?c5 ?_))
       case c1=>
        intro jj u hu
        match jj,hu with
        | 0,hu=>simp[Au] at hu;subst hu;exact(E6 w1 n4 _ _ 0).trans rfl
        | 1,hu=>simp[Au] at hu;subst hu;exact(E6 w1 n4 _ _ 1).trans rfl
        | 2,hu=>simp[Au] at hu;subst hu;exact(E6 w1 n4 _ _ 2).trans rfl
        | n+3,hu=>simp[Au] at hu
       case c2=>
        intro u hu;simp[Au] at hu;rcases hu with rfl|rfl|rfl<;>rfl
       case c3=>unfold maxLen;omega
       case c4=>omega
       case c5=>simp;omega
       intro v' w4 hown hgrow _;have a7:=Ab (Af w1 n4 none) (AA (w1.drewN n4) (.cells #[.int .u8 0,.int .i64 0,.bool true] 169) none);have hrow:=RowOk.of ((dJ n4).alloc (.cells #[.int .u8 0,.int .i64 0,.bool true] 169));have hb4:=(hb1.kept a7 (by simp)).row hgrow hrow (by decide);have eF:=(hC2.kept a7 (by simp)).row hgrow hrow (by decide);have lA:=(hR1.kept a7 (by simp)).row hgrow hrow (by decide);have hg4:=Fq (Ab bC (A6 a7 (some b))) hgrow hrow;have bO:VTsAt w.heap.size v' (acc++[⟨0,0,0⟩]) w4:=Gk (w:=w4) (.inr trivial) hown;obtain⟨QQ,dZ,hv⟩:=bO.slice;rw[AK,BC] at hv;subst hv;obtain⟨hb5,jg,mX,dK,aY⟩:=Gj hb4 eF lA bO hg4 eh hlt;clear c1 f1 f2 c2 d0 d1 d2 q0 q1 q2 z0 z1 z2 y2 hown hgrow a7 hrow;have a2:=eF.c.2.2;have ay:=eF.fz 2;have c1:=hb5.c1;have f1:=hb5.fz 1;obtain⟨fu,wZ,xm,iM,cX⟩:=Mo (k2+1) hb5 jg mX dK aY eh hlt;have oT:=Ac (fu.ms s.size);go_wp2;go_roundw
       case rel=>exact⟨k2+1,_,false,fu,by omega,wZ,xm,cX,.inr ⟨rfl,m,acc++[⟨0,0,0⟩],by omega,by simp;omega,by omega,by rw[Gu _ _ _ UI],iM,Aa ea⟩⟩
       case measure=>refine DM (DR (Aa oT)) ?_;rw[HM.out];simp;omega
    ·have ea:Hid (Dr m s.data.toList (acc++[⟨1,Ai s.data.toList k2,0⟩]) (k2+1)=r):=by
      have:=Aa eb;unfold A8 at this;rw[Ut _ 95 hl (by decide),AO (by simp),hl,AQ rfl] at this;exact this
     clear eb;have UI:=Sw _ hl;have hk2:=Dw _ _ hl;rw[Ae] at hk2;cases x
     all_goals
      go_wp2_with (first|(go_at_call 148;refine(Ba b s k2 _ ai hs hb1).mono ?_;rintro e w3⟨rfl,n4,rfl⟩)|(go_at_call 176;refine(Ct _ _).mono ?_;rintro e w3⟨rfl,rfl⟩)|(go_at_call 177;refine(B8 _ _).mono ?_;rintro e w3⟨rfl,rfl⟩)|(at_builtin;refine DG _ rfl _ _ 164 rfl w.heap.size 169 i0 (.agg #[.int .u8 0,.int .i64 0,.bool false]) 3 24 Tryz.underlying164 aq hz0 hz1 hz2 rfl (by decide) _ acc.length (acc.flatMap Au) rfl ((dJ n4).alloc _) ⟨w1.heap.size,0,none⟩ 1 1 (Au ⟨1,Ai s.data.toList k2,0⟩) rfl rfl ?c1 ?c2 ?c3 ?c4 ?c5 ?_))
      case c1=>
       intro jj u hu
       match jj,hu with
       | 0,hu=>simp[Au] at hu;subst hu;exact(E6 w1 n4 _ _ 0).trans rfl
       | 1,hu=>simp[Au] at hu;subst hu;exact(E6 w1 n4 _ _ 1).trans rfl
       | 2,hu=>simp[Au] at hu;subst hu;exact(E6 w1 n4 _ _ 2).trans rfl
       | n+3,hu=>simp[Au] at hu
      case c2=>
       intro u hu;simp[Au] at hu;rcases hu with rfl|rfl|rfl<;>rfl
      case c3=>unfold maxLen;omega
      case c4=>omega
      case c5=>simp;omega
      intro v' w4 hown hgrow _;have a7:=Ab (Af w1 n4 none) (AA (w1.drewN n4) (.cells #[.int .u8 (Ai s.data.toList k2).toNat,.int .i64 0,.bool false] 169) none);have hrow:=RowOk.of ((dJ n4).alloc (.cells #[.int .u8 (Ai s.data.toList k2).toNat,.int .i64 0,.bool false] 169));have hb4:=(hb1.kept a7 (by simp)).row hgrow hrow (by decide);have eF:=(hC2.kept a7 (by simp)).row hgrow hrow (by decide);have lA:=(hR1.kept a7 (by simp)).row hgrow hrow (by decide);have hg4:=Fq (Ab bC (A6 a7 (some b))) hgrow hrow;have bO:VTsAt w.heap.size v' (acc++[⟨1,Ai s.data.toList k2,0⟩]) w4:=Gk (w:=w4) (.inr trivial) hown;obtain⟨QQ,dZ,hv⟩:=bO.slice;rw[AK,BC] at hv;subst hv;obtain⟨hb5,jg,mX,dK,aY⟩:=Gj hb4 eF lA bO hg4 eh hlt;clear c1 f1 f2 c2 d0 d1 d2 q0 q1 q2 z0 z1 z2 y2 hown hgrow a7 hrow;have a2:=eF.c.2.2;have ay:=eF.fz 2;have c1:=hb5.c1;have f1:=hb5.fz 1;obtain⟨fu,wZ,xm,iM,cX⟩:=Mo (k2+1) hb5 jg mX dK aY eh hlt;have oT:=Ac (fu.ms s.size);go_wp2;go_roundw
      case rel=>exact⟨k2+1,_,false,fu,by omega,wZ,xm,cX,.inr ⟨rfl,m,acc++[⟨1,Ai s.data.toList k2,0⟩],by omega,by simp;omega,by omega,by rw[Gu _ _ _ UI],iM,Aa ea⟩⟩
      case measure=>refine DM (DR (Aa oT)) ?_;rw[HM.out];simp;omega
   ·have hr:Sum.inr (acc,k2+1)=r:=by have:=Aa HN;rwa[qm,AQ rfl] at this
    subst hr;have hk2:=Ap _ _ 41 (by decide) qm;rw[Ae] at hk2;have e41:=(Q37 (Ai s.data.toList k2)).trans qm;have hb2:=fun n=>(hb1.drewN n).set1 (k2+1)
    have kk:=fun n=>Aj (w1.drewN n) b 1 (.int .i64 ((k2:Int)+1))
    have jT:=fun n=>(hC2.drewN n).kept (kk n) (by simp;omega)
    have dY:=fun n=>(hR1.drewN n).kept (kk n) (by simp;omega)
    have e0:=fun n=>(jT n).c.1
    have e1:=fun n=>(jT n).c.2.1
    have e2:=fun n=>(jT n).c.2.2
    have g0:=fun n=>(dY n).c.1
    have g1:=fun n=>(dY n).c.2.1
    have g2:=fun n=>(dY n).c.2.2
    have y0:=fun n=>(dY n).fz 0
    have y1:=fun n=>(dY n).fz 1
    have y2:=fun n=>(dY n).fz 2
    cases x
    all_goals
     go_wp2_with (first|(go_at_call 148;refine(Ba b s k2 _ ai hs hb1).mono ?_;rintro e w3⟨rfl,n4,rfl⟩)|(go_at_call 176;refine(Ct _ _).mono ?_;rintro e w3⟨rfl,rfl⟩)|(go_at_call 177;refine(B8 _ _).mono ?_;rintro e w3⟨rfl,rfl⟩))
     obtain⟨g0,g1,g2⟩:=((dY n4).set3 (.bool nt) (.int .i64 kd) (.slice ao acc.length cap)).c;have k3:=Cg ((w1.drewN n4).setCell ⟨b,1,none⟩ (.int .i64 ((k2:Int)+1))) w.heap.size (.bool nt) (.int .i64 kd) (.slice ao acc.length cap);exact BO (v:=.agg #[.bool nt,.int .i64 kd,.slice ao acc.length cap]) (by simp[results,Tryz.results151,go_sem,g0,g1,g2]) rfl ⟨_,rfl,((jv.row (Af w1 n4 none) (RowOk.none 0 0 _) (by decide)).row (kk n4) (hb1.drewN n4).rowOk (by decide)).row k3 (RowOk.one (dY n4) (AW _)) (by decide),(hb2 n4).kept k3 (by simp;omega),Bi (Ab (Ab bC (Af w1 n4 _)) (kk n4)) k3 (AW _)⟩
theorem X0(b:Nat)(s:ByteArray)(i:Nat)(nt:Bool)(w:World)(hi:i<=s.size)(hs:s.size<=400)(hb:VAt b s i false w)(h:(Ai s.data.toList i==40)=false) :
  Calls Tryz.prog 151 #[.pointer (some ⟨b,0,none⟩),.bool nt] w fun e w'=>e=.returned (.agg #[.bool nt,.int .i64 0,.slice none 0 0])/\VAt b s i true w'/\w.grownBy w' (some b):=by
 have b7:=fun o=>hb.kept (AA w o none) (by simp)
 have cx:C3 166 w.heap.size (.bool false) (.int .i64 0) (.slice none 0 0) (w.alloc (.cells #[.bool false,.int .i64 0,.slice none 0 0] 166)):=AR _ _;have hlt:=hb.lt;go_enter Tryz.func151,Tryz.ntmps151;go_wp2_with fail;refine(Yc b s i 40 _ rfl _ hi hs h (b7 _)).mono ?_;rintro e w1⟨rfl,hb1,hg1⟩;go_wp2_with fail;refine(Lc b s i w1 hb1).mono ?_;rintro e w2⟨rfl,hb2,hg2⟩;have bb:=(cx.kept hg1 (by simp;omega)).kept hg2 (by simp;omega);have bM:=Ab (Ab (AA w _ (some b)) hg1) hg2;clear b7 hb1 hg1 hg2 cx;have a7:=AA w2 (.cells #[.bool nt,.int .i64 0,.slice none 0 0] 166) none;have rP:C3 166 w2.heap.size (.bool nt) (.int .i64 0) (.slice none 0 0) (w2.alloc (.cells #[.bool nt,.int .i64 0,.slice none 0 0] 166)):=AR _ _;have cR:=hb2.kept a7 (by simp);have jf:=bb.kept a7 (by simp);have eh:w.heap.size<w2.heap.size:=bb.lt;have kQ:b<w2.heap.size:=hb2.lt;have au:=Ab bM (A6 a7 (some b));clear a7 hb2 bb bM;go_wp2_with fail;refine(H9 b s i _ cR).mono ?_;rintro e XR⟨rfl,n,rfl⟩;generalize w2.alloc (.cells #[.bool nt,.int .i64 0,.slice none 0 0] 166)=w3 at *;generalize w2.heap.size=C at *;have hb4:=(cR.drewN n).set2 true;have kk:=Aj (w3.drewN n) b 2 (.bool true);have eF:=(rP.drewN n).kept kk (by simp;omega);have bK:=(jf.drewN n).kept kk (by simp;omega);obtain⟨d0,d1,d2⟩:=eF.c;obtain⟨q0,q1,q2⟩:=bK.c;have z0:=bK.fz 0;have z1:=bK.fz 1;have z2:=bK.fz 2;have c2:=cR.c2;have f2:=cR.fz 2
 go_wp2_with (go_at_call 177;refine(B8 0 _).mono ?_;rintro e w3⟨rfl,rfl⟩)
 have k3:=Cg ((w3.drewN n).setCell ⟨b,2,none⟩ (.bool true)) w.heap.size (.bool nt) (.int .i64 0) (.slice none 0 0);obtain⟨g0,g1,g2⟩:=(bK.set3 (.bool nt) (.int .i64 0) (.slice none 0 0)).c;exact BO (v:=.agg #[.bool nt,.int .i64 0,.slice none 0 0]) (by simp[results,Tryz.results151,go_sem,g0,g1,g2]) rfl ⟨rfl,hb4.kept k3 (by simp;omega),Bi (Ab (Ab au (Af w3 n _)) kk) k3 (AW _)⟩
theorem X1(b:Nat)(s:ByteArray)(i:Nat)(nt:Bool)(w:World)(hi:i<=s.size)(hs:s.size<=400)(hb:VAt b s i false w)(h:(Ai s.data.toList i==40)=true)(h2:As (Ai s.data.toList (Ag s.data.toList (i+1)))=false) :
  Calls Tryz.prog 151 #[.pointer (some ⟨b,0,none⟩),.bool nt] w fun e w'=>e=.returned (.agg #[.bool nt,.int .i64 0,.slice none 0 0])/\VAt b s (Ag s.data.toList (i+1)) true w'/\w.grownBy w' (some b):=by
 have b7:=fun o=>hb.kept (AA w o none) (by simp)
 have cx:C3 166 w.heap.size (.bool false) (.int .i64 0) (.slice none 0 0) (w.alloc (.cells #[.bool false,.int .i64 0,.slice none 0 0] 166)):=AR _ _;have hlt:=hb.lt;have eH:=Ap _ _ 40 (by decide) h;rw[Ae] at eH;have hle:=(Be s.data.toList (i+1) (by rw[Ae];exact eH)).2;rw[Ae] at hle;obtain⟨k,hk⟩:∃k,Ag s.data.toList (i+1)=k:=⟨_,rfl⟩
 rw[hk] at h2 hle⊢;have HK:=Ac hk;clear hk;go_enter Tryz.func151,Tryz.ntmps151;go_wp2_with fail;refine(Nz b s i 40 _ rfl _ hi hs h (b7 _)).mono ?_;rintro e w1⟨rfl,hb1,hg1⟩;go_wp2_with fail;refine(Fe b s (i+1) w1 eH hs hb1).mono ?_;rintro e w2⟨rfl,hb2,hg2⟩;have bb:=(cx.kept hg1 (by simp;omega)).kept hg2 (by simp;omega);have bM:=Ab (Ab (AA w _ (some b)) hg1) hg2;clear b7 hb1 hg1 hg2 cx;rw[Aa HK] at hb2;have a7:=AA w2 (.cells #[.bool nt,.int .i64 0,.slice none 0 0] 166) none;have rP:C3 166 w2.heap.size (.bool nt) (.int .i64 0) (.slice none 0 0) (w2.alloc (.cells #[.bool nt,.int .i64 0,.slice none 0 0] 166)):=AR _ _;have cR:=hb2.kept a7 (by simp);have jf:=bb.kept a7 (by simp);have eh:w.heap.size<w2.heap.size:=bb.lt;have kQ:b<w2.heap.size:=hb2.lt;have au:=Ab bM (A6 a7 (some b));clear a7 hb2 bb bM;go_wp2_with fail;refine(Ba b s k _ hle hs cR).mono ?_;rintro e XR⟨rfl,n,rfl⟩;generalize w2.alloc (.cells #[.bool nt,.int .i64 0,.slice none 0 0] 166)=w3 at *;generalize w2.heap.size=C at *;have hb4:=(cR.drewN n).set2 true;have kk:=Aj (w3.drewN n) b 2 (.bool true);have eF:=(rP.drewN n).kept kk (by simp;omega);have bK:=(jf.drewN n).kept kk (by simp;omega);obtain⟨d0,d1,d2⟩:=eF.c;obtain⟨q0,q1,q2⟩:=bK.c;have z0:=bK.fz 0;have z1:=bK.fz 1;have z2:=bK.fz 2;have c2:=cR.c2;have f2:=cR.fz 2
 go_wp2_with (go_at_call 177;refine(B8 _ _).mono ?_;rintro e w3⟨rfl,rfl⟩)
 have k3:=Cg ((w3.drewN n).setCell ⟨b,2,none⟩ (.bool true)) w.heap.size (.bool nt) (.int .i64 0) (.slice none 0 0);obtain⟨g0,g1,g2⟩:=(bK.set3 (.bool nt) (.int .i64 0) (.slice none 0 0)).c;exact BO (v:=.agg #[.bool nt,.int .i64 0,.slice none 0 0]) (by simp[results,Tryz.results151,go_sem,g0,g1,g2]) rfl ⟨rfl,hb4.kept k3 (by simp;omega),Bi (Ab (Ab au (Af w3 n _)) kk) k3 (AW _)⟩
theorem Xz(b:Nat)(s:ByteArray)(i:Nat)(nt:Bool)(w:World)(hi:i<=s.size)(hs:s.size<=400)(hsk:Ag s.data.toList i=i)(hb:VAt b s i false w) :
  Calls Tryz.prog 151 #[.pointer (some ⟨b,0,none⟩),.bool nt] w fun e w'=>∃(kd:Int) (ao:Option Addr) (n cap j:Nat) (bd:Bool),e=.returned (.agg #[.bool nt,.int .i64 kd,.slice ao n cap])/\VAt b s j bd w'/\w.grownBy w' (some b)/\
   Hid ((bd=true/\An s.data.toList i=.inl j)\/(bd=false/\∃(c:Sv.Cond),An s.data.toList i=.inr (c,j)/\(c.kind:Int)=kd/\VTsAt w.heap.size (.slice ao n cap) c.terms w')):=by
 cases h:Ai s.data.toList i==40
 ·refine(X0 b s i nt w hi hs hb h).mono ?_
  rintro e w'⟨rfl,h1,h2⟩;refine⟨0,none,0,0,i,true,rfl,h1,h2,.inl ⟨rfl,?_⟩⟩;unfold An;rw[hsk,h];rfl
 ·cases hd:As (Ai s.data.toList (Ag s.data.toList (i+1)))
  ·refine(X1 b s i nt w hi hs hb h hd).mono ?_
   rintro e w'⟨rfl,h1,h2⟩;refine⟨0,none,0,0,_,true,rfl,h1,h2,.inl ⟨rfl,?_⟩⟩;unfold An;simp only;rw[hsk,h,AQ rfl,hd];rfl
  ·refine(X2 b s i nt w hi hs hb h hd _ rfl _ rfl).mono ?_
   intro e w' hp
   have e1:An s.data.toList i=match Cl s.data.toList (Ag s.data.toList (i+1)+1) with
     | .inl m=>.inl m
     | .inr (ts,m)=>.inr (⟨false,(Ai s.data.toList (Ag s.data.toList (i+1))).toNat-48,ts⟩,m):=by
    unfold An;simp only;rw[hsk,h,AQ rfl,hd,AQ rfl];cases Cl s.data.toList (Ag s.data.toList (i+1)+1)<;>rfl
   cases hr:Cl s.data.toList (Ag s.data.toList (i+1)+1) with
   | inl k=>
    rw[hr] at hp e1;obtain⟨q,ao,n,cap,rfl,h1,h2⟩:=hp;exact⟨q,ao,n,cap,k,true,rfl,h1,h2,.inl ⟨rfl,e1⟩⟩
   | inr q=>
    obtain⟨ts,j⟩:=q;rw[hr] at hp e1;obtain⟨u,rfl,h1,h2,h3⟩:=hp;obtain⟨ao,cap,rfl⟩:=h1.slice;exact⟨_,ao,_,cap,j,false,rfl,h2,h3,.inr ⟨rfl,_,e1,rfl,h1⟩⟩
theorem Lm(l:List UInt8)(i:Nat):An l (Ag l i)=An l i:=by
 unfold An;rw[Fj]
def VCsCells(B:Nat)(w:World):List Sv.Cond->List Value->Prop
 | [],xs=>xs=[]
 | c::cs,xs=>∃u ys,xs=.bool c.neg::.int .i64 c.kind::u::ys/\VTsAt B u c.terms w/\VCsCells B w cs ys
theorem VCsCells.row{B:Nat}{w w':World}{base':Nat}{e':TypeId}{row:Option Nat}(hg:w.grownBy w' row)(hr:RowOk base' e' row w)(hne:e'≠169):∀(cs:List Sv.Cond) (xs:List Value),VCsCells B w cs xs->VCsCells B w' cs xs
 | [],_,h=>h
 | _::cs,_,⟨u,ys,h1,h2,h3⟩=>⟨u,ys,h1,h2.row hg hr hne,VCsCells.row hg hr hne cs ys h3⟩
theorem VCsCells.snoc{B:Nat}{w:World}(c:Sv.Cond)(u:Value)(hu:VTsAt B u c.terms w):∀(cs:List Sv.Cond) (xs:List Value),VCsCells B w cs xs->VCsCells B w (cs++[c]) (xs++[.bool c.neg,.int .i64 c.kind,u])
 | [],xs,h=>⟨u,[],by rw[show xs=[] from h];rfl,hu,rfl⟩
 | _::cs,_,⟨v,ys,h1,h2,h3⟩=>⟨v,ys++[.bool c.neg,.int .i64 c.kind,u],by rw[h1];rfl,h2,VCsCells.snoc c u hu cs ys h3⟩
def VCsAt(base:Nat)(v:Value)(cs:List Sv.Cond)(w:World):Prop:=∃xs,w.ownsRow base 166 3 v cs.length xs/\VCsCells base w cs xs
theorem VCsAt.slice{base:Nat}{u:Value}{cs:List Sv.Cond}{w:World}(h:VCsAt base u cs w):∃ao cap,u=.slice ao cs.length cap:=by
 obtain⟨xs,h,_⟩:=h;rcases h.2 with ⟨h1,h2⟩|⟨g,cap,cur,h1,_⟩
 ·exact⟨none,0,by rw[h2];exact h1⟩
 ·exact⟨_,_,h1⟩
theorem VCsAt.row{w w':World}{base base':Nat}{e':TypeId}{v:Value}{cs:List Sv.Cond}{row:Option Nat}(h:VCsAt base v cs w)(hg:w.grownBy w' row)(hr:RowOk base' e' row w)(hne:e'≠169)(dL:e'≠166):VCsAt base v cs w':=by
 obtain⟨xs,h1,h2⟩:=h;exact⟨xs,Fu h1 hg hr dL,VCsCells.row hg hr hne cs xs h2⟩
theorem Tryz.infoVCond:(Tryz.prog.info? 166).map (fun i=>(i.zero,i.size,i.bytes))=some (some (.agg #[.bool false,.int .i64 0,.slice none 0 0]),3,40):=by kernel_rfl
def Q25(b:Nat)(s:ByteArray)(w:World)(r:Nat ⊕ (Sv.Rule×Nat))(e:Ending)(w':World):Prop:=
 match r with
 | .inl k=>∃(nm:ByteArray) (ao:Option Addr) (n cap:Nat),e=.returned (.agg #[.string nm,.slice ao n cap])/\VAt b s k true w'/\w.grownBy w' (some b)
 | .inr (q,j)=>∃u,e=.returned (.agg #[.string ⟨q.name.toArray⟩,u])/\VCsAt w.heap.size u q.conds w'/\VAt b s j false w'/\w.grownBy w' (some b)
end Go.Proofs.YtolhbeekfjnfmaaGreatDoor

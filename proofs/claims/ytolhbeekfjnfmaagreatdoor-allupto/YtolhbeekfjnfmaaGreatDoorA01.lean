import Derived.WalkKit
import Derived.WalkSpells
import Derived.WalkLawsBesides
import Derived.BigQuiet
import Derived.Deep.QuietTactic
import Derived.Test.YtolhbeekfjnfmaaGreatDoorChecked
import Derived.Test.YtolhbeekfjnfmaaGreatDoorA00
set_option maxHeartbeats 8000000
namespace Go.Proofs.YtolhbeekfjnfmaaGreatDoor
open Go.RowKit Go.Proofs.Tryz
abbrev AA:=@World.grownBy_alloc
abbrev AD:=@World.grownBy.refl
abbrev AR:=@heap_alloc_new
abbrev BB:=@heap_setCell_same
abbrev DD:=@Below.heap_alloc
abbrev EG:=@World.cell?_of_block
variable {b i f:Nat}{s:ByteArray}{v e eT eL:Value}{w w' a c:World}{row:Option Nat}
def PAt(b:Nat)(s:ByteArray)(i:Nat)(v:Value)(w:World):Prop:=w.heap[b]?=some (.cells #[.string s,.int .i64 i,v] 117 (0,0))
theorem PAt.c0(h:PAt b s i v w):w.cell? ⟨b,0,none⟩=some (.string s):=by unfold PAt at h;simp[World.cell?,h]
theorem PAt.c1(h:PAt b s i v w):w.cell? ⟨b,1,none⟩=some (.int .i64 i):=by unfold PAt at h;simp[World.cell?,h]
theorem PAt.c2(h:PAt b s i v w):w.cell? ⟨b,2,none⟩=some v:=by unfold PAt at h;simp[World.cell?,h]
theorem PAt.fz(h:PAt b s i v w)(o:Nat):w.frozen? ⟨b,o,none⟩=false:=by unfold PAt at h;simp[World.frozen?,h]
theorem PAt.lt(h:PAt b s i v w):b<w.heap.size:=by unfold PAt at h;exact(CW.1 h).1
theorem Ae(s:ByteArray):s.data.toList.length=s.size:=by simp
theorem Xv(s:ByteArray)(i:Nat)(h:i<s.size):Ai s.data.toList i=s[i]:=by rw[Ht _ _ (by simpa using h)];rfl
theorem Da(c:UInt8)(w:World):Calls prog 153 #[.int .u8 c.toNat] w λe w'=>e=.returned (.bool (Ce c))/\w'=w:=by unfold Ce;by_cases h1:97<=c.toNat;{by_cases h2:c.toNat<=122;{(have e1:decide ((97:Int)<=c.toNat)=true:=by simp;omega);(have e2:decide ((c.toNat:Int)<=122)=true:=by simp;omega);go_enter func153,ntmps153;go_wp2;go_ret;exact⟨by simp[h1,h2],rfl⟩};{(have e1:decide ((97:Int)<=c.toNat)=true:=by simp;omega);(have e2:decide ((c.toNat:Int)<=122)=false:=by simp;omega);go_enter func153,ntmps153;go_wp2;go_ret;exact⟨by simp[h2],rfl⟩}};{(have e1:decide ((97:Int)<=c.toNat)=false:=by simp;omega);go_enter func153,ntmps153;go_wp2;go_ret;exact⟨by simp[h1],rfl⟩}
theorem Cj(c:UInt8)(w:World):Calls prog 198 #[.int .u8 c.toNat] w λe w'=>e=.returned (.bool (At c))/\w'=w:=by unfold At;by_cases h1:48<=c.toNat;{by_cases h2:c.toNat<=57;{(have e1:decide ((48:Int)<=c.toNat)=true:=by simp;omega);(have e2:decide ((c.toNat:Int)<=57)=true:=by simp;omega);go_enter func198,ntmps198;go_wp2;go_ret;exact⟨by simp[h1,h2],rfl⟩};{(have e1:decide ((48:Int)<=c.toNat)=true:=by simp;omega);(have e2:decide ((c.toNat:Int)<=57)=false:=by simp;omega);go_enter func198,ntmps198;go_wp2;go_ret;exact⟨by simp[h2],rfl⟩}};{(have e1:decide ((48:Int)<=c.toNat)=false:=by simp;omega);go_enter func198,ntmps198;go_wp2;go_ret;exact⟨by simp[h1],rfl⟩}
theorem Ck(b:Nat)(s:ByteArray)(i:Nat)(v:Value)(w:World)(hi:i<=s.size)(_hs:s.size<=400)(hb:PAt b s i v w):Calls prog 124 #[.pointer (some ⟨b,0,none⟩)] w λe w'=>e=.returned (.int .u8 (Ai s.data.toList i).toNat)/\∃n,w'=w.drewN n:=by have c0:=hb.c0;have c1:=hb.c1;by_cases h:i=s.size;{(have e:((i:Int)==(s.size:Int))=true:=by simp;omega);go_enter func124,ntmps124;go_wp2;go_quiet (fail);go_wp2;go_ret;exact⟨by rw[E8 _ _ (by simp;omega)];rfl,_,rfl⟩};{(have e:((i:Int)==(s.size:Int))=false:=by simp;omega);(have hlt:i<s.size:=by omega);go_enter func124,ntmps124;go_wp2;go_quiet (fail);go_wp2;go_quiet (fail);go_wp2;go_ret;exact⟨by rw[Xv _ _ hlt];rfl,_,World.drewN_drewN _ _ _⟩}
def FAt(f:Nat)(i:Nat)(e:Value)(w:World):Prop:=w.heap[f]?=some (.cells #[.int .i64 i,e] 114 (0,0))
theorem FAt.c0(h:FAt f i e w):w.cell? ⟨f,0,none⟩=some (.int .i64 i):=by unfold FAt at h;simp[World.cell?,h]
theorem FAt.c1(h:FAt f i e w):w.cell? ⟨f,1,none⟩=some e:=by unfold FAt at h;simp[World.cell?,h]
theorem FAt.lt(h:FAt f i e w):f<w.heap.size:=by unfold FAt at h;exact(CW.1 h).1
theorem FAt.kept(h:FAt f i e w)(g:w.grownBy w' row)(hne:some f≠row):FAt f i e w':=by unfold FAt;rw[g.block f h.lt hne];exact h
theorem PAt.kept(h:PAt b s i v w)(g:w.grownBy w' row)(hne:some b≠row):PAt b s i v w':=by unfold PAt;rw[g.block b h.lt hne];exact h
theorem PAt.set1(h:PAt b s i v w)(j:Nat):PAt b s j v (w.setCell ⟨b,1,none⟩ (.int .i64 j)):=by unfold PAt at h⊢;rw[BB w b 1 _ _ _ h];rfl
theorem PAt.set2(h:PAt b s i v w)(u:Value):PAt b s i u (w.setCell ⟨b,2,none⟩ u):=by unfold PAt at h⊢;rw[BB w b 2 _ _ _ h];rfl
theorem PAt.drewN{b:Nat}{s:ByteArray}{i:Nat}{v:Value}{w:World}(h:PAt b s i v w)(n:Nat):PAt b s i v (w.drewN n):=h
theorem Ab{b:World}(h:a.grownBy b row)(k:b.grownBy c row):a.grownBy c row:=
 ⟨k.os.trans h.os,k.tape.trans h.tape,k.output.trans h.output,AU h.size k.size,λi hi hne=>(k.block i (AV hi h.size) hne).trans (h.block i hi hne)⟩
theorem Ba(h:a.grownBy c none)(row:Option Nat):a.grownBy c row:=⟨h.os,h.tape,h.output,h.size,λi hi _=>h.block i hi (by simp)⟩
theorem Aj(w:World)(b o:Nat)(u:Value):w.grownBy (w.setCell ⟨b,o,none⟩ u) (some b):=
 ⟨rfl,rfl,rfl,by simp[World.setCell],λk _ hk=>heap_setCell_other w ⟨b,o,none⟩ k u (λe=>hk (by simp[e]))⟩
theorem Af(w:World)(n:Nat)(row:Option Nat):w.grownBy (w.drewN n) row:=⟨rfl,rfl,rfl,AX _,λ_ _ _=>rfl⟩
theorem Ah(h:a.grownBy c row):a.grownBy c.drew row:=⟨h.os,h.tape,h.output,h.size,h.block⟩
theorem Iy(w:World)(o:Obj)(b k:Nat)(h:b<w.heap.size):(w.alloc o).cell? ⟨b,k,none⟩=w.cell? ⟨b,k,none⟩:=EG (a:=⟨b,k,none⟩) (DD w o b h)
theorem Wj(w:World)(o:Obj)(b k:Nat)(h:b<w.heap.size):(w.alloc o).frozen? ⟨b,k,none⟩=w.frozen? ⟨b,k,none⟩:=World.frozen?_of_block (a:=⟨b,k,none⟩) (DD w o b h)
def El(b:Nat)(w:World):Nat:=match w.cell? ⟨b,1,none⟩with|some (.int _ q)=>q.toNat|_=>0
theorem PAt.at(h:PAt b s i v w):El b w=i:=by unfold El;rw[h.c1];simp
structure GOk(b:Nat)(eT eL:Value)(w:World):Prop where
 nT:b≠2
 nL:b≠0
 cT:w.cell? ⟨2,0,none⟩=some eT
 cL:w.cell? ⟨0,0,none⟩=some eL
theorem GOk.kept(h:GOk b eT eL w)(g:w.grownBy w' (some b)):GOk b eT eL w':=
 ⟨h.nT,h.nL,g.cell h.cT (by simpa using λe=>h.nT e.symm),g.cell h.cL (by simpa using λe=>h.nL e.symm)⟩
theorem GOk.drewN{b:Nat}{eT eL:Value}{w:World}(h:GOk b eT eL w)(n:Nat):GOk b eT eL (w.drewN n):=⟨h.nT,h.nL,h.cT,h.cL⟩
theorem Hm(b:Nat)(s:ByteArray)(i:Nat)(v:Value)(w:World)(tT:TypeId)(aT:Addr)(hb:PAt b s i v w)(hT:w.cell? ⟨2,0,none⟩=some (.iface tT (.pointer (some aT)))):Calls prog 154 #[.pointer (some ⟨b,0,none⟩)] w λe w'=>∃f,e=.returned (.iface 112 (.pointer (some ⟨f,0,none⟩)))/\w.heap.size<=f/\FAt f i (.iface tT (.pointer (some aT))) w'/\w.grownBy w' none:=by have c1:=hb.c1;go_enter func154,ntmps154;go_wp2;go_region;all_goals go_wp2;go_ret;exact⟨w.heap.size,rfl,AX _,AR _ _,Ah (AA w _ none)⟩
theorem Il(c d:UInt8):((c.toNat:Int)==(d.toNat:Int))=(c==d):=by rw[FH];simp[<-UInt8.toNat_inj];omega
theorem Uv(c:UInt8):((c.toNat:Int)==32)=(c==32):=Il c 32
theorem Q0w(c:UInt8):((c.toNat:Int)==10)=(c==10):=Il c 10
theorem Mn(b:Nat)(s:ByteArray)(i:Nat)(v:Value)(w:World)(hi:i<=s.size)(hs:s.size<=400)(hb:PAt b s i v w):Calls prog 88 #[.pointer (some ⟨b,0,none⟩)] w λe w'=>e=.returned (.tuple #[])/\PAt b s (Ag s.data.toList i) v w'/\w.grownBy w' (some b):=by
 go_enter func88,ntmps88;go_wp2;go_loopw [] (λw'=>∃k:Nat,k<=s.size/\PAt b s k v w'/\w.grownBy w' (some b)/\Ag s.data.toList k=Ag s.data.toList i) (λw'=>s.size-El b w');case atStart=>exact⟨i,hi,hb,AD _ _,rfl⟩
 case round=>obtain⟨k,hk,aD,hg,hsk⟩:=hrel;have HS:Hid (Ag s.data.toList k=Ag s.data.toList i):=hsk;clear hsk;have hat:=aD.at;have HA:Hid (El b wr=k):=hat;clear hat;cases h1:Ai s.data.toList k==32;{cases h2:Ai s.data.toList k==10;{have hno:=M9 s.data.toList k (by simp[Dm,h1,h2]);have HN:Hid (Ag s.data.toList k=k):=hno;clear hno;have e1:=(Uv (Ai s.data.toList k)).trans h1;have e2:=(Q0w (Ai s.data.toList k)).trans h2;clear h1 h2;go_wp2_with (go_at_call 124;refine(Ck b s k v _ hk hs (by first|exact aD|exact aD.drewN _)).mono ?_;rintro e w'⟨rfl,n,rfl⟩);go_end0;refine⟨rfl,?_,?_⟩;{rw[<-HS.out,HN.out];exact aD};{exact Ab hg (Af _ _ _)}};{have dz:=Hu s.data.toList k (by simp[Dm,h2]);rw[Ae]at dz;obtain⟨hn,hlt⟩:=dz;have HN:Hid (Ag s.data.toList k=Ag s.data.toList (k+1)):=hn;clear hn;have e1:=(Uv (Ai s.data.toList k)).trans h1;have e2:=(Q0w (Ai s.data.toList k)).trans h2;clear h1 h2;have c1:=aD.c1;have f1:=aD.fz 1;go_wp2_with (go_at_call 124;refine(Ck b s k v _ hk hs (by first|exact aD|exact aD.drewN _)).mono ?_;rintro e w'⟨rfl,n,rfl⟩);go_roundw;(case rel=>exact⟨k+1,by omega,(PAt.set1 aD (k+1)),Ab hg (Ab (Aj wr b 1 _) (Af _ _ _)),by rw[<-HN.out];exact HS.out⟩);case measure=>have h2:El b ((wr.setCell ⟨b,1,none⟩ (.int .i64 ((k+1:Nat):Int))))=k+1:=(PAt.set1 aD (k+1)).at;show s.size-El b ((wr.setCell ⟨b,1,none⟩ (.int .i64 ((k+1:Nat):Int))))<s.size-El b wr;rw[h2,HA.out];omega}};{have dz:=Hu s.data.toList k (by simp[Dm,h1]);rw[Ae]at dz;obtain⟨hn,hlt⟩:=dz;have HN:Hid (Ag s.data.toList k=Ag s.data.toList (k+1)):=hn;clear hn;have e1:=(Uv (Ai s.data.toList k)).trans h1;clear h1;have c1:=aD.c1;have f1:=aD.fz 1;go_wp2_with (go_at_call 124;refine(Ck b s k v _ hk hs (by first|exact aD|exact aD.drewN _)).mono ?_;rintro e w'⟨rfl,n,rfl⟩);go_roundw;(case rel=>exact⟨k+1,by omega,(PAt.set1 aD (k+1)),Ab hg (Ab (Aj wr b 1 _) (Af _ _ _)),by rw[<-HN.out];exact HS.out⟩);case measure=>have h2:El b ((wr.setCell ⟨b,1,none⟩ (.int .i64 ((k+1:Nat):Int))))=k+1:=(PAt.set1 aD (k+1)).at;show s.size-El b ((wr.setCell ⟨b,1,none⟩ (.int .i64 ((k+1:Nat):Int))))<s.size-El b wr;rw[h2,HA.out];omega}
theorem Yb(c d:UInt8)(h:(c==d)=false):((c.toNat:Int) !=(d.toNat:Int))=true:=by rw[bne,Il,h];rfl
theorem Q0x(c d:UInt8)(h:(c==d)=true):((c.toNat:Int) !=(d.toNat:Int))=false:=by rw[bne,Il,h];rfl
theorem J6(b:Nat)(s:ByteArray)(i:Nat)(v:Value)(c:UInt8)(x:Int)(hx:x=c.toNat)(w:World)(hi:i<=s.size)(hs:s.size<=400)(h:(Ai s.data.toList (Ag s.data.toList i)==c)=true)(hb:PAt b s i v w):Calls prog 156 #[.pointer (some ⟨b,0,none⟩),.int .u8 x] w λe w'=>e=.returned (.bool true)/\PAt b s (Ag s.data.toList i+1) v w'/\w.grownBy w' (some b):=by subst hx;have hle:=Bj s.data.toList i (by simpa using hi);rw[Ae]at hle;obtain⟨nC,ah⟩:=hle;have e1:=Q0x _ _ h;clear h;go_enter func156,ntmps156;go_wp2_with (go_at_call 88;refine(Mn b s i v _ hi hs hb).mono ?_;rintro e w1⟨rfl,hb1,hg1⟩);refine(Ck b s _ v _ ah hs hb1).mono ?_;rintro e w2⟨rfl,n,rfl⟩;have c1:=hb1.c1;have f1:=hb1.fz 1;go_wp2;go_ret;exact⟨rfl,PAt.set1 hb1 _,Ab hg1 (Ab (Aj w1 b 1 _) (Af _ _ _))⟩
theorem Oa(b:Nat)(s:ByteArray)(i:Nat)(v:Value)(c:UInt8)(x:Int)(hx:x=c.toNat)(w:World)(hi:i<=s.size)(hs:s.size<=400)(h:(Ai s.data.toList (Ag s.data.toList i)==c)=false)(hb:PAt b s i v w):Calls prog 156 #[.pointer (some ⟨b,0,none⟩),.int .u8 x] w λe w'=>e=.returned (.bool false)/\PAt b s (Ag s.data.toList i) v w'/\w.grownBy w' (some b):=by subst hx;have hle:=Bj s.data.toList i (by simpa using hi);rw[Ae]at hle;obtain⟨nC,ah⟩:=hle;have e1:=Yb _ _ h;clear h;go_enter func156,ntmps156;go_wp2_with (go_at_call 88;refine(Mn b s i v _ hi hs hb).mono ?_;rintro e w1⟨rfl,hb1,hg1⟩);refine(Ck b s _ v _ ah hs hb1).mono ?_;rintro e w2⟨rfl,n,rfl⟩;go_wp2;go_ret;exact⟨rfl,hb1,Ab hg1 (Af _ _ _)⟩
theorem I1(b:Nat)(s:ByteArray)(i:Nat)(v:Value)(c:UInt8)(x:Int)(hx:x=c.toNat)(w:World)(hi:i<=s.size)(hs:s.size<=400)(h:(Ai s.data.toList (Ag s.data.toList i)==c)=true)(hb:PAt b s i v w):Calls prog 126 #[.pointer (some ⟨b,0,none⟩),.int .u8 x] w λe w'=>e=.returned .nilIface/\PAt b s (Ag s.data.toList i+1) v w'/\w.grownBy w' (some b):=by subst hx;go_enter func126,ntmps126;go_wp2_with (go_at_call 156;refine(J6 b s i v c _ rfl _ hi hs h hb).mono ?_;rintro e w1⟨rfl,hb1,hg1⟩);go_ret;exact⟨rfl,hb1,hg1⟩
def Bad(b:Nat)(i:Nat)(eT:Value)(w:World)(x:Value)(w':World):Prop:=
 ∃f,x=.iface 112 (.pointer (some ⟨f,0,none⟩))/\w.heap.size<=f/\FAt f i eT w'/\w.grownBy w' (some b)
theorem Pb(b:Nat)(s:ByteArray)(i:Nat)(v:Value)(c:UInt8)(x:Int)(hx:x=c.toNat)(w:World)(tT:TypeId)(aT:Addr)(eL:Value)(hi:i<=s.size)(hs:s.size<=400)(h:(Ai s.data.toList (Ag s.data.toList i)==c)=false)(hb:PAt b s i v w)(hG:GOk b (.iface tT (.pointer (some aT))) eL w):Calls prog 126 #[.pointer (some ⟨b,0,none⟩),.int .u8 x] w λe w'=>∃y,e=.returned y/\Bad b (Ag s.data.toList i) (.iface tT (.pointer (some aT))) w y w':=by subst hx;go_enter func126,ntmps126;go_wp2_with (go_at_call 156;refine(Oa b s i v c _ rfl _ hi hs h hb).mono ?_;rintro e w1⟨rfl,hb1,hg1⟩);refine(Hm b s _ v _ tT aT hb1 (hG.kept hg1).cT).mono ?_;rintro e w2⟨f,rfl,hf,hF,hg2⟩;have hg:=Ab hg1 (Ba hg2 (some b));have hf':w.heap.size<=f:=AU hg1.size hf;go_wp2;go_ret;exact⟨_,rfl,f,rfl,hf',hF,hg⟩
def Ex(f:Bool)(eL:Value)(b:Nat)(v:Value)(w:World):Prop:=
 (f=false/\v=.pointer none)\/(f=true/\∃g i,v=.pointer (some ⟨g,0,none⟩)/\g≠b/\FAt g i eL w)
theorem Ex.kept{f:Bool}{eL:Value}{b:Nat}{v:Value}{w w':World}(h:Ex f eL b v w)(g:w.grownBy w' (some b)):Ex f eL b v w':=by rcases h with h|⟨h1,k,i,h2,h3,h4⟩;{exact .inl h};{exact .inr ⟨h1,k,i,h2,h3,h4.kept g (by simpa using h3)⟩}
def St(b:Nat)(s:ByteArray)(i:Nat)(f:Bool)(eT eL:Value)(w:World):Prop:=∃v,PAt b s i v w/\Ex f eL b v w/\GOk b eT eL w
theorem St.step{j:Nat}{f:Bool}(h:PAt b s j v w')(hx:Ex f eL b v w)(hG:GOk b eT eL w)(g:w.grownBy w' (some b)):St b s j f eT eL w':=
 ⟨v,h,hx.kept g,hG.kept g⟩
theorem Xk(b:Nat)(s:ByteArray)(i:Nat)(f:Bool)(tT:TypeId)(aT:Addr)(tL:TypeId)(aL:Addr)(w:World)(k m:Nat)(x y:Int)(hx:x=k)(hy:y=m) (hb:St b s i f (.iface tT (.pointer (some aT))) (.iface tL (.pointer (some aL))) w):Calls prog 89 #[.pointer (some ⟨b,0,none⟩),.int .i64 x,.int .i64 y] w λe w'=>e=.returned (.tuple #[])/\St b s i (f||decide (m<=k)) (.iface tT (.pointer (some aT))) (.iface tL (.pointer (some aL))) w'/\w.grownBy w' (some b):=by subst hx hy;obtain⟨v,hp,hex,hG⟩:=hb;have c1:=hp.c1;have c2:=hp.c2;have f2:=hp.fz 2;have cL:=hG.cL;by_cases gT:m<=k;{(have e1:decide ((m:Int)<=(k:Int))=true:=by simp;omega);rcases hex with ⟨rfl,rfl⟩|⟨rfl,g,j,rfl,hgb,hF⟩;{have cA:=λo=>(Iy w o b 2 hp.lt).trans c2;have fA:=λo=>(Wj w o b 2 hp.lt).trans f2;go_enter func89,ntmps89;go_wp2;go_region;all_goals go_wp2;go_end0;have hlt:=hp.lt;have g1:=AA w (Obj.cells #[Value.int IntKind.i64 ↑i,Value.iface tL (Value.pointer (some aL))] 114) (some b);have g2:=Ab g1 (Aj (w.alloc (Obj.cells #[Value.int IntKind.i64 ↑i,Value.iface tL (Value.pointer (some aL))] 114)) b 2 (Value.pointer (some { block:=w.heap.size,off:=0 })));have yK:=hp.kept (AA w (Obj.cells #[Value.int IntKind.i64 ↑i,Value.iface tL (Value.pointer (some aL))] 114) none) (by simp);have jB:FAt w.heap.size i (Value.iface tL (Value.pointer (some aL))) (w.alloc (Obj.cells #[Value.int IntKind.i64 ↑i,Value.iface tL (Value.pointer (some aL))] 114)):=AR _ _;have hF2:=jB.kept (Aj (w.alloc (Obj.cells #[Value.int IntKind.i64 ↑i,Value.iface tL (Value.pointer (some aL))] 114)) b 2 (Value.pointer (some { block:=w.heap.size,off:=0 }))) (by simp;omega);exact⟨rfl,⟨_,yK.set2 _,.inr ⟨by simp[gT],w.heap.size,i,rfl,by omega,hF2⟩,hG.kept (Ah g2)⟩,Ah g2⟩};{go_enter func89,ntmps89;go_wp2;go_end0;exact⟨rfl,⟨_,hp,.inr ⟨by simp,g,j,rfl,hgb,hF⟩,hG⟩,AD _ _⟩}};{(have e1:decide ((m:Int)<=(k:Int))=false:=by simp;omega);go_enter func89,ntmps89;go_wp2;go_end0;exact⟨rfl,⟨v,hp,by simpa[gT]using hex,hG⟩,AD _ _⟩}
end Go.Proofs.YtolhbeekfjnfmaaGreatDoor

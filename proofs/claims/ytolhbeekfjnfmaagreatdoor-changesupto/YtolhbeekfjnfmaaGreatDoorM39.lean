import Derived.Test.YtolhbeekfjnfmaaGreatDoorMA
import Derived.Deep.RegionHeld3
import Derived.Test.YtolhbeekfjnfmaaGreatDoorM37
import Derived.Test.YtolhbeekfjnfmaaGreatDoorM38
set_option maxHeartbeats 8000000
set_option maxRecDepth 100000
namespace Go.Proofs.YtolhbeekfjnfmaaGreatDoor
open Go.RowKit
variable {T:Nat->Nat}{W k:Nat}{aH:List Nt}{w w' wr:World}{nv mv k2 lv:Value}{us fs ms:List (Value×Int)}{ls:List Value}
theorem WAt.add{T:Nat->Nat}{W:Nat}{aH:List Nt}{k i:Nat}{n:Nt}{f:Sv.Fact}{w w':World}{nv uv fv mv k0 k1 k2:Value}{us fs ms:List (Value×Int)}{ls:List Value}(hN:NetsAt T nv aH k w)(hn:aH[i]?=some n)(h3:us.length<=k*2100000)(h4:fs.length<=4*k)(h5:ms.length<=4*k)(h6:ls.length<=k)(e:Ending)
 (hp:Je XT T W nv uv fv mv k0 k1 k2 us fs ms ls (11+3*i) (12+3*i) n.x n.y (n.s.add f).2 w e w'):B8 T W k aH.length w e w':=by
 obtain⟨he,T',fe,PQ,j1,j2,j3,j4,j5,j6⟩:=hp;obtain⟨_,_,aK,hc⟩:=hN.net i n hn;obtain⟨TR,hc'⟩:=aK.add f;refine⟨he,T',aH.set i ⟨n.x,n.y,(n.s.add f).2⟩,⟨nv,uv,fv,mv,k0,k1,k2,fe,us,fs,ms,PQ,j1,hN.set hn j5 j6 j3 j4 TR (by omega),AU h3 (BW _ (FV k)),by omega,by omega,by omega⟩,by simp,j5.mono (fun j hj=>by omega),fun j hj h0=>by rw[j6 j hj,h0]⟩
theorem WAt.tell(hN:NetsAt T nv aH k w)(h3:us.length<=k*2100000)(h4:fs.length<=4*k)(h5:ms.length<=4*k)(h6:ls.length<=k)(e:Ending)
 (hp:Kv T W nv mv k2 lv us fs ms ls w e w'):B8 T W k aH.length w e w':=by
 obtain⟨he,T',kA,ag,kB,yq,jN,ni,j1,j2,j3,j4,j5⟩:=hp
 have vF:∀j,Zy (T j)->¬ (T j=1\/T j=3\/T j=6\/T j=4\/T j=7\/InH (T j)):=by
  rintro j (h|h|⟨h,h2⟩) (e|e|e|e|e|e)<;>first|omega|exact h2 e|(have:=e.1;omega)
 refine⟨he,T',aH,⟨nv,kA,ag,mv,kB,yq,k2,lv,jN,ni,ms,ls,j1,hN.keep (FV k) j4 vF (fun j hj h=>j5 j hj (fun hi=>vF j h (.inr (.inr (.inr (.inr (.inr hi))))))),?_,by omega,by omega,by omega⟩,rfl,j4.mono (fun j hj h0=>?_),fun j hj h0=>by rw[j5 j hj (fun h=>by have:=h.1;omega),h0]⟩
 ·have:(k+1)*2100000=k*2100000+2100000:=by rw[GS,KB]
  rw[this];omega
 ·rcases hj with h|h|h|h|h|h
  ·omega
  ·omega
  ·omega
  ·omega
  ·omega
  ·have:=h.1;omega
theorem WAt.mats{T1:Nat->Nat}{n:Nat}{w1:World}{uv fv k0 k1:Value}(hL:Lists T W nv uv fv mv k0 k1 k2 lv us fs ms ls w)(hN:NetsAt T nv aH k w)(h3:us.length<=k*2100000)(h4:fs.length<=4*k)(h5:ms.length<=4*k)(h6:ls.length<=k)(hg:w.grownBy w1 none)(ho:∀j,j<w.heap.size->T1 j=T j)(hn:n<=524288)(e:Ending)
 (hp:Jt T1 W nv fv k1 lv us ms n w1 e w'):GrS (fun j=>T j≠0) w w'/\∃T' iE,WAt T' W iE (k+1) w'/\iE.length=aH.length/\∀j,j<w.heap.size->T j=0->T' j=0:=by
 obtain⟨_,T',kA,kB,jN,vX,vk,ni,j1,j2,j3,j4,j5,j6,j7⟩:=hp;have fE:=hL.gr hg ho;have bB:=hN.keep (T':=T1) (AW k) (GrS.of hg (by simp):GrS (fun _=>False) w w1) (by simp) (fun j hj _=>ho j hj)
 have vF:∀j,Zy (T1 j)->¬ (T1 j=1\/T1 j=3\/T1 j=6\/T1 j=5\/T1 j=8\/InH (T1 j)):=by
  rintro j (h|h|⟨h,h2⟩) (e|e|e|e|e|e)<;>first|omega|exact h2 e|(have:=e.1;omega)
 have QE:∀t:Nat,t<13->¬ InH t:=fun t h hI=>by have:=hI.1;omega
 have hno:∀j,(T1 j=4\/T1 j=7\/T1 j=9\/T1 j=10)->¬ (T1 j=1\/T1 j=3\/T1 j=6\/T1 j=5\/T1 j=8\/InH (T1 j)):=by
  rintro j h (e|e|e|e|e|e)<;>first|omega|(have:=e.1;omega)
 refine⟨?_,T',aH,⟨nv,kA,fv,vX,kB,k1,vk,lv,jN,fs,ni,ls,⟨j1,?_,j2,?_,?_,j3⟩,?_,?_,by omega,by omega,by omega⟩,rfl,fun j hj h0=>?_⟩
 ·refine(GrS.of hg (by simp):GrS (fun j=>T j≠0) w w1).comp j6 (fun i hi gK hx=>?_)
  rw[ho i hi] at hx;refine gK (fun h0=>?_);rcases hx with h|h|h|h|h|h
  ·omega
  ·omega
  ·omega
  ·omega
  ·omega
  ·have:=h.1;omega
 ·rw[j7 W (Af fE.blk) (by rw[fE.own];exact QE 1 (by omega))];exact fE.own
 ·exact fE.lent.keep j6 (fun j hj=>hno j (by omega)) (fun j hj jg=>j7 j hj (by rcases jg with h|h<;>(rw[h];exact QE _ (by omega))))
 ·exact fE.facts.keep j6 (fun j hj=>hno j (by omega)) (fun j hj jg=>j7 j hj (by rcases jg with h|h|h<;>(rw[h];exact QE _ (by omega))))
 ·exact bB.keep (FV k) j6 vF (fun j hj h=>j7 j hj (fun hi=>vF j h (.inr (.inr (.inr (.inr (.inr hi)))))))
 ·have:(k+1)*2100000=k*2100000+2100000:=by rw[GS,KB]
  rw[this,j4];omega
 ·rw[j7 j (AZ hj hg.size) (by rw[ho j hj,h0];exact QE 0 (by omega)),ho j hj,h0]
theorem Ue(T:Nat->Nat)(W k:Nat)(w:World)(hW:WAt T W [] k w)(q n:Int)(s:ByteArray)(fk:Int)(bO:Option Addr)(fn fc:Nat)(a:Int)(oo:q≠1)(dQ:q≠2) :
  Calls Tryz.prog 33 #[.pointer (some ⟨W,0,none⟩),.agg #[.int .i64 q,.int .i64 n,.string s,.int .i64 fk,.slice bO fn fc,.int .i64 a]] w fun e w'=>B8 T W k 0 w e w':=by
 have a7:=AA w (.cells #[.int .i64 q,.int .i64 n,.string s,.int .i64 fk,.slice bO fn fc,.int .i64 a] 76) none;have HW:=Ac hW;obtain⟨nv,uv,fv,mv,k0,k1,k2,lv,us,fs,ms,ls,i1,i2,_⟩:=hW;obtain⟨na,nc,eM⟩:=i2.row.1.slice;have c0:w.cell? ⟨W,0,none⟩=some (.slice na 0 nc):=by rw[i1.blk.cell 0];exact BJ some eM
 have a0:=a7.cell c0 (by simp);have e1:(q==1)=false:=by simpa using oo
 have e2:(q==2)=false:=by simpa using dQ
 clear i1 i2 eM c0;go_enter Tryz.func33,Tryz.ntmps33;go_wp2;go_ret;exact(Aa HW).idle a7
def Q4m(ao:Option Addr)(len:Nat)(w:World):Prop:=
 ∀k,k<len->∃(g off:Nat) (q n:Int) (s:ByteArray) (f:Sv.Fact) (bO:Option Addr) (fc:Nat) (a:Int),ao=some ⟨g,off,none⟩/\s.size<=maxLen/\(I64 n/\I64 a)/\OpAt g (off+k*6) q n s f.kind (.slice bO f.vals.length fc) a w/\InAt (.slice bO f.vals.length fc) f.vals w/\(f.vals≠[]->∀b,(Value.slice bO f.vals.length fc).ownBlock=some b->b<w.heap.size)/\f.vals.length<=1048576
def PlayI(w:World)(W k m:Nat)(wr:World):Prop:=∃T aH,WAt T W aH k wr/\aH.length=m/\w.grownBy wr none/\∀j,j<w.heap.size->T j=0
theorem PlayI.next{m':Nat}{e:Ending}(hg:w.grownBy wr none)(h0:∀j,j<w.heap.size->T j=0)(hp:B8 T W k m' wr e w'):e=.returned (.bool true)/\PlayI w W (k+1) m' w':=by
 obtain⟨he,T',iE,j1,j2,j3,j4⟩:=hp;refine⟨he,T',iE,j1,j2,?_,fun j hj=>j4 j (AZ hj hg.size) (h0 j hj)⟩;exact GrS.grown ((GrS.of hg (by simp):GrS (fun _=>False) w wr).comp j3 (fun i hi _ hx=>hx (h0 i hi))) (fun _ _ h=>h)
theorem PlayI.gr{w wr w':World}{W k m:Nat}(h:PlayI w W k m wr)(hg:wr.grownBy w' none):PlayI w W k m w':=by
 obtain⟨T,aH,h1,h2,h3,h4⟩:=h;exact⟨T,aH,h1.gr (AW _) hg (fun _ _=>rfl),h2,Ab h3 hg,h4⟩
theorem PlayI.looks{m:Nat}(h:PlayI w W k m wr):Calls Tryz.prog 34 #[.pointer (some ⟨W,0,none⟩)] wr fun e w'=>e=.returned (.bool true)/\PlayI w W k m w':=by
 have h0:=h;obtain⟨T,aH,⟨nv,uv,fv,mv,k0,k1,k2,lv,us,fs,ms,ls,i1,_⟩,_⟩:=h;refine(Gu T W nv uv fv mv k0 k1 k2 lv us fs ms ls wr i1.blk i1.nums i1.lent i1.facts i1.mats).mono ?_;rintro e w'⟨rfl,hg⟩;exact⟨rfl,h0.gr hg⟩
def Mh:List UInt8:=[112,58,40,49,32,120,32,121,41,40,50,32,121,41,59]
def Vg:List Sv.Rule:=[⟨[112],[⟨false,1,[⟨1,120,0⟩,⟨1,121,0⟩]⟩,⟨false,2,[⟨1,121,0⟩]⟩]⟩]
theorem Uf:Bh Mh=.inr Vg:=by rfl
theorem Q4l(w:World):PlayI w w.heap.size 0 0 (w.alloc (.cells #[.slice none 0 0,.slice none 0 0,.slice none 0 0,.slice none 0 0,.slice none 0 0,.slice none 0 0,.slice none 0 0,.slice none 0 0] 73)):=by
 have hg:=AA w (.cells #[.slice none 0 0,.slice none 0 0,.slice none 0 0,.slice none 0 0,.slice none 0 0,.slice none 0 0,.slice none 0 0,.slice none 0 0] 73) none;have hx:=AR w (.cells #[.slice none 0 0,.slice none 0 0,.slice none 0 0,.slice none 0 0,.slice none 0 0,.slice none 0 0,.slice none 0 0,.slice none 0 0] 73);refine⟨fun j=>if j=w.heap.size then 1 else 0,[],⟨.slice none 0 0,.slice none 0 0,.slice none 0 0,.slice none 0 0,.slice none 0 0,.slice none 0 0,.slice none 0 0,.slice none 0 0,[],[],[],[],⟨hx,by rw[AQ rfl],⟨⟨RowAt.nil 0 _ (fun _=>rfl),by simp[Value.ownBlock]⟩,TRow.nil _ _ _ _ At _,by simp⟩,⟨⟨RowAt.nil 0 _ (fun _=>rfl),by simp[Value.ownBlock]⟩,by simp⟩,⟨⟨RowAt.nil 0 _ (fun _=>rfl),by simp[Value.ownBlock]⟩,TRow.nil _ _ _ _ At _,by simp⟩,⟨⟨RowAt.nil 0 _ (fun _=>rfl),by simp[Value.ownBlock]⟩,TRow.nil _ _ _ _ At _,by simp⟩⟩,⟨TRow.nil _ _ _ _ Kt _,by simp⟩,by simp,by simp,by simp,by simp⟩,rfl,hg,fun j hj=>?_⟩;dsimp only;rw[AO (by omega)]
end Go.Proofs.YtolhbeekfjnfmaaGreatDoor

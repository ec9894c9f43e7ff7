import Derived.Test.YtolhbeekfjnfmaaGreatDoorK01
import Derived.Test.YtolhbeekfjnfmaaGreatDoorK02
import Derived.Test.YtolhbeekfjnfmaaGreatDoorK00
namespace Go.Proofs.YtolhbeekfjnfmaaGreatDoor
open Go.RowKit
set_option maxHeartbeats 400000 in
theorem behind_w (b:Nat) (s:ByteArray) (i:Nat) (v:Value) (w:World) (hi:i≤s.size) (_hs:s.size≤400) (hb:PAt b s i v w) :
  Calls Tryz.prog 209 #[.pointer (some ⟨b,0,none⟩)] w fun e w'=>e=.returned (.bool (Sv.behind s.data.toList i))∧∃ n,w'=w.drewN n:=by
 have c0:=hb.c0
 have c1:=hb.c1
 by_cases h:0 < i
 ·have hd:decide ((0:Int) < (i:Int))=true:=by simp; omega
  have hlt:i - 1 < s.size:=by omega
  obtain ⟨j,rfl⟩:∃ j,i=j+1:=⟨i - 1,by omega⟩
  have hj:j < s.size:=by omega
  have e:Sv.behind s.data.toList (j+1)=Sv.digB s[j]:=by simp [Sv.behind,pk_get s j hj]
  rw [e]
  clear e
  go_enter Tryz.func209,Tryz.ntmps209
  go_wp2
  go_quiet ((go_at_call 198; exact Calls.quiet_of_same (isDigit_w _ _)))
  go_wp2
  go_ret
  exact ⟨rfl,_,rfl⟩
 ·have hd:decide ((0:Int) < (i:Int))=false:=by simp; omega
  have e:Sv.behind s.data.toList i=false:=by simp [Sv.behind,h]
  rw [e]
  clear e
  go_enter Tryz.func209,Tryz.ntmps209
  go_wp2
  go_quiet (fail)
  go_wp2
  go_ret
  exact ⟨rfl,_,rfl⟩
theorem u8_sub (c:UInt8) (h:Sv.digB c=true):48≤(c.toNat:Int)∧(c.toNat:Int)≤57:=by
 have:=Sv.dig_rng c h; omega
set_option maxHeartbeats 400000 in
theorem kind_yes (b:Nat) (s:ByteArray) (i:Nat) (v:Value) (w:World) (hi:i≤s.size) (hs:s.size≤400) (h:Sv.digB (Sv.pk s.data.toList (Sv.sk s.data.toList i))=true) (hb:PAt b s i v w) :
  Calls Tryz.prog 180 #[.pointer (some ⟨b,0,none⟩)] w fun e w'=>e=.returned (.tuple #[.int .i64 ((Sv.pk s.data.toList (Sv.sk s.data.toList i)).toNat - 48),.nilIface])∧PAt b s (Sv.sk s.data.toList i+1) v w'∧w.grownBy w' (some b):=by
 have hle:=Sv.sk_le s.data.toList i (by simpa using hi)
 rw [size_list] at hle
 obtain ⟨hle1,hle2⟩:=hle
 have hr:=u8_sub _ h
 obtain ⟨hr1,hr2⟩:=hr
 go_enter Tryz.func180,Tryz.ntmps180
 go_wp2_with (go_at_call 88; refine (skip_w b s i v _ hi hs hb).mono ?_; rintro e w1 ⟨rfl,hb1,hg1⟩)
 refine (peek_w b s _ v _ hle2 hs hb1).mono ?_
 rintro e w2 ⟨rfl,n,rfl⟩
 have c1:=hb1.c1
 have f1:=hb1.fz 1
 go_wp2_with (go_at_call 198; refine (isDigit_w _ _).mono ?_; rintro e w3 ⟨rfl,rfl⟩)
 go_ret2
 exact ⟨rfl,PAt.set1 hb1 _,gr_trans hg1 (gr_trans (gr_set w1 b 1 _) (gr_drewN _ _ _))⟩
set_option maxHeartbeats 400000 in
theorem kind_no (b:Nat) (s:ByteArray) (i:Nat) (v:Value) (w:World) (tT:TypeId) (aT:Addr) (eL:Value) (hi:i≤s.size) (hs:s.size≤400) (h:Sv.digB (Sv.pk s.data.toList (Sv.sk s.data.toList i))=false) (hb:PAt b s i v w) (hG:GOk b (.iface tT (.pointer (some aT))) eL w) :
  Calls Tryz.prog 180 #[.pointer (some ⟨b,0,none⟩)] w fun e w'=>∃ y,e=.returned (.tuple #[.int .i64 0,y])∧Bad b (Sv.sk s.data.toList i) (.iface tT (.pointer (some aT))) w y w':=by
 have hle:=Sv.sk_le s.data.toList i (by simpa using hi)
 rw [size_list] at hle
 obtain ⟨hle1,hle2⟩:=hle
 go_enter Tryz.func180,Tryz.ntmps180
 go_wp2_with (go_at_call 88; refine (skip_w b s i v _ hi hs hb).mono ?_; rintro e w1 ⟨rfl,hb1,hg1⟩)
 refine (peek_w b s _ v _ hle2 hs hb1).mono ?_
 rintro e w2 ⟨rfl,n,rfl⟩
 have cT:=(hG.kept hg1).cT
 go_wp2_with (go_at_call 198; refine (isDigit_w _ _).mono ?_; rintro e w3 ⟨rfl,rfl⟩)
 refine (wrong_w b s _ v _ tT aT (hb1.drewN n) cT).mono ?_
 rintro e w4 ⟨f,rfl,hf,hF,hg2⟩
 have hg:=gr_trans hg1 (gr_trans (gr_drewN w1 n _) (gr_any hg2 (some b)))
 have hf':w.heap.size≤f:=Nat.le_trans hg1.size hf
 go_wp2
 go_ret2
 exact ⟨_,rfl,f,rfl,hf',hF,hg⟩
theorem gr_below {w w':World} (h:Below w.heap.size w w') (row:Option Nat):w.grownBy w' row:=⟨h.os,h.tape,h.output,h.size,fun k hk _=>h.block k hk⟩
set_option maxHeartbeats 400000 in
theorem clone_w (s:ByteArray) (w:World) (hs:s.size≤400) :
  Calls Tryz.prog 155 #[.string s] w fun e w'=>e=.returned (.string s)∧w.grownBy w' none:=by
 go_enter Tryz.func155,Tryz.ntmps155
 go_wp2_with (go_at_call 179; refine (Tryz.stringslite_Clone s _ (by omega)).mono ?_; rintro e w1 ⟨rfl,hb1⟩)
 go_ret
 exact ⟨rfl,gr_below hb1 _⟩
theorem Sv.nmF_step (n:Nat) (l:List UInt8) (i:Nat):Sv.nmF (n+1) l i=if Sv.letB (Sv.pk l i)=true then Sv.nmF n l (i+1) else i:=rfl
theorem Sv.nm_first (l:List UInt8) (i:Nat) (h:Sv.nmF 8 l i=i):Sv.letB (Sv.pk l i)=false:=by
 cases hc:Sv.letB (Sv.pk l i)
 ·rfl
 ·exfalso
  rw [show (8:Nat)=7+1 from rfl,Sv.nmF_step,if_pos hc] at h
  have:=(Sv.nmF_le 7 l (i+1) (Sv.let_pos l i hc)).1
  omega
set_option maxHeartbeats 400000 in
theorem name_no (b:Nat) (s:ByteArray) (i:Nat) (v:Value) (w:World) (tT:TypeId) (aT:Addr) (eL:Value) (hi:i≤s.size) (hs:s.size≤400) (h:Sv.nmF 8 s.data.toList i=i) (hb:PAt b s i v w) (hG:GOk b (.iface tT (.pointer (some aT))) eL w) :
  Calls Tryz.prog 125 #[.pointer (some ⟨b,0,none⟩)] w fun e w'=>∃ y,e=.returned (.tuple #[.string ⟨#[]⟩,y])∧Bad b i (.iface tT (.pointer (some aT))) w y w':=by
 have hl:=Sv.nm_first _ _ h
 clear h
 have c1:=hb.c1
 have cT:=hG.cT
 have e1:((i:Int) == (i:Int))=true:=by simp
 go_enter Tryz.func125,Tryz.ntmps125
 go_wp2
 go_loopw [] (fun w'=>w'=w) (fun _=>0)
 case atStart=>rfl
 case round=>
  subst hrel
  go_wp2_with (first | (go_at_call 124; refine (peek_w b s i v _ hi hs hb).mono ?_; rintro e w1 ⟨rfl,n,rfl⟩) | (go_at_call 153; refine (isLetter_w _ _).mono ?_; rintro e w3 ⟨rfl,rfl⟩))
  refine (wrong_w b s _ v _ tT aT (hb.drewN n) cT).mono ?_
  rintro e w4 ⟨f,rfl,hf,hF,hg2⟩
  have hg:=gr_trans (gr_drewN wr n _) (gr_any hg2 (some b))
  go_wp2
  go_ret2
  exact ⟨_,rfl,f,rfl,hf,hF,hg⟩
def Sv.cut (l:List UInt8) (i j:Nat):List UInt8:=(l.take j).drop i
theorem extract_cut (s:ByteArray) (i j:Nat):s.extract i j=⟨(Sv.cut s.data.toList i j).toArray⟩:=by
 apply ByteArray.ext
 rw [ByteArray.data_extract]
 apply Array.ext'
 simp [Sv.cut,Array.toList_extract,List.drop_take]
set_option maxHeartbeats 400000 in
theorem name_yes (b:Nat) (s:ByteArray) (i:Nat) (v:Value) (w:World) (hi:i≤s.size) (hs:s.size≤400) (h:Sv.nmF 8 s.data.toList i≠i) (hb:PAt b s i v w) :
  Calls Tryz.prog 125 #[.pointer (some ⟨b,0,none⟩)] w fun e w'=>e=.returned (.tuple #[.string ⟨(Sv.cut s.data.toList i (Sv.nmF 8 s.data.toList i)).toArray⟩,.nilIface])∧PAt b s (Sv.nmF 8 s.data.toList i) v w'∧w.grownBy w' (some b):=by
 have hnl:=Sv.nmF_le 8 s.data.toList i (by simpa using hi)
 rw [size_list] at hnl
 obtain ⟨hn1,hn2,hn3⟩:=hnl
 obtain ⟨j,hj⟩:∃ j,Sv.nmF 8 s.data.toList i=j:=⟨_,rfl⟩
 rw [hj] at h hn1 hn2 hn3 ⊢
 have HJ:Hid (Sv.nmF 8 s.data.toList i=j):=hj
 clear hj
 have c1:=hb.c1
 go_enter Tryz.func125,Tryz.ntmps125
 go_wp2
 go_loopw [] (fun w'=>∃ k m:Nat,k+m=i+8∧k≤s.size∧i≤k∧PAt b s k v w'∧w.grownBy w' (some b)∧Sv.nmF m s.data.toList k=j) (fun w'=>s.size - atOf b w')
 case atStart=>exact ⟨i,8,rfl,hi,Nat.le_refl _,hb,World.grownBy.refl _ _,HJ.out⟩
 case round=>
  obtain ⟨k,m,hkm,hk,hik,hbk,hg,hnm⟩:=hrel
  have HN:Hid (Sv.nmF m s.data.toList k=j):=hnm
  have HK:Hid (k+m=i+8):=hkm
  have HA:Hid (atOf b wr=k):=hbk.at
  clear hnm hkm c1
  have c1:=hbk.c1
  have f1:=hbk.fz 1
  cases hl:Sv.letB (Sv.pk s.data.toList k)
  ·obtain rfl:k=j:=by
    have:=HN.out
    cases m with
    | zero=>exact this
    | succ m=>rw [Sv.nmF_step,hl] at this; exact this
   have e1:((k:Int) == (i:Int))=false:=by simp; omega
   go_wp2_with (first | (go_at_call 124; refine (peek_w b s k v _ hk hs hbk).mono ?_; rintro e w1 ⟨rfl,n,rfl⟩) | (go_at_call 153; refine (isLetter_w _ _).mono ?_; rintro e w3 ⟨rfl,rfl⟩))
   have c0:=hbk.c0
   have hik':(i:Int)≤(k:Int):=by omega
   have hks':(k:Int)≤(s.size:Int):=by omega
   have hcl:(s.extract i k).size≤400:=by rw [ByteArray.size_extract]; omega
   go_region_with (go_at_call 155; refine (clone_w _ _ hcl).mono ?_; rintro e w1 ⟨rfl,hg1⟩)
   all_goals
    go_wp2
    go_ret2
    exact ⟨by rw [←extract_cut]; rfl,(hbk.drewN _).kept hg1 (by simp),gr_trans hg (gr_trans (gr_drewN wr _ _) (gr_any hg1 _))⟩
  ·have hkp:=Sv.let_pos _ _ hl
   rw [size_list] at hkp
   cases m with
   | zero=>
    obtain rfl:k=j:=HN.out
    have hk8:k=i+8:=HK.out
    have e1:((k:Int) == (i:Int))=false:=by simp; omega
    have e2:decide ((k:Int) < (i:Int)+8)=false:=by simp; omega
    have HK8:Hid (k=i+8):=hk8
    clear hk8
    go_wp2_with (first | (go_at_call 124; refine (peek_w b s k v _ hk hs hbk).mono ?_; rintro e w1 ⟨rfl,n,rfl⟩) | (go_at_call 153; refine (isLetter_w _ _).mono ?_; rintro e w3 ⟨rfl,rfl⟩))
    have c0:=hbk.c0
    have hik':(i:Int)≤(k:Int):=by omega
    have hks':(k:Int)≤(s.size:Int):=by omega
    have hcl:(s.extract i k).size≤400:=by rw [ByteArray.size_extract]; omega
    go_region_with (go_at_call 155; refine (clone_w _ _ hcl).mono ?_; rintro e w1 ⟨rfl,hg1⟩)
    all_goals
     go_wp2
     go_ret2
     exact ⟨by rw [←extract_cut]; rfl,(hbk.drewN _).kept hg1 (by simp),gr_trans hg (gr_trans (gr_drewN wr _ _) (gr_any hg1 _))⟩
   | succ m=>
    have hk8:k < i+8:=by have:=HK.out; omega
    have e2:decide ((k:Int) < (i:Int)+8)=true:=by simp; omega
    go_wp2_with (first | (go_at_call 124; refine (peek_w b s k v _ hk hs hbk).mono ?_; rintro e w1 ⟨rfl,n,rfl⟩) | (go_at_call 153; refine (isLetter_w _ _).mono ?_; rintro e w3 ⟨rfl,rfl⟩))
    go_roundw
    case rel=>exact ⟨k+1,m,by have:=HK.out; omega,by omega,by omega,(PAt.set1 hbk (k+1)),gr_trans hg (gr_trans (gr_set wr b 1 _) (gr_drewN _ _ _)),by have:=HN.out; rw [Sv.nmF_step,hl] at this; exact this⟩
    case measure=>
     have h2:atOf b ((wr.setCell ⟨b,1,none⟩ (.int .i64 ((k+1:Nat):Int))))=k+1:=(PAt.set1 hbk (k+1)).at
     show s.size - atOf b ((wr.setCell ⟨b,1,none⟩ (.int .i64 ((k+1:Nat):Int)))) < s.size - atOf b wr
     rw [h2,HA.out]; omega
end Go.Proofs.YtolhbeekfjnfmaaGreatDoor
namespace Go.Proofs.YtolhbeekfjnfmaaGreatDoor
open Go.RowKit
theorem Sv.ndF_step (n:Nat) (l:List UInt8) (v i:Nat):Sv.ndF (n+1) l v i=if Sv.digB (Sv.pk l i)=true then Sv.ndF n l (v * 10+((Sv.pk l i).toNat - 48)) (i+1) else (v,i):=rfl
theorem Sv.nd_first (l:List UInt8) (i:Nat) (h:(Sv.ndF 9 l 0 i).2=i):Sv.digB (Sv.pk l i)=false:=by
 cases hc:Sv.digB (Sv.pk l i)
 ·rfl
 ·exfalso
  rw [show (9:Nat)=8+1 from rfl,Sv.ndF_step,if_pos hc] at h
  have:=(Sv.ndF_le 8 l (0 * 10+((Sv.pk l i).toNat - 48)) (i+1) (Sv.dig_pos l i hc)).1
  omega
theorem u8_45 (c:UInt8):((c.toNat:Int) == 45)=(c == 45):=u8_inj c 45
def TAt (N:Nat) (x y z:Value) (w:World):Prop:=w.heap[N]?=some (.cells #[x,y,z] 258 (0,0))
theorem TAt.kept {N:Nat} {x y z:Value} {w w':World} {row:Option Nat} (h:TAt N x y z w) (g:w.grownBy w' row) (hne:some N≠row):TAt N x y z w':=by
 unfold TAt; rw [g.block N (Array.getElem?_eq_some_iff.1 h).1 hne]; exact h
theorem TAt.drewN {N:Nat} {x y z:Value} {w:World} (h:TAt N x y z w) (n:Nat):TAt N x y z (w.drewN n):=h
theorem TAt.lt {N:Nat} {x y z:Value} {w:World} (h:TAt N x y z w):N < w.heap.size:=(Array.getElem?_eq_some_iff.1 h).1
theorem TAt.c {N:Nat} {x y z:Value} {w:World} (h:TAt N x y z w):w.cell? ⟨N,0,none⟩=some x∧w.cell? ⟨N,1,none⟩=some y∧w.cell? ⟨N,2,none⟩=some z:=by
 unfold TAt at h; simp [World.cell?,h]
theorem TAt.fz {N:Nat} {x y z:Value} {w:World} (h:TAt N x y z w) (o:Nat):w.frozen? ⟨N,o,none⟩=false:=by
 unfold TAt at h; simp [World.frozen?,h]
theorem gr_set3 (w:World) (N:Nat) (x y z:Value):w.grownBy (((w.setCell ⟨N,0,none⟩ x).setCell ⟨N,1,none⟩ y).setCell ⟨N,2,none⟩ z) (some N):=
 gr_trans (gr_trans (gr_set w N 0 x) (gr_set _ N 1 y)) (gr_set _ N 2 z)
theorem TAt.set3 {N:Nat} {a b c:Value} {w:World} (h:TAt N a b c w) (x y z:Value):TAt N x y z (((w.setCell ⟨N,0,none⟩ x).setCell ⟨N,1,none⟩ y).setCell ⟨N,2,none⟩ z):=by
 unfold TAt at h ⊢
 have h1:=heap_setCell_same w N 0 _ _ x h
 have h2:=heap_setCell_same _ N 1 _ _ y h1
 have h3:=heap_setCell_same _ N 2 _ _ z h2
 rw [h3]; rfl
theorem gr_own {w a c:World} {row:Option Nat} {N:Nat} (h:w.grownBy a row) (k:a.grownBy c (some N)) (hN:w.heap.size≤N):w.grownBy c row:=
 ⟨k.os.trans h.os,k.tape.trans h.tape,k.output.trans h.output,Nat.le_trans h.size k.size,fun i hi hne=>(k.block i (Nat.lt_of_lt_of_le hi h.size) (by simp; omega)).trans (h.block i hi hne)⟩
theorem Bad.own {b i:Nat} {eT x:Value} {w a c:World} {N:Nat} (h:Bad b i eT w x a) (k:a.grownBy c (some N)) (hN:w.heap.size≤N) (hf:∀ f,x=.iface 112 (.pointer (some ⟨f,0,none⟩))→f≠N):Bad b i eT w x c:=by
 obtain ⟨f,hx,hf',hF,hg⟩:=h
 exact ⟨f,hx,hf',hF.kept k (by simpa using hf f hx),gr_own hg k hN⟩
theorem gr_un {w w':World} {n:Nat} {row:Option Nat} (h:(w.drewN n).grownBy w' row):w.grownBy w' row:=⟨h.os,h.tape,h.output,h.size,h.block⟩
set_option maxHeartbeats 400000 in
theorem number_no0 (b:Nat) (s:ByteArray) (i:Nat) (v:Value) (w:World) (tT:TypeId) (aT:Addr) (eL:Value) (hi:i≤s.size) (hs:s.size≤400) (hm:(Sv.pk s.data.toList i == 45)=false) (h:(Sv.ndF 9 s.data.toList 0 i).2=i) (hb:PAt b s i v w) (hG:GOk b (.iface tT (.pointer (some aT))) eL w) :
  Calls Tryz.prog 210 #[.pointer (some ⟨b,0,none⟩)] w fun e w'=>∃ y,e=.returned (.tuple #[.agg #[.int .i64 0,.int .u8 0,.int .i64 0],y])∧Bad b i (.iface tT (.pointer (some aT))) w y w':=by
 have hl:=Sv.nd_first _ _ h
 have em:=(u8_45 (Sv.pk s.data.toList i)).trans hm
 clear h hm
 have hp0:=fun o=>hb.kept (World.grownBy_alloc w o none) (by simp)
 have c1:=fun o=>(hp0 o).c1
 have cT:=fun o=>(hG.kept (World.grownBy_alloc w o (some b))).cT
 have e1:((i:Int) == (i:Int))=true:=by simp
 go_enter Tryz.func210,Tryz.ntmps210
 go_wp2_with (go_at_call 124; refine (peek_w b s i v _ hi hs (hp0 _)).mono ?_; rintro e w1 ⟨rfl,n,rfl⟩)
 go_loopw [6] (fun x w'=>x=.int .i64 0∧w'=(w.alloc (.cells #[.int .i64 0,.int .u8 0,.int .i64 0] 258)).drewN n) (fun _ _=>0)
 case atStart=>exact ⟨rfl,rfl⟩
 case round=>
  obtain ⟨rfl,rfl⟩:=hrel
  go_wp2_with (first | (go_at_call 124; refine (peek_w b s i v _ hi hs ((hp0 _).drewN _)).mono ?_; rintro e w1 ⟨rfl,n2,rfl⟩) | (go_at_call 198; refine (isDigit_w _ _).mono ?_; rintro e w3 ⟨rfl,rfl⟩))
  refine (wrong_w b s _ v _ tT aT ((hp0 _).drewN _) (cT _)).mono ?_
  rintro e w4 ⟨f,rfl,hf,hF,hg2⟩
  have hN:TAt w.heap.size (.int .i64 0) (.int .u8 0) (.int .i64 0) (w.alloc (.cells #[.int .i64 0,.int .u8 0,.int .i64 0] 258)):=heap_alloc_new _ _
  have hN4:=hN.kept (gr_un hg2) (by simp)
  obtain ⟨d0,d1,d2⟩:=hN4.c
  have z0:=hN4.fz 0
  have z1:=hN4.fz 1
  have z2:=hN4.fz 2
  go_wp2
  have k3:=gr_set3 w4 w.heap.size (.int .i64 0) (.int .u8 0) (.int .i64 0)
  obtain ⟨q0,q1,q2⟩:=(hN4.set3 (.int .i64 0) (.int .u8 0) (.int .i64 0)).c
  have hg:=gr_trans (World.grownBy_alloc w (.cells #[.int .i64 0,.int .u8 0,.int .i64 0] 258) (some b)) (gr_any (gr_un hg2) (some b))
  have hf1:w.heap.size+1≤f:=by simpa using hf
  refine bodyPost_ret (v:=.tuple #[.agg #[.int .i64 0,.int .u8 0,.int .i64 0],.iface 112 (.pointer (some ⟨f,0,none⟩))]) (by simp [results,Tryz.results210,go_sem,q0,q1,q2]) rfl ⟨_,rfl,f,rfl,by omega,hF.kept k3 (by simp; omega),gr_own hg k3 (Nat.le_refl _)⟩
theorem int_eq {k:IntKind} {a b:Int} (h:a=b):Value.int k a=Value.int k b:=by rw [h]
theorem Sv.nd_bd (a n d:Nat) (h:(a+1) * 10 ^ (n+1)≤1000000000) (hd:d≤9):(a * 10+d+1) * 10 ^ n≤1000000000:=by
 have h3:(a * 10+d+1) * 10 ^ n≤((a+1) * 10) * 10 ^ n:=Nat.mul_le_mul_right _ (by omega)
 rw [Nat.pow_succ,Nat.mul_comm (10 ^ n) 10,←Nat.mul_assoc] at h
 omega
theorem Sv.nd_bd0 (a n:Nat) (h:(a+1) * 10 ^ n≤1000000000):a < 1000000000:=by
 have:0 < 10 ^ n:=Nat.pow_pos (by omega)
 have:(a+1) * 1≤(a+1) * 10 ^ n:=Nat.mul_le_mul_left _ this
 omega
set_option maxHeartbeats 1000000 in
theorem number_yes0 (b:Nat) (s:ByteArray) (i:Nat) (v:Value) (w:World) (hi:i≤s.size) (hs:s.size≤400) (hm:(Sv.pk s.data.toList i == 45)=false) (rv rk:Nat) (h:Sv.ndF 9 s.data.toList 0 i=(rv,rk)) (hrk:rk≠i) (hb:PAt b s i v w) :
  Calls Tryz.prog 210 #[.pointer (some ⟨b,0,none⟩)] w fun e w'=>e=.returned (.tuple #[.agg #[.int .i64 2,.int .u8 0,.int .i64 rv],.nilIface])∧PAt b s rk v w'∧w.grownBy w' (some b):=by
 have em:=(u8_45 (Sv.pk s.data.toList i)).trans hm
 have HR:Hid (Sv.ndF 9 s.data.toList 0 i=(rv,rk)):=h
 clear h hm
 have hp0:=fun o=>hb.kept (World.grownBy_alloc w o none) (by simp)
 have c1:=fun o=>(hp0 o).c1
 go_enter Tryz.func210,Tryz.ntmps210
 go_wp2_with (go_at_call 124; refine (peek_w b s i v _ hi hs (hp0 _)).mono ?_; rintro e w1 ⟨rfl,n,rfl⟩)
 go_loopw [6] (fun x w'=>∃ k n acc:Nat,k+n=i+9∧k≤s.size∧i≤k∧(acc+1) * 10 ^ n≤1000000000∧x=.int .i64 acc∧PAt b s k v w'∧TAt w.heap.size (.int .i64 0) (.int .u8 0) (.int .i64 0) w'∧w.grownBy w' (some b)∧Sv.ndF n s.data.toList acc k=(rv,rk)) (fun _ w'=>s.size - atOf b w')
 case atStart=>exact ⟨i,9,0,rfl,hi,Nat.le_refl _,by decide,rfl,hp0 _,heap_alloc_new _ _,gr_trans (World.grownBy_alloc w _ (some b)) (gr_drewN _ _ _),HR.out⟩
 case round=>
  obtain ⟨k,m,acc,hkm,hk,hik,hacc,rfl,hbk,hN,hg,hnm⟩:=hrel
  have HN:Hid (Sv.ndF m s.data.toList acc k=(rv,rk)):=hnm
  have HK:Hid (k+m=i+9):=hkm
  have HC:Hid ((acc+1) * 10 ^ m≤1000000000):=hacc
  have HA:Hid (atOf b wr=k):=hbk.at
  have hacc0:=Sv.nd_bd0 acc m hacc
  clear hnm hkm c1 hacc
  have c1:=hbk.c1
  have f1:=hbk.fz 1
  have hne:w.heap.size≠b:=by have:=hb.lt; omega
  obtain ⟨d0,d1,d2⟩:=hN.c
  have z0:=hN.fz 0
  have z1:=hN.fz 1
  have z2:=hN.fz 2
  have hacc1:(0:Int)≤(acc:Int):=by omega
  have hacc2:(acc:Int) < 1000000000:=by omega
  cases hl:Sv.digB (Sv.pk s.data.toList k)
  ·obtain ⟨rfl,rfl⟩:acc=rv∧k=rk:=by
    have:=HN.out
    cases m with
    | zero=>simpa [Sv.ndF] using this
    | succ m=>rw [Sv.ndF_step,hl] at this; simpa using this
   have e1:((k:Int) == (i:Int))=false:=by simp; omega
   go_wp2_with (first | (go_at_call 124; refine (peek_w b s k v _ hk hs hbk).mono ?_; rintro e w1 ⟨rfl,n2,rfl⟩) | (go_at_call 198; refine (isDigit_w _ _).mono ?_; rintro e w3 ⟨rfl,rfl⟩))
   have k3:=gr_set3 (wr.drewN n2) w.heap.size (.int .i64 2) (.int .u8 0) (.int .i64 acc)
   obtain ⟨q0,q1,q2⟩:=((hN.drewN n2).set3 (.int .i64 2) (.int .u8 0) (.int .i64 acc)).c
   refine bodyPost_ret (v:=.tuple #[.agg #[.int .i64 2,.int .u8 0,.int .i64 acc],.nilIface]) (by simp [results,Tryz.results210,go_sem,q0,q1,q2]) rfl ⟨rfl,(hbk.drewN n2).kept k3 (by simp; omega),gr_own (gr_trans hg (gr_drewN _ _ _)) k3 (Nat.le_refl _)⟩
  ·have hkp:=Sv.dig_pos _ _ hl
   rw [size_list] at hkp
   cases m with
   | zero=>
    obtain ⟨rfl,rfl⟩:acc=rv∧k=rk:=by have:=HN.out; simpa [Sv.ndF] using this
    have hk9:k=i+9:=HK.out
    have e1:((k:Int) == (i:Int))=false:=by simp; omega
    have e2:decide ((k:Int) < (i:Int)+9)=false:=by simp; omega
    clear hk9
    go_wp2_with (first | (go_at_call 124; refine (peek_w b s k v _ hk hs hbk).mono ?_; rintro e w1 ⟨rfl,n2,rfl⟩) | (go_at_call 198; refine (isDigit_w _ _).mono ?_; rintro e w3 ⟨rfl,rfl⟩))
    have k3:=gr_set3 (wr.drewN n2) w.heap.size (.int .i64 2) (.int .u8 0) (.int .i64 acc)
    obtain ⟨q0,q1,q2⟩:=((hN.drewN n2).set3 (.int .i64 2) (.int .u8 0) (.int .i64 acc)).c
    refine bodyPost_ret (v:=.tuple #[.agg #[.int .i64 2,.int .u8 0,.int .i64 acc],.nilIface]) (by simp [results,Tryz.results210,go_sem,q0,q1,q2]) rfl ⟨rfl,(hbk.drewN n2).kept k3 (by simp; omega),gr_own (gr_trans hg (gr_drewN _ _ _)) k3 (Nat.le_refl _)⟩
   | succ m=>
    have hk9:k < i+9:=by have:=HK.out; omega
    have e2:decide ((k:Int) < (i:Int)+9)=true:=by simp; omega
    obtain ⟨hr1,hr2⟩:=u8_sub _ hl
    go_wp2_with (first | (go_at_call 124; refine (peek_w b s k v _ hk hs (by first | exact hbk | exact hbk.drewN _)).mono ?_; rintro e w1 ⟨rfl,n2,rfl⟩) | (go_at_call 198; refine (isDigit_w _ _).mono ?_; rintro e w3 ⟨rfl,rfl⟩))
    go_roundw
    case rel=>exact ⟨k+1,m,acc * 10+((Sv.pk s.data.toList k).toNat - 48),by have:=HK.out; omega,by omega,by omega,Sv.nd_bd _ _ _ HC.out (by have:=Sv.dig_rng _ hl; omega),int_eq (by omega),(hbk.drewN _).set1 (k+1),(hN.drewN _).kept (gr_set _ b 1 _) (by simp; omega),gr_trans hg (gr_trans (gr_drewN wr _ _) (gr_set _ b 1 _)),by have:=HN.out; rw [Sv.ndF_step,hl] at this; exact this⟩
    case measure=>
     have h2:atOf b ((wr.setCell ⟨b,1,none⟩ (.int .i64 ((k+1:Nat):Int))))=k+1:=(PAt.set1 hbk (k+1)).at
     show s.size - atOf b ((wr.setCell ⟨b,1,none⟩ (.int .i64 ((k+1:Nat):Int)))) < s.size - atOf b wr
     rw [h2,HA.out]; omega
set_option maxHeartbeats 1000000 in
theorem number_yes1 (b:Nat) (s:ByteArray) (i:Nat) (v:Value) (w:World) (hi:i≤s.size) (hs:s.size≤400) (hm:(Sv.pk s.data.toList i == 45)=true) (rv rk:Nat) (h:Sv.ndF 9 s.data.toList 0 (i+1)=(rv,rk)) (hrk:rk≠i+1) (hb:PAt b s i v w) :
  Calls Tryz.prog 210 #[.pointer (some ⟨b,0,none⟩)] w fun e w'=>e=.returned (.tuple #[.agg #[.int .i64 2,.int .u8 0,.int .i64 (-(rv:Int))],.nilIface])∧PAt b s rk v w'∧w.grownBy w' (some b):=by
 have hi1:=Sv.byte_pos _ _ 45 (by decide) hm
 rw [size_list] at hi1
 have em:=(u8_45 (Sv.pk s.data.toList i)).trans hm
 have HR:Hid (Sv.ndF 9 s.data.toList 0 (i+1)=(rv,rk)):=h
 clear h hm
 have hp0:=fun o=>hb.kept (World.grownBy_alloc w o none) (by simp)
 have c1:=fun o=>(hp0 o).c1
 have f1:=fun o=>(hp0 o).fz 1
 go_enter Tryz.func210,Tryz.ntmps210
 go_wp2_with (go_at_call 124; refine (peek_w b s i v _ hi hs (hp0 _)).mono ?_; rintro e w1 ⟨rfl,n,rfl⟩)
 go_loopw [6] (fun x w'=>∃ k n acc:Nat,k+n=i+1+9∧k≤s.size∧i+1≤k∧(acc+1) * 10 ^ n≤1000000000∧x=.int .i64 acc∧PAt b s k v w'∧TAt w.heap.size (.int .i64 0) (.int .u8 0) (.int .i64 0) w'∧w.grownBy w' (some b)∧Sv.ndF n s.data.toList acc k=(rv,rk)) (fun _ w'=>s.size - atOf b w')
 case atStart=>
  have hN0:TAt w.heap.size (.int .i64 0) (.int .u8 0) (.int .i64 0) (w.alloc (.cells #[.int .i64 0,.int .u8 0,.int .i64 0] 258)):=heap_alloc_new _ _
  exact ⟨i+1,9,0,rfl,by omega,Nat.le_refl _,by decide,rfl,((hp0 _).drewN n).set1 (i+1),(hN0.drewN n).kept (gr_set _ b 1 _) (by simp; have:=hb.lt; omega),gr_trans (gr_trans (World.grownBy_alloc w _ (some b)) (gr_drewN _ n _)) (gr_set _ b 1 _),HR.out⟩
 case round=>
  obtain ⟨k,m,acc,hkm,hk,hik,hacc,rfl,hbk,hN,hg,hnm⟩:=hrel
  have HN:Hid (Sv.ndF m s.data.toList acc k=(rv,rk)):=hnm
  have HK:Hid (k+m=i+1+9):=hkm
  have HC:Hid ((acc+1) * 10 ^ m≤1000000000):=hacc
  have HA:Hid (atOf b wr=k):=hbk.at
  have hacc0:=Sv.nd_bd0 acc m hacc
  clear hnm hkm c1 f1 hacc
  have c1:=hbk.c1
  have f1:=hbk.fz 1
  have hne:w.heap.size≠b:=by have:=hb.lt; omega
  obtain ⟨d0,d1,d2⟩:=hN.c
  have z0:=hN.fz 0
  have z1:=hN.fz 1
  have z2:=hN.fz 2
  have hacc1:(0:Int)≤(acc:Int):=by omega
  have hacc2:(acc:Int) < 1000000000:=by omega
  cases hl:Sv.digB (Sv.pk s.data.toList k)
  ·obtain ⟨rfl,rfl⟩:acc=rv∧k=rk:=by
    have:=HN.out
    cases m with
    | zero=>simpa [Sv.ndF] using this
    | succ m=>rw [Sv.ndF_step,hl] at this; simpa using this
   have e1:((k:Int) == (i:Int)+1)=false:=by simp; omega
   go_wp2_with (first | (go_at_call 124; refine (peek_w b s k v _ hk hs hbk).mono ?_; rintro e w1 ⟨rfl,n2,rfl⟩) | (go_at_call 198; refine (isDigit_w _ _).mono ?_; rintro e w3 ⟨rfl,rfl⟩))
   have k3:=gr_set3 (wr.drewN n2) w.heap.size (.int .i64 2) (.int .u8 0) (.int .i64 (-(acc:Int)))
   obtain ⟨q0,q1,q2⟩:=((hN.drewN n2).set3 (.int .i64 2) (.int .u8 0) (.int .i64 (-(acc:Int)))).c
   refine bodyPost_ret (v:=.tuple #[.agg #[.int .i64 2,.int .u8 0,.int .i64 (-(acc:Int))],.nilIface]) (by simp [results,Tryz.results210,go_sem,q0,q1,q2]) rfl ⟨rfl,(hbk.drewN n2).kept k3 (by simp; omega),gr_own (gr_trans hg (gr_drewN _ _ _)) k3 (Nat.le_refl _)⟩
  ·have hkp:=Sv.dig_pos _ _ hl
   rw [size_list] at hkp
   cases m with
   | zero=>
    obtain ⟨rfl,rfl⟩:acc=rv∧k=rk:=by have:=HN.out; simpa [Sv.ndF] using this
    have hk9:k=i+1+9:=HK.out
    have e1:((k:Int) == (i:Int)+1)=false:=by simp; omega
    have e2:decide ((k:Int) < (i:Int)+1+9)=false:=by simp; omega
    clear hk9
    go_wp2_with (first | (go_at_call 124; refine (peek_w b s k v _ hk hs hbk).mono ?_; rintro e w1 ⟨rfl,n2,rfl⟩) | (go_at_call 198; refine (isDigit_w _ _).mono ?_; rintro e w3 ⟨rfl,rfl⟩))
    have k3:=gr_set3 (wr.drewN n2) w.heap.size (.int .i64 2) (.int .u8 0) (.int .i64 (-(acc:Int)))
    obtain ⟨q0,q1,q2⟩:=((hN.drewN n2).set3 (.int .i64 2) (.int .u8 0) (.int .i64 (-(acc:Int)))).c
    refine bodyPost_ret (v:=.tuple #[.agg #[.int .i64 2,.int .u8 0,.int .i64 (-(acc:Int))],.nilIface]) (by simp [results,Tryz.results210,go_sem,q0,q1,q2]) rfl ⟨rfl,(hbk.drewN n2).kept k3 (by simp; omega),gr_own (gr_trans hg (gr_drewN _ _ _)) k3 (Nat.le_refl _)⟩
   | succ m=>
    have hk9:k < i+1+9:=by have:=HK.out; omega
    have e2:decide ((k:Int) < (i:Int)+1+9)=true:=by simp; omega
    obtain ⟨hr1,hr2⟩:=u8_sub _ hl
    go_wp2_with (first | (go_at_call 124; refine (peek_w b s k v _ hk hs (by first | exact hbk | exact hbk.drewN _)).mono ?_; rintro e w1 ⟨rfl,n2,rfl⟩) | (go_at_call 198; refine (isDigit_w _ _).mono ?_; rintro e w3 ⟨rfl,rfl⟩))
    go_roundw
    case rel=>exact ⟨k+1,m,acc * 10+((Sv.pk s.data.toList k).toNat - 48),by have:=HK.out; omega,by omega,by omega,Sv.nd_bd _ _ _ HC.out (by have:=Sv.dig_rng _ hl; omega),int_eq (by omega),(hbk.drewN _).set1 (k+1),(hN.drewN _).kept (gr_set _ b 1 _) (by simp; omega),gr_trans hg (gr_trans (gr_drewN wr _ _) (gr_set _ b 1 _)),by have:=HN.out; rw [Sv.ndF_step,hl] at this; exact this⟩
    case measure=>
     have h2:atOf b ((wr.setCell ⟨b,1,none⟩ (.int .i64 ((k+1:Nat):Int))))=k+1:=(PAt.set1 hbk (k+1)).at
     show s.size - atOf b ((wr.setCell ⟨b,1,none⟩ (.int .i64 ((k+1:Nat):Int)))) < s.size - atOf b wr
     rw [h2,HA.out]; omega
set_option maxHeartbeats 400000 in
theorem number_no1 (b:Nat) (s:ByteArray) (i:Nat) (v:Value) (w:World) (tT:TypeId) (aT:Addr) (eL:Value) (hi:i≤s.size) (hs:s.size≤400) (hm:(Sv.pk s.data.toList i == 45)=true) (h:(Sv.ndF 9 s.data.toList 0 (i+1)).2=i+1) (hb:PAt b s i v w) (hG:GOk b (.iface tT (.pointer (some aT))) eL w) :
  Calls Tryz.prog 210 #[.pointer (some ⟨b,0,none⟩)] w fun e w'=>∃ y,e=.returned (.tuple #[.agg #[.int .i64 0,.int .u8 0,.int .i64 0],y])∧Bad b (i+1) (.iface tT (.pointer (some aT))) w y w':=by
 have hl:=Sv.nd_first _ _ h
 have hi1:=Sv.byte_pos _ _ 45 (by decide) hm
 rw [size_list] at hi1
 have em:=(u8_45 (Sv.pk s.data.toList i)).trans hm
 clear h hm
 have hp0:=fun o=>hb.kept (World.grownBy_alloc w o none) (by simp)
 have c1:=fun o=>(hp0 o).c1
 have f1:=fun o=>(hp0 o).fz 1
 have e1:((i:Int)+1 == (i:Int)+1)=true:=by simp
 go_enter Tryz.func210,Tryz.ntmps210
 go_wp2_with (go_at_call 124; refine (peek_w b s i v _ hi hs (hp0 _)).mono ?_; rintro e w1 ⟨rfl,n,rfl⟩)
 go_loopw [6] (fun x w'=>x=.int .i64 0∧PAt b s (i+1) v w'∧TAt w.heap.size (.int .i64 0) (.int .u8 0) (.int .i64 0) w'∧w.grownBy w' (some b)) (fun _ _=>0)
 case atStart=>
  have hN0:TAt w.heap.size (.int .i64 0) (.int .u8 0) (.int .i64 0) (w.alloc (.cells #[.int .i64 0,.int .u8 0,.int .i64 0] 258)):=heap_alloc_new _ _
  exact ⟨rfl,((hp0 _).drewN n).set1 (i+1),(hN0.drewN n).kept (gr_set _ b 1 _) (by simp; have:=hb.lt; omega),gr_trans (gr_trans (World.grownBy_alloc w _ (some b)) (gr_drewN _ n _)) (gr_set _ b 1 _)⟩
 case round=>
  obtain ⟨rfl,hbk,hN,hg⟩:=hrel
  clear c1 f1
  have c1:=hbk.c1
  have cT:=(hG.kept hg).cT
  go_wp2_with (first | (go_at_call 124; refine (peek_w b s (i+1) v _ hi1 hs (by first | exact hbk | exact hbk.drewN _)).mono ?_; rintro e w1 ⟨rfl,n2,rfl⟩) | (go_at_call 198; refine (isDigit_w _ _).mono ?_; rintro e w3 ⟨rfl,rfl⟩))
  refine (wrong_w b s _ v _ tT aT (hbk.drewN _) cT).mono ?_
  rintro e w4 ⟨f,rfl,hf,hF,hg2⟩
  have hN4:=hN.kept (gr_un hg2) (by simp)
  obtain ⟨d0,d1,d2⟩:=hN4.c
  have z0:=hN4.fz 0
  have z1:=hN4.fz 1
  have z2:=hN4.fz 2
  go_wp2
  have k3:=gr_set3 w4 w.heap.size (.int .i64 0) (.int .u8 0) (.int .i64 0)
  obtain ⟨q0,q1,q2⟩:=(hN4.set3 (.int .i64 0) (.int .u8 0) (.int .i64 0)).c
  have hg':=gr_trans hg (gr_any (gr_un hg2) (some b))
  have hf1:w.heap.size < f:=Nat.lt_of_lt_of_le hN.lt hf
  refine bodyPost_ret (v:=.tuple #[.agg #[.int .i64 0,.int .u8 0,.int .i64 0],.iface 112 (.pointer (some ⟨f,0,none⟩))]) (by simp [results,Tryz.results210,go_sem,q0,q1,q2]) rfl ⟨_,rfl,f,rfl,by omega,hF.kept k3 (by simp; omega),gr_own hg' k3 (Nat.le_refl _)⟩
def tcells (t:Sv.Term):List Value:=[.int .i64 t.sort,.int .u8 t.letter.toNat,.int .i64 t.value]
def TermPost (b:Nat) (s:ByteArray) (v:Value) (eT:Value) (w:World) (r:Nat ⊕ (Sv.Term×Nat)) (e:Ending) (w':World):Prop:=
 match r with
 | .inl k=>∃ y,e=.returned (.tuple #[.agg #[.int .i64 0,.int .u8 0,.int .i64 0],y])∧Bad b k eT w y w'
 | .inr (t,j)=>e=.returned (.tuple #[.agg (tcells t).toArray,.nilIface])∧PAt b s j v w'∧w.grownBy w' (some b)
theorem number_w (b:Nat) (s:ByteArray) (i:Nat) (v:Value) (w:World) (tT:TypeId) (aT:Addr) (eL:Value) (hi:i≤s.size) (hs:s.size≤400) (hb:PAt b s i v w) (hG:GOk b (.iface tT (.pointer (some aT))) eL w) :
  Calls Tryz.prog 210 #[.pointer (some ⟨b,0,none⟩)] w fun e w'=>TermPost b s v (.iface tT (.pointer (some aT))) w (Sv.number s.data.toList i) e w':=by
 unfold Sv.number
 cases hm:Sv.pk s.data.toList i == 45
 ·simp only [Bool.false_eq_true,if_false]
  by_cases h:(Sv.ndF 9 s.data.toList 0 i).2=i
  ·rw [if_pos h]
   exact number_no0 b s i v w tT aT eL hi hs hm h hb hG
  ·rw [if_neg h]
   exact number_yes0 b s i v w hi hs hm _ _ rfl h hb
 ·simp only [if_true]
  by_cases h:(Sv.ndF 9 s.data.toList 0 (i+1)).2=i+1
  ·rw [if_pos h]
   exact number_no1 b s i v w tT aT eL hi hs hm h hb hG
  ·rw [if_neg h]
   exact number_yes1 b s i v w hi hs hm _ _ rfl h hb
end Go.Proofs.YtolhbeekfjnfmaaGreatDoor
namespace Go.Proofs.YtolhbeekfjnfmaaGreatDoor
open Go.RowKit
theorem u8_95 (c:UInt8):((c.toNat:Int) == 95)=(c == 95):=u8_inj c 95
theorem fin3 {w W:World} {b:Nat} {s:ByteArray} {j:Nat} {v:Value} {N:Nat} {p q r:Value} (hT:TAt N p q r W) (hP:PAt b s j v W) (hg:w.grownBy W (some b)) (hN:w.heap.size≤N) (hne:N≠b) (x y z:Value) :
  TAt N x y z (((W.setCell ⟨N,0,none⟩ x).setCell ⟨N,1,none⟩ y).setCell ⟨N,2,none⟩ z)∧PAt b s j v (((W.setCell ⟨N,0,none⟩ x).setCell ⟨N,1,none⟩ y).setCell ⟨N,2,none⟩ z)∧w.grownBy (((W.setCell ⟨N,0,none⟩ x).setCell ⟨N,1,none⟩ y).setCell ⟨N,2,none⟩ z) (some b):=
 ⟨hT.set3 x y z,hP.kept (gr_set3 W N x y z) (by simpa using fun e=>hne e.symm),gr_own hg (gr_set3 W N x y z) hN⟩
set_option maxHeartbeats 400000 in
theorem term_any (b:Nat) (s:ByteArray) (i:Nat) (v:Value) (w:World) (hi:i≤s.size) (hs:s.size≤400) (h:(Sv.pk s.data.toList i == 95)=true) (hb:PAt b s i v w) :
  Calls Tryz.prog 199 #[.pointer (some ⟨b,0,none⟩)] w fun e w'=>e=.returned (.tuple #[.agg #[.int .i64 0,.int .u8 0,.int .i64 0],.nilIface])∧PAt b s (i+1) v w'∧w.grownBy w' (some b):=by
 have hi1:=Sv.byte_pos _ _ 95 (by decide) h
 rw [size_list] at hi1
 have e1:=(u8_95 (Sv.pk s.data.toList i)).trans h
 clear h
 have hlt:=hb.lt
 have hp0:=fun o=>hb.kept (World.grownBy_alloc w o none) (by simp)
 have c1:=fun o=>(hp0 o).c1
 have f1:=fun o=>(hp0 o).fz 1
 have hN0:TAt w.heap.size (.int .i64 0) (.int .u8 0) (.int .i64 0) (w.alloc (.cells #[.int .i64 0,.int .u8 0,.int .i64 0] 258)):=heap_alloc_new _ _
 go_enter Tryz.func199,Tryz.ntmps199
 go_wp2_with (go_at_call 124; refine (peek_w b s i v _ hi hs (hp0 _)).mono ?_; rintro e w1 ⟨rfl,n,rfl⟩)
 obtain ⟨hT,hP,hg⟩:=fin3 ((hN0.drewN n).kept (gr_set _ b 1 (.int .i64 ((i:Int)+1))) (by simp; omega)) (((hp0 _).drewN n).set1 (i+1)) (gr_trans (gr_trans (World.grownBy_alloc w _ (some b)) (gr_drewN _ n _)) (gr_set _ b 1 _)) (Nat.le_refl _) (by omega) (.int .i64 0) (.int .u8 0) (.int .i64 0)
 obtain ⟨q0,q1,q2⟩:=hT.c
 exact bodyPost_ret (v:=.tuple #[.agg #[.int .i64 0,.int .u8 0,.int .i64 0],.nilIface]) (by simp [results,Tryz.results199,go_sem,q0,q1,q2]) rfl ⟨rfl,hP,hg⟩
set_option maxHeartbeats 400000 in
theorem term_var (b:Nat) (s:ByteArray) (i:Nat) (v:Value) (w:World) (hi:i≤s.size) (hs:s.size≤400) (h0:(Sv.pk s.data.toList i == 95)=false) (h:Sv.letB (Sv.pk s.data.toList i)=true) (hb:PAt b s i v w) :
  Calls Tryz.prog 199 #[.pointer (some ⟨b,0,none⟩)] w fun e w'=>e=.returned (.tuple #[.agg #[.int .i64 1,.int .u8 (Sv.pk s.data.toList i).toNat,.int .i64 0],.nilIface])∧PAt b s (i+1) v w'∧w.grownBy w' (some b):=by
 have hi1:=Sv.let_pos _ _ h
 rw [size_list] at hi1
 have e1:=(u8_95 (Sv.pk s.data.toList i)).trans h0
 clear h0
 have hlt:=hb.lt
 have hp0:=fun o=>hb.kept (World.grownBy_alloc w o none) (by simp)
 have c1:=fun o=>(hp0 o).c1
 have f1:=fun o=>(hp0 o).fz 1
 have hN0:TAt w.heap.size (.int .i64 0) (.int .u8 0) (.int .i64 0) (w.alloc (.cells #[.int .i64 0,.int .u8 0,.int .i64 0] 258)):=heap_alloc_new _ _
 go_enter Tryz.func199,Tryz.ntmps199
 go_wp2_with (first | (go_at_call 124; refine (peek_w b s i v _ hi hs (hp0 _)).mono ?_; rintro e w1 ⟨rfl,n,rfl⟩) | (go_at_call 153; refine (isLetter_w _ _).mono ?_; rintro e w3 ⟨rfl,rfl⟩))
 obtain ⟨hT,hP,hg⟩:=fin3 ((hN0.drewN n).kept (gr_set _ b 1 (.int .i64 ((i:Int)+1))) (by simp; omega)) (((hp0 _).drewN n).set1 (i+1)) (gr_trans (gr_trans (World.grownBy_alloc w _ (some b)) (gr_drewN _ n _)) (gr_set _ b 1 _)) (Nat.le_refl _) (by omega) (.int .i64 1) (.int .u8 (Sv.pk s.data.toList i).toNat) (.int .i64 0)
 obtain ⟨q0,q1,q2⟩:=hT.c
 exact bodyPost_ret (v:=.tuple #[.agg #[.int .i64 1,.int .u8 (Sv.pk s.data.toList i).toNat,.int .i64 0],.nilIface]) (by simp [results,Tryz.results199,go_sem,q0,q1,q2]) rfl ⟨rfl,hP,hg⟩
set_option maxHeartbeats 400000 in
theorem term_none (b:Nat) (s:ByteArray) (i:Nat) (v:Value) (w:World) (tT:TypeId) (aT:Addr) (eL:Value) (hi:i≤s.size) (hs:s.size≤400) (h0:(Sv.pk s.data.toList i == 95)=false) (h1:Sv.letB (Sv.pk s.data.toList i)=false) (h2:(Sv.pk s.data.toList i == 45)=false) (h3:(Sv.digB (Sv.pk s.data.toList i) && !Sv.behind s.data.toList i)=false) (hb:PAt b s i v w) (hG:GOk b (.iface tT (.pointer (some aT))) eL w) :
  Calls Tryz.prog 199 #[.pointer (some ⟨b,0,none⟩)] w fun e w'=>∃ y,e=.returned (.tuple #[.agg #[.int .i64 0,.int .u8 0,.int .i64 0],y])∧Bad b i (.iface tT (.pointer (some aT))) w y w':=by
 have e1:=(u8_95 (Sv.pk s.data.toList i)).trans h0
 have e2:=(u8_45 (Sv.pk s.data.toList i)).trans h2
 clear h0 h2
 have hlt:=hb.lt
 have hp0:=fun o=>hb.kept (World.grownBy_alloc w o none) (by simp)
 have cT:=fun o=>(hG.kept (World.grownBy_alloc w o (some b))).cT
 have hN0:TAt w.heap.size (.int .i64 0) (.int .u8 0) (.int .i64 0) (w.alloc (.cells #[.int .i64 0,.int .u8 0,.int .i64 0] 258)):=heap_alloc_new _ _
 cases hd:Sv.digB (Sv.pk s.data.toList i)
 ·clear h3
  go_enter Tryz.func199,Tryz.ntmps199
  go_wp2_with (first | (go_at_call 124; refine (peek_w b s i v _ hi hs (hp0 _)).mono ?_; rintro e w1 ⟨rfl,n,rfl⟩) | (go_at_call 153; refine (isLetter_w _ _).mono ?_; rintro e w3 ⟨rfl,rfl⟩) | (go_at_call 198; refine (isDigit_w _ _).mono ?_; rintro e w3 ⟨rfl,rfl⟩))
  refine (wrong_w b s _ v _ tT aT ((hp0 _).drewN _) (cT _)).mono ?_
  rintro e w4 ⟨f,rfl,hf,hF,hg2⟩
  have hN4:=hN0.kept (gr_un hg2) (by simp)
  obtain ⟨d0,d1,d2⟩:=hN4.c
  have z0:=hN4.fz 0
  have z1:=hN4.fz 1
  have z2:=hN4.fz 2
  go_wp2
  have k3:=gr_set3 w4 w.heap.size (.int .i64 0) (.int .u8 0) (.int .i64 0)
  obtain ⟨q0,q1,q2⟩:=(hN4.set3 (.int .i64 0) (.int .u8 0) (.int .i64 0)).c
  have hg:=gr_trans (World.grownBy_alloc w (.cells #[.int .i64 0,.int .u8 0,.int .i64 0] 258) (some b)) (gr_any (gr_un hg2) (some b))
  have hf1:w.heap.size+1≤f:=by simpa using hf
  exact bodyPost_ret (v:=.tuple #[.agg #[.int .i64 0,.int .u8 0,.int .i64 0],.iface 112 (.pointer (some ⟨f,0,none⟩))]) (by simp [results,Tryz.results199,go_sem,q0,q1,q2]) rfl ⟨_,rfl,f,rfl,by omega,hF.kept k3 (by simp; omega),gr_own hg k3 (Nat.le_refl _)⟩
 ·have hbd:Sv.behind s.data.toList i=true:=by simpa [hd] using h3
  clear h3
  go_enter Tryz.func199,Tryz.ntmps199
  go_wp2_with (first | (go_at_call 124; refine (peek_w b s i v _ hi hs (hp0 _)).mono ?_; rintro e w1 ⟨rfl,n,rfl⟩) | (go_at_call 153; refine (isLetter_w _ _).mono ?_; rintro e w3 ⟨rfl,rfl⟩) | (go_at_call 198; refine (isDigit_w _ _).mono ?_; rintro e w3 ⟨rfl,rfl⟩) | (go_at_call 209; refine (behind_w b s i v _ hi hs ((hp0 _).drewN _)).mono ?_; rintro e w3 ⟨rfl,n3,rfl⟩))
  refine (wrong_w b s _ v _ tT aT ((hp0 _).drewN _) (cT _)).mono ?_
  rintro e w4 ⟨f,rfl,hf,hF,hg2⟩
  have hN4:=hN0.kept (gr_un hg2) (by simp)
  obtain ⟨d0,d1,d2⟩:=hN4.c
  have z0:=hN4.fz 0
  have z1:=hN4.fz 1
  have z2:=hN4.fz 2
  go_wp2
  have k3:=gr_set3 w4 w.heap.size (.int .i64 0) (.int .u8 0) (.int .i64 0)
  obtain ⟨q0,q1,q2⟩:=(hN4.set3 (.int .i64 0) (.int .u8 0) (.int .i64 0)).c
  have hg:=gr_trans (World.grownBy_alloc w (.cells #[.int .i64 0,.int .u8 0,.int .i64 0] 258) (some b)) (gr_any (gr_un hg2) (some b))
  have hf1:w.heap.size+1≤f:=by simpa using hf
  exact bodyPost_ret (v:=.tuple #[.agg #[.int .i64 0,.int .u8 0,.int .i64 0],.iface 112 (.pointer (some ⟨f,0,none⟩))]) (by simp [results,Tryz.results199,go_sem,q0,q1,q2]) rfl ⟨_,rfl,f,rfl,by omega,hF.kept k3 (by simp; omega),gr_own hg k3 (Nat.le_refl _)⟩
set_option maxHeartbeats 400000 in
theorem term_num (b:Nat) (s:ByteArray) (i:Nat) (v:Value) (w:World) (tT:TypeId) (aT:Addr) (eL:Value) (hi:i≤s.size) (hs:s.size≤400) (h0:(Sv.pk s.data.toList i == 95)=false) (h1:Sv.letB (Sv.pk s.data.toList i)=false) (h2:(Sv.pk s.data.toList i == 45 || (Sv.digB (Sv.pk s.data.toList i) && !Sv.behind s.data.toList i))=true) (hb:PAt b s i v w) (hG:GOk b (.iface tT (.pointer (some aT))) eL w) :
  Calls Tryz.prog 199 #[.pointer (some ⟨b,0,none⟩)] w fun e w'=>TermPost b s v (.iface tT (.pointer (some aT))) w (Sv.number s.data.toList i) e w':=by
 have e1:=(u8_95 (Sv.pk s.data.toList i)).trans h0
 clear h0
 have hlt:=hb.lt
 have hp0:=fun o=>hb.kept (World.grownBy_alloc w o none) (by simp)
 have hG0:=fun o=>(hG.kept (World.grownBy_alloc w o (some b)))
 have hN0:TAt w.heap.size (.int .i64 0) (.int .u8 0) (.int .i64 0) (w.alloc (.cells #[.int .i64 0,.int .u8 0,.int .i64 0] 258)):=heap_alloc_new _ _
 generalize hr:Sv.number s.data.toList i=r
 have HR:Hid (Sv.number s.data.toList i=r):=hr
 clear hr
 have fin:∀ (e:Ending) (w4:World) (n:Nat),TermPost b s v (.iface tT (.pointer (some aT))) ((w.alloc (.cells #[.int .i64 0,.int .u8 0,.int .i64 0] 258)).drewN n) (Sv.number s.data.toList i) e w4→
   ∃ (x y z:Int) (yy:Value),e=.returned (.tuple #[.agg #[.int .i64 x,.int .u8 y,.int .i64 z],yy])∧TAt w.heap.size (.int .i64 0) (.int .u8 0) (.int .i64 0) w4∧TermPost b s v (.iface tT (.pointer (some aT))) w r (.returned (.tuple #[.agg #[.int .i64 x,.int .u8 y,.int .i64 z],yy])) (((w4.setCell ⟨w.heap.size,0,none⟩ (.int .i64 x)).setCell ⟨w.heap.size,1,none⟩ (.int .u8 y)).setCell ⟨w.heap.size,2,none⟩ (.int .i64 z)):=by
  intro e w4 n hp
  rw [HR.out] at hp
  cases r with
  | inl k=>
   obtain ⟨y,rfl,f,rfl,hf,hF,hg⟩:=hp
   have hg':=gr_trans (World.grownBy_alloc w (.cells #[.int .i64 0,.int .u8 0,.int .i64 0] 258) (some b)) (gr_un hg)
   have hf1:w.heap.size+1≤f:=by simpa using hf
   have k3:=gr_set3 w4 w.heap.size (.int .i64 0) (.int .u8 0) (.int .i64 0)
   exact ⟨_,_,_,_,rfl,(hN0.drewN n).kept hg (by simp; omega),_,rfl,f,rfl,by omega,hF.kept k3 (by simp; omega),gr_own hg' k3 (Nat.le_refl _)⟩
  | inr q=>
   obtain ⟨t,j⟩:=q
   obtain ⟨rfl,hP,hg⟩:=hp
   have hg':=gr_trans (World.grownBy_alloc w (.cells #[.int .i64 0,.int .u8 0,.int .i64 0] 258) (some b)) (gr_un hg)
   have hN4:=(hN0.drewN n).kept hg (by simp; omega)
   obtain ⟨_,hP',hg''⟩:=fin3 hN4 hP hg' (Nat.le_refl _) (by omega) (.int .i64 t.sort) (.int .u8 t.letter.toNat) (.int .i64 t.value)
   exact ⟨_,_,_,_,rfl,hN4,rfl,hP',hg''⟩
 cases h45:Sv.pk s.data.toList i == 45
 ·have e2:=(u8_45 (Sv.pk s.data.toList i)).trans h45
  rw [h45] at h2
  simp only [Bool.false_or,Bool.and_eq_true,Bool.not_eq_true'] at h2
  obtain ⟨hd,hbd⟩:=h2
  clear h45
  go_enter Tryz.func199,Tryz.ntmps199
  go_wp2_with (first | (go_at_call 124; refine (peek_w b s i v _ hi hs (hp0 _)).mono ?_; rintro e w1 ⟨rfl,n,rfl⟩) | (go_at_call 153; refine (isLetter_w _ _).mono ?_; rintro e w3 ⟨rfl,rfl⟩) | (go_at_call 198; refine (isDigit_w _ _).mono ?_; rintro e w3 ⟨rfl,rfl⟩) | (go_at_call 209; refine (behind_w b s i v _ hi hs ((hp0 _).drewN _)).mono ?_; rintro e w3 ⟨rfl,n3,rfl⟩))
  refine (number_w b s i v _ tT aT eL hi hs ((hp0 _).drewN _) ((hG0 _).drewN _)).mono ?_
  intro e w4 hp
  obtain ⟨x,y,z,yy,rfl,hN4,hpost⟩:=fin _ _ _ hp
  clear hp fin
  obtain ⟨d0,d1,d2⟩:=hN4.c
  have z0:=hN4.fz 0
  have z1:=hN4.fz 1
  have z2:=hN4.fz 2
  go_wp2
  obtain ⟨q0,q1,q2⟩:=(hN4.set3 (.int .i64 x) (.int .u8 y) (.int .i64 z)).c
  exact bodyPost_ret (v:=.tuple #[.agg #[.int .i64 x,.int .u8 y,.int .i64 z],yy]) (by simp [results,Tryz.results199,go_sem,q0,q1,q2]) rfl hpost
 ·have e2:=(u8_45 (Sv.pk s.data.toList i)).trans h45
  clear h45 h2
  go_enter Tryz.func199,Tryz.ntmps199
  go_wp2_with (first | (go_at_call 124; refine (peek_w b s i v _ hi hs (hp0 _)).mono ?_; rintro e w1 ⟨rfl,n,rfl⟩) | (go_at_call 153; refine (isLetter_w _ _).mono ?_; rintro e w3 ⟨rfl,rfl⟩))
  refine (number_w b s i v _ tT aT eL hi hs ((hp0 _).drewN _) ((hG0 _).drewN _)).mono ?_
  intro e w4 hp
  obtain ⟨x,y,z,yy,rfl,hN4,hpost⟩:=fin _ _ _ hp
  clear hp fin
  obtain ⟨d0,d1,d2⟩:=hN4.c
  have z0:=hN4.fz 0
  have z1:=hN4.fz 1
  have z2:=hN4.fz 2
  go_wp2
  obtain ⟨q0,q1,q2⟩:=(hN4.set3 (.int .i64 x) (.int .u8 y) (.int .i64 z)).c
  exact bodyPost_ret (v:=.tuple #[.agg #[.int .i64 x,.int .u8 y,.int .i64 z],yy]) (by simp [results,Tryz.results199,go_sem,q0,q1,q2]) rfl hpost
theorem term_w (b:Nat) (s:ByteArray) (i:Nat) (v:Value) (w:World) (tT:TypeId) (aT:Addr) (eL:Value) (hi:i≤s.size) (hs:s.size≤400) (hb:PAt b s i v w) (hG:GOk b (.iface tT (.pointer (some aT))) eL w) :
  Calls Tryz.prog 199 #[.pointer (some ⟨b,0,none⟩)] w fun e w'=>TermPost b s v (.iface tT (.pointer (some aT))) w (Sv.term s.data.toList i) e w':=by
 unfold Sv.term
 cases h0:Sv.pk s.data.toList i == 95
 ·rw [if_neg (by simp)]
  cases h1:Sv.letB (Sv.pk s.data.toList i)
  ·rw [if_neg (by simp)]
   cases h2:Sv.pk s.data.toList i == 45 || (Sv.digB (Sv.pk s.data.toList i) && !Sv.behind s.data.toList i)
   ·rw [if_neg (by simp)]
    rw [Bool.or_eq_false_iff] at h2
    exact term_none b s i v w tT aT eL hi hs h0 h1 h2.1 h2.2 hb hG
   ·rw [if_pos rfl]
    exact term_num b s i v w tT aT eL hi hs h0 h1 h2 hb hG
  ·rw [if_pos rfl]
   exact term_var b s i v w hi hs h0 h1 hb
 ·rw [if_pos rfl]
  exact term_any b s i v w hi hs h0 hb
end Go.Proofs.YtolhbeekfjnfmaaGreatDoor
namespace Go.Proofs.YtolhbeekfjnfmaaGreatDoor
open Go.RowKit
def TsAt (base:Nat) (u:Value) (ts:List Sv.Term) (w:World):Prop:=w.ownsRow base 258 3 u ts.length (ts.flatMap tcells)
theorem TsAt.slice {base:Nat} {u:Value} {ts:List Sv.Term} {w:World} (h:TsAt base u ts w):∃ ao cap,u=.slice ao ts.length cap:=by
 rcases h.2 with ⟨h1,h2⟩ | ⟨g,cap,cur,h1,_⟩
 ·exact ⟨none,0,by rw [h2]; exact h1⟩
 ·exact ⟨_,_,h1⟩
theorem own_kept {w w':World} {base:Nat} {e:TypeId} {size:Nat} {v:Value} {n:Nat} {xs:List Value} {b:Nat} (h:w.ownsRow base e size v n xs) (hg:w.grownBy w' (some b)) {cs:Array Value} {T:TypeId} {fz:Nat×Nat} (hb:w.heap[b]?=some (.cells cs T fz)) (hne:T≠e):w'.ownsRow base e size v n xs:=by
 refine h.kept hg ?_
 rcases h.2 with ⟨h1,_⟩ | ⟨g,cap,cur,h1,_,h2,_⟩
 ·exact .inl (by rw [h1]; rfl)
 ·refine .inr ?_
  rw [h1]
  intro e1
  have e2:g=b:=by simpa [Value.ownBlock] using e1
  subst e2
  rw [h2] at hb
  simp at hb
  exact hne hb.2.1.symm
theorem TsAt.kept {base:Nat} {u:Value} {ts:List Sv.Term} {w w':World} {b:Nat} {s:ByteArray} {i:Nat} {v:Value} (h:TsAt base u ts w) (hb:PAt b s i v w) (hg:w.grownBy w' (some b)):TsAt base u ts w':=
 own_kept h hg hb (by decide)
def RowOk (base:Nat) (e:TypeId) (row:Option Nat) (w:World):Prop:=∀ g,row=some g→base≤g∧∃ cur fz,w.heap[g]?=some (.cells cur e fz)
theorem RowOk.of {w:World} {base:Nat} {e:TypeId} {size:Nat} {v:Value} {n:Nat} {xs:List Value} (h:w.ownsRow base e size v n xs):RowOk base e v.ownBlock w:=by
 intro g hg
 rcases h.2 with ⟨h1,_⟩ | ⟨g',cap,cur,h1,h2,h3,_⟩
 ·rw [h1] at hg; simp [Value.ownBlock] at hg
 ·rw [h1] at hg
  simp [Value.ownBlock] at hg
  subst hg
  exact ⟨h2,cur,_,h3⟩
theorem gr_owns {w a c:World} {r row:Option Nat} {e:TypeId} (h:w.grownBy a r) (k:a.grownBy c row) (hr:RowOk w.heap.size e row a):w.grownBy c r:=
 ⟨k.os.trans h.os,k.tape.trans h.tape,k.output.trans h.output,Nat.le_trans h.size k.size,fun i hi hne=>(k.block i (Nat.lt_of_lt_of_le hi h.size) (fun e=>by have:=(hr i e.symm).1; omega)).trans (h.block i hi hne)⟩
theorem PAt.row {b:Nat} {s:ByteArray} {j:Nat} {v:Value} {w w':World} {row:Option Nat} {base:Nat} {e:TypeId} (h:PAt b s j v w) (hg:w.grownBy w' row) (hr:RowOk base e row w) (he:e≠117):PAt b s j v w':=by
 refine h.kept hg (fun e1=>?_)
 obtain ⟨_,cur,fz,h2⟩:=hr b e1.symm
 unfold PAt at h
 rw [h] at h2
 simp at h2
 exact he h2.2.1.symm
theorem FAt.row {f i:Nat} {x:Value} {w w':World} {row:Option Nat} {base:Nat} {e:TypeId} (h:FAt f i x w) (hg:w.grownBy w' row) (hr:RowOk base e row w) (he:e≠114):FAt f i x w':=by
 refine h.kept hg (fun e1=>?_)
 obtain ⟨_,cur,fz,h2⟩:=hr f e1.symm
 unfold FAt at h
 rw [h] at h2
 simp at h2
 exact he h2.2.1.symm
theorem St.row {b:Nat} {s:ByteArray} {j:Nat} {f:Bool} {eT eL:Value} {w w':World} {row:Option Nat} {base:Nat} {e:TypeId} (h:St b s j f eT eL w) (hg:w.grownBy w' row) (hr:RowOk base e row w) (he:e≠117) (he2:e≠114) (_hT:2 < base) (_hL:0 < base):St b s j f eT eL w':=by
 obtain ⟨v,hp,hx,hG⟩:=h
 refine ⟨v,hp.row hg hr he,?_,hG.nT,hG.nL,hg.cell hG.cT (fun e=>?_),hg.cell hG.cL (fun e=>?_)⟩
 ·rcases hx with hx | ⟨h1,k,i,h2,h3,h4⟩
  ·exact .inl hx
  ·exact .inr ⟨h1,k,i,h2,h3,h4.row hg hr he2⟩
 ·have:=(hr _ e.symm).1; simp at this; omega
 ·have:=(hr _ e.symm).1; simp at this; omega
theorem St.base {b:Nat} {s:ByteArray} {j:Nat} {f:Bool} {eT eL:Value} {w:World} (h:St b s j f eT eL w):2 < w.heap.size∧0 < w.heap.size∧b < w.heap.size:=by
 obtain ⟨v,hp,hx,hG⟩:=h
 exact ⟨World.block_lt_of_cell? w _ hG.cT,World.block_lt_of_cell? w _ hG.cL,hp.lt⟩
theorem St.at {b:Nat} {s:ByteArray} {j:Nat} {f:Bool} {eT eL:Value} {w:World} (h:St b s j f eT eL w):atOf b w=j:=by
 obtain ⟨v,hp,_⟩:=h
 exact hp.at
theorem RowOk.none (base:Nat) (e:TypeId) (w:World):RowOk base e none w:=by intro g hg; cases hg
theorem Tryz.infoTerm:(Tryz.prog.info? 258).map (fun i=>(i.zero,i.size,i.bytes))=some (some (.agg #[.int .i64 0,.int .u8 0,.int .i64 0]),3,24):=by kernel_rfl
theorem flag_more (f:Bool) (m n:Nat):(f || decide (m < n+1))=(f || decide (m < n) || decide (m≤n)):=by
 cases f
 ·rw [Bool.eq_iff_iff]
  simp only [Bool.false_or,Bool.or_eq_true,decide_eq_true_eq]
  omega
 ·simp
theorem Sv.tmF_step (n:Nat) (l:List UInt8) (acc:List Sv.Term) (i:Nat):Sv.tmF (n+1) l acc i=
  if (Sv.pk l (Sv.sk l i) == 41)=true then .inr (acc,Sv.sk l i+1)
  else match Sv.term l (Sv.sk l i) with
   | .inl k=>.inl k
   | .inr (t,j)=>Sv.tmF n l (acc ++ [t]) j:=rfl
def TermsPost (b:Nat) (s:ByteArray) (f:Bool) (eT eL:Value) (w:World) (r:Nat ⊕ (List Sv.Term×Nat)) (e:Ending) (w':World):Prop:=
 match r with
 | .inl k=>∃ y,e=.returned (.tuple #[.slice none 0 0,y])∧Bad b k eT w y w'
 | .inr (ts,j)=>∃ u,e=.returned (.tuple #[u,.nilIface])∧TsAt w.heap.size u ts w'∧St b s j (f || decide (4 < ts.length)) eT eL w'∧w.grownBy w' (some b)
set_option maxHeartbeats 1000000 in
set_option maxRecDepth 100000 in
theorem terms_w (b:Nat) (s:ByteArray) (i:Nat) (f:Bool) (tT:TypeId) (aT:Addr) (tL:TypeId) (aL:Addr) (w:World) (hi:i≤s.size) (hs:s.size≤400)
  (hb:St b s i f (.iface tT (.pointer (some aT))) (.iface tL (.pointer (some aL))) w) :
  Calls Tryz.prog 181 #[.pointer (some ⟨b,0,none⟩)] w fun e w'=>TermsPost b s f (.iface tT (.pointer (some aT))) (.iface tL (.pointer (some aL))) w (Sv.terms s.data.toList i) e w':=by
 obtain ⟨i0,hinf,hz0,hz1,hz2⟩:=info_parts Tryz.infoTerm
 generalize hr:Sv.terms s.data.toList i=r
 have HR:Hid (Sv.terms s.data.toList i=r):=hr
 clear hr
 go_enter Tryz.func181,Tryz.ntmps181
 go_wp2
 go_loopw [4] (fun u w'=>∃ (k n:Nat) (acc:List Sv.Term),s.size < k+n∧k≤s.size∧acc.length≤k∧TsAt w.heap.size u acc w'∧St b s k (f || decide (4 < acc.length)) (.iface tT (.pointer (some aT))) (.iface tL (.pointer (some aL))) w'∧w.grownBy w' (some b)∧Sv.tmF n s.data.toList acc k=r) (fun _ w'=>s.size - atOf b w')
 case atStart=>exact ⟨i,s.data.toList.length+1,[],by simp; omega,hi,Nat.zero_le _,World.ownsRow_nil _ _ _ _,by simpa using hb,World.grownBy.refl _ _,HR.out⟩
 case round=>
  obtain ⟨k,m,acc,hkm,hk,hacc,hts,hst,hg,hnm⟩:=hrel
  obtain ⟨m,rfl⟩:∃ m',m=m'+1:=⟨m - 1,by omega⟩
  rw [Sv.tmF_step] at hnm
  obtain ⟨vx,hbk,hex,hG⟩:=hst
  have HA:Hid (atOf b wr=k):=hbk.at
  have hle:=Sv.sk_le s.data.toList k (by simpa using hk)
  rw [size_list] at hle
  obtain ⟨hle1,hle2⟩:=hle
  obtain ⟨ao,cap,rfl⟩:=hts.slice
  cases h41:Sv.pk s.data.toList (Sv.sk s.data.toList k) == 41
  ·rw [h41,if_neg (by simp)] at hnm
   have HN:Hid ((match Sv.term s.data.toList (Sv.sk s.data.toList k) with
    | .inl k=>.inl k
    | .inr (t,j)=>Sv.tmF m s.data.toList (acc ++ [t]) j)=r):=hnm
   clear hnm
   have hok:=Sv.term_ok s.data.toList (Sv.sk s.data.toList k) (by simpa using hle2)
   go_wp2_with (go_at_call 156; refine (take_no b s k vx 41 _ rfl _ hk hs h41 hbk).mono ?_; rintro e w1 ⟨rfl,hb1,hg1⟩)
   refine (note_w b s _ _ tT aT tL aL w1 acc.length 4 _ _ rfl rfl (St.step hb1 hex hG hg1)).mono ?_
   rintro e w2 ⟨rfl,⟨vy,hb2,hex2,hG2⟩,hg2⟩
   have hts2:=(hts.kept hbk hg1).kept hb1 hg2
   have hg02:=gr_trans hg (gr_trans hg1 hg2)
   clear hts hbk hex hG hb1 hg1 hg2 hg
   go_wp2_with fail
   refine (term_w b s _ vy _ tT aT _ hle2 hs hb2 hG2).mono ?_
   intro e w3 hp
   have HNo:=HN.out
   clear HN
   cases hr:Sv.term s.data.toList (Sv.sk s.data.toList k) with
   | inl q=>
    rw [hr] at hp HNo
    obtain ⟨y,rfl,ff,rfl,hf,hF,hg3⟩:=hp
    simp only at HNo
    subst HNo
    have hf':w.heap.size≤ff:=Nat.le_trans hg02.size hf
    have hg03:=gr_trans hg02 hg3
    clear hts2 hex2 hG2 hb2 hok hr
    go_wp2
    go_ret2
    exact ⟨_,rfl,ff,rfl,hf',hF.kept (World.grownBy_alloc w3 _ none) (by simp),gr_trans hg03 (World.grownBy_alloc w3 _ _)⟩
   | inr q=>
    obtain ⟨tm,j⟩:=q
    rw [hr] at hp HNo hok
    obtain ⟨he,hb3,hg3⟩:=hp
    have he':e=.returned (.tuple #[.agg #[.int .i64 tm.sort,.int .u8 tm.letter.toNat,.int .i64 tm.value],.nilIface]):=he
    clear he
    subst he'
    obtain ⟨hok1,hok2⟩:=hok
    rw [size_list] at hok2
    have HN:Hid (Sv.tmF m s.data.toList (acc ++ [tm]) j=r):=HNo
    clear HNo hr
    have hts3:=hts2.kept hb2 hg3
    have hst3:St b s j ((f || decide (4 < acc.length)) || decide (4≤acc.length)) (.iface tT (.pointer (some aT))) (.iface tL (.pointer (some aL))) w3:=St.step hb3 hex2 hG2 hg3
    have hg03:=gr_trans hg02 hg3
    clear hts2 hex2 hG2 hb2
    obtain ⟨hbT,hbL,hbB⟩:=hb.base
    have hrow:=RowOk.of ((hts3.alloc (.cells #[.int .i64 tm.sort,.int .u8 tm.letter.toNat,.int .i64 tm.value] 258)).alloc (.cells #[.int .i64 tm.sort,.int .u8 tm.letter.toNat,.int .i64 tm.value] 258))
    have hgA:=World.grownBy_alloc w3 (.cells #[.int .i64 tm.sort,.int .u8 tm.letter.toNat,.int .i64 tm.value] 258) none
    have hgB:=gr_trans hgA (World.grownBy_alloc (w3.alloc (.cells #[.int .i64 tm.sort,.int .u8 tm.letter.toNat,.int .i64 tm.value] 258)) (.cells #[.int .i64 tm.sort,.int .u8 tm.letter.toNat,.int .i64 tm.value] 258) none)
    have hst5:=hst3.row hgB (RowOk.none w.heap.size 258 w3) (by decide) (by decide) hbT hbL
    have hg05:=gr_trans hg03 (gr_any hgB (some b))
    have hsz3:=hg03.size
    clear hgA hgB
    go_wp2_with (at_builtin; refine wpList_append_own _ rfl _ _ 198 rfl w.heap.size 258 i0 (.agg #[.int .i64 0,.int .u8 0,.int .i64 0]) 3 24 Tryz.underlying198 hinf hz0 hz1 hz2 rfl (by decide) _ acc.length (acc.flatMap tcells) rfl ((hts3.alloc _).alloc _) ⟨w3.heap.size+1,0,none⟩ 1 1 (tcells tm) rfl rfl ?c1 ?c2 ?c3 ?c4 ?c5 ?_)
    case c1=>
     intro jj u hu
     match jj,hu with
     | 0,hu=>simp [tcells] at hu; subst hu; simp [Addr.add]
     | 1,hu=>simp [tcells] at hu; subst hu; simp [Addr.add]
     | 2,hu=>simp [tcells] at hu; subst hu; simp [Addr.add]
     | n+3,hu=>simp [tcells] at hu
    case c2=>
     intro u hu
     simp [tcells] at hu
     rcases hu with rfl | rfl | rfl<;>rfl
    case c3=>unfold maxLen; omega
    case c4=>omega
    case c5=>simp; omega
    intro v' w4 hown hgrow _
    have hst4:=hst5.row hgrow hrow (by decide) (by decide) hbT hbL
    have hg04:=gr_owns hg05 hgrow hrow
    have HA4:Hid (atOf b w4=j):=hst4.at
    have hts4:TsAt w.heap.size v' (acc ++ [tm]) w4:=by
     unfold TsAt
     rw [List.length_append,List.flatMap_append]
     simpa using hown
    clear hown hgrow hst5 hg05 hst3 hts3 hrow
    go_wp2
    go_roundw
    case rel=>exact ⟨j,m,acc ++ [tm],by omega,by omega,by simp; omega,hts4,by rw [List.length_append,List.length_singleton,flag_more]; exact hst4,hg04,HN.out⟩
    case measure=>rw [HA4.out,HA.out]; omega
  ·rw [h41,if_pos rfl] at hnm
   subst hnm
   go_wp2_with (go_at_call 156; refine (take_yes b s k vx 41 _ rfl _ hk hs h41 hbk).mono ?_; rintro e w1 ⟨rfl,hb1,hg1⟩)
   go_ret2
   exact ⟨_,rfl,hts.kept hbk hg1,St.step hb1 hex hG hg1,gr_trans hg hg1⟩
end Go.Proofs.YtolhbeekfjnfmaaGreatDoor
namespace Go.Proofs.YtolhbeekfjnfmaaGreatDoor
open Go.RowKit
theorem hide {p:Prop} (h:p):Hid p:=h
theorem unhide {p:Prop} (h:Hid p):p:=h
def C3 (T:TypeId) (N:Nat) (x y z:Value) (w:World):Prop:=w.heap[N]?=some (.cells #[x,y,z] T (0,0))
theorem C3.lt {T:TypeId} {N:Nat} {x y z:Value} {w:World} (h:C3 T N x y z w):N < w.heap.size:=(Array.getElem?_eq_some_iff.1 h).1
theorem C3.kept {T:TypeId} {N:Nat} {x y z:Value} {w w':World} {row:Option Nat} (h:C3 T N x y z w) (g:w.grownBy w' row) (hne:some N≠row):C3 T N x y z w':=by
 unfold C3; rw [g.block N h.lt hne]; exact h
theorem C3.c {T:TypeId} {N:Nat} {x y z:Value} {w:World} (h:C3 T N x y z w):w.cell? ⟨N,0,none⟩=some x∧w.cell? ⟨N,1,none⟩=some y∧w.cell? ⟨N,2,none⟩=some z:=by
 unfold C3 at h; simp [World.cell?,h]
theorem C3.fz {T:TypeId} {N:Nat} {x y z:Value} {w:World} (h:C3 T N x y z w) (o:Nat):w.frozen? ⟨N,o,none⟩=false:=by
 unfold C3 at h; simp [World.frozen?,h]
theorem C3.set3 {T:TypeId} {N:Nat} {a b c:Value} {w:World} (h:C3 T N a b c w) (x y z:Value):C3 T N x y z (((w.setCell ⟨N,0,none⟩ x).setCell ⟨N,1,none⟩ y).setCell ⟨N,2,none⟩ z):=by
 unfold C3 at h ⊢
 have h1:=heap_setCell_same w N 0 _ _ x h
 have h2:=heap_setCell_same _ N 1 _ _ y h1
 have h3:=heap_setCell_same _ N 2 _ _ z h2
 rw [h3]; rfl
theorem bad_fin3 {b k f:Nat} {eT:Value} {w W0 W:World} {N:Nat} (hf:W0.heap.size≤f) (hF:FAt f k eT W) (hg:W0.grownBy W (some b)) (hg0:w.grownBy W0 (some b)) (hlt:N < W0.heap.size) (hN:w.heap.size≤N) (x y z:Value) :
  Bad b k eT w (.iface 112 (.pointer (some ⟨f,0,none⟩))) (((W.setCell ⟨N,0,none⟩ x).setCell ⟨N,1,none⟩ y).setCell ⟨N,2,none⟩ z):=
 ⟨f,rfl,Nat.le_trans hg0.size hf,hF.kept (gr_set3 W N x y z) (by simp; omega),gr_own (gr_trans hg0 hg) (gr_set3 W N x y z) hN⟩
theorem RowOk.one {T:TypeId} {N base:Nat} {x y z:Value} {w:World} (h:C3 T N x y z w) (hb:base≤N):RowOk base T (some N) w:=by
 intro g hg
 cases hg
 exact ⟨hb,_,_,h⟩
theorem own_weak {w:World} {base base':Nat} {e:TypeId} {size:Nat} {v:Value} {n:Nat} {xs:List Value} (h:w.ownsRow base e size v n xs) (hb:base'≤base):w.ownsRow base' e size v n xs:=by
 refine ⟨h.1,?_⟩
 rcases h.2 with h1 | ⟨g,cap,cur,h1,h2,h3⟩
 ·exact .inl h1
 ·exact .inr ⟨g,cap,cur,h1,Nat.le_trans hb h2,h3⟩
def CondPost (b:Nat) (s:ByteArray) (f:Bool) (eT eL:Value) (w:World) (r:Nat ⊕ (Sv.Cond×Nat)) (e:Ending) (w':World):Prop:=
 match r with
 | .inl k=>∃ y,e=.returned (.tuple #[.agg #[.bool false,.int .i64 0,.slice none 0 0],y])∧Bad b k eT w y w'
 | .inr (c,j)=>∃ u,e=.returned (.tuple #[.agg #[.bool c.neg,.int .i64 c.kind,u],.nilIface])∧TsAt w.heap.size u c.terms w'∧St b s j (f || Sv.exC c) eT eL w'∧w.grownBy w' (some b)
theorem Sv.cond_neg (l:List UInt8) (i:Nat) (c:Sv.Cond) (j:Nat) (h:Sv.cond l i=.inr (c,j)):c.neg=false:=by
 unfold Sv.cond at h
 simp only at h
 split at h
 ·split at h
  ·split at h
   ·cases h
   ·simp only [Sum.inr.injEq,Prod.mk.injEq] at h
    rw [←h.1]
  ·cases h
 ·cases h
set_option maxHeartbeats 400000 in
theorem cond_no1 (b:Nat) (s:ByteArray) (i:Nat) (f:Bool) (tT:TypeId) (aT:Addr) (tL:TypeId) (aL:Addr) (w:World) (hi:i≤s.size) (hs:s.size≤400)
  (hb:St b s i f (.iface tT (.pointer (some aT))) (.iface tL (.pointer (some aL))) w) (h:(Sv.pk s.data.toList (Sv.sk s.data.toList i) == 40)=false) :
  Calls Tryz.prog 157 #[.pointer (some ⟨b,0,none⟩)] w fun e w'=>∃ y,e=.returned (.tuple #[.agg #[.bool false,.int .i64 0,.slice none 0 0],y])∧Bad b (Sv.sk s.data.toList i) (.iface tT (.pointer (some aT))) w y w':=by
 obtain ⟨v,hp,hex,hG⟩:=hb
 have hp0:=fun o=>hp.kept (World.grownBy_alloc w o none) (by simp)
 have hG0:=fun o=>hG.kept (World.grownBy_alloc w o (some b))
 have hN0:C3 200 w.heap.size (.bool false) (.int .i64 0) (.slice none 0 0) (w.alloc (.cells #[.bool false,.int .i64 0,.slice none 0 0] 200)):=heap_alloc_new _ _
 have hlt:=hp.lt
 go_enter Tryz.func157,Tryz.ntmps157
 go_wp2_with fail
 refine (expect_no b s i v 40 _ rfl _ tT aT _ hi hs h (hp0 _) (hG0 _)).mono ?_
 rintro e w1 ⟨y,rfl,ff,rfl,hf,hF,hg⟩
 have hN1:=hN0.kept hg (by simp; omega)
 obtain ⟨d0,d1,d2⟩:=hN1.c
 have z0:=hN1.fz 0
 have z1:=hN1.fz 1
 have z2:=hN1.fz 2
 have hbad:=bad_fin3 hf hF hg (World.grownBy_alloc w _ (some b)) hN0.lt (Nat.le_refl _) (.bool false) (.int .i64 0) (.slice none 0 0)
 clear hf hF hg
 go_wp2
 obtain ⟨q0,q1,q2⟩:=(hN1.set3 (.bool false) (.int .i64 0) (.slice none 0 0)).c
 exact bodyPost_ret (v:=.tuple #[.agg #[.bool false,.int .i64 0,.slice none 0 0],.iface 112 (.pointer (some ⟨ff,0,none⟩))]) (by simp [results,Tryz.results157,go_sem,q0,q1,q2]) rfl ⟨_,rfl,hbad⟩
set_option maxHeartbeats 400000 in
theorem cond_no2 (b:Nat) (s:ByteArray) (i:Nat) (f:Bool) (tT:TypeId) (aT:Addr) (tL:TypeId) (aL:Addr) (w:World) (hi:i≤s.size) (hs:s.size≤400)
  (hb:St b s i f (.iface tT (.pointer (some aT))) (.iface tL (.pointer (some aL))) w) (h:(Sv.pk s.data.toList (Sv.sk s.data.toList i) == 40)=true) (h2:Sv.digB (Sv.pk s.data.toList (Sv.sk s.data.toList (Sv.sk s.data.toList i+1)))=false) :
  Calls Tryz.prog 157 #[.pointer (some ⟨b,0,none⟩)] w fun e w'=>∃ y,e=.returned (.tuple #[.agg #[.bool false,.int .i64 0,.slice none 0 0],y])∧Bad b (Sv.sk s.data.toList (Sv.sk s.data.toList i+1)) (.iface tT (.pointer (some aT))) w y w':=by
 obtain ⟨v,hp,hex,hG⟩:=hb
 have hp0:=fun o=>hp.kept (World.grownBy_alloc w o none) (by simp)
 have hG0:=fun o=>hG.kept (World.grownBy_alloc w o (some b))
 have hN0:C3 200 w.heap.size (.bool false) (.int .i64 0) (.slice none 0 0) (w.alloc (.cells #[.bool false,.int .i64 0,.slice none 0 0] 200)):=heap_alloc_new _ _
 have hlt:=hp.lt
 have hp1:=Sv.byte_pos _ _ 40 (by decide) h
 rw [size_list] at hp1
 go_enter Tryz.func157,Tryz.ntmps157
 go_wp2_with (go_at_call 126; refine (expect_yes b s i v 40 _ rfl _ hi hs h (hp0 _)).mono ?_; rintro e w1 ⟨rfl,hb1,hg1⟩)
 refine (kind_no b s _ v w1 tT aT _ hp1 hs h2 hb1 ((hG0 _).kept hg1)).mono ?_
 rintro e w2 ⟨y,rfl,ff,rfl,hf,hF,hg2⟩
 have hN1:=hN0.kept hg1 (by simp; omega)
 have hN2:=hN1.kept hg2 (by simp; omega)
 obtain ⟨d0,d1,d2⟩:=hN2.c
 have z0:=hN2.fz 0
 have z1:=hN2.fz 1
 have z2:=hN2.fz 2
 have hbad:=bad_fin3 hf hF hg2 (gr_trans (World.grownBy_alloc w _ (some b)) hg1) hN1.lt (Nat.le_refl _) (.bool false) (.int .i64 0) (.slice none 0 0)
 clear hf hF hg1 hg2
 go_wp2
 obtain ⟨q0,q1,q2⟩:=(hN2.set3 (.bool false) (.int .i64 0) (.slice none 0 0)).c
 exact bodyPost_ret (v:=.tuple #[.agg #[.bool false,.int .i64 0,.slice none 0 0],.iface 112 (.pointer (some ⟨ff,0,none⟩))]) (by simp [results,Tryz.results157,go_sem,q0,q1,q2]) rfl ⟨_,rfl,hbad⟩
set_option maxHeartbeats 400000 in
theorem cond_yes (b:Nat) (s:ByteArray) (i:Nat) (f:Bool) (tT:TypeId) (aT:Addr) (tL:TypeId) (aL:Addr) (w:World) (hi:i≤s.size) (hs:s.size≤400)
  (hb:St b s i f (.iface tT (.pointer (some aT))) (.iface tL (.pointer (some aL))) w) (h:(Sv.pk s.data.toList (Sv.sk s.data.toList i) == 40)=true) (h2:Sv.digB (Sv.pk s.data.toList (Sv.sk s.data.toList (Sv.sk s.data.toList i+1)))=true) (r:Nat ⊕ (Sv.Cond×Nat)) (hR:(match Sv.terms s.data.toList (Sv.sk s.data.toList (Sv.sk s.data.toList i+1)+1) with
   | .inl m=>.inl m
   | .inr (ts,m)=>.inr (⟨false,(Sv.pk s.data.toList (Sv.sk s.data.toList (Sv.sk s.data.toList i+1))).toNat - 48,ts⟩,m))=r) :
  Calls Tryz.prog 157 #[.pointer (some ⟨b,0,none⟩)] w fun e w'=>CondPost b s f (.iface tT (.pointer (some aT))) (.iface tL (.pointer (some aL))) w r e w':=by
 have HR:=hide hR
 clear hR
 obtain ⟨hbT,hbL,hbB⟩:=hb.base
 obtain ⟨v,hp,hex,hG⟩:=hb
 have hp0:=fun o=>hp.kept (World.grownBy_alloc w o none) (by simp)
 have hG0:=fun o=>hG.kept (World.grownBy_alloc w o (some b))
 have hex0:=fun o=>hex.kept (World.grownBy_alloc w o (some b))
 have hN0:C3 200 w.heap.size (.bool false) (.int .i64 0) (.slice none 0 0) (w.alloc (.cells #[.bool false,.int .i64 0,.slice none 0 0] 200)):=heap_alloc_new _ _
 have hlt:=hp.lt
 have hp1:=Sv.byte_pos _ _ 40 (by decide) h
 rw [size_list] at hp1
 have hp2:=Sv.dig_pos _ _ h2
 rw [size_list] at hp2
 have hrng:=Sv.dig_rng _ h2
 go_enter Tryz.func157,Tryz.ntmps157
 go_wp2_with (go_at_call 126; refine (expect_yes b s i v 40 _ rfl _ hi hs h (hp0 _)).mono ?_; rintro e w1 ⟨rfl,hb1,hg1⟩)
 refine (kind_yes b s _ v w1 hp1 hs h2 hb1).mono ?_
 rintro e w2 ⟨rfl,hb2,hg2⟩
 have hN1:=hN0.kept hg1 (by simp; omega)
 have hN2:=hN1.kept hg2 (by simp; omega)
 have hg02:=gr_trans (gr_trans (World.grownBy_alloc w _ (some b)) hg1) hg2
 have hst2:=St.step hb2 ((hex0 _).kept hg1) ((hG0 _).kept hg1) hg2
 have HR2:=unhide HR
 clear HR
 generalize Sv.pk s.data.toList (Sv.sk s.data.toList (Sv.sk s.data.toList i+1))=ck at *
 have HR:=hide HR2
 clear hb1 hg1 hb2 hg2 hN1 hN0 hp0 hG0 hex0 hp hex hG HR2
 go_wp2_with fail
 refine (terms_w b s _ _ tT aT tL aL w2 hp2 hs hst2).mono ?_
 intro e w3 hpost
 cases hr:Sv.terms s.data.toList (Sv.sk s.data.toList (Sv.sk s.data.toList i+1)+1) with
 | inl m=>
  have hRR:=unhide HR
  rw [hr] at hpost hRR
  subst hRR
  obtain ⟨y,rfl,ff,rfl,hf,hF,hg3⟩:=hpost
  have hN3:=hN2.kept hg3 (by simp; omega)
  obtain ⟨d0,d1,d2⟩:=hN3.c
  have z0:=hN3.fz 0
  have z1:=hN3.fz 1
  have z2:=hN3.fz 2
  have hbad:=bad_fin3 hf hF hg3 hg02 hN2.lt (Nat.le_refl _) (.bool false) (.int .i64 0) (.slice none 0 0)
  clear hf hF hg3 hr hst2
  go_wp2
  obtain ⟨q0,q1,q2⟩:=(hN3.set3 (.bool false) (.int .i64 0) (.slice none 0 0)).c
  exact bodyPost_ret (v:=.tuple #[.agg #[.bool false,.int .i64 0,.slice none 0 0],.iface 112 (.pointer (some ⟨ff,0,none⟩))]) (by simp [results,Tryz.results157,go_sem,q0,q1,q2]) rfl ⟨_,rfl,hbad⟩
 | inr q=>
  obtain ⟨ts,m⟩:=q
  have hRR:=unhide HR
  rw [hr] at hpost hRR
  subst hRR
  obtain ⟨u,rfl,hts,hst3,hg3⟩:=hpost
  obtain ⟨ao,cap,rfl⟩:=hts.slice
  have hN3:=hN2.kept hg3 (by simp; omega)
  obtain ⟨d0,d1,d2⟩:=hN3.c
  have z0:=hN3.fz 0
  have z1:=hN3.fz 1
  have z2:=hN3.fz 2
  have hg03:=gr_trans hg02 hg3
  clear hr hst2 hg3
  go_wp2
  obtain ⟨q0,q1,q2⟩:=(hN3.set3 (.bool false) (.int .i64 ((ck.toNat:Int) - 48)) (.slice ao ts.length cap)).c
  have k3:=gr_set3 w3 w.heap.size (.bool false) (.int .i64 ((ck.toNat:Int) - 48)) (.slice ao ts.length cap)
  refine bodyPost_ret (v:=.tuple #[.agg #[.bool false,.int .i64 ((ck.toNat:Int) - 48),.slice ao ts.length cap],.nilIface]) (by simp [results,Tryz.results157,go_sem,q0,q1,q2]) rfl ⟨.slice ao ts.length cap,?_,?_,?_,?_⟩
  ·rw [show (((⟨false,ck.toNat - 48,ts⟩:Sv.Cond).kind:Nat):Int)=(ck.toNat:Int) - 48 from by show ((ck.toNat - 48:Nat):Int)=_; omega]
  ·exact own_weak (own_kept hts k3 hN3 (by decide)) (by have:=hg02.size; omega)
  ·exact hst3.row k3 (RowOk.one hN3 (Nat.le_refl _)) (by decide) (by decide) hbT hbL
  ·exact gr_own hg03 k3 (Nat.le_refl _)
theorem cond_w (b:Nat) (s:ByteArray) (i:Nat) (f:Bool) (tT:TypeId) (aT:Addr) (tL:TypeId) (aL:Addr) (w:World) (hi:i≤s.size) (hs:s.size≤400)
  (hb:St b s i f (.iface tT (.pointer (some aT))) (.iface tL (.pointer (some aL))) w) :
  Calls Tryz.prog 157 #[.pointer (some ⟨b,0,none⟩)] w fun e w'=>CondPost b s f (.iface tT (.pointer (some aT))) (.iface tL (.pointer (some aL))) w (Sv.cond s.data.toList i) e w':=by
 cases h:Sv.pk s.data.toList (Sv.sk s.data.toList i) == 40
 ·have e:Sv.cond s.data.toList i=.inl (Sv.sk s.data.toList i):=by unfold Sv.cond; rw [h]; rfl
  rw [e]
  exact cond_no1 b s i f tT aT tL aL w hi hs hb h
 ·cases h2:Sv.digB (Sv.pk s.data.toList (Sv.sk s.data.toList (Sv.sk s.data.toList i+1)))
  ·have e:Sv.cond s.data.toList i=.inl (Sv.sk s.data.toList (Sv.sk s.data.toList i+1)):=by unfold Sv.cond; simp only; rw [h,if_pos rfl,h2]; rfl
   rw [e]
   exact cond_no2 b s i f tT aT tL aL w hi hs hb h h2
  ·refine cond_yes b s i f tT aT tL aL w hi hs hb h h2 _ ?_
   unfold Sv.cond
   simp only
   rw [h,if_pos rfl,h2,if_pos rfl]
   cases Sv.terms s.data.toList (Sv.sk s.data.toList (Sv.sk s.data.toList i+1)+1)<;>rfl
end Go.Proofs.YtolhbeekfjnfmaaGreatDoor
namespace Go.Proofs.YtolhbeekfjnfmaaGreatDoor
open Go.RowKit
theorem own_row {w w':World} {base base':Nat} {e e':TypeId} {size:Nat} {v:Value} {n:Nat} {xs:List Value} {row:Option Nat} (h:w.ownsRow base e size v n xs) (hg:w.grownBy w' row) (hr:RowOk base' e' row w) (hne:e'≠e):w'.ownsRow base e size v n xs:=by
 cases row with
 | none=>exact h.kept hg (by cases hv:v.ownBlock<;>simp)
 | some b=>
  obtain ⟨_,cur,fz,hb⟩:=hr b rfl
  exact own_kept h hg hb hne
theorem TsAt.row {w w':World} {base base':Nat} {e':TypeId} {v:Value} {ts:List Sv.Term} {row:Option Nat} (h:TsAt base v ts w) (hg:w.grownBy w' row) (hr:RowOk base' e' row w) (hne:e'≠258):TsAt base v ts w':=own_row h hg hr hne
theorem PAt.rowOk {b:Nat} {s:ByteArray} {i:Nat} {v:Value} {w:World} (h:PAt b s i v w):RowOk 0 117 (some b) w:=by
 intro g hg; cases hg; exact ⟨Nat.zero_le _,_,_,h⟩
theorem St.rowOk {b:Nat} {s:ByteArray} {i:Nat} {f:Bool} {eT eL:Value} {w:World} (h:St b s i f eT eL w):RowOk 0 117 (some b) w:=by
 obtain ⟨v,hp,_⟩:=h; exact hp.rowOk
def CsCells (B:Nat) (w:World):List Sv.Cond→List Value→Prop
 | [],xs=>xs=[]
 | c :: cs,xs=>∃ u ys,xs=.bool c.neg :: .int .i64 c.kind :: u :: ys∧TsAt B u c.terms w∧CsCells B w cs ys
theorem CsCells.row {B:Nat} {w w':World} {base':Nat} {e':TypeId} {row:Option Nat} (hg:w.grownBy w' row) (hr:RowOk base' e' row w) (hne:e'≠258):∀ (cs:List Sv.Cond) (xs:List Value),CsCells B w cs xs→CsCells B w' cs xs
 | [],_,h=>h
 | _ :: cs,_,⟨u,ys,h1,h2,h3⟩=>⟨u,ys,h1,h2.row hg hr hne,CsCells.row hg hr hne cs ys h3⟩
theorem CsCells.snoc {B:Nat} {w:World} (c:Sv.Cond) (u:Value) (hu:TsAt B u c.terms w):∀ (cs:List Sv.Cond) (xs:List Value),CsCells B w cs xs→CsCells B w (cs ++ [c]) (xs ++ [.bool c.neg,.int .i64 c.kind,u])
 | [],xs,h=>⟨u,[],by rw [show xs=[] from h]; rfl,hu,rfl⟩
 | _ :: cs,_,⟨v,ys,h1,h2,h3⟩=>⟨v,ys ++ [.bool c.neg,.int .i64 c.kind,u],by rw [h1]; rfl,h2,CsCells.snoc c u hu cs ys h3⟩
theorem CsCells.weak {B B':Nat} {w:World} (hB:B'≤B):∀ (cs:List Sv.Cond) (xs:List Value),CsCells B w cs xs→CsCells B' w cs xs
 | [],_,h=>h
 | _ :: cs,_,⟨u,ys,h1,h2,h3⟩=>⟨u,ys,h1,own_weak h2 hB,CsCells.weak hB cs ys h3⟩
def CsAt (base:Nat) (v:Value) (cs:List Sv.Cond) (w:World):Prop:=∃ xs,w.ownsRow base 200 3 v cs.length xs∧CsCells base w cs xs
theorem CsAt.slice {base:Nat} {u:Value} {cs:List Sv.Cond} {w:World} (h:CsAt base u cs w):∃ ao cap,u=.slice ao cs.length cap:=by
 obtain ⟨xs,h,_⟩:=h
 rcases h.2 with ⟨h1,h2⟩ | ⟨g,cap,cur,h1,_⟩
 ·exact ⟨none,0,by rw [h2]; exact h1⟩
 ·exact ⟨_,_,h1⟩
theorem CsAt.row {w w':World} {base base':Nat} {e':TypeId} {v:Value} {cs:List Sv.Cond} {row:Option Nat} (h:CsAt base v cs w) (hg:w.grownBy w' row) (hr:RowOk base' e' row w) (hne:e'≠258) (hne2:e'≠200):CsAt base v cs w':=by
 obtain ⟨xs,h1,h2⟩:=h
 exact ⟨xs,own_row h1 hg hr hne2,CsCells.row hg hr hne cs xs h2⟩
def Sv.exCs (cs:List Sv.Cond):Bool:=decide (4 < cs.length) || cs.any Sv.exC
theorem Sv.exCs_snoc (f:Bool) (cs:List Sv.Cond) (c:Sv.Cond) (b:Bool):(f || Sv.exCs (cs ++ [⟨b,c.kind,c.terms⟩]))=(f || Sv.exCs cs || decide (4≤cs.length) || Sv.exC c):=by
 unfold Sv.exCs
 rw [List.length_append,List.length_singleton,List.any_append]
 have h:=flag_more f 4 cs.length
 have h2:[(⟨b,c.kind,c.terms⟩:Sv.Cond)].any Sv.exC=Sv.exC c:=by simp [Sv.exC]
 rw [h2,←Bool.or_assoc,h]
 cases f<;>cases decide (4 < cs.length)<;>cases decide (4≤cs.length)<;>cases cs.any Sv.exC<;>cases Sv.exC c<;>rfl
theorem Sv.exCs_one (f:Bool) (c:Sv.Cond):(f || Sv.exCs [c])=(f || Sv.exC c):=by simp [Sv.exCs]
theorem Sv.cdF_step (n:Nat) (l:List UInt8) (acc:List Sv.Cond) (i:Nat):Sv.cdF (n+1) l acc i=
  if (Sv.pk l (Sv.sk l i) == 59)=true then .inr (acc,Sv.sk l i+1)
  else
   match Sv.cond l (if (Sv.pk l (Sv.sk l i) == 33)=true then Sv.sk l i+1 else Sv.sk l i) with
   | .inl k=>.inl k
   | .inr (c,j)=>Sv.cdF n l (acc ++ [⟨Sv.pk l (Sv.sk l i) == 33,c.kind,c.terms⟩]) j:=rfl
theorem Tryz.infoCond:(Tryz.prog.info? 200).map (fun i=>(i.zero,i.size,i.bytes))=some (some (.agg #[.bool false,.int .i64 0,.slice none 0 0]),3,40):=by kernel_rfl
def CondsPost (b:Nat) (s:ByteArray) (f:Bool) (eT eL:Value) (w:World) (r:Nat ⊕ (List Sv.Cond×Nat)) (e:Ending) (w':World):Prop:=
 match r with
 | .inl k=>∃ y,e=.returned (.tuple #[.slice none 0 0,y])∧Bad b k eT w y w'
 | .inr (cs,j)=>∃ u,e=.returned (.tuple #[u,.nilIface])∧CsAt w.heap.size u cs w'∧St b s j (f || Sv.exCs cs) eT eL w'∧w.grownBy w' (some b)
def CLoop (b:Nat) (s:ByteArray) (f:Bool) (eT eL:Value) (w:World) (r:Nat ⊕ (List Sv.Cond×Nat)) (u:Value) (w':World):Prop:=
 ∃ (k n:Nat) (cs:List Sv.Cond),s.size < k+n∧k≤s.size∧cs.length≤k∧CsAt w.heap.size u cs w'∧St b s k (f || Sv.exCs cs) eT eL w'∧w.grownBy w' (some b)∧Sv.cdF n s.data.toList cs k=r
set_option maxHeartbeats 1000000 in
set_option maxRecDepth 100000 in
theorem conds_w (b:Nat) (s:ByteArray) (i:Nat) (f:Bool) (tT:TypeId) (aT:Addr) (tL:TypeId) (aL:Addr) (w:World) (hi:i≤s.size) (hs:s.size≤400)
  (hb:St b s i f (.iface tT (.pointer (some aT))) (.iface tL (.pointer (some aL))) w) :
  Calls Tryz.prog 127 #[.pointer (some ⟨b,0,none⟩)] w fun e w'=>CondsPost b s f (.iface tT (.pointer (some aT))) (.iface tL (.pointer (some aL))) w (Sv.conds s.data.toList i) e w':=by
 obtain ⟨i0,hinf,hz0,hz1,hz2⟩:=info_parts Tryz.infoCond
 obtain ⟨hbT,hbL,hbB⟩:=hb.base
 generalize hr:Sv.conds s.data.toList i=r
 unfold Sv.conds at hr
 have HR:=hide hr
 clear hr
 have hok:=Sv.cond_ok s.data.toList i (by simpa using hi)
 go_enter Tryz.func127,Tryz.ntmps127
 go_wp2_with fail
 refine (cond_w b s i f tT aT tL aL w hi hs hb).mono ?_
 intro e w1 hp
 have HRo:=unhide HR
 clear HR
 cases hc:Sv.cond s.data.toList i with
 | inl q=>
  rw [hc] at hp HRo
  subst HRo
  obtain ⟨y,rfl,ff,rfl,hf,hF,hg1⟩:=hp
  go_wp2
  go_ret2
  exact ⟨_,rfl,ff,rfl,hf,hF.kept (World.grownBy_alloc w1 _ none) (by simp),gr_trans hg1 (World.grownBy_alloc w1 _ _)⟩
 | inr q=>
  obtain ⟨c,j⟩:=q
  rw [hc] at hp HRo hok
  obtain ⟨u,rfl,hts,hst1,hg1⟩:=hp
  obtain ⟨ao,cap,rfl⟩:=hts.slice
  obtain ⟨hok1,hok2⟩:=hok
  rw [size_list] at hok2
  have HR:=hide HRo
  clear HRo
  have HC:=hide hc
  clear hc
  go_wp2_with fail
  go_loopw [6] (fun u w'=>CLoop b s f (.iface tT (.pointer (some aT))) (.iface tL (.pointer (some aL))) w r u w') (fun _ w'=>s.size - atOf b w')
  case atStart=>
   have hgA:=World.grownBy_alloc w1 (.cells #[.bool c.neg,.int .i64 c.kind,.slice ao c.terms.length cap] 200) none
   have hgB:=gr_trans hgA (World.grownBy_alloc (w1.alloc (.cells #[.bool c.neg,.int .i64 c.kind,.slice ao c.terms.length cap] 200)) (.cells #[.bool c.neg,.int .i64 c.kind,.slice ao c.terms.length cap] 200) none)
   have hsz:=hg1.size
   have hown0:=World.ownsRow_lit (base:=w.heap.size) (e:=200) (size:=3) (w1.alloc (.cells #[.bool c.neg,.int .i64 c.kind,.slice ao c.terms.length cap] 200)) #[.bool c.neg,.int .i64 c.kind,.slice ao c.terms.length cap] 1 (by simp; omega) (by decide) rfl
   rw [World.size_alloc] at hown0
   refine ⟨j,s.data.toList.length+1,[c],by simp; omega,hok2,by simp; omega,⟨_,hown0,?_⟩,?_,gr_trans hg1 (gr_any hgB (some b)),HR.out⟩
   ·exact ⟨.slice ao c.terms.length cap,[],rfl,own_weak (TsAt.row hts hgB (RowOk.none 0 0 w1) (by decide)) (by first | exact Nat.le_refl _ | omega),rfl⟩
   ·rw [Sv.exCs_one]
    exact hst1.row hgB (RowOk.none w.heap.size 200 w1) (by decide) (by decide) hbT hbL
  case round=>
   clear hts hst1 hg1 hok1 hok2 HR HC
   obtain ⟨k,m,acc,hkm,hk,hacc,hcs,hst,hg,hnm⟩:=hrel
   obtain ⟨m,rfl⟩:∃ m',m=m'+1:=⟨m - 1,by omega⟩
   rw [Sv.cdF_step] at hnm
   have HA:=hide hst.at
   have hle:=Sv.sk_le s.data.toList k (by simpa using hk)
   rw [size_list] at hle
   obtain ⟨hle1,hle2⟩:=hle
   obtain ⟨ao2,cap2,rfl⟩:=hcs.slice
   cases h59:Sv.pk s.data.toList (Sv.sk s.data.toList k) == 59
   ·rw [h59,if_neg (by simp)] at hnm
    have HN:=hide hnm
    clear hnm
    obtain ⟨vx,hbk,hex,hG⟩:=hst
    go_wp2_with (go_at_call 156; refine (take_no b s k vx 59 _ rfl _ hk hs h59 hbk).mono ?_; rintro e w2 ⟨rfl,hb2,hg2⟩)
    refine (note_w b s _ _ tT aT tL aL w2 acc.length 4 _ _ rfl rfl (St.step hb2 hex hG hg2)).mono ?_
    rintro e w3 ⟨rfl,hst3,hg3⟩
    have hcs3:=(hcs.row hg2 hbk.rowOk (by decide) (by decide)).row hg3 hb2.rowOk (by decide) (by decide)
    have hg03:=gr_trans hg (gr_trans hg2 hg3)
    clear hcs hbk hex hG hb2 hg2 hg3 hg
    obtain ⟨vy,hb3,hex3,hG3⟩:=hst3
    go_wp2_with fail
    have hsk2:=Sv.sk_sk s.data.toList k
    have HX:∃ x,Hid ((match Sv.cond s.data.toList x with
      | .inl k=>.inl k
      | .inr (c,j)=>Sv.cdF m s.data.toList (acc ++ [⟨Sv.pk s.data.toList (Sv.sk s.data.toList k) == 33,c.kind,c.terms⟩]) j)=r)∧k≤x∧x≤s.size∧
      Calls Tryz.prog 156 #[.pointer (some ⟨b,0,none⟩),.int .u8 33] w3 fun e w'=>e=.returned (.bool (Sv.pk s.data.toList (Sv.sk s.data.toList k) == 33))∧PAt b s x vy w'∧w3.grownBy w' (some b):=by
     cases h33:Sv.pk s.data.toList (Sv.sk s.data.toList k) == 33
     ·refine ⟨Sv.sk s.data.toList k,?_,hle1,hle2,?_⟩
      ·have:=unhide HN; rw [h33] at this; exact this
      ·have:=take_no b s (Sv.sk s.data.toList k) vy 33 33 rfl w3 hle2 hs (by rw [hsk2]; exact h33) hb3
       rw [hsk2] at this
       exact this
     ·have hp33:=Sv.byte_pos _ _ 33 (by decide) h33
      rw [size_list] at hp33
      refine ⟨Sv.sk s.data.toList k+1,?_,by omega,hp33,?_⟩
      ·have:=unhide HN; rw [h33] at this; exact this
      ·have:=take_yes b s (Sv.sk s.data.toList k) vy 33 33 rfl w3 hle2 hs (by rw [hsk2]; exact h33) hb3
       rw [hsk2] at this
       exact this
    clear hsk2
    obtain ⟨x,HN2,hkx,hxs,hcall⟩:=HX
    clear HN
    generalize (Sv.pk s.data.toList (Sv.sk s.data.toList k) == 33)=ng at *
    refine hcall.mono ?_
    rintro e w4 ⟨rfl,hb4,hg4⟩
    have hst4:=St.step hb4 hex3 hG3 hg4
    have hcs4:=hcs3.row hg4 hb3.rowOk (by decide) (by decide)
    have hg04:=gr_trans hg03 hg4
    clear hcall hcs3 hb3 hex3 hG3 hb4 hg4 hg03
    have hok:=Sv.cond_ok s.data.toList x (by simpa using hxs)
    go_wp2_with fail
    refine (cond_w b s x _ tT aT tL aL w4 hxs hs hst4).mono ?_
    intro e w5 hp
    have HNo:=unhide HN2
    clear HN2
    cases hc:Sv.cond s.data.toList x with
    | inl q=>
     rw [hc] at hp HNo
     obtain ⟨y,rfl,ff,rfl,hf,hF,hg5⟩:=hp
     simp only at HNo
     subst HNo
     have hf':w.heap.size≤ff:=Nat.le_trans hg04.size hf
     have hg05:=gr_trans hg04 hg5
     clear hst4 hcs4 hok hc
     go_wp2
     go_ret2
     exact ⟨_,rfl,ff,rfl,hf',hF.kept (World.grownBy_alloc w5 _ none) (by simp),gr_trans hg05 (World.grownBy_alloc w5 _ _)⟩
    | inr q=>
     obtain ⟨cc,j2⟩:=q
     have hneg:=Sv.cond_neg _ _ _ _ hc
     rw [hc] at hp HNo hok
     obtain ⟨u5,he,hts5,hst5,hg5⟩:=hp
     obtain ⟨ao5,cap5,rfl⟩:=hts5.slice
     rw [hneg] at he
     subst he
     obtain ⟨hok1,hok2⟩:=hok
     rw [size_list] at hok2
     have HN:=hide HNo
     clear HNo hc hneg
     have hcs5:=hcs4.row hg5 hst4.rowOk (by decide) (by decide)
     have hg05:=gr_trans hg04 hg5
     have hsz4:=hg04.size
     clear hst4 hcs4 hg5 hg04
     obtain ⟨xs,hown5,hcells5⟩:=hcs5
     have hgA:=World.grownBy_alloc w5 (.cells #[.bool ng,.int .i64 cc.kind,.slice ao5 cc.terms.length cap5] 200) none
     have hgB:=gr_trans hgA (World.grownBy_alloc (w5.alloc (.cells #[.bool ng,.int .i64 cc.kind,.slice ao5 cc.terms.length cap5] 200)) (.cells #[.bool ng,.int .i64 cc.kind,.slice ao5 cc.terms.length cap5] 200) none)
     have hrow:=RowOk.of ((hown5.alloc (.cells #[.bool ng,.int .i64 cc.kind,.slice ao5 cc.terms.length cap5] 200)).alloc (.cells #[.bool ng,.int .i64 cc.kind,.slice ao5 cc.terms.length cap5] 200))
     have hst6:=hst5.row hgB (RowOk.none w.heap.size 200 w5) (by decide) (by decide) hbT hbL
     have hcells6:=CsCells.row hgB (RowOk.none 0 0 w5) (by decide) acc xs hcells5
     have hts6:TsAt w.heap.size _ _ _:=own_weak (TsAt.row hts5 hgB (RowOk.none 0 0 w5) (by decide)) (by first | exact hsz4 | omega)
     have hg06:=gr_trans hg05 (gr_any hgB (some b))
     have hsz5:=hg05.size
     clear hgA hgB hcells5 hts5 hst5
     go_wp2_with (at_builtin; refine wpList_append_own _ rfl _ _ 126 rfl w.heap.size 200 i0 (.agg #[.bool false,.int .i64 0,.slice none 0 0]) 3 40 Tryz.underlying126 hinf hz0 hz1 hz2 rfl (by decide) _ acc.length xs rfl ((hown5.alloc _).alloc _) ⟨w5.heap.size+1,0,none⟩ 1 1 [.bool ng,.int .i64 cc.kind,.slice ao5 cc.terms.length cap5] rfl rfl ?c1 ?c2 ?c3 ?c4 ?c5 ?_)
     case c1=>
      intro jj u hu
      match jj,hu with
      | 0,hu=>simp at hu; subst hu; simp [Addr.add]
      | 1,hu=>simp at hu; subst hu; simp [Addr.add]
      | 2,hu=>simp at hu; subst hu; simp [Addr.add]
      | n+3,hu=>simp at hu
     case c2=>
      intro u hu
      simp at hu
      rcases hu with rfl | rfl | rfl<;>rfl
     case c3=>unfold maxLen; omega
     case c4=>omega
     case c5=>simp; omega
     intro v' w7 hown hgrow _
     have hst7:=hst6.row hgrow hrow (by decide) (by decide) hbT hbL
     have hg07:=gr_owns hg06 hgrow hrow
     have HA7:=hide hst7.at
     have hcells7:=CsCells.row hgrow hrow (by decide) acc xs hcells6
     have hts7:=TsAt.row hts6 hgrow hrow (by decide)
     have hcs7:CsAt w.heap.size v' (acc ++ [⟨ng,cc.kind,cc.terms⟩]) w7:=⟨_,by rw [List.length_append]; exact hown,CsCells.snoc (⟨ng,cc.kind,cc.terms⟩:Sv.Cond) _ hts7 acc xs hcells7⟩
     rw [←Sv.exCs_snoc f acc cc ng] at hst7
     clear hown hgrow hst6 hg06 hown5 hrow hcells6 hcells7 hts6 hts7
     go_wp2
     go_roundw
     case rel=>exact ⟨j2,m,acc ++ [⟨ng,cc.kind,cc.terms⟩],by omega,by omega,by simp; omega,hcs7,hst7,hg07,unhide HN⟩
     case measure=>rw [unhide HA7,unhide HA]; omega
   ·rw [h59,if_pos rfl] at hnm
    subst hnm
    obtain ⟨vx,hbk,hex,hG⟩:=hst
    go_wp2_with (go_at_call 156; refine (take_yes b s k vx 59 _ rfl _ hk hs h59 hbk).mono ?_; rintro e w2 ⟨rfl,hb2,hg2⟩)
    go_ret2
    exact ⟨_,rfl,hcs.row hg2 hbk.rowOk (by decide) (by decide),St.step hb2 hex hG hg2,gr_trans hg hg2⟩
end Go.Proofs.YtolhbeekfjnfmaaGreatDoor
namespace Go.Proofs.YtolhbeekfjnfmaaGreatDoor
open Go.RowKit
def C2 (T:TypeId) (N:Nat) (x y:Value) (w:World):Prop:=w.heap[N]?=some (.cells #[x,y] T (0,0))
theorem C2.lt {T:TypeId} {N:Nat} {x y:Value} {w:World} (h:C2 T N x y w):N < w.heap.size:=(Array.getElem?_eq_some_iff.1 h).1
theorem C2.kept {T:TypeId} {N:Nat} {x y:Value} {w w':World} {row:Option Nat} (h:C2 T N x y w) (g:w.grownBy w' row) (hne:some N≠row):C2 T N x y w':=by
 unfold C2; rw [g.block N h.lt hne]; exact h
theorem C2.c {T:TypeId} {N:Nat} {x y:Value} {w:World} (h:C2 T N x y w):w.cell? ⟨N,0,none⟩=some x∧w.cell? ⟨N,1,none⟩=some y:=by
 unfold C2 at h; simp [World.cell?,h]
theorem C2.fz {T:TypeId} {N:Nat} {x y:Value} {w:World} (h:C2 T N x y w) (o:Nat):w.frozen? ⟨N,o,none⟩=false:=by
 unfold C2 at h; simp [World.frozen?,h]
theorem C2.set2 {T:TypeId} {N:Nat} {a b:Value} {w:World} (h:C2 T N a b w) (x y:Value):C2 T N x y ((w.setCell ⟨N,0,none⟩ x).setCell ⟨N,1,none⟩ y):=by
 unfold C2 at h ⊢
 have h1:=heap_setCell_same w N 0 _ _ x h
 have h2:=heap_setCell_same _ N 1 _ _ y h1
 rw [h2]; rfl
theorem gr_set2 (w:World) (N:Nat) (x y:Value):w.grownBy ((w.setCell ⟨N,0,none⟩ x).setCell ⟨N,1,none⟩ y) (some N):=
 gr_trans (gr_set w N 0 x) (gr_set _ N 1 y)
theorem RowOk.one2 {T:TypeId} {N base:Nat} {x y:Value} {w:World} (h:C2 T N x y w) (hb:base≤N):RowOk base T (some N) w:=by
 intro g hg
 cases hg
 exact ⟨hb,_,_,h⟩
theorem bad_fin2 {b k f:Nat} {eT:Value} {w W0 W:World} {N:Nat} (hf:W0.heap.size≤f) (hF:FAt f k eT W) (hg:W0.grownBy W (some b)) (hg0:w.grownBy W0 (some b)) (hlt:N < W0.heap.size) (hN:w.heap.size≤N) (x y:Value) :
  Bad b k eT w (.iface 112 (.pointer (some ⟨f,0,none⟩))) ((W.setCell ⟨N,0,none⟩ x).setCell ⟨N,1,none⟩ y):=
 ⟨f,rfl,Nat.le_trans hg0.size hf,hF.kept (gr_set2 W N x y) (by simp; omega),gr_own (gr_trans hg0 hg) (gr_set2 W N x y) hN⟩
def RulePost (b:Nat) (s:ByteArray) (f:Bool) (eT eL:Value) (w:World) (r:Nat ⊕ (Sv.Rule×Nat)) (e:Ending) (w':World):Prop:=
 match r with
 | .inl k=>∃ y,e=.returned (.tuple #[.agg #[.string ⟨#[]⟩,.slice none 0 0],y])∧Bad b k eT w y w'
 | .inr (q,j)=>∃ u,e=.returned (.tuple #[.agg #[.string ⟨q.name.toArray⟩,u],.nilIface])∧CsAt w.heap.size u q.conds w'∧St b s j (f || Sv.exR q) eT eL w'∧w.grownBy w' (some b)
set_option maxHeartbeats 400000 in
theorem rule_no1 (b:Nat) (s:ByteArray) (i:Nat) (f:Bool) (tT:TypeId) (aT:Addr) (tL:TypeId) (aL:Addr) (w:World) (hi:i≤s.size) (hs:s.size≤400)
  (hb:St b s i f (.iface tT (.pointer (some aT))) (.iface tL (.pointer (some aL))) w) (h:Sv.nmF 8 s.data.toList i=i) :
  Calls Tryz.prog 90 #[.pointer (some ⟨b,0,none⟩)] w fun e w'=>∃ y,e=.returned (.tuple #[.agg #[.string ⟨#[]⟩,.slice none 0 0],y])∧Bad b i (.iface tT (.pointer (some aT))) w y w':=by
 obtain ⟨v,hp,hex,hG⟩:=hb
 have hp0:=fun o=>hp.kept (World.grownBy_alloc w o none) (by simp)
 have hG0:=fun o=>hG.kept (World.grownBy_alloc w o (some b))
 have hN0:C2 128 w.heap.size (.string ⟨#[]⟩) (.slice none 0 0) (w.alloc (.cells #[.string ⟨#[]⟩,.slice none 0 0] 128)):=heap_alloc_new _ _
 have hlt:=hp.lt
 have HH:=hide h
 clear h
 go_enter Tryz.func90,Tryz.ntmps90
 go_wp2_with fail
 refine (name_no b s i v _ tT aT _ hi hs (unhide HH) (hp0 _) (hG0 _)).mono ?_
 rintro e w1 ⟨y,rfl,ff,rfl,hf,hF,hg⟩
 have hN1:=hN0.kept hg (by simp; omega)
 obtain ⟨d0,d1⟩:=hN1.c
 have z0:=hN1.fz 0
 have z1:=hN1.fz 1
 have hbad:=bad_fin2 hf hF hg (World.grownBy_alloc w _ (some b)) hN0.lt (Nat.le_refl _) (.string ⟨#[]⟩) (.slice none 0 0)
 clear hf hF hg
 go_wp2
 obtain ⟨q0,q1⟩:=(hN1.set2 (.string ⟨#[]⟩) (.slice none 0 0)).c
 exact bodyPost_ret (v:=.tuple #[.agg #[.string ⟨#[]⟩,.slice none 0 0],.iface 112 (.pointer (some ⟨ff,0,none⟩))]) (by simp [results,Tryz.results90,go_sem,q0,q1]) rfl ⟨_,rfl,hbad⟩
set_option maxHeartbeats 400000 in
theorem rule_no2 (b:Nat) (s:ByteArray) (i:Nat) (f:Bool) (tT:TypeId) (aT:Addr) (tL:TypeId) (aL:Addr) (w:World) (hi:i≤s.size) (hs:s.size≤400)
  (hb:St b s i f (.iface tT (.pointer (some aT))) (.iface tL (.pointer (some aL))) w) (h:Sv.nmF 8 s.data.toList i≠i) (h2:(Sv.pk s.data.toList (Sv.sk s.data.toList (Sv.nmF 8 s.data.toList i)) == 58)=false) :
  Calls Tryz.prog 90 #[.pointer (some ⟨b,0,none⟩)] w fun e w'=>∃ y,e=.returned (.tuple #[.agg #[.string ⟨#[]⟩,.slice none 0 0],y])∧Bad b (Sv.sk s.data.toList (Sv.nmF 8 s.data.toList i)) (.iface tT (.pointer (some aT))) w y w':=by
 obtain ⟨v,hp,hex,hG⟩:=hb
 have hp0:=fun o=>hp.kept (World.grownBy_alloc w o none) (by simp)
 have hG0:=fun o=>hG.kept (World.grownBy_alloc w o (some b))
 have hN0:C2 128 w.heap.size (.string ⟨#[]⟩) (.slice none 0 0) (w.alloc (.cells #[.string ⟨#[]⟩,.slice none 0 0] 128)):=heap_alloc_new _ _
 have hlt:=hp.lt
 have hnl:=Sv.nmF_le 8 s.data.toList i (by simpa using hi)
 rw [size_list] at hnl
 go_enter Tryz.func90,Tryz.ntmps90
 go_wp2_with (go_at_call 125; refine (name_yes b s i v _ hi hs h (hp0 _)).mono ?_; rintro e w1 ⟨rfl,hb1,hg1⟩)
 refine (expect_no b s _ v 58 _ rfl w1 tT aT _ hnl.2.1 hs h2 hb1 ((hG0 _).kept hg1)).mono ?_
 rintro e w2 ⟨y,rfl,ff,rfl,hf,hF,hg2⟩
 have hN1:=hN0.kept hg1 (by simp; omega)
 have hN2:=hN1.kept hg2 (by simp; omega)
 obtain ⟨d0,d1⟩:=hN2.c
 have z0:=hN2.fz 0
 have z1:=hN2.fz 1
 have hbad:=bad_fin2 hf hF hg2 (gr_trans (World.grownBy_alloc w _ (some b)) hg1) hN1.lt (Nat.le_refl _) (.string ⟨#[]⟩) (.slice none 0 0)
 clear hf hF hg1 hg2
 go_wp2
 obtain ⟨q0,q1⟩:=(hN2.set2 (.string ⟨#[]⟩) (.slice none 0 0)).c
 exact bodyPost_ret (v:=.tuple #[.agg #[.string ⟨#[]⟩,.slice none 0 0],.iface 112 (.pointer (some ⟨ff,0,none⟩))]) (by simp [results,Tryz.results90,go_sem,q0,q1]) rfl ⟨_,rfl,hbad⟩
set_option maxHeartbeats 400000 in
theorem rule_yes (b:Nat) (s:ByteArray) (i:Nat) (f:Bool) (tT:TypeId) (aT:Addr) (tL:TypeId) (aL:Addr) (w:World) (hi:i≤s.size) (hs:s.size≤400)
  (hb:St b s i f (.iface tT (.pointer (some aT))) (.iface tL (.pointer (some aL))) w) (h:Sv.nmF 8 s.data.toList i≠i) (h2:(Sv.pk s.data.toList (Sv.sk s.data.toList (Sv.nmF 8 s.data.toList i)) == 58)=true) (r:Nat ⊕ (Sv.Rule×Nat)) (hR:(match Sv.conds s.data.toList (Sv.sk s.data.toList (Sv.nmF 8 s.data.toList i)+1) with
   | .inl m=>.inl m
   | .inr (cs,m)=>.inr (⟨Sv.cut s.data.toList i (Sv.nmF 8 s.data.toList i),cs⟩,m))=r) :
  Calls Tryz.prog 90 #[.pointer (some ⟨b,0,none⟩)] w fun e w'=>RulePost b s f (.iface tT (.pointer (some aT))) (.iface tL (.pointer (some aL))) w r e w':=by
 have HR:=hide hR
 clear hR
 obtain ⟨hbT,hbL,hbB⟩:=hb.base
 obtain ⟨v,hp,hex,hG⟩:=hb
 have hp0:=fun o=>hp.kept (World.grownBy_alloc w o none) (by simp)
 have hG0:=fun o=>hG.kept (World.grownBy_alloc w o (some b))
 have hex0:=fun o=>hex.kept (World.grownBy_alloc w o (some b))
 have hN0:C2 128 w.heap.size (.string ⟨#[]⟩) (.slice none 0 0) (w.alloc (.cells #[.string ⟨#[]⟩,.slice none 0 0] 128)):=heap_alloc_new _ _
 have hlt:=hp.lt
 have hnl:=Sv.nmF_le 8 s.data.toList i (by simpa using hi)
 rw [size_list] at hnl
 have hp1:=Sv.byte_pos _ _ 58 (by decide) h2
 rw [size_list] at hp1
 go_enter Tryz.func90,Tryz.ntmps90
 go_wp2_with (go_at_call 125; refine (name_yes b s i v _ hi hs h (hp0 _)).mono ?_; rintro e w1 ⟨rfl,hb1,hg1⟩)
 refine (expect_yes b s _ v 58 _ rfl w1 hnl.2.1 hs h2 hb1).mono ?_
 rintro e w2 ⟨rfl,hb2,hg2⟩
 have hN1:=hN0.kept hg1 (by simp; omega)
 have hN2:=hN1.kept hg2 (by simp; omega)
 have hg02:=gr_trans (gr_trans (World.grownBy_alloc w _ (some b)) hg1) hg2
 have hst2:=St.step hb2 ((hex0 _).kept hg1) ((hG0 _).kept hg1) hg2
 have HR2:=unhide HR
 clear HR
 generalize Sv.cut s.data.toList i (Sv.nmF 8 s.data.toList i)=nm at *
 have HR:=hide HR2
 clear hb1 hg1 hb2 hg2 hN1 hN0 hp0 hG0 hex0 hp hex hG HR2
 go_wp2_with fail
 refine (conds_w b s _ _ tT aT tL aL w2 hp1 hs hst2).mono ?_
 intro e w3 hpost
 cases hr:Sv.conds s.data.toList (Sv.sk s.data.toList (Sv.nmF 8 s.data.toList i)+1) with
 | inl m=>
  have hRR:=unhide HR
  rw [hr] at hpost hRR
  subst hRR
  obtain ⟨y,rfl,ff,rfl,hf,hF,hg3⟩:=hpost
  have hN3:=hN2.kept hg3 (by simp; omega)
  obtain ⟨d0,d1⟩:=hN3.c
  have z0:=hN3.fz 0
  have z1:=hN3.fz 1
  have hbad:=bad_fin2 hf hF hg3 hg02 hN2.lt (Nat.le_refl _) (.string ⟨#[]⟩) (.slice none 0 0)
  clear hf hF hg3 hr hst2
  go_wp2
  obtain ⟨q0,q1⟩:=(hN3.set2 (.string ⟨#[]⟩) (.slice none 0 0)).c
  exact bodyPost_ret (v:=.tuple #[.agg #[.string ⟨#[]⟩,.slice none 0 0],.iface 112 (.pointer (some ⟨ff,0,none⟩))]) (by simp [results,Tryz.results90,go_sem,q0,q1]) rfl ⟨_,rfl,hbad⟩
 | inr q=>
  obtain ⟨cs,m⟩:=q
  have hRR:=unhide HR
  rw [hr] at hpost hRR
  subst hRR
  obtain ⟨u,rfl,hcs,hst3,hg3⟩:=hpost
  obtain ⟨ao,cap,rfl⟩:=hcs.slice
  have hN3:=hN2.kept hg3 (by simp; omega)
  obtain ⟨d0,d1⟩:=hN3.c
  have z0:=hN3.fz 0
  have z1:=hN3.fz 1
  have hg03:=gr_trans hg02 hg3
  clear hr hst2 hg3
  go_wp2
  obtain ⟨q0,q1⟩:=(hN3.set2 (.string ⟨nm.toArray⟩) (.slice ao cs.length cap)).c
  have k3:=gr_set2 w3 w.heap.size (.string ⟨nm.toArray⟩) (.slice ao cs.length cap)
  refine bodyPost_ret (v:=.tuple #[.agg #[.string ⟨nm.toArray⟩,.slice ao cs.length cap],.nilIface]) (by simp [results,Tryz.results90,go_sem,q0,q1]) rfl ⟨.slice ao cs.length cap,rfl,?_,?_,?_⟩
  ·obtain ⟨xs,h1,h3⟩:=hcs.row k3 (RowOk.one2 hN3 (Nat.le_refl _)) (by decide) (by decide)
   have hle:w.heap.size≤w2.heap.size:=by have:=hg02.size; omega
   exact ⟨xs,own_weak h1 hle,CsCells.weak hle _ xs h3⟩
  ·exact hst3.row k3 (RowOk.one2 hN3 (Nat.le_refl _)) (by decide) (by decide) hbT hbL
  ·exact gr_own hg03 k3 (Nat.le_refl _)
theorem rule_w (b:Nat) (s:ByteArray) (i:Nat) (f:Bool) (tT:TypeId) (aT:Addr) (tL:TypeId) (aL:Addr) (w:World) (hi:i≤s.size) (hs:s.size≤400)
  (hb:St b s i f (.iface tT (.pointer (some aT))) (.iface tL (.pointer (some aL))) w) :
  Calls Tryz.prog 90 #[.pointer (some ⟨b,0,none⟩)] w fun e w'=>RulePost b s f (.iface tT (.pointer (some aT))) (.iface tL (.pointer (some aL))) w (Sv.rule s.data.toList i) e w':=by
 by_cases h:Sv.nmF 8 s.data.toList i=i
 ·have e:Sv.rule s.data.toList i=.inl i:=by unfold Sv.rule; simp only; rw [if_pos h]
  rw [e]
  exact rule_no1 b s i f tT aT tL aL w hi hs hb h
 ·cases h2:Sv.pk s.data.toList (Sv.sk s.data.toList (Sv.nmF 8 s.data.toList i)) == 58
  ·have e:Sv.rule s.data.toList i=.inl (Sv.sk s.data.toList (Sv.nmF 8 s.data.toList i)):=by unfold Sv.rule; simp only; rw [if_neg h,h2]; rfl
   rw [e]
   exact rule_no2 b s i f tT aT tL aL w hi hs hb h h2
  ·refine rule_yes b s i f tT aT tL aL w hi hs hb h h2 _ ?_
   unfold Sv.rule
   simp only
   rw [if_neg h,h2,if_pos rfl]
   cases Sv.conds s.data.toList (Sv.sk s.data.toList (Sv.nmF 8 s.data.toList i)+1)<;>rfl
end Go.Proofs.YtolhbeekfjnfmaaGreatDoor
namespace Go.Proofs.YtolhbeekfjnfmaaGreatDoor
open Go.RowKit
def RsCells (B:Nat) (w:World):List Sv.Rule→List Value→Prop
 | [],xs=>xs=[]
 | q :: rs,xs=>∃ u ys,xs=.string ⟨q.name.toArray⟩ :: u :: ys∧CsAt B u q.conds w∧RsCells B w rs ys
theorem RsCells.row {B:Nat} {w w':World} {base':Nat} {e':TypeId} {row:Option Nat} (hg:w.grownBy w' row) (hr:RowOk base' e' row w) (hne:e'≠258) (hne2:e'≠200):∀ (rs:List Sv.Rule) (xs:List Value),RsCells B w rs xs→RsCells B w' rs xs
 | [],_,h=>h
 | _ :: rs,_,⟨u,ys,h1,h2,h3⟩=>⟨u,ys,h1,h2.row hg hr hne hne2,RsCells.row hg hr hne hne2 rs ys h3⟩
theorem RsCells.snoc {B:Nat} {w:World} (q:Sv.Rule) (u:Value) (hu:CsAt B u q.conds w):∀ (rs:List Sv.Rule) (xs:List Value),RsCells B w rs xs→RsCells B w (rs ++ [q]) (xs ++ [.string ⟨q.name.toArray⟩,u])
 | [],xs,h=>⟨u,[],by rw [show xs=[] from h]; rfl,hu,rfl⟩
 | _ :: rs,_,⟨v,ys,h1,h2,h3⟩=>⟨v,ys ++ [.string ⟨q.name.toArray⟩,u],by rw [h1]; rfl,h2,RsCells.snoc q u hu rs ys h3⟩
def RsAt (base:Nat) (v:Value) (rs:List Sv.Rule) (w:World):Prop:=∃ xs,w.ownsRow base 128 2 v rs.length xs∧RsCells base w rs xs
theorem RsAt.slice {base:Nat} {u:Value} {rs:List Sv.Rule} {w:World} (h:RsAt base u rs w):∃ ao cap,u=.slice ao rs.length cap:=by
 obtain ⟨xs,h,_⟩:=h
 rcases h.2 with ⟨h1,h2⟩ | ⟨g,cap,cur,h1,_⟩
 ·exact ⟨none,0,by rw [h2]; exact h1⟩
 ·exact ⟨_,_,h1⟩
theorem RsAt.row {w w':World} {base base':Nat} {e':TypeId} {v:Value} {rs:List Sv.Rule} {row:Option Nat} (h:RsAt base v rs w) (hg:w.grownBy w' row) (hr:RowOk base' e' row w) (hne:e'≠258) (hne2:e'≠200) (hne3:e'≠128):RsAt base v rs w':=by
 obtain ⟨xs,h1,h2⟩:=h
 exact ⟨xs,own_row h1 hg hr hne3,RsCells.row hg hr hne hne2 rs xs h2⟩
theorem CsAt.weaker {base base':Nat} {v:Value} {cs:List Sv.Cond} {w:World} (h:CsAt base v cs w) (hb:base'≤base):CsAt base' v cs w:=by
 obtain ⟨xs,h1,h2⟩:=h
 exact ⟨xs,own_weak h1 hb,CsCells.weak hb cs xs h2⟩
theorem CsAt.weak {base:Nat} {v:Value} {cs:List Sv.Cond} {w:World} (h:CsAt base v cs w):CsAt 0 v cs w:=h.weaker (Nat.zero_le _)
theorem RsCells.weak {B B':Nat} {w:World} (hB:B'≤B):∀ (rs:List Sv.Rule) (xs:List Value),RsCells B w rs xs→RsCells B' w rs xs
 | [],_,h=>h
 | _ :: rs,_,⟨u,ys,h1,h2,h3⟩=>⟨u,ys,h1,h2.weaker hB,RsCells.weak hB rs ys h3⟩
theorem RsAt.weak {base base':Nat} {v:Value} {rs:List Sv.Rule} {w:World} (h:RsAt base v rs w) (hb:base'≤base):RsAt base' v rs w:=by
 obtain ⟨xs,h1,h2⟩:=h
 exact ⟨xs,own_weak h1 hb,RsCells.weak hb rs xs h2⟩
theorem Sv.ex_snoc (f:Bool) (rs:List Sv.Rule) (q:Sv.Rule):(f || Sv.ex (rs ++ [q]))=(f || Sv.ex rs || decide (8≤rs.length) || Sv.exR q):=by
 unfold Sv.ex
 rw [List.length_append,List.length_singleton,List.any_append]
 have h:=flag_more f 8 rs.length
 have h2:[q].any Sv.exR=Sv.exR q:=by simp
 rw [h2,←Bool.or_assoc,h]
 cases f<;>cases decide (8 < rs.length)<;>cases decide (8≤rs.length)<;>cases rs.any Sv.exR<;>cases Sv.exR q<;>rfl
theorem Sv.rlF_step (n:Nat) (l:List UInt8) (acc:List Sv.Rule) (i:Nat):Sv.rlF (n+1) l acc i=
  if i < l.length then
   match Sv.rule l i with
   | .inl k=>.inl k
   | .inr (q,j)=>Sv.rlF n l (acc ++ [q]) (Sv.sk l j)
  else .inr acc:=rfl
theorem Tryz.infoRule:(Tryz.prog.info? 128).map (fun i=>(i.zero,i.size,i.bytes))=some (some (.agg #[.string ⟨#[]⟩,.slice none 0 0]),2,40):=by kernel_rfl
def RulesPost (b:Nat) (s:ByteArray) (f:Bool) (eT eL:Value) (w:World) (r:Nat ⊕ (List Sv.Rule)) (e:Ending) (w':World):Prop:=
 match r with
 | .inl k=>∃ y,e=.returned (.tuple #[.slice none 0 0,y])∧Bad b k eT w y w'
 | .inr rs=>∃ u j,e=.returned (.tuple #[u,.nilIface])∧RsAt w.heap.size u rs w'∧St b s j (f || Sv.ex rs) eT eL w'∧w.grownBy w' (some b)
def RLoop (b:Nat) (s:ByteArray) (f:Bool) (eT eL:Value) (w:World) (r:Nat ⊕ (List Sv.Rule)) (u:Value) (w':World):Prop:=
 ∃ (k n:Nat) (rs:List Sv.Rule),s.size < k+n∧k≤s.size∧rs.length≤k∧RsAt w.heap.size u rs w'∧St b s k (f || Sv.ex rs) eT eL w'∧w.grownBy w' (some b)∧Sv.rlF n s.data.toList rs k=r
set_option maxHeartbeats 1000000 in
set_option maxRecDepth 100000 in
theorem rules_w (b:Nat) (s:ByteArray) (f:Bool) (tT:TypeId) (aT:Addr) (tL:TypeId) (aL:Addr) (w:World) (hs:s.size≤400)
  (hb:St b s 0 f (.iface tT (.pointer (some aT))) (.iface tL (.pointer (some aL))) w) :
  Calls Tryz.prog 63 #[.pointer (some ⟨b,0,none⟩)] w fun e w'=>RulesPost b s f (.iface tT (.pointer (some aT))) (.iface tL (.pointer (some aL))) w (Sv.rules s.data.toList) e w':=by
 obtain ⟨i0,hinf,hz0,hz1,hz2⟩:=info_parts Tryz.infoRule
 obtain ⟨hbT,hbL,hbB⟩:=hb.base
 generalize hr:Sv.rules s.data.toList=r
 unfold Sv.rules at hr
 have HR:=hide hr
 clear hr
 obtain ⟨v,hp,hex,hG⟩:=hb
 have hle:=Sv.sk_le s.data.toList 0 (by simp)
 rw [size_list] at hle
 go_enter Tryz.func63,Tryz.ntmps63
 go_wp2_with (go_at_call 88; refine (skip_w b s 0 v _ (Nat.zero_le _) hs hp).mono ?_; rintro e w1 ⟨rfl,hb1,hg1⟩)
 go_loopw [4] (fun u w'=>RLoop b s f (.iface tT (.pointer (some aT))) (.iface tL (.pointer (some aL))) w r u w') (fun _ w'=>s.size - atOf b w')
 case atStart=>
  exact ⟨Sv.sk s.data.toList 0,s.data.toList.length+1,[],by simp; omega,hle.2,Nat.zero_le _,⟨[],World.ownsRow_nil _ _ _ _,rfl⟩,by simpa [Sv.ex] using St.step hb1 hex hG hg1,hg1,unhide HR⟩
 case round=>
  clear hb1 hg1 hp hex hG HR hle
  obtain ⟨k,m,acc,hkm,hk,hacc,hrs,hst,hg,hnm⟩:=hrel
  obtain ⟨m,rfl⟩:∃ m',m=m'+1:=⟨m - 1,by omega⟩
  rw [Sv.rlF_step,size_list] at hnm
  have HA:=hide hst.at
  obtain ⟨ao2,cap2,rfl⟩:=hrs.slice
  obtain ⟨vx,hbk,hex,hG⟩:=hst
  have c0:=hbk.c0
  have c1:=hbk.c1
  by_cases hlt:k < s.size
  ·rw [if_pos hlt] at hnm
   have HN:=hide hnm
   clear hnm
   have hd:decide ((k:Int) < (s.size:Int))=true:=by simp; omega
   have hok:=Sv.rule_ok s.data.toList k (by simpa using hk)
   go_wp2_with fail
   go_quiet (fail)
   go_wp2_with fail
   refine (note_w b s _ _ tT aT tL aL _ acc.length 8 _ _ rfl rfl ⟨vx,hbk.drewN _,hex.kept (gr_drewN wr _ _),hG.drewN _⟩).mono ?_
   rintro e w3 ⟨rfl,hst3,hg3⟩
   have hrs3:=hrs.row (gr_un hg3) hbk.rowOk (by decide) (by decide) (by decide)
   have hg03:=gr_trans hg (gr_un hg3)
   clear hrs hbk hex hG hg3 hg c0 c1
   go_wp2_with fail
   refine (rule_w b s k _ tT aT tL aL w3 hk hs hst3).mono ?_
   intro e w5 hp
   have HNo:=unhide HN
   clear HN
   cases hc:Sv.rule s.data.toList k with
   | inl q=>
    rw [hc] at hp HNo
    obtain ⟨y,rfl,ff,rfl,hf,hF,hg5⟩:=hp
    simp only at HNo
    subst HNo
    have hf':w.heap.size≤ff:=Nat.le_trans hg03.size hf
    have hg05:=gr_trans hg03 hg5
    clear hst3 hrs3 hok hc
    go_wp2
    go_ret2
    exact ⟨_,rfl,ff,rfl,hf',hF.kept (World.grownBy_alloc w5 _ none) (by simp),gr_trans hg05 (World.grownBy_alloc w5 _ _)⟩
   | inr q=>
    obtain ⟨ru,j2⟩:=q
    rw [hc] at hp HNo hok
    obtain ⟨u5,rfl,hcs5,hst5,hg5⟩:=hp
    obtain ⟨ao5,cap5,rfl⟩:=hcs5.slice
    obtain ⟨hok1,hok2⟩:=hok
    rw [size_list] at hok2
    have HN:=hide HNo
    clear HNo hc
    have hrs5:=hrs3.row hg5 hst3.rowOk (by decide) (by decide) (by decide)
    have hg05:=gr_trans hg03 hg5
    have hsz4:=hg03.size
    clear hst3 hrs3 hg5 hg03
    obtain ⟨xs,hown5,hcells5⟩:=hrs5
    have hgA:=World.grownBy_alloc w5 (.cells #[.string ⟨ru.name.toArray⟩,.slice ao5 ru.conds.length cap5] 128) none
    have hgB:=gr_trans hgA (World.grownBy_alloc (w5.alloc (.cells #[.string ⟨ru.name.toArray⟩,.slice ao5 ru.conds.length cap5] 128)) (.cells #[.string ⟨ru.name.toArray⟩,.slice ao5 ru.conds.length cap5] 128) none)
    have hrow:=RowOk.of ((hown5.alloc (.cells #[.string ⟨ru.name.toArray⟩,.slice ao5 ru.conds.length cap5] 128)).alloc (.cells #[.string ⟨ru.name.toArray⟩,.slice ao5 ru.conds.length cap5] 128))
    have hst6:=hst5.row hgB (RowOk.none w.heap.size 128 w5) (by decide) (by decide) hbT hbL
    have hcells6:=RsCells.row hgB (RowOk.none 0 0 w5) (by decide) (by decide) acc xs hcells5
    have hcs6:=(CsAt.row hcs5 hgB (RowOk.none 0 0 w5) (by decide) (by decide)).weaker (base':=w.heap.size) (by first | exact hsz4 | omega)
    have hg06:=gr_trans hg05 (gr_any hgB (some b))
    have hsz5:=hg05.size
    clear hgA hgB hcells5 hcs5 hst5
    go_wp2_with (at_builtin; refine wpList_append_own _ rfl _ _ 77 rfl w.heap.size 128 i0 (.agg #[.string ⟨#[]⟩,.slice none 0 0]) 2 40 Tryz.underlying77 hinf hz0 hz1 hz2 rfl (by decide) _ acc.length xs rfl ((hown5.alloc _).alloc _) ⟨w5.heap.size+1,0,none⟩ 1 1 [.string ⟨ru.name.toArray⟩,.slice ao5 ru.conds.length cap5] rfl rfl ?c1 ?c2 ?c3 ?c4 ?c5 ?_)
    case c1=>
     intro jj u hu
     match jj,hu with
     | 0,hu=>simp at hu; subst hu; simp [Addr.add]
     | 1,hu=>simp at hu; subst hu; simp [Addr.add]
     | n+2,hu=>simp at hu
    case c2=>
     intro u hu
     simp at hu
     rcases hu with rfl | rfl<;>rfl
    case c3=>unfold maxLen; omega
    case c4=>omega
    case c5=>simp; omega
    intro v' w7 hown hgrow _
    have hst7:=hst6.row hgrow hrow (by decide) (by decide) hbT hbL
    have hg07:=gr_owns hg06 hgrow hrow
    have hcells7:=RsCells.row hgrow hrow (by decide) (by decide) acc xs hcells6
    have hcs7:=CsAt.row hcs6 hgrow hrow (by decide) (by decide)
    have hrs7:RsAt w.heap.size v' (acc ++ [ru]) w7:=⟨_,by rw [List.length_append]; exact hown,RsCells.snoc ru _ hcs7 acc xs hcells7⟩
    rw [←Sv.ex_snoc f acc ru] at hst7
    clear hown hgrow hst6 hg06 hown5 hrow hcells6 hcells7 hcs6 hcs7
    have hle:=Sv.sk_le s.data.toList j2 (by simpa using hok2)
    rw [size_list] at hle
    obtain ⟨vz,hb7,hex7,hG7⟩:=hst7
    obtain ⟨aoz,capz,rfl⟩:=hrs7.slice
    go_wp2_with (go_at_call 88; refine (skip_w b s j2 vz _ hok2 hs hb7).mono ?_; rintro e w8 ⟨rfl,hb8,hg8⟩)
    rw [List.length_append,List.length_singleton] at hrs7
    refine ⟨⟨Sv.sk s.data.toList j2,m,acc ++ [ru],by omega,hle.2,by simp; omega,hrs7.row hg8 hb7.rowOk (by decide) (by decide) (by decide),St.step hb8 hex7 hG7 hg8,gr_trans hg07 hg8,unhide HN⟩,?_⟩
    rw [hb8.at,unhide HA]
    omega
  ·rw [if_neg hlt] at hnm
   subst hnm
   have hd:decide ((k:Int) < (s.size:Int))=false:=by simp; omega
   go_wp2_with fail
   go_quiet (fail)
   go_wp2
   go_ret2
   exact ⟨_,k,rfl,hrs.row (gr_drewN wr _ none) (RowOk.none 0 0 wr) (by decide) (by decide) (by decide),⟨vx,hbk.drewN _,hex.kept (gr_drewN wr _ _),hG.drewN _⟩,gr_trans hg (gr_drewN _ _ _)⟩
def ParsePost (eT eL:Value) (w:World) (s:ByteArray) (e:Ending) (w':World):Prop:=
 w.grownBy w' none∧
 if 400 < s.size then ∃ g i,e=.returned (.tuple #[.slice none 0 0,.iface 112 (.pointer (some ⟨g,0,none⟩))])∧FAt g i eL w'
 else match Sv.rules s.data.toList with
  | .inl k=>∃ g,e=.returned (.tuple #[.slice none 0 0,.iface 112 (.pointer (some ⟨g,0,none⟩))])∧FAt g k eT w'
  | .inr rs=>
   if Sv.ex rs=true then ∃ g i,e=.returned (.tuple #[.slice none 0 0,.iface 112 (.pointer (some ⟨g,0,none⟩))])∧FAt g i eL w'
   else ∃ u,e=.returned (.tuple #[u,.nilIface])∧RsAt w.heap.size u rs w'
set_option maxHeartbeats 400000 in
theorem parse_long (s:ByteArray) (w:World) (tT:TypeId) (aT:Addr) (tL:TypeId) (aL:Addr) (hL:w.cell? ⟨0,0,none⟩=some (.iface tL (.pointer (some aL)))) (hm:s.size≤maxLen) (hs:400 < s.size) :
  Calls Tryz.prog 35 #[.string s] w fun e w'=>ParsePost (.iface tT (.pointer (some aT))) (.iface tL (.pointer (some aL))) w s e w':=by
 unfold maxLen at hm
 have hd:decide ((400:Int) < (s.size:Int))=true:=by simp; omega
 go_enter Tryz.func35,Tryz.ntmps35
 go_wp2
 go_region
 all_goals
  go_wp2
  go_ret2
  refine ⟨gr_drew (World.grownBy_alloc w _ none),?_⟩
  rw [if_pos hs]
  exact ⟨w.heap.size,400,rfl,heap_alloc_new _ _⟩
set_option maxHeartbeats 400000 in
theorem parse_short (s:ByteArray) (w:World) (tT:TypeId) (aT:Addr) (tL:TypeId) (aL:Addr) (hT:w.cell? ⟨2,0,none⟩=some (.iface tT (.pointer (some aT)))) (hL:w.cell? ⟨0,0,none⟩=some (.iface tL (.pointer (some aL)))) (hs:¬ 400 < s.size) :
  Calls Tryz.prog 35 #[.string s] w fun e w'=>ParsePost (.iface tT (.pointer (some aT))) (.iface tL (.pointer (some aL))) w s e w':=by
 have hd:decide ((400:Int) < (s.size:Int))=false:=by simp; omega
 have hs':s.size≤400:=by omega
 have lT:2 < w.heap.size:=World.block_lt_of_cell? w _ hT
 have lL:0 < w.heap.size:=World.block_lt_of_cell? w _ hL
 have hP0:PAt w.heap.size s 0 (.pointer none) (w.alloc (.cells #[.string s,.int .i64 0,.pointer none] 117)):=heap_alloc_new _ _
 have hst0:St w.heap.size s 0 false (.iface tT (.pointer (some aT))) (.iface tL (.pointer (some aL))) (w.alloc (.cells #[.string s,.int .i64 0,.pointer none] 117)):=
  ⟨.pointer none,hP0,.inl ⟨rfl,rfl⟩,by omega,by omega,(cell_al w _ _ _ lT).trans hT,(cell_al w _ _ _ lL).trans hL⟩
 have hgA:=World.grownBy_alloc w (.cells #[.string s,.int .i64 0,.pointer none] 117) none
 have HS:=hide hs
 clear hs
 go_enter Tryz.func35,Tryz.ntmps35
 go_wp2_with fail
 refine (rules_w _ s false tT aT tL aL _ hs' hst0).mono ?_
 intro e w1 hp
 cases hr:Sv.rules s.data.toList with
 | inl k=>
  rw [hr] at hp
  obtain ⟨y,rfl,ff,rfl,hf,hF,hg⟩:=hp
  have hg1:=gr_own hgA hg (Nat.le_refl _)
  have HR:=hide hr
  clear hr
  go_wp2
  go_ret2
  refine ⟨hg1,?_⟩
  rw [if_neg (unhide HS),unhide HR]
  exact ⟨ff,rfl,hF⟩
 | inr rs=>
  rw [hr] at hp
  obtain ⟨u,j,rfl,hrs,⟨vx,hbk,hex,hG⟩,hg⟩:=hp
  have hg1:=gr_own hgA hg (Nat.le_refl _)
  obtain ⟨ao,cap,rfl⟩:=hrs.slice
  have HR:=hide hr
  clear hr
  have c2:=hbk.c2
  rw [Bool.false_or] at hex
  rcases hex with ⟨hex1,rfl⟩ | ⟨hex1,gg,ii,rfl,hne,hF⟩
  ·have HE:=hide hex1
   clear hex1
   go_wp2
   go_ret2
   refine ⟨hg1,?_⟩
   rw [if_neg (unhide HS),unhide HR]
   simp only
   rw [unhide HE,if_neg (by simp)]
   exact ⟨_,rfl,hrs.weak (by simp)⟩
  ·have HE:=hide hex1
   clear hex1
   go_wp2
   go_quiet (fail)
   go_wp2
   go_ret2
   refine ⟨gr_trans hg1 (gr_drewN _ _ _),?_⟩
   rw [if_neg (unhide HS),unhide HR]
   simp only
   rw [unhide HE,if_pos rfl]
   exact ⟨gg,ii,rfl,hF⟩
theorem parse_w (s:ByteArray) (w:World) (tT:TypeId) (aT:Addr) (tL:TypeId) (aL:Addr) (hT:w.cell? ⟨2,0,none⟩=some (.iface tT (.pointer (some aT)))) (hL:w.cell? ⟨0,0,none⟩=some (.iface tL (.pointer (some aL)))) (hm:s.size≤maxLen) :
  Calls Tryz.prog 35 #[.string s] w fun e w'=>ParsePost (.iface tT (.pointer (some aT))) (.iface tL (.pointer (some aL))) w s e w':=by
 by_cases hs:400 < s.size
 ·exact parse_long s w tT aT tL aL hL hm hs
 ·exact parse_short s w tT aT tL aL hT hL hs
end Go.Proofs.YtolhbeekfjnfmaaGreatDoor
namespace Go.Proofs.YtolhbeekfjnfmaaGreatDoor
structure Sv.Fact where
 kind:Int
 vals:List Int
abbrev Sv.Bs:=List (UInt8×Int)
def Sv.lookB:Sv.Bs→UInt8→Option Int
 | [],_=>none
 | p :: b,n=>if p.1=n then some p.2 else Sv.lookB b n
def Sv.meetT:List Sv.Term→List Int→Sv.Bs→Option Sv.Bs
 | t :: ts,v :: vs,b=>
  if t.sort=0 then Sv.meetT ts vs b
  else if t.sort=1 then
   match Sv.lookB b t.letter with
   | none=>Sv.meetT ts vs (b ++ [(t.letter,v)])
   | some u=>if v=u then Sv.meetT ts vs b else none
  else if v=t.value then Sv.meetT ts vs b else none
 | _,_,b=>some b
def Sv.meets (f:Sv.Fact) (c:Sv.Cond) (b:Sv.Bs):Option Sv.Bs:=
 if f.kind=(c.kind:Int)∧f.vals.length=c.terms.length then Sv.meetT c.terms f.vals b else none
def Sv.fromD (L:List (Int×Sv.Fact)):List Sv.Cond→Sv.Bs→List Int→List (List Int)
 | [],_,ids=>[ids]
 | c :: cs,b,ids=>
  if c.neg=true then (if L.any (fun p=>(Sv.meets p.2 c b).isSome)=true then [] else Sv.fromD L cs b ids)
  else L.flatMap fun p=>match Sv.meets p.2 c b with
   | none=>[]
   | some b'=>Sv.fromD L cs b' (ids ++ [p.1])
def Sv.matF (L:List (Int×Sv.Fact)):Nat→List Sv.Rule→List (Int×List Int)
 | _,[]=>[]
 | r,q :: rs=>(Sv.fromD L q.conds [] []).map (fun ids=>((r:Int),ids)) ++ Sv.matF L (r+1) rs
def Sv.matches (rs:List Sv.Rule) (L:List (Int×Sv.Fact)):List (Int×List Int):=Sv.matF L 0 rs
theorem Sv.flatMap_len {α β:Type} (f:α→List β) (k:Nat):∀ (L:List α),(∀ x∈L,(f x).length≤k)→(L.flatMap f).length≤L.length * k
 | [],_=>by simp
 | x :: L,h=>by
  have h1:=Sv.flatMap_len f k L (fun y hy=>h y (List.mem_cons_of_mem _ hy))
  have h2:=h x (List.mem_cons_self ..)
  rw [List.flatMap_cons,List.length_append,List.length_cons,Nat.succ_mul]
  omega
theorem Sv.fromD_len (L:List (Int×Sv.Fact)) (hL:L.length≤16):∀ (cs:List Sv.Cond) (b:Sv.Bs) (ids:List Int),(Sv.fromD L cs b ids).length≤16 ^ cs.length
 | [],b,ids=>by simp [Sv.fromD]
 | c :: cs,b,ids=>by
  have hp:0 < 16 ^ cs.length:=Nat.pow_pos (by omega)
  have e:16 ^ (c :: cs).length=16 * 16 ^ cs.length:=by rw [List.length_cons,Nat.pow_succ,Nat.mul_comm]
  rw [e]
  unfold Sv.fromD
  split
  ·split
   ·simp
   ·have:=Sv.fromD_len L hL cs b ids
    omega
  ·refine Nat.le_trans (Sv.flatMap_len _ (16 ^ cs.length) L ?_) (Nat.mul_le_mul_right _ hL)
   intro p _
   cases Sv.meets p.2 c b with
   | none=>simp
   | some b'=>exact Sv.fromD_len L hL cs b' _
def Sv.lexLt:List Int→List Int→Prop
 | [],[]=>False
 | [],_ :: _=>True
 | _ :: _,[]=>False
 | a :: x,b :: y=>a < b∨(a=b∧Sv.lexLt x y)
theorem Sv.lexLt_app (p:List Int) (a b:Int) (x y:List Int) (h:a < b):Sv.lexLt (p ++ a :: x) (p ++ b :: y):=by
 induction p with
 | nil=>exact .inl h
 | cons c p ih=>exact .inr ⟨rfl,ih⟩
def Sv.pos:List Sv.Cond→Nat
 | []=>0
 | c :: cs=>(if c.neg=true then 0 else 1)+Sv.pos cs
theorem Sv.fromD_ext (L:List (Int×Sv.Fact)):∀ (cs:List Sv.Cond) (b:Sv.Bs) (ids:List Int) (x:List Int),x∈Sv.fromD L cs b ids→∃ t,x=ids ++ t∧t.length=Sv.pos cs
 | [],b,ids,x,h=>⟨[],by simp [Sv.fromD] at h; simp [h],rfl⟩
 | c :: cs,b,ids,x,h=>by
  unfold Sv.fromD at h
  unfold Sv.pos
  split at h
  ·rename_i hn
   split at h
   ·simp at h
   ·obtain ⟨t,h1,h2⟩:=Sv.fromD_ext L cs b ids x h
    exact ⟨t,h1,by rw [if_pos hn]; omega⟩
  ·rename_i hn
   obtain ⟨p,_,hp⟩:=List.mem_flatMap.1 h
   cases hm:Sv.meets p.2 c b with
   | none=>rw [hm] at hp; simp at hp
   | some b'=>
    rw [hm] at hp
    obtain ⟨t,h1,h2⟩:=Sv.fromD_ext L cs b' _ x hp
    exact ⟨p.1 :: t,by rw [h1]; simp,by rw [if_neg hn,List.length_cons]; omega⟩
theorem Sv.fromD_sorted (L:List (Int×Sv.Fact)) (hL:L.Pairwise (fun p q=>p.1 < q.1)):∀ (cs:List Sv.Cond) (b:Sv.Bs) (ids:List Int),(Sv.fromD L cs b ids).Pairwise Sv.lexLt
 | [],b,ids=>by simp [Sv.fromD]
 | c :: cs,b,ids=>by
  unfold Sv.fromD
  split
  ·split
   ·exact List.Pairwise.nil
   ·exact Sv.fromD_sorted L hL cs b ids
  ·rw [List.pairwise_flatMap]
   refine ⟨fun p _=>?_,hL.imp ?_⟩
   ·cases Sv.meets p.2 c b with
    | none=>exact List.Pairwise.nil
    | some b'=>exact Sv.fromD_sorted L hL cs b' _
   ·intro p q hpq x hx y hy
    cases hm:Sv.meets p.2 c b with
    | none=>rw [hm] at hx; simp at hx
    | some b1=>
     cases hm2:Sv.meets q.2 c b with
     | none=>rw [hm2] at hy; simp at hy
     | some b2=>
      rw [hm] at hx
      rw [hm2] at hy
      obtain ⟨t1,h1,_⟩:=Sv.fromD_ext L cs b1 _ x hx
      obtain ⟨t2,h2,_⟩:=Sv.fromD_ext L cs b2 _ y hy
      rw [h1,h2,List.append_assoc,List.append_assoc]
      exact Sv.lexLt_app ids p.1 q.1 t1 t2 hpq
end Go.Proofs.YtolhbeekfjnfmaaGreatDoor

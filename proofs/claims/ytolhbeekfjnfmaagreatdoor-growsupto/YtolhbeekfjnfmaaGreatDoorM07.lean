import Derived.Laws.IdiomStrings
import Derived.Test.YtolhbeekfjnfmaaGreatDoorM06
namespace Go.Proofs.YtolhbeekfjnfmaaGreatDoor
open Go.RowKit
theorem one_byte (w:World) (c:UInt8):Sem.run Tryz.prog (convert 123 9 (.slice (some ⟨w.heap.size,0,none⟩) 1 1)) (w.alloc (.cells #[.int .u8 c.toNat] 5))=.ok (.string ⟨#[c]⟩) (w.alloc (.cells #[.int .u8 c.toNat] 5)):=by
 have h:=run_convert_bytes_back (P:=Tryz.prog) (w.alloc (.cells #[.int .u8 c.toNat] 5)) 123 9 5 ⟨w.heap.size,0,none⟩ 1 [c] Tryz.underlying123 Tryz.underlying5 Tryz.underlying9 (by
  intro j hj
  obtain rfl:j=0:=by simp at hj; omega
  simp [Addr.add])
 exact h
theorem one_byteD (w:World) (n:Nat) (c:UInt8):Sem.run Tryz.prog (convert 123 9 (.slice (some ⟨w.heap.size,0,none⟩) 1 1)) ((w.drewN n).alloc (.cells #[.int .u8 c.toNat] 5))=.ok (.string ⟨#[c]⟩) ((w.drewN n).alloc (.cells #[.int .u8 c.toNat] 5)):=one_byte (w.drewN n) c
theorem Sv.cut_snoc (l:List UInt8) (i k:Nat) (hik:i≤k) (hk:k < l.length):Sv.cut l i (k+1)=Sv.cut l i k ++ [Sv.pk l k]:=by
 unfold Sv.cut
 rw [List.take_add_one,List.getElem?_eq_getElem hk,List.drop_append_of_le_length (by simp; omega),Sv.pk_at l k hk]
 rfl
theorem ba_app (a b:List UInt8):(⟨a.toArray⟩:ByteArray) ++ ⟨b.toArray⟩=⟨(a ++ b).toArray⟩:=by
 apply ByteArray.ext
 simp
theorem ne_empty (t:ByteArray) (h:0 < t.size):t.toList.isEmpty=false:=by
 rw [Lib.toList_data,List.isEmpty_eq_false_iff]
 intro e
 have:=congrArg List.length e
 rw [size_list,List.length_nil] at this
 omega
set_option maxHeartbeats 400000 in
theorem vname_no (b:Nat) (s:ByteArray) (i:Nat) (w:World) (hi:i≤s.size) (hs:s.size≤400) (h:Sv.nmF 8 s.data.toList i=i) (hb:VAt b s i false w) :
  Calls Tryz.prog 149 #[.pointer (some ⟨b,0,none⟩)] w fun e w'=>e=.returned (.string ⟨#[]⟩)∧VAt b s i true w'∧w.grownBy w' (some b):=by
 have hl:=Sv.nm_first _ _ h
 clear h
 have f2:=hb.fz 2
 have c2:=hb.c2
 go_enter Tryz.func149,Tryz.ntmps149
 go_wp2
 go_loopw [3] (fun x w'=>x=.string ⟨#[]⟩∧w'=w) (fun _ _=>0)
 case atStart=>exact ⟨rfl,rfl⟩
 case round=>
  obtain ⟨rfl,rfl⟩:=hrel
  go_wp2_with (first | (go_at_call 148; refine (vhere_w b s i _ hi hs hb).mono ?_; rintro e w1 ⟨rfl,n,rfl⟩) | (go_at_call 176; refine (vletter_w _ _).mono ?_; rintro e w3 ⟨rfl,rfl⟩))
  go_ret
  exact ⟨rfl,VAt.set2 (hb.drewN n) _,gr_trans (gr_drewN wr n _) (gr_set _ b 2 _)⟩
set_option maxRecDepth 100000 in
set_option maxHeartbeats 400000 in
theorem vname_yes (b:Nat) (s:ByteArray) (i:Nat) (w:World) (hi:i≤s.size) (hs:s.size≤400) (h:Sv.nmF 8 s.data.toList i≠i) (hb:VAt b s i false w) :
  Calls Tryz.prog 149 #[.pointer (some ⟨b,0,none⟩)] w fun e w'=>e=.returned (.string ⟨(Sv.cut s.data.toList i (Sv.nmF 8 s.data.toList i)).toArray⟩)∧VAt b s (Sv.nmF 8 s.data.toList i) false w'∧w.grownBy w' (some b):=by
 have hnl:=Sv.nmF_le 8 s.data.toList i (by simpa using hi)
 rw [size_list] at hnl
 obtain ⟨hn1,hn2,hn3⟩:=hnl
 obtain ⟨j,hj⟩:∃ j,Sv.nmF 8 s.data.toList i=j:=⟨_,rfl⟩
 rw [hj] at h hn1 hn2 hn3 ⊢
 have HJ:Hid (Sv.nmF 8 s.data.toList i=j):=hj
 clear hj
 go_enter Tryz.func149,Tryz.ntmps149
 go_wp2
 go_loopw [3] (fun x w'=>∃ (k m:Nat) (t:ByteArray),k+m=i+8∧k≤s.size∧i≤k∧x=.string t∧t=⟨(Sv.cut s.data.toList i k).toArray⟩∧t.size+i=k∧VAt b s k false w'∧w.grownBy w' (some b)∧Sv.nmF m s.data.toList k=j) (fun _ w'=>s.size - atOf b w')
 case atStart=>exact ⟨i,8,⟨#[]⟩,rfl,hi,Nat.le_refl _,rfl,by simp [Sv.cut],by simp [ByteArray.size],hb,World.grownBy.refl _ _,HJ.out⟩
 case round=>
  obtain ⟨k,m,t,hkm,hk,hik,rfl,ht,hts,hbk,hg,hnm⟩:=hrel
  have HT:Hid (t=⟨(Sv.cut s.data.toList i k).toArray⟩):=ht
  have HN:Hid (Sv.nmF m s.data.toList k=j):=hnm
  have HK:Hid (k+m=i+8):=hkm
  have HA:Hid (atOf b wr=k):=hbk.at
  clear hnm hkm ht
  have c1:=hbk.c1
  have f1:=hbk.fz 1
  cases hl:Sv.letB (Sv.pk s.data.toList k)
  ·obtain rfl:k=j:=by
    have:=HN.out
    cases m with
    | zero=>exact this
    | succ m=>rw [Sv.nmF_step,hl] at this; exact this
   have e1:t.toList.isEmpty=false:=ne_empty t (by omega)
   go_wp2_with (first | (go_at_call 148; refine (vhere_w b s k _ hk hs hbk).mono ?_; rintro e w1 ⟨rfl,n,rfl⟩) | (go_at_call 176; refine (vletter_w _ _).mono ?_; rintro e w3 ⟨rfl,rfl⟩))
   go_ret
   exact ⟨by rw [←HT.out]; rfl,hbk,gr_trans hg (gr_drewN _ _ _)⟩
  ·have hkp:=Sv.let_pos _ _ hl
   rw [size_list] at hkp
   cases m with
   | zero=>
    obtain rfl:k=j:=HN.out
    have hk8:t.size=8:=by have:=HK.out; omega
    have e1:t.toList.isEmpty=false:=ne_empty t (by omega)
    have e2:((t.size:Int) == 8)=true:=by simp; omega
    go_wp2_with (first | (go_at_call 148; refine (vhere_w b s k _ hk hs hbk).mono ?_; rintro e w1 ⟨rfl,n,rfl⟩) | (go_at_call 176; refine (vletter_w _ _).mono ?_; rintro e w3 ⟨rfl,rfl⟩))
    go_ret
    exact ⟨by rw [←HT.out]; rfl,hbk,gr_trans hg (gr_drewN _ _ _)⟩
   | succ m=>
    have hk8:t.size < 8:=by have:=HK.out; omega
    have e2:((t.size:Int) == 8)=false:=by simp; omega
    have hcv:=fun n=>one_byteD wr n (Sv.pk s.data.toList k)
    have hlt:=hbk.lt
    have c1':=fun n o=>((hbk.drewN n).kept (World.grownBy_alloc (wr.drewN n) o none) (by simp)).c1
    have f1':=fun n o=>((hbk.drewN n).kept (World.grownBy_alloc (wr.drewN n) o none) (by simp)).fz 1
    go_wp2_with (first | (go_at_call 148; refine (vhere_w b s k _ hk hs hbk).mono ?_; rintro e w1 ⟨rfl,n,rfl⟩) | (go_at_call 176; refine (vletter_w _ _).mono ?_; rintro e w3 ⟨rfl,rfl⟩))
    refine ⟨⟨k+1,m,_,by have:=HK.out; omega,by omega,by omega,rfl,?_,?_,((hbk.drewN n).kept (World.grownBy_alloc (wr.drewN n) _ none) (by simp)).set1 (k+1),gr_trans hg (gr_trans (gr_trans (gr_drewN wr n _) (World.grownBy_alloc _ _ _)) (gr_set _ b 1 _)),by have:=HN.out; rw [Sv.nmF_step,hl] at this; exact this⟩,?_⟩
    ·rw [HT.out,Sv.cut_snoc _ _ _ hik (by simpa using hkp)]
     exact ba_app _ _
    ·rw [ByteArray.size_append]
     show t.size+1+i=k+1
     omega
    ·have h2:=(((hbk.drewN n).kept (World.grownBy_alloc (wr.drewN n) (Obj.cells #[Value.int IntKind.u8 ↑(Sv.pk s.data.toList k).toNat] 5) none) (by simp)).set1 (k+1)).at
     rw [HA.out]
     have h3:((k+1:Nat):Int)=(k:Int)+1:=by omega
     rw [h3] at h2
     rw [h2]; omega
def VNumPost (b:Nat) (s:ByteArray) (w:World) (r:Nat ⊕ (Sv.Term×Nat)) (e:Ending) (w':World):Prop:=
 match r with
 | .inl k=>∃ z,e=.returned (.int .i64 z)∧VAt b s k true w'∧w.grownBy w' (some b)
 | .inr (t,j)=>e=.returned (.int .i64 t.value)∧VAt b s j false w'∧w.grownBy w' (some b)
set_option maxRecDepth 100000 in
set_option maxHeartbeats 1000000 in
theorem vnumber_no1 (b:Nat) (s:ByteArray) (i:Nat) (w:World) (hi:i≤s.size) (hs:s.size≤400) (hm:(Sv.pk s.data.toList i == 45)=true) (h:(Sv.ndF 9 s.data.toList 0 (i+1)).2=i+1) (hb:VAt b s i false w) :
  Calls Tryz.prog 178 #[.pointer (some ⟨b,0,none⟩)] w fun e w'=>∃ z,e=.returned (.int .i64 z)∧VAt b s (i+1) true w'∧w.grownBy w' (some b):=by
 have hl:=Sv.nd_first _ _ h
 clear h
 have hi1:=Sv.byte_pos _ _ 45 (by decide) hm
 rw [size_list] at hi1
 have em:=(u8_45 (Sv.pk s.data.toList i)).trans hm
 clear hm
 have c1:=hb.c1
 have f1:=hb.fz 1
 go_enter Tryz.func178,Tryz.ntmps178
 go_wp2_with (go_at_call 148; refine (vhere_w b s i _ hi hs hb).mono ?_; rintro e w1 ⟨rfl,n,rfl⟩)
 go_loopw [4,5] (fun x y w'=>x=.int .i64 0∧y=.int .i64 0∧VAt b s (i+1) false w'∧w.grownBy w' (some b)) (fun _ _ _=>0)
 case atStart=>exact ⟨rfl,rfl,(hb.drewN n).set1 (i+1),gr_trans (gr_drewN w n _) (gr_set _ b 1 _)⟩
 case round=>
  obtain ⟨rfl,rfl,hbk,hg⟩:=hrel
  clear c1 f1
  have f2:=hbk.fz 2
  have c2:=hbk.c2
  go_wp2_with (first | (go_at_call 148; refine (vhere_w b s (i+1) _ hi1 hs hbk).mono ?_; rintro e w1 ⟨rfl,n2,rfl⟩) | (go_at_call 177; refine (vdigit_w _ _).mono ?_; rintro e w3 ⟨rfl,rfl⟩))
  go_ret
  exact ⟨_,rfl,(hbk.drewN n2).set2 true,gr_trans hg (gr_trans (gr_drewN wr n2 _) (gr_set _ b 2 _))⟩
set_option maxRecDepth 100000 in
set_option maxHeartbeats 1000000 in
theorem vnumber_yes0 (b:Nat) (s:ByteArray) (i:Nat) (w:World) (hi:i≤s.size) (hs:s.size≤400) (hm:(Sv.pk s.data.toList i == 45)=false) (rv rk:Nat) (h:Sv.ndF 9 s.data.toList 0 i=(rv,rk)) (hrk:rk≠i) (hb:VAt b s i false w) :
  Calls Tryz.prog 178 #[.pointer (some ⟨b,0,none⟩)] w fun e w'=>e=.returned (.int .i64 rv)∧VAt b s rk false w'∧w.grownBy w' (some b):=by
 have em:=(u8_45 (Sv.pk s.data.toList i)).trans hm
 have HR:Hid (Sv.ndF 9 s.data.toList 0 i=(rv,rk)):=h
 clear h hm
 go_enter Tryz.func178,Tryz.ntmps178
 go_wp2_with (go_at_call 148; refine (vhere_w b s i _ hi hs hb).mono ?_; rintro e w1 ⟨rfl,n,rfl⟩)
 go_loopw [4,5] (fun x y w'=>∃ q n acc:Nat,q+n=9∧i+q≤s.size∧(acc+1) * 10 ^ n≤1000000000∧x=.int .i64 acc∧y=.int .i64 q∧VAt b s (i+q) false w'∧w.grownBy w' (some b)∧Sv.ndF n s.data.toList acc (i+q)=(rv,rk)) (fun _ _ w'=>s.size - atOf b w')
 case atStart=>exact ⟨0,9,0,rfl,hi,by decide,rfl,rfl,hb.drewN n,gr_drewN _ _ _,HR.out⟩
 case round=>
  obtain ⟨q,m,acc,hkm,hk,hacc,rfl,rfl,hbk,hg,hnm⟩:=hrel
  have HN:Hid (Sv.ndF m s.data.toList acc (i+q)=(rv,rk)):=hnm
  have HK:Hid (q+m=9):=hkm
  have HC:Hid ((acc+1) * 10 ^ m≤1000000000):=hacc
  have HA:Hid (atOf b wr=i+q):=hbk.at
  have hacc0:=Sv.nd_bd0 acc m hacc
  have hq9:q≤9:=by omega
  clear hnm hkm hacc
  have c1:=hbk.c1
  have f1:=hbk.fz 1
  have hacc1:(0:Int)≤(acc:Int):=by omega
  have hacc2:(acc:Int) < 1000000000:=by omega
  cases hl:Sv.digB (Sv.pk s.data.toList (i+q))
  ·obtain ⟨rfl,rfl⟩:acc=rv∧i+q=rk:=by
    have:=HN.out
    cases m with
    | zero=>simpa [Sv.ndF] using this
    | succ m=>rw [Sv.ndF_step,hl] at this; simpa using this
   have e1:((q:Int) == 0)=false:=by simp; omega
   go_wp2_with (first | (go_at_call 148; refine (vhere_w b s (i+q) _ hk hs hbk).mono ?_; rintro e w1 ⟨rfl,n2,rfl⟩) | (go_at_call 177; refine (vdigit_w _ _).mono ?_; rintro e w3 ⟨rfl,rfl⟩))
   go_ret
   exact ⟨rfl,hbk,gr_trans hg (gr_drewN _ _ _)⟩
  ·have hkp:=Sv.dig_pos _ _ hl
   rw [size_list] at hkp
   cases m with
   | zero=>
    obtain ⟨rfl,rfl⟩:acc=rv∧i+q=rk:=by have:=HN.out; simpa [Sv.ndF] using this
    have e1:((q:Int) == 0)=false:=by simp; omega
    have e2:((q:Int) == 9)=true:=by have:=HK.out; simp; omega
    go_wp2_with (first | (go_at_call 148; refine (vhere_w b s (i+q) _ hk hs hbk).mono ?_; rintro e w1 ⟨rfl,n2,rfl⟩) | (go_at_call 177; refine (vdigit_w _ _).mono ?_; rintro e w3 ⟨rfl,rfl⟩))
    go_ret
    exact ⟨rfl,hbk,gr_trans hg (gr_drewN _ _ _)⟩
   | succ m=>
    have e2:((q:Int) == 9)=false:=by have:=HK.out; simp; omega
    obtain ⟨hr1,hr2⟩:=u8_sub _ hl
    go_wp2_with (first | (go_at_call 148; refine (vhere_w b s (i+q) _ hk hs hbk).mono ?_; rintro e w1 ⟨rfl,n2,rfl⟩) | (go_at_call 177; refine (vdigit_w _ _).mono ?_; rintro e w3 ⟨rfl,rfl⟩))
    have hset:VAt b s (i+(q+1)) false ((wr.drewN n2).setCell ⟨b,1,none⟩ (.int .i64 ((i:Int)+(q:Int)+1))):=by
     have h0:=(hbk.drewN n2).set1 (i+(q+1))
     rwa [show ((i+(q+1):Nat):Int)=(i:Int)+(q:Int)+1 from by omega] at h0
    refine ⟨⟨q+1,m,acc * 10+((Sv.pk s.data.toList (i+q)).toNat - 48),by have:=HK.out; omega,by omega,Sv.nd_bd _ _ _ HC.out (by have:=Sv.dig_rng _ hl; omega),int_eq (by omega),int_eq (by omega),hset,gr_trans hg (gr_trans (gr_drewN wr n2 _) (gr_set _ b 1 _)),by have:=HN.out; rw [Sv.ndF_step,hl] at this; exact this⟩,?_⟩
    rw [hset.at,HA.out]; omega
set_option maxRecDepth 100000 in
set_option maxHeartbeats 1000000 in
theorem vnumber_yes1 (b:Nat) (s:ByteArray) (i:Nat) (w:World) (hi:i≤s.size) (hs:s.size≤400) (hm:(Sv.pk s.data.toList i == 45)=true) (rv rk:Nat) (h:Sv.ndF 9 s.data.toList 0 (i+1)=(rv,rk)) (hrk:rk≠i+1) (hb:VAt b s i false w) :
  Calls Tryz.prog 178 #[.pointer (some ⟨b,0,none⟩)] w fun e w'=>e=.returned (.int .i64 (-(rv:Int)))∧VAt b s rk false w'∧w.grownBy w' (some b):=by
 have em:=(u8_45 (Sv.pk s.data.toList i)).trans hm
 have HR:Hid (Sv.ndF 9 s.data.toList 0 (i+1)=(rv,rk)):=h
 have hi1:=Sv.byte_pos _ _ 45 (by decide) hm
 rw [size_list] at hi1
 clear h hm
 have c1:=hb.c1
 have f1:=hb.fz 1
 go_enter Tryz.func178,Tryz.ntmps178
 go_wp2_with (go_at_call 148; refine (vhere_w b s i _ hi hs hb).mono ?_; rintro e w1 ⟨rfl,n,rfl⟩)
 go_loopw [4,5] (fun x y w'=>∃ q n acc:Nat,q+n=9∧i+1+q≤s.size∧(acc+1) * 10 ^ n≤1000000000∧x=.int .i64 acc∧y=.int .i64 q∧VAt b s (i+1+q) false w'∧w.grownBy w' (some b)∧Sv.ndF n s.data.toList acc (i+1+q)=(rv,rk)) (fun _ _ w'=>s.size - atOf b w')
 case atStart=>exact ⟨0,9,0,rfl,hi1,by decide,rfl,rfl,(hb.drewN n).set1 (i+1),gr_trans (gr_drewN w n _) (gr_set _ b 1 _),HR.out⟩
 case round=>
  obtain ⟨q,m,acc,hkm,hk,hacc,rfl,rfl,hbk,hg,hnm⟩:=hrel
  have HN:Hid (Sv.ndF m s.data.toList acc (i+1+q)=(rv,rk)):=hnm
  have HK:Hid (q+m=9):=hkm
  have HC:Hid ((acc+1) * 10 ^ m≤1000000000):=hacc
  have HA:Hid (atOf b wr=i+1+q):=hbk.at
  have hacc0:=Sv.nd_bd0 acc m hacc
  have hq9:q≤9:=by omega
  clear hnm hkm hacc c1 f1
  have c1:=hbk.c1
  have f1:=hbk.fz 1
  have hacc1:(0:Int)≤(acc:Int):=by omega
  have hacc2:(acc:Int) < 1000000000:=by omega
  cases hl:Sv.digB (Sv.pk s.data.toList (i+1+q))
  ·obtain ⟨rfl,rfl⟩:acc=rv∧i+1+q=rk:=by
    have:=HN.out
    cases m with
    | zero=>simpa [Sv.ndF] using this
    | succ m=>rw [Sv.ndF_step,hl] at this; simpa using this
   have e1:((q:Int) == 0)=false:=by simp; omega
   go_wp2_with (first | (go_at_call 148; refine (vhere_w b s (i+1+q) _ hk hs hbk).mono ?_; rintro e w1 ⟨rfl,n2,rfl⟩) | (go_at_call 177; refine (vdigit_w _ _).mono ?_; rintro e w3 ⟨rfl,rfl⟩))
   go_ret
   exact ⟨rfl,hbk,gr_trans hg (gr_drewN _ _ _)⟩
  ·have hkp:=Sv.dig_pos _ _ hl
   rw [size_list] at hkp
   cases m with
   | zero=>
    obtain ⟨rfl,rfl⟩:acc=rv∧i+1+q=rk:=by have:=HN.out; simpa [Sv.ndF] using this
    have e1:((q:Int) == 0)=false:=by simp; omega
    have e2:((q:Int) == 9)=true:=by have:=HK.out; simp; omega
    go_wp2_with (first | (go_at_call 148; refine (vhere_w b s (i+1+q) _ hk hs hbk).mono ?_; rintro e w1 ⟨rfl,n2,rfl⟩) | (go_at_call 177; refine (vdigit_w _ _).mono ?_; rintro e w3 ⟨rfl,rfl⟩))
    go_ret
    exact ⟨rfl,hbk,gr_trans hg (gr_drewN _ _ _)⟩
   | succ m=>
    have e2:((q:Int) == 9)=false:=by have:=HK.out; simp; omega
    obtain ⟨hr1,hr2⟩:=u8_sub _ hl
    go_wp2_with (first | (go_at_call 148; refine (vhere_w b s (i+1+q) _ hk hs hbk).mono ?_; rintro e w1 ⟨rfl,n2,rfl⟩) | (go_at_call 177; refine (vdigit_w _ _).mono ?_; rintro e w3 ⟨rfl,rfl⟩))
    have hset:VAt b s (i+1+(q+1)) false ((wr.drewN n2).setCell ⟨b,1,none⟩ (.int .i64 ((i:Int)+1+(q:Int)+1))):=by
     have h0:=(hbk.drewN n2).set1 (i+1+(q+1))
     rwa [show ((i+1+(q+1):Nat):Int)=(i:Int)+1+(q:Int)+1 from by omega] at h0
    refine ⟨⟨q+1,m,acc * 10+((Sv.pk s.data.toList (i+1+q)).toNat - 48),by have:=HK.out; omega,by omega,Sv.nd_bd _ _ _ HC.out (by have:=Sv.dig_rng _ hl; omega),int_eq (by omega),int_eq (by omega),hset,gr_trans hg (gr_trans (gr_drewN wr n2 _) (gr_set _ b 1 _)),by have:=HN.out; rw [Sv.ndF_step,hl] at this; exact this⟩,?_⟩
    rw [hset.at,HA.out]; omega
theorem vnumber_w (b:Nat) (s:ByteArray) (i:Nat) (w:World) (hi:i≤s.size) (hs:s.size≤400) (hc:(Sv.pk s.data.toList i == 45)=false→Sv.digB (Sv.pk s.data.toList i)=true) (hb:VAt b s i false w) :
  Calls Tryz.prog 178 #[.pointer (some ⟨b,0,none⟩)] w fun e w'=>VNumPost b s w (Sv.number s.data.toList i) e w':=by
 unfold Sv.number
 cases hm:Sv.pk s.data.toList i == 45
 ·simp only [Bool.false_eq_true,if_false]
  have h:(Sv.ndF 9 s.data.toList 0 i).2≠i:=fun h=>by
   have:=Sv.nd_first _ _ h
   rw [hc hm] at this
   cases this
  rw [if_neg h]
  exact vnumber_yes0 b s i w hi hs hm _ _ rfl h hb
 ·simp only [if_true]
  by_cases h:(Sv.ndF 9 s.data.toList 0 (i+1)).2=i+1
  ·rw [if_pos h]
   exact vnumber_no1 b s i w hi hs hm h hb
  ·rw [if_neg h]
   exact vnumber_yes1 b s i w hi hs hm _ _ rfl h hb
end Go.Proofs.YtolhbeekfjnfmaaGreatDoor
namespace Go.Proofs.YtolhbeekfjnfmaaGreatDoor
open Go.RowKit
def vtcells (t:Sv.Term):List Value:=[.int .u8 t.letter.toNat,.int .i64 t.value,.bool (t.sort == 0)]
def VTsAt (base:Nat) (u:Value) (ts:List Sv.Term) (w:World):Prop:=w.ownsRow base 169 3 u ts.length (ts.flatMap vtcells)
theorem VTsAt.slice {base:Nat} {u:Value} {ts:List Sv.Term} {w:World} (h:VTsAt base u ts w):∃ ao cap,u=.slice ao ts.length cap:=by
 rcases h.2 with ⟨h1,h2⟩ | ⟨g,cap,cur,h1,_⟩
 ·exact ⟨none,0,by rw [h2]; exact h1⟩
 ·exact ⟨_,_,h1⟩
theorem VTsAt.row {w w':World} {base base':Nat} {e':TypeId} {v:Value} {ts:List Sv.Term} {row:Option Nat} (h:VTsAt base v ts w) (hg:w.grownBy w' row) (hr:RowOk base' e' row w) (hne:e'≠169):VTsAt base v ts w':=own_row h hg hr hne
theorem Tryz.infoVTerm:(Tryz.prog.info? 169).map (fun i=>(i.zero,i.size,i.bytes))=some (some (.agg #[.int .u8 0,.int .i64 0,.bool false]),3,24):=by kernel_rfl
theorem Sv.behind_sk (l:List UInt8) (i:Nat) (h:i < Sv.sk l i):Sv.behind l (Sv.sk l i)=false:=by
 have hb:∀ j,i≤j→j < Sv.sk l i→Sv.blB (Sv.pk l j)=true:=by
  intro j h1 h2
  unfold Sv.sk at h2
  have h3:j - i < ((l.drop i).takeWhile Sv.blB).length:=by omega
  have h4:=List.all_eq_true.1 (List.all_takeWhile (l:=l.drop i) (p:=Sv.blB)) _ (List.getElem_mem h3)
  have h5:((l.drop i).takeWhile Sv.blB)[j - i]=Sv.pk l j:=by
   have h6:=(List.takeWhile_prefix Sv.blB (l:=l.drop i)).getElem h3
   rw [h6]
   have h7:j < l.length:=by
    have:=(List.takeWhile_prefix Sv.blB (l:=l.drop i)).length_le
    rw [List.length_drop] at this
    omega
   rw [Sv.pk_at l j h7,List.getElem_drop]
   congr 1
   omega
  rw [h5] at h4
  exact h4
 have h1:=hb (Sv.sk l i - 1) (by omega) (by omega)
 unfold Sv.behind
 have h2:Sv.digB (Sv.pk l (Sv.sk l i - 1))=false:=by
  cases hd:Sv.digB (Sv.pk l (Sv.sk l i - 1))
  ·rfl
  ·have h3:=Sv.dig_rng _ hd
   simp [Sv.blB] at h1
   rcases h1 with h1 | h1<;>rw [h1] at h3<;>simp at h3
 rw [h2,Bool.and_false]
theorem C3.row {T:TypeId} {N:Nat} {x y z:Value} {w w':World} {row:Option Nat} {base:Nat} {e:TypeId} (h:C3 T N x y z w) (hg:w.grownBy w' row) (hr:RowOk base e row w) (he:e≠T):C3 T N x y z w':=by
 refine h.kept hg (fun e1=>?_)
 obtain ⟨_,cur,fz,h2⟩:=hr N e1.symm
 unfold C3 at h
 rw [h] at h2
 simp at h2
 exact he h2.2.1.symm
theorem C3.drewN {T:TypeId} {N:Nat} {x y z:Value} {w:World} (h:C3 T N x y z w) (n:Nat):C3 T N x y z (w.drewN n):=h
theorem C3.put2 {T:TypeId} {N:Nat} {a b c:Value} {w:World} (h:C3 T N a b c w) (x:Value):C3 T N a b x (w.setCell ⟨N,2,none⟩ x):=by
 unfold C3 at h ⊢
 rw [heap_setCell_same w N 2 _ _ x h]; rfl
theorem C3.put1 {T:TypeId} {N:Nat} {a b c:Value} {w:World} (h:C3 T N a b c w) (x:Value):C3 T N a x c (w.setCell ⟨N,1,none⟩ x):=by
 unfold C3 at h ⊢
 rw [heap_setCell_same w N 1 _ _ x h]; rfl
theorem Sv.let_ne (c d:UInt8) (h:Sv.letB c=true) (hd:d.toNat < 97):(c == d)=false:=by
 have:=Sv.let_rng c h
 rw [beq_eq_false_iff_ne]
 intro e
 rw [e] at this
 omega
theorem Sv.dig_let (c:UInt8) (h:Sv.letB c=true):Sv.digB c=false:=by
 have:=Sv.let_rng c h
 cases hd:Sv.digB c
 ·rfl
 ·have:=Sv.dig_rng c hd; omega
theorem u8_41 (c:UInt8):((c.toNat:Int) == 41)=(c == 41):=u8_inj c 41
theorem cell_newD (w:World) (n:Nat) (C:Array Value) (T:TypeId) (j:Nat):((w.drewN n).alloc (.cells C T)).cell? ⟨w.heap.size,j,none⟩=C[j]?:=World.cell?_alloc_mark (w.drewN n) C T (0,0) j
theorem vterm_fin {w w4:World} {b:Nat} {s:ByteArray} {k:Nat} {bd nt:Bool} {C kd:Nat} {u v':Value} {ts:List Sv.Term} (hb4:VAt b s k bd w4) (hC4:C3 166 C (.bool nt) (.int .i64 kd) u w4) (hR4:C3 166 w.heap.size (.bool false) (.int .i64 0) (.slice none 0 0) w4) (hts4:VTsAt w.heap.size v' ts w4) (hg4:w.grownBy w4 (some b)) (hR:w.heap.size < C) (hbR:b < w.heap.size) :
  VAt b s k bd (w4.setCell ⟨C,2,none⟩ v')∧C3 166 C (.bool nt) (.int .i64 kd) v' (w4.setCell ⟨C,2,none⟩ v')∧C3 166 w.heap.size (.bool false) (.int .i64 0) (.slice none 0 0) (w4.setCell ⟨C,2,none⟩ v')∧VTsAt w.heap.size v' ts (w4.setCell ⟨C,2,none⟩ v')∧w.grownBy (w4.setCell ⟨C,2,none⟩ v') (some b):=by
 have kC:=gr_set w4 C 2 v'
 exact ⟨hb4.kept kC (by simp; omega),hC4.put2 v',hR4.kept kC (by simp; omega),hts4.row kC (RowOk.one hC4 (Nat.le_of_lt hR)) (by decide),gr_own hg4 kC (Nat.le_of_lt hR)⟩
theorem vterm_fin2 {w w4:World} {b:Nat} {s:ByteArray} {k:Nat} {bd nt:Bool} {C kd:Nat} {v':Value} {ts:List Sv.Term} (j:Nat) (hb4:VAt b s k bd w4) (hC4:C3 166 C (.bool nt) (.int .i64 kd) v' w4) (hR4:C3 166 w.heap.size (.bool false) (.int .i64 0) (.slice none 0 0) w4) (hts4:VTsAt w.heap.size v' ts w4) (hg4:w.grownBy w4 (some b)) (hR:w.heap.size < C) (hbR:b < w.heap.size) :
  VAt b s j bd (w4.setCell ⟨b,1,none⟩ (.int .i64 j))∧C3 166 C (.bool nt) (.int .i64 kd) v' (w4.setCell ⟨b,1,none⟩ (.int .i64 j))∧C3 166 w.heap.size (.bool false) (.int .i64 0) (.slice none 0 0) (w4.setCell ⟨b,1,none⟩ (.int .i64 j))∧VTsAt w.heap.size v' ts (w4.setCell ⟨b,1,none⟩ (.int .i64 j))∧w.grownBy (w4.setCell ⟨b,1,none⟩ (.int .i64 j)) (some b):=by
 have kC:=gr_set w4 b 1 (.int .i64 j)
 exact ⟨hb4.set1 j,hC4.kept kC (by simp; omega),hR4.kept kC (by simp; omega),hts4.row kC hb4.rowOk (by decide),gr_trans hg4 kC⟩
theorem vterm_own {w w4:World} {base:Nat} {v':Value} {acc:List Sv.Term} {t:Sv.Term} (_hg:w.grownBy w4 none∨True) (h:w4.ownsRow base 169 3 v' (acc.length+1) (acc.flatMap vtcells ++ vtcells t)):VTsAt base v' (acc ++ [t]) w4:=by
 unfold VTsAt
 rw [List.length_append,List.flatMap_append]
 simpa using h
theorem Sv.behind_next (l:List UInt8) (k:Nat) (v:Bool) (h:Sv.digB (Sv.pk l k)=v):Sv.behind l (k+1)=v:=by
 unfold Sv.behind
 rw [show k+1 - 1=k from rfl,h]
 simp
theorem vnumber_any (b:Nat) (s:ByteArray) (i:Nat) (w:World) (hi:i≤s.size) (hs:s.size≤400) (hc:(Sv.pk s.data.toList i == 45)=false→Sv.digB (Sv.pk s.data.toList i)=true) (hb:VAt b s i false w) :
  Calls Tryz.prog 178 #[.pointer (some ⟨b,0,none⟩)] w fun e w'=>∃ (z:Int) (j:Nat) (bd:Bool),e=.returned (.int .i64 z)∧VAt b s j bd w'∧w.grownBy w' (some b)∧Hid ((bd=true∧Sv.number s.data.toList i=.inl j)∨(bd=false∧Sv.number s.data.toList i=.inr (⟨2,0,z⟩,j))):=by
 refine (vnumber_w b s i w hi hs hc hb).mono ?_
 intro e w' hp
 cases hr:Sv.number s.data.toList i with
 | inl k=>
  rw [hr] at hp
  obtain ⟨z,rfl,h1,h2⟩:=hp
  exact ⟨z,k,true,rfl,h1,h2,.inl ⟨rfl,rfl⟩⟩
 | inr q=>
  obtain ⟨t,j⟩:=q
  rw [hr] at hp
  obtain ⟨rfl,h1,h2⟩:=hp
  have h3:=(Sv.number_shape _ _ _ _ hr).1
  exact ⟨_,j,false,rfl,h1,h2,.inr ⟨rfl,by rw [←h3]⟩⟩
def VCPost (b:Nat) (s:ByteArray) (nt:Bool) (kd:Nat) (w:World) (r:Nat ⊕ (List Sv.Term×Nat)) (e:Ending) (w':World):Prop:=
 match r with
 | .inl k=>∃ (q:Int) (ao:Option Addr) (n cap:Nat),e=.returned (.agg #[.bool nt,.int .i64 q,.slice ao n cap])∧VAt b s k true w'∧w.grownBy w' (some b)
 | .inr (ts,j)=>∃ u,e=.returned (.agg #[.bool nt,.int .i64 kd,u])∧VTsAt w.heap.size u ts w'∧VAt b s j false w'∧w.grownBy w' (some b)
def badOf (b:Nat) (w:World):Bool:=match w.cell? ⟨b,2,none⟩ with | some (.bool q)=>q | _=>false
theorem VAt.bad {b:Nat} {s:ByteArray} {i:Nat} {v:Bool} {w:World} (h:VAt b s i v w):badOf b w=v:=by
 unfold badOf; rw [h.c2]
def msOf (b n:Nat) (w:World):Nat:=if badOf b w=true then 0 else n - atOf b w+1
theorem VAt.ms {b:Nat} {s:ByteArray} {i:Nat} {v:Bool} {w:World} (h:VAt b s i v w) (n:Nat):msOf b n w=if v=true then 0 else n - i+1:=by
 unfold msOf; rw [h.bad,h.at]
def VCLoop (b:Nat) (s:ByteArray) (nt:Bool) (kd:Nat) (R C:Nat) (w:World) (r:Nat ⊕ (List Sv.Term×Nat)) (u7:Value) (w':World):Prop:=
 ∃ (p:Nat) (u:Value) (bad:Bool),VAt b s p bad w'∧p≤s.size∧C3 166 C (.bool nt) (.int .i64 kd) u w'∧C3 166 R (.bool false) (.int .i64 0) (.slice none 0 0) w'∧w.grownBy w' (some b)∧
  ((bad=true∧r=.inl p∧∃ ao n cap,u=.slice ao n cap)∨(bad=false∧∃ (n:Nat) (acc:List Sv.Term),s.size < p+n∧acc.length≤p∧0 < p∧u7=.bool (Sv.behind s.data.toList p)∧VTsAt w.heap.size u acc w'∧Sv.tmF n s.data.toList acc p=r))
set_option maxRecDepth 100000 in
set_option maxHeartbeats 1000000 in
theorem vcond_yes (b:Nat) (s:ByteArray) (i:Nat) (nt:Bool) (w:World) (hi:i≤s.size) (hs:s.size≤400) (hb:VAt b s i false w) (h:(Sv.pk s.data.toList i == 40)=true) (h2:Sv.digB (Sv.pk s.data.toList (Sv.sk s.data.toList (i+1)))=true) (r:Nat ⊕ (List Sv.Term×Nat)) (hR:Sv.terms s.data.toList (Sv.sk s.data.toList (i+1)+1)=r) (kd:Nat) (hkd:(Sv.pk s.data.toList (Sv.sk s.data.toList (i+1))).toNat - 48=kd) :
  Calls Tryz.prog 151 #[.pointer (some ⟨b,0,none⟩),.bool nt] w fun e w'=>VCPost b s nt kd w r e w':=by
 obtain ⟨i0,hinf,hz0,hz1,hz2⟩:=info_parts Tryz.infoVTerm
 obtain ⟨k,hk⟩:∃ k,Sv.sk s.data.toList (i+1)=k:=⟨_,rfl⟩
 rw [hk] at h2 hR hkd
 have HK:=hide hk
 clear hk
 have HR:=hide hR
 clear hR
 have hp0:=fun o=>hb.kept (World.grownBy_alloc w o none) (by simp)
 have hN0:C3 166 w.heap.size (.bool false) (.int .i64 0) (.slice none 0 0) (w.alloc (.cells #[.bool false,.int .i64 0,.slice none 0 0] 166)):=heap_alloc_new _ _
 have hlt:=hb.lt
 have hp1:=Sv.byte_pos _ _ 40 (by decide) h
 rw [size_list] at hp1
 have hp2:=Sv.dig_pos _ _ h2
 rw [size_list] at hp2
 have hrng:=u8_sub _ h2
 go_enter Tryz.func151,Tryz.ntmps151
 go_wp2_with fail
 refine (vone_yes b s i 40 _ rfl _ hi hs h (hp0 _)).mono ?_
 rintro e w1 ⟨rfl,hb1,hg1⟩
 go_wp2_with fail
 refine (vblanks_w b s (i+1) w1 hp1 hs hb1).mono ?_
 rintro e w2 ⟨rfl,hb2,hg2⟩
 have hN2:=(hN0.kept hg1 (by simp; omega)).kept hg2 (by simp; omega)
 have hg02:=gr_trans (gr_trans (World.grownBy_alloc w _ (some b)) hg1) hg2
 clear hp0 hb1 hg1 hg2 hN0
 rw [unhide HK] at hb2
 have hgA:=World.grownBy_alloc w2 (.cells #[.bool nt,.int .i64 0,.slice none 0 0] 166) none
 have hCB:C3 166 w2.heap.size (.bool nt) (.int .i64 0) (.slice none 0 0) (w2.alloc (.cells #[.bool nt,.int .i64 0,.slice none 0 0] 166)):=heap_alloc_new _ _
 have hbA:=hb2.kept hgA (by simp)
 have hNA:=hN2.kept hgA (by simp)
 have hC1:w.heap.size < w2.heap.size:=hN2.lt
 have hbC:b < w2.heap.size:=hb2.lt
 have hg03:=gr_trans hg02 (gr_any hgA (some b))
 clear hgA hb2 hN2 hg02
 go_wp2_with fail
 refine (vhere_w b s k _ (by omega) hs hbA).mono ?_
 rintro e w3' ⟨rfl,n,rfl⟩
 generalize w2.alloc (.cells #[.bool nt,.int .i64 0,.slice none 0 0] 166)=w3 at *
 generalize w2.heap.size=C at *
 obtain ⟨d0,d1,d2⟩:=hCB.c
 have z0:=hCB.fz 0
 have z1:=hCB.fz 1
 have z2:=hCB.fz 2
 have hgC:=fun n=>gr_set (w3.drewN n) C 1 (.int .i64 (((Sv.pk s.data.toList k).toNat:Int) - 48))
 have hbB:=fun n=>(hbA.drewN n).kept (hgC n) (by simp; omega)
 have c1:=fun n=>(hbB n).c1
 have f1:=fun n=>(hbB n).fz 1
 obtain ⟨hr1,hr2⟩:=hrng
 go_wp2_with (first | (go_at_call 148; refine (vhere_w b s k _ (by omega) hs (by first | exact hbA | exact hbA.drewN _)).mono ?_; rintro e w3 ⟨rfl,n2,rfl⟩) | (go_at_call 177; refine (vdigit_w _ _).mono ?_; rintro e w3 ⟨rfl,rfl⟩))
 have hkd2:((Sv.pk s.data.toList k).toNat:Int) - 48=(kd:Int):=by omega
 go_loopw [7] (fun x w'=>VCLoop b s nt kd w.heap.size C w r x w') (fun _ w'=>msOf b s.size w')
 case atStart=>
  have hC2:=(hCB.drewN (n+n2)).put1 (.int .i64 (((Sv.pk s.data.toList k).toNat:Int) - 48))
  have hg4:=gr_own (gr_trans hg03 (gr_drewN w3 (n+n2) _)) (hgC (n+n2)) (Nat.le_of_lt hC1)
  have hN4:=(hNA.drewN (n+n2)).kept (hgC (n+n2)) (by simp; omega)
  have kk:=gr_set ((w3.drewN (n+n2)).setCell ⟨C,1,none⟩ (.int .i64 (((Sv.pk s.data.toList k).toNat:Int) - 48))) b 1 (.int .i64 ((k:Int)+1))
  rw [hkd2] at hC2 hg4 hN4 kk ⊢
  have hb5:=(hbB (n+n2)).set1 (k+1)
  rw [hkd2] at hb5
  refine ⟨k+1,.slice none 0 0,false,hb5,hp2,hC2.kept kk (by simp; omega),hN4.kept kk (by simp; omega),gr_trans hg4 kk,.inr ⟨rfl,s.data.toList.length+1,[],by simp; omega,Nat.zero_le _,by omega,?_,World.ownsRow_nil _ _ _ _,unhide HR⟩⟩
  have:Sv.behind s.data.toList (k+1)=true:=by
   unfold Sv.behind
   rw [show k+1 - 1=k from rfl,h2]
   simp
  rw [this]
 case round=>
  clear d0 d1 d2 z0 z1 z2 hgC hbB c1 f1 hbA hNA hg03 hCB hr1 hr2 hkd hkd2
  obtain ⟨p,u,bad,hbk,hp,hC,hRr,hg,hcase⟩:=hrel
  have HM:Hid (msOf b s.size wr=if bad=true then 0 else s.size - p+1):=by
   show msOf b s.size wr=_
   unfold msOf; rw [hbk.bad,hbk.at]
  rcases hcase with ⟨rfl,hr,ao,nn,cap,rfl⟩ | ⟨rfl,m,acc,hm,hacc,hpp,hu7,hts,hnm⟩
  ·subst hr
   have c2:=hbk.c2
   obtain ⟨d0,d1,d2⟩:=hC.c
   obtain ⟨q0,q1,q2⟩:=hRr.c
   have z0:=hRr.fz 0
   have z1:=hRr.fz 1
   have z2:=hRr.fz 2
   go_wp2
   have k3:=gr_set3 wr w.heap.size (.bool nt) (.int .i64 kd) (.slice ao nn cap)
   obtain ⟨q0,q1,q2⟩:=(hRr.set3 (.bool nt) (.int .i64 kd) (.slice ao nn cap)).c
   exact bodyPost_ret (v:=.agg #[.bool nt,.int .i64 kd,.slice ao nn cap]) (by simp [results,Tryz.results151,go_sem,q0,q1,q2]) rfl ⟨_,_,_,_,rfl,hbk.kept k3 (by simp; omega),gr_own hg k3 (Nat.le_refl _)⟩
  ·obtain ⟨m,rfl⟩:∃ m',m=m'+1:=⟨m - 1,by omega⟩
   rw [Sv.tmF_step] at hnm
   have HN:=hide hnm
   clear hnm
   have hle:=Sv.sk_le s.data.toList p (by simpa using hp)
   rw [size_list] at hle
   have c1:=hbk.c1
   have c2:=hbk.c2
   obtain ⟨ao,cap,rfl⟩:=hts.slice
   have hq:∃ q x:Bool,u7=.bool q∧decide (p < Sv.sk s.data.toList p)=x∧Hid ((if x=true then false else q)=Sv.behind s.data.toList (Sv.sk s.data.toList p)):=by
    refine ⟨_,_,hu7,rfl,?_⟩
    by_cases hlt:p < Sv.sk s.data.toList p
    ·rw [if_pos (by simp; omega)]
     exact (Sv.behind_sk _ _ hlt).symm
    ·rw [if_neg (by simp; omega),show Sv.sk s.data.toList p=p from by omega]
     rfl
   obtain ⟨q,x,rfl,hx,HB⟩:=hq
   clear hu7
   go_wp2_with fail
   refine (vblanks_w b s p _ hp hs (by first | exact hbk | exact hbk.drewN _)).mono ?_
   rintro e w1 ⟨rfl,hb1,hg1⟩
   have hC2:=hC.row hg1 hbk.rowOk (by decide)
   have hR1:=hRr.row hg1 hbk.rowOk (by decide)
   have hts1:=hts.row hg1 hbk.rowOk (by decide)
   have hg01:=gr_trans hg hg1
   clear hC hRr hts hbk hg hg1 c1 c2
   have HN2:=unhide HN
   have HB2:=unhide HB
   clear HN HB
   generalize Sv.sk s.data.toList p=k2 at *
   have HN:=hide HN2
   have HB:=hide HB2
   clear HN2 HB2
   obtain ⟨hle1,hle2⟩:=hle
   have c1:=hb1.c1
   have f1:=hb1.fz 1
   have f2:=hb1.fz 2
   have c2:=hb1.c2
   obtain ⟨d0,d1,d2⟩:=hC2.c
   obtain ⟨q0,q1,q2⟩:=hR1.c
   have z0:=hR1.fz 0
   have z1:=hR1.fz 1
   have z2:=hR1.fz 2
   have y2:=hC2.fz 2
   have hsz:=hg01.size
   cases h41:Sv.pk s.data.toList k2 == 41
   ·have HN1:Hid ((match Sv.term s.data.toList k2 with
     | .inl k=>.inl k
     | .inr (t,j)=>Sv.tmF m s.data.toList (acc ++ [t]) j)=r):=by
     have:=unhide HN; rw [h41,if_neg (by simp)] at this; exact this
    clear HN
    have e41:=(u8_41 (Sv.pk s.data.toList k2)).trans h41
    clear h41
    have htsA:=fun n=>hts1.row (gr_drewN w1 n none) (RowOk.none 0 0 _) (by decide)
    cases hl:Sv.letB (Sv.pk s.data.toList k2)
    ·cases h95:Sv.pk s.data.toList k2 == 95
     ·have e95:=(u8_95 (Sv.pk s.data.toList k2)).trans h95
      cases h45:Sv.pk s.data.toList k2 == 45
      ·have e45:=(u8_45 (Sv.pk s.data.toList k2)).trans h45
       cases hd:Sv.digB (Sv.pk s.data.toList k2)
       ·have HN2:Hid (Sum.inl k2=r):=by
         have:=unhide HN1
         rw [show Sv.term s.data.toList k2=.inl k2 from by
          unfold Sv.term
          rw [h95,if_neg (by simp),hl,if_neg (by simp),h45,hd]
          rfl] at this
         exact this
        clear HN1
        cases x
        all_goals
         go_wp2_with (first | (go_at_call 148; refine (vhere_w b s k2 _ hle2 hs hb1).mono ?_; rintro e w3 ⟨rfl,n4,rfl⟩) | (go_at_call 176; refine (vletter_w _ _).mono ?_; rintro e w3 ⟨rfl,rfl⟩) | (go_at_call 177; refine (vdigit_w _ _).mono ?_; rintro e w3 ⟨rfl,rfl⟩))
         have hb5:=(hb1.drewN n4).set2 true
         have kk:=gr_set (w1.drewN n4) b 2 (.bool true)
         have HM6:=hide (hb5.ms s.size)
         go_roundw
         case rel=>exact ⟨k2,_,true,hb5,hle2,(hC2.drewN n4).kept kk (by simp; omega),(hR1.drewN n4).kept kk (by simp; omega),gr_trans (gr_trans hg01 (gr_drewN w1 n4 _)) kk,.inl ⟨rfl,(unhide HN2).symm,_,_,_,rfl⟩⟩
         case measure=>refine Nat.lt_of_le_of_lt (Nat.le_of_eq (unhide HM6)) ?_; rw [HM.out]; simp
       ·cases hbh:Sv.behind s.data.toList k2
        ·have HT:Sv.term s.data.toList k2=Sv.number s.data.toList k2:=by
          unfold Sv.term
          rw [h95,if_neg (by simp),hl,if_neg (by simp),h45,hd,hbh]
          rfl
         have hc:(Sv.pk s.data.toList k2 == 45)=false→Sv.digB (Sv.pk s.data.toList k2)=true:=fun _=>hd
         cases x
         ·obtain rfl:q=false:=by have:=unhide HB; rw [hbh] at this; exact this
          go_wp2_with (first | (go_at_call 148; refine (vhere_w b s k2 _ hle2 hs hb1).mono ?_; rintro e w3 ⟨rfl,n4,rfl⟩) | (go_at_call 176; refine (vletter_w _ _).mono ?_; rintro e w3 ⟨rfl,rfl⟩) | (go_at_call 177; refine (vdigit_w _ _).mono ?_; rintro e w3 ⟨rfl,rfl⟩))
          refine (vnumber_any b s k2 _ hle2 hs hc (hb1.drewN n4)).mono ?_
          rintro e w2 ⟨z,j,bd,rfl,hb2,hg2,HV⟩
          have hsz2:w1.heap.size≤w2.heap.size:=hg2.size
          have hC7:=(hC2.drewN n4).row hg2 (hb1.drewN n4).rowOk (by decide)
          have b2:=hC7.c.2.2
          have by2:=hC7.fz 2
          go_wp2_with (at_builtin; refine wpList_append_own _ rfl _ _ 164 rfl w.heap.size 169 i0 (.agg #[.int .u8 0,.int .i64 0,.bool false]) 3 24 Tryz.underlying164 hinf hz0 hz1 hz2 rfl (by decide) _ acc.length (acc.flatMap vtcells) rfl (((htsA n4).row hg2 (hb1.drewN n4).rowOk (by decide)).alloc _) ⟨w2.heap.size,0,none⟩ 1 1 (vtcells ⟨2,0,z⟩) rfl rfl ?c1 ?c2 ?c3 ?c4 ?c5 ?_)
          case c1=>
           intro jj u hu
           match jj,hu with
           | 0,hu=>simp [vtcells] at hu; subst hu; simp [Addr.add]
           | 1,hu=>simp [vtcells] at hu; subst hu; simp [Addr.add]
           | 2,hu=>simp [vtcells] at hu; subst hu; simp [Addr.add]
           | n+3,hu=>simp [vtcells] at hu
          case c2=>
           intro u hu
           simp [vtcells] at hu
           rcases hu with rfl | rfl | rfl<;>rfl
          case c3=>unfold maxLen; omega
          case c4=>omega
          case c5=>simp; omega
          intro v' w4 hown hgrow _
          have hdr:=hb1.drewN n4
          have hgA:=World.grownBy_alloc w2 (.cells #[.int .u8 0,.int .i64 z,.bool false] 169) none
          have htsB:=(htsA n4).row hg2 hdr.rowOk (by decide)
          have hrow:=RowOk.of (htsB.alloc (.cells #[.int .u8 0,.int .i64 z,.bool false] 169))
          have hb4:=(hb2.kept hgA (by simp)).row hgrow hrow (by decide)
          have hC4:=(((hC2.drewN n4).row hg2 hdr.rowOk (by decide)).kept hgA (by simp)).row hgrow hrow (by decide)
          have hR4:=(((hR1.drewN n4).row hg2 hdr.rowOk (by decide)).kept hgA (by simp)).row hgrow hrow (by decide)
          have hg4:=gr_owns (gr_trans (gr_trans (gr_trans hg01 (gr_drewN w1 n4 _)) hg2) (gr_any hgA (some b))) hgrow hrow
          have hts4:VTsAt w.heap.size v' (acc ++ [⟨2,0,z⟩]) w4:=vterm_own (w:=w4) (.inr trivial) hown
          obtain ⟨ao4,cap4,hv⟩:=hts4.slice
          rw [List.length_append,List.length_singleton] at hv
          subst hv
          obtain ⟨hb5,hC5,hR5,hts5,hg5⟩:=vterm_fin hb4 hC4 hR4 hts4 hg4 hC1 hlt
          clear c1 f1 f2 c2 d0 d1 d2 q0 q1 q2 z0 z1 z2 y2 hown hgrow hgA hrow
          have a2:=hC4.c.2.2
          have ay:=hC4.fz 2
          have HM6:=hide (hb5.ms s.size)
          go_wp2
          go_roundw
          case rel=>
           rcases unhide HV with ⟨rfl,hv1⟩ | ⟨rfl,hv1⟩
           ·have h9:=unhide HN1
            rw [HT,hv1] at h9
            have hok:=Sv.number_ok s.data.toList k2 (by simpa using hle2)
            rw [hv1] at hok
            have hok2:j≤s.size:=by have h8:j≤s.data.toList.length:=hok; rwa [size_list] at h8
            exact ⟨j,_,true,hb5,hok2,hC5,hR5,hg5,.inl ⟨rfl,h9.symm,_,_,_,rfl⟩⟩
           ·have h9:=unhide HN1
            rw [HT,hv1] at h9
            have hok:=Sv.number_ok s.data.toList k2 (by simpa using hle2)
            rw [hv1] at hok
            obtain ⟨hok1,hok2⟩:k2 < j∧j≤s.data.toList.length:=hok
            rw [size_list] at hok2
            have hsh:=(Sv.number_shape _ _ _ _ hv1).2
            exact ⟨j,_,false,hb5,hok2,hC5,hR5,hg5,.inr ⟨rfl,m,acc ++ [⟨2,0,z⟩],by omega,by simp; omega,by omega,by rw [show Sv.behind s.data.toList j=true from by unfold Sv.behind; rw [hsh]; simp; omega],hts5,h9⟩⟩
          case measure=>
           refine Nat.lt_of_le_of_lt (Nat.le_of_eq (unhide HM6)) ?_
           rw [HM.out]
           rcases unhide HV with ⟨rfl,hv1⟩ | ⟨rfl,hv1⟩
           ·simp
           ·have hok:=Sv.number_ok s.data.toList k2 (by simpa using hle2)
            rw [hv1] at hok
            obtain ⟨hok1,hok2⟩:k2 < j∧j≤s.data.toList.length:=hok
            rw [size_list] at hok2
            simp; omega
         ·skip
          go_wp2_with (first | (go_at_call 148; refine (vhere_w b s k2 _ hle2 hs hb1).mono ?_; rintro e w3 ⟨rfl,n4,rfl⟩) | (go_at_call 176; refine (vletter_w _ _).mono ?_; rintro e w3 ⟨rfl,rfl⟩) | (go_at_call 177; refine (vdigit_w _ _).mono ?_; rintro e w3 ⟨rfl,rfl⟩))
          refine (vnumber_any b s k2 _ hle2 hs hc (hb1.drewN n4)).mono ?_
          rintro e w2 ⟨z,j,bd,rfl,hb2,hg2,HV⟩
          have hsz2:w1.heap.size≤w2.heap.size:=hg2.size
          have hC7:=(hC2.drewN n4).row hg2 (hb1.drewN n4).rowOk (by decide)
          have b2:=hC7.c.2.2
          have by2:=hC7.fz 2
          go_wp2_with (at_builtin; refine wpList_append_own _ rfl _ _ 164 rfl w.heap.size 169 i0 (.agg #[.int .u8 0,.int .i64 0,.bool false]) 3 24 Tryz.underlying164 hinf hz0 hz1 hz2 rfl (by decide) _ acc.length (acc.flatMap vtcells) rfl (((htsA n4).row hg2 (hb1.drewN n4).rowOk (by decide)).alloc _) ⟨w2.heap.size,0,none⟩ 1 1 (vtcells ⟨2,0,z⟩) rfl rfl ?c1 ?c2 ?c3 ?c4 ?c5 ?_)
          case c1=>
           intro jj u hu
           match jj,hu with
           | 0,hu=>simp [vtcells] at hu; subst hu; simp [Addr.add]
           | 1,hu=>simp [vtcells] at hu; subst hu; simp [Addr.add]
           | 2,hu=>simp [vtcells] at hu; subst hu; simp [Addr.add]
           | n+3,hu=>simp [vtcells] at hu
          case c2=>
           intro u hu
           simp [vtcells] at hu
           rcases hu with rfl | rfl | rfl<;>rfl
          case c3=>unfold maxLen; omega
          case c4=>omega
          case c5=>simp; omega
          intro v' w4 hown hgrow _
          have hdr:=hb1.drewN n4
          have hgA:=World.grownBy_alloc w2 (.cells #[.int .u8 0,.int .i64 z,.bool false] 169) none
          have htsB:=(htsA n4).row hg2 hdr.rowOk (by decide)
          have hrow:=RowOk.of (htsB.alloc (.cells #[.int .u8 0,.int .i64 z,.bool false] 169))
          have hb4:=(hb2.kept hgA (by simp)).row hgrow hrow (by decide)
          have hC4:=(((hC2.drewN n4).row hg2 hdr.rowOk (by decide)).kept hgA (by simp)).row hgrow hrow (by decide)
          have hR4:=(((hR1.drewN n4).row hg2 hdr.rowOk (by decide)).kept hgA (by simp)).row hgrow hrow (by decide)
          have hg4:=gr_owns (gr_trans (gr_trans (gr_trans hg01 (gr_drewN w1 n4 _)) hg2) (gr_any hgA (some b))) hgrow hrow
          have hts4:VTsAt w.heap.size v' (acc ++ [⟨2,0,z⟩]) w4:=vterm_own (w:=w4) (.inr trivial) hown
          obtain ⟨ao4,cap4,hv⟩:=hts4.slice
          rw [List.length_append,List.length_singleton] at hv
          subst hv
          obtain ⟨hb5,hC5,hR5,hts5,hg5⟩:=vterm_fin hb4 hC4 hR4 hts4 hg4 hC1 hlt
          clear c1 f1 f2 c2 d0 d1 d2 q0 q1 q2 z0 z1 z2 y2 hown hgrow hgA hrow
          have a2:=hC4.c.2.2
          have ay:=hC4.fz 2
          have HM6:=hide (hb5.ms s.size)
          go_wp2
          go_roundw
          case rel=>
           rcases unhide HV with ⟨rfl,hv1⟩ | ⟨rfl,hv1⟩
           ·have h9:=unhide HN1
            rw [HT,hv1] at h9
            have hok:=Sv.number_ok s.data.toList k2 (by simpa using hle2)
            rw [hv1] at hok
            have hok2:j≤s.size:=by have h8:j≤s.data.toList.length:=hok; rwa [size_list] at h8
            exact ⟨j,_,true,hb5,hok2,hC5,hR5,hg5,.inl ⟨rfl,h9.symm,_,_,_,rfl⟩⟩
           ·have h9:=unhide HN1
            rw [HT,hv1] at h9
            have hok:=Sv.number_ok s.data.toList k2 (by simpa using hle2)
            rw [hv1] at hok
            obtain ⟨hok1,hok2⟩:k2 < j∧j≤s.data.toList.length:=hok
            rw [size_list] at hok2
            have hsh:=(Sv.number_shape _ _ _ _ hv1).2
            exact ⟨j,_,false,hb5,hok2,hC5,hR5,hg5,.inr ⟨rfl,m,acc ++ [⟨2,0,z⟩],by omega,by simp; omega,by omega,by rw [show Sv.behind s.data.toList j=true from by unfold Sv.behind; rw [hsh]; simp; omega],hts5,h9⟩⟩
          case measure=>
           refine Nat.lt_of_le_of_lt (Nat.le_of_eq (unhide HM6)) ?_
           rw [HM.out]
           rcases unhide HV with ⟨rfl,hv1⟩ | ⟨rfl,hv1⟩
           ·simp
           ·have hok:=Sv.number_ok s.data.toList k2 (by simpa using hle2)
            rw [hv1] at hok
            obtain ⟨hok1,hok2⟩:k2 < j∧j≤s.data.toList.length:=hok
            rw [size_list] at hok2
            simp; omega
        ·have HN2:Hid (Sum.inl k2=r):=by
          have:=unhide HN1
          rw [show Sv.term s.data.toList k2=.inl k2 from by
           unfold Sv.term
           rw [h95,if_neg (by simp),hl,if_neg (by simp),h45,hd,hbh]
           rfl] at this
          exact this
         clear HN1
         cases x
         ·obtain rfl:q=true:=by have:=unhide HB; rw [hbh] at this; exact this
          go_wp2_with (first | (go_at_call 148; refine (vhere_w b s k2 _ hle2 hs hb1).mono ?_; rintro e w3 ⟨rfl,n4,rfl⟩) | (go_at_call 176; refine (vletter_w _ _).mono ?_; rintro e w3 ⟨rfl,rfl⟩) | (go_at_call 177; refine (vdigit_w _ _).mono ?_; rintro e w3 ⟨rfl,rfl⟩))
          have hb5:=(hb1.drewN n4).set2 true
          have kk:=gr_set (w1.drewN n4) b 2 (.bool true)
          have HM6:=hide (hb5.ms s.size)
          go_roundw
          case rel=>exact ⟨k2,_,true,hb5,hle2,(hC2.drewN n4).kept kk (by simp; omega),(hR1.drewN n4).kept kk (by simp; omega),gr_trans (gr_trans hg01 (gr_drewN w1 n4 _)) kk,.inl ⟨rfl,(unhide HN2).symm,_,_,_,rfl⟩⟩
          case measure=>refine Nat.lt_of_le_of_lt (Nat.le_of_eq (unhide HM6)) ?_; rw [HM.out]; simp
         ·exfalso; have:=unhide HB; rw [hbh] at this; cases this
      ·have HT:Sv.term s.data.toList k2=Sv.number s.data.toList k2:=by
        unfold Sv.term
        rw [h95,if_neg (by simp),hl,if_neg (by simp),h45]
        rfl
       have e45:=(u8_45 (Sv.pk s.data.toList k2)).trans h45
       have hc:(Sv.pk s.data.toList k2 == 45)=false→Sv.digB (Sv.pk s.data.toList k2)=true:=fun h=>by rw [h45] at h; cases h
       cases x
       all_goals
        skip
        go_wp2_with (first | (go_at_call 148; refine (vhere_w b s k2 _ hle2 hs hb1).mono ?_; rintro e w3 ⟨rfl,n4,rfl⟩) | (go_at_call 176; refine (vletter_w _ _).mono ?_; rintro e w3 ⟨rfl,rfl⟩) | (go_at_call 177; refine (vdigit_w _ _).mono ?_; rintro e w3 ⟨rfl,rfl⟩))
        refine (vnumber_any b s k2 _ hle2 hs hc (hb1.drewN n4)).mono ?_
        rintro e w2 ⟨z,j,bd,rfl,hb2,hg2,HV⟩
        have hsz2:w1.heap.size≤w2.heap.size:=hg2.size
        have hC7:=(hC2.drewN n4).row hg2 (hb1.drewN n4).rowOk (by decide)
        have b2:=hC7.c.2.2
        have by2:=hC7.fz 2
        go_wp2_with (at_builtin; refine wpList_append_own _ rfl _ _ 164 rfl w.heap.size 169 i0 (.agg #[.int .u8 0,.int .i64 0,.bool false]) 3 24 Tryz.underlying164 hinf hz0 hz1 hz2 rfl (by decide) _ acc.length (acc.flatMap vtcells) rfl (((htsA n4).row hg2 (hb1.drewN n4).rowOk (by decide)).alloc _) ⟨w2.heap.size,0,none⟩ 1 1 (vtcells ⟨2,0,z⟩) rfl rfl ?c1 ?c2 ?c3 ?c4 ?c5 ?_)
        case c1=>
         intro jj u hu
         match jj,hu with
         | 0,hu=>simp [vtcells] at hu; subst hu; simp [Addr.add]
         | 1,hu=>simp [vtcells] at hu; subst hu; simp [Addr.add]
         | 2,hu=>simp [vtcells] at hu; subst hu; simp [Addr.add]
         | n+3,hu=>simp [vtcells] at hu
        case c2=>
         intro u hu
         simp [vtcells] at hu
         rcases hu with rfl | rfl | rfl<;>rfl
        case c3=>unfold maxLen; omega
        case c4=>omega
        case c5=>simp; omega
        intro v' w4 hown hgrow _
        have hdr:=hb1.drewN n4
        have hgA:=World.grownBy_alloc w2 (.cells #[.int .u8 0,.int .i64 z,.bool false] 169) none
        have htsB:=(htsA n4).row hg2 hdr.rowOk (by decide)
        have hrow:=RowOk.of (htsB.alloc (.cells #[.int .u8 0,.int .i64 z,.bool false] 169))
        have hb4:=(hb2.kept hgA (by simp)).row hgrow hrow (by decide)
        have hC4:=(((hC2.drewN n4).row hg2 hdr.rowOk (by decide)).kept hgA (by simp)).row hgrow hrow (by decide)
        have hR4:=(((hR1.drewN n4).row hg2 hdr.rowOk (by decide)).kept hgA (by simp)).row hgrow hrow (by decide)
        have hg4:=gr_owns (gr_trans (gr_trans (gr_trans hg01 (gr_drewN w1 n4 _)) hg2) (gr_any hgA (some b))) hgrow hrow
        have hts4:VTsAt w.heap.size v' (acc ++ [⟨2,0,z⟩]) w4:=vterm_own (w:=w4) (.inr trivial) hown
        obtain ⟨ao4,cap4,hv⟩:=hts4.slice
        rw [List.length_append,List.length_singleton] at hv
        subst hv
        obtain ⟨hb5,hC5,hR5,hts5,hg5⟩:=vterm_fin hb4 hC4 hR4 hts4 hg4 hC1 hlt
        clear c1 f1 f2 c2 d0 d1 d2 q0 q1 q2 z0 z1 z2 y2 hown hgrow hgA hrow
        have a2:=hC4.c.2.2
        have ay:=hC4.fz 2
        have HM6:=hide (hb5.ms s.size)
        go_wp2
        go_roundw
        case rel=>
         rcases unhide HV with ⟨rfl,hv1⟩ | ⟨rfl,hv1⟩
         ·have h9:=unhide HN1
          rw [HT,hv1] at h9
          have hok:=Sv.number_ok s.data.toList k2 (by simpa using hle2)
          rw [hv1] at hok
          have hok2:j≤s.size:=by have h8:j≤s.data.toList.length:=hok; rwa [size_list] at h8
          exact ⟨j,_,true,hb5,hok2,hC5,hR5,hg5,.inl ⟨rfl,h9.symm,_,_,_,rfl⟩⟩
         ·have h9:=unhide HN1
          rw [HT,hv1] at h9
          have hok:=Sv.number_ok s.data.toList k2 (by simpa using hle2)
          rw [hv1] at hok
          obtain ⟨hok1,hok2⟩:k2 < j∧j≤s.data.toList.length:=hok
          rw [size_list] at hok2
          have hsh:=(Sv.number_shape _ _ _ _ hv1).2
          exact ⟨j,_,false,hb5,hok2,hC5,hR5,hg5,.inr ⟨rfl,m,acc ++ [⟨2,0,z⟩],by omega,by simp; omega,by omega,by rw [show Sv.behind s.data.toList j=true from by unfold Sv.behind; rw [hsh]; simp; omega],hts5,h9⟩⟩
        case measure=>
         refine Nat.lt_of_le_of_lt (Nat.le_of_eq (unhide HM6)) ?_
         rw [HM.out]
         rcases unhide HV with ⟨rfl,hv1⟩ | ⟨rfl,hv1⟩
         ·simp
         ·have hok:=Sv.number_ok s.data.toList k2 (by simpa using hle2)
          rw [hv1] at hok
          obtain ⟨hok1,hok2⟩:k2 < j∧j≤s.data.toList.length:=hok
          rw [size_list] at hok2
          simp; omega
     ·have HN2:Hid (Sv.tmF m s.data.toList (acc ++ [⟨0,0,0⟩]) (k2+1)=r):=by
       have:=unhide HN1
       unfold Sv.term at this
       rw [h95,if_pos rfl] at this
       exact this
      clear HN1
      have e95:=(u8_95 (Sv.pk s.data.toList k2)).trans h95
      have hdg:Sv.digB (Sv.pk s.data.toList k2)=false:=by
       rw [show Sv.pk s.data.toList k2=95 from by simpa using h95]; rfl
      have hk2:=Sv.byte_pos _ _ 95 (by decide) h95
      rw [size_list] at hk2
      cases x
      all_goals
       go_wp2_with (first | (go_at_call 148; refine (vhere_w b s k2 _ hle2 hs hb1).mono ?_; rintro e w3 ⟨rfl,n4,rfl⟩) | (go_at_call 176; refine (vletter_w _ _).mono ?_; rintro e w3 ⟨rfl,rfl⟩) | (go_at_call 177; refine (vdigit_w _ _).mono ?_; rintro e w3 ⟨rfl,rfl⟩) | (at_builtin; refine wpList_append_own _ rfl _ _ 164 rfl w.heap.size 169 i0 (.agg #[.int .u8 0,.int .i64 0,.bool false]) 3 24 Tryz.underlying164 hinf hz0 hz1 hz2 rfl (by decide) _ acc.length (acc.flatMap vtcells) rfl ((htsA n4).alloc _) ⟨w1.heap.size,0,none⟩ 1 1 (vtcells ⟨0,0,0⟩) rfl rfl ?c1 ?c2 ?c3 ?c4 ?c5 ?_))
       case c1=>
        intro jj u hu
        match jj,hu with
        | 0,hu=>simp [vtcells] at hu; subst hu; exact (cell_newD w1 n4 _ _ 0).trans rfl
        | 1,hu=>simp [vtcells] at hu; subst hu; exact (cell_newD w1 n4 _ _ 1).trans rfl
        | 2,hu=>simp [vtcells] at hu; subst hu; exact (cell_newD w1 n4 _ _ 2).trans rfl
        | n+3,hu=>simp [vtcells] at hu
       case c2=>
        intro u hu
        simp [vtcells] at hu
        rcases hu with rfl | rfl | rfl<;>rfl
       case c3=>unfold maxLen; omega
       case c4=>omega
       case c5=>simp; omega
       intro v' w4 hown hgrow _
       have hgA:=gr_trans (gr_drewN w1 n4 none) (World.grownBy_alloc (w1.drewN n4) (.cells #[.int .u8 0,.int .i64 0,.bool true] 169) none)
       have hrow:=RowOk.of ((htsA n4).alloc (.cells #[.int .u8 0,.int .i64 0,.bool true] 169))
       have hb4:=(hb1.kept hgA (by simp)).row hgrow hrow (by decide)
       have hC4:=(hC2.kept hgA (by simp)).row hgrow hrow (by decide)
       have hR4:=(hR1.kept hgA (by simp)).row hgrow hrow (by decide)
       have hg4:=gr_owns (gr_trans hg01 (gr_any hgA (some b))) hgrow hrow
       have hts4:VTsAt w.heap.size v' (acc ++ [⟨0,0,0⟩]) w4:=vterm_own (w:=w4) (.inr trivial) hown
       obtain ⟨ao4,cap4,hv⟩:=hts4.slice
       rw [List.length_append,List.length_singleton] at hv
       subst hv
       obtain ⟨hb5,hC5,hR5,hts5,hg5⟩:=vterm_fin hb4 hC4 hR4 hts4 hg4 hC1 hlt
       clear c1 f1 f2 c2 d0 d1 d2 q0 q1 q2 z0 z1 z2 y2 hown hgrow hgA hrow
       have a2:=hC4.c.2.2
       have ay:=hC4.fz 2
       have c1:=hb5.c1
       have f1:=hb5.fz 1
       obtain ⟨hb6,hC6,hR6,hts6,hg6⟩:=vterm_fin2 (k2+1) hb5 hC5 hR5 hts5 hg5 hC1 hlt
       have HM6:=hide (hb6.ms s.size)
       go_wp2
       go_roundw
       case rel=>exact ⟨k2+1,_,false,hb6,by omega,hC6,hR6,hg6,.inr ⟨rfl,m,acc ++ [⟨0,0,0⟩],by omega,by simp; omega,by omega,by rw [Sv.behind_next _ _ _ hdg],hts6,unhide HN2⟩⟩
       case measure=>refine Nat.lt_of_le_of_lt (Nat.le_of_eq (unhide HM6)) ?_; rw [HM.out]; simp; omega
    ·have HN2:Hid (Sv.tmF m s.data.toList (acc ++ [⟨1,Sv.pk s.data.toList k2,0⟩]) (k2+1)=r):=by
      have:=unhide HN1
      unfold Sv.term at this
      rw [Sv.let_ne _ 95 hl (by decide),if_neg (by simp),hl,if_pos rfl] at this
      exact this
     clear HN1
     have hdg:=Sv.dig_let _ hl
     have hk2:=Sv.let_pos _ _ hl
     rw [size_list] at hk2
     cases x
     all_goals
      go_wp2_with (first | (go_at_call 148; refine (vhere_w b s k2 _ hle2 hs hb1).mono ?_; rintro e w3 ⟨rfl,n4,rfl⟩) | (go_at_call 176; refine (vletter_w _ _).mono ?_; rintro e w3 ⟨rfl,rfl⟩) | (go_at_call 177; refine (vdigit_w _ _).mono ?_; rintro e w3 ⟨rfl,rfl⟩) | (at_builtin; refine wpList_append_own _ rfl _ _ 164 rfl w.heap.size 169 i0 (.agg #[.int .u8 0,.int .i64 0,.bool false]) 3 24 Tryz.underlying164 hinf hz0 hz1 hz2 rfl (by decide) _ acc.length (acc.flatMap vtcells) rfl ((htsA n4).alloc _) ⟨w1.heap.size,0,none⟩ 1 1 (vtcells ⟨1,Sv.pk s.data.toList k2,0⟩) rfl rfl ?c1 ?c2 ?c3 ?c4 ?c5 ?_))
      case c1=>
       intro jj u hu
       match jj,hu with
       | 0,hu=>simp [vtcells] at hu; subst hu; exact (cell_newD w1 n4 _ _ 0).trans rfl
       | 1,hu=>simp [vtcells] at hu; subst hu; exact (cell_newD w1 n4 _ _ 1).trans rfl
       | 2,hu=>simp [vtcells] at hu; subst hu; exact (cell_newD w1 n4 _ _ 2).trans rfl
       | n+3,hu=>simp [vtcells] at hu
      case c2=>
       intro u hu
       simp [vtcells] at hu
       rcases hu with rfl | rfl | rfl<;>rfl
      case c3=>unfold maxLen; omega
      case c4=>omega
      case c5=>simp; omega
      intro v' w4 hown hgrow _
      have hgA:=gr_trans (gr_drewN w1 n4 none) (World.grownBy_alloc (w1.drewN n4) (.cells #[.int .u8 (Sv.pk s.data.toList k2).toNat,.int .i64 0,.bool false] 169) none)
      have hrow:=RowOk.of ((htsA n4).alloc (.cells #[.int .u8 (Sv.pk s.data.toList k2).toNat,.int .i64 0,.bool false] 169))
      have hb4:=(hb1.kept hgA (by simp)).row hgrow hrow (by decide)
      have hC4:=(hC2.kept hgA (by simp)).row hgrow hrow (by decide)
      have hR4:=(hR1.kept hgA (by simp)).row hgrow hrow (by decide)
      have hg4:=gr_owns (gr_trans hg01 (gr_any hgA (some b))) hgrow hrow
      have hts4:VTsAt w.heap.size v' (acc ++ [⟨1,Sv.pk s.data.toList k2,0⟩]) w4:=vterm_own (w:=w4) (.inr trivial) hown
      obtain ⟨ao4,cap4,hv⟩:=hts4.slice
      rw [List.length_append,List.length_singleton] at hv
      subst hv
      obtain ⟨hb5,hC5,hR5,hts5,hg5⟩:=vterm_fin hb4 hC4 hR4 hts4 hg4 hC1 hlt
      clear c1 f1 f2 c2 d0 d1 d2 q0 q1 q2 z0 z1 z2 y2 hown hgrow hgA hrow
      have a2:=hC4.c.2.2
      have ay:=hC4.fz 2
      have c1:=hb5.c1
      have f1:=hb5.fz 1
      obtain ⟨hb6,hC6,hR6,hts6,hg6⟩:=vterm_fin2 (k2+1) hb5 hC5 hR5 hts5 hg5 hC1 hlt
      have HM6:=hide (hb6.ms s.size)
      go_wp2
      go_roundw
      case rel=>exact ⟨k2+1,_,false,hb6,by omega,hC6,hR6,hg6,.inr ⟨rfl,m,acc ++ [⟨1,Sv.pk s.data.toList k2,0⟩],by omega,by simp; omega,by omega,by rw [Sv.behind_next _ _ _ hdg],hts6,unhide HN2⟩⟩
      case measure=>refine Nat.lt_of_le_of_lt (Nat.le_of_eq (unhide HM6)) ?_; rw [HM.out]; simp; omega
   ·have hr:Sum.inr (acc,k2+1)=r:=by have:=unhide HN; rwa [h41,if_pos rfl] at this
    subst hr
    have hk2:=Sv.byte_pos _ _ 41 (by decide) h41
    rw [size_list] at hk2
    have e41:=(u8_41 (Sv.pk s.data.toList k2)).trans h41
    have hb2:=fun n=>(hb1.drewN n).set1 (k2+1)
    have kk:=fun n=>gr_set (w1.drewN n) b 1 (.int .i64 ((k2:Int)+1))
    have hC3:=fun n=>(hC2.drewN n).kept (kk n) (by simp; omega)
    have hR3:=fun n=>(hR1.drewN n).kept (kk n) (by simp; omega)
    have e0:=fun n=>(hC3 n).c.1
    have e1:=fun n=>(hC3 n).c.2.1
    have e2:=fun n=>(hC3 n).c.2.2
    have g0:=fun n=>(hR3 n).c.1
    have g1:=fun n=>(hR3 n).c.2.1
    have g2:=fun n=>(hR3 n).c.2.2
    have y0:=fun n=>(hR3 n).fz 0
    have y1:=fun n=>(hR3 n).fz 1
    have y2:=fun n=>(hR3 n).fz 2
    cases x
    all_goals
     go_wp2_with (first | (go_at_call 148; refine (vhere_w b s k2 _ hle2 hs hb1).mono ?_; rintro e w3 ⟨rfl,n4,rfl⟩) | (go_at_call 176; refine (vletter_w _ _).mono ?_; rintro e w3 ⟨rfl,rfl⟩) | (go_at_call 177; refine (vdigit_w _ _).mono ?_; rintro e w3 ⟨rfl,rfl⟩))
     obtain ⟨g0,g1,g2⟩:=((hR3 n4).set3 (.bool nt) (.int .i64 kd) (.slice ao acc.length cap)).c
     have k3:=gr_set3 ((w1.drewN n4).setCell ⟨b,1,none⟩ (.int .i64 ((k2:Int)+1))) w.heap.size (.bool nt) (.int .i64 kd) (.slice ao acc.length cap)
     exact bodyPost_ret (v:=.agg #[.bool nt,.int .i64 kd,.slice ao acc.length cap]) (by simp [results,Tryz.results151,go_sem,g0,g1,g2]) rfl ⟨_,rfl,((hts1.row (gr_drewN w1 n4 none) (RowOk.none 0 0 _) (by decide)).row (kk n4) (hb1.drewN n4).rowOk (by decide)).row k3 (RowOk.one (hR3 n4) (Nat.le_refl _)) (by decide),(hb2 n4).kept k3 (by simp; omega),gr_own (gr_trans (gr_trans hg01 (gr_drewN w1 n4 _)) (kk n4)) k3 (Nat.le_refl _)⟩
end Go.Proofs.YtolhbeekfjnfmaaGreatDoor
namespace Go.Proofs.YtolhbeekfjnfmaaGreatDoor
open Go.RowKit
set_option maxRecDepth 100000 in
set_option maxHeartbeats 1000000 in
theorem vcond_no1 (b:Nat) (s:ByteArray) (i:Nat) (nt:Bool) (w:World) (hi:i≤s.size) (hs:s.size≤400) (hb:VAt b s i false w) (h:(Sv.pk s.data.toList i == 40)=false) :
  Calls Tryz.prog 151 #[.pointer (some ⟨b,0,none⟩),.bool nt] w fun e w'=>e=.returned (.agg #[.bool nt,.int .i64 0,.slice none 0 0])∧VAt b s i true w'∧w.grownBy w' (some b):=by
 have hp0:=fun o=>hb.kept (World.grownBy_alloc w o none) (by simp)
 have hN0:C3 166 w.heap.size (.bool false) (.int .i64 0) (.slice none 0 0) (w.alloc (.cells #[.bool false,.int .i64 0,.slice none 0 0] 166)):=heap_alloc_new _ _
 have hlt:=hb.lt
 go_enter Tryz.func151,Tryz.ntmps151
 go_wp2_with fail
 refine (vone_no b s i 40 _ rfl _ hi hs h (hp0 _)).mono ?_
 rintro e w1 ⟨rfl,hb1,hg1⟩
 go_wp2_with fail
 refine (vblanks_bad b s i w1 hb1).mono ?_
 rintro e w2 ⟨rfl,hb2,hg2⟩
 have hN2:=(hN0.kept hg1 (by simp; omega)).kept hg2 (by simp; omega)
 have hg02:=gr_trans (gr_trans (World.grownBy_alloc w _ (some b)) hg1) hg2
 clear hp0 hb1 hg1 hg2 hN0
 have hgA:=World.grownBy_alloc w2 (.cells #[.bool nt,.int .i64 0,.slice none 0 0] 166) none
 have hCB:C3 166 w2.heap.size (.bool nt) (.int .i64 0) (.slice none 0 0) (w2.alloc (.cells #[.bool nt,.int .i64 0,.slice none 0 0] 166)):=heap_alloc_new _ _
 have hbA:=hb2.kept hgA (by simp)
 have hNA:=hN2.kept hgA (by simp)
 have hC1:w.heap.size < w2.heap.size:=hN2.lt
 have hbC:b < w2.heap.size:=hb2.lt
 have hg03:=gr_trans hg02 (gr_any hgA (some b))
 clear hgA hb2 hN2 hg02
 go_wp2_with fail
 refine (vhere_bad b s i _ hbA).mono ?_
 rintro e w3' ⟨rfl,n,rfl⟩
 generalize w2.alloc (.cells #[.bool nt,.int .i64 0,.slice none 0 0] 166)=w3 at *
 generalize w2.heap.size=C at *
 have hb4:=(hbA.drewN n).set2 true
 have kk:=gr_set (w3.drewN n) b 2 (.bool true)
 have hC4:=(hCB.drewN n).kept kk (by simp; omega)
 have hN4:=(hNA.drewN n).kept kk (by simp; omega)
 obtain ⟨d0,d1,d2⟩:=hC4.c
 obtain ⟨q0,q1,q2⟩:=hN4.c
 have z0:=hN4.fz 0
 have z1:=hN4.fz 1
 have z2:=hN4.fz 2
 have c2:=hbA.c2
 have f2:=hbA.fz 2
 go_wp2_with (go_at_call 177; refine (vdigit_w 0 _).mono ?_; rintro e w3 ⟨rfl,rfl⟩)
 have k3:=gr_set3 ((w3.drewN n).setCell ⟨b,2,none⟩ (.bool true)) w.heap.size (.bool nt) (.int .i64 0) (.slice none 0 0)
 obtain ⟨g0,g1,g2⟩:=(hN4.set3 (.bool nt) (.int .i64 0) (.slice none 0 0)).c
 exact bodyPost_ret (v:=.agg #[.bool nt,.int .i64 0,.slice none 0 0]) (by simp [results,Tryz.results151,go_sem,g0,g1,g2]) rfl ⟨rfl,hb4.kept k3 (by simp; omega),gr_own (gr_trans (gr_trans hg03 (gr_drewN w3 n _)) kk) k3 (Nat.le_refl _)⟩
set_option maxRecDepth 100000 in
set_option maxHeartbeats 1000000 in
theorem vcond_no2 (b:Nat) (s:ByteArray) (i:Nat) (nt:Bool) (w:World) (hi:i≤s.size) (hs:s.size≤400) (hb:VAt b s i false w) (h:(Sv.pk s.data.toList i == 40)=true) (h2:Sv.digB (Sv.pk s.data.toList (Sv.sk s.data.toList (i+1)))=false) :
  Calls Tryz.prog 151 #[.pointer (some ⟨b,0,none⟩),.bool nt] w fun e w'=>e=.returned (.agg #[.bool nt,.int .i64 0,.slice none 0 0])∧VAt b s (Sv.sk s.data.toList (i+1)) true w'∧w.grownBy w' (some b):=by
 have hp0:=fun o=>hb.kept (World.grownBy_alloc w o none) (by simp)
 have hN0:C3 166 w.heap.size (.bool false) (.int .i64 0) (.slice none 0 0) (w.alloc (.cells #[.bool false,.int .i64 0,.slice none 0 0] 166)):=heap_alloc_new _ _
 have hlt:=hb.lt
 have hp1:=Sv.byte_pos _ _ 40 (by decide) h
 rw [size_list] at hp1
 have hle:=(Sv.sk_le s.data.toList (i+1) (by rw [size_list]; exact hp1)).2
 rw [size_list] at hle
 obtain ⟨k,hk⟩:∃ k,Sv.sk s.data.toList (i+1)=k:=⟨_,rfl⟩
 rw [hk] at h2 hle ⊢
 have HK:=hide hk
 clear hk
 go_enter Tryz.func151,Tryz.ntmps151
 go_wp2_with fail
 refine (vone_yes b s i 40 _ rfl _ hi hs h (hp0 _)).mono ?_
 rintro e w1 ⟨rfl,hb1,hg1⟩
 go_wp2_with fail
 refine (vblanks_w b s (i+1) w1 hp1 hs hb1).mono ?_
 rintro e w2 ⟨rfl,hb2,hg2⟩
 have hN2:=(hN0.kept hg1 (by simp; omega)).kept hg2 (by simp; omega)
 have hg02:=gr_trans (gr_trans (World.grownBy_alloc w _ (some b)) hg1) hg2
 clear hp0 hb1 hg1 hg2 hN0
 rw [unhide HK] at hb2
 have hgA:=World.grownBy_alloc w2 (.cells #[.bool nt,.int .i64 0,.slice none 0 0] 166) none
 have hCB:C3 166 w2.heap.size (.bool nt) (.int .i64 0) (.slice none 0 0) (w2.alloc (.cells #[.bool nt,.int .i64 0,.slice none 0 0] 166)):=heap_alloc_new _ _
 have hbA:=hb2.kept hgA (by simp)
 have hNA:=hN2.kept hgA (by simp)
 have hC1:w.heap.size < w2.heap.size:=hN2.lt
 have hbC:b < w2.heap.size:=hb2.lt
 have hg03:=gr_trans hg02 (gr_any hgA (some b))
 clear hgA hb2 hN2 hg02
 go_wp2_with fail
 refine (vhere_w b s k _ hle hs hbA).mono ?_
 rintro e w3' ⟨rfl,n,rfl⟩
 generalize w2.alloc (.cells #[.bool nt,.int .i64 0,.slice none 0 0] 166)=w3 at *
 generalize w2.heap.size=C at *
 have hb4:=(hbA.drewN n).set2 true
 have kk:=gr_set (w3.drewN n) b 2 (.bool true)
 have hC4:=(hCB.drewN n).kept kk (by simp; omega)
 have hN4:=(hNA.drewN n).kept kk (by simp; omega)
 obtain ⟨d0,d1,d2⟩:=hC4.c
 obtain ⟨q0,q1,q2⟩:=hN4.c
 have z0:=hN4.fz 0
 have z1:=hN4.fz 1
 have z2:=hN4.fz 2
 have c2:=hbA.c2
 have f2:=hbA.fz 2
 go_wp2_with (go_at_call 177; refine (vdigit_w _ _).mono ?_; rintro e w3 ⟨rfl,rfl⟩)
 have k3:=gr_set3 ((w3.drewN n).setCell ⟨b,2,none⟩ (.bool true)) w.heap.size (.bool nt) (.int .i64 0) (.slice none 0 0)
 obtain ⟨g0,g1,g2⟩:=(hN4.set3 (.bool nt) (.int .i64 0) (.slice none 0 0)).c
 exact bodyPost_ret (v:=.agg #[.bool nt,.int .i64 0,.slice none 0 0]) (by simp [results,Tryz.results151,go_sem,g0,g1,g2]) rfl ⟨rfl,hb4.kept k3 (by simp; omega),gr_own (gr_trans (gr_trans hg03 (gr_drewN w3 n _)) kk) k3 (Nat.le_refl _)⟩
theorem vcond_any (b:Nat) (s:ByteArray) (i:Nat) (nt:Bool) (w:World) (hi:i≤s.size) (hs:s.size≤400) (hsk:Sv.sk s.data.toList i=i) (hb:VAt b s i false w) :
  Calls Tryz.prog 151 #[.pointer (some ⟨b,0,none⟩),.bool nt] w fun e w'=>∃ (kd:Int) (ao:Option Addr) (n cap j:Nat) (bd:Bool),e=.returned (.agg #[.bool nt,.int .i64 kd,.slice ao n cap])∧VAt b s j bd w'∧w.grownBy w' (some b)∧
   Hid ((bd=true∧Sv.cond s.data.toList i=.inl j)∨(bd=false∧∃ (c:Sv.Cond),Sv.cond s.data.toList i=.inr (c,j)∧(c.kind:Int)=kd∧VTsAt w.heap.size (.slice ao n cap) c.terms w')):=by
 cases h:Sv.pk s.data.toList i == 40
 ·refine (vcond_no1 b s i nt w hi hs hb h).mono ?_
  rintro e w' ⟨rfl,h1,h2⟩
  refine ⟨0,none,0,0,i,true,rfl,h1,h2,.inl ⟨rfl,?_⟩⟩
  unfold Sv.cond; rw [hsk,h]; rfl
 ·cases hd:Sv.digB (Sv.pk s.data.toList (Sv.sk s.data.toList (i+1)))
  ·refine (vcond_no2 b s i nt w hi hs hb h hd).mono ?_
   rintro e w' ⟨rfl,h1,h2⟩
   refine ⟨0,none,0,0,_,true,rfl,h1,h2,.inl ⟨rfl,?_⟩⟩
   unfold Sv.cond; simp only; rw [hsk,h,if_pos rfl,hd]; rfl
  ·refine (vcond_yes b s i nt w hi hs hb h hd _ rfl _ rfl).mono ?_
   intro e w' hp
   have e1:Sv.cond s.data.toList i=match Sv.terms s.data.toList (Sv.sk s.data.toList (i+1)+1) with
     | .inl m=>.inl m
     | .inr (ts,m)=>.inr (⟨false,(Sv.pk s.data.toList (Sv.sk s.data.toList (i+1))).toNat - 48,ts⟩,m):=by
    unfold Sv.cond; simp only; rw [hsk,h,if_pos rfl,hd,if_pos rfl]
    cases Sv.terms s.data.toList (Sv.sk s.data.toList (i+1)+1)<;>rfl
   cases hr:Sv.terms s.data.toList (Sv.sk s.data.toList (i+1)+1) with
   | inl k=>
    rw [hr] at hp e1
    obtain ⟨q,ao,n,cap,rfl,h1,h2⟩:=hp
    exact ⟨q,ao,n,cap,k,true,rfl,h1,h2,.inl ⟨rfl,e1⟩⟩
   | inr q=>
    obtain ⟨ts,j⟩:=q
    rw [hr] at hp e1
    obtain ⟨u,rfl,h1,h2,h3⟩:=hp
    obtain ⟨ao,cap,rfl⟩:=h1.slice
    exact ⟨_,ao,_,cap,j,false,rfl,h2,h3,.inr ⟨rfl,_,e1,rfl,h1⟩⟩
theorem Sv.cond_sk (l:List UInt8) (i:Nat):Sv.cond l (Sv.sk l i)=Sv.cond l i:=by
 unfold Sv.cond; rw [Sv.sk_sk]
def VCsCells (B:Nat) (w:World):List Sv.Cond→List Value→Prop
 | [],xs=>xs=[]
 | c :: cs,xs=>∃ u ys,xs=.bool c.neg :: .int .i64 c.kind :: u :: ys∧VTsAt B u c.terms w∧VCsCells B w cs ys
theorem VCsCells.row {B:Nat} {w w':World} {base':Nat} {e':TypeId} {row:Option Nat} (hg:w.grownBy w' row) (hr:RowOk base' e' row w) (hne:e'≠169):∀ (cs:List Sv.Cond) (xs:List Value),VCsCells B w cs xs→VCsCells B w' cs xs
 | [],_,h=>h
 | _ :: cs,_,⟨u,ys,h1,h2,h3⟩=>⟨u,ys,h1,h2.row hg hr hne,VCsCells.row hg hr hne cs ys h3⟩
theorem VCsCells.snoc {B:Nat} {w:World} (c:Sv.Cond) (u:Value) (hu:VTsAt B u c.terms w):∀ (cs:List Sv.Cond) (xs:List Value),VCsCells B w cs xs→VCsCells B w (cs ++ [c]) (xs ++ [.bool c.neg,.int .i64 c.kind,u])
 | [],xs,h=>⟨u,[],by rw [show xs=[] from h]; rfl,hu,rfl⟩
 | _ :: cs,_,⟨v,ys,h1,h2,h3⟩=>⟨v,ys ++ [.bool c.neg,.int .i64 c.kind,u],by rw [h1]; rfl,h2,VCsCells.snoc c u hu cs ys h3⟩
def VCsAt (base:Nat) (v:Value) (cs:List Sv.Cond) (w:World):Prop:=∃ xs,w.ownsRow base 166 3 v cs.length xs∧VCsCells base w cs xs
theorem VCsAt.slice {base:Nat} {u:Value} {cs:List Sv.Cond} {w:World} (h:VCsAt base u cs w):∃ ao cap,u=.slice ao cs.length cap:=by
 obtain ⟨xs,h,_⟩:=h
 rcases h.2 with ⟨h1,h2⟩ | ⟨g,cap,cur,h1,_⟩
 ·exact ⟨none,0,by rw [h2]; exact h1⟩
 ·exact ⟨_,_,h1⟩
theorem VCsAt.row {w w':World} {base base':Nat} {e':TypeId} {v:Value} {cs:List Sv.Cond} {row:Option Nat} (h:VCsAt base v cs w) (hg:w.grownBy w' row) (hr:RowOk base' e' row w) (hne:e'≠169) (hne2:e'≠166):VCsAt base v cs w':=by
 obtain ⟨xs,h1,h2⟩:=h
 exact ⟨xs,own_row h1 hg hr hne2,VCsCells.row hg hr hne cs xs h2⟩
theorem Tryz.infoVCond:(Tryz.prog.info? 166).map (fun i=>(i.zero,i.size,i.bytes))=some (some (.agg #[.bool false,.int .i64 0,.slice none 0 0]),3,40):=by kernel_rfl
def VRPost (b:Nat) (s:ByteArray) (w:World) (r:Nat ⊕ (Sv.Rule×Nat)) (e:Ending) (w':World):Prop:=
 match r with
 | .inl k=>∃ (nm:ByteArray) (ao:Option Addr) (n cap:Nat),e=.returned (.agg #[.string nm,.slice ao n cap])∧VAt b s k true w'∧w.grownBy w' (some b)
 | .inr (q,j)=>∃ u,e=.returned (.agg #[.string ⟨q.name.toArray⟩,u])∧VCsAt w.heap.size u q.conds w'∧VAt b s j false w'∧w.grownBy w' (some b)
end Go.Proofs.YtolhbeekfjnfmaaGreatDoor
namespace Go.Proofs.YtolhbeekfjnfmaaGreatDoor
open Go.RowKit
theorem vblanks_any (b:Nat) (s:ByteArray) (i:Nat) (bd:Bool) (w:World) (hi:i≤s.size) (hs:s.size≤400) (hb:VAt b s i bd w) :
  Calls Tryz.prog 117 #[.pointer (some ⟨b,0,none⟩)] w fun e w'=>e=.returned (.tuple #[])∧VAt b s (if bd=true then i else Sv.sk s.data.toList i) bd w'∧w.grownBy w' (some b):=by
 cases bd
 ·exact vblanks_w b s i w hi hs hb
 ·exact vblanks_bad b s i w hb
theorem vhere_any (b:Nat) (s:ByteArray) (i:Nat) (bd:Bool) (w:World) (hi:i≤s.size) (hs:s.size≤400) (hb:VAt b s i bd w) :
  Calls Tryz.prog 148 #[.pointer (some ⟨b,0,none⟩)] w fun e w'=>e=.returned (.int .u8 (if bd=true then (0:UInt8) else Sv.pk s.data.toList i).toNat)∧∃ n,w'=w.drewN n:=by
 cases bd
 ·exact vhere_w b s i w hi hs hb
 ·exact vhere_bad b s i w hb
theorem vone_any (b:Nat) (s:ByteArray) (i:Nat) (bd:Bool) (c:UInt8) (hc:c≠0) (x:Int) (hx:x=c.toNat) (w:World) (hi:i≤s.size) (hs:s.size≤400) (hb:VAt b s i bd w) :
  Calls Tryz.prog 150 #[.pointer (some ⟨b,0,none⟩),.int .u8 x] w fun e w'=>∃ j bd',e=.returned (.tuple #[])∧VAt b s j bd' w'∧w.grownBy w' (some b)∧j≤s.size∧
   Hid ((bd=true∧bd'=true∧j=i)∨(bd=false∧bd'=false∧(Sv.pk s.data.toList i == c)=true∧j=i+1)∨(bd=false∧bd'=true∧(Sv.pk s.data.toList i == c)=false∧j=i)):=by
 cases bd
 ·cases h:Sv.pk s.data.toList i == c
  ·refine (vone_no b s i c x hx w hi hs h hb).mono ?_
   rintro e w' ⟨rfl,h1,h2⟩
   exact ⟨i,true,rfl,h1,h2,hi,.inr (.inr ⟨rfl,rfl,rfl,rfl⟩)⟩
  ·refine (vone_yes b s i c x hx w hi hs h hb).mono ?_
   rintro e w' ⟨rfl,h1,h2⟩
   have h3:=Sv.byte_pos _ _ c hc h
   rw [size_list] at h3
   exact ⟨i+1,false,rfl,h1,h2,h3,.inr (.inl ⟨rfl,rfl,rfl,rfl⟩)⟩
 ·refine (vone_bad b s i c hc x hx w hb).mono ?_
  rintro e w' ⟨rfl,h1,h2⟩
  exact ⟨i,true,rfl,h1,h2,hi,.inl ⟨rfl,rfl,rfl⟩⟩
theorem vname_any (b:Nat) (s:ByteArray) (i:Nat) (w:World) (hi:i≤s.size) (hs:s.size≤400) (hb:VAt b s i false w) :
  Calls Tryz.prog 149 #[.pointer (some ⟨b,0,none⟩)] w fun e w'=>∃ (nm:ByteArray) (j:Nat) (bd:Bool),e=.returned (.string nm)∧VAt b s j bd w'∧w.grownBy w' (some b)∧j≤s.size∧
   Hid ((bd=true∧Sv.nmF 8 s.data.toList i=i∧j=i)∨(bd=false∧Sv.nmF 8 s.data.toList i≠i∧j=Sv.nmF 8 s.data.toList i∧nm=⟨(Sv.cut s.data.toList i j).toArray⟩)):=by
 by_cases h:Sv.nmF 8 s.data.toList i=i
 ·refine (vname_no b s i w hi hs h hb).mono ?_
  rintro e w' ⟨rfl,h1,h2⟩
  exact ⟨_,i,true,rfl,h1,h2,hi,.inl ⟨rfl,h,rfl⟩⟩
 ·refine (vname_yes b s i w hi hs h hb).mono ?_
  rintro e w' ⟨rfl,h1,h2⟩
  have h3:=(Sv.nmF_le 8 s.data.toList i (by simpa using hi)).2.1
  rw [size_list] at h3
  exact ⟨_,_,false,rfl,h1,h2,h3,.inr ⟨rfl,h,rfl,rfl⟩⟩
theorem C2.row {T:TypeId} {N:Nat} {x y:Value} {w w':World} {row:Option Nat} {base:Nat} {e:TypeId} (h:C2 T N x y w) (hg:w.grownBy w' row) (hr:RowOk base e row w) (he:e≠T):C2 T N x y w':=by
 refine h.kept hg (fun e1=>?_)
 obtain ⟨_,cur,fz,h2⟩:=hr N e1.symm
 unfold C2 at h
 rw [h] at h2
 simp at h2
 exact he h2.2.1.symm
theorem C2.drewN {T:TypeId} {N:Nat} {x y:Value} {w:World} (h:C2 T N x y w) (n:Nat):C2 T N x y (w.drewN n):=h
theorem C2.put0 {T:TypeId} {N:Nat} {a b:Value} {w:World} (h:C2 T N a b w) (x:Value):C2 T N x b (w.setCell ⟨N,0,none⟩ x):=by
 unfold C2 at h ⊢
 rw [heap_setCell_same w N 0 _ _ x h]; rfl
theorem C2.put1 {T:TypeId} {N:Nat} {a b:Value} {w:World} (h:C2 T N a b w) (x:Value):C2 T N a x (w.setCell ⟨N,1,none⟩ x):=by
 unfold C2 at h ⊢
 rw [heap_setCell_same w N 1 _ _ x h]; rfl
theorem u8_33 (c:UInt8):((c.toNat:Int) == 33)=(c == 33):=u8_inj c 33
theorem u8_59 (c:UInt8):((c.toNat:Int) == 59)=(c == 59):=u8_inj c 59
def Sv.hdF (n:Nat) (l:List UInt8) (acc:List Sv.Cond) (p:Nat):Nat ⊕ (List Sv.Cond×Nat):=
 match Sv.cond l (if (Sv.pk l p == 33 && decide (0 < acc.length))=true then p+1 else p) with
 | .inl k=>.inl k
 | .inr (c,j)=>Sv.cdF n l (acc ++ [⟨Sv.pk l p == 33 && decide (0 < acc.length),c.kind,c.terms⟩]) j
theorem Sv.hd_start (l:List UInt8) (i:Nat):Sv.hdF (l.length+1) l [] (Sv.sk l i)=Sv.conds l i:=by
 unfold Sv.hdF Sv.conds
 rw [show (Sv.pk l (Sv.sk l i) == 33 && decide (0 < ([]:List Sv.Cond).length))=false from by simp,if_neg (by simp),Sv.cond_sk]
 cases hc:Sv.cond l i with
 | inl k=>rfl
 | inr q=>
  obtain ⟨c,j⟩:=q
  have hn:=Sv.cond_neg _ _ _ _ hc
  show Sv.cdF (l.length+1) l [⟨false,c.kind,c.terms⟩] j=Sv.cdF (l.length+1) l [c] j
  rw [←hn]
theorem Sv.hd_next (n:Nat) (l:List UInt8) (acc:List Sv.Cond) (j:Nat) (hacc:0 < acc.length) (h:(Sv.pk l (Sv.sk l j) == 59)=false):Sv.cdF (n+1) l acc j=Sv.hdF n l acc (Sv.sk l j):=by
 rw [Sv.cdF_step,h,if_neg (by simp)]
 unfold Sv.hdF
 rw [show decide (0 < acc.length)=true from by simpa using hacc,Bool.and_true]
 cases Sv.cond l (if (Sv.pk l (Sv.sk l j) == 33)=true then Sv.sk l j+1 else Sv.sk l j)<;>rfl
theorem Sv.hd_none (n:Nat) (l:List UInt8) (acc:List Sv.Cond) (p:Nat) (hsk:Sv.sk l p=p) (h3:(Sv.pk l p == 33)=false) (h4:(Sv.pk l p == 40)=false):Sv.hdF n l acc p=.inl p:=by
 unfold Sv.hdF
 rw [h3]
 simp only [Bool.false_and,Bool.false_eq_true,if_false]
 rw [show Sv.cond l p=.inl p from by unfold Sv.cond; rw [hsk,h4]; rfl]
def VRLoop (b:Nat) (s:ByteArray) (U:Nat) (w:World) (i:Nat) (r:Nat ⊕ (Sv.Rule×Nat)) (w':World):Prop:=
 ∃ (p:Nat) (nm:ByteArray) (u:Value) (bad:Bool),VAt b s p bad w'∧p≤s.size∧C2 163 U (.string nm) u w'∧C2 163 w.heap.size (.string ⟨#[]⟩) (.slice none 0 0) w'∧w.grownBy w' (some b)∧
  ((bad=true∧r=.inl p∧∃ ao n cap,u=.slice ao n cap)∨(bad=false∧∃ (n:Nat) (acc:List Sv.Cond),s.size < p+n+1∧acc.length≤p∧Sv.sk s.data.toList p=p∧VCsAt w.heap.size u acc w'∧nm=⟨(Sv.cut s.data.toList i (Sv.nmF 8 s.data.toList i)).toArray⟩∧
   (match Sv.hdF n s.data.toList acc p with
    | .inl m=>.inl m
    | .inr (cs,m)=>.inr (⟨Sv.cut s.data.toList i (Sv.nmF 8 s.data.toList i),cs⟩,m))=r))
theorem Sv.rule_eq (l:List UInt8) (i:Nat) (h:Sv.nmF 8 l i≠i) (h2:(Sv.pk l (Sv.sk l (Sv.nmF 8 l i)) == 58)=true):Sv.rule l i=match Sv.conds l (Sv.sk l (Sv.nmF 8 l i)+1) with
  | .inl m=>.inl m
  | .inr (cs,m)=>.inr (⟨Sv.cut l i (Sv.nmF 8 l i),cs⟩,m):=by
 unfold Sv.rule
 simp only
 rw [if_neg h,h2,if_pos rfl]
 cases Sv.conds l (Sv.sk l (Sv.nmF 8 l i)+1)<;>rfl
set_option maxRecDepth 100000 in
set_option maxHeartbeats 2000000 in
theorem vrule_w (b:Nat) (s:ByteArray) (i:Nat) (w:World) (hi:i≤s.size) (hs:s.size≤400) (hb:VAt b s i false w) (r:Nat ⊕ (Sv.Rule×Nat)) (hR:Sv.rule s.data.toList i=r) :
  Calls Tryz.prog 118 #[.pointer (some ⟨b,0,none⟩)] w fun e w'=>VRPost b s w r e w':=by
 obtain ⟨i0,hinf,hz0,hz1,hz2⟩:=info_parts Tryz.infoVCond
 have HR:=hide hR
 clear hR
 have hlt:=hb.lt
 have hgA:=World.grownBy_alloc w (.cells #[.string ⟨#[]⟩,.slice none 0 0] 163) none
 have hgB:=World.grownBy_alloc (w.alloc (.cells #[.string ⟨#[]⟩,.slice none 0 0] 163)) (.cells #[.string ⟨#[]⟩,.slice none 0 0] 163) none
 have hR0:C2 163 w.heap.size (.string ⟨#[]⟩) (.slice none 0 0) (w.alloc (.cells #[.string ⟨#[]⟩,.slice none 0 0] 163)):=heap_alloc_new _ _
 have hR1:=hR0.kept hgB (by simp)
 have hU1:C2 163 (w.heap.size+1) (.string ⟨#[]⟩) (.slice none 0 0) ((w.alloc (.cells #[.string ⟨#[]⟩,.slice none 0 0] 163)).alloc (.cells #[.string ⟨#[]⟩,.slice none 0 0] 163)):=by
  have:=heap_alloc_new (w.alloc (.cells #[.string ⟨#[]⟩,.slice none 0 0] 163)) (.cells #[.string ⟨#[]⟩,.slice none 0 0] 163)
  rwa [World.size_alloc] at this
 have hb1:=(hb.kept hgA (by simp)).kept hgB (by simp)
 have hg1:=gr_any (gr_trans hgA hgB) (some b)
 clear hgA hgB hR0
 go_enter Tryz.func118,Tryz.ntmps118
 go_wp2_with fail
 refine (vname_any b s i _ hi hs hb1).mono ?_
 rintro e w2 ⟨nm,j,bd,rfl,hb2,hg2,hj,HV⟩
 have hR2:=hR1.kept hg2 (by simp; omega)
 have hU2:=hU1.kept hg2 (by simp; omega)
 have hg02:=gr_trans hg1 hg2
 clear hR1 hU1 hg1 hg2 hb1
 generalize hUU:w.heap.size+1=U at *
 have hU0:w.heap.size < U:=by omega
 clear hUU
 have kU:=gr_set w2 U 0 (.string nm)
 have hU3:=hU2.put0 (.string nm)
 have hR3:=hR2.kept kU (by simp; omega)
 have hb3:=hb2.kept kU (by simp; omega)
 have hg03:=gr_own hg02 kU (Nat.le_of_lt hU0)
 have a0:=hU2.c.1
 have az:=hU2.fz 0
 clear hR2 hU2 hg02 hb2 kU
 go_wp2_with fail
 refine (vblanks_any b s j bd _ hj hs hb3).mono ?_
 rintro e w4 ⟨rfl,hb4,hg4⟩
 have hR4:=hR3.row hg4 hb3.rowOk (by decide)
 have hU4:=hU3.row hg4 hb3.rowOk (by decide)
 have hg04:=gr_trans hg03 hg4
 clear hR3 hU3 hg03 hg4 hb3 a0 az
 obtain ⟨j2,hj2⟩:∃ j2,(if bd=true then j else Sv.sk s.data.toList j)=j2:=⟨_,rfl⟩
 rw [hj2] at hb4
 have hj2s:j2≤s.size:=by
  have:=(Sv.sk_le s.data.toList j (by simpa using hj)).2
  rw [size_list] at this
  rw [←hj2]; split<;>omega
 have HJ2:=hide hj2
 clear hj2
 go_wp2_with fail
 refine (vone_any b s j2 bd 58 (by decide) _ rfl _ hj2s hs hb4).mono ?_
 rintro e w5 ⟨j3,bd3,rfl,hb5,hg5,hj3,HV2⟩
 have hR5:=hR4.row hg5 hb4.rowOk (by decide)
 have hU5:=hU4.row hg5 hb4.rowOk (by decide)
 have hg05:=gr_trans hg04 hg5
 clear hR4 hU4 hg04 hg5 hb4
 go_wp2_with fail
 refine (vblanks_any b s j3 bd3 _ hj3 hs hb5).mono ?_
 rintro e w6 ⟨rfl,hb6,hg6⟩
 have hR6:=hR5.row hg6 hb5.rowOk (by decide)
 have hU6:=hU5.row hg6 hb5.rowOk (by decide)
 have hg06:=gr_trans hg05 hg6
 clear hR5 hU5 hg05 hg6 hb5
 go_wp2_with fail
 go_loopw [] (fun w'=>VRLoop b s U w i r w') (fun w'=>msOf b s.size w')
 case atStart=>
  refine ⟨_,nm,_,bd3,hb6,?_,hU6,hR6,hg06,?_⟩
  ·have:=(Sv.sk_le s.data.toList j3 (by simpa using hj3)).2
   rw [size_list] at this
   split<;>omega
  ·rcases unhide HV2 with ⟨rfl,rfl,rfl⟩ | ⟨rfl,rfl,h58,rfl⟩ | ⟨rfl,rfl,h58,rfl⟩
   ·refine .inl ⟨rfl,?_,_,_,_,rfl⟩
    rcases unhide HV with ⟨_,h8,rfl⟩ | ⟨h8,_⟩
    ·have h7:j3=j:=(unhide HJ2).symm
     rw [if_pos rfl,h7,←unhide HR]
     unfold Sv.rule; simp only; rw [if_pos h8]
    ·cases h8
   ·refine .inr ⟨rfl,s.data.toList.length+1,[],by simp; omega,Nat.zero_le _,?_,⟨[],World.ownsRow_nil _ _ _ _,rfl⟩,?_,?_⟩
    ·rw [if_neg (by simp)]; exact Sv.sk_sk _ _
    ·rcases unhide HV with ⟨h8,_⟩ | ⟨_,h8,rfl,rfl⟩
     ·cases h8
     ·rfl
    ·rcases unhide HV with ⟨h8,_⟩ | ⟨_,h8,rfl,rfl⟩
     ·cases h8
     ·have h7:Sv.sk s.data.toList (Sv.nmF 8 s.data.toList i)=j2:=unhide HJ2
      rw [if_neg (by simp),Sv.hd_start,←unhide HR,←h7]
      rw [←h7] at h58
      exact (Sv.rule_eq _ _ h8 h58).symm
   ·refine .inl ⟨rfl,?_,_,_,_,rfl⟩
    rcases unhide HV with ⟨h8,_⟩ | ⟨_,h8,rfl,rfl⟩
    ·cases h8
    ·have h7:Sv.sk s.data.toList (Sv.nmF 8 s.data.toList i)=j3:=unhide HJ2
     rw [if_pos rfl,←unhide HR]
     unfold Sv.rule; simp only; rw [if_neg h8,h7,h58]; rfl
 case round=>
  clear hR6 hU6 hg06 hb6 HV HV2 HJ2 HR hj hj2s hj3
  obtain ⟨p,nm,u,bad,hbk,hp,hU,hRr,hg,hcase⟩:=hrel
  have HM:=hide (hbk.ms s.size)
  rcases hcase with ⟨rfl,hr,ao,nn,cap,rfl⟩ | ⟨rfl,m,acc,hm,hacc,hsk,hcs,hnm,hnx⟩
  ·subst hr
   have c2:=hbk.c2
   obtain ⟨d0,d1⟩:=hU.c
   obtain ⟨q0,q1⟩:=hRr.c
   have z0:=hRr.fz 0
   have z1:=hRr.fz 1
   go_wp2
   have k3:=gr_set2 wr w.heap.size (.string nm) (.slice ao nn cap)
   obtain ⟨q0,q1⟩:=(hRr.set2 (.string nm) (.slice ao nn cap)).c
   exact bodyPost_ret (v:=.agg #[.string nm,.slice ao nn cap]) (by simp [results,Tryz.results118,go_sem,q0,q1]) rfl ⟨_,_,_,_,rfl,hbk.kept k3 (by simp; omega),gr_own hg k3 (Nat.le_refl _)⟩
  ·have HX:=hide hnx
   have HNM:=hide hnm
   clear hnx hnm
   have c2:=hbk.c2
   have c1:=hbk.c1
   have f1:=hbk.fz 1
   obtain ⟨d0,d1⟩:=hU.c
   obtain ⟨ao,cap,rfl⟩:=hcs.slice
   cases h33:Sv.pk s.data.toList p == 33
   ·have HNG:Hid ((Sv.pk s.data.toList p == 33 && decide (0 < acc.length))=false):=by show (_ && _)=false; rw [h33]; rfl
    have HCQ:Hid (Sv.cond s.data.toList p=Sv.cond s.data.toList p):=rfl
    have e33:=(u8_33 (Sv.pk s.data.toList p)).trans h33
    have hxs:p≤s.size:=hp
    go_wp2_with (go_at_call 148; refine (vhere_w b s p _ hp hs hbk).mono ?_; rintro e w7 ⟨rfl,n7,rfl⟩)
    have hbW:=hbk.drewN n7
    have hUW:=hU.drewN n7
    have hRW:=hRr.drewN n7
    have hgW:=gr_trans hg (gr_drewN wr n7 _)
    have hcsW:=hcs.row (gr_drewN wr n7 none) (RowOk.none 0 0 _) (by decide) (by decide)
    clear hbk hU hRr hg hcs c1 c2 f1 d0 d1
    refine (vcond_any b s p false _ hp hs hsk hbW).mono ?_
    rintro e w8 ⟨kd,ao8,n8,cap8,j8,bd8,rfl,hb8,hg8,HV8⟩
    have hcs8:=hcsW.row hg8 hbW.rowOk (by decide) (by decide)
    have hU8:=hUW.row hg8 hbW.rowOk (by decide)
    have hR8:=hRW.row hg8 hbW.rowOk (by decide)
    have hg08:=gr_trans hgW hg8
    obtain ⟨xs,hown8,hcells8⟩:=hcs8
    have hsz8:=hg08.size
    have hszW:=hgW.size
    clear hcsW hUW hRW hgW hbW hg8
    have hgA:=World.grownBy_alloc w8 (.cells #[.bool false,.int .i64 kd,.slice ao8 n8 cap8] 166) none
    have hgB:=gr_trans hgA (World.grownBy_alloc (w8.alloc (.cells #[.bool false,.int .i64 kd,.slice ao8 n8 cap8] 166)) (.cells #[.bool false,.int .i64 kd,.slice ao8 n8 cap8] 166) none)
    have hrow:=RowOk.of ((hown8.alloc (.cells #[.bool false,.int .i64 kd,.slice ao8 n8 cap8] 166)).alloc (.cells #[.bool false,.int .i64 kd,.slice ao8 n8 cap8] 166))
    have hcells9:=VCsCells.row hgB (RowOk.none 0 0 w8) (by decide) acc xs hcells8
    have hU9:=hU8.kept hgB (by simp)
    have hR9:=hR8.kept hgB (by simp)
    have hb9:=hb8.kept hgB (by simp)
    have hg09:=gr_trans hg08 (gr_any hgB (some b))
    obtain ⟨d0,d1⟩:=hU8.c
    have d1A:=(hU8.kept hgA (by simp)).c.2
    go_wp2_with (at_builtin; refine wpList_append_own _ rfl _ _ 161 rfl w.heap.size 166 i0 (.agg #[.bool false,.int .i64 0,.slice none 0 0]) 3 40 Tryz.underlying161 hinf hz0 hz1 hz2 rfl (by decide) _ acc.length xs rfl ((hown8.alloc _).alloc _) ⟨w8.heap.size+1,0,none⟩ 1 1 [.bool false,.int .i64 kd,.slice ao8 n8 cap8] rfl rfl ?c1 ?c2 ?c3 ?c4 ?c5 ?_)
    case c1=>
     intro jj u hu
     match jj,hu with
     | 0,hu=>simp at hu; subst hu; simp [Addr.add]
     | 1,hu=>simp at hu; subst hu; simp [Addr.add]
     | 2,hu=>simp at hu; subst hu; simp [Addr.add]
     | n+3,hu=>simp at hu
    case c2=>
     intro u hu
     simp at hu
     rcases hu with rfl | rfl | rfl<;>rfl
    case c3=>unfold maxLen; omega
    case c4=>omega
    case c5=>simp; omega
    intro v' wA hown hgrow _
    have hUA:=hU9.row hgrow hrow (by decide)
    have hRA:=hR9.row hgrow hrow (by decide)
    have hbA:=hb9.row hgrow hrow (by decide)
    have hgA0:=gr_owns hg09 hgrow hrow
    have hcellsA:=VCsCells.row hgrow hrow (by decide) acc xs hcells9
    obtain ⟨aoA,capA,rfl⟩:∃ ao cap,v'=.slice ao (acc.length+1) cap:=by
     rcases hown.2 with ⟨h1,h2⟩ | ⟨g,cap,cur,h1,_⟩
     ·omega
     ·exact ⟨_,_,h1⟩
    have hJ8:Hid (bd8=false→∃ c:Sv.Cond,Sv.cond s.data.toList p=.inr (c,j8)∧(c.kind:Int)=kd∧VTsAt w.heap.size (.slice ao8 n8 cap8) c.terms wA):=by
     intro hbd
     rcases unhide HV8 with ⟨h1,_⟩ | ⟨_,c,h1,h2,h3⟩
     ·rw [hbd] at h1; cases h1
     ·exact ⟨c,h1,h2,own_weak ((VTsAt.row h3 hgB (RowOk.none 0 0 w8) (by decide)).row hgrow hrow (by decide)) hszW⟩
    have hJ9:Hid (bd8=true→Sv.cond s.data.toList p=.inl j8):=by
     intro hbd
     rcases unhide HV8 with ⟨_,h1⟩ | ⟨h1,_⟩
     ·exact h1
     ·rw [hbd] at h1; cases h1
    have hj8:j8≤s.size∧(bd8=false→p < j8):=by
     have hok:=Sv.cond_ok s.data.toList p (by rw [size_list]; exact hxs)
     rcases unhide HV8 with ⟨h1,h2⟩ | ⟨h1,c,h2,_⟩
     ·rw [h2] at hok; have h3:j8≤s.data.toList.length:=hok; rw [size_list] at h3; exact ⟨h3,fun h=>by rw [h1] at h; cases h⟩
     ·rw [h2] at hok; obtain ⟨h3,h4⟩:p < j8∧j8≤s.data.toList.length:=hok; rw [size_list] at h4; exact ⟨h4,fun _=>by omega⟩
    obtain ⟨hj8,hj8p⟩:=hj8
    clear hU8 hR8 hb8 hg08 hown8 hcells8 hgB hrow hcells9 hU9 hR9 hb9 hg09 d0 d1 d1A hgrow HV8 hgA
    have kU:=gr_set wA U 1 (.slice aoA (acc.length+1) capA)
    have hUB:=hUA.put1 (.slice aoA (acc.length+1) capA)
    have hRB:=hRA.kept kU (by simp; omega)
    have hbB:=hbA.kept kU (by simp; omega)
    have hgB0:=gr_own hgA0 kU (Nat.le_of_lt hU0)
    have hcellsB:=VCsCells.row kU (RowOk.one2 hUA (Nat.zero_le _)) (by decide) acc xs hcellsA
    have hownB:=own_row hown kU (RowOk.one2 hUA (Nat.zero_le _)) (by decide)
    have hJ8B:Hid (bd8=false→∃ c:Sv.Cond,Sv.cond s.data.toList p=.inr (c,j8)∧(c.kind:Int)=kd∧VTsAt w.heap.size (.slice ao8 n8 cap8) c.terms (wA.setCell ⟨U,1,none⟩ (.slice aoA (acc.length+1) capA))):=by
     intro hbd
     obtain ⟨c,h1,h2,h3⟩:=unhide hJ8 hbd
     exact ⟨c,h1,h2,h3.row kU (RowOk.one2 hUA (Nat.zero_le _)) (by decide)⟩
    have a1:=hUA.c.2
    have az:=hUA.fz 1
    clear hRA hbA hgA0 hcellsA hown kU hJ8
    go_wp2_with fail
    refine (vblanks_any b s j8 bd8 _ hj8 hs hbB).mono ?_
    rintro e wC ⟨rfl,hbC,hgC⟩
    have hUC:=hUB.row hgC hbB.rowOk (by decide)
    have hRC:=hRB.row hgC hbB.rowOk (by decide)
    have hgC0:=gr_trans hgB0 hgC
    have hcellsC:=VCsCells.row hgC hbB.rowOk (by decide) acc xs hcellsB
    have hownC:=own_row hownB hgC hbB.rowOk (by decide)
    have hJ8C:Hid (bd8=false→∃ c:Sv.Cond,Sv.cond s.data.toList p=.inr (c,j8)∧(c.kind:Int)=kd∧VTsAt w.heap.size (.slice ao8 n8 cap8) c.terms wC):=by
     intro hbd
     obtain ⟨c,h1,h2,h3⟩:=unhide hJ8B hbd
     exact ⟨c,h1,h2,h3.row hgC hbB.rowOk (by decide)⟩
    clear hUA hUB hRB hbB hgB0 hcellsB hownB hgC hJ8B a1 az
    obtain ⟨pp,hpp⟩:∃ pp,(if bd8=true then j8 else Sv.sk s.data.toList j8)=pp:=⟨_,rfl⟩
    rw [hpp] at hbC
    have hpps:pp≤s.size∧(bd8=false→p < pp):=by
     have h1:=Sv.sk_le s.data.toList j8 (by rw [size_list]; exact hj8)
     rw [size_list] at h1
     rw [←hpp]
     cases bd8
     ·rw [if_neg (by simp)]; exact ⟨h1.2,fun _=>by have:=hj8p rfl; omega⟩
     ·rw [if_pos rfl]; exact ⟨hj8,fun h=>by cases h⟩
    obtain ⟨hpps,hppp⟩:=hpps
    obtain ⟨ch,hch⟩:∃ ch,(if bd8=true then (0:UInt8) else Sv.pk s.data.toList pp)=ch:=⟨_,rfl⟩
    have HPP:=hide hpp
    have HCH:=hide hch
    clear hpp hch
    have HPB:=hide hppp
    have HPJ:=hide hj8p
    clear hppp hj8p
    have hher:=fun n=>vhere_any b s pp bd8 (wC.drewN n) hpps hs (hbC.drewN n)
    rw [unhide HCH] at hher
    have hCC:Hid (bd8=false→∃ c:Sv.Cond,VCsAt w.heap.size (.slice aoA (acc.length+1) capA) (acc ++ [⟨false,c.kind,c.terms⟩]) wC∧Sv.cond s.data.toList p=.inr (c,j8)):=by
     intro hbd
     obtain ⟨c,h1,h2,h3⟩:=unhide hJ8C hbd
     refine ⟨c,⟨_,by rw [List.length_append]; exact hownC,?_⟩,h1⟩
     have h4:=VCsCells.snoc (⟨false,c.kind,c.terms⟩:Sv.Cond) (.slice ao8 n8 cap8) h3 acc xs hcellsC
     have h5:((c.kind:Nat):Int)=kd:=h2
     show VCsCells w.heap.size wC _ (xs ++ [.bool false,.int .i64 kd,.slice ao8 n8 cap8])
     rw [←h5]
     exact h4
    clear hcellsC hownC hJ8C
    have c1:=hbC.c1
    have f1:=hbC.fz 1
    have c2:=hbC.c2
    have f2:=hbC.fz 2
    cases h59:ch == 59
    ·have e59:=(u8_59 ch).trans h59
     have HXN:Hid (bd8=false→∃ c:Sv.Cond,VCsAt w.heap.size (.slice aoA (acc.length+1) capA) (acc ++ [⟨false,c.kind,c.terms⟩]) wC∧(match Sv.hdF (m - 1) s.data.toList (acc ++ [⟨false,c.kind,c.terms⟩]) pp with
       | .inl m=>.inl m
       | .inr (cs,m)=>.inr (⟨Sv.cut s.data.toList i (Sv.nmF 8 s.data.toList i),cs⟩,m))=r):=by
      intro hbd
      obtain ⟨c,h1,h2⟩:=unhide hCC hbd
      refine ⟨c,h1,?_⟩
      have h3:=unhide HX
      unfold Sv.hdF at h3
      rw [unhide HNG,if_neg (by simp),h2] at h3
      have h4:=unhide HPP
      rw [hbd,if_neg (by simp)] at h4
      have h5:=unhide HCH
      rw [hbd,if_neg (by simp)] at h5
      have h6:=unhide HPJ hbd
      obtain ⟨m2,rfl⟩:∃ m2,m=m2+1:=⟨m - 1,by omega⟩
      rw [←h4,Nat.add_sub_cancel,←Sv.hd_next m2 _ _ _ (by simp) (by rw [h4,h5]; exact h59)]
      exact h3
     cases h33b:ch == 33
     ·have e33b:((ch.toNat:Int) != 33)=true:=u8_ne ch 33 h33b
      cases h40:ch == 40
      ·have e40:((ch.toNat:Int) != 40)=true:=u8_ne ch 40 h40
       have HIN:Hid (r=.inl pp):=by
        cases hbd:bd8
        ·obtain ⟨c,_,h2⟩:=unhide HXN hbd
         have h4:=unhide HPP
         rw [hbd,if_neg (by simp)] at h4
         have h5:=unhide HCH
         rw [hbd,if_neg (by simp)] at h5
         rw [Sv.hd_none _ _ _ _ (by rw [←h4]; exact Sv.sk_sk _ _) (by rw [h5]; exact h33b) (by rw [h5]; exact h40)] at h2
         exact h2.symm
        ·have h3:=unhide HX
         unfold Sv.hdF at h3
         rw [unhide HNG,if_neg (by simp),unhide hJ9 hbd] at h3
         have h4:=unhide HPP
         rw [hbd,if_pos rfl] at h4
         rw [←h4]
         exact h3.symm
       go_wp2_with (go_at_call 148; refine (by first | exact hher _ | exact hher 0:Calls _ _ _ _ _).mono ?_; rintro e w9 ⟨rfl,n9,rfl⟩)
       go_roundw
       case rel=>exact ⟨pp,nm,_,true,(hbC.drewN _).set2 true,hpps,(hUC.drewN _).kept (gr_set _ b 2 _) (by simp; omega),(hRC.drewN _).kept (gr_set _ b 2 _) (by simp; omega),gr_trans (gr_trans hgC0 (gr_drewN wC _ _)) (gr_set _ b 2 _),.inl ⟨rfl,unhide HIN,_,_,_,rfl⟩⟩
       case measure=>
        refine Nat.lt_of_le_of_lt (Nat.le_of_eq (((hbC.drewN _).set2 true).ms s.size)) ?_
        rw [unhide HM]; simp
      ·have e40:((ch.toNat:Int) != 40)=false:=u8_eq ch 40 h40
       have hbd:bd8=false:=by
        cases hbd:bd8
        ·rfl
        ·have h5:=unhide HCH
         rw [hbd,if_pos rfl] at h5
         rw [←h5] at h40
         exact absurd h40 (by decide)
       subst hbd
       have HXN2:=hide (unhide HXN rfl)
       have HPB2:=hide (unhide HPB rfl)
       go_wp2_with (go_at_call 148; refine (by first | exact hher _ | exact hher 0:Calls _ _ _ _ _).mono ?_; rintro e w9 ⟨rfl,n9,rfl⟩)
       go_roundw
       case rel=>
        obtain ⟨c,h1,h2⟩:=unhide HXN2
        have h4:=unhide HPP
        rw [if_neg (by simp)] at h4
        have h6:=unhide HPB2
        exact ⟨pp,nm,_,false,hbC.drewN _,hpps,hUC.drewN _,hRC.drewN _,gr_trans hgC0 (gr_drewN wC _ _),.inr ⟨rfl,m - 1,_,by omega,by simp; omega,by rw [←h4]; exact Sv.sk_sk _ _,h1.row (gr_drewN wC _ none) (RowOk.none 0 0 _) (by decide) (by decide),unhide HNM,h2⟩⟩
       case measure=>
        refine Nat.lt_of_le_of_lt (Nat.le_of_eq ((hbC.drewN _).ms s.size)) ?_
        have h6:=unhide HPB2
        rw [unhide HM]; simp; omega
     ·have e33b:((ch.toNat:Int) != 33)=false:=u8_eq ch 33 h33b
      have hbd:bd8=false:=by
       cases hbd:bd8
       ·rfl
       ·have h5:=unhide HCH
        rw [hbd,if_pos rfl] at h5
        rw [←h5] at h33b
        exact absurd h33b (by decide)
      subst hbd
      have HXN2:=hide (unhide HXN rfl)
      have HPB2:=hide (unhide HPB rfl)
      go_wp2_with (go_at_call 148; refine (by first | exact hher _ | exact hher 0:Calls _ _ _ _ _).mono ?_; rintro e w9 ⟨rfl,n9,rfl⟩)
      go_roundw
      case rel=>
       obtain ⟨c,h1,h2⟩:=unhide HXN2
       have h4:=unhide HPP
       rw [if_neg (by simp)] at h4
       have h6:=unhide HPB2
       exact ⟨pp,nm,_,false,hbC.drewN _,hpps,hUC.drewN _,hRC.drewN _,gr_trans hgC0 (gr_drewN wC _ _),.inr ⟨rfl,m - 1,_,by omega,by simp; omega,by rw [←h4]; exact Sv.sk_sk _ _,h1.row (gr_drewN wC _ none) (RowOk.none 0 0 _) (by decide) (by decide),unhide HNM,h2⟩⟩
      case measure=>
       refine Nat.lt_of_le_of_lt (Nat.le_of_eq ((hbC.drewN _).ms s.size)) ?_
       have h6:=unhide HPB2
       rw [unhide HM]; simp; omega
    ·have e59:=(u8_59 ch).trans h59
     have hbd:bd8=false:=by
      cases hbd:bd8
      ·rfl
      ·have h5:=unhide HCH
       rw [hbd,if_pos rfl] at h5
       rw [←h5] at h59
       exact absurd h59 (by decide)
     subst hbd
     have h5:=unhide HCH
     rw [if_neg (by simp)] at h5
     have h4:=unhide HPP
     rw [if_neg (by simp)] at h4
     have hp59:=Sv.byte_pos s.data.toList pp 59 (by decide) (by rw [h5]; exact h59)
     rw [size_list] at hp59
     obtain ⟨c,hc1,hc2⟩:=unhide hCC rfl
     have hr:r=.inr (⟨Sv.cut s.data.toList i (Sv.nmF 8 s.data.toList i),acc ++ [⟨false,c.kind,c.terms⟩]⟩,pp+1):=by
      have h3:=unhide HX
      unfold Sv.hdF at h3
      rw [unhide HNG,if_neg (by simp),hc2] at h3
      have h6:=unhide HPJ rfl
      obtain ⟨m2,rfl⟩:∃ m2,m=m2+1:=⟨m - 1,by omega⟩
      simp only at h3
      rw [Sv.cdF_step,h4,h5,h59,if_pos rfl] at h3
      exact h3.symm
     subst hr
     have HNMo:=unhide HNM
     subst HNMo
     clear h4 h5 hCC hc2 HX HNM
     have kk:=fun n=>gr_set (wC.drewN n) b 1 (.int .i64 ((pp:Int)+1))
     have hb2:=fun n=>(hbC.drewN n).set1 (pp+1)
     have hU3:=fun n=>(hUC.drewN n).kept (kk n) (by simp; omega)
     have hR3:=fun n=>(hRC.drewN n).kept (kk n) (by simp; omega)
     have e0:=fun n=>(hU3 n).c.1
     have e1:=fun n=>(hU3 n).c.2
     have g0:=fun n=>(hR3 n).c.1
     have g1:=fun n=>(hR3 n).c.2
     have y0:=fun n=>(hR3 n).fz 0
     have y1:=fun n=>(hR3 n).fz 1
     generalize hcut:Sv.cut s.data.toList i (Sv.nmF 8 s.data.toList i)=nmL at *
     go_wp2_with (go_at_call 148; refine (by first | exact hher _ | exact hher 0:Calls _ _ _ _ _).mono ?_; rintro e w9 ⟨rfl,n9,rfl⟩)
     have k3:=fun n=>gr_set2 ((wC.drewN n).setCell ⟨b,1,none⟩ (.int .i64 ((pp:Int)+1))) w.heap.size (.string ⟨nmL.toArray⟩) (.slice aoA (acc.length+1) capA)
     have g01:=fun n=>((hR3 n).set2 (.string ⟨nmL.toArray⟩) (.slice aoA (acc.length+1) capA)).c
     exact bodyPost_ret (v:=.agg #[.string ⟨nmL.toArray⟩,.slice aoA (acc.length+1) capA]) (by simp [results,Tryz.results118,go_sem,g01]) rfl ⟨_,by subst hcut; rfl,((hc1.row (gr_drewN wC _ none) (RowOk.none 0 0 _) (by decide) (by decide)).row (kk _) (hbC.drewN _).rowOk (by decide) (by decide)).row (k3 _) (RowOk.one2 (hR3 _) (Nat.le_refl _)) (by decide) (by decide),(hb2 _).kept (k3 _) (by simp; omega),gr_own (gr_trans (gr_trans hgC0 (gr_drewN wC _ _)) (kk _)) (k3 _) (Nat.le_refl _)⟩
   ·cases hl0:decide (0 < acc.length)
    ·have HNG:Hid ((Sv.pk s.data.toList p == 33 && decide (0 < acc.length))=false):=by show (_ && _)=false; rw [h33,Bool.true_and,hl0]
     have HCQ:Hid (Sv.cond s.data.toList p=Sv.cond s.data.toList p):=rfl
     have e33:=(u8_33 (Sv.pk s.data.toList p)).trans h33
     have hxs:p≤s.size:=hp
     have hlen:acc.length=0:=by simpa using hl0
     rw [hlen] at d1
     have HLEN:=hide hlen
     clear hlen hl0
     go_wp2_with (go_at_call 148; refine (vhere_w b s p _ hp hs hbk).mono ?_; rintro e w7 ⟨rfl,n7,rfl⟩)
     have hbW:=hbk.drewN n7
     have hUW:=hU.drewN n7
     have hRW:=hRr.drewN n7
     have hgW:=gr_trans hg (gr_drewN wr n7 _)
     have hcsW:=hcs.row (gr_drewN wr n7 none) (RowOk.none 0 0 _) (by decide) (by decide)
     clear hbk hU hRr hg hcs c1 c2 f1 d0 d1
     refine (vcond_any b s p false _ hp hs hsk hbW).mono ?_
     rintro e w8 ⟨kd,ao8,n8,cap8,j8,bd8,rfl,hb8,hg8,HV8⟩
     have hcs8:=hcsW.row hg8 hbW.rowOk (by decide) (by decide)
     have hU8:=hUW.row hg8 hbW.rowOk (by decide)
     have hR8:=hRW.row hg8 hbW.rowOk (by decide)
     have hg08:=gr_trans hgW hg8
     obtain ⟨xs,hown8,hcells8⟩:=hcs8
     have hsz8:=hg08.size
     have hszW:=hgW.size
     clear hcsW hUW hRW hgW hbW hg8
     have hgA:=World.grownBy_alloc w8 (.cells #[.bool false,.int .i64 kd,.slice ao8 n8 cap8] 166) none
     have hgB:=gr_trans hgA (World.grownBy_alloc (w8.alloc (.cells #[.bool false,.int .i64 kd,.slice ao8 n8 cap8] 166)) (.cells #[.bool false,.int .i64 kd,.slice ao8 n8 cap8] 166) none)
     have hrow:=RowOk.of ((hown8.alloc (.cells #[.bool false,.int .i64 kd,.slice ao8 n8 cap8] 166)).alloc (.cells #[.bool false,.int .i64 kd,.slice ao8 n8 cap8] 166))
     have hcells9:=VCsCells.row hgB (RowOk.none 0 0 w8) (by decide) acc xs hcells8
     have hU9:=hU8.kept hgB (by simp)
     have hR9:=hR8.kept hgB (by simp)
     have hb9:=hb8.kept hgB (by simp)
     have hg09:=gr_trans hg08 (gr_any hgB (some b))
     obtain ⟨d0,d1⟩:=hU8.c
     have d1A:=(hU8.kept hgA (by simp)).c.2
     go_wp2_with (at_builtin; refine wpList_append_own _ rfl _ _ 161 rfl w.heap.size 166 i0 (.agg #[.bool false,.int .i64 0,.slice none 0 0]) 3 40 Tryz.underlying161 hinf hz0 hz1 hz2 rfl (by decide) _ acc.length xs rfl ((hown8.alloc _).alloc _) ⟨w8.heap.size+1,0,none⟩ 1 1 [.bool false,.int .i64 kd,.slice ao8 n8 cap8] rfl rfl ?c1 ?c2 ?c3 ?c4 ?c5 ?_)
     case c1=>
      intro jj u hu
      match jj,hu with
      | 0,hu=>simp at hu; subst hu; simp [Addr.add]
      | 1,hu=>simp at hu; subst hu; simp [Addr.add]
      | 2,hu=>simp at hu; subst hu; simp [Addr.add]
      | n+3,hu=>simp at hu
     case c2=>
      intro u hu
      simp at hu
      rcases hu with rfl | rfl | rfl<;>rfl
     case c3=>unfold maxLen; omega
     case c4=>omega
     case c5=>simp; omega
     intro v' wA hown hgrow _
     have hUA:=hU9.row hgrow hrow (by decide)
     have hRA:=hR9.row hgrow hrow (by decide)
     have hbA:=hb9.row hgrow hrow (by decide)
     have hgA0:=gr_owns hg09 hgrow hrow
     have hcellsA:=VCsCells.row hgrow hrow (by decide) acc xs hcells9
     obtain ⟨aoA,capA,rfl⟩:∃ ao cap,v'=.slice ao (acc.length+1) cap:=by
      rcases hown.2 with ⟨h1,h2⟩ | ⟨g,cap,cur,h1,_⟩
      ·omega
      ·exact ⟨_,_,h1⟩
     have hJ8:Hid (bd8=false→∃ c:Sv.Cond,Sv.cond s.data.toList p=.inr (c,j8)∧(c.kind:Int)=kd∧VTsAt w.heap.size (.slice ao8 n8 cap8) c.terms wA):=by
      intro hbd
      rcases unhide HV8 with ⟨h1,_⟩ | ⟨_,c,h1,h2,h3⟩
      ·rw [hbd] at h1; cases h1
      ·exact ⟨c,h1,h2,own_weak ((VTsAt.row h3 hgB (RowOk.none 0 0 w8) (by decide)).row hgrow hrow (by decide)) hszW⟩
     have hJ9:Hid (bd8=true→Sv.cond s.data.toList p=.inl j8):=by
      intro hbd
      rcases unhide HV8 with ⟨_,h1⟩ | ⟨h1,_⟩
      ·exact h1
      ·rw [hbd] at h1; cases h1
     have hj8:j8≤s.size∧(bd8=false→p < j8):=by
      have hok:=Sv.cond_ok s.data.toList p (by rw [size_list]; exact hxs)
      rcases unhide HV8 with ⟨h1,h2⟩ | ⟨h1,c,h2,_⟩
      ·rw [h2] at hok; have h3:j8≤s.data.toList.length:=hok; rw [size_list] at h3; exact ⟨h3,fun h=>by rw [h1] at h; cases h⟩
      ·rw [h2] at hok; obtain ⟨h3,h4⟩:p < j8∧j8≤s.data.toList.length:=hok; rw [size_list] at h4; exact ⟨h4,fun _=>by omega⟩
     obtain ⟨hj8,hj8p⟩:=hj8
     clear hU8 hR8 hb8 hg08 hown8 hcells8 hgB hrow hcells9 hU9 hR9 hb9 hg09 d0 d1 d1A hgrow HV8 hgA
     have kU:=gr_set wA U 1 (.slice aoA (acc.length+1) capA)
     have hUB:=hUA.put1 (.slice aoA (acc.length+1) capA)
     have hRB:=hRA.kept kU (by simp; omega)
     have hbB:=hbA.kept kU (by simp; omega)
     have hgB0:=gr_own hgA0 kU (Nat.le_of_lt hU0)
     have hcellsB:=VCsCells.row kU (RowOk.one2 hUA (Nat.zero_le _)) (by decide) acc xs hcellsA
     have hownB:=own_row hown kU (RowOk.one2 hUA (Nat.zero_le _)) (by decide)
     have hJ8B:Hid (bd8=false→∃ c:Sv.Cond,Sv.cond s.data.toList p=.inr (c,j8)∧(c.kind:Int)=kd∧VTsAt w.heap.size (.slice ao8 n8 cap8) c.terms (wA.setCell ⟨U,1,none⟩ (.slice aoA (acc.length+1) capA))):=by
      intro hbd
      obtain ⟨c,h1,h2,h3⟩:=unhide hJ8 hbd
      exact ⟨c,h1,h2,h3.row kU (RowOk.one2 hUA (Nat.zero_le _)) (by decide)⟩
     have a1:=hUA.c.2
     have az:=hUA.fz 1
     clear hRA hbA hgA0 hcellsA hown kU hJ8
     go_wp2_with fail
     refine (vblanks_any b s j8 bd8 _ hj8 hs hbB).mono ?_
     rintro e wC ⟨rfl,hbC,hgC⟩
     have hUC:=hUB.row hgC hbB.rowOk (by decide)
     have hRC:=hRB.row hgC hbB.rowOk (by decide)
     have hgC0:=gr_trans hgB0 hgC
     have hcellsC:=VCsCells.row hgC hbB.rowOk (by decide) acc xs hcellsB
     have hownC:=own_row hownB hgC hbB.rowOk (by decide)
     have hJ8C:Hid (bd8=false→∃ c:Sv.Cond,Sv.cond s.data.toList p=.inr (c,j8)∧(c.kind:Int)=kd∧VTsAt w.heap.size (.slice ao8 n8 cap8) c.terms wC):=by
      intro hbd
      obtain ⟨c,h1,h2,h3⟩:=unhide hJ8B hbd
      exact ⟨c,h1,h2,h3.row hgC hbB.rowOk (by decide)⟩
     clear hUA hUB hRB hbB hgB0 hcellsB hownB hgC hJ8B a1 az
     obtain ⟨pp,hpp⟩:∃ pp,(if bd8=true then j8 else Sv.sk s.data.toList j8)=pp:=⟨_,rfl⟩
     rw [hpp] at hbC
     have hpps:pp≤s.size∧(bd8=false→p < pp):=by
      have h1:=Sv.sk_le s.data.toList j8 (by rw [size_list]; exact hj8)
      rw [size_list] at h1
      rw [←hpp]
      cases bd8
      ·rw [if_neg (by simp)]; exact ⟨h1.2,fun _=>by have:=hj8p rfl; omega⟩
      ·rw [if_pos rfl]; exact ⟨hj8,fun h=>by cases h⟩
     obtain ⟨hpps,hppp⟩:=hpps
     obtain ⟨ch,hch⟩:∃ ch,(if bd8=true then (0:UInt8) else Sv.pk s.data.toList pp)=ch:=⟨_,rfl⟩
     have HPP:=hide hpp
     have HCH:=hide hch
     clear hpp hch
     have HPB:=hide hppp
     have HPJ:=hide hj8p
     clear hppp hj8p
     have hher:=fun n=>vhere_any b s pp bd8 (wC.drewN n) hpps hs (hbC.drewN n)
     rw [unhide HCH] at hher
     have hCC:Hid (bd8=false→∃ c:Sv.Cond,VCsAt w.heap.size (.slice aoA (acc.length+1) capA) (acc ++ [⟨false,c.kind,c.terms⟩]) wC∧Sv.cond s.data.toList p=.inr (c,j8)):=by
      intro hbd
      obtain ⟨c,h1,h2,h3⟩:=unhide hJ8C hbd
      refine ⟨c,⟨_,by rw [List.length_append]; exact hownC,?_⟩,h1⟩
      have h4:=VCsCells.snoc (⟨false,c.kind,c.terms⟩:Sv.Cond) (.slice ao8 n8 cap8) h3 acc xs hcellsC
      have h5:((c.kind:Nat):Int)=kd:=h2
      show VCsCells w.heap.size wC _ (xs ++ [.bool false,.int .i64 kd,.slice ao8 n8 cap8])
      rw [←h5]
      exact h4
     clear hcellsC hownC hJ8C
     have c1:=hbC.c1
     have f1:=hbC.fz 1
     have c2:=hbC.c2
     have f2:=hbC.fz 2
     cases h59:ch == 59
     ·have e59:=(u8_59 ch).trans h59
      have HXN:Hid (bd8=false→∃ c:Sv.Cond,VCsAt w.heap.size (.slice aoA (acc.length+1) capA) (acc ++ [⟨false,c.kind,c.terms⟩]) wC∧(match Sv.hdF (m - 1) s.data.toList (acc ++ [⟨false,c.kind,c.terms⟩]) pp with
        | .inl m=>.inl m
        | .inr (cs,m)=>.inr (⟨Sv.cut s.data.toList i (Sv.nmF 8 s.data.toList i),cs⟩,m))=r):=by
       intro hbd
       obtain ⟨c,h1,h2⟩:=unhide hCC hbd
       refine ⟨c,h1,?_⟩
       have h3:=unhide HX
       unfold Sv.hdF at h3
       rw [unhide HNG,if_neg (by simp),h2] at h3
       have h4:=unhide HPP
       rw [hbd,if_neg (by simp)] at h4
       have h5:=unhide HCH
       rw [hbd,if_neg (by simp)] at h5
       have h6:=unhide HPJ hbd
       obtain ⟨m2,rfl⟩:∃ m2,m=m2+1:=⟨m - 1,by omega⟩
       rw [←h4,Nat.add_sub_cancel,←Sv.hd_next m2 _ _ _ (by simp) (by rw [h4,h5]; exact h59)]
       exact h3
      cases h33b:ch == 33
      ·have e33b:((ch.toNat:Int) != 33)=true:=u8_ne ch 33 h33b
       cases h40:ch == 40
       ·have e40:((ch.toNat:Int) != 40)=true:=u8_ne ch 40 h40
        have HIN:Hid (r=.inl pp):=by
         cases hbd:bd8
         ·obtain ⟨c,_,h2⟩:=unhide HXN hbd
          have h4:=unhide HPP
          rw [hbd,if_neg (by simp)] at h4
          have h5:=unhide HCH
          rw [hbd,if_neg (by simp)] at h5
          rw [Sv.hd_none _ _ _ _ (by rw [←h4]; exact Sv.sk_sk _ _) (by rw [h5]; exact h33b) (by rw [h5]; exact h40)] at h2
          exact h2.symm
         ·have h3:=unhide HX
          unfold Sv.hdF at h3
          rw [unhide HNG,if_neg (by simp),unhide hJ9 hbd] at h3
          have h4:=unhide HPP
          rw [hbd,if_pos rfl] at h4
          rw [←h4]
          exact h3.symm
        go_wp2_with (go_at_call 148; refine (by first | exact hher _ | exact hher 0:Calls _ _ _ _ _).mono ?_; rintro e w9 ⟨rfl,n9,rfl⟩)
        go_roundw
        case rel=>exact ⟨pp,nm,_,true,(hbC.drewN _).set2 true,hpps,(hUC.drewN _).kept (gr_set _ b 2 _) (by simp; omega),(hRC.drewN _).kept (gr_set _ b 2 _) (by simp; omega),gr_trans (gr_trans hgC0 (gr_drewN wC _ _)) (gr_set _ b 2 _),.inl ⟨rfl,unhide HIN,_,_,_,rfl⟩⟩
        case measure=>
         refine Nat.lt_of_le_of_lt (Nat.le_of_eq (((hbC.drewN _).set2 true).ms s.size)) ?_
         rw [unhide HM]; simp
       ·have e40:((ch.toNat:Int) != 40)=false:=u8_eq ch 40 h40
        have hbd:bd8=false:=by
         cases hbd:bd8
         ·rfl
         ·have h5:=unhide HCH
          rw [hbd,if_pos rfl] at h5
          rw [←h5] at h40
          exact absurd h40 (by decide)
        subst hbd
        have HXN2:=hide (unhide HXN rfl)
        have HPB2:=hide (unhide HPB rfl)
        go_wp2_with (go_at_call 148; refine (by first | exact hher _ | exact hher 0:Calls _ _ _ _ _).mono ?_; rintro e w9 ⟨rfl,n9,rfl⟩)
        go_roundw
        case rel=>
         obtain ⟨c,h1,h2⟩:=unhide HXN2
         have h4:=unhide HPP
         rw [if_neg (by simp)] at h4
         have h6:=unhide HPB2
         exact ⟨pp,nm,_,false,hbC.drewN _,hpps,hUC.drewN _,hRC.drewN _,gr_trans hgC0 (gr_drewN wC _ _),.inr ⟨rfl,m - 1,_,by omega,by simp; omega,by rw [←h4]; exact Sv.sk_sk _ _,h1.row (gr_drewN wC _ none) (RowOk.none 0 0 _) (by decide) (by decide),unhide HNM,h2⟩⟩
        case measure=>
         refine Nat.lt_of_le_of_lt (Nat.le_of_eq ((hbC.drewN _).ms s.size)) ?_
         have h6:=unhide HPB2
         rw [unhide HM]; simp; omega
      ·have e33b:((ch.toNat:Int) != 33)=false:=u8_eq ch 33 h33b
       have hbd:bd8=false:=by
        cases hbd:bd8
        ·rfl
        ·have h5:=unhide HCH
         rw [hbd,if_pos rfl] at h5
         rw [←h5] at h33b
         exact absurd h33b (by decide)
       subst hbd
       have HXN2:=hide (unhide HXN rfl)
       have HPB2:=hide (unhide HPB rfl)
       go_wp2_with (go_at_call 148; refine (by first | exact hher _ | exact hher 0:Calls _ _ _ _ _).mono ?_; rintro e w9 ⟨rfl,n9,rfl⟩)
       go_roundw
       case rel=>
        obtain ⟨c,h1,h2⟩:=unhide HXN2
        have h4:=unhide HPP
        rw [if_neg (by simp)] at h4
        have h6:=unhide HPB2
        exact ⟨pp,nm,_,false,hbC.drewN _,hpps,hUC.drewN _,hRC.drewN _,gr_trans hgC0 (gr_drewN wC _ _),.inr ⟨rfl,m - 1,_,by omega,by simp; omega,by rw [←h4]; exact Sv.sk_sk _ _,h1.row (gr_drewN wC _ none) (RowOk.none 0 0 _) (by decide) (by decide),unhide HNM,h2⟩⟩
       case measure=>
        refine Nat.lt_of_le_of_lt (Nat.le_of_eq ((hbC.drewN _).ms s.size)) ?_
        have h6:=unhide HPB2
        rw [unhide HM]; simp; omega
     ·have e59:=(u8_59 ch).trans h59
      have hbd:bd8=false:=by
       cases hbd:bd8
       ·rfl
       ·have h5:=unhide HCH
        rw [hbd,if_pos rfl] at h5
        rw [←h5] at h59
        exact absurd h59 (by decide)
      subst hbd
      have h5:=unhide HCH
      rw [if_neg (by simp)] at h5
      have h4:=unhide HPP
      rw [if_neg (by simp)] at h4
      have hp59:=Sv.byte_pos s.data.toList pp 59 (by decide) (by rw [h5]; exact h59)
      rw [size_list] at hp59
      obtain ⟨c,hc1,hc2⟩:=unhide hCC rfl
      have hr:r=.inr (⟨Sv.cut s.data.toList i (Sv.nmF 8 s.data.toList i),acc ++ [⟨false,c.kind,c.terms⟩]⟩,pp+1):=by
       have h3:=unhide HX
       unfold Sv.hdF at h3
       rw [unhide HNG,if_neg (by simp),hc2] at h3
       have h6:=unhide HPJ rfl
       obtain ⟨m2,rfl⟩:∃ m2,m=m2+1:=⟨m - 1,by omega⟩
       simp only at h3
       rw [Sv.cdF_step,h4,h5,h59,if_pos rfl] at h3
       exact h3.symm
      subst hr
      have HNMo:=unhide HNM
      subst HNMo
      clear h4 h5 hCC hc2 HX HNM
      have kk:=fun n=>gr_set (wC.drewN n) b 1 (.int .i64 ((pp:Int)+1))
      have hb2:=fun n=>(hbC.drewN n).set1 (pp+1)
      have hU3:=fun n=>(hUC.drewN n).kept (kk n) (by simp; omega)
      have hR3:=fun n=>(hRC.drewN n).kept (kk n) (by simp; omega)
      have e0:=fun n=>(hU3 n).c.1
      have e1:=fun n=>(hU3 n).c.2
      have g0:=fun n=>(hR3 n).c.1
      have g1:=fun n=>(hR3 n).c.2
      have y0:=fun n=>(hR3 n).fz 0
      have y1:=fun n=>(hR3 n).fz 1
      generalize hcut:Sv.cut s.data.toList i (Sv.nmF 8 s.data.toList i)=nmL at *
      go_wp2_with (go_at_call 148; refine (by first | exact hher _ | exact hher 0:Calls _ _ _ _ _).mono ?_; rintro e w9 ⟨rfl,n9,rfl⟩)
      have k3:=fun n=>gr_set2 ((wC.drewN n).setCell ⟨b,1,none⟩ (.int .i64 ((pp:Int)+1))) w.heap.size (.string ⟨nmL.toArray⟩) (.slice aoA (acc.length+1) capA)
      have g01:=fun n=>((hR3 n).set2 (.string ⟨nmL.toArray⟩) (.slice aoA (acc.length+1) capA)).c
      exact bodyPost_ret (v:=.agg #[.string ⟨nmL.toArray⟩,.slice aoA (acc.length+1) capA]) (by simp [results,Tryz.results118,go_sem,g01]) rfl ⟨_,by subst hcut; rfl,((hc1.row (gr_drewN wC _ none) (RowOk.none 0 0 _) (by decide) (by decide)).row (kk _) (hbC.drewN _).rowOk (by decide) (by decide)).row (k3 _) (RowOk.one2 (hR3 _) (Nat.le_refl _)) (by decide) (by decide),(hb2 _).kept (k3 _) (by simp; omega),gr_own (gr_trans (gr_trans hgC0 (gr_drewN wC _ _)) (kk _)) (k3 _) (Nat.le_refl _)⟩
    ·have HNG:Hid ((Sv.pk s.data.toList p == 33 && decide (0 < acc.length))=true):=by show (_ && _)=true; rw [h33,hl0]; rfl
     have e33:=(u8_33 (Sv.pk s.data.toList p)).trans h33
     have hl2:0 < acc.length:=by simpa using hl0
     obtain ⟨L,hlen⟩:∃ L,acc.length=L+1:=⟨acc.length - 1,by omega⟩
     clear hl2
     rw [hlen] at d1
     have HLEN:=hide hlen
     clear hlen hl0
     have hp1:=Sv.byte_pos _ _ 33 (by decide) h33
     rw [size_list] at hp1
     obtain ⟨x,hx⟩:∃ x,Sv.sk s.data.toList (p+1)=x:=⟨_,rfl⟩
     have hxl:=Sv.sk_le s.data.toList (p+1) (by rw [size_list]; exact hp1)
     rw [size_list,hx] at hxl
     obtain ⟨hpx,hxs⟩:=hxl
     have HCQ:Hid (Sv.cond s.data.toList (p+1)=Sv.cond s.data.toList x):=by show Sv.cond _ (p+1)=_; rw [←hx,Sv.cond_sk]
     have hskx:Sv.sk s.data.toList x=x:=by rw [←hx]; exact Sv.sk_sk _ _
     have HXE:=hide hx
     clear hx
     go_wp2_with (go_at_call 148; refine (vhere_w b s p _ hp hs hbk).mono ?_; rintro e w7 ⟨rfl,n7,rfl⟩)
     have kk:=gr_set (wr.drewN n7) b 1 (.int .i64 ((p:Int)+1))
     have hbV:VAt b s (p+1) false ((wr.drewN n7).setCell ⟨b,1,none⟩ (.int .i64 ((p:Int)+1))):=(hbk.drewN n7).set1 (p+1)
     have hUV:=(hU.drewN n7).kept kk (by simp; omega)
     have hRV:=(hRr.drewN n7).kept kk (by simp; omega)
     have hgV:=gr_trans (gr_trans hg (gr_drewN wr n7 _)) kk
     have hcsV:=(hcs.row (gr_drewN wr n7 none) (RowOk.none 0 0 _) (by decide) (by decide)).row kk (hbk.drewN n7).rowOk (by decide) (by decide)
     refine (vblanks_w b s (p+1) _ hp1 hs hbV).mono ?_
     rintro e wW ⟨rfl,hbW,hgw⟩
     rw [unhide HXE] at hbW
     have hUW:=hUV.row hgw hbV.rowOk (by decide)
     have hRW:=hRV.row hgw hbV.rowOk (by decide)
     have hgW:=gr_trans hgV hgw
     have hcsW:=hcsV.row hgw hbV.rowOk (by decide) (by decide)
     clear hbk hU hRr hg hcs c1 c2 f1 d0 d1 hbV hUV hRV hgV hcsV hgw kk
     go_wp2_with fail
     refine (vcond_any b s x true _ hxs hs hskx hbW).mono ?_
     rintro e w8 ⟨kd,ao8,n8,cap8,j8,bd8,rfl,hb8,hg8,HV8⟩
     have hcs8:=hcsW.row hg8 hbW.rowOk (by decide) (by decide)
     have hU8:=hUW.row hg8 hbW.rowOk (by decide)
     have hR8:=hRW.row hg8 hbW.rowOk (by decide)
     have hg08:=gr_trans hgW hg8
     obtain ⟨xs,hown8,hcells8⟩:=hcs8
     have hsz8:=hg08.size
     have hszW:=hgW.size
     clear hcsW hUW hRW hgW hbW hg8
     have hgA:=World.grownBy_alloc w8 (.cells #[.bool true,.int .i64 kd,.slice ao8 n8 cap8] 166) none
     have hgB:=gr_trans hgA (World.grownBy_alloc (w8.alloc (.cells #[.bool true,.int .i64 kd,.slice ao8 n8 cap8] 166)) (.cells #[.bool true,.int .i64 kd,.slice ao8 n8 cap8] 166) none)
     have hrow:=RowOk.of ((hown8.alloc (.cells #[.bool true,.int .i64 kd,.slice ao8 n8 cap8] 166)).alloc (.cells #[.bool true,.int .i64 kd,.slice ao8 n8 cap8] 166))
     have hcells9:=VCsCells.row hgB (RowOk.none 0 0 w8) (by decide) acc xs hcells8
     have hU9:=hU8.kept hgB (by simp)
     have hR9:=hR8.kept hgB (by simp)
     have hb9:=hb8.kept hgB (by simp)
     have hg09:=gr_trans hg08 (gr_any hgB (some b))
     obtain ⟨d0,d1⟩:=hU8.c
     have d1A:=(hU8.kept hgA (by simp)).c.2
     go_wp2_with (at_builtin; refine wpList_append_own _ rfl _ _ 161 rfl w.heap.size 166 i0 (.agg #[.bool false,.int .i64 0,.slice none 0 0]) 3 40 Tryz.underlying161 hinf hz0 hz1 hz2 rfl (by decide) _ acc.length xs rfl ((hown8.alloc _).alloc _) ⟨w8.heap.size+1,0,none⟩ 1 1 [.bool true,.int .i64 kd,.slice ao8 n8 cap8] rfl rfl ?c1 ?c2 ?c3 ?c4 ?c5 ?_)
     case c1=>
      intro jj u hu
      match jj,hu with
      | 0,hu=>simp at hu; subst hu; simp [Addr.add]
      | 1,hu=>simp at hu; subst hu; simp [Addr.add]
      | 2,hu=>simp at hu; subst hu; simp [Addr.add]
      | n+3,hu=>simp at hu
     case c2=>
      intro u hu
      simp at hu
      rcases hu with rfl | rfl | rfl<;>rfl
     case c3=>unfold maxLen; omega
     case c4=>omega
     case c5=>simp; omega
     intro v' wA hown hgrow _
     have hUA:=hU9.row hgrow hrow (by decide)
     have hRA:=hR9.row hgrow hrow (by decide)
     have hbA:=hb9.row hgrow hrow (by decide)
     have hgA0:=gr_owns hg09 hgrow hrow
     have hcellsA:=VCsCells.row hgrow hrow (by decide) acc xs hcells9
     obtain ⟨aoA,capA,rfl⟩:∃ ao cap,v'=.slice ao (acc.length+1) cap:=by
      rcases hown.2 with ⟨h1,h2⟩ | ⟨g,cap,cur,h1,_⟩
      ·omega
      ·exact ⟨_,_,h1⟩
     have hJ8:Hid (bd8=false→∃ c:Sv.Cond,Sv.cond s.data.toList x=.inr (c,j8)∧(c.kind:Int)=kd∧VTsAt w.heap.size (.slice ao8 n8 cap8) c.terms wA):=by
      intro hbd
      rcases unhide HV8 with ⟨h1,_⟩ | ⟨_,c,h1,h2,h3⟩
      ·rw [hbd] at h1; cases h1
      ·exact ⟨c,h1,h2,own_weak ((VTsAt.row h3 hgB (RowOk.none 0 0 w8) (by decide)).row hgrow hrow (by decide)) hszW⟩
     have hJ9:Hid (bd8=true→Sv.cond s.data.toList x=.inl j8):=by
      intro hbd
      rcases unhide HV8 with ⟨_,h1⟩ | ⟨h1,_⟩
      ·exact h1
      ·rw [hbd] at h1; cases h1
     have hj8:j8≤s.size∧(bd8=false→p < j8):=by
      have hok:=Sv.cond_ok s.data.toList x (by rw [size_list]; exact hxs)
      rcases unhide HV8 with ⟨h1,h2⟩ | ⟨h1,c,h2,_⟩
      ·rw [h2] at hok; have h3:j8≤s.data.toList.length:=hok; rw [size_list] at h3; exact ⟨h3,fun h=>by rw [h1] at h; cases h⟩
      ·rw [h2] at hok; obtain ⟨h3,h4⟩:x < j8∧j8≤s.data.toList.length:=hok; rw [size_list] at h4; exact ⟨h4,fun _=>by omega⟩
     obtain ⟨hj8,hj8p⟩:=hj8
     clear hU8 hR8 hb8 hg08 hown8 hcells8 hgB hrow hcells9 hU9 hR9 hb9 hg09 d0 d1 d1A hgrow HV8 hgA
     have kU:=gr_set wA U 1 (.slice aoA (acc.length+1) capA)
     have hUB:=hUA.put1 (.slice aoA (acc.length+1) capA)
     have hRB:=hRA.kept kU (by simp; omega)
     have hbB:=hbA.kept kU (by simp; omega)
     have hgB0:=gr_own hgA0 kU (Nat.le_of_lt hU0)
     have hcellsB:=VCsCells.row kU (RowOk.one2 hUA (Nat.zero_le _)) (by decide) acc xs hcellsA
     have hownB:=own_row hown kU (RowOk.one2 hUA (Nat.zero_le _)) (by decide)
     have hJ8B:Hid (bd8=false→∃ c:Sv.Cond,Sv.cond s.data.toList x=.inr (c,j8)∧(c.kind:Int)=kd∧VTsAt w.heap.size (.slice ao8 n8 cap8) c.terms (wA.setCell ⟨U,1,none⟩ (.slice aoA (acc.length+1) capA))):=by
      intro hbd
      obtain ⟨c,h1,h2,h3⟩:=unhide hJ8 hbd
      exact ⟨c,h1,h2,h3.row kU (RowOk.one2 hUA (Nat.zero_le _)) (by decide)⟩
     have a1:=hUA.c.2
     have az:=hUA.fz 1
     clear hRA hbA hgA0 hcellsA hown kU hJ8
     go_wp2_with fail
     refine (vblanks_any b s j8 bd8 _ hj8 hs hbB).mono ?_
     rintro e wC ⟨rfl,hbC,hgC⟩
     have hUC:=hUB.row hgC hbB.rowOk (by decide)
     have hRC:=hRB.row hgC hbB.rowOk (by decide)
     have hgC0:=gr_trans hgB0 hgC
     have hcellsC:=VCsCells.row hgC hbB.rowOk (by decide) acc xs hcellsB
     have hownC:=own_row hownB hgC hbB.rowOk (by decide)
     have hJ8C:Hid (bd8=false→∃ c:Sv.Cond,Sv.cond s.data.toList x=.inr (c,j8)∧(c.kind:Int)=kd∧VTsAt w.heap.size (.slice ao8 n8 cap8) c.terms wC):=by
      intro hbd
      obtain ⟨c,h1,h2,h3⟩:=unhide hJ8B hbd
      exact ⟨c,h1,h2,h3.row hgC hbB.rowOk (by decide)⟩
     clear hUA hUB hRB hbB hgB0 hcellsB hownB hgC hJ8B a1 az
     obtain ⟨pp,hpp⟩:∃ pp,(if bd8=true then j8 else Sv.sk s.data.toList j8)=pp:=⟨_,rfl⟩
     rw [hpp] at hbC
     have hpps:pp≤s.size∧(bd8=false→p < pp):=by
      have h1:=Sv.sk_le s.data.toList j8 (by rw [size_list]; exact hj8)
      rw [size_list] at h1
      rw [←hpp]
      cases bd8
      ·rw [if_neg (by simp)]; exact ⟨h1.2,fun _=>by have:=hj8p rfl; omega⟩
      ·rw [if_pos rfl]; exact ⟨hj8,fun h=>by cases h⟩
     obtain ⟨hpps,hppp⟩:=hpps
     obtain ⟨ch,hch⟩:∃ ch,(if bd8=true then (0:UInt8) else Sv.pk s.data.toList pp)=ch:=⟨_,rfl⟩
     have HPP:=hide hpp
     have HCH:=hide hch
     clear hpp hch
     have HPB:=hide hppp
     have HPJ:=hide hj8p
     clear hppp hj8p
     have hher:=fun n=>vhere_any b s pp bd8 (wC.drewN n) hpps hs (hbC.drewN n)
     rw [unhide HCH] at hher
     have hCC:Hid (bd8=false→∃ c:Sv.Cond,VCsAt w.heap.size (.slice aoA (acc.length+1) capA) (acc ++ [⟨true,c.kind,c.terms⟩]) wC∧Sv.cond s.data.toList x=.inr (c,j8)):=by
      intro hbd
      obtain ⟨c,h1,h2,h3⟩:=unhide hJ8C hbd
      refine ⟨c,⟨_,by rw [List.length_append]; exact hownC,?_⟩,h1⟩
      have h4:=VCsCells.snoc (⟨true,c.kind,c.terms⟩:Sv.Cond) (.slice ao8 n8 cap8) h3 acc xs hcellsC
      have h5:((c.kind:Nat):Int)=kd:=h2
      show VCsCells w.heap.size wC _ (xs ++ [.bool true,.int .i64 kd,.slice ao8 n8 cap8])
      rw [←h5]
      exact h4
     clear hcellsC hownC hJ8C
     have c1:=hbC.c1
     have f1:=hbC.fz 1
     have c2:=hbC.c2
     have f2:=hbC.fz 2
     cases h59:ch == 59
     ·have e59:=(u8_59 ch).trans h59
      have HXN:Hid (bd8=false→∃ c:Sv.Cond,VCsAt w.heap.size (.slice aoA (acc.length+1) capA) (acc ++ [⟨true,c.kind,c.terms⟩]) wC∧(match Sv.hdF (m - 1) s.data.toList (acc ++ [⟨true,c.kind,c.terms⟩]) pp with
        | .inl m=>.inl m
        | .inr (cs,m)=>.inr (⟨Sv.cut s.data.toList i (Sv.nmF 8 s.data.toList i),cs⟩,m))=r):=by
       intro hbd
       obtain ⟨c,h1,h2⟩:=unhide hCC hbd
       refine ⟨c,h1,?_⟩
       have h3:=unhide HX
       unfold Sv.hdF at h3
       rw [unhide HNG,if_pos rfl,unhide HCQ,h2] at h3
       have h4:=unhide HPP
       rw [hbd,if_neg (by simp)] at h4
       have h5:=unhide HCH
       rw [hbd,if_neg (by simp)] at h5
       have h6:=unhide HPJ hbd
       obtain ⟨m2,rfl⟩:∃ m2,m=m2+1:=⟨m - 1,by omega⟩
       rw [←h4,Nat.add_sub_cancel,←Sv.hd_next m2 _ _ _ (by simp) (by rw [h4,h5]; exact h59)]
       exact h3
      cases h33b:ch == 33
      ·have e33b:((ch.toNat:Int) != 33)=true:=u8_ne ch 33 h33b
       cases h40:ch == 40
       ·have e40:((ch.toNat:Int) != 40)=true:=u8_ne ch 40 h40
        have HIN:Hid (r=.inl pp):=by
         cases hbd:bd8
         ·obtain ⟨c,_,h2⟩:=unhide HXN hbd
          have h4:=unhide HPP
          rw [hbd,if_neg (by simp)] at h4
          have h5:=unhide HCH
          rw [hbd,if_neg (by simp)] at h5
          rw [Sv.hd_none _ _ _ _ (by rw [←h4]; exact Sv.sk_sk _ _) (by rw [h5]; exact h33b) (by rw [h5]; exact h40)] at h2
          exact h2.symm
         ·have h3:=unhide HX
          unfold Sv.hdF at h3
          rw [unhide HNG,if_pos rfl,unhide HCQ,unhide hJ9 hbd] at h3
          have h4:=unhide HPP
          rw [hbd,if_pos rfl] at h4
          rw [←h4]
          exact h3.symm
        go_wp2_with (go_at_call 148; refine (by first | exact hher _ | exact hher 0:Calls _ _ _ _ _).mono ?_; rintro e w9 ⟨rfl,n9,rfl⟩)
        go_roundw
        case rel=>exact ⟨pp,nm,_,true,(hbC.drewN _).set2 true,hpps,(hUC.drewN _).kept (gr_set _ b 2 _) (by simp; omega),(hRC.drewN _).kept (gr_set _ b 2 _) (by simp; omega),gr_trans (gr_trans hgC0 (gr_drewN wC _ _)) (gr_set _ b 2 _),.inl ⟨rfl,unhide HIN,_,_,_,rfl⟩⟩
        case measure=>
         refine Nat.lt_of_le_of_lt (Nat.le_of_eq (((hbC.drewN _).set2 true).ms s.size)) ?_
         rw [unhide HM]; simp
       ·have e40:((ch.toNat:Int) != 40)=false:=u8_eq ch 40 h40
        have hbd:bd8=false:=by
         cases hbd:bd8
         ·rfl
         ·have h5:=unhide HCH
          rw [hbd,if_pos rfl] at h5
          rw [←h5] at h40
          exact absurd h40 (by decide)
        subst hbd
        have HXN2:=hide (unhide HXN rfl)
        have HPB2:=hide (unhide HPB rfl)
        go_wp2_with (go_at_call 148; refine (by first | exact hher _ | exact hher 0:Calls _ _ _ _ _).mono ?_; rintro e w9 ⟨rfl,n9,rfl⟩)
        go_roundw
        case rel=>
         obtain ⟨c,h1,h2⟩:=unhide HXN2
         have h4:=unhide HPP
         rw [if_neg (by simp)] at h4
         have h6:=unhide HPB2
         exact ⟨pp,nm,_,false,hbC.drewN _,hpps,hUC.drewN _,hRC.drewN _,gr_trans hgC0 (gr_drewN wC _ _),.inr ⟨rfl,m - 1,_,by omega,by simp; omega,by rw [←h4]; exact Sv.sk_sk _ _,h1.row (gr_drewN wC _ none) (RowOk.none 0 0 _) (by decide) (by decide),unhide HNM,h2⟩⟩
        case measure=>
         refine Nat.lt_of_le_of_lt (Nat.le_of_eq ((hbC.drewN _).ms s.size)) ?_
         have h6:=unhide HPB2
         rw [unhide HM]; simp; omega
      ·have e33b:((ch.toNat:Int) != 33)=false:=u8_eq ch 33 h33b
       have hbd:bd8=false:=by
        cases hbd:bd8
        ·rfl
        ·have h5:=unhide HCH
         rw [hbd,if_pos rfl] at h5
         rw [←h5] at h33b
         exact absurd h33b (by decide)
       subst hbd
       have HXN2:=hide (unhide HXN rfl)
       have HPB2:=hide (unhide HPB rfl)
       go_wp2_with (go_at_call 148; refine (by first | exact hher _ | exact hher 0:Calls _ _ _ _ _).mono ?_; rintro e w9 ⟨rfl,n9,rfl⟩)
       go_roundw
       case rel=>
        obtain ⟨c,h1,h2⟩:=unhide HXN2
        have h4:=unhide HPP
        rw [if_neg (by simp)] at h4
        have h6:=unhide HPB2
        exact ⟨pp,nm,_,false,hbC.drewN _,hpps,hUC.drewN _,hRC.drewN _,gr_trans hgC0 (gr_drewN wC _ _),.inr ⟨rfl,m - 1,_,by omega,by simp; omega,by rw [←h4]; exact Sv.sk_sk _ _,h1.row (gr_drewN wC _ none) (RowOk.none 0 0 _) (by decide) (by decide),unhide HNM,h2⟩⟩
       case measure=>
        refine Nat.lt_of_le_of_lt (Nat.le_of_eq ((hbC.drewN _).ms s.size)) ?_
        have h6:=unhide HPB2
        rw [unhide HM]; simp; omega
     ·have e59:=(u8_59 ch).trans h59
      have hbd:bd8=false:=by
       cases hbd:bd8
       ·rfl
       ·have h5:=unhide HCH
        rw [hbd,if_pos rfl] at h5
        rw [←h5] at h59
        exact absurd h59 (by decide)
      subst hbd
      have h5:=unhide HCH
      rw [if_neg (by simp)] at h5
      have h4:=unhide HPP
      rw [if_neg (by simp)] at h4
      have hp59:=Sv.byte_pos s.data.toList pp 59 (by decide) (by rw [h5]; exact h59)
      rw [size_list] at hp59
      obtain ⟨c,hc1,hc2⟩:=unhide hCC rfl
      have hr:r=.inr (⟨Sv.cut s.data.toList i (Sv.nmF 8 s.data.toList i),acc ++ [⟨true,c.kind,c.terms⟩]⟩,pp+1):=by
       have h3:=unhide HX
       unfold Sv.hdF at h3
       rw [unhide HNG,if_pos rfl,unhide HCQ,hc2] at h3
       have h6:=unhide HPJ rfl
       obtain ⟨m2,rfl⟩:∃ m2,m=m2+1:=⟨m - 1,by omega⟩
       simp only at h3
       rw [Sv.cdF_step,h4,h5,h59,if_pos rfl] at h3
       exact h3.symm
      subst hr
      have HNMo:=unhide HNM
      subst HNMo
      clear h4 h5 hCC hc2 HX HNM
      have kk:=fun n=>gr_set (wC.drewN n) b 1 (.int .i64 ((pp:Int)+1))
      have hb2:=fun n=>(hbC.drewN n).set1 (pp+1)
      have hU3:=fun n=>(hUC.drewN n).kept (kk n) (by simp; omega)
      have hR3:=fun n=>(hRC.drewN n).kept (kk n) (by simp; omega)
      have e0:=fun n=>(hU3 n).c.1
      have e1:=fun n=>(hU3 n).c.2
      have g0:=fun n=>(hR3 n).c.1
      have g1:=fun n=>(hR3 n).c.2
      have y0:=fun n=>(hR3 n).fz 0
      have y1:=fun n=>(hR3 n).fz 1
      generalize hcut:Sv.cut s.data.toList i (Sv.nmF 8 s.data.toList i)=nmL at *
      go_wp2_with (go_at_call 148; refine (by first | exact hher _ | exact hher 0:Calls _ _ _ _ _).mono ?_; rintro e w9 ⟨rfl,n9,rfl⟩)
      have k3:=fun n=>gr_set2 ((wC.drewN n).setCell ⟨b,1,none⟩ (.int .i64 ((pp:Int)+1))) w.heap.size (.string ⟨nmL.toArray⟩) (.slice aoA (acc.length+1) capA)
      have g01:=fun n=>((hR3 n).set2 (.string ⟨nmL.toArray⟩) (.slice aoA (acc.length+1) capA)).c
      exact bodyPost_ret (v:=.agg #[.string ⟨nmL.toArray⟩,.slice aoA (acc.length+1) capA]) (by simp [results,Tryz.results118,go_sem,g01]) rfl ⟨_,by subst hcut; rfl,((hc1.row (gr_drewN wC _ none) (RowOk.none 0 0 _) (by decide) (by decide)).row (kk _) (hbC.drewN _).rowOk (by decide) (by decide)).row (k3 _) (RowOk.one2 (hR3 _) (Nat.le_refl _)) (by decide) (by decide),(hb2 _).kept (k3 _) (by simp; omega),gr_own (gr_trans (gr_trans hgC0 (gr_drewN wC _ _)) (kk _)) (k3 _) (Nat.le_refl _)⟩
end Go.Proofs.YtolhbeekfjnfmaaGreatDoor

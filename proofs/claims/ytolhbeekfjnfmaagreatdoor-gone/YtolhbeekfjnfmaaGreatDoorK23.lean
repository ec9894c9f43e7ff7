import Derived.Test.YtolhbeekfjnfmaaGreatDoorK22
import Derived.Test.YtolhbeekfjnfmaaGreatDoorK19
import Derived.Test.YtolhbeekfjnfmaaGreatDoorK17
namespace Go.Proofs.YtolhbeekfjnfmaaGreatDoor
open Go.RowKit
theorem tRow_of {U:Nat→Nat} {base:Nat} {u:Value} {ts:List Sv.Term} {w:World} (hU:∀ i,base≤i→U i=1) (h:TsAt base u ts w):TRow U 1 258 3 tmenc u ts w:=by
 have h':RowAt 258 3 tmenc base u ts w:=⟨tmenc_len,h⟩
 exact ⟨h'.weak (Nat.zero_le _),fun g hg=>hU g (h'.own g hg).1⟩
theorem CsCells.get {B:Nat} {w:World}:∀ {cs:List Sv.Cond} {xs:List Value} {j:Nat} {c:Sv.Cond},CsCells B w cs xs→cs[j]?=some c→∃ u,xs[j * 3]?=some (.bool c.neg)∧xs[j * 3+1]?=some (.int .i64 c.kind)∧xs[j * 3+2]?=some u∧TsAt B u c.terms w
 | [],_,_,_,_,hj=>by simp at hj
 | c :: cs,xs,0,d,h,hj=>by
  obtain ⟨u,ys,rfl,h2,_⟩:=h
  simp only [List.getElem?_cons_zero,Option.some.injEq] at hj
  subst hj
  exact ⟨u,rfl,rfl,rfl,h2⟩
 | c :: cs,xs,j+1,d,h,hj=>by
  obtain ⟨u,ys,rfl,_,h3⟩:=h
  rw [List.getElem?_cons_succ] at hj
  obtain ⟨u',k1,k2,k3,k4⟩:=CsCells.get h3 hj
  refine ⟨u',?_,?_,?_,k4⟩
  ·rw [show (j+1) * 3=j * 3+1+1+1 by omega]; simpa using k1
  ·rw [show (j+1) * 3+1=j * 3+1+1+1+1 by omega]; simpa using k2
  ·rw [show (j+1) * 3+2=j * 3+2+1+1+1 by omega]; simpa using k3
theorem csIn_of {U:Nat→Nat} {base:Nat} {u:Value} {cs:List Sv.Cond} {w:World} (hU:∀ i,base≤i→U i=1) (h:CsAt base u cs w):CsIn U u cs w:=by
 obtain ⟨xs,h1,h2⟩:=h
 rcases h1.2 with ⟨rfl,h3⟩ | ⟨g,cap,cur,rfl,h4,h5,h6,h7,h8,h9⟩
 ·have:cs=[]:=List.length_eq_zero_iff.1 h3
  subst this
  exact ⟨none,0,rfl,Nat.le_refl _,by unfold maxLen; omega,fun h=>absurd rfl h⟩
 ·refine ⟨_,cap,rfl,h6,h7,fun _=>⟨g,0,rfl,hU g h4,row_lt h5,fun j c hj=>?_⟩⟩
  obtain ⟨v,k1,k2,k3,k4⟩:=h2.get hj
  obtain ⟨g',cap',e1,e2⟩:=own_cells h1 (List.getElem?_eq_some_iff.1 hj).1
  simp only [Value.slice.injEq,Option.some.injEq,Addr.mk.injEq,and_true,true_and] at e1
  obtain ⟨rfl,rfl⟩:=e1
  have q0:=e2 0 (by omega)
  have q1:=e2 1 (by omega)
  have q2:=e2 2 (by omega)
  rw [Nat.zero_add]
  exact ⟨v,by rw [Nat.add_zero] at q0; rw [q0,k1],by rw [q1,k2],by rw [q2,k3],tRow_of hU k4⟩
theorem RsCells.get {B:Nat} {w:World}:∀ {rs:List Sv.Rule} {xs:List Value} {j:Nat} {r:Sv.Rule},RsCells B w rs xs→rs[j]?=some r→∃ u,xs[j * 2]?=some (.string ⟨r.name.toArray⟩)∧xs[j * 2+1]?=some u∧CsAt B u r.conds w
 | [],_,_,_,_,hj=>by simp at hj
 | c :: cs,xs,0,d,h,hj=>by
  obtain ⟨u,ys,rfl,h2,_⟩:=h
  simp only [List.getElem?_cons_zero,Option.some.injEq] at hj
  subst hj
  exact ⟨u,rfl,rfl,h2⟩
 | c :: cs,xs,j+1,d,h,hj=>by
  obtain ⟨u,ys,rfl,_,h3⟩:=h
  rw [List.getElem?_cons_succ] at hj
  obtain ⟨u',k1,k2,k4⟩:=RsCells.get h3 hj
  refine ⟨u',?_,?_,k4⟩
  ·rw [show (j+1) * 2=j * 2+1+1 by omega]; simpa using k1
  ·rw [show (j+1) * 2+1=j * 2+1+1+1 by omega]; simpa using k2
theorem rsIn_of {U:Nat→Nat} {base:Nat} {u:Value} {rs:List Sv.Rule} {w:World} (hU:∀ i,base≤i→U i=1) (h:RsAt base u rs w):RsIn U u rs w:=by
 obtain ⟨xs,h1,h2⟩:=h
 rcases h1.2 with ⟨rfl,h3⟩ | ⟨g,cap,cur,rfl,h4,h5,h6,h7,h8,h9⟩
 ·have:rs=[]:=List.length_eq_zero_iff.1 h3
  subst this
  exact ⟨none,0,rfl,fun h=>absurd rfl h⟩
 ·refine ⟨_,cap,rfl,fun _=>⟨g,rfl,hU g h4,row_lt h5,fun j c hj=>?_⟩⟩
  obtain ⟨v,k1,k2,k4⟩:=h2.get hj
  obtain ⟨g',cap',e1,e2⟩:=own_cells h1 (List.getElem?_eq_some_iff.1 hj).1
  simp only [Value.slice.injEq,Option.some.injEq,Addr.mk.injEq,and_true,true_and] at e1
  obtain ⟨rfl,rfl⟩:=e1
  have q0:=e2 0 (by omega)
  have q1:=e2 1 (by omega)
  exact ⟨v,by rw [Nat.add_zero] at q0; rw [q0,k1],by rw [q1,k2],csIn_of hU k4⟩
def XNewPost (r:Nat ⊕ List Sv.Rule) (w:World) (e:Ending) (w':World):Prop:=
 w.grownBy w' none∧match r with
  | .inl k=>e=.returned (.tuple #[.pointer none,.int .i64 k])
  | .inr rs=>∃ x nb U,e=.returned (.tuple #[.pointer (some ⟨x,0,none⟩),.int .i64 0])∧w.heap.size≤x∧x < w'.heap.size∧nb < x∧w'.heap[x]?=some (.cells #[.pointer (some ⟨nb,0,none⟩),.slice none 0 0,.int .i64 0] 88 (0,0))∧(∃ w1,NetAt U nb (rs.map (fun r=>newCh r.conds)) w1∧w1.heap.size≤x∧w1.grownBy w' none)∧(∀ i,i < w.heap.size→U i=0)∧∀ i,w.heap.size≤i→U i=1∨4≤U i
set_option maxHeartbeats 1000000 in
theorem xNew_bad (s:ByteArray) (aT aL:Addr) (w:World) (hL:LD aT aL w) (hP:3 < w.heap.size) (hm:s.size≤maxLen) (n m:Nat) (hmm:(m=2∧n=0)∨m=1)
  (hp:∀ e w',ParsePost (.iface 345 (.pointer (some aT))) (.iface 345 (.pointer (some aL))) w s e w'→∃ g i,e=.returned (.tuple #[.slice none 0 0,.iface 112 (.pointer (some ⟨g,0,none⟩))])∧w.grownBy w' none∧((m=2∧FAt g i (.iface 345 (.pointer (some aL))) w')∨(m=1∧i=n∧FAt g i (.iface 345 (.pointer (some aT))) w'))) :
  Calls Tryz.prog 17 #[.string s] w fun e w'=>XNewPost (.inl m) w e w':=by
 go_enter Tryz.func17,Tryz.ntmps17
 go_wp2_with fail
 refine (parse_w s w _ aT _ aL hL.cT hL.cL hm).mono ?_
 intro e w1 hpost
 obtain ⟨g,i,rfl,hg1,hF⟩:=hp e w1 hpost
 clear hp hpost
 have hL1:=hL.kept hg1 hP
 rcases hF with ⟨rfl,hF⟩ | ⟨rfl,rfl,hF⟩
 ·obtain rfl:n=0:=by rcases hmm with h | h<;>omega
  clear hmm
  go_wp2_with fail
  refine (refusal_limit g i aT aL w1 hL1 hF).mono ?_
  rintro e w2 ⟨rfl,rfl⟩
  go_wp2
  go_ret2
  exact ⟨hg1,rfl⟩
 ·clear hmm
  go_wp2_with fail
  refine (refusal_text g i aT aL w1 hL1 hF).mono ?_
  rintro e w2 ⟨rfl,hg2⟩
  have hg3:=gr_trans hg1 hg2
  go_wp2
  go_ret2
  exact ⟨hg3,rfl⟩
set_option maxHeartbeats 1000000 in
theorem xNew_good (s:ByteArray) (aT aL:Addr) (w:World) (hL:LD aT aL w) (hm:s.size≤maxLen) (hs:¬ 400 < s.size) (rs:List Sv.Rule) (hr:Sv.rules s.data.toList=.inr rs) (hx:Sv.ex rs=false) (hok:Sv.RsOk rs) :
  Calls Tryz.prog 17 #[.string s] w fun e w'=>XNewPost (.inr rs) w e w':=by
 obtain ⟨U0,hU0⟩:∃ U0:Nat→Nat,U0=fun i=>if i < w.heap.size then 0 else 1:=⟨_,rfl⟩
 have u0:∀ i,i < w.heap.size→U0 i=0:=fun i hi=>by rw [hU0]; dsimp only; rw [if_pos hi]
 have u1:∀ i,w.heap.size≤i→U0 i=1:=fun i hi=>by rw [hU0]; dsimp only; rw [if_neg (by omega)]
 have HR:=hide hr
 have HX:=hide hx
 clear hr hx hU0
 go_enter Tryz.func17,Tryz.ntmps17
 go_wp2_with fail
 refine (parse_w s w _ aT _ aL hL.cT hL.cL hm).mono ?_
 rintro e w1 ⟨hg1,hpost⟩
 rw [if_neg hs,unhide HR] at hpost
 simp only at hpost
 rw [unhide HX,if_neg (by simp)] at hpost
 obtain ⟨u,rfl,hrs⟩:=hpost
 have hN:=nNew_w newChainOK U0 u rs w1 (fun i hi=>by by_cases h:i < w.heap.size; rw [u0 i h]; omega; rw [u1 i (by omega)]; omega) (rsIn_of u1 hrs) (fun r hr=>⟨hok.conds r hr,hok.terms r hr⟩) (by have:=hok.len; omega)
 obtain ⟨ao,cap,rfl⟩:=hrs.slice
 have hs1:=hg1.size
 have HOK:=hide hok
 clear hrs hok
 go_wp2_with (go_at_call 38; refine hN.mono ?_; rintro e w2 ⟨nb,U,rfl,hb,hNet,hg2,ho,hn⟩)
 go_ret2
 have hb2:nb < w2.heap.size:=by obtain ⟨cv,bs,k1,_⟩:=hNet; exact row_lt k1
 have hg3:=World.grownBy_alloc w2 (.cells #[.pointer (some ⟨nb,0,none⟩),.slice none 0 0,.int .i64 0] 88) none
 have hs2:=hg2.size
 refine ⟨gr_trans hg1 (gr_trans hg2 hg3),w2.heap.size,nb,U,rfl,by omega,by simp,hb2,heap_alloc_new _ _,⟨w2,hNet,Nat.le_refl _,hg3⟩,fun i hi=>by rw [ho i (by omega)]; exact u0 i hi,fun i hi=>?_⟩
 by_cases h:i < w1.heap.size
 ·rw [ho i h]; exact .inl (u1 i hi)
 ·exact hn i (by omega)
theorem xNew_w (s:ByteArray) (aT aL:Addr) (w:World) (hL:LD aT aL w) (hP:3 < w.heap.size) (hm:s.size≤maxLen) :
  Calls Tryz.prog 17 #[.string s] w fun e w'=>XNewPost (Sv.netOf s.data.toList) w e w':=by
 by_cases hs:400 < s.size
 ·have e:Sv.netOf s.data.toList=.inl 2:=by unfold Sv.netOf; rw [size_list,if_pos hs]
  rw [e]
  refine xNew_bad s aT aL w hL hP hm 0 2 (.inl ⟨rfl,rfl⟩) ?_
  rintro e w' ⟨hg,hp⟩
  rw [if_pos hs] at hp
  obtain ⟨g,i,he,hF⟩:=hp
  exact ⟨g,i,he,hg,.inl ⟨rfl,hF⟩⟩
 ·cases hr:Sv.rules s.data.toList with
  | inl k=>
   have e:Sv.netOf s.data.toList=.inl 1:=by unfold Sv.netOf; rw [size_list,if_neg hs,hr]
   rw [e]
   refine xNew_bad s aT aL w hL hP hm k 1 (.inr rfl) ?_
   rintro e w' ⟨hg,hp⟩
   rw [if_neg hs,hr] at hp
   obtain ⟨g,he,hF⟩:=hp
   exact ⟨g,k,he,hg,.inr ⟨rfl,rfl,hF⟩⟩
  | inr rs=>
   cases hx:Sv.ex rs
   ·have e:Sv.netOf s.data.toList=.inr rs:=by unfold Sv.netOf; rw [size_list,if_neg hs,hr]; simp only; rw [hx]; rfl
    rw [e]
    exact xNew_good s aT aL w hL hm hs rs hr hx (Sv.netOf_ok _ rs e)
   ·have e:Sv.netOf s.data.toList=.inl 2:=by unfold Sv.netOf; rw [size_list,if_neg hs,hr]; simp only; rw [hx]; rfl
    rw [e]
    refine xNew_bad s aT aL w hL hP hm 0 2 (.inl ⟨rfl,rfl⟩) ?_
    rintro e w' ⟨hg,hp⟩
    rw [if_neg hs,hr] at hp
    simp only at hp
    rw [hx,if_pos rfl] at hp
    obtain ⟨g,i,he,hF⟩:=hp
    exact ⟨g,i,he,hg,.inl ⟨rfl,hF⟩⟩
end Go.Proofs.YtolhbeekfjnfmaaGreatDoor

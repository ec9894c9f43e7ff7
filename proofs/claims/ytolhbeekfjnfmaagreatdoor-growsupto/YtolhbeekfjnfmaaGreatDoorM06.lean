import Derived.Lib.ItoaLen
import Derived.Test.YtolhbeekfjnfmaaGreatDoorM05
import Derived.Test.YtolhbeekfjnfmaaGreatDoorM00
namespace Go.Proofs.YtolhbeekfjnfmaaGreatDoor
open Go.RowKit
theorem Sv.number_tOk (l:List UInt8) (i:Nat) (t:Sv.Term) (j:Nat) (h:Sv.number l i=.inr (t,j)):Sv.vlOk t:=by
 unfold Sv.number at h
 simp only at h
 have hv:=Sv.ndF_val 9 l 0 (if (Sv.pk l i == 45)=true then i+1 else i)
 generalize (if (Sv.pk l i == 45)=true then i+1 else i)=x at h hv
 generalize Sv.ndF 9 l 0 x=r at h hv
 have:r.1 < 1000000000:=by simpa using hv
 by_cases hx:r.2=x
 ·rw [if_pos hx] at h; cases h
 ·rw [if_neg hx] at h
  simp only [Sum.inr.injEq,Prod.mk.injEq] at h
  obtain ⟨rfl,_⟩:=h
  unfold Sv.vlOk
  simp only
  split<;>omega
theorem Sv.term_tOk (l:List UInt8) (i:Nat) (t:Sv.Term) (j:Nat) (h:Sv.term l i=.inr (t,j)):Sv.vlOk t:=by
 unfold Sv.term at h
 split at h
 ·simp only [Sum.inr.injEq,Prod.mk.injEq] at h
  obtain ⟨rfl,_⟩:=h
  exact ⟨by decide,by decide⟩
 ·split at h
  ·simp only [Sum.inr.injEq,Prod.mk.injEq] at h
   obtain ⟨rfl,_⟩:=h
   exact ⟨by simp,by simp⟩
  ·split at h
   ·exact Sv.number_tOk l i t j h
   ·cases h
theorem Sv.tmF_tOk (n:Nat) (l:List UInt8) (acc:List Sv.Term) (i:Nat) (ts:List Sv.Term) (j:Nat) (h:Sv.tmF n l acc i=.inr (ts,j)) (ha:∀ t∈acc,Sv.vlOk t):∀ t∈ts,Sv.vlOk t:=by
 induction n generalizing acc i with
 | zero=>cases h
 | succ n ih=>
  rw [Sv.tmF_step] at h
  split at h
  ·simp only [Sum.inr.injEq,Prod.mk.injEq] at h
   rw [←h.1]; exact ha
  ·cases hr:Sv.term l (Sv.sk l i) with
   | inl k=>rw [hr] at h; cases h
   | inr p=>
    obtain ⟨t,k⟩:=p
    rw [hr] at h
    refine ih (acc ++ [t]) k h ?_
    intro x hx
    rcases List.mem_append.1 hx with hx | hx
    ·exact ha x hx
    ·rw [List.mem_singleton] at hx
     rw [hx]
     exact Sv.term_tOk l _ t k hr
theorem Sv.cond_cOk (l:List UInt8) (i:Nat) (c:Sv.Cond) (j:Nat) (h:Sv.cond l i=.inr (c,j)):Sv.cOk c:=by
 unfold Sv.cond at h
 simp only at h
 split at h
 ·split at h
  ·rename_i hd
   have hr:=Sv.dig_rng _ hd
   cases ht:Sv.terms l (Sv.sk l (Sv.sk l i+1)+1) with
   | inl m=>rw [ht] at h; cases h
   | inr p=>
    obtain ⟨ts,m⟩:=p
    rw [ht] at h
    simp only [Sum.inr.injEq,Prod.mk.injEq] at h
    obtain ⟨rfl,_⟩:=h
    refine ⟨?_,Sv.tmF_tOk _ l [] _ ts m ht (by simp)⟩
    show (Sv.pk l (Sv.sk l (Sv.sk l i+1))).toNat - 48≤9
    omega
  ·cases h
 ·cases h
theorem Sv.cdF_cOk (n:Nat) (l:List UInt8) (acc:List Sv.Cond) (i:Nat) (cs:List Sv.Cond) (j:Nat) (h:Sv.cdF n l acc i=.inr (cs,j)) (ha:∀ c∈acc,Sv.cOk c):∀ c∈cs,Sv.cOk c:=by
 induction n generalizing acc i with
 | zero=>cases h
 | succ n ih=>
  rw [Sv.cdF_step] at h
  split at h
  ·simp only [Sum.inr.injEq,Prod.mk.injEq] at h
   rw [←h.1]; exact ha
  ·generalize (if (Sv.pk l (Sv.sk l i) == 33)=true then Sv.sk l i+1 else Sv.sk l i)=x at h
   cases hr:Sv.cond l x with
   | inl k=>rw [hr] at h; cases h
   | inr p=>
    obtain ⟨c,k⟩:=p
    rw [hr] at h
    refine ih _ k h ?_
    intro y hy
    rcases List.mem_append.1 hy with hy | hy
    ·exact ha y hy
    ·rw [List.mem_singleton] at hy
     rw [hy]
     exact Sv.cond_cOk l x c k hr
theorem Sv.conds_cOk (l:List UInt8) (i:Nat) (cs:List Sv.Cond) (j:Nat) (h:Sv.conds l i=.inr (cs,j)):∀ c∈cs,Sv.cOk c:=by
 unfold Sv.conds at h
 cases hr:Sv.cond l i with
 | inl k=>rw [hr] at h; cases h
 | inr p=>
  obtain ⟨c,k⟩:=p
  rw [hr] at h
  refine Sv.cdF_cOk _ l [c] k cs j h ?_
  intro y hy
  rw [List.mem_singleton] at hy
  rw [hy]
  exact Sv.cond_cOk l i c k hr
def Sv.rBd (q:Sv.Rule):Prop:=Sv.rOk q∧q.name.length≤8
theorem Sv.rule_rBd (l:List UInt8) (i:Nat) (hi:i≤l.length) (q:Sv.Rule) (j:Nat) (h:Sv.rule l i=.inr (q,j)):Sv.rBd q:=by
 have hn:=Sv.nmF_le 8 l i hi
 unfold Sv.rule at h
 simp only at h
 split at h
 ·cases h
 ·split at h
  ·cases hr:Sv.conds l (Sv.sk l (Sv.nmF 8 l i)+1) with
   | inl m=>rw [hr] at h; cases h
   | inr p=>
    obtain ⟨cs,m⟩:=p
    rw [hr] at h
    simp only [Sum.inr.injEq,Prod.mk.injEq] at h
    obtain ⟨rfl,_⟩:=h
    refine ⟨Sv.conds_cOk l _ cs m hr,?_⟩
    simp
    omega
  ·cases h
theorem Sv.rlF_rBd (n:Nat) (l:List UInt8) (acc:List Sv.Rule) (i:Nat) (rs:List Sv.Rule) (h:Sv.rlF n l acc i=.inr rs) (ha:∀ q∈acc,Sv.rBd q):∀ q∈rs,Sv.rBd q:=by
 induction n generalizing acc i with
 | zero=>cases h
 | succ n ih=>
  rw [Sv.rlF_step] at h
  split at h
  ·rename_i hlt
   cases hr:Sv.rule l i with
   | inl k=>rw [hr] at h; cases h
   | inr p=>
    obtain ⟨q,k⟩:=p
    rw [hr] at h
    refine ih _ (Sv.sk l k) h ?_
    intro y hy
    rcases List.mem_append.1 hy with hy | hy
    ·exact ha y hy
    ·rw [List.mem_singleton] at hy
     rw [hy]
     exact Sv.rule_rBd l i (by omega) q k hr
  ·simp only [Sum.inr.injEq] at h
   rw [←h]; exact ha
theorem Sv.rules_rBd (l:List UInt8) (rs:List Sv.Rule) (h:Sv.rules l=.inr rs):∀ q∈rs,Sv.rBd q:=Sv.rlF_rBd _ l [] _ rs h (by simp)
theorem fm_bound {α:Type} (f:α→List UInt8) (M:Nat):∀ (ts:List α),(∀ a∈ts,(f a).length≤M)→(ts.flatMap f).length≤ts.length * M
 | [],_=>by simp
 | a :: ts,h=>by
  rw [List.flatMap_cons,List.length_append,List.length_cons]
  have h1:=h a (List.mem_cons_self)
  have h2:=fm_bound f M ts (fun x hx=>h x (List.mem_cons_of_mem _ hx))
  rw [Nat.add_mul]
  omega
theorem Sv.plT_len (t:Sv.Term) (h:Sv.vlOk t):(Sv.plT t).length≤21:=by
 unfold Sv.plT
 obtain ⟨h1,h2⟩:=h
 split
 ·simp
 ·split
  ·simp
  ·split
   ·exact Lib.itoa_length_le _ (by omega) (by omega)
   ·simp
theorem Sv.plC_len (c:Sv.Cond) (h:Sv.cOk c) (hx:Sv.exC c=false):(Sv.plC c).length≤200:=by
 obtain ⟨h1,h2⟩:=h
 have h3:c.terms.length≤4:=by simpa [Sv.exC] using hx
 have h4:=Lib.itoa_length_le (c.kind:Int) (by omega) (by omega)
 have h5:=fm_bound (fun t=>32 :: Sv.plT t) 22 c.terms (fun t ht=>by have:=Sv.plT_len t (h2 t ht); simp; omega)
 have h6:c.terms.length * 22≤4 * 22:=Nat.mul_le_mul_right _ h3
 unfold Sv.plC
 have h7:(if c.neg=true then [33] else ([]:List UInt8)).length≤1:=by split<;>simp
 simp only [List.length_append,List.length_singleton]
 omega
theorem Sv.plR_len (q:Sv.Rule) (h:Sv.rBd q) (hx:Sv.exR q=false):(Sv.plR q).length≤1000:=by
 obtain ⟨h1,h2⟩:=h
 unfold Sv.exR at hx
 rw [Bool.or_eq_false_iff] at hx
 have h3:q.conds.length≤4:=by simpa using hx.1
 have h5:=fm_bound Sv.plC 200 q.conds (fun c hc=>Sv.plC_len c (h1 c hc) (by
  have:=hx.2
  rw [List.any_eq_false] at this
  simpa using this c hc))
 have h6:q.conds.length * 200≤4 * 200:=Nat.mul_le_mul_right _ h3
 unfold Sv.plR
 simp only [List.length_append,List.length_cons,List.length_nil]
 omega
theorem Sv.pl_len (rs:List Sv.Rule) (h:∀ q∈rs,Sv.rBd q) (hx:Sv.ex rs=false):(Sv.pl rs).length≤8000:=by
 unfold Sv.ex at hx
 rw [Bool.or_eq_false_iff] at hx
 have h3:rs.length≤8:=by simpa using hx.1
 have h5:=fm_bound Sv.plR 1000 rs (fun q hq=>Sv.plR_len q (h q hq) (by
  have:=hx.2
  rw [List.any_eq_false] at this
  simpa using this q hq))
 have h6:rs.length * 1000≤8 * 1000:=Nat.mul_le_mul_right _ h3
 unfold Sv.pl
 omega
def Sv.face (l:List UInt8):List UInt8×Nat×Nat:=
 if 400 < l.length then ([],0,2)
 else match Sv.rules l with
  | .inl k=>([],k,1)
  | .inr rs=>if Sv.ex rs=true then ([],0,2) else (Sv.pl rs,rs.length,0)
set_option maxHeartbeats 400000 in
theorem face_bad (s:ByteArray) (aT aL:Addr) (w:World) (hL:LD aT aL w) (hP:3 < w.heap.size) (hm:s.size≤maxLen) (n m:Nat) (hmm:(m=2∧n=0)∨m=1)
  (hp:∀ e w',ParsePost (.iface 345 (.pointer (some aT))) (.iface 345 (.pointer (some aL))) w s e w'→∃ g i,e=.returned (.tuple #[.slice none 0 0,.iface 112 (.pointer (some ⟨g,0,none⟩))])∧w.grownBy w' none∧((m=2∧FAt g i (.iface 345 (.pointer (some aL))) w')∨(m=1∧i=n∧FAt g i (.iface 345 (.pointer (some aT))) w'))) :
  Calls Tryz.prog 16 #[.string s] w fun e w'=>e=.returned (.tuple #[.string ⟨#[]⟩,.int .i64 n,.int .i64 m])∧w.grownBy w' none:=by
 go_enter Tryz.func16,Tryz.ntmps16
 go_wp2_with fail
 refine (parse_w s w _ aT _ aL hL.cT hL.cL hm).mono ?_
 intro e w1 hpost
 obtain ⟨g,i,rfl,hg1,hF⟩:=hp e w1 hpost
 clear hp hpost
 have hL1:=hL.kept hg1 hP
 rcases hF with ⟨rfl,hF⟩ | ⟨rfl,rfl,hF⟩
 ·obtain rfl:n=0:=by rcases hmm with h | h<;>omega
  clear hmm
  go_wp2_with fail
  refine (refusal_limit g i aT aL w1 hL1 hF).mono ?_
  rintro e w2 ⟨rfl,rfl⟩
  go_wp2
  go_ret3
  exact ⟨rfl,hg1⟩
 ·clear hmm
  go_wp2_with fail
  refine (refusal_text g i aT aL w1 hL1 hF).mono ?_
  rintro e w2 ⟨rfl,hg2⟩
  have hg3:=gr_trans hg1 hg2
  go_wp2
  go_ret3
  exact ⟨rfl,hg3⟩
set_option maxHeartbeats 400000 in
theorem face_good (s:ByteArray) (aT aL:Addr) (w:World) (hL:LD aT aL w) (hP:3 < w.heap.size) (hm:s.size≤maxLen) (hs:¬ 400 < s.size) (rs:List Sv.Rule) (hr:Sv.rules s.data.toList=.inr rs) (hx:Sv.ex rs=false) :
  Calls Tryz.prog 16 #[.string s] w fun e w'=>e=.returned (.tuple #[.string ⟨(Sv.pl rs).toArray⟩,.int .i64 rs.length,.int .i64 0])∧w.grownBy w' none:=by
 have hbd:=Sv.rules_rBd _ rs hr
 have hlen:=Sv.pl_len rs hbd hx
 have HR:=hide hr
 have HX:=hide hx
 clear hr hx
 go_enter Tryz.func16,Tryz.ntmps16
 go_wp2_with fail
 refine (parse_w s w _ aT _ aL hL.cT hL.cL hm).mono ?_
 rintro e w1 ⟨hg1,hpost⟩
 rw [if_neg hs,unhide HR] at hpost
 simp only at hpost
 rw [unhide HX,if_neg (by simp)] at hpost
 obtain ⟨u,rfl,hrs⟩:=hpost
 obtain ⟨ao,cap,rfl⟩:=hrs.slice
 have hL1:=hL.kept hg1 hP
 have hrs':RsAt 0 (.slice ao rs.length cap) rs w1:=hrs.weak (Nat.zero_le _)
 go_wp2_with fail
 refine (plain_w rs _ w1 hL1.tab (Nat.lt_of_lt_of_le hP hg1.size) hrs' (fun q hq=>(hbd q hq).1) (by omega)).mono ?_
 rintro e w2 ⟨rfl,hg2⟩
 have hg3:=gr_trans hg1 hg2
 go_wp2
 go_ret3
 exact ⟨rfl,hg3⟩
theorem face_w (s:ByteArray) (aT aL:Addr) (w:World) (hL:LD aT aL w) (hP:3 < w.heap.size) (hm:s.size≤maxLen) :
  Calls Tryz.prog 16 #[.string s] w fun e w'=>e=.returned (.tuple #[.string ⟨(Sv.face s.data.toList).1.toArray⟩,.int .i64 (Sv.face s.data.toList).2.1,.int .i64 (Sv.face s.data.toList).2.2])∧w.grownBy w' none:=by
 by_cases hs:400 < s.size
 ·have e:Sv.face s.data.toList=([],0,2):=by unfold Sv.face; rw [size_list,if_pos hs]
  rw [e]
  refine face_bad s aT aL w hL hP hm 0 2 (.inl ⟨rfl,rfl⟩) ?_
  rintro e w' ⟨hg,hp⟩
  rw [if_pos hs] at hp
  obtain ⟨g,i,he,hF⟩:=hp
  exact ⟨g,i,he,hg,.inl ⟨rfl,hF⟩⟩
 ·cases hr:Sv.rules s.data.toList with
  | inl k=>
   have e:Sv.face s.data.toList=([],k,1):=by unfold Sv.face; rw [size_list,if_neg hs,hr]
   rw [e]
   refine face_bad s aT aL w hL hP hm k 1 (.inr rfl) ?_
   rintro e w' ⟨hg,hp⟩
   rw [if_neg hs,hr] at hp
   obtain ⟨g,he,hF⟩:=hp
   exact ⟨g,k,he,hg,.inr ⟨rfl,rfl,hF⟩⟩
  | inr rs=>
   cases hx:Sv.ex rs
   ·have e:Sv.face s.data.toList=(Sv.pl rs,rs.length,0):=by unfold Sv.face; rw [size_list,if_neg hs,hr]; simp only; rw [hx]; rfl
    rw [e]
    exact face_good s aT aL w hL hP hm hs rs hr hx
   ·have e:Sv.face s.data.toList=([],0,2):=by unfold Sv.face; rw [size_list,if_neg hs,hr]; simp only; rw [hx]; rfl
    rw [e]
    refine face_bad s aT aL w hL hP hm 0 2 (.inl ⟨rfl,rfl⟩) ?_
    rintro e w' ⟨hg,hp⟩
    rw [if_neg hs,hr] at hp
    simp only at hp
    rw [hx,if_pos rfl] at hp
    obtain ⟨g,i,he,hF⟩:=hp
    exact ⟨g,i,he,hg,.inl ⟨rfl,hF⟩⟩
end Go.Proofs.YtolhbeekfjnfmaaGreatDoor
namespace Go.Proofs.YtolhbeekfjnfmaaGreatDoor
structure Sv.Fact where
 kind:Int
 vals:List Int
abbrev Sv.Bs:=List (UInt8×Int)
def Sv.lookB:Sv.Bs→UInt8→Option Int
 | [],_=>none
 | p :: b,n=>if p.1=n then some p.2 else Sv.lookB b n
def Sv.meetT:List Sv.Term→List Int→Sv.Bs→Option Sv.Bs
 | t :: ts,v :: vs,b=>
  if t.sort=0 then Sv.meetT ts vs b
  else if t.sort=1 then
   match Sv.lookB b t.letter with
   | none=>Sv.meetT ts vs (b ++ [(t.letter,v)])
   | some u=>if v=u then Sv.meetT ts vs b else none
  else if v=t.value then Sv.meetT ts vs b else none
 | _,_,b=>some b
def Sv.meets (f:Sv.Fact) (c:Sv.Cond) (b:Sv.Bs):Option Sv.Bs:=
 if f.kind=(c.kind:Int)∧f.vals.length=c.terms.length then Sv.meetT c.terms f.vals b else none
def Sv.fromD (L:List (Int×Sv.Fact)):List Sv.Cond→Sv.Bs→List Int→List (List Int)
 | [],_,ids=>[ids]
 | c :: cs,b,ids=>
  if c.neg=true then (if L.any (fun p=>(Sv.meets p.2 c b).isSome)=true then [] else Sv.fromD L cs b ids)
  else L.flatMap fun p=>match Sv.meets p.2 c b with
   | none=>[]
   | some b'=>Sv.fromD L cs b' (ids ++ [p.1])
def Sv.matF (L:List (Int×Sv.Fact)):Nat→List Sv.Rule→List (Int×List Int)
 | _,[]=>[]
 | r,q :: rs=>(Sv.fromD L q.conds [] []).map (fun ids=>((r:Int),ids)) ++ Sv.matF L (r+1) rs
def Sv.matches (rs:List Sv.Rule) (L:List (Int×Sv.Fact)):List (Int×List Int):=Sv.matF L 0 rs
theorem Sv.flatMap_len {α β:Type} (f:α→List β) (k:Nat):∀ (L:List α),(∀ x∈L,(f x).length≤k)→(L.flatMap f).length≤L.length * k
 | [],_=>by simp
 | x :: L,h=>by
  have h1:=Sv.flatMap_len f k L (fun y hy=>h y (List.mem_cons_of_mem _ hy))
  have h2:=h x (List.mem_cons_self ..)
  rw [List.flatMap_cons,List.length_append,List.length_cons,Nat.succ_mul]
  omega
theorem Sv.fromD_len (L:List (Int×Sv.Fact)) (hL:L.length≤16):∀ (cs:List Sv.Cond) (b:Sv.Bs) (ids:List Int),(Sv.fromD L cs b ids).length≤16 ^ cs.length
 | [],b,ids=>by simp [Sv.fromD]
 | c :: cs,b,ids=>by
  have hp:0 < 16 ^ cs.length:=Nat.pow_pos (by omega)
  have e:16 ^ (c :: cs).length=16 * 16 ^ cs.length:=by rw [List.length_cons,Nat.pow_succ,Nat.mul_comm]
  rw [e]
  unfold Sv.fromD
  split
  ·split
   ·simp
   ·have:=Sv.fromD_len L hL cs b ids
    omega
  ·refine Nat.le_trans (Sv.flatMap_len _ (16 ^ cs.length) L ?_) (Nat.mul_le_mul_right _ hL)
   intro p _
   cases Sv.meets p.2 c b with
   | none=>simp
   | some b'=>exact Sv.fromD_len L hL cs b' _
def Sv.lexLt:List Int→List Int→Prop
 | [],[]=>False
 | [],_ :: _=>True
 | _ :: _,[]=>False
 | a :: x,b :: y=>a < b∨(a=b∧Sv.lexLt x y)
theorem Sv.lexLt_app (p:List Int) (a b:Int) (x y:List Int) (h:a < b):Sv.lexLt (p ++ a :: x) (p ++ b :: y):=by
 induction p with
 | nil=>exact .inl h
 | cons c p ih=>exact .inr ⟨rfl,ih⟩
def Sv.pos:List Sv.Cond→Nat
 | []=>0
 | c :: cs=>(if c.neg=true then 0 else 1)+Sv.pos cs
theorem Sv.fromD_ext (L:List (Int×Sv.Fact)):∀ (cs:List Sv.Cond) (b:Sv.Bs) (ids:List Int) (x:List Int),x∈Sv.fromD L cs b ids→∃ t,x=ids ++ t∧t.length=Sv.pos cs
 | [],b,ids,x,h=>⟨[],by simp [Sv.fromD] at h; simp [h],rfl⟩
 | c :: cs,b,ids,x,h=>by
  unfold Sv.fromD at h
  unfold Sv.pos
  split at h
  ·rename_i hn
   split at h
   ·simp at h
   ·obtain ⟨t,h1,h2⟩:=Sv.fromD_ext L cs b ids x h
    exact ⟨t,h1,by rw [if_pos hn]; omega⟩
  ·rename_i hn
   obtain ⟨p,_,hp⟩:=List.mem_flatMap.1 h
   cases hm:Sv.meets p.2 c b with
   | none=>rw [hm] at hp; simp at hp
   | some b'=>
    rw [hm] at hp
    obtain ⟨t,h1,h2⟩:=Sv.fromD_ext L cs b' _ x hp
    exact ⟨p.1 :: t,by rw [h1]; simp,by rw [if_neg hn,List.length_cons]; omega⟩
theorem Sv.fromD_sorted (L:List (Int×Sv.Fact)) (hL:L.Pairwise (fun p q=>p.1 < q.1)):∀ (cs:List Sv.Cond) (b:Sv.Bs) (ids:List Int),(Sv.fromD L cs b ids).Pairwise Sv.lexLt
 | [],b,ids=>by simp [Sv.fromD]
 | c :: cs,b,ids=>by
  unfold Sv.fromD
  split
  ·split
   ·exact List.Pairwise.nil
   ·exact Sv.fromD_sorted L hL cs b ids
  ·rw [List.pairwise_flatMap]
   refine ⟨fun p _=>?_,hL.imp ?_⟩
   ·cases Sv.meets p.2 c b with
    | none=>exact List.Pairwise.nil
    | some b'=>exact Sv.fromD_sorted L hL cs b' _
   ·intro p q hpq x hx y hy
    cases hm:Sv.meets p.2 c b with
    | none=>rw [hm] at hx; simp at hx
    | some b1=>
     cases hm2:Sv.meets q.2 c b with
     | none=>rw [hm2] at hy; simp at hy
     | some b2=>
      rw [hm] at hx
      rw [hm2] at hy
      obtain ⟨t1,h1,_⟩:=Sv.fromD_ext L cs b1 _ x hx
      obtain ⟨t2,h2,_⟩:=Sv.fromD_ext L cs b2 _ y hy
      rw [h1,h2,List.append_assoc,List.append_assoc]
      exact Sv.lexLt_app ids p.1 q.1 t1 t2 hpq
theorem Sv.meetT_len:∀ (ts:List Sv.Term) (vs:List Int) (b b':Sv.Bs),Sv.meetT ts vs b=some b'→b'.length≤b.length+ts.length
 | [],vs,b,b',h=>by simp [Sv.meetT] at h; subst h; simp
 | t :: ts,[],b,b',h=>by simp [Sv.meetT] at h; subst h; simp
 | t :: ts,v :: vs,b,b',h=>by
  unfold Sv.meetT at h
  rw [List.length_cons]
  split at h
  ·have:=Sv.meetT_len ts vs b b' h; omega
  ·split at h
   ·split at h
    ·have:=Sv.meetT_len ts vs _ b' h
     rw [List.length_append,List.length_singleton] at this
     omega
    ·split at h
     ·have:=Sv.meetT_len ts vs b b' h; omega
     ·cases h
   ·split at h
    ·have:=Sv.meetT_len ts vs b b' h; omega
    ·cases h
theorem Sv.meets_len (f:Sv.Fact) (c:Sv.Cond) (b b':Sv.Bs) (h:Sv.meets f c b=some b'):b'.length≤b.length+c.terms.length:=by
 unfold Sv.meets at h
 split at h
 ·exact Sv.meetT_len _ _ _ _ h
 ·cases h
end Go.Proofs.YtolhbeekfjnfmaaGreatDoor
namespace Go.Proofs.YtolhbeekfjnfmaaGreatDoor
theorem Sv.let_rng (c:UInt8) (h:Sv.letB c=true):97≤c.toNat∧c.toNat≤122:=by simpa [Sv.letB] using h
theorem Sv.nd_last (n:Nat) (l:List UInt8) (v i:Nat):(Sv.ndF n l v i).2=i∨Sv.digB (Sv.pk l ((Sv.ndF n l v i).2 - 1))=true:=by
 induction n generalizing v i with
 | zero=>exact .inl rfl
 | succ n ih=>
  rw [Sv.ndF_step]
  split
  ·rename_i hc
   rcases ih (v * 10+((Sv.pk l i).toNat - 48)) (i+1) with h | h
   ·exact .inr (by rw [h]; exact hc)
   ·exact .inr h
  ·exact .inl rfl
theorem Sv.number_shape (l:List UInt8) (i:Nat) (t:Sv.Term) (j:Nat) (h:Sv.number l i=.inr (t,j)):t=⟨2,0,t.value⟩∧Sv.digB (Sv.pk l (j - 1))=true:=by
 unfold Sv.number at h
 cases hm:Sv.pk l i == 45
 ·rw [hm] at h
  simp only [Bool.false_eq_true,if_false] at h
  by_cases hne:(Sv.ndF 9 l 0 i).2=i
  ·rw [if_pos hne] at h; cases h
  ·rw [if_neg hne] at h
   simp only [Sum.inr.injEq,Prod.mk.injEq] at h
   obtain ⟨rfl,rfl⟩:=h
   refine ⟨rfl,?_⟩
   rcases Sv.nd_last 9 l 0 i with h | h
   ·exact absurd h hne
   ·exact h
 ·rw [hm] at h
  simp only [if_true] at h
  by_cases hne:(Sv.ndF 9 l 0 (i+1)).2=i+1
  ·rw [if_pos hne] at h; cases h
  ·rw [if_neg hne] at h
   simp only [Sum.inr.injEq,Prod.mk.injEq] at h
   obtain ⟨rfl,rfl⟩:=h
   refine ⟨rfl,?_⟩
   rcases Sv.nd_last 9 l 0 (i+1) with h | h
   ·exact absurd h hne
   ·exact h
def Sv.tSh (t:Sv.Term):Prop:=t.sort=0∨(t.sort=1∧0 < t.letter.toNat)∨(t.sort=2∧t.letter=0)
def Sv.cSh (c:Sv.Cond):Prop:=c.kind≤9∧∀ t∈c.terms,Sv.tSh t
def Sv.rShO (q:Sv.Rule):Prop:=∀ c∈q.conds,Sv.cSh c
theorem Sv.term_tSh (l:List UInt8) (i:Nat) (t:Sv.Term) (j:Nat) (h:Sv.term l i=.inr (t,j)):Sv.tSh t:=by
 unfold Sv.term at h
 split at h
 ·simp only [Sum.inr.injEq,Prod.mk.injEq] at h
  obtain ⟨rfl,_⟩:=h
  exact .inl rfl
 ·split at h
  ·rename_i hl
   simp only [Sum.inr.injEq,Prod.mk.injEq] at h
   obtain ⟨rfl,_⟩:=h
   exact .inr (.inl ⟨rfl,by have:=Sv.let_rng _ hl; show 0 < (Sv.pk l i).toNat; omega⟩)
  ·split at h
   ·have h3:=(Sv.number_shape _ _ _ _ h).1
    exact .inr (.inr ⟨by rw [h3],by rw [h3]⟩)
   ·cases h
theorem Sv.tmF_tSh (n:Nat) (l:List UInt8) (acc:List Sv.Term) (i:Nat) (ts:List Sv.Term) (j:Nat) (h:Sv.tmF n l acc i=.inr (ts,j)) (ha:∀ t∈acc,Sv.tSh t):∀ t∈ts,Sv.tSh t:=by
 induction n generalizing acc i with
 | zero=>cases h
 | succ n ih=>
  rw [Sv.tmF_step] at h
  split at h
  ·simp only [Sum.inr.injEq,Prod.mk.injEq] at h
   rw [←h.1]; exact ha
  ·cases hr:Sv.term l (Sv.sk l i) with
   | inl k=>rw [hr] at h; cases h
   | inr p=>
    obtain ⟨t,k⟩:=p
    rw [hr] at h
    refine ih (acc ++ [t]) k h ?_
    intro x hx
    rcases List.mem_append.1 hx with hx | hx
    ·exact ha x hx
    ·rw [List.mem_singleton] at hx
     rw [hx]
     exact Sv.term_tSh l _ t k hr
theorem Sv.cond_cSh (l:List UInt8) (i:Nat) (c:Sv.Cond) (j:Nat) (h:Sv.cond l i=.inr (c,j)):Sv.cSh c:=by
 unfold Sv.cond at h
 simp only at h
 split at h
 ·split at h
  ·rename_i hd
   have hr:=Sv.dig_rng _ hd
   cases ht:Sv.terms l (Sv.sk l (Sv.sk l i+1)+1) with
   | inl m=>rw [ht] at h; cases h
   | inr p=>
    obtain ⟨ts,m⟩:=p
    rw [ht] at h
    simp only [Sum.inr.injEq,Prod.mk.injEq] at h
    obtain ⟨rfl,_⟩:=h
    refine ⟨?_,Sv.tmF_tSh _ l [] _ ts m ht (by simp)⟩
    show (Sv.pk l (Sv.sk l (Sv.sk l i+1))).toNat - 48≤9
    omega
  ·cases h
 ·cases h
theorem Sv.cdF_cSh (n:Nat) (l:List UInt8) (acc:List Sv.Cond) (i:Nat) (cs:List Sv.Cond) (j:Nat) (h:Sv.cdF n l acc i=.inr (cs,j)) (ha:∀ c∈acc,Sv.cSh c):∀ c∈cs,Sv.cSh c:=by
 induction n generalizing acc i with
 | zero=>cases h
 | succ n ih=>
  rw [Sv.cdF_step] at h
  split at h
  ·simp only [Sum.inr.injEq,Prod.mk.injEq] at h
   rw [←h.1]; exact ha
  ·generalize (if (Sv.pk l (Sv.sk l i) == 33)=true then Sv.sk l i+1 else Sv.sk l i)=x at h
   cases hr:Sv.cond l x with
   | inl k=>rw [hr] at h; cases h
   | inr p=>
    obtain ⟨c,k⟩:=p
    rw [hr] at h
    refine ih _ k h ?_
    intro y hy
    rcases List.mem_append.1 hy with hy | hy
    ·exact ha y hy
    ·rw [List.mem_singleton] at hy
     rw [hy]
     exact Sv.cond_cSh l x c k hr
theorem Sv.conds_cSh (l:List UInt8) (i:Nat) (cs:List Sv.Cond) (j:Nat) (h:Sv.conds l i=.inr (cs,j)):∀ c∈cs,Sv.cSh c:=by
 unfold Sv.conds at h
 cases hr:Sv.cond l i with
 | inl k=>rw [hr] at h; cases h
 | inr p=>
  obtain ⟨c,k⟩:=p
  rw [hr] at h
  refine Sv.cdF_cSh _ l [c] k cs j h ?_
  intro y hy
  rw [List.mem_singleton] at hy
  rw [hy]
  exact Sv.cond_cSh l i c k hr
def Sv.rSh (q:Sv.Rule):Prop:=Sv.rShO q∧q.name.length≤8
theorem Sv.rule_rSh (l:List UInt8) (i:Nat) (hi:i≤l.length) (q:Sv.Rule) (j:Nat) (h:Sv.rule l i=.inr (q,j)):Sv.rSh q:=by
 have hn:=Sv.nmF_le 8 l i hi
 unfold Sv.rule at h
 simp only at h
 split at h
 ·cases h
 ·split at h
  ·cases hr:Sv.conds l (Sv.sk l (Sv.nmF 8 l i)+1) with
   | inl m=>rw [hr] at h; cases h
   | inr p=>
    obtain ⟨cs,m⟩:=p
    rw [hr] at h
    simp only [Sum.inr.injEq,Prod.mk.injEq] at h
    obtain ⟨rfl,_⟩:=h
    refine ⟨Sv.conds_cSh l _ cs m hr,?_⟩
    simp
    omega
  ·cases h
theorem Sv.rlF_rSh (n:Nat) (l:List UInt8) (acc:List Sv.Rule) (i:Nat) (rs:List Sv.Rule) (h:Sv.rlF n l acc i=.inr rs) (ha:∀ q∈acc,Sv.rSh q):∀ q∈rs,Sv.rSh q:=by
 induction n generalizing acc i with
 | zero=>cases h
 | succ n ih=>
  rw [Sv.rlF_step] at h
  split at h
  ·rename_i hlt
   cases hr:Sv.rule l i with
   | inl k=>rw [hr] at h; cases h
   | inr p=>
    obtain ⟨q,k⟩:=p
    rw [hr] at h
    refine ih _ (Sv.sk l k) h ?_
    intro y hy
    rcases List.mem_append.1 hy with hy | hy
    ·exact ha y hy
    ·rw [List.mem_singleton] at hy
     rw [hy]
     exact Sv.rule_rSh l i (by omega) q k hr
  ·simp only [Sum.inr.injEq] at h
   rw [←h]; exact ha
theorem Sv.rules_rSh (l:List UInt8) (rs:List Sv.Rule) (h:Sv.rules l=.inr rs):∀ q∈rs,Sv.rSh q:=Sv.rlF_rSh _ l [] _ rs h (by simp)
def Sv.tmOk (t:Sv.Term):Prop:=t.sort=0∨(t.sort=1∧0 < t.letter.toNat)∨(t.sort=2∧t.letter=0)
structure Sv.RsOk (rs:List Sv.Rule):Prop where
 len:rs.length≤8
 conds:∀ q∈rs,q.conds.length≤4
 terms:∀ q∈rs,∀ c∈q.conds,c.terms.length≤4
 shape:∀ q∈rs,∀ c∈q.conds,∀ t∈c.terms,Sv.tmOk t
def Sv.valOk (x:Int):Bool:=!(decide (x < -999999999) || decide (999999999 < x))
def Sv.factOk (f:Sv.Fact):Bool:=!(decide (f.kind < 0) || decide (9 < f.kind) || decide (4 < f.vals.length)) && f.vals.all Sv.valOk
def Sv.netOf (l:List UInt8):Nat ⊕ List Sv.Rule:=
 if 400 < l.length then .inl 2 else match Sv.rules l with
  | .inl _=>.inl 1
  | .inr rs=>if Sv.ex rs=true then .inl 2 else .inr rs
theorem Sv.netOf_ok (l:List UInt8) (rs:List Sv.Rule) (h:Sv.netOf l=.inr rs):Sv.RsOk rs:=by
 unfold Sv.netOf at h
 split at h
 ·cases h
 ·cases hr:Sv.rules l with
  | inl k=>rw [hr] at h; cases h
  | inr rs'=>
   rw [hr] at h
   simp only at h
   split at h
   ·cases h
   ·rename_i hx
    cases h
    have hsh:=Sv.rules_rSh l rs hr
    simp only [Bool.not_eq_true] at hx
    unfold Sv.ex at hx
    rw [Bool.or_eq_false_iff,List.any_eq_false] at hx
    obtain ⟨h8,hx⟩:=hx
    have hq:∀ q∈rs,q.conds.length≤4∧∀ c∈q.conds,c.terms.length≤4:=by
     intro q hq
     have h1:=hx q hq
     simp only [Bool.not_eq_true] at h1
     unfold Sv.exR at h1
     rw [Bool.or_eq_false_iff,List.any_eq_false] at h1
     refine ⟨by simpa using h1.1,fun c hc=>?_⟩
     have h2:=h1.2 c hc
     simpa [Sv.exC] using h2
    exact ⟨by simpa using h8,fun q hm=>(hq q hm).1,fun q hm=>(hq q hm).2,fun q hm c hc t ht=>((hsh q hm).1 c hc).2 t ht⟩
def Sv.hasM (ms:List (Int×List Int)) (m:Int×List Int):Bool:=ms.any (fun k=>decide (k=m))
def Sv.keepF (ms fd:List (Int×List Int)):List (Int×List Int):=fd.filter (fun f=>Sv.hasM ms f)
structure Sv.St where
 rs:List Sv.Rule
 L:List (Int×Sv.Fact)
 cnt:Int
 fired:List (Int×List Int)
def Sv.St.add (s:Sv.St) (f:Sv.Fact):(Int×Int)×Sv.St:=
 if Sv.factOk f=false then ((0,3),s)
 else if 16≤s.L.length then ((0,4),s)
 else ((s.cnt+1,0),⟨s.rs,s.L ++ [(s.cnt+1,f)],s.cnt+1,Sv.keepF (Sv.matches s.rs (s.L ++ [(s.cnt+1,f)])) s.fired⟩)
structure Sv.StOk (s:Sv.St):Prop where
 rules:Sv.RsOk s.rs
 facts:s.L.length≤16
 c0:0≤s.cnt
 fired:s.fired.length≤1000000
end Go.Proofs.YtolhbeekfjnfmaaGreatDoor
namespace Go.Proofs.YtolhbeekfjnfmaaGreatDoor
open Go.RowKit
def VAt (b:Nat) (s:ByteArray) (i:Nat) (bad:Bool) (w:World):Prop:=w.heap[b]?=some (.cells #[.string s,.int .i64 i,.bool bad] 229 (0,0))
theorem VAt.c0 {b:Nat} {s:ByteArray} {i:Nat} {v:Bool} {w:World} (h:VAt b s i v w):w.cell? ⟨b,0,none⟩=some (.string s):=by
 unfold VAt at h; simp [World.cell?,h]
theorem VAt.c1 {b:Nat} {s:ByteArray} {i:Nat} {v:Bool} {w:World} (h:VAt b s i v w):w.cell? ⟨b,1,none⟩=some (.int .i64 i):=by
 unfold VAt at h; simp [World.cell?,h]
theorem VAt.c2 {b:Nat} {s:ByteArray} {i:Nat} {v:Bool} {w:World} (h:VAt b s i v w):w.cell? ⟨b,2,none⟩=some (.bool v):=by
 unfold VAt at h; simp [World.cell?,h]
theorem VAt.fz {b:Nat} {s:ByteArray} {i:Nat} {v:Bool} {w:World} (h:VAt b s i v w) (o:Nat):w.frozen? ⟨b,o,none⟩=false:=by
 unfold VAt at h; simp [World.frozen?,h]
theorem VAt.lt {b:Nat} {s:ByteArray} {i:Nat} {v:Bool} {w:World} (h:VAt b s i v w):b < w.heap.size:=row_lt h
theorem VAt.kept {b:Nat} {s:ByteArray} {i:Nat} {v:Bool} {w w':World} {row:Option Nat} (h:VAt b s i v w) (g:w.grownBy w' row) (hne:some b≠row):VAt b s i v w':=by
 unfold VAt; rw [g.block b h.lt hne]; exact h
theorem VAt.set1 {b:Nat} {s:ByteArray} {i:Nat} {v:Bool} {w:World} (h:VAt b s i v w) (j:Nat):VAt b s j v (w.setCell ⟨b,1,none⟩ (.int .i64 j)):=by
 unfold VAt at h ⊢; rw [heap_setCell_same w b 1 _ _ _ h]; rfl
theorem VAt.set2 {b:Nat} {s:ByteArray} {i:Nat} {v:Bool} {w:World} (h:VAt b s i v w) (u:Bool):VAt b s i u (w.setCell ⟨b,2,none⟩ (.bool u)):=by
 unfold VAt at h ⊢; rw [heap_setCell_same w b 2 _ _ _ h]; rfl
theorem VAt.drewN {b:Nat} {s:ByteArray} {i:Nat} {v:Bool} {w:World} (h:VAt b s i v w) (n:Nat):VAt b s i v (w.drewN n):=h
theorem VAt.at {b:Nat} {s:ByteArray} {i:Nat} {v:Bool} {w:World} (h:VAt b s i v w):atOf b w=i:=by
 unfold atOf; rw [h.c1]; simp
theorem VAt.rowOk {b:Nat} {s:ByteArray} {i:Nat} {v:Bool} {w:World} (h:VAt b s i v w):RowOk 0 229 (some b) w:=by
 intro g hg; cases hg; exact ⟨Nat.zero_le _,_,_,h⟩
theorem VAt.row {b:Nat} {s:ByteArray} {j:Nat} {v:Bool} {w w':World} {row:Option Nat} {base:Nat} {e:TypeId} (h:VAt b s j v w) (hg:w.grownBy w' row) (hr:RowOk base e row w) (he:e≠229):VAt b s j v w':=by
 refine h.kept hg (fun e1=>?_)
 obtain ⟨_,cur,fz,h2⟩:=hr b e1.symm
 unfold VAt at h
 rw [h] at h2
 simp at h2
 exact he h2.2.1.symm
set_option maxHeartbeats 400000 in
theorem vletter_w (c:UInt8) (w:World) :
  Calls Tryz.prog 176 #[.int .u8 c.toNat] w fun e w'=>e=.returned (.bool (Sv.letB c))∧w'=w:=by
 unfold Sv.letB
 by_cases h1:97≤c.toNat
 ·by_cases h2:c.toNat≤122
  ·have e1:decide ((97:Int)≤c.toNat)=true:=by simp; omega
   have e2:decide ((c.toNat:Int)≤122)=true:=by simp; omega
   go_enter Tryz.func176,Tryz.ntmps176
   go_wp2
   go_ret
   exact ⟨by simp [h1,h2],rfl⟩
  ·have e1:decide ((97:Int)≤c.toNat)=true:=by simp; omega
   have e2:decide ((c.toNat:Int)≤122)=false:=by simp; omega
   go_enter Tryz.func176,Tryz.ntmps176
   go_wp2
   go_ret
   exact ⟨by simp [h2],rfl⟩
 ·have e1:decide ((97:Int)≤c.toNat)=false:=by simp; omega
  go_enter Tryz.func176,Tryz.ntmps176
  go_wp2
  go_ret
  exact ⟨by simp [h1],rfl⟩
set_option maxHeartbeats 400000 in
theorem vdigit_w (c:UInt8) (w:World) :
  Calls Tryz.prog 177 #[.int .u8 c.toNat] w fun e w'=>e=.returned (.bool (Sv.digB c))∧w'=w:=by
 unfold Sv.digB
 by_cases h1:48≤c.toNat
 ·by_cases h2:c.toNat≤57
  ·have e1:decide ((48:Int)≤c.toNat)=true:=by simp; omega
   have e2:decide ((c.toNat:Int)≤57)=true:=by simp; omega
   go_enter Tryz.func177,Tryz.ntmps177
   go_wp2
   go_ret
   exact ⟨by simp [h1,h2],rfl⟩
  ·have e1:decide ((48:Int)≤c.toNat)=true:=by simp; omega
   have e2:decide ((c.toNat:Int)≤57)=false:=by simp; omega
   go_enter Tryz.func177,Tryz.ntmps177
   go_wp2
   go_ret
   exact ⟨by simp [h2],rfl⟩
 ·have e1:decide ((48:Int)≤c.toNat)=false:=by simp; omega
  go_enter Tryz.func177,Tryz.ntmps177
  go_wp2
  go_ret
  exact ⟨by simp [h1],rfl⟩
set_option maxHeartbeats 400000 in
theorem vhere_w (b:Nat) (s:ByteArray) (i:Nat) (w:World) (hi:i≤s.size) (_hs:s.size≤400) (hb:VAt b s i false w) :
  Calls Tryz.prog 148 #[.pointer (some ⟨b,0,none⟩)] w fun e w'=>e=.returned (.int .u8 (Sv.pk s.data.toList i).toNat)∧∃ n,w'=w.drewN n:=by
 have c0:=hb.c0
 have c1:=hb.c1
 have c2:=hb.c2
 by_cases h:i=s.size
 ·have e:decide ((s.size:Int)≤(i:Int))=true:=by simp; omega
  go_enter Tryz.func148,Tryz.ntmps148
  go_wp2
  go_quiet (fail)
  go_wp2
  go_ret
  exact ⟨by rw [Sv.pk_end _ _ (by simp; omega)]; rfl,_,rfl⟩
 ·have e:decide ((s.size:Int)≤(i:Int))=false:=by simp; omega
  have hlt:i < s.size:=by omega
  go_enter Tryz.func148,Tryz.ntmps148
  go_wp2
  go_quiet (fail)
  go_wp2
  go_quiet (fail)
  go_wp2
  go_ret
  exact ⟨by rw [pk_get _ _ hlt]; rfl,_,World.drewN_drewN _ _ _⟩
set_option maxHeartbeats 400000 in
theorem vhere_bad (b:Nat) (s:ByteArray) (i:Nat) (w:World) (hb:VAt b s i true w) :
  Calls Tryz.prog 148 #[.pointer (some ⟨b,0,none⟩)] w fun e w'=>e=.returned (.int .u8 0)∧∃ n,w'=w.drewN n:=by
 have c2:=hb.c2
 go_enter Tryz.func148,Tryz.ntmps148
 go_wp2
 go_quiet (fail)
 go_wp2
 go_ret
 exact ⟨rfl,_,rfl⟩
set_option maxHeartbeats 400000 in
theorem vblanks_bad (b:Nat) (s:ByteArray) (i:Nat) (w:World) (hb:VAt b s i true w) :
  Calls Tryz.prog 117 #[.pointer (some ⟨b,0,none⟩)] w fun e w'=>e=.returned (.tuple #[])∧VAt b s i true w'∧w.grownBy w' (some b):=by
 go_enter Tryz.func117,Tryz.ntmps117
 go_wp2
 go_loopw [] (fun w'=>w'=w) (fun _=>0)
 case atStart=>rfl
 case round=>
  subst hrel
  go_wp2_with (go_at_call 148; refine (vhere_bad b s i _ (by first | exact hb | exact hb.drewN _)).mono ?_; rintro e w' ⟨rfl,n,rfl⟩)
  go_end0
  exact ⟨rfl,hb,gr_drewN _ _ _⟩
set_option maxHeartbeats 400000 in
theorem vblanks_w (b:Nat) (s:ByteArray) (i:Nat) (w:World) (hi:i≤s.size) (hs:s.size≤400) (hb:VAt b s i false w) :
  Calls Tryz.prog 117 #[.pointer (some ⟨b,0,none⟩)] w fun e w'=>e=.returned (.tuple #[])∧VAt b s (Sv.sk s.data.toList i) false w'∧w.grownBy w' (some b):=by
 go_enter Tryz.func117,Tryz.ntmps117
 go_wp2
 go_loopw [] (fun w'=>∃ k:Nat,k≤s.size∧VAt b s k false w'∧w.grownBy w' (some b)∧Sv.sk s.data.toList k=Sv.sk s.data.toList i) (fun w'=>s.size - atOf b w')
 case atStart=>exact ⟨i,hi,hb,World.grownBy.refl _ _,rfl⟩
 case round=>
  obtain ⟨k,hk,hbk,hg,hsk⟩:=hrel
  have HS:Hid (Sv.sk s.data.toList k=Sv.sk s.data.toList i):=hsk
  clear hsk
  have HA:Hid (atOf b wr=k):=hbk.at
  cases h1:Sv.pk s.data.toList k == 32
  ·cases h2:Sv.pk s.data.toList k == 10
   ·have hno:=Sv.sk_no s.data.toList k (by simp [Sv.blB,h1,h2])
    have HN:Hid (Sv.sk s.data.toList k=k):=hno
    clear hno
    have e1:=(u8_32 (Sv.pk s.data.toList k)).trans h1
    have e2:=(u8_10 (Sv.pk s.data.toList k)).trans h2
    clear h1 h2
    go_wp2_with (go_at_call 148; refine (vhere_w b s k _ hk hs (by first | exact hbk | exact hbk.drewN _)).mono ?_; rintro e w' ⟨rfl,n,rfl⟩)
    go_end0
    refine ⟨rfl,?_,?_⟩
    ·rw [←HS.out,HN.out]; exact hbk
    ·exact gr_trans hg (gr_drewN _ _ _)
   ·have hyes:=Sv.sk_yes s.data.toList k (by simp [Sv.blB,h2])
    rw [size_list] at hyes
    obtain ⟨hn,hlt⟩:=hyes
    have HN:Hid (Sv.sk s.data.toList k=Sv.sk s.data.toList (k+1)):=hn
    clear hn
    have e1:=(u8_32 (Sv.pk s.data.toList k)).trans h1
    have e2:=(u8_10 (Sv.pk s.data.toList k)).trans h2
    clear h1 h2
    have c1:=hbk.c1
    have f1:=hbk.fz 1
    go_wp2_with (go_at_call 148; refine (vhere_w b s k _ hk hs (by first | exact hbk | exact hbk.drewN _)).mono ?_; rintro e w' ⟨rfl,n,rfl⟩)
    go_roundw
    case rel=>exact ⟨k+1,by omega,(VAt.set1 hbk (k+1)),gr_trans hg (gr_trans (gr_set wr b 1 _) (gr_drewN _ _ _)),by rw [←HN.out]; exact HS.out⟩
    case measure=>
     have h2:atOf b ((wr.setCell ⟨b,1,none⟩ (.int .i64 ((k+1:Nat):Int))))=k+1:=(VAt.set1 hbk (k+1)).at
     show s.size - atOf b ((wr.setCell ⟨b,1,none⟩ (.int .i64 ((k+1:Nat):Int)))) < s.size - atOf b wr
     rw [h2,HA.out]; omega
  ·have hyes:=Sv.sk_yes s.data.toList k (by simp [Sv.blB,h1])
   rw [size_list] at hyes
   obtain ⟨hn,hlt⟩:=hyes
   have HN:Hid (Sv.sk s.data.toList k=Sv.sk s.data.toList (k+1)):=hn
   clear hn
   have e1:=(u8_32 (Sv.pk s.data.toList k)).trans h1
   clear h1
   have c1:=hbk.c1
   have f1:=hbk.fz 1
   go_wp2_with (go_at_call 148; refine (vhere_w b s k _ hk hs (by first | exact hbk | exact hbk.drewN _)).mono ?_; rintro e w' ⟨rfl,n,rfl⟩)
   go_roundw
   case rel=>exact ⟨k+1,by omega,(VAt.set1 hbk (k+1)),gr_trans hg (gr_trans (gr_set wr b 1 _) (gr_drewN _ _ _)),by rw [←HN.out]; exact HS.out⟩
   case measure=>
    have h2:atOf b ((wr.setCell ⟨b,1,none⟩ (.int .i64 ((k+1:Nat):Int))))=k+1:=(VAt.set1 hbk (k+1)).at
    show s.size - atOf b ((wr.setCell ⟨b,1,none⟩ (.int .i64 ((k+1:Nat):Int)))) < s.size - atOf b wr
    rw [h2,HA.out]; omega
set_option maxHeartbeats 400000 in
theorem vone_yes (b:Nat) (s:ByteArray) (i:Nat) (c:UInt8) (x:Int) (hx:x=c.toNat) (w:World) (hi:i≤s.size) (hs:s.size≤400) (h:(Sv.pk s.data.toList i == c)=true) (hb:VAt b s i false w) :
  Calls Tryz.prog 150 #[.pointer (some ⟨b,0,none⟩),.int .u8 x] w fun e w'=>e=.returned (.tuple #[])∧VAt b s (i+1) false w'∧w.grownBy w' (some b):=by
 subst hx
 have e1:=u8_eq _ _ h
 clear h
 have c1:=hb.c1
 have c2:=hb.c2
 have f1:=hb.fz 1
 go_enter Tryz.func150,Tryz.ntmps150
 go_wp2_with (go_at_call 148; refine (vhere_w b s i _ hi hs hb).mono ?_; rintro e w' ⟨rfl,n,rfl⟩)
 go_end0
 exact ⟨rfl,VAt.set1 hb _,gr_trans (gr_drewN w n _) (gr_set _ b 1 _)⟩
set_option maxHeartbeats 400000 in
theorem vone_no (b:Nat) (s:ByteArray) (i:Nat) (c:UInt8) (x:Int) (hx:x=c.toNat) (w:World) (hi:i≤s.size) (hs:s.size≤400) (h:(Sv.pk s.data.toList i == c)=false) (hb:VAt b s i false w) :
  Calls Tryz.prog 150 #[.pointer (some ⟨b,0,none⟩),.int .u8 x] w fun e w'=>e=.returned (.tuple #[])∧VAt b s i true w'∧w.grownBy w' (some b):=by
 subst hx
 have e1:=u8_ne _ _ h
 clear h
 have c2:=hb.c2
 have f2:=hb.fz 2
 have d2:=(hb.set2 true).c2
 go_enter Tryz.func150,Tryz.ntmps150
 go_wp2_with (go_at_call 148; refine (vhere_w b s i _ hi hs hb).mono ?_; rintro e w' ⟨rfl,n,rfl⟩)
 go_end0
 exact ⟨rfl,VAt.set2 hb _,gr_trans (gr_drewN w n _) (gr_set _ b 2 _)⟩
set_option maxHeartbeats 400000 in
theorem vone_bad (b:Nat) (s:ByteArray) (i:Nat) (c:UInt8) (hc:c≠0) (x:Int) (hx:x=c.toNat) (w:World) (hb:VAt b s i true w) :
  Calls Tryz.prog 150 #[.pointer (some ⟨b,0,none⟩),.int .u8 x] w fun e w'=>e=.returned (.tuple #[])∧VAt b s i true w'∧w.grownBy w' (some b):=by
 subst hx
 have e1:((0:Int) != (c.toNat:Int))=true:=u8_ne 0 c (by simpa using hc.symm)
 have c2:=hb.c2
 have f2:=hb.fz 2
 have d2:=(hb.set2 true).c2
 go_enter Tryz.func150,Tryz.ntmps150
 go_wp2_with (go_at_call 148; refine (vhere_bad b s i _ hb).mono ?_; rintro e w' ⟨rfl,n,rfl⟩)
 go_end0
 exact ⟨rfl,VAt.set2 hb _,gr_trans (gr_drewN w n _) (gr_set _ b 2 _)⟩
end Go.Proofs.YtolhbeekfjnfmaaGreatDoor

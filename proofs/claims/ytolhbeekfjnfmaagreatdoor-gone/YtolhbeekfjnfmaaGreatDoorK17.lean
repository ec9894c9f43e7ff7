import Derived.Lib.ItoaLen
import Derived.Test.YtolhbeekfjnfmaaGreatDoorK16
namespace Go.Proofs.YtolhbeekfjnfmaaGreatDoor
open Go.RowKit
theorem Sv.number_tOk (l:List UInt8) (i:Nat) (t:Sv.Term) (j:Nat) (h:Sv.number l i=.inr (t,j)):Sv.vlOk t:=by
 unfold Sv.number at h
 simp only at h
 have hv:=Sv.ndF_val 9 l 0 (if (Sv.pk l i == 45)=true then i+1 else i)
 generalize (if (Sv.pk l i == 45)=true then i+1 else i)=x at h hv
 generalize Sv.ndF 9 l 0 x=r at h hv
 have:r.1 < 1000000000:=by simpa using hv
 by_cases hx:r.2=x
 ·rw [if_pos hx] at h; cases h
 ·rw [if_neg hx] at h
  simp only [Sum.inr.injEq,Prod.mk.injEq] at h
  obtain ⟨rfl,_⟩:=h
  unfold Sv.vlOk
  simp only
  split<;>omega
theorem Sv.term_tOk (l:List UInt8) (i:Nat) (t:Sv.Term) (j:Nat) (h:Sv.term l i=.inr (t,j)):Sv.vlOk t:=by
 unfold Sv.term at h
 split at h
 ·simp only [Sum.inr.injEq,Prod.mk.injEq] at h
  obtain ⟨rfl,_⟩:=h
  exact ⟨by decide,by decide⟩
 ·split at h
  ·simp only [Sum.inr.injEq,Prod.mk.injEq] at h
   obtain ⟨rfl,_⟩:=h
   exact ⟨by simp,by simp⟩
  ·split at h
   ·exact Sv.number_tOk l i t j h
   ·cases h
theorem Sv.tmF_tOk (n:Nat) (l:List UInt8) (acc:List Sv.Term) (i:Nat) (ts:List Sv.Term) (j:Nat) (h:Sv.tmF n l acc i=.inr (ts,j)) (ha:∀ t∈acc,Sv.vlOk t):∀ t∈ts,Sv.vlOk t:=by
 induction n generalizing acc i with
 | zero=>cases h
 | succ n ih=>
  rw [Sv.tmF_step] at h
  split at h
  ·simp only [Sum.inr.injEq,Prod.mk.injEq] at h
   rw [←h.1]; exact ha
  ·cases hr:Sv.term l (Sv.sk l i) with
   | inl k=>rw [hr] at h; cases h
   | inr p=>
    obtain ⟨t,k⟩:=p
    rw [hr] at h
    refine ih (acc ++ [t]) k h ?_
    intro x hx
    rcases List.mem_append.1 hx with hx | hx
    ·exact ha x hx
    ·rw [List.mem_singleton] at hx
     rw [hx]
     exact Sv.term_tOk l _ t k hr
theorem Sv.cond_cOk (l:List UInt8) (i:Nat) (c:Sv.Cond) (j:Nat) (h:Sv.cond l i=.inr (c,j)):Sv.cOk c:=by
 unfold Sv.cond at h
 simp only at h
 split at h
 ·split at h
  ·rename_i hd
   have hr:=Sv.dig_rng _ hd
   cases ht:Sv.terms l (Sv.sk l (Sv.sk l i+1)+1) with
   | inl m=>rw [ht] at h; cases h
   | inr p=>
    obtain ⟨ts,m⟩:=p
    rw [ht] at h
    simp only [Sum.inr.injEq,Prod.mk.injEq] at h
    obtain ⟨rfl,_⟩:=h
    refine ⟨?_,Sv.tmF_tOk _ l [] _ ts m ht (by simp)⟩
    show (Sv.pk l (Sv.sk l (Sv.sk l i+1))).toNat - 48≤9
    omega
  ·cases h
 ·cases h
theorem Sv.cdF_cOk (n:Nat) (l:List UInt8) (acc:List Sv.Cond) (i:Nat) (cs:List Sv.Cond) (j:Nat) (h:Sv.cdF n l acc i=.inr (cs,j)) (ha:∀ c∈acc,Sv.cOk c):∀ c∈cs,Sv.cOk c:=by
 induction n generalizing acc i with
 | zero=>cases h
 | succ n ih=>
  rw [Sv.cdF_step] at h
  split at h
  ·simp only [Sum.inr.injEq,Prod.mk.injEq] at h
   rw [←h.1]; exact ha
  ·generalize (if (Sv.pk l (Sv.sk l i) == 33)=true then Sv.sk l i+1 else Sv.sk l i)=x at h
   cases hr:Sv.cond l x with
   | inl k=>rw [hr] at h; cases h
   | inr p=>
    obtain ⟨c,k⟩:=p
    rw [hr] at h
    refine ih _ k h ?_
    intro y hy
    rcases List.mem_append.1 hy with hy | hy
    ·exact ha y hy
    ·rw [List.mem_singleton] at hy
     rw [hy]
     exact Sv.cond_cOk l x c k hr
theorem Sv.conds_cOk (l:List UInt8) (i:Nat) (cs:List Sv.Cond) (j:Nat) (h:Sv.conds l i=.inr (cs,j)):∀ c∈cs,Sv.cOk c:=by
 unfold Sv.conds at h
 cases hr:Sv.cond l i with
 | inl k=>rw [hr] at h; cases h
 | inr p=>
  obtain ⟨c,k⟩:=p
  rw [hr] at h
  refine Sv.cdF_cOk _ l [c] k cs j h ?_
  intro y hy
  rw [List.mem_singleton] at hy
  rw [hy]
  exact Sv.cond_cOk l i c k hr
def Sv.rBd (q:Sv.Rule):Prop:=Sv.rOk q∧q.name.length≤8
theorem Sv.rule_rBd (l:List UInt8) (i:Nat) (hi:i≤l.length) (q:Sv.Rule) (j:Nat) (h:Sv.rule l i=.inr (q,j)):Sv.rBd q:=by
 have hn:=Sv.nmF_le 8 l i hi
 unfold Sv.rule at h
 simp only at h
 split at h
 ·cases h
 ·split at h
  ·cases hr:Sv.conds l (Sv.sk l (Sv.nmF 8 l i)+1) with
   | inl m=>rw [hr] at h; cases h
   | inr p=>
    obtain ⟨cs,m⟩:=p
    rw [hr] at h
    simp only [Sum.inr.injEq,Prod.mk.injEq] at h
    obtain ⟨rfl,_⟩:=h
    refine ⟨Sv.conds_cOk l _ cs m hr,?_⟩
    simp
    omega
  ·cases h
theorem Sv.rlF_rBd (n:Nat) (l:List UInt8) (acc:List Sv.Rule) (i:Nat) (rs:List Sv.Rule) (h:Sv.rlF n l acc i=.inr rs) (ha:∀ q∈acc,Sv.rBd q):∀ q∈rs,Sv.rBd q:=by
 induction n generalizing acc i with
 | zero=>cases h
 | succ n ih=>
  rw [Sv.rlF_step] at h
  split at h
  ·rename_i hlt
   cases hr:Sv.rule l i with
   | inl k=>rw [hr] at h; cases h
   | inr p=>
    obtain ⟨q,k⟩:=p
    rw [hr] at h
    refine ih _ (Sv.sk l k) h ?_
    intro y hy
    rcases List.mem_append.1 hy with hy | hy
    ·exact ha y hy
    ·rw [List.mem_singleton] at hy
     rw [hy]
     exact Sv.rule_rBd l i (by omega) q k hr
  ·simp only [Sum.inr.injEq] at h
   rw [←h]; exact ha
theorem Sv.rules_rBd (l:List UInt8) (rs:List Sv.Rule) (h:Sv.rules l=.inr rs):∀ q∈rs,Sv.rBd q:=Sv.rlF_rBd _ l [] _ rs h (by simp)
theorem fm_bound {α:Type} (f:α→List UInt8) (M:Nat):∀ (ts:List α),(∀ a∈ts,(f a).length≤M)→(ts.flatMap f).length≤ts.length * M
 | [],_=>by simp
 | a :: ts,h=>by
  rw [List.flatMap_cons,List.length_append,List.length_cons]
  have h1:=h a (List.mem_cons_self)
  have h2:=fm_bound f M ts (fun x hx=>h x (List.mem_cons_of_mem _ hx))
  rw [Nat.add_mul]
  omega
theorem Sv.plT_len (t:Sv.Term) (h:Sv.vlOk t):(Sv.plT t).length≤21:=by
 unfold Sv.plT
 obtain ⟨h1,h2⟩:=h
 split
 ·simp
 ·split
  ·simp
  ·split
   ·exact Lib.itoa_length_le _ (by omega) (by omega)
   ·simp
theorem Sv.plC_len (c:Sv.Cond) (h:Sv.cOk c) (hx:Sv.exC c=false):(Sv.plC c).length≤200:=by
 obtain ⟨h1,h2⟩:=h
 have h3:c.terms.length≤4:=by simpa [Sv.exC] using hx
 have h4:=Lib.itoa_length_le (c.kind:Int) (by omega) (by omega)
 have h5:=fm_bound (fun t=>32 :: Sv.plT t) 22 c.terms (fun t ht=>by have:=Sv.plT_len t (h2 t ht); simp; omega)
 have h6:c.terms.length * 22≤4 * 22:=Nat.mul_le_mul_right _ h3
 unfold Sv.plC
 have h7:(if c.neg=true then [33] else ([]:List UInt8)).length≤1:=by split<;>simp
 simp only [List.length_append,List.length_singleton]
 omega
theorem Sv.plR_len (q:Sv.Rule) (h:Sv.rBd q) (hx:Sv.exR q=false):(Sv.plR q).length≤1000:=by
 obtain ⟨h1,h2⟩:=h
 unfold Sv.exR at hx
 rw [Bool.or_eq_false_iff] at hx
 have h3:q.conds.length≤4:=by simpa using hx.1
 have h5:=fm_bound Sv.plC 200 q.conds (fun c hc=>Sv.plC_len c (h1 c hc) (by
  have:=hx.2
  rw [List.any_eq_false] at this
  simpa using this c hc))
 have h6:q.conds.length * 200≤4 * 200:=Nat.mul_le_mul_right _ h3
 unfold Sv.plR
 simp only [List.length_append,List.length_cons,List.length_nil]
 omega
theorem Sv.pl_len (rs:List Sv.Rule) (h:∀ q∈rs,Sv.rBd q) (hx:Sv.ex rs=false):(Sv.pl rs).length≤8000:=by
 unfold Sv.ex at hx
 rw [Bool.or_eq_false_iff] at hx
 have h3:rs.length≤8:=by simpa using hx.1
 have h5:=fm_bound Sv.plR 1000 rs (fun q hq=>Sv.plR_len q (h q hq) (by
  have:=hx.2
  rw [List.any_eq_false] at this
  simpa using this q hq))
 have h6:rs.length * 1000≤8 * 1000:=Nat.mul_le_mul_right _ h3
 unfold Sv.pl
 omega
def Sv.face (l:List UInt8):List UInt8×Nat×Nat:=
 if 400 < l.length then ([],0,2)
 else match Sv.rules l with
  | .inl k=>([],k,1)
  | .inr rs=>if Sv.ex rs=true then ([],0,2) else (Sv.pl rs,rs.length,0)
set_option maxHeartbeats 400000 in
theorem face_bad (s:ByteArray) (aT aL:Addr) (w:World) (hL:LD aT aL w) (hP:3 < w.heap.size) (hm:s.size≤maxLen) (n m:Nat) (hmm:(m=2∧n=0)∨m=1)
  (hp:∀ e w',ParsePost (.iface 345 (.pointer (some aT))) (.iface 345 (.pointer (some aL))) w s e w'→∃ g i,e=.returned (.tuple #[.slice none 0 0,.iface 112 (.pointer (some ⟨g,0,none⟩))])∧w.grownBy w' none∧((m=2∧FAt g i (.iface 345 (.pointer (some aL))) w')∨(m=1∧i=n∧FAt g i (.iface 345 (.pointer (some aT))) w'))) :
  Calls Tryz.prog 16 #[.string s] w fun e w'=>e=.returned (.tuple #[.string ⟨#[]⟩,.int .i64 n,.int .i64 m])∧w.grownBy w' none:=by
 go_enter Tryz.func16,Tryz.ntmps16
 go_wp2_with fail
 refine (parse_w s w _ aT _ aL hL.cT hL.cL hm).mono ?_
 intro e w1 hpost
 obtain ⟨g,i,rfl,hg1,hF⟩:=hp e w1 hpost
 clear hp hpost
 have hL1:=hL.kept hg1 hP
 rcases hF with ⟨rfl,hF⟩ | ⟨rfl,rfl,hF⟩
 ·obtain rfl:n=0:=by rcases hmm with h | h<;>omega
  clear hmm
  go_wp2_with fail
  refine (refusal_limit g i aT aL w1 hL1 hF).mono ?_
  rintro e w2 ⟨rfl,rfl⟩
  go_wp2
  go_ret3
  exact ⟨rfl,hg1⟩
 ·clear hmm
  go_wp2_with fail
  refine (refusal_text g i aT aL w1 hL1 hF).mono ?_
  rintro e w2 ⟨rfl,hg2⟩
  have hg3:=gr_trans hg1 hg2
  go_wp2
  go_ret3
  exact ⟨rfl,hg3⟩
set_option maxHeartbeats 400000 in
theorem face_good (s:ByteArray) (aT aL:Addr) (w:World) (hL:LD aT aL w) (hP:3 < w.heap.size) (hm:s.size≤maxLen) (hs:¬ 400 < s.size) (rs:List Sv.Rule) (hr:Sv.rules s.data.toList=.inr rs) (hx:Sv.ex rs=false) :
  Calls Tryz.prog 16 #[.string s] w fun e w'=>e=.returned (.tuple #[.string ⟨(Sv.pl rs).toArray⟩,.int .i64 rs.length,.int .i64 0])∧w.grownBy w' none:=by
 have hbd:=Sv.rules_rBd _ rs hr
 have hlen:=Sv.pl_len rs hbd hx
 have HR:=hide hr
 have HX:=hide hx
 clear hr hx
 go_enter Tryz.func16,Tryz.ntmps16
 go_wp2_with fail
 refine (parse_w s w _ aT _ aL hL.cT hL.cL hm).mono ?_
 rintro e w1 ⟨hg1,hpost⟩
 rw [if_neg hs,unhide HR] at hpost
 simp only at hpost
 rw [unhide HX,if_neg (by simp)] at hpost
 obtain ⟨u,rfl,hrs⟩:=hpost
 obtain ⟨ao,cap,rfl⟩:=hrs.slice
 have hL1:=hL.kept hg1 hP
 have hrs':RsAt 0 (.slice ao rs.length cap) rs w1:=hrs.weak (Nat.zero_le _)
 go_wp2_with fail
 refine (plain_w rs _ w1 hL1.tab (Nat.lt_of_lt_of_le hP hg1.size) hrs' (fun q hq=>(hbd q hq).1) (by omega)).mono ?_
 rintro e w2 ⟨rfl,hg2⟩
 have hg3:=gr_trans hg1 hg2
 go_wp2
 go_ret3
 exact ⟨rfl,hg3⟩
theorem face_w (s:ByteArray) (aT aL:Addr) (w:World) (hL:LD aT aL w) (hP:3 < w.heap.size) (hm:s.size≤maxLen) :
  Calls Tryz.prog 16 #[.string s] w fun e w'=>e=.returned (.tuple #[.string ⟨(Sv.face s.data.toList).1.toArray⟩,.int .i64 (Sv.face s.data.toList).2.1,.int .i64 (Sv.face s.data.toList).2.2])∧w.grownBy w' none:=by
 by_cases hs:400 < s.size
 ·have e:Sv.face s.data.toList=([],0,2):=by unfold Sv.face; rw [size_list,if_pos hs]
  rw [e]
  refine face_bad s aT aL w hL hP hm 0 2 (.inl ⟨rfl,rfl⟩) ?_
  rintro e w' ⟨hg,hp⟩
  rw [if_pos hs] at hp
  obtain ⟨g,i,he,hF⟩:=hp
  exact ⟨g,i,he,hg,.inl ⟨rfl,hF⟩⟩
 ·cases hr:Sv.rules s.data.toList with
  | inl k=>
   have e:Sv.face s.data.toList=([],k,1):=by unfold Sv.face; rw [size_list,if_neg hs,hr]
   rw [e]
   refine face_bad s aT aL w hL hP hm k 1 (.inr rfl) ?_
   rintro e w' ⟨hg,hp⟩
   rw [if_neg hs,hr] at hp
   obtain ⟨g,he,hF⟩:=hp
   exact ⟨g,k,he,hg,.inr ⟨rfl,rfl,hF⟩⟩
  | inr rs=>
   cases hx:Sv.ex rs
   ·have e:Sv.face s.data.toList=(Sv.pl rs,rs.length,0):=by unfold Sv.face; rw [size_list,if_neg hs,hr]; simp only; rw [hx]; rfl
    rw [e]
    exact face_good s aT aL w hL hP hm hs rs hr hx
   ·have e:Sv.face s.data.toList=([],0,2):=by unfold Sv.face; rw [size_list,if_neg hs,hr]; simp only; rw [hx]; rfl
    rw [e]
    refine face_bad s aT aL w hL hP hm 0 2 (.inl ⟨rfl,rfl⟩) ?_
    rintro e w' ⟨hg,hp⟩
    rw [if_neg hs,hr] at hp
    simp only at hp
    rw [hx,if_pos rfl] at hp
    obtain ⟨g,i,he,hF⟩:=hp
    exact ⟨g,i,he,hg,.inl ⟨rfl,hF⟩⟩
end Go.Proofs.YtolhbeekfjnfmaaGreatDoor

import Derived.Deep.RegionLaw
import Derived.Lib.SliceRun
import Derived.Test.YtolhbeekfjnfmaaGreatDoorK37
namespace Go.Proofs.YtolhbeekfjnfmaaGreatDoor
open Go.RowKit
theorem fenc_flat (l:List Ft):l.flatMap fenc=l.map (fun f=>.pointer (some ⟨f.blk,0,none⟩)):=by
 induction l with
 | nil=>rfl
 | cons f l ih=>rw [List.flatMap_cons,ih]; rfl
def over {α:Type} (l:List α):Nat→List α→List α
 | _,[]=>l
 | o,x :: xs=>over (l.set o x) (o+1) xs
theorem over_len {α:Type}:∀ (xs l:List α) (o:Nat),(over l o xs).length=l.length
 | [],_,_=>rfl
 | x :: xs,l,o=>by unfold over; rw [over_len xs]; exact List.length_set
theorem over_get {α:Type}:∀ (xs l:List α) (o i:Nat),o+xs.length≤l.length→(over l o xs)[i]?=if o≤i∧i < o+xs.length then xs[i - o]? else l[i]?
 | [],l,o,i,_=>by rw [if_neg (by simp)]; rfl
 | x :: xs,l,o,i,h=>by
  simp only [List.length_cons] at h
  unfold over
  rw [over_get xs (l.set o x) (o+1) i (by rw [List.length_set]; omega)]
  by_cases h1:i=o
  ·subst h1
   rw [if_neg (by omega),if_pos (by simp only [List.length_cons]; omega),List.getElem?_set_self (by omega),Nat.sub_self]
   rfl
  ·by_cases h2:o+1≤i∧i < o+1+xs.length
   ·rw [if_pos h2,if_pos (by simp only [List.length_cons]; omega),show i - o=(i - (o+1))+1 from by omega]
    rfl
   ·rw [if_neg h2,if_neg (by simp only [List.length_cons]; omega),List.getElem?_set_ne (fun e=>h1 e.symm)]
theorem own_over {base:Nat} {e:TypeId} {g n cap:Nat}:∀ (vs cells:List Value) (o:Nat) (w:World),w.ownsRow base e 1 (.slice (some ⟨g,0,none⟩) n cap) n cells→(w.setCells g o vs).ownsRow base e 1 (.slice (some ⟨g,0,none⟩) n cap) n (over cells o vs)
 | [],_,_,_,h=>h
 | v :: vs,_,o,_,h=>own_over vs _ (o+1) _ (World.ownsRow.stored h o v).1
theorem erase_over (l:List Ft) (i:Nat) (hi:i < l.length):(over (l.map (fun f=>Value.pointer (some ⟨f.blk,0,none⟩))) i ((l.drop (i+1)).map (fun f=>Value.pointer (some ⟨f.blk,0,none⟩)))).take (l.length - 1)=(l.eraseIdx i).map (fun f=>Value.pointer (some ⟨f.blk,0,none⟩)):=by
 apply List.ext_getElem?
 intro k
 rw [List.getElem?_take,List.getElem?_map,List.getElem?_eraseIdx]
 by_cases hk:k < l.length - 1
 ·rw [if_pos hk,over_get _ _ _ _ (by simp only [List.length_map,List.length_drop]; omega)]
  simp only [List.length_map,List.length_drop]
  by_cases h1:k < i
  ·rw [if_neg (by omega),if_pos h1,List.getElem?_map]
  ·rw [if_pos (by omega),if_neg h1,List.getElem?_map,List.getElem?_drop,show i+1+(k - i)=k+1 from by omega]
 ·rw [if_neg hk]
  by_cases h1:k < i
  ·omega
  ·rw [if_neg h1,List.getElem?_eq_none (by omega)]
   rfl
theorem flat_one (l:List Value):l.flatMap (fun v=>[v])=l:=by
 induction l with
 | nil=>rfl
 | cons v l ih=>rw [List.flatMap_cons,ih]; rfl
theorem own_cut {base:Nat} {e:TypeId} {g n cap:Nat} {cells:List Value} {w:World} (h:w.ownsRow base e 1 (.slice (some ⟨g,0,none⟩) n cap) n cells) (m:Nat) (hm:m≤n):w.ownsRow base e 1 (.slice (some ⟨g,0,none⟩) m cap) m (cells.take m):=by
 have hl:cells.length=n:=by have:=h.1; omega
 have h1:RowAt e 1 (fun v:Value=>[v]) base (.slice (some ⟨g,0,none⟩) n cap) (cells.take m ++ cells.drop m) w:=by
  refine ⟨fun _=>rfl,?_⟩
  rw [List.take_append_drop,flat_one,hl]
  exact h
 have h2:=h1.prefix.2
 rw [flat_one,List.length_take,hl,Nat.min_eq_left hm] at h2
 exact h2
def ptrOf (f:Ft):Value:=.pointer (some ⟨f.blk,0,none⟩)
theorem over_app {α:Type} (l:List α) (x:α) (n:Nat) (h:l.length=n+1):(over l n [x]).take n=l.take n:=by
 apply List.ext_getElem?
 intro k
 rw [List.getElem?_take,List.getElem?_take]
 by_cases hk:k < n
 ·rw [if_pos hk,if_pos hk,over_get _ _ _ _ (by simp only [List.length_singleton]; omega),if_neg (by omega)]
 ·rw [if_neg hk,if_neg hk]
theorem FsAt.erased {g cap:Nat} {l:List Ft} {w:World} (h:FsAt (.slice (some ⟨g,0,none⟩) l.length cap) l w) (i:Nat) (hi:i < l.length) :
  FsAt (.slice (some ⟨g,0,none⟩) (l.length - 1) cap) (l.eraseIdx i) ((w.setCells g i ((l.drop (i+1)).map ptrOf)).setCells g (l.length - 1) [.pointer none]):=by
 refine ⟨h.1,?_⟩
 have h1:=h.2
 rw [fenc_flat] at h1
 have h2:=own_over ((l.drop (i+1)).map ptrOf) _ i w h1
 have h3:=own_cut (own_over [.pointer none] _ (l.length - 1) _ h2) (l.length - 1) (by omega)
 rw [over_app _ _ _ (by rw [over_len,List.length_map]; omega)] at h3
 have e:=erase_over l i hi
 unfold ptrOf at h3 ⊢
 rw [e] at h3
 rw [fenc_flat,List.length_eraseIdx,if_pos hi]
 exact h3
theorem FsAt.there {g n cap:Nat} {l:List Ft} {w:World} (h:FsAt (.slice (some ⟨g,0,none⟩) n cap) l w) (q:Nat) (hq:q < l.length):(w.cell? ⟨g,q,none⟩).isSome=true:=by
 obtain ⟨f,hf⟩:∃ f,l[q]?=some f:=⟨_,List.getElem?_eq_getElem hq⟩
 obtain ⟨g',cap',e,hc⟩:=h.cell hf
 simp only [Value.slice.injEq,Option.some.injEq,Addr.mk.injEq,and_true] at e
 obtain ⟨rfl,_,_⟩:=e
 rw [hc]
 rfl
theorem Tryz.infoPF:∃ j,Tryz.prog.info? 90=some j∧j.size=1∧j.zero=some (.pointer none):=by
 have h1:(Tryz.prog.info? 90).map (fun i=>i.size)=some 1:=by kernel_rfl
 have h2:(Tryz.prog.info? 90).bind (fun i=>i.zero)=some (.pointer none):=by kernel_rfl
 cases hj:Tryz.prog.info? 90 with
 | none=>rw [hj] at h1; cases h1
 | some j=>rw [hj] at h1 h2; simp at h1 h2; exact ⟨j,rfl,h1,h2⟩
theorem run_clearF (w:World) (ty:TypeId) (g o n c:Nat) (hn:0 < n) (hc:∀ j,j < n→(w.cell? ⟨g,o+j,none⟩).isSome=true) (hf:∀ j,w.frozen? ⟨g,j,none⟩=false) :
  (Builtin.clear_ #[86] ty #[.slice (some ⟨g,o,none⟩) n c]).run Tryz.prog w=.ok (.tuple #[]) (w.setCells g o (List.replicate n (.pointer none))):=by
 obtain ⟨j,hj,hs,hz⟩:=Tryz.infoPF
 exact Lib.run_clear_slice w _ _ ty _ Tryz.underlying86 (fun w=>by simp [zeroValue,typeInfo,hj,hz]) rfl rfl g o n c hn hc (fun j _=>hf _)
set_option maxRecDepth 100000 in
set_option maxHeartbeats 4000000 in
theorem sDel_w (g cap:Nat) (l:List Ft) (i:Nat) (w:World) (hr:FsAt (.slice (some ⟨g,0,none⟩) l.length cap) l w) (hi:i < l.length) :
  Calls Tryz.prog 46 #[.slice (some ⟨g,0,none⟩) l.length cap,.int .i64 i,.int .i64 ((i:Int)+1)] w fun e w'=>e=.returned (.slice (some ⟨g,0,none⟩) (l.length - 1) cap)∧w.grownBy w' (some g)∧FsAt (.slice (some ⟨g,0,none⟩) (l.length - 1) cap) (l.eraseIdx i) w':=by
 have hlm:=hr.le
 unfold maxLen at hlm
 have hcap:l.length≤cap:=by
  rcases hr.2.2 with ⟨h1,_⟩ | ⟨g',cap',cur,h1,_,_,h4,_⟩
  ·simp at h1
  ·simp only [Value.slice.injEq,Option.some.injEq,Addr.mk.injEq,and_true] at h1
   omega
 obtain ⟨inf,hinf,hsz,_⟩:=Tryz.infoPF
 obtain ⟨news,hnews⟩:∃ news,news=(l.drop (i+1)).map ptrOf:=⟨_,rfl⟩
 have hlen:news.length=l.length - (i+1):=by rw [hnews]; simp
 have hrd:FsAt (.slice (some ⟨g,0,none⟩) l.length cap) l w.drew:=hr.heap rfl
 have hgetN:∀ t u,news[t]?=some u→w.drew.cell? ⟨g,i+1+t,none⟩=some u:=by
  intro t u hu
  rw [hnews,List.getElem?_map,List.getElem?_drop] at hu
  cases hf:l[i+1+t]? with
  | none=>rw [hf] at hu; cases hu
  | some f=>
   rw [hf] at hu
   obtain ⟨g',cap',e,hc⟩:=hrd.cell hf
   simp only [Value.slice.injEq,Option.some.injEq,Addr.mk.injEq,and_true] at e
   obtain ⟨rfl,_,_⟩:=e
   simp only [Option.map_some,Option.some.injEq] at hu
   rw [hc,←hu]
   rfl
 obtain ⟨A,hA,hsrc⟩:∃ A:Addr,(if cap=i+1 then some (⟨g,0,none⟩:Addr) else some ⟨g,i+1,none⟩)=some A∧Hid (∀ t u,news[t]?=some u→w.drew.cell? (A.add t)=some u):=by
  by_cases h:cap=i+1
  ·refine ⟨⟨g,0,none⟩,by simp [h],hide fun t u hu=>?_⟩
   have h0:news.length=0:=by rw [hlen]; omega
   rw [List.length_eq_zero_iff.1 h0] at hu
   cases hu
  ·exact ⟨⟨g,i+1,none⟩,by simp [h],hide fun t u hu=>by rw [Addr.add_lit]; exact hgetN t u hu⟩
 have s1:=hide (show news.length=(l.length - (i+1)) * 1 by rw [Nat.mul_one]; exact hlen)
 have s2:=hide (show ∀ u∈news,u.oneCell'=true by
  intro u hu
  rw [hnews] at hu
  obtain ⟨x,_,rfl⟩:=List.mem_map.1 hu
  rfl)
 have s3:=hide (show ∀ t,t < news.length→(w.drew.cell? ⟨g,0+i * 1+t,none⟩).isSome=true∧w.drew.frozen? ⟨g,0+i * 1+t,none⟩=false by
  intro t ht
  rw [hlen] at ht
  rw [Nat.mul_one,Nat.zero_add]
  exact ⟨hrd.there _ (by omega),hrd.fz _⟩)
 obtain ⟨W1,hW1⟩:∃ W1,W1=w.drew.setCells g (0+i * 1) news:=⟨_,rfl⟩
 have hW1':W1=w.drew.setCells g i news:=by rw [hW1,Nat.mul_one,Nat.zero_add]
 have hE:=hrd.erased i hi
 rw [←hnews,←hW1'] at hE
 have hg1:w.grownBy W1 (some g):=by rw [hW1']; exact gr_trans (gr_drew (World.grownBy.refl w (some g))) (gr_setCells g news i w.drew)
 have hcl:∀ ty,(Builtin.clear_ #[86] ty #[.slice (some ⟨g,l.length - 1,none⟩) 1 (cap - (l.length - 1))]).run Tryz.prog W1=.ok (.tuple #[]) (W1.setCells g (l.length - 1) [.pointer none]):=by
  intro ty
  have h1:=own_over news _ i w.drew hrd.2
  rw [←hW1'] at h1
  have hl1:(over (l.flatMap fenc) i news).length=l.length:=by rw [over_len,fenc_flat,List.length_map]
  have h2:RowAt 90 1 (fun v:Value=>[v]) 0 (.slice (some ⟨g,0,none⟩) l.length cap) (over (l.flatMap fenc) i news) W1:=⟨fun _=>rfl,by rw [flat_one,hl1]; exact h1⟩
  refine run_clearF W1 ty g (l.length - 1) 1 _ (by omega) (fun j hj=>?_) (fun j=>h2.fz j)
  obtain rfl:j=0:=by omega
  obtain ⟨v,hv⟩:∃ v,(over (l.flatMap fenc) i news)[l.length - 1]?=some v:=⟨_,List.getElem?_eq_getElem (by rw [hl1]; omega)⟩
  obtain ⟨g',cap',e,hc⟩:=h2.cells hv
  simp only [Value.slice.injEq,Option.some.injEq,Addr.mk.injEq,and_true] at e
  obtain ⟨rfl,_,_⟩:=e
  have:=hc 0 (by omega)
  rw [Nat.mul_one] at this
  rw [this]
  rfl
 have HG:=hide (gr_trans hg1 (gr_setCells g [.pointer none] (l.length - 1) W1))
 have HE:=hide hE
 have HW:=hide hW1
 have HINF:=hide hinf
 have hic:i≤cap:=by omega
 have hx1:(0:Int)≤(i:Int)+1:=by omega
 have hx2:(i:Int)+1≤(l.length:Int):=by omega
 have hjc:i+1≤cap:=by omega
 have hk:i+(l.length - (i+1))=l.length - 1:=by omega
 have hk2:l.length - (l.length - 1)=1:=by omega
 clear hW1 hW1' hE hg1 hrd hr hgetN hnews hlen hinf
 go_enter Tryz.func46,Tryz.ntmps46
 go_wp2_with fail
 go_region_law (refine step_append_room rfl (.tmp 22) (.tmp 25) 86 rfl 90 inf 1 Tryz.underlying86 (unhide HINF) hsz g 0 i cap (by simp [Act.eval,Act.put]) A (l.length - (i+1)) (cap - (i+1)) news (by simp [Act.eval,Act.put]) (unhide s1) (unhide hsrc) (unhide s2) (by omega) (unhide s3) ?_; rw [←unhide HW])
 go_wp2
 go_ret
 exact ⟨rfl,unhide HG,unhide HE⟩
end Go.Proofs.YtolhbeekfjnfmaaGreatDoor

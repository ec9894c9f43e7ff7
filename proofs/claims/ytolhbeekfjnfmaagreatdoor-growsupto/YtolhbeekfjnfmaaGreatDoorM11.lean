import Derived.Deep.DeepCutAuto
import Derived.Test.YtolhbeekfjnfmaaGreatDoorM08
import Derived.Test.YtolhbeekfjnfmaaGreatDoorM10
namespace Go.Proofs.YtolhbeekfjnfmaaGreatDoor
open Go.RowKit
theorem vmeets_w (f:Sv.Fact) (c:Sv.Cond) (fa ta:Option Addr) (fc tc:Nat) (bv:Value) (b:Sv.Bs) (w:World)
  (hf:IsAt 0 (.slice fa f.vals.length fc) f.vals w) (ht:TmsAt 0 (.slice ta c.terms.length tc) c.terms w) (hb:BsAt 0 bv b w)
  (hf4:f.vals.length≤4) (hn4:c.terms.length≤4) (hbl:b.length≤100) (hsh:∀ t∈c.terms,Sv.tmOk t) :
  Calls Tryz.prog 121 #[.agg #[.int .i64 f.kind,.slice fa f.vals.length fc],.agg #[.bool c.neg,.int .i64 c.kind,.slice ta c.terms.length tc],bv] w fun e w'=>
   ∃ ao n cap,e=.returned (.tuple #[.slice ao n cap,.bool (Sv.meets f c b).isSome])∧w.grownBy w' none∧Hid (∀ b',Sv.meets f c b=some b'→BsAt w.heap.size (.slice ao n cap) b' w'):=by
 by_cases h:f.kind=(c.kind:Int)∧f.vals.length=c.terms.length
 ·have e:Sv.meets f c b=Sv.meetT c.terms f.vals b:=by unfold Sv.meets; rw [if_pos h]
  refine (vmeets_yes f c fa ta fc tc bv b w hf ht hb h.1 h.2 hn4 hbl hsh _ e.symm).mono ?_
  rintro x w' ⟨hg,hp⟩
  cases hm:Sv.meets f c b with
  | none=>
   rw [hm] at hp
   exact ⟨none,0,0,hp,hg,by intro b' hb'; cases hb'⟩
  | some b1=>
   rw [hm] at hp
   obtain ⟨u,rfl,hu⟩:=hp
   obtain ⟨ao,cap,rfl⟩:=hu.slice
   exact ⟨ao,_,cap,rfl,hg,by intro b' hb'; cases hb'; exact hu⟩
 ·have e:Sv.meets f c b=none:=by unfold Sv.meets; rw [if_neg h]
  refine (vmeets_no f.kind c.kind c.neg fa ta _ fc _ tc bv w h (by omega) (by omega)).mono ?_
  rintro x w' ⟨hg,hp⟩
  rw [e]
  exact ⟨none,0,0,hp,hg,by intro b' hb'; cases hb'⟩
structure VTh where
 id:Int
 kind:Int
 v:Value
 vals:List Int
def thenc (t:VTh):List Value:=[.int .i64 t.id,.int .i64 t.kind,t.v]
theorem thenc_len (t:VTh):(thenc t).length=3:=rfl
def VTh.of (t:VTh):Int×Sv.Fact:=(t.id,⟨t.kind,t.vals⟩)
structure VMt where
 rule:Int
 v:Value
 ids:List Int
def mtenc (m:VMt):List Value:=[.int .i64 m.rule,m.v]
theorem mtenc_len (m:VMt):(mtenc m).length=2:=rfl
def VMt.of (m:VMt):Int×List Int:=(m.rule,m.ids)
structure YAt (y:Nat) (rv lv cv fv:Value) (rs:List Sv.Rule) (L:List VTh) (w:World):Prop where
 blk:w.heap[y]?=some (.cells #[rv,lv,cv,fv] 172 (0,0))
 rules:VRsAt 0 rv rs w
 facts:RowAt 176 3 thenc 0 lv L w
 vals:∀ t∈L,IsAt 0 t.v t.vals w∧t.vals.length≤4
theorem YAt.gr {y:Nat} {rv lv cv fv:Value} {rs:List Sv.Rule} {L:List VTh} {w w':World} (h:YAt y rv lv cv fv rs L w) (hg:w.grownBy w' none):YAt y rv lv cv fv rs L w':=
 ⟨by rw [hg.block y (row_lt h.blk) (by simp)]; exact h.blk,h.rules.none hg,h.facts.gr hg,fun t ht=>⟨(h.vals t ht).1.gr hg,(h.vals t ht).2⟩⟩
theorem YAt.c {y:Nat} {rv lv cv fv:Value} {rs:List Sv.Rule} {L:List VTh} {w:World} (h:YAt y rv lv cv fv rs L w):w.cell? ⟨y,0,none⟩=some rv∧w.cell? ⟨y,1,none⟩=some lv∧w.cell? ⟨y,2,none⟩=some cv∧w.cell? ⟨y,3,none⟩=some fv:=by
 have:=h.blk
 refine ⟨?_,?_,?_,?_⟩<;>simp [World.cell?,this]
def MsAt (base:Nat) (v:Value) (ms:List VMt) (w:World):Prop:=RowAt 52 2 mtenc base v ms w∧∀ m∈ms,IsAt base m.v m.ids w
theorem MsAt.gr {base:Nat} {v:Value} {ms:List VMt} {w w':World} (h:MsAt base v ms w) (hg:w.grownBy w' none):MsAt base v ms w':=⟨h.1.gr hg,fun m hm=>(h.2 m hm).gr hg⟩
theorem VTsAt.tms {base:Nat} {v:Value} {ts:List Sv.Term} {w:World} (h:VTsAt base v ts w):TmsAt base v ts w:=⟨fun _=>rfl,h⟩
theorem Sv.tSh.ok {t:Sv.Term} (h:Sv.tSh t):Sv.tmOk t:=h
theorem Tryz.infoMatch:(Tryz.prog.info? 52).map (fun i=>(i.zero,i.size,i.bytes))=some (some (.agg #[.int .i64 0,.slice none 0 0]),2,32):=by kernel_rfl
def FromPost (r:Nat) (L:List VTh) (cs:List Sv.Cond) (b:Sv.Bs) (ids:List Int) (w:World) (e:Ending) (w':World):Prop:=
 ∃ u ms,e=.returned u∧MsAt w.heap.size u ms w'∧ms.map VMt.of=(Sv.fromD (L.map VTh.of) cs b ids).map (fun x=>((r:Int),x))∧w.grownBy w' none
set_option maxRecDepth 100000 in
set_option maxHeartbeats 400000 in
theorem vfrom_end (y:Nat) (rv lv cv fv:Value) (rs:List Sv.Rule) (L:List VTh) (r:Nat) (q:Sv.Rule) (b:Sv.Bs) (bv:Value) (ids:List Int) (iv:Value) (w:World)
  (hy:YAt y rv lv cv fv rs L w) (hq:rs[r]?=some q) (_hr8:rs.length≤8) (_hc4:q.conds.length≤4) (hi:IsAt 0 iv ids w) (hil:ids.length≤4) :
  Calls Tryz.prog 84 #[.pointer (some ⟨y,0,none⟩),.int .i64 r,.int .i64 q.conds.length,bv,iv] w fun e w'=>FromPost r L [] b ids w e w':=by
 obtain ⟨y0,y1,y2,y3⟩:=hy.c
 have hr:r < rs.length:=(List.getElem?_eq_some_iff.1 hq).1
 obtain ⟨g,cap',ao2,cap2,hv,q0,q1,hcs⟩:=hy.rules.cells hq
 subst hv
 have hd:((q.conds.length:Int) == (q.conds.length:Int))=true:=by simp
 clear hcs hy
 go_enter Tryz.func84,Tryz.ntmps84
 go_wp2_with (at_builtin; refine app_row rfl _ _ 35 rfl Tryz.underlying35 Tryz.infoInt rfl (by decide) rfl (RowAt.lit0 ienc_len w) rfl (hi.gr (World.grownBy_alloc w (.cells #[] 3) none)) (fun y _=>ienc_one y) (by unfold maxLen; simp; omega) (by simp; omega) (by simp) ?_)
 intro v1 w1 hv1 hg1
 have hg01:=gr_app (World.grownBy_alloc w (.cells #[] 3) none) hg1 (fun g hg=>by simp [Value.ownBlock] at hg; omega)
 obtain ⟨ao,cap,rfl⟩:=hv1.slice
 clear hg1 hi q0 q1 y0 y1 y2 y3
 go_wp2
 go_ret
 have hgA:=World.grownBy_alloc w1 (.cells #[.int .i64 r,.slice ao ids.length cap] 52) none
 refine ⟨_,[⟨r,.slice ao ids.length cap,ids⟩],rfl,⟨(RowAt.lit1 mtenc_len w1 ⟨r,.slice ao ids.length cap,ids⟩ #[.int .i64 r,.slice ao ids.length cap] rfl).weak hg01.size,?_⟩,by simp [Sv.fromD,VMt.of],gr_trans hg01 hgA⟩
 intro m hm
 simp only [List.mem_singleton] at hm
 subst hm
 exact hv1.gr hgA
def FromNext (y:Nat) (rv lv cv fv:Value) (rs:List Sv.Rule) (L:List VTh) (r:Nat) (q:Sv.Rule) (k:Nat):Prop:=
 ∀ (b:Sv.Bs) (bv:Value) (ids:List Int) (iv:Value) (w:World),YAt y rv lv cv fv rs L w→BsAt 0 bv b w→IsAt 0 iv ids w→b.length≤4 * k→ids.length≤k→
  Calls Tryz.prog 84 #[.pointer (some ⟨y,0,none⟩),.int .i64 r,.int .i64 k,bv,iv] w fun e w'=>FromPost r L (q.conds.drop k) b ids w e w'
theorem dec_ne (a b:Nat) (h:a≠b):((a:Int) == (b:Int))=false:=by
 simp only [beq_eq_false_iff_ne,ne_eq]; omega
def Sv.gotF (r:Nat) (c:Sv.Cond) (cs:List Sv.Cond) (A:List (Int×Sv.Fact)) (b:Sv.Bs) (ids:List Int) (l:List (Int×Sv.Fact)):List (Int×List Int):=
 if c.neg=true then [] else l.flatMap fun p=>match Sv.meets p.2 c b with
  | none=>[]
  | some b'=>(Sv.fromD A cs b' (ids ++ [p.1])).map (fun x=>((r:Int),x))
def Sv.heldF (c:Sv.Cond) (b:Sv.Bs) (l:List (Int×Sv.Fact)):Bool:=c.neg && l.any (fun p=>(Sv.meets p.2 c b).isSome)
theorem Sv.gotF_all (r:Nat) (c:Sv.Cond) (cs:List Sv.Cond) (A:List (Int×Sv.Fact)) (b:Sv.Bs) (ids:List Int) (h:c.neg=false) :
  Sv.gotF r c cs A b ids A=(Sv.fromD A (c :: cs) b ids).map (fun x=>((r:Int),x)):=by
 have e:Sv.fromD A (c :: cs) b ids=A.flatMap (fun p=>match Sv.meets p.2 c b with
   | none=>[]
   | some b'=>Sv.fromD A cs b' (ids ++ [p.1])):=by
  rw [Sv.fromD,if_neg (by simp [h])]
  rfl
 unfold Sv.gotF
 rw [e,if_neg (by simp [h]),List.map_flatMap]
 congr 1
 funext p
 cases Sv.meets p.2 c b<;>rfl
theorem Sv.fromD_held (c:Sv.Cond) (cs:List Sv.Cond) (A:List (Int×Sv.Fact)) (b:Sv.Bs) (ids:List Int) (h:c.neg=true):Sv.fromD A (c :: cs) b ids=if Sv.heldF c b A=true then [] else Sv.fromD A cs b ids:=by
 rw [Sv.fromD,if_pos h]
 unfold Sv.heldF
 rw [h,Bool.true_and]
theorem Sv.gotF_snoc (r:Nat) (c:Sv.Cond) (cs:List Sv.Cond) (A:List (Int×Sv.Fact)) (b:Sv.Bs) (ids:List Int) (l:List (Int×Sv.Fact)) (p:Int×Sv.Fact) :
  Sv.gotF r c cs A b ids (l ++ [p])=Sv.gotF r c cs A b ids l ++ (if c.neg=true then [] else match Sv.meets p.2 c b with
   | none=>[]
   | some b'=>(Sv.fromD A cs b' (ids ++ [p.1])).map (fun x=>((r:Int),x))):=by
 unfold Sv.gotF
 split
 ·rfl
 ·rw [List.flatMap_append,List.flatMap_singleton]
theorem Sv.heldF_snoc (c:Sv.Cond) (b:Sv.Bs) (l:List (Int×Sv.Fact)) (p:Int×Sv.Fact):Sv.heldF c b (l ++ [p])=(Sv.heldF c b l || (c.neg && (Sv.meets p.2 c b).isSome)):=by
 unfold Sv.heldF
 rw [List.any_append,Bool.and_or_distrib_left]
 simp
theorem take_map_snoc {α β:Type} (f:α→β) (l:List α) (i:Nat) (a:α) (h:l[i]?=some a):(l.take (i+1)).map f=(l.take i).map f ++ [f a]:=by
 rw [List.take_add_one,h,List.map_append]; rfl
theorem Sv.fromD_len4 (A:List (Int×Sv.Fact)) (hA:A.length≤16) (cs:List Sv.Cond) (b:Sv.Bs) (ids:List Int) (hc:cs.length≤4):(Sv.fromD A cs b ids).length≤65536:=
 Nat.le_trans (Sv.fromD_len A hA cs b ids) (Nat.le_trans (Nat.pow_le_pow_right (by omega) hc) (by decide))
theorem Sv.gotF_len (r:Nat) (c:Sv.Cond) (cs:List Sv.Cond) (A:List (Int×Sv.Fact)) (b:Sv.Bs) (ids:List Int) (l:List (Int×Sv.Fact)) (hA:A.length≤16) (hl:l.length≤16) (hc:cs.length≤4):(Sv.gotF r c cs A b ids l).length≤1048576:=by
 unfold Sv.gotF
 split
 ·simp
 ·refine Nat.le_trans (Sv.flatMap_len _ 65536 l ?_) ?_
  ·intro p _
   cases Sv.meets p.2 c b with
   | none=>simp
   | some b'=>
    simp only [List.length_map]
    exact Sv.fromD_len4 A hA cs b' _ hc
  ·have:=Nat.mul_le_mul_right 65536 hl
   omega
theorem mtenc_one_of (m:VMt) (h:m.v.oneCell'=true):∀ c∈mtenc m,c.oneCell'=true:=by
 intro c hc
 simp [mtenc] at hc
 rcases hc with rfl | rfl
 ·rfl
 ·exact h
theorem MsAt.one {base:Nat} {v:Value} {ms:List VMt} {w:World} (h:MsAt base v ms w):∀ m∈ms,∀ c∈mtenc m,c.oneCell'=true:=by
 intro m hm
 obtain ⟨ao,cap,e⟩:=(h.2 m hm).slice
 exact mtenc_one_of m (by rw [e]; rfl)
theorem MsAt.slice {base:Nat} {v:Value} {ms:List VMt} {w:World} (h:MsAt base v ms w):∃ ao cap,v=.slice ao ms.length cap:=h.1.slice
set_option maxRecDepth 100000 in
set_option maxHeartbeats 4000000 in
theorem vfrom_step (y:Nat) (rv lv cv fv:Value) (rs:List Sv.Rule) (L:List VTh) (r:Nat) (q:Sv.Rule) (k:Nat) (c:Sv.Cond) (b:Sv.Bs) (bv:Value) (ids:List Int) (iv:Value) (w:World)
  (hy:YAt y rv lv cv fv rs L w) (hq:rs[r]?=some q) (_hr8:rs.length≤8) (hc4:q.conds.length≤4) (hL:L.length≤16) (hck:q.conds[k]?=some c) (ht4:c.terms.length≤4) (hsh:∀ t∈c.terms,Sv.tmOk t)
  (hb:BsAt 0 bv b w) (hi:IsAt 0 iv ids w) (hbl:b.length≤4 * k) (hil:ids.length≤k) (ih:FromNext y rv lv cv fv rs L r q (k+1)) :
  Calls Tryz.prog 84 #[.pointer (some ⟨y,0,none⟩),.int .i64 r,.int .i64 k,bv,iv] w fun e w'=>FromPost r L (q.conds.drop k) b ids w e w':=by
 have hr:r < rs.length:=(List.getElem?_eq_some_iff.1 hq).1
 have hk:k < q.conds.length:=(List.getElem?_eq_some_iff.1 hck).1
 have hdrop:=drop_get hck
 obtain ⟨g,cap',ao2,cap2,hv,q0,q1,hcs⟩:=hy.rules.cells hq
 subst hv
 obtain ⟨y0,y1,y2,y3⟩:=hy.c
 obtain ⟨g2,cap3,ao3,cap4,hv2,p0,p1,p2,hts⟩:=hcs.cells hck
 simp only [Value.slice.injEq,true_and] at hv2
 obtain ⟨rfl,rfl⟩:=hv2
 obtain ⟨aoL,capL,rfl⟩:=hy.facts.slice
 have hd:((k:Int) == (q.conds.length:Int))=false:=dec_ne _ _ (by omega)
 have HY:=hide hy
 have HT:=hide hts.tms
 have HB:=hide hb
 have HI:=hide hi
 have HS:=hide hsh
 have HIH:=hide ih
 have HD:=hide hdrop
 clear hcs hy hts hb hi hsh hck ih hq hdrop
 obtain ⟨cs,hcsd⟩:∃ cs,q.conds.drop (k+1)=cs:=⟨_,rfl⟩
 have HCS:=hide hcsd
 clear hcsd
 go_enter Tryz.func84,Tryz.ntmps84
 go_wp2
 go_loopw [12,13,14] (fun x h z w'=>∃ (i:Nat) (acc:List VMt),i≤L.length∧MsAt w.heap.size x acc w'∧acc.map VMt.of=Sv.gotF r c cs (L.map VTh.of) b ids ((L.take i).map VTh.of)∧h=.bool (Sv.heldF c b ((L.take i).map VTh.of))∧z=.int .i64 i∧w.grownBy w' none) (fun _ _ z _=>L.length - (intOf z).toNat)
 case atStart=>
  refine ⟨0,[],Nat.zero_le _,⟨RowAt.nil _ _ mtenc_len,by simp⟩,?_,?_,rfl,World.grownBy.refl _ _⟩
  ·simp [Sv.gotF]
  ·simp [Sv.heldF]
 case round=>
  obtain ⟨i,acc,hiL,hacc,hgot,rfl,rfl,hg⟩:=hrel
  obtain ⟨aoA,capA,rfl⟩:=hacc.slice
  have y1':=hg.cell y1 (by simp)
  have p0':=hg.cell p0 (by simp)
  have p1':=hg.cell p1 (by simp)
  have p2':=hg.cell p2 (by simp)
  generalize hH:Sv.heldF c b ((L.take i).map VTh.of)=h0
  have HH:=hide hH
  have HG:=hide hgot
  clear hH hgot y0 y2 y3 q0 q1
  by_cases hlt:i < L.length
  ·have hdi:decide (i < L.length)=true:=by simpa using hlt
   obtain ⟨t,htt⟩:∃ t,L[i]?=some t:=⟨L[i],List.getElem?_eq_getElem hlt⟩
   obtain ⟨hvals,hv4⟩:=(unhide HY).vals t (List.mem_of_getElem? htt)
   obtain ⟨fa,fc,hfv⟩:=hvals.slice
   obtain ⟨gL,cpL,hvL,hcL⟩:=((unhide HY).facts.gr hg).cells htt
   simp only [Value.slice.injEq,true_and] at hvL
   obtain ⟨rfl,rfl⟩:=hvL
   have t0:wr.cell? ⟨gL,i * 3,none⟩=some (.int .i64 t.id):=hcL 0 (by omega)
   have t1:wr.cell? ⟨gL,i * 3+1,none⟩=some (.int .i64 t.kind):=hcL 1 (by omega)
   have t2:wr.cell? ⟨gL,i * 3+2,none⟩=some t.v:=hcL 2 (by omega)
   rw [hfv] at t2 hvals
   have hm:=fun (W:World) (hW:wr.grownBy W none)=>vmeets_w ⟨t.kind,t.vals⟩ c fa ao3 fc cap4 bv b W (hvals.gr (gr_trans hg hW)) ((unhide HT).gr (gr_trans hg hW)) ((unhide HB).gr (gr_trans hg hW)) hv4 ht4 (by omega) (unhide HS)
   have hst1:=Sv.gotF_snoc r c cs (L.map VTh.of) b ids ((L.take i).map VTh.of) t.of
   have hst2:=Sv.heldF_snoc c b ((L.take i).map VTh.of) t.of
   rw [←take_map_snoc VTh.of L i t htt,←unhide HG] at hst1
   have HG2:=hide (unhide HG)
   rw [←take_map_snoc VTh.of L i t htt,unhide HH] at hst2
   have hof:(t.of).2=⟨t.kind,t.vals⟩:=rfl
   rw [hof] at hst1 hst2
   have HST1:=hide hst1
   have HST2:=hide hst2
   clear hst1 hst2 hvals hcL htt hfv hof HG HH
   obtain ⟨R,hR⟩:∃ R,Sv.meets ⟨t.kind,t.vals⟩ c b=R:=⟨_,rfl⟩
   have hRl:∀ b',R=some b'→b'.length≤4 * (k+1):=by
    intro b' hb'
    have:=Sv.meets_len _ c b b' (hR.trans hb')
    omega
   rw [hR] at hm
   have hst1:=unhide HST1
   have hst2:=unhide HST2
   rw [hR] at hst1 hst2
   clear HST1 HST2 hR
   have HST1:=hide hst1
   have HST2:=hide hst2
   have HRL:=hide hRl
   clear hst1 hst2 hRl
   obtain ⟨ok,hok⟩:∃ ok,R.isSome=ok:=⟨_,rfl⟩
   rw [hok] at hm
   have HOK:=hide hok
   clear hok
   obtain ⟨neg,hneg⟩:∃ neg,c.neg=neg:=⟨_,rfl⟩
   rw [hneg] at p0' hm
   have HNG:=hide hneg
   clear hneg
   go_wp2_with fail
   go_cut [15,16] (fun m o wx=>∃ ao n cap,m=.slice ao n cap∧o=.bool ok∧wr.grownBy wx none∧Hid (∀ b',R=some b'→BsAt 0 (.slice ao n cap) b' wx))
   case first=>
    go_region_with (go_at_call 121; refine (hm _ (by repeat (first | exact World.grownBy.refl _ _ | apply gr_drew))).mono ?_; rintro e w2 ⟨ao5,n5,cap5,rfl,hg2,hB2⟩)
    all_goals
     go_wp2_with fail
     go_meet
     exact ⟨ao5,n5,cap5,rfl,rfl,gr_trans (gr_drew (World.grownBy.refl _ _)) hg2,fun b' hb'=>(unhide hB2 b' hb').weak (Nat.zero_le _)⟩
   case rest=>
    obtain ⟨ao5,n5,cap5,rfl,rfl,hg2,hB2⟩:=hcut
    have hgc:=gr_trans hg hg2
    have hacc2:=hacc.gr hg2
    have y12:=hg2.cell y1' (by simp)
    have p02:=hg2.cell p0' (by simp)
    have t02:=hg2.cell t0 (by simp)
    clear hm hg2 y1' p0' p1' p2' t0 t1 t2 hg hacc
    cases ok
    ·have hR:=unhide HOK
     simp only [Option.isSome_eq_false_iff,Option.isNone_iff_eq_none] at hR
     have h1:=unhide HST1
     have h2:=unhide HST2
     rw [hR] at h1 h2
     simp only [ite_self,List.append_nil,Option.isSome_none,Bool.and_false,Bool.or_false] at h1 h2
     have H1:=hide h1
     have H2:=hide h2
     clear h1 h2 hR HST1 HST2
     go_wp2
     go_roundw
     case rel=>exact ⟨i+1,acc,by omega,hacc2,(unhide H1).symm,by rw [unhide H2],by go_num,hgc⟩
     case measure=>simp [intOf]; omega
    ·obtain ⟨b',hb'⟩:=Option.isSome_iff_exists.1 (unhide HOK)
     have hB:=unhide hB2 b' hb'
     have hbl':=unhide HRL b' hb'
     have h1:=unhide HST1
     have h2:=unhide HST2
     rw [hb'] at h1 h2
     cases neg
     ·have hng:=unhide HNG
      rw [hng] at h1 h2
      simp only [Bool.false_eq_true,if_false,Bool.false_and,Bool.or_false] at h1 h2
      have H1:=hide h1
      have H2:=hide h2
      clear h1 h2 HST1 HST2 hB2 hb' HRL HOK
      have hIc:=(unhide HI).gr hgc
      have hYc:=(unhide HY).gr hgc
      go_wp2_with (at_builtin; refine app_row rfl _ _ 35 rfl Tryz.underlying35 Tryz.infoInt rfl (by decide) rfl (RowAt.nil wc.heap.size _ ienc_len) rfl hIc (fun y _=>ienc_one y) (by unfold maxLen; simp; omega) (by simp; omega) (Nat.le_refl _) ?_)
      intro v1 w1 hv1 hg1
      have hg1':wc.grownBy w1 none:=hg1
      obtain ⟨ao6,cap6,rfl⟩:=hv1.slice
      have y13:=hg1'.cell y12 (by simp)
      have t03:=hg1'.cell t02 (by simp)
      have hgA:=World.grownBy_alloc w1 (.cells #[.int .i64 t.id] 3) none
      have hv1':=hv1.gr hgA
      have hsrc:IsAt 0 _ [t.id] (w1.alloc (.cells #[.int .i64 t.id] 3)):=(RowAt.lit1 ienc_len w1 t.id #[.int .i64 t.id] rfl).weak (Nat.zero_le _)
      go_wp2_with (at_builtin; refine app_row rfl _ _ 35 rfl Tryz.underlying35 Tryz.infoInt rfl (by decide) rfl hv1' rfl hsrc (fun y _=>ienc_one y) (by unfold maxLen; simp; omega) (by simp; omega) (Nat.le_trans hg1'.size hgA.size) ?_)
      intro v2 w2 hv2 hg2
      have hg2':=gr_app (gr_trans hg1' hgA) hg2 (fun x hx=>(hv1'.own x hx).1)
      obtain ⟨ao7,cap7,rfl⟩:=hv2.slice
      rw [List.length_append,List.length_singleton] at hv2
      have hIH:=unhide HIH b' _ (ids ++ [t.id]) _ w2 (hYc.gr hg2') (hB.gr hg2') (hv2.weak (Nat.zero_le _)) hbl' (by simp; omega)
      have hacc3:=hacc2.gr hg2'
      have p03:=hg2'.cell p02 (by simp)
      have hgc2:=gr_trans hgc hg2'
      clear hv1 hv1' hg1 hg1' hgA hsrc hg2 hv2 y12 y13 t02 t03 p02 hB hIc hYc hacc2
      have hcast:((k+1:Nat):Int)=(k:Int)+1:=by omega
      rw [hcast] at hIH
      have hlenA:acc.length≤1048576:=by
       have e1:=congrArg List.length (unhide HG2)
       rw [List.length_map] at e1
       rw [e1]
       exact Sv.gotF_len r c cs (L.map VTh.of) b ids _ (by simp; omega) (by simp; omega) (by rw [←unhide HCS]; simp; omega)
      have HLA:=hide hlenA
      have hlenB:=Sv.fromD_len4 (L.map VTh.of) (by simp; omega) (q.conds.drop (k+1)) b' (ids ++ [t.id]) (by simp; omega)
      have HLB:=hide hlenB
      clear hlenA hlenB
      go_wp2_with fail
      refine hIH.mono ?_
      rintro e w3 ⟨u,ms,rfl,hms,hmap,hg3⟩
      have hlenM:acc.length+ms.length≤1114112:=by
       have e1:=congrArg List.length hmap
       rw [List.length_map,List.length_map] at e1
       have e2:=unhide HLA
       have e3:=unhide HLB
       omega
      have hbd1:acc.length+ms.length≤maxLen:=by unfold maxLen; omega
      have hbd2:(acc.length+ms.length) * 32≤140737488355328:=by omega
      have HB1:=hide hbd1
      have HB2:=hide hbd2
      have HMP:=hide hmap
      clear hlenM hbd1 hbd2 hmap HLA HLB
      obtain ⟨ao8,cap8,rfl⟩:=hms.slice
      have hacc4:=hacc3.gr hg3
      have p04:=hg3.cell p03 (by simp)
      have hgc3:=gr_trans hgc2 hg3
      have hrow:=RowOk.of hacc4.1.2
      have hso:=hacc4.1.own
      have hms0:RowAt 52 2 mtenc 0 _ ms w3:=hms.1.weak (Nat.zero_le _)
      have hcs5:w.heap.size≤w3.heap.size:=hgc3.size
      have hcs6:w.heap.size≤w2.heap.size:=hgc2.size
      clear hIH hg3 hgc2 hacc3 p03
      go_wp2_with (at_builtin; refine app_row rfl _ _ 43 rfl Tryz.underlying43 Tryz.infoMatch rfl (by decide) rfl hacc4.1 rfl hms0 (fun m hm=>hms.one m hm) (unhide HB1) (unhide HB2) hcs5 ?_)
      intro v5 w5 hv5 hg5
      obtain ⟨ao9,cap9,rfl⟩:=hv5.slice
      have hgc5:=gr_app hgc3 hg5 (fun x hx=>(hso x hx).1)
      have hms5:MsAt w.heap.size (.slice ao9 (acc ++ ms).length cap9) (acc ++ ms) w5:=by
       refine ⟨hv5,fun m hm=>?_⟩
       rcases List.mem_append.1 hm with hm | hm
       ·exact (hacc4.2 m hm).row hg5 hrow (by decide)
       ·exact ((hms.2 m hm).weak hcs6).row hg5 hrow (by decide)
      have hmapF:(acc ++ ms).map VMt.of=Sv.gotF r c cs (L.map VTh.of) b ids ((L.take (i+1)).map VTh.of):=by
       rw [List.map_append,unhide HMP,unhide HCS,unhide H1]
       rfl
      have HMF:=hide hmapF
      clear hmapF HMP HB1 HB2 hv5 hg5 hacc4 hms hms0 hrow hso hgc3 p04
      go_wp2
      go_roundw
      case rel=>exact ⟨i+1,acc ++ ms,by omega,hms5,unhide HMF,by rw [unhide H2],by go_num,hgc5⟩
      case measure=>simp [intOf]; omega
     ·have hng:=unhide HNG
      rw [hng] at h1 h2
      simp only [if_true,List.append_nil,Option.isSome_some,Bool.and_true,Bool.or_true] at h1 h2
      have H1:=hide h1
      have H2:=hide h2
      clear h1 h2 HST1 HST2 hB2 hb' HRL HOK hB hbl'
      go_wp2
      go_roundw
      case rel=>exact ⟨i+1,acc,by omega,hacc2,(unhide H1).symm,by rw [unhide H2],by go_num,hgc⟩
      case measure=>simp [intOf]; omega
  ·have hdi:decide (i < L.length)=false:=by simpa using hlt
   have hall:L.take i=L:=List.take_of_length_le (by omega)
   have hG:=unhide HG
   have hHh:=unhide HH
   rw [hall] at hG hHh
   clear HG HH
   cases hneg:c.neg
   ·rw [hneg] at p0'
    rw [Sv.gotF_all r c cs _ b ids hneg] at hG
    have HG:=hide hG
    have HN:=hide hneg
    clear hG hHh hneg
    go_wp2
    go_ret
    refine ⟨_,acc,rfl,hacc,?_,hg⟩
    rw [unhide HG,unhide HD,unhide HCS]
   ·rw [hneg] at p0'
    have hF:=Sv.fromD_held c cs (L.map VTh.of) b ids hneg
    rw [hHh] at hF
    have hA:acc=[]:=by
     have:Sv.gotF r c cs (L.map VTh.of) b ids (L.map VTh.of)=[]:=by unfold Sv.gotF; rw [if_pos hneg]
     rw [this] at hG
     exact List.map_eq_nil_iff.1 hG
    have HF:=hide hF
    have HA:=hide hA
    clear hG hHh hneg hF hA
    cases h0
    ·have hIH:=unhide HIH b bv ids iv wr ((unhide HY).gr hg) ((unhide HB).gr hg) ((unhide HI).gr hg) (by omega) (by omega)
     have hcast:((k+1:Nat):Int)=(k:Int)+1:=by omega
     rw [hcast] at hIH
     go_wp2_with fail
     refine hIH.mono ?_
     rintro e w3 ⟨u,ms,rfl,hms,hmap,hg3⟩
     go_wp2
     go_ret
     refine ⟨_,ms,rfl,?_,?_,gr_trans hg hg3⟩
     ·exact ⟨hms.1.weak hg.size,fun m hm=>(hms.2 m hm).weak hg.size⟩
     ·rw [hmap,unhide HD,unhide HCS,unhide HF]
      rfl
    ·go_wp2
     go_ret
     refine ⟨_,acc,rfl,hacc,?_,hg⟩
     rw [unhide HA,unhide HD,unhide HCS,unhide HF]
     rfl
end Go.Proofs.YtolhbeekfjnfmaaGreatDoor
namespace Go.Proofs.YtolhbeekfjnfmaaGreatDoor
open Go.RowKit
theorem vfrom_w (y:Nat) (rv lv cv fv:Value) (rs:List Sv.Rule) (L:List VTh) (r:Nat) (q:Sv.Rule) (hq:rs[r]?=some q) (hok:Sv.RsOk rs) (hL:L.length≤16) :
  ∀ (m k:Nat),k+m=q.conds.length→FromNext y rv lv cv fv rs L r q k
 | 0,k,h=>by
  intro b bv ids iv w hy _ hi _ hil
  have hqm:=List.mem_of_getElem? hq
  have h4:=hok.conds q hqm
  have e:k=q.conds.length:=by omega
  subst e
  rw [List.drop_length]
  exact vfrom_end y rv lv cv fv rs L r q b bv ids iv w hy hq hok.len h4 hi (by omega)
 | m+1,k,h=>by
  intro b bv ids iv w hy hb hi hbl hil
  have hqm:=List.mem_of_getElem? hq
  have hk:k < q.conds.length:=by omega
  have hck:q.conds[k]?=some q.conds[k]:=List.getElem?_eq_getElem hk
  have hcm:=List.mem_of_getElem? hck
  exact vfrom_step y rv lv cv fv rs L r q k q.conds[k] b bv ids iv w hy hq hok.len (hok.conds q hqm) hL hck (hok.terms q hqm _ hcm) (hok.shape q hqm _ hcm) hb hi hbl hil
   (vfrom_w y rv lv cv fv rs L r q hq hok hL m (k+1) (by omega))
theorem Sv.matF_app (L:List (Int×Sv.Fact)):∀ (a b:List Sv.Rule) (r:Nat),Sv.matF L r (a ++ b)=Sv.matF L r a ++ Sv.matF L (r+a.length) b
 | [],b,r=>by simp [Sv.matF]
 | q :: a,b,r=>by
  rw [List.cons_append,Sv.matF,Sv.matF,Sv.matF_app L a b (r+1),List.length_cons,List.append_assoc]
  congr 3
  omega
theorem Sv.mat_take (L:List (Int×Sv.Fact)) (rs:List Sv.Rule) (r:Nat) (q:Sv.Rule) (h:rs[r]?=some q) :
  Sv.matF L 0 (rs.take (r+1))=Sv.matF L 0 (rs.take r) ++ (Sv.fromD L q.conds [] []).map (fun x=>((r:Int),x)):=by
 have hlt:=(List.getElem?_eq_some_iff.1 h).1
 rw [List.take_add_one,h,Sv.matF_app,List.length_take,Nat.zero_add,Nat.min_eq_left (by omega)]
 simp [Sv.matF]
theorem Sv.matF_len (L:List (Int×Sv.Fact)) (hL:L.length≤16):∀ (rs:List Sv.Rule) (r:Nat),(∀ q∈rs,q.conds.length≤4)→(Sv.matF L r rs).length≤rs.length * 65536
 | [],r,_=>by simp [Sv.matF]
 | q :: rs,r,h=>by
  have h1:=Sv.matF_len L hL rs (r+1) (fun x hx=>h x (List.mem_cons_of_mem _ hx))
  have h2:=Sv.fromD_len4 L hL q.conds [] [] (h q (List.mem_cons_self ..))
  rw [Sv.matF,List.length_append,List.length_map,List.length_cons,Nat.succ_mul]
  omega
def MatPost (rs:List Sv.Rule) (L:List VTh) (w:World) (e:Ending) (w':World):Prop:=
 ∃ u ms,e=.returned u∧MsAt w.heap.size u ms w'∧ms.map VMt.of=Sv.matches rs (L.map VTh.of)∧w.grownBy w' none
set_option maxRecDepth 100000 in
set_option maxHeartbeats 1000000 in
theorem vMatches_w (y:Nat) (rv lv cv fv:Value) (rs:List Sv.Rule) (L:List VTh) (w:World) (hy:YAt y rv lv cv fv rs L w) (hok:Sv.RsOk rs) (hL:L.length≤16) :
  Calls Tryz.prog 56 #[.pointer (some ⟨y,0,none⟩)] w fun e w'=>MatPost rs L w e w':=by
 have hr8:=hok.len
 obtain ⟨y0,y1,y2,y3⟩:=hy.c
 obtain ⟨aoR,capR,rfl⟩:=hy.rules.slice
 have HY:=hide hy
 have HO:=hide hok
 clear hy hok y1 y2 y3
 go_enter Tryz.func56,Tryz.ntmps56
 go_wp2
 go_loopw [3,4] (fun x z w'=>∃ (i:Nat) (acc:List VMt),i≤rs.length∧MsAt w.heap.size x acc w'∧acc.map VMt.of=Sv.matF (L.map VTh.of) 0 (rs.take i)∧z=.int .i64 i∧w.grownBy w' none) (fun _ z _=>rs.length - (intOf z).toNat)
 case atStart=>exact ⟨0,[],Nat.zero_le _,⟨RowAt.nil _ _ mtenc_len,by simp⟩,by simp [Sv.matF],rfl,World.grownBy.refl _ _⟩
 case round=>
  obtain ⟨i,acc,hiR,hacc,hmap,rfl,hg⟩:=hrel
  obtain ⟨aoA,capA,rfl⟩:=hacc.slice
  have y0':=hg.cell y0 (by simp)
  have HM:=hide hmap
  clear hmap
  by_cases hlt:i < rs.length
  ·have hdi:decide (i < rs.length)=true:=by simpa using hlt
   have hq:rs[i]?=some rs[i]:=List.getElem?_eq_getElem hlt
   have hF:=vfrom_w y _ lv cv fv rs L i rs[i] hq (unhide HO) hL rs[i].conds.length 0 (by omega) [] (.slice none 0 0) [] (.slice none 0 0) wr ((unhide HY).gr hg) (RowAt.nil _ _ benc_len) (RowAt.nil _ _ ienc_len) (by simp) (by simp)
   have hst:=Sv.mat_take (L.map VTh.of) rs i rs[i] hq
   have hl1:acc.length≤8 * 65536:=by
    have e1:=congrArg List.length (unhide HM)
    rw [List.length_map] at e1
    rw [e1]
    refine Nat.le_trans (Sv.matF_len _ (by simp; omega) _ 0 (fun q hq=>(unhide HO).conds q (List.mem_of_mem_take hq))) (Nat.mul_le_mul_right _ ?_)
    rw [List.length_take]
    omega
   have hl2:=Sv.fromD_len4 (L.map VTh.of) (by simp; omega) rs[i].conds [] [] ((unhide HO).conds _ (List.mem_of_getElem? hq))
   rw [←unhide HM] at hst
   have HST:=hide hst
   have HL1:=hide hl1
   have HL2:=hide hl2
   clear hst hl1 hl2 hq
   go_wp2_with fail
   refine hF.mono ?_
   rintro e w3 ⟨u,ms,rfl,hms,hmp,hg3⟩
   rw [List.drop_zero] at hmp
   have hlenM:acc.length+ms.length≤589824:=by
    have e1:=congrArg List.length hmp
    rw [List.length_map,List.length_map] at e1
    have e2:=unhide HL1
    have e3:=unhide HL2
    omega
   have hbd1:acc.length+ms.length≤maxLen:=by unfold maxLen; omega
   have hbd2:(acc.length+ms.length) * 32≤140737488355328:=by omega
   have HB1:=hide hbd1
   have HB2:=hide hbd2
   have HMP:=hide hmp
   clear hlenM hbd1 hbd2 hmp HL1 HL2
   obtain ⟨ao8,cap8,rfl⟩:=hms.slice
   have hacc4:=hacc.gr hg3
   have hgc3:=gr_trans hg hg3
   have hrow:=RowOk.of hacc4.1.2
   have hso:=hacc4.1.own
   have hms0:RowAt 52 2 mtenc 0 _ ms w3:=hms.1.weak (Nat.zero_le _)
   have hcs5:w.heap.size≤w3.heap.size:=hgc3.size
   have hcs6:w.heap.size≤wr.heap.size:=hg.size
   clear hF hg3 hacc
   go_wp2_with (at_builtin; refine app_row rfl _ _ 43 rfl Tryz.underlying43 Tryz.infoMatch rfl (by decide) rfl hacc4.1 rfl hms0 (fun m hm=>hms.one m hm) (unhide HB1) (unhide HB2) hcs5 ?_)
   intro v5 w5 hv5 hg5
   obtain ⟨ao9,cap9,rfl⟩:=hv5.slice
   have hgc5:=gr_app hgc3 hg5 (fun x hx=>(hso x hx).1)
   have hms5:MsAt w.heap.size (.slice ao9 (acc ++ ms).length cap9) (acc ++ ms) w5:=by
    refine ⟨hv5,fun m hm=>?_⟩
    rcases List.mem_append.1 hm with hm | hm
    ·exact (hacc4.2 m hm).row hg5 hrow (by decide)
    ·exact ((hms.2 m hm).weak hcs6).row hg5 hrow (by decide)
   have HMF:Hid ((acc ++ ms).map VMt.of=Sv.matF (L.map VTh.of) 0 (rs.take (i+1))):=by
    unfold Hid
    rw [List.map_append,unhide HMP,unhide HST]
   clear HMP HB1 HB2 hv5 hg5 hacc4 hms hms0 hrow hso hgc3
   go_wp2
   go_roundw
   case rel=>exact ⟨i+1,acc ++ ms,by omega,hms5,unhide HMF,by go_num,hgc5⟩
   case measure=>simp [intOf]; omega
  ·have hdi:decide (i < rs.length)=false:=by simpa using hlt
   have hall:rs.take i=rs:=List.take_of_length_le (by omega)
   go_wp2
   go_ret
   refine ⟨_,acc,rfl,hacc,?_,hg⟩
   rw [unhide HM,hall]
   rfl
end Go.Proofs.YtolhbeekfjnfmaaGreatDoor

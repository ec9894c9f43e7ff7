import Derived.Test.YtolhbeekfjnfmaaGreatDoorM09
import Derived.Test.YtolhbeekfjnfmaaGreatDoorM06
namespace Go.Proofs.YtolhbeekfjnfmaaGreatDoor
open Go.RowKit
def vtenc (t:Sv.Term):List Value:=[.int .u8 t.letter.toNat,.int .i64 t.value,.bool (t.sort == 0)]
abbrev TmsAt (base:Nat) (v:Value) (l:List Sv.Term) (w:World):Prop:=RowAt 169 3 vtenc base v l w
def VMeetPost (w:World) (r:Option Sv.Bs) (e:Ending) (w':World):Prop:=
 w.grownBy w' none∧match r with
  | none=>e=.returned (.tuple #[.slice none 0 0,.bool false])
  | some b=>∃ u,e=.returned (.tuple #[u,.bool true])∧BsAt w.heap.size u b w'
set_option maxRecDepth 100000 in
set_option maxHeartbeats 400000 in
theorem vmeets_no (kf ck:Int) (neg:Bool) (fa ta:Option Addr) (fn fc tn tc:Nat) (bv:Value) (w:World) (hn:¬ (kf=ck∧fn=tn)) (_hf:fn≤1000) (_ht:tn≤1000) :
  Calls Tryz.prog 121 #[.agg #[.int .i64 kf,.slice fa fn fc],.agg #[.bool neg,.int .i64 ck,.slice ta tn tc],bv] w fun e w'=>VMeetPost w none e w':=by
 by_cases hk:kf=ck
 ·subst hk
  have hd:(kf == kf)=true:=by simp
  have hd2:((fn:Int) == (tn:Int))=false:=by simp; intro h; exact hn ⟨rfl,by omega⟩
  clear hn
  go_enter Tryz.func121,Tryz.ntmps121
  go_wp2
  go_ret2
  refine ⟨?_,rfl⟩
  exact gr_trans (World.grownBy_alloc w _ none) (World.grownBy_alloc _ _ none)
 ·have hd:(kf == ck)=false:=by simpa using hk
  clear hn
  go_enter Tryz.func121,Tryz.ntmps121
  go_wp2
  go_ret2
  refine ⟨?_,rfl⟩
  exact gr_trans (World.grownBy_alloc w _ none) (World.grownBy_alloc _ _ none)
set_option maxRecDepth 100000 in
set_option maxHeartbeats 400000 in
theorem vmeets_yes (f:Sv.Fact) (c:Sv.Cond) (fa ta:Option Addr) (fc tc:Nat) (bv:Value) (b:Sv.Bs) (w:World)
  (hf:IsAt 0 (.slice fa f.vals.length fc) f.vals w) (ht:TmsAt 0 (.slice ta c.terms.length tc) c.terms w) (hb:BsAt 0 bv b w)
  (hk:f.kind=c.kind) (hn:f.vals.length=c.terms.length) (hn4:c.terms.length≤4) (hbl:b.length≤100) (hsh:∀ t∈c.terms,Sv.tmOk t) (r:Option Sv.Bs) (hr:Sv.meetT c.terms f.vals b=r) :
  Calls Tryz.prog 121 #[.agg #[.int .i64 f.kind,.slice fa f.vals.length fc],.agg #[.bool c.neg,.int .i64 c.kind,.slice ta c.terms.length tc],bv] w fun e w'=>VMeetPost w r e w':=by
 have hgA:=gr_trans (World.grownBy_alloc w (.cells #[.int .i64 f.kind,.slice fa f.vals.length fc] 37) none) (World.grownBy_alloc (w.alloc (.cells #[.int .i64 f.kind,.slice fa f.vals.length fc] 37)) (.cells #[.bool c.neg,.int .i64 c.kind,.slice ta c.terms.length tc] 166) none)
 have hF0:C2 37 w.heap.size (.int .i64 f.kind) (.slice fa f.vals.length fc) ((w.alloc (.cells #[.int .i64 f.kind,.slice fa f.vals.length fc] 37)).alloc (.cells #[.bool c.neg,.int .i64 c.kind,.slice ta c.terms.length tc] 166)):=by
  unfold C2; rw [Below.heap_alloc _ _ _ (by simp)]; exact heap_alloc_new _ _
 have hC0:C3 166 (w.heap.size+1) (.bool c.neg) (.int .i64 c.kind) (.slice ta c.terms.length tc) ((w.alloc (.cells #[.int .i64 f.kind,.slice fa f.vals.length fc] 37)).alloc (.cells #[.bool c.neg,.int .i64 c.kind,.slice ta c.terms.length tc] 166)):=by
  have:=heap_alloc_new (w.alloc (.cells #[.int .i64 f.kind,.slice fa f.vals.length fc] 37)) (.cells #[.bool c.neg,.int .i64 c.kind,.slice ta c.terms.length tc] 166)
  unfold C3
  simpa using this
 have hd:(f.kind != (c.kind:Int))=false:=by simpa using hk
 have hd2:((f.vals.length:Int) != (c.terms.length:Int))=false:=by simp; omega
 have HR:=hide hr
 have HF:=hide hf
 have HT:=hide ht
 have HS:=hide hsh
 have HK:=hide hk
 have HN:=hide hn
 clear hr hf ht hsh hk hn
 have hbA:=hb.gr hgA
 go_enter Tryz.func121,Tryz.ntmps121
 go_wp2_with (at_builtin; refine app_row rfl _ _ 231 rfl Tryz.underlying231 Tryz.infoBound rfl (by decide) rfl (RowAt.nil (w.heap.size+2) _ benc_len) rfl hbA (fun y _=>benc_one y) (by unfold maxLen; simp; omega) (by simp; omega) (by simp) ?_)
 intro v1 w1 hv1 hg1
 have hg01:=gr_trans hgA hg1
 have hF1:=hF0.kept hg1 (by simp [Value.ownBlock])
 have hC1:=hC0.kept hg1 (by simp [Value.ownBlock])
 clear hF0 hC0 hbA hgA hg1
 have hb1:=hv1.slice
 obtain ⟨ao1,cap1,rfl⟩:=hb1
 clear hb hd hd2
 go_wp2
 go_loopw [8,9] (fun x y w'=>∃ (k:Nat) (acc:Sv.Bs),k≤c.terms.length∧y=.int .i64 k∧BsAt (w.heap.size+2) x acc w'∧w.grownBy w' none∧w.heap.size+2≤w'.heap.size∧C2 37 w.heap.size (.int .i64 f.kind) (.slice fa f.vals.length fc) w'∧C3 166 (w.heap.size+1) (.bool c.neg) (.int .i64 c.kind) (.slice ta c.terms.length tc) w'∧acc.length≤b.length+k∧Sv.meetT (c.terms.drop k) (f.vals.drop k) acc=r) (fun _ y _=>c.terms.length - (intOf y).toNat)
 case atStart=>exact ⟨0,b,Nat.zero_le _,rfl,hv1,hg01,by have:=hC1.lt; omega,hF1,hC1,Nat.le_refl _,unhide HR⟩
 case round=>
  clear hv1 hg01 hF1 hC1 HR
  obtain ⟨k,acc,hk,rfl,hacc,hg,hws,hF,hC,hal,hr⟩:=hrel
  obtain ⟨ao2,cap2,rfl⟩:=hacc.slice
  obtain ⟨f0,f1⟩:=hF.c
  obtain ⟨c0,c1,c2⟩:=hC.c
  by_cases hlt:k < c.terms.length
  ·have hd:decide (k < c.terms.length)=true:=by simpa using hlt
   have hN:=unhide HN
   obtain ⟨tm,htm⟩:∃ tm,c.terms[k]?=some tm:=⟨c.terms[k],List.getElem?_eq_getElem hlt⟩
   obtain ⟨x,hx⟩:∃ x,f.vals[k]?=some x:=⟨f.vals[k]'(by omega),List.getElem?_eq_getElem (by omega)⟩
   rw [drop_get htm,drop_get hx] at hr
   have hok:=unhide HS tm (List.mem_of_getElem? htm)
   obtain ⟨g,cp,hv,hcs⟩:=((unhide HT).gr hg).cells htm
   obtain ⟨g2,cp2,hv2,hcs2⟩:=((unhide HF).gr hg).cells hx
   simp only [Value.slice.injEq,true_and] at hv hv2
   obtain ⟨rfl,rfl⟩:=hv
   obtain ⟨rfl,rfl⟩:=hv2
   have t0:wr.cell? ⟨g,k * 3,none⟩=some (.int .u8 tm.letter.toNat):=hcs 0 (by omega)
   have t1:wr.cell? ⟨g,k * 3+1,none⟩=some (.int .i64 tm.value):=hcs 1 (by omega)
   have t2:wr.cell? ⟨g,k * 3+2,none⟩=some (.bool (tm.sort == 0)):=hcs 2 (by omega)
   have x0:wr.cell? ⟨g2,k,none⟩=some (.int .i64 x):=by have:=hcs2 0 (by omega); simpa [ienc] using this
   have hkf:k < f.vals.length:=by omega
   clear hcs hcs2 htm hx hN
   unfold Sv.meetT at hr
   have HR:=hide hr
   clear hr
   rcases hok with hs | ⟨hs,hlet⟩ | ⟨hs,hlet⟩
   ·have e:(tm.sort == 0)=true:=by simp [hs]
    rw [e] at t2
    have hr:=unhide HR
    rw [if_pos hs] at hr
    have HR2:=hide hr
    clear hr HR hs e
    have hgB:=World.grownBy_alloc wr (.cells #[.int .u8 tm.letter.toNat,.int .i64 tm.value,.bool true] 169) none
    go_wp2
    go_roundw
    case rel=>exact ⟨k+1,acc,by omega,by go_num,hacc.gr hgB,gr_trans hg hgB,Nat.le_trans hws hgB.size,hF.kept hgB (by simp),hC.kept hgB (by simp),by omega,unhide HR2⟩
    case measure=>simp [intOf]; omega
   ·have e:(tm.sort == 0)=false:=by simp [hs]
    rw [e] at t2
    have hr:=unhide HR
    rw [if_neg (by omega),if_pos hs] at hr
    have HR2:=hide hr
    clear hr HR hs e
    have hgB:=World.grownBy_alloc wr (.cells #[.int .u8 tm.letter.toNat,.int .i64 tm.value,.bool false] 169) none
    have hdl:decide ((0:Int) < (tm.letter.toNat:Int))=true:=by simp; omega
    have hL:=vlook_w _ acc tm.letter (wr.alloc (.cells #[.int .u8 tm.letter.toNat,.int .i64 tm.value,.bool false] 169)) _ (hacc.gr hgB) (by omega)
    cases hlk:Sv.lookB acc tm.letter with
    | none=>
     have hr:=unhide HR2
     rw [hlk] at hr hL
     have HR:=hide hr
     clear hr HR2 hlk
     go_wp2_with fail
     refine hL.mono ?_
     rintro e w2 ⟨rfl,hg2⟩
     have hgC:=gr_trans hgB hg2
     have hacc2:=hacc.gr hgC
     have f12:=hgC.cell f1 (by simp)
     have x02:=hgC.cell x0 (by simp)
     have hF2:=hF.kept hgC (by simp)
     have hC2:=hC.kept hgC (by simp)
     have hg02:=gr_trans hg hgC
     have tb0:=hg2.cell (a:=⟨wr.heap.size,0,none⟩) (v:=.int .u8 tm.letter.toNat) (by simp) (by simp)
     clear hgB hL hg2
     have hgE:=gr_drew (World.grownBy_alloc w2 (.cells #[.int .u8 tm.letter.toNat,.int .i64 x] 283) none)
     have hsrc:BsAt 0 _ [(tm.letter,x)] (w2.alloc (.cells #[.int .u8 tm.letter.toNat,.int .i64 x] 283)).drew:=((RowAt.lit1 benc_len w2 (tm.letter,x) #[.int .u8 tm.letter.toNat,.int .i64 x] rfl).weak (Nat.zero_le _)).heap rfl
     have hsz2:=Nat.le_trans hws hgC.size
     have haccE:=hacc2.gr hgE
     have hb1:acc.length + [(tm.letter,x)].length≤maxLen:=by unfold maxLen; simp; omega
     have hb2:(acc.length + [(tm.letter,x)].length) * 16≤140737488355328:=by simp; omega
     have hb3:w.heap.size+2≤(w2.alloc (.cells #[.int .u8 tm.letter.toNat,.int .i64 x] 283)).drew.heap.size:=Nat.le_trans hsz2 hgE.size
     have HB1:=hide hb1
     have HB2:=hide hb2
     clear hb1 hb2
     go_wp2_with fail
     go_region_law (refine app_step rfl _ _ 231 rfl Tryz.underlying231 Tryz.infoBound rfl (by decide) (by simp [Act.eval]) haccE (by simp [Act.eval]) hsrc (fun y _=>benc_one y) (unhide HB1) (unhide HB2) hb3 ?_; intro v3 w3 hv3 hg3)
     all_goals
      have hrow:=haccE.own
      have hF3:=(hF2.kept hgE (by simp)).kept hg3 (fun e=>by have:=hrow _ e.symm; omega)
      have hC3:=(hC2.kept hgE (by simp)).kept hg3 (fun e=>by have:=hrow _ e.symm; omega)
      have hg03:=gr_app (gr_trans hg02 hgE) hg3 (fun g hg=>by have:=(hrow g hg).1; omega)
      obtain ⟨ao3,cap3,rfl⟩:=hv3.slice
      have hs3:=Nat.le_trans hb3 hg3.size
      simp only [List.length_append,List.length_singleton] at hv3
      clear hgE hsrc haccE hb3 HB1 HB2 hacc2 hF2 hC2 hg3 hrow f12 x02 tb0
      go_wp2
      go_roundw
      case rel=>exact ⟨k+1,acc ++ [(tm.letter,x)],by omega,by go_num,hv3,hg03,hs3,hF3,hC3,by simp; omega,unhide HR⟩
      case measure=>simp [intOf]; omega
    | some u=>
     have hr:=unhide HR2
     rw [hlk] at hr hL
     have HR:=hide hr
     clear hr HR2 hlk
     by_cases hxu:x=u
     ·have hr:=unhide HR
      simp only at hr
      rw [if_pos hxu] at hr
      have HR2:=hide hr
      have hdx:(x != u)=false:=by simpa using hxu
      clear hr HR hxu
      go_wp2_with fail
      refine hL.mono ?_
      rintro e w2 ⟨rfl,hg2⟩
      have hgC:=gr_trans hgB hg2
      have f12:=hgC.cell f1 (by simp)
      have x02:=hgC.cell x0 (by simp)
      have hdx2:(x != (some u).getD 0)=false:=hdx
      go_wp2
      go_roundw
      case rel=>exact ⟨k+1,acc,by omega,by go_num,hacc.gr hgC,gr_trans hg hgC,Nat.le_trans hws hgC.size,hF.kept hgC (by simp),hC.kept hgC (by simp),by omega,unhide HR2⟩
      case measure=>simp [intOf]; omega
     ·have hr:=unhide HR
      simp only at hr
      rw [if_neg hxu] at hr
      subst hr
      have hdx:(x != u)=true:=by simpa using hxu
      clear HR hxu
      go_wp2_with fail
      refine hL.mono ?_
      rintro e w2 ⟨rfl,hg2⟩
      have hgC:=gr_trans hgB hg2
      have f12:=hgC.cell f1 (by simp)
      have x02:=hgC.cell x0 (by simp)
      go_wp2
      go_ret2
      exact ⟨gr_trans hg hgC,rfl⟩
   ·have e:(tm.sort == 0)=false:=by simp [hs]
    rw [e] at t2
    have hr:=unhide HR
    rw [if_neg (by omega),if_neg (by omega)] at hr
    have HR2:=hide hr
    clear hr HR hs e
    rw [hlet] at t0
    have t00:wr.cell? ⟨g,k * 3,none⟩=some (.int .u8 0):=t0
    clear t0
    have hgB:=World.grownBy_alloc wr (.cells #[.int .u8 0,.int .i64 tm.value,.bool false] 169) none
    have f12:=hgB.cell f1 (by simp)
    have x02:=hgB.cell x0 (by simp)
    by_cases hxu:x=tm.value
    ·have hr:=unhide HR2
     rw [if_pos hxu] at hr
     have HR:=hide hr
     have hdx:(x != tm.value)=false:=by simpa using hxu
     clear hr HR2 hxu hlet
     go_wp2
     go_roundw
     case rel=>exact ⟨k+1,acc,by omega,by go_num,hacc.gr hgB,gr_trans hg hgB,Nat.le_trans hws hgB.size,hF.kept hgB (by simp),hC.kept hgB (by simp),by omega,unhide HR⟩
     case measure=>simp [intOf]; omega
    ·have hr:=unhide HR2
     rw [if_neg hxu] at hr
     subst hr
     have hdx:(x != tm.value)=true:=by simpa using hxu
     clear HR2 hxu hlet
     go_wp2
     go_ret2
     exact ⟨gr_trans hg hgB,rfl⟩
  ·have hd:decide (k < c.terms.length)=false:=by simpa using hlt
   have hN:=unhide HN
   have e1:c.terms.drop k=[]:=List.drop_of_length_le (by omega)
   rw [e1] at hr
   have hr2:some acc=r:=hr
   subst hr2
   go_wp2
   go_ret2
   exact ⟨hg,_,rfl,hacc.weak (by omega)⟩
end Go.Proofs.YtolhbeekfjnfmaaGreatDoor

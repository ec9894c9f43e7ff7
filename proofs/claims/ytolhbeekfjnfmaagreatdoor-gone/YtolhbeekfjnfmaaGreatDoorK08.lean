import Derived.Deep.DeepCutAuto
import Derived.Test.YtolhbeekfjnfmaaGreatDoorK07
namespace Go.Proofs.YtolhbeekfjnfmaaGreatDoor
open Go.RowKit
theorem fitT_drop {all:List Sv.Term} {vs:List Int} {ts:List Sv.Term} {k:Nat} {t:Sv.Term} (h:ts[k]?=some t):fitT all vs k (ts.drop k)=(fitT1 all vs k t && fitT all vs (k+1) (ts.drop (k+1))):=by
 rw [drop_get h]
 rfl
set_option maxRecDepth 100000 in
set_option maxHeartbeats 2000000 in
theorem fitsAlone_w (U:Nat→Nat) (b:Nat) (c:Sv.Cond) (ls:List Lnk) (f:Ft) (w:World) (hc:CdAt U b 0 c ls w) (hf:FtAt U f w) :
  Calls Tryz.prog 161 #[.pointer (some ⟨b,0,none⟩),fptr f] w fun e w'=>e=.returned (.bool (fitC c f.f))∧w.grownBy w' none:=by
 have hc0:=hc
 have hf0:=hf
 obtain ⟨ck,⟨tv,ct,htr⟩,_,hs4⟩:=hc
 obtain ⟨hU,hf4,v,fb,fr⟩:=hf
 obtain ⟨fa,fc,rfl⟩:=fr.1.slice
 obtain ⟨ta,tc,rfl⟩:=htr.1.slice
 rw [Nat.zero_add] at ct
 have f0:w.cell? ⟨f.blk,0,none⟩=some (.int .i64 f.f.kind):=by simp [World.cell?,fb]
 have f1:w.cell? ⟨f.blk,1,none⟩=some (.slice fa f.f.vals.length fc):=by simp [World.cell?,fb]
 unfold fptr
 by_cases hk:f.f.kind=(c.kind:Int)
 ·by_cases hl:f.f.vals.length=c.terms.length
  ·obtain ⟨R,hR⟩:∃ R,fitC c f.f=R:=⟨_,rfl⟩
   rw [hR]
   have hR2:fitT c.terms f.f.vals 0 (c.terms.drop 0)=R:=by
    rw [List.drop_zero,←hR]
    unfold fitC
    simp [hk,hl]
   have HR:=hide hR2
   have hd1:(f.f.kind != (c.kind:Int))=false:=by simpa using hk
   have hd2:((f.f.vals.length:Int) != (c.terms.length:Int))=false:=by simp; omega
   have HL:=hide hl
   have HC:=hide hc0
   have HF:=hide hf0
   have HFR:=hide fr
   clear hR hR2 hk hl hc0 hf0 fr
   go_enter Tryz.func161,Tryz.ntmps161
   go_wp2
   go_quiet (fail)
   go_wp2
   go_loopw [36] (fun x w'=>∃ k:Nat,k≤c.terms.length∧x=.int .i64 k∧fitT c.terms f.f.vals k (c.terms.drop k)=R∧w.grownBy w' none) (fun x _=>c.terms.length - (intOf x).toNat)
   case atStart=>exact ⟨0,Nat.zero_le _,rfl,unhide HR,gr_drewN _ _ _⟩
   case round=>
    clear HR
    obtain ⟨k,hk,rfl,hr,hg⟩:=hrel
    by_cases hlt:k < c.terms.length
    ·have hd:decide (k < c.terms.length)=true:=by simpa using hlt
     obtain ⟨t,ht⟩:∃ t,c.terms[k]?=some t:=⟨_,List.getElem?_eq_getElem hlt⟩
     rw [fitT_drop ht] at hr
     obtain ⟨g,cap',hv,c0,c1,c2⟩:=tmenc_get (htr.1.gr hg) ht
     simp only [Value.slice.injEq,true_and] at hv
     obtain ⟨rfl,rfl⟩:=hv
     have f1':=hg.cell f1 (by simp)
     have hgA:=World.grownBy_alloc wr (.cells #[.int .i64 t.sort,.int .u8 t.letter.toNat,.int .i64 t.value] 258) none
     have f1'':=hgA.cell f1' (by simp)
     have hS:∀ wx,(wr.alloc (.cells #[.int .i64 t.sort,.int .u8 t.letter.toNat,.int .i64 t.value] 258)).grownBy wx none→Calls Tryz.prog 183 #[.pointer (some ⟨b,0,none⟩),.int .i64 k,.agg #[.int .i64 t.sort,.int .u8 t.letter.toNat,.int .i64 t.value],.slice fa f.f.vals.length fc] wx fun e w'=>e=.returned (.bool (fitT1 c.terms f.f.vals k t))∧wx.grownBy w' none:=by
      intro wx hgx
      have hgg:=gr_trans (gr_trans hg hgA) hgx
      exact fitsAt_w U b c ls k t _ f.f.vals wx ((unhide HC).gr hgg) ht ((unhide HFR).1.gr hgg) (unhide HL)
     have HG:=hide (gr_trans hg hgA)
     obtain ⟨r1,hr1⟩:∃ r1,fitT1 c.terms f.f.vals k t=r1:=⟨_,rfl⟩
     rw [hr1] at hr hS
     have HRR:=hide hr
     clear hr ht hr1 f1' hg hgA
     go_wp2_with fail
     go_cut [50] (fun z wx=>z=.bool (!r1)∧(wr.alloc (.cells #[.int .i64 t.sort,.int .u8 t.letter.toNat,.int .i64 t.value] 258)).grownBy wx none)
     case first=>
      go_region_with (go_at_call 183; refine (hS _ (by repeat (first | exact World.grownBy.refl _ _ | apply gr_drew))).mono ?_; rintro e w2 ⟨rfl,hg2⟩)
      all_goals
       go_wp2_with fail
       go_meet
       exact ⟨rfl,gr_trans (by repeat (first | exact World.grownBy.refl _ _ | apply gr_drew)) hg2⟩
     case rest=>
      obtain ⟨rfl,hg2⟩:=hcut
      have hgc:=gr_trans (unhide HG) hg2
      have hr:=unhide HRR
      clear hS hg2 HRR HG f1''
      cases r1 with
      | false=>
       rw [Bool.false_and] at hr
       subst hr
       go_wp2
       go_ret
       exact ⟨rfl,hgc⟩
      | true=>
       rw [Bool.true_and] at hr
       have HR2:=hide hr
       clear hr
       go_wp2
       go_roundw
       case rel=>exact ⟨k+1,by omega,by go_num,unhide HR2,hgc⟩
       case measure=>simp [intOf]; omega
    ·have hd:decide (k < c.terms.length)=false:=by simpa using hlt
     have e:c.terms.drop k=[]:=List.drop_of_length_le (by omega)
     rw [e] at hr
     have hr2:true=R:=hr
     subst hr2
     go_wp2
     go_ret
     exact ⟨rfl,hg⟩
  ·have e:fitC c f.f=false:=by unfold fitC; simp [hl]
   rw [e]
   have hd1:(f.f.kind != (c.kind:Int))=false:=by simpa using hk
   have hd2:((f.f.vals.length:Int) != (c.terms.length:Int))=true:=by simp; omega
   clear e hk hl
   go_enter Tryz.func161,Tryz.ntmps161
   go_wp2
   go_quiet (fail)
   go_wp2
   go_ret
   exact ⟨rfl,gr_drewN _ _ _⟩
 ·have e:fitC c f.f=false:=by unfold fitC; simp [hk]
  rw [e]
  have hd1:(f.f.kind != (c.kind:Int))=true:=by simpa using hk
  clear e hk
  go_enter Tryz.func161,Tryz.ntmps161
  go_wp2
  go_quiet (fail)
  go_wp2
  go_ret
  exact ⟨rfl,gr_drewN _ _ _⟩
end Go.Proofs.YtolhbeekfjnfmaaGreatDoor
namespace Go.Proofs.YtolhbeekfjnfmaaGreatDoor
open Go.RowKit
abbrev ToksAt (v:Value) (l:List Tok) (w:World):Prop:=RowAt 139 4 tokEnc 0 v l w
theorem Tryz.infoToken:(Tryz.prog.info? 139).map (fun i=>(i.zero,i.size,i.bytes))=some (some (.agg #[.pointer none,.pointer none,.pointer none,.pointer none]),4,32):=by kernel_rfl
theorem Tryz.infoPFact:(Tryz.prog.info? 90).map (fun i=>(i.zero,i.size,i.bytes))=some (some (.pointer none),1,8):=by kernel_rfl
def KeepPost (b o:Nat) (v:Value) (cs:Array Value) (ty:TypeId) (toks:List Tok) (t:Tok) (w w':World):Prop:=
 ∃ v',w'.heap[b]?=some (.cells (cs.setIfInBounds o v') ty (0,0))∧ToksAt v' (toks ++ [t]) w'∧GrS (fun k=>k=b∨v.ownBlock=some k) w w'∧∀ g,v'.ownBlock=some g→v.ownBlock=some g∨w.heap.size≤g
set_option maxRecDepth 100000 in
set_option maxHeartbeats 2000000 in
theorem keep_w (b o:Nat) (v:Value) (cs:Array Value) (ty:TypeId) (toks:List Tok) (t:Tok) (w:World) (hb:w.heap[b]?=some (.cells cs ty (0,0))) (ho:cs[o]?=some v) (hr:ToksAt v toks w) (hne:v.ownBlock≠some b) (hlen:toks.length≤1000000000) :
  Calls Tryz.prog 242 #[.pointer (some ⟨b,o,none⟩),tokV t] w fun e w'=>e=.returned (.tuple #[])∧KeepPost b o v cs ty toks t w w':=by
 obtain ⟨ao,cap,rfl⟩:=hr.slice
 obtain ⟨pa,pb,pc,pd,hT⟩:=tok_four t
 have eT:tokV t=.agg #[.pointer pa,.pointer pb,.pointer pc,.pointer pd]:=by unfold tokV; rw [hT]
 rw [eT]
 have hblt:=row_lt hb
 have b0:w.cell? ⟨b,o,none⟩=some (.slice ao toks.length cap):=by simp [World.cell?,hb]; simpa using ho
 have hgA:=gr_al2 w (.cells #[.pointer pa,.pointer pb,.pointer pc,.pointer pd] 139) (.cells #[.pointer pa,.pointer pb,.pointer pc,.pointer pd] 139)
 have hgA1:=World.grownBy_alloc w (.cells #[.pointer pa,.pointer pb,.pointer pc,.pointer pd] 139) none
 have b1:=hgA1.cell b0 (by simp)
 have hgD:=gr_drew hgA
 have hr5:=hr.gr hgD
 have hsrc:RowAt 139 4 tokEnc 0 (.slice (some ⟨w.heap.size+1,0,none⟩) 1 1) [t] (((w.alloc (.cells #[.pointer pa,.pointer pb,.pointer pc,.pointer pd] 139)).alloc (.cells #[.pointer pa,.pointer pb,.pointer pc,.pointer pd] 139)).drew):=by
  have:=((RowAt.lit1 (e:=139) tokEnc_len (w.alloc (.cells #[.pointer pa,.pointer pb,.pointer pc,.pointer pd] 139)) t #[.pointer pa,.pointer pb,.pointer pc,.pointer pd] (by rw [hT])).weak (Nat.zero_le _)).gr (gr_drew (World.grownBy.refl _ _))
  simpa using this
 obtain ⟨W5,hW5⟩:∃ W5,((w.alloc (.cells #[.pointer pa,.pointer pb,.pointer pc,.pointer pd] 139)).alloc (.cells #[.pointer pa,.pointer pb,.pointer pc,.pointer pd] 139)).drew=W5:=⟨_,rfl⟩
 rw [hW5] at hgD hr5 hsrc
 have hKey:∀ g5 cap5 w5,ToksAt (.slice (some ⟨g5,0,none⟩) (toks ++ [t]).length cap5) (toks ++ [t]) w5→W5.grownBy w5 (Value.slice ao toks.length cap).ownBlock→((Value.slice ao toks.length cap).ownBlock=some g5∨g5=W5.heap.size)→
   w5.cell? ⟨b,o,none⟩=some (.slice ao toks.length cap)∧w5.frozen? ⟨b,o,none⟩=false∧
   KeepPost b o (.slice ao toks.length cap) cs ty toks t w (w5.setCell ⟨b,o,none⟩ (.slice (some ⟨g5,0,none⟩) (toks.length+1) cap5)):=by
  intro g5 cap5 w5 hv hg hl
  rw [List.length_append,List.length_singleton] at hv
  have hb5:w5.heap[b]?=some (.cells cs ty (0,0)):=by rw [hg.block b (Nat.lt_of_lt_of_le hblt hgD.size) (fun e=>hne e.symm),hgD.block b hblt (by simp)]; exact hb
  have hgs:=gr_set w5 b o (.slice (some ⟨g5,0,none⟩) (toks.length+1) cap5)
  have hg5b:g5≠b:=by
   rintro rfl
   rcases hl with hl | hl
   ·exact hne hl
   ·have:=hgD.size; omega
  refine ⟨by simp [World.cell?,hb5]; simpa using ho,by simp [World.frozen?,hb5],_,?_,hv.other hgs (fun g hg e=>?_),?_,?_⟩
  ·rw [heap_setCell_same w5 b o _ _ _ hb5]
  ·simp only [Value.ownBlock,Option.some.injEq] at hg e
   omega
  ·exact ((GrS.of hgD (by simp)).then hg (fun g hgg=>.inr (.inr hgg))).then hgs (fun g hgg=>by simp at hgg; exact .inr (.inl hgg.symm))
  ·intro g hgg
   simp only [Value.ownBlock,Option.some.injEq] at hgg
   subst hgg
   rcases hl with hl | hl
   ·exact .inl hl
   ·right
    have:=hgD.size
    omega
 have HKEY:=hide hKey
 have HSRC:=hide hsrc
 have HR5:=hide hr5
 have HW5:=hide hW5
 have HT:=hide hT
 have HO:=hide ho
 have HB:=hide hb
 have HNE:=hide hne
 clear hKey hsrc hr5 hW5 hT eT ho hb hne hgD hgA hgA1 hr
 go_enter Tryz.func242,Tryz.ntmps242
 go_wp2
 go_region_law (rw [unhide HW5]; refine app_lies rfl _ _ 141 rfl Tryz.underlying141 Tryz.infoToken rfl (by decide) (by simp [Act.eval]) (unhide HR5) (by simp [Act.eval]) (unhide HSRC) (by simp) (fun y hy=>tokEnc_one y) (by unfold maxLen; simp; omega) (by simp; omega) (Nat.zero_le _) ?_; intro g5 cap5 w5 hv5 hg5 hl5; obtain ⟨k1,k2,k3⟩:=unhide HKEY g5 cap5 w5 hv5 hg5 hl5; have K3:=hide k3; clear k3)
 all_goals
  go_wp2
  go_end0
  exact ⟨rfl,unhide K3⟩
def fenc (g:Ft):List Value:=[fptr g]
theorem fenc_len (g:Ft):(fenc g).length=1:=rfl
theorem fenc_one (g:Ft):∀ c∈fenc g,c.oneCell'=true:=by intro c hc; simp [fenc] at hc; subst hc; rfl
abbrev FsAt (v:Value) (l:List Ft) (w:World):Prop:=RowAt 90 1 fenc 0 v l w
def AdmitPost (b:Nat) (v:Value) (cs:Array Value) (ty:TypeId) (K:List Ft) (f:Ft) (w w':World):Prop:=
 ∃ v',w'.heap[b]?=some (.cells (cs.setIfInBounds 4 v') ty (0,0))∧FsAt v' (K ++ [f]) w'∧GrS (fun k=>k=b∨v.ownBlock=some k) w w'∧∀ g,v'.ownBlock=some g→v.ownBlock=some g∨w.heap.size≤g
set_option maxRecDepth 100000 in
set_option maxHeartbeats 2000000 in
theorem admit_no (U:Nat→Nat) (b:Nat) (c:Sv.Cond) (ls:List Lnk) (f:Ft) (w:World) (hc:CdAt U b 0 c ls w) (hf:FtAt U f w) (hn:fitC c f.f=false) :
  Calls Tryz.prog 136 #[.pointer (some ⟨b,0,none⟩),fptr f] w fun e w'=>e=.returned (.bool false)∧w.grownBy w' none:=by
 have hS:=fitsAlone_w U b c ls f w hc hf
 rw [hn] at hS
 unfold fptr at hS ⊢
 clear hc hf hn
 go_enter Tryz.func136,Tryz.ntmps136
 go_wp2_with fail
 refine hS.mono ?_
 rintro e w1 ⟨rfl,hg1⟩
 go_wp2
 go_ret
 exact ⟨rfl,hg1⟩
set_option maxRecDepth 100000 in
set_option maxHeartbeats 2000000 in
theorem admit_yes (U:Nat→Nat) (b:Nat) (v:Value) (cs:Array Value) (ty:TypeId) (c:Sv.Cond) (ls:List Lnk) (K:List Ft) (f:Ft) (w:World) (hb:w.heap[b]?=some (.cells cs ty (0,0))) (ho:cs[4]?=some v) (hr:FsAt v K w) (hne:v.ownBlock≠some b) (hlen:K.length≤1000000000)
  (hc:CdAt U b 0 c ls w) (hf:FtAt U f w) (hn:fitC c f.f=true) :
  Calls Tryz.prog 136 #[.pointer (some ⟨b,0,none⟩),fptr f] w fun e w'=>e=.returned (.bool true)∧AdmitPost b v cs ty K f w w':=by
 have hS:=fitsAlone_w U b c ls f w hc hf
 rw [hn] at hS
 obtain ⟨ao,cap,rfl⟩:=hr.slice
 have hblt:=row_lt hb
 have b0:w.cell? ⟨b,4,none⟩=some (.slice ao K.length cap):=by simp [World.cell?,hb]; simpa using ho
 unfold fptr at hS ⊢
 have HB:=hide hb
 have HO:=hide ho
 have HR:=hide hr
 have HNE:=hide hne
 clear hc hf hn hb ho hr hne
 go_enter Tryz.func136,Tryz.ntmps136
 go_wp2_with fail
 refine hS.mono ?_
 rintro e w1 ⟨rfl,hg1⟩
 have b1:=hg1.cell b0 (by simp)
 have hgL:=World.grownBy_alloc w1 (.cells #[.pointer (some ⟨f.blk,0,none⟩)] 90) none
 have hg2:=gr_trans hg1 hgL
 have hr2:=(unhide HR).gr hg2
 have hsrc:FsAt (.slice (some ⟨w1.heap.size,0,none⟩) 1 1) [f] (w1.alloc (.cells #[.pointer (some ⟨f.blk,0,none⟩)] 90)):=(RowAt.lit1 (e:=90) fenc_len w1 f #[.pointer (some ⟨f.blk,0,none⟩)] rfl).weak (Nat.zero_le _)
 clear hS hgL
 go_wp2_with (at_builtin; refine app_two rfl _ _ 86 rfl Tryz.underlying86 Tryz.infoPFact rfl (by decide) rfl hr2 rfl hsrc (by simp) (fun y hy=>fenc_one y) (by unfold maxLen; simp; omega) (by simp; omega) ?_)
 intro v5 w5 hv5 hl5
 obtain ⟨g5,cap5,rfl⟩:=hl5.form
 have hb5:w5.heap[b]?=some (.cells cs ty (0,0)):=hl5.block (by rw [hg2.block b hblt (by simp)]; exact unhide HB) (unhide HNE)
 have hG5:GrS (fun k=>k=b∨(Value.slice ao K.length cap).ownBlock=some k) w w5:=(GrS.of hg2 (by simp)).trans (hl5.gr (fun g hg=>.inr hg))
 have hown5:=hl5.own
 have b5:w5.cell? ⟨b,4,none⟩=some (.slice ao K.length cap):=by simp [World.cell?,hb5]; simpa using unhide HO
 have z5:w5.frozen? ⟨b,4,none⟩=false:=by simp [World.frozen?,hb5]
 have HG5:=hide hG5
 have HB5:=hide hb5
 have HV5:=hide hv5
 have HOWN:=hide hown5
 clear hG5 hb5 hv5 hown5 hl5 hr2 hsrc b1
 go_wp2
 go_ret
 have hgs:=gr_set w5 b 4 (.slice (some ⟨g5,0,none⟩) (K.length+1) cap5)
 have hg5b:g5≠b:=by
  rintro rfl
  rcases unhide HOWN g5 rfl with h | h
  ·exact unhide HNE h
  ·have:=hg2.size; omega
 refine ⟨rfl,_,by rw [heap_setCell_same w5 b 4 _ _ _ (unhide HB5)],(unhide HV5).other hgs (fun g hg e=>?_),(unhide HG5).then hgs (fun g hgg=>by simp at hgg; exact .inr (.inl hgg.symm)),?_⟩
 ·simp only [Value.ownBlock,Option.some.injEq] at hg e
  omega
 ·intro g hgg
  rcases unhide HOWN g hgg with h | h
  ·exact .inl h
  ·right
   have:=hg2.size
   omega
end Go.Proofs.YtolhbeekfjnfmaaGreatDoor
namespace Go.Proofs.YtolhbeekfjnfmaaGreatDoor
open Go.RowKit
def ndTy (neg:Bool):TypeId:=if neg=true then 263 else 220
def ndPTy (neg:Bool):TypeId:=if neg=true then 209 else 208
def ndCells (n:Nd) (k:Nat) (tv lv ov fv nx:Value):Array Value:=
 if n.c.neg=true then #[.int .i64 n.c.kind,tv,lv,ov,fv,nx] else #[.int .i64 n.c.kind,tv,lv,ov,fv,nx,.int .i64 k]
structure NodeAt (U:Nat→Nat) (q k b:Nat) (n:Nd) (nx:Value) (tv lv ov fv:Value) (w:World):Prop where
 blk:w.heap[b]?=some (.cells (ndCells n k tv lv ov fv nx) (ndTy n.c.neg) (0,0))
 own:U b=4+3 * q
 terms:TRow U 1 258 3 tmenc tv n.c.terms w
 links:TRow U 1 293 4 lenc lv n.links w
 toks:TRow U (5+3 * q) 139 4 tokEnc ov n.toks w
 facts:TRow U (6+3 * q) 90 1 fenc fv n.K w
 fts:∀ g∈n.K,FtAt U g w
 tfs:∀ t∈n.toks,∀ g∈t,FtAt U g w
 short:n.c.terms.length≤4
 low:∀ i,i < b→U i≠4+3 * q
structure LastAt (U:Nat→Nat) (q b:Nat) (ru jn:Nat) (e:En) (tv wv:Value) (w:World):Prop where
 blk:w.heap[b]?=some (.cells #[tv,wv,.int .i64 ru,.int .i64 jn] 147 (0,0))
 own:U b=4+3 * q
 toks:TRow U (5+3 * q) 139 4 tokEnc tv e.toks w
 wait:TRow U (6+3 * q) 139 4 tokEnc wv e.wait w
 tfs:∀ t∈e.toks,∀ g∈t,FtAt U g w
 wfs:∀ t∈e.wait,∀ g∈t,FtAt U g w
 low:∀ i,i < b→U i≠4+3 * q
def SufAt (U:Nat→Nat) (ru jn:Nat):Nat→Nat→List Nd→En→Value→World→Prop
 | q,_,[],e,hd,w=>∃ b tv wv,hd=.iface 137 (.pointer (some ⟨b,0,none⟩))∧LastAt U q b ru jn e tv wv w
 | q,k,n :: ns,e,hd,w=>∃ b nx tv lv ov fv,hd=.iface (ndPTy n.c.neg) (.pointer (some ⟨b,0,none⟩))∧NodeAt U q k b n nx tv lv ov fv w∧SufAt U ru jn (q+1) (if n.c.neg=true then k else k+1) ns e nx w
theorem NodeAt.keep {U U':Nat→Nat} {q k b:Nat} {n:Nd} {nx tv lv ov fv:Value} {w w':World} {S:Nat→Prop} (h:NodeAt U q k b n nx tv lv ov fv w) (hg:GrS S w w') (hs:∀ i,(U i=1∨(4+3 * q≤U i∧U i < 7+3 * q))→¬ S i) (ho:∀ i,i < w.heap.size→True→U' i=U i):NodeAt U' q k b n nx tv lv ov fv w':=by
 have h1:∀ i,U i=1→¬ S i:=fun i hi=>hs i (.inl hi)
 have o1:∀ i,i < w.heap.size→U i=1→U' i=1:=fun i hi e=>by rw [ho i hi trivial]; exact e
 exact ⟨hg.blk h.blk (hs b (.inr (by have:=h.own; omega))),by rw [ho b (row_lt h.blk) trivial]; exact h.own,h.terms.keep2 hg h1 o1,h.links.keep2 hg h1 o1,
  h.toks.keep2 hg (fun i hi=>hs i (.inr (by omega))) (fun i hi e=>by rw [ho i hi trivial]; exact e),h.facts.keep2 hg (fun i hi=>hs i (.inr (by omega))) (fun i hi e=>by rw [ho i hi trivial]; exact e),
  fun g hg'=>(h.fts g hg').keep hg h1 o1,fun t ht g hg'=>(h.tfs t ht g hg').keep hg h1 o1,h.short,fun i hi=>by rw [ho i (Nat.lt_trans hi (row_lt h.blk)) trivial]; exact h.low i hi⟩
theorem LastAt.keep {U U':Nat→Nat} {q b ru jn:Nat} {e:En} {tv wv:Value} {w w':World} {S:Nat→Prop} (h:LastAt U q b ru jn e tv wv w) (hg:GrS S w w') (hs:∀ i,(U i=1∨(4+3 * q≤U i∧U i < 7+3 * q))→¬ S i) (ho:∀ i,i < w.heap.size→True→U' i=U i):LastAt U' q b ru jn e tv wv w':=by
 have h1:∀ i,U i=1→¬ S i:=fun i hi=>hs i (.inl hi)
 have o1:∀ i,i < w.heap.size→U i=1→U' i=1:=fun i hi e=>by rw [ho i hi trivial]; exact e
 exact ⟨hg.blk h.blk (hs b (.inr (by have:=h.own; omega))),by rw [ho b (row_lt h.blk) trivial]; exact h.own,
  h.toks.keep2 hg (fun i hi=>hs i (.inr (by omega))) (fun i hi e=>by rw [ho i hi trivial]; exact e),h.wait.keep2 hg (fun i hi=>hs i (.inr (by omega))) (fun i hi e=>by rw [ho i hi trivial]; exact e),
  fun t ht g hg'=>(h.tfs t ht g hg').keep hg h1 o1,fun t ht g hg'=>(h.wfs t ht g hg').keep hg h1 o1,fun i hi=>by rw [ho i (Nat.lt_trans hi (row_lt h.blk)) trivial]; exact h.low i hi⟩
theorem SufAt.keep {U U':Nat→Nat} {ru jn:Nat} {w w':World} {S:Nat→Prop} (hg:GrS S w w'):∀ {ns:List Nd} {q k:Nat} {e:En} {hd:Value},SufAt U ru jn q k ns e hd w→
  (∀ i,(U i=1∨(4+3 * q≤U i∧U i < 7+3 * (q+ns.length)))→¬ S i)→(∀ i,i < w.heap.size→True→U' i=U i)→SufAt U' ru jn q k ns e hd w'
 | [],_,_,_,_,⟨b,tv,wv,h1,h2⟩,hs,ho=>⟨b,tv,wv,h1,h2.keep hg (fun i hi=>hs i (by simpa using hi)) ho⟩
 | n :: ns,_,_,_,_,⟨b,nx,tv,lv,ov,fv,h1,h2,h3⟩,hs,ho=>⟨b,nx,tv,lv,ov,fv,h1,h2.keep hg (fun i hi=>hs i (by rw [List.length_cons]; omega)) ho,
  SufAt.keep hg h3 (fun i hi=>hs i (by rw [List.length_cons]; omega)) ho⟩
theorem SufAt.gr {U:Nat→Nat} {ru jn:Nat} {w w':World} {ns:List Nd} {q k:Nat} {e:En} {hd:Value} (h:SufAt U ru jn q k ns e hd w) (hg:w.grownBy w' none):SufAt U ru jn q k ns e hd w':=
 h.keep (S:=fun _=>False) (GrS.of hg (by simp)) (by simp) (fun _ _ _=>rfl)
theorem ndCells_cell {n:Nd} {k:Nat} {tv lv ov fv nx:Value} (j:Nat) (hj:j < 6):(ndCells n k tv lv ov fv nx)[j]?=#[.int .i64 n.c.kind,tv,lv,ov,fv,nx][j]?:=by
 unfold ndCells
 split
 ·rfl
 ·have:j=0∨j=1∨j=2∨j=3∨j=4∨j=5:=by omega
  rcases this with rfl | rfl | rfl | rfl | rfl | rfl<;>rfl
theorem NodeAt.cell {U:Nat→Nat} {q k b:Nat} {n:Nd} {nx tv lv ov fv:Value} {w:World} (h:NodeAt U q k b n nx tv lv ov fv w) (j:Nat) (hj:j < 6):w.cell? ⟨b,j,none⟩=#[Value.int .i64 n.c.kind,tv,lv,ov,fv,nx][j]?:=by
 rw [←ndCells_cell (n:=n) (k:=k) j hj]
 simp [World.cell?,h.blk]
theorem NodeAt.cd {U:Nat→Nat} {q k b:Nat} {n:Nd} {nx tv lv ov fv:Value} {w:World} (h:NodeAt U q k b n nx tv lv ov fv w):CdAt U b 0 n.c n.links w:=
 ⟨h.cell 0 (by omega),⟨tv,h.cell 1 (by omega),h.terms⟩,⟨lv,h.cell 2 (by omega),h.links⟩,h.short⟩
theorem NodeAt.place {U:Nat→Nat} {q k b:Nat} {n:Nd} {nx tv lv ov fv:Value} {w:World} (h:NodeAt U q k b n nx tv lv ov fv w) (hn:n.c.neg=false):w.cell? ⟨b,6,none⟩=some (.int .i64 k):=by
 have hb:=h.blk
 unfold ndCells at hb
 rw [if_neg (by simp [hn])] at hb
 simp [World.cell?,hb]
theorem NodeAt.fz {U:Nat→Nat} {q k b:Nat} {n:Nd} {nx tv lv ov fv:Value} {w:World} (h:NodeAt U q k b n nx tv lv ov fv w) (j:Nat):w.frozen? ⟨b,j,none⟩=false:=by simp [World.frozen?,h.blk]
def HasAr (A:List Nat) (t:Tok):Prop:=t.map (fun g=>g.f.vals.length)=A
theorem HasAr.len {A:List Nat} {t:Tok} (h:HasAr A t):t.length=A.length:=by rw [←h,List.length_map]
theorem HasAr.get {A:List Nat} {t:Tok} (h:HasAr A t) {i a:Nat} (hi:A[i]?=some a):∃ g,t[i]?=some g∧g.f.vals.length=a:=by
 rw [←h,List.getElem?_map] at hi
 cases hg:t[i]? with
 | none=>rw [hg] at hi; simp at hi
 | some g=>rw [hg] at hi; simp at hi; exact ⟨g,rfl,hi⟩
theorem HasAr.snoc {A:List Nat} {t:Tok} (h:HasAr A t) (g:Ft):HasAr (A ++ [g.f.vals.length]) (t ++ [g]):=by
 unfold HasAr at h ⊢
 rw [List.map_append,h]
 rfl
def WF:List Nat→List Nd→Prop
 | A,[]=>A.length≤4
 | A,n :: ns=>(A.length+(if n.c.neg=true then 0 else 1)≤4)∧(∀ l∈n.links,l.place < n.c.terms.length∧∃ a,A[l.at'.fact]?=some a∧l.at'.place < a)∧(∀ g∈n.K,g.f.vals.length=n.c.terms.length)∧(∀ t∈n.toks,HasAr A t)∧WF (if n.c.neg=true then A else A ++ [n.c.terms.length]) ns
theorem WF.le:∀ {ns:List Nd} {A:List Nat},WF A ns→A.length≤4
 | [],_,h=>h
 | _ :: _,_,h=>by have:=h.1; omega
theorem WF.arr:∀ {ns:List Nd} {A:List Nat} {e:En} {ts:List Tok},WF A ns→(∀ t∈ts,HasAr A t)→WF A (arr ns e ts).1
 | [],_,_,_,h,_=>h
 | n :: ns,A,e,ts,h,ht=>by
  obtain ⟨h1,h2,h3,h4,h5⟩:=h
  refine ⟨h1,h2,h3,?_,?_⟩
  ·intro t hm
   rcases List.mem_append.1 hm with hm | hm
   ·exact h4 t hm
   ·exact ht t hm
  ·refine WF.arr (ns:=ns) h5 ?_
   intro u hu
   obtain ⟨t,hm,hx⟩:=List.mem_flatMap.1 hu
   have:=ht t hm
   unfold Nd.ext at hx
   by_cases hn:n.c.neg=true
   ·rw [if_pos hn] at hx ⊢
    split at hx
    ·simp at hx
    ·simp at hx; rw [hx]; exact this
   ·rw [if_neg hn] at hx ⊢
    obtain ⟨g,hg,rfl⟩:=List.mem_map.1 hx
    have hk:=h3 g (List.mem_filter.1 hg).1
    rw [←hk]
    exact this.snoc g
theorem WF.fit {A:List Nat} {n:Nd} {ns:List Nd} (h:WF A (n :: ns)) {t:Tok} (ht:HasAr A t) {f:Ft} (hf:f.f.vals.length=n.c.terms.length):∀ l∈n.links,l.place < f.f.vals.length∧∃ g,t[l.at'.fact]?=some g∧l.at'.place < g.f.vals.length:=by
 intro l hl
 obtain ⟨h1,a,h2,h3⟩:=h.2.1 l hl
 obtain ⟨g,hg,he⟩:=ht.get h2
 exact ⟨by rw [hf]; exact h1,g,hg,by rw [he]; exact h3⟩
end Go.Proofs.YtolhbeekfjnfmaaGreatDoor
namespace Go.Proofs.YtolhbeekfjnfmaaGreatDoor
open Go.RowKit
def TC (U:Nat→Nat) (p:Option Addr) (i:Int) (w:World):Prop:=(p=none∧i=0)∨∃ g,p=some ⟨g.blk,0,none⟩∧i=g.id∧FtAt U g w
theorem TC.gr {U:Nat→Nat} {p:Option Addr} {i:Int} {w w':World} (h:TC U p i w) (hg:w.grownBy w' none):TC U p i w':=by
 rcases h with h | ⟨g,h1,h2,h3⟩
 ·exact .inl h
 ·exact .inr ⟨g,h1,h2,h3.gr hg⟩
theorem tok_cells {U:Nat→Nat} {t:Tok} {w:World} (h4:t.length≤4) (hf:∀ g∈t,FtAt U g w):∃ p0 p1 p2 p3 i0 i1 i2 i3,tokEnc t=[.pointer p0,.pointer p1,.pointer p2,.pointer p3]∧t.nums=[i0,i1,i2,i3]∧TC U p0 i0 w∧TC U p1 i1 w∧TC U p2 i2 w∧TC U p3 i3 w:=by
 have yes:∀ g∈t,TC U (some ⟨g.blk,0,none⟩) g.id w:=fun g hg=>.inr ⟨g,rfl,rfl,hf g hg⟩
 have no:TC U none 0 w:=.inl ⟨rfl,rfl⟩
 match t,h4 with
 | [],_=>exact ⟨none,none,none,none,0,0,0,0,rfl,rfl,no,no,no,no⟩
 | [a],_=>exact ⟨_,none,none,none,_,0,0,0,rfl,rfl,yes a (by simp),no,no,no⟩
 | [a,b],_=>exact ⟨_,_,none,none,_,_,0,0,rfl,rfl,yes a (by simp),yes b (by simp),no,no⟩
 | [a,b,c],_=>exact ⟨_,_,_,none,_,_,_,0,rfl,rfl,yes a (by simp),yes b (by simp),yes c (by simp),no⟩
 | [a,b,c,d],_=>exact ⟨_,_,_,_,_,_,_,_,rfl,rfl,yes a (by simp),yes b (by simp),yes c (by simp),yes d (by simp)⟩
 | _ :: _ :: _ :: _ :: _ :: _,h=>simp at h
def A4 (b:Nat) (a0 a1 a2 a3:Int) (w:World):Prop:=w.heap[b]?=some (.cells #[.int .i64 a0,.int .i64 a1,.int .i64 a2,.int .i64 a3] 39 (0,0))
theorem A4.c {b:Nat} {a0 a1 a2 a3:Int} {w:World} (h:A4 b a0 a1 a2 a3 w):w.cell? ⟨b,0,none⟩=some (.int .i64 a0)∧w.cell? ⟨b,1,none⟩=some (.int .i64 a1)∧w.cell? ⟨b,2,none⟩=some (.int .i64 a2)∧w.cell? ⟨b,3,none⟩=some (.int .i64 a3)∧(∀ j,w.frozen? ⟨b,j,none⟩=false):=by
 unfold A4 at h
 simp [World.cell?,World.frozen?,h]
theorem A4.gr {b:Nat} {a0 a1 a2 a3:Int} {w w':World} {row:Option Nat} (h:A4 b a0 a1 a2 a3 w) (hg:w.grownBy w' row) (hr:row≠some b):A4 b a0 a1 a2 a3 w':=by
 unfold A4 at h ⊢
 rw [hg.block b (row_lt h) (fun e=>hr e.symm)]
 exact h
theorem A4.set1 {b:Nat} {a0 a1 a2 a3:Int} {w:World} (x:Int) (h:A4 b a0 a1 a2 a3 w):A4 b a0 x a2 a3 (w.setCell ⟨b,1,none⟩ (.int .i64 x)):=by
 unfold A4
 rw [heap_setCell_same _ _ _ _ _ _ h]
 rfl
theorem A4.set2 {b:Nat} {a0 a1 a2 a3:Int} {w:World} (x:Int) (h:A4 b a0 a1 a2 a3 w):A4 b a0 a1 x a3 (w.setCell ⟨b,2,none⟩ (.int .i64 x)):=by
 unfold A4
 rw [heap_setCell_same _ _ _ _ _ _ h]
 rfl
theorem A4.set3 {b:Nat} {a0 a1 a2 a3:Int} {w:World} (x:Int) (h:A4 b a0 a1 a2 a3 w):A4 b a0 a1 a2 x (w.setCell ⟨b,3,none⟩ (.int .i64 x)):=by
 unfold A4
 rw [heap_setCell_same _ _ _ _ _ _ h]
 rfl
def pickI (k:Nat) (j:Nat) (i:Int):Int:=if j < k then i else 0
set_option maxRecDepth 100000 in
set_option maxHeartbeats 2000000 in
theorem numbers_w (U:Nat→Nat) (p0 p1 p2 p3:Option Addr) (i0 i1 i2 i3:Int) (w:World) (h0:TC U p0 i0 w) (h1:TC U p1 i1 w) (h2:TC U p2 i2 w) (h3:TC U p3 i3 w) :
  Calls Tryz.prog 109 #[.agg #[.pointer p0,.pointer p1,.pointer p2,.pointer p3]] w fun e w'=>e=.returned (.agg #[.int .i64 i0,.int .i64 i1,.int .i64 i2,.int .i64 i3])∧
   w'=((w.alloc (.cells #[.pointer p0,.pointer p1,.pointer p2,.pointer p3] 139)).alloc (.cells #[.int .i64 i0,.int .i64 i1,.int .i64 i2,.int .i64 i3] 39)).alloc (.cells #[.int .i64 i0,.int .i64 i1,.int .i64 i2,.int .i64 i3] 39):=by
 have H0:=hide h0
 have H1:=hide h1
 have H2:=hide h2
 have H3:=hide h3
 clear h0 h1 h2 h3
 have x0:∀ (q0 q1 q2 q3:Option Addr) w,(Instr.index 139 (.agg #[.pointer q0,.pointer q1,.pointer q2,.pointer q3]) (.int .i64 0)).run Tryz.prog w=.ok (.pointer q0) w:=fun _ _ _ _ _=>by kernel_rfl
 have x1:∀ (q0 q1 q2 q3:Option Addr) w,(Instr.index 139 (.agg #[.pointer q0,.pointer q1,.pointer q2,.pointer q3]) (.int .i64 1)).run Tryz.prog w=.ok (.pointer q1) w:=fun _ _ _ _ _=>by kernel_rfl
 have x2:∀ (q0 q1 q2 q3:Option Addr) w,(Instr.index 139 (.agg #[.pointer q0,.pointer q1,.pointer q2,.pointer q3]) (.int .i64 2)).run Tryz.prog w=.ok (.pointer q2) w:=fun _ _ _ _ _=>by kernel_rfl
 have x3:∀ (q0 q1 q2 q3:Option Addr) w,(Instr.index 139 (.agg #[.pointer q0,.pointer q1,.pointer q2,.pointer q3]) (.int .i64 3)).run Tryz.prog w=.ok (.pointer q3) w:=fun _ _ _ _ _=>by kernel_rfl
 go_enter Tryz.func109,Tryz.ntmps109
 go_wp2
 go_loopw [7] (fun x w'=>∃ k:Nat,k≤4∧x=.int .i64 k∧w'=((w.alloc (.cells #[.pointer p0,.pointer p1,.pointer p2,.pointer p3] 139)).alloc (.cells #[.int .i64 0,.int .i64 0,.int .i64 0,.int .i64 0] 39)).alloc (.cells #[.int .i64 (pickI k 0 i0),.int .i64 (pickI k 1 i1),.int .i64 (pickI k 2 i2),.int .i64 (pickI k 3 i3)] 39)) (fun x _=>4 - (intOf x).toNat)
 case atStart=>exact ⟨0,by omega,rfl,by simp [pickI]⟩
 case round=>
  obtain ⟨k,hk,rfl,rfl⟩:=hrel
  have hk4:k=0∨k=1∨k=2∨k=3∨k=4:=by omega
  rcases hk4 with rfl | rfl | rfl | rfl | rfl
  ·rcases unhide H0 with ⟨rfl,rfl⟩ | ⟨g,rfl,rfl,hF⟩
   ·go_wp2
    go_roundw
    case rel=>exact ⟨1,by omega,by go_num,by simp [pickI]⟩
    case measure=>simp [intOf]
   ·obtain ⟨_,_,v,fb,_⟩:=hF
    have f2:w.cell? ⟨g.blk,2,none⟩=some (.int .i64 g.id):=by simp [World.cell?,fb]
    have hlt:=row_lt fb
    clear fb
    have f3:∀ o1 o2 o3,(((w.alloc o1).alloc o2).alloc o3).cell? ⟨g.blk,2,none⟩=some (.int .i64 g.id):=fun o1 o2 o3=>(gr_trans (gr_al2 w o1 o2) (World.grownBy_alloc _ o3 none)).cell f2 (by simp)
    simp only [pickI,Nat.not_lt_zero,if_false,Nat.lt_irrefl]
    go_wp2
    go_roundw
    case rel=>exact ⟨1,by omega,by go_num,by simp⟩
    case measure=>simp [intOf]
  ·rcases unhide H1 with ⟨rfl,rfl⟩ | ⟨g,rfl,rfl,hF⟩
   ·go_wp2
    go_roundw
    case rel=>exact ⟨2,by omega,by go_num,by simp [pickI]⟩
    case measure=>simp [intOf]
   ·obtain ⟨_,_,v,fb,_⟩:=hF
    have f2:w.cell? ⟨g.blk,2,none⟩=some (.int .i64 g.id):=by simp [World.cell?,fb]
    have hlt:=row_lt fb
    clear fb
    have f3:∀ o1 o2 o3,(((w.alloc o1).alloc o2).alloc o3).cell? ⟨g.blk,2,none⟩=some (.int .i64 g.id):=fun o1 o2 o3=>(gr_trans (gr_al2 w o1 o2) (World.grownBy_alloc _ o3 none)).cell f2 (by simp)
    simp only [pickI,if_false,Nat.reduceLT,if_true,Nat.lt_irrefl]
    go_wp2
    go_roundw
    case rel=>exact ⟨2,by omega,by go_num,by simp⟩
    case measure=>simp [intOf]
  ·rcases unhide H2 with ⟨rfl,rfl⟩ | ⟨g,rfl,rfl,hF⟩
   ·go_wp2
    go_roundw
    case rel=>exact ⟨3,by omega,by go_num,by simp [pickI]⟩
    case measure=>simp [intOf]
   ·obtain ⟨_,_,v,fb,_⟩:=hF
    have f2:w.cell? ⟨g.blk,2,none⟩=some (.int .i64 g.id):=by simp [World.cell?,fb]
    have hlt:=row_lt fb
    clear fb
    have f3:∀ o1 o2 o3,(((w.alloc o1).alloc o2).alloc o3).cell? ⟨g.blk,2,none⟩=some (.int .i64 g.id):=fun o1 o2 o3=>(gr_trans (gr_al2 w o1 o2) (World.grownBy_alloc _ o3 none)).cell f2 (by simp)
    simp only [pickI,if_false,Nat.reduceLT,if_true,Nat.lt_irrefl]
    go_wp2
    go_roundw
    case rel=>exact ⟨3,by omega,by go_num,by simp⟩
    case measure=>simp [intOf]
  ·rcases unhide H3 with ⟨rfl,rfl⟩ | ⟨g,rfl,rfl,hF⟩
   ·go_wp2
    go_roundw
    case rel=>exact ⟨4,by omega,by go_num,by simp [pickI]⟩
    case measure=>simp [intOf]
   ·obtain ⟨_,_,v,fb,_⟩:=hF
    have f2:w.cell? ⟨g.blk,2,none⟩=some (.int .i64 g.id):=by simp [World.cell?,fb]
    have hlt:=row_lt fb
    clear fb
    have f3:∀ o1 o2 o3,(((w.alloc o1).alloc o2).alloc o3).cell? ⟨g.blk,2,none⟩=some (.int .i64 g.id):=fun o1 o2 o3=>(gr_trans (gr_al2 w o1 o2) (World.grownBy_alloc _ o3 none)).cell f2 (by simp)
    simp only [pickI,if_false,Nat.reduceLT,if_true,Nat.lt_irrefl]
    go_wp2
    go_roundw
    case rel=>exact ⟨4,by omega,by go_num,by simp⟩
    case measure=>simp [intOf]
  ·simp only [pickI]
   go_wp2
   refine bodyPost_ret (v:=.agg #[.int .i64 i0,.int .i64 i1,.int .i64 i2,.int .i64 i3]) (by simp [results,Tryz.results109,go_sem]) rfl ⟨rfl,rfl⟩
end Go.Proofs.YtolhbeekfjnfmaaGreatDoor
namespace Go.Proofs.YtolhbeekfjnfmaaGreatDoor
open Go.RowKit
set_option maxHeartbeats 400000 in
theorem isNaN_w (a:Int) (w:World):Calls Tryz.prog 165 #[.int .i64 a] w fun e w'=>e=.returned (.bool false)∧w.grownBy w' none:=by
 go_enter Tryz.func165,Tryz.ntmps165
 have hd:(a != a)=false:=by simp
 go_wp2
 all_goals first | (go_ret; exact ⟨rfl,World.grownBy.refl _ _⟩) | skip
 all_goals
  go_quiet (fail)
  go_wp2
  go_ret
  exact ⟨rfl,gr_drewN _ _ _⟩
def cmpI (a b:Int):Int:=if a < b then -1 else if b < a then 1 else 0
set_option maxRecDepth 100000 in
set_option maxHeartbeats 1000000 in
theorem cmpI_w (a b:Int) (w:World):Calls Tryz.prog 144 #[.int .i64 a,.int .i64 b] w fun e w'=>e=.returned (.int .i64 (cmpI a b))∧w.grownBy w' none:=by
 have hN1:=isNaN_w a w
 go_enter Tryz.func144,Tryz.ntmps144
 go_wp2_with fail
 refine hN1.mono ?_
 rintro e w1 ⟨rfl,hg1⟩
 have hN2:=isNaN_w b w1
 clear hN1
 go_wp2_with fail
 refine hN2.mono ?_
 rintro e w2 ⟨rfl,hg2⟩
 have hg:=gr_trans hg1 hg2
 clear hN2 hg1 hg2
 by_cases h1:a < b
 ·have hd:decide (a < b)=true:=by simpa using h1
  have HE:=hide (show cmpI a b=-1 from by unfold cmpI; rw [if_pos h1])
  go_wp2
  go_ret
  exact ⟨by rw [unhide HE]; rfl,hg⟩
 ·have hd:decide (a < b)=false:=by simpa using h1
  by_cases h2:b < a
  ·have hd2:decide (b < a)=true:=by simpa using h2
   have HE:=hide (show cmpI a b=1 from by unfold cmpI; rw [if_neg h1,if_pos h2])
   go_wp2
   go_ret
   exact ⟨by rw [unhide HE]; rfl,hg⟩
  ·have hd2:decide (b < a)=false:=by simpa using h2
   have HE:=hide (show cmpI a b=0 from by unfold cmpI; rw [if_neg h1,if_neg h2])
   go_wp2
   go_ret
   exact ⟨by rw [unhide HE]; rfl,hg⟩
theorem cmpL_cons (a b:Int) (x y:List Int):cmpL (a :: x) (b :: y)=if cmpI a b=0 then cmpL x y else cmpI a b:=by
 show (if a < b then (-1:Int) else if b < a then 1 else cmpL x y)=_
 unfold cmpI
 by_cases h1:a < b
 ·rw [if_pos h1,if_pos h1]; rfl
 ·rw [if_neg h1,if_neg h1]
  by_cases h2:b < a
  ·rw [if_pos h2,if_pos h2]; rfl
  ·rw [if_neg h2,if_neg h2,if_pos rfl]
set_option maxRecDepth 100000 in
set_option maxHeartbeats 1000000 in
theorem sCmp_w (v u:Value) (x y:List Int) (w:World) (hx:InAt v x w) (hy:InAt u y w) :
  Calls Tryz.prog 111 #[v,u] w fun e w'=>e=.returned (.int .i64 (cmpL x y))∧w.grownBy w' none:=by
 obtain ⟨va,vc,rfl⟩:=hx.slice
 obtain ⟨ua,uc,rfl⟩:=hy.slice
 have lx:=hx.le
 have ly:=hy.le
 unfold maxLen at lx ly
 obtain ⟨R,hR⟩:∃ R,cmpL x y=R:=⟨_,rfl⟩
 rw [hR]
 have HR:=hide hR
 have HX:=hide hx
 have HY:=hide hy
 clear hR hx hy
 go_enter Tryz.func111,Tryz.ntmps111
 go_wp2
 go_loopw [11] (fun z w'=>∃ k:Nat,k≤x.length∧k≤y.length∧z=.int .i64 k∧cmpL (x.drop k) (y.drop k)=R∧w.grownBy w' none) (fun z _=>x.length - (intOf z).toNat)
 case atStart=>exact ⟨0,Nat.zero_le _,Nat.zero_le _,rfl,unhide HR,World.grownBy.refl _ _⟩
 case round=>
  clear HR
  obtain ⟨k,hk,hk2,rfl,hr,hg⟩:=hrel
  by_cases hlt:k < x.length
  ·have hd:decide (k < x.length)=true:=by simpa using hlt
   obtain ⟨a,ha⟩:∃ a,x[k]?=some a:=⟨_,List.getElem?_eq_getElem hlt⟩
   obtain ⟨g,off,e1,c1⟩:=((unhide HX).gr hg).cell ha
   subst e1
   rw [drop_get ha] at hr
   by_cases hly:k < y.length
   ·have hd2:decide ((y.length:Int)≤(k:Int))=false:=by simp; omega
    obtain ⟨b,hb⟩:∃ b,y[k]?=some b:=⟨_,List.getElem?_eq_getElem hly⟩
    obtain ⟨g2,off2,e2,c2⟩:=((unhide HY).gr hg).cell hb
    subst e2
    rw [drop_get hb,cmpL_cons] at hr
    have hC:=cmpI_w a b wr
    obtain ⟨r,hr1⟩:∃ r,cmpI a b=r:=⟨_,rfl⟩
    rw [hr1] at hr hC
    have HR:=hide hr
    clear hr hr1 ha hb
    go_wp2_with fail
    refine hC.mono ?_
    rintro e w1 ⟨rfl,hg1⟩
    have hgc:=gr_trans hg hg1
    clear hg1 hC
    have hr:=unhide HR
    by_cases h0:r=0
    ·have hd3:(r != 0)=false:=by simpa using h0
     rw [if_pos h0] at hr
     have HR2:=hide hr
     clear hr HR h0
     go_wp2
     go_roundw
     case rel=>exact ⟨k+1,by omega,by omega,by go_num,unhide HR2,hgc⟩
     case measure=>simp [intOf]; omega
    ·have hd3:(r != 0)=true:=by simpa using h0
     rw [if_neg h0] at hr
     subst hr
     clear HR h0
     go_wp2
     go_ret
     exact ⟨rfl,hgc⟩
   ·have hd2:decide ((y.length:Int)≤(k:Int))=true:=by simp; omega
    have e:y.drop k=[]:=List.drop_of_length_le (by omega)
    rw [e] at hr
    have hr2:1=R:=hr
    subst hr2
    clear e hr ha
    go_wp2
    go_ret
    exact ⟨rfl,hg⟩
  ·have hd:decide (k < x.length)=false:=by simpa using hlt
   have e:x.drop k=[]:=List.drop_of_length_le (by omega)
   rw [e] at hr
   by_cases hly:x.length < y.length
   ·have hd2:decide ((x.length:Int) < (y.length:Int))=true:=by simp; omega
    obtain ⟨b,hb⟩:∃ b,y[k]?=some b:=⟨_,List.getElem?_eq_getElem (by omega)⟩
    rw [drop_get hb] at hr
    have hr2:-1=R:=hr
    subst hr2
    clear e hr hb
    go_wp2
    go_ret
    exact ⟨rfl,hg⟩
   ·have hd2:decide ((x.length:Int) < (y.length:Int))=false:=by simp; omega
    have e2:y.drop k=[]:=List.drop_of_length_le (by omega)
    rw [e2] at hr
    have hr2:0=R:=hr
    subst hr2
    clear e e2 hr
    go_wp2
    go_ret
    exact ⟨rfl,hg⟩
end Go.Proofs.YtolhbeekfjnfmaaGreatDoor
